import PyProof.Rows.All
import Wide.All
import OpenK.AllK
import Wide.FinOn
import HandS.ForMost
import HandS.Conv
import HandS.TupAny
import HandS.Wide
import HandS.Lambda
import HandS.Nested
import KE.KDflt
import HandS.ExcOwn
import KE.GoesComp
import KE.GoesMore
import HandS.TupLe
import HandS.Deep
import HandS.SetFor
import HandS.ExcIs
import HandS.RaiseMore
import HandS.FStr
import HandS.WordsExc
import KE.KExcIs
import HandS.ExcField
import HandS.Style
import KE.GoesEnum
import HandS.Walk
import HandS.Zip
import HandS.Comp
import HandS.SortKw
import HandS.List
import KE.DataMinMax
import HandS.SortRule
import HandS.ClsMeth
import HandS.Iter
import HandS.Exc
import HandS.ExcInit
import HandS.New
import HandS.HeadHook2
import KE.DataCmp
import HandS.HeadWalk
import HandS.EndOwn
import HandS.SortInts
import HandS.IsInst
import HandS.Head0
import HandS.Head1
import HandS.Head2
import HandS.Head3
import HandS.HeadEnd
import HandS.HeadHook1
import PySem.Challenge.RW_onebreath_k29_whole_machines_called_othe
set_option Elab.async false
set_option linter.all false
set_option maxRecDepth 100000
set_option maxHeartbeats 0
namespace Obr
open PySem L2

/-! ### 1. A heap F that is spoken of, and what is hidden of the true heap H: J s F H, s the state of what is hidden -/
structure Hid {S : Type} (J : S → Hp → Hp → Prop) : Prop where
  ex : ∀ {s F H}, J s F H → ∀ a o, F a = some o → H a = some o
  al : ∀ {s F H p o}, J s F H → H p = none → J s (upd F p o) (upd H p o)
  mu : ∀ {s F H a o o'}, J s F H → F a = some o → J s (upd F a o') (upd H a o')

section
variable {S : Type} {J : S → Hp → Hp → Prop}
theorem Hid.fresh (hd : Hid J) {s F H p} (j : J s F H) (h : H p = none) : F p = none := by
  cases e : F p with
  | none => rfl
  | some o =>
    rw [hd.ex j _ _ e] at h
    cases h
theorem Hid.sqL (hd : Hid J) {s F H} (j : J s F H) {K a xs} (h : SqL K F a xs) : SqL K H a xs := by
  rcases h with (h | ⟨o, h⟩) | h
  · exact Or.inl (Or.inl (hd.ex j _ _ h))
  · exact Or.inl (Or.inr ⟨o, hd.ex j _ _ h⟩)
  · exact Or.inr h
theorem Hid.sqT (hd : Hid J) {s F H} (j : J s F H) {K a xs} (h : SqT K F a xs) : SqT K H a xs := by
  rcases h with (h | ⟨o, h⟩) | h
  · exact Or.inl (Or.inl (hd.ex j _ _ h))
  · exact Or.inl (Or.inr ⟨o, hd.ex j _ _ h⟩)
  · exact Or.inr h
end
/-- nothing hidden -/
theorem hid_eq : Hid (fun (_ : Unit) F H => F = H) where
  ex := fun {s F H} j a o h => by cases j; exact h
  al := fun {s F H p o} j h => by cases j; rfl
  mu := fun {s F H a o o'} j h => by cases j; rfl

/-! ### 2. What a reading comes to, over F -/
def EW {S : Type} (J : S → Hp → Hp → Prop) (te : TE) (σ : L2.St) (s : S) (F : Hp) (R : V → S → Hp → Prop) : Prop :=
  ∀ H, J s F H → ∀ Q : VK, (∀ v s' F' H', J s' F' H' → R v s' F' → Q v H') → te σ H Q
def TW {S : Type} (J : S → Hp → Hp → Prop) (tt : TT) (σ : L2.St) (s : S) (F : Hp) (R : Bool → S → Hp → Prop) : Prop :=
  ∀ H, J s F H → ∀ Q : Bool → Hp → Prop, (∀ b s' F' H', J s' F' H' → R b s' F' → Q b H') → tt σ H Q
def AW {S : Type} (J : S → Hp → Hp → Prop) (ta : TA) (σ : L2.St) (s : S) (F : Hp) (R : List V → S → Hp → Prop) : Prop :=
  ∀ H, J s F H → ∀ Q : List V → Hp → Prop, (∀ vs s' F' H', J s' F' H' → R vs s' F' → Q vs H') → ta σ H Q
def OW {S : Type} (J : S → Hp → Hp → Prop) (to : TO) (σ : L2.St) (s : S) (F : Hp) (R : Option Int → S → Hp → Prop) : Prop :=
  ∀ H, J s F H → ∀ Q : Option Int → Hp → Prop, (∀ o s' F' H', J s' F' H' → R o s' F' → Q o H') → to σ H Q
/-- an operation on values -/
def RW {S : Type} (J : S → Hp → Hp → Prop) (r : R2) (x y : V) (s : S) (F : Hp) (R : V → S → Hp → Prop) : Prop :=
  ∀ H, J s F H → ∀ Q : VK, (∀ v s' F' H', J s' F' H' → R v s' F' → Q v H') → r x y H Q
def UW {S : Type} (J : S → Hp → Hp → Prop) (r : V → Hp → VK → Prop) (x : V) (s : S) (F : Hp) (R : V → S → Hp → Prop) : Prop :=
  ∀ H, J s F H → ∀ Q : VK, (∀ v s' F' H', J s' F' H' → R v s' F' → Q v H') → r x H Q
def CW {S : Type} (J : S → Hp → Hp → Prop) (r : List V → Hp → VK → Prop) (vs : List V) (s : S) (F : Hp) (R : V → S → Hp → Prop) : Prop :=
  ∀ H, J s F H → ∀ Q : VK, (∀ v s' F' H', J s' F' H' → R v s' F' → Q v H') → r vs H Q
def MW {S : Type} (J : S → Hp → Hp → Prop) (r : V → List V → Hp → VK → Prop) (x : V) (vs : List V) (s : S) (F : Hp) (R : V → S → Hp → Prop) : Prop :=
  ∀ H, J s F H → ∀ Q : VK, (∀ v s' F' H', J s' F' H' → R v s' F' → Q v H') → r x vs H Q
def GW {S : Type} (J : S → Hp → Hp → Prop) (g : TG) (x : V) (σ : L2.St) (s : S) (F : Hp) (N : L2.St → S → Hp → Prop) : Prop :=
  ∀ H, J s F H → ∀ Q : L2.St → Hp → Prop, (∀ σ' s' F' H', J s' F' H' → N σ' s' F' → Q σ' H') → g x σ H Q
def GsW {S : Type} (J : S → Hp → Hp → Prop) (g : TGs) (xs : List V) (σ : L2.St) (s : S) (F : Hp) (N : L2.St → S → Hp → Prop) : Prop :=
  ∀ H, J s F H → ∀ Q : L2.St → Hp → Prop, (∀ σ' s' F' H', J s' F' H' → N σ' s' F' → Q σ' H') → g xs σ H Q
/-- where a statement may go, over F -/
structure En (S : Type) where
  nx : L2.St → S → Hp → Prop
  rt : V → S → Hp → Prop
  bk : L2.St → S → Hp → Prop := fun _ _ _ => False
  ct : L2.St → S → Hp → Prop := fun _ _ _ => False
structure Lf {S : Type} (J : S → Hp → Hp → Prop) (D : En S) (D' : Ends) : Prop where
  nx : ∀ σ s F H, J s F H → D.nx σ s F → D'.nx σ H
  rt : ∀ v s F H, J s F H → D.rt v s F → D'.rt v H
  bk : ∀ σ s F H, J s F H → D.bk σ s F → D'.bk σ H
  ct : ∀ σ s F H, J s F H → D.ct σ s F → D'.ct σ H
def SW {S : Type} (J : S → Hp → Hp → Prop) (t : TS) (D : En S) (σ : L2.St) (s : S) (F : Hp) : Prop := ∀ H, J s F H → ∀ D' : Ends, Lf J D D' → t D' σ H

section
variable {S : Type} {J : S → Hp → Hp → Prop} {K : PySem.W.Frag} {σ : L2.St} {s : S} {F : Hp} {R : V → S → Hp → Prop} {ta tb te : TE} {tr : TA} {x y v : V}

theorem EW.imp {R' : V → S → Hp → Prop} (h : EW J te σ s F R) (i : ∀ v s' F', R v s' F' → R' v s' F') : EW J te σ s F R' := fun H j Q q => h H j Q fun v s' F' H' j' r => q v s' F' H' j' (i _ _ _ r)

/-! expressions -/
theorem ew_var {i : Nat} (h : σ[i]? = some (some v)) (k : R v s F) : EW J (tVar i) σ s F R := fun H j Q q => ⟨v, h, q v s F H j k⟩
theorem ew_c (k : R v s F) : EW J (tC v) σ s F R := fun H j Q q => q v s F H j k
theorem ew_op {r : R2} (h : EW J ta σ s F fun x s1 F1 => EW J tb σ s1 F1 fun y s2 F2 => RW J r x y s2 F2 R) : EW J (tOp r ta tb) σ s F R := fun H j Q q =>
  h H j _ fun x s1 F1 H1 j1 h1 => h1 H1 j1 _ fun y s2 F2 H2 j2 h2 => h2 H2 j2 Q q
theorem ew_un {r : V → Hp → VK → Prop} (h : EW J ta σ s F fun x s1 F1 => UW J r x s1 F1 R) : EW J (tUn r ta) σ s F R := fun H j Q q =>
  h H j _ fun x s1 F1 H1 j1 h1 => h1 H1 j1 Q q
theorem ew_cb {r : List V → Hp → VK → Prop} (h : AW J tr σ s F fun vs s1 F1 => CW J r vs s1 F1 R) : EW J (tCB r tr) σ s F R := fun H j Q q =>
  h H j _ fun vs s1 F1 H1 j1 h1 => h1 H1 j1 Q q
theorem aw_nil {R : List V → S → Hp → Prop} (k : R [] s F) : AW J tNil σ s F R := fun H j Q q => q [] s F H j k
theorem aw_cons {R : List V → S → Hp → Prop} (h : EW J te σ s F fun x s1 F1 => AW J tr σ s1 F1 fun vs s2 F2 => R (x :: vs) s2 F2) : AW J (tCons te tr) σ s F R := fun H j Q q =>
  h H j _ fun x s1 F1 H1 j1 h1 => h1 H1 j1 _ fun vs s2 F2 H2 j2 k => q _ _ _ _ j2 k
theorem ew_tup (hd : Hid J) (h : AW J tr σ s F fun vs s1 F1 => vs.length ≤ 100000 ∧ ∀ p, F1 p = none → R (.ref p) s1 (upd F1 p (.tup vs))) : EW J (tTup tr) σ s F R := fun H j Q q =>
  h H j _ fun vs s1 F1 H1 j1 k => ⟨Nat.le_trans k.1 (by decide), fun p hp => q _ _ _ _ (hd.al j1 hp) (k.2 p (hd.fresh j1 hp))⟩
theorem ew_lst (hd : Hid J) (h : AW J tr σ s F fun vs s1 F1 => vs.length ≤ 100000 ∧ ∀ p, F1 p = none → R (.ref p) s1 (upd F1 p (.lst vs))) : EW J (tLst tr) σ s F R := fun H j Q q =>
  h H j _ fun vs s1 F1 H1 j1 k => ⟨Nat.le_trans k.1 (by decide), fun p hp => q _ _ _ _ (hd.al j1 hp) (k.2 p (hd.fresh j1 hp))⟩
theorem ew_if {tt : TT} (h : TW J tt σ s F fun b s1 F1 => (b = true → EW J ta σ s1 F1 R) ∧ (b = false → EW J tb σ s1 F1 R)) : EW J (tIf tt ta tb) σ s F R := fun H j Q q =>
  h H j _ fun b s1 F1 H1 j1 k => by
    cases b with
    | true => exact k.1 rfl H1 j1 Q q
    | false => exact k.2 rfl H1 j1 Q q
theorem ew_and (h : EW J ta σ s F fun x s1 F1 => ∃ c, x = .bl c ∧ (c = true → EW J tb σ s1 F1 R) ∧ (c = false → R (.bl false) s1 F1)) : EW J (tAndV ta tb) σ s F R := fun H j Q q =>
  h H j _ fun x s1 F1 H1 j1 ⟨c, e, k1, k2⟩ => ⟨c, e, by
    cases c with
    | true => exact k1 rfl H1 j1 Q q
    | false => exact q _ _ _ _ j1 (k2 rfl)⟩
theorem ew_or (h : EW J ta σ s F fun x s1 F1 => ∃ c, x = .bl c ∧ (c = true → R (.bl true) s1 F1) ∧ (c = false → EW J tb σ s1 F1 R)) : EW J (tOrV ta tb) σ s F R := fun H j Q q =>
  h H j _ fun x s1 F1 H1 j1 ⟨c, e, k1, k2⟩ => ⟨c, e, by
    cases c with
    | true => exact q _ _ _ _ j1 (k1 rfl)
    | false => exact k2 rfl H1 j1 Q q⟩
theorem ew_not (h : EW J ta σ s F fun x s1 F1 => ∃ c, x = .bl c ∧ R (.bl (!c)) s1 F1) : EW J (tNotV ta) σ s F R := fun H j Q q =>
  h H j _ fun x s1 F1 H1 j1 ⟨c, e, k⟩ => ⟨c, e, q _ _ _ _ j1 k⟩
theorem ew_chain {r r' : R2} {tc : TE} (h : EW J ta σ s F fun x s1 F1 => EW J tb σ s1 F1 fun y s2 F2 => RW J r x y s2 F2 fun z s3 F3 => ∃ k, z = .bl k ∧ (k = true → EW J tc σ s3 F3 fun w s4 F4 => RW J r' y w s4 F4 R) ∧ (k = false → R (.bl false) s3 F3)) :
    EW J (tChain r r' ta tb tc) σ s F R := fun H j Q q =>
  h H j _ fun x s1 F1 H1 j1 h1 => h1 H1 j1 _ fun y s2 F2 H2 j2 h2 => h2 H2 j2 _ fun z s3 F3 H3 j3 ⟨k, e, k1, k2⟩ => ⟨k, e, by
    cases k with
    | true => exact k1 rfl H3 j3 _ fun w s4 F4 H4 j4 h4 => h4 H4 j4 Q q
    | false => exact q _ _ _ _ j3 (k2 rfl)⟩

/-! operations -/
theorem rw_I0 {g : Int → Int → V} {i k : Int} (h : R (g i k) s F) : RW J (rI0 g) (.int i) (.int k) s F R := fun H j Q q => ⟨i, k, rfl, rfl, q _ _ _ _ j h⟩
theorem rw_I {C : Int → Int → Prop} {g : Int → Int → V} {i k : Int} (c : C i k) (h : R (g i k) s F) : RW J (rI C g) (.int i) (.int k) s F R := fun H j Q q => ⟨i, k, rfl, rfl, c, q _ _ _ _ j h⟩
theorem uw_I {g : Int → V} {i : Int} (h : R (g i) s F) : UW J (rU g) (.int i) s F R := fun H j Q q => ⟨i, rfl, q _ _ _ _ j h⟩
theorem rw_eq (c : scal x y = true) (h : R (.bl (decide (x = y))) s F) : RW J rEq x y s F R := fun H j Q q => ⟨c, q _ _ _ _ j h⟩
theorem rw_ne (c : scal x y = true) (h : R (.bl (!decide (x = y))) s F) : RW J rNe x y s F R := fun H j Q q => ⟨c, q _ _ _ _ j h⟩
theorem rw_isN (h : R (.bl (decide (x = .non))) s F) : RW J (fun x y H Q => y = .non ∧ Q (.bl (decide (x = .non))) H) x .non s F R := fun H j Q q => ⟨rfl, q _ _ _ _ j h⟩
theorem rw_notN (h : R (.bl (!decide (x = .non))) s F) : RW J (fun x y H Q => y = .non ∧ Q (.bl (!decide (x = .non))) H) x .non s F R := fun H j Q q => ⟨rfl, q _ _ _ _ j h⟩
theorem rw_ixL (hd : Hid J) {p : Addr} {xs : List V} {i : Int} (l : SqL K F p xs) (a : atI xs i = some v) (h : R v s F) : RW J (rIxL K) (.ref p) (.int i) s F R := fun H j Q q => ⟨p, xs, i, v, rfl, rfl, hd.sqL j l, a, q _ _ _ _ j h⟩
theorem rw_ixT (hd : Hid J) {p : Addr} {xs : List V} {i : Int} (l : SqT K F p xs) (a : atI xs i = some v) (h : R v s F) : RW J (rIxT K) (.ref p) (.int i) s F R := fun H j Q q => ⟨p, xs, i, v, rfl, rfl, hd.sqT j l, a, q _ _ _ _ j h⟩
theorem rw_in (hd : Hid J) {p : Addr} {xs : List V} {neg : Bool} (l : SqL K F p xs ∨ SqT K F p xs) (c : flatV x = true) (a : xs.all flatV = true) (h : R (.bl (if neg then !inV x xs else inV x xs)) s F) : RW J (rIn K neg) x (.ref p) s F R :=
  fun H j Q q => ⟨p, xs, rfl, l.imp (hd.sqL j) (hd.sqT j), c, a, q _ _ _ _ j h⟩
theorem rw_cat (hd : Hid J) {l b : Addr} {xs zs : List V} (h1 : F l = some (.lst xs)) (h2 : F b = some (.lst zs)) (hl : xs.length + zs.length ≤ 100000) (h : ∀ p, F p = none → R (.ref p) s (upd F p (.lst (xs ++ zs)))) : RW J rCat (.ref l) (.ref b) s F R := fun H j Q q =>
  ⟨l, b, xs, zs, rfl, rfl, hd.ex j _ _ h1, hd.ex j _ _ h2, Nat.le_trans hl (by decide), fun p hp => q _ _ _ _ (hd.al j hp) (h p (hd.fresh j hp))⟩
theorem rw_rep (hd : Hid J) {l : Addr} {k : Int} {xs : List V} (h1 : F l = some (.lst xs)) (hk : -1000000 ≤ k ∧ k ≤ 1000000) (hl : xs.length * k.toNat ≤ 100000) (h : ∀ p, F p = none → R (.ref p) s (upd F p (.lst (List.replicate k.toNat xs).flatten))) : RW J rRep (.ref l) (.int k) s F R := fun H j Q q =>
  ⟨l, k, xs, rfl, rfl, hd.ex j _ _ h1, by omega, by omega, Nat.le_trans hl (by decide), fun p hp => q _ _ _ _ (hd.al j hp) (h p (hd.fresh j hp))⟩
/-! calls of built-ins -/
theorem cw_lenS (hd : Hid J) {p : Addr} {ys : List V} (l : SqL K F p ys ∨ SqT K F p ys) (h : R (.int ys.length) s F) : CW J (fun xs H Q => ∃ p ys, xs = [.ref p] ∧ (SqL K H p ys ∨ SqT K H p ys) ∧ Q (.int ys.length) H) [.ref p] s F R :=
  fun H j Q q => ⟨p, ys, rfl, l.imp (hd.sqL j) (hd.sqT j), q _ _ _ _ j h⟩
theorem cw_max2 {i k : Int} (h : R (.int (if k > i then k else i)) s F) : CW J (fun xs H Q => ∃ i j, xs = [.int i, .int j] ∧ Q (.int (if j > i then j else i)) H) [.int i, .int k] s F R := fun H j Q q => ⟨i, k, rfl, q _ _ _ _ j h⟩
theorem cw_min2 {i k : Int} (h : R (.int (if k < i then k else i)) s F) : CW J (fun xs H Q => ∃ i j, xs = [.int i, .int j] ∧ Q (.int (if j < i then j else i)) H) [.int i, .int k] s F R := fun H j Q q => ⟨i, k, rfl, q _ _ _ _ j h⟩
theorem cw_list (hd : Hid J) {p : Addr} {ys : List V} (l : SqL K F p ys ∨ SqT K F p ys) (h : ∀ a, F a = none → R (.ref a) s (upd F a (.lst ys))) : CW J (fun xs H Q => ∃ p ys, xs = [.ref p] ∧ (SqL K H p ys ∨ SqT K H p ys) ∧ ∀ l, H l = none → Q (.ref l) (upd H l (.lst ys))) [.ref p] s F R :=
  fun H j Q q => ⟨p, ys, rfl, l.imp (hd.sqL j) (hd.sqT j), fun a ha => q _ _ _ _ (hd.al j ha) (h a (hd.fresh j ha))⟩
theorem cw_tuple (hd : Hid J) {p : Addr} {ys : List V} (l : SqL K F p ys) (h : ∀ a, F a = none → R (.ref a) s (upd F a (.tup ys))) : CW J (fun xs H Q => ∃ p ys, xs = [.ref p] ∧ ((SqL K H p ys ∧ ∀ l, H l = none → Q (.ref l) (upd H l (.tup ys))) ∨ (SqT K H p ys ∧ Q (.ref p) H))) [.ref p] s F R :=
  fun H j Q q => ⟨p, ys, rfl, Or.inl ⟨hd.sqL j l, fun a ha => q _ _ _ _ (hd.al j ha) (h a (hd.fresh j ha))⟩⟩
theorem cw_sum (hd : Hid J) {a : Addr} {ns : List Int} (l : SqL K F a (ns.map V.int)) (h : R (.int ns.sum) s F) : CW J (rSum K) [.ref a] s F R := fun H j Q q => ⟨a, ns, rfl, hd.sqL j l, q _ _ _ _ j h⟩

/-! tests -/
variable {RB : Bool → S → Hp → Prop} {tA tB2 : TT}
theorem tw_test (h : EW J te σ s F fun x s1 F1 => ∃ b, x = .bl b ∧ RB b s1 F1) : TW J (tTest te) σ s F RB := fun H j Q q => h H j _ fun x s1 F1 H1 j1 ⟨b, e, k⟩ => ⟨b, e, q _ _ _ _ j1 k⟩
theorem tw_B (h : EW J te σ s F fun x s1 F1 => ∃ b, x = .bl b ∧ RB b s1 F1) : TW J (tB te) σ s F RB := fun H j Q q => h H j _ fun x s1 F1 H1 j1 ⟨b, e, k⟩ => ⟨b, e, q _ _ _ _ j1 k⟩
theorem tw_not (h : TW J tA σ s F fun b s1 F1 => RB (!b) s1 F1) : TW J (tNot tA) σ s F RB := fun H j Q q => h H j _ fun b s1 F1 H1 j1 k => q _ _ _ _ j1 k
theorem tw_and (h : TW J tA σ s F fun b s1 F1 => (b = true → TW J tB2 σ s1 F1 RB) ∧ (b = false → RB false s1 F1)) : TW J (tAnd tA tB2) σ s F RB := fun H j Q q =>
  h H j _ fun b s1 F1 H1 j1 k => by
    cases b with
    | true => exact k.1 rfl H1 j1 Q q
    | false => exact q _ _ _ _ j1 (k.2 rfl)
theorem tw_or (h : TW J tA σ s F fun b s1 F1 => (b = true → RB true s1 F1) ∧ (b = false → TW J tB2 σ s1 F1 RB)) : TW J (tOr tA tB2) σ s F RB := fun H j Q q =>
  h H j _ fun b s1 F1 H1 j1 k => by
    cases b with
    | true => exact q _ _ _ _ j1 (k.1 rfl)
    | false => exact k.2 rfl H1 j1 Q q
theorem tw_yes (k : RB true s F) : TW J tYes σ s F RB := fun H j Q q => q _ _ _ _ j k
/-- the truth of a list -/
theorem tw_truL (hd : Hid J) (h : EW J te σ s F fun x s1 F1 => ∃ a xs, x = .ref a ∧ SqL K F1 a xs ∧ RB (!xs.isEmpty) s1 F1) : TW J (fun σ H Q => te σ H fun x H' => ∃ k, TruV K x H' k ∧ Q k H') σ s F RB := fun H j Q q =>
  h H j _ fun x s1 F1 H1 j1 ⟨a, xs, e, l, k⟩ => ⟨_, by subst e; exact Or.inl ⟨xs, hd.sqL j1 l, rfl⟩, q _ _ _ _ j1 k⟩
theorem tw_truB (h : EW J te σ s F fun x s1 F1 => ∃ b, x = .bl b ∧ RB b s1 F1) : TW J (fun σ H Q => te σ H fun x H' => ∃ k, TruV K x H' k ∧ Q k H') σ s F RB := fun H j Q q =>
  h H j _ fun x s1 F1 H1 j1 ⟨i, e, k⟩ => ⟨_, by subst e; exact rfl, q _ _ _ _ j1 k⟩

/-! slices -/
theorem ow_none {R : Option Int → S → Hp → Prop} (k : R none s F) : OW J tNoPart σ s F R := fun H j Q q => q _ _ _ _ j k
theorem ow_some {R : Option Int → S → Hp → Prop} (h : EW J te σ s F fun x s1 F1 => ∃ i, x = .int i ∧ R (some i) s1 F1) : OW J (tPart te) σ s F R := fun H j Q q => h H j _ fun x s1 F1 H1 j1 ⟨i, e, k⟩ => ⟨i, e, q _ _ _ _ j1 k⟩
theorem ew_slL (hd : Hid J) {tl th : TO} (h : EW J te σ s F fun x s1 F1 => OW J tl σ s1 F1 fun lo s2 F2 => OW J th σ s2 F2 fun hi s3 F3 => ∃ a xs, x = .ref a ∧ SqL K F3 a xs ∧ ∀ p, F3 p = none → R (.ref p) s3 (upd F3 p (.lst (cutV xs lo hi)))) :
    EW J (tSl (rSlL K) te tl th) σ s F R := fun H j Q q => h H j _ fun x s1 F1 H1 j1 h1 => h1 H1 j1 _ fun lo s2 F2 H2 j2 h2 => h2 H2 j2 _ fun hi s3 F3 H3 j3 ⟨a, xs, e, l, k⟩ =>
  ⟨a, xs, e, hd.sqL j3 l, fun p hp => q _ _ _ _ (hd.al j3 hp) (k p (hd.fresh j3 hp))⟩
theorem ew_slT (hd : Hid J) {tl th : TO} (h : EW J te σ s F fun x s1 F1 => OW J tl σ s1 F1 fun lo s2 F2 => OW J th σ s2 F2 fun hi s3 F3 => ∃ a xs, x = .ref a ∧ SqT K F3 a xs ∧ (HT.sIx xs.length 0 lo = 0 ∧ HT.sIx xs.length xs.length hi = xs.length → R (.ref a) s3 F3) ∧
      (¬ (HT.sIx xs.length 0 lo = 0 ∧ HT.sIx xs.length xs.length hi = xs.length) → ∀ p, F3 p = none → R (.ref p) s3 (upd F3 p (.tup (cutV xs lo hi))))) :
    EW J (tSl (rSlA K) te tl th) σ s F R := fun H j Q q => h H j _ fun x s1 F1 H1 j1 h1 => h1 H1 j1 _ fun lo s2 F2 H2 j2 h2 => h2 H2 j2 _ fun hi s3 F3 H3 j3 ⟨a, xs, e, l, k1, k2⟩ =>
  ⟨a, xs, e, hd.sqT j3 l, fun c => q _ _ _ _ j3 (k1 c), fun c p hp => q _ _ _ _ (hd.al j3 hp) (k2 c p (hd.fresh j3 hp))⟩

/-! methods of built-ins: of a list -/
theorem ew_bmL (hd : Hid J) {r : V → List V → Hp → VK → Prop} (h : EW J te σ s F fun x s1 F1 => ∃ a xs, x = .ref a ∧ SqL K F1 a xs ∧ AW J tr σ s1 F1 fun vs s2 F2 => MW J r x vs s2 F2 R) : EW J (tBM K "list" r te tr) σ s F R := fun H j Q q =>
  h H j _ fun x s1 F1 H1 j1 ⟨a, xs, e, l, h1⟩ => ⟨by subst e; exact Or.inl ⟨rfl, xs, hd.sqL j1 l⟩, h1 H1 j1 _ fun vs s2 F2 H2 j2 h2 => h2 H2 j2 Q q⟩
theorem mw_append (hd : Hid J) {l : Addr} {xs : List V} (h1 : F l = some (.lst xs)) (hl : xs.length < 100000) (h : R .non s (upd F l (.lst (xs ++ [y])))) : MW J rAppend (.ref l) [y] s F R := fun H j Q q =>
  ⟨l, xs, y, rfl, rfl, hd.ex j _ _ h1, Nat.lt_of_lt_of_le hl (by decide), q _ _ _ _ (hd.mu j h1) h⟩
theorem mw_extend (hd : Hid J) {l b : Addr} {xs zs : List V} (h1 : F l = some (.lst xs)) (h2 : F b = some (.lst zs)) (hl : xs.length + zs.length ≤ 100000) (h : R .non s (upd F l (.lst (xs ++ zs)))) : MW J rExtend (.ref l) [.ref b] s F R := fun H j Q q =>
  ⟨l, b, xs, zs, rfl, rfl, hd.ex j _ _ h1, hd.ex j _ _ h2, Nat.le_trans hl (by decide), q _ _ _ _ (hd.mu j h1) h⟩

/-! statements -/
variable {D : En S} {t u : TS} {g : TG}
theorem sw_next (k : D.nx σ s F) : SW J tNext D σ s F := fun H j D' l => l.nx _ _ _ _ j k
theorem sw_seq (h : SW J t { D with nx := fun σ1 s1 F1 => SW J u D σ1 s1 F1 } σ s F) : SW J (tSeq t u) D σ s F := fun H j D' l =>
  h H j _ ⟨fun σ1 s1 F1 H1 j1 k => k H1 j1 D' l, l.rt, l.bk, l.ct⟩
theorem sw_break (k : D.bk σ s F) : SW J tBreak D σ s F := fun H j D' l => l.bk _ _ _ _ j k
theorem sw_drop (h : EW J te σ s F fun _ s1 F1 => D.nx σ s1 F1) : SW J (tDrop te) D σ s F := fun H j D' l => h H j _ fun _ s1 F1 H1 j1 k => l.nx _ _ _ _ j1 k
theorem sw_ret (h : EW J te σ s F D.rt) : SW J (tRet te) D σ s F := fun H j D' l => h H j _ fun v s1 F1 H1 j1 k => l.rt _ _ _ _ j1 k
theorem sw_if {tc : TT} (h : TW J tc σ s F fun b s1 F1 => (b = true → SW J t D σ s1 F1) ∧ (b = false → SW J u D σ s1 F1)) : SW J (tIfS tc t u) D σ s F := fun H j D' l =>
  h H j _ fun b s1 F1 H1 j1 k => by
    cases b with
    | true => exact k.1 rfl H1 j1 D' l
    | false => exact k.2 rfl H1 j1 D' l
theorem sw_asg (h : EW J te σ s F fun x s1 F1 => GW J g x σ s1 F1 D.nx) : SW J (tAsg te g) D σ s F := fun H j D' l =>
  h H j _ fun x s1 F1 H1 j1 h1 => h1 H1 j1 _ fun σ2 s2 F2 H2 j2 k => l.nx _ _ _ _ j2 k
theorem sw_par {i k : Nat} {ta : TA} (h : AW J ta σ s F fun vs s1 F1 => ∃ v w, vs = [v, w] ∧ D.nx ((σ.set i (some v)).set k (some w)) s1 F1) : SW J (tPar i k ta) D σ s F := fun H j D' l =>
  h H j _ fun vs s1 F1 H1 j1 ⟨v, w, e, k⟩ => ⟨v, w, e, l.nx _ _ _ _ j1 k⟩
theorem sw_aug {i : Nat} {f : Int → Int → Int} {a : Int} (hx : σ[i]? = some (some (.int a))) (h : EW J te σ s F fun y s1 F1 => ∃ b, y = .int b ∧ D.nx (σ.set i (some (.int (f a b)))) s1 F1) : SW J (tAug i te (ipI f)) D σ s F := fun H j D' l =>
  ⟨.int a, hx, h H j _ fun y s1 F1 H1 j1 ⟨b, e, k⟩ => ⟨a, b, rfl, e, l.nx _ _ _ _ j1 k⟩⟩
variable {N : L2.St → S → Hp → Prop}
theorem gw_name {i : Nat} (k : N (σ.set i (some x)) s F) : GW J (gName i) x σ s F N := fun H j Q q => q _ _ _ _ j k
theorem gw_tup (hd : Hid J) {n : Nat} {ts : TGs} (h : ∃ a xs, x = .ref a ∧ SqT K F a xs ∧ xs.length = n ∧ GsW J ts xs σ s F N) : GW J (gTup K n ts) x σ s F N := fun H j Q q => by
  obtain ⟨a, xs, e, l, hn, h⟩ := h
  exact ⟨a, xs, e, hd.sqT j l, hn, h H j Q q⟩
theorem gsw_nil (k : N σ s F) : GsW J gNil [] σ s F N := fun H j Q q => ⟨rfl, q _ _ _ _ j k⟩
theorem gsw_cons {ts : TGs} {xs : List V} (h : GW J g x σ s F fun σ1 s1 F1 => GsW J ts xs σ1 s1 F1 N) : GsW J (gCons g ts) (x :: xs) σ s F N := fun H j Q q =>
  ⟨x, xs, rfl, h H j _ fun σ1 s1 F1 H1 j1 k => k H1 j1 Q q⟩
/-- xs[i] = e -/
theorem gw_subL (hd : Hid J) (h : EW J ta σ s F fun o s1 F1 => EW J tb σ s1 F1 fun i s2 F2 => ∃ p xs k j, o = .ref p ∧ i = .int k ∧ F2 p = some (.lst xs) ∧ ixN xs.length k = some j ∧ N σ s2 (upd F2 p (.lst (xs.set j x)))) : GW J (gSub ta tb rSetL) x σ s F N := fun H j Q q =>
  h H j _ fun o s1 F1 H1 j1 h1 => h1 H1 j1 _ fun i s2 F2 H2 j2 ⟨p, xs, k, jj, e1, e2, hp, hj, k2⟩ => ⟨p, xs, k, jj, e1, e2, hd.ex j2 _ _ hp, hj, q _ _ _ _ (hd.mu j2 hp) k2⟩

/-! loops -/
theorem sw_forR1 {ta : TA} (h : AW J ta σ s F fun vs s1 F1 => ∃ (n : Int) (Pv : Nat → L2.St → S → Hp → Prop), vs = [.int n] ∧ -1000000000 ≤ n ∧ n ≤ 1000000000 ∧ Pv 0 σ s1 F1 ∧
      (∀ (i : Nat) σ s F, (i : Int) < n → Pv i σ s F → GW J g (.int (i : Int)) σ s F fun σ s F => SW J t { D with nx := Pv (i + 1), ct := Pv (i + 1), bk := D.nx } σ s F) ∧ (∀ σ s F, Pv n.toNat σ s F → D.nx σ s F)) :
    SW J (tFor (iRng1 ta) g t) D σ s F := fun H j D' l =>
  h H j _ fun vs s1 F1 H1 j1 ⟨n, Pv, e, hn1, hn2, h0, hs, hdn⟩ => ⟨n, e, by omega, by omega, for_range (lo := 0) (n := n.toNat) (fun i σ H => ∃ s F, J s F H ∧ Pv i σ s F) ⟨s1, F1, j1, h0⟩
    (fun i σ' H' hi ⟨s', F', j', p⟩ => by
      have e0 : (0 : Int) + (i : Int) = (i : Int) := Int.zero_add _
      show g (.int ((0 : Int) + (i : Int))) σ' H' _
      rw [e0]
      exact hs i σ' s' F' (by omega) p H' j' _ fun σ2 s2 F2 H2 j2 k => k H2 j2 _ ⟨fun σ3 s3 F3 H3 j3 k3 => ⟨s3, F3, j3, k3⟩, l.rt, l.nx, fun σ3 s3 F3 H3 j3 k3 => ⟨s3, F3, j3, k3⟩⟩)
    (fun σ' H' ⟨s', F', j', p⟩ => l.nx _ _ _ _ j' (hdn σ' s' F' p))⟩
theorem sw_forL (hd : Hid J) (h : EW J te σ s F fun v s1 F1 => ∃ (a : Addr) (xs : List V) (Pv : Nat → L2.St → S → Hp → Prop), v = .ref a ∧ SqL K F1 a xs ∧ Pv 0 σ s1 F1 ∧ (∀ i σ s F, i ≤ xs.length → Pv i σ s F → SqL K F a xs) ∧
      (∀ (i : Nat) x σ s F, xs[i]? = some x → Pv i σ s F → GW J g x σ s F fun σ s F => SW J t { D with nx := Pv (i + 1), ct := Pv (i + 1), bk := D.nx } σ s F) ∧ (∀ σ s F, Pv xs.length σ s F → D.nx σ s F)) :
    SW J (tFor (iList K te) g t) D σ s F := fun H j D' l =>
  h H j _ fun v s1 F1 H1 j1 ⟨a, xs, Pv, e, l1, h0, hl, hs, hdn⟩ => ⟨a, e, ⟨xs, hd.sqL j1 l1⟩, for_list (xs := xs) (fun i σ H => ∃ s F, J s F H ∧ Pv i σ s F) ⟨s1, F1, j1, h0⟩
    (fun i σ' H' hi ⟨s', F', j', p⟩ => hd.sqL j' (hl i σ' s' F' hi p))
    (fun i x σ' H' hi ⟨s', F', j', p⟩ => hs i x σ' s' F' hi p H' j' _ fun σ2 s2 F2 H2 j2 k => k H2 j2 _ ⟨fun σ3 s3 F3 H3 j3 k3 => ⟨s3, F3, j3, k3⟩, l.rt, l.nx, fun σ3 s3 F3 H3 j3 k3 => ⟨s3, F3, j3, k3⟩⟩)
    (fun σ' H' ⟨s', F', j', p⟩ => l.nx _ _ _ _ j' (hdn σ' s' F' p))⟩
theorem sw_forT (hd : Hid J) (h : EW J te σ s F fun v s1 F1 => ∃ (a : Addr) (xs : List V) (Pv : Nat → L2.St → S → Hp → Prop), v = .ref a ∧ SqT K F1 a xs ∧ Pv 0 σ s1 F1 ∧ (∀ i σ s F, i ≤ xs.length → Pv i σ s F → SqT K F a xs) ∧
      (∀ (i : Nat) x σ s F, xs[i]? = some x → Pv i σ s F → GW J g x σ s F fun σ s F => SW J t { D with nx := Pv (i + 1), ct := Pv (i + 1), bk := D.nx } σ s F) ∧ (∀ σ s F, Pv xs.length σ s F → D.nx σ s F)) :
    SW J (tFor (iTup K te) g t) D σ s F := fun H j D' l =>
  h H j _ fun v s1 F1 H1 j1 ⟨a, xs, Pv, e, l1, h0, hl, hs, hdn⟩ => ⟨a, e, ⟨xs, hd.sqT j1 l1⟩, for_tup (xs := xs) (fun i σ H => ∃ s F, J s F H ∧ Pv i σ s F) ⟨s1, F1, j1, h0⟩
    (fun i σ' H' hi ⟨s', F', j', p⟩ => hd.sqT j' (hl i σ' s' F' hi p))
    (fun i x σ' H' hi ⟨s', F', j', p⟩ => hs i x σ' s' F' hi p H' j' _ fun σ2 s2 F2 H2 j2 k => k H2 j2 _ ⟨fun σ3 s3 F3 H3 j3 k3 => ⟨s3, F3, j3, k3⟩, l.rt, l.nx, fun σ3 s3 F3 H3 j3 k3 => ⟨s3, F3, j3, k3⟩⟩)
    (fun σ' H' ⟨s', F', j', p⟩ => l.nx _ _ _ _ j' (hdn σ' s' F' p))⟩
theorem sw_while {tc : TT} (Pv : Nat → L2.St → S → Hp → Prop) (m0 : Nat) (h0 : Pv m0 σ s F)
    (hs : ∀ m σ s F, Pv m σ s F → TW J tc σ s F fun b s1 F1 => (b = true → SW J t { D with nx := fun σ2 s2 F2 => ∃ m', m' < m ∧ Pv m' σ2 s2 F2, ct := fun σ2 s2 F2 => ∃ m', m' < m ∧ Pv m' σ2 s2 F2, bk := D.nx } σ s1 F1) ∧ (b = false → D.nx σ s1 F1)) :
    SW J (tWhile tc t) D σ s F := fun H j D' l =>
  ⟨fun m σ H => ∃ s F, J s F H ∧ Pv m σ s F, ⟨m0, s, F, j, h0⟩, fun m σ' H' ⟨s', F', j', p⟩ => hs m σ' s' F' p H' j' _ fun b s1 F1 H1 j1 k => by
    cases b with
    | true =>
      show ∃ N : L2.St → Hp → Prop, _
      exact ⟨fun σ2 H2 => ∃ m', m' < m ∧ ∃ s F, J s F H2 ∧ Pv m' σ2 s F, fun σ2 H2 n => n, k.1 rfl H1 j1 _ ⟨fun σ3 s3 F3 H3 j3 ⟨m', hm, k3⟩ => ⟨m', hm, s3, F3, j3, k3⟩, l.rt, l.nx, fun σ3 s3 F3 H3 j3 ⟨m', hm, k3⟩ => ⟨m', hm, s3, F3, j3, k3⟩⟩⟩
    | false =>
      show D'.nx σ' H1
      exact l.nx _ _ _ _ j1 (k.2 rfl)⟩
end
end Obr
namespace Obr
open PySem L2

/-- the built-ins that no module of the text hides -/
structure Blt (mg : Str → Option Value) : Prop where
  len : mg "len" = none
  list : mg "list" = none
  tuple : mg "tuple" = none
  max : mg "max" = none
  min : mg "min" = none
  range : mg "range" = none
  sum : mg "sum" = none
  sorted : mg "sorted" = none
  enumerate : mg "enumerate" = none
  zip : mg "zip" = none
  isinstance : mg "isinstance" = none
  int : mg "int" = none
  str : mg "str" = none
  bool : mg "bool" = none
  verr : mg "ValueError" = none
/-- a def that is called by its name -/
structure Cal (K : PySem.W.Frag) (mg : Str → Option Value) (x : Str) (f : Addr) (fd : FuncData) (ps : List Str) : Prop where
  g : mg x = some (.ref f)
  k : PySem.W.keepIn K (.ref f) = true
  a : Binds K fd ps []


/-- G knows all that F knows -/
def Ex (F G : Hp) : Prop := ∀ a o, F a = some o → G a = some o
theorem Ex.refl (F : Hp) : Ex F F := fun _ _ e => e
theorem Ex.trans {F G H : Hp} (a : Ex F G) (b : Ex G H) : Ex F H := fun x o e => b x o (a x o e)
theorem Ex.new {F G : Hp} {p : Addr} {u : HO} (g : Ex F G) (h : G p = none) : Ex F (upd G p u) := fun a o e => by
  rw [upd_ne (ne_of_none (g a o e) h)]
  exact g a o e
theorem Ex.out {F G : Hp} {p : Addr} {u : HO} (g : Ex F G) (h : F p = none) : Ex F (L2.upd G p u) := fun a o e => by
  rw [upd_ne (ne_of_none e h)]
  exact g a o e
theorem Ex.upd {F G : Hp} {p : Addr} {u : HO} (g : Ex F G) : Ex (L2.upd F p u) (L2.upd G p u) := fun a o e => by
  by_cases c : a = p
  · subst c; rw [upd_same] at e ⊢; exact e
  · rw [upd_ne c] at e ⊢; exact g a o e
theorem Ex.free {F G : Hp} {p : Addr} (g : Ex F G) (h : G p = none) : F p = none := by
  cases e : F p with
  | none => rfl
  | some o =>
    rw [g p o e] at h
    cases h
theorem Ex.sqL {F G : Hp} (g : Ex F G) {K a xs} (h : SqL K F a xs) : SqL K G a xs := by
  rcases h with (h | ⟨o, h⟩) | h
  · exact Or.inl (Or.inl (g _ _ h))
  · exact Or.inl (Or.inr ⟨o, g _ _ h⟩)
  · exact Or.inr h
theorem Ex.sqT {F G : Hp} (g : Ex F G) {K a xs} (h : SqT K F a xs) : SqT K G a xs := by
  rcases h with (h | ⟨o, h⟩) | h
  · exact Or.inl (Or.inl (g _ _ h))
  · exact Or.inl (Or.inr ⟨o, g _ _ h⟩)
  · exact Or.inr h

/-! ### promises over F, whatever is hidden -/
def LS (A : List V → Hp → VK → Prop) : Sp := fun vs H Q _ => ∃ (J : Unit → Hp → Hp → Prop) (F : Hp) (R : VK), Hid J ∧ J () F H ∧ A vs F R ∧ ∀ v F' H', J () F' H' → R v F' → Q v H'
theorem LS.body {J : Unit → Hp → Hp → Prop} {F H : Hp} {R Q : VK} {t : TS} {σ : L2.St} (j : J () F H) (q : ∀ v F' H', J () F' H' → R v F' → Q v H')
    (h : SW J t { nx := fun _ _ F => R .non F, rt := fun v _ F => R v F } σ () F) : t { nx := fun _ H' => Q .non H', rt := Q } σ H :=
  h H j _ ⟨fun _ _ _ _ j k => q _ _ _ j k, fun _ _ _ _ j k => q _ _ _ j k, fun _ _ _ _ _ k => k.elim, fun _ _ _ _ _ k => k.elim⟩
theorem Hid.unit {S : Type} {J : S → Hp → Hp → Prop} (hd : Hid J) (s : S) : Hid (fun (_ : Unit) F H => J s F H) where
  ex := fun {_ _ _} j => hd.ex j
  al := fun {_ _ _ _ _} j => hd.al j
  mu := fun {_ _ _ _ _ _} j => hd.mu j
section
variable {S : Type} {J : S → Hp → Hp → Prop} {σ : L2.St} {s : S} {F : Hp} {R : V → S → Hp → Prop} {tr : TA} {A : List V → Hp → VK → Prop} {E : XK}
theorem ew_call (hd : Hid J) (h : AW J tr σ s F fun vs s1 F1 => A vs F1 fun v F' => R v s1 F') : EW J (tCall (LS A) [] E tr) σ s F R := fun H j Q q =>
  h H j _ fun vs s1 F1 H1 j1 a => by
    show LS A (vs ++ []) H1 Q E
    rw [List.append_nil]
    exact ⟨_, F1, _, hd.unit s1, j1, a, fun v F' H' j' r => q v s1 F' H' j' r⟩
end

/-! ### forgetting: G knows more than F -/
def GJ {S : Type} (J : S → Hp → Hp → Prop) : S → Hp → Hp → Prop := fun s F H => ∃ G, (∀ a o, F a = some o → G a = some o) ∧ J s G H
/-! ### what is drawn from, hidden: the list at h (a number, the cells at c, a place) -/
def hL (c : Addr) (m p : Int) : HO := .lst [.int m, .ref c, .int p]
def cL (cells : List Int) : HO := .lst (cells.map V.int)
def HJ (h c : Addr) {S : Type} (J : S → Hp → Hp → Prop) : S → Hp → Hp → Prop := fun s F H =>
  ∃ (G : Hp) (m p : Int) (cells : List Int), Ex F G ∧ F h = none ∧ F c = none ∧ 0 ≤ m ∧ m < 2147483647 ∧ 0 ≤ p ∧ cells.length ≤ 63 ∧ G h = some (hL c m p) ∧ G c = some (cL cells) ∧ J s G H
theorem Hid.hj {h c : Addr} {S : Type} {J : S → Hp → Hp → Prop} (hd : Hid J) : Hid (HJ h c J) where
  ex := fun {s F H} ⟨G, m, p, cells, g, _, _, _, _, _, _, _, _, j⟩ a o e => hd.ex j a o (g a o e)
  al := fun {s F H p' o} ⟨G, m, p, cells, g, fh, fc, m0, m1, p0, l, gh, gc, j⟩ hp => by
    have e1 := hd.fresh j hp
    have pc : c ≠ p' := ne_of_none gc e1
    have ph : h ≠ p' := ne_of_none gh e1
    exact ⟨upd G p' o, m, p, cells, g.upd, by rw [upd_ne ph]; exact fh, by rw [upd_ne pc]; exact fc, m0, m1, p0, l, by rw [upd_ne ph]; exact gh, by rw [upd_ne pc]; exact gc, hd.al j hp⟩
  mu := fun {s F H a o o'} ⟨G, m, p, cells, g, fh, fc, m0, m1, p0, l, gh, gc, j⟩ e => by
    have pc : c ≠ a := fun q => by rw [q, e] at fc; cases fc
    have ph : h ≠ a := fun q => by rw [q, e] at fh; cases fh
    exact ⟨upd G a o', m, p, cells, g.upd, by rw [upd_ne ph]; exact fh, by rw [upd_ne pc]; exact fc, m0, m1, p0, l, by rw [upd_ne ph]; exact gh, by rw [upd_ne pc]; exact gc, hd.mu j (g _ _ e)⟩
/-- a promise of a def whose first argument is what is drawn from -/
def LN (A : List V → Hp → VK → Prop) : Sp := fun vs H Q _ => ∃ (h c : Addr) (J : Unit → Hp → Hp → Prop) (F : Hp) (R : VK) (ws : List V), Hid J ∧ vs = .ref h :: ws ∧ HJ h c J () F H ∧ A ws F R ∧ ∀ v F' H', HJ h c J () F' H' → R v F' → Q v H'
section
variable {S : Type} {J : S → Hp → Hp → Prop} {h c : Addr} {σ : L2.St} {s : S} {F : Hp} {R : V → S → Hp → Prop} {tr : TA} {A : List V → Hp → VK → Prop} {E : XK}
theorem ew_draw (hd : Hid J) (k : AW (HJ h c J) tr σ s F fun vs s1 F1 => ∃ ws, vs = .ref h :: ws ∧ A ws F1 fun v F' => R v s1 F') : EW (HJ h c J) (tCall (LN A) [] E tr) σ s F R := fun H j Q q =>
  k H j _ fun vs s1 F1 H1 j1 ⟨ws, e, a⟩ => by
    show LN A (vs ++ []) H1 Q E
    rw [List.append_nil]
    exact ⟨h, c, fun _ F H => J s1 F H, F1, _, ws, hd.unit s1, e, j1, a, fun v F' H' j' r => q v s1 F' H' j' r⟩
end

/-! ### the promises -/
/-- _law_mix -/
def aMix (K : PySem.W.Frag) : List V → Hp → VK → Prop := fun vs F R => ∃ (a : Addr) (ns : List Int) (z : Int), vs = [.ref a, .int z] ∧ SqL K F a (ns.map V.int) ∧ 0 ≤ z ∧ z < 2147483647 ∧
  ∀ (m : Int) (c h : Addr), 0 ≤ m → m < 2147483647 → F c = none → F h = none → c ≠ h → R (.ref h) (L2.upd (L2.upd F c (cL ns)) h (hL c m 0))
/-- _law_next -/
def aNext : List V → Hp → VK → Prop := fun ws F R => ∃ n : Int, ws = [.int n] ∧ 0 < n ∧ n ≤ 10000000000000 ∧ ∀ r : Int, 0 ≤ r → r < n → R (.int r) F
end Obr
namespace Obr
open PySem L2
theorem at_ints {ns : List Int} {i : Int} (h0 : 0 ≤ i) (h1 : i < ns.length) : atI (ns.map V.int) i = some (V.int (ns.getD i.toNat 0)) := by
  obtain ⟨j, rfl⟩ : ∃ j : Nat, i = (j : Int) := ⟨i.toNat, by omega⟩
  have hj : j < ns.length := by omega
  refine atI_nat (j := j) ?_
  rw [List.getElem?_map, List.getElem?_eq_getElem hj]
  simp [List.getD, List.getElem?_eq_getElem hj]
theorem ixN_of {n : Nat} {i : Int} (h0 : 0 ≤ i) (h1 : i < n) : ixN n i = some i.toNat := by
  unfold ixN
  rw [if_pos h0, if_pos h1]
theorem map_set_int (ns : List Int) (j : Nat) (z : Int) : (ns.map V.int).set j (V.int z) = (ns.set j z).map V.int := by
  rw [List.map_set]
end Obr
namespace Obr
open PySem L2
theorem sw_mid {S : Type} {J : S → Hp → Hp → Prop} {t : TS} {D : En S} {σ : L2.St} {s : S} {F : Hp} (Mid : L2.St → S → Hp → Prop) (h1 : SW J t { D with nx := Mid } σ s F) (h2 : ∀ σ s F, Mid σ s F → D.nx σ s F) : SW J t D σ s F := fun H j D' l =>
  h1 H j D' ⟨fun σ s F H j k => l.nx σ s F H j (h2 σ s F k), l.rt, l.bk, l.ct⟩
end Obr
namespace Obr
open PySem L2

/-! ### data as a whole, kept by whatever grows -/
mutual
theorem dp_ex {K : PySem.W.Frag} {F G : Hp} (g : Ex F G) : ∀ {d : PyData} {v : V}, Dp K F v d → Dp K G v d
  | .none, _, h => by cases h; exact .non
  | .bool b, _, h => by cases h; exact .bl b
  | .int i, _, h => by cases h; exact .int i
  | .str x, _, h => by cases h; exact .str x
  | .list ds, _, h => by
    cases h with
    | lst hs ha => exact .lst (g.sqL hs) (dps_ex g ha)
  | .tuple ds, _, h => by
    cases h with
    | tup hs ha => exact .tup (g.sqT hs) (dps_ex g ha)
  | .dict _, _, h => by cases h
theorem dps_ex {K : PySem.W.Frag} {F G : Hp} (g : Ex F G) : ∀ {ds : List PyData} {vs : List V}, DpAll K F vs ds → DpAll K G vs ds
  | [], _, h => by cases h; exact .nil
  | d :: ds, _, h => by
    cases h with
    | cons h1 h2 => exact .cons (dp_ex g h1) (dps_ex g h2)
end
section
variable {K : PySem.W.Frag} {F : Hp}
theorem dps_len {vs : List V} {ds : List PyData} : DpAll K F vs ds → vs.length = ds.length := by
  induction ds generalizing vs with
  | nil => intro h; cases h; rfl
  | cons d ds ih => intro h; cases h with
    | cons h1 h2 => simp [ih h2]
theorem dps_get {i : Nat} {vs : List V} {ds : List PyData} {d : PyData} (h : DpAll K F vs ds) (e : ds[i]? = some d) : ∃ v, vs[i]? = some v ∧ Dp K F v d := by
  induction ds generalizing vs i with
  | nil => simp at e
  | cons d0 ds ih => cases h with
    | cons h1 h2 => cases i with
      | zero => simp at e; subst e; exact ⟨_, rfl, h1⟩
      | succ i => simp at e; obtain ⟨v, e1, e2⟩ := ih h2 e; exact ⟨v, by simpa using e1, e2⟩
theorem dps_get' {i : Nat} {vs : List V} {ds : List PyData} {v : V} (h : DpAll K F vs ds) (e : vs[i]? = some v) : ∃ d, ds[i]? = some d ∧ Dp K F v d := by
  induction ds generalizing vs i with
  | nil => cases h; simp at e
  | cons d0 ds ih => cases h with
    | cons h1 h2 => cases i with
      | zero => simp at e; subst e; exact ⟨_, rfl, h1⟩
      | succ i => simp at e; obtain ⟨v, e1, e2⟩ := ih h2 e; exact ⟨v, by simpa using e1, e2⟩
theorem dps_snoc {vs : List V} {ds : List PyData} {v : V} {d : PyData} (h : DpAll K F vs ds) (h1 : Dp K F v d) : DpAll K F (vs ++ [v]) (ds ++ [d]) := by
  induction ds generalizing vs with
  | nil => cases h; exact .cons h1 .nil
  | cons d0 ds ih => cases h with
    | cons a b => exact .cons a (ih b)
theorem dps_ints {ns : List Int} : DpAll K F (ns.map V.int) (ns.map PyData.int) := by
  induction ns with
  | nil => exact .nil
  | cons a t ih => exact .cons (.int a) ih
theorem dps_ints_iff {ns : List Int} {vs : List V} (h : DpAll K F vs (ns.map PyData.int)) : vs = ns.map V.int := by
  induction ns generalizing vs with
  | nil => cases h; rfl
  | cons a t ih => cases h with
    | cons h1 h2 => cases h1; rw [ih h2]; rfl
theorem dp_tup {v : V} {ds : List PyData} (h : Dp K F v (.tuple ds)) : ∃ a xs, v = .ref a ∧ SqT K F a xs ∧ DpAll K F xs ds := by
  cases h with
  | tup h1 h2 => exact ⟨_, _, rfl, h1, h2⟩
theorem dp_lst {v : V} {ds : List PyData} (h : Dp K F v (.list ds)) : ∃ a xs, v = .ref a ∧ SqL K F a xs ∧ DpAll K F xs ds := by
  cases h with
  | lst h1 h2 => exact ⟨_, _, rfl, h1, h2⟩
theorem dp_int {v : V} {i : Int} (h : Dp K F v (.int i)) : v = .int i := by cases h; rfl
theorem dp_str {v : V} {x : Str} (h : Dp K F v (.str x)) : v = .str x := by cases h; rfl
theorem dp_bl {v : V} {b : Bool} (h : Dp K F v (.bool b)) : v = .bl b := by cases h; rfl
theorem dps1 {vs : List V} {a : PyData} (h : DpAll K F vs [a]) : ∃ x, vs = [x] ∧ Dp K F x a := by
  cases h with
  | cons h1 h2 => cases h2; exact ⟨_, rfl, h1⟩
theorem dps2 {vs : List V} {a b : PyData} (h : DpAll K F vs [a, b]) : ∃ x y, vs = [x, y] ∧ Dp K F x a ∧ Dp K F y b := by
  cases h with
  | cons h1 h2 => obtain ⟨y, rfl, h3⟩ := dps1 h2; exact ⟨_, _, rfl, h1, h3⟩
theorem dps3 {vs : List V} {a b c : PyData} (h : DpAll K F vs [a, b, c]) : ∃ x y z, vs = [x, y, z] ∧ Dp K F x a ∧ Dp K F y b ∧ Dp K F z c := by
  cases h with
  | cons h1 h2 => obtain ⟨y, z, rfl, h3, h4⟩ := dps2 h2; exact ⟨_, _, _, rfl, h1, h3, h4⟩
end

/-! ### worlds and rules -/
/-- a step: how much it draws, how long it lasts, how much it gives back -/
structure Stp where
  draw : Int
  long : Int
  back : Int
structure Wld where
  cap : Int
  start : Int
  refill : Int
  ms : List (List Stp)
def stpD (s : Stp) : PyData := .tuple [.int s.draw, .int s.long, .int s.back]
def macD (ss : List Stp) : PyData := .tuple (ss.map stpD)
def wldD (w : Wld) : PyData := .tuple [.tuple [.int w.cap, .int w.start, .int w.refill], .tuple (w.ms.map macD)]
structure StpOk (cap : Int) (s : Stp) : Prop where
  d0 : 0 ≤ s.draw
  d1 : s.draw ≤ cap
  l0 : 1 ≤ s.long
  l1 : s.long ≤ 9
  b0 : 0 ≤ s.back
  b1 : s.back ≤ s.draw
structure WldOk (w : Wld) : Prop where
  c0 : 1 ≤ w.cap
  c1 : w.cap ≤ 99
  s0 : 0 ≤ w.start
  s1 : w.start ≤ w.cap
  r0 : 0 ≤ w.refill
  r1 : w.refill ≤ 9
  m : w.ms.length ≤ 5
  n : ∀ ss ∈ w.ms, ss.length ≤ 6
  st : ∀ ss ∈ w.ms, ∀ s ∈ ss, StpOk w.cap s
/-- the rights, by number -/
inductive Rgt where
  | rank | turns | wait | least
  deriving DecidableEq
def rgtS : Rgt → Str
  | .rank => "rank"
  | .turns => "turns"
  | .wait => "wait"
  | .least => "least"
def rulD (r : Rgt) (p : Bool) : PyData := .tuple [.str (rgtS r), .bool p]

/-- _law_world: some world -/
def aWorld (K : PySem.W.Frag) : List V → Hp → VK → Prop := fun ws F R => ∃ most cap : Int, ws = [.int most, .int cap] ∧ 0 ≤ most ∧ most ≤ 5 ∧ 1 ≤ cap ∧ cap ≤ 99 ∧
  ∀ (v : V) (F' : Hp) (w : Wld), Ex F F' → Dp K F' v (wldD w) → WldOk w → w.cap ≤ cap → (w.ms.length : Int) ≤ most → (∀ ss ∈ w.ms, ss.length ≤ 4) → R v F'
/-- _law_rule: some rule -/
def aRule (K : PySem.W.Frag) : List V → Hp → VK → Prop := fun ws F R => ws = [] ∧ ∀ (v : V) (F' : Hp) (r : Rgt) (p : Bool), Ex F F' → Dp K F' v (rulD r p) → R v F'

section
variable {S : Type} {J : S → Hp → Hp → Prop} {h c : Addr} {σ : L2.St} {s : S} {F : Hp} {R : V → S → Hp → Prop} {te ta : TE} {E : XK}
theorem ew_next {i : Nat} (hd : Hid J) (hv : σ[i]? = some (some (V.ref h))) (k : EW (HJ h c J) ta σ s F fun y s2 F2 => ∃ n : Int, y = .int n ∧ 0 < n ∧ n ≤ 10000000000000 ∧ ∀ r : Int, 0 ≤ r → r < n → R (.int r) s2 F2) :
    EW (HJ h c J) (tCall (LN aNext) [] E (tCons (tVar i) (tCons ta tNil))) σ s F R := by
  refine ew_draw hd (aw_cons (ew_var hv (aw_cons (k.imp fun y s2 F2 ⟨n, e2, h0, h1, k⟩ => aw_nil ⟨[y], rfl, n, by rw [e2], h0, h1, fun r r0 r1 => k r r0 r1⟩))))
theorem ew_world {i : Nat} {K : PySem.W.Frag} {tb : TE} (hd : Hid J) (hv : σ[i]? = some (some (V.ref h))) (k : EW (HJ h c J) ta σ s F fun y s2 F2 => ∃ most : Int, y = .int most ∧ 0 ≤ most ∧ most ≤ 5 ∧ EW (HJ h c J) tb σ s2 F2 fun z s3 F3 => ∃ cap : Int, z = .int cap ∧ 1 ≤ cap ∧ cap ≤ 99 ∧
      ∀ (v : V) (F' : Hp) (w : Wld), Ex F3 F' → Dp K F' v (wldD w) → WldOk w → w.cap ≤ cap → (w.ms.length : Int) ≤ most → (∀ ss ∈ w.ms, ss.length ≤ 4) → R v s3 F') :
    EW (HJ h c J) (tCall (LN (aWorld K)) [] E (tCons (tVar i) (tCons ta (tCons tb tNil)))) σ s F R := by
  refine ew_draw hd (aw_cons (ew_var hv (aw_cons (k.imp fun y s2 F2 ⟨n, e2, h0, h1, k⟩ => aw_cons (k.imp fun z s3 F3 ⟨cp, e3, h2, h3, k⟩ => aw_nil ⟨[y, z], rfl, n, cp, by rw [e2, e3], h0, h1, h2, h3, k⟩)))))
theorem ew_rule {i : Nat} {K : PySem.W.Frag} (hd : Hid J) (hv : σ[i]? = some (some (V.ref h))) (k : ∀ (v : V) (F' : Hp) (r : Rgt) (p : Bool), Ex F F' → Dp K F' v (rulD r p) → R v s F') :
    EW (HJ h c J) (tCall (LN (aRule K)) [] E (tCons (tVar i) tNil)) σ s F R := by
  refine ew_draw hd (aw_cons (ew_var hv (aw_nil ⟨[], rfl, rfl, k⟩)))
end
theorem LN.body {h c : Addr} {J : Unit → Hp → Hp → Prop} {F H : Hp} {R Q : VK} {t : TS} {σ : L2.St} (j : HJ h c J () F H) (q : ∀ v F' H', HJ h c J () F' H' → R v F' → Q v H')
    (k : SW (HJ h c J) t { nx := fun _ _ F => R .non F, rt := fun v _ F => R v F } σ () F) : t { nx := fun _ H' => Q .non H', rt := Q } σ H := LS.body j q k
end Obr
namespace Obr
open PySem PySem.Spec PyProof.Rows L2 LamX NdefX
/-! ### lambdas that are kept and called elsewhere -/
structure LF where
  qual : Str
  params : Arguments
  body : Expr
  scope : Scope
  cl : List (Str × Addr)
  c : Addr
  dt : Option Addr
def LF.dV (F : LF) : Value := match F.dt with
  | some t => .ref t
  | none => .none
abbrev LF.nf (F : LF) : NF := ⟨"<lambda>", F.qual, F.params, [], F.scope, F.cl, F.c⟩
abbrev LF.fd (F : LF) (doc pm ctv : Value) : FuncData := PySem.W.kdv_fn "<lambda>" F.qual F.params (.expr F.body) F.scope F.cl F.dV doc pm (.ref F.c) ctv
/-- the object at f is the lambda F -/
def LamO (f : Addr) (F : LF) : HO := .ext fun h => ∃ (od : Option Addr) (sl : Array (Option Value)) (doc pm ctv : Value), h.get? f = some (⟨.type "function", od, .func (F.fd doc pm ctv), sl⟩ : Obj)
theorem lamO_at {P : Program} {w : World} {H : Hp} {h : Heap} {f : Addr} {F : LF} (hok : HOk P w H h) (e : H f = some (LamO f F)) : ∃ (od : Option Addr) (sl : Array (Option Value)) (doc pm ctv : Value), h.get? f = some (⟨.type "function", od, .func (F.fd doc pm ctv), sl⟩ : Obj) := by
  obtain ⟨z, _, _⟩ := hok f _ e
  exact z
section
variable {X : Cx} {pins : List (Addr × Obj)} {σ : L2.St} {H : Hp} {s : Shared}
theorem inv_lam {F : LF} {o : Obj} {t' : Nat} {doc pm ctv : Value} (I : Inv X pins σ H s) (ho : o = { cls := .type "function", data := .func (F.fd doc pm ctv) }) :
    Inv X pins σ (upd H s.heap.objs.size (LamO s.heap.objs.size F)) { s with heap := s.heap.push o, toks := t' } := by
  subst ho
  refine I.laid (a := s.heap.objs.size) (fun b u e => Heap.get?_push_of_some _ e) (Nat.le_refl _) ?_
  have e : (s.heap.push ({ cls := .type "function", data := .func (F.fd doc pm ctv) } : Obj)).get? s.heap.objs.size = some ({ cls := .type "function", data := .func (F.fd doc pm ctv) } : Obj) := Heap.get?_push_size _ rfl
  exact ⟨⟨_, _, doc, pm, ctv, e⟩, ⟨_, e⟩, fun h1 h2 ⟨od, sl, d, p, t, z⟩ st => ⟨od, sl, d, p, t, st _ z⟩⟩
/-- how the heap changes when a lambda is made -/
inductive LamStep (H : Hp) (P : Addr) (pos : Pos) (q : Str) (mk : Addr → LF) : Addr → Addr → Hp → Prop where
  | new {ps : Array Value} {f c' : Addr} (hP : H P = some (.tbl ps)) (nc : H c' = none) (nf : upd (upd H P (.tbl (ps ++ #[rawInt pos.line, rawInt pos.col, .ref c']))) c' (CodeO c' q) f = none) :
      LamStep H P pos q mk f c' (upd (upd (upd H P (.tbl (ps ++ #[rawInt pos.line, rawInt pos.col, .ref c']))) c' (CodeO c' q)) f (LamO f (mk c')))
  | hit {ps : Array Value} {f c' : Addr} (hP : H P = some (.tbl ps)) (hc : codeAmong pos ps.toList = some (.ref c')) (nf : H f = none) : LamStep H P pos q mk f c' (upd H f (LamO f (mk c')))
theorem lam_tail {T : List NTab} {nm : Nat → Nat → Str} {c P : Addr} {qual : Str} {params : Arguments} {body : Expr} {scope : Scope} {pos : Pos} {dt : Option Addr} {dV : Value} {fl : Nat} {E : Value → Shared → Prop} {Q : Value → Shared → Prop} (I : Inv X pins σ H s) (TB : TabB X.base X.mg c P) (hcode : X.env.code = .ref c)
    (hm : (P, nm) ∈ T) (hn : nm pos.line pos.col = qual) (hu : ∀ p ∈ T, p.1 = P → p.2 = nm) (hT : TabsN T H) (hfree : ∀ y ∈ scope.names, y.2 = .free → ∃ c, X.env.cells.lookup y.1 = some c)
    (hdV : dV = match dt with | some t => .ref t | none => .none)
    (h : ∀ (f c' : Addr) (H1 : Hp) (s' : Shared), Inv X pins σ H1 s' → LamStep H P pos qual (fun c' => ⟨qual, params, body, scope, cloFrom X.env.cells scope.names [], c', dt⟩) f c' H1 → Q (.ref f) s') :
    wpAny (model X.prog X.w) X.A (makeTail "<lambda>" qual params (.expr body) scope X.env dV .none none pos fl) Q E s := by
  obtain ⟨ps, hP, ht, ha⟩ := (show TabN H P nm from hT _ hm)
  have bP : s.heap.BuiltinsAt X.mg P := TB.bm.keeps I.bk
  have hP' : s.heap.get? P = some { cls := .none, data := .fields ps } := I.hok P _ hP
  have eF : ∀ (c' : Addr) (doc pm ctv : Value), PySem.W.kdv_obj "<lambda>" qual params (.expr body) scope (cloFrom X.env.cells scope.names []) dV doc pm c' ctv = { cls := .type "function", data := .func ((⟨qual, params, body, scope, cloFrom X.env.cells scope.names [], c', dt⟩ : LF).fd doc pm ctv) } := fun c' doc pm ctv => by
    rw [hdV]
    cases dt <;> rfl
  cases hc : codeAmong pos ps.toList with
  | none =>
    refine PySem.W.kdv_makeTail (mg := X.mg) (c := c) (P := P) (ps := ps) (closure_ok hfree) I.ok.glob (I.mod.glob.keeps I.bk) hcode (TB.code.keeps I.bk) hP' ht hc TB.gP bP fun c' ctv doc h' tk hx hge hlt hrec htb => ?_
    obtain ⟨c2, oc, vs, t, e2, hoc, hd, hv⟩ := hrec
    cases e2
    have nC : H c' = none := I.hok.fresh hge
    have I1 := inv_table (t' := tk) (more := #[rawInt pos.line, rawInt pos.col, .ref c']) (h' := h') I hP (fun b o hb e => hx b o hb e) htb hge ⟨oc, vs, t, hoc, hd, hv⟩
    have nF := I1.hok.fresh (Nat.le_refl _)
    have I2 := inv_lam (F := ⟨qual, params, body, scope, cloFrom X.env.cells scope.names [], c', dt⟩) (t' := tk) (doc := doc) (pm := (X.mg "__name__").getD .none) (ctv := ctv) I1 (eF _ _ _ _)
    exact h h'.objs.size c' _ _ I2 (.new hP nC nF)
  | some cv =>
    obtain ⟨c', e, hco⟩ := ha pos cv hc
    subst e
    rw [hn] at hco
    refine PySem.W.kdv_makeTailHit (mg := X.mg) (c := c) (P := P) (ps := ps) (closure_ok hfree) I.ok.glob (I.mod.glob.keeps I.bk) hcode (TB.code.keeps I.bk) hP' ht hc bP fun ctv doc h' tk hx hsz => ?_
    have I1 : Inv X pins σ H { s with heap := h', toks := tk } := I.kept hx
    have nF : H h'.objs.size = none := I1.hok.fresh (Nat.le_refl _)
    have I2 := inv_lam (F := ⟨qual, params, body, scope, cloFrom X.env.cells scope.names [], c', dt⟩) (t' := tk) (doc := doc) (pm := (X.mg "__name__").getD .none) (ctv := ctv) I1 (eF _ _ _ _)
    exact h h'.objs.size c' _ _ I2 (.hit hP hc nF)
end
/-! ### it is made -/
def tLamb (T : List NTab) (P : Addr) (pos : Pos) (q : Str) (mk : Addr → LF) : TE := fun σ H Q => TabsN T H ∧ ∀ (f c' : Addr) (H1 : Hp), LamStep H P pos q mk f c' H1 → Q (.ref f) H1
/-- with a default that is a number -/
def tLambD (T : List NTab) (P : Addr) (pos : Pos) (q : Str) (n : Int) (mk : Addr → Addr → LF) : TE := fun σ H Q => TabsN T H ∧ ∀ t, H t = none → ∀ (f c' : Addr) (H1 : Hp), LamStep (upd H t (.tup [.int n])) P pos q (mk t) f c' H1 → Q (.ref f) H1
section
variable {X : Cx}
theorem pe_lamb {T : List NTab} {nm : Nat → Nat → Str} {c P : Addr} {params : Arguments} {body : Expr} {scope : Scope} {pos : Pos} (TB : TabB X.base X.mg c P) (hcode : X.env.code = .ref c) (hm : (P, nm) ∈ T) (hn : nm pos.line pos.col = X.env.qual ++ "<lambda>") (hu : ∀ p ∈ T, p.1 = P → p.2 = nm)
    (hfree : ∀ y ∈ scope.names, y.2 = .free → X.env.scope.names.lookup y.1 = some .cell ∨ X.env.scope.names.lookup y.1 = some .free) (hd0 : defaultsOf params X.env = ([], [])) :
    PE X (.Lambda params body scope pos) (tLamb T P pos (X.env.qual ++ "<lambda>") fun c' => ⟨X.env.qual ++ "<lambda>", params, body, scope, cloFrom X.env.cells scope.names [], c', none⟩) := by
  refine ⟨fun pins s σ H Q I h => ?_⟩
  obtain ⟨hT, h⟩ := h
  have hfr : ∀ y ∈ scope.names, y.2 = .free → ∃ c, X.env.cells.lookup y.1 = some c := fun y hy e => (hfree y hy e).elim (fun z => I.ok.has _ (.inl z)) fun z => I.ok.has _ (.inr z)
  refine PySem.W.kla_eval hd0 ?_
  rw [makeFunction_eq]
  simp only [List.zip_nil_right, List.filterMap_nil, List.isEmpty_nil, if_true, pure_bind]
  exact lam_tail (dt := none) I TB hcode hm hn hu hT hfr rfl fun f c' H1 s' I1 st => ⟨.ref f, H1, I1, rfl, h f c' H1 st⟩
end
/-! ### what stands behind the step -/
theorem LamStep.facts {T : List NTab} {nm : Nat → Nat → Str} {H H1 : Hp} {P : Addr} {pos : Pos} {q : Str} {mk : Addr → LF} {f c' : Addr} (st : LamStep H P pos q mk f c' H1) (hm : (P, nm) ∈ T) (hn : nm pos.line pos.col = q) (hu : ∀ p ∈ T, p.1 = P → p.2 = nm) (hT : TabsN T H) :
    ExtN H H1 ∧ TabsN T H1 ∧ H f = none ∧ H1 f = some (LamO f (mk c')) ∧ H1 c' = some (CodeO c' q) := by
  obtain ⟨ps0, hP0, ht, ha⟩ := (show TabN H P nm from hT _ hm)
  cases st with
  | @new ps f c' hP nC nF =>
    rw [hP0] at hP
    cases hP
    have hE : ExtN H (upd (upd H P (.tbl (ps0 ++ #[rawInt pos.line, rawInt pos.col, .ref c']))) c' (CodeO c' q)) := fun b o e n => by
      rw [upd_ne (ne_of_none e nC), upd_ne (fun z => n ps0 (Option.some.inj (e.symm.trans (by rw [z]; exact hP0))))]
      exact e
    have eL : (ps0 ++ #[rawInt pos.line, rawInt pos.col, .ref c']).toList = ps0.toList ++ [rawInt pos.line, rawInt pos.col, .ref c'] := by simp
    have T1 : TabsN T (upd (upd H P (.tbl (ps0 ++ #[rawInt pos.line, rawInt pos.col, .ref c']))) c' (CodeO c' q)) := fun p hp => by
      by_cases hb : p.1 = P
      · rw [hu p hp hb, hb]
        refine ⟨_, by rw [upd_ne (ne_of_none hP0 nC), upd_same], by rw [eL]; exact PySem.TriplesOk_snoc _ _ _ _ ht, fun p' cv hcv => ?_⟩
        rw [eL] at hcv
        rcases among_app2 _ ht hcv with z | ⟨z, z1, z2⟩
        · obtain ⟨c0, e1, e2⟩ := ha p' cv z
          exact ⟨c0, e1, hE _ _ e2 codeO_ne⟩
        · refine ⟨c', z, ?_⟩
          rw [← z1, ← z2, hn]
          exact upd_same
      · obtain ⟨ps', a1, a2, a3⟩ := hT p hp
        refine ⟨ps', by rw [upd_ne (ne_of_none a1 nC), upd_ne hb]; exact a1, a2, fun p' cv hcv => ?_⟩
        obtain ⟨c0, e1, e2⟩ := a3 p' cv hcv
        exact ⟨c0, e1, hE _ _ e2 codeO_ne⟩
    have ncf : c' ≠ f := fun z => by rw [z, upd_same] at nF; cases nF
    refine ⟨fun b o e n => ?_, T1.ext fun b o e => (upd_ne (ne_of_none e nF)).trans e, upd_none (upd_none nF), upd_same, (upd_ne ncf).trans upd_same⟩
    have e1 := hE b o e n
    exact (upd_ne (ne_of_none e1 nF)).trans e1
  | @hit ps f c' hP hc nF =>
    rw [hP0] at hP
    cases hP
    obtain ⟨c0, e1, e2⟩ := ha pos _ hc
    cases e1
    rw [hn] at e2
    exact ⟨fun b o e _ => (upd_ne (ne_of_none e nF)).trans e, hT.ext fun b o e => (upd_ne (ne_of_none e nF)).trans e, nF, upd_same, (upd_ne (ne_of_none e2 nF)).trans e2⟩
section
variable {S : Type} {J : S → Hp → Hp → Prop} {σ : L2.St} {s : S} {F : Hp} {R : V → S → Hp → Prop}
theorem tabs_hid (hd : Hid J) {T : List NTab} {H : Hp} (j : J s F H) (hT : TabsN T F) : TabsN T H := hT.ext fun b o e => hd.ex j b o e
theorem step_hid (hd : Hid J) {P : Addr} {pos : Pos} {q : Str} {mk : Addr → LF} {f c' : Addr} {H H1 : Hp} {ps : Array Value} (j : J s F H) (hP : F P = some (.tbl ps)) (st : LamStep H P pos q mk f c' H1) : ∃ F1, LamStep F P pos q mk f c' F1 ∧ J s F1 H1 := by
  have hPH := hd.ex j P _ hP
  cases st with
  | @new ps' f c' hP' nC nF =>
    rw [hPH] at hP'
    cases hP'
    have nPc : c' ≠ P := fun z => by rw [z, hPH] at nC; cases nC
    have j1 := hd.mu (o' := .tbl (ps ++ #[rawInt pos.line, rawInt pos.col, .ref c'])) j hP
    have j2 := hd.al (o := CodeO c' q) j1 (by rw [upd_ne nPc]; exact nC)
    have j3 := hd.al (o := LamO f (mk c')) j2 nF
    exact ⟨_, .new hP (hd.fresh j nC) (hd.fresh j2 nF), j3⟩
  | @hit ps' f c' hP' hc nF =>
    rw [hPH] at hP'
    cases hP'
    exact ⟨_, .hit hP hc (hd.fresh j nF), hd.al j nF⟩
theorem ew_lamb (hd : Hid J) {T : List NTab} {P : Addr} {pos : Pos} {q : Str} {mk : Addr → LF} {ps : Array Value} (hT : TabsN T F) (hP : F P = some (.tbl ps)) (h : ∀ (f c' : Addr) (F1 : Hp), LamStep F P pos q mk f c' F1 → R (.ref f) s F1) : EW J (tLamb T P pos q mk) σ s F R := fun H j Q k =>
  ⟨tabs_hid hd j hT, fun f c' H1 st => by
    obtain ⟨F1, st1, j1⟩ := step_hid hd j hP st
    exact k _ _ _ _ j1 (h f c' F1 st1)⟩
end
end Obr
namespace Obr
open PySem PySem.Spec PyProof.Rows L2 LamX NdefX
/-! ### a lambda is called -/
abbrev LSp := List (Option V) → Hp → VK → XK → Prop
/-- where the lambda F stands: itself, its code, its default -/
structure LamAt (H : Hp) (f : Addr) (F : LF) (ds : List V) : Prop where
  fn : H f = some (LamO f F)
  code : H F.c = some (CodeO F.c F.qual)
  dflt : ∀ t, F.dt = some t → H t = some (.tup ds)
structure LamOk (P : Program) (w : World) (K : PySem.W.Frag) (mg : Str → Option Value) (base : Heap) (CX : CXT) (k : Nat) (f : Addr) (F : LF) (ds : List V) (fr : List Str) (sp : LSp) : Prop where
  run : ∀ (A : Around) (outer : List Env) (s : Shared) (H : Hp) (ws : List (Option V)) (Q : VK) (E : XK), Room k A → Env0 P w K mg base A outer s H → LamAt H f F ds → CellsAt F.cl fr ws s.heap H → sp ws H Q E →
    codeAny (model P w) A (.call (.ref f) ⟨[], []⟩) (CR CX outer P w H s Q E) s
  mono_ : ∀ (ws : List (Option V)) (H : Hp) (Q Q' : VK) (E E' : XK), sp ws H Q E → (∀ v H', Q v H' → Q' v H') → (∀ cls d H', E cls d H' → E' cls d H') → sp ws H Q' E'
section
variable {CX : CXT} {P : Program} {w : World} {K : PySem.W.Frag} {mg : Str → Option Value} {base : Heap} {N ps fr : List Str} {F : LF} {f : Addr} {k j : Nat} {ds : List V} {sp : LSp}
/-- how the defaults are bound -/
def BindD (F : LF) (ps : List Str) (ds : List V) : Prop := ∀ (P : Program) (w : World) (s : Shared) (H : Hp) (doc pm ctv : Value), HOk P w H s.heap → (∀ t, F.dt = some t → H t = some (.tup ds)) → ∃ us, Vals ds us ∧ BindsTo s (F.fd doc pm ctv) ⟨[], []⟩ (ps.zip us)
theorem bind0 (h : ∀ doc pm ctv : Value, bindArgs (F.fd doc pm ctv) ⟨[], []⟩ = pure []) : BindD F [] [] := fun P w s H doc pm ctv _ _ => ⟨[], .nil, BindsTo.of_eq (h doc pm ctv)⟩
theorem lok_of (S : NScope N ps fr F.scope) (hl : ds.length = ps.length) (hb : BindD F ps ds) (hmo : ∀ (ws : List (Option V)) (H : Hp) (Q Q' : VK) (E E' : XK), sp ws H Q E → (∀ v H', Q v H' → Q' v H') → (∀ cls d H', E cls d H' → E' cls d H') → sp ws H Q' E')
    (hbody : ∀ (A : Around) (outer : List Env) (s : Shared) (H : Hp) (ws : List (Option V)) (Q : VK) (E : XK), Room k (A.deeper (envF F.nf f s.heap.objs.size)) → LamAt H f F ds → ws.length = fr.length → sp ws H Q E →
      ∃ t, PE (ncx CX P w K mg base N F.nf f A outer s H E) F.body t ∧ t (startF N ds ws) H Q) :
    LamOk P w K mg base CX (k + 1) f F ds fr sp := by
  refine ⟨fun A outer s H ws Q E hr e0 ha C hsp => ?_, hmo⟩
  have lim : s.heap.NoLimit := e0.mod.nolimit.keeps fun b o e => (e0.bs b o e).1
  obtain ⟨od, sl, doc, pm, ctv, ho⟩ := lamO_at e0.hok ha.fn
  obtain ⟨us, r, hbi⟩ := hb P w s H doc pm ctv e0.hok ha.dflt
  refine PySem.W.kla_callFunE hr.depth ho rfl S.co S.gen rfl (codeO_at e0.hok ha.code) (hbi _ _ _ _ ?_)
  refine wpAny_newFunctionEnv S.nocell (fun ⟨n, _⟩ hy => S.par n (List.of_mem_zip hy).1) (fun h₁ hns hsb => ⟨lim.fresh _ hsb, ?_⟩) S.kind
  show codeAny _ _ (.expr F.body (envF F.nf f s.heap.objs.size)) _ _
  have kp : ∀ b o, s.heap.get? b = some o → h₁.get? b = some o := fun b o e => hsb.extBut b o (Nat.ne_of_lt (Heap.lt_size e)) (Heap.get?_push_of_some _ e)
  obtain ⟨t, ht, hq⟩ := hbody A outer s H ws Q E (hr.deeper _) ha C.len hsp
  have I : Inv (ncx CX P w K mg base N F.nf f A outer s H E) [] (startF N ds ws) H { s with heap := h₁, toks := s.toks + (ps.zip us).length } := inv_startN (F := F.nf) S hr.hd e0 hl r C hns kp
  refine PySem.W.kla_codeExpr (wpAny_mono (ht.run [] _ (startF N ds ws) H Q I hq) (fun v s' hs => ?_) fun e s' hs => hs)
  obtain ⟨v', H', J, rv, q⟩ := hs
  exact ⟨v', H', J.os, J.bare, J.base, J.hok, rv, q⟩
end
section
variable {X : Cx} {pins : List (Addr × Obj)} {σ : L2.St} {H : Hp} {s : Shared} {CX : CXT} {F : LF} {f : Addr} {ds : List V} {fr : List Str} {ws : List (Option V)} {i j k : Nat} {a : Str} {sp : LSp} {E : L2.St → XK} {p pos : Pos}
theorem lamFnAt (I : Inv X pins σ H s) (e : H f = some (LamO f F)) : PySem.W.FnAt f s.heap := by
  obtain ⟨od, sl, doc, pm, ctv, ho⟩ := lamO_at I.hok e
  exact ⟨_, od, _, sl, ho⟩
/-- what the cells held at the frame's entry they hold still; the frames' slots may change -/
theorem cells_later {cl : List (Str × Addr)} (C : CellsAt cl fr ws X.s_0.heap X.H_0) (nx : X.ex = []) (I : Inv X pins σ H s) : CellsAt cl fr ws s.heap H := by
  have nx' : ∀ b : Addr, b ∉ X.ex := fun b z => by rw [nx] at z; cases z
  have kp : ∀ y c, cl.lookup y = some c → ∀ v, X.s_0.heap.IsCell c v → s.heap.IsCell c v := fun y c e v ⟨o, ho, hd⟩ => by
    obtain ⟨sl, q⟩ := I.base.any ho (C.all y c e).1 (nx' c)
    exact ⟨_, q, hd⟩
  refine ⟨C.len, fun y c e => ?_, C.inj, fun i y e => ?_⟩
  · obtain ⟨n, v, z⟩ := C.all y c e
    refine ⟨?_, v, kp y c e v z⟩
    obtain ⟨o, ho, _⟩ := z
    exact I.base.free c o ho n (nx' c)
  · obtain ⟨c, hc, hv⟩ := C.has i y e
    refine ⟨c, hc, fun v ev => ?_⟩
    obtain ⟨u, r, z⟩ := hv v ev
    exact ⟨u, r, kp y c hc _ z⟩
/-- a(), a a name of the running frame that holds a lambda; what its cells hold is told of the frame's entry -/
theorem pe_calll (O : LamOk X.prog X.w X.K X.mg X.base CX k f F ds fr sp) (C : CellsAt F.cl fr ws X.s_0.heap X.H_0) (nx : X.ex = []) (hr : Room j X.A) (hk : k ≤ j) (hx : ∀ σ, PassesAt CX X σ (E σ)) (hN : X.N[i]? = some a) (hv : Vis X.env.scope a)
    (hd : (a == ("__debug__" : Str)) = false := by decide) (hcd : (a == ("__classdict__" : Str)) = false := by decide) :
    PE X (.Call (.Name a p) [] [] pos) (fun σ H Q => σ[i]? = some (some (.ref f)) ∧ LamAt H f F ds ∧ sp ws H Q (E σ)) := by
  refine ⟨fun pins s σ H Q I h => ?_⟩
  obtain ⟨hs, ha, q⟩ := h
  refine wpAny_Call_Name_kw (thn ((pe_var (pos := p) hN hv hd hcd).run pins s σ H (fun v H1 => v = .ref f ∧ H1 = H) I ⟨.ref f, hs, rfl, rfl⟩) fun u s1 ⟨v, H1, I1, r1, q1⟩ => ?_)
  obtain ⟨ev, eH⟩ := q1
  subst ev
  rw [eH] at I1
  obtain rfl : u = Value.ref f := r1
  refine PySem.W.callWith_F0 (first := []) (lamFnAt I1 ha.fn) ?_
  show wpAny _ _ (call (.ref f) []) _ _ _
  refine wpAny_call (codeAny_mono (O.run X.A X.stack s1 H ws Q (E σ) (hr.mono hk) I1.env0 ha (cells_later C nx I1) q) fun r s' hq => ?_)
  cases r with
  | error e => exact hx σ pins H s1 e s' I1 hq
  | ok fl =>
    cases fl with
    | ret u => exact I1.after hq
    | next => exact False.elim hq
    | brk => exact False.elim hq
    | cont => exact False.elim hq
end
/-! ### a def that is handed a lambda and calls it -/
/-- TT: what the def makes of the lambda's promise -/
abbrev TTr := (XK → Hp → VK → Prop) → Hp → VK → XK → Prop
structure GOk (P : Program) (w : World) (K : PySem.W.Frag) (mg : Str → Option Value) (base : Heap) (CX CXl : CXT) (k kl : Nat) (g : Addr) (TT : TTr) : Prop where
  run : ∀ (A : Around) (outer : List Env) (s : Shared) (H : Hp) (f : Addr) (F : LF) (ds : List V) (fr : List Str) (ws : List (Option V)) (sp : LSp) (Q : VK) (E : XK), Room k A → Env0 P w K mg base A outer s H → LamAt H f F ds → CellsAt F.cl fr ws s.heap H →
    LamOk P w K mg base CXl kl f F ds fr sp → TT (fun E' H' Q' => LamAt H' f F ds ∧ sp ws H' Q' E') H Q E → codeAny (model P w) A (.call (.ref g) ⟨[.ref f], []⟩) (CR CX outer P w H s Q E) s
end Obr
namespace Obr
open PySem PySem.Spec PyProof.Rows L2 LamX NdefX
section
variable {X : Cx} {pins : List (Addr × Obj)} {σ : L2.St} {H : Hp} {s : Shared}
/-- b is none of the frame's own things -/
def Away (X : Cx) (pins : List (Addr × Obj)) (b : Addr) : Prop := (b ∈ X.ex ∨ X.s_0.heap.objs.size ≤ b) ∧ b ≠ X.env.locals ∧ (∀ x c, X.env.cells.lookup x = some c → c ≠ b) ∧ ∀ p ∈ X.pn ++ pins, p.1 ≠ b
end
/-! ### [x(a) for a in ..], x a def that is handed a lambda -/
def KCall (X : Cx) (CXl : CXT) (kl : Nat) (TT : TTr) (σ : L2.St) (y : V) (H : Hp) (R : VK) : Prop :=
  ∃ (f : Addr) (F : LF) (ds : List V) (fr : List Str) (js : List Nat) (sp : LSp), y = .ref f ∧ LamAt H f F ds ∧ (X.Ok → Caps X F.cl fr js) ∧ LamOk X.prog X.w X.K X.mg X.base CXl kl f F ds fr sp ∧ TT (fun E' H' Q' => LamAt H' f F ds ∧ sp (js.map (slotAt σ)) H' Q' E') H R C8.E0
def tKC (X : Cx) (CXl : CXT) (kl : Nat) (TT : TTr) (tl : TE) : TE := fun σ H Q => tl σ H fun v H1 => ∃ l xs, v = .ref l ∧ SqL X.K H1 l xs ∧ xs.length ≤ 1000 ∧ (∀ y ∈ xs, ∃ f, y = V.ref f) ∧ ∃ Pv : Nat → List V → Hp → Prop, Pv 0 [] H1 ∧ (∀ i acc H, Pv i acc H → SqL X.K H l xs) ∧
  (∀ (i : Nat) acc y H, xs[i]? = some y → Pv i acc H → KCall X CXl kl TT σ y H fun z H' => Pv (i + 1) (acc ++ [z]) H') ∧ ∀ acc H, Pv xs.length acc H → ∀ D, H D = none → Q (.ref D) (upd H D (.lst acc))
end Obr
namespace PySem.SeqAt
open AutoSeq1 (wpAny_loadPart')
open MeetsSeq MeetsSeq2 MeetsSeq3 SeqRoads2
end PySem.SeqAt
namespace Obr
open PySem L2 PySem.Spec PyProof.Rows
section
variable {X : Cx}
/-- xs.remove(y), the items data of any depth: the first that is equal goes -/
def rRemD (K : PySem.W.Frag) : V → List V → Hp → VK → Prop := fun x xs H Q => ∃ (a : Addr) (vs : List V) (y : V) (d : PyData) (ds : List PyData) (j : Nat) (z : PyData), x = V.ref a ∧ xs = [y] ∧ H a = some (.lst vs) ∧ DpAll K H vs ds ∧ Dp K H y d ∧
  SeqAt.shaped (.list ds) = true ∧ SeqAt.shaped d = true ∧ ds[j]? = some z ∧ PyData.eqv z d = true ∧ (∀ (m : Nat) (z' : PyData), m < j → ds[m]? = some z' → PyData.eqv z' d = false) ∧ Q .non (upd H a (.lst (vs.eraseIdx j)))
/-- tuples of whole numbers and truth values, by < -/
def numV : V → Option Int
  | .int i => some i
  | .bl b => some (b2i b)
  | _ => none
def rLtM (K : PySem.W.Frag) : R2 := fun x y H Q => ∃ (a b : Addr) (xs ys : List V) (ns ms : List Int), x = .ref a ∧ y = .ref b ∧ SqT K H a xs ∧ SqT K H b ys ∧ xs.map numV = ns.map some ∧ ys.map numV = ms.map some ∧
  (∀ (j : Nat) (x y : V), xs[j]? = some x → ys[j]? = some y → (∃ i k, x = V.int i ∧ y = V.int k) ∨ ∃ i k, x = V.bl i ∧ y = V.bl k) ∧
  Q (.bl (Ob.lexAt (fun j => decide (ns.getD j 0 = ms.getD j 0)) (fun j => decide (ns.getD j 0 < ms.getD j 0)) (decide (ns.length < ms.length)) 0 (min ns.length ms.length))) H
end
end Obr
namespace Obr
open PySem L2 PySem.Spec PyProof.Rows
section
variable {S : Type} {J : S → Hp → Hp → Prop} {K : PySem.W.Frag} {s : S} {F : Hp} {R : V → S → Hp → Prop}
theorem rw_neD (hd : Hid J) {x y : V} {d e : PyData} (h1 : Dp K F x d) (h2 : Dp K F y e) (s1 : SeqAt.shaped d = true) (s2 : SeqAt.shaped e = true) (h : R (.bl (!PyData.eqv d e)) s F) : RW J (rNeD K) x y s F R := fun H j Q q =>
  ⟨d, e, dp_ex (hd.ex j) h1, dp_ex (hd.ex j) h2, s1, s2, q _ _ _ _ j h⟩
end
/-! ### flat data is shaped -/
def flatD : PyData → Bool
  | .none => true
  | .bool _ => true
  | .int _ => true
  | .str _ => true
  | _ => false
/-- data of depth n at most -/
def lowD : Nat → PyData → Bool
  | _, .none => true
  | _, .bool _ => true
  | _, .int _ => true
  | _, .str x => PyData.strOk x
  | n + 1, .list ds => ds.all (lowD n)
  | n + 1, .tuple ds => ds.all (lowD n)
  | _, _ => false
theorem lowD_ok : ∀ (n : Nat) (d : PyData), lowD n d = true → d.canLay0 = true ∧ d.depth ≤ n
  | _, .none, _ => by simp [PyData.canLay0, PyData.depth]
  | _, .bool _, _ => by simp [PyData.canLay0, PyData.depth]
  | _, .int _, _ => by simp [PyData.canLay0, PyData.depth]
  | _, .str x, h => by
    have h' : PyData.strOk x = true := by simpa [lowD] using h
    simp [PyData.canLay0, PyData.depth, h']
  | 0, .list ds, h => by simp [lowD] at h
  | 0, .tuple ds, h => by simp [lowD] at h
  | _, .dict ds, h => by simp [lowD] at h
  | n + 1, .list ds, h => by
    have : ∀ ds : List PyData, ds.all (lowD n) = true → PyData.canLayAll0 ds = true ∧ PyData.depthAll ds ≤ n := fun ds => by
      induction ds with
      | nil => intro _; simp [PyData.canLayAll0, PyData.depthAll]
      | cons d ds ih =>
        intro h
        simp only [List.all_cons, Bool.and_eq_true] at h
        have a := lowD_ok n d h.1
        have b := ih h.2
        simp only [PyData.canLayAll0, PyData.depthAll, Bool.and_eq_true]
        exact ⟨⟨a.1, b.1⟩, by omega⟩
    simp only [lowD] at h
    have := this ds h
    simp only [PyData.canLay0, PyData.depth]
    exact ⟨this.1, by omega⟩
  | n + 1, .tuple ds, h => by
    have : ∀ ds : List PyData, ds.all (lowD n) = true → PyData.canLayAll0 ds = true ∧ PyData.depthAll ds ≤ n := fun ds => by
      induction ds with
      | nil => intro _; simp [PyData.canLayAll0, PyData.depthAll]
      | cons d ds ih =>
        intro h
        simp only [List.all_cons, Bool.and_eq_true] at h
        have a := lowD_ok n d h.1
        have b := ih h.2
        simp only [PyData.canLayAll0, PyData.depthAll, Bool.and_eq_true]
        exact ⟨⟨a.1, b.1⟩, by omega⟩
    simp only [lowD] at h
    have := this ds h
    simp only [PyData.canLay0, PyData.depth]
    exact ⟨this.1, by omega⟩
theorem shaped_low {n : Nat} {d : PyData} (h : lowD n d = true) (hn : n ≤ 64 := by decide) : SeqAt.shaped d = true := by
  have := lowD_ok n d h
  show (d.canLay0 && decide (d.depth ≤ 64)) = true
  rw [Bool.and_eq_true]
  exact ⟨this.1, decide_eq_true (by omega)⟩
end Obr
namespace Obr
open PySem L2
theorem cutV_one (a : V) (l : List V) : cutV (a :: l) (some 1) none = l := by
  unfold cutV HT.sIx
  simp
end Obr
namespace Obr
open PySem L2 PySem.Spec PyProof.Rows

/-! ### dicts by keys -/
section
variable {κ : Type} [DecidableEq κ]
end
section
variable {S : Type} {J : S → Hp → Hp → Prop} {K : PySem.W.Frag} {σ : L2.St} {s : S} {F : Hp} {R : V → S → Hp → Prop} {td ty tv te : TE} {D : En S}
/-- the pairs of a display -/
def PPW {S : Type} (J : S → Hp → Hp → Prop) (trs : List (TE × TE)) (σ : L2.St) (s : S) (F : Hp) (R : List (V × V) → S → Hp → Prop) : Prop :=
  ∀ H, J s F H → ∀ Q : List (V × V) → Hp → Prop, (∀ ps s' F' H', J s' F' H' → R ps s' F' → Q ps H') → tPairs trs σ H Q
end
section
variable {X : Cx}
/-- d.update(e), two dicts -/
def rUpdD : V → List V → Hp → VK → Prop := fun x vs H Q => ∃ d o kvs more, x = .ref d ∧ vs = [.ref o] ∧ d ≠ o ∧ H d = some (.dK kvs) ∧ H o = some (.dK more) ∧ kvs.length + more.length ≤ 1000 ∧ Q .non (upd H d (.dK (mergeK kvs more)))
end
section
variable {S : Type} {J : S → Hp → Hp → Prop} {K : PySem.W.Frag} {σ : L2.St} {s : S} {F : Hp} {R : V → S → Hp → Prop} {te : TE} {tr : TA}
end

/-! ### owned cells: F0 knows none of them, F holds each -/
structure Own (F0 F : Hp) (own : List (Addr × HO)) : Prop where
  ex : Ex F0 F
  out : ∀ p ∈ own, F0 p.1 = none
  at_ : ∀ p ∈ own, F p.1 = some p.2
  nd : (own.map (·.1)).Nodup
section
variable {F0 F : Hp} {own : List (Addr × HO)}
theorem Own.get (h : Own F0 F own) {i : Nat} {a : Addr} {o : HO} (e : own[i]? = some (a, o)) : F a = some o := h.at_ (a, o) (List.mem_of_getElem? e)
theorem Own.none (h : Own F0 F own) {i : Nat} {a : Addr} {o : HO} (e : own[i]? = some (a, o)) : F0 a = Option.none := h.out (a, o) (List.mem_of_getElem? e)
theorem own_map_set {i : Nat} {a : Addr} {o o' : HO} (e : own[i]? = some (a, o)) : (own.set i (a, o')).map (·.1) = own.map (·.1) := by
  rw [List.map_set]
  have h : (own.map (·.1))[i]? = some a := by rw [List.getElem?_map, e]; rfl
  refine List.ext_getElem? fun j => ?_
  rw [List.getElem?_set]
  by_cases c : i = j
  · subst c
    rw [if_pos rfl, h]
    have hi : i < own.length := (List.getElem?_eq_some_iff.mp e).1
    simp [hi]
  · rw [if_neg c]
theorem Own.set (h : Own F0 F own) {i : Nat} {a : Addr} {o o' : HO} (e : own[i]? = some (a, o)) : Own F0 (upd F a o') (own.set i (a, o')) where
  ex := h.ex.out (h.none e)
  out := fun p hp => by
    rcases List.mem_or_eq_of_mem_set hp with hp | rfl
    · exact h.out p hp
    · exact h.none e
  at_ := fun p hp => by
    obtain ⟨j, hj⟩ := List.getElem?_of_mem hp
    rw [List.getElem?_set] at hj
    by_cases c : i = j
    · subst c
      rw [if_pos rfl] at hj
      simp at hj
      rw [← hj.2]
      exact upd_same
    · rw [if_neg c] at hj
      have : p.1 ≠ a := fun q => c (nd_ix h.nd (x := a) (by rw [List.getElem?_map, e]; rfl) (by rw [List.getElem?_map, hj]; exact congrArg some q))
      rw [upd_ne this]
      exact h.at_ p (List.mem_of_getElem? hj)
  nd := by rw [own_map_set e]; exact h.nd
/-- a new thing: known to both, or to F alone -/
theorem Own.new (h : Own F0 F own) {p : Addr} {o : HO} (hp : F p = Option.none) : Own (upd F0 p o) (upd F p o) own where
  ex := h.ex.upd
  out := fun q hq => by rw [upd_ne (ne_of_none (h.at_ q hq) hp)]; exact h.out q hq
  at_ := fun q hq => by rw [upd_ne (ne_of_none (h.at_ q hq) hp)]; exact h.at_ q hq
  nd := h.nd
theorem Own.new' (h : Own F0 F own) {p : Addr} {o : HO} (hp : F p = Option.none) : Own F0 (upd F p o) own where
  ex := h.ex.new hp
  out := h.out
  at_ := fun q hq => by rw [upd_ne (ne_of_none (h.at_ q hq) hp)]; exact h.at_ q hq
  nd := h.nd
/-- a new thing that is owned -/
theorem Own.more (h : Own F0 F own) {p : Addr} {o : HO} (hp : F p = Option.none) : Own F0 (upd F p o) ((p, o) :: own) where
  ex := h.ex.new hp
  out := fun q hq => by
    rcases List.mem_cons.mp hq with rfl | hq
    · exact h.ex.free hp
    · exact h.out q hq
  at_ := fun q hq => by
    rcases List.mem_cons.mp hq with rfl | hq
    · exact upd_same
    · rw [upd_ne (ne_of_none (h.at_ q hq) hp)]; exact h.at_ q hq
  nd := by
    rw [List.map_cons, List.nodup_cons]
    refine ⟨fun hm => ?_, h.nd⟩
    obtain ⟨q, hq, e⟩ := List.mem_map.mp hm
    have := h.at_ q hq
    rw [e, hp] at this
    cases this
theorem Own.perm (h : Own F0 F own) {own' : List (Addr × HO)} (p : own'.Perm own) : Own F0 F own' where
  ex := h.ex
  out := fun q hq => h.out q (p.mem_iff.mp hq)
  at_ := fun q hq => h.at_ q (p.mem_iff.mp hq)
  nd := (p.map (·.1)).nodup_iff.mpr h.nd
/-- what is no longer written is known to F0 -/
theorem Own.freeze (h : Own F0 F own) {a : Addr} {o : HO} {own' : List (Addr × HO)} (e : own = (a, o) :: own') : Own (upd F0 a o) F own' := by
  subst e
  exact {
    ex := fun b u hb => by
      by_cases c : b = a
      · subst c
        rw [upd_same] at hb
        rw [← hb]
        exact h.at_ (b, o) List.mem_cons_self
      · rw [upd_ne c] at hb
        exact h.ex b u hb
    out := fun q hq => by
      have : q.1 ≠ a := fun c => by
        have hn := h.nd
        rw [List.map_cons, List.nodup_cons] at hn
        exact hn.1 (by show a ∈ _; rw [← c]; exact List.mem_map_of_mem hq)
      rw [upd_ne this]
      exact h.out q (List.mem_cons_of_mem _ hq)
    at_ := fun q hq => h.at_ q (List.mem_cons_of_mem _ hq)
    nd := (List.nodup_cons.mp (by have := h.nd; rwa [List.map_cons] at this)).2 }
theorem own_nil {F : Hp} : Own F F [] := ⟨.refl _, (fun _ h => by cases h), (fun _ h => by cases h), List.nodup_nil⟩
end
end Obr
namespace Obr
open PySem L2 PySem.Spec PyProof.Rows
theorem Own.grow {F0 F F' : Hp} {own : List (Addr × HO)} (h : Own F0 F own) (g : Ex F F') : Own F0 F' own := ⟨h.ex.trans g, h.out, fun p hp => g _ _ (h.at_ p hp), h.nd⟩
end Obr
namespace Obr
open PySem L2 PySem.Spec PyProof.Rows
end Obr
namespace Obr
open PySem L2 PySem.Spec PyProof.Rows
/-- the list that a comprehension makes stands at D, hidden, with what it has so far -/
def JD {S : Type} (J : S → Hp → Hp → Prop) (D : Addr) (acc : List V) : S → Hp → Hp → Prop := fun s F H => F D = none ∧ J s (upd F D (.lst acc)) H
theorem Hid.jd {S : Type} {J : S → Hp → Hp → Prop} {D : Addr} {acc : List V} (hd : Hid J) : Hid (JD J D acc) where
  ex := fun {s F H} ⟨fd, j⟩ a o e => hd.ex j a o (by rw [upd_ne (fun q => by rw [q, fd] at e; cases e)]; exact e)
  al := fun {s F H p o} ⟨fd, j⟩ hp => by
    have e := hd.fresh j hp
    have n : p ≠ D := fun q => by rw [q, upd_same] at e; cases e
    refine ⟨by rw [upd_ne n.symm]; exact fd, ?_⟩
    have c : upd (upd F p o) D (.lst acc) = upd (upd F D (.lst acc)) p o := by
      funext x
      unfold upd
      by_cases h1 : x = D
      · by_cases h2 : x = p
        · exact absurd (h2.symm.trans h1) n
        · simp [h1, n.symm]
      · by_cases h2 : x = p
        · simp [h2, n]
        · simp [h1, h2]
    rw [c]
    exact hd.al j hp
  mu := fun {s F H a o o'} ⟨fd, j⟩ e => by
    have n : a ≠ D := fun q => by rw [q, fd] at e; cases e
    refine ⟨by rw [upd_ne n.symm]; exact fd, ?_⟩
    have c : upd (upd F a o') D (.lst acc) = upd (upd F D (.lst acc)) a o' := by
      funext x
      unfold upd
      by_cases h1 : x = D
      · by_cases h2 : x = a
        · exact absurd (h2.symm.trans h1) n
        · simp [h1, n.symm]
      · by_cases h2 : x = a
        · simp [h2, n]
        · simp [h1, h2]
    rw [c]
    refine hd.mu j (o := o) ?_
    rw [upd_ne n]
    exact e
section
variable {S : Type} {J : S → Hp → Hp → Prop} {K : PySem.W.Frag} {σ : L2.St} {s : S} {F : Hp} {R : V → S → Hp → Prop} {tl te : TE} {g : TG} {tt : TT} {vs : List Nat} {ta : TA}
/-- what one turn of a comprehension asks -/
def LcTurn (J : S → Hp → Hp → Prop) (Dl : Addr) (g : TG) (tt : TT) (te : TE) (vs : List Nat) (σ : L2.St) (acc : List V) (x : V) (s : S) (F : Hp) (P : List V → S → Hp → Prop) : Prop :=
  GW (JD J Dl acc) g x (wipe σ vs) s F fun σ2 s2 F2 => wipe σ2 vs = wipe σ vs ∧ TW (JD J Dl acc) tt σ2 s2 F2 fun b s3 F3 => (b = true → EW (JD J Dl acc) te σ2 s3 F3 fun y s4 F4 => P (acc ++ [y]) s4 F4) ∧ (b = false → P acc s3 F3)
theorem lc_step (hd : Hid J) {Dl : Addr} {acc : List V} {x : V} {P : List V → S → Hp → Prop} (hz : acc.length < 100000) (h : LcTurn J Dl g tt te vs σ acc x s F P) {H : Hp} (fd : F Dl = none) (j : J s (upd F Dl (.lst acc)) H) {Nx : Hp → Prop}
    (q : ∀ acc s F H, F Dl = none → J s (upd F Dl (.lst acc)) H → P acc s F → Nx H) : g x (wipe σ vs) H fun σ2 H2 => wipe σ2 vs = wipe σ vs ∧ tt σ2 H2 fun b H3 =>
      if b = true then te σ2 H3 fun y H4 => ∃ acc, H4 Dl = some (.lst acc) ∧ acc.length < sizeLine ∧ Nx (upd H4 Dl (.lst (acc ++ [y]))) else Nx H3 :=
  h H ⟨fd, j⟩ _ fun σ2 s2 F2 H2 j2 ⟨hw, k⟩ => ⟨hw, k H2 j2 _ fun b s3 F3 H3 j3 k => by
    cases b with
    | true =>
      refine k.1 rfl H3 j3 _ fun y s4 F4 H4 ⟨fd4, j4⟩ k4 => ⟨acc, hd.ex j4 _ _ upd_same, Nat.lt_of_lt_of_le hz (by decide), q (acc ++ [y]) s4 F4 _ fd4 ?_ k4⟩
      have := hd.mu (o' := .lst (acc ++ [y])) j4 upd_same
      rw [upd_upd] at this
      exact this
    | false => exact q acc s3 F3 _ j3.1 j3.2 (k.2 rfl)⟩
theorem ew_lcT (hd : Hid J) (h : EW J tl σ s F fun v s1 F1 => ∃ a xs, v = .ref a ∧ SqT K F1 a xs ∧ xs.length ≤ 100000 ∧ ∀ Dl, F1 Dl = none → ∃ Pv : Nat → List V → S → Hp → Prop, Pv 0 [] s1 F1 ∧
      (∀ i acc s F, i ≤ xs.length → F Dl = none → Pv i acc s F → SqT K F a xs ∧ acc.length ≤ i) ∧ (∀ (i : Nat) acc x s F, xs[i]? = some x → F Dl = none → Pv i acc s F → LcTurn J Dl g tt te vs σ acc x s F (Pv (i + 1))) ∧
      (∀ acc s F, F Dl = none → Pv xs.length acc s F → R (.ref Dl) s (upd F Dl (.lst acc)))) : EW J (tLc (iTup K tl) g tt te vs) σ s F R := fun H j Q q =>
  h H j _ fun v s1 F1 H1 j1 ⟨a, xs, e, l1, hz, k⟩ => ⟨a, e, ⟨xs, hd.sqT j1 l1⟩, fun Dl hD => by
    have fD := hd.fresh j1 hD
    obtain ⟨Pv, h0, hl, hs, hdn⟩ := k Dl fD
    refine lc_tup (xs := xs) (fun i H => ∃ acc s F, i ≤ xs.length ∧ F Dl = none ∧ J s (upd F Dl (.lst acc)) H ∧ Pv i acc s F) ⟨[], s1, F1, Nat.zero_le _, fD, hd.al j1 hD, h0⟩ (fun i H' hi ⟨acc, s', F', _, f1, j', p⟩ => ?_) (fun i x H' hi ⟨acc, s', F', hle, f1, j', p⟩ => ?_) (fun H' ⟨acc, s', F', _, f1, j', p⟩ => q _ _ _ _ j' (hdn acc s' F' f1 p))
    · refine hd.sqT j' ?_
      obtain ⟨f2, _⟩ := hl i acc s' F' hi f1 p
      exact Ex.sqT (Ex.out (Ex.refl _) f1) f2
    · have hlt := (List.getElem?_eq_some_iff.mp hi).1
      obtain ⟨f2, f3⟩ := hl i acc s' F' hle f1 p
      exact lc_step hd (by omega) (hs i acc x s' F' hi f1 p) f1 j' fun acc s F H fd j p => ⟨acc, s, F, by omega, fd, j, p⟩⟩
theorem ew_lcL (hd : Hid J) (h : EW J tl σ s F fun v s1 F1 => ∃ a xs, v = .ref a ∧ SqL K F1 a xs ∧ xs.length ≤ 100000 ∧ ∀ Dl, F1 Dl = none → ∃ Pv : Nat → List V → S → Hp → Prop, Pv 0 [] s1 F1 ∧
      (∀ i acc s F, i ≤ xs.length → F Dl = none → Pv i acc s F → SqL K F a xs ∧ acc.length ≤ i) ∧ (∀ (i : Nat) acc x s F, xs[i]? = some x → F Dl = none → Pv i acc s F → LcTurn J Dl g tt te vs σ acc x s F (Pv (i + 1))) ∧
      (∀ acc s F, F Dl = none → Pv xs.length acc s F → R (.ref Dl) s (upd F Dl (.lst acc)))) : EW J (tLc (iList K tl) g tt te vs) σ s F R := fun H j Q q =>
  h H j _ fun v s1 F1 H1 j1 ⟨a, xs, e, l1, hz, k⟩ => ⟨a, e, ⟨xs, hd.sqL j1 l1⟩, fun Dl hD => by
    have fD := hd.fresh j1 hD
    obtain ⟨Pv, h0, hl, hs, hdn⟩ := k Dl fD
    refine lc_list (xs := xs) (fun i H => ∃ acc s F, i ≤ xs.length ∧ F Dl = none ∧ J s (upd F Dl (.lst acc)) H ∧ Pv i acc s F) ⟨[], s1, F1, Nat.zero_le _, fD, hd.al j1 hD, h0⟩ (fun i H' hi ⟨acc, s', F', _, f1, j', p⟩ => ?_) (fun i x H' hi ⟨acc, s', F', hle, f1, j', p⟩ => ?_) (fun H' ⟨acc, s', F', _, f1, j', p⟩ => q _ _ _ _ j' (hdn acc s' F' f1 p))
    · refine hd.sqL j' ?_
      obtain ⟨f2, _⟩ := hl i acc s' F' hi f1 p
      exact Ex.sqL (Ex.out (Ex.refl _) f1) f2
    · have hlt := (List.getElem?_eq_some_iff.mp hi).1
      obtain ⟨f2, f3⟩ := hl i acc s' F' hle f1 p
      exact lc_step hd (by omega) (hs i acc x s' F' hi f1 p) f1 j' fun acc s F H fd j p => ⟨acc, s, F, by omega, fd, j, p⟩⟩
theorem ew_lcR (hd : Hid J) (h : AW J ta σ s F fun ws s1 F1 => ∃ n : Int, ws = [.int n] ∧ n ≤ 100000 ∧ -100000 ≤ n ∧ ∀ Dl, F1 Dl = none → ∃ Pv : Nat → List V → S → Hp → Prop, Pv 0 [] s1 F1 ∧
      (∀ (i : Nat) acc s F, i ≤ n.toNat → F Dl = none → Pv i acc s F → acc.length ≤ i) ∧ (∀ (i : Nat) acc s F, (i : Int) < n → F Dl = none → Pv i acc s F → LcTurn J Dl g tt te vs σ acc (.int (i : Int)) s F (Pv (i + 1))) ∧
      (∀ acc s F, F Dl = none → Pv n.toNat acc s F → R (.ref Dl) s (upd F Dl (.lst acc)))) : EW J (tLc (iRng1 ta) g tt te vs) σ s F R := fun H j Q q =>
  h H j _ fun v s1 F1 H1 j1 ⟨n, e, hz, hz2, k⟩ => ⟨n, e, by omega, by omega, fun Dl hD => by
    have fD := hd.fresh j1 hD
    obtain ⟨Pv, h0, hl, hs, hdn⟩ := k Dl fD
    refine lc_range (lo := 0) (n := n.toNat) (fun i H => ∃ acc s F, i ≤ n.toNat ∧ F Dl = none ∧ J s (upd F Dl (.lst acc)) H ∧ Pv i acc s F) ⟨[], s1, F1, Nat.zero_le _, fD, hd.al j1 hD, h0⟩ (fun i H' hi ⟨acc, s', F', hle, f1, j', p⟩ => ?_) (fun H' ⟨acc, s', F', _, f1, j', p⟩ => q _ _ _ _ j' (hdn acc s' F' f1 p))
    have f3 := hl i acc s' F' hle f1 p
    have e0 : (0 : Int) + (i : Int) = (i : Int) := Int.zero_add _
    rw [e0]
    exact lc_step hd (by omega) (hs i acc s' F' (by omega) f1 p) f1 j' fun acc s F H fd j p => ⟨acc, s, F, by omega, fd, j, p⟩⟩
end
end Obr
namespace Obr
open PySem PySem.Spec PyProof.Rows L2 LamX NdefX
/-! ### defs that raise -/
/-- the promise of a def that ends by raising -/
def LX (A : List V → Hp → (Value → Option Addr → Hp → Prop) → Prop) : Sp := fun vs H _ E => ∃ (J : Unit → Hp → Hp → Prop) (F : Hp) (W : Value → Option Addr → Hp → Prop), Hid J ∧ J () F H ∧ A vs F W ∧ ∀ cls d F' H', J () F' H' → W cls d F' → E cls d H'
theorem LX.body {J : Unit → Hp → Hp → Prop} {F H : Hp} {Q : VK} {t : TS} {σ : L2.St} (j : J () F H) (h : SW J t { nx := fun _ _ _ => False, rt := fun _ _ _ => False } σ () F) : t { nx := fun _ H' => Q .non H', rt := Q } σ H :=
  h H j _ ⟨fun _ _ _ _ _ k => k.elim, fun _ _ _ _ _ k => k.elim, fun _ _ _ _ _ k => k.elim, fun _ _ _ _ _ k => k.elim⟩
section
variable {S : Type} {J : S → Hp → Hp → Prop} {K : PySem.W.Frag} {σ : L2.St} {s : S} {F : Hp} {R : V → S → Hp → Prop} {tr : TA} {te : TE} {A : List V → Hp → (Value → Option Addr → Hp → Prop) → Prop} {E : XK}
/-- a call that raises -/
theorem ew_callX (hd : Hid J) (h : AW J tr σ s F fun vs s1 F1 => ∃ W : Value → Option Addr → Hp → Prop, A vs F1 W ∧ ∀ cls d F' H', J s1 F' H' → W cls d F' → E cls d H') : EW J (tCall (LX A) [] E tr) σ s F R := fun H j Q q =>
  h H j _ fun vs s1 F1 H1 j1 ⟨W, a, k⟩ => by
    show LX A (vs ++ []) H1 Q E
    rw [List.append_nil]
    exact ⟨_, F1, W, hd.unit s1, j1, a, fun cls d F' H' j' w => k cls d F' H' j' w⟩
end
/-! ### how often a flat value stands in a list -/
section
variable {X : Cx}
def rCntV (K : PySem.W.Frag) : V → List V → Hp → VK → Prop := fun x xs H Q => ∃ (p : Addr) (ys : List V) (y : V), x = .ref p ∧ xs = [y] ∧ SqL K H p ys ∧ flatV y = true ∧ ys.all flatV = true ∧ Q (.int (ys.countP fun z => eqV z y : Nat)) H
theorem count_eqU {y : V} : ∀ {ys : List V} {us : List Value}, Vals ys us → ys.all flatV = true → us.countP (eqU y) = ys.countP fun z => eqV z y
  | [], _, .nil, _ => rfl
  | a :: ys, _, .cons ra rt, h => by
    rw [List.all_cons, Bool.and_eq_true] at h
    rw [List.countP_cons, List.countP_cons, count_eqU rt h.2, eqU_of ra h.1]
theorem mt_countV : MtR X "list.count" (rCntV X.K) := by
  intro pins s σ H x xs v us Q I rx rxs h
  obtain ⟨p, ys, y, rfl, rfl, hs, fy, fys, q⟩ := h
  cases rx
  obtain ⟨u, rfl, ru⟩ := rxs.one
  obtain ⟨its, rv, ⟨⟨cls, dd, data, sl⟩, n, ho, hc, hdn, hd⟩, hlen⟩ := I.list hs
  simp only at hc hd
  subst hc hd
  refine call_meets PySem.F.slot_list_count ⟨_, ho, rfl⟩ PySem.F.entry_list_count (PySem.F.args_list_count_2 _ _)
    (SeqAt.list_countAt p its.toArray n dd sl u (eqU y)) ⟨ho, fun u' hu' => mem_eqAt ru fy rv fys u' (by simpa using hu'), ?_⟩
  refine ⟨.int (ys.countP fun z => eqV z y : Nat), H, I.tok _, ⟨s.toks, ?_⟩, q⟩
  show Value.int ((its.toArray.toList.countP (eqU y) : Nat) : Int) s.toks = _
  rw [show its.toArray.toList = its from rfl, count_eqU rv fys]
end
section
variable {S : Type} {J : S → Hp → Hp → Prop} {K : PySem.W.Frag} {s : S} {F : Hp} {R : V → S → Hp → Prop}
theorem mw_countV (hd : Hid J) {p : Addr} {ys : List V} {y : V} (l : SqL K F p ys) (fy : flatV y = true) (fys : ys.all flatV = true) (h : R (.int (ys.countP fun z => eqV z y : Nat)) s F) : MW J (rCntV K) (.ref p) [y] s F R := fun H j Q q => ⟨p, ys, y, rfl, rfl, hd.sqL j l, fy, fys, q _ _ _ _ j h⟩
theorem mw_indexV (hd : Hid J) {p : Addr} {ys : List V} {y z : V} {i : Nat} (l : SqL K F p ys) (fy : flatV y = true) (fys : ys.all flatV = true) (h1 : ys[i]? = some z) (h2 : eqV z y = true) (h3 : ∀ (m : Nat) (z' : V), m < i → ys[m]? = some z' → eqV z' y = false) (h : R (.int (i : Nat)) s F) : MW J (rIndex K) (.ref p) [y] s F R := fun H j Q q =>
  ⟨p, ys, y, i, z, rfl, rfl, hd.sqL j l, fy, fys, h1, h2, h3, q _ _ _ _ j h⟩
end
/-- what is told of an own exception class without own words -/
structure XF (K : PySem.W.Frag) (mg : Str → Option Value) (x : Str) (C : Addr) : Prop where
  xF : PySem.W.excIn K C [Value.type "ValueError", Value.type "Exception", Value.type "BaseException", Value.type "object"] "ValueError.__new__" = true
  gF : mg x = some (.ref C)
  kF : PySem.W.keepIn K (.ref C) = true
  bF : PySem.W.subIn K (.ref C) (.type "BaseException") = some true
  tF : PySem.W.typeIn K (.ref C) = some (.type "type")
end Obr
namespace Obr
open PySem PySem.Spec L2 LamX NdefX PyProof.Rows
/-! ### what stays when a table has changed; a def with its code object -/
theorem extN_sqT {F G : Hp} (g : ExtN F G) {K a xs} (h : SqT K F a xs) : SqT K G a xs := by
  rcases h with (h | ⟨o, h⟩) | h
  · exact Or.inl (Or.inl (g _ _ h (fun ps z => by cases z)))
  · exact Or.inl (Or.inr ⟨o, g _ _ h (fun ps z => by cases z)⟩)
  · exact Or.inr h
theorem extN_sqL {F G : Hp} (g : ExtN F G) {K a xs} (h : SqL K F a xs) : SqL K G a xs := by
  rcases h with (h | ⟨o, h⟩) | h
  · exact Or.inl (Or.inl (g _ _ h (fun ps z => by cases z)))
  · exact Or.inl (Or.inr ⟨o, g _ _ h (fun ps z => by cases z)⟩)
  · exact Or.inr h
mutual
theorem dp_extN {K : PySem.W.Frag} {F G : Hp} (g : ExtN F G) : ∀ {d : PyData} {v : V}, Dp K F v d → Dp K G v d
  | .none, _, h => by cases h; exact .non
  | .bool b, _, h => by cases h; exact .bl b
  | .int i, _, h => by cases h; exact .int i
  | .str x, _, h => by cases h; exact .str x
  | .list ds, _, h => by
    cases h with
    | lst hs ha => exact .lst (extN_sqL g hs) (dps_extN g ha)
  | .tuple ds, _, h => by
    cases h with
    | tup hs ha => exact .tup (extN_sqT g hs) (dps_extN g ha)
  | .dict _, _, h => by cases h
theorem dps_extN {K : PySem.W.Frag} {F G : Hp} (g : ExtN F G) : ∀ {ds : List PyData} {vs : List V}, DpAll K F vs ds → DpAll K G vs ds
  | [], _, h => by cases h; exact .nil
  | d :: ds, _, h => by
    cases h with
    | cons h1 h2 => exact .cons (dp_extN g h1) (dps_extN g h2)
end
theorem Fun.okC {P : Program} {w : World} {K : PySem.W.Frag} {mg : Str → Option Value} {base : Heap} {x qual : Str} {st : Stmt} {f : Addr} {fd : FuncData} {N ps : List Str} {k : Nat} {sp : Sp} (F : Fun K x qual st f fd) (S : FnScope N ps (defScope st)) (len : ∀ vs H Q E, sp vs H Q E → vs.length = ps.length)
    (hbody : ∀ (cdv : Value) (_ : fd.code = cdv) (A : Around) (outer : List Env) (s : Shared) (H : Hp) (vs : List V) (Q : VK) (E : XK), Room k (A.deeper (envOfC qual (defScope st) s.heap.objs.size f cdv)) → sp vs H Q E →
      ∃ t, PSs (cxOf CX0 P w K mg base N qual (defScope st) f cdv A outer s H E).nox (defBody st) t ∧ t { nx := fun _ H' => Q .non H', rt := Q } (start N vs) H) : FnOk P w K mg base CX0 (k + 1) f fd ps sp := by
  obtain ⟨oc, od, kV, doc, pm, an, cdv, ct, osl, rfl, lk, hcd⟩ := F.ex
  refine fn_of lk hcd S len fun A outer s H vs Q E hr hsp => ?_
  obtain ⟨t, h, q⟩ := hbody cdv rfl A outer s H vs Q E hr hsp
  exact ⟨t, h.nox, q⟩
/-! ### the law -/
def lamQ : Str := "law" ++ ".<locals>." ++ "<lambda>"
abbrev lamT (P : Addr) : List NTab := [(P, fun _ _ => lamQ)]
end Obr
/-! ### a caught exception with fields: isinstance, and its fields -/
namespace Obr
open PySem PySem.Spec PyProof.Rows L2
/-- isinstance(e, c), e caught, its fields at dx -/
def rIsX (K : PySem.W.Frag) (D a dx : Addr) : List V → Hp → VK → Prop := fun xs F R => ∃ (c : V) (cv : Value) (yes : Bool) (fs : List (Str × V)), xs = [.ref a, c] ∧ (∀ u, L2.RelV c u → u = cv) ∧ PySem.W.kitOne K (.ref D) cv = some yes ∧ F dx = some (.xd fs) ∧ R (.bl yes) F
theorem call_isX {X : Cx} {a D dx : Addr} {oe : Obj} {pn : List (Addr × Obj)} (T : ExcC X.K D) (hz : Zc (.ref D) (some dx) oe) (hf : ∃ vs, oe.data = .fields vs) : CallR (X.suite a ((a, oe) :: pn)) (.builtin "isinstance") (rIsX X.K D a dx) := fun pins s σ H xs us Q I rs ⟨c, cv, yes, fs, ex, hcv, hk, hd, z⟩ => by
  subst ex
  match us, rs with
  | [_, _], .cons r1 (.cons r2 .nil) =>
    cases r1
    cases hcv _ r2
    obtain ⟨got, _⟩ := I.pin (a, oe) (List.mem_append_left _ List.mem_cons_self)
    obtain ⟨vs, data⟩ := hf
    have dict : ObjOk X.prog X.w H s.heap dx (.xd fs) := I.hok dx _ hd
    obtain ⟨_, ns, _⟩ := dict
    obtain ⟨od, at_, _⟩ := lookIn_ns ns
    have inst : PySem.W.InstAt s.heap a oe D (some od) := ⟨got, hz.1, by unfold PySem.W.notCls; rw [data] <;> rfl, by rw [hz.2]; exact at_⟩
    have cl : (PySem.W.clsIn X.K D).isSome = true := by
      have h := T.hd
      unfold PySem.W.hasDictIn at h
      cases e : PySem.W.clsIn X.K D with
      | none => rw [e] at h; cases h
      | some _ => rfl
    exact PySem.W.kia_one (PySem.W.kitx_exc cl T.hg T.hk T.hs T.ha T.hn T.ht T.hm) I.kIn inst hk nofun fun tk => ⟨.bl yes, H, I.kept (t' := tk) fun _ _ y => y, rfl, z⟩
section
variable {S : Type} {J : S → Hp → Hp → Prop} {K : PySem.W.Frag} {s : S} {F : Hp} {R : V → S → Hp → Prop} {σ : L2.St} {te : TE}
theorem cw_isX (hd : Hid J) {D a dx : Addr} {c : V} {cv : Value} {yes : Bool} {fs : List (Str × V)} (h1 : ∀ u, L2.RelV c u → u = cv) (h2 : PySem.W.kitOne K (.ref D) cv = some yes) (h3 : F dx = some (.xd fs)) (h : R (.bl yes) s F) : CW J (rIsX K D a dx) [.ref a, c] s F R := fun H j Q q => ⟨c, cv, yes, fs, rfl, h1, h2, hd.ex j _ _ h3, q _ _ _ _ j h⟩
theorem ew_xf (hd : Hid J) {a C dx : Addr} {n : Str} (h : EW J te σ s F fun x s1 F1 => x = .ref a ∧ ∃ (fs : List (Str × V)) (v : V), F1 dx = some (.xd fs) ∧ fs.lookup n = some v ∧ R v s1 F1) : EW J (tXf a (.ref C) (some dx) C n te) σ s F R := fun H j Q q =>
  h H j _ fun x s1 F1 H1 j1 ⟨ex, fs, v, e, l, k⟩ => ⟨ex, rfl, dx, fs, v, rfl, hd.ex j1 _ _ e, l, q _ _ _ _ j1 k⟩
end
end Obr
/-! ### k(e), k a def that is handed a lambda -/
namespace Obr
open PySem PySem.Spec L2 LamX NdefX PyProof.Rows
def tKCall (X : Cx) (CXl : CXT) (kl : Nat) (TT : TTr) (ta : TA) : TE := fun σ H Q => ta σ H fun vs G => ∃ v, vs = [v] ∧ KCall X CXl kl TT σ v G Q
theorem pe_kcall {X : Cx} {ta : TA} {e : Expr} {x : Str} {g : Addr} {p pos : Pos} {TT : TTr} {CXl : CXT} {kg kl j : Nat} (ha : PA X [e] ta) (hg : Gl X x) (hm : X.mg x = some (.ref g)) (hk : PySem.W.keepIn X.K (.ref g) = true)
    (G : GOk X.prog X.w X.K X.mg X.base C8.CX0 CXl kg kl g TT) (hr : Room j X.A) (hj : kg ≤ j) (dbg : (x == ("__debug__" : Str)) = false := by decide)
    (one : starEach [e] X.env = (false, eval e X.env) :: starEach [] X.env := by rfl) (plain : (backTo pos (starEach [] X.env)).any (·.1) = false := by rfl) :
    PE X (.Call (.Name x p) [e] [] pos) (tKCall X CXl kl TT ta) := ⟨fun pins s σ H Q I h => by
  refine wpAny_Call_Name_kw (ld_glob I hg hm (PySem.W.callWith_K (h₀ := X.base) I.ok.mod.kin hk (thn (ha.run pos pins s σ H _ I h) ?_) one plain) dbg)
  rintro us s1 ⟨_, G1, J, rs, _, rfl, f, F, ds, fr, js, sp, rfl, lat, cap, lok, tt⟩
  refine ⟨J.kIn, ?_⟩
  match us, rs with
  | [_], .cons r .nil =>
    cases r
    refine wpAny_call (codeAny_mono (G.run X.A X.stack s1 G1 f F ds fr _ sp _ C8.E0 (hr.mono hj) J.env0 lat (cells_of J (cap J.ok)) lok tt) ?_)
    intro r2 s2 y
    match r2, y with
    | .error _, y => exact (show False from y).elim
    | .ok (.ret u), y =>
      obtain ⟨z, G2, sameOs, bare, un, ok, rz, told⟩ := y
      exact ⟨z, G2, J.call' (ch := []) sameOs un ok bare (fun b hb => nomatch hb), rz, told⟩
    | .ok .next, y => exact False.elim y
    | .ok .brk, y => exact False.elim y
    | .ok .cont, y => exact False.elim y⟩
end Obr
namespace Obr
open PySem L2
def top (i : Nat) : Stmt := PySem.Challenge.pw_onebreath_k29_whole_machines_called_othe.main.body.getD i (.Pass ⟨0, 0, 0, 0⟩)

local macro_rules | `(tactic| walk_at "ob_at") => `(tactic| first
  | assumption
  | exact upd_same
  | (refine Eq.trans (upd_ne ?obn) ?obr; (case obn => walk_at "ob_ne"); (case obr => walk_at "ob_at")))
local macro_rules | `(tactic| walk_at "ob_ne") => `(tactic| first
  | assumption
  | (refine Ne.symm ?obs; (case obs => assumption))
  | (refine' ne_of_none (H := ?_) ?obe ?obh; (case obh => assumption); (case obe => walk_at "ob_at"))
  | (refine Ne.symm ?obs; (case obs => (refine' ne_of_none (H := ?_) ?obe ?obh; (case obh => assumption); (case obe => walk_at "ob_at")))))
local macro_rules | `(tactic| walk_at "ob_fr") => `(tactic| first
  | assumption
  | (refine Eq.trans (upd_ne ?obn) ?obr; (case obn => walk_at "ob_ne"); (case obr => walk_at "ob_fr"))
  | (refine Ex.free (G := ?_) (by assumption) ?obh; (case obh => walk_at "ob_fr")))
local macro_rules | `(tactic| walk_at "ob_ex") => `(tactic| first
  | assumption
  | exact Ex.refl _
  | (refine Ex.out ?obg ?obh; (case obh => assumption); (case obg => walk_at "ob_ex"))
  | (refine Ex.new ?obg ?obh; (case obh => assumption); (case obg => walk_at "ob_ex"))
  | (refine Ex.new ?obg ?obh; (case obh => walk_at "ob_fr"); (case obg => walk_at "ob_ex")))
local macro_rules | `(tactic| walk_at "ob_sq") => `(tactic| first
  | assumption
  | (refine SqL.of ?oba; (case oba => walk_at "ob_at"))
  | (refine SqT.of ?oba; (case oba => walk_at "ob_at")))
local macro_rules | `(tactic| walk_at "ob_side") => `(tactic| first | exact rfl | assumption | decide | omega | exact ⟨by decide, by decide, by decide⟩ | exact Or.inr ⟨by decide, by decide⟩ | exact Or.inl ⟨by decide, by decide⟩)
local macro_rules | `(tactic| walk_at "ob1") => `(tactic| first
  | with_reducible refine sw_seq ?_
  | with_reducible refine sw_asg ?_
  | with_reducible refine sw_ret ?_
  | with_reducible refine sw_drop ?_
  | with_reducible refine sw_if ?_
  | with_reducible refine sw_next ?_
  | with_reducible refine gw_name ?_
  | with_reducible refine ew_c ?_
  | ((with_reducible refine' ew_var (v := ?_) ?obv ?_); (case obv => exact rfl))
  | with_reducible refine ew_op ?_
  | with_reducible refine ew_un ?_
  | with_reducible refine ew_cb ?_
  | with_reducible refine ew_if ?_
  | with_reducible refine aw_nil ?_
  | with_reducible refine aw_cons ?_
  | with_reducible refine rw_I0 ?_
  | ((with_reducible refine rw_I ?obc ?_); (case obc => walk_at "ob_side"))
  | ((with_reducible refine rw_eq ?obc ?_); (case obc => exact rfl))
  | ((with_reducible refine rw_ne ?obc ?_); (case obc => exact rfl))
  | with_reducible refine cw_max2 ?_
  | with_reducible refine cw_min2 ?_
  | with_reducible refine tw_test ?_
  | with_reducible refine tw_B ?_
  | with_reducible refine tw_not ?_
  | with_reducible refine ⟨_, rfl, ?_⟩
  | ((with_reducible refine' rw_ixL (v := ?_) (xs := ?_) (by assumption) ?obl ?oba ?_); (case obl => walk_at "ob_sq"); (case oba => exact rfl))
  | ((with_reducible refine' rw_ixT (v := ?_) (xs := ?_) (by assumption) ?obl ?oba ?_); (case obl => walk_at "ob_sq"); (case oba => exact rfl))
  | ((with_reducible refine' ew_lst (by assumption) ?_))
  | ((with_reducible refine' ew_tup (by assumption) ?_)))
local macro_rules | `(tactic| walk_at "ob") => `(tactic| repeat walk_at "ob1")

abbrev sNext : Stmt := top 57
def N_next : List Str := ["_law_h", "_law_many", "_law_cell"]
theorem sc_next : FnScope N_next ["_law_h", "_law_many"] (defScope sNext) := ⟨rfl, rfl, rfl, by decide +kernel, rfl, by decide +kernel, by decide +kernel⟩
section
variable {P : Program} {w : World} {K : PySem.W.Frag} {mg : Str → Option Value} {base : Heap}

theorem ok_next {f : Addr} {fd : FuncData} (Fn : Fun K "_law_next" "_law_next" sNext f fd) (B : Blt mg) : FnOk P w K mg base CX0 1 f fd ["_law_h", "_law_many"] (LN aNext) := by
  refine Fn.ok sc_next (fun vs H Q E h => ?_) (fun cdv A outer s H vs Q E hr h => ?_)
  · obtain ⟨h, c, J, F, R, ws, hd, rfl, j, ⟨n, rfl, _⟩, _⟩ := h
    rfl
  · have nd := sc_next.nd
    obtain ⟨h, c, J, F, R, ws, hd, rfl, ⟨G, m, p, cells, g, fh, fc, m0, m1, p0, l, gh, gc, j⟩, ⟨n, rfl, n0, n1, k⟩, q⟩ := h
    have hc : h ≠ c := fun e => by
      subst e
      rw [gh] at gc
      have := Option.some.inj gc
      unfold hL cL at this
      injection this with e1
      cases cells with
      | nil => cases e1
      | cons z t => cases t with
        | nil => cases e1
        | cons z2 t =>
          have := (List.cons.inj (List.cons.inj e1).2).1
          cases this
    refine ⟨_, (pss_cons (ps_set (i := 2) nd rfl (Or.inl rfl) (pe_ix ix_list (pe_op op_cat (pe_ix ix_list (pv 0) pe_int (fun _ _ => rfl)) (pe_lst (pa_cons pe_int pa_nil))) (pe_op op_mod (pe_ix ix_list (pv 0) pe_int (fun _ _ => rfl)) (pe_callB (call_max2 rfl) (by rfl) B.max (by decide +kernel) (pa_cons pe_int (pa_cons (pe_callB call_len_seq (by rfl) B.len (by decide +kernel) (pa_cons (pe_ix ix_list (pv 0) pe_int (fun _ _ => rfl)) pa_nil)) pa_nil)))) (fun _ _ => rfl)))
      (pss_cons (ps_if (pt_cmpR op_ge (pv 2) (pe_op op_pow pe_int pe_int) (nomark _)) (pss_cons (ps_asg (pe_op op_fdivW (pv 2) (pv 1)) (pg_sub (pe_ix ix_list (pv 0) pe_int (fun _ _ => rfl)) (pe_op op_mod (pe_ix ix_list (pv 0) pe_int (fun _ _ => rfl)) (pe_callB call_len_seq (by rfl) B.len (by decide +kernel) (pa_cons (pe_ix ix_list (pv 0) pe_int (fun _ _ => rfl)) pa_nil))) set_list))
      (pss_one (ps_ret (pe_op op_mod (pv 2) (pv 1))))) pss_nil)
      (pss_cons (ps_asg (pe_op op_mod (pe_op op_add (pe_op op_add (pe_op op_mul (pe_ix ix_list (pv 0) pe_int (fun _ _ => rfl)) pe_int) (pe_op op_mul (pv 2) pe_int)) pe_int) pe_int) (pg_sub (pv 0) pe_int set_list))
      (pss_cons (ps_asg (pe_op op_add (pe_ix ix_list (pv 0) pe_int (fun _ _ => rfl)) pe_int) (pg_sub (pv 0) pe_int set_list))
      (pss_one (ps_ret (pe_op op_mod (pe_op op_fdivW (pe_ix ix_list (pv 0) pe_int (fun _ _ => rfl)) pe_int) (pv 1)))))))), ?_⟩
    refine LS.body j (R := fun v G => ∃ (m p : Int) (cells : List Int), Ex F G ∧ 0 ≤ m ∧ m < 2147483647 ∧ 0 ≤ p ∧ cells.length ≤ 63 ∧ G h = some (hL c m p) ∧ G c = some (cL cells) ∧ R v F)
      (fun v G' H' j' ⟨m', p', cells', g1, g4, g5, g6, g7, e1, e2, r⟩ => q v F H' ⟨G', m', p', cells', g1, fh, fc, g4, g5, g6, g7, e1, e2, j'⟩ r) ?_
    walk_at "ob"
    refine ⟨by decide, fun p1 hp1 => ?_⟩
    walk_at "ob"
    refine rw_cat hd (xs := cells.map V.int) (zs := [V.int 0]) (by walk_at "ob_at") (by walk_at "ob_at") (by simp; omega) fun p2 hp2 => ?_
    walk_at "ob"
    refine cw_lenS hd (ys := cells.map V.int) (Or.inl (by walk_at "ob_sq")) ?_
    walk_at "ob"
    have M0 : 0 < (if ((cells.map V.int).length : Int) > 1 then ((cells.map V.int).length : Int) else 1) := by split <;> omega
    have e0 := Int.emod_nonneg p (show (if ((cells.map V.int).length : Int) > 1 then ((cells.map V.int).length : Int) else 1) ≠ 0 by omega)
    have e1 := Int.emod_lt_of_pos p M0
    generalize ei : p % (if ((cells.map V.int).length : Int) > 1 then ((cells.map V.int).length : Int) else 1) = i at e0 e1
    have e2 : i < ((cells ++ [0]).length : Nat) := by
      rw [List.length_append]
      rw [List.length_map] at e1
      simp only [List.length_singleton]
      split at e1 <;> omega
    have e3 : (cells.map V.int) ++ [V.int 0] = (cells ++ [0]).map V.int := by rw [List.map_append]; rfl
    rw [e3]
    refine rw_ixL hd (SqL.of (by walk_at "ob_at")) (at_ints e0 e2) ?_
    generalize ez : (cells ++ [0]).getD i.toNat 0 = z
    walk_at "ob"
    have e18 : (10 : Int) ^ (18 : Int).toNat = 1000000000000000000 := by decide
    refine ⟨fun hb => ?_, fun hb => ?_⟩
    · have hz := of_decide_eq_true hb
      rw [e18] at hz
      have hcells : 0 < cells.length := by
        cases cells with
        | nil =>
          simp only [List.nil_append] at ez
          cases hi : i.toNat with
          | zero => rw [hi] at ez; simp at ez; omega
          | succ k => rw [hi] at ez; simp at ez; omega
        | cons a t => simp
      walk_at "ob"
      refine rw_I (wide_div (b := 60) n0 (by omega) (by decide) (by decide)) ?_
      refine gw_subL hd ?_
      walk_at "ob"
      refine cw_lenS hd (ys := cells.map V.int) (Or.inl (by walk_at "ob_sq")) ?_
      walk_at "ob"
      have L0 : 0 < ((cells.map V.int).length : Int) := by rw [List.length_map]; omega
      refine rw_I L0 ?_
      have f0 := Int.emod_nonneg p (show ((cells.map V.int).length : Int) ≠ 0 by omega)
      have f1 := Int.emod_lt_of_pos p L0
      refine ⟨c, _, _, _, rfl, rfl, (by walk_at "ob_at"), ixN_of f0 (by exact f1), ?_⟩
      walk_at "ob"
      refine ⟨m, p, cells.set (p % ((cells.map V.int).length : Int)).toNat (z / n), by walk_at "ob_ex", m0, m1, p0, by rw [List.length_set]; exact l, by walk_at "ob_at", ?_, k _ (Int.emod_nonneg _ (by omega)) (Int.emod_lt_of_pos _ n0)⟩
      rw [map_set_int]
      exact upd_same
    · walk_at "ob"
      refine gw_subL hd ?_
      walk_at "ob"
      refine ⟨h, _, _, _, rfl, rfl, (by walk_at "ob_at"), rfl, ?_⟩
      walk_at "ob"
      refine gw_subL hd ?_
      walk_at "ob"
      refine ⟨h, _, _, _, rfl, rfl, (by walk_at "ob_at"), rfl, ?_⟩
      walk_at "ob"
      refine rw_I (wide_div (b := 10) (by decide) (by decide) (by decide) (by decide)) ?_
      walk_at "ob"
      refine ⟨_, p + 1, cells, by walk_at "ob_ex", ?_, ?_, by omega, l, upd_same, by walk_at "ob_at", k _ (Int.emod_nonneg _ (by omega)) (Int.emod_lt_of_pos _ n0)⟩
      · exact Int.emod_nonneg _ (by decide)
      · exact Int.emod_lt_of_pos _ (by decide)
end
end Obr
namespace Obr
open PySem L2
local macro_rules | `(tactic| walk_at "ob_at") => `(tactic| first
  | assumption
  | exact upd_same
  | (refine Eq.trans (upd_ne ?obn) ?obr; (case obn => walk_at "ob_ne"); (case obr => walk_at "ob_at")))
local macro_rules | `(tactic| walk_at "ob_ne") => `(tactic| first
  | assumption
  | (refine Ne.symm ?obs; (case obs => assumption))
  | (refine' ne_of_none (H := ?_) ?obe ?obh; (case obh => assumption); (case obe => walk_at "ob_at"))
  | (refine Ne.symm ?obs; (case obs => (refine' ne_of_none (H := ?_) ?obe ?obh; (case obh => assumption); (case obe => walk_at "ob_at")))))
local macro_rules | `(tactic| walk_at "ob_fr") => `(tactic| first
  | assumption
  | (refine Eq.trans (upd_ne ?obn) ?obr; (case obn => walk_at "ob_ne"); (case obr => walk_at "ob_fr"))
  | (refine Ex.free (G := ?_) (by assumption) ?obh; (case obh => walk_at "ob_fr")))
local macro_rules | `(tactic| walk_at "ob_ex") => `(tactic| first
  | assumption
  | exact Ex.refl _
  | (refine Ex.out ?obg ?obh; (case obh => assumption); (case obg => walk_at "ob_ex"))
  | (refine Ex.new ?obg ?obh; (case obh => assumption); (case obg => walk_at "ob_ex"))
  | (refine Ex.new ?obg ?obh; (case obh => walk_at "ob_fr"); (case obg => walk_at "ob_ex")))
local macro_rules | `(tactic| walk_at "ob_sq") => `(tactic| first
  | assumption
  | (refine SqL.of ?oba; (case oba => walk_at "ob_at"))
  | (refine SqT.of ?oba; (case oba => walk_at "ob_at")))
local macro_rules | `(tactic| walk_at "ob_side") => `(tactic| first | exact rfl | assumption | decide | omega | exact ⟨by decide, by decide, by decide⟩ | exact Or.inr ⟨by decide, by decide⟩ | exact Or.inl ⟨by decide, by decide⟩)
local macro_rules | `(tactic| walk_at "ob1") => `(tactic| first
  | with_reducible refine sw_seq ?_
  | with_reducible refine sw_asg ?_
  | with_reducible refine sw_ret ?_
  | with_reducible refine sw_drop ?_
  | with_reducible refine sw_if ?_
  | with_reducible refine sw_next ?_
  | with_reducible refine gw_name ?_
  | with_reducible refine ew_c ?_
  | ((with_reducible refine' ew_var (v := ?_) ?obv ?_); (case obv => exact rfl))
  | ((with_reducible refine ew_next (by assumption) ?obv ?_); (case obv => exact rfl))
  | ((with_reducible refine ew_world (by assumption) ?obv ?_); (case obv => exact rfl))
  | ((with_reducible refine ew_rule (by assumption) ?obv ?_); (case obv => exact rfl))
  | with_reducible refine ew_op ?_
  | with_reducible refine ew_un ?_
  | with_reducible refine ew_cb ?_
  | with_reducible refine ew_if ?_
  | with_reducible refine aw_nil ?_
  | with_reducible refine aw_cons ?_
  | with_reducible refine rw_I0 ?_
  | ((with_reducible refine rw_I ?obc ?_); (case obc => walk_at "ob_side"))
  | ((with_reducible refine rw_eq ?obc ?_); (case obc => exact rfl))
  | ((with_reducible refine rw_ne ?obc ?_); (case obc => exact rfl))
  | with_reducible refine cw_max2 ?_
  | with_reducible refine cw_min2 ?_
  | with_reducible refine tw_test ?_
  | with_reducible refine tw_B ?_
  | with_reducible refine tw_not ?_
  | (refine' Exists.intro _ (And.intro (show V.bl _ = V.bl _ from rfl) ?_))
  | (refine' Exists.intro _ (And.intro (show V.int _ = V.int _ from rfl) ?_))
  | ((with_reducible refine' rw_ixL (v := ?_) (xs := ?_) (by assumption) ?obl ?oba ?_); (case obl => walk_at "ob_sq"); (case oba => exact rfl))
  | ((with_reducible refine' rw_ixT (v := ?_) (xs := ?_) (by assumption) ?obl ?oba ?_); (case obl => walk_at "ob_sq"); (case oba => exact rfl))
  | ((with_reducible refine' ew_lst (by assumption) ?_))
  | ((with_reducible refine' ew_tup (by assumption) ?_)))
local macro_rules | `(tactic| walk_at "ob_len") => `(tactic| first | exact Nat.le_of_ble_eq_true rfl | (simp; done) | omega)
local macro_rules | `(tactic| walk_at "ob") => `(tactic| repeat walk_at "ob1")

abbrev sMix : Stmt := top 56
def N_mix : List Str := ["_law_script", "_law_seed", "_law_mixed", "_law_cell"]
theorem sc_mix : FnScope N_mix ["_law_script", "_law_seed"] (defScope sMix) := ⟨rfl, rfl, rfl, by decide +kernel, rfl, by decide +kernel, by decide +kernel⟩
abbrev sRule : Stmt := top 59
def N_rule : List Str := ["_law_h"]
theorem sc_rule : FnScope N_rule ["_law_h"] (defScope sRule) := ⟨rfl, rfl, rfl, by decide +kernel, rfl, by decide +kernel, by decide +kernel⟩
section
variable {P : Program} {w : World} {K : PySem.W.Frag} {mg : Str → Option Value} {base : Heap}
theorem ok_mix {f : Addr} {fd : FuncData} (Fn : Fun K "_law_mix" "_law_mix" sMix f fd) (B : Blt mg) : FnOk P w K mg base CX0 1 f fd ["_law_script", "_law_seed"] (LS (aMix K)) := by
  refine Fn.ok sc_mix (fun vs H Q E h => ?_) (fun cdv A outer s H vs Q E hr h => ?_)
  · obtain ⟨J, F, R, hd, j, ⟨a, ns, z, rfl, _⟩, _⟩ := h
    rfl
  · have nd := sc_mix.nd
    obtain ⟨J, F, R, hd, j, ⟨a, ns, z, rfl, hl, z0, z1, k⟩, q⟩ := h
    refine ⟨_, (pss_cons (ps_set (i := 2) nd rfl (Or.inl rfl) (pv 1))
      (pss_cons (ps_for PassesOwn.never rfl (pi_list (pv 0)) (pg_name (i := 3) nd rfl (Or.inl rfl)) (pss_one (ps_set (i := 2) nd rfl (Or.inl rfl) (pe_op op_mod (pe_op op_add (pe_op op_add (pe_op op_mul (pv 2) pe_int) (pe_op op_mod (pv 3) pe_int)) pe_int) pe_int))))
      (pss_one (ps_ret (pe_lst (pa_cons (pv 2) (pa_cons (pe_callTy call_list_of (by rfl) B.list (by decide +kernel) (pa_cons (pv 0) pa_nil)) (pa_cons pe_int pa_nil)))))))), ?_⟩
    refine LS.body j q ?_
    walk_at "ob"
    refine sw_forL hd ?_
    walk_at "ob"
    refine ⟨a, ns.map V.int, fun i σ s G => G = F ∧ ∃ (m : Int) (y : Option V), σ = [some (.ref a), some (.int z), some (.int m), y] ∧ 0 ≤ m ∧ m < 2147483647, rfl, hl, ⟨rfl, z, none, rfl, z0, z1⟩, ?_, ?_, ?_⟩
    · rintro i σ s G hi ⟨rfl, _⟩
      exact hl
    · rintro i x σ s G hi ⟨rfl, m, y, rfl, m0, m1⟩
      obtain ⟨u, rfl⟩ : ∃ u, x = V.int u := by
        rw [List.getElem?_map] at hi
        cases e : ns[i]? with
        | none => rw [e] at hi; cases hi
        | some u => rw [e] at hi; exact ⟨u, (Option.some.inj hi).symm⟩
      walk_at "ob"
      exact ⟨rfl, _, _, rfl, Int.emod_nonneg _ (by decide), Int.emod_lt_of_pos _ (by decide)⟩
    · rintro σ s G ⟨rfl, m, y, rfl, m0, m1⟩
      walk_at "ob"
      refine cw_list hd (ys := ns.map V.int) (Or.inl (by exact hl)) fun c hc => ?_
      walk_at "ob"
      refine ⟨by walk_at "ob_len", fun h hh => ?_⟩
      exact k m c h m0 m1 hc (Ex.free (Ex.new (Ex.refl _) hc) hh) (ne_of_none upd_same hh)
theorem ok_rule {f f1 : Addr} {fd fd1 : FuncData} (Fn : Fun K "_law_rule" "_law_rule" sRule f fd) (B : Blt mg)
    (C_law_next : Cal K mg "_law_next" f1 fd1 ["_law_h", "_law_many"]) (G_law_next : FnOk P w K mg base CX0 1 f1 fd1 ["_law_h", "_law_many"] (LN aNext)) :
    FnOk P w K mg base CX0 2 f fd ["_law_h"] (LN (aRule K)) := by
  refine Fn.ok sc_rule (fun vs H Q E h => ?_) (fun cdv A outer s H vs Q E hr h => ?_)
  · obtain ⟨h, c, J, F, R, ws, hd, rfl, j, ⟨rfl, _⟩, _⟩ := h
    rfl
  · have nd := sc_rule.nd
    obtain ⟨h, c, J, F, R, ws, hd0, rfl, j, ⟨rfl, k⟩, q⟩ := h
    have hd := hd0.hj (h := h) (c := c)
    refine ⟨_, (pss_one (ps_ret (pe_tup (pa_cons (pe_ix ix_list (pe_lst (pa_cons pe_str (pa_cons pe_str (pa_cons pe_str (pa_cons pe_str pa_nil))))) (pe_call G_law_next (hr.mono (by decide)) (by rfl) C_law_next.g C_law_next.k C_law_next.a .nil pass0 (pa_cons (pv 0) (pa_cons pe_int pa_nil))) (fun _ _ => rfl)) (pa_cons (pe_cmpR op_eq (pe_call G_law_next (hr.mono (by decide)) (by rfl) C_law_next.g C_law_next.k C_law_next.a .nil pass0 (pa_cons (pv 0) (pa_cons pe_int pa_nil))) pe_int (nomark _)) pa_nil))))), ?_⟩
    refine LN.body j q ?_
    walk_at "ob"
    refine ⟨by walk_at "ob_len", fun p hp => ?_⟩
    walk_at "ob"
    refine ⟨by decide, by decide, fun r r0 r1 => ?_⟩
    obtain ⟨rg, er⟩ : ∃ rg : Rgt, atI [V.str "rank", V.str "turns", V.str "wait", V.str "least"] r = some (V.str (rgtS rg)) := by
      have : r = 0 ∨ r = 1 ∨ r = 2 ∨ r = 3 := by omega
      rcases this with rfl | rfl | rfl | rfl
      · exact ⟨.rank, rfl⟩
      · exact ⟨.turns, rfl⟩
      · exact ⟨.wait, rfl⟩
      · exact ⟨.least, rfl⟩
    refine rw_ixL hd (SqL.of upd_same) er ?_
    walk_at "ob"
    refine ⟨by decide, by decide, fun r2 r20 r21 => ?_⟩
    walk_at "ob"
    refine ⟨by walk_at "ob_len", fun t ht => ?_⟩
    exact k _ _ rg _ (by walk_at "ob_ex") (.tup (SqT.of upd_same) (.cons (.str _) (.cons (.bl _) .nil)))
end
end Obr
namespace Obr
open PySem L2
local macro_rules | `(tactic| walk_at "ob_at") => `(tactic| first
  | assumption
  | exact upd_same
  | (refine Eq.trans (upd_ne ?obn) ?obr; (case obn => walk_at "ob_ne"); (case obr => walk_at "ob_at")))
local macro_rules | `(tactic| walk_at "ob_ne") => `(tactic| first
  | assumption
  | (refine Ne.symm ?obs; (case obs => assumption))
  | (refine' ne_of_none (H := ?_) ?obe ?obh; (case obh => assumption); (case obe => walk_at "ob_at"))
  | (refine Ne.symm ?obs; (case obs => (refine' ne_of_none (H := ?_) ?obe ?obh; (case obh => assumption); (case obe => walk_at "ob_at")))))
local macro_rules | `(tactic| walk_at "ob_fr") => `(tactic| first
  | assumption
  | (refine Eq.trans (upd_ne ?obn) ?obr; (case obn => walk_at "ob_ne"); (case obr => walk_at "ob_fr"))
  | (refine Ex.free (G := ?_) (by assumption) ?obh; (case obh => walk_at "ob_fr")))
local macro_rules | `(tactic| walk_at "ob_ex") => `(tactic| first
  | assumption
  | exact Ex.refl _
  | (refine Ex.out ?obg ?obh; (case obh => assumption); (case obg => walk_at "ob_ex"))
  | (refine Ex.new ?obg ?obh; (case obh => assumption); (case obg => walk_at "ob_ex"))
  | (refine Ex.new ?obg ?obh; (case obh => walk_at "ob_fr"); (case obg => walk_at "ob_ex")))
local macro_rules | `(tactic| walk_at "ob_sq") => `(tactic| first
  | assumption
  | (refine SqL.of ?oba; (case oba => walk_at "ob_at"))
  | (refine SqT.of ?oba; (case oba => walk_at "ob_at")))
local macro_rules | `(tactic| walk_at "ob_side") => `(tactic| first | exact rfl | assumption | decide | omega | exact ⟨by decide, by decide, by decide⟩ | exact Or.inr ⟨by decide, by decide⟩ | exact Or.inl ⟨by decide, by decide⟩ | exact wide_div (b := 60) (by first | decide | omega) (by first | decide | omega) (by decide) (by decide))
local macro_rules | `(tactic| walk_at "ob1") => `(tactic| first
  | with_reducible refine sw_seq ?_
  | with_reducible refine sw_asg ?_
  | with_reducible refine sw_ret ?_
  | with_reducible refine sw_drop ?_
  | with_reducible refine sw_if ?_
  | with_reducible refine sw_next ?_
  | with_reducible refine gw_name ?_
  | with_reducible refine ew_c ?_
  | ((with_reducible refine' ew_var (v := ?_) ?obv ?_); (case obv => exact rfl))
  | ((with_reducible refine ew_next (by assumption) ?obv ?_); (case obv => exact rfl))
  | ((with_reducible refine ew_world (by assumption) ?obv ?_); (case obv => exact rfl))
  | ((with_reducible refine ew_rule (by assumption) ?obv ?_); (case obv => exact rfl))
  | with_reducible refine ew_op ?_
  | with_reducible refine ew_un ?_
  | with_reducible refine ew_cb ?_
  | with_reducible refine ew_if ?_
  | with_reducible refine aw_nil ?_
  | with_reducible refine aw_cons ?_
  | with_reducible refine rw_I0 ?_
  | ((with_reducible refine rw_I ?obc ?_); (case obc => walk_at "ob_side"))
  | ((with_reducible refine rw_eq ?obc ?_); (case obc => exact rfl))
  | ((with_reducible refine rw_ne ?obc ?_); (case obc => exact rfl))
  | with_reducible refine cw_max2 ?_
  | with_reducible refine cw_min2 ?_
  | with_reducible refine tw_test ?_
  | with_reducible refine tw_B ?_
  | with_reducible refine tw_not ?_
  | (refine' Exists.intro _ (And.intro (show V.bl _ = V.bl _ from rfl) ?_))
  | (refine' Exists.intro _ (And.intro (show V.int _ = V.int _ from rfl) ?_))
  | ((with_reducible refine' rw_ixL (v := ?_) (xs := ?_) (by assumption) ?obl ?oba ?_); (case obl => walk_at "ob_sq"); (case oba => exact rfl))
  | ((with_reducible refine' rw_ixT (v := ?_) (xs := ?_) (by assumption) ?obl ?oba ?_); (case obl => walk_at "ob_sq"); (case oba => exact rfl))
  | ((with_reducible refine' ew_lst (by assumption) ?_))
  | ((with_reducible refine' ew_tup (by assumption) ?_)))
local macro_rules | `(tactic| walk_at "ob_len") => `(tactic| first | exact Nat.le_of_ble_eq_true rfl | (simp; done) | omega)
local macro_rules | `(tactic| walk_at "ob") => `(tactic| repeat walk_at "ob1")

abbrev sWorld : Stmt := top 58
def N_world : List Str := ["_law_h", "_law_most", "_law_cap", "_law_store", "_law_machines", "_law_k", "_law_steps", "_law_time", "_law_draw", "_law_back"]
theorem sc_world : FnScope N_world ["_law_h", "_law_most", "_law_cap"] (defScope sWorld) := ⟨rfl, rfl, rfl, by decide +kernel, rfl, by decide +kernel, by decide +kernel⟩
section
variable {P : Program} {w : World} {K : PySem.W.Frag} {mg : Str → Option Value} {base : Heap}
theorem ok_world {f f1 : Addr} {fd fd1 : FuncData} (Fn : Fun K "_law_world" "_law_world" sWorld f fd) (B : Blt mg)
    (C_law_next : Cal K mg "_law_next" f1 fd1 ["_law_h", "_law_many"]) (G_law_next : FnOk P w K mg base CX0 1 f1 fd1 ["_law_h", "_law_many"] (LN aNext)) :
    FnOk P w K mg base CX0 2 f fd ["_law_h", "_law_most", "_law_cap"] (LN (aWorld K)) := by
  refine Fn.ok sc_world (fun vs H Q E h => ?_) (fun cdv A outer s H vs Q E hr h => ?_)
  · obtain ⟨h, c, J, F, R, ws, hd, rfl, j, ⟨most, cap, rfl, _⟩, _⟩ := h
    rfl
  · have nd := sc_world.nd
    obtain ⟨h, c, J, F, R, ws, hd0, rfl, j, ⟨most, cap, rfl, mo0, mo1, c0, c1, k⟩, q⟩ := h
    have hd := hd0.hj (h := h) (c := c)
    refine ⟨_, (pss_cons (ps_set (i := 3) nd rfl (Or.inl rfl) (pe_tup (pa_cons (pe_op op_add pe_int (pe_call G_law_next (hr.mono (by decide)) (by rfl) C_law_next.g C_law_next.k C_law_next.a .nil pass0 (pa_cons (pv 0) (pa_cons (pv 2) pa_nil)))) (pa_cons pe_int (pa_cons (pe_ix ix_list (pe_lst (pa_cons pe_int (pa_cons pe_int (pa_cons pe_int (pa_cons pe_int (pa_cons (pe_call G_law_next (hr.mono (by decide)) (by rfl) C_law_next.g C_law_next.k C_law_next.a .nil pass0 (pa_cons (pv 0) (pa_cons pe_int pa_nil))) pa_nil)))))) (pe_call G_law_next (hr.mono (by decide)) (by rfl) C_law_next.g C_law_next.k C_law_next.a .nil pass0 (pa_cons (pv 0) (pa_cons pe_int pa_nil))) (fun _ _ => rfl)) pa_nil)))))
      (pss_cons (ps_set (i := 3) nd rfl (Or.inl rfl) (pe_tup (pa_cons (pe_ix ix_tup (pv 3) pe_int (fun _ _ => rfl)) (pa_cons (pe_call G_law_next (hr.mono (by decide)) (by rfl) C_law_next.g C_law_next.k C_law_next.a .nil pass0 (pa_cons (pv 0) (pa_cons (pe_op op_add (pe_ix ix_tup (pv 3) pe_int (fun _ _ => rfl)) pe_int) pa_nil))) (pa_cons (pe_ix ix_tup (pv 3) pe_int (fun _ _ => rfl)) pa_nil)))))
      (pss_cons (ps_set (i := 4) nd rfl (Or.inl rfl) (pe_lst pa_nil))
      (pss_cons (ps_for PassesOwn.never rfl (pi_range1 rfl B.range (pa_cons (pe_call G_law_next (hr.mono (by decide)) (by rfl) C_law_next.g C_law_next.k C_law_next.a .nil pass0 (pa_cons (pv 0) (pa_cons (pe_op op_add (pv 1) pe_int) pa_nil))) pa_nil)) (pg_name (i := 5) nd rfl (Or.inl rfl)) (pss_cons (ps_set (i := 6) nd rfl (Or.inl rfl) (pe_lst pa_nil))
      (pss_cons (ps_for PassesOwn.never rfl (pi_range1 rfl B.range (pa_cons (pe_call G_law_next (hr.mono (by decide)) (by rfl) C_law_next.g C_law_next.k C_law_next.a .nil pass0 (pa_cons (pv 0) (pa_cons pe_int pa_nil))) pa_nil)) (pg_name (i := 7) nd rfl (Or.inl rfl)) (pss_cons (ps_set (i := 8) nd rfl (Or.inl rfl) (pe_ifExp (pt_cmpR op_eq (pe_call G_law_next (hr.mono (by decide)) (by rfl) C_law_next.g C_law_next.k C_law_next.a .nil pass0 (pa_cons (pv 0) (pa_cons pe_int pa_nil))) pe_int (nomark _)) (pe_call G_law_next (hr.mono (by decide)) (by rfl) C_law_next.g C_law_next.k C_law_next.a .nil pass0 (pa_cons (pv 0) (pa_cons (pe_op op_add (pe_ix ix_tup (pv 3) pe_int (fun _ _ => rfl)) pe_int) pa_nil))) (pe_call G_law_next (hr.mono (by decide)) (by rfl) C_law_next.g C_law_next.k C_law_next.a .nil pass0 (pa_cons (pv 0) (pa_cons (pe_op op_add (pe_callB (call_min2 rfl) (by rfl) B.min (by decide +kernel) (pa_cons pe_int (pa_cons (pe_ix ix_tup (pv 3) pe_int (fun _ _ => rfl)) pa_nil))) pe_int) pa_nil)))))
      (pss_cons (ps_set (i := 9) nd rfl (Or.inl rfl) (pe_ix ix_list (pe_lst (pa_cons pe_int (pa_cons (pv 8) (pa_cons (pe_call G_law_next (hr.mono (by decide)) (by rfl) C_law_next.g C_law_next.k C_law_next.a .nil pass0 (pa_cons (pv 0) (pa_cons (pe_op op_add (pv 8) pe_int) pa_nil))) pa_nil)))) (pe_call G_law_next (hr.mono (by decide)) (by rfl) C_law_next.g C_law_next.k C_law_next.a .nil pass0 (pa_cons (pv 0) (pa_cons pe_int pa_nil))) (fun _ _ => rfl)))
      (pss_one (ps_expr (pe_bm PySem.F.plainAttrs_list PySem.F.slot_list_append PySem.F.type_list_append mt_append (pv 6) (pa_cons (pe_tup (pa_cons (pv 8) (pa_cons (pe_op op_add pe_int (pe_call G_law_next (hr.mono (by decide)) (by rfl) C_law_next.g C_law_next.k C_law_next.a .nil pass0 (pa_cons (pv 0) (pa_cons (pe_ix ix_list (pe_lst (pa_cons pe_int (pa_cons pe_int pa_nil))) (pe_op op_fdivW (pe_call G_law_next (hr.mono (by decide)) (by rfl) C_law_next.g C_law_next.k C_law_next.a .nil pass0 (pa_cons (pv 0) (pa_cons pe_int pa_nil))) pe_int) (fun _ _ => rfl)) pa_nil)))) (pa_cons (pv 9) pa_nil)))) pa_nil)))))))
      (pss_one (ps_expr (pe_bm PySem.F.plainAttrs_list PySem.F.slot_list_append PySem.F.type_list_append mt_append (pv 4) (pa_cons (pe_callTy call_tuple_of (by rfl) B.tuple (by decide +kernel) (pa_cons (pv 6) pa_nil)) pa_nil)))))))
      (pss_one (ps_ret (pe_tup (pa_cons (pv 3) (pa_cons (pe_callTy call_tuple_of (by rfl) B.tuple (by decide +kernel) (pa_cons (pv 4) pa_nil)) pa_nil))))))))), ?_⟩
    refine LN.body j q ?_
    walk_at "ob"
    refine ⟨by omega, by omega, fun r1 r10 r11 => ?_⟩
    walk_at "ob"
    refine ⟨by decide, by decide, fun r2 r20 r21 => ?_⟩
    walk_at "ob"
    refine ⟨by walk_at "ob_len", fun p1 hp1 => ?_⟩
    walk_at "ob"
    refine ⟨by decide, by decide, fun r3 r30 r31 => ?_⟩
    obtain ⟨rf, erf, rf0, rf1⟩ : ∃ rf : Int, atI [V.int 0, V.int 1, V.int 1, V.int 2, V.int r2] r3 = some (V.int rf) ∧ 0 ≤ rf ∧ rf ≤ 9 := by
      have : r3 = 0 ∨ r3 = 1 ∨ r3 = 2 ∨ r3 = 3 ∨ r3 = 4 := by omega
      rcases this with rfl | rfl | rfl | rfl | rfl
      · exact ⟨0, rfl, by omega, by omega⟩
      · exact ⟨1, rfl, by omega, by omega⟩
      · exact ⟨1, rfl, by omega, by omega⟩
      · exact ⟨2, rfl, by omega, by omega⟩
      · exact ⟨r2, rfl, by omega, by omega⟩
    refine rw_ixL hd (SqL.of upd_same) erf ?_
    walk_at "ob"
    refine ⟨by walk_at "ob_len", fun p2 hp2 => ?_⟩
    walk_at "ob"
    refine ⟨by omega, by omega, fun r4 r40 r41 => ?_⟩
    walk_at "ob"
    refine ⟨by walk_at "ob_len", fun st hst => ?_⟩
    walk_at "ob"
    refine ⟨by walk_at "ob_len", fun ml hml => ?_⟩
    walk_at "ob"
    refine sw_forR1 ?_
    walk_at "ob"
    refine ⟨by omega, by omega, fun nm nm0 nm1 => ?_⟩
    walk_at "ob"
    refine ⟨nm, fun i σ _ G => ∃ (x5 x6 x7 x8 x9 : Option V) (G0 : Hp) (vs : List V) (mss : List (List Stp)), σ = [some (.ref h), some (.int most), some (.int cap), some (.ref st), some (.ref ml), x5, x6, x7, x8, x9] ∧
      Ex F G0 ∧ Ex G0 G ∧ G0 ml = none ∧ G ml = some (.lst vs) ∧ G0 st = some (.tup [.int (1 + r1), .int r4, .int rf]) ∧ DpAll K G0 vs (mss.map macD) ∧ mss.length = i ∧ (∀ ss ∈ mss, ss.length ≤ 4) ∧ ∀ ss ∈ mss, ∀ s ∈ ss, StpOk (1 + r1) s,
      rfl, by omega, by omega, ⟨none, none, none, none, none, _, [], [], rfl, ?_, Ex.new (Ex.refl _) hml, hml, upd_same, upd_same, .nil, rfl, ?_, ?_⟩, ?_, ?_⟩
    · walk_at "ob_ex"
    · intro ss hss; cases hss
    · intro ss hss; cases hss
    · rintro i σ _ G hi ⟨x5, x6, x7, x8, x9, G0, vs, mss, rfl, g1, g2, e1, e2, e3, dv, hl, ok1, ok2⟩
      walk_at "ob"
      refine ⟨by walk_at "ob_len", fun sl hsl => ?_⟩
      have nsl : ml ≠ sl := ne_of_none e2 hsl
      have e4 : G0 sl = none := g2.free hsl
      walk_at "ob"
      refine sw_forR1 ?_
      walk_at "ob"
      refine ⟨by decide, by decide, fun ns ns0 ns1 => ?_⟩
      walk_at "ob"
      refine ⟨ns, fun k σ _ G => ∃ (x7 x8 x9 : Option V) (G1 : Hp) (ws : List V) (ss : List Stp), σ = [some (.ref h), some (.int most), some (.int cap), some (.ref st), some (.ref ml), some (.int (i : Int)), some (.ref sl), x7, x8, x9] ∧
        Ex G0 G1 ∧ Ex G1 G ∧ G1 ml = none ∧ G1 sl = none ∧ G ml = some (.lst vs) ∧ G sl = some (.lst ws) ∧ DpAll K G1 ws (ss.map stpD) ∧ ss.length = k ∧ ∀ s ∈ ss, StpOk (1 + r1) s,
        rfl, by omega, by omega, ⟨x7, x8, x9, G0, [], [], rfl, Ex.refl _, Ex.new g2 hsl, e1, e4, by walk_at "ob_at", upd_same, .nil, rfl, ?_⟩, ?_, ?_⟩
      · intro s hs; cases hs
      · rintro kk σ _ G hk ⟨x7, x8, x9, G1, ws, ss, rfl, g3, g4, e1, e4, e2, e5, dw, hss, oks⟩
        have est : G st = some (.tup [.int (1 + r1), .int r4, .int rf]) := g4 _ _ (g3 _ _ e3)
        refine gw_name ?_
        refine sw_seq (sw_asg ?_)
        refine EW.imp (R := fun v _ G' => G' = G ∧ ∃ dr : Int, v = .int dr ∧ 0 ≤ dr ∧ dr ≤ 1 + r1) ?_ ?_
        · walk_at "ob"
          refine ⟨by decide, by decide, fun q0 q00 q01 => ?_⟩
          walk_at "ob"
          refine ⟨fun hb => ?_, fun hb => ?_⟩
          · walk_at "ob"
            exact ⟨by omega, by omega, fun r5 r50 r51 => ⟨rfl, r5, rfl, r50, by omega⟩⟩
          · walk_at "ob"
            refine ⟨by split <;> omega, by split <;> omega, fun r5 r50 r51 => ⟨rfl, r5, rfl, r50, ?_⟩⟩
            split at r51 <;> omega
        · rintro v _ G' ⟨rfl, dr, rfl, d0, d1⟩
          walk_at "ob"
          refine ⟨by omega, by omega, fun r6 r60 r61 => ?_⟩
          walk_at "ob"
          refine ⟨by walk_at "ob_len", fun p3 hp3 => ?_⟩
          walk_at "ob"
          refine ⟨by decide, by decide, fun r7 r70 r71 => ?_⟩
          obtain ⟨bk, ebk, b0, b1⟩ : ∃ bk : Int, atI [V.int 0, V.int dr, V.int r6] r7 = some (V.int bk) ∧ 0 ≤ bk ∧ bk ≤ dr := by
            have : r7 = 0 ∨ r7 = 1 ∨ r7 = 2 := by omega
            rcases this with rfl | rfl | rfl
            · exact ⟨0, rfl, by omega, by omega⟩
            · exact ⟨dr, rfl, by omega, by omega⟩
            · exact ⟨r6, rfl, by omega, by omega⟩
          refine rw_ixL hd (SqL.of upd_same) ebk ?_
          walk_at "ob"
          refine ew_bmL hd ?_
          walk_at "ob"
          refine ⟨sl, ws, rfl, SqL.of (by walk_at "ob_at"), ?_⟩
          walk_at "ob"
          refine ⟨by walk_at "ob_len", fun p4 hp4 => ?_⟩
          walk_at "ob"
          refine ⟨by decide, by decide, fun r8 r80 r81 => ?_⟩
          walk_at "ob"
          obtain ⟨lo, elo, l0, l1⟩ : ∃ lo : Int, atI [V.int 3, V.int 9] (r8 / 3) = some (V.int lo) ∧ 0 < lo ∧ lo ≤ 9 := by
            have : r8 / 3 = 0 ∨ r8 / 3 = 1 := by omega
            rcases this with e | e
            · exact ⟨3, by rw [e]; rfl, by omega, by omega⟩
            · exact ⟨9, by rw [e]; rfl, by omega, by omega⟩
          refine rw_ixL hd (SqL.of upd_same) elo ?_
          refine ⟨lo, rfl, l0, by omega, fun r9 r90 r91 => ?_⟩
          walk_at "ob"
          refine ⟨by walk_at "ob_len", fun t ht => ?_⟩
          walk_at "ob"
          refine mw_append hd (xs := ws) (by walk_at "ob_at") (by have := dps_len dw; simp at this; omega) ?_
          have n1 : ml ≠ t := by walk_at "ob_ne"
          have n2 : sl ≠ t := by walk_at "ob_ne"
          have hp5 : G1 t = none := Ex.free (Ex.new (Ex.new g4 hp3) hp4) ht
          refine ⟨_, _, _, upd G1 t (.tup [.int dr, .int (1 + r9), .int bk]), ws ++ [.ref t], ss ++ [⟨dr, 1 + r9, bk⟩], rfl, Ex.new g3 hp5, ?_, ?_, ?_, by walk_at "ob_at", upd_same, ?_, by simp [hss], ?_⟩
          · refine Ex.out (Ex.upd (by walk_at "ob_ex")) ?_
            refine Eq.trans (upd_ne ?_) e4
            walk_at "ob_ne"
          · refine Eq.trans (upd_ne ?_) e1
            walk_at "ob_ne"
          · refine Eq.trans (upd_ne ?_) e4
            walk_at "ob_ne"
          · rw [List.map_append]
            refine dps_snoc (dps_ex (Ex.new (Ex.refl _) hp5) dw) (.tup (SqT.of upd_same) (.cons (.int _) (.cons (.int _) (.cons (.int _) .nil))))
          · intro s hs
            rcases List.mem_append.mp hs with hs | hs
            · exact oks s hs
            · simp at hs
              subst hs
              exact ⟨d0, d1, by show 1 ≤ 1 + r9; omega, by show 1 + r9 ≤ 9; omega, b0, b1⟩
      · rintro σ _ G ⟨x7, x8, x9, G1, ws, ss, rfl, g3, g4, e1, e4, e2, e5, dw, hss, oks⟩
        walk_at "ob"
        refine ew_bmL hd ?_
        walk_at "ob"
        refine ⟨ml, vs, rfl, SqL.of e2, ?_⟩
        walk_at "ob"
        refine cw_tuple hd (ys := ws) (SqL.of e5) fun t ht => ?_
        walk_at "ob"
        refine mw_append hd (xs := vs) (by walk_at "ob_at") (by have := dps_len dv; simp at this; omega) ?_
        have n1 : ml ≠ t := by walk_at "ob_ne"
        have hp5 : G1 t = none := g4.free ht
        refine ⟨_, _, _, _, _, upd G1 t (.tup ws), vs ++ [.ref t], mss ++ [ss], rfl, g1.trans (Ex.new g3 hp5), ?_, ?_, upd_same, ?_, ?_, by simp [hl], ?_, ?_⟩
        · refine Ex.out (Ex.upd g4) ?_
          refine Eq.trans (upd_ne ?_) e1
          walk_at "ob_ne"
        · refine Eq.trans (upd_ne ?_) e1
          walk_at "ob_ne"
        · exact Ex.new g3 hp5 _ _ e3
        · rw [List.map_append]
          refine dps_snoc (dps_ex (Ex.new g3 hp5) dv) (.tup (SqT.of upd_same) (dps_ex (Ex.new (Ex.refl _) hp5) dw))
        · intro s hs
          rcases List.mem_append.mp hs with hs | hs
          · exact ok1 s hs
          · simp at hs
            subst hs
            omega
        · intro s hs
          rcases List.mem_append.mp hs with hs | hs
          · exact ok2 s hs
          · simp at hs
            subst hs
            exact oks
    · rintro σ _ G ⟨x5, x6, x7, x8, x9, G0, vs, mss, rfl, g1, g2, e1, e2, e3, dv, hl, ok1, ok2⟩
      walk_at "ob"
      refine cw_tuple hd (ys := vs) (SqL.of e2) fun t ht => ?_
      walk_at "ob"
      refine ⟨by walk_at "ob_len", fun a ha => ?_⟩
      have gA : Ex G0 (upd (upd G t (.tup vs)) a (.tup [.ref st, .ref t])) := by walk_at "ob_ex"
      refine k _ _ ⟨1 + r1, r4, rf, mss⟩ (g1.trans gA) ?_ ⟨?_, ?_, r40, ?_, rf0, rf1, ?_, ?_, ok2⟩ ?_ ?_ ok1
      · refine .tup (SqT.of upd_same) (.cons (.tup (SqT.of (gA _ _ e3)) (.cons (.int _) (.cons (.int _) (.cons (.int _) .nil)))) (.cons (.tup (SqT.of (xs := vs) ?_) (dps_ex gA dv)) .nil))
        walk_at "ob_at"
      · show 1 ≤ 1 + r1; omega
      · show 1 + r1 ≤ 99; omega
      · show r4 ≤ 1 + r1; omega
      · show mss.length ≤ 5; omega
      · intro ss hs
        have := ok1 ss hs
        omega
      · show 1 + r1 ≤ cap; omega
      · show ((mss.length : Nat) : Int) ≤ most; omega
end
end Obr
namespace Obr
open PySem L2 PyProof.Rows
/-! ### what laws share -/
theorem sw_hide {S : Type} {J : S → Hp → Hp → Prop} {t : TS} {σ : L2.St} {s : S} {F : Hp} {h c : Addr} {m : Int} {ns : List Int} {N : L2.St → S → Hp → Prop} {R : V → S → Hp → Prop} (fc : F c = none) (fh : F h = none) (hne : c ≠ h) (m0 : 0 ≤ m) (m1 : m < 2147483647) (hn : ns.length ≤ 63) (hR : ∀ s F, R (.bl true) s F)
    (hw : SW (HJ h c J) t { nx := fun _ _ _ => False, rt := fun v _ _ => v = .bl true } σ s F) : SW J t { nx := N, rt := R } σ s (upd (upd F c (cL ns)) h (hL c m 0)) := fun H j D' l =>
  hw H ⟨_, m, 0, ns, Ex.new (Ex.new (.refl _) fc) (by rw [upd_ne hne.symm]; exact fh), fh, fc, m0, m1, by decide, hn, upd_same, (upd_ne hne).trans upd_same, j⟩ D'
    ⟨fun _ _ _ _ _ k => k.elim, fun v s F H ⟨G, _, _, _, _, _, _, _, _, _, _, _, _, j⟩ k => by subst k; exact l.rt _ s G H j (hR s G), fun _ _ _ _ _ k => k.elim, fun _ _ _ _ _ k => k.elim⟩
theorem dps_ext {K : PySem.W.Frag} {F : Hp} : ∀ {vs : List V} {ds : List PyData}, vs.length = ds.length → (∀ (i : Nat) (v : V) (d : PyData), vs[i]? = some v → ds[i]? = some d → Dp K F v d) → DpAll K F vs ds
  | [], [], _, _ => .nil
  | [], _ :: _, h, _ => by simp at h
  | _ :: _, [], h, _ => by simp at h
  | v :: vs, d :: ds, h, k => .cons (k 0 v d rfl rfl) (dps_ext (by simpa using h) fun i v d h1 h2 => k (i + 1) v d (by simpa using h1) (by simpa using h2))
theorem low_ints {n : Nat} {l : List Int} : lowD (n + 1) (.list (l.map PyData.int)) = true := by
  show (l.map PyData.int).all (lowD n) = true
  rw [List.all_eq_true]
  intro d hd
  obtain ⟨i, _, rfl⟩ := List.mem_map.mp hd
  cases n <;> rfl
end Obr
namespace Obr
open PySem PySem.Spec L2 LamX NdefX PyProof.Rows
local macro_rules | `(tactic| walk_at "ob_at") => `(tactic| first
  | assumption
  | exact upd_same
  | (refine Eq.trans (upd_ne ?obn) ?obr; (case obn => walk_at "ob_ne"); (case obr => walk_at "ob_at")))
local macro_rules | `(tactic| walk_at "ob_ne") => `(tactic| first
  | assumption
  | (refine Ne.symm ?obs; (case obs => assumption))
  | (refine' ne_of_none (H := ?_) ?obe ?obh; (case obh => assumption); (case obe => walk_at "ob_at"))
  | (refine Ne.symm ?obs; (case obs => (refine' ne_of_none (H := ?_) ?obe ?obh; (case obh => assumption); (case obe => walk_at "ob_at")))))
local macro_rules | `(tactic| walk_at "ob_fr") => `(tactic| first
  | assumption
  | (refine Eq.trans (upd_ne ?obn) ?obr; (case obn => walk_at "ob_ne"); (case obr => walk_at "ob_fr"))
  | (refine Ex.free (G := ?_) (by assumption) ?obh; (case obh => walk_at "ob_fr")))
local macro_rules | `(tactic| walk_at "ob_ex") => `(tactic| first
  | assumption
  | exact Ex.refl _
  | (refine Ex.out ?obg ?obh; (case obh => assumption); (case obg => walk_at "ob_ex"))
  | (refine Ex.new ?obg ?obh; (case obh => assumption); (case obg => walk_at "ob_ex"))
  | (refine Ex.new ?obg ?obh; (case obh => walk_at "ob_fr"); (case obg => walk_at "ob_ex")))
local macro_rules | `(tactic| walk_at "ob_sq") => `(tactic| first
  | assumption
  | (refine SqL.of ?oba; (case oba => walk_at "ob_at"))
  | (refine Ex.sqT (F := ?_) ?obg ?obh; (case obh => assumption); (case obg => walk_at "ob_ex"))
  | (refine Ex.sqL (F := ?_) ?obg ?obh; (case obh => assumption); (case obg => walk_at "ob_ex"))
  | (refine SqT.of ?oba; (case oba => walk_at "ob_at")))
local macro_rules | `(tactic| walk_at "ob_side") => `(tactic| first | exact rfl | assumption | decide | omega | exact ⟨by decide, by decide, by decide⟩ | exact Or.inr ⟨by decide, by decide⟩ | exact Or.inl ⟨by decide, by decide⟩ | exact wide_div (b := 60) (by first | decide | omega) (by first | decide | omega) (by decide) (by decide))
local macro_rules | `(tactic| walk_at "ob1") => `(tactic| first
  | with_reducible refine sw_seq ?_
  | with_reducible refine sw_asg ?_
  | with_reducible refine sw_ret ?_
  | with_reducible refine sw_par ?_
  | with_reducible refine ⟨_, _, rfl, ?_⟩
  | with_reducible refine sw_drop ?_
  | with_reducible refine sw_if ?_
  | with_reducible refine sw_next ?_
  | with_reducible refine gw_name ?_
  | with_reducible refine gw_subL (by assumption) ?_
  | with_reducible refine gsw_cons ?_
  | with_reducible refine gsw_nil ?_
  | with_reducible refine ew_c ?_
  | ((with_reducible refine' ew_var (v := ?_) ?obv ?_); (case obv => exact rfl))
  | ((with_reducible refine ew_next (by assumption) ?obv ?_); (case obv => exact rfl))
  | ((with_reducible refine ew_world (by assumption) ?obv ?_); (case obv => exact rfl))
  | ((with_reducible refine ew_rule (by assumption) ?obv ?_); (case obv => exact rfl))
  | with_reducible refine ew_op ?_
  | with_reducible refine ew_un ?_
  | with_reducible refine ew_dget (by assumption) ?_
  | with_reducible refine uw_I ?_
  | with_reducible refine ppw_nil ?_
  | with_reducible refine ppw_cons ?_
  | with_reducible refine sw_dput (by assumption) ?_
  | with_reducible refine ew_cb ?_
  | with_reducible refine ew_if ?_
  | with_reducible refine ew_slL (by assumption) ?_
  | with_reducible refine ow_some ?_
  | with_reducible refine ow_none ?_
  | with_reducible refine aw_nil ?_
  | with_reducible refine aw_cons ?_
  | with_reducible refine rw_I0 ?_
  | ((with_reducible refine rw_I ?obc ?_); (case obc => walk_at "ob_side"))
  | with_reducible refine rw_isN ?_
  | with_reducible refine rw_notN ?_
  | ((with_reducible refine rw_eq ?obc ?_); (case obc => exact rfl))
  | ((with_reducible refine rw_ne ?obc ?_); (case obc => exact rfl))
  | with_reducible refine cw_max2 ?_
  | with_reducible refine cw_min2 ?_
  | with_reducible refine tw_test ?_
  | with_reducible refine tw_B ?_
  | with_reducible refine tw_not ?_
  | with_reducible refine tw_truB ?_
  | with_reducible refine tw_and ?_
  | with_reducible refine tw_or ?_
  | with_reducible refine ew_and ?_
  | (refine' Exists.intro _ (And.intro (show V.bl _ = V.bl _ from rfl) ?_))
  | (refine' Exists.intro _ (And.intro (show V.int _ = V.int _ from rfl) ?_))
  | ((with_reducible refine' rw_ixL (v := ?_) (xs := ?_) (by assumption) ?obl ?oba ?_); (case obl => walk_at "ob_sq"); (case oba => first | exact rfl | exact at_zero))
  | ((with_reducible refine' rw_ixT (v := ?_) (xs := ?_) (by assumption) ?obl ?oba ?_); (case obl => walk_at "ob_sq"); (case oba => first | exact rfl | exact at_zero))
  | ((with_reducible refine' ew_lst (by assumption) ?_))
  | ((with_reducible refine' ew_tup (by assumption) ?_)))
local macro_rules | `(tactic| walk_at "ob_len") => `(tactic| first | exact Nat.le_of_ble_eq_true rfl | (simp; done) | omega)
local macro_rules | `(tactic| walk_at "ob") => `(tactic| repeat walk_at "ob1")

theorem pssP_given {X : Cx} {sts : List Stmt} {t : TS} {p : Prop} (h : p → PSs X sts t) : PSs X sts (fun D σ H => p ∧ t D σ H) := ⟨fun pins s σ H D I h' => (h h'.1).run pins s σ H D I h'.2⟩
theorem pssP_imp {X : Cx} {sts : List Stmt} {t t' : TS} (h : PSs X sts t) (hi : ∀ D σ H, t' D σ H → t D σ H) : PSs X sts t' := ⟨fun pins s σ H D I h' => h.run pins s σ H D I (hi _ _ _ h')⟩
def tKindP (a : Addr) (d : Option Addr) : TS := fun D σ H => σ.length = 3 ∧ σ[1]? = some (some (.ref a)) ∧ ∃ (J : Unit → Hp → Hp → Prop) (F : Hp) (dx : Addr) (n : Int), d = some dx ∧ Hid J ∧ J () F H ∧ F dx = some (.xd [("beat", .int n)]) ∧ ∀ (F' H' : Hp) (p : Addr), J () F' H' → Ex F F' → F' p = some (.tup [.str "plan", .int n]) → D.rt (.ref p) H'
theorem sw_runP {J : Unit → Hp → Hp → Prop} {F : Hp} {t : TS} {σ : L2.St} {H : Hp} {D : Ends} (j : J () F H) (h : SW J t { nx := fun _ _ _ => False, rt := fun v _ F => ∀ H, J () F H → D.rt v H } σ () F) : t D σ H := h H j D ⟨fun _ _ _ _ _ z => z.elim, fun v _ F H j k => k H j, fun _ _ _ _ _ z => z.elim, fun _ _ _ _ _ z => z.elim⟩
/-- what _law_kind makes of a lambda: BadPlan(beat=n), or no exception -/
def kindP (cBad : Addr) : TTr := fun tl H Q _ => tl (fun cls d H' => cls = .ref cBad ∧ ∃ (J : Unit → Hp → Hp → Prop) (F : Hp) (dx : Addr) (n : Int), d = some dx ∧ Hid J ∧ J () F H' ∧ F dx = some (.xd [("beat", .int n)]) ∧ ∀ (F' H'' : Hp) (p : Addr), J () F' H'' → Ex F F' → F' p = some (.tup [.str "plan", .int n]) → Q (.ref p) H'') H (fun _ H' => ∀ p, H' p = none → Q (.ref p) (upd H' p (.tup [.str "", .int 0])))
section
variable {P : Program} {w : World} {K : PySem.W.Frag} {mg : Str → Option Value} {base : Heap} {cBadStep cBadPlan cNoMachine cBadDeed cBadText cBadStore cBadRule cBadCount cTooMany cBreathError : Addr}
abbrev s__law_kind : Stmt := top 60
def N__law_kind : List Str := ["_law_call", "e", "_law_kinds"]
theorem sc__law_kind : FnScope N__law_kind ["_law_call"] (defScope s__law_kind) := ⟨rfl, rfl, rfl, by decide +kernel, rfl, by decide +kernel, by decide +kernel⟩
theorem gok_kindP {f : Addr} {fd : FuncData} {kl : Nat} (Fn : Fun K "_law_kind" "_law_kind" s__law_kind f fd) (B : Blt mg) (Ca : Cal K mg "_law_kind" f fd ["_law_call"]) (gBadStep : mg "BadStep" = some (.ref cBadStep)) (gBadPlan : mg "BadPlan" = some (.ref cBadPlan)) (gNoMachine : mg "NoMachine" = some (.ref cNoMachine)) (gBadDeed : mg "BadDeed" = some (.ref cBadDeed)) (gBadText : mg "BadText" = some (.ref cBadText)) (gBadStore : mg "BadStore" = some (.ref cBadStore)) (gBadRule : mg "BadRule" = some (.ref cBadRule)) (gBadCount : mg "BadCount" = some (.ref cBadCount)) (gTooMany : mg "TooMany" = some (.ref cTooMany)) (gBreathError : mg "BreathError" = some (.ref cBreathError)) (kBadStep : PySem.W.kitOne K (.ref cBadPlan) (.ref cBadStep) = some false) (kBadPlan : PySem.W.kitOne K (.ref cBadPlan) (.ref cBadPlan) = some true) (kNoMachine : PySem.W.kitOne K (.ref cBadPlan) (.ref cNoMachine) = some false) (kBadDeed : PySem.W.kitOne K (.ref cBadPlan) (.ref cBadDeed) = some false) (kBadText : PySem.W.kitOne K (.ref cBadPlan) (.ref cBadText) = some false) (kBadStore : PySem.W.kitOne K (.ref cBadPlan) (.ref cBadStore) = some false) (kBadRule : PySem.W.kitOne K (.ref cBadPlan) (.ref cBadRule) = some false) (kBadCount : PySem.W.kitOne K (.ref cBadPlan) (.ref cBadCount) = some false) (kTooMany : PySem.W.kitOne K (.ref cBadPlan) (.ref cTooMany) = some false) (kValueError : PySem.W.kitOne K (.ref cBadPlan) (.type "ValueError") = some true)
    (xm : PySem.W.exmOne K (.ref cBadPlan) (.ref cBreathError) = some true) (XC : ExcC K cBadPlan) (XfP : XfC K cBadPlan) (no_beat : PySem.W.findIn K (.ref cBadPlan) "beat" = some none) (no_row : PySem.W.findIn K (.ref cBadPlan) "row" = some none) : GOk P w K mg base C8.CX0 (L2.CX P w) (kl + 1) kl f (kindP cBadPlan) := by
  refine ⟨fun A outer s H a F ds fr ws sp Q E hr e0 ha C O hT => ?_⟩
  have S := sc__law_kind
  have nd := S.nd
  have hb := Ca.a
  obtain ⟨oc, od, kV, doc, pm, an, cdv, ct, osl, rfl, lk, hcd⟩ := Fn.ex
  have KX : K.In s.heap := e0.mod.kin.keeps fun b o e => (e0.bs b o e).1
  refine run_ofS (N := N__law_kind) (ps := ["_law_call"]) (us := [.ref a]) (vs := [.ref a]) lk hcd S hr e0 (hb s [.ref a] KX rfl) (.cons rfl .nil) rfl fun hr' => ?_
  obtain ⟨_, hsp⟩ := hT
  suffices hh : ∃ t, PSs (cxOf C8.CX0 P w K mg base N__law_kind "_law_kind" (defScope s__law_kind) f cdv A outer s H E).nox (defBody s__law_kind) t ∧ t { nx := fun _ H' => Q .non H', rt := Q } (L2.start N__law_kind [.ref a]) H by
    obtain ⟨t, h1, h2⟩ := hh
    exact ⟨t, h1.nox, h2⟩
  refine ⟨_, (pss_cons (ps_try_as (c := .ref cBreathError) (i := 1) (Wout := fun _ _ _ _ => False) (ts := fun a cls d D σ H => (cls = .ref cBadPlan ∧ ∃ dx, d = some dx) ∧ tKindP a d D σ H) rfl rfl nd rfl rfl ⟨by rfl, by decide, .inl gBreathError⟩ L2.takes0
    (fun W pn xe tk _ => pss_one (ps_expr (pe_calll (i := 0) (k := kl) (j := kl) (E := WE W) O C rfl hr' (Nat.le_refl _) (fun σ => passAt tk σ) rfl (.inl (by rfl)))))
    (fun a oe cls d pn hz hf => pssP_given fun e => ?_))
    (pss_one (ps_ret (pe_tup (pa_cons pe_str (pa_cons pe_int pa_nil)))))), ?_⟩
  · obtain ⟨rfl, dx, rfl⟩ := e
    have IS : CallR ((cxOf C8.CX0 P w K mg base N__law_kind "_law_kind" (defScope s__law_kind) f cdv A outer s H E).nox.suite a ((a, oe) :: pn)) (.builtin "isinstance") (rIsX K cBadPlan a dx) := call_isX XC hz hf
    refine pssP_imp (pss_cons (ps_set (i := 2) nd rfl (Or.inl rfl) (pe_lst (pa_cons (pe_callB IS (by rfl) B.isinstance (by decide +kernel) (pa_cons (pv 1) (pa_cons (pe_glob (v := .ref cBadStep) (by rfl) gBadStep (by rfl)) pa_nil))) (pa_cons (pe_callB IS (by rfl) B.isinstance (by decide +kernel) (pa_cons (pv 1) (pa_cons (pe_glob (v := .ref cBadPlan) (by rfl) gBadPlan (by rfl)) pa_nil))) (pa_cons (pe_callB IS (by rfl) B.isinstance (by decide +kernel) (pa_cons (pv 1) (pa_cons (pe_glob (v := .ref cNoMachine) (by rfl) gNoMachine (by rfl)) pa_nil))) (pa_cons (pe_callB IS (by rfl) B.isinstance (by decide +kernel) (pa_cons (pv 1) (pa_cons (pe_glob (v := .ref cBadDeed) (by rfl) gBadDeed (by rfl)) pa_nil))) pa_nil))))))
      (pss_cons (ps_expr (pe_bm PySem.F.plainAttrs_list PySem.F.slot_list_extend PySem.F.type_list_extend mt_extend (pv 2) (pa_cons (pe_lst (pa_cons (pe_callB IS (by rfl) B.isinstance (by decide +kernel) (pa_cons (pv 1) (pa_cons (pe_glob (v := .ref cBadText) (by rfl) gBadText (by rfl)) pa_nil))) (pa_cons (pe_callB IS (by rfl) B.isinstance (by decide +kernel) (pa_cons (pv 1) (pa_cons (pe_glob (v := .ref cBadStore) (by rfl) gBadStore (by rfl)) pa_nil))) (pa_cons (pe_callB IS (by rfl) B.isinstance (by decide +kernel) (pa_cons (pv 1) (pa_cons (pe_glob (v := .ref cBadRule) (by rfl) gBadRule (by rfl)) pa_nil))) (pa_cons (pe_callB IS (by rfl) B.isinstance (by decide +kernel) (pa_cons (pv 1) (pa_cons (pe_glob (v := .ref cBadCount) (by rfl) gBadCount (by rfl)) pa_nil))) pa_nil))))) pa_nil)))
      (pss_cons (ps_expr (pe_bm PySem.F.plainAttrs_list PySem.F.slot_list_append PySem.F.type_list_append mt_append (pv 2) (pa_cons (pe_callB IS (by rfl) B.isinstance (by decide +kernel) (pa_cons (pv 1) (pa_cons (pe_glob (v := .ref cTooMany) (by rfl) gTooMany (by rfl)) pa_nil))) pa_nil)))
      (pss_cons (ps_if (PW.pt (pw_or (pt_cmpR op_ne (pe_bm PySem.F.plainAttrs_list PySem.F.slot_list_count PySem.F.type_list_count mt_countV (pv 2) (pa_cons pe_bl pa_nil)) pe_int (nomark _)) (pw_or1 (pt_not (pt_val (pe_callB IS (by rfl) B.isinstance (by decide +kernel) (pa_cons (pv 1) (pa_cons (pe_bltn (v := .ty "ValueError") (by rfl) B.verr (by decide +kernel) rfl) pa_nil)))))))) (pss_one (ps_never)) pss_nil)
      (pss_cons (ps_if (pt_val (pe_ix ix_list (pv 2) pe_int (fun _ _ => rfl))) (pss_one (ps_never)) pss_nil)
      (pss_cons (ps_if (PW.pt (pw_or (pt_val (pe_ix ix_list (pv 2) pe_int (fun _ _ => rfl))) (pw_or1 (pt_val (pe_ix ix_list (pv 2) pe_int (fun _ _ => rfl)))))) (pss_one (ps_ret (pe_ifExp (pt_val (pe_ix ix_list (pv 2) pe_int (fun _ _ => rfl))) (pe_tup (pa_cons pe_str (pa_cons (pe_xf XfP no_beat hz hf (pv 1)) pa_nil))) (pe_tup (pa_cons pe_str (pa_cons (pe_xf XfP no_row hz hf (pv 1)) pa_nil)))))) pss_nil)
      (pss_cons (ps_never)
      (pss_one (ps_never))))))))) ?_
    rintro D' σ HH ⟨hlen, hs1, J, H', dx', n, edx, hd, jj, hdx, kk⟩
    cases edx
    obtain ⟨x0, x1, x2, rfl⟩ : ∃ x0 x1 x2, σ = [x0, x1, x2] := by
      match σ, hlen with
      | [a, b, c], _ => exact ⟨_, _, _, rfl⟩
    cases hs1
    refine sw_runP jj ?_
    refine sw_seq (sw_asg (ew_lst hd ?_))
    walk_at "ob"
    refine cw_isX hd (cv := .ref _) (fun u r => r) (by assumption) hdx ?_
    walk_at "ob"
    refine cw_isX hd (cv := .ref _) (fun u r => r) (by assumption) hdx ?_
    walk_at "ob"
    refine cw_isX hd (cv := .ref _) (fun u r => r) (by assumption) hdx ?_
    walk_at "ob"
    refine cw_isX hd (cv := .ref _) (fun u r => r) (by assumption) hdx ?_
    walk_at "ob"
    refine ⟨by walk_at "ob_len", fun p1 hp1 => ?_⟩
    refine gw_name ?_
    refine sw_seq (sw_drop (ew_bmL hd ?_))
    walk_at "ob"
    refine ⟨p1, _, rfl, SqL.of upd_same, aw_cons (ew_lst hd ?_)⟩
    walk_at "ob"
    refine cw_isX hd (cv := .ref _) (fun u r => r) (by assumption) (Ex.new (.refl _) hp1 _ _ hdx) ?_
    walk_at "ob"
    refine cw_isX hd (cv := .ref _) (fun u r => r) (by assumption) (Ex.new (.refl _) hp1 _ _ hdx) ?_
    walk_at "ob"
    refine cw_isX hd (cv := .ref _) (fun u r => r) (by assumption) (Ex.new (.refl _) hp1 _ _ hdx) ?_
    walk_at "ob"
    refine cw_isX hd (cv := .ref _) (fun u r => r) (by assumption) (Ex.new (.refl _) hp1 _ _ hdx) ?_
    walk_at "ob"
    refine ⟨by walk_at "ob_len", fun p2 hp2 => ?_⟩
    have hO0 := (own_nil (F := H')).more (o := .lst [V.bl false, V.bl true, V.bl false, V.bl false]) hp1
    have hO1 := hO0.new' (o := .lst [V.bl false, V.bl false, V.bl false, V.bl false]) hp2
    refine aw_nil (mw_extend hd (hO1.get (i := 0) rfl) upd_same (by simp) ?_)
    have hO2 := hO1.set (i := 0) (a := p1) (o' := .lst ([V.bl false, V.bl true, V.bl false, V.bl false] ++ [V.bl false, V.bl false, V.bl false, V.bl false])) rfl
    refine sw_seq (sw_drop (ew_bmL hd ?_))
    walk_at "ob"
    refine ⟨p1, _, rfl, SqL.of (hO2.get (i := 0) rfl), aw_cons (ew_cb ?_)⟩
    walk_at "ob"
    refine cw_isX hd (cv := .ref _) (fun u r => r) (by assumption) (hO2.ex _ _ hdx) ?_
    refine aw_nil (mw_append hd (hO2.get (i := 0) rfl) (by simp) ?_)
    have hO3 := hO2.set (i := 0) (a := p1) (o' := .lst ([V.bl false, V.bl true, V.bl false, V.bl false] ++ [V.bl false, V.bl false, V.bl false, V.bl false] ++ [V.bl false])) rfl
    have sq3 : SqL K _ p1 [V.bl false, V.bl true, V.bl false, V.bl false, V.bl false, V.bl false, V.bl false, V.bl false, V.bl false] := SqL.of (K := K) (hO3.get (i := 0) rfl)
    have aw3 := hO3.ex
    generalize (upd _ p1 (.lst ([V.bl false, V.bl true, V.bl false, V.bl false] ++ [V.bl false, V.bl false, V.bl false, V.bl false] ++ [V.bl false]))) = F3 at hO3 sq3 aw3 ⊢
    refine sw_seq (sw_if (tw_or (tw_test (ew_op (ew_bmL hd ?_)))))
    walk_at "ob"
    refine ⟨p1, _, rfl, sq3, ?_⟩
    walk_at "ob"
    refine mw_countV hd sq3 rfl rfl ?_
    walk_at "ob"
    refine ⟨fun hb => absurd hb (by decide), fun _ => ?_⟩
    refine tw_not (tw_B (ew_cb ?_))
    walk_at "ob"
    refine cw_isX hd (cv := .type "ValueError") (fun u r => r) kValueError (aw3 _ _ hdx) ?_
    refine ⟨true, rfl, (fun z => by cases z), fun _ => sw_next ?_⟩
    refine sw_seq (sw_if (tw_B (ew_op ?_)))
    walk_at "ob"
    refine ⟨(fun z => by cases z), fun _ => sw_next ?_⟩
    refine sw_seq (sw_if (tw_or (tw_B (ew_op ?_))))
    walk_at "ob"
    refine ⟨fun _ => ⟨fun _ => sw_ret (ew_if (tw_B (ew_op ?_))), (fun z => by cases z)⟩, (fun z => by cases z)⟩
    walk_at "ob"
    refine ⟨fun _ => ew_tup hd (aw_cons (ew_c (aw_cons (ew_xf hd (ew_var rfl ⟨rfl, _, _, aw3 _ _ hdx, rfl, aw_nil ⟨by walk_at "ob_len", fun p3 hp3 => ?_⟩⟩))))), (fun z => by cases z)⟩
    exact fun H j => kk _ _ p3 j (aw3.trans (Ex.new (.refl _) hp3)) upd_same
  refine ⟨rfl, ha, O.mono_ _ _ _ _ _ _ hsp ?_ ?_⟩
  · exact fun v H' k => ⟨by decide, fun p hp => k p hp⟩
  · rintro cls d H' ⟨rfl, J, F, dx, n, rfl, hd, j, e1, k⟩
    exact ⟨true, xm, fun _ a ha => ⟨⟨rfl, dx, rfl⟩, rfl, rfl, J, F, dx, n, rfl, hd, j, e1, k⟩, fun z => by cases z⟩
end
end Obr
namespace Obr
open PySem L2 PyProof.Rows
local macro_rules | `(tactic| walk_at "ob_at") => `(tactic| first
  | assumption
  | exact upd_same
  | (refine Eq.trans (upd_ne ?obn) ?obr; (case obn => walk_at "ob_ne"); (case obr => walk_at "ob_at")))
local macro_rules | `(tactic| walk_at "ob_ne") => `(tactic| first
  | assumption
  | (refine Ne.symm ?obs; (case obs => assumption))
  | (refine' ne_of_none (H := ?_) ?obe ?obh; (case obh => assumption); (case obe => walk_at "ob_at"))
  | (refine Ne.symm ?obs; (case obs => (refine' ne_of_none (H := ?_) ?obe ?obh; (case obh => assumption); (case obe => walk_at "ob_at")))))
local macro_rules | `(tactic| walk_at "ob_fr") => `(tactic| first
  | assumption
  | (refine Eq.trans (upd_ne ?obn) ?obr; (case obn => walk_at "ob_ne"); (case obr => walk_at "ob_fr"))
  | (refine Ex.free (G := ?_) (by assumption) ?obh; (case obh => walk_at "ob_fr")))
local macro_rules | `(tactic| walk_at "ob_ex") => `(tactic| first
  | assumption
  | exact Ex.refl _
  | (refine Ex.out ?obg ?obh; (case obh => assumption); (case obg => walk_at "ob_ex"))
  | (refine Ex.new ?obg ?obh; (case obh => assumption); (case obg => walk_at "ob_ex"))
  | (refine Ex.new ?obg ?obh; (case obh => walk_at "ob_fr"); (case obg => walk_at "ob_ex")))
local macro_rules | `(tactic| walk_at "ob_sq") => `(tactic| first
  | assumption
  | (refine SqL.of ?oba; (case oba => walk_at "ob_at"))
  | (refine Ex.sqT (F := ?_) ?obg ?obh; (case obh => assumption); (case obg => walk_at "ob_ex"))
  | (refine Ex.sqL (F := ?_) ?obg ?obh; (case obh => assumption); (case obg => walk_at "ob_ex"))
  | (refine SqT.of ?oba; (case oba => walk_at "ob_at")))
local macro_rules | `(tactic| walk_at "ob_side") => `(tactic| first | exact rfl | assumption | decide | omega | exact ⟨by decide, by decide, by decide⟩ | exact Or.inr ⟨by decide, by decide⟩ | exact Or.inl ⟨by decide, by decide⟩ | exact wide_div (b := 60) (by first | decide | omega) (by first | decide | omega) (by decide) (by decide))
local macro_rules | `(tactic| walk_at "ob1") => `(tactic| first
  | with_reducible refine sw_seq ?_
  | with_reducible refine sw_asg ?_
  | with_reducible refine sw_ret ?_
  | with_reducible refine sw_par ?_
  | with_reducible refine ⟨_, _, rfl, ?_⟩
  | with_reducible refine sw_drop ?_
  | with_reducible refine sw_if ?_
  | with_reducible refine sw_next ?_
  | with_reducible refine gw_name ?_
  | with_reducible refine ew_c ?_
  | ((with_reducible refine' ew_var (v := ?_) ?obv ?_); (case obv => exact rfl))
  | ((with_reducible refine ew_next (by assumption) ?obv ?_); (case obv => exact rfl))
  | ((with_reducible refine ew_world (by assumption) ?obv ?_); (case obv => exact rfl))
  | ((with_reducible refine ew_rule (by assumption) ?obv ?_); (case obv => exact rfl))
  | with_reducible refine ew_op ?_
  | with_reducible refine ew_un ?_
  | with_reducible refine ew_cb ?_
  | with_reducible refine ew_if ?_
  | with_reducible refine ew_slL (by assumption) ?_
  | with_reducible refine ow_some ?_
  | with_reducible refine ow_none ?_
  | with_reducible refine aw_nil ?_
  | with_reducible refine aw_cons ?_
  | with_reducible refine rw_I0 ?_
  | ((with_reducible refine rw_I ?obc ?_); (case obc => walk_at "ob_side"))
  | ((with_reducible refine rw_eq ?obc ?_); (case obc => exact rfl))
  | ((with_reducible refine rw_ne ?obc ?_); (case obc => exact rfl))
  | with_reducible refine cw_max2 ?_
  | with_reducible refine cw_min2 ?_
  | with_reducible refine tw_test ?_
  | with_reducible refine tw_B ?_
  | with_reducible refine tw_not ?_
  | (refine' Exists.intro _ (And.intro (show V.bl _ = V.bl _ from rfl) ?_))
  | (refine' Exists.intro _ (And.intro (show V.int _ = V.int _ from rfl) ?_))
  | ((with_reducible refine' rw_ixL (v := ?_) (xs := ?_) (by assumption) ?obl ?oba ?_); (case obl => walk_at "ob_sq"); (case oba => first | exact rfl | exact at_zero))
  | ((with_reducible refine' rw_ixT (v := ?_) (xs := ?_) (by assumption) ?obl ?oba ?_); (case obl => walk_at "ob_sq"); (case oba => first | exact rfl | exact at_zero))
  | ((with_reducible refine' ew_lst (by assumption) ?_))
  | ((with_reducible refine' ew_tup (by assumption) ?_)))
local macro_rules | `(tactic| walk_at "ob_len") => `(tactic| first | exact Nat.le_of_ble_eq_true rfl | (simp; done) | omega)
local macro_rules | `(tactic| walk_at "ob") => `(tactic| repeat walk_at "ob1")

/-! ### _law_turn: the claims by their keys -/
structure Clm where
  k : Int
  draw : Int
  since : Int
  deriving DecidableEq
def clmD (c : Clm) : PyData := .tuple [.int c.k, .int c.draw, .int c.since]
def ckey (r : Rgt) (last : Int) (c : Clm) : Int := match r with
  | .rank => 0
  | .turns => b2i (decide (c.k ≤ last))
  | .wait => c.since
  | .least => c.draw
def cLt (r : Rgt) (last : Int) (a b : Clm) : Prop := ckey r last a < ckey r last b ∨ (ckey r last a = ckey r last b ∧ a.k < b.k)
instance (r : Rgt) (last : Int) (a b : Clm) : Decidable (cLt r last a b) := by unfold cLt; infer_instance
/-- _law_turn(right, claims, last): the claims in their turn -/
def aTurn (K : PySem.W.Frag) : List V → Hp → VK → Prop := fun vs F R => ∃ (F0 : Hp) (r : Rgt) (last : Int) (ca : Addr) (cvs : List V) (cs : List Clm), vs = [.str (rgtS r), .ref ca, .int last] ∧ Ex F0 F ∧ SqL K F ca cvs ∧ DpAll K F0 cvs (cs.map clmD) ∧ cs.length ≤ 60 ∧ (cs.map Clm.k).Nodup ∧
  ∀ (p : Addr) (F' : Hp) (ts : List Clm) (vs2 : List V), Ex F F' → F p = none → F' p = some (.lst vs2) → DpAll K F0 vs2 (ts.map clmD) → ts.Perm cs → ts.Pairwise (cLt r last) → R (.ref p) F'
section
variable {P : Program} {w : World} {K : PySem.W.Frag} {mg : Str → Option Value} {base : Heap}
end
end Obr
namespace Obr
open PySem L2 PyProof.Rows
local macro_rules | `(tactic| walk_at "ob_at") => `(tactic| first
  | assumption
  | exact upd_same
  | (refine Eq.trans (upd_ne ?obn) ?obr; (case obn => walk_at "ob_ne"); (case obr => walk_at "ob_at")))
local macro_rules | `(tactic| walk_at "ob_ne") => `(tactic| first
  | assumption
  | (refine Ne.symm ?obs; (case obs => assumption))
  | (refine' ne_of_none (H := ?_) ?obe ?obh; (case obh => assumption); (case obe => walk_at "ob_at"))
  | (refine Ne.symm ?obs; (case obs => (refine' ne_of_none (H := ?_) ?obe ?obh; (case obh => assumption); (case obe => walk_at "ob_at")))))
local macro_rules | `(tactic| walk_at "ob_fr") => `(tactic| first
  | assumption
  | (refine Eq.trans (upd_ne ?obn) ?obr; (case obn => walk_at "ob_ne"); (case obr => walk_at "ob_fr"))
  | (refine Ex.free (G := ?_) (by assumption) ?obh; (case obh => walk_at "ob_fr")))
local macro_rules | `(tactic| walk_at "ob_ex") => `(tactic| first
  | assumption
  | exact Ex.refl _
  | (refine Ex.out ?obg ?obh; (case obh => assumption); (case obg => walk_at "ob_ex"))
  | (refine Ex.new ?obg ?obh; (case obh => assumption); (case obg => walk_at "ob_ex"))
  | (refine Ex.new ?obg ?obh; (case obh => walk_at "ob_fr"); (case obg => walk_at "ob_ex")))
local macro_rules | `(tactic| walk_at "ob_sq") => `(tactic| first
  | assumption
  | (refine SqL.of ?oba; (case oba => walk_at "ob_at"))
  | (refine Ex.sqT (F := ?_) ?obg ?obh; (case obh => assumption); (case obg => walk_at "ob_ex"))
  | (refine Ex.sqL (F := ?_) ?obg ?obh; (case obh => assumption); (case obg => walk_at "ob_ex"))
  | (refine SqT.of ?oba; (case oba => walk_at "ob_at")))
local macro_rules | `(tactic| walk_at "ob_side") => `(tactic| first | exact rfl | assumption | decide | omega | exact ⟨by decide, by decide, by decide⟩ | exact Or.inr ⟨by decide, by decide⟩ | exact Or.inl ⟨by decide, by decide⟩ | exact wide_div (b := 60) (by first | decide | omega) (by first | decide | omega) (by decide) (by decide))
local macro_rules | `(tactic| walk_at "ob1") => `(tactic| first
  | with_reducible refine sw_seq ?_
  | with_reducible refine sw_asg ?_
  | with_reducible refine sw_ret ?_
  | with_reducible refine sw_par ?_
  | with_reducible refine ⟨_, _, rfl, ?_⟩
  | with_reducible refine sw_drop ?_
  | with_reducible refine sw_if ?_
  | with_reducible refine sw_next ?_
  | with_reducible refine gw_name ?_
  | with_reducible refine ew_c ?_
  | ((with_reducible refine' ew_var (v := ?_) ?obv ?_); (case obv => exact rfl))
  | ((with_reducible refine ew_next (by assumption) ?obv ?_); (case obv => exact rfl))
  | ((with_reducible refine ew_world (by assumption) ?obv ?_); (case obv => exact rfl))
  | ((with_reducible refine ew_rule (by assumption) ?obv ?_); (case obv => exact rfl))
  | with_reducible refine ew_op ?_
  | with_reducible refine ew_un ?_
  | with_reducible refine ew_dget (by assumption) ?_
  | with_reducible refine uw_I ?_
  | with_reducible refine ppw_nil ?_
  | with_reducible refine ppw_cons ?_
  | with_reducible refine sw_dput (by assumption) ?_
  | with_reducible refine ew_cb ?_
  | with_reducible refine ew_if ?_
  | with_reducible refine ew_slL (by assumption) ?_
  | with_reducible refine ow_some ?_
  | with_reducible refine ow_none ?_
  | with_reducible refine aw_nil ?_
  | with_reducible refine aw_cons ?_
  | with_reducible refine rw_I0 ?_
  | ((with_reducible refine rw_I ?obc ?_); (case obc => walk_at "ob_side"))
  | ((with_reducible refine rw_eq ?obc ?_); (case obc => exact rfl))
  | ((with_reducible refine rw_ne ?obc ?_); (case obc => exact rfl))
  | with_reducible refine cw_max2 ?_
  | with_reducible refine cw_min2 ?_
  | with_reducible refine tw_test ?_
  | with_reducible refine tw_B ?_
  | with_reducible refine tw_not ?_
  | (refine' Exists.intro _ (And.intro (show V.bl _ = V.bl _ from rfl) ?_))
  | (refine' Exists.intro _ (And.intro (show V.int _ = V.int _ from rfl) ?_))
  | ((with_reducible refine' rw_ixL (v := ?_) (xs := ?_) (by assumption) ?obl ?oba ?_); (case obl => walk_at "ob_sq"); (case oba => first | exact rfl | exact at_zero))
  | ((with_reducible refine' rw_ixT (v := ?_) (xs := ?_) (by assumption) ?obl ?oba ?_); (case obl => walk_at "ob_sq"); (case oba => first | exact rfl | exact at_zero))
  | ((with_reducible refine' ew_lst (by assumption) ?_))
  | ((with_reducible refine' ew_tup (by assumption) ?_)))
local macro_rules | `(tactic| walk_at "ob_len") => `(tactic| first | exact Nat.le_of_ble_eq_true rfl | (simp; done) | omega)
local macro_rules | `(tactic| walk_at "ob") => `(tactic| repeat walk_at "ob1")
/-! ### the law's own machines: their state, and where it stands -/
structure Mac where
  at_ : Int
  over : Int
  since : Int
  done : Int
  waits : Int
  ends : Option Int
structure LSt where
  level : Int
  last : Int
  beat : Int
  ms : List Mac
structure WAd where
  w : Addr
  at_ : Addr
  over : Addr
  since : Addr
  done : Addr
  waits : Addr
  ends : Addr
  store : V
  machines : V
  rule : V
def oV : Option Int → V
  | none => .non
  | some i => .int i
def wkeys : List Key := [.inr "store", .inr "machines", .inr "rule", .inr "level", .inr "at", .inr "over", .inr "since", .inr "last", .inr "beat", .inr "done", .inr "waits", .inr "ends"]
def wkvs (A : WAd) (t : LSt) : List (Key × V) := [(.inr "store", A.store), (.inr "machines", A.machines), (.inr "rule", A.rule), (.inr "level", .int t.level), (.inr "at", .ref A.at_), (.inr "over", .ref A.over), (.inr "since", .ref A.since),
  (.inr "last", .int t.last), (.inr "beat", .int t.beat), (.inr "done", .ref A.done), (.inr "waits", .ref A.waits), (.inr "ends", .ref A.ends)]
def wown (A : WAd) (t : LSt) : List (Addr × HO) := [(A.w, .dK (wkvs A t)), (A.at_, .lst (t.ms.map fun m => .int m.at_)), (A.over, .lst (t.ms.map fun m => .int m.over)), (A.since, .lst (t.ms.map fun m => .int m.since)),
  (A.done, .lst (t.ms.map fun m => .int m.done)), (A.waits, .lst (t.ms.map fun m => .int m.waits)), (A.ends, .lst (t.ms.map fun m => oV m.ends))]
def stoD (w : Wld) : PyData := .tuple [.int w.cap, .int w.start, .int w.refill]
structure WAt (K : PySem.W.Frag) (F0 F : Hp) (A : WAd) (t : LSt) (w : Wld) (r : Rgt) (p : Bool) (ex : List (Addr × HO)) : Prop where
  own : Own F0 F (wown A t ++ ex)
  st : Dp K F0 A.store (stoD w)
  mc : Dp K F0 A.machines (.tuple (w.ms.map macD))
  ru : Dp K F0 A.rule (rulD r p)
  len : t.ms.length = w.ms.length
/-- all as it is ahead of beat 0 -/
def lBegun (w : Wld) : LSt := ⟨w.start, -1, 0, w.ms.map fun ss => ⟨0, -1, 0, 0, 0, if ss.isEmpty then some 0 else none⟩⟩
/-- _law_begun(world, rule) -/
def aBegun (K : PySem.W.Frag) : List V → Hp → VK → Prop := fun vs F R => ∃ (x y : V) (w : Wld) (r : Rgt) (p : Bool), vs = [x, y] ∧ Dp K F x (wldD w) ∧ Dp K F y (rulD r p) ∧ w.ms.length ≤ 5 ∧ (∀ ss ∈ w.ms, ss.length ≤ 12) ∧
  ∀ (F0 F' : Hp) (A : WAd), Ex F F0 → WAt K F0 F' A (lBegun w) w r p [] → R (.ref A.w) F'
def bk1 (sa ma : Addr) (y : V) (z : Int) (c1 : Addr) : List (Key × V) := [(.inr "store", .ref sa), (.inr "machines", .ref ma), (.inr "rule", y), (.inr "level", .int z), (.inr "at", .ref c1)]
def bk2 (c2 c3 c4 c5 : Addr) : List (Key × V) := [(.inr "over", .ref c2), (.inr "since", .ref c3), (.inr "last", .int (-1)), (.inr "beat", .int 0), (.inr "done", .ref c4), (.inr "waits", .ref c5)]
section
variable {P : Program} {w : World} {K : PySem.W.Frag} {mg : Str → Option Value} {base : Heap}
end
end Obr
namespace Obr
open PySem L2 PyProof.Rows
/-! ### reading and writing the law's machines -/
theorem atI_int {xs : List V} {i : Int} {v : V} (h0 : 0 ≤ i) (h : xs[i.toNat]? = some v) : atI xs i = some v := by
  obtain ⟨j, rfl⟩ : ∃ j : Nat, i = (j : Int) := ⟨i.toNat, by omega⟩
  exact atI_nat (by simpa using h)
theorem map_at {α β : Type} {f : α → β} {l : List α} {k : Nat} {m : α} (h : l[k]? = some m) : (l.map f)[k]? = some (f m) := by rw [List.getElem?_map, h]; rfl
section
variable {S : Type} {J : S → Hp → Hp → Prop} {K : PySem.W.Frag} {σ : L2.St} {s : S} {F0 F : Hp} {A : WAd} {t : LSt} {w : Wld} {r : Rgt} {p : Bool} {ex : List (Addr × HO)} {R : V → S → Hp → Prop} {D : L2.St → S → Hp → Prop}
theorem r_stp (hd : Hid J) (g : Ex F0 F) {v : V} {ss : List Stp} {i : Int} {st : Stp} (hv : Dp K F0 v (macD ss)) (h0 : 0 ≤ i) (hs : ss[i.toNat]? = some st) (hR : ∀ u, Dp K F0 u (stpD st) → R u s F) : RW J (rIxT K) v (.int i) s F R := by
  obtain ⟨a, xs, e, l, d⟩ := dp_tup hv
  obtain ⟨u, hu, du⟩ := dps_get d (map_at hs)
  rw [e]
  exact rw_ixT hd (g.sqT l) (atI_int h0 hu) (hR u du)
theorem r_fld (hd : Hid J) (g : Ex F0 F) {u : V} {st : Stp} (hu : Dp K F0 u (stpD st)) : (R (.int st.draw) s F → RW J (rIxT K) u (.int 0) s F R) ∧ (R (.int st.long) s F → RW J (rIxT K) u (.int 1) s F R) ∧ (R (.int st.back) s F → RW J (rIxT K) u (.int 2) s F R) := by
  obtain ⟨a, xs, e, l, d⟩ := dp_tup hu
  obtain ⟨_, _, _, rfl, d1, d2, d3⟩ := dps3 d
  cases dp_int d1; cases dp_int d2; cases dp_int d3
  rw [e]
  exact ⟨fun hR => rw_ixT hd (g.sqT l) rfl hR, fun hR => rw_ixT hd (g.sqT l) rfl hR, fun hR => rw_ixT hd (g.sqT l) rfl hR⟩
end
end Obr
namespace Obr
open PySem L2 PyProof.Rows
/-! ### a beat of the law's machines -/
def minI (a b : Int) : Int := if b < a then b else a
def lEnd (w : Wld) (anew : Bool) (t : LSt) (k : Nat) : LSt :=
  match t.ms[k]?, w.ms[k]? with
  | some m, some ss =>
    if m.over = t.beat then
      match ss[m.at_.toNat]? with
      | some s =>
        if m.at_ + 1 = ss.length then { t with level := minI w.cap (t.level + s.back), ms := t.ms.set k ⟨if anew then 0 else m.at_ + 1, -1, t.beat, m.done + 1, m.waits, some t.beat⟩ }
        else { t with level := minI w.cap (t.level + s.back), ms := t.ms.set k ⟨m.at_ + 1, -1, t.beat, m.done + 1, m.waits, m.ends⟩ }
      | none => t
    else t
  | _, _ => t
def lEnds (w : Wld) (anew : Bool) (t : LSt) : Nat → LSt
  | 0 => t
  | n + 1 => lEnd w anew (lEnds w anew t n) n
def lFill (w : Wld) (t : LSt) : LSt := if 0 < t.beat then { t with level := minI w.cap (t.level + w.refill) } else t
def lClaim (w : Wld) (t : LSt) (k : Nat) : List Clm :=
  match t.ms[k]?, w.ms[k]? with
  | some m, some ss => if m.over < 0 ∧ m.at_ < ss.length then (match ss[m.at_.toNat]? with | some s => [⟨k, s.draw, m.since⟩] | none => []) else []
  | _, _ => []
def lClaims (w : Wld) (t : LSt) : Nat → List Clm
  | 0 => []
  | n + 1 => lClaims w t n ++ lClaim w t n
def lDraw (w : Wld) (p : Bool) (x : LSt × List Int × Bool) (c : Clm) : LSt × List Int × Bool :=
  match x.1.ms[c.k.toNat]?, w.ms[c.k.toNat]? with
  | some m, some ss =>
    if x.2.2 = true ∧ c.draw ≤ x.1.level then
      match ss[m.at_.toNat]? with
      | some s => ({ x.1 with level := x.1.level - c.draw, ms := x.1.ms.set c.k.toNat { m with over := x.1.beat + s.long } }, x.2.1 ++ [c.k], x.2.2)
      | none => x
    else ({ x.1 with ms := x.1.ms.set c.k.toNat { m with waits := m.waits + 1 } }, x.2.1, x.2.2 && p)
  | _, _ => x
def lDraws (w : Wld) (p : Bool) (ts : List Clm) (t : LSt) : LSt × List Int × Bool := ts.foldl (lDraw w p) (t, [], true)
def lLast (t : LSt) (bg : List Int) : LSt := { t with last := (if bg.isEmpty then t.last else bg.getLastD 0), beat := t.beat + 1 }
/-- the claims in their turn: any list that is that -/
structure TurnOk (r : Rgt) (last : Int) (cs ts : List Clm) : Prop where
  perm : ts.Perm cs
  srt : ts.Pairwise (cLt r last)
/-- a beat: from t to t', told (level, began) -/
structure LBeat (w : Wld) (r : Rgt) (p : Bool) (anew : Bool) (t t' : LSt) (lv : Int) (bg : List Int) : Prop where
  ex : ∃ ts, TurnOk r (lFill w (lEnds w anew t w.ms.length)).last (lClaims w (lFill w (lEnds w anew t w.ms.length)) w.ms.length) ts ∧ bg = (lDraws w p ts (lFill w (lEnds w anew t w.ms.length))).2.1 ∧
    t' = lLast (lDraws w p ts (lFill w (lEnds w anew t w.ms.length))).1 bg ∧ lv = t'.level
structure MacOk (ss : List Stp) (m : Mac) : Prop where
  a0 : 0 ≤ m.at_
  a1 : m.at_ ≤ ss.length
  o : 0 ≤ m.over → m.at_ < ss.length
structure LOk (w : Wld) (t : LSt) : Prop where
  b : 0 ≤ t.beat
  m : ∀ (k : Nat) (m : Mac) (ss : List Stp), t.ms[k]? = some m → w.ms[k]? = some ss → MacOk ss m
  len : t.ms.length = w.ms.length
theorem LOk.set {w : Wld} {t t' : LSt} {k : Nat} {m' : Mac} {ss : List Stp} (h : LOk w t) (hs : w.ms[k]? = some ss) (hm : MacOk ss m') (e : t'.ms = t.ms.set k m') (b : t'.beat = t.beat) : LOk w t' where
  b := by rw [b]; exact h.b
  m := fun j m2 ss2 h1 h2 => by
    rw [e, List.getElem?_set] at h1
    by_cases c : k = j
    · subst c
      rw [if_pos rfl] at h1
      rw [hs] at h2
      cases h2
      have : m2 = m' := by
        split at h1
        · exact (Option.some.inj h1).symm
        · cases h1
      subst this
      exact hm
    · rw [if_neg c] at h1
      exact h.m j m2 ss2 h1 h2
  len := by rw [e, List.length_set]; exact h.len
theorem LOk.same {w : Wld} {t t' : LSt} (h : LOk w t) (e : t'.ms = t.ms) (b : 0 ≤ t'.beat) : LOk w t' := ⟨b, fun k m ss h1 h2 => h.m k m ss (by rw [← e]; exact h1) h2, by rw [e]; exact h.len⟩
theorem lEnd_ok {w : Wld} {anew : Bool} {t : LSt} {k : Nat} (h : LOk w t) : LOk w (lEnd w anew t k) := by
  unfold lEnd
  split
  · rename_i m ss hm hs
    have ho := h.m k m ss hm hs
    split
    · rename_i e
      split
      · rename_i s hst
        have hlt := ho.o (by rw [e]; exact h.b)
        split
        · refine h.set hs (m' := ⟨if anew then 0 else m.at_ + 1, -1, t.beat, m.done + 1, m.waits, some t.beat⟩) ⟨?_, ?_, ?_⟩ rfl rfl
          · show 0 ≤ (if anew then (0 : Int) else m.at_ + 1); have := ho.a0; split <;> omega
          · show (if anew then (0 : Int) else m.at_ + 1) ≤ ss.length; split <;> omega
          · intro hh; exact absurd hh (by show ¬ (0 : Int) ≤ -1; decide)
        · refine h.set hs (m' := ⟨m.at_ + 1, -1, t.beat, m.done + 1, m.waits, m.ends⟩) ⟨?_, ?_, ?_⟩ rfl rfl
          · show 0 ≤ m.at_ + 1; have := ho.a0; omega
          · show m.at_ + 1 ≤ ss.length; omega
          · intro hh; exact absurd hh (by show ¬ (0 : Int) ≤ -1; decide)
      · exact h
    · exact h
  · exact h
theorem lEnds_ok {w : Wld} {anew : Bool} {t : LSt} (h : LOk w t) : ∀ n, LOk w (lEnds w anew t n)
  | 0 => h
  | n + 1 => lEnd_ok (lEnds_ok h n)
theorem lFill_ok {w : Wld} {t : LSt} (h : LOk w t) : LOk w (lFill w t) := by
  unfold lFill
  split
  · exact h.same rfl h.b
  · exact h
theorem lDraw_ok {w : Wld} {p : Bool} {x : LSt × List Int × Bool} {c : Clm} (h : LOk w x.1) (hc : ∀ m ss, x.1.ms[c.k.toNat]? = some m → w.ms[c.k.toNat]? = some ss → m.at_ < ss.length) : LOk w (lDraw w p x c).1 := by
  unfold lDraw
  split
  · rename_i m ss hm hs
    have ho := h.m _ m ss hm hs
    split
    · split
      · rename_i s _; exact h.set (k := c.k.toNat) (m' := { m with over := x.1.beat + s.long }) hs ⟨ho.a0, ho.a1, fun _ => hc m ss hm hs⟩ rfl rfl
      · exact h
    · exact h.set (k := c.k.toNat) (m' := { m with waits := m.waits + 1 }) hs ⟨ho.a0, ho.a1, ho.o⟩ rfl rfl
  · exact h
theorem lEnd_beat {w : Wld} {anew : Bool} {t : LSt} {k : Nat} : (lEnd w anew t k).beat = t.beat := by
  unfold lEnd
  repeat' split
  all_goals rfl
theorem lEnds_beat {w : Wld} {anew : Bool} {t : LSt} : ∀ n, (lEnds w anew t n).beat = t.beat
  | 0 => rfl
  | n + 1 => by rw [lEnds, lEnd_beat, lEnds_beat n]
theorem lClaim_mem {w : Wld} {t : LSt} {k : Nat} {c : Clm} (h : c ∈ lClaim w t k) : ∃ m ss st, t.ms[k]? = some m ∧ w.ms[k]? = some ss ∧ m.over < 0 ∧ m.at_ < ss.length ∧ ss[m.at_.toNat]? = some st ∧ c = ⟨k, st.draw, m.since⟩ := by
  unfold lClaim at h
  split at h
  · rename_i m ss hm hs
    split at h
    · rename_i hc
      split at h
      · rename_i st hst
        simp at h
        exact ⟨m, ss, st, hm, hs, hc.1, hc.2, hst, h⟩
      · cases h
    · cases h
  · cases h
theorem lClaims_mem {w : Wld} {t : LSt} {c : Clm} : ∀ {n : Nat}, c ∈ lClaims w t n → ∃ j, j < n ∧ c ∈ lClaim w t j
  | 0, h => by cases h
  | n + 1, h => by
    rcases List.mem_append.mp h with h | h
    · obtain ⟨j, hj, h⟩ := lClaims_mem h
      exact ⟨j, by omega, h⟩
    · exact ⟨n, by omega, h⟩
theorem lClaims_len {w : Wld} {t : LSt} : ∀ n : Nat, (lClaims w t n).length ≤ n
  | 0 => Nat.le_refl _
  | n + 1 => by
    have := lClaims_len (w := w) (t := t) n
    have h1 : (lClaim w t n).length ≤ 1 := by
      unfold lClaim
      repeat' split
      all_goals simp
    rw [lClaims, List.length_append]
    omega
theorem lClaims_nd {w : Wld} {t : LSt} : ∀ n : Nat, ((lClaims w t n).map Clm.k).Nodup
  | 0 => List.nodup_nil
  | n + 1 => by
    rw [lClaims, List.map_append, List.nodup_append]
    refine ⟨lClaims_nd n, ?_, ?_⟩
    · have h1 : (lClaim w t n).length ≤ 1 := by
        unfold lClaim
        repeat' split
        all_goals simp
      match e : lClaim w t n, h1 with
      | [], _ => exact List.nodup_nil
      | [x], _ => simp
      | x :: y :: l, h1 => simp at h1
    · intro a ha b hb e
      obtain ⟨c, hc, rfl⟩ := List.mem_map.mp ha
      obtain ⟨c', hc', rfl⟩ := List.mem_map.mp hb
      obtain ⟨j, hj, hcj⟩ := lClaims_mem hc
      obtain ⟨_, _, _, _, _, _, _, _, rfl⟩ := lClaim_mem hcj
      obtain ⟨_, _, _, _, _, _, _, _, rfl⟩ := lClaim_mem hc'
      simp at e
      omega
/-- where each machine is, is left by a draw as it was -/
def SameAt (T X : LSt) : Prop := X.beat = T.beat ∧ ∀ k : Nat, (X.ms[k]?).map Mac.at_ = (T.ms[k]?).map Mac.at_
theorem SameAt.set {T X X' : LSt} (h : SameAt T X) {k : Nat} {m m' : Mac} (hm : X.ms[k]? = some m) (e : X'.ms = X.ms.set k m') (ea : m'.at_ = m.at_) (eb : X'.beat = X.beat) : SameAt T X' := by
  refine ⟨eb.trans h.1, fun j => ?_⟩
  rw [← h.2 j, e, List.getElem?_set]
  by_cases c : k = j
  · subst c
    rw [if_pos rfl, if_pos (List.getElem?_eq_some_iff.mp hm).1, hm]
    show some m'.at_ = some m.at_
    rw [ea]
  · rw [if_neg c]
end Obr
namespace Obr
open PySem L2 PySem.Spec PyProof.Rows
/-! ### objects: fields, methods, making -/
section
variable {S : Type} {J : S → Hp → Hp → Prop} {K : PySem.W.Frag} {σ : L2.St} {s : S} {F : Hp} {R : V → S → Hp → Prop} {ta tv : TE} {tr : TA} {D : En S} {f : Str} {A : List V → Hp → VK → Prop} {E : XK} {C : Addr} {m : Str}
theorem ew_fld (hd : Hid J) (h : EW J ta σ s F fun x s1 F1 => ∃ a C dx fs v, x = .ref a ∧ F1 a = some (.ins C dx fs) ∧ Cls K C ∧ NoAttr K C f ∧ fs.lookup f = some v ∧ R v s1 F1) : EW J (tFld K ta f) σ s F R := fun H j Q q =>
  h H j _ fun x s1 F1 H1 j1 ⟨a, C, dx, fs, v, e, hf, c, n, l, k⟩ => ⟨a, C, dx, fs, v, e, hd.ex j1 _ _ hf, c, n, l, q _ _ _ _ j1 k⟩
theorem sw_fld (hd : Hid J) (h : EW J tv σ s F fun y s1 F1 => EW J ta σ s1 F1 fun x s2 F2 => ∃ a C dx fs, x = .ref a ∧ F2 a = some (.ins C dx fs) ∧ Cls K C ∧ NoAttr K C f ∧ fs.length < 1000 ∧ D.nx σ s2 (upd F2 a (.ins C dx (putF f y fs)))) :
    SW J (sFld K ta tv f) D σ s F := fun H j D' l =>
  h H j _ fun y s1 F1 H1 j1 h1 => h1 H1 j1 _ fun x s2 F2 H2 j2 ⟨a, C, dx, fs, e, hf, c, n, lf, k⟩ => ⟨a, C, dx, fs, e, hd.ex j2 _ _ hf, c, n, lf, l.nx _ _ _ _ (hd.mu j2 hf) k⟩
theorem sw_fldaugI (hd : Hid J) {g : Int → Int → Int} {rd : V → V → Hp → VK → Prop} (hrd : rd = fun x y H Q => ∃ i j, x = .int i ∧ y = .int j ∧ Q (.int (g i j)) H)
    (h : EW J ta σ s F fun x s1 F1 => ∃ a C dx fs i, x = .ref a ∧ F1 a = some (.ins C dx fs) ∧ Cls K C ∧ NoAttr K C f ∧ fs.lookup f = some (.int i) ∧ EW J tv σ s1 F1 fun y s2 F2 => ∃ j dx' fs', y = .int j ∧ F2 a = some (.ins C dx' fs') ∧ fs'.length < 1000 ∧ D.nx σ s2 (upd F2 a (.ins C dx' (putF f (.int (g i j)) fs')))) :
    SW J (sFldAug K ta tv rd f) D σ s F := fun H j D' l => by
  subst hrd
  exact h H j _ fun x s1 F1 H1 j1 ⟨a, C, dx, fs, i, e, hf, c, n, lk, h2⟩ => ⟨a, C, dx, fs, .int i, e, hd.ex j1 _ _ hf, c, n, lk, h2 H1 j1 _ fun y s2 F2 H2 j2 ⟨jj, dx', fs', ey, hf2, lf, k⟩ =>
    ⟨i, jj, rfl, ey, dx', fs', hd.ex j2 _ _ hf2, lf, l.nx _ _ _ _ (hd.mu j2 hf2) k⟩⟩
theorem ew_meth (hd : Hid J) (h : EW J ta σ s F fun x s1 F1 => ∃ a dx fs, x = .ref a ∧ F1 a = some (.ins C dx fs) ∧ fs.lookup m = none ∧ AW J tr σ s1 F1 fun vs s2 F2 => A (x :: vs) F2 fun v F' => R v s2 F') :
    EW J (tMeth C m (LS A) [] E ta tr) σ s F R := fun H j Q q =>
  h H j _ fun x s1 F1 H1 j1 ⟨a, dx, fs, e, hf, hm, h2⟩ => ⟨a, dx, fs, e, hd.ex j1 _ _ hf, hm, h2 H1 j1 _ fun vs s2 F2 H2 j2 k => by
    show LS A (x :: (vs ++ [])) H2 Q E
    rw [List.append_nil]
    exact ⟨_, F2, _, hd.unit s2, j2, k, fun v F' H' j' r => q v s2 F' H' j' r⟩⟩
theorem ew_make (hd : Hid J) (h : AW J tr σ s F fun vs s1 F1 => ∀ x dx, F1 x = none → F1 dx = none → dx ≠ x → A (.ref x :: vs) (upd (upd F1 dx (.own x)) x (.ins C dx [])) fun v F' => v = .non ∧ R (.ref x) s1 F') : EW J (tMake C (LS A) [] E tr) σ s F R := fun H j Q q =>
  h H j _ fun vs s1 F1 H1 j1 k x dx hx hdx hne => by
    show LS A (.ref x :: (vs ++ [])) _ _ E
    rw [List.append_nil]
    have j2 : J s1 (upd F1 dx (.own x)) (upd H1 dx (.own x)) := hd.al j1 hdx
    have hx2 : upd H1 dx (.own x) x = none := by rw [upd_ne hne.symm]; exact hx
    exact ⟨_, _, _, hd.unit s1, hd.al j2 hx2, k x dx (hd.fresh j1 hx) (hd.fresh j1 hdx) hne, fun v F' H' j' r => ⟨r.1, q _ s1 F' H' j' r.2⟩⟩
end
/-! ### fields by places -/
theorem lookup_nd : ∀ {fs : List (Str × V)} {i : Nat} {k : Str} {v : V}, (fs.map (·.1)).Nodup → fs[i]? = some (k, v) → fs.lookup k = some v
  | [], _, _, _, _, h => by simp at h
  | (k0, v0) :: r, 0, k, v, _, h => by
    simp at h
    rw [← h.1, ← h.2]
    exact List.lookup_cons_self
  | (k0, v0) :: r, i + 1, k, v, hn, h => by
    rw [List.map_cons, List.nodup_cons] at hn
    simp only [List.getElem?_cons_succ] at h
    have : k ≠ k0 := fun e => hn.1 (by rw [← e]; exact List.mem_map.mpr ⟨(k, v), List.mem_of_getElem? h, rfl⟩)
    rw [List.lookup_cons]
    rw [beq_eq_false_iff_ne.mpr this]
    exact lookup_nd hn.2 h
theorem lookup_out : ∀ {fs : List (Str × V)} {k : Str}, k ∉ fs.map (·.1) → fs.lookup k = none
  | [], _, _ => rfl
  | (k0, v0) :: r, k, h => by
    simp only [List.map_cons, List.mem_cons, not_or] at h
    rw [List.lookup_cons, beq_eq_false_iff_ne.mpr h.1]
    exact lookup_out h.2
theorem putF_nd : ∀ {fs : List (Str × V)} {i : Nat} {k : Str} {v v0 : V}, (fs.map (·.1)).Nodup → fs[i]? = some (k, v0) → putF k v fs = fs.set i (k, v)
  | [], _, _, _, _, _, h => by simp at h
  | (k0, v1) :: r, 0, k, v, v0, hn, h => by
    simp at h
    show (if k0 = k then (k0, v) :: r else (k0, v1) :: putF k v r) = _
    rw [if_pos h.1, h.1]
    rfl
  | (k0, v1) :: r, i + 1, k, v, v0, hn, h => by
    rw [List.map_cons, List.nodup_cons] at hn
    simp only [List.getElem?_cons_succ] at h
    have : k0 ≠ k := fun e => hn.1 (by rw [e]; exact List.mem_map.mpr ⟨(k, v0), List.mem_of_getElem? h, rfl⟩)
    show (if k0 = k then (k0, v) :: r else (k0, v1) :: putF k v r) = _
    rw [if_neg this, putF_nd hn.2 h]
    rfl
theorem putF_out : ∀ {fs : List (Str × V)} {k : Str} {v : V}, k ∉ fs.map (·.1) → putF k v fs = fs ++ [(k, v)]
  | [], _, _, _ => rfl
  | (k0, v0) :: r, k, v, h => by
    simp only [List.map_cons, List.mem_cons, not_or] at h
    show (if k0 = k then (k0, v) :: r else (k0, v0) :: putF k v r) = _
    rw [if_neg (fun e => h.1 e.symm), putF_out h.2]
    rfl
/-- a class whose objects have these fields, none of them a name of the class -/
structure ClsF (K : PySem.W.Frag) (C : Addr) (ns : List Str) : Prop where
  cl : Cls K C
  no : ∀ f ∈ ns, NoAttr K C f
/-- a method -/
structure Met (K : PySem.W.Frag) (C : Addr) (m : Str) (f : Addr) (fd : FuncData) (ps : List Str) : Prop where
  cl : Cls K C
  m : Meth K C m f
  a : Binds K fd ps []
/-! ### the program's machines -/
def ovV (i : Int) : V := if i < 0 then .non else .int i
def mkeys : List Str := ["number", "steps", "at", "over", "since", "paused"]
theorem mkeys_nd : mkeys.Nodup := by decide +kernel
/-- of a machine what no beat changes: its steps, whether it's paused; full: all its steps, of which one that is paused does those it has begun -/
structure Sv where
  v : V
  pz : Bool
  full : List Stp
def mfs (n : Int) (sv : Sv) (m : Mac) : List (Str × V) := [("number", .int n), ("steps", sv.v), ("at", .int m.at_), ("over", ovV m.over), ("since", .int m.since), ("paused", .bl sv.pz)]
structure StAt (K : PySem.W.Frag) (F : Hp) (sv : Sv) (ss : List Stp) : Prop where
  d : Dp K F sv.v (macD sv.full)
  pre : ss <+: sv.full
  all : sv.pz = false → ss = sv.full
theorem StAt.ex {K : PySem.W.Frag} {F G : Hp} {sv : Sv} {ss : List Stp} (h : StAt K F sv ss) (g : Ex F G) : StAt K G sv ss := ⟨dp_ex g h.d, h.pre, h.all⟩
theorem StAt.get {K : PySem.W.Frag} {F : Hp} {sv : Sv} {ss : List Stp} (h : StAt K F sv ss) {i : Nat} {st : Stp} (e : ss[i]? = some st) : sv.full[i]? = some st := by
  obtain ⟨t, ht⟩ := h.pre
  rw [← ht, List.getElem?_append_left (List.getElem?_eq_some_iff.mp e).1]
  exact e
/-- one that is paused waits for nothing: it has done all that it has begun, or does the last of it -/
def PzOk (ss : List Stp) (m : Mac) : Prop := (m.over < 0 ∧ m.at_ = (ss.length : Int)) ∨ (0 ≤ m.over ∧ m.at_ + 1 = (ss.length : Int))
theorem mfs_nd (n : Int) (sv : Sv) (m : Mac) : ((mfs n sv m).map (·.1)).Nodup := mkeys_nd
def rkeys : List Str := ["cap", "have", "refill", "anew", "beat", "machines", "right", "passing", "last"]
theorem rkeys_nd : rkeys.Nodup := by decide +kernel
structure MAd where
  a : Addr
  dx : Addr
  sv : Sv
structure RAd where
  a : Addr
  dx : Addr
  ml : Addr
  C : Addr
  M : Addr
  mads : List MAd
  hp : Bool
/-- of a shop (sh) the first six, of a run all nine -/
def rfsS (sh : Bool) (A : RAd) (t : LSt) (w : Wld) (r : Rgt) (p anew : Bool) : List (Str × V) := ("cap", V.int w.cap) :: ("have", V.int t.level) :: ("refill", V.int w.refill) :: ("anew", V.bl anew) :: ("beat", V.int t.beat) :: ("machines", V.ref A.ml) :: (match sh with | true => [] | false => [("right", V.str (rgtS r)), ("passing", V.bl p), ("last", ovV t.last)])
abbrev rfs (A : RAd) (t : LSt) (w : Wld) (r : Rgt) (p anew : Bool) : List (Str × V) := rfsS false A t w r p anew
theorem rfs_nd {sh : Bool} (A : RAd) (t : LSt) (w : Wld) (r : Rgt) (p anew : Bool) : ((rfsS sh A t w r p anew).map (·.1)).Nodup := by
  cases sh with
  | false => exact rkeys_nd
  | true => exact (show (rkeys.take 6).Nodup by decide +kernel)
theorem rfs_lt {sh : Bool} {A : RAd} {t : LSt} {w : Wld} {r : Rgt} {p anew : Bool} : (rfsS sh A t w r p anew).length < 1000 := by
  cases sh with
  | false => exact Nat.lt_of_le_of_lt (Nat.le_of_ble_eq_true (m := 9) rfl) (by decide)
  | true => exact Nat.lt_of_le_of_lt (Nat.le_of_ble_eq_true (m := 9) rfl) (by decide)
theorem rfs_no {sh : Bool} {A : RAd} {t : LSt} {w : Wld} {r : Rgt} {p anew : Bool} {f : Str} (h : f ∉ rkeys) : (rfsS sh A t w r p anew).lookup f = none := by
  cases sh with
  | false => exact lookup_out h
  | true => exact lookup_out (fun z => h (List.mem_of_mem_take (i := 6) z))
def mcell (M : Addr) (n : Nat) (ad : MAd) (m : Mac) : Addr × HO := (ad.a, .ins M ad.dx (mfs n ad.sv m))
def mcells (M : Addr) : Nat → List MAd → List Mac → List (Addr × HO)
  | n, ad :: as, m :: ms => mcell M n ad m :: mcells M (n + 1) as ms
  | _, _, _ => []
theorem mcells_get {M : Addr} : ∀ {k n : Nat} {as : List MAd} {ms : List Mac} {ad : MAd} {m : Mac}, as[k]? = some ad → ms[k]? = some m → (mcells M n as ms)[k]? = some (mcell M (n + k) ad m)
  | _, _, [], _, _, _, h, _ => by simp at h
  | _, _, _ :: _, [], _, _, _, h => by simp at h
  | 0, n, a :: as, b :: ms, ad, m, h1, h2 => by
    simp at h1 h2
    subst h1 h2
    rfl
  | k + 1, n, a :: as, b :: ms, ad, m, h1, h2 => by
    simp only [List.getElem?_cons_succ] at h1 h2
    have := mcells_get (M := M) (n := n + 1) h1 h2
    rw [show n + 1 + k = n + (k + 1) from by omega] at this
    exact this
theorem mcells_set {M : Addr} : ∀ {k n : Nat} {as : List MAd} {ms : List Mac} {ad : MAd} {m' : Mac}, as[k]? = some ad → (mcells M n as ms).set k (mcell M (n + k) ad m') = mcells M n as (ms.set k m')
  | _, _, [], _, _, _, h => by simp at h
  | _, _, _ :: _, [], _, _, _ => by simp [mcells]
  | 0, n, a :: as, b :: ms, ad, m', h1 => by
    simp at h1
    subst h1
    rfl
  | k + 1, n, a :: as, b :: ms, ad, m', h1 => by
    simp only [List.getElem?_cons_succ] at h1
    have := mcells_set (M := M) (n := n + 1) (ms := ms) (m' := m') h1
    rw [show n + 1 + k = n + (k + 1) from by omega] at this
    show mcell M n a b :: (mcells M (n + 1) as ms).set k _ = _
    rw [this]
    rfl
/-- of a machine what the program keeps -/
def mcore (m : Mac) : Int × Int × Int := (m.at_, m.over, m.since)
theorem mcell_core {M : Addr} {n : Nat} {ad : MAd} {m m' : Mac} (e : mcore m = mcore m') : mcell M n ad m = mcell M n ad m' := by
  unfold mcore at e
  simp only [Prod.mk.injEq] at e
  unfold mcell mfs
  rw [e.1, e.2.1, e.2.2]
theorem mcells_core {M : Addr} : ∀ {n : Nat} {as : List MAd} {ms ms' : List Mac}, ms.map mcore = ms'.map mcore → mcells M n as ms = mcells M n as ms'
  | _, [], _, _, _ => rfl
  | _, _ :: _, [], [], _ => rfl
  | _, _ :: _, [], _ :: _, h => by simp at h
  | _, _ :: _, _ :: _, [], h => by simp at h
  | n, a :: as, m :: ms, m' :: ms', h => by
    simp only [List.map_cons, List.cons.injEq] at h
    show mcell M n a m :: _ = mcell M n a m' :: _
    rw [mcell_core h.1, mcells_core h.2]
structure SAt (sh : Bool) (K : PySem.W.Frag) (F0 F : Hp) (A : RAd) (t : LSt) (w : Wld) (r : Rgt) (p anew : Bool) (ex : List (Addr × HO)) : Prop where
  own : Own F0 F ((A.a, .ins A.C A.dx (rfsS sh A t w r p anew)) :: (mcells A.M 0 A.mads t.ms ++ ex))
  ml : F0 A.ml = some (.lst (A.mads.map fun ad => .ref ad.a))
  st : ∀ (k : Nat) (ad : MAd) (ss : List Stp), A.mads[k]? = some ad → w.ms[k]? = some ss → StAt K F0 ad.sv ss
  len1 : A.mads.length = w.ms.length
  len2 : t.ms.length = w.ms.length
  pz : ∀ (k : Nat) (ad : MAd) (m : Mac) (ss : List Stp), A.mads[k]? = some ad → t.ms[k]? = some m → w.ms[k]? = some ss → ad.sv.pz = true → PzOk ss m
  np : A.hp = false → ∀ ad ∈ A.mads, ad.sv.pz = false
  na : anew = true → A.hp = false
abbrev RunAt (K : PySem.W.Frag) (F0 F : Hp) (A : RAd) (t : LSt) (w : Wld) (r : Rgt) (p anew : Bool) (ex : List (Addr × HO)) : Prop := SAt false K F0 F A t w r p anew ex
section
variable {sh : Bool} {S : Type} {J : S → Hp → Hp → Prop} {K : PySem.W.Frag} {σ : L2.St} {s : S} {F0 F : Hp} {A : RAd} {t : LSt} {w : Wld} {r : Rgt} {p anew : Bool} {ex : List (Addr × HO)} {D : L2.St → S → Hp → Prop}
theorem SAt.cell (h : SAt sh K F0 F A t w r p anew ex) : F A.a = some (.ins A.C A.dx (rfsS sh A t w r p anew)) := h.own.get (i := 0) rfl
theorem SAt.mac (h : SAt sh K F0 F A t w r p anew ex) {k : Nat} {ad : MAd} {m : Mac} (h1 : A.mads[k]? = some ad) (h2 : t.ms[k]? = some m) : F ad.a = some (.ins A.M ad.dx (mfs k ad.sv m)) := by
  have h3 := mcells_get (M := A.M) (n := 0) h1 h2
  rw [Nat.zero_add] at h3
  have hk : k < (mcells A.M 0 A.mads t.ms).length := (List.getElem?_eq_some_iff.mp h3).1
  exact h.own.get (i := k + 1) (by rw [List.getElem?_cons_succ, List.getElem?_append_left hk]; exact h3)
/-- the run's own fields are put anew -/
theorem SAt.put (h : SAt sh K F0 F A t w r p anew ex) {t' : LSt} (e : t'.ms = t.ms) : SAt sh K F0 (upd F A.a (.ins A.C A.dx (rfsS sh A t' w r p anew))) A t' w r p anew ex :=
  ⟨by rw [e]; exact h.own.set (i := 0) (a := A.a) (o' := .ins A.C A.dx (rfsS sh A t' w r p anew)) rfl, h.ml, h.st, h.len1, by rw [e]; exact h.len2, by rw [e]; exact h.pz, h.np, h.na⟩
/-- a machine's fields are put anew -/
theorem SAt.mput (h : SAt sh K F0 F A t w r p anew ex) {k : Nat} {ad : MAd} {m m' : Mac} (h1 : A.mads[k]? = some ad) (h2 : t.ms[k]? = some m) {t' : LSt} (e : t'.ms = t.ms.set k m') (er : rfsS sh A t' w r p anew = rfsS sh A t w r p anew) (hz : ∀ ss, w.ms[k]? = some ss → ad.sv.pz = true → PzOk ss m') :
    SAt sh K F0 (upd F ad.a (.ins A.M ad.dx (mfs k ad.sv m'))) A t' w r p anew ex := by
  have h3 := mcells_get (M := A.M) (n := 0) h1 h2
  rw [Nat.zero_add] at h3
  have hk : k < (mcells A.M 0 A.mads t.ms).length := (List.getElem?_eq_some_iff.mp h3).1
  have o := h.own.set (i := k + 1) (a := ad.a) (o := .ins A.M ad.dx (mfs k ad.sv m)) (o' := .ins A.M ad.dx (mfs k ad.sv m')) (by rw [List.getElem?_cons_succ, List.getElem?_append_left hk]; exact h3)
  have h4 := mcells_set (M := A.M) (n := 0) (ms := t.ms) (m' := m') h1
  rw [Nat.zero_add] at h4
  refine ⟨?_, h.ml, h.st, h.len1, by rw [e, List.length_set]; exact h.len2, fun j ad2 m2 ss g1 g2 g3 gz => ?_, h.np, h.na⟩
  · rw [e, ← h4, er]
    rw [List.set_cons_succ, List.set_append_left _ _ hk] at o
    exact o
  · rw [e, List.getElem?_set] at g2
    by_cases c : k = j
    · subst c
      rw [if_pos rfl] at g2
      have em : m2 = m' := by
        split at g2
        · exact (Option.some.inj g2).symm
        · cases g2
      rw [h1] at g1
      cases g1
      rw [em]
      exact hz ss g3 gz
    · rw [if_neg c] at g2
      exact h.pz j ad2 m2 ss g1 g2 g3 gz
theorem pz_core {ss : List Stp} {m m' : Mac} (e : mcore m' = mcore m) (h : PzOk ss m) : PzOk ss m' := by
  unfold mcore at e
  simp only [Prod.mk.injEq] at e
  unfold PzOk at h ⊢
  rw [e.1, e.2.1]
  exact h
theorem pz_same {A : RAd} {ms ms' : List Mac} {w : Wld} (e1 : ms'.map mcore = ms.map mcore) (h : ∀ (k : Nat) (ad : MAd) (m : Mac) (ss : List Stp), A.mads[k]? = some ad → ms[k]? = some m → w.ms[k]? = some ss → ad.sv.pz = true → PzOk ss m) :
    ∀ (k : Nat) (ad : MAd) (m : Mac) (ss : List Stp), A.mads[k]? = some ad → ms'[k]? = some m → w.ms[k]? = some ss → ad.sv.pz = true → PzOk ss m := fun k ad m' ss g1 g2 g3 gz => by
  have z := congrArg (fun l => l[k]?) e1
  simp only [List.getElem?_map, g2, Option.map_some] at z
  obtain ⟨m, hm, em⟩ := Option.map_eq_some_iff.mp z.symm
  exact pz_core em.symm (h k ad m ss g1 hm g3 gz)
theorem SAt.same (h : SAt sh K F0 F A t w r p anew ex) {t' : LSt} (e1 : t'.ms.map mcore = t.ms.map mcore) (e2 : t'.level = t.level) (e3 : t'.last = t.last) (e4 : t'.beat = t.beat) : SAt sh K F0 F A t' w r p anew ex :=
  ⟨by rw [mcells_core e1]; unfold rfsS; rw [e2, e3, e4]; exact h.own, h.ml, h.st, h.len1, by have := congrArg List.length e1; simp at this; rw [this]; exact h.len2, pz_same e1 h.pz, h.np, h.na⟩
theorem SAt.new (h : SAt sh K F0 F A t w r p anew ex) {a : Addr} {o : HO} (ha : F a = none) : SAt sh K (upd F0 a o) (upd F a o) A t w r p anew ex :=
  have h0 := h.own.ex.free ha
  ⟨h.own.new ha, by rw [upd_ne (ne_of_none h.ml h0)]; exact h.ml, fun k ad ss h1 h2 => (h.st k ad ss h1 h2).ex (Ex.new (.refl _) h0), h.len1, h.len2, h.pz, h.np, h.na⟩
theorem SAt.new' (h : SAt sh K F0 F A t w r p anew ex) {a : Addr} {o : HO} (ha : F a = none) : SAt sh K F0 (upd F a o) A t w r p anew ex := ⟨h.own.new' ha, h.ml, h.st, h.len1, h.len2, h.pz, h.np, h.na⟩
theorem SAt.grow (h : SAt sh K F0 F A t w r p anew ex) {F' : Hp} (g : Ex F F') : SAt sh K F0 F' A t w r p anew ex := ⟨h.own.grow g, h.ml, h.st, h.len1, h.len2, h.pz, h.np, h.na⟩
theorem run_perm {x y : Addr × HO} {l ex : List (Addr × HO)} : (x :: (l ++ y :: ex)).Perm (y :: x :: (l ++ ex)) := (List.Perm.cons x List.perm_middle).trans (List.Perm.swap y x _)
theorem SAt.more (h : SAt sh K F0 F A t w r p anew ex) {a : Addr} {o : HO} (ha : F a = none) : SAt sh K F0 (upd F a o) A t w r p anew ((a, o) :: ex) := ⟨(h.own.more ha).perm run_perm, h.ml, h.st, h.len1, h.len2, h.pz, h.np, h.na⟩
theorem SAt.ex0 {a : Addr} {o : HO} {ex : List (Addr × HO)} (h : SAt sh K F0 F A t w r p anew ((a, o) :: ex)) : F a = some o := (h.own.perm run_perm.symm).get (i := 0) rfl
theorem SAt.ex0n {a : Addr} {o : HO} {ex : List (Addr × HO)} (h : SAt sh K F0 F A t w r p anew ((a, o) :: ex)) : F0 a = none := (h.own.perm run_perm.symm).none (i := 0) rfl
theorem SAt.exset {a : Addr} {o o' : HO} {ex : List (Addr × HO)} (h : SAt sh K F0 F A t w r p anew ((a, o) :: ex)) : SAt sh K F0 (upd F a o') A t w r p anew ((a, o') :: ex) :=
  ⟨((h.own.perm run_perm.symm).set (i := 0) (a := a) (o := o) (o' := o') rfl).perm run_perm, h.ml, h.st, h.len1, h.len2, h.pz, h.np, h.na⟩
theorem SAt.freeze {a : Addr} {o : HO} {ex : List (Addr × HO)} (h : SAt sh K F0 F A t w r p anew ((a, o) :: ex)) : SAt sh K (upd F0 a o) F A t w r p anew ex :=
  have h0 := h.ex0n
  ⟨(h.own.perm run_perm.symm).freeze rfl, by rw [upd_ne (ne_of_none h.ml h0)]; exact h.ml, fun k ad ss h1 h2 => (h.st k ad ss h1 h2).ex (Ex.new (.refl _) h0), h.len1, h.len2, h.pz, h.np, h.na⟩
theorem SAt.drop {x : Addr × HO} {ex : List (Addr × HO)} (h : SAt sh K F0 F A t w r p anew (x :: ex)) : SAt sh K F0 F A t w r p anew ex := by
  have o := h.own.perm run_perm.symm
  refine ⟨⟨o.ex, fun q hq => o.out q (List.mem_cons_of_mem _ hq), fun q hq => o.at_ q (List.mem_cons_of_mem _ hq), ?_⟩, h.ml, h.st, h.len1, h.len2, h.pz, h.np, h.na⟩
  have := o.nd
  rw [List.map_cons, List.nodup_cons] at this
  exact this.2
end
end Obr
namespace Obr
open PySem L2 PyProof.Rows
local macro_rules | `(tactic| walk_at "ob_at") => `(tactic| first
  | assumption
  | exact upd_same
  | (refine Eq.trans (upd_ne ?obn) ?obr; (case obn => walk_at "ob_ne"); (case obr => walk_at "ob_at")))
local macro_rules | `(tactic| walk_at "ob_ne") => `(tactic| first
  | assumption
  | (refine Ne.symm ?obs; (case obs => assumption))
  | (refine' ne_of_none (H := ?_) ?obe ?obh; (case obh => assumption); (case obe => walk_at "ob_at"))
  | (refine Ne.symm ?obs; (case obs => (refine' ne_of_none (H := ?_) ?obe ?obh; (case obh => assumption); (case obe => walk_at "ob_at")))))
local macro_rules | `(tactic| walk_at "ob_fr") => `(tactic| first
  | assumption
  | (refine Eq.trans (upd_ne ?obn) ?obr; (case obn => walk_at "ob_ne"); (case obr => walk_at "ob_fr"))
  | (refine Ex.free (G := ?_) (by assumption) ?obh; (case obh => walk_at "ob_fr")))
local macro_rules | `(tactic| walk_at "ob_ex") => `(tactic| first
  | assumption
  | exact Ex.refl _
  | (refine Ex.out ?obg ?obh; (case obh => assumption); (case obg => walk_at "ob_ex"))
  | (refine Ex.new ?obg ?obh; (case obh => assumption); (case obg => walk_at "ob_ex"))
  | (refine Ex.new ?obg ?obh; (case obh => walk_at "ob_fr"); (case obg => walk_at "ob_ex")))
local macro_rules | `(tactic| walk_at "ob_sq") => `(tactic| first
  | assumption
  | (refine SqL.of ?oba; (case oba => walk_at "ob_at"))
  | (refine Ex.sqT (F := ?_) ?obg ?obh; (case obh => assumption); (case obg => walk_at "ob_ex"))
  | (refine Ex.sqL (F := ?_) ?obg ?obh; (case obh => assumption); (case obg => walk_at "ob_ex"))
  | (refine SqT.of ?oba; (case oba => walk_at "ob_at")))
local macro_rules | `(tactic| walk_at "ob_side") => `(tactic| first | exact rfl | assumption | decide | omega | exact ⟨by decide, by decide, by decide⟩ | exact Or.inr ⟨by decide, by decide⟩ | exact Or.inl ⟨by decide, by decide⟩ | exact wide_div (b := 60) (by first | decide | omega) (by first | decide | omega) (by decide) (by decide))
local macro_rules | `(tactic| walk_at "ob1") => `(tactic| first
  | with_reducible refine sw_seq ?_
  | with_reducible refine sw_asg ?_
  | with_reducible refine sw_ret ?_
  | with_reducible refine sw_par ?_
  | with_reducible refine ⟨_, _, rfl, ?_⟩
  | with_reducible refine sw_drop ?_
  | with_reducible refine sw_if ?_
  | with_reducible refine sw_next ?_
  | with_reducible refine gw_name ?_
  | with_reducible refine gw_subL (by assumption) ?_
  | with_reducible refine gsw_cons ?_
  | with_reducible refine gsw_nil ?_
  | with_reducible refine ew_c ?_
  | ((with_reducible refine' ew_var (v := ?_) ?obv ?_); (case obv => exact rfl))
  | ((with_reducible refine ew_next (by assumption) ?obv ?_); (case obv => exact rfl))
  | ((with_reducible refine ew_world (by assumption) ?obv ?_); (case obv => exact rfl))
  | ((with_reducible refine ew_rule (by assumption) ?obv ?_); (case obv => exact rfl))
  | with_reducible refine ew_op ?_
  | with_reducible refine ew_un ?_
  | with_reducible refine ew_dget (by assumption) ?_
  | with_reducible refine uw_I ?_
  | with_reducible refine ppw_nil ?_
  | with_reducible refine ppw_cons ?_
  | with_reducible refine sw_dput (by assumption) ?_
  | with_reducible refine ew_cb ?_
  | with_reducible refine ew_if ?_
  | with_reducible refine ew_slL (by assumption) ?_
  | with_reducible refine ow_some ?_
  | with_reducible refine ow_none ?_
  | with_reducible refine aw_nil ?_
  | with_reducible refine aw_cons ?_
  | with_reducible refine rw_I0 ?_
  | ((with_reducible refine rw_I ?obc ?_); (case obc => walk_at "ob_side"))
  | with_reducible refine rw_isN ?_
  | with_reducible refine rw_notN ?_
  | ((with_reducible refine rw_eq ?obc ?_); (case obc => exact rfl))
  | ((with_reducible refine rw_ne ?obc ?_); (case obc => exact rfl))
  | with_reducible refine cw_max2 ?_
  | with_reducible refine cw_min2 ?_
  | with_reducible refine tw_test ?_
  | with_reducible refine tw_B ?_
  | with_reducible refine tw_not ?_
  | with_reducible refine tw_truB ?_
  | with_reducible refine tw_and ?_
  | with_reducible refine tw_or ?_
  | with_reducible refine ew_and ?_
  | (refine' Exists.intro _ (And.intro (show V.bl _ = V.bl _ from rfl) ?_))
  | (refine' Exists.intro _ (And.intro (show V.int _ = V.int _ from rfl) ?_))
  | ((with_reducible refine' rw_ixL (v := ?_) (xs := ?_) (by assumption) ?obl ?oba ?_); (case obl => walk_at "ob_sq"); (case oba => first | exact rfl | exact at_zero))
  | ((with_reducible refine' rw_ixT (v := ?_) (xs := ?_) (by assumption) ?obl ?oba ?_); (case obl => walk_at "ob_sq"); (case oba => first | exact rfl | exact at_zero))
  | ((with_reducible refine' ew_lst (by assumption) ?_))
  | ((with_reducible refine' ew_tup (by assumption) ?_)))
local macro_rules | `(tactic| walk_at "ob_len") => `(tactic| first | exact Nat.le_of_ble_eq_true rfl | (simp; done) | omega)
local macro_rules | `(tactic| walk_at "ob") => `(tactic| repeat walk_at "ob1")

/-! ### Machine -/
theorem dec_vint (a b : Int) : decide (V.int a = V.int b) = decide (a = b) := by
  by_cases h : a = b
  · rw [h]; simp
  · rw [decide_eq_false h, decide_eq_false (fun e => h (by injection e))]
theorem ovV_non (i : Int) : (!decide (ovV i = V.non)) = decide (0 ≤ i) := by
  unfold ovV
  by_cases h : i < 0
  · rw [if_pos h, decide_eq_false (by omega : ¬ 0 ≤ i)]; rfl
  · rw [if_neg h, decide_eq_true (by omega : 0 ≤ i)]; rfl
def mac0 (b : Int) : Mac := ⟨0, -1, b, 0, 0, none⟩
def aMInitC (M : Addr) : List V → Hp → VK → Prop := fun vs F R => ∃ (a dx : Addr) (n b : Int) (sv : V) (ss : List Stp), vs = [.ref a, .int n, sv, .int b] ∧ F a = some (.ins M dx []) ∧ R .non (upd F a (.ins M dx (mfs n ⟨sv, false, ss⟩ (mac0 b))))
/-- the machine at a -/
structure MObj (K : PySem.W.Frag) (F0 F : Hp) (a M dx : Addr) (n : Int) (sv : Sv) (ss : List Stp) (m : Mac) : Prop where
  at_ : F a = some (.ins M dx (mfs n sv m))
  ex : Ex F0 F
  st : StAt K F0 sv ss
  pz : sv.pz = true → PzOk ss m
def aDone (K : PySem.W.Frag) (M : Addr) : List V → Hp → VK → Prop := fun vs F R => ∃ (F0 : Hp) (a dx : Addr) (n : Int) (sv : Sv) (ss : List Stp) (m : Mac), vs = [.ref a] ∧ MObj K F0 F a M dx n sv ss m ∧ R (.bl (decide (m.at_ = (sv.full.length : Int)))) F
def aBusy (K : PySem.W.Frag) (M : Addr) : List V → Hp → VK → Prop := fun vs F R => ∃ (F0 : Hp) (a dx : Addr) (n : Int) (sv : Sv) (ss : List Stp) (m : Mac), vs = [.ref a] ∧ MObj K F0 F a M dx n sv ss m ∧ R (.bl (decide (0 ≤ m.over))) F
def aWaiting (K : PySem.W.Frag) (M : Addr) : List V → Hp → VK → Prop := fun vs F R => ∃ (F0 : Hp) (a dx : Addr) (n : Int) (sv : Sv) (ss : List Stp) (m : Mac), vs = [.ref a] ∧ MObj K F0 F a M dx n sv ss m ∧ R (.bl (decide (m.over < 0 ∧ m.at_ ≠ (ss.length : Int)))) F
def leftV (m : Mac) (b : Int) : V := if 0 ≤ m.over then .int (m.over - b) else .non
def aLeft (K : PySem.W.Frag) (M : Addr) : List V → Hp → VK → Prop := fun vs F R => ∃ (F0 : Hp) (a dx : Addr) (n : Int) (sv : Sv) (ss : List Stp) (m : Mac) (b : Int), vs = [.ref a, .int b] ∧ MObj K F0 F a M dx n sv ss m ∧ R (leftV m b) F
def aNeed (K : PySem.W.Frag) (M : Addr) : List V → Hp → VK → Prop := fun vs F R => ∃ (F0 : Hp) (a dx : Addr) (n : Int) (sv : Sv) (ss : List Stp) (m : Mac) (st : Stp), vs = [.ref a] ∧ MObj K F0 F a M dx n sv ss m ∧ 0 ≤ m.at_ ∧ ss[m.at_.toNat]? = some st ∧ R (.int st.draw) F
def aBegin (K : PySem.W.Frag) (M : Addr) : List V → Hp → VK → Prop := fun vs F R => ∃ (F0 : Hp) (a dx : Addr) (n : Int) (sv : Sv) (ss : List Stp) (m : Mac) (st : Stp) (b : Int), vs = [.ref a, .int b] ∧ MObj K F0 F a M dx n sv ss m ∧ 0 ≤ m.at_ ∧ ss[m.at_.toNat]? = some st ∧ 0 ≤ b + st.long ∧
  R .non (upd F a (.ins M dx (mfs n sv { m with over := b + st.long })))
def aEndS (K : PySem.W.Frag) (M : Addr) : List V → Hp → VK → Prop := fun vs F R => ∃ (F0 : Hp) (a dx : Addr) (n : Int) (sv : Sv) (ss : List Stp) (m : Mac) (st : Stp) (b : Int), vs = [.ref a, .int b] ∧ MObj K F0 F a M dx n sv ss m ∧ 0 ≤ m.at_ ∧ ss[m.at_.toNat]? = some st ∧
  R (.int st.back) (upd F a (.ins M dx (mfs n sv { m with at_ := m.at_ + 1, over := -1, since := b })))
def aAnew (K : PySem.W.Frag) (M : Addr) : List V → Hp → VK → Prop := fun vs F R => ∃ (F0 : Hp) (a dx : Addr) (n : Int) (sv : Sv) (ss : List Stp) (m : Mac), vs = [.ref a] ∧ MObj K F0 F a M dx n sv ss m ∧ R .non (upd F a (.ins M dx (mfs n sv { m with at_ := 0 })))
section
variable {P : Program} {w : World} {K : PySem.W.Frag} {mg : Str → Option Value} {base : Heap} {M : Addr}
theorem in_addR : (rAdd : V → V → Hp → VK → Prop) = fun x y H Q => ∃ i j, x = .int i ∧ y = .int j ∧ Q (.int (i + j)) H := rfl
theorem mfs_no {n : Int} {sv : Sv} {m : Mac} {f : Str} (h : f ∉ mkeys) : (mfs n sv m).lookup f = none := lookup_out h

abbrev s_Machine__dot__is_done : Stmt := inClass (top 34) 1
def N_Machine_is_done : List Str := ["self"]
theorem sc_Machine_is_done : FnScope N_Machine_is_done ["self"] (defScope s_Machine__dot__is_done) := ⟨rfl, rfl, rfl, by decide +kernel, rfl, by decide +kernel, by decide +kernel⟩
theorem ok_Machine_is_done {f : Addr} {fd : FuncData}  (Fn : Fun K "is_done" "Machine.is_done" s_Machine__dot__is_done f fd) (B : Blt mg) (HM : ClsF K M mkeys) : FnOk P w K mg base CX0 1 f fd ["self"] (LS (aDone K M)) := by
  refine Fn.ok sc_Machine_is_done (fun vs H Q E h => ?_) (fun cdv A outer s H vs Q E hr h => ?_)
  · obtain ⟨J, F, R, hd, j, h, _⟩ := h
    obtain ⟨F0, a, dx, n, sv, ss, m, rfl, _⟩ := h
    rfl
  · have nd := sc_Machine_is_done.nd
    obtain ⟨J, F, R, hd, j, h, q⟩ := h
    obtain ⟨F0, a, dx, n, sv, ss, m, rfl, ho, k⟩ := h
    refine ⟨_, (pss_one (ps_ret (pe_cmpR op_eq (pe_fld (pv 0) rfl) (pe_callB call_len_seq (by rfl) B.len (by decide +kernel) (pa_cons (pe_fld (pv 0) rfl) pa_nil)) (nomark _)))), ?_⟩
    refine LS.body j q ?_
    walk_at "ob"
    refine ew_fld hd ?_
    walk_at "ob"
    refine ⟨a, M, dx, mfs n sv m, _, rfl, ho.at_, HM.cl, HM.no _ (by decide +kernel), lookup_nd (i := 2) (mfs_nd n sv m) rfl, ?_⟩
    walk_at "ob"
    refine ew_fld hd ?_
    walk_at "ob"
    refine ⟨a, M, dx, mfs n sv m, _, rfl, ho.at_, HM.cl, HM.no _ (by decide +kernel), lookup_nd (i := 1) (mfs_nd n sv m) rfl, ?_⟩
    obtain ⟨va, xs, eva, lx, dx2⟩ := dp_tup ho.st.d
    rw [eva]
    walk_at "ob"
    refine cw_lenS hd (Or.inr (ho.ex.sqT lx)) ?_
    have e : xs.length = sv.full.length := by have := dps_len dx2; simpa using this
    rw [e]
    walk_at "ob"
    rw [dec_vint]
    exact k

abbrev s_Machine__dot__is_busy : Stmt := inClass (top 34) 2
def N_Machine_is_busy : List Str := ["self"]
theorem sc_Machine_is_busy : FnScope N_Machine_is_busy ["self"] (defScope s_Machine__dot__is_busy) := ⟨rfl, rfl, rfl, by decide +kernel, rfl, by decide +kernel, by decide +kernel⟩
theorem ok_Machine_is_busy {f : Addr} {fd : FuncData}  (Fn : Fun K "is_busy" "Machine.is_busy" s_Machine__dot__is_busy f fd) (B : Blt mg) (HM : ClsF K M mkeys) : FnOk P w K mg base CX0 1 f fd ["self"] (LS (aBusy K M)) := by
  refine Fn.ok sc_Machine_is_busy (fun vs H Q E h => ?_) (fun cdv A outer s H vs Q E hr h => ?_)
  · obtain ⟨J, F, R, hd, j, h, _⟩ := h
    obtain ⟨F0, a, dx, n, sv, ss, m, rfl, _⟩ := h
    rfl
  · have nd := sc_Machine_is_busy.nd
    obtain ⟨J, F, R, hd, j, h, q⟩ := h
    obtain ⟨F0, a, dx, n, sv, ss, m, rfl, ho, k⟩ := h
    refine ⟨_, (pss_one (ps_ret (pe_cmpR op_notN (pe_fld (pv 0) rfl) pe_non (nomark _)))), ?_⟩
    refine LS.body j q ?_
    walk_at "ob"
    refine ew_fld hd ?_
    walk_at "ob"
    refine ⟨a, M, dx, mfs n sv m, _, rfl, ho.at_, HM.cl, HM.no _ (by decide +kernel), lookup_nd (i := 3) (mfs_nd n sv m) rfl, ?_⟩
    walk_at "ob"
    rw [ovV_non]
    exact k

abbrev s_Machine__dot__is_waiting : Stmt := inClass (top 34) 3
def N_Machine_is_waiting : List Str := ["self"]
theorem sc_Machine_is_waiting : FnScope N_Machine_is_waiting ["self"] (defScope s_Machine__dot__is_waiting) := ⟨rfl, rfl, rfl, by decide +kernel, rfl, by decide +kernel, by decide +kernel⟩
theorem ok_Machine_is_waiting {f : Addr} {fd : FuncData} {f1 f2 : Addr} {fd1 fd2 : FuncData} (Fn : Fun K "is_waiting" "Machine.is_waiting" s_Machine__dot__is_waiting f fd) (B : Blt mg) (HM : ClsF K M mkeys) (M_is_busy : Met K M "is_busy" f1 fd1 ["self"]) (G_is_busy : FnOk P w K mg base CX0 1 f1 fd1 ["self"] (LS (aBusy K M))) (M_is_done : Met K M "is_done" f2 fd2 ["self"]) (G_is_done : FnOk P w K mg base CX0 1 f2 fd2 ["self"] (LS (aDone K M))) : FnOk P w K mg base CX0 2 f fd ["self"] (LS (aWaiting K M)) := by
  refine Fn.ok sc_Machine_is_waiting (fun vs H Q E h => ?_) (fun cdv A outer s H vs Q E hr h => ?_)
  · obtain ⟨J, F, R, hd, j, h, _⟩ := h
    obtain ⟨F0, a, dx, n, sv, ss, m, rfl, _⟩ := h
    rfl
  · have nd := sc_Machine_is_waiting.nd
    obtain ⟨J, F, R, hd, j, h, q⟩ := h
    obtain ⟨F0, a, dx, n, sv, ss, m, rfl, ho, k⟩ := h
    refine ⟨_, (pss_one (ps_ret (pe_not (pe_or (pe_meth0 (pv 0) M_is_busy.cl M_is_busy.m G_is_busy (by exact hr.mono (by decide)) M_is_busy.a .nil pass0) (pe_or (pe_meth0 (pv 0) M_is_done.cl M_is_done.m G_is_done (by exact hr.mono (by decide)) M_is_done.a .nil pass0) (pe_one (pe_fld (pv 0) rfl))))))), ?_⟩
    refine LS.body j q ?_
    refine sw_ret (ew_not (ew_or (ew_meth hd ?_)))
    walk_at "ob"
    refine ⟨a, dx, _, rfl, ho.at_, mfs_no (by decide +kernel), aw_nil ⟨F0, a, dx, n, sv, ss, m, rfl, ho, ?_⟩⟩
    refine ⟨_, rfl, fun hb => ?_, fun hb => ?_⟩
    · have hb1 := of_decide_eq_true hb
      have e : (!true) = decide (m.over < 0 ∧ m.at_ ≠ (ss.length : Int)) := by rw [decide_eq_false (fun h => by omega)]; rfl
      refine ⟨_, rfl, ?_⟩
      rw [e]
      exact k
    · have hb1 : m.over < 0 := by have := of_decide_eq_false hb; omega
      refine ew_or (ew_meth hd ?_)
      walk_at "ob"
      refine ⟨a, dx, _, rfl, ho.at_, mfs_no (by decide +kernel), aw_nil ⟨F0, a, dx, n, sv, ss, m, rfl, ho, ?_⟩⟩
      refine ⟨_, rfl, fun hc => ?_, fun hc => ?_⟩
      · have hc1 := of_decide_eq_true hc
        have hat : m.at_ = (ss.length : Int) := by
          cases hz : sv.pz with
          | false => rw [ho.st.all hz]; exact hc1
          | true => rcases ho.pz hz with z | z
                    · exact z.2
                    · omega
        have e : (!true) = decide (m.over < 0 ∧ m.at_ ≠ (ss.length : Int)) := by rw [decide_eq_false (fun h => h.2 hat)]; rfl
        refine ⟨_, rfl, ?_⟩
        rw [e]
        exact k
      · have hc1 := of_decide_eq_false hc
        have e : (!sv.pz) = decide (m.over < 0 ∧ m.at_ ≠ (ss.length : Int)) := by
          cases hz : sv.pz with
          | false => rw [decide_eq_true ⟨hb1, by rw [ho.st.all hz]; exact hc1⟩]; rfl
          | true =>
            have hat : m.at_ = (ss.length : Int) := by
              rcases ho.pz hz with z | z
              · exact z.2
              · omega
            rw [decide_eq_false (fun h => h.2 hat)]; rfl
        refine ew_fld hd ?_
        walk_at "ob"
        refine ⟨a, M, dx, mfs n sv m, _, rfl, ho.at_, HM.cl, HM.no _ (by decide +kernel), lookup_nd (i := 5) (mfs_nd n sv m) rfl, ?_⟩
        refine ⟨_, rfl, ?_⟩
        rw [e]
        exact k

abbrev s_Machine__dot__need : Stmt := inClass (top 34) 4
def N_Machine_need : List Str := ["self"]
theorem sc_Machine_need : FnScope N_Machine_need ["self"] (defScope s_Machine__dot__need) := ⟨rfl, rfl, rfl, by decide +kernel, rfl, by decide +kernel, by decide +kernel⟩
theorem ok_Machine_need {f : Addr} {fd : FuncData}  (Fn : Fun K "need" "Machine.need" s_Machine__dot__need f fd) (B : Blt mg) (HM : ClsF K M mkeys) {tD : Tok} (gDRAW : mg "DRAW" = some (.int 0 tD)) : FnOk P w K mg base CX0 1 f fd ["self"] (LS (aNeed K M)) := by
  refine Fn.ok sc_Machine_need (fun vs H Q E h => ?_) (fun cdv A outer s H vs Q E hr h => ?_)
  · obtain ⟨J, F, R, hd, j, h, _⟩ := h
    obtain ⟨F0, a, dx, n, sv, ss, m, st, rfl, _⟩ := h
    rfl
  · have nd := sc_Machine_need.nd
    obtain ⟨J, F, R, hd, j, h, q⟩ := h
    obtain ⟨F0, a, dx, n, sv, ss, m, st, rfl, ho, ha0, hst, k⟩ := h
    refine ⟨_, (pss_one (ps_ret (pe_ix ix_tup (pe_ix ix_tup (pe_fld (pv 0) rfl) (pe_fld (pv 0) rfl) (fun _ _ => rfl)) (pe_glob (v := .int 0) rfl gDRAW ⟨_, rfl⟩) (fun _ _ => rfl)))), ?_⟩
    refine LS.body j q ?_
    walk_at "ob"
    refine ew_fld hd ?_
    walk_at "ob"
    refine ⟨a, M, dx, mfs n sv m, _, rfl, ho.at_, HM.cl, HM.no _ (by decide +kernel), lookup_nd (i := 1) (mfs_nd n sv m) rfl, ?_⟩
    walk_at "ob"
    refine ew_fld hd ?_
    walk_at "ob"
    refine ⟨a, M, dx, mfs n sv m, _, rfl, ho.at_, HM.cl, HM.no _ (by decide +kernel), lookup_nd (i := 2) (mfs_nd n sv m) rfl, ?_⟩
    refine r_stp hd ho.ex ho.st.d ha0 (ho.st.get hst) fun u du => ?_
    walk_at "ob"
    refine (r_fld hd ho.ex du).1 ?_
    exact k

abbrev s_Machine__dot__begin_step : Stmt := inClass (top 34) 6
def N_Machine_begin_step : List Str := ["self", "beat"]
theorem sc_Machine_begin_step : FnScope N_Machine_begin_step ["self", "beat"] (defScope s_Machine__dot__begin_step) := ⟨rfl, rfl, rfl, by decide +kernel, rfl, by decide +kernel, by decide +kernel⟩
theorem ok_Machine_begin_step {f : Addr} {fd : FuncData}  (Fn : Fun K "begin_step" "Machine.begin_step" s_Machine__dot__begin_step f fd) (B : Blt mg) (HM : ClsF K M mkeys) {tD : Tok} (gLONG : mg "LONG" = some (.int 1 tD)) : FnOk P w K mg base CX0 1 f fd ["self", "beat"] (LS (aBegin K M)) := by
  refine Fn.ok sc_Machine_begin_step (fun vs H Q E h => ?_) (fun cdv A outer s H vs Q E hr h => ?_)
  · obtain ⟨J, F, R, hd, j, h, _⟩ := h
    obtain ⟨F0, a, dx, n, sv, ss, m, st, b, rfl, _⟩ := h
    rfl
  · have nd := sc_Machine_begin_step.nd
    obtain ⟨J, F, R, hd, j, h, q⟩ := h
    obtain ⟨F0, a, dx, n, sv, ss, m, st, b, rfl, ho, ha0, hst, hbl, k⟩ := h
    refine ⟨_, (pss_one (ps_fld (pv 0) (pe_op op_add (pv 1) (pe_ix ix_tup (pe_ix ix_tup (pe_fld (pv 0) rfl) (pe_fld (pv 0) rfl) (fun _ _ => rfl)) (pe_glob (v := .int 1) rfl gLONG ⟨_, rfl⟩) (fun _ _ => rfl))) rfl)), ?_⟩
    refine LS.body j q ?_
    refine sw_fld hd ?_
    walk_at "ob"
    refine ew_fld hd ?_
    walk_at "ob"
    refine ⟨a, M, dx, mfs n sv m, _, rfl, ho.at_, HM.cl, HM.no _ (by decide +kernel), lookup_nd (i := 1) (mfs_nd n sv m) rfl, ?_⟩
    walk_at "ob"
    refine ew_fld hd ?_
    walk_at "ob"
    refine ⟨a, M, dx, mfs n sv m, _, rfl, ho.at_, HM.cl, HM.no _ (by decide +kernel), lookup_nd (i := 2) (mfs_nd n sv m) rfl, ?_⟩
    refine r_stp hd ho.ex ho.st.d ha0 (ho.st.get hst) fun u du => ?_
    walk_at "ob"
    refine (r_fld hd ho.ex du).2.1 ?_
    walk_at "ob"
    refine ⟨a, M, dx, mfs n sv m, rfl, ho.at_, HM.cl, HM.no _ (by decide +kernel), Nat.lt_of_le_of_lt (Nat.le_of_ble_eq_true (m := 6) rfl) (by decide), ?_⟩
    rw [putF_nd (i := 3) (mfs_nd n sv m) rfl]
    have e : (mfs n sv m).set 3 ("over", V.int (b + st.long)) = mfs n sv { m with over := b + st.long } := by
      have e0 : ovV (b + st.long) = V.int (b + st.long) := by
        unfold ovV
        rw [if_neg (by omega)]
      unfold mfs
      rw [e0]
      rfl
    rw [e]
    exact k

abbrev s_Machine__dot__end_step : Stmt := inClass (top 34) 7
def N_Machine_end_step : List Str := ["self", "beat", "back"]
theorem sc_Machine_end_step : FnScope N_Machine_end_step ["self", "beat"] (defScope s_Machine__dot__end_step) := ⟨rfl, rfl, rfl, by decide +kernel, rfl, by decide +kernel, by decide +kernel⟩
theorem ok_Machine_end_step {f : Addr} {fd : FuncData}  (Fn : Fun K "end_step" "Machine.end_step" s_Machine__dot__end_step f fd) (B : Blt mg) (HM : ClsF K M mkeys) {tD : Tok} (gBACK : mg "BACK" = some (.int 2 tD)) : FnOk P w K mg base CX0 1 f fd ["self", "beat"] (LS (aEndS K M)) := by
  refine Fn.ok sc_Machine_end_step (fun vs H Q E h => ?_) (fun cdv A outer s H vs Q E hr h => ?_)
  · obtain ⟨J, F, R, hd, j, h, _⟩ := h
    obtain ⟨F0, a, dx, n, sv, ss, m, st, b, rfl, _⟩ := h
    rfl
  · have nd := sc_Machine_end_step.nd
    obtain ⟨J, F, R, hd, j, h, q⟩ := h
    obtain ⟨F0, a, dx, n, sv, ss, m, st, b, rfl, ho, ha0, hst, k⟩ := h
    refine ⟨_, (pss_cons (ps_set (i := 2) nd rfl (Or.inl rfl) (pe_ix ix_tup (pe_ix ix_tup (pe_fld (pv 0) rfl) (pe_fld (pv 0) rfl) (fun _ _ => rfl)) (pe_glob (v := .int 2) rfl gBACK ⟨_, rfl⟩) (fun _ _ => rfl)))
      (pss_cons (ps_fldaug (pv 0) pe_int in_add)
      (pss_cons (ps_fld (pv 0) pe_non rfl)
      (pss_cons (ps_fld (pv 0) (pv 1) rfl)
      (pss_one (ps_ret (pv 2))))))), ?_⟩
    refine LS.body j q ?_
    walk_at "ob"
    refine ew_fld hd ?_
    walk_at "ob"
    refine ⟨a, M, dx, mfs n sv m, _, rfl, ho.at_, HM.cl, HM.no _ (by decide +kernel), lookup_nd (i := 1) (mfs_nd n sv m) rfl, ?_⟩
    walk_at "ob"
    refine ew_fld hd ?_
    walk_at "ob"
    refine ⟨a, M, dx, mfs n sv m, _, rfl, ho.at_, HM.cl, HM.no _ (by decide +kernel), lookup_nd (i := 2) (mfs_nd n sv m) rfl, ?_⟩
    refine r_stp hd ho.ex ho.st.d ha0 (ho.st.get hst) fun u du => ?_
    walk_at "ob"
    refine (r_fld hd ho.ex du).2.2 ?_
    walk_at "ob"
    refine sw_fldaugI hd in_addR ?_
    walk_at "ob"
    refine ⟨a, M, dx, mfs n sv m, m.at_, rfl, ho.at_, HM.cl, HM.no _ (by decide +kernel), lookup_nd (i := 2) (mfs_nd n sv m) rfl, ?_⟩
    walk_at "ob"
    refine ⟨1, dx, mfs n sv m, rfl, ho.at_, Nat.lt_of_le_of_lt (Nat.le_of_ble_eq_true (m := 6) rfl) (by decide), ?_⟩
    rw [putF_nd (i := 2) (mfs_nd n sv m) rfl, show (mfs n sv m).set 2 ("at", V.int (m.at_ + 1)) = mfs n sv { m with at_ := m.at_ + 1 } from rfl]
    walk_at "ob"
    refine sw_fld hd ?_
    walk_at "ob"
    refine ⟨a, M, dx, _, rfl, upd_same, HM.cl, HM.no _ (by decide +kernel), Nat.lt_of_le_of_lt (Nat.le_of_ble_eq_true (m := 6) rfl) (by decide), ?_⟩
    rw [putF_nd (i := 3) (mfs_nd n sv _) rfl, upd_upd, show (mfs n sv { m with at_ := m.at_ + 1 }).set 3 ("over", V.non) = mfs n sv { m with at_ := m.at_ + 1, over := -1 } from rfl]
    walk_at "ob"
    refine sw_fld hd ?_
    walk_at "ob"
    refine ⟨a, M, dx, _, rfl, upd_same, HM.cl, HM.no _ (by decide +kernel), Nat.lt_of_le_of_lt (Nat.le_of_ble_eq_true (m := 6) rfl) (by decide), ?_⟩
    rw [putF_nd (i := 4) (mfs_nd n sv _) rfl, upd_upd, show (mfs n sv { m with at_ := m.at_ + 1, over := -1 }).set 4 ("since", V.int b) = mfs n sv { m with at_ := m.at_ + 1, over := -1, since := b } from rfl]
    walk_at "ob"
    exact k

abbrev s_Machine__dot__begin_anew : Stmt := inClass (top 34) 8
def N_Machine_begin_anew : List Str := ["self"]
theorem sc_Machine_begin_anew : FnScope N_Machine_begin_anew ["self"] (defScope s_Machine__dot__begin_anew) := ⟨rfl, rfl, rfl, by decide +kernel, rfl, by decide +kernel, by decide +kernel⟩
theorem ok_Machine_begin_anew {f : Addr} {fd : FuncData}  (Fn : Fun K "begin_anew" "Machine.begin_anew" s_Machine__dot__begin_anew f fd) (B : Blt mg) (HM : ClsF K M mkeys) : FnOk P w K mg base CX0 1 f fd ["self"] (LS (aAnew K M)) := by
  refine Fn.ok sc_Machine_begin_anew (fun vs H Q E h => ?_) (fun cdv A outer s H vs Q E hr h => ?_)
  · obtain ⟨J, F, R, hd, j, h, _⟩ := h
    obtain ⟨F0, a, dx, n, sv, ss, m, rfl, _⟩ := h
    rfl
  · have nd := sc_Machine_begin_anew.nd
    obtain ⟨J, F, R, hd, j, h, q⟩ := h
    obtain ⟨F0, a, dx, n, sv, ss, m, rfl, ho, k⟩ := h
    refine ⟨_, (pss_one (ps_fld (pv 0) pe_int rfl)), ?_⟩
    refine LS.body j q ?_
    refine sw_fld hd ?_
    walk_at "ob"
    refine ⟨a, M, dx, mfs n sv m, rfl, ho.at_, HM.cl, HM.no _ (by decide +kernel), Nat.lt_of_le_of_lt (Nat.le_of_ble_eq_true (m := 6) rfl) (by decide), ?_⟩
    rw [putF_nd (i := 2) (mfs_nd n sv m) rfl, show (mfs n sv m).set 2 ("at", V.int 0) = mfs n sv { m with at_ := 0 } from rfl]
    exact k

abbrev s_Machine__dot____init__ : Stmt := inClass (top 34) 0
def N_Machine___init__ : List Str := ["self", "number", "steps", "since"]
theorem sc_Machine___init__ : FnScope N_Machine___init__ ["self", "number", "steps", "since"] (defScope s_Machine__dot____init__) := ⟨rfl, rfl, rfl, by decide +kernel, rfl, by decide +kernel, by decide +kernel⟩
theorem ok_Machine___init__ {f : Addr} {fd : FuncData}  (Fn : Fun K "__init__" "Machine.__init__" s_Machine__dot____init__ f fd) (B : Blt mg) (HM : ClsF K M mkeys) : FnOk P w K mg base CX0 1 f fd ["self", "number", "steps", "since"] (LS (aMInitC M)) := by
  refine Fn.ok sc_Machine___init__ (fun vs H Q E h => ?_) (fun cdv A outer s H vs Q E hr h => ?_)
  · obtain ⟨J, F, R, hd, j, h, _⟩ := h
    obtain ⟨a, dx, n, b, sv, ss, rfl, _⟩ := h
    rfl
  · have nd := sc_Machine___init__.nd
    obtain ⟨J, F, R, hd, j, h, q⟩ := h
    obtain ⟨a, dx, n, b, sv, ss, rfl, ha, k⟩ := h
    refine ⟨_, (pss_cons (ps_fld (pv 0) (pv 1) rfl)
      (pss_cons (ps_fld (pv 0) (pv 2) rfl)
      (pss_cons (ps_fld (pv 0) pe_int rfl)
      (pss_cons (ps_fld (pv 0) pe_non rfl)
      (pss_cons (ps_fld (pv 0) (pv 3) rfl)
      (pss_one (ps_fld (pv 0) pe_bl rfl))))))), ?_⟩
    refine LS.body j q ?_
    refine sw_seq ?_
    refine sw_fld hd ?_
    walk_at "ob"
    refine ⟨a, M, dx, [], rfl, ha, HM.cl, HM.no _ (by decide +kernel), Nat.lt_of_le_of_lt (Nat.le_of_ble_eq_true (m := 6) rfl) (by decide), ?_⟩
    rw [putF_out (show _ ∉ mkeys.take 0 from by decide +kernel)]
    refine sw_seq ?_
    refine sw_fld hd ?_
    walk_at "ob"
    refine ⟨a, M, dx, [("number", V.int n)], rfl, upd_same, HM.cl, HM.no _ (by decide +kernel), Nat.lt_of_le_of_lt (Nat.le_of_ble_eq_true (m := 6) rfl) (by decide), ?_⟩
    rw [putF_out (show _ ∉ mkeys.take 1 from by decide +kernel), upd_upd]
    refine sw_seq ?_
    refine sw_fld hd ?_
    walk_at "ob"
    refine ⟨a, M, dx, [("number", V.int n), ("steps", sv)], rfl, upd_same, HM.cl, HM.no _ (by decide +kernel), Nat.lt_of_le_of_lt (Nat.le_of_ble_eq_true (m := 6) rfl) (by decide), ?_⟩
    rw [putF_out (show _ ∉ mkeys.take 2 from by decide +kernel), upd_upd]
    refine sw_seq ?_
    refine sw_fld hd ?_
    walk_at "ob"
    refine ⟨a, M, dx, [("number", V.int n), ("steps", sv), ("at", V.int 0)], rfl, upd_same, HM.cl, HM.no _ (by decide +kernel), Nat.lt_of_le_of_lt (Nat.le_of_ble_eq_true (m := 6) rfl) (by decide), ?_⟩
    rw [putF_out (show _ ∉ mkeys.take 3 from by decide +kernel), upd_upd]
    refine sw_seq ?_
    refine sw_fld hd ?_
    walk_at "ob"
    refine ⟨a, M, dx, [("number", V.int n), ("steps", sv), ("at", V.int 0), ("over", V.non)], rfl, upd_same, HM.cl, HM.no _ (by decide +kernel), Nat.lt_of_le_of_lt (Nat.le_of_ble_eq_true (m := 6) rfl) (by decide), ?_⟩
    rw [putF_out (show _ ∉ mkeys.take 4 from by decide +kernel), upd_upd]
    
    refine sw_fld hd ?_
    walk_at "ob"
    refine ⟨a, M, dx, [("number", V.int n), ("steps", sv), ("at", V.int 0), ("over", V.non), ("since", V.int b)], rfl, upd_same, HM.cl, HM.no _ (by decide +kernel), Nat.lt_of_le_of_lt (Nat.le_of_ble_eq_true (m := 6) rfl) (by decide), ?_⟩
    rw [putF_out (show _ ∉ mkeys.take 5 from by decide +kernel), upd_upd]
    exact k
end
end Obr
namespace Obr
/-! ### what a beat does, machine by machine (mathematics only) -/
def endM (anew : Bool) (b : Int) (ss : List Stp) (m : Mac) : Mac :=
  if m.over = b then
    match ss[m.at_.toNat]? with
    | some _ => if m.at_ + 1 = ss.length then ⟨if anew then 0 else m.at_ + 1, -1, b, m.done + 1, m.waits, some b⟩ else ⟨m.at_ + 1, -1, b, m.done + 1, m.waits, m.ends⟩
    | none => m
  else m
theorem set_get {α : Type} {l : List α} {k j : Nat} {x : α} : (l.set k x)[j]? = if k = j then (l[j]?).map (fun _ => x) else l[j]? := by
  rw [List.getElem?_set]
  by_cases c : k = j
  · subst c
    rw [if_pos rfl, if_pos rfl]
    by_cases h : k < l.length
    · rw [if_pos h, List.getElem?_eq_getElem h]; rfl
    · rw [if_neg h, List.getElem?_eq_none (by omega)]; rfl
  · rw [if_neg c, if_neg c]
theorem lEnd_ms {w : Wld} {anew : Bool} {t : LSt} {k : Nat} {ss : List Stp} (hs : w.ms[k]? = some ss) (j : Nat) : (lEnd w anew t k).ms[j]? = if k = j then (t.ms[j]?).map (endM anew t.beat ss) else t.ms[j]? := by
  unfold lEnd
  split
  · rename_i m s2 hm h2
    rw [hs] at h2
    cases h2
    by_cases c : k = j
    · subst c
      rw [if_pos rfl, hm]
      unfold endM
      split
      · rename_i ho
        simp only [Option.map_some]
        rw [if_pos ho]
        split
        · rename_i st hst
          try simp only [hst]
          split
          · rw [set_get, if_pos rfl, hm]; rfl
          · rw [set_get, if_pos rfl, hm]; rfl
        · rename_i hst
          try simp only [hst]
          exact hm
      · rename_i ho
        simp only [Option.map_some]
        rw [if_neg ho]
        exact hm
    · rw [if_neg c]
      split
      · split
        · split
          · rw [set_get, if_neg c]
          · rw [set_get, if_neg c]
        · rfl
      · rfl
  · rename_i hno
    by_cases c : k = j
    · subst c
      rw [if_pos rfl]
      cases hm : t.ms[k]? with
      | none => rfl
      | some m => exact absurd hs (hno m ss hm)
    · rw [if_neg c]
theorem lEnds_ms {w : Wld} {anew : Bool} {t : LSt} : ∀ {n : Nat} {j : Nat} {ss : List Stp}, n ≤ w.ms.length → w.ms[j]? = some ss → (lEnds w anew t n).ms[j]? = if j < n then (t.ms[j]?).map (endM anew t.beat ss) else t.ms[j]?
  | 0, j, ss, _, _ => by rw [if_neg (by omega)]; rfl
  | n + 1, j, ss, hn, hj => by
    have hk : w.ms[n]? = some w.ms[n] := List.getElem?_eq_getElem (by omega)
    rw [lEnds, lEnd_ms hk, lEnds_beat]
    by_cases c : n = j
    · subst c
      rw [if_pos rfl, if_pos (by omega), lEnds_ms (by omega) hk, if_neg (by omega)]
      rw [hk] at hj
      cases hj
      rfl
    · rw [if_neg c, lEnds_ms (by omega) hj]
      by_cases d : j < n
      · rw [if_pos d, if_pos (by omega)]
      · rw [if_neg d, if_neg (by omega)]
theorem lFill_ms {w : Wld} {t : LSt} : (lFill w t).ms = t.ms := by unfold lFill; split <;> rfl
theorem lFill_beat {w : Wld} {t : LSt} : (lFill w t).beat = t.beat := by unfold lFill; split <;> rfl
theorem lDraw_beat {w : Wld} {p : Bool} {x : LSt × List Int × Bool} {c : Clm} : (lDraw w p x c).1.beat = x.1.beat ∧ (lDraw w p x c).1.last = x.1.last := by
  unfold lDraw
  repeat' split
  all_goals exact ⟨rfl, rfl⟩
theorem lDraws_beat {w : Wld} {p : Bool} : ∀ (ts : List Clm) {x : LSt × List Int × Bool}, (ts.foldl (lDraw w p) x).1.beat = x.1.beat ∧ (ts.foldl (lDraw w p) x).1.last = x.1.last
  | [], _ => ⟨rfl, rfl⟩
  | c :: ts, x => by
    have h := lDraws_beat ts (w := w) (p := p) (x := lDraw w p x c)
    have k := lDraw_beat (w := w) (p := p) (x := x) (c := c)
    exact ⟨h.1.trans k.1, h.2.trans k.2⟩
theorem lDraw_other {w : Wld} {p : Bool} {x : LSt × List Int × Bool} {c : Clm} {j : Nat} (h : c.k.toNat ≠ j) : (lDraw w p x c).1.ms[j]? = x.1.ms[j]? := by
  unfold lDraw
  split
  · split
    · split
      · rw [set_get, if_neg h]
      · rfl
    · rw [set_get, if_neg h]
  · rfl
theorem lDraw_bg {w : Wld} {p : Bool} {x : LSt × List Int × Bool} {c : Clm} : (lDraw w p x c).2.1 = x.2.1 ∨ (lDraw w p x c).2.1 = x.2.1 ++ [c.k] := by
  unfold lDraw
  split
  · split
    · split
      · exact Or.inr rfl
      · exact Or.inl rfl
    · exact Or.inl rfl
  · exact Or.inl rfl
theorem lDraw_here {w : Wld} {p : Bool} {x : LSt × List Int × Bool} {c : Clm} {m : Mac} {ss : List Stp} {st : Stp} (hm : x.1.ms[c.k.toNat]? = some m) (hs : w.ms[c.k.toNat]? = some ss) (hst : ss[m.at_.toNat]? = some st) :
    ((lDraw w p x c).2.1 = x.2.1 ++ [c.k] ∧ c.draw ≤ x.1.level ∧ (lDraw w p x c).1.level = x.1.level - c.draw ∧ (lDraw w p x c).1.ms[c.k.toNat]? = some { m with over := x.1.beat + st.long }) ∨
    ((lDraw w p x c).2.1 = x.2.1 ∧ (lDraw w p x c).1.level = x.1.level ∧ (lDraw w p x c).1.ms[c.k.toNat]? = some { m with waits := m.waits + 1 }) := by
  unfold lDraw
  rw [hm, hs]
  simp only [hst]
  split
  · rename_i h
    refine Or.inl ⟨rfl, h.2, rfl, ?_⟩
    show (x.1.ms.set _ _)[_]? = _
    rw [set_get, if_pos rfl, hm]; rfl
  · refine Or.inr ⟨rfl, rfl, ?_⟩
    show (x.1.ms.set _ _)[_]? = _
    rw [set_get, if_pos rfl, hm]; rfl
/-- after the draws: each machine -/
theorem lDraws_ms {w : Wld} {p : Bool} {s : LSt} : ∀ (ts : List Clm) {x : LSt × List Int × Bool}, (ts.map Clm.k).Nodup → (∀ c ∈ ts, 0 ≤ c.k) → (∀ c ∈ ts, ∀ b ∈ x.2.1, b ≠ c.k) →
    (∀ c ∈ ts, ∃ m ss st, x.1.ms[c.k.toNat]? = some m ∧ w.ms[c.k.toNat]? = some ss ∧ ss[m.at_.toNat]? = some st) →
    (∀ b ∈ (ts.foldl (lDraw w p) x).2.1, b ∈ x.2.1 ∨ b ∈ ts.map Clm.k) ∧ (∀ b ∈ x.2.1, b ∈ (ts.foldl (lDraw w p) x).2.1) ∧
    (∀ j : Nat, (j : Int) ∉ ts.map Clm.k → (ts.foldl (lDraw w p) x).1.ms[j]? = x.1.ms[j]?) ∧
    (∀ (j : Nat) (m : Mac), (j : Int) ∈ ts.map Clm.k → x.1.ms[j]? = some m → ∃ ss st, w.ms[j]? = some ss ∧ ss[m.at_.toNat]? = some st ∧
      (((j : Int) ∈ (ts.foldl (lDraw w p) x).2.1 ∧ (ts.foldl (lDraw w p) x).1.ms[j]? = some { m with over := x.1.beat + st.long }) ∨ ((j : Int) ∉ (ts.foldl (lDraw w p) x).2.1 ∧ (ts.foldl (lDraw w p) x).1.ms[j]? = some { m with waits := m.waits + 1 })))
  | [], x, _, _, _, _ => ⟨fun b h => Or.inl h, fun b h => h, fun _ _ => rfl, fun j m h _ => by cases h⟩
  | c :: ts, x, hn, h0, hb, hx => by
    rw [List.map_cons, List.nodup_cons] at hn
    have hc0 := h0 c List.mem_cons_self
    have hkk : ∀ j : Nat, c.k.toNat = j ↔ c.k = (j : Int) := fun j => by omega
    have hne : ∀ d ∈ ts, c.k ≠ d.k := fun d hd e => hn.1 (by rw [e]; exact List.mem_map_of_mem hd)
    have ih := lDraws_ms (s := s) ts (w := w) (p := p) (x := lDraw w p x c) hn.2 (fun d hd => h0 d (List.mem_cons_of_mem _ hd))
      (fun d hd b hbm => by
        rcases lDraw_bg (w := w) (p := p) (x := x) (c := c) with e | e
        · rw [e] at hbm; exact hb d (List.mem_cons_of_mem _ hd) b hbm
        · rw [e] at hbm
          rcases List.mem_append.mp hbm with hbm | hbm
          · exact hb d (List.mem_cons_of_mem _ hd) b hbm
          · rw [List.mem_singleton.mp hbm]; exact hne d hd)
      (fun d hd => by
        obtain ⟨m, ss, st, h1, h2, h3⟩ := hx d (List.mem_cons_of_mem _ hd)
        refine ⟨m, ss, st, ?_, h2, h3⟩
        rw [lDraw_other (fun e => hne d hd (by have := h0 d (List.mem_cons_of_mem _ hd); omega))]
        exact h1)
    obtain ⟨i1, i2, i3, i4⟩ := ih
    rw [List.foldl_cons]
    refine ⟨fun b hbm => ?_, fun b hbm => ?_, fun j hj => ?_, fun j m hj hm => ?_⟩
    · rcases i1 b hbm with h | h
      · rcases lDraw_bg (w := w) (p := p) (x := x) (c := c) with e | e
        · rw [e] at h; exact Or.inl h
        · rw [e] at h
          rcases List.mem_append.mp h with h | h
          · exact Or.inl h
          · rw [List.mem_singleton.mp h]; exact Or.inr List.mem_cons_self
      · exact Or.inr (List.mem_cons_of_mem _ h)
    · refine i2 b ?_
      rcases lDraw_bg (w := w) (p := p) (x := x) (c := c) with e | e
      · rw [e]; exact hbm
      · rw [e]; exact List.mem_append_left _ hbm
    · rw [List.map_cons, List.mem_cons, not_or] at hj
      rw [i3 j hj.2]
      exact lDraw_other (fun e => hj.1 ((hkk j).mp e).symm)
    · by_cases e : c.k = (j : Int)
      · have ej : c.k.toNat = j := (hkk j).mpr e
        obtain ⟨m2, ss, st, h1, h2, h3⟩ := hx c List.mem_cons_self
        rw [ej] at h1 h2
        rw [hm] at h1
        cases h1
        have hnt : (j : Int) ∉ ts.map Clm.k := by rw [← e]; exact hn.1
        refine ⟨ss, st, h2, h3, ?_⟩
        rw [i3 j hnt]
        rcases lDraw_here (w := w) (p := p) (x := x) (c := c) (by rw [ej]; exact hm) (by rw [ej]; exact h2) h3 with ⟨k1, k2, k3, k4⟩ | ⟨k1, k2, k3⟩
        · rw [ej] at k4
          refine Or.inl ⟨i2 _ ?_, k4⟩
          rw [k1, ← e]
          simp
        · rw [ej] at k3
          refine Or.inr ⟨fun hin => ?_, k3⟩
          rcases i1 _ hin with h | h
          · rw [k1] at h
            exact hb c List.mem_cons_self _ h e.symm
          · exact hnt h
      · have hjt : (j : Int) ∈ ts.map Clm.k := by
          rw [List.map_cons] at hj
          rcases List.mem_cons.mp hj with h | h
          · exact absurd h.symm e
          · exact h
        have hm' : (lDraw w p x c).1.ms[j]? = some m := by rw [lDraw_other (fun q => e ((hkk j).mp q))]; exact hm
        obtain ⟨ss, st, h2, h3, h4⟩ := i4 j m hjt hm'
        rw [lDraw_beat.1] at h4
        exact ⟨ss, st, h2, h3, h4⟩
/-- what a beat does to a machine -/
structure MBeat (anew : Bool) (b : Int) (ss : List Stp) (m m' : Mac) (began : Prop) : Prop where
  no : ¬ ((endM anew b ss m).over < 0 ∧ (endM anew b ss m).at_ < ss.length) → m' = endM anew b ss m ∧ ¬ began
  yes : ((endM anew b ss m).over < 0 ∧ (endM anew b ss m).at_ < ss.length) → ∃ st, ss[(endM anew b ss m).at_.toNat]? = some st ∧ ((began ∧ m' = { endM anew b ss m with over := b + st.long }) ∨ (¬ began ∧ m' = { endM anew b ss m with waits := m.waits + 1 }))
theorem endM_waits {anew : Bool} {b : Int} {ss : List Stp} {m : Mac} : (endM anew b ss m).waits = m.waits := by
  unfold endM
  repeat' split
  all_goals rfl
theorem beat_ms {w : Wld} {r : Rgt} {p anew : Bool} {t t' : LSt} {lv : Int} {bg : List Int} (h : LOk w t) (b : LBeat w r p anew t t' lv bg) : t'.ms.length = w.ms.length ∧ t'.beat = t.beat + 1 ∧
    ∀ (k : Nat) (m : Mac) (ss : List Stp), t.ms[k]? = some m → w.ms[k]? = some ss → ∃ m', t'.ms[k]? = some m' ∧ MBeat anew t.beat ss m m' ((k : Int) ∈ bg) := by
  obtain ⟨ts, hts, e1, e2, _⟩ := b.ex
  have hS : ∀ (k : Nat) (m : Mac) (ss : List Stp), t.ms[k]? = some m → w.ms[k]? = some ss → (lFill w (lEnds w anew t w.ms.length)).ms[k]? = some (endM anew t.beat ss m) := fun k m ss hm hs => by
    rw [lFill_ms, lEnds_ms (Nat.le_refl _) hs, if_pos (List.getElem?_eq_some_iff.mp hs).1, hm]
    rfl
  have hok := lFill_ok (lEnds_ok (anew := anew) h w.ms.length)
  have hmem : ∀ c ∈ ts, ∃ (j : Nat) (m : Mac) (ss : List Stp) (st : Stp), j < w.ms.length ∧ (lFill w (lEnds w anew t w.ms.length)).ms[j]? = some m ∧ w.ms[j]? = some ss ∧ m.over < 0 ∧ m.at_ < ss.length ∧ ss[m.at_.toNat]? = some st ∧ c = ⟨j, st.draw, m.since⟩ := fun c hc => by
    obtain ⟨j, hj, hcj⟩ := lClaims_mem (hts.perm.mem_iff.mp hc)
    obtain ⟨m, ss, st, h1, h2, h3, h4, h5, h6⟩ := lClaim_mem hcj
    exact ⟨j, m, ss, st, hj, h1, h2, h3, h4, h5, h6⟩
  have hD := lDraws_ms (w := w) (p := p) (s := t) ts (x := (lFill w (lEnds w anew t w.ms.length), [], true)) ((hts.perm.map Clm.k).nodup_iff.mpr (lClaims_nd _))
    (fun c hc => by obtain ⟨j, _, _, _, _, _, _, _, _, _, e⟩ := hmem c hc; rw [e]; exact Int.natCast_nonneg _) (fun _ _ b hb => by cases hb)
    (fun c hc => by
      obtain ⟨j, m, ss, st, _, h1, h2, _, _, h5, e⟩ := hmem c hc
      refine ⟨m, ss, st, ?_, ?_, h5⟩
      · rw [e]; show _[((j : Int)).toNat]? = _; rw [Int.toNat_natCast]; exact h1
      · rw [e]; show _[((j : Int)).toNat]? = _; rw [Int.toNat_natCast]; exact h2)
  have hlen : (lDraws w p ts (lFill w (lEnds w anew t w.ms.length))).1.ms.length = w.ms.length := by
    have hh : ∀ (ts : List Clm) (x : LSt × List Int × Bool), (ts.foldl (lDraw w p) x).1.ms.length = x.1.ms.length := by
      intro ts
      induction ts with
      | nil => intro x; rfl
      | cons c ts ih =>
        intro x
        rw [List.foldl_cons, ih]
        unfold lDraw
        repeat' split
        all_goals simp
    unfold lDraws
    rw [hh]
    exact hok.len
  subst e2
  refine ⟨hlen, ?_, fun k m ss hm hs => ?_⟩
  · show (lDraws w p ts _).1.beat + 1 = _
    unfold lDraws
    rw [(lDraws_beat ts).1, lFill_beat, lEnds_beat]
  · have h1 := hS k m ss hm hs
    have hD1 := hD.1
    obtain ⟨_, _, d3, d4⟩ := hD
    have hbgk : (k : Int) ∈ bg → (k : Int) ∈ ts.map Clm.k := fun hb => by
      rw [e1] at hb
      rcases hD1 _ hb with q | q
      · cases q
      · exact q
    by_cases hc : (endM anew t.beat ss m).over < 0 ∧ (endM anew t.beat ss m).at_ < ss.length
    · have hin : (k : Int) ∈ ts.map Clm.k := by
        have ho := hok.m k _ ss h1 hs
        have hl : (endM anew t.beat ss m).at_.toNat < ss.length := by have := ho.a0; omega
        have : (⟨k, ss[(endM anew t.beat ss m).at_.toNat].draw, (endM anew t.beat ss m).since⟩ : Clm) ∈ lClaims w (lFill w (lEnds w anew t w.ms.length)) w.ms.length := by
          have hall : ∀ (n : Nat), k < n → ∀ c ∈ lClaim w (lFill w (lEnds w anew t w.ms.length)) k, c ∈ lClaims w (lFill w (lEnds w anew t w.ms.length)) n := by
            intro n
            induction n with
            | zero => intro hk; omega
            | succ n ih =>
              intro hk c hcm
              rw [lClaims]
              by_cases e : k = n
              · subst e; exact List.mem_append_right _ hcm
              · exact List.mem_append_left _ (ih (by omega) c hcm)
          refine hall _ (List.getElem?_eq_some_iff.mp hs).1 _ ?_
          unfold lClaim
          rw [h1, hs]
          simp only []
          rw [if_pos hc, List.getElem?_eq_getElem hl]
          simp
        exact List.mem_map.mpr ⟨_, hts.perm.mem_iff.mpr this, rfl⟩
      obtain ⟨ss2, st, hs2, hst, hd⟩ := d4 k _ hin h1
      rw [hs] at hs2
      cases hs2
      have eb : (lFill w (lEnds w anew t w.ms.length)).beat = t.beat := by rw [lFill_beat, lEnds_beat]
      rcases hd with ⟨q1, q2⟩ | ⟨q1, q2⟩
      · refine ⟨_, q2, ⟨fun z => absurd hc z, fun _ => ⟨st, hst, Or.inl ⟨by rw [e1]; exact q1, ?_⟩⟩⟩⟩
        show { endM anew t.beat ss m with over := (lFill w (lEnds w anew t w.ms.length)).beat + st.long } = _
        rw [eb]
      · exact ⟨_, q2, ⟨fun z => absurd hc z, fun _ => ⟨st, hst, Or.inr ⟨by rw [e1]; exact q1, by rw [endM_waits]⟩⟩⟩⟩
    · have hout : (k : Int) ∉ ts.map Clm.k := fun hin => by
        obtain ⟨c, hcm, ek⟩ := List.mem_map.mp hin
        obtain ⟨j, m2, ss2, st, _, g1, g2, g3, g4, _, e⟩ := hmem c hcm
        rw [e] at ek
        have ej : j = k := by have : ((j : Int)) = k := ek; omega
        subst ej
        rw [h1] at g1
        rw [hs] at g2
        cases g1
        cases g2
        exact hc ⟨g3, g4⟩
      refine ⟨_, (d3 k hout).trans h1, ⟨fun _ => ⟨rfl, fun hb => hout (hbgk hb)⟩, fun z => absurd z hc⟩⟩
end Obr
namespace Obr
open PySem L2 PyProof.Rows
local macro_rules | `(tactic| walk_at "ob_at") => `(tactic| first
  | assumption
  | exact upd_same
  | (refine Eq.trans (upd_ne ?obn) ?obr; (case obn => walk_at "ob_ne"); (case obr => walk_at "ob_at")))
local macro_rules | `(tactic| walk_at "ob_ne") => `(tactic| first
  | assumption
  | (refine Ne.symm ?obs; (case obs => assumption))
  | (refine' ne_of_none (H := ?_) ?obe ?obh; (case obh => assumption); (case obe => walk_at "ob_at"))
  | (refine Ne.symm ?obs; (case obs => (refine' ne_of_none (H := ?_) ?obe ?obh; (case obh => assumption); (case obe => walk_at "ob_at")))))
local macro_rules | `(tactic| walk_at "ob_fr") => `(tactic| first
  | assumption
  | (refine Eq.trans (upd_ne ?obn) ?obr; (case obn => walk_at "ob_ne"); (case obr => walk_at "ob_fr"))
  | (refine Ex.free (G := ?_) (by assumption) ?obh; (case obh => walk_at "ob_fr")))
local macro_rules | `(tactic| walk_at "ob_ex") => `(tactic| first
  | assumption
  | exact Ex.refl _
  | (refine Ex.out ?obg ?obh; (case obh => assumption); (case obg => walk_at "ob_ex"))
  | (refine Ex.new ?obg ?obh; (case obh => assumption); (case obg => walk_at "ob_ex"))
  | (refine Ex.new ?obg ?obh; (case obh => walk_at "ob_fr"); (case obg => walk_at "ob_ex")))
local macro_rules | `(tactic| walk_at "ob_sq") => `(tactic| first
  | assumption
  | (refine SqL.of ?oba; (case oba => walk_at "ob_at"))
  | (refine Ex.sqT (F := ?_) ?obg ?obh; (case obh => assumption); (case obg => walk_at "ob_ex"))
  | (refine Ex.sqL (F := ?_) ?obg ?obh; (case obh => assumption); (case obg => walk_at "ob_ex"))
  | (refine SqT.of ?oba; (case oba => walk_at "ob_at")))
local macro_rules | `(tactic| walk_at "ob_side") => `(tactic| first | exact rfl | assumption | decide | omega | exact ⟨by decide, by decide, by decide⟩ | exact Or.inr ⟨by decide, by decide⟩ | exact Or.inl ⟨by decide, by decide⟩ | exact wide_div (b := 60) (by first | decide | omega) (by first | decide | omega) (by decide) (by decide))
local macro_rules | `(tactic| walk_at "ob1") => `(tactic| first
  | with_reducible refine sw_seq ?_
  | with_reducible refine sw_asg ?_
  | with_reducible refine sw_ret ?_
  | with_reducible refine sw_par ?_
  | with_reducible refine ⟨_, _, rfl, ?_⟩
  | with_reducible refine sw_drop ?_
  | with_reducible refine sw_if ?_
  | with_reducible refine sw_next ?_
  | with_reducible refine gw_name ?_
  | with_reducible refine gw_subL (by assumption) ?_
  | with_reducible refine gsw_cons ?_
  | with_reducible refine gsw_nil ?_
  | with_reducible refine ew_c ?_
  | ((with_reducible refine' ew_var (v := ?_) ?obv ?_); (case obv => exact rfl))
  | ((with_reducible refine ew_next (by assumption) ?obv ?_); (case obv => exact rfl))
  | ((with_reducible refine ew_world (by assumption) ?obv ?_); (case obv => exact rfl))
  | ((with_reducible refine ew_rule (by assumption) ?obv ?_); (case obv => exact rfl))
  | with_reducible refine ew_op ?_
  | with_reducible refine ew_un ?_
  | with_reducible refine ew_dget (by assumption) ?_
  | with_reducible refine uw_I ?_
  | with_reducible refine ppw_nil ?_
  | with_reducible refine ppw_cons ?_
  | with_reducible refine sw_dput (by assumption) ?_
  | with_reducible refine ew_cb ?_
  | with_reducible refine ew_if ?_
  | with_reducible refine ew_slL (by assumption) ?_
  | with_reducible refine ow_some ?_
  | with_reducible refine ow_none ?_
  | with_reducible refine aw_nil ?_
  | with_reducible refine aw_cons ?_
  | with_reducible refine rw_I0 ?_
  | ((with_reducible refine rw_I ?obc ?_); (case obc => walk_at "ob_side"))
  | with_reducible refine rw_isN ?_
  | with_reducible refine rw_notN ?_
  | ((with_reducible refine rw_eq ?obc ?_); (case obc => exact rfl))
  | ((with_reducible refine rw_ne ?obc ?_); (case obc => exact rfl))
  | with_reducible refine cw_max2 ?_
  | with_reducible refine cw_min2 ?_
  | with_reducible refine tw_test ?_
  | with_reducible refine tw_B ?_
  | with_reducible refine tw_not ?_
  | with_reducible refine tw_truB ?_
  | with_reducible refine tw_and ?_
  | with_reducible refine tw_or ?_
  | with_reducible refine ew_and ?_
  | (refine' Exists.intro _ (And.intro (show V.bl _ = V.bl _ from rfl) ?_))
  | (refine' Exists.intro _ (And.intro (show V.int _ = V.int _ from rfl) ?_))
  | ((with_reducible refine' rw_ixL (v := ?_) (xs := ?_) (by assumption) ?obl ?oba ?_); (case obl => walk_at "ob_sq"); (case oba => first | exact rfl | exact at_zero))
  | ((with_reducible refine' rw_ixT (v := ?_) (xs := ?_) (by assumption) ?obl ?oba ?_); (case obl => walk_at "ob_sq"); (case oba => first | exact rfl | exact at_zero))
  | ((with_reducible refine' ew_lst (by assumption) ?_))
  | ((with_reducible refine' ew_tup (by assumption) ?_)))
local macro_rules | `(tactic| walk_at "ob_len") => `(tactic| first | exact Nat.le_of_ble_eq_true rfl | (simp; done) | omega)
local macro_rules | `(tactic| walk_at "ob") => `(tactic| repeat walk_at "ob1")

/-! ### Run -/
def aPutIn (sh : Bool) (K : PySem.W.Frag) (C : Addr) : List V → Hp → VK → Prop := fun vs F R => ∃ (A : RAd) (t : LSt) (w : Wld) (r : Rgt) (p anew : Bool) (z : Int), vs = [.ref A.a, .int z] ∧ A.C = C ∧ F A.a = some (.ins A.C A.dx (rfsS sh A t w r p anew)) ∧
  R .non (upd F A.a (.ins A.C A.dx (rfsS sh A { t with level := minI w.cap (t.level + z) } w r p anew)))
/-- the reference of the machine of this number -/
def refOf (A : RAd) (k : Int) : V := match A.mads[k.toNat]? with
  | some ad => .ref ad.a
  | none => .non
def aWaitingR (sh : Bool) (K : PySem.W.Frag) (C M : Addr) : List V → Hp → VK → Prop := fun vs F R => ∃ (F0 : Hp) (A : RAd) (t : LSt) (w : Wld) (r : Rgt) (p anew : Bool) (ex : List (Addr × HO)), vs = [.ref A.a] ∧ A.C = C ∧ A.M = M ∧ SAt sh K F0 F A t w r p anew ex ∧ LOk w t ∧ w.ms.length ≤ 5 ∧
  ∀ (q : Addr) (F' : Hp), Ex F F' → F q = none → F' q = some (.lst ((lClaims w t w.ms.length).map fun c => refOf A c.k)) → R (.ref q) F'
/-- whose step is over at the beat, rising -/
def overs (t : LSt) : Nat → List Int
  | 0 => []
  | n + 1 => overs t n ++ (match t.ms[n]? with | some m => if m.over = t.beat then [(n : Int)] else [] | none => [])
theorem overs_len {t : LSt} : ∀ n : Nat, (overs t n).length ≤ n
  | 0 => Nat.le_refl _
  | n + 1 => by
    have := overs_len (t := t) n
    rw [overs, List.length_append]
    split
    · split
      · simp; omega
      · simp; omega
    · simp; omega
def aEndSteps (sh : Bool) (K : PySem.W.Frag) (C M : Addr) : List V → Hp → VK → Prop := fun vs F R => ∃ (F0 : Hp) (A : RAd) (t : LSt) (w : Wld) (r : Rgt) (p anew : Bool) (ex : List (Addr × HO)), vs = [.ref A.a] ∧ A.C = C ∧ A.M = M ∧ SAt sh K F0 F A t w r p anew ex ∧ LOk w t ∧ w.ms.length ≤ 5 ∧
  ∀ (q : Addr) (F' : Hp), SAt sh K F0 F' A (lEnds w anew t w.ms.length) w r p anew ((q, .lst ((overs t w.ms.length).map V.int)) :: ex) → R (.ref q) F'
section
variable {sh : Bool} {K : PySem.W.Frag} {F0 F : Hp} {A : RAd} {t : LSt} {w : Wld} {r : Rgt} {p anew : Bool} {ex : List (Addr × HO)}
theorem SAt.mobj (h : SAt sh K F0 F A t w r p anew ex) {k : Nat} {ad : MAd} {m : Mac} {ss : List Stp} (h1 : A.mads[k]? = some ad) (h2 : t.ms[k]? = some m) (h3 : w.ms[k]? = some ss) : MObj K F0 F ad.a A.M ad.dx k ad.sv ss m := ⟨h.mac h1 h2, h.own.ex, h.st k ad ss h1 h3, fun z => h.pz k ad m ss h1 h2 h3 z⟩
theorem SAt.three (h : SAt sh K F0 F A t w r p anew ex) {k : Nat} (hk : k < w.ms.length) : ∃ ad m ss, A.mads[k]? = some ad ∧ t.ms[k]? = some m ∧ w.ms[k]? = some ss :=
  ⟨_, _, _, List.getElem?_eq_getElem (by rw [h.len1]; exact hk), List.getElem?_eq_getElem (by rw [h.len2]; exact hk), List.getElem?_eq_getElem hk⟩
end
theorem claim_iff {w : Wld} {t : LSt} {k : Nat} {m : Mac} {ss : List Stp} (ho : LOk w t) (hm : t.ms[k]? = some m) (hs : w.ms[k]? = some ss) :
    (m.over < 0 ∧ m.at_ ≠ (ss.length : Int) → ∃ st, ss[m.at_.toNat]? = some st ∧ lClaim w t k = [⟨k, st.draw, m.since⟩]) ∧ (¬ (m.over < 0 ∧ m.at_ ≠ (ss.length : Int)) → lClaim w t k = []) := by
  have h := ho.m k m ss hm hs
  have e : (m.over < 0 ∧ m.at_ ≠ (ss.length : Int)) ↔ (m.over < 0 ∧ m.at_ < (ss.length : Int)) := by
    have := h.a1
    constructor
    · rintro ⟨h1, h2⟩; exact ⟨h1, by omega⟩
    · rintro ⟨h1, h2⟩; exact ⟨h1, by omega⟩
  constructor
  · intro hc
    have hc2 := e.mp hc
    have hl : m.at_.toNat < ss.length := by have := h.a0; omega
    refine ⟨_, List.getElem?_eq_getElem hl, ?_⟩
    unfold lClaim
    rw [hm, hs]
    simp only []
    rw [if_pos hc2, List.getElem?_eq_getElem hl]
  · intro hc
    unfold lClaim
    rw [hm, hs]
    simp only []
    rw [if_neg (fun z => hc (e.mpr z))]
section
variable {sh : Bool} {P : Program} {w : World} {K : PySem.W.Frag} {mg : Str → Option Value} {base : Heap} {C M : Addr}

abbrev s_Shop__dot__put_in : Stmt := inClass (top 35) 4
def N_Shop_put_in : List Str := ["self", "many"]
theorem sc_Shop_put_in : FnScope N_Shop_put_in ["self", "many"] (defScope s_Shop__dot__put_in) := ⟨rfl, rfl, rfl, by decide +kernel, rfl, by decide +kernel, by decide +kernel⟩
theorem ok_Shop_put_in {f : Addr} {fd : FuncData}  (Fn : Fun K "put_in" "Shop.put_in" s_Shop__dot__put_in f fd) (B : Blt mg) (HR : ClsF K C rkeys) : FnOk P w K mg base CX0 1 f fd ["self", "many"] (LS (aPutIn sh K C)) := by
  refine Fn.ok sc_Shop_put_in (fun vs H Q E h => ?_) (fun cdv A outer s H vs Q E hr h => ?_)
  · obtain ⟨J, F, R, hd, j, h, _⟩ := h
    obtain ⟨A, t, w, r, p, anew, z, rfl, _⟩ := h
    rfl
  · have nd := sc_Shop_put_in.nd
    obtain ⟨J, F, R, hd, j, h, q⟩ := h
    obtain ⟨A, t, w, r, p, anew, z, rfl, rfl, hF, k⟩ := h
    refine ⟨_, (pss_one (ps_fld (pv 0) (pe_callB (call_min2 rfl) (by rfl) B.min (by decide +kernel) (pa_cons (pe_fld (pv 0) rfl) (pa_cons (pe_op op_add (pe_fld (pv 0) rfl) (pv 1)) pa_nil))) rfl)), ?_⟩
    refine LS.body j q ?_
    refine sw_fld hd ?_
    walk_at "ob"
    refine ew_fld hd ?_
    walk_at "ob"
    refine ⟨A.a, A.C, A.dx, _, _, rfl, hF, HR.cl, HR.no _ (by decide +kernel), lookup_nd (i := 0) (rfs_nd A t w r p anew) rfl, ?_⟩
    walk_at "ob"
    refine ew_fld hd ?_
    walk_at "ob"
    refine ⟨A.a, A.C, A.dx, _, _, rfl, hF, HR.cl, HR.no _ (by decide +kernel), lookup_nd (i := 1) (rfs_nd A t w r p anew) rfl, ?_⟩
    walk_at "ob"
    refine ⟨A.a, A.C, A.dx, _, rfl, hF, HR.cl, HR.no _ (by decide +kernel), rfs_lt, ?_⟩
    rw [putF_nd (i := 1) (rfs_nd A t w r p anew) rfl]
    exact k

abbrev s_Shop__dot__waiting : Stmt := inClass (top 35) 7
def N_Shop_waiting : List Str := ["self", "machine"]
theorem sc_Shop_waiting : FnScope N_Shop_waiting ["self"] (defScope s_Shop__dot__waiting) := ⟨rfl, rfl, rfl, by decide +kernel, rfl, by decide +kernel, by decide +kernel⟩
theorem ok_Shop_waiting {f : Addr} {fd : FuncData} {f1 : Addr} {fd1 : FuncData} (Fn : Fun K "waiting" "Shop.waiting" s_Shop__dot__waiting f fd) (B : Blt mg) (HR : ClsF K C rkeys) (M_is_waiting : Met K M "is_waiting" f1 fd1 ["self"]) (G_is_waiting : FnOk P w K mg base CX0 2 f1 fd1 ["self"] (LS (aWaiting K M))) : FnOk P w K mg base CX0 3 f fd ["self"] (LS (aWaitingR sh K C M)) := by
  refine Fn.ok sc_Shop_waiting (fun vs H Q E h => ?_) (fun cdv A outer s H vs Q E hr h => ?_)
  · obtain ⟨J, F, R, hd, j, h, _⟩ := h
    obtain ⟨F0, A, t, w, r, p, anew, ex, rfl, _⟩ := h
    rfl
  · have nd := sc_Shop_waiting.nd
    obtain ⟨J, F, R, hd, j, h, q⟩ := h
    obtain ⟨F0, A, t, w, r, p, anew, ex, rfl, rfl, rfl, hG, hok, hm5, k⟩ := h
    refine ⟨_, (pss_one (ps_ret (pe_lc (own := [("machine", 1)]) (te := (tVar 1)) (tt := (tB (tMeth _ "is_waiting" (LS (aWaiting K _)) [] E0 (tVar 1) tNil))) (by rfl) nd (pi_list (pe_fld (pv 0) rfl)) (blkOk_by (own := [("machine", 1)]) (N := N_Shop_waiting) (sc := defScope s_Shop__dot__waiting) (by decide +kernel)) (fun _ _ _ _ _ => (pg_name (i := 1) nd rfl (Or.inl rfl))) (fun _ _ _ _ _ => pts_one (pt_val (pe_meth0 (pv 1) M_is_waiting.cl M_is_waiting.m G_is_waiting (by exact hr.mono (by decide)) M_is_waiting.a .nil pass0))) (fun _ _ _ _ _ => (pv 1))))), ?_⟩
    refine LS.body j q ?_
    walk_at "ob"
    refine ew_lcL hd ?_
    walk_at "ob"
    refine ew_fld hd ?_
    walk_at "ob"
    refine ⟨A.a, A.C, A.dx, _, _, rfl, hG.cell, HR.cl, HR.no _ (by decide +kernel), lookup_nd (i := 5) (rfs_nd _ _ _ _ _ _) rfl, ?_⟩
    have hml : F A.ml = some (.lst (A.mads.map fun ad => .ref ad.a)) := hG.own.ex _ _ hG.ml
    refine ⟨A.ml, _, rfl, SqL.of hml, by rw [List.length_map, hG.len1]; omega, fun Dl hDl => ?_⟩
    refine ⟨fun i acc _ G => G = F ∧ acc = (lClaims w t i).map (fun c => refOf A c.k), ⟨rfl, rfl⟩, ?_, ?_, ?_⟩
    · rintro i acc _ G hi hg ⟨rfl, rfl⟩
      refine ⟨SqL.of hml, ?_⟩
      rw [List.length_map]
      exact lClaims_len i
    · rintro i acc x _ G hi hg ⟨rfl, rfl⟩
      have hd' := hd.jd (D := Dl) (acc := (lClaims w t i).map (fun c => refOf A c.k))
      have hil : i < w.ms.length := by
        have := (List.getElem?_eq_some_iff.mp hi).1
        rw [List.length_map, hG.len1] at this
        exact this
      obtain ⟨ad, m, ss, h1, h2, h3⟩ := hG.three hil
      have ex1 : x = .ref ad.a := by
        rw [List.getElem?_map, h1] at hi
        exact (Option.some.inj hi).symm
      subst ex1
      have hc := claim_iff hok h2 h3
      refine gw_name ⟨rfl, ?_⟩
      refine tw_B (ew_meth hd' ?_)
      walk_at "ob"
      refine ⟨ad.a, ad.dx, _, rfl, hG.mac h1 h2, mfs_no (by decide +kernel), aw_nil ⟨F0, ad.a, ad.dx, i, ad.sv, ss, m, rfl, hG.mobj h1 h2 h3, ?_⟩⟩
      walk_at "ob"
      refine ⟨fun hb => ?_, fun hb => ?_⟩
      · obtain ⟨st, hst, e⟩ := hc.1 (of_decide_eq_true hb)
        walk_at "ob"
        refine ⟨rfl, ?_⟩
        rw [lClaims, e, List.map_append]
        show _ ++ [V.ref ad.a] = _ ++ [refOf A (i : Int)]
        unfold refOf
        rw [Int.toNat_natCast, h1]
      · have e := hc.2 (of_decide_eq_false hb)
        refine ⟨rfl, ?_⟩
        rw [lClaims, e, List.append_nil]
    · rintro acc _ G hg ⟨rfl, rfl⟩
      rw [List.length_map, hG.len1]
      exact k Dl _ (Ex.new (.refl _) hg) hg upd_same

abbrev s_Shop__dot__end_steps : Stmt := inClass (top 35) 3
def N_Shop_end_steps : List Str := ["self", "over", "machine"]
theorem sc_Shop_end_steps : FnScope N_Shop_end_steps ["self"] (defScope s_Shop__dot__end_steps) := ⟨rfl, rfl, rfl, by decide +kernel, rfl, by decide +kernel, by decide +kernel⟩
theorem ok_Shop_end_steps {f : Addr} {fd : FuncData} {f1 f2 f3 f4 : Addr} {fd1 fd2 fd3 fd4 : FuncData} (Fn : Fun K "end_steps" "Shop.end_steps" s_Shop__dot__end_steps f fd) (B : Blt mg) (HR : ClsF K C rkeys) (HM : ClsF K M mkeys) (M_put_in : Met K C "put_in" f1 fd1 ["self", "many"]) (G_put_in : FnOk P w K mg base CX0 1 f1 fd1 ["self", "many"] (LS (aPutIn sh K C))) (M_end_step : Met K M "end_step" f2 fd2 ["self", "beat"]) (G_end_step : FnOk P w K mg base CX0 1 f2 fd2 ["self", "beat"] (LS (aEndS K M))) (M_is_done : Met K M "is_done" f3 fd3 ["self"]) (G_is_done : FnOk P w K mg base CX0 1 f3 fd3 ["self"] (LS (aDone K M))) (M_begin_anew : Met K M "begin_anew" f4 fd4 ["self"]) (G_begin_anew : FnOk P w K mg base CX0 1 f4 fd4 ["self"] (LS (aAnew K M))) : FnOk P w K mg base CX0 2 f fd ["self"] (LS (aEndSteps sh K C M)) := by
  refine Fn.ok sc_Shop_end_steps (fun vs H Q E h => ?_) (fun cdv A outer s H vs Q E hr h => ?_)
  · obtain ⟨J, F, R, hd, j, h, _⟩ := h
    obtain ⟨F0, A, t, w, r, p, anew, ex, rfl, _⟩ := h
    rfl
  · have nd := sc_Shop_end_steps.nd
    obtain ⟨J, F, R, hd, j, h, q⟩ := h
    obtain ⟨F0, A, t, w, r, p, anew, ex, rfl, rfl, rfl, hG, hok, hm5, k⟩ := h
    refine ⟨_, (pss_cons (ps_set (i := 1) nd rfl (Or.inl rfl) (pe_lst pa_nil))
      (pss_cons (ps_for PassesOwn.never rfl (pi_list (pe_fld (pv 0) rfl)) (pg_name (i := 2) nd rfl (Or.inl rfl)) (pss_one (ps_if (pt_cmpR op_eq (pe_fld (pv 2) rfl) (pe_fld (pv 0) rfl) (nomark _)) (pss_cons (ps_expr (pe_meth (pv 0) M_put_in.cl M_put_in.m G_put_in (by exact hr.mono (by decide)) M_put_in.a .nil pass0 (pa_cons (pe_meth (pv 2) M_end_step.cl M_end_step.m G_end_step (by exact hr.mono (by decide)) M_end_step.a .nil pass0 (pa_cons (pe_fld (pv 0) rfl) pa_nil)) pa_nil)))
      (pss_cons (ps_expr (pe_bm PySem.F.plainAttrs_list PySem.F.slot_list_append PySem.F.type_list_append mt_append (pv 1) (pa_cons (pe_fld (pv 2) rfl) pa_nil)))
      (pss_one (ps_if (PW.pt (pw_and (pt_truth (pe_fld (pv 0) rfl) (by intro _; rfl)) (pw_and1 (pt_val (pe_meth0 (pv 2) M_is_done.cl M_is_done.m G_is_done (by exact hr.mono (by decide)) M_is_done.a .nil pass0))))) (pss_one (ps_expr (pe_meth0 (pv 2) M_begin_anew.cl M_begin_anew.m G_begin_anew (by exact hr.mono (by decide)) M_begin_anew.a .nil pass0))) pss_nil)))) pss_nil)))
      (pss_one (ps_ret (pv 1))))), ?_⟩
    refine LS.body j q ?_
    walk_at "ob"
    refine ⟨by walk_at "ob_len", fun ov hov => ?_⟩
    have g0 := hG.more (o := .lst []) hov
    walk_at "ob"
    refine sw_forL hd ?_
    refine ew_fld hd ?_
    walk_at "ob"
    refine ⟨A.a, A.C, A.dx, _, _, rfl, g0.cell, HR.cl, HR.no _ (by decide +kernel), lookup_nd (i := 5) (rfs_nd _ _ _ _ _ _) rfl, ?_⟩
    have hmlF : ∀ (G : Hp) (t' : LSt) (ex' : List (Addr × HO)), SAt sh K F0 G A t' w r p anew ex' → G A.ml = some (.lst (A.mads.map fun ad => .ref ad.a)) := fun G t' ex' h => h.own.ex _ _ h.ml
    refine ⟨A.ml, _, fun i σ _ G => ∃ (x2 : Option V) (vs : List V), σ = [some (.ref A.a), some (.ref ov), x2] ∧ SAt sh K F0 G A (lEnds w anew t i) w r p anew ((ov, .lst vs) :: ex) ∧ vs = (overs t i).map V.int, rfl, SqL.of (hmlF _ _ _ g0), ⟨none, [], rfl, g0, rfl⟩, ?_, ?_, ?_⟩
    · rintro i σ _ G hi ⟨x2, vs, rfl, hX, _⟩
      exact SqL.of (hmlF _ _ _ hX)
    · rintro i x σ _ G hi ⟨x2, vs, rfl, hX, hvl⟩
      have hil : i < w.ms.length := by
        have := (List.getElem?_eq_some_iff.mp hi).1
        rw [List.length_map, hG.len1] at this
        exact this
      have hoki := lEnds_ok (anew := anew) hok i
      obtain ⟨ad, m, ss, h1, h2, h3⟩ := hX.three hil
      have ex1 : x = .ref ad.a := by
        rw [List.getElem?_map, h1] at hi
        exact (Option.some.inj hi).symm
      subst ex1
      have hmo := hoki.m i m ss h2 h3
      have hti : t.ms[i]? = some m := by rw [lEnds_ms (by omega) h3, if_neg (by omega)] at h2; exact h2
      have hlen : vs.length ≤ i := by rw [hvl, List.length_map]; exact overs_len _
      have fin : ∀ (T : LSt) (G' : Hp) (vs' : List V), SAt sh K F0 G' A T w r p anew ((ov, .lst vs') :: ex) → ((lEnd w anew (lEnds w anew t i) i).ms.map mcore = T.ms.map mcore ∧ (lEnd w anew (lEnds w anew t i) i).level = T.level ∧ (lEnd w anew (lEnds w anew t i) i).last = T.last ∧ (lEnd w anew (lEnds w anew t i) i).beat = T.beat) → vs' = (overs t (i + 1)).map V.int → ∃ (x2 : Option V) (vs : List V), ([some (.ref A.a), some (.ref ov), some (.ref ad.a)] : L2.St) = [some (.ref A.a), some (.ref ov), x2] ∧ SAt sh K F0 G' A (lEnds w anew t (i + 1)) w r p anew ((ov, .lst vs) :: ex) ∧ vs = (overs t (i + 1)).map V.int :=
        fun T G' vs' h e hl => ⟨_, vs', rfl, by rw [lEnds]; exact h.same e.1 e.2.1 e.2.2.1 e.2.2.2, hl⟩
      walk_at "ob"
      refine ew_fld hd ?_
      walk_at "ob"
      refine ⟨ad.a, A.M, ad.dx, _, _, rfl, hX.mac h1 h2, HM.cl, HM.no _ (by decide +kernel), lookup_nd (i := 3) (mfs_nd _ _ _) rfl, ?_⟩
      walk_at "ob"
      refine ew_fld hd ?_
      walk_at "ob"
      refine ⟨A.a, A.C, A.dx, _, _, rfl, hX.cell, HR.cl, HR.no _ (by decide +kernel), lookup_nd (i := 4) (rfs_nd _ _ _ _ _ _) rfl, ?_⟩
      refine rw_eq (by unfold ovV; split <;> rfl) ?_
      walk_at "ob"
      have hb0 := hoki.b
      have edec : decide (ovV m.over = V.int (lEnds w anew t i).beat) = decide (m.over = (lEnds w anew t i).beat) := by
        unfold ovV
        by_cases c : m.over < 0
        · rw [if_pos c, decide_eq_false (by omega : ¬ m.over = _)]
          exact decide_eq_false (fun e => by cases e)
        · rw [if_neg c, dec_vint]
      rw [edec]
      refine ⟨fun hb => ?_, fun hb => ?_⟩
      · have hov2 := of_decide_eq_true hb
        have hlt2 := hmo.o (by rw [hov2]; exact hb0)
        obtain ⟨st, hst⟩ : ∃ st, ss[m.at_.toNat]? = some st := ⟨_, List.getElem?_eq_getElem (by have := hmo.a0; omega)⟩
        walk_at "ob"
        refine ew_meth hd ?_
        walk_at "ob"
        refine ⟨A.a, A.dx, _, rfl, hX.cell, rfs_no (by decide +kernel), ?_⟩
        walk_at "ob"
        refine ew_meth hd ?_
        walk_at "ob"
        refine ⟨ad.a, ad.dx, _, rfl, hX.mac h1 h2, mfs_no (by decide +kernel), ?_⟩
        walk_at "ob"
        refine ew_fld hd ?_
        walk_at "ob"
        refine ⟨A.a, A.C, A.dx, _, _, rfl, hX.cell, HR.cl, HR.no _ (by decide +kernel), lookup_nd (i := 4) (rfs_nd _ _ _ _ _ _) rfl, ?_⟩
        walk_at "ob"
        refine ⟨F0, ad.a, ad.dx, i, ad.sv, ss, m, st, _, rfl, hX.mobj h1 h2 h3, hmo.a0, hst, ?_⟩
        have hX1 := hX.mput h1 h2 (m' := { m with at_ := m.at_ + 1, over := -1, since := (lEnds w anew t i).beat }) (t' := { lEnds w anew t i with ms := (lEnds w anew t i).ms.set i { m with at_ := m.at_ + 1, over := -1, since := (lEnds w anew t i).beat } }) rfl rfl (fun ss' e z => by
          rw [h3] at e
          cases e
          rcases hX.pz i ad m ss h1 h2 h3 z with q | q
          · omega
          · exact Or.inl ⟨by show (-1 : Int) < 0; decide, q.2⟩)
        walk_at "ob"
        refine ⟨A, _, w, r, p, anew, st.back, rfl, rfl, hX1.cell, ?_⟩
        have hX2 := hX1.put (t' := { lEnds w anew t i with level := minI w.cap ((lEnds w anew t i).level + st.back), ms := (lEnds w anew t i).ms.set i { m with at_ := m.at_ + 1, over := -1, since := (lEnds w anew t i).beat } }) rfl
        have hkl : i < (lEnds w anew t i).ms.length := (List.getElem?_eq_some_iff.mp h2).1
        have h2' : ((lEnds w anew t i).ms.set i { m with at_ := m.at_ + 1, over := -1, since := (lEnds w anew t i).beat })[i]? = some { m with at_ := m.at_ + 1, over := -1, since := (lEnds w anew t i).beat } := by rw [List.getElem?_set_self hkl]
        walk_at "ob"
        refine ew_bmL hd ?_
        walk_at "ob"
        refine ⟨ov, vs, rfl, SqL.of hX2.ex0, ?_⟩
        walk_at "ob"
        refine ew_fld hd ?_
        walk_at "ob"
        refine ⟨ad.a, A.M, ad.dx, _, _, rfl, hX2.mac h1 h2', HM.cl, HM.no _ (by decide +kernel), lookup_nd (i := 0) (mfs_nd _ _ _) rfl, ?_⟩
        walk_at "ob"
        refine mw_append hd hX2.ex0 (by omega) ?_
        have hX3 := hX2.exset (o' := .lst (vs ++ [.int (i : Int)]))
        have hvl2 : vs ++ [V.int (i : Int)] = (overs t (i + 1)).map V.int := by rw [overs, hti, hvl, List.map_append]; simp only []; rw [if_pos (by rw [hov2, lEnds_beat])]; rfl
        refine sw_if (tw_and (tw_truB ?_))
        refine ew_fld hd ?_
        walk_at "ob"
        refine ⟨A.a, A.C, A.dx, _, _, rfl, hX3.cell, HR.cl, HR.no _ (by decide +kernel), lookup_nd (i := 3) (rfs_nd _ _ _ _ _ _) rfl, ?_⟩
        have hno : ¬ (anew = true ∧ m.at_ + 1 = (ss.length : Int)) → (lEnd w anew (lEnds w anew t i) i).ms.map mcore = ((lEnds w anew t i).ms.set i { m with at_ := m.at_ + 1, over := -1, since := (lEnds w anew t i).beat }).map mcore ∧ (lEnd w anew (lEnds w anew t i) i).level = minI w.cap ((lEnds w anew t i).level + st.back) ∧ (lEnd w anew (lEnds w anew t i) i).last = (lEnds w anew t i).last ∧ (lEnd w anew (lEnds w anew t i) i).beat = (lEnds w anew t i).beat := fun hn => by
          unfold lEnd
          rw [h2, h3]
          simp only [hst]
          rw [if_pos hov2]
          by_cases c : m.at_ + 1 = (ss.length : Int)
          · have ea : anew = false := by cases anew with | false => rfl | true => exact absurd ⟨rfl, c⟩ hn
            rw [if_pos c, ea]
            refine ⟨?_, rfl, rfl, rfl⟩
            simp only [List.map_set]
            rfl
          · rw [if_neg c]
            refine ⟨?_, rfl, rfl, rfl⟩
            simp only [List.map_set]
            rfl
        refine ⟨_, rfl, fun ha => ?_, fun ha => ?_⟩
        · refine tw_B (ew_meth hd ?_)
          walk_at "ob"
          refine ⟨ad.a, ad.dx, _, rfl, hX3.mac h1 h2', mfs_no (by decide +kernel), aw_nil ⟨F0, ad.a, ad.dx, i, ad.sv, ss, _, rfl, hX3.mobj h1 h2' h3, ?_⟩⟩
          walk_at "ob"
          have hzf : ad.sv.pz = false := hX.np (hX.na ha) ad (List.mem_of_getElem? h1)
          rw [← (hX.st i ad ss h1 h3).all hzf]
          refine ⟨fun hc => ?_, fun hc => ?_⟩
          · have hc2 : m.at_ + 1 = (ss.length : Int) := of_decide_eq_true hc
            walk_at "ob"
            refine ew_meth hd ?_
            walk_at "ob"
            refine ⟨ad.a, ad.dx, _, rfl, hX3.mac h1 h2', mfs_no (by decide +kernel), aw_nil ⟨F0, ad.a, ad.dx, i, ad.sv, ss, _, rfl, hX3.mobj h1 h2' h3, ?_⟩⟩
            have hX4 := hX3.mput h1 h2' (m' := { m with at_ := 0, over := -1, since := (lEnds w anew t i).beat }) (t' := { lEnds w anew t i with level := minI w.cap ((lEnds w anew t i).level + st.back), ms := ((lEnds w anew t i).ms.set i { m with at_ := m.at_ + 1, over := -1, since := (lEnds w anew t i).beat }).set i { m with at_ := 0, over := -1, since := (lEnds w anew t i).beat } }) rfl rfl (fun ss' e z => by rw [hzf] at z; cases z)
            refine fin _ _ _ hX4 ?_ hvl2
            unfold lEnd
            rw [h2, h3]
            simp only [hst]
            rw [if_pos hov2, if_pos hc2, List.set_set]
            refine ⟨?_, rfl, rfl, rfl⟩
            simp only [List.map_set]
            rw [ha]
            rfl
          · walk_at "ob"
            exact fin _ _ _ hX3 (hno fun z => of_decide_eq_false hc z.2) hvl2
        · refine ⟨(fun z => by cases z), fun _ => ?_⟩
          walk_at "ob"
          exact fin _ _ _ hX3 (hno fun z => by rw [ha] at z; cases z.1) hvl2
      · have hov2 := of_decide_eq_false hb
        walk_at "ob"
        have e : lEnd w anew (lEnds w anew t i) i = lEnds w anew t i := by
          unfold lEnd
          rw [h2, h3]
          simp only []
          rw [if_neg hov2]
        exact fin _ _ vs hX (by rw [e]; exact ⟨rfl, rfl, rfl, rfl⟩) (by rw [overs, hti, hvl]; simp only []; rw [if_neg (by rw [lEnds_beat] at hov2; exact hov2), List.append_nil])
    · rintro σ _ G ⟨x2, vs, rfl, hX, hvl⟩
      rw [List.length_map, hG.len1] at hX hvl
      subst hvl
      walk_at "ob"
      exact k ov _ hX
end
end Obr
/-! ### a target that is a field; enumerate of a tuple -/
namespace Obr
open PySem L2 PySem.Spec PyProof.Rows
section
variable {X : Cx} {pos : Pos}
def gFld (K : PySem.W.Frag) (ta : TE) (f : Str) : TG := fun v σ H Q => ta σ H fun x H1 => ∃ a C dx fs, x = .ref a ∧ H1 a = some (.ins C dx fs) ∧ Cls K C ∧ NoAttr K C f ∧ fs.length < 1000 ∧ Q σ (upd H1 a (.ins C dx (putF f v fs)))
theorem pg_fld {o : Expr} {f : Str} {ta : TE} (ho : PE X o ta) : PG X (.Attribute o f pos) (gFld X.K ta f) := by
  refine ⟨fun pins s σ H v u Q I r h => ?_⟩
  rw [PySem.assign_Attribute]
  refine wpAny_bind (wpAny_holding (thn (ho.run pins s σ H _ I h) fun ov s1 ⟨x, H1, I1, rx, a, C, dx, fs, ex, ea, c, n, l, q⟩ => ?_))
  subst ex
  obtain rfl : ov = Value.ref a := rx
  refine wpAny_bind (wpAny_standAt (wpAny_bind (wpAny_holding ?_)))
  refine setattr_ok I1 ea c n l r fun s3 I3 => ?_
  exact wpAny_release ⟨σ, _, I3, q⟩
end
section
variable {S : Type} {J : S → Hp → Hp → Prop} {K : PySem.W.Frag} {σ : L2.St} {s : S} {F : Hp} {ta : TE} {x : V} {f : Str} {N : L2.St → S → Hp → Prop}
theorem gw_fld (hd : Hid J) (h : EW J ta σ s F fun o s1 F1 => ∃ a C dx fs, o = .ref a ∧ F1 a = some (.ins C dx fs) ∧ Cls K C ∧ NoAttr K C f ∧ fs.length < 1000 ∧ N σ s1 (upd F1 a (.ins C dx (putF f x fs)))) : GW J (gFld K ta f) x σ s F N := fun H j Q q =>
  h H j _ fun o s1 F1 H1 j1 ⟨a, C, dx, fs, e, hf, c, n, l, k⟩ => ⟨a, C, dx, fs, e, hd.ex j1 _ _ hf, c, n, l, q _ _ _ _ (hd.mu j1 hf) k⟩
end
end Obr
namespace PySem
open Sem (wp)
set_option maxHeartbeats 4000000 in
theorem meets_enumerate_newB1 {v : Value} {o : Obj} {H : Heap → Prop} (B : Begins v o H) :
    Meets (Builtin.«enumerate.__new__» ⟨[.type "enumerate", v], []⟩) (fun _ R s => H s.heap ∧
      R (.ok (.ret (.ref (s.heap.push o).objs.size))) { s with heap := (s.heap.push o).push { cls := .type "enumerate", data := .fields #[.none, .bool false, .ref s.heap.objs.size, rawInt 0, .none, .none] } }) :=
  .of_wp fun prog w A R s h => by
    obtain ⟨hp, g, d, tk, os⟩ := s; obtain ⟨h1, h⟩ := h
    have hsub := sub_enumerate
    have q1 : ∀ {A' : Around} {E : Value → Shared → Prop} {Q : Value → Shared → Prop}, Q (.ref hp.objs.size) ⟨hp.push o, g, d, tk, os⟩ → wpAny (model prog w) A' (pyIter v) Q E ⟨hp, g, d, tk, os⟩ :=
      fun q => B.iter prog w _ _ ⟨hp, g, d, tk, os⟩ _ h1 q
    wp_walk using q1
    refine wpAny_stack_any fun st => wpAny_pure ?_
    split
    · rename_i c _ _ _ _ _
      cases (c == Value.type "enumerate")
      · wp_walk using q1
        exact ⟨_, rfl, h⟩
      · wp_walk using q1
        exact ⟨_, rfl, h⟩
    · wp_walk using q1
      exact ⟨_, rfl, h⟩
section
variable {prog : Program} {w : World} {A : Around} {E : Value → Shared → Prop} {s : Shared}
theorem enum_begins1 {v : Value} {o : Obj} {H : Heap → Prop} {Q : Value → Shared → Prop} (B : Begins v o H) (h1 : H s.heap)
    (h : ∀ h', IsEnum h' (s.heap.objs.size + 1) s.heap.objs.size 0 .none → h'.get? s.heap.objs.size = some o → h'.objs.size = s.heap.objs.size + 2 →
      (∀ b o, s.heap.get? b = some o → h'.get? b = some o) → Q (.ref (s.heap.objs.size + 1)) { s with heap := h' }) :
    wpAny (model prog w) A (call (.type "enumerate") [v]) Q E s := by
  refine callType_new F.called_enumerate (by decide) (F.typeCall_enumerate_1 _) (F.newCall_enumerate_1 _) (fun obj => F.args_object_init_2 obj _) F.entry_enumerate_new
    (meets_enumerate_newB1 B) ⟨h1, ?_⟩
  have hz : (s.heap.push o).objs.size = s.heap.objs.size + 1 := Heap.size_push ..
  show _ ∧ _
  rw [hz]
  have he : IsEnum ((s.heap.push o).push { cls := .type "enumerate", data := .fields #[.none, .bool false, .ref s.heap.objs.size, rawInt 0, .none, .none] }) (s.heap.objs.size + 1) s.heap.objs.size 0 .none := by
    have := Heap.get?_push_size (s.heap.push o) (o := { cls := .type "enumerate", data := .fields #[.none, .bool false, .ref s.heap.objs.size, rawInt 0, .none, .none] }) rfl
    rw [hz] at this; exact this
  refine ⟨⟨_, he, rfl⟩, h _ he (Heap.get?_push_of_some _ (Heap.get?_push_size _ B.free)) (by rw [Heap.size_push, hz]) fun b o x => Heap.get?_push_of_some _ (Heap.get?_push_of_some _ x)⟩
end
end PySem
namespace Obr
open PySem L2 PySem.Spec PyProof.Rows
/-- the tuple at a, each item in a new pair -/
def IteT (K : PySem.W.Frag) (a : Addr) : It :=
  ⟨fun i H => ∃ (xs : List V) (x : V), SqT K H a xs ∧ xs[i]? = some x, fun i H v H' => ∃ T x, v = .ref T ∧ H T = none ∧ H' = upd H T (.tup [.int (i : Nat), x]) ∧ ∀ xs, SqT K H a xs → xs[i]? = some x, fun i H => ∃ xs : List V, SqT K H a xs ∧ xs.length ≤ i⟩
theorem turn_enumT {P : Program} {w : World} {K : PySem.W.Frag} {elts : List Expr} {kk : Nat} {tpos : Pos} (a e it : Addr) :
    Turn P w K (.Tuple elts kk tpos) (IteT K a) [e, it] e (fun i h => (∃ old, IsEnum h e it ((i : Nat) : Int) old) ∧ h.IsTupleIter it a i ∧ e ≠ it) where
  mem := by simp
  obj := fun i h st b hb => by
    obtain ⟨⟨old, he⟩, ⟨o, ho, hc, hd⟩, _⟩ := st
    have e' : b = e ∨ b = it := by simpa using hb
    rcases e' with z | z
    · rw [z]; exact ⟨_, he, fun v q => nomatch q⟩
    · rw [z]; exact ⟨o, ho, fun v q => by rw [hd] at q; cases q⟩
  keep := fun i h h' st k => let ⟨⟨old, he⟩, hi, hne⟩ := st; ⟨⟨old, k e (by simp) _ he⟩, hi.at fun o q => k it (by simp) o q, hne⟩
  item := by
    intro X hP hw hK hc i pins s σ H E I hf st hg
    subst hP hw hK
    obtain ⟨⟨old, he⟩, hit, hne⟩ := st
    obtain ⟨xs, x, hq, hx⟩ := hg
    obtain ⟨its, rv, p, hz⟩ := I.tuple hq
    have p' : s.heap.IsTuple a its.toArray := p
    obtain ⟨u, hu, ru⟩ := rv.get hx
    have hel : e < s.heap.objs.size := Heap.lt_size he
    have hil : it < s.heap.objs.size := by obtain ⟨_, q, _⟩ := hit; exact Heap.lt_size q
    have hai : a ≠ it := fun z => by
      obtain ⟨o1, q1, c1, _⟩ := p'
      obtain ⟨o2, q2, c2, _⟩ := hit
      rw [z, q2] at q1
      cases q1
      rw [c1] at c2
      exact absurd c2 (by decide)
    have hae : e ≠ a := fun z => by
      obtain ⟨o1, q1, c1, _⟩ := p'
      have he' : s.heap.get? e = some _ := he
      rw [z, q1] at he'
      cases he'
      exact absurd (show Value.type "enumerate" = Value.type "tuple" from c1) (by decide)
    have hlt : i < its.toArray.size := by
      have := (List.getElem?_eq_some_iff.mp hu).1
      simpa using this
    refine wpAny_pyNext_enum_itemD (Draws.tuple (A := X.A.in1) (I.ok.hd hc) it a hai its.toArray) he ⟨hit, p'⟩ hlt hne (by simp [hne, hae]) fun v h' tk hv ho hst hT hsz hk => ?_
    have hvu : v = u := by
      have hv' : its[i]? = some v := by simpa using hv
      rw [hu] at hv'
      exact (Option.some.inj hv').symm
    subst hvu
    refine ⟨_, rfl, wpAny_letOwnedTupleGo_enum (s := { s with heap := h', toks := tk + 1 }) ho fun h'' he' sb => ?_⟩
    have hT2 : h''.get? s.heap.objs.size = some { cls := .type "tuple", data := .seq #[.int i tk, v] } := (sb.2 _ (Nat.ne_of_gt hel)).trans hT
    have new : ObjOk X.prog X.w (upd H s.heap.objs.size (.tup [.int (i : Nat), x])) h'' s.heap.objs.size (.tup [.int (i : Nat), x]) :=
      ⟨by show 2 ≤ sizeLine; decide, [.int i tk, v], .cons ⟨_, rfl⟩ (.cons ru .nil), ⟨_, hT2, rfl, _, rfl⟩⟩
    have I1 : Inv X pins σ (upd H s.heap.objs.size (.tup [.int (i : Nat), x])) { s with heap := h'', toks := tk + 1 } :=
      I.turnedNew (ch := [e, it]) (fun b ob hb q => (sb.2 b (fun z => hb (by simp [z]))).trans (hk b ob (fun z => hb (by simp [z])) (fun z => hb (by simp [z])) q)) hf (Nat.le_refl _) new
    refine ⟨.ref s.heap.objs.size, _, I1, rfl, ⟨_, x, rfl, I.hok.fresh (Nat.le_refl _), rfl, fun ys hy => by rw [I.tuple_inj hy hq]; exact hx⟩, ⟨⟨v, ?_⟩, hst.1.at fun o q => (sb.2 it (Ne.symm hne)).trans q, hne⟩, fun b hb => ?_⟩
    · have e1 : ((i + 1 : Nat) : Int) = (i : Int) + 1 := by omega
      rw [e1]; exact he'
    · have hb' : b < s.heap.objs.size := by
        have e' : b = e ∨ b = it := by simpa using hb
        rcases e' with z | z
        · rw [z]; exact hel
        · rw [z]; exact hil
      rw [upd_ne (Nat.ne_of_lt hb')]
      exact (hf b hb).1
  done := by
    intro X hP hw hK hc i pins s σ H E I hf st hg
    subst hP hw hK
    obtain ⟨⟨old, he⟩, hit, hne⟩ := st
    obtain ⟨xs, hq, hx⟩ := hg
    obtain ⟨its, rv, p, hz⟩ := I.tuple hq
    have p' : s.heap.IsTuple a its.toArray := p
    obtain ⟨f0, f1, f2, f3, f4, f5⟩ := hf it (by simp)
    have hl := rv.length
    have hT : s.TypeIs (.ref e) "enumerate" := ⟨_, he, rfl⟩
    unfold pyNext
    refine wpAny_bind (wpAny_attempt (wpAny_callSpecial?_slot (name := Str.ofString "__next__") hT F.slot_enumerate_next
      (wpAny_call_entry F.slot_enumerate_next hT F.entry_enumerate_next ?_ (F.args_enumerate_next_1 _))))
    show wpAny _ _ (field (.ref e) 2 >>= _) _ _ _
    refine wpAny_bind (wpAny_field he rfl (x := .ref it) rfl ?_)
    refine wpAny_bind (wpAny_nextOf_tuple_end (I.ok.hd hc) hit p' (by simp; omega) fun h' x he' hx' => ?_)
    obtain ⟨o, ho, hc'⟩ := hx'
    refine wpAny_bind (wpAny_isInstance (T := "StopIteration") (b := true) ⟨o, ho, hc'⟩ isSubtype_stop ?_)
    exact wpAny_pure ⟨rfl, I.turned (t' := s.toks) (fun b o hb q => he' b o hb q) f0 f1 f3 f4 f5⟩
  self := fun A i s Q E st h => let ⟨⟨_, he⟩, _⟩ := st; wpAny_pyIter_enum he h
def iEnumT (K : PySem.W.Frag) (ta : TA) : TI := fun σ H R => ta σ H fun vs H1 => ∃ a xs, vs = [.ref a] ∧ SqT K H1 a xs ∧ R (IteT K a) H1
theorem pi_enumT {X : Cx} {e : Expr} {ta : TA} {p pos tpos : Pos} {elts : List Expr} {kk : Nat} (hg : Gl X "enumerate") (hm : X.mg "enumerate" = none) (ha : PA X [e] ta) (hs : starEach [e] X.env = [(false, eval e X.env)] := by rfl) :
    PI X (.Tuple elts kk tpos) (.Call (.Name "enumerate" p) [e] [] pos) (iEnumT X.K ta) := by
  refine ⟨fun pins s σ H R I h => ?_⟩
  refine Call_ (ld_blt I hg hm boot_enumerate (PyProof.Rows.callWith_type1 (thn (ha.run pos pins s σ H _ I h) fun us s1 ⟨vs, H1, I1, r1, q1⟩ => ?_) hs rfl))
  obtain ⟨a, xs, ex, hq, q⟩ := q1
  subst ex
  cases r1 with
  | cons r rr =>
    cases rr
    cases r
    obtain ⟨its, rv, p', hz⟩ := I1.tuple hq
    have p'' : s1.heap.IsTuple a its.toArray := p'
    refine enum_begins1 (begins_tuple a its.toArray) p'' fun h' he hit hsz hk => wpAny_pyIter_enum he ?_
    have I2 : Inv X pins σ H1 { s1 with heap := h' } := I1.kept (t' := s1.toks) hk
    refine ⟨s1.heap.objs.size + 1, [s1.heap.objs.size + 1, s1.heap.objs.size], _, _, H1, rfl, I2, turn_enumT a (s1.heap.objs.size + 1) s1.heap.objs.size, ⟨⟨.none, he⟩, ⟨_, hit, rfl, rfl⟩, Nat.succ_ne_self _⟩, fun b hb => ?_, q⟩
    have e' : b = s1.heap.objs.size + 1 ∨ b = s1.heap.objs.size := by simpa using hb
    have hle : s1.heap.objs.size ≤ b := by
      rcases e' with z | z
      · rw [z]; exact Nat.le_add_right _ _
      · rw [z]; exact Nat.le_refl _
    exact I1.fpOk hle (I1.hok.fresh hle)
theorem walk_enumT {K : PySem.W.Frag} {a : Addr} {xs : List V} : Walk (IteT K a) xs.length (fun H => SqT K H a xs) (YPair (fun i => some (.int (i : Nat))) (fun i => xs[i]?)) := by
  refine ⟨fun i _ hi q => ⟨xs, xs[i], q, by simp [hi]⟩, fun _ q => ⟨xs, q, Nat.le_refl _⟩, fun i H v H' _ q y => ?_⟩
  obtain ⟨T, x, h1, h2, h3, h4⟩ := y
  exact ⟨T, .int (i : Nat), x, h1, h2, h3, rfl, h4 xs q⟩
section
variable {S : Type} {J : S → Hp → Hp → Prop} {K : PySem.W.Frag} {σ : L2.St} {s : S} {F : Hp} {R : V → S → Hp → Prop} {te : TE} {tt : TT} {t : TS} {g : TG} {ta : TA} {D : En S} {vs : List Nat}
theorem sw_forET (hd : Hid J) (h : AW J ta σ s F fun ws s1 F1 => ∃ (a : Addr) (xs : List V) (Pv : Nat → L2.St → S → Hp → Prop), ws = [.ref a] ∧ SqT K F1 a xs ∧ Pv 0 σ s1 F1 ∧ (∀ i σ s F, i ≤ xs.length → Pv i σ s F → SqT K F a xs) ∧
      (∀ (i : Nat) x σ s F T, xs[i]? = some x → Pv i σ s F → F T = none → GW J g (.ref T) σ s (upd F T (.tup [.int (i : Int), x])) fun σ s F => SW J t { D with nx := Pv (i + 1), ct := Pv (i + 1), bk := D.nx } σ s F) ∧ (∀ σ s F, Pv xs.length σ s F → D.nx σ s F)) :
    SW J (tFor (iEnumT K ta) g t) D σ s F := fun H j D' l =>
  h H j _ fun v s1 F1 H1 j1 ⟨a, xs, Pv, e, l1, h0, hl, hs, hdn⟩ => ⟨a, xs, e, hd.sqT j1 l1, for_it walk_enumT (fun i σ H => ∃ s F, J s F H ∧ Pv i σ s F) ⟨s1, F1, j1, h0⟩
    (fun i σ' H' hi ⟨s', F', j', p⟩ => hd.sqT j' (hl i σ' s' F' hi p))
    (fun i x σ' H' H'' hi ⟨s', F', j', p⟩ ⟨T, y, z, ex, hT, eH, e1, e2⟩ => by
      subst ex eH
      cases e1
      exact hs i z σ' s' F' T e2 p (hd.fresh j' hT) _ (hd.al j' hT) _ fun σ2 s2 F2 H2 j2 k => k H2 j2 _ ⟨fun σ3 s3 F3 H3 j3 k3 => ⟨s3, F3, j3, k3⟩, l.rt, l.nx, fun σ3 s3 F3 H3 j3 k3 => ⟨s3, F3, j3, k3⟩⟩)
    (fun σ' H' ⟨s', F', j', p⟩ => l.nx _ _ _ _ j' (hdn σ' s' F' p))⟩
end
end Obr
namespace Obr
open PySem L2 PyProof.Rows
local macro_rules | `(tactic| walk_at "ob_at") => `(tactic| first
  | assumption
  | exact upd_same
  | (refine Eq.trans (upd_ne ?obn) ?obr; (case obn => walk_at "ob_ne"); (case obr => walk_at "ob_at")))
local macro_rules | `(tactic| walk_at "ob_ne") => `(tactic| first
  | assumption
  | (refine Ne.symm ?obs; (case obs => assumption))
  | (refine' ne_of_none (H := ?_) ?obe ?obh; (case obh => assumption); (case obe => walk_at "ob_at"))
  | (refine Ne.symm ?obs; (case obs => (refine' ne_of_none (H := ?_) ?obe ?obh; (case obh => assumption); (case obe => walk_at "ob_at")))))
local macro_rules | `(tactic| walk_at "ob_fr") => `(tactic| first
  | assumption
  | (refine Eq.trans (upd_ne ?obn) ?obr; (case obn => walk_at "ob_ne"); (case obr => walk_at "ob_fr"))
  | (refine Ex.free (G := ?_) (by assumption) ?obh; (case obh => walk_at "ob_fr")))
local macro_rules | `(tactic| walk_at "ob_ex") => `(tactic| first
  | assumption
  | exact Ex.refl _
  | (refine Ex.out ?obg ?obh; (case obh => assumption); (case obg => walk_at "ob_ex"))
  | (refine Ex.new ?obg ?obh; (case obh => assumption); (case obg => walk_at "ob_ex"))
  | (refine Ex.new ?obg ?obh; (case obh => walk_at "ob_fr"); (case obg => walk_at "ob_ex")))
local macro_rules | `(tactic| walk_at "ob_sq") => `(tactic| first
  | assumption
  | (refine SqL.of ?oba; (case oba => walk_at "ob_at"))
  | (refine Ex.sqT (F := ?_) ?obg ?obh; (case obh => assumption); (case obg => walk_at "ob_ex"))
  | (refine Ex.sqL (F := ?_) ?obg ?obh; (case obh => assumption); (case obg => walk_at "ob_ex"))
  | (refine SqT.of ?oba; (case oba => walk_at "ob_at")))
local macro_rules | `(tactic| walk_at "ob_side") => `(tactic| first | exact rfl | assumption | decide | omega | exact ⟨by decide, by decide, by decide⟩ | exact Or.inr ⟨by decide, by decide⟩ | exact Or.inl ⟨by decide, by decide⟩ | exact wide_div (b := 60) (by first | decide | omega) (by first | decide | omega) (by decide) (by decide))
local macro_rules | `(tactic| walk_at "ob1") => `(tactic| first
  | with_reducible refine sw_seq ?_
  | with_reducible refine sw_asg ?_
  | with_reducible refine sw_ret ?_
  | with_reducible refine sw_par ?_
  | with_reducible refine ⟨_, _, rfl, ?_⟩
  | with_reducible refine sw_drop ?_
  | with_reducible refine sw_if ?_
  | with_reducible refine sw_next ?_
  | with_reducible refine gw_name ?_
  | with_reducible refine gw_subL (by assumption) ?_
  | with_reducible refine gsw_cons ?_
  | with_reducible refine gsw_nil ?_
  | with_reducible refine ew_c ?_
  | ((with_reducible refine' ew_var (v := ?_) ?obv ?_); (case obv => exact rfl))
  | ((with_reducible refine ew_next (by assumption) ?obv ?_); (case obv => exact rfl))
  | ((with_reducible refine ew_world (by assumption) ?obv ?_); (case obv => exact rfl))
  | ((with_reducible refine ew_rule (by assumption) ?obv ?_); (case obv => exact rfl))
  | with_reducible refine ew_op ?_
  | with_reducible refine ew_un ?_
  | with_reducible refine ew_dget (by assumption) ?_
  | with_reducible refine uw_I ?_
  | with_reducible refine ppw_nil ?_
  | with_reducible refine ppw_cons ?_
  | with_reducible refine sw_dput (by assumption) ?_
  | with_reducible refine ew_cb ?_
  | with_reducible refine ew_if ?_
  | with_reducible refine ew_slL (by assumption) ?_
  | with_reducible refine ow_some ?_
  | with_reducible refine ow_none ?_
  | with_reducible refine aw_nil ?_
  | with_reducible refine aw_cons ?_
  | with_reducible refine rw_I0 ?_
  | ((with_reducible refine rw_I ?obc ?_); (case obc => walk_at "ob_side"))
  | with_reducible refine rw_isN ?_
  | with_reducible refine rw_notN ?_
  | ((with_reducible refine rw_eq ?obc ?_); (case obc => exact rfl))
  | ((with_reducible refine rw_ne ?obc ?_); (case obc => exact rfl))
  | with_reducible refine cw_max2 ?_
  | with_reducible refine cw_min2 ?_
  | with_reducible refine tw_test ?_
  | with_reducible refine tw_B ?_
  | with_reducible refine tw_not ?_
  | with_reducible refine tw_truB ?_
  | with_reducible refine tw_and ?_
  | with_reducible refine tw_or ?_
  | with_reducible refine ew_and ?_
  | (refine' Exists.intro _ (And.intro (show V.bl _ = V.bl _ from rfl) ?_))
  | (refine' Exists.intro _ (And.intro (show V.int _ = V.int _ from rfl) ?_))
  | ((with_reducible refine' rw_ixL (v := ?_) (xs := ?_) (by assumption) ?obl ?oba ?_); (case obl => walk_at "ob_sq"); (case oba => first | exact rfl | exact at_zero))
  | ((with_reducible refine' rw_ixT (v := ?_) (xs := ?_) (by assumption) ?obl ?oba ?_); (case obl => walk_at "ob_sq"); (case oba => first | exact rfl | exact at_zero))
  | ((with_reducible refine' ew_lst (by assumption) ?_))
  | ((with_reducible refine' ew_tup (by assumption) ?_)))
local macro_rules | `(tactic| walk_at "ob_len") => `(tactic| first | exact Nat.le_of_ble_eq_true rfl | (simp; done) | omega)
local macro_rules | `(tactic| walk_at "ob") => `(tactic| repeat walk_at "ob1")

/-! ### Shop: begin, close_beat, open_beat, enter, __init__ -/
/-- a shop whose list of machines may grow yet -/
structure SEnt (sh : Bool) (K : PySem.W.Frag) (F0 F : Hp) (A : RAd) (t : LSt) (w : Wld) (r : Rgt) (p anew : Bool) (ex : List (Addr × HO)) : Prop where
  own : Own F0 F ((A.a, .ins A.C A.dx (rfsS sh A t w r p anew)) :: (A.ml, .lst (A.mads.map fun ad => .ref ad.a)) :: (mcells A.M 0 A.mads t.ms ++ ex))
  st : ∀ (k : Nat) (ad : MAd) (ss : List Stp), A.mads[k]? = some ad → w.ms[k]? = some ss → StAt K F0 ad.sv ss
  len1 : A.mads.length = w.ms.length
  len2 : t.ms.length = w.ms.length
  pz : ∀ (k : Nat) (ad : MAd) (m : Mac) (ss : List Stp), A.mads[k]? = some ad → t.ms[k]? = some m → w.ms[k]? = some ss → ad.sv.pz = true → PzOk ss m
  np : A.hp = false → ∀ ad ∈ A.mads, ad.sv.pz = false
  na : anew = true → A.hp = false
section
variable {sh : Bool} {K : PySem.W.Frag} {F0 F : Hp} {A : RAd} {t : LSt} {w : Wld} {r : Rgt} {p anew : Bool} {ex : List (Addr × HO)}
theorem SEnt.cell (h : SEnt sh K F0 F A t w r p anew ex) : F A.a = some (.ins A.C A.dx (rfsS sh A t w r p anew)) := h.own.get (i := 0) rfl
theorem SEnt.mlc (h : SEnt sh K F0 F A t w r p anew ex) : F A.ml = some (.lst (A.mads.map fun ad => .ref ad.a)) := h.own.get (i := 1) rfl
theorem SEnt.ml0 (h : SEnt sh K F0 F A t w r p anew ex) : F0 A.ml = none := h.own.none (i := 1) rfl
/-- no more comes in -/
theorem SEnt.shut (h : SEnt sh K F0 F A t w r p anew ex) : SAt sh K (upd F0 A.ml (.lst (A.mads.map fun ad => .ref ad.a))) F A t w r p anew ex :=
  ⟨(h.own.perm (List.Perm.swap _ _ _)).freeze rfl, upd_same, fun k ad ss h1 h2 => (h.st k ad ss h1 h2).ex (Ex.new (.refl _) h.ml0), h.len1, h.len2, h.pz, h.np, h.na⟩
theorem SEnt.same (h : SEnt sh K F0 F A t w r p anew ex) {t' : LSt} {w' : Wld} (e1 : t'.ms.map mcore = t.ms.map mcore) (e2 : t'.level = t.level) (e3 : t'.last = t.last) (e4 : t'.beat = t.beat) (ew : w' = w) : SEnt sh K F0 F A t' w' r p anew ex := by
  subst ew
  refine ⟨?_, h.st, h.len1, by have := congrArg List.length e1; simp at this; rw [this]; exact h.len2, pz_same e1 h.pz, h.np, h.na⟩
  have e : rfsS sh A t' w' r p anew = rfsS sh A t w' r p anew := by unfold rfsS; rw [e2, e3, e4]
  rw [mcells_core e1, e]
  exact h.own
end
theorem mcells_app {M : Addr} {ad : MAd} {m : Mac} : ∀ {n : Nat} {as : List MAd} {ms : List Mac}, as.length = ms.length → mcells M n (as ++ [ad]) (ms ++ [m]) = mcells M n as ms ++ [mcell M (n + as.length) ad m]
  | _, [], [], _ => rfl
  | _, [], _ :: _, h => by simp at h
  | _, _ :: _, [], h => by simp at h
  | n, a :: as, b :: ms, h => by
    have := mcells_app (M := M) (ad := ad) (m := m) (n := n + 1) (as := as) (ms := ms) (by simpa using h)
    show mcell M n a b :: mcells M (n + 1) (as ++ [ad]) (ms ++ [m]) = mcell M n a b :: (mcells M (n + 1) as ms ++ [mcell M (n + (as.length + 1)) ad m])
    rw [this, show n + 1 + as.length = n + (as.length + 1) from by omega]
def sBegin (t : LSt) (k : Nat) (m : Mac) (st : Stp) : LSt := { t with level := t.level - st.draw, ms := t.ms.set k { m with over := t.beat + st.long } }
def aBeginR (sh : Bool) (K : PySem.W.Frag) (C M : Addr) : List V → Hp → VK → Prop := fun vs F R => ∃ (F0 : Hp) (A : RAd) (t : LSt) (w : Wld) (r : Rgt) (p anew : Bool) (ex : List (Addr × HO)) (k : Nat) (ad : MAd) (m : Mac) (ss : List Stp) (st : Stp), vs = [.ref A.a, .ref ad.a] ∧ A.C = C ∧ A.M = M ∧ SAt sh K F0 F A t w r p anew ex ∧
  A.mads[k]? = some ad ∧ t.ms[k]? = some m ∧ w.ms[k]? = some ss ∧ 0 ≤ m.at_ ∧ ss[m.at_.toNat]? = some st ∧ 0 ≤ t.beat + st.long ∧ ∀ F', SAt sh K F0 F' A (sBegin t k m st) w r p anew ex → R .non F'
def aCloseB (sh : Bool) (K : PySem.W.Frag) (C M : Addr) : List V → Hp → VK → Prop := fun vs F R => ∃ (F0 : Hp) (A : RAd) (t : LSt) (w : Wld) (r : Rgt) (p anew : Bool) (ex : List (Addr × HO)), vs = [.ref A.a] ∧ A.C = C ∧ A.M = M ∧ SAt sh K F0 F A t w r p anew ex ∧
  ∀ F', SAt sh K F0 F' A { t with beat := t.beat + 1 } w r p anew ex → R .non F'
def aOpenB (sh : Bool) (K : PySem.W.Frag) (C M : Addr) : List V → Hp → VK → Prop := fun vs F R => ∃ (F0 : Hp) (A : RAd) (t : LSt) (w : Wld) (r : Rgt) (p anew : Bool) (ex : List (Addr × HO)), vs = [.ref A.a] ∧ A.C = C ∧ A.M = M ∧ SAt sh K F0 F A t w r p anew ex ∧ LOk w t ∧ w.ms.length ≤ 5 ∧
  ∀ (q : Addr) (F' : Hp), SAt sh K F0 F' A (lFill w (lEnds w anew t w.ms.length)) w r p anew ((q, .lst ((overs t w.ms.length).map V.int)) :: ex) → R (.ref q) F'
def aEnterS (sh : Bool) (K : PySem.W.Frag) (C M : Addr) : List V → Hp → VK → Prop := fun vs F R => ∃ (F0 : Hp) (A : RAd) (t : LSt) (w : Wld) (r : Rgt) (p anew : Bool) (ex : List (Addr × HO)) (sv : V) (ss : List Stp), vs = [.ref A.a, sv] ∧ A.C = C ∧ A.M = M ∧ SEnt sh K F0 F A t w r p anew ex ∧ Dp K F0 sv (macD ss) ∧ w.ms.length ≤ 5 ∧
  ∀ (ad : MAd) (F' : Hp), ad.sv.pz = false → SEnt sh K F0 F' { A with mads := A.mads ++ [ad] } { t with ms := t.ms ++ [mac0 t.beat] } { w with ms := w.ms ++ [ss] } r p anew ex → R .non F'
def aSInit (K : PySem.W.Frag) (C M : Addr) : List V → Hp → VK → Prop := fun vs F R => ∃ (Fb : Hp) (a dx : Addr) (wv : V) (w : Wld) (r : Rgt) (p anew : Bool), vs = [.ref a, wv, .bl anew] ∧ F = upd Fb a (.ins C dx []) ∧ Fb a = none ∧ Dp K Fb wv (wldD w) ∧ w.ms.length ≤ 5 ∧
  ∀ (F' : Hp) (A : RAd), A.a = a → A.C = C → A.M = M → A.hp = false → SEnt true K Fb F' A (lBegun w) w r p anew [] → R .non F'
section
variable {sh : Bool} {P : Program} {w : World} {K : PySem.W.Frag} {mg : Str → Option Value} {base : Heap} {C M : Addr}
theorem in_subR : (rSub : V → V → Hp → VK → Prop) = fun x y H Q => ∃ i j, x = .int i ∧ y = .int j ∧ Q (.int (i - j)) H := rfl

abbrev s_Shop__dot__begin : Stmt := inClass (top 35) 5
def N_Shop_begin : List Str := ["self", "machine"]
theorem sc_Shop_begin : FnScope N_Shop_begin ["self", "machine"] (defScope s_Shop__dot__begin) := ⟨rfl, rfl, rfl, by decide +kernel, rfl, by decide +kernel, by decide +kernel⟩
theorem ok_Shop_begin {f : Addr} {fd : FuncData} {f1 f2 : Addr} {fd1 fd2 : FuncData} (Fn : Fun K "begin" "Shop.begin" s_Shop__dot__begin f fd) (B : Blt mg) (HR : ClsF K C rkeys) (HM : ClsF K M mkeys) (M_need : Met K M "need" f1 fd1 ["self"]) (G_need : FnOk P w K mg base CX0 1 f1 fd1 ["self"] (LS (aNeed K M))) (M_begin_step : Met K M "begin_step" f2 fd2 ["self", "beat"]) (G_begin_step : FnOk P w K mg base CX0 1 f2 fd2 ["self", "beat"] (LS (aBegin K M))) : FnOk P w K mg base CX0 2 f fd ["self", "machine"] (LS (aBeginR sh K C M)) := by
  refine Fn.ok sc_Shop_begin (fun vs H Q E h => ?_) (fun cdv A outer s H vs Q E hr h => ?_)
  · obtain ⟨J, F, R, hd, j, h, _⟩ := h
    obtain ⟨F0, A, t, w, r, p, anew, ex, kk, ad, m, ss, st, rfl, _⟩ := h
    rfl
  · have nd := sc_Shop_begin.nd
    obtain ⟨J, F, R, hd, j, h, q⟩ := h
    obtain ⟨F0, A, t, w, r, p, anew, ex, kk, ad, m, ss, st, rfl, rfl, rfl, hX, h1, h2, h3, ha0, hst, hl0, k⟩ := h
    refine ⟨_, (pss_cons (ps_fldaug (pv 0) (pe_meth0 (pv 1) M_need.cl M_need.m G_need (by exact hr.mono (by decide)) M_need.a .nil pass0) in_sub)
      (pss_one (ps_expr (pe_meth (pv 1) M_begin_step.cl M_begin_step.m G_begin_step (by exact hr.mono (by decide)) M_begin_step.a .nil pass0 (pa_cons (pe_fld (pv 0) rfl) pa_nil))))), ?_⟩
    refine LS.body j q ?_
    refine sw_seq (sw_fldaugI hd in_subR ?_)
    walk_at "ob"
    refine ⟨A.a, A.C, A.dx, _, t.level, rfl, hX.cell, HR.cl, HR.no _ (by decide +kernel), lookup_nd (i := 1) (rfs_nd _ _ _ _ _ _) rfl, ?_⟩
    refine ew_meth hd ?_
    walk_at "ob"
    refine ⟨ad.a, ad.dx, _, rfl, hX.mac h1 h2, mfs_no (by decide +kernel), aw_nil ⟨F0, ad.a, ad.dx, kk, ad.sv, ss, m, st, rfl, hX.mobj h1 h2 h3, ha0, hst, ?_⟩⟩
    refine ⟨st.draw, A.dx, _, rfl, hX.cell, rfs_lt, ?_⟩
    rw [putF_nd (i := 1) (rfs_nd _ _ _ _ _ _) rfl]
    have hX1 := hX.put (t' := { t with level := t.level - st.draw }) rfl
    refine sw_drop (ew_meth hd ?_)
    walk_at "ob"
    refine ⟨ad.a, ad.dx, _, rfl, hX1.mac h1 h2, mfs_no (by decide +kernel), ?_⟩
    refine aw_cons (ew_fld hd ?_)
    walk_at "ob"
    refine ⟨A.a, A.C, A.dx, _, _, rfl, hX1.cell, HR.cl, HR.no _ (by decide +kernel), lookup_nd (i := 4) (rfs_nd _ _ _ _ _ _) rfl, ?_⟩
    refine aw_nil ⟨F0, ad.a, ad.dx, kk, ad.sv, ss, m, st, t.beat, rfl, hX1.mobj h1 h2 h3, ha0, hst, hl0, ?_⟩
    exact k _ (hX1.mput h1 h2 (m' := { m with over := t.beat + st.long }) (t' := sBegin t kk m st) rfl rfl (fun ss' e z => by
      rw [h3] at e
      cases e
      have hlt := (List.getElem?_eq_some_iff.mp hst).1
      rcases hX.pz kk ad m ss h1 h2 h3 z with q | q
      · omega
      · exact Or.inr ⟨by show 0 ≤ t.beat + st.long; exact hl0, q.2⟩))

abbrev s_Shop__dot__close_beat : Stmt := inClass (top 35) 6
def N_Shop_close_beat : List Str := ["self"]
theorem sc_Shop_close_beat : FnScope N_Shop_close_beat ["self"] (defScope s_Shop__dot__close_beat) := ⟨rfl, rfl, rfl, by decide +kernel, rfl, by decide +kernel, by decide +kernel⟩
theorem ok_Shop_close_beat {f : Addr} {fd : FuncData}  (Fn : Fun K "close_beat" "Shop.close_beat" s_Shop__dot__close_beat f fd) (B : Blt mg) (HR : ClsF K C rkeys) (HM : ClsF K M mkeys) : FnOk P w K mg base CX0 1 f fd ["self"] (LS (aCloseB sh K C M)) := by
  refine Fn.ok sc_Shop_close_beat (fun vs H Q E h => ?_) (fun cdv A outer s H vs Q E hr h => ?_)
  · obtain ⟨J, F, R, hd, j, h, _⟩ := h
    obtain ⟨F0, A, t, w, r, p, anew, ex, rfl, _⟩ := h
    rfl
  · have nd := sc_Shop_close_beat.nd
    obtain ⟨J, F, R, hd, j, h, q⟩ := h
    obtain ⟨F0, A, t, w, r, p, anew, ex, rfl, rfl, rfl, hX, k⟩ := h
    refine ⟨_, (pss_one (ps_fldaug (pv 0) pe_int in_add)), ?_⟩
    refine LS.body j q ?_
    refine sw_fldaugI hd in_addR ?_
    walk_at "ob"
    refine ⟨A.a, A.C, A.dx, _, _, rfl, hX.cell, HR.cl, HR.no _ (by decide +kernel), lookup_nd (i := 4) (rfs_nd _ _ _ _ _ _) rfl, ?_⟩
    walk_at "ob"
    refine ⟨1, A.dx, _, rfl, hX.cell, rfs_lt, ?_⟩
    rw [putF_nd (i := 4) (rfs_nd _ _ _ _ _ _) rfl]
    exact k _ (hX.put (t' := { t with beat := t.beat + 1 }) rfl)

abbrev s_Shop__dot__open_beat : Stmt := inClass (top 35) 2
def N_Shop_open_beat : List Str := ["self", "over"]
theorem sc_Shop_open_beat : FnScope N_Shop_open_beat ["self"] (defScope s_Shop__dot__open_beat) := ⟨rfl, rfl, rfl, by decide +kernel, rfl, by decide +kernel, by decide +kernel⟩
theorem ok_Shop_open_beat {f : Addr} {fd : FuncData} {f1 f2 : Addr} {fd1 fd2 : FuncData} (Fn : Fun K "open_beat" "Shop.open_beat" s_Shop__dot__open_beat f fd) (B : Blt mg) (HR : ClsF K C rkeys) (HM : ClsF K M mkeys) (M_end_steps : Met K C "end_steps" f1 fd1 ["self"]) (G_end_steps : FnOk P w K mg base CX0 2 f1 fd1 ["self"] (LS (aEndSteps sh K C M))) (M_put_in : Met K C "put_in" f2 fd2 ["self", "many"]) (G_put_in : FnOk P w K mg base CX0 1 f2 fd2 ["self", "many"] (LS (aPutIn sh K C))) : FnOk P w K mg base CX0 3 f fd ["self"] (LS (aOpenB sh K C M)) := by
  refine Fn.ok sc_Shop_open_beat (fun vs H Q E h => ?_) (fun cdv A outer s H vs Q E hr h => ?_)
  · obtain ⟨J, F, R, hd, j, h, _⟩ := h
    obtain ⟨F0, A, t, w, r, p, anew, ex, rfl, _⟩ := h
    rfl
  · have nd := sc_Shop_open_beat.nd
    obtain ⟨J, F, R, hd, j, h, q⟩ := h
    obtain ⟨F0, A, t, w, r, p, anew, ex, rfl, rfl, rfl, hG, hok, hm5, k⟩ := h
    refine ⟨_, (pss_cons (ps_set (i := 1) nd rfl (Or.inl rfl) (pe_meth0 (pv 0) M_end_steps.cl M_end_steps.m G_end_steps (by exact hr.mono (by decide)) M_end_steps.a .nil pass0))
      (pss_cons (ps_if (pt_cmpR op_gt (pe_fld (pv 0) rfl) pe_int (nomark _)) (pss_one (ps_expr (pe_meth (pv 0) M_put_in.cl M_put_in.m G_put_in (by exact hr.mono (by decide)) M_put_in.a .nil pass0 (pa_cons (pe_fld (pv 0) rfl) pa_nil)))) pss_nil)
      (pss_one (ps_ret (pv 1))))), ?_⟩
    refine LS.body j q ?_
    refine sw_seq (sw_asg (ew_meth hd ?_))
    walk_at "ob"
    refine ⟨A.a, A.dx, _, rfl, hG.cell, rfs_no (by decide +kernel), aw_nil ⟨F0, A, t, w, r, p, anew, ex, rfl, rfl, rfl, hG, hok, hm5, fun q1 F1 hX => gw_name ?_⟩⟩
    refine sw_seq (sw_if (tw_test (ew_op (ew_fld hd ?_))))
    walk_at "ob"
    refine ⟨A.a, A.C, A.dx, _, _, rfl, hX.cell, HR.cl, HR.no _ (by decide +kernel), lookup_nd (i := 4) (rfs_nd _ _ _ _ _ _) rfl, ?_⟩
    walk_at "ob"
    refine ⟨fun hb => ?_, fun hb => ?_⟩
    · have hb2 := of_decide_eq_true hb
      refine sw_drop (ew_meth hd ?_)
      walk_at "ob"
      refine ⟨A.a, A.dx, _, rfl, hX.cell, rfs_no (by decide +kernel), aw_cons (ew_fld hd ?_)⟩
      walk_at "ob"
      refine ⟨A.a, A.C, A.dx, _, _, rfl, hX.cell, HR.cl, HR.no _ (by decide +kernel), lookup_nd (i := 2) (rfs_nd _ _ _ _ _ _) rfl, ?_⟩
      refine aw_nil ⟨A, _, w, r, p, anew, w.refill, rfl, rfl, hX.cell, ?_⟩
      refine sw_ret (ew_var rfl ?_)
      refine k q1 _ ?_
      have e : lFill w (lEnds w anew t w.ms.length) = { lEnds w anew t w.ms.length with level := minI w.cap ((lEnds w anew t w.ms.length).level + w.refill) } := by
        unfold lFill
        rw [if_pos hb2]
      rw [e]
      exact hX.put rfl
    · have hb2 := of_decide_eq_false hb
      refine sw_next (sw_ret (ew_var rfl ?_))
      refine k q1 _ ?_
      have e : lFill w (lEnds w anew t w.ms.length) = lEnds w anew t w.ms.length := by
        unfold lFill
        rw [if_neg hb2]
      rw [e]
      exact hX

abbrev s_Shop__dot__enter : Stmt := inClass (top 35) 1
def N_Shop_enter : List Str := ["self", "steps"]
theorem sc_Shop_enter : FnScope N_Shop_enter ["self", "steps"] (defScope s_Shop__dot__enter) := ⟨rfl, rfl, rfl, by decide +kernel, rfl, by decide +kernel, by decide +kernel⟩
theorem ok_Shop_enter {f : Addr} {fd : FuncData} {f1 : Addr} {fd1 : FuncData} (Fn : Fun K "enter" "Shop.enter" s_Shop__dot__enter f fd) (B : Blt mg) (HR : ClsF K C rkeys) (HM : ClsF K M mkeys) (MK_Machine : Mk K M f1) (G_Machine : FnOk P w K mg base CX0 1 f1 fd1 ["self", "number", "steps", "since"] (LS (aMInitC M))) (MK_Machine_g : mg "Machine" = some (.ref M)) (MK_Machine_a : Binds K fd1 ["self", "number", "steps", "since"] []) : FnOk P w K mg base CX0 3 f fd ["self", "steps"] (LS (aEnterS sh K C M)) := by
  refine Fn.ok sc_Shop_enter (fun vs H Q E h => ?_) (fun cdv A outer s H vs Q E hr h => ?_)
  · obtain ⟨J, F, R, hd, j, h, _⟩ := h
    obtain ⟨F0, A, t, w, r, p, anew, ex, sv, ss, rfl, _⟩ := h
    rfl
  · have nd := sc_Shop_enter.nd
    obtain ⟨J, F, R, hd, j, h, q⟩ := h
    obtain ⟨F0, A, t, w, r, p, anew, ex, sv, ss, rfl, rfl, rfl, hX, dsv, hm5, k⟩ := h
    refine ⟨_, (pss_one (ps_expr (pe_bm PySem.F.plainAttrs_list PySem.F.slot_list_append PySem.F.type_list_append mt_append (pe_fld (pv 0) rfl) (pa_cons (pe_make MK_Machine G_Machine (by exact hr.mono (by decide)) (by rfl) MK_Machine_g MK_Machine_a .nil pass0 (pa_cons (pe_callB call_len_seq (by rfl) B.len (by decide +kernel) (pa_cons (pe_fld (pv 0) rfl) pa_nil)) (pa_cons (pv 1) (pa_cons (pe_fld (pv 0) rfl) pa_nil)))) pa_nil)))), ?_⟩
    refine LS.body j q ?_
    refine sw_drop (ew_bmL hd (ew_fld hd ?_))
    walk_at "ob"
    refine ⟨A.a, A.C, A.dx, _, _, rfl, hX.cell, HR.cl, HR.no _ (by decide +kernel), lookup_nd (i := 5) (rfs_nd _ _ _ _ _ _) rfl, ?_⟩
    refine ⟨A.ml, _, rfl, SqL.of hX.mlc, ?_⟩
    refine aw_cons (ew_make hd ?_)
    refine aw_cons (ew_cb (aw_cons (ew_fld hd ?_)))
    walk_at "ob"
    refine ⟨A.a, A.C, A.dx, _, _, rfl, hX.cell, HR.cl, HR.no _ (by decide +kernel), lookup_nd (i := 5) (rfs_nd _ _ _ _ _ _) rfl, ?_⟩
    refine aw_nil (cw_lenS hd (Or.inl (SqL.of hX.mlc)) ?_)
    refine aw_cons (ew_var rfl (aw_cons (ew_fld hd ?_)))
    walk_at "ob"
    refine ⟨A.a, A.C, A.dx, _, _, rfl, hX.cell, HR.cl, HR.no _ (by decide +kernel), lookup_nd (i := 4) (rfs_nd _ _ _ _ _ _) rfl, ?_⟩
    refine aw_nil ?_
    intro x dx hx hdx hne
    refine ⟨x, dx, _, _, sv, ss, rfl, upd_same, rfl, ?_⟩
    rw [upd_upd]
    have hln : (A.mads.map fun ad => V.ref ad.a).length = A.mads.length := List.length_map _
    have h5 := hX.len1
    have o1 := (hX.own.new' (o := .own x) hdx).set (i := 1) (a := A.ml) (o' := .lst ((A.mads.map fun ad => V.ref ad.a) ++ [.ref x])) rfl
    have o2 := hX.own.new' (o := .own x) hdx
    have hx2 : upd F dx (.own x) x = none := by rw [upd_ne hne.symm]; exact hx
    have o3 := o2.more (p := x) (o := .ins A.M dx (mfs A.mads.length ⟨sv, false, ss⟩ (mac0 t.beat))) hx2
    rw [hln]
    refine aw_nil (mw_append hd (o3.get (i := 2) rfl) (by rw [hln]; omega) ?_)
    refine k ⟨x, dx, ⟨sv, false, ss⟩⟩ _ rfl ⟨?_, ?_, ?_, ?_, ?_, ?_, hX.na⟩
    · have o4 := o3.set (i := 2) (a := A.ml) (o' := .lst ((A.mads.map fun ad => V.ref ad.a) ++ [.ref x])) rfl
      have e1 : mcells A.M 0 (A.mads ++ [(⟨x, dx, ⟨sv, false, ss⟩⟩ : MAd)]) (t.ms ++ [mac0 t.beat]) = mcells A.M 0 A.mads t.ms ++ [(x, .ins A.M dx (mfs A.mads.length ⟨sv, false, ss⟩ (mac0 t.beat)))] := by
        rw [mcells_app (by rw [hX.len1, hX.len2]), Nat.zero_add]
        rfl
      show Own F0 _ ((A.a, .ins A.C A.dx (rfsS sh A t w r p anew)) :: (A.ml, .lst ((A.mads ++ [(⟨x, dx, ⟨sv, false, ss⟩⟩ : MAd)]).map fun ad => V.ref ad.a)) :: (mcells A.M 0 (A.mads ++ [(⟨x, dx, ⟨sv, false, ss⟩⟩ : MAd)]) (t.ms ++ [mac0 t.beat]) ++ ex))
      rw [e1, List.map_append]
      refine o4.perm ?_
      rw [List.append_assoc]
      exact (List.Perm.cons _ (List.Perm.cons _ List.perm_middle)).trans ((List.Perm.cons _ (List.Perm.swap _ _ _)).trans (List.Perm.swap _ _ _))
    · intro k' ad ss' h1 h2
      have hA : A.mads.length = w.ms.length := hX.len1
      by_cases c : k' < A.mads.length
      · refine hX.st k' ad ss' ?_ ?_
        · rw [← h1]; exact (List.getElem?_append_left c).symm
        · rw [← h2]; exact (List.getElem?_append_left (by omega)).symm
      · have e3 : k' = A.mads.length := by
          have := (List.getElem?_eq_some_iff.mp h1).1
          simp at this
          omega
        have h1' : (A.mads ++ [(⟨x, dx, ⟨sv, false, ss⟩⟩ : MAd)])[k']? = some ad := h1
        have h2' : (w.ms ++ [ss])[k']? = some ss' := h2
        rw [List.getElem?_append_right (by omega), e3, Nat.sub_self] at h1'
        rw [List.getElem?_append_right (by omega), e3, hA, Nat.sub_self] at h2'
        have ea : ad = ⟨x, dx, ⟨sv, false, ss⟩⟩ := by simpa using h1'.symm
        have es : ss' = ss := by simpa using h2'.symm
        rw [ea, es]
        exact ⟨dsv, List.prefix_refl _, fun _ => rfl⟩
    · show (A.mads ++ [_]).length = (w.ms ++ [ss]).length
      rw [List.length_append, List.length_append, hX.len1]
      rfl
    · show (t.ms ++ [_]).length = (w.ms ++ [ss]).length
      rw [List.length_append, List.length_append, hX.len2]
      rfl
    · intro k' ad' m' ss' h1 h2 h3 hz
      have hA : A.mads.length = w.ms.length := hX.len1
      have hA2 : t.ms.length = w.ms.length := hX.len2
      by_cases c : k' < A.mads.length
      · refine hX.pz k' ad' m' ss' ?_ ?_ ?_ hz
        · rw [← h1]; exact (List.getElem?_append_left c).symm
        · rw [← h2]; exact (List.getElem?_append_left (by omega)).symm
        · rw [← h3]; exact (List.getElem?_append_left (by omega)).symm
      · have e3 : k' = A.mads.length := by
          have := (List.getElem?_eq_some_iff.mp h1).1
          simp at this
          omega
        have h1' : (A.mads ++ [(⟨x, dx, ⟨sv, false, ss⟩⟩ : MAd)])[k']? = some ad' := h1
        rw [List.getElem?_append_right (by omega), e3, Nat.sub_self] at h1'
        have ea : ad' = ⟨x, dx, ⟨sv, false, ss⟩⟩ := by simpa using h1'.symm
        rw [ea] at hz
        cases hz
    · intro hh ad' hm
      rcases List.mem_append.mp (show ad' ∈ A.mads ++ [(⟨x, dx, ⟨sv, false, ss⟩⟩ : MAd)] from hm) with z | z
      · exact hX.np hh ad' z
      · rw [List.mem_singleton.mp z]

abbrev s_Shop__dot____init__ : Stmt := inClass (top 35) 0
def N_Shop___init__ : List Str := ["self", "world", "anew", "store", "machines", "steps"]
theorem sc_Shop___init__ : FnScope N_Shop___init__ ["self", "world", "anew"] (defScope s_Shop__dot____init__) := ⟨rfl, rfl, rfl, by decide +kernel, rfl, by decide +kernel, by decide +kernel⟩
theorem ok_Shop___init__ {f : Addr} {fd : FuncData} {f1 : Addr} {fd1 : FuncData} (Fn : Fun K "__init__" "Shop.__init__" s_Shop__dot____init__ f fd) (B : Blt mg) (HR : ClsF K C rkeys) (HM : ClsF K M mkeys) (M_enter : Met K C "enter" f1 fd1 ["self", "steps"]) (G_enter : FnOk P w K mg base CX0 3 f1 fd1 ["self", "steps"] (LS (aEnterS true K C M))) : FnOk P w K mg base CX0 4 f fd ["self", "world", "anew"] (LS (aSInit K C M)) := by
  refine Fn.ok sc_Shop___init__ (fun vs H Q E h => ?_) (fun cdv A outer s H vs Q E hr h => ?_)
  · obtain ⟨J, F, R, hd, j, h, _⟩ := h
    obtain ⟨Fb, a, dx, wv, w, r, p, anew, rfl, _⟩ := h
    rfl
  · have nd := sc_Shop___init__.nd
    obtain ⟨J, F, R, hd, j, h, q⟩ := h
    obtain ⟨Fb, a, dx, wv, w, r, p, anew, rfl, rfl, hFa, dw, hm5, k⟩ := h
    refine ⟨_, (pss_cons (ps_asg (pv 1) (pg_tup rfl (pgs_cons (pg_name (i := 3) nd rfl (Or.inl rfl)) (pgs_cons (pg_name (i := 4) nd rfl (Or.inl rfl)) pgs_nil))))
      (pss_cons (ps_asg (pv 3) (pg_tup rfl (pgs_cons (pg_fld (pv 0)) (pgs_cons (pg_fld (pv 0)) (pgs_cons (pg_fld (pv 0)) pgs_nil)))))
      (pss_cons (ps_fld (pv 0) (pv 2) rfl)
      (pss_cons (ps_fld (pv 0) pe_int rfl)
      (pss_cons (ps_fld (pv 0) (pe_lst pa_nil) rfl)
      (pss_one (ps_for PassesOwn.never rfl (pi_tup (pv 4)) (pg_name (i := 5) nd rfl (Or.inl rfl)) (pss_one (ps_expr (pe_meth (pv 0) M_enter.cl M_enter.m G_enter (by exact hr.mono (by decide)) M_enter.a .nil pass0 (pa_cons (pv 5) pa_nil))))))))))), ?_⟩
    refine LS.body j q ?_
    obtain ⟨wa, xs, rfl, lx, dxs⟩ := dp_tup dw
    obtain ⟨sv, mv, rfl, ds, dm⟩ := dps2 dxs
    obtain ⟨sa, ys, rfl, ly, dys⟩ := dp_tup ds
    obtain ⟨v1, v2, v3, rfl, d1, d2, d3⟩ := dps3 dys
    cases dp_int d1
    cases dp_int d2
    cases dp_int d3
    obtain ⟨ma, zs, rfl, lz, dzs⟩ := dp_tup dm
    have o0 : Own Fb (upd Fb a (.ins C dx [])) [(a, .ins C dx [])] := own_nil.more hFa
    refine sw_seq (sw_asg ?_)
    walk_at "ob"
    refine gw_tup hd ⟨wa, _, rfl, o0.ex.sqT lx, rfl, gsw_cons (gw_name (gsw_cons (gw_name (gsw_nil ?_))))⟩
    refine sw_seq (sw_asg ?_)
    walk_at "ob"
    refine gw_tup hd ⟨sa, _, rfl, o0.ex.sqT ly, rfl, ?_⟩
    refine gsw_cons (gw_fld hd ?_)
    walk_at "ob"
    refine ⟨a, C, dx, [], rfl, o0.get (i := 0) rfl, HR.cl, HR.no _ (by decide +kernel), Nat.lt_of_le_of_lt (Nat.le_of_ble_eq_true (m := 0) rfl) (by decide), ?_⟩
    rw [putF_out (show _ ∉ rkeys.take 0 from by decide +kernel)]
    have o1 := o0.set (i := 0) (a := a) (o' := .ins C dx [("cap", V.int w.cap)]) rfl
    refine gsw_cons (gw_fld hd ?_)
    walk_at "ob"
    refine ⟨a, C, dx, [("cap", V.int w.cap)], rfl, o1.get (i := 0) rfl, HR.cl, HR.no _ (by decide +kernel), Nat.lt_of_le_of_lt (Nat.le_of_ble_eq_true (m := 1) rfl) (by decide), ?_⟩
    rw [putF_out (show _ ∉ rkeys.take 1 from by decide +kernel)]
    have o2 := o1.set (i := 0) (a := a) (o' := .ins C dx [("cap", V.int w.cap), ("have", V.int w.start)]) rfl
    refine gsw_cons (gw_fld hd ?_)
    walk_at "ob"
    refine ⟨a, C, dx, [("cap", V.int w.cap), ("have", V.int w.start)], rfl, o2.get (i := 0) rfl, HR.cl, HR.no _ (by decide +kernel), Nat.lt_of_le_of_lt (Nat.le_of_ble_eq_true (m := 2) rfl) (by decide), ?_⟩
    rw [putF_out (show _ ∉ rkeys.take 2 from by decide +kernel)]
    have o3 := o2.set (i := 0) (a := a) (o' := .ins C dx [("cap", V.int w.cap), ("have", V.int w.start), ("refill", V.int w.refill)]) rfl
    refine gsw_nil ?_
    refine sw_seq (sw_fld hd ?_)
    walk_at "ob"
    refine ⟨a, C, dx, [("cap", V.int w.cap), ("have", V.int w.start), ("refill", V.int w.refill)], rfl, o3.get (i := 0) rfl, HR.cl, HR.no _ (by decide +kernel), Nat.lt_of_le_of_lt (Nat.le_of_ble_eq_true (m := 3) rfl) (by decide), ?_⟩
    rw [putF_out (show _ ∉ rkeys.take 3 from by decide +kernel)]
    have o4 := o3.set (i := 0) (a := a) (o' := .ins C dx [("cap", V.int w.cap), ("have", V.int w.start), ("refill", V.int w.refill), ("anew", V.bl anew)]) rfl
    refine sw_seq (sw_fld hd ?_)
    walk_at "ob"
    refine ⟨a, C, dx, [("cap", V.int w.cap), ("have", V.int w.start), ("refill", V.int w.refill), ("anew", V.bl anew)], rfl, o4.get (i := 0) rfl, HR.cl, HR.no _ (by decide +kernel), Nat.lt_of_le_of_lt (Nat.le_of_ble_eq_true (m := 4) rfl) (by decide), ?_⟩
    rw [putF_out (show _ ∉ rkeys.take 4 from by decide +kernel)]
    have o5 := o4.set (i := 0) (a := a) (o' := .ins C dx [("cap", V.int w.cap), ("have", V.int w.start), ("refill", V.int w.refill), ("anew", V.bl anew), ("beat", V.int 0)]) rfl
    refine sw_seq (sw_fld hd (ew_lst hd (aw_nil ⟨by decide, fun ml hml => ?_⟩)))
    have o5' := o5.more (o := .lst []) hml
    walk_at "ob"
    refine ⟨a, C, dx, [("cap", V.int w.cap), ("have", V.int w.start), ("refill", V.int w.refill), ("anew", V.bl anew), ("beat", V.int 0)], rfl, o5'.get (i := 1) rfl, HR.cl, HR.no _ (by decide +kernel), Nat.lt_of_le_of_lt (Nat.le_of_ble_eq_true (m := 5) rfl) (by decide), ?_⟩
    rw [putF_out (show _ ∉ rkeys.take 5 from by decide +kernel)]
    have o6 := (o5'.set (i := 1) (a := a) (o' := .ins C dx [("cap", V.int w.cap), ("have", V.int w.start), ("refill", V.int w.refill), ("anew", V.bl anew), ("beat", V.int 0), ("machines", V.ref ml)]) rfl).perm (List.Perm.swap _ _ _)
    have hzl : zs.length = w.ms.length := by have := dps_len dzs; simpa using this
    have hbl : (lBegun w).ms.length = w.ms.length := by unfold lBegun; simp
    have h0 : SEnt true K Fb (upd (upd _ ml (.lst [])) a (.ins C dx [("cap", V.int w.cap), ("have", V.int w.start), ("refill", V.int w.refill), ("anew", V.bl anew), ("beat", V.int 0), ("machines", V.ref ml)])) ⟨a, dx, ml, C, M, [], false⟩ { lBegun w with ms := (lBegun w).ms.take 0 } { w with ms := w.ms.take 0 } r p anew [] := ⟨o6, (fun k' ad ss h _ => by simp at h), rfl, rfl, (fun k' ad m ss h => by simp at h), (fun _ ad h => by simp at h), fun _ => rfl⟩
    refine sw_forT hd ?_
    walk_at "ob"
    refine ⟨ma, zs, fun i σ _ G => ∃ (as : List MAd) (x4 : Option V), σ = [some (.ref a), some (.ref wa), some (.bl anew), some (.ref sa), some (.ref ma), x4] ∧ SEnt true K Fb G ⟨a, dx, ml, C, M, as, false⟩ { lBegun w with ms := (lBegun w).ms.take i } { w with ms := w.ms.take i } r p anew [], rfl, h0.own.ex.sqT lz, ⟨[], none, rfl, h0⟩, ?_, ?_, ?_⟩
    · rintro i σ _ G hi ⟨as, x4, rfl, hX⟩
      exact hX.own.ex.sqT lz
    · rintro i x σ _ G hi ⟨as, x4, rfl, hX⟩
      have hil : i < w.ms.length := by rw [← hzl]; exact (List.getElem?_eq_some_iff.mp hi).1
      refine gw_name ?_
      refine sw_drop (ew_meth hd ?_)
      walk_at "ob"
      obtain ⟨d, hd1, hd2⟩ := dps_get' dzs hi
      rw [List.getElem?_map, List.getElem?_eq_getElem hil] at hd1
      cases hd1
      refine ⟨a, dx, _, rfl, hX.cell, rfs_no (by decide +kernel), aw_cons (ew_var rfl (aw_nil ?_))⟩
      refine ⟨Fb, ⟨a, dx, ml, C, M, as, false⟩, _, _, r, p, anew, [], x, w.ms[i], rfl, rfl, rfl, hX, hd2, ?_, fun ad F' _ hX2 => ?_⟩
      · show (w.ms.take i).length ≤ 5
        rw [List.length_take]; omega
      · refine ⟨as ++ [ad], _, rfl, ?_⟩
        refine hX2.same ?_ rfl rfl rfl ?_
        · show ((lBegun w).ms.take (i + 1)).map mcore = (((lBegun w).ms.take i) ++ [mac0 0]).map mcore
          have hm : (lBegun w).ms[i]? = some ⟨0, -1, 0, 0, 0, if w.ms[i].isEmpty then some 0 else none⟩ := by
            unfold lBegun
            rw [List.getElem?_map, List.getElem?_eq_getElem hil]; rfl
          rw [List.take_succ, hm, List.map_append, List.map_append]
          rfl
        · show ({ w with ms := w.ms.take (i + 1) } : Wld) = { w with ms := w.ms.take i ++ [w.ms[i]] }
          rw [List.take_succ, List.getElem?_eq_getElem hil]
          rfl
    · rintro σ _ G ⟨as, x4, rfl, hX⟩
      rw [hzl] at hX
      have e1 : ({ lBegun w with ms := (lBegun w).ms.take w.ms.length } : LSt) = lBegun w := by rw [List.take_of_length_le (by rw [hbl]; exact Nat.le_refl _)]
      have e2 : ({ w with ms := w.ms.take w.ms.length } : Wld) = w := by rw [List.take_length]
      rw [e1, e2] at hX
      exact k _ _ rfl rfl rfl rfl hX
end
end Obr
/-! a list or a tuple: the way is chosen where what stands in the slot is known -/
namespace Obr
open PySem L2 PyProof.Rows
def wiOr (w1 w2 : TI) : TI := fun σ H R => w1 σ H R ∨ w2 σ H R
def teOr (t1 t2 : TE) : TE := fun σ H Q => t1 σ H Q ∨ t2 σ H Q
theorem pi_or {X : Cx} {tg l : Expr} {w1 w2 : TI} (h1 : PI X tg l w1) (h2 : PI X tg l w2) : PI X tg l (wiOr w1 w2) :=
  ⟨fun pins s σ H R I h => h.elim (fun a => h1.run pins s σ H R I a) fun b => h2.run pins s σ H R I b⟩
theorem pe_eor {X : Cx} {e : Expr} {t1 t2 : TE} (h1 : PE X e t1) (h2 : PE X e t2) : PE X e (teOr t1 t2) :=
  ⟨fun pins s σ H Q I h => h.elim (fun a => h1.run pins s σ H Q I a) fun b => h2.run pins s σ H Q I b⟩
section
variable {S : Type} {J : S → Hp → Hp → Prop} {σ : L2.St} {s : S} {F : Hp} {R : V → S → Hp → Prop} {t1 t2 te : TE} {w1 w2 : TI} {g : TG} {tt : TT} {vs : List Nat} {D : En S} {tb : TS}
theorem ew_or1 (h : EW J t1 σ s F R) : EW J (teOr t1 t2) σ s F R := fun H j Q q => Or.inl (h H j Q q)
theorem ew_or2 (h : EW J t2 σ s F R) : EW J (teOr t1 t2) σ s F R := fun H j Q q => Or.inr (h H j Q q)
theorem ew_lcO1 (h : EW J (tLc w1 g tt te vs) σ s F R) : EW J (tLc (wiOr w1 w2) g tt te vs) σ s F R := fun H j Q q => Or.inl (h H j Q q)
theorem ew_lcO2 (h : EW J (tLc w2 g tt te vs) σ s F R) : EW J (tLc (wiOr w1 w2) g tt te vs) σ s F R := fun H j Q q => Or.inr (h H j Q q)
theorem sw_forO1 (h : SW J (tFor w1 g tb) D σ s F) : SW J (tFor (wiOr w1 w2) g tb) D σ s F := fun H j D' l => Or.inl (h H j D' l)
theorem sw_forO2 (h : SW J (tFor w2 g tb) D σ s F) : SW J (tFor (wiOr w1 w2) g tb) D σ s F := fun H j D' l => Or.inr (h H j D' l)
end
end Obr
namespace Obr
open PySem L2 PySem.Spec PyProof.Rows RZ
/-! ### zip of a tuple and a list -/
def ItM (K : PySem.W.Frag) (a b : Addr) : It where
  go := fun i H => ∃ (us vs : List V) (u v : V), SqT K H a us ∧ SqL K H b vs ∧ us[i]? = some u ∧ vs[i]? = some v
  yld := fun i H r H' => ∃ T u v, r = .ref T ∧ H T = none ∧ H' = upd H T (.tup [u, v]) ∧ (∀ us, SqT K H a us → us[i]? = some u) ∧ ∀ vs, SqL K H b vs → vs[i]? = some v
  stop := fun i H => ∃ us vs : List V, SqT K H a us ∧ SqL K H b vs ∧ i ≤ us.length ∧ i ≤ vs.length ∧ (i = us.length ∨ i = vs.length)
structure StM (z TI TO i1 i2 a b : Addr) (i : Nat) (h : Heap) : Prop where
  zz : IsZip h z TI TO .none
  ti : IsTupOf2 h TI (.ref i1) (.ref i2)
  to : ∃ u v, IsTupOf2 h TO u v
  one : h.IsTupleIter i1 a i
  two : h.IsListIter i2 b i
def iZipM (K : PySem.W.Frag) (ta : TA) : TI := fun σ H R => ta σ H fun vs H1 => ∃ a b xs ys, vs = [.ref a, .ref b] ∧ SqT K H1 a xs ∧ SqL K H1 b ys ∧ R (ItM K a b) H1
theorem walk_zipM {K : PySem.W.Frag} {a b : Addr} {xs ys : List V} {n : Nat} (hn : n = min xs.length ys.length) : Walk (ItM K a b) n (fun H => SqT K H a xs ∧ SqL K H b ys) (YPair (fun i => xs[i]?) (fun i => ys[i]?)) := by
  subst hn
  refine ⟨fun i _ hi q => ?_, fun _ q => ⟨xs, ys, q.1, q.2, by omega, by omega, by omega⟩, fun i H v H' _ q y => ?_⟩
  · have c1 : i < xs.length := by omega
    have c2 : i < ys.length := by omega
    exact ⟨xs, ys, _, _, q.1, q.2, List.getElem?_eq_getElem c1, List.getElem?_eq_getElem c2⟩
  · obtain ⟨T, x, y', h1, h2, h3, h4, h5⟩ := y
    exact ⟨T, x, y', h1, h2, h3, h4 xs q.1, h5 ys q.2⟩
theorem walk_zipT {K : PySem.W.Frag} {a b : Addr} {xs ys : List V} {n : Nat} (hn : n = min xs.length ys.length) : Walk (ItzT K a b) n (fun H => SqT K H a xs ∧ SqT K H b ys) (YPair (fun i => xs[i]?) (fun i => ys[i]?)) := by
  subst hn
  refine ⟨fun i _ hi q => ?_, fun _ q => ⟨xs, ys, q.1, q.2, by omega⟩, fun i H v H' _ q y => ?_⟩
  · have c1 : i < xs.length := by omega
    have c2 : i < ys.length := by omega
    exact ⟨xs, ys, _, _, q.1, q.2, List.getElem?_eq_getElem c1, List.getElem?_eq_getElem c2⟩
  · obtain ⟨T, x, y', h1, h2, h3, h4, h5⟩ := y
    exact ⟨T, x, y', h1, h2, h3, h4 xs q.1, h5 ys q.2⟩
section
variable {S : Type} {J : S → Hp → Hp → Prop} {K : PySem.W.Frag} {σ : L2.St} {s : S} {F : Hp} {R : V → S → Hp → Prop} {te : TE} {tt : TT} {g : TG} {ta : TA} {vs : List Nat}
/-- what a comprehension over a zip of xs and ys asks -/
def ZipAsk (J : S → Hp → Hp → Prop) (g : TG) (tt : TT) (te : TE) (vs : List Nat) (σ : L2.St) (xs ys : List V) (R : V → S → Hp → Prop) (s1 : S) (F1 : Hp) (st : Hp → Prop) : Prop :=
  xs.length = ys.length ∧ xs.length ≤ 100000 ∧ ∀ Dl, F1 Dl = none → ∃ Pv : Nat → List V → S → Hp → Prop, Pv 0 [] s1 F1 ∧
      (∀ i acc s F, i ≤ xs.length → F Dl = none → Pv i acc s F → st F ∧ acc.length ≤ i) ∧ (∀ (i : Nat) acc x y s F T, xs[i]? = some x → ys[i]? = some y → F Dl = none → Pv i acc s F → F T = none → T ≠ Dl → LcTurn J Dl g tt te vs σ acc (.ref T) s (upd F T (.tup [x, y])) (Pv (i + 1))) ∧
      (∀ acc s F, F Dl = none → Pv xs.length acc s F → R (.ref Dl) s (upd F Dl (.lst acc)))
end
end Obr
/-! a comprehension over a zip of two lists, or two tuples, of any lengths -/
namespace Obr
open PySem L2 PySem.Spec PyProof.Rows RZ
theorem walk_zipLL {K : PySem.W.Frag} {a b : Addr} {xs ys : List V} {n : Nat} (hn : n = min xs.length ys.length) : Walk (Itz K a b) n (fun H => SqL K H a xs ∧ SqL K H b ys) (YPair (fun i => xs[i]?) (fun i => ys[i]?)) := by
  subst hn
  refine ⟨fun i _ hi q => ?_, fun _ q => ⟨xs, ys, q.1, q.2, by omega⟩, fun i H v H' _ q y => ?_⟩
  · have c1 : i < xs.length := by omega
    have c2 : i < ys.length := by omega
    exact ⟨xs, ys, _, _, q.1, q.2, List.getElem?_eq_getElem c1, List.getElem?_eq_getElem c2⟩
  · obtain ⟨T, x, y', h1, h2, h3, h4, h5⟩ := y
    exact ⟨T, x, y', h1, h2, h3, h4 xs q.1, h5 ys q.2⟩
section
variable {S : Type} {J : S → Hp → Hp → Prop} {K : PySem.W.Frag} {σ : L2.St} {s : S} {F : Hp} {R : V → S → Hp → Prop} {te : TE} {tt : TT} {g : TG} {ta : TA} {vs : List Nat}
def ZipAsk2 (J : S → Hp → Hp → Prop) (g : TG) (tt : TT) (te : TE) (vs : List Nat) (σ : L2.St) (xs ys : List V) (R : V → S → Hp → Prop) (s1 : S) (F1 : Hp) (st : Hp → Prop) : Prop :=
  xs.length ≤ 100000 ∧ ∀ Dl, F1 Dl = none → ∃ Pv : Nat → List V → S → Hp → Prop, Pv 0 [] s1 F1 ∧
      (∀ i acc s F, i ≤ min xs.length ys.length → F Dl = none → Pv i acc s F → st F ∧ acc.length ≤ i) ∧ (∀ (i : Nat) acc x y s F T, xs[i]? = some x → ys[i]? = some y → F Dl = none → Pv i acc s F → F T = none → T ≠ Dl → LcTurn J Dl g tt te vs σ acc (.ref T) s (upd F T (.tup [x, y])) (Pv (i + 1))) ∧
      (∀ acc s F, F Dl = none → Pv (min xs.length ys.length) acc s F → R (.ref Dl) s (upd F Dl (.lst acc)))
theorem ew_lcZ2L (hd : Hid J) (h : AW J ta σ s F fun ws s1 F1 => ∃ a b xs ys, ws = [.ref a, .ref b] ∧ SqL K F1 a xs ∧ SqL K F1 b ys ∧ ZipAsk2 J g tt te vs σ xs ys R s1 F1 (fun G => SqL K G a xs ∧ SqL K G b ys)) : EW J (tLc (iZipA K ta) g tt te vs) σ s F R := fun H j Q q =>
  h H j _ fun v s1 F1 H1 j1 ⟨a, b, xs, ys, e, l1, l2, hz, k⟩ => ⟨a, b, xs, ys, e, Or.inl ⟨hd.sqL j1 l1, hd.sqL j1 l2, fun Dl hD => by
    have fD := hd.fresh j1 hD
    obtain ⟨Pv, h0, hl, hs, hdn⟩ := k Dl fD
    refine lc_it (walk_zipLL (xs := xs) (ys := ys) (n := min xs.length ys.length) rfl) (fun i H => ∃ acc s F, i ≤ min xs.length ys.length ∧ F Dl = none ∧ J s (upd F Dl (.lst acc)) H ∧ Pv i acc s F) ⟨[], s1, F1, Nat.zero_le _, fD, hd.al j1 hD, h0⟩ (fun i H' hi ⟨acc, s', F', _, f1, j', p⟩ => ?_) (fun i x H' H'' hi ⟨acc, s', F', hle, f1, j', p⟩ ⟨T, y, z, ex, hT, eH, e1, e2⟩ => ?_) (fun H' ⟨acc, s', F', _, f1, j', p⟩ => q _ _ _ _ j' (hdn acc s' F' f1 p))
    · obtain ⟨⟨c1, c2⟩, _⟩ := hl i acc s' F' hi f1 p
      exact ⟨hd.sqL j' (Ex.sqL (Ex.out (Ex.refl _) f1) c1), hd.sqL j' (Ex.sqL (Ex.out (Ex.refl _) f1) c2)⟩
    · subst ex eH
      obtain ⟨_, f3⟩ := hl i acc s' F' hle f1 p
      have hT2 := hd.fresh j' hT
      have hne : T ≠ Dl := fun q => by rw [q, upd_same] at hT2; cases hT2
      have hT3 : F' T = none := by rw [upd_ne hne] at hT2; exact hT2
      have jd := (Hid.jd (D := Dl) (acc := acc) hd).al (s := s') (F := F') (H := H') (p := T) (o := .tup [y, z]) ⟨f1, j'⟩ hT
      exact lc_step hd (by omega) (hs i acc y z s' F' T e1 e2 f1 p hT3 hne) jd.1 jd.2 fun acc s F H fd j p => ⟨acc, s, F, by omega, fd, j, p⟩⟩⟩
theorem ew_lcZ2T (hd : Hid J) (h : AW J ta σ s F fun ws s1 F1 => ∃ a b xs ys, ws = [.ref a, .ref b] ∧ SqT K F1 a xs ∧ SqT K F1 b ys ∧ ZipAsk2 J g tt te vs σ xs ys R s1 F1 (fun G => SqT K G a xs ∧ SqT K G b ys)) : EW J (tLc (iZipA K ta) g tt te vs) σ s F R := fun H j Q q =>
  h H j _ fun v s1 F1 H1 j1 ⟨a, b, xs, ys, e, l1, l2, hz, k⟩ => ⟨a, b, xs, ys, e, Or.inr ⟨hd.sqT j1 l1, hd.sqT j1 l2, fun Dl hD => by
    have fD := hd.fresh j1 hD
    obtain ⟨Pv, h0, hl, hs, hdn⟩ := k Dl fD
    refine lc_it (walk_zipT (xs := xs) (ys := ys) (n := min xs.length ys.length) rfl) (fun i H => ∃ acc s F, i ≤ min xs.length ys.length ∧ F Dl = none ∧ J s (upd F Dl (.lst acc)) H ∧ Pv i acc s F) ⟨[], s1, F1, Nat.zero_le _, fD, hd.al j1 hD, h0⟩ (fun i H' hi ⟨acc, s', F', _, f1, j', p⟩ => ?_) (fun i x H' H'' hi ⟨acc, s', F', hle, f1, j', p⟩ ⟨T, y, z, ex, hT, eH, e1, e2⟩ => ?_) (fun H' ⟨acc, s', F', _, f1, j', p⟩ => q _ _ _ _ j' (hdn acc s' F' f1 p))
    · obtain ⟨⟨c1, c2⟩, _⟩ := hl i acc s' F' hi f1 p
      exact ⟨hd.sqT j' (Ex.sqT (Ex.out (Ex.refl _) f1) c1), hd.sqT j' (Ex.sqT (Ex.out (Ex.refl _) f1) c2)⟩
    · subst ex eH
      obtain ⟨_, f3⟩ := hl i acc s' F' hle f1 p
      have hT2 := hd.fresh j' hT
      have hne : T ≠ Dl := fun q => by rw [q, upd_same] at hT2; cases hT2
      have hT3 : F' T = none := by rw [upd_ne hne] at hT2; exact hT2
      have jd := (Hid.jd (D := Dl) (acc := acc) hd).al (s := s') (F := F') (H := H') (p := T) (o := .tup [y, z]) ⟨f1, j'⟩ hT
      exact lc_step hd (by omega) (hs i acc y z s' F' T e1 e2 f1 p hT3 hne) jd.1 jd.2 fun acc s F H fd j p => ⟨acc, s, F, by omega, fd, j, p⟩⟩⟩
end
end Obr
/-! enumerate of a list in a for; comprehensions that read items one by one and change nothing -/
namespace Obr
open PySem L2 PySem.Spec PyProof.Rows RZ
theorem walk_enumL {K : PySem.W.Frag} {a : Addr} {xs : List V} : Walk (Ite K a) xs.length (fun H => SqL K H a xs) (YPair (fun i => some (.int (i : Nat))) (fun i => xs[i]?)) := by
  refine ⟨fun i _ hi q => ⟨xs, xs[i], q, by simp [hi]⟩, fun _ q => ⟨xs, q, Nat.le_refl _⟩, fun i H v H' _ q y => ?_⟩
  obtain ⟨T, x, h1, h2, h3, h4⟩ := y
  exact ⟨T, .int (i : Nat), x, h1, h2, h3, rfl, h4 xs q⟩
section
variable {S : Type} {J : S → Hp → Hp → Prop} {K : PySem.W.Frag} {σ : L2.St} {s : S} {F : Hp} {R : V → S → Hp → Prop} {te tl : TE} {tt : TT} {t : TS} {g : TG} {ta : TA} {D : En S} {vs : List Nat}
theorem sw_forEL (hd : Hid J) (h : AW J ta σ s F fun ws s1 F1 => ∃ (a : Addr) (xs : List V) (Pv : Nat → L2.St → S → Hp → Prop), ws = [.ref a] ∧ SqL K F1 a xs ∧ Pv 0 σ s1 F1 ∧ (∀ i σ s F, i ≤ xs.length → Pv i σ s F → SqL K F a xs) ∧
      (∀ (i : Nat) x σ s F T, xs[i]? = some x → Pv i σ s F → F T = none → GW J g (.ref T) σ s (upd F T (.tup [.int (i : Int), x])) fun σ s F => SW J t { D with nx := Pv (i + 1), ct := Pv (i + 1), bk := D.nx } σ s F) ∧ (∀ σ s F, Pv xs.length σ s F → D.nx σ s F)) :
    SW J (tFor (iEnum K ta) g t) D σ s F := fun H j D' l =>
  h H j _ fun v s1 F1 H1 j1 ⟨a, xs, Pv, e, l1, h0, hl, hs, hdn⟩ => ⟨a, xs, e, hd.sqL j1 l1, for_it walk_enumL (fun i σ H => ∃ s F, J s F H ∧ Pv i σ s F) ⟨s1, F1, j1, h0⟩
    (fun i σ' H' hi ⟨s', F', j', p⟩ => hd.sqL j' (hl i σ' s' F' hi p))
    (fun i x σ' H' H'' hi ⟨s', F', j', p⟩ ⟨T, y, z, ex, hT, eH, e1, e2⟩ => by
      subst ex eH
      cases e1
      exact hs i z σ' s' F' T e2 p (hd.fresh j' hT) _ (hd.al j' hT) _ fun σ2 s2 F2 H2 j2 k => k H2 j2 _ ⟨fun σ3 s3 F3 H3 j3 k3 => ⟨s3, F3, j3, k3⟩, l.rt, l.nx, fun σ3 s3 F3 H3 j3 k3 => ⟨s3, F3, j3, k3⟩⟩)
    (fun σ' H' ⟨s', F', j', p⟩ => l.nx _ _ _ _ j' (hdn σ' s' F' p))⟩
/-- a list or a tuple -/
def SqO (K : PySem.W.Frag) (F : Hp) (a : Addr) (xs : List V) : Prop := SqL K F a xs ∨ SqT K F a xs
theorem Ex.sqO {F G : Hp} (g : Ex F G) {a : Addr} {xs : List V} (h : SqO K F a xs) : SqO K G a xs := h.imp (fun z => g.sqL z) fun z => g.sqT z
theorem AW.imp {tr : TA} {R R' : List V → S → Hp → Prop} (h : AW J tr σ s F R) (i : ∀ v s' F', R v s' F' → R' v s' F') : AW J tr σ s F R' := fun H j Q q => h H j Q fun v s' F' H' j' r => q v s' F' H' j' (i _ _ _ r)
theorem sw_forEO (hd : Hid J) {B : Hp} {a : Addr} {xs : List V} (Pv : Nat → L2.St → S → Hp → Prop) (h : AW J ta σ s F fun ws s1 F1 => ws = [.ref a] ∧ s1 = s ∧ F1 = F) (row : SqO K B a xs) (h0 : Pv 0 σ s F) (hx : ∀ i σ s' F', i ≤ xs.length → Pv i σ s' F' → Ex B F')
    (turn : ∀ (i : Nat) x σ s F T, xs[i]? = some x → Pv i σ s F → F T = none → GW J g (.ref T) σ s (upd F T (.tup [.int (i : Int), x])) fun σ s F => SW J t { D with nx := Pv (i + 1), ct := Pv (i + 1), bk := D.nx } σ s F) (done : ∀ σ s F, Pv xs.length σ s F → D.nx σ s F) :
    SW J (tFor (wiOr (iEnum K ta) (iEnumT K ta)) g t) D σ s F := by
  rcases row with r | r
  · exact sw_forO1 (sw_forEL hd (AW.imp h fun ws s1 F1 ⟨e1, e2, e3⟩ => by
      subst e1 e2 e3
      exact ⟨a, xs, Pv, rfl, (hx 0 _ _ _ (Nat.zero_le _) h0).sqL r, h0, fun i σ s' F' hi p => (hx i σ s' F' hi p).sqL r, turn, done⟩))
  · exact sw_forO2 (sw_forET hd (AW.imp h fun ws s1 F1 ⟨e1, e2, e3⟩ => by
      subst e1 e2 e3
      exact ⟨a, xs, Pv, rfl, (hx 0 _ _ _ (Nat.zero_le _) h0).sqT r, h0, fun i σ s' F' hi p => (hx i σ s' F' hi p).sqT r, turn, done⟩))
theorem sw_forO (hd : Hid J) {B : Hp} {a : Addr} {xs : List V} (Pv : Nat → L2.St → S → Hp → Prop) (h : EW J te σ s F fun v s1 F1 => v = .ref a ∧ s1 = s ∧ F1 = F) (row : SqO K B a xs) (h0 : Pv 0 σ s F) (hx : ∀ i σ s' F', i ≤ xs.length → Pv i σ s' F' → Ex B F')
    (turn : ∀ (i : Nat) x σ s F, xs[i]? = some x → Pv i σ s F → GW J g x σ s F fun σ s F => SW J t { D with nx := Pv (i + 1), ct := Pv (i + 1), bk := D.nx } σ s F) (done : ∀ σ s F, Pv xs.length σ s F → D.nx σ s F) :
    SW J (tFor (wiOr (iList K te) (iTup K te)) g t) D σ s F := by
  rcases row with r | r
  · exact sw_forO1 (sw_forL hd (h.imp fun v s1 F1 ⟨e1, e2, e3⟩ => by
      subst e1 e2 e3
      exact ⟨a, xs, Pv, rfl, (hx 0 _ _ _ (Nat.zero_le _) h0).sqL r, h0, fun i σ s' F' hi p => (hx i σ s' F' hi p).sqL r, turn, done⟩))
  · exact sw_forO2 (sw_forT hd (h.imp fun v s1 F1 ⟨e1, e2, e3⟩ => by
      subst e1 e2 e3
      exact ⟨a, xs, Pv, rfl, (hx 0 _ _ _ (Nat.zero_le _) h0).sqT r, h0, fun i σ s' F' hi p => (hx i σ s' F' hi p).sqT r, turn, done⟩))
/-- [f(x) for x in a list or tuple] that changes nothing but makes new things -/
theorem lc_turns {α : Type} (hd : Hid J) {e f : α → V} {l : List α} {Dl : Addr} (st : Hp → Prop) (hst : ∀ G, Ex F G → st G)
    (turn : ∀ (i : Nat) x acc G, l[i]? = some x → Ex F G → G Dl = none → LcTurn J Dl g tt te vs σ acc (e x) s G fun acc' s' G' => s' = s ∧ Ex G G' ∧ acc' = acc ++ [f x])
    (k : ∀ G, Ex F G → G Dl = some (.lst (l.map f)) → R (.ref Dl) s G) :
    ∃ Pv : Nat → List V → S → Hp → Prop, Pv 0 [] s F ∧ (∀ i acc s F, i ≤ (l.map e).length → F Dl = none → Pv i acc s F → st F ∧ acc.length ≤ i) ∧
      (∀ (i : Nat) acc x s F, (l.map e)[i]? = some x → F Dl = none → Pv i acc s F → LcTurn J Dl g tt te vs σ acc x s F (Pv (i + 1))) ∧
      (∀ acc s F, F Dl = none → Pv (l.map e).length acc s F → R (.ref Dl) s (upd F Dl (.lst acc))) := by
  refine ⟨fun i acc s' G => s' = s ∧ Ex F G ∧ acc = (l.take i).map f, ⟨rfl, .refl _, rfl⟩, ?_, ?_, ?_⟩
  · rintro i acc s' G hi _ ⟨rfl, g1, rfl⟩
    exact ⟨hst _ g1, by rw [List.length_map]; exact List.length_take_le _ _⟩
  · rintro i acc x s' G hi hD ⟨rfl, g1, rfl⟩
    rw [List.getElem?_map] at hi
    obtain ⟨y, hy, rfl⟩ := Option.map_eq_some_iff.mp hi
    have z := turn i y ((l.take i).map f) G hy g1 hD
    unfold LcTurn at z ⊢
    intro H j Q q
    refine z H j Q fun σ2 s2 F2 H2 j2 ⟨h1, h2⟩ => q σ2 s2 F2 H2 j2 ⟨h1, fun H3 j3 Q3 q3 => h2 H3 j3 Q3 fun b s4 F4 H4 j4 ⟨p1, p2⟩ => q3 b s4 F4 H4 j4 ⟨fun hb => ?_, fun hb => ?_⟩⟩
    · refine (p1 hb).imp fun v s5 F5 ⟨y1, y2, y3⟩ => ⟨y1, g1.trans y2, ?_⟩
      rw [y3, List.take_succ, hy, List.map_append]
      rfl
    · obtain ⟨_, _, y3⟩ := p2 hb
      have := congrArg List.length y3
      simp at this
  · rintro acc s' G hD ⟨rfl, g1, rfl⟩
    rw [List.length_map, List.take_length]
    exact k _ (Ex.new g1 hD) upd_same
theorem ew_lcLf {α : Type} (hd : Hid J) {a : Addr} {e f : α → V} {l : List α} (h : EW J tl σ s F fun v s1 F1 => v = .ref a ∧ s1 = s ∧ F1 = F) (row : SqL K F a (l.map e)) (hl : l.length ≤ 100000)
    (turn : ∀ (i : Nat) x Dl acc G, l[i]? = some x → Ex F G → G Dl = none → LcTurn J Dl g tt te vs σ acc (e x) s G fun acc' s' G' => s' = s ∧ Ex G G' ∧ acc' = acc ++ [f x])
    (k : ∀ Dl G, Ex F G → G Dl = some (.lst (l.map f)) → R (.ref Dl) s G) : EW J (tLc (iList K tl) g tt te vs) σ s F R :=
  ew_lcL hd (h.imp fun v s1 F1 ⟨ev, es, eF⟩ => by
    subst ev es eF
    exact ⟨a, _, rfl, row, by rw [List.length_map]; exact hl, fun Dl _ => lc_turns hd (fun G => SqL K G a (l.map e)) (fun G g1 => g1.sqL row) (fun i x acc G => turn i x Dl acc G) (k Dl)⟩)
theorem ew_lcTf {α : Type} (hd : Hid J) {a : Addr} {e f : α → V} {l : List α} (h : EW J tl σ s F fun v s1 F1 => v = .ref a ∧ s1 = s ∧ F1 = F) (row : SqT K F a (l.map e)) (hl : l.length ≤ 100000)
    (turn : ∀ (i : Nat) x Dl acc G, l[i]? = some x → Ex F G → G Dl = none → LcTurn J Dl g tt te vs σ acc (e x) s G fun acc' s' G' => s' = s ∧ Ex G G' ∧ acc' = acc ++ [f x])
    (k : ∀ Dl G, Ex F G → G Dl = some (.lst (l.map f)) → R (.ref Dl) s G) : EW J (tLc (iTup K tl) g tt te vs) σ s F R :=
  ew_lcT hd (h.imp fun v s1 F1 ⟨ev, es, eF⟩ => by
    subst ev es eF
    exact ⟨a, _, rfl, row, by rw [List.length_map]; exact hl, fun Dl _ => lc_turns hd (fun G => SqT K G a (l.map e)) (fun G g1 => g1.sqT row) (fun i x acc G => turn i x Dl acc G) (k Dl)⟩)
theorem ew_lcOf {α : Type} (hd : Hid J) {a : Addr} {e f : α → V} {l : List α} (h : EW J tl σ s F fun v s1 F1 => v = .ref a ∧ s1 = s ∧ F1 = F) (row : SqO K F a (l.map e)) (hl : l.length ≤ 100000)
    (turn : ∀ (i : Nat) x Dl acc G, l[i]? = some x → Ex F G → G Dl = none → LcTurn J Dl g tt te vs σ acc (e x) s G fun acc' s' G' => s' = s ∧ Ex G G' ∧ acc' = acc ++ [f x])
    (k : ∀ Dl G, Ex F G → G Dl = some (.lst (l.map f)) → R (.ref Dl) s G) : EW J (tLc (wiOr (iList K tl) (iTup K tl)) g tt te vs) σ s F R := by
  rcases row with r | r
  · exact ew_lcO1 (ew_lcLf hd h r hl turn k)
  · exact ew_lcO2 (ew_lcTf hd h r hl turn k)
/-- [low < high for low, high in zip(row, row[1:])] -/
theorem zip_lt (hd : Hid J) {F1 : Hp} {s1 : S} {ks : List Int} {u0 u1 u2 u3 u4 u5 u6 : Option V} {st : Hp → Prop} (h5 : ks.length ≤ 1000) (hst : ∀ G, Ex F1 G → st G)
    (hR : ∀ Dl G, Ex F1 G → G Dl = some (.lst (((ks.zip (ks.drop 1)).map fun p => decide (p.1 < p.2)).map V.bl)) → R (.ref Dl) s1 G) :
    ZipAsk2 J (gTup K 2 (gCons (gName 3) (gCons (gName 4) gNil))) tYes (tOp (rI0 fun x y => V.bl (decide (x < y))) (tVar 3) (tVar 4)) [3, 4] [u0, u1, u2, u3, u4, u5, u6] (ks.map V.int) ((ks.map V.int).drop 1) R s1 F1 st := by
  have hzl : (ks.zip (ks.drop 1)).length = min (ks.map V.int).length ((ks.map V.int).drop 1).length := by simp
  refine ⟨by rw [List.length_map]; omega, fun Dl hDl => ⟨fun n acc s G => s = s1 ∧ Ex F1 G ∧ acc = (((ks.zip (ks.drop 1)).take n).map fun p => decide (p.1 < p.2)).map V.bl, ⟨rfl, .refl _, rfl⟩, ?_, ?_, ?_⟩⟩
  · rintro n acc s G hn hg ⟨rfl, g, rfl⟩
    exact ⟨hst G g, by rw [List.length_map, List.length_map]; exact List.length_take_le _ _⟩
  · rintro n acc x y s G T hx hy hg ⟨rfl, g, rfl⟩ hT hne
    rw [List.getElem?_map] at hx
    rw [List.getElem?_drop, List.getElem?_map] at hy
    obtain ⟨a, ha, rfl⟩ := Option.map_eq_some_iff.mp hx
    obtain ⟨b, hb, rfl⟩ := Option.map_eq_some_iff.mp hy
    have hz : (ks.zip (ks.drop 1))[n]? = some (a, b) := by
      rw [List.getElem?_zip_eq_some]
      exact ⟨ha, by rw [List.getElem?_drop]; exact hb⟩
    have hd' := hd.jd (D := Dl) (acc := (((ks.zip (ks.drop 1)).take n).map fun p => decide (p.1 < p.2)).map V.bl)
    refine gw_tup hd' ⟨T, _, rfl, SqT.of upd_same, rfl, gsw_cons (gw_name (gsw_cons (gw_name (gsw_nil ⟨rfl, tw_yes ⟨fun _ => ?_, (fun z => by cases z)⟩⟩))))⟩
    refine ew_op (ew_var rfl (ew_var rfl (rw_I0 ⟨rfl, Ex.new g hT, ?_⟩)))
    rw [List.take_succ, hz, List.map_append, List.map_append]
    rfl
  · rintro acc s G hg ⟨rfl, g, rfl⟩
    rw [← hzl, List.take_length]
    exact hR Dl _ (Ex.new g hg) upd_same
end
end Obr
/-! a shop that may grow, with what stands beside it: Breath's own cells -/
namespace Obr
open PySem L2 PyProof.Rows
def cutH (F : Hp) (a : Addr) : Hp := fun y => if y = a then none else F y
section
variable {sh : Bool} {K : PySem.W.Frag} {F0 F : Hp} {A : RAd} {t : LSt} {w : Wld} {r : Rgt} {p anew : Bool} {ex : List (Addr × HO)} {a : Addr} {o o' : HO}
end
/-! ### Breath -/
structure BAd where
  a : Addr
  dx : Addr
  C : Addr
  dl : Addr
def bkeys : List Str := ["run", "lent", "done"]
def bfs (A : RAd) (b : BAd) (ln : Int) : List (Str × V) := [("run", .ref A.a), ("lent", .int ln), ("done", .ref b.dl)]
/-- a breath: ds its deeds, ln what is lent -/
abbrev BEnt (K : PySem.W.Frag) (F0 F : Hp) (b : BAd) (A : RAd) (t : LSt) (w : Wld) (r : Rgt) (p : Bool) (ds : List V) (ln : Int) (ex : List (Addr × HO)) : Prop := SEnt false K F0 F A t w r p false ((b.a, .ins b.C b.dx (bfs A b ln)) :: (b.dl, .lst ds) :: ex)
/-! ### pauses -/
/-- what is left of a machine's steps once it is paused: those it has begun -/
def cutS (ss : List Stp) (m : Mac) : List Stp := if m.over < 0 then ss.take m.at_.toNat else ss.take (m.at_.toNat + 1)
def pzAd (ad : MAd) (z : Bool) : MAd := { ad with sv := { ad.sv with pz := z } }
/-- machine k is paused, or goes on -/
def pzA (A : RAd) (k : Nat) (ad : MAd) (z : Bool) : RAd := { A with mads := A.mads.set k (pzAd ad z), hp := true }
def stW (w : Wld) (k : Nat) (ss : List Stp) : Wld := { w with ms := w.ms.set k ss }
section
variable {sh : Bool} {K : PySem.W.Frag} {F0 F : Hp} {A : RAd} {t : LSt} {w : Wld} {r : Rgt} {p : Bool} {ex : List (Addr × HO)}
end
end Obr
/-! max(xs, default=d) of a list of ints -/
namespace Obr
open PySem PySem.Spec L2 PyProof.Rows
section
variable {prog : Program} {w : World} {A : Around} {E : Value → Shared → Prop} {s : Shared} {its : List Value} {ns : List Int} {l : Addr} {Q : Value → Shared → Prop}
theorem maxD_raw {d : Value} (hh : A.handled = none) (hl : s.heap.IsList l its.toArray) (hi : IntsAre its ns)
    (h0 : ns = [] → ∀ h' tk, (∀ b o, s.heap.get? b = some o → h'.get? b = some o) → Q d { s with heap := h', toks := tk })
    (h : ∀ h' tk M t', (∀ b o, s.heap.get? b = some o → h'.get? b = some o) → M ∈ ns → (∀ a, a ∈ ns → a ≤ M) → Q (.int M t') { s with heap := h', toks := tk }) : wpAny (model prog w) A (call (.builtin "max") [.ref l] [(Str.ofString "default", d)]) Q E s := by
  obtain ⟨xs, e⟩ := hi.allInts.items
  have hn : numsOf (intItems xs).toList = ns := by rw [← e]; exact hi.numsOf
  rw [nums_intItems] at hn
  subst hn
  rw [e] at hl
  have hs : (intItems xs).size = xs.size := by simp [intItems]
  refine call_max_walkD (PySem.W.iter_listW (A := A.in1) hh hl fun s₂ e2 W st hfp hw hk => ?_)
  refine ⟨_, _, _, _, _, _, _, s.heap, (fun i j => decide (numAt xs i > numAt xs j)), rfl, W, st, hfp, hw, hk, fun hz s' m => ?_, fun hp => ⟨fun i j vi vj s3 Q3 E3 _ hi hj hq => CmpOf.ints_gt (numAt xs) (fun _ _ => intItems_at) i j vi vj s3 Q3 E3 hi hj hq, fun v s' hP m => ?_⟩⟩
  · obtain ⟨h', tk, rfl, hk'⟩ := PySem.W.moved_old e2 rfl m
    refine h0 ?_ h' tk hk'
    have hz' : xs.size = 0 := by omega
    exact List.eq_nil_of_length_eq_zero (by rw [List.length_map, Array.length_toList]; exact hz')
  · obtain ⟨h', tk, rfl, hk'⟩ := PySem.W.moved_old e2 rfl m
    obtain ⟨t, rfl⟩ := intItems_at hP
    rw [hs] at hp hP
    obtain ⟨h1, h2⟩ := argBest_gt (numAt xs) (xs.size - 1)
    have e3 : argBest (fun i j => decide (numAt xs i > numAt xs j)) ((intItems xs).size - 1) = argBest (fun i j => decide (numAt xs i > numAt xs j)) (xs.size - 1) := by rw [hs]
    rw [e3]
    refine h h' tk _ t hk' ?_ fun a ha => ?_
    · rw [numAt_eq]; exact PySem.getD_mem (by rw [List.length_map, Array.length_toList]; omega)
    · obtain ⟨j, hj, rfl⟩ := mem_getD ha
      rw [List.length_map, Array.length_toList] at hj
      rw [← numAt_eq]; exact h2 j (by omega)
end
/-- the greatest, 0 for none -/
def maxZ (ns : List Int) : Int := ns.foldl max 0
theorem foldl_max_le {m : Int} : ∀ (ns : List Int) (a : Int), a ≤ m → (∀ y ∈ ns, y ≤ m) → ns.foldl max a ≤ m
  | [], a, h, _ => h
  | x :: ns, a, h, h2 => foldl_max_le ns (max a x) (by have := h2 x (.head _); omega) fun y hy => h2 y (.tail _ hy)
theorem le_foldl_max : ∀ (ns : List Int) (a : Int), a ≤ ns.foldl max a ∧ ∀ y ∈ ns, y ≤ ns.foldl max a
  | [], a => ⟨Int.le_refl _, fun y hy => by cases hy⟩
  | x :: ns, a => by
    obtain ⟨h1, h2⟩ := le_foldl_max ns (max a x)
    refine ⟨by have : max a x ≤ List.foldl max (max a x) ns := h1; show a ≤ List.foldl max (max a x) ns; omega, fun y hy => ?_⟩
    rcases List.mem_cons.mp hy with rfl | hy
    · show y ≤ List.foldl max (max a y) ns; omega
    · exact h2 y hy
theorem maxZ_eq {m : Int} {ns : List Int} (h0 : ∀ y ∈ ns, 0 ≤ y) (hm : m ∈ ns) (h : ∀ y ∈ ns, y ≤ m) : m = maxZ ns := by
  have h1 := foldl_max_le ns 0 (h0 m hm) h
  have h2 := (le_foldl_max ns 0).2 m hm
  exact Int.le_antisymm h2 h1
def rMaxDf (K : PySem.W.Frag) : List V → List V → Hp → VK → Prop := fun vs zs H Q => ∃ (a : Addr) (ns : List Int), vs = [V.ref a] ∧ zs = [.int 0] ∧ SqL K H a (ns.map V.int) ∧ (∀ y ∈ ns, 0 ≤ y) ∧ Q (.int (maxZ ns)) H
theorem cr_maxD {X : Cx} (hc : X.calm = true) : CallRK X (.builtin "max") [Str.ofString "default"] (rMaxDf X.K) := by
  intro pins s σ H vs zs us ws Q I r rz h
  obtain ⟨a, ns, rfl, rfl, hs, h0, q⟩ := h
  obtain ⟨its, rv, hl, _⟩ := I.list hs
  obtain rfl := Vals.ref1 r
  obtain ⟨w1, rfl, e1⟩ := vals1 rz
  obtain ⟨t0, rfl⟩ := e1
  refine maxD_raw (I.ok.hd hc) hl.isList rv.ints (fun e h' tk hk => ?_) fun h' tk m t' hk h1 h2 => ?_
  · subst e
    exact ⟨.int _, H, I.kept hk, ⟨_, rfl⟩, q⟩
  · refine ⟨.int _, H, I.kept hk, ⟨_, rfl⟩, ?_⟩
    rw [maxZ_eq h0 h1 h2]
    exact q
section
variable {S : Type} {J : S → Hp → Hp → Prop} {K : PySem.W.Frag} {σ : L2.St} {s : S} {F : Hp} {R : V → S → Hp → Prop} {t tk : TA}
theorem ew_maxD (hd : Hid J) (h : AW J t σ s F fun vs s1 F1 => ∃ (a : Addr) (ns : List Int), vs = [V.ref a] ∧ SqL K F1 a (ns.map V.int) ∧ (∀ y ∈ ns, 0 ≤ y) ∧ AW J tk σ s1 F1 fun zs s2 F2 => zs = [.int 0] ∧ SqL K F2 a (ns.map V.int) ∧ R (.int (maxZ ns)) s2 F2) : EW J (tCKw (rMaxDf K) t tk) σ s F R := fun H j Q q =>
  h H j _ fun vs s1 F1 H1 j1 ⟨a, ns, e, l, h0, k⟩ => k H1 j1 _ fun zs s2 F2 H2 j2 ⟨ez, l2, r⟩ => ⟨a, ns, e, ez, hd.sqL j2 l2, h0, q _ _ _ _ j2 r⟩
end
/-! ### [e for x in tuple for z in tuple]: e reads what is there and makes nothing -/
theorem flat_len {β : Type} {n : Nat} : ∀ (l : List (List β)), (∀ x ∈ l, x.length ≤ n) → l.flatten.length ≤ l.length * n
  | [], _ => Nat.zero_le _
  | x :: l, h => by
    have h1 := h x (.head _)
    have h2 := flat_len l fun y hy => h y (.tail _ hy)
    rw [List.flatten_cons, List.length_append, List.length_cons, Nat.add_mul, Nat.one_mul]
    omega
theorem flat_take {β : Type} {l : List (List β)} {i : Nat} {x : List β} (h : l[i]? = some x) : (l.take (i + 1)).flatten = (l.take i).flatten ++ x := by
  rw [List.take_succ, h, List.flatten_append]
  simp
section
variable {S : Type} {J : S → Hp → Hp → Prop} {K : PySem.W.Frag} {σ : L2.St} {s : S} {F : Hp} {R : V → S → Hp → Prop} {tl tl1 te : TE} {g g1 : TG} {vs vs1 : List Nat}
theorem tYes_ok {σ : L2.St} {H : Hp} {A B : Hp → Prop} (h : A H) : tYes σ H fun b H3 => if b = true then A H3 else B H3 := h
theorem ew_lc2T (hd : Hid J) (h : EW J tl σ s F fun v s1 F1 => ∃ (a : Addr) (xs : List V) (ws : List (List V)), v = .ref a ∧ SqT K F1 a xs ∧ xs.length = ws.length ∧ ws.length ≤ 100 ∧ (∀ us ∈ ws, us.length ≤ 100) ∧
      (∀ (i : Nat) x us, xs[i]? = some x → ws[i]? = some us → ∀ (Dl : Addr) (acc : List V), F1 Dl = none → GW (JD J Dl acc) g x (wipe σ vs) s1 F1 fun σ2 s2 F2 => s2 = s1 ∧ F2 = F1 ∧ wipe σ2 vs = wipe σ vs ∧ EW (JD J Dl acc) tl1 σ2 s1 F1 fun v2 s3 F3 => s3 = s1 ∧ F3 = F1 ∧ ∃ b zs, v2 = .ref b ∧ SqT K F1 b zs ∧ zs.length = us.length ∧
        ∀ (k : Nat) z u, zs[k]? = some z → us[k]? = some u → ∀ acc' : List V, GW (JD J Dl acc') g1 z (wipe σ2 vs1) s1 F1 fun σ3 s4 F4 => s4 = s1 ∧ F4 = F1 ∧ wipe σ3 vs1 = wipe σ2 vs1 ∧ EW (JD J Dl acc') te σ3 s1 F1 fun y s5 F5 => s5 = s1 ∧ F5 = F1 ∧ y = u) ∧
      ∀ Dl, F1 Dl = none → R (.ref Dl) s1 (upd F1 Dl (.lst ws.flatten))) : EW J (tLc2 (iTup K tl) g tYes (iTup K tl1) g1 tYes te vs vs1) σ s F R := fun H j Q q =>
  h H j _ fun v s1 F1 H1 j1 ⟨a, xs, ws, e, l1, hxw, hx, hz, hs, hR⟩ => ⟨a, e, ⟨xs, hd.sqT j1 l1⟩, fun Dl hD => by
    have fD := hd.fresh j1 hD
    have gD : ∀ acc : List V, Ex F1 (upd F1 Dl (.lst acc)) := fun acc => Ex.new (.refl _) fD
    refine ⟨fun i m H => m = xs.length - i ∧ i ≤ xs.length ∧ J s1 (upd F1 Dl (.lst (ws.take i).flatten)) H, ⟨_, rfl, Nat.zero_le _, hd.al j1 hD⟩, ?_⟩
    rintro i m H ⟨rfl, hi, j'⟩
    have q0 : SqT K H a xs := hd.sqT j' ((gD _).sqT l1)
    by_cases hlt : i < xs.length
    · refine .inr ⟨⟨xs, xs[i], q0, by simp [hlt]⟩, fun H' => J s1 (upd F1 Dl (.lst (ws.take (i + 1)).flatten)) H', fun H' p' => ⟨xs.length - (i + 1), by omega, rfl, hlt, p'⟩, fun x H' y => ?_⟩
      obtain ⟨e, y⟩ := y
      subst e
      have hxi := y xs q0
      obtain ⟨us, hui⟩ : ∃ us, ws[i]? = some us := ⟨_, List.getElem?_eq_getElem (by omega)⟩
      have hul := hz us (List.mem_of_getElem? hui)
      refine hs i x us hxi hui Dl _ fD _ ⟨fD, j'⟩ _ fun σ2 s2 F2 H2 j2 ⟨es, eF, hw, k⟩ => ⟨hw, ?_⟩
      subst es eF
      refine tYes_ok ?_
      refine k H2 j2 _ fun v2 s3 F3 H3 j3 ⟨es3, eF3, b, zs, eb, l2, hzl, k2⟩ => ⟨b, eb, ⟨zs, hd.sqT (j3.2) (Ex.sqT (by rw [eF3]; exact gD _) l2)⟩, ?_⟩
      subst es3 eF3
      refine ⟨fun jj k H => k = zs.length - jj ∧ jj ≤ zs.length ∧ J s3 (upd F3 Dl (.lst ((ws.take i).flatten ++ us.take jj))) H, ⟨_, rfl, Nat.zero_le _, by simpa using j3.2⟩, ?_⟩
      rintro jj m1 H4 ⟨rfl, hj, j4⟩
      have sq : SqT K H4 b zs := hd.sqT j4 ((gD _).sqT l2)
      by_cases hlt2 : jj < zs.length
      · refine .inr ⟨⟨zs, zs[jj], sq, by simp [hlt2]⟩, fun H' => J s3 (upd F3 Dl (.lst ((ws.take i).flatten ++ us.take (jj + 1)))) H', fun H' p' => ⟨zs.length - (jj + 1), by omega, rfl, hlt2, p'⟩, fun z H5 y5 => ?_⟩
        obtain ⟨e5, y5⟩ := y5
        subst e5
        have hz5 := y5 zs sq
        obtain ⟨u, hu5⟩ : ∃ u, us[jj]? = some u := ⟨_, List.getElem?_eq_getElem (by omega)⟩
        refine k2 jj z u hz5 hu5 _ _ ⟨fD, j4⟩ _ fun σ3 s6 F6 H6 j6 ⟨e1, e2, hw3, k3⟩ => ⟨hw3, ?_⟩
        subst e1 e2
        refine tYes_ok ?_
        refine k3 H6 j6 _ fun y s7 F7 H7 j7 ⟨e1, e2, e3⟩ => ?_
        subst e1 e2 e3
        refine ⟨_, hd.ex j7.2 _ _ upd_same, ?_, ?_⟩
        · have h1 := flat_len (n := 100) (ws.take i) fun y hy => hz y (List.mem_of_mem_take hy)
          have h2 : (ws.take i).length ≤ 100 := Nat.le_trans (List.length_take_le _ _) (by omega)
          have h3 : (us.take jj).length ≤ 100 := Nat.le_trans (List.length_take_le _ _) (by omega)
          rw [List.length_append]
          have h4 : (ws.take i).length * 100 ≤ 10000 := Nat.le_trans (Nat.mul_le_mul_right 100 h2) (by decide)
          have h5 : (20000 : Nat) < sizeLine := by decide
          omega
        · have z9 := hd.mu (o' := .lst (((ws.take i).flatten ++ us.take jj) ++ [y])) j7.2 upd_same
          rw [upd_upd] at z9
          rw [List.take_succ, hu5, ← List.append_assoc]
          exact z9
      · have e5 : jj = zs.length := by omega
        subst e5
        refine .inl ⟨⟨zs, sq, Nat.le_refl _⟩, ?_⟩
        show J s3 _ H4
        rw [flat_take hui]
        rw [hzl, List.take_length] at j4
        exact j4
    · have e5 : i = xs.length := by omega
      subst e5
      refine .inl ⟨⟨xs, q0, Nat.le_refl _⟩, ?_⟩
      rw [hxw, List.take_length] at j'
      exact q _ _ _ _ j' (hR Dl fD)⟩
end
end Obr
namespace Obr
open PySem L2 PyProof.Rows
local macro_rules | `(tactic| walk_at "ob_at") => `(tactic| first
  | assumption
  | exact upd_same
  | (refine Eq.trans (upd_ne ?obn) ?obr; (case obn => walk_at "ob_ne"); (case obr => walk_at "ob_at")))
local macro_rules | `(tactic| walk_at "ob_ne") => `(tactic| first
  | assumption
  | (refine Ne.symm ?obs; (case obs => assumption))
  | (refine' ne_of_none (H := ?_) ?obe ?obh; (case obh => assumption); (case obe => walk_at "ob_at"))
  | (refine Ne.symm ?obs; (case obs => (refine' ne_of_none (H := ?_) ?obe ?obh; (case obh => assumption); (case obe => walk_at "ob_at")))))
local macro_rules | `(tactic| walk_at "ob_fr") => `(tactic| first
  | assumption
  | (refine Eq.trans (upd_ne ?obn) ?obr; (case obn => walk_at "ob_ne"); (case obr => walk_at "ob_fr"))
  | (refine Ex.free (G := ?_) (by assumption) ?obh; (case obh => walk_at "ob_fr")))
local macro_rules | `(tactic| walk_at "ob_ex") => `(tactic| first
  | assumption
  | exact Ex.refl _
  | (refine Ex.out ?obg ?obh; (case obh => assumption); (case obg => walk_at "ob_ex"))
  | (refine Ex.new ?obg ?obh; (case obh => assumption); (case obg => walk_at "ob_ex"))
  | (refine Ex.new ?obg ?obh; (case obh => walk_at "ob_fr"); (case obg => walk_at "ob_ex")))
local macro_rules | `(tactic| walk_at "ob_sq") => `(tactic| first
  | assumption
  | (refine SqL.of ?oba; (case oba => walk_at "ob_at"))
  | (refine Ex.sqT (F := ?_) ?obg ?obh; (case obh => assumption); (case obg => walk_at "ob_ex"))
  | (refine Ex.sqL (F := ?_) ?obg ?obh; (case obh => assumption); (case obg => walk_at "ob_ex"))
  | (refine SqT.of ?oba; (case oba => walk_at "ob_at")))
local macro_rules | `(tactic| walk_at "ob_side") => `(tactic| first | exact rfl | assumption | decide | omega | exact ⟨by decide, by decide, by decide⟩ | exact Or.inr ⟨by decide, by decide⟩ | exact Or.inl ⟨by decide, by decide⟩ | exact wide_div (b := 60) (by first | decide | omega) (by first | decide | omega) (by decide) (by decide))
local macro_rules | `(tactic| walk_at "ob1") => `(tactic| first
  | with_reducible refine sw_seq ?_
  | with_reducible refine sw_asg ?_
  | with_reducible refine sw_ret ?_
  | with_reducible refine sw_par ?_
  | with_reducible refine ⟨_, _, rfl, ?_⟩
  | with_reducible refine sw_drop ?_
  | with_reducible refine sw_if ?_
  | with_reducible refine sw_next ?_
  | with_reducible refine gw_name ?_
  | with_reducible refine gw_subL (by assumption) ?_
  | with_reducible refine gsw_cons ?_
  | with_reducible refine gsw_nil ?_
  | with_reducible refine ew_c ?_
  | ((with_reducible refine' ew_var (v := ?_) ?obv ?_); (case obv => exact rfl))
  | ((with_reducible refine ew_next (by assumption) ?obv ?_); (case obv => exact rfl))
  | ((with_reducible refine ew_world (by assumption) ?obv ?_); (case obv => exact rfl))
  | ((with_reducible refine ew_rule (by assumption) ?obv ?_); (case obv => exact rfl))
  | with_reducible refine ew_op ?_
  | with_reducible refine ew_un ?_
  | with_reducible refine ew_dget (by assumption) ?_
  | with_reducible refine uw_I ?_
  | with_reducible refine ppw_nil ?_
  | with_reducible refine ppw_cons ?_
  | with_reducible refine sw_dput (by assumption) ?_
  | with_reducible refine ew_cb ?_
  | with_reducible refine ew_if ?_
  | with_reducible refine ew_slL (by assumption) ?_
  | with_reducible refine ow_some ?_
  | with_reducible refine ow_none ?_
  | with_reducible refine aw_nil ?_
  | with_reducible refine aw_cons ?_
  | with_reducible refine rw_I0 ?_
  | ((with_reducible refine rw_I ?obc ?_); (case obc => walk_at "ob_side"))
  | with_reducible refine rw_isN ?_
  | with_reducible refine rw_notN ?_
  | ((with_reducible refine rw_eq ?obc ?_); (case obc => exact rfl))
  | ((with_reducible refine rw_ne ?obc ?_); (case obc => exact rfl))
  | with_reducible refine cw_max2 ?_
  | with_reducible refine cw_min2 ?_
  | with_reducible refine tw_test ?_
  | with_reducible refine tw_B ?_
  | with_reducible refine tw_not ?_
  | with_reducible refine tw_truB ?_
  | with_reducible refine tw_and ?_
  | with_reducible refine tw_or ?_
  | with_reducible refine ew_and ?_
  | (refine' Exists.intro _ (And.intro (show V.bl _ = V.bl _ from rfl) ?_))
  | (refine' Exists.intro _ (And.intro (show V.int _ = V.int _ from rfl) ?_))
  | ((with_reducible refine' rw_ixL (v := ?_) (xs := ?_) (by assumption) ?obl ?oba ?_); (case obl => walk_at "ob_sq"); (case oba => first | exact rfl | exact at_zero))
  | ((with_reducible refine' rw_ixT (v := ?_) (xs := ?_) (by assumption) ?obl ?oba ?_); (case obl => walk_at "ob_sq"); (case oba => first | exact rfl | exact at_zero))
  | ((with_reducible refine' ew_lst (by assumption) ?_))
  | ((with_reducible refine' ew_tup (by assumption) ?_)))
local macro_rules | `(tactic| walk_at "ob_len") => `(tactic| first | exact Nat.le_of_ble_eq_true rfl | (simp; done) | omega)
local macro_rules | `(tactic| walk_at "ob") => `(tactic| repeat walk_at "ob1")

/-! ### the checks -/
section
variable {S : Type} {J : S → Hp → Hp → Prop} {σ : L2.St} {s : S} {F : Hp} {ta tb tc : TE} {R : V → S → Hp → Prop}
theorem ew_between (h : EW J ta σ s F fun x s1 F1 => ∃ i, x = .int i ∧ EW J tb σ s1 F1 fun y s2 F2 => ∃ k, y = .int k ∧ i ≤ k ∧ EW J tc σ s2 F2 fun z s3 F3 => ∃ l, z = .int l ∧ k ≤ l ∧ R (.bl true) s3 F3) :
    EW J (tChain (rI0 fun i j => .bl (decide (i ≤ j))) (rI0 fun i j => .bl (decide (i ≤ j))) ta tb tc) σ s F R :=
  ew_chain (h.imp fun x s1 F1 ⟨i, ex, h1⟩ => by
    subst ex
    exact h1.imp fun y s2 F2 ⟨k, ey, hik, h2⟩ => by
      subst ey
      refine rw_I0 ⟨_, rfl, fun _ => h2.imp fun z s3 F3 ⟨l, ez, hkl, r⟩ => ?_, fun hb => ?_⟩
      · subst ez
        refine rw_I0 ?_
        rw [decide_eq_true hkl]
        exact r
      · rw [decide_eq_true hik] at hb
        cases hb)
end
def aIsStep (K : PySem.W.Frag) : List V → Hp → VK → Prop := fun vs F R => ∃ (v : V) (cap : Int) (st : Stp), vs = [v, .int cap] ∧ Dp K F v (stpD st) ∧ StpOk cap st ∧ R (.bl true) F
def aChkSt (K : PySem.W.Frag) : List V → Hp → VK → Prop := fun vs F R => ∃ (v : V) (w : Wld), vs = [v] ∧ Dp K F v (stoD w) ∧ WldOk w ∧ R .non F
def aChkSs (K : PySem.W.Frag) : List V → Hp → VK → Prop := fun vs F R => ∃ (v : V) (n cap : Int) (ss : List Stp), vs = [.int n, v, .int cap] ∧ Dp K F v (macD ss) ∧ ss.length ≤ 6 ∧ (∀ st ∈ ss, StpOk cap st) ∧ ∀ F', Ex F F' → R .non F'
def aChkW (K : PySem.W.Frag) : List V → Hp → VK → Prop := fun vs F R => ∃ (v : V) (w : Wld), vs = [v] ∧ Dp K F v (wldD w) ∧ WldOk w ∧ ∀ F', Ex F F' → R .non F'
def aChkR (K : PySem.W.Frag) : List V → Hp → VK → Prop := fun vs F R => ∃ (v : V) (r : Rgt) (p : Bool), vs = [v] ∧ Dp K F v (rulD r p) ∧ R .non F
def aCount : List V → Hp → VK → Prop := fun vs F R => ∃ a b c : Int, vs = [.int a, .int b, .int c] ∧ b ≤ a ∧ a ≤ c ∧ R .non F
theorem six_all {n k : Nat} (h : n ≤ k) : HT.sIx n 0 none = 0 ∧ HT.sIx n n (some (k : Int)) = n := ⟨HT.sIx_none _ _, by rw [HT.sIx_nat]; exact Nat.min_eq_right h⟩
section
variable {P : Program} {w : World} {K : PySem.W.Frag} {mg : Str → Option Value} {base : Heap} {C M : Addr}

abbrev s_is_step : Stmt := top 27
def N_is_step : List Str := ["step", "cap", "draw", "long", "back"]
theorem sc_is_step : FnScope N_is_step ["step", "cap"] (defScope s_is_step) := ⟨rfl, rfl, rfl, by decide +kernel, rfl, by decide +kernel, by decide +kernel⟩
theorem ok_is_step {f : Addr} {fd : FuncData}  (Fn : Fun K "is_step" "is_step" s_is_step f fd) (B : Blt mg) {tMOST_LONG : Tok} (gMOST_LONG : mg "MOST_LONG" = some (.int 9 tMOST_LONG)) : FnOk P w K mg base CX0 1 f fd ["step", "cap"] (LS (aIsStep K)) := by
  refine Fn.ok sc_is_step (fun vs H Q E h => ?_) (fun cdv A outer s H vs Q E hr h => ?_)
  · obtain ⟨J, F, R, hd, j, h, _⟩ := h
    obtain ⟨v, cap, st, rfl, _⟩ := h
    rfl
  · have nd := sc_is_step.nd
    obtain ⟨J, F, R, hd, j, h, q⟩ := h
    obtain ⟨v, cap, st, rfl, dv, hs, k⟩ := h
    refine ⟨_, (pss_cons (ps_if (pt_cmpR op_ne (pe_callB call_len_seq (by rfl) B.len (by decide +kernel) (pa_cons (pv 0) pa_nil)) pe_int (nomark _)) (pss_one (ps_ret pe_bl)) pss_nil)
      (pss_cons (ps_asg (pv 0) (pg_tup rfl (pgs_cons (pg_name (i := 2) nd rfl (Or.inl rfl)) (pgs_cons (pg_name (i := 3) nd rfl (Or.inl rfl)) (pgs_cons (pg_name (i := 4) nd rfl (Or.inl rfl)) pgs_nil)))))
      (pss_one (ps_ret (pe_and (pe_chain op_le op_le pe_int (pv 2) (pv 1)) (pe_and (pe_chain op_le op_le pe_int (pv 3) (pe_glob (v := .int 9) rfl gMOST_LONG ⟨_, rfl⟩)) (pe_one (pe_chain op_le op_le pe_int (pv 4) (pv 2))))))))), ?_⟩
    refine LS.body j q ?_
    obtain ⟨sa, ys, rfl, ly, dys⟩ := dp_tup dv
    obtain ⟨v1, v2, v3, rfl, d1, d2, d3⟩ := dps3 dys
    cases dp_int d1
    cases dp_int d2
    cases dp_int d3
    refine sw_seq (sw_if (tw_test (ew_op (ew_cb ?_))))
    walk_at "ob"
    refine cw_lenS hd (Or.inr ly) ?_
    walk_at "ob"
    refine ⟨(fun hb => by simp at hb), fun _ => ?_⟩
    walk_at "ob"
    refine gw_tup hd ⟨sa, _, rfl, ly, rfl, gsw_cons (gw_name (gsw_cons (gw_name (gsw_cons (gw_name (gsw_nil ?_))))))⟩
    refine sw_ret (ew_and (ew_between ?_))
    walk_at "ob"
    refine ⟨hs.d0, ?_⟩
    walk_at "ob"
    refine ⟨hs.d1, _, rfl, fun _ => ?_, (fun z => by cases z)⟩
    refine ew_and (ew_between ?_)
    walk_at "ob"
    refine ⟨hs.l0, ?_⟩
    walk_at "ob"
    refine ⟨hs.l1, _, rfl, fun _ => ?_, (fun z => by cases z)⟩
    refine ew_between ?_
    walk_at "ob"
    refine ⟨hs.b0, ?_⟩
    walk_at "ob"
    exact ⟨hs.b1, k⟩

abbrev s_check_store : Stmt := top 25
def N_check_store : List Str := ["store", "cap", "start", "refill"]
theorem sc_check_store : FnScope N_check_store ["store"] (defScope s_check_store) := ⟨rfl, rfl, rfl, by decide +kernel, rfl, by decide +kernel, by decide +kernel⟩
theorem ok_check_store {f : Addr} {fd : FuncData}  (Fn : Fun K "check_store" "check_store" s_check_store f fd) (B : Blt mg) {tMOST_CAP : Tok} (gMOST_CAP : mg "MOST_CAP" = some (.int 99 tMOST_CAP)) {tMOST_REFILL : Tok} (gMOST_REFILL : mg "MOST_REFILL" = some (.int 9 tMOST_REFILL)) : FnOk P w K mg base CX0 1 f fd ["store"] (LS (aChkSt K)) := by
  refine Fn.ok sc_check_store (fun vs H Q E h => ?_) (fun cdv A outer s H vs Q E hr h => ?_)
  · obtain ⟨J, F, R, hd, j, h, _⟩ := h
    obtain ⟨v, w, rfl, _⟩ := h
    rfl
  · have nd := sc_check_store.nd
    obtain ⟨J, F, R, hd, j, h, q⟩ := h
    obtain ⟨v, w, rfl, dv, hw, k⟩ := h
    refine ⟨_, (pss_cons (ps_if (pt_cmpR op_ne (pe_callB call_len_seq (by rfl) B.len (by decide +kernel) (pa_cons (pv 0) pa_nil)) pe_int (nomark _)) (pss_one ps_never) pss_nil)
      (pss_cons (ps_asg (pv 0) (pg_tup rfl (pgs_cons (pg_name (i := 1) nd rfl (Or.inl rfl)) (pgs_cons (pg_name (i := 2) nd rfl (Or.inl rfl)) (pgs_cons (pg_name (i := 3) nd rfl (Or.inl rfl)) pgs_nil)))))
      (pss_cons (ps_if (pt_not (pt_chain op_le op_le pe_int (pv 1) (pe_glob (v := .int 99) rfl gMOST_CAP ⟨_, rfl⟩))) (pss_one ps_never) pss_nil)
      (pss_cons (ps_if (pt_not (pt_chain op_le op_le pe_int (pv 2) (pv 1))) (pss_one ps_never) pss_nil)
      (pss_one (ps_if (pt_not (pt_chain op_le op_le pe_int (pv 3) (pe_glob (v := .int 9) rfl gMOST_REFILL ⟨_, rfl⟩))) (pss_one ps_never) pss_nil)))))), ?_⟩
    refine LS.body j q ?_
    obtain ⟨sa, ys, rfl, ly, dys⟩ := dp_tup dv
    obtain ⟨v1, v2, v3, rfl, d1, d2, d3⟩ := dps3 dys
    cases dp_int d1
    cases dp_int d2
    cases dp_int d3
    refine sw_seq (sw_if (tw_test (ew_op (ew_cb ?_))))
    walk_at "ob"
    refine cw_lenS hd (Or.inr ly) ?_
    walk_at "ob"
    refine ⟨(fun hb => by simp at hb), fun _ => ?_⟩
    walk_at "ob"
    refine gw_tup hd ⟨sa, _, rfl, ly, rfl, gsw_cons (gw_name (gsw_cons (gw_name (gsw_cons (gw_name (gsw_nil ?_))))))⟩
    refine sw_seq (sw_if (tw_not (tw_test (ew_between ?_))))
    walk_at "ob"
    refine ⟨hw.c0, ?_⟩
    walk_at "ob"
    refine ⟨hw.c1, _, rfl, (fun z => by cases z), fun _ => ?_⟩
    walk_at "ob"
    refine ew_between ?_
    walk_at "ob"
    refine ⟨hw.s0, ?_⟩
    walk_at "ob"
    refine ⟨hw.s1, _, rfl, (fun z => by cases z), fun _ => ?_⟩
    walk_at "ob"
    refine ew_between ?_
    walk_at "ob"
    refine ⟨hw.r0, ?_⟩
    walk_at "ob"
    refine ⟨hw.r1, _, rfl, (fun z => by cases z), fun _ => ?_⟩
    walk_at "ob"
    exact k

abbrev s_check_steps : Stmt := top 26
def N_check_steps : List Str := ["number", "steps", "cap", "at", "step"]
theorem sc_check_steps : FnScope N_check_steps ["number", "steps", "cap"] (defScope s_check_steps) := ⟨rfl, rfl, rfl, by decide +kernel, rfl, by decide +kernel, by decide +kernel⟩
theorem ok_check_steps {f : Addr} {fd : FuncData} {f1 : Addr} {fd1 : FuncData} (Fn : Fun K "check_steps" "check_steps" s_check_steps f fd) (B : Blt mg) {tMOST_STEPS : Tok} (gMOST_STEPS : mg "MOST_STEPS" = some (.int 6 tMOST_STEPS)) (Cis_step : Cal K mg "is_step" f1 fd1 ["step", "cap"]) (Gis_step : FnOk P w K mg base CX0 1 f1 fd1 ["step", "cap"] (LS (aIsStep K))) : FnOk P w K mg base CX0 2 f fd ["number", "steps", "cap"] (LS (aChkSs K)) := by
  refine Fn.ok sc_check_steps (fun vs H Q E h => ?_) (fun cdv A outer s H vs Q E hr h => ?_)
  · obtain ⟨J, F, R, hd, j, h, _⟩ := h
    obtain ⟨v, n, cap, ss, rfl, _⟩ := h
    rfl
  · have nd := sc_check_steps.nd
    obtain ⟨J, F, R, hd, j, h, q⟩ := h
    obtain ⟨v, n, cap, ss, rfl, dv, hl6, hs, k⟩ := h
    refine ⟨_, (pss_cons (ps_for PassesOwn.never rfl (pi_enumT (by rfl) B.enumerate (pa_cons (pe_slice sl_tupA (pv 1) po_none (po_some (pe_glob (v := .int 6) rfl gMOST_STEPS ⟨_, rfl⟩))) pa_nil)) (pg_tup rfl (pgs_cons (pg_name (i := 3) nd rfl (Or.inl rfl)) (pgs_cons (pg_name (i := 4) nd rfl (Or.inl rfl)) pgs_nil))) (pss_one (ps_if (pt_not (pt_val (pe_call Gis_step (by exact hr.mono (by decide)) (by rfl) Cis_step.g Cis_step.k Cis_step.a .nil pass0 (pa_cons (pv 4) (pa_cons (pv 2) pa_nil))))) (pss_one ps_never) pss_nil)))
      (pss_one (ps_if (pt_cmpR op_gt (pe_callB call_len_seq (by rfl) B.len (by decide +kernel) (pa_cons (pv 1) pa_nil)) (pe_glob (v := .int 6) rfl gMOST_STEPS ⟨_, rfl⟩) (nomark _)) (pss_one ps_never) pss_nil))), ?_⟩
    refine LS.body j q ?_
    obtain ⟨sa, ys, rfl, ly, dys⟩ := dp_tup dv
    have hyl : ys.length = ss.length := by have := dps_len dys; simpa using this
    refine sw_seq ?_
    refine sw_mid (fun σ _ G => ∃ (x3 x4 : Option V), σ = [some (.int n), some (.ref sa), some (.int cap), x3, x4] ∧ Ex F G) ?_ ?_
    · refine sw_forET hd ?_
      refine aw_cons (ew_slT hd ?_)
      walk_at "ob"
      refine ⟨sa, ys, rfl, ly, fun _ => ?_, fun hn => absurd (six_all (k := 6) (by omega)) hn⟩

      refine aw_nil ⟨sa, ys, fun i σ _ G => ∃ (x3 x4 : Option V), σ = [some (.int n), some (.ref sa), some (.int cap), x3, x4] ∧ Ex F G, rfl, ly, ⟨none, none, rfl, .refl _⟩, ?_, ?_, ?_⟩
      · rintro i σ _ G hi ⟨x3, x4, rfl, g⟩
        exact g.sqT ly
      · rintro i x σ _ G T hi ⟨x3, x4, rfl, g⟩ hT
        refine gw_tup hd ⟨T, _, rfl, SqT.of upd_same, rfl, gsw_cons (gw_name (gsw_cons (gw_name (gsw_nil ?_))))⟩
        obtain ⟨d, hd1, hd2⟩ := dps_get' dys hi
        rw [List.getElem?_map] at hd1
        obtain ⟨st, hst, rfl⟩ := Option.map_eq_some_iff.mp hd1
        refine sw_if (tw_not (tw_B (ew_call hd ?_)))
        walk_at "ob"
        refine ⟨x, cap, st, rfl, dp_ex (Ex.new g hT) hd2, hs st (List.mem_of_getElem? hst), _, rfl, (fun z => by cases z), fun _ => ?_⟩
        exact sw_next ⟨_, _, rfl, Ex.new g hT⟩
      · rintro σ _ G ⟨x3, x4, rfl, g⟩
        exact ⟨_, _, rfl, g⟩
    · rintro σ _ G ⟨x3, x4, rfl, g⟩
      refine sw_if (tw_test (ew_op (ew_cb ?_)))
      walk_at "ob"
      refine cw_lenS hd (Or.inr (g.sqT ly)) ?_
      walk_at "ob"
      refine ⟨(fun hb => absurd (of_decide_eq_true hb) (by omega)), fun _ => ?_⟩
      walk_at "ob"
      exact k _ g

abbrev s_check_world : Stmt := top 24
def N_check_world : List Str := ["world", "store", "machines", "cap", "number", "steps"]
theorem sc_check_world : FnScope N_check_world ["world"] (defScope s_check_world) := ⟨rfl, rfl, rfl, by decide +kernel, rfl, by decide +kernel, by decide +kernel⟩
theorem ok_check_world {f : Addr} {fd : FuncData} {f1 f2 : Addr} {fd1 fd2 : FuncData} (Fn : Fun K "check_world" "check_world" s_check_world f fd) (B : Blt mg) {tMOST_MACHINES : Tok} (gMOST_MACHINES : mg "MOST_MACHINES" = some (.int 5 tMOST_MACHINES)) (Ccheck_store : Cal K mg "check_store" f1 fd1 ["store"]) (Gcheck_store : FnOk P w K mg base CX0 1 f1 fd1 ["store"] (LS (aChkSt K))) (Ccheck_steps : Cal K mg "check_steps" f2 fd2 ["number", "steps", "cap"]) (Gcheck_steps : FnOk P w K mg base CX0 2 f2 fd2 ["number", "steps", "cap"] (LS (aChkSs K))) : FnOk P w K mg base CX0 3 f fd ["world"] (LS (aChkW K)) := by
  refine Fn.ok sc_check_world (fun vs H Q E h => ?_) (fun cdv A outer s H vs Q E hr h => ?_)
  · obtain ⟨J, F, R, hd, j, h, _⟩ := h
    obtain ⟨v, w, rfl, _⟩ := h
    rfl
  · have nd := sc_check_world.nd
    obtain ⟨J, F, R, hd, j, h, q⟩ := h
    obtain ⟨v, w, rfl, dv, hw, k⟩ := h
    refine ⟨_, (pss_cons (ps_asg (pv 0) (pg_tup rfl (pgs_cons (pg_name (i := 1) nd rfl (Or.inl rfl)) (pgs_cons (pg_name (i := 2) nd rfl (Or.inl rfl)) pgs_nil))))
      (pss_cons (ps_expr (pe_call Gcheck_store (by exact hr.mono (by decide)) (by rfl) Ccheck_store.g Ccheck_store.k Ccheck_store.a .nil pass0 (pa_cons (pv 1) pa_nil)))
      (pss_cons (ps_set (i := 3) nd rfl (Or.inl rfl) (pe_ix ix_tup (pv 1) pe_int (fun _ _ => rfl)))
      (pss_cons (ps_for PassesOwn.never rfl (pi_enumT (by rfl) B.enumerate (pa_cons (pe_slice sl_tupA (pv 2) po_none (po_some (pe_glob (v := .int 5) rfl gMOST_MACHINES ⟨_, rfl⟩))) pa_nil)) (pg_tup rfl (pgs_cons (pg_name (i := 4) nd rfl (Or.inl rfl)) (pgs_cons (pg_name (i := 5) nd rfl (Or.inl rfl)) pgs_nil))) (pss_one (ps_expr (pe_call Gcheck_steps (by exact hr.mono (by decide)) (by rfl) Ccheck_steps.g Ccheck_steps.k Ccheck_steps.a .nil pass0 (pa_cons (pv 4) (pa_cons (pv 5) (pa_cons (pv 3) pa_nil)))))))
      (pss_one (ps_if (pt_cmpR op_gt (pe_callB call_len_seq (by rfl) B.len (by decide +kernel) (pa_cons (pv 2) pa_nil)) (pe_glob (v := .int 5) rfl gMOST_MACHINES ⟨_, rfl⟩) (nomark _)) (pss_one ps_never) pss_nil)))))), ?_⟩
    refine LS.body j q ?_
    obtain ⟨wa, xs, rfl, lx, dxs⟩ := dp_tup dv
    obtain ⟨sv, mv, rfl, ds, dm⟩ := dps2 dxs
    obtain ⟨ma, zs, rfl, lz, dzs⟩ := dp_tup dm
    have hzl : zs.length = w.ms.length := by have := dps_len dzs; simpa using this
    have hm5 := hw.m
    obtain ⟨sa, ys, rfl, ly, dys⟩ := dp_tup (show Dp K F sv (.tuple [.int w.cap, .int w.start, .int w.refill]) from ds)
    obtain ⟨v1, v2, v3, rfl, d1, d2, d3⟩ := dps3 dys
    cases dp_int d1
    refine sw_seq (sw_asg ?_)
    walk_at "ob"
    refine gw_tup hd ⟨wa, _, rfl, lx, rfl, gsw_cons (gw_name (gsw_cons (gw_name (gsw_nil ?_))))⟩
    refine sw_seq (sw_drop (ew_call hd ?_))
    walk_at "ob"
    refine ⟨.ref sa, w, rfl, ds, hw, ?_⟩
    refine sw_seq (sw_asg (ew_op ?_))
    walk_at "ob"
    refine sw_mid (fun σ _ G => ∃ (x4 x5 : Option V), σ = [some (.ref wa), some (.ref sa), some (.ref ma), some (.int w.cap), x4, x5] ∧ Ex F G) ?_ ?_
    · refine sw_forET hd ?_
      refine aw_cons (ew_slT hd ?_)
      walk_at "ob"
      refine ⟨ma, zs, rfl, lz, fun _ => ?_, fun hn => absurd (six_all (k := 5) (by omega)) hn⟩

      refine aw_nil ⟨ma, zs, fun i σ _ G => ∃ (x4 x5 : Option V), σ = [some (.ref wa), some (.ref sa), some (.ref ma), some (.int w.cap), x4, x5] ∧ Ex F G, rfl, lz, ⟨none, none, rfl, .refl _⟩, ?_, ?_, ?_⟩
      · rintro i σ _ G hi ⟨x4, x5, rfl, g⟩
        exact g.sqT lz
      · rintro i x σ _ G T hi ⟨x4, x5, rfl, g⟩ hT
        refine gw_tup hd ⟨T, _, rfl, SqT.of upd_same, rfl, gsw_cons (gw_name (gsw_cons (gw_name (gsw_nil ?_))))⟩
        obtain ⟨d, hd1, hd2⟩ := dps_get' dzs hi
        rw [List.getElem?_map] at hd1
        obtain ⟨ss, hss, rfl⟩ := Option.map_eq_some_iff.mp hd1
        refine sw_drop (ew_call hd ?_)
        walk_at "ob"
        refine ⟨x, i, w.cap, ss, rfl, dp_ex (Ex.new g hT) hd2, hw.n ss (List.mem_of_getElem? hss), hw.st ss (List.mem_of_getElem? hss), fun F' g2 => ?_⟩
        exact ⟨_, _, rfl, (Ex.new g hT).trans g2⟩
      · rintro σ _ G ⟨x4, x5, rfl, g⟩
        exact ⟨_, _, rfl, g⟩
    · rintro σ _ G ⟨x4, x5, rfl, g⟩
      refine sw_if (tw_test (ew_op (ew_cb ?_)))
      walk_at "ob"
      refine cw_lenS hd (Or.inr (g.sqT lz)) ?_
      walk_at "ob"
      refine ⟨(fun hb => absurd (of_decide_eq_true hb) (by omega)), fun _ => ?_⟩
      walk_at "ob"
      exact k _ g

abbrev s_check_rule : Stmt := top 28
def N_check_rule : List Str := ["rule"]
theorem sc_check_rule : FnScope N_check_rule ["rule"] (defScope s_check_rule) := ⟨rfl, rfl, rfl, by decide +kernel, rfl, by decide +kernel, by decide +kernel⟩
theorem ok_check_rule {f : Addr} {fd : FuncData}  (Fn : Fun K "check_rule" "check_rule" s_check_rule f fd) (B : Blt mg) {aRI : Addr} (gRIGHTS : mg "RIGHTS" = some (.ref aRI)) (tRIGHTS : ∀ H, SqT K H aRI [.str "rank", .str "turns", .str "wait", .str "least"]) : FnOk P w K mg base CX0 1 f fd ["rule"] (LS (aChkR K)) := by
  refine Fn.ok sc_check_rule (fun vs H Q E h => ?_) (fun cdv A outer s H vs Q E hr h => ?_)
  · obtain ⟨J, F, R, hd, j, h, _⟩ := h
    obtain ⟨v, r, p, rfl, _⟩ := h
    rfl
  · have nd := sc_check_rule.nd
    obtain ⟨J, F, R, hd, j, h, q⟩ := h
    obtain ⟨v, r, p, rfl, dv, k⟩ := h
    refine ⟨_, (pss_cons (ps_if (pt_cmpR op_ne (pe_callB call_len_seq (by rfl) B.len (by decide +kernel) (pa_cons (pv 0) pa_nil)) pe_int (nomark _)) (pss_one ps_never) pss_nil)
      (pss_one (ps_if (pt_cmpR op_notIn_seq (pe_ix ix_tup (pv 0) pe_int (fun _ _ => rfl)) (pe_glob (v := .ref aRI) rfl gRIGHTS rfl) (by rfl)) (pss_one ps_never) pss_nil))), ?_⟩
    refine LS.body j q ?_
    obtain ⟨sa, ys, rfl, ly, dys⟩ := dp_tup dv
    obtain ⟨v1, v2, rfl, d1, d2⟩ := dps2 dys
    cases dp_str d1
    cases dp_bl d2
    refine sw_seq (sw_if (tw_test (ew_op (ew_cb ?_))))
    walk_at "ob"
    refine cw_lenS hd (Or.inr ly) ?_
    walk_at "ob"
    refine ⟨(fun hb => by simp at hb), fun _ => ?_⟩
    walk_at "ob"
    refine rw_in hd (Or.inr (tRIGHTS _)) rfl rfl ?_
    refine ⟨_, rfl, fun hb => absurd hb (by cases r <;> decide +kernel), fun _ => ?_⟩
    walk_at "ob"
    exact k

abbrev s_check_count : Stmt := top 29
def N_check_count : List Str := ["many", "least", "most"]
theorem sc_check_count : FnScope N_check_count ["many", "least", "most"] (defScope s_check_count) := ⟨rfl, rfl, rfl, by decide +kernel, rfl, by decide +kernel, by decide +kernel⟩
theorem ok_check_count {f : Addr} {fd : FuncData}  (Fn : Fun K "check_count" "check_count" s_check_count f fd) (B : Blt mg)  : FnOk P w K mg base CX0 1 f fd ["many", "least", "most"] (LS (aCount)) := by
  refine Fn.ok sc_check_count (fun vs H Q E h => ?_) (fun cdv A outer s H vs Q E hr h => ?_)
  · obtain ⟨J, F, R, hd, j, h, _⟩ := h
    obtain ⟨a, b, c, rfl, _⟩ := h
    rfl
  · have nd := sc_check_count.nd
    obtain ⟨J, F, R, hd, j, h, q⟩ := h
    obtain ⟨a, b, c, rfl, h1, h2, k⟩ := h
    refine ⟨_, (pss_one (ps_if (pt_not (pt_chain op_le op_le (pv 1) (pv 0) (pv 2))) (pss_one ps_never) pss_nil)), ?_⟩
    refine LS.body j q ?_
    refine sw_if (tw_not (tw_test (ew_between ?_)))
    walk_at "ob"
    refine ⟨h1, ?_⟩
    walk_at "ob"
    refine ⟨h2, _, rfl, (fun z => by cases z), fun _ => ?_⟩
    walk_at "ob"
    exact k
end
end Obr
namespace Obr
open PySem L2 PyProof.Rows RZ
local macro_rules | `(tactic| walk_at "ob_at") => `(tactic| first
  | assumption
  | exact upd_same
  | (refine Eq.trans (upd_ne ?obn) ?obr; (case obn => walk_at "ob_ne"); (case obr => walk_at "ob_at")))
local macro_rules | `(tactic| walk_at "ob_ne") => `(tactic| first
  | assumption
  | (refine Ne.symm ?obs; (case obs => assumption))
  | (refine' ne_of_none (H := ?_) ?obe ?obh; (case obh => assumption); (case obe => walk_at "ob_at"))
  | (refine Ne.symm ?obs; (case obs => (refine' ne_of_none (H := ?_) ?obe ?obh; (case obh => assumption); (case obe => walk_at "ob_at")))))
local macro_rules | `(tactic| walk_at "ob_fr") => `(tactic| first
  | assumption
  | (refine Eq.trans (upd_ne ?obn) ?obr; (case obn => walk_at "ob_ne"); (case obr => walk_at "ob_fr"))
  | (refine Ex.free (G := ?_) (by assumption) ?obh; (case obh => walk_at "ob_fr")))
local macro_rules | `(tactic| walk_at "ob_ex") => `(tactic| first
  | assumption
  | exact Ex.refl _
  | (refine Ex.out ?obg ?obh; (case obh => assumption); (case obg => walk_at "ob_ex"))
  | (refine Ex.new ?obg ?obh; (case obh => assumption); (case obg => walk_at "ob_ex"))
  | (refine Ex.new ?obg ?obh; (case obh => walk_at "ob_fr"); (case obg => walk_at "ob_ex")))
local macro_rules | `(tactic| walk_at "ob_sq") => `(tactic| first
  | assumption
  | (refine SqL.of ?oba; (case oba => walk_at "ob_at"))
  | (refine Ex.sqT (F := ?_) ?obg ?obh; (case obh => assumption); (case obg => walk_at "ob_ex"))
  | (refine Ex.sqL (F := ?_) ?obg ?obh; (case obh => assumption); (case obg => walk_at "ob_ex"))
  | (refine SqT.of ?oba; (case oba => walk_at "ob_at")))
local macro_rules | `(tactic| walk_at "ob_side") => `(tactic| first | exact rfl | assumption | decide | omega | exact ⟨by decide, by decide, by decide⟩ | exact Or.inr ⟨by decide, by decide⟩ | exact Or.inl ⟨by decide, by decide⟩ | exact wide_div (b := 60) (by first | decide | omega) (by first | decide | omega) (by decide) (by decide))
local macro_rules | `(tactic| walk_at "ob1") => `(tactic| first
  | with_reducible refine sw_seq ?_
  | with_reducible refine sw_asg ?_
  | with_reducible refine sw_ret ?_
  | with_reducible refine sw_par ?_
  | with_reducible refine ⟨_, _, rfl, ?_⟩
  | with_reducible refine sw_drop ?_
  | with_reducible refine sw_if ?_
  | with_reducible refine sw_next ?_
  | with_reducible refine gw_name ?_
  | with_reducible refine gw_subL (by assumption) ?_
  | with_reducible refine gsw_cons ?_
  | with_reducible refine gsw_nil ?_
  | with_reducible refine ew_c ?_
  | ((with_reducible refine' ew_var (v := ?_) ?obv ?_); (case obv => exact rfl))
  | ((with_reducible refine ew_next (by assumption) ?obv ?_); (case obv => exact rfl))
  | ((with_reducible refine ew_world (by assumption) ?obv ?_); (case obv => exact rfl))
  | ((with_reducible refine ew_rule (by assumption) ?obv ?_); (case obv => exact rfl))
  | with_reducible refine ew_op ?_
  | with_reducible refine ew_un ?_
  | with_reducible refine ew_dget (by assumption) ?_
  | with_reducible refine uw_I ?_
  | with_reducible refine ppw_nil ?_
  | with_reducible refine ppw_cons ?_
  | with_reducible refine sw_dput (by assumption) ?_
  | with_reducible refine ew_cb ?_
  | with_reducible refine ew_if ?_
  | with_reducible refine ew_slL (by assumption) ?_
  | with_reducible refine ow_some ?_
  | with_reducible refine ow_none ?_
  | with_reducible refine aw_nil ?_
  | with_reducible refine aw_cons ?_
  | with_reducible refine rw_I0 ?_
  | ((with_reducible refine rw_I ?obc ?_); (case obc => walk_at "ob_side"))
  | with_reducible refine rw_isN ?_
  | with_reducible refine rw_notN ?_
  | ((with_reducible refine rw_eq ?obc ?_); (case obc => exact rfl))
  | ((with_reducible refine rw_ne ?obc ?_); (case obc => exact rfl))
  | with_reducible refine cw_max2 ?_
  | with_reducible refine cw_min2 ?_
  | with_reducible refine tw_test ?_
  | with_reducible refine tw_B ?_
  | with_reducible refine tw_not ?_
  | with_reducible refine tw_truB ?_
  | with_reducible refine tw_and ?_
  | with_reducible refine tw_or ?_
  | with_reducible refine ew_and ?_
  | (refine' Exists.intro _ (And.intro (show V.bl _ = V.bl _ from rfl) ?_))
  | (refine' Exists.intro _ (And.intro (show V.int _ = V.int _ from rfl) ?_))
  | ((with_reducible refine' rw_ixL (v := ?_) (xs := ?_) (by assumption) ?obl ?oba ?_); (case obl => walk_at "ob_sq"); (case oba => first | exact rfl | exact at_zero))
  | ((with_reducible refine' rw_ixT (v := ?_) (xs := ?_) (by assumption) ?obl ?oba ?_); (case obl => walk_at "ob_sq"); (case oba => first | exact rfl | exact at_zero))
  | ((with_reducible refine' ew_lst (by assumption) ?_))
  | ((with_reducible refine' ew_tup (by assumption) ?_)))
local macro_rules | `(tactic| walk_at "ob_len") => `(tactic| first | exact Nat.le_of_ble_eq_true rfl | (simp; done) | omega)
local macro_rules | `(tactic| walk_at "ob") => `(tactic| repeat walk_at "ob1")

/-! ### plans -/
def begunAll (ss : List Stp) (m : Mac) : Bool := decide (m.at_ = (ss.length : Int)) || (decide (0 ≤ m.over) && decide (m.at_ = (ss.length : Int) - 1))
def aBegunAll (K : PySem.W.Frag) (M : Addr) : List V → Hp → VK → Prop := fun vs F R => ∃ (F0 : Hp) (a dx : Addr) (n : Int) (sv : Sv) (ss : List Stp) (m : Mac), vs = [.ref a] ∧ sv.pz = false ∧ MObj K F0 F a M dx n sv ss m ∧ R (.bl (begunAll ss m)) F
theorem cw_all {S : Type} {J : S → Hp → Hp → Prop} {K : PySem.W.Frag} {s : S} {F : Hp} {R : V → S → Hp → Prop} (hd : Hid J) {a : Addr} {bs : List Bool} (l : SqL K F a (bs.map V.bl)) (h : R (.bl (bs.all id)) s F) : CW J (rAll K) [.ref a] s F R := fun H j Q q => ⟨a, bs, rfl, hd.sqL j l, q _ _ _ _ j h⟩
theorem cutV_tail9 {xs : List V} : cutV xs (some 1) none = xs.drop 1 := by
  cases xs with
  | nil => rfl
  | cons a l => exact cutV_one a l
def refA (A : RAd) (k : Nat) : V := match A.mads[k]? with | some ad => .ref ad.a | none => .non
def drawK (w : Wld) (t : LSt) (x : Int) : Int := match t.ms[x.toNat]?, w.ms[x.toNat]? with
  | some m, some ss => (match ss[m.at_.toNat]? with | some st => st.draw | none => 0)
  | _, _ => 0
def waitB (w : Wld) (t : LSt) (x : Int) : Bool := match t.ms[x.toNat]?, w.ms[x.toNat]? with
  | some m, some ss => decide (m.over < 0 ∧ m.at_ ≠ (ss.length : Int))
  | _, _ => false
def rises (xs : List Int) : Bool := ((xs.zip (xs.drop 1)).map fun p => decide (p.1 < p.2)).all id
def inRB (w : Wld) (xs : List Int) : Bool := (xs.map fun x => decide (0 ≤ x) && decide (x < (w.ms.length : Int))).all id
def waitsB (w : Wld) (t : LSt) (xs : List Int) : Bool := (xs.map (waitB w t)).all id
/-- the row's machines may begin together -/
def canB (w : Wld) (t : LSt) (xs : List Int) : Bool := rises xs && (inRB w xs && (waitsB w t xs && decide ((xs.map (drawK w t)).sum ≤ t.level)))
def aCanBegin (K : PySem.W.Frag) (C M : Addr) : List V → Hp → VK → Prop := fun vs F R => ∃ (F0 : Hp) (A : RAd) (t : LSt) (w : Wld) (r : Rgt) (p anew : Bool) (ex : List (Addr × HO)) (rv : Addr) (xs : List Int), vs = [.ref A.a, .ref rv] ∧ A.C = C ∧ A.M = M ∧ SAt true K F0 F A t w r p anew ex ∧ LOk w t ∧
  SqO K F rv (xs.map V.int) ∧ xs.length ≤ 1000 ∧ ∀ F', Ex F F' → R (.bl (canB w t xs)) F'
/-! ### judged -/
def jOpen (w : Wld) (t : LSt) : LSt := lFill w (lEnds w false t w.ms.length)
def jBegin (w : Wld) (t : LSt) (x : Int) : LSt := match t.ms[x.toNat]?, w.ms[x.toNat]? with
  | some m, some ss => (match ss[m.at_.toNat]? with | some st => sBegin t x.toNat m st | none => t)
  | _, _ => t
def jBegins (w : Wld) (t : LSt) (xs : List Int) : LSt := xs.foldl (jBegin w) t
def jRow (w : Wld) (t : LSt) (xs : List Int) : LSt := { jBegins w (jOpen w t) xs with beat := (jBegins w (jOpen w t) xs).beat + 1 }
/-- the states that a plan leads through -/
inductive JPath (w : Wld) : Nat → LSt → List (List Int) → Prop
  | zero : JPath w 0 (lBegun w) []
  | succ {n : Nat} {t : LSt} {rows : List (List Int)} {xs : List Int} : JPath w n t rows → canB w (jOpen w t) xs = true → JPath w (n + 1) (jRow w t xs) (rows ++ [xs])
/-- a row: a list or a tuple of numbers -/
def RowAt (K : PySem.W.Frag) (F : Hp) (v : V) (xs : List Int) : Prop := ∃ a : Addr, v = .ref a ∧ SqO K F a (xs.map V.int)
def PlanAt (K : PySem.W.Frag) (F : Hp) (pa : Addr) (rows : List (List Int)) : Prop := ∃ vs : List V, SqO K F pa vs ∧ vs.length = rows.length ∧ ∀ (i : Nat) (v : V) (xs : List Int), vs[i]? = some v → rows[i]? = some xs → RowAt K F v xs
def endedK (m : Mac) : Int := if 0 ≤ m.over then m.over else m.since
def begunB (w : Wld) (t : LSt) : Bool := ((t.ms.zip w.ms).map fun x => begunAll x.2 x.1).all id
def judgedV (w : Wld) (t : LSt) : V := if begunB w t then .int (maxZ (t.ms.map endedK)) else .non
def aJudged (K : PySem.W.Frag) : List V → Hp → VK → Prop := fun vs F R => ∃ (wv : V) (w : Wld) (pa : Addr) (rows : List (List Int)) (t : LSt), vs = [wv, .ref pa] ∧ Dp K F wv (wldD w) ∧ WldOk w ∧ PlanAt K F pa rows ∧ JPath w rows.length t rows ∧ rows.length ≤ 500 ∧ (∀ xs ∈ rows, xs.length ≤ 1000) ∧ ∀ F', Ex F F' → R (judgedV w t) F'
theorem all_id_of {α : Type} {l : List α} {f : α → Bool} (h : (l.map f).all id = true) {x : α} (hx : x ∈ l) : f x = true := by
  rw [List.all_map, List.all_eq_true] at h
  exact h x hx
theorem jBegin_beat {w : Wld} {t : LSt} {x : Int} : (jBegin w t x).beat = t.beat := by
  unfold jBegin
  split
  · split <;> rfl
  · rfl
theorem jBegins_beat {w : Wld} : ∀ {xs : List Int} {t : LSt}, (jBegins w t xs).beat = t.beat
  | [], _ => rfl
  | x :: xs, t => (jBegins_beat (xs := xs) (t := jBegin w t x)).trans jBegin_beat
theorem jOpen_beat {w : Wld} {t : LSt} : (jOpen w t).beat = t.beat := by
  unfold jOpen lFill
  split
  · exact lEnds_beat _
  · exact lEnds_beat _
theorem jOpen_ok {w : Wld} {t : LSt} (h : LOk w t) : LOk w (jOpen w t) := lFill_ok (lEnds_ok h _)
theorem jBegin_ok {w : Wld} {t : LSt} {x : Int} (h : LOk w t) (hx : 0 ≤ x) (hw : waitB w t x = true) : LOk w (jBegin w t x) := by
  unfold waitB at hw
  unfold jBegin
  split at hw
  · rename_i m ss hm hs
    have ho := h.m _ m ss hm hs
    have hw := of_decide_eq_true hw
    have := ho.a0
    have := ho.a1
    split
    · rename_i st hst
      exact h.set (k := x.toNat) (m' := { m with over := t.beat + st.long }) hs ⟨ho.a0, ho.a1, fun _ => by show m.at_ < _; omega⟩ rfl rfl
    · exact h
  · cases hw
/-- what one that begins leaves to another -/
theorem jBegin_other {w : Wld} {t : LSt} {x y : Int} (hx : 0 ≤ x) (hy : 0 ≤ y) (hne : x ≠ y) : (jBegin w t x).ms[y.toNat]? = t.ms[y.toNat]? := by
  unfold jBegin
  split
  · split
    · show (t.ms.set x.toNat _)[y.toNat]? = _
      rw [List.getElem?_set, if_neg (by omega)]
    · rfl
  · rfl
theorem waitB_other {w : Wld} {t : LSt} {x y : Int} (hx : 0 ≤ x) (hy : 0 ≤ y) (hne : x ≠ y) : waitB w (jBegin w t x) y = waitB w t y := by
  unfold waitB
  rw [jBegin_other hx hy hne]
theorem rises_ne : ∀ {xs : List Int}, rises xs = true → xs.Pairwise (· < ·)
  | [], _ => .nil
  | [_], _ => by simp
  | a :: b :: l, h => by
    have e : rises (a :: b :: l) = (decide (a < b) && rises (b :: l)) := rfl
    rw [e, Bool.and_eq_true] at h
    have ih := rises_ne h.2
    have hab := of_decide_eq_true h.1
    refine List.Pairwise.cons (fun y hy => ?_) ih
    rcases List.mem_cons.mp hy with rfl | hy
    · exact hab
    · exact Int.lt_trans hab (List.rel_of_pairwise_cons ih hy)
/-- they begin one by one -/
structure JB (w : Wld) (t : LSt) (xs : List Int) : Prop where
  ok : LOk w t
  ne : xs.Pairwise (· < ·)
  ge : ∀ x ∈ xs, 0 ≤ x
  wt : ∀ x ∈ xs, waitB w t x = true
theorem JB.of {w : Wld} {t : LSt} {xs : List Int} (ho : LOk w t) (h : canB w t xs = true) : JB w t xs := by
  unfold canB at h
  simp only [Bool.and_eq_true] at h
  refine ⟨ho, rises_ne h.1, fun x hx => ?_, fun x hx => all_id_of h.2.2.1 hx⟩
  have := all_id_of h.2.1 hx
  simp only [Bool.and_eq_true, decide_eq_true_eq] at this
  exact this.1
theorem JB.tail {w : Wld} {t : LSt} {x : Int} {xs : List Int} (h : JB w t (x :: xs)) : JB w (jBegin w t x) xs := by
  have hx := h.ge x (.head _)
  have hn := List.pairwise_cons.mp h.ne
  refine ⟨jBegin_ok h.ok hx (h.wt x (.head _)), hn.2, fun y hy => h.ge y (.tail _ hy), fun y hy => ?_⟩
  rw [waitB_other hx (h.ge y (.tail _ hy)) (Int.ne_of_lt (hn.1 y hy))]
  exact h.wt y (.tail _ hy)
theorem JB.drop {w : Wld} : ∀ {xs : List Int} {t : LSt} (i : Nat), JB w t xs → JB w (jBegins w t (xs.take i)) (xs.drop i)
  | xs, t, 0, h => h
  | [], t, _ + 1, h => h
  | x :: xs, t, i + 1, h => JB.drop (xs := xs) i h.tail
theorem JB.fin {w : Wld} {xs : List Int} {t : LSt} (h : JB w t xs) : LOk w (jBegins w t xs) := by
  have := (h.drop xs.length).ok
  rwa [List.take_length] at this
theorem begun_okw {w : Wld} : LOk w (lBegun w) := by
  refine ⟨Int.le_refl _, fun k m ss h1 h2 => ?_, by unfold lBegun; simp⟩
  unfold lBegun at h1
  rw [List.getElem?_map, h2] at h1
  cases h1
  exact ⟨Int.le_refl _, by show (0 : Int) ≤ _; omega, fun z => absurd z (by show ¬ (0 : Int) ≤ -1; decide)⟩
theorem JPath.ok {w : Wld} {n : Nat} {t : LSt} {rows : List (List Int)} (h : JPath w n t rows) : LOk w t ∧ t.beat = n := by
  induction h with
  | zero => exact ⟨begun_okw, rfl⟩
  | @succ n t rows xs _ hc ih =>
    have hb := JB.of (jOpen_ok ih.1) hc
    refine ⟨hb.fin.same rfl ?_, ?_⟩
    · show 0 ≤ (jBegins w (jOpen w t) xs).beat + 1
      rw [jBegins_beat, jOpen_beat, ih.2]
      omega
    · show (jBegins w (jOpen w t) xs).beat + 1 = _
      rw [jBegins_beat, jOpen_beat, ih.2]
      omega
theorem JPath.len {w : Wld} {n : Nat} {t : LSt} {rows : List (List Int)} (h : JPath w n t rows) : rows.length = n := by
  induction h with
  | zero => rfl
  | succ _ _ ih => rw [List.length_append, ih]; rfl
theorem JPath.inv {w : Wld} {n : Nat} {t' : LSt} {rows : List (List Int)} {xs : List Int} (h : JPath w (n + 1) t' (rows ++ [xs])) : ∃ t, JPath w n t rows ∧ canB w (jOpen w t) xs = true ∧ t' = jRow w t xs := by
  generalize e : rows ++ [xs] = rr at h
  cases h with
  | @succ _ t rows2 xs2 h1 h2 =>
    obtain ⟨e1, e2⟩ := List.append_inj_left' e rfl, List.append_inj_right' e rfl
    cases e2
    subst e1
    exact ⟨t, h1, h2, rfl⟩
theorem JPath.uniq {w : Wld} {n : Nat} {t : LSt} {rows : List (List Int)} (h : JPath w n t rows) : ∀ {t'}, JPath w n t' rows → t' = t := by
  induction h with
  | zero => intro t' h'; cases h'; rfl
  | succ _ _ ih =>
    intro t' h'
    obtain ⟨t2, h2, _, e⟩ := h'.inv
    rw [e, ih h2]
theorem JPath.before {w : Wld} {n : Nat} {t : LSt} {rows : List (List Int)} (h : JPath w n t rows) : ∀ i, i ≤ n → ∃ ti, JPath w i ti (rows.take i) := by
  induction h with
  | zero => intro i hi; rw [Nat.le_zero.mp hi]; exact ⟨_, .zero⟩
  | @succ n t rows xs h1 h2 ih =>
    intro i hi
    have hl := h1.len
    by_cases c : i = n + 1
    · subst c
      rw [List.take_of_length_le (by rw [List.length_append, hl]; exact Nat.le_refl _)]
      exact ⟨_, .succ h1 h2⟩
    · obtain ⟨ti, z⟩ := ih i (by omega)
      rw [List.take_append_of_le_length (by omega)]
      exact ⟨ti, z⟩
theorem JPath.step {w : Wld} {n : Nat} {t : LSt} {rows : List (List Int)} (h : JPath w n t rows) {i : Nat} {ti : LSt} {xs : List Int} (hx : rows[i]? = some xs) (hi : JPath w i ti (rows.take i)) : canB w (jOpen w ti) xs = true ∧ JPath w (i + 1) (jRow w ti xs) (rows.take (i + 1)) := by
  have hin : i < rows.length := (List.getElem?_eq_some_iff.mp hx).1
  obtain ⟨t1, z⟩ := h.before (i + 1) (by rw [← h.len]; omega)
  have e : rows.take (i + 1) = rows.take i ++ [xs] := by rw [List.take_succ, hx]; rfl
  rw [e] at z ⊢
  obtain ⟨t2, z2, hc, e2⟩ := z.inv
  obtain rfl := hi.uniq z2
  exact ⟨hc, .succ hi hc⟩
/-- no machine has been without a step since a beat below 0 -/
def SN (t : LSt) : Prop := ∀ m ∈ t.ms, 0 ≤ m.since
theorem SN.set {t t' : LSt} {k : Nat} {m' : Mac} (h : SN t) (hm : 0 ≤ m'.since) (e : t'.ms = t.ms.set k m') : SN t' := fun m hx => by
  rw [e] at hx
  rcases List.mem_or_eq_of_mem_set hx with hx | rfl
  · exact h m hx
  · exact hm
theorem lEnd_sn {w : Wld} {anew : Bool} {t : LSt} {k : Nat} (hb : 0 ≤ t.beat) (h : SN t) : SN (lEnd w anew t k) := by
  unfold lEnd
  split
  · split
    · split
      · split
        · exact h.set (m' := ⟨_, _, t.beat, _, _, _⟩) hb rfl
        · exact h.set (m' := ⟨_, _, t.beat, _, _, _⟩) hb rfl
      · exact h
    · exact h
  · exact h
theorem lEnds_sn {w : Wld} {anew : Bool} {t : LSt} (hb : 0 ≤ t.beat) (h : SN t) : ∀ n, SN (lEnds w anew t n)
  | 0 => h
  | n + 1 => lEnd_sn (by rw [lEnds_beat]; exact hb) (lEnds_sn hb h n)
theorem jOpen_sn {w : Wld} {t : LSt} (hb : 0 ≤ t.beat) (h : SN t) : SN (jOpen w t) := by
  unfold jOpen lFill
  split
  · exact lEnds_sn hb h _
  · exact lEnds_sn hb h _
theorem jBegin_sn {w : Wld} {t : LSt} {x : Int} (h : SN t) : SN (jBegin w t x) := by
  unfold jBegin
  split
  · rename_i m ss hm hs
    split
    · exact h.set (k := x.toNat) (m' := { m with over := t.beat + _ }) (h m (List.mem_of_getElem? hm)) rfl
    · exact h
  · exact h
theorem jBegins_sn {w : Wld} : ∀ {xs : List Int} {t : LSt}, SN t → SN (jBegins w t xs)
  | [], _, h => h
  | x :: xs, t, h => jBegins_sn (xs := xs) (jBegin_sn h)
theorem JPath.sn {w : Wld} {n : Nat} {t : LSt} {rows : List (List Int)} (h : JPath w n t rows) : SN t := by
  induction h with
  | zero =>
    intro m hm
    unfold lBegun at hm
    obtain ⟨ss, _, rfl⟩ := List.mem_map.mp hm
    exact Int.le_refl _
  | @succ n t rows xs h1 hc ih => exact jBegins_sn (xs := xs) (jOpen_sn h1.ok.1.b ih)
theorem ended_ge {t : LSt} (h : SN t) {y : Int} (hy : y ∈ t.ms.map endedK) : 0 ≤ y := by
  obtain ⟨m, hm, rfl⟩ := List.mem_map.mp hy
  have := h m hm
  unfold endedK
  split <;> assumption
theorem zip_fst {A : RAd} {t : LSt} {w : Wld} (h1 : A.mads.length = w.ms.length) (h2 : t.ms.length = w.ms.length) : (A.mads.zip (t.ms.zip w.ms)).map (fun x => V.ref x.1.a) = A.mads.map fun ad => V.ref ad.a := by
  have e : (A.mads.zip (t.ms.zip w.ms)).map Prod.fst = A.mads := List.map_fst_zip (by rw [List.length_zip]; omega)
  conv => rhs; rw [← e, List.map_map]
  rfl
theorem zip_snd {A : RAd} {t : LSt} {w : Wld} {β : Type} (f : Mac × List Stp → β) (h1 : A.mads.length = w.ms.length) (h2 : t.ms.length = w.ms.length) : (A.mads.zip (t.ms.zip w.ms)).map (fun x => f x.2) = (t.ms.zip w.ms).map f := by
  have e : (A.mads.zip (t.ms.zip w.ms)).map Prod.snd = t.ms.zip w.ms := List.map_snd_zip (by rw [List.length_zip]; omega)
  conv => rhs; rw [← e, List.map_map]
  rfl
theorem zip_ms {t : LSt} {w : Wld} {β : Type} (f : Mac → β) (h2 : t.ms.length = w.ms.length) : (t.ms.zip w.ms).map (fun x => f x.1) = t.ms.map f := by
  have e : (t.ms.zip w.ms).map Prod.fst = t.ms := List.map_fst_zip (by omega)
  conv => rhs; rw [← e, List.map_map]
  rfl
theorem zip_at {A : RAd} {t : LSt} {w : Wld} {i : Nat} {x : MAd × Mac × List Stp} (h : (A.mads.zip (t.ms.zip w.ms))[i]? = some x) : A.mads[i]? = some x.1 ∧ t.ms[i]? = some x.2.1 ∧ w.ms[i]? = some x.2.2 := by
  obtain ⟨a, m, ss⟩ := x
  rw [List.getElem?_zip_eq_some, List.getElem?_zip_eq_some] at h
  exact ⟨h.1, h.2.1, h.2.2⟩
section
variable {P : Program} {w : World} {K : PySem.W.Frag} {mg : Str → Option Value} {base : Heap} {C M : Addr}

abbrev s_has_begun_all : Stmt := top 42
def N_has_begun_all : List Str := ["machine"]
theorem sc_has_begun_all : FnScope N_has_begun_all ["machine"] (defScope s_has_begun_all) := ⟨rfl, rfl, rfl, by decide +kernel, rfl, by decide +kernel, by decide +kernel⟩
theorem ok_has_begun_all {f : Addr} {fd : FuncData} {f1 f2 : Addr} {fd1 fd2 : FuncData} (Fn : Fun K "has_begun_all" "has_begun_all" s_has_begun_all f fd) (B : Blt mg) (HM : ClsF K M mkeys) (M_is_busy : Met K M "is_busy" f1 fd1 ["self"]) (G_is_busy : FnOk P w K mg base CX0 1 f1 fd1 ["self"] (LS (aBusy K M))) (M_is_done : Met K M "is_done" f2 fd2 ["self"]) (G_is_done : FnOk P w K mg base CX0 1 f2 fd2 ["self"] (LS (aDone K M))) : FnOk P w K mg base CX0 2 f fd ["machine"] (LS (aBegunAll K M)) := by
  refine Fn.ok sc_has_begun_all (fun vs H Q E h => ?_) (fun cdv A outer s H vs Q E hr h => ?_)
  · obtain ⟨J, F, R, hd, j, h, _⟩ := h
    obtain ⟨F0, a, dx, n, sv, ss, m, rfl, _⟩ := h
    rfl
  · have nd := sc_has_begun_all.nd
    obtain ⟨J, F, R, hd, j, h, q⟩ := h
    obtain ⟨F0, a, dx, n, sv, ss, m, rfl, hzf, ho, k⟩ := h
    refine ⟨_, (pss_one (ps_ret (pe_or (pe_meth0 (pv 0) M_is_done.cl M_is_done.m G_is_done (by exact hr.mono (by decide)) M_is_done.a .nil pass0) (pe_one (pe_and (pe_meth0 (pv 0) M_is_busy.cl M_is_busy.m G_is_busy (by exact hr.mono (by decide)) M_is_busy.a .nil pass0) (pe_one (pe_cmpR op_eq (pe_fld (pv 0) rfl) (pe_op op_sub (pe_callB call_len_seq (by rfl) B.len (by decide +kernel) (pa_cons (pe_fld (pv 0) rfl) pa_nil)) pe_int) (nomark _)))))))), ?_⟩
    refine LS.body j q ?_
    have hall := ho.st.all hzf
    obtain ⟨sa, ys, esv, ly, dys⟩ := dp_tup ho.st.d
    rw [← hall] at dys
    have hyl : ys.length = ss.length := by have := dps_len dys; simpa using this
    have lyF := ho.ex.sqT ly
    unfold begunAll at k
    refine sw_ret (ew_or (ew_meth hd ?_))
    walk_at "ob"
    refine ⟨a, dx, _, rfl, ho.at_, mfs_no (by decide +kernel), aw_nil ⟨F0, a, dx, n, sv, ss, m, rfl, ho, ?_⟩⟩
    rw [← hall]
    refine ⟨_, rfl, fun hb => ?_, fun hb => ?_⟩
    · rw [hb, Bool.true_or] at k
      exact k
    · rw [hb, Bool.false_or] at k
      refine ew_and (ew_meth hd ?_)
      walk_at "ob"
      refine ⟨a, dx, _, rfl, ho.at_, mfs_no (by decide +kernel), aw_nil ⟨F0, a, dx, n, sv, ss, m, rfl, ho, ?_⟩⟩
      refine ⟨_, rfl, fun hc => ?_, fun hc => ?_⟩
      · rw [hc, Bool.true_and] at k
        refine ew_op ?_
        refine ew_fld hd ?_
        walk_at "ob"
        refine ⟨a, M, dx, _, _, rfl, ho.at_, HM.cl, HM.no _ (by decide +kernel), lookup_nd (i := 2) (mfs_nd _ _ _) rfl, ?_⟩
        refine ew_op (ew_cb (aw_cons ?_))
        refine ew_fld hd ?_
        walk_at "ob"
        refine ⟨a, M, dx, _, _, rfl, ho.at_, HM.cl, HM.no _ (by decide +kernel), lookup_nd (i := 1) (mfs_nd _ _ _) rfl, ?_⟩
        refine aw_nil ?_
        rw [esv]
        refine cw_lenS hd (Or.inr lyF) (ew_c (rw_I0 (rw_eq rfl ?_)))
        rw [hyl, dec_vint]
        exact k
      · rw [hc, Bool.false_and] at k
        exact k

abbrev s_can_begin : Stmt := top 41
def N_can_begin : List Str := ["shop", "row", "machines", "low", "high", "number", "machine"]
theorem sc_can_begin : FnScope N_can_begin ["shop", "row"] (defScope s_can_begin) := ⟨rfl, rfl, rfl, by decide +kernel, rfl, by decide +kernel, by decide +kernel⟩
theorem ok_can_begin {f : Addr} {fd : FuncData} {f1 f2 : Addr} {fd1 fd2 : FuncData} (Fn : Fun K "can_begin" "can_begin" s_can_begin f fd) (B : Blt mg) (HR : ClsF K C rkeys) (HM : ClsF K M mkeys) (Ball : mg "all" = none) (M_is_waiting : Met K M "is_waiting" f1 fd1 ["self"]) (G_is_waiting : FnOk P w K mg base CX0 2 f1 fd1 ["self"] (LS (aWaiting K M))) (M_need : Met K M "need" f2 fd2 ["self"]) (G_need : FnOk P w K mg base CX0 1 f2 fd2 ["self"] (LS (aNeed K M))) : FnOk P w K mg base CX0 3 f fd ["shop", "row"] (LS (aCanBegin K C M)) := by
  refine Fn.ok sc_can_begin (fun vs H Q E h => ?_) (fun cdv A outer s H vs Q E hr h => ?_)
  · obtain ⟨J, F, R, hd, j, h, _⟩ := h
    obtain ⟨F0, A, t, w, r, p, anew, ex, rv, xs, rfl, _⟩ := h
    rfl
  · have nd := sc_can_begin.nd
    obtain ⟨J, F, R, hd, j, h, q⟩ := h
    obtain ⟨F0, A, t, w, r, p, anew, ex, rv, xs, rfl, rfl, rfl, hX, hok, hrow, hx5, k⟩ := h
    refine ⟨_, (pss_cons (ps_if (pt_not (pt_val (pe_callB (cr_all rfl) (by rfl) Ball (by decide +kernel) (pa_cons (pe_lc (own := [("low", 3), ("high", 4)]) (g := (gTup K 2 (gCons (gName 3) (gCons (gName 4) gNil)))) (te := (tOp (rI0 fun i j => .bl (decide (i < j))) (tVar 3) (tVar 4))) (tt := tYes) (by rfl) nd (pi_zipA (by rfl) B.zip (pa_cons (pv 1) (pa_cons (pe_eor (pe_slice sl_list (pv 1) (po_some pe_int) po_none) (pe_slice sl_tupA (pv 1) (po_some pe_int) po_none)) pa_nil))) (blkOk_by (own := [("low", 3), ("high", 4)]) (N := N_can_begin) (sc := defScope s_can_begin) (by decide +kernel)) (fun _ _ _ _ _ => (pg_tup rfl (pgs_cons (pg_name (i := 3) nd rfl (Or.inl rfl)) (pgs_cons (pg_name (i := 4) nd rfl (Or.inl rfl)) pgs_nil)))) (fun _ _ _ _ _ => pts_nil) (fun _ _ _ _ _ => (pe_cmpR op_lt (pv 3) (pv 4) (nomark _)))) pa_nil)))) (pss_one (ps_ret pe_bl)) pss_nil)
      (pss_cons (ps_if (pt_not (pt_val (pe_callB (cr_all rfl) (by rfl) Ball (by decide +kernel) (pa_cons (pe_lc (own := [("number", 5)]) (te := (tChain (rI0 fun i j => .bl (decide (i ≤ j))) (rI0 fun i j => .bl (decide (i < j))) (tC (.int 0)) (tVar 5) (tCB (fun xs H Q => ∃ p ys, xs = [.ref p] ∧ (SqL K H p ys ∨ SqT K H p ys) ∧ Q (.int ys.length) H) (tCons (tFld K (tVar 0) "machines") tNil)))) (tt := tYes) (by rfl) nd (pi_or (pi_list (pv 1)) (pi_tup (pv 1))) (blkOk_by (own := [("number", 5)]) (N := N_can_begin) (sc := defScope s_can_begin) (by decide +kernel)) (fun _ _ _ _ _ => (pg_name (i := 5) nd rfl (Or.inl rfl))) (fun _ _ _ _ _ => pts_nil) (fun _ _ _ _ _ => (pe_chain op_le op_lt pe_int (pv 5) (pe_callB call_len_seq (by rfl) B.len (by decide +kernel) (pa_cons (pe_fld (pv 0) rfl) pa_nil))))) pa_nil)))) (pss_one (ps_ret pe_bl)) pss_nil)
      (pss_cons (ps_setLc (i := 2) rfl nd rfl rfl (sw_true rfl rfl rfl (by decide +kernel)) (own := [("number", 5)]) (te := (tOp (rIxL K) (tFld K (tVar 0) "machines") (tVar 5))) (tt := tYes) (pi_or (pi_list (pv 1)) (pi_tup (pv 1))) (blkOk_by (own := [("number", 5)]) (N := N_can_begin) (sc := defScope s_can_begin) (by decide +kernel)) (fun _ _ _ _ _ => (pg_name (i := 5) nd rfl (Or.inl rfl))) (fun _ _ _ _ _ => pts_nil) (fun _ _ _ _ _ => (pe_ix ix_list (pe_fld (pv 0) rfl) (pv 5) (fun _ _ => rfl))))
      (pss_cons (ps_if (pt_not (pt_val (pe_callB (cr_all rfl) (by rfl) Ball (by decide +kernel) (pa_cons (pe_lc (own := [("machine", 6)]) (te := (tMeth _ "is_waiting" (LS (aWaiting K _)) [] E0 (tVar 6) tNil)) (tt := tYes) (by rfl) nd (pi_list (pv 2)) (blkOk_by (own := [("machine", 6)]) (N := N_can_begin) (sc := defScope s_can_begin) (by decide +kernel)) (fun _ _ _ _ _ => (pg_name (i := 6) nd rfl (Or.inl rfl))) (fun _ _ _ _ _ => pts_nil) (fun _ _ _ _ _ => (pe_meth0 (pv 6) M_is_waiting.cl M_is_waiting.m G_is_waiting (by exact hr.mono (by decide)) M_is_waiting.a .nil pass0))) pa_nil)))) (pss_one (ps_ret pe_bl)) pss_nil)
      (pss_one (ps_ret (pe_cmpR op_le (pe_callB (cr_sum rfl) (by rfl) B.sum (by decide +kernel) (pa_cons (pe_lc (own := [("machine", 6)]) (te := (tMeth _ "need" (LS (aNeed K _)) [] E0 (tVar 6) tNil)) (tt := tYes) (by rfl) nd (pi_list (pv 2)) (blkOk_by (own := [("machine", 6)]) (N := N_can_begin) (sc := defScope s_can_begin) (by decide +kernel)) (fun _ _ _ _ _ => (pg_name (i := 6) nd rfl (Or.inl rfl))) (fun _ _ _ _ _ => pts_nil) (fun _ _ _ _ _ => (pe_meth0 (pv 6) M_need.cl M_need.m G_need (by exact hr.mono (by decide)) M_need.a .nil pass0))) pa_nil)) (pe_fld (pv 0) rfl) (nomark _)))))))), ?_⟩
    refine LS.body j q ?_
    have kf1 : rises xs = false → ∀ F', Ex F F' → R (.bl false) F' := fun e F' g => by have z := k F' g; unfold canB at z; rw [e] at z; exact z
    have kf2 : inRB w xs = false → ∀ F', Ex F F' → R (.bl false) F' := fun e F' g => by have z := k F' g; unfold canB at z; rw [e, Bool.false_and, Bool.and_false] at z; exact z
    have kf3 : waitsB w t xs = false → ∀ F', Ex F F' → R (.bl false) F' := fun e F' g => by have z := k F' g; unfold canB at z; rw [e, Bool.false_and, Bool.and_false, Bool.and_false] at z; exact z
    refine sw_seq ?_
    refine sw_mid (fun σ _ G => σ = [some (.ref A.a), some (.ref rv), none, none, none, none, none] ∧ Ex F G ∧ rises xs = true) ?_ ?_
    · refine sw_if (tw_not (tw_B (ew_cb (aw_cons ?_))))
      rcases hrow with hl | ht
      · refine ew_lcZ2L hd (aw_cons (ew_var rfl (aw_cons (ew_or1 (ew_slL hd (ew_var rfl (ow_some (ew_c ⟨1, rfl, ow_none ⟨rv, _, rfl, hl, fun p hp => aw_nil ?_⟩⟩))))))))
        have gp := Ex.new (.refl F) hp (u := .lst (cutV (xs.map V.int) (some 1) none))
        refine ⟨rv, p, _, _, rfl, gp.sqL hl, SqL.of upd_same, ?_⟩
        rw [cutV_tail9]
        rw [cutV_tail9] at gp
        refine zip_lt hd hx5 (fun G g => ⟨(gp.trans g).sqL hl, SqL.of (g _ _ upd_same)⟩) fun Dl G g e => aw_nil (cw_all hd (SqL.of e) ?_)
        refine ⟨_, rfl, fun hb => sw_ret (ew_c (kf1 (by rw [Bool.not_eq_true'] at hb; exact hb) _ (gp.trans g))), fun hb => sw_next ⟨rfl, gp.trans g, by rw [Bool.not_eq_false'] at hb; exact hb⟩⟩
      · refine ew_lcZ2T hd (aw_cons (ew_var rfl (aw_cons (ew_or2 (ew_slT hd (ew_var rfl (ow_some (ew_c ⟨1, rfl, ow_none ⟨rv, _, rfl, ht, fun hw => aw_nil ?_, fun hw p hp => aw_nil ?_⟩⟩))))))))
        · have e0 : xs = [] := by
            have z := hw.1
            rw [show HT.sIx (xs.map V.int).length 0 (some 1) = min 1 (xs.map V.int).length from HT.sIx_nat _ _ 1, List.length_map] at z
            exact List.eq_nil_of_length_eq_zero (by omega)
          refine ⟨rv, rv, _, (xs.map V.int).drop 1, rfl, ht, by rw [e0] at ht ⊢; exact ht, ?_⟩
          refine zip_lt hd hx5 (fun G g => ⟨g.sqT ht, by rw [e0] at ht ⊢; exact g.sqT ht⟩) fun Dl G g e => aw_nil (cw_all hd (SqL.of e) ?_)
          refine ⟨_, rfl, fun hb => sw_ret (ew_c (kf1 (by rw [Bool.not_eq_true'] at hb; exact hb) _ g)), fun hb => sw_next ⟨rfl, g, by rw [Bool.not_eq_false'] at hb; exact hb⟩⟩
        · have gp := Ex.new (.refl F) hp (u := .tup (cutV (xs.map V.int) (some 1) none))
          refine ⟨rv, p, _, _, rfl, gp.sqT ht, SqT.of upd_same, ?_⟩
          rw [cutV_tail9]
          rw [cutV_tail9] at gp
          refine zip_lt hd hx5 (fun G g => ⟨(gp.trans g).sqT ht, SqT.of (g _ _ upd_same)⟩) fun Dl G g e => aw_nil (cw_all hd (SqL.of e) ?_)
          refine ⟨_, rfl, fun hb => sw_ret (ew_c (kf1 (by rw [Bool.not_eq_true'] at hb; exact hb) _ (gp.trans g))), fun hb => sw_next ⟨rfl, gp.trans g, by rw [Bool.not_eq_false'] at hb; exact hb⟩⟩
    rintro σ _ G ⟨rfl, gG, c1⟩
    refine sw_seq ?_
    refine sw_mid (fun σ _ G => σ = [some (.ref A.a), some (.ref rv), none, none, none, none, none] ∧ Ex F G ∧ inRB w xs = true) ?_ ?_
    · refine sw_if (tw_not (tw_B (ew_cb (aw_cons ?_))))
      refine ew_lcOf hd (e := V.int) (l := xs) (f := fun x => V.bl (decide (0 ≤ x) && decide (x < (w.ms.length : Int)))) (ew_var rfl ⟨rfl, rfl, rfl⟩) (gG.sqO hrow) (by omega) ?_ ?_
      · intro i x Dl acc G2 hi g hDl
        have hd' := hd.jd (D := Dl) (acc := acc)
        have hS := (hX.grow gG).grow g
        have hml : (A.mads.map fun ad => V.ref ad.a).length = w.ms.length := by rw [List.length_map, hX.len1]
        refine gw_name ⟨rfl, tw_yes ⟨fun _ => ?_, (fun z => by cases z)⟩⟩
        refine ew_chain (ew_c (ew_var rfl (rw_I0 ⟨_, rfl, fun hb => ?_, fun hb => ⟨rfl, .refl _, by rw [hb]; rfl⟩⟩)))
        refine ew_cb (aw_cons (ew_fld hd' (ew_var rfl ⟨A.a, A.C, A.dx, _, _, rfl, hS.cell, HR.cl, HR.no _ (by decide +kernel), lookup_nd (i := 5) (rfs_nd _ _ _ _ _ _) rfl, ?_⟩)))
        refine aw_nil (cw_lenS hd' (Or.inl (SqL.of (hS.own.ex _ _ hS.ml))) (rw_I0 ⟨rfl, .refl _, ?_⟩))
        rw [hml, hb, Bool.true_and]
      · intro Dl G2 g e
        refine aw_nil (cw_all hd (bs := xs.map fun x => decide (0 ≤ x) && decide (x < (w.ms.length : Int))) (by rw [List.map_map]; exact SqL.of e) ?_)
        refine ⟨_, rfl, fun hb => sw_ret (ew_c (kf2 (by rw [Bool.not_eq_true'] at hb; exact hb) _ (gG.trans g))), fun hb => sw_next ⟨rfl, gG.trans g, by rw [Bool.not_eq_false'] at hb; exact hb⟩⟩
    clear gG
    rintro σ _ G ⟨rfl, gG, c2⟩
    have hin : ∀ x ∈ xs, ∃ kk : Nat, x = kk ∧ kk < w.ms.length := fun x hx => by
      have z := all_id_of c2 hx
      simp only [Bool.and_eq_true, decide_eq_true_eq] at z
      exact ⟨x.toNat, by omega, by omega⟩
    refine sw_seq ?_
    refine sw_mid (fun σ _ G => ∃ Ml : Addr, σ = [some (.ref A.a), some (.ref rv), some (.ref Ml), none, none, none, none] ∧ Ex F G ∧ G Ml = some (.lst (xs.map fun x => refA A x.toNat))) ?_ ?_
    · refine sw_asg ?_
      refine ew_lcOf hd (e := V.int) (l := xs) (f := fun x => refA A x.toNat) (ew_var rfl ⟨rfl, rfl, rfl⟩) (gG.sqO hrow) (by omega) ?_ ?_
      · intro i x Dl acc G2 hi g hDl
        have hd' := hd.jd (D := Dl) (acc := acc)
        have hS := (hX.grow gG).grow g
        obtain ⟨kk, rfl, hkl⟩ := hin x (List.mem_of_getElem? hi)
        obtain ⟨ad, _, _, z1, _, _⟩ := hS.three hkl
        refine gw_name ⟨rfl, tw_yes ⟨fun _ => ?_, (fun z => by cases z)⟩⟩
        refine ew_op (ew_fld hd' (ew_var rfl ⟨A.a, A.C, A.dx, _, _, rfl, hS.cell, HR.cl, HR.no _ (by decide +kernel), lookup_nd (i := 5) (rfs_nd _ _ _ _ _ _) rfl, ?_⟩))
        refine ew_var rfl (rw_ixL hd' (SqL.of (hS.own.ex _ _ hS.ml)) (atI_nat (show (A.mads.map fun ad => V.ref ad.a)[kk]? = some (.ref ad.a) by rw [List.getElem?_map, z1]; rfl)) ⟨rfl, .refl _, ?_⟩)
        have e9 : refA A kk = .ref ad.a := by unfold refA; rw [z1]
        rw [Int.toNat_natCast, e9]
      · intro Dl G2 g e
        exact gw_name ⟨Dl, rfl, gG.trans g, e⟩
    clear gG
    rintro σ _ G ⟨Ml, rfl, gG, oM⟩
    refine sw_seq ?_
    refine sw_mid (fun σ _ G => σ = [some (.ref A.a), some (.ref rv), some (.ref Ml), none, none, none, none] ∧ Ex F G ∧ G Ml = some (.lst (xs.map fun x => refA A x.toNat)) ∧ waitsB w t xs = true) ?_ ?_
    · refine sw_if (tw_not (tw_B (ew_cb (aw_cons ?_))))
      refine ew_lcLf hd (e := fun x : Int => refA A x.toNat) (l := xs) (f := fun x => V.bl (waitB w t x)) (ew_var rfl ⟨rfl, rfl, rfl⟩) (SqL.of oM) (by omega) ?_ ?_
      · intro i x Dl acc G2 hi g hDl
        have hd' := hd.jd (D := Dl) (acc := acc)
        have hS := (hX.grow gG).grow g
        obtain ⟨kk, rfl, hkl⟩ := hin x (List.mem_of_getElem? hi)
        obtain ⟨ad, m, ss, z1, y1, y2⟩ := hS.three hkl
        have e9 : refA A (kk : Int).toNat = .ref ad.a := by unfold refA; rw [Int.toNat_natCast, z1]
        have e8 : waitB w t (kk : Int) = decide (m.over < 0 ∧ m.at_ ≠ (ss.length : Int)) := by unfold waitB; rw [Int.toNat_natCast, y1, y2]
        show GW _ _ (refA A (kk : Int).toNat) _ _ _ _
        rw [e9]
        refine gw_name ⟨rfl, tw_yes ⟨fun _ => ?_, (fun z => by cases z)⟩⟩
        refine ew_meth hd' (ew_var rfl ⟨ad.a, ad.dx, _, rfl, hS.mac z1 y1, mfs_no (by decide +kernel), aw_nil ⟨_, ad.a, ad.dx, _, ad.sv, ss, m, rfl, hS.mobj z1 y1 y2, rfl, .refl _, ?_⟩⟩)
        rw [e8]
      · intro Dl G2 g e
        refine aw_nil (cw_all hd (bs := xs.map (waitB w t)) (by rw [List.map_map]; exact SqL.of e) ?_)
        refine ⟨_, rfl, fun hb => sw_ret (ew_c (kf3 (by rw [Bool.not_eq_true'] at hb; exact hb) _ (gG.trans g))), fun hb => sw_next ⟨rfl, gG.trans g, g _ _ oM, by rw [Bool.not_eq_false'] at hb; exact hb⟩⟩
    clear gG oM
    rintro σ _ G ⟨rfl, gG, oM, c3⟩
    refine sw_ret (ew_op (ew_cb (aw_cons ?_)))
    refine ew_lcLf hd (e := fun x : Int => refA A x.toNat) (l := xs) (f := fun x => V.int (drawK w t x)) (ew_var rfl ⟨rfl, rfl, rfl⟩) (SqL.of oM) (by omega) ?_ ?_
    · intro i x Dl acc G2 hi g hDl
      have hd' := hd.jd (D := Dl) (acc := acc)
      have hS := (hX.grow gG).grow g
      have hwt := all_id_of c3 (List.mem_of_getElem? hi)
      obtain ⟨kk, rfl, hkl⟩ := hin x (List.mem_of_getElem? hi)
      obtain ⟨ad, m, ss, z1, y1, y2⟩ := hS.three hkl
      have e9 : refA A (kk : Int).toNat = .ref ad.a := by unfold refA; rw [Int.toNat_natCast, z1]
      unfold waitB at hwt
      rw [Int.toNat_natCast, y1, y2] at hwt
      have hwt := of_decide_eq_true hwt
      have ho := hok.m _ m ss y1 y2
      have := ho.a0
      have := ho.a1
      obtain ⟨st, hst⟩ : ∃ st, ss[m.at_.toNat]? = some st := ⟨_, List.getElem?_eq_getElem (by omega)⟩
      have e8 : drawK w t (kk : Int) = st.draw := by unfold drawK; rw [Int.toNat_natCast, y1, y2]; simp only [hst]
      show GW _ _ (refA A (kk : Int).toNat) _ _ _ _
      rw [e9]
      refine gw_name ⟨rfl, tw_yes ⟨fun _ => ?_, (fun z => by cases z)⟩⟩
      refine ew_meth hd' (ew_var rfl ⟨ad.a, ad.dx, _, rfl, hS.mac z1 y1, mfs_no (by decide +kernel), aw_nil ⟨_, ad.a, ad.dx, _, ad.sv, ss, m, st, rfl, hS.mobj z1 y1 y2, ho.a0, hst, rfl, .refl _, ?_⟩⟩)
      rw [e8]
    · intro Dl G2 g e
      refine aw_nil (cw_sum hd (ns := xs.map (drawK w t)) (by rw [List.map_map]; exact SqL.of e) (ew_fld hd (ew_var rfl ⟨A.a, A.C, A.dx, _, _, rfl, ((hX.grow gG).grow g).cell, HR.cl, HR.no _ (by decide +kernel), lookup_nd (i := 1) (rfs_nd _ _ _ _ _ _) rfl, rw_I0 ?_⟩)))
      have z := k G2 (gG.trans g)
      unfold canB at z
      rw [c1, c2, c3, Bool.true_and, Bool.true_and, Bool.true_and] at z
      exact z

abbrev s_judged : Stmt := top 40
def N_judged : List Str := ["world", "plan", "shop", "beat", "row", "number", "ended", "machine"]
theorem sc_judged : FnScope N_judged ["world", "plan"] (defScope s_judged) := ⟨rfl, rfl, rfl, by decide +kernel, rfl, by decide +kernel, by decide +kernel⟩
theorem ok_judged {f : Addr} {fd : FuncData} {f1 f2 f3 f4 f5 f6 f7 f8 : Addr} {fd1 fd2 fd3 fd4 fd5 fd6 fd7 fd8 : FuncData} (Fn : Fun K "judged" "judged" s_judged f fd) (B : Blt mg) (HR : ClsF K C rkeys) (HM : ClsF K M mkeys) {tMR : Tok} (gMOST_ROWS : mg "MOST_ROWS" = some (.int 500 tMR)) (Ball : mg "all" = none) (Ccheck_world : Cal K mg "check_world" f1 fd1 ["world"]) (Gcheck_world : FnOk P w K mg base CX0 3 f1 fd1 ["world"] (LS (aChkW K))) (MK_Shop : Mk K C f2) (G_Shop : FnOk P w K mg base CX0 4 f2 fd2 ["self", "world", "anew"] (LS (aSInit K C M))) (MK_Shop_g : mg "Shop" = some (.ref C)) (MK_Shop_a : Binds K fd2 ["self", "world", "anew"] []) (M_open_beat : Met K C "open_beat" f3 fd3 ["self"]) (G_open_beat : FnOk P w K mg base CX0 3 f3 fd3 ["self"] (LS (aOpenB true K C M))) (Ccan_begin : Cal K mg "can_begin" f4 fd4 ["shop", "row"]) (Gcan_begin : FnOk P w K mg base CX0 3 f4 fd4 ["shop", "row"] (LS (aCanBegin K C M))) (M_begin : Met K C "begin" f5 fd5 ["self", "machine"]) (G_begin : FnOk P w K mg base CX0 2 f5 fd5 ["self", "machine"] (LS (aBeginR true K C M))) (M_close_beat : Met K C "close_beat" f6 fd6 ["self"]) (G_close_beat : FnOk P w K mg base CX0 1 f6 fd6 ["self"] (LS (aCloseB true K C M))) (Chas_begun_all : Cal K mg "has_begun_all" f7 fd7 ["machine"]) (Ghas_begun_all : FnOk P w K mg base CX0 2 f7 fd7 ["machine"] (LS (aBegunAll K M))) (M_is_busy : Met K M "is_busy" f8 fd8 ["self"]) (G_is_busy : FnOk P w K mg base CX0 1 f8 fd8 ["self"] (LS (aBusy K M))) : FnOk P w K mg base CX0 6 f fd ["world", "plan"] (LS (aJudged K)) := by
  refine Fn.ok sc_judged (fun vs H Q E h => ?_) (fun cdv A outer s H vs Q E hr h => ?_)
  · obtain ⟨J, F, R, hd, j, h, _⟩ := h
    obtain ⟨wv, w, pa, rows, t, rfl, _⟩ := h
    rfl
  · have nd := sc_judged.nd
    obtain ⟨J, F, R, hd, j, h, q⟩ := h
    obtain ⟨wv, w, pa, rows, t, rfl, dw, hw, hp, hj, hr5, hx5, k⟩ := h
    refine ⟨_, (pss_cons (ps_expr (pe_call Gcheck_world (by exact hr.mono (by decide)) (by rfl) Ccheck_world.g Ccheck_world.k Ccheck_world.a .nil pass0 (pa_cons (pv 0) pa_nil)))
      (pss_cons (ps_set (i := 2) nd rfl (Or.inl rfl) (pe_make MK_Shop G_Shop (by exact hr.mono (by decide)) (by rfl) MK_Shop_g MK_Shop_a .nil pass0 (pa_cons (pv 0) (pa_cons pe_bl pa_nil))))
      (pss_cons (ps_for PassesOwn.never rfl (pi_or (pi_enum (by rfl) B.enumerate (pa_cons (pv 1) pa_nil)) (pi_enumT (by rfl) B.enumerate (pa_cons (pv 1) pa_nil))) (pg_tup rfl (pgs_cons (pg_name (i := 3) nd rfl (Or.inl rfl)) (pgs_cons (pg_name (i := 4) nd rfl (Or.inl rfl)) pgs_nil))) (pss_cons (ps_expr (pe_meth0 (pv 2) M_open_beat.cl M_open_beat.m G_open_beat (by exact hr.mono (by decide)) M_open_beat.a .nil pass0))
      (pss_cons (ps_if (PW.pt (pw_or (pt_cmpR op_eq (pv 3) (pe_glob (v := .int 500) rfl gMOST_ROWS ⟨_, rfl⟩) (nomark _)) (pw_or1 (pt_not (pt_val (pe_call Gcan_begin (by exact hr.mono (by decide)) (by rfl) Ccan_begin.g Ccan_begin.k Ccan_begin.a .nil pass0 (pa_cons (pv 2) (pa_cons (pv 4) pa_nil)))))))) (pss_one ps_never) pss_nil)
      (pss_cons (ps_for PassesOwn.never rfl (pi_or (pi_list (pv 4)) (pi_tup (pv 4))) (pg_name (i := 5) nd rfl (Or.inl rfl)) (pss_one (ps_expr (pe_meth (pv 2) M_begin.cl M_begin.m G_begin (by exact hr.mono (by decide)) M_begin.a .nil pass0 (pa_cons (pe_ix ix_list (pe_fld (pv 2) rfl) (pv 5) (fun _ _ => rfl)) pa_nil)))))
      (pss_one (ps_expr (pe_meth0 (pv 2) M_close_beat.cl M_close_beat.m G_close_beat (by exact hr.mono (by decide)) M_close_beat.a .nil pass0)))))))
      (pss_cons (ps_if (pt_not (pt_val (pe_callB (cr_all rfl) (by rfl) Ball (by decide +kernel) (pa_cons (pe_lc (own := [("machine", 7)]) (te := (tCall (LS (aBegunAll K M)) [] E0 (tCons (tVar 7) tNil))) (tt := tYes) (by rfl) nd (pi_list (pe_fld (pv 2) rfl)) (blkOk_by (own := [("machine", 7)]) (N := N_judged) (sc := defScope s_judged) (by decide +kernel)) (fun _ _ _ _ _ => (pg_name (i := 7) nd rfl (Or.inl rfl))) (fun _ _ _ _ _ => pts_nil) (fun _ _ _ _ _ => (pe_call Ghas_begun_all (by exact hr.mono (by decide)) (by rfl) Chas_begun_all.g Chas_begun_all.k Chas_begun_all.a .nil pass0 (pa_cons (pv 7) pa_nil)))) pa_nil)))) (pss_one (ps_ret pe_non)) pss_nil)
      (pss_cons (ps_setLc (i := 6) rfl nd rfl rfl (sw_true rfl rfl rfl (by decide +kernel)) (own := [("machine", 7)]) (te := (tIf (tB (tMeth _ "is_busy" (LS (aBusy K _)) [] E0 (tVar 7) tNil)) (tFld K (tVar 7) "over") (tFld K (tVar 7) "since"))) (tt := tYes) (pi_list (pe_fld (pv 2) rfl)) (blkOk_by (own := [("machine", 7)]) (N := N_judged) (sc := defScope s_judged) (by decide +kernel)) (fun _ _ _ _ _ => (pg_name (i := 7) nd rfl (Or.inl rfl))) (fun _ _ _ _ _ => pts_nil) (fun _ _ _ _ _ => (pe_ifExp (pt_val (pe_meth0 (pv 7) M_is_busy.cl M_is_busy.m G_is_busy (by exact hr.mono (by decide)) M_is_busy.a .nil pass0)) (pe_fld (pv 7) rfl) (pe_fld (pv 7) rfl))))
      (pss_one (ps_ret (pe_callBK (cr_maxD rfl) (by rfl) B.max (by decide +kernel) (pa_cons (pv 6) pa_nil) (pk_cons pe_int pk_nil))))))))), ?_⟩
    refine LS.body j q ?_
    obtain ⟨vs, hpl, hvl, hpr⟩ := hp
    have hm5 := hw.m
    have hok := hj.ok.1
    have hsn := hj.sn
    refine sw_seq (sw_drop (ew_call hd ?_))
    walk_at "ob"
    refine ⟨wv, w, rfl, dw, hw, fun F1 g1 => ?_⟩
    refine sw_seq (sw_asg (ew_make hd (aw_cons (ew_var rfl (aw_cons (ew_c (aw_nil fun x dx hx hdx hne => ?_)))))))
    have hx2 : upd F1 dx (.own x) x = none := by rw [upd_ne hne.symm]; exact hx
    have g2 := Ex.new (.refl F1) hdx (u := .own x)
    refine ⟨upd F1 dx (.own x), x, dx, wv, w, Rgt.rank, true, false, rfl, rfl, hx2, dp_ex (g1.trans g2) dw, hm5, fun F2 A e1 e2 e3 eP hE => ⟨rfl, gw_name ?_⟩⟩
    subst e1 e2 e3
    have gB : Ex F (upd (upd F1 dx (.own A.a)) A.ml (.lst (A.mads.map fun ad => .ref ad.a))) := (g1.trans g2).trans (Ex.new (.refl _) hE.ml0)
    have hS0 := hE.shut
    generalize upd (upd F1 dx (.own A.a)) A.ml (.lst (A.mads.map fun ad => .ref ad.a)) = F0 at gB hS0
    refine sw_seq ?_
    refine sw_mid (fun σ _ G => ∃ (x3 x4 x5 : Option V), σ = [some wv, some (.ref pa), some (.ref A.a), x3, x4, x5, none, none] ∧ SAt true K F0 G A t w Rgt.rank true false []) ?_ ?_
    · refine sw_forEO hd (B := F) (fun i σ _ G => ∃ (x3 x4 x5 : Option V) (ti : LSt), σ = [some wv, some (.ref pa), some (.ref A.a), x3, x4, x5, none, none] ∧ JPath w i ti (rows.take i) ∧ SAt true K F0 G A ti w Rgt.rank true false []) (aw_cons (ew_var rfl (aw_nil ⟨rfl, rfl, rfl⟩))) hpl ⟨none, none, none, _, rfl, .zero, hS0⟩ ?_ ?_ ?_
      · rintro i σ _ G hi ⟨x3, x4, x5, ti, rfl, hJi, hG⟩
        exact gB.trans hG.own.ex
      · rintro i v σ _ G T hi ⟨x3, x4, x5, ti, rfl, hJi, hG⟩ hT
        refine gw_tup hd ⟨T, _, rfl, SqT.of upd_same, rfl, gsw_cons (gw_name (gsw_cons (gw_name (gsw_nil ?_))))⟩
        have hG1 := hG.new' (o := .tup [.int (i : Int), v]) hT
        have hil : i < rows.length := by rw [← hvl]; exact (List.getElem?_eq_some_iff.mp hi).1
        obtain ⟨xs, hxs⟩ : ∃ xs, rows[i]? = some xs := ⟨_, List.getElem?_eq_getElem hil⟩
        obtain ⟨ra, rfl, hrow⟩ := hpr i v xs hi hxs
        obtain ⟨hcan, hnext⟩ := hj.step hxs hJi
        have hopen := jOpen_ok (w := w) hJi.ok.1
        have hx1 := hx5 xs (List.mem_of_getElem? hxs)
        refine sw_seq (sw_drop (ew_meth hd (ew_var rfl ⟨A.a, A.dx, _, rfl, hG1.cell, rfs_no (by decide +kernel), aw_nil ⟨F0, A, ti, w, Rgt.rank, true, false, [], rfl, rfl, rfl, hG1, hJi.ok.1, hm5, fun q G2 hG2 => ?_⟩⟩)))
        have hG3 : SAt true K F0 G2 A (jOpen w ti) w Rgt.rank true false [] := hG2.drop
        clear hG2
        refine sw_seq (sw_if (tw_or (tw_test (ew_op (ew_var rfl (ew_c (rw_eq rfl ⟨_, rfl, fun hb => ?_, fun hb => ?_⟩)))))))
        · exfalso
          have e := of_decide_eq_true hb
          injection e with e
          omega
        refine tw_not (tw_B (ew_call hd (aw_cons (ew_var rfl (aw_cons (ew_var rfl (aw_nil ⟨F0, A, jOpen w ti, w, Rgt.rank, true, false, [], ra, xs, rfl, rfl, rfl, hG3, hopen, (gB.trans hG3.own.ex).sqO hrow, hx1, fun G4 g4 => ⟨_, rfl, ?_⟩⟩)))))))
        rw [hcan]
        refine ⟨(fun z => by cases z), fun _ => sw_next ?_⟩
        have hG4 := hG3.grow g4
        have hJB := JB.of hopen hcan
        refine sw_seq ?_
        refine sw_mid (fun σ _ G' => ∃ x5 : Option V, σ = [some wv, some (.ref pa), some (.ref A.a), some (.int (i : Int)), some (.ref ra), x5, none, none] ∧ SAt true K F0 G' A (jBegins w (jOpen w ti) xs) w Rgt.rank true false []) ?_ ?_
        · refine sw_forO hd (B := F) (fun k σ _ G' => ∃ x5 : Option V, σ = [some wv, some (.ref pa), some (.ref A.a), some (.int (i : Int)), some (.ref ra), x5, none, none] ∧ SAt true K F0 G' A (jBegins w (jOpen w ti) (xs.take k)) w Rgt.rank true false []) (ew_var rfl ⟨rfl, rfl, rfl⟩) hrow ⟨x5, rfl, hG4⟩ ?_ ?_ ?_
          · rintro k' σ _ G' hk' ⟨y5, rfl, hG'⟩
            exact gB.trans hG'.own.ex
          · rintro k' y σ _ G' hk' ⟨y5, rfl, hG'⟩
            rw [List.getElem?_map] at hk'
            obtain ⟨x, hxk, rfl⟩ := Option.map_eq_some_iff.mp hk'
            have hJk := hJB.drop k'
            have hxd : x ∈ xs.drop k' := by
              refine List.mem_of_getElem? (i := 0) ?_
              rw [List.getElem?_drop]
              exact hxk
            have h0 := hJk.ge x hxd
            have hwt := hJk.wt x hxd
            have htk : xs.take (k' + 1) = xs.take k' ++ [x] := by rw [List.take_succ, hxk]; rfl
            obtain ⟨m, ss, st, y1, y2, y3, y4⟩ : ∃ m ss st, (jBegins w (jOpen w ti) (xs.take k')).ms[x.toNat]? = some m ∧ w.ms[x.toNat]? = some ss ∧ 0 ≤ m.at_ ∧ ss[m.at_.toNat]? = some st := by
              unfold waitB at hwt
              split at hwt
              · rename_i m ss hm hs
                have hwt := of_decide_eq_true hwt
                have ho := hJk.ok.m _ m ss hm hs
                have := ho.a0
                have := ho.a1
                exact ⟨m, ss, _, hm, hs, ho.a0, List.getElem?_eq_getElem (by omega)⟩
              · cases hwt
            have hkl : x.toNat < w.ms.length := (List.getElem?_eq_some_iff.mp y2).1
            obtain ⟨ad, _, _, z1, _, _⟩ := hG'.three hkl
            have hl0 := (hw.st ss (List.mem_of_getElem? y2) st (List.mem_of_getElem? y4)).l0
            have hb0 := hJk.ok.b
            have e7 : jBegins w (jOpen w ti) (xs.take (k' + 1)) = sBegin (jBegins w (jOpen w ti) (xs.take k')) x.toNat m st := by
              have e5 : ∀ (T : LSt) (l : List Int) (x : Int), jBegins w T (l ++ [x]) = jBegin w (jBegins w T l) x := fun T l x => by unfold jBegins; rw [List.foldl_append]; rfl
              rw [htk, e5]
              unfold jBegin
              rw [y1, y2]
              simp only [y4]
            refine gw_name (sw_drop (ew_meth hd (ew_var rfl ⟨A.a, A.dx, _, rfl, hG'.cell, rfs_no (by decide +kernel), ?_⟩)))
            refine aw_cons (ew_op (ew_fld hd (ew_var rfl ⟨A.a, A.C, A.dx, _, _, rfl, hG'.cell, HR.cl, HR.no _ (by decide +kernel), lookup_nd (i := 5) (rfs_nd _ _ _ _ _ _) rfl, ?_⟩)))
            refine ew_var rfl (rw_ixL hd (v := .ref ad.a) (SqL.of (hG'.own.ex _ _ hG'.ml)) ?_ ?_)
            · have e6 : x = ((x.toNat : Nat) : Int) := by omega
              rw [e6]
              exact atI_nat (show (A.mads.map fun ad => V.ref ad.a)[x.toNat]? = some (.ref ad.a) by rw [List.getElem?_map, z1]; rfl)
            · refine aw_nil ⟨F0, A, _, w, Rgt.rank, true, false, [], x.toNat, ad, m, ss, st, rfl, rfl, rfl, hG', z1, y1, y2, y3, y4, by omega, fun F' hF' => ?_⟩
              exact ⟨_, rfl, by rw [e7]; exact hF'⟩
          · rintro σ _ G' ⟨y5, rfl, hG'⟩
            rw [List.length_map, List.take_length] at hG'
            exact ⟨y5, rfl, hG'⟩
        rintro σ _ G' ⟨y5, rfl, hG'⟩
        refine sw_drop (ew_meth hd (ew_var rfl ⟨A.a, A.dx, _, rfl, hG'.cell, rfs_no (by decide +kernel), aw_nil ⟨F0, A, _, w, Rgt.rank, true, false, [], rfl, rfl, rfl, hG', fun F' hF' => ?_⟩⟩))
        exact ⟨_, _, _, _, rfl, hnext, hF'⟩
      · rintro σ _ G ⟨x3, x4, x5, ti, rfl, hJi, hG⟩
        rw [hvl, List.take_length] at hJi
        obtain rfl := hj.uniq hJi
        exact ⟨x3, x4, x5, rfl, hG⟩
    rintro σ _ G ⟨x3, x4, x5, rfl, hG⟩
    have hl1 := hG.len1
    have hl2 := hG.len2
    have kz := fun G' (g : Ex G G') => k G' ((gB.trans hG.own.ex).trans g)
    unfold judgedV at kz
    refine sw_seq ?_
    refine sw_mid (fun σ _ G' => σ = [some wv, some (.ref pa), some (.ref A.a), x3, x4, x5, none, none] ∧ Ex G G' ∧ begunB w t = true) ?_ ?_
    · refine sw_if (tw_not (tw_B (ew_cb (aw_cons ?_))))
      refine ew_lcLf hd (e := fun x : MAd × Mac × List Stp => V.ref x.1.a) (l := A.mads.zip (t.ms.zip w.ms)) (f := fun x => V.bl (begunAll x.2.2 x.2.1)) (ew_fld hd (ew_var rfl ⟨A.a, A.C, A.dx, _, _, rfl, hG.cell, HR.cl, HR.no _ (by decide +kernel), lookup_nd (i := 5) (rfs_nd _ _ _ _ _ _) rfl, rfl, rfl, rfl⟩)) (by rw [zip_fst hl1 hl2]; exact SqL.of (hG.own.ex _ _ hG.ml)) (by rw [List.length_zip]; omega) ?_ ?_
      · rintro i ⟨ad, m, ss⟩ Dl acc G2 hi g hDl
        obtain ⟨z1, z2, z3⟩ := zip_at hi
        have hd' := hd.jd (D := Dl) (acc := acc)
        have hS := hG.grow g
        refine gw_name ⟨rfl, tw_yes ⟨fun _ => ?_, (fun z => by cases z)⟩⟩
        exact ew_call hd' (aw_cons (ew_var rfl (aw_nil ⟨F0, ad.a, ad.dx, _, ad.sv, ss, m, rfl, hS.np eP ad (List.mem_of_getElem? z1), hS.mobj z1 z2 z3, rfl, .refl _, rfl⟩)))
      · intro Dl G2 g e
        have e2 := zip_snd (A := A) (t := t) (w := w) (fun x => V.bl (begunAll x.2 x.1)) hl1 hl2
        refine aw_nil (cw_all hd (bs := (t.ms.zip w.ms).map fun x => begunAll x.2 x.1) (SqL.of ?_) ?_)
        · rw [e, List.map_map]
          exact congrArg (fun z => some (HO.lst z)) e2
        refine ⟨_, rfl, fun hb => sw_ret (ew_c ?_), fun hb => sw_next ⟨rfl, g, by rw [Bool.not_eq_false'] at hb; exact hb⟩⟩
        have := kz G2 g
        rw [if_neg (by rw [Bool.not_eq_true'] at hb; unfold begunB; rw [hb]; decide)] at this
        exact this
    rintro σ _ G1 ⟨rfl, gG, hbg⟩
    refine sw_seq (sw_asg ?_)
    refine ew_lcLf hd (e := fun x : MAd × Mac × List Stp => V.ref x.1.a) (l := A.mads.zip (t.ms.zip w.ms)) (f := fun x => V.int (endedK x.2.1)) (ew_fld hd (ew_var rfl ⟨A.a, A.C, A.dx, _, _, rfl, (hG.grow gG).cell, HR.cl, HR.no _ (by decide +kernel), lookup_nd (i := 5) (rfs_nd _ _ _ _ _ _) rfl, rfl, rfl, rfl⟩)) (by rw [zip_fst hl1 hl2]; exact SqL.of ((hG.grow gG).own.ex _ _ hG.ml)) (by rw [List.length_zip]; omega) ?_ ?_
    · rintro i ⟨ad, m, ss⟩ Dl acc G2 hi g hDl
      obtain ⟨z1, z2, z3⟩ := zip_at hi
      have hd' := hd.jd (D := Dl) (acc := acc)
      have hS := (hG.grow gG).grow g
      refine gw_name ⟨rfl, tw_yes ⟨fun _ => ?_, (fun z => by cases z)⟩⟩
      refine ew_if (tw_B (ew_meth hd' (ew_var rfl ⟨ad.a, ad.dx, _, rfl, hS.mac z1 z2, mfs_no (by decide +kernel), aw_nil ⟨F0, ad.a, ad.dx, _, ad.sv, ss, m, rfl, hS.mobj z1 z2 z3, ⟨_, rfl, fun hb => ?_, fun hb => ?_⟩⟩⟩)))
      · refine ew_fld hd' (ew_var rfl ⟨ad.a, A.M, ad.dx, _, _, rfl, hS.mac z1 z2, HM.cl, HM.no _ (by decide +kernel), lookup_nd (i := 3) (mfs_nd _ _ _) rfl, rfl, .refl _, ?_⟩)
        have hb := of_decide_eq_true hb
        show _ ++ [ovV m.over] = _ ++ [V.int (endedK m)]
        unfold ovV endedK
        rw [if_neg (by omega), if_pos hb]
      · refine ew_fld hd' (ew_var rfl ⟨ad.a, A.M, ad.dx, _, _, rfl, hS.mac z1 z2, HM.cl, HM.no _ (by decide +kernel), lookup_nd (i := 4) (mfs_nd _ _ _) rfl, rfl, .refl _, ?_⟩)
        have hb := of_decide_eq_false hb
        show _ ++ [V.int m.since] = _ ++ [V.int (endedK m)]
        unfold endedK
        rw [if_neg hb]
    · intro Dl G2 g e
      have e2 := zip_snd (A := A) (t := t) (w := w) (fun x => V.int (endedK x.1)) hl1 hl2
      have e3 : (A.mads.zip (t.ms.zip w.ms)).map (fun x => V.int (endedK x.2.1)) = (t.ms.map endedK).map V.int := by
        rw [e2, zip_ms (t := t) (w := w) (fun m => V.int (endedK m)) hl2, List.map_map]
        rfl
      rw [e3] at e
      refine gw_name ?_
      refine sw_ret (ew_maxD hd (aw_cons (ew_var rfl (aw_nil ⟨Dl, t.ms.map endedK, rfl, SqL.of e, fun y hy => ended_ge hsn hy, aw_cons (ew_c (aw_nil ⟨rfl, SqL.of e, ?_⟩))⟩))))
      have := kz G2 (gG.trans g)
      rw [if_pos hbg] at this
      exact this
end
end Obr
namespace Obr
/-! ### runs of beats (mathematics only; machines don't begin anew) -/
structure LInv (w : Wld) (t : LSt) : Prop where
  ok : LOk w t
  l0 : 0 ≤ t.level
  l1 : t.level ≤ w.cap
  ov : ∀ (k : Nat) (m : Mac), t.ms[k]? = some m → 0 ≤ m.over → t.beat ≤ m.over
  en : ∀ (k : Nat) (m : Mac) (ss : List Stp), t.ms[k]? = some m → w.ms[k]? = some ss → (m.at_ = ss.length → m.ends = some m.since) ∧ (m.at_ < ss.length → m.ends = none)
theorem endM_cases {b : Int} {ss : List Stp} {m : Mac} (h : MacOk ss m) (hb : 0 ≤ b) :
    (m.over = b ∧ m.at_ < ss.length ∧ endM false b ss m = { m with at_ := m.at_ + 1, over := -1, since := b, done := m.done + 1, ends := if m.at_ + 1 = ss.length then some b else m.ends }) ∨ (m.over ≠ b ∧ endM false b ss m = m) := by
  by_cases e : m.over = b
  · have hl := h.o (by omega)
    have h0 := h.a0
    refine Or.inl ⟨e, hl, ?_⟩
    have hst : ss[m.at_.toNat]? = some ss[m.at_.toNat] := List.getElem?_eq_getElem (by omega)
    unfold endM
    rw [if_pos e]
    simp only [hst]
    by_cases c : m.at_ + 1 = ss.length
    · rw [if_pos c, if_pos c]; rfl
    · rw [if_neg c, if_neg c]
  · refine Or.inr ⟨e, ?_⟩
    unfold endM
    rw [if_neg e]
/-- how much is to be done yet -/
def phi (ss : List Stp) (b : Int) (m : Mac) : Int := if m.over < 0 then 10 * (ss.length - m.at_) else (m.over - b + 1) + 10 * (ss.length - m.at_ - 1)
structure MStep (cap b : Int) (ss : List Stp) (m m' : Mac) (began : Prop) : Prop where
  ok : MacOk ss m'
  ov : 0 ≤ m'.over → b + 1 ≤ m'.over
  en : (m'.at_ = ss.length → m'.ends = some m'.since) ∧ (m'.at_ < ss.length → m'.ends = none)
  ph : phi ss (b + 1) m' ≤ phi ss b m
  ph2 : began ∨ 0 ≤ m.over → phi ss (b + 1) m' < phi ss b m
  wt : m'.waits = m.waits + (if m'.over < 0 ∧ m'.at_ < ss.length then 1 else 0)
  keep : m.over < 0 → ¬ began → m'.at_ = m.at_ ∧ m'.over = m.over ∧ m'.since = m.since ∧ m'.ends = m.ends ∧ m'.done = m.done
  idle : began → 0 ≤ m'.over
theorem mstep {cap b : Int} {ss : List Stp} {m m' : Mac} {began : Prop} (h : MacOk ss m) (hb : 0 ≤ b) (hov : 0 ≤ m.over → b ≤ m.over) (hen : (m.at_ = ss.length → m.ends = some m.since) ∧ (m.at_ < ss.length → m.ends = none))
    (hs : ∀ st ∈ ss, StpOk cap st) (k : MBeat false b ss m m' began) : MStep cap b ss m m' began := by
  have h0 := h.a0
  have h1 := h.a1
  rcases endM_cases h hb with ⟨e1, e2, e3⟩ | ⟨e1, e3⟩
  · have kn := k.no
    have ky := k.yes
    rw [e3] at kn ky
    simp only at kn ky
    by_cases hc : m.at_ + 1 < ss.length
    · obtain ⟨st, hst, hd⟩ := ky ⟨by decide, hc⟩
      have hso := hs st (List.mem_of_getElem? hst)
      have l0 := hso.l0
      have l1 := hso.l1
      have hen2 := hen.2 e2
      rcases hd with ⟨q1, rfl⟩ | ⟨q1, rfl⟩
      · refine ⟨⟨by show 0 ≤ m.at_ + 1; omega, by show m.at_ + 1 ≤ _; omega, fun _ => hc⟩, fun _ => by show b + 1 ≤ b + st.long; omega, ⟨fun z => by have : m.at_ + 1 = ss.length := z; omega, fun _ => ?_⟩, ?_, fun _ => ?_, ?_, fun z => by omega, fun _ => by show 0 ≤ b + st.long; omega⟩
        · show (if m.at_ + 1 = ss.length then some b else m.ends) = none
          rw [if_neg (by omega)]; exact hen2
        · unfold phi; simp only []; rw [if_neg (by omega), if_neg (by omega)]; omega
        · unfold phi; simp only []; rw [if_neg (by omega), if_neg (by omega)]; omega
        · simp only []; rw [if_neg (by omega)]; omega
      · refine ⟨⟨by show 0 ≤ m.at_ + 1; omega, by show m.at_ + 1 ≤ _; omega, fun z => absurd z (by show ¬ (0 : Int) ≤ -1; decide)⟩, fun z => absurd z (by show ¬ (0 : Int) ≤ -1; decide), ⟨fun z => by have : m.at_ + 1 = ss.length := z; omega, fun _ => ?_⟩, ?_, fun _ => ?_, ?_, fun z => by omega, fun z => absurd z q1⟩
        · show (if m.at_ + 1 = ss.length then some b else m.ends) = none
          rw [if_neg (by omega)]; exact hen2
        · unfold phi; simp only []; rw [if_pos (by decide), if_neg (by omega)]; omega
        · unfold phi; simp only []; rw [if_pos (by decide), if_neg (by omega)]; omega
        · simp only []; rw [if_pos ⟨by decide, hc⟩]
    · have he : m.at_ + 1 = ss.length := by omega
      obtain ⟨rfl, q1⟩ := kn (fun z => hc z.2)
      refine ⟨⟨by show 0 ≤ m.at_ + 1; omega, by show m.at_ + 1 ≤ _; omega, fun z => absurd z (by show ¬ (0 : Int) ≤ -1; decide)⟩, fun z => absurd z (by show ¬ (0 : Int) ≤ -1; decide), ⟨fun _ => ?_, fun z => by have : m.at_ + 1 < ss.length := z; omega⟩, ?_, fun _ => ?_, ?_, fun z => by omega, fun z => absurd z q1⟩
      · show (if m.at_ + 1 = ss.length then some b else m.ends) = some b
        rw [if_pos he]
      · unfold phi; simp only []; rw [if_pos (by decide), if_neg (by omega)]; omega
      · unfold phi; simp only []; rw [if_pos (by decide), if_neg (by omega)]; omega
      · simp only []; rw [if_neg (by omega)]; omega
  · have kn := k.no
    have ky := k.yes
    rw [e3] at kn ky
    by_cases hc : m.over < 0 ∧ m.at_ < ss.length
    · obtain ⟨st, hst, hd⟩ := ky hc
      have hso := hs st (List.mem_of_getElem? hst)
      have l0 := hso.l0
      have l1 := hso.l1
      rcases hd with ⟨q1, rfl⟩ | ⟨q1, rfl⟩
      · refine ⟨⟨h0, h1, fun _ => hc.2⟩, fun _ => by show b + 1 ≤ b + st.long; omega, hen, ?_, fun _ => ?_, ?_, fun _ z => absurd q1 z, fun _ => by show 0 ≤ b + st.long; omega⟩
        · unfold phi; simp only []; rw [if_neg (by omega), if_pos (by omega)]; omega
        · unfold phi; simp only []; rw [if_neg (by omega), if_pos (by omega)]; omega
        · simp only []; rw [if_neg (by omega)]; omega
      · refine ⟨⟨h0, h1, h.o⟩, fun z => by have z2 : 0 ≤ m.over := z; omega, hen, ?_, fun z => ?_, ?_, fun _ _ => ⟨rfl, rfl, rfl, rfl, rfl⟩, fun z => absurd z q1⟩
        · unfold phi; simp only []; rw [if_pos hc.1, if_pos hc.1]; omega
        · rcases z with z | z
          · exact absurd z q1
          · omega
        · simp only []; rw [if_pos hc]
    · obtain ⟨rfl, q1⟩ := kn hc
      have hlt : 0 ≤ m'.over → b + 1 ≤ m'.over := fun z => by have := hov z; omega
      refine ⟨h, hlt, hen, ?_, fun z => ?_, ?_, fun _ _ => ⟨rfl, rfl, rfl, rfl, rfl⟩, fun z => absurd z q1⟩
      · unfold phi
        by_cases z : m'.over < 0
        · rw [if_pos z, if_pos z]; omega
        · rw [if_neg z, if_neg z]; omega
      · rcases z with z | z
        · exact absurd z q1
        · unfold phi
          rw [if_neg (by omega), if_neg (by omega)]; omega
      · rw [if_neg hc]; omega
/-! the store -/
theorem minI_le {a b : Int} : minI a b ≤ a := by unfold minI; split <;> omega
theorem minI_nn {a b : Int} (h : 0 ≤ a) (k : 0 ≤ b) : 0 ≤ minI a b := by unfold minI; split <;> omega
theorem lEnd_lev {w : Wld} (hw : WldOk w) {anew : Bool} {t : LSt} {k : Nat} (h0 : 0 ≤ t.level) (h1 : t.level ≤ w.cap) : 0 ≤ (lEnd w anew t k).level ∧ (lEnd w anew t k).level ≤ w.cap := by
  unfold lEnd
  split
  · rename_i m ss hm hs
    split
    · split
      · rename_i st hst
        have hb := (hw.st ss (List.mem_of_getElem? hs) st (List.mem_of_getElem? hst)).b0
        have hc := hw.c0
        split
        · exact ⟨minI_nn (by omega) (by omega), minI_le⟩
        · exact ⟨minI_nn (by omega) (by omega), minI_le⟩
      · exact ⟨h0, h1⟩
    · exact ⟨h0, h1⟩
  · exact ⟨h0, h1⟩
theorem lEnds_lev {w : Wld} (hw : WldOk w) {anew : Bool} {t : LSt} (h0 : 0 ≤ t.level) (h1 : t.level ≤ w.cap) : ∀ n, 0 ≤ (lEnds w anew t n).level ∧ (lEnds w anew t n).level ≤ w.cap
  | 0 => ⟨h0, h1⟩
  | n + 1 => let h := lEnds_lev hw (anew := anew) h0 h1 n; lEnd_lev hw h.1 h.2
theorem lFill_lev {w : Wld} (hw : WldOk w) {t : LSt} (h0 : 0 ≤ t.level) (h1 : t.level ≤ w.cap) : 0 ≤ (lFill w t).level ∧ (lFill w t).level ≤ w.cap := by
  have := hw.r0
  have := hw.c0
  unfold lFill
  split
  · exact ⟨minI_nn (by omega) (by omega), minI_le⟩
  · exact ⟨h0, h1⟩
theorem lDraw_lev {w : Wld} {p : Bool} {x : LSt × List Int × Bool} {c : Clm} (hc : 0 ≤ c.draw) (h0 : 0 ≤ x.1.level) (h1 : x.1.level ≤ w.cap) : 0 ≤ (lDraw w p x c).1.level ∧ (lDraw w p x c).1.level ≤ w.cap := by
  unfold lDraw
  split
  · split
    · rename_i h
      split
      · exact ⟨by show 0 ≤ x.1.level - c.draw; omega, by show x.1.level - c.draw ≤ w.cap; omega⟩
      · exact ⟨h0, h1⟩
    · exact ⟨h0, h1⟩
  · exact ⟨h0, h1⟩
theorem lDraws_lev {w : Wld} {p : Bool} : ∀ (ts : List Clm) {x : LSt × List Int × Bool}, (∀ c ∈ ts, 0 ≤ c.draw) → 0 ≤ x.1.level → x.1.level ≤ w.cap → 0 ≤ (ts.foldl (lDraw w p) x).1.level ∧ (ts.foldl (lDraw w p) x).1.level ≤ w.cap
  | [], _, _, h0, h1 => ⟨h0, h1⟩
  | c :: ts, x, hc, h0, h1 => let h := lDraw_lev (w := w) (p := p) (x := x) (hc c List.mem_cons_self) h0 h1; lDraws_lev ts (x := lDraw w p x c) (fun d hd => hc d (List.mem_cons_of_mem _ hd)) h.1 h.2
theorem lEnd_id {w : Wld} {anew : Bool} {t : LSt} {k : Nat} (h : ∀ m, t.ms[k]? = some m → m.over ≠ t.beat) : lEnd w anew t k = t := by
  unfold lEnd
  split
  · rename_i m ss hm hs
    rw [if_neg (h m hm)]
  · rfl
theorem lEnds_id {w : Wld} {anew : Bool} {t : LSt} (h : ∀ (k : Nat) (m : Mac), t.ms[k]? = some m → m.over ≠ t.beat) : ∀ n, lEnds w anew t n = t
  | 0 => rfl
  | n + 1 => by rw [lEnds, lEnds_id h n, lEnd_id (h n)]
theorem claims_draw {w : Wld} (hw : WldOk w) {t : LSt} {n : Nat} {c : Clm} (h : c ∈ lClaims w t n) : 0 ≤ c.draw := by
  obtain ⟨j, _, hcj⟩ := lClaims_mem h
  obtain ⟨m, ss, st, _, h3, _, _, hst, rfl⟩ := lClaim_mem hcj
  exact (hw.st ss (List.mem_of_getElem? h3) st (List.mem_of_getElem? hst)).d0
/-! a beat, whole -/
structure BStep (w : Wld) (t t' : LSt) (bg : List Int) : Prop where
  inv : LInv w t'
  beat : t'.beat = t.beat + 1
  ms : ∀ (k : Nat) (m : Mac) (ss : List Stp), t.ms[k]? = some m → w.ms[k]? = some ss → ∃ m', t'.ms[k]? = some m' ∧ MStep w.cap t.beat ss m m' ((k : Int) ∈ bg)
theorem ms_both {w : Wld} {t : LSt} (h : t.ms.length = w.ms.length) {k : Nat} {m : Mac} (hm : t.ms[k]? = some m) : ∃ ss, w.ms[k]? = some ss := ⟨_, List.getElem?_eq_getElem (by rw [← h]; exact (List.getElem?_eq_some_iff.mp hm).1)⟩
theorem ms_both' {w : Wld} {t : LSt} (h : t.ms.length = w.ms.length) {k : Nat} {ss : List Stp} (hs : w.ms[k]? = some ss) : ∃ m, t.ms[k]? = some m := ⟨_, List.getElem?_eq_getElem (by rw [h]; exact (List.getElem?_eq_some_iff.mp hs).1)⟩
theorem bstep {w : Wld} (hw : WldOk w) {r : Rgt} {p : Bool} {t t' : LSt} {lv : Int} {bg : List Int} (h : LInv w t) (b : LBeat w r p false t t' lv bg) : BStep w t t' bg := by
  obtain ⟨hl, hb, hm⟩ := beat_ms h.ok b
  have hst : ∀ (k : Nat) (m : Mac) (ss : List Stp), t.ms[k]? = some m → w.ms[k]? = some ss → ∃ m', t'.ms[k]? = some m' ∧ MStep w.cap t.beat ss m m' ((k : Int) ∈ bg) := fun k m ss h1 h2 => by
    obtain ⟨m', h3, h4⟩ := hm k m ss h1 h2
    exact ⟨m', h3, mstep (h.ok.m k m ss h1 h2) h.ok.b (h.ov k m h1) (h.en k m ss h1 h2) (hw.st ss (List.mem_of_getElem? h2)) h4⟩
  have back : ∀ (k : Nat) (m' : Mac) (ss : List Stp), t'.ms[k]? = some m' → w.ms[k]? = some ss → ∃ m, t.ms[k]? = some m ∧ MStep w.cap t.beat ss m m' ((k : Int) ∈ bg) := fun k m' ss h1 h2 => by
    obtain ⟨m, h3⟩ := ms_both' h.ok.len h2
    obtain ⟨m2, h4, h5⟩ := hst k m ss h3 h2
    rw [h1] at h4
    cases h4
    exact ⟨m, h3, h5⟩
  obtain ⟨ts, hts, e1, e2, _⟩ := b.ex
  have L1 := lEnds_lev hw (anew := false) h.l0 h.l1 w.ms.length
  have L2 := lFill_lev hw L1.1 L1.2
  have L3 := lDraws_lev (w := w) (p := p) ts (x := (lFill w (lEnds w false t w.ms.length), [], true)) (fun c hc => claims_draw hw (hts.perm.mem_iff.mp hc)) L2.1 L2.2
  refine ⟨⟨⟨by rw [hb]; have := h.ok.b; omega, fun k m' ss h1 h2 => ?_, hl⟩, ?_, ?_, fun k m' h1 h2 => ?_, fun k m' ss h1 h2 => ?_⟩, hb, hst⟩
  · obtain ⟨m, _, h4⟩ := back k m' ss h1 h2
    exact h4.ok
  · rw [e2]; exact L3.1
  · rw [e2]; exact L3.2
  · obtain ⟨ss, hs⟩ := ms_both hl h1
    obtain ⟨m, _, h4⟩ := back k m' ss h1 hs
    rw [hb]
    exact h4.ov h2
  · obtain ⟨m, _, h4⟩ := back k m' ss h1 h2
    exact h4.en
theorem begun_inv {w : Wld} (hw : WldOk w) : LInv w (lBegun w) := by
  have hg : ∀ (k : Nat) (m : Mac), (lBegun w).ms[k]? = some m → ∃ ss, w.ms[k]? = some ss ∧ m = ⟨0, -1, 0, 0, 0, if ss.isEmpty then some 0 else none⟩ := fun k m h => by
    unfold lBegun at h
    rw [List.getElem?_map] at h
    obtain ⟨ss, h1, h2⟩ := Option.map_eq_some_iff.mp h
    exact ⟨ss, h1, h2.symm⟩
  refine ⟨⟨Int.le_refl 0, fun k m ss h1 h2 => ?_, by unfold lBegun; simp⟩, hw.s0, hw.s1, fun k m h1 h2 => ?_, fun k m ss h1 h2 => ?_⟩
  · obtain ⟨ss', _, rfl⟩ := hg k m h1
    exact ⟨Int.le_refl 0, Int.natCast_nonneg _, fun z => absurd z (by show ¬ (0 : Int) ≤ -1; decide)⟩
  · obtain ⟨ss', _, rfl⟩ := hg k m h1
    exact absurd h2 (by show ¬ (0 : Int) ≤ -1; decide)
  · obtain ⟨ss', h3, rfl⟩ := hg k m h1
    rw [h2] at h3
    cases h3
    refine ⟨fun z => ?_, fun z => ?_⟩
    · have z2 : (0 : Int) = ss.length := z
      have : ss = [] := List.eq_nil_of_length_eq_zero (by omega)
      rw [this]
      rfl
    · cases ss with
      | nil => exact absurd z (by show ¬ (0 : Int) < 0; decide)
      | cons a l => rfl
/-! how much is to be done yet, in all -/
def PhiL : List (List Stp) → Int → List Mac → Int
  | ss :: l, b, m :: ms => phi ss b m + PhiL l b ms
  | _, _, _ => 0
def Phi (w : Wld) (t : LSt) : Int := PhiL w.ms t.beat t.ms
def Idle (t : LSt) : Prop := ∀ (k : Nat) (m : Mac), t.ms[k]? = some m → m.over < 0
def meas (w : Wld) (t : LSt) : Nat := (Phi w t * 100 + (w.cap - t.level)).toNat
end Obr
/-! ### a row begun: what it leaves; the last end so far -/
namespace Obr
open PySem L2 PyProof.Rows
/-- machine x may begin: as canB asks, its store aside -/
structure May (w : Wld) (u : LSt) (x : Int) : Prop where
  ge : 0 ≤ x
  ex : ∃ m ss st, u.ms[x.toNat]? = some m ∧ w.ms[x.toNat]? = some ss ∧ m.over < 0 ∧ 0 ≤ m.at_ ∧ ss[m.at_.toNat]? = some st ∧ 1 ≤ st.long
theorem jb_level {w : Wld} {u : LSt} : ∀ (xs : List Int) (v : LSt), (∀ x ∈ xs, May w u x) → (xs.map Int.toNat).Nodup → (∀ x ∈ xs, v.ms[x.toNat]? = u.ms[x.toNat]?) → (jBegins w v xs).level = v.level - (xs.map (drawK w u)).sum
  | [], v, _, _, _ => by show v.level = v.level - 0; omega
  | x :: xs, v, hx, hn, hv => by
    obtain ⟨hge, m, ss, st, h1, h2, h3, h4, h5, h6⟩ := hx x (.head _)
    have hvm : v.ms[x.toNat]? = some m := (hv x (.head _)).trans h1
    have e2 : jBegin w v x = sBegin v x.toNat m st := by
      unfold jBegin
      rw [hvm, h2]
      simp only [h5]
    have e5 : drawK w u x = st.draw := by
      unfold drawK
      rw [h1, h2]
      simp only [h5]
    rw [List.map_cons, List.nodup_cons] at hn
    have e4 : jBegins w v (x :: xs) = jBegins w (sBegin v x.toNat m st) xs := by
      unfold jBegins
      rw [List.foldl_cons, e2]
    have ih := jb_level xs (sBegin v x.toNat m st) (fun y hy => hx y (.tail _ hy)) hn.2 (fun y hy => by
      have hne : x.toNat ≠ y.toNat := fun e => hn.1 (by rw [e]; exact List.mem_map_of_mem hy)
      show (v.ms.set x.toNat _)[y.toNat]? = _
      rw [List.getElem?_set, if_neg hne]
      exact hv y (.tail _ hy))
    rw [e4, ih, List.map_cons, List.sum_cons, e5]
    show v.level - st.draw - _ = _
    omega
def lastK (t : LSt) : Int := maxZ (t.ms.map endedK)
/-- since is not ahead of the beat; a step that goes on is over at this beat or later -/
structure Tm (t : LSt) : Prop where
  si : ∀ m ∈ t.ms, m.since ≤ t.beat
  ov : ∀ m ∈ t.ms, 0 ≤ m.over → t.beat ≤ m.over
theorem jOpen_at {w : Wld} {t : LSt} (h : LOk w t) {k : Nat} {ss : List Stp} (hs : w.ms[k]? = some ss) : (jOpen w t).ms[k]? = (t.ms[k]?).map (endM false t.beat ss) := by
  unfold jOpen
  rw [lFill_ms, lEnds_ms (Nat.le_refl _) hs, if_pos (List.getElem?_eq_some_iff.mp hs).1]
/-- how long the step lasts that machine x waits for -/
def longK (w : Wld) (t : LSt) (x : Int) : Int := match t.ms[x.toNat]?, w.ms[x.toNat]? with
  | some m, some ss => (match ss[m.at_.toNat]? with | some st => st.long | none => 0)
  | _, _ => 0
/-- what may begin together -/
theorem can_may {w : Wld} {u : LSt} (hw : WldOk w) (h : LOk w u) {xs : List Int} (hc : canB w u xs = true) : (∀ x ∈ xs, May w u x) ∧ (xs.map Int.toNat).Nodup := by
  unfold canB at hc
  rw [Bool.and_eq_true, Bool.and_eq_true, Bool.and_eq_true] at hc
  obtain ⟨hr, hi, hv, _⟩ := hc
  have may : ∀ x ∈ xs, May w u x := fun x hx => by
    have z1 := all_id_of hi hx
    simp only [Bool.and_eq_true, decide_eq_true_eq] at z1
    have z2 : waitB w u x = true := all_id_of hv hx
    refine ⟨z1.1, ?_⟩
    unfold waitB at z2
    split at z2
    · rename_i m ss hm hs
      have z2 := of_decide_eq_true z2
      have hok := h.m _ m ss hm hs
      have h0 := hok.a0
      have h1 := hok.a1
      have e := List.getElem?_eq_getElem (l := ss) (i := m.at_.toNat) (by omega)
      exact ⟨m, ss, _, hm, hs, z2.1, h0, e, (hw.st ss (List.mem_of_getElem? hs) _ (List.mem_of_getElem? e)).l0⟩
    · cases z2
  refine ⟨may, ?_⟩
  rw [List.nodup_iff_pairwise_ne, List.pairwise_map]
  refine (rises_ne hr).imp_of_mem fun {a b} ha hb hab => ?_
  have := (may a ha).ge
  omega
end Obr
namespace Obr
/-! ### when nothing more is done (mathematics only) -/
/-- nothing more is ever begun -/
structure Dead (w : Wld) (r : Rgt) (p : Bool) (t' : LSt) : Prop where
  ex : ∃ t lv, LInv w t ∧ LBeat w r p false t t' lv []
  idle : Idle t'
  lev : minI w.cap (t'.level + w.refill) = t'.level
/-- x and y draw alike -/
structure Rel (x y : LSt × List Int × Bool) : Prop where
  at_ : ∀ k : Nat, (y.1.ms[k]?).map Mac.at_ = (x.1.ms[k]?).map Mac.at_
  lev : y.1.level = x.1.level
  open_ : y.2.2 = x.2.2
/-- alike in what is answered: when each is at its end, and how often it waited till then -/
def AnsEq (w : Wld) (t t' : LSt) : Prop := ∀ (k : Nat) (m m' : Mac) (ss : List Stp), t.ms[k]? = some m → t'.ms[k]? = some m' → w.ms[k]? = some ss → m'.at_ = m.at_ ∧ m'.ends = m.ends ∧ (m.at_ = ss.length → m'.waits = m.waits ∧ m'.since = m.since)
def AllDone (w : Wld) (t : LSt) : Prop := ∀ (k : Nat) (m : Mac) (ss : List Stp), t.ms[k]? = some m → w.ms[k]? = some ss → m.at_ = ss.length
/-- nothing more comes to an end -/
def Settled (w : Wld) (r : Rgt) (p : Bool) (t : LSt) : Prop := AllDone w t ∨ Dead w r p t
/-- what comes after n beats -/
inductive LPath (w : Wld) (r : Rgt) (p : Bool) : Nat → LSt → Prop
  | zero : LPath w r p 0 (lBegun w)
  | succ {n : Nat} {t t' : LSt} {lv : Int} {bg : List Int} (h : LPath w r p n t) (b : LBeat w r p false t t' lv bg) : LPath w r p (n + 1) t'
theorem LPath.inv {w : Wld} (hw : WldOk w) {r : Rgt} {p : Bool} : ∀ {n t}, LPath w r p n t → LInv w t
  | _, _, .zero => begun_inv hw
  | _, _, .succ h b => (bstep hw (h.inv hw) b).inv
/-! the program's stop, and the law's -/
/-- q quiet beats in a row came last -/
structure QInv (w : Wld) (r : Rgt) (p : Bool) (q : Nat) (t : LSt) : Prop where
  h : 1 ≤ q → Idle t ∧ (∃ t0 lv, LInv w t0 ∧ LBeat w r p false t0 t lv []) ∧ minI w.cap (((q : Int) - 1) * w.refill) ≤ t.level
end Obr
namespace Obr
/-! ### what is there adds up (mathematics only) -/
/-- what machine k gives back at beat c -/
def pendM (c : Int) (ss : List Stp) (m : Mac) : Int := if m.over = c then (match ss[m.at_.toNat]? with | some st => st.back | none => 0) else 0
/-- what machine k gives back, whenever -/
def busyM (ss : List Stp) (m : Mac) : Int := if 0 ≤ m.over then (match ss[m.at_.toNat]? with | some st => st.back | none => 0) else 0
def sumM (f : List Stp → Mac → Int) : List (List Stp) → List Mac → Int
  | ss :: l, m :: ms => f ss m + sumM f l ms
  | _, _ => 0
theorem sumM_nn {f : List Stp → Mac → Int} : ∀ {l : List (List Stp)} {ms : List Mac}, (∀ (k : Nat) (m : Mac) (ss : List Stp), ms[k]? = some m → l[k]? = some ss → 0 ≤ f ss m) → 0 ≤ sumM f l ms
  | [], [], _ => Int.le_refl _
  | [], _ :: _, _ => Int.le_refl _
  | _ :: _, [], _ => Int.le_refl _
  | ss :: l, m :: ms, h => by
    have h1 := h 0 m ss rfl rfl
    have h2 := sumM_nn (f := f) (l := l) (ms := ms) fun k m2 ss2 e1 e2 => h (k + 1) m2 ss2 (by simpa using e1) (by simpa using e2)
    show 0 ≤ f ss m + sumM f l ms
    omega
theorem sumM_congr {f g : List Stp → Mac → Int} : ∀ {l : List (List Stp)} {ms ms' : List Mac}, ms.length = ms'.length → (∀ (k : Nat) (m m' : Mac) (ss : List Stp), ms[k]? = some m → ms'[k]? = some m' → l[k]? = some ss → f ss m = g ss m') → sumM f l ms = sumM g l ms'
  | [], [], [], _, _ => rfl
  | [], _ :: _, _ :: _, _, _ => rfl
  | _ :: _, [], [], _, _ => rfl
  | ss :: l, m :: ms, m' :: ms', e, h => by
    have h1 := h 0 m m' ss rfl rfl rfl
    have h2 := sumM_congr (f := f) (g := g) (l := l) (ms := ms) (ms' := ms') (by simpa using e) fun k m2 m3 ss2 e1 e2 e3 => h (k + 1) m2 m3 ss2 (by simpa using e1) (by simpa using e2) (by simpa using e3)
    show f ss m + sumM f l ms = g ss m' + sumM g l ms'
    rw [h1, h2]
  | [], [], _ :: _, e, _ => by simp at e
  | [], _ :: _, [], e, _ => by simp at e
  | _ :: _, [], _ :: _, e, _ => by simp at e
  | _ :: _, _ :: _, [], e, _ => by simp at e
/-- one machine is another -/
theorem sumM_set {f : List Stp → Mac → Int} : ∀ {l : List (List Stp)} {ms : List Mac} {k : Nat} {m m' : Mac} {ss : List Stp}, ms[k]? = some m → l[k]? = some ss → sumM f l (ms.set k m') = sumM f l ms - f ss m + f ss m'
  | [], _, _, _, _, _, _, h => by simp at h
  | _ :: _, [], _, _, _, _, h, _ => by simp at h
  | s0 :: l, m0 :: ms, 0, m, m', ss, h1, h2 => by
    simp at h1 h2
    subst h1 h2
    show f s0 m' + sumM f l ms = f s0 m0 + sumM f l ms - f s0 m0 + f s0 m'
    omega
  | s0 :: l, m0 :: ms, k + 1, m, m', ss, h1, h2 => by
    have := sumM_set (f := f) (l := l) (ms := ms) (k := k) (m := m) (m' := m') (ss := ss) (by simpa using h1) (by simpa using h2)
    show f s0 m0 + sumM f l (ms.set k m') = f s0 m0 + sumM f l ms - f ss m + f ss m'
    rw [this]
    omega
theorem sumM_one {f : List Stp → Mac → Int} : ∀ {l : List (List Stp)} {ms : List Mac} {k : Nat} {m : Mac} {ss : List Stp}, (∀ (k : Nat) (m : Mac) (ss : List Stp), ms[k]? = some m → l[k]? = some ss → 0 ≤ f ss m) → ms[k]? = some m → l[k]? = some ss → f ss m ≤ sumM f l ms
  | [], _, _, _, _, _, _, h => by simp at h
  | _ :: _, [], _, _, _, _, h, _ => by simp at h
  | s0 :: l, m0 :: ms, 0, m, ss, hn, h1, h2 => by
    simp at h1 h2
    subst h1 h2
    have := sumM_nn (f := f) (l := l) (ms := ms) fun k m2 ss2 e1 e2 => hn (k + 1) m2 ss2 (by simpa using e1) (by simpa using e2)
    show f s0 m0 ≤ f s0 m0 + sumM f l ms
    omega
  | s0 :: l, m0 :: ms, k + 1, m, ss, hn, h1, h2 => by
    have := sumM_one (f := f) (l := l) (ms := ms) (k := k) (m := m) (ss := ss) (fun k m2 ss2 e1 e2 => hn (k + 1) m2 ss2 (by simpa using e1) (by simpa using e2)) (by simpa using h1) (by simpa using h2)
    have h0 := hn 0 m0 s0 rfl rfl
    show f ss m ≤ f s0 m0 + sumM f l ms
    omega
def pend (w : Wld) (c : Int) (t : LSt) : Int := sumM (pendM c) w.ms t.ms
def busy (w : Wld) (t : LSt) : Int := sumM busyM w.ms t.ms
theorem backM_nn {w : Wld} (hw : WldOk w) {ss : List Stp} (hs : ss ∈ w.ms) {i : Nat} : 0 ≤ (match ss[i]? with | some st => st.back | none => 0) := by
  cases h : ss[i]? with
  | none => exact Int.le_refl _
  | some st => exact (hw.st ss hs st (List.mem_of_getElem? h)).b0
theorem pendM_nn {w : Wld} (hw : WldOk w) {c : Int} {ss : List Stp} (hs : ss ∈ w.ms) {m : Mac} : 0 ≤ pendM c ss m := by
  unfold pendM
  split
  · exact backM_nn hw hs
  · exact Int.le_refl _
theorem sumM_zero {f : List Stp → Mac → Int} : ∀ {l : List (List Stp)} {ms : List Mac}, (∀ (k : Nat) (m : Mac) (ss : List Stp), ms[k]? = some m → l[k]? = some ss → f ss m = 0) → sumM f l ms = 0
  | [], [], _ => rfl
  | [], _ :: _, _ => rfl
  | _ :: _, [], _ => rfl
  | ss :: l, m :: ms, h => by
    have h1 := h 0 m ss rfl rfl
    have h2 := sumM_zero (f := f) (l := l) (ms := ms) fun k m2 ss2 e1 e2 => h (k + 1) m2 ss2 (by simpa using e1) (by simpa using e2)
    show f ss m + sumM f l ms = 0
    omega
/-- what all steps that are over at the beat give back -/
structure Ends27 (w : Wld) (t x : LSt) : Prop where
  ok : LOk w x
  beat : x.beat = t.beat
  sum : x.level + pend w t.beat x = t.level + pend w t.beat t
  all : x.level + busy w x = t.level + busy w t
  later : ∀ c, t.beat < c → pend w c x = pend w c t
theorem ends_none {w : Wld} {t : LSt} (h : LOk w t) : pend w t.beat (lEnds w false t w.ms.length) = 0 := by
  refine sumM_zero fun k m ss h1 h2 => ?_
  obtain ⟨m0, h0⟩ := ms_both' h.len h2
  rw [lEnds_ms (Nat.le_refl _) h2, if_pos (List.getElem?_eq_some_iff.mp h2).1, h0] at h1
  have e : endM false t.beat ss m0 = m := Option.some.inj h1
  rcases endM_cases (h.m k m0 ss h0 h2) h.b with ⟨_, _, e3⟩ | ⟨e1, e3⟩
  · rw [← e, e3]
    unfold pendM
    rw [if_neg (by show ¬ (-1 : Int) = t.beat; have := h.b; omega)]
  · rw [← e, e3]
    unfold pendM
    rw [if_neg e1]
/-- the law's own going: (there, at, what ends when) -/
structure G27 where
  there : Int
  at_ : List Int
  eo : List (Int × Int)
def esum (E : List (Int × Int)) (c : Int) : Int := ((E.filter fun x => decide (x.1 = c)).map Prod.snd).sum
def atM (m : Mac) : Int := if 0 ≤ m.over then m.at_ + 1 else m.at_
/-- one that begins at the beat -/
inductive Go27 (w : Wld) (b : Int) : G27 → List Int → G27 → Prop
  | nil {g} : Go27 w b g [] g
  | cons {g : G27} {k : Nat} {ss : List Stp} {a : Int} {st : Stp} {l : List Int} {g' : G27} : w.ms[k]? = some ss → g.at_[k]? = some a → 0 ≤ a → ss[a.toNat]? = some st →
      Go27 w b ⟨g.there - st.draw, g.at_.set k (a + 1), g.eo ++ [(b + st.long, st.back)]⟩ l g' → Go27 w b g ((k : Int) :: l) g'
/-- the law's going and the machines, in the midst of the draws at beat b -/
structure R27 (w : Wld) (x : LSt) (g : G27) : Prop where
  there : g.there = x.level
  at_ : g.at_ = x.ms.map atM
  eo : ∀ c, x.beat < c → esum g.eo c = pend w c x
/-- the law's going and the machines, ahead of a beat -/
structure J27 (w : Wld) (t : LSt) (g : G27) : Prop where
  there : g.there = t.level
  at_ : g.at_ = t.ms.map atM
  eo : ∀ c, t.beat ≤ c → esum g.eo c = pend w c t
/-! the first beat -/
theorem begun_mac {w : Wld} {k : Nat} {m : Mac} (h : (lBegun w).ms[k]? = some m) : m.over = -1 ∧ m.since = 0 := by
  unfold lBegun at h
  rw [List.getElem?_map] at h
  obtain ⟨ss, _, e⟩ := Option.map_eq_some_iff.mp h
  rw [← e]
  exact ⟨rfl, rfl⟩
theorem first_state {w : Wld} {anew : Bool} : lFill w (lEnds w anew (lBegun w) w.ms.length) = lBegun w := by
  rw [lEnds_id fun k m hm => by rw [(begun_mac hm).1]; show ¬ (-1 : Int) = 0; decide]
  rfl
end Obr
namespace Obr
open PySem L2 PyProof.Rows
/-! ### pairs of ints -/
def pairOf (F : Hp) (x : V) : Int × Int := match x with
  | .ref t => match F t with
    | some (.tup [.int i, .int j]) => (i, j)
    | _ => (0, 0)
  | _ => (0, 0)
/-- the pairs of ints at these -/
inductive Prs (F : Hp) : List V → List (Int × Int) → Prop
  | nil : Prs F [] []
  | cons {t : Addr} {p : Int × Int} {xs : List V} {ps : List (Int × Int)} (h : F t = some (.tup [.int p.1, .int p.2])) (r : Prs F xs ps) : Prs F (.ref t :: xs) (p :: ps)
theorem Prs.map {F : Hp} : ∀ {xs ps}, Prs F xs ps → xs.map (pairOf F) = ps
  | _, _, .nil => rfl
  | _, _, .cons (t := t) (p := p) h r => by
    rw [List.map_cons, r.map]
    have e : pairOf F (.ref t) = p := by
      unfold pairOf
      simp only [h]
    rw [e]
theorem Prs.at {F : Hp} : ∀ {xs ps}, Prs F xs ps → ∀ x ∈ xs, ∃ t, x = V.ref t ∧ F t = some (.tup [.int (pairOf F x).1, .int (pairOf F x).2])
  | _, _, .cons (t := t) (p := p) h r, x, hx => by
    rcases List.mem_cons.mp hx with e | hx
    · subst e
      refine ⟨t, rfl, ?_⟩
      have e : pairOf F (.ref t) = p := by
        unfold pairOf
        simp only [h]
      rw [e]
      exact h
    · exact r.at x hx
theorem Prs.len {F : Hp} : ∀ {xs ps}, Prs F xs ps → xs.length = ps.length
  | _, _, .nil => rfl
  | _, _, .cons h r => by rw [List.length_cons, List.length_cons, r.len]
theorem Prs.ex {F G : Hp} (g : Ex F G) : ∀ {xs ps}, Prs F xs ps → Prs G xs ps
  | _, _, .nil => .nil
  | _, _, .cons h r => .cons (g _ _ h) (r.ex g)
theorem Prs.snoc {F : Hp} {t : Addr} {p : Int × Int} (h : F t = some (.tup [.int p.1, .int p.2])) : ∀ {xs ps}, Prs F xs ps → Prs F (xs ++ [.ref t]) (ps ++ [p])
  | _, _, .nil => .cons h .nil
  | _, _, .cons h1 r => .cons h1 (r.snoc h)
theorem Prs.get {F : Hp} : ∀ {xs ps}, Prs F xs ps → ∀ {i : Nat} {x : V}, xs[i]? = some x → ∃ t p, x = V.ref t ∧ F t = some (.tup [.int p.1, .int p.2]) ∧ ps[i]? = some p
  | _, _, .nil, i, x, h => by simp at h
  | _, _, .cons (t := t) (p := p) h r, 0, x, e => by
    simp at e
    subst e
    exact ⟨t, p, rfl, h, rfl⟩
  | _, _, .cons h r, i + 1, x, e => by
    simp only [List.getElem?_cons_succ] at e ⊢
    exact r.get e
end Obr
namespace Obr
open PySem L2 PyProof.Rows
local macro_rules | `(tactic| walk_at "ob_at") => `(tactic| first
  | assumption
  | exact upd_same
  | (refine Eq.trans (upd_ne ?obn) ?obr; (case obn => walk_at "ob_ne"); (case obr => walk_at "ob_at")))
local macro_rules | `(tactic| walk_at "ob_ne") => `(tactic| first
  | assumption
  | (refine Ne.symm ?obs; (case obs => assumption))
  | (refine' ne_of_none (H := ?_) ?obe ?obh; (case obh => assumption); (case obe => walk_at "ob_at"))
  | (refine Ne.symm ?obs; (case obs => (refine' ne_of_none (H := ?_) ?obe ?obh; (case obh => assumption); (case obe => walk_at "ob_at")))))
local macro_rules | `(tactic| walk_at "ob_fr") => `(tactic| first
  | assumption
  | (refine Eq.trans (upd_ne ?obn) ?obr; (case obn => walk_at "ob_ne"); (case obr => walk_at "ob_fr"))
  | (refine Ex.free (G := ?_) (by assumption) ?obh; (case obh => walk_at "ob_fr")))
local macro_rules | `(tactic| walk_at "ob_ex") => `(tactic| first
  | assumption
  | exact Ex.refl _
  | (refine Ex.out ?obg ?obh; (case obh => assumption); (case obg => walk_at "ob_ex"))
  | (refine Ex.new ?obg ?obh; (case obh => assumption); (case obg => walk_at "ob_ex"))
  | (refine Ex.new ?obg ?obh; (case obh => walk_at "ob_fr"); (case obg => walk_at "ob_ex")))
local macro_rules | `(tactic| walk_at "ob_sq") => `(tactic| first
  | assumption
  | (refine SqL.of ?oba; (case oba => walk_at "ob_at"))
  | (refine Ex.sqT (F := ?_) ?obg ?obh; (case obh => assumption); (case obg => walk_at "ob_ex"))
  | (refine Ex.sqL (F := ?_) ?obg ?obh; (case obh => assumption); (case obg => walk_at "ob_ex"))
  | (refine SqT.of ?oba; (case oba => walk_at "ob_at")))
local macro_rules | `(tactic| walk_at "ob_side") => `(tactic| first | exact rfl | assumption | decide | omega | exact ⟨by decide, by decide, by decide⟩ | exact Or.inr ⟨by decide, by decide⟩ | exact Or.inl ⟨by decide, by decide⟩ | exact wide_div (b := 60) (by first | decide | omega) (by first | decide | omega) (by decide) (by decide))
local macro_rules | `(tactic| walk_at "ob1") => `(tactic| first
  | with_reducible refine sw_seq ?_
  | with_reducible refine sw_asg ?_
  | with_reducible refine sw_ret ?_
  | with_reducible refine sw_par ?_
  | with_reducible refine ⟨_, _, rfl, ?_⟩
  | with_reducible refine sw_drop ?_
  | with_reducible refine sw_if ?_
  | with_reducible refine sw_next ?_
  | with_reducible refine gw_name ?_
  | with_reducible refine gw_subL (by assumption) ?_
  | with_reducible refine gsw_cons ?_
  | with_reducible refine gsw_nil ?_
  | with_reducible refine ew_c ?_
  | ((with_reducible refine' ew_var (v := ?_) ?obv ?_); (case obv => exact rfl))
  | ((with_reducible refine ew_next (by assumption) ?obv ?_); (case obv => exact rfl))
  | ((with_reducible refine ew_world (by assumption) ?obv ?_); (case obv => exact rfl))
  | ((with_reducible refine ew_rule (by assumption) ?obv ?_); (case obv => exact rfl))
  | with_reducible refine ew_op ?_
  | with_reducible refine ew_un ?_
  | with_reducible refine ew_dget (by assumption) ?_
  | with_reducible refine uw_I ?_
  | with_reducible refine ppw_nil ?_
  | with_reducible refine ppw_cons ?_
  | with_reducible refine sw_dput (by assumption) ?_
  | with_reducible refine ew_cb ?_
  | with_reducible refine ew_if ?_
  | with_reducible refine ew_slL (by assumption) ?_
  | with_reducible refine ow_some ?_
  | with_reducible refine ow_none ?_
  | with_reducible refine aw_nil ?_
  | with_reducible refine aw_cons ?_
  | with_reducible refine rw_I0 ?_
  | ((with_reducible refine rw_I ?obc ?_); (case obc => walk_at "ob_side"))
  | with_reducible refine rw_isN ?_
  | with_reducible refine rw_notN ?_
  | ((with_reducible refine rw_eq ?obc ?_); (case obc => exact rfl))
  | ((with_reducible refine rw_ne ?obc ?_); (case obc => exact rfl))
  | with_reducible refine cw_max2 ?_
  | with_reducible refine cw_min2 ?_
  | with_reducible refine tw_test ?_
  | with_reducible refine tw_B ?_
  | with_reducible refine tw_not ?_
  | with_reducible refine tw_truB ?_
  | with_reducible refine tw_and ?_
  | with_reducible refine tw_or ?_
  | with_reducible refine ew_and ?_
  | (refine' Exists.intro _ (And.intro (show V.bl _ = V.bl _ from rfl) ?_))
  | (refine' Exists.intro _ (And.intro (show V.int _ = V.int _ from rfl) ?_))
  | ((with_reducible refine' rw_ixL (v := ?_) (xs := ?_) (by assumption) ?obl ?oba ?_); (case obl => walk_at "ob_sq"); (case oba => first | exact rfl | exact at_zero))
  | ((with_reducible refine' rw_ixT (v := ?_) (xs := ?_) (by assumption) ?obl ?oba ?_); (case obl => walk_at "ob_sq"); (case oba => first | exact rfl | exact at_zero))
  | ((with_reducible refine' ew_lst (by assumption) ?_))
  | ((with_reducible refine' ew_tup (by assumption) ?_)))
local macro_rules | `(tactic| walk_at "ob_len") => `(tactic| first | exact Nat.le_of_ble_eq_true rfl | (simp; done) | omega)
local macro_rules | `(tactic| walk_at "ob") => `(tactic| repeat walk_at "ob1")

/-! ### the rights -/
theorem cw_sortedPO {S : Type} {J : S → Hp → Hp → Prop} {K : PySem.W.Frag} {s : S} {F : Hp} {R : V → S → Hp → Prop} (hd : Hid J) {a : Addr} {xs : List V} {k : V → Int × Int} (l : SqL K F a xs) (hx : ∀ x ∈ xs, ∃ t, x = V.ref t ∧ F t = some (.tup [.int (k x).1, .int (k x).2]))
    (h : ∀ ys p, SrtO.Srtd (ltP k) ys → SrtO.Stb (ltP k) ys xs → F p = none → R (.ref p) s (upd F p (.lst ys))) : CW J (rSortedPO K) [.ref a] s F R := fun H j Q q =>
  ⟨a, xs, k, rfl, hd.sqL j l, fun x m => by obtain ⟨t, e, h⟩ := hx x m; exact ⟨t, e, hd.ex j _ _ h⟩, fun ys p h1 h2 hp => q _ _ _ _ (hd.al j hp) (h ys p h1 h2 (hd.fresh j hp))⟩
theorem perm_lift {α β : Type} (g : α → β) : ∀ {l m : List β}, l.Perm m → ∀ {cs : List α}, cs.map g = m → ∃ ts : List α, ts.Perm cs ∧ ts.map g = l := by
  intro l m h
  induction h with
  | nil => intro cs e; exact ⟨[], by cases cs with | nil => exact .nil | cons => simp at e, rfl⟩
  | cons x _ ih =>
    intro cs e
    cases cs with
    | nil => simp at e
    | cons c cs =>
      simp at e
      obtain ⟨ts, h1, h2⟩ := ih e.2
      exact ⟨c :: ts, h1.cons c, by rw [List.map_cons, h2, e.1]⟩
  | swap x y l =>
    intro cs e
    match cs, e with
    | a :: b :: cs, e =>
      simp at e
      refine ⟨b :: a :: cs, .swap a b cs, ?_⟩
      rw [List.map_cons, List.map_cons, e.1, e.2.1, e.2.2]
  | trans _ _ ih1 ih2 =>
    intro cs e
    obtain ⟨ts, h1, h2⟩ := ih2 e
    obtain ⟨us, h3, h4⟩ := ih1 h2
    exact ⟨us, h3.trans h1, h4⟩
def aBehind (K : PySem.W.Frag) : List V → Hp → VK → Prop := fun vs F R => ∃ (last : Int) (na : Addr) (ns : List Int), vs = [.int last, .ref na] ∧ SqL K F na (ns.map V.int) ∧ ns.length ≤ 100 ∧
  ∀ (q : Addr) (F' : Hp), Ex F F' → F q = none → F' q = some (.lst ((ns.filter (fun n => decide (last < n)) ++ ns.filter (fun n => decide (n ≤ last))).map V.int)) → R (.ref q) F'
def aLeast (K : PySem.W.Frag) : List V → Hp → VK → Prop := fun vs F R => ∃ (pa : Addr) (xs : List V) (ps : List (Int × Int)), vs = [.ref pa] ∧ SqL K F pa xs ∧ Prs F xs ps ∧ ps.length ≤ 100 ∧
  ∀ (q : Addr) (F' : Hp) (qs : List (Int × Int)), qs.Perm ps → SrtO.Srtd SrtO.lexB qs → Ex F F' → F q = none → F' q = some (.lst (qs.map fun x => V.int x.2)) → R (.ref q) F'
def aInTurn (K : PySem.W.Frag) (M : Addr) : List V → Hp → VK → Prop := fun vs F R => ∃ (F0 : Hp) (A : RAd) (t : LSt) (w : Wld) (r : Rgt) (p anew : Bool) (ex : List (Addr × HO)) (wa : Addr), vs = [.str (rgtS r), ovV t.last, .ref wa] ∧ A.M = M ∧ RunAt K F0 F A t w r p anew ex ∧ LOk w t ∧ w.ms.length ≤ 5 ∧
  F wa = some (.lst ((lClaims w t w.ms.length).map fun c => refOf A c.k)) ∧
  ∀ (q : Addr) (F' : Hp) (ts : List Clm), TurnOk r t.last (lClaims w t w.ms.length) ts → Ex F F' → F q = none → F' q = some (.lst (ts.map fun c => V.int c.k)) → R (.ref q) F'
theorem lClaims_srt {w : Wld} {t : LSt} : ∀ n : Nat, ((lClaims w t n).map Clm.k).Pairwise (· < ·)
  | 0 => List.Pairwise.nil
  | n + 1 => by
    rw [lClaims, List.map_append, List.pairwise_append]
    refine ⟨lClaims_srt n, ?_, ?_⟩
    · have h1 : (lClaim w t n).length ≤ 1 := by
        unfold lClaim
        repeat' split
        all_goals simp
      match e : lClaim w t n, h1 with
      | [], _ => exact List.Pairwise.nil
      | [x], _ => simp
      | x :: y :: l, h1 => simp at h1
    · intro a ha b hb
      obtain ⟨c, hc, rfl⟩ := List.mem_map.mp ha
      obtain ⟨c', hc', rfl⟩ := List.mem_map.mp hb
      obtain ⟨j, hj, hcj⟩ := lClaims_mem hc
      obtain ⟨_, _, _, _, _, _, _, _, rfl⟩ := lClaim_mem hcj
      obtain ⟨_, _, _, _, _, _, _, _, rfl⟩ := lClaim_mem hc'
      show (j : Int) < n
      omega
theorem lClaims_k0 {w : Wld} {t : LSt} {n : Nat} {c : Clm} (h : c ∈ lClaims w t n) : 0 ≤ c.k ∧ c.k < n := by
  obtain ⟨j, hj, hcj⟩ := lClaims_mem h
  obtain ⟨_, _, _, _, _, _, _, _, rfl⟩ := lClaim_mem hcj
  show (0 : Int) ≤ j ∧ (j : Int) < n
  omega
/-- a list of claims by a key, then by number -/
theorem turn_of {r : Rgt} {last : Int} {cs ts : List Clm} (hp : ts.Perm cs) (hn : (cs.map Clm.k).Nodup) (hs : SrtO.Srtd SrtO.lexB (ts.map fun c => (ckey r last c, c.k))) : TurnOk r last cs ts := by
  refine ⟨hp, ?_⟩
  have h1 : ts.Pairwise (fun a b => SrtO.lexB (ckey r last b, b.k) (ckey r last a, a.k) = false) := List.pairwise_map.mp hs
  have h2 : ts.Pairwise (fun a b => a.k ≠ b.k) := List.pairwise_map.mp ((hp.map Clm.k).nodup_iff.mpr hn)
  refine (h1.and h2).imp fun {a b} h => ?_
  obtain ⟨h3, h4⟩ := h
  have := SrtO.lexB_no.mp h3
  simp only at this
  unfold cLt
  omega
section
variable {P : Program} {w : World} {K : PySem.W.Frag} {mg : Str → Option Value} {base : Heap} {M : Addr}

abbrev s_behind_first : Stmt := top 17
def N_behind_first : List Str := ["last", "numbers", "number"]
theorem sc_behind_first : FnScope N_behind_first ["last", "numbers"] (defScope s_behind_first) := ⟨rfl, rfl, rfl, by decide +kernel, rfl, by decide +kernel, by decide +kernel⟩
theorem ok_behind_first {f : Addr} {fd : FuncData}  (Fn : Fun K "behind_first" "behind_first" s_behind_first f fd) (B : Blt mg)  : FnOk P w K mg base CX0 1 f fd ["last", "numbers"] (LS (aBehind K)) := by
  refine Fn.ok sc_behind_first (fun vs H Q E h => ?_) (fun cdv A outer s H vs Q E hr h => ?_)
  · obtain ⟨J, F, R, hd, j, h, _⟩ := h
    obtain ⟨last, na, ns, rfl, _⟩ := h
    rfl
  · have nd := sc_behind_first.nd
    obtain ⟨J, F, R, hd, j, h, q⟩ := h
    obtain ⟨last, na, ns, rfl, hl, hn, k⟩ := h
    refine ⟨_, (pss_one (ps_ret (pe_op op_cat (pe_lc (own := [("number", 2)]) (te := (tVar 2)) (tt := (tTest (tOp (rI0 fun i j => .bl (decide (j < i))) (tVar 2) (tVar 0)))) (by rfl) nd (pi_list (pv 1)) (blkOk_by (own := [("number", 2)]) (N := N_behind_first) (sc := defScope s_behind_first) (by decide +kernel)) (fun _ _ _ _ _ => (pg_name (i := 2) nd rfl (Or.inl rfl))) (fun _ _ _ _ _ => pts_one (pt_cmpR op_gt (pv 2) (pv 0) (nomark _))) (fun _ _ _ _ _ => (pv 2))) (pe_lc (own := [("number", 2)]) (te := (tVar 2)) (tt := (tTest (tOp (rI0 fun i j => .bl (decide (i ≤ j))) (tVar 2) (tVar 0)))) (by rfl) nd (pi_list (pv 1)) (blkOk_by (own := [("number", 2)]) (N := N_behind_first) (sc := defScope s_behind_first) (by decide +kernel)) (fun _ _ _ _ _ => (pg_name (i := 2) nd rfl (Or.inl rfl))) (fun _ _ _ _ _ => pts_one (pt_cmpR op_le (pv 2) (pv 0) (nomark _))) (fun _ _ _ _ _ => (pv 2)))))), ?_⟩
    refine LS.body j q ?_
    refine sw_ret (ew_op ?_)
    refine ew_lcL hd ?_
    walk_at "ob"
    refine ⟨na, _, rfl, hl, by rw [List.length_map]; omega, fun Dl hDl => ?_⟩
    refine ⟨fun i acc _ G => F = G ∧ acc = ((ns.take i).filter (fun n => decide (last < n))).map V.int, ⟨rfl, rfl⟩, ?_, ?_, ?_⟩
    · rintro i acc _ G hi hg ⟨rfl, rfl⟩
      refine ⟨hl, ?_⟩
      rw [List.length_map]
      refine Nat.le_trans (List.length_filter_le ..) ?_
      rw [List.length_take]
      omega
    · rintro i acc x _ G hi hg ⟨rfl, rfl⟩
      have hd' := hd.jd (D := Dl) (acc := ((ns.take i).filter (fun n => decide (last < n))).map V.int)
      rw [List.getElem?_map] at hi
      obtain ⟨n, hn, rfl⟩ := Option.map_eq_some_iff.mp hi
      have e : ns.take (i + 1) = ns.take i ++ [n] := by rw [List.take_succ, hn]; rfl
      refine gw_name ⟨rfl, ?_⟩
      walk_at "ob"
      refine ⟨fun hb => ?_, fun hb => ?_⟩
      · walk_at "ob"
        refine ⟨rfl, ?_⟩
        rw [e, List.filter_append, List.filter_cons_of_pos (p := (fun n => decide (last < n))) hb, List.map_append]
        rfl
      · refine ⟨rfl, ?_⟩
        rw [e, List.filter_append, List.filter_cons_of_neg (p := (fun n => decide (last < n))) (by rw [hb]; decide), List.filter_nil, List.append_nil]
    · rintro acc _ G hg ⟨rfl, rfl⟩
      rw [List.length_map, List.take_length]

      have g1 : Ex F (upd F Dl (.lst ((ns.filter (fun n => decide (last < n))).map V.int))) := Ex.new (.refl _) hg
      have hl1 := Ex.sqL g1 hl
      refine ew_lcL hd ?_
      walk_at "ob"
      refine ⟨na, _, rfl, hl1, by rw [List.length_map]; omega, fun D2 hD2 => ?_⟩
      refine ⟨fun i acc _ G => _ = G ∧ acc = ((ns.take i).filter (fun n => decide (n ≤ last))).map V.int, ⟨rfl, rfl⟩, ?_, ?_, ?_⟩
      · rintro i acc _ G hi hg ⟨rfl, rfl⟩
        refine ⟨hl1, ?_⟩
        rw [List.length_map]
        refine Nat.le_trans (List.length_filter_le ..) ?_
        rw [List.length_take]
        omega
      · rintro i acc x _ G hi hg ⟨rfl, rfl⟩
        have hd' := hd.jd (D := D2) (acc := ((ns.take i).filter (fun n => decide (n ≤ last))).map V.int)
        rw [List.getElem?_map] at hi
        obtain ⟨n, hn, rfl⟩ := Option.map_eq_some_iff.mp hi
        have e : ns.take (i + 1) = ns.take i ++ [n] := by rw [List.take_succ, hn]; rfl
        refine gw_name ⟨rfl, ?_⟩
        walk_at "ob"
        refine ⟨fun hb => ?_, fun hb => ?_⟩
        · walk_at "ob"
          refine ⟨rfl, ?_⟩
          rw [e, List.filter_append, List.filter_cons_of_pos (p := (fun n => decide (n ≤ last))) hb, List.map_append]
          rfl
        · refine ⟨rfl, ?_⟩
          rw [e, List.filter_append, List.filter_cons_of_neg (p := (fun n => decide (n ≤ last))) (by rw [hb]; decide), List.filter_nil, List.append_nil]
      · rintro acc _ G hg ⟨rfl, rfl⟩
        rw [List.length_map, List.take_length]
  
        have n12 : Dl ≠ D2 := ne_of_none upd_same hg
        have l1 : (ns.filter (fun n => decide (last < n))).length ≤ ns.length := List.length_filter_le ..
        have l2 : (ns.filter (fun n => decide (n ≤ last))).length ≤ ns.length := List.length_filter_le ..
        refine rw_cat hd (l := Dl) (b := D2) (xs := (ns.filter (fun n => decide (last < n))).map V.int) ?_ upd_same ?_ fun q hq => ?_
        · rw [upd_ne n12]; exact upd_same
        · rw [List.length_map, List.length_map]; omega
        refine k q _ ?_ ?_ ?_
        · exact Ex.new (Ex.new g1 hg) hq
        · exact Ex.free (Ex.new g1 hg) hq
        · rw [List.map_append]; exact upd_same

abbrev s_least_first : Stmt := top 16
def N_least_first : List Str := ["pairs", "_", "number"]
theorem sc_least_first : FnScope N_least_first ["pairs"] (defScope s_least_first) := ⟨rfl, rfl, rfl, by decide +kernel, rfl, by decide +kernel, by decide +kernel⟩
theorem ok_least_first {f : Addr} {fd : FuncData}  (Fn : Fun K "least_first" "least_first" s_least_first f fd) (B : Blt mg)  : FnOk P w K mg base CX0 1 f fd ["pairs"] (LS (aLeast K)) := by
  refine Fn.ok sc_least_first (fun vs H Q E h => ?_) (fun cdv A outer s H vs Q E hr h => ?_)
  · obtain ⟨J, F, R, hd, j, h, _⟩ := h
    obtain ⟨pa, xs, ps, rfl, _⟩ := h
    rfl
  · have nd := sc_least_first.nd
    obtain ⟨J, F, R, hd, j, h, q⟩ := h
    obtain ⟨pa, xs, ps, rfl, hl, hx, hn, k⟩ := h
    refine ⟨_, (pss_one (ps_ret (pe_lc (own := [("_", 1), ("number", 2)]) (g := (gTup K 2 (gCons (gName 1) (gCons (gName 2) gNil)))) (te := (tVar 2)) (tt := tYes) (by rfl) nd (pi_list (pe_callB cr_sortedPO (by rfl) B.sorted (by decide +kernel) (pa_cons (pv 0) pa_nil))) (blkOk_by (own := [("_", 1), ("number", 2)]) (N := N_least_first) (sc := defScope s_least_first) (by decide +kernel)) (fun _ _ _ _ _ => (pg_tup rfl (pgs_cons (pg_name (i := 1) nd rfl (Or.inl rfl)) (pgs_cons (pg_name (i := 2) nd rfl (Or.inl rfl)) pgs_nil)))) (fun _ _ _ _ _ => pts_nil) (fun _ _ _ _ _ => (pv 2))))), ?_⟩
    refine LS.body j q ?_
    refine sw_ret (ew_lcL hd ?_)
    walk_at "ob"
    refine cw_sortedPO hd hl hx.at fun ys l hs hst hpl => ?_
    have g1 : Ex F (upd F l (.lst ys)) := Ex.new (.refl _) hpl
    have hyl : ys.length = ps.length := by rw [hst.len, hx.len]
    have hym : ∀ y ∈ ys, ∃ t, y = V.ref t ∧ F t = some (.tup [.int (pairOf F y).1, .int (pairOf F y).2]) := fun y hy => hx.at y (hst.perm.mem_iff.mp hy)
    refine ⟨l, ys, rfl, SqL.of upd_same, by omega, fun Dl hDl => ?_⟩
    refine ⟨fun i acc _ G => upd F l (.lst ys) = G ∧ acc = (ys.take i).map fun y => V.int (pairOf F y).2, ⟨rfl, rfl⟩, ?_, ?_, ?_⟩
    · rintro i acc _ G hi hg ⟨rfl, rfl⟩
      refine ⟨SqL.of upd_same, ?_⟩
      rw [List.length_map, List.length_take]
      omega
    · rintro i acc x _ G hi hg ⟨rfl, rfl⟩
      have hd' := hd.jd (D := Dl) (acc := (ys.take i).map fun y => V.int (pairOf F y).2)
      obtain ⟨t, e, ht⟩ := hym x (List.mem_of_getElem? hi)
      have e2 : ys.take (i + 1) = ys.take i ++ [x] := by rw [List.take_succ, hi]; rfl
      refine gw_tup hd' ⟨t, _, e, SqT.of (g1 _ _ ht), rfl, ?_⟩
      walk_at "ob"
      refine ⟨rfl, ?_⟩
      refine tw_yes ⟨fun _ => ?_, (fun z => by cases z)⟩
      walk_at "ob"
      refine ⟨rfl, ?_⟩
      rw [e2, List.map_append]
      rfl
    · rintro acc _ G hg ⟨rfl, rfl⟩
      rw [List.take_length]
      refine k Dl _ (ys.map (pairOf F)) ?_ ?_ (Ex.new g1 hg) (Ex.free g1 hg) ?_
      · rw [← hx.map]; exact hst.perm.map _
      · exact SrtO.srtd_map hs
      · rw [upd_same, List.map_map]; rfl

abbrev s_in_turn : Stmt := top 15
def N_in_turn : List Str := ["right", "last", "waiting", "numbers", "machine"]
theorem sc_in_turn : FnScope N_in_turn ["right", "last", "waiting"] (defScope s_in_turn) := ⟨rfl, rfl, rfl, by decide +kernel, rfl, by decide +kernel, by decide +kernel⟩
theorem ok_in_turn {f : Addr} {fd : FuncData} {f1 f2 f3 : Addr} {fd1 fd2 fd3 : FuncData} (Fn : Fun K "in_turn" "in_turn" s_in_turn f fd) (B : Blt mg) (HM : ClsF K M mkeys) (Cleast_first : Cal K mg "least_first" f1 fd1 ["pairs"]) (Gleast_first : FnOk P w K mg base CX0 1 f1 fd1 ["pairs"] (LS (aLeast K))) (Cbehind_first : Cal K mg "behind_first" f2 fd2 ["last", "numbers"]) (Gbehind_first : FnOk P w K mg base CX0 1 f2 fd2 ["last", "numbers"] (LS (aBehind K))) (M_need : Met K M "need" f3 fd3 ["self"]) (G_need : FnOk P w K mg base CX0 1 f3 fd3 ["self"] (LS (aNeed K M))) : FnOk P w K mg base CX0 2 f fd ["right", "last", "waiting"] (LS (aInTurn K M)) := by
  refine Fn.ok sc_in_turn (fun vs H Q E h => ?_) (fun cdv A outer s H vs Q E hr h => ?_)
  · obtain ⟨J, F, R, hd, j, h, _⟩ := h
    obtain ⟨F0, A, t, w, r, p, anew, ex, wa, rfl, _⟩ := h
    rfl
  · have nd := sc_in_turn.nd
    obtain ⟨J, F, R, hd, j, h, q⟩ := h
    obtain ⟨F0, A, t, w, r, p, anew, ex, wa, rfl, rfl, hG, hok, hm5, hwa, k⟩ := h
    refine ⟨_, (pss_cons (ps_if (pt_cmpR op_eq (pv 0) pe_str (nomark _)) (pss_one (ps_ret (pe_call Gleast_first (by exact hr.mono (by decide)) (by rfl) Cleast_first.g Cleast_first.k Cleast_first.a .nil pass0 (pa_cons (pe_lc (own := [("machine", 4)]) (te := (tTup (tCons (tFld K (tVar 4) "since") (tCons (tFld K (tVar 4) "number") tNil)))) (tt := tYes) (by rfl) nd (pi_list (pv 2)) (blkOk_by (own := [("machine", 4)]) (N := N_in_turn) (sc := defScope s_in_turn) (by decide +kernel)) (fun _ _ _ _ _ => (pg_name (i := 4) nd rfl (Or.inl rfl))) (fun _ _ _ _ _ => pts_nil) (fun _ _ _ _ _ => (pe_tup (pa_cons (pe_fld (pv 4) rfl) (pa_cons (pe_fld (pv 4) rfl) pa_nil))))) pa_nil)))) pss_nil)
      (pss_cons (ps_if (pt_cmpR op_eq (pv 0) pe_str (nomark _)) (pss_one (ps_ret (pe_call Gleast_first (by exact hr.mono (by decide)) (by rfl) Cleast_first.g Cleast_first.k Cleast_first.a .nil pass0 (pa_cons (pe_lc (own := [("machine", 4)]) (te := (tTup (tCons (tMeth _ "need" (LS (aNeed K _)) [] E0 (tVar 4) tNil) (tCons (tFld K (tVar 4) "number") tNil)))) (tt := tYes) (by rfl) nd (pi_list (pv 2)) (blkOk_by (own := [("machine", 4)]) (N := N_in_turn) (sc := defScope s_in_turn) (by decide +kernel)) (fun _ _ _ _ _ => (pg_name (i := 4) nd rfl (Or.inl rfl))) (fun _ _ _ _ _ => pts_nil) (fun _ _ _ _ _ => (pe_tup (pa_cons (pe_meth0 (pv 4) M_need.cl M_need.m G_need (by exact hr.mono (by decide)) M_need.a .nil pass0) (pa_cons (pe_fld (pv 4) rfl) pa_nil))))) pa_nil)))) pss_nil)
      (pss_cons (ps_setLc (i := 3) rfl nd rfl rfl (sw_true rfl rfl rfl (by decide +kernel)) (own := [("machine", 4)]) (te := (tFld K (tVar 4) "number")) (tt := tYes) (pi_list (pv 2)) (blkOk_by (own := [("machine", 4)]) (N := N_in_turn) (sc := defScope s_in_turn) (by decide +kernel)) (fun _ _ _ _ _ => (pg_name (i := 4) nd rfl (Or.inl rfl))) (fun _ _ _ _ _ => pts_nil) (fun _ _ _ _ _ => (pe_fld (pv 4) rfl)))
      (pss_cons (ps_if (PW.pt (pw_and (pt_cmpR op_eq (pv 0) pe_str (nomark _)) (pw_and1 (pt_cmpR op_notN (pv 1) pe_non (nomark _))))) (pss_one (ps_ret (pe_call Gbehind_first (by exact hr.mono (by decide)) (by rfl) Cbehind_first.g Cbehind_first.k Cbehind_first.a .nil pass0 (pa_cons (pv 1) (pa_cons (pv 3) pa_nil))))) pss_nil)
      (pss_one (ps_ret (pv 3))))))), ?_⟩
    refine LS.body j q ?_
    have hcl : ∀ c ∈ lClaims w t w.ms.length, ∃ (ad : MAd) (m : Mac) (ss : List Stp) (st : Stp) (k' : Nat), A.mads[k']? = some ad ∧ t.ms[k']? = some m ∧ w.ms[k']? = some ss ∧ ss[m.at_.toNat]? = some st ∧ 0 ≤ m.at_ ∧ c.k = (k' : Int) ∧ c.draw = st.draw ∧ c.since = m.since ∧ refOf A c.k = .ref ad.a := by
      intro c hc
      obtain ⟨j, hj, hcj⟩ := lClaims_mem hc
      obtain ⟨m, ss, st, h2, h3, _, _, hst, rfl⟩ := lClaim_mem hcj
      obtain ⟨ad, m', ss', h1, h2', h3'⟩ := hG.three hj
      rw [h2] at h2'; cases h2'
      rw [h3] at h3'; cases h3'
      refine ⟨ad, m, ss, st, j, h1, h2, h3, hst, (hok.m j m ss h2 h3).a0, rfl, rfl, rfl, ?_⟩
      unfold refOf
      show (match A.mads[((j : Int)).toNat]? with | some ad => V.ref ad.a | none => V.non) = _
      rw [Int.toNat_natCast, h1]
    walk_at "ob"
    refine ⟨fun hb => ?_, fun hb => ?_⟩
    · have hr' : r = .wait := by
        have := of_decide_eq_true hb
        cases r <;> first | rfl | (exact absurd this (by decide +kernel))
      subst hr'
      walk_at "ob"
      refine ew_call hd ?_
      refine aw_cons ?_
      refine ew_lcL hd ?_
      walk_at "ob"
      refine ⟨wa, _, rfl, SqL.of hwa, by rw [List.length_map]; have := lClaims_len (w := w) (t := t) w.ms.length; omega, fun Dl hDl => ?_⟩
      refine ⟨fun i acc _ G => Ex F G ∧ Prs G acc (((lClaims w t w.ms.length).take i).map fun c => (c.since, c.k)), ⟨.refl _, .nil⟩, ?_, ?_, ?_⟩
      · rintro i acc _ G hi hg ⟨hG1, hG2⟩
        refine ⟨SqL.of (hG1 _ _ hwa), ?_⟩
        rw [hG2.len, List.length_map, List.length_take]
        omega
      · rintro i acc x _ G hi hg ⟨hG1, hG2⟩
        have hd' := hd.jd (D := Dl) (acc := acc)
        rw [List.getElem?_map] at hi
        obtain ⟨c, hc, rfl⟩ := Option.map_eq_some_iff.mp hi
        obtain ⟨ad, m, ss, st, k', h1, h2, h3, hst, h0, ek, ed, es, er⟩ := hcl c (List.mem_of_getElem? hc)
        have hmac := hG1 _ _ (hG.mac h1 h2)
        have e2 : (lClaims w t w.ms.length).take (i + 1) = (lClaims w t w.ms.length).take i ++ [c] := by rw [List.take_succ, hc]; rfl
        rw [er]
        refine gw_name ⟨rfl, ?_⟩
        refine tw_yes ⟨fun _ => ?_, (fun z => by cases z)⟩
        refine ew_tup hd' ?_
        refine aw_cons ?_
        refine ew_fld hd' ?_
        walk_at "ob"
        refine ⟨ad.a, A.M, ad.dx, _, _, rfl, hmac, HM.cl, HM.no _ (by decide +kernel), lookup_nd (i := 4) (mfs_nd _ _ _) rfl, ?_⟩
        refine aw_cons ?_
        refine ew_fld hd' ?_
        walk_at "ob"
        refine ⟨ad.a, A.M, ad.dx, _, _, rfl, hmac, HM.cl, HM.no _ (by decide +kernel), lookup_nd (i := 0) (mfs_nd _ _ _) rfl, ?_⟩
        refine aw_nil ⟨by walk_at "ob_len", fun tp htp => ?_⟩
        refine ⟨Ex.new hG1 htp, ?_⟩
        rw [e2, List.map_append]
        refine Prs.snoc ?_ (hG2.ex (Ex.new (.refl _) htp))
        show _ = some (HO.tup [V.int (c.since), V.int c.k])
        rw [ek, es]
        exact upd_same
      · rintro acc _ G hg ⟨hG1, hG2⟩
        rw [List.length_map, List.take_length] at hG2
        have g3 : Ex F (upd G Dl (.lst acc)) := Ex.new hG1 hg
        refine aw_nil ⟨Dl, acc, _, rfl, SqL.of upd_same, hG2.ex (Ex.new (.refl _) hg), by rw [List.length_map]; have := lClaims_len (w := w) (t := t) w.ms.length; omega, ?_⟩
        intro q F' qs hq1 hq2 hq3 hq4 hq5
        obtain ⟨ts, ht1, ht2⟩ := perm_lift (fun c : Clm => (c.since, c.k)) hq1 rfl
        refine k q F' ts (turn_of ht1 (lClaims_nd _) ?_) (fun a o e => hq3 _ _ (g3 _ _ e)) (Ex.free g3 hq4) ?_
        · show SrtO.Srtd SrtO.lexB (ts.map fun c => (c.since, c.k))
          rw [ht2]
          exact hq2
        · rw [hq5, ← ht2, List.map_map]
          rfl
    walk_at "ob"
    refine ⟨fun hb2 => ?_, fun hb2 => ?_⟩
    · have hr' : r = .least := by
        have := of_decide_eq_true hb2
        cases r <;> first | rfl | (exact absurd this (by decide +kernel))
      subst hr'
      walk_at "ob"
      refine ew_call hd ?_
      refine aw_cons ?_
      refine ew_lcL hd ?_
      walk_at "ob"
      refine ⟨wa, _, rfl, SqL.of hwa, by rw [List.length_map]; have := lClaims_len (w := w) (t := t) w.ms.length; omega, fun Dl hDl => ?_⟩
      refine ⟨fun i acc _ G => Ex F G ∧ Prs G acc (((lClaims w t w.ms.length).take i).map fun c => (c.draw, c.k)), ⟨.refl _, .nil⟩, ?_, ?_, ?_⟩
      · rintro i acc _ G hi hg ⟨hG1, hG2⟩
        refine ⟨SqL.of (hG1 _ _ hwa), ?_⟩
        rw [hG2.len, List.length_map, List.length_take]
        omega
      · rintro i acc x _ G hi hg ⟨hG1, hG2⟩
        have hd' := hd.jd (D := Dl) (acc := acc)
        rw [List.getElem?_map] at hi
        obtain ⟨c, hc, rfl⟩ := Option.map_eq_some_iff.mp hi
        obtain ⟨ad, m, ss, st, k', h1, h2, h3, hst, h0, ek, ed, es, er⟩ := hcl c (List.mem_of_getElem? hc)
        have hmac := hG1 _ _ (hG.mac h1 h2)
        have e2 : (lClaims w t w.ms.length).take (i + 1) = (lClaims w t w.ms.length).take i ++ [c] := by rw [List.take_succ, hc]; rfl
        rw [er]
        refine gw_name ⟨rfl, ?_⟩
        refine tw_yes ⟨fun _ => ?_, (fun z => by cases z)⟩
        refine ew_tup hd' ?_
        refine aw_cons ?_
        refine ew_meth hd' ?_
        walk_at "ob"
        refine ⟨ad.a, ad.dx, _, rfl, hmac, mfs_no (by decide +kernel), aw_nil ⟨F0, ad.a, ad.dx, k', ad.sv, ss, m, st, rfl, ⟨hmac, fun a o e => hG1 _ _ (hG.own.ex a o e), hG.st k' ad ss h1 h3, fun z => hG.pz k' ad m ss h1 h2 h3 z⟩, h0, hst, ?_⟩⟩
        refine aw_cons ?_
        refine ew_fld hd' ?_
        walk_at "ob"
        refine ⟨ad.a, A.M, ad.dx, _, _, rfl, hmac, HM.cl, HM.no _ (by decide +kernel), lookup_nd (i := 0) (mfs_nd _ _ _) rfl, ?_⟩
        refine aw_nil ⟨by walk_at "ob_len", fun tp htp => ?_⟩
        refine ⟨Ex.new hG1 htp, ?_⟩
        rw [e2, List.map_append]
        refine Prs.snoc ?_ (hG2.ex (Ex.new (.refl _) htp))
        show _ = some (HO.tup [V.int (c.draw), V.int c.k])
        rw [ek, ed]
        exact upd_same
      · rintro acc _ G hg ⟨hG1, hG2⟩
        rw [List.length_map, List.take_length] at hG2
        have g3 : Ex F (upd G Dl (.lst acc)) := Ex.new hG1 hg
        refine aw_nil ⟨Dl, acc, _, rfl, SqL.of upd_same, hG2.ex (Ex.new (.refl _) hg), by rw [List.length_map]; have := lClaims_len (w := w) (t := t) w.ms.length; omega, ?_⟩
        intro q F' qs hq1 hq2 hq3 hq4 hq5
        obtain ⟨ts, ht1, ht2⟩ := perm_lift (fun c : Clm => (c.draw, c.k)) hq1 rfl
        refine k q F' ts (turn_of ht1 (lClaims_nd _) ?_) (fun a o e => hq3 _ _ (g3 _ _ e)) (Ex.free g3 hq4) ?_
        · show SrtO.Srtd SrtO.lexB (ts.map fun c => (c.draw, c.k))
          rw [ht2]
          exact hq2
        · rw [hq5, ← ht2, List.map_map]
          rfl
    walk_at "ob"
    refine ew_lcL hd ?_
    walk_at "ob"
    refine ⟨wa, _, rfl, SqL.of hwa, by rw [List.length_map]; have := lClaims_len (w := w) (t := t) w.ms.length; omega, fun Dl hDl => ?_⟩
    refine ⟨fun i acc _ G => F = G ∧ acc = ((lClaims w t w.ms.length).take i).map fun c => V.int c.k, ⟨rfl, rfl⟩, ?_, ?_, ?_⟩
    · rintro i acc _ G hi hg ⟨rfl, rfl⟩
      refine ⟨SqL.of hwa, ?_⟩
      rw [List.length_map, List.length_take]
      omega
    · rintro i acc x _ G hi hg ⟨rfl, rfl⟩
      have hd' := hd.jd (D := Dl) (acc := ((lClaims w t w.ms.length).take i).map fun c => V.int c.k)
      rw [List.getElem?_map] at hi
      obtain ⟨c, hc, rfl⟩ := Option.map_eq_some_iff.mp hi
      obtain ⟨ad, m, ss, st, k', h1, h2, h3, hst, h0, ek, ed, es, er⟩ := hcl c (List.mem_of_getElem? hc)
      have hmac := hG.mac h1 h2
      have e2 : (lClaims w t w.ms.length).take (i + 1) = (lClaims w t w.ms.length).take i ++ [c] := by rw [List.take_succ, hc]; rfl
      rw [er]
      refine gw_name ⟨rfl, ?_⟩
      refine tw_yes ⟨fun _ => ?_, (fun z => by cases z)⟩
      refine ew_fld hd' ?_
      walk_at "ob"
      refine ⟨ad.a, A.M, ad.dx, _, _, rfl, hmac, HM.cl, HM.no _ (by decide +kernel), lookup_nd (i := 0) (mfs_nd _ _ _) rfl, ?_⟩
      refine ⟨rfl, ?_⟩
      rw [e2, List.map_append, ← ek]
      rfl
    · rintro acc _ G hg ⟨rfl, rfl⟩
      rw [List.length_map, List.take_length]
      have g1 : Ex F (upd F Dl (.lst ((lClaims w t w.ms.length).map fun c => V.int c.k))) := Ex.new (.refl _) hg
      have hrank : (r = .rank ∨ (r = .turns ∧ t.last < 0)) → TurnOk r t.last (lClaims w t w.ms.length) (lClaims w t w.ms.length) := fun hr' => by
        refine ⟨.refl _, ?_⟩
        have hkk : (lClaims w t w.ms.length).Pairwise (fun a b => a.k < b.k) := List.pairwise_map.mp (lClaims_srt w.ms.length)
        refine List.Pairwise.imp_of_mem (fun {a b} ha hb h => ?_) hkk
        have ka := lClaims_k0 ha
        have kb := lClaims_k0 hb
        rcases hr' with rfl | ⟨rfl, hl⟩
        · exact Or.inr ⟨rfl, h⟩
        · refine Or.inr ⟨?_, h⟩
          show b2i (decide (a.k ≤ t.last)) = b2i (decide (b.k ≤ t.last))
          rw [decide_eq_false (by omega), decide_eq_false (by omega)]
      walk_at "ob"
      refine ⟨fun hb3 => ?_, fun hb3 => ⟨(fun z => by cases z), fun _ => ?_⟩⟩
      · have hr' : r = .turns := by
          have := of_decide_eq_true hb3
          cases r <;> first | rfl | (exact absurd this (by decide +kernel))
        subst hr'
        walk_at "ob"
        rw [ovV_non]
        refine ⟨fun hb4 => ?_, fun hb4 => ?_⟩
        · have hl := of_decide_eq_true hb4
          walk_at "ob"
          refine ew_call hd ?_
          walk_at "ob"
          refine ⟨t.last, Dl, (lClaims w t w.ms.length).map Clm.k, ?_, SqL.of (by rw [List.map_map]; exact upd_same), by rw [List.length_map]; have := lClaims_len (w := w) (t := t) w.ms.length; omega, fun q F' e1 e2 e3 => ?_⟩
          · unfold ovV
            rw [if_neg (by omega)]
          · refine k q F' ((lClaims w t w.ms.length).filter (fun c => decide (t.last < c.k)) ++ (lClaims w t w.ms.length).filter (fun c => decide (c.k ≤ t.last))) ⟨?_, ?_⟩ (fun a o e => e1 _ _ (g1 _ _ e)) (Ex.free g1 e2) ?_
            · have e4 : (fun c : Clm => decide (c.k ≤ t.last)) = fun c => !decide (t.last < c.k) := by
                funext c
                by_cases h : c.k ≤ t.last
                · rw [decide_eq_true h, decide_eq_false (by omega)]; rfl
                · rw [decide_eq_false h, decide_eq_true (by omega)]; rfl
              rw [e4]
              exact List.filter_append_perm _ _
            · have hkk : (lClaims w t w.ms.length).Pairwise (fun a b => a.k < b.k) := List.pairwise_map.mp (lClaims_srt w.ms.length)
              refine List.pairwise_append.mpr ⟨?_, ?_, ?_⟩
              · refine List.Pairwise.imp_of_mem (fun {a b} ha hb h => ?_) (hkk.filter _)
                have ka := of_decide_eq_true (List.mem_filter.mp ha).2
                have kb := of_decide_eq_true (List.mem_filter.mp hb).2
                refine Or.inr ⟨?_, h⟩
                show b2i (decide (a.k ≤ t.last)) = b2i (decide (b.k ≤ t.last))
                rw [decide_eq_false (by omega), decide_eq_false (by omega)]
              · refine List.Pairwise.imp_of_mem (fun {a b} ha hb h => ?_) (hkk.filter _)
                have ka := of_decide_eq_true (List.mem_filter.mp ha).2
                have kb := of_decide_eq_true (List.mem_filter.mp hb).2
                refine Or.inr ⟨?_, h⟩
                show b2i (decide (a.k ≤ t.last)) = b2i (decide (b.k ≤ t.last))
                rw [decide_eq_true ka, decide_eq_true kb]
              · intro a ha b hb
                have ka := of_decide_eq_true (List.mem_filter.mp ha).2
                have kb := of_decide_eq_true (List.mem_filter.mp hb).2
                refine Or.inl ?_
                show b2i (decide (a.k ≤ t.last)) < b2i (decide (b.k ≤ t.last))
                rw [decide_eq_false (by omega), decide_eq_true kb]
                decide
            · rw [e3, List.filter_map, List.filter_map, List.map_append, List.map_append, List.map_map, List.map_map]
              rfl
        · have hl := of_decide_eq_false hb4
          walk_at "ob"
          exact k Dl _ _ (hrank (Or.inr ⟨rfl, by omega⟩)) g1 hg upd_same
      · have hr' : r = .rank := by
          have n1 := of_decide_eq_false hb
          have n2 := of_decide_eq_false hb2
          have n3 := of_decide_eq_false hb3
          cases r with
          | rank => rfl
          | turns => exact absurd rfl n3
          | wait => exact absurd rfl n1
          | least => exact absurd rfl n2
        walk_at "ob"
        exact k Dl _ _ (hrank (Or.inl hr')) g1 hg upd_same
end
end Obr
namespace Obr
open PySem L2 PyProof.Rows
local macro_rules | `(tactic| walk_at "ob_at") => `(tactic| first
  | assumption
  | exact upd_same
  | (refine Eq.trans (upd_ne ?obn) ?obr; (case obn => walk_at "ob_ne"); (case obr => walk_at "ob_at")))
local macro_rules | `(tactic| walk_at "ob_ne") => `(tactic| first
  | assumption
  | (refine Ne.symm ?obs; (case obs => assumption))
  | (refine' ne_of_none (H := ?_) ?obe ?obh; (case obh => assumption); (case obe => walk_at "ob_at"))
  | (refine Ne.symm ?obs; (case obs => (refine' ne_of_none (H := ?_) ?obe ?obh; (case obh => assumption); (case obe => walk_at "ob_at")))))
local macro_rules | `(tactic| walk_at "ob_fr") => `(tactic| first
  | assumption
  | (refine Eq.trans (upd_ne ?obn) ?obr; (case obn => walk_at "ob_ne"); (case obr => walk_at "ob_fr"))
  | (refine Ex.free (G := ?_) (by assumption) ?obh; (case obh => walk_at "ob_fr")))
local macro_rules | `(tactic| walk_at "ob_ex") => `(tactic| first
  | assumption
  | exact Ex.refl _
  | (refine Ex.out ?obg ?obh; (case obh => assumption); (case obg => walk_at "ob_ex"))
  | (refine Ex.new ?obg ?obh; (case obh => assumption); (case obg => walk_at "ob_ex"))
  | (refine Ex.new ?obg ?obh; (case obh => walk_at "ob_fr"); (case obg => walk_at "ob_ex")))
local macro_rules | `(tactic| walk_at "ob_sq") => `(tactic| first
  | assumption
  | (refine SqL.of ?oba; (case oba => walk_at "ob_at"))
  | (refine Ex.sqT (F := ?_) ?obg ?obh; (case obh => assumption); (case obg => walk_at "ob_ex"))
  | (refine Ex.sqL (F := ?_) ?obg ?obh; (case obh => assumption); (case obg => walk_at "ob_ex"))
  | (refine SqT.of ?oba; (case oba => walk_at "ob_at")))
local macro_rules | `(tactic| walk_at "ob_side") => `(tactic| first | exact rfl | assumption | decide | omega | exact ⟨by decide, by decide, by decide⟩ | exact Or.inr ⟨by decide, by decide⟩ | exact Or.inl ⟨by decide, by decide⟩ | exact wide_div (b := 60) (by first | decide | omega) (by first | decide | omega) (by decide) (by decide))
local macro_rules | `(tactic| walk_at "ob1") => `(tactic| first
  | with_reducible refine sw_seq ?_
  | with_reducible refine sw_asg ?_
  | with_reducible refine sw_ret ?_
  | with_reducible refine sw_par ?_
  | with_reducible refine ⟨_, _, rfl, ?_⟩
  | with_reducible refine sw_drop ?_
  | with_reducible refine sw_if ?_
  | with_reducible refine sw_next ?_
  | with_reducible refine gw_name ?_
  | with_reducible refine gw_subL (by assumption) ?_
  | with_reducible refine gsw_cons ?_
  | with_reducible refine gsw_nil ?_
  | with_reducible refine ew_c ?_
  | ((with_reducible refine' ew_var (v := ?_) ?obv ?_); (case obv => exact rfl))
  | ((with_reducible refine ew_next (by assumption) ?obv ?_); (case obv => exact rfl))
  | ((with_reducible refine ew_world (by assumption) ?obv ?_); (case obv => exact rfl))
  | ((with_reducible refine ew_rule (by assumption) ?obv ?_); (case obv => exact rfl))
  | with_reducible refine ew_op ?_
  | with_reducible refine ew_un ?_
  | with_reducible refine ew_dget (by assumption) ?_
  | with_reducible refine uw_I ?_
  | with_reducible refine ppw_nil ?_
  | with_reducible refine ppw_cons ?_
  | with_reducible refine sw_dput (by assumption) ?_
  | with_reducible refine ew_cb ?_
  | with_reducible refine ew_if ?_
  | with_reducible refine ew_slL (by assumption) ?_
  | with_reducible refine ow_some ?_
  | with_reducible refine ow_none ?_
  | with_reducible refine aw_nil ?_
  | with_reducible refine aw_cons ?_
  | with_reducible refine rw_I0 ?_
  | ((with_reducible refine rw_I ?obc ?_); (case obc => walk_at "ob_side"))
  | with_reducible refine rw_isN ?_
  | with_reducible refine rw_notN ?_
  | ((with_reducible refine rw_eq ?obc ?_); (case obc => exact rfl))
  | ((with_reducible refine rw_ne ?obc ?_); (case obc => exact rfl))
  | with_reducible refine cw_max2 ?_
  | with_reducible refine cw_min2 ?_
  | with_reducible refine tw_test ?_
  | with_reducible refine tw_B ?_
  | with_reducible refine tw_not ?_
  | with_reducible refine tw_truB ?_
  | with_reducible refine tw_and ?_
  | with_reducible refine tw_or ?_
  | with_reducible refine ew_and ?_
  | (refine' Exists.intro _ (And.intro (show V.bl _ = V.bl _ from rfl) ?_))
  | (refine' Exists.intro _ (And.intro (show V.int _ = V.int _ from rfl) ?_))
  | ((with_reducible refine' rw_ixL (v := ?_) (xs := ?_) (by assumption) ?obl ?oba ?_); (case obl => walk_at "ob_sq"); (case oba => first | exact rfl | exact at_zero))
  | ((with_reducible refine' rw_ixT (v := ?_) (xs := ?_) (by assumption) ?obl ?oba ?_); (case obl => walk_at "ob_sq"); (case oba => first | exact rfl | exact at_zero))
  | ((with_reducible refine' ew_lst (by assumption) ?_))
  | ((with_reducible refine' ew_tup (by assumption) ?_)))
local macro_rules | `(tactic| walk_at "ob_len") => `(tactic| first | exact Nat.le_of_ble_eq_true rfl | (simp; done) | omega)
local macro_rules | `(tactic| walk_at "ob") => `(tactic| repeat walk_at "ob1")

/-! ### Run.begin_steps -/
theorem Own.take {F0 F F' : Hp} {own : List (Addr × HO)} (h : Own F0 F own) (g : Ex F F') {a : Addr} {o : HO} (ha : F a = Option.none) (e : F' a = some o) : Own F0 F' ((a, o) :: own) where
  ex := h.ex.trans g
  out := fun q hq => by
    rcases List.mem_cons.mp hq with rfl | hq
    · exact h.ex.free ha
    · exact h.out q hq
  at_ := fun q hq => by
    rcases List.mem_cons.mp hq with rfl | hq
    · exact e
    · exact g _ _ (h.at_ q hq)
  nd := by
    rw [List.map_cons, List.nodup_cons]
    refine ⟨fun hm => ?_, h.nd⟩
    obtain ⟨q, hq, e⟩ := List.mem_map.mp hm
    have := h.at_ q hq
    rw [e, ha] at this
    cases this
section
variable {K : PySem.W.Frag} {F0 F : Hp} {A : RAd} {t : LSt} {w : Wld} {r : Rgt} {p anew : Bool} {ex : List (Addr × HO)}
theorem SAt.take {sh : Bool} (h : SAt sh K F0 F A t w r p anew ex) {F' : Hp} (g : Ex F F') {a : Addr} {o : HO} (ha : F a = none) (e : F' a = some o) : SAt sh K F0 F' A t w r p anew ((a, o) :: ex) := ⟨(h.own.take g ha e).perm run_perm, h.ml, h.st, h.len1, h.len2, h.pz, h.np, h.na⟩
theorem SAt.drop2 {sh : Bool} {x y : Addr × HO} (h : SAt sh K F0 F A t w r p anew (x :: y :: ex)) : SAt sh K F0 F A t w r p anew (x :: ex) := by
  have o : Own F0 F (y :: x :: (A.a, .ins A.C A.dx (rfsS sh A t w r p anew)) :: (mcells A.M 0 A.mads t.ms ++ ex)) := (h.own.perm ((List.Perm.swap x y _).trans (List.Perm.cons x run_perm.symm) |>.trans run_perm.symm))
  refine ⟨?_, h.ml, h.st, h.len1, h.len2, h.pz, h.np, h.na⟩
  refine Own.perm ?_ run_perm
  refine ⟨o.ex, fun q hq => o.out q (List.mem_cons_of_mem _ hq), fun q hq => o.at_ q (List.mem_cons_of_mem _ hq), ?_⟩
  have := o.nd
  rw [List.map_cons, List.nodup_cons] at this
  exact this.2
theorem SAt.swap {sh : Bool} {x y : Addr × HO} (h : SAt sh K F0 F A t w r p anew (x :: y :: ex)) : SAt sh K F0 F A t w r p anew (y :: x :: ex) :=
  ⟨h.own.perm (List.Perm.cons _ ((List.Perm.swap x y ex).append_left _)), h.ml, h.st, h.len1, h.len2, h.pz, h.np, h.na⟩
end
/-- alike in what the program keeps -/
def lCore (t t' : LSt) : Prop := t'.ms.map mcore = t.ms.map mcore ∧ t'.level = t.level ∧ t'.last = t.last ∧ t'.beat = t.beat
theorem lCore.refl (t : LSt) : lCore t t := ⟨rfl, rfl, rfl, rfl⟩
theorem lCore.trans {a b c : LSt} (h : lCore a b) (k : lCore b c) : lCore a c := ⟨k.1.trans h.1, k.2.1.trans h.2.1, k.2.2.1.trans h.2.2.1, k.2.2.2.trans h.2.2.2⟩
theorem SAt.core {sh : Bool} {K : PySem.W.Frag} {F0 F : Hp} {A : RAd} {t t' : LSt} {w : Wld} {r : Rgt} {p anew : Bool} {ex : List (Addr × HO)} (h : SAt sh K F0 F A t w r p anew ex) (c : lCore t t') : SAt sh K F0 F A t' w r p anew ex := h.same c.1 c.2.1 c.2.2.1 c.2.2.2
theorem set_core {ms : List Mac} {k : Nat} {m m' : Mac} (h : ms[k]? = some m) (e : mcore m' = mcore m) : (ms.set k m').map mcore = ms.map mcore := by
  rw [List.map_set, e]
  refine List.ext_getElem? fun j => ?_
  rw [List.getElem?_set]
  by_cases c : k = j
  · subst c
    have hk := (List.getElem?_eq_some_iff.mp h).1
    rw [if_pos rfl, if_pos (by rw [List.length_map]; exact hk), List.getElem?_map, h]
    rfl
  · rw [if_neg c]
theorem lDraw_no {w : Wld} {p : Bool} {x : LSt × List Int × Bool} {c : Clm} (h : ¬ (x.2.2 = true ∧ c.draw ≤ x.1.level)) : lCore x.1 (lDraw w p x c).1 ∧ (lDraw w p x c).2.1 = x.2.1 := by
  unfold lDraw
  split
  · rename_i m ss hm hs
    rw [if_neg h]
    exact ⟨⟨set_core hm rfl, rfl, rfl, rfl⟩, rfl⟩
  · exact ⟨lCore.refl _, rfl⟩
theorem lDraw_shut {w : Wld} {p : Bool} {x : LSt × List Int × Bool} {c : Clm} (h : x.2.2 = false) : (lDraw w p x c).2.2 = false := by
  unfold lDraw
  split
  · rw [if_neg (fun z => by rw [h] at z; cases z.1), h]
    rfl
  · exact h
theorem lDraws_shut {w : Wld} {p : Bool} : ∀ (cs : List Clm) {x : LSt × List Int × Bool}, x.2.2 = false → lCore x.1 (cs.foldl (lDraw w p) x).1 ∧ (cs.foldl (lDraw w p) x).2.1 = x.2.1
  | [], x, _ => ⟨lCore.refl _, rfl⟩
  | c :: cs, x, h => by
    have h1 := lDraw_no (w := w) (p := p) (c := c) (fun z => by rw [h] at z; cases z.1)
    have h2 := lDraws_shut (w := w) (p := p) cs (x := lDraw w p x c) (lDraw_shut h)
    exact ⟨h1.1.trans h2.1, h2.2.trans h1.2⟩
theorem atI_lst {α : Type} {xs : List α} {x : α} : atI (xs ++ [x]) (-1) = some x := by
  have e : ixN (xs ++ [x]).length (-1) = some xs.length := by
    unfold ixN
    rw [if_neg (by decide), if_pos (by rw [List.length_append, List.length_singleton]; omega)]
    congr 1
    rw [List.length_append, List.length_singleton]
    omega
  unfold atI
  rw [e]
  show (xs ++ [x])[xs.length]? = some x
  simp
theorem lDraw_bg0 {w : Wld} {p : Bool} {x : LSt × List Int × Bool} {c : Clm} (hc : 0 ≤ c.k) (h : ∀ b ∈ x.2.1, 0 ≤ b) : ∀ b ∈ (lDraw w p x c).2.1, 0 ≤ b := by
  unfold lDraw
  repeat' split
  · intro b hb
    rcases List.mem_append.mp hb with hb | hb
    · exact h b hb
    · rw [List.mem_singleton.mp hb]; exact hc
  all_goals exact h
theorem lDraws_bg0' {w : Wld} {p : Bool} : ∀ (cs : List Clm) {x : LSt × List Int × Bool}, (∀ c ∈ cs, 0 ≤ c.k) → (∀ b ∈ x.2.1, 0 ≤ b) → ∀ b ∈ (cs.foldl (lDraw w p) x).2.1, 0 ≤ b
  | [], _, _, h => h
  | c :: cs, x, hc, h => lDraws_bg0' (w := w) (p := p) cs (x := lDraw w p x c) (fun d hd => hc d (List.mem_cons_of_mem _ hd)) (lDraw_bg0 (hc c List.mem_cons_self) h)
theorem lDraws_bg0 {w : Wld} {p : Bool} {ts : List Clm} {t : LSt} {b : Int} (hc : ∀ c ∈ ts, 0 ≤ c.k) (h : b ∈ (lDraws w p ts t).2.1) : 0 ≤ b := lDraws_bg0' (w := w) (p := p) ts hc (fun b hb => by cases hb) b h
def lPut (t : LSt) (bg : List Int) : LSt := { t with last := (if bg.isEmpty then t.last else bg.getLastD 0) }
def aBeginSteps (K : PySem.W.Frag) (C M : Addr) : List V → Hp → VK → Prop := fun vs F R => ∃ (F0 : Hp) (A : RAd) (t : LSt) (w : Wld) (r : Rgt) (p anew : Bool) (ex : List (Addr × HO)), vs = [.ref A.a] ∧ A.C = C ∧ A.M = M ∧ RunAt K F0 F A t w r p anew ex ∧ LOk w t ∧ w.ms.length ≤ 5 ∧ (∀ ss ∈ w.ms, ∀ st ∈ ss, (0 : Int) ≤ st.long) ∧
  ∀ (q : Addr) (F' : Hp) (ts : List Clm), TurnOk r t.last (lClaims w t w.ms.length) ts → RunAt K F0 F' A (lPut (lDraws w p ts t).1 (lDraws w p ts t).2.1) w r p anew ((q, .lst ((lDraws w p ts t).2.1.map V.int)) :: ex) → R (.ref q) F'
section
variable {P : Program} {w : World} {K : PySem.W.Frag} {mg : Str → Option Value} {base : Heap} {C M : Addr}

abbrev s_Run__dot__begin_steps : Stmt := inClass (top 36) 2
def N_Run_begin_steps : List Str := ["self", "begun", "number", "machine"]
theorem sc_Run_begin_steps : FnScope N_Run_begin_steps ["self"] (defScope s_Run__dot__begin_steps) := ⟨rfl, rfl, rfl, by decide +kernel, rfl, by decide +kernel, by decide +kernel⟩
theorem ok_Run_begin_steps {f : Addr} {fd : FuncData} {f1 f2 f3 f4 : Addr} {fd1 fd2 fd3 fd4 : FuncData} (Fn : Fun K "begin_steps" "Run.begin_steps" s_Run__dot__begin_steps f fd) (B : Blt mg) (HR : ClsF K C rkeys) (HM : ClsF K M mkeys) (M_waiting : Met K C "waiting" f1 fd1 ["self"]) (G_waiting : FnOk P w K mg base CX0 3 f1 fd1 ["self"] (LS (aWaitingR false K C M))) (Cin_turn : Cal K mg "in_turn" f2 fd2 ["right", "last", "waiting"]) (Gin_turn : FnOk P w K mg base CX0 2 f2 fd2 ["right", "last", "waiting"] (LS (aInTurn K M))) (M_need : Met K M "need" f3 fd3 ["self"]) (G_need : FnOk P w K mg base CX0 1 f3 fd3 ["self"] (LS (aNeed K M))) (M_begin : Met K C "begin" f4 fd4 ["self", "machine"]) (G_begin : FnOk P w K mg base CX0 2 f4 fd4 ["self", "machine"] (LS (aBeginR false K C M))) : FnOk P w K mg base CX0 4 f fd ["self"] (LS (aBeginSteps K C M)) := by
  refine Fn.ok sc_Run_begin_steps (fun vs H Q E h => ?_) (fun cdv A outer s H vs Q E hr h => ?_)
  · obtain ⟨J, F, R, hd, j, h, _⟩ := h
    obtain ⟨F0, A, t, w, r, p, anew, ex, rfl, _⟩ := h
    rfl
  · have nd := sc_Run_begin_steps.nd
    obtain ⟨J, F, R, hd, j, h, q⟩ := h
    obtain ⟨F0, A, t, w, r, p, anew, ex, rfl, rfl, rfl, hG, hok, hm5, hlong, k⟩ := h
    refine ⟨_, (pss_cons (ps_set (i := 1) nd rfl (Or.inl rfl) (pe_lst pa_nil))
      (pss_cons (ps_for PassesOwn.never rfl (pi_list (pe_call Gin_turn (by exact hr.mono (by decide)) (by rfl) Cin_turn.g Cin_turn.k Cin_turn.a .nil pass0 (pa_cons (pe_fld (pv 0) rfl) (pa_cons (pe_fld (pv 0) rfl) (pa_cons (pe_meth0 (pv 0) M_waiting.cl M_waiting.m G_waiting (by exact hr.mono (by decide)) M_waiting.a .nil pass0) pa_nil))))) (pg_name (i := 2) nd rfl (Or.inl rfl)) (pss_cons (ps_set (i := 3) nd rfl (Or.inl rfl) (pe_ix ix_list (pe_fld (pv 0) rfl) (pv 2) (fun _ _ => rfl)))
      (pss_one (ps_if (pt_cmpR op_le (pe_meth0 (pv 3) M_need.cl M_need.m G_need (by exact hr.mono (by decide)) M_need.a .nil pass0) (pe_fld (pv 0) rfl) (nomark _)) (pss_cons (ps_expr (pe_meth (pv 0) M_begin.cl M_begin.m G_begin (by exact hr.mono (by decide)) M_begin.a .nil pass0 (pa_cons (pv 3) pa_nil)))
      (pss_one (ps_expr (pe_bm PySem.F.plainAttrs_list PySem.F.slot_list_append PySem.F.type_list_append mt_append (pv 1) (pa_cons (pv 2) pa_nil))))) (pss_one (ps_if (pt_not (pt_truth (pe_fld (pv 0) rfl) (by intro _; rfl))) (pss_one ps_break) pss_nil))))))
      (pss_cons (ps_if (pt_truth (pv 1) (by intro _; rfl)) (pss_one (ps_fld (pv 0) (pe_ix ix_list (pv 1) (pe_un un_neg pe_int) (fun _ _ => rfl)) rfl)) pss_nil)
      (pss_one (ps_ret (pv 1)))))), ?_⟩
    refine LS.body j q ?_
    walk_at "ob"
    refine ⟨by walk_at "ob_len", fun ov hov => ?_⟩
    have g0 := hG.more (o := .lst []) hov
    walk_at "ob"
    refine sw_mid (fun σ _ G => ∃ (ts : List Clm) (x2 x3 : Option V), TurnOk r t.last (lClaims w t w.ms.length) ts ∧ σ = [some (.ref A.a), some (.ref ov), x2, x3] ∧ RunAt K F0 G A (lDraws w p ts t).1 w r p anew ((ov, .lst ((lDraws w p ts t).2.1.map V.int)) :: ex)) ?_ ?_
    · refine sw_forL hd ?_
      refine ew_call hd ?_
      refine aw_cons (ew_fld hd ?_)
      walk_at "ob"
      refine ⟨A.a, A.C, A.dx, _, _, rfl, g0.cell, HR.cl, HR.no _ (by decide +kernel), lookup_nd (i := 6) (rfs_nd _ _ _ _ _ _) rfl, ?_⟩
      refine aw_cons (ew_fld hd ?_)
      walk_at "ob"
      refine ⟨A.a, A.C, A.dx, _, _, rfl, g0.cell, HR.cl, HR.no _ (by decide +kernel), lookup_nd (i := 8) (rfs_nd _ _ _ _ _ _) rfl, ?_⟩
      refine aw_cons (ew_meth hd ?_)
      walk_at "ob"
      refine ⟨A.a, A.dx, _, rfl, g0.cell, rfs_no (by decide +kernel), aw_nil ⟨F0, A, t, w, r, p, anew, _, rfl, rfl, rfl, g0, hok, hm5, fun wl F1 e1 hw0 hw1 => ?_⟩⟩
      have g1 := g0.grow e1
      refine aw_nil ⟨F0, A, t, w, r, p, anew, _, wl, rfl, rfl, g1, hok, hm5, hw1, fun q F2 ts hts e2 hq0 hq1 => ?_⟩
      have g2 := (g1.take e2 hq0 hq1).swap
      have hlen : ts.length ≤ 5 := by rw [hts.perm.length_eq]; have := lClaims_len (w := w) (t := t) w.ms.length; omega
      refine ⟨q, _, fun i σ _ G => ∃ (x2 x3 : Option V) (X : LSt × List Int × Bool), σ = [some (.ref A.a), some (.ref ov), x2, x3] ∧ X = (ts.take i).foldl (lDraw w p) (t, [], true) ∧ X.2.2 = true ∧ SameAt t X.1 ∧ RunAt K F0 G A X.1 w r p anew ((ov, .lst (X.2.1.map V.int)) :: (q, .lst (ts.map fun c => V.int c.k)) :: ex) ∧ X.2.1.length ≤ i, rfl, SqL.of hq1, ⟨none, none, (t, [], true), rfl, rfl, rfl, ⟨rfl, fun _ => rfl⟩, ?_, Nat.zero_le _⟩, ?_, ?_, ?_⟩
      · exact g2
      · rintro i σ _ G hi ⟨x2, x3, X, rfl, eX, ho, hs, hX, hl⟩
        exact SqL.of hX.swap.ex0
      · rintro i x σ _ G hi ⟨x2, x3, X, rfl, eX, ho, hs, hX, hl⟩
        rw [List.getElem?_map] at hi
        obtain ⟨c, hc, rfl⟩ := Option.map_eq_some_iff.mp hi
        have hil := (List.getElem?_eq_some_iff.mp hc).1
        have hcm := hts.perm.mem_iff.mp (List.mem_of_getElem? hc)
        obtain ⟨k', hj, hcj⟩ := lClaims_mem hcm
        obtain ⟨m, ss, st, h2t, h3, _, _, hst, ec⟩ := lClaim_mem hcj
        have ha0 := (hok.m k' m ss h2t h3).a0
        obtain ⟨ad, m', ss', h1, h2, h3'⟩ := hX.three hj
        rw [h3] at h3'; cases h3'
        have eat : m'.at_ = m.at_ := by
          have := hs.2 k'
          rw [h2, h2t] at this
          exact Option.some.inj this
        have ek : c.k = (k' : Int) := by rw [ec]
        have ed : c.draw = st.draw := by rw [ec]
        have eN : ts.take (i + 1) = ts.take i ++ [c] := by rw [List.take_succ, hc]; rfl
        have eS : (ts.take (i + 1)).foldl (lDraw w p) (t, [], true) = lDraw w p X c := by rw [eN, List.foldl_append, ← eX]; rfl
        have hbt : X.1.beat = t.beat := hs.1
        have hkn : c.k.toNat = k' := by rw [ek]; exact Int.toNat_natCast _
        walk_at "ob"
        refine ew_fld hd ?_
        walk_at "ob"
        refine ⟨A.a, A.C, A.dx, _, _, rfl, hX.cell, HR.cl, HR.no _ (by decide +kernel), lookup_nd (i := 5) (rfs_nd _ _ _ _ _ _) rfl, ?_⟩
        walk_at "ob"
        refine rw_ixL hd (xs := A.mads.map fun ad => .ref ad.a) (v := .ref ad.a) (SqL.of (hX.own.ex _ _ hX.ml)) ?_ ?_
        · rw [ek]
          refine atI_nat ?_
          rw [List.getElem?_map, h1]
          rfl
        walk_at "ob"
        refine ew_meth hd ?_
        walk_at "ob"
        refine ⟨ad.a, ad.dx, _, rfl, hX.mac h1 h2, mfs_no (by decide +kernel), aw_nil ⟨F0, ad.a, ad.dx, k', ad.sv, ss, m', st, rfl, hX.mobj h1 h2 h3, by rw [eat]; exact ha0, by rw [eat]; exact hst, ?_⟩⟩
        refine ew_fld hd ?_
        walk_at "ob"
        refine ⟨A.a, A.C, A.dx, _, _, rfl, hX.cell, HR.cl, HR.no _ (by decide +kernel), lookup_nd (i := 1) (rfs_nd _ _ _ _ _ _) rfl, ?_⟩
        walk_at "ob"
        refine ⟨fun hb => ?_, fun hb => ?_⟩
        · have hle : c.draw ≤ X.1.level := by rw [ed]; exact of_decide_eq_true hb
          have eD : lDraw w p X c = ({ X.1 with level := X.1.level - c.draw, ms := X.1.ms.set k' { m' with over := X.1.beat + st.long } }, X.2.1 ++ [c.k], X.2.2) := by
            unfold lDraw
            rw [hkn, h2, h3]
            simp only []
            rw [if_pos ⟨ho, hle⟩, eat, hst]
          have hl0 : 0 ≤ X.1.beat + st.long := by
            have := hlong ss (List.mem_of_getElem? h3) st (List.mem_of_getElem? hst)
            have := hok.b
            omega
          refine sw_seq (sw_drop (ew_meth hd ?_))
          walk_at "ob"
          refine ⟨A.a, A.dx, _, rfl, hX.cell, rfs_no (by decide +kernel), aw_cons (ew_var rfl (aw_nil ?_))⟩
          refine ⟨F0, A, X.1, w, r, p, anew, _, k', ad, m', ss, st, rfl, rfl, rfl, hX, h1, h2, h3, by rw [eat]; exact ha0, by rw [eat]; exact hst, hl0, fun G2 hX2 => ?_⟩
          refine sw_drop (ew_bmL hd ?_)
          walk_at "ob"
          refine ⟨ov, _, rfl, SqL.of hX2.ex0, ?_⟩
          walk_at "ob"
          refine mw_append hd hX2.ex0 (by rw [List.length_map]; omega) ?_
          have hX3 := hX2.exset (o' := .lst (X.2.1.map V.int ++ [V.int c.k]))
          refine ⟨_, _, lDraw w p X c, rfl, eS.symm, ?_, ?_, ?_, ?_⟩
          · rw [eD]; exact ho
          · refine SameAt.set hs h2 (m' := { m' with over := X.1.beat + st.long }) ?_ rfl ?_
            · rw [eD]
            · rw [eD]
          · rw [eD, List.map_append, ed]
            exact hX3
          · rw [eD, List.length_append, List.length_singleton]
            omega
        · have hle : ¬ c.draw ≤ X.1.level := by rw [ed]; exact of_decide_eq_false hb
          have hn := lDraw_no (w := w) (p := p) (x := X) (c := c) (fun z => hle z.2)
          have eD : lDraw w p X c = ({ X.1 with ms := X.1.ms.set k' { m' with waits := m'.waits + 1 } }, X.2.1, X.2.2 && p) := by
            unfold lDraw
            rw [hkn, h2, h3]
            simp only []
            rw [if_neg (fun z => hle z.2)]
          refine sw_if (tw_not (tw_truB (ew_fld hd ?_)))
          walk_at "ob"
          refine ⟨A.a, A.C, A.dx, _, _, rfl, hX.cell, HR.cl, HR.no _ (by decide +kernel), lookup_nd (i := 7) (rfs_nd _ _ _ _ _ _) rfl, ?_⟩
          refine ⟨p, rfl, fun hp => ?_, fun hp => ?_⟩
          · refine sw_break ⟨ts, _, _, hts, rfl, ?_⟩
            have hp' : p = false := by cases p with | false => rfl | true => cases hp
            have hsh : (lDraw w p X c).2.2 = false := by rw [eD, hp', Bool.and_false]
            have hrest := lDraws_shut (w := w) (p := p) (ts.drop (i + 1)) hsh
            have hall : lDraws w p ts t = (ts.drop (i + 1)).foldl (lDraw w p) (lDraw w p X c) := by
              rw [← eS, ← List.foldl_append, List.take_append_drop]
              rfl
            rw [hall, hrest.2, hn.2]
            exact ((hX.core hn.1).core hrest.1).drop2
          · refine sw_next ⟨_, _, lDraw w p X c, rfl, eS.symm, ?_, ?_, ?_, ?_⟩
            · have hp' : p = true := by cases p with | true => rfl | false => cases hp
              rw [eD, hp', Bool.and_true]
              exact ho
            · refine SameAt.set hs h2 (m' := { m' with waits := m'.waits + 1 }) ?_ rfl ?_
              · rw [eD]
              · rw [eD]
            · rw [hn.2]
              exact hX.core hn.1
            · rw [hn.2]
              omega
      · rintro σ _ G ⟨x2, x3, X, rfl, eX, ho, hs, hX, hl⟩
        rw [List.length_map, List.take_length] at eX
        have eX' : lDraws w p ts t = X := eX.symm
        refine ⟨ts, _, _, hts, rfl, ?_⟩
        rw [eX']
        exact hX.drop2
    · rintro σ _ G ⟨ts, x2, x3, hts, rfl, hX⟩
      refine sw_seq (sw_if (tw_truL hd ?_))
      walk_at "ob"
      refine ⟨ov, _, rfl, SqL.of hX.ex0, ?_⟩
      have hie : (((lDraws w p ts t).2.1.map V.int).isEmpty) = (lDraws w p ts t).2.1.isEmpty := by cases (lDraws w p ts t).2.1 <;> rfl
      rw [hie]
      refine ⟨fun hb => ?_, fun hb => ?_⟩
      · have hne : (lDraws w p ts t).2.1.isEmpty = false := by cases h : (lDraws w p ts t).2.1.isEmpty <;> rw [h] at hb <;> first | rfl | cases hb
        obtain ⟨bs, b, hbs⟩ : ∃ bs b, (lDraws w p ts t).2.1 = bs ++ [b] := by
          rcases List.eq_nil_or_concat (lDraws w p ts t).2.1 with h | ⟨bs, b, h⟩
          · rw [h] at hne; cases hne
          · exact ⟨bs, b, by rw [h, List.concat_eq_append]⟩
        refine sw_fld hd ?_
        walk_at "ob"
        refine rw_ixL hd (v := .int b) (SqL.of hX.ex0) ?_ ?_
        · rw [hbs, List.map_append]
          exact atI_lst
        walk_at "ob"
        refine ⟨A.a, A.C, A.dx, _, rfl, hX.cell, HR.cl, HR.no _ (by decide +kernel), rfs_lt, ?_⟩
        rw [putF_nd (i := 8) (rfs_nd _ _ _ _ _ _) rfl]
        walk_at "ob"
        have hX1 := hX.put (t' := lPut (lDraws w p ts t).1 (lDraws w p ts t).2.1) rfl
        have e : (rfs A (lDraws w p ts t).1 w r p anew).set 8 ("last", V.int b) = rfs A (lPut (lDraws w p ts t).1 (lDraws w p ts t).2.1) w r p anew := by
          have hb0 : 0 ≤ b := by
            have : b ∈ (lDraws w p ts t).2.1 := by rw [hbs]; simp
            exact lDraws_bg0 (fun c hc => (lClaims_k0 (hts.perm.mem_iff.mp hc)).1) this
          have el : (lPut (lDraws w p ts t).1 (lDraws w p ts t).2.1).last = b := by
            unfold lPut
            rw [hne, hbs]
            simp
          have eo : ovV b = V.int b := by
            unfold ovV
            rw [if_neg (by omega)]
          rw [← eo, ← el]
          rfl
        rw [e]
        exact k ov _ ts hts hX1
      · have hne : (lDraws w p ts t).2.1.isEmpty = true := by cases h : (lDraws w p ts t).2.1.isEmpty <;> rw [h] at hb <;> first | rfl | cases hb
        walk_at "ob"
        refine k ov G ts hts ?_
        have e : lPut (lDraws w p ts t).1 (lDraws w p ts t).2.1 = (lDraws w p ts t).1 := by
          unfold lPut
          rw [hne]
          rfl
        rw [e]
        exact hX
end
end Obr
/-! ### C.m(e, ..): a plain def of a class, called by the class's name -/
namespace Obr
open PySem L2 PySem.Spec PyProof.Rows
/-- the class's def of this name, read off the class -/
structure ClsFn (K : PySem.W.Frag) (C : Addr) (m : Str) (f : Addr) (fd : FuncData) (ps : List Str) : Prop where
  rd : ClX.CRead K C (.type "type")
  vl : ClX.CVal K C (.type "type") m (.ref f) (.ref f)
  kp : PySem.W.keepIn K (.ref f) = true
  a : Binds K fd ps []
def tCFun (C : Addr) (sp : Sp) (E : XK) (ta : TE) (t : TA) : TE := fun σ H Q => ta σ H fun x H1 => x = .ref C ∧ t σ H1 fun vs H2 => sp (vs ++ []) H2 Q E
section
variable {X : Cx} {o e : Expr} {es : List Expr} {m : Str} {pos apos : Pos} {ta : TE} {t : TA} {C f : Addr} {fd : FuncData} {ps : List Str} {k : Nat} {CX : CXT} {sp : Sp} {E : XK}
theorem pe_cfun {pl : Sem Bool} (he : PE X o ta) (c : ClsFn X.K C m f fd ps) (F : FnOk X.prog X.w X.K X.mg X.base CX k f fd ps sp) (hr : Room k X.A) (hx : Passes CX X E) (ha : PA X (e :: es) t)
    (hst : starEach (e :: es) X.env = (false, eval e X.env) :: starEach es X.env := by rfl) (hpl : (backTo pos (starEach es X.env)).any (·.1) = false := by rfl)
    (ht : eval (.Call (.Attribute o m apos) (e :: es) [] pos) X.env = (do
      let ov ← eval o X.env
      standAt apos.atName
      let (f, first) ← holding [ov] (getMethod ov m pl)
      callWith pos f first (backTo pos (starEach (e :: es) X.env)) (backToKw pos (keywordEach [] X.env))) := by rfl) :
    PE X (.Call (.Attribute o m apos) (e :: es) [] pos) (tCFun C sp E ta t) := by
  refine ⟨fun pins s σ H Q I h => ?_⟩
  refine PySem.W.methodCall_KW (pl := pl) (thn (he.run pins s σ H _ I h) fun u s1 ⟨x, H1, I1, rx, ex, q⟩ => ?_) ht
  subst ex
  obtain rfl : u = Value.ref C := rx
  refine PySem.W.method_cls I1.kIn c.rd.ga (ClX.getcval_ok I1 c.rd c.vl fun s2 I2 => ?_)
  refine PySem.W.callWith_K (first := []) (h₀ := X.base) I.ok.mod.kin c.kp (thn (ha.run pos pins s2 σ H1 _ I2 q) fun us s3 ⟨vs, H2, I3, r, q2⟩ => ⟨I3.kIn, ?_⟩) hst hpl
  exact run_fn (us := us) (vs := vs) F hr c.a .nil hx I3 r q2
end
section
variable {S : Type} {J : S → Hp → Hp → Prop} {K : PySem.W.Frag} {σ : L2.St} {s : S} {F : Hp} {R : V → S → Hp → Prop} {ta : TE} {tr : TA} {A : List V → Hp → VK → Prop} {E : XK} {C : Addr}
theorem ew_cfun (hd : Hid J) (h : EW J ta σ s F fun x s1 F1 => x = .ref C ∧ AW J tr σ s1 F1 fun vs s2 F2 => A vs F2 fun v F' => R v s2 F') :
    EW J (tCFun C (LS A) E ta tr) σ s F R := fun H j Q q =>
  h H j _ fun x s1 F1 H1 j1 ⟨e, h2⟩ => ⟨e, h2 H1 j1 _ fun vs s2 F2 H2 j2 k => by
    show LS A (vs ++ []) H2 Q E
    rw [List.append_nil]
    exact ⟨_, F2, _, hd.unit s2, j2, k, fun v F' H' j' r => q v s2 F' H' j' r⟩⟩
end
/-- the head's look at such a def -/
def clsFnB (K : PySem.W.Frag) (C : Addr) (m : Str) (f : Addr) : Bool := PySem.W.readsIn K C (.type "type") && (PySem.W.specialIn K (.ref C) "__getattribute__" == some (some (.builtin "type.__getattribute__"))) && (match PySem.W.findCls K (.ref C) (.type "type") m with | some (.val v) => v == .ref f | _ => false)
theorem clsFn_ok {K : PySem.W.Frag} {C f : Addr} {m : Str} {fd : FuncData} {ps : List Str} (h : clsFnB K C m f = true) (kp : PySem.W.keepIn K (.ref f) = true) (b : Binds K fd ps []) : ClsFn K C m f fd ps := by
  unfold clsFnB at h
  rw [Bool.and_eq_true, Bool.and_eq_true] at h
  obtain ⟨⟨h1, h2⟩, h3⟩ := h
  refine ⟨⟨h1, eq_of_beq h2⟩, ⟨?_, rfl⟩, kp, b⟩
  split at h3
  · rename_i v e
    rw [e, eq_of_beq h3]
  · cases h3
end Obr
namespace Obr
open PySem PySem.Spec PyProof.Rows L2
def rawX (K : PySem.W.Frag) (C : Addr) : Bool := match K.lookup C with
  | some ⟨cl, _, .cls cd, sl⟩ => cl == .type "type" && (!cd.hasDel && (cd.hasDict && ((match cd.mro with
    | c :: bm => c == .ref C && PySem.HandSPX.refsVE bm
    | _ => false) && (match sl.toList with
    | [_, _, _, _, some n, _] => n == .builtin "ValueError.__new__"
    | _ => false))))
  | _ => false
def ownX (K : PySem.W.Frag) (C : Addr) (f : Str) : Bool := rawX K C && (He.eqO (PySem.W.findIn K (.ref C) "__setattr__") (some (some (.builtin "object.__setattr__"))) && (decide (PySem.W.subIn K (.ref C) (.type "BaseException") = some true) && (decide (PySem.W.typeIn K (.ref C) = some (.type "type")) && (PySem.W.keepIn K (.ref C) &&
  (He.eqO (PySem.W.findIn K (.ref C) "__init__") (some (some (.ref (He.ma K C "__init__")))) && (decide (PySem.W.typeIn K (.ref (He.ma K C "__init__")) = some (.type "function")) && He.eqO (PySem.W.findIn K (.ref C) f) (some none)))))))
def baseX (K : PySem.W.Frag) (D : Addr) : Bool := PySem.W.readsIn K D (.type "type") && ((PySem.W.specialIn K (.ref D) "__getattribute__" == some (some (.builtin "type.__getattribute__"))) && (match PySem.W.findCls K (.ref D) (.type "type") "__init__" with | some (.val v) => v == .builtin "ValueError.__init__" | _ => false))
def dd (a : Str × Option Str) (x qual : Str) (st : Stmt) : He.DefD := ⟨a, x, qual, defArgs st, defBody st, defScope st, [], []⟩
def fn0 : List He.DefD := [dd ("_wall", none) "_wall" "_wall" (top 1), dd ("BadPlan", some "__init__") "__init__" "BadPlan.__init__" (inClass (top 8) 0), dd ("in_turn", none) "in_turn" "in_turn" (top 15), dd ("least_first", none) "least_first" "least_first" (top 16), dd ("behind_first", none) "behind_first" "behind_first" (top 17), dd ("check_world", none) "check_world" "check_world" (top 24), dd ("check_store", none) "check_store" "check_store" (top 25), dd ("check_steps", none) "check_steps" "check_steps" (top 26), dd ("is_step", none) "is_step" "is_step" (top 27), dd ("check_rule", none) "check_rule" "check_rule" (top 28), dd ("check_count", none) "check_count" "check_count" (top 29), dd ("Machine", some "__init__") "__init__" "Machine.__init__" (inClass (top 34) 0), dd ("Machine", some "is_done") "is_done" "Machine.is_done" (inClass (top 34) 1), dd ("Machine", some "is_busy") "is_busy" "Machine.is_busy" (inClass (top 34) 2), dd ("Machine", some "is_waiting") "is_waiting" "Machine.is_waiting" (inClass (top 34) 3), dd ("Machine", some "need") "need" "Machine.need" (inClass (top 34) 4), dd ("Machine", some "left") "left" "Machine.left" (inClass (top 34) 5), dd ("Machine", some "begin_step") "begin_step" "Machine.begin_step" (inClass (top 34) 6), dd ("Machine", some "end_step") "end_step" "Machine.end_step" (inClass (top 34) 7), dd ("Machine", some "begin_anew") "begin_anew" "Machine.begin_anew" (inClass (top 34) 8)]
def fn1 : List He.DefD := [dd ("Shop", some "__init__") "__init__" "Shop.__init__" (inClass (top 35) 0), dd ("Shop", some "enter") "enter" "Shop.enter" (inClass (top 35) 1), dd ("Shop", some "open_beat") "open_beat" "Shop.open_beat" (inClass (top 35) 2), dd ("Shop", some "end_steps") "end_steps" "Shop.end_steps" (inClass (top 35) 3), dd ("Shop", some "put_in") "put_in" "Shop.put_in" (inClass (top 35) 4), dd ("Shop", some "begin") "begin" "Shop.begin" (inClass (top 35) 5), dd ("Shop", some "close_beat") "close_beat" "Shop.close_beat" (inClass (top 35) 6), dd ("Shop", some "waiting") "waiting" "Shop.waiting" (inClass (top 35) 7), dd ("Run", some "__init__") "__init__" "Run.__init__" (inClass (top 36) 0), dd ("Run", some "do_beat") "do_beat" "Run.do_beat" (inClass (top 36) 1), dd ("Run", some "begin_steps") "begin_steps" "Run.begin_steps" (inClass (top 36) 2), dd ("Run", some "is_still") "is_still" "Run.is_still" (inClass (top 36) 3), dd ("checked_run", none) "checked_run" "checked_run" (top 37), dd ("judged", none) "judged" "judged" (top 40), dd ("can_begin", none) "can_begin" "can_begin" (top 41), dd ("has_begun_all", none) "has_begun_all" "has_begun_all" (top 42), dd ("floors", none) "floors" "floors" (top 43), dd ("beats_to_refill", none) "beats_to_refill" "beats_to_refill" (top 44), dd ("need_of", none) "need_of" "need_of" (top 46), dd ("order", none) "order" "order" (top 47)]
def fn2 : List He.DefD := [dd ("least_start", none) "least_start" "least_start" (top 48), dd ("need_of_steps", none) "need_of_steps" "need_of_steps" (top 49), dd ("least_of_turn", none) "least_of_turn" "least_of_turn" (top 50), dd ("need_in_line", none) "need_in_line" "need_in_line" (top 51), dd ("beats", none) "beats" "beats" (top 54), dd ("_law_mix", none) "_law_mix" "_law_mix" (top 56), dd ("_law_next", none) "_law_next" "_law_next" (top 57), dd ("_law_world", none) "_law_world" "_law_world" (top 58), dd ("_law_rule", none) "_law_rule" "_law_rule" (top 59), dd ("_law_kind", none) "_law_kind" "_law_kind" (top 60), dd ("law", none) "law" "law" (top 61), dd ("Run", some "enter") "enter" "Shop.enter" (inClass (top 35) 1), dd ("Run", some "open_beat") "open_beat" "Shop.open_beat" (inClass (top 35) 2), dd ("Run", some "end_steps") "end_steps" "Shop.end_steps" (inClass (top 35) 3), dd ("Run", some "put_in") "put_in" "Shop.put_in" (inClass (top 35) 4), dd ("Run", some "begin") "begin" "Shop.begin" (inClass (top 35) 5), dd ("Run", some "close_beat") "close_beat" "Shop.close_beat" (inClass (top 35) 6), dd ("Run", some "waiting") "waiting" "Shop.waiting" (inClass (top 35) 7)]
def fn : List He.DefD := fn0 ++ fn1 ++ fn2
def fa0 : List He.Fa := [.exm "BadPlan" "BreathError" true, .free "set", .glo "BadStep", .glo "BadPlan", .glo "NoMachine", .glo "BadDeed", .glo "BadText", .glo "BadStore", .glo "BadRule", .glo "BadCount", .glo "TooMany", .glo "BreathError", .glo "_wall", .glo "in_turn", .glo "least_first", .glo "behind_first", .glo "check_world", .glo "check_store", .glo "check_steps", .glo "is_step", .glo "check_rule", .glo "check_count", .glo "checked_run", .glo "judged", .glo "can_begin", .glo "has_begun_all", .glo "floors", .glo "beats_to_refill", .glo "need_of", .glo "order"]
def fa1 : List He.Fa := [.glo "least_start", .glo "need_of_steps", .glo "least_of_turn", .glo "need_in_line", .glo "beats", .glo "_law_mix", .glo "_law_next", .glo "_law_world", .glo "_law_rule", .glo "_law_kind", .glo "law", .glo "Machine", .glo "Shop", .glo "Run", .glo "RIGHTS", .free "len", .free "list", .free "tuple", .free "max", .free "min", .free "range", .free "sum", .free "sorted", .free "enumerate", .free "zip", .free "isinstance", .free "int", .free "str", .free "bool", .free "ValueError"]
def fa2 : List He.Fa := [.free "any", .free "divmod", .free "all", .int "MOST_CAP" 99, .int "MOST_REFILL" 9, .int "MOST_MACHINES" 5, .int "MOST_STEPS" 6, .int "MOST_LONG" 9, .int "DRAW" 0, .int "LONG" 1, .int "BACK" 2, .int "MOST_ROWS" 500, .int "MOST_BEATS" 500, .cls "Machine", .cls "Shop", .cls "Run", .mkr "Machine", .mkr "Shop", .mkr "Run", .meth "Machine" "is_done", .meth "Machine" "is_busy", .meth "Machine" "is_waiting", .meth "Machine" "need", .meth "Machine" "left", .meth "Machine" "begin_step", .meth "Machine" "end_step", .meth "Machine" "begin_anew", .meth "Shop" "enter", .meth "Shop" "open_beat", .meth "Shop" "end_steps"]
def fa3 : List He.Fa := [.meth "Shop" "put_in", .meth "Shop" "begin", .meth "Shop" "close_beat", .meth "Shop" "waiting", .meth "Run" "do_beat", .meth "Run" "begin_steps", .meth "Run" "is_still", .meth "Run" "enter", .meth "Run" "open_beat", .meth "Run" "end_steps", .meth "Run" "put_in", .meth "Run" "begin", .meth "Run" "close_beat", .meth "Run" "waiting"]
def fa : List He.Fa := fa0 ++ fa1 ++ fa2 ++ fa3
def kitBx (K : PySem.W.Frag) : Bool := decide (PySem.W.kitOne K (.ref (He.ga K "BadPlan")) (.ref (He.ga K "BadStep")) = some false) && decide (PySem.W.kitOne K (.ref (He.ga K "BadPlan")) (.ref (He.ga K "BadPlan")) = some true) && decide (PySem.W.kitOne K (.ref (He.ga K "BadPlan")) (.ref (He.ga K "NoMachine")) = some false) && decide (PySem.W.kitOne K (.ref (He.ga K "BadPlan")) (.ref (He.ga K "BadDeed")) = some false) && decide (PySem.W.kitOne K (.ref (He.ga K "BadPlan")) (.ref (He.ga K "BadText")) = some false) && decide (PySem.W.kitOne K (.ref (He.ga K "BadPlan")) (.ref (He.ga K "BadStore")) = some false) && decide (PySem.W.kitOne K (.ref (He.ga K "BadPlan")) (.ref (He.ga K "BadRule")) = some false) && decide (PySem.W.kitOne K (.ref (He.ga K "BadPlan")) (.ref (He.ga K "BadCount")) = some false) && decide (PySem.W.kitOne K (.ref (He.ga K "BadPlan")) (.ref (He.ga K "TooMany")) = some false) && decide (PySem.W.kitOne K (.ref (He.ga K "BadPlan")) (.type "ValueError") = some true) && ownX K (He.ga K "BadPlan") "beat" && baseX K (He.ga K "BreathError") && He.eqO (PySem.W.findIn K (.ref (He.ga K "BadPlan")) "row") (some none)
def excB (K : PySem.W.Frag) : Bool := He.eqO (PySem.W.findIn K (.ref (He.ga K "BadPlan")) "__getattribute__") (some (some (.builtin "BaseException.__getattribute__"))) && He.eqO (PySem.W.findIn K (.ref (He.ga K "BadPlan")) "__getattr__") (some none) && decide (PySem.W.subIn K (.ref (He.ga K "BadPlan")) (.type "BaseException") = some true) && PySem.W.hasDictIn K (He.ga K "BadPlan") && He.eqO (PySem.W.findIn K (.ref (He.ga K "BadPlan")) "__class__") (some (some (.builtin "object.__class__"))) && He.eqO (PySem.W.specialIn K (.builtin "object.__class__") "__get__") (some (some (.builtin "getset_descriptor.__get__"))) && decide (PySem.W.takesIn K (.builtin "object.__class__") = some true) && decide (PySem.W.mroIn K (He.ga K "BadPlan") (.type "object") = some true)
def tabB (K : PySem.W.Frag) : Bool := match K.lookup (He.ga K "law") with
  | some ⟨_, _, .func fd, _⟩ => (match fd.code with
    | .ref c => (match K.lookup c with
      | some ⟨_, _, .fields vs, _⟩ => (match vs[11]? with
        | some (Value.ref P) => (K.lookup P).isNone
        | _ => false)
      | _ => false)
    | _ => false)
  | _ => false
def exA (K : PySem.W.Frag) : Bool := He.tupB K "RIGHTS" [.str "rank", .str "turns", .str "wait", .str "least"] && ((mkeys.all fun f => (He.Fa.noat "Machine" f).ok K) && ((rkeys.all fun f => (He.Fa.noat "Run" f).ok K) && (clsFnB K (He.ga K "Shop") "__init__" (He.ma K (He.ga K "Shop") "__init__") && ((rkeys.all fun f => (He.Fa.noat "Shop" f).ok K) && (He.eqO (PySem.W.nsIn K mainGlobals "permutations") (some (some (.type "itertools.permutations"))))))))
def asC (g : Addr → Option Obj) (n : Nat) : List Addr := He.asD g n ++ [cStatics]
def tabOf (K : PySem.W.Frag) : Option Addr := match K.lookup (He.ga K "law") with
  | some ⟨_, _, .func fd, _⟩ => (match fd.code with
    | .ref c => (match K.lookup c with
      | some ⟨_, _, .fields vs, _⟩ => (match vs[11]? with
        | some (Value.ref P) => some P
        | _ => none)
      | _ => none)
    | _ => none)
  | _ => none
def asX (g : Addr → Option Obj) (n : Nat) : List Addr := match tabOf (He.frG g (asC g n)) with
  | some P => (asC g n).filter fun a => !Nat.beq a P
  | none => asC g n
def exB (K : PySem.W.Frag) : Bool := kitBx K && (excB K && (tabB K && (exA K)))
def hookY (n : Nat) (fa : List He.Fa) (fn : List He.DefD) (ex : PySem.W.Frag → Bool) : PySem.W.Hook where
  α := He.AlD × Bool
  obs := fun s => (He.obsD fa fn (He.frG s.heap.get? (asX s.heap.get? n)), ex (He.frG s.heap.get? (asX s.heap.get? n)))
  val := fun _ => (He.valD fn, true)
  says := fun _ h => ∃ K : PySem.W.Frag, K.In h ∧ He.SaysD fa fn K ∧ ex K = true
  of := fun _ _ e => ⟨_, He.frG_in, congrArg (fun z : He.AlD × Bool => z.1) e, congrArg (fun z : He.AlD × Bool => z.2) e⟩
  keeps := fun _ _ _ ⟨K, hK, c⟩ k => ⟨K, PySem.W.Frag.In.keeps hK k, c⟩
abbrev RR : PySem.W.OpenRow := PySem.W.OpenLaw.row PySem.Challenge.rw_onebreath_k29_whole_machines_called_othe
abbrev hk : PySem.W.Hook := hookY 5 fa fn exB
def ob (s : PySem.W.SharedT) : He.AlD × Bool := (He.obsD fa fn (He.frG (HandSHeadRun.getT s) (asX (HandSHeadRun.getT s) 5)), exB (He.frG (HandSHeadRun.getT s) (asX (HandSHeadRun.getT s) 5)))
theorem ob_eq (s : PySem.W.SharedT) : ob s = hk.obs s.abs := by
  have e : HandSHeadRun.getT s = s.abs.heap.get? := funext (HandSHeadRun.getT_eq s)
  unfold ob
  rw [e] <;> rfl
def loose0 : List Str := ["_wall", "BreathError", "BadStore", "BadStep", "BadRule", "BadCount", "BadPlan", "TooMany", "NoMachine", "BadDeed", "BadText", "RIGHTS", "in_turn", "least_first", "behind_first", "MOST_CAP", "MOST_REFILL", "MOST_MACHINES", "MOST_STEPS", "MOST_LONG"]
def loose1 : List Str := ["check_world", "check_store", "check_steps", "is_step", "check_rule", "check_count", "DRAW", "LONG", "BACK", "Machine", "Shop", "Run", "checked_run", "MOST_ROWS", "judged", "can_begin", "has_begun_all", "floors", "beats_to_refill", "need_of"]
def loose2 : List Str := ["order", "least_start", "need_of_steps", "least_of_turn", "need_in_line", "MOST_BEATS", "beats", "_law_mix", "_law_next", "_law_world", "_law_rule", "_law_kind"]
def loose : List Str := loose0 ++ loose1 ++ loose2
theorem run (w : World) : HandSHeadRun.RunEqI RR (PySem.W.view RR.prog [0, 61]) hk ob 6000 loose w := by
  unfold HandSHeadRun.RunEqI
  kernel_rfl
end Obr
namespace Obr
open PySem L2 PyProof.Rows
local macro_rules | `(tactic| walk_at "ob_at") => `(tactic| first
  | assumption
  | exact upd_same
  | (refine Eq.trans (upd_ne ?obn) ?obr; (case obn => walk_at "ob_ne"); (case obr => walk_at "ob_at")))
local macro_rules | `(tactic| walk_at "ob_ne") => `(tactic| first
  | assumption
  | (refine Ne.symm ?obs; (case obs => assumption))
  | (refine' ne_of_none (H := ?_) ?obe ?obh; (case obh => assumption); (case obe => walk_at "ob_at"))
  | (refine Ne.symm ?obs; (case obs => (refine' ne_of_none (H := ?_) ?obe ?obh; (case obh => assumption); (case obe => walk_at "ob_at")))))
local macro_rules | `(tactic| walk_at "ob_fr") => `(tactic| first
  | assumption
  | (refine Eq.trans (upd_ne ?obn) ?obr; (case obn => walk_at "ob_ne"); (case obr => walk_at "ob_fr"))
  | (refine Ex.free (G := ?_) (by assumption) ?obh; (case obh => walk_at "ob_fr")))
local macro_rules | `(tactic| walk_at "ob_ex") => `(tactic| first
  | assumption
  | exact Ex.refl _
  | (refine Ex.out ?obg ?obh; (case obh => assumption); (case obg => walk_at "ob_ex"))
  | (refine Ex.new ?obg ?obh; (case obh => assumption); (case obg => walk_at "ob_ex"))
  | (refine Ex.new ?obg ?obh; (case obh => walk_at "ob_fr"); (case obg => walk_at "ob_ex")))
local macro_rules | `(tactic| walk_at "ob_sq") => `(tactic| first
  | assumption
  | (refine SqL.of ?oba; (case oba => walk_at "ob_at"))
  | (refine Ex.sqT (F := ?_) ?obg ?obh; (case obh => assumption); (case obg => walk_at "ob_ex"))
  | (refine Ex.sqL (F := ?_) ?obg ?obh; (case obh => assumption); (case obg => walk_at "ob_ex"))
  | (refine SqT.of ?oba; (case oba => walk_at "ob_at")))
local macro_rules | `(tactic| walk_at "ob_side") => `(tactic| first | exact rfl | assumption | decide | omega | exact ⟨by decide, by decide, by decide⟩ | exact Or.inr ⟨by decide, by decide⟩ | exact Or.inl ⟨by decide, by decide⟩ | exact wide_div (b := 60) (by first | decide | omega) (by first | decide | omega) (by decide) (by decide))
local macro_rules | `(tactic| walk_at "ob1") => `(tactic| first
  | with_reducible refine sw_seq ?_
  | with_reducible refine sw_asg ?_
  | with_reducible refine sw_ret ?_
  | with_reducible refine sw_par ?_
  | with_reducible refine ⟨_, _, rfl, ?_⟩
  | with_reducible refine sw_drop ?_
  | with_reducible refine sw_if ?_
  | with_reducible refine sw_next ?_
  | with_reducible refine gw_name ?_
  | with_reducible refine gw_subL (by assumption) ?_
  | with_reducible refine gsw_cons ?_
  | with_reducible refine gsw_nil ?_
  | with_reducible refine ew_c ?_
  | ((with_reducible refine' ew_var (v := ?_) ?obv ?_); (case obv => exact rfl))
  | ((with_reducible refine ew_next (by assumption) ?obv ?_); (case obv => exact rfl))
  | ((with_reducible refine ew_world (by assumption) ?obv ?_); (case obv => exact rfl))
  | ((with_reducible refine ew_rule (by assumption) ?obv ?_); (case obv => exact rfl))
  | with_reducible refine ew_op ?_
  | with_reducible refine ew_un ?_
  | with_reducible refine ew_dget (by assumption) ?_
  | with_reducible refine uw_I ?_
  | with_reducible refine ppw_nil ?_
  | with_reducible refine ppw_cons ?_
  | with_reducible refine sw_dput (by assumption) ?_
  | with_reducible refine ew_cb ?_
  | with_reducible refine ew_if ?_
  | with_reducible refine ew_slL (by assumption) ?_
  | with_reducible refine ow_some ?_
  | with_reducible refine ow_none ?_
  | with_reducible refine aw_nil ?_
  | with_reducible refine aw_cons ?_
  | with_reducible refine rw_I0 ?_
  | ((with_reducible refine rw_I ?obc ?_); (case obc => walk_at "ob_side"))
  | with_reducible refine rw_isN ?_
  | with_reducible refine rw_notN ?_
  | ((with_reducible refine rw_eq ?obc ?_); (case obc => exact rfl))
  | ((with_reducible refine rw_ne ?obc ?_); (case obc => exact rfl))
  | with_reducible refine cw_max2 ?_
  | with_reducible refine cw_min2 ?_
  | with_reducible refine tw_test ?_
  | with_reducible refine tw_B ?_
  | with_reducible refine tw_not ?_
  | with_reducible refine tw_truB ?_
  | with_reducible refine tw_and ?_
  | with_reducible refine tw_or ?_
  | with_reducible refine ew_and ?_
  | (refine' Exists.intro _ (And.intro (show V.bl _ = V.bl _ from rfl) ?_))
  | (refine' Exists.intro _ (And.intro (show V.int _ = V.int _ from rfl) ?_))
  | ((with_reducible refine' rw_ixL (v := ?_) (xs := ?_) (by assumption) ?obl ?oba ?_); (case obl => walk_at "ob_sq"); (case oba => first | exact rfl | exact at_zero))
  | ((with_reducible refine' rw_ixT (v := ?_) (xs := ?_) (by assumption) ?obl ?oba ?_); (case obl => walk_at "ob_sq"); (case oba => first | exact rfl | exact at_zero))
  | ((with_reducible refine' ew_lst (by assumption) ?_))
  | ((with_reducible refine' ew_tup (by assumption) ?_)))
local macro_rules | `(tactic| walk_at "ob_len") => `(tactic| first | exact Nat.le_of_ble_eq_true rfl | (simp; done) | omega)
local macro_rules | `(tactic| walk_at "ob") => `(tactic| repeat walk_at "ob1")

/-! ### Run.is_still, Run.do_beat, Run.__init__ -/
def lStill (w : Wld) (t : LSt) : Bool := !(decide (0 < w.refill) && decide (t.level < w.cap)) && !(t.ms.any fun m => decide (0 ≤ m.over))
def aStill (K : PySem.W.Frag) (C M : Addr) : List V → Hp → VK → Prop := fun vs F R => ∃ (F0 : Hp) (A : RAd) (t : LSt) (w : Wld) (r : Rgt) (p anew : Bool) (ex : List (Addr × HO)), vs = [.ref A.a] ∧ A.C = C ∧ A.M = M ∧ RunAt K F0 F A t w r p anew ex ∧ w.ms.length ≤ 5 ∧
  ∀ (F' : Hp), Ex F F' → R (.bl (lStill w t)) F'
def aDoBeat (K : PySem.W.Frag) (C M : Addr) : List V → Hp → VK → Prop := fun vs F R => ∃ (F0 : Hp) (A : RAd) (t : LSt) (w : Wld) (r : Rgt) (p anew : Bool) (ex : List (Addr × HO)), vs = [.ref A.a] ∧ A.C = C ∧ A.M = M ∧ RunAt K F0 F A t w r p anew ex ∧ LOk w t ∧ w.ms.length ≤ 5 ∧ (∀ ss ∈ w.ms, ∀ st ∈ ss, (0 : Int) ≤ st.long) ∧
  ∀ (q b o : Addr) (F' : Hp) (t' : LSt) (lv : Int) (bg : List Int), LBeat w r p anew t t' lv bg → LOk w t' → RunAt K F0 F' A t' w r p anew ((q, .tup [.ref o, .ref b]) :: (b, .lst (bg.map V.int)) :: (o, .lst ((overs t w.ms.length).map V.int)) :: ex) → R (.ref q) F'
def aRInit (K : PySem.W.Frag) (C M : Addr) : List V → Hp → VK → Prop := fun vs F R => ∃ (Fb : Hp) (a dx : Addr) (wv rv : V) (w : Wld) (r : Rgt) (p anew : Bool), vs = [.ref a, wv, rv, .bl anew] ∧ F = upd Fb a (.ins C dx []) ∧ Fb a = none ∧ Dp K Fb wv (wldD w) ∧ Dp K Fb rv (rulD r p) ∧ w.ms.length ≤ 5 ∧
  ∀ (F' : Hp) (A : RAd), A.a = a → A.C = C → A.M = M → A.hp = false → SEnt false K Fb F' A (lBegun w) w r p anew [] → R .non F'
theorem lDraws_ok {w : Wld} {p : Bool} {t : LSt} : ∀ (ts : List Clm) {x : LSt × List Int × Bool}, LOk w x.1 → SameAt t x.1 → (∀ c ∈ ts, ∀ m ss, t.ms[c.k.toNat]? = some m → w.ms[c.k.toNat]? = some ss → m.at_ < ss.length) → LOk w (ts.foldl (lDraw w p) x).1
  | [], _, h, _, _ => h
  | c :: cs, x, h, hs, hc => by
    have h1 : LOk w (lDraw w p x c).1 := lDraw_ok h fun m ss hm hss => by
      have e := hs.2 c.k.toNat
      rw [hm] at e
      cases hm2 : t.ms[c.k.toNat]? with
      | none => rw [hm2] at e; cases e
      | some m2 =>
        rw [hm2] at e
        have e2 : m.at_ = m2.at_ := Option.some.inj e
        rw [e2]
        exact hc c List.mem_cons_self m2 ss hm2 hss
    have h2 : SameAt t (lDraw w p x c).1 := by
      unfold lDraw
      split
      · rename_i m ss hm hss
        split
        · split
          · rename_i st _; exact hs.set (m' := { m with over := x.1.beat + st.long }) hm rfl rfl rfl
          · exact hs
        · exact hs.set (m' := { m with waits := m.waits + 1 }) hm rfl rfl rfl
      · exact hs
    exact lDraws_ok (w := w) (p := p) cs (x := lDraw w p x c) h1 h2 fun d hd => hc d (List.mem_cons_of_mem _ hd)
theorem beat_ok {w : Wld} {r : Rgt} {p anew : Bool} {t t' : LSt} {lv : Int} {bg : List Int} (h : LOk w t) (b : LBeat w r p anew t t' lv bg) : LOk w t' := by
  obtain ⟨ts, hts, e1, e2, _⟩ := b.ex
  have h0 := lFill_ok (lEnds_ok (anew := anew) h w.ms.length)
  have h1 : LOk w (lDraws w p ts (lFill w (lEnds w anew t w.ms.length))).1 := lDraws_ok (t := lFill w (lEnds w anew t w.ms.length)) ts h0 ⟨rfl, fun _ => rfl⟩ fun c hc m ss hm hss => by
    obtain ⟨j, hj, hcj⟩ := lClaims_mem (hts.perm.mem_iff.mp hc)
    obtain ⟨m2, ss2, st, h2, h3, _, h5, _, ec⟩ := lClaim_mem hcj
    have ek : c.k.toNat = j := by rw [ec]; exact Int.toNat_natCast j
    rw [ek] at hm hss
    rw [h2] at hm
    rw [h3] at hss
    cases hm
    cases hss
    exact h5
  subst e2
  exact h1.same rfl (by show 0 ≤ _ + 1; have := h1.b; omega)
section
variable {P : Program} {w : World} {K : PySem.W.Frag} {mg : Str → Option Value} {base : Heap} {C M : Addr}

abbrev s_Run__dot__do_beat : Stmt := inClass (top 36) 1
def N_Run_do_beat : List Str := ["self", "over", "begun"]
theorem sc_Run_do_beat : FnScope N_Run_do_beat ["self"] (defScope s_Run__dot__do_beat) := ⟨rfl, rfl, rfl, by decide +kernel, rfl, by decide +kernel, by decide +kernel⟩
theorem ok_Run_do_beat {f : Addr} {fd : FuncData} {f1 f2 f3 : Addr} {fd1 fd2 fd3 : FuncData} (Fn : Fun K "do_beat" "Run.do_beat" s_Run__dot__do_beat f fd) (B : Blt mg) (HR : ClsF K C rkeys) (HM : ClsF K M mkeys) (M_open_beat : Met K C "open_beat" f1 fd1 ["self"]) (G_open_beat : FnOk P w K mg base CX0 3 f1 fd1 ["self"] (LS (aOpenB false K C M))) (M_begin_steps : Met K C "begin_steps" f3 fd3 ["self"]) (G_begin_steps : FnOk P w K mg base CX0 4 f3 fd3 ["self"] (LS (aBeginSteps K C M))) (M_close_beat : Met K C "close_beat" f2 fd2 ["self"]) (G_close_beat : FnOk P w K mg base CX0 1 f2 fd2 ["self"] (LS (aCloseB false K C M))) : FnOk P w K mg base CX0 5 f fd ["self"] (LS (aDoBeat K C M)) := by
  refine Fn.ok sc_Run_do_beat (fun vs H Q E h => ?_) (fun cdv A outer s H vs Q E hr h => ?_)
  · obtain ⟨J, F, R, hd, j, h, _⟩ := h
    obtain ⟨F0, A, t, w, r, p, anew, ex, rfl, _⟩ := h
    rfl
  · have nd := sc_Run_do_beat.nd
    obtain ⟨J, F, R, hd, j, h, q⟩ := h
    obtain ⟨F0, A, t, w, r, p, anew, ex, rfl, rfl, rfl, hG, hok, hm5, hlong, k⟩ := h
    refine ⟨_, (pss_cons (ps_set (i := 1) nd rfl (Or.inl rfl) (pe_meth0 (pv 0) M_open_beat.cl M_open_beat.m G_open_beat (by exact hr.mono (by decide)) M_open_beat.a .nil pass0))
      (pss_cons (ps_set (i := 2) nd rfl (Or.inl rfl) (pe_meth0 (pv 0) M_begin_steps.cl M_begin_steps.m G_begin_steps (by exact hr.mono (by decide)) M_begin_steps.a .nil pass0))
      (pss_cons (ps_expr (pe_meth0 (pv 0) M_close_beat.cl M_close_beat.m G_close_beat (by exact hr.mono (by decide)) M_close_beat.a .nil pass0))
      (pss_one (ps_ret (pe_tup (pa_cons (pv 1) (pa_cons (pv 2) pa_nil)))))))), ?_⟩
    refine LS.body j q ?_
    refine sw_seq (sw_asg (ew_meth hd ?_))
    walk_at "ob"
    refine ⟨A.a, A.dx, _, rfl, hG.cell, rfs_no (by decide +kernel), aw_nil ⟨F0, A, t, w, r, p, anew, ex, rfl, rfl, rfl, hG, hok, hm5, fun q1 F1 hX => gw_name ?_⟩⟩
    have hok2 := lFill_ok (lEnds_ok (anew := anew) hok w.ms.length)
    refine sw_seq (sw_asg (ew_meth hd ?_))
    walk_at "ob"
    refine ⟨A.a, A.dx, _, rfl, hX.cell, rfs_no (by decide +kernel), aw_nil ⟨F0, A, _, w, r, p, anew, _, rfl, rfl, rfl, hX, hok2, hm5, hlong, fun b F3 ts hts hX3 => gw_name ?_⟩⟩
    refine sw_seq (sw_drop (ew_meth hd ?_))
    walk_at "ob"
    refine ⟨A.a, A.dx, _, rfl, hX3.cell, rfs_no (by decide +kernel), aw_nil ⟨F0, A, _, w, r, p, anew, _, rfl, rfl, rfl, hX3, fun F4 hX4 => ?_⟩⟩
    refine sw_ret (ew_tup hd ?_)
    walk_at "ob"
    refine ⟨by walk_at "ob_len", fun q hq => ?_⟩
    have bt : LBeat w r p anew t (lLast (lDraws w p ts (lFill w (lEnds w anew t w.ms.length))).1 (lDraws w p ts (lFill w (lEnds w anew t w.ms.length))).2.1) (lLast (lDraws w p ts (lFill w (lEnds w anew t w.ms.length))).1 (lDraws w p ts (lFill w (lEnds w anew t w.ms.length))).2.1).level (lDraws w p ts (lFill w (lEnds w anew t w.ms.length))).2.1 := ⟨ts, hts, rfl, rfl, rfl⟩
    exact k q b q1 _ _ _ _ bt (beat_ok hok bt) (hX4.more hq)

abbrev s_Run__dot____init__ : Stmt := inClass (top 36) 0
def N_Run___init__ : List Str := ["self", "world", "rule", "anew"]
theorem sc_Run___init__ : FnScope N_Run___init__ ["self", "world", "rule", "anew"] (defScope s_Run__dot____init__) := ⟨rfl, rfl, rfl, by decide +kernel, rfl, by decide +kernel, by decide +kernel⟩
theorem ok_Run___init__ {f : Addr} {fd : FuncData} {f1 : Addr} {fd1 : FuncData} (Fn : Fun K "__init__" "Run.__init__" s_Run__dot____init__ f fd) (B : Blt mg) (HR : ClsF K C rkeys) (HM : ClsF K M mkeys) {SC : Addr} (gShop : mg "Shop" = some (.ref SC)) (CF_Shop___init__ : ClsFn K SC "__init__" f1 fd1 ["self", "world", "anew"]) (G_Shop___init__ : FnOk P w K mg base CX0 4 f1 fd1 ["self", "world", "anew"] (LS (aSInit K C M))) : FnOk P w K mg base CX0 5 f fd ["self", "world", "rule", "anew"] (LS (aRInit K C M)) := by
  refine Fn.ok sc_Run___init__ (fun vs H Q E h => ?_) (fun cdv A outer s H vs Q E hr h => ?_)
  · obtain ⟨J, F, R, hd, j, h, _⟩ := h
    obtain ⟨Fb, a, dx, wv, rv, w, r, p, anew, rfl, _⟩ := h
    rfl
  · have nd := sc_Run___init__.nd
    obtain ⟨J, F, R, hd, j, h, q⟩ := h
    obtain ⟨Fb, a, dx, wv, rv, w, r, p, anew, rfl, rfl, hFa, dw, dr, hm5, k⟩ := h
    refine ⟨_, (pss_cons (ps_expr (pe_cfun (pe_glob (v := .ref SC) rfl gShop rfl) CF_Shop___init__ G_Shop___init__ (by exact hr.mono (by decide)) pass0 (pa_cons (pv 0) (pa_cons (pv 1) (pa_cons (pv 3) pa_nil)))))
      (pss_cons (ps_asg (pv 2) (pg_tup rfl (pgs_cons (pg_fld (pv 0)) (pgs_cons (pg_fld (pv 0)) pgs_nil))))
      (pss_one (ps_fld (pv 0) pe_non rfl)))), ?_⟩
    refine LS.body j q ?_
    obtain ⟨ra, us, rfl, lu, dus⟩ := dp_tup dr
    obtain ⟨u1, u2, rfl, e1, e2⟩ := dps2 dus
    cases dp_str e1
    cases dp_bl e2
    refine sw_seq (sw_drop (ew_cfun hd (ew_c ⟨rfl, ?_⟩)))
    refine aw_cons (ew_var rfl (aw_cons (ew_var rfl (aw_cons (ew_var rfl (aw_nil ?_))))))
    refine ⟨Fb, a, dx, wv, w, r, p, anew, rfl, rfl, hFa, dw, hm5, fun F' A ea eC eM eP hX => ?_⟩
    subst ea eC
    have hra : SqT K F' ra [.str (rgtS r), .bl p] := hX.own.ex.sqT lu
    refine sw_seq (sw_asg ?_)
    walk_at "ob"
    refine gw_tup hd ⟨ra, _, rfl, hra, rfl, ?_⟩
    have o0 := hX.own
    refine gsw_cons (gw_fld hd ?_)
    walk_at "ob"
    refine ⟨A.a, A.C, A.dx, _, rfl, o0.get (i := 0) rfl, HR.cl, HR.no _ (by decide +kernel), rfs_lt, ?_⟩
    rw [putF_out (show _ ∉ rkeys.take 6 from by decide +kernel)]
    have o1 := o0.set (i := 0) (a := A.a) (o' := .ins A.C A.dx ((rfsS true A (lBegun w) w r p anew) ++ ([("right", V.str (rgtS r))] : List (Str × V)))) rfl
    refine gsw_cons (gw_fld hd ?_)
    walk_at "ob"
    refine ⟨A.a, A.C, A.dx, _, rfl, o1.get (i := 0) rfl, HR.cl, HR.no _ (by decide +kernel), Nat.lt_of_le_of_lt (Nat.le_of_ble_eq_true (m := 9) rfl) (by decide), ?_⟩
    rw [putF_out (show _ ∉ rkeys.take 7 from by decide +kernel)]
    have o2 := o1.set (i := 0) (a := A.a) (o' := .ins A.C A.dx ((rfsS true A (lBegun w) w r p anew) ++ ([("right", V.str (rgtS r))] : List (Str × V)) ++ ([("passing", V.bl p)] : List (Str × V)))) rfl
    refine gsw_nil ?_
    refine sw_fld hd ?_
    walk_at "ob"
    refine ⟨A.a, A.C, A.dx, _, rfl, o2.get (i := 0) rfl, HR.cl, HR.no _ (by decide +kernel), Nat.lt_of_le_of_lt (Nat.le_of_ble_eq_true (m := 9) rfl) (by decide), ?_⟩
    rw [putF_out (show _ ∉ rkeys.take 8 from by decide +kernel)]
    have o3 := o2.set (i := 0) (a := A.a) (o' := .ins A.C A.dx ((rfsS true A (lBegun w) w r p anew) ++ ([("right", V.str (rgtS r))] : List (Str × V)) ++ ([("passing", V.bl p)] : List (Str × V)) ++ ([("last", V.non)] : List (Str × V)))) rfl
    exact k _ A rfl rfl eM eP ⟨o3, hX.st, hX.len1, hX.len2, hX.pz, hX.np, hX.na⟩
end
end Obr
namespace Obr
/-! ### waited and worked; enough for all; one alone (mathematics only) -/
def longsTo (ss : List Stp) (i : Nat) : Int := ((ss.take i).map Stp.long).sum
def longs (ss : List Stp) : Int := (ss.map Stp.long).sum
/-- of a machine: what it waited and what it worked -/
structure A21 (b : Int) (ss : List Stp) (m : Mac) : Prop where
  wt : m.over < 0 → m.at_ < ss.length → b = m.waits + longsTo ss m.at_.toNat
  dn : m.at_ = ss.length → m.since = m.waits + longs ss
  bz : 0 ≤ m.over → m.over = m.waits + longsTo ss (m.at_.toNat + 1)
/-! enough for all -/
def remM (ss : List Stp) (m : Mac) : Int := ((ss.drop (m.at_.toNat + if 0 ≤ m.over then 1 else 0)).map Stp.draw).sum
def rem (w : Wld) (t : LSt) : Int := sumM remM w.ms t.ms
theorem sum_nn : ∀ {l : List Int}, (∀ x ∈ l, 0 ≤ x) → 0 ≤ l.sum
  | [], _ => Int.le_refl _
  | a :: l, h => by
    have h1 := h a List.mem_cons_self
    have h2 := sum_nn (l := l) fun x hx => h x (List.mem_cons_of_mem _ hx)
    rw [List.sum_cons]
    omega
structure Rich (w : Wld) (x : LSt) : Prop where
  ok : LOk w x
  le : rem w x ≤ x.level
  cap : rem w x ≤ w.cap
  wt : ∀ (k : Nat) (m : Mac), x.ms[k]? = some m → m.waits = 0
def total (w : Wld) : Int := (w.ms.map fun ss => (ss.map Stp.draw).sum).sum
/-! one alone -/
end Obr
namespace Obr
open PySem L2 PyProof.Rows
local macro_rules | `(tactic| walk_at "ob_at") => `(tactic| first
  | assumption
  | exact upd_same
  | (refine Eq.trans (upd_ne ?obn) ?obr; (case obn => walk_at "ob_ne"); (case obr => walk_at "ob_at")))
local macro_rules | `(tactic| walk_at "ob_ne") => `(tactic| first
  | assumption
  | (refine Ne.symm ?obs; (case obs => assumption))
  | (refine' ne_of_none (H := ?_) ?obe ?obh; (case obh => assumption); (case obe => walk_at "ob_at"))
  | (refine Ne.symm ?obs; (case obs => (refine' ne_of_none (H := ?_) ?obe ?obh; (case obh => assumption); (case obe => walk_at "ob_at")))))
local macro_rules | `(tactic| walk_at "ob_fr") => `(tactic| first
  | assumption
  | (refine Eq.trans (upd_ne ?obn) ?obr; (case obn => walk_at "ob_ne"); (case obr => walk_at "ob_fr"))
  | (refine Ex.free (G := ?_) (by assumption) ?obh; (case obh => walk_at "ob_fr")))
local macro_rules | `(tactic| walk_at "ob_ex") => `(tactic| first
  | assumption
  | exact Ex.refl _
  | (refine Ex.out ?obg ?obh; (case obh => assumption); (case obg => walk_at "ob_ex"))
  | (refine Ex.new ?obg ?obh; (case obh => assumption); (case obg => walk_at "ob_ex"))
  | (refine Ex.new ?obg ?obh; (case obh => walk_at "ob_fr"); (case obg => walk_at "ob_ex")))
local macro_rules | `(tactic| walk_at "ob_sq") => `(tactic| first
  | assumption
  | (refine SqL.of ?oba; (case oba => walk_at "ob_at"))
  | (refine Ex.sqT (F := ?_) ?obg ?obh; (case obh => assumption); (case obg => walk_at "ob_ex"))
  | (refine Ex.sqL (F := ?_) ?obg ?obh; (case obh => assumption); (case obg => walk_at "ob_ex"))
  | (refine SqT.of ?oba; (case oba => walk_at "ob_at")))
local macro_rules | `(tactic| walk_at "ob_side") => `(tactic| first | exact rfl | assumption | decide | omega | exact ⟨by decide, by decide, by decide⟩ | exact Or.inr ⟨by decide, by decide⟩ | exact Or.inl ⟨by decide, by decide⟩ | exact wide_div (b := 60) (by first | decide | omega) (by first | decide | omega) (by decide) (by decide))
local macro_rules | `(tactic| walk_at "ob1") => `(tactic| first
  | with_reducible refine sw_seq ?_
  | with_reducible refine sw_asg ?_
  | with_reducible refine sw_ret ?_
  | with_reducible refine sw_par ?_
  | with_reducible refine ⟨_, _, rfl, ?_⟩
  | with_reducible refine sw_drop ?_
  | with_reducible refine sw_if ?_
  | with_reducible refine sw_next ?_
  | with_reducible refine gw_name ?_
  | with_reducible refine gw_subL (by assumption) ?_
  | with_reducible refine gsw_cons ?_
  | with_reducible refine gsw_nil ?_
  | with_reducible refine ew_c ?_
  | ((with_reducible refine' ew_var (v := ?_) ?obv ?_); (case obv => exact rfl))
  | ((with_reducible refine ew_next (by assumption) ?obv ?_); (case obv => exact rfl))
  | ((with_reducible refine ew_world (by assumption) ?obv ?_); (case obv => exact rfl))
  | ((with_reducible refine ew_rule (by assumption) ?obv ?_); (case obv => exact rfl))
  | with_reducible refine ew_op ?_
  | with_reducible refine ew_un ?_
  | with_reducible refine ew_dget (by assumption) ?_
  | with_reducible refine uw_I ?_
  | with_reducible refine ppw_nil ?_
  | with_reducible refine ppw_cons ?_
  | with_reducible refine sw_dput (by assumption) ?_
  | with_reducible refine ew_cb ?_
  | with_reducible refine ew_if ?_
  | with_reducible refine ew_slL (by assumption) ?_
  | with_reducible refine ow_some ?_
  | with_reducible refine ow_none ?_
  | with_reducible refine aw_nil ?_
  | with_reducible refine aw_cons ?_
  | with_reducible refine rw_I0 ?_
  | ((with_reducible refine rw_I ?obc ?_); (case obc => walk_at "ob_side"))
  | with_reducible refine rw_isN ?_
  | with_reducible refine rw_notN ?_
  | ((with_reducible refine rw_eq ?obc ?_); (case obc => exact rfl))
  | ((with_reducible refine rw_ne ?obc ?_); (case obc => exact rfl))
  | with_reducible refine cw_max2 ?_
  | with_reducible refine cw_min2 ?_
  | with_reducible refine tw_test ?_
  | with_reducible refine tw_B ?_
  | with_reducible refine tw_not ?_
  | with_reducible refine tw_truB ?_
  | with_reducible refine tw_and ?_
  | with_reducible refine tw_or ?_
  | with_reducible refine ew_and ?_
  | (refine' Exists.intro _ (And.intro (show V.bl _ = V.bl _ from rfl) ?_))
  | (refine' Exists.intro _ (And.intro (show V.int _ = V.int _ from rfl) ?_))
  | ((with_reducible refine' rw_ixL (v := ?_) (xs := ?_) (by assumption) ?obl ?oba ?_); (case obl => walk_at "ob_sq"); (case oba => first | exact rfl | exact at_zero))
  | ((with_reducible refine' rw_ixT (v := ?_) (xs := ?_) (by assumption) ?obl ?oba ?_); (case obl => walk_at "ob_sq"); (case oba => first | exact rfl | exact at_zero))
  | ((with_reducible refine' ew_lst (by assumption) ?_))
  | ((with_reducible refine' ew_tup (by assumption) ?_)))
local macro_rules | `(tactic| walk_at "ob_len") => `(tactic| first | exact Nat.le_of_ble_eq_true rfl | (simp; done) | omega)
local macro_rules | `(tactic| walk_at "ob") => `(tactic| repeat walk_at "ob1")

def aChecked (K : PySem.W.Frag) (C M : Addr) : List V → Hp → VK → Prop := fun vs F R => ∃ (wv rv : V) (w : Wld) (r : Rgt) (p anew : Bool), vs = [wv, rv, .bl anew] ∧ Dp K F wv (wldD w) ∧ Dp K F rv (rulD r p) ∧ WldOk w ∧
  ∀ (F' F0 : Hp) (A : RAd), A.C = C → A.M = M → A.hp = false → Ex F F0 → RunAt K F0 F' A (lBegun w) w r p anew [] → R (.ref A.a) F'
section
variable {P : Program} {w : World} {K : PySem.W.Frag} {mg : Str → Option Value} {base : Heap} {C M : Addr}

abbrev s_checked_run : Stmt := top 37
def N_checked_run : List Str := ["world", "rule", "anew"]
theorem sc_checked_run : FnScope N_checked_run ["world", "rule", "anew"] (defScope s_checked_run) := ⟨rfl, rfl, rfl, by decide +kernel, rfl, by decide +kernel, by decide +kernel⟩
theorem ok_checked_run {f : Addr} {fd : FuncData} {f1 f2 f3 : Addr} {fd1 fd2 fd3 : FuncData} (Fn : Fun K "checked_run" "checked_run" s_checked_run f fd) (B : Blt mg) (Ccheck_world : Cal K mg "check_world" f1 fd1 ["world"]) (Gcheck_world : FnOk P w K mg base CX0 3 f1 fd1 ["world"] (LS (aChkW K))) (Ccheck_rule : Cal K mg "check_rule" f2 fd2 ["rule"]) (Gcheck_rule : FnOk P w K mg base CX0 1 f2 fd2 ["rule"] (LS (aChkR K))) (MK_Run : Mk K C f3) (G_Run : FnOk P w K mg base CX0 5 f3 fd3 ["self", "world", "rule", "anew"] (LS (aRInit K C M))) (MK_Run_g : mg "Run" = some (.ref C)) (MK_Run_a : Binds K fd3 ["self", "world", "rule", "anew"] []) : FnOk P w K mg base CX0 7 f fd ["world", "rule", "anew"] (LS (aChecked K C M)) := by
  refine Fn.ok sc_checked_run (fun vs H Q E h => ?_) (fun cdv A outer s H vs Q E hr h => ?_)
  · obtain ⟨J, F, R, hd, j, h, _⟩ := h
    obtain ⟨wv, rv, w, r, p, anew, rfl, _⟩ := h
    rfl
  · have nd := sc_checked_run.nd
    obtain ⟨J, F, R, hd, j, h, q⟩ := h
    obtain ⟨wv, rv, w, r, p, anew, rfl, dw, dr, hw, k⟩ := h
    refine ⟨_, (pss_cons (ps_expr (pe_call Gcheck_world (by exact hr.mono (by decide)) (by rfl) Ccheck_world.g Ccheck_world.k Ccheck_world.a .nil pass0 (pa_cons (pv 0) pa_nil)))
      (pss_cons (ps_expr (pe_call Gcheck_rule (by exact hr.mono (by decide)) (by rfl) Ccheck_rule.g Ccheck_rule.k Ccheck_rule.a .nil pass0 (pa_cons (pv 1) pa_nil)))
      (pss_one (ps_ret (pe_make MK_Run G_Run (by exact hr.mono (by decide)) (by rfl) MK_Run_g MK_Run_a .nil pass0 (pa_cons (pv 0) (pa_cons (pv 1) (pa_cons (pv 2) pa_nil)))))))), ?_⟩
    refine LS.body j q ?_
    refine sw_seq (sw_drop (ew_call hd ?_))
    walk_at "ob"
    refine ⟨wv, w, rfl, dw, hw, fun F1 g1 => ?_⟩
    refine sw_seq (sw_drop (ew_call hd ?_))
    walk_at "ob"
    refine ⟨rv, r, p, rfl, dp_ex g1 dr, ?_⟩
    refine sw_ret (ew_make hd ?_)
    walk_at "ob"
    intro x dx hx hdx hne
    have g2 : Ex F (upd F1 dx (.own x)) := Ex.new g1 hdx
    refine ⟨_, x, dx, wv, rv, w, r, p, anew, rfl, rfl, by rw [upd_ne hne.symm]; exact hx, dp_ex g2 dw, dp_ex g2 dr, hw.m, fun F' A ea eC eM eP hX => ⟨rfl, ?_⟩⟩
    subst ea
    exact k F' _ A eC eM eP (g2.trans (Ex.new (.refl _) hX.ml0)) hX.shut
end
end Obr
namespace Obr
open PySem L2 PyProof.Rows
local macro_rules | `(tactic| walk_at "ob_at") => `(tactic| first
  | assumption
  | exact upd_same
  | (refine Eq.trans (upd_ne ?obn) ?obr; (case obn => walk_at "ob_ne"); (case obr => walk_at "ob_at")))
local macro_rules | `(tactic| walk_at "ob_ne") => `(tactic| first
  | assumption
  | (refine Ne.symm ?obs; (case obs => assumption))
  | (refine' ne_of_none (H := ?_) ?obe ?obh; (case obh => assumption); (case obe => walk_at "ob_at"))
  | (refine Ne.symm ?obs; (case obs => (refine' ne_of_none (H := ?_) ?obe ?obh; (case obh => assumption); (case obe => walk_at "ob_at")))))
local macro_rules | `(tactic| walk_at "ob_fr") => `(tactic| first
  | assumption
  | (refine Eq.trans (upd_ne ?obn) ?obr; (case obn => walk_at "ob_ne"); (case obr => walk_at "ob_fr"))
  | (refine Ex.free (G := ?_) (by assumption) ?obh; (case obh => walk_at "ob_fr")))
local macro_rules | `(tactic| walk_at "ob_ex") => `(tactic| first
  | assumption
  | exact Ex.refl _
  | (refine Ex.out ?obg ?obh; (case obh => assumption); (case obg => walk_at "ob_ex"))
  | (refine Ex.new ?obg ?obh; (case obh => assumption); (case obg => walk_at "ob_ex"))
  | (refine Ex.new ?obg ?obh; (case obh => walk_at "ob_fr"); (case obg => walk_at "ob_ex")))
local macro_rules | `(tactic| walk_at "ob_sq") => `(tactic| first
  | assumption
  | (refine SqL.of ?oba; (case oba => walk_at "ob_at"))
  | (refine Ex.sqT (F := ?_) ?obg ?obh; (case obh => assumption); (case obg => walk_at "ob_ex"))
  | (refine Ex.sqL (F := ?_) ?obg ?obh; (case obh => assumption); (case obg => walk_at "ob_ex"))
  | (refine SqT.of ?oba; (case oba => walk_at "ob_at")))
local macro_rules | `(tactic| walk_at "ob_side") => `(tactic| first | exact rfl | assumption | decide | omega | exact ⟨by decide, by decide, by decide⟩ | exact Or.inr ⟨by decide, by decide⟩ | exact Or.inl ⟨by decide, by decide⟩ | exact wide_div (b := 60) (by first | decide | omega) (by first | decide | omega) (by decide) (by decide))
local macro_rules | `(tactic| walk_at "ob1") => `(tactic| first
  | with_reducible refine sw_seq ?_
  | with_reducible refine sw_asg ?_
  | with_reducible refine sw_ret ?_
  | with_reducible refine sw_par ?_
  | with_reducible refine ⟨_, _, rfl, ?_⟩
  | with_reducible refine sw_drop ?_
  | with_reducible refine sw_if ?_
  | with_reducible refine sw_next ?_
  | with_reducible refine gw_name ?_
  | with_reducible refine gw_subL (by assumption) ?_
  | with_reducible refine gsw_cons ?_
  | with_reducible refine gsw_nil ?_
  | with_reducible refine ew_c ?_
  | ((with_reducible refine' ew_var (v := ?_) ?obv ?_); (case obv => exact rfl))
  | ((with_reducible refine ew_next (by assumption) ?obv ?_); (case obv => exact rfl))
  | ((with_reducible refine ew_world (by assumption) ?obv ?_); (case obv => exact rfl))
  | ((with_reducible refine ew_rule (by assumption) ?obv ?_); (case obv => exact rfl))
  | with_reducible refine ew_op ?_
  | with_reducible refine ew_un ?_
  | with_reducible refine ew_dget (by assumption) ?_
  | with_reducible refine uw_I ?_
  | with_reducible refine ppw_nil ?_
  | with_reducible refine ppw_cons ?_
  | with_reducible refine sw_dput (by assumption) ?_
  | with_reducible refine ew_cb ?_
  | with_reducible refine ew_if ?_
  | with_reducible refine ew_slL (by assumption) ?_
  | with_reducible refine ow_some ?_
  | with_reducible refine ow_none ?_
  | with_reducible refine aw_nil ?_
  | with_reducible refine aw_cons ?_
  | with_reducible refine rw_I0 ?_
  | ((with_reducible refine rw_I ?obc ?_); (case obc => walk_at "ob_side"))
  | with_reducible refine rw_isN ?_
  | with_reducible refine rw_notN ?_
  | ((with_reducible refine rw_eq ?obc ?_); (case obc => exact rfl))
  | ((with_reducible refine rw_ne ?obc ?_); (case obc => exact rfl))
  | with_reducible refine cw_max2 ?_
  | with_reducible refine cw_min2 ?_
  | with_reducible refine tw_test ?_
  | with_reducible refine tw_B ?_
  | with_reducible refine tw_not ?_
  | with_reducible refine tw_truB ?_
  | with_reducible refine tw_and ?_
  | with_reducible refine tw_or ?_
  | with_reducible refine ew_and ?_
  | (refine' Exists.intro _ (And.intro (show V.bl _ = V.bl _ from rfl) ?_))
  | (refine' Exists.intro _ (And.intro (show V.int _ = V.int _ from rfl) ?_))
  | ((with_reducible refine' rw_ixL (v := ?_) (xs := ?_) (by assumption) ?obl ?oba ?_); (case obl => walk_at "ob_sq"); (case oba => first | exact rfl | exact at_zero))
  | ((with_reducible refine' rw_ixT (v := ?_) (xs := ?_) (by assumption) ?obl ?oba ?_); (case obl => walk_at "ob_sq"); (case oba => first | exact rfl | exact at_zero))
  | ((with_reducible refine' ew_lst (by assumption) ?_))
  | ((with_reducible refine' ew_tup (by assumption) ?_)))
local macro_rules | `(tactic| walk_at "ob_len") => `(tactic| first | exact Nat.le_of_ble_eq_true rfl | (simp; done) | omega)
local macro_rules | `(tactic| walk_at "ob") => `(tactic| repeat walk_at "ob1")

/-! ### beats -/
/-- n beats from the start: what is told of each -/
inductive LRows (w : Wld) (r : Rgt) (p : Bool) : Nat → LSt → List (Int × List Int) → Prop
  | zero : LRows w r p 0 (lBegun w) []
  | succ {n t t' lv bg rows} : LRows w r p n t rows → LBeat w r p false t t' lv bg → LRows w r p (n + 1) t' (rows ++ [(lv, bg)])
theorem LRows.path {w : Wld} {r : Rgt} {p : Bool} : ∀ {n t rows}, LRows w r p n t rows → LPath w r p n t
  | _, _, _, .zero => .zero
  | _, _, _, .succ h b => .succ h.path b
theorem LRows.len {w : Wld} {r : Rgt} {p : Bool} : ∀ {n t rows}, LRows w r p n t rows → rows.length = n
  | _, _, _, .zero => rfl
  | _, _, _, .succ h b => by rw [List.length_append, h.len]; rfl
def rowD (x : Int × List Int) : PyData := .tuple [.int x.1, .list (x.2.map PyData.int)]
def aBeatsP (K : PySem.W.Frag) : List V → Hp → VK → Prop := fun vs F R => ∃ (wv rv : V) (w : Wld) (r : Rgt) (p : Bool) (n : Nat), vs = [wv, rv, .int n] ∧ Dp K F wv (wldD w) ∧ Dp K F rv (rulD r p) ∧ WldOk w ∧ n ≤ 500 ∧
  ∀ (q : Addr) (F' : Hp) (vs' : List V) (t : LSt) (rows : List (Int × List Int)), LRows w r p n t rows → Ex F F' → F' q = some (.lst vs') → DpAll K F' vs' (rows.map rowD) → R (.ref q) F'
theorem dp_ints {K : PySem.W.Frag} {F : Hp} : ∀ {l : List Int}, DpAll K F (l.map V.int) (l.map PyData.int)
  | [] => .nil
  | a :: l => .cons (.int a) dp_ints
section
variable {P : Program} {w : World} {K : PySem.W.Frag} {mg : Str → Option Value} {base : Heap} {C M : Addr}

abbrev s_beats : Stmt := top 54
def N_beats : List Str := ["world", "rule", "many", "run", "told", "_", "begun"]
theorem sc_beats : FnScope N_beats ["world", "rule", "many"] (defScope s_beats) := ⟨rfl, rfl, rfl, by decide +kernel, rfl, by decide +kernel, by decide +kernel⟩
theorem ok_beats {f : Addr} {fd : FuncData} {f1 f2 f3 : Addr} {fd1 fd2 fd3 : FuncData} (Fn : Fun K "beats" "beats" s_beats f fd) (B : Blt mg) (HR : ClsF K C rkeys) (HM : ClsF K M mkeys) {tMB : Tok} (gMOST_BEATS : mg "MOST_BEATS" = some (.int 500 tMB)) (Cchecked_run : Cal K mg "checked_run" f1 fd1 ["world", "rule", "anew"]) (Gchecked_run : FnOk P w K mg base CX0 7 f1 fd1 ["world", "rule", "anew"] (LS (aChecked K C M))) (Ccheck_count : Cal K mg "check_count" f2 fd2 ["many", "least", "most"]) (Gcheck_count : FnOk P w K mg base CX0 1 f2 fd2 ["many", "least", "most"] (LS aCount)) (M_do_beat : Met K C "do_beat" f3 fd3 ["self"]) (G_do_beat : FnOk P w K mg base CX0 5 f3 fd3 ["self"] (LS (aDoBeat K C M))) : FnOk P w K mg base CX0 8 f fd ["world", "rule", "many"] (LS (aBeatsP K)) := by
  refine Fn.ok sc_beats (fun vs H Q E h => ?_) (fun cdv A outer s H vs Q E hr h => ?_)
  · obtain ⟨J, F, R, hd, j, h, _⟩ := h
    obtain ⟨wv, rv, w, r, p, n, rfl, _⟩ := h
    rfl
  · have nd := sc_beats.nd
    obtain ⟨J, F, R, hd, j, h, q⟩ := h
    obtain ⟨wv, rv, w, r, p, n, rfl, dw, dr, hw, hn, k⟩ := h
    refine ⟨_, (pss_cons (ps_set (i := 3) nd rfl (Or.inl rfl) (pe_call Gchecked_run (by exact hr.mono (by decide)) (by rfl) Cchecked_run.g Cchecked_run.k Cchecked_run.a .nil pass0 (pa_cons (pv 0) (pa_cons (pv 1) (pa_cons pe_bl pa_nil)))))
      (pss_cons (ps_expr (pe_call Gcheck_count (by exact hr.mono (by decide)) (by rfl) Ccheck_count.g Ccheck_count.k Ccheck_count.a .nil pass0 (pa_cons (pv 2) (pa_cons pe_int (pa_cons (pe_glob (v := .int 500) rfl gMOST_BEATS ⟨_, rfl⟩) pa_nil)))))
      (pss_cons (ps_set (i := 4) nd rfl (Or.inl rfl) (pe_lst pa_nil))
      (pss_cons (ps_for PassesOwn.never rfl (pi_range1 rfl B.range (pa_cons (pv 2) pa_nil)) (pg_name (i := 5) nd rfl (Or.inl rfl)) (pss_cons (ps_asg (pe_meth0 (pv 3) M_do_beat.cl M_do_beat.m G_do_beat (by exact hr.mono (by decide)) M_do_beat.a .nil pass0) (pg_tup rfl (pgs_cons (pg_name (i := 5) nd rfl (Or.inl rfl)) (pgs_cons (pg_name (i := 6) nd rfl (Or.inl rfl)) pgs_nil))))
      (pss_one (ps_expr (pe_bm PySem.F.plainAttrs_list PySem.F.slot_list_append PySem.F.type_list_append mt_append (pv 4) (pa_cons (pe_tup (pa_cons (pe_fld (pv 3) rfl) (pa_cons (pv 6) pa_nil))) pa_nil))))))
      (pss_one (ps_ret (pv 4))))))), ?_⟩
    refine LS.body j q ?_
    have hm5 := hw.m
    have hlong : ∀ ss ∈ w.ms, ∀ st ∈ ss, (0 : Int) ≤ st.long := fun ss h1 st h2 => by have := (hw.st ss h1 st h2).l0; omega
    refine sw_seq (sw_asg (ew_call hd ?_))
    walk_at "ob"
    refine ⟨wv, rv, w, r, p, false, rfl, dw, dr, hw, fun F1 F0 A eC eM eP gF hX0 => gw_name ?_⟩
    subst eC eM
    refine sw_seq (sw_drop (ew_call hd ?_))
    walk_at "ob"
    refine ⟨n, 0, 500, rfl, by omega, by omega, ?_⟩
    walk_at "ob"
    refine ⟨by walk_at "ob_len", fun tl htl => ?_⟩
    walk_at "ob"
    refine sw_mid (fun σ _ G => ∃ (x5 x6 : Option V) (Fk : Hp) (t : LSt) (rows : List (Int × List Int)) (vs' : List V), σ = [some wv, some rv, some (.int n), some (.ref A.a), some (.ref tl), x5, x6] ∧ Ex F Fk ∧ LRows w r p n t rows ∧ DpAll K Fk vs' (rows.map rowD) ∧ RunAt K Fk G A t w r p false [(tl, .lst vs')]) ?_ ?_
    · refine sw_forR1 ?_
      walk_at "ob"
      refine ⟨n, fun i σ _ G => ∃ (x5 x6 : Option V) (Fk : Hp) (t : LSt) (rows : List (Int × List Int)) (vs' : List V), σ = [some wv, some rv, some (.int n), some (.ref A.a), some (.ref tl), x5, x6] ∧ Ex F Fk ∧ LRows w r p i t rows ∧ DpAll K Fk vs' (rows.map rowD) ∧ RunAt K Fk G A t w r p false [(tl, .lst vs')], rfl, by omega, by omega,
        ⟨none, none, F0, lBegun w, [], [], rfl, gF, .zero, .nil, hX0.more htl⟩, ?_, ?_⟩
      · rintro i σ _ G hii ⟨x5, x6, Fk, t, rows, vs', rfl, g1, hL, hD, hX⟩
        have hi := hL.path.inv hw
        refine gw_name ?_
        refine sw_seq (sw_asg (ew_meth hd ?_))
        walk_at "ob"
        refine ⟨A.a, A.dx, _, rfl, hX.cell, rfs_no (by decide +kernel), aw_nil ⟨Fk, A, t, w, r, p, false, _, rfl, rfl, rfl, hX, hi.ok, hm5, hlong, fun q b x F2 t' lv bg hB hok' hX1 => ?_⟩⟩
        refine gw_tup hd ⟨q, _, rfl, SqT.of hX1.ex0, rfl, gsw_cons (gw_name (gsw_cons (gw_name (gsw_nil ?_))))⟩
        have hX2 := hX1.drop.freeze.drop
        have hb0 := hX1.drop.ex0n
        refine sw_drop (ew_bmL hd ?_)
        walk_at "ob"
        refine ⟨tl, _, rfl, SqL.of hX2.ex0, aw_cons (ew_tup hd (aw_cons (ew_fld hd ?_)))⟩
        walk_at "ob"
        refine ⟨A.a, A.C, A.dx, _, _, rfl, hX2.cell, HR.cl, HR.no _ (by decide +kernel), lookup_nd (i := 1) (rfs_nd _ _ _ _ _ _) rfl, ?_⟩
        walk_at "ob"
        refine ⟨by walk_at "ob_len", fun p3 hp3 => ?_⟩
        have hX3 := hX2.new (o := .tup [.int t'.level, .ref b]) hp3
        have g0 : Ex Fk (upd (upd Fk b (.lst (bg.map V.int))) p3 (.tup [.int t'.level, .ref b])) := (Ex.new (.refl _) hb0).trans (Ex.new (.refl _) (hX2.own.ex.free hp3))
        have hlv : lv = t'.level := by obtain ⟨_, _, _, _, e⟩ := hB.ex; exact e
        have hvl : vs'.length = i := by have := dps_len hD; rw [List.length_map, hL.len] at this; exact this
        refine aw_nil (mw_append hd hX3.ex0 (by omega) ?_)
        refine ⟨some (.ref x), some (.ref b), _, t', rows ++ [(lv, bg)], vs' ++ [.ref p3], rfl, g1.trans g0, .succ hL hB, ?_, hX3.exset⟩
        rw [List.map_append]
        refine dps_snoc (dps_ex g0 hD) ?_
        have hbb : (upd (upd Fk b (.lst (bg.map V.int))) p3 (.tup [.int t'.level, .ref b])) b = some (.lst (bg.map V.int)) := by
          rw [upd_ne (ne_of_none upd_same (hX2.own.ex.free hp3))]
          exact upd_same
        show Dp K _ _ (.tuple [.int lv, .list (bg.map PyData.int)])
        rw [hlv]
        exact .tup (SqT.of upd_same) (.cons (.int _) (.cons (.lst (SqL.of hbb) dp_ints) .nil))
      · rintro σ _ G ⟨x5, x6, Fk, t, rows, vs', rfl, g1, hL, hD, hX⟩
        rw [Int.toNat_natCast] at hL
        exact ⟨x5, x6, Fk, t, rows, vs', rfl, g1, hL, hD, hX⟩
    · rintro σ _ G ⟨x5, x6, Fk, t, rows, vs', rfl, g1, hL, hD, hX⟩
      walk_at "ob"
      exact k tl G vs' t rows hL (g1.trans hX.own.ex) hX.ex0 (dps_ex hX.own.ex hD)
end
end Obr
/-! ### plans: what a row does to a store and its machines; beats of a rule as rows -/
namespace Obr
open PySem L2 PyProof.Rows
theorem jOpen_ms {w : Wld} {t : LSt} {j : Nat} {ss : List Stp} (hs : w.ms[j]? = some ss) : (jOpen w t).ms[j]? = (t.ms[j]?).map (endM false t.beat ss) := by
  unfold jOpen
  rw [lFill_ms, lEnds_ms (Nat.le_refl _) hs, if_pos (List.getElem?_eq_some_iff.mp hs).1]
theorem minI_eq {a b : Int} : minI a b = min a b := by unfold minI; split <;> omega
theorem pend_nn {w : Wld} (hw : WldOk w) {c : Int} {t : LSt} : 0 ≤ pend w c t := sumM_nn fun k m ss h1 h2 => pendM_nn hw (List.mem_of_getElem? h2)
theorem lEnd_keeps {w : Wld} (hw : WldOk w) {t : LSt} {k : Nat} (h : LOk w t) (hl : t.level ≤ w.cap) : minI w.cap ((lEnd w false t k).level + pend w t.beat (lEnd w false t k)) = minI w.cap (t.level + pend w t.beat t) := by
  have hb := h.b
  unfold lEnd
  split
  · rename_i m ss hm hs
    split
    · rename_i e
      split
      · rename_i st hst
        have e1 : pendM t.beat ss m = st.back := by unfold pendM; rw [if_pos e]; simp only [hst]
        have hbk := ((hw.st ss (List.mem_of_getElem? hs)) st (List.mem_of_getElem? hst)).b0
        have e2 : ∀ m' : Mac, m'.over = -1 → pendM t.beat ss m' = 0 := fun m' z => by unfold pendM; rw [if_neg (by rw [z]; omega)]
        have key : ∀ m' : Mac, m'.over = -1 → minI w.cap (minI w.cap (t.level + st.back) + sumM (pendM t.beat) w.ms (t.ms.set k m')) = minI w.cap (t.level + pend w t.beat t) := fun m' z => by
          rw [sumM_set hm hs, e2 m' z, e1]
          have hp := sumM_one (f := pendM t.beat) (l := w.ms) (ms := t.ms) (fun k m ss h1 h2 => pendM_nn hw (List.mem_of_getElem? h2)) hm hs
          rw [e1] at hp
          unfold pend
          rw [minI_eq, minI_eq, minI_eq]
          omega
        split
        · exact key ⟨if false = true then 0 else m.at_ + 1, -1, t.beat, m.done + 1, m.waits, some t.beat⟩ rfl
        · exact key ⟨m.at_ + 1, -1, t.beat, m.done + 1, m.waits, m.ends⟩ rfl
      · rfl
    · rfl
  · rfl
theorem lEnds_keeps {w : Wld} (hw : WldOk w) {t : LSt} (h : LOk w t) (h0 : 0 ≤ t.level) (hl : t.level ≤ w.cap) : ∀ n, minI w.cap ((lEnds w false t n).level + pend w t.beat (lEnds w false t n)) = minI w.cap (t.level + pend w t.beat t)
  | 0 => rfl
  | n + 1 => by
    rw [lEnds]
    have h1 := lEnd_keeps hw (k := n) (lEnds_ok (anew := false) h n) (lEnds_lev hw (anew := false) h0 hl n).2
    rw [lEnds_beat] at h1
    rw [h1]
    exact lEnds_keeps hw h h0 hl n
/-- how much is there once the steps that are over have given back -/
theorem ends_level {w : Wld} (hw : WldOk w) {t : LSt} (h : LOk w t) (h0 : 0 ≤ t.level) (hl : t.level ≤ w.cap) : (lEnds w false t w.ms.length).level = min w.cap (t.level + pend w t.beat t) := by
  have h1 := lEnds_keeps hw h h0 hl w.ms.length
  rw [ends_none h] at h1
  have h2 := (lEnds_lev hw (anew := false) h0 hl w.ms.length).2
  rw [minI_eq, minI_eq] at h1
  omega
theorem open_level {w : Wld} (hw : WldOk w) {t : LSt} (h : LOk w t) (h0 : 0 ≤ t.level) (hl : t.level ≤ w.cap) : (jOpen w t).level = if 0 < t.beat then min w.cap (min w.cap (t.level + pend w t.beat t) + w.refill) else min w.cap (t.level + pend w t.beat t) := by
  unfold jOpen lFill
  rw [lEnds_beat]
  split
  · show minI w.cap ((lEnds w false t w.ms.length).level + w.refill) = _
    rw [ends_level hw h h0 hl, minI_eq]
  · exact ends_level hw h h0 hl
theorem open_lev {w : Wld} (hw : WldOk w) {t : LSt} (h0 : 0 ≤ t.level) (hl : t.level ≤ w.cap) : 0 ≤ (jOpen w t).level ∧ (jOpen w t).level ≤ w.cap := by
  have h1 := lEnds_lev hw (anew := false) h0 hl w.ms.length
  exact lFill_lev hw h1.1 h1.2
/-- a machine begins -/
def begM (b : Int) (ss : List Stp) (m : Mac) : Mac := match ss[m.at_.toNat]? with
  | some st => { m with over := b + st.long }
  | none => m
theorem jBegin_ms {w : Wld} {t : LSt} {x : Int} (hx : 0 ≤ x) {j : Nat} {ss : List Stp} (hs : w.ms[j]? = some ss) : (jBegin w t x).ms[j]? = if x = (j : Int) then (t.ms[j]?).map (begM t.beat ss) else t.ms[j]? := by
  by_cases e : x = (j : Int)
  · subst e
    rw [if_pos rfl]
    unfold jBegin
    rw [Int.toNat_natCast, hs]
    cases hm : t.ms[j]? with
    | none => exact hm
    | some m =>
      simp only [Option.map_some]
      unfold begM
      cases hst : ss[m.at_.toNat]? with
      | none => exact hm
      | some st =>
        show (t.ms.set j _)[j]? = _
        rw [set_get, if_pos rfl, hm]
        rfl
  · rw [if_neg e, jBegin_other' hx (fun z => e (by omega))]
where
  jBegin_other' {w : Wld} {t : LSt} {x : Int} {j : Nat} (hx : 0 ≤ x) (hne : x.toNat ≠ j) : (jBegin w t x).ms[j]? = t.ms[j]? := by
    unfold jBegin
    split
    · split
      · show (t.ms.set x.toNat _)[j]? = _
        rw [List.getElem?_set, if_neg hne]
      · rfl
    · rfl
theorem drawK_other {w : Wld} {t : LSt} {x y : Int} (hx : 0 ≤ x) (hy : 0 ≤ y) (hne : x ≠ y) : drawK w (jBegin w t x) y = drawK w t y := by
  unfold drawK
  rw [jBegin_other hx hy hne]
theorem jBegin_lev {w : Wld} {t : LSt} {x : Int} : (jBegin w t x).level = t.level - drawK w t x := by
  unfold jBegin drawK
  split
  · split
    · rfl
    · show t.level = t.level - 0
      omega
  · omega
theorem begins_desc {w : Wld} : ∀ {xs : List Int} {t : LSt}, JB w t xs → (jBegins w t xs).level = t.level - (xs.map (drawK w t)).sum ∧
    ∀ (j : Nat) (ss : List Stp), w.ms[j]? = some ss → (jBegins w t xs).ms[j]? = if (j : Int) ∈ xs then (t.ms[j]?).map (begM t.beat ss) else t.ms[j]?
  | [], t, _ => ⟨by show t.level = t.level - 0; omega, fun j ss hs => by rw [if_neg (by simp)]; rfl⟩
  | x :: xs, t, h => by
    have hx := h.ge x (.head _)
    have hn := List.pairwise_cons.mp h.ne
    obtain ⟨i1, i2⟩ := begins_desc h.tail
    have hd : (xs.map (drawK w (jBegin w t x))) = xs.map (drawK w t) := List.map_congr_left fun y hy => drawK_other hx (h.ge y (.tail _ hy)) (Int.ne_of_lt (hn.1 y hy))
    refine ⟨?_, fun j ss hs => ?_⟩
    · show (jBegins w (jBegin w t x) xs).level = _
      rw [i1, hd, jBegin_lev, List.map_cons, List.sum_cons]
      omega
    · show (jBegins w (jBegin w t x) xs).ms[j]? = _
      rw [i2 j ss hs, jBegin_ms hx hs, jBegin_beat]
      by_cases e : x = (j : Int)
      · subst e
        rw [if_neg (fun z => Int.lt_irrefl _ (hn.1 _ z)), if_pos rfl, if_pos (.head _)]
      · rw [if_neg e]
        by_cases e2 : (j : Int) ∈ xs
        · rw [if_pos e2, if_pos (.tail _ e2)]
        · rw [if_neg e2, if_neg (fun z => by rcases List.mem_cons.mp z with z | z; exact e z.symm; exact e2 z)]
/-- what a row does to a machine -/
def rowM (b : Int) (ss : List Stp) (g : Bool) (m : Mac) : Mac := if g then begM b ss (endM false b ss m) else endM false b ss m
theorem row_desc {w : Wld} (hw : WldOk w) {t : LSt} {xs : List Int} (h : LOk w t) (hc : canB w (jOpen w t) xs = true) : (jRow w t xs).beat = t.beat + 1 ∧ (jRow w t xs).level = (jOpen w t).level - (xs.map (drawK w (jOpen w t))).sum ∧
    ∀ (j : Nat) (m : Mac) (ss : List Stp), t.ms[j]? = some m → w.ms[j]? = some ss → (jRow w t xs).ms[j]? = some (rowM t.beat ss (decide ((j : Int) ∈ xs)) m) := by
  have hb := JB.of (jOpen_ok h) hc
  obtain ⟨d1, d2⟩ := begins_desc hb
  refine ⟨?_, d1, fun j m ss hm hs => ?_⟩
  · show (jBegins w (jOpen w t) xs).beat + 1 = _
    rw [jBegins_beat, jOpen_beat]
  · show (jBegins w (jOpen w t) xs).ms[j]? = _
    rw [d2 j ss hs, jOpen_ms hs, hm, jOpen_beat]
    unfold rowM
    by_cases e : (j : Int) ∈ xs
    · rw [if_pos e, if_pos (decide_eq_true e)]; rfl
    · rw [if_neg e, if_neg (by simp [e])]; rfl
/-! ### what may begin -/
theorem rises_of : ∀ {xs : List Int}, xs.Pairwise (· < ·) → rises xs = true
  | [], _ => rfl
  | [_], _ => rfl
  | a :: b :: l, h => by
    have e : rises (a :: b :: l) = (decide (a < b) && rises (b :: l)) := rfl
    have h' := List.pairwise_cons.mp h
    rw [e, decide_eq_true (h'.1 b (.head _)), rises_of h'.2]
    rfl
theorem all_id_intro {α : Type} {l : List α} {f : α → Bool} (h : ∀ x ∈ l, f x = true) : (l.map f).all id = true := by
  rw [List.all_map, List.all_eq_true]
  exact h
/-- a machine that waits: its draw -/
structure WaitD (w : Wld) (t : LSt) (x : Int) (d : Int) : Prop where
  ex : ∃ (j : Nat) (m : Mac) (ss : List Stp) (st : Stp), x = (j : Int) ∧ t.ms[j]? = some m ∧ w.ms[j]? = some ss ∧ m.over < 0 ∧ ss[m.at_.toNat]? = some st ∧ 0 ≤ m.at_ ∧ d = st.draw
theorem WaitD.draw {w : Wld} {t : LSt} {x d : Int} (h : WaitD w t x d) : drawK w t x = d ∧ waitB w t x = true := by
  obtain ⟨j, m, ss, st, rfl, h1, h2, h3, h4, h5, rfl⟩ := h.ex
  have hlt := (List.getElem?_eq_some_iff.mp h4).1
  constructor
  · unfold drawK
    rw [Int.toNat_natCast, h1, h2]
    simp only [h4]
  · unfold waitB
    rw [Int.toNat_natCast, h1, h2]
    exact decide_eq_true ⟨h3, by omega⟩
theorem WaitD.of {w : Wld} {t : LSt} {x : Int} (ho : LOk w t) (hx : 0 ≤ x) (h : waitB w t x = true) : WaitD w t x (drawK w t x) := by
  unfold waitB at h
  split at h
  · rename_i m ss hm hs
    have h := of_decide_eq_true h
    have hk := ho.m _ m ss hm hs
    have := hk.a0
    have := hk.a1
    obtain ⟨st, hst⟩ : ∃ st, ss[m.at_.toNat]? = some st := ⟨_, List.getElem?_eq_getElem (by omega)⟩
    refine ⟨x.toNat, m, ss, st, by omega, hm, hs, h.1, hst, hk.a0, ?_⟩
    unfold drawK
    rw [hm, hs]
    simp only [hst]
  · cases h
theorem canB_of {w : Wld} {t : LSt} {xs : List Int} (hr : xs.Pairwise (· < ·)) (hx : ∀ x ∈ xs, WaitD w t x (drawK w t x)) (hs : (xs.map (drawK w t)).sum ≤ t.level) : canB w t xs = true := by
  unfold canB
  rw [rises_of hr, decide_eq_true hs]
  have h1 : inRB w xs = true := all_id_intro fun x h => by
    obtain ⟨j, m, ss, st, rfl, _, h2, _⟩ := (hx x h).ex
    have := (List.getElem?_eq_some_iff.mp h2).1
    simp only [Bool.and_eq_true, decide_eq_true_eq]
    omega
  have h2 : waitsB w t xs = true := all_id_intro fun x h => (hx x h).draw.2
  rw [h1, h2]
  rfl
structure CanB (w : Wld) (t : LSt) (xs : List Int) : Prop where
  rise : xs.Pairwise (· < ·)
  wait : ∀ x ∈ xs, WaitD w t x (drawK w t x)
  sum : (xs.map (drawK w t)).sum ≤ t.level
theorem CanB.of {w : Wld} {t : LSt} {xs : List Int} (ho : LOk w t) (h : canB w t xs = true) : CanB w t xs := by
  have hb := JB.of ho h
  unfold canB at h
  simp only [Bool.and_eq_true] at h
  exact ⟨hb.ne, fun x hx => WaitD.of ho (hb.ge x hx) (hb.wt x hx), of_decide_eq_true h.2.2.2⟩
/-! ### the beats of a rule -/
/-- what the draws of a beat come to -/
theorem draws_sum {w : Wld} (hw : WldOk w) {p : Bool} : ∀ (ts : List Clm) {x : LSt × List Int × Bool}, (ts.map Clm.k).Nodup → (∀ c ∈ ts, WaitD w x.1 c.k c.draw) → 0 ≤ x.1.level →
    ∃ l : List Int, (ts.foldl (lDraw w p) x).2.1 = x.2.1 ++ l ∧ l.Sublist (ts.map Clm.k) ∧ (ts.foldl (lDraw w p) x).1.level = x.1.level - (l.map (drawK w x.1)).sum ∧ (l.map (drawK w x.1)).sum ≤ x.1.level
  | [], x, _, _, h0 => ⟨[], by simp, .slnil, by show x.1.level = x.1.level - 0; omega, h0⟩
  | c :: ts, x, hn, hc, h0 => by
    rw [List.map_cons, List.nodup_cons] at hn
    have hcw := hc c (.head _)
    obtain ⟨hd, _⟩ := hcw.draw
    obtain ⟨j, m, ss, st, ek, hm, hs, hov, hst, ha, ed⟩ := hcw.ex
    have ekn : c.k.toNat = j := by rw [ek]; exact Int.toNat_natCast j
    have hne : ∀ d ∈ ts, c.k ≠ d.k := fun d hd e => hn.1 (by rw [e]; exact List.mem_map_of_mem hd)
    have rest : ∀ d ∈ ts, WaitD w (lDraw w p x c).1 d.k d.draw := fun d hd => by
      obtain ⟨k2, m2, ss2, st2, g1, g2, g3, g4, g5, g6, g7⟩ := (hc d (.tail _ hd)).ex
      refine ⟨k2, m2, ss2, st2, g1, ?_, g3, g4, g5, g6, g7⟩
      rw [lDraw_other]
      · exact g2
      · rw [ekn]
        intro e
        exact hne d hd (by rw [ek, g1, e])
    have same : ∀ l : List Int, l.Sublist (ts.map Clm.k) → l.map (drawK w (lDraw w p x c).1) = l.map (drawK w x.1) := fun l hl => List.map_congr_left fun y hy => by
      obtain ⟨d, hd, rfl⟩ := List.mem_map.mp (hl.subset hy)
      rw [(rest d hd).draw.1, (hc d (.tail _ hd)).draw.1]
    by_cases hb : x.2.2 = true ∧ c.draw ≤ x.1.level
    · have e : lDraw w p x c = ({ x.1 with level := x.1.level - c.draw, ms := x.1.ms.set c.k.toNat { m with over := x.1.beat + st.long } }, x.2.1 ++ [c.k], x.2.2) := by
        unfold lDraw
        rw [ekn, hm, hs]
        simp only [hst]
        rw [if_pos hb]
      have el : (lDraw w p x c).1.level = x.1.level - c.draw := by rw [e]
      have eb : (lDraw w p x c).2.1 = x.2.1 ++ [c.k] := by rw [e]
      obtain ⟨l, i1, i2, i3, i4⟩ := draws_sum hw ts (p := p) (x := lDraw w p x c) hn.2 rest (by rw [el]; omega)
      rw [same l i2] at i3 i4
      rw [el] at i3 i4
      refine ⟨c.k :: l, ?_, i2.cons_cons _, ?_, ?_⟩
      · rw [List.foldl_cons, i1, eb, List.append_assoc]; rfl
      · rw [List.foldl_cons, i3, List.map_cons, List.sum_cons, hd]; omega
      · rw [List.map_cons, List.sum_cons, hd]; omega
    · have e : lDraw w p x c = ({ x.1 with ms := x.1.ms.set c.k.toNat { m with waits := m.waits + 1 } }, x.2.1, x.2.2 && p) := by
        unfold lDraw
        rw [ekn, hm, hs]
        simp only
        rw [if_neg hb]
      have el : (lDraw w p x c).1.level = x.1.level := by rw [e]
      have eb : (lDraw w p x c).2.1 = x.2.1 := by rw [e]
      obtain ⟨l, i1, i2, i3, i4⟩ := draws_sum hw ts (p := p) (x := lDraw w p x c) hn.2 rest (by rw [el]; exact h0)
      rw [same l i2] at i3 i4
      rw [el] at i3 i4
      exact ⟨l, by rw [List.foldl_cons, i1, eb], i2.trans (List.sublist_cons_self _ _), by rw [List.foldl_cons, i3], i4⟩
structure BDesc (w : Wld) (t t' : LSt) (bg : List Int) : Prop where
  nd : bg.Nodup
  wait : ∀ x ∈ bg, WaitD w (jOpen w t) x (drawK w (jOpen w t) x)
  level : t'.level = (jOpen w t).level - (bg.map (drawK w (jOpen w t))).sum
  sum : (bg.map (drawK w (jOpen w t))).sum ≤ (jOpen w t).level
  beat : t'.beat = t.beat + 1
  len : t'.ms.length = w.ms.length
  ms : ∀ (j : Nat) (m : Mac) (ss : List Stp), t.ms[j]? = some m → w.ms[j]? = some ss → ∃ m', t'.ms[j]? = some m' ∧ mcore m' = mcore (rowM t.beat ss (decide ((j : Int) ∈ bg)) m)
theorem beat_desc {w : Wld} (hw : WldOk w) {r : Rgt} {p : Bool} {t t' : LSt} {lv : Int} {bg : List Int} (h : LInv w t) (b : LBeat w r p false t t' lv bg) : BDesc w t t' bg := by
  obtain ⟨hl, hb, hm⟩ := beat_ms h.ok b
  obtain ⟨ts, hts, e1, e2, _⟩ := b.ex
  have hokO := jOpen_ok (w := w) h.ok
  have hmem : ∀ c ∈ ts, WaitD w (jOpen w t) c.k c.draw := fun c hc => by
    obtain ⟨j, hj, hcj⟩ := lClaims_mem (hts.perm.mem_iff.mp hc)
    obtain ⟨m, ss, st, h1, h2, h3, h4, h5, rfl⟩ := lClaim_mem hcj
    exact ⟨j, m, ss, st, rfl, h1, h2, h3, h5, (hokO.m j m ss h1 h2).a0, rfl⟩
  have hnd : (ts.map Clm.k).Nodup := (hts.perm.map Clm.k).nodup_iff.mpr (lClaims_nd _)
  obtain ⟨l, i1, i2, i3, i4⟩ := draws_sum hw (p := p) ts (x := (jOpen w t, [], true)) hnd hmem (open_lev hw h.l0 h.l1).1
  have el : bg = l := by rw [e1]; exact i1
  subst el
  refine ⟨i2.nodup hnd, fun x hx => ?_, ?_, i4, hb, hl, fun j m ss h1 h2 => ?_⟩
  · obtain ⟨c, hc, rfl⟩ := List.mem_map.mp (i2.subset hx)
    have z := hmem c hc
    rw [z.draw.1]
    exact z
  · rw [e2]; exact i3
  · obtain ⟨m', g1, g2⟩ := hm j m ss h1 h2
    refine ⟨m', g1, ?_⟩
    unfold rowM
    by_cases c : (endM false t.beat ss m).over < 0 ∧ (endM false t.beat ss m).at_ < ss.length
    · obtain ⟨st, hst, q | q⟩ := g2.yes c
      · rw [if_pos (decide_eq_true q.1), q.2]
        unfold begM
        simp only [hst]
      · rw [if_neg (by simp [q.1]), q.2]
        rfl
    · obtain ⟨q1, q2⟩ := g2.no c
      rw [if_neg (by simp [q2]), q1]
end Obr
/-! ### itertools.permutations of range(n), n at most five -/
namespace Obp
open PySem PyProof.Rows
theorem slot_next : Slot "itertools.permutations" "__next__" "itertools.permutations.__next__" :=
  .of (owner := "itertools.permutations") (n := "__next__") (by rw [typeLookup_type, builtinLookup_eq_fast]; kernel_rfl) (by decide +kernel) (by decide +kernel) (by decide +kernel)
    (by first | exact .inl (by decide +kernel) | exact .inr (by decide +kernel)) (by rw [isSubtype_type]; kernel_rfl)
theorem entry_next : entryFor table "itertools.permutations.__next__" = some Builtin.«itertools.permutations.__next__» := entryFor_of_tree (by kernel_rfl)
theorem args_next (a : Value) : argsOk "itertools.permutations.__next__" ⟨[a], []⟩ := by unfold argsOk; kernel_rfl
theorem slot_iter : Slot "itertools.permutations" "__iter__" "itertools.permutations.__iter__" :=
  .of (owner := "itertools.permutations") (n := "__iter__") (by rw [typeLookup_type, builtinLookup_eq_fast]; kernel_rfl) (by decide +kernel) (by decide +kernel) (by decide +kernel)
    (by first | exact .inl (by decide +kernel) | exact .inr (by decide +kernel)) (by rw [isSubtype_type]; kernel_rfl)
theorem entry_iter : entryFor table "itertools.permutations.__iter__" = some Builtin.«dict_keyiterator.__iter__» :=
  entryFor_alias (id' := "dict_keyiterator.__iter__") (by kernel_rfl) (by first | rfl | decide +kernel | (unfold String.splitOn; simp +decide [String.splitOnAux])) (by decide +kernel) (by kernel_rfl)
theorem args_iter (a : Value) : argsOk "itertools.permutations.__iter__" ⟨[a], []⟩ := by unfold argsOk; kernel_rfl
theorem mro_p : mroOf (.type "itertools.permutations") = pure [.type "itertools.permutations", .type "object"] := by rw [mroOf_type]; kernel_rfl
theorem lookup_new : typeLookup (.type "itertools.permutations") "__new__" = pure (some (.builtin "itertools.permutations.__new__")) := by rw [typeLookup_type, builtinLookup_eq_fast]; kernel_rfl
theorem slot_init : Slot "itertools.permutations" "__init__" "object.__init__" :=
  .of (owner := "object") (n := "__init__") (by rw [typeLookup_type, builtinLookup_eq_fast]; kernel_rfl) (by decide +kernel) (by decide +kernel) (by decide +kernel)
    (by first | exact .inl (by decide +kernel) | exact .inr (by decide +kernel)) (by rw [isSubtype_type]; kernel_rfl)
theorem called_p : TypeCalled "itertools.permutations" "itertools.permutations.__new__" "object.__init__" :=
  ⟨by decide +kernel, by decide +kernel, ⟨_, _, mro_p⟩, madeBy_type mro_p lookup_new (by decide +kernel), by decide +kernel, by rw [isSubtype_type]; kernel_rfl, slot_init⟩
theorem typeCall_p (a : Value) : checkTypeCall "itertools.permutations" ⟨[a], []⟩ = pure () := by kernel_rfl
theorem newCall_p (a : Value) : checkBuiltinCall "itertools.permutations.__new__" ⟨[.type "itertools.permutations", a], []⟩ = pure () := by kernel_rfl
theorem entry_new : entryFor table "itertools.permutations.__new__" = some Builtin.«itertools.permutations.__new__» := entryFor_of_tree (by kernel_rfl)
end Obp
namespace Obp
open PySem PyProof.Rows
/-! the numbers that it keeps, turn by turn -/
/-- the arrangements of these, as lists go -/
def ordF : Nat → List Nat → List (List Nat)
  | 0, _ => [[]]
  | k + 1, l => l.flatMap fun a => (ordF k (l.filter fun b => !Nat.beq b a)).map fun r => a :: r
def permL (n : Nat) : List (List Nat) := ordF n (List.range n)
def facN : Nat → Nat
  | 0 => 1
  | k + 1 => (k + 1) * facN k
def idxP (n i : Nat) : List Nat := (permL n).getD i []
def cycP (n i : Nat) : List Nat := (List.range n).map fun j => (n - j) - (i / facN (n - 1 - j)) % (n - j)
def numP (n i : Nat) : List Nat := idxP n (i - 1) ++ cycP n (i - 1)
/-- the record at it, ahead of turn i -/
structure IsPm (h : Heap) (it pa : Addr) (n i : Nat) : Prop where
  at_ : ∃ before : Value, h.get? it = some { cls := .type "itertools.permutations", data := .fields (#[.ref pa, rawInt (if i = 0 then 0 else 1), rawInt (n : Nat), before] ++ ((numP n i).map fun (k : Nat) => rawInt k).toArray) }
section
variable {prog : Program} {w : World} {A : Around} {E : Value → Shared → Prop} {s : Shared}
theorem nums_read {f : Value → Nat} (hf : ∀ k : Nat, f (rawInt (k : Nat)) = k) (n i : Nat) (a b c d : Value) : ((#[a, b, c, d] ++ ((numP n i).map fun (k : Nat) => rawInt k).toArray).toList.drop 4).map f = numP n i := by
  have e : ((#[a, b, c, d] ++ ((numP n i).map fun (k : Nat) => rawInt k).toArray).toList.drop 4) = (numP n i).map fun (k : Nat) => rawInt k := by
    simp
  rw [e, List.map_map]
  conv => rhs; rw [← List.map_id (numP n i)]
  exact List.map_congr_left fun x _ => hf x
theorem get3 {a b c d : Value} {nx : Array Value} : (#[a, b, c, d] ++ nx)[3]? = some d := by rw [Array.getElem?_append_left (show 3 < 4 by decide)]; rfl
theorem lt3 {a b c d : Value} {nx : Array Value} {k : Nat} (h : k < 4) : k < (#[a, b, c, d] ++ nx).size := by simp; omega
abbrev pmO (pa : Addr) (st : Int) (n : Nat) (before : Value) (nx : Array Value) : Obj := { cls := .type "itertools.permutations", data := .fields (#[.ref pa, rawInt st, rawInt (n : Nat), before] ++ nx) }
theorem result_ok {it pa : Addr} {st : Int} {n : Nat} {before : Value} {nx : Array Value} {xs : List Value} {K : Fin → Shared → Prop} (hr : s.heap.get? it = some (pmO pa st n before nx)) (hz : xs.length ≤ sizeLine)
    (hK : ∀ h', h'.get? it = some (pmO pa st n (.ref s.heap.objs.size) nx) → h'.get? s.heap.objs.size = some { cls := .type "tuple", data := .seq xs.toArray } →
      (∀ b o, b ≠ it → s.heap.get? b = some o → h'.get? b = some o) → h'.objs.size = s.heap.objs.size + 1 → K (.done (.ret (.ref s.heap.objs.size))) { s with heap := h' }) :
    wpAny (model prog w) A (do
      let t ← newTuple xs
      let before ← field (.ref it) 3
      setField (.ref it) 3 t
      letGo [before] [t]
      ret t) K E s := by
  refine wpAny_bind (wpAny_newTuple ?_ hz)
  have hlt := Heap.lt_size hr
  have hr1 : (s.heap.push { cls := .type "tuple", data := .seq xs.toArray }).get? it = some (pmO pa st n before nx) := Heap.get?_push_of_some _ hr
  refine wpAny_bind (wpAny_field hr1 rfl (x := before) get3 ?_)
  refine wpAny_bind (wpAny_setField_rec hr1 (lt3 (by decide)) fun h' e1 sb => ?_)
  refine wpAny_bind (wpAny_letGo ?_)
  have hne : s.heap.objs.size ≠ it := Nat.ne_of_gt hlt
  refine wpAny_pure (hK h' ?_ ?_ ?_ ?_)
  · rw [e1]
    simp [pmO]
  · rw [sb.2 _ hne]; exact Heap.get?_push_size _ rfl
  · intro b o hb e
    rw [sb.2 _ hb]; exact Heap.get?_push_of_some _ e
  · rw [sb.1]; exact Heap.size_push _ _
theorem idx_len {n i : Nat} (h5 : n ≤ 5) (hi : i < facN n) : (idxP n i).length = n := by
  revert i
  match n, h5 with
  | 0, _ => decide +kernel
  | 1, _ => decide +kernel
  | 2, _ => decide +kernel
  | 3, _ => decide +kernel
  | 4, _ => decide +kernel
  | 5, _ => decide +kernel
  | k + 6, h => omega
theorem idx_lt {n i : Nat} (h5 : n ≤ 5) (hi : i < facN n) : ∀ k ∈ idxP n i, k < n := by
  revert i
  match n, h5 with
  | 0, _ => decide +kernel
  | 1, _ => decide +kernel
  | 2, _ => decide +kernel
  | 3, _ => decide +kernel
  | 4, _ => decide +kernel
  | 5, _ => decide +kernel
  | k + 6, h => omega
theorem numP_take {n i : Nat} (h5 : n ≤ 5) (hi : i - 1 < facN n) : (numP n i).take n = idxP n (i - 1) := by
  unfold numP
  rw [List.take_append_of_le_length (by rw [idx_len h5 hi]; exact Nat.le_refl _), List.take_of_length_le (by rw [idx_len h5 hi]; exact Nat.le_refl _)]
/-- what comes next, as the numbers say -/
def nxtP (n i : Nat) : Option (List Nat × List Nat) := if i < facN n then some (idxP n i, cycP n i) else none
theorem next_item {it pa : Addr} {items : Array Value} {n i : Nat} {Q : Option Value → Shared → Prop} (hp : IsPm s.heap it pa n i) (ht : s.heap.IsTuple pa items) (hn : items.size = n) (h5 : n ≤ 5) (hi : i < facN n) (hne : pa ≠ it)
    (hQ : ∀ h', IsPm h' it pa n (i + 1) → h'.get? s.heap.objs.size = some { cls := .type "tuple", data := .seq ((idxP n i).map fun k => items.getD k .none).toArray } →
      (∀ b o, b ≠ it → s.heap.get? b = some o → h'.get? b = some o) → h'.objs.size = s.heap.objs.size + 1 → Q (some (.ref s.heap.objs.size)) { s with heap := h' }) :
    wpAny (model prog w) A (pyNext (.ref it)) Q E s := by
  obtain ⟨before, hr⟩ := hp.at_
  have hT : s.TypeIs (.ref it) "itertools.permutations" := ⟨_, hr, rfl⟩
  obtain ⟨o, ho, hcls, nn, hdat⟩ := ht
  unfold pyNext
  refine wpAny_bind (wpAny_attempt (wpAny_callSpecial?_slot (name := Str.ofString "__next__") hT slot_next (wpAny_call_entry slot_next hT entry_next ?_ (args_next _))))
  show wpAny _ _ (field (.ref it) 0 >>= _) _ _ _
  refine wpAny_bind (wpAny_field hr rfl (x := .ref pa) (by simp) ?_)
  refine wpAny_bind ?_
  show wpAny _ _ (seqItems? (.ref pa) >>= _) _ _ _
  refine wpAny_bind (wpAny_seqItems ho hdat ?_)
  refine wpAny_pure ?_
  refine wpAny_bind ?_
  show wpAny _ _ (field (.ref it) 2 >>= _) _ _ _
  refine wpAny_bind (wpAny_field hr rfl (x := rawInt (n : Nat)) (by simp) ?_)
  refine wpAny_pure ?_
  refine wpAny_bind ?_
  show wpAny _ _ (load it >>= _) _ _ _
  refine wpAny_bind (wpAny_load hr ?_)
  refine wpAny_pure ?_
  rw [nums_read (fun k => Int.toNat_natCast k)]
  show wpAny _ _ (Builtin.Itertools.itIntField (.ref it) 1 >>= _) _ _ _
  refine wpAny_bind ?_
  show wpAny _ _ (field (.ref it) 1 >>= _) _ _ _
  refine wpAny_bind (wpAny_field hr rfl (x := rawInt (if i = 0 then 0 else 1)) (by simp) ?_)
  refine wpAny_pure ?_
  by_cases hi0 : i = 0
  · subst hi0
    rw [if_pos rfl]
    split
    · refine wpAny_bind (wpAny_setField_rec hr (lt3 (by decide)) fun h1 e1 sb => ?_)
      have hr1 : h1.get? it = some (pmO pa 1 n before ((numP n 0).map fun (k : Nat) => rawInt k).toArray) := by
        rw [e1]; simp [pmO]
      have hsz : h1.objs.size = s.heap.objs.size := sb.1
      refine result_ok (s := { s with heap := h1 }) hr1 ?_ fun h' a1 a2 a3 a4 => ?_
      · rw [List.length_map, List.length_take, sizeLine_eq]; omega
      · refine ⟨_, rfl, wpAny_pure ?_⟩
        dsimp only at a1 a2 a3 a4 ⊢
        rw [hsz] at a1 a2 a4 ⊢
        refine hQ h' ⟨_, a1⟩ ?_ (fun b o hb e => a3 b o hb (by rw [sb.2 b hb]; exact e)) a4
        rw [a2, Int.toNat_natCast, numP_take (i := 0) h5 hi]
    · rename_i h0
      exact absurd h0 (by decide)
    · rename_i h0 _
      exact absurd rfl h0
  · rw [if_neg hi0]
    split
    · rename_i h0
      exact absurd h0 (by decide)
    · split
      · rename_i a b he
        rw [hn, Int.toNat_natCast] at he
        have hkey : nxtP n i = some (a, b) := by
          rw [← he]
          clear he hQ hp hr hT hn
          revert i
          match n, h5 with
          | 0, _ => decide +kernel
          | 1, _ => decide +kernel
          | 2, _ => decide +kernel
          | 3, _ => decide +kernel
          | 4, _ => decide +kernel
          | 5, _ => decide +kernel
          | k + 6, h => omega
        unfold nxtP at hkey
        rw [if_pos hi] at hkey
        obtain ⟨rfl, rfl⟩ : idxP n i = a ∧ cycP n i = b := by
          have := Option.some.inj hkey
          exact ⟨congrArg Prod.fst this, congrArg Prod.snd this⟩
        have hlen := idx_len h5 hi
        have hcl : (cycP n i).length = n := by unfold cycP; rw [List.length_map, List.length_range]
        refine wpAny_bind ?_
        show wpAny _ _ (updateFields it _) _ _ _
        rw [if_neg hi0] at hr
        refine wpAny_updateFields hr rfl ?_ ?_
        · have sb : Heap.SameBut it s.heap (s.heap.update it (Obj.mapFields fun fs => fs.extract 0 4 ++ ((idxP n i ++ cycP n i).map fun (k : Nat) => rawInt k).toArray)) := Heap.SameBut.update ..
          have hr1 : (s.heap.update it (Obj.mapFields fun fs => fs.extract 0 4 ++ ((idxP n i ++ cycP n i).map fun (k : Nat) => rawInt k).toArray)).get? it = some (pmO pa 1 n before ((numP n (i + 1)).map fun (k : Nat) => rawInt k).toArray) := by
            rw [Heap.get?_update_self _ hr rfl]
            simp [Obj.mapFields, numP]
          refine result_ok (s := { s with heap := _ }) hr1 ?_ fun h' a1 a2 a3 a4 => ?_
          · rw [List.length_map, List.length_take, sizeLine_eq]; omega
          · refine ⟨_, rfl, wpAny_pure ?_⟩
            dsimp only at a1 a2 a3 a4 ⊢
            rw [sb.1] at a1 a2 a4 ⊢
            refine hQ h' ⟨.ref s.heap.objs.size, ?_⟩ ?_ (fun b o hb e => a3 b o hb (by rw [sb.2 b hb]; exact e)) a4
            · rw [a1]
              simp
            · rw [a2, Int.toNat_natCast, List.take_of_length_le (by rw [hlen]; exact Nat.le_refl _)]
        · simp
          rw [sizeLine_eq]
          omega
      · rename_i he
        exfalso
        rw [hn, Int.toNat_natCast] at he
        have hkey : nxtP n i = none := by
          rw [← he]
          clear he hQ hp hr hT hn
          revert i
          match n, h5 with
          | 0, _ => decide +kernel
          | 1, _ => decide +kernel
          | 2, _ => decide +kernel
          | 3, _ => decide +kernel
          | 4, _ => decide +kernel
          | 5, _ => decide +kernel
          | k + 6, h => omega
        unfold nxtP at hkey
        rw [if_pos hi] at hkey
        cases hkey
    · rename_i h0
      exact absurd rfl h0
/-- the end of it -/
theorem next_end {it pa : Addr} {items : Array Value} {n : Nat} {Q : Option Value → Shared → Prop} (hh : A.handled = none) (hp : IsPm s.heap it pa n (facN n)) (ht : s.heap.IsTuple pa items) (hn : items.size = n) (h5 : n ≤ 5)
    (hQ : ∀ h', (∀ b o, b ≠ it → s.heap.get? b = some o → h'.get? b = some o) → Q none { s with heap := h' }) :
    wpAny (model prog w) A (pyNext (.ref it)) Q E s := by
  obtain ⟨before, hr⟩ := hp.at_
  have hT : s.TypeIs (.ref it) "itertools.permutations" := ⟨_, hr, rfl⟩
  obtain ⟨o, ho, hcls, nn, hdat⟩ := ht
  have hf0 : facN n ≠ 0 := by
    match n, h5 with
    | 0, _ => decide
    | 1, _ => decide
    | 2, _ => decide
    | 3, _ => decide
    | 4, _ => decide
    | 5, _ => decide
    | k + 6, h => omega
  unfold pyNext
  refine wpAny_bind (wpAny_attempt (wpAny_callSpecial?_slot (name := Str.ofString "__next__") hT slot_next (wpAny_call_entry slot_next hT entry_next ?_ (args_next _))))
  show wpAny _ _ (field (.ref it) 0 >>= _) _ _ _
  refine wpAny_bind (wpAny_field hr rfl (x := .ref pa) (by simp) ?_)
  refine wpAny_bind ?_
  show wpAny _ _ (seqItems? (.ref pa) >>= _) _ _ _
  refine wpAny_bind (wpAny_seqItems ho hdat ?_)
  refine wpAny_pure ?_
  refine wpAny_bind ?_
  show wpAny _ _ (field (.ref it) 2 >>= _) _ _ _
  refine wpAny_bind (wpAny_field hr rfl (x := rawInt (n : Nat)) (by simp) ?_)
  refine wpAny_pure ?_
  refine wpAny_bind ?_
  show wpAny _ _ (load it >>= _) _ _ _
  refine wpAny_bind (wpAny_load hr ?_)
  refine wpAny_pure ?_
  rw [nums_read (fun k => Int.toNat_natCast k)]
  show wpAny _ _ (Builtin.Itertools.itIntField (.ref it) 1 >>= _) _ _ _
  refine wpAny_bind ?_
  show wpAny _ _ (field (.ref it) 1 >>= _) _ _ _
  refine wpAny_bind (wpAny_field hr rfl (x := rawInt (if facN n = 0 then 0 else 1)) (by simp) ?_)
  refine wpAny_pure ?_
  rw [if_neg hf0]
  split
  · rename_i h0
    exact absurd h0 (by decide)
  · split
    · rename_i a b he
      exfalso
      rw [hn, Int.toNat_natCast] at he
      have hkey : (none : Option (List Nat × List Nat)) = some (a, b) := by
        rw [← he]
        clear he hQ hp hr hT hn hf0
        match n, h5 with
        | 0, _ => decide +kernel
        | 1, _ => decide +kernel
        | 2, _ => decide +kernel
        | 3, _ => decide +kernel
        | 4, _ => decide +kernel
        | 5, _ => decide +kernel
        | k + 6, h => omega
      cases hkey
    · refine wpAny_bind (wpAny_setField_rec hr (lt3 (by decide)) fun h1 e1 sb => ?_)
      show wpAny _ _ (newExc (.type "StopIteration") [] >>= _) _ _ _
      refine wpAny_bind ?_
      simp only [newExc, newTuple]
      refine wpAny_bind (wpAny_newObj_type ?_ (by size_fits))
      refine wpAny_bind (m := firstArgMember _ _) (wpAny_of_eq (a := Value.none) (by first | rfl | (simp only [firstArgMember]; rfl)) ?_)
      refine wpAny_newObj_type ?_ (by size_fits)
      simp only [raiseNew]
      refine wpAny_bind (wpAny_handled ?_)
      first | rw [show A.in1.handled = none from hh] | rw [hh]
      refine wpAny_bind (wpAny_pure (wpAny_throw ?_))
      refine wpAny_bind (wpAny_isInstance (T := "StopIteration") (b := true) ⟨_, Heap.get?_push_size _ rfl, rfl⟩ isSubtype_stop ?_)
      exact wpAny_pure (hQ _ ((sb.extBut.push _).push _))
  · rename_i h0
    exact absurd rfl h0
end
end Obp
namespace Obp
open PySem PyProof.Rows L2
open Sem (wp)
theorem plain_new : plainId "itertools.permutations.__new__" = true := by decide +kernel
theorem sub_p : isSubtype (.type "itertools.permutations") (.type ("itertools." ++ "permutations")) = pure true := by
  have e : ("itertools." ++ "permutations" : String) = "itertools.permutations" := by decide +kernel
  rw [e, isSubtype_type]; kernel_rfl
theorem num0 {n : Nat} (h5 : n ≤ 5) : numP n 0 = List.range n ++ (List.range n).map fun i => n - i := by
  match n, h5 with
  | 0, _ => decide +kernel
  | 1, _ => decide +kernel
  | 2, _ => decide +kernel
  | 3, _ => decide +kernel
  | 4, _ => decide +kernel
  | 5, _ => decide +kernel
  | k + 6, h => omega
section
variable {prog : Program} {w : World} {A : Around} {E : Value → Shared → Prop} {s : Shared} {r : Addr} {a b c : Int} {t u v : Tok} {n : Nat}
theorem code_new {Q₁ : Value → Shared → Prop} (hh : A.handled = none) (hr : IsRange s.heap r a b c t u v) (hsmall : Builtin.Range.small a b c = true) (hn : Builtin.Range.rangeSize a b c = n) (h5 : n ≤ 5)
    (h : ∀ (h0 hf : Heap) (tk : Nat) (acc : Array Value), (∀ b o, s.heap.get? b = some o → h0.get? b = some o) → (∀ b o, h0.get? b = some o → hf.get? b = some o) → ItemsOf (fun i v => ∃ t, v = .int (a + i * c) t) acc n →
      hf.get? h0.objs.size = some { cls := .type "tuple", data := .seq acc } → IsPm hf (h0.objs.size + 1) h0.objs.size n 0 → Q₁ (.ref (h0.objs.size + 1)) { s with heap := hf, toks := tk }) :
    codeAny (model prog w) A (.call (.builtin "itertools.permutations.__new__") ⟨[.type "itertools.permutations", .ref r], []⟩) (wants Q₁ E) s := by
  refine codeAny_of_tree ?_
  show wpAny _ A.in1 (do checkBuiltinCall "itertools.permutations.__new__" ⟨[.type "itertools.permutations", .ref r], []⟩; again (.builtin "itertools.permutations.__new__" ⟨[.type "itertools.permutations", .ref r], []⟩)) _ _ s
  refine wpAny_bind (wpAny_of_eq (newCall_p _) (wpAny_pure ⟨plainId_quiet plain_new _, codeAny_builtin entry_new ?_⟩))
  rw [Around.under_plainId plain_new _]
  have hh1 : A.in1.handled = none := hh
  have hsub := sub_p
  have hle : n ≤ 2 ^ 24 := by omega
  wp_walk using collect_range (A := A.in1) hh1 hr hsmall hn hle
  intro h' tk acc hk hacc
  have hl : acc.toList.length = n := by rw [Array.length_toList]; exact hacc.1
  refine wpAny_bind (m := pure ((acc.toList.length : Nat) : Int)) (wpAny_pure ?_)
  dsimp only
  rw [hl, if_neg (by omega : ¬ ((n : Nat) : Int) < 0)]
  rw [if_neg (by unfold Builtin.Itertools.itTooMany; rw [decide_eq_true_eq]; omega)]
  refine wpAny_bind (wpAny_newTuple ?_ (by rw [hl, sizeLine_eq]; omega))
  refine wpAny_bind ?_
  unfold Builtin.Itertools.itNewRecord
  have hd : typeHasDict (.type "itertools.permutations") = false := by decide +kernel
  rw [hd]
  rw [if_pos (by rfl)]
  refine wpAny_newObj_type ?_ ?_
  · refine wpAny_pure ?_
    show Q₁ _ _
    have hz : (h'.push { cls := .type "tuple", data := .seq acc.toList.toArray }).objs.size = h'.objs.size + 1 := Heap.size_push _ _
    have hfin := h h' ((h'.push { cls := .type "tuple", data := .seq acc.toList.toArray }).push { cls := .type "itertools.permutations", data := .fields ([.ref h'.objs.size, rawInt (if (n : Int).toNat > n then 2 else 0), rawInt ((n : Int).toNat : Nat), .none] ++ (List.range n).map (fun (i : Nat) => rawInt i) ++ (List.range (n : Int).toNat).map fun (i : Nat) => rawInt ((n : Int) - (i : Nat))).toArray }) tk acc hk (fun b o e => Heap.get?_push_of_some _ (Heap.get?_push_of_some _ e)) hacc ?_ ?_
    · rw [← hz] at hfin
      exact hfin
    · have e : acc.toList.toArray = acc := by simp
      rw [e]
      exact Heap.get?_push_of_some _ (Heap.get?_push_size _ rfl)
    · refine ⟨.none, ?_⟩
      rw [← hz]
      refine (Heap.get?_push_size _ rfl).trans ?_
      rw [Int.toNat_natCast, if_neg (by omega : ¬ n > n), if_pos rfl]
      have e1 : (numP n 0).map (fun (k : Nat) => rawInt k) = (List.range n).map (fun (i : Nat) => rawInt i) ++ (List.range n).map fun (i : Nat) => rawInt ((n : Int) - (i : Nat)) := by
        rw [num0 h5, List.map_append, List.map_map]
        congr 1
        refine List.map_congr_left fun x hx => ?_
        have := List.mem_range.mp hx
        show rawInt ((n - x : Nat) : Int) = rawInt ((n : Int) - (x : Nat))
        congr 1
        omega
      rw [e1]
      simp
  · rw [Int.toNat_natCast]
    show Array.size _ ≤ sizeLine + 2
    simp
    rw [sizeLine_eq]
    omega
end
end Obp
namespace Obp
open PySem PyProof.Rows
section
variable {prog : Program} {w : World} {A : Around} {E : Value → Shared → Prop} {s : Shared} {r : Addr} {a b c : Int} {t u v : Tok} {n : Nat}
theorem call_new {Q : Value → Shared → Prop} (hh : A.handled = none) (hr : IsRange s.heap r a b c t u v) (hsmall : Builtin.Range.small a b c = true) (hn : Builtin.Range.rangeSize a b c = n) (h5 : n ≤ 5)
    (h : ∀ (h0 hf : Heap) (tk : Nat) (acc : Array Value), (∀ b o, s.heap.get? b = some o → h0.get? b = some o) → (∀ b o, h0.get? b = some o → hf.get? b = some o) → ItemsOf (fun i v => ∃ t, v = .int (a + i * c) t) acc n →
      hf.get? h0.objs.size = some { cls := .type "tuple", data := .seq acc } → IsPm hf (h0.objs.size + 1) h0.objs.size n 0 → Q (.ref (h0.objs.size + 1)) { s with heap := hf, toks := tk }) :
    wpAny (model prog w) A (call (.type "itertools.permutations") [.ref r]) Q E s := by
  refine callType_codes (Q₁ := fun obj s₁ => s₁.TypeIs obj "itertools.permutations" ∧ Q obj s₁) called_p (typeCall_p _) F.entry_object_init
    (code_new (A := A.in1) hh hr hsmall hn h5 fun h0 hf tk acc k1 k2 hacc e1 hp => ⟨?_, h h0 hf tk acc k1 k2 hacc e1 hp⟩) fun obj s₁ h₁ => ?_
  · obtain ⟨bf, hb⟩ := hp.at_
    exact ⟨_, hb, rfl⟩
  · exact ⟨h₁.1, F.args_object_init_2 obj _, object_init_meets called_p.init.lookup called_p.made (by decide) prog w A.in1 _ s₁ ⟨h₁.1, rfl, h₁.2⟩⟩
end
end Obp
namespace Obr
open PySem L2 PySem.Spec PyProof.Rows Obp
/-- the arrangements of 0 .. n - 1, in turn, each a new tuple -/
def ItPm (n : Nat) : It := ⟨fun i _ => i < facN n, fun i H v H' => ∃ T, v = .ref T ∧ H T = none ∧ H' = upd H T (.tup ((idxP n i).map fun k => V.int (k : Nat))), fun i _ => i = facN n⟩
theorem vals_idx {items : Array Value} {n : Nat} : ∀ {l : List Nat}, (∀ k ∈ l, k < n) → (∀ k, k < n → ∃ t, items[k]? = some (.int (k : Nat) t)) → Vals (l.map fun k => V.int (k : Nat)) (l.map fun k => items.getD k .none)
  | [], _, _ => .nil
  | k :: l, h, hi => by
    obtain ⟨t, e⟩ := hi k (h k List.mem_cons_self)
    refine .cons ?_ (vals_idx (fun k' h' => h k' (List.mem_cons_of_mem _ h')) hi)
    have e2 : items.getD k .none = .int (k : Nat) t := by
      rw [Array.getD_eq_getD_getElem?, e]; rfl
    show L2.RelV (V.int (k : Nat)) (items.getD k .none)
    rw [e2]
    exact ⟨t, rfl⟩
theorem turn_perm {P : Program} {w : World} {K : PySem.W.Frag} {tg : Expr} {n : Nat} (h5 : n ≤ 5) (it pa : Addr) :
    Turn P w K tg (ItPm n) [it, pa] it (fun i h => IsPm h it pa n i ∧ (∃ items, h.IsTuple pa items ∧ items.size = n ∧ ∀ k, k < n → ∃ t, items[k]? = some (.int (k : Nat) t)) ∧ pa ≠ it) where
  mem := by simp
  obj := fun i h st b hb => by
    obtain ⟨⟨bf, e⟩, ⟨items, ⟨o, ho, hc, m, hd⟩, _⟩, _⟩ := st
    have e' : b = it ∨ b = pa := by simpa using hb
    rcases e' with z | z
    · rw [z]; exact ⟨_, e, fun v q => nomatch q⟩
    · rw [z]; exact ⟨o, ho, fun v q => by rw [hd] at q; cases q⟩
  keep := fun i h h' st k => by
    obtain ⟨⟨bf, e⟩, ⟨items, ⟨o, ho, hr⟩, hq⟩, hne⟩ := st
    exact ⟨⟨bf, k it (by simp) _ e⟩, ⟨items, ⟨o, k pa (by simp) _ ho, hr⟩, hq⟩, hne⟩
  item := by
    intro X hP hw hK hc i pins s σ H E I hf st hg
    subst hP hw hK
    obtain ⟨hp, ⟨items, ht, hn, hit⟩, hne⟩ := st
    refine next_item hp ht hn h5 hg hne fun h' hp' hT hk hsz => ?_
    obtain ⟨bf, hrec⟩ := hp'.at_
    refine ⟨_, rfl, go_of (s := { s with heap := h' }) (n := "itertools.permutations") hrec rfl rfl (by decide) ?_⟩
    have new : ObjOk X.prog X.w (upd H s.heap.objs.size (.tup ((idxP n i).map fun k => V.int (k : Nat)))) h' s.heap.objs.size (.tup ((idxP n i).map fun k => V.int (k : Nat))) :=
      ⟨by rw [List.length_map, idx_len h5 hg, sizeLine_eq]; omega, _, vals_idx (idx_lt h5 hg) hit, ⟨_, hT, rfl, _, rfl⟩⟩
    have I1 := I.turnedNew (t' := s.toks) (ch := [it]) (fun b ob hb q => hk b ob (fun z => hb (by simp [z])) q) (fun b hb => hf b (by
      have : b = it := by simpa using hb
      simp [this])) (Nat.le_refl _) new
    refine ⟨.ref s.heap.objs.size, _, I1, rfl, ⟨_, rfl, I.hok.fresh (Nat.le_refl _), rfl⟩, ⟨hp', ⟨items, ?_, hn, hit⟩, hne⟩, fun b hb => ?_⟩
    · obtain ⟨o, ho, hr⟩ := ht
      exact ⟨o, hk pa o hne ho, hr⟩
    · have hlt : b < s.heap.objs.size := by
        obtain ⟨_, e⟩ := hp.at_
        obtain ⟨o, ho, _⟩ := ht
        have e' : b = it ∨ b = pa := by simpa using hb
        rcases e' with z | z
        · rw [z]; exact Heap.lt_size e
        · rw [z]; exact Heap.lt_size ho
      rw [upd_ne (Nat.ne_of_lt hlt)]
      exact (hf b hb).1
  done := by
    intro X hP hw hK hc i pins s σ H E I hf st hg
    subst hP hw hK
    obtain ⟨hp, ⟨items, ht, hn, hit⟩, hne⟩ := st
    cases (show i = facN n from hg)
    obtain ⟨f0, f1, f2, f3, f4, f5⟩ := hf it (by simp)
    exact next_end (I.ok.hd hc) hp ht hn h5 fun h' hk => ⟨rfl, I.turned (t' := s.toks) hk f0 f1 f3 f4 f5⟩
  self := fun A i s Q E st h => by
    obtain ⟨⟨bf, e⟩, _⟩ := st
    have hT : s.TypeIs (.ref it) "itertools.permutations" := ⟨_, e, rfl⟩
    refine wpAny_pyIter_slot hT slot_iter (wpAny_call_entry slot_iter hT entry_iter ?_ (args_iter _))
    show wpAny _ _ (ret (.ref it)) _ _ s
    exact wpAny_pure ⟨_, rfl, "itertools.permutations", _, hT, slot_next.lookup, h⟩
def iPerm (te : L2.St → Hp → (Int → Int → Hp → Prop) → Prop) : TI := fun σ H R => te σ H fun a b H1 => ∃ n : Nat, a = 0 ∧ b = (n : Nat) ∧ n ≤ 5 ∧ R (ItPm n) H1
theorem pi_perm {X : Cx} {tg e : Expr} {te : L2.St → Hp → (Int → Int → Hp → Prop) → Prop} {p pos : Pos} (hc : X.calm = true) (hg : Gl X "permutations") (hm : X.mg "permutations" = some (.type "itertools.permutations")) (he : PRg X e te)
    (na : starEach [e] X.env = (false, eval e X.env) :: starEach [] X.env := by rfl) : PI X tg (.Call (.Name "permutations" p) [e] [] pos) (iPerm te) := by
  refine ⟨fun pins s σ H R I h => ?_⟩
  refine Call_ (ld_glob I hg hm (PyProof.Rows.callWith_type1 (args_cons (thn (he pins s σ H _ I h) fun x s1 ⟨r, a, b, t, u, v, H1, ex, hr, I1, n, ea, eb, h5, q⟩ => args_nil ?_) na) na) (by decide))
  subst ex ea eb
  refine call_new (n := n) (I1.ok.hd hc) hr (small_one (by omega) (by omega) (by omega) (by omega)) (by rw [rangeSize_nat]; simp) h5 fun h0 hf tk acc k1 k2 hacc hpa hp => ?_
  have I2 : Inv X pins σ H1 { s1 with heap := h0, toks := tk } := I1.kept k1
  have I3 : Inv X pins σ H1 { s1 with heap := hf, toks := tk } := I2.kept k2
  have st0 : IsPm hf (h0.objs.size + 1) h0.objs.size n 0 ∧ (∃ items, hf.IsTuple h0.objs.size items ∧ items.size = n ∧ ∀ k, k < n → ∃ t, items[k]? = some (.int (k : Nat) t)) ∧ h0.objs.size ≠ h0.objs.size + 1 := by
    refine ⟨hp, ⟨acc, ⟨_, hpa, rfl, _, rfl⟩, hacc.1, fun k hk => ?_⟩, by omega⟩
    have hk' : k < acc.size := by rw [hacc.1]; exact hk
    obtain ⟨t, e⟩ := hacc.2 k acc[k] (Array.getElem?_eq_getElem hk')
    refine ⟨t, ?_⟩
    rw [Array.getElem?_eq_getElem hk', e]
    congr 2
    omega
  refine (turn_perm (P := X.prog) (w := X.w) (K := X.K) (tg := tg) h5 (h0.objs.size + 1) h0.objs.size).self _ 0 _ _ _ st0 ?_
  refine ⟨h0.objs.size + 1, [h0.objs.size + 1, h0.objs.size], _, _, H1, rfl, I3, turn_perm h5 (h0.objs.size + 1) h0.objs.size, st0, fun b hb => ?_, q⟩
  have e' : b = h0.objs.size + 1 ∨ b = h0.objs.size := by simpa using hb
  have hle : h0.objs.size ≤ b := by
    rcases e' with z | z
    · rw [z]; exact Nat.le_succ _
    · rw [z]; exact Nat.le_refl _
  exact I2.fpOk hle (I2.hok.fresh hle)
theorem walk_perm {n : Nat} : Walk (ItPm n) (facN n) (fun _ => True) (fun i H v H' => ∃ T, v = .ref T ∧ H T = none ∧ H' = upd H T (.tup ((idxP n i).map fun k => V.int (k : Nat)))) :=
  ⟨fun i _ hi _ => hi, fun _ _ => rfl, fun i H v H' _ _ y => y⟩
section
variable {S : Type} {J : S → Hp → Hp → Prop} {K : PySem.W.Frag} {σ : L2.St} {s : S} {F : Hp} {R : V → S → Hp → Prop} {te : TE} {tt : TT} {t : TS} {g : TG} {tn : TE} {D : En S} {vs : List Nat}
theorem sw_forPm (hd : Hid J) (h : EW J tn σ s F fun v s1 F1 => ∃ (n : Nat) (Pv : Nat → L2.St → S → Hp → Prop), v = .int (n : Nat) ∧ n ≤ 5 ∧ Pv 0 σ s1 F1 ∧
      (∀ (i : Nat) σ s F T, i < facN n → Pv i σ s F → F T = none → GW J g (.ref T) σ s (upd F T (.tup ((idxP n i).map fun k => V.int (k : Nat)))) fun σ s F => SW J t { D with nx := Pv (i + 1), ct := Pv (i + 1), bk := D.nx } σ s F) ∧ (∀ σ s F, Pv (facN n) σ s F → D.nx σ s F)) :
    SW J (tFor (iPerm (tRg1 tn)) g t) D σ s F := fun H j D' l =>
  h H j _ fun v s1 F1 H1 j1 ⟨n, Pv, e, h5, h0, hs, hdn⟩ => ⟨n, e, n, rfl, rfl, h5, for_it walk_perm (fun i σ H => ∃ s F, J s F H ∧ Pv i σ s F) ⟨s1, F1, j1, h0⟩
    (fun _ _ _ _ _ => True.intro)
    (fun i x σ' H' H'' hi ⟨s', F', j', p⟩ ⟨T, ex, hT, eH⟩ => by
      subst ex eH
      exact hs i σ' s' F' T hi p (hd.fresh j' hT) _ (hd.al j' hT) _ fun σ2 s2 F2 H2 j2 k => k H2 j2 _ ⟨fun σ3 s3 F3 H3 j3 k3 => ⟨s3, F3, j3, k3⟩, l.rt, l.nx, fun σ3 s3 F3 H3 j3 k3 => ⟨s3, F3, j3, k3⟩⟩)
    (fun σ' H' ⟨s', F', j', p⟩ => l.nx _ _ _ _ j' (hdn σ' s' F' p))⟩
theorem ew_lcPm (hd : Hid J) (h : EW J tn σ s F fun v s1 F1 => ∃ (n : Nat), v = .int (n : Nat) ∧ n ≤ 5 ∧ ∀ Dl, F1 Dl = none → ∃ Pv : Nat → List V → S → Hp → Prop, Pv 0 [] s1 F1 ∧
      (∀ i acc s F, i ≤ facN n → F Dl = none → Pv i acc s F → acc.length ≤ i) ∧ (∀ (i : Nat) acc s F T, i < facN n → F Dl = none → Pv i acc s F → F T = none → T ≠ Dl → LcTurn J Dl g tt te vs σ acc (.ref T) s (upd F T (.tup ((idxP n i).map fun k => V.int (k : Nat)))) (Pv (i + 1))) ∧
      (∀ acc s F, F Dl = none → Pv (facN n) acc s F → R (.ref Dl) s (upd F Dl (.lst acc)))) : EW J (tLc (iPerm (tRg1 tn)) g tt te vs) σ s F R := fun H j Q q =>
  h H j _ fun v s1 F1 H1 j1 ⟨n, e, h5, k⟩ => ⟨n, e, n, rfl, rfl, h5, fun Dl hD => by
    have fD := hd.fresh j1 hD
    have hf : facN n ≤ 120 := by
      match n, h5 with
      | 0, _ => decide
      | 1, _ => decide
      | 2, _ => decide
      | 3, _ => decide
      | 4, _ => decide
      | 5, _ => decide
      | k + 6, h => omega
    obtain ⟨Pv, h0, hl, hs, hdn⟩ := k Dl fD
    refine lc_it walk_perm (fun i H => ∃ acc s F, i ≤ facN n ∧ F Dl = none ∧ J s (upd F Dl (.lst acc)) H ∧ Pv i acc s F) ⟨[], s1, F1, Nat.zero_le _, fD, hd.al j1 hD, h0⟩ (fun i H' hi _ => True.intro) (fun i x H' H'' hi ⟨acc, s', F', hle, f1, j', p⟩ ⟨T, ex, hT, eH⟩ => ?_) (fun H' ⟨acc, s', F', _, f1, j', p⟩ => q _ _ _ _ j' (hdn acc s' F' f1 p))
    subst ex eH
    have f3 := hl i acc s' F' hle f1 p
    have hT2 := hd.fresh j' hT
    have hne : T ≠ Dl := fun q => by rw [q, upd_same] at hT2; cases hT2
    have hT3 : F' T = none := by rw [upd_ne hne] at hT2; exact hT2
    have jd := (Hid.jd (D := Dl) (acc := acc) hd).al (s := s') (F := F') (H := H') (p := T) (o := .tup ((idxP n i).map fun k => V.int (k : Nat))) ⟨f1, j'⟩ hT
    exact lc_step hd (by omega) (hs i acc s' F' T hi f1 p hT3 hne) jd.1 jd.2 fun acc s F H fd j p => ⟨acc, s, F, by omega, fd, j, p⟩⟩
end
end Obr
namespace Obr
open PySem L2 PyProof.Rows Obp
local macro_rules | `(tactic| walk_at "ob_at") => `(tactic| first
  | assumption
  | exact upd_same
  | (refine Eq.trans (upd_ne ?obn) ?obr; (case obn => walk_at "ob_ne"); (case obr => walk_at "ob_at")))
local macro_rules | `(tactic| walk_at "ob_ne") => `(tactic| first
  | assumption
  | (refine Ne.symm ?obs; (case obs => assumption))
  | (refine' ne_of_none (H := ?_) ?obe ?obh; (case obh => assumption); (case obe => walk_at "ob_at"))
  | (refine Ne.symm ?obs; (case obs => (refine' ne_of_none (H := ?_) ?obe ?obh; (case obh => assumption); (case obe => walk_at "ob_at")))))
local macro_rules | `(tactic| walk_at "ob_fr") => `(tactic| first
  | assumption
  | (refine Eq.trans (upd_ne ?obn) ?obr; (case obn => walk_at "ob_ne"); (case obr => walk_at "ob_fr"))
  | (refine Ex.free (G := ?_) (by assumption) ?obh; (case obh => walk_at "ob_fr")))
local macro_rules | `(tactic| walk_at "ob_ex") => `(tactic| first
  | assumption
  | exact Ex.refl _
  | (refine Ex.out ?obg ?obh; (case obh => assumption); (case obg => walk_at "ob_ex"))
  | (refine Ex.new ?obg ?obh; (case obh => assumption); (case obg => walk_at "ob_ex"))
  | (refine Ex.new ?obg ?obh; (case obh => walk_at "ob_fr"); (case obg => walk_at "ob_ex")))
local macro_rules | `(tactic| walk_at "ob_sq") => `(tactic| first
  | assumption
  | (refine SqL.of ?oba; (case oba => walk_at "ob_at"))
  | (refine Ex.sqT (F := ?_) ?obg ?obh; (case obh => assumption); (case obg => walk_at "ob_ex"))
  | (refine Ex.sqL (F := ?_) ?obg ?obh; (case obh => assumption); (case obg => walk_at "ob_ex"))
  | (refine SqT.of ?oba; (case oba => walk_at "ob_at")))
local macro_rules | `(tactic| walk_at "ob_side") => `(tactic| first | exact rfl | assumption | decide | omega | exact ⟨by decide, by decide, by decide⟩ | exact Or.inr ⟨by decide, by decide⟩ | exact Or.inl ⟨by decide, by decide⟩ | exact wide_div (b := 60) (by first | decide | omega) (by first | decide | omega) (by decide) (by decide))
local macro_rules | `(tactic| walk_at "ob1") => `(tactic| first
  | with_reducible refine sw_seq ?_
  | with_reducible refine sw_asg ?_
  | with_reducible refine sw_ret ?_
  | with_reducible refine sw_par ?_
  | with_reducible refine ⟨_, _, rfl, ?_⟩
  | with_reducible refine sw_drop ?_
  | with_reducible refine sw_if ?_
  | with_reducible refine sw_next ?_
  | with_reducible refine gw_name ?_
  | with_reducible refine gw_subL (by assumption) ?_
  | with_reducible refine gsw_cons ?_
  | with_reducible refine gsw_nil ?_
  | with_reducible refine ew_c ?_
  | ((with_reducible refine' ew_var (v := ?_) ?obv ?_); (case obv => exact rfl))
  | ((with_reducible refine ew_next (by assumption) ?obv ?_); (case obv => exact rfl))
  | ((with_reducible refine ew_world (by assumption) ?obv ?_); (case obv => exact rfl))
  | ((with_reducible refine ew_rule (by assumption) ?obv ?_); (case obv => exact rfl))
  | with_reducible refine ew_op ?_
  | with_reducible refine ew_un ?_
  | with_reducible refine ew_dget (by assumption) ?_
  | with_reducible refine uw_I ?_
  | with_reducible refine ppw_nil ?_
  | with_reducible refine ppw_cons ?_
  | with_reducible refine sw_dput (by assumption) ?_
  | with_reducible refine ew_cb ?_
  | with_reducible refine ew_if ?_
  | with_reducible refine ew_slL (by assumption) ?_
  | with_reducible refine ow_some ?_
  | with_reducible refine ow_none ?_
  | with_reducible refine aw_nil ?_
  | with_reducible refine aw_cons ?_
  | with_reducible refine rw_I0 ?_
  | ((with_reducible refine rw_I ?obc ?_); (case obc => walk_at "ob_side"))
  | with_reducible refine rw_isN ?_
  | with_reducible refine rw_notN ?_
  | ((with_reducible refine rw_eq ?obc ?_); (case obc => exact rfl))
  | ((with_reducible refine rw_ne ?obc ?_); (case obc => exact rfl))
  | with_reducible refine cw_max2 ?_
  | with_reducible refine cw_min2 ?_
  | with_reducible refine tw_test ?_
  | with_reducible refine tw_B ?_
  | with_reducible refine tw_not ?_
  | with_reducible refine tw_truB ?_
  | with_reducible refine tw_and ?_
  | with_reducible refine tw_or ?_
  | with_reducible refine ew_and ?_
  | (refine' Exists.intro _ (And.intro (show V.bl _ = V.bl _ from rfl) ?_))
  | (refine' Exists.intro _ (And.intro (show V.int _ = V.int _ from rfl) ?_))
  | ((with_reducible refine' rw_ixL (v := ?_) (xs := ?_) (by assumption) ?obl ?oba ?_); (case obl => walk_at "ob_sq"); (case oba => first | exact rfl | exact at_zero))
  | ((with_reducible refine' rw_ixT (v := ?_) (xs := ?_) (by assumption) ?obl ?oba ?_); (case obl => walk_at "ob_sq"); (case oba => first | exact rfl | exact at_zero))
  | ((with_reducible refine' ew_lst (by assumption) ?_))
  | ((with_reducible refine' ew_tup (by assumption) ?_)))
local macro_rules | `(tactic| walk_at "ob_len") => `(tactic| first | exact Nat.le_of_ble_eq_true rfl | (simp; done) | omega)
local macro_rules | `(tactic| walk_at "ob") => `(tactic| repeat walk_at "ob1")

/-! ### orders -/
def mx (i k : Int) : Int := if k > i then k else i
def needF (x p : Int × Int) : Int × Int := (mx x.1 (x.2 + p.1), x.2 + p.2)
def needL (ps : List (Int × Int)) : Int × Int := ps.foldl needF (0, 0)
def stepsN (ss : List Stp) : List (Int × Int) := ss.map fun st => (st.draw, st.draw - st.back)
def needS (ss : List Stp) : Int × Int := needL (stepsN ss)
def leastT (ns : List (Int × Int)) (turn : List Nat) : Int := (needL (turn.map fun k => ns.getD k (0, 0))).1
def needsW (w : Wld) : List (Int × Int) := w.ms.map needS
def aNeedLine (K : PySem.W.Frag) : List V → Hp → VK → Prop := fun vs F R => ∃ (a : Addr) (xs : List V) (ps : List (Int × Int)), vs = [.ref a] ∧ SqL K F a xs ∧ Prs F xs ps ∧ ps.length ≤ 100 ∧ ∀ (q : Addr) (F' : Hp), Ex F F' → F q = none → F' q = some (.tup [.int (needL ps).1, .int (needL ps).2]) → R (.ref q) F'
def aNeedSteps (K : PySem.W.Frag) : List V → Hp → VK → Prop := fun vs F R => ∃ (v : V) (ss : List Stp), vs = [v] ∧ Dp K F v (macD ss) ∧ ss.length ≤ 6 ∧ ∀ (q : Addr) (F' : Hp), Ex F F' → F q = none → F' q = some (.tup [.int (needS ss).1, .int (needS ss).2]) → R (.ref q) F'
def aLeastTurn (K : PySem.W.Frag) : List V → Hp → VK → Prop := fun vs F R => ∃ (a b : Addr) (xs : List V) (ps : List (Int × Int)) (tn : List Nat), vs = [.ref a, .ref b] ∧ SqL K F a xs ∧ Prs F xs ps ∧ SqT K F b (tn.map fun k => V.int (k : Nat)) ∧ (∀ k ∈ tn, k < ps.length) ∧ tn.length ≤ 100 ∧ ∀ F', Ex F F' → R (.int (leastT ps tn)) F'
def aOrder (K : PySem.W.Frag) : List V → Hp → VK → Prop := fun vs F R => ∃ (v : V) (w : Wld), vs = [v] ∧ Dp K F v (wldD w) ∧ WldOk w ∧
  (∀ (i : Nat) (q : Addr) (F' : Hp), i < facN w.ms.length → leastT (needsW w) (idxP w.ms.length i) ≤ w.start → (∀ j, j < i → w.start < leastT (needsW w) (idxP w.ms.length j)) → Ex F F' → F q = none → F' q = some (.lst ((idxP w.ms.length i).map fun k => V.int (k : Nat))) → R (.ref q) F') ∧
  ((∀ j, j < facN w.ms.length → w.start < leastT (needsW w) (idxP w.ms.length j)) → ∀ F', Ex F F' → R .non F')
def aLeastStart (K : PySem.W.Frag) : List V → Hp → VK → Prop := fun vs F R => ∃ (v : V) (w : Wld), vs = [v] ∧ Dp K F v (wldD w) ∧ WldOk w ∧
  (∀ (m : Int) (F' : Hp), (∃ i, i < facN w.ms.length ∧ m = leastT (needsW w) (idxP w.ms.length i)) → (∀ j, j < facN w.ms.length → m ≤ leastT (needsW w) (idxP w.ms.length j)) → Ex F F' → (m ≤ w.cap → R (.int m) F') ∧ (w.cap < m → R .non F'))
def aNeedOf (K : PySem.W.Frag) : List V → Hp → VK → Prop := fun vs F R => ∃ (v : V) (w : Wld) (k : Nat) (ss : List Stp), vs = [v, .int (k : Nat)] ∧ Dp K F v (wldD w) ∧ WldOk w ∧ w.ms[k]? = some ss ∧ ∀ (q : Addr) (F' : Hp), Ex F F' → F q = none → F' q = some (.tup [.int (needS ss).1, .int (needS ss).2]) → R (.ref q) F'
theorem facN_pos {n : Nat} (h5 : n ≤ 5) : 0 < facN n := by
  match n, h5 with
  | 0, _ => decide
  | 1, _ => decide
  | 2, _ => decide
  | 3, _ => decide
  | 4, _ => decide
  | 5, _ => decide
  | k + 6, h => omega
theorem cw_min1 {S : Type} {J : S → Hp → Hp → Prop} {K : PySem.W.Frag} {s : S} {F : Hp} {R : V → S → Hp → Prop} (hd : Hid J) {a : Addr} {ns : List Int} (l : SqL K F a (ns.map V.int)) (h0 : 0 < ns.length) (h : ∀ m, m ∈ ns → (∀ y, y ∈ ns → m ≤ y) → R (.int m) s F) : CW J (rMin K) [.ref a] s F R := fun H j Q q => ⟨a, ns, rfl, hd.sqL j l, h0, fun m hm hle => q _ _ _ _ j (h m hm hle)⟩
theorem cw_listT {S : Type} {J : S → Hp → Hp → Prop} {K : PySem.W.Frag} {s : S} {F : Hp} {R : V → S → Hp → Prop} (hd : Hid J) {p : Addr} {ys : List V} (l : SqT K F p ys) (h : ∀ a, F a = none → R (.ref a) s (upd F a (.lst ys))) : CW J (fun xs H Q => ∃ p ys, xs = [.ref p] ∧ (SqL K H p ys ∨ SqT K H p ys) ∧ ∀ l, H l = none → Q (.ref l) (upd H l (.lst ys))) [.ref p] s F R := cw_list hd (Or.inr l) h
section
variable {P : Program} {w : World} {K : PySem.W.Frag} {mg : Str → Option Value} {base : Heap}

abbrev s_need_in_line : Stmt := top 51
def N_need_in_line : List Str := ["needs", "all_least", "all_less", "least", "less"]
theorem sc_need_in_line : FnScope N_need_in_line ["needs"] (defScope s_need_in_line) := ⟨rfl, rfl, rfl, by decide +kernel, rfl, by decide +kernel, by decide +kernel⟩
theorem ok_need_in_line {f : Addr} {fd : FuncData}  (Fn : Fun K "need_in_line" "need_in_line" s_need_in_line f fd) (B : Blt mg)  : FnOk P w K mg base CX0 1 f fd ["needs"] (LS (aNeedLine K)) := by
  refine Fn.ok sc_need_in_line (fun vs H Q E h => ?_) (fun cdv A outer s H vs Q E hr h => ?_)
  · obtain ⟨J, F, R, hd, j, h, _⟩ := h
    obtain ⟨a, xs, ps, rfl, _⟩ := h
    rfl
  · have nd := sc_need_in_line.nd
    obtain ⟨J, F, R, hd, j, h, q⟩ := h
    obtain ⟨a, xs, ps, rfl, hl, hx, hn, k⟩ := h
    refine ⟨_, (pss_cons (ps_set (i := 1) nd rfl (Or.inl rfl) pe_int)
      (pss_cons (ps_set (i := 2) nd rfl (Or.inl rfl) pe_int)
      (pss_cons (ps_for PassesOwn.never rfl (pi_list (pv 0)) (pg_tup rfl (pgs_cons (pg_name (i := 3) nd rfl (Or.inl rfl)) (pgs_cons (pg_name (i := 4) nd rfl (Or.inl rfl)) pgs_nil))) (pss_cons (ps_set (i := 1) nd rfl (Or.inl rfl) (pe_callB (call_max2 rfl) (by rfl) B.max (by decide +kernel) (pa_cons (pv 1) (pa_cons (pe_op op_add (pv 2) (pv 3)) pa_nil))))
      (pss_one (ps_aug (i := 2) nd rfl (.inl rfl) (pv 4) ip_add))))
      (pss_one (ps_ret (pe_tup (pa_cons (pv 1) (pa_cons (pv 2) pa_nil)))))))), ?_⟩
    refine LS.body j q ?_
    walk_at "ob"
    refine sw_mid (fun σ _ G => ∃ (x3 x4 : Option V), σ = [some (.ref a), some (.int (needL ps).1), some (.int (needL ps).2), x3, x4] ∧ F = G) ?_ ?_
    · refine sw_forL hd (ew_var rfl ?_)
      refine ⟨a, xs, fun i σ _ G => ∃ (x3 x4 : Option V) (y : Int × Int), σ = [some (.ref a), some (.int y.1), some (.int y.2), x3, x4] ∧ F = G ∧ y = (ps.take i).foldl needF (0, 0), rfl, hl, ⟨none, none, (0, 0), rfl, rfl, rfl⟩, ?_, ?_, ?_⟩
      · rintro i σ _ G hi ⟨x3, x4, y, rfl, rfl, _⟩
        exact hl
      · rintro i x σ _ G hi ⟨x3, x4, y, rfl, rfl, ey⟩
        obtain ⟨t, p, ex, ht, hp⟩ := hx.get hi
        subst ex
        refine gw_tup hd ⟨t, _, rfl, SqT.of ht, rfl, ?_⟩
        walk_at "ob"
        refine sw_aug (a := y.2) rfl (ew_var rfl ⟨p.2, rfl, ?_⟩)
        refine ⟨_, _, needF y p, rfl, rfl, ?_⟩
        rw [List.take_succ, hp, List.foldl_append, ← ey]
        rfl
      · rintro σ _ G ⟨x3, x4, y, rfl, rfl, ey⟩
        rw [hx.len, List.take_length] at ey
        refine ⟨x3, x4, ?_, rfl⟩
        rw [ey]
        rfl
    · rintro σ _ G ⟨x3, x4, rfl, rfl⟩
      walk_at "ob"
      exact ⟨by walk_at "ob_len", fun q hq => k q _ (Ex.new (.refl _) hq) hq upd_same⟩

abbrev s_need_of_steps : Stmt := top 49
def N_need_of_steps : List Str := ["steps", "draw", "_", "back"]
theorem sc_need_of_steps : FnScope N_need_of_steps ["steps"] (defScope s_need_of_steps) := ⟨rfl, rfl, rfl, by decide +kernel, rfl, by decide +kernel, by decide +kernel⟩
theorem ok_need_of_steps {f : Addr} {fd : FuncData} {f1 : Addr} {fd1 : FuncData} (Fn : Fun K "need_of_steps" "need_of_steps" s_need_of_steps f fd) (B : Blt mg) (Cneed_in_line : Cal K mg "need_in_line" f1 fd1 ["needs"]) (Gneed_in_line : FnOk P w K mg base CX0 1 f1 fd1 ["needs"] (LS (aNeedLine K))) : FnOk P w K mg base CX0 2 f fd ["steps"] (LS (aNeedSteps K)) := by
  refine Fn.ok sc_need_of_steps (fun vs H Q E h => ?_) (fun cdv A outer s H vs Q E hr h => ?_)
  · obtain ⟨J, F, R, hd, j, h, _⟩ := h
    obtain ⟨v, ss, rfl, _⟩ := h
    rfl
  · have nd := sc_need_of_steps.nd
    obtain ⟨J, F, R, hd, j, h, q⟩ := h
    obtain ⟨v, ss, rfl, dv, hs6, k⟩ := h
    refine ⟨_, (pss_one (ps_ret (pe_call Gneed_in_line (by exact hr.mono (by decide)) (by rfl) Cneed_in_line.g Cneed_in_line.k Cneed_in_line.a .nil pass0 (pa_cons (pe_lc (own := [("draw", 1), ("_", 2), ("back", 3)]) (g := (gTup K 3 (gCons (gName 1) (gCons (gName 2) (gCons (gName 3) gNil))))) (te := (tTup (tCons (tVar 1) (tCons (tOp (rI0 fun i j => .int (i - j)) (tVar 1) (tVar 3)) tNil)))) (tt := tYes) (by rfl) nd (pi_tup (pv 0)) (blkOk_by (own := [("draw", 1), ("_", 2), ("back", 3)]) (N := N_need_of_steps) (sc := defScope s_need_of_steps) (by decide +kernel)) (fun _ _ _ _ _ => (pg_tup rfl (pgs_cons (pg_name (i := 1) nd rfl (Or.inl rfl)) (pgs_cons (pg_name (i := 2) nd rfl (Or.inl rfl)) (pgs_cons (pg_name (i := 3) nd rfl (Or.inl rfl)) pgs_nil))))) (fun _ _ _ _ _ => pts_nil) (fun _ _ _ _ _ => (pe_tup (pa_cons (pv 1) (pa_cons (pe_op op_sub (pv 1) (pv 3)) pa_nil))))) pa_nil)))), ?_⟩
    refine LS.body j q ?_
    obtain ⟨sa, ys, rfl, ly, dys⟩ := dp_tup dv
    have hyl : ys.length = ss.length := by have := dps_len dys; simpa using this
    refine sw_ret (ew_call hd (aw_cons (ew_lcT hd (ew_var rfl ?_))))
    refine ⟨sa, ys, rfl, ly, by omega, fun Dl hDl => ?_⟩
    refine ⟨fun i acc _ G => Ex F G ∧ Prs G acc (stepsN (ss.take i)), ⟨.refl _, .nil⟩, ?_, ?_, ?_⟩
    · rintro i acc _ G hi hg ⟨g, hp⟩
      refine ⟨g.sqT ly, ?_⟩
      rw [hp.len, stepsN, List.length_map]
      exact List.length_take_le _ _
    · rintro i acc x _ G hi hg ⟨g, hp⟩
      have hd' := hd.jd (D := Dl) (acc := acc)
      obtain ⟨d, hd1, hd2⟩ := dps_get' dys hi
      rw [List.getElem?_map] at hd1
      obtain ⟨st, hst, rfl⟩ := Option.map_eq_some_iff.mp hd1
      obtain ⟨ta, zs, rfl, lz, dzs⟩ := dp_tup (dp_ex g hd2)
      obtain ⟨v1, v2, v3, rfl, e1, e2, e3⟩ := dps3 dzs
      cases dp_int e1
      cases dp_int e2
      cases dp_int e3
      refine gw_tup hd' ⟨ta, _, rfl, lz, rfl, gsw_cons (gw_name (gsw_cons (gw_name (gsw_cons (gw_name (gsw_nil ⟨rfl, tw_yes ⟨fun _ => ?_, (fun z => by cases z)⟩⟩))))))⟩
      refine ew_tup hd' (aw_cons (ew_var rfl (aw_cons (ew_op (ew_var rfl (ew_var rfl (rw_I0 (aw_nil ⟨by walk_at "ob_len", fun tp htp => ?_⟩))))))))
      refine ⟨Ex.new g htp, ?_⟩
      rw [List.take_succ, hst, stepsN, List.map_append]
      exact Prs.snoc (p := (st.draw, st.draw - st.back)) upd_same (hp.ex (Ex.new (.refl _) htp))
    · rintro acc _ G hg ⟨g, hp⟩
      rw [hyl, List.take_length] at hp
      have g2 : Ex G (upd G Dl (.lst acc)) := Ex.new (.refl _) hg
      refine aw_nil ⟨Dl, acc, stepsN ss, rfl, SqL.of upd_same, hp.ex g2, by rw [stepsN, List.length_map]; omega, fun q F' g3 hq e => ?_⟩
      exact k q F' (g.trans (g2.trans g3)) ((g.trans g2).free hq) e

abbrev s_least_of_turn : Stmt := top 50
def N_least_of_turn : List Str := ["needs", "turn", "least", "_", "number"]
theorem sc_least_of_turn : FnScope N_least_of_turn ["needs", "turn"] (defScope s_least_of_turn) := ⟨rfl, rfl, rfl, by decide +kernel, rfl, by decide +kernel, by decide +kernel⟩
theorem ok_least_of_turn {f : Addr} {fd : FuncData} {f1 : Addr} {fd1 : FuncData} (Fn : Fun K "least_of_turn" "least_of_turn" s_least_of_turn f fd) (B : Blt mg) (Cneed_in_line : Cal K mg "need_in_line" f1 fd1 ["needs"]) (Gneed_in_line : FnOk P w K mg base CX0 1 f1 fd1 ["needs"] (LS (aNeedLine K))) : FnOk P w K mg base CX0 2 f fd ["needs", "turn"] (LS (aLeastTurn K)) := by
  refine Fn.ok sc_least_of_turn (fun vs H Q E h => ?_) (fun cdv A outer s H vs Q E hr h => ?_)
  · obtain ⟨J, F, R, hd, j, h, _⟩ := h
    obtain ⟨a, b, xs, ps, tn, rfl, _⟩ := h
    rfl
  · have nd := sc_least_of_turn.nd
    obtain ⟨J, F, R, hd, j, h, q⟩ := h
    obtain ⟨a, b, xs, ps, tn, rfl, hl, hx, ht, hb, h100, k⟩ := h
    refine ⟨_, (pss_cons (ps_asg (pe_call Gneed_in_line (by exact hr.mono (by decide)) (by rfl) Cneed_in_line.g Cneed_in_line.k Cneed_in_line.a .nil pass0 (pa_cons (pe_lc (own := [("number", 4)]) (te := (tOp (rIxL K) (tVar 0) (tVar 4))) (tt := tYes) (by rfl) nd (pi_tup (pv 1)) (blkOk_by (own := [("number", 4)]) (N := N_least_of_turn) (sc := defScope s_least_of_turn) (by decide +kernel)) (fun _ _ _ _ _ => (pg_name (i := 4) nd rfl (Or.inl rfl))) (fun _ _ _ _ _ => pts_nil) (fun _ _ _ _ _ => (pe_ix ix_list (pv 0) (pv 4) (fun _ _ => rfl)))) pa_nil)) (pg_tup rfl (pgs_cons (pg_name (i := 2) nd rfl (Or.inl rfl)) (pgs_cons (pg_name (i := 3) nd rfl (Or.inl rfl)) pgs_nil))))
      (pss_one (ps_ret (pv 2)))), ?_⟩
    refine LS.body j q ?_
    refine sw_seq (sw_asg (ew_call hd (aw_cons (ew_lcT hd (ew_var rfl ?_)))))
    refine ⟨b, _, rfl, ht, by rw [List.length_map]; omega, fun Dl hDl => ?_⟩
    refine ⟨fun i acc _ G => F = G ∧ Prs F acc ((tn.take i).map fun k => ps.getD k (0, 0)), ⟨rfl, .nil⟩, ?_, ?_, ?_⟩
    · rintro i acc _ G hi hg ⟨rfl, hp⟩
      refine ⟨ht, ?_⟩
      rw [hp.len, List.length_map]
      exact List.length_take_le _ _
    · rintro i acc x _ G hi hg ⟨rfl, hp⟩
      have hd' := hd.jd (D := Dl) (acc := acc)
      rw [List.getElem?_map] at hi
      obtain ⟨kk, hkk, rfl⟩ := Option.map_eq_some_iff.mp hi
      have hlt := hb kk (List.mem_of_getElem? hkk)
      obtain ⟨t, p, ex, htt, hpp⟩ := hx.get (i := kk) (x := xs[kk]'(by rw [hx.len]; exact hlt)) (List.getElem?_eq_getElem _)
      refine gw_name ⟨rfl, tw_yes ⟨fun _ => ?_, (fun z => by cases z)⟩⟩
      refine ew_op (ew_var rfl (ew_var rfl (rw_ixL hd' hl (atI_nat (List.getElem?_eq_getElem (by rw [hx.len]; exact hlt))) ?_)))
      refine ⟨rfl, ?_⟩
      rw [List.take_succ, hkk, List.map_append, ex]
      refine Prs.snoc ?_ hp
      have e9 : ps.getD kk (0, 0) = p := by rw [List.getD_eq_getElem?_getD, hpp]; rfl
      show F t = some (.tup [V.int (ps.getD kk (0, 0)).1, V.int (ps.getD kk (0, 0)).2])
      rw [e9]
      exact htt
    · rintro acc _ G hg ⟨rfl, hp⟩
      rw [List.length_map, List.take_length] at hp
      have g2 : Ex F (upd F Dl (.lst acc)) := Ex.new (.refl _) hg
      refine aw_nil ⟨Dl, acc, _, rfl, SqL.of upd_same, hp.ex g2, by rw [List.length_map]; omega, fun q F' g3 hq e => ?_⟩
      refine gw_tup hd ⟨q, _, rfl, SqT.of e, rfl, gsw_cons (gw_name (gsw_cons (gw_name (gsw_nil ?_))))⟩
      exact sw_ret (ew_var rfl (k F' (g2.trans g3)))

abbrev s_order : Stmt := top 47
def N_order : List Str := ["world", "store", "machines", "needs", "turn", "steps"]
theorem sc_order : FnScope N_order ["world"] (defScope s_order) := ⟨rfl, rfl, rfl, by decide +kernel, rfl, by decide +kernel, by decide +kernel⟩
theorem ok_order {f : Addr} {fd : FuncData} {f1 f2 f3 : Addr} {fd1 fd2 fd3 : FuncData} (Fn : Fun K "order" "order" s_order f fd) (B : Blt mg) (Ccheck_world : Cal K mg "check_world" f1 fd1 ["world"]) (Gcheck_world : FnOk P w K mg base CX0 3 f1 fd1 ["world"] (LS (aChkW K))) (Cneed_of_steps : Cal K mg "need_of_steps" f2 fd2 ["steps"]) (Gneed_of_steps : FnOk P w K mg base CX0 2 f2 fd2 ["steps"] (LS (aNeedSteps K))) (Cleast_of_turn : Cal K mg "least_of_turn" f3 fd3 ["needs", "turn"]) (Gleast_of_turn : FnOk P w K mg base CX0 2 f3 fd3 ["needs", "turn"] (LS (aLeastTurn K))) (gperm : mg "permutations" = some (.type "itertools.permutations")) : FnOk P w K mg base CX0 4 f fd ["world"] (LS (aOrder K)) := by
  refine Fn.ok sc_order (fun vs H Q E h => ?_) (fun cdv A outer s H vs Q E hr h => ?_)
  · obtain ⟨J, F, R, hd, j, h, _⟩ := h
    obtain ⟨v, w, rfl, _⟩ := h
    rfl
  · have nd := sc_order.nd
    obtain ⟨J, F, R, hd, j, h, q⟩ := h
    obtain ⟨v, w, rfl, dv, hw, k1, k2⟩ := h
    refine ⟨_, (pss_cons (ps_expr (pe_call Gcheck_world (by exact hr.mono (by decide)) (by rfl) Ccheck_world.g Ccheck_world.k Ccheck_world.a .nil pass0 (pa_cons (pv 0) pa_nil)))
      (pss_cons (ps_asg (pv 0) (pg_tup rfl (pgs_cons (pg_name (i := 1) nd rfl (Or.inl rfl)) (pgs_cons (pg_name (i := 2) nd rfl (Or.inl rfl)) pgs_nil))))
      (pss_cons (ps_setLc (i := 3) rfl nd rfl rfl (sw_true rfl rfl rfl (by decide +kernel)) (own := [("steps", 5)]) (te := (tCall (LS (aNeedSteps K)) [] E0 (tCons (tVar 5) tNil))) (tt := tYes) (pi_tup (pv 2)) (blkOk_by (own := [("steps", 5)]) (N := N_order) (sc := defScope s_order) (by decide +kernel)) (fun _ _ _ _ _ => (pg_name (i := 5) nd rfl (Or.inl rfl))) (fun _ _ _ _ _ => pts_nil) (fun _ _ _ _ _ => (pe_call Gneed_of_steps (by exact hr.mono (by decide)) (by rfl) Cneed_of_steps.g Cneed_of_steps.k Cneed_of_steps.a .nil pass0 (pa_cons (pv 5) pa_nil))))
      (pss_cons (ps_for PassesOwn.never rfl (pi_perm rfl (by rfl) gperm (prg_1 (by rfl) B.range (pe_callB call_len_seq (by rfl) B.len (by decide +kernel) (pa_cons (pv 3) pa_nil)))) (pg_name (i := 4) nd rfl (Or.inl rfl)) (pss_one (ps_if (pt_cmpR op_le (pe_call Gleast_of_turn (by exact hr.mono (by decide)) (by rfl) Cleast_of_turn.g Cleast_of_turn.k Cleast_of_turn.a .nil pass0 (pa_cons (pv 3) (pa_cons (pv 4) pa_nil))) (pe_ix ix_tup (pv 1) pe_int (fun _ _ => rfl)) (nomark _)) (pss_one (ps_ret (pe_callTy call_list_of (by rfl) B.list (by decide +kernel) (pa_cons (pv 4) pa_nil)))) pss_nil)))
      (pss_one (ps_ret pe_non)))))), ?_⟩
    refine LS.body j q ?_
    obtain ⟨wa, xs, rfl, lx, dxs⟩ := dp_tup dv
    obtain ⟨sv, mv, rfl, ds, dm⟩ := dps2 dxs
    obtain ⟨ma, zs, rfl, lz, dzs⟩ := dp_tup dm
    have hzl : zs.length = w.ms.length := by have := dps_len dzs; simpa using this
    have hm5 := hw.m
    obtain ⟨sa, ys, rfl, ly, dys⟩ := dp_tup (show Dp K F sv (.tuple [.int w.cap, .int w.start, .int w.refill]) from ds)
    obtain ⟨v1, v2, v3, rfl, d1, d2, d3⟩ := dps3 dys
    cases dp_int d1
    cases dp_int d2
    refine sw_seq (sw_drop (ew_call hd ?_))
    walk_at "ob"
    refine ⟨.ref wa, w, rfl, .tup lx (.cons ds (.cons dm .nil)), hw, fun F1 g1 => ?_⟩
    refine sw_seq (sw_asg ?_)
    walk_at "ob"
    refine gw_tup hd ⟨wa, _, rfl, g1.sqT lx, rfl, gsw_cons (gw_name (gsw_cons (gw_name (gsw_nil ?_))))⟩
    refine sw_seq (sw_asg (ew_lcT hd (ew_var rfl ?_)))
    refine ⟨ma, zs, rfl, g1.sqT lz, by omega, fun Nl hNl => ?_⟩
    refine ⟨fun i acc _ G => Ex F1 G ∧ Prs G acc ((w.ms.take i).map needS), ⟨.refl _, .nil⟩, ?_, ?_, ?_⟩
    · rintro i acc _ G hi hg ⟨g, hp⟩
      refine ⟨(g1.trans g).sqT lz, ?_⟩
      rw [hp.len, List.length_map]
      exact List.length_take_le _ _
    · rintro i acc x _ G hi hg ⟨g, hp⟩
      have hd' := hd.jd (D := Nl) (acc := acc)
      obtain ⟨d, hd1, hd2⟩ := dps_get' dzs hi
      rw [List.getElem?_map] at hd1
      obtain ⟨ss, hss, rfl⟩ := Option.map_eq_some_iff.mp hd1
      refine gw_name ⟨rfl, tw_yes ⟨fun _ => ?_, (fun z => by cases z)⟩⟩
      refine ew_call hd' (aw_cons (ew_var rfl (aw_nil ⟨x, ss, rfl, dp_ex (g1.trans g) hd2, hw.n ss (List.mem_of_getElem? hss), fun q F' g2 hq e => ?_⟩)))
      refine ⟨g.trans g2, ?_⟩
      rw [List.take_succ, hss, List.map_append]
      exact Prs.snoc e (hp.ex g2)
    rintro acc _ G hg ⟨g, hp⟩
    rw [hzl, List.take_length] at hp
    have g2 : Ex G (upd G Nl (.lst acc)) := Ex.new (.refl _) hg
    have hp2 := hp.ex g2
    have gF : Ex F (upd G Nl (.lst acc)) := g1.trans (g.trans g2)
    have hal : acc.length = w.ms.length := by rw [hp.len, List.length_map]
    refine gw_name ?_
    refine sw_seq ?_
    refine sw_mid (fun σ _ G2 => ∃ (x4 x5 : Option V), σ = [some (.ref wa), some (.ref sa), some (.ref ma), some (.ref Nl), x4, x5] ∧ Ex F G2 ∧ ∀ j, j < facN w.ms.length → w.start < leastT (needsW w) (idxP w.ms.length j)) ?_ ?_
    · refine sw_forPm hd (ew_cb (aw_cons (ew_var rfl (aw_nil (cw_lenS hd (Or.inl (SqL.of upd_same)) ?_)))))
      rw [hal]
      refine ⟨w.ms.length, fun i σ _ G2 => ∃ (x4 : Option V), σ = [some (.ref wa), some (.ref sa), some (.ref ma), some (.ref Nl), x4, none] ∧ Ex (upd G Nl (.lst acc)) G2 ∧ ∀ j, j < i → w.start < leastT (needsW w) (idxP w.ms.length j), rfl, hm5, ⟨none, rfl, .refl _, fun j hj => absurd hj (by omega)⟩, ?_, ?_⟩
      · rintro i σ _ G2 T hi ⟨x4, rfl, gA, hno⟩ hT
        have gT : Ex G2 (upd G2 T (.tup ((idxP w.ms.length i).map fun k => V.int (k : Nat)))) := Ex.new (.refl _) hT
        refine gw_name ?_
        refine sw_if (tw_test (ew_op (ew_call hd (aw_cons (ew_var rfl (aw_cons (ew_var rfl (aw_nil ?_))))))))
        refine ⟨Nl, T, acc, needsW w, idxP w.ms.length i, rfl, SqL.of (gT _ _ (gA _ _ upd_same)), hp2.ex (gA.trans gT), SqT.of upd_same, ?_, by rw [idx_len hm5 hi]; omega, fun G3 g3 => ?_⟩
        · intro k hk
          rw [needsW, List.length_map]
          exact idx_lt hm5 hi k hk
        have gB : Ex F G3 := gF.trans (gA.trans (gT.trans g3))
        refine ew_op (ew_var rfl (ew_c (rw_ixT hd (gB.sqT ly) (atI_nat rfl) (rw_I0 ?_))))
        refine ⟨_, rfl, fun hb => ?_, fun hb => ?_⟩
        · have hb2 := of_decide_eq_true hb
          refine sw_ret (ew_cb (aw_cons (ew_var rfl (aw_nil ?_))))
          refine cw_listT hd (SqT.of (g3 _ _ upd_same)) fun q hq => ?_
          exact k1 i q _ hi hb2 hno (gB.trans (Ex.new (.refl _) hq)) (gB.free hq) upd_same
        · have hb2 := of_decide_eq_false hb
          refine sw_next ⟨_, rfl, gA.trans (gT.trans g3), fun j hj => ?_⟩
          by_cases e : j < i
          · exact hno j e
          · have : j = i := by omega
            subst this
            omega
      · rintro σ _ G2 ⟨x4, rfl, gA, hno⟩
        exact ⟨_, _, rfl, gF.trans gA, hno⟩
    · rintro σ _ G2 ⟨x4, x5, rfl, gA, hno⟩
      exact sw_ret (ew_c (k2 hno _ gA))

abbrev s_least_start : Stmt := top 48
def N_least_start : List Str := ["world", "store", "machines", "needs", "least", "steps", "turn"]
theorem sc_least_start : FnScope N_least_start ["world"] (defScope s_least_start) := ⟨rfl, rfl, rfl, by decide +kernel, rfl, by decide +kernel, by decide +kernel⟩
theorem ok_least_start {f : Addr} {fd : FuncData} {f1 f2 f3 : Addr} {fd1 fd2 fd3 : FuncData} (Fn : Fun K "least_start" "least_start" s_least_start f fd) (B : Blt mg) (Ccheck_world : Cal K mg "check_world" f1 fd1 ["world"]) (Gcheck_world : FnOk P w K mg base CX0 3 f1 fd1 ["world"] (LS (aChkW K))) (Cneed_of_steps : Cal K mg "need_of_steps" f2 fd2 ["steps"]) (Gneed_of_steps : FnOk P w K mg base CX0 2 f2 fd2 ["steps"] (LS (aNeedSteps K))) (Cleast_of_turn : Cal K mg "least_of_turn" f3 fd3 ["needs", "turn"]) (Gleast_of_turn : FnOk P w K mg base CX0 2 f3 fd3 ["needs", "turn"] (LS (aLeastTurn K))) (gperm : mg "permutations" = some (.type "itertools.permutations")) : FnOk P w K mg base CX0 4 f fd ["world"] (LS (aLeastStart K)) := by
  refine Fn.ok sc_least_start (fun vs H Q E h => ?_) (fun cdv A outer s H vs Q E hr h => ?_)
  · obtain ⟨J, F, R, hd, j, h, _⟩ := h
    obtain ⟨v, w, rfl, _⟩ := h
    rfl
  · have nd := sc_least_start.nd
    obtain ⟨J, F, R, hd, j, h, q⟩ := h
    obtain ⟨v, w, rfl, dv, hw, k0⟩ := h
    refine ⟨_, (pss_cons (ps_expr (pe_call Gcheck_world (by exact hr.mono (by decide)) (by rfl) Ccheck_world.g Ccheck_world.k Ccheck_world.a .nil pass0 (pa_cons (pv 0) pa_nil)))
      (pss_cons (ps_asg (pv 0) (pg_tup rfl (pgs_cons (pg_name (i := 1) nd rfl (Or.inl rfl)) (pgs_cons (pg_name (i := 2) nd rfl (Or.inl rfl)) pgs_nil))))
      (pss_cons (ps_set (i := 3) nd rfl (Or.inr rfl) (pe_lc (own := [("steps", 5)]) (te := (tCall (LS (aNeedSteps K)) [] E0 (tCons (tVar 5) tNil))) (tt := tYes) (by rfl) nd (pi_tup (pv 2)) (blkOk_by (own := [("steps", 5)]) (N := N_least_start) (sc := defScope s_least_start) (by decide +kernel)) (fun _ _ _ _ _ => (pg_name (i := 5) nd rfl (Or.inl rfl))) (fun _ _ _ _ _ => pts_nil) (fun _ _ _ _ _ => (pe_call Gneed_of_steps (by exact hr.mono (by decide)) (by rfl) Cneed_of_steps.g Cneed_of_steps.k Cneed_of_steps.a .nil pass0 (pa_cons (pv 5) pa_nil)))))
      (pss_cons (ps_set (i := 4) nd rfl (Or.inl rfl) (pe_callB (cr_min rfl) (by rfl) B.min (by decide +kernel) (pa_cons (pe_lc (own := [("turn", 6)]) (te := (tCall (LS (aLeastTurn K)) [] E0 (tCons (tVar 3) (tCons (tVar 6) tNil)))) (tt := tYes) (by rfl) nd (pi_perm rfl (by rfl) gperm (prg_1 (by rfl) B.range (pe_callB call_len_seq (by rfl) B.len (by decide +kernel) (pa_cons (pv 3) pa_nil)))) (blkOk_by (own := [("turn", 6)]) (N := N_least_start) (sc := defScope s_least_start) (by decide +kernel)) (fun _ _ _ _ _ => (pg_name (i := 6) nd rfl (Or.inl rfl))) (fun _ _ _ _ _ => pts_nil) (fun _ _ _ _ _ => (pe_call Gleast_of_turn (by exact hr.mono (by decide)) (by rfl) Cleast_of_turn.g Cleast_of_turn.k Cleast_of_turn.a .nil pass0 (pa_cons (pv 3) (pa_cons (pv 6) pa_nil))))) pa_nil)))
      (pss_one (ps_ret (pe_ifExp (pt_cmpR op_le (pv 4) (pe_ix ix_tup (pv 1) pe_int (fun _ _ => rfl)) (nomark _)) (pv 4) pe_non))))))), ?_⟩
    refine LS.body j q ?_
    obtain ⟨wa, xs, rfl, lx, dxs⟩ := dp_tup dv
    obtain ⟨sv, mv, rfl, ds, dm⟩ := dps2 dxs
    obtain ⟨ma, zs, rfl, lz, dzs⟩ := dp_tup dm
    have hzl : zs.length = w.ms.length := by have := dps_len dzs; simpa using this
    have hm5 := hw.m
    obtain ⟨sa, ys, rfl, ly, dys⟩ := dp_tup (show Dp K F sv (.tuple [.int w.cap, .int w.start, .int w.refill]) from ds)
    obtain ⟨v1, v2, v3, rfl, d1, d2, d3⟩ := dps3 dys
    cases dp_int d1
    cases dp_int d2
    refine sw_seq (sw_drop (ew_call hd ?_))
    walk_at "ob"
    refine ⟨.ref wa, w, rfl, .tup lx (.cons ds (.cons dm .nil)), hw, fun F1 g1 => ?_⟩
    refine sw_seq (sw_asg ?_)
    walk_at "ob"
    refine gw_tup hd ⟨wa, _, rfl, g1.sqT lx, rfl, gsw_cons (gw_name (gsw_cons (gw_name (gsw_nil ?_))))⟩
    refine sw_seq (sw_asg (ew_lcT hd (ew_var rfl ?_)))
    refine ⟨ma, zs, rfl, g1.sqT lz, by omega, fun Nl hNl => ?_⟩
    refine ⟨fun i acc _ G => Ex F1 G ∧ Prs G acc ((w.ms.take i).map needS), ⟨.refl _, .nil⟩, ?_, ?_, ?_⟩
    · rintro i acc _ G hi hg ⟨g, hp⟩
      refine ⟨(g1.trans g).sqT lz, ?_⟩
      rw [hp.len, List.length_map]
      exact List.length_take_le _ _
    · rintro i acc x _ G hi hg ⟨g, hp⟩
      have hd' := hd.jd (D := Nl) (acc := acc)
      obtain ⟨d, hd1, hd2⟩ := dps_get' dzs hi
      rw [List.getElem?_map] at hd1
      obtain ⟨ss, hss, rfl⟩ := Option.map_eq_some_iff.mp hd1
      refine gw_name ⟨rfl, tw_yes ⟨fun _ => ?_, (fun z => by cases z)⟩⟩
      refine ew_call hd' (aw_cons (ew_var rfl (aw_nil ⟨x, ss, rfl, dp_ex (g1.trans g) hd2, hw.n ss (List.mem_of_getElem? hss), fun q F' g2 hq e => ?_⟩)))
      refine ⟨g.trans g2, ?_⟩
      rw [List.take_succ, hss, List.map_append]
      exact Prs.snoc e (hp.ex g2)
    rintro acc _ G hg ⟨g, hp⟩
    rw [hzl, List.take_length] at hp
    have g2 : Ex G (upd G Nl (.lst acc)) := Ex.new (.refl _) hg
    have hp2 := hp.ex g2
    have gF : Ex F (upd G Nl (.lst acc)) := g1.trans (g.trans g2)
    have hal : acc.length = w.ms.length := by rw [hp.len, List.length_map]
    refine gw_name ?_
    refine sw_seq (sw_asg (ew_cb (aw_cons (ew_lcPm hd (ew_cb (aw_cons (ew_var rfl (aw_nil (cw_lenS hd (Or.inl (SqL.of upd_same)) ?_)))))))))
    rw [hal]
    refine ⟨w.ms.length, rfl, hm5, fun Dl hDl => ?_⟩
    refine ⟨fun i acc2 _ G2 => Ex (upd G Nl (.lst acc)) G2 ∧ acc2 = ((List.range i).map fun j => leastT (needsW w) (idxP w.ms.length j)).map V.int, ⟨.refl _, rfl⟩, ?_, ?_, ?_⟩
    · rintro i acc2 _ G2 hi hg2 ⟨gA, rfl⟩
      rw [List.length_map, List.length_map, List.length_range]
      exact Nat.le_refl _
    · rintro i acc2 _ G2 T hi hg2 ⟨gA, rfl⟩ hT hTD
      have hd' := hd.jd (D := Dl) (acc := ((List.range i).map fun j => leastT (needsW w) (idxP w.ms.length j)).map V.int)
      have gT : Ex G2 (upd G2 T (.tup ((idxP w.ms.length i).map fun k => V.int (k : Nat)))) := Ex.new (.refl _) hT
      refine gw_name ⟨rfl, tw_yes ⟨fun _ => ?_, (fun z => by cases z)⟩⟩
      refine ew_call hd' (aw_cons (ew_var rfl (aw_cons (ew_var rfl (aw_nil ?_)))))
      refine ⟨Nl, T, acc, needsW w, idxP w.ms.length i, rfl, SqL.of (gT _ _ (gA _ _ upd_same)), hp2.ex (gA.trans gT), SqT.of upd_same, ?_, by rw [idx_len hm5 hi]; omega, fun G3 g3 => ?_⟩
      · intro k hk
        rw [needsW, List.length_map]
        exact idx_lt hm5 hi k hk
      refine ⟨gA.trans (gT.trans g3), ?_⟩
      rw [List.range_succ, List.map_append, List.map_append]
      rfl
    rintro acc2 _ G2 hg2 ⟨gA, rfl⟩
    have hf0 : 0 < facN w.ms.length := facN_pos hm5
    refine aw_nil (cw_min1 hd (SqL.of upd_same) (by rw [List.length_map, List.length_range]; exact hf0) fun m hm hle => ?_)
    have gB : Ex F (upd G2 Dl (.lst (((List.range (facN w.ms.length)).map fun j => leastT (needsW w) (idxP w.ms.length j)).map V.int))) := gF.trans (gA.trans (Ex.new (.refl _) hg2))
    obtain ⟨i, hi, rfl⟩ := List.mem_map.mp hm
    have hk := k0 _ _ ⟨i, List.mem_range.mp hi, rfl⟩ (fun j hj => hle _ (List.mem_map.mpr ⟨j, List.mem_range.mpr hj, rfl⟩)) gB
    refine gw_name ?_
    refine sw_ret (ew_if (tw_test (ew_op (ew_var rfl (ew_op (ew_var rfl (ew_c (rw_ixT hd (gB.sqT ly) (atI_nat rfl) (rw_I0 ?_)))))))))
    refine ⟨_, rfl, fun hb => ?_, fun hb => ?_⟩
    · exact ew_var rfl (hk.1 (of_decide_eq_true hb))
    · exact ew_c (hk.2 (by have := of_decide_eq_false hb; omega))

abbrev s_need_of : Stmt := top 46
def N_need_of : List Str := ["world", "machine", "_", "machines"]
theorem sc_need_of : FnScope N_need_of ["world", "machine"] (defScope s_need_of) := ⟨rfl, rfl, rfl, by decide +kernel, rfl, by decide +kernel, by decide +kernel⟩
theorem ok_need_of {f : Addr} {fd : FuncData} {f1 f2 f3 : Addr} {fd1 fd2 fd3 : FuncData} (Fn : Fun K "need_of" "need_of" s_need_of f fd) (B : Blt mg) (Ccheck_world : Cal K mg "check_world" f1 fd1 ["world"]) (Gcheck_world : FnOk P w K mg base CX0 3 f1 fd1 ["world"] (LS (aChkW K))) (Cneed_of_steps : Cal K mg "need_of_steps" f2 fd2 ["steps"]) (Gneed_of_steps : FnOk P w K mg base CX0 2 f2 fd2 ["steps"] (LS (aNeedSteps K))) (Ccheck_count : Cal K mg "check_count" f3 fd3 ["many", "least", "most"]) (Gcheck_count : FnOk P w K mg base CX0 1 f3 fd3 ["many", "least", "most"] (LS aCount)) : FnOk P w K mg base CX0 4 f fd ["world", "machine"] (LS (aNeedOf K)) := by
  refine Fn.ok sc_need_of (fun vs H Q E h => ?_) (fun cdv A outer s H vs Q E hr h => ?_)
  · obtain ⟨J, F, R, hd, j, h, _⟩ := h
    obtain ⟨v, w, kk, ss, rfl, _⟩ := h
    rfl
  · have nd := sc_need_of.nd
    obtain ⟨J, F, R, hd, j, h, q⟩ := h
    obtain ⟨v, w, kk, ss, rfl, dv, hw, hss, k⟩ := h
    refine ⟨_, (pss_cons (ps_expr (pe_call Gcheck_world (by exact hr.mono (by decide)) (by rfl) Ccheck_world.g Ccheck_world.k Ccheck_world.a .nil pass0 (pa_cons (pv 0) pa_nil)))
      (pss_cons (ps_asg (pv 0) (pg_tup rfl (pgs_cons (pg_name (i := 2) nd rfl (Or.inl rfl)) (pgs_cons (pg_name (i := 3) nd rfl (Or.inl rfl)) pgs_nil))))
      (pss_cons (ps_expr (pe_call Gcheck_count (by exact hr.mono (by decide)) (by rfl) Ccheck_count.g Ccheck_count.k Ccheck_count.a .nil pass0 (pa_cons (pv 1) (pa_cons pe_int (pa_cons (pe_op op_sub (pe_callB call_len_seq (by rfl) B.len (by decide +kernel) (pa_cons (pv 3) pa_nil)) pe_int) pa_nil)))))
      (pss_one (ps_ret (pe_call Gneed_of_steps (by exact hr.mono (by decide)) (by rfl) Cneed_of_steps.g Cneed_of_steps.k Cneed_of_steps.a .nil pass0 (pa_cons (pe_ix ix_tup (pv 3) (pv 1) (fun _ _ => rfl)) pa_nil))))))), ?_⟩
    refine LS.body j q ?_
    obtain ⟨wa, xs, rfl, lx, dxs⟩ := dp_tup dv
    obtain ⟨sv, mv, rfl, ds, dm⟩ := dps2 dxs
    obtain ⟨ma, zs, rfl, lz, dzs⟩ := dp_tup dm
    have hzl : zs.length = w.ms.length := by have := dps_len dzs; simpa using this
    have hkl := (List.getElem?_eq_some_iff.mp hss).1
    obtain ⟨x, hx, dx⟩ := dps_get dzs (show (w.ms.map macD)[kk]? = some (macD ss) by rw [List.getElem?_map, hss]; rfl)
    refine sw_seq (sw_drop (ew_call hd ?_))
    walk_at "ob"
    refine ⟨.ref wa, w, rfl, .tup lx (.cons ds (.cons dm .nil)), hw, fun F1 g1 => ?_⟩
    refine sw_seq (sw_asg ?_)
    walk_at "ob"
    refine gw_tup hd ⟨wa, _, rfl, g1.sqT lx, rfl, gsw_cons (gw_name (gsw_cons (gw_name (gsw_nil ?_))))⟩
    refine sw_seq (sw_drop (ew_call hd (aw_cons (ew_var rfl (aw_cons (ew_c ?_))))))
    refine aw_cons (ew_op (ew_cb (aw_cons (ew_var rfl (aw_nil (cw_lenS hd (Or.inr (g1.sqT lz)) ?_))))))
    refine ew_c (rw_I0 (aw_nil ⟨_, _, _, rfl, by omega, by omega, ?_⟩))
    refine sw_ret (ew_call hd (aw_cons (ew_op (ew_var rfl (ew_var rfl (rw_ixT hd (g1.sqT lz) (atI_nat hx) (aw_nil ?_)))))))
    exact ⟨x, ss, rfl, dp_ex g1 dx, hw.n ss (List.mem_of_getElem? hss), fun q F' g2 hq e => k q F' (g1.trans g2) (g1.free hq) e⟩
end
end Obr
namespace Obr
open PySem L2 PyProof.Rows Obp
/-! ### orders: bounds -/
/-- a pair as a machine has it -/
def PairOk (p : Int × Int) : Prop := 0 ≤ p.2 ∧ p.2 ≤ p.1
/-- a turn of all -/
theorem idx_perm {n i : Nat} (h5 : n ≤ 5) (hi : i < facN n) : (idxP n i).Perm (List.range n) := by
  revert i
  match n, h5 with
  | 0, _ => decide +kernel
  | 1, _ => decide +kernel
  | 2, _ => decide +kernel
  | 3, _ => decide +kernel
  | 4, _ => decide +kernel
  | 5, _ => decide +kernel
  | k + 6, h => omega
theorem perm_sum {l m : List Int} (h : l.Perm m) : l.sum = m.sum := by
  induction h with
  | nil => rfl
  | cons x _ ih => rw [List.sum_cons, List.sum_cons, ih]
  | swap x y l => simp only [List.sum_cons]; omega
  | trans _ _ h1 h2 => rw [h1, h2]
/-! machines that give all back -/
def bkS (st : Stp) : Stp := ⟨st.draw, st.long, st.draw⟩
def bkW (w : Wld) : Wld := ⟨w.cap, w.start, w.refill, w.ms.map fun ss => ss.map bkS⟩
/-- alone: a world of one machine -/
def oneW (w : Wld) (ss : List Stp) : Wld := ⟨w.cap, 0, 0, [ss]⟩
end Obr
namespace Obr
open PySem L2 PyProof.Rows
local macro_rules | `(tactic| walk_at "ob_at") => `(tactic| first
  | assumption
  | exact upd_same
  | (refine Eq.trans (upd_ne ?obn) ?obr; (case obn => walk_at "ob_ne"); (case obr => walk_at "ob_at")))
local macro_rules | `(tactic| walk_at "ob_ne") => `(tactic| first
  | assumption
  | (refine Ne.symm ?obs; (case obs => assumption))
  | (refine' ne_of_none (H := ?_) ?obe ?obh; (case obh => assumption); (case obe => walk_at "ob_at"))
  | (refine Ne.symm ?obs; (case obs => (refine' ne_of_none (H := ?_) ?obe ?obh; (case obh => assumption); (case obe => walk_at "ob_at")))))
local macro_rules | `(tactic| walk_at "ob_fr") => `(tactic| first
  | assumption
  | (refine Eq.trans (upd_ne ?obn) ?obr; (case obn => walk_at "ob_ne"); (case obr => walk_at "ob_fr"))
  | (refine Ex.free (G := ?_) (by assumption) ?obh; (case obh => walk_at "ob_fr")))
local macro_rules | `(tactic| walk_at "ob_ex") => `(tactic| first
  | assumption
  | exact Ex.refl _
  | (refine Ex.out ?obg ?obh; (case obh => assumption); (case obg => walk_at "ob_ex"))
  | (refine Ex.new ?obg ?obh; (case obh => assumption); (case obg => walk_at "ob_ex"))
  | (refine Ex.new ?obg ?obh; (case obh => walk_at "ob_fr"); (case obg => walk_at "ob_ex")))
local macro_rules | `(tactic| walk_at "ob_sq") => `(tactic| first
  | assumption
  | (refine SqL.of ?oba; (case oba => walk_at "ob_at"))
  | (refine Ex.sqT (F := ?_) ?obg ?obh; (case obh => assumption); (case obg => walk_at "ob_ex"))
  | (refine Ex.sqL (F := ?_) ?obg ?obh; (case obh => assumption); (case obg => walk_at "ob_ex"))
  | (refine SqT.of ?oba; (case oba => walk_at "ob_at")))
local macro_rules | `(tactic| walk_at "ob_side") => `(tactic| first | exact rfl | assumption | decide | omega | exact ⟨by decide, by decide, by decide⟩ | exact Or.inr ⟨by decide, by decide⟩ | exact Or.inl ⟨by decide, by decide⟩ | exact wide_div (b := 60) (by first | decide | omega) (by first | decide | omega) (by decide) (by decide))
local macro_rules | `(tactic| walk_at "ob1") => `(tactic| first
  | with_reducible refine sw_seq ?_
  | with_reducible refine sw_asg ?_
  | with_reducible refine sw_ret ?_
  | with_reducible refine sw_par ?_
  | with_reducible refine ⟨_, _, rfl, ?_⟩
  | with_reducible refine sw_drop ?_
  | with_reducible refine sw_if ?_
  | with_reducible refine sw_next ?_
  | with_reducible refine gw_name ?_
  | with_reducible refine gw_subL (by assumption) ?_
  | with_reducible refine gsw_cons ?_
  | with_reducible refine gsw_nil ?_
  | with_reducible refine ew_c ?_
  | ((with_reducible refine' ew_var (v := ?_) ?obv ?_); (case obv => exact rfl))
  | ((with_reducible refine ew_next (by assumption) ?obv ?_); (case obv => exact rfl))
  | ((with_reducible refine ew_world (by assumption) ?obv ?_); (case obv => exact rfl))
  | ((with_reducible refine ew_rule (by assumption) ?obv ?_); (case obv => exact rfl))
  | with_reducible refine ew_op ?_
  | with_reducible refine ew_un ?_
  | with_reducible refine ew_dget (by assumption) ?_
  | with_reducible refine uw_I ?_
  | with_reducible refine ppw_nil ?_
  | with_reducible refine ppw_cons ?_
  | with_reducible refine sw_dput (by assumption) ?_
  | with_reducible refine ew_cb ?_
  | with_reducible refine ew_if ?_
  | with_reducible refine ew_slL (by assumption) ?_
  | with_reducible refine ow_some ?_
  | with_reducible refine ow_none ?_
  | with_reducible refine aw_nil ?_
  | with_reducible refine aw_cons ?_
  | with_reducible refine rw_I0 ?_
  | ((with_reducible refine rw_I ?obc ?_); (case obc => walk_at "ob_side"))
  | with_reducible refine rw_isN ?_
  | with_reducible refine rw_notN ?_
  | ((with_reducible refine rw_eq ?obc ?_); (case obc => exact rfl))
  | ((with_reducible refine rw_ne ?obc ?_); (case obc => exact rfl))
  | with_reducible refine cw_max2 ?_
  | with_reducible refine cw_min2 ?_
  | with_reducible refine tw_test ?_
  | with_reducible refine tw_B ?_
  | with_reducible refine tw_not ?_
  | with_reducible refine tw_truB ?_
  | with_reducible refine tw_and ?_
  | with_reducible refine tw_or ?_
  | with_reducible refine ew_and ?_
  | (refine' Exists.intro _ (And.intro (show V.bl _ = V.bl _ from rfl) ?_))
  | (refine' Exists.intro _ (And.intro (show V.int _ = V.int _ from rfl) ?_))
  | ((with_reducible refine' rw_ixL (v := ?_) (xs := ?_) (by assumption) ?obl ?oba ?_); (case obl => walk_at "ob_sq"); (case oba => first | exact rfl | exact at_zero))
  | ((with_reducible refine' rw_ixT (v := ?_) (xs := ?_) (by assumption) ?obl ?oba ?_); (case obl => walk_at "ob_sq"); (case oba => first | exact rfl | exact at_zero))
  | ((with_reducible refine' ew_lst (by assumption) ?_))
  | ((with_reducible refine' ew_tup (by assumption) ?_)))
local macro_rules | `(tactic| walk_at "ob_len") => `(tactic| first | exact Nat.le_of_ble_eq_true rfl | (simp; done) | omega)
local macro_rules | `(tactic| walk_at "ob") => `(tactic| repeat walk_at "ob1")

/-! ### run_out, ends, waits -/
def rGetL (K : PySem.W.Frag) : V → V → Hp → VK → Prop := fun o i H Q => ∃ p xs k v, o = .ref p ∧ i = .int k ∧ SqL K H p xs ∧ 0 ≤ k ∧ k < 1000000 ∧ xs[k.toNat]? = some v ∧ Q v H
def endV (m : Mac) (n : Int) : V := if m.at_ = n then .int m.since else .non
def waitV (m : Mac) (n : Int) : V := if m.at_ = n then .int m.waits else .non
def aRunOut (K : PySem.W.Frag) (C M : Addr) : List V → Hp → VK → Prop := fun vs F R => ∃ (F0 : Hp) (A : RAd) (w : Wld) (r : Rgt) (p : Bool), vs = [.ref A.a] ∧ A.C = C ∧ A.M = M ∧ RunAt K F0 F A (lBegun w) w r p false [] ∧ WldOk w ∧
  ∀ (q : Addr) (F' : Hp) (n : Nat) (t : LSt), LPath w r p n t → Settled w r p t → RunAt K F0 F' A t w r p false [(q, .lst (t.ms.map fun m => .int m.waits))] → R (.ref q) F'
/-- what is there, machine by machine, of the answers -/
def answers (w : Wld) (t : LSt) (f : Mac → Int → V) : List V := (t.ms.zip w.ms).map fun x => f x.1 x.2.length
def aEndsP (K : PySem.W.Frag) : List V → Hp → VK → Prop := fun vs F R => ∃ (wv rv : V) (w : Wld) (r : Rgt) (p : Bool), vs = [wv, rv] ∧ Dp K F wv (wldD w) ∧ Dp K F rv (rulD r p) ∧ WldOk w ∧
  ∀ (q : Addr) (F' : Hp) (n : Nat) (t : LSt), LPath w r p n t → Settled w r p t → Ex F F' → F q = none → F' q = some (.lst (answers w t endV)) → R (.ref q) F'
def aWaitsP (K : PySem.W.Frag) : List V → Hp → VK → Prop := fun vs F R => ∃ (wv rv : V) (w : Wld) (r : Rgt) (p : Bool), vs = [wv, rv] ∧ Dp K F wv (wldD w) ∧ Dp K F rv (rulD r p) ∧ WldOk w ∧
  ∀ (q : Addr) (F' : Hp) (n : Nat) (t : LSt), LPath w r p n t → Settled w r p t → Ex F F' → F q = none → F' q = some (.lst (answers w t waitV)) → R (.ref q) F'
/-- waits of the machines below i are those of t', the others' those of t -/
def wmix (t t' : LSt) (i : Nat) : List V := (t'.ms.take i).map (fun m => V.int m.waits) ++ (t.ms.drop i).map (fun m => V.int m.waits)
/-- how many of the first i machines of t' wait: what the loop over them has added -/
def bump (w : Wld) (t t' : LSt) (cs : List Clm) : List V := (List.range t.ms.length).map fun k => match t.ms[k]? with
  | some m => V.int (m.waits + (if (k : Int) ∈ cs.map Clm.k then 1 else 0))
  | none => V.non
section
variable {P : Program} {w : World} {K : PySem.W.Frag} {mg : Str → Option Value} {base : Heap} {C M : Addr}
end
end Obr
namespace Obr
open PySem L2 PyProof.Rows
/-! ### the answers of ends, as data -/
def endD (m : Mac) (n : Int) : PyData := if m.at_ = n then .int m.since else .none
def ansD (w : Wld) (t : LSt) : PyData := .list ((t.ms.zip w.ms).map fun x => endD x.1 x.2.length)
/-- an answer of ends of this world, by whatever rule -/
def Alone21 (w : Wld) (d : PyData) : Prop := ∃ (r : Rgt) (p : Bool) (n : Nat) (t : LSt), LPath w r p n t ∧ Settled w r p t ∧ d = ansD w t
def str4u : List V := [.str "rank", .str "turns", .str "wait", .str "least"]
end Obr
namespace Obr
open PySem L2 PyProof.Rows
/-! ### rows of beats, as laws read them -/
def str4 : List V := [.str "rank", .str "turns", .str "wait", .str "least"]
def eoD (x : Int × Int) : PyData := .tuple [.int x.1, .int x.2]
end Obr
/-! ### plans: later, longer, cut, doubled -/
namespace Obr
open PySem L2 PyProof.Rows
/-- machine m' is as m, L beats later -/
structure RL (L : Int) (m m' : Mac) : Prop where
  at_ : m'.at_ = m.at_
  ov : (m.over < 0 ∧ m'.over < 0) ∨ (0 ≤ m.over ∧ m'.over = m.over + L)
  sn : (m.at_ = 0 ∧ m.since = 0 ∧ m'.since = 0) ∨ (0 < m.at_ ∧ m'.since = m.since + L)
theorem RL.core {L : Int} {m m' n n' : Mac} (h : RL L m m') (e : mcore n = mcore m) (e' : mcore n' = mcore m') : RL L n n' := by
  unfold mcore at e e'
  simp only [Prod.mk.injEq] at e e'
  obtain ⟨a1, a2, a3⟩ := e
  obtain ⟨b1, b2, b3⟩ := e'
  exact ⟨by rw [a1, b1]; exact h.at_, by rw [a2, b2]; exact h.ov, by rw [a1, a3, b3]; exact h.sn⟩
theorem RL.end_ {L b : Int} {ss : List Stp} {m m' : Mac} (h : RL L m m') (ho : MacOk ss m) (ho' : MacOk ss m') (hb : 0 ≤ b) (hL : 0 ≤ L) : RL L (endM false b ss m) (endM false (b + L) ss m') := by
  have ha := ho.a0
  have e1 := h.at_
  rcases endM_cases ho hb with ⟨x1, x2, x3⟩ | ⟨x1, x3⟩ <;> rcases endM_cases ho' (show 0 ≤ b + L by omega) with ⟨y1, y2, y3⟩ | ⟨y1, y3⟩
  · rw [x3, y3]
    refine ⟨by show m'.at_ + 1 = m.at_ + 1; omega, Or.inl ⟨by show (-1 : Int) < 0; decide, by show (-1 : Int) < 0; decide⟩, Or.inr ⟨by show 0 < m.at_ + 1; omega, by show b + L = b + L; rfl⟩⟩
  · exfalso
    rcases h.ov with z | z <;> omega
  · exfalso
    rcases h.ov with z | z <;> omega
  · rw [x3, y3]; exact h
theorem RL.beg {L b : Int} {ss : List Stp} {m m' : Mac} (h : RL L m m') (hb : 0 ≤ b) (hl : ∀ st ∈ ss, 0 ≤ st.long) : RL L (begM b ss m) (begM (b + L) ss m') := by
  unfold begM
  rw [h.at_]
  cases hst : ss[m.at_.toNat]? with
  | none => exact h
  | some st =>
    have := hl st (List.mem_of_getElem? hst)
    exact ⟨rfl, Or.inr ⟨by show 0 ≤ b + st.long; omega, by show b + L + st.long = b + st.long + L; omega⟩, h.sn⟩
theorem RL.row {L b : Int} {ss : List Stp} {g : Bool} {m m' : Mac} (h : RL L m m') (ho : MacOk ss m) (ho' : MacOk ss m') (hb : 0 ≤ b) (hL : 0 ≤ L) (hl : ∀ st ∈ ss, 0 ≤ st.long) : RL L (rowM b ss g m) (rowM (b + L) ss g m') := by
  unfold rowM
  cases g with
  | true => exact (h.end_ ho ho' hb hL).beg hb hl
  | false => exact h.end_ ho ho' hb hL
theorem RL.pend {L b : Int} {ss : List Stp} {m m' : Mac} (h : RL L m m') (hb : 0 ≤ b) (hL : 0 ≤ L) : pendM (b + L) ss m' = pendM b ss m := by
  unfold pendM
  rw [h.at_]
  rcases h.ov with z | z
  · rw [if_neg (by omega), if_neg (by omega)]
  · by_cases c : m.over = b
    · rw [if_pos c, if_pos (by omega)]
    · rw [if_neg c, if_neg (by omega)]
/-! ### a plan's own invariants -/
theorem jRow_ok {w : Wld} {t : LSt} {xs : List Int} (h : LOk w t) (hc : canB w (jOpen w t) xs = true) : LOk w (jRow w t xs) := by
  have hb := JB.of (jOpen_ok h) hc
  refine hb.fin.same rfl ?_
  show 0 ≤ (jBegins w (jOpen w t) xs).beat + 1
  rw [jBegins_beat, jOpen_beat]
  have := h.b
  omega
theorem draws_nn {w : Wld} (hw : WldOk w) {t : LSt} {xs : List Int} (h : ∀ x ∈ xs, WaitD w t x (drawK w t x)) : 0 ≤ (xs.map (drawK w t)).sum := by
  refine sum_nn fun y hy => ?_
  obtain ⟨x, hx, rfl⟩ := List.mem_map.mp hy
  obtain ⟨j, m, ss, st, _, _, h2, _, h4, _, e⟩ := (h x hx).ex
  rw [e]
  exact (hw.st ss (List.mem_of_getElem? h2) st (List.mem_of_getElem? h4)).d0
theorem JPath.lev {w : Wld} (hw : WldOk w) {n : Nat} {t : LSt} {rows : List (List Int)} (h : JPath w n t rows) : 0 ≤ t.level ∧ t.level ≤ w.cap := by
  induction h with
  | zero => exact ⟨hw.s0, hw.s1⟩
  | @succ n t rows xs h1 hc ih =>
    have hC := CanB.of (jOpen_ok h1.ok.1) hc
    have e := (row_desc hw h1.ok.1 hc).2.1
    have := hC.sum
    have := draws_nn hw hC.wait
    have := open_lev hw ih.1 ih.2
    rw [e]
    omega
theorem can_nil {w : Wld} {t : LSt} (h : 0 ≤ t.level) : canB w t [] = true := canB_of .nil (fun x hx => by cases hx) h
/-! ### what is told of a plan -/
/-! ### later -/
structure Lt (w : Wld) (L : Int) (t u : LSt) : Prop where
  ms : ∀ (j : Nat) (m : Mac) (ss : List Stp), t.ms[j]? = some m → w.ms[j]? = some ss → ∃ m', u.ms[j]? = some m' ∧ RL L m m'
  beat : u.beat = t.beat + L
  lv : t.level ≤ u.level
  l1 : u.level ≤ w.cap
  ok : LOk w u
theorem Lt.pend {w : Wld} {L : Int} {t u : LSt} (h : Lt w L t u) (ht : LOk w t) (hL : 0 ≤ L) : pend w u.beat u = pend w t.beat t := by
  unfold Obr.pend
  refine (sumM_congr (by rw [h.ok.len, ht.len]) fun k m m' ss h1 h2 h3 => ?_).symm
  obtain ⟨m2, g1, g2⟩ := h.ms k m ss h1 h3
  rw [h2] at g1
  cases g1
  rw [h.beat]
  exact (g2.pend ht.b hL).symm
theorem Lt.open_lv {w : Wld} (hw : WldOk w) {L : Int} {t u : LSt} (h : Lt w L t u) (ht : LInv w t) (hL : 0 ≤ L) : (jOpen w t).level ≤ (jOpen w u).level := by
  have h0 := ht.l0
  have h1 := ht.l1
  have h2 := h.lv
  have h3 := h.l1
  have hb := ht.ok.b
  have hb2 := h.beat
  have hr := hw.r0
  have hp := pend_nn hw (c := t.beat) (t := t)
  rw [open_level hw ht.ok h0 h1, open_level hw h.ok (by omega) h3, h.pend ht.ok hL]
  split <;> split <;> omega
theorem Lt.waitD {w : Wld} {L : Int} {t u : LSt} (h : Lt w L t u) (ht : LOk w t) (hL : 0 ≤ L) {x d : Int} (hx : WaitD w (jOpen w t) x d) : WaitD w (jOpen w u) x d := by
  obtain ⟨j, m1, ss, st, e, h1, h2, h3, h4, h5, h6⟩ := hx.ex
  rw [jOpen_ms h2] at h1
  obtain ⟨m, hm, rfl⟩ := Option.map_eq_some_iff.mp h1
  obtain ⟨m', g1, g2⟩ := h.ms j m ss hm h2
  have z := g2.end_ (ht.m j m ss hm h2) (h.ok.m j m' ss g1 h2) ht.b hL
  refine ⟨j, endM false u.beat ss m', ss, st, e, by rw [jOpen_ms h2, g1]; rfl, h2, ?_, ?_, ?_, h6⟩
  · rw [h.beat]; rcases z.ov with q | q
    · exact q.2
    · omega
  · rw [h.beat, z.at_]; exact h4
  · rw [h.beat, z.at_]; exact h5
theorem long_nn {w : Wld} (hw : WldOk w) {ss : List Stp} (hs : ss ∈ w.ms) : ∀ st ∈ ss, 0 ≤ st.long := fun st h => by have := (hw.st ss hs st h).l0; omega
theorem srt_lt {xs bg : List Int} (hs : xs.Perm bg) (hp : xs.Pairwise (· ≤ ·)) (nd : bg.Nodup) : xs.Pairwise (· < ·) := by
  have h2 : xs.Nodup := hs.nodup_iff.mpr nd
  refine (hp.and h2).imp fun {a b} h => ?_
  have := h.2
  omega
theorem Lt.step {w : Wld} (hw : WldOk w) {L : Int} (hL : 0 ≤ L) {t t' u : LSt} {bg xs : List Int} (ht : LInv w t) (h : Lt w L t u) (b : BDesc w t t' bg) (hs : xs.Perm bg) (hp : xs.Pairwise (· ≤ ·)) : canB w (jOpen w u) xs = true ∧ Lt w L t' (jRow w u xs) := by
  have hwt : ∀ x ∈ xs, WaitD w (jOpen w u) x (drawK w (jOpen w t) x) := fun x hx => h.waitD ht.ok hL (b.wait x (hs.mem_iff.mp hx))
  have hd : xs.map (drawK w (jOpen w u)) = xs.map (drawK w (jOpen w t)) := List.map_congr_left fun x hx => (hwt x hx).draw.1
  have hsum : (xs.map (drawK w (jOpen w u))).sum = (bg.map (drawK w (jOpen w t))).sum := by rw [hd]; exact perm_sum (hs.map _)
  have hlv := h.open_lv hw ht hL
  have hwt' : ∀ x ∈ xs, WaitD w (jOpen w u) x (drawK w (jOpen w u) x) := fun x hx => by
    have z := hwt x hx
    rw [z.draw.1]
    exact z
  have hc : canB w (jOpen w u) xs = true := canB_of (srt_lt hs hp b.nd) hwt' (by rw [hsum]; have := b.sum; omega)
  obtain ⟨d1, d2, d3⟩ := row_desc hw h.ok hc
  have hol := open_lev hw (show 0 ≤ u.level by have := ht.l0; have := h.lv; omega) h.l1
  have hnn := draws_nn hw hwt'
  refine ⟨hc, ⟨fun j m1 ss h1 h2 => ?_, by rw [d1, h.beat, b.beat]; omega, by rw [d2, b.level, hsum]; omega, by rw [d2]; omega, jRow_ok h.ok hc⟩⟩
  obtain ⟨m, hm⟩ := ms_both' ht.ok.len h2
  obtain ⟨m2, g1, g2⟩ := b.ms j m ss hm h2
  rw [h1] at g1
  cases g1
  obtain ⟨m', g3, g4⟩ := h.ms j m ss hm h2
  refine ⟨_, d3 j m' ss g3 h2, ?_⟩
  have e : decide ((j : Int) ∈ xs) = decide ((j : Int) ∈ bg) := decide_eq_decide.mpr hs.mem_iff
  rw [e, h.beat]
  exact (g4.row (ht.ok.m j m ss hm h2) (h.ok.m j m' ss g3 h2) ht.ok.b hL (long_nn hw (List.mem_of_getElem? h2))).core g2 rfl
theorem begunJ_get {w : Wld} {j : Nat} {m : Mac} (h : (lBegun w).ms[j]? = some m) : m.at_ = 0 ∧ m.over = -1 ∧ m.since = 0 := by
  unfold lBegun at h
  rw [List.getElem?_map] at h
  obtain ⟨ss, _, rfl⟩ := Option.map_eq_some_iff.mp h
  exact ⟨rfl, rfl, rfl⟩
theorem late_zero {w : Wld} (hw : WldOk w) : ∀ L : Nat, ∃ u, JPath w L u (List.replicate L []) ∧ Lt w L (lBegun w) u
  | 0 => ⟨lBegun w, .zero, ⟨fun j m ss h1 h2 => by
      have := begunJ_get h1
      exact ⟨m, h1, ⟨rfl, Or.inl ⟨by omega, by omega⟩, Or.inl ⟨this.1, this.2.2, this.2.2⟩⟩⟩, by show _ = _ + ((0 : Nat) : Int); omega, Int.le_refl _, hw.s1, begun_okw⟩⟩
  | L + 1 => by
    obtain ⟨u, h1, h2⟩ := late_zero hw L
    have hl := h1.lev hw
    have hol := open_lev hw hl.1 hl.2
    have hc : canB w (jOpen w u) [] = true := can_nil hol.1
    obtain ⟨d1, d2, d3⟩ := row_desc hw h1.ok.1 hc
    have hb := h1.ok.2
    have hlv := h2.open_lv hw (begun_inv hw) (by omega)
    refine ⟨jRow w u [], ?_, ⟨fun j m ss g1 g2 => ?_, by rw [d1, h2.beat]; omega, ?_, ?_, jRow_ok h1.ok.1 hc⟩⟩
    · have := JPath.succ h1 hc
      rw [List.replicate_succ']
      exact this
    · obtain ⟨m', g3, g4⟩ := h2.ms j m ss g1 g2
      refine ⟨_, d3 j m' ss g3 g2, ?_⟩
      have z := begunJ_get g1
      have hov : m'.over < 0 := by rcases g4.ov with q | q <;> omega
      have e : endM false u.beat ss m' = m' := by
        unfold endM
        rw [if_neg (by omega)]
      show RL _ m (if decide ((j : Int) ∈ []) then _ else endM false u.beat ss m')
      rw [if_neg (by simp), e]
      refine ⟨g4.at_, Or.inl ⟨by omega, hov⟩, ?_⟩
      rcases g4.sn with q | q
      · exact Or.inl q
      · exfalso; omega
    · rw [d2]
      show w.start ≤ _ - (0 : Int)
      have e1 : (jOpen w (lBegun w)).level = w.start := congrArg LSt.level (first_state (w := w) (anew := false))
      omega
    · rw [d2]
      show _ - (0 : Int) ≤ _
      omega
/-- the numbers, rising -/
def sortZ (l : List Int) : List Int := l.mergeSort (fun a b => decide (a ≤ b))
theorem sortZ_perm {l : List Int} : (sortZ l).Perm l := List.mergeSort_perm l _
theorem sortZ_srt {l : List Int} : (sortZ l).Pairwise (· ≤ ·) := by
  have := List.pairwise_mergeSort (le := fun a b : Int => decide (a ≤ b)) (fun a b c h1 h2 => by simp only [decide_eq_true_eq] at *; omega) (fun a b => by simp only [Bool.or_eq_true, decide_eq_true_eq]; omega) l
  exact this.imp fun h => of_decide_eq_true h
theorem sortZ_is {l xs : List Int} (hp : xs.Perm l) (hs : xs.Pairwise (· ≤ ·)) : xs = sortZ l :=
  List.Perm.eq_of_pairwise (fun a b _ _ h k => Int.le_antisymm h k) hs sortZ_srt (hp.trans sortZ_perm.symm)
def rowsZ (rows : List (Int × List Int)) : List (List Int) := rows.map fun x => sortZ x.2
theorem late_rows {w : Wld} (hw : WldOk w) {r : Rgt} {p : Bool} (L : Nat) : ∀ {n : Nat} {t : LSt} {rows : List (Int × List Int)}, LRows w r p n t rows → ∃ u, JPath w (L + n) u (List.replicate L [] ++ rowsZ rows) ∧ Lt w L t u
  | _, _, _, .zero => by
    obtain ⟨u, h1, h2⟩ := late_zero hw L
    exact ⟨u, by simpa [rowsZ] using h1, h2⟩
  | _, _, _, .succ (t := t) (t' := t') (bg := bg) h b => by
    obtain ⟨u, h1, h2⟩ := late_rows hw L h
    have hi := h.path.inv hw
    obtain ⟨c1, c2⟩ := h2.step hw (by omega) hi (beat_desc hw hi b) (sortZ_perm (l := bg)) sortZ_srt
    refine ⟨_, ?_, c2⟩
    have := JPath.succ h1 c1
    rw [List.append_assoc] at this
    unfold rowsZ at this ⊢
    rw [List.map_append]
    exact this
/-! ### ends -/
structure Over (w : Wld) (r : Rgt) (p : Bool) (T : LSt) : Prop where
  path : ∃ N, LPath w r p N T
  set : Settled w r p T
  done : AllDone w T
/-- the last end -/
structure LastEnd (T : LSt) (M : Nat) : Prop where
  le : ∀ m ∈ T.ms, m.since ≤ M
  is : M = 0 ∨ ∃ m ∈ T.ms, m.since = M
end Obr
/-! ### machines called otherwise -/
namespace Obr
open PySem L2 PyProof.Rows Obp
/-- machine k of w is machine nw[k] of w' -/
structure Ren (w w' : Wld) (nw : List Nat) : Prop where
  cap : w'.cap = w.cap
  start : w'.start = w.start
  refill : w'.refill = w.refill
  len : w'.ms.length = w.ms.length
  pm : nw.Perm (List.range w.ms.length)
  at_ : ∀ (k n : Nat), nw[k]? = some n → w'.ms[n]? = w.ms[k]?
def fN (nw : List Nat) (k : Nat) : Nat := nw.getD k 0
def fI (nw : List Nat) (x : Int) : Int := (fN nw x.toNat : Nat)
def renRow (nw : List Nat) (xs : List Int) : List Int := sortZ (xs.map (fI nw))
theorem Ren.nlen {w w' : Wld} {nw : List Nat} (h : Ren w w' nw) : nw.length = w.ms.length := by have := h.pm.length_eq; rwa [List.length_range] at this
theorem Ren.nd {w w' : Wld} {nw : List Nat} (h : Ren w w' nw) : nw.Nodup := h.pm.nodup_iff.mpr List.nodup_range
theorem Ren.get {w w' : Wld} {nw : List Nat} (h : Ren w w' nw) {k : Nat} (hk : k < w.ms.length) : nw[k]? = some (fN nw k) := by
  have hl := h.nlen
  unfold fN
  rw [List.getD_eq_getElem?_getD, List.getElem?_eq_getElem (by omega)]
  rfl
theorem Ren.lt {w w' : Wld} {nw : List Nat} (h : Ren w w' nw) {k : Nat} (hk : k < w.ms.length) : fN nw k < w.ms.length := List.mem_range.mp (h.pm.mem_iff.mp (List.mem_of_getElem? (h.get hk)))
theorem Ren.inj {w w' : Wld} {nw : List Nat} (h : Ren w w' nw) {j k : Nat} (hj : j < w.ms.length) (hk : k < w.ms.length) (e : fN nw j = fN nw k) : j = k := by
  have h1 := h.get hj
  have h2 := h.get hk
  rw [e] at h1
  have hl := h.nlen
  exact (List.getElem?_inj (show j < nw.length by omega) h.nd).mp (h1.trans h2.symm)
theorem ren_list {α : Type} {nw : List Nat} {l l' : List α} (hp : nw.Perm (List.range l.length)) (hl : l'.length = l.length) (h : ∀ (k n : Nat), nw[k]? = some n → l'[n]? = l[k]?) : l'.Perm l := by
  have e1 : nw.map (fun n => l'[n]?) = l.map some := by
    refine List.ext_getElem? fun k => ?_
    rw [List.getElem?_map, List.getElem?_map]
    have hn : nw.length = l.length := by have := hp.length_eq; rwa [List.length_range] at this
    cases hk : nw[k]? with
    | none =>
      have := List.getElem?_eq_none_iff.mp hk
      rw [List.getElem?_eq_none (by omega)]
      rfl
    | some n =>
      have hk2 := (List.getElem?_eq_some_iff.mp hk).1
      have e := h k n hk
      show some (l'[n]?) = _
      rw [e, List.getElem?_eq_getElem (by omega)]
      rfl
  have e2 : (List.range l.length).map (fun n => l'[n]?) = l'.map some := by
    refine List.ext_getElem? fun k => ?_
    rw [List.getElem?_map, List.getElem?_map]
    by_cases hk : k < l.length
    · rw [List.getElem?_range hk]
      show some (l'[k]?) = _
      rw [List.getElem?_eq_getElem (by omega)]
      rfl
    · rw [List.getElem?_eq_none (by simp; omega), List.getElem?_eq_none (by omega)]
      rfl
  have z := hp.map fun n => l'[n]?
  rw [e1, e2] at z
  have z2 := z.filterMap id
  have e3 : ∀ m : List α, (m.map some).filterMap id = m := fun m => by simp
  rw [e3, e3] at z2
  exact z2.symm
theorem Ren.ms {w w' : Wld} {nw : List Nat} (h : Ren w w' nw) : w'.ms.Perm w.ms := ren_list h.pm h.len h.at_
/-- the states of both -/
structure RT (w : Wld) (nw : List Nat) (t t' : LSt) : Prop where
  lv : t'.level = t.level
  bt : t'.beat = t.beat
  len : t.ms.length = w.ms.length
  len' : t'.ms.length = w.ms.length
  at_ : ∀ (k n : Nat), nw[k]? = some n → t'.ms[n]? = t.ms[k]?
theorem RT.ms {w w' : Wld} {nw : List Nat} {t t' : LSt} (h : Ren w w' nw) (r : RT w nw t t') : t'.ms.Perm t.ms := ren_list (by rw [r.len]; exact h.pm) (r.len'.trans r.len.symm) r.at_
theorem zip_at2 {α β : Type} {l l' : List α} {m m' : List β} {k n : Nat} (h1 : l'[n]? = l[k]?) (h2 : m'[n]? = m[k]?) : (l'.zip m')[n]? = (l.zip m)[k]? := by
  show (List.zipWith Prod.mk l' m')[n]? = (List.zipWith Prod.mk l m)[k]?
  rw [List.getElem?_zipWith, List.getElem?_zipWith, h1, h2]
theorem RT.zip {w w' : Wld} {nw : List Nat} {t t' : LSt} (h : Ren w w' nw) (r : RT w nw t t') : (t'.ms.zip w'.ms).Perm (t.ms.zip w.ms) := by
  have l1 := r.len
  have l2 := r.len'
  have l3 := h.len
  refine ren_list (nw := nw) ?_ ?_ fun k n e => zip_at2 (r.at_ k n e) (h.at_ k n e)
  · rw [List.length_zip, l1, Nat.min_self]
    exact h.pm
  · rw [List.length_zip, List.length_zip]
    omega
theorem sumM_zip {f : List Stp → Mac → Int} : ∀ {l : List (List Stp)} {ms : List Mac}, sumM f l ms = ((ms.zip l).map fun x => f x.2 x.1).sum
  | [], [] => rfl
  | [], _ :: _ => rfl
  | _ :: _, [] => rfl
  | s :: l, m :: ms => by
    show f s m + sumM f l ms = _
    rw [List.zip_cons_cons, List.map_cons, List.sum_cons, sumM_zip]
theorem RT.sum {w w' : Wld} {nw : List Nat} {t t' : LSt} (h : Ren w w' nw) (r : RT w nw t t') (f : List Stp → Mac → Int) : sumM f w'.ms t'.ms = sumM f w.ms t.ms := by
  rw [sumM_zip, sumM_zip]
  exact perm_sum ((r.zip h).map _)
theorem ren_begun {w w' : Wld} {nw : List Nat} (h : Ren w w' nw) : RT w nw (lBegun w) (lBegun w') := by
  refine ⟨h.start, rfl, ?_, ?_, fun k n e => ?_⟩
  · unfold lBegun; rw [List.length_map]
  · unfold lBegun; rw [List.length_map]; exact h.len
  · unfold lBegun
    rw [List.getElem?_map, List.getElem?_map, h.at_ k n e]
theorem ren_open {w w' : Wld} {nw : List Nat} (hw : WldOk w) (hw' : WldOk w') (h : Ren w w' nw) {t t' : LSt} (r : RT w nw t t') (ho : LOk w t) (ho' : LOk w' t') (h0 : 0 ≤ t.level) (hl : t.level ≤ w.cap) : RT w nw (jOpen w t) (jOpen w' t') := by
  refine ⟨?_, ?_, (jOpen_ok ho).len, (jOpen_ok ho').len.trans h.len, fun k n e => ?_⟩
  · rw [open_level hw ho h0 hl, open_level hw' ho' (by rw [r.lv]; exact h0) (by rw [r.lv, h.cap]; exact hl)]
    have e : pend w' t'.beat t' = pend w t.beat t := by
      unfold pend
      rw [r.bt]
      exact r.sum h _
    rw [e, r.bt, r.lv, h.cap, h.refill]
  · rw [jOpen_beat, jOpen_beat, r.bt]
  · have hk : k < w.ms.length := by rw [← h.nlen]; exact (List.getElem?_eq_some_iff.mp e).1
    have hs : w.ms[k]? = some w.ms[k] := List.getElem?_eq_getElem hk
    have hs' : w'.ms[n]? = some w.ms[k] := (h.at_ k n e).trans hs
    rw [jOpen_at ho hs, jOpen_at ho' hs', r.at_ k n e, r.bt]
/-- a row that names machines that there are, rising -/
structure RowOk (w : Wld) (xs : List Int) : Prop where
  up : xs.Pairwise (· < ·)
  inR : ∀ x ∈ xs, 0 ≤ x ∧ x < (w.ms.length : Int)
theorem RowOk.can {w : Wld} {t : LSt} {xs : List Int} (h : canB w t xs = true) : RowOk w xs := by
  unfold canB at h
  simp only [Bool.and_eq_true] at h
  refine ⟨rises_ne h.1, fun x hx => ?_⟩
  have := all_id_of h.2.1 hx
  simpa only [Bool.and_eq_true, decide_eq_true_eq] using this
theorem renRow_perm {nw : List Nat} {xs : List Int} : (renRow nw xs).Perm (xs.map (fI nw)) := sortZ_perm
theorem RowOk.nd {w w' : Wld} {nw : List Nat} (h : Ren w w' nw) {xs : List Int} (r : RowOk w xs) : (xs.map (fI nw)).Nodup := by
  rw [List.nodup_iff_pairwise_ne, List.pairwise_map]
  refine r.up.imp_of_mem fun {a b} ha hb hab e => ?_
  have h1 := r.inR a ha
  have h2 := r.inR b hb
  have e2 : fN nw a.toNat = fN nw b.toNat := by
    have e : ((fN nw a.toNat : Nat) : Int) = (fN nw b.toNat : Nat) := e
    omega
  have := h.inj (by omega) (by omega) e2
  omega
theorem RowOk.ren {w w' : Wld} {nw : List Nat} (h : Ren w w' nw) {xs : List Int} (r : RowOk w xs) : RowOk w' (renRow nw xs) := by
  have hn : (renRow nw xs).Nodup := renRow_perm.nodup_iff.mpr (r.nd h)
  refine ⟨?_, fun y hy => ?_⟩
  · have := List.pairwise_and_iff.mpr ⟨sortZ_srt (l := xs.map (fI nw)), List.nodup_iff_pairwise_ne.mp hn⟩
    exact this.imp fun {a b} z => by omega
  · obtain ⟨x, hx, rfl⟩ := List.mem_map.mp (renRow_perm.mem_iff.mp hy)
    have h1 := r.inR x hx
    have := h.lt (k := x.toNat) (by omega)
    rw [h.len]
    unfold fI
    omega
theorem ren_at {w w' : Wld} {nw : List Nat} (h : Ren w w' nw) {x : Int} (hx : 0 ≤ x ∧ x < (w.ms.length : Int)) : nw[x.toNat]? = some (fI nw x).toNat := by
  rw [h.get (by omega)]
  unfold fI
  rw [Int.toNat_natCast]
theorem ren_wait {w w' : Wld} {nw : List Nat} (h : Ren w w' nw) {t t' : LSt} (r : RT w nw t t') {x : Int} (hx : 0 ≤ x ∧ x < (w.ms.length : Int)) : waitB w' t' (fI nw x) = waitB w t x ∧ drawK w' t' (fI nw x) = drawK w t x ∧ longK w' t' (fI nw x) = longK w t x := by
  have e := ren_at h hx
  unfold waitB drawK longK
  rw [r.at_ _ _ e, h.at_ _ _ e]
  exact ⟨rfl, rfl, rfl⟩
theorem all_perm {α : Type} {l l' : List α} {f : α → Bool} (h : l.Perm l') : (l.map f).all id = (l'.map f).all id := by
  rw [Bool.eq_iff_iff, List.all_eq_true, List.all_eq_true]
  exact ⟨fun z x hx => z x ((h.map f).mem_iff.mpr hx), fun z x hx => z x ((h.map f).mem_iff.mp hx)⟩
theorem inRB_ok {w : Wld} {xs : List Int} (r : RowOk w xs) : inRB w xs = true := by
  unfold inRB
  rw [List.all_map, List.all_eq_true]
  intro x hx
  have := r.inR x hx
  show (decide (0 ≤ x) && decide (x < (w.ms.length : Int))) = true
  rw [decide_eq_true this.1, decide_eq_true this.2]
  rfl
theorem rises_ok : ∀ {xs : List Int}, xs.Pairwise (· < ·) → rises xs = true
  | [], _ => rfl
  | [_], _ => rfl
  | a :: b :: l, h => by
    have e : rises (a :: b :: l) = (decide (a < b) && rises (b :: l)) := rfl
    have h2 := List.pairwise_cons.mp h
    rw [e, rises_ok h2.2, decide_eq_true (h2.1 b (.head _))]
    rfl
theorem ren_can {w w' : Wld} {nw : List Nat} (h : Ren w w' nw) {t t' : LSt} (r : RT w nw t t') {xs : List Int} (hx : RowOk w xs) : canB w' t' (renRow nw xs) = canB w t xs := by
  unfold canB
  rw [rises_ok hx.up, rises_ok (hx.ren h).up, inRB_ok hx, inRB_ok (hx.ren h)]
  have e1 : waitsB w' t' (renRow nw xs) = waitsB w t xs := by
    unfold waitsB
    rw [all_perm renRow_perm, List.map_map]
    congr 1
    exact List.map_congr_left fun x hm => (ren_wait h r (hx.inR x hm)).1
  have e2 : ((renRow nw xs).map (drawK w' t')).sum = (xs.map (drawK w t)).sum := by
    rw [perm_sum (renRow_perm.map _), List.map_map]
    congr 1
    exact List.map_congr_left fun x hm => (ren_wait h r (hx.inR x hm)).2.1
  rw [e1, e2, r.lv]
/-- what those that begin leave of machine k -/
theorem jb_at {w : Wld} {u : LSt} : ∀ (xs : List Int) (v : LSt), (∀ x ∈ xs, May w u x) → (xs.map Int.toNat).Nodup → (∀ x ∈ xs, v.ms[x.toNat]? = u.ms[x.toNat]?) → ∀ k : Nat, (jBegins w v xs).ms[k]? = if (k : Int) ∈ xs then (v.ms[k]?).map (fun m => { m with over := v.beat + longK w u k }) else v.ms[k]?
  | [], v, _, _, _, k => by rw [if_neg (by simp)]; rfl
  | x :: xs, v, hx, hn, hv, k => by
    obtain ⟨hge, m, ss, st, h1, h2, h3, h4, h5, h6⟩ := hx x (.head _)
    have hvm : v.ms[x.toNat]? = some m := (hv x (.head _)).trans h1
    have e2 : jBegin w v x = sBegin v x.toNat m st := by
      unfold jBegin
      rw [hvm, h2]
      simp only [h5]
    rw [List.map_cons, List.nodup_cons] at hn
    have e4 : jBegins w v (x :: xs) = jBegins w (sBegin v x.toNat m st) xs := by
      unfold jBegins
      rw [List.foldl_cons, e2]
    have e5 : longK w u x = st.long := by
      unfold longK
      rw [h1, h2]
      simp only [h5]
    have ih := jb_at xs (sBegin v x.toNat m st) (fun y hy => hx y (.tail _ hy)) hn.2 (fun y hy => by
      have hne : x.toNat ≠ y.toNat := fun e => hn.1 (by rw [e]; exact List.mem_map_of_mem hy)
      show (v.ms.set x.toNat _)[y.toNat]? = _
      rw [List.getElem?_set, if_neg hne]
      exact hv y (.tail _ hy)) k
    rw [e4, ih]
    show (if (k : Int) ∈ xs then ((v.ms.set x.toNat { m with over := v.beat + st.long })[k]?).map (fun m => { m with over := v.beat + longK w u k }) else (v.ms.set x.toNat { m with over := v.beat + st.long })[k]?) = _
    by_cases c : (k : Int) = x
    · have hk : x.toNat = k := by omega
      have hno : ¬ (k : Int) ∈ xs := fun z => hn.1 (by rw [← c]; exact List.mem_map_of_mem z)
      rw [if_neg hno, if_pos (by rw [c]; exact .head _), hk, set_get, if_pos rfl]
      rw [hk] at hvm
      rw [hvm]
      show some { m with over := v.beat + st.long } = some { m with over := v.beat + longK w u (k : Int) }
      rw [c, e5]
    · have hk : x.toNat ≠ k := fun z => c (by omega)
      rw [set_get, if_neg hk]
      by_cases d : (k : Int) ∈ xs
      · rw [if_pos d, if_pos (.tail _ d)]
      · rw [if_neg d, if_neg (fun z => (List.mem_cons.mp z).elim c d)]
theorem ren_row {w w' : Wld} {nw : List Nat} (hw : WldOk w) (hw' : WldOk w') (h : Ren w w' nw) {u u' : LSt} (r : RT w nw u u') (ho : LOk w u) (ho' : LOk w' u') {xs : List Int} (hc : canB w u xs = true) :
    RT w nw { jBegins w u xs with beat := (jBegins w u xs).beat + 1 } { jBegins w' u' (renRow nw xs) with beat := (jBegins w' u' (renRow nw xs)).beat + 1 } := by
  have hx := RowOk.can hc
  have hc' : canB w' u' (renRow nw xs) = true := (ren_can h r hx).trans hc
  obtain ⟨may, nd⟩ := can_may hw ho hc
  obtain ⟨may', nd'⟩ := can_may hw' ho' hc'
  have hb : (jBegins w u xs).beat = u.beat := jBegins_beat
  have hb' : (jBegins w' u' (renRow nw xs)).beat = u'.beat := jBegins_beat
  have f1 := (JB.of ho hc).fin.len
  have f2 := (JB.of ho' hc').fin.len
  refine ⟨?_, ?_, f1, f2.trans h.len, fun k n e => ?_⟩
  · show (jBegins w' u' (renRow nw xs)).level = (jBegins w u xs).level
    rw [jb_level _ _ may nd (fun _ _ => rfl), jb_level _ _ may' nd' (fun _ _ => rfl), r.lv]
    rw [perm_sum (renRow_perm.map _), List.map_map]
    have : xs.map (drawK w' u' ∘ fI nw) = xs.map (drawK w u) := List.map_congr_left fun x hm => (ren_wait h r (hx.inR x hm)).2.1
    rw [this]
  · show (jBegins w' u' (renRow nw xs)).beat + 1 = (jBegins w u xs).beat + 1
    rw [hb, hb', r.bt]
  · show (jBegins w' u' (renRow nw xs)).ms[n]? = (jBegins w u xs).ms[k]?
    have hk : k < w.ms.length := by rw [← h.nlen]; exact (List.getElem?_eq_some_iff.mp e).1
    have en : n = fN nw k := by
      have := (h.get hk).symm.trans e
      injection this with this
      exact this.symm
    rw [jb_at _ _ may nd (fun _ _ => rfl), jb_at _ _ may' nd' (fun _ _ => rfl), r.at_ k n e, r.bt]
    have hm : ((n : Nat) : Int) ∈ renRow nw xs ↔ ((k : Nat) : Int) ∈ xs := by
      rw [renRow_perm.mem_iff, List.mem_map]
      constructor
      · rintro ⟨x, hxm, ex⟩
        have h1 := hx.inR x hxm
        have : fN nw x.toNat = fN nw k := by
          unfold fI at ex
          omega
        have := h.inj (by omega) hk this
        have : x = ((k : Nat) : Int) := by omega
        rw [← this]
        exact hxm
      · intro hxm
        refine ⟨_, hxm, ?_⟩
        unfold fI
        rw [Int.toNat_natCast, en]
    have el : longK w' u' ((n : Nat) : Int) = longK w u ((k : Nat) : Int) := by
      have z := (ren_wait h r (x := (k : Int)) ⟨by omega, by omega⟩).2.2
      have : fI nw ((k : Nat) : Int) = ((n : Nat) : Int) := by
        unfold fI
        rw [Int.toNat_natCast, en]
      rw [this] at z
      exact z
    rw [el]
    by_cases c : ((k : Nat) : Int) ∈ xs
    · rw [if_pos c, if_pos (hm.mpr c)]
    · rw [if_neg c, if_neg (fun z => c (hm.mp z))]
theorem ren_path {w w' : Wld} {nw : List Nat} (hw : WldOk w) (hw' : WldOk w') (h : Ren w w' nw) {n : Nat} {t : LSt} {rows : List (List Int)} (hj : JPath w n t rows) : ∃ t', JPath w' n t' (rows.map (renRow nw)) ∧ RT w nw t t' := by
  induction hj with
  | zero => exact ⟨_, .zero, ren_begun h⟩
  | @succ n t rows xs h1 hc ih =>
    obtain ⟨t', h2, r⟩ := ih
    obtain ⟨l0, l1⟩ := h1.lev hw
    have ro := ren_open hw hw' h r h1.ok.1 h2.ok.1 l0 l1
    have hc' : canB w' (jOpen w' t') (renRow nw xs) = true := (ren_can h ro (RowOk.can hc)).trans hc
    refine ⟨_, ?_, ren_row hw hw' h ro (jOpen_ok h1.ok.1) (jOpen_ok h2.ok.1) hc⟩
    rw [List.map_append]
    exact .succ h2 hc'
theorem fold_perm {l l' : List Int} (h : l.Perm l') : ∀ a : Int, l.foldl max a = l'.foldl max a := by
  induction h with
  | nil => intro a; rfl
  | cons x _ ih => intro a; exact ih _
  | swap x y l =>
    intro a
    show l.foldl max (max (max a y) x) = l.foldl max (max (max a x) y)
    congr 1
    omega
  | trans _ _ h1 h2 => intro a; rw [h1, h2]
theorem maxZ_perm {l l' : List Int} (h : l.Perm l') : maxZ l = maxZ l' := fold_perm h 0
theorem ren_judged {w w' : Wld} {nw : List Nat} (h : Ren w w' nw) {t t' : LSt} (r : RT w nw t t') : judgedV w' t' = judgedV w t := by
  unfold judgedV begunB
  rw [all_perm (r.zip h), maxZ_perm ((r.ms h).map endedK)]
/-- a plan whose rows name machines that there are, rising: it can be done, or has a first row that can't be -/
theorem path_or {w : Wld} (rows : List (List Int)) : ∀ n, n ≤ rows.length → (∃ t, JPath w n t (rows.take n)) ∨ ∃ b t xs, b < n ∧ JPath w b t (rows.take b) ∧ rows[b]? = some xs ∧ canB w (jOpen w t) xs = false
  | 0, _ => .inl ⟨_, .zero⟩
  | n + 1, hn => by
    rcases path_or rows n (by omega) with ⟨t, h⟩ | ⟨b, t, xs, h0, h1, h2, h3⟩
    · have hx : rows[n]? = some rows[n] := List.getElem?_eq_getElem (by omega)
      cases hc : canB w (jOpen w t) rows[n] with
      | true =>
        refine .inl ⟨jRow w t rows[n], ?_⟩
        rw [List.take_succ, hx]
        exact .succ h hc
      | false => exact .inr ⟨n, t, _, by omega, h, hx, hc⟩
    · exact .inr ⟨b, t, xs, by omega, h1, h2, h3⟩
/-! ### floors, needs, orders -/
theorem ren_longF {w w' : Wld} {nw : List Nat} (h : Ren w w' nw) : maxZ (w'.ms.map fun ss => (ss.map fun st => st.long).sum) = maxZ (w.ms.map fun ss => (ss.map fun st => st.long).sum) := maxZ_perm (h.ms.map _)
theorem ren_lacks {w w' : Wld} {nw : List Nat} (h : Ren w w' nw) : (w'.ms.flatMap fun ss => ss.map fun st => st.draw - st.back).sum = (w.ms.flatMap fun ss => ss.map fun st => st.draw - st.back).sum := perm_sum (h.ms.flatMap_right _)
theorem needs_at {w w' : Wld} {nw : List Nat} (h : Ren w w' nw) {k : Nat} (hk : k < w.ms.length) : (needsW w').getD (fN nw k) (0, 0) = (needsW w).getD k (0, 0) := by
  unfold needsW
  rw [List.getD_eq_getElem?_getD, List.getD_eq_getElem?_getD, List.getElem?_map, List.getElem?_map, h.at_ k _ (h.get hk)]
theorem ren_least {w w' : Wld} {nw : List Nat} (h : Ren w w' nw) {tn : List Nat} (ht : ∀ k ∈ tn, k < w.ms.length) : leastT (needsW w') (tn.map (fN nw)) = leastT (needsW w) tn := by
  unfold leastT
  rw [List.map_map]
  have : tn.map ((fun k => (needsW w').getD k (0, 0)) ∘ fN nw) = tn.map fun k => (needsW w).getD k (0, 0) := List.map_congr_left fun k hk => needs_at h (ht k hk)
  rw [this]
theorem mem_ordF : ∀ {k : Nat} {l p : List Nat}, p.Perm l → l.length = k → l.Nodup → p ∈ ordF k l
  | 0, l, p, hp, hl, _ => by
    obtain rfl := List.eq_nil_of_length_eq_zero hl
    obtain rfl := hp.eq_nil
    exact List.mem_singleton.mpr rfl
  | k + 1, l, p, hp, hl, hn => by
    match p, hp with
    | [], hp =>
      have := hp.length_eq
      rw [hl] at this
      cases this
    | a :: r, hp =>
      have ha : a ∈ l := hp.mem_iff.mp (.head _)
      have hpn := List.nodup_cons.mp (hp.nodup_iff.mpr hn)
      have hf := hp.filter fun b => !Nat.beq b a
      have e1 : (a :: r).filter (fun b => !Nat.beq b a) = r := by
        rw [List.filter_cons]
        have : (!Nat.beq a a) = false := by rw [Nat.beq_refl]; rfl
        rw [this, if_neg (by decide)]
        refine List.filter_eq_self.mpr fun b hb => ?_
        have hne : b ≠ a := fun z => hpn.1 (z ▸ hb)
        cases e : Nat.beq b a with
        | true => exact absurd (Nat.eq_of_beq_eq_true e) hne
        | false => rfl
      rw [e1] at hf
      refine List.mem_flatMap.mpr ⟨a, ha, List.mem_map.mpr ⟨r, mem_ordF hf ?_ (hn.filter _), rfl⟩⟩
      have h1 := hf.length_eq
      have h2 := hp.length_eq
      rw [List.length_cons] at h2
      omega
theorem permL_many {n : Nat} (h5 : n ≤ 5) : (permL n).length = facN n := by
  match n, h5 with
  | 0, _ => decide +kernel
  | 1, _ => decide +kernel
  | 2, _ => decide +kernel
  | 3, _ => decide +kernel
  | 4, _ => decide +kernel
  | 5, _ => decide +kernel
  | k + 6, h => omega
theorem idx_all {n : Nat} (h5 : n ≤ 5) {p : List Nat} (hp : p.Perm (List.range n)) : ∃ i, i < facN n ∧ idxP n i = p := by
  have hm : p ∈ permL n := mem_ordF hp List.length_range List.nodup_range
  obtain ⟨i, hi⟩ := List.mem_iff_getElem?.mp hm
  refine ⟨i, by rw [← permL_many h5]; exact (List.getElem?_eq_some_iff.mp hi).1, ?_⟩
  unfold idxP
  rw [List.getD_eq_getElem?_getD, hi]
  rfl
/-- lists of numbers, which is greater -/
def gtN : List Nat → List Nat → Bool
  | x :: xs, y :: ys => if Nat.beq x y then gtN xs ys else Nat.ble (y + 1) x
  | xs, ys => Nat.ble (ys.length + 1) xs.length
theorem gtN_self : ∀ l : List Nat, gtN l l = false
  | [] => rfl
  | x :: l => by
    unfold gtN
    rw [Nat.beq_refl, if_pos rfl]
    exact gtN_self l
theorem perm_lex {n : Nat} (h5 : n ≤ 5) : (permL n).Pairwise fun a b => gtN a b = false := by
  match n, h5 with
  | 0, _ => decide +kernel
  | 1, _ => decide +kernel
  | 2, _ => decide +kernel
  | 3, _ => decide +kernel
  | 4, _ => decide +kernel
  | 5, _ => decide +kernel
  | k + 6, h => omega
theorem idx_lex {n i j : Nat} (h5 : n ≤ 5) (hij : i ≤ j) (hj : j < facN n) : gtN (idxP n i) (idxP n j) = false := by
  by_cases e : i = j
  · subst e
    exact gtN_self _
  · have hl := permL_many h5
    have z := List.pairwise_iff_getElem.mp (perm_lex h5) i j (by omega) (by omega) (by omega)
    unfold idxP
    rw [List.getD_eq_getElem?_getD, List.getD_eq_getElem?_getD, List.getElem?_eq_getElem (by omega), List.getElem?_eq_getElem (by omega)]
    exact z
/-- every turn of the one world is a turn of the other -/
theorem ren_turn {w w' : Wld} {nw : List Nat} (h : Ren w w' nw) (h5 : w.ms.length ≤ 5) {i : Nat} (hi : i < facN w.ms.length) : ∃ j, j < facN w.ms.length ∧ idxP w.ms.length j = (idxP w.ms.length i).map (fN nw) ∧ leastT (needsW w') (idxP w'.ms.length j) = leastT (needsW w) (idxP w.ms.length i) := by
  have hp := idx_perm h5 hi
  have hlt : ∀ k ∈ idxP w.ms.length i, k < w.ms.length := fun k hk => List.mem_range.mp (hp.mem_iff.mp hk)
  have hp2 : ((idxP w.ms.length i).map (fN nw)).Perm (List.range w.ms.length) := by
    refine (hp.map (fN nw)).trans ?_
    have : (List.range w.ms.length).map (fN nw) = nw := by
      refine List.ext_getElem? fun k => ?_
      rw [List.getElem?_map]
      by_cases hk : k < w.ms.length
      · rw [List.getElem?_range hk, h.get hk]
        rfl
      · rw [List.getElem?_eq_none (by simp; omega), List.getElem?_eq_none (by rw [h.nlen]; omega)]
        rfl
    rw [this]
    exact h.pm
  obtain ⟨j, hj, e⟩ := idx_all h5 hp2
  refine ⟨j, hj, e, ?_⟩
  rw [h.len, e]
  exact ren_least h hlt
/-- and back -/
def invN (nw : List Nat) (m : Nat) : List Nat := (List.range m).map fun n => nw.findIdx fun x => Nat.beq x n
theorem Ren.back {w w' : Wld} {nw : List Nat} (h : Ren w w' nw) : ∃ nv, Ren w' w nv ∧ ∀ k, k < w.ms.length → fN nv (fN nw k) = k := by
  have hnl := h.nlen
  have hmem : ∀ n, n < w.ms.length → ∃ k, k < w.ms.length ∧ nw[k]? = some n := fun n hn => by
    have hm : n ∈ nw := h.pm.mem_iff.mpr (List.mem_range.mpr hn)
    obtain ⟨k, hk⟩ := List.mem_iff_getElem?.mp hm
    exact ⟨k, by rw [← hnl]; exact (List.getElem?_eq_some_iff.mp hk).1, hk⟩
  have hfn : ∀ {k : Nat}, k < w.ms.length → ∀ {n : Nat}, nw[k]? = some n → fN nw k = n := fun hk n e => by
    have := (h.get hk).symm.trans e
    injection this
  obtain ⟨g, hg⟩ : ∃ g : Nat → Nat, ∀ n, n < w.ms.length → g n < w.ms.length ∧ nw[g n]? = some n := ⟨fun n => if hn : n < w.ms.length then (hmem n hn).choose else 0, fun n hn => by
    show (if hn : n < w.ms.length then (hmem n hn).choose else 0) < w.ms.length ∧ nw[if hn : n < w.ms.length then (hmem n hn).choose else 0]? = some n
    rw [dif_pos hn]
    exact (hmem n hn).choose_spec⟩
  have hgf : ∀ k, k < w.ms.length → g (fN nw k) = k := fun k hk => by
    have hl := h.lt hk
    obtain ⟨h1, h2⟩ := hg _ hl
    exact h.inj h1 hk (hfn h1 h2)
  have hget : ∀ k, k < w.ms.length → ((List.range w.ms.length).map g)[k]? = some (g k) := fun k hk => by
    rw [List.getElem?_map, List.getElem?_range hk]
    rfl
  have hnd : ((List.range w.ms.length).map g).Nodup := by
    rw [List.nodup_iff_pairwise_ne, List.pairwise_map]
    refine (List.nodup_iff_pairwise_ne.mp List.nodup_range).imp_of_mem fun {a b} ha hb hab e => hab ?_
    have ha := List.mem_range.mp ha
    have hb := List.mem_range.mp hb
    have h1 := (hg a ha).2
    have h2 := (hg b hb).2
    rw [e, h2] at h1
    injection h1 with h1
    exact h1.symm
  refine ⟨(List.range w.ms.length).map g, ⟨h.cap.symm, h.start.symm, h.refill.symm, h.len.symm, ?_, fun k n e => ?_⟩, fun k hk => ?_⟩
  · rw [h.len]
    refine (List.perm_ext_iff_of_nodup hnd List.nodup_range).mpr fun x => ?_
    rw [List.mem_map, List.mem_range]
    constructor
    · rintro ⟨k, hk, rfl⟩
      exact (hg k (List.mem_range.mp hk)).1
    · intro hx
      exact ⟨fN nw x, List.mem_range.mpr (h.lt hx), hgf x hx⟩
  · have hk : k < w.ms.length := by
      have := (List.getElem?_eq_some_iff.mp e).1
      rwa [List.length_map, List.length_range] at this
    rw [hget k hk] at e
    injection e with e
    subst e
    exact (h.at_ _ _ (hg k hk).2).symm
  · show ((List.range w.ms.length).map g).getD (fN nw k) 0 = k
    rw [List.getD_eq_getElem?_getD, hget _ (h.lt hk)]
    exact hgf k hk
end Obr
/-! ### an own exception that is made by name: C(f=v), over ValueError -/
namespace Obr
open PySem PySem.W PySem.Calls PySem.HandSPX Builtin
/-- one step on: a part of an object that is known, a question on the class, or what the tree says itself -/
local macro_rules | `(tactic| walk_at "ox_on") => `(tactic| repeat (any_goals (first
  | assumption
  | with_reducible exact rfl
  | with_reducible refine wpAny_madeHere_exc PySem.F.excBase_ValueError.canon (by assumption) ?_
  | with_reducible refine wpAny_madeBy_exc (by assumption) ?_
  | with_reducible refine wpAny_staticBase_exc (by assumption) ?_
  | with_reducible refine wpAny_loadPart_at (by assumption) ?_
  | (with_reducible refine wpAny_isSubtype_exc (by assumption) ?_; first | rw [‹(Value.ref _ :: _).contains (.ref _) = true›] | rw [‹(Value.ref _ :: _).contains (.type "ValueError") = true›] | rw [‹(Value.ref _ :: _).contains (.type "AttributeError") = false›] | rw [‹(Value.ref _ :: _).contains (.type "NameError") = false›])
  | wp_step)))
section
variable {P : Program} {w : World} {A : Around} {R : Result → Shared → Prop} {K : PySem.W.Frag} {C fI : Addr} {kw : List (Str × Value)}
theorem made_by_name (T : L2.OexC K C) (iC : findIn K (.ref C) "__init__" = some (some (.ref fI))) (tI : typeIn K (.ref fI) = some (.type "function")) {s : Shared} (KI : K.In s.heap)
    (z : codeAny (model P w) (A.under (.builtin "type.__call__" ⟨[.ref C], kw⟩)) (.call (.ref fI) ⟨[.ref (s.heap.objs.size + 1)], kw⟩) (InitBack (s.heap.objs.size + 1) R) { s with heap := (s.heap.push (kdv_tup [])).push (excO C s.heap.objs.size) }) :
    codeAny (model P w) A (.call (.ref C) ⟨[], kw⟩) R s := by
  obtain ⟨_, _, _, _, bm, _, _, _, _, _, _, _, _, _, _, look, tail⟩ := T.cls
  have has : ∀ Y : String, (Value.ref C :: bm).contains (.type Y) = ([Value.type "ValueError", .type "Exception", .type "BaseException", .type "object"]).contains (.type Y) := fun Y => by
    rw [List.contains_cons, refsVE_contains Y bm tail]
    rfl
  have i1 := (has "ValueError").trans (c := true) (by decide +kernel)
  have i2 := (has "AttributeError").trans (c := false) (by decide +kernel)
  have i3 := (has "NameError").trans (c := false) (by decide +kernel)
  have at0 := KI _ _ look
  have kind : s.TypeIs (.ref C) "type" := ⟨_, at0, rfl⟩
  have fl := tc_lookup
  have fb := tc_bind (.ref C)
  refine codeAny_of_tree ?_
  show wpAny _ _ (callAny (.ref C) ⟨[], kw⟩) _ _ s
  walk_at "ox_on"
  have F := PySem.F.excBase_ValueError
  have quiet := Code.quiet_builtin (⟨[.ref C], kw⟩ : Args) F.quiet
  refine ⟨rfl, codeAny_call_builtin_at (Code.quiet_builtin _ (by decide +kernel)) entry_typeCall (wpAny_check_type_call_sub at0 ?_)⟩
  walk_at "ox_on"
  refine codeAny_call_builtin_code quiet ?_
  have star := F.noStar
  simp only [checkBuiltinCall, F.newKind, F.newSplit, F.newRow, bne_self_eq_false, Bool.false_eq_true, if_false]
  walk_at "ox_on"
  refine codeAny_builtinAt F.entry (show wpAt _ _ _ (Builtin.«BaseException.__new__» _) _ _ _ from wpAt_bind (show wpAt _ _ _ (stack >>= _) _ _ _ from wpAt_bind (wpAt_stack fun _ _ => wpAt_of_wpAny ?_)))
  walk_at "ox_on"
  rw [if_pos F.ends, F.owner]
  refine wpAny_pure (wpAt_of_wpAny ?_)
  have kp := fun b o (e : s.heap.get? b = some o) => Heap.get?_push_of_some (excO C s.heap.objs.size) (Heap.get?_push_of_some (kdv_tup []) e)
  have at1 := kp _ _ at0
  have self : (Value.ref C :: bm).contains (.ref C) = true := by simp
  have lk := (looks_findIn (M := model P w) KI iC).keeps kp
  have bd := (bind_fn (M := model P w) KI (.ref (s.heap.objs.size + 1)) tI).keeps kp
  walk_at "ox_on"
  refine wpAny_isSubtype_exc at1 ?_
  rw [self]
  walk_at "ox_on"
  rw [Heap.size_push]
  refine lk.at ?_
  refine wpAny_holding (wpAny_bind (bd.at (wpAny_bind (wpAny_call (codeAny_mono z ?_)))))
  intro r s' y
  match r, y with
  | .ok (.ret v), y =>
    obtain ⟨hv, y⟩ := y
    subst hv
    walk_at "ox_on"
  | .error e, y => exact y
  | .ok .next, y => exact False.elim y
  | .ok .brk, y => exact False.elim y
  | .ok .cont, y => exact False.elim y
end
end Obr
namespace Obr
open PySem L2 PySem.Spec PyProof.Rows
/-- C(f=v, ..), nothing by position; C's own __init__ keeps sp -/
def tMkOK (C : Addr) (sp : Sp) (gV : List V → List V → List V) (tk : TA) : L2.St → Hp → L2.XK → Prop := fun σ H Q => tk σ H fun zs G => ∀ a : Addr, G a = none → sp (gV [V.ref a] zs) (upd G a (exo a C none))
  (fun v G' => v = V.non ∧ ∃ dx fs, G' a = some (exo a C (some dx)) ∧ G' dx = some (exd dx fs) ∧ G dx = none ∧ Q (Value.ref C) (some dx) (upd (L2.del G' a) dx (HO.xd fs))) (fun _ _ _ => False)
/-- D.__init__(self, ..), D an own class whose __init__ is ValueError's -/
def tOeI (K : PySem.W.Frag) (D : Addr) (te : TE) (ta : TA) : TE := fun σ H Q => te σ H fun x G => x = V.ref D ∧ ta σ G fun vs G' => ∃ (a C : Addr) (ws : List V), vs = V.ref a :: ws ∧ ws.length ≤ 1000 ∧ OexC K C ∧ G' a = some (exo a C none) ∧ Q V.non G'
section
variable {X : Cx} {o e : Expr} {es : List Expr} {te : TE} {ta tk : TA} {p apos pos : Pos}
theorem pmk_named {CX : CXT} {x : Str} {kws : List Keyword} {C fI : Addr} {k : Nat} {fd : FuncData} {ps ks : List Str} {g : List Value → List Value → List Value} {gV : List V → List V → List V} {sp : Sp} (T : OexC X.K C) (iC : PySem.W.findIn X.K (.ref C) "__init__" = some (some (.ref fI))) (tI : PySem.W.typeIn X.K (.ref fI) = some (.type "function"))
    (F1 : FnOk X.prog X.w X.K X.mg X.base CX k fI fd ps sp) (hr : Room (k + 1) X.A) (hb : KBinds X.K fd ps ks g gV) (hx : Passes CX X (fun _ _ _ => False)) (hg : Gl X x) (hm : X.mg x = some (.ref C)) (hkw : PK X kws tk)
    (all : (backToKw pos (keywordEach kws X.env)).all (·.1.isSome) = true := by rfl) (nms : (backToKw pos (keywordEach kws X.env)).filterMap (·.1) = ks := by rfl)
    (dbg : (x == ("__debug__" : Str)) = false := by decide) (pl : ((backTo pos (starEach [] X.env)).any (·.1) || (backToKw pos (keywordEach kws X.env)).any (·.1.isNone)) = false := by rfl) :
    PMk X (.Call (.Name x p) [] kws pos) (tMkOK C sp gV tk) := fun pins s σ H Q I h => by
  refine wpAny_Call_Name_kw (ld_glob I hg hm (PySem.W.callWith_KW0 (h₀ := X.base) I.ok.mod.kin T.kC all (thn (hkw.run pos pins s σ H _ I h) fun ws s1 ⟨zs, G, J, rz, went⟩ => ⟨J.kIn, ?_⟩) pl) dbg)
  rw [nms]
  show wpAny _ _ (call (.ref C) [] (ks.zip ws)) _ _ s1
  have big := Nat.le_succ s1.heap.objs.size
  have stay := fun b o (e : s1.heap.get? b = some o) => Heap.get?_push_of_some (PySem.HandSPX.excO C s1.heap.objs.size) (Heap.get?_push_of_some (PySem.W.kdv_tup []) e)
  have there : ((s1.heap.push (PySem.W.kdv_tup [])).push (PySem.HandSPX.excO C s1.heap.objs.size)).get? (s1.heap.objs.size + 1) = some (PySem.HandSPX.excO C s1.heap.objs.size) := by heap_get
  have J2 := J.laid (t' := s1.toks) (o := exo (s1.heap.objs.size + 1) C none) stay big (exo_ok there)
  have start := went _ (J.hok.fresh big)
  have me : Vals [V.ref (s1.heap.objs.size + 1)] [Value.ref (s1.heap.objs.size + 1)] := .cons rfl .nil
  have vals := hb.rel me rz
  have long : (g [Value.ref (s1.heap.objs.size + 1)] ws).length = ps.length := vals.length ▸ F1.len _ _ _ _ start
  refine wpAny_call (made_by_name T iC tI J.kIn (codeAny_mono (F1.run _ X.stack _ _ ⟨[Value.ref (s1.heap.objs.size + 1)], ks.zip ws⟩ _ _ _ _ (hr.make C [] (ks.zip ws)) (J2.env0.make C [] (ks.zip ws)) (hb.to _ [Value.ref (s1.heap.objs.size + 1)] ws J2.kIn long) vals start) ?_))
  intro r s' y
  match r, y with
  | .error er, y => exact hx _ σ _ _ er s' J2 y
  | .ok (.ret u), y =>
    obtain ⟨_, G', sameOs, bare, un, ok, rv, rfl, dx, fs, at1, at2, at3, z⟩ := y
    exact ⟨rv, mk_end (raises_own T.exC T.tyC) J big stay un ok sameOs bare at1 at2 at3 z⟩
  | .ok .next, y => exact False.elim y
  | .ok .brk, y => exact False.elim y
  | .ok .cont, y => exact False.elim y
theorem pe_oeinit {pl : Sem Bool} {D : Addr} (ho : PE X o te) (rd : ClX.CRead X.K D (.type "type")) (vV : PySem.W.findCls X.K (.ref D) (.type "type") "__init__" = some (.val (.builtin "ValueError.__init__"))) (ha : PA X (e :: es) ta)
    (tree : eval (.Call (.Attribute o "__init__" apos) (e :: es) [] pos) X.env = (do
      let c ← eval o X.env
      standAt apos.atName
      let fm ← holding [c] (getMethod c "__init__" pl)
      callWith pos fm.1 fm.2 (backTo pos (starEach (e :: es) X.env)) (backToKw pos (keywordEach [] X.env))) := by rfl)
    (one : starEach (e :: es) X.env = (false, eval e X.env) :: starEach es X.env := by rfl) (plain : (backTo pos (starEach es X.env)).any (·.1) = false := by rfl) :
    PE X (.Call (.Attribute o "__init__" apos) (e :: es) [] pos) (tOeI X.K D te ta) := ⟨fun pins s σ H Q I h => by
  refine PySem.W.methodCall_KW (pl := pl) (thn (ho.run pins s σ H _ I h) ?_) tree
  rintro u s1 ⟨_, G, J, ru, rfl, z⟩
  cases (ru : u = Value.ref D)
  refine PySem.W.method_cls J.kIn rd.ga (PySem.W.cls_value J.kIn rd.rd vV (by decide +kernel) ?_)
  refine PyProof.Rows.callWith_method1 (thn (ha.run pos pins _ σ G _ (J.tok (s1.toks + 1)) z) ?_) one plain
  rintro us s3 ⟨_, G', J', rs, a, C, ws, rfl, few, T, at0, z2⟩
  match us, rs with
  | _ :: ur, .cons ra rw' =>
    cases ra
    exact oinit_ok T J' at0 (by rw [← Paired.length rw', sizeLine_eq]; omega) fun _ J'' => ⟨V.non, G', J'', rfl, z2⟩⟩
end
end Obr
/-! ### own exceptions with a field: BadPlan(beat=n) -/
namespace Obr
open PySem PySem.Spec L2 PyProof.Rows
theorem logT {n : Int} (h : n.natAbs.log2 < 1000) : (Str.ofString (toString n)).length ≤ 1001 := by
  have e := int_text_length_le (k := 1000) (by decide) h
  rw [PySem.ofString_length]
  exact e
theorem log_nat {n : Nat} (h : n ≤ 100000) : ((n : Int)).natAbs.log2 < 1000 := by
  have h1 : ((n : Int)).natAbs = n := Int.natAbs_natCast n
  rw [h1]
  by_cases c : n = 0
  · subst c; decide
  · have := (Nat.log2_lt c (k := 17)).mpr (by omega)
    omega
/-- C.__init__(self, n): the exception's text and its field f -/
def spX (K : PySem.W.Frag) (f : Str) : Sp := fun vs H Q _ => ∃ (a C : Addr) (n : Int), vs = [.ref a, .int n] ∧ OexC K C ∧ H a = some (exo a C none) ∧ PySem.W.findIn K (.ref C) f = some none ∧ n.natAbs.log2 < 1000 ∧
  ∀ dx, H dx = none → dx ≠ a → Q .non (upd (upd H dx (exd dx [(f, .int n)])) a (exo a C (some dx)))
section
variable {P : Program} {w : World} {K : PySem.W.Frag} {mg : Str → Option Value} {base : Heap} {D : Addr}
abbrev s_BadPlan__dot____init__ : Stmt := inClass (top 8) 0
def N_BadPlan___init__ : List Str := ["self", "beat"]
theorem sc_BadPlan___init__ : FnScope N_BadPlan___init__ ["self", "beat"] (defScope s_BadPlan__dot____init__) := ⟨rfl, rfl, rfl, by decide +kernel, rfl, by decide +kernel, by decide +kernel⟩
theorem ok_BadPlan___init__ {f : Addr} {fd : FuncData} (Fn : Fun K "__init__" "BadPlan.__init__" s_BadPlan__dot____init__ f fd) (gBE : mg "BreathError" = some (.ref D)) (rd : ClX.CRead K D (.type "type"))
    (vV : PySem.W.findCls K (.ref D) (.type "type") "__init__" = some (.val (.builtin "ValueError.__init__"))) : FnOk P w K mg base CX0 1 f fd ["self", "beat"] (spX K "beat") := by
  refine Fn.ok sc_BadPlan___init__ (fun vs H Q E h => ?_) (fun cdv A outer s H vs Q E hr h => ?_)
  · obtain ⟨a, C, n, rfl, _⟩ := h
    rfl
  · have nd := sc_BadPlan___init__.nd
    obtain ⟨a, C, n, rfl, T, ha, hno, hlog, q⟩ := h
    have z : (10000 : Nat) ≤ sizeLine := by rw [sizeLine_eq]; decide
    have t1 := logT hlog
    refine ⟨_, (pss_cons (ps_expr (pe_oeinit (pe_glob (v := .ref D) (by rfl) gBE (by rfl)) rd vV (pa_cons (pv 0) (pa_cons (pe_joined (PJ.cons pe_str (PJ.cons (pe_fmt (pv 1)) (PJ.cons pe_str PJ.nil)))) pa_nil)))) (pss_one (ps_ost (pv 0) (pv 1)))), ?_⟩
    have l0 : (Str.empty).length = 0 := rfl
    have lt : ∀ x y : Str, (x ++ y).length = x.length + y.length := fun x y => PySem.Str.length_append x y
    have l1 : (Str.ofString "the plan's row at beat ").length ≤ 100 := by decide +kernel
    have l2 : (Str.ofString " can't be").length ≤ 100 := by decide +kernel
    refine ⟨rfl, V.ref a, rfl, _, rfl, ?_, V.int n, rfl, Or.inr ⟨n, rfl, by omega, _, rfl, ?_, _, rfl, ?_, ⟨a, C, [V.str _], rfl, by simp, T, ha, V.int n, rfl, V.ref a, rfl, a, C, rfl, T, hno, Or.inl ⟨ha, q⟩⟩⟩⟩
    all_goals (simp only [lt, l0]; omega)
end
/-- self, and one more by its name -/
def self1 {α : Type} : List α → List α → List α
  | [a], [b] => [a, b]
  | _, _ => []
/-- what is told of an own exception class whose __init__(self, n) keeps n in the field f -/
structure XK (P : Program) (w : World) (K : PySem.W.Frag) (mg : Str → Option Value) (base : Heap) (x f : Str) (C : Addr) (fI : Addr) (fd : FuncData) : Prop where
  T : OexC K C
  iC : PySem.W.findIn K (.ref C) "__init__" = some (some (.ref fI))
  tI : PySem.W.typeIn K (.ref fI) = some (.type "function")
  no : PySem.W.findIn K (.ref C) f = some none
  gX : mg x = some (.ref C)
  kb : KBinds K fd ["self", f] [f] self1 self1
  ok : FnOk P w K mg base CX0 1 fI fd ["self", f] (spX K f)
section
variable {S : Type} {J : S → Hp → Hp → Prop} {K : PySem.W.Frag} {σ : L2.St} {s : S} {F : Hp} {C : Addr} {f : Str} {i : Nat} {n : Int}
/-- raise C(f=n) -/
theorem sw_raiseX {W : Value → Option Addr → Hp → Prop} {D : En S} (hd : Hid J) (T : OexC K C) (hno : PySem.W.findIn K (.ref C) f = some none) (hv : σ[i]? = some (some (.int n))) (hlog : n.natAbs.log2 < 1000)
    (k : ∀ dx, F dx = none → ∀ H', J s (upd F dx (.xd [(f, .int n)])) H' → W (.ref C) (some dx) H') :
    SW J (fun _ σ H => tMkOK C (spX K f) self1 (tCons (tVar i) tNil) σ H fun cls d H' => W cls d H') D σ s F := fun H j D' _ => by
  refine ⟨.int n, hv, fun a ha => ⟨a, C, n, rfl, T, upd_same, hno, hlog, fun dx hdx hne => ⟨rfl, dx, [(f, .int n)], upd_same, ?_, ?_, ?_⟩⟩⟩
  · rw [upd_ne hne, upd_same]
  · rw [← hdx, upd_ne hne]
  · have e : upd (del (upd (upd (upd H a (exo a C none)) dx (exd dx [(f, .int n)])) a (exo a C (some dx))) a) dx (.xd [(f, .int n)]) = upd H dx (.xd [(f, .int n)]) := by
      funext b
      by_cases hb : b = dx
      · subst hb
        rw [upd_same, upd_same]
      · rw [upd_ne hb, upd_ne hb]
        by_cases hba : b = a
        · subst hba
          rw [del_same, ha]
        · rw [del_ne hba, upd_ne hba, upd_ne hb, upd_ne hba]
    rw [e]
    have hdn : H dx = none := by rw [upd_ne hne] at hdx; exact hdx
    exact k dx (hd.fresh j hdn) _ (hd.al j hdn)
end
end Obr
/-! ### the head's look at an own exception class with a field -/
namespace Obr
open PySem PySem.Spec L2 PyProof.Rows
theorem rawX_ok {K : PySem.W.Frag} {C : Addr} (h : rawX K C = true) : ∃ nm q N bs bm sn sub ab col dd k0 k1 k2 k3 k5, K.lookup C = some (excClassObj nm q C N bs bm true sn sub ab col dd k0 k1 k2 k3 k5 "ValueError.__new__") ∧ PySem.HandSPX.refsVE bm = true := by
  unfold rawX at h
  split at h
  · rename_i cl dd cd sl e
    obtain ⟨h1, h⟩ := He.ba h
    obtain ⟨h2, h⟩ := He.ba h
    obtain ⟨h3, h⟩ := He.ba h
    obtain ⟨h4, h5⟩ := He.ba h
    obtain ⟨nm, bs, mro, ns, q, hd, sn, sub, ab, col, del⟩ := cd
    split at h4
    · rename_i c bm em
      obtain ⟨h6, h7⟩ := He.ba h4
      split at h5
      · rename_i a0 a1 a2 a3 n a5 es
        obtain ⟨sll⟩ := sl
        simp only at em es h2 h3
        subst em
        subst es
        obtain rfl := eq_of_beq h1
        obtain rfl := eq_of_beq h6
        obtain rfl := eq_of_beq h5
        subst h3
        have h2 : del = false := by simpa using h2
        subst h2
        exact ⟨nm, q, ns, bs, bm, sn, sub, ab, col, dd, a0, a1, a2, a3, a5, e, h7⟩
      · cases h5
    · cases h4
  · cases h
theorem FunD.selfB {K : PySem.W.Frag} {x qual : Str} {params : Arguments} {body : List Stmt} {scope : Scope} {kws : List (Str × V)} {f : Addr} {fd : FuncData} {n1 n2 : Str} (F : FunD K x qual params body scope [] kws f fd)
    (h : ∀ (kV doc pm : Value) (an : Option Addr) (cdv ct : Value) (a b : Value), bindArgs (PySem.W.fnOf x qual params body scope .none kV doc pm an cdv ct) ⟨[a], [(n2, b)]⟩ = pure [(n1, a), (n2, b)]) : KBinds K fd [n1, n2] [n2] self1 self1 := by
  obtain ⟨_, _, _, kV, doc, pm, an, cdv, ct, _, rfl, _, _, defs, _⟩ := F.ex
  rcases defs with ⟨_, rfl⟩ | ⟨none, _⟩
  · refine ⟨fun s us ws X hl => ?_, fun {vs us zs ws} r1 r2 => ?_⟩
    · match us, ws, hl with
      | [a], [b], _ => exact .of_eq (h kV doc pm an cdv ct a b)
      | [], _, hl => cases hl
      | [_], [], hl => cases hl
      | [_], _ :: _ :: _, hl => cases hl
      | _ :: _ :: _, _, hl => cases hl
    · match vs, us, zs, ws, r1, r2 with
      | [_], [_], [_], [_], .cons r .nil, .cons q .nil => exact .cons r (.cons q .nil)
      | [], [], _, _, .nil, _ => exact .nil
      | [_], [_], [], [], .cons _ .nil, .nil => exact .nil
      | [_], [_], _ :: _ :: _, _ :: _ :: _, .cons _ .nil, .cons _ (.cons _ _) => exact .nil
      | _ :: _ :: _, _ :: _ :: _, _, _, .cons _ (.cons _ _), _ => exact .nil
  · exact absurd rfl none
theorem ownX_ok {P : Program} {w : World} {K : PySem.W.Frag} {mg : Str → Option Value} {base : Heap} {x f : Str} {C : Addr} {fd : FuncData} (h : ownX K C f = true) (g : mg x = some (.ref C)) (kb : KBinds K fd ["self", f] [f] self1 self1)
    (ok : FnOk P w K mg base CX0 1 (He.ma K C "__init__") fd ["self", f] (spX K f)) : XK P w K mg base x f C (He.ma K C "__init__") fd := by
  obtain ⟨h1, h⟩ := He.ba h
  obtain ⟨h2, h⟩ := He.ba h
  obtain ⟨h3, h⟩ := He.ba h
  obtain ⟨h4, h⟩ := He.ba h
  obtain ⟨h5, h⟩ := He.ba h
  obtain ⟨h6, h⟩ := He.ba h
  obtain ⟨h7, h8⟩ := He.ba h
  exact ⟨⟨rawX_ok h1, He.eqO_ok h2, of_decide_eq_true h3, of_decide_eq_true h4, h5⟩, He.eqO_ok h6, of_decide_eq_true h7, He.eqO_ok h8, g, kb, ok⟩
/-- the base of the errors: its __init__ is ValueError's -/
theorem baseX_ok {K : PySem.W.Frag} {D : Addr} (h : baseX K D = true) : ClX.CRead K D (.type "type") ∧ PySem.W.findCls K (.ref D) (.type "type") "__init__" = some (.val (.builtin "ValueError.__init__")) := by
  obtain ⟨h1, h⟩ := He.ba h
  obtain ⟨h2, h3⟩ := He.ba h
  refine ⟨⟨h1, eq_of_beq h2⟩, ?_⟩
  split at h3
  · rename_i v e
    rw [e, eq_of_beq h3]
  · cases h3
end Obr
/-! ### a list greater than a list; xs.pop(i) -/
namespace Obr
open PySem PySem.Spec PyProof.Rows L2 PySem.SeqAt
/-- the list at x is greater than the list at y, both of ints -/
def rGtL (K : PySem.W.Frag) : R2 := fun x y H Q => ∃ (a b : Addr) (xs ys : List Nat), x = .ref a ∧ y = .ref b ∧ SqL K H a (xs.map fun k => V.int (k : Nat)) ∧ SqL K H b (ys.map fun k => V.int (k : Nat)) ∧ Q (.bl (gtN xs ys)) H
theorem firstLt_gt : ∀ {xs ys : List Nat} {e r : Nat → Bool} {s : Nat}, (∀ j, e (s + j) = decide (xs.getD j 0 = ys.getD j 0)) → (∀ j, r (s + j) = decide (ys.getD j 0 < xs.getD j 0)) → firstLt e r (decide (xs.length > ys.length)) (List.range' s (min xs.length ys.length)) = gtN xs ys
  | [], ys, e, r, s, _, _ => by
    rw [List.length_nil, Nat.zero_min]
    show decide (0 > ys.length) = Nat.ble (ys.length + 1) 0
    rw [decide_eq_false (by omega)]
    rfl
  | x :: xs, [], e, r, s, _, _ => by
    rw [List.length_nil, Nat.min_zero]
    show decide ((x :: xs).length > 0) = Nat.ble (0 + 1) (x :: xs).length
    rw [decide_eq_true (by rw [List.length_cons]; omega)]
    rfl
  | x :: xs, y :: ys, e, r, s, he, hr => by
    have h0 : e s = decide (x = y) := he 0
    have h1 : r s = decide (y < x) := hr 0
    have ih := firstLt_gt (xs := xs) (ys := ys) (e := e) (r := r) (s := s + 1) (fun j => by rw [Nat.add_right_comm]; exact he (j + 1)) (fun j => by rw [Nat.add_right_comm]; exact hr (j + 1))
    rw [List.length_cons, List.length_cons, Nat.succ_min_succ, List.range'_succ]
    show (if e s = true then firstLt e r (decide (xs.length + 1 > ys.length + 1)) (List.range' (s + 1) (min xs.length ys.length)) else r s) = (if Nat.beq x y then gtN xs ys else Nat.ble (y + 1) x)
    rw [show decide (xs.length + 1 > ys.length + 1) = decide (xs.length > ys.length) from decide_eq_decide.mpr (by omega), ih, h0, h1]
    by_cases c : x = y
    · rw [if_pos (decide_eq_true c), if_pos (by rw [c]; exact Nat.beq_refl y)]
    · rw [if_neg (by rw [decide_eq_false c]; decide), if_neg (fun z => c (Nat.eq_of_beq_eq_true z))]
      by_cases d : y < x
      · rw [decide_eq_true d]; exact (Nat.ble_eq_true_of_le d).symm
      · rw [decide_eq_false d]
        cases q : Nat.ble (y + 1) x with
        | false => rfl
        | true => exact absurd (Nat.le_of_ble_eq_true q) d
theorem nat_at {its : List Value} {xs : List Nat} (h : Vals (xs.map fun k => V.int (k : Nat)) its) {j : Nat} (hj : j < its.toArray.size) : ∃ t, its.toArray[j] = .int ((xs.getD j 0 : Nat) : Int) t := by
  have hl := h.length
  rw [List.length_map] at hl
  rw [List.size_toArray] at hj
  have hx : (xs.map fun k => V.int (k : Nat))[j]? = some (V.int ((xs.getD j 0 : Nat) : Int)) := by
    rw [List.getElem?_map, List.getD_eq_getElem?_getD, List.getElem?_eq_getElem (by omega)]
    rfl
  obtain ⟨u, hu, ru⟩ := h.get hx
  obtain ⟨t, rfl⟩ := ru
  refine ⟨t, ?_⟩
  have := (List.getElem?_eq_some_iff.mp hu).2
  simpa using this
theorem op_gtL {X : Cx} (room : X.A.units < cLine) : OpR X (compareOp .Gt) (rGtL X.K) := by
  rintro pins s σ H x y v u Q I rx ry ⟨a, b, xs, ys, rfl, rfl, la, lb, q⟩
  cases rx
  cases ry
  obtain ⟨us, r1, p1, _⟩ := I.list la
  obtain ⟨vs, r2, p2, _⟩ := I.list lb
  have z1 : us.toArray.size = xs.length := by have := r1.length; rw [List.length_map] at this; rw [List.size_toArray]; exact this.symm
  have z2 : vs.toArray.size = ys.length := by have := r2.length; rw [List.length_map] at this; rw [List.size_toArray]; exact this.symm
  have got := SeqAt.RcOp.lists_gt (A := X.A) (s := s) (e := fun j => decide (xs.getD j 0 = ys.getD j 0)) (r := fun j => decide (ys.getD j 0 < xs.getD j 0)) p1.isList p2.isList room (fun j h1 h2 => by
    obtain ⟨t, et⟩ := nat_at r1 h1
    obtain ⟨t', et'⟩ := nat_at r2 h2
    rw [et, et', show decide (xs.getD j 0 = ys.getD j 0) = (((xs.getD j 0 : Nat) : Int) == ((ys.getD j 0 : Nat) : Int)) by
      rw [Bool.eq_iff_iff, beq_iff_eq, decide_eq_true_iff]; omega]
    exact SeqAt.EqAt.int_int _ _ _ _) (fun j h1 h2 _ => by
    obtain ⟨t, et⟩ := nat_at r1 h1
    obtain ⟨t', et'⟩ := nat_at r2 h2
    rw [et, et', show decide (ys.getD j 0 < xs.getD j 0) = decide (((ys.getD j 0 : Nat) : Int) < ((xs.getD j 0 : Nat) : Int)) from decide_eq_decide.mpr (by omega)]
    exact fun _ _ _ _ k => PyProof.Rows.gt_int k)
  rw [z1, z2, List.range_eq_range', firstLt_gt (s := 0) (fun j => by rw [Nat.zero_add]) (fun j => by rw [Nat.zero_add])] at got
  exact got X.prog X.w X.xe (EP X pins σ Q) ⟨.bl _, H, I, rfl, q⟩
section
variable {S : Type} {J : S → Hp → Hp → Prop} {K : PySem.W.Frag} {s : S} {F : Hp} {R : V → S → Hp → Prop}
theorem rw_gtL (hd : Hid J) {a b : Addr} {xs ys : List Nat} (h1 : SqL K F a (xs.map fun k => V.int (k : Nat))) (h2 : SqL K F b (ys.map fun k => V.int (k : Nat))) (h : R (.bl (gtN xs ys)) s F) : RW J (rGtL K) (.ref a) (.ref b) s F R := fun H j Q q =>
  ⟨a, b, xs, ys, rfl, rfl, hd.sqL j h1, hd.sqL j h2, q _ _ _ _ j h⟩
theorem mw_popAt (hd : Hid J) {l : Addr} {xs : List V} {k : Nat} {y : V} (h1 : F l = some (.lst xs)) (hk : xs[k]? = some y) (hs : xs.length ≤ 1000) (h : R y s (upd F l (.lst (xs.eraseIdx k)))) : MW J rPopAt (.ref l) [.int (k : Nat)] s F R := fun H j Q q => by
  have hl := (List.getElem?_eq_some_iff.mp hk).1
  refine ⟨l, xs, (k : Nat), k, y, rfl, rfl, hd.ex j _ _ h1, by omega, by omega, ?_, hk, q _ _ _ _ (hd.mu j h1) h⟩
  unfold seqIndex?
  simp
  omega
end
end Obr
namespace Obr
open PySem PySem.Spec L2 PyProof.Rows
local macro_rules | `(tactic| walk_at "ob_wat") => `(tactic| first
  | with_reducible refine WAt.g_store (by assumption) ?_
  | with_reducible refine WAt.g_machines (by assumption) ?_
  | with_reducible refine WAt.g_rule (by assumption) ?_
  | with_reducible refine WAt.g_level (by assumption) ?_
  | with_reducible refine WAt.g_at (by assumption) ?_
  | with_reducible refine WAt.g_over (by assumption) ?_
  | with_reducible refine WAt.g_since (by assumption) ?_
  | with_reducible refine WAt.g_last (by assumption) ?_
  | with_reducible refine WAt.g_beat (by assumption) ?_
  | with_reducible refine WAt.g_done (by assumption) ?_
  | with_reducible refine WAt.g_waits (by assumption) ?_
  | with_reducible refine WAt.g_ends (by assumption) ?_
  | ((with_reducible refine' WAt.r_at_ (t := ?_) (m := ?_) ?obw ?obd ?obm ?_); (case obw => assumption); (case obd => assumption); (case obm => assumption))
  | ((with_reducible refine' WAt.r_over (t := ?_) (m := ?_) ?obw ?obd ?obm ?_); (case obw => assumption); (case obd => assumption); (case obm => assumption))
  | ((with_reducible refine' WAt.r_since (t := ?_) (m := ?_) ?obw ?obd ?obm ?_); (case obw => assumption); (case obd => assumption); (case obm => assumption))
  | ((with_reducible refine' WAt.r_done (t := ?_) (m := ?_) ?obw ?obd ?obm ?_); (case obw => assumption); (case obd => assumption); (case obm => assumption))
  | ((with_reducible refine' WAt.r_waits (t := ?_) (m := ?_) ?obw ?obd ?obm ?_); (case obw => assumption); (case obd => assumption); (case obm => assumption))
  | ((with_reducible refine' WAt.r_right ?obw ?obd ?_); (case obw => assumption); (case obd => assumption))
  | ((with_reducible refine' WAt.r_pass ?obw ?obd ?_); (case obw => assumption); (case obd => assumption)))
local macro_rules | `(tactic| walk_at "ob_at") => `(tactic| first
  | assumption
  | exact upd_same
  | (refine Eq.trans (upd_ne ?obn) ?obr; (case obn => walk_at "ob_ne"); (case obr => walk_at "ob_at")))
local macro_rules | `(tactic| walk_at "ob_ne") => `(tactic| first
  | assumption
  | (refine Ne.symm ?obs; (case obs => assumption))
  | (refine' ne_of_none (H := ?_) ?obe ?obh; (case obh => assumption); (case obe => walk_at "ob_at"))
  | (refine Ne.symm ?obs; (case obs => (refine' ne_of_none (H := ?_) ?obe ?obh; (case obh => assumption); (case obe => walk_at "ob_at")))))
local macro_rules | `(tactic| walk_at "ob_fr") => `(tactic| first
  | assumption
  | (refine Eq.trans (upd_ne ?obn) ?obr; (case obn => walk_at "ob_ne"); (case obr => walk_at "ob_fr"))
  | (refine Ex.free (G := ?_) (by assumption) ?obh; (case obh => walk_at "ob_fr")))
local macro_rules | `(tactic| walk_at "ob_ex") => `(tactic| first
  | assumption
  | exact Ex.refl _
  | (refine Ex.out ?obg ?obh; (case obh => assumption); (case obg => walk_at "ob_ex"))
  | (refine Ex.new ?obg ?obh; (case obh => assumption); (case obg => walk_at "ob_ex"))
  | (refine Ex.new ?obg ?obh; (case obh => walk_at "ob_fr"); (case obg => walk_at "ob_ex")))
local macro_rules | `(tactic| walk_at "ob_sq") => `(tactic| first
  | assumption
  | (refine SqL.of ?oba; (case oba => walk_at "ob_at"))
  | (refine Ex.sqT (F := ?_) ?obg ?obh; (case obh => assumption); (case obg => walk_at "ob_ex"))
  | (refine Ex.sqL (F := ?_) ?obg ?obh; (case obh => assumption); (case obg => walk_at "ob_ex"))
  | (refine SqT.of ?oba; (case oba => walk_at "ob_at")))
local macro_rules | `(tactic| walk_at "ob_side") => `(tactic| first | exact rfl | assumption | decide | omega | exact ⟨by decide, by decide, by decide⟩ | exact Or.inr ⟨by decide, by decide⟩ | exact Or.inl ⟨by decide, by decide⟩ | exact wide_div (b := 60) (by first | decide | omega) (by first | decide | omega) (by decide) (by decide))
local macro_rules | `(tactic| walk_at "ob1") => `(tactic| first
  | walk_at "ob_wat"
  | with_reducible refine sw_seq ?_
  | with_reducible refine sw_asg ?_
  | with_reducible refine sw_ret ?_
  | with_reducible refine sw_par ?_
  | with_reducible refine ⟨_, _, rfl, ?_⟩
  | with_reducible refine sw_drop ?_
  | with_reducible refine sw_if ?_
  | with_reducible refine sw_next ?_
  | with_reducible refine gw_name ?_
  | with_reducible refine gw_subL (by assumption) ?_
  | with_reducible refine gsw_cons ?_
  | with_reducible refine gsw_nil ?_
  | with_reducible refine ew_c ?_
  | ((with_reducible refine' ew_var (v := ?_) ?obv ?_); (case obv => exact rfl))
  | ((with_reducible refine ew_next (by assumption) ?obv ?_); (case obv => exact rfl))
  | ((with_reducible refine ew_world (by assumption) ?obv ?_); (case obv => exact rfl))
  | ((with_reducible refine ew_rule (by assumption) ?obv ?_); (case obv => exact rfl))
  | with_reducible refine ew_op ?_
  | with_reducible refine ew_un ?_
  | with_reducible refine ew_dget (by assumption) ?_
  | with_reducible refine uw_I ?_
  | with_reducible refine ppw_nil ?_
  | with_reducible refine ppw_cons ?_
  | with_reducible refine sw_dput (by assumption) ?_
  | with_reducible refine ew_cb ?_
  | with_reducible refine ew_if ?_
  | with_reducible refine ew_slL (by assumption) ?_
  | with_reducible refine ow_some ?_
  | with_reducible refine ow_none ?_
  | with_reducible refine aw_nil ?_
  | with_reducible refine aw_cons ?_
  | with_reducible refine rw_I0 ?_
  | ((with_reducible refine rw_I ?obc ?_); (case obc => walk_at "ob_side"))
  | with_reducible refine rw_isN ?_
  | with_reducible refine rw_notN ?_
  | ((with_reducible refine rw_eq ?obc ?_); (case obc => exact rfl))
  | ((with_reducible refine rw_ne ?obc ?_); (case obc => exact rfl))
  | with_reducible refine cw_max2 ?_
  | with_reducible refine cw_min2 ?_
  | with_reducible refine tw_test ?_
  | with_reducible refine tw_B ?_
  | with_reducible refine tw_not ?_
  | with_reducible refine tw_truB ?_
  | with_reducible refine tw_and ?_
  | with_reducible refine tw_or ?_
  | with_reducible refine ew_and ?_
  | (refine' Exists.intro _ (And.intro (show V.bl _ = V.bl _ from rfl) ?_))
  | (refine' Exists.intro _ (And.intro (show V.int _ = V.int _ from rfl) ?_))
  | ((with_reducible refine' rw_ixL (v := ?_) (xs := ?_) (by assumption) ?obl ?oba ?_); (case obl => walk_at "ob_sq"); (case oba => first | exact rfl | exact at_zero))
  | ((with_reducible refine' rw_ixT (v := ?_) (xs := ?_) (by assumption) ?obl ?oba ?_); (case obl => walk_at "ob_sq"); (case oba => first | exact rfl | exact at_zero))
  | ((with_reducible refine' ew_lst (by assumption) ?_))
  | ((with_reducible refine' ew_tup (by assumption) ?_)))
local macro_rules | `(tactic| walk_at "ob_len") => `(tactic| first | exact Nat.le_of_ble_eq_true rfl | (simp; done) | omega)
local macro_rules | `(tactic| walk_at "ob") => `(tactic| repeat walk_at "ob1")

/-- judged, the plan's first bad row at bb -/
def aJudgedX (K : PySem.W.Frag) (C : Addr) : List V → Hp → (Value → Option Addr → Hp → Prop) → Prop := fun vs F W => ∃ (wv : V) (w : Wld) (pa : Addr) (rows : List (List Int)) (bb : Nat) (tb : LSt), vs = [wv, .ref pa] ∧ Dp K F wv (wldD w) ∧ WldOk w ∧ PlanAt K F pa rows ∧ bb < rows.length ∧ bb ≤ 500 ∧ JPath w bb tb (rows.take bb) ∧ (bb = 500 ∨ ∀ xs, rows[bb]? = some xs → canB w (jOpen w tb) xs = false) ∧ (∀ xs ∈ rows, xs.length ≤ 1000) ∧
  ∀ (dx : Addr) (F' : Hp), Ex F F' → F' dx = none → W (.ref C) (some dx) (upd F' dx (.xd [("beat", .int (bb : Int))]))
section
variable {P : Program} {w : World} {K : PySem.W.Frag} {mg : Str → Option Value} {base : Heap} {C M cBadPlan : Addr} {tMR : Tok}

theorem okX_judged {f : Addr} {fd : FuncData} {f1 : Addr} {fd1 : FuncData} {f2 : Addr} {fd2 : FuncData} {f3 : Addr} {fd3 : FuncData} {f4 : Addr} {fd4 : FuncData} {f5 : Addr} {fd5 : FuncData} {f6 : Addr} {fd6 : FuncData} {f7 : Addr} {fd7 : FuncData} {f8 : Addr} {fd8 : FuncData} (Fn : Fun K "judged" "judged" s_judged f fd) (B : Blt mg) (HR : ClsF K C rkeys) (HM : ClsF K M mkeys) {tMR : Tok} (gMOST_ROWS : mg "MOST_ROWS" = some (.int 500 tMR)) (Ball : mg "all" = none) (Ccheck_world : Cal K mg "check_world" f1 fd1 ["world"]) (Gcheck_world : FnOk P w K mg base CX0 3 f1 fd1 ["world"] (LS (aChkW K))) (MK_Shop : Mk K C f2) (G_Shop : FnOk P w K mg base CX0 4 f2 fd2 ["self", "world", "anew"] (LS (aSInit K C M))) (MK_Shop_g : mg "Shop" = some (.ref C)) (MK_Shop_a : Binds K fd2 ["self", "world", "anew"] []) (M_open_beat : Met K C "open_beat" f3 fd3 ["self"]) (G_open_beat : FnOk P w K mg base CX0 3 f3 fd3 ["self"] (LS (aOpenB true K C M))) (Ccan_begin : Cal K mg "can_begin" f4 fd4 ["shop", "row"]) (Gcan_begin : FnOk P w K mg base CX0 3 f4 fd4 ["shop", "row"] (LS (aCanBegin K C M))) (M_begin : Met K C "begin" f5 fd5 ["self", "machine"]) (G_begin : FnOk P w K mg base CX0 2 f5 fd5 ["self", "machine"] (LS (aBeginR true K C M))) (M_close_beat : Met K C "close_beat" f6 fd6 ["self"]) (G_close_beat : FnOk P w K mg base CX0 1 f6 fd6 ["self"] (LS (aCloseB true K C M))) (Chas_begun_all : Cal K mg "has_begun_all" f7 fd7 ["machine"]) (Ghas_begun_all : FnOk P w K mg base CX0 2 f7 fd7 ["machine"] (LS (aBegunAll K M))) (M_is_busy : Met K M "is_busy" f8 fd8 ["self"]) (G_is_busy : FnOk P w K mg base CX0 1 f8 fd8 ["self"] (LS (aBusy K M))) {fI : Addr} {fdI : FuncData} (XBadPlan : XK P w K mg base "BadPlan" "beat" cBadPlan fI fdI) : FnOk P w K mg base (L2.CX P w) 6 f fd ["world", "plan"] (LX (aJudgedX K cBadPlan)) := by
  refine Fn.okX sc_judged (fun vs H Q E h => ?_) (fun cdv A outer s H vs Q E hr h => ?_)
  · obtain ⟨J, F, W, hd, j, h, _⟩ := h
    obtain ⟨wv, w, pa, rows, bb, tb, rfl, _⟩ := h
    rfl
  · have nd := sc_judged.nd
    obtain ⟨J, F, W, hd, j, h, q⟩ := h
    obtain ⟨wv, w, pa, rows, bb, tb, rfl, dw, hw, hp, hbl, hb5, hj, hbad, hx5, k⟩ := h
    refine ⟨_, (pss_cons (ps_expr (pe_call Gcheck_world (by exact hr.mono (by decide)) (by rfl) Ccheck_world.g Ccheck_world.k Ccheck_world.a .nil pass0 (pa_cons (pv 0) pa_nil)))
      (pss_cons (ps_set (i := 2) nd rfl (Or.inl rfl) (pe_make MK_Shop G_Shop (by exact hr.mono (by decide)) (by rfl) MK_Shop_g MK_Shop_a .nil pass0 (pa_cons (pv 0) (pa_cons pe_bl pa_nil))))
      (pss_cons (ps_for PassesOwn.leaving rfl (pi_or (pi_enum (by rfl) B.enumerate (pa_cons (pv 1) pa_nil)) (pi_enumT (by rfl) B.enumerate (pa_cons (pv 1) pa_nil))) (pg_tup rfl (pgs_cons (pg_name (i := 3) nd rfl (Or.inl rfl)) (pgs_cons (pg_name (i := 4) nd rfl (Or.inl rfl)) pgs_nil))) (pss_cons (ps_expr (pe_meth0 (pv 2) M_open_beat.cl M_open_beat.m G_open_beat (by exact hr.mono (by decide)) M_open_beat.a .nil pass0))
      (pss_cons (ps_if (PW.pt (pw_or (pt_cmpR op_eq (pv 3) (pe_glob (v := .int 500) rfl gMOST_ROWS ⟨_, rfl⟩) (nomark _)) (pw_or1 (pt_not (pt_val (pe_call Gcan_begin (by exact hr.mono (by decide)) (by rfl) Ccan_begin.g Ccan_begin.k Ccan_begin.a .nil pass0 (pa_cons (pv 2) (pa_cons (pv 4) pa_nil)))))))) (pss_one (ps_raise rfl (takes_of rfl rfl rfl rfl) (pmk_named XBadPlan.T XBadPlan.iC XBadPlan.tI XBadPlan.ok (by exact hr.mono (by decide)) XBadPlan.kb pass0 (by rfl) XBadPlan.gX (pk_cons (pv 3) pk_nil)))) pss_nil)
      (pss_cons (ps_for PassesOwn.leaving rfl (pi_or (pi_list (pv 4)) (pi_tup (pv 4))) (pg_name (i := 5) nd rfl (Or.inl rfl)) (pss_one (ps_expr (pe_meth (pv 2) M_begin.cl M_begin.m G_begin (by exact hr.mono (by decide)) M_begin.a .nil pass0 (pa_cons (pe_ix ix_list (pe_fld (pv 2) rfl) (pv 5) (fun _ _ => rfl)) pa_nil)))))
      (pss_one (ps_expr (pe_meth0 (pv 2) M_close_beat.cl M_close_beat.m G_close_beat (by exact hr.mono (by decide)) M_close_beat.a .nil pass0)))))))
      (pss_cons (ps_never)
      (pss_cons (ps_never)
      (pss_one (ps_never))))))), ?_⟩
    refine LX.body j ?_
    obtain ⟨vs, hpl, hvl, hpr⟩ := hp
    have hm5 := hw.m
    refine sw_seq (sw_drop (ew_call hd ?_))
    walk_at "ob"
    refine ⟨wv, w, rfl, dw, hw, fun F1 g1 => ?_⟩
    refine sw_seq (sw_asg (ew_make hd (aw_cons (ew_var rfl (aw_cons (ew_c (aw_nil fun x dx hx hdx hne => ?_)))))))
    have hx2 : upd F1 dx (.own x) x = none := by rw [upd_ne hne.symm]; exact hx
    have g2 := Ex.new (.refl F1) hdx (u := .own x)
    refine ⟨upd F1 dx (.own x), x, dx, wv, w, Rgt.rank, true, false, rfl, rfl, hx2, dp_ex (g1.trans g2) dw, hm5, fun F2 A e1 e2 e3 eP hE => ⟨rfl, gw_name ?_⟩⟩
    subst e1 e2 e3
    have gB : Ex F (upd (upd F1 dx (.own A.a)) A.ml (.lst (A.mads.map fun ad => .ref ad.a))) := (g1.trans g2).trans (Ex.new (.refl _) hE.ml0)
    have hS0 := hE.shut
    generalize upd (upd F1 dx (.own A.a)) A.ml (.lst (A.mads.map fun ad => .ref ad.a)) = F0 at gB hS0
    refine sw_seq ?_
    refine sw_mid (fun _ _ _ => False) ?_ ?_
    · refine sw_forEO hd (B := F) (fun i σ _ G => ∃ (x3 x4 x5 : Option V) (ti : LSt), σ = [some wv, some (.ref pa), some (.ref A.a), x3, x4, x5, none, none] ∧ i ≤ bb ∧ JPath w i ti (rows.take i) ∧ SAt true K F0 G A ti w Rgt.rank true false []) (aw_cons (ew_var rfl (aw_nil ⟨rfl, rfl, rfl⟩))) hpl ⟨none, none, none, _, rfl, Nat.zero_le _, .zero, hS0⟩ ?_ ?_ ?_
      · rintro i σ _ G hi ⟨x3, x4, x5, ti, rfl, hib, hJi, hG⟩
        exact gB.trans hG.own.ex
      · rintro i v σ _ G T hi ⟨x3, x4, x5, ti, rfl, hib, hJi, hG⟩ hT
        refine gw_tup hd ⟨T, _, rfl, SqT.of upd_same, rfl, gsw_cons (gw_name (gsw_cons (gw_name (gsw_nil ?_))))⟩
        have hG1 := hG.new' (o := .tup [.int (i : Int), v]) hT
        have hil : i < rows.length := by rw [← hvl]; exact (List.getElem?_eq_some_iff.mp hi).1
        obtain ⟨xs, hxs⟩ : ∃ xs, rows[i]? = some xs := ⟨_, List.getElem?_eq_getElem hil⟩
        obtain ⟨ra, rfl, hrow⟩ := hpr i v xs hi hxs
        have hopen := jOpen_ok (w := w) hJi.ok.1
        have hx1 := hx5 xs (List.mem_of_getElem? hxs)
        refine sw_seq (sw_drop (ew_meth hd (ew_var rfl ⟨A.a, A.dx, _, rfl, hG1.cell, rfs_no (by decide +kernel), aw_nil ⟨F0, A, ti, w, Rgt.rank, true, false, [], rfl, rfl, rfl, hG1, hJi.ok.1, hm5, fun q2 G2 hG2 => ?_⟩⟩)))
        have hG3 : SAt true K F0 G2 A (jOpen w ti) w Rgt.rank true false [] := hG2.drop
        clear hG2
        have bad : ∀ {D : En Unit} (G4 : Hp), Ex G2 G4 → i = bb → SW J (fun _ σ H => tMkOK cBadPlan (spX K "beat") self1 (tCons (tVar 3) tNil) σ H fun cls d H' => E cls d H') D [some wv, some (.ref pa), some (.ref A.a), some (.int (i : Int)), some (.ref ra), x5, none, none] () G4 := fun G4 g4 e =>
          sw_raiseX hd XBadPlan.T XBadPlan.no rfl (log_nat (by omega)) fun dx hdx H' j' => q _ _ _ _ j' (by rw [e]; exact k dx G4 ((gB.trans hG3.own.ex).trans g4) hdx)
        by_cases hlt0 : i < bb
        · have hlt : i + 1 ≤ bb := hlt0
          have hxb : (rows.take bb)[i]? = some xs := by rw [List.getElem?_take_of_lt hlt0]; exact hxs
          have hJb : JPath w i ti ((rows.take bb).take i) := by rw [List.take_take, Nat.min_eq_left (by omega)]; exact hJi
          obtain ⟨hcan, hnext⟩ := hj.step hxb hJb
          rw [List.take_take, Nat.min_eq_left hlt] at hnext
          refine sw_seq (sw_if (tw_or (tw_test (ew_op (ew_var rfl (ew_c (rw_eq rfl ⟨_, rfl, fun hb => ?_, fun hb => ?_⟩)))))))
          · exfalso
            have e := of_decide_eq_true hb
            injection e with e
            omega
          refine tw_not (tw_B (ew_call hd (aw_cons (ew_var rfl (aw_cons (ew_var rfl (aw_nil ⟨F0, A, jOpen w ti, w, Rgt.rank, true, false, [], ra, xs, rfl, rfl, rfl, hG3, hopen, (gB.trans hG3.own.ex).sqO hrow, hx1, fun G4 g4 => ⟨_, rfl, ?_⟩⟩)))))))
          rw [hcan]
          refine ⟨(fun z => by cases z), fun _ => sw_next ?_⟩
          have hG4 := hG3.grow g4
          have hJB := JB.of hopen hcan
          refine sw_seq ?_
          refine sw_mid (fun σ _ G' => ∃ x5 : Option V, σ = [some wv, some (.ref pa), some (.ref A.a), some (.int (i : Int)), some (.ref ra), x5, none, none] ∧ SAt true K F0 G' A (jBegins w (jOpen w ti) xs) w Rgt.rank true false []) ?_ ?_
          · refine sw_forO hd (B := F) (fun k σ _ G' => ∃ x5 : Option V, σ = [some wv, some (.ref pa), some (.ref A.a), some (.int (i : Int)), some (.ref ra), x5, none, none] ∧ SAt true K F0 G' A (jBegins w (jOpen w ti) (xs.take k)) w Rgt.rank true false []) (ew_var rfl ⟨rfl, rfl, rfl⟩) hrow ⟨x5, rfl, hG4⟩ ?_ ?_ ?_
            · rintro k' σ _ G' hk' ⟨y5, rfl, hG'⟩
              exact gB.trans hG'.own.ex
            · rintro k' y σ _ G' hk' ⟨y5, rfl, hG'⟩
              rw [List.getElem?_map] at hk'
              obtain ⟨x, hxk, rfl⟩ := Option.map_eq_some_iff.mp hk'
              have hJk := hJB.drop k'
              have hxd : x ∈ xs.drop k' := by
                refine List.mem_of_getElem? (i := 0) ?_
                rw [List.getElem?_drop]
                exact hxk
              have h0 := hJk.ge x hxd
              have hwt := hJk.wt x hxd
              have htk : xs.take (k' + 1) = xs.take k' ++ [x] := by rw [List.take_succ, hxk]; rfl
              obtain ⟨m, ss, st, y1, y2, y3, y4⟩ : ∃ m ss st, (jBegins w (jOpen w ti) (xs.take k')).ms[x.toNat]? = some m ∧ w.ms[x.toNat]? = some ss ∧ 0 ≤ m.at_ ∧ ss[m.at_.toNat]? = some st := by
                unfold waitB at hwt
                split at hwt
                · rename_i m ss hm hs
                  have hwt := of_decide_eq_true hwt
                  have ho := hJk.ok.m _ m ss hm hs
                  have := ho.a0
                  have := ho.a1
                  exact ⟨m, ss, _, hm, hs, ho.a0, List.getElem?_eq_getElem (by omega)⟩
                · cases hwt
              have hkl : x.toNat < w.ms.length := (List.getElem?_eq_some_iff.mp y2).1
              obtain ⟨ad, _, _, z1, _, _⟩ := hG'.three hkl
              have hl0 := (hw.st ss (List.mem_of_getElem? y2) st (List.mem_of_getElem? y4)).l0
              have hb0 := hJk.ok.b
              have e7 : jBegins w (jOpen w ti) (xs.take (k' + 1)) = sBegin (jBegins w (jOpen w ti) (xs.take k')) x.toNat m st := by
                have e5 : ∀ (T : LSt) (l : List Int) (x : Int), jBegins w T (l ++ [x]) = jBegin w (jBegins w T l) x := fun T l x => by unfold jBegins; rw [List.foldl_append]; rfl
                rw [htk, e5]
                unfold jBegin
                rw [y1, y2]
                simp only [y4]
              refine gw_name (sw_drop (ew_meth hd (ew_var rfl ⟨A.a, A.dx, _, rfl, hG'.cell, rfs_no (by decide +kernel), ?_⟩)))
              refine aw_cons (ew_op (ew_fld hd (ew_var rfl ⟨A.a, A.C, A.dx, _, _, rfl, hG'.cell, HR.cl, HR.no _ (by decide +kernel), lookup_nd (i := 5) (rfs_nd _ _ _ _ _ _) rfl, ?_⟩)))
              refine ew_var rfl (rw_ixL hd (v := .ref ad.a) (SqL.of (hG'.own.ex _ _ hG'.ml)) ?_ ?_)
              · have e6 : x = ((x.toNat : Nat) : Int) := by omega
                rw [e6]
                exact atI_nat (show (A.mads.map fun ad => V.ref ad.a)[x.toNat]? = some (.ref ad.a) by rw [List.getElem?_map, z1]; rfl)
              · refine aw_nil ⟨F0, A, _, w, Rgt.rank, true, false, [], x.toNat, ad, m, ss, st, rfl, rfl, rfl, hG', z1, y1, y2, y3, y4, by omega, fun F' hF' => ?_⟩
                exact ⟨_, rfl, by rw [e7]; exact hF'⟩
            · rintro σ _ G' ⟨y5, rfl, hG'⟩
              rw [List.length_map, List.take_length] at hG'
              exact ⟨y5, rfl, hG'⟩
          rintro σ _ G' ⟨y5, rfl, hG'⟩
          refine sw_drop (ew_meth hd (ew_var rfl ⟨A.a, A.dx, _, rfl, hG'.cell, rfs_no (by decide +kernel), aw_nil ⟨F0, A, _, w, Rgt.rank, true, false, [], rfl, rfl, rfl, hG', fun F' hF' => ?_⟩⟩))
          exact ⟨_, _, _, _, rfl, hlt, hnext, hF'⟩

        · have eib : i = bb := by omega
          refine sw_seq (sw_if (tw_or (tw_test (ew_op (ew_var rfl (ew_c (rw_eq rfl ⟨_, rfl, fun hb => ?_, fun hb => ?_⟩)))))))
          · exact ⟨fun _ => bad G2 (.refl _) eib, (fun z => by cases z)⟩
          refine tw_not (tw_B (ew_call hd (aw_cons (ew_var rfl (aw_cons (ew_var rfl (aw_nil ⟨F0, A, jOpen w ti, w, Rgt.rank, true, false, [], ra, xs, rfl, rfl, rfl, hG3, hopen, (gB.trans hG3.own.ex).sqO hrow, hx1, fun G4 g4 => ⟨_, rfl, ?_⟩⟩)))))))
          have hc : canB w (jOpen w ti) xs = false := by
            rcases hbad with z | z
            · exfalso
              have := of_decide_eq_false hb
              exact this (by rw [eib, z]; rfl)
            · subst eib
              obtain rfl := hj.uniq hJi
              exact z xs hxs
          rw [hc]
          exact ⟨fun _ => bad G4 g4 eib, (fun z => by cases z)⟩
      · rintro σ _ G ⟨x3, x4, x5, ti, rfl, hib, hJi, hG⟩
        omega
    · rintro σ _ G z
      exact z.elim
end
end Obr
/-! ### lambdas that append judged(world, plan) to a list, or raise BadPlan -/
namespace Obr
open PySem PySem.Spec L2 LamX NdefX PyProof.Rows
/-- what such a lambda finds -/
structure AppIn (K : PySem.W.Frag) (F : Hp) (wv : V) (w : Wld) (pa fa : Addr) (rows : List (List Int)) (acc : List V) : Prop where
  d : Dp K F wv (wldD w)
  ok : WldOk w
  plan : PlanAt K F pa rows
  few : rows.length ≤ 500
  short : ∀ xs ∈ rows, xs.length ≤ 1000
  lst : F fa = some (.lst acc)
  room : acc.length ≤ 100
/-- the plan has a first row that can't be -/
def BadAt (w : Wld) (rows : List (List Int)) (bb : Nat) : Prop := bb < rows.length ∧ ∃ t, JPath w bb t (rows.take bb) ∧ ∀ xs, rows[bb]? = some xs → canB w (jOpen w t) xs = false
def appSp (K : PySem.W.Frag) (cBad : Addr) : LSp := fun ws H Q E => ∃ (J : Unit → Hp → Hp → Prop) (F : Hp) (wv : V) (w : Wld) (pa fa : Addr) (rows : List (List Int)) (acc : List V), Hid J ∧ J () F H ∧ ws = [some (.ref fa), some wv, some (.ref pa)] ∧ AppIn K F wv w pa fa rows acc ∧
  ((∃ t, JPath w rows.length t rows ∧ ∀ (F' H' : Hp), Ex F F' → J () (upd F' fa (.lst (acc ++ [judgedV w t]))) H' → Q .non H') ∨
   (∃ bb : Nat, BadAt w rows bb ∧ ∀ (dx : Addr) (F' H' : Hp), Ex F F' → F' dx = none → J () (upd F' dx (.xd [("beat", .int (bb : Int))])) H' → E (.ref cBad) (some dx) H'))
theorem appSp_mono {K : PySem.W.Frag} {cBad : Addr} (ws : List (Option V)) (H : Hp) (Q Q' : VK) (E E' : L2.XK) (h : appSp K cBad ws H Q E) (hQ : ∀ v H', Q v H' → Q' v H') (hE : ∀ cls d H', E cls d H' → E' cls d H') : appSp K cBad ws H Q' E' := by
  obtain ⟨J, F, wv, w, pa, fa, rows, acc, hd, j, e, a, way⟩ := h
  refine ⟨J, F, wv, w, pa, fa, rows, acc, hd, j, e, a, ?_⟩
  rcases way with ⟨t, hp, k⟩ | ⟨bb, hb, k⟩
  · exact .inl ⟨t, hp, fun F' H' g j' => hQ _ _ (k F' H' g j')⟩
  · exact .inr ⟨bb, hb, fun dx F' H' g hdx j' => hE _ _ _ (k dx F' H' g hdx j')⟩
section
variable {S : Type} {J : S → Hp → Hp → Prop} {σ : L2.St} {s : S} {F : Hp} {R : V → S → Hp → Prop} {X : Cx} {te : TE} {kl : Nat} {cBad : Addr}
theorem ew_kboth (hd : Hid J) (h : EW J te σ s F fun v s1 F1 => ∃ (f : Addr) (L : LF) (ds : List V) (fr : List Str) (js : List Nat) (wv : V) (w : Wld) (pa fa : Addr) (rows : List (List Int)) (acc : List V), v = .ref f ∧ LamAt F1 f L ds ∧ (X.Ok → Caps X L.cl fr js) ∧
      LamOk X.prog X.w X.K X.mg X.base (L2.CX X.prog X.w) kl f L ds fr (appSp X.K cBad) ∧ js.map (slotAt σ) = [some (.ref fa), some wv, some (.ref pa)] ∧ AppIn X.K F1 wv w pa fa rows acc ∧
      ((∃ t, JPath w rows.length t rows ∧ ∀ (F' : Hp) (p : Addr), Ex F1 F' → (upd F' fa (.lst (acc ++ [judgedV w t]))) p = none → R (.ref p) s1 (upd (upd F' fa (.lst (acc ++ [judgedV w t]))) p (.tup [.str "", .int 0]))) ∨
       (∃ bb : Nat, BadAt w rows bb ∧ ∀ (F' : Hp) (p : Addr), Ex F1 F' → F' p = some (.tup [.str "plan", .int (bb : Int)]) → R (.ref p) s1 F'))) : EW J (tKCall X (L2.CX X.prog X.w) kl (kindP cBad) (tCons te tNil)) σ s F R := fun H j Q q =>
  h H j _ fun v s1 F1 H1 j1 ⟨f, L, ds, fr, js, wv, w, pa, fa, rows, acc, ev, lat, cap, lok, hjs, ai, way⟩ =>
    have latH : LamAt H1 f L ds := ⟨hd.ex j1 _ _ lat.fn, hd.ex j1 _ _ lat.code, fun t e => hd.ex j1 _ _ (lat.dflt t e)⟩
    ⟨v, rfl, f, L, ds, fr, js, _, ev, latH, cap, lok, latH, fun _ F H => J s1 F H, F1, wv, w, pa, fa, rows, acc, hd.unit s1, j1, hjs, ai, by
      rcases way with ⟨t, hp, k⟩ | ⟨bb, hb, k⟩
      · exact .inl ⟨t, hp, fun F' H' g j' p hp => q _ _ _ _ (hd.al j' hp) (k F' p g (hd.fresh j' hp))⟩
      · exact .inr ⟨bb, hb, fun dx F' H' g hdx j' => ⟨rfl, fun _ F H => J s1 F H, _, dx, (bb : Int), rfl, hd.unit s1, j', upd_same, fun F'' H'' p j'' g'' e => q _ _ _ _ j'' (k F'' p (g.trans ((Ex.new (.refl F') hdx).trans g'')) e)⟩⟩⟩
end
end Obr
namespace Obr
open PySem PySem.Spec L2 LamX NdefX PyProof.Rows
local macro_rules | `(tactic| walk_at "ob_wat") => `(tactic| first
  | with_reducible refine WAt.g_store (by assumption) ?_
  | with_reducible refine WAt.g_machines (by assumption) ?_
  | with_reducible refine WAt.g_rule (by assumption) ?_
  | with_reducible refine WAt.g_level (by assumption) ?_
  | with_reducible refine WAt.g_at (by assumption) ?_
  | with_reducible refine WAt.g_over (by assumption) ?_
  | with_reducible refine WAt.g_since (by assumption) ?_
  | with_reducible refine WAt.g_last (by assumption) ?_
  | with_reducible refine WAt.g_beat (by assumption) ?_
  | with_reducible refine WAt.g_done (by assumption) ?_
  | with_reducible refine WAt.g_waits (by assumption) ?_
  | with_reducible refine WAt.g_ends (by assumption) ?_
  | ((with_reducible refine' WAt.r_at_ (t := ?_) (m := ?_) ?obw ?obd ?obm ?_); (case obw => assumption); (case obd => assumption); (case obm => assumption))
  | ((with_reducible refine' WAt.r_over (t := ?_) (m := ?_) ?obw ?obd ?obm ?_); (case obw => assumption); (case obd => assumption); (case obm => assumption))
  | ((with_reducible refine' WAt.r_since (t := ?_) (m := ?_) ?obw ?obd ?obm ?_); (case obw => assumption); (case obd => assumption); (case obm => assumption))
  | ((with_reducible refine' WAt.r_done (t := ?_) (m := ?_) ?obw ?obd ?obm ?_); (case obw => assumption); (case obd => assumption); (case obm => assumption))
  | ((with_reducible refine' WAt.r_waits (t := ?_) (m := ?_) ?obw ?obd ?obm ?_); (case obw => assumption); (case obd => assumption); (case obm => assumption))
  | ((with_reducible refine' WAt.r_right ?obw ?obd ?_); (case obw => assumption); (case obd => assumption))
  | ((with_reducible refine' WAt.r_pass ?obw ?obd ?_); (case obw => assumption); (case obd => assumption)))
local macro_rules | `(tactic| walk_at "ob_at") => `(tactic| first
  | assumption
  | exact upd_same
  | (refine Eq.trans (upd_ne ?obn) ?obr; (case obn => walk_at "ob_ne"); (case obr => walk_at "ob_at")))
local macro_rules | `(tactic| walk_at "ob_ne") => `(tactic| first
  | assumption
  | (refine Ne.symm ?obs; (case obs => assumption))
  | (refine' ne_of_none (H := ?_) ?obe ?obh; (case obh => assumption); (case obe => walk_at "ob_at"))
  | (refine Ne.symm ?obs; (case obs => (refine' ne_of_none (H := ?_) ?obe ?obh; (case obh => assumption); (case obe => walk_at "ob_at")))))
local macro_rules | `(tactic| walk_at "ob_fr") => `(tactic| first
  | assumption
  | (refine Eq.trans (upd_ne ?obn) ?obr; (case obn => walk_at "ob_ne"); (case obr => walk_at "ob_fr"))
  | (refine Ex.free (G := ?_) (by assumption) ?obh; (case obh => walk_at "ob_fr")))
local macro_rules | `(tactic| walk_at "ob_ex") => `(tactic| first
  | assumption
  | exact Ex.refl _
  | (refine Ex.out ?obg ?obh; (case obh => assumption); (case obg => walk_at "ob_ex"))
  | (refine Ex.new ?obg ?obh; (case obh => assumption); (case obg => walk_at "ob_ex"))
  | (refine Ex.new ?obg ?obh; (case obh => walk_at "ob_fr"); (case obg => walk_at "ob_ex")))
local macro_rules | `(tactic| walk_at "ob_sq") => `(tactic| first
  | assumption
  | (refine SqL.of ?oba; (case oba => walk_at "ob_at"))
  | (refine Ex.sqT (F := ?_) ?obg ?obh; (case obh => assumption); (case obg => walk_at "ob_ex"))
  | (refine Ex.sqL (F := ?_) ?obg ?obh; (case obh => assumption); (case obg => walk_at "ob_ex"))
  | (refine SqT.of ?oba; (case oba => walk_at "ob_at")))
local macro_rules | `(tactic| walk_at "ob_side") => `(tactic| first | exact rfl | assumption | decide | omega | exact ⟨by decide, by decide, by decide⟩ | exact Or.inr ⟨by decide, by decide⟩ | exact Or.inl ⟨by decide, by decide⟩ | exact wide_div (b := 60) (by first | decide | omega) (by first | decide | omega) (by decide) (by decide))
local macro_rules | `(tactic| walk_at "ob1") => `(tactic| first
  | walk_at "ob_wat"
  | with_reducible refine sw_seq ?_
  | with_reducible refine sw_asg ?_
  | with_reducible refine sw_ret ?_
  | with_reducible refine sw_par ?_
  | with_reducible refine ⟨_, _, rfl, ?_⟩
  | with_reducible refine sw_drop ?_
  | with_reducible refine sw_if ?_
  | with_reducible refine sw_next ?_
  | with_reducible refine gw_name ?_
  | with_reducible refine gw_subL (by assumption) ?_
  | with_reducible refine gsw_cons ?_
  | with_reducible refine gsw_nil ?_
  | with_reducible refine ew_c ?_
  | ((with_reducible refine' ew_var (v := ?_) ?obv ?_); (case obv => exact rfl))
  | ((with_reducible refine ew_next (by assumption) ?obv ?_); (case obv => exact rfl))
  | ((with_reducible refine ew_world (by assumption) ?obv ?_); (case obv => exact rfl))
  | ((with_reducible refine ew_rule (by assumption) ?obv ?_); (case obv => exact rfl))
  | with_reducible refine ew_op ?_
  | with_reducible refine ew_un ?_
  | with_reducible refine ew_dget (by assumption) ?_
  | with_reducible refine uw_I ?_
  | with_reducible refine ppw_nil ?_
  | with_reducible refine ppw_cons ?_
  | with_reducible refine sw_dput (by assumption) ?_
  | with_reducible refine ew_cb ?_
  | with_reducible refine ew_if ?_
  | with_reducible refine ew_slL (by assumption) ?_
  | with_reducible refine ow_some ?_
  | with_reducible refine ow_none ?_
  | with_reducible refine aw_nil ?_
  | with_reducible refine aw_cons ?_
  | with_reducible refine rw_I0 ?_
  | ((with_reducible refine rw_I ?obc ?_); (case obc => walk_at "ob_side"))
  | with_reducible refine rw_isN ?_
  | with_reducible refine rw_notN ?_
  | ((with_reducible refine rw_eq ?obc ?_); (case obc => exact rfl))
  | ((with_reducible refine rw_ne ?obc ?_); (case obc => exact rfl))
  | with_reducible refine cw_max2 ?_
  | with_reducible refine cw_min2 ?_
  | with_reducible refine tw_test ?_
  | with_reducible refine tw_B ?_
  | with_reducible refine tw_not ?_
  | with_reducible refine tw_truB ?_
  | with_reducible refine tw_and ?_
  | with_reducible refine tw_or ?_
  | with_reducible refine ew_and ?_
  | (refine' Exists.intro _ (And.intro (show V.bl _ = V.bl _ from rfl) ?_))
  | (refine' Exists.intro _ (And.intro (show V.int _ = V.int _ from rfl) ?_))
  | ((with_reducible refine' rw_ixL (v := ?_) (xs := ?_) (by assumption) ?obl ?oba ?_); (case obl => walk_at "ob_sq"); (case oba => first | exact rfl | exact at_zero))
  | ((with_reducible refine' rw_ixT (v := ?_) (xs := ?_) (by assumption) ?obl ?oba ?_); (case obl => walk_at "ob_sq"); (case oba => first | exact rfl | exact at_zero))
  | ((with_reducible refine' ew_lst (by assumption) ?_))
  | ((with_reducible refine' ew_tup (by assumption) ?_)))
local macro_rules | `(tactic| walk_at "ob_len") => `(tactic| first | exact Nat.le_of_ble_eq_true rfl | (simp; done) | omega)
local macro_rules | `(tactic| walk_at "ob") => `(tactic| repeat walk_at "ob1")

/-! ### where the law's lambdas stand -/
def nthS : List Stmt → Nat → Stmt
  | [], _ => .Pass ⟨0, 0, 0, 0⟩
  | a :: _, 0 => a
  | _ :: l, n + 1 => nthS l n
def nthE : List Expr → Nat → Expr
  | [], _ => .Constant .none 0 ⟨0, 0, 0, 0⟩
  | a :: _, 0 => a
  | _ :: l, n + 1 => nthE l n
def forBody : Stmt → List Stmt
  | .For _ _ b _ _ => b
  | _ => []
def ifBody : Stmt → List Stmt
  | .If _ b _ _ => b
  | _ => []
def ifElse : Stmt → List Stmt
  | .If _ _ b _ => b
  | _ => []
def ifTest : Stmt → Expr
  | .If t _ _ _ => t
  | _ => .Constant .none 0 ⟨0, 0, 0, 0⟩
def retVal : Stmt → Expr
  | .Return (some e) _ => e
  | _ => .Constant .none 0 ⟨0, 0, 0, 0⟩
def asgVal : Stmt → Expr
  | .Assign _ v _ => v
  | _ => .Constant .none 0 ⟨0, 0, 0, 0⟩
def cmpLeft : Expr → Expr
  | .Compare l _ _ _ => l
  | e => e
def boolVals : Expr → List Expr
  | .BoolOp _ vs _ => vs
  | _ => []
def callArgs : Expr → List Expr
  | .Call _ a _ _ => a
  | _ => []
def lamPar : Expr → Arguments
  | .Lambda p _ _ _ => p
  | _ => default
def lamBody : Expr → Expr
  | .Lambda _ b _ _ => b
  | e => e
def lamScope : Expr → Scope
  | .Lambda _ _ s _ => s
  | _ => default
abbrev s_law : Stmt := top 61
def lam1 : Expr := nthE (callArgs (asgVal (nthS (forBody (nthS (defBody s_law) 1)) 10))) 0
def lam2 : Expr := nthE (callArgs (cmpLeft (nthE (boolVals (ifTest (nthS (forBody (nthS (defBody s_law) 1)) 11))) 0))) 0
section
variable {P : Program} {w : World} {K : PySem.W.Frag} {mg : Str → Option Value} {base : Heap} {cBadPlan : Addr}

theorem lamok1 (B : Blt mg) {f1 : Addr} {fd1 : FuncData} (Cjudged : Cal K mg "judged" f1 fd1 ["world", "plan"]) (Gjudged : FnOk P w K mg base CX0 6 f1 fd1 ["world", "plan"] (LS (aJudged K))) (GjudgedX : FnOk P w K mg base (L2.CX P w) 6 f1 fd1 ["world", "plan"] (LX (aJudgedX K cBadPlan))) {f c : Addr} {qn : Str} {cl : List (Str × Addr)} :
    LamOk P w K mg base (L2.CX P w) 7 f ⟨qn, lamPar lam1, lamBody lam1, lamScope lam1, cl, c, none⟩ [] ["_law_found", "_law_world_here", "_law_told"] (appSp K cBadPlan) := by
  refine lok_of (N := ["_law_found", "_law_world_here", "_law_told"]) (ps := []) (nscope_by (sc := lamScope lam1) (by decide +kernel)) rfl (bind0 (fun _ _ _ => rfl)) appSp_mono (fun A outer s H ws Q E hr ha hl hsp => ?_)
  obtain ⟨J, F, wv, w', pa, fa, rows, acc, hd, j, rfl, ai, way⟩ := hsp
  have hroom := ai.room
  rcases way with ⟨t, hp, q⟩ | ⟨bb, ⟨hbl, t, hp, hbad⟩, q⟩
  · refine ⟨_, (pe_bm PySem.F.plainAttrs_list PySem.F.slot_list_append PySem.F.type_list_append mt_append (pv 0) (pa_cons (pe_call Gjudged (by exact hr.mono (by decide)) (by rfl) Cjudged.g Cjudged.k Cjudged.a .nil pass0 (pa_cons (pv 1) (pa_cons (pv 2) pa_nil))) pa_nil)), ?_⟩
    refine (show EW J _ _ () F (fun v _ F1 => v = .non ∧ ∃ F', Ex F F' ∧ F1 = upd F' fa (.lst (acc ++ [judgedV w' t]))) from ?_) H j _ (fun v _ F1 H1 j1 z => by obtain ⟨rfl, F', g, rfl⟩ := z; exact q F' H1 g j1)
    refine ew_bmL hd (ew_var rfl ⟨fa, acc, rfl, SqL.of ai.lst, aw_cons (ew_call hd (aw_cons (ew_var rfl (aw_cons (ew_var rfl (aw_nil ?_))))))⟩)
    refine ⟨wv, w', pa, rows, t, rfl, ai.d, ai.ok, ai.plan, hp, ai.few, ai.short, fun F' g => aw_nil (mw_append hd (g _ _ ai.lst) (by omega) ⟨rfl, F', g, rfl⟩)⟩
  · refine ⟨_, (pe_bm PySem.F.plainAttrs_list PySem.F.slot_list_append PySem.F.type_list_append mt_append (pv 0) (pa_cons (pe_call GjudgedX (by exact hr.mono (by decide)) (by rfl) Cjudged.g Cjudged.k Cjudged.a .nil (passes_call (takes_of rfl rfl rfl rfl) (fun _ _ _ _ h => h)) (pa_cons (pv 1) (pa_cons (pv 2) pa_nil))) pa_nil)), ?_⟩
    refine (show EW J _ _ () F (fun _ _ _ => False) from ?_) H j _ (fun _ _ _ _ _ z => z.elim)
    refine ew_bmL hd (ew_var rfl ⟨fa, acc, rfl, SqL.of ai.lst, aw_cons (ew_callX hd (aw_cons (ew_var rfl (aw_cons (ew_var rfl (aw_nil ?_))))))⟩)
    refine ⟨fun cls d F' => cls = .ref cBadPlan ∧ ∃ dx G, d = some dx ∧ F' = upd G dx (.xd [("beat", .int (bb : Int))]) ∧ Ex F G ∧ G dx = none, ⟨wv, w', pa, rows, bb, t, rfl, ai.d, ai.ok, ai.plan, hbl, by have := ai.few; omega, hp, Or.inr hbad, ai.short, fun dx G g hdx => ⟨rfl, dx, G, rfl, rfl, g, hdx⟩⟩, ?_⟩
    rintro cls d F' H' j' ⟨rfl, dx, G, rfl, rfl, g, hdx⟩
    exact q dx G H' g hdx j'

theorem lamok2 (B : Blt mg) {f1 : Addr} {fd1 : FuncData} (Cjudged : Cal K mg "judged" f1 fd1 ["world", "plan"]) (Gjudged : FnOk P w K mg base CX0 6 f1 fd1 ["world", "plan"] (LS (aJudged K))) (GjudgedX : FnOk P w K mg base (L2.CX P w) 6 f1 fd1 ["world", "plan"] (LX (aJudgedX K cBadPlan))) {f c : Addr} {qn : Str} {cl : List (Str × Addr)} :
    LamOk P w K mg base (L2.CX P w) 7 f ⟨qn, lamPar lam2, lamBody lam2, lamScope lam2, cl, c, none⟩ [] ["_law_found", "_law_turned", "_law_theirs"] (appSp K cBadPlan) := by
  refine lok_of (N := ["_law_found", "_law_turned", "_law_theirs"]) (ps := []) (nscope_by (sc := lamScope lam2) (by decide +kernel)) rfl (bind0 (fun _ _ _ => rfl)) appSp_mono (fun A outer s H ws Q E hr ha hl hsp => ?_)
  obtain ⟨J, F, wv, w', pa, fa, rows, acc, hd, j, rfl, ai, way⟩ := hsp
  have hroom := ai.room
  rcases way with ⟨t, hp, q⟩ | ⟨bb, ⟨hbl, t, hp, hbad⟩, q⟩
  · refine ⟨_, (pe_bm PySem.F.plainAttrs_list PySem.F.slot_list_append PySem.F.type_list_append mt_append (pv 0) (pa_cons (pe_call Gjudged (by exact hr.mono (by decide)) (by rfl) Cjudged.g Cjudged.k Cjudged.a .nil pass0 (pa_cons (pv 1) (pa_cons (pv 2) pa_nil))) pa_nil)), ?_⟩
    refine (show EW J _ _ () F (fun v _ F1 => v = .non ∧ ∃ F', Ex F F' ∧ F1 = upd F' fa (.lst (acc ++ [judgedV w' t]))) from ?_) H j _ (fun v _ F1 H1 j1 z => by obtain ⟨rfl, F', g, rfl⟩ := z; exact q F' H1 g j1)
    refine ew_bmL hd (ew_var rfl ⟨fa, acc, rfl, SqL.of ai.lst, aw_cons (ew_call hd (aw_cons (ew_var rfl (aw_cons (ew_var rfl (aw_nil ?_))))))⟩)
    refine ⟨wv, w', pa, rows, t, rfl, ai.d, ai.ok, ai.plan, hp, ai.few, ai.short, fun F' g => aw_nil (mw_append hd (g _ _ ai.lst) (by omega) ⟨rfl, F', g, rfl⟩)⟩
  · refine ⟨_, (pe_bm PySem.F.plainAttrs_list PySem.F.slot_list_append PySem.F.type_list_append mt_append (pv 0) (pa_cons (pe_call GjudgedX (by exact hr.mono (by decide)) (by rfl) Cjudged.g Cjudged.k Cjudged.a .nil (passes_call (takes_of rfl rfl rfl rfl) (fun _ _ _ _ h => h)) (pa_cons (pv 1) (pa_cons (pv 2) pa_nil))) pa_nil)), ?_⟩
    refine (show EW J _ _ () F (fun _ _ _ => False) from ?_) H j _ (fun _ _ _ _ _ z => z.elim)
    refine ew_bmL hd (ew_var rfl ⟨fa, acc, rfl, SqL.of ai.lst, aw_cons (ew_callX hd (aw_cons (ew_var rfl (aw_cons (ew_var rfl (aw_nil ?_))))))⟩)
    refine ⟨fun cls d F' => cls = .ref cBadPlan ∧ ∃ dx G, d = some dx ∧ F' = upd G dx (.xd [("beat", .int (bb : Int))]) ∧ Ex F G ∧ G dx = none, ⟨wv, w', pa, rows, bb, t, rfl, ai.d, ai.ok, ai.plan, hbl, by have := ai.few; omega, hp, Or.inr hbad, ai.short, fun dx G g hdx => ⟨rfl, dx, G, rfl, rfl, g, hdx⟩⟩, ?_⟩
    rintro cls d F' H' j' ⟨rfl, dx, G, rfl, rfl, g, hdx⟩
    exact q dx G H' g hdx j'
end
end Obr
/-! own cells laid aside while a call runs that knows nothing of them -/
namespace Obr
open PySem L2 PyProof.Rows
def overH (F G : Hp) : Hp := fun y => match G y with | some o => some o | none => F y
def JP {S : Type} (J : S → Hp → Hp → Prop) (G : Hp) : S → Hp → Hp → Prop := fun s F H => (∀ y o, G y = some o → F y = none) ∧ J s (overH F G) H
def pickH (F : Hp) (L : List (Addr × HO)) : Hp := fun y => if y ∈ L.map (·.1) then F y else none
def dropH (F : Hp) (L : List (Addr × HO)) : Hp := fun y => if y ∈ L.map (·.1) then none else F y
end Obr
namespace Obr
open PySem PySem.Spec PyProof.Rows L2 LamX
/-- the def x, its code object, its table, still empty -/
def TabAt (x : Str) (mg : Str → Option Value) (h : Heap) : Prop := ∃ (a : Addr) (o : Obj) (fd : FuncData) (c P : Addr), mg x = some (.ref a) ∧ h.get? a = some o ∧ o.data = .func fd ∧ fd.code = .ref c ∧ PySem.W.CodeHd h c P ∧ h.get? P = some { cls := .none, data := .fields #[] }
theorem walk_ofTsG {l : PySem.W.OpenLaw} {n k : Nat} {q : Program} {loose : List Str} {XP : (Str → Option Value) → Heap → Prop} {YP : World → Heap → Prop} {d : DefRec} {CX : World → CXT} {x : Str}
    (hn : l.most = some n) (hn2 : n ≤ sizeLine) (hdf : d.params.defaults = []) (hr : Room k callerA) (hrec : ((recsOf q).any fun e => e.name == d.name) = true)
    (F : ∀ (w : World) (mg : Str → Option Value) (fa : Addr) (h : Heap), YP w h → h.Ns mainGlobals mg → mg d.name = some (.ref fa) → TabAt d.name mg h → ∃ K : PySem.W.Frag, K.In h ∧ LawAtS l w K (CX w) k n x mg fa h)
    (hCX : ∀ (w : World) (H : Hp) (s : Shared) (e : Value) (s' : Shared), CX w [] H s (fun _ _ _ => False) e s' → False) :
    PySem.W.WalkO q loose XP YP l.row.toRowW d [] (fun f vs => PySem.call f vs) := by
  refine Att.attach_callB hn hdf fun w s₀ s₁ mg mb fa o pm cd doc a vs ns G Y ho hd hcd hmg hobj hints hlen hbits hg => ?_
  have hT : TabAt d.name mg s₁.heap := by
    obtain ⟨dL, hm, hn1⟩ := List.any_eq_true.mp hrec
    have hn2 : dL.name = d.name := beq_iff_eq.mp hn1
    obtain ⟨a', o', fd', c', P', h1, h2, h3, h4, h5, h6⟩ := G.T.tab dL hm
    rw [hn2] at h1
    exact ⟨a', o', fd', c', P', h1, h2, h3, h4, PySem.W.CodeHd.of h5 h6, h6.2⟩
  obtain ⟨K, KX, fd, cs, sp, hT, nT, C, hb, hsp, hF⟩ := F w mg fa _ Y G.T.g hmg hT
  exact law_callTs KX G.T.g G.T.b G.T.builtins G.T.nolimit hg hT nT C G.T.bmain hobj hints (Nat.le_trans hlen hn2) hr hF hb (fun H hH hS => hsp H a ns hlen hbits hH hS) fun H e s' => hCX w H s₁ e s'
end Obr
namespace Obr
open PySem L2 PyProof.Rows Obp
local macro_rules | `(tactic| walk_at "ob_at") => `(tactic| first
  | assumption
  | exact upd_same
  | (refine Eq.trans (upd_ne ?obn) ?obr; (case obn => walk_at "ob_ne"); (case obr => walk_at "ob_at")))
local macro_rules | `(tactic| walk_at "ob_ne") => `(tactic| first
  | assumption
  | (refine Ne.symm ?obs; (case obs => assumption))
  | (refine' ne_of_none (H := ?_) ?obe ?obh; (case obh => assumption); (case obe => walk_at "ob_at"))
  | (refine Ne.symm ?obs; (case obs => (refine' ne_of_none (H := ?_) ?obe ?obh; (case obh => assumption); (case obe => walk_at "ob_at")))))
local macro_rules | `(tactic| walk_at "ob_fr") => `(tactic| first
  | assumption
  | (refine Eq.trans (upd_ne ?obn) ?obr; (case obn => walk_at "ob_ne"); (case obr => walk_at "ob_fr"))
  | (refine Ex.free (G := ?_) (by assumption) ?obh; (case obh => walk_at "ob_fr")))
local macro_rules | `(tactic| walk_at "ob_ex") => `(tactic| first
  | assumption
  | exact Ex.refl _
  | (refine Ex.out ?obg ?obh; (case obh => assumption); (case obg => walk_at "ob_ex"))
  | (refine Ex.new ?obg ?obh; (case obh => assumption); (case obg => walk_at "ob_ex"))
  | (refine Ex.new ?obg ?obh; (case obh => walk_at "ob_fr"); (case obg => walk_at "ob_ex")))
local macro_rules | `(tactic| walk_at "ob_sq") => `(tactic| first
  | assumption
  | (refine SqL.of ?oba; (case oba => walk_at "ob_at"))
  | (refine Ex.sqT (F := ?_) ?obg ?obh; (case obh => assumption); (case obg => walk_at "ob_ex"))
  | (refine Ex.sqL (F := ?_) ?obg ?obh; (case obh => assumption); (case obg => walk_at "ob_ex"))
  | (refine SqT.of ?oba; (case oba => walk_at "ob_at")))
local macro_rules | `(tactic| walk_at "ob_side") => `(tactic| first | exact rfl | assumption | decide | omega | exact ⟨by decide, by decide, by decide⟩ | exact Or.inr ⟨by decide, by decide⟩ | exact Or.inl ⟨by decide, by decide⟩ | exact wide_div (b := 60) (by first | decide | omega) (by first | decide | omega) (by decide) (by decide))
local macro_rules | `(tactic| walk_at "ob1") => `(tactic| first
  | with_reducible refine sw_seq ?_
  | with_reducible refine sw_asg ?_
  | with_reducible refine sw_ret ?_
  | with_reducible refine sw_par ?_
  | with_reducible refine ⟨_, _, rfl, ?_⟩
  | with_reducible refine sw_drop ?_
  | with_reducible refine sw_if ?_
  | with_reducible refine sw_next ?_
  | with_reducible refine gw_name ?_
  | with_reducible refine gw_subL (by assumption) ?_
  | with_reducible refine gsw_cons ?_
  | with_reducible refine gsw_nil ?_
  | with_reducible refine ew_c ?_
  | ((with_reducible refine' ew_var (v := ?_) ?obv ?_); (case obv => exact rfl))
  | ((with_reducible refine ew_next (by assumption) ?obv ?_); (case obv => exact rfl))
  | ((with_reducible refine ew_world (by assumption) ?obv ?_); (case obv => exact rfl))
  | ((with_reducible refine ew_rule (by assumption) ?obv ?_); (case obv => exact rfl))
  | with_reducible refine ew_op ?_
  | with_reducible refine ew_un ?_
  | with_reducible refine ew_dget (by assumption) ?_
  | with_reducible refine uw_I ?_
  | with_reducible refine ppw_nil ?_
  | with_reducible refine ppw_cons ?_
  | with_reducible refine sw_dput (by assumption) ?_
  | with_reducible refine ew_cb ?_
  | with_reducible refine ew_if ?_
  | with_reducible refine ew_slL (by assumption) ?_
  | with_reducible refine ow_some ?_
  | with_reducible refine ow_none ?_
  | with_reducible refine aw_nil ?_
  | with_reducible refine aw_cons ?_
  | with_reducible refine rw_I0 ?_
  | ((with_reducible refine rw_I ?obc ?_); (case obc => walk_at "ob_side"))
  | with_reducible refine rw_isN ?_
  | with_reducible refine rw_notN ?_
  | ((with_reducible refine rw_eq ?obc ?_); (case obc => exact rfl))
  | ((with_reducible refine rw_ne ?obc ?_); (case obc => exact rfl))
  | with_reducible refine cw_max2 ?_
  | with_reducible refine cw_min2 ?_
  | with_reducible refine tw_test ?_
  | with_reducible refine tw_B ?_
  | with_reducible refine tw_not ?_
  | with_reducible refine tw_truB ?_
  | with_reducible refine tw_and ?_
  | with_reducible refine tw_or ?_
  | with_reducible refine ew_and ?_
  | (refine' Exists.intro _ (And.intro (show V.bl _ = V.bl _ from rfl) ?_))
  | (refine' Exists.intro _ (And.intro (show V.int _ = V.int _ from rfl) ?_))
  | ((with_reducible refine' rw_ixL (v := ?_) (xs := ?_) (by assumption) ?obl ?oba ?_); (case obl => walk_at "ob_sq"); (case oba => first | exact rfl | exact at_zero))
  | ((with_reducible refine' rw_ixT (v := ?_) (xs := ?_) (by assumption) ?obl ?oba ?_); (case obl => walk_at "ob_sq"); (case oba => first | exact rfl | exact at_zero))
  | ((with_reducible refine' ew_lst (by assumption) ?_))
  | ((with_reducible refine' ew_tup (by assumption) ?_)))
local macro_rules | `(tactic| walk_at "ob_len") => `(tactic| first | exact Nat.le_of_ble_eq_true rfl | (simp; done) | omega)
local macro_rules | `(tactic| walk_at "ob") => `(tactic| repeat walk_at "ob1")

/-! ### floors -/
def bRef (l r : Int) : V := if l ≤ 0 then .int 0 else if r = 0 then .non else .int ((l + r - 1) / r)
def longS (ss : List Stp) : Int := (ss.map fun st => st.long).sum
def longF (w : Wld) : Int := maxZ (w.ms.map longS)
def lacksF (w : Wld) : Int := (w.ms.flatMap fun ss => ss.map fun st => st.draw - st.back).sum - w.start
def aRefill : List V → Hp → VK → Prop := fun vs F R => ∃ l r : Int, vs = [.int l, .int r] ∧ l ≤ 10000 ∧ 0 ≤ r ∧ r ≤ 100 ∧ ∀ F', Ex F F' → R (bRef l r) F'
def aFloors (K : PySem.W.Frag) : List V → Hp → VK → Prop := fun vs F R => ∃ (v : V) (w : Wld), vs = [v] ∧ Dp K F v (wldD w) ∧ WldOk w ∧ ∀ (q : Addr) (F' : Hp), Ex F F' → F q = none → F' q = some (.tup [.int (longF w), bRef (lacksF w) w.refill]) → R (.ref q) F'
theorem long_pos {w : Wld} {ss : List Stp} (hw : WldOk w) (h : ss ∈ w.ms) : 0 ≤ longS ss := by
  have hs := hw.st ss h
  unfold longS
  clear h
  induction ss with
  | nil => exact Int.le_refl _
  | cons a l ih =>
    have h1 := (hs a (.head _)).l0
    have h2 := ih fun y hy => hs y (.tail _ hy)
    rw [List.map_cons, List.sum_cons]
    omega
theorem sum_le {c : Int} : ∀ (l : List Int), (∀ x ∈ l, x ≤ c) → l.sum ≤ l.length * c
  | [], _ => by simp
  | x :: l, h => by
    have h1 := h x (.head _)
    have h2 := sum_le l fun y hy => h y (.tail _ hy)
    rw [List.sum_cons, List.length_cons, Int.natCast_succ, Int.add_mul]
    omega
theorem lacks_le {w : Wld} (hw : WldOk w) : lacksF w ≤ 2970 := by
  have h1 := sum_le (c := 99) (w.ms.flatMap fun ss => ss.map fun st => st.draw - st.back) fun x hx => by
    obtain ⟨ss, hss, hx⟩ := List.mem_flatMap.mp hx
    obtain ⟨st, hst, rfl⟩ := List.mem_map.mp hx
    have z := hw.st ss hss st hst
    have := z.d1
    have := z.b0
    have := hw.c1
    omega
  have h2 : (w.ms.flatMap fun ss => ss.map fun st => st.draw - st.back).length ≤ 30 := by
    have z := flat_len (n := 6) (w.ms.map fun ss => ss.map fun st => st.draw - st.back) fun x hx => by
      obtain ⟨ss, hss, rfl⟩ := List.mem_map.mp hx
      rw [List.length_map]
      exact hw.n ss hss
    rw [List.length_map] at z
    have := hw.m
    rw [List.flatMap]
    omega
  unfold lacksF
  have := hw.s0
  omega
section
variable {P : Program} {w : World} {K : PySem.W.Frag} {mg : Str → Option Value} {base : Heap} {tDRAW tLONG tBACK : Tok}

abbrev s_beats_to_refill : Stmt := top 44
def N_beats_to_refill : List Str := ["lacks", "refill"]
theorem sc_beats_to_refill : FnScope N_beats_to_refill ["lacks", "refill"] (defScope s_beats_to_refill) := ⟨rfl, rfl, rfl, by decide +kernel, rfl, by decide +kernel, by decide +kernel⟩
theorem ok_beats_to_refill {f : Addr} {fd : FuncData}  (Fn : Fun K "beats_to_refill" "beats_to_refill" s_beats_to_refill f fd) (B : Blt mg)  : FnOk P w K mg base CX0 1 f fd ["lacks", "refill"] (LS (aRefill)) := by
  refine Fn.ok sc_beats_to_refill (fun vs H Q E h => ?_) (fun cdv A outer s H vs Q E hr h => ?_)
  · obtain ⟨J, F, R, hd, j, h, _⟩ := h
    obtain ⟨l, r, rfl, _⟩ := h
    rfl
  · have nd := sc_beats_to_refill.nd
    obtain ⟨J, F, R, hd, j, h, q⟩ := h
    obtain ⟨l, r, rfl, hl, hr0, hr1, k⟩ := h
    refine ⟨_, (pss_cons (ps_if (pt_cmpR op_le (pv 0) pe_int (nomark _)) (pss_one (ps_ret pe_int)) pss_nil)
      (pss_cons (ps_if (pt_cmpR op_eq (pv 1) pe_int (nomark _)) (pss_one (ps_ret pe_non)) pss_nil)
      (pss_one (ps_ret (pe_op op_fdivW (pe_op op_sub (pe_op op_add (pv 0) (pv 1)) pe_int) (pv 1)))))), ?_⟩
    refine LS.body j q ?_
    have k0 := k F (.refl _)
    unfold bRef at k0
    walk_at "ob"
    refine ⟨fun hb => ?_, fun hb => ?_⟩
    · rw [if_pos (of_decide_eq_true hb)] at k0
      walk_at "ob"
      exact k0
    · have hb' := of_decide_eq_false hb
      rw [if_neg hb'] at k0
      walk_at "ob"
      rw [show decide (V.int r = V.int 0) = decide (r = 0) from decide_eq_decide.mpr ⟨fun e => by injection e, fun e => by rw [e]⟩]
      refine ⟨fun h0 => ?_, fun h0 => ?_⟩
      · rw [if_pos (of_decide_eq_true h0)] at k0
        walk_at "ob"
        exact k0
      · have h0' := of_decide_eq_false h0
        rw [if_neg h0'] at k0
        have lg : r.natAbs.log2 < 9000 := Nat.lt_of_le_of_lt (Nat.log2_le_self _) (by omega)
        walk_at "ob"
        exact k0

abbrev s_floors : Stmt := top 43
def N_floors : List Str := ["world", "store", "machines", "longest", "lacks", "steps", "step"]
theorem sc_floors : FnScope N_floors ["world"] (defScope s_floors) := ⟨rfl, rfl, rfl, by decide +kernel, rfl, by decide +kernel, by decide +kernel⟩
theorem ok_floors {f : Addr} {fd : FuncData} {f1 f2 : Addr} {fd1 fd2 : FuncData} (Fn : Fun K "floors" "floors" s_floors f fd) (B : Blt mg) (gDRAW : mg "DRAW" = some (.int 0 tDRAW)) (gLONG : mg "LONG" = some (.int 1 tLONG)) (gBACK : mg "BACK" = some (.int 2 tBACK)) (Ccheck_world : Cal K mg "check_world" f1 fd1 ["world"]) (Gcheck_world : FnOk P w K mg base CX0 3 f1 fd1 ["world"] (LS (aChkW K))) (Cbeats_to_refill : Cal K mg "beats_to_refill" f2 fd2 ["lacks", "refill"]) (Gbeats_to_refill : FnOk P w K mg base CX0 1 f2 fd2 ["lacks", "refill"] (LS aRefill)) : FnOk P w K mg base CX0 4 f fd ["world"] (LS (aFloors K)) := by
  refine Fn.ok sc_floors (fun vs H Q E h => ?_) (fun cdv A outer s H vs Q E hr h => ?_)
  · obtain ⟨J, F, R, hd, j, h, _⟩ := h
    obtain ⟨v, w, rfl, _⟩ := h
    rfl
  · have nd := sc_floors.nd
    obtain ⟨J, F, R, hd, j, h, q⟩ := h
    obtain ⟨v, w, rfl, dv, hw, k⟩ := h
    refine ⟨_, (pss_cons (ps_expr (pe_call Gcheck_world (by exact hr.mono (by decide)) (by rfl) Ccheck_world.g Ccheck_world.k Ccheck_world.a .nil pass0 (pa_cons (pv 0) pa_nil)))
      (pss_cons (ps_asg (pv 0) (pg_tup rfl (pgs_cons (pg_name (i := 1) nd rfl (Or.inl rfl)) (pgs_cons (pg_name (i := 2) nd rfl (Or.inl rfl)) pgs_nil))))
      (pss_cons (ps_set (i := 3) nd rfl (Or.inl rfl) (pe_callBK (cr_maxD rfl) (by rfl) B.max (by decide +kernel) (pa_cons (pe_lc (own := [("steps", 5)]) (te := (tCB (rSum K) (tCons (tLc (iTup K (tVar 5)) (gName 6) tYes (tOp (rIxT K) (tVar 6) (tC (.int 1))) [6]) tNil))) (tt := tYes) (by rfl) nd (pi_tup (pv 2)) (blkOk_by (own := [("steps", 5)]) (N := N_floors) (sc := defScope s_floors) (by decide +kernel)) (fun _ _ _ _ _ => (pg_name (i := 5) nd rfl (Or.inl rfl))) (fun _ _ _ _ _ => pts_nil) (fun _ _ _ _ _ => (pe_callB (cr_sum rfl) (by rfl) B.sum (by decide +kernel) (pa_cons (pe_lc (own := [("step", 6)]) (te := (tOp (rIxT K) (tVar 6) (tC (.int 1)))) (tt := tYes) (by rfl) nd (pi_tup (pv 5)) (blkOk_by (own := [("step", 6)]) (N := N_floors) (sc := relS _ (defScope s_floors)) (by decide +kernel)) (fun _ _ _ _ _ => (pg_name (i := 6) nd rfl (Or.inl rfl))) (fun _ _ _ _ _ => pts_nil) (fun _ _ _ _ _ => (pe_ix ix_tup (pv 6) (pe_glob (v := .int 1) rfl gLONG ⟨_, rfl⟩) (fun _ _ => rfl)))) pa_nil)))) pa_nil) (pk_cons pe_int pk_nil)))
      (pss_cons (ps_set (i := 4) nd rfl (Or.inl rfl) (pe_op op_sub (pe_callB (cr_sum rfl) (by rfl) B.sum (by decide +kernel) (pa_cons (pe_lc2 (own := [("steps", 5), ("step", 6)]) (vs1 := [6]) (g := gName 5) (g1 := gName 6) (tt := tYes) (tt1 := tYes) (te := (tOp (rI0 fun i j => .int (i - j)) (tOp (rIxT K) (tVar 6) (tC (.int 0))) (tOp (rIxT K) (tVar 6) (tC (.int 2))))) (wi := iTup K (tVar 2)) (wi1 := iTup K (tVar 5)) (by rfl) nd (pi_tup (pv 2)) (blkOk_by (own := [("steps", 5), ("step", 6)]) (N := N_floors) (sc := defScope s_floors) (by decide +kernel)) (by decide) (fun _ _ _ _ _ => (pg_name (i := 5) nd rfl (Or.inl rfl))) (fun _ _ _ _ _ => pts_nil) (fun _ _ _ _ _ => (pi_tup (pv 5))) (fun _ _ _ _ _ => (pg_name (i := 6) nd rfl (Or.inl rfl))) (fun _ _ _ _ _ => pts_nil) (fun _ _ _ _ _ => (pe_op op_sub (pe_ix ix_tup (pv 6) (pe_glob (v := .int 0) rfl gDRAW ⟨_, rfl⟩) (fun _ _ => rfl)) (pe_ix ix_tup (pv 6) (pe_glob (v := .int 2) rfl gBACK ⟨_, rfl⟩) (fun _ _ => rfl))))) pa_nil)) (pe_ix ix_tup (pv 1) pe_int (fun _ _ => rfl))))
      (pss_one (ps_ret (pe_tup (pa_cons (pv 3) (pa_cons (pe_call Gbeats_to_refill (by exact hr.mono (by decide)) (by rfl) Cbeats_to_refill.g Cbeats_to_refill.k Cbeats_to_refill.a .nil pass0 (pa_cons (pv 4) (pa_cons (pe_ix ix_tup (pv 1) pe_int (fun _ _ => rfl)) pa_nil))) pa_nil))))))))), ?_⟩
    refine LS.body j q ?_
    obtain ⟨wa, xs, rfl, lx, dxs⟩ := dp_tup dv
    obtain ⟨sv, mv, rfl, ds, dm⟩ := dps2 dxs
    obtain ⟨ma, zs, rfl, lz, dzs⟩ := dp_tup dm
    have hzl : zs.length = w.ms.length := by have := dps_len dzs; simpa using this
    have hm5 := hw.m
    obtain ⟨sa, ys, rfl, ly, dys⟩ := dp_tup (show Dp K F sv (.tuple [.int w.cap, .int w.start, .int w.refill]) from ds)
    obtain ⟨v1, v2, v3, rfl, d1, d2, d3⟩ := dps3 dys
    cases dp_int d1
    cases dp_int d2
    cases dp_int d3
    refine sw_seq (sw_drop (ew_call hd ?_))
    walk_at "ob"
    refine ⟨.ref wa, w, rfl, .tup lx (.cons ds (.cons dm .nil)), hw, fun F1 g1 => ?_⟩
    refine sw_seq (sw_asg ?_)
    walk_at "ob"
    refine gw_tup hd ⟨wa, _, rfl, g1.sqT lx, rfl, gsw_cons (gw_name (gsw_cons (gw_name (gsw_nil ?_))))⟩
    refine sw_seq (sw_asg (ew_maxD hd (aw_cons (ew_lcT hd (ew_var rfl ?_)))))
    refine ⟨ma, zs, rfl, g1.sqT lz, by omega, fun Nl hNl => ?_⟩
    refine ⟨fun i acc _ G => Ex F1 G ∧ acc = ((w.ms.take i).map longS).map V.int, ⟨.refl _, rfl⟩, ?_, ?_, ?_⟩
    · rintro i acc _ G hi hg ⟨g, rfl⟩
      refine ⟨(g1.trans g).sqT lz, ?_⟩
      rw [List.length_map, List.length_map]
      exact List.length_take_le _ _
    · rintro i acc x _ G hi hg ⟨g, rfl⟩
      have hd' := hd.jd (D := Nl) (acc := ((w.ms.take i).map longS).map V.int)
      obtain ⟨d, hd1, hd2⟩ := dps_get' dzs hi
      rw [List.getElem?_map] at hd1
      obtain ⟨ss, hss, rfl⟩ := Option.map_eq_some_iff.mp hd1
      refine gw_name ⟨rfl, tw_yes ⟨fun _ => ?_, (fun z => by cases z)⟩⟩
      obtain ⟨ta, us, rfl, lu, dus⟩ := dp_tup (dp_ex (g1.trans g) hd2)
      have hul : us.length = ss.length := by have := dps_len dus; simpa using this
      have hs6 := hw.n ss (List.mem_of_getElem? hss)
      refine ew_cb (aw_cons (ew_lcT hd' (ew_var rfl ⟨ta, us, rfl, lu, by omega, fun Dl hDl => ?_⟩)))
      refine ⟨fun j acc _ G' => G' = G ∧ acc = ((ss.take j).map fun st => st.long).map V.int, ⟨rfl, rfl⟩, ?_, ?_, ?_⟩
      · rintro j acc _ G' hj hg' ⟨rfl, rfl⟩
        refine ⟨lu, ?_⟩
        rw [List.length_map, List.length_map]
        exact List.length_take_le _ _
      · rintro j acc y _ G' hj hg' ⟨rfl, rfl⟩
        obtain ⟨d, hd3, hd4⟩ := dps_get' dus hj
        rw [List.getElem?_map] at hd3
        obtain ⟨st, hst, rfl⟩ := Option.map_eq_some_iff.mp hd3
        obtain ⟨tb, qs, rfl, lq, dqs⟩ := dp_tup hd4
        obtain ⟨u1, u2, u3, rfl, e1, e2, e3⟩ := dps3 dqs
        cases dp_int e1
        cases dp_int e2
        cases dp_int e3
        refine gw_name ⟨rfl, tw_yes ⟨fun _ => ?_, (fun z => by cases z)⟩⟩
        refine ew_op (ew_var rfl (ew_c (rw_ixT ((hd.jd (D := Nl)).jd (D := Dl)) lq (i := 1) (by rfl) ⟨rfl, ?_⟩)))
        rw [List.take_succ, hst, List.map_append, List.map_append]
        rfl
      · rintro acc _ G' hg' ⟨rfl, rfl⟩
        rw [hul, List.take_length]
        have gD : Ex G' (upd G' Dl (.lst ((ss.map fun st => st.long).map V.int))) := Ex.new (.refl _) hg'
        refine aw_nil (cw_sum hd' (SqL.of upd_same) ⟨g.trans gD, ?_⟩)
        rw [List.take_succ, hss, List.map_append, List.map_append]
        rfl
    · rintro acc _ G hg ⟨g, rfl⟩
      rw [hzl, List.take_length]
      have gD : Ex G (upd G Nl (.lst ((w.ms.map longS).map V.int))) := Ex.new (.refl _) hg
      have gF : Ex F (upd G Nl (.lst ((w.ms.map longS).map V.int))) := g1.trans (g.trans gD)
      refine aw_nil ⟨Nl, _, rfl, SqL.of upd_same, ?_, ?_⟩
      · intro y hy
        obtain ⟨ss, hss, rfl⟩ := List.mem_map.mp hy
        exact long_pos hw hss
      walk_at "ob"
      refine ⟨rfl, SqL.of upd_same, gw_name ?_⟩
      refine sw_seq (sw_asg (ew_op (ew_cb (aw_cons (ew_lc2T hd (ew_var rfl ?_))))))
      have lzG := gF.sqT lz
      refine ⟨ma, zs, w.ms.map fun ss => (ss.map fun st => st.draw - st.back).map V.int, rfl, lzG, by rw [List.length_map]; exact hzl, by rw [List.length_map]; omega, ?_, ?_, ?_⟩
      · intro us hus
        obtain ⟨ss, hss, rfl⟩ := List.mem_map.mp hus
        have := hw.n ss hss
        rw [List.length_map, List.length_map]
        omega
      · intro i x us hi hu Dl acc hDl
        have hd' := hd.jd (D := Dl) (acc := acc)
        obtain ⟨d, hd1, hd2⟩ := dps_get' dzs hi
        rw [List.getElem?_map] at hd1 hu
        obtain ⟨ss, hss, rfl⟩ := Option.map_eq_some_iff.mp hd1
        rw [hss] at hu
        cases hu
        obtain ⟨ta, vs2, rfl, lu, dus⟩ := dp_tup (dp_ex gF hd2)
        have hul : vs2.length = ss.length := by have := dps_len dus; simpa using this
        refine gw_name ⟨rfl, rfl, rfl, ew_var rfl ⟨rfl, rfl, ta, vs2, rfl, lu, by rw [List.length_map, List.length_map]; exact hul, fun k z u hz hu acc' => ?_⟩⟩
        have hd2' := hd.jd (D := Dl) (acc := acc')
        obtain ⟨d, hd3, hd4⟩ := dps_get' dus hz
        rw [List.getElem?_map] at hd3
        obtain ⟨st, hst, rfl⟩ := Option.map_eq_some_iff.mp hd3
        rw [List.getElem?_map, List.getElem?_map, hst] at hu
        cases hu
        obtain ⟨tb, qs, rfl, lq, dqs⟩ := dp_tup hd4
        obtain ⟨u1, u2, u3, rfl, e1, e2, e3⟩ := dps3 dqs
        cases dp_int e1
        cases dp_int e2
        cases dp_int e3
        refine gw_name ⟨rfl, rfl, rfl, ?_⟩
        exact ew_op (ew_op (ew_var rfl (ew_c (rw_ixT hd2' lq (i := 0) (by rfl) (ew_op (ew_var rfl (ew_c (rw_ixT hd2' lq (i := 2) (by rfl) (rw_I0 ⟨rfl, rfl, rfl⟩)))))))))
      · intro Dl hDl
        have e : (List.map (fun ss => List.map V.int (List.map (fun st => st.draw - st.back) ss)) w.ms).flatten = (w.ms.flatMap fun ss => ss.map fun st => st.draw - st.back).map V.int := by
          rw [List.flatMap, List.map_flatten, List.map_map]
          rfl
        rw [e]
        have gD2 : Ex (upd G Nl (.lst ((w.ms.map longS).map V.int))) (upd (upd G Nl (.lst ((w.ms.map longS).map V.int))) Dl (.lst ((w.ms.flatMap fun ss => ss.map fun st => st.draw - st.back).map V.int))) := Ex.new (.refl _) hDl
        have gF2 := gF.trans gD2
        refine aw_nil (cw_sum hd (SqL.of upd_same) ?_)
        refine ew_op (ew_var rfl (ew_c (rw_ixT hd (gF2.sqT ly) (i := 1) (by rfl) (rw_I0 (gw_name ?_)))))
        refine sw_ret (ew_tup hd (aw_cons (ew_var rfl (aw_cons (ew_call hd (aw_cons (ew_var rfl (aw_cons (ew_op (ew_var rfl (ew_c (rw_ixT hd (gF2.sqT ly) (i := 2) (by rfl) (aw_nil ?_)))))))))))))
        refine ⟨lacksF w, w.refill, rfl, Int.le_trans (lacks_le hw) (by decide), hw.r0, by have := hw.r1; omega, fun F' g3 => aw_nil ⟨by walk_at "ob_len", fun q hq => ?_⟩⟩
        have g4 := gF2.trans g3
        exact k q _ (Ex.new g4 hq) (g4.free hq) upd_same
end
end Obr
/-! ### plans: two worlds in a store of both; floors -/
namespace Obr
open PySem L2 PyProof.Rows
def two (w : Wld) : Wld := ⟨2 * w.cap, 2 * w.start, 2 * w.refill, w.ms ++ w.ms⟩
structure D2 (w : Wld) (t u : LSt) : Prop where
  ms : ∀ (j : Nat) (m : Mac) (ss : List Stp), t.ms[j]? = some m → w.ms[j]? = some ss → (∃ m', u.ms[j]? = some m' ∧ RL 0 m m') ∧ ∃ m', u.ms[w.ms.length + j]? = some m' ∧ RL 0 m m'
  beat : u.beat = t.beat
  lv : 2 * t.level ≤ u.level
  l1 : u.level ≤ 2 * w.cap
  ok : LOk (two w) u
/-- a row for both -/
def rowTwo (n : Nat) (xs : List Int) : List Int := xs ++ xs.map fun x => x + (n : Int)
/-! ### floors -/
end Obr
namespace Obr
open PySem L2 PyProof.Rows
section
variable {S : Type} {J : S → Hp → Hp → Prop} {K : PySem.W.Frag} {σ : L2.St} {s : S} {F : Hp} {R : V → S → Hp → Prop} {tn : TE}
/-- list(range(n)) -/
theorem ew_listRg (hd : Hid J) (h : EW J tn σ s F fun v s1 F1 => ∃ n : Nat, v = .int (n : Nat) ∧ n ≤ 1000 ∧ ∀ q, F1 q = none → R (.ref q) s1 (upd F1 q (.lst ((List.range n).map fun k => V.int (k : Nat))))) : EW J (tLstRg (tRg1 tn)) σ s F R := fun H j Q q =>
  h H j _ fun v s1 F1 H1 j1 ⟨n, e, hn, k⟩ => ⟨n, e, RgOk.of_le (by omega) (by omega) (by omega) (by omega), fun p hp => by
    have er : rgV 0 (n : Nat) = (List.range n).map fun k => V.int (k : Nat) := by
      unfold rgV
      rw [Int.sub_zero, Int.toNat_natCast]
      refine List.map_congr_left fun x _ => ?_
      rw [Int.zero_add]
    rw [er]
    exact q _ _ _ _ (hd.al j1 hp) (k p (hd.fresh j1 hp))⟩
theorem cw_sortedI (hd : Hid J) {a : Addr} {ns : List Int} (l : SqL K F a (ns.map V.int)) (h : ∀ (ns' : List Int) (p : Addr), ns'.Perm ns → ns'.Pairwise (· ≤ ·) → F p = none → R (.ref p) s (upd F p (.lst (ns'.map V.int)))) : CW J (rSortedI K) [.ref a] s F R := fun H j Q q =>
  ⟨a, ns, rfl, hd.sqL j l, fun ns' p h1 h2 hp => q _ _ _ _ (hd.al j hp) (h ns' p h1 h2 (hd.fresh j hp))⟩
end
end Obr
/-! ### plans as laws hand them in -/
namespace Obr
open PySem L2 PyProof.Rows
/-- the values of rows -/
structure PlanV (K : PySem.W.Frag) (F : Hp) (vs : List V) (rows : List (List Int)) : Prop where
  len : vs.length = rows.length
  at_ : ∀ (i : Nat) (v : V) (xs : List Int), vs[i]? = some v → rows[i]? = some xs → RowAt K F v xs
section
variable {K : PySem.W.Frag} {F G : Hp} {vs vs' : List V} {rows rows' : List (List Int)} {v : V} {xs : List Int}
def tupZ (xs : List Int) : PyData := .tuple (xs.map PyData.int)
end
theorem rowsZ_len {rows : List (Int × List Int)} : (rowsZ rows).length = rows.length := List.length_map _
/-- the places of rows in which one begins -/
def busyL (rows : List (List Int)) (n : Nat) : List Nat := (List.range n).filter fun k => match rows[k]? with | some xs => !xs.isEmpty | none => false
/-- what is told of a plan -/
def Jd (w : Wld) (rows : List (List Int)) (v : V) : Prop := ∃ u, JPath w rows.length u rows ∧ judgedV w u = v
section
variable {w : Wld} {r : Rgt} {p : Bool} {T t : LSt} {n : Nat} {rows : List (Int × List Int)}
end
end Obr
namespace Obr
open PySem L2 PyProof.Rows
local macro_rules | `(tactic| walk_at "ob_at") => `(tactic| first
  | assumption
  | exact upd_same
  | (refine Eq.trans (upd_ne ?obn) ?obr; (case obn => walk_at "ob_ne"); (case obr => walk_at "ob_at")))
local macro_rules | `(tactic| walk_at "ob_ne") => `(tactic| first
  | assumption
  | (refine Ne.symm ?obs; (case obs => assumption))
  | (refine' ne_of_none (H := ?_) ?obe ?obh; (case obh => assumption); (case obe => walk_at "ob_at"))
  | (refine Ne.symm ?obs; (case obs => (refine' ne_of_none (H := ?_) ?obe ?obh; (case obh => assumption); (case obe => walk_at "ob_at")))))
local macro_rules | `(tactic| walk_at "ob_fr") => `(tactic| first
  | assumption
  | (refine Eq.trans (upd_ne ?obn) ?obr; (case obn => walk_at "ob_ne"); (case obr => walk_at "ob_fr"))
  | (refine Ex.free (G := ?_) (by assumption) ?obh; (case obh => walk_at "ob_fr")))
local macro_rules | `(tactic| walk_at "ob_ex") => `(tactic| first
  | assumption
  | exact Ex.refl _
  | (refine Ex.out ?obg ?obh; (case obh => assumption); (case obg => walk_at "ob_ex"))
  | (refine Ex.new ?obg ?obh; (case obh => assumption); (case obg => walk_at "ob_ex"))
  | (refine Ex.new ?obg ?obh; (case obh => walk_at "ob_fr"); (case obg => walk_at "ob_ex")))
local macro_rules | `(tactic| walk_at "ob_sq") => `(tactic| first
  | assumption
  | (refine SqL.of ?oba; (case oba => walk_at "ob_at"))
  | (refine Ex.sqT (F := ?_) ?obg ?obh; (case obh => assumption); (case obg => walk_at "ob_ex"))
  | (refine Ex.sqL (F := ?_) ?obg ?obh; (case obh => assumption); (case obg => walk_at "ob_ex"))
  | (refine SqT.of ?oba; (case oba => walk_at "ob_at")))
local macro_rules | `(tactic| walk_at "ob_side") => `(tactic| first | exact rfl | assumption | decide | omega | exact ⟨by decide, by decide, by decide⟩ | exact Or.inr ⟨by decide, by decide⟩ | exact Or.inl ⟨by decide, by decide⟩ | exact wide_div (b := 60) (by first | decide | omega) (by first | decide | omega) (by decide) (by decide))
local macro_rules | `(tactic| walk_at "ob1") => `(tactic| first
  | with_reducible refine sw_seq ?_
  | with_reducible refine sw_asg ?_
  | with_reducible refine sw_ret ?_
  | with_reducible refine sw_par ?_
  | with_reducible refine ⟨_, _, rfl, ?_⟩
  | with_reducible refine sw_drop ?_
  | with_reducible refine sw_if ?_
  | with_reducible refine sw_next ?_
  | with_reducible refine gw_name ?_
  | with_reducible refine gw_subL (by assumption) ?_
  | with_reducible refine gsw_cons ?_
  | with_reducible refine gsw_nil ?_
  | with_reducible refine ew_c ?_
  | ((with_reducible refine' ew_var (v := ?_) ?obv ?_); (case obv => exact rfl))
  | ((with_reducible refine ew_next (by assumption) ?obv ?_); (case obv => exact rfl))
  | ((with_reducible refine ew_world (by assumption) ?obv ?_); (case obv => exact rfl))
  | ((with_reducible refine ew_rule (by assumption) ?obv ?_); (case obv => exact rfl))
  | with_reducible refine ew_op ?_
  | with_reducible refine ew_un ?_
  | with_reducible refine ew_dget (by assumption) ?_
  | with_reducible refine uw_I ?_
  | with_reducible refine ppw_nil ?_
  | with_reducible refine ppw_cons ?_
  | with_reducible refine sw_dput (by assumption) ?_
  | with_reducible refine ew_cb ?_
  | with_reducible refine ew_if ?_
  | with_reducible refine ew_slL (by assumption) ?_
  | with_reducible refine ow_some ?_
  | with_reducible refine ow_none ?_
  | with_reducible refine aw_nil ?_
  | with_reducible refine aw_cons ?_
  | with_reducible refine rw_I0 ?_
  | ((with_reducible refine rw_I ?obc ?_); (case obc => walk_at "ob_side"))
  | with_reducible refine rw_isN ?_
  | with_reducible refine rw_notN ?_
  | ((with_reducible refine rw_eq ?obc ?_); (case obc => exact rfl))
  | ((with_reducible refine rw_ne ?obc ?_); (case obc => exact rfl))
  | with_reducible refine cw_max2 ?_
  | with_reducible refine cw_min2 ?_
  | with_reducible refine tw_test ?_
  | with_reducible refine tw_B ?_
  | with_reducible refine tw_not ?_
  | with_reducible refine tw_truB ?_
  | with_reducible refine tw_and ?_
  | with_reducible refine tw_or ?_
  | with_reducible refine ew_and ?_
  | (refine' Exists.intro _ (And.intro (show V.bl _ = V.bl _ from rfl) ?_))
  | (refine' Exists.intro _ (And.intro (show V.int _ = V.int _ from rfl) ?_))
  | ((with_reducible refine' rw_ixL (v := ?_) (xs := ?_) (by assumption) ?obl ?oba ?_); (case obl => walk_at "ob_sq"); (case oba => first | exact rfl | exact at_zero))
  | ((with_reducible refine' rw_ixT (v := ?_) (xs := ?_) (by assumption) ?obl ?oba ?_); (case obl => walk_at "ob_sq"); (case oba => first | exact rfl | exact at_zero))
  | ((with_reducible refine' ew_lst (by assumption) ?_))
  | ((with_reducible refine' ew_tup (by assumption) ?_)))
local macro_rules | `(tactic| walk_at "ob_len") => `(tactic| first | exact Nat.le_of_ble_eq_true rfl | (simp; done) | omega)
local macro_rules | `(tactic| walk_at "ob") => `(tactic| repeat walk_at "ob1")
/-! ### _law_alike of the same data -/
def tyD : PyData → String
  | .none => "NoneType"
  | .bool _ => "bool"
  | .int _ => "int"
  | .str _ => "str"
  | .list _ => "list"
  | .tuple _ => "tuple"
  | .dict _ => "dict"
section
variable {S : Type} {J : S → Hp → Hp → Prop} {K : PySem.W.Frag} {s : S} {F : Hp} {R : V → S → Hp → Prop}
end
/-- data of depth n at most, none longer than a thousand -/
def szD : Nat → PyData → Bool
  | _, .none => true
  | _, .bool _ => true
  | _, .int _ => true
  | _, .str x => PyData.strOk x
  | n + 1, .list ds => decide (ds.length ≤ 1000) && ds.all (szD n)
  | n + 1, .tuple ds => decide (ds.length ≤ 1000) && ds.all (szD n)
  | _, _ => false
/-- two that hold the same -/
def aAlike (K : PySem.W.Frag) : Nat → List V → Hp → VK → Prop
  | 0 => fun _ _ _ => False
  | n + 1 => fun vs F R => ∃ (x y : V) (d : PyData), vs = [x, y] ∧ Dp K F x d ∧ Dp K F y d ∧ szD n d = true ∧ ∀ F', Ex F F' → R (.bl true) F'
section
variable {P : Program} {w : World} {K : PySem.W.Frag} {mg : Str → Option Value} {base : Heap}
end
end Obr
namespace Obr
open PySem PySem.Spec L2 LamX NdefX PyProof.Rows Obp
local macro_rules | `(tactic| walk_at "ob_wat") => `(tactic| first
  | with_reducible refine WAt.g_store (by assumption) ?_
  | with_reducible refine WAt.g_machines (by assumption) ?_
  | with_reducible refine WAt.g_rule (by assumption) ?_
  | with_reducible refine WAt.g_level (by assumption) ?_
  | with_reducible refine WAt.g_at (by assumption) ?_
  | with_reducible refine WAt.g_over (by assumption) ?_
  | with_reducible refine WAt.g_since (by assumption) ?_
  | with_reducible refine WAt.g_last (by assumption) ?_
  | with_reducible refine WAt.g_beat (by assumption) ?_
  | with_reducible refine WAt.g_done (by assumption) ?_
  | with_reducible refine WAt.g_waits (by assumption) ?_
  | with_reducible refine WAt.g_ends (by assumption) ?_
  | ((with_reducible refine' WAt.r_at_ (t := ?_) (m := ?_) ?obw ?obd ?obm ?_); (case obw => assumption); (case obd => assumption); (case obm => assumption))
  | ((with_reducible refine' WAt.r_over (t := ?_) (m := ?_) ?obw ?obd ?obm ?_); (case obw => assumption); (case obd => assumption); (case obm => assumption))
  | ((with_reducible refine' WAt.r_since (t := ?_) (m := ?_) ?obw ?obd ?obm ?_); (case obw => assumption); (case obd => assumption); (case obm => assumption))
  | ((with_reducible refine' WAt.r_done (t := ?_) (m := ?_) ?obw ?obd ?obm ?_); (case obw => assumption); (case obd => assumption); (case obm => assumption))
  | ((with_reducible refine' WAt.r_waits (t := ?_) (m := ?_) ?obw ?obd ?obm ?_); (case obw => assumption); (case obd => assumption); (case obm => assumption))
  | ((with_reducible refine' WAt.r_right ?obw ?obd ?_); (case obw => assumption); (case obd => assumption))
  | ((with_reducible refine' WAt.r_pass ?obw ?obd ?_); (case obw => assumption); (case obd => assumption)))
local macro_rules | `(tactic| walk_at "ob_at") => `(tactic| first
  | assumption
  | exact upd_same
  | (refine Eq.trans (upd_ne ?obn) ?obr; (case obn => walk_at "ob_ne"); (case obr => walk_at "ob_at")))
local macro_rules | `(tactic| walk_at "ob_ne") => `(tactic| first
  | assumption
  | (refine Ne.symm ?obs; (case obs => assumption))
  | (refine' ne_of_none (H := ?_) ?obe ?obh; (case obh => assumption); (case obe => walk_at "ob_at"))
  | (refine Ne.symm ?obs; (case obs => (refine' ne_of_none (H := ?_) ?obe ?obh; (case obh => assumption); (case obe => walk_at "ob_at")))))
local macro_rules | `(tactic| walk_at "ob_fr") => `(tactic| first
  | assumption
  | (refine Eq.trans (upd_ne ?obn) ?obr; (case obn => walk_at "ob_ne"); (case obr => walk_at "ob_fr"))
  | (refine Ex.free (G := ?_) (by assumption) ?obh; (case obh => walk_at "ob_fr")))
local macro_rules | `(tactic| walk_at "ob_ex") => `(tactic| first
  | assumption
  | exact Ex.refl _
  | (refine Ex.out ?obg ?obh; (case obh => assumption); (case obg => walk_at "ob_ex"))
  | (refine Ex.new ?obg ?obh; (case obh => assumption); (case obg => walk_at "ob_ex"))
  | (refine Ex.new ?obg ?obh; (case obh => walk_at "ob_fr"); (case obg => walk_at "ob_ex")))
local macro_rules | `(tactic| walk_at "ob_sq") => `(tactic| first
  | assumption
  | (refine SqL.of ?oba; (case oba => walk_at "ob_at"))
  | (refine Ex.sqT (F := ?_) ?obg ?obh; (case obh => assumption); (case obg => walk_at "ob_ex"))
  | (refine Ex.sqL (F := ?_) ?obg ?obh; (case obh => assumption); (case obg => walk_at "ob_ex"))
  | (refine SqT.of ?oba; (case oba => walk_at "ob_at")))
local macro_rules | `(tactic| walk_at "ob_side") => `(tactic| first | exact rfl | assumption | decide | omega | exact ⟨by decide, by decide, by decide⟩ | exact Or.inr ⟨by decide, by decide⟩ | exact Or.inl ⟨by decide, by decide⟩ | exact wide_div (b := 60) (by first | decide | omega) (by first | decide | omega) (by decide) (by decide))
local macro_rules | `(tactic| walk_at "ob1") => `(tactic| first
  | walk_at "ob_wat"
  | with_reducible refine sw_seq ?_
  | with_reducible refine sw_asg ?_
  | with_reducible refine sw_ret ?_
  | with_reducible refine sw_par ?_
  | with_reducible refine ⟨_, _, rfl, ?_⟩
  | with_reducible refine sw_drop ?_
  | with_reducible refine sw_if ?_
  | with_reducible refine sw_next ?_
  | with_reducible refine gw_name ?_
  | with_reducible refine gw_subL (by assumption) ?_
  | with_reducible refine gsw_cons ?_
  | with_reducible refine gsw_nil ?_
  | with_reducible refine ew_c ?_
  | ((with_reducible refine' ew_var (v := ?_) ?obv ?_); (case obv => exact rfl))
  | ((with_reducible refine ew_next (by assumption) ?obv ?_); (case obv => exact rfl))
  | ((with_reducible refine ew_world (by assumption) ?obv ?_); (case obv => exact rfl))
  | ((with_reducible refine ew_rule (by assumption) ?obv ?_); (case obv => exact rfl))
  | with_reducible refine ew_op ?_
  | with_reducible refine ew_un ?_
  | with_reducible refine ew_dget (by assumption) ?_
  | with_reducible refine uw_I ?_
  | with_reducible refine ppw_nil ?_
  | with_reducible refine ppw_cons ?_
  | with_reducible refine sw_dput (by assumption) ?_
  | with_reducible refine ew_cb ?_
  | with_reducible refine ew_if ?_
  | with_reducible refine ew_slL (by assumption) ?_
  | with_reducible refine ow_some ?_
  | with_reducible refine ow_none ?_
  | with_reducible refine aw_nil ?_
  | with_reducible refine aw_cons ?_
  | with_reducible refine rw_I0 ?_
  | ((with_reducible refine rw_I ?obc ?_); (case obc => walk_at "ob_side"))
  | with_reducible refine rw_isN ?_
  | with_reducible refine rw_notN ?_
  | ((with_reducible refine rw_eq ?obc ?_); (case obc => exact rfl))
  | ((with_reducible refine rw_ne ?obc ?_); (case obc => exact rfl))
  | with_reducible refine cw_max2 ?_
  | with_reducible refine cw_min2 ?_
  | with_reducible refine tw_test ?_
  | with_reducible refine tw_B ?_
  | with_reducible refine tw_not ?_
  | with_reducible refine tw_truB ?_
  | with_reducible refine tw_and ?_
  | with_reducible refine tw_or ?_
  | with_reducible refine ew_and ?_
  | (refine' Exists.intro _ (And.intro (show V.bl _ = V.bl _ from rfl) ?_))
  | (refine' Exists.intro _ (And.intro (show V.int _ = V.int _ from rfl) ?_))
  | ((with_reducible refine' rw_ixL (v := ?_) (xs := ?_) (by assumption) ?obl ?oba ?_); (case obl => walk_at "ob_sq"); (case oba => first | exact rfl | exact at_zero))
  | ((with_reducible refine' rw_ixT (v := ?_) (xs := ?_) (by assumption) ?obl ?oba ?_); (case obl => walk_at "ob_sq"); (case oba => first | exact rfl | exact at_zero))
  | ((with_reducible refine' ew_lst (by assumption) ?_))
  | ((with_reducible refine' ew_tup (by assumption) ?_)))
local macro_rules | `(tactic| walk_at "ob_len") => `(tactic| first | exact Nat.le_of_ble_eq_true rfl | (simp; done) | omega)
local macro_rules | `(tactic| walk_at "ob") => `(tactic| repeat walk_at "ob1")
/-! ### what is kept while a lambda changes one list -/
theorem tab_drop {T : List NTab} {F : Hp} {a : Addr} {o : HO} {xs : List V} (h : TabsN T F) (e : F a = some (.lst xs)) : TabsN T (dropH F [(a, o)]) := fun p hp => by
  obtain ⟨ps, h1, h2, h3⟩ := h p hp
  have ne : ∀ {b : Addr} {u : HO}, F b = some u → (∀ ys, u ≠ .lst ys) → dropH F [(a, o)] b = some u := fun {b u} hb hu => by
    unfold dropH
    rw [if_neg, hb]
    intro z
    have : b = a := by simpa using z
    rw [this, e] at hb
    cases hb
    exact hu xs rfl
  refine ⟨ps, ne h1 (fun ys z => by cases z), h2, fun pos cv hc => ?_⟩
  obtain ⟨c, e1, e2⟩ := h3 pos cv hc
  exact ⟨c, e1, ne e2 fun ys z => by
    unfold CodeO at z
    cases z⟩
theorem after_own {T : List NTab} {Fb G F1 F' : Hp} {pf : Addr} {xs : List V} (h : Own Fb G [(pf, .lst xs)]) (g1 : ExtN G F1) (g2 : Ex F1 F') (hT : TabsN T F') : ∃ Fb', ExtN Fb Fb' ∧ Own Fb' F' [(pf, .lst xs)] ∧ TabsN T Fb' ∧ ∀ b, b ≠ pf → Fb' b = F' b := by
  have e : F' pf = some (.lst xs) := g2 _ _ (g1 _ _ (h.get (i := 0) rfl) (fun ps z => by cases z))
  have hne : ∀ b, b ≠ pf → dropH F' [(pf, HO.lst xs)] b = F' b := fun b hb => by
    unfold dropH
    rw [if_neg (by simpa using hb)]
  refine ⟨dropH F' [(pf, .lst xs)], fun b o hb n => ?_, ⟨fun b o hb => ?_, fun p hp => ?_, fun p hp => ?_, by simp⟩, tab_drop hT e, hne⟩
  · have : b ≠ pf := fun z => by
      rw [z, h.out (pf, .lst xs) (by simp)] at hb
      cases hb
    rw [hne b this]
    exact g2 _ _ (g1 _ _ (h.ex _ _ hb) n)
  · unfold dropH at hb
    split at hb
    · cases hb
    · exact hb
  · rw [List.mem_singleton.mp hp]
    unfold dropH
    exact if_pos (by simp)
  · rw [List.mem_singleton.mp hp]
    exact e
theorem rowAt_extN {K : PySem.W.Frag} {F G : Hp} (g : ExtN F G) {v : V} {xs : List Int} (h : RowAt K F v xs) : RowAt K G v xs := by
  obtain ⟨a, e, z⟩ := h
  exact ⟨a, e, z.imp (extN_sqL g) (extN_sqT g)⟩
theorem planAt_extN {K : PySem.W.Frag} {F G : Hp} (g : ExtN F G) {pa : Addr} {rows : List (List Int)} (h : PlanAt K F pa rows) : PlanAt K G pa rows := by
  obtain ⟨vs, z, hl, ha⟩ := h
  exact ⟨vs, z.imp (extN_sqL g) (extN_sqT g), hl, fun i v xs h1 h2 => rowAt_extN g (ha i v xs h1 h2)⟩
/-- what the law has at hand from here on -/
structure Bs (K : PySem.W.Frag) (F : Hp) (ph pu pt pq pn : Addr) (w w' : Wld) (tl : List (List Int)) (ns : List Nat) : Prop where
  w1 : Dp K F (.ref ph) (wldD w)
  w2 : Dp K F (.ref pu) (wldD w')
  t1 : PlanAt K F pt tl
  t2 : PlanAt K F pq (tl.map (renRow ns))
  nw : SqL K F pn (ns.map fun k => V.int (k : Nat))
theorem Bs.extN {K : PySem.W.Frag} {F G : Hp} {ph pu pt pq pn : Addr} {w w' : Wld} {tl : List (List Int)} {ns : List Nat} (g : ExtN F G) (h : Bs K F ph pu pt pq pn w w' tl ns) : Bs K G ph pu pt pq pn w w' tl ns := ⟨dp_extN g h.w1, dp_extN g h.w2, planAt_extN g h.t1, planAt_extN g h.t2, extN_sqL g h.nw⟩
theorem Bs.ex {K : PySem.W.Frag} {F G : Hp} {ph pu pt pq pn : Addr} {w w' : Wld} {tl : List (List Int)} {ns : List Nat} (g : Ex F G) (h : Bs K F ph pu pt pq pn w w' tl ns) : Bs K G ph pu pt pq pn w w' tl ns := h.extN (ExtN.of g)
/-- what comes of a plan judged: the list of what is told, and the kind -/
def Kd (w : Wld) (tl : List (List Int)) (n : Nat) (fl : List V) (d : PyData) : Prop := (∃ t, JPath w tl.length t tl ∧ fl = List.replicate n (judgedV w t) ∧ d = .tuple [.str "", .int 0]) ∨ ∃ bb : Nat, BadAt w tl bb ∧ fl = [] ∧ d = .tuple [.str "plan", .int (bb : Int)]
theorem low_kind (x : Str) (hx : lowD 1 (.str x) = true) (b : Int) : lowD 2 (.tuple [.str x, .int b]) = true := by
  show ([PyData.str x, .int b].all (lowD 1)) = true
  rw [List.all_cons, List.all_cons, hx]
  rfl
theorem low_none : lowD 1 (PyData.str "") = true := by decide +kernel
theorem low_planS : lowD 1 (PyData.str "plan") = true := by decide +kernel
theorem eqv_lowK {n : Nat} {d : PyData} (h : lowD n d = true) : PyData.eqv d d = true := SeqAt.eqv_refl d (lowD_ok n d h).1
theorem Kd.low {w : Wld} {tl : List (List Int)} {n : Nat} {fl : List V} {d : PyData} (h : Kd w tl n fl d) : lowD 2 d = true := by
  rcases h with ⟨t, _, _, rfl⟩ | ⟨bb, _, _, rfl⟩
  · exact low_kind _ low_none _
  · exact low_kind _ low_planS _
theorem judged_dp (w : Wld) (t : LSt) : ∃ d, lowD 1 d = true ∧ ∀ (K : PySem.W.Frag) (F : Hp), Dp K F (judgedV w t) d := by
  unfold judgedV
  split
  · exact ⟨.int _, rfl, fun K F => .int _⟩
  · exact ⟨.none, rfl, fun K F => .non⟩
theorem ren_bad {w w' : Wld} {nw : List Nat} (hw : WldOk w) (hw' : WldOk w') (h : Ren w w' nw) {tl : List (List Int)} (hr : ∀ xs ∈ tl, RowOk w xs) {bb : Nat} (hb : BadAt w tl bb) : BadAt w' (tl.map (renRow nw)) bb := by
  obtain ⟨h0, t, h1, h2⟩ := hb
  obtain ⟨t', h3, r⟩ := ren_path hw hw' h h1
  obtain ⟨l0, l1⟩ := h1.lev hw
  refine ⟨by rw [List.length_map]; exact h0, t', by rw [← List.map_take]; exact h3, fun ys hy => ?_⟩
  rw [List.getElem?_map] at hy
  obtain ⟨xs, hx, rfl⟩ := Option.map_eq_some_iff.mp hy
  rw [ren_can h (ren_open hw hw' h r h1.ok.1 h3.ok.1 l0 l1) (hr xs (List.mem_of_getElem? hx))]
  exact h2 xs hx
theorem Kd.ren {w w' : Wld} {nw : List Nat} (hw : WldOk w) (hw' : WldOk w') (h : Ren w w' nw) {tl : List (List Int)} (hr : ∀ xs ∈ tl, RowOk w xs) :
    (∃ t t', JPath w tl.length t tl ∧ JPath w' (tl.map (renRow nw)).length t' (tl.map (renRow nw)) ∧ judgedV w' t' = judgedV w t) ∨ ∃ bb : Nat, BadAt w tl bb ∧ BadAt w' (tl.map (renRow nw)) bb := by
  rcases path_or (w := w) tl tl.length (Nat.le_refl _) with ⟨t, hp⟩ | ⟨b, t, xs, h0, h1, h2, h3⟩
  · rw [List.take_length] at hp
    obtain ⟨t', hp', r⟩ := ren_path hw hw' h hp
    exact .inl ⟨t, t', hp, by rw [List.length_map]; exact hp', ren_judged h r⟩
  · have hb : BadAt w tl b := ⟨h0, t, h1, fun ys hy => by rw [h2] at hy; cases hy; exact h3⟩
    exact .inr ⟨b, hb, ren_bad hw hw' h hr hb⟩
/-! ### the machines in another turn -/
theorem ren_lists {ns : List Nat} {l : List (List Stp)} (hp : ns.Perm (List.range l.length)) : ∃ l' : List (List Stp), l'.length = l.length ∧ ∀ (k n : Nat), ns[k]? = some n → l'[n]? = l[k]? := by
  have hl : ns.length = l.length := by have := hp.length_eq; rwa [List.length_range] at this
  have hnd := hp.nodup_iff.mpr List.nodup_range
  have hmem : ∀ n, n < l.length → ∃ k : Nat, k < l.length ∧ ns[k]? = some n := fun n hn => by
    obtain ⟨k, hk⟩ := List.mem_iff_getElem?.mp (hp.mem_iff.mpr (List.mem_range.mpr hn))
    exact ⟨k, by rw [← hl]; exact (List.getElem?_eq_some_iff.mp hk).1, hk⟩
  refine ⟨(List.range l.length).map fun n => if hn : n < l.length then l.getD (hmem n hn).choose [] else [], by rw [List.length_map, List.length_range], fun k n e => ?_⟩
  have hk : k < l.length := by rw [← hl]; exact (List.getElem?_eq_some_iff.mp e).1
  have hn : n < l.length := List.mem_range.mp (hp.mem_iff.mp (List.mem_of_getElem? e))
  rw [List.getElem?_map, List.getElem?_range hn]
  show some (if hn : n < l.length then l.getD (hmem n hn).choose [] else []) = _
  rw [dif_pos hn]
  obtain ⟨h1, h2⟩ := (hmem n hn).choose_spec
  have ek : (hmem n hn).choose = k := (List.getElem?_inj (by omega) hnd).mp (h2.trans e.symm)
  rw [ek, List.getD_eq_getElem?_getD, List.getElem?_eq_getElem hk]
  rfl
/-- the world with its machines in another turn -/
theorem ren_world {w : Wld} (hw : WldOk w) {ns : List Nat} (hp : ns.Perm (List.range w.ms.length)) {l' : List (List Stp)} (h1 : l'.length = w.ms.length) (h2 : ∀ (k n : Nat), ns[k]? = some n → l'[n]? = w.ms[k]?) : Ren w ⟨w.cap, w.start, w.refill, l'⟩ ns ∧ WldOk ⟨w.cap, w.start, w.refill, l'⟩ := by
  have hr : Ren w ⟨w.cap, w.start, w.refill, l'⟩ ns := ⟨rfl, rfl, rfl, h1, hp, h2⟩
  have hm := hr.ms
  exact ⟨hr, hw.c0, hw.c1, hw.s0, hw.s1, hw.r0, hw.r1, by show l'.length ≤ 5; rw [h1]; exact hw.m, fun ss hss => hw.n ss (hm.mem_iff.mp hss), fun ss hss => hw.st ss (hm.mem_iff.mp hss)⟩
theorem path_rows {w : Wld} {n : Nat} {t : LSt} {rows : List (List Int)} (h : JPath w n t rows) : ∀ xs ∈ rows, RowOk w xs := by
  induction h with
  | zero => intro xs hx; cases hx
  | succ h1 hc ih =>
    intro xs hx
    rcases List.mem_append.mp hx with z | z
    · exact ih xs z
    · rw [List.mem_singleton.mp z]
      exact RowOk.can hc
theorem row_all {w : Wld} : RowOk w ((List.range w.ms.length).map fun k => ((k : Nat) : Int)) := by
  refine ⟨?_, fun x hx => ?_⟩
  · rw [List.pairwise_map]
    exact List.pairwise_lt_range.imp fun {a b} h => by show (a : Int) < b; omega
  · obtain ⟨k, hk, rfl⟩ := List.mem_map.mp hx
    have := List.mem_range.mp hk
    omega
theorem row_few {w : Wld} (hw : WldOk w) {xs : List Int} (h : RowOk w xs) : xs.length ≤ 5 := by
  have hn : (xs.map Int.toNat).Nodup := by
    rw [List.nodup_iff_pairwise_ne, List.pairwise_map]
    refine h.up.imp_of_mem fun {a b} ha hb hab => ?_
    have := h.inR a ha
    have := h.inR b hb
    omega
  have hs : (xs.map Int.toNat).Subset (List.range w.ms.length) := fun x hx => by
    obtain ⟨y, hy, rfl⟩ := List.mem_map.mp hx
    have := h.inR y hy
    exact List.mem_range.mpr (by omega)
  have := hn.length_le_of_subset hs
  rw [List.length_map, List.length_range] at this
  have := hw.m
  omega
def lstZ (xs : List Int) : PyData := .list (xs.map PyData.int)
theorem plan_lst {K : PySem.W.Frag} {F : Hp} {pa : Addr} {vs : List V} {rows : List (List Int)} (l : SqL K F pa vs) (h : DpAll K F vs (rows.map lstZ)) : PlanAt K F pa rows := by
  refine ⟨vs, .inl l, by have := dps_len h; rwa [List.length_map] at this, fun i v xs h1 h2 => ?_⟩
  obtain ⟨d, e1, e2⟩ := dps_get' h h1
  rw [List.getElem?_map, h2] at e1
  cases e1
  obtain ⟨a, us, rfl, la, du⟩ := dp_lst e2
  obtain rfl := dps_ints_iff du
  exact ⟨a, rfl, .inl la⟩
theorem lstZ_low {n : Nat} {rows : List (List Int)} : lowD (n + 2) (.list (rows.map lstZ)) = true := by
  show (rows.map lstZ).all (lowD (n + 1)) = true
  rw [List.all_map, List.all_eq_true]
  exact fun xs _ => low_ints
theorem eqv_nil2 : ∀ {ds : List PyData}, PyData.eqv (.list ds) (.list []) = ds.isEmpty
  | [] => rfl
  | _ :: _ => rfl
theorem nats_ints (l : List Nat) : (l.map fun k => V.int (k : Nat)) = (l.map fun k => ((k : Nat) : Int)).map V.int := by
  rw [List.map_map]
  rfl
theorem erase_perm : ∀ {l : List Nat} {k : Nat} (h : k < l.length), (l[k] :: l.eraseIdx k).Perm l
  | [], _, h => by simp at h
  | x :: l, 0, _ => .refl _
  | x :: l, k + 1, h => by
    have hk : k < l.length := by simpa using h
    have ih := erase_perm hk
    exact (List.Perm.swap x l[k] (l.eraseIdx k)).trans (ih.cons x)
theorem erase_map {α β : Type} {f : α → β} : ∀ {l : List α} {k : Nat}, (l.eraseIdx k).map f = (l.map f).eraseIdx k
  | [], _ => rfl
  | _ :: _, 0 => rfl
  | x :: l, k + 1 => by
    show f x :: (l.eraseIdx k).map f = f x :: (l.map f).eraseIdx k
    rw [erase_map]
theorem ren_min {w w' : Wld} {nw : List Nat} (h : Ren w w' nw) (h5 : w.ms.length ≤ 5) {m1 m2 : Int} (a1 : ∃ i, i < facN w'.ms.length ∧ m1 = leastT (needsW w') (idxP w'.ms.length i)) (a2 : ∀ j, j < facN w'.ms.length → m1 ≤ leastT (needsW w') (idxP w'.ms.length j))
    (b1 : ∃ i, i < facN w.ms.length ∧ m2 = leastT (needsW w) (idxP w.ms.length i)) (b2 : ∀ j, j < facN w.ms.length → m2 ≤ leastT (needsW w) (idxP w.ms.length j)) : m1 = m2 := by
  obtain ⟨i1, hi1, rfl⟩ := a1
  obtain ⟨i2, hi2, rfl⟩ := b1
  obtain ⟨nv, hv, _⟩ := h.back
  have hl := h.len
  obtain ⟨j, hj, _, e⟩ := ren_turn h h5 hi2
  obtain ⟨j', hj', _, e'⟩ := ren_turn hv (by omega) hi1
  have x1 := a2 j (by rw [hl]; exact hj)
  have x2 := b2 j' (by rw [← hl]; exact hj')
  omega
theorem bref_dp (l r : Int) : ∃ d, lowD 1 d = true ∧ ∀ (K : PySem.W.Frag) (F : Hp), Dp K F (bRef l r) d := by
  unfold bRef
  split
  · exact ⟨.int _, rfl, fun K F => .int _⟩
  · split
    · exact ⟨.none, rfl, fun K F => .non⟩
    · exact ⟨.int _, rfl, fun K F => .int _⟩
theorem low_pair {a b : PyData} {n : Nat} (h1 : lowD n a = true) (h2 : lowD n b = true) : lowD (n + 1) (.tuple [a, b]) = true := by
  show ([a, b].all (lowD n)) = true
  rw [List.all_cons, List.all_cons, h1, h2]
  rfl
theorem low_two {a b : PyData} {n : Nat} (h1 : lowD n a = true) (h2 : lowD n b = true) : lowD (n + 1) (.list [a, b]) = true := by
  show ([a, b].all (lowD n)) = true
  rw [List.all_cons, List.all_cons, h1, h2]
  rfl
def nD (w : Wld) (k : Nat) : PyData := .tuple [.int ((needsW w).getD k (0, 0)).1, .int ((needsW w).getD k (0, 0)).2]
theorem needs_of {w : Wld} {k : Nat} {ss : List Stp} (h : w.ms[k]? = some ss) : (needsW w).getD k (0, 0) = needS ss := by
  unfold needsW
  rw [List.getD_eq_getElem?_getD, List.getElem?_map, h]
  rfl
theorem nD_low {w : Wld} {n : Nat} : lowD 3 (.list ((List.range n).map (nD w))) = true := by
  show ((List.range n).map (nD w)).all (lowD 2) = true
  rw [List.all_map, List.all_eq_true]
  exact fun k _ => rfl
theorem nats_flat {l : List Nat} : (l.map fun k => V.int (k : Nat)).all flatV = true := by
  rw [List.all_map, List.all_eq_true]
  exact fun k _ => rfl
theorem dps_set9 {K : PySem.W.Frag} {F : Hp} : ∀ {k : Nat} {vs : List V} {ds : List PyData} {v : V} {d : PyData}, DpAll K F vs ds → Dp K F v d → DpAll K F (vs.set k v) (ds.set k d)
  | _, [], _, _, _, h, _ => by cases h; exact .nil
  | 0, _ :: _, _, _, _, h, h2 => by
    cases h with
    | cons h3 h4 => exact .cons h2 h4
  | k + 1, _ :: _, _, _, _, h, h2 => by
    cases h with
    | cons h3 h4 => exact .cons h3 (dps_set9 h4 h2)

/-! ### the law -/
def aLaw (K : PySem.W.Frag) (Pt : Addr) : List V → Hp → VK → Prop := fun vs F R => ∃ (a : Addr) (ns : List Int), vs = [.ref a] ∧ SqL K F a (ns.map V.int) ∧ ns.length ≤ 63 ∧ F Pt = some (.tbl #[]) ∧ ∀ F', R (.bl true) F'
section
variable {P : Program} {w : World} {K : PySem.W.Frag} {mg : Str → Option Value} {base : Heap}

def N_law : List Str := ["_law_script", "_law_h", "_law_turn", "_law_store", "_law_machines", "_law_left", "_law_new", "_law_other", "_law_k", "_law_world_here", "_law_turned", "_law_told", "_law_at", "_law_theirs", "_law_found", "_law_kind_here", "_law_one", "_law_two", "_law_level", "_law_began", "_law_row"]
theorem sc_law : FnScope N_law ["_law_script"] (defScope s_law) := ⟨rfl, rfl, rfl, by decide +kernel, rfl, by decide +kernel, by decide +kernel⟩
theorem ok_law {f : Addr} {fd : FuncData} {f1 f2 f3 f4 f5 f6 f7 f8 f9 f10 f11 : Addr} {fd1 fd2 fd3 fd4 fd5 fd6 fd7 fd8 fd9 fd10 fd11 : FuncData} {cBadPlan cLaw Pt : Addr} (Fn : Fun K "law" "law" s_law f fd) (B : Blt mg) (C_law_mix : Cal K mg "_law_mix" f1 fd1 ["_law_script", "_law_seed"]) (G_law_mix : FnOk P w K mg base CX0 1 f1 fd1 ["_law_script", "_law_seed"] (LS (aMix K))) (C_law_world : Cal K mg "_law_world" f2 fd2 ["_law_h", "_law_most", "_law_cap"]) (G_law_world : FnOk P w K mg base CX0 2 f2 fd2 ["_law_h", "_law_most", "_law_cap"] (LN (aWorld K))) (C_law_next : Cal K mg "_law_next" f3 fd3 ["_law_h", "_law_many"]) (G_law_next : FnOk P w K mg base CX0 1 f3 fd3 ["_law_h", "_law_many"] (LN aNext)) (C_law_rule : Cal K mg "_law_rule" f4 fd4 ["_law_h"]) (G_law_rule : FnOk P w K mg base CX0 2 f4 fd4 ["_law_h"] (LN (aRule K))) (Cbeats : Cal K mg "beats" f5 fd5 ["world", "rule", "many"]) (Gbeats : FnOk P w K mg base CX0 8 f5 fd5 ["world", "rule", "many"] (LS (aBeatsP K))) (Cfloors : Cal K mg "floors" f6 fd6 ["world"]) (Gfloors : FnOk P w K mg base CX0 4 f6 fd6 ["world"] (LS (aFloors K))) (Cleast_start : Cal K mg "least_start" f7 fd7 ["world"]) (Gleast_start : FnOk P w K mg base CX0 4 f7 fd7 ["world"] (LS (aLeastStart K))) (Cjudged : Cal K mg "judged" f8 fd8 ["world", "plan"]) (Gjudged : FnOk P w K mg base CX0 6 f8 fd8 ["world", "plan"] (LS (aJudged K))) (Corder : Cal K mg "order" f9 fd9 ["world"]) (Gorder : FnOk P w K mg base CX0 4 f9 fd9 ["world"] (LS (aOrder K))) (Cneed_of : Cal K mg "need_of" f10 fd10 ["world", "machine"]) (Gneed_of : FnOk P w K mg base CX0 4 f10 fd10 ["world", "machine"] (LS (aNeedOf K))) (GjudgedX : FnOk P w K mg base (L2.CX P w) 6 f8 fd8 ["world", "plan"] (LX (aJudgedX K cBadPlan))) (C_law_kind : Cal K mg "_law_kind" f11 fd11 ["_law_call"]) (G_law_kind : GOk P w K mg base C8.CX0 (L2.CX P w) 8 7 f11 (kindP cBadPlan)) (TB : TabB base mg cLaw Pt) (hcd : fd.code = .ref cLaw) : FnOk P w K mg base CX0 9 f fd ["_law_script"] (LS (aLaw K Pt)) := by
  refine Fun.okC Fn sc_law (fun vs H Q E h => ?_) (fun cdv hcdv A outer s H vs Q E hr h => ?_)
  · obtain ⟨J, F, R, hd, j, h, _⟩ := h
    obtain ⟨a, ns, rfl, _⟩ := h
    rfl
  · have nd := sc_law.nd
    obtain ⟨J, F, R, hd, j, h, q⟩ := h
    obtain ⟨a, ns0, rfl, hl, hn, hPt, k⟩ := h
    have hcode0 : cdv = .ref cLaw := hcdv.symm.trans hcd
    subst hcode0
    have hcode : (cxOf CX0 P w K mg base N_law "law" (defScope s_law) f (.ref cLaw) A outer s H E).nox.env.code = .ref cLaw := rfl
    refine ⟨_, (pss_cons (ps_set (i := 1) nd rfl (Or.inl rfl) (pe_call G_law_mix (by exact hr.mono (by decide)) (by rfl) C_law_mix.g C_law_mix.k C_law_mix.a .nil pass0 (pa_cons (pv 0) (pa_cons pe_int pa_nil))))
      (pss_cons (ps_for PassesOwn.never rfl (pi_range1 rfl B.range (pa_cons pe_int pa_nil)) (pg_name (i := 2) nd rfl (Or.inl rfl)) (pss_cons (ps_asg (pe_call G_law_world (by exact hr.mono (by decide)) (by rfl) C_law_world.g C_law_world.k C_law_world.a .nil pass0 (pa_cons (pv 1) (pa_cons pe_int (pa_cons (pe_ix ix_list (pe_lst (pa_cons pe_int (pa_cons pe_int pa_nil))) (pe_call G_law_next (by exact hr.mono (by decide)) (by rfl) C_law_next.g C_law_next.k C_law_next.a .nil pass0 (pa_cons (pv 1) (pa_cons pe_int pa_nil))) (fun _ _ => rfl)) pa_nil)))) (pg_tup rfl (pgs_cons (pg_name (i := 3) nd rfl (Or.inl rfl)) (pgs_cons (pg_name (i := 4) nd rfl (Or.inl rfl)) pgs_nil))))
      (pss_cons (ps_asg (pe_tup (pa_cons (pe_listRg rfl (by rfl) B.list (prg_1 (by rfl) B.range (pe_callB call_len_seq (by rfl) B.len (by decide +kernel) (pa_cons (pv 4) pa_nil)))) (pa_cons (pe_lst pa_nil) pa_nil))) (pg_tup rfl (pgs_cons (pg_name (i := 5) nd rfl (Or.inl rfl)) (pgs_cons (pg_name (i := 6) nd rfl (Or.inr rfl)) pgs_nil))))
      (pss_cons (ps_while PassesOwn.never (pt_cmpR (op_neD (by exact hr.units)) (pv 5) (pe_lst pa_nil) (nomark _)) (pss_one (ps_expr (pe_bm PySem.F.plainAttrs_list PySem.F.slot_list_append PySem.F.type_list_append mt_append (pv 6) (pa_cons (pe_bm PySem.F.plainAttrs_list PySem.F.slot_list_pop PySem.F.type_list_pop mt_popAt (pv 5) (pa_cons (pe_call G_law_next (by exact hr.mono (by decide)) (by rfl) C_law_next.g C_law_next.k C_law_next.a .nil pass0 (pa_cons (pv 1) (pa_cons (pe_callB call_len_seq (by rfl) B.len (by decide +kernel) (pa_cons (pv 5) pa_nil)) pa_nil))) pa_nil)) pa_nil)))))
      (pss_cons (ps_set (i := 7) nd rfl (Or.inl rfl) (pe_op op_rep (pe_lst (pa_cons (pe_tup pa_nil) pa_nil)) (pe_callB call_len_seq (by rfl) B.len (by decide +kernel) (pa_cons (pv 4) pa_nil))))
      (pss_cons (ps_for PassesOwn.never rfl (pi_range1 rfl B.range (pa_cons (pe_callB call_len_seq (by rfl) B.len (by decide +kernel) (pa_cons (pv 4) pa_nil)) pa_nil)) (pg_name (i := 8) nd rfl (Or.inl rfl)) (pss_one (ps_asg (pe_ix ix_tup (pv 4) (pv 8) (fun _ _ => rfl)) (pg_sub (pv 7) (pe_ix ix_list (pv 6) (pv 8) (fun _ _ => rfl)) set_list))))
      (pss_cons (ps_asg (pe_tup (pa_cons (pe_tup (pa_cons (pv 3) (pa_cons (pv 4) pa_nil))) (pa_cons (pe_tup (pa_cons (pv 3) (pa_cons (pe_callTy call_tuple_of (by rfl) B.tuple (by decide +kernel) (pa_cons (pv 7) pa_nil)) pa_nil))) pa_nil))) (pg_tup rfl (pgs_cons (pg_name (i := 9) nd rfl (Or.inr rfl)) (pgs_cons (pg_name (i := 10) nd rfl (Or.inr rfl)) pgs_nil))))
      (pss_cons (ps_set (i := 11) nd rfl (Or.inr rfl) (pe_lc (own := [("_law_level", 18), ("_law_began", 19)]) (g := (gTup K 2 (gCons (gName 18) (gCons (gName 19) gNil)))) (te := (tCB (rSortedI K) (tCons (tVar 19) tNil))) (tt := tYes) (by rfl) nd (pi_list (pe_call Gbeats (by exact hr.mono (by decide)) (by rfl) Cbeats.g Cbeats.k Cbeats.a .nil pass0 (pa_cons (pv 9) (pa_cons (pe_call G_law_rule (by exact hr.mono (by decide)) (by rfl) C_law_rule.g C_law_rule.k C_law_rule.a .nil pass0 (pa_cons (pv 1) pa_nil)) (pa_cons pe_int pa_nil))))) (blkOk_by (own := [("_law_level", 18), ("_law_began", 19)]) (N := N_law) (sc := defScope s_law) (by decide +kernel)) (fun _ _ _ _ _ => (pg_tup rfl (pgs_cons (pg_name (i := 18) nd rfl (Or.inl rfl)) (pgs_cons (pg_name (i := 19) nd rfl (Or.inl rfl)) pgs_nil)))) (fun _ _ _ _ _ => pts_nil) (fun _ _ _ _ _ => (pe_callB cr_sortedI (by rfl) B.sorted (by decide +kernel) (pa_cons (pv 19) pa_nil)))))
      (pss_cons (ps_if (PW.pt (pw_and (pt_cmpR (op_neD (by exact hr.units)) (pv 11) (pe_lst pa_nil) (nomark _)) (pw_and1 (pt_cmpR op_eq (pe_call G_law_next (by exact hr.mono (by decide)) (by rfl) C_law_next.g C_law_next.k C_law_next.a .nil pass0 (pa_cons (pv 1) (pa_cons pe_int pa_nil))) pe_int (nomark _))))) (pss_cons (ps_set (i := 12) nd rfl (Or.inl rfl) (pe_call G_law_next (by exact hr.mono (by decide)) (by rfl) C_law_next.g C_law_next.k C_law_next.a .nil pass0 (pa_cons (pv 1) (pa_cons (pe_callB call_len_seq (by rfl) B.len (by decide +kernel) (pa_cons (pv 11) pa_nil)) pa_nil))))
      (pss_one (ps_asg (pe_listRg rfl (by rfl) B.list (prg_1 (by rfl) B.range (pe_callB call_len_seq (by rfl) B.len (by decide +kernel) (pa_cons (pv 4) pa_nil)))) (pg_sub (pv 11) (pv 12) set_list)))) pss_nil)
      (pss_cons (ps_set (i := 13) nd rfl (Or.inr rfl) (pe_lc (own := [("_law_row", 20)]) (te := (tCB (rSortedI K) (tCons (tLc (iList K (tVar 20)) (gName 8) tYes (tOp (rIxL K) (tVar 6) (tVar 8)) [8]) tNil))) (tt := tYes) (by rfl) nd (pi_list (pv 11)) (blkOk_by (own := [("_law_row", 20)]) (N := N_law) (sc := defScope s_law) (by decide +kernel)) (fun _ _ _ _ _ => (pg_name (i := 20) nd rfl (Or.inl rfl))) (fun _ _ _ _ _ => pts_nil) (fun _ _ _ _ _ => (pe_callB cr_sortedI (by rfl) B.sorted (by decide +kernel) (pa_cons (pe_lc (own := [("_law_k", 8)]) (te := (tOp (rIxL K) (tVar 6) (tVar 8))) (tt := tYes) (by rfl) nd (pi_list (pv 20)) (blkOk_by (own := [("_law_k", 8)]) (N := N_law) (sc := relS _ (defScope s_law)) (by decide +kernel)) (fun _ _ _ _ _ => (pg_name (i := 8) nd rfl (Or.inl rfl))) (fun _ _ _ _ _ => pts_nil) (fun _ _ _ _ _ => (pe_ix ix_list (pv 6) (pv 8) (fun _ _ => rfl)))) pa_nil)))))
      (pss_cons (ps_set (i := 14) nd rfl (Or.inr rfl) (pe_lst pa_nil))
      (pss_cons (ps_set (i := 15) nd rfl (Or.inl rfl) (pe_kcall (pa_cons (pe_lamb (T := lamT Pt) (nm := fun _ _ => lamQ) TB hcode (List.mem_singleton_self _) (by rfl) (fun p hp hq => by rw [List.mem_singleton.mp hp]) (ndef_free (nsc := lamScope lam1) (sc := defScope s_law) (fr := ["_law_found", "_law_world_here", "_law_told"]) (by decide +kernel)) (by rfl)) pa_nil) (by rfl) C_law_kind.g C_law_kind.k G_law_kind hr (Nat.le_refl _)))
      (pss_cons (ps_if (PW.pt (pw_or (pt_cmpR (op_neD (by exact hr.units)) (pe_kcall (pa_cons (pe_lamb (T := lamT Pt) (nm := fun _ _ => lamQ) TB hcode (List.mem_singleton_self _) (by rfl) (fun p hp hq => by rw [List.mem_singleton.mp hp]) (ndef_free (nsc := lamScope lam2) (sc := defScope s_law) (fr := ["_law_found", "_law_turned", "_law_theirs"]) (by decide +kernel)) (by rfl)) pa_nil) (by rfl) C_law_kind.g C_law_kind.k G_law_kind hr (Nat.le_refl _)) (pv 15) (nomark _)) (pw_or1 (pt_cmpR (op_neD (by exact hr.units)) (pv 14) (pe_op op_rep (pe_slice sl_list (pv 14) po_none (po_some pe_int)) pe_int) (nomark _))))) (pss_one (ps_ret pe_bl)) pss_nil)
      (pss_cons (ps_if (PW.pt (pw_or (pt_cmpR (op_neD (by exact hr.units)) (pe_call Gfloors (by exact hr.mono (by decide)) (by rfl) Cfloors.g Cfloors.k Cfloors.a .nil pass0 (pa_cons (pv 10) pa_nil)) (pe_call Gfloors (by exact hr.mono (by decide)) (by rfl) Cfloors.g Cfloors.k Cfloors.a .nil pass0 (pa_cons (pv 9) pa_nil)) (nomark _)) (pw_or1 (pt_cmpR op_ne (pe_call Gleast_start (by exact hr.mono (by decide)) (by rfl) Cleast_start.g Cleast_start.k Cleast_start.a .nil pass0 (pa_cons (pv 10) pa_nil)) (pe_call Gleast_start (by exact hr.mono (by decide)) (by rfl) Cleast_start.g Cleast_start.k Cleast_start.a .nil pass0 (pa_cons (pv 9) pa_nil)) (nomark _))))) (pss_one (ps_ret pe_bl)) pss_nil)
      (pss_cons (ps_if (pt_cmpR (op_neD (by exact hr.units)) (pe_lc (own := [("_law_k", 8)]) (te := (tCall (LS (aNeedOf K)) [] E0 (tCons (tVar 10) (tCons (tOp (rIxL K) (tVar 6) (tVar 8)) tNil)))) (tt := tYes) (by rfl) nd (pi_range1 rfl B.range (pa_cons (pe_callB call_len_seq (by rfl) B.len (by decide +kernel) (pa_cons (pv 6) pa_nil)) pa_nil)) (blkOk_by (own := [("_law_k", 8)]) (N := N_law) (sc := defScope s_law) (by decide +kernel)) (fun _ _ _ _ _ => (pg_name (i := 8) nd rfl (Or.inl rfl))) (fun _ _ _ _ _ => pts_nil) (fun _ _ _ _ _ => (pe_call Gneed_of (by exact hr.mono (by decide)) (by rfl) Cneed_of.g Cneed_of.k Cneed_of.a .nil pass0 (pa_cons (pv 10) (pa_cons (pe_ix ix_list (pv 6) (pv 8) (fun _ _ => rfl)) pa_nil))))) (pe_lc (own := [("_law_k", 8)]) (te := (tCall (LS (aNeedOf K)) [] E0 (tCons (tVar 9) (tCons (tVar 8) tNil)))) (tt := tYes) (by rfl) nd (pi_range1 rfl B.range (pa_cons (pe_callB call_len_seq (by rfl) B.len (by decide +kernel) (pa_cons (pv 6) pa_nil)) pa_nil)) (blkOk_by (own := [("_law_k", 8)]) (N := N_law) (sc := defScope s_law) (by decide +kernel)) (fun _ _ _ _ _ => (pg_name (i := 8) nd rfl (Or.inl rfl))) (fun _ _ _ _ _ => pts_nil) (fun _ _ _ _ _ => (pe_call Gneed_of (by exact hr.mono (by decide)) (by rfl) Cneed_of.g Cneed_of.k Cneed_of.a .nil pass0 (pa_cons (pv 9) (pa_cons (pv 8) pa_nil))))) (nomark _)) (pss_one (ps_ret pe_bl)) pss_nil)
      (pss_cons (ps_par (i := 16) (j := 17) rfl nd rfl rfl (by decide) rfl rfl (pa_cons (pe_call Gorder (by exact hr.mono (by decide)) (by rfl) Corder.g Corder.k Corder.a .nil pass0 (pa_cons (pv 9) pa_nil)) (pa_cons (pe_call Gorder (by exact hr.mono (by decide)) (by rfl) Corder.g Corder.k Corder.a .nil pass0 (pa_cons (pv 10) pa_nil)) pa_nil)) (by rfl))
      (pss_one (ps_if (PW.pt (pw_or (pt_cmpR op_ne (pe_cmpR op_isN (pv 16) pe_non (nomark _)) (pe_cmpR op_isN (pv 17) pe_non (nomark _)) (nomark _)) (pw_or1 (PW.pt (pw_and (pt_cmpR op_notN (pv 16) pe_non (nomark _)) (pw_and1 (pt_cmpR (op_gtL (Nat.lt_of_le_of_lt (Nat.le_add_right _ 64) (by exact hr.units))) (pv 16) (pe_lc (own := [("_law_k", 8)]) (te := (tBM K "list" (rIndex K) (tVar 6) (tCons (tVar 8) tNil))) (tt := tYes) (by rfl) nd (pi_list (pv 17)) (blkOk_by (own := [("_law_k", 8)]) (N := N_law) (sc := defScope s_law) (by decide +kernel)) (fun _ _ _ _ _ => (pg_name (i := 8) nd rfl (Or.inl rfl))) (fun _ _ _ _ _ => pts_nil) (fun _ _ _ _ _ => (pe_bm PySem.F.plainAttrs_list PySem.F.slot_list_index PySem.F.type_list_index mt_index (pv 6) (pa_cons (pv 8) pa_nil)))) (nomark _)))))))) (pss_one (ps_ret pe_bl)) pss_nil))))))))))))))))))
      (pss_one (ps_ret pe_bl)))), ?_⟩
    refine LS.body j q ?_
    refine sw_seq (sw_asg (ew_call hd ?_))
    walk_at "ob"
    refine ⟨a, ns0, 113, rfl, hl, by decide, by decide, fun m c hh m0 m1 hc hh0 hne => gw_name ?_⟩
    refine sw_hide hc hh0 hne m0 m1 hn (fun _ F => k F) ?_
    have hdj := hd.hj (h := hh) (c := c)
    have hT0 : TabsN (lamT Pt) F := fun p hp => by rw [List.mem_singleton.mp hp]; exact TabN.nil hPt
    refine sw_seq ?_
    refine sw_mid (fun σ _ G => (∃ (x2 x3 x4 x5 x6 x7 x8 x9 x10 x11 x12 x13 x14 x15 x16 x17 x18 x19 x20 : Option V), σ = [some (.ref a), some (.ref hh), x2, x3, x4, x5, x6, x7, x8, x9, x10, x11, x12, x13, x14, x15, x16, x17, x18, x19, x20]) ∧ TabsN (lamT Pt) G) ?_ ?_
    · refine sw_forR1 ?_
      walk_at "ob"
      refine ⟨5, fun i σ _ G => (∃ (x2 x3 x4 x5 x6 x7 x8 x9 x10 x11 x12 x13 x14 x15 x16 x17 x18 x19 x20 : Option V), σ = [some (.ref a), some (.ref hh), x2, x3, x4, x5, x6, x7, x8, x9, x10, x11, x12, x13, x14, x15, x16, x17, x18, x19, x20]) ∧ TabsN (lamT Pt) G, rfl, by decide, by decide, ⟨⟨_, _, _, _, _, _, _, _, _, _, _, _, _, _, _, _, _, _, _, rfl⟩, hT0⟩, ?_, ?_⟩
      · rintro i σ _ F2 hi ⟨⟨x2, x3, x4, x5, x6, x7, x8, x9, x10, x11, x12, x13, x14, x15, x16, x17, x18, x19, x20, rfl⟩, hT⟩
        refine gw_name ?_
        refine sw_seq (sw_asg ?_)
        walk_at "ob"
        refine ⟨by decide, by decide, ?_⟩
        refine ew_op (ew_lst hdj (aw_cons (ew_c (aw_cons (ew_c (aw_nil ?_))))))
        refine ⟨by walk_at "ob_len", fun p0 hp0 => ?_⟩
        walk_at "ob"
        refine ⟨by decide, by decide, fun rr r0 r1 => ?_⟩
        obtain ⟨cap, hcap, c0, c1⟩ : ∃ cap : Int, atI [V.int 8, V.int 30] rr = some (V.int cap) ∧ 1 ≤ cap ∧ cap ≤ 99 := by
          have : rr = 0 ∨ rr = 1 := by omega
          rcases this with rfl | rfl
          · exact ⟨8, rfl, by decide, by decide⟩
          · exact ⟨30, rfl, by decide, by decide⟩
        have gp0 := Ex.new (.refl F2) hp0 (u := .lst [V.int 8, V.int 30])
        refine rw_ixL hdj (SqL.of upd_same) hcap ?_
        refine ⟨cap, rfl, c0, c1, fun wv F3 wd g1 dw hw hwc hwn hws => ?_⟩
        have hm5 := hw.m
        obtain ⟨wa, wxs, rfl, lx, dxs⟩ := dp_tup dw
        obtain ⟨stv, mv, rfl, dst, dm⟩ := dps2 dxs
        refine gw_tup hdj ⟨wa, _, rfl, lx, rfl, gsw_cons (gw_name (gsw_cons (gw_name (gsw_nil ?_))))⟩
        obtain ⟨ma, zs, rfl, lz, dzs⟩ := dp_tup dm
        have hzl : zs.length = wd.ms.length := by have := dps_len dzs; simpa using this
        refine sw_seq (sw_asg (ew_tup hdj (aw_cons (ew_listRg hdj (ew_cb (aw_cons (ew_var rfl (aw_nil (cw_lenS hdj (Or.inr lz) ?_)))))))))
        refine ⟨zs.length, rfl, by omega, fun pl hpl => aw_cons (ew_lst hdj (aw_nil ⟨by walk_at "ob_len", fun pn hpn => aw_nil ⟨by walk_at "ob_len", fun pz hpz => ?_⟩⟩))⟩
        have hO0 := (((own_nil (F := F3)).more (o := .lst ((List.range zs.length).map fun k => V.int (k : Nat))) hpl).more (o := .lst []) hpn).new' (o := .tup [.ref pl, .ref pn]) hpz
        refine gw_tup hdj ⟨pz, _, rfl, SqT.of upd_same, rfl, gsw_cons (gw_name (gsw_cons (gw_name (gsw_nil ?_))))⟩
        have hT3 : TabsN (lamT Pt) F3 := hT.ext fun b o e => (gp0.trans g1) b o e
        generalize (upd _ pz (.tup [.ref pl, .ref pn])) = H3 at hO0 ⊢
        refine sw_seq ?_
        refine sw_mid (fun σ _ G => ∃ ns : List Nat, σ = [some (.ref a), some (.ref hh), some (.int i), some stv, some (.ref ma), some (.ref pl), some (.ref pn), x7, x8, x9, x10, x11, x12, x13, x14, x15, x16, x17, x18, x19, x20] ∧ ns.Perm (List.range wd.ms.length) ∧ Own F3 G [(pn, .lst (ns.map fun k => V.int (k : Nat))), (pl, .lst [])]) ?_ ?_
        · refine sw_while (fun q σ _ G => ∃ ls ns : List Nat, q = ls.length ∧ (ns ++ ls).Perm (List.range wd.ms.length) ∧ σ = [some (.ref a), some (.ref hh), some (.int i), some stv, some (.ref ma), some (.ref pl), some (.ref pn), x7, x8, x9, x10, x11, x12, x13, x14, x15, x16, x17, x18, x19, x20] ∧ Own F3 G [(pn, .lst (ns.map fun k => V.int (k : Nat))), (pl, .lst (ls.map fun k => V.int (k : Nat)))]) zs.length ⟨List.range zs.length, [], by rw [List.length_range], by rw [hzl]; exact .refl _, rfl, hO0⟩ ?_
          rintro q σ _ G ⟨ls, ns, rfl, hpm, rfl, hO⟩
          have hlen : ns.length + ls.length = wd.ms.length := by have := hpm.length_eq; rwa [List.length_append, List.length_range] at this
          refine tw_test (ew_op (ew_var rfl (ew_lst hdj (aw_nil ⟨by walk_at "ob_len", fun pe hpe => ?_⟩))))
          have hO1 := hO.new' (o := .lst []) hpe
          refine rw_neD hdj (d := .list ((ls.map fun k => ((k : Nat) : Int)).map PyData.int)) (e := .list []) (.lst (SqL.of (hO1.get (i := 1) rfl)) (by rw [nats_ints]; exact dps_ints)) (.lst (SqL.of upd_same) .nil) (shaped_low (n := 1) low_ints) (shaped_low (n := 1) rfl) ?_
          rw [eqv_nil2]
          refine ⟨_, rfl, fun hb => ?_, fun hb => ?_⟩
          · have hne : ls ≠ [] := fun z => by rw [z] at hb; cases hb
            have hpos : 0 < ls.length := List.length_pos_iff.mpr hne
            refine sw_drop (ew_bmL hdj (ew_var rfl ⟨pn, _, rfl, SqL.of (hO1.get (i := 0) rfl), aw_cons (ew_bmL hdj (ew_var rfl ⟨pl, _, rfl, SqL.of (hO1.get (i := 1) rfl), aw_cons ?_⟩))⟩))
            walk_at "ob1"
            refine ew_cb (aw_cons (ew_var rfl (aw_nil (cw_lenS hdj (Or.inl (SqL.of (hO1.get (i := 1) rfl))) ?_))))
            refine ⟨_, rfl, by rw [List.length_map]; omega, by rw [List.length_map]; omega, fun rk rk0 rk1 => aw_nil ?_⟩
            rw [List.length_map] at rk1
            obtain ⟨kk, rfl⟩ : ∃ kk : Nat, rk = kk := ⟨rk.toNat, by omega⟩
            have hkk : kk < ls.length := by omega
            refine mw_popAt hdj (hO1.get (i := 1) rfl) (show (ls.map fun k => V.int (k : Nat))[kk]? = some (V.int (ls[kk] : Nat)) by rw [List.getElem?_map, List.getElem?_eq_getElem hkk]; rfl) (by rw [List.length_map]; omega) ?_
            have hO2 := hO1.set (i := 1) (a := pl) (o' := .lst ((ls.map fun k => V.int (k : Nat)).eraseIdx kk)) rfl
            refine aw_nil (mw_append hdj (hO2.get (i := 0) rfl) (by rw [List.length_map]; omega) ?_)
            have hO3 := hO2.set (i := 0) (a := pn) (o' := .lst ((ns.map fun k => V.int (k : Nat)) ++ [V.int (ls[kk] : Nat)])) rfl
            refine ⟨(ls.eraseIdx kk).length, ?_, ls.eraseIdx kk, ns ++ [ls[kk]], rfl, ?_, rfl, ?_⟩
            · rw [List.length_eraseIdx_of_lt hkk]; omega
            · rw [List.append_assoc]
              exact (List.Perm.append_left ns (erase_perm hkk)).trans hpm
            · rw [List.map_append, show (ls.eraseIdx kk).map (fun k => V.int (k : Nat)) = (ls.map fun k => V.int (k : Nat)).eraseIdx kk from erase_map]
              exact hO3
          · have he : ls = [] := by
              cases ls with
              | nil => rfl
              | cons a l => cases hb
            subst he
            rw [List.append_nil] at hpm
            exact ⟨ns, rfl, hpm, hO1⟩
        rintro σ _ G ⟨ns, rfl, hpm, hOw⟩
        have hnl : ns.length = wd.ms.length := by have := hpm.length_eq; rwa [List.length_range] at this
        have hlt : ∀ n ∈ ns, n < wd.ms.length := fun n hn => List.mem_range.mp (hpm.mem_iff.mp hn)
        have hnd := hpm.nodup_iff.mpr List.nodup_range
        have gG : Ex F3 G := hOw.ex
        have opn : SqL K G pn (ns.map fun k => V.int (k : Nat)) := SqL.of (hOw.get (i := 0) rfl)
        clear hOw hO0
        refine sw_seq (sw_asg (ew_op (ew_lst hdj (aw_cons (ew_tup hdj (aw_nil ⟨by walk_at "ob_len", fun pe hpe => aw_nil ⟨by walk_at "ob_len", fun p1 hp1 => ?_⟩⟩))))))
        have e1 := Ex.new (.refl G) hpe (u := .tup [])
        have e2 := Ex.new (.refl _) hp1 (F := upd G pe (.tup [])) (u := .lst [.ref pe])
        have gA := gG.trans (e1.trans e2)
        refine ew_cb (aw_cons (ew_var rfl (aw_nil (cw_lenS hdj (Or.inr (gA.sqT lz)) ?_))))
        refine rw_rep hdj upd_same ⟨by omega, by omega⟩ (by rw [Int.toNat_natCast]; simp; omega) (fun po hpo => gw_name ?_)
        rw [Int.toNat_natCast]
        have opn2 := (e1.trans e2).sqL opn
        have hO0 := (own_nil (F := upd (upd G pe (.tup [])) p1 (.lst [.ref pe]))).more (o := .lst (List.replicate zs.length [V.ref pe]).flatten) hpo
        have hrep : (List.replicate zs.length [V.ref pe]).flatten.length = wd.ms.length := by simp [hzl]
        generalize (List.replicate zs.length [V.ref pe]).flatten = os0 at hO0 hrep ⊢
        generalize (upd (upd G pe (.tup [])) p1 (.lst [.ref pe])) = Fo at hO0 gA opn2 ⊢
        refine sw_seq ?_
        refine sw_mid (fun σ _ G => ∃ (x8 : Option V) (os : List V), σ = [some (.ref a), some (.ref hh), some (.int i), some stv, some (.ref ma), some (.ref pl), some (.ref pn), some (.ref po), x8, x9, x10, x11, x12, x13, x14, x15, x16, x17, x18, x19, x20] ∧ os.length = wd.ms.length ∧ (∀ (i n : Nat), ns[i]? = some n → os[n]? = zs[i]?) ∧ Own Fo G [(po, .lst os)]) ?_ ?_
        · refine sw_forR1 (aw_cons (ew_cb (aw_cons (ew_var rfl (aw_nil (cw_lenS hdj (Or.inr ((gA.trans hO0.ex).sqT lz)) (aw_nil ?_)))))))
          refine ⟨(zs.length : Int), fun j σ _ G => ∃ (x8 : Option V) (os : List V), σ = [some (.ref a), some (.ref hh), some (.int i), some stv, some (.ref ma), some (.ref pl), some (.ref pn), some (.ref po), x8, x9, x10, x11, x12, x13, x14, x15, x16, x17, x18, x19, x20] ∧ os.length = wd.ms.length ∧ (∀ (i n : Nat), i < j → ns[i]? = some n → os[n]? = zs[i]?) ∧ Own Fo G [(po, .lst os)], rfl, by omega, by omega, ⟨_, os0, rfl, hrep, fun i n h => by omega, hO0⟩, ?_, ?_⟩
          · rintro j σ _ G hj ⟨_, os, rfl, hol, hoi, hO⟩
            have hjl : j < wd.ms.length := by omega
            have hz : zs[j]? = some zs[j] := List.getElem?_eq_getElem (by omega)
            have hn1 : ns[j]? = some ns[j] := List.getElem?_eq_getElem (by omega)
            have hnlt := hlt _ (List.mem_of_getElem? hn1)
            refine gw_name (sw_asg (ew_op (ew_var rfl (ew_var rfl (rw_ixT hdj ((gA.trans hO.ex).sqT lz) (atI_nat hz) (gw_subL hdj (ew_var rfl (ew_op (ew_var rfl (ew_var rfl ?_)))))))))) 
            refine rw_ixL hdj (hO.ex.sqL opn2) (v := .int (ns[j] : Nat)) (atI_nat (show (ns.map fun k => V.int (k : Nat))[j]? = some (V.int (ns[j] : Nat)) by rw [List.getElem?_map, hn1]; rfl)) ?_
            refine ⟨po, os, ((ns[j] : Nat) : Int), ns[j], rfl, rfl, hO.get (i := 0) rfl, ixN_of (i := ((ns[j] : Nat) : Int)) (by omega) (by omega), ?_⟩
            refine ⟨_, os.set ns[j] zs[j], rfl, by rw [List.length_set]; exact hol, fun i n hi he => ?_, hO.set (i := 0) (a := po) (o' := .lst (os.set ns[j] zs[j])) rfl⟩
            rw [List.getElem?_set]
            by_cases c : ns[j] = n
            · have hij : i = j := (List.getElem?_inj (show i < ns.length from (List.getElem?_eq_some_iff.mp he).1) hnd).mp (he.trans (by rw [hn1, c]))
              subst hij
              rw [if_pos c, if_pos (by omega), hz]
            · rw [if_neg c]
              have : i ≠ j := fun z => c (by subst z; rw [hn1] at he; injection he)
              exact hoi i n (by omega) he
          · rintro σ _ G ⟨_, os, rfl, hol, hoi, hO⟩
            rw [Int.toNat_natCast, hzl] at hoi
            exact ⟨_, os, rfl, hol, fun i n he => hoi i n (by rw [← hnl]; exact (List.getElem?_eq_some_iff.mp he).1) he, hO⟩
        rintro σ _ G1 ⟨x8, os, rfl, hol, hoi, hO⟩
        obtain ⟨l', hl'1, hl'2⟩ := ren_lists hpm
        obtain ⟨hren, hw'⟩ := ren_world hw hpm hl'1 hl'2
        have gA1 := gA.trans hO.ex
        have opo : SqL K G1 po os := SqL.of (hO.get (i := 0) rfl)
        have opn3 := hO.ex.sqL opn2
        have dos : DpAll K G1 os (l'.map macD) := by
          refine dps_ext (by rw [List.length_map, hol, hl'1]) fun n v d h1 h2 => ?_
          have hn : n < wd.ms.length := by rw [← hol]; exact (List.getElem?_eq_some_iff.mp h1).1
          obtain ⟨k, hk⟩ := List.mem_iff_getElem?.mp (hpm.mem_iff.mpr (List.mem_range.mpr hn))
          rw [hoi k n hk] at h1
          rw [List.getElem?_map, hl'2 k n hk, ← List.getElem?_map] at h2
          obtain ⟨d', e3, e4⟩ := dps_get' (dps_ex gA1 dzs) h1
          rw [h2] at e3
          cases e3
          exact e4
        clear hO hO0
        have dst1 := dp_ex gA1 dst
        refine sw_seq (sw_asg (ew_tup hdj (aw_cons (ew_tup hdj (aw_cons (ew_var rfl (aw_cons (ew_var rfl (aw_nil ⟨by walk_at "ob_len", fun ph hph => ?_⟩)))))))))
        refine aw_cons (ew_tup hdj (aw_cons (ew_var rfl (aw_cons (ew_cb (aw_cons (ew_var rfl ?_)))))))
        have h1 := Ex.new (.refl G1) hph (u := .tup [stv, .ref ma])
        refine aw_nil (cw_tuple hdj (h1.sqL opo) fun pc hpc => aw_nil ⟨by walk_at "ob_len", fun pu hpu => aw_nil ⟨by walk_at "ob_len", fun pz2 hpz2 => ?_⟩⟩)
        have h2 := Ex.new (.refl _) hpc (F := upd G1 ph (.tup [stv, .ref ma])) (u := .tup os)
        have h3 := Ex.new (.refl _) hpu (u := .tup [stv, .ref pc])
        have h4 := Ex.new (.refl _) hpz2 (u := .tup [.ref ph, .ref pu])
        refine gw_tup hdj ⟨pz2, _, rfl, SqT.of upd_same, rfl, gsw_cons (gw_name (gsw_cons (gw_name (gsw_nil ?_))))⟩
        have h24 := h2.trans (h3.trans h4)
        have h14 := h1.trans h24
        have dW : Dp K _ (.ref ph) (wldD wd) := .tup (h24.sqT (SqT.of upd_same)) (.cons (dp_ex h14 dst1) (.cons (dp_ex (gA1.trans h14) dm) .nil))
        have dW' : Dp K _ (.ref pu) (wldD ⟨wd.cap, wd.start, wd.refill, l'⟩) := .tup (h4.sqT (SqT.of upd_same)) (.cons (dp_ex h14 dst1) (.cons (.tup ((h3.trans h4).sqT (SqT.of upd_same)) (dps_ex h14 dos)) .nil))
        have opn4 := h14.sqL opn3
        have gA4 := gA1.trans h14
        have hT4 : TabsN (lamT Pt) _ := hT3.ext fun b o e => (gA1.trans h14) b o e
        generalize (upd (upd (upd (upd G1 ph (.tup [stv, .ref ma])) pc (.tup os)) pu (.tup [stv, .ref pc])) pz2 (.tup [.ref ph, .ref pu])) = F4 at dW dW' opn4 hT4 gA4 ⊢
        clear h1 h2 h3 h4 h24 h14 dos dst1 opo
        refine sw_seq ?_
        refine sw_mid (fun σ _ G => ∃ (Fb : Hp) (pt : Addr) (tl : List (List Int)) (acc : List V), σ = [some (.ref a), some (.ref hh), some (.int i), some stv, some (.ref ma), some (.ref pl), some (.ref pn), some (.ref po), x8, some (.ref ph), some (.ref pu), some (.ref pt), x12, x13, x14, x15, x16, x17, x18, x19, x20] ∧ Ex F4 Fb ∧ Own Fb G [(pt, .lst acc)] ∧ DpAll K Fb acc (tl.map lstZ) ∧ tl.length = 30 ∧ ∀ xs ∈ tl, RowOk wd xs) ?_ ?_
        · refine sw_asg (ew_lcL hdj (ew_call hdj (aw_cons (ew_var rfl (aw_cons ?_)))))
          walk_at "ob1"
          refine fun rv F6 r p g2 dr => aw_cons (ew_c (aw_nil ?_))
          refine ⟨.ref ph, rv, wd, r, p, 30, rfl, dp_ex g2 dW, dr, hw, by decide, fun q2 F7 vs7 tk rows hL g7 hq2 hD2 => ?_⟩
          have hlen7 : vs7.length = (rowsZ rows).length := by have := dps_len hD2; rw [List.length_map] at this; rw [this, rowsZ_len]
          have hlenR : (rowsZ rows).length = 30 := by rw [rowsZ_len, hL.len]
          refine ⟨q2, vs7, rfl, SqL.of hq2, by omega, fun Dl hDl => ?_⟩
          refine ⟨fun j acc _ G => Ex F7 G ∧ DpAll K G acc (((rowsZ rows).take j).map lstZ), ⟨.refl _, .nil⟩, ?_, ?_, ?_⟩
          · rintro j acc _ G hj hg ⟨g, hA⟩
            exact ⟨SqL.of (g _ _ hq2), by have := dps_len hA; rw [this, List.length_map]; exact List.length_take_le _ _⟩
          · rintro j acc x _ G hj hg ⟨g, hA⟩
            have hd' := hdj.jd (D := Dl) (acc := acc)
            obtain ⟨d, hd1, hd2⟩ := dps_get' hD2 hj
            rw [List.getElem?_map] at hd1
            obtain ⟨⟨lv, bg⟩, hrow, rfl⟩ := Option.map_eq_some_iff.mp hd1
            obtain ⟨ra, rxs, rfl, lr, drs⟩ := dp_tup (dp_ex g hd2)
            obtain ⟨u1, u2, rfl, e1, e2⟩ := dps2 drs
            cases dp_int e1
            obtain ⟨ba, bvs, rfl, lb, dbs⟩ := dp_lst e2
            obtain rfl := dps_ints_iff dbs
            refine gw_tup hd' ⟨ra, _, rfl, lr, rfl, gsw_cons (gw_name (gsw_cons (gw_name (gsw_nil ⟨rfl, tw_yes ⟨fun _ => ?_, (fun z => by cases z)⟩⟩))))⟩
            refine ew_cb (aw_cons (ew_var rfl (aw_nil (cw_sortedI hd' lb fun ns' ps hperm hsrt hps => ?_))))
            obtain rfl := sortZ_is hperm hsrt
            have gg := Ex.new (.refl G) hps (u := .lst ((sortZ bg).map V.int))
            refine ⟨g.trans gg, ?_⟩
            have hz : (rowsZ rows)[j]? = some (sortZ bg) := by unfold rowsZ; rw [List.getElem?_map, hrow]; rfl
            rw [List.take_succ, hz, List.map_append]
            exact dps_snoc (dps_ex gg hA) (.lst (SqL.of upd_same) dps_ints)
          · rintro acc _ G hg ⟨g, hA⟩
            rw [hlen7, List.take_length] at hA
            obtain ⟨u, hu, _⟩ := late_rows hw 0 hL
            have hro := path_rows hu
            exact gw_name ⟨G, Dl, rowsZ rows, acc, rfl, g2.trans (g7.trans g), (own_nil (F := G)).more hg, hA, hlenR, fun xs hx => hro xs (List.mem_append_right _ hx)⟩
        rintro σ _ G ⟨Fb, pt, tl, acc, rfl, gb, hO, dT, htl, hro⟩
        have hacl : acc.length = 30 := by have := dps_len dT; rw [List.length_map] at this; omega
        refine sw_seq ?_
        refine sw_mid (fun σ _ G => ∃ (x12 : Option V) (Fb : Hp) (tl : List (List Int)) (acc : List V), σ = [some (.ref a), some (.ref hh), some (.int i), some stv, some (.ref ma), some (.ref pl), some (.ref pn), some (.ref po), x8, some (.ref ph), some (.ref pu), some (.ref pt), x12, x13, x14, x15, x16, x17, x18, x19, x20] ∧ Ex F4 Fb ∧ Own Fb G [(pt, .lst acc)] ∧ DpAll K Fb acc (tl.map lstZ) ∧ tl.length = 30 ∧ ∀ xs ∈ tl, RowOk wd xs) ?_ ?_
        · refine sw_if (tw_and (tw_test (ew_op (ew_var rfl (ew_lst hdj (aw_nil ⟨by walk_at "ob_len", fun pe hpe => ?_⟩))))))
          have hO1 := hO.new' (o := .lst []) hpe
          refine rw_neD hdj (d := .list (tl.map lstZ)) (e := .list []) (.lst (SqL.of (hO1.get (i := 0) rfl)) (dps_ex hO1.ex dT)) (.lst (SqL.of upd_same) .nil) (shaped_low (n := 2) lstZ_low) (shaped_low (n := 1) rfl) ?_
          refine ⟨_, rfl, fun _ => ?_, fun _ => ⟨(fun z => by cases z), fun _ => sw_next ⟨_, Fb, tl, acc, rfl, gb, hO1, dT, htl, hro⟩⟩⟩
          refine tw_test (ew_op ?_)
          walk_at "ob"
          refine ⟨by decide, by decide, fun rz rz0 rz1 => ?_⟩
          walk_at "ob"
          refine ⟨fun _ => ?_, fun _ => sw_next ⟨_, Fb, tl, acc, rfl, gb, hO1, dT, htl, hro⟩⟩
          refine sw_seq (sw_asg ?_)
          walk_at "ob1"
          refine ew_cb (aw_cons (ew_var rfl (aw_nil (cw_lenS hdj (Or.inl (SqL.of (hO1.get (i := 0) rfl))) ?_))))
          refine ⟨_, rfl, by omega, by omega, fun rk rk0 rk1 => gw_name ?_⟩
          obtain ⟨kk, rfl⟩ : ∃ kk : Nat, rk = kk := ⟨rk.toNat, by omega⟩
          refine sw_asg (ew_listRg hdj (ew_cb (aw_cons (ew_var rfl (aw_nil (cw_lenS hdj (Or.inr ((gA4.trans (gb.trans hO1.ex)).sqT lz)) ?_))))))
          refine ⟨zs.length, rfl, by omega, fun q hq => gw_subL hdj (ew_var rfl (ew_var rfl ?_))⟩
          have hO2 := (hO1.more (o := .lst ((List.range zs.length).map fun k => V.int (k : Nat))) hq).freeze rfl
          have gq := Ex.new (.refl Fb) (Ex.free hO1.ex hq) (u := .lst ((List.range zs.length).map fun k => V.int (k : Nat)))
          refine ⟨pt, acc, ((kk : Nat) : Int), kk, rfl, rfl, hO2.get (i := 0) rfl, ixN_of (i := ((kk : Nat) : Int)) (by omega) (by omega), ?_⟩
          have hO3 := hO2.set (i := 0) (a := pt) (o' := .lst (acc.set kk (V.ref q))) rfl
          refine ⟨_, _, tl.set kk ((List.range wd.ms.length).map fun k => ((k : Nat) : Int)), acc.set kk (V.ref q), rfl, gb.trans gq, hO3, ?_, by rw [List.length_set]; exact htl, fun xs hx => ?_⟩
          · rw [List.map_set]
            refine dps_set9 (dps_ex gq dT) (.lst (SqL.of upd_same) ?_)
            rw [hzl, nats_ints]
            exact dps_ints
          · rcases List.mem_or_eq_of_mem_set hx with z | rfl
            · exact hro xs z
            · exact row_all
        clear dT hro htl hacl
        rintro σ _ G ⟨x12, Fb, tl, acc, rfl, gb, hO, dT, htl, hro⟩
        have hacl : acc.length = tl.length := by have := dps_len dT; rw [List.length_map] at this; exact this
        have opt : SqL K G pt acc := SqL.of (hO.get (i := 0) rfl)
        have dTG := dps_ex hO.ex dT
        have gbG := gb.trans hO.ex
        refine sw_seq ?_
        refine sw_mid (fun σ _ G' => ∃ (pq : Addr) (ac : List V), σ = [some (.ref a), some (.ref hh), some (.int i), some stv, some (.ref ma), some (.ref pl), some (.ref pn), some (.ref po), x8, some (.ref ph), some (.ref pu), some (.ref pt), x12, some (.ref pq), x14, x15, x16, x17, x18, x19, x20] ∧ Ex G G' ∧ SqL K G' pq ac ∧ DpAll K G' ac ((tl.map (renRow ns)).map lstZ)) ?_ ?_
        · refine sw_asg (ew_lcL hdj (ew_var rfl ⟨pt, acc, rfl, opt, by omega, fun Dl hDl => ⟨fun j ac _ G' => Ex G G' ∧ DpAll K G' ac (((tl.take j).map (renRow ns)).map lstZ), ⟨.refl _, .nil⟩, ?_, ?_, ?_⟩⟩))
          · rintro j ac _ G' hj hg ⟨g, hA⟩
            exact ⟨g.sqL opt, by have := dps_len hA; rw [this, List.length_map, List.length_map]; exact List.length_take_le _ _⟩
          · rintro j ac x _ G' hj hg ⟨g, hA⟩
            have hd' := hdj.jd (D := Dl) (acc := ac)
            obtain ⟨d, hd1, hd2⟩ := dps_get' (dps_ex g dTG) hj
            rw [List.getElem?_map] at hd1
            obtain ⟨xs, hxs, rfl⟩ := Option.map_eq_some_iff.mp hd1
            obtain ⟨ra, us, rfl, lr, dus⟩ := dp_lst hd2
            obtain rfl := dps_ints_iff dus
            have hrx := hro xs (List.mem_of_getElem? hxs)
            have hxl := row_few hw hrx
            refine gw_name ⟨rfl, tw_yes ⟨fun _ => ew_cb (aw_cons ?_), (fun z => by cases z)⟩⟩
            refine ew_lcLf hd' (e := V.int) (l := xs) (f := fun x => V.int (fI ns x)) (ew_var rfl ⟨rfl, rfl, rfl⟩) lr (by omega) ?_ ?_
            · intro i' x Dz ac2 G2' hi' g' hDz
              have hd2 := hd'.jd (D := Dz) (acc := ac2)
              have hx := hrx.inR x (List.mem_of_getElem? hi')
              obtain ⟨kx, rfl⟩ : ∃ kx : Nat, x = kx := ⟨x.toNat, by omega⟩
              have hnx := hren.get (k := kx) (by omega)
              refine gw_name ⟨rfl, tw_yes ⟨fun _ => ew_op (ew_var rfl (ew_var rfl (rw_ixL hd2 ((gbG.trans (g.trans g')).sqL opn4) (v := .int (fI ns (kx : Nat))) (atI_nat ?_) ⟨rfl, .refl _, rfl⟩))), (fun z => by cases z)⟩⟩
              rw [List.getElem?_map, hnx]
              unfold fI
              rw [Int.toNat_natCast]
              rfl
            · intro Dz G2' g' eD
              refine aw_nil (cw_sortedI hd' (ns := xs.map (fI ns)) (by rw [List.map_map]; exact SqL.of eD) fun ns' ps hperm hsrt hps => ?_)
              obtain rfl := sortZ_is hperm hsrt
              have gg := g'.trans (Ex.new (.refl G2') hps (u := .lst ((sortZ (xs.map (fI ns))).map V.int)))
              refine ⟨g.trans gg, ?_⟩
              rw [List.take_succ, hxs, List.map_append, List.map_append]
              exact dps_snoc (dps_ex gg hA) (.lst (SqL.of upd_same) dps_ints)
          · rintro ac _ G' hg ⟨g, hA⟩
            rw [hacl, List.take_length] at hA
            have gD := Ex.new (.refl G') hg (u := .lst ac)
            exact gw_name ⟨Dl, ac, rfl, g.trans gD, SqL.of upd_same, dps_ex gD hA⟩
        rintro σ _ G5 ⟨pq, acq, rfl, g5, opq, dQ⟩
        have gall : Ex F4 G5 := gbG.trans g5
        have hB : Bs K G5 ph pu pt pq pn wd ⟨wd.cap, wd.start, wd.refill, l'⟩ tl ns := ⟨dp_ex gall dW, dp_ex gall dW', plan_lst (g5.sqL opt) (dps_ex g5 dTG), plan_lst opq dQ, gall.sqL opn4⟩
        have hT5 : TabsN (lamT Pt) G5 := hT4.ext fun b o e => gall b o e
        have hsh : ∀ xs ∈ tl, xs.length ≤ 1000 := fun xs hx => by have := row_few hw (hro xs hx); omega
        have hsh' : ∀ xs ∈ tl.map (renRow ns), xs.length ≤ 1000 := fun xs hx => by
          obtain ⟨ys, hy, rfl⟩ := List.mem_map.mp hx
          have := row_few hw' ((hro ys hy).ren hren)
          omega
        have hnm : ∀ q ∈ lamT Pt, q.1 = Pt → q.2 = fun _ _ => lamQ := fun q hq _ => by rw [List.mem_singleton.mp hq]
        have hB1 : ndefB (defScope s_law) (lamScope lam1) ["_law_found", "_law_world_here", "_law_told"] = true := by decide +kernel
        have hB2 : ndefB (defScope s_law) (lamScope lam2) ["_law_found", "_law_turned", "_law_theirs"] = true := by decide +kernel
        refine sw_seq (sw_asg (ew_lst hdj (aw_nil ⟨by walk_at "ob_len", fun pf hpf => gw_name ?_⟩)))
        have hO5 := (own_nil (F := G5)).more (o := .lst []) hpf
        generalize upd G5 pf (.lst []) = H5 at hO5 ⊢
        refine sw_seq ?_
        refine sw_mid (fun σ _ G => ∃ (kh : Addr) (fl : List V) (d : PyData) (Fb : Hp), σ = [some (.ref a), some (.ref hh), some (.int i), some stv, some (.ref ma), some (.ref pl), some (.ref pn), some (.ref po), x8, some (.ref ph), some (.ref pu), some (.ref pt), x12, some (.ref pq), some (.ref pf), some (.ref kh), x16, x17, x18, x19, x20] ∧ Bs K Fb ph pu pt pq pn wd ⟨wd.cap, wd.start, wd.refill, l'⟩ tl ns ∧ TabsN (lamT Pt) Fb ∧ Own Fb G [(pf, .lst fl)] ∧ Dp K Fb (.ref kh) d ∧ Kd wd tl 1 fl d) ?_ ?_
        · have hTH : TabsN (lamT Pt) H5 := hT5.ext fun b o e => hO5.ex b o e
          obtain ⟨tb0, hPt0, _, _⟩ := (show TabN H5 Pt (fun _ _ => lamQ) from hTH _ (List.mem_singleton_self _))
          refine sw_asg (ew_kboth hdj (ew_lamb hdj hTH hPt0 fun fa ca F11 st1 => ?_))
          obtain ⟨eN1, hT11, nf1, lf1, lc1⟩ := st1.facts (T := lamT Pt) (nm := fun _ _ => lamQ) (List.mem_singleton_self _) rfl hnm hTH
          have oF11 : F11 pf = some (.lst []) := eN1 _ _ (hO5.get (i := 0) rfl) (fun ps z => by cases z)
          have hB11 := (hB.ex hO5.ex).extN eN1
          refine ⟨fa, _, [], ["_law_found", "_law_world_here", "_law_told"], [14, 9, 11], .ref ph, wd, pt, pf, tl, [], rfl, ⟨lf1, lc1, fun t e => by cases e⟩, fun ok => Caps.made (scope := lamScope lam1) ok (ndef_free hB1) (ndef_fr hB1) rfl, lamok1 B Cjudged Gjudged GjudgedX, rfl, ⟨hB11.w1, hw, hB11.t1, by omega, hsh, oF11, by decide⟩, ?_⟩
          rcases Kd.ren hw hw' hren hro with ⟨t, t', hp, hp', ej⟩ | ⟨bb, hb, hb'⟩
          · refine .inl ⟨t, hp, fun F' p g' hp0 => gw_name ?_⟩
            obtain ⟨Fb', x1, x2, x3, x4⟩ := after_own hO5 eN1 g' (hT11.ext fun b o e => g' b o e)
            have x5 := x2.set (i := 0) (a := pf) (o' := .lst ([] ++ [judgedV wd t])) rfl
            have gp := Ex.new (.refl Fb') (Ex.free x5.ex hp0) (u := .tup [.str "", .int 0])
            exact ⟨p, [judgedV wd t], .tuple [.str "", .int 0], _, rfl, (hB.extN x1).ex gp, x3.ext fun b o e => gp b o e, x5.new hp0, .tup (SqT.of upd_same) (.cons (.str _) (.cons (.int _) .nil)), .inl ⟨t, hp, rfl, rfl⟩⟩
          · refine .inr ⟨bb, hb, fun F' p g' hp0 => gw_name ?_⟩
            obtain ⟨Fb', x1, x2, x3, x4⟩ := after_own hO5 eN1 g' (hT11.ext fun b o e => g' b o e)
            have hne2 : p ≠ pf := fun z => by rw [z, g' _ _ oF11] at hp0; cases hp0
            exact ⟨p, [], .tuple [.str "plan", .int (bb : Int)], Fb', rfl, hB.extN x1, x3, x2, .tup (SqT.of ((x4 p hne2).trans hp0)) (.cons (.str _) (.cons (.int _) .nil)), .inr ⟨bb, hb, rfl, rfl⟩⟩
        rintro σ _ G6 ⟨kh, fl, d, Fk, rfl, hB6, hT6, hO6, dk, hkd⟩
        have hlowd := hkd.low
        refine sw_seq ?_
        refine sw_mid (fun σ _ G => σ = [some (.ref a), some (.ref hh), some (.int i), some stv, some (.ref ma), some (.ref pl), some (.ref pn), some (.ref po), x8, some (.ref ph), some (.ref pu), some (.ref pt), x12, some (.ref pq), some (.ref pf), some (.ref kh), x16, x17, x18, x19, x20] ∧ Bs K G ph pu pt pq pn wd ⟨wd.cap, wd.start, wd.refill, l'⟩ tl ns ∧ TabsN (lamT Pt) G) ?_ ?_
        · have hTH : TabsN (lamT Pt) G6 := hT6.ext fun b o e => hO6.ex b o e
          obtain ⟨tb0, hPt0, _, _⟩ := (show TabN G6 Pt (fun _ _ => lamQ) from hTH _ (List.mem_singleton_self _))
          refine sw_if (tw_or (tw_test (ew_op (ew_kboth hdj (ew_lamb hdj hTH hPt0 fun fa ca F11 st1 => ?_)))))
          obtain ⟨eN1, hT11, nf1, lf1, lc1⟩ := st1.facts (T := lamT Pt) (nm := fun _ _ => lamQ) (List.mem_singleton_self _) rfl hnm hTH
          have oF11 : F11 pf = some (.lst fl) := eN1 _ _ (hO6.get (i := 0) rfl) (fun ps z => by cases z)
          have hB11 := (hB6.ex hO6.ex).extN eN1
          have hfl : fl.length ≤ 100 := by
            rcases hkd with ⟨t, _, rfl, _⟩ | ⟨bb, _, rfl, _⟩
            · rw [List.length_replicate]; decide
            · decide
          refine ⟨fa, _, [], ["_law_found", "_law_turned", "_law_theirs"], [14, 10, 13], .ref pu, ⟨wd.cap, wd.start, wd.refill, l'⟩, pq, pf, tl.map (renRow ns), fl, rfl, ⟨lf1, lc1, fun t e => by cases e⟩, fun ok => Caps.made (scope := lamScope lam2) ok (ndef_free hB2) (ndef_fr hB2) rfl, lamok2 B Cjudged Gjudged GjudgedX, rfl, ⟨hB11.w2, hw', hB11.t2, by rw [List.length_map]; omega, hsh', oF11, hfl⟩, ?_⟩
          rcases hkd with ⟨t, hp, rfl, rfl⟩ | ⟨bb, hb, rfl, rfl⟩
          · obtain ⟨t', hp', rt⟩ := ren_path hw hw' hren hp
            have ej := ren_judged hren rt
            refine .inl ⟨t', by rw [List.length_map]; exact hp', fun F' p g' hp0 => ?_⟩
            obtain ⟨Fb', x1, x2, x3, x4⟩ := after_own hO6 eN1 g' (hT11.ext fun b o e => g' b o e)
            rw [ej] at hp0 ⊢
            have x5 := x2.set (i := 0) (a := pf) (o' := .lst (List.replicate 1 (judgedV wd t) ++ [judgedV wd t])) rfl
            have gp := Ex.new (.refl Fb') (Ex.free x5.ex hp0) (u := .tup [.str "", .int 0])
            have x6 := x5.new (o := .tup [.str "", .int 0]) hp0
            have hB8 := (hB6.extN x1).ex gp
            have hT8 : TabsN (lamT Pt) (upd Fb' p (.tup [.str "", .int 0])) := x3.ext fun b o e => gp b o e
            have dk8 := dp_ex gp (dp_extN x1 dk)
            refine ew_var rfl (rw_neD hdj (d := .tuple [.str "", .int 0]) (e := .tuple [.str "", .int 0]) (.tup (SqT.of upd_same) (.cons (.str _) (.cons (.int _) .nil))) (dp_ex x6.ex dk8) (shaped_low hlowd) (shaped_low hlowd) ?_)
            rw [eqv_lowK hlowd]
            refine ⟨_, rfl, (fun z => by cases z), fun _ => ?_⟩
            obtain ⟨dj, ldj, hdj2⟩ := judged_dp wd t
            have of2 := x6.get (i := 0) rfl
            refine tw_test (ew_op (ew_var rfl (ew_op (ew_slL hdj (ew_var rfl (ow_none (ow_some (ew_c ⟨1, rfl, pf, _, rfl, SqL.of (x6.get (i := 0) rfl), fun p7 hp7 => ?_⟩))))))))
            have g7 := Ex.new (.refl _) hp7 (u := .lst (cutV (List.replicate 1 (judgedV wd t) ++ [judgedV wd t]) none (some 1)))
            have o7 := g7 _ _ of2
            refine ew_c (rw_rep hdj (k := 2) upd_same ⟨by decide, by decide⟩ (show 1 * 2 ≤ 100000 by decide) (fun p8 hp8 => ?_))
            have g8 := Ex.new (.refl _) hp8 (u := .lst (List.replicate (2 : Int).toNat (cutV (List.replicate 1 (judgedV wd t) ++ [judgedV wd t]) none (some 1))).flatten)
            have hl2 : lowD 2 (.list [dj, dj]) = true := low_two ldj ldj
            refine rw_neD hdj (d := .list [dj, dj]) (e := .list [dj, dj]) (.lst (SqL.of (g8 _ _ o7)) (.cons (hdj2 _ _) (.cons (hdj2 _ _) .nil))) (.lst (xs := [judgedV wd t, judgedV wd t]) (SqL.of upd_same) (.cons (hdj2 _ _) (.cons (hdj2 _ _) .nil))) (shaped_low hl2) (shaped_low hl2) ?_
            rw [eqv_lowK hl2]
            refine ⟨_, rfl, (fun z => by cases z), fun _ => sw_next ⟨rfl, hB8.ex (x6.ex.trans (g7.trans g8)), hT8.ext fun b o e => (x6.ex.trans (g7.trans g8)) b o e⟩⟩
          · have hb' := ren_bad hw hw' hren hro hb
            refine .inr ⟨bb, hb', fun F' p g' hp0 => ?_⟩
            obtain ⟨Fb', x1, x2, x3, x4⟩ := after_own hO6 eN1 g' (hT11.ext fun b o e => g' b o e)
            refine ew_var rfl (rw_neD hdj (d := .tuple [.str "plan", .int (bb : Int)]) (e := .tuple [.str "plan", .int (bb : Int)]) (.tup (SqT.of hp0) (.cons (.str _) (.cons (.int _) .nil))) (dp_ex x2.ex (dp_extN x1 dk)) (shaped_low hlowd) (shaped_low hlowd) ?_)
            rw [eqv_lowK hlowd]
            refine ⟨_, rfl, (fun z => by cases z), fun _ => ?_⟩
            refine tw_test (ew_op (ew_var rfl (ew_op (ew_slL hdj (ew_var rfl (ow_none (ow_some (ew_c ⟨1, rfl, pf, _, rfl, SqL.of (x2.get (i := 0) rfl), fun p7 hp7 => ?_⟩))))))))
            have g7 := Ex.new (.refl _) hp7 (u := .lst (cutV ([] : List V) none (some 1)))
            refine ew_c (rw_rep hdj (k := 2) upd_same ⟨by decide, by decide⟩ (show 0 * 2 ≤ 100000 by decide) (fun p8 hp8 => ?_))
            have g8 := Ex.new (.refl _) hp8 (u := .lst (List.replicate (2 : Int).toNat (cutV ([] : List V) none (some 1))).flatten)
            refine rw_neD hdj (d := .list []) (e := .list []) (.lst (SqL.of ((g7.trans g8) _ _ (x2.get (i := 0) rfl))) .nil) (.lst (xs := []) (SqL.of upd_same) .nil) (shaped_low (n := 1) rfl) (shaped_low (n := 1) rfl) ?_
            refine ⟨_, rfl, (fun z => by cases z), fun _ => sw_next ⟨rfl, ((hB6.extN x1).ex x2.ex).ex (g7.trans g8), (x3.ext fun b o e => x2.ex b o e).ext fun b o e => (g7.trans g8) b o e⟩⟩
        rintro σ _ G7 ⟨rfl, hB7, hT7⟩
        have eL : longF ⟨wd.cap, wd.start, wd.refill, l'⟩ = longF wd := ren_longF hren
        have eK : lacksF ⟨wd.cap, wd.start, wd.refill, l'⟩ = lacksF wd := by
          unfold lacksF
          rw [ren_lacks hren]
        refine sw_seq ?_
        refine sw_mid (fun σ _ G => σ = [some (.ref a), some (.ref hh), some (.int i), some stv, some (.ref ma), some (.ref pl), some (.ref pn), some (.ref po), x8, some (.ref ph), some (.ref pu), some (.ref pt), x12, some (.ref pq), some (.ref pf), some (.ref kh), x16, x17, x18, x19, x20] ∧ Ex G7 G) ?_ ?_
        · refine sw_if (tw_or (tw_test (ew_op (ew_call hdj (aw_cons (ew_var rfl (aw_nil ?_)))))))
          refine ⟨.ref pu, _, rfl, hB7.w2, hw', fun q1 F8 g8 hq1 e8 => ?_⟩
          refine ew_call hdj (aw_cons (ew_var rfl (aw_nil ⟨.ref ph, wd, rfl, dp_ex g8 hB7.w1, hw, fun q2 F9 g9 hq2 e9 => ?_⟩)))
          obtain ⟨db, hdb, hdp⟩ := bref_dp (lacksF wd) wd.refill
          rw [eL, eK] at e8
          have hlow : lowD 2 (.tuple [.int (longF wd), db]) = true := low_pair rfl hdb
          refine rw_neD hdj (d := .tuple [.int (longF wd), db]) (e := .tuple [.int (longF wd), db]) (.tup (SqT.of (g9 _ _ e8)) (.cons (.int _) (.cons (hdp _ _) .nil))) (.tup (SqT.of e9) (.cons (.int _) (.cons (hdp _ _) .nil))) (shaped_low hlow) (shaped_low hlow) ?_
          rw [eqv_lowK hlow]
          refine ⟨_, rfl, (fun z => by cases z), fun _ => ?_⟩
          have g79 := g8.trans g9
          refine tw_test (ew_op (ew_call hdj (aw_cons (ew_var rfl (aw_nil ?_)))))
          refine ⟨.ref pu, _, rfl, dp_ex g79 hB7.w2, hw', fun m1 F10 a1 a2 g10 => ⟨fun hle => ?_, fun hgt => ?_⟩⟩
          · refine ew_call hdj (aw_cons (ew_var rfl (aw_nil ⟨.ref ph, wd, rfl, dp_ex (g79.trans g10) hB7.w1, hw, fun m2 F11 b1 b2 g11 => ⟨fun hle2 => ?_, fun hgt2 => ?_⟩⟩)))
            · obtain rfl := ren_min hren hm5 a1 a2 b1 b2
              exact rw_ne rfl ⟨_, rfl, fun z => absurd z (by simp), fun _ => sw_next ⟨rfl, g79.trans (g10.trans g11)⟩⟩
            · obtain rfl := ren_min hren hm5 a1 a2 b1 b2
              exact absurd (show m1 ≤ wd.cap from hle) (by omega)
          · refine ew_call hdj (aw_cons (ew_var rfl (aw_nil ⟨.ref ph, wd, rfl, dp_ex (g79.trans g10) hB7.w1, hw, fun m2 F11 b1 b2 g11 => ⟨fun hle2 => ?_, fun hgt2 => ?_⟩⟩)))
            · obtain rfl := ren_min hren hm5 a1 a2 b1 b2
              exact absurd (show wd.cap < m1 from hgt) (by omega)
            · exact rw_ne rfl ⟨_, rfl, fun z => absurd z (by simp), fun _ => sw_next ⟨rfl, g79.trans (g10.trans g11)⟩⟩
        rintro σ _ G8 ⟨rfl, g78⟩
        have hB8 := hB7.ex g78
        refine sw_seq ?_
        refine sw_mid (fun σ _ G => σ = [some (.ref a), some (.ref hh), some (.int i), some stv, some (.ref ma), some (.ref pl), some (.ref pn), some (.ref po), x8, some (.ref ph), some (.ref pu), some (.ref pt), x12, some (.ref pq), some (.ref pf), some (.ref kh), x16, x17, x18, x19, x20] ∧ Ex G8 G) ?_ ?_
        · refine sw_if (tw_test (ew_op (ew_lcR hdj (aw_cons (ew_cb (aw_cons (ew_var rfl (aw_nil (cw_lenS hdj (Or.inl hB8.nw) (aw_nil ?_)))))))))) 
          have hnlm : (ns.map fun k => V.int (k : Nat)).length = wd.ms.length := by rw [List.length_map]; exact hnl
          refine ⟨_, rfl, by omega, by omega, fun Dl hDl => ⟨fun j ac _ G' => Ex G8 G' ∧ ac.length = j ∧ DpAll K G' ac ((List.range j).map (nD wd)), ⟨.refl _, rfl, .nil⟩, ?_, ?_, ?_⟩⟩
          · rintro j ac _ G' hj hg ⟨g, hal, dd⟩
            omega
          · rintro j ac _ G' hj hg ⟨g, hal, dd⟩
            have hd' := hdj.jd (D := Dl) (acc := ac)
            have hjl : j < wd.ms.length := by omega
            have hn1 : ns[j]? = some ns[j] := List.getElem?_eq_getElem (by omega)
            have hs : wd.ms[j]? = some wd.ms[j] := List.getElem?_eq_getElem hjl
            refine gw_name ⟨rfl, tw_yes ⟨fun _ => ew_call hd' (aw_cons (ew_var rfl (aw_cons (ew_op (ew_var rfl (ew_var rfl ?_)))))), (fun z => by cases z)⟩⟩
            refine rw_ixL hd' (g.sqL hB8.nw) (v := .int (ns[j] : Nat)) (atI_nat (show (ns.map fun k => V.int (k : Nat))[j]? = some (V.int (ns[j] : Nat)) by rw [List.getElem?_map, hn1]; rfl)) (aw_nil ?_)
            refine ⟨.ref pu, ⟨wd.cap, wd.start, wd.refill, l'⟩, ns[j], wd.ms[j], rfl, dp_ex g hB8.w2, hw', (hl'2 j _ hn1).trans hs, fun q F' g' hq e => ?_⟩
            refine ⟨g.trans g', by rw [List.length_append, hal]; rfl, ?_⟩
            rw [List.range_succ, List.map_append]
            refine dps_snoc (dps_ex g' dd) ?_
            unfold nD
            rw [needs_of hs]
            exact .tup (SqT.of e) (.cons (.int _) (.cons (.int _) .nil))
          rintro ac _ G' hg ⟨g, hal, dd⟩
          have gD := Ex.new (.refl G') hg (u := .lst ac)
          have dd1 := dps_ex gD dd
          have oac : (upd G' Dl (.lst ac)) Dl = some (.lst ac) := upd_same
          have gE := g.trans gD
          rw [Int.toNat_natCast, hnlm] at dd1
          generalize (upd G' Dl (.lst ac)) = G9 at gD dd1 oac gE ⊢
          refine ew_lcR hdj (aw_cons (ew_cb (aw_cons (ew_var rfl (aw_nil (cw_lenS hdj (Or.inl (gE.sqL hB8.nw)) (aw_nil ?_)))))))
          refine ⟨_, rfl, by omega, by omega, fun D2 hD2 => ⟨fun j ac2 _ G' => Ex G9 G' ∧ ac2.length = j ∧ DpAll K G' ac2 ((List.range j).map (nD wd)), ⟨.refl _, rfl, .nil⟩, ?_, ?_, ?_⟩⟩
          · rintro j ac2 _ G' hj hg2 ⟨g2, hal2, dd2⟩
            omega
          · rintro j ac2 _ G' hj hg2 ⟨g2, hal2, dd2⟩
            have hd' := hdj.jd (D := D2) (acc := ac2)
            have hjl : j < wd.ms.length := by omega
            have hs : wd.ms[j]? = some wd.ms[j] := List.getElem?_eq_getElem hjl
            refine gw_name ⟨rfl, tw_yes ⟨fun _ => ew_call hd' (aw_cons (ew_var rfl (aw_cons (ew_var rfl (aw_nil ?_))))), (fun z => by cases z)⟩⟩
            refine ⟨.ref ph, wd, j, wd.ms[j], rfl, dp_ex (gE.trans g2) hB8.w1, hw, hs, fun q F' g' hq e => ?_⟩
            refine ⟨g2.trans g', by rw [List.length_append, hal2]; rfl, ?_⟩
            rw [List.range_succ, List.map_append]
            refine dps_snoc (dps_ex g' dd2) ?_
            unfold nD
            rw [needs_of hs]
            exact .tup (SqT.of e) (.cons (.int _) (.cons (.int _) .nil))
          rintro ac2 _ G' hg2 ⟨g2, hal2, dd2⟩
          have gD2 := Ex.new (.refl G') hg2 (u := .lst ac2)
          have dd3 := dps_ex gD2 dd2
          rw [Int.toNat_natCast, hnlm] at dd3
          refine rw_neD hdj (d := .list ((List.range wd.ms.length).map (nD wd))) (e := .list ((List.range wd.ms.length).map (nD wd))) (.lst (SqL.of ((g2.trans gD2) _ _ oac)) (dps_ex (g2.trans gD2) dd1)) (.lst (SqL.of upd_same) dd3) (shaped_low nD_low) (shaped_low nD_low) ?_
          rw [eqv_lowK nD_low]
          exact ⟨_, rfl, (fun z => by cases z), fun _ => sw_next ⟨rfl, gE.trans (g2.trans gD2)⟩⟩
        rintro σ _ G9 ⟨rfl, g89⟩
        have hB9 := hB8.ex g89
        have hT9 : TabsN (lamT Pt) G9 := hT7.ext fun b o e => (g78.trans g89) b o e
        obtain ⟨nv, hrev, hback⟩ := hren.back
        refine sw_seq (sw_par (aw_cons (ew_call hdj (aw_cons (ew_var rfl (aw_nil ?_))))))
        refine ⟨.ref ph, wd, rfl, hB9.w1, hw, fun i1 q1 F' hi1 hle1 hmin1 g1' hq1 e1 => ?_, fun hno F' g1' => ?_⟩
        · refine aw_cons (ew_call hdj (aw_cons (ew_var rfl (aw_nil ?_))))
          refine ⟨.ref pu, _, rfl, dp_ex g1' hB9.w2, hw', fun i2 q2 F'' hi2 hle2 hmin2 g2' hq2 e2 => aw_nil ⟨_, _, rfl, ?_⟩, fun hno2 F'' g2' => ?_⟩
          · refine sw_if (tw_or (tw_test (ew_op (ew_op (ew_var rfl (ew_c (rw_isN (ew_op (ew_var rfl (ew_c (rw_isN (rw_ne rfl ⟨_, rfl, fun z => absurd z (by simp), fun _ => ?_⟩)))))))))))) 
            refine tw_and (tw_test (ew_op (ew_var rfl (ew_c (rw_notN ⟨_, rfl, fun _ => ?_, fun z => absurd z (by simp)⟩)))))
            have hl5' : l'.length ≤ 5 := by omega
            have hp2 := idx_perm hl5' hi2
            obtain ⟨jb, hjb, ejb, elb⟩ := ren_turn hrev hl5' hi2
            have hlj : jb < facN wd.ms.length := by rw [← hl'1]; exact hjb
            have hij : i1 ≤ jb := by
              refine Classical.byContradiction fun z => ?_
              have := hmin1 jb (by omega)
              have e9 : leastT (needsW wd) (idxP wd.ms.length jb) ≤ wd.start := by rw [elb]; exact hle2
              omega
            have hlex := idx_lex hm5 hij hlj
            refine tw_test (ew_op (ew_var rfl ?_))
            refine ew_lcL hdj (ew_var rfl ⟨q2, _, rfl, SqL.of e2, by rw [List.length_map, hp2.length_eq, List.length_range]; show l'.length ≤ 100000; omega, fun Dl hDl => ⟨fun j ac _ G' => Ex F'' G' ∧ ac = (((idxP l'.length i2).take j).map (fN nv)).map fun k => V.int (k : Nat), ⟨.refl _, rfl⟩, ?_, ?_, ?_⟩⟩)
            · rintro j ac _ G' hj hg ⟨g, rfl⟩
              exact ⟨SqL.of (g _ _ e2), by rw [List.length_map, List.length_map]; exact List.length_take_le _ _⟩
            · rintro j ac x _ G' hj hg ⟨g, rfl⟩
              have hd' := hdj.jd (D := Dl) (acc := (((idxP l'.length i2).take j).map (fN nv)).map fun k => V.int (k : Nat))
              rw [List.getElem?_map] at hj
              obtain ⟨n, hn, rfl⟩ := Option.map_eq_some_iff.mp hj
              have hnlt : n < wd.ms.length := by rw [← hl'1]; exact List.mem_range.mp (hp2.mem_iff.mp (List.mem_of_getElem? hn))
              obtain ⟨k0, hk0⟩ := List.mem_iff_getElem?.mp (hpm.mem_iff.mpr (List.mem_range.mpr hnlt))
              have hk0l : k0 < wd.ms.length := by rw [← hnl]; exact (List.getElem?_eq_some_iff.mp hk0).1
              have efn : fN ns k0 = n := by
                have := (hren.get hk0l).symm.trans hk0
                injection this
              have egn : fN nv n = k0 := by rw [← efn]; exact hback k0 hk0l
              refine gw_name ⟨rfl, tw_yes ⟨fun _ => ew_bmL hd' (ew_var rfl ⟨pn, _, rfl, ((g1'.trans g2').trans g).sqL hB9.nw, aw_cons (ew_var rfl (aw_nil ?_))⟩), (fun z => by cases z)⟩⟩
              refine mw_indexV hd' (((g1'.trans g2').trans g).sqL hB9.nw) (i := k0) (z := V.int (n : Nat)) rfl nats_flat (by rw [List.getElem?_map, hk0]; rfl) (beq_self_eq_true _) (fun m' z' hm' hz' => ?_) ⟨g, ?_⟩
              · rw [List.getElem?_map] at hz'
                obtain ⟨n', hn', rfl⟩ := Option.map_eq_some_iff.mp hz'
                show (((n' : Nat) : Int) == ((n : Nat) : Int)) = false
                refine beq_eq_false_iff_ne.mpr fun e => ?_
                have e : n' = n := by omega
                subst e
                have := (List.getElem?_inj (show m' < ns.length from (List.getElem?_eq_some_iff.mp hn').1) hnd).mp (hn'.trans hk0.symm)
                omega
              · rw [List.take_succ, hn, List.map_append, List.map_append]
                show _ ++ [V.int (k0 : Nat)] = _ ++ [V.int (fN nv n : Nat)]
                rw [egn]
            · rintro ac _ G' hg ⟨g, rfl⟩
              rw [List.length_map, List.take_length, ← ejb]
              have gD := Ex.new (.refl G') hg (u := .lst ((idxP l'.length jb).map fun k => V.int (k : Nat)))
              refine rw_gtL hdj (SqL.of ((g.trans gD) _ _ (g2' _ _ e1))) (SqL.of upd_same) ?_
              have hlex2 : gtN (idxP wd.ms.length i1) (idxP l'.length jb) = false := by rw [hl'1]; exact hlex
              rw [hlex2]
              exact ⟨_, rfl, (fun z => by cases z), fun _ => sw_next ⟨⟨_, _, _, _, _, _, _, _, _, _, _, _, _, _, _, _, _, _, _, rfl⟩, hT9.ext fun b o e => (g1'.trans (g2'.trans (g.trans gD))) b o e⟩⟩
          · obtain ⟨jb, hjb, ejb, elb⟩ := ren_turn hren hm5 hi1
            have := hno2 jb (by show jb < facN l'.length; rw [hl'1]; exact hjb)
            exact absurd (show leastT (needsW ⟨wd.cap, wd.start, wd.refill, l'⟩) (idxP l'.length jb) ≤ wd.start from by rw [elb]; exact hle1) (by show ¬ _ ≤ _; exact Int.not_le.mpr this)
        · refine aw_cons (ew_call hdj (aw_cons (ew_var rfl (aw_nil ?_))))
          refine ⟨.ref pu, _, rfl, dp_ex g1' hB9.w2, hw', fun i2 q2 F'' hi2 hle2 hmin2 g2' hq2 e2 => ?_, fun hno2 F'' g2' => aw_nil ⟨_, _, rfl, ?_⟩⟩
          · obtain ⟨jb, hjb, ejb, elb⟩ := ren_turn hrev (show l'.length ≤ 5 by omega) hi2
            have := hno jb (by rw [← hl'1]; exact hjb)
            exact absurd (show leastT (needsW wd) (idxP wd.ms.length jb) ≤ wd.start from by rw [elb]; exact hle2) (Int.not_le.mpr this)
          · refine sw_if (tw_or (tw_test (ew_op (ew_op (ew_var rfl (ew_c (rw_isN (ew_op (ew_var rfl (ew_c (rw_isN (rw_ne rfl ⟨_, rfl, fun z => absurd z (by simp), fun _ => ?_⟩)))))))))))) 
            refine tw_and (tw_test (ew_op (ew_var rfl (ew_c (rw_notN ⟨_, rfl, fun z => absurd z (by simp), fun _ => ?_⟩)))))
            exact ⟨(fun z => by cases z), fun _ => sw_next ⟨⟨_, _, _, _, _, _, _, _, _, _, _, _, _, _, _, _, _, _, _, rfl⟩, hT9.ext fun b o e => (g1'.trans g2') b o e⟩⟩
      · rintro σ _ G ⟨⟨x2, x3, x4, x5, x6, x7, x8, x9, x10, x11, x12, x13, x14, x15, x16, x17, x18, x19, x20, rfl⟩, hT⟩
        exact ⟨⟨_, _, _, _, _, _, _, _, _, _, _, _, _, _, _, _, _, _, _, rfl⟩, hT⟩
    · rintro σ _ G ⟨⟨x2, x3, x4, x5, x6, x7, x8, x9, x10, x11, x12, x13, x14, x15, x16, x17, x18, x19, x20, rfl⟩, hT⟩
      refine sw_ret (ew_c ?_)
      rfl

end
end Obr
namespace Obr
open PySem PySem.Spec PyProof.Rows L2
/-! ### the head: where each def stands -/
theorem funOf {K : PySem.W.Frag} {x qual : Str} {st : Stmt} {f : Addr} {fd : FuncData} (F : FunD K x qual (defArgs st) (defBody st) (defScope st) [] [] f fd) : Fun K x qual st f fd := by
  obtain ⟨oc, od, dV, kV, doc, pm, an, cdv, ct, osl, rfl, lk, hcd, hD, _⟩ := F.ex
  rcases hD with ⟨_, rfl⟩ | ⟨e, _⟩
  · exact ⟨⟨oc, od, kV, doc, pm, an, cdv, ct, osl, rfl, lk, hcd⟩, F.kp⟩
  · exact absurd rfl e
theorem tab_none {K : PySem.W.Frag} {h : Heap} {fd : FuncData} {c Pt : Addr} {oc : Value} {od : Option Addr} {osl : Array (Option Value)} {cdv : Value} {q : Str} (xT : tabB K = true) (lk : K.lookup (He.ga K "law") = some ⟨oc, od, .func fd, osl⟩) (hcd : fd.code = .ref c) (_ : PySem.W.codeIn K cdv q = true) (X : K.In h) (C : PySem.W.CodeHd h c Pt) (_ : cdv = .ref c) : K.lookup Pt = none := by
  unfold tabB at xT
  rw [lk] at xT
  simp only [hcd] at xT
  obtain ⟨o, vs, _, _, _, _, _, _, _, ho, _, hd, hv, _⟩ := C
  split at xT
  · rename_i e1 e2 vs' e3 hk
    have g := X _ _ hk
    rw [ho] at g
    cases g
    cases hd
    rw [hv] at xT
    simpa using xT
  · cases xT
theorem facts {P : Program} {w : World} {K : PySem.W.Frag} {h : Heap} {mg : Str → Option Value} {f : Addr} (X : K.In h) (G : h.Ns mainGlobals mg) (hfa : mg ("law" : Str) = some (.ref f)) (c : He.SaysD fa fn K) (x : exB K = true) (hTab : TabAt "law" mg h) :
    ∃ (fd : FuncData) (cs : List (Addr × Addr)) (sp : Sp), (∀ p ∈ cs, h.get? p.2 = some { cls := .none, data := .fields #[] }) ∧ (∀ p ∈ cs, K.lookup p.2 = none) ∧ (∀ p ∈ cs, PySem.W.CodeHd h p.1 p.2) ∧ (∀ (s : Shared) (u : Value), BindsTo s fd ⟨[u], []⟩ [("_law_script", u)]) ∧
      (∀ (H : Hp) (a : Addr) (ns : List Int), ns.length ≤ 63 → (∀ z ∈ ns, Builtin.Int.intBits z ≤ 1048576) → (∀ p ∈ cs, H p.2 = some (.tbl #[])) → SqL K H a (ns.map V.int) → sp [.ref a] H (fun v _ => v = .bl true) fun _ _ _ => False) ∧
      ∀ base : Heap, K.In base → base.Ns mainGlobals mg → (∀ p ∈ cs, LamX.TabB base mg p.1 p.2) → FnOk P w K mg base CX0 9 f fd ["_law_script"] sp := by
  obtain ⟨fd_BadPlan___init__, D_BadPlan___init__⟩ := c.def_ 1 (d := dd ("BadPlan", some "__init__") "__init__" "BadPlan.__init__" (inClass (top 8) 0)) rfl
  have b_BadPlan___init__ : Binds K fd_BadPlan___init__ ["self", "beat"] [] := FunD.bindsN (ps := ["self", "beat"]) D_BadPlan___init__ fun _ _ _ _ _ _ us hl => match us, hl with | [_, _], _ => rfl
  obtain ⟨fd_in_turn, D_in_turn⟩ := c.def_ 2 (d := dd ("in_turn", none) "in_turn" "in_turn" (top 15)) rfl
  have b_in_turn : Binds K fd_in_turn ["right", "last", "waiting"] [] := FunD.bindsN (ps := ["right", "last", "waiting"]) D_in_turn fun _ _ _ _ _ _ us hl => match us, hl with | [_, _, _], _ => rfl
  have g_in_turn : mg "in_turn" = some (.ref (He.ga K "in_turn")) := He.glo_ok X G (c.fact 13 (f := .glo "in_turn") rfl)
  have C_in_turn : Cal K mg "in_turn" (He.ga K "in_turn") fd_in_turn ["right", "last", "waiting"] := ⟨g_in_turn, D_in_turn.kp, b_in_turn⟩
  obtain ⟨fd_least_first, D_least_first⟩ := c.def_ 3 (d := dd ("least_first", none) "least_first" "least_first" (top 16)) rfl
  have b_least_first : Binds K fd_least_first ["pairs"] [] := FunD.bindsN (ps := ["pairs"]) D_least_first fun _ _ _ _ _ _ us hl => match us, hl with | [_], _ => rfl
  have g_least_first : mg "least_first" = some (.ref (He.ga K "least_first")) := He.glo_ok X G (c.fact 14 (f := .glo "least_first") rfl)
  have C_least_first : Cal K mg "least_first" (He.ga K "least_first") fd_least_first ["pairs"] := ⟨g_least_first, D_least_first.kp, b_least_first⟩
  obtain ⟨fd_behind_first, D_behind_first⟩ := c.def_ 4 (d := dd ("behind_first", none) "behind_first" "behind_first" (top 17)) rfl
  have b_behind_first : Binds K fd_behind_first ["last", "numbers"] [] := FunD.bindsN (ps := ["last", "numbers"]) D_behind_first fun _ _ _ _ _ _ us hl => match us, hl with | [_, _], _ => rfl
  have g_behind_first : mg "behind_first" = some (.ref (He.ga K "behind_first")) := He.glo_ok X G (c.fact 15 (f := .glo "behind_first") rfl)
  have C_behind_first : Cal K mg "behind_first" (He.ga K "behind_first") fd_behind_first ["last", "numbers"] := ⟨g_behind_first, D_behind_first.kp, b_behind_first⟩
  obtain ⟨fd_check_world, D_check_world⟩ := c.def_ 5 (d := dd ("check_world", none) "check_world" "check_world" (top 24)) rfl
  have b_check_world : Binds K fd_check_world ["world"] [] := FunD.bindsN (ps := ["world"]) D_check_world fun _ _ _ _ _ _ us hl => match us, hl with | [_], _ => rfl
  have g_check_world : mg "check_world" = some (.ref (He.ga K "check_world")) := He.glo_ok X G (c.fact 16 (f := .glo "check_world") rfl)
  have C_check_world : Cal K mg "check_world" (He.ga K "check_world") fd_check_world ["world"] := ⟨g_check_world, D_check_world.kp, b_check_world⟩
  obtain ⟨fd_check_store, D_check_store⟩ := c.def_ 6 (d := dd ("check_store", none) "check_store" "check_store" (top 25)) rfl
  have b_check_store : Binds K fd_check_store ["store"] [] := FunD.bindsN (ps := ["store"]) D_check_store fun _ _ _ _ _ _ us hl => match us, hl with | [_], _ => rfl
  have g_check_store : mg "check_store" = some (.ref (He.ga K "check_store")) := He.glo_ok X G (c.fact 17 (f := .glo "check_store") rfl)
  have C_check_store : Cal K mg "check_store" (He.ga K "check_store") fd_check_store ["store"] := ⟨g_check_store, D_check_store.kp, b_check_store⟩
  obtain ⟨fd_check_steps, D_check_steps⟩ := c.def_ 7 (d := dd ("check_steps", none) "check_steps" "check_steps" (top 26)) rfl
  have b_check_steps : Binds K fd_check_steps ["number", "steps", "cap"] [] := FunD.bindsN (ps := ["number", "steps", "cap"]) D_check_steps fun _ _ _ _ _ _ us hl => match us, hl with | [_, _, _], _ => rfl
  have g_check_steps : mg "check_steps" = some (.ref (He.ga K "check_steps")) := He.glo_ok X G (c.fact 18 (f := .glo "check_steps") rfl)
  have C_check_steps : Cal K mg "check_steps" (He.ga K "check_steps") fd_check_steps ["number", "steps", "cap"] := ⟨g_check_steps, D_check_steps.kp, b_check_steps⟩
  obtain ⟨fd_is_step, D_is_step⟩ := c.def_ 8 (d := dd ("is_step", none) "is_step" "is_step" (top 27)) rfl
  have b_is_step : Binds K fd_is_step ["step", "cap"] [] := FunD.bindsN (ps := ["step", "cap"]) D_is_step fun _ _ _ _ _ _ us hl => match us, hl with | [_, _], _ => rfl
  have g_is_step : mg "is_step" = some (.ref (He.ga K "is_step")) := He.glo_ok X G (c.fact 19 (f := .glo "is_step") rfl)
  have C_is_step : Cal K mg "is_step" (He.ga K "is_step") fd_is_step ["step", "cap"] := ⟨g_is_step, D_is_step.kp, b_is_step⟩
  obtain ⟨fd_check_rule, D_check_rule⟩ := c.def_ 9 (d := dd ("check_rule", none) "check_rule" "check_rule" (top 28)) rfl
  have b_check_rule : Binds K fd_check_rule ["rule"] [] := FunD.bindsN (ps := ["rule"]) D_check_rule fun _ _ _ _ _ _ us hl => match us, hl with | [_], _ => rfl
  have g_check_rule : mg "check_rule" = some (.ref (He.ga K "check_rule")) := He.glo_ok X G (c.fact 20 (f := .glo "check_rule") rfl)
  have C_check_rule : Cal K mg "check_rule" (He.ga K "check_rule") fd_check_rule ["rule"] := ⟨g_check_rule, D_check_rule.kp, b_check_rule⟩
  obtain ⟨fd_check_count, D_check_count⟩ := c.def_ 10 (d := dd ("check_count", none) "check_count" "check_count" (top 29)) rfl
  have b_check_count : Binds K fd_check_count ["many", "least", "most"] [] := FunD.bindsN (ps := ["many", "least", "most"]) D_check_count fun _ _ _ _ _ _ us hl => match us, hl with | [_, _, _], _ => rfl
  have g_check_count : mg "check_count" = some (.ref (He.ga K "check_count")) := He.glo_ok X G (c.fact 21 (f := .glo "check_count") rfl)
  have C_check_count : Cal K mg "check_count" (He.ga K "check_count") fd_check_count ["many", "least", "most"] := ⟨g_check_count, D_check_count.kp, b_check_count⟩
  obtain ⟨fd_Machine___init__, D_Machine___init__⟩ := c.def_ 11 (d := dd ("Machine", some "__init__") "__init__" "Machine.__init__" (inClass (top 34) 0)) rfl
  have b_Machine___init__ : Binds K fd_Machine___init__ ["self", "number", "steps", "since"] [] := FunD.bindsN (ps := ["self", "number", "steps", "since"]) D_Machine___init__ fun _ _ _ _ _ _ us hl => match us, hl with | [_, _, _, _], _ => rfl
  obtain ⟨fd_Machine_is_done, D_Machine_is_done⟩ := c.def_ 12 (d := dd ("Machine", some "is_done") "is_done" "Machine.is_done" (inClass (top 34) 1)) rfl
  have b_Machine_is_done : Binds K fd_Machine_is_done ["self"] [] := FunD.bindsN (ps := ["self"]) D_Machine_is_done fun _ _ _ _ _ _ us hl => match us, hl with | [_], _ => rfl
  have M_Machine_is_done : Met K (He.ga K "Machine") "is_done" (He.ma K (He.ga K "Machine") "is_done") fd_Machine_is_done ["self"] := ⟨He.cls_ok (c.fact 73 (f := .cls "Machine") rfl), He.meth_ok (c.fact 79 (f := .meth "Machine" "is_done") rfl), b_Machine_is_done⟩
  obtain ⟨fd_Machine_is_busy, D_Machine_is_busy⟩ := c.def_ 13 (d := dd ("Machine", some "is_busy") "is_busy" "Machine.is_busy" (inClass (top 34) 2)) rfl
  have b_Machine_is_busy : Binds K fd_Machine_is_busy ["self"] [] := FunD.bindsN (ps := ["self"]) D_Machine_is_busy fun _ _ _ _ _ _ us hl => match us, hl with | [_], _ => rfl
  have M_Machine_is_busy : Met K (He.ga K "Machine") "is_busy" (He.ma K (He.ga K "Machine") "is_busy") fd_Machine_is_busy ["self"] := ⟨He.cls_ok (c.fact 73 (f := .cls "Machine") rfl), He.meth_ok (c.fact 80 (f := .meth "Machine" "is_busy") rfl), b_Machine_is_busy⟩
  obtain ⟨fd_Machine_is_waiting, D_Machine_is_waiting⟩ := c.def_ 14 (d := dd ("Machine", some "is_waiting") "is_waiting" "Machine.is_waiting" (inClass (top 34) 3)) rfl
  have b_Machine_is_waiting : Binds K fd_Machine_is_waiting ["self"] [] := FunD.bindsN (ps := ["self"]) D_Machine_is_waiting fun _ _ _ _ _ _ us hl => match us, hl with | [_], _ => rfl
  have M_Machine_is_waiting : Met K (He.ga K "Machine") "is_waiting" (He.ma K (He.ga K "Machine") "is_waiting") fd_Machine_is_waiting ["self"] := ⟨He.cls_ok (c.fact 73 (f := .cls "Machine") rfl), He.meth_ok (c.fact 81 (f := .meth "Machine" "is_waiting") rfl), b_Machine_is_waiting⟩
  obtain ⟨fd_Machine_need, D_Machine_need⟩ := c.def_ 15 (d := dd ("Machine", some "need") "need" "Machine.need" (inClass (top 34) 4)) rfl
  have b_Machine_need : Binds K fd_Machine_need ["self"] [] := FunD.bindsN (ps := ["self"]) D_Machine_need fun _ _ _ _ _ _ us hl => match us, hl with | [_], _ => rfl
  have M_Machine_need : Met K (He.ga K "Machine") "need" (He.ma K (He.ga K "Machine") "need") fd_Machine_need ["self"] := ⟨He.cls_ok (c.fact 73 (f := .cls "Machine") rfl), He.meth_ok (c.fact 82 (f := .meth "Machine" "need") rfl), b_Machine_need⟩
  obtain ⟨fd_Machine_begin_step, D_Machine_begin_step⟩ := c.def_ 17 (d := dd ("Machine", some "begin_step") "begin_step" "Machine.begin_step" (inClass (top 34) 6)) rfl
  have b_Machine_begin_step : Binds K fd_Machine_begin_step ["self", "beat"] [] := FunD.bindsN (ps := ["self", "beat"]) D_Machine_begin_step fun _ _ _ _ _ _ us hl => match us, hl with | [_, _], _ => rfl
  have M_Machine_begin_step : Met K (He.ga K "Machine") "begin_step" (He.ma K (He.ga K "Machine") "begin_step") fd_Machine_begin_step ["self", "beat"] := ⟨He.cls_ok (c.fact 73 (f := .cls "Machine") rfl), He.meth_ok (c.fact 84 (f := .meth "Machine" "begin_step") rfl), b_Machine_begin_step⟩
  obtain ⟨fd_Machine_end_step, D_Machine_end_step⟩ := c.def_ 18 (d := dd ("Machine", some "end_step") "end_step" "Machine.end_step" (inClass (top 34) 7)) rfl
  have b_Machine_end_step : Binds K fd_Machine_end_step ["self", "beat"] [] := FunD.bindsN (ps := ["self", "beat"]) D_Machine_end_step fun _ _ _ _ _ _ us hl => match us, hl with | [_, _], _ => rfl
  have M_Machine_end_step : Met K (He.ga K "Machine") "end_step" (He.ma K (He.ga K "Machine") "end_step") fd_Machine_end_step ["self", "beat"] := ⟨He.cls_ok (c.fact 73 (f := .cls "Machine") rfl), He.meth_ok (c.fact 85 (f := .meth "Machine" "end_step") rfl), b_Machine_end_step⟩
  obtain ⟨fd_Machine_begin_anew, D_Machine_begin_anew⟩ := c.def_ 19 (d := dd ("Machine", some "begin_anew") "begin_anew" "Machine.begin_anew" (inClass (top 34) 8)) rfl
  have b_Machine_begin_anew : Binds K fd_Machine_begin_anew ["self"] [] := FunD.bindsN (ps := ["self"]) D_Machine_begin_anew fun _ _ _ _ _ _ us hl => match us, hl with | [_], _ => rfl
  have M_Machine_begin_anew : Met K (He.ga K "Machine") "begin_anew" (He.ma K (He.ga K "Machine") "begin_anew") fd_Machine_begin_anew ["self"] := ⟨He.cls_ok (c.fact 73 (f := .cls "Machine") rfl), He.meth_ok (c.fact 86 (f := .meth "Machine" "begin_anew") rfl), b_Machine_begin_anew⟩
  obtain ⟨fd_Shop___init__, D_Shop___init__⟩ := c.def_ 20 (d := dd ("Shop", some "__init__") "__init__" "Shop.__init__" (inClass (top 35) 0)) rfl
  have b_Shop___init__ : Binds K fd_Shop___init__ ["self", "world", "anew"] [] := FunD.bindsN (ps := ["self", "world", "anew"]) D_Shop___init__ fun _ _ _ _ _ _ us hl => match us, hl with | [_, _, _], _ => rfl
  obtain ⟨fd_Shop_enter, D_Shop_enter⟩ := c.def_ 21 (d := dd ("Shop", some "enter") "enter" "Shop.enter" (inClass (top 35) 1)) rfl
  have b_Shop_enter : Binds K fd_Shop_enter ["self", "steps"] [] := FunD.bindsN (ps := ["self", "steps"]) D_Shop_enter fun _ _ _ _ _ _ us hl => match us, hl with | [_, _], _ => rfl
  have M_Shop_enter : Met K (He.ga K "Shop") "enter" (He.ma K (He.ga K "Shop") "enter") fd_Shop_enter ["self", "steps"] := ⟨He.cls_ok (c.fact 74 (f := .cls "Shop") rfl), He.meth_ok (c.fact 87 (f := .meth "Shop" "enter") rfl), b_Shop_enter⟩
  obtain ⟨fd_Shop_open_beat, D_Shop_open_beat⟩ := c.def_ 22 (d := dd ("Shop", some "open_beat") "open_beat" "Shop.open_beat" (inClass (top 35) 2)) rfl
  have b_Shop_open_beat : Binds K fd_Shop_open_beat ["self"] [] := FunD.bindsN (ps := ["self"]) D_Shop_open_beat fun _ _ _ _ _ _ us hl => match us, hl with | [_], _ => rfl
  have M_Shop_open_beat : Met K (He.ga K "Shop") "open_beat" (He.ma K (He.ga K "Shop") "open_beat") fd_Shop_open_beat ["self"] := ⟨He.cls_ok (c.fact 74 (f := .cls "Shop") rfl), He.meth_ok (c.fact 88 (f := .meth "Shop" "open_beat") rfl), b_Shop_open_beat⟩
  obtain ⟨fd_Shop_end_steps, D_Shop_end_steps⟩ := c.def_ 23 (d := dd ("Shop", some "end_steps") "end_steps" "Shop.end_steps" (inClass (top 35) 3)) rfl
  have b_Shop_end_steps : Binds K fd_Shop_end_steps ["self"] [] := FunD.bindsN (ps := ["self"]) D_Shop_end_steps fun _ _ _ _ _ _ us hl => match us, hl with | [_], _ => rfl
  have M_Shop_end_steps : Met K (He.ga K "Shop") "end_steps" (He.ma K (He.ga K "Shop") "end_steps") fd_Shop_end_steps ["self"] := ⟨He.cls_ok (c.fact 74 (f := .cls "Shop") rfl), He.meth_ok (c.fact 89 (f := .meth "Shop" "end_steps") rfl), b_Shop_end_steps⟩
  obtain ⟨fd_Shop_put_in, D_Shop_put_in⟩ := c.def_ 24 (d := dd ("Shop", some "put_in") "put_in" "Shop.put_in" (inClass (top 35) 4)) rfl
  have b_Shop_put_in : Binds K fd_Shop_put_in ["self", "many"] [] := FunD.bindsN (ps := ["self", "many"]) D_Shop_put_in fun _ _ _ _ _ _ us hl => match us, hl with | [_, _], _ => rfl
  have M_Shop_put_in : Met K (He.ga K "Shop") "put_in" (He.ma K (He.ga K "Shop") "put_in") fd_Shop_put_in ["self", "many"] := ⟨He.cls_ok (c.fact 74 (f := .cls "Shop") rfl), He.meth_ok (c.fact 90 (f := .meth "Shop" "put_in") rfl), b_Shop_put_in⟩
  obtain ⟨fd_Shop_begin, D_Shop_begin⟩ := c.def_ 25 (d := dd ("Shop", some "begin") "begin" "Shop.begin" (inClass (top 35) 5)) rfl
  have b_Shop_begin : Binds K fd_Shop_begin ["self", "machine"] [] := FunD.bindsN (ps := ["self", "machine"]) D_Shop_begin fun _ _ _ _ _ _ us hl => match us, hl with | [_, _], _ => rfl
  have M_Shop_begin : Met K (He.ga K "Shop") "begin" (He.ma K (He.ga K "Shop") "begin") fd_Shop_begin ["self", "machine"] := ⟨He.cls_ok (c.fact 74 (f := .cls "Shop") rfl), He.meth_ok (c.fact 91 (f := .meth "Shop" "begin") rfl), b_Shop_begin⟩
  obtain ⟨fd_Shop_close_beat, D_Shop_close_beat⟩ := c.def_ 26 (d := dd ("Shop", some "close_beat") "close_beat" "Shop.close_beat" (inClass (top 35) 6)) rfl
  have b_Shop_close_beat : Binds K fd_Shop_close_beat ["self"] [] := FunD.bindsN (ps := ["self"]) D_Shop_close_beat fun _ _ _ _ _ _ us hl => match us, hl with | [_], _ => rfl
  have M_Shop_close_beat : Met K (He.ga K "Shop") "close_beat" (He.ma K (He.ga K "Shop") "close_beat") fd_Shop_close_beat ["self"] := ⟨He.cls_ok (c.fact 74 (f := .cls "Shop") rfl), He.meth_ok (c.fact 92 (f := .meth "Shop" "close_beat") rfl), b_Shop_close_beat⟩
  obtain ⟨fd_Shop_waiting, D_Shop_waiting⟩ := c.def_ 27 (d := dd ("Shop", some "waiting") "waiting" "Shop.waiting" (inClass (top 35) 7)) rfl
  have b_Shop_waiting : Binds K fd_Shop_waiting ["self"] [] := FunD.bindsN (ps := ["self"]) D_Shop_waiting fun _ _ _ _ _ _ us hl => match us, hl with | [_], _ => rfl
  have M_Shop_waiting : Met K (He.ga K "Shop") "waiting" (He.ma K (He.ga K "Shop") "waiting") fd_Shop_waiting ["self"] := ⟨He.cls_ok (c.fact 74 (f := .cls "Shop") rfl), He.meth_ok (c.fact 93 (f := .meth "Shop" "waiting") rfl), b_Shop_waiting⟩
  obtain ⟨fd_Run___init__, D_Run___init__⟩ := c.def_ 28 (d := dd ("Run", some "__init__") "__init__" "Run.__init__" (inClass (top 36) 0)) rfl
  have b_Run___init__ : Binds K fd_Run___init__ ["self", "world", "rule", "anew"] [] := FunD.bindsN (ps := ["self", "world", "rule", "anew"]) D_Run___init__ fun _ _ _ _ _ _ us hl => match us, hl with | [_, _, _, _], _ => rfl
  obtain ⟨fd_Run_do_beat, D_Run_do_beat⟩ := c.def_ 29 (d := dd ("Run", some "do_beat") "do_beat" "Run.do_beat" (inClass (top 36) 1)) rfl
  have b_Run_do_beat : Binds K fd_Run_do_beat ["self"] [] := FunD.bindsN (ps := ["self"]) D_Run_do_beat fun _ _ _ _ _ _ us hl => match us, hl with | [_], _ => rfl
  have M_Run_do_beat : Met K (He.ga K "Run") "do_beat" (He.ma K (He.ga K "Run") "do_beat") fd_Run_do_beat ["self"] := ⟨He.cls_ok (c.fact 75 (f := .cls "Run") rfl), He.meth_ok (c.fact 94 (f := .meth "Run" "do_beat") rfl), b_Run_do_beat⟩
  obtain ⟨fd_Run_begin_steps, D_Run_begin_steps⟩ := c.def_ 30 (d := dd ("Run", some "begin_steps") "begin_steps" "Run.begin_steps" (inClass (top 36) 2)) rfl
  have b_Run_begin_steps : Binds K fd_Run_begin_steps ["self"] [] := FunD.bindsN (ps := ["self"]) D_Run_begin_steps fun _ _ _ _ _ _ us hl => match us, hl with | [_], _ => rfl
  have M_Run_begin_steps : Met K (He.ga K "Run") "begin_steps" (He.ma K (He.ga K "Run") "begin_steps") fd_Run_begin_steps ["self"] := ⟨He.cls_ok (c.fact 75 (f := .cls "Run") rfl), He.meth_ok (c.fact 95 (f := .meth "Run" "begin_steps") rfl), b_Run_begin_steps⟩
  obtain ⟨fd_checked_run, D_checked_run⟩ := c.def_ 32 (d := dd ("checked_run", none) "checked_run" "checked_run" (top 37)) rfl
  have b_checked_run : Binds K fd_checked_run ["world", "rule", "anew"] [] := FunD.bindsN (ps := ["world", "rule", "anew"]) D_checked_run fun _ _ _ _ _ _ us hl => match us, hl with | [_, _, _], _ => rfl
  have g_checked_run : mg "checked_run" = some (.ref (He.ga K "checked_run")) := He.glo_ok X G (c.fact 22 (f := .glo "checked_run") rfl)
  have C_checked_run : Cal K mg "checked_run" (He.ga K "checked_run") fd_checked_run ["world", "rule", "anew"] := ⟨g_checked_run, D_checked_run.kp, b_checked_run⟩
  obtain ⟨fd_judged, D_judged⟩ := c.def_ 33 (d := dd ("judged", none) "judged" "judged" (top 40)) rfl
  have b_judged : Binds K fd_judged ["world", "plan"] [] := FunD.bindsN (ps := ["world", "plan"]) D_judged fun _ _ _ _ _ _ us hl => match us, hl with | [_, _], _ => rfl
  have g_judged : mg "judged" = some (.ref (He.ga K "judged")) := He.glo_ok X G (c.fact 23 (f := .glo "judged") rfl)
  have C_judged : Cal K mg "judged" (He.ga K "judged") fd_judged ["world", "plan"] := ⟨g_judged, D_judged.kp, b_judged⟩
  obtain ⟨fd_can_begin, D_can_begin⟩ := c.def_ 34 (d := dd ("can_begin", none) "can_begin" "can_begin" (top 41)) rfl
  have b_can_begin : Binds K fd_can_begin ["shop", "row"] [] := FunD.bindsN (ps := ["shop", "row"]) D_can_begin fun _ _ _ _ _ _ us hl => match us, hl with | [_, _], _ => rfl
  have g_can_begin : mg "can_begin" = some (.ref (He.ga K "can_begin")) := He.glo_ok X G (c.fact 24 (f := .glo "can_begin") rfl)
  have C_can_begin : Cal K mg "can_begin" (He.ga K "can_begin") fd_can_begin ["shop", "row"] := ⟨g_can_begin, D_can_begin.kp, b_can_begin⟩
  obtain ⟨fd_has_begun_all, D_has_begun_all⟩ := c.def_ 35 (d := dd ("has_begun_all", none) "has_begun_all" "has_begun_all" (top 42)) rfl
  have b_has_begun_all : Binds K fd_has_begun_all ["machine"] [] := FunD.bindsN (ps := ["machine"]) D_has_begun_all fun _ _ _ _ _ _ us hl => match us, hl with | [_], _ => rfl
  have g_has_begun_all : mg "has_begun_all" = some (.ref (He.ga K "has_begun_all")) := He.glo_ok X G (c.fact 25 (f := .glo "has_begun_all") rfl)
  have C_has_begun_all : Cal K mg "has_begun_all" (He.ga K "has_begun_all") fd_has_begun_all ["machine"] := ⟨g_has_begun_all, D_has_begun_all.kp, b_has_begun_all⟩
  obtain ⟨fd_floors, D_floors⟩ := c.def_ 36 (d := dd ("floors", none) "floors" "floors" (top 43)) rfl
  have b_floors : Binds K fd_floors ["world"] [] := FunD.bindsN (ps := ["world"]) D_floors fun _ _ _ _ _ _ us hl => match us, hl with | [_], _ => rfl
  have g_floors : mg "floors" = some (.ref (He.ga K "floors")) := He.glo_ok X G (c.fact 26 (f := .glo "floors") rfl)
  have C_floors : Cal K mg "floors" (He.ga K "floors") fd_floors ["world"] := ⟨g_floors, D_floors.kp, b_floors⟩
  obtain ⟨fd_beats_to_refill, D_beats_to_refill⟩ := c.def_ 37 (d := dd ("beats_to_refill", none) "beats_to_refill" "beats_to_refill" (top 44)) rfl
  have b_beats_to_refill : Binds K fd_beats_to_refill ["lacks", "refill"] [] := FunD.bindsN (ps := ["lacks", "refill"]) D_beats_to_refill fun _ _ _ _ _ _ us hl => match us, hl with | [_, _], _ => rfl
  have g_beats_to_refill : mg "beats_to_refill" = some (.ref (He.ga K "beats_to_refill")) := He.glo_ok X G (c.fact 27 (f := .glo "beats_to_refill") rfl)
  have C_beats_to_refill : Cal K mg "beats_to_refill" (He.ga K "beats_to_refill") fd_beats_to_refill ["lacks", "refill"] := ⟨g_beats_to_refill, D_beats_to_refill.kp, b_beats_to_refill⟩
  obtain ⟨fd_need_of, D_need_of⟩ := c.def_ 38 (d := dd ("need_of", none) "need_of" "need_of" (top 46)) rfl
  have b_need_of : Binds K fd_need_of ["world", "machine"] [] := FunD.bindsN (ps := ["world", "machine"]) D_need_of fun _ _ _ _ _ _ us hl => match us, hl with | [_, _], _ => rfl
  have g_need_of : mg "need_of" = some (.ref (He.ga K "need_of")) := He.glo_ok X G (c.fact 28 (f := .glo "need_of") rfl)
  have C_need_of : Cal K mg "need_of" (He.ga K "need_of") fd_need_of ["world", "machine"] := ⟨g_need_of, D_need_of.kp, b_need_of⟩
  obtain ⟨fd_order, D_order⟩ := c.def_ 39 (d := dd ("order", none) "order" "order" (top 47)) rfl
  have b_order : Binds K fd_order ["world"] [] := FunD.bindsN (ps := ["world"]) D_order fun _ _ _ _ _ _ us hl => match us, hl with | [_], _ => rfl
  have g_order : mg "order" = some (.ref (He.ga K "order")) := He.glo_ok X G (c.fact 29 (f := .glo "order") rfl)
  have C_order : Cal K mg "order" (He.ga K "order") fd_order ["world"] := ⟨g_order, D_order.kp, b_order⟩
  obtain ⟨fd_least_start, D_least_start⟩ := c.def_ 40 (d := dd ("least_start", none) "least_start" "least_start" (top 48)) rfl
  have b_least_start : Binds K fd_least_start ["world"] [] := FunD.bindsN (ps := ["world"]) D_least_start fun _ _ _ _ _ _ us hl => match us, hl with | [_], _ => rfl
  have g_least_start : mg "least_start" = some (.ref (He.ga K "least_start")) := He.glo_ok X G (c.fact 30 (f := .glo "least_start") rfl)
  have C_least_start : Cal K mg "least_start" (He.ga K "least_start") fd_least_start ["world"] := ⟨g_least_start, D_least_start.kp, b_least_start⟩
  obtain ⟨fd_need_of_steps, D_need_of_steps⟩ := c.def_ 41 (d := dd ("need_of_steps", none) "need_of_steps" "need_of_steps" (top 49)) rfl
  have b_need_of_steps : Binds K fd_need_of_steps ["steps"] [] := FunD.bindsN (ps := ["steps"]) D_need_of_steps fun _ _ _ _ _ _ us hl => match us, hl with | [_], _ => rfl
  have g_need_of_steps : mg "need_of_steps" = some (.ref (He.ga K "need_of_steps")) := He.glo_ok X G (c.fact 31 (f := .glo "need_of_steps") rfl)
  have C_need_of_steps : Cal K mg "need_of_steps" (He.ga K "need_of_steps") fd_need_of_steps ["steps"] := ⟨g_need_of_steps, D_need_of_steps.kp, b_need_of_steps⟩
  obtain ⟨fd_least_of_turn, D_least_of_turn⟩ := c.def_ 42 (d := dd ("least_of_turn", none) "least_of_turn" "least_of_turn" (top 50)) rfl
  have b_least_of_turn : Binds K fd_least_of_turn ["needs", "turn"] [] := FunD.bindsN (ps := ["needs", "turn"]) D_least_of_turn fun _ _ _ _ _ _ us hl => match us, hl with | [_, _], _ => rfl
  have g_least_of_turn : mg "least_of_turn" = some (.ref (He.ga K "least_of_turn")) := He.glo_ok X G (c.fact 32 (f := .glo "least_of_turn") rfl)
  have C_least_of_turn : Cal K mg "least_of_turn" (He.ga K "least_of_turn") fd_least_of_turn ["needs", "turn"] := ⟨g_least_of_turn, D_least_of_turn.kp, b_least_of_turn⟩
  obtain ⟨fd_need_in_line, D_need_in_line⟩ := c.def_ 43 (d := dd ("need_in_line", none) "need_in_line" "need_in_line" (top 51)) rfl
  have b_need_in_line : Binds K fd_need_in_line ["needs"] [] := FunD.bindsN (ps := ["needs"]) D_need_in_line fun _ _ _ _ _ _ us hl => match us, hl with | [_], _ => rfl
  have g_need_in_line : mg "need_in_line" = some (.ref (He.ga K "need_in_line")) := He.glo_ok X G (c.fact 33 (f := .glo "need_in_line") rfl)
  have C_need_in_line : Cal K mg "need_in_line" (He.ga K "need_in_line") fd_need_in_line ["needs"] := ⟨g_need_in_line, D_need_in_line.kp, b_need_in_line⟩
  obtain ⟨fd_beats, D_beats⟩ := c.def_ 44 (d := dd ("beats", none) "beats" "beats" (top 54)) rfl
  have b_beats : Binds K fd_beats ["world", "rule", "many"] [] := FunD.bindsN (ps := ["world", "rule", "many"]) D_beats fun _ _ _ _ _ _ us hl => match us, hl with | [_, _, _], _ => rfl
  have g_beats : mg "beats" = some (.ref (He.ga K "beats")) := He.glo_ok X G (c.fact 34 (f := .glo "beats") rfl)
  have C_beats : Cal K mg "beats" (He.ga K "beats") fd_beats ["world", "rule", "many"] := ⟨g_beats, D_beats.kp, b_beats⟩
  obtain ⟨fd__law_mix, D__law_mix⟩ := c.def_ 45 (d := dd ("_law_mix", none) "_law_mix" "_law_mix" (top 56)) rfl
  have b__law_mix : Binds K fd__law_mix ["_law_script", "_law_seed"] [] := FunD.bindsN (ps := ["_law_script", "_law_seed"]) D__law_mix fun _ _ _ _ _ _ us hl => match us, hl with | [_, _], _ => rfl
  have g__law_mix : mg "_law_mix" = some (.ref (He.ga K "_law_mix")) := He.glo_ok X G (c.fact 35 (f := .glo "_law_mix") rfl)
  have C__law_mix : Cal K mg "_law_mix" (He.ga K "_law_mix") fd__law_mix ["_law_script", "_law_seed"] := ⟨g__law_mix, D__law_mix.kp, b__law_mix⟩
  obtain ⟨fd__law_next, D__law_next⟩ := c.def_ 46 (d := dd ("_law_next", none) "_law_next" "_law_next" (top 57)) rfl
  have b__law_next : Binds K fd__law_next ["_law_h", "_law_many"] [] := FunD.bindsN (ps := ["_law_h", "_law_many"]) D__law_next fun _ _ _ _ _ _ us hl => match us, hl with | [_, _], _ => rfl
  have g__law_next : mg "_law_next" = some (.ref (He.ga K "_law_next")) := He.glo_ok X G (c.fact 36 (f := .glo "_law_next") rfl)
  have C__law_next : Cal K mg "_law_next" (He.ga K "_law_next") fd__law_next ["_law_h", "_law_many"] := ⟨g__law_next, D__law_next.kp, b__law_next⟩
  obtain ⟨fd__law_world, D__law_world⟩ := c.def_ 47 (d := dd ("_law_world", none) "_law_world" "_law_world" (top 58)) rfl
  have b__law_world : Binds K fd__law_world ["_law_h", "_law_most", "_law_cap"] [] := FunD.bindsN (ps := ["_law_h", "_law_most", "_law_cap"]) D__law_world fun _ _ _ _ _ _ us hl => match us, hl with | [_, _, _], _ => rfl
  have g__law_world : mg "_law_world" = some (.ref (He.ga K "_law_world")) := He.glo_ok X G (c.fact 37 (f := .glo "_law_world") rfl)
  have C__law_world : Cal K mg "_law_world" (He.ga K "_law_world") fd__law_world ["_law_h", "_law_most", "_law_cap"] := ⟨g__law_world, D__law_world.kp, b__law_world⟩
  obtain ⟨fd__law_rule, D__law_rule⟩ := c.def_ 48 (d := dd ("_law_rule", none) "_law_rule" "_law_rule" (top 59)) rfl
  have b__law_rule : Binds K fd__law_rule ["_law_h"] [] := FunD.bindsN (ps := ["_law_h"]) D__law_rule fun _ _ _ _ _ _ us hl => match us, hl with | [_], _ => rfl
  have g__law_rule : mg "_law_rule" = some (.ref (He.ga K "_law_rule")) := He.glo_ok X G (c.fact 38 (f := .glo "_law_rule") rfl)
  have C__law_rule : Cal K mg "_law_rule" (He.ga K "_law_rule") fd__law_rule ["_law_h"] := ⟨g__law_rule, D__law_rule.kp, b__law_rule⟩
  obtain ⟨fd__law_kind, D__law_kind⟩ := c.def_ 49 (d := dd ("_law_kind", none) "_law_kind" "_law_kind" (top 60)) rfl
  have b__law_kind : Binds K fd__law_kind ["_law_call"] [] := FunD.bindsN (ps := ["_law_call"]) D__law_kind fun _ _ _ _ _ _ us hl => match us, hl with | [_], _ => rfl
  have g__law_kind : mg "_law_kind" = some (.ref (He.ga K "_law_kind")) := He.glo_ok X G (c.fact 39 (f := .glo "_law_kind") rfl)
  have C__law_kind : Cal K mg "_law_kind" (He.ga K "_law_kind") fd__law_kind ["_law_call"] := ⟨g__law_kind, D__law_kind.kp, b__law_kind⟩
  obtain ⟨fd_law, D_law⟩ := c.def_ 50 (d := dd ("law", none) "law" "law" (top 61)) rfl
  have b_law : Binds K fd_law ["_law_script"] [] := FunD.bindsN (ps := ["_law_script"]) D_law fun _ _ _ _ _ _ us hl => match us, hl with | [_], _ => rfl
  have g_law : mg "law" = some (.ref (He.ga K "law")) := He.glo_ok X G (c.fact 40 (f := .glo "law") rfl)
  have C_law : Cal K mg "law" (He.ga K "law") fd_law ["_law_script"] := ⟨g_law, D_law.kp, b_law⟩
  obtain ⟨fd_Run_enter, D_Run_enter⟩ := c.def_ 51 (d := dd ("Run", some "enter") "enter" "Shop.enter" (inClass (top 35) 1)) rfl
  have b_Run_enter : Binds K fd_Run_enter ["self", "steps"] [] := FunD.bindsN (ps := ["self", "steps"]) D_Run_enter fun _ _ _ _ _ _ us hl => match us, hl with | [_, _], _ => rfl
  have M_Run_enter : Met K (He.ga K "Run") "enter" (He.ma K (He.ga K "Run") "enter") fd_Run_enter ["self", "steps"] := ⟨He.cls_ok (c.fact 75 (f := .cls "Run") rfl), He.meth_ok (c.fact 97 (f := .meth "Run" "enter") rfl), b_Run_enter⟩
  obtain ⟨fd_Run_open_beat, D_Run_open_beat⟩ := c.def_ 52 (d := dd ("Run", some "open_beat") "open_beat" "Shop.open_beat" (inClass (top 35) 2)) rfl
  have b_Run_open_beat : Binds K fd_Run_open_beat ["self"] [] := FunD.bindsN (ps := ["self"]) D_Run_open_beat fun _ _ _ _ _ _ us hl => match us, hl with | [_], _ => rfl
  have M_Run_open_beat : Met K (He.ga K "Run") "open_beat" (He.ma K (He.ga K "Run") "open_beat") fd_Run_open_beat ["self"] := ⟨He.cls_ok (c.fact 75 (f := .cls "Run") rfl), He.meth_ok (c.fact 98 (f := .meth "Run" "open_beat") rfl), b_Run_open_beat⟩
  obtain ⟨fd_Run_end_steps, D_Run_end_steps⟩ := c.def_ 53 (d := dd ("Run", some "end_steps") "end_steps" "Shop.end_steps" (inClass (top 35) 3)) rfl
  have b_Run_end_steps : Binds K fd_Run_end_steps ["self"] [] := FunD.bindsN (ps := ["self"]) D_Run_end_steps fun _ _ _ _ _ _ us hl => match us, hl with | [_], _ => rfl
  have M_Run_end_steps : Met K (He.ga K "Run") "end_steps" (He.ma K (He.ga K "Run") "end_steps") fd_Run_end_steps ["self"] := ⟨He.cls_ok (c.fact 75 (f := .cls "Run") rfl), He.meth_ok (c.fact 99 (f := .meth "Run" "end_steps") rfl), b_Run_end_steps⟩
  obtain ⟨fd_Run_put_in, D_Run_put_in⟩ := c.def_ 54 (d := dd ("Run", some "put_in") "put_in" "Shop.put_in" (inClass (top 35) 4)) rfl
  have b_Run_put_in : Binds K fd_Run_put_in ["self", "many"] [] := FunD.bindsN (ps := ["self", "many"]) D_Run_put_in fun _ _ _ _ _ _ us hl => match us, hl with | [_, _], _ => rfl
  have M_Run_put_in : Met K (He.ga K "Run") "put_in" (He.ma K (He.ga K "Run") "put_in") fd_Run_put_in ["self", "many"] := ⟨He.cls_ok (c.fact 75 (f := .cls "Run") rfl), He.meth_ok (c.fact 100 (f := .meth "Run" "put_in") rfl), b_Run_put_in⟩
  obtain ⟨fd_Run_begin, D_Run_begin⟩ := c.def_ 55 (d := dd ("Run", some "begin") "begin" "Shop.begin" (inClass (top 35) 5)) rfl
  have b_Run_begin : Binds K fd_Run_begin ["self", "machine"] [] := FunD.bindsN (ps := ["self", "machine"]) D_Run_begin fun _ _ _ _ _ _ us hl => match us, hl with | [_, _], _ => rfl
  have M_Run_begin : Met K (He.ga K "Run") "begin" (He.ma K (He.ga K "Run") "begin") fd_Run_begin ["self", "machine"] := ⟨He.cls_ok (c.fact 75 (f := .cls "Run") rfl), He.meth_ok (c.fact 101 (f := .meth "Run" "begin") rfl), b_Run_begin⟩
  obtain ⟨fd_Run_close_beat, D_Run_close_beat⟩ := c.def_ 56 (d := dd ("Run", some "close_beat") "close_beat" "Shop.close_beat" (inClass (top 35) 6)) rfl
  have b_Run_close_beat : Binds K fd_Run_close_beat ["self"] [] := FunD.bindsN (ps := ["self"]) D_Run_close_beat fun _ _ _ _ _ _ us hl => match us, hl with | [_], _ => rfl
  have M_Run_close_beat : Met K (He.ga K "Run") "close_beat" (He.ma K (He.ga K "Run") "close_beat") fd_Run_close_beat ["self"] := ⟨He.cls_ok (c.fact 75 (f := .cls "Run") rfl), He.meth_ok (c.fact 102 (f := .meth "Run" "close_beat") rfl), b_Run_close_beat⟩
  obtain ⟨fd_Run_waiting, D_Run_waiting⟩ := c.def_ 57 (d := dd ("Run", some "waiting") "waiting" "Shop.waiting" (inClass (top 35) 7)) rfl
  have b_Run_waiting : Binds K fd_Run_waiting ["self"] [] := FunD.bindsN (ps := ["self"]) D_Run_waiting fun _ _ _ _ _ _ us hl => match us, hl with | [_], _ => rfl
  have M_Run_waiting : Met K (He.ga K "Run") "waiting" (He.ma K (He.ga K "Run") "waiting") fd_Run_waiting ["self"] := ⟨He.cls_ok (c.fact 75 (f := .cls "Run") rfl), He.meth_ok (c.fact 103 (f := .meth "Run" "waiting") rfl), b_Run_waiting⟩
  have B : Blt mg := ⟨He.free_ok X G (c.fact 45 (f := .free "len") rfl), He.free_ok X G (c.fact 46 (f := .free "list") rfl), He.free_ok X G (c.fact 47 (f := .free "tuple") rfl), He.free_ok X G (c.fact 48 (f := .free "max") rfl), He.free_ok X G (c.fact 49 (f := .free "min") rfl), He.free_ok X G (c.fact 50 (f := .free "range") rfl), He.free_ok X G (c.fact 51 (f := .free "sum") rfl), He.free_ok X G (c.fact 52 (f := .free "sorted") rfl), He.free_ok X G (c.fact 53 (f := .free "enumerate") rfl), He.free_ok X G (c.fact 54 (f := .free "zip") rfl), He.free_ok X G (c.fact 55 (f := .free "isinstance") rfl), He.free_ok X G (c.fact 56 (f := .free "int") rfl), He.free_ok X G (c.fact 57 (f := .free "str") rfl), He.free_ok X G (c.fact 58 (f := .free "bool") rfl), He.free_ok X G (c.fact 59 (f := .free "ValueError") rfl)⟩
  have Bany : mg "any" = none := He.free_ok X G (c.fact 60 (f := .free "any") rfl)
  have Ball : mg "all" = none := He.free_ok X G (c.fact 62 (f := .free "all") rfl)
  have Bdivmod : mg "divmod" = none := He.free_ok X G (c.fact 61 (f := .free "divmod") rfl)
  obtain ⟨xK, x0⟩ := He.ba x
  obtain ⟨xE, x0⟩ := He.ba x0
  obtain ⟨xT, x⟩ := He.ba x0
  obtain ⟨xR, y0⟩ := He.ba x
  obtain ⟨xM, y1⟩ := He.ba y0
  obtain ⟨xN, y2⟩ := He.ba y1
  obtain ⟨xS, y3⟩ := He.ba y2
  obtain ⟨xH, y4⟩ := He.ba y3
  have xP := y4
  have HM : ClsF K (He.ga K "Machine") mkeys := ⟨He.cls_ok (c.fact 73 (f := .cls "Machine") rfl), fun f hf => He.noat_ok (List.all_eq_true.mp xM f hf)⟩
  have HR : ClsF K (He.ga K "Run") rkeys := ⟨He.cls_ok (c.fact 75 (f := .cls "Run") rfl), fun f hf => He.noat_ok (List.all_eq_true.mp xN f hf)⟩
  have HS : ClsF K (He.ga K "Shop") rkeys := ⟨He.cls_ok (c.fact 74 (f := .cls "Shop") rfl), fun f hf => He.noat_ok (List.all_eq_true.mp xH f hf)⟩
  have gperm : mg "permutations" = some (.type "itertools.permutations") := PySem.W.mg_of X G (He.eqO_ok xP)
  obtain ⟨t_MOST_CAP, g_MOST_CAP⟩ := He.int_ok X G (c.fact 63 (f := .int "MOST_CAP" 99) rfl)
  obtain ⟨t_MOST_REFILL, g_MOST_REFILL⟩ := He.int_ok X G (c.fact 64 (f := .int "MOST_REFILL" 9) rfl)
  obtain ⟨t_MOST_MACHINES, g_MOST_MACHINES⟩ := He.int_ok X G (c.fact 65 (f := .int "MOST_MACHINES" 5) rfl)
  obtain ⟨t_MOST_STEPS, g_MOST_STEPS⟩ := He.int_ok X G (c.fact 66 (f := .int "MOST_STEPS" 6) rfl)
  obtain ⟨t_MOST_LONG, g_MOST_LONG⟩ := He.int_ok X G (c.fact 67 (f := .int "MOST_LONG" 9) rfl)
  obtain ⟨t_DRAW, g_DRAW⟩ := He.int_ok X G (c.fact 68 (f := .int "DRAW" 0) rfl)
  obtain ⟨t_LONG, g_LONG⟩ := He.int_ok X G (c.fact 69 (f := .int "LONG" 1) rfl)
  obtain ⟨t_BACK, g_BACK⟩ := He.int_ok X G (c.fact 70 (f := .int "BACK" 2) rfl)
  obtain ⟨t_MOST_ROWS, g_MOST_ROWS⟩ := He.int_ok X G (c.fact 71 (f := .int "MOST_ROWS" 500) rfl)
  obtain ⟨t_MOST_BEATS, g_MOST_BEATS⟩ := He.int_ok X G (c.fact 72 (f := .int "MOST_BEATS" 500) rfl)
  have CF_Shop___init__ : ClsFn K (He.ga K "Shop") "__init__" (He.ma K (He.ga K "Shop") "__init__") fd_Shop___init__ ["self", "world", "anew"] := clsFn_ok xS D_Shop___init__.kp b_Shop___init__
  have MK_Machine := He.mkr_ok (c.fact 76 (f := .mkr "Machine") rfl)
  have MKg_Machine : mg "Machine" = some (.ref (He.ga K "Machine")) := He.glo_ok X G (c.fact 41 (f := .glo "Machine") rfl)
  have MK_Shop := He.mkr_ok (c.fact 77 (f := .mkr "Shop") rfl)
  have MKg_Shop : mg "Shop" = some (.ref (He.ga K "Shop")) := He.glo_ok X G (c.fact 42 (f := .glo "Shop") rfl)
  have MK_Run := He.mkr_ok (c.fact 78 (f := .mkr "Run") rfl)
  have MKg_Run : mg "Run" = some (.ref (He.ga K "Run")) := He.glo_ok X G (c.fact 43 (f := .glo "Run") rfl)
  have gRIGHTS : mg "RIGHTS" = some (.ref (He.ga K "RIGHTS")) := He.glo_ok X G (c.fact 44 (f := .glo "RIGHTS") rfl)
  have tRIGHTS : ∀ H, SqT K H (He.ga K "RIGHTS") [.str "rank", .str "turns", .str "wait", .str "least"] := fun H => He.tupB_ok xR H
  have e := hfa.symm.trans g_law
  cases e
  obtain ⟨a0, o0, fd0, cL, Pt, t1, t2, t3, t4, t5, t6⟩ := hTab
  rw [g_law] at t1
  cases t1
  have FL : Fun K "law" "law" s_law (He.ga K "law") fd_law := funOf D_law
  obtain ⟨oc, od, kV, doc, pm, an, cdv, ct, osl, efd, lk, hcdK⟩ := FL.ex
  have g1 := X _ _ lk
  rw [g1] at t2
  cases t2
  cases t3
  have hcd : fd_law.code = .ref cL := t4
  have ecd : cdv = .ref cL := by have z := t4; rw [efd] at z; exact z
  have nP : K.lookup Pt = none := tab_none xT lk hcd hcdK X t5 ecd
  refine ⟨fd_law, [(cL, Pt)], LS (aLaw K Pt), fun p hp => by rw [List.mem_singleton.mp hp]; exact t6, fun p hp => by rw [List.mem_singleton.mp hp]; exact nP, fun p hp => by rw [List.mem_singleton.mp hp]; exact t5, fun s v => FunD.bindsA (ps := ["_law_script"]) D_law (fun _ _ _ _ _ _ us hl => match us, hl with | [_], _ => rfl) s [v] rfl, ?_, fun base _ _ TBh => ?_⟩
  · exact fun H a ns hl _ hH hS => ⟨fun _ F H => F = H, H, fun v _ => v = .bl true, Obr.hid_eq, rfl, ⟨a, ns, rfl, hS, hl, hH (cL, Pt) (List.mem_singleton_self _), fun _ => rfl⟩, fun v F' H' e r => r⟩
  have G_next := ok_next (P := P) (w := w) (K := K) (mg := mg) (base := base) (funOf D__law_next) B
  have G_mix := ok_mix (P := P) (w := w) (K := K) (mg := mg) (base := base) (funOf D__law_mix) B
  have G_rule := ok_rule (P := P) (w := w) (K := K) (mg := mg) (base := base) (funOf D__law_rule) B C__law_next G_next
  have G_world := ok_world (P := P) (w := w) (K := K) (mg := mg) (base := base) (funOf D__law_world) B C__law_next G_next
  have G_need_in_line := ok_need_in_line (P := P) (w := w) (K := K) (mg := mg) (base := base) (funOf D_need_in_line) B
  have G_need_of_steps := ok_need_of_steps (P := P) (w := w) (K := K) (mg := mg) (base := base) (funOf D_need_of_steps) B C_need_in_line G_need_in_line
  have G_least_of_turn := ok_least_of_turn (P := P) (w := w) (K := K) (mg := mg) (base := base) (funOf D_least_of_turn) B C_need_in_line G_need_in_line
  have G_m_is_done := ok_Machine_is_done (P := P) (w := w) (K := K) (mg := mg) (base := base) (funOf D_Machine_is_done) B HM
  have G_m_is_busy := ok_Machine_is_busy (P := P) (w := w) (K := K) (mg := mg) (base := base) (funOf D_Machine_is_busy) B HM
  have G_m_is_waiting := ok_Machine_is_waiting (P := P) (w := w) (K := K) (mg := mg) (base := base) (funOf D_Machine_is_waiting) B HM M_Machine_is_busy G_m_is_busy M_Machine_is_done G_m_is_done
  have G_m_need := ok_Machine_need (P := P) (w := w) (K := K) (mg := mg) (base := base) (funOf D_Machine_need) B HM g_DRAW
  have G_m_begin_step := ok_Machine_begin_step (P := P) (w := w) (K := K) (mg := mg) (base := base) (funOf D_Machine_begin_step) B HM g_LONG
  have G_m_end_step := ok_Machine_end_step (P := P) (w := w) (K := K) (mg := mg) (base := base) (funOf D_Machine_end_step) B HM g_BACK
  have G_m_begin_anew := ok_Machine_begin_anew (P := P) (w := w) (K := K) (mg := mg) (base := base) (funOf D_Machine_begin_anew) B HM
  have G_m_init := ok_Machine___init__ (P := P) (w := w) (K := K) (mg := mg) (base := base) (funOf D_Machine___init__) B HM
  have G_r_put_in := ok_Shop_put_in (P := P) (w := w) (K := K) (mg := mg) (base := base) (sh := false) (funOf D_Run_put_in) B HR
  have G_r_waiting := ok_Shop_waiting (P := P) (w := w) (K := K) (mg := mg) (base := base) (sh := false) (funOf D_Run_waiting) B HR M_Machine_is_waiting G_m_is_waiting
  have G_r_end_steps := ok_Shop_end_steps (P := P) (w := w) (K := K) (mg := mg) (base := base) (sh := false) (funOf D_Run_end_steps) B HR HM M_Run_put_in G_r_put_in M_Machine_end_step G_m_end_step M_Machine_is_done G_m_is_done M_Machine_begin_anew G_m_begin_anew
  have G_r_begin := ok_Shop_begin (P := P) (w := w) (K := K) (mg := mg) (base := base) (sh := false) (funOf D_Run_begin) B HR HM M_Machine_need G_m_need M_Machine_begin_step G_m_begin_step
  have G_r_close_beat := ok_Shop_close_beat (P := P) (w := w) (K := K) (mg := mg) (base := base) (sh := false) (funOf D_Run_close_beat) B HR HM
  have G_r_open_beat := ok_Shop_open_beat (P := P) (w := w) (K := K) (mg := mg) (base := base) (sh := false) (funOf D_Run_open_beat) B HR HM M_Run_end_steps G_r_end_steps M_Run_put_in G_r_put_in
  have G_r_enter1 := ok_Shop_enter (P := P) (w := w) (K := K) (mg := mg) (base := base) (sh := true) (funOf D_Run_enter) B HR HM MK_Machine G_m_init MKg_Machine b_Machine___init__
  have G_Shop___init__ := ok_Shop___init__ (P := P) (w := w) (K := K) (mg := mg) (base := base) (C := He.ga K "Run") (funOf D_Shop___init__) B HR HM M_Run_enter G_r_enter1
  have G_behind := ok_behind_first (P := P) (w := w) (K := K) (mg := mg) (base := base) (funOf D_behind_first) B
  have G_least := ok_least_first (P := P) (w := w) (K := K) (mg := mg) (base := base) (funOf D_least_first) B
  have G_in_turn := ok_in_turn (P := P) (w := w) (K := K) (mg := mg) (base := base) (funOf D_in_turn) B HM C_least_first G_least C_behind_first G_behind M_Machine_need G_m_need
  have G_r_begin_steps := ok_Run_begin_steps (P := P) (w := w) (K := K) (mg := mg) (base := base) (funOf D_Run_begin_steps) B HR HM M_Run_waiting G_r_waiting C_in_turn G_in_turn M_Machine_need G_m_need M_Run_begin G_r_begin
  have G_r_do_beat := ok_Run_do_beat (P := P) (w := w) (K := K) (mg := mg) (base := base) (funOf D_Run_do_beat) B HR HM M_Run_open_beat G_r_open_beat M_Run_begin_steps G_r_begin_steps M_Run_close_beat G_r_close_beat
  have G_r_init := ok_Run___init__ (P := P) (w := w) (K := K) (mg := mg) (base := base) (funOf D_Run___init__) B HR HM MKg_Shop CF_Shop___init__ G_Shop___init__
  have G_is_step := ok_is_step (P := P) (w := w) (K := K) (mg := mg) (base := base) (funOf D_is_step) B g_MOST_LONG
  have G_check_store := ok_check_store (P := P) (w := w) (K := K) (mg := mg) (base := base) (funOf D_check_store) B g_MOST_CAP g_MOST_REFILL
  have G_check_steps := ok_check_steps (P := P) (w := w) (K := K) (mg := mg) (base := base) (funOf D_check_steps) B g_MOST_STEPS C_is_step G_is_step
  have G_check_world := ok_check_world (P := P) (w := w) (K := K) (mg := mg) (base := base) (funOf D_check_world) B g_MOST_MACHINES C_check_store G_check_store C_check_steps G_check_steps
  have G_check_rule := ok_check_rule (P := P) (w := w) (K := K) (mg := mg) (base := base) (funOf D_check_rule) B gRIGHTS tRIGHTS
  have G_check_count := ok_check_count (P := P) (w := w) (K := K) (mg := mg) (base := base) (funOf D_check_count) B
  have G_need_of := ok_need_of (P := P) (w := w) (K := K) (mg := mg) (base := base) (funOf D_need_of) B C_check_world G_check_world C_need_of_steps G_need_of_steps C_check_count G_check_count
  have G_order := ok_order (P := P) (w := w) (K := K) (mg := mg) (base := base) (funOf D_order) B C_check_world G_check_world C_need_of_steps G_need_of_steps C_least_of_turn G_least_of_turn gperm
  have G_least_start := ok_least_start (P := P) (w := w) (K := K) (mg := mg) (base := base) (funOf D_least_start) B C_check_world G_check_world C_need_of_steps G_need_of_steps C_least_of_turn G_least_of_turn gperm
  have G_beats_to_refill := ok_beats_to_refill (P := P) (w := w) (K := K) (mg := mg) (base := base) (funOf D_beats_to_refill) B
  have G_floors := ok_floors (P := P) (w := w) (K := K) (mg := mg) (base := base) (funOf D_floors) B g_DRAW g_LONG g_BACK C_check_world G_check_world C_beats_to_refill G_beats_to_refill
  have G_s_put_in := ok_Shop_put_in (P := P) (w := w) (K := K) (mg := mg) (base := base) (sh := true) (funOf D_Shop_put_in) B HS
  have G_s_waiting := ok_Shop_waiting (P := P) (w := w) (K := K) (mg := mg) (base := base) (sh := true) (funOf D_Shop_waiting) B HS M_Machine_is_waiting G_m_is_waiting
  have G_s_end_steps := ok_Shop_end_steps (P := P) (w := w) (K := K) (mg := mg) (base := base) (sh := true) (funOf D_Shop_end_steps) B HS HM M_Shop_put_in G_s_put_in M_Machine_end_step G_m_end_step M_Machine_is_done G_m_is_done M_Machine_begin_anew G_m_begin_anew
  have G_s_begin := ok_Shop_begin (P := P) (w := w) (K := K) (mg := mg) (base := base) (sh := true) (funOf D_Shop_begin) B HS HM M_Machine_need G_m_need M_Machine_begin_step G_m_begin_step
  have G_s_close_beat := ok_Shop_close_beat (P := P) (w := w) (K := K) (mg := mg) (base := base) (sh := true) (funOf D_Shop_close_beat) B HS HM
  have G_s_open_beat := ok_Shop_open_beat (P := P) (w := w) (K := K) (mg := mg) (base := base) (sh := true) (funOf D_Shop_open_beat) B HS HM M_Shop_end_steps G_s_end_steps M_Shop_put_in G_s_put_in
  have G_s_enter := ok_Shop_enter (P := P) (w := w) (K := K) (mg := mg) (base := base) (sh := true) (funOf D_Shop_enter) B HS HM MK_Machine G_m_init MKg_Machine b_Machine___init__
  have G_s_init := ok_Shop___init__ (P := P) (w := w) (K := K) (mg := mg) (base := base) (C := He.ga K "Shop") (funOf D_Shop___init__) B HS HM M_Shop_enter G_s_enter
  have G_begun_all := ok_has_begun_all (P := P) (w := w) (K := K) (mg := mg) (base := base) (funOf D_has_begun_all) B HM M_Machine_is_busy G_m_is_busy M_Machine_is_done G_m_is_done
  have G_can_begin := ok_can_begin (P := P) (w := w) (K := K) (mg := mg) (base := base) (funOf D_can_begin) B HS HM Ball M_Machine_is_waiting G_m_is_waiting M_Machine_need G_m_need
  have G_judged := ok_judged (P := P) (w := w) (K := K) (mg := mg) (base := base) (funOf D_judged) B HS HM g_MOST_ROWS Ball C_check_world G_check_world MK_Shop G_s_init MKg_Shop b_Shop___init__ M_Shop_open_beat G_s_open_beat C_can_begin G_can_begin M_Shop_begin G_s_begin M_Shop_close_beat G_s_close_beat C_has_begun_all G_begun_all M_Machine_is_busy G_m_is_busy
  have G_checked_run := ok_checked_run (P := P) (w := w) (K := K) (mg := mg) (base := base) (funOf D_checked_run) B C_check_world G_check_world C_check_rule G_check_rule MK_Run G_r_init MKg_Run b_Run___init__
  have G_beats := ok_beats (P := P) (w := w) (K := K) (mg := mg) (base := base) (funOf D_beats) B HR HM g_MOST_BEATS C_checked_run G_checked_run C_check_count G_check_count M_Run_do_beat G_r_do_beat
  have G_r_enter := ok_Shop_enter (P := P) (w := w) (K := K) (mg := mg) (base := base) (sh := false) (funOf D_Run_enter) B HR HM MK_Machine G_m_init MKg_Machine b_Machine___init__
  have gc_BadStep : mg "BadStep" = some (.ref (He.ga K "BadStep")) := He.glo_ok X G (c.fact 2 (f := .glo "BadStep") rfl)
  have gc_BadPlan : mg "BadPlan" = some (.ref (He.ga K "BadPlan")) := He.glo_ok X G (c.fact 3 (f := .glo "BadPlan") rfl)
  have gc_NoMachine : mg "NoMachine" = some (.ref (He.ga K "NoMachine")) := He.glo_ok X G (c.fact 4 (f := .glo "NoMachine") rfl)
  have gc_BadDeed : mg "BadDeed" = some (.ref (He.ga K "BadDeed")) := He.glo_ok X G (c.fact 5 (f := .glo "BadDeed") rfl)
  have gc_BadText : mg "BadText" = some (.ref (He.ga K "BadText")) := He.glo_ok X G (c.fact 6 (f := .glo "BadText") rfl)
  have gc_BadStore : mg "BadStore" = some (.ref (He.ga K "BadStore")) := He.glo_ok X G (c.fact 7 (f := .glo "BadStore") rfl)
  have gc_BadRule : mg "BadRule" = some (.ref (He.ga K "BadRule")) := He.glo_ok X G (c.fact 8 (f := .glo "BadRule") rfl)
  have gc_BadCount : mg "BadCount" = some (.ref (He.ga K "BadCount")) := He.glo_ok X G (c.fact 9 (f := .glo "BadCount") rfl)
  have gc_TooMany : mg "TooMany" = some (.ref (He.ga K "TooMany")) := He.glo_ok X G (c.fact 10 (f := .glo "TooMany") rfl)
  have gc_BreathError : mg "BreathError" = some (.ref (He.ga K "BreathError")) := He.glo_ok X G (c.fact 11 (f := .glo "BreathError") rfl)
  have xm := He.exm_ok (c.fact 0 (f := .exm "BadPlan" "BreathError" true) rfl)
  have Bset : mg "set" = none := He.free_ok X G (c.fact 1 (f := .free "set") rfl)
  unfold kitBx at xK
  unfold excB at xE
  simp only [Bool.and_eq_true] at xK xE
  obtain ⟨⟨⟨⟨⟨⟨⟨⟨⟨⟨⟨⟨k1, k2⟩, k3⟩, k4⟩, k5⟩, k6⟩, k7⟩, k8⟩, k9⟩, k10⟩, k11⟩, k12⟩, k13⟩ := xK
  obtain ⟨⟨⟨⟨⟨⟨⟨e1, e2⟩, e3⟩, e4⟩, e5⟩, e6⟩, e7⟩, e8⟩ := xE
  have XC : ExcC K (He.ga K "BadPlan") := ⟨He.eqO_ok e1, He.eqO_ok e2, of_decide_eq_true e3, e4, He.eqO_ok e5, He.eqO_ok e6, of_decide_eq_true e7, of_decide_eq_true e8⟩
  have XfP : XfC K (He.ga K "BadPlan") := ⟨He.eqO_ok e1, He.eqO_ok e2, of_decide_eq_true e3, e4⟩
  obtain ⟨bx1, bx2⟩ := baseX_ok k12
  have kbP : KBinds K fd_BadPlan___init__ ["self", "beat"] ["beat"] self1 self1 := FunD.selfB D_BadPlan___init__ fun _ _ _ _ _ _ _ _ => rfl
  have okP := ok_BadPlan___init__ (P := P) (w := w) (K := K) (mg := mg) (base := base) (funOf D_BadPlan___init__) gc_BreathError bx1 bx2
  have XP := ownX_ok k11 gc_BadPlan kbP okP
  have G_judgedX := okX_judged (P := P) (w := w) (K := K) (mg := mg) (base := base) (funOf D_judged) B HS HM g_MOST_ROWS Ball C_check_world G_check_world MK_Shop G_s_init MKg_Shop b_Shop___init__ M_Shop_open_beat G_s_open_beat C_can_begin G_can_begin M_Shop_begin G_s_begin M_Shop_close_beat G_s_close_beat C_has_begun_all G_begun_all M_Machine_is_busy G_m_is_busy XP
  have G_kindP := gok_kindP (P := P) (w := w) (K := K) (mg := mg) (base := base) (kl := 7) (funOf D__law_kind) B C__law_kind gc_BadStep gc_BadPlan gc_NoMachine gc_BadDeed gc_BadText gc_BadStore gc_BadRule gc_BadCount gc_TooMany gc_BreathError (of_decide_eq_true k1) (of_decide_eq_true k2) (of_decide_eq_true k3) (of_decide_eq_true k4) (of_decide_eq_true k5) (of_decide_eq_true k6) (of_decide_eq_true k7) (of_decide_eq_true k8) (of_decide_eq_true k9) (of_decide_eq_true k10) xm XC XfP (XP.no) (He.eqO_ok k13)
  exact ok_law (P := P) (w := w) (K := K) (mg := mg) (base := base) (funOf D_law) B C__law_mix G_mix C__law_world G_world C__law_next G_next C__law_rule G_rule C_beats G_beats C_floors G_floors C_least_start G_least_start C_judged G_judged C_order G_order C_need_of G_need_of G_judgedX C__law_kind G_kindP (TBh (cL, Pt) (List.mem_singleton_self _)) hcd
end Obr
open PySem PySem.W PySem.Calls PyProof.Rows
theorem PySem.Challenge.cw_onebreath_k29_whole_machines_called_othe_holds : PySem.Challenge.rw_onebreath_k29_whole_machines_called_othe.Holds := by
  w_on; o_law
  refine HandSHeadRun.head_imp (r := OpenLaw.row PySem.Challenge.rw_onebreath_k29_whole_machines_called_othe) (q := view (OpenLaw.row PySem.Challenge.rw_onebreath_k29_whole_machines_called_othe).prog [0, 61]) (H := Obr.hk) (ob := Obr.ob) (M := 6000) (loose := Obr.loose) (d := HandSHeadRun.topDef (OpenLaw.row PySem.Challenge.rw_onebreath_k29_whole_machines_called_othe).prog 61) (kwd := []) Obr.ob_eq
    Obr.run (by kernel_rfl) (by kernel_rfl) (by kernel_rfl) (by rfl) (by first | assumption | decide +kernel) (by decide +kernel) ⟨rfl, rfl, rfl, rfl, rfl, by decide +kernel⟩ ?hw ?hc
  case hw => w_witness2
  case hc =>
    refine Obr.walk_ofTsG (l := PySem.Challenge.rw_onebreath_k29_whole_machines_called_othe) (n := 63) (k := 9) (x := "_law_script") (CX := fun _ => L2.CX0) rfl (by decide) (by kernel_rfl) ⟨rfl, by decide, by decide⟩ (by kernel_rfl) ?F (fun _ _ _ _ _ z => z)
    intro w mg fa h Y G hmg0 hTab
    obtain ⟨K, KX, c, x⟩ := Y
    have e : (HandSHeadRun.topDef (OpenLaw.row PySem.Challenge.rw_onebreath_k29_whole_machines_called_othe).prog 61).name = ("law" : PySem.Str) := by kernel_rfl
    rw [e] at hmg0 hTab
    exact ⟨K, KX, Obr.facts (P := (PySem.Challenge.rw_onebreath_k29_whole_machines_called_othe).prog) (w := w) KX G hmg0 c x hTab⟩
