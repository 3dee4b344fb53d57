import PyProof.Rows.All
import Wide.All
import OpenK.AllK
import Wide.FinOn
import HandS.ForMost
import HandS.Conv
import HandS.TupAny
import HandS.Wide
import HandS.TupLe
import HandS.Deep
import HandS.SetFor
import KE.GoesEnum
import HandS.Walk
import KE.GoesMore
import HandS.Zip
import HandS.Iter
import HandS.Style
import HandS.SortInts
import HandS.IsInst
import HandS.Head0
import HandS.Head1
import HandS.Head2
import HandS.Head3
import HandS.HeadEnd
import HandS.HeadHook1
import HandS.HeadHook2
import PySem.Challenge.RW_onebreath_k08_whole_orders_without_refil
set_option Elab.async false
set_option linter.all false
set_option maxRecDepth 100000
set_option maxHeartbeats 0
namespace Obr
open PySem L2

/-! ### 1. A heap F that is spoken of, and what is hidden of the true heap H: J s F H, s the state of what is hidden -/
structure Hid {S : Type} (J : S → Hp → Hp → Prop) : Prop where
  ex : ∀ {s F H}, J s F H → ∀ a o, F a = some o → H a = some o
  al : ∀ {s F H p o}, J s F H → H p = none → J s (upd F p o) (upd H p o)
  mu : ∀ {s F H a o o'}, J s F H → F a = some o → J s (upd F a o') (upd H a o')

section
variable {S : Type} {J : S → Hp → Hp → Prop}
theorem Hid.fresh (hd : Hid J) {s F H p} (j : J s F H) (h : H p = none) : F p = none := by
  cases e : F p with
  | none => rfl
  | some o =>
    rw [hd.ex j _ _ e] at h
    cases h
theorem Hid.sqL (hd : Hid J) {s F H} (j : J s F H) {K a xs} (h : SqL K F a xs) : SqL K H a xs := by
  rcases h with (h | ⟨o, h⟩) | h
  · exact Or.inl (Or.inl (hd.ex j _ _ h))
  · exact Or.inl (Or.inr ⟨o, hd.ex j _ _ h⟩)
  · exact Or.inr h
theorem Hid.sqT (hd : Hid J) {s F H} (j : J s F H) {K a xs} (h : SqT K F a xs) : SqT K H a xs := by
  rcases h with (h | ⟨o, h⟩) | h
  · exact Or.inl (Or.inl (hd.ex j _ _ h))
  · exact Or.inl (Or.inr ⟨o, hd.ex j _ _ h⟩)
  · exact Or.inr h
end
/-- nothing hidden -/
theorem hid_eq : Hid (fun (_ : Unit) F H => F = H) where
  ex := fun {s F H} j a o h => by cases j; exact h
  al := fun {s F H p o} j h => by cases j; rfl
  mu := fun {s F H a o o'} j h => by cases j; rfl

/-! ### 2. What a reading comes to, over F -/
def EW {S : Type} (J : S → Hp → Hp → Prop) (te : TE) (σ : L2.St) (s : S) (F : Hp) (R : V → S → Hp → Prop) : Prop :=
  ∀ H, J s F H → ∀ Q : VK, (∀ v s' F' H', J s' F' H' → R v s' F' → Q v H') → te σ H Q
def TW {S : Type} (J : S → Hp → Hp → Prop) (tt : TT) (σ : L2.St) (s : S) (F : Hp) (R : Bool → S → Hp → Prop) : Prop :=
  ∀ H, J s F H → ∀ Q : Bool → Hp → Prop, (∀ b s' F' H', J s' F' H' → R b s' F' → Q b H') → tt σ H Q
def AW {S : Type} (J : S → Hp → Hp → Prop) (ta : TA) (σ : L2.St) (s : S) (F : Hp) (R : List V → S → Hp → Prop) : Prop :=
  ∀ H, J s F H → ∀ Q : List V → Hp → Prop, (∀ vs s' F' H', J s' F' H' → R vs s' F' → Q vs H') → ta σ H Q
def OW {S : Type} (J : S → Hp → Hp → Prop) (to : TO) (σ : L2.St) (s : S) (F : Hp) (R : Option Int → S → Hp → Prop) : Prop :=
  ∀ H, J s F H → ∀ Q : Option Int → Hp → Prop, (∀ o s' F' H', J s' F' H' → R o s' F' → Q o H') → to σ H Q
/-- an operation on values -/
def RW {S : Type} (J : S → Hp → Hp → Prop) (r : R2) (x y : V) (s : S) (F : Hp) (R : V → S → Hp → Prop) : Prop :=
  ∀ H, J s F H → ∀ Q : VK, (∀ v s' F' H', J s' F' H' → R v s' F' → Q v H') → r x y H Q
def UW {S : Type} (J : S → Hp → Hp → Prop) (r : V → Hp → VK → Prop) (x : V) (s : S) (F : Hp) (R : V → S → Hp → Prop) : Prop :=
  ∀ H, J s F H → ∀ Q : VK, (∀ v s' F' H', J s' F' H' → R v s' F' → Q v H') → r x H Q
def CW {S : Type} (J : S → Hp → Hp → Prop) (r : List V → Hp → VK → Prop) (vs : List V) (s : S) (F : Hp) (R : V → S → Hp → Prop) : Prop :=
  ∀ H, J s F H → ∀ Q : VK, (∀ v s' F' H', J s' F' H' → R v s' F' → Q v H') → r vs H Q
def MW {S : Type} (J : S → Hp → Hp → Prop) (r : V → List V → Hp → VK → Prop) (x : V) (vs : List V) (s : S) (F : Hp) (R : V → S → Hp → Prop) : Prop :=
  ∀ H, J s F H → ∀ Q : VK, (∀ v s' F' H', J s' F' H' → R v s' F' → Q v H') → r x vs H Q
def GW {S : Type} (J : S → Hp → Hp → Prop) (g : TG) (x : V) (σ : L2.St) (s : S) (F : Hp) (N : L2.St → S → Hp → Prop) : Prop :=
  ∀ H, J s F H → ∀ Q : L2.St → Hp → Prop, (∀ σ' s' F' H', J s' F' H' → N σ' s' F' → Q σ' H') → g x σ H Q
def GsW {S : Type} (J : S → Hp → Hp → Prop) (g : TGs) (xs : List V) (σ : L2.St) (s : S) (F : Hp) (N : L2.St → S → Hp → Prop) : Prop :=
  ∀ H, J s F H → ∀ Q : L2.St → Hp → Prop, (∀ σ' s' F' H', J s' F' H' → N σ' s' F' → Q σ' H') → g xs σ H Q
/-- where a statement may go, over F -/
structure En (S : Type) where
  nx : L2.St → S → Hp → Prop
  rt : V → S → Hp → Prop
  bk : L2.St → S → Hp → Prop := fun _ _ _ => False
  ct : L2.St → S → Hp → Prop := fun _ _ _ => False
structure Lf {S : Type} (J : S → Hp → Hp → Prop) (D : En S) (D' : Ends) : Prop where
  nx : ∀ σ s F H, J s F H → D.nx σ s F → D'.nx σ H
  rt : ∀ v s F H, J s F H → D.rt v s F → D'.rt v H
  bk : ∀ σ s F H, J s F H → D.bk σ s F → D'.bk σ H
  ct : ∀ σ s F H, J s F H → D.ct σ s F → D'.ct σ H
def SW {S : Type} (J : S → Hp → Hp → Prop) (t : TS) (D : En S) (σ : L2.St) (s : S) (F : Hp) : Prop := ∀ H, J s F H → ∀ D' : Ends, Lf J D D' → t D' σ H

section
variable {S : Type} {J : S → Hp → Hp → Prop} {K : PySem.W.Frag} {σ : L2.St} {s : S} {F : Hp} {R : V → S → Hp → Prop} {ta tb te : TE} {tr : TA} {x y v : V}

theorem EW.imp {R' : V → S → Hp → Prop} (h : EW J te σ s F R) (i : ∀ v s' F', R v s' F' → R' v s' F') : EW J te σ s F R' := fun H j Q q => h H j Q fun v s' F' H' j' r => q v s' F' H' j' (i _ _ _ r)

/-! expressions -/
theorem ew_var {i : Nat} (h : σ[i]? = some (some v)) (k : R v s F) : EW J (tVar i) σ s F R := fun H j Q q => ⟨v, h, q v s F H j k⟩
theorem ew_c (k : R v s F) : EW J (tC v) σ s F R := fun H j Q q => q v s F H j k
theorem ew_op {r : R2} (h : EW J ta σ s F fun x s1 F1 => EW J tb σ s1 F1 fun y s2 F2 => RW J r x y s2 F2 R) : EW J (tOp r ta tb) σ s F R := fun H j Q q =>
  h H j _ fun x s1 F1 H1 j1 h1 => h1 H1 j1 _ fun y s2 F2 H2 j2 h2 => h2 H2 j2 Q q
theorem ew_un {r : V → Hp → VK → Prop} (h : EW J ta σ s F fun x s1 F1 => UW J r x s1 F1 R) : EW J (tUn r ta) σ s F R := fun H j Q q =>
  h H j _ fun x s1 F1 H1 j1 h1 => h1 H1 j1 Q q
theorem ew_cb {r : List V → Hp → VK → Prop} (h : AW J tr σ s F fun vs s1 F1 => CW J r vs s1 F1 R) : EW J (tCB r tr) σ s F R := fun H j Q q =>
  h H j _ fun vs s1 F1 H1 j1 h1 => h1 H1 j1 Q q
theorem aw_nil {R : List V → S → Hp → Prop} (k : R [] s F) : AW J tNil σ s F R := fun H j Q q => q [] s F H j k
theorem aw_cons {R : List V → S → Hp → Prop} (h : EW J te σ s F fun x s1 F1 => AW J tr σ s1 F1 fun vs s2 F2 => R (x :: vs) s2 F2) : AW J (tCons te tr) σ s F R := fun H j Q q =>
  h H j _ fun x s1 F1 H1 j1 h1 => h1 H1 j1 _ fun vs s2 F2 H2 j2 k => q _ _ _ _ j2 k
theorem ew_tup (hd : Hid J) (h : AW J tr σ s F fun vs s1 F1 => vs.length ≤ 100000 ∧ ∀ p, F1 p = none → R (.ref p) s1 (upd F1 p (.tup vs))) : EW J (tTup tr) σ s F R := fun H j Q q =>
  h H j _ fun vs s1 F1 H1 j1 k => ⟨Nat.le_trans k.1 (by decide), fun p hp => q _ _ _ _ (hd.al j1 hp) (k.2 p (hd.fresh j1 hp))⟩
theorem ew_lst (hd : Hid J) (h : AW J tr σ s F fun vs s1 F1 => vs.length ≤ 100000 ∧ ∀ p, F1 p = none → R (.ref p) s1 (upd F1 p (.lst vs))) : EW J (tLst tr) σ s F R := fun H j Q q =>
  h H j _ fun vs s1 F1 H1 j1 k => ⟨Nat.le_trans k.1 (by decide), fun p hp => q _ _ _ _ (hd.al j1 hp) (k.2 p (hd.fresh j1 hp))⟩
theorem ew_if {tt : TT} (h : TW J tt σ s F fun b s1 F1 => (b = true → EW J ta σ s1 F1 R) ∧ (b = false → EW J tb σ s1 F1 R)) : EW J (tIf tt ta tb) σ s F R := fun H j Q q =>
  h H j _ fun b s1 F1 H1 j1 k => by
    cases b with
    | true => exact k.1 rfl H1 j1 Q q
    | false => exact k.2 rfl H1 j1 Q q
theorem ew_and (h : EW J ta σ s F fun x s1 F1 => ∃ c, x = .bl c ∧ (c = true → EW J tb σ s1 F1 R) ∧ (c = false → R (.bl false) s1 F1)) : EW J (tAndV ta tb) σ s F R := fun H j Q q =>
  h H j _ fun x s1 F1 H1 j1 ⟨c, e, k1, k2⟩ => ⟨c, e, by
    cases c with
    | true => exact k1 rfl H1 j1 Q q
    | false => exact q _ _ _ _ j1 (k2 rfl)⟩
theorem ew_or (h : EW J ta σ s F fun x s1 F1 => ∃ c, x = .bl c ∧ (c = true → R (.bl true) s1 F1) ∧ (c = false → EW J tb σ s1 F1 R)) : EW J (tOrV ta tb) σ s F R := fun H j Q q =>
  h H j _ fun x s1 F1 H1 j1 ⟨c, e, k1, k2⟩ => ⟨c, e, by
    cases c with
    | true => exact q _ _ _ _ j1 (k1 rfl)
    | false => exact k2 rfl H1 j1 Q q⟩
theorem ew_not (h : EW J ta σ s F fun x s1 F1 => ∃ c, x = .bl c ∧ R (.bl (!c)) s1 F1) : EW J (tNotV ta) σ s F R := fun H j Q q =>
  h H j _ fun x s1 F1 H1 j1 ⟨c, e, k⟩ => ⟨c, e, q _ _ _ _ j1 k⟩
theorem ew_chain {r r' : R2} {tc : TE} (h : EW J ta σ s F fun x s1 F1 => EW J tb σ s1 F1 fun y s2 F2 => RW J r x y s2 F2 fun z s3 F3 => ∃ k, z = .bl k ∧ (k = true → EW J tc σ s3 F3 fun w s4 F4 => RW J r' y w s4 F4 R) ∧ (k = false → R (.bl false) s3 F3)) :
    EW J (tChain r r' ta tb tc) σ s F R := fun H j Q q =>
  h H j _ fun x s1 F1 H1 j1 h1 => h1 H1 j1 _ fun y s2 F2 H2 j2 h2 => h2 H2 j2 _ fun z s3 F3 H3 j3 ⟨k, e, k1, k2⟩ => ⟨k, e, by
    cases k with
    | true => exact k1 rfl H3 j3 _ fun w s4 F4 H4 j4 h4 => h4 H4 j4 Q q
    | false => exact q _ _ _ _ j3 (k2 rfl)⟩

/-! operations -/
theorem rw_I0 {g : Int → Int → V} {i k : Int} (h : R (g i k) s F) : RW J (rI0 g) (.int i) (.int k) s F R := fun H j Q q => ⟨i, k, rfl, rfl, q _ _ _ _ j h⟩
theorem rw_I {C : Int → Int → Prop} {g : Int → Int → V} {i k : Int} (c : C i k) (h : R (g i k) s F) : RW J (rI C g) (.int i) (.int k) s F R := fun H j Q q => ⟨i, k, rfl, rfl, c, q _ _ _ _ j h⟩
theorem uw_I {g : Int → V} {i : Int} (h : R (g i) s F) : UW J (rU g) (.int i) s F R := fun H j Q q => ⟨i, rfl, q _ _ _ _ j h⟩
theorem rw_eq (c : scal x y = true) (h : R (.bl (decide (x = y))) s F) : RW J rEq x y s F R := fun H j Q q => ⟨c, q _ _ _ _ j h⟩
theorem rw_ne (c : scal x y = true) (h : R (.bl (!decide (x = y))) s F) : RW J rNe x y s F R := fun H j Q q => ⟨c, q _ _ _ _ j h⟩
theorem rw_isN (h : R (.bl (decide (x = .non))) s F) : RW J (fun x y H Q => y = .non ∧ Q (.bl (decide (x = .non))) H) x .non s F R := fun H j Q q => ⟨rfl, q _ _ _ _ j h⟩
theorem rw_notN (h : R (.bl (!decide (x = .non))) s F) : RW J (fun x y H Q => y = .non ∧ Q (.bl (!decide (x = .non))) H) x .non s F R := fun H j Q q => ⟨rfl, q _ _ _ _ j h⟩
theorem rw_ixL (hd : Hid J) {p : Addr} {xs : List V} {i : Int} (l : SqL K F p xs) (a : atI xs i = some v) (h : R v s F) : RW J (rIxL K) (.ref p) (.int i) s F R := fun H j Q q => ⟨p, xs, i, v, rfl, rfl, hd.sqL j l, a, q _ _ _ _ j h⟩
theorem rw_ixT (hd : Hid J) {p : Addr} {xs : List V} {i : Int} (l : SqT K F p xs) (a : atI xs i = some v) (h : R v s F) : RW J (rIxT K) (.ref p) (.int i) s F R := fun H j Q q => ⟨p, xs, i, v, rfl, rfl, hd.sqT j l, a, q _ _ _ _ j h⟩
theorem rw_in (hd : Hid J) {p : Addr} {xs : List V} {neg : Bool} (l : SqL K F p xs ∨ SqT K F p xs) (c : flatV x = true) (a : xs.all flatV = true) (h : R (.bl (if neg then !inV x xs else inV x xs)) s F) : RW J (rIn K neg) x (.ref p) s F R :=
  fun H j Q q => ⟨p, xs, rfl, l.imp (hd.sqL j) (hd.sqT j), c, a, q _ _ _ _ j h⟩
theorem rw_cat (hd : Hid J) {l b : Addr} {xs zs : List V} (h1 : F l = some (.lst xs)) (h2 : F b = some (.lst zs)) (hl : xs.length + zs.length ≤ 100000) (h : ∀ p, F p = none → R (.ref p) s (upd F p (.lst (xs ++ zs)))) : RW J rCat (.ref l) (.ref b) s F R := fun H j Q q =>
  ⟨l, b, xs, zs, rfl, rfl, hd.ex j _ _ h1, hd.ex j _ _ h2, Nat.le_trans hl (by decide), fun p hp => q _ _ _ _ (hd.al j hp) (h p (hd.fresh j hp))⟩
theorem rw_rep (hd : Hid J) {l : Addr} {k : Int} {xs : List V} (h1 : F l = some (.lst xs)) (hk : -1000000 ≤ k ∧ k ≤ 1000000) (hl : xs.length * k.toNat ≤ 100000) (h : ∀ p, F p = none → R (.ref p) s (upd F p (.lst (List.replicate k.toNat xs).flatten))) : RW J rRep (.ref l) (.int k) s F R := fun H j Q q =>
  ⟨l, k, xs, rfl, rfl, hd.ex j _ _ h1, by omega, by omega, Nat.le_trans hl (by decide), fun p hp => q _ _ _ _ (hd.al j hp) (h p (hd.fresh j hp))⟩
/-! calls of built-ins -/
theorem cw_lenS (hd : Hid J) {p : Addr} {ys : List V} (l : SqL K F p ys ∨ SqT K F p ys) (h : R (.int ys.length) s F) : CW J (fun xs H Q => ∃ p ys, xs = [.ref p] ∧ (SqL K H p ys ∨ SqT K H p ys) ∧ Q (.int ys.length) H) [.ref p] s F R :=
  fun H j Q q => ⟨p, ys, rfl, l.imp (hd.sqL j) (hd.sqT j), q _ _ _ _ j h⟩
theorem cw_max2 {i k : Int} (h : R (.int (if k > i then k else i)) s F) : CW J (fun xs H Q => ∃ i j, xs = [.int i, .int j] ∧ Q (.int (if j > i then j else i)) H) [.int i, .int k] s F R := fun H j Q q => ⟨i, k, rfl, q _ _ _ _ j h⟩
theorem cw_min2 {i k : Int} (h : R (.int (if k < i then k else i)) s F) : CW J (fun xs H Q => ∃ i j, xs = [.int i, .int j] ∧ Q (.int (if j < i then j else i)) H) [.int i, .int k] s F R := fun H j Q q => ⟨i, k, rfl, q _ _ _ _ j h⟩
theorem cw_list (hd : Hid J) {p : Addr} {ys : List V} (l : SqL K F p ys ∨ SqT K F p ys) (h : ∀ a, F a = none → R (.ref a) s (upd F a (.lst ys))) : CW J (fun xs H Q => ∃ p ys, xs = [.ref p] ∧ (SqL K H p ys ∨ SqT K H p ys) ∧ ∀ l, H l = none → Q (.ref l) (upd H l (.lst ys))) [.ref p] s F R :=
  fun H j Q q => ⟨p, ys, rfl, l.imp (hd.sqL j) (hd.sqT j), fun a ha => q _ _ _ _ (hd.al j ha) (h a (hd.fresh j ha))⟩
theorem cw_tuple (hd : Hid J) {p : Addr} {ys : List V} (l : SqL K F p ys) (h : ∀ a, F a = none → R (.ref a) s (upd F a (.tup ys))) : CW J (fun xs H Q => ∃ p ys, xs = [.ref p] ∧ ((SqL K H p ys ∧ ∀ l, H l = none → Q (.ref l) (upd H l (.tup ys))) ∨ (SqT K H p ys ∧ Q (.ref p) H))) [.ref p] s F R :=
  fun H j Q q => ⟨p, ys, rfl, Or.inl ⟨hd.sqL j l, fun a ha => q _ _ _ _ (hd.al j ha) (h a (hd.fresh j ha))⟩⟩
theorem cw_sum (hd : Hid J) {a : Addr} {ns : List Int} (l : SqL K F a (ns.map V.int)) (h : R (.int ns.sum) s F) : CW J (rSum K) [.ref a] s F R := fun H j Q q => ⟨a, ns, rfl, hd.sqL j l, q _ _ _ _ j h⟩

/-! tests -/
variable {RB : Bool → S → Hp → Prop} {tA tB2 : TT}
theorem tw_test (h : EW J te σ s F fun x s1 F1 => ∃ b, x = .bl b ∧ RB b s1 F1) : TW J (tTest te) σ s F RB := fun H j Q q => h H j _ fun x s1 F1 H1 j1 ⟨b, e, k⟩ => ⟨b, e, q _ _ _ _ j1 k⟩
theorem tw_B (h : EW J te σ s F fun x s1 F1 => ∃ b, x = .bl b ∧ RB b s1 F1) : TW J (tB te) σ s F RB := fun H j Q q => h H j _ fun x s1 F1 H1 j1 ⟨b, e, k⟩ => ⟨b, e, q _ _ _ _ j1 k⟩
theorem tw_not (h : TW J tA σ s F fun b s1 F1 => RB (!b) s1 F1) : TW J (tNot tA) σ s F RB := fun H j Q q => h H j _ fun b s1 F1 H1 j1 k => q _ _ _ _ j1 k
theorem tw_and (h : TW J tA σ s F fun b s1 F1 => (b = true → TW J tB2 σ s1 F1 RB) ∧ (b = false → RB false s1 F1)) : TW J (tAnd tA tB2) σ s F RB := fun H j Q q =>
  h H j _ fun b s1 F1 H1 j1 k => by
    cases b with
    | true => exact k.1 rfl H1 j1 Q q
    | false => exact q _ _ _ _ j1 (k.2 rfl)
theorem tw_or (h : TW J tA σ s F fun b s1 F1 => (b = true → RB true s1 F1) ∧ (b = false → TW J tB2 σ s1 F1 RB)) : TW J (tOr tA tB2) σ s F RB := fun H j Q q =>
  h H j _ fun b s1 F1 H1 j1 k => by
    cases b with
    | true => exact q _ _ _ _ j1 (k.1 rfl)
    | false => exact k.2 rfl H1 j1 Q q
theorem tw_yes (k : RB true s F) : TW J tYes σ s F RB := fun H j Q q => q _ _ _ _ j k
/-- the truth of a list -/
theorem tw_truL (hd : Hid J) (h : EW J te σ s F fun x s1 F1 => ∃ a xs, x = .ref a ∧ SqL K F1 a xs ∧ RB (!xs.isEmpty) s1 F1) : TW J (fun σ H Q => te σ H fun x H' => ∃ k, TruV K x H' k ∧ Q k H') σ s F RB := fun H j Q q =>
  h H j _ fun x s1 F1 H1 j1 ⟨a, xs, e, l, k⟩ => ⟨_, by subst e; exact Or.inl ⟨xs, hd.sqL j1 l, rfl⟩, q _ _ _ _ j1 k⟩
theorem tw_truI (h : EW J te σ s F fun x s1 F1 => ∃ i, x = .int i ∧ RB (i != 0) s1 F1) : TW J (fun σ H Q => te σ H fun x H' => ∃ k, TruV K x H' k ∧ Q k H') σ s F RB := fun H j Q q =>
  h H j _ fun x s1 F1 H1 j1 ⟨i, e, k⟩ => ⟨_, by subst e; exact rfl, q _ _ _ _ j1 k⟩
theorem tw_truB (h : EW J te σ s F fun x s1 F1 => ∃ b, x = .bl b ∧ RB b s1 F1) : TW J (fun σ H Q => te σ H fun x H' => ∃ k, TruV K x H' k ∧ Q k H') σ s F RB := fun H j Q q =>
  h H j _ fun x s1 F1 H1 j1 ⟨i, e, k⟩ => ⟨_, by subst e; exact rfl, q _ _ _ _ j1 k⟩

/-! slices -/
theorem ow_none {R : Option Int → S → Hp → Prop} (k : R none s F) : OW J tNoPart σ s F R := fun H j Q q => q _ _ _ _ j k
theorem ow_some {R : Option Int → S → Hp → Prop} (h : EW J te σ s F fun x s1 F1 => ∃ i, x = .int i ∧ R (some i) s1 F1) : OW J (tPart te) σ s F R := fun H j Q q => h H j _ fun x s1 F1 H1 j1 ⟨i, e, k⟩ => ⟨i, e, q _ _ _ _ j1 k⟩
theorem ew_slL (hd : Hid J) {tl th : TO} (h : EW J te σ s F fun x s1 F1 => OW J tl σ s1 F1 fun lo s2 F2 => OW J th σ s2 F2 fun hi s3 F3 => ∃ a xs, x = .ref a ∧ SqL K F3 a xs ∧ ∀ p, F3 p = none → R (.ref p) s3 (upd F3 p (.lst (cutV xs lo hi)))) :
    EW J (tSl (rSlL K) te tl th) σ s F R := fun H j Q q => h H j _ fun x s1 F1 H1 j1 h1 => h1 H1 j1 _ fun lo s2 F2 H2 j2 h2 => h2 H2 j2 _ fun hi s3 F3 H3 j3 ⟨a, xs, e, l, k⟩ =>
  ⟨a, xs, e, hd.sqL j3 l, fun p hp => q _ _ _ _ (hd.al j3 hp) (k p (hd.fresh j3 hp))⟩
theorem ew_slT (hd : Hid J) {tl th : TO} (h : EW J te σ s F fun x s1 F1 => OW J tl σ s1 F1 fun lo s2 F2 => OW J th σ s2 F2 fun hi s3 F3 => ∃ a xs, x = .ref a ∧ SqT K F3 a xs ∧ (HT.sIx xs.length 0 lo = 0 ∧ HT.sIx xs.length xs.length hi = xs.length → R (.ref a) s3 F3) ∧
      (¬ (HT.sIx xs.length 0 lo = 0 ∧ HT.sIx xs.length xs.length hi = xs.length) → ∀ p, F3 p = none → R (.ref p) s3 (upd F3 p (.tup (cutV xs lo hi))))) :
    EW J (tSl (rSlA K) te tl th) σ s F R := fun H j Q q => h H j _ fun x s1 F1 H1 j1 h1 => h1 H1 j1 _ fun lo s2 F2 H2 j2 h2 => h2 H2 j2 _ fun hi s3 F3 H3 j3 ⟨a, xs, e, l, k1, k2⟩ =>
  ⟨a, xs, e, hd.sqT j3 l, fun c => q _ _ _ _ j3 (k1 c), fun c p hp => q _ _ _ _ (hd.al j3 hp) (k2 c p (hd.fresh j3 hp))⟩

/-! methods of built-ins: of a list -/
theorem ew_bmL (hd : Hid J) {r : V → List V → Hp → VK → Prop} (h : EW J te σ s F fun x s1 F1 => ∃ a xs, x = .ref a ∧ SqL K F1 a xs ∧ AW J tr σ s1 F1 fun vs s2 F2 => MW J r x vs s2 F2 R) : EW J (tBM K "list" r te tr) σ s F R := fun H j Q q =>
  h H j _ fun x s1 F1 H1 j1 ⟨a, xs, e, l, h1⟩ => ⟨by subst e; exact Or.inl ⟨rfl, xs, hd.sqL j1 l⟩, h1 H1 j1 _ fun vs s2 F2 H2 j2 h2 => h2 H2 j2 Q q⟩
theorem mw_append (hd : Hid J) {l : Addr} {xs : List V} (h1 : F l = some (.lst xs)) (hl : xs.length < 100000) (h : R .non s (upd F l (.lst (xs ++ [y])))) : MW J rAppend (.ref l) [y] s F R := fun H j Q q =>
  ⟨l, xs, y, rfl, rfl, hd.ex j _ _ h1, Nat.lt_of_lt_of_le hl (by decide), q _ _ _ _ (hd.mu j h1) h⟩
theorem mw_extend (hd : Hid J) {l b : Addr} {xs zs : List V} (h1 : F l = some (.lst xs)) (h2 : F b = some (.lst zs)) (hl : xs.length + zs.length ≤ 100000) (h : R .non s (upd F l (.lst (xs ++ zs)))) : MW J rExtend (.ref l) [.ref b] s F R := fun H j Q q =>
  ⟨l, b, xs, zs, rfl, rfl, hd.ex j _ _ h1, hd.ex j _ _ h2, Nat.le_trans hl (by decide), q _ _ _ _ (hd.mu j h1) h⟩

/-! statements -/
variable {D : En S} {t u : TS} {g : TG}
theorem sw_next (k : D.nx σ s F) : SW J tNext D σ s F := fun H j D' l => l.nx _ _ _ _ j k
theorem sw_seq (h : SW J t { D with nx := fun σ1 s1 F1 => SW J u D σ1 s1 F1 } σ s F) : SW J (tSeq t u) D σ s F := fun H j D' l =>
  h H j _ ⟨fun σ1 s1 F1 H1 j1 k => k H1 j1 D' l, l.rt, l.bk, l.ct⟩
theorem sw_break (k : D.bk σ s F) : SW J tBreak D σ s F := fun H j D' l => l.bk _ _ _ _ j k
theorem sw_cont (k : D.ct σ s F) : SW J tCont D σ s F := fun H j D' l => l.ct _ _ _ _ j k
theorem sw_drop (h : EW J te σ s F fun _ s1 F1 => D.nx σ s1 F1) : SW J (tDrop te) D σ s F := fun H j D' l => h H j _ fun _ s1 F1 H1 j1 k => l.nx _ _ _ _ j1 k
theorem sw_ret (h : EW J te σ s F D.rt) : SW J (tRet te) D σ s F := fun H j D' l => h H j _ fun v s1 F1 H1 j1 k => l.rt _ _ _ _ j1 k
theorem sw_retN (k : D.rt .non s F) : SW J tRetN D σ s F := fun H j D' l => l.rt _ _ _ _ j k
theorem sw_if {tc : TT} (h : TW J tc σ s F fun b s1 F1 => (b = true → SW J t D σ s1 F1) ∧ (b = false → SW J u D σ s1 F1)) : SW J (tIfS tc t u) D σ s F := fun H j D' l =>
  h H j _ fun b s1 F1 H1 j1 k => by
    cases b with
    | true => exact k.1 rfl H1 j1 D' l
    | false => exact k.2 rfl H1 j1 D' l
theorem sw_asg (h : EW J te σ s F fun x s1 F1 => GW J g x σ s1 F1 D.nx) : SW J (tAsg te g) D σ s F := fun H j D' l =>
  h H j _ fun x s1 F1 H1 j1 h1 => h1 H1 j1 _ fun σ2 s2 F2 H2 j2 k => l.nx _ _ _ _ j2 k
theorem sw_par {i k : Nat} {ta : TA} (h : AW J ta σ s F fun vs s1 F1 => ∃ v w, vs = [v, w] ∧ D.nx ((σ.set i (some v)).set k (some w)) s1 F1) : SW J (tPar i k ta) D σ s F := fun H j D' l =>
  h H j _ fun vs s1 F1 H1 j1 ⟨v, w, e, k⟩ => ⟨v, w, e, l.nx _ _ _ _ j1 k⟩
theorem sw_aug {i : Nat} {f : Int → Int → Int} {a : Int} (hx : σ[i]? = some (some (.int a))) (h : EW J te σ s F fun y s1 F1 => ∃ b, y = .int b ∧ D.nx (σ.set i (some (.int (f a b)))) s1 F1) : SW J (tAug i te (ipI f)) D σ s F := fun H j D' l =>
  ⟨.int a, hx, h H j _ fun y s1 F1 H1 j1 ⟨b, e, k⟩ => ⟨a, b, rfl, e, l.nx _ _ _ _ j1 k⟩⟩
variable {N : L2.St → S → Hp → Prop}
theorem gw_name {i : Nat} (k : N (σ.set i (some x)) s F) : GW J (gName i) x σ s F N := fun H j Q q => q _ _ _ _ j k
theorem gw_tup (hd : Hid J) {n : Nat} {ts : TGs} (h : ∃ a xs, x = .ref a ∧ SqT K F a xs ∧ xs.length = n ∧ GsW J ts xs σ s F N) : GW J (gTup K n ts) x σ s F N := fun H j Q q => by
  obtain ⟨a, xs, e, l, hn, h⟩ := h
  exact ⟨a, xs, e, hd.sqT j l, hn, h H j Q q⟩
theorem gsw_nil (k : N σ s F) : GsW J gNil [] σ s F N := fun H j Q q => ⟨rfl, q _ _ _ _ j k⟩
theorem gsw_cons {ts : TGs} {xs : List V} (h : GW J g x σ s F fun σ1 s1 F1 => GsW J ts xs σ1 s1 F1 N) : GsW J (gCons g ts) (x :: xs) σ s F N := fun H j Q q =>
  ⟨x, xs, rfl, h H j _ fun σ1 s1 F1 H1 j1 k => k H1 j1 Q q⟩
/-- xs[i] = e -/
theorem gw_subL (hd : Hid J) (h : EW J ta σ s F fun o s1 F1 => EW J tb σ s1 F1 fun i s2 F2 => ∃ p xs k j, o = .ref p ∧ i = .int k ∧ F2 p = some (.lst xs) ∧ ixN xs.length k = some j ∧ N σ s2 (upd F2 p (.lst (xs.set j x)))) : GW J (gSub ta tb rSetL) x σ s F N := fun H j Q q =>
  h H j _ fun o s1 F1 H1 j1 h1 => h1 H1 j1 _ fun i s2 F2 H2 j2 ⟨p, xs, k, jj, e1, e2, hp, hj, k2⟩ => ⟨p, xs, k, jj, e1, e2, hd.ex j2 _ _ hp, hj, q _ _ _ _ (hd.mu j2 hp) k2⟩

/-! loops -/
theorem sw_forR1 {ta : TA} (h : AW J ta σ s F fun vs s1 F1 => ∃ (n : Int) (Pv : Nat → L2.St → S → Hp → Prop), vs = [.int n] ∧ -1000000000 ≤ n ∧ n ≤ 1000000000 ∧ Pv 0 σ s1 F1 ∧
      (∀ (i : Nat) σ s F, (i : Int) < n → Pv i σ s F → GW J g (.int (i : Int)) σ s F fun σ s F => SW J t { D with nx := Pv (i + 1), ct := Pv (i + 1), bk := D.nx } σ s F) ∧ (∀ σ s F, Pv n.toNat σ s F → D.nx σ s F)) :
    SW J (tFor (iRng1 ta) g t) D σ s F := fun H j D' l =>
  h H j _ fun vs s1 F1 H1 j1 ⟨n, Pv, e, hn1, hn2, h0, hs, hdn⟩ => ⟨n, e, by omega, by omega, for_range (lo := 0) (n := n.toNat) (fun i σ H => ∃ s F, J s F H ∧ Pv i σ s F) ⟨s1, F1, j1, h0⟩
    (fun i σ' H' hi ⟨s', F', j', p⟩ => by
      have e0 : (0 : Int) + (i : Int) = (i : Int) := Int.zero_add _
      show g (.int ((0 : Int) + (i : Int))) σ' H' _
      rw [e0]
      exact hs i σ' s' F' (by omega) p H' j' _ fun σ2 s2 F2 H2 j2 k => k H2 j2 _ ⟨fun σ3 s3 F3 H3 j3 k3 => ⟨s3, F3, j3, k3⟩, l.rt, l.nx, fun σ3 s3 F3 H3 j3 k3 => ⟨s3, F3, j3, k3⟩⟩)
    (fun σ' H' ⟨s', F', j', p⟩ => l.nx _ _ _ _ j' (hdn σ' s' F' p))⟩
theorem sw_forL (hd : Hid J) (h : EW J te σ s F fun v s1 F1 => ∃ (a : Addr) (xs : List V) (Pv : Nat → L2.St → S → Hp → Prop), v = .ref a ∧ SqL K F1 a xs ∧ Pv 0 σ s1 F1 ∧ (∀ i σ s F, i ≤ xs.length → Pv i σ s F → SqL K F a xs) ∧
      (∀ (i : Nat) x σ s F, xs[i]? = some x → Pv i σ s F → GW J g x σ s F fun σ s F => SW J t { D with nx := Pv (i + 1), ct := Pv (i + 1), bk := D.nx } σ s F) ∧ (∀ σ s F, Pv xs.length σ s F → D.nx σ s F)) :
    SW J (tFor (iList K te) g t) D σ s F := fun H j D' l =>
  h H j _ fun v s1 F1 H1 j1 ⟨a, xs, Pv, e, l1, h0, hl, hs, hdn⟩ => ⟨a, e, ⟨xs, hd.sqL j1 l1⟩, for_list (xs := xs) (fun i σ H => ∃ s F, J s F H ∧ Pv i σ s F) ⟨s1, F1, j1, h0⟩
    (fun i σ' H' hi ⟨s', F', j', p⟩ => hd.sqL j' (hl i σ' s' F' hi p))
    (fun i x σ' H' hi ⟨s', F', j', p⟩ => hs i x σ' s' F' hi p H' j' _ fun σ2 s2 F2 H2 j2 k => k H2 j2 _ ⟨fun σ3 s3 F3 H3 j3 k3 => ⟨s3, F3, j3, k3⟩, l.rt, l.nx, fun σ3 s3 F3 H3 j3 k3 => ⟨s3, F3, j3, k3⟩⟩)
    (fun σ' H' ⟨s', F', j', p⟩ => l.nx _ _ _ _ j' (hdn σ' s' F' p))⟩
theorem sw_forT (hd : Hid J) (h : EW J te σ s F fun v s1 F1 => ∃ (a : Addr) (xs : List V) (Pv : Nat → L2.St → S → Hp → Prop), v = .ref a ∧ SqT K F1 a xs ∧ Pv 0 σ s1 F1 ∧ (∀ i σ s F, i ≤ xs.length → Pv i σ s F → SqT K F a xs) ∧
      (∀ (i : Nat) x σ s F, xs[i]? = some x → Pv i σ s F → GW J g x σ s F fun σ s F => SW J t { D with nx := Pv (i + 1), ct := Pv (i + 1), bk := D.nx } σ s F) ∧ (∀ σ s F, Pv xs.length σ s F → D.nx σ s F)) :
    SW J (tFor (iTup K te) g t) D σ s F := fun H j D' l =>
  h H j _ fun v s1 F1 H1 j1 ⟨a, xs, Pv, e, l1, h0, hl, hs, hdn⟩ => ⟨a, e, ⟨xs, hd.sqT j1 l1⟩, for_tup (xs := xs) (fun i σ H => ∃ s F, J s F H ∧ Pv i σ s F) ⟨s1, F1, j1, h0⟩
    (fun i σ' H' hi ⟨s', F', j', p⟩ => hd.sqT j' (hl i σ' s' F' hi p))
    (fun i x σ' H' hi ⟨s', F', j', p⟩ => hs i x σ' s' F' hi p H' j' _ fun σ2 s2 F2 H2 j2 k => k H2 j2 _ ⟨fun σ3 s3 F3 H3 j3 k3 => ⟨s3, F3, j3, k3⟩, l.rt, l.nx, fun σ3 s3 F3 H3 j3 k3 => ⟨s3, F3, j3, k3⟩⟩)
    (fun σ' H' ⟨s', F', j', p⟩ => l.nx _ _ _ _ j' (hdn σ' s' F' p))⟩
theorem sw_while {tc : TT} (Pv : Nat → L2.St → S → Hp → Prop) (m0 : Nat) (h0 : Pv m0 σ s F)
    (hs : ∀ m σ s F, Pv m σ s F → TW J tc σ s F fun b s1 F1 => (b = true → SW J t { D with nx := fun σ2 s2 F2 => ∃ m', m' < m ∧ Pv m' σ2 s2 F2, ct := fun σ2 s2 F2 => ∃ m', m' < m ∧ Pv m' σ2 s2 F2, bk := D.nx } σ s1 F1) ∧ (b = false → D.nx σ s1 F1)) :
    SW J (tWhile tc t) D σ s F := fun H j D' l =>
  ⟨fun m σ H => ∃ s F, J s F H ∧ Pv m σ s F, ⟨m0, s, F, j, h0⟩, fun m σ' H' ⟨s', F', j', p⟩ => hs m σ' s' F' p H' j' _ fun b s1 F1 H1 j1 k => by
    cases b with
    | true =>
      show ∃ N : L2.St → Hp → Prop, _
      exact ⟨fun σ2 H2 => ∃ m', m' < m ∧ ∃ s F, J s F H2 ∧ Pv m' σ2 s F, fun σ2 H2 n => n, k.1 rfl H1 j1 _ ⟨fun σ3 s3 F3 H3 j3 ⟨m', hm, k3⟩ => ⟨m', hm, s3, F3, j3, k3⟩, l.rt, l.nx, fun σ3 s3 F3 H3 j3 ⟨m', hm, k3⟩ => ⟨m', hm, s3, F3, j3, k3⟩⟩⟩
    | false =>
      show D'.nx σ' H1
      exact l.nx _ _ _ _ j1 (k.2 rfl)⟩
end
end Obr
namespace Obr
open PySem L2

/-- the built-ins that no module of the text hides -/
structure Blt (mg : Str → Option Value) : Prop where
  len : mg "len" = none
  list : mg "list" = none
  tuple : mg "tuple" = none
  max : mg "max" = none
  min : mg "min" = none
  range : mg "range" = none
  sum : mg "sum" = none
  sorted : mg "sorted" = none
  enumerate : mg "enumerate" = none
  zip : mg "zip" = none
  isinstance : mg "isinstance" = none
  int : mg "int" = none
  str : mg "str" = none
  bool : mg "bool" = none
  verr : mg "ValueError" = none
/-- a def that is called by its name -/
structure Cal (K : PySem.W.Frag) (mg : Str → Option Value) (x : Str) (f : Addr) (fd : FuncData) (ps : List Str) : Prop where
  g : mg x = some (.ref f)
  k : PySem.W.keepIn K (.ref f) = true
  a : Binds K fd ps []


/-- G knows all that F knows -/
def Ex (F G : Hp) : Prop := ∀ a o, F a = some o → G a = some o
theorem Ex.refl (F : Hp) : Ex F F := fun _ _ e => e
theorem Ex.trans {F G H : Hp} (a : Ex F G) (b : Ex G H) : Ex F H := fun x o e => b x o (a x o e)
theorem Ex.new {F G : Hp} {p : Addr} {u : HO} (g : Ex F G) (h : G p = none) : Ex F (upd G p u) := fun a o e => by
  rw [upd_ne (ne_of_none (g a o e) h)]
  exact g a o e
theorem Ex.out {F G : Hp} {p : Addr} {u : HO} (g : Ex F G) (h : F p = none) : Ex F (L2.upd G p u) := fun a o e => by
  rw [upd_ne (ne_of_none e h)]
  exact g a o e
theorem Ex.upd {F G : Hp} {p : Addr} {u : HO} (g : Ex F G) : Ex (L2.upd F p u) (L2.upd G p u) := fun a o e => by
  by_cases c : a = p
  · subst c; rw [upd_same] at e ⊢; exact e
  · rw [upd_ne c] at e ⊢; exact g a o e
theorem Ex.free {F G : Hp} {p : Addr} (g : Ex F G) (h : G p = none) : F p = none := by
  cases e : F p with
  | none => rfl
  | some o =>
    rw [g p o e] at h
    cases h
theorem Ex.sqL {F G : Hp} (g : Ex F G) {K a xs} (h : SqL K F a xs) : SqL K G a xs := by
  rcases h with (h | ⟨o, h⟩) | h
  · exact Or.inl (Or.inl (g _ _ h))
  · exact Or.inl (Or.inr ⟨o, g _ _ h⟩)
  · exact Or.inr h
theorem Ex.sqT {F G : Hp} (g : Ex F G) {K a xs} (h : SqT K F a xs) : SqT K G a xs := by
  rcases h with (h | ⟨o, h⟩) | h
  · exact Or.inl (Or.inl (g _ _ h))
  · exact Or.inl (Or.inr ⟨o, g _ _ h⟩)
  · exact Or.inr h

/-! ### promises over F, whatever is hidden -/
def LS (A : List V → Hp → VK → Prop) : Sp := fun vs H Q _ => ∃ (J : Unit → Hp → Hp → Prop) (F : Hp) (R : VK), Hid J ∧ J () F H ∧ A vs F R ∧ ∀ v F' H', J () F' H' → R v F' → Q v H'
theorem LS.body {J : Unit → Hp → Hp → Prop} {F H : Hp} {R Q : VK} {t : TS} {σ : L2.St} (j : J () F H) (q : ∀ v F' H', J () F' H' → R v F' → Q v H')
    (h : SW J t { nx := fun _ _ F => R .non F, rt := fun v _ F => R v F } σ () F) : t { nx := fun _ H' => Q .non H', rt := Q } σ H :=
  h H j _ ⟨fun _ _ _ _ j k => q _ _ _ j k, fun _ _ _ _ j k => q _ _ _ j k, fun _ _ _ _ _ k => k.elim, fun _ _ _ _ _ k => k.elim⟩
theorem Hid.unit {S : Type} {J : S → Hp → Hp → Prop} (hd : Hid J) (s : S) : Hid (fun (_ : Unit) F H => J s F H) where
  ex := fun {_ _ _} j => hd.ex j
  al := fun {_ _ _ _ _} j => hd.al j
  mu := fun {_ _ _ _ _ _} j => hd.mu j
section
variable {S : Type} {J : S → Hp → Hp → Prop} {σ : L2.St} {s : S} {F : Hp} {R : V → S → Hp → Prop} {tr : TA} {A : List V → Hp → VK → Prop} {E : XK}
theorem ew_call (hd : Hid J) (h : AW J tr σ s F fun vs s1 F1 => A vs F1 fun v F' => R v s1 F') : EW J (tCall (LS A) [] E tr) σ s F R := fun H j Q q =>
  h H j _ fun vs s1 F1 H1 j1 a => by
    show LS A (vs ++ []) H1 Q E
    rw [List.append_nil]
    exact ⟨_, F1, _, hd.unit s1, j1, a, fun v F' H' j' r => q v s1 F' H' j' r⟩
end

/-! ### forgetting: G knows more than F -/
def GJ {S : Type} (J : S → Hp → Hp → Prop) : S → Hp → Hp → Prop := fun s F H => ∃ G, (∀ a o, F a = some o → G a = some o) ∧ J s G H
theorem Hid.gj {S : Type} {J : S → Hp → Hp → Prop} (hd : Hid J) : Hid (GJ J) where
  ex := fun {s F H} ⟨G, g, j⟩ a o h => hd.ex j a o (g a o h)
  al := fun {s F H p o} ⟨G, g, j⟩ h => ⟨upd G p o, fun a u e => by
    by_cases c : a = p
    · subst c; rw [upd_same] at e ⊢; exact e
    · rw [upd_ne c] at e ⊢; exact g a u e, hd.al j h⟩
  mu := fun {s F H a o o'} ⟨G, g, j⟩ h => ⟨upd G a o', fun b u e => by
    by_cases c : b = a
    · subst c; rw [upd_same] at e ⊢; exact e
    · rw [upd_ne c] at e ⊢; exact g b u e, hd.mu j (g _ _ h)⟩
theorem gj_of {S : Type} {J : S → Hp → Hp → Prop} {s : S} {F H : Hp} (j : J s F H) : GJ J s F H := ⟨F, fun _ _ e => e, j⟩
theorem gj_less {S : Type} {J : S → Hp → Hp → Prop} {s : S} {F F0 H : Hp} (j : GJ J s F H) (h : ∀ a o, F0 a = some o → F a = some o) : GJ J s F0 H := by
  obtain ⟨G, g, j⟩ := j
  exact ⟨G, fun a o e => g a o (h a o e), j⟩
/-! ### what is drawn from, hidden: the list at h (a number, the cells at c, a place) -/
def hL (c : Addr) (m p : Int) : HO := .lst [.int m, .ref c, .int p]
def cL (cells : List Int) : HO := .lst (cells.map V.int)
def HJ (h c : Addr) {S : Type} (J : S → Hp → Hp → Prop) : S → Hp → Hp → Prop := fun s F H =>
  ∃ (G : Hp) (m p : Int) (cells : List Int), Ex F G ∧ F h = none ∧ F c = none ∧ 0 ≤ m ∧ m < 2147483647 ∧ 0 ≤ p ∧ cells.length ≤ 63 ∧ G h = some (hL c m p) ∧ G c = some (cL cells) ∧ J s G H
theorem Hid.hj {h c : Addr} {S : Type} {J : S → Hp → Hp → Prop} (hd : Hid J) : Hid (HJ h c J) where
  ex := fun {s F H} ⟨G, m, p, cells, g, _, _, _, _, _, _, _, _, j⟩ a o e => hd.ex j a o (g a o e)
  al := fun {s F H p' o} ⟨G, m, p, cells, g, fh, fc, m0, m1, p0, l, gh, gc, j⟩ hp => by
    have e1 := hd.fresh j hp
    have pc : c ≠ p' := ne_of_none gc e1
    have ph : h ≠ p' := ne_of_none gh e1
    exact ⟨upd G p' o, m, p, cells, g.upd, by rw [upd_ne ph]; exact fh, by rw [upd_ne pc]; exact fc, m0, m1, p0, l, by rw [upd_ne ph]; exact gh, by rw [upd_ne pc]; exact gc, hd.al j hp⟩
  mu := fun {s F H a o o'} ⟨G, m, p, cells, g, fh, fc, m0, m1, p0, l, gh, gc, j⟩ e => by
    have pc : c ≠ a := fun q => by rw [q, e] at fc; cases fc
    have ph : h ≠ a := fun q => by rw [q, e] at fh; cases fh
    exact ⟨upd G a o', m, p, cells, g.upd, by rw [upd_ne ph]; exact fh, by rw [upd_ne pc]; exact fc, m0, m1, p0, l, by rw [upd_ne ph]; exact gh, by rw [upd_ne pc]; exact gc, hd.mu j (g _ _ e)⟩
/-- a promise of a def whose first argument is what is drawn from -/
def LN (A : List V → Hp → VK → Prop) : Sp := fun vs H Q _ => ∃ (h c : Addr) (J : Unit → Hp → Hp → Prop) (F : Hp) (R : VK) (ws : List V), Hid J ∧ vs = .ref h :: ws ∧ HJ h c J () F H ∧ A ws F R ∧ ∀ v F' H', HJ h c J () F' H' → R v F' → Q v H'
section
variable {S : Type} {J : S → Hp → Hp → Prop} {h c : Addr} {σ : L2.St} {s : S} {F : Hp} {R : V → S → Hp → Prop} {tr : TA} {A : List V → Hp → VK → Prop} {E : XK}
theorem ew_draw (hd : Hid J) (k : AW (HJ h c J) tr σ s F fun vs s1 F1 => ∃ ws, vs = .ref h :: ws ∧ A ws F1 fun v F' => R v s1 F') : EW (HJ h c J) (tCall (LN A) [] E tr) σ s F R := fun H j Q q =>
  k H j _ fun vs s1 F1 H1 j1 ⟨ws, e, a⟩ => by
    show LN A (vs ++ []) H1 Q E
    rw [List.append_nil]
    exact ⟨h, c, fun _ F H => J s1 F H, F1, _, ws, hd.unit s1, e, j1, a, fun v F' H' j' r => q v s1 F' H' j' r⟩
end

/-! ### the promises -/
/-- _law_mix -/
def aMix (K : PySem.W.Frag) : List V → Hp → VK → Prop := fun vs F R => ∃ (a : Addr) (ns : List Int) (z : Int), vs = [.ref a, .int z] ∧ SqL K F a (ns.map V.int) ∧ 0 ≤ z ∧ z < 2147483647 ∧
  ∀ (m : Int) (c h : Addr), 0 ≤ m → m < 2147483647 → F c = none → F h = none → c ≠ h → R (.ref h) (L2.upd (L2.upd F c (cL ns)) h (hL c m 0))
/-- _law_next -/
def aNext : List V → Hp → VK → Prop := fun ws F R => ∃ n : Int, ws = [.int n] ∧ 0 < n ∧ n ≤ 10000000000000 ∧ ∀ r : Int, 0 ≤ r → r < n → R (.int r) F
end Obr
namespace Obr
open PySem L2
theorem at_ints {ns : List Int} {i : Int} (h0 : 0 ≤ i) (h1 : i < ns.length) : atI (ns.map V.int) i = some (V.int (ns.getD i.toNat 0)) := by
  obtain ⟨j, rfl⟩ : ∃ j : Nat, i = (j : Int) := ⟨i.toNat, by omega⟩
  have hj : j < ns.length := by omega
  refine atI_nat (j := j) ?_
  rw [List.getElem?_map, List.getElem?_eq_getElem hj]
  simp [List.getD, List.getElem?_eq_getElem hj]
theorem ixN_of {n : Nat} {i : Int} (h0 : 0 ≤ i) (h1 : i < n) : ixN n i = some i.toNat := by
  unfold ixN
  rw [if_pos h0, if_pos h1]
theorem map_set_int (ns : List Int) (j : Nat) (z : Int) : (ns.map V.int).set j (V.int z) = (ns.set j z).map V.int := by
  rw [List.map_set]
end Obr
namespace Obr
open PySem L2
theorem sw_mid {S : Type} {J : S → Hp → Hp → Prop} {t : TS} {D : En S} {σ : L2.St} {s : S} {F : Hp} (Mid : L2.St → S → Hp → Prop) (h1 : SW J t { D with nx := Mid } σ s F) (h2 : ∀ σ s F, Mid σ s F → D.nx σ s F) : SW J t D σ s F := fun H j D' l =>
  h1 H j D' ⟨fun σ s F H j k => l.nx σ s F H j (h2 σ s F k), l.rt, l.bk, l.ct⟩
end Obr
namespace Obr
open PySem L2

/-! ### data as a whole, kept by whatever grows -/
mutual
theorem dp_ex {K : PySem.W.Frag} {F G : Hp} (g : Ex F G) : ∀ {d : PyData} {v : V}, Dp K F v d → Dp K G v d
  | .none, _, h => by cases h; exact .non
  | .bool b, _, h => by cases h; exact .bl b
  | .int i, _, h => by cases h; exact .int i
  | .str x, _, h => by cases h; exact .str x
  | .list ds, _, h => by
    cases h with
    | lst hs ha => exact .lst (g.sqL hs) (dps_ex g ha)
  | .tuple ds, _, h => by
    cases h with
    | tup hs ha => exact .tup (g.sqT hs) (dps_ex g ha)
  | .dict _, _, h => by cases h
theorem dps_ex {K : PySem.W.Frag} {F G : Hp} (g : Ex F G) : ∀ {ds : List PyData} {vs : List V}, DpAll K F vs ds → DpAll K G vs ds
  | [], _, h => by cases h; exact .nil
  | d :: ds, _, h => by
    cases h with
    | cons h1 h2 => exact .cons (dp_ex g h1) (dps_ex g h2)
end
section
variable {K : PySem.W.Frag} {F : Hp}
theorem dps_len {vs : List V} {ds : List PyData} : DpAll K F vs ds → vs.length = ds.length := by
  induction ds generalizing vs with
  | nil => intro h; cases h; rfl
  | cons d ds ih => intro h; cases h with
    | cons h1 h2 => simp [ih h2]
theorem dps_get {i : Nat} {vs : List V} {ds : List PyData} {d : PyData} (h : DpAll K F vs ds) (e : ds[i]? = some d) : ∃ v, vs[i]? = some v ∧ Dp K F v d := by
  induction ds generalizing vs i with
  | nil => simp at e
  | cons d0 ds ih => cases h with
    | cons h1 h2 => cases i with
      | zero => simp at e; subst e; exact ⟨_, rfl, h1⟩
      | succ i => simp at e; obtain ⟨v, e1, e2⟩ := ih h2 e; exact ⟨v, by simpa using e1, e2⟩
theorem dps_get' {i : Nat} {vs : List V} {ds : List PyData} {v : V} (h : DpAll K F vs ds) (e : vs[i]? = some v) : ∃ d, ds[i]? = some d ∧ Dp K F v d := by
  induction ds generalizing vs i with
  | nil => cases h; simp at e
  | cons d0 ds ih => cases h with
    | cons h1 h2 => cases i with
      | zero => simp at e; subst e; exact ⟨_, rfl, h1⟩
      | succ i => simp at e; obtain ⟨v, e1, e2⟩ := ih h2 e; exact ⟨v, by simpa using e1, e2⟩
theorem dps_snoc {vs : List V} {ds : List PyData} {v : V} {d : PyData} (h : DpAll K F vs ds) (h1 : Dp K F v d) : DpAll K F (vs ++ [v]) (ds ++ [d]) := by
  induction ds generalizing vs with
  | nil => cases h; exact .cons h1 .nil
  | cons d0 ds ih => cases h with
    | cons a b => exact .cons a (ih b)
theorem dps_app {vs ws : List V} {ds es : List PyData} (h : DpAll K F vs ds) (h1 : DpAll K F ws es) : DpAll K F (vs ++ ws) (ds ++ es) := by
  induction ds generalizing vs with
  | nil => cases h; exact h1
  | cons d0 ds ih => cases h with
    | cons a b => exact .cons a (ih b)
theorem dps_ints {ns : List Int} : DpAll K F (ns.map V.int) (ns.map PyData.int) := by
  induction ns with
  | nil => exact .nil
  | cons a t ih => exact .cons (.int a) ih
theorem dps_ints_iff {ns : List Int} {vs : List V} (h : DpAll K F vs (ns.map PyData.int)) : vs = ns.map V.int := by
  induction ns generalizing vs with
  | nil => cases h; rfl
  | cons a t ih => cases h with
    | cons h1 h2 => cases h1; rw [ih h2]; rfl
theorem dp_tup {v : V} {ds : List PyData} (h : Dp K F v (.tuple ds)) : ∃ a xs, v = .ref a ∧ SqT K F a xs ∧ DpAll K F xs ds := by
  cases h with
  | tup h1 h2 => exact ⟨_, _, rfl, h1, h2⟩
theorem dp_lst {v : V} {ds : List PyData} (h : Dp K F v (.list ds)) : ∃ a xs, v = .ref a ∧ SqL K F a xs ∧ DpAll K F xs ds := by
  cases h with
  | lst h1 h2 => exact ⟨_, _, rfl, h1, h2⟩
theorem dp_int {v : V} {i : Int} (h : Dp K F v (.int i)) : v = .int i := by cases h; rfl
theorem dp_str {v : V} {x : Str} (h : Dp K F v (.str x)) : v = .str x := by cases h; rfl
theorem dp_bl {v : V} {b : Bool} (h : Dp K F v (.bool b)) : v = .bl b := by cases h; rfl
theorem dp_non {v : V} (h : Dp K F v .none) : v = .non := by cases h; rfl
theorem dps1 {vs : List V} {a : PyData} (h : DpAll K F vs [a]) : ∃ x, vs = [x] ∧ Dp K F x a := by
  cases h with
  | cons h1 h2 => cases h2; exact ⟨_, rfl, h1⟩
theorem dps2 {vs : List V} {a b : PyData} (h : DpAll K F vs [a, b]) : ∃ x y, vs = [x, y] ∧ Dp K F x a ∧ Dp K F y b := by
  cases h with
  | cons h1 h2 => obtain ⟨y, rfl, h3⟩ := dps1 h2; exact ⟨_, _, rfl, h1, h3⟩
theorem dps3 {vs : List V} {a b c : PyData} (h : DpAll K F vs [a, b, c]) : ∃ x y z, vs = [x, y, z] ∧ Dp K F x a ∧ Dp K F y b ∧ Dp K F z c := by
  cases h with
  | cons h1 h2 => obtain ⟨y, z, rfl, h3, h4⟩ := dps2 h2; exact ⟨_, _, _, rfl, h1, h3, h4⟩
end

/-! ### worlds and rules -/
/-- a step: how much it draws, how long it lasts, how much it gives back -/
structure Stp where
  draw : Int
  long : Int
  back : Int
structure Wld where
  cap : Int
  start : Int
  refill : Int
  ms : List (List Stp)
def stpD (s : Stp) : PyData := .tuple [.int s.draw, .int s.long, .int s.back]
def macD (ss : List Stp) : PyData := .tuple (ss.map stpD)
def wldD (w : Wld) : PyData := .tuple [.tuple [.int w.cap, .int w.start, .int w.refill], .tuple (w.ms.map macD)]
structure StpOk (cap : Int) (s : Stp) : Prop where
  d0 : 0 ≤ s.draw
  d1 : s.draw ≤ cap
  l0 : 1 ≤ s.long
  l1 : s.long ≤ 9
  b0 : 0 ≤ s.back
  b1 : s.back ≤ s.draw
structure WldOk (w : Wld) : Prop where
  c0 : 1 ≤ w.cap
  c1 : w.cap ≤ 99
  s0 : 0 ≤ w.start
  s1 : w.start ≤ w.cap
  r0 : 0 ≤ w.refill
  r1 : w.refill ≤ 9
  m : w.ms.length ≤ 5
  n : ∀ ss ∈ w.ms, ss.length ≤ 6
  st : ∀ ss ∈ w.ms, ∀ s ∈ ss, StpOk w.cap s
/-- the rights, by number -/
inductive Rgt where
  | rank | turns | wait | least
  deriving DecidableEq
def rgtS : Rgt → Str
  | .rank => "rank"
  | .turns => "turns"
  | .wait => "wait"
  | .least => "least"
def rulD (r : Rgt) (p : Bool) : PyData := .tuple [.str (rgtS r), .bool p]

/-- _law_world: some world -/
def aWorld (K : PySem.W.Frag) : List V → Hp → VK → Prop := fun ws F R => ∃ most cap : Int, ws = [.int most, .int cap] ∧ 0 ≤ most ∧ most ≤ 5 ∧ 1 ≤ cap ∧ cap ≤ 99 ∧
  ∀ (v : V) (F' : Hp) (w : Wld), Ex F F' → Dp K F' v (wldD w) → WldOk w → w.cap ≤ cap → (w.ms.length : Int) ≤ most → (∀ ss ∈ w.ms, ss.length ≤ 4) → R v F'
/-- _law_rule: some rule -/
def aRule (K : PySem.W.Frag) : List V → Hp → VK → Prop := fun ws F R => ws = [] ∧ ∀ (v : V) (F' : Hp) (r : Rgt) (p : Bool), Ex F F' → Dp K F' v (rulD r p) → R v F'

section
variable {S : Type} {J : S → Hp → Hp → Prop} {h c : Addr} {σ : L2.St} {s : S} {F : Hp} {R : V → S → Hp → Prop} {te ta : TE} {E : XK}
theorem ew_next {i : Nat} (hd : Hid J) (hv : σ[i]? = some (some (V.ref h))) (k : EW (HJ h c J) ta σ s F fun y s2 F2 => ∃ n : Int, y = .int n ∧ 0 < n ∧ n ≤ 10000000000000 ∧ ∀ r : Int, 0 ≤ r → r < n → R (.int r) s2 F2) :
    EW (HJ h c J) (tCall (LN aNext) [] E (tCons (tVar i) (tCons ta tNil))) σ s F R := by
  refine ew_draw hd (aw_cons (ew_var hv (aw_cons (k.imp fun y s2 F2 ⟨n, e2, h0, h1, k⟩ => aw_nil ⟨[y], rfl, n, by rw [e2], h0, h1, fun r r0 r1 => k r r0 r1⟩))))
theorem ew_world {i : Nat} {K : PySem.W.Frag} {tb : TE} (hd : Hid J) (hv : σ[i]? = some (some (V.ref h))) (k : EW (HJ h c J) ta σ s F fun y s2 F2 => ∃ most : Int, y = .int most ∧ 0 ≤ most ∧ most ≤ 5 ∧ EW (HJ h c J) tb σ s2 F2 fun z s3 F3 => ∃ cap : Int, z = .int cap ∧ 1 ≤ cap ∧ cap ≤ 99 ∧
      ∀ (v : V) (F' : Hp) (w : Wld), Ex F3 F' → Dp K F' v (wldD w) → WldOk w → w.cap ≤ cap → (w.ms.length : Int) ≤ most → (∀ ss ∈ w.ms, ss.length ≤ 4) → R v s3 F') :
    EW (HJ h c J) (tCall (LN (aWorld K)) [] E (tCons (tVar i) (tCons ta (tCons tb tNil)))) σ s F R := by
  refine ew_draw hd (aw_cons (ew_var hv (aw_cons (k.imp fun y s2 F2 ⟨n, e2, h0, h1, k⟩ => aw_cons (k.imp fun z s3 F3 ⟨cp, e3, h2, h3, k⟩ => aw_nil ⟨[y, z], rfl, n, cp, by rw [e2, e3], h0, h1, h2, h3, k⟩)))))
theorem ew_rule {i : Nat} {K : PySem.W.Frag} (hd : Hid J) (hv : σ[i]? = some (some (V.ref h))) (k : ∀ (v : V) (F' : Hp) (r : Rgt) (p : Bool), Ex F F' → Dp K F' v (rulD r p) → R v s F') :
    EW (HJ h c J) (tCall (LN (aRule K)) [] E (tCons (tVar i) tNil)) σ s F R := by
  refine ew_draw hd (aw_cons (ew_var hv (aw_nil ⟨[], rfl, rfl, k⟩)))
end
theorem LN.body {h c : Addr} {J : Unit → Hp → Hp → Prop} {F H : Hp} {R Q : VK} {t : TS} {σ : L2.St} (j : HJ h c J () F H) (q : ∀ v F' H', HJ h c J () F' H' → R v F' → Q v H')
    (k : SW (HJ h c J) t { nx := fun _ _ F => R .non F, rt := fun v _ F => R v F } σ () F) : t { nx := fun _ H' => Q .non H', rt := Q } σ H := LS.body j q k
end Obr
namespace PySem.SeqAt
open AutoSeq1 (wpAny_loadPart')
open MeetsSeq MeetsSeq2 MeetsSeq3 SeqRoads2
theorem remove_loopAt (l : Addr) (items : Array Value) (n : Nat) (x : Value) (e : Value → Bool) (j : Nat) (hj : j < items.size) (hit : e items[j] = true) (k : Nat) (hs1 : items.size ≤ sizeLine) :
    ∀ i : Nat, j - i = k → i ≤ j → (∀ m (hm : m < items.size), i ≤ m → m < j → e items[m] = false) → Meets (Builtin.«list.remove.loop» ⟨[.ref l, x, rawInt i], []⟩)
      (fun A R s => s.heap.get? l = some { cls := .type "list", dict := none, data := .seq items n, slots := #[] } ∧ (∀ y, y ∈ items → EqAt A.in1 s y x (e y)) ∧ R (.ok (.ret .none)) { s with heap := s.heap.update l (Obj.mapSeq fun xs => xs.eraseIdxIfInBounds j) }) := by
  induction k with
  | zero =>
    intro i hk hij hno prog w A R s h
    obtain ⟨hp, g, d, tk, os⟩ := s; obtain ⟨hl, he, h⟩ := h
    have hij' : i = j := by omega
    subst hij'
    wp_walk using wpAny_loadPart' hl
    have hi : items[((i : Nat) : Int).toNat]? = some items[i] := by simp [hj]
    rw [hi]
    refine wpAny_bind (he _ (Array.getElem_mem hj) prog w _ _ ?_)
    rw [hit]
    have hz' : (items.eraseIdxIfInBounds i).size ≤ sizeLine + 1 := Nat.le_trans (size_erased items _) (Nat.le_succ_of_le hs1)
    wp_walk using (wpAny_updateSeq hl rfl (hz := hs1) (_hz' := hz')), wpAny_loadPart' hl
    simpa using h
  | succ k ih =>
    intro i hk hij hno prog w A R s h
    obtain ⟨hp, g, d, tk, os⟩ := s; obtain ⟨hl, he, h⟩ := h
    have hlt : i < items.size := by omega
    wp_walk using wpAny_loadPart' hl
    have hi : items[((i : Nat) : Int).toNat]? = some items[i] := by simp [hlt]
    have hc : ((i : Int) + 1) = ((i + 1 : Nat) : Int) := by push_cast; rfl
    rw [hi]
    refine wpAny_bind (he _ (Array.getElem_mem hlt) prog w _ _ ?_)
    rw [hno i hlt (Nat.le_refl _) (by omega)]
    wp_walk
    rw [hc]
    exact ⟨plainId_quiet plain_remove_loop _, codeAny_builtin entry_remove_loop (by
      rw [Around.under_plainId plain_remove_loop _]
      exact ih (i + 1) (by omega) (by omega) (fun m hm h1 h2 => hno m hm (by omega) h2) prog w A R _ ⟨hl, he, h⟩)⟩
theorem list_removeAt (l : Addr) (items : Array Value) (n : Nat) (x : Value) (e : Value → Bool) (j : Nat) (hj : j < items.size)
    (hit : e items[j] = true) (hno : ∀ m (hm : m < items.size), m < j → e items[m] = false) (hs1 : items.size ≤ sizeLine) :
    Meets (Builtin.«list.remove» ⟨[.ref l, x], []⟩)
      (fun A R s => s.heap.get? l = some { cls := .type "list", dict := none, data := .seq items n, slots := #[] } ∧ (∀ y, y ∈ items → EqAt A.in1 s y x (e y)) ∧ R (.ok (.ret .none)) { s with heap := s.heap.update l (Obj.mapSeq fun xs => xs.eraseIdxIfInBounds j) }) := by
  intro prog w A R s h
  obtain ⟨hp, g, d, tk, os⟩ := s; obtain ⟨hl, he, h⟩ := h
  wp_walk using wpAny_loadPart' hl
  exact ⟨plainId_quiet plain_remove_loop _, codeAny_builtin entry_remove_loop (by
    rw [Around.under_plainId plain_remove_loop _]
    exact remove_loopAt l items n x e j hj hit _ hs1 0 rfl (Nat.zero_le _) (fun m hm _ h2 => hno m hm h2) prog w A R _ ⟨hl, he, h⟩)⟩
end PySem.SeqAt
namespace Obr
open PySem L2 PySem.Spec PyProof.Rows
section
variable {X : Cx}
/-- xs.remove(y), the items data of any depth: the first that is equal goes -/
def rRemD (K : PySem.W.Frag) : V → List V → Hp → VK → Prop := fun x xs H Q => ∃ (a : Addr) (vs : List V) (y : V) (d : PyData) (ds : List PyData) (j : Nat) (z : PyData), x = V.ref a ∧ xs = [y] ∧ H a = some (.lst vs) ∧ DpAll K H vs ds ∧ Dp K H y d ∧
  SeqAt.shaped (.list ds) = true ∧ SeqAt.shaped d = true ∧ ds[j]? = some z ∧ PyData.eqv z d = true ∧ (∀ (m : Nat) (z' : PyData), m < j → ds[m]? = some z' → PyData.eqv z' d = false) ∧ Q .non (upd H a (.lst (vs.eraseIdx j)))
theorem mt_removeD (hu : X.A.units + 65 < cLine) : MtM X "list.remove" (rRemD X.K) := by
  intro pins s σ H x xs v us Q I rx rxs h
  obtain ⟨a, vs, y, d, ds, j, z, rfl, rfl, hH, ha, hy, sl, sd, hz, hzj, hno, q⟩ := h
  cases rx
  obtain ⟨uy, rfl, ry⟩ := rxs.one
  obtain ⟨bs, r1⟩ := Dp.reads I d y uy hy ry
  have hxs : PyData.canLayAll0 ds = true := SeqAt.canLay_of_shaped sl
  have hroom : X.A.units + 1 + min (PyData.depthAll ds) d.depth < cLine := room_in_shaped sd hu
  obtain ⟨hsz, its, n, rv, hlen, ho⟩ := I.lstM hH
  obtain ⟨as, h4⟩ := Dp.readsAll I ds _ its ha rv
  have hn : its.length = ds.length := SeqAt.ReadsAll.length ds its as h4
  have hmap : its.map (SeqAt.readOf s.heap) = ds := SeqAt.readsAll_map ds its as hxs h4
  obtain ⟨hjd, _⟩ := List.getElem?_eq_some_iff.mp hz
  have hjl : j < its.length := by omega
  have hj : j < its.toArray.size := by simpa using hjl
  have at_ : ∀ (m : Nat) (hm : m < its.toArray.size) (z' : PyData), ds[m]? = some z' → SeqAt.readOf s.heap its.toArray[m] = z' := by
    intro m hm z' hz'
    have hml : m < its.length := by simpa using hm
    rw [← hmap, List.getElem?_map, List.getElem?_eq_getElem hml] at hz'
    have e1 : SeqAt.readOf s.heap its[m] = z' := Option.some.inj (show some (SeqAt.readOf s.heap its[m]) = some z' from hz')
    simpa using e1
  refine call_meets PySem.F.slot_list_remove ⟨_, ho, rfl⟩ PySem.F.entry_list_remove (PySem.F.args_list_remove_2 _ _)
    (SeqAt.list_removeAt a its.toArray n uy (fun u => PyData.eqv (SeqAt.readOf s.heap u) d) j hj ?_ ?_ (by rw [List.size_toArray]; omega)) ⟨ho, SeqAt.items_eqAt (vs := its.toArray) (show ReadsAll s.heap its.toArray.toList ds as from h4) r1 hxs (SeqAt.canLay_of_shaped sd) hroom, ?_⟩
  · show PyData.eqv (SeqAt.readOf s.heap its.toArray[j]) d = true
    rw [at_ j hj z hz]
    exact hzj
  · intro m hm hmj
    have hmd : m < ds.length := by omega
    have hz' : ds[m]? = some ds[m] := List.getElem?_eq_getElem hmd
    show PyData.eqv (SeqAt.readOf s.heap its.toArray[m]) d = false
    rw [at_ m hm _ hz']
    exact hno m _ hmj hz'
  · refine ⟨.non, _, I.lset hH ho (its' := its.eraseIdx j) (by rw [Array.eraseIdxIfInBounds, dif_pos hj]; simp) (rv.eraseIdx j) (Nat.le_trans (len_erase _ _) hsz), rfl, q⟩
/-- tuples of whole numbers and truth values, by < -/
def numV : V → Option Int
  | .int i => some i
  | .bl b => some (b2i b)
  | _ => none
def rLtM (K : PySem.W.Frag) : R2 := fun x y H Q => ∃ (a b : Addr) (xs ys : List V) (ns ms : List Int), x = .ref a ∧ y = .ref b ∧ SqT K H a xs ∧ SqT K H b ys ∧ xs.map numV = ns.map some ∧ ys.map numV = ms.map some ∧
  (∀ (j : Nat) (x y : V), xs[j]? = some x → ys[j]? = some y → (∃ i k, x = V.int i ∧ y = V.int k) ∨ ∃ i k, x = V.bl i ∧ y = V.bl k) ∧
  Q (.bl (Ob.lexAt (fun j => decide (ns.getD j 0 = ms.getD j 0)) (fun j => decide (ns.getD j 0 < ms.getD j 0)) (decide (ns.length < ms.length)) 0 (min ns.length ms.length))) H
theorem rcLt_bool {A : Around} {s : Shared} (p q : Bool) : Ob.RcOp .Lt A s (.bool p) (.bool q) (decide (b2i p < b2i q)) := fun _ _ _ _ h => PyProof.Rows.lt_bool h
theorem op_ltM (hu : X.A.units < cLine) : OpR X (compareOp .Lt) (rLtM X.K) := by
  intro pins s σ H x y v u Q I rx ry h
  obtain ⟨a, b, xs, ys, ns, ms, rfl, rfl, ha, hb, en, em, hk, q⟩ := h
  cases rx
  cases ry
  obtain ⟨its, r1, p1, _⟩ := I.tuple ha
  obtain ⟨its2, r2, p2, _⟩ := I.tuple hb
  have l1 : xs.length = ns.length := by have := congrArg List.length en; simpa using this
  have l2 : ys.length = ms.length := by have := congrArg List.length em; simpa using this
  have e1 : its.toArray.size = ns.length := by rw [List.size_toArray, ← r1.length]; exact l1
  have e2 : its2.toArray.size = ms.length := by rw [List.size_toArray, ← r2.length]; exact l2
  have nn : ∀ j (h1 : j < xs.length), numV xs[j] = some (ns.getD j 0) := fun j h1 => by
    have h2 : j < ns.length := by omega
    have := congrArg (fun l : List (Option Int) => l[j]?) en
    simp only [List.getElem?_map, List.getElem?_eq_getElem h1, List.getElem?_eq_getElem h2, Option.map_some] at this
    have e := Option.some.inj this
    rw [e]
    simp [List.getD, List.getElem?_eq_getElem h2]
  have mm : ∀ j (h1 : j < ys.length), numV ys[j] = some (ms.getD j 0) := fun j h1 => by
    have h2 : j < ms.length := by omega
    have := congrArg (fun l : List (Option Int) => l[j]?) em
    simp only [List.getElem?_map, List.getElem?_eq_getElem h1, List.getElem?_eq_getElem h2, Option.map_some] at this
    have e := Option.some.inj this
    rw [e]
    simp [List.getD, List.getElem?_eq_getElem h2]
  have both : ∀ j (h1 : j < its.toArray.size) (h2 : j < its2.toArray.size), (∃ i t k t', its.toArray[j] = .int i t ∧ its2.toArray[j] = .int k t' ∧ ns.getD j 0 = i ∧ ms.getD j 0 = k) ∨ ∃ i k, its.toArray[j] = .bool i ∧ its2.toArray[j] = .bool k ∧ ns.getD j 0 = b2i i ∧ ms.getD j 0 = b2i k := fun j h1 h2 => by
    have j1 : j < xs.length := by omega
    have j2 : j < ys.length := by omega
    obtain ⟨u1, g1, q1⟩ := r1.get (List.getElem?_eq_getElem j1)
    obtain ⟨u2, g2, q2⟩ := r2.get (List.getElem?_eq_getElem j2)
    have n1 := nn j j1
    have n2 := mm j j2
    have f1 : its.toArray[j] = u1 := by
      obtain ⟨_, e⟩ := List.getElem?_eq_some_iff.mp g1
      simpa using e
    have f2 : its2.toArray[j] = u2 := by
      obtain ⟨_, e⟩ := List.getElem?_eq_some_iff.mp g2
      simpa using e
    rcases hk j _ _ (List.getElem?_eq_getElem j1) (List.getElem?_eq_getElem j2) with ⟨i, k, ei, ek⟩ | ⟨i, k, ei, ek⟩
    · rw [ei] at q1 n1
      rw [ek] at q2 n2
      obtain ⟨t, rfl⟩ := q1
      obtain ⟨t', rfl⟩ := q2
      exact .inl ⟨i, t, k, t', f1, f2, (Option.some.inj n1).symm, (Option.some.inj n2).symm⟩
    · rw [ei] at q1 n1
      rw [ek] at q2 n2
      cases q1
      cases q2
      exact .inr ⟨i, k, f1, f2, (Option.some.inj n1).symm, (Option.some.inj n2).symm⟩
  have R := Ob.RcOp.tuples_lt (A := X.A) (s := s) (e := fun j => decide (ns.getD j 0 = ms.getD j 0)) (r := fun j => decide (ns.getD j 0 < ms.getD j 0)) p1 p2 hu (fun j h1 h2 => by
    rcases both j h1 h2 with ⟨i, t, k, t', q1, q2, e1, e2⟩ | ⟨i, k, q1, q2, e1, e2⟩
    · rw [q1, q2, e1, e2]
      have z : (i == k) = decide (i = k) := by
        by_cases q : i = k
        · rw [decide_eq_true q]; exact beq_iff_eq.mpr q
        · rw [decide_eq_false q]; exact beq_eq_false_iff_ne.mpr q
      rw [← z]
      exact SeqAt.EqAt.int_int _ _ _ _
    · rw [q1, q2, e1, e2]
      have z : decide (b2i i = b2i k) = eqV (.bl i) (.bl k) := by cases i <;> cases k <;> rfl
      rw [z]
      exact eqAt_V (y := .bl i) (x := .bl k) rfl rfl rfl rfl) (fun j h1 h2 _ => by
    rcases both j h1 h2 with ⟨i, t, k, t', q1, q2, e1, e2⟩ | ⟨i, k, q1, q2, e1, e2⟩
    · rw [q1, q2, e1, e2]
      exact Ob.RcOp.lt_int _ _ _ _
    · rw [q1, q2, e1, e2]
      exact rcLt_bool _ _)
  rw [e1, e2] at R
  have z : wpAny (model X.prog X.w) X.A (compareOp .Lt (.ref a) (.ref b)) (EP X pins σ Q) X.xe s := R X.prog X.w X.xe (EP X pins σ Q) ⟨.bl _, H, I, rfl, q⟩
  exact z
end
end Obr
namespace Obr
open PySem L2 PySem.Spec PyProof.Rows
section
variable {S : Type} {J : S → Hp → Hp → Prop} {K : PySem.W.Frag} {s : S} {F : Hp} {R : V → S → Hp → Prop}
/-- two pairs, by < -/
theorem rw_lt2 (hd : Hid J) {a b : Addr} {x1 x2 : V} {n1 n2 k1 k2 : Int} (ha : SqT K F a [x1, .int k1]) (hb : SqT K F b [x2, .int k2]) (e1 : numV x1 = some n1) (e2 : numV x2 = some n2)
    (hk : (∃ i k, x1 = V.int i ∧ x2 = V.int k) ∨ ∃ i k, x1 = V.bl i ∧ x2 = V.bl k) (h : R (.bl (decide (n1 < n2 ∨ (n1 = n2 ∧ k1 < k2)))) s F) : RW J (rLtM K) (.ref a) (.ref b) s F R := fun H j Q q => by
  refine ⟨a, b, [x1, .int k1], [x2, .int k2], [n1, k1], [n2, k2], rfl, rfl, hd.sqT j ha, hd.sqT j hb, ?_, ?_, ?_, ?_⟩
  · show [numV x1, some k1] = [some n1, some k1]
    rw [e1]
  · show [numV x2, some k2] = [some n2, some k2]
    rw [e2]
  · intro i x y hx hy
    match i, hx, hy with
    | 0, hx, hy =>
      have := Option.some.inj hx
      have := Option.some.inj hy
      subst_vars
      exact hk
    | 1, hx, hy =>
      have := Option.some.inj hx
      have := Option.some.inj hy
      subst_vars
      exact .inl ⟨_, _, rfl, rfl⟩
    | i + 2, hx, hy => simp at hx
  · have e : Ob.lexAt (fun j => decide (([n1, k1] : List Int).getD j 0 = ([n2, k2] : List Int).getD j 0)) (fun j => decide (([n1, k1] : List Int).getD j 0 < ([n2, k2] : List Int).getD j 0)) (decide (([n1, k1] : List Int).length < ([n2, k2] : List Int).length)) 0 (min ([n1, k1] : List Int).length ([n2, k2] : List Int).length) = decide (n1 < n2 ∨ (n1 = n2 ∧ k1 < k2)) := by
      show (if decide (n1 = n2) = true then (if decide (k1 = k2) = true then decide (2 < 2) else decide (k1 < k2)) else decide (n1 < n2)) = _
      by_cases c1 : n1 = n2
      · rw [if_pos (decide_eq_true c1)]
        by_cases c2 : k1 = k2
        · rw [if_pos (decide_eq_true c2)]
          rw [decide_eq_false (by omega), decide_eq_false (by omega)]
        · rw [if_neg (by simpa using c2)]
          by_cases c3 : k1 < k2
          · rw [decide_eq_true c3, decide_eq_true (by omega)]
          · rw [decide_eq_false c3, decide_eq_false (by omega)]
      · rw [if_neg (by simpa using c1)]
        by_cases c3 : n1 < n2
        · rw [decide_eq_true c3, decide_eq_true (by omega)]
        · rw [decide_eq_false c3, decide_eq_false (by omega)]
    rw [e]
    exact q _ _ _ _ j h
theorem rw_eqD (hd : Hid J) {x y : V} {d e : PyData} (h1 : Dp K F x d) (h2 : Dp K F y e) (s1 : SeqAt.shaped d = true) (s2 : SeqAt.shaped e = true) (h : R (.bl (PyData.eqv d e)) s F) : RW J (rEqD K) x y s F R := fun H j Q q =>
  ⟨d, e, dp_ex (hd.ex j) h1, dp_ex (hd.ex j) h2, s1, s2, q _ _ _ _ j h⟩
theorem rw_neD (hd : Hid J) {x y : V} {d e : PyData} (h1 : Dp K F x d) (h2 : Dp K F y e) (s1 : SeqAt.shaped d = true) (s2 : SeqAt.shaped e = true) (h : R (.bl (!PyData.eqv d e)) s F) : RW J (rNeD K) x y s F R := fun H j Q q =>
  ⟨d, e, dp_ex (hd.ex j) h1, dp_ex (hd.ex j) h2, s1, s2, q _ _ _ _ j h⟩
theorem mw_remD (hd : Hid J) {a : Addr} {vs : List V} {y : V} {d : PyData} {ds : List PyData} {j0 : Nat} {z : PyData} (h1 : F a = some (.lst vs)) (h2 : DpAll K F vs ds) (h3 : Dp K F y d) (s1 : SeqAt.shaped (.list ds) = true) (s2 : SeqAt.shaped d = true)
    (hz : ds[j0]? = some z) (he : PyData.eqv z d = true) (hno : ∀ (m : Nat) (z' : PyData), m < j0 → ds[m]? = some z' → PyData.eqv z' d = false) (h : R .non s (upd F a (.lst (vs.eraseIdx j0)))) : MW J (rRemD K) (.ref a) [y] s F R := fun H j Q q =>
  ⟨a, vs, y, d, ds, j0, z, rfl, rfl, hd.ex j _ _ h1, dps_ex (hd.ex j) h2, dp_ex (hd.ex j) h3, s1, s2, hz, he, hno, q _ _ _ _ (hd.mu j h1) h⟩
end
/-! ### flat data is shaped -/
def flatD : PyData → Bool
  | .none => true
  | .bool _ => true
  | .int _ => true
  | .str _ => true
  | _ => false
/-- data of depth n at most -/
def lowD : Nat → PyData → Bool
  | _, .none => true
  | _, .bool _ => true
  | _, .int _ => true
  | _, .str x => PyData.strOk x
  | n + 1, .list ds => ds.all (lowD n)
  | n + 1, .tuple ds => ds.all (lowD n)
  | _, _ => false
theorem lowD_ok : ∀ (n : Nat) (d : PyData), lowD n d = true → d.canLay0 = true ∧ d.depth ≤ n
  | _, .none, _ => by simp [PyData.canLay0, PyData.depth]
  | _, .bool _, _ => by simp [PyData.canLay0, PyData.depth]
  | _, .int _, _ => by simp [PyData.canLay0, PyData.depth]
  | _, .str x, h => by
    have h' : PyData.strOk x = true := by simpa [lowD] using h
    simp [PyData.canLay0, PyData.depth, h']
  | 0, .list ds, h => by simp [lowD] at h
  | 0, .tuple ds, h => by simp [lowD] at h
  | _, .dict ds, h => by simp [lowD] at h
  | n + 1, .list ds, h => by
    have : ∀ ds : List PyData, ds.all (lowD n) = true → PyData.canLayAll0 ds = true ∧ PyData.depthAll ds ≤ n := fun ds => by
      induction ds with
      | nil => intro _; simp [PyData.canLayAll0, PyData.depthAll]
      | cons d ds ih =>
        intro h
        simp only [List.all_cons, Bool.and_eq_true] at h
        have a := lowD_ok n d h.1
        have b := ih h.2
        simp only [PyData.canLayAll0, PyData.depthAll, Bool.and_eq_true]
        exact ⟨⟨a.1, b.1⟩, by omega⟩
    simp only [lowD] at h
    have := this ds h
    simp only [PyData.canLay0, PyData.depth]
    exact ⟨this.1, by omega⟩
  | n + 1, .tuple ds, h => by
    have : ∀ ds : List PyData, ds.all (lowD n) = true → PyData.canLayAll0 ds = true ∧ PyData.depthAll ds ≤ n := fun ds => by
      induction ds with
      | nil => intro _; simp [PyData.canLayAll0, PyData.depthAll]
      | cons d ds ih =>
        intro h
        simp only [List.all_cons, Bool.and_eq_true] at h
        have a := lowD_ok n d h.1
        have b := ih h.2
        simp only [PyData.canLayAll0, PyData.depthAll, Bool.and_eq_true]
        exact ⟨⟨a.1, b.1⟩, by omega⟩
    simp only [lowD] at h
    have := this ds h
    simp only [PyData.canLay0, PyData.depth]
    exact ⟨this.1, by omega⟩
theorem shaped_low {n : Nat} {d : PyData} (h : lowD n d = true) (hn : n ≤ 64 := by decide) : SeqAt.shaped d = true := by
  have := lowD_ok n d h
  show (d.canLay0 && decide (d.depth ≤ 64)) = true
  rw [Bool.and_eq_true]
  exact ⟨this.1, decide_eq_true (by omega)⟩
end Obr
theorem L2.Room.u65 {k : Nat} {A : PySem.Around} (r : L2.Room k A) : A.units + 65 < PySem.cLine := by have := r.un; omega
namespace Obr
open PySem L2
theorem cutV_one (a : V) (l : List V) : cutV (a :: l) (some 1) none = l := by
  unfold cutV HT.sIx
  simp
theorem at_zero {x : V} {xs : List V} : atI (x :: xs) 0 = some x := by
  have h : ixN (x :: xs).length 0 = some 0 := by
    unfold ixN
    rw [if_pos (by decide), if_pos (by simp only [List.length_cons]; omega)]
    rfl
  unfold atI
  rw [h]
  rfl
theorem nodup_map_inj {α β : Type} {f : α → β} : ∀ {l : List α} {a b : α}, (l.map f).Nodup → a ∈ l → b ∈ l → f a = f b → a = b
  | [], _, _, _, h, _, _ => by cases h
  | x :: l, a, b, hn, ha, hb, e => by
    rw [List.map_cons, List.nodup_cons] at hn
    rcases List.mem_cons.mp ha with ea | ha2
    · rcases List.mem_cons.mp hb with eb | hb2
      · rw [ea, eb]
      · exact absurd (by rw [← ea, e]; exact List.mem_map_of_mem hb2) hn.1
    · rcases List.mem_cons.mp hb with eb | hb2
      · exact absurd (by rw [← eb, ← e]; exact List.mem_map_of_mem ha2) hn.1
      · exact nodup_map_inj hn.2 ha2 hb2 e
theorem map_eraseIdx' {α β : Type} (f : α → β) : ∀ (l : List α) (j : Nat), (l.eraseIdx j).map f = (l.map f).eraseIdx j
  | [], _ => by simp
  | a :: l, 0 => by simp
  | a :: l, j + 1 => by simp [map_eraseIdx' f l j]
theorem perm_eraseIdx {α : Type} : ∀ {l : List α} {j : Nat} {b : α}, l[j]? = some b → l.Perm (b :: l.eraseIdx j)
  | [], _, _, h => by simp at h
  | a :: l, 0, b, h => by
    simp at h
    subst h
    exact .refl _
  | a :: l, j + 1, b, h => by
    simp only [List.getElem?_cons_succ] at h
    have := perm_eraseIdx h
    exact (List.Perm.cons a this).trans (List.Perm.swap b a _)
theorem dps_eraseIdx {K : PySem.W.Frag} {F : Hp} : ∀ {ds : List PyData} {vs : List V} (j : Nat), DpAll K F vs ds → DpAll K F (vs.eraseIdx j) (ds.eraseIdx j)
  | [], _, _, h => by cases h; exact .nil
  | d :: ds, _, 0, h => by cases h with | cons h1 h2 => exact h2
  | d :: ds, _, j + 1, h => by cases h with | cons h1 h2 => exact .cons h1 (dps_eraseIdx j h2)
theorem first_ix {α : Type} [DecidableEq α] : ∀ {l : List α} {b : α}, b ∈ l → ∃ j : Nat, l[j]? = some b ∧ ∀ (m : Nat) (x : α), m < j → l[m]? = some x → x ≠ b
  | [], _, h => by cases h
  | a :: l, b, h => by
    by_cases e : a = b
    · exact ⟨0, by simp [e], fun m x hm => by omega⟩
    · have h2 : b ∈ l := by
        rcases List.mem_cons.mp h with h | h
        · exact absurd h.symm e
        · exact h
      obtain ⟨j, h3, h4⟩ := first_ix h2
      refine ⟨j + 1, by simpa using h3, fun m x hm hx => ?_⟩
      cases m with
      | zero => simp at hx; rw [← hx]; exact e
      | succ m => exact h4 m x (by omega) (by simpa using hx)
end Obr
namespace Obr
open PySem L2 PySem.Spec PyProof.Rows

/-! ### dicts by keys -/
section
variable {κ : Type} [DecidableEq κ]
theorem valV_nd : ∀ {kvs : List (κ × V)} {i : Nat} {k : κ} {v : V}, (kvs.map (·.1)).Nodup → kvs[i]? = some (k, v) → valV kvs k = some v
  | [], _, _, _, _, h => by simp at h
  | p :: r, 0, k, v, _, h => by
    simp at h
    subst h
    exact valV_pos rfl
  | p :: r, i + 1, k, v, hn, h => by
    rw [List.map_cons, List.nodup_cons] at hn
    simp only [List.getElem?_cons_succ] at h
    have : p.1 ≠ k := fun e => hn.1 (by rw [e]; exact List.mem_map.mpr ⟨(k, v), List.mem_of_getElem? h, rfl⟩)
    rw [valV_neg this]
    exact valV_nd hn.2 h
theorem map_put {k : κ} {v : V} : ∀ {kvs : List (κ × V)} {i : Nat} {v0 : V}, (kvs.map (·.1)).Nodup → kvs[i]? = some (k, v0) → kvs.map (fun kv => if kv.1 = k then (kv.1, v) else kv) = kvs.set i (k, v)
  | [], _, _, _, h => by simp at h
  | p :: r, 0, v0, hn, h => by
    simp at h
    subst h
    rw [List.map_cons, List.nodup_cons] at hn
    have : r.map (fun kv => if kv.1 = k then (kv.1, v) else kv) = r := by
      conv => rhs; rw [← List.map_id r]
      refine List.map_congr_left fun x hx => ?_
      have : x.1 ≠ k := fun e => hn.1 (by show k ∈ _; rw [← e]; exact List.mem_map_of_mem hx)
      simp [this]
    simp [this]
  | p :: r, i + 1, v0, hn, h => by
    rw [List.map_cons, List.nodup_cons] at hn
    simp only [List.getElem?_cons_succ] at h
    have : p.1 ≠ k := fun e => hn.1 (by rw [e]; exact List.mem_map.mpr ⟨(k, v0), List.mem_of_getElem? h, rfl⟩)
    simp only [List.map_cons, if_neg this, List.set_cons_succ]
    rw [map_put hn.2 h]
theorem putK_nd {kvs : List (κ × V)} {i : Nat} {k : κ} {v v0 : V} (hn : (kvs.map (·.1)).Nodup) (h : kvs[i]? = some (k, v0)) : putK kvs k v = kvs.set i (k, v) := by
  unfold putK
  have : (kvs.any fun kv => decide (kv.1 = k)) = true := by
    rw [valV_any, valV_nd hn h]
    rfl
  rw [if_pos this]
  exact map_put hn h
end
section
variable {S : Type} {J : S → Hp → Hp → Prop} {K : PySem.W.Frag} {σ : L2.St} {s : S} {F : Hp} {R : V → S → Hp → Prop} {td ty tv te : TE} {D : En S}
theorem ew_dget (hd : Hid J) (h : EW J td σ s F fun x s1 F1 => EW J ty σ s1 F1 fun y s2 F2 => ∃ a kvs k v, x = .ref a ∧ y = kV k ∧ F2 a = some (.dK kvs) ∧ valV kvs k = some v ∧ R v s2 F2) : EW J (tDGet td ty) σ s F R := fun H j Q q =>
  h H j _ fun x s1 F1 H1 j1 h1 => h1 H1 j1 _ fun y s2 F2 H2 j2 ⟨a, kvs, k, v, e1, e2, hf, hv, k2⟩ => ⟨a, v, e1, by subst e2; rw [← hv]; exact DGet.k (hd.ex j2 _ _ hf), q _ _ _ _ j2 k2⟩
theorem sw_dput (hd : Hid J) (h : EW J tv σ s F fun v s1 F1 => EW J td σ s1 F1 fun x s2 F2 => EW J ty σ s2 F2 fun y s3 F3 => ∃ a kvs k, x = .ref a ∧ y = kV k ∧ F3 a = some (.dK kvs) ∧ kvs.length < 100000 ∧ D.nx σ s3 (upd F3 a (.dK (putK kvs k v)))) :
    SW J (sDPut td ty tv) D σ s F := fun H j D' l =>
  h H j _ fun v s1 F1 H1 j1 h1 => h1 H1 j1 _ fun x s2 F2 H2 j2 h2 => h2 H2 j2 _ fun y s3 F3 H3 j3 ⟨a, kvs, k, e1, e2, hf, hl, k2⟩ =>
    ⟨a, upd H3 a (.dK (putK kvs k v)), e1, by subst e2; exact DPut.k (hd.ex j3 _ _ hf) (Nat.lt_of_lt_of_le hl (by decide)), l.nx _ _ _ _ (hd.mu j3 hf) k2⟩
/-- the pairs of a display -/
def PPW {S : Type} (J : S → Hp → Hp → Prop) (trs : List (TE × TE)) (σ : L2.St) (s : S) (F : Hp) (R : List (V × V) → S → Hp → Prop) : Prop :=
  ∀ H, J s F H → ∀ Q : List (V × V) → Hp → Prop, (∀ ps s' F' H', J s' F' H' → R ps s' F' → Q ps H') → tPairs trs σ H Q
theorem ppw_nil {R : List (V × V) → S → Hp → Prop} (k : R [] s F) : PPW J [] σ s F R := fun H j Q q => q _ _ _ _ j k
theorem ppw_cons {tk tv : TE} {trs : List (TE × TE)} {R : List (V × V) → S → Hp → Prop} (h : EW J tk σ s F fun x s1 F1 => EW J tv σ s1 F1 fun y s2 F2 => PPW J trs σ s2 F2 fun ps s3 F3 => R ((x, y) :: ps) s3 F3) : PPW J ((tk, tv) :: trs) σ s F R := fun H j Q q =>
  h H j _ fun x s1 F1 H1 j1 h1 => h1 H1 j1 _ fun y s2 F2 H2 j2 h2 => h2 H2 j2 _ fun ps s3 F3 H3 j3 k => q _ _ _ _ j3 k
theorem ew_disp (hd : Hid J) {trs : List (TE × TE)} (h : ∀ p, F p = none → PPW J trs σ s (upd F p (.dK [])) fun ps s1 F1 => F1 p = some (.dK []) ∧ ∃ kvs : List (Key × V), ps = kvs.map (fun kv => (kV kv.1, kv.2)) ∧ kvs.length ≤ 15 ∧ R (.ref p) s1 (upd F1 p (.dK (mergeK [] kvs)))) :
    EW J (tDisp trs) σ s F R := fun H j Q q p hp => h p (hd.fresh j hp) _ (hd.al j hp) _ fun ps s1 F1 H1 j1 ⟨e, kvs, ek, hl, k⟩ => ⟨hd.ex j1 _ _ e, kvs, ek, hl, q _ _ _ _ (hd.mu j1 e) k⟩
end
section
variable {X : Cx}
/-- d.update(e), two dicts -/
def rUpdD : V → List V → Hp → VK → Prop := fun x vs H Q => ∃ d o kvs more, x = .ref d ∧ vs = [.ref o] ∧ d ≠ o ∧ H d = some (.dK kvs) ∧ H o = some (.dK more) ∧ kvs.length + more.length ≤ 1000 ∧ Q .non (upd H d (.dK (mergeK kvs more)))
theorem mt_dupdate : MtM X "dict.update" rUpdD := by
  intro pins s σ H x xs v us Q I rx rxs h
  obtain ⟨d, o, kvs, more, rfl, rfl, hne, e1, e2, hl, q⟩ := h
  cases rx
  obtain ⟨u, rfl, ru⟩ := rxs.one
  cases ru
  obtain ⟨z1, hd1, vs1, rel1, dd1⟩ := dk_of I.hok e1
  obtain ⟨z2, hd2, vs2, rel2, dd2⟩ := dk_of I.hok e2
  refine call_meetsIn PySem.F.slot_dict_update dd1.typeIs PySem.F.entry_dict_update (PySem.F.args_dict_update_2 _ _) (meets_dict_update (mixKind X.prog X.w) d o hne hd2)
    ⟨vs1, vs2, dd1, dd2, by rw [← rel1.length, ← rel2.length]; rw [sizeLine_eq]; omega, fun h' dd' _ hs => ?_⟩
  have he : ∃ q, h'.get? d = some q := let ⟨q, _, _, hq, _⟩ := dd'; ⟨q, hq⟩
  refine ⟨.non, _, d_write (t' := s.toks) I (by rw [e1]; exact True.intro) hs he (dk_new ?_ hd1 (rel2.merge rel1) dd'), rfl, q⟩
  have := length_mergeK more kvs
  rw [sizeLine_eq]
  omega
end
section
variable {S : Type} {J : S → Hp → Hp → Prop} {K : PySem.W.Frag} {σ : L2.St} {s : S} {F : Hp} {R : V → S → Hp → Prop} {te : TE} {tr : TA}
theorem ew_bmD (hd : Hid J) {r : V → List V → Hp → VK → Prop} (h : EW J te σ s F fun x s1 F1 => ∃ a kvs, x = .ref a ∧ F1 a = some (.dK kvs) ∧ AW J tr σ s1 F1 fun vs s2 F2 => MW J r x vs s2 F2 R) : EW J (tBM K "dict" r te tr) σ s F R := fun H j Q q =>
  h H j _ fun x s1 F1 H1 j1 ⟨a, kvs, e, l, h1⟩ => ⟨by subst e; exact Or.inr (Or.inr (Or.inl ⟨rfl, Or.inl ⟨kvs, hd.ex j1 _ _ l⟩⟩)), h1 H1 j1 _ fun vs s2 F2 H2 j2 h2 => h2 H2 j2 Q q⟩
theorem mw_upd (hd : Hid J) {d o : Addr} {kvs more : List (Key × V)} (hne : d ≠ o) (h1 : F d = some (.dK kvs)) (h2 : F o = some (.dK more)) (hl : kvs.length + more.length ≤ 1000) (h : R .non s (upd F d (.dK (mergeK kvs more)))) : MW J rUpdD (.ref d) [.ref o] s F R := fun H j Q q =>
  ⟨d, o, kvs, more, rfl, rfl, hne, hd.ex j _ _ h1, hd.ex j _ _ h2, hl, q _ _ _ _ (hd.mu j h1) h⟩
end

/-! ### owned cells: F0 knows none of them, F holds each -/
structure Own (F0 F : Hp) (own : List (Addr × HO)) : Prop where
  ex : Ex F0 F
  out : ∀ p ∈ own, F0 p.1 = none
  at_ : ∀ p ∈ own, F p.1 = some p.2
  nd : (own.map (·.1)).Nodup
section
variable {F0 F : Hp} {own : List (Addr × HO)}
theorem Own.get (h : Own F0 F own) {i : Nat} {a : Addr} {o : HO} (e : own[i]? = some (a, o)) : F a = some o := h.at_ (a, o) (List.mem_of_getElem? e)
theorem Own.none (h : Own F0 F own) {i : Nat} {a : Addr} {o : HO} (e : own[i]? = some (a, o)) : F0 a = Option.none := h.out (a, o) (List.mem_of_getElem? e)
theorem own_map_set {i : Nat} {a : Addr} {o o' : HO} (e : own[i]? = some (a, o)) : (own.set i (a, o')).map (·.1) = own.map (·.1) := by
  rw [List.map_set]
  have h : (own.map (·.1))[i]? = some a := by rw [List.getElem?_map, e]; rfl
  refine List.ext_getElem? fun j => ?_
  rw [List.getElem?_set]
  by_cases c : i = j
  · subst c
    rw [if_pos rfl, h]
    have hi : i < own.length := (List.getElem?_eq_some_iff.mp e).1
    simp [hi]
  · rw [if_neg c]
theorem Own.set (h : Own F0 F own) {i : Nat} {a : Addr} {o o' : HO} (e : own[i]? = some (a, o)) : Own F0 (upd F a o') (own.set i (a, o')) where
  ex := h.ex.out (h.none e)
  out := fun p hp => by
    rcases List.mem_or_eq_of_mem_set hp with hp | rfl
    · exact h.out p hp
    · exact h.none e
  at_ := fun p hp => by
    obtain ⟨j, hj⟩ := List.getElem?_of_mem hp
    rw [List.getElem?_set] at hj
    by_cases c : i = j
    · subst c
      rw [if_pos rfl] at hj
      simp at hj
      rw [← hj.2]
      exact upd_same
    · rw [if_neg c] at hj
      have : p.1 ≠ a := fun q => c (nd_ix h.nd (x := a) (by rw [List.getElem?_map, e]; rfl) (by rw [List.getElem?_map, hj]; exact congrArg some q))
      rw [upd_ne this]
      exact h.at_ p (List.mem_of_getElem? hj)
  nd := by rw [own_map_set e]; exact h.nd
/-- a new thing: known to both, or to F alone -/
theorem Own.new (h : Own F0 F own) {p : Addr} {o : HO} (hp : F p = Option.none) : Own (upd F0 p o) (upd F p o) own where
  ex := h.ex.upd
  out := fun q hq => by rw [upd_ne (ne_of_none (h.at_ q hq) hp)]; exact h.out q hq
  at_ := fun q hq => by rw [upd_ne (ne_of_none (h.at_ q hq) hp)]; exact h.at_ q hq
  nd := h.nd
theorem Own.new' (h : Own F0 F own) {p : Addr} {o : HO} (hp : F p = Option.none) : Own F0 (upd F p o) own where
  ex := h.ex.new hp
  out := h.out
  at_ := fun q hq => by rw [upd_ne (ne_of_none (h.at_ q hq) hp)]; exact h.at_ q hq
  nd := h.nd
/-- a new thing that is owned -/
theorem Own.more (h : Own F0 F own) {p : Addr} {o : HO} (hp : F p = Option.none) : Own F0 (upd F p o) ((p, o) :: own) where
  ex := h.ex.new hp
  out := fun q hq => by
    rcases List.mem_cons.mp hq with rfl | hq
    · exact h.ex.free hp
    · exact h.out q hq
  at_ := fun q hq => by
    rcases List.mem_cons.mp hq with rfl | hq
    · exact upd_same
    · rw [upd_ne (ne_of_none (h.at_ q hq) hp)]; exact h.at_ q hq
  nd := by
    rw [List.map_cons, List.nodup_cons]
    refine ⟨fun hm => ?_, h.nd⟩
    obtain ⟨q, hq, e⟩ := List.mem_map.mp hm
    have := h.at_ q hq
    rw [e, hp] at this
    cases this
theorem Own.perm (h : Own F0 F own) {own' : List (Addr × HO)} (p : own'.Perm own) : Own F0 F own' where
  ex := h.ex
  out := fun q hq => h.out q (p.mem_iff.mp hq)
  at_ := fun q hq => h.at_ q (p.mem_iff.mp hq)
  nd := (p.map (·.1)).nodup_iff.mpr h.nd
/-- what is no longer written is known to F0 -/
theorem Own.freeze (h : Own F0 F own) {a : Addr} {o : HO} {own' : List (Addr × HO)} (e : own = (a, o) :: own') : Own (upd F0 a o) F own' := by
  subst e
  exact {
    ex := fun b u hb => by
      by_cases c : b = a
      · subst c
        rw [upd_same] at hb
        rw [← hb]
        exact h.at_ (b, o) List.mem_cons_self
      · rw [upd_ne c] at hb
        exact h.ex b u hb
    out := fun q hq => by
      have : q.1 ≠ a := fun c => by
        have hn := h.nd
        rw [List.map_cons, List.nodup_cons] at hn
        exact hn.1 (by show a ∈ _; rw [← c]; exact List.mem_map_of_mem hq)
      rw [upd_ne this]
      exact h.out q (List.mem_cons_of_mem _ hq)
    at_ := fun q hq => h.at_ q (List.mem_cons_of_mem _ hq)
    nd := (List.nodup_cons.mp (by have := h.nd; rwa [List.map_cons] at this)).2 }
theorem own_nil {F : Hp} : Own F F [] := ⟨.refl _, (fun _ h => by cases h), (fun _ h => by cases h), List.nodup_nil⟩
end
end Obr
namespace Obr
open PySem L2 PySem.Spec PyProof.Rows
theorem Own.grow {F0 F F' : Hp} {own : List (Addr × HO)} (h : Own F0 F own) (g : Ex F F') : Own F0 F' own := ⟨h.ex.trans g, h.out, fun p hp => g _ _ (h.at_ p hp), h.nd⟩
theorem mergeK_nd : ∀ (more acc : List (Key × V)), ((acc ++ more).map (·.1)).Nodup → mergeK acc more = acc ++ more
  | [], acc, _ => by simp [mergeK]
  | (k, v) :: more, acc, h => by
    have h1 : valV acc k = none := by
      have : (acc.any fun kv => decide (kv.1 = k)) = false := by
        rw [List.any_eq_false]
        intro x hx
        simp only [decide_eq_true_eq]
        intro e
        rw [List.map_append, List.map_cons, List.nodup_append] at h
        exact h.2.2 x.1 (List.mem_map_of_mem hx) k List.mem_cons_self e
      rw [valV_any] at this
      cases e : valV acc k with
      | none => rfl
      | some y => rw [e] at this; cases this
    have : mergeK acc ((k, v) :: more) = mergeK (acc ++ [(k, v)]) more := by
      show mergeK (putK acc k v) more = _
      rw [putK_new v h1]
    rw [this, mergeK_nd more (acc ++ [(k, v)]) (by simpa using h)]
    simp
theorem rep_flat (n : Nat) (v : V) : (List.replicate n [v]).flatten = List.replicate n v := by
  induction n with
  | zero => rfl
  | succ n ih => simp [List.replicate_succ, ih]
theorem map_const {α : Type} (l : List α) (v : V) : l.map (fun _ => v) = List.replicate l.length v := by
  induction l with
  | nil => rfl
  | cons a l ih => simp [List.replicate_succ, ih]
end Obr
namespace Obr
open PySem L2 PySem.Spec PyProof.Rows
/-- some of what is owned, in another turn -/
theorem Own.pick {F0 F : Hp} {own : List (Addr × HO)} (h : Own F0 F own) (idx : List Nat) (hn : idx.Nodup) : Own F0 F (idx.filterMap fun i => own[i]?) where
  ex := h.ex
  out := fun p hp => by
    obtain ⟨i, _, e⟩ := List.mem_filterMap.mp hp
    exact h.out p (List.mem_of_getElem? e)
  at_ := fun p hp => by
    obtain ⟨i, _, e⟩ := List.mem_filterMap.mp hp
    exact h.at_ p (List.mem_of_getElem? e)
  nd := by
    induction idx with
    | nil => exact List.nodup_nil
    | cons i idx ih =>
      rw [List.nodup_cons] at hn
      rw [List.filterMap_cons]
      cases e : own[i]? with
      | none => exact ih hn.2
      | some p =>
        show (p.1 :: _).Nodup
        rw [List.nodup_cons]
        refine ⟨fun hm => ?_, ih hn.2⟩
        obtain ⟨q, hq, eq⟩ := List.mem_map.mp hm
        obtain ⟨j, hj, e2⟩ := List.mem_filterMap.mp hq
        have : i = j := nd_ix h.nd (x := p.1) (by rw [List.getElem?_map, e]; rfl) (by rw [List.getElem?_map, e2]; exact congrArg some eq)
        exact hn.1 (this ▸ hj)
end Obr
namespace Obr
open PySem L2 PySem.Spec PyProof.Rows
/-- the list that a comprehension makes stands at D, hidden, with what it has so far -/
def JD {S : Type} (J : S → Hp → Hp → Prop) (D : Addr) (acc : List V) : S → Hp → Hp → Prop := fun s F H => F D = none ∧ J s (upd F D (.lst acc)) H
theorem Hid.jd {S : Type} {J : S → Hp → Hp → Prop} {D : Addr} {acc : List V} (hd : Hid J) : Hid (JD J D acc) where
  ex := fun {s F H} ⟨fd, j⟩ a o e => hd.ex j a o (by rw [upd_ne (fun q => by rw [q, fd] at e; cases e)]; exact e)
  al := fun {s F H p o} ⟨fd, j⟩ hp => by
    have e := hd.fresh j hp
    have n : p ≠ D := fun q => by rw [q, upd_same] at e; cases e
    refine ⟨by rw [upd_ne n.symm]; exact fd, ?_⟩
    have c : upd (upd F p o) D (.lst acc) = upd (upd F D (.lst acc)) p o := by
      funext x
      unfold upd
      by_cases h1 : x = D
      · by_cases h2 : x = p
        · exact absurd (h2.symm.trans h1) n
        · simp [h1, n.symm]
      · by_cases h2 : x = p
        · simp [h2, n]
        · simp [h1, h2]
    rw [c]
    exact hd.al j hp
  mu := fun {s F H a o o'} ⟨fd, j⟩ e => by
    have n : a ≠ D := fun q => by rw [q, fd] at e; cases e
    refine ⟨by rw [upd_ne n.symm]; exact fd, ?_⟩
    have c : upd (upd F a o') D (.lst acc) = upd (upd F D (.lst acc)) a o' := by
      funext x
      unfold upd
      by_cases h1 : x = D
      · by_cases h2 : x = a
        · exact absurd (h2.symm.trans h1) n
        · simp [h1, n.symm]
      · by_cases h2 : x = a
        · simp [h2, n]
        · simp [h1, h2]
    rw [c]
    refine hd.mu j (o := o) ?_
    rw [upd_ne n]
    exact e
section
variable {S : Type} {J : S → Hp → Hp → Prop} {K : PySem.W.Frag} {σ : L2.St} {s : S} {F : Hp} {R : V → S → Hp → Prop} {tl te : TE} {g : TG} {tt : TT} {vs : List Nat} {ta : TA}
/-- what one turn of a comprehension asks -/
def LcTurn (J : S → Hp → Hp → Prop) (Dl : Addr) (g : TG) (tt : TT) (te : TE) (vs : List Nat) (σ : L2.St) (acc : List V) (x : V) (s : S) (F : Hp) (P : List V → S → Hp → Prop) : Prop :=
  GW (JD J Dl acc) g x (wipe σ vs) s F fun σ2 s2 F2 => wipe σ2 vs = wipe σ vs ∧ TW (JD J Dl acc) tt σ2 s2 F2 fun b s3 F3 => (b = true → EW (JD J Dl acc) te σ2 s3 F3 fun y s4 F4 => P (acc ++ [y]) s4 F4) ∧ (b = false → P acc s3 F3)
theorem lc_step (hd : Hid J) {Dl : Addr} {acc : List V} {x : V} {P : List V → S → Hp → Prop} (hz : acc.length < 100000) (h : LcTurn J Dl g tt te vs σ acc x s F P) {H : Hp} (fd : F Dl = none) (j : J s (upd F Dl (.lst acc)) H) {Nx : Hp → Prop}
    (q : ∀ acc s F H, F Dl = none → J s (upd F Dl (.lst acc)) H → P acc s F → Nx H) : g x (wipe σ vs) H fun σ2 H2 => wipe σ2 vs = wipe σ vs ∧ tt σ2 H2 fun b H3 =>
      if b = true then te σ2 H3 fun y H4 => ∃ acc, H4 Dl = some (.lst acc) ∧ acc.length < sizeLine ∧ Nx (upd H4 Dl (.lst (acc ++ [y]))) else Nx H3 :=
  h H ⟨fd, j⟩ _ fun σ2 s2 F2 H2 j2 ⟨hw, k⟩ => ⟨hw, k H2 j2 _ fun b s3 F3 H3 j3 k => by
    cases b with
    | true =>
      refine k.1 rfl H3 j3 _ fun y s4 F4 H4 ⟨fd4, j4⟩ k4 => ⟨acc, hd.ex j4 _ _ upd_same, Nat.lt_of_lt_of_le hz (by decide), q (acc ++ [y]) s4 F4 _ fd4 ?_ k4⟩
      have := hd.mu (o' := .lst (acc ++ [y])) j4 upd_same
      rw [upd_upd] at this
      exact this
    | false => exact q acc s3 F3 _ j3.1 j3.2 (k.2 rfl)⟩
theorem ew_lcT (hd : Hid J) (h : EW J tl σ s F fun v s1 F1 => ∃ a xs, v = .ref a ∧ SqT K F1 a xs ∧ xs.length ≤ 100000 ∧ ∀ Dl, F1 Dl = none → ∃ Pv : Nat → List V → S → Hp → Prop, Pv 0 [] s1 F1 ∧
      (∀ i acc s F, i ≤ xs.length → F Dl = none → Pv i acc s F → SqT K F a xs ∧ acc.length ≤ i) ∧ (∀ (i : Nat) acc x s F, xs[i]? = some x → F Dl = none → Pv i acc s F → LcTurn J Dl g tt te vs σ acc x s F (Pv (i + 1))) ∧
      (∀ acc s F, F Dl = none → Pv xs.length acc s F → R (.ref Dl) s (upd F Dl (.lst acc)))) : EW J (tLc (iTup K tl) g tt te vs) σ s F R := fun H j Q q =>
  h H j _ fun v s1 F1 H1 j1 ⟨a, xs, e, l1, hz, k⟩ => ⟨a, e, ⟨xs, hd.sqT j1 l1⟩, fun Dl hD => by
    have fD := hd.fresh j1 hD
    obtain ⟨Pv, h0, hl, hs, hdn⟩ := k Dl fD
    refine lc_tup (xs := xs) (fun i H => ∃ acc s F, i ≤ xs.length ∧ F Dl = none ∧ J s (upd F Dl (.lst acc)) H ∧ Pv i acc s F) ⟨[], s1, F1, Nat.zero_le _, fD, hd.al j1 hD, h0⟩ (fun i H' hi ⟨acc, s', F', _, f1, j', p⟩ => ?_) (fun i x H' hi ⟨acc, s', F', hle, f1, j', p⟩ => ?_) (fun H' ⟨acc, s', F', _, f1, j', p⟩ => q _ _ _ _ j' (hdn acc s' F' f1 p))
    · refine hd.sqT j' ?_
      obtain ⟨f2, _⟩ := hl i acc s' F' hi f1 p
      exact Ex.sqT (Ex.out (Ex.refl _) f1) f2
    · have hlt := (List.getElem?_eq_some_iff.mp hi).1
      obtain ⟨f2, f3⟩ := hl i acc s' F' hle f1 p
      exact lc_step hd (by omega) (hs i acc x s' F' hi f1 p) f1 j' fun acc s F H fd j p => ⟨acc, s, F, by omega, fd, j, p⟩⟩
theorem ew_lcL (hd : Hid J) (h : EW J tl σ s F fun v s1 F1 => ∃ a xs, v = .ref a ∧ SqL K F1 a xs ∧ xs.length ≤ 100000 ∧ ∀ Dl, F1 Dl = none → ∃ Pv : Nat → List V → S → Hp → Prop, Pv 0 [] s1 F1 ∧
      (∀ i acc s F, i ≤ xs.length → F Dl = none → Pv i acc s F → SqL K F a xs ∧ acc.length ≤ i) ∧ (∀ (i : Nat) acc x s F, xs[i]? = some x → F Dl = none → Pv i acc s F → LcTurn J Dl g tt te vs σ acc x s F (Pv (i + 1))) ∧
      (∀ acc s F, F Dl = none → Pv xs.length acc s F → R (.ref Dl) s (upd F Dl (.lst acc)))) : EW J (tLc (iList K tl) g tt te vs) σ s F R := fun H j Q q =>
  h H j _ fun v s1 F1 H1 j1 ⟨a, xs, e, l1, hz, k⟩ => ⟨a, e, ⟨xs, hd.sqL j1 l1⟩, fun Dl hD => by
    have fD := hd.fresh j1 hD
    obtain ⟨Pv, h0, hl, hs, hdn⟩ := k Dl fD
    refine lc_list (xs := xs) (fun i H => ∃ acc s F, i ≤ xs.length ∧ F Dl = none ∧ J s (upd F Dl (.lst acc)) H ∧ Pv i acc s F) ⟨[], s1, F1, Nat.zero_le _, fD, hd.al j1 hD, h0⟩ (fun i H' hi ⟨acc, s', F', _, f1, j', p⟩ => ?_) (fun i x H' hi ⟨acc, s', F', hle, f1, j', p⟩ => ?_) (fun H' ⟨acc, s', F', _, f1, j', p⟩ => q _ _ _ _ j' (hdn acc s' F' f1 p))
    · refine hd.sqL j' ?_
      obtain ⟨f2, _⟩ := hl i acc s' F' hi f1 p
      exact Ex.sqL (Ex.out (Ex.refl _) f1) f2
    · have hlt := (List.getElem?_eq_some_iff.mp hi).1
      obtain ⟨f2, f3⟩ := hl i acc s' F' hle f1 p
      exact lc_step hd (by omega) (hs i acc x s' F' hi f1 p) f1 j' fun acc s F H fd j p => ⟨acc, s, F, by omega, fd, j, p⟩⟩
theorem ew_lcR (hd : Hid J) (h : AW J ta σ s F fun ws s1 F1 => ∃ n : Int, ws = [.int n] ∧ n ≤ 100000 ∧ -100000 ≤ n ∧ ∀ Dl, F1 Dl = none → ∃ Pv : Nat → List V → S → Hp → Prop, Pv 0 [] s1 F1 ∧
      (∀ (i : Nat) acc s F, i ≤ n.toNat → F Dl = none → Pv i acc s F → acc.length ≤ i) ∧ (∀ (i : Nat) acc s F, (i : Int) < n → F Dl = none → Pv i acc s F → LcTurn J Dl g tt te vs σ acc (.int (i : Int)) s F (Pv (i + 1))) ∧
      (∀ acc s F, F Dl = none → Pv n.toNat acc s F → R (.ref Dl) s (upd F Dl (.lst acc)))) : EW J (tLc (iRng1 ta) g tt te vs) σ s F R := fun H j Q q =>
  h H j _ fun v s1 F1 H1 j1 ⟨n, e, hz, hz2, k⟩ => ⟨n, e, by omega, by omega, fun Dl hD => by
    have fD := hd.fresh j1 hD
    obtain ⟨Pv, h0, hl, hs, hdn⟩ := k Dl fD
    refine lc_range (lo := 0) (n := n.toNat) (fun i H => ∃ acc s F, i ≤ n.toNat ∧ F Dl = none ∧ J s (upd F Dl (.lst acc)) H ∧ Pv i acc s F) ⟨[], s1, F1, Nat.zero_le _, fD, hd.al j1 hD, h0⟩ (fun i H' hi ⟨acc, s', F', hle, f1, j', p⟩ => ?_) (fun H' ⟨acc, s', F', _, f1, j', p⟩ => q _ _ _ _ j' (hdn acc s' F' f1 p))
    have f3 := hl i acc s' F' hle f1 p
    have e0 : (0 : Int) + (i : Int) = (i : Int) := Int.zero_add _
    rw [e0]
    exact lc_step hd (by omega) (hs i acc s' F' (by omega) f1 p) f1 j' fun acc s F H fd j p => ⟨acc, s, F, by omega, fd, j, p⟩⟩
end
end Obr
namespace Obr
open PySem L2
def top (i : Nat) : Stmt := PySem.Challenge.pw_onebreath_k08_whole_orders_without_refil.main.body.getD i (.Pass ⟨0, 0, 0, 0⟩)

local macro_rules | `(tactic| walk_at "ob_at") => `(tactic| first
  | assumption
  | exact upd_same
  | (refine Eq.trans (upd_ne ?obn) ?obr; (case obn => walk_at "ob_ne"); (case obr => walk_at "ob_at")))
local macro_rules | `(tactic| walk_at "ob_ne") => `(tactic| first
  | assumption
  | (refine Ne.symm ?obs; (case obs => assumption))
  | (refine' ne_of_none (H := ?_) ?obe ?obh; (case obh => assumption); (case obe => walk_at "ob_at"))
  | (refine Ne.symm ?obs; (case obs => (refine' ne_of_none (H := ?_) ?obe ?obh; (case obh => assumption); (case obe => walk_at "ob_at")))))
local macro_rules | `(tactic| walk_at "ob_fr") => `(tactic| first
  | assumption
  | (refine Eq.trans (upd_ne ?obn) ?obr; (case obn => walk_at "ob_ne"); (case obr => walk_at "ob_fr"))
  | (refine Ex.free (G := ?_) (by assumption) ?obh; (case obh => walk_at "ob_fr")))
local macro_rules | `(tactic| walk_at "ob_ex") => `(tactic| first
  | assumption
  | exact Ex.refl _
  | (refine Ex.out ?obg ?obh; (case obh => assumption); (case obg => walk_at "ob_ex"))
  | (refine Ex.new ?obg ?obh; (case obh => assumption); (case obg => walk_at "ob_ex"))
  | (refine Ex.new ?obg ?obh; (case obh => walk_at "ob_fr"); (case obg => walk_at "ob_ex")))
local macro_rules | `(tactic| walk_at "ob_sq") => `(tactic| first
  | assumption
  | (refine SqL.of ?oba; (case oba => walk_at "ob_at"))
  | (refine SqT.of ?oba; (case oba => walk_at "ob_at")))
local macro_rules | `(tactic| walk_at "ob_side") => `(tactic| first | exact rfl | assumption | decide | omega | exact ⟨by decide, by decide, by decide⟩ | exact Or.inr ⟨by decide, by decide⟩ | exact Or.inl ⟨by decide, by decide⟩)
local macro_rules | `(tactic| walk_at "ob1") => `(tactic| first
  | with_reducible refine sw_seq ?_
  | with_reducible refine sw_asg ?_
  | with_reducible refine sw_ret ?_
  | with_reducible refine sw_drop ?_
  | with_reducible refine sw_if ?_
  | with_reducible refine sw_next ?_
  | with_reducible refine gw_name ?_
  | with_reducible refine ew_c ?_
  | ((with_reducible refine' ew_var (v := ?_) ?obv ?_); (case obv => exact rfl))
  | with_reducible refine ew_op ?_
  | with_reducible refine ew_un ?_
  | with_reducible refine ew_cb ?_
  | with_reducible refine ew_if ?_
  | with_reducible refine aw_nil ?_
  | with_reducible refine aw_cons ?_
  | with_reducible refine rw_I0 ?_
  | ((with_reducible refine rw_I ?obc ?_); (case obc => walk_at "ob_side"))
  | ((with_reducible refine rw_eq ?obc ?_); (case obc => exact rfl))
  | ((with_reducible refine rw_ne ?obc ?_); (case obc => exact rfl))
  | with_reducible refine cw_max2 ?_
  | with_reducible refine cw_min2 ?_
  | with_reducible refine tw_test ?_
  | with_reducible refine tw_B ?_
  | with_reducible refine tw_not ?_
  | with_reducible refine ⟨_, rfl, ?_⟩
  | ((with_reducible refine' rw_ixL (v := ?_) (xs := ?_) (by assumption) ?obl ?oba ?_); (case obl => walk_at "ob_sq"); (case oba => exact rfl))
  | ((with_reducible refine' rw_ixT (v := ?_) (xs := ?_) (by assumption) ?obl ?oba ?_); (case obl => walk_at "ob_sq"); (case oba => exact rfl))
  | ((with_reducible refine' ew_lst (by assumption) ?_))
  | ((with_reducible refine' ew_tup (by assumption) ?_)))
local macro_rules | `(tactic| walk_at "ob") => `(tactic| repeat walk_at "ob1")

abbrev sNext : Stmt := top 23
def N_next : List Str := ["_law_h", "_law_many", "_law_cell"]
theorem sc_next : FnScope N_next ["_law_h", "_law_many"] (defScope sNext) := ⟨rfl, rfl, rfl, by decide +kernel, rfl, by decide +kernel, by decide +kernel⟩
section
variable {P : Program} {w : World} {K : PySem.W.Frag} {mg : Str → Option Value} {base : Heap}

theorem ok_next {f : Addr} {fd : FuncData} (Fn : Fun K "_law_next" "_law_next" sNext f fd) (B : Blt mg) : FnOk P w K mg base CX0 1 f fd ["_law_h", "_law_many"] (LN aNext) := by
  refine Fn.ok sc_next (fun vs H Q E h => ?_) (fun cdv A outer s H vs Q E hr h => ?_)
  · obtain ⟨h, c, J, F, R, ws, hd, rfl, j, ⟨n, rfl, _⟩, _⟩ := h
    rfl
  · have nd := sc_next.nd
    obtain ⟨h, c, J, F, R, ws, hd, rfl, ⟨G, m, p, cells, g, fh, fc, m0, m1, p0, l, gh, gc, j⟩, ⟨n, rfl, n0, n1, k⟩, q⟩ := h
    have hc : h ≠ c := fun e => by
      subst e
      rw [gh] at gc
      have := Option.some.inj gc
      unfold hL cL at this
      injection this with e1
      cases cells with
      | nil => cases e1
      | cons z t => cases t with
        | nil => cases e1
        | cons z2 t =>
          have := (List.cons.inj (List.cons.inj e1).2).1
          cases this
    refine ⟨_, (pss_cons (ps_set (i := 2) nd rfl (Or.inl rfl) (pe_ix ix_list (pe_op op_cat (pe_ix ix_list (pv 0) pe_int (fun _ _ => rfl)) (pe_lst (pa_cons pe_int pa_nil))) (pe_op op_mod (pe_ix ix_list (pv 0) pe_int (fun _ _ => rfl)) (pe_callB (call_max2 rfl) (by rfl) B.max (by decide +kernel) (pa_cons pe_int (pa_cons (pe_callB call_len_seq (by rfl) B.len (by decide +kernel) (pa_cons (pe_ix ix_list (pv 0) pe_int (fun _ _ => rfl)) pa_nil)) pa_nil)))) (fun _ _ => rfl)))
      (pss_cons (ps_if (pt_cmpR op_ge (pv 2) (pe_op op_pow pe_int pe_int) (nomark _)) (pss_cons (ps_asg (pe_op op_fdivW (pv 2) (pv 1)) (pg_sub (pe_ix ix_list (pv 0) pe_int (fun _ _ => rfl)) (pe_op op_mod (pe_ix ix_list (pv 0) pe_int (fun _ _ => rfl)) (pe_callB call_len_seq (by rfl) B.len (by decide +kernel) (pa_cons (pe_ix ix_list (pv 0) pe_int (fun _ _ => rfl)) pa_nil))) set_list))
      (pss_one (ps_ret (pe_op op_mod (pv 2) (pv 1))))) pss_nil)
      (pss_cons (ps_asg (pe_op op_mod (pe_op op_add (pe_op op_add (pe_op op_mul (pe_ix ix_list (pv 0) pe_int (fun _ _ => rfl)) pe_int) (pe_op op_mul (pv 2) pe_int)) pe_int) pe_int) (pg_sub (pv 0) pe_int set_list))
      (pss_cons (ps_asg (pe_op op_add (pe_ix ix_list (pv 0) pe_int (fun _ _ => rfl)) pe_int) (pg_sub (pv 0) pe_int set_list))
      (pss_one (ps_ret (pe_op op_mod (pe_op op_fdivW (pe_ix ix_list (pv 0) pe_int (fun _ _ => rfl)) pe_int) (pv 1)))))))), ?_⟩
    refine LS.body j (R := fun v G => ∃ (m p : Int) (cells : List Int), Ex F G ∧ 0 ≤ m ∧ m < 2147483647 ∧ 0 ≤ p ∧ cells.length ≤ 63 ∧ G h = some (hL c m p) ∧ G c = some (cL cells) ∧ R v F)
      (fun v G' H' j' ⟨m', p', cells', g1, g4, g5, g6, g7, e1, e2, r⟩ => q v F H' ⟨G', m', p', cells', g1, fh, fc, g4, g5, g6, g7, e1, e2, j'⟩ r) ?_
    walk_at "ob"
    refine ⟨by decide, fun p1 hp1 => ?_⟩
    walk_at "ob"
    refine rw_cat hd (xs := cells.map V.int) (zs := [V.int 0]) (by walk_at "ob_at") (by walk_at "ob_at") (by simp; omega) fun p2 hp2 => ?_
    walk_at "ob"
    refine cw_lenS hd (ys := cells.map V.int) (Or.inl (by walk_at "ob_sq")) ?_
    walk_at "ob"
    have M0 : 0 < (if ((cells.map V.int).length : Int) > 1 then ((cells.map V.int).length : Int) else 1) := by split <;> omega
    have e0 := Int.emod_nonneg p (show (if ((cells.map V.int).length : Int) > 1 then ((cells.map V.int).length : Int) else 1) ≠ 0 by omega)
    have e1 := Int.emod_lt_of_pos p M0
    generalize ei : p % (if ((cells.map V.int).length : Int) > 1 then ((cells.map V.int).length : Int) else 1) = i at e0 e1
    have e2 : i < ((cells ++ [0]).length : Nat) := by
      rw [List.length_append]
      rw [List.length_map] at e1
      simp only [List.length_singleton]
      split at e1 <;> omega
    have e3 : (cells.map V.int) ++ [V.int 0] = (cells ++ [0]).map V.int := by rw [List.map_append]; rfl
    rw [e3]
    refine rw_ixL hd (SqL.of (by walk_at "ob_at")) (at_ints e0 e2) ?_
    generalize ez : (cells ++ [0]).getD i.toNat 0 = z
    walk_at "ob"
    have e18 : (10 : Int) ^ (18 : Int).toNat = 1000000000000000000 := by decide
    refine ⟨fun hb => ?_, fun hb => ?_⟩
    · have hz := of_decide_eq_true hb
      rw [e18] at hz
      have hcells : 0 < cells.length := by
        cases cells with
        | nil =>
          simp only [List.nil_append] at ez
          cases hi : i.toNat with
          | zero => rw [hi] at ez; simp at ez; omega
          | succ k => rw [hi] at ez; simp at ez; omega
        | cons a t => simp
      walk_at "ob"
      refine rw_I (wide_div (b := 60) n0 (by omega) (by decide) (by decide)) ?_
      refine gw_subL hd ?_
      walk_at "ob"
      refine cw_lenS hd (ys := cells.map V.int) (Or.inl (by walk_at "ob_sq")) ?_
      walk_at "ob"
      have L0 : 0 < ((cells.map V.int).length : Int) := by rw [List.length_map]; omega
      refine rw_I L0 ?_
      have f0 := Int.emod_nonneg p (show ((cells.map V.int).length : Int) ≠ 0 by omega)
      have f1 := Int.emod_lt_of_pos p L0
      refine ⟨c, _, _, _, rfl, rfl, (by walk_at "ob_at"), ixN_of f0 (by exact f1), ?_⟩
      walk_at "ob"
      refine ⟨m, p, cells.set (p % ((cells.map V.int).length : Int)).toNat (z / n), by walk_at "ob_ex", m0, m1, p0, by rw [List.length_set]; exact l, by walk_at "ob_at", ?_, k _ (Int.emod_nonneg _ (by omega)) (Int.emod_lt_of_pos _ n0)⟩
      rw [map_set_int]
      exact upd_same
    · walk_at "ob"
      refine gw_subL hd ?_
      walk_at "ob"
      refine ⟨h, _, _, _, rfl, rfl, (by walk_at "ob_at"), rfl, ?_⟩
      walk_at "ob"
      refine gw_subL hd ?_
      walk_at "ob"
      refine ⟨h, _, _, _, rfl, rfl, (by walk_at "ob_at"), rfl, ?_⟩
      walk_at "ob"
      refine rw_I (wide_div (b := 10) (by decide) (by decide) (by decide) (by decide)) ?_
      walk_at "ob"
      refine ⟨_, p + 1, cells, by walk_at "ob_ex", ?_, ?_, by omega, l, upd_same, by walk_at "ob_at", k _ (Int.emod_nonneg _ (by omega)) (Int.emod_lt_of_pos _ n0)⟩
      · exact Int.emod_nonneg _ (by decide)
      · exact Int.emod_lt_of_pos _ (by decide)
end
end Obr
namespace Obr
open PySem L2
local macro_rules | `(tactic| walk_at "ob_at") => `(tactic| first
  | assumption
  | exact upd_same
  | (refine Eq.trans (upd_ne ?obn) ?obr; (case obn => walk_at "ob_ne"); (case obr => walk_at "ob_at")))
local macro_rules | `(tactic| walk_at "ob_ne") => `(tactic| first
  | assumption
  | (refine Ne.symm ?obs; (case obs => assumption))
  | (refine' ne_of_none (H := ?_) ?obe ?obh; (case obh => assumption); (case obe => walk_at "ob_at"))
  | (refine Ne.symm ?obs; (case obs => (refine' ne_of_none (H := ?_) ?obe ?obh; (case obh => assumption); (case obe => walk_at "ob_at")))))
local macro_rules | `(tactic| walk_at "ob_fr") => `(tactic| first
  | assumption
  | (refine Eq.trans (upd_ne ?obn) ?obr; (case obn => walk_at "ob_ne"); (case obr => walk_at "ob_fr"))
  | (refine Ex.free (G := ?_) (by assumption) ?obh; (case obh => walk_at "ob_fr")))
local macro_rules | `(tactic| walk_at "ob_ex") => `(tactic| first
  | assumption
  | exact Ex.refl _
  | (refine Ex.out ?obg ?obh; (case obh => assumption); (case obg => walk_at "ob_ex"))
  | (refine Ex.new ?obg ?obh; (case obh => assumption); (case obg => walk_at "ob_ex"))
  | (refine Ex.new ?obg ?obh; (case obh => walk_at "ob_fr"); (case obg => walk_at "ob_ex")))
local macro_rules | `(tactic| walk_at "ob_sq") => `(tactic| first
  | assumption
  | (refine SqL.of ?oba; (case oba => walk_at "ob_at"))
  | (refine SqT.of ?oba; (case oba => walk_at "ob_at")))
local macro_rules | `(tactic| walk_at "ob_side") => `(tactic| first | exact rfl | assumption | decide | omega | exact ⟨by decide, by decide, by decide⟩ | exact Or.inr ⟨by decide, by decide⟩ | exact Or.inl ⟨by decide, by decide⟩)
local macro_rules | `(tactic| walk_at "ob1") => `(tactic| first
  | with_reducible refine sw_seq ?_
  | with_reducible refine sw_asg ?_
  | with_reducible refine sw_ret ?_
  | with_reducible refine sw_drop ?_
  | with_reducible refine sw_if ?_
  | with_reducible refine sw_next ?_
  | with_reducible refine gw_name ?_
  | with_reducible refine ew_c ?_
  | ((with_reducible refine' ew_var (v := ?_) ?obv ?_); (case obv => exact rfl))
  | ((with_reducible refine ew_next (by assumption) ?obv ?_); (case obv => exact rfl))
  | ((with_reducible refine ew_world (by assumption) ?obv ?_); (case obv => exact rfl))
  | ((with_reducible refine ew_rule (by assumption) ?obv ?_); (case obv => exact rfl))
  | with_reducible refine ew_op ?_
  | with_reducible refine ew_un ?_
  | with_reducible refine ew_cb ?_
  | with_reducible refine ew_if ?_
  | with_reducible refine aw_nil ?_
  | with_reducible refine aw_cons ?_
  | with_reducible refine rw_I0 ?_
  | ((with_reducible refine rw_I ?obc ?_); (case obc => walk_at "ob_side"))
  | ((with_reducible refine rw_eq ?obc ?_); (case obc => exact rfl))
  | ((with_reducible refine rw_ne ?obc ?_); (case obc => exact rfl))
  | with_reducible refine cw_max2 ?_
  | with_reducible refine cw_min2 ?_
  | with_reducible refine tw_test ?_
  | with_reducible refine tw_B ?_
  | with_reducible refine tw_not ?_
  | (refine' Exists.intro _ (And.intro (show V.bl _ = V.bl _ from rfl) ?_))
  | (refine' Exists.intro _ (And.intro (show V.int _ = V.int _ from rfl) ?_))
  | ((with_reducible refine' rw_ixL (v := ?_) (xs := ?_) (by assumption) ?obl ?oba ?_); (case obl => walk_at "ob_sq"); (case oba => exact rfl))
  | ((with_reducible refine' rw_ixT (v := ?_) (xs := ?_) (by assumption) ?obl ?oba ?_); (case obl => walk_at "ob_sq"); (case oba => exact rfl))
  | ((with_reducible refine' ew_lst (by assumption) ?_))
  | ((with_reducible refine' ew_tup (by assumption) ?_)))
local macro_rules | `(tactic| walk_at "ob_len") => `(tactic| first | exact Nat.le_of_ble_eq_true rfl | (simp; done) | omega)
local macro_rules | `(tactic| walk_at "ob") => `(tactic| repeat walk_at "ob1")

abbrev sMix : Stmt := top 22
def N_mix : List Str := ["_law_script", "_law_seed", "_law_mixed", "_law_cell"]
theorem sc_mix : FnScope N_mix ["_law_script", "_law_seed"] (defScope sMix) := ⟨rfl, rfl, rfl, by decide +kernel, rfl, by decide +kernel, by decide +kernel⟩
abbrev sRule : Stmt := top 26
def N_rule : List Str := ["_law_h"]
theorem sc_rule : FnScope N_rule ["_law_h"] (defScope sRule) := ⟨rfl, rfl, rfl, by decide +kernel, rfl, by decide +kernel, by decide +kernel⟩
section
variable {P : Program} {w : World} {K : PySem.W.Frag} {mg : Str → Option Value} {base : Heap}
theorem ok_mix {f : Addr} {fd : FuncData} (Fn : Fun K "_law_mix" "_law_mix" sMix f fd) (B : Blt mg) : FnOk P w K mg base CX0 1 f fd ["_law_script", "_law_seed"] (LS (aMix K)) := by
  refine Fn.ok sc_mix (fun vs H Q E h => ?_) (fun cdv A outer s H vs Q E hr h => ?_)
  · obtain ⟨J, F, R, hd, j, ⟨a, ns, z, rfl, _⟩, _⟩ := h
    rfl
  · have nd := sc_mix.nd
    obtain ⟨J, F, R, hd, j, ⟨a, ns, z, rfl, hl, z0, z1, k⟩, q⟩ := h
    refine ⟨_, (pss_cons (ps_set (i := 2) nd rfl (Or.inl rfl) (pv 1))
      (pss_cons (ps_for PassesOwn.never rfl (pi_list (pv 0)) (pg_name (i := 3) nd rfl (Or.inl rfl)) (pss_one (ps_set (i := 2) nd rfl (Or.inl rfl) (pe_op op_mod (pe_op op_add (pe_op op_add (pe_op op_mul (pv 2) pe_int) (pe_op op_mod (pv 3) pe_int)) pe_int) pe_int))))
      (pss_one (ps_ret (pe_lst (pa_cons (pv 2) (pa_cons (pe_callTy call_list_of (by rfl) B.list (by decide +kernel) (pa_cons (pv 0) pa_nil)) (pa_cons pe_int pa_nil)))))))), ?_⟩
    refine LS.body j q ?_
    walk_at "ob"
    refine sw_forL hd ?_
    walk_at "ob"
    refine ⟨a, ns.map V.int, fun i σ s G => G = F ∧ ∃ (m : Int) (y : Option V), σ = [some (.ref a), some (.int z), some (.int m), y] ∧ 0 ≤ m ∧ m < 2147483647, rfl, hl, ⟨rfl, z, none, rfl, z0, z1⟩, ?_, ?_, ?_⟩
    · rintro i σ s G hi ⟨rfl, _⟩
      exact hl
    · rintro i x σ s G hi ⟨rfl, m, y, rfl, m0, m1⟩
      obtain ⟨u, rfl⟩ : ∃ u, x = V.int u := by
        rw [List.getElem?_map] at hi
        cases e : ns[i]? with
        | none => rw [e] at hi; cases hi
        | some u => rw [e] at hi; exact ⟨u, (Option.some.inj hi).symm⟩
      walk_at "ob"
      exact ⟨rfl, _, _, rfl, Int.emod_nonneg _ (by decide), Int.emod_lt_of_pos _ (by decide)⟩
    · rintro σ s G ⟨rfl, m, y, rfl, m0, m1⟩
      walk_at "ob"
      refine cw_list hd (ys := ns.map V.int) (Or.inl (by exact hl)) fun c hc => ?_
      walk_at "ob"
      refine ⟨by walk_at "ob_len", fun h hh => ?_⟩
      exact k m c h m0 m1 hc (Ex.free (Ex.new (Ex.refl _) hc) hh) (ne_of_none upd_same hh)
theorem ok_rule {f f1 : Addr} {fd fd1 : FuncData} (Fn : Fun K "_law_rule" "_law_rule" sRule f fd) (B : Blt mg)
    (C_law_next : Cal K mg "_law_next" f1 fd1 ["_law_h", "_law_many"]) (G_law_next : FnOk P w K mg base CX0 1 f1 fd1 ["_law_h", "_law_many"] (LN aNext)) :
    FnOk P w K mg base CX0 2 f fd ["_law_h"] (LN (aRule K)) := by
  refine Fn.ok sc_rule (fun vs H Q E h => ?_) (fun cdv A outer s H vs Q E hr h => ?_)
  · obtain ⟨h, c, J, F, R, ws, hd, rfl, j, ⟨rfl, _⟩, _⟩ := h
    rfl
  · have nd := sc_rule.nd
    obtain ⟨h, c, J, F, R, ws, hd0, rfl, j, ⟨rfl, k⟩, q⟩ := h
    have hd := hd0.hj (h := h) (c := c)
    refine ⟨_, (pss_one (ps_ret (pe_tup (pa_cons (pe_ix ix_list (pe_lst (pa_cons pe_str (pa_cons pe_str (pa_cons pe_str (pa_cons pe_str pa_nil))))) (pe_call G_law_next (hr.mono (by decide)) (by rfl) C_law_next.g C_law_next.k C_law_next.a .nil pass0 (pa_cons (pv 0) (pa_cons pe_int pa_nil))) (fun _ _ => rfl)) (pa_cons (pe_cmpR op_eq (pe_call G_law_next (hr.mono (by decide)) (by rfl) C_law_next.g C_law_next.k C_law_next.a .nil pass0 (pa_cons (pv 0) (pa_cons pe_int pa_nil))) pe_int (nomark _)) pa_nil))))), ?_⟩
    refine LN.body j q ?_
    walk_at "ob"
    refine ⟨by walk_at "ob_len", fun p hp => ?_⟩
    walk_at "ob"
    refine ⟨by decide, by decide, fun r r0 r1 => ?_⟩
    obtain ⟨rg, er⟩ : ∃ rg : Rgt, atI [V.str "rank", V.str "turns", V.str "wait", V.str "least"] r = some (V.str (rgtS rg)) := by
      have : r = 0 ∨ r = 1 ∨ r = 2 ∨ r = 3 := by omega
      rcases this with rfl | rfl | rfl | rfl
      · exact ⟨.rank, rfl⟩
      · exact ⟨.turns, rfl⟩
      · exact ⟨.wait, rfl⟩
      · exact ⟨.least, rfl⟩
    refine rw_ixL hd (SqL.of upd_same) er ?_
    walk_at "ob"
    refine ⟨by decide, by decide, fun r2 r20 r21 => ?_⟩
    walk_at "ob"
    refine ⟨by walk_at "ob_len", fun t ht => ?_⟩
    exact k _ _ rg _ (by walk_at "ob_ex") (.tup (SqT.of upd_same) (.cons (.str _) (.cons (.bl _) .nil)))
end
end Obr
namespace Obr
open PySem L2
local macro_rules | `(tactic| walk_at "ob_at") => `(tactic| first
  | assumption
  | exact upd_same
  | (refine Eq.trans (upd_ne ?obn) ?obr; (case obn => walk_at "ob_ne"); (case obr => walk_at "ob_at")))
local macro_rules | `(tactic| walk_at "ob_ne") => `(tactic| first
  | assumption
  | (refine Ne.symm ?obs; (case obs => assumption))
  | (refine' ne_of_none (H := ?_) ?obe ?obh; (case obh => assumption); (case obe => walk_at "ob_at"))
  | (refine Ne.symm ?obs; (case obs => (refine' ne_of_none (H := ?_) ?obe ?obh; (case obh => assumption); (case obe => walk_at "ob_at")))))
local macro_rules | `(tactic| walk_at "ob_fr") => `(tactic| first
  | assumption
  | (refine Eq.trans (upd_ne ?obn) ?obr; (case obn => walk_at "ob_ne"); (case obr => walk_at "ob_fr"))
  | (refine Ex.free (G := ?_) (by assumption) ?obh; (case obh => walk_at "ob_fr")))
local macro_rules | `(tactic| walk_at "ob_ex") => `(tactic| first
  | assumption
  | exact Ex.refl _
  | (refine Ex.out ?obg ?obh; (case obh => assumption); (case obg => walk_at "ob_ex"))
  | (refine Ex.new ?obg ?obh; (case obh => assumption); (case obg => walk_at "ob_ex"))
  | (refine Ex.new ?obg ?obh; (case obh => walk_at "ob_fr"); (case obg => walk_at "ob_ex")))
local macro_rules | `(tactic| walk_at "ob_sq") => `(tactic| first
  | assumption
  | (refine SqL.of ?oba; (case oba => walk_at "ob_at"))
  | (refine SqT.of ?oba; (case oba => walk_at "ob_at")))
local macro_rules | `(tactic| walk_at "ob_side") => `(tactic| first | exact rfl | assumption | decide | omega | exact ⟨by decide, by decide, by decide⟩ | exact Or.inr ⟨by decide, by decide⟩ | exact Or.inl ⟨by decide, by decide⟩ | exact wide_div (b := 60) (by first | decide | omega) (by first | decide | omega) (by decide) (by decide))
local macro_rules | `(tactic| walk_at "ob1") => `(tactic| first
  | with_reducible refine sw_seq ?_
  | with_reducible refine sw_asg ?_
  | with_reducible refine sw_ret ?_
  | with_reducible refine sw_drop ?_
  | with_reducible refine sw_if ?_
  | with_reducible refine sw_next ?_
  | with_reducible refine gw_name ?_
  | with_reducible refine ew_c ?_
  | ((with_reducible refine' ew_var (v := ?_) ?obv ?_); (case obv => exact rfl))
  | ((with_reducible refine ew_next (by assumption) ?obv ?_); (case obv => exact rfl))
  | ((with_reducible refine ew_world (by assumption) ?obv ?_); (case obv => exact rfl))
  | ((with_reducible refine ew_rule (by assumption) ?obv ?_); (case obv => exact rfl))
  | with_reducible refine ew_op ?_
  | with_reducible refine ew_un ?_
  | with_reducible refine ew_cb ?_
  | with_reducible refine ew_if ?_
  | with_reducible refine aw_nil ?_
  | with_reducible refine aw_cons ?_
  | with_reducible refine rw_I0 ?_
  | ((with_reducible refine rw_I ?obc ?_); (case obc => walk_at "ob_side"))
  | ((with_reducible refine rw_eq ?obc ?_); (case obc => exact rfl))
  | ((with_reducible refine rw_ne ?obc ?_); (case obc => exact rfl))
  | with_reducible refine cw_max2 ?_
  | with_reducible refine cw_min2 ?_
  | with_reducible refine tw_test ?_
  | with_reducible refine tw_B ?_
  | with_reducible refine tw_not ?_
  | (refine' Exists.intro _ (And.intro (show V.bl _ = V.bl _ from rfl) ?_))
  | (refine' Exists.intro _ (And.intro (show V.int _ = V.int _ from rfl) ?_))
  | ((with_reducible refine' rw_ixL (v := ?_) (xs := ?_) (by assumption) ?obl ?oba ?_); (case obl => walk_at "ob_sq"); (case oba => exact rfl))
  | ((with_reducible refine' rw_ixT (v := ?_) (xs := ?_) (by assumption) ?obl ?oba ?_); (case obl => walk_at "ob_sq"); (case oba => exact rfl))
  | ((with_reducible refine' ew_lst (by assumption) ?_))
  | ((with_reducible refine' ew_tup (by assumption) ?_)))
local macro_rules | `(tactic| walk_at "ob_len") => `(tactic| first | exact Nat.le_of_ble_eq_true rfl | (simp; done) | omega)
local macro_rules | `(tactic| walk_at "ob") => `(tactic| repeat walk_at "ob1")

abbrev sWorld : Stmt := top 25
def N_world : List Str := ["_law_h", "_law_most", "_law_cap", "_law_store", "_law_machines", "_law_k", "_law_steps", "_law_time", "_law_draw", "_law_back"]
theorem sc_world : FnScope N_world ["_law_h", "_law_most", "_law_cap"] (defScope sWorld) := ⟨rfl, rfl, rfl, by decide +kernel, rfl, by decide +kernel, by decide +kernel⟩
section
variable {P : Program} {w : World} {K : PySem.W.Frag} {mg : Str → Option Value} {base : Heap}
theorem ok_world {f f1 : Addr} {fd fd1 : FuncData} (Fn : Fun K "_law_world" "_law_world" sWorld f fd) (B : Blt mg)
    (C_law_next : Cal K mg "_law_next" f1 fd1 ["_law_h", "_law_many"]) (G_law_next : FnOk P w K mg base CX0 1 f1 fd1 ["_law_h", "_law_many"] (LN aNext)) :
    FnOk P w K mg base CX0 2 f fd ["_law_h", "_law_most", "_law_cap"] (LN (aWorld K)) := by
  refine Fn.ok sc_world (fun vs H Q E h => ?_) (fun cdv A outer s H vs Q E hr h => ?_)
  · obtain ⟨h, c, J, F, R, ws, hd, rfl, j, ⟨most, cap, rfl, _⟩, _⟩ := h
    rfl
  · have nd := sc_world.nd
    obtain ⟨h, c, J, F, R, ws, hd0, rfl, j, ⟨most, cap, rfl, mo0, mo1, c0, c1, k⟩, q⟩ := h
    have hd := hd0.hj (h := h) (c := c)
    refine ⟨_, (pss_cons (ps_set (i := 3) nd rfl (Or.inl rfl) (pe_tup (pa_cons (pe_op op_add pe_int (pe_call G_law_next (hr.mono (by decide)) (by rfl) C_law_next.g C_law_next.k C_law_next.a .nil pass0 (pa_cons (pv 0) (pa_cons (pv 2) pa_nil)))) (pa_cons pe_int (pa_cons (pe_ix ix_list (pe_lst (pa_cons pe_int (pa_cons pe_int (pa_cons pe_int (pa_cons pe_int (pa_cons (pe_call G_law_next (hr.mono (by decide)) (by rfl) C_law_next.g C_law_next.k C_law_next.a .nil pass0 (pa_cons (pv 0) (pa_cons pe_int pa_nil))) pa_nil)))))) (pe_call G_law_next (hr.mono (by decide)) (by rfl) C_law_next.g C_law_next.k C_law_next.a .nil pass0 (pa_cons (pv 0) (pa_cons pe_int pa_nil))) (fun _ _ => rfl)) pa_nil)))))
      (pss_cons (ps_set (i := 3) nd rfl (Or.inl rfl) (pe_tup (pa_cons (pe_ix ix_tup (pv 3) pe_int (fun _ _ => rfl)) (pa_cons (pe_call G_law_next (hr.mono (by decide)) (by rfl) C_law_next.g C_law_next.k C_law_next.a .nil pass0 (pa_cons (pv 0) (pa_cons (pe_op op_add (pe_ix ix_tup (pv 3) pe_int (fun _ _ => rfl)) pe_int) pa_nil))) (pa_cons (pe_ix ix_tup (pv 3) pe_int (fun _ _ => rfl)) pa_nil)))))
      (pss_cons (ps_set (i := 4) nd rfl (Or.inl rfl) (pe_lst pa_nil))
      (pss_cons (ps_for PassesOwn.never rfl (pi_range1 rfl B.range (pa_cons (pe_call G_law_next (hr.mono (by decide)) (by rfl) C_law_next.g C_law_next.k C_law_next.a .nil pass0 (pa_cons (pv 0) (pa_cons (pe_op op_add (pv 1) pe_int) pa_nil))) pa_nil)) (pg_name (i := 5) nd rfl (Or.inl rfl)) (pss_cons (ps_set (i := 6) nd rfl (Or.inl rfl) (pe_lst pa_nil))
      (pss_cons (ps_for PassesOwn.never rfl (pi_range1 rfl B.range (pa_cons (pe_call G_law_next (hr.mono (by decide)) (by rfl) C_law_next.g C_law_next.k C_law_next.a .nil pass0 (pa_cons (pv 0) (pa_cons pe_int pa_nil))) pa_nil)) (pg_name (i := 7) nd rfl (Or.inl rfl)) (pss_cons (ps_set (i := 8) nd rfl (Or.inl rfl) (pe_ifExp (pt_cmpR op_eq (pe_call G_law_next (hr.mono (by decide)) (by rfl) C_law_next.g C_law_next.k C_law_next.a .nil pass0 (pa_cons (pv 0) (pa_cons pe_int pa_nil))) pe_int (nomark _)) (pe_call G_law_next (hr.mono (by decide)) (by rfl) C_law_next.g C_law_next.k C_law_next.a .nil pass0 (pa_cons (pv 0) (pa_cons (pe_op op_add (pe_ix ix_tup (pv 3) pe_int (fun _ _ => rfl)) pe_int) pa_nil))) (pe_call G_law_next (hr.mono (by decide)) (by rfl) C_law_next.g C_law_next.k C_law_next.a .nil pass0 (pa_cons (pv 0) (pa_cons (pe_op op_add (pe_callB (call_min2 rfl) (by rfl) B.min (by decide +kernel) (pa_cons pe_int (pa_cons (pe_ix ix_tup (pv 3) pe_int (fun _ _ => rfl)) pa_nil))) pe_int) pa_nil)))))
      (pss_cons (ps_set (i := 9) nd rfl (Or.inl rfl) (pe_ix ix_list (pe_lst (pa_cons pe_int (pa_cons (pv 8) (pa_cons (pe_call G_law_next (hr.mono (by decide)) (by rfl) C_law_next.g C_law_next.k C_law_next.a .nil pass0 (pa_cons (pv 0) (pa_cons (pe_op op_add (pv 8) pe_int) pa_nil))) pa_nil)))) (pe_call G_law_next (hr.mono (by decide)) (by rfl) C_law_next.g C_law_next.k C_law_next.a .nil pass0 (pa_cons (pv 0) (pa_cons pe_int pa_nil))) (fun _ _ => rfl)))
      (pss_one (ps_expr (pe_bm PySem.F.plainAttrs_list PySem.F.slot_list_append PySem.F.type_list_append mt_append (pv 6) (pa_cons (pe_tup (pa_cons (pv 8) (pa_cons (pe_op op_add pe_int (pe_call G_law_next (hr.mono (by decide)) (by rfl) C_law_next.g C_law_next.k C_law_next.a .nil pass0 (pa_cons (pv 0) (pa_cons (pe_ix ix_list (pe_lst (pa_cons pe_int (pa_cons pe_int pa_nil))) (pe_op op_fdivW (pe_call G_law_next (hr.mono (by decide)) (by rfl) C_law_next.g C_law_next.k C_law_next.a .nil pass0 (pa_cons (pv 0) (pa_cons pe_int pa_nil))) pe_int) (fun _ _ => rfl)) pa_nil)))) (pa_cons (pv 9) pa_nil)))) pa_nil)))))))
      (pss_one (ps_expr (pe_bm PySem.F.plainAttrs_list PySem.F.slot_list_append PySem.F.type_list_append mt_append (pv 4) (pa_cons (pe_callTy call_tuple_of (by rfl) B.tuple (by decide +kernel) (pa_cons (pv 6) pa_nil)) pa_nil)))))))
      (pss_one (ps_ret (pe_tup (pa_cons (pv 3) (pa_cons (pe_callTy call_tuple_of (by rfl) B.tuple (by decide +kernel) (pa_cons (pv 4) pa_nil)) pa_nil))))))))), ?_⟩
    refine LN.body j q ?_
    walk_at "ob"
    refine ⟨by omega, by omega, fun r1 r10 r11 => ?_⟩
    walk_at "ob"
    refine ⟨by decide, by decide, fun r2 r20 r21 => ?_⟩
    walk_at "ob"
    refine ⟨by walk_at "ob_len", fun p1 hp1 => ?_⟩
    walk_at "ob"
    refine ⟨by decide, by decide, fun r3 r30 r31 => ?_⟩
    obtain ⟨rf, erf, rf0, rf1⟩ : ∃ rf : Int, atI [V.int 0, V.int 1, V.int 1, V.int 2, V.int r2] r3 = some (V.int rf) ∧ 0 ≤ rf ∧ rf ≤ 9 := by
      have : r3 = 0 ∨ r3 = 1 ∨ r3 = 2 ∨ r3 = 3 ∨ r3 = 4 := by omega
      rcases this with rfl | rfl | rfl | rfl | rfl
      · exact ⟨0, rfl, by omega, by omega⟩
      · exact ⟨1, rfl, by omega, by omega⟩
      · exact ⟨1, rfl, by omega, by omega⟩
      · exact ⟨2, rfl, by omega, by omega⟩
      · exact ⟨r2, rfl, by omega, by omega⟩
    refine rw_ixL hd (SqL.of upd_same) erf ?_
    walk_at "ob"
    refine ⟨by walk_at "ob_len", fun p2 hp2 => ?_⟩
    walk_at "ob"
    refine ⟨by omega, by omega, fun r4 r40 r41 => ?_⟩
    walk_at "ob"
    refine ⟨by walk_at "ob_len", fun st hst => ?_⟩
    walk_at "ob"
    refine ⟨by walk_at "ob_len", fun ml hml => ?_⟩
    walk_at "ob"
    refine sw_forR1 ?_
    walk_at "ob"
    refine ⟨by omega, by omega, fun nm nm0 nm1 => ?_⟩
    walk_at "ob"
    refine ⟨nm, fun i σ _ G => ∃ (x5 x6 x7 x8 x9 : Option V) (G0 : Hp) (vs : List V) (mss : List (List Stp)), σ = [some (.ref h), some (.int most), some (.int cap), some (.ref st), some (.ref ml), x5, x6, x7, x8, x9] ∧
      Ex F G0 ∧ Ex G0 G ∧ G0 ml = none ∧ G ml = some (.lst vs) ∧ G0 st = some (.tup [.int (1 + r1), .int r4, .int rf]) ∧ DpAll K G0 vs (mss.map macD) ∧ mss.length = i ∧ (∀ ss ∈ mss, ss.length ≤ 4) ∧ ∀ ss ∈ mss, ∀ s ∈ ss, StpOk (1 + r1) s,
      rfl, by omega, by omega, ⟨none, none, none, none, none, _, [], [], rfl, ?_, Ex.new (Ex.refl _) hml, hml, upd_same, upd_same, .nil, rfl, ?_, ?_⟩, ?_, ?_⟩
    · walk_at "ob_ex"
    · intro ss hss; cases hss
    · intro ss hss; cases hss
    · rintro i σ _ G hi ⟨x5, x6, x7, x8, x9, G0, vs, mss, rfl, g1, g2, e1, e2, e3, dv, hl, ok1, ok2⟩
      walk_at "ob"
      refine ⟨by walk_at "ob_len", fun sl hsl => ?_⟩
      have nsl : ml ≠ sl := ne_of_none e2 hsl
      have e4 : G0 sl = none := g2.free hsl
      walk_at "ob"
      refine sw_forR1 ?_
      walk_at "ob"
      refine ⟨by decide, by decide, fun ns ns0 ns1 => ?_⟩
      walk_at "ob"
      refine ⟨ns, fun k σ _ G => ∃ (x7 x8 x9 : Option V) (G1 : Hp) (ws : List V) (ss : List Stp), σ = [some (.ref h), some (.int most), some (.int cap), some (.ref st), some (.ref ml), some (.int (i : Int)), some (.ref sl), x7, x8, x9] ∧
        Ex G0 G1 ∧ Ex G1 G ∧ G1 ml = none ∧ G1 sl = none ∧ G ml = some (.lst vs) ∧ G sl = some (.lst ws) ∧ DpAll K G1 ws (ss.map stpD) ∧ ss.length = k ∧ ∀ s ∈ ss, StpOk (1 + r1) s,
        rfl, by omega, by omega, ⟨x7, x8, x9, G0, [], [], rfl, Ex.refl _, Ex.new g2 hsl, e1, e4, by walk_at "ob_at", upd_same, .nil, rfl, ?_⟩, ?_, ?_⟩
      · intro s hs; cases hs
      · rintro kk σ _ G hk ⟨x7, x8, x9, G1, ws, ss, rfl, g3, g4, e1, e4, e2, e5, dw, hss, oks⟩
        have est : G st = some (.tup [.int (1 + r1), .int r4, .int rf]) := g4 _ _ (g3 _ _ e3)
        refine gw_name ?_
        refine sw_seq (sw_asg ?_)
        refine EW.imp (R := fun v _ G' => G' = G ∧ ∃ dr : Int, v = .int dr ∧ 0 ≤ dr ∧ dr ≤ 1 + r1) ?_ ?_
        · walk_at "ob"
          refine ⟨by decide, by decide, fun q0 q00 q01 => ?_⟩
          walk_at "ob"
          refine ⟨fun hb => ?_, fun hb => ?_⟩
          · walk_at "ob"
            exact ⟨by omega, by omega, fun r5 r50 r51 => ⟨rfl, r5, rfl, r50, by omega⟩⟩
          · walk_at "ob"
            refine ⟨by split <;> omega, by split <;> omega, fun r5 r50 r51 => ⟨rfl, r5, rfl, r50, ?_⟩⟩
            split at r51 <;> omega
        · rintro v _ G' ⟨rfl, dr, rfl, d0, d1⟩
          walk_at "ob"
          refine ⟨by omega, by omega, fun r6 r60 r61 => ?_⟩
          walk_at "ob"
          refine ⟨by walk_at "ob_len", fun p3 hp3 => ?_⟩
          walk_at "ob"
          refine ⟨by decide, by decide, fun r7 r70 r71 => ?_⟩
          obtain ⟨bk, ebk, b0, b1⟩ : ∃ bk : Int, atI [V.int 0, V.int dr, V.int r6] r7 = some (V.int bk) ∧ 0 ≤ bk ∧ bk ≤ dr := by
            have : r7 = 0 ∨ r7 = 1 ∨ r7 = 2 := by omega
            rcases this with rfl | rfl | rfl
            · exact ⟨0, rfl, by omega, by omega⟩
            · exact ⟨dr, rfl, by omega, by omega⟩
            · exact ⟨r6, rfl, by omega, by omega⟩
          refine rw_ixL hd (SqL.of upd_same) ebk ?_
          walk_at "ob"
          refine ew_bmL hd ?_
          walk_at "ob"
          refine ⟨sl, ws, rfl, SqL.of (by walk_at "ob_at"), ?_⟩
          walk_at "ob"
          refine ⟨by walk_at "ob_len", fun p4 hp4 => ?_⟩
          walk_at "ob"
          refine ⟨by decide, by decide, fun r8 r80 r81 => ?_⟩
          walk_at "ob"
          obtain ⟨lo, elo, l0, l1⟩ : ∃ lo : Int, atI [V.int 3, V.int 9] (r8 / 3) = some (V.int lo) ∧ 0 < lo ∧ lo ≤ 9 := by
            have : r8 / 3 = 0 ∨ r8 / 3 = 1 := by omega
            rcases this with e | e
            · exact ⟨3, by rw [e]; rfl, by omega, by omega⟩
            · exact ⟨9, by rw [e]; rfl, by omega, by omega⟩
          refine rw_ixL hd (SqL.of upd_same) elo ?_
          refine ⟨lo, rfl, l0, by omega, fun r9 r90 r91 => ?_⟩
          walk_at "ob"
          refine ⟨by walk_at "ob_len", fun t ht => ?_⟩
          walk_at "ob"
          refine mw_append hd (xs := ws) (by walk_at "ob_at") (by have := dps_len dw; simp at this; omega) ?_
          have n1 : ml ≠ t := by walk_at "ob_ne"
          have n2 : sl ≠ t := by walk_at "ob_ne"
          have hp5 : G1 t = none := Ex.free (Ex.new (Ex.new g4 hp3) hp4) ht
          refine ⟨_, _, _, upd G1 t (.tup [.int dr, .int (1 + r9), .int bk]), ws ++ [.ref t], ss ++ [⟨dr, 1 + r9, bk⟩], rfl, Ex.new g3 hp5, ?_, ?_, ?_, by walk_at "ob_at", upd_same, ?_, by simp [hss], ?_⟩
          · refine Ex.out (Ex.upd (by walk_at "ob_ex")) ?_
            refine Eq.trans (upd_ne ?_) e4
            walk_at "ob_ne"
          · refine Eq.trans (upd_ne ?_) e1
            walk_at "ob_ne"
          · refine Eq.trans (upd_ne ?_) e4
            walk_at "ob_ne"
          · rw [List.map_append]
            refine dps_snoc (dps_ex (Ex.new (Ex.refl _) hp5) dw) (.tup (SqT.of upd_same) (.cons (.int _) (.cons (.int _) (.cons (.int _) .nil))))
          · intro s hs
            rcases List.mem_append.mp hs with hs | hs
            · exact oks s hs
            · simp at hs
              subst hs
              exact ⟨d0, d1, by show 1 ≤ 1 + r9; omega, by show 1 + r9 ≤ 9; omega, b0, b1⟩
      · rintro σ _ G ⟨x7, x8, x9, G1, ws, ss, rfl, g3, g4, e1, e4, e2, e5, dw, hss, oks⟩
        walk_at "ob"
        refine ew_bmL hd ?_
        walk_at "ob"
        refine ⟨ml, vs, rfl, SqL.of e2, ?_⟩
        walk_at "ob"
        refine cw_tuple hd (ys := ws) (SqL.of e5) fun t ht => ?_
        walk_at "ob"
        refine mw_append hd (xs := vs) (by walk_at "ob_at") (by have := dps_len dv; simp at this; omega) ?_
        have n1 : ml ≠ t := by walk_at "ob_ne"
        have hp5 : G1 t = none := g4.free ht
        refine ⟨_, _, _, _, _, upd G1 t (.tup ws), vs ++ [.ref t], mss ++ [ss], rfl, g1.trans (Ex.new g3 hp5), ?_, ?_, upd_same, ?_, ?_, by simp [hl], ?_, ?_⟩
        · refine Ex.out (Ex.upd g4) ?_
          refine Eq.trans (upd_ne ?_) e1
          walk_at "ob_ne"
        · refine Eq.trans (upd_ne ?_) e1
          walk_at "ob_ne"
        · exact Ex.new g3 hp5 _ _ e3
        · rw [List.map_append]
          refine dps_snoc (dps_ex (Ex.new g3 hp5) dv) (.tup (SqT.of upd_same) (dps_ex (Ex.new (Ex.refl _) hp5) dw))
        · intro s hs
          rcases List.mem_append.mp hs with hs | hs
          · exact ok1 s hs
          · simp at hs
            subst hs
            omega
        · intro s hs
          rcases List.mem_append.mp hs with hs | hs
          · exact ok2 s hs
          · simp at hs
            subst hs
            exact oks
    · rintro σ _ G ⟨x5, x6, x7, x8, x9, G0, vs, mss, rfl, g1, g2, e1, e2, e3, dv, hl, ok1, ok2⟩
      walk_at "ob"
      refine cw_tuple hd (ys := vs) (SqL.of e2) fun t ht => ?_
      walk_at "ob"
      refine ⟨by walk_at "ob_len", fun a ha => ?_⟩
      have gA : Ex G0 (upd (upd G t (.tup vs)) a (.tup [.ref st, .ref t])) := by walk_at "ob_ex"
      refine k _ _ ⟨1 + r1, r4, rf, mss⟩ (g1.trans gA) ?_ ⟨?_, ?_, r40, ?_, rf0, rf1, ?_, ?_, ok2⟩ ?_ ?_ ok1
      · refine .tup (SqT.of upd_same) (.cons (.tup (SqT.of (gA _ _ e3)) (.cons (.int _) (.cons (.int _) (.cons (.int _) .nil)))) (.cons (.tup (SqT.of (xs := vs) ?_) (dps_ex gA dv)) .nil))
        walk_at "ob_at"
      · show 1 ≤ 1 + r1; omega
      · show 1 + r1 ≤ 99; omega
      · show r4 ≤ 1 + r1; omega
      · show mss.length ≤ 5; omega
      · intro ss hs
        have := ok1 ss hs
        omega
      · show 1 + r1 ≤ cap; omega
      · show ((mss.length : Nat) : Int) ≤ most; omega
end
end Obr
namespace Obr
open PySem L2 PyProof.Rows
local macro_rules | `(tactic| walk_at "ob_at") => `(tactic| first
  | assumption
  | exact upd_same
  | (refine Eq.trans (upd_ne ?obn) ?obr; (case obn => walk_at "ob_ne"); (case obr => walk_at "ob_at")))
local macro_rules | `(tactic| walk_at "ob_ne") => `(tactic| first
  | assumption
  | (refine Ne.symm ?obs; (case obs => assumption))
  | (refine' ne_of_none (H := ?_) ?obe ?obh; (case obh => assumption); (case obe => walk_at "ob_at"))
  | (refine Ne.symm ?obs; (case obs => (refine' ne_of_none (H := ?_) ?obe ?obh; (case obh => assumption); (case obe => walk_at "ob_at")))))
local macro_rules | `(tactic| walk_at "ob_fr") => `(tactic| first
  | assumption
  | (refine Eq.trans (upd_ne ?obn) ?obr; (case obn => walk_at "ob_ne"); (case obr => walk_at "ob_fr"))
  | (refine Ex.free (G := ?_) (by assumption) ?obh; (case obh => walk_at "ob_fr")))
local macro_rules | `(tactic| walk_at "ob_ex") => `(tactic| first
  | assumption
  | exact Ex.refl _
  | (refine Ex.out ?obg ?obh; (case obh => assumption); (case obg => walk_at "ob_ex"))
  | (refine Ex.new ?obg ?obh; (case obh => assumption); (case obg => walk_at "ob_ex"))
  | (refine Ex.new ?obg ?obh; (case obh => walk_at "ob_fr"); (case obg => walk_at "ob_ex")))
local macro_rules | `(tactic| walk_at "ob_sq") => `(tactic| first
  | assumption
  | (refine SqL.of ?oba; (case oba => walk_at "ob_at"))
  | (refine Ex.sqT (F := ?_) ?obg ?obh; (case obh => assumption); (case obg => walk_at "ob_ex"))
  | (refine Ex.sqL (F := ?_) ?obg ?obh; (case obh => assumption); (case obg => walk_at "ob_ex"))
  | (refine SqT.of ?oba; (case oba => walk_at "ob_at")))
local macro_rules | `(tactic| walk_at "ob_side") => `(tactic| first | exact rfl | assumption | decide | omega | exact ⟨by decide, by decide, by decide⟩ | exact Or.inr ⟨by decide, by decide⟩ | exact Or.inl ⟨by decide, by decide⟩ | exact wide_div (b := 60) (by first | decide | omega) (by first | decide | omega) (by decide) (by decide))
local macro_rules | `(tactic| walk_at "ob1") => `(tactic| first
  | with_reducible refine sw_seq ?_
  | with_reducible refine sw_asg ?_
  | with_reducible refine sw_ret ?_
  | with_reducible refine sw_par ?_
  | with_reducible refine ⟨_, _, rfl, ?_⟩
  | with_reducible refine sw_drop ?_
  | with_reducible refine sw_if ?_
  | with_reducible refine sw_next ?_
  | with_reducible refine gw_name ?_
  | with_reducible refine ew_c ?_
  | ((with_reducible refine' ew_var (v := ?_) ?obv ?_); (case obv => exact rfl))
  | ((with_reducible refine ew_next (by assumption) ?obv ?_); (case obv => exact rfl))
  | ((with_reducible refine ew_world (by assumption) ?obv ?_); (case obv => exact rfl))
  | ((with_reducible refine ew_rule (by assumption) ?obv ?_); (case obv => exact rfl))
  | with_reducible refine ew_op ?_
  | with_reducible refine ew_un ?_
  | with_reducible refine ew_cb ?_
  | with_reducible refine ew_if ?_
  | with_reducible refine ew_slL (by assumption) ?_
  | with_reducible refine ow_some ?_
  | with_reducible refine ow_none ?_
  | with_reducible refine aw_nil ?_
  | with_reducible refine aw_cons ?_
  | with_reducible refine rw_I0 ?_
  | ((with_reducible refine rw_I ?obc ?_); (case obc => walk_at "ob_side"))
  | ((with_reducible refine rw_eq ?obc ?_); (case obc => exact rfl))
  | ((with_reducible refine rw_ne ?obc ?_); (case obc => exact rfl))
  | with_reducible refine cw_max2 ?_
  | with_reducible refine cw_min2 ?_
  | with_reducible refine tw_test ?_
  | with_reducible refine tw_B ?_
  | with_reducible refine tw_not ?_
  | (refine' Exists.intro _ (And.intro (show V.bl _ = V.bl _ from rfl) ?_))
  | (refine' Exists.intro _ (And.intro (show V.int _ = V.int _ from rfl) ?_))
  | ((with_reducible refine' rw_ixL (v := ?_) (xs := ?_) (by assumption) ?obl ?oba ?_); (case obl => walk_at "ob_sq"); (case oba => first | exact rfl | exact at_zero))
  | ((with_reducible refine' rw_ixT (v := ?_) (xs := ?_) (by assumption) ?obl ?oba ?_); (case obl => walk_at "ob_sq"); (case oba => first | exact rfl | exact at_zero))
  | ((with_reducible refine' ew_lst (by assumption) ?_))
  | ((with_reducible refine' ew_tup (by assumption) ?_)))
local macro_rules | `(tactic| walk_at "ob_len") => `(tactic| first | exact Nat.le_of_ble_eq_true rfl | (simp; done) | omega)
local macro_rules | `(tactic| walk_at "ob") => `(tactic| repeat walk_at "ob1")

/-! ### _law_turn: the claims by their keys -/
structure Clm where
  k : Int
  draw : Int
  since : Int
  deriving DecidableEq
def clmD (c : Clm) : PyData := .tuple [.int c.k, .int c.draw, .int c.since]
def ckey (r : Rgt) (last : Int) (c : Clm) : Int := match r with
  | .rank => 0
  | .turns => b2i (decide (c.k ≤ last))
  | .wait => c.since
  | .least => c.draw
def cLt (r : Rgt) (last : Int) (a b : Clm) : Prop := ckey r last a < ckey r last b ∨ (ckey r last a = ckey r last b ∧ a.k < b.k)
instance (r : Rgt) (last : Int) (a b : Clm) : Decidable (cLt r last a b) := by unfold cLt; infer_instance
theorem cLt_trans {r last a b c} (h : cLt r last a b) (h2 : cLt r last b c) : cLt r last a c := by unfold cLt at *; omega
theorem cLt_or {r last a b} (h : a.k ≠ b.k) : cLt r last a b ∨ cLt r last b a := by unfold cLt at *; omega
theorem clmD_eqv (a b : Clm) : PyData.eqv (clmD a) (clmD b) = decide (a = b) := by
  have e : PyData.eqv (clmD a) (clmD b) = ((a.k == b.k) && ((a.draw == b.draw) && ((a.since == b.since) && true))) := by simp only [clmD, PyData.eqv, PyData.eqvAll]
  rw [e]
  obtain ⟨a1, a2, a3⟩ := a
  obtain ⟨b1, b2, b3⟩ := b
  by_cases h : (⟨a1, a2, a3⟩ : Clm) = ⟨b1, b2, b3⟩
  · cases h; simp
  · rw [decide_eq_false h]
    simp only [Clm.mk.injEq, not_and] at h
    by_cases h1 : a1 = b1
    · by_cases h2 : a2 = b2
      · simp [h1, h2, h h1 h2]
      · simp [h1, h2]
    · simp [h1]
theorem clmD_low (c : Clm) : lowD 1 (clmD c) = true := by simp [clmD, lowD]
theorem clmsD_low (cs : List Clm) : lowD 2 (.list (cs.map clmD)) = true := by
  simp only [lowD, List.all_map, List.all_eq_true]
  intro c _
  exact clmD_low c
/-- _law_turn(right, claims, last): the claims in their turn -/
def aTurn (K : PySem.W.Frag) : List V → Hp → VK → Prop := fun vs F R => ∃ (F0 : Hp) (r : Rgt) (last : Int) (ca : Addr) (cvs : List V) (cs : List Clm), vs = [.str (rgtS r), .ref ca, .int last] ∧ Ex F0 F ∧ SqL K F ca cvs ∧ DpAll K F0 cvs (cs.map clmD) ∧ cs.length ≤ 60 ∧ (cs.map Clm.k).Nodup ∧
  ∀ (p : Addr) (F' : Hp) (ts : List Clm) (vs2 : List V), Ex F F' → F p = none → F' p = some (.lst vs2) → DpAll K F0 vs2 (ts.map clmD) → ts.Perm cs → ts.Pairwise (cLt r last) → R (.ref p) F'
section
variable {P : Program} {w : World} {K : PySem.W.Frag} {mg : Str → Option Value} {base : Heap}
end
end Obr
namespace Obr
open PySem L2 PyProof.Rows
local macro_rules | `(tactic| walk_at "ob_at") => `(tactic| first
  | assumption
  | exact upd_same
  | (refine Eq.trans (upd_ne ?obn) ?obr; (case obn => walk_at "ob_ne"); (case obr => walk_at "ob_at")))
local macro_rules | `(tactic| walk_at "ob_ne") => `(tactic| first
  | assumption
  | (refine Ne.symm ?obs; (case obs => assumption))
  | (refine' ne_of_none (H := ?_) ?obe ?obh; (case obh => assumption); (case obe => walk_at "ob_at"))
  | (refine Ne.symm ?obs; (case obs => (refine' ne_of_none (H := ?_) ?obe ?obh; (case obh => assumption); (case obe => walk_at "ob_at")))))
local macro_rules | `(tactic| walk_at "ob_fr") => `(tactic| first
  | assumption
  | (refine Eq.trans (upd_ne ?obn) ?obr; (case obn => walk_at "ob_ne"); (case obr => walk_at "ob_fr"))
  | (refine Ex.free (G := ?_) (by assumption) ?obh; (case obh => walk_at "ob_fr")))
local macro_rules | `(tactic| walk_at "ob_ex") => `(tactic| first
  | assumption
  | exact Ex.refl _
  | (refine Ex.out ?obg ?obh; (case obh => assumption); (case obg => walk_at "ob_ex"))
  | (refine Ex.new ?obg ?obh; (case obh => assumption); (case obg => walk_at "ob_ex"))
  | (refine Ex.new ?obg ?obh; (case obh => walk_at "ob_fr"); (case obg => walk_at "ob_ex")))
local macro_rules | `(tactic| walk_at "ob_sq") => `(tactic| first
  | assumption
  | (refine SqL.of ?oba; (case oba => walk_at "ob_at"))
  | (refine Ex.sqT (F := ?_) ?obg ?obh; (case obh => assumption); (case obg => walk_at "ob_ex"))
  | (refine Ex.sqL (F := ?_) ?obg ?obh; (case obh => assumption); (case obg => walk_at "ob_ex"))
  | (refine SqT.of ?oba; (case oba => walk_at "ob_at")))
local macro_rules | `(tactic| walk_at "ob_side") => `(tactic| first | exact rfl | assumption | decide | omega | exact ⟨by decide, by decide, by decide⟩ | exact Or.inr ⟨by decide, by decide⟩ | exact Or.inl ⟨by decide, by decide⟩ | exact wide_div (b := 60) (by first | decide | omega) (by first | decide | omega) (by decide) (by decide))
local macro_rules | `(tactic| walk_at "ob1") => `(tactic| first
  | with_reducible refine sw_seq ?_
  | with_reducible refine sw_asg ?_
  | with_reducible refine sw_ret ?_
  | with_reducible refine sw_par ?_
  | with_reducible refine ⟨_, _, rfl, ?_⟩
  | with_reducible refine sw_drop ?_
  | with_reducible refine sw_if ?_
  | with_reducible refine sw_next ?_
  | with_reducible refine gw_name ?_
  | with_reducible refine ew_c ?_
  | ((with_reducible refine' ew_var (v := ?_) ?obv ?_); (case obv => exact rfl))
  | ((with_reducible refine ew_next (by assumption) ?obv ?_); (case obv => exact rfl))
  | ((with_reducible refine ew_world (by assumption) ?obv ?_); (case obv => exact rfl))
  | ((with_reducible refine ew_rule (by assumption) ?obv ?_); (case obv => exact rfl))
  | with_reducible refine ew_op ?_
  | with_reducible refine ew_un ?_
  | with_reducible refine ew_dget (by assumption) ?_
  | with_reducible refine uw_I ?_
  | with_reducible refine ppw_nil ?_
  | with_reducible refine ppw_cons ?_
  | with_reducible refine sw_dput (by assumption) ?_
  | with_reducible refine ew_cb ?_
  | with_reducible refine ew_if ?_
  | with_reducible refine ew_slL (by assumption) ?_
  | with_reducible refine ow_some ?_
  | with_reducible refine ow_none ?_
  | with_reducible refine aw_nil ?_
  | with_reducible refine aw_cons ?_
  | with_reducible refine rw_I0 ?_
  | ((with_reducible refine rw_I ?obc ?_); (case obc => walk_at "ob_side"))
  | ((with_reducible refine rw_eq ?obc ?_); (case obc => exact rfl))
  | ((with_reducible refine rw_ne ?obc ?_); (case obc => exact rfl))
  | with_reducible refine cw_max2 ?_
  | with_reducible refine cw_min2 ?_
  | with_reducible refine tw_test ?_
  | with_reducible refine tw_B ?_
  | with_reducible refine tw_not ?_
  | (refine' Exists.intro _ (And.intro (show V.bl _ = V.bl _ from rfl) ?_))
  | (refine' Exists.intro _ (And.intro (show V.int _ = V.int _ from rfl) ?_))
  | ((with_reducible refine' rw_ixL (v := ?_) (xs := ?_) (by assumption) ?obl ?oba ?_); (case obl => walk_at "ob_sq"); (case oba => first | exact rfl | exact at_zero))
  | ((with_reducible refine' rw_ixT (v := ?_) (xs := ?_) (by assumption) ?obl ?oba ?_); (case obl => walk_at "ob_sq"); (case oba => first | exact rfl | exact at_zero))
  | ((with_reducible refine' ew_lst (by assumption) ?_))
  | ((with_reducible refine' ew_tup (by assumption) ?_)))
local macro_rules | `(tactic| walk_at "ob_len") => `(tactic| first | exact Nat.le_of_ble_eq_true rfl | (simp; done) | omega)
local macro_rules | `(tactic| walk_at "ob") => `(tactic| repeat walk_at "ob1")
/-! ### the law's own machines: their state, and where it stands -/
structure Mac where
  at_ : Int
  over : Int
  since : Int
  done : Int
  waits : Int
  ends : Option Int
structure LSt where
  level : Int
  last : Int
  beat : Int
  ms : List Mac
structure WAd where
  w : Addr
  at_ : Addr
  over : Addr
  since : Addr
  done : Addr
  waits : Addr
  ends : Addr
  store : V
  machines : V
  rule : V
def oV : Option Int → V
  | none => .non
  | some i => .int i
def wkeys : List Key := [.inr "store", .inr "machines", .inr "rule", .inr "level", .inr "at", .inr "over", .inr "since", .inr "last", .inr "beat", .inr "done", .inr "waits", .inr "ends"]
theorem wkeys_nd : wkeys.Nodup := by decide +kernel
def wkvs (A : WAd) (t : LSt) : List (Key × V) := [(.inr "store", A.store), (.inr "machines", A.machines), (.inr "rule", A.rule), (.inr "level", .int t.level), (.inr "at", .ref A.at_), (.inr "over", .ref A.over), (.inr "since", .ref A.since),
  (.inr "last", .int t.last), (.inr "beat", .int t.beat), (.inr "done", .ref A.done), (.inr "waits", .ref A.waits), (.inr "ends", .ref A.ends)]
theorem wkvs_nd (A : WAd) (t : LSt) : ((wkvs A t).map (·.1)).Nodup := wkeys_nd
def wown (A : WAd) (t : LSt) : List (Addr × HO) := [(A.w, .dK (wkvs A t)), (A.at_, .lst (t.ms.map fun m => .int m.at_)), (A.over, .lst (t.ms.map fun m => .int m.over)), (A.since, .lst (t.ms.map fun m => .int m.since)),
  (A.done, .lst (t.ms.map fun m => .int m.done)), (A.waits, .lst (t.ms.map fun m => .int m.waits)), (A.ends, .lst (t.ms.map fun m => oV m.ends))]
def stoD (w : Wld) : PyData := .tuple [.int w.cap, .int w.start, .int w.refill]
structure WAt (K : PySem.W.Frag) (F0 F : Hp) (A : WAd) (t : LSt) (w : Wld) (r : Rgt) (p : Bool) (ex : List (Addr × HO)) : Prop where
  own : Own F0 F (wown A t ++ ex)
  st : Dp K F0 A.store (stoD w)
  mc : Dp K F0 A.machines (.tuple (w.ms.map macD))
  ru : Dp K F0 A.rule (rulD r p)
  len : t.ms.length = w.ms.length
/-- all as it is ahead of beat 0 -/
def lBegun (w : Wld) : LSt := ⟨w.start, -1, 0, w.ms.map fun ss => ⟨0, -1, 0, 0, 0, if ss.isEmpty then some 0 else none⟩⟩
/-- _law_begun(world, rule) -/
def aBegun (K : PySem.W.Frag) : List V → Hp → VK → Prop := fun vs F R => ∃ (x y : V) (w : Wld) (r : Rgt) (p : Bool), vs = [x, y] ∧ Dp K F x (wldD w) ∧ Dp K F y (rulD r p) ∧ w.ms.length ≤ 5 ∧ (∀ ss ∈ w.ms, ss.length ≤ 12) ∧
  ∀ (F0 F' : Hp) (A : WAd), Ex F F0 → WAt K F0 F' A (lBegun w) w r p [] → R (.ref A.w) F'
def bk1 (sa ma : Addr) (y : V) (z : Int) (c1 : Addr) : List (Key × V) := [(.inr "store", .ref sa), (.inr "machines", .ref ma), (.inr "rule", y), (.inr "level", .int z), (.inr "at", .ref c1)]
def bk2 (c2 c3 c4 c5 : Addr) : List (Key × V) := [(.inr "over", .ref c2), (.inr "since", .ref c3), (.inr "last", .int (-1)), (.inr "beat", .int 0), (.inr "done", .ref c4), (.inr "waits", .ref c5)]
theorem bk1_m {sa ma y z c1} : mergeK [] (bk1 sa ma y z c1) = bk1 sa ma y z c1 := mergeK_nd _ [] (show (wkeys.take 5).Nodup from by decide +kernel)
theorem bk2_m {c2 c3 c4 c5} : mergeK [] (bk2 c2 c3 c4 c5) = bk2 c2 c3 c4 c5 := mergeK_nd _ [] (show ((wkeys.drop 5).take 6).Nodup from by decide +kernel)
theorem bk12_m {sa ma y z c1 c2 c3 c4 c5} : mergeK (bk1 sa ma y z c1) (bk2 c2 c3 c4 c5) = bk1 sa ma y z c1 ++ bk2 c2 c3 c4 c5 := mergeK_nd _ _ (show (wkeys.take 11).Nodup from by decide +kernel)
theorem bk12_e {sa ma y z c1 c2 c3 c4 c5} {v : V} : putK (bk1 sa ma y z c1 ++ bk2 c2 c3 c4 c5) (.inr "ends") v = bk1 sa ma y z c1 ++ bk2 c2 c3 c4 c5 ++ [(.inr "ends", v)] := mergeK_nd [(.inr "ends", v)] (bk1 sa ma y z c1 ++ bk2 c2 c3 c4 c5) (show wkeys.Nodup from by decide +kernel)
theorem stpD_low (s : Stp) : lowD 1 (stpD s) = true := by simp [stpD, lowD]
theorem macD_low (ss : List Stp) : lowD 2 (macD ss) = true := by
  simp only [macD, lowD, List.all_map, List.all_eq_true]
  intro s _
  exact stpD_low s
section
variable {P : Program} {w : World} {K : PySem.W.Frag} {mg : Str → Option Value} {base : Heap}
end
end Obr
namespace Obr
open PySem L2 PyProof.Rows
/-! ### reading and writing the law's machines -/
theorem atI_int {xs : List V} {i : Int} {v : V} (h0 : 0 ≤ i) (h : xs[i.toNat]? = some v) : atI xs i = some v := by
  obtain ⟨j, rfl⟩ : ∃ j : Nat, i = (j : Int) := ⟨i.toNat, by omega⟩
  exact atI_nat (by simpa using h)
theorem map_at {α β : Type} {f : α → β} {l : List α} {k : Nat} {m : α} (h : l[k]? = some m) : (l.map f)[k]? = some (f m) := by rw [List.getElem?_map, h]; rfl
theorem set_same {α β : Type} {f : α → β} {l : List α} {k : Nat} {m : α} (h : l[k]? = some m) : (l.map f).set k (f m) = l.map f := by
  refine List.ext_getElem? fun j => ?_
  rw [List.getElem?_set]
  by_cases c : k = j
  · subst c
    rw [if_pos rfl, map_at h]
    have : k < (l.map f).length := by rw [List.length_map]; exact (List.getElem?_eq_some_iff.mp h).1
    rw [if_pos this]
  · rw [if_neg c]
section
variable {S : Type} {J : S → Hp → Hp → Prop} {K : PySem.W.Frag} {σ : L2.St} {s : S} {F0 F : Hp} {A : WAd} {t : LSt} {w : Wld} {r : Rgt} {p : Bool} {ex : List (Addr × HO)} {R : V → S → Hp → Prop} {D : L2.St → S → Hp → Prop}
theorem WAt.dg (h : WAt K F0 F A t w r p ex) {i : Nat} {k : Key} {v : V} {R : V → Prop} (e : (wkvs A t)[i]? = some (k, v)) (hR : R v) :
    ∃ a kvs k' v', V.ref A.w = .ref a ∧ kV k = kV k' ∧ F a = some (.dK kvs) ∧ valV kvs k' = some v' ∧ R v' :=
  ⟨A.w, wkvs A t, k, v, rfl, rfl, h.own.get (i := 0) rfl, valV_nd (wkvs_nd A t) e, hR⟩
theorem WAt.g_store (h : WAt K F0 F A t w r p ex) {R : V → Prop} (hR : R (A.store)) : ∃ a kvs k' v', V.ref A.w = .ref a ∧ V.str "store" = kV k' ∧ F a = some (.dK kvs) ∧ valV kvs k' = some v' ∧ R v' := h.dg (i := 0) (k := .inr "store") rfl hR
theorem WAt.g_machines (h : WAt K F0 F A t w r p ex) {R : V → Prop} (hR : R (A.machines)) : ∃ a kvs k' v', V.ref A.w = .ref a ∧ V.str "machines" = kV k' ∧ F a = some (.dK kvs) ∧ valV kvs k' = some v' ∧ R v' := h.dg (i := 1) (k := .inr "machines") rfl hR
theorem WAt.g_rule (h : WAt K F0 F A t w r p ex) {R : V → Prop} (hR : R (A.rule)) : ∃ a kvs k' v', V.ref A.w = .ref a ∧ V.str "rule" = kV k' ∧ F a = some (.dK kvs) ∧ valV kvs k' = some v' ∧ R v' := h.dg (i := 2) (k := .inr "rule") rfl hR
theorem WAt.g_level (h : WAt K F0 F A t w r p ex) {R : V → Prop} (hR : R (.int t.level)) : ∃ a kvs k' v', V.ref A.w = .ref a ∧ V.str "level" = kV k' ∧ F a = some (.dK kvs) ∧ valV kvs k' = some v' ∧ R v' := h.dg (i := 3) (k := .inr "level") rfl hR
theorem WAt.g_at (h : WAt K F0 F A t w r p ex) {R : V → Prop} (hR : R (.ref A.at_)) : ∃ a kvs k' v', V.ref A.w = .ref a ∧ V.str "at" = kV k' ∧ F a = some (.dK kvs) ∧ valV kvs k' = some v' ∧ R v' := h.dg (i := 4) (k := .inr "at") rfl hR
theorem WAt.g_over (h : WAt K F0 F A t w r p ex) {R : V → Prop} (hR : R (.ref A.over)) : ∃ a kvs k' v', V.ref A.w = .ref a ∧ V.str "over" = kV k' ∧ F a = some (.dK kvs) ∧ valV kvs k' = some v' ∧ R v' := h.dg (i := 5) (k := .inr "over") rfl hR
theorem WAt.g_since (h : WAt K F0 F A t w r p ex) {R : V → Prop} (hR : R (.ref A.since)) : ∃ a kvs k' v', V.ref A.w = .ref a ∧ V.str "since" = kV k' ∧ F a = some (.dK kvs) ∧ valV kvs k' = some v' ∧ R v' := h.dg (i := 6) (k := .inr "since") rfl hR
theorem WAt.g_last (h : WAt K F0 F A t w r p ex) {R : V → Prop} (hR : R (.int t.last)) : ∃ a kvs k' v', V.ref A.w = .ref a ∧ V.str "last" = kV k' ∧ F a = some (.dK kvs) ∧ valV kvs k' = some v' ∧ R v' := h.dg (i := 7) (k := .inr "last") rfl hR
theorem WAt.g_beat (h : WAt K F0 F A t w r p ex) {R : V → Prop} (hR : R (.int t.beat)) : ∃ a kvs k' v', V.ref A.w = .ref a ∧ V.str "beat" = kV k' ∧ F a = some (.dK kvs) ∧ valV kvs k' = some v' ∧ R v' := h.dg (i := 8) (k := .inr "beat") rfl hR
theorem WAt.g_done (h : WAt K F0 F A t w r p ex) {R : V → Prop} (hR : R (.ref A.done)) : ∃ a kvs k' v', V.ref A.w = .ref a ∧ V.str "done" = kV k' ∧ F a = some (.dK kvs) ∧ valV kvs k' = some v' ∧ R v' := h.dg (i := 9) (k := .inr "done") rfl hR
theorem WAt.g_waits (h : WAt K F0 F A t w r p ex) {R : V → Prop} (hR : R (.ref A.waits)) : ∃ a kvs k' v', V.ref A.w = .ref a ∧ V.str "waits" = kV k' ∧ F a = some (.dK kvs) ∧ valV kvs k' = some v' ∧ R v' := h.dg (i := 10) (k := .inr "waits") rfl hR
theorem WAt.g_ends (h : WAt K F0 F A t w r p ex) {R : V → Prop} (hR : R (.ref A.ends)) : ∃ a kvs k' v', V.ref A.w = .ref a ∧ V.str "ends" = kV k' ∧ F a = some (.dK kvs) ∧ valV kvs k' = some v' ∧ R v' := h.dg (i := 11) (k := .inr "ends") rfl hR
theorem WAt.r_at_ (h : WAt K F0 F A t w r p ex) (hd : Hid J) {k : Nat} {m : Mac} (hm : t.ms[k]? = some m) (hR : R (.int m.at_) s F) : RW J (rIxL K) (.ref A.at_) (.int (k : Int)) s F R :=
  rw_ixL hd (SqL.of (h.own.get (i := 1) rfl)) (atI_nat (map_at hm)) hR
theorem WAt.r_over (h : WAt K F0 F A t w r p ex) (hd : Hid J) {k : Nat} {m : Mac} (hm : t.ms[k]? = some m) (hR : R (.int m.over) s F) : RW J (rIxL K) (.ref A.over) (.int (k : Int)) s F R :=
  rw_ixL hd (SqL.of (h.own.get (i := 2) rfl)) (atI_nat (map_at hm)) hR
theorem WAt.r_since (h : WAt K F0 F A t w r p ex) (hd : Hid J) {k : Nat} {m : Mac} (hm : t.ms[k]? = some m) (hR : R (.int m.since) s F) : RW J (rIxL K) (.ref A.since) (.int (k : Int)) s F R :=
  rw_ixL hd (SqL.of (h.own.get (i := 3) rfl)) (atI_nat (map_at hm)) hR
theorem WAt.r_done (h : WAt K F0 F A t w r p ex) (hd : Hid J) {k : Nat} {m : Mac} (hm : t.ms[k]? = some m) (hR : R (.int m.done) s F) : RW J (rIxL K) (.ref A.done) (.int (k : Int)) s F R :=
  rw_ixL hd (SqL.of (h.own.get (i := 4) rfl)) (atI_nat (map_at hm)) hR
theorem WAt.r_waits (h : WAt K F0 F A t w r p ex) (hd : Hid J) {k : Nat} {m : Mac} (hm : t.ms[k]? = some m) (hR : R (.int m.waits) s F) : RW J (rIxL K) (.ref A.waits) (.int (k : Int)) s F R :=
  rw_ixL hd (SqL.of (h.own.get (i := 5) rfl)) (atI_nat (map_at hm)) hR
theorem WAt.r_mac (h : WAt K F0 F A t w r p ex) (hd : Hid J) {k : Nat} {ss : List Stp} (hs : w.ms[k]? = some ss) (hR : ∀ v, Dp K F0 v (macD ss) → R v s F) : RW J (rIxT K) A.machines (.int (k : Int)) s F R := by
  obtain ⟨a, xs, e, l, d⟩ := dp_tup h.mc
  obtain ⟨v, hv, dv⟩ := dps_get d (map_at hs)
  rw [e]
  exact rw_ixT hd (h.own.ex.sqT l) (atI_nat hv) (hR v dv)
theorem TW.imp {tt : TT} {R R' : Bool → S → Hp → Prop} (h : TW J tt σ s F R) (i : ∀ b s' F', R b s' F' → R' b s' F') : TW J tt σ s F R' := fun H j Q q => h H j Q fun v s' F' H' j' r => q v s' F' H' j' (i _ _ _ r)
theorem r_stp (hd : Hid J) (g : Ex F0 F) {v : V} {ss : List Stp} {i : Int} {st : Stp} (hv : Dp K F0 v (macD ss)) (h0 : 0 ≤ i) (hs : ss[i.toNat]? = some st) (hR : ∀ u, Dp K F0 u (stpD st) → R u s F) : RW J (rIxT K) v (.int i) s F R := by
  obtain ⟨a, xs, e, l, d⟩ := dp_tup hv
  obtain ⟨u, hu, du⟩ := dps_get d (map_at hs)
  rw [e]
  exact rw_ixT hd (g.sqT l) (atI_int h0 hu) (hR u du)
theorem r_fld (hd : Hid J) (g : Ex F0 F) {u : V} {st : Stp} (hu : Dp K F0 u (stpD st)) : (R (.int st.draw) s F → RW J (rIxT K) u (.int 0) s F R) ∧ (R (.int st.long) s F → RW J (rIxT K) u (.int 1) s F R) ∧ (R (.int st.back) s F → RW J (rIxT K) u (.int 2) s F R) := by
  obtain ⟨a, xs, e, l, d⟩ := dp_tup hu
  obtain ⟨_, _, _, rfl, d1, d2, d3⟩ := dps3 d
  cases dp_int d1; cases dp_int d2; cases dp_int d3
  rw [e]
  exact ⟨fun hR => rw_ixT hd (g.sqT l) rfl hR, fun hR => rw_ixT hd (g.sqT l) rfl hR, fun hR => rw_ixT hd (g.sqT l) rfl hR⟩
theorem WAt.r_right (h : WAt K F0 F A t w r p ex) (hd : Hid J) (hR : R (.str (rgtS r)) s F) : RW J (rIxT K) A.rule (.int 0) s F R := by
  obtain ⟨a, xs, e, l, d⟩ := dp_tup h.ru
  obtain ⟨_, _, rfl, d1, d2⟩ := dps2 d
  cases dp_str d1; cases dp_bl d2
  rw [e]
  exact rw_ixT hd (h.own.ex.sqT l) rfl hR
theorem WAt.r_pass (h : WAt K F0 F A t w r p ex) (hd : Hid J) (hR : R (.bl p) s F) : RW J (rIxT K) A.rule (.int 1) s F R := by
  obtain ⟨a, xs, e, l, d⟩ := dp_tup h.ru
  obtain ⟨_, _, rfl, d1, d2⟩ := dps2 d
  cases dp_str d1; cases dp_bl d2
  rw [e]
  exact rw_ixT hd (h.own.ex.sqT l) rfl hR
/-- the value under a written key is put anew -/
theorem WAt.dp (h : WAt K F0 F A t w r p ex) {i : Nat} {k : Key} {v v0 : V} {t' : LSt} (e : (wkvs A t)[i]? = some (k, v0)) (e2 : wkvs A t' = (wkvs A t).set i (k, v)) (em : t'.ms = t.ms) (hN : ∀ F', WAt K F0 F' A t' w r p ex → D σ s F') :
    ∃ a kvs k', V.ref A.w = .ref a ∧ kV k = kV k' ∧ F a = some (.dK kvs) ∧ kvs.length < 100000 ∧ D σ s (upd F a (.dK (putK kvs k' v))) := by
  refine ⟨A.w, wkvs A t, k, rfl, rfl, h.own.get (i := 0) rfl, Nat.lt_of_le_of_lt (Nat.le_of_ble_eq_true (m := 12) rfl) (by decide), hN _ ⟨?_, h.st, h.mc, h.ru, by rw [em]; exact h.len⟩⟩
  have o := h.own.set (i := 0) (a := A.w) (o' := .dK (putK (wkvs A t) k v)) rfl
  have e3 : wown A t' ++ ex = (wown A t ++ ex).set 0 (A.w, .dK (putK (wkvs A t) k v)) := by
    rw [putK_nd (wkvs_nd A t) e, ← e2]
    unfold wown
    rw [em]
    rfl
  rw [e3]
  exact o
theorem WAt.p_level (h : WAt K F0 F A t w r p ex) {z : Int} (hN : ∀ F', WAt K F0 F' A { t with level := z } w r p ex → D σ s F') :
    ∃ a kvs k', V.ref A.w = .ref a ∧ V.str "level" = kV k' ∧ F a = some (.dK kvs) ∧ kvs.length < 100000 ∧ D σ s (upd F a (.dK (putK kvs k' (.int z)))) := h.dp (i := 3) (k := .inr "level") (v := .int z) (t' := { t with level := z }) rfl rfl rfl hN
theorem WAt.p_last (h : WAt K F0 F A t w r p ex) {z : Int} (hN : ∀ F', WAt K F0 F' A { t with last := z } w r p ex → D σ s F') :
    ∃ a kvs k', V.ref A.w = .ref a ∧ V.str "last" = kV k' ∧ F a = some (.dK kvs) ∧ kvs.length < 100000 ∧ D σ s (upd F a (.dK (putK kvs k' (.int z)))) := h.dp (i := 7) (k := .inr "last") (v := .int z) (t' := { t with last := z }) rfl rfl rfl hN
theorem WAt.p_beat (h : WAt K F0 F A t w r p ex) {z : Int} (hN : ∀ F', WAt K F0 F' A { t with beat := z } w r p ex → D σ s F') :
    ∃ a kvs k', V.ref A.w = .ref a ∧ V.str "beat" = kV k' ∧ F a = some (.dK kvs) ∧ kvs.length < 100000 ∧ D σ s (upd F a (.dK (putK kvs k' (.int z)))) := h.dp (i := 8) (k := .inr "beat") (v := .int z) (t' := { t with beat := z }) rfl rfl rfl hN
theorem WAt.s_at_ (h : WAt K F0 F A t w r p ex) {k : Nat} {m : Mac} {z : Int} (hm : t.ms[k]? = some m) (hN : ∀ F', WAt K F0 F' A { t with ms := t.ms.set k { m with at_ := z } } w r p ex → D σ s F') :
    ∃ p xs k' j, V.ref A.at_ = .ref p ∧ V.int (k : Int) = .int k' ∧ F p = some (.lst xs) ∧ ixN xs.length k' = some j ∧ D σ s (upd F p (.lst (xs.set j (.int z)))) := by
  have hk : k < t.ms.length := (List.getElem?_eq_some_iff.mp hm).1
  have o := h.own.set (i := 1) (a := A.at_) (o' := .lst ((t.ms.map fun m => V.int m.at_).set k (.int z))) rfl
  refine ⟨A.at_, _, _, k, rfl, rfl, h.own.get (i := 1) rfl, ?_, hN _ ⟨?_, h.st, h.mc, h.ru, by rw [List.length_set]; exact h.len⟩⟩
  · have := ixN_of (n := (t.ms.map fun m : Mac => V.int m.at_).length) (i := (k : Int)) (by omega) (by rw [List.length_map]; omega)
    exact this
  · have e3 : wown A { t with ms := t.ms.set k { m with at_ := z } } ++ ex = (wown A t ++ ex).set 1 (A.at_, .lst ((t.ms.map fun m => V.int m.at_).set k (.int z))) := by
      unfold wown
      simp only [List.map_set]
      rw [set_same (f := fun m : Mac => V.int m.over) hm, set_same (f := fun m : Mac => V.int m.since) hm, set_same (f := fun m : Mac => V.int m.done) hm, set_same (f := fun m : Mac => V.int m.waits) hm, set_same (f := fun m : Mac => oV m.ends) hm]
      rfl
    rw [e3]
    exact o
theorem WAt.s_over (h : WAt K F0 F A t w r p ex) {k : Nat} {m : Mac} {z : Int} (hm : t.ms[k]? = some m) (hN : ∀ F', WAt K F0 F' A { t with ms := t.ms.set k { m with over := z } } w r p ex → D σ s F') :
    ∃ p xs k' j, V.ref A.over = .ref p ∧ V.int (k : Int) = .int k' ∧ F p = some (.lst xs) ∧ ixN xs.length k' = some j ∧ D σ s (upd F p (.lst (xs.set j (.int z)))) := by
  have hk : k < t.ms.length := (List.getElem?_eq_some_iff.mp hm).1
  have o := h.own.set (i := 2) (a := A.over) (o' := .lst ((t.ms.map fun m => V.int m.over).set k (.int z))) rfl
  refine ⟨A.over, _, _, k, rfl, rfl, h.own.get (i := 2) rfl, ?_, hN _ ⟨?_, h.st, h.mc, h.ru, by rw [List.length_set]; exact h.len⟩⟩
  · have := ixN_of (n := (t.ms.map fun m : Mac => V.int m.over).length) (i := (k : Int)) (by omega) (by rw [List.length_map]; omega)
    exact this
  · have e3 : wown A { t with ms := t.ms.set k { m with over := z } } ++ ex = (wown A t ++ ex).set 2 (A.over, .lst ((t.ms.map fun m => V.int m.over).set k (.int z))) := by
      unfold wown
      simp only [List.map_set]
      rw [set_same (f := fun m : Mac => V.int m.at_) hm, set_same (f := fun m : Mac => V.int m.since) hm, set_same (f := fun m : Mac => V.int m.done) hm, set_same (f := fun m : Mac => V.int m.waits) hm, set_same (f := fun m : Mac => oV m.ends) hm]
      rfl
    rw [e3]
    exact o
theorem WAt.s_since (h : WAt K F0 F A t w r p ex) {k : Nat} {m : Mac} {z : Int} (hm : t.ms[k]? = some m) (hN : ∀ F', WAt K F0 F' A { t with ms := t.ms.set k { m with since := z } } w r p ex → D σ s F') :
    ∃ p xs k' j, V.ref A.since = .ref p ∧ V.int (k : Int) = .int k' ∧ F p = some (.lst xs) ∧ ixN xs.length k' = some j ∧ D σ s (upd F p (.lst (xs.set j (.int z)))) := by
  have hk : k < t.ms.length := (List.getElem?_eq_some_iff.mp hm).1
  have o := h.own.set (i := 3) (a := A.since) (o' := .lst ((t.ms.map fun m => V.int m.since).set k (.int z))) rfl
  refine ⟨A.since, _, _, k, rfl, rfl, h.own.get (i := 3) rfl, ?_, hN _ ⟨?_, h.st, h.mc, h.ru, by rw [List.length_set]; exact h.len⟩⟩
  · have := ixN_of (n := (t.ms.map fun m : Mac => V.int m.since).length) (i := (k : Int)) (by omega) (by rw [List.length_map]; omega)
    exact this
  · have e3 : wown A { t with ms := t.ms.set k { m with since := z } } ++ ex = (wown A t ++ ex).set 3 (A.since, .lst ((t.ms.map fun m => V.int m.since).set k (.int z))) := by
      unfold wown
      simp only [List.map_set]
      rw [set_same (f := fun m : Mac => V.int m.at_) hm, set_same (f := fun m : Mac => V.int m.over) hm, set_same (f := fun m : Mac => V.int m.done) hm, set_same (f := fun m : Mac => V.int m.waits) hm, set_same (f := fun m : Mac => oV m.ends) hm]
      rfl
    rw [e3]
    exact o
theorem WAt.s_done (h : WAt K F0 F A t w r p ex) {k : Nat} {m : Mac} {z : Int} (hm : t.ms[k]? = some m) (hN : ∀ F', WAt K F0 F' A { t with ms := t.ms.set k { m with done := z } } w r p ex → D σ s F') :
    ∃ p xs k' j, V.ref A.done = .ref p ∧ V.int (k : Int) = .int k' ∧ F p = some (.lst xs) ∧ ixN xs.length k' = some j ∧ D σ s (upd F p (.lst (xs.set j (.int z)))) := by
  have hk : k < t.ms.length := (List.getElem?_eq_some_iff.mp hm).1
  have o := h.own.set (i := 4) (a := A.done) (o' := .lst ((t.ms.map fun m => V.int m.done).set k (.int z))) rfl
  refine ⟨A.done, _, _, k, rfl, rfl, h.own.get (i := 4) rfl, ?_, hN _ ⟨?_, h.st, h.mc, h.ru, by rw [List.length_set]; exact h.len⟩⟩
  · have := ixN_of (n := (t.ms.map fun m : Mac => V.int m.done).length) (i := (k : Int)) (by omega) (by rw [List.length_map]; omega)
    exact this
  · have e3 : wown A { t with ms := t.ms.set k { m with done := z } } ++ ex = (wown A t ++ ex).set 4 (A.done, .lst ((t.ms.map fun m => V.int m.done).set k (.int z))) := by
      unfold wown
      simp only [List.map_set]
      rw [set_same (f := fun m : Mac => V.int m.at_) hm, set_same (f := fun m : Mac => V.int m.over) hm, set_same (f := fun m : Mac => V.int m.since) hm, set_same (f := fun m : Mac => V.int m.waits) hm, set_same (f := fun m : Mac => oV m.ends) hm]
      rfl
    rw [e3]
    exact o
theorem WAt.s_waits (h : WAt K F0 F A t w r p ex) {k : Nat} {m : Mac} {z : Int} (hm : t.ms[k]? = some m) (hN : ∀ F', WAt K F0 F' A { t with ms := t.ms.set k { m with waits := z } } w r p ex → D σ s F') :
    ∃ p xs k' j, V.ref A.waits = .ref p ∧ V.int (k : Int) = .int k' ∧ F p = some (.lst xs) ∧ ixN xs.length k' = some j ∧ D σ s (upd F p (.lst (xs.set j (.int z)))) := by
  have hk : k < t.ms.length := (List.getElem?_eq_some_iff.mp hm).1
  have o := h.own.set (i := 5) (a := A.waits) (o' := .lst ((t.ms.map fun m => V.int m.waits).set k (.int z))) rfl
  refine ⟨A.waits, _, _, k, rfl, rfl, h.own.get (i := 5) rfl, ?_, hN _ ⟨?_, h.st, h.mc, h.ru, by rw [List.length_set]; exact h.len⟩⟩
  · have := ixN_of (n := (t.ms.map fun m : Mac => V.int m.waits).length) (i := (k : Int)) (by omega) (by rw [List.length_map]; omega)
    exact this
  · have e3 : wown A { t with ms := t.ms.set k { m with waits := z } } ++ ex = (wown A t ++ ex).set 5 (A.waits, .lst ((t.ms.map fun m => V.int m.waits).set k (.int z))) := by
      unfold wown
      simp only [List.map_set]
      rw [set_same (f := fun m : Mac => V.int m.at_) hm, set_same (f := fun m : Mac => V.int m.over) hm, set_same (f := fun m : Mac => V.int m.since) hm, set_same (f := fun m : Mac => V.int m.done) hm, set_same (f := fun m : Mac => oV m.ends) hm]
      rfl
    rw [e3]
    exact o
theorem WAt.s_ends (h : WAt K F0 F A t w r p ex) {k : Nat} {m : Mac} {z : Option Int} (hm : t.ms[k]? = some m) (hN : ∀ F', WAt K F0 F' A { t with ms := t.ms.set k { m with ends := z } } w r p ex → D σ s F') :
    ∃ p xs k' j, V.ref A.ends = .ref p ∧ V.int (k : Int) = .int k' ∧ F p = some (.lst xs) ∧ ixN xs.length k' = some j ∧ D σ s (upd F p (.lst (xs.set j (oV z)))) := by
  have hk : k < t.ms.length := (List.getElem?_eq_some_iff.mp hm).1
  have o := h.own.set (i := 6) (a := A.ends) (o' := .lst ((t.ms.map fun m => oV m.ends).set k (oV z))) rfl
  refine ⟨A.ends, _, _, k, rfl, rfl, h.own.get (i := 6) rfl, ?_, hN _ ⟨?_, h.st, h.mc, h.ru, by rw [List.length_set]; exact h.len⟩⟩
  · have := ixN_of (n := (t.ms.map fun m : Mac => oV m.ends).length) (i := (k : Int)) (by omega) (by rw [List.length_map]; omega)
    exact this
  · have e3 : wown A { t with ms := t.ms.set k { m with ends := z } } ++ ex = (wown A t ++ ex).set 6 (A.ends, .lst ((t.ms.map fun m => oV m.ends).set k (oV z))) := by
      unfold wown
      simp only [List.map_set]
      rw [set_same (f := fun m : Mac => V.int m.at_) hm, set_same (f := fun m : Mac => V.int m.over) hm, set_same (f := fun m : Mac => V.int m.since) hm, set_same (f := fun m : Mac => V.int m.done) hm, set_same (f := fun m : Mac => V.int m.waits) hm]
      rfl
    rw [e3]
    exact o
/-- what is new is known to F0 from now on, or is forgotten, or is owned -/
theorem WAt.new (h : WAt K F0 F A t w r p ex) {a : Addr} {o : HO} (ha : F a = none) : WAt K (upd F0 a o) (upd F a o) A t w r p ex :=
  ⟨h.own.new ha, dp_ex (Ex.new (.refl _) (h.own.ex.free ha)) h.st, dp_ex (Ex.new (.refl _) (h.own.ex.free ha)) h.mc, dp_ex (Ex.new (.refl _) (h.own.ex.free ha)) h.ru, h.len⟩
theorem WAt.new' (h : WAt K F0 F A t w r p ex) {a : Addr} {o : HO} (ha : F a = none) : WAt K F0 (upd F a o) A t w r p ex := ⟨h.own.new' ha, h.st, h.mc, h.ru, h.len⟩
theorem perm_more {α : Type} (l : List α) (x : α) (m : List α) : (l ++ x :: m).Perm (x :: (l ++ m)) := List.perm_middle
theorem WAt.more (h : WAt K F0 F A t w r p ex) {a : Addr} {o : HO} (ha : F a = none) : WAt K F0 (upd F a o) A t w r p ((a, o) :: ex) := ⟨(h.own.more ha).perm List.perm_middle, h.st, h.mc, h.ru, h.len⟩
theorem WAt.grow (h : WAt K F0 F A t w r p ex) {F' : Hp} (g : Ex F F') : WAt K F0 F' A t w r p ex := ⟨h.own.grow g, h.st, h.mc, h.ru, h.len⟩
/-- the first of the cells besides is written -/
theorem WAt.exset {a : Addr} {o o' : HO} {ex : List (Addr × HO)} (h : WAt K F0 F A t w r p ((a, o) :: ex)) : WAt K F0 (upd F a o') A t w r p ((a, o') :: ex) := ⟨h.own.set (i := 7) (a := a) (o' := o') rfl, h.st, h.mc, h.ru, h.len⟩
theorem WAt.ex0 {a : Addr} {o : HO} {ex : List (Addr × HO)} (h : WAt K F0 F A t w r p ((a, o) :: ex)) : F a = some o := h.own.get (i := 7) rfl
/-- the first of the cells besides is written no more -/
theorem WAt.freeze {a : Addr} {o : HO} {ex : List (Addr × HO)} (h : WAt K F0 F A t w r p ((a, o) :: ex)) : WAt K (upd F0 a o) F A t w r p ex := by
  have h0 : F0 a = none := h.own.none (i := 7) rfl
  exact ⟨(h.own.perm (own' := (a, o) :: (wown A t ++ ex)) List.perm_middle.symm).freeze rfl, dp_ex (Ex.new (.refl _) h0) h.st, dp_ex (Ex.new (.refl _) h0) h.mc, dp_ex (Ex.new (.refl _) h0) h.ru, h.len⟩
/-- what was not there ahead is owned from now on -/
theorem WAt.adopt (h : WAt K F0 F A t w r p ex) {F' : Hp} (g : Ex F F') {a : Addr} {o : HO} (ha : F a = none) (hv : F' a = some o) : WAt K F0 F' A t w r p ((a, o) :: ex) := by
  refine ⟨?_, h.st, h.mc, h.ru, h.len⟩
  have h1 : Own F0 F' ((a, o) :: (wown A t ++ ex)) := {
    ex := h.own.ex.trans g
    out := fun q hq => by
      rcases List.mem_cons.mp hq with rfl | hq
      · exact h.own.ex.free ha
      · exact h.own.out q hq
    at_ := fun q hq => by
      rcases List.mem_cons.mp hq with rfl | hq
      · exact hv
      · exact g _ _ (h.own.at_ q hq)
    nd := by
      rw [List.map_cons, List.nodup_cons]
      refine ⟨fun hm => ?_, h.own.nd⟩
      obtain ⟨q, hq, e⟩ := List.mem_map.mp hm
      have := h.own.at_ q hq
      rw [e, ha] at this
      cases this }
  exact h1.perm List.perm_middle
theorem WAt.exset2 {x : Addr × HO} {a : Addr} {o o' : HO} {ex : List (Addr × HO)} (h : WAt K F0 F A t w r p (x :: (a, o) :: ex)) : WAt K F0 (upd F a o') A t w r p (x :: (a, o') :: ex) := ⟨h.own.set (i := 8) (a := a) (o' := o') rfl, h.st, h.mc, h.ru, h.len⟩
theorem WAt.swap {x y : Addr × HO} {ex : List (Addr × HO)} (h : WAt K F0 F A t w r p (x :: y :: ex)) : WAt K F0 F A t w r p (y :: x :: ex) := ⟨h.own.perm (List.Perm.append_left _ (List.Perm.swap x y ex)), h.st, h.mc, h.ru, h.len⟩
theorem WAt.drop {x : Addr × HO} {ex : List (Addr × HO)} (h : WAt K F0 F A t w r p (x :: ex)) : WAt K F0 F A t w r p ex := ⟨⟨h.own.ex, fun q hq => h.own.out q (by rcases List.mem_append.mp hq with h | h; exact List.mem_append.mpr (.inl h); exact List.mem_append.mpr (.inr (List.mem_cons_of_mem _ h))),
  fun q hq => h.own.at_ q (by rcases List.mem_append.mp hq with h | h; exact List.mem_append.mpr (.inl h); exact List.mem_append.mpr (.inr (List.mem_cons_of_mem _ h))), by
    have := (h.own.perm (own' := x :: (wown A t ++ ex)) List.perm_middle.symm).nd
    rw [List.map_cons, List.nodup_cons] at this
    exact this.2⟩, h.st, h.mc, h.ru, h.len⟩
end
end Obr
namespace Obr
open PySem L2 PyProof.Rows
/-! ### a beat of the law's machines -/
def minI (a b : Int) : Int := if b < a then b else a
def lEnd (w : Wld) (anew : Bool) (t : LSt) (k : Nat) : LSt :=
  match t.ms[k]?, w.ms[k]? with
  | some m, some ss =>
    if m.over = t.beat then
      match ss[m.at_.toNat]? with
      | some s =>
        if m.at_ + 1 = ss.length then { t with level := minI w.cap (t.level + s.back), ms := t.ms.set k ⟨if anew then 0 else m.at_ + 1, -1, t.beat, m.done + 1, m.waits, some t.beat⟩ }
        else { t with level := minI w.cap (t.level + s.back), ms := t.ms.set k ⟨m.at_ + 1, -1, t.beat, m.done + 1, m.waits, m.ends⟩ }
      | none => t
    else t
  | _, _ => t
def lEnds (w : Wld) (anew : Bool) (t : LSt) : Nat → LSt
  | 0 => t
  | n + 1 => lEnd w anew (lEnds w anew t n) n
def lFill (w : Wld) (t : LSt) : LSt := if 0 < t.beat then { t with level := minI w.cap (t.level + w.refill) } else t
def lClaim (w : Wld) (t : LSt) (k : Nat) : List Clm :=
  match t.ms[k]?, w.ms[k]? with
  | some m, some ss => if m.over < 0 ∧ m.at_ < ss.length then (match ss[m.at_.toNat]? with | some s => [⟨k, s.draw, m.since⟩] | none => []) else []
  | _, _ => []
def lClaims (w : Wld) (t : LSt) : Nat → List Clm
  | 0 => []
  | n + 1 => lClaims w t n ++ lClaim w t n
def lDraw (w : Wld) (p : Bool) (x : LSt × List Int × Bool) (c : Clm) : LSt × List Int × Bool :=
  match x.1.ms[c.k.toNat]?, w.ms[c.k.toNat]? with
  | some m, some ss =>
    if x.2.2 = true ∧ c.draw ≤ x.1.level then
      match ss[m.at_.toNat]? with
      | some s => ({ x.1 with level := x.1.level - c.draw, ms := x.1.ms.set c.k.toNat { m with over := x.1.beat + s.long } }, x.2.1 ++ [c.k], x.2.2)
      | none => x
    else ({ x.1 with ms := x.1.ms.set c.k.toNat { m with waits := m.waits + 1 } }, x.2.1, x.2.2 && p)
  | _, _ => x
def lDraws (w : Wld) (p : Bool) (ts : List Clm) (t : LSt) : LSt × List Int × Bool := ts.foldl (lDraw w p) (t, [], true)
def lLast (t : LSt) (bg : List Int) : LSt := { t with last := (if bg.isEmpty then t.last else bg.getLastD 0), beat := t.beat + 1 }
/-- the claims in their turn: any list that is that -/
structure TurnOk (r : Rgt) (last : Int) (cs ts : List Clm) : Prop where
  perm : ts.Perm cs
  srt : ts.Pairwise (cLt r last)
/-- a beat: from t to t', told (level, began) -/
structure LBeat (w : Wld) (r : Rgt) (p : Bool) (anew : Bool) (t t' : LSt) (lv : Int) (bg : List Int) : Prop where
  ex : ∃ ts, TurnOk r (lFill w (lEnds w anew t w.ms.length)).last (lClaims w (lFill w (lEnds w anew t w.ms.length)) w.ms.length) ts ∧ bg = (lDraws w p ts (lFill w (lEnds w anew t w.ms.length))).2.1 ∧
    t' = lLast (lDraws w p ts (lFill w (lEnds w anew t w.ms.length))).1 bg ∧ lv = t'.level
structure MacOk (ss : List Stp) (m : Mac) : Prop where
  a0 : 0 ≤ m.at_
  a1 : m.at_ ≤ ss.length
  o : 0 ≤ m.over → m.at_ < ss.length
structure LOk (w : Wld) (t : LSt) : Prop where
  b : 0 ≤ t.beat
  m : ∀ (k : Nat) (m : Mac) (ss : List Stp), t.ms[k]? = some m → w.ms[k]? = some ss → MacOk ss m
  len : t.ms.length = w.ms.length
theorem LOk.set {w : Wld} {t t' : LSt} {k : Nat} {m' : Mac} {ss : List Stp} (h : LOk w t) (hs : w.ms[k]? = some ss) (hm : MacOk ss m') (e : t'.ms = t.ms.set k m') (b : t'.beat = t.beat) : LOk w t' where
  b := by rw [b]; exact h.b
  m := fun j m2 ss2 h1 h2 => by
    rw [e, List.getElem?_set] at h1
    by_cases c : k = j
    · subst c
      rw [if_pos rfl] at h1
      rw [hs] at h2
      cases h2
      have : m2 = m' := by
        split at h1
        · exact (Option.some.inj h1).symm
        · cases h1
      subst this
      exact hm
    · rw [if_neg c] at h1
      exact h.m j m2 ss2 h1 h2
  len := by rw [e, List.length_set]; exact h.len
theorem LOk.same {w : Wld} {t t' : LSt} (h : LOk w t) (e : t'.ms = t.ms) (b : 0 ≤ t'.beat) : LOk w t' := ⟨b, fun k m ss h1 h2 => h.m k m ss (by rw [← e]; exact h1) h2, by rw [e]; exact h.len⟩
theorem lEnd_ok {w : Wld} {anew : Bool} {t : LSt} {k : Nat} (h : LOk w t) : LOk w (lEnd w anew t k) := by
  unfold lEnd
  split
  · rename_i m ss hm hs
    have ho := h.m k m ss hm hs
    split
    · rename_i e
      split
      · rename_i s hst
        have hlt := ho.o (by rw [e]; exact h.b)
        split
        · refine h.set hs (m' := ⟨if anew then 0 else m.at_ + 1, -1, t.beat, m.done + 1, m.waits, some t.beat⟩) ⟨?_, ?_, ?_⟩ rfl rfl
          · show 0 ≤ (if anew then (0 : Int) else m.at_ + 1); have := ho.a0; split <;> omega
          · show (if anew then (0 : Int) else m.at_ + 1) ≤ ss.length; split <;> omega
          · intro hh; exact absurd hh (by show ¬ (0 : Int) ≤ -1; decide)
        · refine h.set hs (m' := ⟨m.at_ + 1, -1, t.beat, m.done + 1, m.waits, m.ends⟩) ⟨?_, ?_, ?_⟩ rfl rfl
          · show 0 ≤ m.at_ + 1; have := ho.a0; omega
          · show m.at_ + 1 ≤ ss.length; omega
          · intro hh; exact absurd hh (by show ¬ (0 : Int) ≤ -1; decide)
      · exact h
    · exact h
  · exact h
theorem lEnds_ok {w : Wld} {anew : Bool} {t : LSt} (h : LOk w t) : ∀ n, LOk w (lEnds w anew t n)
  | 0 => h
  | n + 1 => lEnd_ok (lEnds_ok h n)
theorem lFill_ok {w : Wld} {t : LSt} (h : LOk w t) : LOk w (lFill w t) := by
  unfold lFill
  split
  · exact h.same rfl h.b
  · exact h
theorem lDraw_ok {w : Wld} {p : Bool} {x : LSt × List Int × Bool} {c : Clm} (h : LOk w x.1) (hc : ∀ m ss, x.1.ms[c.k.toNat]? = some m → w.ms[c.k.toNat]? = some ss → m.at_ < ss.length) : LOk w (lDraw w p x c).1 := by
  unfold lDraw
  split
  · rename_i m ss hm hs
    have ho := h.m _ m ss hm hs
    split
    · split
      · rename_i s _; exact h.set (k := c.k.toNat) (m' := { m with over := x.1.beat + s.long }) hs ⟨ho.a0, ho.a1, fun _ => hc m ss hm hs⟩ rfl rfl
      · exact h
    · exact h.set (k := c.k.toNat) (m' := { m with waits := m.waits + 1 }) hs ⟨ho.a0, ho.a1, ho.o⟩ rfl rfl
  · exact h
theorem lEnd_beat {w : Wld} {anew : Bool} {t : LSt} {k : Nat} : (lEnd w anew t k).beat = t.beat := by
  unfold lEnd
  repeat' split
  all_goals rfl
theorem lEnds_beat {w : Wld} {anew : Bool} {t : LSt} : ∀ n, (lEnds w anew t n).beat = t.beat
  | 0 => rfl
  | n + 1 => by rw [lEnds, lEnd_beat, lEnds_beat n]
theorem lClaim_mem {w : Wld} {t : LSt} {k : Nat} {c : Clm} (h : c ∈ lClaim w t k) : ∃ m ss st, t.ms[k]? = some m ∧ w.ms[k]? = some ss ∧ m.over < 0 ∧ m.at_ < ss.length ∧ ss[m.at_.toNat]? = some st ∧ c = ⟨k, st.draw, m.since⟩ := by
  unfold lClaim at h
  split at h
  · rename_i m ss hm hs
    split at h
    · rename_i hc
      split at h
      · rename_i st hst
        simp at h
        exact ⟨m, ss, st, hm, hs, hc.1, hc.2, hst, h⟩
      · cases h
    · cases h
  · cases h
theorem lClaims_mem {w : Wld} {t : LSt} {c : Clm} : ∀ {n : Nat}, c ∈ lClaims w t n → ∃ j, j < n ∧ c ∈ lClaim w t j
  | 0, h => by cases h
  | n + 1, h => by
    rcases List.mem_append.mp h with h | h
    · obtain ⟨j, hj, h⟩ := lClaims_mem h
      exact ⟨j, by omega, h⟩
    · exact ⟨n, by omega, h⟩
theorem lClaims_len {w : Wld} {t : LSt} : ∀ n : Nat, (lClaims w t n).length ≤ n
  | 0 => Nat.le_refl _
  | n + 1 => by
    have := lClaims_len (w := w) (t := t) n
    have h1 : (lClaim w t n).length ≤ 1 := by
      unfold lClaim
      repeat' split
      all_goals simp
    rw [lClaims, List.length_append]
    omega
theorem lClaims_nd {w : Wld} {t : LSt} : ∀ n : Nat, ((lClaims w t n).map Clm.k).Nodup
  | 0 => List.nodup_nil
  | n + 1 => by
    rw [lClaims, List.map_append, List.nodup_append]
    refine ⟨lClaims_nd n, ?_, ?_⟩
    · have h1 : (lClaim w t n).length ≤ 1 := by
        unfold lClaim
        repeat' split
        all_goals simp
      match e : lClaim w t n, h1 with
      | [], _ => exact List.nodup_nil
      | [x], _ => simp
      | x :: y :: l, h1 => simp at h1
    · intro a ha b hb e
      obtain ⟨c, hc, rfl⟩ := List.mem_map.mp ha
      obtain ⟨c', hc', rfl⟩ := List.mem_map.mp hb
      obtain ⟨j, hj, hcj⟩ := lClaims_mem hc
      obtain ⟨_, _, _, _, _, _, _, _, rfl⟩ := lClaim_mem hcj
      obtain ⟨_, _, _, _, _, _, _, _, rfl⟩ := lClaim_mem hc'
      simp at e
      omega
/-- where each machine is, is left by a draw as it was -/
def SameAt (T X : LSt) : Prop := X.beat = T.beat ∧ ∀ k : Nat, (X.ms[k]?).map Mac.at_ = (T.ms[k]?).map Mac.at_
theorem SameAt.set {T X X' : LSt} (h : SameAt T X) {k : Nat} {m m' : Mac} (hm : X.ms[k]? = some m) (e : X'.ms = X.ms.set k m') (ea : m'.at_ = m.at_) (eb : X'.beat = X.beat) : SameAt T X' := by
  refine ⟨eb.trans h.1, fun j => ?_⟩
  rw [← h.2 j, e, List.getElem?_set]
  by_cases c : k = j
  · subst c
    rw [if_pos rfl, if_pos (List.getElem?_eq_some_iff.mp hm).1, hm]
    show some m'.at_ = some m.at_
    rw [ea]
  · rw [if_neg c]
end Obr
namespace Obr
open PySem L2 PySem.Spec PyProof.Rows
/-! ### objects: fields, methods, making -/
section
variable {S : Type} {J : S → Hp → Hp → Prop} {K : PySem.W.Frag} {σ : L2.St} {s : S} {F : Hp} {R : V → S → Hp → Prop} {ta tv : TE} {tr : TA} {D : En S} {f : Str} {A : List V → Hp → VK → Prop} {E : XK} {C : Addr} {m : Str}
theorem ew_fld (hd : Hid J) (h : EW J ta σ s F fun x s1 F1 => ∃ a C dx fs v, x = .ref a ∧ F1 a = some (.ins C dx fs) ∧ Cls K C ∧ NoAttr K C f ∧ fs.lookup f = some v ∧ R v s1 F1) : EW J (tFld K ta f) σ s F R := fun H j Q q =>
  h H j _ fun x s1 F1 H1 j1 ⟨a, C, dx, fs, v, e, hf, c, n, l, k⟩ => ⟨a, C, dx, fs, v, e, hd.ex j1 _ _ hf, c, n, l, q _ _ _ _ j1 k⟩
theorem sw_fld (hd : Hid J) (h : EW J tv σ s F fun y s1 F1 => EW J ta σ s1 F1 fun x s2 F2 => ∃ a C dx fs, x = .ref a ∧ F2 a = some (.ins C dx fs) ∧ Cls K C ∧ NoAttr K C f ∧ fs.length < 1000 ∧ D.nx σ s2 (upd F2 a (.ins C dx (putF f y fs)))) :
    SW J (sFld K ta tv f) D σ s F := fun H j D' l =>
  h H j _ fun y s1 F1 H1 j1 h1 => h1 H1 j1 _ fun x s2 F2 H2 j2 ⟨a, C, dx, fs, e, hf, c, n, lf, k⟩ => ⟨a, C, dx, fs, e, hd.ex j2 _ _ hf, c, n, lf, l.nx _ _ _ _ (hd.mu j2 hf) k⟩
theorem sw_fldaugI (hd : Hid J) {g : Int → Int → Int} {rd : V → V → Hp → VK → Prop} (hrd : rd = fun x y H Q => ∃ i j, x = .int i ∧ y = .int j ∧ Q (.int (g i j)) H)
    (h : EW J ta σ s F fun x s1 F1 => ∃ a C dx fs i, x = .ref a ∧ F1 a = some (.ins C dx fs) ∧ Cls K C ∧ NoAttr K C f ∧ fs.lookup f = some (.int i) ∧ EW J tv σ s1 F1 fun y s2 F2 => ∃ j dx' fs', y = .int j ∧ F2 a = some (.ins C dx' fs') ∧ fs'.length < 1000 ∧ D.nx σ s2 (upd F2 a (.ins C dx' (putF f (.int (g i j)) fs')))) :
    SW J (sFldAug K ta tv rd f) D σ s F := fun H j D' l => by
  subst hrd
  exact h H j _ fun x s1 F1 H1 j1 ⟨a, C, dx, fs, i, e, hf, c, n, lk, h2⟩ => ⟨a, C, dx, fs, .int i, e, hd.ex j1 _ _ hf, c, n, lk, h2 H1 j1 _ fun y s2 F2 H2 j2 ⟨jj, dx', fs', ey, hf2, lf, k⟩ =>
    ⟨i, jj, rfl, ey, dx', fs', hd.ex j2 _ _ hf2, lf, l.nx _ _ _ _ (hd.mu j2 hf2) k⟩⟩
theorem ew_meth (hd : Hid J) (h : EW J ta σ s F fun x s1 F1 => ∃ a dx fs, x = .ref a ∧ F1 a = some (.ins C dx fs) ∧ fs.lookup m = none ∧ AW J tr σ s1 F1 fun vs s2 F2 => A (x :: vs) F2 fun v F' => R v s2 F') :
    EW J (tMeth C m (LS A) [] E ta tr) σ s F R := fun H j Q q =>
  h H j _ fun x s1 F1 H1 j1 ⟨a, dx, fs, e, hf, hm, h2⟩ => ⟨a, dx, fs, e, hd.ex j1 _ _ hf, hm, h2 H1 j1 _ fun vs s2 F2 H2 j2 k => by
    show LS A (x :: (vs ++ [])) H2 Q E
    rw [List.append_nil]
    exact ⟨_, F2, _, hd.unit s2, j2, k, fun v F' H' j' r => q v s2 F' H' j' r⟩⟩
theorem ew_make (hd : Hid J) (h : AW J tr σ s F fun vs s1 F1 => ∀ x dx, F1 x = none → F1 dx = none → dx ≠ x → A (.ref x :: vs) (upd (upd F1 dx (.own x)) x (.ins C dx [])) fun v F' => v = .non ∧ R (.ref x) s1 F') : EW J (tMake C (LS A) [] E tr) σ s F R := fun H j Q q =>
  h H j _ fun vs s1 F1 H1 j1 k x dx hx hdx hne => by
    show LS A (.ref x :: (vs ++ [])) _ _ E
    rw [List.append_nil]
    have j2 : J s1 (upd F1 dx (.own x)) (upd H1 dx (.own x)) := hd.al j1 hdx
    have hx2 : upd H1 dx (.own x) x = none := by rw [upd_ne hne.symm]; exact hx
    exact ⟨_, _, _, hd.unit s1, hd.al j2 hx2, k x dx (hd.fresh j1 hx) (hd.fresh j1 hdx) hne, fun v F' H' j' r => ⟨r.1, q _ s1 F' H' j' r.2⟩⟩
end
/-! ### fields by places -/
theorem lookup_nd : ∀ {fs : List (Str × V)} {i : Nat} {k : Str} {v : V}, (fs.map (·.1)).Nodup → fs[i]? = some (k, v) → fs.lookup k = some v
  | [], _, _, _, _, h => by simp at h
  | (k0, v0) :: r, 0, k, v, _, h => by
    simp at h
    rw [← h.1, ← h.2]
    exact List.lookup_cons_self
  | (k0, v0) :: r, i + 1, k, v, hn, h => by
    rw [List.map_cons, List.nodup_cons] at hn
    simp only [List.getElem?_cons_succ] at h
    have : k ≠ k0 := fun e => hn.1 (by rw [← e]; exact List.mem_map.mpr ⟨(k, v), List.mem_of_getElem? h, rfl⟩)
    rw [List.lookup_cons]
    rw [beq_eq_false_iff_ne.mpr this]
    exact lookup_nd hn.2 h
theorem lookup_out : ∀ {fs : List (Str × V)} {k : Str}, k ∉ fs.map (·.1) → fs.lookup k = none
  | [], _, _ => rfl
  | (k0, v0) :: r, k, h => by
    simp only [List.map_cons, List.mem_cons, not_or] at h
    rw [List.lookup_cons, beq_eq_false_iff_ne.mpr h.1]
    exact lookup_out h.2
theorem putF_nd : ∀ {fs : List (Str × V)} {i : Nat} {k : Str} {v v0 : V}, (fs.map (·.1)).Nodup → fs[i]? = some (k, v0) → putF k v fs = fs.set i (k, v)
  | [], _, _, _, _, _, h => by simp at h
  | (k0, v1) :: r, 0, k, v, v0, hn, h => by
    simp at h
    show (if k0 = k then (k0, v) :: r else (k0, v1) :: putF k v r) = _
    rw [if_pos h.1, h.1]
    rfl
  | (k0, v1) :: r, i + 1, k, v, v0, hn, h => by
    rw [List.map_cons, List.nodup_cons] at hn
    simp only [List.getElem?_cons_succ] at h
    have : k0 ≠ k := fun e => hn.1 (by rw [e]; exact List.mem_map.mpr ⟨(k, v0), List.mem_of_getElem? h, rfl⟩)
    show (if k0 = k then (k0, v) :: r else (k0, v1) :: putF k v r) = _
    rw [if_neg this, putF_nd hn.2 h]
    rfl
theorem putF_out : ∀ {fs : List (Str × V)} {k : Str} {v : V}, k ∉ fs.map (·.1) → putF k v fs = fs ++ [(k, v)]
  | [], _, _, _ => rfl
  | (k0, v0) :: r, k, v, h => by
    simp only [List.map_cons, List.mem_cons, not_or] at h
    show (if k0 = k then (k0, v) :: r else (k0, v0) :: putF k v r) = _
    rw [if_neg (fun e => h.1 e.symm), putF_out h.2]
    rfl
/-- a class whose objects have these fields, none of them a name of the class -/
structure ClsF (K : PySem.W.Frag) (C : Addr) (ns : List Str) : Prop where
  cl : Cls K C
  no : ∀ f ∈ ns, NoAttr K C f
/-- a method -/
structure Met (K : PySem.W.Frag) (C : Addr) (m : Str) (f : Addr) (fd : FuncData) (ps : List Str) : Prop where
  cl : Cls K C
  m : Meth K C m f
  a : Binds K fd ps []
/-! ### the program's machines -/
def ovV (i : Int) : V := if i < 0 then .non else .int i
def mkeys : List Str := ["number", "steps", "at", "over", "since", "paused"]
theorem mkeys_nd : mkeys.Nodup := by decide +kernel
def mfs (n : Int) (sv : V) (m : Mac) : List (Str × V) := [("number", .int n), ("steps", sv), ("at", .int m.at_), ("over", ovV m.over), ("since", .int m.since), ("paused", .bl false)]
theorem mfs_nd (n : Int) (sv : V) (m : Mac) : ((mfs n sv m).map (·.1)).Nodup := mkeys_nd
def rkeys : List Str := ["cap", "have", "refill", "anew", "beat", "machines", "right", "passing", "last"]
theorem rkeys_nd : rkeys.Nodup := by decide +kernel
structure MAd where
  a : Addr
  dx : Addr
  sv : V
structure RAd where
  a : Addr
  dx : Addr
  ml : Addr
  C : Addr
  M : Addr
  mads : List MAd
/-- of a shop (sh) the first six, of a run all nine -/
def rfsS (sh : Bool) (A : RAd) (t : LSt) (w : Wld) (r : Rgt) (p anew : Bool) : List (Str × V) := ("cap", V.int w.cap) :: ("have", V.int t.level) :: ("refill", V.int w.refill) :: ("anew", V.bl anew) :: ("beat", V.int t.beat) :: ("machines", V.ref A.ml) :: (match sh with | true => [] | false => [("right", V.str (rgtS r)), ("passing", V.bl p), ("last", ovV t.last)])
abbrev rfs (A : RAd) (t : LSt) (w : Wld) (r : Rgt) (p anew : Bool) : List (Str × V) := rfsS false A t w r p anew
theorem rfs_nd {sh : Bool} (A : RAd) (t : LSt) (w : Wld) (r : Rgt) (p anew : Bool) : ((rfsS sh A t w r p anew).map (·.1)).Nodup := by
  cases sh with
  | false => exact rkeys_nd
  | true => exact (show (rkeys.take 6).Nodup by decide +kernel)
theorem rfs_lt {sh : Bool} {A : RAd} {t : LSt} {w : Wld} {r : Rgt} {p anew : Bool} : (rfsS sh A t w r p anew).length < 1000 := by
  cases sh with
  | false => exact Nat.lt_of_le_of_lt (Nat.le_of_ble_eq_true (m := 9) rfl) (by decide)
  | true => exact Nat.lt_of_le_of_lt (Nat.le_of_ble_eq_true (m := 9) rfl) (by decide)
theorem rfs_no {sh : Bool} {A : RAd} {t : LSt} {w : Wld} {r : Rgt} {p anew : Bool} {f : Str} (h : f ∉ rkeys) : (rfsS sh A t w r p anew).lookup f = none := by
  cases sh with
  | false => exact lookup_out h
  | true => exact lookup_out (fun z => h (List.mem_of_mem_take (i := 6) z))
def mcell (M : Addr) (n : Nat) (ad : MAd) (m : Mac) : Addr × HO := (ad.a, .ins M ad.dx (mfs n ad.sv m))
def mcells (M : Addr) : Nat → List MAd → List Mac → List (Addr × HO)
  | n, ad :: as, m :: ms => mcell M n ad m :: mcells M (n + 1) as ms
  | _, _, _ => []
theorem mcells_get {M : Addr} : ∀ {k n : Nat} {as : List MAd} {ms : List Mac} {ad : MAd} {m : Mac}, as[k]? = some ad → ms[k]? = some m → (mcells M n as ms)[k]? = some (mcell M (n + k) ad m)
  | _, _, [], _, _, _, h, _ => by simp at h
  | _, _, _ :: _, [], _, _, _, h => by simp at h
  | 0, n, a :: as, b :: ms, ad, m, h1, h2 => by
    simp at h1 h2
    subst h1 h2
    rfl
  | k + 1, n, a :: as, b :: ms, ad, m, h1, h2 => by
    simp only [List.getElem?_cons_succ] at h1 h2
    have := mcells_get (M := M) (n := n + 1) h1 h2
    rw [show n + 1 + k = n + (k + 1) from by omega] at this
    exact this
theorem mcells_set {M : Addr} : ∀ {k n : Nat} {as : List MAd} {ms : List Mac} {ad : MAd} {m' : Mac}, as[k]? = some ad → (mcells M n as ms).set k (mcell M (n + k) ad m') = mcells M n as (ms.set k m')
  | _, _, [], _, _, _, h => by simp at h
  | _, _, _ :: _, [], _, _, _ => by simp [mcells]
  | 0, n, a :: as, b :: ms, ad, m', h1 => by
    simp at h1
    subst h1
    rfl
  | k + 1, n, a :: as, b :: ms, ad, m', h1 => by
    simp only [List.getElem?_cons_succ] at h1
    have := mcells_set (M := M) (n := n + 1) (ms := ms) (m' := m') h1
    rw [show n + 1 + k = n + (k + 1) from by omega] at this
    show mcell M n a b :: (mcells M (n + 1) as ms).set k _ = _
    rw [this]
    rfl
/-- of a machine what the program keeps -/
def mcore (m : Mac) : Int × Int × Int := (m.at_, m.over, m.since)
theorem mcell_core {M : Addr} {n : Nat} {ad : MAd} {m m' : Mac} (e : mcore m = mcore m') : mcell M n ad m = mcell M n ad m' := by
  unfold mcore at e
  simp only [Prod.mk.injEq] at e
  unfold mcell mfs
  rw [e.1, e.2.1, e.2.2]
theorem mcells_core {M : Addr} : ∀ {n : Nat} {as : List MAd} {ms ms' : List Mac}, ms.map mcore = ms'.map mcore → mcells M n as ms = mcells M n as ms'
  | _, [], _, _, _ => rfl
  | _, _ :: _, [], [], _ => rfl
  | _, _ :: _, [], _ :: _, h => by simp at h
  | _, _ :: _, _ :: _, [], h => by simp at h
  | n, a :: as, m :: ms, m' :: ms', h => by
    simp only [List.map_cons, List.cons.injEq] at h
    show mcell M n a m :: _ = mcell M n a m' :: _
    rw [mcell_core h.1, mcells_core h.2]
structure SAt (sh : Bool) (K : PySem.W.Frag) (F0 F : Hp) (A : RAd) (t : LSt) (w : Wld) (r : Rgt) (p anew : Bool) (ex : List (Addr × HO)) : Prop where
  own : Own F0 F ((A.a, .ins A.C A.dx (rfsS sh A t w r p anew)) :: (mcells A.M 0 A.mads t.ms ++ ex))
  ml : F0 A.ml = some (.lst (A.mads.map fun ad => .ref ad.a))
  st : ∀ (k : Nat) (ad : MAd) (ss : List Stp), A.mads[k]? = some ad → w.ms[k]? = some ss → Dp K F0 ad.sv (macD ss)
  len1 : A.mads.length = w.ms.length
  len2 : t.ms.length = w.ms.length
abbrev RunAt (K : PySem.W.Frag) (F0 F : Hp) (A : RAd) (t : LSt) (w : Wld) (r : Rgt) (p anew : Bool) (ex : List (Addr × HO)) : Prop := SAt false K F0 F A t w r p anew ex
section
variable {sh : Bool} {S : Type} {J : S → Hp → Hp → Prop} {K : PySem.W.Frag} {σ : L2.St} {s : S} {F0 F : Hp} {A : RAd} {t : LSt} {w : Wld} {r : Rgt} {p anew : Bool} {ex : List (Addr × HO)} {D : L2.St → S → Hp → Prop}
theorem SAt.cell (h : SAt sh K F0 F A t w r p anew ex) : F A.a = some (.ins A.C A.dx (rfsS sh A t w r p anew)) := h.own.get (i := 0) rfl
theorem SAt.mac (h : SAt sh K F0 F A t w r p anew ex) {k : Nat} {ad : MAd} {m : Mac} (h1 : A.mads[k]? = some ad) (h2 : t.ms[k]? = some m) : F ad.a = some (.ins A.M ad.dx (mfs k ad.sv m)) := by
  have h3 := mcells_get (M := A.M) (n := 0) h1 h2
  rw [Nat.zero_add] at h3
  have hk : k < (mcells A.M 0 A.mads t.ms).length := (List.getElem?_eq_some_iff.mp h3).1
  exact h.own.get (i := k + 1) (by rw [List.getElem?_cons_succ, List.getElem?_append_left hk]; exact h3)
/-- the run's own fields are put anew -/
theorem SAt.put (h : SAt sh K F0 F A t w r p anew ex) {t' : LSt} (e : t'.ms = t.ms) : SAt sh K F0 (upd F A.a (.ins A.C A.dx (rfsS sh A t' w r p anew))) A t' w r p anew ex :=
  ⟨by rw [e]; exact h.own.set (i := 0) (a := A.a) (o' := .ins A.C A.dx (rfsS sh A t' w r p anew)) rfl, h.ml, h.st, h.len1, by rw [e]; exact h.len2⟩
/-- a machine's fields are put anew -/
theorem SAt.mput (h : SAt sh K F0 F A t w r p anew ex) {k : Nat} {ad : MAd} {m m' : Mac} (h1 : A.mads[k]? = some ad) (h2 : t.ms[k]? = some m) {t' : LSt} (e : t'.ms = t.ms.set k m') (er : rfsS sh A t' w r p anew = rfsS sh A t w r p anew) :
    SAt sh K F0 (upd F ad.a (.ins A.M ad.dx (mfs k ad.sv m'))) A t' w r p anew ex := by
  have h3 := mcells_get (M := A.M) (n := 0) h1 h2
  rw [Nat.zero_add] at h3
  have hk : k < (mcells A.M 0 A.mads t.ms).length := (List.getElem?_eq_some_iff.mp h3).1
  have o := h.own.set (i := k + 1) (a := ad.a) (o := .ins A.M ad.dx (mfs k ad.sv m)) (o' := .ins A.M ad.dx (mfs k ad.sv m')) (by rw [List.getElem?_cons_succ, List.getElem?_append_left hk]; exact h3)
  have h4 := mcells_set (M := A.M) (n := 0) (ms := t.ms) (m' := m') h1
  rw [Nat.zero_add] at h4
  refine ⟨?_, h.ml, h.st, h.len1, by rw [e, List.length_set]; exact h.len2⟩
  rw [e, ← h4, er]
  rw [List.set_cons_succ, List.set_append_left _ _ hk] at o
  exact o
theorem SAt.same (h : SAt sh K F0 F A t w r p anew ex) {t' : LSt} (e1 : t'.ms.map mcore = t.ms.map mcore) (e2 : t'.level = t.level) (e3 : t'.last = t.last) (e4 : t'.beat = t.beat) : SAt sh K F0 F A t' w r p anew ex :=
  ⟨by rw [mcells_core e1]; unfold rfsS; rw [e2, e3, e4]; exact h.own, h.ml, h.st, h.len1, by have := congrArg List.length e1; simp at this; rw [this]; exact h.len2⟩
theorem SAt.new (h : SAt sh K F0 F A t w r p anew ex) {a : Addr} {o : HO} (ha : F a = none) : SAt sh K (upd F0 a o) (upd F a o) A t w r p anew ex :=
  have h0 := h.own.ex.free ha
  ⟨h.own.new ha, by rw [upd_ne (ne_of_none h.ml h0)]; exact h.ml, fun k ad ss h1 h2 => dp_ex (Ex.new (.refl _) h0) (h.st k ad ss h1 h2), h.len1, h.len2⟩
theorem SAt.new' (h : SAt sh K F0 F A t w r p anew ex) {a : Addr} {o : HO} (ha : F a = none) : SAt sh K F0 (upd F a o) A t w r p anew ex := ⟨h.own.new' ha, h.ml, h.st, h.len1, h.len2⟩
theorem SAt.grow (h : SAt sh K F0 F A t w r p anew ex) {F' : Hp} (g : Ex F F') : SAt sh K F0 F' A t w r p anew ex := ⟨h.own.grow g, h.ml, h.st, h.len1, h.len2⟩
theorem run_perm {x y : Addr × HO} {l ex : List (Addr × HO)} : (x :: (l ++ y :: ex)).Perm (y :: x :: (l ++ ex)) := (List.Perm.cons x List.perm_middle).trans (List.Perm.swap y x _)
theorem SAt.more (h : SAt sh K F0 F A t w r p anew ex) {a : Addr} {o : HO} (ha : F a = none) : SAt sh K F0 (upd F a o) A t w r p anew ((a, o) :: ex) := ⟨(h.own.more ha).perm run_perm, h.ml, h.st, h.len1, h.len2⟩
theorem SAt.ex0 {a : Addr} {o : HO} {ex : List (Addr × HO)} (h : SAt sh K F0 F A t w r p anew ((a, o) :: ex)) : F a = some o := (h.own.perm run_perm.symm).get (i := 0) rfl
theorem SAt.ex0n {a : Addr} {o : HO} {ex : List (Addr × HO)} (h : SAt sh K F0 F A t w r p anew ((a, o) :: ex)) : F0 a = none := (h.own.perm run_perm.symm).none (i := 0) rfl
theorem SAt.exset {a : Addr} {o o' : HO} {ex : List (Addr × HO)} (h : SAt sh K F0 F A t w r p anew ((a, o) :: ex)) : SAt sh K F0 (upd F a o') A t w r p anew ((a, o') :: ex) :=
  ⟨((h.own.perm run_perm.symm).set (i := 0) (a := a) (o := o) (o' := o') rfl).perm run_perm, h.ml, h.st, h.len1, h.len2⟩
theorem SAt.freeze {a : Addr} {o : HO} {ex : List (Addr × HO)} (h : SAt sh K F0 F A t w r p anew ((a, o) :: ex)) : SAt sh K (upd F0 a o) F A t w r p anew ex :=
  have h0 := h.ex0n
  ⟨(h.own.perm run_perm.symm).freeze rfl, by rw [upd_ne (ne_of_none h.ml h0)]; exact h.ml, fun k ad ss h1 h2 => dp_ex (Ex.new (.refl _) h0) (h.st k ad ss h1 h2), h.len1, h.len2⟩
theorem SAt.drop {x : Addr × HO} {ex : List (Addr × HO)} (h : SAt sh K F0 F A t w r p anew (x :: ex)) : SAt sh K F0 F A t w r p anew ex := by
  have o := h.own.perm run_perm.symm
  refine ⟨⟨o.ex, fun q hq => o.out q (List.mem_cons_of_mem _ hq), fun q hq => o.at_ q (List.mem_cons_of_mem _ hq), ?_⟩, h.ml, h.st, h.len1, h.len2⟩
  have := o.nd
  rw [List.map_cons, List.nodup_cons] at this
  exact this.2
end
end Obr
/-! ### a target that is a field; enumerate of a tuple -/
namespace Obr
open PySem L2 PySem.Spec PyProof.Rows
section
variable {X : Cx} {pos : Pos}
def gFld (K : PySem.W.Frag) (ta : TE) (f : Str) : TG := fun v σ H Q => ta σ H fun x H1 => ∃ a C dx fs, x = .ref a ∧ H1 a = some (.ins C dx fs) ∧ Cls K C ∧ NoAttr K C f ∧ fs.length < 1000 ∧ Q σ (upd H1 a (.ins C dx (putF f v fs)))
theorem pg_fld {o : Expr} {f : Str} {ta : TE} (ho : PE X o ta) : PG X (.Attribute o f pos) (gFld X.K ta f) := by
  refine ⟨fun pins s σ H v u Q I r h => ?_⟩
  rw [PySem.assign_Attribute]
  refine wpAny_bind (wpAny_holding (thn (ho.run pins s σ H _ I h) fun ov s1 ⟨x, H1, I1, rx, a, C, dx, fs, ex, ea, c, n, l, q⟩ => ?_))
  subst ex
  obtain rfl : ov = Value.ref a := rx
  refine wpAny_bind (wpAny_standAt (wpAny_bind (wpAny_holding ?_)))
  refine setattr_ok I1 ea c n l r fun s3 I3 => ?_
  exact wpAny_release ⟨σ, _, I3, q⟩
end
section
variable {S : Type} {J : S → Hp → Hp → Prop} {K : PySem.W.Frag} {σ : L2.St} {s : S} {F : Hp} {ta : TE} {x : V} {f : Str} {N : L2.St → S → Hp → Prop}
theorem gw_fld (hd : Hid J) (h : EW J ta σ s F fun o s1 F1 => ∃ a C dx fs, o = .ref a ∧ F1 a = some (.ins C dx fs) ∧ Cls K C ∧ NoAttr K C f ∧ fs.length < 1000 ∧ N σ s1 (upd F1 a (.ins C dx (putF f x fs)))) : GW J (gFld K ta f) x σ s F N := fun H j Q q =>
  h H j _ fun o s1 F1 H1 j1 ⟨a, C, dx, fs, e, hf, c, n, l, k⟩ => ⟨a, C, dx, fs, e, hd.ex j1 _ _ hf, c, n, l, q _ _ _ _ (hd.mu j1 hf) k⟩
end
end Obr
namespace PySem
open Sem (wp)
set_option maxHeartbeats 4000000 in
theorem meets_enumerate_newB1 {v : Value} {o : Obj} {H : Heap → Prop} (B : Begins v o H) :
    Meets (Builtin.«enumerate.__new__» ⟨[.type "enumerate", v], []⟩) (fun _ R s => H s.heap ∧
      R (.ok (.ret (.ref (s.heap.push o).objs.size))) { s with heap := (s.heap.push o).push { cls := .type "enumerate", data := .fields #[.none, .bool false, .ref s.heap.objs.size, rawInt 0, .none, .none] } }) :=
  .of_wp fun prog w A R s h => by
    obtain ⟨hp, g, d, tk, os⟩ := s; obtain ⟨h1, h⟩ := h
    have hsub := sub_enumerate
    have q1 : ∀ {A' : Around} {E : Value → Shared → Prop} {Q : Value → Shared → Prop}, Q (.ref hp.objs.size) ⟨hp.push o, g, d, tk, os⟩ → wpAny (model prog w) A' (pyIter v) Q E ⟨hp, g, d, tk, os⟩ :=
      fun q => B.iter prog w _ _ ⟨hp, g, d, tk, os⟩ _ h1 q
    wp_walk using q1
    refine wpAny_stack_any fun st => wpAny_pure ?_
    split
    · rename_i c _ _ _ _ _
      cases (c == Value.type "enumerate")
      · wp_walk using q1
        exact ⟨_, rfl, h⟩
      · wp_walk using q1
        exact ⟨_, rfl, h⟩
    · wp_walk using q1
      exact ⟨_, rfl, h⟩
section
variable {prog : Program} {w : World} {A : Around} {E : Value → Shared → Prop} {s : Shared}
theorem enum_begins1 {v : Value} {o : Obj} {H : Heap → Prop} {Q : Value → Shared → Prop} (B : Begins v o H) (h1 : H s.heap)
    (h : ∀ h', IsEnum h' (s.heap.objs.size + 1) s.heap.objs.size 0 .none → h'.get? s.heap.objs.size = some o → h'.objs.size = s.heap.objs.size + 2 →
      (∀ b o, s.heap.get? b = some o → h'.get? b = some o) → Q (.ref (s.heap.objs.size + 1)) { s with heap := h' }) :
    wpAny (model prog w) A (call (.type "enumerate") [v]) Q E s := by
  refine callType_new F.called_enumerate (by decide) (F.typeCall_enumerate_1 _) (F.newCall_enumerate_1 _) (fun obj => F.args_object_init_2 obj _) F.entry_enumerate_new
    (meets_enumerate_newB1 B) ⟨h1, ?_⟩
  have hz : (s.heap.push o).objs.size = s.heap.objs.size + 1 := Heap.size_push ..
  show _ ∧ _
  rw [hz]
  have he : IsEnum ((s.heap.push o).push { cls := .type "enumerate", data := .fields #[.none, .bool false, .ref s.heap.objs.size, rawInt 0, .none, .none] }) (s.heap.objs.size + 1) s.heap.objs.size 0 .none := by
    have := Heap.get?_push_size (s.heap.push o) (o := { cls := .type "enumerate", data := .fields #[.none, .bool false, .ref s.heap.objs.size, rawInt 0, .none, .none] }) rfl
    rw [hz] at this; exact this
  refine ⟨⟨_, he, rfl⟩, h _ he (Heap.get?_push_of_some _ (Heap.get?_push_size _ B.free)) (by rw [Heap.size_push, hz]) fun b o x => Heap.get?_push_of_some _ (Heap.get?_push_of_some _ x)⟩
end
end PySem
namespace Obr
open PySem L2 PySem.Spec PyProof.Rows
/-- the tuple at a, each item in a new pair -/
def IteT (K : PySem.W.Frag) (a : Addr) : It :=
  ⟨fun i H => ∃ (xs : List V) (x : V), SqT K H a xs ∧ xs[i]? = some x, fun i H v H' => ∃ T x, v = .ref T ∧ H T = none ∧ H' = upd H T (.tup [.int (i : Nat), x]) ∧ ∀ xs, SqT K H a xs → xs[i]? = some x, fun i H => ∃ xs : List V, SqT K H a xs ∧ xs.length ≤ i⟩
theorem turn_enumT {P : Program} {w : World} {K : PySem.W.Frag} {elts : List Expr} {kk : Nat} {tpos : Pos} (a e it : Addr) :
    Turn P w K (.Tuple elts kk tpos) (IteT K a) [e, it] e (fun i h => (∃ old, IsEnum h e it ((i : Nat) : Int) old) ∧ h.IsTupleIter it a i ∧ e ≠ it) where
  mem := by simp
  obj := fun i h st b hb => by
    obtain ⟨⟨old, he⟩, ⟨o, ho, hc, hd⟩, _⟩ := st
    have e' : b = e ∨ b = it := by simpa using hb
    rcases e' with z | z
    · rw [z]; exact ⟨_, he, fun v q => nomatch q⟩
    · rw [z]; exact ⟨o, ho, fun v q => by rw [hd] at q; cases q⟩
  keep := fun i h h' st k => let ⟨⟨old, he⟩, hi, hne⟩ := st; ⟨⟨old, k e (by simp) _ he⟩, hi.at fun o q => k it (by simp) o q, hne⟩
  item := by
    intro X hP hw hK hc i pins s σ H E I hf st hg
    subst hP hw hK
    obtain ⟨⟨old, he⟩, hit, hne⟩ := st
    obtain ⟨xs, x, hq, hx⟩ := hg
    obtain ⟨its, rv, p, hz⟩ := I.tuple hq
    have p' : s.heap.IsTuple a its.toArray := p
    obtain ⟨u, hu, ru⟩ := rv.get hx
    have hel : e < s.heap.objs.size := Heap.lt_size he
    have hil : it < s.heap.objs.size := by obtain ⟨_, q, _⟩ := hit; exact Heap.lt_size q
    have hai : a ≠ it := fun z => by
      obtain ⟨o1, q1, c1, _⟩ := p'
      obtain ⟨o2, q2, c2, _⟩ := hit
      rw [z, q2] at q1
      cases q1
      rw [c1] at c2
      exact absurd c2 (by decide)
    have hae : e ≠ a := fun z => by
      obtain ⟨o1, q1, c1, _⟩ := p'
      have he' : s.heap.get? e = some _ := he
      rw [z, q1] at he'
      cases he'
      exact absurd (show Value.type "enumerate" = Value.type "tuple" from c1) (by decide)
    have hlt : i < its.toArray.size := by
      have := (List.getElem?_eq_some_iff.mp hu).1
      simpa using this
    refine wpAny_pyNext_enum_itemD (Draws.tuple (A := X.A.in1) (I.ok.hd hc) it a hai its.toArray) he ⟨hit, p'⟩ hlt hne (by simp [hne, hae]) fun v h' tk hv ho hst hT hsz hk => ?_
    have hvu : v = u := by
      have hv' : its[i]? = some v := by simpa using hv
      rw [hu] at hv'
      exact (Option.some.inj hv').symm
    subst hvu
    refine ⟨_, rfl, wpAny_letOwnedTupleGo_enum (s := { s with heap := h', toks := tk + 1 }) ho fun h'' he' sb => ?_⟩
    have hT2 : h''.get? s.heap.objs.size = some { cls := .type "tuple", data := .seq #[.int i tk, v] } := (sb.2 _ (Nat.ne_of_gt hel)).trans hT
    have new : ObjOk X.prog X.w (upd H s.heap.objs.size (.tup [.int (i : Nat), x])) h'' s.heap.objs.size (.tup [.int (i : Nat), x]) :=
      ⟨by show 2 ≤ sizeLine; decide, [.int i tk, v], .cons ⟨_, rfl⟩ (.cons ru .nil), ⟨_, hT2, rfl, _, rfl⟩⟩
    have I1 : Inv X pins σ (upd H s.heap.objs.size (.tup [.int (i : Nat), x])) { s with heap := h'', toks := tk + 1 } :=
      I.turnedNew (ch := [e, it]) (fun b ob hb q => (sb.2 b (fun z => hb (by simp [z]))).trans (hk b ob (fun z => hb (by simp [z])) (fun z => hb (by simp [z])) q)) hf (Nat.le_refl _) new
    refine ⟨.ref s.heap.objs.size, _, I1, rfl, ⟨_, x, rfl, I.hok.fresh (Nat.le_refl _), rfl, fun ys hy => by rw [I.tuple_inj hy hq]; exact hx⟩, ⟨⟨v, ?_⟩, hst.1.at fun o q => (sb.2 it (Ne.symm hne)).trans q, hne⟩, fun b hb => ?_⟩
    · have e1 : ((i + 1 : Nat) : Int) = (i : Int) + 1 := by omega
      rw [e1]; exact he'
    · have hb' : b < s.heap.objs.size := by
        have e' : b = e ∨ b = it := by simpa using hb
        rcases e' with z | z
        · rw [z]; exact hel
        · rw [z]; exact hil
      rw [upd_ne (Nat.ne_of_lt hb')]
      exact (hf b hb).1
  done := by
    intro X hP hw hK hc i pins s σ H E I hf st hg
    subst hP hw hK
    obtain ⟨⟨old, he⟩, hit, hne⟩ := st
    obtain ⟨xs, hq, hx⟩ := hg
    obtain ⟨its, rv, p, hz⟩ := I.tuple hq
    have p' : s.heap.IsTuple a its.toArray := p
    obtain ⟨f0, f1, f2, f3, f4, f5⟩ := hf it (by simp)
    have hl := rv.length
    have hT : s.TypeIs (.ref e) "enumerate" := ⟨_, he, rfl⟩
    unfold pyNext
    refine wpAny_bind (wpAny_attempt (wpAny_callSpecial?_slot (name := Str.ofString "__next__") hT F.slot_enumerate_next
      (wpAny_call_entry F.slot_enumerate_next hT F.entry_enumerate_next ?_ (F.args_enumerate_next_1 _))))
    show wpAny _ _ (field (.ref e) 2 >>= _) _ _ _
    refine wpAny_bind (wpAny_field he rfl (x := .ref it) rfl ?_)
    refine wpAny_bind (wpAny_nextOf_tuple_end (I.ok.hd hc) hit p' (by simp; omega) fun h' x he' hx' => ?_)
    obtain ⟨o, ho, hc'⟩ := hx'
    refine wpAny_bind (wpAny_isInstance (T := "StopIteration") (b := true) ⟨o, ho, hc'⟩ isSubtype_stop ?_)
    exact wpAny_pure ⟨rfl, I.turned (t' := s.toks) (fun b o hb q => he' b o hb q) f0 f1 f3 f4 f5⟩
  self := fun A i s Q E st h => let ⟨⟨_, he⟩, _⟩ := st; wpAny_pyIter_enum he h
def iEnumT (K : PySem.W.Frag) (ta : TA) : TI := fun σ H R => ta σ H fun vs H1 => ∃ a xs, vs = [.ref a] ∧ SqT K H1 a xs ∧ R (IteT K a) H1
theorem pi_enumT {X : Cx} {e : Expr} {ta : TA} {p pos tpos : Pos} {elts : List Expr} {kk : Nat} (hg : Gl X "enumerate") (hm : X.mg "enumerate" = none) (ha : PA X [e] ta) (hs : starEach [e] X.env = [(false, eval e X.env)] := by rfl) :
    PI X (.Tuple elts kk tpos) (.Call (.Name "enumerate" p) [e] [] pos) (iEnumT X.K ta) := by
  refine ⟨fun pins s σ H R I h => ?_⟩
  refine Call_ (ld_blt I hg hm boot_enumerate (PyProof.Rows.callWith_type1 (thn (ha.run pos pins s σ H _ I h) fun us s1 ⟨vs, H1, I1, r1, q1⟩ => ?_) hs rfl))
  obtain ⟨a, xs, ex, hq, q⟩ := q1
  subst ex
  cases r1 with
  | cons r rr =>
    cases rr
    cases r
    obtain ⟨its, rv, p', hz⟩ := I1.tuple hq
    have p'' : s1.heap.IsTuple a its.toArray := p'
    refine enum_begins1 (begins_tuple a its.toArray) p'' fun h' he hit hsz hk => wpAny_pyIter_enum he ?_
    have I2 : Inv X pins σ H1 { s1 with heap := h' } := I1.kept (t' := s1.toks) hk
    refine ⟨s1.heap.objs.size + 1, [s1.heap.objs.size + 1, s1.heap.objs.size], _, _, H1, rfl, I2, turn_enumT a (s1.heap.objs.size + 1) s1.heap.objs.size, ⟨⟨.none, he⟩, ⟨_, hit, rfl, rfl⟩, Nat.succ_ne_self _⟩, fun b hb => ?_, q⟩
    have e' : b = s1.heap.objs.size + 1 ∨ b = s1.heap.objs.size := by simpa using hb
    have hle : s1.heap.objs.size ≤ b := by
      rcases e' with z | z
      · rw [z]; exact Nat.le_add_right _ _
      · rw [z]; exact Nat.le_refl _
    exact I1.fpOk hle (I1.hok.fresh hle)
theorem walk_enumT {K : PySem.W.Frag} {a : Addr} {xs : List V} : Walk (IteT K a) xs.length (fun H => SqT K H a xs) (YPair (fun i => some (.int (i : Nat))) (fun i => xs[i]?)) := by
  refine ⟨fun i _ hi q => ⟨xs, xs[i], q, by simp [hi]⟩, fun _ q => ⟨xs, q, Nat.le_refl _⟩, fun i H v H' _ q y => ?_⟩
  obtain ⟨T, x, h1, h2, h3, h4⟩ := y
  exact ⟨T, .int (i : Nat), x, h1, h2, h3, rfl, h4 xs q⟩
section
variable {S : Type} {J : S → Hp → Hp → Prop} {K : PySem.W.Frag} {σ : L2.St} {s : S} {F : Hp} {R : V → S → Hp → Prop} {te : TE} {tt : TT} {t : TS} {g : TG} {ta : TA} {D : En S} {vs : List Nat}
theorem sw_forET (hd : Hid J) (h : AW J ta σ s F fun ws s1 F1 => ∃ (a : Addr) (xs : List V) (Pv : Nat → L2.St → S → Hp → Prop), ws = [.ref a] ∧ SqT K F1 a xs ∧ Pv 0 σ s1 F1 ∧ (∀ i σ s F, i ≤ xs.length → Pv i σ s F → SqT K F a xs) ∧
      (∀ (i : Nat) x σ s F T, xs[i]? = some x → Pv i σ s F → F T = none → GW J g (.ref T) σ s (upd F T (.tup [.int (i : Int), x])) fun σ s F => SW J t { D with nx := Pv (i + 1), ct := Pv (i + 1), bk := D.nx } σ s F) ∧ (∀ σ s F, Pv xs.length σ s F → D.nx σ s F)) :
    SW J (tFor (iEnumT K ta) g t) D σ s F := fun H j D' l =>
  h H j _ fun v s1 F1 H1 j1 ⟨a, xs, Pv, e, l1, h0, hl, hs, hdn⟩ => ⟨a, xs, e, hd.sqT j1 l1, for_it walk_enumT (fun i σ H => ∃ s F, J s F H ∧ Pv i σ s F) ⟨s1, F1, j1, h0⟩
    (fun i σ' H' hi ⟨s', F', j', p⟩ => hd.sqT j' (hl i σ' s' F' hi p))
    (fun i x σ' H' H'' hi ⟨s', F', j', p⟩ ⟨T, y, z, ex, hT, eH, e1, e2⟩ => by
      subst ex eH
      cases e1
      exact hs i z σ' s' F' T e2 p (hd.fresh j' hT) _ (hd.al j' hT) _ fun σ2 s2 F2 H2 j2 k => k H2 j2 _ ⟨fun σ3 s3 F3 H3 j3 k3 => ⟨s3, F3, j3, k3⟩, l.rt, l.nx, fun σ3 s3 F3 H3 j3 k3 => ⟨s3, F3, j3, k3⟩⟩)
    (fun σ' H' ⟨s', F', j', p⟩ => l.nx _ _ _ _ j' (hdn σ' s' F' p))⟩
theorem ew_lcET (hd : Hid J) (h : AW J ta σ s F fun ws s1 F1 => ∃ a xs, ws = [.ref a] ∧ SqT K F1 a xs ∧ xs.length ≤ 100000 ∧ ∀ Dl, F1 Dl = none → ∃ Pv : Nat → List V → S → Hp → Prop, Pv 0 [] s1 F1 ∧
      (∀ i acc s F, i ≤ xs.length → F Dl = none → Pv i acc s F → SqT K F a xs ∧ acc.length ≤ i) ∧ (∀ (i : Nat) acc x s F T, xs[i]? = some x → F Dl = none → Pv i acc s F → F T = none → T ≠ Dl → LcTurn J Dl g tt te vs σ acc (.ref T) s (upd F T (.tup [.int (i : Int), x])) (Pv (i + 1))) ∧
      (∀ acc s F, F Dl = none → Pv xs.length acc s F → R (.ref Dl) s (upd F Dl (.lst acc)))) : EW J (tLc (iEnumT K ta) g tt te vs) σ s F R := fun H j Q q =>
  h H j _ fun v s1 F1 H1 j1 ⟨a, xs, e, l1, hz, k⟩ => ⟨a, xs, e, hd.sqT j1 l1, fun Dl hD => by
    have fD := hd.fresh j1 hD
    obtain ⟨Pv, h0, hl, hs, hdn⟩ := k Dl fD
    refine lc_it walk_enumT (fun i H => ∃ acc s F, i ≤ xs.length ∧ F Dl = none ∧ J s (upd F Dl (.lst acc)) H ∧ Pv i acc s F) ⟨[], s1, F1, Nat.zero_le _, fD, hd.al j1 hD, h0⟩ (fun i H' hi ⟨acc, s', F', _, f1, j', p⟩ => ?_) (fun i x H' H'' hi ⟨acc, s', F', hle, f1, j', p⟩ ⟨T, y, z, ex, hT, eH, e1, e2⟩ => ?_) (fun H' ⟨acc, s', F', _, f1, j', p⟩ => q _ _ _ _ j' (hdn acc s' F' f1 p))
    · refine hd.sqT j' ?_
      obtain ⟨f2, _⟩ := hl i acc s' F' hi f1 p
      exact Ex.sqT (Ex.out (Ex.refl _) f1) f2
    · subst ex eH
      cases e1
      obtain ⟨f2, f3⟩ := hl i acc s' F' hle f1 p
      have hT2 := hd.fresh j' hT
      have hne : T ≠ Dl := fun q => by rw [q, upd_same] at hT2; cases hT2
      have hT3 : F' T = none := by rw [upd_ne hne] at hT2; exact hT2
      have jd := (Hid.jd (D := Dl) (acc := acc) hd).al (s := s') (F := F') (H := H') (p := T) (o := .tup [.int (i : Int), z]) ⟨f1, j'⟩ hT
      exact lc_step hd (by omega) (hs i acc z s' F' T e2 f1 p hT3 hne) jd.1 jd.2 fun acc s F H fd j p => ⟨acc, s, F, by omega, fd, j, p⟩⟩
end
end Obr
namespace Obr
open PySem L2 PySem.Spec PyProof.Rows RZ
/-! ### zip of a tuple and a list -/
def ItM (K : PySem.W.Frag) (a b : Addr) : It where
  go := fun i H => ∃ (us vs : List V) (u v : V), SqT K H a us ∧ SqL K H b vs ∧ us[i]? = some u ∧ vs[i]? = some v
  yld := fun i H r H' => ∃ T u v, r = .ref T ∧ H T = none ∧ H' = upd H T (.tup [u, v]) ∧ (∀ us, SqT K H a us → us[i]? = some u) ∧ ∀ vs, SqL K H b vs → vs[i]? = some v
  stop := fun i H => ∃ us vs : List V, SqT K H a us ∧ SqL K H b vs ∧ i ≤ us.length ∧ i ≤ vs.length ∧ (i = us.length ∨ i = vs.length)
structure StM (z TI TO i1 i2 a b : Addr) (i : Nat) (h : Heap) : Prop where
  zz : IsZip h z TI TO .none
  ti : IsTupOf2 h TI (.ref i1) (.ref i2)
  to : ∃ u v, IsTupOf2 h TO u v
  one : h.IsTupleIter i1 a i
  two : h.IsListIter i2 b i
theorem five {α : Type} {c z TI TO i1 i2 : α} (h : c ∈ [z, TI, TO, i1, i2]) : c = z ∨ c = TI ∨ c = TO ∨ c = i1 ∨ c = i2 := by simpa using h
theorem turn_zipM {P : Program} {w : World} {K : PySem.W.Frag} {elts : List Expr} {kk : Nat} {tpos : Pos} {a b z TI TO i1 i2 : Addr} (D : ZipSep2 z TI TO i1 i2 [i1, a] [i2, b]) (ha : a ≠ i1) (hb : b ≠ i2) :
    Turn P w K (.Tuple elts kk tpos) (ItM K a b) [z, TI, TO, i1, i2] z (StM z TI TO i1 i2 a b) where
  mem := List.mem_cons_self
  obj := fun i h st c hc => by
    obtain ⟨u, v, hTO⟩ := st.to
    obtain ⟨o1, e1, _, d1⟩ := st.one
    obtain ⟨o2, e2, _, d2⟩ := st.two
    rcases five hc with rfl | rfl | rfl | rfl | rfl
    · exact ⟨_, st.zz, fun v q => nomatch q⟩
    · exact ⟨_, st.ti, fun v q => nomatch q⟩
    · exact ⟨_, hTO, fun v q => nomatch q⟩
    · exact ⟨o1, e1, fun v q => by rw [d1] at q; cases q⟩
    · exact ⟨o2, e2, fun v q => by rw [d2] at q; cases q⟩
  keep := fun i h h' st k => by
    obtain ⟨u, v, hTO⟩ := st.to
    exact ⟨k z (by simp) _ st.zz, k TI (by simp) _ st.ti, ⟨u, v, k TO (by simp) _ hTO⟩, st.one.at fun o q => k i1 (by simp) o q, st.two.at fun o q => k i2 (by simp) o q⟩
  item := by
    intro X hP hw hK hc i pins s σ H E I hf st hg
    subst hP hw hK
    obtain ⟨u0, v0, hTO⟩ := st.to
    obtain ⟨us, vs, u, v, hqu, hqv, hu, hv⟩ := hg
    obtain ⟨its, rv, p, _⟩ := I.tuple hqu
    obtain ⟨its2, rv2, p2, _⟩ := I.list hqv
    obtain ⟨y1, hy1, ry1⟩ := rv.get hu
    obtain ⟨y2, hy2, ry2⟩ := rv2.get hv
    have hzl : z < s.heap.objs.size := Heap.lt_size st.zz
    have n1 : i < its.toArray.size := by have := (List.getElem?_eq_some_iff.mp hy1).1; simpa using this
    have n2 : i < its2.toArray.size := by have := (List.getElem?_eq_some_iff.mp hy2).1; simpa using this
    refine wpAny_pyNext_zipD2_item D (Draws.tuple (A := X.A.in1) (I.ok.hd hc) i1 a ha its.toArray) (Draws.list (A := X.A.in1) (I.ok.hd hc) i2 b hb its2.toArray) st.zz st.ti hTO ⟨st.one, p⟩ ⟨st.two, p2.isList⟩ n1 n2 fun x1 x2 h' tk hx1 hx2 z' TO' s1 s2 hT hsz hk => ?_
    have ex1 : x1 = y1 := by
      have q : its[i]? = some x1 := by simpa using hx1
      rw [hy1] at q
      exact (Option.some.inj q).symm
    have ex2 : x2 = y2 := by
      have q : its2[i]? = some x2 := by simpa using hx2
      rw [hy2] at q
      exact (Option.some.inj q).symm
    subst ex1 ex2
    refine ⟨_, rfl, wpAny_letOwnedTupleGo_zip (s := { s with heap := h', toks := tk }) z' fun h'' z'' sb => ?_⟩
    have hT2 : h''.get? s.heap.objs.size = some { cls := .type "tuple", data := .seq #[x1, x2] } := (sb.2 _ (Nat.ne_of_gt hzl)).trans hT
    have new : ObjOk X.prog X.w (upd H s.heap.objs.size (.tup [u, v])) h'' s.heap.objs.size (.tup [u, v]) := ⟨by show 2 ≤ sizeLine; decide, [x1, x2], .cons ry1 (.cons ry2 .nil), ⟨_, hT2, rfl, _, rfl⟩⟩
    have I1 : Inv X pins σ (upd H s.heap.objs.size (.tup [u, v])) { s with heap := h'', toks := tk } :=
      I.turnedNew (t' := tk) (ch := [z, TI, TO, i1, i2]) (fun c o hn q => (sb.2 c (fun e => hn (by simp [e]))).trans (hk c o (fun e => hn (by simp [e])) (fun e => hn (by simp [e])) (fun e => hn (by simp [e])) (fun e => hn (by simp [e])) q)) hf (Nat.le_refl _) new
    have lt : ∀ c ∈ [z, TI, TO, i1, i2], c < s.heap.objs.size := fun c hcm => by
      obtain ⟨o1, e1, _⟩ := st.one
      obtain ⟨o2, e2, _⟩ := st.two
      rcases five hcm with rfl | rfl | rfl | rfl | rfl
      · exact hzl
      · exact Heap.lt_size st.ti
      · exact Heap.lt_size hTO
      · exact Heap.lt_size e1
      · exact Heap.lt_size e2
    refine ⟨.ref s.heap.objs.size, _, I1, rfl, ⟨_, u, v, rfl, I.hok.fresh (Nat.le_refl _), rfl, fun l hl => by rw [I.tuple_inj hl hqu]; exact hu, fun l hl => by rw [I.list_inj hl hqv]; exact hv⟩, ⟨z'', ?_, ⟨x1, x2, ?_⟩, ?_, ?_⟩, fun c hcm => ?_⟩
    · exact (sb.2 _ D.TIz).trans (hk _ _ D.TIz D.TITO D.TIi1 D.TIi2 st.ti)
    · exact (sb.2 _ D.TOz).trans TO'
    · exact s1.1.at fun o q => (sb.2 _ (fun e => D.zi1 e.symm)).trans q
    · exact s2.1.at fun o q => (sb.2 _ (fun e => D.zi2 e.symm)).trans q
    · rw [upd_ne (Nat.ne_of_lt (lt c hcm))]
      exact (hf c hcm).1
  done := by
    intro X hP hw hK hc i pins s σ H E I hf st hg
    subst hP hw hK
    obtain ⟨u0, v0, hTO⟩ := st.to
    obtain ⟨us, vs, hqu, hqv, hle1, hle2, hend⟩ := hg
    obtain ⟨its, rv, p, _⟩ := I.tuple hqu
    obtain ⟨its2, rv2, p2, _⟩ := I.list hqv
    have l1 := rv.length
    have l2 := rv2.length
    refine wpAny_pyNext_zipD2_end D (Draws.tuple (A := X.A.in1) (I.ok.hd hc) i1 a ha its.toArray) (Draws.list (A := X.A.in1) (I.ok.hd hc) i2 b hb its2.toArray) st.zz st.ti hTO ⟨st.one, p⟩ ⟨st.two, p2.isList⟩ (by simp; omega) (by simp; omega) (by simp; omega) fun h' tk hk => ?_
    exact ⟨rfl, I.turnedL (t' := tk) (ch := [z, TI, TO, i1, i2]) (fun c o hn q => hk c o (fun e => hn (by simp [e])) (fun e => hn (by simp [e])) (fun e => hn (by simp [e])) (fun e => hn (by simp [e])) q) hf⟩
  self := fun A i s Q E st h => wpAny_pyIter_zip st.zz h
def iZipM (K : PySem.W.Frag) (ta : TA) : TI := fun σ H R => ta σ H fun vs H1 => ∃ a b xs ys, vs = [.ref a, .ref b] ∧ SqT K H1 a xs ∧ SqL K H1 b ys ∧ R (ItM K a b) H1
theorem pi_zipM {X : Cx} {e e2 : Expr} {ta : TA} {p pos tpos : Pos} {elts : List Expr} {kk : Nat} (hg : Gl X "zip") (hm : X.mg "zip" = none) (ha : PA X [e, e2] ta)
    (hs : starEach [e, e2] X.env = (false, eval e X.env) :: starEach [e2] X.env := by rfl) (hpl : (backTo pos (starEach [e2] X.env)).any (·.1) = false := by rfl) :
    PI X (.Tuple elts kk tpos) (.Call (.Name "zip" p) [e, e2] [] pos) (iZipM X.K ta) := by
  refine ⟨fun pins s σ H R I h => ?_⟩
  refine Call_ (ld_blt I hg hm PyProof.Rows.boot_zip (PyProof.Rows.callWith_type1 (thn (ha.run pos pins s σ H _ I h) fun us s1 ⟨vs, H1, I1, r1, q1⟩ => ?_) hs hpl))
  obtain ⟨a, b, xs, ys, ex, hqx, hqy, q⟩ := q1
  subst ex
  cases r1 with
  | cons r rr =>
    cases rr with
    | cons r' rr =>
      cases rr
      cases r
      cases r'
      obtain ⟨its, rv, p1, _⟩ := I1.tuple hqx
      obtain ⟨its2, rv2, p2, _⟩ := I1.list hqy
      have la : a < s1.heap.objs.size := by
        obtain ⟨o1, ho1, _⟩ := id p1
        exact Heap.lt_size ho1
      have lb : b < s1.heap.objs.size := p2.lt
      refine zip_begins2 (begins_tuple a its.toArray) (begins_list b its2.toArray) p1 p2.isList fun h' hz hTI hTO h1 h2 hsz hk => wpAny_pyIter_zip hz ?_
      have I2 : Inv X pins σ H1 { s1 with heap := h' } := I1.kept (t' := s1.toks) hk
      have D := zip_sep2 (N := s1.heap.objs.size) (fp1 := [a]) (fp2 := [b]) (fun c hc => by rw [List.mem_singleton.mp hc]; exact la) (fun c hc => by rw [List.mem_singleton.mp hc]; exact lb)
      have ne1 : a ≠ s1.heap.objs.size := Nat.ne_of_lt la
      have ne2 : b ≠ s1.heap.objs.size + 1 := Nat.ne_of_lt (Nat.lt_succ_of_lt lb)
      refine ⟨s1.heap.objs.size + 4, [s1.heap.objs.size + 4, s1.heap.objs.size + 2, s1.heap.objs.size + 3, s1.heap.objs.size, s1.heap.objs.size + 1], _, _, H1, rfl, I2, turn_zipM D ne1 ne2, ⟨hz, hTI, ⟨_, _, hTO⟩, ⟨_, h1, rfl, rfl⟩, ⟨_, h2, rfl, rfl⟩⟩, fun c hcm => ?_, q⟩
      have hle : s1.heap.objs.size ≤ c := by
        rcases five hcm with rfl | rfl | rfl | rfl | rfl
        · exact Nat.le_add_right _ _
        · exact Nat.le_add_right _ _
        · exact Nat.le_add_right _ _
        · exact Nat.le_refl _
        · exact Nat.le_add_right _ _
      exact I1.fpOk hle (I1.hok.fresh hle)
theorem walk_zipM {K : PySem.W.Frag} {a b : Addr} {xs ys : List V} {n : Nat} (hn : n = min xs.length ys.length) : Walk (ItM K a b) n (fun H => SqT K H a xs ∧ SqL K H b ys) (YPair (fun i => xs[i]?) (fun i => ys[i]?)) := by
  subst hn
  refine ⟨fun i _ hi q => ?_, fun _ q => ⟨xs, ys, q.1, q.2, by omega, by omega, by omega⟩, fun i H v H' _ q y => ?_⟩
  · have c1 : i < xs.length := by omega
    have c2 : i < ys.length := by omega
    exact ⟨xs, ys, _, _, q.1, q.2, List.getElem?_eq_getElem c1, List.getElem?_eq_getElem c2⟩
  · obtain ⟨T, x, y', h1, h2, h3, h4, h5⟩ := y
    exact ⟨T, x, y', h1, h2, h3, h4 xs q.1, h5 ys q.2⟩
theorem walk_zipT {K : PySem.W.Frag} {a b : Addr} {xs ys : List V} {n : Nat} (hn : n = min xs.length ys.length) : Walk (ItzT K a b) n (fun H => SqT K H a xs ∧ SqT K H b ys) (YPair (fun i => xs[i]?) (fun i => ys[i]?)) := by
  subst hn
  refine ⟨fun i _ hi q => ?_, fun _ q => ⟨xs, ys, q.1, q.2, by omega⟩, fun i H v H' _ q y => ?_⟩
  · have c1 : i < xs.length := by omega
    have c2 : i < ys.length := by omega
    exact ⟨xs, ys, _, _, q.1, q.2, List.getElem?_eq_getElem c1, List.getElem?_eq_getElem c2⟩
  · obtain ⟨T, x, y', h1, h2, h3, h4, h5⟩ := y
    exact ⟨T, x, y', h1, h2, h3, h4 xs q.1, h5 ys q.2⟩
section
variable {S : Type} {J : S → Hp → Hp → Prop} {K : PySem.W.Frag} {σ : L2.St} {s : S} {F : Hp} {R : V → S → Hp → Prop} {te : TE} {tt : TT} {g : TG} {ta : TA} {vs : List Nat}
/-- what a comprehension over a zip of xs and ys asks -/
def ZipAsk (J : S → Hp → Hp → Prop) (g : TG) (tt : TT) (te : TE) (vs : List Nat) (σ : L2.St) (xs ys : List V) (R : V → S → Hp → Prop) (s1 : S) (F1 : Hp) (st : Hp → Prop) : Prop :=
  xs.length = ys.length ∧ xs.length ≤ 100000 ∧ ∀ Dl, F1 Dl = none → ∃ Pv : Nat → List V → S → Hp → Prop, Pv 0 [] s1 F1 ∧
      (∀ i acc s F, i ≤ xs.length → F Dl = none → Pv i acc s F → st F ∧ acc.length ≤ i) ∧ (∀ (i : Nat) acc x y s F T, xs[i]? = some x → ys[i]? = some y → F Dl = none → Pv i acc s F → F T = none → T ≠ Dl → LcTurn J Dl g tt te vs σ acc (.ref T) s (upd F T (.tup [x, y])) (Pv (i + 1))) ∧
      (∀ acc s F, F Dl = none → Pv xs.length acc s F → R (.ref Dl) s (upd F Dl (.lst acc)))
theorem ew_lcZM (hd : Hid J) (h : AW J ta σ s F fun ws s1 F1 => ∃ a b xs ys, ws = [.ref a, .ref b] ∧ SqT K F1 a xs ∧ SqL K F1 b ys ∧ ZipAsk J g tt te vs σ xs ys R s1 F1 (fun G => SqT K G a xs ∧ SqL K G b ys)) : EW J (tLc (iZipM K ta) g tt te vs) σ s F R := fun H j Q q =>
  h H j _ fun v s1 F1 H1 j1 ⟨a, b, xs, ys, e, l1, l2, hlen, hz, k⟩ => ⟨a, b, xs, ys, e, hd.sqT j1 l1, hd.sqL j1 l2, fun Dl hD => by
    have fD := hd.fresh j1 hD
    obtain ⟨Pv, h0, hl, hs, hdn⟩ := k Dl fD
    refine lc_it (walk_zipM (xs := xs) (ys := ys) (n := xs.length) (by rw [← hlen, Nat.min_self])) (fun i H => ∃ acc s F, i ≤ xs.length ∧ F Dl = none ∧ J s (upd F Dl (.lst acc)) H ∧ Pv i acc s F) ⟨[], s1, F1, Nat.zero_le _, fD, hd.al j1 hD, h0⟩ (fun i H' hi ⟨acc, s', F', _, f1, j', p⟩ => ?_) (fun i x H' H'' hi ⟨acc, s', F', hle, f1, j', p⟩ ⟨T, y, z, ex, hT, eH, e1, e2⟩ => ?_) (fun H' ⟨acc, s', F', _, f1, j', p⟩ => q _ _ _ _ j' (hdn acc s' F' f1 p))
    · obtain ⟨⟨c1, c2⟩, _⟩ := hl i acc s' F' hi f1 p
      exact ⟨hd.sqT j' (Ex.sqT (Ex.out (Ex.refl _) f1) c1), hd.sqL j' (Ex.sqL (Ex.out (Ex.refl _) f1) c2)⟩
    · subst ex eH
      obtain ⟨_, f3⟩ := hl i acc s' F' hle f1 p
      have hT2 := hd.fresh j' hT
      have hne : T ≠ Dl := fun q => by rw [q, upd_same] at hT2; cases hT2
      have hT3 : F' T = none := by rw [upd_ne hne] at hT2; exact hT2
      have jd := (Hid.jd (D := Dl) (acc := acc) hd).al (s := s') (F := F') (H := H') (p := T) (o := .tup [y, z]) ⟨f1, j'⟩ hT
      exact lc_step hd (by omega) (hs i acc y z s' F' T e1 e2 f1 p hT3 hne) jd.1 jd.2 fun acc s F H fd j p => ⟨acc, s, F, by omega, fd, j, p⟩⟩
theorem ew_lcZT (hd : Hid J) (h : AW J ta σ s F fun ws s1 F1 => ∃ a b xs ys, ws = [.ref a, .ref b] ∧ SqT K F1 a xs ∧ SqT K F1 b ys ∧ ZipAsk J g tt te vs σ xs ys R s1 F1 (fun G => SqT K G a xs ∧ SqT K G b ys)) : EW J (tLc (iZipA K ta) g tt te vs) σ s F R := fun H j Q q =>
  h H j _ fun v s1 F1 H1 j1 ⟨a, b, xs, ys, e, l1, l2, hlen, hz, k⟩ => ⟨a, b, xs, ys, e, Or.inr ⟨hd.sqT j1 l1, hd.sqT j1 l2, fun Dl hD => by
    have fD := hd.fresh j1 hD
    obtain ⟨Pv, h0, hl, hs, hdn⟩ := k Dl fD
    refine lc_it (walk_zipT (xs := xs) (ys := ys) (n := xs.length) (by rw [← hlen, Nat.min_self])) (fun i H => ∃ acc s F, i ≤ xs.length ∧ F Dl = none ∧ J s (upd F Dl (.lst acc)) H ∧ Pv i acc s F) ⟨[], s1, F1, Nat.zero_le _, fD, hd.al j1 hD, h0⟩ (fun i H' hi ⟨acc, s', F', _, f1, j', p⟩ => ?_) (fun i x H' H'' hi ⟨acc, s', F', hle, f1, j', p⟩ ⟨T, y, z, ex, hT, eH, e1, e2⟩ => ?_) (fun H' ⟨acc, s', F', _, f1, j', p⟩ => q _ _ _ _ j' (hdn acc s' F' f1 p))
    · obtain ⟨⟨c1, c2⟩, _⟩ := hl i acc s' F' hi f1 p
      exact ⟨hd.sqT j' (Ex.sqT (Ex.out (Ex.refl _) f1) c1), hd.sqT j' (Ex.sqT (Ex.out (Ex.refl _) f1) c2)⟩
    · subst ex eH
      obtain ⟨_, f3⟩ := hl i acc s' F' hle f1 p
      have hT2 := hd.fresh j' hT
      have hne : T ≠ Dl := fun q => by rw [q, upd_same] at hT2; cases hT2
      have hT3 : F' T = none := by rw [upd_ne hne] at hT2; exact hT2
      have jd := (Hid.jd (D := Dl) (acc := acc) hd).al (s := s') (F := F') (H := H') (p := T) (o := .tup [y, z]) ⟨f1, j'⟩ hT
      exact lc_step hd (by omega) (hs i acc y z s' F' T e1 e2 f1 p hT3 hne) jd.1 jd.2 fun acc s F H fd j p => ⟨acc, s, F, by omega, fd, j, p⟩⟩⟩
end
end Obr
/-! ### itertools.permutations of range(n), n at most five -/
namespace Obp
open PySem PyProof.Rows
theorem slot_next : Slot "itertools.permutations" "__next__" "itertools.permutations.__next__" :=
  .of (owner := "itertools.permutations") (n := "__next__") (by rw [typeLookup_type, builtinLookup_eq_fast]; kernel_rfl) (by decide +kernel) (by decide +kernel) (by decide +kernel)
    (by first | exact .inl (by decide +kernel) | exact .inr (by decide +kernel)) (by rw [isSubtype_type]; kernel_rfl)
theorem entry_next : entryFor table "itertools.permutations.__next__" = some Builtin.«itertools.permutations.__next__» := entryFor_of_tree (by kernel_rfl)
theorem args_next (a : Value) : argsOk "itertools.permutations.__next__" ⟨[a], []⟩ := by unfold argsOk; kernel_rfl
theorem slot_iter : Slot "itertools.permutations" "__iter__" "itertools.permutations.__iter__" :=
  .of (owner := "itertools.permutations") (n := "__iter__") (by rw [typeLookup_type, builtinLookup_eq_fast]; kernel_rfl) (by decide +kernel) (by decide +kernel) (by decide +kernel)
    (by first | exact .inl (by decide +kernel) | exact .inr (by decide +kernel)) (by rw [isSubtype_type]; kernel_rfl)
theorem entry_iter : entryFor table "itertools.permutations.__iter__" = some Builtin.«dict_keyiterator.__iter__» :=
  entryFor_alias (id' := "dict_keyiterator.__iter__") (by kernel_rfl) (by first | rfl | decide +kernel | (unfold String.splitOn; simp +decide [String.splitOnAux])) (by decide +kernel) (by kernel_rfl)
theorem args_iter (a : Value) : argsOk "itertools.permutations.__iter__" ⟨[a], []⟩ := by unfold argsOk; kernel_rfl
theorem mro_p : mroOf (.type "itertools.permutations") = pure [.type "itertools.permutations", .type "object"] := by rw [mroOf_type]; kernel_rfl
theorem lookup_new : typeLookup (.type "itertools.permutations") "__new__" = pure (some (.builtin "itertools.permutations.__new__")) := by rw [typeLookup_type, builtinLookup_eq_fast]; kernel_rfl
theorem slot_init : Slot "itertools.permutations" "__init__" "object.__init__" :=
  .of (owner := "object") (n := "__init__") (by rw [typeLookup_type, builtinLookup_eq_fast]; kernel_rfl) (by decide +kernel) (by decide +kernel) (by decide +kernel)
    (by first | exact .inl (by decide +kernel) | exact .inr (by decide +kernel)) (by rw [isSubtype_type]; kernel_rfl)
theorem called_p : TypeCalled "itertools.permutations" "itertools.permutations.__new__" "object.__init__" :=
  ⟨by decide +kernel, by decide +kernel, ⟨_, _, mro_p⟩, madeBy_type mro_p lookup_new (by decide +kernel), by decide +kernel, by rw [isSubtype_type]; kernel_rfl, slot_init⟩
theorem typeCall_p (a : Value) : checkTypeCall "itertools.permutations" ⟨[a], []⟩ = pure () := by kernel_rfl
theorem newCall_p (a : Value) : checkBuiltinCall "itertools.permutations.__new__" ⟨[.type "itertools.permutations", a], []⟩ = pure () := by kernel_rfl
theorem entry_new : entryFor table "itertools.permutations.__new__" = some Builtin.«itertools.permutations.__new__» := entryFor_of_tree (by kernel_rfl)
end Obp
namespace Obp
open PySem PyProof.Rows
/-! the numbers that it keeps, turn by turn -/
/-- the arrangements of these, as lists go -/
def ordF : Nat → List Nat → List (List Nat)
  | 0, _ => [[]]
  | k + 1, l => l.flatMap fun a => (ordF k (l.filter fun b => !Nat.beq b a)).map fun r => a :: r
def permL (n : Nat) : List (List Nat) := ordF n (List.range n)
def facN : Nat → Nat
  | 0 => 1
  | k + 1 => (k + 1) * facN k
def idxP (n i : Nat) : List Nat := (permL n).getD i []
def cycP (n i : Nat) : List Nat := (List.range n).map fun j => (n - j) - (i / facN (n - 1 - j)) % (n - j)
def numP (n i : Nat) : List Nat := idxP n (i - 1) ++ cycP n (i - 1)
/-- the record at it, ahead of turn i -/
structure IsPm (h : Heap) (it pa : Addr) (n i : Nat) : Prop where
  at_ : ∃ before : Value, h.get? it = some { cls := .type "itertools.permutations", data := .fields (#[.ref pa, rawInt (if i = 0 then 0 else 1), rawInt (n : Nat), before] ++ ((numP n i).map fun (k : Nat) => rawInt k).toArray) }
section
variable {prog : Program} {w : World} {A : Around} {E : Value → Shared → Prop} {s : Shared}
theorem nums_read {f : Value → Nat} (hf : ∀ k : Nat, f (rawInt (k : Nat)) = k) (n i : Nat) (a b c d : Value) : ((#[a, b, c, d] ++ ((numP n i).map fun (k : Nat) => rawInt k).toArray).toList.drop 4).map f = numP n i := by
  have e : ((#[a, b, c, d] ++ ((numP n i).map fun (k : Nat) => rawInt k).toArray).toList.drop 4) = (numP n i).map fun (k : Nat) => rawInt k := by
    simp
  rw [e, List.map_map]
  conv => rhs; rw [← List.map_id (numP n i)]
  exact List.map_congr_left fun x _ => hf x
theorem get3 {a b c d : Value} {nx : Array Value} : (#[a, b, c, d] ++ nx)[3]? = some d := by rw [Array.getElem?_append_left (show 3 < 4 by decide)]; rfl
theorem lt3 {a b c d : Value} {nx : Array Value} {k : Nat} (h : k < 4) : k < (#[a, b, c, d] ++ nx).size := by simp; omega
abbrev pmO (pa : Addr) (st : Int) (n : Nat) (before : Value) (nx : Array Value) : Obj := { cls := .type "itertools.permutations", data := .fields (#[.ref pa, rawInt st, rawInt (n : Nat), before] ++ nx) }
theorem result_ok {it pa : Addr} {st : Int} {n : Nat} {before : Value} {nx : Array Value} {xs : List Value} {K : Fin → Shared → Prop} (hr : s.heap.get? it = some (pmO pa st n before nx)) (hz : xs.length ≤ sizeLine)
    (hK : ∀ h', h'.get? it = some (pmO pa st n (.ref s.heap.objs.size) nx) → h'.get? s.heap.objs.size = some { cls := .type "tuple", data := .seq xs.toArray } →
      (∀ b o, b ≠ it → s.heap.get? b = some o → h'.get? b = some o) → h'.objs.size = s.heap.objs.size + 1 → K (.done (.ret (.ref s.heap.objs.size))) { s with heap := h' }) :
    wpAny (model prog w) A (do
      let t ← newTuple xs
      let before ← field (.ref it) 3
      setField (.ref it) 3 t
      letGo [before] [t]
      ret t) K E s := by
  refine wpAny_bind (wpAny_newTuple ?_ hz)
  have hlt := Heap.lt_size hr
  have hr1 : (s.heap.push { cls := .type "tuple", data := .seq xs.toArray }).get? it = some (pmO pa st n before nx) := Heap.get?_push_of_some _ hr
  refine wpAny_bind (wpAny_field hr1 rfl (x := before) get3 ?_)
  refine wpAny_bind (wpAny_setField_rec hr1 (lt3 (by decide)) fun h' e1 sb => ?_)
  refine wpAny_bind (wpAny_letGo ?_)
  have hne : s.heap.objs.size ≠ it := Nat.ne_of_gt hlt
  refine wpAny_pure (hK h' ?_ ?_ ?_ ?_)
  · rw [e1]
    simp [pmO]
  · rw [sb.2 _ hne]; exact Heap.get?_push_size _ rfl
  · intro b o hb e
    rw [sb.2 _ hb]; exact Heap.get?_push_of_some _ e
  · rw [sb.1]; exact Heap.size_push _ _
theorem idx_len {n i : Nat} (h5 : n ≤ 5) (hi : i < facN n) : (idxP n i).length = n := by
  revert i
  match n, h5 with
  | 0, _ => decide +kernel
  | 1, _ => decide +kernel
  | 2, _ => decide +kernel
  | 3, _ => decide +kernel
  | 4, _ => decide +kernel
  | 5, _ => decide +kernel
  | k + 6, h => omega
theorem idx_lt {n i : Nat} (h5 : n ≤ 5) (hi : i < facN n) : ∀ k ∈ idxP n i, k < n := by
  revert i
  match n, h5 with
  | 0, _ => decide +kernel
  | 1, _ => decide +kernel
  | 2, _ => decide +kernel
  | 3, _ => decide +kernel
  | 4, _ => decide +kernel
  | 5, _ => decide +kernel
  | k + 6, h => omega
theorem numP_take {n i : Nat} (h5 : n ≤ 5) (hi : i - 1 < facN n) : (numP n i).take n = idxP n (i - 1) := by
  unfold numP
  rw [List.take_append_of_le_length (by rw [idx_len h5 hi]; exact Nat.le_refl _), List.take_of_length_le (by rw [idx_len h5 hi]; exact Nat.le_refl _)]
theorem numP_drop {n i : Nat} (h5 : n ≤ 5) (hi : i - 1 < facN n) : (numP n i).drop n = cycP n (i - 1) := by
  unfold numP
  rw [List.drop_append_of_le_length (by rw [idx_len h5 hi]; exact Nat.le_refl _), List.drop_of_length_le (by rw [idx_len h5 hi]; exact Nat.le_refl _), List.nil_append]
/-- what comes next, as the numbers say -/
def nxtP (n i : Nat) : Option (List Nat × List Nat) := if i < facN n then some (idxP n i, cycP n i) else none
theorem next_item {it pa : Addr} {items : Array Value} {n i : Nat} {Q : Option Value → Shared → Prop} (hp : IsPm s.heap it pa n i) (ht : s.heap.IsTuple pa items) (hn : items.size = n) (h5 : n ≤ 5) (hi : i < facN n) (hne : pa ≠ it)
    (hQ : ∀ h', IsPm h' it pa n (i + 1) → h'.get? s.heap.objs.size = some { cls := .type "tuple", data := .seq ((idxP n i).map fun k => items.getD k .none).toArray } →
      (∀ b o, b ≠ it → s.heap.get? b = some o → h'.get? b = some o) → h'.objs.size = s.heap.objs.size + 1 → Q (some (.ref s.heap.objs.size)) { s with heap := h' }) :
    wpAny (model prog w) A (pyNext (.ref it)) Q E s := by
  obtain ⟨before, hr⟩ := hp.at_
  have hT : s.TypeIs (.ref it) "itertools.permutations" := ⟨_, hr, rfl⟩
  obtain ⟨o, ho, hcls, nn, hdat⟩ := ht
  unfold pyNext
  refine wpAny_bind (wpAny_attempt (wpAny_callSpecial?_slot (name := Str.ofString "__next__") hT slot_next (wpAny_call_entry slot_next hT entry_next ?_ (args_next _))))
  show wpAny _ _ (field (.ref it) 0 >>= _) _ _ _
  refine wpAny_bind (wpAny_field hr rfl (x := .ref pa) (by simp) ?_)
  refine wpAny_bind ?_
  show wpAny _ _ (seqItems? (.ref pa) >>= _) _ _ _
  refine wpAny_bind (wpAny_seqItems ho hdat ?_)
  refine wpAny_pure ?_
  refine wpAny_bind ?_
  show wpAny _ _ (field (.ref it) 2 >>= _) _ _ _
  refine wpAny_bind (wpAny_field hr rfl (x := rawInt (n : Nat)) (by simp) ?_)
  refine wpAny_pure ?_
  refine wpAny_bind ?_
  show wpAny _ _ (load it >>= _) _ _ _
  refine wpAny_bind (wpAny_load hr ?_)
  refine wpAny_pure ?_
  rw [nums_read (fun k => Int.toNat_natCast k)]
  show wpAny _ _ (Builtin.Itertools.itIntField (.ref it) 1 >>= _) _ _ _
  refine wpAny_bind ?_
  show wpAny _ _ (field (.ref it) 1 >>= _) _ _ _
  refine wpAny_bind (wpAny_field hr rfl (x := rawInt (if i = 0 then 0 else 1)) (by simp) ?_)
  refine wpAny_pure ?_
  by_cases hi0 : i = 0
  · subst hi0
    rw [if_pos rfl]
    split
    · refine wpAny_bind (wpAny_setField_rec hr (lt3 (by decide)) fun h1 e1 sb => ?_)
      have hr1 : h1.get? it = some (pmO pa 1 n before ((numP n 0).map fun (k : Nat) => rawInt k).toArray) := by
        rw [e1]; simp [pmO]
      have hsz : h1.objs.size = s.heap.objs.size := sb.1
      refine result_ok (s := { s with heap := h1 }) hr1 ?_ fun h' a1 a2 a3 a4 => ?_
      · rw [List.length_map, List.length_take, sizeLine_eq]; omega
      · refine ⟨_, rfl, wpAny_pure ?_⟩
        dsimp only at a1 a2 a3 a4 ⊢
        rw [hsz] at a1 a2 a4 ⊢
        refine hQ h' ⟨_, a1⟩ ?_ (fun b o hb e => a3 b o hb (by rw [sb.2 b hb]; exact e)) a4
        rw [a2, Int.toNat_natCast, numP_take (i := 0) h5 hi]
    · rename_i h0
      exact absurd h0 (by decide)
    · rename_i h0 _
      exact absurd rfl h0
  · rw [if_neg hi0]
    split
    · rename_i h0
      exact absurd h0 (by decide)
    · split
      · rename_i a b he
        rw [hn, Int.toNat_natCast] at he
        have hkey : nxtP n i = some (a, b) := by
          rw [← he]
          clear he hQ hp hr hT hn
          revert i
          match n, h5 with
          | 0, _ => decide +kernel
          | 1, _ => decide +kernel
          | 2, _ => decide +kernel
          | 3, _ => decide +kernel
          | 4, _ => decide +kernel
          | 5, _ => decide +kernel
          | k + 6, h => omega
        unfold nxtP at hkey
        rw [if_pos hi] at hkey
        obtain ⟨rfl, rfl⟩ : idxP n i = a ∧ cycP n i = b := by
          have := Option.some.inj hkey
          exact ⟨congrArg Prod.fst this, congrArg Prod.snd this⟩
        have hlen := idx_len h5 hi
        have hcl : (cycP n i).length = n := by unfold cycP; rw [List.length_map, List.length_range]
        refine wpAny_bind ?_
        show wpAny _ _ (updateFields it _) _ _ _
        rw [if_neg hi0] at hr
        refine wpAny_updateFields hr rfl ?_ ?_
        · have sb : Heap.SameBut it s.heap (s.heap.update it (Obj.mapFields fun fs => fs.extract 0 4 ++ ((idxP n i ++ cycP n i).map fun (k : Nat) => rawInt k).toArray)) := Heap.SameBut.update ..
          have hr1 : (s.heap.update it (Obj.mapFields fun fs => fs.extract 0 4 ++ ((idxP n i ++ cycP n i).map fun (k : Nat) => rawInt k).toArray)).get? it = some (pmO pa 1 n before ((numP n (i + 1)).map fun (k : Nat) => rawInt k).toArray) := by
            rw [Heap.get?_update_self _ hr rfl]
            simp [Obj.mapFields, numP]
          refine result_ok (s := { s with heap := _ }) hr1 ?_ fun h' a1 a2 a3 a4 => ?_
          · rw [List.length_map, List.length_take, sizeLine_eq]; omega
          · refine ⟨_, rfl, wpAny_pure ?_⟩
            dsimp only at a1 a2 a3 a4 ⊢
            rw [sb.1] at a1 a2 a4 ⊢
            refine hQ h' ⟨.ref s.heap.objs.size, ?_⟩ ?_ (fun b o hb e => a3 b o hb (by rw [sb.2 b hb]; exact e)) a4
            · rw [a1]
              simp
            · rw [a2, Int.toNat_natCast, List.take_of_length_le (by rw [hlen]; exact Nat.le_refl _)]
        · simp
          rw [sizeLine_eq]
          omega
      · rename_i he
        exfalso
        rw [hn, Int.toNat_natCast] at he
        have hkey : nxtP n i = none := by
          rw [← he]
          clear he hQ hp hr hT hn
          revert i
          match n, h5 with
          | 0, _ => decide +kernel
          | 1, _ => decide +kernel
          | 2, _ => decide +kernel
          | 3, _ => decide +kernel
          | 4, _ => decide +kernel
          | 5, _ => decide +kernel
          | k + 6, h => omega
        unfold nxtP at hkey
        rw [if_pos hi] at hkey
        cases hkey
    · rename_i h0
      exact absurd rfl h0
/-- the end of it -/
theorem next_end {it pa : Addr} {items : Array Value} {n : Nat} {Q : Option Value → Shared → Prop} (hh : A.handled = none) (hp : IsPm s.heap it pa n (facN n)) (ht : s.heap.IsTuple pa items) (hn : items.size = n) (h5 : n ≤ 5)
    (hQ : ∀ h', (∀ b o, b ≠ it → s.heap.get? b = some o → h'.get? b = some o) → Q none { s with heap := h' }) :
    wpAny (model prog w) A (pyNext (.ref it)) Q E s := by
  obtain ⟨before, hr⟩ := hp.at_
  have hT : s.TypeIs (.ref it) "itertools.permutations" := ⟨_, hr, rfl⟩
  obtain ⟨o, ho, hcls, nn, hdat⟩ := ht
  have hf0 : facN n ≠ 0 := by
    match n, h5 with
    | 0, _ => decide
    | 1, _ => decide
    | 2, _ => decide
    | 3, _ => decide
    | 4, _ => decide
    | 5, _ => decide
    | k + 6, h => omega
  unfold pyNext
  refine wpAny_bind (wpAny_attempt (wpAny_callSpecial?_slot (name := Str.ofString "__next__") hT slot_next (wpAny_call_entry slot_next hT entry_next ?_ (args_next _))))
  show wpAny _ _ (field (.ref it) 0 >>= _) _ _ _
  refine wpAny_bind (wpAny_field hr rfl (x := .ref pa) (by simp) ?_)
  refine wpAny_bind ?_
  show wpAny _ _ (seqItems? (.ref pa) >>= _) _ _ _
  refine wpAny_bind (wpAny_seqItems ho hdat ?_)
  refine wpAny_pure ?_
  refine wpAny_bind ?_
  show wpAny _ _ (field (.ref it) 2 >>= _) _ _ _
  refine wpAny_bind (wpAny_field hr rfl (x := rawInt (n : Nat)) (by simp) ?_)
  refine wpAny_pure ?_
  refine wpAny_bind ?_
  show wpAny _ _ (load it >>= _) _ _ _
  refine wpAny_bind (wpAny_load hr ?_)
  refine wpAny_pure ?_
  rw [nums_read (fun k => Int.toNat_natCast k)]
  show wpAny _ _ (Builtin.Itertools.itIntField (.ref it) 1 >>= _) _ _ _
  refine wpAny_bind ?_
  show wpAny _ _ (field (.ref it) 1 >>= _) _ _ _
  refine wpAny_bind (wpAny_field hr rfl (x := rawInt (if facN n = 0 then 0 else 1)) (by simp) ?_)
  refine wpAny_pure ?_
  rw [if_neg hf0]
  split
  · rename_i h0
    exact absurd h0 (by decide)
  · split
    · rename_i a b he
      exfalso
      rw [hn, Int.toNat_natCast] at he
      have hkey : (none : Option (List Nat × List Nat)) = some (a, b) := by
        rw [← he]
        clear he hQ hp hr hT hn hf0
        match n, h5 with
        | 0, _ => decide +kernel
        | 1, _ => decide +kernel
        | 2, _ => decide +kernel
        | 3, _ => decide +kernel
        | 4, _ => decide +kernel
        | 5, _ => decide +kernel
        | k + 6, h => omega
      cases hkey
    · refine wpAny_bind (wpAny_setField_rec hr (lt3 (by decide)) fun h1 e1 sb => ?_)
      show wpAny _ _ (newExc (.type "StopIteration") [] >>= _) _ _ _
      refine wpAny_bind ?_
      simp only [newExc, newTuple]
      refine wpAny_bind (wpAny_newObj_type ?_ (by size_fits))
      refine wpAny_bind (m := firstArgMember _ _) (wpAny_of_eq (a := Value.none) (by first | rfl | (simp only [firstArgMember]; rfl)) ?_)
      refine wpAny_newObj_type ?_ (by size_fits)
      simp only [raiseNew]
      refine wpAny_bind (wpAny_handled ?_)
      first | rw [show A.in1.handled = none from hh] | rw [hh]
      refine wpAny_bind (wpAny_pure (wpAny_throw ?_))
      refine wpAny_bind (wpAny_isInstance (T := "StopIteration") (b := true) ⟨_, Heap.get?_push_size _ rfl, rfl⟩ isSubtype_stop ?_)
      exact wpAny_pure (hQ _ ((sb.extBut.push _).push _))
  · rename_i h0
    exact absurd rfl h0
end
end Obp
namespace Obp
open PySem PyProof.Rows L2
open Sem (wp)
theorem plain_new : plainId "itertools.permutations.__new__" = true := by decide +kernel
theorem sub_p : isSubtype (.type "itertools.permutations") (.type ("itertools." ++ "permutations")) = pure true := by
  have e : ("itertools." ++ "permutations" : String) = "itertools.permutations" := by decide +kernel
  rw [e, isSubtype_type]; kernel_rfl
theorem num0 {n : Nat} (h5 : n ≤ 5) : numP n 0 = List.range n ++ (List.range n).map fun i => n - i := by
  match n, h5 with
  | 0, _ => decide +kernel
  | 1, _ => decide +kernel
  | 2, _ => decide +kernel
  | 3, _ => decide +kernel
  | 4, _ => decide +kernel
  | 5, _ => decide +kernel
  | k + 6, h => omega
section
variable {prog : Program} {w : World} {A : Around} {E : Value → Shared → Prop} {s : Shared} {r : Addr} {a b c : Int} {t u v : Tok} {n : Nat}
theorem code_new {Q₁ : Value → Shared → Prop} (hh : A.handled = none) (hr : IsRange s.heap r a b c t u v) (hsmall : Builtin.Range.small a b c = true) (hn : Builtin.Range.rangeSize a b c = n) (h5 : n ≤ 5)
    (h : ∀ (h0 hf : Heap) (tk : Nat) (acc : Array Value), (∀ b o, s.heap.get? b = some o → h0.get? b = some o) → (∀ b o, h0.get? b = some o → hf.get? b = some o) → ItemsOf (fun i v => ∃ t, v = .int (a + i * c) t) acc n →
      hf.get? h0.objs.size = some { cls := .type "tuple", data := .seq acc } → IsPm hf (h0.objs.size + 1) h0.objs.size n 0 → Q₁ (.ref (h0.objs.size + 1)) { s with heap := hf, toks := tk }) :
    codeAny (model prog w) A (.call (.builtin "itertools.permutations.__new__") ⟨[.type "itertools.permutations", .ref r], []⟩) (wants Q₁ E) s := by
  refine codeAny_of_tree ?_
  show wpAny _ A.in1 (do checkBuiltinCall "itertools.permutations.__new__" ⟨[.type "itertools.permutations", .ref r], []⟩; again (.builtin "itertools.permutations.__new__" ⟨[.type "itertools.permutations", .ref r], []⟩)) _ _ s
  refine wpAny_bind (wpAny_of_eq (newCall_p _) (wpAny_pure ⟨plainId_quiet plain_new _, codeAny_builtin entry_new ?_⟩))
  rw [Around.under_plainId plain_new _]
  have hh1 : A.in1.handled = none := hh
  have hsub := sub_p
  have hle : n ≤ 2 ^ 24 := by omega
  wp_walk using collect_range (A := A.in1) hh1 hr hsmall hn hle
  intro h' tk acc hk hacc
  have hl : acc.toList.length = n := by rw [Array.length_toList]; exact hacc.1
  refine wpAny_bind (m := pure ((acc.toList.length : Nat) : Int)) (wpAny_pure ?_)
  dsimp only
  rw [hl, if_neg (by omega : ¬ ((n : Nat) : Int) < 0)]
  rw [if_neg (by unfold Builtin.Itertools.itTooMany; rw [decide_eq_true_eq]; omega)]
  refine wpAny_bind (wpAny_newTuple ?_ (by rw [hl, sizeLine_eq]; omega))
  refine wpAny_bind ?_
  unfold Builtin.Itertools.itNewRecord
  have hd : typeHasDict (.type "itertools.permutations") = false := by decide +kernel
  rw [hd]
  rw [if_pos (by rfl)]
  refine wpAny_newObj_type ?_ ?_
  · refine wpAny_pure ?_
    show Q₁ _ _
    have hz : (h'.push { cls := .type "tuple", data := .seq acc.toList.toArray }).objs.size = h'.objs.size + 1 := Heap.size_push _ _
    have hfin := h h' ((h'.push { cls := .type "tuple", data := .seq acc.toList.toArray }).push { cls := .type "itertools.permutations", data := .fields ([.ref h'.objs.size, rawInt (if (n : Int).toNat > n then 2 else 0), rawInt ((n : Int).toNat : Nat), .none] ++ (List.range n).map (fun (i : Nat) => rawInt i) ++ (List.range (n : Int).toNat).map fun (i : Nat) => rawInt ((n : Int) - (i : Nat))).toArray }) tk acc hk (fun b o e => Heap.get?_push_of_some _ (Heap.get?_push_of_some _ e)) hacc ?_ ?_
    · rw [← hz] at hfin
      exact hfin
    · have e : acc.toList.toArray = acc := by simp
      rw [e]
      exact Heap.get?_push_of_some _ (Heap.get?_push_size _ rfl)
    · refine ⟨.none, ?_⟩
      rw [← hz]
      refine (Heap.get?_push_size _ rfl).trans ?_
      rw [Int.toNat_natCast, if_neg (by omega : ¬ n > n), if_pos rfl]
      have e1 : (numP n 0).map (fun (k : Nat) => rawInt k) = (List.range n).map (fun (i : Nat) => rawInt i) ++ (List.range n).map fun (i : Nat) => rawInt ((n : Int) - (i : Nat)) := by
        rw [num0 h5, List.map_append, List.map_map]
        congr 1
        refine List.map_congr_left fun x hx => ?_
        have := List.mem_range.mp hx
        show rawInt ((n - x : Nat) : Int) = rawInt ((n : Int) - (x : Nat))
        congr 1
        omega
      rw [e1]
      simp
  · rw [Int.toNat_natCast]
    show Array.size _ ≤ sizeLine + 2
    simp
    rw [sizeLine_eq]
    omega
end
end Obp
namespace Obp
open PySem PyProof.Rows
section
variable {prog : Program} {w : World} {A : Around} {E : Value → Shared → Prop} {s : Shared} {r : Addr} {a b c : Int} {t u v : Tok} {n : Nat}
theorem call_new {Q : Value → Shared → Prop} (hh : A.handled = none) (hr : IsRange s.heap r a b c t u v) (hsmall : Builtin.Range.small a b c = true) (hn : Builtin.Range.rangeSize a b c = n) (h5 : n ≤ 5)
    (h : ∀ (h0 hf : Heap) (tk : Nat) (acc : Array Value), (∀ b o, s.heap.get? b = some o → h0.get? b = some o) → (∀ b o, h0.get? b = some o → hf.get? b = some o) → ItemsOf (fun i v => ∃ t, v = .int (a + i * c) t) acc n →
      hf.get? h0.objs.size = some { cls := .type "tuple", data := .seq acc } → IsPm hf (h0.objs.size + 1) h0.objs.size n 0 → Q (.ref (h0.objs.size + 1)) { s with heap := hf, toks := tk }) :
    wpAny (model prog w) A (call (.type "itertools.permutations") [.ref r]) Q E s := by
  refine callType_codes (Q₁ := fun obj s₁ => s₁.TypeIs obj "itertools.permutations" ∧ Q obj s₁) called_p (typeCall_p _) F.entry_object_init
    (code_new (A := A.in1) hh hr hsmall hn h5 fun h0 hf tk acc k1 k2 hacc e1 hp => ⟨?_, h h0 hf tk acc k1 k2 hacc e1 hp⟩) fun obj s₁ h₁ => ?_
  · obtain ⟨bf, hb⟩ := hp.at_
    exact ⟨_, hb, rfl⟩
  · exact ⟨h₁.1, F.args_object_init_2 obj _, object_init_meets called_p.init.lookup called_p.made (by decide) prog w A.in1 _ s₁ ⟨h₁.1, rfl, h₁.2⟩⟩
end
end Obp
namespace Obr
open PySem L2 PySem.Spec PyProof.Rows Obp
/-- the arrangements of 0 .. n - 1, in turn, each a new tuple -/
def ItPm (n : Nat) : It := ⟨fun i _ => i < facN n, fun i H v H' => ∃ T, v = .ref T ∧ H T = none ∧ H' = upd H T (.tup ((idxP n i).map fun k => V.int (k : Nat))), fun i _ => i = facN n⟩
theorem vals_idx {items : Array Value} {n : Nat} : ∀ {l : List Nat}, (∀ k ∈ l, k < n) → (∀ k, k < n → ∃ t, items[k]? = some (.int (k : Nat) t)) → Vals (l.map fun k => V.int (k : Nat)) (l.map fun k => items.getD k .none)
  | [], _, _ => .nil
  | k :: l, h, hi => by
    obtain ⟨t, e⟩ := hi k (h k List.mem_cons_self)
    refine .cons ?_ (vals_idx (fun k' h' => h k' (List.mem_cons_of_mem _ h')) hi)
    have e2 : items.getD k .none = .int (k : Nat) t := by
      rw [Array.getD_eq_getD_getElem?, e]; rfl
    show L2.RelV (V.int (k : Nat)) (items.getD k .none)
    rw [e2]
    exact ⟨t, rfl⟩
theorem turn_perm {P : Program} {w : World} {K : PySem.W.Frag} {tg : Expr} {n : Nat} (h5 : n ≤ 5) (it pa : Addr) :
    Turn P w K tg (ItPm n) [it, pa] it (fun i h => IsPm h it pa n i ∧ (∃ items, h.IsTuple pa items ∧ items.size = n ∧ ∀ k, k < n → ∃ t, items[k]? = some (.int (k : Nat) t)) ∧ pa ≠ it) where
  mem := by simp
  obj := fun i h st b hb => by
    obtain ⟨⟨bf, e⟩, ⟨items, ⟨o, ho, hc, m, hd⟩, _⟩, _⟩ := st
    have e' : b = it ∨ b = pa := by simpa using hb
    rcases e' with z | z
    · rw [z]; exact ⟨_, e, fun v q => nomatch q⟩
    · rw [z]; exact ⟨o, ho, fun v q => by rw [hd] at q; cases q⟩
  keep := fun i h h' st k => by
    obtain ⟨⟨bf, e⟩, ⟨items, ⟨o, ho, hr⟩, hq⟩, hne⟩ := st
    exact ⟨⟨bf, k it (by simp) _ e⟩, ⟨items, ⟨o, k pa (by simp) _ ho, hr⟩, hq⟩, hne⟩
  item := by
    intro X hP hw hK hc i pins s σ H E I hf st hg
    subst hP hw hK
    obtain ⟨hp, ⟨items, ht, hn, hit⟩, hne⟩ := st
    refine next_item hp ht hn h5 hg hne fun h' hp' hT hk hsz => ?_
    obtain ⟨bf, hrec⟩ := hp'.at_
    refine ⟨_, rfl, go_of (s := { s with heap := h' }) (n := "itertools.permutations") hrec rfl rfl (by decide) ?_⟩
    have new : ObjOk X.prog X.w (upd H s.heap.objs.size (.tup ((idxP n i).map fun k => V.int (k : Nat)))) h' s.heap.objs.size (.tup ((idxP n i).map fun k => V.int (k : Nat))) :=
      ⟨by rw [List.length_map, idx_len h5 hg, sizeLine_eq]; omega, _, vals_idx (idx_lt h5 hg) hit, ⟨_, hT, rfl, _, rfl⟩⟩
    have I1 := I.turnedNew (t' := s.toks) (ch := [it]) (fun b ob hb q => hk b ob (fun z => hb (by simp [z])) q) (fun b hb => hf b (by
      have : b = it := by simpa using hb
      simp [this])) (Nat.le_refl _) new
    refine ⟨.ref s.heap.objs.size, _, I1, rfl, ⟨_, rfl, I.hok.fresh (Nat.le_refl _), rfl⟩, ⟨hp', ⟨items, ?_, hn, hit⟩, hne⟩, fun b hb => ?_⟩
    · obtain ⟨o, ho, hr⟩ := ht
      exact ⟨o, hk pa o hne ho, hr⟩
    · have hlt : b < s.heap.objs.size := by
        obtain ⟨_, e⟩ := hp.at_
        obtain ⟨o, ho, _⟩ := ht
        have e' : b = it ∨ b = pa := by simpa using hb
        rcases e' with z | z
        · rw [z]; exact Heap.lt_size e
        · rw [z]; exact Heap.lt_size ho
      rw [upd_ne (Nat.ne_of_lt hlt)]
      exact (hf b hb).1
  done := by
    intro X hP hw hK hc i pins s σ H E I hf st hg
    subst hP hw hK
    obtain ⟨hp, ⟨items, ht, hn, hit⟩, hne⟩ := st
    cases (show i = facN n from hg)
    obtain ⟨f0, f1, f2, f3, f4, f5⟩ := hf it (by simp)
    exact next_end (I.ok.hd hc) hp ht hn h5 fun h' hk => ⟨rfl, I.turned (t' := s.toks) hk f0 f1 f3 f4 f5⟩
  self := fun A i s Q E st h => by
    obtain ⟨⟨bf, e⟩, _⟩ := st
    have hT : s.TypeIs (.ref it) "itertools.permutations" := ⟨_, e, rfl⟩
    refine wpAny_pyIter_slot hT slot_iter (wpAny_call_entry slot_iter hT entry_iter ?_ (args_iter _))
    show wpAny _ _ (ret (.ref it)) _ _ s
    exact wpAny_pure ⟨_, rfl, "itertools.permutations", _, hT, slot_next.lookup, h⟩
def iPerm (te : L2.St → Hp → (Int → Int → Hp → Prop) → Prop) : TI := fun σ H R => te σ H fun a b H1 => ∃ n : Nat, a = 0 ∧ b = (n : Nat) ∧ n ≤ 5 ∧ R (ItPm n) H1
theorem pi_perm {X : Cx} {tg e : Expr} {te : L2.St → Hp → (Int → Int → Hp → Prop) → Prop} {p pos : Pos} (hc : X.calm = true) (hg : Gl X "permutations") (hm : X.mg "permutations" = some (.type "itertools.permutations")) (he : PRg X e te)
    (na : starEach [e] X.env = (false, eval e X.env) :: starEach [] X.env := by rfl) : PI X tg (.Call (.Name "permutations" p) [e] [] pos) (iPerm te) := by
  refine ⟨fun pins s σ H R I h => ?_⟩
  refine Call_ (ld_glob I hg hm (PyProof.Rows.callWith_type1 (args_cons (thn (he pins s σ H _ I h) fun x s1 ⟨r, a, b, t, u, v, H1, ex, hr, I1, n, ea, eb, h5, q⟩ => args_nil ?_) na) na) (by decide))
  subst ex ea eb
  refine call_new (n := n) (I1.ok.hd hc) hr (small_one (by omega) (by omega) (by omega) (by omega)) (by rw [rangeSize_nat]; simp) h5 fun h0 hf tk acc k1 k2 hacc hpa hp => ?_
  have I2 : Inv X pins σ H1 { s1 with heap := h0, toks := tk } := I1.kept k1
  have I3 : Inv X pins σ H1 { s1 with heap := hf, toks := tk } := I2.kept k2
  have st0 : IsPm hf (h0.objs.size + 1) h0.objs.size n 0 ∧ (∃ items, hf.IsTuple h0.objs.size items ∧ items.size = n ∧ ∀ k, k < n → ∃ t, items[k]? = some (.int (k : Nat) t)) ∧ h0.objs.size ≠ h0.objs.size + 1 := by
    refine ⟨hp, ⟨acc, ⟨_, hpa, rfl, _, rfl⟩, hacc.1, fun k hk => ?_⟩, by omega⟩
    have hk' : k < acc.size := by rw [hacc.1]; exact hk
    obtain ⟨t, e⟩ := hacc.2 k acc[k] (Array.getElem?_eq_getElem hk')
    refine ⟨t, ?_⟩
    rw [Array.getElem?_eq_getElem hk', e]
    congr 2
    omega
  refine (turn_perm (P := X.prog) (w := X.w) (K := X.K) (tg := tg) h5 (h0.objs.size + 1) h0.objs.size).self _ 0 _ _ _ st0 ?_
  refine ⟨h0.objs.size + 1, [h0.objs.size + 1, h0.objs.size], _, _, H1, rfl, I3, turn_perm h5 (h0.objs.size + 1) h0.objs.size, st0, fun b hb => ?_, q⟩
  have e' : b = h0.objs.size + 1 ∨ b = h0.objs.size := by simpa using hb
  have hle : h0.objs.size ≤ b := by
    rcases e' with z | z
    · rw [z]; exact Nat.le_succ _
    · rw [z]; exact Nat.le_refl _
  exact I2.fpOk hle (I2.hok.fresh hle)
theorem walk_perm {n : Nat} : Walk (ItPm n) (facN n) (fun _ => True) (fun i H v H' => ∃ T, v = .ref T ∧ H T = none ∧ H' = upd H T (.tup ((idxP n i).map fun k => V.int (k : Nat)))) :=
  ⟨fun i _ hi _ => hi, fun _ _ => rfl, fun i H v H' _ _ y => y⟩
section
variable {S : Type} {J : S → Hp → Hp → Prop} {K : PySem.W.Frag} {σ : L2.St} {s : S} {F : Hp} {R : V → S → Hp → Prop} {te : TE} {tt : TT} {t : TS} {g : TG} {tn : TE} {D : En S} {vs : List Nat}
theorem sw_forPm (hd : Hid J) (h : EW J tn σ s F fun v s1 F1 => ∃ (n : Nat) (Pv : Nat → L2.St → S → Hp → Prop), v = .int (n : Nat) ∧ n ≤ 5 ∧ Pv 0 σ s1 F1 ∧
      (∀ (i : Nat) σ s F T, i < facN n → Pv i σ s F → F T = none → GW J g (.ref T) σ s (upd F T (.tup ((idxP n i).map fun k => V.int (k : Nat)))) fun σ s F => SW J t { D with nx := Pv (i + 1), ct := Pv (i + 1), bk := D.nx } σ s F) ∧ (∀ σ s F, Pv (facN n) σ s F → D.nx σ s F)) :
    SW J (tFor (iPerm (tRg1 tn)) g t) D σ s F := fun H j D' l =>
  h H j _ fun v s1 F1 H1 j1 ⟨n, Pv, e, h5, h0, hs, hdn⟩ => ⟨n, e, n, rfl, rfl, h5, for_it walk_perm (fun i σ H => ∃ s F, J s F H ∧ Pv i σ s F) ⟨s1, F1, j1, h0⟩
    (fun _ _ _ _ _ => True.intro)
    (fun i x σ' H' H'' hi ⟨s', F', j', p⟩ ⟨T, ex, hT, eH⟩ => by
      subst ex eH
      exact hs i σ' s' F' T hi p (hd.fresh j' hT) _ (hd.al j' hT) _ fun σ2 s2 F2 H2 j2 k => k H2 j2 _ ⟨fun σ3 s3 F3 H3 j3 k3 => ⟨s3, F3, j3, k3⟩, l.rt, l.nx, fun σ3 s3 F3 H3 j3 k3 => ⟨s3, F3, j3, k3⟩⟩)
    (fun σ' H' ⟨s', F', j', p⟩ => l.nx _ _ _ _ j' (hdn σ' s' F' p))⟩
theorem ew_lcPm (hd : Hid J) (h : EW J tn σ s F fun v s1 F1 => ∃ (n : Nat), v = .int (n : Nat) ∧ n ≤ 5 ∧ ∀ Dl, F1 Dl = none → ∃ Pv : Nat → List V → S → Hp → Prop, Pv 0 [] s1 F1 ∧
      (∀ i acc s F, i ≤ facN n → F Dl = none → Pv i acc s F → acc.length ≤ i) ∧ (∀ (i : Nat) acc s F T, i < facN n → F Dl = none → Pv i acc s F → F T = none → T ≠ Dl → LcTurn J Dl g tt te vs σ acc (.ref T) s (upd F T (.tup ((idxP n i).map fun k => V.int (k : Nat)))) (Pv (i + 1))) ∧
      (∀ acc s F, F Dl = none → Pv (facN n) acc s F → R (.ref Dl) s (upd F Dl (.lst acc)))) : EW J (tLc (iPerm (tRg1 tn)) g tt te vs) σ s F R := fun H j Q q =>
  h H j _ fun v s1 F1 H1 j1 ⟨n, e, h5, k⟩ => ⟨n, e, n, rfl, rfl, h5, fun Dl hD => by
    have fD := hd.fresh j1 hD
    have hf : facN n ≤ 120 := by
      match n, h5 with
      | 0, _ => decide
      | 1, _ => decide
      | 2, _ => decide
      | 3, _ => decide
      | 4, _ => decide
      | 5, _ => decide
      | k + 6, h => omega
    obtain ⟨Pv, h0, hl, hs, hdn⟩ := k Dl fD
    refine lc_it walk_perm (fun i H => ∃ acc s F, i ≤ facN n ∧ F Dl = none ∧ J s (upd F Dl (.lst acc)) H ∧ Pv i acc s F) ⟨[], s1, F1, Nat.zero_le _, fD, hd.al j1 hD, h0⟩ (fun i H' hi _ => True.intro) (fun i x H' H'' hi ⟨acc, s', F', hle, f1, j', p⟩ ⟨T, ex, hT, eH⟩ => ?_) (fun H' ⟨acc, s', F', _, f1, j', p⟩ => q _ _ _ _ j' (hdn acc s' F' f1 p))
    subst ex eH
    have f3 := hl i acc s' F' hle f1 p
    have hT2 := hd.fresh j' hT
    have hne : T ≠ Dl := fun q => by rw [q, upd_same] at hT2; cases hT2
    have hT3 : F' T = none := by rw [upd_ne hne] at hT2; exact hT2
    have jd := (Hid.jd (D := Dl) (acc := acc) hd).al (s := s') (F := F') (H := H') (p := T) (o := .tup ((idxP n i).map fun k => V.int (k : Nat))) ⟨f1, j'⟩ hT
    exact lc_step hd (by omega) (hs i acc s' F' T hi f1 p hT3 hne) jd.1 jd.2 fun acc s F H fd j p => ⟨acc, s, F, by omega, fd, j, p⟩⟩
end
end Obr
namespace Obr
open PySem L2 PyProof.Rows
/-! ### pairs of ints -/
def pairOf (F : Hp) (x : V) : Int × Int := match x with
  | .ref t => match F t with
    | some (.tup [.int i, .int j]) => (i, j)
    | _ => (0, 0)
  | _ => (0, 0)
/-- the pairs of ints at these -/
inductive Prs (F : Hp) : List V → List (Int × Int) → Prop
  | nil : Prs F [] []
  | cons {t : Addr} {p : Int × Int} {xs : List V} {ps : List (Int × Int)} (h : F t = some (.tup [.int p.1, .int p.2])) (r : Prs F xs ps) : Prs F (.ref t :: xs) (p :: ps)
theorem Prs.map {F : Hp} : ∀ {xs ps}, Prs F xs ps → xs.map (pairOf F) = ps
  | _, _, .nil => rfl
  | _, _, .cons (t := t) (p := p) h r => by
    rw [List.map_cons, r.map]
    have e : pairOf F (.ref t) = p := by
      unfold pairOf
      simp only [h]
    rw [e]
theorem Prs.at {F : Hp} : ∀ {xs ps}, Prs F xs ps → ∀ x ∈ xs, ∃ t, x = V.ref t ∧ F t = some (.tup [.int (pairOf F x).1, .int (pairOf F x).2])
  | _, _, .cons (t := t) (p := p) h r, x, hx => by
    rcases List.mem_cons.mp hx with e | hx
    · subst e
      refine ⟨t, rfl, ?_⟩
      have e : pairOf F (.ref t) = p := by
        unfold pairOf
        simp only [h]
      rw [e]
      exact h
    · exact r.at x hx
theorem Prs.len {F : Hp} : ∀ {xs ps}, Prs F xs ps → xs.length = ps.length
  | _, _, .nil => rfl
  | _, _, .cons h r => by rw [List.length_cons, List.length_cons, r.len]
theorem Prs.ex {F G : Hp} (g : Ex F G) : ∀ {xs ps}, Prs F xs ps → Prs G xs ps
  | _, _, .nil => .nil
  | _, _, .cons h r => .cons (g _ _ h) (r.ex g)
theorem Prs.snoc {F : Hp} {t : Addr} {p : Int × Int} (h : F t = some (.tup [.int p.1, .int p.2])) : ∀ {xs ps}, Prs F xs ps → Prs F (xs ++ [.ref t]) (ps ++ [p])
  | _, _, .nil => .cons h .nil
  | _, _, .cons h1 r => .cons h1 (r.snoc h)
theorem Prs.get {F : Hp} : ∀ {xs ps}, Prs F xs ps → ∀ {i : Nat} {x : V}, xs[i]? = some x → ∃ t p, x = V.ref t ∧ F t = some (.tup [.int p.1, .int p.2]) ∧ ps[i]? = some p
  | _, _, .nil, i, x, h => by simp at h
  | _, _, .cons (t := t) (p := p) h r, 0, x, e => by
    simp at e
    subst e
    exact ⟨t, p, rfl, h, rfl⟩
  | _, _, .cons h r, i + 1, x, e => by
    simp only [List.getElem?_cons_succ] at e ⊢
    exact r.get e
end Obr
namespace Obr
open PySem L2 PyProof.Rows
local macro_rules | `(tactic| walk_at "ob_at") => `(tactic| first
  | assumption
  | exact upd_same
  | (refine Eq.trans (upd_ne ?obn) ?obr; (case obn => walk_at "ob_ne"); (case obr => walk_at "ob_at")))
local macro_rules | `(tactic| walk_at "ob_ne") => `(tactic| first
  | assumption
  | (refine Ne.symm ?obs; (case obs => assumption))
  | (refine' ne_of_none (H := ?_) ?obe ?obh; (case obh => assumption); (case obe => walk_at "ob_at"))
  | (refine Ne.symm ?obs; (case obs => (refine' ne_of_none (H := ?_) ?obe ?obh; (case obh => assumption); (case obe => walk_at "ob_at")))))
local macro_rules | `(tactic| walk_at "ob_fr") => `(tactic| first
  | assumption
  | (refine Eq.trans (upd_ne ?obn) ?obr; (case obn => walk_at "ob_ne"); (case obr => walk_at "ob_fr"))
  | (refine Ex.free (G := ?_) (by assumption) ?obh; (case obh => walk_at "ob_fr")))
local macro_rules | `(tactic| walk_at "ob_ex") => `(tactic| first
  | assumption
  | exact Ex.refl _
  | (refine Ex.out ?obg ?obh; (case obh => assumption); (case obg => walk_at "ob_ex"))
  | (refine Ex.new ?obg ?obh; (case obh => assumption); (case obg => walk_at "ob_ex"))
  | (refine Ex.new ?obg ?obh; (case obh => walk_at "ob_fr"); (case obg => walk_at "ob_ex")))
local macro_rules | `(tactic| walk_at "ob_sq") => `(tactic| first
  | assumption
  | (refine SqL.of ?oba; (case oba => walk_at "ob_at"))
  | (refine Ex.sqT (F := ?_) ?obg ?obh; (case obh => assumption); (case obg => walk_at "ob_ex"))
  | (refine Ex.sqL (F := ?_) ?obg ?obh; (case obh => assumption); (case obg => walk_at "ob_ex"))
  | (refine SqT.of ?oba; (case oba => walk_at "ob_at")))
local macro_rules | `(tactic| walk_at "ob_side") => `(tactic| first | exact rfl | assumption | decide | omega | exact ⟨by decide, by decide, by decide⟩ | exact Or.inr ⟨by decide, by decide⟩ | exact Or.inl ⟨by decide, by decide⟩ | exact wide_div (b := 60) (by first | decide | omega) (by first | decide | omega) (by decide) (by decide))
local macro_rules | `(tactic| walk_at "ob1") => `(tactic| first
  | with_reducible refine sw_seq ?_
  | with_reducible refine sw_asg ?_
  | with_reducible refine sw_ret ?_
  | with_reducible refine sw_par ?_
  | with_reducible refine ⟨_, _, rfl, ?_⟩
  | with_reducible refine sw_drop ?_
  | with_reducible refine sw_if ?_
  | with_reducible refine sw_next ?_
  | with_reducible refine gw_name ?_
  | with_reducible refine gw_subL (by assumption) ?_
  | with_reducible refine gsw_cons ?_
  | with_reducible refine gsw_nil ?_
  | with_reducible refine ew_c ?_
  | ((with_reducible refine' ew_var (v := ?_) ?obv ?_); (case obv => exact rfl))
  | ((with_reducible refine ew_next (by assumption) ?obv ?_); (case obv => exact rfl))
  | ((with_reducible refine ew_world (by assumption) ?obv ?_); (case obv => exact rfl))
  | ((with_reducible refine ew_rule (by assumption) ?obv ?_); (case obv => exact rfl))
  | with_reducible refine ew_op ?_
  | with_reducible refine ew_un ?_
  | with_reducible refine ew_dget (by assumption) ?_
  | with_reducible refine uw_I ?_
  | with_reducible refine ppw_nil ?_
  | with_reducible refine ppw_cons ?_
  | with_reducible refine sw_dput (by assumption) ?_
  | with_reducible refine ew_cb ?_
  | with_reducible refine ew_if ?_
  | with_reducible refine ew_slL (by assumption) ?_
  | with_reducible refine ow_some ?_
  | with_reducible refine ow_none ?_
  | with_reducible refine aw_nil ?_
  | with_reducible refine aw_cons ?_
  | with_reducible refine rw_I0 ?_
  | ((with_reducible refine rw_I ?obc ?_); (case obc => walk_at "ob_side"))
  | with_reducible refine rw_isN ?_
  | with_reducible refine rw_notN ?_
  | ((with_reducible refine rw_eq ?obc ?_); (case obc => exact rfl))
  | ((with_reducible refine rw_ne ?obc ?_); (case obc => exact rfl))
  | with_reducible refine cw_max2 ?_
  | with_reducible refine cw_min2 ?_
  | with_reducible refine tw_test ?_
  | with_reducible refine tw_B ?_
  | with_reducible refine tw_not ?_
  | with_reducible refine tw_truB ?_
  | with_reducible refine tw_and ?_
  | with_reducible refine tw_or ?_
  | with_reducible refine ew_and ?_
  | (refine' Exists.intro _ (And.intro (show V.bl _ = V.bl _ from rfl) ?_))
  | (refine' Exists.intro _ (And.intro (show V.int _ = V.int _ from rfl) ?_))
  | ((with_reducible refine' rw_ixL (v := ?_) (xs := ?_) (by assumption) ?obl ?oba ?_); (case obl => walk_at "ob_sq"); (case oba => first | exact rfl | exact at_zero))
  | ((with_reducible refine' rw_ixT (v := ?_) (xs := ?_) (by assumption) ?obl ?oba ?_); (case obl => walk_at "ob_sq"); (case oba => first | exact rfl | exact at_zero))
  | ((with_reducible refine' ew_lst (by assumption) ?_))
  | ((with_reducible refine' ew_tup (by assumption) ?_)))
local macro_rules | `(tactic| walk_at "ob_len") => `(tactic| first | exact Nat.le_of_ble_eq_true rfl | (simp; done) | omega)
local macro_rules | `(tactic| walk_at "ob") => `(tactic| repeat walk_at "ob1")

/-! ### the checks -/
section
variable {S : Type} {J : S → Hp → Hp → Prop} {σ : L2.St} {s : S} {F : Hp} {ta tb tc : TE} {R : V → S → Hp → Prop}
theorem ew_between (h : EW J ta σ s F fun x s1 F1 => ∃ i, x = .int i ∧ EW J tb σ s1 F1 fun y s2 F2 => ∃ k, y = .int k ∧ i ≤ k ∧ EW J tc σ s2 F2 fun z s3 F3 => ∃ l, z = .int l ∧ k ≤ l ∧ R (.bl true) s3 F3) :
    EW J (tChain (rI0 fun i j => .bl (decide (i ≤ j))) (rI0 fun i j => .bl (decide (i ≤ j))) ta tb tc) σ s F R :=
  ew_chain (h.imp fun x s1 F1 ⟨i, ex, h1⟩ => by
    subst ex
    exact h1.imp fun y s2 F2 ⟨k, ey, hik, h2⟩ => by
      subst ey
      refine rw_I0 ⟨_, rfl, fun _ => h2.imp fun z s3 F3 ⟨l, ez, hkl, r⟩ => ?_, fun hb => ?_⟩
      · subst ez
        refine rw_I0 ?_
        rw [decide_eq_true hkl]
        exact r
      · rw [decide_eq_true hik] at hb
        cases hb)
end
def aIsStep (K : PySem.W.Frag) : List V → Hp → VK → Prop := fun vs F R => ∃ (v : V) (cap : Int) (st : Stp), vs = [v, .int cap] ∧ Dp K F v (stpD st) ∧ StpOk cap st ∧ R (.bl true) F
def aChkSt (K : PySem.W.Frag) : List V → Hp → VK → Prop := fun vs F R => ∃ (v : V) (w : Wld), vs = [v] ∧ Dp K F v (stoD w) ∧ WldOk w ∧ R .non F
def aChkSs (K : PySem.W.Frag) : List V → Hp → VK → Prop := fun vs F R => ∃ (v : V) (n cap : Int) (ss : List Stp), vs = [.int n, v, .int cap] ∧ Dp K F v (macD ss) ∧ ss.length ≤ 6 ∧ (∀ st ∈ ss, StpOk cap st) ∧ ∀ F', Ex F F' → R .non F'
def aChkW (K : PySem.W.Frag) : List V → Hp → VK → Prop := fun vs F R => ∃ (v : V) (w : Wld), vs = [v] ∧ Dp K F v (wldD w) ∧ WldOk w ∧ ∀ F', Ex F F' → R .non F'
def aChkR (K : PySem.W.Frag) : List V → Hp → VK → Prop := fun vs F R => ∃ (v : V) (r : Rgt) (p : Bool), vs = [v] ∧ Dp K F v (rulD r p) ∧ R .non F
def aCount : List V → Hp → VK → Prop := fun vs F R => ∃ a b c : Int, vs = [.int a, .int b, .int c] ∧ b ≤ a ∧ a ≤ c ∧ R .non F
theorem six_all {n k : Nat} (h : n ≤ k) : HT.sIx n 0 none = 0 ∧ HT.sIx n n (some (k : Int)) = n := ⟨HT.sIx_none _ _, by rw [HT.sIx_nat]; exact Nat.min_eq_right h⟩
section
variable {P : Program} {w : World} {K : PySem.W.Frag} {mg : Str → Option Value} {base : Heap} {C M : Addr}

abbrev s_is_step : Stmt := top 14
def N_is_step : List Str := ["step", "cap", "draw", "long", "back"]
theorem sc_is_step : FnScope N_is_step ["step", "cap"] (defScope s_is_step) := ⟨rfl, rfl, rfl, by decide +kernel, rfl, by decide +kernel, by decide +kernel⟩
theorem ok_is_step {f : Addr} {fd : FuncData}  (Fn : Fun K "is_step" "is_step" s_is_step f fd) (B : Blt mg) {tMOST_LONG : Tok} (gMOST_LONG : mg "MOST_LONG" = some (.int 9 tMOST_LONG)) : FnOk P w K mg base CX0 1 f fd ["step", "cap"] (LS (aIsStep K)) := by
  refine Fn.ok sc_is_step (fun vs H Q E h => ?_) (fun cdv A outer s H vs Q E hr h => ?_)
  · obtain ⟨J, F, R, hd, j, h, _⟩ := h
    obtain ⟨v, cap, st, rfl, _⟩ := h
    rfl
  · have nd := sc_is_step.nd
    obtain ⟨J, F, R, hd, j, h, q⟩ := h
    obtain ⟨v, cap, st, rfl, dv, hs, k⟩ := h
    refine ⟨_, (pss_cons (ps_if (pt_cmpR op_ne (pe_callB call_len_seq (by rfl) B.len (by decide +kernel) (pa_cons (pv 0) pa_nil)) pe_int (nomark _)) (pss_one (ps_ret pe_bl)) pss_nil)
      (pss_cons (ps_asg (pv 0) (pg_tup rfl (pgs_cons (pg_name (i := 2) nd rfl (Or.inl rfl)) (pgs_cons (pg_name (i := 3) nd rfl (Or.inl rfl)) (pgs_cons (pg_name (i := 4) nd rfl (Or.inl rfl)) pgs_nil)))))
      (pss_one (ps_ret (pe_and (pe_chain op_le op_le pe_int (pv 2) (pv 1)) (pe_and (pe_chain op_le op_le pe_int (pv 3) (pe_glob (v := .int 9) rfl gMOST_LONG ⟨_, rfl⟩)) (pe_one (pe_chain op_le op_le pe_int (pv 4) (pv 2))))))))), ?_⟩
    refine LS.body j q ?_
    obtain ⟨sa, ys, rfl, ly, dys⟩ := dp_tup dv
    obtain ⟨v1, v2, v3, rfl, d1, d2, d3⟩ := dps3 dys
    cases dp_int d1
    cases dp_int d2
    cases dp_int d3
    refine sw_seq (sw_if (tw_test (ew_op (ew_cb ?_))))
    walk_at "ob"
    refine cw_lenS hd (Or.inr ly) ?_
    walk_at "ob"
    refine ⟨(fun hb => by simp at hb), fun _ => ?_⟩
    walk_at "ob"
    refine gw_tup hd ⟨sa, _, rfl, ly, rfl, gsw_cons (gw_name (gsw_cons (gw_name (gsw_cons (gw_name (gsw_nil ?_))))))⟩
    refine sw_ret (ew_and (ew_between ?_))
    walk_at "ob"
    refine ⟨hs.d0, ?_⟩
    walk_at "ob"
    refine ⟨hs.d1, _, rfl, fun _ => ?_, (fun z => by cases z)⟩
    refine ew_and (ew_between ?_)
    walk_at "ob"
    refine ⟨hs.l0, ?_⟩
    walk_at "ob"
    refine ⟨hs.l1, _, rfl, fun _ => ?_, (fun z => by cases z)⟩
    refine ew_between ?_
    walk_at "ob"
    refine ⟨hs.b0, ?_⟩
    walk_at "ob"
    exact ⟨hs.b1, k⟩

abbrev s_check_store : Stmt := top 12
def N_check_store : List Str := ["store", "cap", "start", "refill"]
theorem sc_check_store : FnScope N_check_store ["store"] (defScope s_check_store) := ⟨rfl, rfl, rfl, by decide +kernel, rfl, by decide +kernel, by decide +kernel⟩
theorem ok_check_store {f : Addr} {fd : FuncData}  (Fn : Fun K "check_store" "check_store" s_check_store f fd) (B : Blt mg) {tMOST_CAP : Tok} (gMOST_CAP : mg "MOST_CAP" = some (.int 99 tMOST_CAP)) {tMOST_REFILL : Tok} (gMOST_REFILL : mg "MOST_REFILL" = some (.int 9 tMOST_REFILL)) : FnOk P w K mg base CX0 1 f fd ["store"] (LS (aChkSt K)) := by
  refine Fn.ok sc_check_store (fun vs H Q E h => ?_) (fun cdv A outer s H vs Q E hr h => ?_)
  · obtain ⟨J, F, R, hd, j, h, _⟩ := h
    obtain ⟨v, w, rfl, _⟩ := h
    rfl
  · have nd := sc_check_store.nd
    obtain ⟨J, F, R, hd, j, h, q⟩ := h
    obtain ⟨v, w, rfl, dv, hw, k⟩ := h
    refine ⟨_, (pss_cons (ps_if (pt_cmpR op_ne (pe_callB call_len_seq (by rfl) B.len (by decide +kernel) (pa_cons (pv 0) pa_nil)) pe_int (nomark _)) (pss_one ps_never) pss_nil)
      (pss_cons (ps_asg (pv 0) (pg_tup rfl (pgs_cons (pg_name (i := 1) nd rfl (Or.inl rfl)) (pgs_cons (pg_name (i := 2) nd rfl (Or.inl rfl)) (pgs_cons (pg_name (i := 3) nd rfl (Or.inl rfl)) pgs_nil)))))
      (pss_cons (ps_if (pt_not (pt_chain op_le op_le pe_int (pv 1) (pe_glob (v := .int 99) rfl gMOST_CAP ⟨_, rfl⟩))) (pss_one ps_never) pss_nil)
      (pss_cons (ps_if (pt_not (pt_chain op_le op_le pe_int (pv 2) (pv 1))) (pss_one ps_never) pss_nil)
      (pss_one (ps_if (pt_not (pt_chain op_le op_le pe_int (pv 3) (pe_glob (v := .int 9) rfl gMOST_REFILL ⟨_, rfl⟩))) (pss_one ps_never) pss_nil)))))), ?_⟩
    refine LS.body j q ?_
    obtain ⟨sa, ys, rfl, ly, dys⟩ := dp_tup dv
    obtain ⟨v1, v2, v3, rfl, d1, d2, d3⟩ := dps3 dys
    cases dp_int d1
    cases dp_int d2
    cases dp_int d3
    refine sw_seq (sw_if (tw_test (ew_op (ew_cb ?_))))
    walk_at "ob"
    refine cw_lenS hd (Or.inr ly) ?_
    walk_at "ob"
    refine ⟨(fun hb => by simp at hb), fun _ => ?_⟩
    walk_at "ob"
    refine gw_tup hd ⟨sa, _, rfl, ly, rfl, gsw_cons (gw_name (gsw_cons (gw_name (gsw_cons (gw_name (gsw_nil ?_))))))⟩
    refine sw_seq (sw_if (tw_not (tw_test (ew_between ?_))))
    walk_at "ob"
    refine ⟨hw.c0, ?_⟩
    walk_at "ob"
    refine ⟨hw.c1, _, rfl, (fun z => by cases z), fun _ => ?_⟩
    walk_at "ob"
    refine ew_between ?_
    walk_at "ob"
    refine ⟨hw.s0, ?_⟩
    walk_at "ob"
    refine ⟨hw.s1, _, rfl, (fun z => by cases z), fun _ => ?_⟩
    walk_at "ob"
    refine ew_between ?_
    walk_at "ob"
    refine ⟨hw.r0, ?_⟩
    walk_at "ob"
    refine ⟨hw.r1, _, rfl, (fun z => by cases z), fun _ => ?_⟩
    walk_at "ob"
    exact k

abbrev s_check_steps : Stmt := top 13
def N_check_steps : List Str := ["number", "steps", "cap", "at", "step"]
theorem sc_check_steps : FnScope N_check_steps ["number", "steps", "cap"] (defScope s_check_steps) := ⟨rfl, rfl, rfl, by decide +kernel, rfl, by decide +kernel, by decide +kernel⟩
theorem ok_check_steps {f : Addr} {fd : FuncData} {f1 : Addr} {fd1 : FuncData} (Fn : Fun K "check_steps" "check_steps" s_check_steps f fd) (B : Blt mg) {tMOST_STEPS : Tok} (gMOST_STEPS : mg "MOST_STEPS" = some (.int 6 tMOST_STEPS)) (Cis_step : Cal K mg "is_step" f1 fd1 ["step", "cap"]) (Gis_step : FnOk P w K mg base CX0 1 f1 fd1 ["step", "cap"] (LS (aIsStep K))) : FnOk P w K mg base CX0 2 f fd ["number", "steps", "cap"] (LS (aChkSs K)) := by
  refine Fn.ok sc_check_steps (fun vs H Q E h => ?_) (fun cdv A outer s H vs Q E hr h => ?_)
  · obtain ⟨J, F, R, hd, j, h, _⟩ := h
    obtain ⟨v, n, cap, ss, rfl, _⟩ := h
    rfl
  · have nd := sc_check_steps.nd
    obtain ⟨J, F, R, hd, j, h, q⟩ := h
    obtain ⟨v, n, cap, ss, rfl, dv, hl6, hs, k⟩ := h
    refine ⟨_, (pss_cons (ps_for PassesOwn.never rfl (pi_enumT (by rfl) B.enumerate (pa_cons (pe_slice sl_tupA (pv 1) po_none (po_some (pe_glob (v := .int 6) rfl gMOST_STEPS ⟨_, rfl⟩))) pa_nil)) (pg_tup rfl (pgs_cons (pg_name (i := 3) nd rfl (Or.inl rfl)) (pgs_cons (pg_name (i := 4) nd rfl (Or.inl rfl)) pgs_nil))) (pss_one (ps_if (pt_not (pt_val (pe_call Gis_step (by exact hr.mono (by decide)) (by rfl) Cis_step.g Cis_step.k Cis_step.a .nil pass0 (pa_cons (pv 4) (pa_cons (pv 2) pa_nil))))) (pss_one ps_never) pss_nil)))
      (pss_one (ps_if (pt_cmpR op_gt (pe_callB call_len_seq (by rfl) B.len (by decide +kernel) (pa_cons (pv 1) pa_nil)) (pe_glob (v := .int 6) rfl gMOST_STEPS ⟨_, rfl⟩) (nomark _)) (pss_one ps_never) pss_nil))), ?_⟩
    refine LS.body j q ?_
    obtain ⟨sa, ys, rfl, ly, dys⟩ := dp_tup dv
    have hyl : ys.length = ss.length := by have := dps_len dys; simpa using this
    refine sw_seq ?_
    refine sw_mid (fun σ _ G => ∃ (x3 x4 : Option V), σ = [some (.int n), some (.ref sa), some (.int cap), x3, x4] ∧ Ex F G) ?_ ?_
    · refine sw_forET hd ?_
      refine aw_cons (ew_slT hd ?_)
      walk_at "ob"
      refine ⟨sa, ys, rfl, ly, fun _ => ?_, fun hn => absurd (six_all (k := 6) (by omega)) hn⟩

      refine aw_nil ⟨sa, ys, fun i σ _ G => ∃ (x3 x4 : Option V), σ = [some (.int n), some (.ref sa), some (.int cap), x3, x4] ∧ Ex F G, rfl, ly, ⟨none, none, rfl, .refl _⟩, ?_, ?_, ?_⟩
      · rintro i σ _ G hi ⟨x3, x4, rfl, g⟩
        exact g.sqT ly
      · rintro i x σ _ G T hi ⟨x3, x4, rfl, g⟩ hT
        refine gw_tup hd ⟨T, _, rfl, SqT.of upd_same, rfl, gsw_cons (gw_name (gsw_cons (gw_name (gsw_nil ?_))))⟩
        obtain ⟨d, hd1, hd2⟩ := dps_get' dys hi
        rw [List.getElem?_map] at hd1
        obtain ⟨st, hst, rfl⟩ := Option.map_eq_some_iff.mp hd1
        refine sw_if (tw_not (tw_B (ew_call hd ?_)))
        walk_at "ob"
        refine ⟨x, cap, st, rfl, dp_ex (Ex.new g hT) hd2, hs st (List.mem_of_getElem? hst), _, rfl, (fun z => by cases z), fun _ => ?_⟩
        exact sw_next ⟨_, _, rfl, Ex.new g hT⟩
      · rintro σ _ G ⟨x3, x4, rfl, g⟩
        exact ⟨_, _, rfl, g⟩
    · rintro σ _ G ⟨x3, x4, rfl, g⟩
      refine sw_if (tw_test (ew_op (ew_cb ?_)))
      walk_at "ob"
      refine cw_lenS hd (Or.inr (g.sqT ly)) ?_
      walk_at "ob"
      refine ⟨(fun hb => absurd (of_decide_eq_true hb) (by omega)), fun _ => ?_⟩
      walk_at "ob"
      exact k _ g

abbrev s_check_world : Stmt := top 11
def N_check_world : List Str := ["world", "store", "machines", "cap", "number", "steps"]
theorem sc_check_world : FnScope N_check_world ["world"] (defScope s_check_world) := ⟨rfl, rfl, rfl, by decide +kernel, rfl, by decide +kernel, by decide +kernel⟩
theorem ok_check_world {f : Addr} {fd : FuncData} {f1 f2 : Addr} {fd1 fd2 : FuncData} (Fn : Fun K "check_world" "check_world" s_check_world f fd) (B : Blt mg) {tMOST_MACHINES : Tok} (gMOST_MACHINES : mg "MOST_MACHINES" = some (.int 5 tMOST_MACHINES)) (Ccheck_store : Cal K mg "check_store" f1 fd1 ["store"]) (Gcheck_store : FnOk P w K mg base CX0 1 f1 fd1 ["store"] (LS (aChkSt K))) (Ccheck_steps : Cal K mg "check_steps" f2 fd2 ["number", "steps", "cap"]) (Gcheck_steps : FnOk P w K mg base CX0 2 f2 fd2 ["number", "steps", "cap"] (LS (aChkSs K))) : FnOk P w K mg base CX0 3 f fd ["world"] (LS (aChkW K)) := by
  refine Fn.ok sc_check_world (fun vs H Q E h => ?_) (fun cdv A outer s H vs Q E hr h => ?_)
  · obtain ⟨J, F, R, hd, j, h, _⟩ := h
    obtain ⟨v, w, rfl, _⟩ := h
    rfl
  · have nd := sc_check_world.nd
    obtain ⟨J, F, R, hd, j, h, q⟩ := h
    obtain ⟨v, w, rfl, dv, hw, k⟩ := h
    refine ⟨_, (pss_cons (ps_asg (pv 0) (pg_tup rfl (pgs_cons (pg_name (i := 1) nd rfl (Or.inl rfl)) (pgs_cons (pg_name (i := 2) nd rfl (Or.inl rfl)) pgs_nil))))
      (pss_cons (ps_expr (pe_call Gcheck_store (by exact hr.mono (by decide)) (by rfl) Ccheck_store.g Ccheck_store.k Ccheck_store.a .nil pass0 (pa_cons (pv 1) pa_nil)))
      (pss_cons (ps_set (i := 3) nd rfl (Or.inl rfl) (pe_ix ix_tup (pv 1) pe_int (fun _ _ => rfl)))
      (pss_cons (ps_for PassesOwn.never rfl (pi_enumT (by rfl) B.enumerate (pa_cons (pe_slice sl_tupA (pv 2) po_none (po_some (pe_glob (v := .int 5) rfl gMOST_MACHINES ⟨_, rfl⟩))) pa_nil)) (pg_tup rfl (pgs_cons (pg_name (i := 4) nd rfl (Or.inl rfl)) (pgs_cons (pg_name (i := 5) nd rfl (Or.inl rfl)) pgs_nil))) (pss_one (ps_expr (pe_call Gcheck_steps (by exact hr.mono (by decide)) (by rfl) Ccheck_steps.g Ccheck_steps.k Ccheck_steps.a .nil pass0 (pa_cons (pv 4) (pa_cons (pv 5) (pa_cons (pv 3) pa_nil)))))))
      (pss_one (ps_if (pt_cmpR op_gt (pe_callB call_len_seq (by rfl) B.len (by decide +kernel) (pa_cons (pv 2) pa_nil)) (pe_glob (v := .int 5) rfl gMOST_MACHINES ⟨_, rfl⟩) (nomark _)) (pss_one ps_never) pss_nil)))))), ?_⟩
    refine LS.body j q ?_
    obtain ⟨wa, xs, rfl, lx, dxs⟩ := dp_tup dv
    obtain ⟨sv, mv, rfl, ds, dm⟩ := dps2 dxs
    obtain ⟨ma, zs, rfl, lz, dzs⟩ := dp_tup dm
    have hzl : zs.length = w.ms.length := by have := dps_len dzs; simpa using this
    have hm5 := hw.m
    obtain ⟨sa, ys, rfl, ly, dys⟩ := dp_tup (show Dp K F sv (.tuple [.int w.cap, .int w.start, .int w.refill]) from ds)
    obtain ⟨v1, v2, v3, rfl, d1, d2, d3⟩ := dps3 dys
    cases dp_int d1
    refine sw_seq (sw_asg ?_)
    walk_at "ob"
    refine gw_tup hd ⟨wa, _, rfl, lx, rfl, gsw_cons (gw_name (gsw_cons (gw_name (gsw_nil ?_))))⟩
    refine sw_seq (sw_drop (ew_call hd ?_))
    walk_at "ob"
    refine ⟨.ref sa, w, rfl, ds, hw, ?_⟩
    refine sw_seq (sw_asg (ew_op ?_))
    walk_at "ob"
    refine sw_mid (fun σ _ G => ∃ (x4 x5 : Option V), σ = [some (.ref wa), some (.ref sa), some (.ref ma), some (.int w.cap), x4, x5] ∧ Ex F G) ?_ ?_
    · refine sw_forET hd ?_
      refine aw_cons (ew_slT hd ?_)
      walk_at "ob"
      refine ⟨ma, zs, rfl, lz, fun _ => ?_, fun hn => absurd (six_all (k := 5) (by omega)) hn⟩

      refine aw_nil ⟨ma, zs, fun i σ _ G => ∃ (x4 x5 : Option V), σ = [some (.ref wa), some (.ref sa), some (.ref ma), some (.int w.cap), x4, x5] ∧ Ex F G, rfl, lz, ⟨none, none, rfl, .refl _⟩, ?_, ?_, ?_⟩
      · rintro i σ _ G hi ⟨x4, x5, rfl, g⟩
        exact g.sqT lz
      · rintro i x σ _ G T hi ⟨x4, x5, rfl, g⟩ hT
        refine gw_tup hd ⟨T, _, rfl, SqT.of upd_same, rfl, gsw_cons (gw_name (gsw_cons (gw_name (gsw_nil ?_))))⟩
        obtain ⟨d, hd1, hd2⟩ := dps_get' dzs hi
        rw [List.getElem?_map] at hd1
        obtain ⟨ss, hss, rfl⟩ := Option.map_eq_some_iff.mp hd1
        refine sw_drop (ew_call hd ?_)
        walk_at "ob"
        refine ⟨x, i, w.cap, ss, rfl, dp_ex (Ex.new g hT) hd2, hw.n ss (List.mem_of_getElem? hss), hw.st ss (List.mem_of_getElem? hss), fun F' g2 => ?_⟩
        exact ⟨_, _, rfl, (Ex.new g hT).trans g2⟩
      · rintro σ _ G ⟨x4, x5, rfl, g⟩
        exact ⟨_, _, rfl, g⟩
    · rintro σ _ G ⟨x4, x5, rfl, g⟩
      refine sw_if (tw_test (ew_op (ew_cb ?_)))
      walk_at "ob"
      refine cw_lenS hd (Or.inr (g.sqT lz)) ?_
      walk_at "ob"
      refine ⟨(fun hb => absurd (of_decide_eq_true hb) (by omega)), fun _ => ?_⟩
      walk_at "ob"
      exact k _ g
end
end Obr
namespace Obr
open PySem L2 PyProof.Rows Obp
local macro_rules | `(tactic| walk_at "ob_at") => `(tactic| first
  | assumption
  | exact upd_same
  | (refine Eq.trans (upd_ne ?obn) ?obr; (case obn => walk_at "ob_ne"); (case obr => walk_at "ob_at")))
local macro_rules | `(tactic| walk_at "ob_ne") => `(tactic| first
  | assumption
  | (refine Ne.symm ?obs; (case obs => assumption))
  | (refine' ne_of_none (H := ?_) ?obe ?obh; (case obh => assumption); (case obe => walk_at "ob_at"))
  | (refine Ne.symm ?obs; (case obs => (refine' ne_of_none (H := ?_) ?obe ?obh; (case obh => assumption); (case obe => walk_at "ob_at")))))
local macro_rules | `(tactic| walk_at "ob_fr") => `(tactic| first
  | assumption
  | (refine Eq.trans (upd_ne ?obn) ?obr; (case obn => walk_at "ob_ne"); (case obr => walk_at "ob_fr"))
  | (refine Ex.free (G := ?_) (by assumption) ?obh; (case obh => walk_at "ob_fr")))
local macro_rules | `(tactic| walk_at "ob_ex") => `(tactic| first
  | assumption
  | exact Ex.refl _
  | (refine Ex.out ?obg ?obh; (case obh => assumption); (case obg => walk_at "ob_ex"))
  | (refine Ex.new ?obg ?obh; (case obh => assumption); (case obg => walk_at "ob_ex"))
  | (refine Ex.new ?obg ?obh; (case obh => walk_at "ob_fr"); (case obg => walk_at "ob_ex")))
local macro_rules | `(tactic| walk_at "ob_sq") => `(tactic| first
  | assumption
  | (refine SqL.of ?oba; (case oba => walk_at "ob_at"))
  | (refine Ex.sqT (F := ?_) ?obg ?obh; (case obh => assumption); (case obg => walk_at "ob_ex"))
  | (refine Ex.sqL (F := ?_) ?obg ?obh; (case obh => assumption); (case obg => walk_at "ob_ex"))
  | (refine SqT.of ?oba; (case oba => walk_at "ob_at")))
local macro_rules | `(tactic| walk_at "ob_side") => `(tactic| first | exact rfl | assumption | decide | omega | exact ⟨by decide, by decide, by decide⟩ | exact Or.inr ⟨by decide, by decide⟩ | exact Or.inl ⟨by decide, by decide⟩ | exact wide_div (b := 60) (by first | decide | omega) (by first | decide | omega) (by decide) (by decide))
local macro_rules | `(tactic| walk_at "ob1") => `(tactic| first
  | with_reducible refine sw_seq ?_
  | with_reducible refine sw_asg ?_
  | with_reducible refine sw_ret ?_
  | with_reducible refine sw_par ?_
  | with_reducible refine ⟨_, _, rfl, ?_⟩
  | with_reducible refine sw_drop ?_
  | with_reducible refine sw_if ?_
  | with_reducible refine sw_next ?_
  | with_reducible refine gw_name ?_
  | with_reducible refine gw_subL (by assumption) ?_
  | with_reducible refine gsw_cons ?_
  | with_reducible refine gsw_nil ?_
  | with_reducible refine ew_c ?_
  | ((with_reducible refine' ew_var (v := ?_) ?obv ?_); (case obv => exact rfl))
  | ((with_reducible refine ew_next (by assumption) ?obv ?_); (case obv => exact rfl))
  | ((with_reducible refine ew_world (by assumption) ?obv ?_); (case obv => exact rfl))
  | ((with_reducible refine ew_rule (by assumption) ?obv ?_); (case obv => exact rfl))
  | with_reducible refine ew_op ?_
  | with_reducible refine ew_un ?_
  | with_reducible refine ew_dget (by assumption) ?_
  | with_reducible refine uw_I ?_
  | with_reducible refine ppw_nil ?_
  | with_reducible refine ppw_cons ?_
  | with_reducible refine sw_dput (by assumption) ?_
  | with_reducible refine ew_cb ?_
  | with_reducible refine ew_if ?_
  | with_reducible refine ew_slL (by assumption) ?_
  | with_reducible refine ow_some ?_
  | with_reducible refine ow_none ?_
  | with_reducible refine aw_nil ?_
  | with_reducible refine aw_cons ?_
  | with_reducible refine rw_I0 ?_
  | ((with_reducible refine rw_I ?obc ?_); (case obc => walk_at "ob_side"))
  | with_reducible refine rw_isN ?_
  | with_reducible refine rw_notN ?_
  | ((with_reducible refine rw_eq ?obc ?_); (case obc => exact rfl))
  | ((with_reducible refine rw_ne ?obc ?_); (case obc => exact rfl))
  | with_reducible refine cw_max2 ?_
  | with_reducible refine cw_min2 ?_
  | with_reducible refine tw_test ?_
  | with_reducible refine tw_B ?_
  | with_reducible refine tw_not ?_
  | with_reducible refine tw_truB ?_
  | with_reducible refine tw_and ?_
  | with_reducible refine tw_or ?_
  | with_reducible refine ew_and ?_
  | (refine' Exists.intro _ (And.intro (show V.bl _ = V.bl _ from rfl) ?_))
  | (refine' Exists.intro _ (And.intro (show V.int _ = V.int _ from rfl) ?_))
  | ((with_reducible refine' rw_ixL (v := ?_) (xs := ?_) (by assumption) ?obl ?oba ?_); (case obl => walk_at "ob_sq"); (case oba => first | exact rfl | exact at_zero))
  | ((with_reducible refine' rw_ixT (v := ?_) (xs := ?_) (by assumption) ?obl ?oba ?_); (case obl => walk_at "ob_sq"); (case oba => first | exact rfl | exact at_zero))
  | ((with_reducible refine' ew_lst (by assumption) ?_))
  | ((with_reducible refine' ew_tup (by assumption) ?_)))
local macro_rules | `(tactic| walk_at "ob_len") => `(tactic| first | exact Nat.le_of_ble_eq_true rfl | (simp; done) | omega)
local macro_rules | `(tactic| walk_at "ob") => `(tactic| repeat walk_at "ob1")

/-! ### orders -/
def mx (i k : Int) : Int := if k > i then k else i
def needF (x p : Int × Int) : Int × Int := (mx x.1 (x.2 + p.1), x.2 + p.2)
def needL (ps : List (Int × Int)) : Int × Int := ps.foldl needF (0, 0)
def stepsN (ss : List Stp) : List (Int × Int) := ss.map fun st => (st.draw, st.draw - st.back)
def needS (ss : List Stp) : Int × Int := needL (stepsN ss)
def leastT (ns : List (Int × Int)) (turn : List Nat) : Int := (needL (turn.map fun k => ns.getD k (0, 0))).1
def needsW (w : Wld) : List (Int × Int) := w.ms.map needS
def aNeedLine (K : PySem.W.Frag) : List V → Hp → VK → Prop := fun vs F R => ∃ (a : Addr) (xs : List V) (ps : List (Int × Int)), vs = [.ref a] ∧ SqL K F a xs ∧ Prs F xs ps ∧ ps.length ≤ 100 ∧ ∀ (q : Addr) (F' : Hp), Ex F F' → F q = none → F' q = some (.tup [.int (needL ps).1, .int (needL ps).2]) → R (.ref q) F'
def aNeedSteps (K : PySem.W.Frag) : List V → Hp → VK → Prop := fun vs F R => ∃ (v : V) (ss : List Stp), vs = [v] ∧ Dp K F v (macD ss) ∧ ss.length ≤ 6 ∧ ∀ (q : Addr) (F' : Hp), Ex F F' → F q = none → F' q = some (.tup [.int (needS ss).1, .int (needS ss).2]) → R (.ref q) F'
def aLeastTurn (K : PySem.W.Frag) : List V → Hp → VK → Prop := fun vs F R => ∃ (a b : Addr) (xs : List V) (ps : List (Int × Int)) (tn : List Nat), vs = [.ref a, .ref b] ∧ SqL K F a xs ∧ Prs F xs ps ∧ SqT K F b (tn.map fun k => V.int (k : Nat)) ∧ (∀ k ∈ tn, k < ps.length) ∧ tn.length ≤ 100 ∧ ∀ F', Ex F F' → R (.int (leastT ps tn)) F'
def aOrder (K : PySem.W.Frag) : List V → Hp → VK → Prop := fun vs F R => ∃ (v : V) (w : Wld), vs = [v] ∧ Dp K F v (wldD w) ∧ WldOk w ∧
  (∀ (i : Nat) (q : Addr) (F' : Hp), i < facN w.ms.length → leastT (needsW w) (idxP w.ms.length i) ≤ w.start → (∀ j, j < i → w.start < leastT (needsW w) (idxP w.ms.length j)) → Ex F F' → F q = none → F' q = some (.lst ((idxP w.ms.length i).map fun k => V.int (k : Nat))) → R (.ref q) F') ∧
  ((∀ j, j < facN w.ms.length → w.start < leastT (needsW w) (idxP w.ms.length j)) → ∀ F', Ex F F' → R .non F')
def aLeastStart (K : PySem.W.Frag) : List V → Hp → VK → Prop := fun vs F R => ∃ (v : V) (w : Wld), vs = [v] ∧ Dp K F v (wldD w) ∧ WldOk w ∧
  (∀ (m : Int) (F' : Hp), (∃ i, i < facN w.ms.length ∧ m = leastT (needsW w) (idxP w.ms.length i)) → (∀ j, j < facN w.ms.length → m ≤ leastT (needsW w) (idxP w.ms.length j)) → Ex F F' → (m ≤ w.cap → R (.int m) F') ∧ (w.cap < m → R .non F'))
def aNeedOf (K : PySem.W.Frag) : List V → Hp → VK → Prop := fun vs F R => ∃ (v : V) (w : Wld) (k : Nat) (ss : List Stp), vs = [v, .int (k : Nat)] ∧ Dp K F v (wldD w) ∧ WldOk w ∧ w.ms[k]? = some ss ∧ ∀ (q : Addr) (F' : Hp), Ex F F' → F q = none → F' q = some (.tup [.int (needS ss).1, .int (needS ss).2]) → R (.ref q) F'
theorem facN_pos {n : Nat} (h5 : n ≤ 5) : 0 < facN n := by
  match n, h5 with
  | 0, _ => decide
  | 1, _ => decide
  | 2, _ => decide
  | 3, _ => decide
  | 4, _ => decide
  | 5, _ => decide
  | k + 6, h => omega
theorem cw_min1 {S : Type} {J : S → Hp → Hp → Prop} {K : PySem.W.Frag} {s : S} {F : Hp} {R : V → S → Hp → Prop} (hd : Hid J) {a : Addr} {ns : List Int} (l : SqL K F a (ns.map V.int)) (h0 : 0 < ns.length) (h : ∀ m, m ∈ ns → (∀ y, y ∈ ns → m ≤ y) → R (.int m) s F) : CW J (rMin K) [.ref a] s F R := fun H j Q q => ⟨a, ns, rfl, hd.sqL j l, h0, fun m hm hle => q _ _ _ _ j (h m hm hle)⟩
theorem cw_listT {S : Type} {J : S → Hp → Hp → Prop} {K : PySem.W.Frag} {s : S} {F : Hp} {R : V → S → Hp → Prop} (hd : Hid J) {p : Addr} {ys : List V} (l : SqT K F p ys) (h : ∀ a, F a = none → R (.ref a) s (upd F a (.lst ys))) : CW J (fun xs H Q => ∃ p ys, xs = [.ref p] ∧ (SqL K H p ys ∨ SqT K H p ys) ∧ ∀ l, H l = none → Q (.ref l) (upd H l (.lst ys))) [.ref p] s F R := cw_list hd (Or.inr l) h
section
variable {P : Program} {w : World} {K : PySem.W.Frag} {mg : Str → Option Value} {base : Heap}

abbrev s_need_in_line : Stmt := top 20
def N_need_in_line : List Str := ["needs", "all_least", "all_less", "least", "less"]
theorem sc_need_in_line : FnScope N_need_in_line ["needs"] (defScope s_need_in_line) := ⟨rfl, rfl, rfl, by decide +kernel, rfl, by decide +kernel, by decide +kernel⟩
theorem ok_need_in_line {f : Addr} {fd : FuncData}  (Fn : Fun K "need_in_line" "need_in_line" s_need_in_line f fd) (B : Blt mg)  : FnOk P w K mg base CX0 1 f fd ["needs"] (LS (aNeedLine K)) := by
  refine Fn.ok sc_need_in_line (fun vs H Q E h => ?_) (fun cdv A outer s H vs Q E hr h => ?_)
  · obtain ⟨J, F, R, hd, j, h, _⟩ := h
    obtain ⟨a, xs, ps, rfl, _⟩ := h
    rfl
  · have nd := sc_need_in_line.nd
    obtain ⟨J, F, R, hd, j, h, q⟩ := h
    obtain ⟨a, xs, ps, rfl, hl, hx, hn, k⟩ := h
    refine ⟨_, (pss_cons (ps_set (i := 1) nd rfl (Or.inl rfl) pe_int)
      (pss_cons (ps_set (i := 2) nd rfl (Or.inl rfl) pe_int)
      (pss_cons (ps_for PassesOwn.never rfl (pi_list (pv 0)) (pg_tup rfl (pgs_cons (pg_name (i := 3) nd rfl (Or.inl rfl)) (pgs_cons (pg_name (i := 4) nd rfl (Or.inl rfl)) pgs_nil))) (pss_cons (ps_set (i := 1) nd rfl (Or.inl rfl) (pe_callB (call_max2 rfl) (by rfl) B.max (by decide +kernel) (pa_cons (pv 1) (pa_cons (pe_op op_add (pv 2) (pv 3)) pa_nil))))
      (pss_one (ps_aug (i := 2) nd rfl (.inl rfl) (pv 4) ip_add))))
      (pss_one (ps_ret (pe_tup (pa_cons (pv 1) (pa_cons (pv 2) pa_nil)))))))), ?_⟩
    refine LS.body j q ?_
    walk_at "ob"
    refine sw_mid (fun σ _ G => ∃ (x3 x4 : Option V), σ = [some (.ref a), some (.int (needL ps).1), some (.int (needL ps).2), x3, x4] ∧ F = G) ?_ ?_
    · refine sw_forL hd (ew_var rfl ?_)
      refine ⟨a, xs, fun i σ _ G => ∃ (x3 x4 : Option V) (y : Int × Int), σ = [some (.ref a), some (.int y.1), some (.int y.2), x3, x4] ∧ F = G ∧ y = (ps.take i).foldl needF (0, 0), rfl, hl, ⟨none, none, (0, 0), rfl, rfl, rfl⟩, ?_, ?_, ?_⟩
      · rintro i σ _ G hi ⟨x3, x4, y, rfl, rfl, _⟩
        exact hl
      · rintro i x σ _ G hi ⟨x3, x4, y, rfl, rfl, ey⟩
        obtain ⟨t, p, ex, ht, hp⟩ := hx.get hi
        subst ex
        refine gw_tup hd ⟨t, _, rfl, SqT.of ht, rfl, ?_⟩
        walk_at "ob"
        refine sw_aug (a := y.2) rfl (ew_var rfl ⟨p.2, rfl, ?_⟩)
        refine ⟨_, _, needF y p, rfl, rfl, ?_⟩
        rw [List.take_succ, hp, List.foldl_append, ← ey]
        rfl
      · rintro σ _ G ⟨x3, x4, y, rfl, rfl, ey⟩
        rw [hx.len, List.take_length] at ey
        refine ⟨x3, x4, ?_, rfl⟩
        rw [ey]
        rfl
    · rintro σ _ G ⟨x3, x4, rfl, rfl⟩
      walk_at "ob"
      exact ⟨by walk_at "ob_len", fun q hq => k q _ (Ex.new (.refl _) hq) hq upd_same⟩

abbrev s_need_of_steps : Stmt := top 18
def N_need_of_steps : List Str := ["steps", "draw", "_", "back"]
theorem sc_need_of_steps : FnScope N_need_of_steps ["steps"] (defScope s_need_of_steps) := ⟨rfl, rfl, rfl, by decide +kernel, rfl, by decide +kernel, by decide +kernel⟩
theorem ok_need_of_steps {f : Addr} {fd : FuncData} {f1 : Addr} {fd1 : FuncData} (Fn : Fun K "need_of_steps" "need_of_steps" s_need_of_steps f fd) (B : Blt mg) (Cneed_in_line : Cal K mg "need_in_line" f1 fd1 ["needs"]) (Gneed_in_line : FnOk P w K mg base CX0 1 f1 fd1 ["needs"] (LS (aNeedLine K))) : FnOk P w K mg base CX0 2 f fd ["steps"] (LS (aNeedSteps K)) := by
  refine Fn.ok sc_need_of_steps (fun vs H Q E h => ?_) (fun cdv A outer s H vs Q E hr h => ?_)
  · obtain ⟨J, F, R, hd, j, h, _⟩ := h
    obtain ⟨v, ss, rfl, _⟩ := h
    rfl
  · have nd := sc_need_of_steps.nd
    obtain ⟨J, F, R, hd, j, h, q⟩ := h
    obtain ⟨v, ss, rfl, dv, hs6, k⟩ := h
    refine ⟨_, (pss_one (ps_ret (pe_call Gneed_in_line (by exact hr.mono (by decide)) (by rfl) Cneed_in_line.g Cneed_in_line.k Cneed_in_line.a .nil pass0 (pa_cons (pe_lc (own := [("draw", 1), ("_", 2), ("back", 3)]) (g := (gTup K 3 (gCons (gName 1) (gCons (gName 2) (gCons (gName 3) gNil))))) (te := (tTup (tCons (tVar 1) (tCons (tOp (rI0 fun i j => .int (i - j)) (tVar 1) (tVar 3)) tNil)))) (tt := tYes) (by rfl) nd (pi_tup (pv 0)) (blkOk_by (own := [("draw", 1), ("_", 2), ("back", 3)]) (N := N_need_of_steps) (sc := defScope s_need_of_steps) (by decide +kernel)) (fun _ _ _ _ _ => (pg_tup rfl (pgs_cons (pg_name (i := 1) nd rfl (Or.inl rfl)) (pgs_cons (pg_name (i := 2) nd rfl (Or.inl rfl)) (pgs_cons (pg_name (i := 3) nd rfl (Or.inl rfl)) pgs_nil))))) (fun _ _ _ _ _ => pts_nil) (fun _ _ _ _ _ => (pe_tup (pa_cons (pv 1) (pa_cons (pe_op op_sub (pv 1) (pv 3)) pa_nil))))) pa_nil)))), ?_⟩
    refine LS.body j q ?_
    obtain ⟨sa, ys, rfl, ly, dys⟩ := dp_tup dv
    have hyl : ys.length = ss.length := by have := dps_len dys; simpa using this
    refine sw_ret (ew_call hd (aw_cons (ew_lcT hd (ew_var rfl ?_))))
    refine ⟨sa, ys, rfl, ly, by omega, fun Dl hDl => ?_⟩
    refine ⟨fun i acc _ G => Ex F G ∧ Prs G acc (stepsN (ss.take i)), ⟨.refl _, .nil⟩, ?_, ?_, ?_⟩
    · rintro i acc _ G hi hg ⟨g, hp⟩
      refine ⟨g.sqT ly, ?_⟩
      rw [hp.len, stepsN, List.length_map]
      exact List.length_take_le _ _
    · rintro i acc x _ G hi hg ⟨g, hp⟩
      have hd' := hd.jd (D := Dl) (acc := acc)
      obtain ⟨d, hd1, hd2⟩ := dps_get' dys hi
      rw [List.getElem?_map] at hd1
      obtain ⟨st, hst, rfl⟩ := Option.map_eq_some_iff.mp hd1
      obtain ⟨ta, zs, rfl, lz, dzs⟩ := dp_tup (dp_ex g hd2)
      obtain ⟨v1, v2, v3, rfl, e1, e2, e3⟩ := dps3 dzs
      cases dp_int e1
      cases dp_int e2
      cases dp_int e3
      refine gw_tup hd' ⟨ta, _, rfl, lz, rfl, gsw_cons (gw_name (gsw_cons (gw_name (gsw_cons (gw_name (gsw_nil ⟨rfl, tw_yes ⟨fun _ => ?_, (fun z => by cases z)⟩⟩))))))⟩
      refine ew_tup hd' (aw_cons (ew_var rfl (aw_cons (ew_op (ew_var rfl (ew_var rfl (rw_I0 (aw_nil ⟨by walk_at "ob_len", fun tp htp => ?_⟩))))))))
      refine ⟨Ex.new g htp, ?_⟩
      rw [List.take_succ, hst, stepsN, List.map_append]
      exact Prs.snoc (p := (st.draw, st.draw - st.back)) upd_same (hp.ex (Ex.new (.refl _) htp))
    · rintro acc _ G hg ⟨g, hp⟩
      rw [hyl, List.take_length] at hp
      have g2 : Ex G (upd G Dl (.lst acc)) := Ex.new (.refl _) hg
      refine aw_nil ⟨Dl, acc, stepsN ss, rfl, SqL.of upd_same, hp.ex g2, by rw [stepsN, List.length_map]; omega, fun q F' g3 hq e => ?_⟩
      exact k q F' (g.trans (g2.trans g3)) ((g.trans g2).free hq) e

abbrev s_least_of_turn : Stmt := top 19
def N_least_of_turn : List Str := ["needs", "turn", "least", "_", "number"]
theorem sc_least_of_turn : FnScope N_least_of_turn ["needs", "turn"] (defScope s_least_of_turn) := ⟨rfl, rfl, rfl, by decide +kernel, rfl, by decide +kernel, by decide +kernel⟩
theorem ok_least_of_turn {f : Addr} {fd : FuncData} {f1 : Addr} {fd1 : FuncData} (Fn : Fun K "least_of_turn" "least_of_turn" s_least_of_turn f fd) (B : Blt mg) (Cneed_in_line : Cal K mg "need_in_line" f1 fd1 ["needs"]) (Gneed_in_line : FnOk P w K mg base CX0 1 f1 fd1 ["needs"] (LS (aNeedLine K))) : FnOk P w K mg base CX0 2 f fd ["needs", "turn"] (LS (aLeastTurn K)) := by
  refine Fn.ok sc_least_of_turn (fun vs H Q E h => ?_) (fun cdv A outer s H vs Q E hr h => ?_)
  · obtain ⟨J, F, R, hd, j, h, _⟩ := h
    obtain ⟨a, b, xs, ps, tn, rfl, _⟩ := h
    rfl
  · have nd := sc_least_of_turn.nd
    obtain ⟨J, F, R, hd, j, h, q⟩ := h
    obtain ⟨a, b, xs, ps, tn, rfl, hl, hx, ht, hb, h100, k⟩ := h
    refine ⟨_, (pss_cons (ps_asg (pe_call Gneed_in_line (by exact hr.mono (by decide)) (by rfl) Cneed_in_line.g Cneed_in_line.k Cneed_in_line.a .nil pass0 (pa_cons (pe_lc (own := [("number", 4)]) (te := (tOp (rIxL K) (tVar 0) (tVar 4))) (tt := tYes) (by rfl) nd (pi_tup (pv 1)) (blkOk_by (own := [("number", 4)]) (N := N_least_of_turn) (sc := defScope s_least_of_turn) (by decide +kernel)) (fun _ _ _ _ _ => (pg_name (i := 4) nd rfl (Or.inl rfl))) (fun _ _ _ _ _ => pts_nil) (fun _ _ _ _ _ => (pe_ix ix_list (pv 0) (pv 4) (fun _ _ => rfl)))) pa_nil)) (pg_tup rfl (pgs_cons (pg_name (i := 2) nd rfl (Or.inl rfl)) (pgs_cons (pg_name (i := 3) nd rfl (Or.inl rfl)) pgs_nil))))
      (pss_one (ps_ret (pv 2)))), ?_⟩
    refine LS.body j q ?_
    refine sw_seq (sw_asg (ew_call hd (aw_cons (ew_lcT hd (ew_var rfl ?_)))))
    refine ⟨b, _, rfl, ht, by rw [List.length_map]; omega, fun Dl hDl => ?_⟩
    refine ⟨fun i acc _ G => F = G ∧ Prs F acc ((tn.take i).map fun k => ps.getD k (0, 0)), ⟨rfl, .nil⟩, ?_, ?_, ?_⟩
    · rintro i acc _ G hi hg ⟨rfl, hp⟩
      refine ⟨ht, ?_⟩
      rw [hp.len, List.length_map]
      exact List.length_take_le _ _
    · rintro i acc x _ G hi hg ⟨rfl, hp⟩
      have hd' := hd.jd (D := Dl) (acc := acc)
      rw [List.getElem?_map] at hi
      obtain ⟨kk, hkk, rfl⟩ := Option.map_eq_some_iff.mp hi
      have hlt := hb kk (List.mem_of_getElem? hkk)
      obtain ⟨t, p, ex, htt, hpp⟩ := hx.get (i := kk) (x := xs[kk]'(by rw [hx.len]; exact hlt)) (List.getElem?_eq_getElem _)
      refine gw_name ⟨rfl, tw_yes ⟨fun _ => ?_, (fun z => by cases z)⟩⟩
      refine ew_op (ew_var rfl (ew_var rfl (rw_ixL hd' hl (atI_nat (List.getElem?_eq_getElem (by rw [hx.len]; exact hlt))) ?_)))
      refine ⟨rfl, ?_⟩
      rw [List.take_succ, hkk, List.map_append, ex]
      refine Prs.snoc ?_ hp
      have e9 : ps.getD kk (0, 0) = p := by rw [List.getD_eq_getElem?_getD, hpp]; rfl
      show F t = some (.tup [V.int (ps.getD kk (0, 0)).1, V.int (ps.getD kk (0, 0)).2])
      rw [e9]
      exact htt
    · rintro acc _ G hg ⟨rfl, hp⟩
      rw [List.length_map, List.take_length] at hp
      have g2 : Ex F (upd F Dl (.lst acc)) := Ex.new (.refl _) hg
      refine aw_nil ⟨Dl, acc, _, rfl, SqL.of upd_same, hp.ex g2, by rw [List.length_map]; omega, fun q F' g3 hq e => ?_⟩
      refine gw_tup hd ⟨q, _, rfl, SqT.of e, rfl, gsw_cons (gw_name (gsw_cons (gw_name (gsw_nil ?_))))⟩
      exact sw_ret (ew_var rfl (k F' (g2.trans g3)))

abbrev s_order : Stmt := top 16
def N_order : List Str := ["world", "store", "machines", "needs", "turn", "steps"]
theorem sc_order : FnScope N_order ["world"] (defScope s_order) := ⟨rfl, rfl, rfl, by decide +kernel, rfl, by decide +kernel, by decide +kernel⟩
theorem ok_order {f : Addr} {fd : FuncData} {f1 f2 f3 : Addr} {fd1 fd2 fd3 : FuncData} (Fn : Fun K "order" "order" s_order f fd) (B : Blt mg) (Ccheck_world : Cal K mg "check_world" f1 fd1 ["world"]) (Gcheck_world : FnOk P w K mg base CX0 3 f1 fd1 ["world"] (LS (aChkW K))) (Cneed_of_steps : Cal K mg "need_of_steps" f2 fd2 ["steps"]) (Gneed_of_steps : FnOk P w K mg base CX0 2 f2 fd2 ["steps"] (LS (aNeedSteps K))) (Cleast_of_turn : Cal K mg "least_of_turn" f3 fd3 ["needs", "turn"]) (Gleast_of_turn : FnOk P w K mg base CX0 2 f3 fd3 ["needs", "turn"] (LS (aLeastTurn K))) (gperm : mg "permutations" = some (.type "itertools.permutations")) : FnOk P w K mg base CX0 4 f fd ["world"] (LS (aOrder K)) := by
  refine Fn.ok sc_order (fun vs H Q E h => ?_) (fun cdv A outer s H vs Q E hr h => ?_)
  · obtain ⟨J, F, R, hd, j, h, _⟩ := h
    obtain ⟨v, w, rfl, _⟩ := h
    rfl
  · have nd := sc_order.nd
    obtain ⟨J, F, R, hd, j, h, q⟩ := h
    obtain ⟨v, w, rfl, dv, hw, k1, k2⟩ := h
    refine ⟨_, (pss_cons (ps_expr (pe_call Gcheck_world (by exact hr.mono (by decide)) (by rfl) Ccheck_world.g Ccheck_world.k Ccheck_world.a .nil pass0 (pa_cons (pv 0) pa_nil)))
      (pss_cons (ps_asg (pv 0) (pg_tup rfl (pgs_cons (pg_name (i := 1) nd rfl (Or.inl rfl)) (pgs_cons (pg_name (i := 2) nd rfl (Or.inl rfl)) pgs_nil))))
      (pss_cons (ps_setLc (i := 3) rfl nd rfl rfl (sw_true rfl rfl rfl (by decide +kernel)) (own := [("steps", 5)]) (te := (tCall (LS (aNeedSteps K)) [] E0 (tCons (tVar 5) tNil))) (tt := tYes) (pi_tup (pv 2)) (blkOk_by (own := [("steps", 5)]) (N := N_order) (sc := defScope s_order) (by decide +kernel)) (fun _ _ _ _ _ => (pg_name (i := 5) nd rfl (Or.inl rfl))) (fun _ _ _ _ _ => pts_nil) (fun _ _ _ _ _ => (pe_call Gneed_of_steps (by exact hr.mono (by decide)) (by rfl) Cneed_of_steps.g Cneed_of_steps.k Cneed_of_steps.a .nil pass0 (pa_cons (pv 5) pa_nil))))
      (pss_cons (ps_for PassesOwn.never rfl (pi_perm rfl (by rfl) gperm (prg_1 (by rfl) B.range (pe_callB call_len_seq (by rfl) B.len (by decide +kernel) (pa_cons (pv 3) pa_nil)))) (pg_name (i := 4) nd rfl (Or.inl rfl)) (pss_one (ps_if (pt_cmpR op_le (pe_call Gleast_of_turn (by exact hr.mono (by decide)) (by rfl) Cleast_of_turn.g Cleast_of_turn.k Cleast_of_turn.a .nil pass0 (pa_cons (pv 3) (pa_cons (pv 4) pa_nil))) (pe_ix ix_tup (pv 1) pe_int (fun _ _ => rfl)) (nomark _)) (pss_one (ps_ret (pe_callTy call_list_of (by rfl) B.list (by decide +kernel) (pa_cons (pv 4) pa_nil)))) pss_nil)))
      (pss_one (ps_ret pe_non)))))), ?_⟩
    refine LS.body j q ?_
    obtain ⟨wa, xs, rfl, lx, dxs⟩ := dp_tup dv
    obtain ⟨sv, mv, rfl, ds, dm⟩ := dps2 dxs
    obtain ⟨ma, zs, rfl, lz, dzs⟩ := dp_tup dm
    have hzl : zs.length = w.ms.length := by have := dps_len dzs; simpa using this
    have hm5 := hw.m
    obtain ⟨sa, ys, rfl, ly, dys⟩ := dp_tup (show Dp K F sv (.tuple [.int w.cap, .int w.start, .int w.refill]) from ds)
    obtain ⟨v1, v2, v3, rfl, d1, d2, d3⟩ := dps3 dys
    cases dp_int d1
    cases dp_int d2
    refine sw_seq (sw_drop (ew_call hd ?_))
    walk_at "ob"
    refine ⟨.ref wa, w, rfl, .tup lx (.cons ds (.cons dm .nil)), hw, fun F1 g1 => ?_⟩
    refine sw_seq (sw_asg ?_)
    walk_at "ob"
    refine gw_tup hd ⟨wa, _, rfl, g1.sqT lx, rfl, gsw_cons (gw_name (gsw_cons (gw_name (gsw_nil ?_))))⟩
    refine sw_seq (sw_asg (ew_lcT hd (ew_var rfl ?_)))
    refine ⟨ma, zs, rfl, g1.sqT lz, by omega, fun Nl hNl => ?_⟩
    refine ⟨fun i acc _ G => Ex F1 G ∧ Prs G acc ((w.ms.take i).map needS), ⟨.refl _, .nil⟩, ?_, ?_, ?_⟩
    · rintro i acc _ G hi hg ⟨g, hp⟩
      refine ⟨(g1.trans g).sqT lz, ?_⟩
      rw [hp.len, List.length_map]
      exact List.length_take_le _ _
    · rintro i acc x _ G hi hg ⟨g, hp⟩
      have hd' := hd.jd (D := Nl) (acc := acc)
      obtain ⟨d, hd1, hd2⟩ := dps_get' dzs hi
      rw [List.getElem?_map] at hd1
      obtain ⟨ss, hss, rfl⟩ := Option.map_eq_some_iff.mp hd1
      refine gw_name ⟨rfl, tw_yes ⟨fun _ => ?_, (fun z => by cases z)⟩⟩
      refine ew_call hd' (aw_cons (ew_var rfl (aw_nil ⟨x, ss, rfl, dp_ex (g1.trans g) hd2, hw.n ss (List.mem_of_getElem? hss), fun q F' g2 hq e => ?_⟩)))
      refine ⟨g.trans g2, ?_⟩
      rw [List.take_succ, hss, List.map_append]
      exact Prs.snoc e (hp.ex g2)
    rintro acc _ G hg ⟨g, hp⟩
    rw [hzl, List.take_length] at hp
    have g2 : Ex G (upd G Nl (.lst acc)) := Ex.new (.refl _) hg
    have hp2 := hp.ex g2
    have gF : Ex F (upd G Nl (.lst acc)) := g1.trans (g.trans g2)
    have hal : acc.length = w.ms.length := by rw [hp.len, List.length_map]
    refine gw_name ?_
    refine sw_seq ?_
    refine sw_mid (fun σ _ G2 => ∃ (x4 x5 : Option V), σ = [some (.ref wa), some (.ref sa), some (.ref ma), some (.ref Nl), x4, x5] ∧ Ex F G2 ∧ ∀ j, j < facN w.ms.length → w.start < leastT (needsW w) (idxP w.ms.length j)) ?_ ?_
    · refine sw_forPm hd (ew_cb (aw_cons (ew_var rfl (aw_nil (cw_lenS hd (Or.inl (SqL.of upd_same)) ?_)))))
      rw [hal]
      refine ⟨w.ms.length, fun i σ _ G2 => ∃ (x4 : Option V), σ = [some (.ref wa), some (.ref sa), some (.ref ma), some (.ref Nl), x4, none] ∧ Ex (upd G Nl (.lst acc)) G2 ∧ ∀ j, j < i → w.start < leastT (needsW w) (idxP w.ms.length j), rfl, hm5, ⟨none, rfl, .refl _, fun j hj => absurd hj (by omega)⟩, ?_, ?_⟩
      · rintro i σ _ G2 T hi ⟨x4, rfl, gA, hno⟩ hT
        have gT : Ex G2 (upd G2 T (.tup ((idxP w.ms.length i).map fun k => V.int (k : Nat)))) := Ex.new (.refl _) hT
        refine gw_name ?_
        refine sw_if (tw_test (ew_op (ew_call hd (aw_cons (ew_var rfl (aw_cons (ew_var rfl (aw_nil ?_))))))))
        refine ⟨Nl, T, acc, needsW w, idxP w.ms.length i, rfl, SqL.of (gT _ _ (gA _ _ upd_same)), hp2.ex (gA.trans gT), SqT.of upd_same, ?_, by rw [idx_len hm5 hi]; omega, fun G3 g3 => ?_⟩
        · intro k hk
          rw [needsW, List.length_map]
          exact idx_lt hm5 hi k hk
        have gB : Ex F G3 := gF.trans (gA.trans (gT.trans g3))
        refine ew_op (ew_var rfl (ew_c (rw_ixT hd (gB.sqT ly) (atI_nat rfl) (rw_I0 ?_))))
        refine ⟨_, rfl, fun hb => ?_, fun hb => ?_⟩
        · have hb2 := of_decide_eq_true hb
          refine sw_ret (ew_cb (aw_cons (ew_var rfl (aw_nil ?_))))
          refine cw_listT hd (SqT.of (g3 _ _ upd_same)) fun q hq => ?_
          exact k1 i q _ hi hb2 hno (gB.trans (Ex.new (.refl _) hq)) (gB.free hq) upd_same
        · have hb2 := of_decide_eq_false hb
          refine sw_next ⟨_, rfl, gA.trans (gT.trans g3), fun j hj => ?_⟩
          by_cases e : j < i
          · exact hno j e
          · have : j = i := by omega
            subst this
            omega
      · rintro σ _ G2 ⟨x4, rfl, gA, hno⟩
        exact ⟨_, _, rfl, gF.trans gA, hno⟩
    · rintro σ _ G2 ⟨x4, x5, rfl, gA, hno⟩
      exact sw_ret (ew_c (k2 hno _ gA))

abbrev s_least_start : Stmt := top 17
def N_least_start : List Str := ["world", "store", "machines", "needs", "least", "steps", "turn"]
theorem sc_least_start : FnScope N_least_start ["world"] (defScope s_least_start) := ⟨rfl, rfl, rfl, by decide +kernel, rfl, by decide +kernel, by decide +kernel⟩
theorem ok_least_start {f : Addr} {fd : FuncData} {f1 f2 f3 : Addr} {fd1 fd2 fd3 : FuncData} (Fn : Fun K "least_start" "least_start" s_least_start f fd) (B : Blt mg) (Ccheck_world : Cal K mg "check_world" f1 fd1 ["world"]) (Gcheck_world : FnOk P w K mg base CX0 3 f1 fd1 ["world"] (LS (aChkW K))) (Cneed_of_steps : Cal K mg "need_of_steps" f2 fd2 ["steps"]) (Gneed_of_steps : FnOk P w K mg base CX0 2 f2 fd2 ["steps"] (LS (aNeedSteps K))) (Cleast_of_turn : Cal K mg "least_of_turn" f3 fd3 ["needs", "turn"]) (Gleast_of_turn : FnOk P w K mg base CX0 2 f3 fd3 ["needs", "turn"] (LS (aLeastTurn K))) (gperm : mg "permutations" = some (.type "itertools.permutations")) : FnOk P w K mg base CX0 4 f fd ["world"] (LS (aLeastStart K)) := by
  refine Fn.ok sc_least_start (fun vs H Q E h => ?_) (fun cdv A outer s H vs Q E hr h => ?_)
  · obtain ⟨J, F, R, hd, j, h, _⟩ := h
    obtain ⟨v, w, rfl, _⟩ := h
    rfl
  · have nd := sc_least_start.nd
    obtain ⟨J, F, R, hd, j, h, q⟩ := h
    obtain ⟨v, w, rfl, dv, hw, k0⟩ := h
    refine ⟨_, (pss_cons (ps_expr (pe_call Gcheck_world (by exact hr.mono (by decide)) (by rfl) Ccheck_world.g Ccheck_world.k Ccheck_world.a .nil pass0 (pa_cons (pv 0) pa_nil)))
      (pss_cons (ps_asg (pv 0) (pg_tup rfl (pgs_cons (pg_name (i := 1) nd rfl (Or.inl rfl)) (pgs_cons (pg_name (i := 2) nd rfl (Or.inl rfl)) pgs_nil))))
      (pss_cons (ps_set (i := 3) nd rfl (Or.inr rfl) (pe_lc (own := [("steps", 5)]) (te := (tCall (LS (aNeedSteps K)) [] E0 (tCons (tVar 5) tNil))) (tt := tYes) (by rfl) nd (pi_tup (pv 2)) (blkOk_by (own := [("steps", 5)]) (N := N_least_start) (sc := defScope s_least_start) (by decide +kernel)) (fun _ _ _ _ _ => (pg_name (i := 5) nd rfl (Or.inl rfl))) (fun _ _ _ _ _ => pts_nil) (fun _ _ _ _ _ => (pe_call Gneed_of_steps (by exact hr.mono (by decide)) (by rfl) Cneed_of_steps.g Cneed_of_steps.k Cneed_of_steps.a .nil pass0 (pa_cons (pv 5) pa_nil)))))
      (pss_cons (ps_set (i := 4) nd rfl (Or.inl rfl) (pe_callB (cr_min rfl) (by rfl) B.min (by decide +kernel) (pa_cons (pe_lc (own := [("turn", 6)]) (te := (tCall (LS (aLeastTurn K)) [] E0 (tCons (tVar 3) (tCons (tVar 6) tNil)))) (tt := tYes) (by rfl) nd (pi_perm rfl (by rfl) gperm (prg_1 (by rfl) B.range (pe_callB call_len_seq (by rfl) B.len (by decide +kernel) (pa_cons (pv 3) pa_nil)))) (blkOk_by (own := [("turn", 6)]) (N := N_least_start) (sc := defScope s_least_start) (by decide +kernel)) (fun _ _ _ _ _ => (pg_name (i := 6) nd rfl (Or.inl rfl))) (fun _ _ _ _ _ => pts_nil) (fun _ _ _ _ _ => (pe_call Gleast_of_turn (by exact hr.mono (by decide)) (by rfl) Cleast_of_turn.g Cleast_of_turn.k Cleast_of_turn.a .nil pass0 (pa_cons (pv 3) (pa_cons (pv 6) pa_nil))))) pa_nil)))
      (pss_one (ps_ret (pe_ifExp (pt_cmpR op_le (pv 4) (pe_ix ix_tup (pv 1) pe_int (fun _ _ => rfl)) (nomark _)) (pv 4) pe_non))))))), ?_⟩
    refine LS.body j q ?_
    obtain ⟨wa, xs, rfl, lx, dxs⟩ := dp_tup dv
    obtain ⟨sv, mv, rfl, ds, dm⟩ := dps2 dxs
    obtain ⟨ma, zs, rfl, lz, dzs⟩ := dp_tup dm
    have hzl : zs.length = w.ms.length := by have := dps_len dzs; simpa using this
    have hm5 := hw.m
    obtain ⟨sa, ys, rfl, ly, dys⟩ := dp_tup (show Dp K F sv (.tuple [.int w.cap, .int w.start, .int w.refill]) from ds)
    obtain ⟨v1, v2, v3, rfl, d1, d2, d3⟩ := dps3 dys
    cases dp_int d1
    cases dp_int d2
    refine sw_seq (sw_drop (ew_call hd ?_))
    walk_at "ob"
    refine ⟨.ref wa, w, rfl, .tup lx (.cons ds (.cons dm .nil)), hw, fun F1 g1 => ?_⟩
    refine sw_seq (sw_asg ?_)
    walk_at "ob"
    refine gw_tup hd ⟨wa, _, rfl, g1.sqT lx, rfl, gsw_cons (gw_name (gsw_cons (gw_name (gsw_nil ?_))))⟩
    refine sw_seq (sw_asg (ew_lcT hd (ew_var rfl ?_)))
    refine ⟨ma, zs, rfl, g1.sqT lz, by omega, fun Nl hNl => ?_⟩
    refine ⟨fun i acc _ G => Ex F1 G ∧ Prs G acc ((w.ms.take i).map needS), ⟨.refl _, .nil⟩, ?_, ?_, ?_⟩
    · rintro i acc _ G hi hg ⟨g, hp⟩
      refine ⟨(g1.trans g).sqT lz, ?_⟩
      rw [hp.len, List.length_map]
      exact List.length_take_le _ _
    · rintro i acc x _ G hi hg ⟨g, hp⟩
      have hd' := hd.jd (D := Nl) (acc := acc)
      obtain ⟨d, hd1, hd2⟩ := dps_get' dzs hi
      rw [List.getElem?_map] at hd1
      obtain ⟨ss, hss, rfl⟩ := Option.map_eq_some_iff.mp hd1
      refine gw_name ⟨rfl, tw_yes ⟨fun _ => ?_, (fun z => by cases z)⟩⟩
      refine ew_call hd' (aw_cons (ew_var rfl (aw_nil ⟨x, ss, rfl, dp_ex (g1.trans g) hd2, hw.n ss (List.mem_of_getElem? hss), fun q F' g2 hq e => ?_⟩)))
      refine ⟨g.trans g2, ?_⟩
      rw [List.take_succ, hss, List.map_append]
      exact Prs.snoc e (hp.ex g2)
    rintro acc _ G hg ⟨g, hp⟩
    rw [hzl, List.take_length] at hp
    have g2 : Ex G (upd G Nl (.lst acc)) := Ex.new (.refl _) hg
    have hp2 := hp.ex g2
    have gF : Ex F (upd G Nl (.lst acc)) := g1.trans (g.trans g2)
    have hal : acc.length = w.ms.length := by rw [hp.len, List.length_map]
    refine gw_name ?_
    refine sw_seq (sw_asg (ew_cb (aw_cons (ew_lcPm hd (ew_cb (aw_cons (ew_var rfl (aw_nil (cw_lenS hd (Or.inl (SqL.of upd_same)) ?_)))))))))
    rw [hal]
    refine ⟨w.ms.length, rfl, hm5, fun Dl hDl => ?_⟩
    refine ⟨fun i acc2 _ G2 => Ex (upd G Nl (.lst acc)) G2 ∧ acc2 = ((List.range i).map fun j => leastT (needsW w) (idxP w.ms.length j)).map V.int, ⟨.refl _, rfl⟩, ?_, ?_, ?_⟩
    · rintro i acc2 _ G2 hi hg2 ⟨gA, rfl⟩
      rw [List.length_map, List.length_map, List.length_range]
      exact Nat.le_refl _
    · rintro i acc2 _ G2 T hi hg2 ⟨gA, rfl⟩ hT hTD
      have hd' := hd.jd (D := Dl) (acc := ((List.range i).map fun j => leastT (needsW w) (idxP w.ms.length j)).map V.int)
      have gT : Ex G2 (upd G2 T (.tup ((idxP w.ms.length i).map fun k => V.int (k : Nat)))) := Ex.new (.refl _) hT
      refine gw_name ⟨rfl, tw_yes ⟨fun _ => ?_, (fun z => by cases z)⟩⟩
      refine ew_call hd' (aw_cons (ew_var rfl (aw_cons (ew_var rfl (aw_nil ?_)))))
      refine ⟨Nl, T, acc, needsW w, idxP w.ms.length i, rfl, SqL.of (gT _ _ (gA _ _ upd_same)), hp2.ex (gA.trans gT), SqT.of upd_same, ?_, by rw [idx_len hm5 hi]; omega, fun G3 g3 => ?_⟩
      · intro k hk
        rw [needsW, List.length_map]
        exact idx_lt hm5 hi k hk
      refine ⟨gA.trans (gT.trans g3), ?_⟩
      rw [List.range_succ, List.map_append, List.map_append]
      rfl
    rintro acc2 _ G2 hg2 ⟨gA, rfl⟩
    have hf0 : 0 < facN w.ms.length := facN_pos hm5
    refine aw_nil (cw_min1 hd (SqL.of upd_same) (by rw [List.length_map, List.length_range]; exact hf0) fun m hm hle => ?_)
    have gB : Ex F (upd G2 Dl (.lst (((List.range (facN w.ms.length)).map fun j => leastT (needsW w) (idxP w.ms.length j)).map V.int))) := gF.trans (gA.trans (Ex.new (.refl _) hg2))
    obtain ⟨i, hi, rfl⟩ := List.mem_map.mp hm
    have hk := k0 _ _ ⟨i, List.mem_range.mp hi, rfl⟩ (fun j hj => hle _ (List.mem_map.mpr ⟨j, List.mem_range.mpr hj, rfl⟩)) gB
    refine gw_name ?_
    refine sw_ret (ew_if (tw_test (ew_op (ew_var rfl (ew_op (ew_var rfl (ew_c (rw_ixT hd (gB.sqT ly) (atI_nat rfl) (rw_I0 ?_)))))))))
    refine ⟨_, rfl, fun hb => ?_, fun hb => ?_⟩
    · exact ew_var rfl (hk.1 (of_decide_eq_true hb))
    · exact ew_c (hk.2 (by have := of_decide_eq_false hb; omega))
end
end Obr
namespace Obr
open PySem L2 PyProof.Rows
/-! ### what laws share -/
theorem sw_hide {S : Type} {J : S → Hp → Hp → Prop} {t : TS} {σ : L2.St} {s : S} {F : Hp} {h c : Addr} {m : Int} {ns : List Int} {N : L2.St → S → Hp → Prop} {R : V → S → Hp → Prop} (fc : F c = none) (fh : F h = none) (hne : c ≠ h) (m0 : 0 ≤ m) (m1 : m < 2147483647) (hn : ns.length ≤ 63) (hR : ∀ s F, R (.bl true) s F)
    (hw : SW (HJ h c J) t { nx := fun _ _ _ => False, rt := fun v _ _ => v = .bl true } σ s F) : SW J t { nx := N, rt := R } σ s (upd (upd F c (cL ns)) h (hL c m 0)) := fun H j D' l =>
  hw H ⟨_, m, 0, ns, Ex.new (Ex.new (.refl _) fc) (by rw [upd_ne hne.symm]; exact fh), fh, fc, m0, m1, by decide, hn, upd_same, (upd_ne hne).trans upd_same, j⟩ D'
    ⟨fun _ _ _ _ _ k => k.elim, fun v s F H ⟨G, _, _, _, _, _, _, _, _, _, _, _, _, j⟩ k => by subst k; exact l.rt _ s G H j (hR s G), fun _ _ _ _ _ k => k.elim, fun _ _ _ _ _ k => k.elim⟩
theorem sw_par3 {S : Type} {J : S → Hp → Hp → Prop} {σ : L2.St} {s : S} {F : Hp} {D : En S} {i k l : Nat} {ta : TA} (h : AW J ta σ s F fun vs s1 F1 => ∃ u v w, vs = [u, v, w] ∧ D.nx (((σ.set i (some u)).set k (some v)).set l (some w)) s1 F1) : SW J (tPar3 i k l ta) D σ s F := fun H j D' l' =>
  h H j _ fun vs s1 F1 H1 j1 ⟨u, v, w, e, k⟩ => ⟨u, v, w, e, l'.nx _ _ _ _ j1 k⟩
theorem cw_intB {S : Type} {J : S → Hp → Hp → Prop} {s : S} {F : Hp} {R : V → S → Hp → Prop} {b : Bool} (h : R (.int (if b then 1 else 0)) s F) : CW J (fun xs H Q => (∃ i, xs = [.int i] ∧ Q (.int i) H) ∨ ∃ k, xs = [.bl k] ∧ Q (.int (if k then 1 else 0)) H) [.bl b] s F R := fun H j Q q =>
  Or.inr ⟨b, rfl, q _ _ _ _ j h⟩
theorem dps_ext {K : PySem.W.Frag} {F : Hp} : ∀ {vs : List V} {ds : List PyData}, vs.length = ds.length → (∀ (i : Nat) (v : V) (d : PyData), vs[i]? = some v → ds[i]? = some d → Dp K F v d) → DpAll K F vs ds
  | [], [], _, _ => .nil
  | [], _ :: _, h, _ => by simp at h
  | _ :: _, [], h, _ => by simp at h
  | v :: vs, d :: ds, h, k => .cons (k 0 v d rfl rfl) (dps_ext (by simpa using h) fun i v d h1 h2 => k (i + 1) v d (by simpa using h1) (by simpa using h2))
theorem eqv_ints : ∀ {a b : List Int}, PyData.eqv (.list (a.map PyData.int)) (.list (b.map PyData.int)) = decide (a = b)
  | [], [] => rfl
  | [], _ :: _ => rfl
  | _ :: _, [] => rfl
  | x :: a, y :: b => by
    have h := eqv_ints (a := a) (b := b)
    have e : ∀ u v : List PyData, PyData.eqv (.list u) (.list v) = PyData.eqvAll u v := fun u v => by simp only [PyData.eqv]
    rw [e] at h ⊢
    show PyData.eqvAll (PyData.int x :: a.map PyData.int) (PyData.int y :: b.map PyData.int) = _
    have : PyData.eqvAll (PyData.int x :: a.map PyData.int) (PyData.int y :: b.map PyData.int) = ((x == y) && PyData.eqvAll (a.map PyData.int) (b.map PyData.int)) := by simp only [PyData.eqvAll, PyData.eqv]
    rw [this, h]
    by_cases c : x = y <;> by_cases d : a = b <;> simp [c, d]
theorem low_ints {n : Nat} {l : List Int} : lowD (n + 1) (.list (l.map PyData.int)) = true := by
  show (l.map PyData.int).all (lowD n) = true
  rw [List.all_eq_true]
  intro d hd
  obtain ⟨i, _, rfl⟩ := List.mem_map.mp hd
  cases n <;> rfl
end Obr
namespace Obr
open PySem L2 PyProof.Rows
section
variable {S : Type} {J : S → Hp → Hp → Prop} {K : PySem.W.Frag} {σ : L2.St} {s : S} {F : Hp} {R : V → S → Hp → Prop} {tn : TE}
/-- list(range(n)) -/
theorem ew_listRg (hd : Hid J) (h : EW J tn σ s F fun v s1 F1 => ∃ n : Nat, v = .int (n : Nat) ∧ n ≤ 1000 ∧ ∀ q, F1 q = none → R (.ref q) s1 (upd F1 q (.lst ((List.range n).map fun k => V.int (k : Nat))))) : EW J (tLstRg (tRg1 tn)) σ s F R := fun H j Q q =>
  h H j _ fun v s1 F1 H1 j1 ⟨n, e, hn, k⟩ => ⟨n, e, RgOk.of_le (by omega) (by omega) (by omega) (by omega), fun p hp => by
    have er : rgV 0 (n : Nat) = (List.range n).map fun k => V.int (k : Nat) := by
      unfold rgV
      rw [Int.sub_zero, Int.toNat_natCast]
      refine List.map_congr_left fun x _ => ?_
      rw [Int.zero_add]
    rw [er]
    exact q _ _ _ _ (hd.al j1 hp) (k p (hd.fresh j1 hp))⟩
theorem cw_max1 (hd : Hid J) {a : Addr} {ns : List Int} (l : SqL K F a (ns.map V.int)) (h0 : 0 < ns.length) (h : ∀ m, m ∈ ns → (∀ y, y ∈ ns → y ≤ m) → R (.int m) s F) : CW J (rMax K) [.ref a] s F R := fun H j Q q => ⟨a, ns, rfl, hd.sqL j l, h0, fun m hm hle => q _ _ _ _ j (h m hm hle)⟩
theorem cw_sortedI (hd : Hid J) {a : Addr} {ns : List Int} (l : SqL K F a (ns.map V.int)) (h : ∀ (ns' : List Int) (p : Addr), ns'.Perm ns → ns'.Pairwise (· ≤ ·) → F p = none → R (.ref p) s (upd F p (.lst (ns'.map V.int)))) : CW J (rSortedI K) [.ref a] s F R := fun H j Q q =>
  ⟨a, ns, rfl, hd.sqL j l, fun ns' p h1 h2 hp => q _ _ _ _ (hd.al j hp) (h ns' p h1 h2 (hd.fresh j hp))⟩
end
end Obr
namespace Obr
open PySem L2 PyProof.Rows Obp
/-! ### orders: bounds -/
theorem mx_le {a b c : Int} : mx a b ≤ c ↔ a ≤ c ∧ b ≤ c := by unfold mx; split <;> omega
theorem le_mx1 {a b : Int} : a ≤ mx a b := by unfold mx; split <;> omega
theorem le_mx2 {a b : Int} : b ≤ mx a b := by unfold mx; split <;> omega
/-- going through pairs from (m, s): what must be there is the greatest of m and each prefix's -/
theorem needF_snd : ∀ (ps : List (Int × Int)) (x : Int × Int), (ps.foldl needF x).2 = x.2 + (ps.map (·.2)).sum
  | [], x => by simp
  | p :: ps, x => by
    rw [List.foldl_cons, needF_snd ps]
    show x.2 + p.2 + _ = _
    rw [List.map_cons, List.sum_cons]
    omega
theorem needF_le : ∀ (ps : List (Int × Int)) (x : Int × Int) (c : Int), (ps.foldl needF x).1 ≤ c ↔ x.1 ≤ c ∧ ∀ (i : Nat) (p : Int × Int), ps[i]? = some p → x.2 + ((ps.take i).map (·.2)).sum + p.1 ≤ c
  | [], x, c => by simp
  | p :: ps, x, c => by
    rw [List.foldl_cons, needF_le ps]
    show mx x.1 (x.2 + p.1) ≤ c ∧ _ ↔ _
    rw [mx_le]
    constructor
    · rintro ⟨⟨h1, h2⟩, h3⟩
      refine ⟨h1, fun i q hq => ?_⟩
      cases i with
      | zero =>
        simp at hq
        subst hq
        simpa using h2
      | succ i =>
        have := h3 i q (by simpa using hq)
        rw [List.take_succ_cons, List.map_cons, List.sum_cons]
        have e : (needF x p).2 = x.2 + p.2 := rfl
        rw [e] at this
        omega
    · rintro ⟨h1, h2⟩
      refine ⟨⟨h1, ?_⟩, fun i q hq => ?_⟩
      · have := h2 0 p rfl
        simpa using this
      · have := h2 (i + 1) q (by simpa using hq)
        rw [List.take_succ_cons, List.map_cons, List.sum_cons] at this
        have e : (needF x p).2 = x.2 + p.2 := rfl
        rw [e]
        omega
theorem needL_snd (ps : List (Int × Int)) : (needL ps).2 = (ps.map (·.2)).sum := by
  unfold needL; rw [needF_snd]; simp
theorem needL_le (ps : List (Int × Int)) (c : Int) : (needL ps).1 ≤ c ↔ 0 ≤ c ∧ ∀ (i : Nat) (p : Int × Int), ps[i]? = some p → ((ps.take i).map (·.2)).sum + p.1 ≤ c := by
  unfold needL
  rw [needF_le]
  simp
theorem needL_ge0 (ps : List (Int × Int)) : 0 ≤ (needL ps).1 := ((needL_le ps _).mp (Int.le_refl _)).1
/-- a pair as a machine has it -/
def PairOk (p : Int × Int) : Prop := 0 ≤ p.2 ∧ p.2 ≤ p.1
theorem sum_nn : ∀ {l : List Int}, (∀ x ∈ l, 0 ≤ x) → 0 ≤ l.sum
  | [], _ => by simp
  | x :: l, h => by
    rw [List.sum_cons]
    have := h x List.mem_cons_self
    have := sum_nn (l := l) fun y hy => h y (List.mem_cons_of_mem _ hy)
    omega
theorem sum_take {l : List (Int × Int)} (h : ∀ p ∈ l, PairOk p) (i : Nat) : 0 ≤ ((l.take i).map (·.2)).sum := sum_nn fun x hx => by
  obtain ⟨p, hp, rfl⟩ := List.mem_map.mp hx
  exact (h p (List.mem_of_mem_take hp)).1
theorem take_sum_le {l : List (Int × Int)} (h : ∀ p ∈ l, PairOk p) {i : Nat} {p : Int × Int} (hi : l[i]? = some p) : ((l.take i).map (·.2)).sum + p.2 ≤ (l.map (·.2)).sum ∧ ((l.take i).map (·.2)).sum + p.1 ≤ (l.map (·.1)).sum := by
  induction l generalizing i with
  | nil => simp at hi
  | cons q l ih =>
    have hq := h q List.mem_cons_self
    have hl : ∀ p ∈ l, PairOk p := fun p hp => h p (List.mem_cons_of_mem _ hp)
    cases i with
    | zero =>
      simp at hi
      subst hi
      have h1 : 0 ≤ (l.map (·.2)).sum := sum_nn fun x hx => by
        obtain ⟨p, hp, rfl⟩ := List.mem_map.mp hx
        exact (hl p hp).1
      have h2 : 0 ≤ (l.map (·.1)).sum := sum_nn fun x hx => by
        obtain ⟨p, hp, rfl⟩ := List.mem_map.mp hx
        have := hl p hp
        exact Int.le_trans this.1 this.2
      simp
      omega
    | succ i =>
      have := ih hl (i := i) (by simpa using hi)
      rw [List.take_succ_cons, List.map_cons, List.sum_cons, List.map_cons, List.sum_cons, List.map_cons, List.sum_cons]
      have := hq.2
      omega
/-- bounds of what must be there for pairs in line -/
theorem needL_bounds {ps : List (Int × Int)} (h : ∀ p ∈ ps, PairOk p) : (∀ p ∈ ps, p.1 ≤ (needL ps).1) ∧ (ps.map (·.2)).sum ≤ (needL ps).1 ∧ (needL ps).1 ≤ (ps.map (·.1)).sum := by
  have hle := (needL_le ps _).mp (Int.le_refl _)
  refine ⟨fun p hp => ?_, ?_, ?_⟩
  · obtain ⟨i, hi⟩ := List.getElem?_of_mem hp
    have := hle.2 i p hi
    have := sum_take h i
    omega
  · rcases List.eq_nil_or_concat ps with e | ⟨qs, q, e⟩
    · subst e; exact hle.1
    · rw [List.concat_eq_append] at e
      have := hle.2 qs.length q (by rw [e]; simp)
      rw [e] at this ⊢
      simp only [List.take_left, List.map_append, List.sum_append, List.map_cons, List.map_nil, List.sum_cons, List.sum_nil] at this ⊢
      have hq := h q (by rw [e]; simp)
      have := hq.2
      omega
  · refine (needL_le ps _).mpr ⟨?_, fun i p hi => (take_sum_le h hi).2⟩
    exact sum_nn fun x hx => by
      obtain ⟨p, hp, rfl⟩ := List.mem_map.mp hx
      have := h p hp
      exact Int.le_trans this.1 this.2
theorem stepsN_ok {cap : Int} {ss : List Stp} (h : ∀ st ∈ ss, StpOk cap st) : ∀ p ∈ stepsN ss, PairOk p := fun p hp => by
  obtain ⟨st, hst, rfl⟩ := List.mem_map.mp hp
  have := h st hst
  exact ⟨by show 0 ≤ st.draw - st.back; have := this.b1; omega, by show st.draw - st.back ≤ st.draw; have := this.b0; omega⟩
theorem needS_ok {cap : Int} {ss : List Stp} (h : ∀ st ∈ ss, StpOk cap st) : PairOk (needS ss) := by
  have hb := needL_bounds (stepsN_ok h)
  refine ⟨?_, ?_⟩
  · show 0 ≤ (needL _).2
    rw [needL_snd]
    exact sum_nn fun x hx => by
      obtain ⟨p, hp, rfl⟩ := List.mem_map.mp hx
      exact (stepsN_ok h p hp).1
  · show (needL _).2 ≤ (needL _).1
    rw [needL_snd]
    exact hb.2.1
theorem needsW_ok {w : Wld} (hw : WldOk w) : ∀ p ∈ needsW w, PairOk p := fun p hp => by
  obtain ⟨ss, hss, rfl⟩ := List.mem_map.mp hp
  exact needS_ok (hw.st ss hss)
/-- a turn of all -/
theorem idx_perm {n i : Nat} (h5 : n ≤ 5) (hi : i < facN n) : (idxP n i).Perm (List.range n) := by
  revert i
  match n, h5 with
  | 0, _ => decide +kernel
  | 1, _ => decide +kernel
  | 2, _ => decide +kernel
  | 3, _ => decide +kernel
  | 4, _ => decide +kernel
  | 5, _ => decide +kernel
  | k + 6, h => omega
theorem range_getD (ns : List (Int × Int)) : (List.range ns.length).map (fun k => ns.getD k (0, 0)) = ns := by
  refine List.ext_getElem? fun i => ?_
  rw [List.getElem?_map]
  by_cases h : i < ns.length
  · rw [List.getElem?_range h]
    simp [h]
  · rw [List.getElem?_eq_none (by simp; omega), List.getElem?_eq_none (by omega)]
    rfl
theorem perm_sum {l m : List Int} (h : l.Perm m) : l.sum = m.sum := by
  induction h with
  | nil => rfl
  | cons x _ ih => rw [List.sum_cons, List.sum_cons, ih]
  | swap x y l => simp only [List.sum_cons]; omega
  | trans _ _ h1 h2 => rw [h1, h2]
theorem turn_perm' {ns : List (Int × Int)} {i : Nat} (h5 : ns.length ≤ 5) (hi : i < facN ns.length) : ((idxP ns.length i).map fun k => ns.getD k (0, 0)).Perm ns := by
  have := (idx_perm h5 hi).map fun k => ns.getD k (0, 0)
  rwa [range_getD] at this
theorem leastT_bounds {ns : List (Int × Int)} (h : ∀ p ∈ ns, PairOk p) {i : Nat} (h5 : ns.length ≤ 5) (hi : i < facN ns.length) : (∀ p ∈ ns, p.1 ≤ leastT ns (idxP ns.length i)) ∧ (ns.map (·.2)).sum ≤ leastT ns (idxP ns.length i) ∧ leastT ns (idxP ns.length i) ≤ (ns.map (·.1)).sum := by
  have hp := turn_perm' h5 hi
  have hb := needL_bounds (ps := (idxP ns.length i).map fun k => ns.getD k (0, 0)) fun p hp' => h p (hp.mem_iff.mp hp')
  refine ⟨fun p hp' => hb.1 p (hp.mem_iff.mpr hp'), ?_, ?_⟩
  · have e := perm_sum (hp.map (·.2))
    rw [← e]; exact hb.2.1
  · have e := perm_sum (hp.map (·.1))
    rw [← e]; exact hb.2.2
/-! machines that give all back -/
def bkS (st : Stp) : Stp := ⟨st.draw, st.long, st.draw⟩
def bkW (w : Wld) : Wld := ⟨w.cap, w.start, w.refill, w.ms.map fun ss => ss.map bkS⟩
theorem bkW_ok {w : Wld} (hw : WldOk w) : WldOk (bkW w) := ⟨hw.c0, hw.c1, hw.s0, hw.s1, hw.r0, hw.r1, by show (w.ms.map _).length ≤ 5; rw [List.length_map]; exact hw.m, fun ss h => by
  obtain ⟨s0, h0, rfl⟩ := List.mem_map.mp h
  rw [List.length_map]; exact hw.n s0 h0, fun ss h st hst => by
  obtain ⟨s0, h0, rfl⟩ := List.mem_map.mp h
  obtain ⟨t0, h1, rfl⟩ := List.mem_map.mp hst
  have := hw.st s0 h0 t0 h1
  exact ⟨this.d0, this.d1, this.l0, this.l1, this.d0, Int.le_refl _⟩⟩
theorem needL_zero {ps : List (Int × Int)} (h : ∀ p ∈ ps, p.2 = 0) (c : Int) : (needL ps).1 ≤ c ↔ 0 ≤ c ∧ ∀ p ∈ ps, p.1 ≤ c := by
  have hs : ∀ i, ((ps.take i).map (·.2)).sum = 0 := fun i => by
    have e : (ps.take i).map (·.2) = (ps.take i).map fun _ => (0 : Int) := List.map_congr_left fun p hp => h p (List.mem_of_mem_take hp)
    rw [e]
    generalize ps.take i = l
    induction l with
    | nil => rfl
    | cons a l ih => simp [ih]
  rw [needL_le]
  constructor
  · rintro ⟨h0, h1⟩
    refine ⟨h0, fun p hp => ?_⟩
    obtain ⟨i, hi⟩ := List.getElem?_of_mem hp
    have := h1 i p hi
    rw [hs] at this
    omega
  · rintro ⟨h0, h1⟩
    refine ⟨h0, fun i p hi => ?_⟩
    rw [hs]
    have := h1 p (List.mem_of_getElem? hi)
    omega
theorem bk_needS {ss : List Stp} (c : Int) : ((needS (ss.map bkS)).1 ≤ c ↔ 0 ≤ c ∧ ∀ st ∈ ss, st.draw ≤ c) ∧ (needS (ss.map bkS)).2 = 0 := by
  have hz : ∀ p ∈ stepsN (ss.map bkS), p.2 = 0 := fun p hp => by
    obtain ⟨s1, h1, rfl⟩ := List.mem_map.mp hp
    obtain ⟨st, h2, rfl⟩ := List.mem_map.mp h1
    show st.draw - st.draw = 0
    omega
  refine ⟨?_, ?_⟩
  · show (needL _).1 ≤ c ↔ _
    rw [needL_zero hz]
    constructor
    · rintro ⟨h0, h1⟩
      exact ⟨h0, fun st hst => h1 (st.draw, st.draw - st.draw) (List.mem_map.mpr ⟨bkS st, List.mem_map.mpr ⟨st, hst, rfl⟩, rfl⟩)⟩
    · rintro ⟨h0, h1⟩
      refine ⟨h0, fun p hp => ?_⟩
      obtain ⟨s1, h2, rfl⟩ := List.mem_map.mp hp
      obtain ⟨st, h3, rfl⟩ := List.mem_map.mp h2
      exact h1 st h3
  · show (needL _).2 = 0
    rw [needL_snd]
    have e : (stepsN (ss.map bkS)).map (·.2) = (stepsN (ss.map bkS)).map fun _ => (0 : Int) := List.map_congr_left hz
    rw [e]
    generalize stepsN (ss.map bkS) = l
    induction l with
    | nil => rfl
    | cons a l ih => simp [ih]
theorem bk_least {w : Wld} (hw : WldOk w) {i : Nat} (hi : i < facN w.ms.length) (c : Int) : leastT (needsW (bkW w)) (idxP w.ms.length i) ≤ c ↔ 0 ≤ c ∧ ∀ ss ∈ w.ms, ∀ st ∈ ss, st.draw ≤ c := by
  have hl : (needsW (bkW w)).length = w.ms.length := by unfold needsW bkW; simp
  have hp := turn_perm' (ns := needsW (bkW w)) (i := i) (by rw [hl]; exact hw.m) (by rw [hl]; exact hi)
  rw [hl] at hp
  have hmem : ∀ p, p ∈ needsW (bkW w) ↔ ∃ ss ∈ w.ms, p = needS (ss.map bkS) := fun p => by
    unfold needsW bkW
    simp only [List.map_map, List.mem_map, Function.comp]
    constructor
    · rintro ⟨ss, h, rfl⟩; exact ⟨ss, h, rfl⟩
    · rintro ⟨ss, h, rfl⟩; exact ⟨ss, h, rfl⟩
  unfold leastT
  rw [needL_zero fun p hp2 => by
    obtain ⟨ss, _, rfl⟩ := (hmem p).mp (hp.mem_iff.mp hp2)
    exact (bk_needS 0).2]
  constructor
  · rintro ⟨h0, h1⟩
    refine ⟨h0, fun ss hss st hst => ?_⟩
    exact ((bk_needS c).1.mp (h1 _ (hp.mem_iff.mpr ((hmem _).mpr ⟨ss, hss, rfl⟩)))).2 st hst
  · rintro ⟨h0, h1⟩
    refine ⟨h0, fun p hp2 => ?_⟩
    obtain ⟨ss, hss, rfl⟩ := (hmem p).mp (hp.mem_iff.mp hp2)
    exact (bk_needS c).1.mpr ⟨h0, h1 ss hss⟩
theorem idx0 {n : Nat} (h5 : n ≤ 5) : idxP n 0 = List.range n := by
  match n, h5 with
  | 0, _ => decide +kernel
  | 1, _ => decide +kernel
  | 2, _ => decide +kernel
  | 3, _ => decide +kernel
  | 4, _ => decide +kernel
  | 5, _ => decide +kernel
  | k + 6, h => omega
/-- alone: a world of one machine -/
def oneW (w : Wld) (ss : List Stp) : Wld := ⟨w.cap, 0, 0, [ss]⟩
theorem oneW_ok {w : Wld} (hw : WldOk w) {ss : List Stp} (h : ss ∈ w.ms) : WldOk (oneW w ss) := ⟨hw.c0, hw.c1, Int.le_refl _, by show (0 : Int) ≤ w.cap; have := hw.c0; omega, Int.le_refl _, by show (0 : Int) ≤ 9; decide, by show 1 ≤ 5; decide, fun s hs => by rw [List.mem_singleton.mp hs]; exact hw.n ss h, fun s hs => by rw [List.mem_singleton.mp hs]; exact hw.st ss h⟩
theorem eqv_pair {a b c d : Int} : PyData.eqv (.tuple [.int a, .int b]) (.tuple [.int c, .int d]) = decide ((a, b) = (c, d)) := by
  simp only [PyData.eqv, PyData.eqvAll]
  by_cases h1 : a = c <;> by_cases h2 : b = d <;> simp [h1, h2]
theorem mx_is {ss : List Stp} {m : Int} (hm : m ∈ ss.map (fun st => st.draw) ++ [(0 : Int)]) (hu : ∀ y, y ∈ ss.map (fun st => st.draw) ++ [(0 : Int)] → y ≤ m) : m = (needS (ss.map bkS)).1 := by
  have h1 := ((bk_needS (ss := ss) (needS (ss.map bkS)).1).1.mp (Int.le_refl _))
  have h2 : (needS (ss.map bkS)).1 ≤ m := (bk_needS (ss := ss) m).1.mpr ⟨hu 0 (by simp), fun st hst => hu _ (by simp; exact Or.inl ⟨st, hst, rfl⟩)⟩
  have h3 : m ≤ (needS (ss.map bkS)).1 := by
    simp only [List.mem_append, List.mem_singleton, List.mem_map] at hm
    rcases hm with ⟨st, hst, rfl⟩ | rfl
    · exact h1.2 st hst
    · exact h1.1
  omega
theorem most_is {w : Wld} {m : Int} (hm : m ∈ w.ms.map (fun ss => (needS (ss.map bkS)).1) ++ [(0 : Int)]) (hu : ∀ y, y ∈ w.ms.map (fun ss => (needS (ss.map bkS)).1) ++ [(0 : Int)] → y ≤ m) (c : Int) : m ≤ c ↔ 0 ≤ c ∧ ∀ ss ∈ w.ms, ∀ st ∈ ss, st.draw ≤ c := by
  have h0 := hu 0 (by simp)
  constructor
  · intro h
    refine ⟨by omega, fun ss hss st hst => ?_⟩
    have h1 := hu (needS (ss.map bkS)).1 (by simp; exact Or.inl ⟨ss, hss, rfl⟩)
    have h2 := ((bk_needS (ss := ss) (needS (ss.map bkS)).1).1.mp (Int.le_refl _)).2 st hst
    omega
  · rintro ⟨hc, h⟩
    simp only [List.mem_append, List.mem_singleton, List.mem_map] at hm
    rcases hm with ⟨ss, hss, rfl⟩ | rfl
    · exact (bk_needS (ss := ss) c).1.mpr ⟨hc, h ss hss⟩
    · exact hc
/-- rising lists of the same ints are the same -/
theorem srt_eq : ∀ {l m : List Int}, l.Perm m → l.Pairwise (· ≤ ·) → m.Pairwise (· ≤ ·) → l = m
  | [], m, h, _, _ => (h.nil_eq)
  | a :: l, [], h, _, _ => by have := h.length_eq; simp at this
  | a :: l, b :: m, h, h1, h2 => by
    rw [List.pairwise_cons] at h1 h2
    have e : a = b := by
      have ha : a ∈ b :: m := h.mem_iff.mp List.mem_cons_self
      have hb : b ∈ a :: l := h.mem_iff.mpr List.mem_cons_self
      have x1 : a ≤ b := by
        rcases List.mem_cons.mp hb with e | e
        · omega
        · exact h1.1 b e
      have x2 : b ≤ a := by
        rcases List.mem_cons.mp ha with e | e
        · omega
        · exact h2.1 a e
      omega
    subst e
    rw [srt_eq (List.Perm.cons_inv h) h1.2 h2.2]
theorem range_srt (n : Nat) : ((List.range n).map fun k => ((k : Nat) : Int)).Pairwise (· ≤ ·) := by
  rw [List.pairwise_map]
  exact List.pairwise_lt_range.imp fun {a b} h => by show (a : Int) ≤ b; omega
/-- the levels along a turn that can be -/
theorem turn_goes {ns : List (Int × Int)} {tn : List Nat} {start : Int} (h : leastT ns tn ≤ start) {i k : Nat} (hi : tn[i]? = some k) : (ns.getD k (0, 0)).1 ≤ start - ((tn.take i).map fun k => (ns.getD k (0, 0)).2).sum := by
  have := ((needL_le _ _).mp h).2 i (ns.getD k (0, 0)) (by rw [List.getElem?_map, hi]; rfl)
  rw [← List.map_take, List.map_map] at this
  have e : ((fun x : Int × Int => x.2) ∘ fun k => ns.getD k (0, 0)) = fun k => (ns.getD k (0, 0)).2 := rfl
  rw [e] at this
  omega
end Obr
namespace Obr
open PySem L2 PyProof.Rows
local macro_rules | `(tactic| walk_at "ob_at") => `(tactic| first
  | assumption
  | exact upd_same
  | (refine Eq.trans (upd_ne ?obn) ?obr; (case obn => walk_at "ob_ne"); (case obr => walk_at "ob_at")))
local macro_rules | `(tactic| walk_at "ob_ne") => `(tactic| first
  | assumption
  | (refine Ne.symm ?obs; (case obs => assumption))
  | (refine' ne_of_none (H := ?_) ?obe ?obh; (case obh => assumption); (case obe => walk_at "ob_at"))
  | (refine Ne.symm ?obs; (case obs => (refine' ne_of_none (H := ?_) ?obe ?obh; (case obh => assumption); (case obe => walk_at "ob_at")))))
local macro_rules | `(tactic| walk_at "ob_fr") => `(tactic| first
  | assumption
  | (refine Eq.trans (upd_ne ?obn) ?obr; (case obn => walk_at "ob_ne"); (case obr => walk_at "ob_fr"))
  | (refine Ex.free (G := ?_) (by assumption) ?obh; (case obh => walk_at "ob_fr")))
local macro_rules | `(tactic| walk_at "ob_ex") => `(tactic| first
  | assumption
  | exact Ex.refl _
  | (refine Ex.out ?obg ?obh; (case obh => assumption); (case obg => walk_at "ob_ex"))
  | (refine Ex.new ?obg ?obh; (case obh => assumption); (case obg => walk_at "ob_ex"))
  | (refine Ex.new ?obg ?obh; (case obh => walk_at "ob_fr"); (case obg => walk_at "ob_ex")))
local macro_rules | `(tactic| walk_at "ob_sq") => `(tactic| first
  | assumption
  | (refine SqL.of ?oba; (case oba => walk_at "ob_at"))
  | (refine Ex.sqT (F := ?_) ?obg ?obh; (case obh => assumption); (case obg => walk_at "ob_ex"))
  | (refine Ex.sqL (F := ?_) ?obg ?obh; (case obh => assumption); (case obg => walk_at "ob_ex"))
  | (refine SqT.of ?oba; (case oba => walk_at "ob_at")))
local macro_rules | `(tactic| walk_at "ob_side") => `(tactic| first | exact rfl | assumption | decide | omega | exact ⟨by decide, by decide, by decide⟩ | exact Or.inr ⟨by decide, by decide⟩ | exact Or.inl ⟨by decide, by decide⟩ | exact wide_div (b := 60) (by first | decide | omega) (by first | decide | omega) (by decide) (by decide))
local macro_rules | `(tactic| walk_at "ob1") => `(tactic| first
  | with_reducible refine sw_seq ?_
  | with_reducible refine sw_asg ?_
  | with_reducible refine sw_ret ?_
  | with_reducible refine sw_par ?_
  | with_reducible refine ⟨_, _, rfl, ?_⟩
  | with_reducible refine sw_drop ?_
  | with_reducible refine sw_if ?_
  | with_reducible refine sw_next ?_
  | with_reducible refine gw_name ?_
  | with_reducible refine gw_subL (by assumption) ?_
  | with_reducible refine gsw_cons ?_
  | with_reducible refine gsw_nil ?_
  | with_reducible refine ew_c ?_
  | ((with_reducible refine' ew_var (v := ?_) ?obv ?_); (case obv => exact rfl))
  | ((with_reducible refine ew_next (by assumption) ?obv ?_); (case obv => exact rfl))
  | ((with_reducible refine ew_world (by assumption) ?obv ?_); (case obv => exact rfl))
  | ((with_reducible refine ew_rule (by assumption) ?obv ?_); (case obv => exact rfl))
  | with_reducible refine ew_op ?_
  | with_reducible refine ew_un ?_
  | with_reducible refine ew_dget (by assumption) ?_
  | with_reducible refine uw_I ?_
  | with_reducible refine ppw_nil ?_
  | with_reducible refine ppw_cons ?_
  | with_reducible refine sw_dput (by assumption) ?_
  | with_reducible refine ew_cb ?_
  | with_reducible refine ew_if ?_
  | with_reducible refine ew_slL (by assumption) ?_
  | with_reducible refine ow_some ?_
  | with_reducible refine ow_none ?_
  | with_reducible refine aw_nil ?_
  | with_reducible refine aw_cons ?_
  | with_reducible refine rw_I0 ?_
  | ((with_reducible refine rw_I ?obc ?_); (case obc => walk_at "ob_side"))
  | with_reducible refine rw_isN ?_
  | with_reducible refine rw_notN ?_
  | ((with_reducible refine rw_eq ?obc ?_); (case obc => exact rfl))
  | ((with_reducible refine rw_ne ?obc ?_); (case obc => exact rfl))
  | with_reducible refine cw_max2 ?_
  | with_reducible refine cw_min2 ?_
  | with_reducible refine tw_test ?_
  | with_reducible refine tw_B ?_
  | with_reducible refine tw_not ?_
  | with_reducible refine tw_truB ?_
  | with_reducible refine tw_and ?_
  | with_reducible refine tw_or ?_
  | with_reducible refine ew_and ?_
  | (refine' Exists.intro _ (And.intro (show V.bl _ = V.bl _ from rfl) ?_))
  | (refine' Exists.intro _ (And.intro (show V.int _ = V.int _ from rfl) ?_))
  | ((with_reducible refine' rw_ixL (v := ?_) (xs := ?_) (by assumption) ?obl ?oba ?_); (case obl => walk_at "ob_sq"); (case oba => first | exact rfl | exact at_zero))
  | ((with_reducible refine' rw_ixT (v := ?_) (xs := ?_) (by assumption) ?obl ?oba ?_); (case obl => walk_at "ob_sq"); (case oba => first | exact rfl | exact at_zero))
  | ((with_reducible refine' ew_lst (by assumption) ?_))
  | ((with_reducible refine' ew_tup (by assumption) ?_)))
local macro_rules | `(tactic| walk_at "ob_len") => `(tactic| first | exact Nat.le_of_ble_eq_true rfl | (simp; done) | omega)
local macro_rules | `(tactic| walk_at "ob") => `(tactic| repeat walk_at "ob1")
/-! ### _law_alike of the same data -/
def tyD : PyData → String
  | .none => "NoneType"
  | .bool _ => "bool"
  | .int _ => "int"
  | .str _ => "str"
  | .list _ => "list"
  | .tuple _ => "tuple"
  | .dict _ => "dict"
theorem dp_ty {K : PySem.W.Frag} {H : Hp} {v : V} {d : PyData} (h : Dp K H v d) : TyX K H v (.type (tyD d)) := by
  cases h with
  | non => exact .base .non
  | bl b => exact .base (.bl b)
  | int i => exact .base (.int i)
  | str x => exact .base (.str x)
  | lst hs ha =>
    rcases hs with (h | ⟨o, h⟩) | ⟨o, its, n, h1, h2, _⟩
    · exact .base (.lst h)
    · exact .base (.frz h)
    · exact .kList h1 h2
  | tup hs ha =>
    rcases hs with (h | ⟨o, h⟩) | ⟨o, its, n, h1, h2, _⟩
    · exact .base (.tup h)
    · exact .fTuple h
    · exact .kTuple h1 h2
section
variable {S : Type} {J : S → Hp → Hp → Prop} {K : PySem.W.Frag} {s : S} {F : Hp} {R : V → S → Hp → Prop}
theorem cw_isi (hd : Hid J) {v : V} {d : PyData} {n : String} {b : Bool} (h : Dp K F v d) (e : kitB (tyD d) n = some b) (k : R (.bl b) s F) : CW J (rIsi K) [v, .ty n] s F R := fun H j Q q =>
  ⟨v, .ty n, _, _, b, rfl, .ty n, dp_ty (dp_ex (hd.ex j) h), kit_ty e, q _ _ _ _ j k⟩
theorem cw_isi2 (hd : Hid J) {v : V} {d : PyData} {n1 n2 : String} {b1 b2 : Bool} {tp : Addr} (ht : F tp = some (.tup [.ty n1, .ty n2])) (h : Dp K F v d) (e1 : kitB (tyD d) n1 = some b1) (e2 : kitB (tyD d) n2 = some b2) (k : R (.bl (b1 || b2)) s F) : CW J (rIsiT K) [v, .ref tp] s F R := fun H j Q q =>
  ⟨v, tp, [.ty n1, .ty n2], _, [.type n1, .type n2], b1 || b2, rfl, hd.ex j _ _ ht, .cons (.ty n1) (.cons (.ty n2) .nil), dp_ty (dp_ex (hd.ex j) h),
    kitAny_cons (kit_ty e1) (fun hb => by rw [hb]; exact kitAny_cons (kit_ty e2) (fun hb2 => by rw [hb2]; exact kitAny_nil) (fun hb2 => by rw [hb2]; rfl)) (fun hb => by rw [hb]; rfl), q _ _ _ _ j k⟩
theorem rw_ixD (hd : Hid J) {p : Addr} {xs : List V} {i : Nat} {v : V} (l : SqL K F p xs ∨ SqT K F p xs) (a : xs[i]? = some v) (h : R v s F) : RW J (rIx K) (.ref p) (.int (i : Int)) s F R := fun H j Q q => by
  rcases l with l | l
  · exact .inl ⟨p, xs, i, v, rfl, rfl, hd.sqL j l, atI_nat a, q _ _ _ _ j h⟩
  · exact .inr (.inl ⟨p, xs, i, v, rfl, rfl, hd.sqT j l, atI_nat a, q _ _ _ _ j h⟩)
end
/-- data of depth n at most, none longer than a thousand -/
def szD : Nat → PyData → Bool
  | _, .none => true
  | _, .bool _ => true
  | _, .int _ => true
  | _, .str x => PyData.strOk x
  | n + 1, .list ds => decide (ds.length ≤ 1000) && ds.all (szD n)
  | n + 1, .tuple ds => decide (ds.length ≤ 1000) && ds.all (szD n)
  | _, _ => false
/-- two that hold the same -/
def aAlike (K : PySem.W.Frag) : Nat → List V → Hp → VK → Prop
  | 0 => fun _ _ _ => False
  | n + 1 => fun vs F R => ∃ (x y : V) (d : PyData), vs = [x, y] ∧ Dp K F x d ∧ Dp K F y d ∧ szD n d = true ∧ ∀ F', Ex F F' → R (.bl true) F'
abbrev sAlike : Stmt := top 24
def N_alike : List Str := ["_law_found", "_law_due", "_law_k"]
theorem sc_alike : FnScope N_alike ["_law_found", "_law_due"] (defScope sAlike) := ⟨rfl, rfl, rfl, by decide +kernel, rfl, by decide +kernel, by decide +kernel⟩
section
variable {P : Program} {w : World} {K : PySem.W.Frag} {mg : Str → Option Value} {base : Heap}
theorem ok_alike {f : Addr} {fd : FuncData} (Fn : Fun K "_law_alike" "_law_alike" sAlike f fd) (B : Blt mg) (C_law_alike : Cal K mg "_law_alike" f fd ["_law_found", "_law_due"]) :
    ∀ n, FnOk P w K mg base CX0 n f fd ["_law_found", "_law_due"] (LS (aAlike K n))
  | 0 => ⟨fun _ _ _ _ ⟨_, _, _, _, _, h, _⟩ => h.elim, fun _ _ _ _ _ _ _ _ _ _ _ _ _ ⟨_, _, _, _, _, h, _⟩ => h.elim⟩
  | n + 1 => by
    have ih := ok_alike Fn B C_law_alike n
    refine Fn.ok sc_alike (fun vs H Q E h => ?_) (fun cdv A outer s H vs Q E hr h => ?_)
    · obtain ⟨J, F, R, hd, j, ⟨x, y, d, rfl, _⟩, _⟩ := h
      rfl
    have nd := sc_alike.nd
    obtain ⟨J, F, R, hd, j, ⟨x, y, d, rfl, hx, hy, hz, k⟩, q⟩ := h
    refine ⟨_, (pss_cons (ps_if (pt_val (pe_callB call_isiT (by rfl) B.isinstance (by decide +kernel) (pa_cons (pv 1) (pa_cons (pe_tup (pa_cons (pe_bltn (v := .ty "tuple") (by rfl) B.tuple (by decide +kernel) rfl) (pa_cons (pe_bltn (v := .ty "list") (by rfl) B.list (by decide +kernel) rfl) pa_nil))) pa_nil)))) (pss_cons (ps_if (PW.pt (pw_or (pt_not (pt_val (pe_callB call_isiT (by rfl) B.isinstance (by decide +kernel) (pa_cons (pv 0) (pa_cons (pe_tup (pa_cons (pe_bltn (v := .ty "tuple") (by rfl) B.tuple (by decide +kernel) rfl) (pa_cons (pe_bltn (v := .ty "list") (by rfl) B.list (by decide +kernel) rfl) pa_nil))) pa_nil))))) (pw_or1 (pt_cmpR op_ne (pe_callB call_isi (by rfl) B.isinstance (by decide +kernel) (pa_cons (pv 0) (pa_cons (pe_bltn (v := .ty "list") (by rfl) B.list (by decide +kernel) rfl) pa_nil))) (pe_callB call_isi (by rfl) B.isinstance (by decide +kernel) (pa_cons (pv 1) (pa_cons (pe_bltn (v := .ty "list") (by rfl) B.list (by decide +kernel) rfl) pa_nil))) (nomark _))))) (pss_one (ps_ret pe_bl)) pss_nil)
      (pss_cons (ps_if (pt_cmpR op_ne (pe_callB call_len_seq (by rfl) B.len (by decide +kernel) (pa_cons (pv 0) pa_nil)) (pe_callB call_len_seq (by rfl) B.len (by decide +kernel) (pa_cons (pv 1) pa_nil)) (nomark _)) (pss_one (ps_ret pe_bl)) pss_nil)
      (pss_one (ps_ret (pe_cmpR (op_eqD (by exact hr.units)) (pe_lc (own := [("_law_k", 2)]) (te := (tVar 2)) (tt := (tNot (tB (tCall (LS (aAlike K n)) [] E0 (tCons (tOp (rIx K) (tVar 0) (tVar 2)) (tCons (tOp (rIx K) (tVar 1) (tVar 2)) tNil)))))) (by rfl) nd (pi_range1 rfl B.range (pa_cons (pe_callB call_len_seq (by rfl) B.len (by decide +kernel) (pa_cons (pv 1) pa_nil)) pa_nil)) (blkOk_by (own := [("_law_k", 2)]) (N := N_alike) (sc := defScope sAlike) (by decide +kernel)) (fun _ _ _ _ _ => (pg_name (i := 2) nd rfl (Or.inl rfl))) (fun _ _ _ _ _ => pts_one (pt_not (pt_val (pe_call ih (by exact hr) (by rfl) C_law_alike.g C_law_alike.k C_law_alike.a .nil pass0 (pa_cons (pe_ix ix_seq (pv 0) (pv 2) (fun _ _ => rfl)) (pa_cons (pe_ix ix_seq (pv 1) (pv 2) (fun _ _ => rfl)) pa_nil)))))) (fun _ _ _ _ _ => (pv 2))) (pe_lst pa_nil) (nomark _)))))) pss_nil)
      (pss_cons (ps_if (PW.pt (pw_or (pt_cmpR op_isN (pv 1) pe_non (nomark _)) (pw_or1 (pt_val (pe_callB call_isi (by rfl) B.isinstance (by decide +kernel) (pa_cons (pv 1) (pa_cons (pe_bltn (v := .ty "str") (by rfl) B.str (by decide +kernel) rfl) pa_nil))))))) (pss_one (ps_ret (pe_and (pe_cmpR op_eq (pv 0) (pv 1) (nomark _)) (pe_one (pe_cmpR op_eq (pe_callB call_isi (by rfl) B.isinstance (by decide +kernel) (pa_cons (pv 0) (pa_cons (pe_bltn (v := .ty "str") (by rfl) B.str (by decide +kernel) rfl) pa_nil))) (pe_callB call_isi (by rfl) B.isinstance (by decide +kernel) (pa_cons (pv 1) (pa_cons (pe_bltn (v := .ty "str") (by rfl) B.str (by decide +kernel) rfl) pa_nil))) (nomark _)))))) pss_nil)
      (pss_one (ps_ret (pe_and (pe_callB call_isi (by rfl) B.isinstance (by decide +kernel) (pa_cons (pv 0) (pa_cons (pe_bltn (v := .ty "int") (by rfl) B.int (by decide +kernel) rfl) pa_nil))) (pe_and (pe_cmpR op_eq (pe_callB call_isi (by rfl) B.isinstance (by decide +kernel) (pa_cons (pv 0) (pa_cons (pe_bltn (v := .ty "bool") (by rfl) B.bool (by decide +kernel) rfl) pa_nil))) (pe_callB call_isi (by rfl) B.isinstance (by decide +kernel) (pa_cons (pv 1) (pa_cons (pe_bltn (v := .ty "bool") (by rfl) B.bool (by decide +kernel) rfl) pa_nil))) (nomark _)) (pe_one (pe_cmpR op_eq (pv 0) (pv 1) (nomark _))))))))), ?_⟩
    refine LS.body j q ?_
    walk_at "ob"
    refine ⟨by walk_at "ob_len", fun t1 ht1 => ?_⟩
    walk_at "ob"
    have g1 : Ex F (upd F t1 (.tup [.ty "tuple", .ty "list"])) := by walk_at "ob_ex"
    have fin : ∀ b, b = true → R (.bl b) (upd F t1 (.tup [.ty "tuple", .ty "list"])) := fun b e => by rw [e]; exact k _ g1
    cases d with
    | none =>
      cases dp_non hx
      refine cw_isi2 hd (b1 := false) (b2 := false) upd_same (dp_ex g1 hy) (by simp only [tyD]; decide +kernel) (by simp only [tyD]; decide +kernel) ?_
      walk_at "ob"
      refine ⟨(fun h => by cases h), fun _ => ?_⟩
      cases dp_non hy
      walk_at "ob"
      refine ⟨fun _ => ⟨fun _ => ?_, fun h => by cases h⟩, fun h => absurd h (by decide)⟩
      walk_at "ob"
      refine ⟨fun _ => ?_, fun h => absurd h (by decide)⟩
      walk_at "ob"
      refine cw_isi hd (n := "str") (b := false) (dp_ex g1 hx) (by simp only [tyD]; decide +kernel) ?_
      walk_at "ob"
      refine cw_isi hd (n := "str") (b := false) (dp_ex g1 hy) (by simp only [tyD]; decide +kernel) ?_
      walk_at "ob"
      exact fin _ (by decide)
    | str z =>
      cases dp_str hx
      refine cw_isi2 hd (b1 := false) (b2 := false) upd_same (dp_ex g1 hy) (by simp only [tyD]; decide +kernel) (by simp only [tyD]; decide +kernel) ?_
      walk_at "ob"
      refine ⟨(fun h => by cases h), fun _ => ?_⟩
      cases dp_str hy
      walk_at "ob"
      refine ⟨fun h => by simp at h, fun _ => ?_⟩
      walk_at "ob"
      refine cw_isi hd (n := "str") (b := true) (dp_ex g1 hy) (by simp only [tyD]; decide +kernel) ?_
      walk_at "ob"
      refine ⟨fun _ => ?_, (fun h => by cases h)⟩
      walk_at "ob"
      refine ⟨fun _ => ?_, fun h => by simp at h⟩
      walk_at "ob"
      refine cw_isi hd (n := "str") (b := true) (dp_ex g1 hx) (by simp only [tyD]; decide +kernel) ?_
      walk_at "ob"
      refine cw_isi hd (n := "str") (b := true) (dp_ex g1 hy) (by simp only [tyD]; decide +kernel) ?_
      walk_at "ob"
      exact fin _ (by decide)
    | bool b =>
      cases dp_bl hx
      refine cw_isi2 hd (b1 := false) (b2 := false) upd_same (dp_ex g1 hy) (by simp only [tyD]; decide +kernel) (by simp only [tyD]; decide +kernel) ?_
      walk_at "ob"
      refine ⟨(fun h => by cases h), fun _ => ?_⟩
      cases dp_bl hy
      walk_at "ob"
      refine ⟨fun h => by simp at h, fun _ => ?_⟩
      walk_at "ob"
      refine cw_isi hd (n := "str") (b := false) (dp_ex g1 hy) (by simp only [tyD]; decide +kernel) ?_
      walk_at "ob"
      refine ⟨(fun h => by cases h), fun _ => ?_⟩
      walk_at "ob"
      refine cw_isi hd (n := "int") (b := true) (dp_ex g1 hx) (by simp only [tyD]; decide +kernel) ?_
      walk_at "ob"
      refine ⟨fun _ => ?_, (fun h => by cases h)⟩
      walk_at "ob"
      refine cw_isi hd (n := "bool") (b := true) (dp_ex g1 hx) (by simp only [tyD]; decide +kernel) ?_
      walk_at "ob"
      refine cw_isi hd (n := "bool") (b := true) (dp_ex g1 hy) (by simp only [tyD]; decide +kernel) ?_
      walk_at "ob"
      refine ⟨fun _ => ?_, fun h => absurd h (by decide)⟩
      walk_at "ob"
      exact fin _ (by simp)
    | int i =>
      cases dp_int hx
      refine cw_isi2 hd (b1 := false) (b2 := false) upd_same (dp_ex g1 hy) (by simp only [tyD]; decide +kernel) (by simp only [tyD]; decide +kernel) ?_
      walk_at "ob"
      refine ⟨(fun h => by cases h), fun _ => ?_⟩
      cases dp_int hy
      walk_at "ob"
      refine ⟨fun h => by simp at h, fun _ => ?_⟩
      walk_at "ob"
      refine cw_isi hd (n := "str") (b := false) (dp_ex g1 hy) (by simp only [tyD]; decide +kernel) ?_
      walk_at "ob"
      refine ⟨(fun h => by cases h), fun _ => ?_⟩
      walk_at "ob"
      refine cw_isi hd (n := "int") (b := true) (dp_ex g1 hx) (by simp only [tyD]; decide +kernel) ?_
      walk_at "ob"
      refine ⟨fun _ => ?_, (fun h => by cases h)⟩
      walk_at "ob"
      refine cw_isi hd (n := "bool") (b := false) (dp_ex g1 hx) (by simp only [tyD]; decide +kernel) ?_
      walk_at "ob"
      refine cw_isi hd (n := "bool") (b := false) (dp_ex g1 hy) (by simp only [tyD]; decide +kernel) ?_
      walk_at "ob"
      refine ⟨fun _ => ?_, fun h => absurd h (by decide)⟩
      walk_at "ob"
      exact fin _ (by simp)
    | list ds =>
      have hz2 : ds.length ≤ 1000 ∧ ∃ n', n = n' + 1 ∧ ds.all (szD n') = true := by
        cases n with
        | zero => simp [szD] at hz
        | succ n' => simp only [szD, Bool.and_eq_true, decide_eq_true_eq] at hz; exact ⟨hz.1, n', rfl, hz.2⟩
      obtain ⟨hlen, n', rfl, hall⟩ := hz2
      refine cw_isi2 hd (b1 := false) (b2 := true) upd_same (dp_ex g1 hy) (by simp only [tyD]; decide +kernel) (by simp only [tyD]; decide +kernel) ?_
      walk_at "ob"
      refine ⟨fun _ => ?_, (fun h => by cases h)⟩
      walk_at "ob"
      refine ⟨by walk_at "ob_len", fun t2 ht2 => ?_⟩
      have g2 : Ex F (upd (upd F t1 (.tup [.ty "tuple", .ty "list"])) t2 (.tup [.ty "tuple", .ty "list"])) := by walk_at "ob_ex"
      walk_at "ob"
      refine cw_isi2 hd (b1 := false) (b2 := true) upd_same (dp_ex g2 hx) (by simp only [tyD]; decide +kernel) (by simp only [tyD]; decide +kernel) ?_
      walk_at "ob"
      refine ⟨(fun h => by cases h), fun _ => ?_⟩
      walk_at "ob"
      refine cw_isi hd (n := "list") (b := true) (dp_ex g2 hx) (by simp only [tyD]; decide +kernel) ?_
      walk_at "ob"
      refine cw_isi hd (n := "list") (b := true) (dp_ex g2 hy) (by simp only [tyD]; decide +kernel) ?_
      walk_at "ob"
      refine ⟨fun h => by simp at h, fun _ => ?_⟩
      obtain ⟨xa, xs, rfl, hxs, hxd⟩ := dp_lst hx
      obtain ⟨ya, ys, rfl, hys, hyd⟩ := dp_lst hy
      have lx : xs.length = ds.length := dps_len hxd
      have ly : ys.length = ds.length := dps_len hyd
      walk_at "ob"
      refine cw_lenS hd (ys := xs) (Or.inl (g2.sqL hxs)) ?_
      walk_at "ob"
      refine cw_lenS hd (ys := ys) (Or.inl (g2.sqL hys)) ?_
      rw [lx, ly]
      walk_at "ob"
      refine ⟨fun h => by simp at h, fun _ => ?_⟩
      walk_at "ob"
      refine ew_lcR hd ?_
      walk_at "ob"
      refine cw_lenS hd (ys := ys) (Or.inl (g2.sqL hys)) ?_
      rw [ly]
      walk_at "ob"
      refine ⟨(ds.length : Int), rfl, by omega, by omega, fun Dl hDl => ?_⟩
      refine ⟨fun i acc _ G => acc = [] ∧ Ex (upd (upd F t1 (.tup [.ty "tuple", .ty "list"])) t2 (.tup [.ty "tuple", .ty "list"])) G, ⟨rfl, .refl _⟩, ?_, ?_, ?_⟩
      · rintro i acc _ G hi hg ⟨rfl, g⟩
        exact Nat.zero_le _
      · rintro i acc _ G hi hg ⟨rfl, g⟩
        have hd' := hd.jd (D := Dl) (acc := [])
        have hil : i < ds.length := by omega
        obtain ⟨vx, ex1, dx⟩ := dps_get hxd (List.getElem?_eq_getElem hil)
        obtain ⟨vy, ey1, dy⟩ := dps_get hyd (List.getElem?_eq_getElem hil)
        have hgx := g2.trans g
        refine gw_name ⟨rfl, ?_⟩
        walk_at "ob"
        refine ew_call hd' ?_
        walk_at "ob"
        refine rw_ixD hd' (Or.inl (hgx.sqL hxs)) ex1 ?_
        walk_at "ob"
        refine rw_ixD hd' (Or.inl (hgx.sqL hys)) ey1 ?_
        walk_at "ob"
        refine ⟨vx, vy, ds[i], rfl, dp_ex hgx dx, dp_ex hgx dy, List.all_eq_true.mp hall _ (List.getElem_mem hil), fun G2 gG => ?_⟩
        walk_at "ob"
        exact ⟨(fun h => by cases h), fun _ => ⟨rfl, g.trans gG⟩⟩
      · rintro acc _ G hg ⟨rfl, g⟩
        walk_at "ob"
        refine ⟨by walk_at "ob_len", fun e1 he1 => ?_⟩
        refine rw_eqD hd (d := .list []) (e := .list []) (.lst (SqL.of (by walk_at "ob_at")) .nil) (.lst (SqL.of upd_same) .nil) (shaped_low (n := 1) rfl) (shaped_low (n := 1) rfl) ?_
        have he2 : G e1 = none := (Ex.out (F := G) (.refl _) hg).free he1
        exact k _ ((g2.trans g).trans (Ex.new (Ex.out (.refl _) hg) he1))
    | tuple ds =>
      have hz2 : ds.length ≤ 1000 ∧ ∃ n', n = n' + 1 ∧ ds.all (szD n') = true := by
        cases n with
        | zero => simp [szD] at hz
        | succ n' => simp only [szD, Bool.and_eq_true, decide_eq_true_eq] at hz; exact ⟨hz.1, n', rfl, hz.2⟩
      obtain ⟨hlen, n', rfl, hall⟩ := hz2
      refine cw_isi2 hd (b1 := true) (b2 := false) upd_same (dp_ex g1 hy) (by simp only [tyD]; decide +kernel) (by simp only [tyD]; decide +kernel) ?_
      walk_at "ob"
      refine ⟨fun _ => ?_, (fun h => by cases h)⟩
      walk_at "ob"
      refine ⟨by walk_at "ob_len", fun t2 ht2 => ?_⟩
      have g2 : Ex F (upd (upd F t1 (.tup [.ty "tuple", .ty "list"])) t2 (.tup [.ty "tuple", .ty "list"])) := by walk_at "ob_ex"
      walk_at "ob"
      refine cw_isi2 hd (b1 := true) (b2 := false) upd_same (dp_ex g2 hx) (by simp only [tyD]; decide +kernel) (by simp only [tyD]; decide +kernel) ?_
      walk_at "ob"
      refine ⟨(fun h => by cases h), fun _ => ?_⟩
      walk_at "ob"
      refine cw_isi hd (n := "list") (b := false) (dp_ex g2 hx) (by simp only [tyD]; decide +kernel) ?_
      walk_at "ob"
      refine cw_isi hd (n := "list") (b := false) (dp_ex g2 hy) (by simp only [tyD]; decide +kernel) ?_
      walk_at "ob"
      refine ⟨fun h => by simp at h, fun _ => ?_⟩
      obtain ⟨xa, xs, rfl, hxs, hxd⟩ := dp_tup hx
      obtain ⟨ya, ys, rfl, hys, hyd⟩ := dp_tup hy
      have lx : xs.length = ds.length := dps_len hxd
      have ly : ys.length = ds.length := dps_len hyd
      walk_at "ob"
      refine cw_lenS hd (ys := xs) (Or.inr (g2.sqT hxs)) ?_
      walk_at "ob"
      refine cw_lenS hd (ys := ys) (Or.inr (g2.sqT hys)) ?_
      rw [lx, ly]
      walk_at "ob"
      refine ⟨fun h => by simp at h, fun _ => ?_⟩
      walk_at "ob"
      refine ew_lcR hd ?_
      walk_at "ob"
      refine cw_lenS hd (ys := ys) (Or.inr (g2.sqT hys)) ?_
      rw [ly]
      walk_at "ob"
      refine ⟨(ds.length : Int), rfl, by omega, by omega, fun Dl hDl => ?_⟩
      refine ⟨fun i acc _ G => acc = [] ∧ Ex (upd (upd F t1 (.tup [.ty "tuple", .ty "list"])) t2 (.tup [.ty "tuple", .ty "list"])) G, ⟨rfl, .refl _⟩, ?_, ?_, ?_⟩
      · rintro i acc _ G hi hg ⟨rfl, g⟩
        exact Nat.zero_le _
      · rintro i acc _ G hi hg ⟨rfl, g⟩
        have hd' := hd.jd (D := Dl) (acc := [])
        have hil : i < ds.length := by omega
        obtain ⟨vx, ex1, dx⟩ := dps_get hxd (List.getElem?_eq_getElem hil)
        obtain ⟨vy, ey1, dy⟩ := dps_get hyd (List.getElem?_eq_getElem hil)
        have hgx := g2.trans g
        refine gw_name ⟨rfl, ?_⟩
        walk_at "ob"
        refine ew_call hd' ?_
        walk_at "ob"
        refine rw_ixD hd' (Or.inr (hgx.sqT hxs)) ex1 ?_
        walk_at "ob"
        refine rw_ixD hd' (Or.inr (hgx.sqT hys)) ey1 ?_
        walk_at "ob"
        refine ⟨vx, vy, ds[i], rfl, dp_ex hgx dx, dp_ex hgx dy, List.all_eq_true.mp hall _ (List.getElem_mem hil), fun G2 gG => ?_⟩
        walk_at "ob"
        exact ⟨(fun h => by cases h), fun _ => ⟨rfl, g.trans gG⟩⟩
      · rintro acc _ G hg ⟨rfl, g⟩
        walk_at "ob"
        refine ⟨by walk_at "ob_len", fun e1 he1 => ?_⟩
        refine rw_eqD hd (d := .list []) (e := .list []) (.lst (SqL.of (by walk_at "ob_at")) .nil) (.lst (SqL.of upd_same) .nil) (shaped_low (n := 1) rfl) (shaped_low (n := 1) rfl) ?_
        have he2 : G e1 = none := (Ex.out (F := G) (.refl _) hg).free he1
        exact k _ ((g2.trans g).trans (Ex.new (Ex.out (.refl _) hg) he1))
    | dict kv => cases hx
end
end Obr
namespace Obr
open PySem L2 PyProof.Rows Obp
local macro_rules | `(tactic| walk_at "ob_at") => `(tactic| first
  | assumption
  | exact upd_same
  | (refine Eq.trans (upd_ne ?obn) ?obr; (case obn => walk_at "ob_ne"); (case obr => walk_at "ob_at")))
local macro_rules | `(tactic| walk_at "ob_ne") => `(tactic| first
  | assumption
  | (refine Ne.symm ?obs; (case obs => assumption))
  | (refine' ne_of_none (H := ?_) ?obe ?obh; (case obh => assumption); (case obe => walk_at "ob_at"))
  | (refine Ne.symm ?obs; (case obs => (refine' ne_of_none (H := ?_) ?obe ?obh; (case obh => assumption); (case obe => walk_at "ob_at")))))
local macro_rules | `(tactic| walk_at "ob_fr") => `(tactic| first
  | assumption
  | (refine Eq.trans (upd_ne ?obn) ?obr; (case obn => walk_at "ob_ne"); (case obr => walk_at "ob_fr"))
  | (refine Ex.free (G := ?_) (by assumption) ?obh; (case obh => walk_at "ob_fr")))
local macro_rules | `(tactic| walk_at "ob_ex") => `(tactic| first
  | assumption
  | exact Ex.refl _
  | (refine Ex.out ?obg ?obh; (case obh => assumption); (case obg => walk_at "ob_ex"))
  | (refine Ex.new ?obg ?obh; (case obh => assumption); (case obg => walk_at "ob_ex"))
  | (refine Ex.new ?obg ?obh; (case obh => walk_at "ob_fr"); (case obg => walk_at "ob_ex")))
local macro_rules | `(tactic| walk_at "ob_sq") => `(tactic| first
  | assumption
  | (refine SqL.of ?oba; (case oba => walk_at "ob_at"))
  | (refine Ex.sqT (F := ?_) ?obg ?obh; (case obh => assumption); (case obg => walk_at "ob_ex"))
  | (refine Ex.sqL (F := ?_) ?obg ?obh; (case obh => assumption); (case obg => walk_at "ob_ex"))
  | (refine SqT.of ?oba; (case oba => walk_at "ob_at")))
local macro_rules | `(tactic| walk_at "ob_side") => `(tactic| first | exact rfl | assumption | decide | omega | exact ⟨by decide, by decide, by decide⟩ | exact Or.inr ⟨by decide, by decide⟩ | exact Or.inl ⟨by decide, by decide⟩ | exact wide_div (b := 60) (by first | decide | omega) (by first | decide | omega) (by decide) (by decide))
local macro_rules | `(tactic| walk_at "ob1") => `(tactic| first
  | with_reducible refine sw_seq ?_
  | with_reducible refine sw_asg ?_
  | with_reducible refine sw_ret ?_
  | with_reducible refine sw_par ?_
  | with_reducible refine ⟨_, _, rfl, ?_⟩
  | with_reducible refine sw_drop ?_
  | with_reducible refine sw_if ?_
  | with_reducible refine sw_next ?_
  | with_reducible refine gw_name ?_
  | with_reducible refine gw_subL (by assumption) ?_
  | with_reducible refine gsw_cons ?_
  | with_reducible refine gsw_nil ?_
  | with_reducible refine ew_c ?_
  | ((with_reducible refine' ew_var (v := ?_) ?obv ?_); (case obv => exact rfl))
  | ((with_reducible refine ew_next (by assumption) ?obv ?_); (case obv => exact rfl))
  | ((with_reducible refine ew_world (by assumption) ?obv ?_); (case obv => exact rfl))
  | ((with_reducible refine ew_rule (by assumption) ?obv ?_); (case obv => exact rfl))
  | with_reducible refine ew_op ?_
  | with_reducible refine ew_un ?_
  | with_reducible refine ew_dget (by assumption) ?_
  | with_reducible refine uw_I ?_
  | with_reducible refine ppw_nil ?_
  | with_reducible refine ppw_cons ?_
  | with_reducible refine sw_dput (by assumption) ?_
  | with_reducible refine ew_cb ?_
  | with_reducible refine ew_if ?_
  | with_reducible refine ew_slL (by assumption) ?_
  | with_reducible refine ow_some ?_
  | with_reducible refine ow_none ?_
  | with_reducible refine aw_nil ?_
  | with_reducible refine aw_cons ?_
  | with_reducible refine rw_I0 ?_
  | ((with_reducible refine rw_I ?obc ?_); (case obc => walk_at "ob_side"))
  | with_reducible refine rw_isN ?_
  | with_reducible refine rw_notN ?_
  | ((with_reducible refine rw_eq ?obc ?_); (case obc => exact rfl))
  | ((with_reducible refine rw_ne ?obc ?_); (case obc => exact rfl))
  | with_reducible refine cw_max2 ?_
  | with_reducible refine cw_min2 ?_
  | with_reducible refine tw_test ?_
  | with_reducible refine tw_B ?_
  | with_reducible refine tw_not ?_
  | with_reducible refine tw_truB ?_
  | with_reducible refine tw_and ?_
  | with_reducible refine tw_or ?_
  | with_reducible refine ew_and ?_
  | (refine' Exists.intro _ (And.intro (show V.bl _ = V.bl _ from rfl) ?_))
  | (refine' Exists.intro _ (And.intro (show V.int _ = V.int _ from rfl) ?_))
  | ((with_reducible refine' rw_ixL (v := ?_) (xs := ?_) (by assumption) ?obl ?oba ?_); (case obl => walk_at "ob_sq"); (case oba => first | exact rfl | exact at_zero))
  | ((with_reducible refine' rw_ixT (v := ?_) (xs := ?_) (by assumption) ?obl ?oba ?_); (case obl => walk_at "ob_sq"); (case oba => first | exact rfl | exact at_zero))
  | ((with_reducible refine' ew_lst (by assumption) ?_))
  | ((with_reducible refine' ew_tup (by assumption) ?_)))
local macro_rules | `(tactic| walk_at "ob_len") => `(tactic| first | exact Nat.le_of_ble_eq_true rfl | (simp; done) | omega)
local macro_rules | `(tactic| walk_at "ob") => `(tactic| repeat walk_at "ob1")

/-! ### the law's own orders -/
theorem nbeq {a b : Nat} (c : a ≠ b) : (!Nat.beq a b) = true := by
  cases h : Nat.beq a b with
  | false => rfl
  | true => exact absurd (Nat.eq_of_beq_eq_true h) c
theorem nbeq' (a : Nat) : (!Nat.beq a a) = false := by rw [Nat.beq_refl]; rfl
theorem flt_len {k : Nat} {l : List Nat} {x : Nat} (hl : l.length = k + 1) (hn : l.Nodup) (hx : x ∈ l) : (l.filter fun b => !Nat.beq b x).length = k := by
  induction l generalizing k with
  | nil => cases hx
  | cons a l ih =>
    rw [List.nodup_cons] at hn
    rw [List.filter_cons]
    by_cases c : a = x
    · subst c
      have e := nbeq' a
      rw [e]
      have e2 : (l.filter fun b => !Nat.beq b a) = l := List.filter_eq_self.mpr fun b hb => by
        have : b ≠ a := fun z => hn.1 (z ▸ hb)
        exact nbeq this
      rw [if_neg (by decide), e2]
      simpa using hl
    · have e := nbeq c
      rw [if_pos e, List.length_cons]
      have hx' : x ∈ l := by
        rcases List.mem_cons.mp hx with z | z
        · exact absurd z.symm c
        · exact z
      cases k with
      | zero => simp at hl; subst hl; cases hx'
      | succ k => rw [ih (k := k) (by simpa using hl) hn.2 hx']
/-- lists of numbers stand at these -/
inductive Lsts (F : Hp) : List V → List (List Nat) → Prop
  | nil : Lsts F [] []
  | cons {t : Addr} {p : List Nat} {xs : List V} {ps : List (List Nat)} (h : F t = some (.lst (p.map fun k => V.int (k : Nat)))) (r : Lsts F xs ps) : Lsts F (.ref t :: xs) (p :: ps)
theorem Lsts.len {F : Hp} : ∀ {xs ps}, Lsts F xs ps → xs.length = ps.length
  | _, _, .nil => rfl
  | _, _, .cons h r => by rw [List.length_cons, List.length_cons, r.len]
theorem Lsts.ex {F G : Hp} (g : Ex F G) : ∀ {xs ps}, Lsts F xs ps → Lsts G xs ps
  | _, _, .nil => .nil
  | _, _, .cons h r => .cons (g _ _ h) (r.ex g)
theorem Lsts.app {F : Hp} : ∀ {xs ps ys qs}, Lsts F xs ps → Lsts F ys qs → Lsts F (xs ++ ys) (ps ++ qs)
  | _, _, _, _, .nil, h => h
  | _, _, _, _, .cons h r, h2 => .cons h (r.app h2)
theorem Lsts.get {F : Hp} : ∀ {xs ps}, Lsts F xs ps → ∀ {i : Nat} {x : V}, xs[i]? = some x → ∃ t p, x = V.ref t ∧ F t = some (.lst (p.map fun k => V.int (k : Nat))) ∧ ps[i]? = some p
  | _, _, .nil, i, x, h => by simp at h
  | _, _, .cons (t := t) (p := p) h r, 0, x, e => by
    simp at e
    subst e
    exact ⟨t, p, rfl, h, rfl⟩
  | _, _, .cons h r, i + 1, x, e => by
    simp only [List.getElem?_cons_succ] at e ⊢
    exact r.get e
theorem ordF_len : ∀ {k : Nat} {l : List Nat}, l.length = k → l.Nodup → k ≤ 5 → ∀ p ∈ ordF k l, p.length = k
  | 0, _, _, _, _, p, hp => by simp [ordF] at hp; rw [hp]; rfl
  | k + 1, l, hl, hn, h5, p, hp => by
    simp only [ordF, List.mem_flatMap, List.mem_map] at hp
    obtain ⟨x, hx, r, hr, rfl⟩ := hp
    rw [List.length_cons, ordF_len (flt_len hl hn hx) (hn.filter _) (by omega) r hr]
def aOrders (K : PySem.W.Frag) : Nat → List V → Hp → VK → Prop
  | 0 => fun _ _ _ => False
  | n + 1 => fun vs F R => ∃ (a : Addr) (l : List Nat), vs = [.ref a] ∧ SqL K F a (l.map fun k => V.int (k : Nat)) ∧ l.length ≤ n ∧ l.length ≤ 5 ∧ l.Nodup ∧ ∀ (q : Addr) (F' : Hp), Ex F F' → F q = none → (∃ vs, F' q = some (.lst vs) ∧ Lsts F' vs (ordF l.length l)) → R (.ref q) F'
def aCan (K : PySem.W.Frag) : List V → Hp → VK → Prop := fun vs F R => ∃ (wv : V) (w : Wld) (start : Int) (t : Addr) (tn : List Nat), vs = [wv, .int start, .ref t] ∧ Dp K F wv (wldD w) ∧ WldOk w ∧ SqL K F t (tn.map fun k => V.int (k : Nat)) ∧ (∀ k ∈ tn, k < w.ms.length) ∧ 0 ≤ start ∧ R (.bl (decide (leastT (needsW w) tn ≤ start))) F
theorem needL_app {ps qs : List (Int × Int)} {c : Int} : (needL (ps ++ qs)).1 ≤ c ↔ (needL ps).1 ≤ c ∧ (qs.foldl needF (needL ps)).1 ≤ c := by
  unfold needL
  rw [List.foldl_append]
  constructor
  · intro h
    exact ⟨((needF_le _ _ _).mp h).1, h⟩
  · exact fun h => h.2
theorem eqv_nil : ∀ {ds : List PyData}, PyData.eqv (.list ds) (.list []) = ds.isEmpty
  | [] => rfl
  | _ :: _ => by simp [PyData.eqv, PyData.eqvAll]
theorem facN_le {n : Nat} (h5 : n ≤ 5) : facN n ≤ 120 := by
  match n, h5 with
  | 0, _ => decide
  | 1, _ => decide
  | 2, _ => decide
  | 3, _ => decide
  | 4, _ => decide
  | 5, _ => decide
  | k + 6, h => omega
theorem nats_dp {K : PySem.W.Frag} {F : Hp} : ∀ {p : List Nat}, DpAll K F (p.map fun k => V.int (k : Nat)) (p.map fun k => PyData.int (k : Nat))
  | [] => .nil
  | k :: p => .cons (.int _) nats_dp
theorem Lsts.dp {K : PySem.W.Frag} {F : Hp} : ∀ {xs ps}, Lsts F xs ps → DpAll K F xs (ps.map fun p => .list (p.map fun k => PyData.int (k : Nat)))
  | _, _, .nil => .nil
  | _, _, .cons h r => .cons (.lst (SqL.of h) nats_dp) r.dp
theorem ords_shaped {ps : List (List Nat)} : SeqAt.shaped (.list (ps.map fun p => .list (p.map fun k => PyData.int (k : Nat)))) = true := by
  refine shaped_low (n := 2) ?_
  show (ps.map fun p => PyData.list (p.map fun k => PyData.int (k : Nat))).all (lowD 1) = true
  rw [List.all_eq_true]
  intro d hd
  obtain ⟨p, _, rfl⟩ := List.mem_map.mp hd
  show (p.map fun k => PyData.int (k : Nat)).all (lowD 0) = true
  rw [List.all_eq_true]
  intro d hd
  obtain ⟨k, _, rfl⟩ := List.mem_map.mp hd
  rfl
theorem nats_sz {p : List Nat} {n : Nat} (h : p.length = n) (h5 : n ≤ 5) : szD 2 (.list (p.map fun k => PyData.int (k : Nat))) = true := by
  show (decide _ && List.all _ _) = true
  rw [Bool.and_eq_true]
  refine ⟨decide_eq_true (by rw [List.length_map]; omega), ?_⟩
  rw [List.all_eq_true]
  intro d hd
  obtain ⟨k, _, rfl⟩ := List.mem_map.mp hd
  rfl
theorem permL_len {n : Nat} (h5 : n ≤ 5) : (permL n).length = facN n := by
  match n, h5 with
  | 0, _ => decide +kernel
  | 1, _ => decide +kernel
  | 2, _ => decide +kernel
  | 3, _ => decide +kernel
  | 4, _ => decide +kernel
  | 5, _ => decide +kernel
  | k + 6, h => omega
theorem filt_first {α : Type} {f : α → Bool} {d : α} : ∀ {L : List α} {i : Nat}, i < L.length → f (L.getD i d) = true → (∀ j, j < i → f (L.getD j d) = false) → (L.filter f)[0]? = some (L.getD i d)
  | [], i, hi, _, _ => by simp at hi
  | a :: L, 0, _, h, _ => by
    have h' : f a = true := h
    rw [List.filter_cons_of_pos h']
    rfl
  | a :: L, i + 1, hi, h, hn => by
    have h0 : f a = false := hn 0 (by omega)
    rw [List.filter_cons_of_neg (by rw [h0]; decide)]
    exact filt_first (L := L) (i := i) (by simpa using hi) h fun j hj => hn (j + 1) (by omega)
theorem filt_none {α : Type} {f : α → Bool} {d : α} {L : List α} (h : ∀ j, j < L.length → f (L.getD j d) = false) : L.filter f = [] := by
  rw [List.filter_eq_nil_iff]
  intro x hx hf
  obtain ⟨i, hi⟩ := List.getElem?_of_mem hx
  have hl := (List.getElem?_eq_some_iff.mp hi).1
  have := h i hl
  rw [List.getD_eq_getElem?_getD, hi] at this
  rw [show (some x).getD d = x from rfl, hf] at this
  cases this
theorem exists_min (f : Nat → Int) : ∀ n : Nat, 0 < n → ∃ i, i < n ∧ ∀ j, j < n → f i ≤ f j
  | 0, h => by omega
  | 1, _ => ⟨0, by omega, fun j hj => by have : j = 0 := by omega
                                         rw [this]; exact Int.le_refl _⟩
  | n + 2, _ => by
    obtain ⟨i, hi, h⟩ := exists_min f (n + 1) (by omega)
    by_cases c : f i ≤ f (n + 1)
    · exact ⟨i, by omega, fun j hj => by
        by_cases e : j = n + 1
        · rw [e]; exact c
        · exact h j (by omega)⟩
    · exact ⟨n + 1, by omega, fun j hj => by
        by_cases e : j = n + 1
        · rw [e]; exact Int.le_refl _
        · have := h j (by omega); omega⟩
section
variable {P : Program} {w : World} {K : PySem.W.Frag} {mg : Str → Option Value} {base : Heap}

abbrev s__law_can : Stmt := top 28
def N__law_can : List Str := ["_law_world_here", "_law_start", "_law_turn", "_law_there", "_law_k", "_law_draw", "_law_long", "_law_back"]
theorem sc__law_can : FnScope N__law_can ["_law_world_here", "_law_start", "_law_turn"] (defScope s__law_can) := ⟨rfl, rfl, rfl, by decide +kernel, rfl, by decide +kernel, by decide +kernel⟩
theorem ok__law_can {f : Addr} {fd : FuncData}  (Fn : Fun K "_law_can" "_law_can" s__law_can f fd) (B : Blt mg)  : FnOk P w K mg base CX0 1 f fd ["_law_world_here", "_law_start", "_law_turn"] (LS (aCan K)) := by
  refine Fn.ok sc__law_can (fun vs H Q E h => ?_) (fun cdv A outer s H vs Q E hr h => ?_)
  · obtain ⟨J, F, R, hd, j, h, _⟩ := h
    obtain ⟨wv, w, start, t, tn, rfl, _⟩ := h
    rfl
  · have nd := sc__law_can.nd
    obtain ⟨J, F, R, hd, j, h, q⟩ := h
    obtain ⟨wv, w, start, t, tn, rfl, dw, hw, ht, hb, hs0, k⟩ := h
    refine ⟨_, (pss_cons (ps_set (i := 3) nd rfl (Or.inl rfl) (pv 1))
      (pss_cons (ps_for PassesOwn.never rfl (pi_list (pv 2)) (pg_name (i := 4) nd rfl (Or.inl rfl)) (pss_one (ps_for PassesOwn.never rfl (pi_tup (pe_ix ix_tup (pe_ix ix_tup (pv 0) pe_int (fun _ _ => rfl)) (pv 4) (fun _ _ => rfl))) (pg_tup rfl (pgs_cons (pg_name (i := 5) nd rfl (Or.inl rfl)) (pgs_cons (pg_name (i := 6) nd rfl (Or.inl rfl)) (pgs_cons (pg_name (i := 7) nd rfl (Or.inl rfl)) pgs_nil)))) (pss_cons (ps_if (pt_cmpR op_gt (pv 5) (pv 3) (nomark _)) (pss_one (ps_ret pe_bl)) pss_nil)
      (pss_one (ps_set (i := 3) nd rfl (Or.inl rfl) (pe_op op_add (pe_op op_sub (pv 3) (pv 5)) (pv 7))))))))
      (pss_one (ps_ret pe_bl)))), ?_⟩
    refine LS.body j q ?_
    obtain ⟨wa, xs, rfl, lx, dxs⟩ := dp_tup dw
    obtain ⟨sv, mv, rfl, ds, dm⟩ := dps2 dxs
    obtain ⟨ma, zs, rfl, lz, dzs⟩ := dp_tup dm
    have hok := needsW_ok hw
    have hgd : ∀ kk ∈ tn, ∃ ss, w.ms[kk]? = some ss ∧ (needsW w).getD kk (0, 0) = needS ss ∧ (∀ p ∈ stepsN ss, PairOk p) := fun kk hk => by
      have hl := hb kk hk
      refine ⟨w.ms[kk], List.getElem?_eq_getElem hl, ?_, stepsN_ok (hw.st _ (List.getElem_mem hl))⟩
      rw [List.getD_eq_getElem?_getD, needsW, List.getElem?_map, List.getElem?_eq_getElem hl]
      rfl
    refine sw_seq (sw_asg (ew_var rfl (gw_name ?_)))
    refine sw_seq ?_
    refine sw_mid (fun σ _ G => (∃ (x3 x4 x5 x6 x7 : Option V), σ = [some (.ref wa), some (.int start), some (.ref t), x3, x4, x5, x6, x7]) ∧ F = G ∧ leastT (needsW w) tn ≤ start) ?_ ?_
    · refine sw_forL hd (ew_var rfl ?_)
      refine ⟨t, _, fun i σ _ G => (∃ (x4 x5 x6 x7 : Option V), σ = [some (.ref wa), some (.int start), some (.ref t), some (.int (start - (((tn.take i).map fun k => ((needsW w).getD k (0, 0)).2).sum))), x4, x5, x6, x7]) ∧ F = G ∧ leastT (needsW w) (tn.take i) ≤ start, rfl, ht, ⟨⟨none, none, none, none, by simp; rfl⟩, rfl, hs0⟩, ?_, ?_, ?_⟩
      · rintro i σ _ G hi ⟨_, rfl, _⟩
        exact ht
      · rintro i x σ _ G hi ⟨⟨x4, x5, x6, x7, rfl⟩, rfl, hle⟩
        rw [List.getElem?_map] at hi
        obtain ⟨kk, hkk, rfl⟩ := Option.map_eq_some_iff.mp hi
        obtain ⟨ss, hss, hgs, hpk⟩ := hgd kk (List.mem_of_getElem? hkk)
        obtain ⟨xv, hxv, dxv⟩ := dps_get dzs (show (w.ms.map macD)[kk]? = some (macD ss) by rw [List.getElem?_map, hss]; rfl)
        obtain ⟨sa, ys, rfl, ly, dys⟩ := dp_tup dxv
        have hyl : ys.length = ss.length := by have := dps_len dys; simpa using this
        refine gw_name ?_
        generalize hth : start - (((tn.take i).map fun k => ((needsW w).getD k (0, 0)).2).sum) = there
        have hcat : ∀ c : Int, (needL (((tn.take i).map fun k => (needsW w).getD k (0, 0)) ++ [needS ss])).1 ≤ c ↔ leastT (needsW w) (tn.take i) ≤ c ∧ start - there + (needS ss).1 ≤ c := fun c => by
          rw [needL_app]
          have e2 : (needL ((tn.take i).map fun k => (needsW w).getD k (0, 0))).2 = start - there := by
            rw [needL_snd, List.map_map, ← hth]
            show ((tn.take i).map fun k => ((needsW w).getD k (0, 0)).2).sum = _
            omega
          show _ ≤ c ∧ mx _ ((needL _).2 + _) ≤ c ↔ _
          rw [mx_le, e2]
          constructor
          · rintro ⟨h1, h2, h3⟩; exact ⟨h1, h3⟩
          · rintro ⟨h1, h3⟩; exact ⟨h1, h1, h3⟩
        have etk : (tn.take (i + 1)).map (fun k => (needsW w).getD k (0, 0)) = ((tn.take i).map fun k => (needsW w).getD k (0, 0)) ++ [needS ss] := by
          rw [List.take_succ, hkk, List.map_append, ← hgs]
          rfl
        have hth0 : 0 ≤ there := by
          have h1 := (needL_le _ _).mp hle
          rcases List.eq_nil_or_concat (tn.take i) with e | ⟨qs, q, e⟩
          · rw [e] at hth; simp at hth; omega
          · rw [List.concat_eq_append] at e
            have h2 := h1.2 qs.length ((needsW w).getD q (0, 0)) (by rw [e, List.map_append]; simp)
            have hq : q ∈ tn := List.mem_of_mem_take (by rw [e]; simp)
            obtain ⟨s2, _, hg2, hp2⟩ := hgd q hq
            have hpo := needL_bounds hp2
            have h3 : ((needsW w).getD q (0, 0)).2 ≤ ((needsW w).getD q (0, 0)).1 := by
              rw [hg2]
              show (needL _).2 ≤ (needL _).1
              rw [needL_snd]
              exact hpo.2.1
            rw [e] at hth h2
            simp only [List.map_append, List.map_cons, List.map_nil, List.sum_append, List.sum_cons, List.sum_nil] at hth
            rw [List.map_append, List.map_cons, List.map_nil, List.take_append_of_le_length (by simp), List.take_of_length_le (by simp), List.map_map] at h2
            have e5 : ((fun x : Int × Int => x.2) ∘ fun k => (needsW w).getD k (0, 0)) = fun k => ((needsW w).getD k (0, 0)).2 := rfl
            rw [e5] at h2
            omega
        refine sw_mid (fun σ _ G => (∃ (x5 x6 x7 : Option V), σ = [some (.ref wa), some (.int start), some (.ref t), some (.int (there - ((stepsN ss).map (·.2)).sum)), some (.int (kk : Nat)), x5, x6, x7]) ∧ F = G ∧ (needS ss).1 ≤ there) ?_ ?_
        · refine sw_forT hd (ew_op (ew_op (ew_var rfl (ew_c (rw_ixT hd lx (atI_nat rfl) ?_)))))
          refine ew_var rfl (rw_ixT hd lz (atI_nat hxv) ?_)
          refine ⟨sa, ys, fun m σ _ G => (∃ (x5 x6 x7 : Option V), σ = [some (.ref wa), some (.int start), some (.ref t), some (.int (there - (((stepsN ss).take m).map (·.2)).sum)), some (.int (kk : Nat)), x5, x6, x7]) ∧ F = G ∧ (needL ((stepsN ss).take m)).1 ≤ there, rfl, ly, ⟨⟨x5, x6, x7, by simp⟩, rfl, hth0⟩, ?_, ?_, ?_⟩
          · rintro m σ _ G hm ⟨_, rfl, _⟩
            exact ly
          · rintro m x σ _ G hm ⟨⟨x5, x6, x7, rfl⟩, rfl, hlm⟩
            obtain ⟨d, hd1, hd2⟩ := dps_get' dys hm
            rw [List.getElem?_map] at hd1
            obtain ⟨st, hst, rfl⟩ := Option.map_eq_some_iff.mp hd1
            obtain ⟨ta, us, rfl, lu, dus⟩ := dp_tup hd2
            obtain ⟨v1, v2, v3, rfl, e1, e2, e3⟩ := dps3 dus
            cases dp_int e1
            cases dp_int e2
            cases dp_int e3
            have hstn : (stepsN ss)[m]? = some (st.draw, st.draw - st.back) := by rw [stepsN, List.getElem?_map, hst]; rfl
            have etm : (stepsN ss).take (m + 1) = (stepsN ss).take m ++ [(st.draw, st.draw - st.back)] := by rw [List.take_succ, hstn]; rfl
            have hcm : ∀ c : Int, (needL ((stepsN ss).take (m + 1))).1 ≤ c ↔ (needL ((stepsN ss).take m)).1 ≤ c ∧ (((stepsN ss).take m).map (·.2)).sum + st.draw ≤ c := fun c => by
              rw [etm, needL_app]
              show _ ≤ c ∧ mx _ ((needL _).2 + _) ≤ c ↔ _
              rw [mx_le, needL_snd]
              constructor
              · rintro ⟨h1, h2, h3⟩; exact ⟨h1, h3⟩
              · rintro ⟨h1, h3⟩; exact ⟨h1, h1, h3⟩
            refine gw_tup hd ⟨ta, _, rfl, lu, rfl, gsw_cons (gw_name (gsw_cons (gw_name (gsw_cons (gw_name (gsw_nil ?_))))))⟩
            refine sw_seq (sw_if (tw_test (ew_op (ew_var rfl (ew_var rfl (rw_I0 ⟨_, rfl, fun hb2 => ?_, fun hb2 => ?_⟩))))))
            · have hlt := of_decide_eq_true hb2
              refine sw_ret (ew_c ?_)
              have hno : ¬ leastT (needsW w) tn ≤ start := fun hle2 => by
                have h4 := turn_goes hle2 hkk
                rw [hgs, hth] at h4
                have h5 := ((needL_le _ _).mp h4).2 m _ hstn
                simp only at h5
                omega
              rw [decide_eq_false hno] at k
              exact k
            · have hge := of_decide_eq_false hb2
              refine sw_next (sw_asg (ew_op (ew_op (ew_var rfl (ew_var rfl (rw_I0 (ew_var rfl (rw_I0 (gw_name ?_)))))))))
              refine ⟨⟨some (.int st.draw), some (.int st.long), some (.int st.back), ?_⟩, rfl, (hcm there).mpr ⟨hlm, by omega⟩⟩
              have e9 : there - (((stepsN ss).take m).map (·.2)).sum - st.draw + st.back = there - (((stepsN ss).take (m + 1)).map (·.2)).sum := by
                rw [etm, List.map_append, List.sum_append]
                simp
                omega
              rw [← e9]
              rfl
          · rintro σ _ G ⟨⟨x5, x6, x7, rfl⟩, rfl, hlm⟩
            have e8 : (stepsN ss).take ys.length = stepsN ss := List.take_of_length_le (by rw [stepsN, List.length_map, hyl]; exact Nat.le_refl _)
            rw [e8] at hlm ⊢
            exact ⟨⟨_, _, _, rfl⟩, rfl, hlm⟩
        · rintro σ _ G ⟨⟨x5, x6, x7, rfl⟩, rfl, hlm⟩
          refine ⟨⟨some (.int (kk : Nat)), x5, x6, x7, ?_⟩, rfl, ?_⟩
          · have e9 : there - ((stepsN ss).map (·.2)).sum = start - (((tn.take (i + 1)).map fun k => ((needsW w).getD k (0, 0)).2).sum) := by
              have e10 : ((tn.take (i + 1)).map fun k => ((needsW w).getD k (0, 0)).2) = ((tn.take i).map fun k => ((needsW w).getD k (0, 0)).2) ++ [(needS ss).2] := by
                rw [List.take_succ, hkk, List.map_append, ← hgs]
                rfl
              rw [e10, List.sum_append, ← hth]
              have e11 : (needS ss).2 = ((stepsN ss).map (·.2)).sum := needL_snd _
              simp [e11]
              omega
            rw [← e9]
          · unfold leastT
            rw [etk]
            exact (hcat start).mpr ⟨hle, by omega⟩
      · rintro σ _ G ⟨⟨x4, x5, x6, x7, rfl⟩, rfl, hle⟩
        rw [List.length_map, List.take_length] at hle
        exact ⟨⟨_, _, _, _, _, rfl⟩, rfl, hle⟩
    · rintro σ _ G ⟨⟨x3, x4, x5, x6, x7, rfl⟩, rfl, hle⟩
      rw [decide_eq_true hle] at k
      exact sw_ret (ew_c k)

abbrev s__law_orders : Stmt := top 27
def N__law_orders : List Str := ["_law_some", "_law_found", "_law_one", "_law_rest", "_law_two"]
theorem sc__law_orders : FnScope N__law_orders ["_law_some"] (defScope s__law_orders) := ⟨rfl, rfl, rfl, by decide +kernel, rfl, by decide +kernel, by decide +kernel⟩
theorem ok__law_orders {f : Addr} {fd : FuncData} (Fn : Fun K "_law_orders" "_law_orders" s__law_orders f fd) (B : Blt mg) (C_law_orders : Cal K mg "_law_orders" f fd ["_law_some"]) :
    ∀ n, FnOk P w K mg base CX0 n f fd ["_law_some"] (LS (aOrders K n))
  | 0 => ⟨fun _ _ _ _ ⟨_, _, _, _, _, h, _⟩ => h.elim, fun _ _ _ _ _ _ _ _ _ _ _ _ _ ⟨_, _, _, _, _, h, _⟩ => h.elim⟩
  | n + 1 => by
    have ih := ok__law_orders Fn B C_law_orders n
    refine Fn.ok sc__law_orders (fun vs H Q E h => ?_) (fun cdv A outer s H vs Q E hr h => ?_)
    · obtain ⟨J, F, R, hd, j, ⟨a, l, rfl, _⟩, _⟩ := h
      rfl
    have nd := sc__law_orders.nd
    obtain ⟨J, F, R, hd, j, ⟨a, l, rfl, hl, hln, hl5, hnd, k⟩, q⟩ := h
    refine ⟨_, (pss_cons (ps_if (pt_cmpR (op_eqD (by exact hr.units)) (pv 0) (pe_lst pa_nil) (nomark _)) (pss_one (ps_ret (pe_lst (pa_cons (pe_lst pa_nil) pa_nil)))) pss_nil)
      (pss_cons (ps_set (i := 1) nd rfl (Or.inl rfl) (pe_lst pa_nil))
      (pss_cons (ps_for PassesOwn.never rfl (pi_list (pv 0)) (pg_name (i := 2) nd rfl (Or.inr rfl)) (pss_one (ps_set (i := 1) nd rfl (Or.inl rfl) (pe_op op_cat (pv 1) (pe_lc (own := [("_law_rest", 3)]) (te := (tOp rCat (tLst (tCons (tVar 2) tNil)) (tVar 3))) (tt := tYes) (by rfl) nd (pi_list (pe_call ih (by exact hr.mono (Nat.le_refl _)) (by rfl) C_law_orders.g C_law_orders.k C_law_orders.a .nil pass0 (pa_cons (pe_lc (own := [("_law_two", 4)]) (te := (tVar 4)) (tt := (tTest (tOp rNe (tVar 4) (tVar 2)))) (by rfl) nd (pi_list (pv 0)) (blkOk_by (own := [("_law_two", 4)]) (N := N__law_orders) (sc := defScope s__law_orders) (by decide +kernel)) (fun _ _ _ _ _ => (pg_name (i := 4) nd rfl (Or.inl rfl))) (fun _ _ _ _ _ => pts_one (pt_cmpR op_ne (pv 4) (pv 2) (nomark _))) (fun _ _ _ _ _ => (pv 4))) pa_nil))) (blkOk_by (own := [("_law_rest", 3)]) (N := N__law_orders) (sc := defScope s__law_orders) (by decide +kernel)) (fun _ _ _ _ _ => (pg_name (i := 3) nd rfl (Or.inl rfl))) (fun _ _ _ _ _ => pts_nil) (fun _ _ _ _ _ => (pe_op op_cat (pe_lst (pa_cons (pv 2) pa_nil)) (pv 3))))))))
      (pss_one (ps_ret (pv 1)))))), ?_⟩
    refine LS.body j q ?_
    have eints : (l.map fun k => V.int (k : Nat)) = ((l.map fun k => ((k : Nat) : Int)).map V.int) := by rw [List.map_map]; rfl
    refine sw_seq (sw_if (tw_test (ew_op (ew_var rfl (ew_lst hd (aw_nil ⟨by decide, fun e1 he1 => ?_⟩))))))
    have g1 : Ex F (upd F e1 (.lst [])) := Ex.new (.refl _) he1
    refine rw_eqD hd (d := .list ((l.map fun k => ((k : Nat) : Int)).map PyData.int)) (e := .list []) (.lst (by rw [← eints]; exact g1.sqL hl) dps_ints) (.lst (SqL.of upd_same) .nil) (shaped_low (n := 1) low_ints) (shaped_low (n := 1) rfl) ?_
    rw [eqv_nil]
    refine ⟨_, rfl, fun hb => ?_, fun hb => ?_⟩
    · have hl0 : l = [] := by
        cases l with
        | nil => rfl
        | cons x l => simp at hb
      subst hl0
      refine sw_ret (ew_lst hd (aw_cons (ew_lst hd (aw_nil ⟨by decide, fun e2 he2 => aw_nil ⟨by walk_at "ob_len", fun e3 he3 => ?_⟩⟩))))
      refine k e3 _ (Ex.new (Ex.new g1 he2) he3) ((Ex.new g1 he2).free he3) ⟨[.ref e2], upd_same, ?_⟩
      exact .cons (by rw [upd_ne (ne_of_none upd_same he3)]; exact upd_same) .nil
    obtain ⟨kk, hkk⟩ : ∃ kk, l.length = kk + 1 := by
      cases l with
      | nil => simp at hb
      | cons x l => exact ⟨l.length, rfl⟩
    obtain ⟨n', rfl⟩ : ∃ n', n = n' + 1 := ⟨n - 1, by omega⟩
    refine sw_next (sw_seq (sw_asg (ew_lst hd (aw_nil ⟨by decide, fun fa hfa => gw_name ?_⟩))))
    have g2 : Ex F (upd (upd F e1 (.lst [])) fa (.lst [])) := Ex.new g1 hfa
    have hf120 : ∀ (m : Nat) (l2 : List Nat), m ≤ 5 → l2.length ≤ 5 → (ordF m l2).length ≤ 3125 := fun m l2 hm hl2 => by
      have h : ∀ (m : Nat) (l2 : List Nat), l2.length ≤ 5 → (ordF m l2).length ≤ 5 ^ m := fun m => by
        induction m with
        | zero => intro l2 _; exact Nat.le_refl 1
        | succ m ih2 =>
          intro l2 h2
          rw [ordF, List.length_flatMap]
          have h3 : ∀ (xs : List Nat), (xs.map fun x => ((ordF m (l2.filter fun b => !Nat.beq b x)).map fun r => x :: r).length).sum ≤ xs.length * 5 ^ m := fun xs => by
            induction xs with
            | nil => simp
            | cons x xs ihx =>
              rw [List.map_cons, List.sum_cons, List.length_cons, Nat.succ_mul, List.length_map]
              have := ih2 (l2.filter fun b => !Nat.beq b x) (Nat.le_trans (List.length_filter_le _ _) h2)
              omega
          refine Nat.le_trans (h3 l2) ?_
          rw [Nat.pow_succ, Nat.mul_comm]
          exact Nat.mul_le_mul_left _ h2
      refine Nat.le_trans (h m l2 hl2) ?_
      match m, hm with
      | 0, _ => decide
      | 1, _ => decide
      | 2, _ => decide
      | 3, _ => decide
      | 4, _ => decide
      | 5, _ => decide
      | k + 6, h => omega
    refine sw_seq ?_
    refine sw_mid (fun σ _ G => ∃ (fa : Addr) (vs : List V) (x2 x3 x4 : Option V), σ = [some (.ref a), some (.ref fa), x2, x3, x4] ∧ Ex F G ∧ F fa = none ∧ G fa = some (.lst vs) ∧ Lsts G vs (ordF l.length l)) ?_ ?_
    · refine sw_forL hd (ew_var rfl ?_)
      refine ⟨a, _, fun i σ _ G => ∃ (fa : Addr) (vs : List V) (x2 x3 x4 : Option V), σ = [some (.ref a), some (.ref fa), x2, x3, x4] ∧ Ex F G ∧ F fa = none ∧ G fa = some (.lst vs) ∧ Lsts G vs ((l.take i).flatMap fun x => (ordF kk (l.filter fun b => !Nat.beq b x)).map fun r => x :: r), rfl, g2.sqL hl, ⟨fa, [], none, none, none, rfl, g2, g1.free hfa, upd_same, .nil⟩, ?_, ?_, ?_⟩
      · rintro i σ _ G hi ⟨fb, vs, x2, x3, x4, rfl, g, _, _, _⟩
        exact g.sqL hl
      · rintro i x σ _ G hi ⟨fb, vs, x2, x3, x4, rfl, g, hf0, hfb, hLs⟩
        rw [List.getElem?_map] at hi
        obtain ⟨y, hy, rfl⟩ := Option.map_eq_some_iff.mp hi
        have hyl := List.mem_of_getElem? hy
        have hfl := flt_len hkk hnd hyl
        refine gw_name (sw_asg (ew_op (ew_var rfl (ew_lcL hd (ew_call hd (aw_cons (ew_lcL hd (ew_var rfl ?_))))))))
        refine ⟨a, _, rfl, g.sqL hl, by rw [List.length_map]; omega, fun Dl hDl => ?_⟩
        refine ⟨fun j acc _ G2 => G = G2 ∧ acc = ((l.take j).filter fun b => !Nat.beq b y).map fun k => V.int (k : Nat), ⟨rfl, rfl⟩, ?_, ?_, ?_⟩
        · rintro j acc _ G2 hj hg ⟨rfl, rfl⟩
          refine ⟨g.sqL hl, ?_⟩
          rw [List.length_map]
          exact Nat.le_trans (List.length_filter_le _ _) (List.length_take_le _ _)
        · rintro j acc x _ G2 hj hg ⟨rfl, rfl⟩
          have hd' := hd.jd (D := Dl) (acc := ((l.take j).filter fun b => !Nat.beq b y).map fun k => V.int (k : Nat))
          rw [List.getElem?_map] at hj
          obtain ⟨z, hz, rfl⟩ := Option.map_eq_some_iff.mp hj
          refine gw_name ⟨rfl, tw_test (ew_op (ew_var rfl (ew_var rfl (rw_ne rfl ?_))))⟩
          have eT : l.take (j + 1) = l.take j ++ [z] := by rw [List.take_succ, hz]; rfl
          by_cases c : z = y
          · subst c
            rw [decide_eq_true rfl]
            refine ⟨_, rfl, (fun w => by cases w), fun _ => ⟨rfl, ?_⟩⟩
            rw [eT, List.filter_append, List.filter_cons_of_neg (p := fun b => !Nat.beq b z) (by rw [nbeq']; decide)]
            simp
          · rw [decide_eq_false (fun e => c (by injection e with e1; exact Int.ofNat.inj e1))]
            refine ⟨_, rfl, fun _ => ew_var rfl ⟨rfl, ?_⟩, (fun w => by cases w)⟩
            rw [eT, List.filter_append, List.filter_cons_of_pos (p := fun b => !Nat.beq b y) (nbeq c), List.map_append]
            rfl
        rintro acc _ G2 hg ⟨rfl, rfl⟩
        rw [List.length_map, List.take_length]
        have gD : Ex G (upd G Dl (.lst ((l.filter fun b => !Nat.beq b y).map fun k => V.int (k : Nat)))) := Ex.new (.refl _) hg
        refine aw_nil ⟨Dl, l.filter fun b => !Nat.beq b y, rfl, SqL.of upd_same, by omega, by omega, hnd.filter _, fun qa G3 g3 hqa hL3 => ?_⟩
        obtain ⟨ws, hws, hLw⟩ := hL3
        rw [hfl] at hLw
        have g03 := gD.trans g3
        have hwl : ws.length ≤ 3125 := by rw [hLw.len]; exact hf120 _ _ (by omega) (Nat.le_trans (List.length_filter_le _ _) hl5)
        refine ⟨qa, ws, rfl, SqL.of hws, by omega, fun El hEl => ?_⟩
        refine ⟨fun j acc _ G4 => Ex G3 G4 ∧ Lsts G4 acc (((ordF kk (l.filter fun b => !Nat.beq b y)).take j).map fun r => y :: r), ⟨.refl _, .nil⟩, ?_, ?_, ?_⟩
        · rintro j acc _ G4 hj hg4 ⟨g4, h4⟩
          refine ⟨SqL.of (g4 _ _ hws), ?_⟩
          rw [h4.len, List.length_map]
          exact List.length_take_le _ _
        · rintro j acc x _ G4 hj hg4 ⟨g4, h4⟩
          have hd' := hd.jd (D := El) (acc := acc)
          obtain ⟨t, p, rfl, ht, hp⟩ := hLw.get hj
          have hpl : p.length = kk := ordF_len hfl (hnd.filter _) (by omega) p (List.mem_of_getElem? hp)
          refine gw_name ⟨rfl, tw_yes ⟨fun _ => ?_, (fun w => by cases w)⟩⟩
          refine ew_op (ew_lst hd' (aw_cons (ew_var rfl (aw_nil ⟨by walk_at "ob_len", fun u1 hu1 => ?_⟩))))
          refine ew_var rfl (rw_cat hd' (l := u1) (b := t) (xs := [.int (y : Nat)]) (zs := p.map fun k => V.int (k : Nat)) upd_same ((Ex.new g4 hu1) _ _ ht) (by rw [List.length_map]; simp; omega) fun u2 hu2 => ?_)
          have g5 : Ex G4 (upd (upd G4 u1 (.lst [.int (y : Nat)])) u2 (.lst ([V.int (y : Nat)] ++ p.map fun k => V.int (k : Nat)))) := Ex.new (Ex.new (.refl _) hu1) hu2
          refine ⟨g4.trans g5, ?_⟩
          rw [List.take_succ, hp, List.map_append]
          exact (h4.ex g5).app (.cons upd_same .nil)
        rintro acc _ G4 hg4 ⟨g4, h4⟩
        have ewl : ws.length = (ordF kk (l.filter fun b => !Nat.beq b y)).length := hLw.len
        rw [ewl, List.take_length] at h4
        have gE : Ex G4 (upd G4 El (.lst acc)) := Ex.new (.refl _) hg4
        have gAll := g03.trans (g4.trans gE)
        have hvl : vs.length ≤ 5 * 3125 := by
          rw [hLs.len, List.length_flatMap]
          have h3 : ∀ (xs : List Nat), (xs.map fun x => ((ordF kk (l.filter fun b => !Nat.beq b x)).map fun r => x :: r).length).sum ≤ xs.length * 3125 := fun xs => by
            induction xs with
            | nil => simp
            | cons x xs ihx =>
              rw [List.map_cons, List.sum_cons, List.length_cons, Nat.succ_mul, List.length_map]
              have := hf120 kk (l.filter fun b => !Nat.beq b x) (by omega) (Nat.le_trans (List.length_filter_le _ _) hl5)
              omega
          refine Nat.le_trans (h3 _) (Nat.mul_le_mul_right _ ?_)
          exact Nat.le_trans (List.length_take_le' _ _) hl5
        have hal : acc.length ≤ 3125 := by rw [h4.len, List.length_map, ← ewl]; exact hwl
        refine rw_cat hd (l := fb) (b := El) (gAll _ _ hfb) upd_same (by omega) fun u3 hu3 => gw_name ?_
        have g6 : Ex G (upd (upd G4 El (.lst acc)) u3 (.lst (vs ++ acc))) := gAll.trans (Ex.new (.refl _) hu3)
        refine ⟨u3, _, _, _, _, rfl, g.trans g6, (g.trans gAll).free hu3, upd_same, ?_⟩
        rw [List.take_succ, hy, List.flatMap_append]
        refine (hLs.ex g6).app ?_
        simp only [Option.toList_some, List.flatMap_cons, List.flatMap_nil, List.append_nil]
        exact h4.ex (gE.trans (Ex.new (.refl _) hu3))
      · rintro σ _ G ⟨fb, vs, x2, x3, x4, rfl, g, hf0, hfb, hLs⟩
        rw [List.length_map, List.take_length] at hLs
        refine ⟨fb, vs, x2, x3, x4, rfl, g, hf0, hfb, ?_⟩
        rw [hkk]
        exact hLs
    · rintro σ _ G ⟨fb, vs, x2, x3, x4, rfl, g, hf0, hfb, hLs⟩
      exact sw_ret (ew_var rfl (k fb G g hf0 ⟨vs, hfb, hLs⟩))
end
end Obr
namespace Obr
open PySem L2 PyProof.Rows Obp
local macro_rules | `(tactic| walk_at "ob_wat") => `(tactic| first
  | with_reducible refine WAt.g_store (by assumption) ?_
  | with_reducible refine WAt.g_machines (by assumption) ?_
  | with_reducible refine WAt.g_rule (by assumption) ?_
  | with_reducible refine WAt.g_level (by assumption) ?_
  | with_reducible refine WAt.g_at (by assumption) ?_
  | with_reducible refine WAt.g_over (by assumption) ?_
  | with_reducible refine WAt.g_since (by assumption) ?_
  | with_reducible refine WAt.g_last (by assumption) ?_
  | with_reducible refine WAt.g_beat (by assumption) ?_
  | with_reducible refine WAt.g_done (by assumption) ?_
  | with_reducible refine WAt.g_waits (by assumption) ?_
  | with_reducible refine WAt.g_ends (by assumption) ?_
  | ((with_reducible refine' WAt.r_at_ (t := ?_) (m := ?_) ?obw ?obd ?obm ?_); (case obw => assumption); (case obd => assumption); (case obm => assumption))
  | ((with_reducible refine' WAt.r_over (t := ?_) (m := ?_) ?obw ?obd ?obm ?_); (case obw => assumption); (case obd => assumption); (case obm => assumption))
  | ((with_reducible refine' WAt.r_since (t := ?_) (m := ?_) ?obw ?obd ?obm ?_); (case obw => assumption); (case obd => assumption); (case obm => assumption))
  | ((with_reducible refine' WAt.r_done (t := ?_) (m := ?_) ?obw ?obd ?obm ?_); (case obw => assumption); (case obd => assumption); (case obm => assumption))
  | ((with_reducible refine' WAt.r_waits (t := ?_) (m := ?_) ?obw ?obd ?obm ?_); (case obw => assumption); (case obd => assumption); (case obm => assumption))
  | ((with_reducible refine' WAt.r_right ?obw ?obd ?_); (case obw => assumption); (case obd => assumption))
  | ((with_reducible refine' WAt.r_pass ?obw ?obd ?_); (case obw => assumption); (case obd => assumption)))
local macro_rules | `(tactic| walk_at "ob_at") => `(tactic| first
  | assumption
  | exact upd_same
  | (refine Eq.trans (upd_ne ?obn) ?obr; (case obn => walk_at "ob_ne"); (case obr => walk_at "ob_at")))
local macro_rules | `(tactic| walk_at "ob_ne") => `(tactic| first
  | assumption
  | (refine Ne.symm ?obs; (case obs => assumption))
  | (refine' ne_of_none (H := ?_) ?obe ?obh; (case obh => assumption); (case obe => walk_at "ob_at"))
  | (refine Ne.symm ?obs; (case obs => (refine' ne_of_none (H := ?_) ?obe ?obh; (case obh => assumption); (case obe => walk_at "ob_at")))))
local macro_rules | `(tactic| walk_at "ob_fr") => `(tactic| first
  | assumption
  | (refine Eq.trans (upd_ne ?obn) ?obr; (case obn => walk_at "ob_ne"); (case obr => walk_at "ob_fr"))
  | (refine Ex.free (G := ?_) (by assumption) ?obh; (case obh => walk_at "ob_fr")))
local macro_rules | `(tactic| walk_at "ob_ex") => `(tactic| first
  | assumption
  | exact Ex.refl _
  | (refine Ex.out ?obg ?obh; (case obh => assumption); (case obg => walk_at "ob_ex"))
  | (refine Ex.new ?obg ?obh; (case obh => assumption); (case obg => walk_at "ob_ex"))
  | (refine Ex.new ?obg ?obh; (case obh => walk_at "ob_fr"); (case obg => walk_at "ob_ex")))
local macro_rules | `(tactic| walk_at "ob_sq") => `(tactic| first
  | assumption
  | (refine SqL.of ?oba; (case oba => walk_at "ob_at"))
  | (refine Ex.sqT (F := ?_) ?obg ?obh; (case obh => assumption); (case obg => walk_at "ob_ex"))
  | (refine Ex.sqL (F := ?_) ?obg ?obh; (case obh => assumption); (case obg => walk_at "ob_ex"))
  | (refine SqT.of ?oba; (case oba => walk_at "ob_at")))
local macro_rules | `(tactic| walk_at "ob_side") => `(tactic| first | exact rfl | assumption | decide | omega | exact ⟨by decide, by decide, by decide⟩ | exact Or.inr ⟨by decide, by decide⟩ | exact Or.inl ⟨by decide, by decide⟩ | exact wide_div (b := 60) (by first | decide | omega) (by first | decide | omega) (by decide) (by decide))
local macro_rules | `(tactic| walk_at "ob1") => `(tactic| first
  | walk_at "ob_wat"
  | with_reducible refine sw_seq ?_
  | with_reducible refine sw_asg ?_
  | with_reducible refine sw_ret ?_
  | with_reducible refine sw_par ?_
  | with_reducible refine ⟨_, _, rfl, ?_⟩
  | with_reducible refine sw_drop ?_
  | with_reducible refine sw_if ?_
  | with_reducible refine sw_next ?_
  | with_reducible refine gw_name ?_
  | with_reducible refine gw_subL (by assumption) ?_
  | with_reducible refine gsw_cons ?_
  | with_reducible refine gsw_nil ?_
  | with_reducible refine ew_c ?_
  | ((with_reducible refine' ew_var (v := ?_) ?obv ?_); (case obv => exact rfl))
  | ((with_reducible refine ew_next (by assumption) ?obv ?_); (case obv => exact rfl))
  | ((with_reducible refine ew_world (by assumption) ?obv ?_); (case obv => exact rfl))
  | ((with_reducible refine ew_rule (by assumption) ?obv ?_); (case obv => exact rfl))
  | with_reducible refine ew_op ?_
  | with_reducible refine ew_un ?_
  | with_reducible refine ew_dget (by assumption) ?_
  | with_reducible refine uw_I ?_
  | with_reducible refine ppw_nil ?_
  | with_reducible refine ppw_cons ?_
  | with_reducible refine sw_dput (by assumption) ?_
  | with_reducible refine ew_cb ?_
  | with_reducible refine ew_if ?_
  | with_reducible refine ew_slL (by assumption) ?_
  | with_reducible refine ow_some ?_
  | with_reducible refine ow_none ?_
  | with_reducible refine aw_nil ?_
  | with_reducible refine aw_cons ?_
  | with_reducible refine rw_I0 ?_
  | ((with_reducible refine rw_I ?obc ?_); (case obc => walk_at "ob_side"))
  | with_reducible refine rw_isN ?_
  | with_reducible refine rw_notN ?_
  | ((with_reducible refine rw_eq ?obc ?_); (case obc => exact rfl))
  | ((with_reducible refine rw_ne ?obc ?_); (case obc => exact rfl))
  | with_reducible refine cw_max2 ?_
  | with_reducible refine cw_min2 ?_
  | with_reducible refine tw_test ?_
  | with_reducible refine tw_B ?_
  | with_reducible refine tw_not ?_
  | with_reducible refine tw_truB ?_
  | with_reducible refine tw_and ?_
  | with_reducible refine tw_or ?_
  | with_reducible refine ew_and ?_
  | (refine' Exists.intro _ (And.intro (show V.bl _ = V.bl _ from rfl) ?_))
  | (refine' Exists.intro _ (And.intro (show V.int _ = V.int _ from rfl) ?_))
  | ((with_reducible refine' rw_ixL (v := ?_) (xs := ?_) (by assumption) ?obl ?oba ?_); (case obl => walk_at "ob_sq"); (case oba => first | exact rfl | exact at_zero))
  | ((with_reducible refine' rw_ixT (v := ?_) (xs := ?_) (by assumption) ?obl ?oba ?_); (case obl => walk_at "ob_sq"); (case oba => first | exact rfl | exact at_zero))
  | ((with_reducible refine' ew_lst (by assumption) ?_))
  | ((with_reducible refine' ew_tup (by assumption) ?_)))
local macro_rules | `(tactic| walk_at "ob_len") => `(tactic| first | exact Nat.le_of_ble_eq_true rfl | (simp; done) | omega)
local macro_rules | `(tactic| walk_at "ob") => `(tactic| repeat walk_at "ob1")

/-! ### the law -/
def aLaw (K : PySem.W.Frag) : List V → Hp → VK → Prop := fun vs F R => ∃ (a : Addr) (ns : List Int), vs = [.ref a] ∧ SqL K F a (ns.map V.int) ∧ ns.length ≤ 63 ∧ ∀ F', R (.bl true) F'
section
variable {P : Program} {w : World} {K : PySem.W.Frag} {mg : Str → Option Value} {base : Heap}

abbrev s_law : Stmt := top 29
def N_law : List Str := ["_law_script", "_law_h", "_law_turn", "_law_world_here", "_law_cap", "_law_start", "_law_refill", "_law_machines", "_law_every", "_law_good", "_law_some", "_law_level", "_law_one"]
theorem sc_law : FnScope N_law ["_law_script"] (defScope s_law) := ⟨rfl, rfl, rfl, by decide +kernel, rfl, by decide +kernel, by decide +kernel⟩
theorem ok_law {f : Addr} {fd : FuncData} {f1 f2 f3 f4 f5 f6 f7 f8 : Addr} {fd1 fd2 fd3 fd4 fd5 fd6 fd7 fd8 : FuncData} (Fn : Fun K "law" "law" s_law f fd) (B : Blt mg) (C_law_mix : Cal K mg "_law_mix" f1 fd1 ["_law_script", "_law_seed"]) (G_law_mix : FnOk P w K mg base CX0 1 f1 fd1 ["_law_script", "_law_seed"] (LS (aMix K))) (C_law_world : Cal K mg "_law_world" f2 fd2 ["_law_h", "_law_most", "_law_cap"]) (G_law_world : FnOk P w K mg base CX0 2 f2 fd2 ["_law_h", "_law_most", "_law_cap"] (LN (aWorld K))) (C_law_next : Cal K mg "_law_next" f3 fd3 ["_law_h", "_law_many"]) (G_law_next : FnOk P w K mg base CX0 1 f3 fd3 ["_law_h", "_law_many"] (LN aNext)) (C_law_orders : Cal K mg "_law_orders" f4 fd4 ["_law_some"]) (G_law_orders : FnOk P w K mg base CX0 6 f4 fd4 ["_law_some"] (LS (aOrders K 6))) (C_law_can : Cal K mg "_law_can" f5 fd5 ["_law_world_here", "_law_start", "_law_turn"]) (G_law_can : FnOk P w K mg base CX0 1 f5 fd5 ["_law_world_here", "_law_start", "_law_turn"] (LS (aCan K))) (C_law_alike : Cal K mg "_law_alike" f6 fd6 ["_law_found", "_law_due"]) (G_law_alike : FnOk P w K mg base CX0 3 f6 fd6 ["_law_found", "_law_due"] (LS (aAlike K 3))) (Corder : Cal K mg "order" f7 fd7 ["world"]) (Gorder : FnOk P w K mg base CX0 4 f7 fd7 ["world"] (LS (aOrder K))) (Cleast_start : Cal K mg "least_start" f8 fd8 ["world"]) (Gleast_start : FnOk P w K mg base CX0 4 f8 fd8 ["world"] (LS (aLeastStart K))) : FnOk P w K mg base CX0 7 f fd ["_law_script"] (LS (aLaw K)) := by
  refine Fn.ok sc_law (fun vs H Q E h => ?_) (fun cdv A outer s H vs Q E hr h => ?_)
  · obtain ⟨J, F, R, hd, j, h, _⟩ := h
    obtain ⟨a, ns, rfl, _⟩ := h
    rfl
  · have nd := sc_law.nd
    obtain ⟨J, F, R, hd, j, h, q⟩ := h
    obtain ⟨a, ns, rfl, hl, hn, k⟩ := h
    refine ⟨_, (pss_cons (ps_set (i := 1) nd rfl (Or.inl rfl) (pe_call G_law_mix (by exact hr.mono (by decide)) (by rfl) C_law_mix.g C_law_mix.k C_law_mix.a .nil pass0 (pa_cons (pv 0) (pa_cons pe_int pa_nil))))
      (pss_cons (ps_for PassesOwn.never rfl (pi_range1 rfl B.range (pa_cons pe_int pa_nil)) (pg_name (i := 2) nd rfl (Or.inl rfl)) (pss_cons (ps_set (i := 3) nd rfl (Or.inr rfl) (pe_call G_law_world (by exact hr.mono (by decide)) (by rfl) C_law_world.g C_law_world.k C_law_world.a .nil pass0 (pa_cons (pv 1) (pa_cons pe_int (pa_cons (pe_ix ix_list (pe_lst (pa_cons pe_int (pa_cons pe_int pa_nil))) (pe_call G_law_next (by exact hr.mono (by decide)) (by rfl) C_law_next.g C_law_next.k C_law_next.a .nil pass0 (pa_cons (pv 1) (pa_cons pe_int pa_nil))) (fun _ _ => rfl)) pa_nil)))))
      (pss_cons (ps_asg (pv 3) (pg_tup rfl (pgs_cons (pg_tup rfl (pgs_cons (pg_name (i := 4) nd rfl (Or.inl rfl)) (pgs_cons (pg_name (i := 5) nd rfl (Or.inr rfl)) (pgs_cons (pg_name (i := 6) nd rfl (Or.inl rfl)) pgs_nil)))) (pgs_cons (pg_name (i := 7) nd rfl (Or.inl rfl)) pgs_nil))))
      (pss_cons (ps_set (i := 8) nd rfl (Or.inl rfl) (pe_call G_law_orders (by exact hr.mono (by decide)) (by rfl) C_law_orders.g C_law_orders.k C_law_orders.a .nil pass0 (pa_cons (pe_listRg rfl (by rfl) B.list (prg_1 (by rfl) B.range (pe_callB call_len_seq (by rfl) B.len (by decide +kernel) (pa_cons (pv 7) pa_nil)))) pa_nil)))
      (pss_cons (ps_setLc (i := 9) rfl nd rfl rfl (sw_true rfl rfl rfl (by decide +kernel)) (own := [("_law_one", 12)]) (te := (tVar 12)) (tt := (tB (tCall (LS (aCan K)) [] E0 (tCons (tVar 3) (tCons (tVar 5) (tCons (tVar 12) tNil)))))) (pi_list (pv 8)) (blkOk_by (own := [("_law_one", 12)]) (N := N_law) (sc := defScope s_law) (by decide +kernel)) (fun _ _ _ _ _ => (pg_name (i := 12) nd rfl (Or.inl rfl))) (fun _ _ _ _ _ => pts_one (pt_val (pe_call G_law_can (by exact hr.mono (by decide)) (by rfl) C_law_can.g C_law_can.k C_law_can.a .nil pass0 (pa_cons (pv 3) (pa_cons (pv 5) (pa_cons (pv 12) pa_nil)))))) (fun _ _ _ _ _ => (pv 12)))
      (pss_cons (ps_if (pt_not (pt_val (pe_call G_law_alike (by exact hr.mono (by decide)) (by rfl) C_law_alike.g C_law_alike.k C_law_alike.a .nil pass0 (pa_cons (pe_call Gorder (by exact hr.mono (by decide)) (by rfl) Corder.g Corder.k Corder.a .nil pass0 (pa_cons (pv 3) pa_nil)) (pa_cons (pe_ifExp (pt_cmpR (op_neD (by exact hr.units)) (pv 9) (pe_lst pa_nil) (nomark _)) (pe_ix ix_list (pv 9) pe_int (fun _ _ => rfl)) pe_non) pa_nil))))) (pss_one (ps_ret pe_bl)) pss_nil)
      (pss_cons (ps_set (i := 10) nd rfl (Or.inl rfl) (pe_lst pa_nil))
      (pss_cons (ps_for PassesOwn.never rfl (pi_range1 rfl B.range (pa_cons (pe_op op_add (pv 4) pe_int) pa_nil)) (pg_name (i := 11) nd rfl (Or.inr rfl)) (pss_one (ps_if (PW.pt (pw_and (pt_cmpR (op_eqD (by exact hr.units)) (pv 10) (pe_lst pa_nil) (nomark _)) (pw_and1 (pt_cmpR (op_neD (by exact hr.units)) (pe_lc (own := [("_law_one", 12)]) (te := (tVar 12)) (tt := (tB (tCall (LS (aCan K)) [] E0 (tCons (tVar 3) (tCons (tVar 11) (tCons (tVar 12) tNil)))))) (by rfl) nd (pi_list (pv 8)) (blkOk_by (own := [("_law_one", 12)]) (N := N_law) (sc := defScope s_law) (by decide +kernel)) (fun _ _ _ _ _ => (pg_name (i := 12) nd rfl (Or.inl rfl))) (fun _ _ _ _ _ => pts_one (pt_val (pe_call G_law_can (by exact hr.mono (by decide)) (by rfl) C_law_can.g C_law_can.k C_law_can.a .nil pass0 (pa_cons (pv 3) (pa_cons (pv 11) (pa_cons (pv 12) pa_nil)))))) (fun _ _ _ _ _ => (pv 12))) (pe_lst pa_nil) (nomark _))))) (pss_one (ps_expr (pe_bm PySem.F.plainAttrs_list PySem.F.slot_list_append PySem.F.type_list_append mt_append (pv 10) (pa_cons (pv 11) pa_nil)))) pss_nil)))
      (pss_cons (ps_if (pt_not (pt_val (pe_call G_law_alike (by exact hr.mono (by decide)) (by rfl) C_law_alike.g C_law_alike.k C_law_alike.a .nil pass0 (pa_cons (pe_call Gleast_start (by exact hr.mono (by decide)) (by rfl) Cleast_start.g Cleast_start.k Cleast_start.a .nil pass0 (pa_cons (pv 3) pa_nil)) (pa_cons (pe_ifExp (pt_cmpR (op_neD (by exact hr.units)) (pv 10) (pe_lst pa_nil) (nomark _)) (pe_ix ix_list (pv 10) pe_int (fun _ _ => rfl)) pe_non) pa_nil))))) (pss_one (ps_ret pe_bl)) pss_nil)
      (pss_one (ps_if (pt_cmpR (op_neD (by exact hr.units)) (pv 10) (pe_lst pa_nil) (nomark _)) (pss_one (ps_if (PW.pt (pw_or (pt_cmpR op_isN (pe_call Gorder (by exact hr.mono (by decide)) (by rfl) Corder.g Corder.k Corder.a .nil pass0 (pa_cons (pe_tup (pa_cons (pe_tup (pa_cons (pv 4) (pa_cons (pe_ix ix_list (pv 10) pe_int (fun _ _ => rfl)) (pa_cons (pv 6) pa_nil)))) (pa_cons (pv 7) pa_nil))) pa_nil)) pe_non (nomark _)) (pw_or1 (pt_cmpR op_ne (pe_cmpR (op_eqD (by exact hr.units)) (pv 9) (pe_lst pa_nil) (nomark _)) (pe_cmpR op_lt (pv 5) (pe_ix ix_list (pv 10) pe_int (fun _ _ => rfl)) (nomark _)) (nomark _))))) (pss_one (ps_ret pe_bl)) pss_nil)) pss_nil)))))))))))
      (pss_one (ps_ret pe_bl)))), ?_⟩
    refine LS.body j q ?_
    refine sw_seq (sw_asg (ew_call hd ?_))
    walk_at "ob"
    refine ⟨a, ns, 23, rfl, hl, by decide, by decide, fun m c hh m0 m1 hc hh0 hne => gw_name ?_⟩
    refine sw_hide hc hh0 hne m0 m1 hn (fun _ F => k F) ?_
    have hdj := hd.hj (h := hh) (c := c)
    refine sw_seq ?_
    refine sw_mid (fun σ _ _ => ∃ (x2 x3 x4 x5 x6 x7 x8 x9 x10 x11 x12 : Option V), σ = [some (.ref a), some (.ref hh), x2, x3, x4, x5, x6, x7, x8, x9, x10, x11, x12]) ?_ ?_
    · refine sw_forR1 ?_
      walk_at "ob"
      refine ⟨5, fun i σ _ _ => ∃ (x2 x3 x4 x5 x6 x7 x8 x9 x10 x11 x12 : Option V), σ = [some (.ref a), some (.ref hh), x2, x3, x4, x5, x6, x7, x8, x9, x10, x11, x12], rfl, by decide, by decide, ⟨_, _, _, _, _, _, _, _, _, _, _, rfl⟩, ?_, ?_⟩
      · rintro i σ _ F2 hi ⟨x2, x3, x4, x5, x6, x7, x8, x9, x10, x11, x12, rfl⟩
        refine gw_name ?_
        refine sw_seq (sw_asg ?_)
        walk_at "ob"
        refine ⟨by decide, by decide, ?_⟩
        refine ew_op (ew_lst hdj ?_)
        walk_at "ob"
        refine ⟨by walk_at "ob_len", fun p1 hp1 => ?_⟩
        walk_at "ob"
        refine ⟨by decide, by decide, fun rr r0 r1 => ?_⟩
        obtain ⟨cap, hcap, c0, c1⟩ : ∃ cap : Int, atI [V.int 9, V.int 30] rr = some (V.int cap) ∧ 1 ≤ cap ∧ cap ≤ 99 := by
          have : rr = 0 ∨ rr = 1 := by omega
          rcases this with rfl | rfl
          · exact ⟨9, rfl, by decide, by decide⟩
          · exact ⟨30, rfl, by decide, by decide⟩
        refine rw_ixL hdj (SqL.of upd_same) hcap ?_
        refine ⟨cap, rfl, c0, c1, fun wv F3 wd g1 dw hw hwc hwn hws => gw_name ?_⟩
        obtain ⟨wa, wxs, rfl, lx, dxs⟩ := dp_tup dw
        obtain ⟨sv, mv, rfl, dsv, dmv⟩ := dps2 dxs
        obtain ⟨sa, ys, rfl, ly, dys⟩ := dp_tup dsv
        obtain ⟨v1, v2, v3, rfl, d1, d2, d3⟩ := dps3 dys
        cases dp_int d1
        cases dp_int d2
        cases dp_int d3
        refine sw_seq (sw_asg (ew_var rfl ?_))
        refine gw_tup hdj ⟨wa, _, rfl, lx, rfl, gsw_cons (gw_tup hdj ⟨sa, _, rfl, ly, rfl, gsw_cons (gw_name (gsw_cons (gw_name (gsw_cons (gw_name (gsw_nil ?_))))))⟩)⟩
        refine gsw_cons (gw_name (gsw_nil ?_))
        obtain ⟨ma, zs, rfl, lz, dzs⟩ := dp_tup dmv
        have hzl : zs.length = wd.ms.length := by have := dps_len dzs; simpa using this
        have hm5 := hw.m
        have hf0 : 0 < facN wd.ms.length := facN_pos hm5
        have hpl := permL_len hm5
        have hnl : (needsW wd).length = wd.ms.length := by unfold needsW; rw [List.length_map]
        refine sw_seq (sw_asg (ew_call hdj (aw_cons (ew_listRg hdj (ew_cb (aw_cons (ew_var rfl (aw_nil (cw_lenS hdj (Or.inr lz) ⟨wd.ms.length, by rw [hzl], by omega, fun rl hrl => aw_nil ?_⟩)))))))))
        refine ⟨rl, List.range wd.ms.length, rfl, SqL.of upd_same, by rw [List.length_range]; omega, by rw [List.length_range]; exact hm5, List.nodup_range, fun ev F4 g2 hev hE => gw_name ?_⟩
        obtain ⟨es, hes, hLs⟩ := hE
        rw [List.length_range] at hLs
        have hLs' : Lsts F4 es (permL wd.ms.length) := hLs
        have g4 : Ex F3 F4 := (Ex.new (.refl _) hrl).trans g2
        have dW4 := dp_ex g4 dw
        have hel : es.length = facN wd.ms.length := by rw [hLs'.len, hpl]
        have hf120 : facN wd.ms.length ≤ 120 := facN_le hm5
        have hidx : ∀ p ∈ permL wd.ms.length, ∀ k ∈ p, k < wd.ms.length := fun p hp k hk => by
          obtain ⟨j, hj⟩ := List.getElem?_of_mem hp
          have hjl := (List.getElem?_eq_some_iff.mp hj).1
          have e : idxP wd.ms.length j = p := by unfold idxP; rw [List.getD_eq_getElem?_getD, hj]; rfl
          exact idx_lt hm5 (by rw [← hpl]; exact hjl) k (by rw [e]; exact hk)
        -- what can
        have hcan : ∀ (G : Hp) (start : Int) (t : Addr) (p : List Nat), Ex F4 G → 0 ≤ start → p ∈ permL wd.ms.length → G t = some (.lst (p.map fun k => V.int (k : Nat))) → ∀ R : VK, R (.bl (decide (leastT (needsW wd) p ≤ start))) G → aCan K [.ref wa, .int start, .ref t] G R := fun G start t p g h0 hp ht R hR =>
          ⟨.ref wa, wd, start, t, p, rfl, dp_ex g dW4, hw, SqL.of ht, hidx p hp, h0, hR⟩
        refine sw_seq (sw_asg (ew_lcL hdj (ew_var rfl ?_)))
        refine ⟨ev, es, rfl, SqL.of hes, by omega, fun gl hgl => ?_⟩
        refine ⟨fun j acc _ G => F4 = G ∧ Lsts F4 acc (((permL wd.ms.length).take j).filter fun p => decide (leastT (needsW wd) p ≤ wd.start)), ⟨rfl, .nil⟩, ?_, ?_, ?_⟩
        · rintro j acc _ G hj hg ⟨rfl, h⟩
          refine ⟨SqL.of hes, ?_⟩
          rw [h.len]
          exact Nat.le_trans (List.length_filter_le _ _) (List.length_take_le _ _)
        · rintro j acc x _ G hj hg ⟨rfl, h⟩
          have hd' := hdj.jd (D := gl) (acc := acc)
          obtain ⟨t, p, rfl, ht, hp⟩ := hLs'.get hj
          have hpm := List.mem_of_getElem? hp
          refine gw_name ⟨rfl, tw_B (ew_call hd' (aw_cons (ew_var rfl (aw_cons (ew_var rfl (aw_cons (ew_var rfl (aw_nil (hcan _ _ t p (.refl _) hw.s0 hpm ht _ ?_)))))))))⟩
          refine ⟨_, rfl, fun hb => ?_, fun hb => ⟨rfl, ?_⟩⟩
          · refine ew_var rfl ⟨rfl, ?_⟩
            rw [List.take_succ, hp, List.filter_append]
            refine h.app ?_
            show Lsts _ _ (List.filter _ [p])
            rw [List.filter_cons_of_pos (p := fun p => decide (leastT (needsW wd) p ≤ wd.start)) hb]
            exact .cons ht .nil
          · rw [List.take_succ, hp, List.filter_append]
            show Lsts _ _ (_ ++ List.filter _ [p])
            rw [List.filter_cons_of_neg (p := fun p => decide (leastT (needsW wd) p ≤ wd.start)) (by rw [hb]; decide)]
            simpa using h
        rintro acc _ G hg ⟨rfl, h⟩
        rw [hel, ← hpl, List.take_length] at h
        have gG : Ex F4 (upd F4 gl (.lst acc)) := Ex.new (.refl _) hg
        have hG := h.ex gG
        have hgl5 : (upd F4 gl (.lst acc)) gl = some (.lst acc) := upd_same
        have dW5 := dp_ex gG dW4
        have lz5 := (g4.trans gG).sqT lz
        have dz5 := dps_ex (g4.trans gG) dzs
        have hes5 := gG _ _ hes
        have hLs5 := hLs'.ex gG
        have hcan5 : ∀ (G : Hp) (start : Int) (t : Addr) (p : List Nat), Ex (upd F4 gl (.lst acc)) G → 0 ≤ start → p ∈ permL wd.ms.length → G t = some (.lst (p.map fun k => V.int (k : Nat))) → ∀ R : VK, R (.bl (decide (leastT (needsW wd) p ≤ start))) G → aCan K [.ref wa, .int start, .ref t] G R := fun G start t p g => hcan G start t p (gG.trans g)
        generalize upd F4 gl (.lst acc) = F5 at hG hgl5 dW5 lz5 dz5 hes5 hLs5 hcan5
        have hal : acc.length ≤ 120 := by rw [hG.len]; exact Nat.le_trans (List.length_filter_le _ _) (by omega)
        obtain ⟨im, him, hmin⟩ := exists_min (fun j => leastT (needsW wd) (idxP wd.ms.length j)) (facN wd.ms.length) hf0
        obtain ⟨mm, hmm⟩ : ∃ mm, mm = leastT (needsW wd) (idxP wd.ms.length im) := ⟨_, rfl⟩
        have hmin' : ∀ j, j < facN wd.ms.length → mm ≤ leastT (needsW wd) (idxP wd.ms.length j) := fun j hj => by rw [hmm]; exact hmin j hj
        have hmm0 : 0 ≤ mm := by rw [hmm]; exact needL_ge0 _
        have hgD : ∀ j, (permL wd.ms.length).getD j [] = idxP wd.ms.length j := fun _ => rfl
        -- which orders there are at a level
        have hfe : ∀ lev : Int, ((permL wd.ms.length).filter fun p => decide (leastT (needsW wd) p ≤ lev)) = [] ↔ lev < mm := fun lev => by
          constructor
          · intro e
            by_cases c : lev < mm
            · exact c
            · exfalso
              have hin : idxP wd.ms.length im ∈ (permL wd.ms.length).filter fun p => decide (leastT (needsW wd) p ≤ lev) := by
                rw [List.mem_filter]
                refine ⟨?_, decide_eq_true (by rw [← hmm]; omega)⟩
                unfold idxP
                rw [List.getD_eq_getElem?_getD, List.getElem?_eq_getElem (by rw [hpl]; exact him)]
                exact List.getElem_mem _
              rw [e] at hin
              cases hin
          · intro hlt
            refine filt_none (d := []) fun j hj => ?_
            rw [hgD]
            have := hmin' j (by rw [← hpl]; exact hj)
            exact decide_eq_false (by omega)
        have hemp : acc = [] ↔ wd.start < mm := by
          rw [← hfe]
          constructor
          · intro e; rw [e] at hG; cases hh2 : ((permL wd.ms.length).filter fun p => decide (leastT (needsW wd) p ≤ wd.start)) with
            | nil => rfl
            | cons x l => rw [hh2] at hG; have := hG.len; simp at this
          · intro e; rw [e] at hG; have := hG.len; exact List.eq_nil_of_length_eq_zero (by simpa using this)
        refine gw_name ?_
        refine sw_seq ?_
        refine sw_mid (fun σ _ G => σ = [some (.ref a), some (.ref hh), some (.int i), some (.ref wa), some (.int wd.cap), some (.int wd.start), some (.int wd.refill), some (.ref ma), some (.ref ev), some (.ref gl), x10, x11, x12] ∧ Ex F5 G) ?_ ?_
        · refine sw_if (tw_not (tw_B (ew_call hdj (aw_cons (ew_call hdj (aw_cons (ew_var rfl (aw_nil ?_))))))))
          refine ⟨.ref wa, wd, rfl, dW5, hw, ?_, ?_⟩
          · rintro i2 q F6 hi2 hle2 hno g6 hq e
            have hfirst := filt_first (f := fun p => decide (leastT (needsW wd) p ≤ wd.start)) (d := []) (L := permL wd.ms.length) (i := i2) (by rw [hpl]; exact hi2) (decide_eq_true hle2) (fun j hj => by rw [hgD]; exact decide_eq_false (by have := hno j hj; omega))
            rw [hgD] at hfirst
            have hne0 : acc ≠ [] := fun e0 => by
              have := hemp.mp e0
              have h3 := hmin' i2 hi2
              omega
            obtain ⟨y0, ay, rfl⟩ : ∃ y0 ay, acc = y0 :: ay := by
              cases acc with
              | nil => exact absurd rfl hne0
              | cons y0 ay => exact ⟨_, _, rfl⟩
            obtain ⟨t, p, rfl, ht, hp⟩ := hG.get (i := 0) rfl
            rw [hfirst] at hp
            obtain rfl : idxP wd.ms.length i2 = p := Option.some.inj hp
            refine aw_cons (ew_if (tw_test (ew_op (ew_var rfl (ew_lst hdj (aw_nil ⟨by walk_at "ob_len", fun u1 hu1 => ?_⟩))))))
            have g7 : Ex F6 (upd F6 u1 (.lst [])) := Ex.new (.refl _) hu1
            have g57 := g6.trans g7
            refine rw_neD hdj (d := .list (((permL wd.ms.length).filter fun p => decide (leastT (needsW wd) p ≤ wd.start)).map fun p => .list (p.map fun k => PyData.int (k : Nat)))) (e := .list []) (.lst (SqL.of (g57 _ _ hgl5)) ((hG.ex g57).dp)) (.lst (SqL.of upd_same) .nil) ords_shaped (shaped_low (n := 1) rfl) ?_
            rw [eqv_nil]
            have hemp2 : ((permL wd.ms.length).filter fun p => decide (leastT (needsW wd) p ≤ wd.start)).isEmpty = false := by
              cases hh2 : ((permL wd.ms.length).filter fun p => decide (leastT (needsW wd) p ≤ wd.start)) with
              | nil => rw [hh2] at hfirst; cases hfirst
              | cons x l => rfl
            refine ⟨_, rfl, fun _ => ?_, fun hb => by rw [List.isEmpty_map, hemp2] at hb; cases hb⟩
            refine ew_op (ew_var rfl (ew_c (rw_ixL hdj (SqL.of (g57 _ _ hgl5)) at_zero (aw_nil ?_))))
            refine ⟨.ref q, .ref t, .list ((idxP wd.ms.length i2).map fun k => PyData.int (k : Nat)), rfl, .lst (SqL.of (g7 _ _ e)) nats_dp, .lst (SqL.of (g57 _ _ ht)) nats_dp, nats_sz (idx_len hm5 hi2) hm5, fun F8 g8 => ?_⟩
            exact ⟨_, rfl, (fun z => by cases z), fun _ => sw_next ⟨rfl, g57.trans g8⟩⟩
          · intro hall2 F6 g6
            have he0 : acc = [] := hemp.mpr (by rw [hmm]; exact hall2 im him)
            refine aw_cons (ew_if (tw_test (ew_op (ew_var rfl (ew_lst hdj (aw_nil ⟨by walk_at "ob_len", fun u1 hu1 => ?_⟩))))))
            have g7 : Ex F6 (upd F6 u1 (.lst [])) := Ex.new (.refl _) hu1
            have g57 := g6.trans g7
            have hfn := (hfe wd.start).mpr (by rw [hmm]; exact hall2 im him)
            refine rw_neD hdj (d := .list []) (e := .list []) (.lst (SqL.of (by rw [g57 _ _ hgl5, he0])) .nil) (.lst (SqL.of upd_same) .nil) (shaped_low (n := 1) rfl) (shaped_low (n := 1) rfl) ?_
            refine ⟨_, rfl, (fun z => by cases z), fun _ => ew_c (aw_nil ?_)⟩
            refine ⟨.non, .non, .none, rfl, .non, .non, rfl, fun F8 g8 => ?_⟩
            exact ⟨_, rfl, (fun z => by cases z), fun _ => sw_next ⟨rfl, g57.trans g8⟩⟩
        rintro σ _ G6 ⟨rfl, g6⟩
        refine sw_seq (sw_asg (ew_lst hdj (aw_nil ⟨by walk_at "ob_len", fun sl hsl => gw_name ?_⟩)))
        have o0 := (own_nil (F := G6)).more (o := .lst []) hsl
        have hwc1 := hw.c1
        refine sw_seq ?_
        refine sw_mid (fun σ _ G => ∃ x11 : Option V, σ = [some (.ref a), some (.ref hh), some (.int i), some (.ref wa), some (.int wd.cap), some (.int wd.start), some (.int wd.refill), some (.ref ma), some (.ref ev), some (.ref gl), some (.ref sl), x11, x12] ∧ Own G6 G [(sl, .lst (if mm ≤ wd.cap then [.int mm] else []))]) ?_ ?_
        · refine sw_forR1 (aw_cons (ew_op (ew_var rfl (ew_c (rw_I0 (aw_nil ?_))))))
          refine ⟨wd.cap + 1, fun j σ _ G => ∃ x11 : Option V, σ = [some (.ref a), some (.ref hh), some (.int i), some (.ref wa), some (.int wd.cap), some (.int wd.start), some (.int wd.refill), some (.ref ma), some (.ref ev), some (.ref gl), some (.ref sl), x11, x12] ∧ Own G6 G [(sl, .lst (if mm < j then [.int mm] else []))], rfl, by have := hw.c0; omega, by omega, ⟨_, rfl, by rw [if_neg (by omega)]; exact o0⟩, ?_, ?_⟩
          · rintro j σ _ G hj ⟨x11, rfl, hO⟩
            have hslG : G sl = some (.lst (if mm < j then [.int mm] else [])) := hO.get (i := 0) rfl
            refine gw_name ?_
            have hnext : ∀ (G' : Hp), Own G6 G' [(sl, .lst (if mm < j then [.int mm] else []))] → mm ≠ j → Own G6 G' [(sl, .lst (if mm < ((j + 1 : Nat) : Int) then [.int mm] else []))] := fun G' h hne => by
              have e : (if mm < ((j + 1 : Nat) : Int) then [V.int mm] else []) = (if mm < (j : Int) then [V.int mm] else []) := by
                by_cases c : mm < (j : Int)
                · rw [if_pos c, if_pos (by omega)]
                · rw [if_neg c, if_neg (by omega)]
              rw [e]; exact h
            refine sw_if (tw_and (tw_test (ew_op (ew_var rfl (ew_lst hdj (aw_nil ⟨by walk_at "ob_len", fun u1 hu1 => ?_⟩))))))
            have hO1 := hO.new' (o := .lst []) hu1
            by_cases c : mm < (j : Int)
            · rw [if_pos c] at hslG
              have h1 := hO1.get (i := 0) (a := sl) (o := .lst (if mm < j then [.int mm] else [])) rfl
              rw [if_pos c] at h1
              refine rw_eqD hdj (d := .list [.int mm]) (e := .list []) (.lst (SqL.of h1) (.cons (.int _) .nil)) (.lst (SqL.of upd_same) .nil) (shaped_low (n := 1) rfl) (shaped_low (n := 1) rfl) ?_
              rw [eqv_nil]
              exact ⟨_, rfl, (fun z => by cases z), fun _ => ⟨(fun z => by cases z), fun _ => sw_next ⟨_, rfl, hnext _ hO1 (by omega)⟩⟩⟩
            rw [if_neg c] at hslG
            have h1 := hO1.get (i := 0) (a := sl) (o := .lst (if mm < j then [.int mm] else [])) rfl
            rw [if_neg c] at h1
            refine rw_eqD hdj (d := .list []) (e := .list []) (.lst (SqL.of h1) .nil) (.lst (SqL.of upd_same) .nil) (shaped_low (n := 1) rfl) (shaped_low (n := 1) rfl) ?_
            refine ⟨_, rfl, fun _ => ?_, (fun z => by cases z)⟩
            refine tw_test (ew_op (ew_lcL hdj (ew_var rfl ?_)))
            have g61 := g6.trans hO1.ex
            generalize (upd G u1 (.lst [])) = G1 at hO1 h1 g61
            refine ⟨ev, es, rfl, SqL.of (g61 _ _ hes5), by omega, fun ql hql => ?_⟩
            refine ⟨fun j2 ac2 _ G' => G1 = G' ∧ Lsts G1 ac2 (((permL wd.ms.length).take j2).filter fun p => decide (leastT (needsW wd) p ≤ j)), ⟨rfl, .nil⟩, ?_, ?_, ?_⟩
            · rintro j2 ac2 _ G' hj2 hg ⟨rfl, h⟩
              refine ⟨SqL.of (g61 _ _ hes5), ?_⟩
              rw [h.len]
              exact Nat.le_trans (List.length_filter_le _ _) (List.length_take_le _ _)
            · rintro j2 ac2 x _ G' hj2 hg ⟨rfl, h⟩
              have hd' := hdj.jd (D := ql) (acc := ac2)
              obtain ⟨t, p, rfl, ht, hp⟩ := (hLs5.ex g61).get hj2
              have hpm := List.mem_of_getElem? hp
              refine gw_name ⟨rfl, tw_B (ew_call hd' (aw_cons (ew_var rfl (aw_cons (ew_var rfl (aw_cons (ew_var rfl (aw_nil (hcan5 _ _ t p g61 (by omega) hpm ht _ ?_)))))))))⟩
              refine ⟨_, rfl, fun hb => ?_, fun hb => ⟨rfl, ?_⟩⟩
              · refine ew_var rfl ⟨rfl, ?_⟩
                rw [List.take_succ, hp, List.filter_append]
                refine h.app ?_
                show Lsts _ _ (List.filter _ [p])
                rw [List.filter_cons_of_pos (p := fun p => decide (leastT (needsW wd) p ≤ (j : Int))) hb]
                exact .cons ht .nil
              · rw [List.take_succ, hp, List.filter_append]
                show Lsts _ _ (_ ++ List.filter _ [p])
                rw [List.filter_cons_of_neg (p := fun p => decide (leastT (needsW wd) p ≤ (j : Int))) (by rw [hb]; decide)]
                simpa using h
            rintro ac2 _ G' hg ⟨rfl, h⟩
            rw [hel, ← hpl, List.take_length] at h
            have hO2 := hO1.new' (o := .lst ac2) hg
            refine ew_lst hdj (aw_nil ⟨by walk_at "ob_len", fun u2 hu2 => ?_⟩)
            have hO3 := hO2.new' (o := .lst []) hu2
            have gql : Ex G1 (upd (upd G1 ql (.lst ac2)) u2 (.lst [])) := Ex.new (Ex.new (.refl _) hg) hu2
            refine rw_neD hdj (d := .list (((permL wd.ms.length).filter fun p => decide (leastT (needsW wd) p ≤ (j : Int))).map fun p => .list (p.map fun k => PyData.int (k : Nat)))) (e := .list []) (.lst (SqL.of (by rw [upd_ne (ne_of_none upd_same hu2)]; exact upd_same)) ((h.ex gql).dp)) (.lst (SqL.of upd_same) .nil) ords_shaped (shaped_low (n := 1) rfl) ?_
            rw [eqv_nil, List.isEmpty_map]
            refine ⟨_, rfl, fun hb => ?_, fun hb => sw_next ⟨_, rfl, hnext _ hO3 ?_⟩⟩
            · have hmj : mm = j := by
                have : ¬ (j : Int) < mm := fun z => by
                  rw [(hfe j).mpr z] at hb; cases hb
                omega
              have h3 := hO3.get (i := 0) (a := sl) (o := .lst (if mm < j then [.int mm] else [])) rfl
              rw [if_neg c] at h3
              refine sw_drop (ew_bmL hdj (ew_var rfl ⟨sl, [], rfl, SqL.of h3, aw_cons (ew_var rfl (aw_nil ?_))⟩))
              refine mw_append hdj h3 (by decide) ?_
              refine ⟨_, rfl, ?_⟩
              have e : (if mm < ((j + 1 : Nat) : Int) then [V.int mm] else []) = [] ++ [V.int (j : Int)] := by
                rw [if_pos (by omega), hmj]
                rfl
              rw [e]
              exact hO3.set (i := 0) (a := sl) (o' := .lst ([] ++ [.int (j : Int)])) rfl
            · intro hmj
              have : ¬ ((permL wd.ms.length).filter fun p => decide (leastT (needsW wd) p ≤ (j : Int))) = [] := fun z => by have := (hfe j).mp z; omega
              cases hh2 : ((permL wd.ms.length).filter fun p => decide (leastT (needsW wd) p ≤ (j : Int))) with
              | nil => exact this hh2
              | cons x l => rw [hh2] at hb; cases hb
          · rintro σ _ G ⟨x11, rfl, hO⟩
            refine ⟨_, rfl, ?_⟩
            have e : (if mm < (((wd.cap + 1).toNat : Nat) : Int) then [V.int mm] else []) = (if mm ≤ wd.cap then [V.int mm] else []) := by
              have := hw.c0
              by_cases c : mm ≤ wd.cap
              · rw [if_pos c, if_pos (by omega)]
              · rw [if_neg c, if_neg (by omega)]
            rw [← e]; exact hO
        rintro σ _ G7 ⟨x11, rfl, hO⟩
        have g57 : Ex F5 G7 := g6.trans hO.ex
        have hs7 : G7 sl = some (.lst (if mm ≤ wd.cap then [.int mm] else [])) := hO.get (i := 0) rfl
        have hleast : ∀ lv : Int, (∃ i, i < facN wd.ms.length ∧ lv = leastT (needsW wd) (idxP wd.ms.length i)) → (∀ j, j < facN wd.ms.length → lv ≤ leastT (needsW wd) (idxP wd.ms.length j)) → lv = mm := fun lv ⟨i3, hi3, e3⟩ h3 => by
          have h4 := h3 im him
          rw [← hmm] at h4
          have h5 := hmin' i3 hi3
          omega
        refine sw_seq ?_
        refine sw_mid (fun σ _ G => σ = [some (.ref a), some (.ref hh), some (.int i), some (.ref wa), some (.int wd.cap), some (.int wd.start), some (.int wd.refill), some (.ref ma), some (.ref ev), some (.ref gl), some (.ref sl), x11, x12] ∧ Ex G7 G) ?_ ?_
        · refine sw_if (tw_not (tw_B (ew_call hdj (aw_cons (ew_call hdj (aw_cons (ew_var rfl (aw_nil ?_))))))))
          refine ⟨.ref wa, wd, rfl, dp_ex g57 dW5, hw, fun lv F8 hex hall g8 => ⟨fun hc => ?_, fun hc => ?_⟩⟩
          · have elv := hleast lv hex hall
            subst elv
            rw [if_pos hc] at hs7
            refine aw_cons (ew_if (tw_test (ew_op (ew_var rfl (ew_lst hdj (aw_nil ⟨by walk_at "ob_len", fun u1 hu1 => ?_⟩))))))
            have g9 : Ex G7 (upd F8 u1 (.lst [])) := g8.trans (Ex.new (.refl _) hu1)
            refine rw_neD hdj (d := .list [.int lv]) (e := .list []) (.lst (SqL.of (g9 _ _ hs7)) (.cons (.int _) .nil)) (.lst (SqL.of upd_same) .nil) (shaped_low (n := 1) rfl) (shaped_low (n := 1) rfl) ?_
            rw [eqv_nil]
            refine ⟨_, rfl, fun _ => ?_, (fun z => by cases z)⟩
            refine ew_op (ew_var rfl (ew_c (rw_ixL hdj (SqL.of (g9 _ _ hs7)) at_zero (aw_nil ?_))))
            exact ⟨_, _, .int lv, rfl, .int _, .int _, rfl, fun F9 g10 => ⟨_, rfl, (fun z => by cases z), fun _ => sw_next ⟨rfl, g9.trans g10⟩⟩⟩
          · have elv := hleast lv hex hall
            subst elv
            rw [if_neg (by omega)] at hs7
            refine aw_cons (ew_if (tw_test (ew_op (ew_var rfl (ew_lst hdj (aw_nil ⟨by walk_at "ob_len", fun u1 hu1 => ?_⟩))))))
            have g9 : Ex G7 (upd F8 u1 (.lst [])) := g8.trans (Ex.new (.refl _) hu1)
            refine rw_neD hdj (d := .list []) (e := .list []) (.lst (SqL.of (g9 _ _ hs7)) .nil) (.lst (SqL.of upd_same) .nil) (shaped_low (n := 1) rfl) (shaped_low (n := 1) rfl) ?_
            refine ⟨_, rfl, (fun z => by cases z), fun _ => ew_c (aw_nil ?_)⟩
            exact ⟨_, _, .none, rfl, .non, .non, rfl, fun F9 g10 => ⟨_, rfl, (fun z => by cases z), fun _ => sw_next ⟨rfl, g9.trans g10⟩⟩⟩
        rintro σ _ G8 ⟨rfl, g8⟩
        have hs8 := g8 _ _ hs7
        have g58 := g57.trans g8
        refine sw_if (tw_test (ew_op (ew_var rfl (ew_lst hdj (aw_nil ⟨by walk_at "ob_len", fun u1 hu1 => ?_⟩)))))
        have g9 : Ex G8 (upd G8 u1 (.lst [])) := Ex.new (.refl _) hu1
        by_cases hc : mm ≤ wd.cap
        · rw [if_pos hc] at hs8
          refine rw_neD hdj (d := .list [.int mm]) (e := .list []) (.lst (SqL.of (g9 _ _ hs8)) (.cons (.int _) .nil)) (.lst (SqL.of upd_same) .nil) (shaped_low (n := 1) rfl) (shaped_low (n := 1) rfl) ?_
          rw [eqv_nil]
          refine ⟨_, rfl, fun _ => ?_, (fun z => by cases z)⟩
          have hs9 := g9 _ _ hs8
          have g59 := g58.trans g9
          generalize upd G8 u1 (.lst []) = G9 at hs9 g59
          refine sw_if (tw_or (tw_test (ew_op (ew_call hdj (aw_cons (ew_tup hdj (aw_cons (ew_tup hdj (aw_cons (ew_var rfl (aw_cons (ew_op (ew_var rfl (ew_c (rw_ixL hdj (SqL.of hs9) at_zero (aw_cons (ew_var rfl (aw_nil ⟨by walk_at "ob_len", fun t1 ht1 => ?_⟩))))))))))))))))))
          have gt1 : Ex G9 (upd G9 t1 (.tup [.int wd.cap, .int mm, .int wd.refill])) := Ex.new (.refl _) ht1
          refine aw_cons (ew_var rfl (aw_nil ⟨by walk_at "ob_len", fun t2 ht2 => aw_nil ?_⟩))
          have gt2 := Ex.new gt1 ht2 (u := .tup [.ref t1, .ref ma])
          obtain ⟨w2, hw2⟩ : ∃ w2 : Wld, w2 = ⟨wd.cap, mm, wd.refill, wd.ms⟩ := ⟨_, rfl⟩
          have hok2 : WldOk w2 := by rw [hw2]; exact ⟨hw.c0, hw.c1, hmm0, hc, hw.r0, hw.r1, hw.m, hw.n, hw.st⟩
          have hn2 : needsW w2 = needsW wd := by rw [hw2]; rfl
          have hl2 : w2.ms = wd.ms := by rw [hw2]
          have hst2 : w2.start = mm := by rw [hw2]
          refine ⟨.ref t2, w2, rfl, ?_, hok2, ?_, ?_⟩
          · rw [hw2]
            exact .tup (SqT.of upd_same) (.cons (.tup (SqT.of (by rw [upd_ne (ne_of_none upd_same ht2)]; exact upd_same)) (.cons (.int _) (.cons (.int _) (.cons (.int _) .nil)))) (.cons (.tup ((g59.trans gt2).sqT lz5) (dps_ex (g59.trans gt2) dz5)) .nil))
          · intro i2 q F8 hi2 hle2 hno g10 hq e
            refine ew_c (rw_isN ⟨_, rfl, (fun z => by simp at z), fun _ => ?_⟩)
            have g510 := (g59.trans gt2).trans g10
            refine tw_test (ew_op (ew_op (ew_var rfl (ew_lst hdj (aw_nil ⟨by walk_at "ob_len", fun u3 hu3 => ?_⟩)))))
            have g511 := g510.trans (Ex.new (.refl _) hu3 : Ex F8 (upd F8 u3 (.lst [])))
            have gs := (gt2.trans g10).trans (Ex.new (.refl _) hu3 : Ex F8 (upd F8 u3 (.lst [])))
            refine rw_eqD hdj (d := .list (((permL wd.ms.length).filter fun p => decide (leastT (needsW wd) p ≤ wd.start)).map fun p => .list (p.map fun k => PyData.int (k : Nat)))) (e := .list []) (.lst (SqL.of (g511 _ _ hgl5)) ((hG.ex g511).dp)) (.lst (SqL.of upd_same) .nil) ords_shaped (shaped_low (n := 1) rfl) ?_
            rw [eqv_nil, List.isEmpty_map]
            refine ew_op (ew_var rfl (ew_op (ew_var rfl (ew_c (rw_ixL hdj (SqL.of (gs _ _ hs9)) at_zero (rw_I0 ?_))))))
            refine rw_ne rfl ?_
            have ee : ((permL wd.ms.length).filter fun p => decide (leastT (needsW wd) p ≤ wd.start)).isEmpty = decide (wd.start < mm) := by
              by_cases c2 : wd.start < mm
              · rw [(hfe wd.start).mpr c2, decide_eq_true c2]; rfl
              · rw [decide_eq_false c2]
                cases hh2 : ((permL wd.ms.length).filter fun p => decide (leastT (needsW wd) p ≤ wd.start)) with
                | nil => exact absurd ((hfe wd.start).mp hh2) c2
                | cons x l => rfl
            rw [ee, decide_eq_true rfl]
            exact ⟨_, rfl, (fun z => by cases z), fun _ => sw_next ⟨_, _, _, _, _, _, _, _, _, _, _, rfl⟩⟩
          · intro hall2
            rw [hl2, hn2, hst2] at hall2
            have := hall2 im him
            rw [← hmm] at this
            omega
        · rw [if_neg hc] at hs8
          refine rw_neD hdj (d := .list []) (e := .list []) (.lst (SqL.of (g9 _ _ hs8)) .nil) (.lst (SqL.of upd_same) .nil) (shaped_low (n := 1) rfl) (shaped_low (n := 1) rfl) ?_
          exact ⟨_, rfl, (fun z => by cases z), fun _ => sw_next ⟨_, _, _, _, _, _, _, _, _, _, _, rfl⟩⟩
      · rintro σ _ _ ⟨x2, x3, x4, x5, x6, x7, x8, x9, x10, x11, x12, rfl⟩
        exact ⟨_, _, _, _, _, _, _, _, _, _, _, rfl⟩
    · rintro σ _ _ ⟨x2, x3, x4, x5, x6, x7, x8, x9, x10, x11, x12, rfl⟩
      walk_at "ob"
      rfl

end
end Obr
namespace Obr
open PySem PySem.Spec PyProof.Rows L2
/-! ### the head: where each def stands -/
theorem funOf {K : PySem.W.Frag} {x qual : Str} {st : Stmt} {f : Addr} {fd : FuncData} (F : FunD K x qual (defArgs st) (defBody st) (defScope st) [] [] f fd) : Fun K x qual st f fd := by
  obtain ⟨oc, od, dV, kV, doc, pm, an, cdv, ct, osl, rfl, lk, hcd, hD, _⟩ := F.ex
  rcases hD with ⟨_, rfl⟩ | ⟨e, _⟩
  · exact ⟨⟨oc, od, kV, doc, pm, an, cdv, ct, osl, rfl, lk, hcd⟩, F.kp⟩
  · exact absurd rfl e
def dd (a : Str × Option Str) (x qual : Str) (st : Stmt) : He.DefD := ⟨a, x, qual, defArgs st, defBody st, defScope st, [], []⟩
def fn0 : List He.DefD := [dd ("check_world", none) "check_world" "check_world" (top 11), dd ("check_store", none) "check_store" "check_store" (top 12), dd ("check_steps", none) "check_steps" "check_steps" (top 13), dd ("is_step", none) "is_step" "is_step" (top 14), dd ("order", none) "order" "order" (top 16), dd ("least_start", none) "least_start" "least_start" (top 17), dd ("need_of_steps", none) "need_of_steps" "need_of_steps" (top 18), dd ("least_of_turn", none) "least_of_turn" "least_of_turn" (top 19), dd ("need_in_line", none) "need_in_line" "need_in_line" (top 20), dd ("_law_mix", none) "_law_mix" "_law_mix" (top 22), dd ("_law_next", none) "_law_next" "_law_next" (top 23), dd ("_law_alike", none) "_law_alike" "_law_alike" (top 24), dd ("_law_world", none) "_law_world" "_law_world" (top 25), dd ("_law_rule", none) "_law_rule" "_law_rule" (top 26), dd ("_law_orders", none) "_law_orders" "_law_orders" (top 27), dd ("_law_can", none) "_law_can" "_law_can" (top 28), dd ("law", none) "law" "law" (top 29)]
def fn : List He.DefD := fn0
def fa0 : List He.Fa := [.glo "check_world", .glo "check_store", .glo "check_steps", .glo "is_step", .glo "order", .glo "least_start", .glo "need_of_steps", .glo "least_of_turn", .glo "need_in_line", .glo "_law_mix", .glo "_law_next", .glo "_law_alike", .glo "_law_world", .glo "_law_rule", .glo "_law_orders", .glo "_law_can", .glo "law", .free "len", .free "list", .free "tuple", .free "max", .free "min", .free "range", .free "sum", .free "sorted", .free "enumerate", .free "zip", .free "isinstance", .free "int", .free "str"]
def fa1 : List He.Fa := [.free "bool", .free "ValueError", .free "any", .free "divmod", .int "MOST_CAP" 99, .int "MOST_REFILL" 9, .int "MOST_MACHINES" 5, .int "MOST_STEPS" 6, .int "MOST_LONG" 9]
def fa : List He.Fa := fa0 ++ fa1
def exB (K : PySem.W.Frag) : Bool := He.eqO (PySem.W.nsIn K mainGlobals "permutations") (some (some (.type "itertools.permutations")))
def asC (g : Addr → Option Obj) (n : Nat) : List Addr := He.asD g n ++ [cStatics]
def hookY (n : Nat) (fa : List He.Fa) (fn : List He.DefD) (ex : PySem.W.Frag → Bool) : PySem.W.Hook where
  α := He.AlD × Bool
  obs := fun s => (He.obsD fa fn (He.frG s.heap.get? (asC s.heap.get? n)), ex (He.frG s.heap.get? (asC s.heap.get? n)))
  val := fun _ => (He.valD fn, true)
  says := fun _ h => ∃ K : PySem.W.Frag, K.In h ∧ He.SaysD fa fn K ∧ ex K = true
  of := fun _ _ e => ⟨_, He.frG_in, congrArg (fun z : He.AlD × Bool => z.1) e, congrArg (fun z : He.AlD × Bool => z.2) e⟩
  keeps := fun _ _ _ ⟨K, hK, c⟩ k => ⟨K, PySem.W.Frag.In.keeps hK k, c⟩
abbrev RR : PySem.W.OpenRow := PySem.W.OpenLaw.row PySem.Challenge.rw_onebreath_k08_whole_orders_without_refil
abbrev hk : PySem.W.Hook := hookY 5 fa fn exB
def ob (s : PySem.W.SharedT) : He.AlD × Bool := (He.obsD fa fn (He.frG (HandSHeadRun.getT s) (asC (HandSHeadRun.getT s) 5)), exB (He.frG (HandSHeadRun.getT s) (asC (HandSHeadRun.getT s) 5)))
theorem ob_eq (s : PySem.W.SharedT) : ob s = hk.obs s.abs := by
  have e : HandSHeadRun.getT s = s.abs.heap.get? := funext (HandSHeadRun.getT_eq s)
  unfold ob
  rw [e] <;> rfl
def loose0 : List Str := ["BreathError", "BadStore", "BadStep", "MOST_CAP", "MOST_REFILL", "MOST_MACHINES", "MOST_STEPS", "MOST_LONG", "check_world", "check_store", "check_steps", "is_step", "order", "least_start", "need_of_steps", "least_of_turn", "need_in_line", "_law_mix", "_law_next", "_law_alike"]
def loose1 : List Str := ["_law_world", "_law_rule", "_law_orders", "_law_can"]
def loose : List Str := loose0 ++ loose1
theorem run (w : World) : HandSHeadRun.RunEqI RR (PySem.W.view RR.prog [0, 29]) hk ob 6000 loose w := by
  unfold HandSHeadRun.RunEqI
  kernel_rfl
theorem facts {P : Program} {w : World} {K : PySem.W.Frag} {h : Heap} {mg : Str → Option Value} {f : Addr} (X : K.In h) (G : h.Ns mainGlobals mg) (hfa : mg ("law" : Str) = some (.ref f)) (c : He.SaysD fa fn K) (x : exB K = true) :
    ∃ fd : FuncData, (∀ (s : Shared) (v : Value), BindsTo s fd ⟨[v], []⟩ [("_law_script", v)]) ∧ ∀ base : Heap, K.In base → base.Ns mainGlobals mg → FnOk P w K mg base CX0 7 f fd ["_law_script"] (LS (aLaw K)) := by
  obtain ⟨fd_check_world, D_check_world⟩ := c.def_ 0 (d := dd ("check_world", none) "check_world" "check_world" (top 11)) rfl
  have b_check_world : Binds K fd_check_world ["world"] [] := FunD.bindsN (ps := ["world"]) D_check_world fun _ _ _ _ _ _ us hl => match us, hl with | [_], _ => rfl
  have g_check_world : mg "check_world" = some (.ref (He.ga K "check_world")) := He.glo_ok X G (c.fact 0 (f := .glo "check_world") rfl)
  have C_check_world : Cal K mg "check_world" (He.ga K "check_world") fd_check_world ["world"] := ⟨g_check_world, D_check_world.kp, b_check_world⟩
  obtain ⟨fd_check_store, D_check_store⟩ := c.def_ 1 (d := dd ("check_store", none) "check_store" "check_store" (top 12)) rfl
  have b_check_store : Binds K fd_check_store ["store"] [] := FunD.bindsN (ps := ["store"]) D_check_store fun _ _ _ _ _ _ us hl => match us, hl with | [_], _ => rfl
  have g_check_store : mg "check_store" = some (.ref (He.ga K "check_store")) := He.glo_ok X G (c.fact 1 (f := .glo "check_store") rfl)
  have C_check_store : Cal K mg "check_store" (He.ga K "check_store") fd_check_store ["store"] := ⟨g_check_store, D_check_store.kp, b_check_store⟩
  obtain ⟨fd_check_steps, D_check_steps⟩ := c.def_ 2 (d := dd ("check_steps", none) "check_steps" "check_steps" (top 13)) rfl
  have b_check_steps : Binds K fd_check_steps ["number", "steps", "cap"] [] := FunD.bindsN (ps := ["number", "steps", "cap"]) D_check_steps fun _ _ _ _ _ _ us hl => match us, hl with | [_, _, _], _ => rfl
  have g_check_steps : mg "check_steps" = some (.ref (He.ga K "check_steps")) := He.glo_ok X G (c.fact 2 (f := .glo "check_steps") rfl)
  have C_check_steps : Cal K mg "check_steps" (He.ga K "check_steps") fd_check_steps ["number", "steps", "cap"] := ⟨g_check_steps, D_check_steps.kp, b_check_steps⟩
  obtain ⟨fd_is_step, D_is_step⟩ := c.def_ 3 (d := dd ("is_step", none) "is_step" "is_step" (top 14)) rfl
  have b_is_step : Binds K fd_is_step ["step", "cap"] [] := FunD.bindsN (ps := ["step", "cap"]) D_is_step fun _ _ _ _ _ _ us hl => match us, hl with | [_, _], _ => rfl
  have g_is_step : mg "is_step" = some (.ref (He.ga K "is_step")) := He.glo_ok X G (c.fact 3 (f := .glo "is_step") rfl)
  have C_is_step : Cal K mg "is_step" (He.ga K "is_step") fd_is_step ["step", "cap"] := ⟨g_is_step, D_is_step.kp, b_is_step⟩
  obtain ⟨fd_order, D_order⟩ := c.def_ 4 (d := dd ("order", none) "order" "order" (top 16)) rfl
  have b_order : Binds K fd_order ["world"] [] := FunD.bindsN (ps := ["world"]) D_order fun _ _ _ _ _ _ us hl => match us, hl with | [_], _ => rfl
  have g_order : mg "order" = some (.ref (He.ga K "order")) := He.glo_ok X G (c.fact 4 (f := .glo "order") rfl)
  have C_order : Cal K mg "order" (He.ga K "order") fd_order ["world"] := ⟨g_order, D_order.kp, b_order⟩
  obtain ⟨fd_least_start, D_least_start⟩ := c.def_ 5 (d := dd ("least_start", none) "least_start" "least_start" (top 17)) rfl
  have b_least_start : Binds K fd_least_start ["world"] [] := FunD.bindsN (ps := ["world"]) D_least_start fun _ _ _ _ _ _ us hl => match us, hl with | [_], _ => rfl
  have g_least_start : mg "least_start" = some (.ref (He.ga K "least_start")) := He.glo_ok X G (c.fact 5 (f := .glo "least_start") rfl)
  have C_least_start : Cal K mg "least_start" (He.ga K "least_start") fd_least_start ["world"] := ⟨g_least_start, D_least_start.kp, b_least_start⟩
  obtain ⟨fd_need_of_steps, D_need_of_steps⟩ := c.def_ 6 (d := dd ("need_of_steps", none) "need_of_steps" "need_of_steps" (top 18)) rfl
  have b_need_of_steps : Binds K fd_need_of_steps ["steps"] [] := FunD.bindsN (ps := ["steps"]) D_need_of_steps fun _ _ _ _ _ _ us hl => match us, hl with | [_], _ => rfl
  have g_need_of_steps : mg "need_of_steps" = some (.ref (He.ga K "need_of_steps")) := He.glo_ok X G (c.fact 6 (f := .glo "need_of_steps") rfl)
  have C_need_of_steps : Cal K mg "need_of_steps" (He.ga K "need_of_steps") fd_need_of_steps ["steps"] := ⟨g_need_of_steps, D_need_of_steps.kp, b_need_of_steps⟩
  obtain ⟨fd_least_of_turn, D_least_of_turn⟩ := c.def_ 7 (d := dd ("least_of_turn", none) "least_of_turn" "least_of_turn" (top 19)) rfl
  have b_least_of_turn : Binds K fd_least_of_turn ["needs", "turn"] [] := FunD.bindsN (ps := ["needs", "turn"]) D_least_of_turn fun _ _ _ _ _ _ us hl => match us, hl with | [_, _], _ => rfl
  have g_least_of_turn : mg "least_of_turn" = some (.ref (He.ga K "least_of_turn")) := He.glo_ok X G (c.fact 7 (f := .glo "least_of_turn") rfl)
  have C_least_of_turn : Cal K mg "least_of_turn" (He.ga K "least_of_turn") fd_least_of_turn ["needs", "turn"] := ⟨g_least_of_turn, D_least_of_turn.kp, b_least_of_turn⟩
  obtain ⟨fd_need_in_line, D_need_in_line⟩ := c.def_ 8 (d := dd ("need_in_line", none) "need_in_line" "need_in_line" (top 20)) rfl
  have b_need_in_line : Binds K fd_need_in_line ["needs"] [] := FunD.bindsN (ps := ["needs"]) D_need_in_line fun _ _ _ _ _ _ us hl => match us, hl with | [_], _ => rfl
  have g_need_in_line : mg "need_in_line" = some (.ref (He.ga K "need_in_line")) := He.glo_ok X G (c.fact 8 (f := .glo "need_in_line") rfl)
  have C_need_in_line : Cal K mg "need_in_line" (He.ga K "need_in_line") fd_need_in_line ["needs"] := ⟨g_need_in_line, D_need_in_line.kp, b_need_in_line⟩
  obtain ⟨fd__law_mix, D__law_mix⟩ := c.def_ 9 (d := dd ("_law_mix", none) "_law_mix" "_law_mix" (top 22)) rfl
  have b__law_mix : Binds K fd__law_mix ["_law_script", "_law_seed"] [] := FunD.bindsN (ps := ["_law_script", "_law_seed"]) D__law_mix fun _ _ _ _ _ _ us hl => match us, hl with | [_, _], _ => rfl
  have g__law_mix : mg "_law_mix" = some (.ref (He.ga K "_law_mix")) := He.glo_ok X G (c.fact 9 (f := .glo "_law_mix") rfl)
  have C__law_mix : Cal K mg "_law_mix" (He.ga K "_law_mix") fd__law_mix ["_law_script", "_law_seed"] := ⟨g__law_mix, D__law_mix.kp, b__law_mix⟩
  obtain ⟨fd__law_next, D__law_next⟩ := c.def_ 10 (d := dd ("_law_next", none) "_law_next" "_law_next" (top 23)) rfl
  have b__law_next : Binds K fd__law_next ["_law_h", "_law_many"] [] := FunD.bindsN (ps := ["_law_h", "_law_many"]) D__law_next fun _ _ _ _ _ _ us hl => match us, hl with | [_, _], _ => rfl
  have g__law_next : mg "_law_next" = some (.ref (He.ga K "_law_next")) := He.glo_ok X G (c.fact 10 (f := .glo "_law_next") rfl)
  have C__law_next : Cal K mg "_law_next" (He.ga K "_law_next") fd__law_next ["_law_h", "_law_many"] := ⟨g__law_next, D__law_next.kp, b__law_next⟩
  obtain ⟨fd__law_alike, D__law_alike⟩ := c.def_ 11 (d := dd ("_law_alike", none) "_law_alike" "_law_alike" (top 24)) rfl
  have b__law_alike : Binds K fd__law_alike ["_law_found", "_law_due"] [] := FunD.bindsN (ps := ["_law_found", "_law_due"]) D__law_alike fun _ _ _ _ _ _ us hl => match us, hl with | [_, _], _ => rfl
  have g__law_alike : mg "_law_alike" = some (.ref (He.ga K "_law_alike")) := He.glo_ok X G (c.fact 11 (f := .glo "_law_alike") rfl)
  have C__law_alike : Cal K mg "_law_alike" (He.ga K "_law_alike") fd__law_alike ["_law_found", "_law_due"] := ⟨g__law_alike, D__law_alike.kp, b__law_alike⟩
  obtain ⟨fd__law_world, D__law_world⟩ := c.def_ 12 (d := dd ("_law_world", none) "_law_world" "_law_world" (top 25)) rfl
  have b__law_world : Binds K fd__law_world ["_law_h", "_law_most", "_law_cap"] [] := FunD.bindsN (ps := ["_law_h", "_law_most", "_law_cap"]) D__law_world fun _ _ _ _ _ _ us hl => match us, hl with | [_, _, _], _ => rfl
  have g__law_world : mg "_law_world" = some (.ref (He.ga K "_law_world")) := He.glo_ok X G (c.fact 12 (f := .glo "_law_world") rfl)
  have C__law_world : Cal K mg "_law_world" (He.ga K "_law_world") fd__law_world ["_law_h", "_law_most", "_law_cap"] := ⟨g__law_world, D__law_world.kp, b__law_world⟩
  obtain ⟨fd__law_rule, D__law_rule⟩ := c.def_ 13 (d := dd ("_law_rule", none) "_law_rule" "_law_rule" (top 26)) rfl
  have b__law_rule : Binds K fd__law_rule ["_law_h"] [] := FunD.bindsN (ps := ["_law_h"]) D__law_rule fun _ _ _ _ _ _ us hl => match us, hl with | [_], _ => rfl
  have g__law_rule : mg "_law_rule" = some (.ref (He.ga K "_law_rule")) := He.glo_ok X G (c.fact 13 (f := .glo "_law_rule") rfl)
  have C__law_rule : Cal K mg "_law_rule" (He.ga K "_law_rule") fd__law_rule ["_law_h"] := ⟨g__law_rule, D__law_rule.kp, b__law_rule⟩
  obtain ⟨fd__law_orders, D__law_orders⟩ := c.def_ 14 (d := dd ("_law_orders", none) "_law_orders" "_law_orders" (top 27)) rfl
  have b__law_orders : Binds K fd__law_orders ["_law_some"] [] := FunD.bindsN (ps := ["_law_some"]) D__law_orders fun _ _ _ _ _ _ us hl => match us, hl with | [_], _ => rfl
  have g__law_orders : mg "_law_orders" = some (.ref (He.ga K "_law_orders")) := He.glo_ok X G (c.fact 14 (f := .glo "_law_orders") rfl)
  have C__law_orders : Cal K mg "_law_orders" (He.ga K "_law_orders") fd__law_orders ["_law_some"] := ⟨g__law_orders, D__law_orders.kp, b__law_orders⟩
  obtain ⟨fd__law_can, D__law_can⟩ := c.def_ 15 (d := dd ("_law_can", none) "_law_can" "_law_can" (top 28)) rfl
  have b__law_can : Binds K fd__law_can ["_law_world_here", "_law_start", "_law_turn"] [] := FunD.bindsN (ps := ["_law_world_here", "_law_start", "_law_turn"]) D__law_can fun _ _ _ _ _ _ us hl => match us, hl with | [_, _, _], _ => rfl
  have g__law_can : mg "_law_can" = some (.ref (He.ga K "_law_can")) := He.glo_ok X G (c.fact 15 (f := .glo "_law_can") rfl)
  have C__law_can : Cal K mg "_law_can" (He.ga K "_law_can") fd__law_can ["_law_world_here", "_law_start", "_law_turn"] := ⟨g__law_can, D__law_can.kp, b__law_can⟩
  obtain ⟨fd_law, D_law⟩ := c.def_ 16 (d := dd ("law", none) "law" "law" (top 29)) rfl
  have b_law : Binds K fd_law ["_law_script"] [] := FunD.bindsN (ps := ["_law_script"]) D_law fun _ _ _ _ _ _ us hl => match us, hl with | [_], _ => rfl
  have g_law : mg "law" = some (.ref (He.ga K "law")) := He.glo_ok X G (c.fact 16 (f := .glo "law") rfl)
  have C_law : Cal K mg "law" (He.ga K "law") fd_law ["_law_script"] := ⟨g_law, D_law.kp, b_law⟩
  have B : Blt mg := ⟨He.free_ok X G (c.fact 17 (f := .free "len") rfl), He.free_ok X G (c.fact 18 (f := .free "list") rfl), He.free_ok X G (c.fact 19 (f := .free "tuple") rfl), He.free_ok X G (c.fact 20 (f := .free "max") rfl), He.free_ok X G (c.fact 21 (f := .free "min") rfl), He.free_ok X G (c.fact 22 (f := .free "range") rfl), He.free_ok X G (c.fact 23 (f := .free "sum") rfl), He.free_ok X G (c.fact 24 (f := .free "sorted") rfl), He.free_ok X G (c.fact 25 (f := .free "enumerate") rfl), He.free_ok X G (c.fact 26 (f := .free "zip") rfl), He.free_ok X G (c.fact 27 (f := .free "isinstance") rfl), He.free_ok X G (c.fact 28 (f := .free "int") rfl), He.free_ok X G (c.fact 29 (f := .free "str") rfl), He.free_ok X G (c.fact 30 (f := .free "bool") rfl), He.free_ok X G (c.fact 31 (f := .free "ValueError") rfl)⟩
  have Bany : mg "any" = none := He.free_ok X G (c.fact 32 (f := .free "any") rfl)
  have Bdivmod : mg "divmod" = none := He.free_ok X G (c.fact 33 (f := .free "divmod") rfl)
  have xP := x
  have gperm : mg "permutations" = some (.type "itertools.permutations") := PySem.W.mg_of X G (He.eqO_ok xP)
  obtain ⟨t_MOST_CAP, g_MOST_CAP⟩ := He.int_ok X G (c.fact 34 (f := .int "MOST_CAP" 99) rfl)
  obtain ⟨t_MOST_REFILL, g_MOST_REFILL⟩ := He.int_ok X G (c.fact 35 (f := .int "MOST_REFILL" 9) rfl)
  obtain ⟨t_MOST_MACHINES, g_MOST_MACHINES⟩ := He.int_ok X G (c.fact 36 (f := .int "MOST_MACHINES" 5) rfl)
  obtain ⟨t_MOST_STEPS, g_MOST_STEPS⟩ := He.int_ok X G (c.fact 37 (f := .int "MOST_STEPS" 6) rfl)
  obtain ⟨t_MOST_LONG, g_MOST_LONG⟩ := He.int_ok X G (c.fact 38 (f := .int "MOST_LONG" 9) rfl)
  have e := hfa.symm.trans g_law
  cases e
  refine ⟨fd_law, fun s v => FunD.bindsA (ps := ["_law_script"]) D_law (fun _ _ _ _ _ _ us hl => match us, hl with | [_], _ => rfl) s [v] rfl, fun base _ _ => ?_⟩
  have G_next := ok_next (P := P) (w := w) (K := K) (mg := mg) (base := base) (funOf D__law_next) B
  have G_mix := ok_mix (P := P) (w := w) (K := K) (mg := mg) (base := base) (funOf D__law_mix) B
  have G_rule := ok_rule (P := P) (w := w) (K := K) (mg := mg) (base := base) (funOf D__law_rule) B C__law_next G_next
  have G_world := ok_world (P := P) (w := w) (K := K) (mg := mg) (base := base) (funOf D__law_world) B C__law_next G_next
  have G_need_in_line := ok_need_in_line (P := P) (w := w) (K := K) (mg := mg) (base := base) (funOf D_need_in_line) B
  have G_need_of_steps := ok_need_of_steps (P := P) (w := w) (K := K) (mg := mg) (base := base) (funOf D_need_of_steps) B C_need_in_line G_need_in_line
  have G_least_of_turn := ok_least_of_turn (P := P) (w := w) (K := K) (mg := mg) (base := base) (funOf D_least_of_turn) B C_need_in_line G_need_in_line
  have G_orders := ok__law_orders (P := P) (w := w) (K := K) (mg := mg) (base := base) (funOf D__law_orders) B C__law_orders 6
  have G_can := ok__law_can (P := P) (w := w) (K := K) (mg := mg) (base := base) (funOf D__law_can) B
  have G_alike := ok_alike (P := P) (w := w) (K := K) (mg := mg) (base := base) (funOf D__law_alike) B C__law_alike 3
  have G_is_step := ok_is_step (P := P) (w := w) (K := K) (mg := mg) (base := base) (funOf D_is_step) B g_MOST_LONG
  have G_check_store := ok_check_store (P := P) (w := w) (K := K) (mg := mg) (base := base) (funOf D_check_store) B g_MOST_CAP g_MOST_REFILL
  have G_check_steps := ok_check_steps (P := P) (w := w) (K := K) (mg := mg) (base := base) (funOf D_check_steps) B g_MOST_STEPS C_is_step G_is_step
  have G_check_world := ok_check_world (P := P) (w := w) (K := K) (mg := mg) (base := base) (funOf D_check_world) B g_MOST_MACHINES C_check_store G_check_store C_check_steps G_check_steps
  have G_order := ok_order (P := P) (w := w) (K := K) (mg := mg) (base := base) (funOf D_order) B C_check_world G_check_world C_need_of_steps G_need_of_steps C_least_of_turn G_least_of_turn gperm
  have G_least_start := ok_least_start (P := P) (w := w) (K := K) (mg := mg) (base := base) (funOf D_least_start) B C_check_world G_check_world C_need_of_steps G_need_of_steps C_least_of_turn G_least_of_turn gperm
  exact ok_law (P := P) (w := w) (K := K) (mg := mg) (base := base) (funOf D_law) B C__law_mix G_mix C__law_world G_world C__law_next G_next C__law_orders G_orders C__law_can G_can C__law_alike G_alike C_order G_order C_least_start G_least_start
end Obr
open PySem PySem.W PySem.Calls PyProof.Rows
theorem PySem.Challenge.cw_onebreath_k08_whole_orders_without_refil_holds : PySem.Challenge.rw_onebreath_k08_whole_orders_without_refil.Holds := by
  w_on; o_law
  refine HandSHeadRun.head_imp (r := OpenLaw.row PySem.Challenge.rw_onebreath_k08_whole_orders_without_refil) (q := view (OpenLaw.row PySem.Challenge.rw_onebreath_k08_whole_orders_without_refil).prog [0, 29]) (H := Obr.hk) (ob := Obr.ob) (M := 6000) (loose := Obr.loose) (d := HandSHeadRun.topDef (OpenLaw.row PySem.Challenge.rw_onebreath_k08_whole_orders_without_refil).prog 29) (kwd := []) Obr.ob_eq
    Obr.run (by kernel_rfl) (by kernel_rfl) (by kernel_rfl) (by rfl) (by first | assumption | decide +kernel) (by decide +kernel) ⟨rfl, rfl, rfl, rfl, rfl, by decide +kernel⟩ ?hw ?hc
  case hw => w_witness2
  case hc =>
    refine L2.walk_ofE (l := PySem.Challenge.rw_onebreath_k08_whole_orders_without_refil) (n := 63) (k := 7) (x := "_law_script") (CX := L2.CX0) rfl (by decide) (by kernel_rfl) ⟨rfl, by decide, by decide⟩ ?F (fun _ _ _ _ z => z)
    intro w mg fa h Y G hmg0
    obtain ⟨K, KX, c, x⟩ := Y
    have hmg : mg ("law" : PySem.Str) = some (.ref fa) := by
      have e : (HandSHeadRun.topDef (OpenLaw.row PySem.Challenge.rw_onebreath_k08_whole_orders_without_refil).prog 29).name = ("law" : PySem.Str) := by kernel_rfl
      rw [← e]
      exact hmg0
    obtain ⟨fd, hb, hF⟩ := Obr.facts (P := (PySem.Challenge.rw_onebreath_k08_whole_orders_without_refil).prog) (w := w) KX G hmg c x
    exact ⟨K, fd, Obr.LS (Obr.aLaw K), KX, hb, fun H a ns hl _ hS => ⟨fun _ F H => F = H, H, fun v _ => v = .bl true, Obr.hid_eq, rfl, ⟨a, ns, rfl, hS, hl, fun _ => rfl⟩, fun v F' H' e r => r⟩, hF⟩
