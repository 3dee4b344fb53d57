import PyProof.Rows.All
import Wide.All
import OpenK.AllK
import Wide.FinOn
import HandS.ForMost
import HandS.Conv
import HandS.TupAny
import HandS.Wide
import HandS.TupLe
import HandS.Deep
import HandS.SetFor
import KE.GoesEnum
import HandS.Walk
import PyProof.Rows.MatchSeqLen
import HandS.SortRule
import HandS.ClsMeth
import HandS.Style
import HandS.SortInts
import HandS.IsInst
import HandS.Zip
import KE.GoesMore
import HandS.TryOnly
import HandS.WordsExc
import HandS.Head0
import HandS.Head1
import HandS.Head2
import HandS.Head3
import HandS.HeadEnd
import HandS.HeadHook1
import HandS.HeadHook2
import PySem.Challenge.RW_onebreath_k20_whole_loans_pauses_and_mer
set_option Elab.async false
set_option linter.all false
set_option maxRecDepth 100000
set_option maxHeartbeats 0
namespace Obr
open PySem L2

/-! ### 1. A heap F that is spoken of, and what is hidden of the true heap H: J s F H, s the state of what is hidden -/
structure Hid {S : Type} (J : S → Hp → Hp → Prop) : Prop where
  ex : ∀ {s F H}, J s F H → ∀ a o, F a = some o → H a = some o
  al : ∀ {s F H p o}, J s F H → H p = none → J s (upd F p o) (upd H p o)
  mu : ∀ {s F H a o o'}, J s F H → F a = some o → J s (upd F a o') (upd H a o')

section
variable {S : Type} {J : S → Hp → Hp → Prop}
theorem Hid.fresh (hd : Hid J) {s F H p} (j : J s F H) (h : H p = none) : F p = none := by
  cases e : F p with
  | none => rfl
  | some o =>
    rw [hd.ex j _ _ e] at h
    cases h
theorem Hid.sqL (hd : Hid J) {s F H} (j : J s F H) {K a xs} (h : SqL K F a xs) : SqL K H a xs := by
  rcases h with (h | ⟨o, h⟩) | h
  · exact Or.inl (Or.inl (hd.ex j _ _ h))
  · exact Or.inl (Or.inr ⟨o, hd.ex j _ _ h⟩)
  · exact Or.inr h
theorem Hid.sqT (hd : Hid J) {s F H} (j : J s F H) {K a xs} (h : SqT K F a xs) : SqT K H a xs := by
  rcases h with (h | ⟨o, h⟩) | h
  · exact Or.inl (Or.inl (hd.ex j _ _ h))
  · exact Or.inl (Or.inr ⟨o, hd.ex j _ _ h⟩)
  · exact Or.inr h
end
/-- nothing hidden -/
theorem hid_eq : Hid (fun (_ : Unit) F H => F = H) where
  ex := fun {s F H} j a o h => by cases j; exact h
  al := fun {s F H p o} j h => by cases j; rfl
  mu := fun {s F H a o o'} j h => by cases j; rfl

/-! ### 2. What a reading comes to, over F -/
def EW {S : Type} (J : S → Hp → Hp → Prop) (te : TE) (σ : L2.St) (s : S) (F : Hp) (R : V → S → Hp → Prop) : Prop :=
  ∀ H, J s F H → ∀ Q : VK, (∀ v s' F' H', J s' F' H' → R v s' F' → Q v H') → te σ H Q
def TW {S : Type} (J : S → Hp → Hp → Prop) (tt : TT) (σ : L2.St) (s : S) (F : Hp) (R : Bool → S → Hp → Prop) : Prop :=
  ∀ H, J s F H → ∀ Q : Bool → Hp → Prop, (∀ b s' F' H', J s' F' H' → R b s' F' → Q b H') → tt σ H Q
def AW {S : Type} (J : S → Hp → Hp → Prop) (ta : TA) (σ : L2.St) (s : S) (F : Hp) (R : List V → S → Hp → Prop) : Prop :=
  ∀ H, J s F H → ∀ Q : List V → Hp → Prop, (∀ vs s' F' H', J s' F' H' → R vs s' F' → Q vs H') → ta σ H Q
def OW {S : Type} (J : S → Hp → Hp → Prop) (to : TO) (σ : L2.St) (s : S) (F : Hp) (R : Option Int → S → Hp → Prop) : Prop :=
  ∀ H, J s F H → ∀ Q : Option Int → Hp → Prop, (∀ o s' F' H', J s' F' H' → R o s' F' → Q o H') → to σ H Q
/-- an operation on values -/
def RW {S : Type} (J : S → Hp → Hp → Prop) (r : R2) (x y : V) (s : S) (F : Hp) (R : V → S → Hp → Prop) : Prop :=
  ∀ H, J s F H → ∀ Q : VK, (∀ v s' F' H', J s' F' H' → R v s' F' → Q v H') → r x y H Q
def UW {S : Type} (J : S → Hp → Hp → Prop) (r : V → Hp → VK → Prop) (x : V) (s : S) (F : Hp) (R : V → S → Hp → Prop) : Prop :=
  ∀ H, J s F H → ∀ Q : VK, (∀ v s' F' H', J s' F' H' → R v s' F' → Q v H') → r x H Q
def CW {S : Type} (J : S → Hp → Hp → Prop) (r : List V → Hp → VK → Prop) (vs : List V) (s : S) (F : Hp) (R : V → S → Hp → Prop) : Prop :=
  ∀ H, J s F H → ∀ Q : VK, (∀ v s' F' H', J s' F' H' → R v s' F' → Q v H') → r vs H Q
def MW {S : Type} (J : S → Hp → Hp → Prop) (r : V → List V → Hp → VK → Prop) (x : V) (vs : List V) (s : S) (F : Hp) (R : V → S → Hp → Prop) : Prop :=
  ∀ H, J s F H → ∀ Q : VK, (∀ v s' F' H', J s' F' H' → R v s' F' → Q v H') → r x vs H Q
def GW {S : Type} (J : S → Hp → Hp → Prop) (g : TG) (x : V) (σ : L2.St) (s : S) (F : Hp) (N : L2.St → S → Hp → Prop) : Prop :=
  ∀ H, J s F H → ∀ Q : L2.St → Hp → Prop, (∀ σ' s' F' H', J s' F' H' → N σ' s' F' → Q σ' H') → g x σ H Q
def GsW {S : Type} (J : S → Hp → Hp → Prop) (g : TGs) (xs : List V) (σ : L2.St) (s : S) (F : Hp) (N : L2.St → S → Hp → Prop) : Prop :=
  ∀ H, J s F H → ∀ Q : L2.St → Hp → Prop, (∀ σ' s' F' H', J s' F' H' → N σ' s' F' → Q σ' H') → g xs σ H Q
/-- where a statement may go, over F -/
structure En (S : Type) where
  nx : L2.St → S → Hp → Prop
  rt : V → S → Hp → Prop
  bk : L2.St → S → Hp → Prop := fun _ _ _ => False
  ct : L2.St → S → Hp → Prop := fun _ _ _ => False
structure Lf {S : Type} (J : S → Hp → Hp → Prop) (D : En S) (D' : Ends) : Prop where
  nx : ∀ σ s F H, J s F H → D.nx σ s F → D'.nx σ H
  rt : ∀ v s F H, J s F H → D.rt v s F → D'.rt v H
  bk : ∀ σ s F H, J s F H → D.bk σ s F → D'.bk σ H
  ct : ∀ σ s F H, J s F H → D.ct σ s F → D'.ct σ H
def SW {S : Type} (J : S → Hp → Hp → Prop) (t : TS) (D : En S) (σ : L2.St) (s : S) (F : Hp) : Prop := ∀ H, J s F H → ∀ D' : Ends, Lf J D D' → t D' σ H

section
variable {S : Type} {J : S → Hp → Hp → Prop} {K : PySem.W.Frag} {σ : L2.St} {s : S} {F : Hp} {R : V → S → Hp → Prop} {ta tb te : TE} {tr : TA} {x y v : V}

theorem EW.imp {R' : V → S → Hp → Prop} (h : EW J te σ s F R) (i : ∀ v s' F', R v s' F' → R' v s' F') : EW J te σ s F R' := fun H j Q q => h H j Q fun v s' F' H' j' r => q v s' F' H' j' (i _ _ _ r)

/-! expressions -/
theorem ew_var {i : Nat} (h : σ[i]? = some (some v)) (k : R v s F) : EW J (tVar i) σ s F R := fun H j Q q => ⟨v, h, q v s F H j k⟩
theorem ew_c (k : R v s F) : EW J (tC v) σ s F R := fun H j Q q => q v s F H j k
theorem ew_op {r : R2} (h : EW J ta σ s F fun x s1 F1 => EW J tb σ s1 F1 fun y s2 F2 => RW J r x y s2 F2 R) : EW J (tOp r ta tb) σ s F R := fun H j Q q =>
  h H j _ fun x s1 F1 H1 j1 h1 => h1 H1 j1 _ fun y s2 F2 H2 j2 h2 => h2 H2 j2 Q q
theorem ew_un {r : V → Hp → VK → Prop} (h : EW J ta σ s F fun x s1 F1 => UW J r x s1 F1 R) : EW J (tUn r ta) σ s F R := fun H j Q q =>
  h H j _ fun x s1 F1 H1 j1 h1 => h1 H1 j1 Q q
theorem ew_cb {r : List V → Hp → VK → Prop} (h : AW J tr σ s F fun vs s1 F1 => CW J r vs s1 F1 R) : EW J (tCB r tr) σ s F R := fun H j Q q =>
  h H j _ fun vs s1 F1 H1 j1 h1 => h1 H1 j1 Q q
theorem aw_nil {R : List V → S → Hp → Prop} (k : R [] s F) : AW J tNil σ s F R := fun H j Q q => q [] s F H j k
theorem aw_cons {R : List V → S → Hp → Prop} (h : EW J te σ s F fun x s1 F1 => AW J tr σ s1 F1 fun vs s2 F2 => R (x :: vs) s2 F2) : AW J (tCons te tr) σ s F R := fun H j Q q =>
  h H j _ fun x s1 F1 H1 j1 h1 => h1 H1 j1 _ fun vs s2 F2 H2 j2 k => q _ _ _ _ j2 k
theorem ew_tup (hd : Hid J) (h : AW J tr σ s F fun vs s1 F1 => vs.length ≤ 100000 ∧ ∀ p, F1 p = none → R (.ref p) s1 (upd F1 p (.tup vs))) : EW J (tTup tr) σ s F R := fun H j Q q =>
  h H j _ fun vs s1 F1 H1 j1 k => ⟨Nat.le_trans k.1 (by decide), fun p hp => q _ _ _ _ (hd.al j1 hp) (k.2 p (hd.fresh j1 hp))⟩
theorem ew_lst (hd : Hid J) (h : AW J tr σ s F fun vs s1 F1 => vs.length ≤ 100000 ∧ ∀ p, F1 p = none → R (.ref p) s1 (upd F1 p (.lst vs))) : EW J (tLst tr) σ s F R := fun H j Q q =>
  h H j _ fun vs s1 F1 H1 j1 k => ⟨Nat.le_trans k.1 (by decide), fun p hp => q _ _ _ _ (hd.al j1 hp) (k.2 p (hd.fresh j1 hp))⟩
theorem ew_if {tt : TT} (h : TW J tt σ s F fun b s1 F1 => (b = true → EW J ta σ s1 F1 R) ∧ (b = false → EW J tb σ s1 F1 R)) : EW J (tIf tt ta tb) σ s F R := fun H j Q q =>
  h H j _ fun b s1 F1 H1 j1 k => by
    cases b with
    | true => exact k.1 rfl H1 j1 Q q
    | false => exact k.2 rfl H1 j1 Q q
theorem ew_and (h : EW J ta σ s F fun x s1 F1 => ∃ c, x = .bl c ∧ (c = true → EW J tb σ s1 F1 R) ∧ (c = false → R (.bl false) s1 F1)) : EW J (tAndV ta tb) σ s F R := fun H j Q q =>
  h H j _ fun x s1 F1 H1 j1 ⟨c, e, k1, k2⟩ => ⟨c, e, by
    cases c with
    | true => exact k1 rfl H1 j1 Q q
    | false => exact q _ _ _ _ j1 (k2 rfl)⟩
theorem ew_or (h : EW J ta σ s F fun x s1 F1 => ∃ c, x = .bl c ∧ (c = true → R (.bl true) s1 F1) ∧ (c = false → EW J tb σ s1 F1 R)) : EW J (tOrV ta tb) σ s F R := fun H j Q q =>
  h H j _ fun x s1 F1 H1 j1 ⟨c, e, k1, k2⟩ => ⟨c, e, by
    cases c with
    | true => exact q _ _ _ _ j1 (k1 rfl)
    | false => exact k2 rfl H1 j1 Q q⟩
theorem ew_not (h : EW J ta σ s F fun x s1 F1 => ∃ c, x = .bl c ∧ R (.bl (!c)) s1 F1) : EW J (tNotV ta) σ s F R := fun H j Q q =>
  h H j _ fun x s1 F1 H1 j1 ⟨c, e, k⟩ => ⟨c, e, q _ _ _ _ j1 k⟩
theorem ew_chain {r r' : R2} {tc : TE} (h : EW J ta σ s F fun x s1 F1 => EW J tb σ s1 F1 fun y s2 F2 => RW J r x y s2 F2 fun z s3 F3 => ∃ k, z = .bl k ∧ (k = true → EW J tc σ s3 F3 fun w s4 F4 => RW J r' y w s4 F4 R) ∧ (k = false → R (.bl false) s3 F3)) :
    EW J (tChain r r' ta tb tc) σ s F R := fun H j Q q =>
  h H j _ fun x s1 F1 H1 j1 h1 => h1 H1 j1 _ fun y s2 F2 H2 j2 h2 => h2 H2 j2 _ fun z s3 F3 H3 j3 ⟨k, e, k1, k2⟩ => ⟨k, e, by
    cases k with
    | true => exact k1 rfl H3 j3 _ fun w s4 F4 H4 j4 h4 => h4 H4 j4 Q q
    | false => exact q _ _ _ _ j3 (k2 rfl)⟩

/-! operations -/
theorem rw_I0 {g : Int → Int → V} {i k : Int} (h : R (g i k) s F) : RW J (rI0 g) (.int i) (.int k) s F R := fun H j Q q => ⟨i, k, rfl, rfl, q _ _ _ _ j h⟩
theorem rw_I {C : Int → Int → Prop} {g : Int → Int → V} {i k : Int} (c : C i k) (h : R (g i k) s F) : RW J (rI C g) (.int i) (.int k) s F R := fun H j Q q => ⟨i, k, rfl, rfl, c, q _ _ _ _ j h⟩
theorem uw_I {g : Int → V} {i : Int} (h : R (g i) s F) : UW J (rU g) (.int i) s F R := fun H j Q q => ⟨i, rfl, q _ _ _ _ j h⟩
theorem rw_eq (c : scal x y = true) (h : R (.bl (decide (x = y))) s F) : RW J rEq x y s F R := fun H j Q q => ⟨c, q _ _ _ _ j h⟩
theorem rw_ne (c : scal x y = true) (h : R (.bl (!decide (x = y))) s F) : RW J rNe x y s F R := fun H j Q q => ⟨c, q _ _ _ _ j h⟩
theorem rw_isN (h : R (.bl (decide (x = .non))) s F) : RW J (fun x y H Q => y = .non ∧ Q (.bl (decide (x = .non))) H) x .non s F R := fun H j Q q => ⟨rfl, q _ _ _ _ j h⟩
theorem rw_notN (h : R (.bl (!decide (x = .non))) s F) : RW J (fun x y H Q => y = .non ∧ Q (.bl (!decide (x = .non))) H) x .non s F R := fun H j Q q => ⟨rfl, q _ _ _ _ j h⟩
theorem rw_ixL (hd : Hid J) {p : Addr} {xs : List V} {i : Int} (l : SqL K F p xs) (a : atI xs i = some v) (h : R v s F) : RW J (rIxL K) (.ref p) (.int i) s F R := fun H j Q q => ⟨p, xs, i, v, rfl, rfl, hd.sqL j l, a, q _ _ _ _ j h⟩
theorem rw_ixT (hd : Hid J) {p : Addr} {xs : List V} {i : Int} (l : SqT K F p xs) (a : atI xs i = some v) (h : R v s F) : RW J (rIxT K) (.ref p) (.int i) s F R := fun H j Q q => ⟨p, xs, i, v, rfl, rfl, hd.sqT j l, a, q _ _ _ _ j h⟩
theorem rw_in (hd : Hid J) {p : Addr} {xs : List V} {neg : Bool} (l : SqL K F p xs ∨ SqT K F p xs) (c : flatV x = true) (a : xs.all flatV = true) (h : R (.bl (if neg then !inV x xs else inV x xs)) s F) : RW J (rIn K neg) x (.ref p) s F R :=
  fun H j Q q => ⟨p, xs, rfl, l.imp (hd.sqL j) (hd.sqT j), c, a, q _ _ _ _ j h⟩
theorem rw_cat (hd : Hid J) {l b : Addr} {xs zs : List V} (h1 : F l = some (.lst xs)) (h2 : F b = some (.lst zs)) (hl : xs.length + zs.length ≤ 100000) (h : ∀ p, F p = none → R (.ref p) s (upd F p (.lst (xs ++ zs)))) : RW J rCat (.ref l) (.ref b) s F R := fun H j Q q =>
  ⟨l, b, xs, zs, rfl, rfl, hd.ex j _ _ h1, hd.ex j _ _ h2, Nat.le_trans hl (by decide), fun p hp => q _ _ _ _ (hd.al j hp) (h p (hd.fresh j hp))⟩
/-! calls of built-ins -/
theorem cw_lenS (hd : Hid J) {p : Addr} {ys : List V} (l : SqL K F p ys ∨ SqT K F p ys) (h : R (.int ys.length) s F) : CW J (fun xs H Q => ∃ p ys, xs = [.ref p] ∧ (SqL K H p ys ∨ SqT K H p ys) ∧ Q (.int ys.length) H) [.ref p] s F R :=
  fun H j Q q => ⟨p, ys, rfl, l.imp (hd.sqL j) (hd.sqT j), q _ _ _ _ j h⟩
theorem cw_max2 {i k : Int} (h : R (.int (if k > i then k else i)) s F) : CW J (fun xs H Q => ∃ i j, xs = [.int i, .int j] ∧ Q (.int (if j > i then j else i)) H) [.int i, .int k] s F R := fun H j Q q => ⟨i, k, rfl, q _ _ _ _ j h⟩
theorem cw_min2 {i k : Int} (h : R (.int (if k < i then k else i)) s F) : CW J (fun xs H Q => ∃ i j, xs = [.int i, .int j] ∧ Q (.int (if j < i then j else i)) H) [.int i, .int k] s F R := fun H j Q q => ⟨i, k, rfl, q _ _ _ _ j h⟩
theorem cw_list (hd : Hid J) {p : Addr} {ys : List V} (l : SqL K F p ys ∨ SqT K F p ys) (h : ∀ a, F a = none → R (.ref a) s (upd F a (.lst ys))) : CW J (fun xs H Q => ∃ p ys, xs = [.ref p] ∧ (SqL K H p ys ∨ SqT K H p ys) ∧ ∀ l, H l = none → Q (.ref l) (upd H l (.lst ys))) [.ref p] s F R :=
  fun H j Q q => ⟨p, ys, rfl, l.imp (hd.sqL j) (hd.sqT j), fun a ha => q _ _ _ _ (hd.al j ha) (h a (hd.fresh j ha))⟩
theorem cw_tuple (hd : Hid J) {p : Addr} {ys : List V} (l : SqL K F p ys) (h : ∀ a, F a = none → R (.ref a) s (upd F a (.tup ys))) : CW J (fun xs H Q => ∃ p ys, xs = [.ref p] ∧ ((SqL K H p ys ∧ ∀ l, H l = none → Q (.ref l) (upd H l (.tup ys))) ∨ (SqT K H p ys ∧ Q (.ref p) H))) [.ref p] s F R :=
  fun H j Q q => ⟨p, ys, rfl, Or.inl ⟨hd.sqL j l, fun a ha => q _ _ _ _ (hd.al j ha) (h a (hd.fresh j ha))⟩⟩
theorem cw_sum (hd : Hid J) {a : Addr} {ns : List Int} (l : SqL K F a (ns.map V.int)) (h : R (.int ns.sum) s F) : CW J (rSum K) [.ref a] s F R := fun H j Q q => ⟨a, ns, rfl, hd.sqL j l, q _ _ _ _ j h⟩

/-! tests -/
variable {RB : Bool → S → Hp → Prop} {tA tB2 : TT}
theorem tw_test (h : EW J te σ s F fun x s1 F1 => ∃ b, x = .bl b ∧ RB b s1 F1) : TW J (tTest te) σ s F RB := fun H j Q q => h H j _ fun x s1 F1 H1 j1 ⟨b, e, k⟩ => ⟨b, e, q _ _ _ _ j1 k⟩
theorem tw_B (h : EW J te σ s F fun x s1 F1 => ∃ b, x = .bl b ∧ RB b s1 F1) : TW J (tB te) σ s F RB := fun H j Q q => h H j _ fun x s1 F1 H1 j1 ⟨b, e, k⟩ => ⟨b, e, q _ _ _ _ j1 k⟩
theorem tw_not (h : TW J tA σ s F fun b s1 F1 => RB (!b) s1 F1) : TW J (tNot tA) σ s F RB := fun H j Q q => h H j _ fun b s1 F1 H1 j1 k => q _ _ _ _ j1 k
theorem tw_and (h : TW J tA σ s F fun b s1 F1 => (b = true → TW J tB2 σ s1 F1 RB) ∧ (b = false → RB false s1 F1)) : TW J (tAnd tA tB2) σ s F RB := fun H j Q q =>
  h H j _ fun b s1 F1 H1 j1 k => by
    cases b with
    | true => exact k.1 rfl H1 j1 Q q
    | false => exact q _ _ _ _ j1 (k.2 rfl)
theorem tw_or (h : TW J tA σ s F fun b s1 F1 => (b = true → RB true s1 F1) ∧ (b = false → TW J tB2 σ s1 F1 RB)) : TW J (tOr tA tB2) σ s F RB := fun H j Q q =>
  h H j _ fun b s1 F1 H1 j1 k => by
    cases b with
    | true => exact q _ _ _ _ j1 (k.1 rfl)
    | false => exact k.2 rfl H1 j1 Q q
theorem tw_yes (k : RB true s F) : TW J tYes σ s F RB := fun H j Q q => q _ _ _ _ j k
/-- the truth of a list -/
theorem tw_truL (hd : Hid J) (h : EW J te σ s F fun x s1 F1 => ∃ a xs, x = .ref a ∧ SqL K F1 a xs ∧ RB (!xs.isEmpty) s1 F1) : TW J (fun σ H Q => te σ H fun x H' => ∃ k, TruV K x H' k ∧ Q k H') σ s F RB := fun H j Q q =>
  h H j _ fun x s1 F1 H1 j1 ⟨a, xs, e, l, k⟩ => ⟨_, by subst e; exact Or.inl ⟨xs, hd.sqL j1 l, rfl⟩, q _ _ _ _ j1 k⟩
theorem tw_truB (h : EW J te σ s F fun x s1 F1 => ∃ b, x = .bl b ∧ RB b s1 F1) : TW J (fun σ H Q => te σ H fun x H' => ∃ k, TruV K x H' k ∧ Q k H') σ s F RB := fun H j Q q =>
  h H j _ fun x s1 F1 H1 j1 ⟨i, e, k⟩ => ⟨_, by subst e; exact rfl, q _ _ _ _ j1 k⟩

/-! slices -/
theorem ow_none {R : Option Int → S → Hp → Prop} (k : R none s F) : OW J tNoPart σ s F R := fun H j Q q => q _ _ _ _ j k
theorem ow_some {R : Option Int → S → Hp → Prop} (h : EW J te σ s F fun x s1 F1 => ∃ i, x = .int i ∧ R (some i) s1 F1) : OW J (tPart te) σ s F R := fun H j Q q => h H j _ fun x s1 F1 H1 j1 ⟨i, e, k⟩ => ⟨i, e, q _ _ _ _ j1 k⟩
theorem ew_slT (hd : Hid J) {tl th : TO} (h : EW J te σ s F fun x s1 F1 => OW J tl σ s1 F1 fun lo s2 F2 => OW J th σ s2 F2 fun hi s3 F3 => ∃ a xs, x = .ref a ∧ SqT K F3 a xs ∧ (HT.sIx xs.length 0 lo = 0 ∧ HT.sIx xs.length xs.length hi = xs.length → R (.ref a) s3 F3) ∧
      (¬ (HT.sIx xs.length 0 lo = 0 ∧ HT.sIx xs.length xs.length hi = xs.length) → ∀ p, F3 p = none → R (.ref p) s3 (upd F3 p (.tup (cutV xs lo hi))))) :
    EW J (tSl (rSlA K) te tl th) σ s F R := fun H j Q q => h H j _ fun x s1 F1 H1 j1 h1 => h1 H1 j1 _ fun lo s2 F2 H2 j2 h2 => h2 H2 j2 _ fun hi s3 F3 H3 j3 ⟨a, xs, e, l, k1, k2⟩ =>
  ⟨a, xs, e, hd.sqT j3 l, fun c => q _ _ _ _ j3 (k1 c), fun c p hp => q _ _ _ _ (hd.al j3 hp) (k2 c p (hd.fresh j3 hp))⟩

/-! methods of built-ins: of a list -/
theorem ew_bmL (hd : Hid J) {r : V → List V → Hp → VK → Prop} (h : EW J te σ s F fun x s1 F1 => ∃ a xs, x = .ref a ∧ SqL K F1 a xs ∧ AW J tr σ s1 F1 fun vs s2 F2 => MW J r x vs s2 F2 R) : EW J (tBM K "list" r te tr) σ s F R := fun H j Q q =>
  h H j _ fun x s1 F1 H1 j1 ⟨a, xs, e, l, h1⟩ => ⟨by subst e; exact Or.inl ⟨rfl, xs, hd.sqL j1 l⟩, h1 H1 j1 _ fun vs s2 F2 H2 j2 h2 => h2 H2 j2 Q q⟩
theorem mw_append (hd : Hid J) {l : Addr} {xs : List V} (h1 : F l = some (.lst xs)) (hl : xs.length < 100000) (h : R .non s (upd F l (.lst (xs ++ [y])))) : MW J rAppend (.ref l) [y] s F R := fun H j Q q =>
  ⟨l, xs, y, rfl, rfl, hd.ex j _ _ h1, Nat.lt_of_lt_of_le hl (by decide), q _ _ _ _ (hd.mu j h1) h⟩
/-! statements -/
variable {D : En S} {t u : TS} {g : TG}
theorem sw_next (k : D.nx σ s F) : SW J tNext D σ s F := fun H j D' l => l.nx _ _ _ _ j k
theorem sw_seq (h : SW J t { D with nx := fun σ1 s1 F1 => SW J u D σ1 s1 F1 } σ s F) : SW J (tSeq t u) D σ s F := fun H j D' l =>
  h H j _ ⟨fun σ1 s1 F1 H1 j1 k => k H1 j1 D' l, l.rt, l.bk, l.ct⟩
theorem sw_break (k : D.bk σ s F) : SW J tBreak D σ s F := fun H j D' l => l.bk _ _ _ _ j k
theorem sw_drop (h : EW J te σ s F fun _ s1 F1 => D.nx σ s1 F1) : SW J (tDrop te) D σ s F := fun H j D' l => h H j _ fun _ s1 F1 H1 j1 k => l.nx _ _ _ _ j1 k
theorem sw_ret (h : EW J te σ s F D.rt) : SW J (tRet te) D σ s F := fun H j D' l => h H j _ fun v s1 F1 H1 j1 k => l.rt _ _ _ _ j1 k
theorem sw_if {tc : TT} (h : TW J tc σ s F fun b s1 F1 => (b = true → SW J t D σ s1 F1) ∧ (b = false → SW J u D σ s1 F1)) : SW J (tIfS tc t u) D σ s F := fun H j D' l =>
  h H j _ fun b s1 F1 H1 j1 k => by
    cases b with
    | true => exact k.1 rfl H1 j1 D' l
    | false => exact k.2 rfl H1 j1 D' l
theorem sw_asg (h : EW J te σ s F fun x s1 F1 => GW J g x σ s1 F1 D.nx) : SW J (tAsg te g) D σ s F := fun H j D' l =>
  h H j _ fun x s1 F1 H1 j1 h1 => h1 H1 j1 _ fun σ2 s2 F2 H2 j2 k => l.nx _ _ _ _ j2 k
theorem sw_par {i k : Nat} {ta : TA} (h : AW J ta σ s F fun vs s1 F1 => ∃ v w, vs = [v, w] ∧ D.nx ((σ.set i (some v)).set k (some w)) s1 F1) : SW J (tPar i k ta) D σ s F := fun H j D' l =>
  h H j _ fun vs s1 F1 H1 j1 ⟨v, w, e, k⟩ => ⟨v, w, e, l.nx _ _ _ _ j1 k⟩
variable {N : L2.St → S → Hp → Prop}
theorem gw_name {i : Nat} (k : N (σ.set i (some x)) s F) : GW J (gName i) x σ s F N := fun H j Q q => q _ _ _ _ j k
theorem gw_tup (hd : Hid J) {n : Nat} {ts : TGs} (h : ∃ a xs, x = .ref a ∧ SqT K F a xs ∧ xs.length = n ∧ GsW J ts xs σ s F N) : GW J (gTup K n ts) x σ s F N := fun H j Q q => by
  obtain ⟨a, xs, e, l, hn, h⟩ := h
  exact ⟨a, xs, e, hd.sqT j l, hn, h H j Q q⟩
theorem gsw_nil (k : N σ s F) : GsW J gNil [] σ s F N := fun H j Q q => ⟨rfl, q _ _ _ _ j k⟩
theorem gsw_cons {ts : TGs} {xs : List V} (h : GW J g x σ s F fun σ1 s1 F1 => GsW J ts xs σ1 s1 F1 N) : GsW J (gCons g ts) (x :: xs) σ s F N := fun H j Q q =>
  ⟨x, xs, rfl, h H j _ fun σ1 s1 F1 H1 j1 k => k H1 j1 Q q⟩
/-- xs[i] = e -/
theorem gw_subL (hd : Hid J) (h : EW J ta σ s F fun o s1 F1 => EW J tb σ s1 F1 fun i s2 F2 => ∃ p xs k j, o = .ref p ∧ i = .int k ∧ F2 p = some (.lst xs) ∧ ixN xs.length k = some j ∧ N σ s2 (upd F2 p (.lst (xs.set j x)))) : GW J (gSub ta tb rSetL) x σ s F N := fun H j Q q =>
  h H j _ fun o s1 F1 H1 j1 h1 => h1 H1 j1 _ fun i s2 F2 H2 j2 ⟨p, xs, k, jj, e1, e2, hp, hj, k2⟩ => ⟨p, xs, k, jj, e1, e2, hd.ex j2 _ _ hp, hj, q _ _ _ _ (hd.mu j2 hp) k2⟩

/-! loops -/
theorem sw_forR1 {ta : TA} (h : AW J ta σ s F fun vs s1 F1 => ∃ (n : Int) (Pv : Nat → L2.St → S → Hp → Prop), vs = [.int n] ∧ -1000000000 ≤ n ∧ n ≤ 1000000000 ∧ Pv 0 σ s1 F1 ∧
      (∀ (i : Nat) σ s F, (i : Int) < n → Pv i σ s F → GW J g (.int (i : Int)) σ s F fun σ s F => SW J t { D with nx := Pv (i + 1), ct := Pv (i + 1), bk := D.nx } σ s F) ∧ (∀ σ s F, Pv n.toNat σ s F → D.nx σ s F)) :
    SW J (tFor (iRng1 ta) g t) D σ s F := fun H j D' l =>
  h H j _ fun vs s1 F1 H1 j1 ⟨n, Pv, e, hn1, hn2, h0, hs, hdn⟩ => ⟨n, e, by omega, by omega, for_range (lo := 0) (n := n.toNat) (fun i σ H => ∃ s F, J s F H ∧ Pv i σ s F) ⟨s1, F1, j1, h0⟩
    (fun i σ' H' hi ⟨s', F', j', p⟩ => by
      have e0 : (0 : Int) + (i : Int) = (i : Int) := Int.zero_add _
      show g (.int ((0 : Int) + (i : Int))) σ' H' _
      rw [e0]
      exact hs i σ' s' F' (by omega) p H' j' _ fun σ2 s2 F2 H2 j2 k => k H2 j2 _ ⟨fun σ3 s3 F3 H3 j3 k3 => ⟨s3, F3, j3, k3⟩, l.rt, l.nx, fun σ3 s3 F3 H3 j3 k3 => ⟨s3, F3, j3, k3⟩⟩)
    (fun σ' H' ⟨s', F', j', p⟩ => l.nx _ _ _ _ j' (hdn σ' s' F' p))⟩
theorem sw_forL (hd : Hid J) (h : EW J te σ s F fun v s1 F1 => ∃ (a : Addr) (xs : List V) (Pv : Nat → L2.St → S → Hp → Prop), v = .ref a ∧ SqL K F1 a xs ∧ Pv 0 σ s1 F1 ∧ (∀ i σ s F, i ≤ xs.length → Pv i σ s F → SqL K F a xs) ∧
      (∀ (i : Nat) x σ s F, xs[i]? = some x → Pv i σ s F → GW J g x σ s F fun σ s F => SW J t { D with nx := Pv (i + 1), ct := Pv (i + 1), bk := D.nx } σ s F) ∧ (∀ σ s F, Pv xs.length σ s F → D.nx σ s F)) :
    SW J (tFor (iList K te) g t) D σ s F := fun H j D' l =>
  h H j _ fun v s1 F1 H1 j1 ⟨a, xs, Pv, e, l1, h0, hl, hs, hdn⟩ => ⟨a, e, ⟨xs, hd.sqL j1 l1⟩, for_list (xs := xs) (fun i σ H => ∃ s F, J s F H ∧ Pv i σ s F) ⟨s1, F1, j1, h0⟩
    (fun i σ' H' hi ⟨s', F', j', p⟩ => hd.sqL j' (hl i σ' s' F' hi p))
    (fun i x σ' H' hi ⟨s', F', j', p⟩ => hs i x σ' s' F' hi p H' j' _ fun σ2 s2 F2 H2 j2 k => k H2 j2 _ ⟨fun σ3 s3 F3 H3 j3 k3 => ⟨s3, F3, j3, k3⟩, l.rt, l.nx, fun σ3 s3 F3 H3 j3 k3 => ⟨s3, F3, j3, k3⟩⟩)
    (fun σ' H' ⟨s', F', j', p⟩ => l.nx _ _ _ _ j' (hdn σ' s' F' p))⟩
theorem sw_forT (hd : Hid J) (h : EW J te σ s F fun v s1 F1 => ∃ (a : Addr) (xs : List V) (Pv : Nat → L2.St → S → Hp → Prop), v = .ref a ∧ SqT K F1 a xs ∧ Pv 0 σ s1 F1 ∧ (∀ i σ s F, i ≤ xs.length → Pv i σ s F → SqT K F a xs) ∧
      (∀ (i : Nat) x σ s F, xs[i]? = some x → Pv i σ s F → GW J g x σ s F fun σ s F => SW J t { D with nx := Pv (i + 1), ct := Pv (i + 1), bk := D.nx } σ s F) ∧ (∀ σ s F, Pv xs.length σ s F → D.nx σ s F)) :
    SW J (tFor (iTup K te) g t) D σ s F := fun H j D' l =>
  h H j _ fun v s1 F1 H1 j1 ⟨a, xs, Pv, e, l1, h0, hl, hs, hdn⟩ => ⟨a, e, ⟨xs, hd.sqT j1 l1⟩, for_tup (xs := xs) (fun i σ H => ∃ s F, J s F H ∧ Pv i σ s F) ⟨s1, F1, j1, h0⟩
    (fun i σ' H' hi ⟨s', F', j', p⟩ => hd.sqT j' (hl i σ' s' F' hi p))
    (fun i x σ' H' hi ⟨s', F', j', p⟩ => hs i x σ' s' F' hi p H' j' _ fun σ2 s2 F2 H2 j2 k => k H2 j2 _ ⟨fun σ3 s3 F3 H3 j3 k3 => ⟨s3, F3, j3, k3⟩, l.rt, l.nx, fun σ3 s3 F3 H3 j3 k3 => ⟨s3, F3, j3, k3⟩⟩)
    (fun σ' H' ⟨s', F', j', p⟩ => l.nx _ _ _ _ j' (hdn σ' s' F' p))⟩
end
end Obr
namespace Obr
open PySem L2

/-- the built-ins that no module of the text hides -/
structure Blt (mg : Str → Option Value) : Prop where
  len : mg "len" = none
  list : mg "list" = none
  tuple : mg "tuple" = none
  max : mg "max" = none
  min : mg "min" = none
  range : mg "range" = none
  sum : mg "sum" = none
  sorted : mg "sorted" = none
  enumerate : mg "enumerate" = none
  zip : mg "zip" = none
  isinstance : mg "isinstance" = none
  int : mg "int" = none
  str : mg "str" = none
  bool : mg "bool" = none
  verr : mg "ValueError" = none
/-- a def that is called by its name -/
structure Cal (K : PySem.W.Frag) (mg : Str → Option Value) (x : Str) (f : Addr) (fd : FuncData) (ps : List Str) : Prop where
  g : mg x = some (.ref f)
  k : PySem.W.keepIn K (.ref f) = true
  a : Binds K fd ps []


/-- G knows all that F knows -/
def Ex (F G : Hp) : Prop := ∀ a o, F a = some o → G a = some o
theorem Ex.refl (F : Hp) : Ex F F := fun _ _ e => e
theorem Ex.trans {F G H : Hp} (a : Ex F G) (b : Ex G H) : Ex F H := fun x o e => b x o (a x o e)
theorem Ex.new {F G : Hp} {p : Addr} {u : HO} (g : Ex F G) (h : G p = none) : Ex F (upd G p u) := fun a o e => by
  rw [upd_ne (ne_of_none (g a o e) h)]
  exact g a o e
theorem Ex.out {F G : Hp} {p : Addr} {u : HO} (g : Ex F G) (h : F p = none) : Ex F (L2.upd G p u) := fun a o e => by
  rw [upd_ne (ne_of_none e h)]
  exact g a o e
theorem Ex.upd {F G : Hp} {p : Addr} {u : HO} (g : Ex F G) : Ex (L2.upd F p u) (L2.upd G p u) := fun a o e => by
  by_cases c : a = p
  · subst c; rw [upd_same] at e ⊢; exact e
  · rw [upd_ne c] at e ⊢; exact g a o e
theorem Ex.free {F G : Hp} {p : Addr} (g : Ex F G) (h : G p = none) : F p = none := by
  cases e : F p with
  | none => rfl
  | some o =>
    rw [g p o e] at h
    cases h
theorem Ex.sqL {F G : Hp} (g : Ex F G) {K a xs} (h : SqL K F a xs) : SqL K G a xs := by
  rcases h with (h | ⟨o, h⟩) | h
  · exact Or.inl (Or.inl (g _ _ h))
  · exact Or.inl (Or.inr ⟨o, g _ _ h⟩)
  · exact Or.inr h
theorem Ex.sqT {F G : Hp} (g : Ex F G) {K a xs} (h : SqT K F a xs) : SqT K G a xs := by
  rcases h with (h | ⟨o, h⟩) | h
  · exact Or.inl (Or.inl (g _ _ h))
  · exact Or.inl (Or.inr ⟨o, g _ _ h⟩)
  · exact Or.inr h

/-! ### promises over F, whatever is hidden -/
def LS (A : List V → Hp → VK → Prop) : Sp := fun vs H Q _ => ∃ (J : Unit → Hp → Hp → Prop) (F : Hp) (R : VK), Hid J ∧ J () F H ∧ A vs F R ∧ ∀ v F' H', J () F' H' → R v F' → Q v H'
theorem LS.body {J : Unit → Hp → Hp → Prop} {F H : Hp} {R Q : VK} {t : TS} {σ : L2.St} (j : J () F H) (q : ∀ v F' H', J () F' H' → R v F' → Q v H')
    (h : SW J t { nx := fun _ _ F => R .non F, rt := fun v _ F => R v F } σ () F) : t { nx := fun _ H' => Q .non H', rt := Q } σ H :=
  h H j _ ⟨fun _ _ _ _ j k => q _ _ _ j k, fun _ _ _ _ j k => q _ _ _ j k, fun _ _ _ _ _ k => k.elim, fun _ _ _ _ _ k => k.elim⟩
theorem Hid.unit {S : Type} {J : S → Hp → Hp → Prop} (hd : Hid J) (s : S) : Hid (fun (_ : Unit) F H => J s F H) where
  ex := fun {_ _ _} j => hd.ex j
  al := fun {_ _ _ _ _} j => hd.al j
  mu := fun {_ _ _ _ _ _} j => hd.mu j
section
variable {S : Type} {J : S → Hp → Hp → Prop} {σ : L2.St} {s : S} {F : Hp} {R : V → S → Hp → Prop} {tr : TA} {A : List V → Hp → VK → Prop} {E : XK}
theorem ew_call (hd : Hid J) (h : AW J tr σ s F fun vs s1 F1 => A vs F1 fun v F' => R v s1 F') : EW J (tCall (LS A) [] E tr) σ s F R := fun H j Q q =>
  h H j _ fun vs s1 F1 H1 j1 a => by
    show LS A (vs ++ []) H1 Q E
    rw [List.append_nil]
    exact ⟨_, F1, _, hd.unit s1, j1, a, fun v F' H' j' r => q v s1 F' H' j' r⟩
end

/-! ### forgetting: G knows more than F -/
def GJ {S : Type} (J : S → Hp → Hp → Prop) : S → Hp → Hp → Prop := fun s F H => ∃ G, (∀ a o, F a = some o → G a = some o) ∧ J s G H
/-! ### what is drawn from, hidden: the list at h (a number, the cells at c, a place) -/
def hL (c : Addr) (m p : Int) : HO := .lst [.int m, .ref c, .int p]
def cL (cells : List Int) : HO := .lst (cells.map V.int)
def HJ (h c : Addr) {S : Type} (J : S → Hp → Hp → Prop) : S → Hp → Hp → Prop := fun s F H =>
  ∃ (G : Hp) (m p : Int) (cells : List Int), Ex F G ∧ F h = none ∧ F c = none ∧ 0 ≤ m ∧ m < 2147483647 ∧ 0 ≤ p ∧ cells.length ≤ 63 ∧ G h = some (hL c m p) ∧ G c = some (cL cells) ∧ J s G H
theorem Hid.hj {h c : Addr} {S : Type} {J : S → Hp → Hp → Prop} (hd : Hid J) : Hid (HJ h c J) where
  ex := fun {s F H} ⟨G, m, p, cells, g, _, _, _, _, _, _, _, _, j⟩ a o e => hd.ex j a o (g a o e)
  al := fun {s F H p' o} ⟨G, m, p, cells, g, fh, fc, m0, m1, p0, l, gh, gc, j⟩ hp => by
    have e1 := hd.fresh j hp
    have pc : c ≠ p' := ne_of_none gc e1
    have ph : h ≠ p' := ne_of_none gh e1
    exact ⟨upd G p' o, m, p, cells, g.upd, by rw [upd_ne ph]; exact fh, by rw [upd_ne pc]; exact fc, m0, m1, p0, l, by rw [upd_ne ph]; exact gh, by rw [upd_ne pc]; exact gc, hd.al j hp⟩
  mu := fun {s F H a o o'} ⟨G, m, p, cells, g, fh, fc, m0, m1, p0, l, gh, gc, j⟩ e => by
    have pc : c ≠ a := fun q => by rw [q, e] at fc; cases fc
    have ph : h ≠ a := fun q => by rw [q, e] at fh; cases fh
    exact ⟨upd G a o', m, p, cells, g.upd, by rw [upd_ne ph]; exact fh, by rw [upd_ne pc]; exact fc, m0, m1, p0, l, by rw [upd_ne ph]; exact gh, by rw [upd_ne pc]; exact gc, hd.mu j (g _ _ e)⟩
/-- a promise of a def whose first argument is what is drawn from -/
def LN (A : List V → Hp → VK → Prop) : Sp := fun vs H Q _ => ∃ (h c : Addr) (J : Unit → Hp → Hp → Prop) (F : Hp) (R : VK) (ws : List V), Hid J ∧ vs = .ref h :: ws ∧ HJ h c J () F H ∧ A ws F R ∧ ∀ v F' H', HJ h c J () F' H' → R v F' → Q v H'
section
variable {S : Type} {J : S → Hp → Hp → Prop} {h c : Addr} {σ : L2.St} {s : S} {F : Hp} {R : V → S → Hp → Prop} {tr : TA} {A : List V → Hp → VK → Prop} {E : XK}
theorem ew_draw (hd : Hid J) (k : AW (HJ h c J) tr σ s F fun vs s1 F1 => ∃ ws, vs = .ref h :: ws ∧ A ws F1 fun v F' => R v s1 F') : EW (HJ h c J) (tCall (LN A) [] E tr) σ s F R := fun H j Q q =>
  k H j _ fun vs s1 F1 H1 j1 ⟨ws, e, a⟩ => by
    show LN A (vs ++ []) H1 Q E
    rw [List.append_nil]
    exact ⟨h, c, fun _ F H => J s1 F H, F1, _, ws, hd.unit s1, e, j1, a, fun v F' H' j' r => q v s1 F' H' j' r⟩
end

/-! ### the promises -/
/-- _law_mix -/
def aMix (K : PySem.W.Frag) : List V → Hp → VK → Prop := fun vs F R => ∃ (a : Addr) (ns : List Int) (z : Int), vs = [.ref a, .int z] ∧ SqL K F a (ns.map V.int) ∧ 0 ≤ z ∧ z < 2147483647 ∧
  ∀ (m : Int) (c h : Addr), 0 ≤ m → m < 2147483647 → F c = none → F h = none → c ≠ h → R (.ref h) (L2.upd (L2.upd F c (cL ns)) h (hL c m 0))
/-- _law_next -/
def aNext : List V → Hp → VK → Prop := fun ws F R => ∃ n : Int, ws = [.int n] ∧ 0 < n ∧ n ≤ 10000000000000 ∧ ∀ r : Int, 0 ≤ r → r < n → R (.int r) F
end Obr
namespace Obr
open PySem L2
theorem at_ints {ns : List Int} {i : Int} (h0 : 0 ≤ i) (h1 : i < ns.length) : atI (ns.map V.int) i = some (V.int (ns.getD i.toNat 0)) := by
  obtain ⟨j, rfl⟩ : ∃ j : Nat, i = (j : Int) := ⟨i.toNat, by omega⟩
  have hj : j < ns.length := by omega
  refine atI_nat (j := j) ?_
  rw [List.getElem?_map, List.getElem?_eq_getElem hj]
  simp [List.getD, List.getElem?_eq_getElem hj]
theorem ixN_of {n : Nat} {i : Int} (h0 : 0 ≤ i) (h1 : i < n) : ixN n i = some i.toNat := by
  unfold ixN
  rw [if_pos h0, if_pos h1]
theorem map_set_int (ns : List Int) (j : Nat) (z : Int) : (ns.map V.int).set j (V.int z) = (ns.set j z).map V.int := by
  rw [List.map_set]
end Obr
namespace Obr
open PySem L2
theorem sw_mid {S : Type} {J : S → Hp → Hp → Prop} {t : TS} {D : En S} {σ : L2.St} {s : S} {F : Hp} (Mid : L2.St → S → Hp → Prop) (h1 : SW J t { D with nx := Mid } σ s F) (h2 : ∀ σ s F, Mid σ s F → D.nx σ s F) : SW J t D σ s F := fun H j D' l =>
  h1 H j D' ⟨fun σ s F H j k => l.nx σ s F H j (h2 σ s F k), l.rt, l.bk, l.ct⟩
end Obr
namespace Obr
open PySem L2

/-! ### data as a whole, kept by whatever grows -/
mutual
theorem dp_ex {K : PySem.W.Frag} {F G : Hp} (g : Ex F G) : ∀ {d : PyData} {v : V}, Dp K F v d → Dp K G v d
  | .none, _, h => by cases h; exact .non
  | .bool b, _, h => by cases h; exact .bl b
  | .int i, _, h => by cases h; exact .int i
  | .str x, _, h => by cases h; exact .str x
  | .list ds, _, h => by
    cases h with
    | lst hs ha => exact .lst (g.sqL hs) (dps_ex g ha)
  | .tuple ds, _, h => by
    cases h with
    | tup hs ha => exact .tup (g.sqT hs) (dps_ex g ha)
  | .dict _, _, h => by cases h
theorem dps_ex {K : PySem.W.Frag} {F G : Hp} (g : Ex F G) : ∀ {ds : List PyData} {vs : List V}, DpAll K F vs ds → DpAll K G vs ds
  | [], _, h => by cases h; exact .nil
  | d :: ds, _, h => by
    cases h with
    | cons h1 h2 => exact .cons (dp_ex g h1) (dps_ex g h2)
end
section
variable {K : PySem.W.Frag} {F : Hp}
theorem dps_len {vs : List V} {ds : List PyData} : DpAll K F vs ds → vs.length = ds.length := by
  induction ds generalizing vs with
  | nil => intro h; cases h; rfl
  | cons d ds ih => intro h; cases h with
    | cons h1 h2 => simp [ih h2]
theorem dps_get {i : Nat} {vs : List V} {ds : List PyData} {d : PyData} (h : DpAll K F vs ds) (e : ds[i]? = some d) : ∃ v, vs[i]? = some v ∧ Dp K F v d := by
  induction ds generalizing vs i with
  | nil => simp at e
  | cons d0 ds ih => cases h with
    | cons h1 h2 => cases i with
      | zero => simp at e; subst e; exact ⟨_, rfl, h1⟩
      | succ i => simp at e; obtain ⟨v, e1, e2⟩ := ih h2 e; exact ⟨v, by simpa using e1, e2⟩
theorem dps_get' {i : Nat} {vs : List V} {ds : List PyData} {v : V} (h : DpAll K F vs ds) (e : vs[i]? = some v) : ∃ d, ds[i]? = some d ∧ Dp K F v d := by
  induction ds generalizing vs i with
  | nil => cases h; simp at e
  | cons d0 ds ih => cases h with
    | cons h1 h2 => cases i with
      | zero => simp at e; subst e; exact ⟨_, rfl, h1⟩
      | succ i => simp at e; obtain ⟨v, e1, e2⟩ := ih h2 e; exact ⟨v, by simpa using e1, e2⟩
theorem dps_snoc {vs : List V} {ds : List PyData} {v : V} {d : PyData} (h : DpAll K F vs ds) (h1 : Dp K F v d) : DpAll K F (vs ++ [v]) (ds ++ [d]) := by
  induction ds generalizing vs with
  | nil => cases h; exact .cons h1 .nil
  | cons d0 ds ih => cases h with
    | cons a b => exact .cons a (ih b)
theorem dp_tup {v : V} {ds : List PyData} (h : Dp K F v (.tuple ds)) : ∃ a xs, v = .ref a ∧ SqT K F a xs ∧ DpAll K F xs ds := by
  cases h with
  | tup h1 h2 => exact ⟨_, _, rfl, h1, h2⟩
theorem dp_lst {v : V} {ds : List PyData} (h : Dp K F v (.list ds)) : ∃ a xs, v = .ref a ∧ SqL K F a xs ∧ DpAll K F xs ds := by
  cases h with
  | lst h1 h2 => exact ⟨_, _, rfl, h1, h2⟩
theorem dp_int {v : V} {i : Int} (h : Dp K F v (.int i)) : v = .int i := by cases h; rfl
theorem dp_str {v : V} {x : Str} (h : Dp K F v (.str x)) : v = .str x := by cases h; rfl
theorem dp_bl {v : V} {b : Bool} (h : Dp K F v (.bool b)) : v = .bl b := by cases h; rfl
theorem dp_non {v : V} (h : Dp K F v .none) : v = .non := by cases h; rfl
theorem dps1 {vs : List V} {a : PyData} (h : DpAll K F vs [a]) : ∃ x, vs = [x] ∧ Dp K F x a := by
  cases h with
  | cons h1 h2 => cases h2; exact ⟨_, rfl, h1⟩
theorem dps2 {vs : List V} {a b : PyData} (h : DpAll K F vs [a, b]) : ∃ x y, vs = [x, y] ∧ Dp K F x a ∧ Dp K F y b := by
  cases h with
  | cons h1 h2 => obtain ⟨y, rfl, h3⟩ := dps1 h2; exact ⟨_, _, rfl, h1, h3⟩
theorem dps3 {vs : List V} {a b c : PyData} (h : DpAll K F vs [a, b, c]) : ∃ x y z, vs = [x, y, z] ∧ Dp K F x a ∧ Dp K F y b ∧ Dp K F z c := by
  cases h with
  | cons h1 h2 => obtain ⟨y, z, rfl, h3, h4⟩ := dps2 h2; exact ⟨_, _, _, rfl, h1, h3, h4⟩
end

/-! ### worlds and rules -/
/-- a step: how much it draws, how long it lasts, how much it gives back -/
structure Stp where
  draw : Int
  long : Int
  back : Int
structure Wld where
  cap : Int
  start : Int
  refill : Int
  ms : List (List Stp)
def stpD (s : Stp) : PyData := .tuple [.int s.draw, .int s.long, .int s.back]
def macD (ss : List Stp) : PyData := .tuple (ss.map stpD)
def wldD (w : Wld) : PyData := .tuple [.tuple [.int w.cap, .int w.start, .int w.refill], .tuple (w.ms.map macD)]
structure StpOk (cap : Int) (s : Stp) : Prop where
  d0 : 0 ≤ s.draw
  d1 : s.draw ≤ cap
  l0 : 1 ≤ s.long
  l1 : s.long ≤ 9
  b0 : 0 ≤ s.back
  b1 : s.back ≤ s.draw
structure WldOk (w : Wld) : Prop where
  c0 : 1 ≤ w.cap
  c1 : w.cap ≤ 99
  s0 : 0 ≤ w.start
  s1 : w.start ≤ w.cap
  r0 : 0 ≤ w.refill
  r1 : w.refill ≤ 9
  m : w.ms.length ≤ 5
  n : ∀ ss ∈ w.ms, ss.length ≤ 6
  st : ∀ ss ∈ w.ms, ∀ s ∈ ss, StpOk w.cap s
/-- the rights, by number -/
inductive Rgt where
  | rank | turns | wait | least
  deriving DecidableEq
def rgtS : Rgt → Str
  | .rank => "rank"
  | .turns => "turns"
  | .wait => "wait"
  | .least => "least"
def rulD (r : Rgt) (p : Bool) : PyData := .tuple [.str (rgtS r), .bool p]

/-- _law_world: some world -/
def aWorld (K : PySem.W.Frag) : List V → Hp → VK → Prop := fun ws F R => ∃ most cap : Int, ws = [.int most, .int cap] ∧ 0 ≤ most ∧ most ≤ 5 ∧ 1 ≤ cap ∧ cap ≤ 99 ∧
  ∀ (v : V) (F' : Hp) (w : Wld), Ex F F' → Dp K F' v (wldD w) → WldOk w → w.cap ≤ cap → (w.ms.length : Int) ≤ most → (∀ ss ∈ w.ms, ss.length ≤ 4) → R v F'
/-- _law_rule: some rule -/
def aRule (K : PySem.W.Frag) : List V → Hp → VK → Prop := fun ws F R => ws = [] ∧ ∀ (v : V) (F' : Hp) (r : Rgt) (p : Bool), Ex F F' → Dp K F' v (rulD r p) → R v F'

section
variable {S : Type} {J : S → Hp → Hp → Prop} {h c : Addr} {σ : L2.St} {s : S} {F : Hp} {R : V → S → Hp → Prop} {te ta : TE} {E : XK}
theorem ew_next {i : Nat} (hd : Hid J) (hv : σ[i]? = some (some (V.ref h))) (k : EW (HJ h c J) ta σ s F fun y s2 F2 => ∃ n : Int, y = .int n ∧ 0 < n ∧ n ≤ 10000000000000 ∧ ∀ r : Int, 0 ≤ r → r < n → R (.int r) s2 F2) :
    EW (HJ h c J) (tCall (LN aNext) [] E (tCons (tVar i) (tCons ta tNil))) σ s F R := by
  refine ew_draw hd (aw_cons (ew_var hv (aw_cons (k.imp fun y s2 F2 ⟨n, e2, h0, h1, k⟩ => aw_nil ⟨[y], rfl, n, by rw [e2], h0, h1, fun r r0 r1 => k r r0 r1⟩))))
theorem ew_world {i : Nat} {K : PySem.W.Frag} {tb : TE} (hd : Hid J) (hv : σ[i]? = some (some (V.ref h))) (k : EW (HJ h c J) ta σ s F fun y s2 F2 => ∃ most : Int, y = .int most ∧ 0 ≤ most ∧ most ≤ 5 ∧ EW (HJ h c J) tb σ s2 F2 fun z s3 F3 => ∃ cap : Int, z = .int cap ∧ 1 ≤ cap ∧ cap ≤ 99 ∧
      ∀ (v : V) (F' : Hp) (w : Wld), Ex F3 F' → Dp K F' v (wldD w) → WldOk w → w.cap ≤ cap → (w.ms.length : Int) ≤ most → (∀ ss ∈ w.ms, ss.length ≤ 4) → R v s3 F') :
    EW (HJ h c J) (tCall (LN (aWorld K)) [] E (tCons (tVar i) (tCons ta (tCons tb tNil)))) σ s F R := by
  refine ew_draw hd (aw_cons (ew_var hv (aw_cons (k.imp fun y s2 F2 ⟨n, e2, h0, h1, k⟩ => aw_cons (k.imp fun z s3 F3 ⟨cp, e3, h2, h3, k⟩ => aw_nil ⟨[y, z], rfl, n, cp, by rw [e2, e3], h0, h1, h2, h3, k⟩)))))
end
theorem LN.body {h c : Addr} {J : Unit → Hp → Hp → Prop} {F H : Hp} {R Q : VK} {t : TS} {σ : L2.St} (j : HJ h c J () F H) (q : ∀ v F' H', HJ h c J () F' H' → R v F' → Q v H')
    (k : SW (HJ h c J) t { nx := fun _ _ F => R .non F, rt := fun v _ F => R v F } σ () F) : t { nx := fun _ H' => Q .non H', rt := Q } σ H := LS.body j q k
end Obr
namespace PySem.SeqAt
open AutoSeq1 (wpAny_loadPart')
open MeetsSeq MeetsSeq2 MeetsSeq3 SeqRoads2
end PySem.SeqAt
namespace Obr
open PySem L2 PySem.Spec PyProof.Rows
section
variable {X : Cx}
/-- xs.remove(y), the items data of any depth: the first that is equal goes -/
def rRemD (K : PySem.W.Frag) : V → List V → Hp → VK → Prop := fun x xs H Q => ∃ (a : Addr) (vs : List V) (y : V) (d : PyData) (ds : List PyData) (j : Nat) (z : PyData), x = V.ref a ∧ xs = [y] ∧ H a = some (.lst vs) ∧ DpAll K H vs ds ∧ Dp K H y d ∧
  SeqAt.shaped (.list ds) = true ∧ SeqAt.shaped d = true ∧ ds[j]? = some z ∧ PyData.eqv z d = true ∧ (∀ (m : Nat) (z' : PyData), m < j → ds[m]? = some z' → PyData.eqv z' d = false) ∧ Q .non (upd H a (.lst (vs.eraseIdx j)))
/-- tuples of whole numbers and truth values, by < -/
def numV : V → Option Int
  | .int i => some i
  | .bl b => some (b2i b)
  | _ => none
def rLtM (K : PySem.W.Frag) : R2 := fun x y H Q => ∃ (a b : Addr) (xs ys : List V) (ns ms : List Int), x = .ref a ∧ y = .ref b ∧ SqT K H a xs ∧ SqT K H b ys ∧ xs.map numV = ns.map some ∧ ys.map numV = ms.map some ∧
  (∀ (j : Nat) (x y : V), xs[j]? = some x → ys[j]? = some y → (∃ i k, x = V.int i ∧ y = V.int k) ∨ ∃ i k, x = V.bl i ∧ y = V.bl k) ∧
  Q (.bl (Ob.lexAt (fun j => decide (ns.getD j 0 = ms.getD j 0)) (fun j => decide (ns.getD j 0 < ms.getD j 0)) (decide (ns.length < ms.length)) 0 (min ns.length ms.length))) H
end
end Obr
namespace Obr
open PySem L2 PySem.Spec PyProof.Rows
section
variable {S : Type} {J : S → Hp → Hp → Prop} {K : PySem.W.Frag} {s : S} {F : Hp} {R : V → S → Hp → Prop}
theorem rw_eqD (hd : Hid J) {x y : V} {d e : PyData} (h1 : Dp K F x d) (h2 : Dp K F y e) (s1 : SeqAt.shaped d = true) (s2 : SeqAt.shaped e = true) (h : R (.bl (PyData.eqv d e)) s F) : RW J (rEqD K) x y s F R := fun H j Q q =>
  ⟨d, e, dp_ex (hd.ex j) h1, dp_ex (hd.ex j) h2, s1, s2, q _ _ _ _ j h⟩
theorem rw_neD (hd : Hid J) {x y : V} {d e : PyData} (h1 : Dp K F x d) (h2 : Dp K F y e) (s1 : SeqAt.shaped d = true) (s2 : SeqAt.shaped e = true) (h : R (.bl (!PyData.eqv d e)) s F) : RW J (rNeD K) x y s F R := fun H j Q q =>
  ⟨d, e, dp_ex (hd.ex j) h1, dp_ex (hd.ex j) h2, s1, s2, q _ _ _ _ j h⟩
end
/-! ### flat data is shaped -/
def flatD : PyData → Bool
  | .none => true
  | .bool _ => true
  | .int _ => true
  | .str _ => true
  | _ => false
/-- data of depth n at most -/
def lowD : Nat → PyData → Bool
  | _, .none => true
  | _, .bool _ => true
  | _, .int _ => true
  | _, .str x => PyData.strOk x
  | n + 1, .list ds => ds.all (lowD n)
  | n + 1, .tuple ds => ds.all (lowD n)
  | _, _ => false
theorem lowD_ok : ∀ (n : Nat) (d : PyData), lowD n d = true → d.canLay0 = true ∧ d.depth ≤ n
  | _, .none, _ => by simp [PyData.canLay0, PyData.depth]
  | _, .bool _, _ => by simp [PyData.canLay0, PyData.depth]
  | _, .int _, _ => by simp [PyData.canLay0, PyData.depth]
  | _, .str x, h => by
    have h' : PyData.strOk x = true := by simpa [lowD] using h
    simp [PyData.canLay0, PyData.depth, h']
  | 0, .list ds, h => by simp [lowD] at h
  | 0, .tuple ds, h => by simp [lowD] at h
  | _, .dict ds, h => by simp [lowD] at h
  | n + 1, .list ds, h => by
    have : ∀ ds : List PyData, ds.all (lowD n) = true → PyData.canLayAll0 ds = true ∧ PyData.depthAll ds ≤ n := fun ds => by
      induction ds with
      | nil => intro _; simp [PyData.canLayAll0, PyData.depthAll]
      | cons d ds ih =>
        intro h
        simp only [List.all_cons, Bool.and_eq_true] at h
        have a := lowD_ok n d h.1
        have b := ih h.2
        simp only [PyData.canLayAll0, PyData.depthAll, Bool.and_eq_true]
        exact ⟨⟨a.1, b.1⟩, by omega⟩
    simp only [lowD] at h
    have := this ds h
    simp only [PyData.canLay0, PyData.depth]
    exact ⟨this.1, by omega⟩
  | n + 1, .tuple ds, h => by
    have : ∀ ds : List PyData, ds.all (lowD n) = true → PyData.canLayAll0 ds = true ∧ PyData.depthAll ds ≤ n := fun ds => by
      induction ds with
      | nil => intro _; simp [PyData.canLayAll0, PyData.depthAll]
      | cons d ds ih =>
        intro h
        simp only [List.all_cons, Bool.and_eq_true] at h
        have a := lowD_ok n d h.1
        have b := ih h.2
        simp only [PyData.canLayAll0, PyData.depthAll, Bool.and_eq_true]
        exact ⟨⟨a.1, b.1⟩, by omega⟩
    simp only [lowD] at h
    have := this ds h
    simp only [PyData.canLay0, PyData.depth]
    exact ⟨this.1, by omega⟩
theorem shaped_low {n : Nat} {d : PyData} (h : lowD n d = true) (hn : n ≤ 64 := by decide) : SeqAt.shaped d = true := by
  have := lowD_ok n d h
  show (d.canLay0 && decide (d.depth ≤ 64)) = true
  rw [Bool.and_eq_true]
  exact ⟨this.1, decide_eq_true (by omega)⟩
end Obr
namespace Obr
open PySem L2
end Obr
namespace Obr
open PySem L2 PySem.Spec PyProof.Rows

/-! ### dicts by keys -/
section
variable {κ : Type} [DecidableEq κ]
end
section
variable {S : Type} {J : S → Hp → Hp → Prop} {K : PySem.W.Frag} {σ : L2.St} {s : S} {F : Hp} {R : V → S → Hp → Prop} {td ty tv te : TE} {D : En S}
/-- the pairs of a display -/
def PPW {S : Type} (J : S → Hp → Hp → Prop) (trs : List (TE × TE)) (σ : L2.St) (s : S) (F : Hp) (R : List (V × V) → S → Hp → Prop) : Prop :=
  ∀ H, J s F H → ∀ Q : List (V × V) → Hp → Prop, (∀ ps s' F' H', J s' F' H' → R ps s' F' → Q ps H') → tPairs trs σ H Q
end
section
variable {X : Cx}
/-- d.update(e), two dicts -/
def rUpdD : V → List V → Hp → VK → Prop := fun x vs H Q => ∃ d o kvs more, x = .ref d ∧ vs = [.ref o] ∧ d ≠ o ∧ H d = some (.dK kvs) ∧ H o = some (.dK more) ∧ kvs.length + more.length ≤ 1000 ∧ Q .non (upd H d (.dK (mergeK kvs more)))
end
section
variable {S : Type} {J : S → Hp → Hp → Prop} {K : PySem.W.Frag} {σ : L2.St} {s : S} {F : Hp} {R : V → S → Hp → Prop} {te : TE} {tr : TA}
end

/-! ### owned cells: F0 knows none of them, F holds each -/
structure Own (F0 F : Hp) (own : List (Addr × HO)) : Prop where
  ex : Ex F0 F
  out : ∀ p ∈ own, F0 p.1 = none
  at_ : ∀ p ∈ own, F p.1 = some p.2
  nd : (own.map (·.1)).Nodup
section
variable {F0 F : Hp} {own : List (Addr × HO)}
theorem Own.get (h : Own F0 F own) {i : Nat} {a : Addr} {o : HO} (e : own[i]? = some (a, o)) : F a = some o := h.at_ (a, o) (List.mem_of_getElem? e)
theorem Own.none (h : Own F0 F own) {i : Nat} {a : Addr} {o : HO} (e : own[i]? = some (a, o)) : F0 a = Option.none := h.out (a, o) (List.mem_of_getElem? e)
theorem own_map_set {i : Nat} {a : Addr} {o o' : HO} (e : own[i]? = some (a, o)) : (own.set i (a, o')).map (·.1) = own.map (·.1) := by
  rw [List.map_set]
  have h : (own.map (·.1))[i]? = some a := by rw [List.getElem?_map, e]; rfl
  refine List.ext_getElem? fun j => ?_
  rw [List.getElem?_set]
  by_cases c : i = j
  · subst c
    rw [if_pos rfl, h]
    have hi : i < own.length := (List.getElem?_eq_some_iff.mp e).1
    simp [hi]
  · rw [if_neg c]
theorem Own.set (h : Own F0 F own) {i : Nat} {a : Addr} {o o' : HO} (e : own[i]? = some (a, o)) : Own F0 (upd F a o') (own.set i (a, o')) where
  ex := h.ex.out (h.none e)
  out := fun p hp => by
    rcases List.mem_or_eq_of_mem_set hp with hp | rfl
    · exact h.out p hp
    · exact h.none e
  at_ := fun p hp => by
    obtain ⟨j, hj⟩ := List.getElem?_of_mem hp
    rw [List.getElem?_set] at hj
    by_cases c : i = j
    · subst c
      rw [if_pos rfl] at hj
      simp at hj
      rw [← hj.2]
      exact upd_same
    · rw [if_neg c] at hj
      have : p.1 ≠ a := fun q => c (nd_ix h.nd (x := a) (by rw [List.getElem?_map, e]; rfl) (by rw [List.getElem?_map, hj]; exact congrArg some q))
      rw [upd_ne this]
      exact h.at_ p (List.mem_of_getElem? hj)
  nd := by rw [own_map_set e]; exact h.nd
/-- a new thing: known to both, or to F alone -/
theorem Own.new (h : Own F0 F own) {p : Addr} {o : HO} (hp : F p = Option.none) : Own (upd F0 p o) (upd F p o) own where
  ex := h.ex.upd
  out := fun q hq => by rw [upd_ne (ne_of_none (h.at_ q hq) hp)]; exact h.out q hq
  at_ := fun q hq => by rw [upd_ne (ne_of_none (h.at_ q hq) hp)]; exact h.at_ q hq
  nd := h.nd
theorem Own.new' (h : Own F0 F own) {p : Addr} {o : HO} (hp : F p = Option.none) : Own F0 (upd F p o) own where
  ex := h.ex.new hp
  out := h.out
  at_ := fun q hq => by rw [upd_ne (ne_of_none (h.at_ q hq) hp)]; exact h.at_ q hq
  nd := h.nd
/-- a new thing that is owned -/
theorem Own.more (h : Own F0 F own) {p : Addr} {o : HO} (hp : F p = Option.none) : Own F0 (upd F p o) ((p, o) :: own) where
  ex := h.ex.new hp
  out := fun q hq => by
    rcases List.mem_cons.mp hq with rfl | hq
    · exact h.ex.free hp
    · exact h.out q hq
  at_ := fun q hq => by
    rcases List.mem_cons.mp hq with rfl | hq
    · exact upd_same
    · rw [upd_ne (ne_of_none (h.at_ q hq) hp)]; exact h.at_ q hq
  nd := by
    rw [List.map_cons, List.nodup_cons]
    refine ⟨fun hm => ?_, h.nd⟩
    obtain ⟨q, hq, e⟩ := List.mem_map.mp hm
    have := h.at_ q hq
    rw [e, hp] at this
    cases this
theorem Own.perm (h : Own F0 F own) {own' : List (Addr × HO)} (p : own'.Perm own) : Own F0 F own' where
  ex := h.ex
  out := fun q hq => h.out q (p.mem_iff.mp hq)
  at_ := fun q hq => h.at_ q (p.mem_iff.mp hq)
  nd := (p.map (·.1)).nodup_iff.mpr h.nd
/-- what is no longer written is known to F0 -/
theorem Own.freeze (h : Own F0 F own) {a : Addr} {o : HO} {own' : List (Addr × HO)} (e : own = (a, o) :: own') : Own (upd F0 a o) F own' := by
  subst e
  exact {
    ex := fun b u hb => by
      by_cases c : b = a
      · subst c
        rw [upd_same] at hb
        rw [← hb]
        exact h.at_ (b, o) List.mem_cons_self
      · rw [upd_ne c] at hb
        exact h.ex b u hb
    out := fun q hq => by
      have : q.1 ≠ a := fun c => by
        have hn := h.nd
        rw [List.map_cons, List.nodup_cons] at hn
        exact hn.1 (by show a ∈ _; rw [← c]; exact List.mem_map_of_mem hq)
      rw [upd_ne this]
      exact h.out q (List.mem_cons_of_mem _ hq)
    at_ := fun q hq => h.at_ q (List.mem_cons_of_mem _ hq)
    nd := (List.nodup_cons.mp (by have := h.nd; rwa [List.map_cons] at this)).2 }
theorem own_nil {F : Hp} : Own F F [] := ⟨.refl _, (fun _ h => by cases h), (fun _ h => by cases h), List.nodup_nil⟩
end
end Obr
namespace Obr
open PySem L2 PySem.Spec PyProof.Rows
theorem Own.grow {F0 F F' : Hp} {own : List (Addr × HO)} (h : Own F0 F own) (g : Ex F F') : Own F0 F' own := ⟨h.ex.trans g, h.out, fun p hp => g _ _ (h.at_ p hp), h.nd⟩
end Obr
namespace Obr
open PySem L2 PySem.Spec PyProof.Rows
end Obr
namespace Obr
open PySem L2 PySem.Spec PyProof.Rows
/-- the list that a comprehension makes stands at D, hidden, with what it has so far -/
def JD {S : Type} (J : S → Hp → Hp → Prop) (D : Addr) (acc : List V) : S → Hp → Hp → Prop := fun s F H => F D = none ∧ J s (upd F D (.lst acc)) H
theorem Hid.jd {S : Type} {J : S → Hp → Hp → Prop} {D : Addr} {acc : List V} (hd : Hid J) : Hid (JD J D acc) where
  ex := fun {s F H} ⟨fd, j⟩ a o e => hd.ex j a o (by rw [upd_ne (fun q => by rw [q, fd] at e; cases e)]; exact e)
  al := fun {s F H p o} ⟨fd, j⟩ hp => by
    have e := hd.fresh j hp
    have n : p ≠ D := fun q => by rw [q, upd_same] at e; cases e
    refine ⟨by rw [upd_ne n.symm]; exact fd, ?_⟩
    have c : upd (upd F p o) D (.lst acc) = upd (upd F D (.lst acc)) p o := by
      funext x
      unfold upd
      by_cases h1 : x = D
      · by_cases h2 : x = p
        · exact absurd (h2.symm.trans h1) n
        · simp [h1, n.symm]
      · by_cases h2 : x = p
        · simp [h2, n]
        · simp [h1, h2]
    rw [c]
    exact hd.al j hp
  mu := fun {s F H a o o'} ⟨fd, j⟩ e => by
    have n : a ≠ D := fun q => by rw [q, fd] at e; cases e
    refine ⟨by rw [upd_ne n.symm]; exact fd, ?_⟩
    have c : upd (upd F a o') D (.lst acc) = upd (upd F D (.lst acc)) a o' := by
      funext x
      unfold upd
      by_cases h1 : x = D
      · by_cases h2 : x = a
        · exact absurd (h2.symm.trans h1) n
        · simp [h1, n.symm]
      · by_cases h2 : x = a
        · simp [h2, n]
        · simp [h1, h2]
    rw [c]
    refine hd.mu j (o := o) ?_
    rw [upd_ne n]
    exact e
section
variable {S : Type} {J : S → Hp → Hp → Prop} {K : PySem.W.Frag} {σ : L2.St} {s : S} {F : Hp} {R : V → S → Hp → Prop} {tl te : TE} {g : TG} {tt : TT} {vs : List Nat} {ta : TA}
/-- what one turn of a comprehension asks -/
def LcTurn (J : S → Hp → Hp → Prop) (Dl : Addr) (g : TG) (tt : TT) (te : TE) (vs : List Nat) (σ : L2.St) (acc : List V) (x : V) (s : S) (F : Hp) (P : List V → S → Hp → Prop) : Prop :=
  GW (JD J Dl acc) g x (wipe σ vs) s F fun σ2 s2 F2 => wipe σ2 vs = wipe σ vs ∧ TW (JD J Dl acc) tt σ2 s2 F2 fun b s3 F3 => (b = true → EW (JD J Dl acc) te σ2 s3 F3 fun y s4 F4 => P (acc ++ [y]) s4 F4) ∧ (b = false → P acc s3 F3)
theorem lc_step (hd : Hid J) {Dl : Addr} {acc : List V} {x : V} {P : List V → S → Hp → Prop} (hz : acc.length < 100000) (h : LcTurn J Dl g tt te vs σ acc x s F P) {H : Hp} (fd : F Dl = none) (j : J s (upd F Dl (.lst acc)) H) {Nx : Hp → Prop}
    (q : ∀ acc s F H, F Dl = none → J s (upd F Dl (.lst acc)) H → P acc s F → Nx H) : g x (wipe σ vs) H fun σ2 H2 => wipe σ2 vs = wipe σ vs ∧ tt σ2 H2 fun b H3 =>
      if b = true then te σ2 H3 fun y H4 => ∃ acc, H4 Dl = some (.lst acc) ∧ acc.length < sizeLine ∧ Nx (upd H4 Dl (.lst (acc ++ [y]))) else Nx H3 :=
  h H ⟨fd, j⟩ _ fun σ2 s2 F2 H2 j2 ⟨hw, k⟩ => ⟨hw, k H2 j2 _ fun b s3 F3 H3 j3 k => by
    cases b with
    | true =>
      refine k.1 rfl H3 j3 _ fun y s4 F4 H4 ⟨fd4, j4⟩ k4 => ⟨acc, hd.ex j4 _ _ upd_same, Nat.lt_of_lt_of_le hz (by decide), q (acc ++ [y]) s4 F4 _ fd4 ?_ k4⟩
      have := hd.mu (o' := .lst (acc ++ [y])) j4 upd_same
      rw [upd_upd] at this
      exact this
    | false => exact q acc s3 F3 _ j3.1 j3.2 (k.2 rfl)⟩
theorem ew_lcT (hd : Hid J) (h : EW J tl σ s F fun v s1 F1 => ∃ a xs, v = .ref a ∧ SqT K F1 a xs ∧ xs.length ≤ 100000 ∧ ∀ Dl, F1 Dl = none → ∃ Pv : Nat → List V → S → Hp → Prop, Pv 0 [] s1 F1 ∧
      (∀ i acc s F, i ≤ xs.length → F Dl = none → Pv i acc s F → SqT K F a xs ∧ acc.length ≤ i) ∧ (∀ (i : Nat) acc x s F, xs[i]? = some x → F Dl = none → Pv i acc s F → LcTurn J Dl g tt te vs σ acc x s F (Pv (i + 1))) ∧
      (∀ acc s F, F Dl = none → Pv xs.length acc s F → R (.ref Dl) s (upd F Dl (.lst acc)))) : EW J (tLc (iTup K tl) g tt te vs) σ s F R := fun H j Q q =>
  h H j _ fun v s1 F1 H1 j1 ⟨a, xs, e, l1, hz, k⟩ => ⟨a, e, ⟨xs, hd.sqT j1 l1⟩, fun Dl hD => by
    have fD := hd.fresh j1 hD
    obtain ⟨Pv, h0, hl, hs, hdn⟩ := k Dl fD
    refine lc_tup (xs := xs) (fun i H => ∃ acc s F, i ≤ xs.length ∧ F Dl = none ∧ J s (upd F Dl (.lst acc)) H ∧ Pv i acc s F) ⟨[], s1, F1, Nat.zero_le _, fD, hd.al j1 hD, h0⟩ (fun i H' hi ⟨acc, s', F', _, f1, j', p⟩ => ?_) (fun i x H' hi ⟨acc, s', F', hle, f1, j', p⟩ => ?_) (fun H' ⟨acc, s', F', _, f1, j', p⟩ => q _ _ _ _ j' (hdn acc s' F' f1 p))
    · refine hd.sqT j' ?_
      obtain ⟨f2, _⟩ := hl i acc s' F' hi f1 p
      exact Ex.sqT (Ex.out (Ex.refl _) f1) f2
    · have hlt := (List.getElem?_eq_some_iff.mp hi).1
      obtain ⟨f2, f3⟩ := hl i acc s' F' hle f1 p
      exact lc_step hd (by omega) (hs i acc x s' F' hi f1 p) f1 j' fun acc s F H fd j p => ⟨acc, s, F, by omega, fd, j, p⟩⟩
theorem ew_lcL (hd : Hid J) (h : EW J tl σ s F fun v s1 F1 => ∃ a xs, v = .ref a ∧ SqL K F1 a xs ∧ xs.length ≤ 100000 ∧ ∀ Dl, F1 Dl = none → ∃ Pv : Nat → List V → S → Hp → Prop, Pv 0 [] s1 F1 ∧
      (∀ i acc s F, i ≤ xs.length → F Dl = none → Pv i acc s F → SqL K F a xs ∧ acc.length ≤ i) ∧ (∀ (i : Nat) acc x s F, xs[i]? = some x → F Dl = none → Pv i acc s F → LcTurn J Dl g tt te vs σ acc x s F (Pv (i + 1))) ∧
      (∀ acc s F, F Dl = none → Pv xs.length acc s F → R (.ref Dl) s (upd F Dl (.lst acc)))) : EW J (tLc (iList K tl) g tt te vs) σ s F R := fun H j Q q =>
  h H j _ fun v s1 F1 H1 j1 ⟨a, xs, e, l1, hz, k⟩ => ⟨a, e, ⟨xs, hd.sqL j1 l1⟩, fun Dl hD => by
    have fD := hd.fresh j1 hD
    obtain ⟨Pv, h0, hl, hs, hdn⟩ := k Dl fD
    refine lc_list (xs := xs) (fun i H => ∃ acc s F, i ≤ xs.length ∧ F Dl = none ∧ J s (upd F Dl (.lst acc)) H ∧ Pv i acc s F) ⟨[], s1, F1, Nat.zero_le _, fD, hd.al j1 hD, h0⟩ (fun i H' hi ⟨acc, s', F', _, f1, j', p⟩ => ?_) (fun i x H' hi ⟨acc, s', F', hle, f1, j', p⟩ => ?_) (fun H' ⟨acc, s', F', _, f1, j', p⟩ => q _ _ _ _ j' (hdn acc s' F' f1 p))
    · refine hd.sqL j' ?_
      obtain ⟨f2, _⟩ := hl i acc s' F' hi f1 p
      exact Ex.sqL (Ex.out (Ex.refl _) f1) f2
    · have hlt := (List.getElem?_eq_some_iff.mp hi).1
      obtain ⟨f2, f3⟩ := hl i acc s' F' hle f1 p
      exact lc_step hd (by omega) (hs i acc x s' F' hi f1 p) f1 j' fun acc s F H fd j p => ⟨acc, s, F, by omega, fd, j, p⟩⟩
theorem ew_lcR (hd : Hid J) (h : AW J ta σ s F fun ws s1 F1 => ∃ n : Int, ws = [.int n] ∧ n ≤ 100000 ∧ -100000 ≤ n ∧ ∀ Dl, F1 Dl = none → ∃ Pv : Nat → List V → S → Hp → Prop, Pv 0 [] s1 F1 ∧
      (∀ (i : Nat) acc s F, i ≤ n.toNat → F Dl = none → Pv i acc s F → acc.length ≤ i) ∧ (∀ (i : Nat) acc s F, (i : Int) < n → F Dl = none → Pv i acc s F → LcTurn J Dl g tt te vs σ acc (.int (i : Int)) s F (Pv (i + 1))) ∧
      (∀ acc s F, F Dl = none → Pv n.toNat acc s F → R (.ref Dl) s (upd F Dl (.lst acc)))) : EW J (tLc (iRng1 ta) g tt te vs) σ s F R := fun H j Q q =>
  h H j _ fun v s1 F1 H1 j1 ⟨n, e, hz, hz2, k⟩ => ⟨n, e, by omega, by omega, fun Dl hD => by
    have fD := hd.fresh j1 hD
    obtain ⟨Pv, h0, hl, hs, hdn⟩ := k Dl fD
    refine lc_range (lo := 0) (n := n.toNat) (fun i H => ∃ acc s F, i ≤ n.toNat ∧ F Dl = none ∧ J s (upd F Dl (.lst acc)) H ∧ Pv i acc s F) ⟨[], s1, F1, Nat.zero_le _, fD, hd.al j1 hD, h0⟩ (fun i H' hi ⟨acc, s', F', hle, f1, j', p⟩ => ?_) (fun H' ⟨acc, s', F', _, f1, j', p⟩ => q _ _ _ _ j' (hdn acc s' F' f1 p))
    have f3 := hl i acc s' F' hle f1 p
    have e0 : (0 : Int) + (i : Int) = (i : Int) := Int.zero_add _
    rw [e0]
    exact lc_step hd (by omega) (hs i acc s' F' (by omega) f1 p) f1 j' fun acc s F H fd j p => ⟨acc, s, F, by omega, fd, j, p⟩⟩
end
end Obr
namespace Obr
open PySem L2
def top (i : Nat) : Stmt := PySem.Challenge.pw_onebreath_k20_whole_loans_pauses_and_mer.main.body.getD i (.Pass ⟨0, 0, 0, 0⟩)

local macro_rules | `(tactic| walk_at "ob_at") => `(tactic| first
  | assumption
  | exact upd_same
  | (refine Eq.trans (upd_ne ?obn) ?obr; (case obn => walk_at "ob_ne"); (case obr => walk_at "ob_at")))
local macro_rules | `(tactic| walk_at "ob_ne") => `(tactic| first
  | assumption
  | (refine Ne.symm ?obs; (case obs => assumption))
  | (refine' ne_of_none (H := ?_) ?obe ?obh; (case obh => assumption); (case obe => walk_at "ob_at"))
  | (refine Ne.symm ?obs; (case obs => (refine' ne_of_none (H := ?_) ?obe ?obh; (case obh => assumption); (case obe => walk_at "ob_at")))))
local macro_rules | `(tactic| walk_at "ob_fr") => `(tactic| first
  | assumption
  | (refine Eq.trans (upd_ne ?obn) ?obr; (case obn => walk_at "ob_ne"); (case obr => walk_at "ob_fr"))
  | (refine Ex.free (G := ?_) (by assumption) ?obh; (case obh => walk_at "ob_fr")))
local macro_rules | `(tactic| walk_at "ob_ex") => `(tactic| first
  | assumption
  | exact Ex.refl _
  | (refine Ex.out ?obg ?obh; (case obh => assumption); (case obg => walk_at "ob_ex"))
  | (refine Ex.new ?obg ?obh; (case obh => assumption); (case obg => walk_at "ob_ex"))
  | (refine Ex.new ?obg ?obh; (case obh => walk_at "ob_fr"); (case obg => walk_at "ob_ex")))
local macro_rules | `(tactic| walk_at "ob_sq") => `(tactic| first
  | assumption
  | (refine SqL.of ?oba; (case oba => walk_at "ob_at"))
  | (refine SqT.of ?oba; (case oba => walk_at "ob_at")))
local macro_rules | `(tactic| walk_at "ob_side") => `(tactic| first | exact rfl | assumption | decide | omega | exact ⟨by decide, by decide, by decide⟩ | exact Or.inr ⟨by decide, by decide⟩ | exact Or.inl ⟨by decide, by decide⟩)
local macro_rules | `(tactic| walk_at "ob1") => `(tactic| first
  | with_reducible refine sw_seq ?_
  | with_reducible refine sw_asg ?_
  | with_reducible refine sw_ret ?_
  | with_reducible refine sw_drop ?_
  | with_reducible refine sw_if ?_
  | with_reducible refine sw_next ?_
  | with_reducible refine gw_name ?_
  | with_reducible refine ew_c ?_
  | ((with_reducible refine' ew_var (v := ?_) ?obv ?_); (case obv => exact rfl))
  | with_reducible refine ew_op ?_
  | with_reducible refine ew_un ?_
  | with_reducible refine ew_cb ?_
  | with_reducible refine ew_if ?_
  | with_reducible refine aw_nil ?_
  | with_reducible refine aw_cons ?_
  | with_reducible refine rw_I0 ?_
  | ((with_reducible refine rw_I ?obc ?_); (case obc => walk_at "ob_side"))
  | ((with_reducible refine rw_eq ?obc ?_); (case obc => exact rfl))
  | ((with_reducible refine rw_ne ?obc ?_); (case obc => exact rfl))
  | with_reducible refine cw_max2 ?_
  | with_reducible refine cw_min2 ?_
  | with_reducible refine tw_test ?_
  | with_reducible refine tw_B ?_
  | with_reducible refine tw_not ?_
  | with_reducible refine ⟨_, rfl, ?_⟩
  | ((with_reducible refine' rw_ixL (v := ?_) (xs := ?_) (by assumption) ?obl ?oba ?_); (case obl => walk_at "ob_sq"); (case oba => exact rfl))
  | ((with_reducible refine' rw_ixT (v := ?_) (xs := ?_) (by assumption) ?obl ?oba ?_); (case obl => walk_at "ob_sq"); (case oba => exact rfl))
  | ((with_reducible refine' ew_lst (by assumption) ?_))
  | ((with_reducible refine' ew_tup (by assumption) ?_)))
local macro_rules | `(tactic| walk_at "ob") => `(tactic| repeat walk_at "ob1")

abbrev sNext : Stmt := top 38
def N_next : List Str := ["_law_h", "_law_many", "_law_cell"]
theorem sc_next : FnScope N_next ["_law_h", "_law_many"] (defScope sNext) := ⟨rfl, rfl, rfl, by decide +kernel, rfl, by decide +kernel, by decide +kernel⟩
section
variable {P : Program} {w : World} {K : PySem.W.Frag} {mg : Str → Option Value} {base : Heap}

theorem ok_next {f : Addr} {fd : FuncData} (Fn : Fun K "_law_next" "_law_next" sNext f fd) (B : Blt mg) : FnOk P w K mg base CX0 1 f fd ["_law_h", "_law_many"] (LN aNext) := by
  refine Fn.ok sc_next (fun vs H Q E h => ?_) (fun cdv A outer s H vs Q E hr h => ?_)
  · obtain ⟨h, c, J, F, R, ws, hd, rfl, j, ⟨n, rfl, _⟩, _⟩ := h
    rfl
  · have nd := sc_next.nd
    obtain ⟨h, c, J, F, R, ws, hd, rfl, ⟨G, m, p, cells, g, fh, fc, m0, m1, p0, l, gh, gc, j⟩, ⟨n, rfl, n0, n1, k⟩, q⟩ := h
    have hc : h ≠ c := fun e => by
      subst e
      rw [gh] at gc
      have := Option.some.inj gc
      unfold hL cL at this
      injection this with e1
      cases cells with
      | nil => cases e1
      | cons z t => cases t with
        | nil => cases e1
        | cons z2 t =>
          have := (List.cons.inj (List.cons.inj e1).2).1
          cases this
    refine ⟨_, (pss_cons (ps_set (i := 2) nd rfl (Or.inl rfl) (pe_ix ix_list (pe_op op_cat (pe_ix ix_list (pv 0) pe_int (fun _ _ => rfl)) (pe_lst (pa_cons pe_int pa_nil))) (pe_op op_mod (pe_ix ix_list (pv 0) pe_int (fun _ _ => rfl)) (pe_callB (call_max2 rfl) (by rfl) B.max (by decide +kernel) (pa_cons pe_int (pa_cons (pe_callB call_len_seq (by rfl) B.len (by decide +kernel) (pa_cons (pe_ix ix_list (pv 0) pe_int (fun _ _ => rfl)) pa_nil)) pa_nil)))) (fun _ _ => rfl)))
      (pss_cons (ps_if (pt_cmpR op_ge (pv 2) (pe_op op_pow pe_int pe_int) (nomark _)) (pss_cons (ps_asg (pe_op op_fdivW (pv 2) (pv 1)) (pg_sub (pe_ix ix_list (pv 0) pe_int (fun _ _ => rfl)) (pe_op op_mod (pe_ix ix_list (pv 0) pe_int (fun _ _ => rfl)) (pe_callB call_len_seq (by rfl) B.len (by decide +kernel) (pa_cons (pe_ix ix_list (pv 0) pe_int (fun _ _ => rfl)) pa_nil))) set_list))
      (pss_one (ps_ret (pe_op op_mod (pv 2) (pv 1))))) pss_nil)
      (pss_cons (ps_asg (pe_op op_mod (pe_op op_add (pe_op op_add (pe_op op_mul (pe_ix ix_list (pv 0) pe_int (fun _ _ => rfl)) pe_int) (pe_op op_mul (pv 2) pe_int)) pe_int) pe_int) (pg_sub (pv 0) pe_int set_list))
      (pss_cons (ps_asg (pe_op op_add (pe_ix ix_list (pv 0) pe_int (fun _ _ => rfl)) pe_int) (pg_sub (pv 0) pe_int set_list))
      (pss_one (ps_ret (pe_op op_mod (pe_op op_fdivW (pe_ix ix_list (pv 0) pe_int (fun _ _ => rfl)) pe_int) (pv 1)))))))), ?_⟩
    refine LS.body j (R := fun v G => ∃ (m p : Int) (cells : List Int), Ex F G ∧ 0 ≤ m ∧ m < 2147483647 ∧ 0 ≤ p ∧ cells.length ≤ 63 ∧ G h = some (hL c m p) ∧ G c = some (cL cells) ∧ R v F)
      (fun v G' H' j' ⟨m', p', cells', g1, g4, g5, g6, g7, e1, e2, r⟩ => q v F H' ⟨G', m', p', cells', g1, fh, fc, g4, g5, g6, g7, e1, e2, j'⟩ r) ?_
    walk_at "ob"
    refine ⟨by decide, fun p1 hp1 => ?_⟩
    walk_at "ob"
    refine rw_cat hd (xs := cells.map V.int) (zs := [V.int 0]) (by walk_at "ob_at") (by walk_at "ob_at") (by simp; omega) fun p2 hp2 => ?_
    walk_at "ob"
    refine cw_lenS hd (ys := cells.map V.int) (Or.inl (by walk_at "ob_sq")) ?_
    walk_at "ob"
    have M0 : 0 < (if ((cells.map V.int).length : Int) > 1 then ((cells.map V.int).length : Int) else 1) := by split <;> omega
    have e0 := Int.emod_nonneg p (show (if ((cells.map V.int).length : Int) > 1 then ((cells.map V.int).length : Int) else 1) ≠ 0 by omega)
    have e1 := Int.emod_lt_of_pos p M0
    generalize ei : p % (if ((cells.map V.int).length : Int) > 1 then ((cells.map V.int).length : Int) else 1) = i at e0 e1
    have e2 : i < ((cells ++ [0]).length : Nat) := by
      rw [List.length_append]
      rw [List.length_map] at e1
      simp only [List.length_singleton]
      split at e1 <;> omega
    have e3 : (cells.map V.int) ++ [V.int 0] = (cells ++ [0]).map V.int := by rw [List.map_append]; rfl
    rw [e3]
    refine rw_ixL hd (SqL.of (by walk_at "ob_at")) (at_ints e0 e2) ?_
    generalize ez : (cells ++ [0]).getD i.toNat 0 = z
    walk_at "ob"
    have e18 : (10 : Int) ^ (18 : Int).toNat = 1000000000000000000 := by decide
    refine ⟨fun hb => ?_, fun hb => ?_⟩
    · have hz := of_decide_eq_true hb
      rw [e18] at hz
      have hcells : 0 < cells.length := by
        cases cells with
        | nil =>
          simp only [List.nil_append] at ez
          cases hi : i.toNat with
          | zero => rw [hi] at ez; simp at ez; omega
          | succ k => rw [hi] at ez; simp at ez; omega
        | cons a t => simp
      walk_at "ob"
      refine rw_I (wide_div (b := 60) n0 (by omega) (by decide) (by decide)) ?_
      refine gw_subL hd ?_
      walk_at "ob"
      refine cw_lenS hd (ys := cells.map V.int) (Or.inl (by walk_at "ob_sq")) ?_
      walk_at "ob"
      have L0 : 0 < ((cells.map V.int).length : Int) := by rw [List.length_map]; omega
      refine rw_I L0 ?_
      have f0 := Int.emod_nonneg p (show ((cells.map V.int).length : Int) ≠ 0 by omega)
      have f1 := Int.emod_lt_of_pos p L0
      refine ⟨c, _, _, _, rfl, rfl, (by walk_at "ob_at"), ixN_of f0 (by exact f1), ?_⟩
      walk_at "ob"
      refine ⟨m, p, cells.set (p % ((cells.map V.int).length : Int)).toNat (z / n), by walk_at "ob_ex", m0, m1, p0, by rw [List.length_set]; exact l, by walk_at "ob_at", ?_, k _ (Int.emod_nonneg _ (by omega)) (Int.emod_lt_of_pos _ n0)⟩
      rw [map_set_int]
      exact upd_same
    · walk_at "ob"
      refine gw_subL hd ?_
      walk_at "ob"
      refine ⟨h, _, _, _, rfl, rfl, (by walk_at "ob_at"), rfl, ?_⟩
      walk_at "ob"
      refine gw_subL hd ?_
      walk_at "ob"
      refine ⟨h, _, _, _, rfl, rfl, (by walk_at "ob_at"), rfl, ?_⟩
      walk_at "ob"
      refine rw_I (wide_div (b := 10) (by decide) (by decide) (by decide) (by decide)) ?_
      walk_at "ob"
      refine ⟨_, p + 1, cells, by walk_at "ob_ex", ?_, ?_, by omega, l, upd_same, by walk_at "ob_at", k _ (Int.emod_nonneg _ (by omega)) (Int.emod_lt_of_pos _ n0)⟩
      · exact Int.emod_nonneg _ (by decide)
      · exact Int.emod_lt_of_pos _ (by decide)
end
end Obr
namespace Obr
open PySem L2
local macro_rules | `(tactic| walk_at "ob_at") => `(tactic| first
  | assumption
  | exact upd_same
  | (refine Eq.trans (upd_ne ?obn) ?obr; (case obn => walk_at "ob_ne"); (case obr => walk_at "ob_at")))
local macro_rules | `(tactic| walk_at "ob_ne") => `(tactic| first
  | assumption
  | (refine Ne.symm ?obs; (case obs => assumption))
  | (refine' ne_of_none (H := ?_) ?obe ?obh; (case obh => assumption); (case obe => walk_at "ob_at"))
  | (refine Ne.symm ?obs; (case obs => (refine' ne_of_none (H := ?_) ?obe ?obh; (case obh => assumption); (case obe => walk_at "ob_at")))))
local macro_rules | `(tactic| walk_at "ob_fr") => `(tactic| first
  | assumption
  | (refine Eq.trans (upd_ne ?obn) ?obr; (case obn => walk_at "ob_ne"); (case obr => walk_at "ob_fr"))
  | (refine Ex.free (G := ?_) (by assumption) ?obh; (case obh => walk_at "ob_fr")))
local macro_rules | `(tactic| walk_at "ob_ex") => `(tactic| first
  | assumption
  | exact Ex.refl _
  | (refine Ex.out ?obg ?obh; (case obh => assumption); (case obg => walk_at "ob_ex"))
  | (refine Ex.new ?obg ?obh; (case obh => assumption); (case obg => walk_at "ob_ex"))
  | (refine Ex.new ?obg ?obh; (case obh => walk_at "ob_fr"); (case obg => walk_at "ob_ex")))
local macro_rules | `(tactic| walk_at "ob_sq") => `(tactic| first
  | assumption
  | (refine SqL.of ?oba; (case oba => walk_at "ob_at"))
  | (refine SqT.of ?oba; (case oba => walk_at "ob_at")))
local macro_rules | `(tactic| walk_at "ob_side") => `(tactic| first | exact rfl | assumption | decide | omega | exact ⟨by decide, by decide, by decide⟩ | exact Or.inr ⟨by decide, by decide⟩ | exact Or.inl ⟨by decide, by decide⟩)
local macro_rules | `(tactic| walk_at "ob1") => `(tactic| first
  | with_reducible refine sw_seq ?_
  | with_reducible refine sw_asg ?_
  | with_reducible refine sw_ret ?_
  | with_reducible refine sw_drop ?_
  | with_reducible refine sw_if ?_
  | with_reducible refine sw_next ?_
  | with_reducible refine gw_name ?_
  | with_reducible refine ew_c ?_
  | ((with_reducible refine' ew_var (v := ?_) ?obv ?_); (case obv => exact rfl))
  | ((with_reducible refine ew_next (by assumption) ?obv ?_); (case obv => exact rfl))
  | ((with_reducible refine ew_world (by assumption) ?obv ?_); (case obv => exact rfl))
  | ((with_reducible refine ew_rule (by assumption) ?obv ?_); (case obv => exact rfl))
  | with_reducible refine ew_op ?_
  | with_reducible refine ew_un ?_
  | with_reducible refine ew_cb ?_
  | with_reducible refine ew_if ?_
  | with_reducible refine aw_nil ?_
  | with_reducible refine aw_cons ?_
  | with_reducible refine rw_I0 ?_
  | ((with_reducible refine rw_I ?obc ?_); (case obc => walk_at "ob_side"))
  | ((with_reducible refine rw_eq ?obc ?_); (case obc => exact rfl))
  | ((with_reducible refine rw_ne ?obc ?_); (case obc => exact rfl))
  | with_reducible refine cw_max2 ?_
  | with_reducible refine cw_min2 ?_
  | with_reducible refine tw_test ?_
  | with_reducible refine tw_B ?_
  | with_reducible refine tw_not ?_
  | (refine' Exists.intro _ (And.intro (show V.bl _ = V.bl _ from rfl) ?_))
  | (refine' Exists.intro _ (And.intro (show V.int _ = V.int _ from rfl) ?_))
  | ((with_reducible refine' rw_ixL (v := ?_) (xs := ?_) (by assumption) ?obl ?oba ?_); (case obl => walk_at "ob_sq"); (case oba => exact rfl))
  | ((with_reducible refine' rw_ixT (v := ?_) (xs := ?_) (by assumption) ?obl ?oba ?_); (case obl => walk_at "ob_sq"); (case oba => exact rfl))
  | ((with_reducible refine' ew_lst (by assumption) ?_))
  | ((with_reducible refine' ew_tup (by assumption) ?_)))
local macro_rules | `(tactic| walk_at "ob_len") => `(tactic| first | exact Nat.le_of_ble_eq_true rfl | (simp; done) | omega)
local macro_rules | `(tactic| walk_at "ob") => `(tactic| repeat walk_at "ob1")

abbrev sMix : Stmt := top 37
def N_mix : List Str := ["_law_script", "_law_seed", "_law_mixed", "_law_cell"]
theorem sc_mix : FnScope N_mix ["_law_script", "_law_seed"] (defScope sMix) := ⟨rfl, rfl, rfl, by decide +kernel, rfl, by decide +kernel, by decide +kernel⟩
abbrev sRule : Stmt := top 41
def N_rule : List Str := ["_law_h"]
theorem sc_rule : FnScope N_rule ["_law_h"] (defScope sRule) := ⟨rfl, rfl, rfl, by decide +kernel, rfl, by decide +kernel, by decide +kernel⟩
section
variable {P : Program} {w : World} {K : PySem.W.Frag} {mg : Str → Option Value} {base : Heap}
theorem ok_mix {f : Addr} {fd : FuncData} (Fn : Fun K "_law_mix" "_law_mix" sMix f fd) (B : Blt mg) : FnOk P w K mg base CX0 1 f fd ["_law_script", "_law_seed"] (LS (aMix K)) := by
  refine Fn.ok sc_mix (fun vs H Q E h => ?_) (fun cdv A outer s H vs Q E hr h => ?_)
  · obtain ⟨J, F, R, hd, j, ⟨a, ns, z, rfl, _⟩, _⟩ := h
    rfl
  · have nd := sc_mix.nd
    obtain ⟨J, F, R, hd, j, ⟨a, ns, z, rfl, hl, z0, z1, k⟩, q⟩ := h
    refine ⟨_, (pss_cons (ps_set (i := 2) nd rfl (Or.inl rfl) (pv 1))
      (pss_cons (ps_for PassesOwn.never rfl (pi_list (pv 0)) (pg_name (i := 3) nd rfl (Or.inl rfl)) (pss_one (ps_set (i := 2) nd rfl (Or.inl rfl) (pe_op op_mod (pe_op op_add (pe_op op_add (pe_op op_mul (pv 2) pe_int) (pe_op op_mod (pv 3) pe_int)) pe_int) pe_int))))
      (pss_one (ps_ret (pe_lst (pa_cons (pv 2) (pa_cons (pe_callTy call_list_of (by rfl) B.list (by decide +kernel) (pa_cons (pv 0) pa_nil)) (pa_cons pe_int pa_nil)))))))), ?_⟩
    refine LS.body j q ?_
    walk_at "ob"
    refine sw_forL hd ?_
    walk_at "ob"
    refine ⟨a, ns.map V.int, fun i σ s G => G = F ∧ ∃ (m : Int) (y : Option V), σ = [some (.ref a), some (.int z), some (.int m), y] ∧ 0 ≤ m ∧ m < 2147483647, rfl, hl, ⟨rfl, z, none, rfl, z0, z1⟩, ?_, ?_, ?_⟩
    · rintro i σ s G hi ⟨rfl, _⟩
      exact hl
    · rintro i x σ s G hi ⟨rfl, m, y, rfl, m0, m1⟩
      obtain ⟨u, rfl⟩ : ∃ u, x = V.int u := by
        rw [List.getElem?_map] at hi
        cases e : ns[i]? with
        | none => rw [e] at hi; cases hi
        | some u => rw [e] at hi; exact ⟨u, (Option.some.inj hi).symm⟩
      walk_at "ob"
      exact ⟨rfl, _, _, rfl, Int.emod_nonneg _ (by decide), Int.emod_lt_of_pos _ (by decide)⟩
    · rintro σ s G ⟨rfl, m, y, rfl, m0, m1⟩
      walk_at "ob"
      refine cw_list hd (ys := ns.map V.int) (Or.inl (by exact hl)) fun c hc => ?_
      walk_at "ob"
      refine ⟨by walk_at "ob_len", fun h hh => ?_⟩
      exact k m c h m0 m1 hc (Ex.free (Ex.new (Ex.refl _) hc) hh) (ne_of_none upd_same hh)
theorem ok_rule {f f1 : Addr} {fd fd1 : FuncData} (Fn : Fun K "_law_rule" "_law_rule" sRule f fd) (B : Blt mg)
    (C_law_next : Cal K mg "_law_next" f1 fd1 ["_law_h", "_law_many"]) (G_law_next : FnOk P w K mg base CX0 1 f1 fd1 ["_law_h", "_law_many"] (LN aNext)) :
    FnOk P w K mg base CX0 2 f fd ["_law_h"] (LN (aRule K)) := by
  refine Fn.ok sc_rule (fun vs H Q E h => ?_) (fun cdv A outer s H vs Q E hr h => ?_)
  · obtain ⟨h, c, J, F, R, ws, hd, rfl, j, ⟨rfl, _⟩, _⟩ := h
    rfl
  · have nd := sc_rule.nd
    obtain ⟨h, c, J, F, R, ws, hd0, rfl, j, ⟨rfl, k⟩, q⟩ := h
    have hd := hd0.hj (h := h) (c := c)
    refine ⟨_, (pss_one (ps_ret (pe_tup (pa_cons (pe_ix ix_list (pe_lst (pa_cons pe_str (pa_cons pe_str (pa_cons pe_str (pa_cons pe_str pa_nil))))) (pe_call G_law_next (hr.mono (by decide)) (by rfl) C_law_next.g C_law_next.k C_law_next.a .nil pass0 (pa_cons (pv 0) (pa_cons pe_int pa_nil))) (fun _ _ => rfl)) (pa_cons (pe_cmpR op_eq (pe_call G_law_next (hr.mono (by decide)) (by rfl) C_law_next.g C_law_next.k C_law_next.a .nil pass0 (pa_cons (pv 0) (pa_cons pe_int pa_nil))) pe_int (nomark _)) pa_nil))))), ?_⟩
    refine LN.body j q ?_
    walk_at "ob"
    refine ⟨by walk_at "ob_len", fun p hp => ?_⟩
    walk_at "ob"
    refine ⟨by decide, by decide, fun r r0 r1 => ?_⟩
    obtain ⟨rg, er⟩ : ∃ rg : Rgt, atI [V.str "rank", V.str "turns", V.str "wait", V.str "least"] r = some (V.str (rgtS rg)) := by
      have : r = 0 ∨ r = 1 ∨ r = 2 ∨ r = 3 := by omega
      rcases this with rfl | rfl | rfl | rfl
      · exact ⟨.rank, rfl⟩
      · exact ⟨.turns, rfl⟩
      · exact ⟨.wait, rfl⟩
      · exact ⟨.least, rfl⟩
    refine rw_ixL hd (SqL.of upd_same) er ?_
    walk_at "ob"
    refine ⟨by decide, by decide, fun r2 r20 r21 => ?_⟩
    walk_at "ob"
    refine ⟨by walk_at "ob_len", fun t ht => ?_⟩
    exact k _ _ rg _ (by walk_at "ob_ex") (.tup (SqT.of upd_same) (.cons (.str _) (.cons (.bl _) .nil)))
end
end Obr
namespace Obr
open PySem L2
local macro_rules | `(tactic| walk_at "ob_at") => `(tactic| first
  | assumption
  | exact upd_same
  | (refine Eq.trans (upd_ne ?obn) ?obr; (case obn => walk_at "ob_ne"); (case obr => walk_at "ob_at")))
local macro_rules | `(tactic| walk_at "ob_ne") => `(tactic| first
  | assumption
  | (refine Ne.symm ?obs; (case obs => assumption))
  | (refine' ne_of_none (H := ?_) ?obe ?obh; (case obh => assumption); (case obe => walk_at "ob_at"))
  | (refine Ne.symm ?obs; (case obs => (refine' ne_of_none (H := ?_) ?obe ?obh; (case obh => assumption); (case obe => walk_at "ob_at")))))
local macro_rules | `(tactic| walk_at "ob_fr") => `(tactic| first
  | assumption
  | (refine Eq.trans (upd_ne ?obn) ?obr; (case obn => walk_at "ob_ne"); (case obr => walk_at "ob_fr"))
  | (refine Ex.free (G := ?_) (by assumption) ?obh; (case obh => walk_at "ob_fr")))
local macro_rules | `(tactic| walk_at "ob_ex") => `(tactic| first
  | assumption
  | exact Ex.refl _
  | (refine Ex.out ?obg ?obh; (case obh => assumption); (case obg => walk_at "ob_ex"))
  | (refine Ex.new ?obg ?obh; (case obh => assumption); (case obg => walk_at "ob_ex"))
  | (refine Ex.new ?obg ?obh; (case obh => walk_at "ob_fr"); (case obg => walk_at "ob_ex")))
local macro_rules | `(tactic| walk_at "ob_sq") => `(tactic| first
  | assumption
  | (refine SqL.of ?oba; (case oba => walk_at "ob_at"))
  | (refine SqT.of ?oba; (case oba => walk_at "ob_at")))
local macro_rules | `(tactic| walk_at "ob_side") => `(tactic| first | exact rfl | assumption | decide | omega | exact ⟨by decide, by decide, by decide⟩ | exact Or.inr ⟨by decide, by decide⟩ | exact Or.inl ⟨by decide, by decide⟩ | exact wide_div (b := 60) (by first | decide | omega) (by first | decide | omega) (by decide) (by decide))
local macro_rules | `(tactic| walk_at "ob1") => `(tactic| first
  | with_reducible refine sw_seq ?_
  | with_reducible refine sw_asg ?_
  | with_reducible refine sw_ret ?_
  | with_reducible refine sw_drop ?_
  | with_reducible refine sw_if ?_
  | with_reducible refine sw_next ?_
  | with_reducible refine gw_name ?_
  | with_reducible refine ew_c ?_
  | ((with_reducible refine' ew_var (v := ?_) ?obv ?_); (case obv => exact rfl))
  | ((with_reducible refine ew_next (by assumption) ?obv ?_); (case obv => exact rfl))
  | ((with_reducible refine ew_world (by assumption) ?obv ?_); (case obv => exact rfl))
  | ((with_reducible refine ew_rule (by assumption) ?obv ?_); (case obv => exact rfl))
  | with_reducible refine ew_op ?_
  | with_reducible refine ew_un ?_
  | with_reducible refine ew_cb ?_
  | with_reducible refine ew_if ?_
  | with_reducible refine aw_nil ?_
  | with_reducible refine aw_cons ?_
  | with_reducible refine rw_I0 ?_
  | ((with_reducible refine rw_I ?obc ?_); (case obc => walk_at "ob_side"))
  | ((with_reducible refine rw_eq ?obc ?_); (case obc => exact rfl))
  | ((with_reducible refine rw_ne ?obc ?_); (case obc => exact rfl))
  | with_reducible refine cw_max2 ?_
  | with_reducible refine cw_min2 ?_
  | with_reducible refine tw_test ?_
  | with_reducible refine tw_B ?_
  | with_reducible refine tw_not ?_
  | (refine' Exists.intro _ (And.intro (show V.bl _ = V.bl _ from rfl) ?_))
  | (refine' Exists.intro _ (And.intro (show V.int _ = V.int _ from rfl) ?_))
  | ((with_reducible refine' rw_ixL (v := ?_) (xs := ?_) (by assumption) ?obl ?oba ?_); (case obl => walk_at "ob_sq"); (case oba => exact rfl))
  | ((with_reducible refine' rw_ixT (v := ?_) (xs := ?_) (by assumption) ?obl ?oba ?_); (case obl => walk_at "ob_sq"); (case oba => exact rfl))
  | ((with_reducible refine' ew_lst (by assumption) ?_))
  | ((with_reducible refine' ew_tup (by assumption) ?_)))
local macro_rules | `(tactic| walk_at "ob_len") => `(tactic| first | exact Nat.le_of_ble_eq_true rfl | (simp; done) | omega)
local macro_rules | `(tactic| walk_at "ob") => `(tactic| repeat walk_at "ob1")

abbrev sWorld : Stmt := top 40
def N_world : List Str := ["_law_h", "_law_most", "_law_cap", "_law_store", "_law_machines", "_law_k", "_law_steps", "_law_time", "_law_draw", "_law_back"]
theorem sc_world : FnScope N_world ["_law_h", "_law_most", "_law_cap"] (defScope sWorld) := ⟨rfl, rfl, rfl, by decide +kernel, rfl, by decide +kernel, by decide +kernel⟩
section
variable {P : Program} {w : World} {K : PySem.W.Frag} {mg : Str → Option Value} {base : Heap}
theorem ok_world {f f1 : Addr} {fd fd1 : FuncData} (Fn : Fun K "_law_world" "_law_world" sWorld f fd) (B : Blt mg)
    (C_law_next : Cal K mg "_law_next" f1 fd1 ["_law_h", "_law_many"]) (G_law_next : FnOk P w K mg base CX0 1 f1 fd1 ["_law_h", "_law_many"] (LN aNext)) :
    FnOk P w K mg base CX0 2 f fd ["_law_h", "_law_most", "_law_cap"] (LN (aWorld K)) := by
  refine Fn.ok sc_world (fun vs H Q E h => ?_) (fun cdv A outer s H vs Q E hr h => ?_)
  · obtain ⟨h, c, J, F, R, ws, hd, rfl, j, ⟨most, cap, rfl, _⟩, _⟩ := h
    rfl
  · have nd := sc_world.nd
    obtain ⟨h, c, J, F, R, ws, hd0, rfl, j, ⟨most, cap, rfl, mo0, mo1, c0, c1, k⟩, q⟩ := h
    have hd := hd0.hj (h := h) (c := c)
    refine ⟨_, (pss_cons (ps_set (i := 3) nd rfl (Or.inl rfl) (pe_tup (pa_cons (pe_op op_add pe_int (pe_call G_law_next (hr.mono (by decide)) (by rfl) C_law_next.g C_law_next.k C_law_next.a .nil pass0 (pa_cons (pv 0) (pa_cons (pv 2) pa_nil)))) (pa_cons pe_int (pa_cons (pe_ix ix_list (pe_lst (pa_cons pe_int (pa_cons pe_int (pa_cons pe_int (pa_cons pe_int (pa_cons (pe_call G_law_next (hr.mono (by decide)) (by rfl) C_law_next.g C_law_next.k C_law_next.a .nil pass0 (pa_cons (pv 0) (pa_cons pe_int pa_nil))) pa_nil)))))) (pe_call G_law_next (hr.mono (by decide)) (by rfl) C_law_next.g C_law_next.k C_law_next.a .nil pass0 (pa_cons (pv 0) (pa_cons pe_int pa_nil))) (fun _ _ => rfl)) pa_nil)))))
      (pss_cons (ps_set (i := 3) nd rfl (Or.inl rfl) (pe_tup (pa_cons (pe_ix ix_tup (pv 3) pe_int (fun _ _ => rfl)) (pa_cons (pe_call G_law_next (hr.mono (by decide)) (by rfl) C_law_next.g C_law_next.k C_law_next.a .nil pass0 (pa_cons (pv 0) (pa_cons (pe_op op_add (pe_ix ix_tup (pv 3) pe_int (fun _ _ => rfl)) pe_int) pa_nil))) (pa_cons (pe_ix ix_tup (pv 3) pe_int (fun _ _ => rfl)) pa_nil)))))
      (pss_cons (ps_set (i := 4) nd rfl (Or.inl rfl) (pe_lst pa_nil))
      (pss_cons (ps_for PassesOwn.never rfl (pi_range1 rfl B.range (pa_cons (pe_call G_law_next (hr.mono (by decide)) (by rfl) C_law_next.g C_law_next.k C_law_next.a .nil pass0 (pa_cons (pv 0) (pa_cons (pe_op op_add (pv 1) pe_int) pa_nil))) pa_nil)) (pg_name (i := 5) nd rfl (Or.inl rfl)) (pss_cons (ps_set (i := 6) nd rfl (Or.inl rfl) (pe_lst pa_nil))
      (pss_cons (ps_for PassesOwn.never rfl (pi_range1 rfl B.range (pa_cons (pe_call G_law_next (hr.mono (by decide)) (by rfl) C_law_next.g C_law_next.k C_law_next.a .nil pass0 (pa_cons (pv 0) (pa_cons pe_int pa_nil))) pa_nil)) (pg_name (i := 7) nd rfl (Or.inl rfl)) (pss_cons (ps_set (i := 8) nd rfl (Or.inl rfl) (pe_ifExp (pt_cmpR op_eq (pe_call G_law_next (hr.mono (by decide)) (by rfl) C_law_next.g C_law_next.k C_law_next.a .nil pass0 (pa_cons (pv 0) (pa_cons pe_int pa_nil))) pe_int (nomark _)) (pe_call G_law_next (hr.mono (by decide)) (by rfl) C_law_next.g C_law_next.k C_law_next.a .nil pass0 (pa_cons (pv 0) (pa_cons (pe_op op_add (pe_ix ix_tup (pv 3) pe_int (fun _ _ => rfl)) pe_int) pa_nil))) (pe_call G_law_next (hr.mono (by decide)) (by rfl) C_law_next.g C_law_next.k C_law_next.a .nil pass0 (pa_cons (pv 0) (pa_cons (pe_op op_add (pe_callB (call_min2 rfl) (by rfl) B.min (by decide +kernel) (pa_cons pe_int (pa_cons (pe_ix ix_tup (pv 3) pe_int (fun _ _ => rfl)) pa_nil))) pe_int) pa_nil)))))
      (pss_cons (ps_set (i := 9) nd rfl (Or.inl rfl) (pe_ix ix_list (pe_lst (pa_cons pe_int (pa_cons (pv 8) (pa_cons (pe_call G_law_next (hr.mono (by decide)) (by rfl) C_law_next.g C_law_next.k C_law_next.a .nil pass0 (pa_cons (pv 0) (pa_cons (pe_op op_add (pv 8) pe_int) pa_nil))) pa_nil)))) (pe_call G_law_next (hr.mono (by decide)) (by rfl) C_law_next.g C_law_next.k C_law_next.a .nil pass0 (pa_cons (pv 0) (pa_cons pe_int pa_nil))) (fun _ _ => rfl)))
      (pss_one (ps_expr (pe_bm PySem.F.plainAttrs_list PySem.F.slot_list_append PySem.F.type_list_append mt_append (pv 6) (pa_cons (pe_tup (pa_cons (pv 8) (pa_cons (pe_op op_add pe_int (pe_call G_law_next (hr.mono (by decide)) (by rfl) C_law_next.g C_law_next.k C_law_next.a .nil pass0 (pa_cons (pv 0) (pa_cons (pe_ix ix_list (pe_lst (pa_cons pe_int (pa_cons pe_int pa_nil))) (pe_op op_fdivW (pe_call G_law_next (hr.mono (by decide)) (by rfl) C_law_next.g C_law_next.k C_law_next.a .nil pass0 (pa_cons (pv 0) (pa_cons pe_int pa_nil))) pe_int) (fun _ _ => rfl)) pa_nil)))) (pa_cons (pv 9) pa_nil)))) pa_nil)))))))
      (pss_one (ps_expr (pe_bm PySem.F.plainAttrs_list PySem.F.slot_list_append PySem.F.type_list_append mt_append (pv 4) (pa_cons (pe_callTy call_tuple_of (by rfl) B.tuple (by decide +kernel) (pa_cons (pv 6) pa_nil)) pa_nil)))))))
      (pss_one (ps_ret (pe_tup (pa_cons (pv 3) (pa_cons (pe_callTy call_tuple_of (by rfl) B.tuple (by decide +kernel) (pa_cons (pv 4) pa_nil)) pa_nil))))))))), ?_⟩
    refine LN.body j q ?_
    walk_at "ob"
    refine ⟨by omega, by omega, fun r1 r10 r11 => ?_⟩
    walk_at "ob"
    refine ⟨by decide, by decide, fun r2 r20 r21 => ?_⟩
    walk_at "ob"
    refine ⟨by walk_at "ob_len", fun p1 hp1 => ?_⟩
    walk_at "ob"
    refine ⟨by decide, by decide, fun r3 r30 r31 => ?_⟩
    obtain ⟨rf, erf, rf0, rf1⟩ : ∃ rf : Int, atI [V.int 0, V.int 1, V.int 1, V.int 2, V.int r2] r3 = some (V.int rf) ∧ 0 ≤ rf ∧ rf ≤ 9 := by
      have : r3 = 0 ∨ r3 = 1 ∨ r3 = 2 ∨ r3 = 3 ∨ r3 = 4 := by omega
      rcases this with rfl | rfl | rfl | rfl | rfl
      · exact ⟨0, rfl, by omega, by omega⟩
      · exact ⟨1, rfl, by omega, by omega⟩
      · exact ⟨1, rfl, by omega, by omega⟩
      · exact ⟨2, rfl, by omega, by omega⟩
      · exact ⟨r2, rfl, by omega, by omega⟩
    refine rw_ixL hd (SqL.of upd_same) erf ?_
    walk_at "ob"
    refine ⟨by walk_at "ob_len", fun p2 hp2 => ?_⟩
    walk_at "ob"
    refine ⟨by omega, by omega, fun r4 r40 r41 => ?_⟩
    walk_at "ob"
    refine ⟨by walk_at "ob_len", fun st hst => ?_⟩
    walk_at "ob"
    refine ⟨by walk_at "ob_len", fun ml hml => ?_⟩
    walk_at "ob"
    refine sw_forR1 ?_
    walk_at "ob"
    refine ⟨by omega, by omega, fun nm nm0 nm1 => ?_⟩
    walk_at "ob"
    refine ⟨nm, fun i σ _ G => ∃ (x5 x6 x7 x8 x9 : Option V) (G0 : Hp) (vs : List V) (mss : List (List Stp)), σ = [some (.ref h), some (.int most), some (.int cap), some (.ref st), some (.ref ml), x5, x6, x7, x8, x9] ∧
      Ex F G0 ∧ Ex G0 G ∧ G0 ml = none ∧ G ml = some (.lst vs) ∧ G0 st = some (.tup [.int (1 + r1), .int r4, .int rf]) ∧ DpAll K G0 vs (mss.map macD) ∧ mss.length = i ∧ (∀ ss ∈ mss, ss.length ≤ 4) ∧ ∀ ss ∈ mss, ∀ s ∈ ss, StpOk (1 + r1) s,
      rfl, by omega, by omega, ⟨none, none, none, none, none, _, [], [], rfl, ?_, Ex.new (Ex.refl _) hml, hml, upd_same, upd_same, .nil, rfl, ?_, ?_⟩, ?_, ?_⟩
    · walk_at "ob_ex"
    · intro ss hss; cases hss
    · intro ss hss; cases hss
    · rintro i σ _ G hi ⟨x5, x6, x7, x8, x9, G0, vs, mss, rfl, g1, g2, e1, e2, e3, dv, hl, ok1, ok2⟩
      walk_at "ob"
      refine ⟨by walk_at "ob_len", fun sl hsl => ?_⟩
      have nsl : ml ≠ sl := ne_of_none e2 hsl
      have e4 : G0 sl = none := g2.free hsl
      walk_at "ob"
      refine sw_forR1 ?_
      walk_at "ob"
      refine ⟨by decide, by decide, fun ns ns0 ns1 => ?_⟩
      walk_at "ob"
      refine ⟨ns, fun k σ _ G => ∃ (x7 x8 x9 : Option V) (G1 : Hp) (ws : List V) (ss : List Stp), σ = [some (.ref h), some (.int most), some (.int cap), some (.ref st), some (.ref ml), some (.int (i : Int)), some (.ref sl), x7, x8, x9] ∧
        Ex G0 G1 ∧ Ex G1 G ∧ G1 ml = none ∧ G1 sl = none ∧ G ml = some (.lst vs) ∧ G sl = some (.lst ws) ∧ DpAll K G1 ws (ss.map stpD) ∧ ss.length = k ∧ ∀ s ∈ ss, StpOk (1 + r1) s,
        rfl, by omega, by omega, ⟨x7, x8, x9, G0, [], [], rfl, Ex.refl _, Ex.new g2 hsl, e1, e4, by walk_at "ob_at", upd_same, .nil, rfl, ?_⟩, ?_, ?_⟩
      · intro s hs; cases hs
      · rintro kk σ _ G hk ⟨x7, x8, x9, G1, ws, ss, rfl, g3, g4, e1, e4, e2, e5, dw, hss, oks⟩
        have est : G st = some (.tup [.int (1 + r1), .int r4, .int rf]) := g4 _ _ (g3 _ _ e3)
        refine gw_name ?_
        refine sw_seq (sw_asg ?_)
        refine EW.imp (R := fun v _ G' => G' = G ∧ ∃ dr : Int, v = .int dr ∧ 0 ≤ dr ∧ dr ≤ 1 + r1) ?_ ?_
        · walk_at "ob"
          refine ⟨by decide, by decide, fun q0 q00 q01 => ?_⟩
          walk_at "ob"
          refine ⟨fun hb => ?_, fun hb => ?_⟩
          · walk_at "ob"
            exact ⟨by omega, by omega, fun r5 r50 r51 => ⟨rfl, r5, rfl, r50, by omega⟩⟩
          · walk_at "ob"
            refine ⟨by split <;> omega, by split <;> omega, fun r5 r50 r51 => ⟨rfl, r5, rfl, r50, ?_⟩⟩
            split at r51 <;> omega
        · rintro v _ G' ⟨rfl, dr, rfl, d0, d1⟩
          walk_at "ob"
          refine ⟨by omega, by omega, fun r6 r60 r61 => ?_⟩
          walk_at "ob"
          refine ⟨by walk_at "ob_len", fun p3 hp3 => ?_⟩
          walk_at "ob"
          refine ⟨by decide, by decide, fun r7 r70 r71 => ?_⟩
          obtain ⟨bk, ebk, b0, b1⟩ : ∃ bk : Int, atI [V.int 0, V.int dr, V.int r6] r7 = some (V.int bk) ∧ 0 ≤ bk ∧ bk ≤ dr := by
            have : r7 = 0 ∨ r7 = 1 ∨ r7 = 2 := by omega
            rcases this with rfl | rfl | rfl
            · exact ⟨0, rfl, by omega, by omega⟩
            · exact ⟨dr, rfl, by omega, by omega⟩
            · exact ⟨r6, rfl, by omega, by omega⟩
          refine rw_ixL hd (SqL.of upd_same) ebk ?_
          walk_at "ob"
          refine ew_bmL hd ?_
          walk_at "ob"
          refine ⟨sl, ws, rfl, SqL.of (by walk_at "ob_at"), ?_⟩
          walk_at "ob"
          refine ⟨by walk_at "ob_len", fun p4 hp4 => ?_⟩
          walk_at "ob"
          refine ⟨by decide, by decide, fun r8 r80 r81 => ?_⟩
          walk_at "ob"
          obtain ⟨lo, elo, l0, l1⟩ : ∃ lo : Int, atI [V.int 3, V.int 9] (r8 / 3) = some (V.int lo) ∧ 0 < lo ∧ lo ≤ 9 := by
            have : r8 / 3 = 0 ∨ r8 / 3 = 1 := by omega
            rcases this with e | e
            · exact ⟨3, by rw [e]; rfl, by omega, by omega⟩
            · exact ⟨9, by rw [e]; rfl, by omega, by omega⟩
          refine rw_ixL hd (SqL.of upd_same) elo ?_
          refine ⟨lo, rfl, l0, by omega, fun r9 r90 r91 => ?_⟩
          walk_at "ob"
          refine ⟨by walk_at "ob_len", fun t ht => ?_⟩
          walk_at "ob"
          refine mw_append hd (xs := ws) (by walk_at "ob_at") (by have := dps_len dw; simp at this; omega) ?_
          have n1 : ml ≠ t := by walk_at "ob_ne"
          have n2 : sl ≠ t := by walk_at "ob_ne"
          have hp5 : G1 t = none := Ex.free (Ex.new (Ex.new g4 hp3) hp4) ht
          refine ⟨_, _, _, upd G1 t (.tup [.int dr, .int (1 + r9), .int bk]), ws ++ [.ref t], ss ++ [⟨dr, 1 + r9, bk⟩], rfl, Ex.new g3 hp5, ?_, ?_, ?_, by walk_at "ob_at", upd_same, ?_, by simp [hss], ?_⟩
          · refine Ex.out (Ex.upd (by walk_at "ob_ex")) ?_
            refine Eq.trans (upd_ne ?_) e4
            walk_at "ob_ne"
          · refine Eq.trans (upd_ne ?_) e1
            walk_at "ob_ne"
          · refine Eq.trans (upd_ne ?_) e4
            walk_at "ob_ne"
          · rw [List.map_append]
            refine dps_snoc (dps_ex (Ex.new (Ex.refl _) hp5) dw) (.tup (SqT.of upd_same) (.cons (.int _) (.cons (.int _) (.cons (.int _) .nil))))
          · intro s hs
            rcases List.mem_append.mp hs with hs | hs
            · exact oks s hs
            · simp at hs
              subst hs
              exact ⟨d0, d1, by show 1 ≤ 1 + r9; omega, by show 1 + r9 ≤ 9; omega, b0, b1⟩
      · rintro σ _ G ⟨x7, x8, x9, G1, ws, ss, rfl, g3, g4, e1, e4, e2, e5, dw, hss, oks⟩
        walk_at "ob"
        refine ew_bmL hd ?_
        walk_at "ob"
        refine ⟨ml, vs, rfl, SqL.of e2, ?_⟩
        walk_at "ob"
        refine cw_tuple hd (ys := ws) (SqL.of e5) fun t ht => ?_
        walk_at "ob"
        refine mw_append hd (xs := vs) (by walk_at "ob_at") (by have := dps_len dv; simp at this; omega) ?_
        have n1 : ml ≠ t := by walk_at "ob_ne"
        have hp5 : G1 t = none := g4.free ht
        refine ⟨_, _, _, _, _, upd G1 t (.tup ws), vs ++ [.ref t], mss ++ [ss], rfl, g1.trans (Ex.new g3 hp5), ?_, ?_, upd_same, ?_, ?_, by simp [hl], ?_, ?_⟩
        · refine Ex.out (Ex.upd g4) ?_
          refine Eq.trans (upd_ne ?_) e1
          walk_at "ob_ne"
        · refine Eq.trans (upd_ne ?_) e1
          walk_at "ob_ne"
        · exact Ex.new g3 hp5 _ _ e3
        · rw [List.map_append]
          refine dps_snoc (dps_ex (Ex.new g3 hp5) dv) (.tup (SqT.of upd_same) (dps_ex (Ex.new (Ex.refl _) hp5) dw))
        · intro s hs
          rcases List.mem_append.mp hs with hs | hs
          · exact ok1 s hs
          · simp at hs
            subst hs
            omega
        · intro s hs
          rcases List.mem_append.mp hs with hs | hs
          · exact ok2 s hs
          · simp at hs
            subst hs
            exact oks
    · rintro σ _ G ⟨x5, x6, x7, x8, x9, G0, vs, mss, rfl, g1, g2, e1, e2, e3, dv, hl, ok1, ok2⟩
      walk_at "ob"
      refine cw_tuple hd (ys := vs) (SqL.of e2) fun t ht => ?_
      walk_at "ob"
      refine ⟨by walk_at "ob_len", fun a ha => ?_⟩
      have gA : Ex G0 (upd (upd G t (.tup vs)) a (.tup [.ref st, .ref t])) := by walk_at "ob_ex"
      refine k _ _ ⟨1 + r1, r4, rf, mss⟩ (g1.trans gA) ?_ ⟨?_, ?_, r40, ?_, rf0, rf1, ?_, ?_, ok2⟩ ?_ ?_ ok1
      · refine .tup (SqT.of upd_same) (.cons (.tup (SqT.of (gA _ _ e3)) (.cons (.int _) (.cons (.int _) (.cons (.int _) .nil)))) (.cons (.tup (SqT.of (xs := vs) ?_) (dps_ex gA dv)) .nil))
        walk_at "ob_at"
      · show 1 ≤ 1 + r1; omega
      · show 1 + r1 ≤ 99; omega
      · show r4 ≤ 1 + r1; omega
      · show mss.length ≤ 5; omega
      · intro ss hs
        have := ok1 ss hs
        omega
      · show 1 + r1 ≤ cap; omega
      · show ((mss.length : Nat) : Int) ≤ most; omega
end
end Obr
namespace Obr
open PySem L2 PyProof.Rows
local macro_rules | `(tactic| walk_at "ob_at") => `(tactic| first
  | assumption
  | exact upd_same
  | (refine Eq.trans (upd_ne ?obn) ?obr; (case obn => walk_at "ob_ne"); (case obr => walk_at "ob_at")))
local macro_rules | `(tactic| walk_at "ob_ne") => `(tactic| first
  | assumption
  | (refine Ne.symm ?obs; (case obs => assumption))
  | (refine' ne_of_none (H := ?_) ?obe ?obh; (case obh => assumption); (case obe => walk_at "ob_at"))
  | (refine Ne.symm ?obs; (case obs => (refine' ne_of_none (H := ?_) ?obe ?obh; (case obh => assumption); (case obe => walk_at "ob_at")))))
local macro_rules | `(tactic| walk_at "ob_fr") => `(tactic| first
  | assumption
  | (refine Eq.trans (upd_ne ?obn) ?obr; (case obn => walk_at "ob_ne"); (case obr => walk_at "ob_fr"))
  | (refine Ex.free (G := ?_) (by assumption) ?obh; (case obh => walk_at "ob_fr")))
local macro_rules | `(tactic| walk_at "ob_ex") => `(tactic| first
  | assumption
  | exact Ex.refl _
  | (refine Ex.out ?obg ?obh; (case obh => assumption); (case obg => walk_at "ob_ex"))
  | (refine Ex.new ?obg ?obh; (case obh => assumption); (case obg => walk_at "ob_ex"))
  | (refine Ex.new ?obg ?obh; (case obh => walk_at "ob_fr"); (case obg => walk_at "ob_ex")))
local macro_rules | `(tactic| walk_at "ob_sq") => `(tactic| first
  | assumption
  | (refine SqL.of ?oba; (case oba => walk_at "ob_at"))
  | (refine Ex.sqT (F := ?_) ?obg ?obh; (case obh => assumption); (case obg => walk_at "ob_ex"))
  | (refine Ex.sqL (F := ?_) ?obg ?obh; (case obh => assumption); (case obg => walk_at "ob_ex"))
  | (refine SqT.of ?oba; (case oba => walk_at "ob_at")))
local macro_rules | `(tactic| walk_at "ob_side") => `(tactic| first | exact rfl | assumption | decide | omega | exact ⟨by decide, by decide, by decide⟩ | exact Or.inr ⟨by decide, by decide⟩ | exact Or.inl ⟨by decide, by decide⟩ | exact wide_div (b := 60) (by first | decide | omega) (by first | decide | omega) (by decide) (by decide))
local macro_rules | `(tactic| walk_at "ob1") => `(tactic| first
  | with_reducible refine sw_seq ?_
  | with_reducible refine sw_asg ?_
  | with_reducible refine sw_ret ?_
  | with_reducible refine sw_par ?_
  | with_reducible refine ⟨_, _, rfl, ?_⟩
  | with_reducible refine sw_drop ?_
  | with_reducible refine sw_if ?_
  | with_reducible refine sw_next ?_
  | with_reducible refine gw_name ?_
  | with_reducible refine ew_c ?_
  | ((with_reducible refine' ew_var (v := ?_) ?obv ?_); (case obv => exact rfl))
  | ((with_reducible refine ew_next (by assumption) ?obv ?_); (case obv => exact rfl))
  | ((with_reducible refine ew_world (by assumption) ?obv ?_); (case obv => exact rfl))
  | ((with_reducible refine ew_rule (by assumption) ?obv ?_); (case obv => exact rfl))
  | with_reducible refine ew_op ?_
  | with_reducible refine ew_un ?_
  | with_reducible refine ew_cb ?_
  | with_reducible refine ew_if ?_
  | with_reducible refine ew_slL (by assumption) ?_
  | with_reducible refine ow_some ?_
  | with_reducible refine ow_none ?_
  | with_reducible refine aw_nil ?_
  | with_reducible refine aw_cons ?_
  | with_reducible refine rw_I0 ?_
  | ((with_reducible refine rw_I ?obc ?_); (case obc => walk_at "ob_side"))
  | ((with_reducible refine rw_eq ?obc ?_); (case obc => exact rfl))
  | ((with_reducible refine rw_ne ?obc ?_); (case obc => exact rfl))
  | with_reducible refine cw_max2 ?_
  | with_reducible refine cw_min2 ?_
  | with_reducible refine tw_test ?_
  | with_reducible refine tw_B ?_
  | with_reducible refine tw_not ?_
  | (refine' Exists.intro _ (And.intro (show V.bl _ = V.bl _ from rfl) ?_))
  | (refine' Exists.intro _ (And.intro (show V.int _ = V.int _ from rfl) ?_))
  | ((with_reducible refine' rw_ixL (v := ?_) (xs := ?_) (by assumption) ?obl ?oba ?_); (case obl => walk_at "ob_sq"); (case oba => first | exact rfl | exact at_zero))
  | ((with_reducible refine' rw_ixT (v := ?_) (xs := ?_) (by assumption) ?obl ?oba ?_); (case obl => walk_at "ob_sq"); (case oba => first | exact rfl | exact at_zero))
  | ((with_reducible refine' ew_lst (by assumption) ?_))
  | ((with_reducible refine' ew_tup (by assumption) ?_)))
local macro_rules | `(tactic| walk_at "ob_len") => `(tactic| first | exact Nat.le_of_ble_eq_true rfl | (simp; done) | omega)
local macro_rules | `(tactic| walk_at "ob") => `(tactic| repeat walk_at "ob1")

/-! ### _law_turn: the claims by their keys -/
structure Clm where
  k : Int
  draw : Int
  since : Int
  deriving DecidableEq
def clmD (c : Clm) : PyData := .tuple [.int c.k, .int c.draw, .int c.since]
def ckey (r : Rgt) (last : Int) (c : Clm) : Int := match r with
  | .rank => 0
  | .turns => b2i (decide (c.k ≤ last))
  | .wait => c.since
  | .least => c.draw
def cLt (r : Rgt) (last : Int) (a b : Clm) : Prop := ckey r last a < ckey r last b ∨ (ckey r last a = ckey r last b ∧ a.k < b.k)
instance (r : Rgt) (last : Int) (a b : Clm) : Decidable (cLt r last a b) := by unfold cLt; infer_instance
/-- _law_turn(right, claims, last): the claims in their turn -/
def aTurn (K : PySem.W.Frag) : List V → Hp → VK → Prop := fun vs F R => ∃ (F0 : Hp) (r : Rgt) (last : Int) (ca : Addr) (cvs : List V) (cs : List Clm), vs = [.str (rgtS r), .ref ca, .int last] ∧ Ex F0 F ∧ SqL K F ca cvs ∧ DpAll K F0 cvs (cs.map clmD) ∧ cs.length ≤ 60 ∧ (cs.map Clm.k).Nodup ∧
  ∀ (p : Addr) (F' : Hp) (ts : List Clm) (vs2 : List V), Ex F F' → F p = none → F' p = some (.lst vs2) → DpAll K F0 vs2 (ts.map clmD) → ts.Perm cs → ts.Pairwise (cLt r last) → R (.ref p) F'
section
variable {P : Program} {w : World} {K : PySem.W.Frag} {mg : Str → Option Value} {base : Heap}
end
end Obr
namespace Obr
open PySem L2 PyProof.Rows
local macro_rules | `(tactic| walk_at "ob_at") => `(tactic| first
  | assumption
  | exact upd_same
  | (refine Eq.trans (upd_ne ?obn) ?obr; (case obn => walk_at "ob_ne"); (case obr => walk_at "ob_at")))
local macro_rules | `(tactic| walk_at "ob_ne") => `(tactic| first
  | assumption
  | (refine Ne.symm ?obs; (case obs => assumption))
  | (refine' ne_of_none (H := ?_) ?obe ?obh; (case obh => assumption); (case obe => walk_at "ob_at"))
  | (refine Ne.symm ?obs; (case obs => (refine' ne_of_none (H := ?_) ?obe ?obh; (case obh => assumption); (case obe => walk_at "ob_at")))))
local macro_rules | `(tactic| walk_at "ob_fr") => `(tactic| first
  | assumption
  | (refine Eq.trans (upd_ne ?obn) ?obr; (case obn => walk_at "ob_ne"); (case obr => walk_at "ob_fr"))
  | (refine Ex.free (G := ?_) (by assumption) ?obh; (case obh => walk_at "ob_fr")))
local macro_rules | `(tactic| walk_at "ob_ex") => `(tactic| first
  | assumption
  | exact Ex.refl _
  | (refine Ex.out ?obg ?obh; (case obh => assumption); (case obg => walk_at "ob_ex"))
  | (refine Ex.new ?obg ?obh; (case obh => assumption); (case obg => walk_at "ob_ex"))
  | (refine Ex.new ?obg ?obh; (case obh => walk_at "ob_fr"); (case obg => walk_at "ob_ex")))
local macro_rules | `(tactic| walk_at "ob_sq") => `(tactic| first
  | assumption
  | (refine SqL.of ?oba; (case oba => walk_at "ob_at"))
  | (refine Ex.sqT (F := ?_) ?obg ?obh; (case obh => assumption); (case obg => walk_at "ob_ex"))
  | (refine Ex.sqL (F := ?_) ?obg ?obh; (case obh => assumption); (case obg => walk_at "ob_ex"))
  | (refine SqT.of ?oba; (case oba => walk_at "ob_at")))
local macro_rules | `(tactic| walk_at "ob_side") => `(tactic| first | exact rfl | assumption | decide | omega | exact ⟨by decide, by decide, by decide⟩ | exact Or.inr ⟨by decide, by decide⟩ | exact Or.inl ⟨by decide, by decide⟩ | exact wide_div (b := 60) (by first | decide | omega) (by first | decide | omega) (by decide) (by decide))
local macro_rules | `(tactic| walk_at "ob1") => `(tactic| first
  | with_reducible refine sw_seq ?_
  | with_reducible refine sw_asg ?_
  | with_reducible refine sw_ret ?_
  | with_reducible refine sw_par ?_
  | with_reducible refine ⟨_, _, rfl, ?_⟩
  | with_reducible refine sw_drop ?_
  | with_reducible refine sw_if ?_
  | with_reducible refine sw_next ?_
  | with_reducible refine gw_name ?_
  | with_reducible refine ew_c ?_
  | ((with_reducible refine' ew_var (v := ?_) ?obv ?_); (case obv => exact rfl))
  | ((with_reducible refine ew_next (by assumption) ?obv ?_); (case obv => exact rfl))
  | ((with_reducible refine ew_world (by assumption) ?obv ?_); (case obv => exact rfl))
  | ((with_reducible refine ew_rule (by assumption) ?obv ?_); (case obv => exact rfl))
  | with_reducible refine ew_op ?_
  | with_reducible refine ew_un ?_
  | with_reducible refine ew_dget (by assumption) ?_
  | with_reducible refine uw_I ?_
  | with_reducible refine ppw_nil ?_
  | with_reducible refine ppw_cons ?_
  | with_reducible refine sw_dput (by assumption) ?_
  | with_reducible refine ew_cb ?_
  | with_reducible refine ew_if ?_
  | with_reducible refine ew_slL (by assumption) ?_
  | with_reducible refine ow_some ?_
  | with_reducible refine ow_none ?_
  | with_reducible refine aw_nil ?_
  | with_reducible refine aw_cons ?_
  | with_reducible refine rw_I0 ?_
  | ((with_reducible refine rw_I ?obc ?_); (case obc => walk_at "ob_side"))
  | ((with_reducible refine rw_eq ?obc ?_); (case obc => exact rfl))
  | ((with_reducible refine rw_ne ?obc ?_); (case obc => exact rfl))
  | with_reducible refine cw_max2 ?_
  | with_reducible refine cw_min2 ?_
  | with_reducible refine tw_test ?_
  | with_reducible refine tw_B ?_
  | with_reducible refine tw_not ?_
  | (refine' Exists.intro _ (And.intro (show V.bl _ = V.bl _ from rfl) ?_))
  | (refine' Exists.intro _ (And.intro (show V.int _ = V.int _ from rfl) ?_))
  | ((with_reducible refine' rw_ixL (v := ?_) (xs := ?_) (by assumption) ?obl ?oba ?_); (case obl => walk_at "ob_sq"); (case oba => first | exact rfl | exact at_zero))
  | ((with_reducible refine' rw_ixT (v := ?_) (xs := ?_) (by assumption) ?obl ?oba ?_); (case obl => walk_at "ob_sq"); (case oba => first | exact rfl | exact at_zero))
  | ((with_reducible refine' ew_lst (by assumption) ?_))
  | ((with_reducible refine' ew_tup (by assumption) ?_)))
local macro_rules | `(tactic| walk_at "ob_len") => `(tactic| first | exact Nat.le_of_ble_eq_true rfl | (simp; done) | omega)
local macro_rules | `(tactic| walk_at "ob") => `(tactic| repeat walk_at "ob1")
/-! ### the law's own machines: their state, and where it stands -/
structure Mac where
  at_ : Int
  over : Int
  since : Int
  done : Int
  waits : Int
  ends : Option Int
structure LSt where
  level : Int
  last : Int
  beat : Int
  ms : List Mac
structure WAd where
  w : Addr
  at_ : Addr
  over : Addr
  since : Addr
  done : Addr
  waits : Addr
  ends : Addr
  store : V
  machines : V
  rule : V
def oV : Option Int → V
  | none => .non
  | some i => .int i
def wkeys : List Key := [.inr "store", .inr "machines", .inr "rule", .inr "level", .inr "at", .inr "over", .inr "since", .inr "last", .inr "beat", .inr "done", .inr "waits", .inr "ends"]
def wkvs (A : WAd) (t : LSt) : List (Key × V) := [(.inr "store", A.store), (.inr "machines", A.machines), (.inr "rule", A.rule), (.inr "level", .int t.level), (.inr "at", .ref A.at_), (.inr "over", .ref A.over), (.inr "since", .ref A.since),
  (.inr "last", .int t.last), (.inr "beat", .int t.beat), (.inr "done", .ref A.done), (.inr "waits", .ref A.waits), (.inr "ends", .ref A.ends)]
def wown (A : WAd) (t : LSt) : List (Addr × HO) := [(A.w, .dK (wkvs A t)), (A.at_, .lst (t.ms.map fun m => .int m.at_)), (A.over, .lst (t.ms.map fun m => .int m.over)), (A.since, .lst (t.ms.map fun m => .int m.since)),
  (A.done, .lst (t.ms.map fun m => .int m.done)), (A.waits, .lst (t.ms.map fun m => .int m.waits)), (A.ends, .lst (t.ms.map fun m => oV m.ends))]
def stoD (w : Wld) : PyData := .tuple [.int w.cap, .int w.start, .int w.refill]
structure WAt (K : PySem.W.Frag) (F0 F : Hp) (A : WAd) (t : LSt) (w : Wld) (r : Rgt) (p : Bool) (ex : List (Addr × HO)) : Prop where
  own : Own F0 F (wown A t ++ ex)
  st : Dp K F0 A.store (stoD w)
  mc : Dp K F0 A.machines (.tuple (w.ms.map macD))
  ru : Dp K F0 A.rule (rulD r p)
  len : t.ms.length = w.ms.length
/-- all as it is ahead of beat 0 -/
def lBegun (w : Wld) : LSt := ⟨w.start, -1, 0, w.ms.map fun ss => ⟨0, -1, 0, 0, 0, if ss.isEmpty then some 0 else none⟩⟩
/-- _law_begun(world, rule) -/
def aBegun (K : PySem.W.Frag) : List V → Hp → VK → Prop := fun vs F R => ∃ (x y : V) (w : Wld) (r : Rgt) (p : Bool), vs = [x, y] ∧ Dp K F x (wldD w) ∧ Dp K F y (rulD r p) ∧ w.ms.length ≤ 5 ∧ (∀ ss ∈ w.ms, ss.length ≤ 12) ∧
  ∀ (F0 F' : Hp) (A : WAd), Ex F F0 → WAt K F0 F' A (lBegun w) w r p [] → R (.ref A.w) F'
def bk1 (sa ma : Addr) (y : V) (z : Int) (c1 : Addr) : List (Key × V) := [(.inr "store", .ref sa), (.inr "machines", .ref ma), (.inr "rule", y), (.inr "level", .int z), (.inr "at", .ref c1)]
def bk2 (c2 c3 c4 c5 : Addr) : List (Key × V) := [(.inr "over", .ref c2), (.inr "since", .ref c3), (.inr "last", .int (-1)), (.inr "beat", .int 0), (.inr "done", .ref c4), (.inr "waits", .ref c5)]
section
variable {P : Program} {w : World} {K : PySem.W.Frag} {mg : Str → Option Value} {base : Heap}
end
end Obr
namespace Obr
open PySem L2 PyProof.Rows
/-! ### reading and writing the law's machines -/
theorem atI_int {xs : List V} {i : Int} {v : V} (h0 : 0 ≤ i) (h : xs[i.toNat]? = some v) : atI xs i = some v := by
  obtain ⟨j, rfl⟩ : ∃ j : Nat, i = (j : Int) := ⟨i.toNat, by omega⟩
  exact atI_nat (by simpa using h)
theorem map_at {α β : Type} {f : α → β} {l : List α} {k : Nat} {m : α} (h : l[k]? = some m) : (l.map f)[k]? = some (f m) := by rw [List.getElem?_map, h]; rfl
section
variable {S : Type} {J : S → Hp → Hp → Prop} {K : PySem.W.Frag} {σ : L2.St} {s : S} {F0 F : Hp} {A : WAd} {t : LSt} {w : Wld} {r : Rgt} {p : Bool} {ex : List (Addr × HO)} {R : V → S → Hp → Prop} {D : L2.St → S → Hp → Prop}
theorem r_stp (hd : Hid J) (g : Ex F0 F) {v : V} {ss : List Stp} {i : Int} {st : Stp} (hv : Dp K F0 v (macD ss)) (h0 : 0 ≤ i) (hs : ss[i.toNat]? = some st) (hR : ∀ u, Dp K F0 u (stpD st) → R u s F) : RW J (rIxT K) v (.int i) s F R := by
  obtain ⟨a, xs, e, l, d⟩ := dp_tup hv
  obtain ⟨u, hu, du⟩ := dps_get d (map_at hs)
  rw [e]
  exact rw_ixT hd (g.sqT l) (atI_int h0 hu) (hR u du)
theorem r_fld (hd : Hid J) (g : Ex F0 F) {u : V} {st : Stp} (hu : Dp K F0 u (stpD st)) : (R (.int st.draw) s F → RW J (rIxT K) u (.int 0) s F R) ∧ (R (.int st.long) s F → RW J (rIxT K) u (.int 1) s F R) ∧ (R (.int st.back) s F → RW J (rIxT K) u (.int 2) s F R) := by
  obtain ⟨a, xs, e, l, d⟩ := dp_tup hu
  obtain ⟨_, _, _, rfl, d1, d2, d3⟩ := dps3 d
  cases dp_int d1; cases dp_int d2; cases dp_int d3
  rw [e]
  exact ⟨fun hR => rw_ixT hd (g.sqT l) rfl hR, fun hR => rw_ixT hd (g.sqT l) rfl hR, fun hR => rw_ixT hd (g.sqT l) rfl hR⟩
end
end Obr
namespace Obr
open PySem L2 PyProof.Rows
/-! ### a beat of the law's machines -/
def minI (a b : Int) : Int := if b < a then b else a
def lEnd (w : Wld) (anew : Bool) (t : LSt) (k : Nat) : LSt :=
  match t.ms[k]?, w.ms[k]? with
  | some m, some ss =>
    if m.over = t.beat then
      match ss[m.at_.toNat]? with
      | some s =>
        if m.at_ + 1 = ss.length then { t with level := minI w.cap (t.level + s.back), ms := t.ms.set k ⟨if anew then 0 else m.at_ + 1, -1, t.beat, m.done + 1, m.waits, some t.beat⟩ }
        else { t with level := minI w.cap (t.level + s.back), ms := t.ms.set k ⟨m.at_ + 1, -1, t.beat, m.done + 1, m.waits, m.ends⟩ }
      | none => t
    else t
  | _, _ => t
def lEnds (w : Wld) (anew : Bool) (t : LSt) : Nat → LSt
  | 0 => t
  | n + 1 => lEnd w anew (lEnds w anew t n) n
def lFill (w : Wld) (t : LSt) : LSt := if 0 < t.beat then { t with level := minI w.cap (t.level + w.refill) } else t
def lClaim (w : Wld) (t : LSt) (k : Nat) : List Clm :=
  match t.ms[k]?, w.ms[k]? with
  | some m, some ss => if m.over < 0 ∧ m.at_ < ss.length then (match ss[m.at_.toNat]? with | some s => [⟨k, s.draw, m.since⟩] | none => []) else []
  | _, _ => []
def lClaims (w : Wld) (t : LSt) : Nat → List Clm
  | 0 => []
  | n + 1 => lClaims w t n ++ lClaim w t n
def lDraw (w : Wld) (p : Bool) (x : LSt × List Int × Bool) (c : Clm) : LSt × List Int × Bool :=
  match x.1.ms[c.k.toNat]?, w.ms[c.k.toNat]? with
  | some m, some ss =>
    if x.2.2 = true ∧ c.draw ≤ x.1.level then
      match ss[m.at_.toNat]? with
      | some s => ({ x.1 with level := x.1.level - c.draw, ms := x.1.ms.set c.k.toNat { m with over := x.1.beat + s.long } }, x.2.1 ++ [c.k], x.2.2)
      | none => x
    else ({ x.1 with ms := x.1.ms.set c.k.toNat { m with waits := m.waits + 1 } }, x.2.1, x.2.2 && p)
  | _, _ => x
def lDraws (w : Wld) (p : Bool) (ts : List Clm) (t : LSt) : LSt × List Int × Bool := ts.foldl (lDraw w p) (t, [], true)
def lLast (t : LSt) (bg : List Int) : LSt := { t with last := (if bg.isEmpty then t.last else bg.getLastD 0), beat := t.beat + 1 }
/-- the claims in their turn: any list that is that -/
structure TurnOk (r : Rgt) (last : Int) (cs ts : List Clm) : Prop where
  perm : ts.Perm cs
  srt : ts.Pairwise (cLt r last)
/-- a beat: from t to t', told (level, began) -/
structure LBeat (w : Wld) (r : Rgt) (p : Bool) (anew : Bool) (t t' : LSt) (lv : Int) (bg : List Int) : Prop where
  ex : ∃ ts, TurnOk r (lFill w (lEnds w anew t w.ms.length)).last (lClaims w (lFill w (lEnds w anew t w.ms.length)) w.ms.length) ts ∧ bg = (lDraws w p ts (lFill w (lEnds w anew t w.ms.length))).2.1 ∧
    t' = lLast (lDraws w p ts (lFill w (lEnds w anew t w.ms.length))).1 bg ∧ lv = t'.level
structure MacOk (ss : List Stp) (m : Mac) : Prop where
  a0 : 0 ≤ m.at_
  a1 : m.at_ ≤ ss.length
  o : 0 ≤ m.over → m.at_ < ss.length
structure LOk (w : Wld) (t : LSt) : Prop where
  b : 0 ≤ t.beat
  m : ∀ (k : Nat) (m : Mac) (ss : List Stp), t.ms[k]? = some m → w.ms[k]? = some ss → MacOk ss m
  len : t.ms.length = w.ms.length
theorem LOk.set {w : Wld} {t t' : LSt} {k : Nat} {m' : Mac} {ss : List Stp} (h : LOk w t) (hs : w.ms[k]? = some ss) (hm : MacOk ss m') (e : t'.ms = t.ms.set k m') (b : t'.beat = t.beat) : LOk w t' where
  b := by rw [b]; exact h.b
  m := fun j m2 ss2 h1 h2 => by
    rw [e, List.getElem?_set] at h1
    by_cases c : k = j
    · subst c
      rw [if_pos rfl] at h1
      rw [hs] at h2
      cases h2
      have : m2 = m' := by
        split at h1
        · exact (Option.some.inj h1).symm
        · cases h1
      subst this
      exact hm
    · rw [if_neg c] at h1
      exact h.m j m2 ss2 h1 h2
  len := by rw [e, List.length_set]; exact h.len
theorem LOk.same {w : Wld} {t t' : LSt} (h : LOk w t) (e : t'.ms = t.ms) (b : 0 ≤ t'.beat) : LOk w t' := ⟨b, fun k m ss h1 h2 => h.m k m ss (by rw [← e]; exact h1) h2, by rw [e]; exact h.len⟩
theorem lEnd_ok {w : Wld} {anew : Bool} {t : LSt} {k : Nat} (h : LOk w t) : LOk w (lEnd w anew t k) := by
  unfold lEnd
  split
  · rename_i m ss hm hs
    have ho := h.m k m ss hm hs
    split
    · rename_i e
      split
      · rename_i s hst
        have hlt := ho.o (by rw [e]; exact h.b)
        split
        · refine h.set hs (m' := ⟨if anew then 0 else m.at_ + 1, -1, t.beat, m.done + 1, m.waits, some t.beat⟩) ⟨?_, ?_, ?_⟩ rfl rfl
          · show 0 ≤ (if anew then (0 : Int) else m.at_ + 1); have := ho.a0; split <;> omega
          · show (if anew then (0 : Int) else m.at_ + 1) ≤ ss.length; split <;> omega
          · intro hh; exact absurd hh (by show ¬ (0 : Int) ≤ -1; decide)
        · refine h.set hs (m' := ⟨m.at_ + 1, -1, t.beat, m.done + 1, m.waits, m.ends⟩) ⟨?_, ?_, ?_⟩ rfl rfl
          · show 0 ≤ m.at_ + 1; have := ho.a0; omega
          · show m.at_ + 1 ≤ ss.length; omega
          · intro hh; exact absurd hh (by show ¬ (0 : Int) ≤ -1; decide)
      · exact h
    · exact h
  · exact h
theorem lEnds_ok {w : Wld} {anew : Bool} {t : LSt} (h : LOk w t) : ∀ n, LOk w (lEnds w anew t n)
  | 0 => h
  | n + 1 => lEnd_ok (lEnds_ok h n)
theorem lFill_ok {w : Wld} {t : LSt} (h : LOk w t) : LOk w (lFill w t) := by
  unfold lFill
  split
  · exact h.same rfl h.b
  · exact h
theorem lDraw_ok {w : Wld} {p : Bool} {x : LSt × List Int × Bool} {c : Clm} (h : LOk w x.1) (hc : ∀ m ss, x.1.ms[c.k.toNat]? = some m → w.ms[c.k.toNat]? = some ss → m.at_ < ss.length) : LOk w (lDraw w p x c).1 := by
  unfold lDraw
  split
  · rename_i m ss hm hs
    have ho := h.m _ m ss hm hs
    split
    · split
      · rename_i s _; exact h.set (k := c.k.toNat) (m' := { m with over := x.1.beat + s.long }) hs ⟨ho.a0, ho.a1, fun _ => hc m ss hm hs⟩ rfl rfl
      · exact h
    · exact h.set (k := c.k.toNat) (m' := { m with waits := m.waits + 1 }) hs ⟨ho.a0, ho.a1, ho.o⟩ rfl rfl
  · exact h
theorem lEnd_beat {w : Wld} {anew : Bool} {t : LSt} {k : Nat} : (lEnd w anew t k).beat = t.beat := by
  unfold lEnd
  repeat' split
  all_goals rfl
theorem lEnds_beat {w : Wld} {anew : Bool} {t : LSt} : ∀ n, (lEnds w anew t n).beat = t.beat
  | 0 => rfl
  | n + 1 => by rw [lEnds, lEnd_beat, lEnds_beat n]
theorem lClaim_mem {w : Wld} {t : LSt} {k : Nat} {c : Clm} (h : c ∈ lClaim w t k) : ∃ m ss st, t.ms[k]? = some m ∧ w.ms[k]? = some ss ∧ m.over < 0 ∧ m.at_ < ss.length ∧ ss[m.at_.toNat]? = some st ∧ c = ⟨k, st.draw, m.since⟩ := by
  unfold lClaim at h
  split at h
  · rename_i m ss hm hs
    split at h
    · rename_i hc
      split at h
      · rename_i st hst
        simp at h
        exact ⟨m, ss, st, hm, hs, hc.1, hc.2, hst, h⟩
      · cases h
    · cases h
  · cases h
theorem lClaims_mem {w : Wld} {t : LSt} {c : Clm} : ∀ {n : Nat}, c ∈ lClaims w t n → ∃ j, j < n ∧ c ∈ lClaim w t j
  | 0, h => by cases h
  | n + 1, h => by
    rcases List.mem_append.mp h with h | h
    · obtain ⟨j, hj, h⟩ := lClaims_mem h
      exact ⟨j, by omega, h⟩
    · exact ⟨n, by omega, h⟩
theorem lClaims_len {w : Wld} {t : LSt} : ∀ n : Nat, (lClaims w t n).length ≤ n
  | 0 => Nat.le_refl _
  | n + 1 => by
    have := lClaims_len (w := w) (t := t) n
    have h1 : (lClaim w t n).length ≤ 1 := by
      unfold lClaim
      repeat' split
      all_goals simp
    rw [lClaims, List.length_append]
    omega
theorem lClaims_nd {w : Wld} {t : LSt} : ∀ n : Nat, ((lClaims w t n).map Clm.k).Nodup
  | 0 => List.nodup_nil
  | n + 1 => by
    rw [lClaims, List.map_append, List.nodup_append]
    refine ⟨lClaims_nd n, ?_, ?_⟩
    · have h1 : (lClaim w t n).length ≤ 1 := by
        unfold lClaim
        repeat' split
        all_goals simp
      match e : lClaim w t n, h1 with
      | [], _ => exact List.nodup_nil
      | [x], _ => simp
      | x :: y :: l, h1 => simp at h1
    · intro a ha b hb e
      obtain ⟨c, hc, rfl⟩ := List.mem_map.mp ha
      obtain ⟨c', hc', rfl⟩ := List.mem_map.mp hb
      obtain ⟨j, hj, hcj⟩ := lClaims_mem hc
      obtain ⟨_, _, _, _, _, _, _, _, rfl⟩ := lClaim_mem hcj
      obtain ⟨_, _, _, _, _, _, _, _, rfl⟩ := lClaim_mem hc'
      simp at e
      omega
/-- where each machine is, is left by a draw as it was -/
def SameAt (T X : LSt) : Prop := X.beat = T.beat ∧ ∀ k : Nat, (X.ms[k]?).map Mac.at_ = (T.ms[k]?).map Mac.at_
theorem SameAt.set {T X X' : LSt} (h : SameAt T X) {k : Nat} {m m' : Mac} (hm : X.ms[k]? = some m) (e : X'.ms = X.ms.set k m') (ea : m'.at_ = m.at_) (eb : X'.beat = X.beat) : SameAt T X' := by
  refine ⟨eb.trans h.1, fun j => ?_⟩
  rw [← h.2 j, e, List.getElem?_set]
  by_cases c : k = j
  · subst c
    rw [if_pos rfl, if_pos (List.getElem?_eq_some_iff.mp hm).1, hm]
    show some m'.at_ = some m.at_
    rw [ea]
  · rw [if_neg c]
end Obr
namespace Obr
open PySem L2 PySem.Spec PyProof.Rows
/-! ### objects: fields, methods, making -/
section
variable {S : Type} {J : S → Hp → Hp → Prop} {K : PySem.W.Frag} {σ : L2.St} {s : S} {F : Hp} {R : V → S → Hp → Prop} {ta tv : TE} {tr : TA} {D : En S} {f : Str} {A : List V → Hp → VK → Prop} {E : XK} {C : Addr} {m : Str}
theorem ew_fld (hd : Hid J) (h : EW J ta σ s F fun x s1 F1 => ∃ a C dx fs v, x = .ref a ∧ F1 a = some (.ins C dx fs) ∧ Cls K C ∧ NoAttr K C f ∧ fs.lookup f = some v ∧ R v s1 F1) : EW J (tFld K ta f) σ s F R := fun H j Q q =>
  h H j _ fun x s1 F1 H1 j1 ⟨a, C, dx, fs, v, e, hf, c, n, l, k⟩ => ⟨a, C, dx, fs, v, e, hd.ex j1 _ _ hf, c, n, l, q _ _ _ _ j1 k⟩
theorem sw_fld (hd : Hid J) (h : EW J tv σ s F fun y s1 F1 => EW J ta σ s1 F1 fun x s2 F2 => ∃ a C dx fs, x = .ref a ∧ F2 a = some (.ins C dx fs) ∧ Cls K C ∧ NoAttr K C f ∧ fs.length < 1000 ∧ D.nx σ s2 (upd F2 a (.ins C dx (putF f y fs)))) :
    SW J (sFld K ta tv f) D σ s F := fun H j D' l =>
  h H j _ fun y s1 F1 H1 j1 h1 => h1 H1 j1 _ fun x s2 F2 H2 j2 ⟨a, C, dx, fs, e, hf, c, n, lf, k⟩ => ⟨a, C, dx, fs, e, hd.ex j2 _ _ hf, c, n, lf, l.nx _ _ _ _ (hd.mu j2 hf) k⟩
theorem sw_fldaugI (hd : Hid J) {g : Int → Int → Int} {rd : V → V → Hp → VK → Prop} (hrd : rd = fun x y H Q => ∃ i j, x = .int i ∧ y = .int j ∧ Q (.int (g i j)) H)
    (h : EW J ta σ s F fun x s1 F1 => ∃ a C dx fs i, x = .ref a ∧ F1 a = some (.ins C dx fs) ∧ Cls K C ∧ NoAttr K C f ∧ fs.lookup f = some (.int i) ∧ EW J tv σ s1 F1 fun y s2 F2 => ∃ j dx' fs', y = .int j ∧ F2 a = some (.ins C dx' fs') ∧ fs'.length < 1000 ∧ D.nx σ s2 (upd F2 a (.ins C dx' (putF f (.int (g i j)) fs')))) :
    SW J (sFldAug K ta tv rd f) D σ s F := fun H j D' l => by
  subst hrd
  exact h H j _ fun x s1 F1 H1 j1 ⟨a, C, dx, fs, i, e, hf, c, n, lk, h2⟩ => ⟨a, C, dx, fs, .int i, e, hd.ex j1 _ _ hf, c, n, lk, h2 H1 j1 _ fun y s2 F2 H2 j2 ⟨jj, dx', fs', ey, hf2, lf, k⟩ =>
    ⟨i, jj, rfl, ey, dx', fs', hd.ex j2 _ _ hf2, lf, l.nx _ _ _ _ (hd.mu j2 hf2) k⟩⟩
theorem ew_meth (hd : Hid J) (h : EW J ta σ s F fun x s1 F1 => ∃ a dx fs, x = .ref a ∧ F1 a = some (.ins C dx fs) ∧ fs.lookup m = none ∧ AW J tr σ s1 F1 fun vs s2 F2 => A (x :: vs) F2 fun v F' => R v s2 F') :
    EW J (tMeth C m (LS A) [] E ta tr) σ s F R := fun H j Q q =>
  h H j _ fun x s1 F1 H1 j1 ⟨a, dx, fs, e, hf, hm, h2⟩ => ⟨a, dx, fs, e, hd.ex j1 _ _ hf, hm, h2 H1 j1 _ fun vs s2 F2 H2 j2 k => by
    show LS A (x :: (vs ++ [])) H2 Q E
    rw [List.append_nil]
    exact ⟨_, F2, _, hd.unit s2, j2, k, fun v F' H' j' r => q v s2 F' H' j' r⟩⟩
theorem ew_make (hd : Hid J) (h : AW J tr σ s F fun vs s1 F1 => ∀ x dx, F1 x = none → F1 dx = none → dx ≠ x → A (.ref x :: vs) (upd (upd F1 dx (.own x)) x (.ins C dx [])) fun v F' => v = .non ∧ R (.ref x) s1 F') : EW J (tMake C (LS A) [] E tr) σ s F R := fun H j Q q =>
  h H j _ fun vs s1 F1 H1 j1 k x dx hx hdx hne => by
    show LS A (.ref x :: (vs ++ [])) _ _ E
    rw [List.append_nil]
    have j2 : J s1 (upd F1 dx (.own x)) (upd H1 dx (.own x)) := hd.al j1 hdx
    have hx2 : upd H1 dx (.own x) x = none := by rw [upd_ne hne.symm]; exact hx
    exact ⟨_, _, _, hd.unit s1, hd.al j2 hx2, k x dx (hd.fresh j1 hx) (hd.fresh j1 hdx) hne, fun v F' H' j' r => ⟨r.1, q _ s1 F' H' j' r.2⟩⟩
end
/-! ### fields by places -/
theorem lookup_nd : ∀ {fs : List (Str × V)} {i : Nat} {k : Str} {v : V}, (fs.map (·.1)).Nodup → fs[i]? = some (k, v) → fs.lookup k = some v
  | [], _, _, _, _, h => by simp at h
  | (k0, v0) :: r, 0, k, v, _, h => by
    simp at h
    rw [← h.1, ← h.2]
    exact List.lookup_cons_self
  | (k0, v0) :: r, i + 1, k, v, hn, h => by
    rw [List.map_cons, List.nodup_cons] at hn
    simp only [List.getElem?_cons_succ] at h
    have : k ≠ k0 := fun e => hn.1 (by rw [← e]; exact List.mem_map.mpr ⟨(k, v), List.mem_of_getElem? h, rfl⟩)
    rw [List.lookup_cons]
    rw [beq_eq_false_iff_ne.mpr this]
    exact lookup_nd hn.2 h
theorem lookup_out : ∀ {fs : List (Str × V)} {k : Str}, k ∉ fs.map (·.1) → fs.lookup k = none
  | [], _, _ => rfl
  | (k0, v0) :: r, k, h => by
    simp only [List.map_cons, List.mem_cons, not_or] at h
    rw [List.lookup_cons, beq_eq_false_iff_ne.mpr h.1]
    exact lookup_out h.2
theorem putF_nd : ∀ {fs : List (Str × V)} {i : Nat} {k : Str} {v v0 : V}, (fs.map (·.1)).Nodup → fs[i]? = some (k, v0) → putF k v fs = fs.set i (k, v)
  | [], _, _, _, _, _, h => by simp at h
  | (k0, v1) :: r, 0, k, v, v0, hn, h => by
    simp at h
    show (if k0 = k then (k0, v) :: r else (k0, v1) :: putF k v r) = _
    rw [if_pos h.1, h.1]
    rfl
  | (k0, v1) :: r, i + 1, k, v, v0, hn, h => by
    rw [List.map_cons, List.nodup_cons] at hn
    simp only [List.getElem?_cons_succ] at h
    have : k0 ≠ k := fun e => hn.1 (by rw [e]; exact List.mem_map.mpr ⟨(k, v0), List.mem_of_getElem? h, rfl⟩)
    show (if k0 = k then (k0, v) :: r else (k0, v1) :: putF k v r) = _
    rw [if_neg this, putF_nd hn.2 h]
    rfl
theorem putF_out : ∀ {fs : List (Str × V)} {k : Str} {v : V}, k ∉ fs.map (·.1) → putF k v fs = fs ++ [(k, v)]
  | [], _, _, _ => rfl
  | (k0, v0) :: r, k, v, h => by
    simp only [List.map_cons, List.mem_cons, not_or] at h
    show (if k0 = k then (k0, v) :: r else (k0, v0) :: putF k v r) = _
    rw [if_neg (fun e => h.1 e.symm), putF_out h.2]
    rfl
/-- a class whose objects have these fields, none of them a name of the class -/
structure ClsF (K : PySem.W.Frag) (C : Addr) (ns : List Str) : Prop where
  cl : Cls K C
  no : ∀ f ∈ ns, NoAttr K C f
/-- a method -/
structure Met (K : PySem.W.Frag) (C : Addr) (m : Str) (f : Addr) (fd : FuncData) (ps : List Str) : Prop where
  cl : Cls K C
  m : Meth K C m f
  a : Binds K fd ps []
/-! ### the program's machines -/
def ovV (i : Int) : V := if i < 0 then .non else .int i
def mkeys : List Str := ["number", "steps", "at", "over", "since", "paused"]
theorem mkeys_nd : mkeys.Nodup := by decide +kernel
/-- of a machine what no beat changes: its steps, whether it's paused; full: all its steps, of which one that is paused does those it has begun -/
structure Sv where
  v : V
  pz : Bool
  full : List Stp
def mfs (n : Int) (sv : Sv) (m : Mac) : List (Str × V) := [("number", .int n), ("steps", sv.v), ("at", .int m.at_), ("over", ovV m.over), ("since", .int m.since), ("paused", .bl sv.pz)]
structure StAt (K : PySem.W.Frag) (F : Hp) (sv : Sv) (ss : List Stp) : Prop where
  d : Dp K F sv.v (macD sv.full)
  pre : ss <+: sv.full
  all : sv.pz = false → ss = sv.full
theorem StAt.ex {K : PySem.W.Frag} {F G : Hp} {sv : Sv} {ss : List Stp} (h : StAt K F sv ss) (g : Ex F G) : StAt K G sv ss := ⟨dp_ex g h.d, h.pre, h.all⟩
theorem StAt.get {K : PySem.W.Frag} {F : Hp} {sv : Sv} {ss : List Stp} (h : StAt K F sv ss) {i : Nat} {st : Stp} (e : ss[i]? = some st) : sv.full[i]? = some st := by
  obtain ⟨t, ht⟩ := h.pre
  rw [← ht, List.getElem?_append_left (List.getElem?_eq_some_iff.mp e).1]
  exact e
/-- one that is paused waits for nothing: it has done all that it has begun, or does the last of it -/
def PzOk (ss : List Stp) (m : Mac) : Prop := (m.over < 0 ∧ m.at_ = (ss.length : Int)) ∨ (0 ≤ m.over ∧ m.at_ + 1 = (ss.length : Int))
theorem mfs_nd (n : Int) (sv : Sv) (m : Mac) : ((mfs n sv m).map (·.1)).Nodup := mkeys_nd
def rkeys : List Str := ["cap", "have", "refill", "anew", "beat", "machines", "right", "passing", "last"]
theorem rkeys_nd : rkeys.Nodup := by decide +kernel
structure MAd where
  a : Addr
  dx : Addr
  sv : Sv
structure RAd where
  a : Addr
  dx : Addr
  ml : Addr
  C : Addr
  M : Addr
  mads : List MAd
  hp : Bool
/-- of a shop (sh) the first six, of a run all nine -/
def rfsS (sh : Bool) (A : RAd) (t : LSt) (w : Wld) (r : Rgt) (p anew : Bool) : List (Str × V) := ("cap", V.int w.cap) :: ("have", V.int t.level) :: ("refill", V.int w.refill) :: ("anew", V.bl anew) :: ("beat", V.int t.beat) :: ("machines", V.ref A.ml) :: (match sh with | true => [] | false => [("right", V.str (rgtS r)), ("passing", V.bl p), ("last", ovV t.last)])
abbrev rfs (A : RAd) (t : LSt) (w : Wld) (r : Rgt) (p anew : Bool) : List (Str × V) := rfsS false A t w r p anew
theorem rfs_nd {sh : Bool} (A : RAd) (t : LSt) (w : Wld) (r : Rgt) (p anew : Bool) : ((rfsS sh A t w r p anew).map (·.1)).Nodup := by
  cases sh with
  | false => exact rkeys_nd
  | true => exact (show (rkeys.take 6).Nodup by decide +kernel)
theorem rfs_lt {sh : Bool} {A : RAd} {t : LSt} {w : Wld} {r : Rgt} {p anew : Bool} : (rfsS sh A t w r p anew).length < 1000 := by
  cases sh with
  | false => exact Nat.lt_of_le_of_lt (Nat.le_of_ble_eq_true (m := 9) rfl) (by decide)
  | true => exact Nat.lt_of_le_of_lt (Nat.le_of_ble_eq_true (m := 9) rfl) (by decide)
theorem rfs_no {sh : Bool} {A : RAd} {t : LSt} {w : Wld} {r : Rgt} {p anew : Bool} {f : Str} (h : f ∉ rkeys) : (rfsS sh A t w r p anew).lookup f = none := by
  cases sh with
  | false => exact lookup_out h
  | true => exact lookup_out (fun z => h (List.mem_of_mem_take (i := 6) z))
def mcell (M : Addr) (n : Nat) (ad : MAd) (m : Mac) : Addr × HO := (ad.a, .ins M ad.dx (mfs n ad.sv m))
def mcells (M : Addr) : Nat → List MAd → List Mac → List (Addr × HO)
  | n, ad :: as, m :: ms => mcell M n ad m :: mcells M (n + 1) as ms
  | _, _, _ => []
theorem mcells_get {M : Addr} : ∀ {k n : Nat} {as : List MAd} {ms : List Mac} {ad : MAd} {m : Mac}, as[k]? = some ad → ms[k]? = some m → (mcells M n as ms)[k]? = some (mcell M (n + k) ad m)
  | _, _, [], _, _, _, h, _ => by simp at h
  | _, _, _ :: _, [], _, _, _, h => by simp at h
  | 0, n, a :: as, b :: ms, ad, m, h1, h2 => by
    simp at h1 h2
    subst h1 h2
    rfl
  | k + 1, n, a :: as, b :: ms, ad, m, h1, h2 => by
    simp only [List.getElem?_cons_succ] at h1 h2
    have := mcells_get (M := M) (n := n + 1) h1 h2
    rw [show n + 1 + k = n + (k + 1) from by omega] at this
    exact this
theorem mcells_set {M : Addr} : ∀ {k n : Nat} {as : List MAd} {ms : List Mac} {ad : MAd} {m' : Mac}, as[k]? = some ad → (mcells M n as ms).set k (mcell M (n + k) ad m') = mcells M n as (ms.set k m')
  | _, _, [], _, _, _, h => by simp at h
  | _, _, _ :: _, [], _, _, _ => by simp [mcells]
  | 0, n, a :: as, b :: ms, ad, m', h1 => by
    simp at h1
    subst h1
    rfl
  | k + 1, n, a :: as, b :: ms, ad, m', h1 => by
    simp only [List.getElem?_cons_succ] at h1
    have := mcells_set (M := M) (n := n + 1) (ms := ms) (m' := m') h1
    rw [show n + 1 + k = n + (k + 1) from by omega] at this
    show mcell M n a b :: (mcells M (n + 1) as ms).set k _ = _
    rw [this]
    rfl
/-- of a machine what the program keeps -/
def mcore (m : Mac) : Int × Int × Int := (m.at_, m.over, m.since)
theorem mcell_core {M : Addr} {n : Nat} {ad : MAd} {m m' : Mac} (e : mcore m = mcore m') : mcell M n ad m = mcell M n ad m' := by
  unfold mcore at e
  simp only [Prod.mk.injEq] at e
  unfold mcell mfs
  rw [e.1, e.2.1, e.2.2]
theorem mcells_core {M : Addr} : ∀ {n : Nat} {as : List MAd} {ms ms' : List Mac}, ms.map mcore = ms'.map mcore → mcells M n as ms = mcells M n as ms'
  | _, [], _, _, _ => rfl
  | _, _ :: _, [], [], _ => rfl
  | _, _ :: _, [], _ :: _, h => by simp at h
  | _, _ :: _, _ :: _, [], h => by simp at h
  | n, a :: as, m :: ms, m' :: ms', h => by
    simp only [List.map_cons, List.cons.injEq] at h
    show mcell M n a m :: _ = mcell M n a m' :: _
    rw [mcell_core h.1, mcells_core h.2]
structure SAt (sh : Bool) (K : PySem.W.Frag) (F0 F : Hp) (A : RAd) (t : LSt) (w : Wld) (r : Rgt) (p anew : Bool) (ex : List (Addr × HO)) : Prop where
  own : Own F0 F ((A.a, .ins A.C A.dx (rfsS sh A t w r p anew)) :: (mcells A.M 0 A.mads t.ms ++ ex))
  ml : F0 A.ml = some (.lst (A.mads.map fun ad => .ref ad.a))
  st : ∀ (k : Nat) (ad : MAd) (ss : List Stp), A.mads[k]? = some ad → w.ms[k]? = some ss → StAt K F0 ad.sv ss
  len1 : A.mads.length = w.ms.length
  len2 : t.ms.length = w.ms.length
  pz : ∀ (k : Nat) (ad : MAd) (m : Mac) (ss : List Stp), A.mads[k]? = some ad → t.ms[k]? = some m → w.ms[k]? = some ss → ad.sv.pz = true → PzOk ss m
  np : A.hp = false → ∀ ad ∈ A.mads, ad.sv.pz = false
  na : anew = true → A.hp = false
abbrev RunAt (K : PySem.W.Frag) (F0 F : Hp) (A : RAd) (t : LSt) (w : Wld) (r : Rgt) (p anew : Bool) (ex : List (Addr × HO)) : Prop := SAt false K F0 F A t w r p anew ex
section
variable {sh : Bool} {S : Type} {J : S → Hp → Hp → Prop} {K : PySem.W.Frag} {σ : L2.St} {s : S} {F0 F : Hp} {A : RAd} {t : LSt} {w : Wld} {r : Rgt} {p anew : Bool} {ex : List (Addr × HO)} {D : L2.St → S → Hp → Prop}
theorem SAt.cell (h : SAt sh K F0 F A t w r p anew ex) : F A.a = some (.ins A.C A.dx (rfsS sh A t w r p anew)) := h.own.get (i := 0) rfl
theorem SAt.mac (h : SAt sh K F0 F A t w r p anew ex) {k : Nat} {ad : MAd} {m : Mac} (h1 : A.mads[k]? = some ad) (h2 : t.ms[k]? = some m) : F ad.a = some (.ins A.M ad.dx (mfs k ad.sv m)) := by
  have h3 := mcells_get (M := A.M) (n := 0) h1 h2
  rw [Nat.zero_add] at h3
  have hk : k < (mcells A.M 0 A.mads t.ms).length := (List.getElem?_eq_some_iff.mp h3).1
  exact h.own.get (i := k + 1) (by rw [List.getElem?_cons_succ, List.getElem?_append_left hk]; exact h3)
/-- the run's own fields are put anew -/
theorem SAt.put (h : SAt sh K F0 F A t w r p anew ex) {t' : LSt} (e : t'.ms = t.ms) : SAt sh K F0 (upd F A.a (.ins A.C A.dx (rfsS sh A t' w r p anew))) A t' w r p anew ex :=
  ⟨by rw [e]; exact h.own.set (i := 0) (a := A.a) (o' := .ins A.C A.dx (rfsS sh A t' w r p anew)) rfl, h.ml, h.st, h.len1, by rw [e]; exact h.len2, by rw [e]; exact h.pz, h.np, h.na⟩
/-- a machine's fields are put anew -/
theorem SAt.mput (h : SAt sh K F0 F A t w r p anew ex) {k : Nat} {ad : MAd} {m m' : Mac} (h1 : A.mads[k]? = some ad) (h2 : t.ms[k]? = some m) {t' : LSt} (e : t'.ms = t.ms.set k m') (er : rfsS sh A t' w r p anew = rfsS sh A t w r p anew) (hz : ∀ ss, w.ms[k]? = some ss → ad.sv.pz = true → PzOk ss m') :
    SAt sh K F0 (upd F ad.a (.ins A.M ad.dx (mfs k ad.sv m'))) A t' w r p anew ex := by
  have h3 := mcells_get (M := A.M) (n := 0) h1 h2
  rw [Nat.zero_add] at h3
  have hk : k < (mcells A.M 0 A.mads t.ms).length := (List.getElem?_eq_some_iff.mp h3).1
  have o := h.own.set (i := k + 1) (a := ad.a) (o := .ins A.M ad.dx (mfs k ad.sv m)) (o' := .ins A.M ad.dx (mfs k ad.sv m')) (by rw [List.getElem?_cons_succ, List.getElem?_append_left hk]; exact h3)
  have h4 := mcells_set (M := A.M) (n := 0) (ms := t.ms) (m' := m') h1
  rw [Nat.zero_add] at h4
  refine ⟨?_, h.ml, h.st, h.len1, by rw [e, List.length_set]; exact h.len2, fun j ad2 m2 ss g1 g2 g3 gz => ?_, h.np, h.na⟩
  · rw [e, ← h4, er]
    rw [List.set_cons_succ, List.set_append_left _ _ hk] at o
    exact o
  · rw [e, List.getElem?_set] at g2
    by_cases c : k = j
    · subst c
      rw [if_pos rfl] at g2
      have em : m2 = m' := by
        split at g2
        · exact (Option.some.inj g2).symm
        · cases g2
      rw [h1] at g1
      cases g1
      rw [em]
      exact hz ss g3 gz
    · rw [if_neg c] at g2
      exact h.pz j ad2 m2 ss g1 g2 g3 gz
theorem pz_core {ss : List Stp} {m m' : Mac} (e : mcore m' = mcore m) (h : PzOk ss m) : PzOk ss m' := by
  unfold mcore at e
  simp only [Prod.mk.injEq] at e
  unfold PzOk at h ⊢
  rw [e.1, e.2.1]
  exact h
theorem pz_same {A : RAd} {ms ms' : List Mac} {w : Wld} (e1 : ms'.map mcore = ms.map mcore) (h : ∀ (k : Nat) (ad : MAd) (m : Mac) (ss : List Stp), A.mads[k]? = some ad → ms[k]? = some m → w.ms[k]? = some ss → ad.sv.pz = true → PzOk ss m) :
    ∀ (k : Nat) (ad : MAd) (m : Mac) (ss : List Stp), A.mads[k]? = some ad → ms'[k]? = some m → w.ms[k]? = some ss → ad.sv.pz = true → PzOk ss m := fun k ad m' ss g1 g2 g3 gz => by
  have z := congrArg (fun l => l[k]?) e1
  simp only [List.getElem?_map, g2, Option.map_some] at z
  obtain ⟨m, hm, em⟩ := Option.map_eq_some_iff.mp z.symm
  exact pz_core em.symm (h k ad m ss g1 hm g3 gz)
theorem SAt.same (h : SAt sh K F0 F A t w r p anew ex) {t' : LSt} (e1 : t'.ms.map mcore = t.ms.map mcore) (e2 : t'.level = t.level) (e3 : t'.last = t.last) (e4 : t'.beat = t.beat) : SAt sh K F0 F A t' w r p anew ex :=
  ⟨by rw [mcells_core e1]; unfold rfsS; rw [e2, e3, e4]; exact h.own, h.ml, h.st, h.len1, by have := congrArg List.length e1; simp at this; rw [this]; exact h.len2, pz_same e1 h.pz, h.np, h.na⟩
theorem SAt.grow (h : SAt sh K F0 F A t w r p anew ex) {F' : Hp} (g : Ex F F') : SAt sh K F0 F' A t w r p anew ex := ⟨h.own.grow g, h.ml, h.st, h.len1, h.len2, h.pz, h.np, h.na⟩
theorem run_perm {x y : Addr × HO} {l ex : List (Addr × HO)} : (x :: (l ++ y :: ex)).Perm (y :: x :: (l ++ ex)) := (List.Perm.cons x List.perm_middle).trans (List.Perm.swap y x _)
theorem SAt.more (h : SAt sh K F0 F A t w r p anew ex) {a : Addr} {o : HO} (ha : F a = none) : SAt sh K F0 (upd F a o) A t w r p anew ((a, o) :: ex) := ⟨(h.own.more ha).perm run_perm, h.ml, h.st, h.len1, h.len2, h.pz, h.np, h.na⟩
theorem SAt.ex0 {a : Addr} {o : HO} {ex : List (Addr × HO)} (h : SAt sh K F0 F A t w r p anew ((a, o) :: ex)) : F a = some o := (h.own.perm run_perm.symm).get (i := 0) rfl
theorem SAt.exset {a : Addr} {o o' : HO} {ex : List (Addr × HO)} (h : SAt sh K F0 F A t w r p anew ((a, o) :: ex)) : SAt sh K F0 (upd F a o') A t w r p anew ((a, o') :: ex) :=
  ⟨((h.own.perm run_perm.symm).set (i := 0) (a := a) (o := o) (o' := o') rfl).perm run_perm, h.ml, h.st, h.len1, h.len2, h.pz, h.np, h.na⟩
end
end Obr
namespace Obr
open PySem L2 PyProof.Rows
local macro_rules | `(tactic| walk_at "ob_at") => `(tactic| first
  | assumption
  | exact upd_same
  | (refine Eq.trans (upd_ne ?obn) ?obr; (case obn => walk_at "ob_ne"); (case obr => walk_at "ob_at")))
local macro_rules | `(tactic| walk_at "ob_ne") => `(tactic| first
  | assumption
  | (refine Ne.symm ?obs; (case obs => assumption))
  | (refine' ne_of_none (H := ?_) ?obe ?obh; (case obh => assumption); (case obe => walk_at "ob_at"))
  | (refine Ne.symm ?obs; (case obs => (refine' ne_of_none (H := ?_) ?obe ?obh; (case obh => assumption); (case obe => walk_at "ob_at")))))
local macro_rules | `(tactic| walk_at "ob_fr") => `(tactic| first
  | assumption
  | (refine Eq.trans (upd_ne ?obn) ?obr; (case obn => walk_at "ob_ne"); (case obr => walk_at "ob_fr"))
  | (refine Ex.free (G := ?_) (by assumption) ?obh; (case obh => walk_at "ob_fr")))
local macro_rules | `(tactic| walk_at "ob_ex") => `(tactic| first
  | assumption
  | exact Ex.refl _
  | (refine Ex.out ?obg ?obh; (case obh => assumption); (case obg => walk_at "ob_ex"))
  | (refine Ex.new ?obg ?obh; (case obh => assumption); (case obg => walk_at "ob_ex"))
  | (refine Ex.new ?obg ?obh; (case obh => walk_at "ob_fr"); (case obg => walk_at "ob_ex")))
local macro_rules | `(tactic| walk_at "ob_sq") => `(tactic| first
  | assumption
  | (refine SqL.of ?oba; (case oba => walk_at "ob_at"))
  | (refine Ex.sqT (F := ?_) ?obg ?obh; (case obh => assumption); (case obg => walk_at "ob_ex"))
  | (refine Ex.sqL (F := ?_) ?obg ?obh; (case obh => assumption); (case obg => walk_at "ob_ex"))
  | (refine SqT.of ?oba; (case oba => walk_at "ob_at")))
local macro_rules | `(tactic| walk_at "ob_side") => `(tactic| first | exact rfl | assumption | decide | omega | exact ⟨by decide, by decide, by decide⟩ | exact Or.inr ⟨by decide, by decide⟩ | exact Or.inl ⟨by decide, by decide⟩ | exact wide_div (b := 60) (by first | decide | omega) (by first | decide | omega) (by decide) (by decide))
local macro_rules | `(tactic| walk_at "ob1") => `(tactic| first
  | with_reducible refine sw_seq ?_
  | with_reducible refine sw_asg ?_
  | with_reducible refine sw_ret ?_
  | with_reducible refine sw_par ?_
  | with_reducible refine ⟨_, _, rfl, ?_⟩
  | with_reducible refine sw_drop ?_
  | with_reducible refine sw_if ?_
  | with_reducible refine sw_next ?_
  | with_reducible refine gw_name ?_
  | with_reducible refine gw_subL (by assumption) ?_
  | with_reducible refine gsw_cons ?_
  | with_reducible refine gsw_nil ?_
  | with_reducible refine ew_c ?_
  | ((with_reducible refine' ew_var (v := ?_) ?obv ?_); (case obv => exact rfl))
  | ((with_reducible refine ew_next (by assumption) ?obv ?_); (case obv => exact rfl))
  | ((with_reducible refine ew_world (by assumption) ?obv ?_); (case obv => exact rfl))
  | ((with_reducible refine ew_rule (by assumption) ?obv ?_); (case obv => exact rfl))
  | with_reducible refine ew_op ?_
  | with_reducible refine ew_un ?_
  | with_reducible refine ew_dget (by assumption) ?_
  | with_reducible refine uw_I ?_
  | with_reducible refine ppw_nil ?_
  | with_reducible refine ppw_cons ?_
  | with_reducible refine sw_dput (by assumption) ?_
  | with_reducible refine ew_cb ?_
  | with_reducible refine ew_if ?_
  | with_reducible refine ew_slL (by assumption) ?_
  | with_reducible refine ow_some ?_
  | with_reducible refine ow_none ?_
  | with_reducible refine aw_nil ?_
  | with_reducible refine aw_cons ?_
  | with_reducible refine rw_I0 ?_
  | ((with_reducible refine rw_I ?obc ?_); (case obc => walk_at "ob_side"))
  | with_reducible refine rw_isN ?_
  | with_reducible refine rw_notN ?_
  | ((with_reducible refine rw_eq ?obc ?_); (case obc => exact rfl))
  | ((with_reducible refine rw_ne ?obc ?_); (case obc => exact rfl))
  | with_reducible refine cw_max2 ?_
  | with_reducible refine cw_min2 ?_
  | with_reducible refine tw_test ?_
  | with_reducible refine tw_B ?_
  | with_reducible refine tw_not ?_
  | with_reducible refine tw_truB ?_
  | with_reducible refine tw_and ?_
  | with_reducible refine tw_or ?_
  | with_reducible refine ew_and ?_
  | (refine' Exists.intro _ (And.intro (show V.bl _ = V.bl _ from rfl) ?_))
  | (refine' Exists.intro _ (And.intro (show V.int _ = V.int _ from rfl) ?_))
  | ((with_reducible refine' rw_ixL (v := ?_) (xs := ?_) (by assumption) ?obl ?oba ?_); (case obl => walk_at "ob_sq"); (case oba => first | exact rfl | exact at_zero))
  | ((with_reducible refine' rw_ixT (v := ?_) (xs := ?_) (by assumption) ?obl ?oba ?_); (case obl => walk_at "ob_sq"); (case oba => first | exact rfl | exact at_zero))
  | ((with_reducible refine' ew_lst (by assumption) ?_))
  | ((with_reducible refine' ew_tup (by assumption) ?_)))
local macro_rules | `(tactic| walk_at "ob_len") => `(tactic| first | exact Nat.le_of_ble_eq_true rfl | (simp; done) | omega)
local macro_rules | `(tactic| walk_at "ob") => `(tactic| repeat walk_at "ob1")

/-! ### Machine -/
theorem dec_vint (a b : Int) : decide (V.int a = V.int b) = decide (a = b) := by
  by_cases h : a = b
  · rw [h]; simp
  · rw [decide_eq_false h, decide_eq_false (fun e => h (by injection e))]
theorem ovV_non (i : Int) : (!decide (ovV i = V.non)) = decide (0 ≤ i) := by
  unfold ovV
  by_cases h : i < 0
  · rw [if_pos h, decide_eq_false (by omega : ¬ 0 ≤ i)]; rfl
  · rw [if_neg h, decide_eq_true (by omega : 0 ≤ i)]; rfl
def mac0 (b : Int) : Mac := ⟨0, -1, b, 0, 0, none⟩
def aMInitC (M : Addr) : List V → Hp → VK → Prop := fun vs F R => ∃ (a dx : Addr) (n b : Int) (sv : V) (ss : List Stp), vs = [.ref a, .int n, sv, .int b] ∧ F a = some (.ins M dx []) ∧ R .non (upd F a (.ins M dx (mfs n ⟨sv, false, ss⟩ (mac0 b))))
/-- the machine at a -/
structure MObj (K : PySem.W.Frag) (F0 F : Hp) (a M dx : Addr) (n : Int) (sv : Sv) (ss : List Stp) (m : Mac) : Prop where
  at_ : F a = some (.ins M dx (mfs n sv m))
  ex : Ex F0 F
  st : StAt K F0 sv ss
  pz : sv.pz = true → PzOk ss m
def aDone (K : PySem.W.Frag) (M : Addr) : List V → Hp → VK → Prop := fun vs F R => ∃ (F0 : Hp) (a dx : Addr) (n : Int) (sv : Sv) (ss : List Stp) (m : Mac), vs = [.ref a] ∧ MObj K F0 F a M dx n sv ss m ∧ R (.bl (decide (m.at_ = (sv.full.length : Int)))) F
def aBusy (K : PySem.W.Frag) (M : Addr) : List V → Hp → VK → Prop := fun vs F R => ∃ (F0 : Hp) (a dx : Addr) (n : Int) (sv : Sv) (ss : List Stp) (m : Mac), vs = [.ref a] ∧ MObj K F0 F a M dx n sv ss m ∧ R (.bl (decide (0 ≤ m.over))) F
def aWaiting (K : PySem.W.Frag) (M : Addr) : List V → Hp → VK → Prop := fun vs F R => ∃ (F0 : Hp) (a dx : Addr) (n : Int) (sv : Sv) (ss : List Stp) (m : Mac), vs = [.ref a] ∧ MObj K F0 F a M dx n sv ss m ∧ R (.bl (decide (m.over < 0 ∧ m.at_ ≠ (ss.length : Int)))) F
def leftV (m : Mac) (b : Int) : V := if 0 ≤ m.over then .int (m.over - b) else .non
def aLeft (K : PySem.W.Frag) (M : Addr) : List V → Hp → VK → Prop := fun vs F R => ∃ (F0 : Hp) (a dx : Addr) (n : Int) (sv : Sv) (ss : List Stp) (m : Mac) (b : Int), vs = [.ref a, .int b] ∧ MObj K F0 F a M dx n sv ss m ∧ R (leftV m b) F
def aNeed (K : PySem.W.Frag) (M : Addr) : List V → Hp → VK → Prop := fun vs F R => ∃ (F0 : Hp) (a dx : Addr) (n : Int) (sv : Sv) (ss : List Stp) (m : Mac) (st : Stp), vs = [.ref a] ∧ MObj K F0 F a M dx n sv ss m ∧ 0 ≤ m.at_ ∧ ss[m.at_.toNat]? = some st ∧ R (.int st.draw) F
def aBegin (K : PySem.W.Frag) (M : Addr) : List V → Hp → VK → Prop := fun vs F R => ∃ (F0 : Hp) (a dx : Addr) (n : Int) (sv : Sv) (ss : List Stp) (m : Mac) (st : Stp) (b : Int), vs = [.ref a, .int b] ∧ MObj K F0 F a M dx n sv ss m ∧ 0 ≤ m.at_ ∧ ss[m.at_.toNat]? = some st ∧ 0 ≤ b + st.long ∧
  R .non (upd F a (.ins M dx (mfs n sv { m with over := b + st.long })))
def aEndS (K : PySem.W.Frag) (M : Addr) : List V → Hp → VK → Prop := fun vs F R => ∃ (F0 : Hp) (a dx : Addr) (n : Int) (sv : Sv) (ss : List Stp) (m : Mac) (st : Stp) (b : Int), vs = [.ref a, .int b] ∧ MObj K F0 F a M dx n sv ss m ∧ 0 ≤ m.at_ ∧ ss[m.at_.toNat]? = some st ∧
  R (.int st.back) (upd F a (.ins M dx (mfs n sv { m with at_ := m.at_ + 1, over := -1, since := b })))
def aAnew (K : PySem.W.Frag) (M : Addr) : List V → Hp → VK → Prop := fun vs F R => ∃ (F0 : Hp) (a dx : Addr) (n : Int) (sv : Sv) (ss : List Stp) (m : Mac), vs = [.ref a] ∧ MObj K F0 F a M dx n sv ss m ∧ R .non (upd F a (.ins M dx (mfs n sv { m with at_ := 0 })))
section
variable {P : Program} {w : World} {K : PySem.W.Frag} {mg : Str → Option Value} {base : Heap} {M : Addr}
theorem in_addR : (rAdd : V → V → Hp → VK → Prop) = fun x y H Q => ∃ i j, x = .int i ∧ y = .int j ∧ Q (.int (i + j)) H := rfl
theorem mfs_no {n : Int} {sv : Sv} {m : Mac} {f : Str} (h : f ∉ mkeys) : (mfs n sv m).lookup f = none := lookup_out h

abbrev s_Machine__dot__is_done : Stmt := inClass (top 29) 1
def N_Machine_is_done : List Str := ["self"]
theorem sc_Machine_is_done : FnScope N_Machine_is_done ["self"] (defScope s_Machine__dot__is_done) := ⟨rfl, rfl, rfl, by decide +kernel, rfl, by decide +kernel, by decide +kernel⟩
theorem ok_Machine_is_done {f : Addr} {fd : FuncData}  (Fn : Fun K "is_done" "Machine.is_done" s_Machine__dot__is_done f fd) (B : Blt mg) (HM : ClsF K M mkeys) : FnOk P w K mg base CX0 1 f fd ["self"] (LS (aDone K M)) := by
  refine Fn.ok sc_Machine_is_done (fun vs H Q E h => ?_) (fun cdv A outer s H vs Q E hr h => ?_)
  · obtain ⟨J, F, R, hd, j, h, _⟩ := h
    obtain ⟨F0, a, dx, n, sv, ss, m, rfl, _⟩ := h
    rfl
  · have nd := sc_Machine_is_done.nd
    obtain ⟨J, F, R, hd, j, h, q⟩ := h
    obtain ⟨F0, a, dx, n, sv, ss, m, rfl, ho, k⟩ := h
    refine ⟨_, (pss_one (ps_ret (pe_cmpR op_eq (pe_fld (pv 0) rfl) (pe_callB call_len_seq (by rfl) B.len (by decide +kernel) (pa_cons (pe_fld (pv 0) rfl) pa_nil)) (nomark _)))), ?_⟩
    refine LS.body j q ?_
    walk_at "ob"
    refine ew_fld hd ?_
    walk_at "ob"
    refine ⟨a, M, dx, mfs n sv m, _, rfl, ho.at_, HM.cl, HM.no _ (by decide +kernel), lookup_nd (i := 2) (mfs_nd n sv m) rfl, ?_⟩
    walk_at "ob"
    refine ew_fld hd ?_
    walk_at "ob"
    refine ⟨a, M, dx, mfs n sv m, _, rfl, ho.at_, HM.cl, HM.no _ (by decide +kernel), lookup_nd (i := 1) (mfs_nd n sv m) rfl, ?_⟩
    obtain ⟨va, xs, eva, lx, dx2⟩ := dp_tup ho.st.d
    rw [eva]
    walk_at "ob"
    refine cw_lenS hd (Or.inr (ho.ex.sqT lx)) ?_
    have e : xs.length = sv.full.length := by have := dps_len dx2; simpa using this
    rw [e]
    walk_at "ob"
    rw [dec_vint]
    exact k

abbrev s_Machine__dot__is_busy : Stmt := inClass (top 29) 2
def N_Machine_is_busy : List Str := ["self"]
theorem sc_Machine_is_busy : FnScope N_Machine_is_busy ["self"] (defScope s_Machine__dot__is_busy) := ⟨rfl, rfl, rfl, by decide +kernel, rfl, by decide +kernel, by decide +kernel⟩
theorem ok_Machine_is_busy {f : Addr} {fd : FuncData}  (Fn : Fun K "is_busy" "Machine.is_busy" s_Machine__dot__is_busy f fd) (B : Blt mg) (HM : ClsF K M mkeys) : FnOk P w K mg base CX0 1 f fd ["self"] (LS (aBusy K M)) := by
  refine Fn.ok sc_Machine_is_busy (fun vs H Q E h => ?_) (fun cdv A outer s H vs Q E hr h => ?_)
  · obtain ⟨J, F, R, hd, j, h, _⟩ := h
    obtain ⟨F0, a, dx, n, sv, ss, m, rfl, _⟩ := h
    rfl
  · have nd := sc_Machine_is_busy.nd
    obtain ⟨J, F, R, hd, j, h, q⟩ := h
    obtain ⟨F0, a, dx, n, sv, ss, m, rfl, ho, k⟩ := h
    refine ⟨_, (pss_one (ps_ret (pe_cmpR op_notN (pe_fld (pv 0) rfl) pe_non (nomark _)))), ?_⟩
    refine LS.body j q ?_
    walk_at "ob"
    refine ew_fld hd ?_
    walk_at "ob"
    refine ⟨a, M, dx, mfs n sv m, _, rfl, ho.at_, HM.cl, HM.no _ (by decide +kernel), lookup_nd (i := 3) (mfs_nd n sv m) rfl, ?_⟩
    walk_at "ob"
    rw [ovV_non]
    exact k

abbrev s_Machine__dot__is_waiting : Stmt := inClass (top 29) 3
def N_Machine_is_waiting : List Str := ["self"]
theorem sc_Machine_is_waiting : FnScope N_Machine_is_waiting ["self"] (defScope s_Machine__dot__is_waiting) := ⟨rfl, rfl, rfl, by decide +kernel, rfl, by decide +kernel, by decide +kernel⟩
theorem ok_Machine_is_waiting {f : Addr} {fd : FuncData} {f1 f2 : Addr} {fd1 fd2 : FuncData} (Fn : Fun K "is_waiting" "Machine.is_waiting" s_Machine__dot__is_waiting f fd) (B : Blt mg) (HM : ClsF K M mkeys) (M_is_busy : Met K M "is_busy" f1 fd1 ["self"]) (G_is_busy : FnOk P w K mg base CX0 1 f1 fd1 ["self"] (LS (aBusy K M))) (M_is_done : Met K M "is_done" f2 fd2 ["self"]) (G_is_done : FnOk P w K mg base CX0 1 f2 fd2 ["self"] (LS (aDone K M))) : FnOk P w K mg base CX0 2 f fd ["self"] (LS (aWaiting K M)) := by
  refine Fn.ok sc_Machine_is_waiting (fun vs H Q E h => ?_) (fun cdv A outer s H vs Q E hr h => ?_)
  · obtain ⟨J, F, R, hd, j, h, _⟩ := h
    obtain ⟨F0, a, dx, n, sv, ss, m, rfl, _⟩ := h
    rfl
  · have nd := sc_Machine_is_waiting.nd
    obtain ⟨J, F, R, hd, j, h, q⟩ := h
    obtain ⟨F0, a, dx, n, sv, ss, m, rfl, ho, k⟩ := h
    refine ⟨_, (pss_one (ps_ret (pe_not (pe_or (pe_meth0 (pv 0) M_is_busy.cl M_is_busy.m G_is_busy (by exact hr.mono (by decide)) M_is_busy.a .nil pass0) (pe_or (pe_meth0 (pv 0) M_is_done.cl M_is_done.m G_is_done (by exact hr.mono (by decide)) M_is_done.a .nil pass0) (pe_one (pe_fld (pv 0) rfl))))))), ?_⟩
    refine LS.body j q ?_
    refine sw_ret (ew_not (ew_or (ew_meth hd ?_)))
    walk_at "ob"
    refine ⟨a, dx, _, rfl, ho.at_, mfs_no (by decide +kernel), aw_nil ⟨F0, a, dx, n, sv, ss, m, rfl, ho, ?_⟩⟩
    refine ⟨_, rfl, fun hb => ?_, fun hb => ?_⟩
    · have hb1 := of_decide_eq_true hb
      have e : (!true) = decide (m.over < 0 ∧ m.at_ ≠ (ss.length : Int)) := by rw [decide_eq_false (fun h => by omega)]; rfl
      refine ⟨_, rfl, ?_⟩
      rw [e]
      exact k
    · have hb1 : m.over < 0 := by have := of_decide_eq_false hb; omega
      refine ew_or (ew_meth hd ?_)
      walk_at "ob"
      refine ⟨a, dx, _, rfl, ho.at_, mfs_no (by decide +kernel), aw_nil ⟨F0, a, dx, n, sv, ss, m, rfl, ho, ?_⟩⟩
      refine ⟨_, rfl, fun hc => ?_, fun hc => ?_⟩
      · have hc1 := of_decide_eq_true hc
        have hat : m.at_ = (ss.length : Int) := by
          cases hz : sv.pz with
          | false => rw [ho.st.all hz]; exact hc1
          | true => rcases ho.pz hz with z | z
                    · exact z.2
                    · omega
        have e : (!true) = decide (m.over < 0 ∧ m.at_ ≠ (ss.length : Int)) := by rw [decide_eq_false (fun h => h.2 hat)]; rfl
        refine ⟨_, rfl, ?_⟩
        rw [e]
        exact k
      · have hc1 := of_decide_eq_false hc
        have e : (!sv.pz) = decide (m.over < 0 ∧ m.at_ ≠ (ss.length : Int)) := by
          cases hz : sv.pz with
          | false => rw [decide_eq_true ⟨hb1, by rw [ho.st.all hz]; exact hc1⟩]; rfl
          | true =>
            have hat : m.at_ = (ss.length : Int) := by
              rcases ho.pz hz with z | z
              · exact z.2
              · omega
            rw [decide_eq_false (fun h => h.2 hat)]; rfl
        refine ew_fld hd ?_
        walk_at "ob"
        refine ⟨a, M, dx, mfs n sv m, _, rfl, ho.at_, HM.cl, HM.no _ (by decide +kernel), lookup_nd (i := 5) (mfs_nd n sv m) rfl, ?_⟩
        refine ⟨_, rfl, ?_⟩
        rw [e]
        exact k

abbrev s_Machine__dot__left : Stmt := inClass (top 29) 5
def N_Machine_left : List Str := ["self", "beat"]
theorem sc_Machine_left : FnScope N_Machine_left ["self", "beat"] (defScope s_Machine__dot__left) := ⟨rfl, rfl, rfl, by decide +kernel, rfl, by decide +kernel, by decide +kernel⟩
theorem ok_Machine_left {f : Addr} {fd : FuncData} {f1 : Addr} {fd1 : FuncData} (Fn : Fun K "left" "Machine.left" s_Machine__dot__left f fd) (B : Blt mg) (HM : ClsF K M mkeys) (M_is_busy : Met K M "is_busy" f1 fd1 ["self"]) (G_is_busy : FnOk P w K mg base CX0 1 f1 fd1 ["self"] (LS (aBusy K M))) : FnOk P w K mg base CX0 2 f fd ["self", "beat"] (LS (aLeft K M)) := by
  refine Fn.ok sc_Machine_left (fun vs H Q E h => ?_) (fun cdv A outer s H vs Q E hr h => ?_)
  · obtain ⟨J, F, R, hd, j, h, _⟩ := h
    obtain ⟨F0, a, dx, n, sv, ss, m, b, rfl, _⟩ := h
    rfl
  · have nd := sc_Machine_left.nd
    obtain ⟨J, F, R, hd, j, h, q⟩ := h
    obtain ⟨F0, a, dx, n, sv, ss, m, b, rfl, ho, k⟩ := h
    refine ⟨_, (pss_one (ps_ret (pe_ifExp (pt_val (pe_meth0 (pv 0) M_is_busy.cl M_is_busy.m G_is_busy (by exact hr.mono (by decide)) M_is_busy.a .nil pass0)) (pe_op op_sub (pe_fld (pv 0) rfl) (pv 1)) pe_non))), ?_⟩
    refine LS.body j q ?_
    refine sw_ret (ew_if (tw_B (ew_meth hd ?_)))
    walk_at "ob"
    refine ⟨a, dx, _, rfl, ho.at_, mfs_no (by decide +kernel), aw_nil ⟨F0, a, dx, n, sv, ss, m, rfl, ho, ?_⟩⟩
    refine ⟨_, rfl, fun hb => ?_, fun hb => ?_⟩
    · have hb2 := of_decide_eq_true hb
      refine ew_op (ew_fld hd ?_)
      walk_at "ob"
      refine ⟨a, M, dx, _, _, rfl, ho.at_, HM.cl, HM.no _ (by decide +kernel), lookup_nd (i := 3) (mfs_nd _ _ _) rfl, ?_⟩
      have e : ovV m.over = .int m.over := by unfold ovV; rw [if_neg (by omega)]
      rw [e]
      walk_at "ob"
      unfold leftV at k
      rw [if_pos hb2] at k
      exact k
    · have hb2 : ¬ 0 ≤ m.over := of_decide_eq_false hb
      unfold leftV at k
      rw [if_neg hb2] at k
      exact ew_c k

abbrev s_Machine__dot__need : Stmt := inClass (top 29) 4
def N_Machine_need : List Str := ["self"]
theorem sc_Machine_need : FnScope N_Machine_need ["self"] (defScope s_Machine__dot__need) := ⟨rfl, rfl, rfl, by decide +kernel, rfl, by decide +kernel, by decide +kernel⟩
theorem ok_Machine_need {f : Addr} {fd : FuncData}  (Fn : Fun K "need" "Machine.need" s_Machine__dot__need f fd) (B : Blt mg) (HM : ClsF K M mkeys) {tD : Tok} (gDRAW : mg "DRAW" = some (.int 0 tD)) : FnOk P w K mg base CX0 1 f fd ["self"] (LS (aNeed K M)) := by
  refine Fn.ok sc_Machine_need (fun vs H Q E h => ?_) (fun cdv A outer s H vs Q E hr h => ?_)
  · obtain ⟨J, F, R, hd, j, h, _⟩ := h
    obtain ⟨F0, a, dx, n, sv, ss, m, st, rfl, _⟩ := h
    rfl
  · have nd := sc_Machine_need.nd
    obtain ⟨J, F, R, hd, j, h, q⟩ := h
    obtain ⟨F0, a, dx, n, sv, ss, m, st, rfl, ho, ha0, hst, k⟩ := h
    refine ⟨_, (pss_one (ps_ret (pe_ix ix_tup (pe_ix ix_tup (pe_fld (pv 0) rfl) (pe_fld (pv 0) rfl) (fun _ _ => rfl)) (pe_glob (v := .int 0) rfl gDRAW ⟨_, rfl⟩) (fun _ _ => rfl)))), ?_⟩
    refine LS.body j q ?_
    walk_at "ob"
    refine ew_fld hd ?_
    walk_at "ob"
    refine ⟨a, M, dx, mfs n sv m, _, rfl, ho.at_, HM.cl, HM.no _ (by decide +kernel), lookup_nd (i := 1) (mfs_nd n sv m) rfl, ?_⟩
    walk_at "ob"
    refine ew_fld hd ?_
    walk_at "ob"
    refine ⟨a, M, dx, mfs n sv m, _, rfl, ho.at_, HM.cl, HM.no _ (by decide +kernel), lookup_nd (i := 2) (mfs_nd n sv m) rfl, ?_⟩
    refine r_stp hd ho.ex ho.st.d ha0 (ho.st.get hst) fun u du => ?_
    walk_at "ob"
    refine (r_fld hd ho.ex du).1 ?_
    exact k

abbrev s_Machine__dot__begin_step : Stmt := inClass (top 29) 6
def N_Machine_begin_step : List Str := ["self", "beat"]
theorem sc_Machine_begin_step : FnScope N_Machine_begin_step ["self", "beat"] (defScope s_Machine__dot__begin_step) := ⟨rfl, rfl, rfl, by decide +kernel, rfl, by decide +kernel, by decide +kernel⟩
theorem ok_Machine_begin_step {f : Addr} {fd : FuncData}  (Fn : Fun K "begin_step" "Machine.begin_step" s_Machine__dot__begin_step f fd) (B : Blt mg) (HM : ClsF K M mkeys) {tD : Tok} (gLONG : mg "LONG" = some (.int 1 tD)) : FnOk P w K mg base CX0 1 f fd ["self", "beat"] (LS (aBegin K M)) := by
  refine Fn.ok sc_Machine_begin_step (fun vs H Q E h => ?_) (fun cdv A outer s H vs Q E hr h => ?_)
  · obtain ⟨J, F, R, hd, j, h, _⟩ := h
    obtain ⟨F0, a, dx, n, sv, ss, m, st, b, rfl, _⟩ := h
    rfl
  · have nd := sc_Machine_begin_step.nd
    obtain ⟨J, F, R, hd, j, h, q⟩ := h
    obtain ⟨F0, a, dx, n, sv, ss, m, st, b, rfl, ho, ha0, hst, hbl, k⟩ := h
    refine ⟨_, (pss_one (ps_fld (pv 0) (pe_op op_add (pv 1) (pe_ix ix_tup (pe_ix ix_tup (pe_fld (pv 0) rfl) (pe_fld (pv 0) rfl) (fun _ _ => rfl)) (pe_glob (v := .int 1) rfl gLONG ⟨_, rfl⟩) (fun _ _ => rfl))) rfl)), ?_⟩
    refine LS.body j q ?_
    refine sw_fld hd ?_
    walk_at "ob"
    refine ew_fld hd ?_
    walk_at "ob"
    refine ⟨a, M, dx, mfs n sv m, _, rfl, ho.at_, HM.cl, HM.no _ (by decide +kernel), lookup_nd (i := 1) (mfs_nd n sv m) rfl, ?_⟩
    walk_at "ob"
    refine ew_fld hd ?_
    walk_at "ob"
    refine ⟨a, M, dx, mfs n sv m, _, rfl, ho.at_, HM.cl, HM.no _ (by decide +kernel), lookup_nd (i := 2) (mfs_nd n sv m) rfl, ?_⟩
    refine r_stp hd ho.ex ho.st.d ha0 (ho.st.get hst) fun u du => ?_
    walk_at "ob"
    refine (r_fld hd ho.ex du).2.1 ?_
    walk_at "ob"
    refine ⟨a, M, dx, mfs n sv m, rfl, ho.at_, HM.cl, HM.no _ (by decide +kernel), Nat.lt_of_le_of_lt (Nat.le_of_ble_eq_true (m := 6) rfl) (by decide), ?_⟩
    rw [putF_nd (i := 3) (mfs_nd n sv m) rfl]
    have e : (mfs n sv m).set 3 ("over", V.int (b + st.long)) = mfs n sv { m with over := b + st.long } := by
      have e0 : ovV (b + st.long) = V.int (b + st.long) := by
        unfold ovV
        rw [if_neg (by omega)]
      unfold mfs
      rw [e0]
      rfl
    rw [e]
    exact k

abbrev s_Machine__dot__end_step : Stmt := inClass (top 29) 7
def N_Machine_end_step : List Str := ["self", "beat", "back"]
theorem sc_Machine_end_step : FnScope N_Machine_end_step ["self", "beat"] (defScope s_Machine__dot__end_step) := ⟨rfl, rfl, rfl, by decide +kernel, rfl, by decide +kernel, by decide +kernel⟩
theorem ok_Machine_end_step {f : Addr} {fd : FuncData}  (Fn : Fun K "end_step" "Machine.end_step" s_Machine__dot__end_step f fd) (B : Blt mg) (HM : ClsF K M mkeys) {tD : Tok} (gBACK : mg "BACK" = some (.int 2 tD)) : FnOk P w K mg base CX0 1 f fd ["self", "beat"] (LS (aEndS K M)) := by
  refine Fn.ok sc_Machine_end_step (fun vs H Q E h => ?_) (fun cdv A outer s H vs Q E hr h => ?_)
  · obtain ⟨J, F, R, hd, j, h, _⟩ := h
    obtain ⟨F0, a, dx, n, sv, ss, m, st, b, rfl, _⟩ := h
    rfl
  · have nd := sc_Machine_end_step.nd
    obtain ⟨J, F, R, hd, j, h, q⟩ := h
    obtain ⟨F0, a, dx, n, sv, ss, m, st, b, rfl, ho, ha0, hst, k⟩ := h
    refine ⟨_, (pss_cons (ps_set (i := 2) nd rfl (Or.inl rfl) (pe_ix ix_tup (pe_ix ix_tup (pe_fld (pv 0) rfl) (pe_fld (pv 0) rfl) (fun _ _ => rfl)) (pe_glob (v := .int 2) rfl gBACK ⟨_, rfl⟩) (fun _ _ => rfl)))
      (pss_cons (ps_fldaug (pv 0) pe_int in_add)
      (pss_cons (ps_fld (pv 0) pe_non rfl)
      (pss_cons (ps_fld (pv 0) (pv 1) rfl)
      (pss_one (ps_ret (pv 2))))))), ?_⟩
    refine LS.body j q ?_
    walk_at "ob"
    refine ew_fld hd ?_
    walk_at "ob"
    refine ⟨a, M, dx, mfs n sv m, _, rfl, ho.at_, HM.cl, HM.no _ (by decide +kernel), lookup_nd (i := 1) (mfs_nd n sv m) rfl, ?_⟩
    walk_at "ob"
    refine ew_fld hd ?_
    walk_at "ob"
    refine ⟨a, M, dx, mfs n sv m, _, rfl, ho.at_, HM.cl, HM.no _ (by decide +kernel), lookup_nd (i := 2) (mfs_nd n sv m) rfl, ?_⟩
    refine r_stp hd ho.ex ho.st.d ha0 (ho.st.get hst) fun u du => ?_
    walk_at "ob"
    refine (r_fld hd ho.ex du).2.2 ?_
    walk_at "ob"
    refine sw_fldaugI hd in_addR ?_
    walk_at "ob"
    refine ⟨a, M, dx, mfs n sv m, m.at_, rfl, ho.at_, HM.cl, HM.no _ (by decide +kernel), lookup_nd (i := 2) (mfs_nd n sv m) rfl, ?_⟩
    walk_at "ob"
    refine ⟨1, dx, mfs n sv m, rfl, ho.at_, Nat.lt_of_le_of_lt (Nat.le_of_ble_eq_true (m := 6) rfl) (by decide), ?_⟩
    rw [putF_nd (i := 2) (mfs_nd n sv m) rfl, show (mfs n sv m).set 2 ("at", V.int (m.at_ + 1)) = mfs n sv { m with at_ := m.at_ + 1 } from rfl]
    walk_at "ob"
    refine sw_fld hd ?_
    walk_at "ob"
    refine ⟨a, M, dx, _, rfl, upd_same, HM.cl, HM.no _ (by decide +kernel), Nat.lt_of_le_of_lt (Nat.le_of_ble_eq_true (m := 6) rfl) (by decide), ?_⟩
    rw [putF_nd (i := 3) (mfs_nd n sv _) rfl, upd_upd, show (mfs n sv { m with at_ := m.at_ + 1 }).set 3 ("over", V.non) = mfs n sv { m with at_ := m.at_ + 1, over := -1 } from rfl]
    walk_at "ob"
    refine sw_fld hd ?_
    walk_at "ob"
    refine ⟨a, M, dx, _, rfl, upd_same, HM.cl, HM.no _ (by decide +kernel), Nat.lt_of_le_of_lt (Nat.le_of_ble_eq_true (m := 6) rfl) (by decide), ?_⟩
    rw [putF_nd (i := 4) (mfs_nd n sv _) rfl, upd_upd, show (mfs n sv { m with at_ := m.at_ + 1, over := -1 }).set 4 ("since", V.int b) = mfs n sv { m with at_ := m.at_ + 1, over := -1, since := b } from rfl]
    walk_at "ob"
    exact k

abbrev s_Machine__dot__begin_anew : Stmt := inClass (top 29) 8
def N_Machine_begin_anew : List Str := ["self"]
theorem sc_Machine_begin_anew : FnScope N_Machine_begin_anew ["self"] (defScope s_Machine__dot__begin_anew) := ⟨rfl, rfl, rfl, by decide +kernel, rfl, by decide +kernel, by decide +kernel⟩
theorem ok_Machine_begin_anew {f : Addr} {fd : FuncData}  (Fn : Fun K "begin_anew" "Machine.begin_anew" s_Machine__dot__begin_anew f fd) (B : Blt mg) (HM : ClsF K M mkeys) : FnOk P w K mg base CX0 1 f fd ["self"] (LS (aAnew K M)) := by
  refine Fn.ok sc_Machine_begin_anew (fun vs H Q E h => ?_) (fun cdv A outer s H vs Q E hr h => ?_)
  · obtain ⟨J, F, R, hd, j, h, _⟩ := h
    obtain ⟨F0, a, dx, n, sv, ss, m, rfl, _⟩ := h
    rfl
  · have nd := sc_Machine_begin_anew.nd
    obtain ⟨J, F, R, hd, j, h, q⟩ := h
    obtain ⟨F0, a, dx, n, sv, ss, m, rfl, ho, k⟩ := h
    refine ⟨_, (pss_one (ps_fld (pv 0) pe_int rfl)), ?_⟩
    refine LS.body j q ?_
    refine sw_fld hd ?_
    walk_at "ob"
    refine ⟨a, M, dx, mfs n sv m, rfl, ho.at_, HM.cl, HM.no _ (by decide +kernel), Nat.lt_of_le_of_lt (Nat.le_of_ble_eq_true (m := 6) rfl) (by decide), ?_⟩
    rw [putF_nd (i := 2) (mfs_nd n sv m) rfl, show (mfs n sv m).set 2 ("at", V.int 0) = mfs n sv { m with at_ := 0 } from rfl]
    exact k

abbrev s_Machine__dot____init__ : Stmt := inClass (top 29) 0
def N_Machine___init__ : List Str := ["self", "number", "steps", "since"]
theorem sc_Machine___init__ : FnScope N_Machine___init__ ["self", "number", "steps", "since"] (defScope s_Machine__dot____init__) := ⟨rfl, rfl, rfl, by decide +kernel, rfl, by decide +kernel, by decide +kernel⟩
theorem ok_Machine___init__ {f : Addr} {fd : FuncData}  (Fn : Fun K "__init__" "Machine.__init__" s_Machine__dot____init__ f fd) (B : Blt mg) (HM : ClsF K M mkeys) : FnOk P w K mg base CX0 1 f fd ["self", "number", "steps", "since"] (LS (aMInitC M)) := by
  refine Fn.ok sc_Machine___init__ (fun vs H Q E h => ?_) (fun cdv A outer s H vs Q E hr h => ?_)
  · obtain ⟨J, F, R, hd, j, h, _⟩ := h
    obtain ⟨a, dx, n, b, sv, ss, rfl, _⟩ := h
    rfl
  · have nd := sc_Machine___init__.nd
    obtain ⟨J, F, R, hd, j, h, q⟩ := h
    obtain ⟨a, dx, n, b, sv, ss, rfl, ha, k⟩ := h
    refine ⟨_, (pss_cons (ps_fld (pv 0) (pv 1) rfl)
      (pss_cons (ps_fld (pv 0) (pv 2) rfl)
      (pss_cons (ps_fld (pv 0) pe_int rfl)
      (pss_cons (ps_fld (pv 0) pe_non rfl)
      (pss_cons (ps_fld (pv 0) (pv 3) rfl)
      (pss_one (ps_fld (pv 0) pe_bl rfl))))))), ?_⟩
    refine LS.body j q ?_
    refine sw_seq ?_
    refine sw_fld hd ?_
    walk_at "ob"
    refine ⟨a, M, dx, [], rfl, ha, HM.cl, HM.no _ (by decide +kernel), Nat.lt_of_le_of_lt (Nat.le_of_ble_eq_true (m := 6) rfl) (by decide), ?_⟩
    rw [putF_out (show _ ∉ mkeys.take 0 from by decide +kernel)]
    refine sw_seq ?_
    refine sw_fld hd ?_
    walk_at "ob"
    refine ⟨a, M, dx, [("number", V.int n)], rfl, upd_same, HM.cl, HM.no _ (by decide +kernel), Nat.lt_of_le_of_lt (Nat.le_of_ble_eq_true (m := 6) rfl) (by decide), ?_⟩
    rw [putF_out (show _ ∉ mkeys.take 1 from by decide +kernel), upd_upd]
    refine sw_seq ?_
    refine sw_fld hd ?_
    walk_at "ob"
    refine ⟨a, M, dx, [("number", V.int n), ("steps", sv)], rfl, upd_same, HM.cl, HM.no _ (by decide +kernel), Nat.lt_of_le_of_lt (Nat.le_of_ble_eq_true (m := 6) rfl) (by decide), ?_⟩
    rw [putF_out (show _ ∉ mkeys.take 2 from by decide +kernel), upd_upd]
    refine sw_seq ?_
    refine sw_fld hd ?_
    walk_at "ob"
    refine ⟨a, M, dx, [("number", V.int n), ("steps", sv), ("at", V.int 0)], rfl, upd_same, HM.cl, HM.no _ (by decide +kernel), Nat.lt_of_le_of_lt (Nat.le_of_ble_eq_true (m := 6) rfl) (by decide), ?_⟩
    rw [putF_out (show _ ∉ mkeys.take 3 from by decide +kernel), upd_upd]
    refine sw_seq ?_
    refine sw_fld hd ?_
    walk_at "ob"
    refine ⟨a, M, dx, [("number", V.int n), ("steps", sv), ("at", V.int 0), ("over", V.non)], rfl, upd_same, HM.cl, HM.no _ (by decide +kernel), Nat.lt_of_le_of_lt (Nat.le_of_ble_eq_true (m := 6) rfl) (by decide), ?_⟩
    rw [putF_out (show _ ∉ mkeys.take 4 from by decide +kernel), upd_upd]
    
    refine sw_fld hd ?_
    walk_at "ob"
    refine ⟨a, M, dx, [("number", V.int n), ("steps", sv), ("at", V.int 0), ("over", V.non), ("since", V.int b)], rfl, upd_same, HM.cl, HM.no _ (by decide +kernel), Nat.lt_of_le_of_lt (Nat.le_of_ble_eq_true (m := 6) rfl) (by decide), ?_⟩
    rw [putF_out (show _ ∉ mkeys.take 5 from by decide +kernel), upd_upd]
    exact k
end
end Obr
namespace Obr
/-! ### what a beat does, machine by machine (mathematics only) -/
theorem turn_uniq {r : Rgt} {last : Int} {cs a b : List Clm} (h1 : TurnOk r last cs a) (h2 : TurnOk r last cs b) : a = b :=
  List.Perm.eq_of_pairwise (fun x y _ _ h k => by unfold cLt at h k; omega) h1.srt h2.srt (h1.perm.trans h2.perm.symm)
theorem beat_uniq {w : Wld} {r : Rgt} {p anew : Bool} {t a b : LSt} {l1 l2 : Int} {g1 g2 : List Int} (h1 : LBeat w r p anew t a l1 g1) (h2 : LBeat w r p anew t b l2 g2) : a = b ∧ l1 = l2 ∧ g1 = g2 := by
  obtain ⟨ts, k1, e1, e2, e3⟩ := h1.ex
  obtain ⟨ts2, k2, f1, f2, f3⟩ := h2.ex
  obtain rfl := turn_uniq k1 k2
  subst e1 e2 e3 f1 f2 f3
  exact ⟨rfl, rfl, rfl⟩
def endM (anew : Bool) (b : Int) (ss : List Stp) (m : Mac) : Mac :=
  if m.over = b then
    match ss[m.at_.toNat]? with
    | some _ => if m.at_ + 1 = ss.length then ⟨if anew then 0 else m.at_ + 1, -1, b, m.done + 1, m.waits, some b⟩ else ⟨m.at_ + 1, -1, b, m.done + 1, m.waits, m.ends⟩
    | none => m
  else m
theorem set_get {α : Type} {l : List α} {k j : Nat} {x : α} : (l.set k x)[j]? = if k = j then (l[j]?).map (fun _ => x) else l[j]? := by
  rw [List.getElem?_set]
  by_cases c : k = j
  · subst c
    rw [if_pos rfl, if_pos rfl]
    by_cases h : k < l.length
    · rw [if_pos h, List.getElem?_eq_getElem h]; rfl
    · rw [if_neg h, List.getElem?_eq_none (by omega)]; rfl
  · rw [if_neg c, if_neg c]
theorem lEnd_ms {w : Wld} {anew : Bool} {t : LSt} {k : Nat} {ss : List Stp} (hs : w.ms[k]? = some ss) (j : Nat) : (lEnd w anew t k).ms[j]? = if k = j then (t.ms[j]?).map (endM anew t.beat ss) else t.ms[j]? := by
  unfold lEnd
  split
  · rename_i m s2 hm h2
    rw [hs] at h2
    cases h2
    by_cases c : k = j
    · subst c
      rw [if_pos rfl, hm]
      unfold endM
      split
      · rename_i ho
        simp only [Option.map_some]
        rw [if_pos ho]
        split
        · rename_i st hst
          try simp only [hst]
          split
          · rw [set_get, if_pos rfl, hm]; rfl
          · rw [set_get, if_pos rfl, hm]; rfl
        · rename_i hst
          try simp only [hst]
          exact hm
      · rename_i ho
        simp only [Option.map_some]
        rw [if_neg ho]
        exact hm
    · rw [if_neg c]
      split
      · split
        · split
          · rw [set_get, if_neg c]
          · rw [set_get, if_neg c]
        · rfl
      · rfl
  · rename_i hno
    by_cases c : k = j
    · subst c
      rw [if_pos rfl]
      cases hm : t.ms[k]? with
      | none => rfl
      | some m => exact absurd hs (hno m ss hm)
    · rw [if_neg c]
theorem lEnds_ms {w : Wld} {anew : Bool} {t : LSt} : ∀ {n : Nat} {j : Nat} {ss : List Stp}, n ≤ w.ms.length → w.ms[j]? = some ss → (lEnds w anew t n).ms[j]? = if j < n then (t.ms[j]?).map (endM anew t.beat ss) else t.ms[j]?
  | 0, j, ss, _, _ => by rw [if_neg (by omega)]; rfl
  | n + 1, j, ss, hn, hj => by
    have hk : w.ms[n]? = some w.ms[n] := List.getElem?_eq_getElem (by omega)
    rw [lEnds, lEnd_ms hk, lEnds_beat]
    by_cases c : n = j
    · subst c
      rw [if_pos rfl, if_pos (by omega), lEnds_ms (by omega) hk, if_neg (by omega)]
      rw [hk] at hj
      cases hj
      rfl
    · rw [if_neg c, lEnds_ms (by omega) hj]
      by_cases d : j < n
      · rw [if_pos d, if_pos (by omega)]
      · rw [if_neg d, if_neg (by omega)]
theorem lFill_ms {w : Wld} {t : LSt} : (lFill w t).ms = t.ms := by unfold lFill; split <;> rfl
theorem lFill_beat {w : Wld} {t : LSt} : (lFill w t).beat = t.beat := by unfold lFill; split <;> rfl
theorem lDraw_beat {w : Wld} {p : Bool} {x : LSt × List Int × Bool} {c : Clm} : (lDraw w p x c).1.beat = x.1.beat ∧ (lDraw w p x c).1.last = x.1.last := by
  unfold lDraw
  repeat' split
  all_goals exact ⟨rfl, rfl⟩
theorem lDraws_beat {w : Wld} {p : Bool} : ∀ (ts : List Clm) {x : LSt × List Int × Bool}, (ts.foldl (lDraw w p) x).1.beat = x.1.beat ∧ (ts.foldl (lDraw w p) x).1.last = x.1.last
  | [], _ => ⟨rfl, rfl⟩
  | c :: ts, x => by
    have h := lDraws_beat ts (w := w) (p := p) (x := lDraw w p x c)
    have k := lDraw_beat (w := w) (p := p) (x := x) (c := c)
    exact ⟨h.1.trans k.1, h.2.trans k.2⟩
theorem lDraw_other {w : Wld} {p : Bool} {x : LSt × List Int × Bool} {c : Clm} {j : Nat} (h : c.k.toNat ≠ j) : (lDraw w p x c).1.ms[j]? = x.1.ms[j]? := by
  unfold lDraw
  split
  · split
    · split
      · rw [set_get, if_neg h]
      · rfl
    · rw [set_get, if_neg h]
  · rfl
theorem lDraw_bg {w : Wld} {p : Bool} {x : LSt × List Int × Bool} {c : Clm} : (lDraw w p x c).2.1 = x.2.1 ∨ (lDraw w p x c).2.1 = x.2.1 ++ [c.k] := by
  unfold lDraw
  split
  · split
    · split
      · exact Or.inr rfl
      · exact Or.inl rfl
    · exact Or.inl rfl
  · exact Or.inl rfl
theorem lDraw_here {w : Wld} {p : Bool} {x : LSt × List Int × Bool} {c : Clm} {m : Mac} {ss : List Stp} {st : Stp} (hm : x.1.ms[c.k.toNat]? = some m) (hs : w.ms[c.k.toNat]? = some ss) (hst : ss[m.at_.toNat]? = some st) :
    ((lDraw w p x c).2.1 = x.2.1 ++ [c.k] ∧ c.draw ≤ x.1.level ∧ (lDraw w p x c).1.level = x.1.level - c.draw ∧ (lDraw w p x c).1.ms[c.k.toNat]? = some { m with over := x.1.beat + st.long }) ∨
    ((lDraw w p x c).2.1 = x.2.1 ∧ (lDraw w p x c).1.level = x.1.level ∧ (lDraw w p x c).1.ms[c.k.toNat]? = some { m with waits := m.waits + 1 }) := by
  unfold lDraw
  rw [hm, hs]
  simp only [hst]
  split
  · rename_i h
    refine Or.inl ⟨rfl, h.2, rfl, ?_⟩
    show (x.1.ms.set _ _)[_]? = _
    rw [set_get, if_pos rfl, hm]; rfl
  · refine Or.inr ⟨rfl, rfl, ?_⟩
    show (x.1.ms.set _ _)[_]? = _
    rw [set_get, if_pos rfl, hm]; rfl
/-- after the draws: each machine -/
theorem lDraws_ms {w : Wld} {p : Bool} {s : LSt} : ∀ (ts : List Clm) {x : LSt × List Int × Bool}, (ts.map Clm.k).Nodup → (∀ c ∈ ts, 0 ≤ c.k) → (∀ c ∈ ts, ∀ b ∈ x.2.1, b ≠ c.k) →
    (∀ c ∈ ts, ∃ m ss st, x.1.ms[c.k.toNat]? = some m ∧ w.ms[c.k.toNat]? = some ss ∧ ss[m.at_.toNat]? = some st) →
    (∀ b ∈ (ts.foldl (lDraw w p) x).2.1, b ∈ x.2.1 ∨ b ∈ ts.map Clm.k) ∧ (∀ b ∈ x.2.1, b ∈ (ts.foldl (lDraw w p) x).2.1) ∧
    (∀ j : Nat, (j : Int) ∉ ts.map Clm.k → (ts.foldl (lDraw w p) x).1.ms[j]? = x.1.ms[j]?) ∧
    (∀ (j : Nat) (m : Mac), (j : Int) ∈ ts.map Clm.k → x.1.ms[j]? = some m → ∃ ss st, w.ms[j]? = some ss ∧ ss[m.at_.toNat]? = some st ∧
      (((j : Int) ∈ (ts.foldl (lDraw w p) x).2.1 ∧ (ts.foldl (lDraw w p) x).1.ms[j]? = some { m with over := x.1.beat + st.long }) ∨ ((j : Int) ∉ (ts.foldl (lDraw w p) x).2.1 ∧ (ts.foldl (lDraw w p) x).1.ms[j]? = some { m with waits := m.waits + 1 })))
  | [], x, _, _, _, _ => ⟨fun b h => Or.inl h, fun b h => h, fun _ _ => rfl, fun j m h _ => by cases h⟩
  | c :: ts, x, hn, h0, hb, hx => by
    rw [List.map_cons, List.nodup_cons] at hn
    have hc0 := h0 c List.mem_cons_self
    have hkk : ∀ j : Nat, c.k.toNat = j ↔ c.k = (j : Int) := fun j => by omega
    have hne : ∀ d ∈ ts, c.k ≠ d.k := fun d hd e => hn.1 (by rw [e]; exact List.mem_map_of_mem hd)
    have ih := lDraws_ms (s := s) ts (w := w) (p := p) (x := lDraw w p x c) hn.2 (fun d hd => h0 d (List.mem_cons_of_mem _ hd))
      (fun d hd b hbm => by
        rcases lDraw_bg (w := w) (p := p) (x := x) (c := c) with e | e
        · rw [e] at hbm; exact hb d (List.mem_cons_of_mem _ hd) b hbm
        · rw [e] at hbm
          rcases List.mem_append.mp hbm with hbm | hbm
          · exact hb d (List.mem_cons_of_mem _ hd) b hbm
          · rw [List.mem_singleton.mp hbm]; exact hne d hd)
      (fun d hd => by
        obtain ⟨m, ss, st, h1, h2, h3⟩ := hx d (List.mem_cons_of_mem _ hd)
        refine ⟨m, ss, st, ?_, h2, h3⟩
        rw [lDraw_other (fun e => hne d hd (by have := h0 d (List.mem_cons_of_mem _ hd); omega))]
        exact h1)
    obtain ⟨i1, i2, i3, i4⟩ := ih
    rw [List.foldl_cons]
    refine ⟨fun b hbm => ?_, fun b hbm => ?_, fun j hj => ?_, fun j m hj hm => ?_⟩
    · rcases i1 b hbm with h | h
      · rcases lDraw_bg (w := w) (p := p) (x := x) (c := c) with e | e
        · rw [e] at h; exact Or.inl h
        · rw [e] at h
          rcases List.mem_append.mp h with h | h
          · exact Or.inl h
          · rw [List.mem_singleton.mp h]; exact Or.inr List.mem_cons_self
      · exact Or.inr (List.mem_cons_of_mem _ h)
    · refine i2 b ?_
      rcases lDraw_bg (w := w) (p := p) (x := x) (c := c) with e | e
      · rw [e]; exact hbm
      · rw [e]; exact List.mem_append_left _ hbm
    · rw [List.map_cons, List.mem_cons, not_or] at hj
      rw [i3 j hj.2]
      exact lDraw_other (fun e => hj.1 ((hkk j).mp e).symm)
    · by_cases e : c.k = (j : Int)
      · have ej : c.k.toNat = j := (hkk j).mpr e
        obtain ⟨m2, ss, st, h1, h2, h3⟩ := hx c List.mem_cons_self
        rw [ej] at h1 h2
        rw [hm] at h1
        cases h1
        have hnt : (j : Int) ∉ ts.map Clm.k := by rw [← e]; exact hn.1
        refine ⟨ss, st, h2, h3, ?_⟩
        rw [i3 j hnt]
        rcases lDraw_here (w := w) (p := p) (x := x) (c := c) (by rw [ej]; exact hm) (by rw [ej]; exact h2) h3 with ⟨k1, k2, k3, k4⟩ | ⟨k1, k2, k3⟩
        · rw [ej] at k4
          refine Or.inl ⟨i2 _ ?_, k4⟩
          rw [k1, ← e]
          simp
        · rw [ej] at k3
          refine Or.inr ⟨fun hin => ?_, k3⟩
          rcases i1 _ hin with h | h
          · rw [k1] at h
            exact hb c List.mem_cons_self _ h e.symm
          · exact hnt h
      · have hjt : (j : Int) ∈ ts.map Clm.k := by
          rw [List.map_cons] at hj
          rcases List.mem_cons.mp hj with h | h
          · exact absurd h.symm e
          · exact h
        have hm' : (lDraw w p x c).1.ms[j]? = some m := by rw [lDraw_other (fun q => e ((hkk j).mp q))]; exact hm
        obtain ⟨ss, st, h2, h3, h4⟩ := i4 j m hjt hm'
        rw [lDraw_beat.1] at h4
        exact ⟨ss, st, h2, h3, h4⟩
/-- what a beat does to a machine -/
structure MBeat (anew : Bool) (b : Int) (ss : List Stp) (m m' : Mac) (began : Prop) : Prop where
  no : ¬ ((endM anew b ss m).over < 0 ∧ (endM anew b ss m).at_ < ss.length) → m' = endM anew b ss m ∧ ¬ began
  yes : ((endM anew b ss m).over < 0 ∧ (endM anew b ss m).at_ < ss.length) → ∃ st, ss[(endM anew b ss m).at_.toNat]? = some st ∧ ((began ∧ m' = { endM anew b ss m with over := b + st.long }) ∨ (¬ began ∧ m' = { endM anew b ss m with waits := m.waits + 1 }))
theorem endM_waits {anew : Bool} {b : Int} {ss : List Stp} {m : Mac} : (endM anew b ss m).waits = m.waits := by
  unfold endM
  repeat' split
  all_goals rfl
theorem beat_ms {w : Wld} {r : Rgt} {p anew : Bool} {t t' : LSt} {lv : Int} {bg : List Int} (h : LOk w t) (b : LBeat w r p anew t t' lv bg) : t'.ms.length = w.ms.length ∧ t'.beat = t.beat + 1 ∧
    ∀ (k : Nat) (m : Mac) (ss : List Stp), t.ms[k]? = some m → w.ms[k]? = some ss → ∃ m', t'.ms[k]? = some m' ∧ MBeat anew t.beat ss m m' ((k : Int) ∈ bg) := by
  obtain ⟨ts, hts, e1, e2, _⟩ := b.ex
  have hS : ∀ (k : Nat) (m : Mac) (ss : List Stp), t.ms[k]? = some m → w.ms[k]? = some ss → (lFill w (lEnds w anew t w.ms.length)).ms[k]? = some (endM anew t.beat ss m) := fun k m ss hm hs => by
    rw [lFill_ms, lEnds_ms (Nat.le_refl _) hs, if_pos (List.getElem?_eq_some_iff.mp hs).1, hm]
    rfl
  have hok := lFill_ok (lEnds_ok (anew := anew) h w.ms.length)
  have hmem : ∀ c ∈ ts, ∃ (j : Nat) (m : Mac) (ss : List Stp) (st : Stp), j < w.ms.length ∧ (lFill w (lEnds w anew t w.ms.length)).ms[j]? = some m ∧ w.ms[j]? = some ss ∧ m.over < 0 ∧ m.at_ < ss.length ∧ ss[m.at_.toNat]? = some st ∧ c = ⟨j, st.draw, m.since⟩ := fun c hc => by
    obtain ⟨j, hj, hcj⟩ := lClaims_mem (hts.perm.mem_iff.mp hc)
    obtain ⟨m, ss, st, h1, h2, h3, h4, h5, h6⟩ := lClaim_mem hcj
    exact ⟨j, m, ss, st, hj, h1, h2, h3, h4, h5, h6⟩
  have hD := lDraws_ms (w := w) (p := p) (s := t) ts (x := (lFill w (lEnds w anew t w.ms.length), [], true)) ((hts.perm.map Clm.k).nodup_iff.mpr (lClaims_nd _))
    (fun c hc => by obtain ⟨j, _, _, _, _, _, _, _, _, _, e⟩ := hmem c hc; rw [e]; exact Int.natCast_nonneg _) (fun _ _ b hb => by cases hb)
    (fun c hc => by
      obtain ⟨j, m, ss, st, _, h1, h2, _, _, h5, e⟩ := hmem c hc
      refine ⟨m, ss, st, ?_, ?_, h5⟩
      · rw [e]; show _[((j : Int)).toNat]? = _; rw [Int.toNat_natCast]; exact h1
      · rw [e]; show _[((j : Int)).toNat]? = _; rw [Int.toNat_natCast]; exact h2)
  have hlen : (lDraws w p ts (lFill w (lEnds w anew t w.ms.length))).1.ms.length = w.ms.length := by
    have hh : ∀ (ts : List Clm) (x : LSt × List Int × Bool), (ts.foldl (lDraw w p) x).1.ms.length = x.1.ms.length := by
      intro ts
      induction ts with
      | nil => intro x; rfl
      | cons c ts ih =>
        intro x
        rw [List.foldl_cons, ih]
        unfold lDraw
        repeat' split
        all_goals simp
    unfold lDraws
    rw [hh]
    exact hok.len
  subst e2
  refine ⟨hlen, ?_, fun k m ss hm hs => ?_⟩
  · show (lDraws w p ts _).1.beat + 1 = _
    unfold lDraws
    rw [(lDraws_beat ts).1, lFill_beat, lEnds_beat]
  · have h1 := hS k m ss hm hs
    have hD1 := hD.1
    obtain ⟨_, _, d3, d4⟩ := hD
    have hbgk : (k : Int) ∈ bg → (k : Int) ∈ ts.map Clm.k := fun hb => by
      rw [e1] at hb
      rcases hD1 _ hb with q | q
      · cases q
      · exact q
    by_cases hc : (endM anew t.beat ss m).over < 0 ∧ (endM anew t.beat ss m).at_ < ss.length
    · have hin : (k : Int) ∈ ts.map Clm.k := by
        have ho := hok.m k _ ss h1 hs
        have hl : (endM anew t.beat ss m).at_.toNat < ss.length := by have := ho.a0; omega
        have : (⟨k, ss[(endM anew t.beat ss m).at_.toNat].draw, (endM anew t.beat ss m).since⟩ : Clm) ∈ lClaims w (lFill w (lEnds w anew t w.ms.length)) w.ms.length := by
          have hall : ∀ (n : Nat), k < n → ∀ c ∈ lClaim w (lFill w (lEnds w anew t w.ms.length)) k, c ∈ lClaims w (lFill w (lEnds w anew t w.ms.length)) n := by
            intro n
            induction n with
            | zero => intro hk; omega
            | succ n ih =>
              intro hk c hcm
              rw [lClaims]
              by_cases e : k = n
              · subst e; exact List.mem_append_right _ hcm
              · exact List.mem_append_left _ (ih (by omega) c hcm)
          refine hall _ (List.getElem?_eq_some_iff.mp hs).1 _ ?_
          unfold lClaim
          rw [h1, hs]
          simp only []
          rw [if_pos hc, List.getElem?_eq_getElem hl]
          simp
        exact List.mem_map.mpr ⟨_, hts.perm.mem_iff.mpr this, rfl⟩
      obtain ⟨ss2, st, hs2, hst, hd⟩ := d4 k _ hin h1
      rw [hs] at hs2
      cases hs2
      have eb : (lFill w (lEnds w anew t w.ms.length)).beat = t.beat := by rw [lFill_beat, lEnds_beat]
      rcases hd with ⟨q1, q2⟩ | ⟨q1, q2⟩
      · refine ⟨_, q2, ⟨fun z => absurd hc z, fun _ => ⟨st, hst, Or.inl ⟨by rw [e1]; exact q1, ?_⟩⟩⟩⟩
        show { endM anew t.beat ss m with over := (lFill w (lEnds w anew t w.ms.length)).beat + st.long } = _
        rw [eb]
      · exact ⟨_, q2, ⟨fun z => absurd hc z, fun _ => ⟨st, hst, Or.inr ⟨by rw [e1]; exact q1, by rw [endM_waits]⟩⟩⟩⟩
    · have hout : (k : Int) ∉ ts.map Clm.k := fun hin => by
        obtain ⟨c, hcm, ek⟩ := List.mem_map.mp hin
        obtain ⟨j, m2, ss2, st, _, g1, g2, g3, g4, _, e⟩ := hmem c hcm
        rw [e] at ek
        have ej : j = k := by have : ((j : Int)) = k := ek; omega
        subst ej
        rw [h1] at g1
        rw [hs] at g2
        cases g1
        cases g2
        exact hc ⟨g3, g4⟩
      refine ⟨_, (d3 k hout).trans h1, ⟨fun _ => ⟨rfl, fun hb => hout (hbgk hb)⟩, fun z => absurd z hc⟩⟩
end Obr
namespace Obr
open PySem L2 PyProof.Rows
local macro_rules | `(tactic| walk_at "ob_at") => `(tactic| first
  | assumption
  | exact upd_same
  | (refine Eq.trans (upd_ne ?obn) ?obr; (case obn => walk_at "ob_ne"); (case obr => walk_at "ob_at")))
local macro_rules | `(tactic| walk_at "ob_ne") => `(tactic| first
  | assumption
  | (refine Ne.symm ?obs; (case obs => assumption))
  | (refine' ne_of_none (H := ?_) ?obe ?obh; (case obh => assumption); (case obe => walk_at "ob_at"))
  | (refine Ne.symm ?obs; (case obs => (refine' ne_of_none (H := ?_) ?obe ?obh; (case obh => assumption); (case obe => walk_at "ob_at")))))
local macro_rules | `(tactic| walk_at "ob_fr") => `(tactic| first
  | assumption
  | (refine Eq.trans (upd_ne ?obn) ?obr; (case obn => walk_at "ob_ne"); (case obr => walk_at "ob_fr"))
  | (refine Ex.free (G := ?_) (by assumption) ?obh; (case obh => walk_at "ob_fr")))
local macro_rules | `(tactic| walk_at "ob_ex") => `(tactic| first
  | assumption
  | exact Ex.refl _
  | (refine Ex.out ?obg ?obh; (case obh => assumption); (case obg => walk_at "ob_ex"))
  | (refine Ex.new ?obg ?obh; (case obh => assumption); (case obg => walk_at "ob_ex"))
  | (refine Ex.new ?obg ?obh; (case obh => walk_at "ob_fr"); (case obg => walk_at "ob_ex")))
local macro_rules | `(tactic| walk_at "ob_sq") => `(tactic| first
  | assumption
  | (refine SqL.of ?oba; (case oba => walk_at "ob_at"))
  | (refine Ex.sqT (F := ?_) ?obg ?obh; (case obh => assumption); (case obg => walk_at "ob_ex"))
  | (refine Ex.sqL (F := ?_) ?obg ?obh; (case obh => assumption); (case obg => walk_at "ob_ex"))
  | (refine SqT.of ?oba; (case oba => walk_at "ob_at")))
local macro_rules | `(tactic| walk_at "ob_side") => `(tactic| first | exact rfl | assumption | decide | omega | exact ⟨by decide, by decide, by decide⟩ | exact Or.inr ⟨by decide, by decide⟩ | exact Or.inl ⟨by decide, by decide⟩ | exact wide_div (b := 60) (by first | decide | omega) (by first | decide | omega) (by decide) (by decide))
local macro_rules | `(tactic| walk_at "ob1") => `(tactic| first
  | with_reducible refine sw_seq ?_
  | with_reducible refine sw_asg ?_
  | with_reducible refine sw_ret ?_
  | with_reducible refine sw_par ?_
  | with_reducible refine ⟨_, _, rfl, ?_⟩
  | with_reducible refine sw_drop ?_
  | with_reducible refine sw_if ?_
  | with_reducible refine sw_next ?_
  | with_reducible refine gw_name ?_
  | with_reducible refine gw_subL (by assumption) ?_
  | with_reducible refine gsw_cons ?_
  | with_reducible refine gsw_nil ?_
  | with_reducible refine ew_c ?_
  | ((with_reducible refine' ew_var (v := ?_) ?obv ?_); (case obv => exact rfl))
  | ((with_reducible refine ew_next (by assumption) ?obv ?_); (case obv => exact rfl))
  | ((with_reducible refine ew_world (by assumption) ?obv ?_); (case obv => exact rfl))
  | ((with_reducible refine ew_rule (by assumption) ?obv ?_); (case obv => exact rfl))
  | with_reducible refine ew_op ?_
  | with_reducible refine ew_un ?_
  | with_reducible refine ew_dget (by assumption) ?_
  | with_reducible refine uw_I ?_
  | with_reducible refine ppw_nil ?_
  | with_reducible refine ppw_cons ?_
  | with_reducible refine sw_dput (by assumption) ?_
  | with_reducible refine ew_cb ?_
  | with_reducible refine ew_if ?_
  | with_reducible refine ew_slL (by assumption) ?_
  | with_reducible refine ow_some ?_
  | with_reducible refine ow_none ?_
  | with_reducible refine aw_nil ?_
  | with_reducible refine aw_cons ?_
  | with_reducible refine rw_I0 ?_
  | ((with_reducible refine rw_I ?obc ?_); (case obc => walk_at "ob_side"))
  | with_reducible refine rw_isN ?_
  | with_reducible refine rw_notN ?_
  | ((with_reducible refine rw_eq ?obc ?_); (case obc => exact rfl))
  | ((with_reducible refine rw_ne ?obc ?_); (case obc => exact rfl))
  | with_reducible refine cw_max2 ?_
  | with_reducible refine cw_min2 ?_
  | with_reducible refine tw_test ?_
  | with_reducible refine tw_B ?_
  | with_reducible refine tw_not ?_
  | with_reducible refine tw_truB ?_
  | with_reducible refine tw_and ?_
  | with_reducible refine tw_or ?_
  | with_reducible refine ew_and ?_
  | (refine' Exists.intro _ (And.intro (show V.bl _ = V.bl _ from rfl) ?_))
  | (refine' Exists.intro _ (And.intro (show V.int _ = V.int _ from rfl) ?_))
  | ((with_reducible refine' rw_ixL (v := ?_) (xs := ?_) (by assumption) ?obl ?oba ?_); (case obl => walk_at "ob_sq"); (case oba => first | exact rfl | exact at_zero))
  | ((with_reducible refine' rw_ixT (v := ?_) (xs := ?_) (by assumption) ?obl ?oba ?_); (case obl => walk_at "ob_sq"); (case oba => first | exact rfl | exact at_zero))
  | ((with_reducible refine' ew_lst (by assumption) ?_))
  | ((with_reducible refine' ew_tup (by assumption) ?_)))
local macro_rules | `(tactic| walk_at "ob_len") => `(tactic| first | exact Nat.le_of_ble_eq_true rfl | (simp; done) | omega)
local macro_rules | `(tactic| walk_at "ob") => `(tactic| repeat walk_at "ob1")

/-! ### Run -/
def aPutIn (sh : Bool) (K : PySem.W.Frag) (C : Addr) : List V → Hp → VK → Prop := fun vs F R => ∃ (A : RAd) (t : LSt) (w : Wld) (r : Rgt) (p anew : Bool) (z : Int), vs = [.ref A.a, .int z] ∧ A.C = C ∧ F A.a = some (.ins A.C A.dx (rfsS sh A t w r p anew)) ∧
  R .non (upd F A.a (.ins A.C A.dx (rfsS sh A { t with level := minI w.cap (t.level + z) } w r p anew)))
/-- the reference of the machine of this number -/
def refOf (A : RAd) (k : Int) : V := match A.mads[k.toNat]? with
  | some ad => .ref ad.a
  | none => .non
def aWaitingR (sh : Bool) (K : PySem.W.Frag) (C M : Addr) : List V → Hp → VK → Prop := fun vs F R => ∃ (F0 : Hp) (A : RAd) (t : LSt) (w : Wld) (r : Rgt) (p anew : Bool) (ex : List (Addr × HO)), vs = [.ref A.a] ∧ A.C = C ∧ A.M = M ∧ SAt sh K F0 F A t w r p anew ex ∧ LOk w t ∧ w.ms.length ≤ 5 ∧
  ∀ (q : Addr) (F' : Hp), Ex F F' → F q = none → F' q = some (.lst ((lClaims w t w.ms.length).map fun c => refOf A c.k)) → R (.ref q) F'
/-- whose step is over at the beat, rising -/
def overs (t : LSt) : Nat → List Int
  | 0 => []
  | n + 1 => overs t n ++ (match t.ms[n]? with | some m => if m.over = t.beat then [(n : Int)] else [] | none => [])
theorem overs_len {t : LSt} : ∀ n : Nat, (overs t n).length ≤ n
  | 0 => Nat.le_refl _
  | n + 1 => by
    have := overs_len (t := t) n
    rw [overs, List.length_append]
    split
    · split
      · simp; omega
      · simp; omega
    · simp; omega
def aEndSteps (sh : Bool) (K : PySem.W.Frag) (C M : Addr) : List V → Hp → VK → Prop := fun vs F R => ∃ (F0 : Hp) (A : RAd) (t : LSt) (w : Wld) (r : Rgt) (p anew : Bool) (ex : List (Addr × HO)), vs = [.ref A.a] ∧ A.C = C ∧ A.M = M ∧ SAt sh K F0 F A t w r p anew ex ∧ LOk w t ∧ w.ms.length ≤ 5 ∧
  ∀ (q : Addr) (F' : Hp), SAt sh K F0 F' A (lEnds w anew t w.ms.length) w r p anew ((q, .lst ((overs t w.ms.length).map V.int)) :: ex) → R (.ref q) F'
section
variable {sh : Bool} {K : PySem.W.Frag} {F0 F : Hp} {A : RAd} {t : LSt} {w : Wld} {r : Rgt} {p anew : Bool} {ex : List (Addr × HO)}
theorem SAt.mobj (h : SAt sh K F0 F A t w r p anew ex) {k : Nat} {ad : MAd} {m : Mac} {ss : List Stp} (h1 : A.mads[k]? = some ad) (h2 : t.ms[k]? = some m) (h3 : w.ms[k]? = some ss) : MObj K F0 F ad.a A.M ad.dx k ad.sv ss m := ⟨h.mac h1 h2, h.own.ex, h.st k ad ss h1 h3, fun z => h.pz k ad m ss h1 h2 h3 z⟩
theorem SAt.three (h : SAt sh K F0 F A t w r p anew ex) {k : Nat} (hk : k < w.ms.length) : ∃ ad m ss, A.mads[k]? = some ad ∧ t.ms[k]? = some m ∧ w.ms[k]? = some ss :=
  ⟨_, _, _, List.getElem?_eq_getElem (by rw [h.len1]; exact hk), List.getElem?_eq_getElem (by rw [h.len2]; exact hk), List.getElem?_eq_getElem hk⟩
end
theorem claim_iff {w : Wld} {t : LSt} {k : Nat} {m : Mac} {ss : List Stp} (ho : LOk w t) (hm : t.ms[k]? = some m) (hs : w.ms[k]? = some ss) :
    (m.over < 0 ∧ m.at_ ≠ (ss.length : Int) → ∃ st, ss[m.at_.toNat]? = some st ∧ lClaim w t k = [⟨k, st.draw, m.since⟩]) ∧ (¬ (m.over < 0 ∧ m.at_ ≠ (ss.length : Int)) → lClaim w t k = []) := by
  have h := ho.m k m ss hm hs
  have e : (m.over < 0 ∧ m.at_ ≠ (ss.length : Int)) ↔ (m.over < 0 ∧ m.at_ < (ss.length : Int)) := by
    have := h.a1
    constructor
    · rintro ⟨h1, h2⟩; exact ⟨h1, by omega⟩
    · rintro ⟨h1, h2⟩; exact ⟨h1, by omega⟩
  constructor
  · intro hc
    have hc2 := e.mp hc
    have hl : m.at_.toNat < ss.length := by have := h.a0; omega
    refine ⟨_, List.getElem?_eq_getElem hl, ?_⟩
    unfold lClaim
    rw [hm, hs]
    simp only []
    rw [if_pos hc2, List.getElem?_eq_getElem hl]
  · intro hc
    unfold lClaim
    rw [hm, hs]
    simp only []
    rw [if_neg (fun z => hc (e.mpr z))]
section
variable {sh : Bool} {P : Program} {w : World} {K : PySem.W.Frag} {mg : Str → Option Value} {base : Heap} {C M : Addr}

abbrev s_Shop__dot__put_in : Stmt := inClass (top 30) 4
def N_Shop_put_in : List Str := ["self", "many"]
theorem sc_Shop_put_in : FnScope N_Shop_put_in ["self", "many"] (defScope s_Shop__dot__put_in) := ⟨rfl, rfl, rfl, by decide +kernel, rfl, by decide +kernel, by decide +kernel⟩
theorem ok_Shop_put_in {f : Addr} {fd : FuncData}  (Fn : Fun K "put_in" "Shop.put_in" s_Shop__dot__put_in f fd) (B : Blt mg) (HR : ClsF K C rkeys) : FnOk P w K mg base CX0 1 f fd ["self", "many"] (LS (aPutIn sh K C)) := by
  refine Fn.ok sc_Shop_put_in (fun vs H Q E h => ?_) (fun cdv A outer s H vs Q E hr h => ?_)
  · obtain ⟨J, F, R, hd, j, h, _⟩ := h
    obtain ⟨A, t, w, r, p, anew, z, rfl, _⟩ := h
    rfl
  · have nd := sc_Shop_put_in.nd
    obtain ⟨J, F, R, hd, j, h, q⟩ := h
    obtain ⟨A, t, w, r, p, anew, z, rfl, rfl, hF, k⟩ := h
    refine ⟨_, (pss_one (ps_fld (pv 0) (pe_callB (call_min2 rfl) (by rfl) B.min (by decide +kernel) (pa_cons (pe_fld (pv 0) rfl) (pa_cons (pe_op op_add (pe_fld (pv 0) rfl) (pv 1)) pa_nil))) rfl)), ?_⟩
    refine LS.body j q ?_
    refine sw_fld hd ?_
    walk_at "ob"
    refine ew_fld hd ?_
    walk_at "ob"
    refine ⟨A.a, A.C, A.dx, _, _, rfl, hF, HR.cl, HR.no _ (by decide +kernel), lookup_nd (i := 0) (rfs_nd A t w r p anew) rfl, ?_⟩
    walk_at "ob"
    refine ew_fld hd ?_
    walk_at "ob"
    refine ⟨A.a, A.C, A.dx, _, _, rfl, hF, HR.cl, HR.no _ (by decide +kernel), lookup_nd (i := 1) (rfs_nd A t w r p anew) rfl, ?_⟩
    walk_at "ob"
    refine ⟨A.a, A.C, A.dx, _, rfl, hF, HR.cl, HR.no _ (by decide +kernel), rfs_lt, ?_⟩
    rw [putF_nd (i := 1) (rfs_nd A t w r p anew) rfl]
    exact k

abbrev s_Shop__dot__waiting : Stmt := inClass (top 30) 7
def N_Shop_waiting : List Str := ["self", "machine"]
theorem sc_Shop_waiting : FnScope N_Shop_waiting ["self"] (defScope s_Shop__dot__waiting) := ⟨rfl, rfl, rfl, by decide +kernel, rfl, by decide +kernel, by decide +kernel⟩
theorem ok_Shop_waiting {f : Addr} {fd : FuncData} {f1 : Addr} {fd1 : FuncData} (Fn : Fun K "waiting" "Shop.waiting" s_Shop__dot__waiting f fd) (B : Blt mg) (HR : ClsF K C rkeys) (M_is_waiting : Met K M "is_waiting" f1 fd1 ["self"]) (G_is_waiting : FnOk P w K mg base CX0 2 f1 fd1 ["self"] (LS (aWaiting K M))) : FnOk P w K mg base CX0 3 f fd ["self"] (LS (aWaitingR sh K C M)) := by
  refine Fn.ok sc_Shop_waiting (fun vs H Q E h => ?_) (fun cdv A outer s H vs Q E hr h => ?_)
  · obtain ⟨J, F, R, hd, j, h, _⟩ := h
    obtain ⟨F0, A, t, w, r, p, anew, ex, rfl, _⟩ := h
    rfl
  · have nd := sc_Shop_waiting.nd
    obtain ⟨J, F, R, hd, j, h, q⟩ := h
    obtain ⟨F0, A, t, w, r, p, anew, ex, rfl, rfl, rfl, hG, hok, hm5, k⟩ := h
    refine ⟨_, (pss_one (ps_ret (pe_lc (own := [("machine", 1)]) (te := (tVar 1)) (tt := (tB (tMeth _ "is_waiting" (LS (aWaiting K _)) [] E0 (tVar 1) tNil))) (by rfl) nd (pi_list (pe_fld (pv 0) rfl)) (blkOk_by (own := [("machine", 1)]) (N := N_Shop_waiting) (sc := defScope s_Shop__dot__waiting) (by decide +kernel)) (fun _ _ _ _ _ => (pg_name (i := 1) nd rfl (Or.inl rfl))) (fun _ _ _ _ _ => pts_one (pt_val (pe_meth0 (pv 1) M_is_waiting.cl M_is_waiting.m G_is_waiting (by exact hr.mono (by decide)) M_is_waiting.a .nil pass0))) (fun _ _ _ _ _ => (pv 1))))), ?_⟩
    refine LS.body j q ?_
    walk_at "ob"
    refine ew_lcL hd ?_
    walk_at "ob"
    refine ew_fld hd ?_
    walk_at "ob"
    refine ⟨A.a, A.C, A.dx, _, _, rfl, hG.cell, HR.cl, HR.no _ (by decide +kernel), lookup_nd (i := 5) (rfs_nd _ _ _ _ _ _) rfl, ?_⟩
    have hml : F A.ml = some (.lst (A.mads.map fun ad => .ref ad.a)) := hG.own.ex _ _ hG.ml
    refine ⟨A.ml, _, rfl, SqL.of hml, by rw [List.length_map, hG.len1]; omega, fun Dl hDl => ?_⟩
    refine ⟨fun i acc _ G => G = F ∧ acc = (lClaims w t i).map (fun c => refOf A c.k), ⟨rfl, rfl⟩, ?_, ?_, ?_⟩
    · rintro i acc _ G hi hg ⟨rfl, rfl⟩
      refine ⟨SqL.of hml, ?_⟩
      rw [List.length_map]
      exact lClaims_len i
    · rintro i acc x _ G hi hg ⟨rfl, rfl⟩
      have hd' := hd.jd (D := Dl) (acc := (lClaims w t i).map (fun c => refOf A c.k))
      have hil : i < w.ms.length := by
        have := (List.getElem?_eq_some_iff.mp hi).1
        rw [List.length_map, hG.len1] at this
        exact this
      obtain ⟨ad, m, ss, h1, h2, h3⟩ := hG.three hil
      have ex1 : x = .ref ad.a := by
        rw [List.getElem?_map, h1] at hi
        exact (Option.some.inj hi).symm
      subst ex1
      have hc := claim_iff hok h2 h3
      refine gw_name ⟨rfl, ?_⟩
      refine tw_B (ew_meth hd' ?_)
      walk_at "ob"
      refine ⟨ad.a, ad.dx, _, rfl, hG.mac h1 h2, mfs_no (by decide +kernel), aw_nil ⟨F0, ad.a, ad.dx, i, ad.sv, ss, m, rfl, hG.mobj h1 h2 h3, ?_⟩⟩
      walk_at "ob"
      refine ⟨fun hb => ?_, fun hb => ?_⟩
      · obtain ⟨st, hst, e⟩ := hc.1 (of_decide_eq_true hb)
        walk_at "ob"
        refine ⟨rfl, ?_⟩
        rw [lClaims, e, List.map_append]
        show _ ++ [V.ref ad.a] = _ ++ [refOf A (i : Int)]
        unfold refOf
        rw [Int.toNat_natCast, h1]
      · have e := hc.2 (of_decide_eq_false hb)
        refine ⟨rfl, ?_⟩
        rw [lClaims, e, List.append_nil]
    · rintro acc _ G hg ⟨rfl, rfl⟩
      rw [List.length_map, hG.len1]
      exact k Dl _ (Ex.new (.refl _) hg) hg upd_same

abbrev s_Shop__dot__end_steps : Stmt := inClass (top 30) 3
def N_Shop_end_steps : List Str := ["self", "over", "machine"]
theorem sc_Shop_end_steps : FnScope N_Shop_end_steps ["self"] (defScope s_Shop__dot__end_steps) := ⟨rfl, rfl, rfl, by decide +kernel, rfl, by decide +kernel, by decide +kernel⟩
theorem ok_Shop_end_steps {f : Addr} {fd : FuncData} {f1 f2 f3 f4 : Addr} {fd1 fd2 fd3 fd4 : FuncData} (Fn : Fun K "end_steps" "Shop.end_steps" s_Shop__dot__end_steps f fd) (B : Blt mg) (HR : ClsF K C rkeys) (HM : ClsF K M mkeys) (M_put_in : Met K C "put_in" f1 fd1 ["self", "many"]) (G_put_in : FnOk P w K mg base CX0 1 f1 fd1 ["self", "many"] (LS (aPutIn sh K C))) (M_end_step : Met K M "end_step" f2 fd2 ["self", "beat"]) (G_end_step : FnOk P w K mg base CX0 1 f2 fd2 ["self", "beat"] (LS (aEndS K M))) (M_is_done : Met K M "is_done" f3 fd3 ["self"]) (G_is_done : FnOk P w K mg base CX0 1 f3 fd3 ["self"] (LS (aDone K M))) (M_begin_anew : Met K M "begin_anew" f4 fd4 ["self"]) (G_begin_anew : FnOk P w K mg base CX0 1 f4 fd4 ["self"] (LS (aAnew K M))) : FnOk P w K mg base CX0 2 f fd ["self"] (LS (aEndSteps sh K C M)) := by
  refine Fn.ok sc_Shop_end_steps (fun vs H Q E h => ?_) (fun cdv A outer s H vs Q E hr h => ?_)
  · obtain ⟨J, F, R, hd, j, h, _⟩ := h
    obtain ⟨F0, A, t, w, r, p, anew, ex, rfl, _⟩ := h
    rfl
  · have nd := sc_Shop_end_steps.nd
    obtain ⟨J, F, R, hd, j, h, q⟩ := h
    obtain ⟨F0, A, t, w, r, p, anew, ex, rfl, rfl, rfl, hG, hok, hm5, k⟩ := h
    refine ⟨_, (pss_cons (ps_set (i := 1) nd rfl (Or.inl rfl) (pe_lst pa_nil))
      (pss_cons (ps_for PassesOwn.never rfl (pi_list (pe_fld (pv 0) rfl)) (pg_name (i := 2) nd rfl (Or.inl rfl)) (pss_one (ps_if (pt_cmpR op_eq (pe_fld (pv 2) rfl) (pe_fld (pv 0) rfl) (nomark _)) (pss_cons (ps_expr (pe_meth (pv 0) M_put_in.cl M_put_in.m G_put_in (by exact hr.mono (by decide)) M_put_in.a .nil pass0 (pa_cons (pe_meth (pv 2) M_end_step.cl M_end_step.m G_end_step (by exact hr.mono (by decide)) M_end_step.a .nil pass0 (pa_cons (pe_fld (pv 0) rfl) pa_nil)) pa_nil)))
      (pss_cons (ps_expr (pe_bm PySem.F.plainAttrs_list PySem.F.slot_list_append PySem.F.type_list_append mt_append (pv 1) (pa_cons (pe_fld (pv 2) rfl) pa_nil)))
      (pss_one (ps_if (PW.pt (pw_and (pt_truth (pe_fld (pv 0) rfl) (by intro _; rfl)) (pw_and1 (pt_val (pe_meth0 (pv 2) M_is_done.cl M_is_done.m G_is_done (by exact hr.mono (by decide)) M_is_done.a .nil pass0))))) (pss_one (ps_expr (pe_meth0 (pv 2) M_begin_anew.cl M_begin_anew.m G_begin_anew (by exact hr.mono (by decide)) M_begin_anew.a .nil pass0))) pss_nil)))) pss_nil)))
      (pss_one (ps_ret (pv 1))))), ?_⟩
    refine LS.body j q ?_
    walk_at "ob"
    refine ⟨by walk_at "ob_len", fun ov hov => ?_⟩
    have g0 := hG.more (o := .lst []) hov
    walk_at "ob"
    refine sw_forL hd ?_
    refine ew_fld hd ?_
    walk_at "ob"
    refine ⟨A.a, A.C, A.dx, _, _, rfl, g0.cell, HR.cl, HR.no _ (by decide +kernel), lookup_nd (i := 5) (rfs_nd _ _ _ _ _ _) rfl, ?_⟩
    have hmlF : ∀ (G : Hp) (t' : LSt) (ex' : List (Addr × HO)), SAt sh K F0 G A t' w r p anew ex' → G A.ml = some (.lst (A.mads.map fun ad => .ref ad.a)) := fun G t' ex' h => h.own.ex _ _ h.ml
    refine ⟨A.ml, _, fun i σ _ G => ∃ (x2 : Option V) (vs : List V), σ = [some (.ref A.a), some (.ref ov), x2] ∧ SAt sh K F0 G A (lEnds w anew t i) w r p anew ((ov, .lst vs) :: ex) ∧ vs = (overs t i).map V.int, rfl, SqL.of (hmlF _ _ _ g0), ⟨none, [], rfl, g0, rfl⟩, ?_, ?_, ?_⟩
    · rintro i σ _ G hi ⟨x2, vs, rfl, hX, _⟩
      exact SqL.of (hmlF _ _ _ hX)
    · rintro i x σ _ G hi ⟨x2, vs, rfl, hX, hvl⟩
      have hil : i < w.ms.length := by
        have := (List.getElem?_eq_some_iff.mp hi).1
        rw [List.length_map, hG.len1] at this
        exact this
      have hoki := lEnds_ok (anew := anew) hok i
      obtain ⟨ad, m, ss, h1, h2, h3⟩ := hX.three hil
      have ex1 : x = .ref ad.a := by
        rw [List.getElem?_map, h1] at hi
        exact (Option.some.inj hi).symm
      subst ex1
      have hmo := hoki.m i m ss h2 h3
      have hti : t.ms[i]? = some m := by rw [lEnds_ms (by omega) h3, if_neg (by omega)] at h2; exact h2
      have hlen : vs.length ≤ i := by rw [hvl, List.length_map]; exact overs_len _
      have fin : ∀ (T : LSt) (G' : Hp) (vs' : List V), SAt sh K F0 G' A T w r p anew ((ov, .lst vs') :: ex) → ((lEnd w anew (lEnds w anew t i) i).ms.map mcore = T.ms.map mcore ∧ (lEnd w anew (lEnds w anew t i) i).level = T.level ∧ (lEnd w anew (lEnds w anew t i) i).last = T.last ∧ (lEnd w anew (lEnds w anew t i) i).beat = T.beat) → vs' = (overs t (i + 1)).map V.int → ∃ (x2 : Option V) (vs : List V), ([some (.ref A.a), some (.ref ov), some (.ref ad.a)] : L2.St) = [some (.ref A.a), some (.ref ov), x2] ∧ SAt sh K F0 G' A (lEnds w anew t (i + 1)) w r p anew ((ov, .lst vs) :: ex) ∧ vs = (overs t (i + 1)).map V.int :=
        fun T G' vs' h e hl => ⟨_, vs', rfl, by rw [lEnds]; exact h.same e.1 e.2.1 e.2.2.1 e.2.2.2, hl⟩
      walk_at "ob"
      refine ew_fld hd ?_
      walk_at "ob"
      refine ⟨ad.a, A.M, ad.dx, _, _, rfl, hX.mac h1 h2, HM.cl, HM.no _ (by decide +kernel), lookup_nd (i := 3) (mfs_nd _ _ _) rfl, ?_⟩
      walk_at "ob"
      refine ew_fld hd ?_
      walk_at "ob"
      refine ⟨A.a, A.C, A.dx, _, _, rfl, hX.cell, HR.cl, HR.no _ (by decide +kernel), lookup_nd (i := 4) (rfs_nd _ _ _ _ _ _) rfl, ?_⟩
      refine rw_eq (by unfold ovV; split <;> rfl) ?_
      walk_at "ob"
      have hb0 := hoki.b
      have edec : decide (ovV m.over = V.int (lEnds w anew t i).beat) = decide (m.over = (lEnds w anew t i).beat) := by
        unfold ovV
        by_cases c : m.over < 0
        · rw [if_pos c, decide_eq_false (by omega : ¬ m.over = _)]
          exact decide_eq_false (fun e => by cases e)
        · rw [if_neg c, dec_vint]
      rw [edec]
      refine ⟨fun hb => ?_, fun hb => ?_⟩
      · have hov2 := of_decide_eq_true hb
        have hlt2 := hmo.o (by rw [hov2]; exact hb0)
        obtain ⟨st, hst⟩ : ∃ st, ss[m.at_.toNat]? = some st := ⟨_, List.getElem?_eq_getElem (by have := hmo.a0; omega)⟩
        walk_at "ob"
        refine ew_meth hd ?_
        walk_at "ob"
        refine ⟨A.a, A.dx, _, rfl, hX.cell, rfs_no (by decide +kernel), ?_⟩
        walk_at "ob"
        refine ew_meth hd ?_
        walk_at "ob"
        refine ⟨ad.a, ad.dx, _, rfl, hX.mac h1 h2, mfs_no (by decide +kernel), ?_⟩
        walk_at "ob"
        refine ew_fld hd ?_
        walk_at "ob"
        refine ⟨A.a, A.C, A.dx, _, _, rfl, hX.cell, HR.cl, HR.no _ (by decide +kernel), lookup_nd (i := 4) (rfs_nd _ _ _ _ _ _) rfl, ?_⟩
        walk_at "ob"
        refine ⟨F0, ad.a, ad.dx, i, ad.sv, ss, m, st, _, rfl, hX.mobj h1 h2 h3, hmo.a0, hst, ?_⟩
        have hX1 := hX.mput h1 h2 (m' := { m with at_ := m.at_ + 1, over := -1, since := (lEnds w anew t i).beat }) (t' := { lEnds w anew t i with ms := (lEnds w anew t i).ms.set i { m with at_ := m.at_ + 1, over := -1, since := (lEnds w anew t i).beat } }) rfl rfl (fun ss' e z => by
          rw [h3] at e
          cases e
          rcases hX.pz i ad m ss h1 h2 h3 z with q | q
          · omega
          · exact Or.inl ⟨by show (-1 : Int) < 0; decide, q.2⟩)
        walk_at "ob"
        refine ⟨A, _, w, r, p, anew, st.back, rfl, rfl, hX1.cell, ?_⟩
        have hX2 := hX1.put (t' := { lEnds w anew t i with level := minI w.cap ((lEnds w anew t i).level + st.back), ms := (lEnds w anew t i).ms.set i { m with at_ := m.at_ + 1, over := -1, since := (lEnds w anew t i).beat } }) rfl
        have hkl : i < (lEnds w anew t i).ms.length := (List.getElem?_eq_some_iff.mp h2).1
        have h2' : ((lEnds w anew t i).ms.set i { m with at_ := m.at_ + 1, over := -1, since := (lEnds w anew t i).beat })[i]? = some { m with at_ := m.at_ + 1, over := -1, since := (lEnds w anew t i).beat } := by rw [List.getElem?_set_self hkl]
        walk_at "ob"
        refine ew_bmL hd ?_
        walk_at "ob"
        refine ⟨ov, vs, rfl, SqL.of hX2.ex0, ?_⟩
        walk_at "ob"
        refine ew_fld hd ?_
        walk_at "ob"
        refine ⟨ad.a, A.M, ad.dx, _, _, rfl, hX2.mac h1 h2', HM.cl, HM.no _ (by decide +kernel), lookup_nd (i := 0) (mfs_nd _ _ _) rfl, ?_⟩
        walk_at "ob"
        refine mw_append hd hX2.ex0 (by omega) ?_
        have hX3 := hX2.exset (o' := .lst (vs ++ [.int (i : Int)]))
        have hvl2 : vs ++ [V.int (i : Int)] = (overs t (i + 1)).map V.int := by rw [overs, hti, hvl, List.map_append]; simp only []; rw [if_pos (by rw [hov2, lEnds_beat])]; rfl
        refine sw_if (tw_and (tw_truB ?_))
        refine ew_fld hd ?_
        walk_at "ob"
        refine ⟨A.a, A.C, A.dx, _, _, rfl, hX3.cell, HR.cl, HR.no _ (by decide +kernel), lookup_nd (i := 3) (rfs_nd _ _ _ _ _ _) rfl, ?_⟩
        have hno : ¬ (anew = true ∧ m.at_ + 1 = (ss.length : Int)) → (lEnd w anew (lEnds w anew t i) i).ms.map mcore = ((lEnds w anew t i).ms.set i { m with at_ := m.at_ + 1, over := -1, since := (lEnds w anew t i).beat }).map mcore ∧ (lEnd w anew (lEnds w anew t i) i).level = minI w.cap ((lEnds w anew t i).level + st.back) ∧ (lEnd w anew (lEnds w anew t i) i).last = (lEnds w anew t i).last ∧ (lEnd w anew (lEnds w anew t i) i).beat = (lEnds w anew t i).beat := fun hn => by
          unfold lEnd
          rw [h2, h3]
          simp only [hst]
          rw [if_pos hov2]
          by_cases c : m.at_ + 1 = (ss.length : Int)
          · have ea : anew = false := by cases anew with | false => rfl | true => exact absurd ⟨rfl, c⟩ hn
            rw [if_pos c, ea]
            refine ⟨?_, rfl, rfl, rfl⟩
            simp only [List.map_set]
            rfl
          · rw [if_neg c]
            refine ⟨?_, rfl, rfl, rfl⟩
            simp only [List.map_set]
            rfl
        refine ⟨_, rfl, fun ha => ?_, fun ha => ?_⟩
        · refine tw_B (ew_meth hd ?_)
          walk_at "ob"
          refine ⟨ad.a, ad.dx, _, rfl, hX3.mac h1 h2', mfs_no (by decide +kernel), aw_nil ⟨F0, ad.a, ad.dx, i, ad.sv, ss, _, rfl, hX3.mobj h1 h2' h3, ?_⟩⟩
          walk_at "ob"
          have hzf : ad.sv.pz = false := hX.np (hX.na ha) ad (List.mem_of_getElem? h1)
          rw [← (hX.st i ad ss h1 h3).all hzf]
          refine ⟨fun hc => ?_, fun hc => ?_⟩
          · have hc2 : m.at_ + 1 = (ss.length : Int) := of_decide_eq_true hc
            walk_at "ob"
            refine ew_meth hd ?_
            walk_at "ob"
            refine ⟨ad.a, ad.dx, _, rfl, hX3.mac h1 h2', mfs_no (by decide +kernel), aw_nil ⟨F0, ad.a, ad.dx, i, ad.sv, ss, _, rfl, hX3.mobj h1 h2' h3, ?_⟩⟩
            have hX4 := hX3.mput h1 h2' (m' := { m with at_ := 0, over := -1, since := (lEnds w anew t i).beat }) (t' := { lEnds w anew t i with level := minI w.cap ((lEnds w anew t i).level + st.back), ms := ((lEnds w anew t i).ms.set i { m with at_ := m.at_ + 1, over := -1, since := (lEnds w anew t i).beat }).set i { m with at_ := 0, over := -1, since := (lEnds w anew t i).beat } }) rfl rfl (fun ss' e z => by rw [hzf] at z; cases z)
            refine fin _ _ _ hX4 ?_ hvl2
            unfold lEnd
            rw [h2, h3]
            simp only [hst]
            rw [if_pos hov2, if_pos hc2, List.set_set]
            refine ⟨?_, rfl, rfl, rfl⟩
            simp only [List.map_set]
            rw [ha]
            rfl
          · walk_at "ob"
            exact fin _ _ _ hX3 (hno fun z => of_decide_eq_false hc z.2) hvl2
        · refine ⟨(fun z => by cases z), fun _ => ?_⟩
          walk_at "ob"
          exact fin _ _ _ hX3 (hno fun z => by rw [ha] at z; cases z.1) hvl2
      · have hov2 := of_decide_eq_false hb
        walk_at "ob"
        have e : lEnd w anew (lEnds w anew t i) i = lEnds w anew t i := by
          unfold lEnd
          rw [h2, h3]
          simp only []
          rw [if_neg hov2]
        exact fin _ _ vs hX (by rw [e]; exact ⟨rfl, rfl, rfl, rfl⟩) (by rw [overs, hti, hvl]; simp only []; rw [if_neg (by rw [lEnds_beat] at hov2; exact hov2), List.append_nil])
    · rintro σ _ G ⟨x2, vs, rfl, hX, hvl⟩
      rw [List.length_map, hG.len1] at hX hvl
      subst hvl
      walk_at "ob"
      exact k ov _ hX
end
end Obr
/-! ### a target that is a field; enumerate of a tuple -/
namespace Obr
open PySem L2 PySem.Spec PyProof.Rows
section
variable {X : Cx} {pos : Pos}
def gFld (K : PySem.W.Frag) (ta : TE) (f : Str) : TG := fun v σ H Q => ta σ H fun x H1 => ∃ a C dx fs, x = .ref a ∧ H1 a = some (.ins C dx fs) ∧ Cls K C ∧ NoAttr K C f ∧ fs.length < 1000 ∧ Q σ (upd H1 a (.ins C dx (putF f v fs)))
theorem pg_fld {o : Expr} {f : Str} {ta : TE} (ho : PE X o ta) : PG X (.Attribute o f pos) (gFld X.K ta f) := by
  refine ⟨fun pins s σ H v u Q I r h => ?_⟩
  rw [PySem.assign_Attribute]
  refine wpAny_bind (wpAny_holding (thn (ho.run pins s σ H _ I h) fun ov s1 ⟨x, H1, I1, rx, a, C, dx, fs, ex, ea, c, n, l, q⟩ => ?_))
  subst ex
  obtain rfl : ov = Value.ref a := rx
  refine wpAny_bind (wpAny_standAt (wpAny_bind (wpAny_holding ?_)))
  refine setattr_ok I1 ea c n l r fun s3 I3 => ?_
  exact wpAny_release ⟨σ, _, I3, q⟩
end
section
variable {S : Type} {J : S → Hp → Hp → Prop} {K : PySem.W.Frag} {σ : L2.St} {s : S} {F : Hp} {ta : TE} {x : V} {f : Str} {N : L2.St → S → Hp → Prop}
theorem gw_fld (hd : Hid J) (h : EW J ta σ s F fun o s1 F1 => ∃ a C dx fs, o = .ref a ∧ F1 a = some (.ins C dx fs) ∧ Cls K C ∧ NoAttr K C f ∧ fs.length < 1000 ∧ N σ s1 (upd F1 a (.ins C dx (putF f x fs)))) : GW J (gFld K ta f) x σ s F N := fun H j Q q =>
  h H j _ fun o s1 F1 H1 j1 ⟨a, C, dx, fs, e, hf, c, n, l, k⟩ => ⟨a, C, dx, fs, e, hd.ex j1 _ _ hf, c, n, l, q _ _ _ _ (hd.mu j1 hf) k⟩
end
end Obr
namespace PySem
open Sem (wp)
set_option maxHeartbeats 4000000 in
theorem meets_enumerate_newB1 {v : Value} {o : Obj} {H : Heap → Prop} (B : Begins v o H) :
    Meets (Builtin.«enumerate.__new__» ⟨[.type "enumerate", v], []⟩) (fun _ R s => H s.heap ∧
      R (.ok (.ret (.ref (s.heap.push o).objs.size))) { s with heap := (s.heap.push o).push { cls := .type "enumerate", data := .fields #[.none, .bool false, .ref s.heap.objs.size, rawInt 0, .none, .none] } }) :=
  .of_wp fun prog w A R s h => by
    obtain ⟨hp, g, d, tk, os⟩ := s; obtain ⟨h1, h⟩ := h
    have hsub := sub_enumerate
    have q1 : ∀ {A' : Around} {E : Value → Shared → Prop} {Q : Value → Shared → Prop}, Q (.ref hp.objs.size) ⟨hp.push o, g, d, tk, os⟩ → wpAny (model prog w) A' (pyIter v) Q E ⟨hp, g, d, tk, os⟩ :=
      fun q => B.iter prog w _ _ ⟨hp, g, d, tk, os⟩ _ h1 q
    wp_walk using q1
    refine wpAny_stack_any fun st => wpAny_pure ?_
    split
    · rename_i c _ _ _ _ _
      cases (c == Value.type "enumerate")
      · wp_walk using q1
        exact ⟨_, rfl, h⟩
      · wp_walk using q1
        exact ⟨_, rfl, h⟩
    · wp_walk using q1
      exact ⟨_, rfl, h⟩
section
variable {prog : Program} {w : World} {A : Around} {E : Value → Shared → Prop} {s : Shared}
theorem enum_begins1 {v : Value} {o : Obj} {H : Heap → Prop} {Q : Value → Shared → Prop} (B : Begins v o H) (h1 : H s.heap)
    (h : ∀ h', IsEnum h' (s.heap.objs.size + 1) s.heap.objs.size 0 .none → h'.get? s.heap.objs.size = some o → h'.objs.size = s.heap.objs.size + 2 →
      (∀ b o, s.heap.get? b = some o → h'.get? b = some o) → Q (.ref (s.heap.objs.size + 1)) { s with heap := h' }) :
    wpAny (model prog w) A (call (.type "enumerate") [v]) Q E s := by
  refine callType_new F.called_enumerate (by decide) (F.typeCall_enumerate_1 _) (F.newCall_enumerate_1 _) (fun obj => F.args_object_init_2 obj _) F.entry_enumerate_new
    (meets_enumerate_newB1 B) ⟨h1, ?_⟩
  have hz : (s.heap.push o).objs.size = s.heap.objs.size + 1 := Heap.size_push ..
  show _ ∧ _
  rw [hz]
  have he : IsEnum ((s.heap.push o).push { cls := .type "enumerate", data := .fields #[.none, .bool false, .ref s.heap.objs.size, rawInt 0, .none, .none] }) (s.heap.objs.size + 1) s.heap.objs.size 0 .none := by
    have := Heap.get?_push_size (s.heap.push o) (o := { cls := .type "enumerate", data := .fields #[.none, .bool false, .ref s.heap.objs.size, rawInt 0, .none, .none] }) rfl
    rw [hz] at this; exact this
  refine ⟨⟨_, he, rfl⟩, h _ he (Heap.get?_push_of_some _ (Heap.get?_push_size _ B.free)) (by rw [Heap.size_push, hz]) fun b o x => Heap.get?_push_of_some _ (Heap.get?_push_of_some _ x)⟩
end
end PySem
namespace Obr
open PySem L2 PySem.Spec PyProof.Rows
/-- the tuple at a, each item in a new pair -/
def IteT (K : PySem.W.Frag) (a : Addr) : It :=
  ⟨fun i H => ∃ (xs : List V) (x : V), SqT K H a xs ∧ xs[i]? = some x, fun i H v H' => ∃ T x, v = .ref T ∧ H T = none ∧ H' = upd H T (.tup [.int (i : Nat), x]) ∧ ∀ xs, SqT K H a xs → xs[i]? = some x, fun i H => ∃ xs : List V, SqT K H a xs ∧ xs.length ≤ i⟩
theorem turn_enumT {P : Program} {w : World} {K : PySem.W.Frag} {elts : List Expr} {kk : Nat} {tpos : Pos} (a e it : Addr) :
    Turn P w K (.Tuple elts kk tpos) (IteT K a) [e, it] e (fun i h => (∃ old, IsEnum h e it ((i : Nat) : Int) old) ∧ h.IsTupleIter it a i ∧ e ≠ it) where
  mem := by simp
  obj := fun i h st b hb => by
    obtain ⟨⟨old, he⟩, ⟨o, ho, hc, hd⟩, _⟩ := st
    have e' : b = e ∨ b = it := by simpa using hb
    rcases e' with z | z
    · rw [z]; exact ⟨_, he, fun v q => nomatch q⟩
    · rw [z]; exact ⟨o, ho, fun v q => by rw [hd] at q; cases q⟩
  keep := fun i h h' st k => let ⟨⟨old, he⟩, hi, hne⟩ := st; ⟨⟨old, k e (by simp) _ he⟩, hi.at fun o q => k it (by simp) o q, hne⟩
  item := by
    intro X hP hw hK hc i pins s σ H E I hf st hg
    subst hP hw hK
    obtain ⟨⟨old, he⟩, hit, hne⟩ := st
    obtain ⟨xs, x, hq, hx⟩ := hg
    obtain ⟨its, rv, p, hz⟩ := I.tuple hq
    have p' : s.heap.IsTuple a its.toArray := p
    obtain ⟨u, hu, ru⟩ := rv.get hx
    have hel : e < s.heap.objs.size := Heap.lt_size he
    have hil : it < s.heap.objs.size := by obtain ⟨_, q, _⟩ := hit; exact Heap.lt_size q
    have hai : a ≠ it := fun z => by
      obtain ⟨o1, q1, c1, _⟩ := p'
      obtain ⟨o2, q2, c2, _⟩ := hit
      rw [z, q2] at q1
      cases q1
      rw [c1] at c2
      exact absurd c2 (by decide)
    have hae : e ≠ a := fun z => by
      obtain ⟨o1, q1, c1, _⟩ := p'
      have he' : s.heap.get? e = some _ := he
      rw [z, q1] at he'
      cases he'
      exact absurd (show Value.type "enumerate" = Value.type "tuple" from c1) (by decide)
    have hlt : i < its.toArray.size := by
      have := (List.getElem?_eq_some_iff.mp hu).1
      simpa using this
    refine wpAny_pyNext_enum_itemD (Draws.tuple (A := X.A.in1) (I.ok.hd hc) it a hai its.toArray) he ⟨hit, p'⟩ hlt hne (by simp [hne, hae]) fun v h' tk hv ho hst hT hsz hk => ?_
    have hvu : v = u := by
      have hv' : its[i]? = some v := by simpa using hv
      rw [hu] at hv'
      exact (Option.some.inj hv').symm
    subst hvu
    refine ⟨_, rfl, wpAny_letOwnedTupleGo_enum (s := { s with heap := h', toks := tk + 1 }) ho fun h'' he' sb => ?_⟩
    have hT2 : h''.get? s.heap.objs.size = some { cls := .type "tuple", data := .seq #[.int i tk, v] } := (sb.2 _ (Nat.ne_of_gt hel)).trans hT
    have new : ObjOk X.prog X.w (upd H s.heap.objs.size (.tup [.int (i : Nat), x])) h'' s.heap.objs.size (.tup [.int (i : Nat), x]) :=
      ⟨by show 2 ≤ sizeLine; decide, [.int i tk, v], .cons ⟨_, rfl⟩ (.cons ru .nil), ⟨_, hT2, rfl, _, rfl⟩⟩
    have I1 : Inv X pins σ (upd H s.heap.objs.size (.tup [.int (i : Nat), x])) { s with heap := h'', toks := tk + 1 } :=
      I.turnedNew (ch := [e, it]) (fun b ob hb q => (sb.2 b (fun z => hb (by simp [z]))).trans (hk b ob (fun z => hb (by simp [z])) (fun z => hb (by simp [z])) q)) hf (Nat.le_refl _) new
    refine ⟨.ref s.heap.objs.size, _, I1, rfl, ⟨_, x, rfl, I.hok.fresh (Nat.le_refl _), rfl, fun ys hy => by rw [I.tuple_inj hy hq]; exact hx⟩, ⟨⟨v, ?_⟩, hst.1.at fun o q => (sb.2 it (Ne.symm hne)).trans q, hne⟩, fun b hb => ?_⟩
    · have e1 : ((i + 1 : Nat) : Int) = (i : Int) + 1 := by omega
      rw [e1]; exact he'
    · have hb' : b < s.heap.objs.size := by
        have e' : b = e ∨ b = it := by simpa using hb
        rcases e' with z | z
        · rw [z]; exact hel
        · rw [z]; exact hil
      rw [upd_ne (Nat.ne_of_lt hb')]
      exact (hf b hb).1
  done := by
    intro X hP hw hK hc i pins s σ H E I hf st hg
    subst hP hw hK
    obtain ⟨⟨old, he⟩, hit, hne⟩ := st
    obtain ⟨xs, hq, hx⟩ := hg
    obtain ⟨its, rv, p, hz⟩ := I.tuple hq
    have p' : s.heap.IsTuple a its.toArray := p
    obtain ⟨f0, f1, f2, f3, f4, f5⟩ := hf it (by simp)
    have hl := rv.length
    have hT : s.TypeIs (.ref e) "enumerate" := ⟨_, he, rfl⟩
    unfold pyNext
    refine wpAny_bind (wpAny_attempt (wpAny_callSpecial?_slot (name := Str.ofString "__next__") hT F.slot_enumerate_next
      (wpAny_call_entry F.slot_enumerate_next hT F.entry_enumerate_next ?_ (F.args_enumerate_next_1 _))))
    show wpAny _ _ (field (.ref e) 2 >>= _) _ _ _
    refine wpAny_bind (wpAny_field he rfl (x := .ref it) rfl ?_)
    refine wpAny_bind (wpAny_nextOf_tuple_end (I.ok.hd hc) hit p' (by simp; omega) fun h' x he' hx' => ?_)
    obtain ⟨o, ho, hc'⟩ := hx'
    refine wpAny_bind (wpAny_isInstance (T := "StopIteration") (b := true) ⟨o, ho, hc'⟩ isSubtype_stop ?_)
    exact wpAny_pure ⟨rfl, I.turned (t' := s.toks) (fun b o hb q => he' b o hb q) f0 f1 f3 f4 f5⟩
  self := fun A i s Q E st h => let ⟨⟨_, he⟩, _⟩ := st; wpAny_pyIter_enum he h
def iEnumT (K : PySem.W.Frag) (ta : TA) : TI := fun σ H R => ta σ H fun vs H1 => ∃ a xs, vs = [.ref a] ∧ SqT K H1 a xs ∧ R (IteT K a) H1
theorem pi_enumT {X : Cx} {e : Expr} {ta : TA} {p pos tpos : Pos} {elts : List Expr} {kk : Nat} (hg : Gl X "enumerate") (hm : X.mg "enumerate" = none) (ha : PA X [e] ta) (hs : starEach [e] X.env = [(false, eval e X.env)] := by rfl) :
    PI X (.Tuple elts kk tpos) (.Call (.Name "enumerate" p) [e] [] pos) (iEnumT X.K ta) := by
  refine ⟨fun pins s σ H R I h => ?_⟩
  refine Call_ (ld_blt I hg hm boot_enumerate (PyProof.Rows.callWith_type1 (thn (ha.run pos pins s σ H _ I h) fun us s1 ⟨vs, H1, I1, r1, q1⟩ => ?_) hs rfl))
  obtain ⟨a, xs, ex, hq, q⟩ := q1
  subst ex
  cases r1 with
  | cons r rr =>
    cases rr
    cases r
    obtain ⟨its, rv, p', hz⟩ := I1.tuple hq
    have p'' : s1.heap.IsTuple a its.toArray := p'
    refine enum_begins1 (begins_tuple a its.toArray) p'' fun h' he hit hsz hk => wpAny_pyIter_enum he ?_
    have I2 : Inv X pins σ H1 { s1 with heap := h' } := I1.kept (t' := s1.toks) hk
    refine ⟨s1.heap.objs.size + 1, [s1.heap.objs.size + 1, s1.heap.objs.size], _, _, H1, rfl, I2, turn_enumT a (s1.heap.objs.size + 1) s1.heap.objs.size, ⟨⟨.none, he⟩, ⟨_, hit, rfl, rfl⟩, Nat.succ_ne_self _⟩, fun b hb => ?_, q⟩
    have e' : b = s1.heap.objs.size + 1 ∨ b = s1.heap.objs.size := by simpa using hb
    have hle : s1.heap.objs.size ≤ b := by
      rcases e' with z | z
      · rw [z]; exact Nat.le_add_right _ _
      · rw [z]; exact Nat.le_refl _
    exact I1.fpOk hle (I1.hok.fresh hle)
theorem walk_enumT {K : PySem.W.Frag} {a : Addr} {xs : List V} : Walk (IteT K a) xs.length (fun H => SqT K H a xs) (YPair (fun i => some (.int (i : Nat))) (fun i => xs[i]?)) := by
  refine ⟨fun i _ hi q => ⟨xs, xs[i], q, by simp [hi]⟩, fun _ q => ⟨xs, q, Nat.le_refl _⟩, fun i H v H' _ q y => ?_⟩
  obtain ⟨T, x, h1, h2, h3, h4⟩ := y
  exact ⟨T, .int (i : Nat), x, h1, h2, h3, rfl, h4 xs q⟩
section
variable {S : Type} {J : S → Hp → Hp → Prop} {K : PySem.W.Frag} {σ : L2.St} {s : S} {F : Hp} {R : V → S → Hp → Prop} {te : TE} {tt : TT} {t : TS} {g : TG} {ta : TA} {D : En S} {vs : List Nat}
theorem sw_forET (hd : Hid J) (h : AW J ta σ s F fun ws s1 F1 => ∃ (a : Addr) (xs : List V) (Pv : Nat → L2.St → S → Hp → Prop), ws = [.ref a] ∧ SqT K F1 a xs ∧ Pv 0 σ s1 F1 ∧ (∀ i σ s F, i ≤ xs.length → Pv i σ s F → SqT K F a xs) ∧
      (∀ (i : Nat) x σ s F T, xs[i]? = some x → Pv i σ s F → F T = none → GW J g (.ref T) σ s (upd F T (.tup [.int (i : Int), x])) fun σ s F => SW J t { D with nx := Pv (i + 1), ct := Pv (i + 1), bk := D.nx } σ s F) ∧ (∀ σ s F, Pv xs.length σ s F → D.nx σ s F)) :
    SW J (tFor (iEnumT K ta) g t) D σ s F := fun H j D' l =>
  h H j _ fun v s1 F1 H1 j1 ⟨a, xs, Pv, e, l1, h0, hl, hs, hdn⟩ => ⟨a, xs, e, hd.sqT j1 l1, for_it walk_enumT (fun i σ H => ∃ s F, J s F H ∧ Pv i σ s F) ⟨s1, F1, j1, h0⟩
    (fun i σ' H' hi ⟨s', F', j', p⟩ => hd.sqT j' (hl i σ' s' F' hi p))
    (fun i x σ' H' H'' hi ⟨s', F', j', p⟩ ⟨T, y, z, ex, hT, eH, e1, e2⟩ => by
      subst ex eH
      cases e1
      exact hs i z σ' s' F' T e2 p (hd.fresh j' hT) _ (hd.al j' hT) _ fun σ2 s2 F2 H2 j2 k => k H2 j2 _ ⟨fun σ3 s3 F3 H3 j3 k3 => ⟨s3, F3, j3, k3⟩, l.rt, l.nx, fun σ3 s3 F3 H3 j3 k3 => ⟨s3, F3, j3, k3⟩⟩)
    (fun σ' H' ⟨s', F', j', p⟩ => l.nx _ _ _ _ j' (hdn σ' s' F' p))⟩
end
end Obr
namespace Obr
open PySem L2 PyProof.Rows
local macro_rules | `(tactic| walk_at "ob_at") => `(tactic| first
  | assumption
  | exact upd_same
  | (refine Eq.trans (upd_ne ?obn) ?obr; (case obn => walk_at "ob_ne"); (case obr => walk_at "ob_at")))
local macro_rules | `(tactic| walk_at "ob_ne") => `(tactic| first
  | assumption
  | (refine Ne.symm ?obs; (case obs => assumption))
  | (refine' ne_of_none (H := ?_) ?obe ?obh; (case obh => assumption); (case obe => walk_at "ob_at"))
  | (refine Ne.symm ?obs; (case obs => (refine' ne_of_none (H := ?_) ?obe ?obh; (case obh => assumption); (case obe => walk_at "ob_at")))))
local macro_rules | `(tactic| walk_at "ob_fr") => `(tactic| first
  | assumption
  | (refine Eq.trans (upd_ne ?obn) ?obr; (case obn => walk_at "ob_ne"); (case obr => walk_at "ob_fr"))
  | (refine Ex.free (G := ?_) (by assumption) ?obh; (case obh => walk_at "ob_fr")))
local macro_rules | `(tactic| walk_at "ob_ex") => `(tactic| first
  | assumption
  | exact Ex.refl _
  | (refine Ex.out ?obg ?obh; (case obh => assumption); (case obg => walk_at "ob_ex"))
  | (refine Ex.new ?obg ?obh; (case obh => assumption); (case obg => walk_at "ob_ex"))
  | (refine Ex.new ?obg ?obh; (case obh => walk_at "ob_fr"); (case obg => walk_at "ob_ex")))
local macro_rules | `(tactic| walk_at "ob_sq") => `(tactic| first
  | assumption
  | (refine SqL.of ?oba; (case oba => walk_at "ob_at"))
  | (refine Ex.sqT (F := ?_) ?obg ?obh; (case obh => assumption); (case obg => walk_at "ob_ex"))
  | (refine Ex.sqL (F := ?_) ?obg ?obh; (case obh => assumption); (case obg => walk_at "ob_ex"))
  | (refine SqT.of ?oba; (case oba => walk_at "ob_at")))
local macro_rules | `(tactic| walk_at "ob_side") => `(tactic| first | exact rfl | assumption | decide | omega | exact ⟨by decide, by decide, by decide⟩ | exact Or.inr ⟨by decide, by decide⟩ | exact Or.inl ⟨by decide, by decide⟩ | exact wide_div (b := 60) (by first | decide | omega) (by first | decide | omega) (by decide) (by decide))
local macro_rules | `(tactic| walk_at "ob1") => `(tactic| first
  | with_reducible refine sw_seq ?_
  | with_reducible refine sw_asg ?_
  | with_reducible refine sw_ret ?_
  | with_reducible refine sw_par ?_
  | with_reducible refine ⟨_, _, rfl, ?_⟩
  | with_reducible refine sw_drop ?_
  | with_reducible refine sw_if ?_
  | with_reducible refine sw_next ?_
  | with_reducible refine gw_name ?_
  | with_reducible refine gw_subL (by assumption) ?_
  | with_reducible refine gsw_cons ?_
  | with_reducible refine gsw_nil ?_
  | with_reducible refine ew_c ?_
  | ((with_reducible refine' ew_var (v := ?_) ?obv ?_); (case obv => exact rfl))
  | ((with_reducible refine ew_next (by assumption) ?obv ?_); (case obv => exact rfl))
  | ((with_reducible refine ew_world (by assumption) ?obv ?_); (case obv => exact rfl))
  | ((with_reducible refine ew_rule (by assumption) ?obv ?_); (case obv => exact rfl))
  | with_reducible refine ew_op ?_
  | with_reducible refine ew_un ?_
  | with_reducible refine ew_dget (by assumption) ?_
  | with_reducible refine uw_I ?_
  | with_reducible refine ppw_nil ?_
  | with_reducible refine ppw_cons ?_
  | with_reducible refine sw_dput (by assumption) ?_
  | with_reducible refine ew_cb ?_
  | with_reducible refine ew_if ?_
  | with_reducible refine ew_slL (by assumption) ?_
  | with_reducible refine ow_some ?_
  | with_reducible refine ow_none ?_
  | with_reducible refine aw_nil ?_
  | with_reducible refine aw_cons ?_
  | with_reducible refine rw_I0 ?_
  | ((with_reducible refine rw_I ?obc ?_); (case obc => walk_at "ob_side"))
  | with_reducible refine rw_isN ?_
  | with_reducible refine rw_notN ?_
  | ((with_reducible refine rw_eq ?obc ?_); (case obc => exact rfl))
  | ((with_reducible refine rw_ne ?obc ?_); (case obc => exact rfl))
  | with_reducible refine cw_max2 ?_
  | with_reducible refine cw_min2 ?_
  | with_reducible refine tw_test ?_
  | with_reducible refine tw_B ?_
  | with_reducible refine tw_not ?_
  | with_reducible refine tw_truB ?_
  | with_reducible refine tw_and ?_
  | with_reducible refine tw_or ?_
  | with_reducible refine ew_and ?_
  | (refine' Exists.intro _ (And.intro (show V.bl _ = V.bl _ from rfl) ?_))
  | (refine' Exists.intro _ (And.intro (show V.int _ = V.int _ from rfl) ?_))
  | ((with_reducible refine' rw_ixL (v := ?_) (xs := ?_) (by assumption) ?obl ?oba ?_); (case obl => walk_at "ob_sq"); (case oba => first | exact rfl | exact at_zero))
  | ((with_reducible refine' rw_ixT (v := ?_) (xs := ?_) (by assumption) ?obl ?oba ?_); (case obl => walk_at "ob_sq"); (case oba => first | exact rfl | exact at_zero))
  | ((with_reducible refine' ew_lst (by assumption) ?_))
  | ((with_reducible refine' ew_tup (by assumption) ?_)))
local macro_rules | `(tactic| walk_at "ob_len") => `(tactic| first | exact Nat.le_of_ble_eq_true rfl | (simp; done) | omega)
local macro_rules | `(tactic| walk_at "ob") => `(tactic| repeat walk_at "ob1")

/-! ### Shop: begin, close_beat, open_beat, enter, __init__ -/
/-- a shop whose list of machines may grow yet -/
structure SEnt (sh : Bool) (K : PySem.W.Frag) (F0 F : Hp) (A : RAd) (t : LSt) (w : Wld) (r : Rgt) (p anew : Bool) (ex : List (Addr × HO)) : Prop where
  own : Own F0 F ((A.a, .ins A.C A.dx (rfsS sh A t w r p anew)) :: (A.ml, .lst (A.mads.map fun ad => .ref ad.a)) :: (mcells A.M 0 A.mads t.ms ++ ex))
  st : ∀ (k : Nat) (ad : MAd) (ss : List Stp), A.mads[k]? = some ad → w.ms[k]? = some ss → StAt K F0 ad.sv ss
  len1 : A.mads.length = w.ms.length
  len2 : t.ms.length = w.ms.length
  pz : ∀ (k : Nat) (ad : MAd) (m : Mac) (ss : List Stp), A.mads[k]? = some ad → t.ms[k]? = some m → w.ms[k]? = some ss → ad.sv.pz = true → PzOk ss m
  np : A.hp = false → ∀ ad ∈ A.mads, ad.sv.pz = false
  na : anew = true → A.hp = false
section
variable {sh : Bool} {K : PySem.W.Frag} {F0 F : Hp} {A : RAd} {t : LSt} {w : Wld} {r : Rgt} {p anew : Bool} {ex : List (Addr × HO)}
theorem SEnt.cell (h : SEnt sh K F0 F A t w r p anew ex) : F A.a = some (.ins A.C A.dx (rfsS sh A t w r p anew)) := h.own.get (i := 0) rfl
theorem SEnt.mlc (h : SEnt sh K F0 F A t w r p anew ex) : F A.ml = some (.lst (A.mads.map fun ad => .ref ad.a)) := h.own.get (i := 1) rfl
theorem SEnt.ml0 (h : SEnt sh K F0 F A t w r p anew ex) : F0 A.ml = none := h.own.none (i := 1) rfl
/-- no more comes in -/
theorem SEnt.shut (h : SEnt sh K F0 F A t w r p anew ex) : SAt sh K (upd F0 A.ml (.lst (A.mads.map fun ad => .ref ad.a))) F A t w r p anew ex :=
  ⟨(h.own.perm (List.Perm.swap _ _ _)).freeze rfl, upd_same, fun k ad ss h1 h2 => (h.st k ad ss h1 h2).ex (Ex.new (.refl _) h.ml0), h.len1, h.len2, h.pz, h.np, h.na⟩
theorem SEnt.same (h : SEnt sh K F0 F A t w r p anew ex) {t' : LSt} {w' : Wld} (e1 : t'.ms.map mcore = t.ms.map mcore) (e2 : t'.level = t.level) (e3 : t'.last = t.last) (e4 : t'.beat = t.beat) (ew : w' = w) : SEnt sh K F0 F A t' w' r p anew ex := by
  subst ew
  refine ⟨?_, h.st, h.len1, by have := congrArg List.length e1; simp at this; rw [this]; exact h.len2, pz_same e1 h.pz, h.np, h.na⟩
  have e : rfsS sh A t' w' r p anew = rfsS sh A t w' r p anew := by unfold rfsS; rw [e2, e3, e4]
  rw [mcells_core e1, e]
  exact h.own
end
theorem mcells_app {M : Addr} {ad : MAd} {m : Mac} : ∀ {n : Nat} {as : List MAd} {ms : List Mac}, as.length = ms.length → mcells M n (as ++ [ad]) (ms ++ [m]) = mcells M n as ms ++ [mcell M (n + as.length) ad m]
  | _, [], [], _ => rfl
  | _, [], _ :: _, h => by simp at h
  | _, _ :: _, [], h => by simp at h
  | n, a :: as, b :: ms, h => by
    have := mcells_app (M := M) (ad := ad) (m := m) (n := n + 1) (as := as) (ms := ms) (by simpa using h)
    show mcell M n a b :: mcells M (n + 1) (as ++ [ad]) (ms ++ [m]) = mcell M n a b :: (mcells M (n + 1) as ms ++ [mcell M (n + (as.length + 1)) ad m])
    rw [this, show n + 1 + as.length = n + (as.length + 1) from by omega]
def sBegin (t : LSt) (k : Nat) (m : Mac) (st : Stp) : LSt := { t with level := t.level - st.draw, ms := t.ms.set k { m with over := t.beat + st.long } }
def aBeginR (sh : Bool) (K : PySem.W.Frag) (C M : Addr) : List V → Hp → VK → Prop := fun vs F R => ∃ (F0 : Hp) (A : RAd) (t : LSt) (w : Wld) (r : Rgt) (p anew : Bool) (ex : List (Addr × HO)) (k : Nat) (ad : MAd) (m : Mac) (ss : List Stp) (st : Stp), vs = [.ref A.a, .ref ad.a] ∧ A.C = C ∧ A.M = M ∧ SAt sh K F0 F A t w r p anew ex ∧
  A.mads[k]? = some ad ∧ t.ms[k]? = some m ∧ w.ms[k]? = some ss ∧ 0 ≤ m.at_ ∧ ss[m.at_.toNat]? = some st ∧ 0 ≤ t.beat + st.long ∧ ∀ F', SAt sh K F0 F' A (sBegin t k m st) w r p anew ex → R .non F'
def aCloseB (sh : Bool) (K : PySem.W.Frag) (C M : Addr) : List V → Hp → VK → Prop := fun vs F R => ∃ (F0 : Hp) (A : RAd) (t : LSt) (w : Wld) (r : Rgt) (p anew : Bool) (ex : List (Addr × HO)), vs = [.ref A.a] ∧ A.C = C ∧ A.M = M ∧ SAt sh K F0 F A t w r p anew ex ∧
  ∀ F', SAt sh K F0 F' A { t with beat := t.beat + 1 } w r p anew ex → R .non F'
def aOpenB (sh : Bool) (K : PySem.W.Frag) (C M : Addr) : List V → Hp → VK → Prop := fun vs F R => ∃ (F0 : Hp) (A : RAd) (t : LSt) (w : Wld) (r : Rgt) (p anew : Bool) (ex : List (Addr × HO)), vs = [.ref A.a] ∧ A.C = C ∧ A.M = M ∧ SAt sh K F0 F A t w r p anew ex ∧ LOk w t ∧ w.ms.length ≤ 5 ∧
  ∀ (q : Addr) (F' : Hp), SAt sh K F0 F' A (lFill w (lEnds w anew t w.ms.length)) w r p anew ((q, .lst ((overs t w.ms.length).map V.int)) :: ex) → R (.ref q) F'
def aEnterS (sh : Bool) (K : PySem.W.Frag) (C M : Addr) : List V → Hp → VK → Prop := fun vs F R => ∃ (F0 : Hp) (A : RAd) (t : LSt) (w : Wld) (r : Rgt) (p anew : Bool) (ex : List (Addr × HO)) (sv : V) (ss : List Stp), vs = [.ref A.a, sv] ∧ A.C = C ∧ A.M = M ∧ SEnt sh K F0 F A t w r p anew ex ∧ Dp K F0 sv (macD ss) ∧ w.ms.length ≤ 5 ∧
  ∀ (ad : MAd) (F' : Hp), ad.sv.pz = false → SEnt sh K F0 F' { A with mads := A.mads ++ [ad] } { t with ms := t.ms ++ [mac0 t.beat] } { w with ms := w.ms ++ [ss] } r p anew ex → R .non F'
def aSInit (K : PySem.W.Frag) (C M : Addr) : List V → Hp → VK → Prop := fun vs F R => ∃ (Fb : Hp) (a dx : Addr) (wv : V) (w : Wld) (r : Rgt) (p anew : Bool), vs = [.ref a, wv, .bl anew] ∧ F = upd Fb a (.ins C dx []) ∧ Fb a = none ∧ Dp K Fb wv (wldD w) ∧ w.ms.length ≤ 5 ∧
  ∀ (F' : Hp) (A : RAd), A.a = a → A.C = C → A.M = M → A.hp = false → SEnt true K Fb F' A (lBegun w) w r p anew [] → R .non F'
section
variable {sh : Bool} {P : Program} {w : World} {K : PySem.W.Frag} {mg : Str → Option Value} {base : Heap} {C M : Addr}
theorem in_subR : (rSub : V → V → Hp → VK → Prop) = fun x y H Q => ∃ i j, x = .int i ∧ y = .int j ∧ Q (.int (i - j)) H := rfl

abbrev s_Shop__dot__begin : Stmt := inClass (top 30) 5
def N_Shop_begin : List Str := ["self", "machine"]
theorem sc_Shop_begin : FnScope N_Shop_begin ["self", "machine"] (defScope s_Shop__dot__begin) := ⟨rfl, rfl, rfl, by decide +kernel, rfl, by decide +kernel, by decide +kernel⟩
theorem ok_Shop_begin {f : Addr} {fd : FuncData} {f1 f2 : Addr} {fd1 fd2 : FuncData} (Fn : Fun K "begin" "Shop.begin" s_Shop__dot__begin f fd) (B : Blt mg) (HR : ClsF K C rkeys) (HM : ClsF K M mkeys) (M_need : Met K M "need" f1 fd1 ["self"]) (G_need : FnOk P w K mg base CX0 1 f1 fd1 ["self"] (LS (aNeed K M))) (M_begin_step : Met K M "begin_step" f2 fd2 ["self", "beat"]) (G_begin_step : FnOk P w K mg base CX0 1 f2 fd2 ["self", "beat"] (LS (aBegin K M))) : FnOk P w K mg base CX0 2 f fd ["self", "machine"] (LS (aBeginR sh K C M)) := by
  refine Fn.ok sc_Shop_begin (fun vs H Q E h => ?_) (fun cdv A outer s H vs Q E hr h => ?_)
  · obtain ⟨J, F, R, hd, j, h, _⟩ := h
    obtain ⟨F0, A, t, w, r, p, anew, ex, kk, ad, m, ss, st, rfl, _⟩ := h
    rfl
  · have nd := sc_Shop_begin.nd
    obtain ⟨J, F, R, hd, j, h, q⟩ := h
    obtain ⟨F0, A, t, w, r, p, anew, ex, kk, ad, m, ss, st, rfl, rfl, rfl, hX, h1, h2, h3, ha0, hst, hl0, k⟩ := h
    refine ⟨_, (pss_cons (ps_fldaug (pv 0) (pe_meth0 (pv 1) M_need.cl M_need.m G_need (by exact hr.mono (by decide)) M_need.a .nil pass0) in_sub)
      (pss_one (ps_expr (pe_meth (pv 1) M_begin_step.cl M_begin_step.m G_begin_step (by exact hr.mono (by decide)) M_begin_step.a .nil pass0 (pa_cons (pe_fld (pv 0) rfl) pa_nil))))), ?_⟩
    refine LS.body j q ?_
    refine sw_seq (sw_fldaugI hd in_subR ?_)
    walk_at "ob"
    refine ⟨A.a, A.C, A.dx, _, t.level, rfl, hX.cell, HR.cl, HR.no _ (by decide +kernel), lookup_nd (i := 1) (rfs_nd _ _ _ _ _ _) rfl, ?_⟩
    refine ew_meth hd ?_
    walk_at "ob"
    refine ⟨ad.a, ad.dx, _, rfl, hX.mac h1 h2, mfs_no (by decide +kernel), aw_nil ⟨F0, ad.a, ad.dx, kk, ad.sv, ss, m, st, rfl, hX.mobj h1 h2 h3, ha0, hst, ?_⟩⟩
    refine ⟨st.draw, A.dx, _, rfl, hX.cell, rfs_lt, ?_⟩
    rw [putF_nd (i := 1) (rfs_nd _ _ _ _ _ _) rfl]
    have hX1 := hX.put (t' := { t with level := t.level - st.draw }) rfl
    refine sw_drop (ew_meth hd ?_)
    walk_at "ob"
    refine ⟨ad.a, ad.dx, _, rfl, hX1.mac h1 h2, mfs_no (by decide +kernel), ?_⟩
    refine aw_cons (ew_fld hd ?_)
    walk_at "ob"
    refine ⟨A.a, A.C, A.dx, _, _, rfl, hX1.cell, HR.cl, HR.no _ (by decide +kernel), lookup_nd (i := 4) (rfs_nd _ _ _ _ _ _) rfl, ?_⟩
    refine aw_nil ⟨F0, ad.a, ad.dx, kk, ad.sv, ss, m, st, t.beat, rfl, hX1.mobj h1 h2 h3, ha0, hst, hl0, ?_⟩
    exact k _ (hX1.mput h1 h2 (m' := { m with over := t.beat + st.long }) (t' := sBegin t kk m st) rfl rfl (fun ss' e z => by
      rw [h3] at e
      cases e
      have hlt := (List.getElem?_eq_some_iff.mp hst).1
      rcases hX.pz kk ad m ss h1 h2 h3 z with q | q
      · omega
      · exact Or.inr ⟨by show 0 ≤ t.beat + st.long; exact hl0, q.2⟩))

abbrev s_Shop__dot__close_beat : Stmt := inClass (top 30) 6
def N_Shop_close_beat : List Str := ["self"]
theorem sc_Shop_close_beat : FnScope N_Shop_close_beat ["self"] (defScope s_Shop__dot__close_beat) := ⟨rfl, rfl, rfl, by decide +kernel, rfl, by decide +kernel, by decide +kernel⟩
theorem ok_Shop_close_beat {f : Addr} {fd : FuncData}  (Fn : Fun K "close_beat" "Shop.close_beat" s_Shop__dot__close_beat f fd) (B : Blt mg) (HR : ClsF K C rkeys) (HM : ClsF K M mkeys) : FnOk P w K mg base CX0 1 f fd ["self"] (LS (aCloseB sh K C M)) := by
  refine Fn.ok sc_Shop_close_beat (fun vs H Q E h => ?_) (fun cdv A outer s H vs Q E hr h => ?_)
  · obtain ⟨J, F, R, hd, j, h, _⟩ := h
    obtain ⟨F0, A, t, w, r, p, anew, ex, rfl, _⟩ := h
    rfl
  · have nd := sc_Shop_close_beat.nd
    obtain ⟨J, F, R, hd, j, h, q⟩ := h
    obtain ⟨F0, A, t, w, r, p, anew, ex, rfl, rfl, rfl, hX, k⟩ := h
    refine ⟨_, (pss_one (ps_fldaug (pv 0) pe_int in_add)), ?_⟩
    refine LS.body j q ?_
    refine sw_fldaugI hd in_addR ?_
    walk_at "ob"
    refine ⟨A.a, A.C, A.dx, _, _, rfl, hX.cell, HR.cl, HR.no _ (by decide +kernel), lookup_nd (i := 4) (rfs_nd _ _ _ _ _ _) rfl, ?_⟩
    walk_at "ob"
    refine ⟨1, A.dx, _, rfl, hX.cell, rfs_lt, ?_⟩
    rw [putF_nd (i := 4) (rfs_nd _ _ _ _ _ _) rfl]
    exact k _ (hX.put (t' := { t with beat := t.beat + 1 }) rfl)

abbrev s_Shop__dot__open_beat : Stmt := inClass (top 30) 2
def N_Shop_open_beat : List Str := ["self", "over"]
theorem sc_Shop_open_beat : FnScope N_Shop_open_beat ["self"] (defScope s_Shop__dot__open_beat) := ⟨rfl, rfl, rfl, by decide +kernel, rfl, by decide +kernel, by decide +kernel⟩
theorem ok_Shop_open_beat {f : Addr} {fd : FuncData} {f1 f2 : Addr} {fd1 fd2 : FuncData} (Fn : Fun K "open_beat" "Shop.open_beat" s_Shop__dot__open_beat f fd) (B : Blt mg) (HR : ClsF K C rkeys) (HM : ClsF K M mkeys) (M_end_steps : Met K C "end_steps" f1 fd1 ["self"]) (G_end_steps : FnOk P w K mg base CX0 2 f1 fd1 ["self"] (LS (aEndSteps sh K C M))) (M_put_in : Met K C "put_in" f2 fd2 ["self", "many"]) (G_put_in : FnOk P w K mg base CX0 1 f2 fd2 ["self", "many"] (LS (aPutIn sh K C))) : FnOk P w K mg base CX0 3 f fd ["self"] (LS (aOpenB sh K C M)) := by
  refine Fn.ok sc_Shop_open_beat (fun vs H Q E h => ?_) (fun cdv A outer s H vs Q E hr h => ?_)
  · obtain ⟨J, F, R, hd, j, h, _⟩ := h
    obtain ⟨F0, A, t, w, r, p, anew, ex, rfl, _⟩ := h
    rfl
  · have nd := sc_Shop_open_beat.nd
    obtain ⟨J, F, R, hd, j, h, q⟩ := h
    obtain ⟨F0, A, t, w, r, p, anew, ex, rfl, rfl, rfl, hG, hok, hm5, k⟩ := h
    refine ⟨_, (pss_cons (ps_set (i := 1) nd rfl (Or.inl rfl) (pe_meth0 (pv 0) M_end_steps.cl M_end_steps.m G_end_steps (by exact hr.mono (by decide)) M_end_steps.a .nil pass0))
      (pss_cons (ps_if (pt_cmpR op_gt (pe_fld (pv 0) rfl) pe_int (nomark _)) (pss_one (ps_expr (pe_meth (pv 0) M_put_in.cl M_put_in.m G_put_in (by exact hr.mono (by decide)) M_put_in.a .nil pass0 (pa_cons (pe_fld (pv 0) rfl) pa_nil)))) pss_nil)
      (pss_one (ps_ret (pv 1))))), ?_⟩
    refine LS.body j q ?_
    refine sw_seq (sw_asg (ew_meth hd ?_))
    walk_at "ob"
    refine ⟨A.a, A.dx, _, rfl, hG.cell, rfs_no (by decide +kernel), aw_nil ⟨F0, A, t, w, r, p, anew, ex, rfl, rfl, rfl, hG, hok, hm5, fun q1 F1 hX => gw_name ?_⟩⟩
    refine sw_seq (sw_if (tw_test (ew_op (ew_fld hd ?_))))
    walk_at "ob"
    refine ⟨A.a, A.C, A.dx, _, _, rfl, hX.cell, HR.cl, HR.no _ (by decide +kernel), lookup_nd (i := 4) (rfs_nd _ _ _ _ _ _) rfl, ?_⟩
    walk_at "ob"
    refine ⟨fun hb => ?_, fun hb => ?_⟩
    · have hb2 := of_decide_eq_true hb
      refine sw_drop (ew_meth hd ?_)
      walk_at "ob"
      refine ⟨A.a, A.dx, _, rfl, hX.cell, rfs_no (by decide +kernel), aw_cons (ew_fld hd ?_)⟩
      walk_at "ob"
      refine ⟨A.a, A.C, A.dx, _, _, rfl, hX.cell, HR.cl, HR.no _ (by decide +kernel), lookup_nd (i := 2) (rfs_nd _ _ _ _ _ _) rfl, ?_⟩
      refine aw_nil ⟨A, _, w, r, p, anew, w.refill, rfl, rfl, hX.cell, ?_⟩
      refine sw_ret (ew_var rfl ?_)
      refine k q1 _ ?_
      have e : lFill w (lEnds w anew t w.ms.length) = { lEnds w anew t w.ms.length with level := minI w.cap ((lEnds w anew t w.ms.length).level + w.refill) } := by
        unfold lFill
        rw [if_pos hb2]
      rw [e]
      exact hX.put rfl
    · have hb2 := of_decide_eq_false hb
      refine sw_next (sw_ret (ew_var rfl ?_))
      refine k q1 _ ?_
      have e : lFill w (lEnds w anew t w.ms.length) = lEnds w anew t w.ms.length := by
        unfold lFill
        rw [if_neg hb2]
      rw [e]
      exact hX

abbrev s_Shop__dot__enter : Stmt := inClass (top 30) 1
def N_Shop_enter : List Str := ["self", "steps"]
theorem sc_Shop_enter : FnScope N_Shop_enter ["self", "steps"] (defScope s_Shop__dot__enter) := ⟨rfl, rfl, rfl, by decide +kernel, rfl, by decide +kernel, by decide +kernel⟩
theorem ok_Shop_enter {f : Addr} {fd : FuncData} {f1 : Addr} {fd1 : FuncData} (Fn : Fun K "enter" "Shop.enter" s_Shop__dot__enter f fd) (B : Blt mg) (HR : ClsF K C rkeys) (HM : ClsF K M mkeys) (MK_Machine : Mk K M f1) (G_Machine : FnOk P w K mg base CX0 1 f1 fd1 ["self", "number", "steps", "since"] (LS (aMInitC M))) (MK_Machine_g : mg "Machine" = some (.ref M)) (MK_Machine_a : Binds K fd1 ["self", "number", "steps", "since"] []) : FnOk P w K mg base CX0 3 f fd ["self", "steps"] (LS (aEnterS sh K C M)) := by
  refine Fn.ok sc_Shop_enter (fun vs H Q E h => ?_) (fun cdv A outer s H vs Q E hr h => ?_)
  · obtain ⟨J, F, R, hd, j, h, _⟩ := h
    obtain ⟨F0, A, t, w, r, p, anew, ex, sv, ss, rfl, _⟩ := h
    rfl
  · have nd := sc_Shop_enter.nd
    obtain ⟨J, F, R, hd, j, h, q⟩ := h
    obtain ⟨F0, A, t, w, r, p, anew, ex, sv, ss, rfl, rfl, rfl, hX, dsv, hm5, k⟩ := h
    refine ⟨_, (pss_one (ps_expr (pe_bm PySem.F.plainAttrs_list PySem.F.slot_list_append PySem.F.type_list_append mt_append (pe_fld (pv 0) rfl) (pa_cons (pe_make MK_Machine G_Machine (by exact hr.mono (by decide)) (by rfl) MK_Machine_g MK_Machine_a .nil pass0 (pa_cons (pe_callB call_len_seq (by rfl) B.len (by decide +kernel) (pa_cons (pe_fld (pv 0) rfl) pa_nil)) (pa_cons (pv 1) (pa_cons (pe_fld (pv 0) rfl) pa_nil)))) pa_nil)))), ?_⟩
    refine LS.body j q ?_
    refine sw_drop (ew_bmL hd (ew_fld hd ?_))
    walk_at "ob"
    refine ⟨A.a, A.C, A.dx, _, _, rfl, hX.cell, HR.cl, HR.no _ (by decide +kernel), lookup_nd (i := 5) (rfs_nd _ _ _ _ _ _) rfl, ?_⟩
    refine ⟨A.ml, _, rfl, SqL.of hX.mlc, ?_⟩
    refine aw_cons (ew_make hd ?_)
    refine aw_cons (ew_cb (aw_cons (ew_fld hd ?_)))
    walk_at "ob"
    refine ⟨A.a, A.C, A.dx, _, _, rfl, hX.cell, HR.cl, HR.no _ (by decide +kernel), lookup_nd (i := 5) (rfs_nd _ _ _ _ _ _) rfl, ?_⟩
    refine aw_nil (cw_lenS hd (Or.inl (SqL.of hX.mlc)) ?_)
    refine aw_cons (ew_var rfl (aw_cons (ew_fld hd ?_)))
    walk_at "ob"
    refine ⟨A.a, A.C, A.dx, _, _, rfl, hX.cell, HR.cl, HR.no _ (by decide +kernel), lookup_nd (i := 4) (rfs_nd _ _ _ _ _ _) rfl, ?_⟩
    refine aw_nil ?_
    intro x dx hx hdx hne
    refine ⟨x, dx, _, _, sv, ss, rfl, upd_same, rfl, ?_⟩
    rw [upd_upd]
    have hln : (A.mads.map fun ad => V.ref ad.a).length = A.mads.length := List.length_map _
    have h5 := hX.len1
    have o1 := (hX.own.new' (o := .own x) hdx).set (i := 1) (a := A.ml) (o' := .lst ((A.mads.map fun ad => V.ref ad.a) ++ [.ref x])) rfl
    have o2 := hX.own.new' (o := .own x) hdx
    have hx2 : upd F dx (.own x) x = none := by rw [upd_ne hne.symm]; exact hx
    have o3 := o2.more (p := x) (o := .ins A.M dx (mfs A.mads.length ⟨sv, false, ss⟩ (mac0 t.beat))) hx2
    rw [hln]
    refine aw_nil (mw_append hd (o3.get (i := 2) rfl) (by rw [hln]; omega) ?_)
    refine k ⟨x, dx, ⟨sv, false, ss⟩⟩ _ rfl ⟨?_, ?_, ?_, ?_, ?_, ?_, hX.na⟩
    · have o4 := o3.set (i := 2) (a := A.ml) (o' := .lst ((A.mads.map fun ad => V.ref ad.a) ++ [.ref x])) rfl
      have e1 : mcells A.M 0 (A.mads ++ [(⟨x, dx, ⟨sv, false, ss⟩⟩ : MAd)]) (t.ms ++ [mac0 t.beat]) = mcells A.M 0 A.mads t.ms ++ [(x, .ins A.M dx (mfs A.mads.length ⟨sv, false, ss⟩ (mac0 t.beat)))] := by
        rw [mcells_app (by rw [hX.len1, hX.len2]), Nat.zero_add]
        rfl
      show Own F0 _ ((A.a, .ins A.C A.dx (rfsS sh A t w r p anew)) :: (A.ml, .lst ((A.mads ++ [(⟨x, dx, ⟨sv, false, ss⟩⟩ : MAd)]).map fun ad => V.ref ad.a)) :: (mcells A.M 0 (A.mads ++ [(⟨x, dx, ⟨sv, false, ss⟩⟩ : MAd)]) (t.ms ++ [mac0 t.beat]) ++ ex))
      rw [e1, List.map_append]
      refine o4.perm ?_
      rw [List.append_assoc]
      exact (List.Perm.cons _ (List.Perm.cons _ List.perm_middle)).trans ((List.Perm.cons _ (List.Perm.swap _ _ _)).trans (List.Perm.swap _ _ _))
    · intro k' ad ss' h1 h2
      have hA : A.mads.length = w.ms.length := hX.len1
      by_cases c : k' < A.mads.length
      · refine hX.st k' ad ss' ?_ ?_
        · rw [← h1]; exact (List.getElem?_append_left c).symm
        · rw [← h2]; exact (List.getElem?_append_left (by omega)).symm
      · have e3 : k' = A.mads.length := by
          have := (List.getElem?_eq_some_iff.mp h1).1
          simp at this
          omega
        have h1' : (A.mads ++ [(⟨x, dx, ⟨sv, false, ss⟩⟩ : MAd)])[k']? = some ad := h1
        have h2' : (w.ms ++ [ss])[k']? = some ss' := h2
        rw [List.getElem?_append_right (by omega), e3, Nat.sub_self] at h1'
        rw [List.getElem?_append_right (by omega), e3, hA, Nat.sub_self] at h2'
        have ea : ad = ⟨x, dx, ⟨sv, false, ss⟩⟩ := by simpa using h1'.symm
        have es : ss' = ss := by simpa using h2'.symm
        rw [ea, es]
        exact ⟨dsv, List.prefix_refl _, fun _ => rfl⟩
    · show (A.mads ++ [_]).length = (w.ms ++ [ss]).length
      rw [List.length_append, List.length_append, hX.len1]
      rfl
    · show (t.ms ++ [_]).length = (w.ms ++ [ss]).length
      rw [List.length_append, List.length_append, hX.len2]
      rfl
    · intro k' ad' m' ss' h1 h2 h3 hz
      have hA : A.mads.length = w.ms.length := hX.len1
      have hA2 : t.ms.length = w.ms.length := hX.len2
      by_cases c : k' < A.mads.length
      · refine hX.pz k' ad' m' ss' ?_ ?_ ?_ hz
        · rw [← h1]; exact (List.getElem?_append_left c).symm
        · rw [← h2]; exact (List.getElem?_append_left (by omega)).symm
        · rw [← h3]; exact (List.getElem?_append_left (by omega)).symm
      · have e3 : k' = A.mads.length := by
          have := (List.getElem?_eq_some_iff.mp h1).1
          simp at this
          omega
        have h1' : (A.mads ++ [(⟨x, dx, ⟨sv, false, ss⟩⟩ : MAd)])[k']? = some ad' := h1
        rw [List.getElem?_append_right (by omega), e3, Nat.sub_self] at h1'
        have ea : ad' = ⟨x, dx, ⟨sv, false, ss⟩⟩ := by simpa using h1'.symm
        rw [ea] at hz
        cases hz
    · intro hh ad' hm
      rcases List.mem_append.mp (show ad' ∈ A.mads ++ [(⟨x, dx, ⟨sv, false, ss⟩⟩ : MAd)] from hm) with z | z
      · exact hX.np hh ad' z
      · rw [List.mem_singleton.mp z]

abbrev s_Shop__dot____init__ : Stmt := inClass (top 30) 0
def N_Shop___init__ : List Str := ["self", "world", "anew", "store", "machines", "steps"]
theorem sc_Shop___init__ : FnScope N_Shop___init__ ["self", "world", "anew"] (defScope s_Shop__dot____init__) := ⟨rfl, rfl, rfl, by decide +kernel, rfl, by decide +kernel, by decide +kernel⟩
theorem ok_Shop___init__ {f : Addr} {fd : FuncData} {f1 : Addr} {fd1 : FuncData} (Fn : Fun K "__init__" "Shop.__init__" s_Shop__dot____init__ f fd) (B : Blt mg) (HR : ClsF K C rkeys) (HM : ClsF K M mkeys) (M_enter : Met K C "enter" f1 fd1 ["self", "steps"]) (G_enter : FnOk P w K mg base CX0 3 f1 fd1 ["self", "steps"] (LS (aEnterS true K C M))) : FnOk P w K mg base CX0 4 f fd ["self", "world", "anew"] (LS (aSInit K C M)) := by
  refine Fn.ok sc_Shop___init__ (fun vs H Q E h => ?_) (fun cdv A outer s H vs Q E hr h => ?_)
  · obtain ⟨J, F, R, hd, j, h, _⟩ := h
    obtain ⟨Fb, a, dx, wv, w, r, p, anew, rfl, _⟩ := h
    rfl
  · have nd := sc_Shop___init__.nd
    obtain ⟨J, F, R, hd, j, h, q⟩ := h
    obtain ⟨Fb, a, dx, wv, w, r, p, anew, rfl, rfl, hFa, dw, hm5, k⟩ := h
    refine ⟨_, (pss_cons (ps_asg (pv 1) (pg_tup rfl (pgs_cons (pg_name (i := 3) nd rfl (Or.inl rfl)) (pgs_cons (pg_name (i := 4) nd rfl (Or.inl rfl)) pgs_nil))))
      (pss_cons (ps_asg (pv 3) (pg_tup rfl (pgs_cons (pg_fld (pv 0)) (pgs_cons (pg_fld (pv 0)) (pgs_cons (pg_fld (pv 0)) pgs_nil)))))
      (pss_cons (ps_fld (pv 0) (pv 2) rfl)
      (pss_cons (ps_fld (pv 0) pe_int rfl)
      (pss_cons (ps_fld (pv 0) (pe_lst pa_nil) rfl)
      (pss_one (ps_for PassesOwn.never rfl (pi_tup (pv 4)) (pg_name (i := 5) nd rfl (Or.inl rfl)) (pss_one (ps_expr (pe_meth (pv 0) M_enter.cl M_enter.m G_enter (by exact hr.mono (by decide)) M_enter.a .nil pass0 (pa_cons (pv 5) pa_nil))))))))))), ?_⟩
    refine LS.body j q ?_
    obtain ⟨wa, xs, rfl, lx, dxs⟩ := dp_tup dw
    obtain ⟨sv, mv, rfl, ds, dm⟩ := dps2 dxs
    obtain ⟨sa, ys, rfl, ly, dys⟩ := dp_tup ds
    obtain ⟨v1, v2, v3, rfl, d1, d2, d3⟩ := dps3 dys
    cases dp_int d1
    cases dp_int d2
    cases dp_int d3
    obtain ⟨ma, zs, rfl, lz, dzs⟩ := dp_tup dm
    have o0 : Own Fb (upd Fb a (.ins C dx [])) [(a, .ins C dx [])] := own_nil.more hFa
    refine sw_seq (sw_asg ?_)
    walk_at "ob"
    refine gw_tup hd ⟨wa, _, rfl, o0.ex.sqT lx, rfl, gsw_cons (gw_name (gsw_cons (gw_name (gsw_nil ?_))))⟩
    refine sw_seq (sw_asg ?_)
    walk_at "ob"
    refine gw_tup hd ⟨sa, _, rfl, o0.ex.sqT ly, rfl, ?_⟩
    refine gsw_cons (gw_fld hd ?_)
    walk_at "ob"
    refine ⟨a, C, dx, [], rfl, o0.get (i := 0) rfl, HR.cl, HR.no _ (by decide +kernel), Nat.lt_of_le_of_lt (Nat.le_of_ble_eq_true (m := 0) rfl) (by decide), ?_⟩
    rw [putF_out (show _ ∉ rkeys.take 0 from by decide +kernel)]
    have o1 := o0.set (i := 0) (a := a) (o' := .ins C dx [("cap", V.int w.cap)]) rfl
    refine gsw_cons (gw_fld hd ?_)
    walk_at "ob"
    refine ⟨a, C, dx, [("cap", V.int w.cap)], rfl, o1.get (i := 0) rfl, HR.cl, HR.no _ (by decide +kernel), Nat.lt_of_le_of_lt (Nat.le_of_ble_eq_true (m := 1) rfl) (by decide), ?_⟩
    rw [putF_out (show _ ∉ rkeys.take 1 from by decide +kernel)]
    have o2 := o1.set (i := 0) (a := a) (o' := .ins C dx [("cap", V.int w.cap), ("have", V.int w.start)]) rfl
    refine gsw_cons (gw_fld hd ?_)
    walk_at "ob"
    refine ⟨a, C, dx, [("cap", V.int w.cap), ("have", V.int w.start)], rfl, o2.get (i := 0) rfl, HR.cl, HR.no _ (by decide +kernel), Nat.lt_of_le_of_lt (Nat.le_of_ble_eq_true (m := 2) rfl) (by decide), ?_⟩
    rw [putF_out (show _ ∉ rkeys.take 2 from by decide +kernel)]
    have o3 := o2.set (i := 0) (a := a) (o' := .ins C dx [("cap", V.int w.cap), ("have", V.int w.start), ("refill", V.int w.refill)]) rfl
    refine gsw_nil ?_
    refine sw_seq (sw_fld hd ?_)
    walk_at "ob"
    refine ⟨a, C, dx, [("cap", V.int w.cap), ("have", V.int w.start), ("refill", V.int w.refill)], rfl, o3.get (i := 0) rfl, HR.cl, HR.no _ (by decide +kernel), Nat.lt_of_le_of_lt (Nat.le_of_ble_eq_true (m := 3) rfl) (by decide), ?_⟩
    rw [putF_out (show _ ∉ rkeys.take 3 from by decide +kernel)]
    have o4 := o3.set (i := 0) (a := a) (o' := .ins C dx [("cap", V.int w.cap), ("have", V.int w.start), ("refill", V.int w.refill), ("anew", V.bl anew)]) rfl
    refine sw_seq (sw_fld hd ?_)
    walk_at "ob"
    refine ⟨a, C, dx, [("cap", V.int w.cap), ("have", V.int w.start), ("refill", V.int w.refill), ("anew", V.bl anew)], rfl, o4.get (i := 0) rfl, HR.cl, HR.no _ (by decide +kernel), Nat.lt_of_le_of_lt (Nat.le_of_ble_eq_true (m := 4) rfl) (by decide), ?_⟩
    rw [putF_out (show _ ∉ rkeys.take 4 from by decide +kernel)]
    have o5 := o4.set (i := 0) (a := a) (o' := .ins C dx [("cap", V.int w.cap), ("have", V.int w.start), ("refill", V.int w.refill), ("anew", V.bl anew), ("beat", V.int 0)]) rfl
    refine sw_seq (sw_fld hd (ew_lst hd (aw_nil ⟨by decide, fun ml hml => ?_⟩)))
    have o5' := o5.more (o := .lst []) hml
    walk_at "ob"
    refine ⟨a, C, dx, [("cap", V.int w.cap), ("have", V.int w.start), ("refill", V.int w.refill), ("anew", V.bl anew), ("beat", V.int 0)], rfl, o5'.get (i := 1) rfl, HR.cl, HR.no _ (by decide +kernel), Nat.lt_of_le_of_lt (Nat.le_of_ble_eq_true (m := 5) rfl) (by decide), ?_⟩
    rw [putF_out (show _ ∉ rkeys.take 5 from by decide +kernel)]
    have o6 := (o5'.set (i := 1) (a := a) (o' := .ins C dx [("cap", V.int w.cap), ("have", V.int w.start), ("refill", V.int w.refill), ("anew", V.bl anew), ("beat", V.int 0), ("machines", V.ref ml)]) rfl).perm (List.Perm.swap _ _ _)
    have hzl : zs.length = w.ms.length := by have := dps_len dzs; simpa using this
    have hbl : (lBegun w).ms.length = w.ms.length := by unfold lBegun; simp
    have h0 : SEnt true K Fb (upd (upd _ ml (.lst [])) a (.ins C dx [("cap", V.int w.cap), ("have", V.int w.start), ("refill", V.int w.refill), ("anew", V.bl anew), ("beat", V.int 0), ("machines", V.ref ml)])) ⟨a, dx, ml, C, M, [], false⟩ { lBegun w with ms := (lBegun w).ms.take 0 } { w with ms := w.ms.take 0 } r p anew [] := ⟨o6, (fun k' ad ss h _ => by simp at h), rfl, rfl, (fun k' ad m ss h => by simp at h), (fun _ ad h => by simp at h), fun _ => rfl⟩
    refine sw_forT hd ?_
    walk_at "ob"
    refine ⟨ma, zs, fun i σ _ G => ∃ (as : List MAd) (x4 : Option V), σ = [some (.ref a), some (.ref wa), some (.bl anew), some (.ref sa), some (.ref ma), x4] ∧ SEnt true K Fb G ⟨a, dx, ml, C, M, as, false⟩ { lBegun w with ms := (lBegun w).ms.take i } { w with ms := w.ms.take i } r p anew [], rfl, h0.own.ex.sqT lz, ⟨[], none, rfl, h0⟩, ?_, ?_, ?_⟩
    · rintro i σ _ G hi ⟨as, x4, rfl, hX⟩
      exact hX.own.ex.sqT lz
    · rintro i x σ _ G hi ⟨as, x4, rfl, hX⟩
      have hil : i < w.ms.length := by rw [← hzl]; exact (List.getElem?_eq_some_iff.mp hi).1
      refine gw_name ?_
      refine sw_drop (ew_meth hd ?_)
      walk_at "ob"
      obtain ⟨d, hd1, hd2⟩ := dps_get' dzs hi
      rw [List.getElem?_map, List.getElem?_eq_getElem hil] at hd1
      cases hd1
      refine ⟨a, dx, _, rfl, hX.cell, rfs_no (by decide +kernel), aw_cons (ew_var rfl (aw_nil ?_))⟩
      refine ⟨Fb, ⟨a, dx, ml, C, M, as, false⟩, _, _, r, p, anew, [], x, w.ms[i], rfl, rfl, rfl, hX, hd2, ?_, fun ad F' _ hX2 => ?_⟩
      · show (w.ms.take i).length ≤ 5
        rw [List.length_take]; omega
      · refine ⟨as ++ [ad], _, rfl, ?_⟩
        refine hX2.same ?_ rfl rfl rfl ?_
        · show ((lBegun w).ms.take (i + 1)).map mcore = (((lBegun w).ms.take i) ++ [mac0 0]).map mcore
          have hm : (lBegun w).ms[i]? = some ⟨0, -1, 0, 0, 0, if w.ms[i].isEmpty then some 0 else none⟩ := by
            unfold lBegun
            rw [List.getElem?_map, List.getElem?_eq_getElem hil]; rfl
          rw [List.take_succ, hm, List.map_append, List.map_append]
          rfl
        · show ({ w with ms := w.ms.take (i + 1) } : Wld) = { w with ms := w.ms.take i ++ [w.ms[i]] }
          rw [List.take_succ, List.getElem?_eq_getElem hil]
          rfl
    · rintro σ _ G ⟨as, x4, rfl, hX⟩
      rw [hzl] at hX
      have e1 : ({ lBegun w with ms := (lBegun w).ms.take w.ms.length } : LSt) = lBegun w := by rw [List.take_of_length_le (by rw [hbl]; exact Nat.le_refl _)]
      have e2 : ({ w with ms := w.ms.take w.ms.length } : Wld) = w := by rw [List.take_length]
      rw [e1, e2] at hX
      exact k _ _ rfl rfl rfl rfl hX
end
end Obr
/-! a shop that may grow, with what stands beside it: Breath's own cells -/
namespace Obr
open PySem L2 PyProof.Rows
def cutH (F : Hp) (a : Addr) : Hp := fun y => if y = a then none else F y
theorem cutH_ex {Fb F : Hp} {a : Addr} (g : Ex Fb F) (h : Fb a = none) : Ex Fb (cutH F a) := fun b o e => by
  unfold cutH
  rw [if_neg (fun z => by rw [z, h] at e; cases e)]
  exact g b o e
theorem Own.thaw {F0 F : Hp} {own : List (Addr × HO)} (h : Own F0 F own) {a : Addr} {o : HO} (e : F0 a = some o) : Own (cutH F0 a) F ((a, o) :: own) where
  ex := fun b u eb => by
    unfold cutH at eb
    split at eb
    · cases eb
    · exact h.ex b u eb
  out := fun p hp => by
    rcases List.mem_cons.mp hp with rfl | hp
    · unfold cutH; rw [if_pos rfl]
    · unfold cutH
      split
      · rfl
      · exact h.out p hp
  at_ := fun p hp => by
    rcases List.mem_cons.mp hp with rfl | hp
    · exact h.ex _ _ e
    · exact h.at_ p hp
  nd := by
    rw [List.map_cons, List.nodup_cons]
    refine ⟨fun m => ?_, h.nd⟩
    obtain ⟨p, hp, ep⟩ := List.mem_map.mp m
    have := h.out p hp
    rw [ep, e] at this
    cases this
theorem sent_perm {c1 c2 x : Addr × HO} {mc ex : List (Addr × HO)} : (x :: c1 :: c2 :: (mc ++ ex)).Perm (c1 :: c2 :: (mc ++ x :: ex)) := by
  refine (List.Perm.swap _ _ _).trans (List.Perm.cons _ ((List.Perm.swap _ _ _).trans (List.Perm.cons _ ?_)))
  exact (List.perm_middle (a := x) (l₁ := mc) (l₂ := ex)).symm
section
variable {sh : Bool} {K : PySem.W.Frag} {F0 F : Hp} {A : RAd} {t : LSt} {w : Wld} {r : Rgt} {p anew : Bool} {ex : List (Addr × HO)} {a : Addr} {o o' : HO}
theorem SEnt.ex0 (h : SEnt sh K F0 F A t w r p anew ((a, o) :: ex)) : F a = some o := (h.own.perm sent_perm).get (i := 0) rfl
theorem SEnt.ex0n (h : SEnt sh K F0 F A t w r p anew ((a, o) :: ex)) : F0 a = none := (h.own.perm sent_perm).none (i := 0) rfl
theorem SEnt.exset (h : SEnt sh K F0 F A t w r p anew ((a, o) :: ex)) : SEnt sh K F0 (upd F a o') A t w r p anew ((a, o') :: ex) :=
  ⟨((h.own.perm sent_perm).set (i := 0) (o' := o') rfl).perm sent_perm.symm, h.st, h.len1, h.len2, h.pz, h.np, h.na⟩
theorem SEnt.more (h : SEnt sh K F0 F A t w r p anew ex) (hp : F a = none) : SEnt sh K F0 (upd F a o) A t w r p anew ((a, o) :: ex) :=
  ⟨(h.own.more hp).perm sent_perm.symm, h.st, h.len1, h.len2, h.pz, h.np, h.na⟩
theorem SEnt.new' (h : SEnt sh K F0 F A t w r p anew ex) (hp : F a = none) : SEnt sh K F0 (upd F a o) A t w r p anew ex := ⟨h.own.new' hp, h.st, h.len1, h.len2, h.pz, h.np, h.na⟩
theorem SEnt.grow (h : SEnt sh K F0 F A t w r p anew ex) {F' : Hp} (g : Ex F F') : SEnt sh K F0 F' A t w r p anew ex := ⟨h.own.grow g, h.st, h.len1, h.len2, h.pz, h.np, h.na⟩
theorem SEnt.freeze (h : SEnt sh K F0 F A t w r p anew ((a, o) :: ex)) : SEnt sh K (upd F0 a o) F A t w r p anew ex :=
  ⟨(h.own.perm sent_perm).freeze rfl, fun k ad ss h1 h2 => (h.st k ad ss h1 h2).ex (Ex.new (.refl _) h.ex0n), h.len1, h.len2, h.pz, h.np, h.na⟩
theorem SEnt.experm {ex' : List (Addr × HO)} (h : SEnt sh K F0 F A t w r p anew ex) (q : ex'.Perm ex) : SEnt sh K F0 F A t w r p anew ex' :=
  ⟨h.own.perm (List.Perm.cons _ (List.Perm.cons _ (List.Perm.append_left _ q))), h.st, h.len1, h.len2, h.pz, h.np, h.na⟩
theorem SEnt.thaw (h : SEnt sh K F0 F A t w r p anew ex) (e : F0 a = some o) (hst : ∀ (k : Nat) (ad : MAd) (ss : List Stp), A.mads[k]? = some ad → w.ms[k]? = some ss → StAt K (cutH F0 a) ad.sv ss) : SEnt sh K (cutH F0 a) F A t w r p anew ((a, o) :: ex) :=
  ⟨(h.own.thaw e).perm sent_perm.symm, hst, h.len1, h.len2, h.pz, h.np, h.na⟩
theorem cut_upd {F : Hp} {a : Addr} {o : HO} (h : F a = none) : cutH (upd F a o) a = F := by
  funext y
  unfold cutH
  split
  · rename_i e; rw [e, h]
  · rename_i e; exact upd_ne e
/-- the list of machines may grow again -/
theorem SAt.open {F0 : Hp} {t' : LSt} (h : SEnt sh K F0 F A t w r p anew ex) {F' : Hp} {ex' : List (Addr × HO)} (h' : SAt sh K (upd F0 A.ml (.lst (A.mads.map fun ad => .ref ad.a))) F' A t' w r p anew ex') : SEnt sh K F0 F' A t' w r p anew ex' := by
  have o := h'.own.thaw h'.ml
  rw [cut_upd h.ml0] at o
  exact ⟨o.perm (List.Perm.swap _ _ _), h.st, h.len1, h'.len2, h'.pz, h.np, h.na⟩
end
/-! ### Breath -/
structure BAd where
  a : Addr
  dx : Addr
  C : Addr
  dl : Addr
def bkeys : List Str := ["run", "lent", "done"]
def bfs (A : RAd) (b : BAd) (ln : Int) : List (Str × V) := [("run", .ref A.a), ("lent", .int ln), ("done", .ref b.dl)]
/-- a breath: ds its deeds, ln what is lent -/
abbrev BEnt (K : PySem.W.Frag) (F0 F : Hp) (b : BAd) (A : RAd) (t : LSt) (w : Wld) (r : Rgt) (p : Bool) (ds : List V) (ln : Int) (ex : List (Addr × HO)) : Prop := SEnt false K F0 F A t w r p false ((b.a, .ins b.C b.dx (bfs A b ln)) :: (b.dl, .lst ds) :: ex)
/-! ### pauses -/
/-- what is left of a machine's steps once it is paused: those it has begun -/
def cutS (ss : List Stp) (m : Mac) : List Stp := if m.over < 0 then ss.take m.at_.toNat else ss.take (m.at_.toNat + 1)
theorem cutS_len {ss : List Stp} {m : Mac} (h : MacOk ss m) : ((cutS ss m).length : Int) = if m.over < 0 then m.at_ else m.at_ + 1 := by
  have h0 := h.a0
  have h1 := h.a1
  unfold cutS
  by_cases c : m.over < 0
  · rw [if_pos c, if_pos c, List.length_take]
    omega
  · have := h.o (by omega)
    rw [if_neg c, if_neg c, List.length_take]
    omega
theorem cutS_pre {ss : List Stp} {m : Mac} : cutS ss m <+: ss := by
  unfold cutS
  split <;> exact List.take_prefix _ _
theorem cutS_pz {ss : List Stp} {m : Mac} (h : MacOk ss m) : PzOk (cutS ss m) m := by
  have e := cutS_len h
  by_cases c : m.over < 0
  · rw [if_pos c] at e
    exact Or.inl ⟨c, e.symm⟩
  · rw [if_neg c] at e
    exact Or.inr ⟨by omega, e.symm⟩
theorem cutS_ok {ss : List Stp} {m : Mac} (h : MacOk ss m) : MacOk (cutS ss m) m := by
  have e := cutS_len h
  refine ⟨h.a0, ?_, fun z => ?_⟩
  · rw [e]; split <;> omega
  · rw [e, if_neg (by omega)]; omega
def pzAd (ad : MAd) (z : Bool) : MAd := { ad with sv := { ad.sv with pz := z } }
/-- machine k is paused, or goes on -/
def pzA (A : RAd) (k : Nat) (ad : MAd) (z : Bool) : RAd := { A with mads := A.mads.set k (pzAd ad z), hp := true }
def stW (w : Wld) (k : Nat) (ss : List Stp) : Wld := { w with ms := w.ms.set k ss }
theorem stW_ok {w : Wld} {t t' : LSt} {k : Nat} {m : Mac} {ss : List Stp} (h : LOk w t) (hm : t'.ms[k]? = some m) (ho : MacOk ss m) (he : ∀ j, j ≠ k → t'.ms[j]? = t.ms[j]?) (hl : t'.ms.length = t.ms.length) (hb : t'.beat = t.beat) : LOk (stW w k ss) t' := by
  refine ⟨by rw [hb]; exact h.b, fun j m2 ss2 h1 h2 => ?_, by rw [hl, h.len]; exact (List.length_set).symm⟩
  have h2' : (w.ms.set k ss)[j]? = some ss2 := h2
  rw [List.getElem?_set] at h2'
  by_cases c : k = j
  · subst c
    rw [if_pos rfl] at h2'
    have es : ss2 = ss := by
      split at h2'
      · exact (Option.some.inj h2').symm
      · cases h2'
    rw [hm] at h1
    cases h1
    rw [es]
    exact ho
  · rw [if_neg c] at h2'
    rw [he j (fun z => c z.symm)] at h1
    exact h.m j m2 ss2 h1 h2'
theorem mcells_setA {M : Addr} : ∀ {k n : Nat} {as : List MAd} {ms : List Mac} {ad : MAd} {m : Mac}, ms[k]? = some m → (mcells M n as ms).set k (mcell M (n + k) ad m) = mcells M n (as.set k ad) ms
  | _, _, _, [], _, _, h => by simp at h
  | _, _, [], _ :: _, _, _, _ => by simp [mcells]
  | 0, n, a :: as, b :: ms, ad, m, h1 => by
    simp at h1
    subst h1
    rfl
  | k + 1, n, a :: as, b :: ms, ad, m, h1 => by
    simp only [List.getElem?_cons_succ] at h1
    have := mcells_setA (M := M) (n := n + 1) (as := as) (ad := ad) h1
    rw [show n + 1 + k = n + (k + 1) from by omega] at this
    show mcell M n a b :: (mcells M (n + 1) as ms).set k _ = _
    rw [this]
    rfl
section
variable {sh : Bool} {K : PySem.W.Frag} {F0 F : Hp} {A : RAd} {t : LSt} {w : Wld} {r : Rgt} {p : Bool} {ex : List (Addr × HO)}
theorem SEnt.mac (h : SEnt sh K F0 F A t w r p false ex) {k : Nat} {ad : MAd} {m : Mac} (h1 : A.mads[k]? = some ad) (h2 : t.ms[k]? = some m) : F ad.a = some (.ins A.M ad.dx (mfs k ad.sv m)) := by
  have h3 := mcells_get (M := A.M) (n := 0) h1 h2
  rw [Nat.zero_add] at h3
  have hk : k < (mcells A.M 0 A.mads t.ms).length := (List.getElem?_eq_some_iff.mp h3).1
  exact h.own.get (i := k + 2) (by rw [List.getElem?_cons_succ, List.getElem?_cons_succ, List.getElem?_append_left hk]; exact h3)
theorem set_map_a {l : List MAd} {k : Nat} {ad : MAd} (z : Bool) (h : l[k]? = some ad) : (l.set k (pzAd ad z)).map (fun ad => V.ref ad.a) = l.map fun ad => V.ref ad.a := by
  rw [List.map_set]
  refine List.ext_getElem? fun j => ?_
  rw [List.getElem?_set]
  by_cases c : k = j
  · subst c
    rw [if_pos rfl, List.getElem?_map, h]
    have := (List.getElem?_eq_some_iff.mp h).1
    simp [this]
    rfl
  · rw [if_neg c]
/-- a machine's flag is put anew, and its time, and which of its steps count -/
theorem SEnt.flag (h : SEnt sh K F0 F A t w r p false ex) {k : Nat} {ad : MAd} {m m' : Mac} {ss ss' : List Stp} (z : Bool) (h1 : A.mads[k]? = some ad) (h2 : t.ms[k]? = some m) (h3 : w.ms[k]? = some ss) (hp : ss' <+: ad.sv.full) (ha : z = false → ss' = ad.sv.full) (hz : z = true → PzOk ss' m') :
    SEnt sh K F0 (upd F ad.a (.ins A.M ad.dx (mfs k (pzAd ad z).sv m'))) (pzA A k ad z) { t with ms := t.ms.set k m' } (stW w k ss') r p false ex := by
  have h4 := mcells_get (M := A.M) (n := 0) h1 h2
  rw [Nat.zero_add] at h4
  have hk : k < (mcells A.M 0 A.mads t.ms).length := (List.getElem?_eq_some_iff.mp h4).1
  have o := h.own.set (i := k + 2) (a := ad.a) (o := .ins A.M ad.dx (mfs k ad.sv m)) (o' := .ins A.M ad.dx (mfs k (pzAd ad z).sv m')) (by rw [List.getElem?_cons_succ, List.getElem?_cons_succ, List.getElem?_append_left hk]; exact h4)
  have hkA := (List.getElem?_eq_some_iff.mp h1).1
  have hkt := (List.getElem?_eq_some_iff.mp h2).1
  have hkw := (List.getElem?_eq_some_iff.mp h3).1
  have e1 : (mcells A.M 0 A.mads t.ms).set k (A.M |> fun M => (ad.a, HO.ins M ad.dx (mfs k (pzAd ad z).sv m'))) = mcells A.M 0 (A.mads.set k (pzAd ad z)) (t.ms.set k m') := by
    have a1 := mcells_set (M := A.M) (n := 0) (ms := t.ms) (m' := m') (k := k) (as := A.mads) h1
    have a2 := mcells_setA (M := A.M) (n := 0) (as := A.mads) (ms := t.ms.set k m') (k := k) (ad := pzAd ad z) (m := m') (List.getElem?_set_self hkt)
    rw [← a1, List.set_set, Nat.zero_add] at a2
    exact a2
  refine ⟨?_, fun j ad2 ss2 g1 g2 => ?_, ?_, ?_, fun j ad2 m2 ss2 g1 g2 g3 gz => ?_, (fun hh => by cases hh), (fun hh => by cases hh)⟩
  · rw [List.set_cons_succ, List.set_cons_succ, List.set_append_left _ _ hk] at o
    have e2 : (pzA A k ad z).mads.map (fun ad => V.ref ad.a) = A.mads.map fun ad => V.ref ad.a := set_map_a z h1
    show Own F0 _ ((A.a, .ins A.C A.dx (rfsS sh A t w r p false)) :: (A.ml, .lst ((pzA A k ad z).mads.map fun ad => V.ref ad.a)) :: (mcells A.M 0 (A.mads.set k (pzAd ad z)) (t.ms.set k m') ++ ex))
    rw [e2, ← e1]
    exact o
  · have g1' : (A.mads.set k (pzAd ad z))[j]? = some ad2 := g1
    have g2' : (w.ms.set k ss')[j]? = some ss2 := g2
    by_cases c : k = j
    · subst c
      rw [List.getElem?_set_self hkA] at g1'
      rw [List.getElem?_set_self hkw] at g2'
      cases g1'
      cases g2'
      exact ⟨(h.st k ad ss h1 h3).d, hp, ha⟩
    · rw [List.getElem?_set, if_neg c] at g1' g2'
      exact h.st j ad2 ss2 g1' g2'
  · show (A.mads.set k _).length = (w.ms.set k ss').length
    rw [List.length_set, List.length_set]; exact h.len1
  · show (t.ms.set k m').length = (w.ms.set k ss').length
    rw [List.length_set, List.length_set]; exact h.len2
  · have g1' : (A.mads.set k (pzAd ad z))[j]? = some ad2 := g1
    have g2' : (t.ms.set k m')[j]? = some m2 := g2
    have g3' : (w.ms.set k ss')[j]? = some ss2 := g3
    by_cases c : k = j
    · subst c
      rw [List.getElem?_set_self hkA] at g1'
      rw [List.getElem?_set_self hkt] at g2'
      rw [List.getElem?_set_self hkw] at g3'
      cases g1'
      cases g2'
      cases g3'
      exact hz gz
    · rw [List.getElem?_set, if_neg c] at g1' g2' g3'
      exact h.pz j ad2 m2 ss2 g1' g2' g3' gz
end
end Obr
/-! ### match over a tuple: its cases one word, or one word and a name, or whatever -/
namespace Obr
open PySem L2 PySem.Spec PyProof.Rows
abbrev TM := List V → TS
structure PM (X : Cx) (cs : List MatchCase) (t : TM) : Prop where
  run : ∀ (first : Bool) (pins : List (Addr × Obj)) (s : Shared) (σ : L2.St) (H : Hp) (D : Ends) (a : Addr) (xs : List V), Inv X pins σ H s → SqT X.K H a xs → t xs D σ H →
    wpAny (model X.prog X.w) X.A (matchCases cs X.env (.ref a) first) (SP X pins D) X.xe s
def tMatch (K : PySem.W.Frag) (te : TE) (t : TM) : TS := fun D σ H => te σ H fun v H1 => ∃ a xs, v = .ref a ∧ SqT K H1 a xs ∧ t xs D σ H1
def tmNil : TM := fun _ => tNext
def tmAny (t : TS) : TM := fun _ => t
def tmOne (w : Str) (t : TS) (r : TM) : TM := fun xs D σ H => (xs.length ≠ 1 → r xs D σ H) ∧ ∀ x, xs = [x] → ∃ y, x = .str y ∧ (y = w → t D σ H) ∧ (y ≠ w → r xs D σ H)
def tmTwo (w : Str) (i : Nat) (t : TS) (r : TM) : TM := fun xs D σ H => (xs.length ≠ 2 → r xs D σ H) ∧ ∀ x v, xs = [x, v] → ∃ y, x = .str y ∧ (y = w → t D (σ.set i (some v)) H) ∧ (y ≠ w → r xs D σ H)
section
variable {X : Cx} {e : Expr} {te : TE} {cs : List MatchCase} {t : TM} {u : TS} {pos p1 p2 p3 p4 : Pos} {body : List Stmt} {w x : Str} {j : Nat}
theorem ps_match (he : PE X e te) (hc : PM X cs t) : PS X (.Match e cs pos) (tMatch X.K te t) := by
  refine ⟨fun pins s σ H D I h => ?_⟩
  refine wpAny_Match (thn (he.run pins s σ H _ I h) fun v s1 ⟨x, H1, I1, r1, a, xs, e1, hq, q1⟩ => ?_)
  subst e1
  cases r1
  exact hc.run true pins s1 σ H1 D a xs I1 hq q1
theorem pm_any (hb : PSs X body u) : PM X (⟨.MatchAs none none p1, none, body⟩ :: cs) (tmAny u) := ⟨fun _ pins s σ H D a xs I hq h => by
  refine wpAny_matchCases_cons (wpAny_matchPattern_Capture ?_)
  exact wpAny_assignInOrder_none (hb.run pins s σ H D I h)⟩
/-- the word: the same, or another -/
theorem pat_word {pins : List (Addr × Obj)} {s : Shared} {σ : L2.St} {H : Hp} {y : Str} {v : Value} {Q : Option (List (Str × Value)) → Shared → Prop} (I : Inv X pins σ H s) (r : RelV (.str y) v)
    (h : ∀ s', Inv X pins σ H s' → if y = w then Q (some []) s' else Q none s') : wpAny (model X.prog X.w) X.A (matchPattern (.MatchValue (.Constant (.str w) j p1) p2) X.env v) Q X.xe s := by
  refine wpAny_matchPattern_Value (thn ((pe_str (X := X) (x := w) (j := j) (pos := p1)).run pins s σ H (fun z G => z = .str w ∧ G = H) I ⟨rfl, rfl⟩) fun z s1 ⟨zv, H1, I1, r1, q1, q2⟩ => ?_)
  subst q1 q2
  refine thn (op_eq (X := X) pins s1 σ H1 (.str y) (.str w) v z (fun c G => c = .bl (decide (V.str y = V.str w)) ∧ G = H1) I1 r r1 ⟨rfl, rfl, rfl⟩) fun c s2 ⟨cv, H2, I2, r2, q3, q4⟩ => ?_
  subst q3 q4
  cases r2
  have z := h s2 I2
  refine wpAny_truthy_bool ?_
  by_cases c : y = w
  · rw [if_pos c] at z
    rw [decide_eq_true (by rw [c]), if_pos rfl]
    exact z
  · rw [if_neg c] at z
    rw [decide_eq_false (fun k => c (by injection k)), if_neg (by decide)]
    exact z
theorem pm_one {r : TM} (hc : X.calm = true) (hb : PSs X body u) (hr : PM X cs r) : PM X (⟨.MatchSequence [.MatchValue (.Constant (.str w) j p1) p2] p3, none, body⟩ :: cs) (tmOne w u r) := ⟨fun _ pins s σ H D a xs I hq h => by
  obtain ⟨its, rv, ht, hz⟩ := I.tuple hq
  have hlen : its.length = xs.length := rv.length.symm
  have hfit : ((its.toArray.size : Nat) : Int) < 2 ^ 63 := by rw [sizeLine_eq] at hz; simp; omega
  refine wpAny_matchCases_cons ?_
  by_cases hl : xs.length = 1
  · refine matchSeq_tuple_hit ht hfit (by simp [hlen, hl]) ?_
    obtain ⟨x, rfl⟩ := List.length_eq_one_iff.mp hl
    have key := unpackItems_tuple (prog := X.prog) (w := X.w) (A := X.A) (E := X.xe) (s := { s with toks := s.toks + 1 + 1 }) (Q := fun vs s₃ => wpAny (model X.prog X.w) X.A (matchEach [.MatchValue (.Constant (.str w) j p1) p2] X.env vs) (fun r s₁ => match r with
          | none => wpAny (model X.prog X.w) X.A (matchCases cs X.env (.ref a) false) (SP X pins D) X.xe s₁
          | some bs => wpAny (model X.prog X.w) X.A (assignInOrder (bs.map fun (n, _) => bindName X.env n) (bs.map (·.2))) (fun _ s₂ => wpAny (model X.prog X.w) X.A (execs body X.env) (SP X pins D) X.xe s₂) X.xe s₁) X.xe s₃) (I.ok.hd hc) ht fun h' hx => ?_
    · rw [show its.toArray.size = 1 by simp [hlen]] at key
      exact key
    have I1 : Inv X pins σ H { s with heap := h', toks := s.toks + 1 + 1 } := I.kept fun b o e => hx b o (Nat.ne_of_lt (Heap.lt_size e)) e
    cases rv with
    | cons r1 rr =>
    cases rr
    obtain ⟨y, rfl, h1, h2⟩ := h.2 _ rfl
    refine wpAny_matchEach_cons (pat_word I1 r1 fun s' I' => ?_) rfl
    by_cases c : y = w
    · rw [if_pos c]
      refine wpAny_matchEach_nil ?_
      exact wpAny_assignInOrder_none (hb.run pins s' σ H D I' (h1 c))
    · rw [if_neg c]
      exact hr.run false pins s' σ H D a _ I' hq (h2 c)
  · refine matchSeq_tuple_miss ht hfit (by simp [hlen, hl]) ?_
    exact hr.run false pins _ σ H D a xs (I.tok (s.toks + 1 + 1)) hq (h.1 hl)⟩
theorem pm_two {r : TM} {i : Nat} (hc : X.calm = true) (hN : X.N.Nodup) (hi : X.N[i]? = some x) (hx : Loc X.env.scope x) (hb : PSs X body u) (hr : PM X cs r)
    (hf : X.fn x = true ∨ X.env.scope.names.lookup x = some .local := by first | exact .inl rfl | exact .inr rfl | assumption) : PM X (⟨.MatchSequence [.MatchValue (.Constant (.str w) j p1) p2, .MatchAs none (some x) p4] p3, none, body⟩ :: cs) (tmTwo w i u r) := ⟨fun _ pins s σ H D a xs I hq h => by
  obtain ⟨its, rv, ht, hz⟩ := I.tuple hq
  have hlen : its.length = xs.length := rv.length.symm
  have hfit : ((its.toArray.size : Nat) : Int) < 2 ^ 63 := by rw [sizeLine_eq] at hz; simp; omega
  refine wpAny_matchCases_cons ?_
  by_cases hl : xs.length = 2
  · refine matchSeq_tuple_hit ht hfit (by simp [hlen, hl]) ?_
    have key := unpackItems_tuple (prog := X.prog) (w := X.w) (A := X.A) (E := X.xe) (s := { s with toks := s.toks + 1 + 1 }) (Q := fun vs s₃ => wpAny (model X.prog X.w) X.A (matchEach [.MatchValue (.Constant (.str w) j p1) p2, .MatchAs none (some x) p4] X.env vs) (fun r s₁ => match r with
          | none => wpAny (model X.prog X.w) X.A (matchCases cs X.env (.ref a) false) (SP X pins D) X.xe s₁
          | some bs => wpAny (model X.prog X.w) X.A (assignInOrder (bs.map fun (n, _) => bindName X.env n) (bs.map (·.2))) (fun _ s₂ => wpAny (model X.prog X.w) X.A (execs body X.env) (SP X pins D) X.xe s₂) X.xe s₁) X.xe s₃) (I.ok.hd hc) ht fun h' hx => ?_
    · rw [show its.toArray.size = 2 by simp [hlen, hl]] at key
      exact key
    have I1 : Inv X pins σ H { s with heap := h', toks := s.toks + 1 + 1 } := I.kept fun b o e => hx b o (Nat.ne_of_lt (Heap.lt_size e)) e
    obtain ⟨x1, v1, rfl⟩ : ∃ a b, xs = [a, b] := by
      cases xs with
      | nil => cases hl
      | cons a l =>
        cases l with
        | nil => cases hl
        | cons b l =>
          cases l with
          | nil => exact ⟨a, b, rfl⟩
          | cons c l => simp at hl
    cases rv with
    | cons r1 rr =>
    cases rr with
    | cons r2 r3 =>
    cases r3
    obtain ⟨y, rfl, h1, h2⟩ := h.2 _ _ rfl
    refine wpAny_matchEach_cons (pat_word I1 r1 fun s' I' => ?_) rfl
    by_cases c : y = w
    · rw [if_pos c]
      refine wpAny_matchEach_cons (wpAny_matchPattern_Capture (wpAny_matchEach_nil ?_)) rfl
      refine wpAny_assignInOrder_more (wpAny_bindName (store_ok I' hN hi ‹Loc X.env.scope x› r2 (fun s2 I2 => ?_) hf))
      exact wpAny_assignInOrder_none (hb.run pins s2 _ H D I2 (h1 c))
    · rw [if_neg c]
      exact hr.run false pins s' σ H D a _ I' hq (h2 c)
  · refine matchSeq_tuple_miss ht hfit (by simp [hlen, hl]) ?_
    exact hr.run false pins _ σ H D a xs (I.tok (s.toks + 1 + 1)) hq (h.1 hl)⟩
end
end Obr
namespace Obr
/-! ### runs of beats (mathematics only; machines don't begin anew) -/
structure LInv (w : Wld) (t : LSt) : Prop where
  ok : LOk w t
  l0 : 0 ≤ t.level
  l1 : t.level ≤ w.cap
  ov : ∀ (k : Nat) (m : Mac), t.ms[k]? = some m → 0 ≤ m.over → t.beat ≤ m.over
  en : ∀ (k : Nat) (m : Mac) (ss : List Stp), t.ms[k]? = some m → w.ms[k]? = some ss → (m.at_ = ss.length → m.ends = some m.since) ∧ (m.at_ < ss.length → m.ends = none)
theorem endM_cases {b : Int} {ss : List Stp} {m : Mac} (h : MacOk ss m) (hb : 0 ≤ b) :
    (m.over = b ∧ m.at_ < ss.length ∧ endM false b ss m = { m with at_ := m.at_ + 1, over := -1, since := b, done := m.done + 1, ends := if m.at_ + 1 = ss.length then some b else m.ends }) ∨ (m.over ≠ b ∧ endM false b ss m = m) := by
  by_cases e : m.over = b
  · have hl := h.o (by omega)
    have h0 := h.a0
    refine Or.inl ⟨e, hl, ?_⟩
    have hst : ss[m.at_.toNat]? = some ss[m.at_.toNat] := List.getElem?_eq_getElem (by omega)
    unfold endM
    rw [if_pos e]
    simp only [hst]
    by_cases c : m.at_ + 1 = ss.length
    · rw [if_pos c, if_pos c]; rfl
    · rw [if_neg c, if_neg c]
  · refine Or.inr ⟨e, ?_⟩
    unfold endM
    rw [if_neg e]
/-- how much is to be done yet -/
def phi (ss : List Stp) (b : Int) (m : Mac) : Int := if m.over < 0 then 10 * (ss.length - m.at_) else (m.over - b + 1) + 10 * (ss.length - m.at_ - 1)
structure MStep (cap b : Int) (ss : List Stp) (m m' : Mac) (began : Prop) : Prop where
  ok : MacOk ss m'
  ov : 0 ≤ m'.over → b + 1 ≤ m'.over
  en : (m'.at_ = ss.length → m'.ends = some m'.since) ∧ (m'.at_ < ss.length → m'.ends = none)
  ph : phi ss (b + 1) m' ≤ phi ss b m
  ph2 : began ∨ 0 ≤ m.over → phi ss (b + 1) m' < phi ss b m
  wt : m'.waits = m.waits + (if m'.over < 0 ∧ m'.at_ < ss.length then 1 else 0)
  keep : m.over < 0 → ¬ began → m'.at_ = m.at_ ∧ m'.over = m.over ∧ m'.since = m.since ∧ m'.ends = m.ends ∧ m'.done = m.done
  idle : began → 0 ≤ m'.over
theorem mstep {cap b : Int} {ss : List Stp} {m m' : Mac} {began : Prop} (h : MacOk ss m) (hb : 0 ≤ b) (hov : 0 ≤ m.over → b ≤ m.over) (hen : (m.at_ = ss.length → m.ends = some m.since) ∧ (m.at_ < ss.length → m.ends = none))
    (hs : ∀ st ∈ ss, StpOk cap st) (k : MBeat false b ss m m' began) : MStep cap b ss m m' began := by
  have h0 := h.a0
  have h1 := h.a1
  rcases endM_cases h hb with ⟨e1, e2, e3⟩ | ⟨e1, e3⟩
  · have kn := k.no
    have ky := k.yes
    rw [e3] at kn ky
    simp only at kn ky
    by_cases hc : m.at_ + 1 < ss.length
    · obtain ⟨st, hst, hd⟩ := ky ⟨by decide, hc⟩
      have hso := hs st (List.mem_of_getElem? hst)
      have l0 := hso.l0
      have l1 := hso.l1
      have hen2 := hen.2 e2
      rcases hd with ⟨q1, rfl⟩ | ⟨q1, rfl⟩
      · refine ⟨⟨by show 0 ≤ m.at_ + 1; omega, by show m.at_ + 1 ≤ _; omega, fun _ => hc⟩, fun _ => by show b + 1 ≤ b + st.long; omega, ⟨fun z => by have : m.at_ + 1 = ss.length := z; omega, fun _ => ?_⟩, ?_, fun _ => ?_, ?_, fun z => by omega, fun _ => by show 0 ≤ b + st.long; omega⟩
        · show (if m.at_ + 1 = ss.length then some b else m.ends) = none
          rw [if_neg (by omega)]; exact hen2
        · unfold phi; simp only []; rw [if_neg (by omega), if_neg (by omega)]; omega
        · unfold phi; simp only []; rw [if_neg (by omega), if_neg (by omega)]; omega
        · simp only []; rw [if_neg (by omega)]; omega
      · refine ⟨⟨by show 0 ≤ m.at_ + 1; omega, by show m.at_ + 1 ≤ _; omega, fun z => absurd z (by show ¬ (0 : Int) ≤ -1; decide)⟩, fun z => absurd z (by show ¬ (0 : Int) ≤ -1; decide), ⟨fun z => by have : m.at_ + 1 = ss.length := z; omega, fun _ => ?_⟩, ?_, fun _ => ?_, ?_, fun z => by omega, fun z => absurd z q1⟩
        · show (if m.at_ + 1 = ss.length then some b else m.ends) = none
          rw [if_neg (by omega)]; exact hen2
        · unfold phi; simp only []; rw [if_pos (by decide), if_neg (by omega)]; omega
        · unfold phi; simp only []; rw [if_pos (by decide), if_neg (by omega)]; omega
        · simp only []; rw [if_pos ⟨by decide, hc⟩]
    · have he : m.at_ + 1 = ss.length := by omega
      obtain ⟨rfl, q1⟩ := kn (fun z => hc z.2)
      refine ⟨⟨by show 0 ≤ m.at_ + 1; omega, by show m.at_ + 1 ≤ _; omega, fun z => absurd z (by show ¬ (0 : Int) ≤ -1; decide)⟩, fun z => absurd z (by show ¬ (0 : Int) ≤ -1; decide), ⟨fun _ => ?_, fun z => by have : m.at_ + 1 < ss.length := z; omega⟩, ?_, fun _ => ?_, ?_, fun z => by omega, fun z => absurd z q1⟩
      · show (if m.at_ + 1 = ss.length then some b else m.ends) = some b
        rw [if_pos he]
      · unfold phi; simp only []; rw [if_pos (by decide), if_neg (by omega)]; omega
      · unfold phi; simp only []; rw [if_pos (by decide), if_neg (by omega)]; omega
      · simp only []; rw [if_neg (by omega)]; omega
  · have kn := k.no
    have ky := k.yes
    rw [e3] at kn ky
    by_cases hc : m.over < 0 ∧ m.at_ < ss.length
    · obtain ⟨st, hst, hd⟩ := ky hc
      have hso := hs st (List.mem_of_getElem? hst)
      have l0 := hso.l0
      have l1 := hso.l1
      rcases hd with ⟨q1, rfl⟩ | ⟨q1, rfl⟩
      · refine ⟨⟨h0, h1, fun _ => hc.2⟩, fun _ => by show b + 1 ≤ b + st.long; omega, hen, ?_, fun _ => ?_, ?_, fun _ z => absurd q1 z, fun _ => by show 0 ≤ b + st.long; omega⟩
        · unfold phi; simp only []; rw [if_neg (by omega), if_pos (by omega)]; omega
        · unfold phi; simp only []; rw [if_neg (by omega), if_pos (by omega)]; omega
        · simp only []; rw [if_neg (by omega)]; omega
      · refine ⟨⟨h0, h1, h.o⟩, fun z => by have z2 : 0 ≤ m.over := z; omega, hen, ?_, fun z => ?_, ?_, fun _ _ => ⟨rfl, rfl, rfl, rfl, rfl⟩, fun z => absurd z q1⟩
        · unfold phi; simp only []; rw [if_pos hc.1, if_pos hc.1]; omega
        · rcases z with z | z
          · exact absurd z q1
          · omega
        · simp only []; rw [if_pos hc]
    · obtain ⟨rfl, q1⟩ := kn hc
      have hlt : 0 ≤ m'.over → b + 1 ≤ m'.over := fun z => by have := hov z; omega
      refine ⟨h, hlt, hen, ?_, fun z => ?_, ?_, fun _ _ => ⟨rfl, rfl, rfl, rfl, rfl⟩, fun z => absurd z q1⟩
      · unfold phi
        by_cases z : m'.over < 0
        · rw [if_pos z, if_pos z]; omega
        · rw [if_neg z, if_neg z]; omega
      · rcases z with z | z
        · exact absurd z q1
        · unfold phi
          rw [if_neg (by omega), if_neg (by omega)]; omega
      · rw [if_neg hc]; omega
/-! the store -/
theorem minI_le {a b : Int} : minI a b ≤ a := by unfold minI; split <;> omega
theorem minI_nn {a b : Int} (h : 0 ≤ a) (k : 0 ≤ b) : 0 ≤ minI a b := by unfold minI; split <;> omega
theorem lEnd_lev {w : Wld} (hw : WldOk w) {anew : Bool} {t : LSt} {k : Nat} (h0 : 0 ≤ t.level) (h1 : t.level ≤ w.cap) : 0 ≤ (lEnd w anew t k).level ∧ (lEnd w anew t k).level ≤ w.cap := by
  unfold lEnd
  split
  · rename_i m ss hm hs
    split
    · split
      · rename_i st hst
        have hb := (hw.st ss (List.mem_of_getElem? hs) st (List.mem_of_getElem? hst)).b0
        have hc := hw.c0
        split
        · exact ⟨minI_nn (by omega) (by omega), minI_le⟩
        · exact ⟨minI_nn (by omega) (by omega), minI_le⟩
      · exact ⟨h0, h1⟩
    · exact ⟨h0, h1⟩
  · exact ⟨h0, h1⟩
theorem lEnds_lev {w : Wld} (hw : WldOk w) {anew : Bool} {t : LSt} (h0 : 0 ≤ t.level) (h1 : t.level ≤ w.cap) : ∀ n, 0 ≤ (lEnds w anew t n).level ∧ (lEnds w anew t n).level ≤ w.cap
  | 0 => ⟨h0, h1⟩
  | n + 1 => let h := lEnds_lev hw (anew := anew) h0 h1 n; lEnd_lev hw h.1 h.2
theorem lFill_lev {w : Wld} (hw : WldOk w) {t : LSt} (h0 : 0 ≤ t.level) (h1 : t.level ≤ w.cap) : 0 ≤ (lFill w t).level ∧ (lFill w t).level ≤ w.cap := by
  have := hw.r0
  have := hw.c0
  unfold lFill
  split
  · exact ⟨minI_nn (by omega) (by omega), minI_le⟩
  · exact ⟨h0, h1⟩
theorem lDraw_lev {w : Wld} {p : Bool} {x : LSt × List Int × Bool} {c : Clm} (hc : 0 ≤ c.draw) (h0 : 0 ≤ x.1.level) (h1 : x.1.level ≤ w.cap) : 0 ≤ (lDraw w p x c).1.level ∧ (lDraw w p x c).1.level ≤ w.cap := by
  unfold lDraw
  split
  · split
    · rename_i h
      split
      · exact ⟨by show 0 ≤ x.1.level - c.draw; omega, by show x.1.level - c.draw ≤ w.cap; omega⟩
      · exact ⟨h0, h1⟩
    · exact ⟨h0, h1⟩
  · exact ⟨h0, h1⟩
theorem lDraws_lev {w : Wld} {p : Bool} : ∀ (ts : List Clm) {x : LSt × List Int × Bool}, (∀ c ∈ ts, 0 ≤ c.draw) → 0 ≤ x.1.level → x.1.level ≤ w.cap → 0 ≤ (ts.foldl (lDraw w p) x).1.level ∧ (ts.foldl (lDraw w p) x).1.level ≤ w.cap
  | [], _, _, h0, h1 => ⟨h0, h1⟩
  | c :: ts, x, hc, h0, h1 => let h := lDraw_lev (w := w) (p := p) (x := x) (hc c List.mem_cons_self) h0 h1; lDraws_lev ts (x := lDraw w p x c) (fun d hd => hc d (List.mem_cons_of_mem _ hd)) h.1 h.2
theorem claims_draw {w : Wld} (hw : WldOk w) {t : LSt} {n : Nat} {c : Clm} (h : c ∈ lClaims w t n) : 0 ≤ c.draw := by
  obtain ⟨j, _, hcj⟩ := lClaims_mem h
  obtain ⟨m, ss, st, _, h3, _, _, hst, rfl⟩ := lClaim_mem hcj
  exact (hw.st ss (List.mem_of_getElem? h3) st (List.mem_of_getElem? hst)).d0
/-! a beat, whole -/
structure BStep (w : Wld) (t t' : LSt) (bg : List Int) : Prop where
  inv : LInv w t'
  beat : t'.beat = t.beat + 1
  ms : ∀ (k : Nat) (m : Mac) (ss : List Stp), t.ms[k]? = some m → w.ms[k]? = some ss → ∃ m', t'.ms[k]? = some m' ∧ MStep w.cap t.beat ss m m' ((k : Int) ∈ bg)
theorem ms_both {w : Wld} {t : LSt} (h : t.ms.length = w.ms.length) {k : Nat} {m : Mac} (hm : t.ms[k]? = some m) : ∃ ss, w.ms[k]? = some ss := ⟨_, List.getElem?_eq_getElem (by rw [← h]; exact (List.getElem?_eq_some_iff.mp hm).1)⟩
theorem ms_both' {w : Wld} {t : LSt} (h : t.ms.length = w.ms.length) {k : Nat} {ss : List Stp} (hs : w.ms[k]? = some ss) : ∃ m, t.ms[k]? = some m := ⟨_, List.getElem?_eq_getElem (by rw [h]; exact (List.getElem?_eq_some_iff.mp hs).1)⟩
theorem bstep {w : Wld} (hw : WldOk w) {r : Rgt} {p : Bool} {t t' : LSt} {lv : Int} {bg : List Int} (h : LInv w t) (b : LBeat w r p false t t' lv bg) : BStep w t t' bg := by
  obtain ⟨hl, hb, hm⟩ := beat_ms h.ok b
  have hst : ∀ (k : Nat) (m : Mac) (ss : List Stp), t.ms[k]? = some m → w.ms[k]? = some ss → ∃ m', t'.ms[k]? = some m' ∧ MStep w.cap t.beat ss m m' ((k : Int) ∈ bg) := fun k m ss h1 h2 => by
    obtain ⟨m', h3, h4⟩ := hm k m ss h1 h2
    exact ⟨m', h3, mstep (h.ok.m k m ss h1 h2) h.ok.b (h.ov k m h1) (h.en k m ss h1 h2) (hw.st ss (List.mem_of_getElem? h2)) h4⟩
  have back : ∀ (k : Nat) (m' : Mac) (ss : List Stp), t'.ms[k]? = some m' → w.ms[k]? = some ss → ∃ m, t.ms[k]? = some m ∧ MStep w.cap t.beat ss m m' ((k : Int) ∈ bg) := fun k m' ss h1 h2 => by
    obtain ⟨m, h3⟩ := ms_both' h.ok.len h2
    obtain ⟨m2, h4, h5⟩ := hst k m ss h3 h2
    rw [h1] at h4
    cases h4
    exact ⟨m, h3, h5⟩
  obtain ⟨ts, hts, e1, e2, _⟩ := b.ex
  have L1 := lEnds_lev hw (anew := false) h.l0 h.l1 w.ms.length
  have L2 := lFill_lev hw L1.1 L1.2
  have L3 := lDraws_lev (w := w) (p := p) ts (x := (lFill w (lEnds w false t w.ms.length), [], true)) (fun c hc => claims_draw hw (hts.perm.mem_iff.mp hc)) L2.1 L2.2
  refine ⟨⟨⟨by rw [hb]; have := h.ok.b; omega, fun k m' ss h1 h2 => ?_, hl⟩, ?_, ?_, fun k m' h1 h2 => ?_, fun k m' ss h1 h2 => ?_⟩, hb, hst⟩
  · obtain ⟨m, _, h4⟩ := back k m' ss h1 h2
    exact h4.ok
  · rw [e2]; exact L3.1
  · rw [e2]; exact L3.2
  · obtain ⟨ss, hs⟩ := ms_both hl h1
    obtain ⟨m, _, h4⟩ := back k m' ss h1 hs
    rw [hb]
    exact h4.ov h2
  · obtain ⟨m, _, h4⟩ := back k m' ss h1 h2
    exact h4.en
theorem begun_inv {w : Wld} (hw : WldOk w) : LInv w (lBegun w) := by
  have hg : ∀ (k : Nat) (m : Mac), (lBegun w).ms[k]? = some m → ∃ ss, w.ms[k]? = some ss ∧ m = ⟨0, -1, 0, 0, 0, if ss.isEmpty then some 0 else none⟩ := fun k m h => by
    unfold lBegun at h
    rw [List.getElem?_map] at h
    obtain ⟨ss, h1, h2⟩ := Option.map_eq_some_iff.mp h
    exact ⟨ss, h1, h2.symm⟩
  refine ⟨⟨Int.le_refl 0, fun k m ss h1 h2 => ?_, by unfold lBegun; simp⟩, hw.s0, hw.s1, fun k m h1 h2 => ?_, fun k m ss h1 h2 => ?_⟩
  · obtain ⟨ss', _, rfl⟩ := hg k m h1
    exact ⟨Int.le_refl 0, Int.natCast_nonneg _, fun z => absurd z (by show ¬ (0 : Int) ≤ -1; decide)⟩
  · obtain ⟨ss', _, rfl⟩ := hg k m h1
    exact absurd h2 (by show ¬ (0 : Int) ≤ -1; decide)
  · obtain ⟨ss', h3, rfl⟩ := hg k m h1
    rw [h2] at h3
    cases h3
    refine ⟨fun z => ?_, fun z => ?_⟩
    · have z2 : (0 : Int) = ss.length := z
      have : ss = [] := List.eq_nil_of_length_eq_zero (by omega)
      rw [this]
      rfl
    · cases ss with
      | nil => exact absurd z (by show ¬ (0 : Int) < 0; decide)
      | cons a l => rfl
/-! how much is to be done yet, in all -/
def PhiL : List (List Stp) → Int → List Mac → Int
  | ss :: l, b, m :: ms => phi ss b m + PhiL l b ms
  | _, _, _ => 0
def Phi (w : Wld) (t : LSt) : Int := PhiL w.ms t.beat t.ms
def Idle (t : LSt) : Prop := ∀ (k : Nat) (m : Mac), t.ms[k]? = some m → m.over < 0
def meas (w : Wld) (t : LSt) : Nat := (Phi w t * 100 + (w.cap - t.level)).toNat
end Obr
namespace Obr
open PySem L2 PyProof.Rows
/-! ### pairs of ints -/
def pairOf (F : Hp) (x : V) : Int × Int := match x with
  | .ref t => match F t with
    | some (.tup [.int i, .int j]) => (i, j)
    | _ => (0, 0)
  | _ => (0, 0)
/-- the pairs of ints at these -/
inductive Prs (F : Hp) : List V → List (Int × Int) → Prop
  | nil : Prs F [] []
  | cons {t : Addr} {p : Int × Int} {xs : List V} {ps : List (Int × Int)} (h : F t = some (.tup [.int p.1, .int p.2])) (r : Prs F xs ps) : Prs F (.ref t :: xs) (p :: ps)
theorem Prs.map {F : Hp} : ∀ {xs ps}, Prs F xs ps → xs.map (pairOf F) = ps
  | _, _, .nil => rfl
  | _, _, .cons (t := t) (p := p) h r => by
    rw [List.map_cons, r.map]
    have e : pairOf F (.ref t) = p := by
      unfold pairOf
      simp only [h]
    rw [e]
theorem Prs.at {F : Hp} : ∀ {xs ps}, Prs F xs ps → ∀ x ∈ xs, ∃ t, x = V.ref t ∧ F t = some (.tup [.int (pairOf F x).1, .int (pairOf F x).2])
  | _, _, .cons (t := t) (p := p) h r, x, hx => by
    rcases List.mem_cons.mp hx with e | hx
    · subst e
      refine ⟨t, rfl, ?_⟩
      have e : pairOf F (.ref t) = p := by
        unfold pairOf
        simp only [h]
      rw [e]
      exact h
    · exact r.at x hx
theorem Prs.len {F : Hp} : ∀ {xs ps}, Prs F xs ps → xs.length = ps.length
  | _, _, .nil => rfl
  | _, _, .cons h r => by rw [List.length_cons, List.length_cons, r.len]
theorem Prs.ex {F G : Hp} (g : Ex F G) : ∀ {xs ps}, Prs F xs ps → Prs G xs ps
  | _, _, .nil => .nil
  | _, _, .cons h r => .cons (g _ _ h) (r.ex g)
theorem Prs.snoc {F : Hp} {t : Addr} {p : Int × Int} (h : F t = some (.tup [.int p.1, .int p.2])) : ∀ {xs ps}, Prs F xs ps → Prs F (xs ++ [.ref t]) (ps ++ [p])
  | _, _, .nil => .cons h .nil
  | _, _, .cons h1 r => .cons h1 (r.snoc h)
end Obr
namespace Obr
open PySem L2 PyProof.Rows
local macro_rules | `(tactic| walk_at "ob_at") => `(tactic| first
  | assumption
  | exact upd_same
  | (refine Eq.trans (upd_ne ?obn) ?obr; (case obn => walk_at "ob_ne"); (case obr => walk_at "ob_at")))
local macro_rules | `(tactic| walk_at "ob_ne") => `(tactic| first
  | assumption
  | (refine Ne.symm ?obs; (case obs => assumption))
  | (refine' ne_of_none (H := ?_) ?obe ?obh; (case obh => assumption); (case obe => walk_at "ob_at"))
  | (refine Ne.symm ?obs; (case obs => (refine' ne_of_none (H := ?_) ?obe ?obh; (case obh => assumption); (case obe => walk_at "ob_at")))))
local macro_rules | `(tactic| walk_at "ob_fr") => `(tactic| first
  | assumption
  | (refine Eq.trans (upd_ne ?obn) ?obr; (case obn => walk_at "ob_ne"); (case obr => walk_at "ob_fr"))
  | (refine Ex.free (G := ?_) (by assumption) ?obh; (case obh => walk_at "ob_fr")))
local macro_rules | `(tactic| walk_at "ob_ex") => `(tactic| first
  | assumption
  | exact Ex.refl _
  | (refine Ex.out ?obg ?obh; (case obh => assumption); (case obg => walk_at "ob_ex"))
  | (refine Ex.new ?obg ?obh; (case obh => assumption); (case obg => walk_at "ob_ex"))
  | (refine Ex.new ?obg ?obh; (case obh => walk_at "ob_fr"); (case obg => walk_at "ob_ex")))
local macro_rules | `(tactic| walk_at "ob_sq") => `(tactic| first
  | assumption
  | (refine SqL.of ?oba; (case oba => walk_at "ob_at"))
  | (refine Ex.sqT (F := ?_) ?obg ?obh; (case obh => assumption); (case obg => walk_at "ob_ex"))
  | (refine Ex.sqL (F := ?_) ?obg ?obh; (case obh => assumption); (case obg => walk_at "ob_ex"))
  | (refine SqT.of ?oba; (case oba => walk_at "ob_at")))
local macro_rules | `(tactic| walk_at "ob_side") => `(tactic| first | exact rfl | assumption | decide | omega | exact ⟨by decide, by decide, by decide⟩ | exact Or.inr ⟨by decide, by decide⟩ | exact Or.inl ⟨by decide, by decide⟩ | exact wide_div (b := 60) (by first | decide | omega) (by first | decide | omega) (by decide) (by decide))
local macro_rules | `(tactic| walk_at "ob1") => `(tactic| first
  | with_reducible refine sw_seq ?_
  | with_reducible refine sw_asg ?_
  | with_reducible refine sw_ret ?_
  | with_reducible refine sw_par ?_
  | with_reducible refine ⟨_, _, rfl, ?_⟩
  | with_reducible refine sw_drop ?_
  | with_reducible refine sw_if ?_
  | with_reducible refine sw_next ?_
  | with_reducible refine gw_name ?_
  | with_reducible refine gw_subL (by assumption) ?_
  | with_reducible refine gsw_cons ?_
  | with_reducible refine gsw_nil ?_
  | with_reducible refine ew_c ?_
  | ((with_reducible refine' ew_var (v := ?_) ?obv ?_); (case obv => exact rfl))
  | ((with_reducible refine ew_next (by assumption) ?obv ?_); (case obv => exact rfl))
  | ((with_reducible refine ew_world (by assumption) ?obv ?_); (case obv => exact rfl))
  | ((with_reducible refine ew_rule (by assumption) ?obv ?_); (case obv => exact rfl))
  | with_reducible refine ew_op ?_
  | with_reducible refine ew_un ?_
  | with_reducible refine ew_dget (by assumption) ?_
  | with_reducible refine uw_I ?_
  | with_reducible refine ppw_nil ?_
  | with_reducible refine ppw_cons ?_
  | with_reducible refine sw_dput (by assumption) ?_
  | with_reducible refine ew_cb ?_
  | with_reducible refine ew_if ?_
  | with_reducible refine ew_slL (by assumption) ?_
  | with_reducible refine ow_some ?_
  | with_reducible refine ow_none ?_
  | with_reducible refine aw_nil ?_
  | with_reducible refine aw_cons ?_
  | with_reducible refine rw_I0 ?_
  | ((with_reducible refine rw_I ?obc ?_); (case obc => walk_at "ob_side"))
  | with_reducible refine rw_isN ?_
  | with_reducible refine rw_notN ?_
  | ((with_reducible refine rw_eq ?obc ?_); (case obc => exact rfl))
  | ((with_reducible refine rw_ne ?obc ?_); (case obc => exact rfl))
  | with_reducible refine cw_max2 ?_
  | with_reducible refine cw_min2 ?_
  | with_reducible refine tw_test ?_
  | with_reducible refine tw_B ?_
  | with_reducible refine tw_not ?_
  | with_reducible refine tw_truB ?_
  | with_reducible refine tw_and ?_
  | with_reducible refine tw_or ?_
  | with_reducible refine ew_and ?_
  | (refine' Exists.intro _ (And.intro (show V.bl _ = V.bl _ from rfl) ?_))
  | (refine' Exists.intro _ (And.intro (show V.int _ = V.int _ from rfl) ?_))
  | ((with_reducible refine' rw_ixL (v := ?_) (xs := ?_) (by assumption) ?obl ?oba ?_); (case obl => walk_at "ob_sq"); (case oba => first | exact rfl | exact at_zero))
  | ((with_reducible refine' rw_ixT (v := ?_) (xs := ?_) (by assumption) ?obl ?oba ?_); (case obl => walk_at "ob_sq"); (case oba => first | exact rfl | exact at_zero))
  | ((with_reducible refine' ew_lst (by assumption) ?_))
  | ((with_reducible refine' ew_tup (by assumption) ?_)))
local macro_rules | `(tactic| walk_at "ob_len") => `(tactic| first | exact Nat.le_of_ble_eq_true rfl | (simp; done) | omega)
local macro_rules | `(tactic| walk_at "ob") => `(tactic| repeat walk_at "ob1")

/-! ### the rights -/
theorem cw_sortedPO {S : Type} {J : S → Hp → Hp → Prop} {K : PySem.W.Frag} {s : S} {F : Hp} {R : V → S → Hp → Prop} (hd : Hid J) {a : Addr} {xs : List V} {k : V → Int × Int} (l : SqL K F a xs) (hx : ∀ x ∈ xs, ∃ t, x = V.ref t ∧ F t = some (.tup [.int (k x).1, .int (k x).2]))
    (h : ∀ ys p, SrtO.Srtd (ltP k) ys → SrtO.Stb (ltP k) ys xs → F p = none → R (.ref p) s (upd F p (.lst ys))) : CW J (rSortedPO K) [.ref a] s F R := fun H j Q q =>
  ⟨a, xs, k, rfl, hd.sqL j l, fun x m => by obtain ⟨t, e, h⟩ := hx x m; exact ⟨t, e, hd.ex j _ _ h⟩, fun ys p h1 h2 hp => q _ _ _ _ (hd.al j hp) (h ys p h1 h2 (hd.fresh j hp))⟩
theorem perm_lift {α β : Type} (g : α → β) : ∀ {l m : List β}, l.Perm m → ∀ {cs : List α}, cs.map g = m → ∃ ts : List α, ts.Perm cs ∧ ts.map g = l := by
  intro l m h
  induction h with
  | nil => intro cs e; exact ⟨[], by cases cs with | nil => exact .nil | cons => simp at e, rfl⟩
  | cons x _ ih =>
    intro cs e
    cases cs with
    | nil => simp at e
    | cons c cs =>
      simp at e
      obtain ⟨ts, h1, h2⟩ := ih e.2
      exact ⟨c :: ts, h1.cons c, by rw [List.map_cons, h2, e.1]⟩
  | swap x y l =>
    intro cs e
    match cs, e with
    | a :: b :: cs, e =>
      simp at e
      refine ⟨b :: a :: cs, .swap a b cs, ?_⟩
      rw [List.map_cons, List.map_cons, e.1, e.2.1, e.2.2]
  | trans _ _ ih1 ih2 =>
    intro cs e
    obtain ⟨ts, h1, h2⟩ := ih2 e
    obtain ⟨us, h3, h4⟩ := ih1 h2
    exact ⟨us, h3.trans h1, h4⟩
def aBehind (K : PySem.W.Frag) : List V → Hp → VK → Prop := fun vs F R => ∃ (last : Int) (na : Addr) (ns : List Int), vs = [.int last, .ref na] ∧ SqL K F na (ns.map V.int) ∧ ns.length ≤ 100 ∧
  ∀ (q : Addr) (F' : Hp), Ex F F' → F q = none → F' q = some (.lst ((ns.filter (fun n => decide (last < n)) ++ ns.filter (fun n => decide (n ≤ last))).map V.int)) → R (.ref q) F'
def aLeast (K : PySem.W.Frag) : List V → Hp → VK → Prop := fun vs F R => ∃ (pa : Addr) (xs : List V) (ps : List (Int × Int)), vs = [.ref pa] ∧ SqL K F pa xs ∧ Prs F xs ps ∧ ps.length ≤ 100 ∧
  ∀ (q : Addr) (F' : Hp) (qs : List (Int × Int)), qs.Perm ps → SrtO.Srtd SrtO.lexB qs → Ex F F' → F q = none → F' q = some (.lst (qs.map fun x => V.int x.2)) → R (.ref q) F'
def aInTurn (K : PySem.W.Frag) (M : Addr) : List V → Hp → VK → Prop := fun vs F R => ∃ (F0 : Hp) (A : RAd) (t : LSt) (w : Wld) (r : Rgt) (p anew : Bool) (ex : List (Addr × HO)) (wa : Addr), vs = [.str (rgtS r), ovV t.last, .ref wa] ∧ A.M = M ∧ RunAt K F0 F A t w r p anew ex ∧ LOk w t ∧ w.ms.length ≤ 5 ∧
  F wa = some (.lst ((lClaims w t w.ms.length).map fun c => refOf A c.k)) ∧
  ∀ (q : Addr) (F' : Hp) (ts : List Clm), TurnOk r t.last (lClaims w t w.ms.length) ts → Ex F F' → F q = none → F' q = some (.lst (ts.map fun c => V.int c.k)) → R (.ref q) F'
theorem lClaims_srt {w : Wld} {t : LSt} : ∀ n : Nat, ((lClaims w t n).map Clm.k).Pairwise (· < ·)
  | 0 => List.Pairwise.nil
  | n + 1 => by
    rw [lClaims, List.map_append, List.pairwise_append]
    refine ⟨lClaims_srt n, ?_, ?_⟩
    · have h1 : (lClaim w t n).length ≤ 1 := by
        unfold lClaim
        repeat' split
        all_goals simp
      match e : lClaim w t n, h1 with
      | [], _ => exact List.Pairwise.nil
      | [x], _ => simp
      | x :: y :: l, h1 => simp at h1
    · intro a ha b hb
      obtain ⟨c, hc, rfl⟩ := List.mem_map.mp ha
      obtain ⟨c', hc', rfl⟩ := List.mem_map.mp hb
      obtain ⟨j, hj, hcj⟩ := lClaims_mem hc
      obtain ⟨_, _, _, _, _, _, _, _, rfl⟩ := lClaim_mem hcj
      obtain ⟨_, _, _, _, _, _, _, _, rfl⟩ := lClaim_mem hc'
      show (j : Int) < n
      omega
theorem lClaims_k0 {w : Wld} {t : LSt} {n : Nat} {c : Clm} (h : c ∈ lClaims w t n) : 0 ≤ c.k ∧ c.k < n := by
  obtain ⟨j, hj, hcj⟩ := lClaims_mem h
  obtain ⟨_, _, _, _, _, _, _, _, rfl⟩ := lClaim_mem hcj
  show (0 : Int) ≤ j ∧ (j : Int) < n
  omega
/-- a list of claims by a key, then by number -/
theorem turn_of {r : Rgt} {last : Int} {cs ts : List Clm} (hp : ts.Perm cs) (hn : (cs.map Clm.k).Nodup) (hs : SrtO.Srtd SrtO.lexB (ts.map fun c => (ckey r last c, c.k))) : TurnOk r last cs ts := by
  refine ⟨hp, ?_⟩
  have h1 : ts.Pairwise (fun a b => SrtO.lexB (ckey r last b, b.k) (ckey r last a, a.k) = false) := List.pairwise_map.mp hs
  have h2 : ts.Pairwise (fun a b => a.k ≠ b.k) := List.pairwise_map.mp ((hp.map Clm.k).nodup_iff.mpr hn)
  refine (h1.and h2).imp fun {a b} h => ?_
  obtain ⟨h3, h4⟩ := h
  have := SrtO.lexB_no.mp h3
  simp only at this
  unfold cLt
  omega
section
variable {P : Program} {w : World} {K : PySem.W.Frag} {mg : Str → Option Value} {base : Heap} {M : Addr}

abbrev s_behind_first : Stmt := top 13
def N_behind_first : List Str := ["last", "numbers", "number"]
theorem sc_behind_first : FnScope N_behind_first ["last", "numbers"] (defScope s_behind_first) := ⟨rfl, rfl, rfl, by decide +kernel, rfl, by decide +kernel, by decide +kernel⟩
theorem ok_behind_first {f : Addr} {fd : FuncData}  (Fn : Fun K "behind_first" "behind_first" s_behind_first f fd) (B : Blt mg)  : FnOk P w K mg base CX0 1 f fd ["last", "numbers"] (LS (aBehind K)) := by
  refine Fn.ok sc_behind_first (fun vs H Q E h => ?_) (fun cdv A outer s H vs Q E hr h => ?_)
  · obtain ⟨J, F, R, hd, j, h, _⟩ := h
    obtain ⟨last, na, ns, rfl, _⟩ := h
    rfl
  · have nd := sc_behind_first.nd
    obtain ⟨J, F, R, hd, j, h, q⟩ := h
    obtain ⟨last, na, ns, rfl, hl, hn, k⟩ := h
    refine ⟨_, (pss_one (ps_ret (pe_op op_cat (pe_lc (own := [("number", 2)]) (te := (tVar 2)) (tt := (tTest (tOp (rI0 fun i j => .bl (decide (j < i))) (tVar 2) (tVar 0)))) (by rfl) nd (pi_list (pv 1)) (blkOk_by (own := [("number", 2)]) (N := N_behind_first) (sc := defScope s_behind_first) (by decide +kernel)) (fun _ _ _ _ _ => (pg_name (i := 2) nd rfl (Or.inl rfl))) (fun _ _ _ _ _ => pts_one (pt_cmpR op_gt (pv 2) (pv 0) (nomark _))) (fun _ _ _ _ _ => (pv 2))) (pe_lc (own := [("number", 2)]) (te := (tVar 2)) (tt := (tTest (tOp (rI0 fun i j => .bl (decide (i ≤ j))) (tVar 2) (tVar 0)))) (by rfl) nd (pi_list (pv 1)) (blkOk_by (own := [("number", 2)]) (N := N_behind_first) (sc := defScope s_behind_first) (by decide +kernel)) (fun _ _ _ _ _ => (pg_name (i := 2) nd rfl (Or.inl rfl))) (fun _ _ _ _ _ => pts_one (pt_cmpR op_le (pv 2) (pv 0) (nomark _))) (fun _ _ _ _ _ => (pv 2)))))), ?_⟩
    refine LS.body j q ?_
    refine sw_ret (ew_op ?_)
    refine ew_lcL hd ?_
    walk_at "ob"
    refine ⟨na, _, rfl, hl, by rw [List.length_map]; omega, fun Dl hDl => ?_⟩
    refine ⟨fun i acc _ G => F = G ∧ acc = ((ns.take i).filter (fun n => decide (last < n))).map V.int, ⟨rfl, rfl⟩, ?_, ?_, ?_⟩
    · rintro i acc _ G hi hg ⟨rfl, rfl⟩
      refine ⟨hl, ?_⟩
      rw [List.length_map]
      refine Nat.le_trans (List.length_filter_le ..) ?_
      rw [List.length_take]
      omega
    · rintro i acc x _ G hi hg ⟨rfl, rfl⟩
      have hd' := hd.jd (D := Dl) (acc := ((ns.take i).filter (fun n => decide (last < n))).map V.int)
      rw [List.getElem?_map] at hi
      obtain ⟨n, hn, rfl⟩ := Option.map_eq_some_iff.mp hi
      have e : ns.take (i + 1) = ns.take i ++ [n] := by rw [List.take_succ, hn]; rfl
      refine gw_name ⟨rfl, ?_⟩
      walk_at "ob"
      refine ⟨fun hb => ?_, fun hb => ?_⟩
      · walk_at "ob"
        refine ⟨rfl, ?_⟩
        rw [e, List.filter_append, List.filter_cons_of_pos (p := (fun n => decide (last < n))) hb, List.map_append]
        rfl
      · refine ⟨rfl, ?_⟩
        rw [e, List.filter_append, List.filter_cons_of_neg (p := (fun n => decide (last < n))) (by rw [hb]; decide), List.filter_nil, List.append_nil]
    · rintro acc _ G hg ⟨rfl, rfl⟩
      rw [List.length_map, List.take_length]

      have g1 : Ex F (upd F Dl (.lst ((ns.filter (fun n => decide (last < n))).map V.int))) := Ex.new (.refl _) hg
      have hl1 := Ex.sqL g1 hl
      refine ew_lcL hd ?_
      walk_at "ob"
      refine ⟨na, _, rfl, hl1, by rw [List.length_map]; omega, fun D2 hD2 => ?_⟩
      refine ⟨fun i acc _ G => _ = G ∧ acc = ((ns.take i).filter (fun n => decide (n ≤ last))).map V.int, ⟨rfl, rfl⟩, ?_, ?_, ?_⟩
      · rintro i acc _ G hi hg ⟨rfl, rfl⟩
        refine ⟨hl1, ?_⟩
        rw [List.length_map]
        refine Nat.le_trans (List.length_filter_le ..) ?_
        rw [List.length_take]
        omega
      · rintro i acc x _ G hi hg ⟨rfl, rfl⟩
        have hd' := hd.jd (D := D2) (acc := ((ns.take i).filter (fun n => decide (n ≤ last))).map V.int)
        rw [List.getElem?_map] at hi
        obtain ⟨n, hn, rfl⟩ := Option.map_eq_some_iff.mp hi
        have e : ns.take (i + 1) = ns.take i ++ [n] := by rw [List.take_succ, hn]; rfl
        refine gw_name ⟨rfl, ?_⟩
        walk_at "ob"
        refine ⟨fun hb => ?_, fun hb => ?_⟩
        · walk_at "ob"
          refine ⟨rfl, ?_⟩
          rw [e, List.filter_append, List.filter_cons_of_pos (p := (fun n => decide (n ≤ last))) hb, List.map_append]
          rfl
        · refine ⟨rfl, ?_⟩
          rw [e, List.filter_append, List.filter_cons_of_neg (p := (fun n => decide (n ≤ last))) (by rw [hb]; decide), List.filter_nil, List.append_nil]
      · rintro acc _ G hg ⟨rfl, rfl⟩
        rw [List.length_map, List.take_length]
  
        have n12 : Dl ≠ D2 := ne_of_none upd_same hg
        have l1 : (ns.filter (fun n => decide (last < n))).length ≤ ns.length := List.length_filter_le ..
        have l2 : (ns.filter (fun n => decide (n ≤ last))).length ≤ ns.length := List.length_filter_le ..
        refine rw_cat hd (l := Dl) (b := D2) (xs := (ns.filter (fun n => decide (last < n))).map V.int) ?_ upd_same ?_ fun q hq => ?_
        · rw [upd_ne n12]; exact upd_same
        · rw [List.length_map, List.length_map]; omega
        refine k q _ ?_ ?_ ?_
        · exact Ex.new (Ex.new g1 hg) hq
        · exact Ex.free (Ex.new g1 hg) hq
        · rw [List.map_append]; exact upd_same

abbrev s_least_first : Stmt := top 12
def N_least_first : List Str := ["pairs", "_", "number"]
theorem sc_least_first : FnScope N_least_first ["pairs"] (defScope s_least_first) := ⟨rfl, rfl, rfl, by decide +kernel, rfl, by decide +kernel, by decide +kernel⟩
theorem ok_least_first {f : Addr} {fd : FuncData}  (Fn : Fun K "least_first" "least_first" s_least_first f fd) (B : Blt mg)  : FnOk P w K mg base CX0 1 f fd ["pairs"] (LS (aLeast K)) := by
  refine Fn.ok sc_least_first (fun vs H Q E h => ?_) (fun cdv A outer s H vs Q E hr h => ?_)
  · obtain ⟨J, F, R, hd, j, h, _⟩ := h
    obtain ⟨pa, xs, ps, rfl, _⟩ := h
    rfl
  · have nd := sc_least_first.nd
    obtain ⟨J, F, R, hd, j, h, q⟩ := h
    obtain ⟨pa, xs, ps, rfl, hl, hx, hn, k⟩ := h
    refine ⟨_, (pss_one (ps_ret (pe_lc (own := [("_", 1), ("number", 2)]) (g := (gTup K 2 (gCons (gName 1) (gCons (gName 2) gNil)))) (te := (tVar 2)) (tt := tYes) (by rfl) nd (pi_list (pe_callB cr_sortedPO (by rfl) B.sorted (by decide +kernel) (pa_cons (pv 0) pa_nil))) (blkOk_by (own := [("_", 1), ("number", 2)]) (N := N_least_first) (sc := defScope s_least_first) (by decide +kernel)) (fun _ _ _ _ _ => (pg_tup rfl (pgs_cons (pg_name (i := 1) nd rfl (Or.inl rfl)) (pgs_cons (pg_name (i := 2) nd rfl (Or.inl rfl)) pgs_nil)))) (fun _ _ _ _ _ => pts_nil) (fun _ _ _ _ _ => (pv 2))))), ?_⟩
    refine LS.body j q ?_
    refine sw_ret (ew_lcL hd ?_)
    walk_at "ob"
    refine cw_sortedPO hd hl hx.at fun ys l hs hst hpl => ?_
    have g1 : Ex F (upd F l (.lst ys)) := Ex.new (.refl _) hpl
    have hyl : ys.length = ps.length := by rw [hst.len, hx.len]
    have hym : ∀ y ∈ ys, ∃ t, y = V.ref t ∧ F t = some (.tup [.int (pairOf F y).1, .int (pairOf F y).2]) := fun y hy => hx.at y (hst.perm.mem_iff.mp hy)
    refine ⟨l, ys, rfl, SqL.of upd_same, by omega, fun Dl hDl => ?_⟩
    refine ⟨fun i acc _ G => upd F l (.lst ys) = G ∧ acc = (ys.take i).map fun y => V.int (pairOf F y).2, ⟨rfl, rfl⟩, ?_, ?_, ?_⟩
    · rintro i acc _ G hi hg ⟨rfl, rfl⟩
      refine ⟨SqL.of upd_same, ?_⟩
      rw [List.length_map, List.length_take]
      omega
    · rintro i acc x _ G hi hg ⟨rfl, rfl⟩
      have hd' := hd.jd (D := Dl) (acc := (ys.take i).map fun y => V.int (pairOf F y).2)
      obtain ⟨t, e, ht⟩ := hym x (List.mem_of_getElem? hi)
      have e2 : ys.take (i + 1) = ys.take i ++ [x] := by rw [List.take_succ, hi]; rfl
      refine gw_tup hd' ⟨t, _, e, SqT.of (g1 _ _ ht), rfl, ?_⟩
      walk_at "ob"
      refine ⟨rfl, ?_⟩
      refine tw_yes ⟨fun _ => ?_, (fun z => by cases z)⟩
      walk_at "ob"
      refine ⟨rfl, ?_⟩
      rw [e2, List.map_append]
      rfl
    · rintro acc _ G hg ⟨rfl, rfl⟩
      rw [List.take_length]
      refine k Dl _ (ys.map (pairOf F)) ?_ ?_ (Ex.new g1 hg) (Ex.free g1 hg) ?_
      · rw [← hx.map]; exact hst.perm.map _
      · exact SrtO.srtd_map hs
      · rw [upd_same, List.map_map]; rfl

abbrev s_in_turn : Stmt := top 11
def N_in_turn : List Str := ["right", "last", "waiting", "numbers", "machine"]
theorem sc_in_turn : FnScope N_in_turn ["right", "last", "waiting"] (defScope s_in_turn) := ⟨rfl, rfl, rfl, by decide +kernel, rfl, by decide +kernel, by decide +kernel⟩
theorem ok_in_turn {f : Addr} {fd : FuncData} {f1 f2 f3 : Addr} {fd1 fd2 fd3 : FuncData} (Fn : Fun K "in_turn" "in_turn" s_in_turn f fd) (B : Blt mg) (HM : ClsF K M mkeys) (Cleast_first : Cal K mg "least_first" f1 fd1 ["pairs"]) (Gleast_first : FnOk P w K mg base CX0 1 f1 fd1 ["pairs"] (LS (aLeast K))) (Cbehind_first : Cal K mg "behind_first" f2 fd2 ["last", "numbers"]) (Gbehind_first : FnOk P w K mg base CX0 1 f2 fd2 ["last", "numbers"] (LS (aBehind K))) (M_need : Met K M "need" f3 fd3 ["self"]) (G_need : FnOk P w K mg base CX0 1 f3 fd3 ["self"] (LS (aNeed K M))) : FnOk P w K mg base CX0 2 f fd ["right", "last", "waiting"] (LS (aInTurn K M)) := by
  refine Fn.ok sc_in_turn (fun vs H Q E h => ?_) (fun cdv A outer s H vs Q E hr h => ?_)
  · obtain ⟨J, F, R, hd, j, h, _⟩ := h
    obtain ⟨F0, A, t, w, r, p, anew, ex, wa, rfl, _⟩ := h
    rfl
  · have nd := sc_in_turn.nd
    obtain ⟨J, F, R, hd, j, h, q⟩ := h
    obtain ⟨F0, A, t, w, r, p, anew, ex, wa, rfl, rfl, hG, hok, hm5, hwa, k⟩ := h
    refine ⟨_, (pss_cons (ps_if (pt_cmpR op_eq (pv 0) pe_str (nomark _)) (pss_one (ps_ret (pe_call Gleast_first (by exact hr.mono (by decide)) (by rfl) Cleast_first.g Cleast_first.k Cleast_first.a .nil pass0 (pa_cons (pe_lc (own := [("machine", 4)]) (te := (tTup (tCons (tFld K (tVar 4) "since") (tCons (tFld K (tVar 4) "number") tNil)))) (tt := tYes) (by rfl) nd (pi_list (pv 2)) (blkOk_by (own := [("machine", 4)]) (N := N_in_turn) (sc := defScope s_in_turn) (by decide +kernel)) (fun _ _ _ _ _ => (pg_name (i := 4) nd rfl (Or.inl rfl))) (fun _ _ _ _ _ => pts_nil) (fun _ _ _ _ _ => (pe_tup (pa_cons (pe_fld (pv 4) rfl) (pa_cons (pe_fld (pv 4) rfl) pa_nil))))) pa_nil)))) pss_nil)
      (pss_cons (ps_if (pt_cmpR op_eq (pv 0) pe_str (nomark _)) (pss_one (ps_ret (pe_call Gleast_first (by exact hr.mono (by decide)) (by rfl) Cleast_first.g Cleast_first.k Cleast_first.a .nil pass0 (pa_cons (pe_lc (own := [("machine", 4)]) (te := (tTup (tCons (tMeth _ "need" (LS (aNeed K _)) [] E0 (tVar 4) tNil) (tCons (tFld K (tVar 4) "number") tNil)))) (tt := tYes) (by rfl) nd (pi_list (pv 2)) (blkOk_by (own := [("machine", 4)]) (N := N_in_turn) (sc := defScope s_in_turn) (by decide +kernel)) (fun _ _ _ _ _ => (pg_name (i := 4) nd rfl (Or.inl rfl))) (fun _ _ _ _ _ => pts_nil) (fun _ _ _ _ _ => (pe_tup (pa_cons (pe_meth0 (pv 4) M_need.cl M_need.m G_need (by exact hr.mono (by decide)) M_need.a .nil pass0) (pa_cons (pe_fld (pv 4) rfl) pa_nil))))) pa_nil)))) pss_nil)
      (pss_cons (ps_setLc (i := 3) rfl nd rfl rfl (sw_true rfl rfl rfl (by decide +kernel)) (own := [("machine", 4)]) (te := (tFld K (tVar 4) "number")) (tt := tYes) (pi_list (pv 2)) (blkOk_by (own := [("machine", 4)]) (N := N_in_turn) (sc := defScope s_in_turn) (by decide +kernel)) (fun _ _ _ _ _ => (pg_name (i := 4) nd rfl (Or.inl rfl))) (fun _ _ _ _ _ => pts_nil) (fun _ _ _ _ _ => (pe_fld (pv 4) rfl)))
      (pss_cons (ps_if (PW.pt (pw_and (pt_cmpR op_eq (pv 0) pe_str (nomark _)) (pw_and1 (pt_cmpR op_notN (pv 1) pe_non (nomark _))))) (pss_one (ps_ret (pe_call Gbehind_first (by exact hr.mono (by decide)) (by rfl) Cbehind_first.g Cbehind_first.k Cbehind_first.a .nil pass0 (pa_cons (pv 1) (pa_cons (pv 3) pa_nil))))) pss_nil)
      (pss_one (ps_ret (pv 3))))))), ?_⟩
    refine LS.body j q ?_
    have hcl : ∀ c ∈ lClaims w t w.ms.length, ∃ (ad : MAd) (m : Mac) (ss : List Stp) (st : Stp) (k' : Nat), A.mads[k']? = some ad ∧ t.ms[k']? = some m ∧ w.ms[k']? = some ss ∧ ss[m.at_.toNat]? = some st ∧ 0 ≤ m.at_ ∧ c.k = (k' : Int) ∧ c.draw = st.draw ∧ c.since = m.since ∧ refOf A c.k = .ref ad.a := by
      intro c hc
      obtain ⟨j, hj, hcj⟩ := lClaims_mem hc
      obtain ⟨m, ss, st, h2, h3, _, _, hst, rfl⟩ := lClaim_mem hcj
      obtain ⟨ad, m', ss', h1, h2', h3'⟩ := hG.three hj
      rw [h2] at h2'; cases h2'
      rw [h3] at h3'; cases h3'
      refine ⟨ad, m, ss, st, j, h1, h2, h3, hst, (hok.m j m ss h2 h3).a0, rfl, rfl, rfl, ?_⟩
      unfold refOf
      show (match A.mads[((j : Int)).toNat]? with | some ad => V.ref ad.a | none => V.non) = _
      rw [Int.toNat_natCast, h1]
    walk_at "ob"
    refine ⟨fun hb => ?_, fun hb => ?_⟩
    · have hr' : r = .wait := by
        have := of_decide_eq_true hb
        cases r <;> first | rfl | (exact absurd this (by decide +kernel))
      subst hr'
      walk_at "ob"
      refine ew_call hd ?_
      refine aw_cons ?_
      refine ew_lcL hd ?_
      walk_at "ob"
      refine ⟨wa, _, rfl, SqL.of hwa, by rw [List.length_map]; have := lClaims_len (w := w) (t := t) w.ms.length; omega, fun Dl hDl => ?_⟩
      refine ⟨fun i acc _ G => Ex F G ∧ Prs G acc (((lClaims w t w.ms.length).take i).map fun c => (c.since, c.k)), ⟨.refl _, .nil⟩, ?_, ?_, ?_⟩
      · rintro i acc _ G hi hg ⟨hG1, hG2⟩
        refine ⟨SqL.of (hG1 _ _ hwa), ?_⟩
        rw [hG2.len, List.length_map, List.length_take]
        omega
      · rintro i acc x _ G hi hg ⟨hG1, hG2⟩
        have hd' := hd.jd (D := Dl) (acc := acc)
        rw [List.getElem?_map] at hi
        obtain ⟨c, hc, rfl⟩ := Option.map_eq_some_iff.mp hi
        obtain ⟨ad, m, ss, st, k', h1, h2, h3, hst, h0, ek, ed, es, er⟩ := hcl c (List.mem_of_getElem? hc)
        have hmac := hG1 _ _ (hG.mac h1 h2)
        have e2 : (lClaims w t w.ms.length).take (i + 1) = (lClaims w t w.ms.length).take i ++ [c] := by rw [List.take_succ, hc]; rfl
        rw [er]
        refine gw_name ⟨rfl, ?_⟩
        refine tw_yes ⟨fun _ => ?_, (fun z => by cases z)⟩
        refine ew_tup hd' ?_
        refine aw_cons ?_
        refine ew_fld hd' ?_
        walk_at "ob"
        refine ⟨ad.a, A.M, ad.dx, _, _, rfl, hmac, HM.cl, HM.no _ (by decide +kernel), lookup_nd (i := 4) (mfs_nd _ _ _) rfl, ?_⟩
        refine aw_cons ?_
        refine ew_fld hd' ?_
        walk_at "ob"
        refine ⟨ad.a, A.M, ad.dx, _, _, rfl, hmac, HM.cl, HM.no _ (by decide +kernel), lookup_nd (i := 0) (mfs_nd _ _ _) rfl, ?_⟩
        refine aw_nil ⟨by walk_at "ob_len", fun tp htp => ?_⟩
        refine ⟨Ex.new hG1 htp, ?_⟩
        rw [e2, List.map_append]
        refine Prs.snoc ?_ (hG2.ex (Ex.new (.refl _) htp))
        show _ = some (HO.tup [V.int (c.since), V.int c.k])
        rw [ek, es]
        exact upd_same
      · rintro acc _ G hg ⟨hG1, hG2⟩
        rw [List.length_map, List.take_length] at hG2
        have g3 : Ex F (upd G Dl (.lst acc)) := Ex.new hG1 hg
        refine aw_nil ⟨Dl, acc, _, rfl, SqL.of upd_same, hG2.ex (Ex.new (.refl _) hg), by rw [List.length_map]; have := lClaims_len (w := w) (t := t) w.ms.length; omega, ?_⟩
        intro q F' qs hq1 hq2 hq3 hq4 hq5
        obtain ⟨ts, ht1, ht2⟩ := perm_lift (fun c : Clm => (c.since, c.k)) hq1 rfl
        refine k q F' ts (turn_of ht1 (lClaims_nd _) ?_) (fun a o e => hq3 _ _ (g3 _ _ e)) (Ex.free g3 hq4) ?_
        · show SrtO.Srtd SrtO.lexB (ts.map fun c => (c.since, c.k))
          rw [ht2]
          exact hq2
        · rw [hq5, ← ht2, List.map_map]
          rfl
    walk_at "ob"
    refine ⟨fun hb2 => ?_, fun hb2 => ?_⟩
    · have hr' : r = .least := by
        have := of_decide_eq_true hb2
        cases r <;> first | rfl | (exact absurd this (by decide +kernel))
      subst hr'
      walk_at "ob"
      refine ew_call hd ?_
      refine aw_cons ?_
      refine ew_lcL hd ?_
      walk_at "ob"
      refine ⟨wa, _, rfl, SqL.of hwa, by rw [List.length_map]; have := lClaims_len (w := w) (t := t) w.ms.length; omega, fun Dl hDl => ?_⟩
      refine ⟨fun i acc _ G => Ex F G ∧ Prs G acc (((lClaims w t w.ms.length).take i).map fun c => (c.draw, c.k)), ⟨.refl _, .nil⟩, ?_, ?_, ?_⟩
      · rintro i acc _ G hi hg ⟨hG1, hG2⟩
        refine ⟨SqL.of (hG1 _ _ hwa), ?_⟩
        rw [hG2.len, List.length_map, List.length_take]
        omega
      · rintro i acc x _ G hi hg ⟨hG1, hG2⟩
        have hd' := hd.jd (D := Dl) (acc := acc)
        rw [List.getElem?_map] at hi
        obtain ⟨c, hc, rfl⟩ := Option.map_eq_some_iff.mp hi
        obtain ⟨ad, m, ss, st, k', h1, h2, h3, hst, h0, ek, ed, es, er⟩ := hcl c (List.mem_of_getElem? hc)
        have hmac := hG1 _ _ (hG.mac h1 h2)
        have e2 : (lClaims w t w.ms.length).take (i + 1) = (lClaims w t w.ms.length).take i ++ [c] := by rw [List.take_succ, hc]; rfl
        rw [er]
        refine gw_name ⟨rfl, ?_⟩
        refine tw_yes ⟨fun _ => ?_, (fun z => by cases z)⟩
        refine ew_tup hd' ?_
        refine aw_cons ?_
        refine ew_meth hd' ?_
        walk_at "ob"
        refine ⟨ad.a, ad.dx, _, rfl, hmac, mfs_no (by decide +kernel), aw_nil ⟨F0, ad.a, ad.dx, k', ad.sv, ss, m, st, rfl, ⟨hmac, fun a o e => hG1 _ _ (hG.own.ex a o e), hG.st k' ad ss h1 h3, fun z => hG.pz k' ad m ss h1 h2 h3 z⟩, h0, hst, ?_⟩⟩
        refine aw_cons ?_
        refine ew_fld hd' ?_
        walk_at "ob"
        refine ⟨ad.a, A.M, ad.dx, _, _, rfl, hmac, HM.cl, HM.no _ (by decide +kernel), lookup_nd (i := 0) (mfs_nd _ _ _) rfl, ?_⟩
        refine aw_nil ⟨by walk_at "ob_len", fun tp htp => ?_⟩
        refine ⟨Ex.new hG1 htp, ?_⟩
        rw [e2, List.map_append]
        refine Prs.snoc ?_ (hG2.ex (Ex.new (.refl _) htp))
        show _ = some (HO.tup [V.int (c.draw), V.int c.k])
        rw [ek, ed]
        exact upd_same
      · rintro acc _ G hg ⟨hG1, hG2⟩
        rw [List.length_map, List.take_length] at hG2
        have g3 : Ex F (upd G Dl (.lst acc)) := Ex.new hG1 hg
        refine aw_nil ⟨Dl, acc, _, rfl, SqL.of upd_same, hG2.ex (Ex.new (.refl _) hg), by rw [List.length_map]; have := lClaims_len (w := w) (t := t) w.ms.length; omega, ?_⟩
        intro q F' qs hq1 hq2 hq3 hq4 hq5
        obtain ⟨ts, ht1, ht2⟩ := perm_lift (fun c : Clm => (c.draw, c.k)) hq1 rfl
        refine k q F' ts (turn_of ht1 (lClaims_nd _) ?_) (fun a o e => hq3 _ _ (g3 _ _ e)) (Ex.free g3 hq4) ?_
        · show SrtO.Srtd SrtO.lexB (ts.map fun c => (c.draw, c.k))
          rw [ht2]
          exact hq2
        · rw [hq5, ← ht2, List.map_map]
          rfl
    walk_at "ob"
    refine ew_lcL hd ?_
    walk_at "ob"
    refine ⟨wa, _, rfl, SqL.of hwa, by rw [List.length_map]; have := lClaims_len (w := w) (t := t) w.ms.length; omega, fun Dl hDl => ?_⟩
    refine ⟨fun i acc _ G => F = G ∧ acc = ((lClaims w t w.ms.length).take i).map fun c => V.int c.k, ⟨rfl, rfl⟩, ?_, ?_, ?_⟩
    · rintro i acc _ G hi hg ⟨rfl, rfl⟩
      refine ⟨SqL.of hwa, ?_⟩
      rw [List.length_map, List.length_take]
      omega
    · rintro i acc x _ G hi hg ⟨rfl, rfl⟩
      have hd' := hd.jd (D := Dl) (acc := ((lClaims w t w.ms.length).take i).map fun c => V.int c.k)
      rw [List.getElem?_map] at hi
      obtain ⟨c, hc, rfl⟩ := Option.map_eq_some_iff.mp hi
      obtain ⟨ad, m, ss, st, k', h1, h2, h3, hst, h0, ek, ed, es, er⟩ := hcl c (List.mem_of_getElem? hc)
      have hmac := hG.mac h1 h2
      have e2 : (lClaims w t w.ms.length).take (i + 1) = (lClaims w t w.ms.length).take i ++ [c] := by rw [List.take_succ, hc]; rfl
      rw [er]
      refine gw_name ⟨rfl, ?_⟩
      refine tw_yes ⟨fun _ => ?_, (fun z => by cases z)⟩
      refine ew_fld hd' ?_
      walk_at "ob"
      refine ⟨ad.a, A.M, ad.dx, _, _, rfl, hmac, HM.cl, HM.no _ (by decide +kernel), lookup_nd (i := 0) (mfs_nd _ _ _) rfl, ?_⟩
      refine ⟨rfl, ?_⟩
      rw [e2, List.map_append, ← ek]
      rfl
    · rintro acc _ G hg ⟨rfl, rfl⟩
      rw [List.length_map, List.take_length]
      have g1 : Ex F (upd F Dl (.lst ((lClaims w t w.ms.length).map fun c => V.int c.k))) := Ex.new (.refl _) hg
      have hrank : (r = .rank ∨ (r = .turns ∧ t.last < 0)) → TurnOk r t.last (lClaims w t w.ms.length) (lClaims w t w.ms.length) := fun hr' => by
        refine ⟨.refl _, ?_⟩
        have hkk : (lClaims w t w.ms.length).Pairwise (fun a b => a.k < b.k) := List.pairwise_map.mp (lClaims_srt w.ms.length)
        refine List.Pairwise.imp_of_mem (fun {a b} ha hb h => ?_) hkk
        have ka := lClaims_k0 ha
        have kb := lClaims_k0 hb
        rcases hr' with rfl | ⟨rfl, hl⟩
        · exact Or.inr ⟨rfl, h⟩
        · refine Or.inr ⟨?_, h⟩
          show b2i (decide (a.k ≤ t.last)) = b2i (decide (b.k ≤ t.last))
          rw [decide_eq_false (by omega), decide_eq_false (by omega)]
      walk_at "ob"
      refine ⟨fun hb3 => ?_, fun hb3 => ⟨(fun z => by cases z), fun _ => ?_⟩⟩
      · have hr' : r = .turns := by
          have := of_decide_eq_true hb3
          cases r <;> first | rfl | (exact absurd this (by decide +kernel))
        subst hr'
        walk_at "ob"
        rw [ovV_non]
        refine ⟨fun hb4 => ?_, fun hb4 => ?_⟩
        · have hl := of_decide_eq_true hb4
          walk_at "ob"
          refine ew_call hd ?_
          walk_at "ob"
          refine ⟨t.last, Dl, (lClaims w t w.ms.length).map Clm.k, ?_, SqL.of (by rw [List.map_map]; exact upd_same), by rw [List.length_map]; have := lClaims_len (w := w) (t := t) w.ms.length; omega, fun q F' e1 e2 e3 => ?_⟩
          · unfold ovV
            rw [if_neg (by omega)]
          · refine k q F' ((lClaims w t w.ms.length).filter (fun c => decide (t.last < c.k)) ++ (lClaims w t w.ms.length).filter (fun c => decide (c.k ≤ t.last))) ⟨?_, ?_⟩ (fun a o e => e1 _ _ (g1 _ _ e)) (Ex.free g1 e2) ?_
            · have e4 : (fun c : Clm => decide (c.k ≤ t.last)) = fun c => !decide (t.last < c.k) := by
                funext c
                by_cases h : c.k ≤ t.last
                · rw [decide_eq_true h, decide_eq_false (by omega)]; rfl
                · rw [decide_eq_false h, decide_eq_true (by omega)]; rfl
              rw [e4]
              exact List.filter_append_perm _ _
            · have hkk : (lClaims w t w.ms.length).Pairwise (fun a b => a.k < b.k) := List.pairwise_map.mp (lClaims_srt w.ms.length)
              refine List.pairwise_append.mpr ⟨?_, ?_, ?_⟩
              · refine List.Pairwise.imp_of_mem (fun {a b} ha hb h => ?_) (hkk.filter _)
                have ka := of_decide_eq_true (List.mem_filter.mp ha).2
                have kb := of_decide_eq_true (List.mem_filter.mp hb).2
                refine Or.inr ⟨?_, h⟩
                show b2i (decide (a.k ≤ t.last)) = b2i (decide (b.k ≤ t.last))
                rw [decide_eq_false (by omega), decide_eq_false (by omega)]
              · refine List.Pairwise.imp_of_mem (fun {a b} ha hb h => ?_) (hkk.filter _)
                have ka := of_decide_eq_true (List.mem_filter.mp ha).2
                have kb := of_decide_eq_true (List.mem_filter.mp hb).2
                refine Or.inr ⟨?_, h⟩
                show b2i (decide (a.k ≤ t.last)) = b2i (decide (b.k ≤ t.last))
                rw [decide_eq_true ka, decide_eq_true kb]
              · intro a ha b hb
                have ka := of_decide_eq_true (List.mem_filter.mp ha).2
                have kb := of_decide_eq_true (List.mem_filter.mp hb).2
                refine Or.inl ?_
                show b2i (decide (a.k ≤ t.last)) < b2i (decide (b.k ≤ t.last))
                rw [decide_eq_false (by omega), decide_eq_true kb]
                decide
            · rw [e3, List.filter_map, List.filter_map, List.map_append, List.map_append, List.map_map, List.map_map]
              rfl
        · have hl := of_decide_eq_false hb4
          walk_at "ob"
          exact k Dl _ _ (hrank (Or.inr ⟨rfl, by omega⟩)) g1 hg upd_same
      · have hr' : r = .rank := by
          have n1 := of_decide_eq_false hb
          have n2 := of_decide_eq_false hb2
          have n3 := of_decide_eq_false hb3
          cases r with
          | rank => rfl
          | turns => exact absurd rfl n3
          | wait => exact absurd rfl n1
          | least => exact absurd rfl n2
        walk_at "ob"
        exact k Dl _ _ (hrank (Or.inl hr')) g1 hg upd_same
end
end Obr
namespace Obr
open PySem L2 PyProof.Rows
local macro_rules | `(tactic| walk_at "ob_at") => `(tactic| first
  | assumption
  | exact upd_same
  | (refine Eq.trans (upd_ne ?obn) ?obr; (case obn => walk_at "ob_ne"); (case obr => walk_at "ob_at")))
local macro_rules | `(tactic| walk_at "ob_ne") => `(tactic| first
  | assumption
  | (refine Ne.symm ?obs; (case obs => assumption))
  | (refine' ne_of_none (H := ?_) ?obe ?obh; (case obh => assumption); (case obe => walk_at "ob_at"))
  | (refine Ne.symm ?obs; (case obs => (refine' ne_of_none (H := ?_) ?obe ?obh; (case obh => assumption); (case obe => walk_at "ob_at")))))
local macro_rules | `(tactic| walk_at "ob_fr") => `(tactic| first
  | assumption
  | (refine Eq.trans (upd_ne ?obn) ?obr; (case obn => walk_at "ob_ne"); (case obr => walk_at "ob_fr"))
  | (refine Ex.free (G := ?_) (by assumption) ?obh; (case obh => walk_at "ob_fr")))
local macro_rules | `(tactic| walk_at "ob_ex") => `(tactic| first
  | assumption
  | exact Ex.refl _
  | (refine Ex.out ?obg ?obh; (case obh => assumption); (case obg => walk_at "ob_ex"))
  | (refine Ex.new ?obg ?obh; (case obh => assumption); (case obg => walk_at "ob_ex"))
  | (refine Ex.new ?obg ?obh; (case obh => walk_at "ob_fr"); (case obg => walk_at "ob_ex")))
local macro_rules | `(tactic| walk_at "ob_sq") => `(tactic| first
  | assumption
  | (refine SqL.of ?oba; (case oba => walk_at "ob_at"))
  | (refine Ex.sqT (F := ?_) ?obg ?obh; (case obh => assumption); (case obg => walk_at "ob_ex"))
  | (refine Ex.sqL (F := ?_) ?obg ?obh; (case obh => assumption); (case obg => walk_at "ob_ex"))
  | (refine SqT.of ?oba; (case oba => walk_at "ob_at")))
local macro_rules | `(tactic| walk_at "ob_side") => `(tactic| first | exact rfl | assumption | decide | omega | exact ⟨by decide, by decide, by decide⟩ | exact Or.inr ⟨by decide, by decide⟩ | exact Or.inl ⟨by decide, by decide⟩ | exact wide_div (b := 60) (by first | decide | omega) (by first | decide | omega) (by decide) (by decide))
local macro_rules | `(tactic| walk_at "ob1") => `(tactic| first
  | with_reducible refine sw_seq ?_
  | with_reducible refine sw_asg ?_
  | with_reducible refine sw_ret ?_
  | with_reducible refine sw_par ?_
  | with_reducible refine ⟨_, _, rfl, ?_⟩
  | with_reducible refine sw_drop ?_
  | with_reducible refine sw_if ?_
  | with_reducible refine sw_next ?_
  | with_reducible refine gw_name ?_
  | with_reducible refine gw_subL (by assumption) ?_
  | with_reducible refine gsw_cons ?_
  | with_reducible refine gsw_nil ?_
  | with_reducible refine ew_c ?_
  | ((with_reducible refine' ew_var (v := ?_) ?obv ?_); (case obv => exact rfl))
  | ((with_reducible refine ew_next (by assumption) ?obv ?_); (case obv => exact rfl))
  | ((with_reducible refine ew_world (by assumption) ?obv ?_); (case obv => exact rfl))
  | ((with_reducible refine ew_rule (by assumption) ?obv ?_); (case obv => exact rfl))
  | with_reducible refine ew_op ?_
  | with_reducible refine ew_un ?_
  | with_reducible refine ew_dget (by assumption) ?_
  | with_reducible refine uw_I ?_
  | with_reducible refine ppw_nil ?_
  | with_reducible refine ppw_cons ?_
  | with_reducible refine sw_dput (by assumption) ?_
  | with_reducible refine ew_cb ?_
  | with_reducible refine ew_if ?_
  | with_reducible refine ew_slL (by assumption) ?_
  | with_reducible refine ow_some ?_
  | with_reducible refine ow_none ?_
  | with_reducible refine aw_nil ?_
  | with_reducible refine aw_cons ?_
  | with_reducible refine rw_I0 ?_
  | ((with_reducible refine rw_I ?obc ?_); (case obc => walk_at "ob_side"))
  | with_reducible refine rw_isN ?_
  | with_reducible refine rw_notN ?_
  | ((with_reducible refine rw_eq ?obc ?_); (case obc => exact rfl))
  | ((with_reducible refine rw_ne ?obc ?_); (case obc => exact rfl))
  | with_reducible refine cw_max2 ?_
  | with_reducible refine cw_min2 ?_
  | with_reducible refine tw_test ?_
  | with_reducible refine tw_B ?_
  | with_reducible refine tw_not ?_
  | with_reducible refine tw_truB ?_
  | with_reducible refine tw_and ?_
  | with_reducible refine tw_or ?_
  | with_reducible refine ew_and ?_
  | (refine' Exists.intro _ (And.intro (show V.bl _ = V.bl _ from rfl) ?_))
  | (refine' Exists.intro _ (And.intro (show V.int _ = V.int _ from rfl) ?_))
  | ((with_reducible refine' rw_ixL (v := ?_) (xs := ?_) (by assumption) ?obl ?oba ?_); (case obl => walk_at "ob_sq"); (case oba => first | exact rfl | exact at_zero))
  | ((with_reducible refine' rw_ixT (v := ?_) (xs := ?_) (by assumption) ?obl ?oba ?_); (case obl => walk_at "ob_sq"); (case oba => first | exact rfl | exact at_zero))
  | ((with_reducible refine' ew_lst (by assumption) ?_))
  | ((with_reducible refine' ew_tup (by assumption) ?_)))
local macro_rules | `(tactic| walk_at "ob_len") => `(tactic| first | exact Nat.le_of_ble_eq_true rfl | (simp; done) | omega)
local macro_rules | `(tactic| walk_at "ob") => `(tactic| repeat walk_at "ob1")

/-! ### Run.begin_steps -/
theorem Own.take {F0 F F' : Hp} {own : List (Addr × HO)} (h : Own F0 F own) (g : Ex F F') {a : Addr} {o : HO} (ha : F a = Option.none) (e : F' a = some o) : Own F0 F' ((a, o) :: own) where
  ex := h.ex.trans g
  out := fun q hq => by
    rcases List.mem_cons.mp hq with rfl | hq
    · exact h.ex.free ha
    · exact h.out q hq
  at_ := fun q hq => by
    rcases List.mem_cons.mp hq with rfl | hq
    · exact e
    · exact g _ _ (h.at_ q hq)
  nd := by
    rw [List.map_cons, List.nodup_cons]
    refine ⟨fun hm => ?_, h.nd⟩
    obtain ⟨q, hq, e⟩ := List.mem_map.mp hm
    have := h.at_ q hq
    rw [e, ha] at this
    cases this
section
variable {K : PySem.W.Frag} {F0 F : Hp} {A : RAd} {t : LSt} {w : Wld} {r : Rgt} {p anew : Bool} {ex : List (Addr × HO)}
theorem SAt.take {sh : Bool} (h : SAt sh K F0 F A t w r p anew ex) {F' : Hp} (g : Ex F F') {a : Addr} {o : HO} (ha : F a = none) (e : F' a = some o) : SAt sh K F0 F' A t w r p anew ((a, o) :: ex) := ⟨(h.own.take g ha e).perm run_perm, h.ml, h.st, h.len1, h.len2, h.pz, h.np, h.na⟩
theorem SAt.drop2 {sh : Bool} {x y : Addr × HO} (h : SAt sh K F0 F A t w r p anew (x :: y :: ex)) : SAt sh K F0 F A t w r p anew (x :: ex) := by
  have o : Own F0 F (y :: x :: (A.a, .ins A.C A.dx (rfsS sh A t w r p anew)) :: (mcells A.M 0 A.mads t.ms ++ ex)) := (h.own.perm ((List.Perm.swap x y _).trans (List.Perm.cons x run_perm.symm) |>.trans run_perm.symm))
  refine ⟨?_, h.ml, h.st, h.len1, h.len2, h.pz, h.np, h.na⟩
  refine Own.perm ?_ run_perm
  refine ⟨o.ex, fun q hq => o.out q (List.mem_cons_of_mem _ hq), fun q hq => o.at_ q (List.mem_cons_of_mem _ hq), ?_⟩
  have := o.nd
  rw [List.map_cons, List.nodup_cons] at this
  exact this.2
theorem SAt.swap {sh : Bool} {x y : Addr × HO} (h : SAt sh K F0 F A t w r p anew (x :: y :: ex)) : SAt sh K F0 F A t w r p anew (y :: x :: ex) :=
  ⟨h.own.perm (List.Perm.cons _ ((List.Perm.swap x y ex).append_left _)), h.ml, h.st, h.len1, h.len2, h.pz, h.np, h.na⟩
end
/-- alike in what the program keeps -/
def lCore (t t' : LSt) : Prop := t'.ms.map mcore = t.ms.map mcore ∧ t'.level = t.level ∧ t'.last = t.last ∧ t'.beat = t.beat
theorem lCore.refl (t : LSt) : lCore t t := ⟨rfl, rfl, rfl, rfl⟩
theorem lCore.trans {a b c : LSt} (h : lCore a b) (k : lCore b c) : lCore a c := ⟨k.1.trans h.1, k.2.1.trans h.2.1, k.2.2.1.trans h.2.2.1, k.2.2.2.trans h.2.2.2⟩
theorem SAt.core {sh : Bool} {K : PySem.W.Frag} {F0 F : Hp} {A : RAd} {t t' : LSt} {w : Wld} {r : Rgt} {p anew : Bool} {ex : List (Addr × HO)} (h : SAt sh K F0 F A t w r p anew ex) (c : lCore t t') : SAt sh K F0 F A t' w r p anew ex := h.same c.1 c.2.1 c.2.2.1 c.2.2.2
theorem set_core {ms : List Mac} {k : Nat} {m m' : Mac} (h : ms[k]? = some m) (e : mcore m' = mcore m) : (ms.set k m').map mcore = ms.map mcore := by
  rw [List.map_set, e]
  refine List.ext_getElem? fun j => ?_
  rw [List.getElem?_set]
  by_cases c : k = j
  · subst c
    have hk := (List.getElem?_eq_some_iff.mp h).1
    rw [if_pos rfl, if_pos (by rw [List.length_map]; exact hk), List.getElem?_map, h]
    rfl
  · rw [if_neg c]
theorem lDraw_no {w : Wld} {p : Bool} {x : LSt × List Int × Bool} {c : Clm} (h : ¬ (x.2.2 = true ∧ c.draw ≤ x.1.level)) : lCore x.1 (lDraw w p x c).1 ∧ (lDraw w p x c).2.1 = x.2.1 := by
  unfold lDraw
  split
  · rename_i m ss hm hs
    rw [if_neg h]
    exact ⟨⟨set_core hm rfl, rfl, rfl, rfl⟩, rfl⟩
  · exact ⟨lCore.refl _, rfl⟩
theorem lDraw_shut {w : Wld} {p : Bool} {x : LSt × List Int × Bool} {c : Clm} (h : x.2.2 = false) : (lDraw w p x c).2.2 = false := by
  unfold lDraw
  split
  · rw [if_neg (fun z => by rw [h] at z; cases z.1), h]
    rfl
  · exact h
theorem lDraws_shut {w : Wld} {p : Bool} : ∀ (cs : List Clm) {x : LSt × List Int × Bool}, x.2.2 = false → lCore x.1 (cs.foldl (lDraw w p) x).1 ∧ (cs.foldl (lDraw w p) x).2.1 = x.2.1
  | [], x, _ => ⟨lCore.refl _, rfl⟩
  | c :: cs, x, h => by
    have h1 := lDraw_no (w := w) (p := p) (c := c) (fun z => by rw [h] at z; cases z.1)
    have h2 := lDraws_shut (w := w) (p := p) cs (x := lDraw w p x c) (lDraw_shut h)
    exact ⟨h1.1.trans h2.1, h2.2.trans h1.2⟩
theorem atI_lst {α : Type} {xs : List α} {x : α} : atI (xs ++ [x]) (-1) = some x := by
  have e : ixN (xs ++ [x]).length (-1) = some xs.length := by
    unfold ixN
    rw [if_neg (by decide), if_pos (by rw [List.length_append, List.length_singleton]; omega)]
    congr 1
    rw [List.length_append, List.length_singleton]
    omega
  unfold atI
  rw [e]
  show (xs ++ [x])[xs.length]? = some x
  simp
theorem lDraw_bg0 {w : Wld} {p : Bool} {x : LSt × List Int × Bool} {c : Clm} (hc : 0 ≤ c.k) (h : ∀ b ∈ x.2.1, 0 ≤ b) : ∀ b ∈ (lDraw w p x c).2.1, 0 ≤ b := by
  unfold lDraw
  repeat' split
  · intro b hb
    rcases List.mem_append.mp hb with hb | hb
    · exact h b hb
    · rw [List.mem_singleton.mp hb]; exact hc
  all_goals exact h
theorem lDraws_bg0' {w : Wld} {p : Bool} : ∀ (cs : List Clm) {x : LSt × List Int × Bool}, (∀ c ∈ cs, 0 ≤ c.k) → (∀ b ∈ x.2.1, 0 ≤ b) → ∀ b ∈ (cs.foldl (lDraw w p) x).2.1, 0 ≤ b
  | [], _, _, h => h
  | c :: cs, x, hc, h => lDraws_bg0' (w := w) (p := p) cs (x := lDraw w p x c) (fun d hd => hc d (List.mem_cons_of_mem _ hd)) (lDraw_bg0 (hc c List.mem_cons_self) h)
theorem lDraws_bg0 {w : Wld} {p : Bool} {ts : List Clm} {t : LSt} {b : Int} (hc : ∀ c ∈ ts, 0 ≤ c.k) (h : b ∈ (lDraws w p ts t).2.1) : 0 ≤ b := lDraws_bg0' (w := w) (p := p) ts hc (fun b hb => by cases hb) b h
def lPut (t : LSt) (bg : List Int) : LSt := { t with last := (if bg.isEmpty then t.last else bg.getLastD 0) }
def aBeginSteps (K : PySem.W.Frag) (C M : Addr) : List V → Hp → VK → Prop := fun vs F R => ∃ (F0 : Hp) (A : RAd) (t : LSt) (w : Wld) (r : Rgt) (p anew : Bool) (ex : List (Addr × HO)), vs = [.ref A.a] ∧ A.C = C ∧ A.M = M ∧ RunAt K F0 F A t w r p anew ex ∧ LOk w t ∧ w.ms.length ≤ 5 ∧ (∀ ss ∈ w.ms, ∀ st ∈ ss, (0 : Int) ≤ st.long) ∧
  ∀ (q : Addr) (F' : Hp) (ts : List Clm), TurnOk r t.last (lClaims w t w.ms.length) ts → RunAt K F0 F' A (lPut (lDraws w p ts t).1 (lDraws w p ts t).2.1) w r p anew ((q, .lst ((lDraws w p ts t).2.1.map V.int)) :: ex) → R (.ref q) F'
section
variable {P : Program} {w : World} {K : PySem.W.Frag} {mg : Str → Option Value} {base : Heap} {C M : Addr}

abbrev s_Run__dot__begin_steps : Stmt := inClass (top 31) 2
def N_Run_begin_steps : List Str := ["self", "begun", "number", "machine"]
theorem sc_Run_begin_steps : FnScope N_Run_begin_steps ["self"] (defScope s_Run__dot__begin_steps) := ⟨rfl, rfl, rfl, by decide +kernel, rfl, by decide +kernel, by decide +kernel⟩
theorem ok_Run_begin_steps {f : Addr} {fd : FuncData} {f1 f2 f3 f4 : Addr} {fd1 fd2 fd3 fd4 : FuncData} (Fn : Fun K "begin_steps" "Run.begin_steps" s_Run__dot__begin_steps f fd) (B : Blt mg) (HR : ClsF K C rkeys) (HM : ClsF K M mkeys) (M_waiting : Met K C "waiting" f1 fd1 ["self"]) (G_waiting : FnOk P w K mg base CX0 3 f1 fd1 ["self"] (LS (aWaitingR false K C M))) (Cin_turn : Cal K mg "in_turn" f2 fd2 ["right", "last", "waiting"]) (Gin_turn : FnOk P w K mg base CX0 2 f2 fd2 ["right", "last", "waiting"] (LS (aInTurn K M))) (M_need : Met K M "need" f3 fd3 ["self"]) (G_need : FnOk P w K mg base CX0 1 f3 fd3 ["self"] (LS (aNeed K M))) (M_begin : Met K C "begin" f4 fd4 ["self", "machine"]) (G_begin : FnOk P w K mg base CX0 2 f4 fd4 ["self", "machine"] (LS (aBeginR false K C M))) : FnOk P w K mg base CX0 4 f fd ["self"] (LS (aBeginSteps K C M)) := by
  refine Fn.ok sc_Run_begin_steps (fun vs H Q E h => ?_) (fun cdv A outer s H vs Q E hr h => ?_)
  · obtain ⟨J, F, R, hd, j, h, _⟩ := h
    obtain ⟨F0, A, t, w, r, p, anew, ex, rfl, _⟩ := h
    rfl
  · have nd := sc_Run_begin_steps.nd
    obtain ⟨J, F, R, hd, j, h, q⟩ := h
    obtain ⟨F0, A, t, w, r, p, anew, ex, rfl, rfl, rfl, hG, hok, hm5, hlong, k⟩ := h
    refine ⟨_, (pss_cons (ps_set (i := 1) nd rfl (Or.inl rfl) (pe_lst pa_nil))
      (pss_cons (ps_for PassesOwn.never rfl (pi_list (pe_call Gin_turn (by exact hr.mono (by decide)) (by rfl) Cin_turn.g Cin_turn.k Cin_turn.a .nil pass0 (pa_cons (pe_fld (pv 0) rfl) (pa_cons (pe_fld (pv 0) rfl) (pa_cons (pe_meth0 (pv 0) M_waiting.cl M_waiting.m G_waiting (by exact hr.mono (by decide)) M_waiting.a .nil pass0) pa_nil))))) (pg_name (i := 2) nd rfl (Or.inl rfl)) (pss_cons (ps_set (i := 3) nd rfl (Or.inl rfl) (pe_ix ix_list (pe_fld (pv 0) rfl) (pv 2) (fun _ _ => rfl)))
      (pss_one (ps_if (pt_cmpR op_le (pe_meth0 (pv 3) M_need.cl M_need.m G_need (by exact hr.mono (by decide)) M_need.a .nil pass0) (pe_fld (pv 0) rfl) (nomark _)) (pss_cons (ps_expr (pe_meth (pv 0) M_begin.cl M_begin.m G_begin (by exact hr.mono (by decide)) M_begin.a .nil pass0 (pa_cons (pv 3) pa_nil)))
      (pss_one (ps_expr (pe_bm PySem.F.plainAttrs_list PySem.F.slot_list_append PySem.F.type_list_append mt_append (pv 1) (pa_cons (pv 2) pa_nil))))) (pss_one (ps_if (pt_not (pt_truth (pe_fld (pv 0) rfl) (by intro _; rfl))) (pss_one ps_break) pss_nil))))))
      (pss_cons (ps_if (pt_truth (pv 1) (by intro _; rfl)) (pss_one (ps_fld (pv 0) (pe_ix ix_list (pv 1) (pe_un un_neg pe_int) (fun _ _ => rfl)) rfl)) pss_nil)
      (pss_one (ps_ret (pv 1)))))), ?_⟩
    refine LS.body j q ?_
    walk_at "ob"
    refine ⟨by walk_at "ob_len", fun ov hov => ?_⟩
    have g0 := hG.more (o := .lst []) hov
    walk_at "ob"
    refine sw_mid (fun σ _ G => ∃ (ts : List Clm) (x2 x3 : Option V), TurnOk r t.last (lClaims w t w.ms.length) ts ∧ σ = [some (.ref A.a), some (.ref ov), x2, x3] ∧ RunAt K F0 G A (lDraws w p ts t).1 w r p anew ((ov, .lst ((lDraws w p ts t).2.1.map V.int)) :: ex)) ?_ ?_
    · refine sw_forL hd ?_
      refine ew_call hd ?_
      refine aw_cons (ew_fld hd ?_)
      walk_at "ob"
      refine ⟨A.a, A.C, A.dx, _, _, rfl, g0.cell, HR.cl, HR.no _ (by decide +kernel), lookup_nd (i := 6) (rfs_nd _ _ _ _ _ _) rfl, ?_⟩
      refine aw_cons (ew_fld hd ?_)
      walk_at "ob"
      refine ⟨A.a, A.C, A.dx, _, _, rfl, g0.cell, HR.cl, HR.no _ (by decide +kernel), lookup_nd (i := 8) (rfs_nd _ _ _ _ _ _) rfl, ?_⟩
      refine aw_cons (ew_meth hd ?_)
      walk_at "ob"
      refine ⟨A.a, A.dx, _, rfl, g0.cell, rfs_no (by decide +kernel), aw_nil ⟨F0, A, t, w, r, p, anew, _, rfl, rfl, rfl, g0, hok, hm5, fun wl F1 e1 hw0 hw1 => ?_⟩⟩
      have g1 := g0.grow e1
      refine aw_nil ⟨F0, A, t, w, r, p, anew, _, wl, rfl, rfl, g1, hok, hm5, hw1, fun q F2 ts hts e2 hq0 hq1 => ?_⟩
      have g2 := (g1.take e2 hq0 hq1).swap
      have hlen : ts.length ≤ 5 := by rw [hts.perm.length_eq]; have := lClaims_len (w := w) (t := t) w.ms.length; omega
      refine ⟨q, _, fun i σ _ G => ∃ (x2 x3 : Option V) (X : LSt × List Int × Bool), σ = [some (.ref A.a), some (.ref ov), x2, x3] ∧ X = (ts.take i).foldl (lDraw w p) (t, [], true) ∧ X.2.2 = true ∧ SameAt t X.1 ∧ RunAt K F0 G A X.1 w r p anew ((ov, .lst (X.2.1.map V.int)) :: (q, .lst (ts.map fun c => V.int c.k)) :: ex) ∧ X.2.1.length ≤ i, rfl, SqL.of hq1, ⟨none, none, (t, [], true), rfl, rfl, rfl, ⟨rfl, fun _ => rfl⟩, ?_, Nat.zero_le _⟩, ?_, ?_, ?_⟩
      · exact g2
      · rintro i σ _ G hi ⟨x2, x3, X, rfl, eX, ho, hs, hX, hl⟩
        exact SqL.of hX.swap.ex0
      · rintro i x σ _ G hi ⟨x2, x3, X, rfl, eX, ho, hs, hX, hl⟩
        rw [List.getElem?_map] at hi
        obtain ⟨c, hc, rfl⟩ := Option.map_eq_some_iff.mp hi
        have hil := (List.getElem?_eq_some_iff.mp hc).1
        have hcm := hts.perm.mem_iff.mp (List.mem_of_getElem? hc)
        obtain ⟨k', hj, hcj⟩ := lClaims_mem hcm
        obtain ⟨m, ss, st, h2t, h3, _, _, hst, ec⟩ := lClaim_mem hcj
        have ha0 := (hok.m k' m ss h2t h3).a0
        obtain ⟨ad, m', ss', h1, h2, h3'⟩ := hX.three hj
        rw [h3] at h3'; cases h3'
        have eat : m'.at_ = m.at_ := by
          have := hs.2 k'
          rw [h2, h2t] at this
          exact Option.some.inj this
        have ek : c.k = (k' : Int) := by rw [ec]
        have ed : c.draw = st.draw := by rw [ec]
        have eN : ts.take (i + 1) = ts.take i ++ [c] := by rw [List.take_succ, hc]; rfl
        have eS : (ts.take (i + 1)).foldl (lDraw w p) (t, [], true) = lDraw w p X c := by rw [eN, List.foldl_append, ← eX]; rfl
        have hbt : X.1.beat = t.beat := hs.1
        have hkn : c.k.toNat = k' := by rw [ek]; exact Int.toNat_natCast _
        walk_at "ob"
        refine ew_fld hd ?_
        walk_at "ob"
        refine ⟨A.a, A.C, A.dx, _, _, rfl, hX.cell, HR.cl, HR.no _ (by decide +kernel), lookup_nd (i := 5) (rfs_nd _ _ _ _ _ _) rfl, ?_⟩
        walk_at "ob"
        refine rw_ixL hd (xs := A.mads.map fun ad => .ref ad.a) (v := .ref ad.a) (SqL.of (hX.own.ex _ _ hX.ml)) ?_ ?_
        · rw [ek]
          refine atI_nat ?_
          rw [List.getElem?_map, h1]
          rfl
        walk_at "ob"
        refine ew_meth hd ?_
        walk_at "ob"
        refine ⟨ad.a, ad.dx, _, rfl, hX.mac h1 h2, mfs_no (by decide +kernel), aw_nil ⟨F0, ad.a, ad.dx, k', ad.sv, ss, m', st, rfl, hX.mobj h1 h2 h3, by rw [eat]; exact ha0, by rw [eat]; exact hst, ?_⟩⟩
        refine ew_fld hd ?_
        walk_at "ob"
        refine ⟨A.a, A.C, A.dx, _, _, rfl, hX.cell, HR.cl, HR.no _ (by decide +kernel), lookup_nd (i := 1) (rfs_nd _ _ _ _ _ _) rfl, ?_⟩
        walk_at "ob"
        refine ⟨fun hb => ?_, fun hb => ?_⟩
        · have hle : c.draw ≤ X.1.level := by rw [ed]; exact of_decide_eq_true hb
          have eD : lDraw w p X c = ({ X.1 with level := X.1.level - c.draw, ms := X.1.ms.set k' { m' with over := X.1.beat + st.long } }, X.2.1 ++ [c.k], X.2.2) := by
            unfold lDraw
            rw [hkn, h2, h3]
            simp only []
            rw [if_pos ⟨ho, hle⟩, eat, hst]
          have hl0 : 0 ≤ X.1.beat + st.long := by
            have := hlong ss (List.mem_of_getElem? h3) st (List.mem_of_getElem? hst)
            have := hok.b
            omega
          refine sw_seq (sw_drop (ew_meth hd ?_))
          walk_at "ob"
          refine ⟨A.a, A.dx, _, rfl, hX.cell, rfs_no (by decide +kernel), aw_cons (ew_var rfl (aw_nil ?_))⟩
          refine ⟨F0, A, X.1, w, r, p, anew, _, k', ad, m', ss, st, rfl, rfl, rfl, hX, h1, h2, h3, by rw [eat]; exact ha0, by rw [eat]; exact hst, hl0, fun G2 hX2 => ?_⟩
          refine sw_drop (ew_bmL hd ?_)
          walk_at "ob"
          refine ⟨ov, _, rfl, SqL.of hX2.ex0, ?_⟩
          walk_at "ob"
          refine mw_append hd hX2.ex0 (by rw [List.length_map]; omega) ?_
          have hX3 := hX2.exset (o' := .lst (X.2.1.map V.int ++ [V.int c.k]))
          refine ⟨_, _, lDraw w p X c, rfl, eS.symm, ?_, ?_, ?_, ?_⟩
          · rw [eD]; exact ho
          · refine SameAt.set hs h2 (m' := { m' with over := X.1.beat + st.long }) ?_ rfl ?_
            · rw [eD]
            · rw [eD]
          · rw [eD, List.map_append, ed]
            exact hX3
          · rw [eD, List.length_append, List.length_singleton]
            omega
        · have hle : ¬ c.draw ≤ X.1.level := by rw [ed]; exact of_decide_eq_false hb
          have hn := lDraw_no (w := w) (p := p) (x := X) (c := c) (fun z => hle z.2)
          have eD : lDraw w p X c = ({ X.1 with ms := X.1.ms.set k' { m' with waits := m'.waits + 1 } }, X.2.1, X.2.2 && p) := by
            unfold lDraw
            rw [hkn, h2, h3]
            simp only []
            rw [if_neg (fun z => hle z.2)]
          refine sw_if (tw_not (tw_truB (ew_fld hd ?_)))
          walk_at "ob"
          refine ⟨A.a, A.C, A.dx, _, _, rfl, hX.cell, HR.cl, HR.no _ (by decide +kernel), lookup_nd (i := 7) (rfs_nd _ _ _ _ _ _) rfl, ?_⟩
          refine ⟨p, rfl, fun hp => ?_, fun hp => ?_⟩
          · refine sw_break ⟨ts, _, _, hts, rfl, ?_⟩
            have hp' : p = false := by cases p with | false => rfl | true => cases hp
            have hsh : (lDraw w p X c).2.2 = false := by rw [eD, hp', Bool.and_false]
            have hrest := lDraws_shut (w := w) (p := p) (ts.drop (i + 1)) hsh
            have hall : lDraws w p ts t = (ts.drop (i + 1)).foldl (lDraw w p) (lDraw w p X c) := by
              rw [← eS, ← List.foldl_append, List.take_append_drop]
              rfl
            rw [hall, hrest.2, hn.2]
            exact ((hX.core hn.1).core hrest.1).drop2
          · refine sw_next ⟨_, _, lDraw w p X c, rfl, eS.symm, ?_, ?_, ?_, ?_⟩
            · have hp' : p = true := by cases p with | true => rfl | false => cases hp
              rw [eD, hp', Bool.and_true]
              exact ho
            · refine SameAt.set hs h2 (m' := { m' with waits := m'.waits + 1 }) ?_ rfl ?_
              · rw [eD]
              · rw [eD]
            · rw [hn.2]
              exact hX.core hn.1
            · rw [hn.2]
              omega
      · rintro σ _ G ⟨x2, x3, X, rfl, eX, ho, hs, hX, hl⟩
        rw [List.length_map, List.take_length] at eX
        have eX' : lDraws w p ts t = X := eX.symm
        refine ⟨ts, _, _, hts, rfl, ?_⟩
        rw [eX']
        exact hX.drop2
    · rintro σ _ G ⟨ts, x2, x3, hts, rfl, hX⟩
      refine sw_seq (sw_if (tw_truL hd ?_))
      walk_at "ob"
      refine ⟨ov, _, rfl, SqL.of hX.ex0, ?_⟩
      have hie : (((lDraws w p ts t).2.1.map V.int).isEmpty) = (lDraws w p ts t).2.1.isEmpty := by cases (lDraws w p ts t).2.1 <;> rfl
      rw [hie]
      refine ⟨fun hb => ?_, fun hb => ?_⟩
      · have hne : (lDraws w p ts t).2.1.isEmpty = false := by cases h : (lDraws w p ts t).2.1.isEmpty <;> rw [h] at hb <;> first | rfl | cases hb
        obtain ⟨bs, b, hbs⟩ : ∃ bs b, (lDraws w p ts t).2.1 = bs ++ [b] := by
          rcases List.eq_nil_or_concat (lDraws w p ts t).2.1 with h | ⟨bs, b, h⟩
          · rw [h] at hne; cases hne
          · exact ⟨bs, b, by rw [h, List.concat_eq_append]⟩
        refine sw_fld hd ?_
        walk_at "ob"
        refine rw_ixL hd (v := .int b) (SqL.of hX.ex0) ?_ ?_
        · rw [hbs, List.map_append]
          exact atI_lst
        walk_at "ob"
        refine ⟨A.a, A.C, A.dx, _, rfl, hX.cell, HR.cl, HR.no _ (by decide +kernel), rfs_lt, ?_⟩
        rw [putF_nd (i := 8) (rfs_nd _ _ _ _ _ _) rfl]
        walk_at "ob"
        have hX1 := hX.put (t' := lPut (lDraws w p ts t).1 (lDraws w p ts t).2.1) rfl
        have e : (rfs A (lDraws w p ts t).1 w r p anew).set 8 ("last", V.int b) = rfs A (lPut (lDraws w p ts t).1 (lDraws w p ts t).2.1) w r p anew := by
          have hb0 : 0 ≤ b := by
            have : b ∈ (lDraws w p ts t).2.1 := by rw [hbs]; simp
            exact lDraws_bg0 (fun c hc => (lClaims_k0 (hts.perm.mem_iff.mp hc)).1) this
          have el : (lPut (lDraws w p ts t).1 (lDraws w p ts t).2.1).last = b := by
            unfold lPut
            rw [hne, hbs]
            simp
          have eo : ovV b = V.int b := by
            unfold ovV
            rw [if_neg (by omega)]
          rw [← eo, ← el]
          rfl
        rw [e]
        exact k ov _ ts hts hX1
      · have hne : (lDraws w p ts t).2.1.isEmpty = true := by cases h : (lDraws w p ts t).2.1.isEmpty <;> rw [h] at hb <;> first | rfl | cases hb
        walk_at "ob"
        refine k ov G ts hts ?_
        have e : lPut (lDraws w p ts t).1 (lDraws w p ts t).2.1 = (lDraws w p ts t).1 := by
          unfold lPut
          rw [hne]
          rfl
        rw [e]
        exact hX
end
end Obr
/-! ### C.m(e, ..): a plain def of a class, called by the class's name -/
namespace Obr
open PySem L2 PySem.Spec PyProof.Rows
/-- the class's def of this name, read off the class -/
structure ClsFn (K : PySem.W.Frag) (C : Addr) (m : Str) (f : Addr) (fd : FuncData) (ps : List Str) : Prop where
  rd : ClX.CRead K C (.type "type")
  vl : ClX.CVal K C (.type "type") m (.ref f) (.ref f)
  kp : PySem.W.keepIn K (.ref f) = true
  a : Binds K fd ps []
def tCFun (C : Addr) (sp : Sp) (E : XK) (ta : TE) (t : TA) : TE := fun σ H Q => ta σ H fun x H1 => x = .ref C ∧ t σ H1 fun vs H2 => sp (vs ++ []) H2 Q E
section
variable {X : Cx} {o e : Expr} {es : List Expr} {m : Str} {pos apos : Pos} {ta : TE} {t : TA} {C f : Addr} {fd : FuncData} {ps : List Str} {k : Nat} {CX : CXT} {sp : Sp} {E : XK}
theorem pe_cfun {pl : Sem Bool} (he : PE X o ta) (c : ClsFn X.K C m f fd ps) (F : FnOk X.prog X.w X.K X.mg X.base CX k f fd ps sp) (hr : Room k X.A) (hx : Passes CX X E) (ha : PA X (e :: es) t)
    (hst : starEach (e :: es) X.env = (false, eval e X.env) :: starEach es X.env := by rfl) (hpl : (backTo pos (starEach es X.env)).any (·.1) = false := by rfl)
    (ht : eval (.Call (.Attribute o m apos) (e :: es) [] pos) X.env = (do
      let ov ← eval o X.env
      standAt apos.atName
      let (f, first) ← holding [ov] (getMethod ov m pl)
      callWith pos f first (backTo pos (starEach (e :: es) X.env)) (backToKw pos (keywordEach [] X.env))) := by rfl) :
    PE X (.Call (.Attribute o m apos) (e :: es) [] pos) (tCFun C sp E ta t) := by
  refine ⟨fun pins s σ H Q I h => ?_⟩
  refine PySem.W.methodCall_KW (pl := pl) (thn (he.run pins s σ H _ I h) fun u s1 ⟨x, H1, I1, rx, ex, q⟩ => ?_) ht
  subst ex
  obtain rfl : u = Value.ref C := rx
  refine PySem.W.method_cls I1.kIn c.rd.ga (ClX.getcval_ok I1 c.rd c.vl fun s2 I2 => ?_)
  refine PySem.W.callWith_K (first := []) (h₀ := X.base) I.ok.mod.kin c.kp (thn (ha.run pos pins s2 σ H1 _ I2 q) fun us s3 ⟨vs, H2, I3, r, q2⟩ => ⟨I3.kIn, ?_⟩) hst hpl
  exact run_fn (us := us) (vs := vs) F hr c.a .nil hx I3 r q2
end
section
variable {S : Type} {J : S → Hp → Hp → Prop} {K : PySem.W.Frag} {σ : L2.St} {s : S} {F : Hp} {R : V → S → Hp → Prop} {ta : TE} {tr : TA} {A : List V → Hp → VK → Prop} {E : XK} {C : Addr}
theorem ew_cfun (hd : Hid J) (h : EW J ta σ s F fun x s1 F1 => x = .ref C ∧ AW J tr σ s1 F1 fun vs s2 F2 => A vs F2 fun v F' => R v s2 F') :
    EW J (tCFun C (LS A) E ta tr) σ s F R := fun H j Q q =>
  h H j _ fun x s1 F1 H1 j1 ⟨e, h2⟩ => ⟨e, h2 H1 j1 _ fun vs s2 F2 H2 j2 k => by
    show LS A (vs ++ []) H2 Q E
    rw [List.append_nil]
    exact ⟨_, F2, _, hd.unit s2, j2, k, fun v F' H' j' r => q v s2 F' H' j' r⟩⟩
end
/-- the head's look at such a def -/
def clsFnB (K : PySem.W.Frag) (C : Addr) (m : Str) (f : Addr) : Bool := PySem.W.readsIn K C (.type "type") && (PySem.W.specialIn K (.ref C) "__getattribute__" == some (some (.builtin "type.__getattribute__"))) && (match PySem.W.findCls K (.ref C) (.type "type") m with | some (.val v) => v == .ref f | _ => false)
theorem clsFn_ok {K : PySem.W.Frag} {C f : Addr} {m : Str} {fd : FuncData} {ps : List Str} (h : clsFnB K C m f = true) (kp : PySem.W.keepIn K (.ref f) = true) (b : Binds K fd ps []) : ClsFn K C m f fd ps := by
  unfold clsFnB at h
  rw [Bool.and_eq_true, Bool.and_eq_true] at h
  obtain ⟨⟨h1, h2⟩, h3⟩ := h
  refine ⟨⟨h1, eq_of_beq h2⟩, ⟨?_, rfl⟩, kp, b⟩
  split at h3
  · rename_i v e
    rw [e, eq_of_beq h3]
  · cases h3
end Obr
namespace Obr
open PySem PySem.Spec PyProof.Rows L2
def dd (a : Str × Option Str) (x qual : Str) (st : Stmt) : He.DefD := ⟨a, x, qual, defArgs st, defBody st, defScope st, [], []⟩
def fn0 : List He.DefD := [dd ("_wall", none) "_wall" "_wall" (top 0), dd ("in_turn", none) "in_turn" "in_turn" (top 11), dd ("least_first", none) "least_first" "least_first" (top 12), dd ("behind_first", none) "behind_first" "behind_first" (top 13), dd ("check_store", none) "check_store" "check_store" (top 20), dd ("check_steps", none) "check_steps" "check_steps" (top 21), dd ("is_step", none) "is_step" "is_step" (top 22), dd ("check_rule", none) "check_rule" "check_rule" (top 23), dd ("check_count", none) "check_count" "check_count" (top 24), dd ("Machine", some "__init__") "__init__" "Machine.__init__" (inClass (top 29) 0), dd ("Machine", some "is_done") "is_done" "Machine.is_done" (inClass (top 29) 1), dd ("Machine", some "is_busy") "is_busy" "Machine.is_busy" (inClass (top 29) 2), dd ("Machine", some "is_waiting") "is_waiting" "Machine.is_waiting" (inClass (top 29) 3), dd ("Machine", some "need") "need" "Machine.need" (inClass (top 29) 4), dd ("Machine", some "left") "left" "Machine.left" (inClass (top 29) 5), dd ("Machine", some "begin_step") "begin_step" "Machine.begin_step" (inClass (top 29) 6), dd ("Machine", some "end_step") "end_step" "Machine.end_step" (inClass (top 29) 7), dd ("Machine", some "begin_anew") "begin_anew" "Machine.begin_anew" (inClass (top 29) 8), dd ("Shop", some "__init__") "__init__" "Shop.__init__" (inClass (top 30) 0), dd ("Shop", some "enter") "enter" "Shop.enter" (inClass (top 30) 1)]
def fn1 : List He.DefD := [dd ("Shop", some "open_beat") "open_beat" "Shop.open_beat" (inClass (top 30) 2), dd ("Shop", some "end_steps") "end_steps" "Shop.end_steps" (inClass (top 30) 3), dd ("Shop", some "put_in") "put_in" "Shop.put_in" (inClass (top 30) 4), dd ("Shop", some "begin") "begin" "Shop.begin" (inClass (top 30) 5), dd ("Shop", some "close_beat") "close_beat" "Shop.close_beat" (inClass (top 30) 6), dd ("Shop", some "waiting") "waiting" "Shop.waiting" (inClass (top 30) 7), dd ("Run", some "__init__") "__init__" "Run.__init__" (inClass (top 31) 0), dd ("Run", some "do_beat") "do_beat" "Run.do_beat" (inClass (top 31) 1), dd ("Run", some "begin_steps") "begin_steps" "Run.begin_steps" (inClass (top 31) 2), dd ("Run", some "is_still") "is_still" "Run.is_still" (inClass (top 31) 3), dd ("Breath", some "__init__") "__init__" "Breath.__init__" (inClass (top 33) 0), dd ("Breath", some "enter") "enter" "Breath.enter" (inClass (top 33) 1), dd ("Breath", some "tick") "tick" "Breath.tick" (inClass (top 33) 2), dd ("Breath", some "pause") "pause" "Breath.pause" (inClass (top 33) 3), dd ("Breath", some "go") "go" "Breath.go" (inClass (top 33) 4), dd ("Breath", some "machine_that") "machine_that" "Breath.machine_that" (inClass (top 33) 5), dd ("Breath", some "lend") "lend" "Breath.lend" (inClass (top 33) 6), dd ("Breath", some "back") "back" "Breath.back" (inClass (top 33) 7), dd ("Breath", some "merge") "merge" "Breath.merge" (inClass (top 33) 8), dd ("Breath", some "standing") "standing" "Breath.standing" (inClass (top 33) 9)]
def fn2 : List He.DefD := [dd ("Breath", some "stock") "stock" "Breath.stock" (inClass (top 33) 10), dd ("Breath", some "deeds") "deeds" "Breath.deeds" (inClass (top 33) 11), dd ("again", none) "again" "again" (top 34), dd ("do_deed", none) "do_deed" "do_deed" (top 35), dd ("_law_mix", none) "_law_mix" "_law_mix" (top 37), dd ("_law_next", none) "_law_next" "_law_next" (top 38), dd ("_law_alike", none) "_law_alike" "_law_alike" (top 39), dd ("_law_world", none) "_law_world" "_law_world" (top 40), dd ("_law_rule", none) "_law_rule" "_law_rule" (top 41), dd ("_law_is_merged", none) "_law_is_merged" "_law_is_merged" (top 42), dd ("law", none) "law" "law" (top 43), dd ("Run", some "enter") "enter" "Shop.enter" (inClass (top 30) 1), dd ("Run", some "open_beat") "open_beat" "Shop.open_beat" (inClass (top 30) 2), dd ("Run", some "end_steps") "end_steps" "Shop.end_steps" (inClass (top 30) 3), dd ("Run", some "put_in") "put_in" "Shop.put_in" (inClass (top 30) 4), dd ("Run", some "begin") "begin" "Shop.begin" (inClass (top 30) 5), dd ("Run", some "close_beat") "close_beat" "Shop.close_beat" (inClass (top 30) 6), dd ("Run", some "waiting") "waiting" "Shop.waiting" (inClass (top 30) 7)]
def fn : List He.DefD := fn0 ++ fn1 ++ fn2
def fa0 : List He.Fa := [.glo "_wall", .glo "in_turn", .glo "least_first", .glo "behind_first", .glo "check_store", .glo "check_steps", .glo "is_step", .glo "check_rule", .glo "check_count", .glo "again", .glo "do_deed", .glo "_law_mix", .glo "_law_next", .glo "_law_alike", .glo "_law_world", .glo "_law_rule", .glo "_law_is_merged", .glo "law", .glo "Machine", .glo "Shop", .glo "Run", .glo "Breath", .glo "RIGHTS", .glo "BreathError", .free "len", .free "list", .free "tuple", .free "max", .free "min", .free "range"]
def fa1 : List He.Fa := [.free "sum", .free "sorted", .free "enumerate", .free "zip", .free "isinstance", .free "int", .free "str", .free "bool", .free "ValueError", .free "any", .free "divmod", .free "all", .free "set", .int "MOST_CAP" 99, .int "MOST_REFILL" 9, .int "MOST_MACHINES" 5, .int "MOST_STEPS" 6, .int "MOST_LONG" 9, .int "DRAW" 0, .int "LONG" 1, .int "BACK" 2, .cls "Machine", .cls "Shop", .cls "Run", .cls "Breath", .mkr "Machine", .mkr "Shop", .mkr "Run", .mkr "Breath", .meth "Machine" "is_done"]
def fa2 : List He.Fa := [.meth "Machine" "is_busy", .meth "Machine" "is_waiting", .meth "Machine" "need", .meth "Machine" "left", .meth "Machine" "begin_step", .meth "Machine" "end_step", .meth "Machine" "begin_anew", .meth "Shop" "enter", .meth "Shop" "open_beat", .meth "Shop" "end_steps", .meth "Shop" "put_in", .meth "Shop" "begin", .meth "Shop" "close_beat", .meth "Shop" "waiting", .meth "Run" "do_beat", .meth "Run" "begin_steps", .meth "Run" "is_still", .meth "Breath" "enter", .meth "Breath" "tick", .meth "Breath" "pause", .meth "Breath" "go", .meth "Breath" "machine_that", .meth "Breath" "lend", .meth "Breath" "back", .meth "Breath" "merge", .meth "Breath" "standing", .meth "Breath" "stock", .meth "Breath" "deeds", .meth "Run" "enter", .meth "Run" "open_beat"]
def fa3 : List He.Fa := [.meth "Run" "end_steps", .meth "Run" "put_in", .meth "Run" "begin", .meth "Run" "close_beat", .meth "Run" "waiting"]
def fa : List He.Fa := fa0 ++ fa1 ++ fa2 ++ fa3
def exB (K : PySem.W.Frag) : Bool := He.tupB K "RIGHTS" [.str "rank", .str "turns", .str "wait", .str "least"] && ((mkeys.all fun f => (He.Fa.noat "Machine" f).ok K) && ((rkeys.all fun f => (He.Fa.noat "Run" f).ok K) && (clsFnB K (He.ga K "Shop") "__init__" (He.ma K (He.ga K "Shop") "__init__") && ((bkeys.all fun f => (He.Fa.noat "Breath" f).ok K)))))
def asC (g : Addr → Option Obj) (n : Nat) : List Addr := He.asD g n ++ [cStatics]
def hookY (n : Nat) (fa : List He.Fa) (fn : List He.DefD) (ex : PySem.W.Frag → Bool) : PySem.W.Hook where
  α := He.AlD × Bool
  obs := fun s => (He.obsD fa fn (He.frG s.heap.get? (asC s.heap.get? n)), ex (He.frG s.heap.get? (asC s.heap.get? n)))
  val := fun _ => (He.valD fn, true)
  says := fun _ h => ∃ K : PySem.W.Frag, K.In h ∧ He.SaysD fa fn K ∧ ex K = true
  of := fun _ _ e => ⟨_, He.frG_in, congrArg (fun z : He.AlD × Bool => z.1) e, congrArg (fun z : He.AlD × Bool => z.2) e⟩
  keeps := fun _ _ _ ⟨K, hK, c⟩ k => ⟨K, PySem.W.Frag.In.keeps hK k, c⟩
abbrev RR : PySem.W.OpenRow := PySem.W.OpenLaw.row PySem.Challenge.rw_onebreath_k20_whole_loans_pauses_and_mer
abbrev hk : PySem.W.Hook := hookY 5 fa fn exB
def ob (s : PySem.W.SharedT) : He.AlD × Bool := (He.obsD fa fn (He.frG (HandSHeadRun.getT s) (asC (HandSHeadRun.getT s) 5)), exB (He.frG (HandSHeadRun.getT s) (asC (HandSHeadRun.getT s) 5)))
theorem ob_eq (s : PySem.W.SharedT) : ob s = hk.obs s.abs := by
  have e : HandSHeadRun.getT s = s.abs.heap.get? := funext (HandSHeadRun.getT_eq s)
  unfold ob
  rw [e] <;> rfl
def loose0 : List Str := ["_wall", "BreathError", "BadStore", "BadStep", "BadRule", "BadCount", "NoMachine", "BadDeed", "RIGHTS", "in_turn", "least_first", "behind_first", "MOST_CAP", "MOST_REFILL", "MOST_MACHINES", "MOST_STEPS", "MOST_LONG", "check_store", "check_steps", "is_step"]
def loose1 : List Str := ["check_rule", "check_count", "DRAW", "LONG", "BACK", "Machine", "Shop", "Run", "Breath", "again", "do_deed", "_law_mix", "_law_next", "_law_alike", "_law_world", "_law_rule", "_law_is_merged"]
def loose : List Str := loose0 ++ loose1
theorem run (w : World) : HandSHeadRun.RunEq RR (PySem.W.view RR.prog [43]) hk ob 6000 loose w := by
  intro os
  kernel_rfl
end Obr
namespace Obr
open PySem L2 PyProof.Rows
local macro_rules | `(tactic| walk_at "ob_at") => `(tactic| first
  | assumption
  | exact upd_same
  | (refine Eq.trans (upd_ne ?obn) ?obr; (case obn => walk_at "ob_ne"); (case obr => walk_at "ob_at")))
local macro_rules | `(tactic| walk_at "ob_ne") => `(tactic| first
  | assumption
  | (refine Ne.symm ?obs; (case obs => assumption))
  | (refine' ne_of_none (H := ?_) ?obe ?obh; (case obh => assumption); (case obe => walk_at "ob_at"))
  | (refine Ne.symm ?obs; (case obs => (refine' ne_of_none (H := ?_) ?obe ?obh; (case obh => assumption); (case obe => walk_at "ob_at")))))
local macro_rules | `(tactic| walk_at "ob_fr") => `(tactic| first
  | assumption
  | (refine Eq.trans (upd_ne ?obn) ?obr; (case obn => walk_at "ob_ne"); (case obr => walk_at "ob_fr"))
  | (refine Ex.free (G := ?_) (by assumption) ?obh; (case obh => walk_at "ob_fr")))
local macro_rules | `(tactic| walk_at "ob_ex") => `(tactic| first
  | assumption
  | exact Ex.refl _
  | (refine Ex.out ?obg ?obh; (case obh => assumption); (case obg => walk_at "ob_ex"))
  | (refine Ex.new ?obg ?obh; (case obh => assumption); (case obg => walk_at "ob_ex"))
  | (refine Ex.new ?obg ?obh; (case obh => walk_at "ob_fr"); (case obg => walk_at "ob_ex")))
local macro_rules | `(tactic| walk_at "ob_sq") => `(tactic| first
  | assumption
  | (refine SqL.of ?oba; (case oba => walk_at "ob_at"))
  | (refine Ex.sqT (F := ?_) ?obg ?obh; (case obh => assumption); (case obg => walk_at "ob_ex"))
  | (refine Ex.sqL (F := ?_) ?obg ?obh; (case obh => assumption); (case obg => walk_at "ob_ex"))
  | (refine SqT.of ?oba; (case oba => walk_at "ob_at")))
local macro_rules | `(tactic| walk_at "ob_side") => `(tactic| first | exact rfl | assumption | decide | omega | exact ⟨by decide, by decide, by decide⟩ | exact Or.inr ⟨by decide, by decide⟩ | exact Or.inl ⟨by decide, by decide⟩ | exact wide_div (b := 60) (by first | decide | omega) (by first | decide | omega) (by decide) (by decide))
local macro_rules | `(tactic| walk_at "ob1") => `(tactic| first
  | with_reducible refine sw_seq ?_
  | with_reducible refine sw_asg ?_
  | with_reducible refine sw_ret ?_
  | with_reducible refine sw_par ?_
  | with_reducible refine ⟨_, _, rfl, ?_⟩
  | with_reducible refine sw_drop ?_
  | with_reducible refine sw_if ?_
  | with_reducible refine sw_next ?_
  | with_reducible refine gw_name ?_
  | with_reducible refine gw_subL (by assumption) ?_
  | with_reducible refine gsw_cons ?_
  | with_reducible refine gsw_nil ?_
  | with_reducible refine ew_c ?_
  | ((with_reducible refine' ew_var (v := ?_) ?obv ?_); (case obv => exact rfl))
  | ((with_reducible refine ew_next (by assumption) ?obv ?_); (case obv => exact rfl))
  | ((with_reducible refine ew_world (by assumption) ?obv ?_); (case obv => exact rfl))
  | ((with_reducible refine ew_rule (by assumption) ?obv ?_); (case obv => exact rfl))
  | with_reducible refine ew_op ?_
  | with_reducible refine ew_un ?_
  | with_reducible refine ew_dget (by assumption) ?_
  | with_reducible refine uw_I ?_
  | with_reducible refine ppw_nil ?_
  | with_reducible refine ppw_cons ?_
  | with_reducible refine sw_dput (by assumption) ?_
  | with_reducible refine ew_cb ?_
  | with_reducible refine ew_if ?_
  | with_reducible refine ew_slL (by assumption) ?_
  | with_reducible refine ow_some ?_
  | with_reducible refine ow_none ?_
  | with_reducible refine aw_nil ?_
  | with_reducible refine aw_cons ?_
  | with_reducible refine rw_I0 ?_
  | ((with_reducible refine rw_I ?obc ?_); (case obc => walk_at "ob_side"))
  | with_reducible refine rw_isN ?_
  | with_reducible refine rw_notN ?_
  | ((with_reducible refine rw_eq ?obc ?_); (case obc => exact rfl))
  | ((with_reducible refine rw_ne ?obc ?_); (case obc => exact rfl))
  | with_reducible refine cw_max2 ?_
  | with_reducible refine cw_min2 ?_
  | with_reducible refine tw_test ?_
  | with_reducible refine tw_B ?_
  | with_reducible refine tw_not ?_
  | with_reducible refine tw_truB ?_
  | with_reducible refine tw_and ?_
  | with_reducible refine tw_or ?_
  | with_reducible refine ew_and ?_
  | (refine' Exists.intro _ (And.intro (show V.bl _ = V.bl _ from rfl) ?_))
  | (refine' Exists.intro _ (And.intro (show V.int _ = V.int _ from rfl) ?_))
  | ((with_reducible refine' rw_ixL (v := ?_) (xs := ?_) (by assumption) ?obl ?oba ?_); (case obl => walk_at "ob_sq"); (case oba => first | exact rfl | exact at_zero))
  | ((with_reducible refine' rw_ixT (v := ?_) (xs := ?_) (by assumption) ?obl ?oba ?_); (case obl => walk_at "ob_sq"); (case oba => first | exact rfl | exact at_zero))
  | ((with_reducible refine' ew_lst (by assumption) ?_))
  | ((with_reducible refine' ew_tup (by assumption) ?_)))
local macro_rules | `(tactic| walk_at "ob_len") => `(tactic| first | exact Nat.le_of_ble_eq_true rfl | (simp; done) | omega)
local macro_rules | `(tactic| walk_at "ob") => `(tactic| repeat walk_at "ob1")

/-! ### Run.is_still, Run.do_beat, Run.__init__ -/
def lStill (w : Wld) (t : LSt) : Bool := !(decide (0 < w.refill) && decide (t.level < w.cap)) && !(t.ms.any fun m => decide (0 ≤ m.over))
def aStill (K : PySem.W.Frag) (C M : Addr) : List V → Hp → VK → Prop := fun vs F R => ∃ (F0 : Hp) (A : RAd) (t : LSt) (w : Wld) (r : Rgt) (p anew : Bool) (ex : List (Addr × HO)), vs = [.ref A.a] ∧ A.C = C ∧ A.M = M ∧ RunAt K F0 F A t w r p anew ex ∧ w.ms.length ≤ 5 ∧
  ∀ (F' : Hp), Ex F F' → R (.bl (lStill w t)) F'
def aDoBeat (K : PySem.W.Frag) (C M : Addr) : List V → Hp → VK → Prop := fun vs F R => ∃ (F0 : Hp) (A : RAd) (t : LSt) (w : Wld) (r : Rgt) (p anew : Bool) (ex : List (Addr × HO)), vs = [.ref A.a] ∧ A.C = C ∧ A.M = M ∧ RunAt K F0 F A t w r p anew ex ∧ LOk w t ∧ w.ms.length ≤ 5 ∧ (∀ ss ∈ w.ms, ∀ st ∈ ss, (0 : Int) ≤ st.long) ∧
  ∀ (q b o : Addr) (F' : Hp) (t' : LSt) (lv : Int) (bg : List Int), LBeat w r p anew t t' lv bg → LOk w t' → RunAt K F0 F' A t' w r p anew ((q, .tup [.ref o, .ref b]) :: (b, .lst (bg.map V.int)) :: (o, .lst ((overs t w.ms.length).map V.int)) :: ex) → R (.ref q) F'
def aRInit (K : PySem.W.Frag) (C M : Addr) : List V → Hp → VK → Prop := fun vs F R => ∃ (Fb : Hp) (a dx : Addr) (wv rv : V) (w : Wld) (r : Rgt) (p anew : Bool), vs = [.ref a, wv, rv, .bl anew] ∧ F = upd Fb a (.ins C dx []) ∧ Fb a = none ∧ Dp K Fb wv (wldD w) ∧ Dp K Fb rv (rulD r p) ∧ w.ms.length ≤ 5 ∧
  ∀ (F' : Hp) (A : RAd), A.a = a → A.C = C → A.M = M → A.hp = false → SEnt false K Fb F' A (lBegun w) w r p anew [] → R .non F'
theorem lDraws_ok {w : Wld} {p : Bool} {t : LSt} : ∀ (ts : List Clm) {x : LSt × List Int × Bool}, LOk w x.1 → SameAt t x.1 → (∀ c ∈ ts, ∀ m ss, t.ms[c.k.toNat]? = some m → w.ms[c.k.toNat]? = some ss → m.at_ < ss.length) → LOk w (ts.foldl (lDraw w p) x).1
  | [], _, h, _, _ => h
  | c :: cs, x, h, hs, hc => by
    have h1 : LOk w (lDraw w p x c).1 := lDraw_ok h fun m ss hm hss => by
      have e := hs.2 c.k.toNat
      rw [hm] at e
      cases hm2 : t.ms[c.k.toNat]? with
      | none => rw [hm2] at e; cases e
      | some m2 =>
        rw [hm2] at e
        have e2 : m.at_ = m2.at_ := Option.some.inj e
        rw [e2]
        exact hc c List.mem_cons_self m2 ss hm2 hss
    have h2 : SameAt t (lDraw w p x c).1 := by
      unfold lDraw
      split
      · rename_i m ss hm hss
        split
        · split
          · rename_i st _; exact hs.set (m' := { m with over := x.1.beat + st.long }) hm rfl rfl rfl
          · exact hs
        · exact hs.set (m' := { m with waits := m.waits + 1 }) hm rfl rfl rfl
      · exact hs
    exact lDraws_ok (w := w) (p := p) cs (x := lDraw w p x c) h1 h2 fun d hd => hc d (List.mem_cons_of_mem _ hd)
theorem beat_ok {w : Wld} {r : Rgt} {p anew : Bool} {t t' : LSt} {lv : Int} {bg : List Int} (h : LOk w t) (b : LBeat w r p anew t t' lv bg) : LOk w t' := by
  obtain ⟨ts, hts, e1, e2, _⟩ := b.ex
  have h0 := lFill_ok (lEnds_ok (anew := anew) h w.ms.length)
  have h1 : LOk w (lDraws w p ts (lFill w (lEnds w anew t w.ms.length))).1 := lDraws_ok (t := lFill w (lEnds w anew t w.ms.length)) ts h0 ⟨rfl, fun _ => rfl⟩ fun c hc m ss hm hss => by
    obtain ⟨j, hj, hcj⟩ := lClaims_mem (hts.perm.mem_iff.mp hc)
    obtain ⟨m2, ss2, st, h2, h3, _, h5, _, ec⟩ := lClaim_mem hcj
    have ek : c.k.toNat = j := by rw [ec]; exact Int.toNat_natCast j
    rw [ek] at hm hss
    rw [h2] at hm
    rw [h3] at hss
    cases hm
    cases hss
    exact h5
  subst e2
  exact h1.same rfl (by show 0 ≤ _ + 1; have := h1.b; omega)
section
variable {P : Program} {w : World} {K : PySem.W.Frag} {mg : Str → Option Value} {base : Heap} {C M : Addr}

abbrev s_Run__dot__do_beat : Stmt := inClass (top 31) 1
def N_Run_do_beat : List Str := ["self", "over", "begun"]
theorem sc_Run_do_beat : FnScope N_Run_do_beat ["self"] (defScope s_Run__dot__do_beat) := ⟨rfl, rfl, rfl, by decide +kernel, rfl, by decide +kernel, by decide +kernel⟩
theorem ok_Run_do_beat {f : Addr} {fd : FuncData} {f1 f2 f3 : Addr} {fd1 fd2 fd3 : FuncData} (Fn : Fun K "do_beat" "Run.do_beat" s_Run__dot__do_beat f fd) (B : Blt mg) (HR : ClsF K C rkeys) (HM : ClsF K M mkeys) (M_open_beat : Met K C "open_beat" f1 fd1 ["self"]) (G_open_beat : FnOk P w K mg base CX0 3 f1 fd1 ["self"] (LS (aOpenB false K C M))) (M_begin_steps : Met K C "begin_steps" f3 fd3 ["self"]) (G_begin_steps : FnOk P w K mg base CX0 4 f3 fd3 ["self"] (LS (aBeginSteps K C M))) (M_close_beat : Met K C "close_beat" f2 fd2 ["self"]) (G_close_beat : FnOk P w K mg base CX0 1 f2 fd2 ["self"] (LS (aCloseB false K C M))) : FnOk P w K mg base CX0 5 f fd ["self"] (LS (aDoBeat K C M)) := by
  refine Fn.ok sc_Run_do_beat (fun vs H Q E h => ?_) (fun cdv A outer s H vs Q E hr h => ?_)
  · obtain ⟨J, F, R, hd, j, h, _⟩ := h
    obtain ⟨F0, A, t, w, r, p, anew, ex, rfl, _⟩ := h
    rfl
  · have nd := sc_Run_do_beat.nd
    obtain ⟨J, F, R, hd, j, h, q⟩ := h
    obtain ⟨F0, A, t, w, r, p, anew, ex, rfl, rfl, rfl, hG, hok, hm5, hlong, k⟩ := h
    refine ⟨_, (pss_cons (ps_set (i := 1) nd rfl (Or.inl rfl) (pe_meth0 (pv 0) M_open_beat.cl M_open_beat.m G_open_beat (by exact hr.mono (by decide)) M_open_beat.a .nil pass0))
      (pss_cons (ps_set (i := 2) nd rfl (Or.inl rfl) (pe_meth0 (pv 0) M_begin_steps.cl M_begin_steps.m G_begin_steps (by exact hr.mono (by decide)) M_begin_steps.a .nil pass0))
      (pss_cons (ps_expr (pe_meth0 (pv 0) M_close_beat.cl M_close_beat.m G_close_beat (by exact hr.mono (by decide)) M_close_beat.a .nil pass0))
      (pss_one (ps_ret (pe_tup (pa_cons (pv 1) (pa_cons (pv 2) pa_nil)))))))), ?_⟩
    refine LS.body j q ?_
    refine sw_seq (sw_asg (ew_meth hd ?_))
    walk_at "ob"
    refine ⟨A.a, A.dx, _, rfl, hG.cell, rfs_no (by decide +kernel), aw_nil ⟨F0, A, t, w, r, p, anew, ex, rfl, rfl, rfl, hG, hok, hm5, fun q1 F1 hX => gw_name ?_⟩⟩
    have hok2 := lFill_ok (lEnds_ok (anew := anew) hok w.ms.length)
    refine sw_seq (sw_asg (ew_meth hd ?_))
    walk_at "ob"
    refine ⟨A.a, A.dx, _, rfl, hX.cell, rfs_no (by decide +kernel), aw_nil ⟨F0, A, _, w, r, p, anew, _, rfl, rfl, rfl, hX, hok2, hm5, hlong, fun b F3 ts hts hX3 => gw_name ?_⟩⟩
    refine sw_seq (sw_drop (ew_meth hd ?_))
    walk_at "ob"
    refine ⟨A.a, A.dx, _, rfl, hX3.cell, rfs_no (by decide +kernel), aw_nil ⟨F0, A, _, w, r, p, anew, _, rfl, rfl, rfl, hX3, fun F4 hX4 => ?_⟩⟩
    refine sw_ret (ew_tup hd ?_)
    walk_at "ob"
    refine ⟨by walk_at "ob_len", fun q hq => ?_⟩
    have bt : LBeat w r p anew t (lLast (lDraws w p ts (lFill w (lEnds w anew t w.ms.length))).1 (lDraws w p ts (lFill w (lEnds w anew t w.ms.length))).2.1) (lLast (lDraws w p ts (lFill w (lEnds w anew t w.ms.length))).1 (lDraws w p ts (lFill w (lEnds w anew t w.ms.length))).2.1).level (lDraws w p ts (lFill w (lEnds w anew t w.ms.length))).2.1 := ⟨ts, hts, rfl, rfl, rfl⟩
    exact k q b q1 _ _ _ _ bt (beat_ok hok bt) (hX4.more hq)

abbrev s_Run__dot____init__ : Stmt := inClass (top 31) 0
def N_Run___init__ : List Str := ["self", "world", "rule", "anew"]
theorem sc_Run___init__ : FnScope N_Run___init__ ["self", "world", "rule", "anew"] (defScope s_Run__dot____init__) := ⟨rfl, rfl, rfl, by decide +kernel, rfl, by decide +kernel, by decide +kernel⟩
theorem ok_Run___init__ {f : Addr} {fd : FuncData} {f1 : Addr} {fd1 : FuncData} (Fn : Fun K "__init__" "Run.__init__" s_Run__dot____init__ f fd) (B : Blt mg) (HR : ClsF K C rkeys) (HM : ClsF K M mkeys) {SC : Addr} (gShop : mg "Shop" = some (.ref SC)) (CF_Shop___init__ : ClsFn K SC "__init__" f1 fd1 ["self", "world", "anew"]) (G_Shop___init__ : FnOk P w K mg base CX0 4 f1 fd1 ["self", "world", "anew"] (LS (aSInit K C M))) : FnOk P w K mg base CX0 5 f fd ["self", "world", "rule", "anew"] (LS (aRInit K C M)) := by
  refine Fn.ok sc_Run___init__ (fun vs H Q E h => ?_) (fun cdv A outer s H vs Q E hr h => ?_)
  · obtain ⟨J, F, R, hd, j, h, _⟩ := h
    obtain ⟨Fb, a, dx, wv, rv, w, r, p, anew, rfl, _⟩ := h
    rfl
  · have nd := sc_Run___init__.nd
    obtain ⟨J, F, R, hd, j, h, q⟩ := h
    obtain ⟨Fb, a, dx, wv, rv, w, r, p, anew, rfl, rfl, hFa, dw, dr, hm5, k⟩ := h
    refine ⟨_, (pss_cons (ps_expr (pe_cfun (pe_glob (v := .ref SC) rfl gShop rfl) CF_Shop___init__ G_Shop___init__ (by exact hr.mono (by decide)) pass0 (pa_cons (pv 0) (pa_cons (pv 1) (pa_cons (pv 3) pa_nil)))))
      (pss_cons (ps_asg (pv 2) (pg_tup rfl (pgs_cons (pg_fld (pv 0)) (pgs_cons (pg_fld (pv 0)) pgs_nil))))
      (pss_one (ps_fld (pv 0) pe_non rfl)))), ?_⟩
    refine LS.body j q ?_
    obtain ⟨ra, us, rfl, lu, dus⟩ := dp_tup dr
    obtain ⟨u1, u2, rfl, e1, e2⟩ := dps2 dus
    cases dp_str e1
    cases dp_bl e2
    refine sw_seq (sw_drop (ew_cfun hd (ew_c ⟨rfl, ?_⟩)))
    refine aw_cons (ew_var rfl (aw_cons (ew_var rfl (aw_cons (ew_var rfl (aw_nil ?_))))))
    refine ⟨Fb, a, dx, wv, w, r, p, anew, rfl, rfl, hFa, dw, hm5, fun F' A ea eC eM eP hX => ?_⟩
    subst ea eC
    have hra : SqT K F' ra [.str (rgtS r), .bl p] := hX.own.ex.sqT lu
    refine sw_seq (sw_asg ?_)
    walk_at "ob"
    refine gw_tup hd ⟨ra, _, rfl, hra, rfl, ?_⟩
    have o0 := hX.own
    refine gsw_cons (gw_fld hd ?_)
    walk_at "ob"
    refine ⟨A.a, A.C, A.dx, _, rfl, o0.get (i := 0) rfl, HR.cl, HR.no _ (by decide +kernel), rfs_lt, ?_⟩
    rw [putF_out (show _ ∉ rkeys.take 6 from by decide +kernel)]
    have o1 := o0.set (i := 0) (a := A.a) (o' := .ins A.C A.dx ((rfsS true A (lBegun w) w r p anew) ++ ([("right", V.str (rgtS r))] : List (Str × V)))) rfl
    refine gsw_cons (gw_fld hd ?_)
    walk_at "ob"
    refine ⟨A.a, A.C, A.dx, _, rfl, o1.get (i := 0) rfl, HR.cl, HR.no _ (by decide +kernel), Nat.lt_of_le_of_lt (Nat.le_of_ble_eq_true (m := 9) rfl) (by decide), ?_⟩
    rw [putF_out (show _ ∉ rkeys.take 7 from by decide +kernel)]
    have o2 := o1.set (i := 0) (a := A.a) (o' := .ins A.C A.dx ((rfsS true A (lBegun w) w r p anew) ++ ([("right", V.str (rgtS r))] : List (Str × V)) ++ ([("passing", V.bl p)] : List (Str × V)))) rfl
    refine gsw_nil ?_
    refine sw_fld hd ?_
    walk_at "ob"
    refine ⟨A.a, A.C, A.dx, _, rfl, o2.get (i := 0) rfl, HR.cl, HR.no _ (by decide +kernel), Nat.lt_of_le_of_lt (Nat.le_of_ble_eq_true (m := 9) rfl) (by decide), ?_⟩
    rw [putF_out (show _ ∉ rkeys.take 8 from by decide +kernel)]
    have o3 := o2.set (i := 0) (a := A.a) (o' := .ins A.C A.dx ((rfsS true A (lBegun w) w r p anew) ++ ([("right", V.str (rgtS r))] : List (Str × V)) ++ ([("passing", V.bl p)] : List (Str × V)) ++ ([("last", V.non)] : List (Str × V)))) rfl
    exact k _ A rfl rfl eM eP ⟨o3, hX.st, hX.len1, hX.len2, hX.pz, hX.np, hX.na⟩
end
end Obr
namespace Obr
open PySem L2 PyProof.Rows
local macro_rules | `(tactic| walk_at "ob_at") => `(tactic| first
  | assumption
  | exact upd_same
  | (refine Eq.trans (upd_ne ?obn) ?obr; (case obn => walk_at "ob_ne"); (case obr => walk_at "ob_at")))
local macro_rules | `(tactic| walk_at "ob_ne") => `(tactic| first
  | assumption
  | (refine Ne.symm ?obs; (case obs => assumption))
  | (refine' ne_of_none (H := ?_) ?obe ?obh; (case obh => assumption); (case obe => walk_at "ob_at"))
  | (refine Ne.symm ?obs; (case obs => (refine' ne_of_none (H := ?_) ?obe ?obh; (case obh => assumption); (case obe => walk_at "ob_at")))))
local macro_rules | `(tactic| walk_at "ob_fr") => `(tactic| first
  | assumption
  | (refine Eq.trans (upd_ne ?obn) ?obr; (case obn => walk_at "ob_ne"); (case obr => walk_at "ob_fr"))
  | (refine Ex.free (G := ?_) (by assumption) ?obh; (case obh => walk_at "ob_fr")))
local macro_rules | `(tactic| walk_at "ob_ex") => `(tactic| first
  | assumption
  | exact Ex.refl _
  | (refine Ex.out ?obg ?obh; (case obh => assumption); (case obg => walk_at "ob_ex"))
  | (refine Ex.new ?obg ?obh; (case obh => assumption); (case obg => walk_at "ob_ex"))
  | (refine Ex.new ?obg ?obh; (case obh => walk_at "ob_fr"); (case obg => walk_at "ob_ex")))
local macro_rules | `(tactic| walk_at "ob_sq") => `(tactic| first
  | assumption
  | (refine SqL.of ?oba; (case oba => walk_at "ob_at"))
  | (refine Ex.sqT (F := ?_) ?obg ?obh; (case obh => assumption); (case obg => walk_at "ob_ex"))
  | (refine Ex.sqL (F := ?_) ?obg ?obh; (case obh => assumption); (case obg => walk_at "ob_ex"))
  | (refine SqT.of ?oba; (case oba => walk_at "ob_at")))
local macro_rules | `(tactic| walk_at "ob_side") => `(tactic| first | exact rfl | assumption | decide | omega | exact ⟨by decide, by decide, by decide⟩ | exact Or.inr ⟨by decide, by decide⟩ | exact Or.inl ⟨by decide, by decide⟩ | exact wide_div (b := 60) (by first | decide | omega) (by first | decide | omega) (by decide) (by decide))
local macro_rules | `(tactic| walk_at "ob1") => `(tactic| first
  | with_reducible refine sw_seq ?_
  | with_reducible refine sw_asg ?_
  | with_reducible refine sw_ret ?_
  | with_reducible refine sw_par ?_
  | with_reducible refine ⟨_, _, rfl, ?_⟩
  | with_reducible refine sw_drop ?_
  | with_reducible refine sw_if ?_
  | with_reducible refine sw_next ?_
  | with_reducible refine gw_name ?_
  | with_reducible refine gw_subL (by assumption) ?_
  | with_reducible refine gsw_cons ?_
  | with_reducible refine gsw_nil ?_
  | with_reducible refine ew_c ?_
  | ((with_reducible refine' ew_var (v := ?_) ?obv ?_); (case obv => exact rfl))
  | ((with_reducible refine ew_next (by assumption) ?obv ?_); (case obv => exact rfl))
  | ((with_reducible refine ew_world (by assumption) ?obv ?_); (case obv => exact rfl))
  | ((with_reducible refine ew_rule (by assumption) ?obv ?_); (case obv => exact rfl))
  | with_reducible refine ew_op ?_
  | with_reducible refine ew_un ?_
  | with_reducible refine ew_dget (by assumption) ?_
  | with_reducible refine uw_I ?_
  | with_reducible refine ppw_nil ?_
  | with_reducible refine ppw_cons ?_
  | with_reducible refine sw_dput (by assumption) ?_
  | with_reducible refine ew_cb ?_
  | with_reducible refine ew_if ?_
  | with_reducible refine ew_slL (by assumption) ?_
  | with_reducible refine ow_some ?_
  | with_reducible refine ow_none ?_
  | with_reducible refine aw_nil ?_
  | with_reducible refine aw_cons ?_
  | with_reducible refine rw_I0 ?_
  | ((with_reducible refine rw_I ?obc ?_); (case obc => walk_at "ob_side"))
  | with_reducible refine rw_isN ?_
  | with_reducible refine rw_notN ?_
  | ((with_reducible refine rw_eq ?obc ?_); (case obc => exact rfl))
  | ((with_reducible refine rw_ne ?obc ?_); (case obc => exact rfl))
  | with_reducible refine cw_max2 ?_
  | with_reducible refine cw_min2 ?_
  | with_reducible refine tw_test ?_
  | with_reducible refine tw_B ?_
  | with_reducible refine tw_not ?_
  | with_reducible refine tw_truB ?_
  | with_reducible refine tw_and ?_
  | with_reducible refine tw_or ?_
  | with_reducible refine ew_and ?_
  | (refine' Exists.intro _ (And.intro (show V.bl _ = V.bl _ from rfl) ?_))
  | (refine' Exists.intro _ (And.intro (show V.int _ = V.int _ from rfl) ?_))
  | ((with_reducible refine' rw_ixL (v := ?_) (xs := ?_) (by assumption) ?obl ?oba ?_); (case obl => walk_at "ob_sq"); (case oba => first | exact rfl | exact at_zero))
  | ((with_reducible refine' rw_ixT (v := ?_) (xs := ?_) (by assumption) ?obl ?oba ?_); (case obl => walk_at "ob_sq"); (case oba => first | exact rfl | exact at_zero))
  | ((with_reducible refine' ew_lst (by assumption) ?_))
  | ((with_reducible refine' ew_tup (by assumption) ?_)))
local macro_rules | `(tactic| walk_at "ob_len") => `(tactic| first | exact Nat.le_of_ble_eq_true rfl | (simp; done) | omega)
local macro_rules | `(tactic| walk_at "ob") => `(tactic| repeat walk_at "ob1")

/-! ### the checks -/
section
variable {S : Type} {J : S → Hp → Hp → Prop} {σ : L2.St} {s : S} {F : Hp} {ta tb tc : TE} {R : V → S → Hp → Prop}
theorem ew_between (h : EW J ta σ s F fun x s1 F1 => ∃ i, x = .int i ∧ EW J tb σ s1 F1 fun y s2 F2 => ∃ k, y = .int k ∧ i ≤ k ∧ EW J tc σ s2 F2 fun z s3 F3 => ∃ l, z = .int l ∧ k ≤ l ∧ R (.bl true) s3 F3) :
    EW J (tChain (rI0 fun i j => .bl (decide (i ≤ j))) (rI0 fun i j => .bl (decide (i ≤ j))) ta tb tc) σ s F R :=
  ew_chain (h.imp fun x s1 F1 ⟨i, ex, h1⟩ => by
    subst ex
    exact h1.imp fun y s2 F2 ⟨k, ey, hik, h2⟩ => by
      subst ey
      refine rw_I0 ⟨_, rfl, fun _ => h2.imp fun z s3 F3 ⟨l, ez, hkl, r⟩ => ?_, fun hb => ?_⟩
      · subst ez
        refine rw_I0 ?_
        rw [decide_eq_true hkl]
        exact r
      · rw [decide_eq_true hik] at hb
        cases hb)
end
def aIsStep (K : PySem.W.Frag) : List V → Hp → VK → Prop := fun vs F R => ∃ (v : V) (cap : Int) (st : Stp), vs = [v, .int cap] ∧ Dp K F v (stpD st) ∧ StpOk cap st ∧ R (.bl true) F
def aChkSt (K : PySem.W.Frag) : List V → Hp → VK → Prop := fun vs F R => ∃ (v : V) (w : Wld), vs = [v] ∧ Dp K F v (stoD w) ∧ WldOk w ∧ R .non F
def aChkSs (K : PySem.W.Frag) : List V → Hp → VK → Prop := fun vs F R => ∃ (v : V) (n cap : Int) (ss : List Stp), vs = [.int n, v, .int cap] ∧ Dp K F v (macD ss) ∧ ss.length ≤ 6 ∧ (∀ st ∈ ss, StpOk cap st) ∧ ∀ F', Ex F F' → R .non F'
def aChkW (K : PySem.W.Frag) : List V → Hp → VK → Prop := fun vs F R => ∃ (v : V) (w : Wld), vs = [v] ∧ Dp K F v (wldD w) ∧ WldOk w ∧ ∀ F', Ex F F' → R .non F'
def aChkR (K : PySem.W.Frag) : List V → Hp → VK → Prop := fun vs F R => ∃ (v : V) (r : Rgt) (p : Bool), vs = [v] ∧ Dp K F v (rulD r p) ∧ R .non F
def aCount : List V → Hp → VK → Prop := fun vs F R => ∃ a b c : Int, vs = [.int a, .int b, .int c] ∧ b ≤ a ∧ a ≤ c ∧ R .non F
theorem six_all {n k : Nat} (h : n ≤ k) : HT.sIx n 0 none = 0 ∧ HT.sIx n n (some (k : Int)) = n := ⟨HT.sIx_none _ _, by rw [HT.sIx_nat]; exact Nat.min_eq_right h⟩
section
variable {P : Program} {w : World} {K : PySem.W.Frag} {mg : Str → Option Value} {base : Heap} {C M : Addr}

abbrev s_is_step : Stmt := top 22
def N_is_step : List Str := ["step", "cap", "draw", "long", "back"]
theorem sc_is_step : FnScope N_is_step ["step", "cap"] (defScope s_is_step) := ⟨rfl, rfl, rfl, by decide +kernel, rfl, by decide +kernel, by decide +kernel⟩
theorem ok_is_step {f : Addr} {fd : FuncData}  (Fn : Fun K "is_step" "is_step" s_is_step f fd) (B : Blt mg) {tMOST_LONG : Tok} (gMOST_LONG : mg "MOST_LONG" = some (.int 9 tMOST_LONG)) : FnOk P w K mg base CX0 1 f fd ["step", "cap"] (LS (aIsStep K)) := by
  refine Fn.ok sc_is_step (fun vs H Q E h => ?_) (fun cdv A outer s H vs Q E hr h => ?_)
  · obtain ⟨J, F, R, hd, j, h, _⟩ := h
    obtain ⟨v, cap, st, rfl, _⟩ := h
    rfl
  · have nd := sc_is_step.nd
    obtain ⟨J, F, R, hd, j, h, q⟩ := h
    obtain ⟨v, cap, st, rfl, dv, hs, k⟩ := h
    refine ⟨_, (pss_cons (ps_if (pt_cmpR op_ne (pe_callB call_len_seq (by rfl) B.len (by decide +kernel) (pa_cons (pv 0) pa_nil)) pe_int (nomark _)) (pss_one (ps_ret pe_bl)) pss_nil)
      (pss_cons (ps_asg (pv 0) (pg_tup rfl (pgs_cons (pg_name (i := 2) nd rfl (Or.inl rfl)) (pgs_cons (pg_name (i := 3) nd rfl (Or.inl rfl)) (pgs_cons (pg_name (i := 4) nd rfl (Or.inl rfl)) pgs_nil)))))
      (pss_one (ps_ret (pe_and (pe_chain op_le op_le pe_int (pv 2) (pv 1)) (pe_and (pe_chain op_le op_le pe_int (pv 3) (pe_glob (v := .int 9) rfl gMOST_LONG ⟨_, rfl⟩)) (pe_one (pe_chain op_le op_le pe_int (pv 4) (pv 2))))))))), ?_⟩
    refine LS.body j q ?_
    obtain ⟨sa, ys, rfl, ly, dys⟩ := dp_tup dv
    obtain ⟨v1, v2, v3, rfl, d1, d2, d3⟩ := dps3 dys
    cases dp_int d1
    cases dp_int d2
    cases dp_int d3
    refine sw_seq (sw_if (tw_test (ew_op (ew_cb ?_))))
    walk_at "ob"
    refine cw_lenS hd (Or.inr ly) ?_
    walk_at "ob"
    refine ⟨(fun hb => by simp at hb), fun _ => ?_⟩
    walk_at "ob"
    refine gw_tup hd ⟨sa, _, rfl, ly, rfl, gsw_cons (gw_name (gsw_cons (gw_name (gsw_cons (gw_name (gsw_nil ?_))))))⟩
    refine sw_ret (ew_and (ew_between ?_))
    walk_at "ob"
    refine ⟨hs.d0, ?_⟩
    walk_at "ob"
    refine ⟨hs.d1, _, rfl, fun _ => ?_, (fun z => by cases z)⟩
    refine ew_and (ew_between ?_)
    walk_at "ob"
    refine ⟨hs.l0, ?_⟩
    walk_at "ob"
    refine ⟨hs.l1, _, rfl, fun _ => ?_, (fun z => by cases z)⟩
    refine ew_between ?_
    walk_at "ob"
    refine ⟨hs.b0, ?_⟩
    walk_at "ob"
    exact ⟨hs.b1, k⟩

abbrev s_check_store : Stmt := top 20
def N_check_store : List Str := ["store", "cap", "start", "refill"]
theorem sc_check_store : FnScope N_check_store ["store"] (defScope s_check_store) := ⟨rfl, rfl, rfl, by decide +kernel, rfl, by decide +kernel, by decide +kernel⟩
theorem ok_check_store {f : Addr} {fd : FuncData}  (Fn : Fun K "check_store" "check_store" s_check_store f fd) (B : Blt mg) {tMOST_CAP : Tok} (gMOST_CAP : mg "MOST_CAP" = some (.int 99 tMOST_CAP)) {tMOST_REFILL : Tok} (gMOST_REFILL : mg "MOST_REFILL" = some (.int 9 tMOST_REFILL)) : FnOk P w K mg base CX0 1 f fd ["store"] (LS (aChkSt K)) := by
  refine Fn.ok sc_check_store (fun vs H Q E h => ?_) (fun cdv A outer s H vs Q E hr h => ?_)
  · obtain ⟨J, F, R, hd, j, h, _⟩ := h
    obtain ⟨v, w, rfl, _⟩ := h
    rfl
  · have nd := sc_check_store.nd
    obtain ⟨J, F, R, hd, j, h, q⟩ := h
    obtain ⟨v, w, rfl, dv, hw, k⟩ := h
    refine ⟨_, (pss_cons (ps_if (pt_cmpR op_ne (pe_callB call_len_seq (by rfl) B.len (by decide +kernel) (pa_cons (pv 0) pa_nil)) pe_int (nomark _)) (pss_one ps_never) pss_nil)
      (pss_cons (ps_asg (pv 0) (pg_tup rfl (pgs_cons (pg_name (i := 1) nd rfl (Or.inl rfl)) (pgs_cons (pg_name (i := 2) nd rfl (Or.inl rfl)) (pgs_cons (pg_name (i := 3) nd rfl (Or.inl rfl)) pgs_nil)))))
      (pss_cons (ps_if (pt_not (pt_chain op_le op_le pe_int (pv 1) (pe_glob (v := .int 99) rfl gMOST_CAP ⟨_, rfl⟩))) (pss_one ps_never) pss_nil)
      (pss_cons (ps_if (pt_not (pt_chain op_le op_le pe_int (pv 2) (pv 1))) (pss_one ps_never) pss_nil)
      (pss_one (ps_if (pt_not (pt_chain op_le op_le pe_int (pv 3) (pe_glob (v := .int 9) rfl gMOST_REFILL ⟨_, rfl⟩))) (pss_one ps_never) pss_nil)))))), ?_⟩
    refine LS.body j q ?_
    obtain ⟨sa, ys, rfl, ly, dys⟩ := dp_tup dv
    obtain ⟨v1, v2, v3, rfl, d1, d2, d3⟩ := dps3 dys
    cases dp_int d1
    cases dp_int d2
    cases dp_int d3
    refine sw_seq (sw_if (tw_test (ew_op (ew_cb ?_))))
    walk_at "ob"
    refine cw_lenS hd (Or.inr ly) ?_
    walk_at "ob"
    refine ⟨(fun hb => by simp at hb), fun _ => ?_⟩
    walk_at "ob"
    refine gw_tup hd ⟨sa, _, rfl, ly, rfl, gsw_cons (gw_name (gsw_cons (gw_name (gsw_cons (gw_name (gsw_nil ?_))))))⟩
    refine sw_seq (sw_if (tw_not (tw_test (ew_between ?_))))
    walk_at "ob"
    refine ⟨hw.c0, ?_⟩
    walk_at "ob"
    refine ⟨hw.c1, _, rfl, (fun z => by cases z), fun _ => ?_⟩
    walk_at "ob"
    refine ew_between ?_
    walk_at "ob"
    refine ⟨hw.s0, ?_⟩
    walk_at "ob"
    refine ⟨hw.s1, _, rfl, (fun z => by cases z), fun _ => ?_⟩
    walk_at "ob"
    refine ew_between ?_
    walk_at "ob"
    refine ⟨hw.r0, ?_⟩
    walk_at "ob"
    refine ⟨hw.r1, _, rfl, (fun z => by cases z), fun _ => ?_⟩
    walk_at "ob"
    exact k

abbrev s_check_steps : Stmt := top 21
def N_check_steps : List Str := ["number", "steps", "cap", "at", "step"]
theorem sc_check_steps : FnScope N_check_steps ["number", "steps", "cap"] (defScope s_check_steps) := ⟨rfl, rfl, rfl, by decide +kernel, rfl, by decide +kernel, by decide +kernel⟩
theorem ok_check_steps {f : Addr} {fd : FuncData} {f1 : Addr} {fd1 : FuncData} (Fn : Fun K "check_steps" "check_steps" s_check_steps f fd) (B : Blt mg) {tMOST_STEPS : Tok} (gMOST_STEPS : mg "MOST_STEPS" = some (.int 6 tMOST_STEPS)) (Cis_step : Cal K mg "is_step" f1 fd1 ["step", "cap"]) (Gis_step : FnOk P w K mg base CX0 1 f1 fd1 ["step", "cap"] (LS (aIsStep K))) : FnOk P w K mg base CX0 2 f fd ["number", "steps", "cap"] (LS (aChkSs K)) := by
  refine Fn.ok sc_check_steps (fun vs H Q E h => ?_) (fun cdv A outer s H vs Q E hr h => ?_)
  · obtain ⟨J, F, R, hd, j, h, _⟩ := h
    obtain ⟨v, n, cap, ss, rfl, _⟩ := h
    rfl
  · have nd := sc_check_steps.nd
    obtain ⟨J, F, R, hd, j, h, q⟩ := h
    obtain ⟨v, n, cap, ss, rfl, dv, hl6, hs, k⟩ := h
    refine ⟨_, (pss_cons (ps_for PassesOwn.never rfl (pi_enumT (by rfl) B.enumerate (pa_cons (pe_slice sl_tupA (pv 1) po_none (po_some (pe_glob (v := .int 6) rfl gMOST_STEPS ⟨_, rfl⟩))) pa_nil)) (pg_tup rfl (pgs_cons (pg_name (i := 3) nd rfl (Or.inl rfl)) (pgs_cons (pg_name (i := 4) nd rfl (Or.inl rfl)) pgs_nil))) (pss_one (ps_if (pt_not (pt_val (pe_call Gis_step (by exact hr.mono (by decide)) (by rfl) Cis_step.g Cis_step.k Cis_step.a .nil pass0 (pa_cons (pv 4) (pa_cons (pv 2) pa_nil))))) (pss_one ps_never) pss_nil)))
      (pss_one (ps_if (pt_cmpR op_gt (pe_callB call_len_seq (by rfl) B.len (by decide +kernel) (pa_cons (pv 1) pa_nil)) (pe_glob (v := .int 6) rfl gMOST_STEPS ⟨_, rfl⟩) (nomark _)) (pss_one ps_never) pss_nil))), ?_⟩
    refine LS.body j q ?_
    obtain ⟨sa, ys, rfl, ly, dys⟩ := dp_tup dv
    have hyl : ys.length = ss.length := by have := dps_len dys; simpa using this
    refine sw_seq ?_
    refine sw_mid (fun σ _ G => ∃ (x3 x4 : Option V), σ = [some (.int n), some (.ref sa), some (.int cap), x3, x4] ∧ Ex F G) ?_ ?_
    · refine sw_forET hd ?_
      refine aw_cons (ew_slT hd ?_)
      walk_at "ob"
      refine ⟨sa, ys, rfl, ly, fun _ => ?_, fun hn => absurd (six_all (k := 6) (by omega)) hn⟩

      refine aw_nil ⟨sa, ys, fun i σ _ G => ∃ (x3 x4 : Option V), σ = [some (.int n), some (.ref sa), some (.int cap), x3, x4] ∧ Ex F G, rfl, ly, ⟨none, none, rfl, .refl _⟩, ?_, ?_, ?_⟩
      · rintro i σ _ G hi ⟨x3, x4, rfl, g⟩
        exact g.sqT ly
      · rintro i x σ _ G T hi ⟨x3, x4, rfl, g⟩ hT
        refine gw_tup hd ⟨T, _, rfl, SqT.of upd_same, rfl, gsw_cons (gw_name (gsw_cons (gw_name (gsw_nil ?_))))⟩
        obtain ⟨d, hd1, hd2⟩ := dps_get' dys hi
        rw [List.getElem?_map] at hd1
        obtain ⟨st, hst, rfl⟩ := Option.map_eq_some_iff.mp hd1
        refine sw_if (tw_not (tw_B (ew_call hd ?_)))
        walk_at "ob"
        refine ⟨x, cap, st, rfl, dp_ex (Ex.new g hT) hd2, hs st (List.mem_of_getElem? hst), _, rfl, (fun z => by cases z), fun _ => ?_⟩
        exact sw_next ⟨_, _, rfl, Ex.new g hT⟩
      · rintro σ _ G ⟨x3, x4, rfl, g⟩
        exact ⟨_, _, rfl, g⟩
    · rintro σ _ G ⟨x3, x4, rfl, g⟩
      refine sw_if (tw_test (ew_op (ew_cb ?_)))
      walk_at "ob"
      refine cw_lenS hd (Or.inr (g.sqT ly)) ?_
      walk_at "ob"
      refine ⟨(fun hb => absurd (of_decide_eq_true hb) (by omega)), fun _ => ?_⟩
      walk_at "ob"
      exact k _ g

abbrev s_check_rule : Stmt := top 23
def N_check_rule : List Str := ["rule"]
theorem sc_check_rule : FnScope N_check_rule ["rule"] (defScope s_check_rule) := ⟨rfl, rfl, rfl, by decide +kernel, rfl, by decide +kernel, by decide +kernel⟩
theorem ok_check_rule {f : Addr} {fd : FuncData}  (Fn : Fun K "check_rule" "check_rule" s_check_rule f fd) (B : Blt mg) {aRI : Addr} (gRIGHTS : mg "RIGHTS" = some (.ref aRI)) (tRIGHTS : ∀ H, SqT K H aRI [.str "rank", .str "turns", .str "wait", .str "least"]) : FnOk P w K mg base CX0 1 f fd ["rule"] (LS (aChkR K)) := by
  refine Fn.ok sc_check_rule (fun vs H Q E h => ?_) (fun cdv A outer s H vs Q E hr h => ?_)
  · obtain ⟨J, F, R, hd, j, h, _⟩ := h
    obtain ⟨v, r, p, rfl, _⟩ := h
    rfl
  · have nd := sc_check_rule.nd
    obtain ⟨J, F, R, hd, j, h, q⟩ := h
    obtain ⟨v, r, p, rfl, dv, k⟩ := h
    refine ⟨_, (pss_cons (ps_if (pt_cmpR op_ne (pe_callB call_len_seq (by rfl) B.len (by decide +kernel) (pa_cons (pv 0) pa_nil)) pe_int (nomark _)) (pss_one ps_never) pss_nil)
      (pss_one (ps_if (pt_cmpR op_notIn_seq (pe_ix ix_tup (pv 0) pe_int (fun _ _ => rfl)) (pe_glob (v := .ref aRI) rfl gRIGHTS rfl) (by rfl)) (pss_one ps_never) pss_nil))), ?_⟩
    refine LS.body j q ?_
    obtain ⟨sa, ys, rfl, ly, dys⟩ := dp_tup dv
    obtain ⟨v1, v2, rfl, d1, d2⟩ := dps2 dys
    cases dp_str d1
    cases dp_bl d2
    refine sw_seq (sw_if (tw_test (ew_op (ew_cb ?_))))
    walk_at "ob"
    refine cw_lenS hd (Or.inr ly) ?_
    walk_at "ob"
    refine ⟨(fun hb => by simp at hb), fun _ => ?_⟩
    walk_at "ob"
    refine rw_in hd (Or.inr (tRIGHTS _)) rfl rfl ?_
    refine ⟨_, rfl, fun hb => absurd hb (by cases r <;> decide +kernel), fun _ => ?_⟩
    walk_at "ob"
    exact k

abbrev s_check_count : Stmt := top 24
def N_check_count : List Str := ["many", "least", "most"]
theorem sc_check_count : FnScope N_check_count ["many", "least", "most"] (defScope s_check_count) := ⟨rfl, rfl, rfl, by decide +kernel, rfl, by decide +kernel, by decide +kernel⟩
theorem ok_check_count {f : Addr} {fd : FuncData}  (Fn : Fun K "check_count" "check_count" s_check_count f fd) (B : Blt mg)  : FnOk P w K mg base CX0 1 f fd ["many", "least", "most"] (LS (aCount)) := by
  refine Fn.ok sc_check_count (fun vs H Q E h => ?_) (fun cdv A outer s H vs Q E hr h => ?_)
  · obtain ⟨J, F, R, hd, j, h, _⟩ := h
    obtain ⟨a, b, c, rfl, _⟩ := h
    rfl
  · have nd := sc_check_count.nd
    obtain ⟨J, F, R, hd, j, h, q⟩ := h
    obtain ⟨a, b, c, rfl, h1, h2, k⟩ := h
    refine ⟨_, (pss_one (ps_if (pt_not (pt_chain op_le op_le (pv 1) (pv 0) (pv 2))) (pss_one ps_never) pss_nil)), ?_⟩
    refine LS.body j q ?_
    refine sw_if (tw_not (tw_test (ew_between ?_)))
    walk_at "ob"
    refine ⟨h1, ?_⟩
    walk_at "ob"
    refine ⟨h2, _, rfl, (fun z => by cases z), fun _ => ?_⟩
    walk_at "ob"
    exact k
end
end Obr
namespace Obr
open PySem L2 PyProof.Rows
local macro_rules | `(tactic| walk_at "ob_at") => `(tactic| first
  | assumption
  | exact upd_same
  | (refine Eq.trans (upd_ne ?obn) ?obr; (case obn => walk_at "ob_ne"); (case obr => walk_at "ob_at")))
local macro_rules | `(tactic| walk_at "ob_ne") => `(tactic| first
  | assumption
  | (refine Ne.symm ?obs; (case obs => assumption))
  | (refine' ne_of_none (H := ?_) ?obe ?obh; (case obh => assumption); (case obe => walk_at "ob_at"))
  | (refine Ne.symm ?obs; (case obs => (refine' ne_of_none (H := ?_) ?obe ?obh; (case obh => assumption); (case obe => walk_at "ob_at")))))
local macro_rules | `(tactic| walk_at "ob_fr") => `(tactic| first
  | assumption
  | (refine Eq.trans (upd_ne ?obn) ?obr; (case obn => walk_at "ob_ne"); (case obr => walk_at "ob_fr"))
  | (refine Ex.free (G := ?_) (by assumption) ?obh; (case obh => walk_at "ob_fr")))
local macro_rules | `(tactic| walk_at "ob_ex") => `(tactic| first
  | assumption
  | exact Ex.refl _
  | (refine Ex.out ?obg ?obh; (case obh => assumption); (case obg => walk_at "ob_ex"))
  | (refine Ex.new ?obg ?obh; (case obh => assumption); (case obg => walk_at "ob_ex"))
  | (refine Ex.new ?obg ?obh; (case obh => walk_at "ob_fr"); (case obg => walk_at "ob_ex")))
local macro_rules | `(tactic| walk_at "ob_sq") => `(tactic| first
  | assumption
  | (refine SqL.of ?oba; (case oba => walk_at "ob_at"))
  | (refine Ex.sqT (F := ?_) ?obg ?obh; (case obh => assumption); (case obg => walk_at "ob_ex"))
  | (refine Ex.sqL (F := ?_) ?obg ?obh; (case obh => assumption); (case obg => walk_at "ob_ex"))
  | (refine SqT.of ?oba; (case oba => walk_at "ob_at")))
local macro_rules | `(tactic| walk_at "ob_side") => `(tactic| first | exact rfl | assumption | decide | omega | exact ⟨by decide, by decide, by decide⟩ | exact Or.inr ⟨by decide, by decide⟩ | exact Or.inl ⟨by decide, by decide⟩ | exact wide_div (b := 60) (by first | decide | omega) (by first | decide | omega) (by decide) (by decide))
local macro_rules | `(tactic| walk_at "ob1") => `(tactic| first
  | with_reducible refine sw_seq ?_
  | with_reducible refine sw_asg ?_
  | with_reducible refine sw_ret ?_
  | with_reducible refine sw_par ?_
  | with_reducible refine ⟨_, _, rfl, ?_⟩
  | with_reducible refine sw_drop ?_
  | with_reducible refine sw_if ?_
  | with_reducible refine sw_next ?_
  | with_reducible refine gw_name ?_
  | with_reducible refine gw_subL (by assumption) ?_
  | with_reducible refine gsw_cons ?_
  | with_reducible refine gsw_nil ?_
  | with_reducible refine ew_c ?_
  | ((with_reducible refine' ew_var (v := ?_) ?obv ?_); (case obv => exact rfl))
  | ((with_reducible refine ew_next (by assumption) ?obv ?_); (case obv => exact rfl))
  | ((with_reducible refine ew_world (by assumption) ?obv ?_); (case obv => exact rfl))
  | ((with_reducible refine ew_rule (by assumption) ?obv ?_); (case obv => exact rfl))
  | with_reducible refine ew_op ?_
  | with_reducible refine ew_un ?_
  | with_reducible refine ew_dget (by assumption) ?_
  | with_reducible refine uw_I ?_
  | with_reducible refine ppw_nil ?_
  | with_reducible refine ppw_cons ?_
  | with_reducible refine sw_dput (by assumption) ?_
  | with_reducible refine ew_cb ?_
  | with_reducible refine ew_if ?_
  | with_reducible refine ew_slL (by assumption) ?_
  | with_reducible refine ow_some ?_
  | with_reducible refine ow_none ?_
  | with_reducible refine aw_nil ?_
  | with_reducible refine aw_cons ?_
  | with_reducible refine rw_I0 ?_
  | ((with_reducible refine rw_I ?obc ?_); (case obc => walk_at "ob_side"))
  | with_reducible refine rw_isN ?_
  | with_reducible refine rw_notN ?_
  | ((with_reducible refine rw_eq ?obc ?_); (case obc => exact rfl))
  | ((with_reducible refine rw_ne ?obc ?_); (case obc => exact rfl))
  | with_reducible refine cw_max2 ?_
  | with_reducible refine cw_min2 ?_
  | with_reducible refine tw_test ?_
  | with_reducible refine tw_B ?_
  | with_reducible refine tw_not ?_
  | with_reducible refine tw_truB ?_
  | with_reducible refine tw_and ?_
  | with_reducible refine tw_or ?_
  | with_reducible refine ew_and ?_
  | (refine' Exists.intro _ (And.intro (show V.bl _ = V.bl _ from rfl) ?_))
  | (refine' Exists.intro _ (And.intro (show V.int _ = V.int _ from rfl) ?_))
  | ((with_reducible refine' rw_ixL (v := ?_) (xs := ?_) (by assumption) ?obl ?oba ?_); (case obl => walk_at "ob_sq"); (case oba => first | exact rfl | exact at_zero))
  | ((with_reducible refine' rw_ixT (v := ?_) (xs := ?_) (by assumption) ?obl ?oba ?_); (case obl => walk_at "ob_sq"); (case oba => first | exact rfl | exact at_zero))
  | ((with_reducible refine' ew_lst (by assumption) ?_))
  | ((with_reducible refine' ew_tup (by assumption) ?_)))
local macro_rules | `(tactic| walk_at "ob_len") => `(tactic| first | exact Nat.le_of_ble_eq_true rfl | (simp; done) | omega)
local macro_rules | `(tactic| walk_at "ob") => `(tactic| repeat walk_at "ob1")

def aChecked (K : PySem.W.Frag) (C M : Addr) : List V → Hp → VK → Prop := fun vs F R => ∃ (wv rv : V) (w : Wld) (r : Rgt) (p anew : Bool), vs = [wv, rv, .bl anew] ∧ Dp K F wv (wldD w) ∧ Dp K F rv (rulD r p) ∧ WldOk w ∧
  ∀ (F' F0 : Hp) (A : RAd), A.C = C → A.M = M → A.hp = false → Ex F F0 → RunAt K F0 F' A (lBegun w) w r p anew [] → R (.ref A.a) F'
section
variable {P : Program} {w : World} {K : PySem.W.Frag} {mg : Str → Option Value} {base : Heap} {C M : Addr}
end
end Obr
namespace Obr
/-! ### when nothing more is done (mathematics only) -/
/-- nothing more is ever begun -/
structure Dead (w : Wld) (r : Rgt) (p : Bool) (t' : LSt) : Prop where
  ex : ∃ t lv, LInv w t ∧ LBeat w r p false t t' lv []
  idle : Idle t'
  lev : minI w.cap (t'.level + w.refill) = t'.level
/-- x and y draw alike -/
structure Rel (x y : LSt × List Int × Bool) : Prop where
  at_ : ∀ k : Nat, (y.1.ms[k]?).map Mac.at_ = (x.1.ms[k]?).map Mac.at_
  lev : y.1.level = x.1.level
  open_ : y.2.2 = x.2.2
/-- alike in what is answered: when each is at its end, and how often it waited till then -/
def AnsEq (w : Wld) (t t' : LSt) : Prop := ∀ (k : Nat) (m m' : Mac) (ss : List Stp), t.ms[k]? = some m → t'.ms[k]? = some m' → w.ms[k]? = some ss → m'.at_ = m.at_ ∧ m'.ends = m.ends ∧ (m.at_ = ss.length → m'.waits = m.waits ∧ m'.since = m.since)
def AllDone (w : Wld) (t : LSt) : Prop := ∀ (k : Nat) (m : Mac) (ss : List Stp), t.ms[k]? = some m → w.ms[k]? = some ss → m.at_ = ss.length
/-- nothing more comes to an end -/
def Settled (w : Wld) (r : Rgt) (p : Bool) (t : LSt) : Prop := AllDone w t ∨ Dead w r p t
/-- what comes after n beats -/
inductive LPath (w : Wld) (r : Rgt) (p : Bool) : Nat → LSt → Prop
  | zero : LPath w r p 0 (lBegun w)
  | succ {n : Nat} {t t' : LSt} {lv : Int} {bg : List Int} (h : LPath w r p n t) (b : LBeat w r p false t t' lv bg) : LPath w r p (n + 1) t'
theorem LPath.inv {w : Wld} (hw : WldOk w) {r : Rgt} {p : Bool} : ∀ {n t}, LPath w r p n t → LInv w t
  | _, _, .zero => begun_inv hw
  | _, _, .succ h b => (bstep hw (h.inv hw) b).inv
/-! the program's stop, and the law's -/
/-- q quiet beats in a row came last -/
structure QInv (w : Wld) (r : Rgt) (p : Bool) (q : Nat) (t : LSt) : Prop where
  h : 1 ≤ q → Idle t ∧ (∃ t0 lv, LInv w t0 ∧ LBeat w r p false t0 t lv []) ∧ minI w.cap (((q : Int) - 1) * w.refill) ≤ t.level
end Obr
namespace Obr
open PySem L2 PyProof.Rows
local macro_rules | `(tactic| walk_at "ob_at") => `(tactic| first
  | assumption
  | exact upd_same
  | (refine Eq.trans (upd_ne ?obn) ?obr; (case obn => walk_at "ob_ne"); (case obr => walk_at "ob_at")))
local macro_rules | `(tactic| walk_at "ob_ne") => `(tactic| first
  | assumption
  | (refine Ne.symm ?obs; (case obs => assumption))
  | (refine' ne_of_none (H := ?_) ?obe ?obh; (case obh => assumption); (case obe => walk_at "ob_at"))
  | (refine Ne.symm ?obs; (case obs => (refine' ne_of_none (H := ?_) ?obe ?obh; (case obh => assumption); (case obe => walk_at "ob_at")))))
local macro_rules | `(tactic| walk_at "ob_fr") => `(tactic| first
  | assumption
  | (refine Eq.trans (upd_ne ?obn) ?obr; (case obn => walk_at "ob_ne"); (case obr => walk_at "ob_fr"))
  | (refine Ex.free (G := ?_) (by assumption) ?obh; (case obh => walk_at "ob_fr")))
local macro_rules | `(tactic| walk_at "ob_ex") => `(tactic| first
  | assumption
  | exact Ex.refl _
  | (refine Ex.out ?obg ?obh; (case obh => assumption); (case obg => walk_at "ob_ex"))
  | (refine Ex.new ?obg ?obh; (case obh => assumption); (case obg => walk_at "ob_ex"))
  | (refine Ex.new ?obg ?obh; (case obh => walk_at "ob_fr"); (case obg => walk_at "ob_ex")))
local macro_rules | `(tactic| walk_at "ob_sq") => `(tactic| first
  | assumption
  | (refine SqL.of ?oba; (case oba => walk_at "ob_at"))
  | (refine Ex.sqT (F := ?_) ?obg ?obh; (case obh => assumption); (case obg => walk_at "ob_ex"))
  | (refine Ex.sqL (F := ?_) ?obg ?obh; (case obh => assumption); (case obg => walk_at "ob_ex"))
  | (refine SqT.of ?oba; (case oba => walk_at "ob_at")))
local macro_rules | `(tactic| walk_at "ob_side") => `(tactic| first | exact rfl | assumption | decide | omega | exact ⟨by decide, by decide, by decide⟩ | exact Or.inr ⟨by decide, by decide⟩ | exact Or.inl ⟨by decide, by decide⟩ | exact wide_div (b := 60) (by first | decide | omega) (by first | decide | omega) (by decide) (by decide))
local macro_rules | `(tactic| walk_at "ob1") => `(tactic| first
  | with_reducible refine sw_seq ?_
  | with_reducible refine sw_asg ?_
  | with_reducible refine sw_ret ?_
  | with_reducible refine sw_par ?_
  | with_reducible refine ⟨_, _, rfl, ?_⟩
  | with_reducible refine sw_drop ?_
  | with_reducible refine sw_if ?_
  | with_reducible refine sw_next ?_
  | with_reducible refine gw_name ?_
  | with_reducible refine gw_subL (by assumption) ?_
  | with_reducible refine gsw_cons ?_
  | with_reducible refine gsw_nil ?_
  | with_reducible refine ew_c ?_
  | ((with_reducible refine' ew_var (v := ?_) ?obv ?_); (case obv => exact rfl))
  | ((with_reducible refine ew_next (by assumption) ?obv ?_); (case obv => exact rfl))
  | ((with_reducible refine ew_world (by assumption) ?obv ?_); (case obv => exact rfl))
  | ((with_reducible refine ew_rule (by assumption) ?obv ?_); (case obv => exact rfl))
  | with_reducible refine ew_op ?_
  | with_reducible refine ew_un ?_
  | with_reducible refine ew_dget (by assumption) ?_
  | with_reducible refine uw_I ?_
  | with_reducible refine ppw_nil ?_
  | with_reducible refine ppw_cons ?_
  | with_reducible refine sw_dput (by assumption) ?_
  | with_reducible refine ew_cb ?_
  | with_reducible refine ew_if ?_
  | with_reducible refine ew_slL (by assumption) ?_
  | with_reducible refine ow_some ?_
  | with_reducible refine ow_none ?_
  | with_reducible refine aw_nil ?_
  | with_reducible refine aw_cons ?_
  | with_reducible refine rw_I0 ?_
  | ((with_reducible refine rw_I ?obc ?_); (case obc => walk_at "ob_side"))
  | with_reducible refine rw_isN ?_
  | with_reducible refine rw_notN ?_
  | ((with_reducible refine rw_eq ?obc ?_); (case obc => exact rfl))
  | ((with_reducible refine rw_ne ?obc ?_); (case obc => exact rfl))
  | with_reducible refine cw_max2 ?_
  | with_reducible refine cw_min2 ?_
  | with_reducible refine tw_test ?_
  | with_reducible refine tw_B ?_
  | with_reducible refine tw_not ?_
  | with_reducible refine tw_truB ?_
  | with_reducible refine tw_and ?_
  | with_reducible refine tw_or ?_
  | with_reducible refine ew_and ?_
  | (refine' Exists.intro _ (And.intro (show V.bl _ = V.bl _ from rfl) ?_))
  | (refine' Exists.intro _ (And.intro (show V.int _ = V.int _ from rfl) ?_))
  | ((with_reducible refine' rw_ixL (v := ?_) (xs := ?_) (by assumption) ?obl ?oba ?_); (case obl => walk_at "ob_sq"); (case oba => first | exact rfl | exact at_zero))
  | ((with_reducible refine' rw_ixT (v := ?_) (xs := ?_) (by assumption) ?obl ?oba ?_); (case obl => walk_at "ob_sq"); (case oba => first | exact rfl | exact at_zero))
  | ((with_reducible refine' ew_lst (by assumption) ?_))
  | ((with_reducible refine' ew_tup (by assumption) ?_)))
local macro_rules | `(tactic| walk_at "ob_len") => `(tactic| first | exact Nat.le_of_ble_eq_true rfl | (simp; done) | omega)
local macro_rules | `(tactic| walk_at "ob") => `(tactic| repeat walk_at "ob1")

/-! ### beats -/
/-- n beats from the start: what is told of each -/
inductive LRows (w : Wld) (r : Rgt) (p : Bool) : Nat → LSt → List (Int × List Int) → Prop
  | zero : LRows w r p 0 (lBegun w) []
  | succ {n t t' lv bg rows} : LRows w r p n t rows → LBeat w r p false t t' lv bg → LRows w r p (n + 1) t' (rows ++ [(lv, bg)])
def rowD (x : Int × List Int) : PyData := .tuple [.int x.1, .list (x.2.map PyData.int)]
def aBeatsP (K : PySem.W.Frag) : List V → Hp → VK → Prop := fun vs F R => ∃ (wv rv : V) (w : Wld) (r : Rgt) (p : Bool) (n : Nat), vs = [wv, rv, .int n] ∧ Dp K F wv (wldD w) ∧ Dp K F rv (rulD r p) ∧ WldOk w ∧ n ≤ 500 ∧
  ∀ (q : Addr) (F' : Hp) (vs' : List V) (t : LSt) (rows : List (Int × List Int)), LRows w r p n t rows → Ex F F' → F' q = some (.lst vs') → DpAll K F' vs' (rows.map rowD) → R (.ref q) F'
theorem dp_ints {K : PySem.W.Frag} {F : Hp} : ∀ {l : List Int}, DpAll K F (l.map V.int) (l.map PyData.int)
  | [] => .nil
  | a :: l => .cons (.int a) dp_ints
section
variable {P : Program} {w : World} {K : PySem.W.Frag} {mg : Str → Option Value} {base : Heap} {C M : Addr}
end
end Obr
namespace Obr
open PySem L2 PyProof.Rows
/-! ### what laws share -/
theorem sw_hide {S : Type} {J : S → Hp → Hp → Prop} {t : TS} {σ : L2.St} {s : S} {F : Hp} {h c : Addr} {m : Int} {ns : List Int} {N : L2.St → S → Hp → Prop} {R : V → S → Hp → Prop} (fc : F c = none) (fh : F h = none) (hne : c ≠ h) (m0 : 0 ≤ m) (m1 : m < 2147483647) (hn : ns.length ≤ 63) (hR : ∀ s F, R (.bl true) s F)
    (hw : SW (HJ h c J) t { nx := fun _ _ _ => False, rt := fun v _ _ => v = .bl true } σ s F) : SW J t { nx := N, rt := R } σ s (upd (upd F c (cL ns)) h (hL c m 0)) := fun H j D' l =>
  hw H ⟨_, m, 0, ns, Ex.new (Ex.new (.refl _) fc) (by rw [upd_ne hne.symm]; exact fh), fh, fc, m0, m1, by decide, hn, upd_same, (upd_ne hne).trans upd_same, j⟩ D'
    ⟨fun _ _ _ _ _ k => k.elim, fun v s F H ⟨G, _, _, _, _, _, _, _, _, _, _, _, _, j⟩ k => by subst k; exact l.rt _ s G H j (hR s G), fun _ _ _ _ _ k => k.elim, fun _ _ _ _ _ k => k.elim⟩
theorem cw_intB {S : Type} {J : S → Hp → Hp → Prop} {s : S} {F : Hp} {R : V → S → Hp → Prop} {b : Bool} (h : R (.int (if b then 1 else 0)) s F) : CW J (fun xs H Q => (∃ i, xs = [.int i] ∧ Q (.int i) H) ∨ ∃ k, xs = [.bl k] ∧ Q (.int (if k then 1 else 0)) H) [.bl b] s F R := fun H j Q q =>
  Or.inr ⟨b, rfl, q _ _ _ _ j h⟩
end Obr
namespace Obr
open PySem L2 PyProof.Rows
section
variable {S : Type} {J : S → Hp → Hp → Prop} {K : PySem.W.Frag} {σ : L2.St} {s : S} {F : Hp} {R : V → S → Hp → Prop} {tn : TE}
end
end Obr
/-! what beats tell of the ends (k19) -/
namespace Obr
open PySem L2 PyProof.Rows
end Obr
namespace Obr
open PySem L2 PyProof.Rows
local macro_rules | `(tactic| walk_at "ob_at") => `(tactic| first
  | assumption
  | exact upd_same
  | (refine Eq.trans (upd_ne ?obn) ?obr; (case obn => walk_at "ob_ne"); (case obr => walk_at "ob_at")))
local macro_rules | `(tactic| walk_at "ob_ne") => `(tactic| first
  | assumption
  | (refine Ne.symm ?obs; (case obs => assumption))
  | (refine' ne_of_none (H := ?_) ?obe ?obh; (case obh => assumption); (case obe => walk_at "ob_at"))
  | (refine Ne.symm ?obs; (case obs => (refine' ne_of_none (H := ?_) ?obe ?obh; (case obh => assumption); (case obe => walk_at "ob_at")))))
local macro_rules | `(tactic| walk_at "ob_fr") => `(tactic| first
  | assumption
  | (refine Eq.trans (upd_ne ?obn) ?obr; (case obn => walk_at "ob_ne"); (case obr => walk_at "ob_fr"))
  | (refine Ex.free (G := ?_) (by assumption) ?obh; (case obh => walk_at "ob_fr")))
local macro_rules | `(tactic| walk_at "ob_ex") => `(tactic| first
  | assumption
  | exact Ex.refl _
  | (refine Ex.out ?obg ?obh; (case obh => assumption); (case obg => walk_at "ob_ex"))
  | (refine Ex.new ?obg ?obh; (case obh => assumption); (case obg => walk_at "ob_ex"))
  | (refine Ex.new ?obg ?obh; (case obh => walk_at "ob_fr"); (case obg => walk_at "ob_ex")))
local macro_rules | `(tactic| walk_at "ob_sq") => `(tactic| first
  | assumption
  | (refine SqL.of ?oba; (case oba => walk_at "ob_at"))
  | (refine Ex.sqT (F := ?_) ?obg ?obh; (case obh => assumption); (case obg => walk_at "ob_ex"))
  | (refine Ex.sqL (F := ?_) ?obg ?obh; (case obh => assumption); (case obg => walk_at "ob_ex"))
  | (refine SqT.of ?oba; (case oba => walk_at "ob_at")))
local macro_rules | `(tactic| walk_at "ob_side") => `(tactic| first | exact rfl | assumption | decide | omega | exact ⟨by decide, by decide, by decide⟩ | exact Or.inr ⟨by decide, by decide⟩ | exact Or.inl ⟨by decide, by decide⟩ | exact wide_div (b := 60) (by first | decide | omega) (by first | decide | omega) (by decide) (by decide))
local macro_rules | `(tactic| walk_at "ob1") => `(tactic| first
  | with_reducible refine sw_seq ?_
  | with_reducible refine sw_asg ?_
  | with_reducible refine sw_ret ?_
  | with_reducible refine sw_par ?_
  | with_reducible refine ⟨_, _, rfl, ?_⟩
  | with_reducible refine sw_drop ?_
  | with_reducible refine sw_if ?_
  | with_reducible refine sw_next ?_
  | with_reducible refine gw_name ?_
  | with_reducible refine gw_subL (by assumption) ?_
  | with_reducible refine gsw_cons ?_
  | with_reducible refine gsw_nil ?_
  | with_reducible refine ew_c ?_
  | ((with_reducible refine' ew_var (v := ?_) ?obv ?_); (case obv => exact rfl))
  | ((with_reducible refine ew_next (by assumption) ?obv ?_); (case obv => exact rfl))
  | ((with_reducible refine ew_world (by assumption) ?obv ?_); (case obv => exact rfl))
  | ((with_reducible refine ew_rule (by assumption) ?obv ?_); (case obv => exact rfl))
  | with_reducible refine ew_op ?_
  | with_reducible refine ew_un ?_
  | with_reducible refine ew_dget (by assumption) ?_
  | with_reducible refine uw_I ?_
  | with_reducible refine ppw_nil ?_
  | with_reducible refine ppw_cons ?_
  | with_reducible refine sw_dput (by assumption) ?_
  | with_reducible refine ew_cb ?_
  | with_reducible refine ew_if ?_
  | with_reducible refine ew_slL (by assumption) ?_
  | with_reducible refine ow_some ?_
  | with_reducible refine ow_none ?_
  | with_reducible refine aw_nil ?_
  | with_reducible refine aw_cons ?_
  | with_reducible refine rw_I0 ?_
  | ((with_reducible refine rw_I ?obc ?_); (case obc => walk_at "ob_side"))
  | with_reducible refine rw_isN ?_
  | with_reducible refine rw_notN ?_
  | ((with_reducible refine rw_eq ?obc ?_); (case obc => exact rfl))
  | ((with_reducible refine rw_ne ?obc ?_); (case obc => exact rfl))
  | with_reducible refine cw_max2 ?_
  | with_reducible refine cw_min2 ?_
  | with_reducible refine tw_test ?_
  | with_reducible refine tw_B ?_
  | with_reducible refine tw_not ?_
  | with_reducible refine tw_truB ?_
  | with_reducible refine tw_and ?_
  | with_reducible refine tw_or ?_
  | with_reducible refine ew_and ?_
  | (refine' Exists.intro _ (And.intro (show V.bl _ = V.bl _ from rfl) ?_))
  | (refine' Exists.intro _ (And.intro (show V.int _ = V.int _ from rfl) ?_))
  | ((with_reducible refine' rw_ixL (v := ?_) (xs := ?_) (by assumption) ?obl ?oba ?_); (case obl => walk_at "ob_sq"); (case oba => first | exact rfl | exact at_zero))
  | ((with_reducible refine' rw_ixT (v := ?_) (xs := ?_) (by assumption) ?obl ?oba ?_); (case obl => walk_at "ob_sq"); (case oba => first | exact rfl | exact at_zero))
  | ((with_reducible refine' ew_lst (by assumption) ?_))
  | ((with_reducible refine' ew_tup (by assumption) ?_)))
local macro_rules | `(tactic| walk_at "ob_len") => `(tactic| first | exact Nat.le_of_ble_eq_true rfl | (simp; done) | omega)
local macro_rules | `(tactic| walk_at "ob") => `(tactic| repeat walk_at "ob1")
/-! ### _law_alike of the same data -/
def tyD : PyData → String
  | .none => "NoneType"
  | .bool _ => "bool"
  | .int _ => "int"
  | .str _ => "str"
  | .list _ => "list"
  | .tuple _ => "tuple"
  | .dict _ => "dict"
theorem dp_ty {K : PySem.W.Frag} {H : Hp} {v : V} {d : PyData} (h : Dp K H v d) : TyX K H v (.type (tyD d)) := by
  cases h with
  | non => exact .base .non
  | bl b => exact .base (.bl b)
  | int i => exact .base (.int i)
  | str x => exact .base (.str x)
  | lst hs ha =>
    rcases hs with (h | ⟨o, h⟩) | ⟨o, its, n, h1, h2, _⟩
    · exact .base (.lst h)
    · exact .base (.frz h)
    · exact .kList h1 h2
  | tup hs ha =>
    rcases hs with (h | ⟨o, h⟩) | ⟨o, its, n, h1, h2, _⟩
    · exact .base (.tup h)
    · exact .fTuple h
    · exact .kTuple h1 h2
section
variable {S : Type} {J : S → Hp → Hp → Prop} {K : PySem.W.Frag} {s : S} {F : Hp} {R : V → S → Hp → Prop}
theorem cw_isi (hd : Hid J) {v : V} {d : PyData} {n : String} {b : Bool} (h : Dp K F v d) (e : kitB (tyD d) n = some b) (k : R (.bl b) s F) : CW J (rIsi K) [v, .ty n] s F R := fun H j Q q =>
  ⟨v, .ty n, _, _, b, rfl, .ty n, dp_ty (dp_ex (hd.ex j) h), kit_ty e, q _ _ _ _ j k⟩
theorem cw_isi2 (hd : Hid J) {v : V} {d : PyData} {n1 n2 : String} {b1 b2 : Bool} {tp : Addr} (ht : F tp = some (.tup [.ty n1, .ty n2])) (h : Dp K F v d) (e1 : kitB (tyD d) n1 = some b1) (e2 : kitB (tyD d) n2 = some b2) (k : R (.bl (b1 || b2)) s F) : CW J (rIsiT K) [v, .ref tp] s F R := fun H j Q q =>
  ⟨v, tp, [.ty n1, .ty n2], _, [.type n1, .type n2], b1 || b2, rfl, hd.ex j _ _ ht, .cons (.ty n1) (.cons (.ty n2) .nil), dp_ty (dp_ex (hd.ex j) h),
    kitAny_cons (kit_ty e1) (fun hb => by rw [hb]; exact kitAny_cons (kit_ty e2) (fun hb2 => by rw [hb2]; exact kitAny_nil) (fun hb2 => by rw [hb2]; rfl)) (fun hb => by rw [hb]; rfl), q _ _ _ _ j k⟩
theorem rw_ixD (hd : Hid J) {p : Addr} {xs : List V} {i : Nat} {v : V} (l : SqL K F p xs ∨ SqT K F p xs) (a : xs[i]? = some v) (h : R v s F) : RW J (rIx K) (.ref p) (.int (i : Int)) s F R := fun H j Q q => by
  rcases l with l | l
  · exact .inl ⟨p, xs, i, v, rfl, rfl, hd.sqL j l, atI_nat a, q _ _ _ _ j h⟩
  · exact .inr (.inl ⟨p, xs, i, v, rfl, rfl, hd.sqT j l, atI_nat a, q _ _ _ _ j h⟩)
end
/-- data of depth n at most, none longer than a thousand -/
def szD : Nat → PyData → Bool
  | _, .none => true
  | _, .bool _ => true
  | _, .int _ => true
  | _, .str x => PyData.strOk x
  | n + 1, .list ds => decide (ds.length ≤ 1000) && ds.all (szD n)
  | n + 1, .tuple ds => decide (ds.length ≤ 1000) && ds.all (szD n)
  | _, _ => false
/-- two that hold the same -/
def aAlike (K : PySem.W.Frag) : Nat → List V → Hp → VK → Prop
  | 0 => fun _ _ _ => False
  | n + 1 => fun vs F R => ∃ (x y : V) (d : PyData), vs = [x, y] ∧ Dp K F x d ∧ Dp K F y d ∧ szD n d = true ∧ ∀ F', Ex F F' → R (.bl true) F'
abbrev sAlike : Stmt := top 39
def N_alike : List Str := ["_law_found", "_law_due", "_law_k"]
theorem sc_alike : FnScope N_alike ["_law_found", "_law_due"] (defScope sAlike) := ⟨rfl, rfl, rfl, by decide +kernel, rfl, by decide +kernel, by decide +kernel⟩
section
variable {P : Program} {w : World} {K : PySem.W.Frag} {mg : Str → Option Value} {base : Heap}
theorem ok_alike {f : Addr} {fd : FuncData} (Fn : Fun K "_law_alike" "_law_alike" sAlike f fd) (B : Blt mg) (C_law_alike : Cal K mg "_law_alike" f fd ["_law_found", "_law_due"]) :
    ∀ n, FnOk P w K mg base CX0 n f fd ["_law_found", "_law_due"] (LS (aAlike K n))
  | 0 => ⟨fun _ _ _ _ ⟨_, _, _, _, _, h, _⟩ => h.elim, fun _ _ _ _ _ _ _ _ _ _ _ _ _ ⟨_, _, _, _, _, h, _⟩ => h.elim⟩
  | n + 1 => by
    have ih := ok_alike Fn B C_law_alike n
    refine Fn.ok sc_alike (fun vs H Q E h => ?_) (fun cdv A outer s H vs Q E hr h => ?_)
    · obtain ⟨J, F, R, hd, j, ⟨x, y, d, rfl, _⟩, _⟩ := h
      rfl
    have nd := sc_alike.nd
    obtain ⟨J, F, R, hd, j, ⟨x, y, d, rfl, hx, hy, hz, k⟩, q⟩ := h
    refine ⟨_, (pss_cons (ps_if (pt_val (pe_callB call_isiT (by rfl) B.isinstance (by decide +kernel) (pa_cons (pv 1) (pa_cons (pe_tup (pa_cons (pe_bltn (v := .ty "tuple") (by rfl) B.tuple (by decide +kernel) rfl) (pa_cons (pe_bltn (v := .ty "list") (by rfl) B.list (by decide +kernel) rfl) pa_nil))) pa_nil)))) (pss_cons (ps_if (PW.pt (pw_or (pt_not (pt_val (pe_callB call_isiT (by rfl) B.isinstance (by decide +kernel) (pa_cons (pv 0) (pa_cons (pe_tup (pa_cons (pe_bltn (v := .ty "tuple") (by rfl) B.tuple (by decide +kernel) rfl) (pa_cons (pe_bltn (v := .ty "list") (by rfl) B.list (by decide +kernel) rfl) pa_nil))) pa_nil))))) (pw_or1 (pt_cmpR op_ne (pe_callB call_isi (by rfl) B.isinstance (by decide +kernel) (pa_cons (pv 0) (pa_cons (pe_bltn (v := .ty "list") (by rfl) B.list (by decide +kernel) rfl) pa_nil))) (pe_callB call_isi (by rfl) B.isinstance (by decide +kernel) (pa_cons (pv 1) (pa_cons (pe_bltn (v := .ty "list") (by rfl) B.list (by decide +kernel) rfl) pa_nil))) (nomark _))))) (pss_one (ps_ret pe_bl)) pss_nil)
      (pss_cons (ps_if (pt_cmpR op_ne (pe_callB call_len_seq (by rfl) B.len (by decide +kernel) (pa_cons (pv 0) pa_nil)) (pe_callB call_len_seq (by rfl) B.len (by decide +kernel) (pa_cons (pv 1) pa_nil)) (nomark _)) (pss_one (ps_ret pe_bl)) pss_nil)
      (pss_one (ps_ret (pe_cmpR (op_eqD (by exact hr.units)) (pe_lc (own := [("_law_k", 2)]) (te := (tVar 2)) (tt := (tNot (tB (tCall (LS (aAlike K n)) [] E0 (tCons (tOp (rIx K) (tVar 0) (tVar 2)) (tCons (tOp (rIx K) (tVar 1) (tVar 2)) tNil)))))) (by rfl) nd (pi_range1 rfl B.range (pa_cons (pe_callB call_len_seq (by rfl) B.len (by decide +kernel) (pa_cons (pv 1) pa_nil)) pa_nil)) (blkOk_by (own := [("_law_k", 2)]) (N := N_alike) (sc := defScope sAlike) (by decide +kernel)) (fun _ _ _ _ _ => (pg_name (i := 2) nd rfl (Or.inl rfl))) (fun _ _ _ _ _ => pts_one (pt_not (pt_val (pe_call ih (by exact hr) (by rfl) C_law_alike.g C_law_alike.k C_law_alike.a .nil pass0 (pa_cons (pe_ix ix_seq (pv 0) (pv 2) (fun _ _ => rfl)) (pa_cons (pe_ix ix_seq (pv 1) (pv 2) (fun _ _ => rfl)) pa_nil)))))) (fun _ _ _ _ _ => (pv 2))) (pe_lst pa_nil) (nomark _)))))) pss_nil)
      (pss_cons (ps_if (PW.pt (pw_or (pt_cmpR op_isN (pv 1) pe_non (nomark _)) (pw_or1 (pt_val (pe_callB call_isi (by rfl) B.isinstance (by decide +kernel) (pa_cons (pv 1) (pa_cons (pe_bltn (v := .ty "str") (by rfl) B.str (by decide +kernel) rfl) pa_nil))))))) (pss_one (ps_ret (pe_and (pe_cmpR op_eq (pv 0) (pv 1) (nomark _)) (pe_one (pe_cmpR op_eq (pe_callB call_isi (by rfl) B.isinstance (by decide +kernel) (pa_cons (pv 0) (pa_cons (pe_bltn (v := .ty "str") (by rfl) B.str (by decide +kernel) rfl) pa_nil))) (pe_callB call_isi (by rfl) B.isinstance (by decide +kernel) (pa_cons (pv 1) (pa_cons (pe_bltn (v := .ty "str") (by rfl) B.str (by decide +kernel) rfl) pa_nil))) (nomark _)))))) pss_nil)
      (pss_one (ps_ret (pe_and (pe_callB call_isi (by rfl) B.isinstance (by decide +kernel) (pa_cons (pv 0) (pa_cons (pe_bltn (v := .ty "int") (by rfl) B.int (by decide +kernel) rfl) pa_nil))) (pe_and (pe_cmpR op_eq (pe_callB call_isi (by rfl) B.isinstance (by decide +kernel) (pa_cons (pv 0) (pa_cons (pe_bltn (v := .ty "bool") (by rfl) B.bool (by decide +kernel) rfl) pa_nil))) (pe_callB call_isi (by rfl) B.isinstance (by decide +kernel) (pa_cons (pv 1) (pa_cons (pe_bltn (v := .ty "bool") (by rfl) B.bool (by decide +kernel) rfl) pa_nil))) (nomark _)) (pe_one (pe_cmpR op_eq (pv 0) (pv 1) (nomark _))))))))), ?_⟩
    refine LS.body j q ?_
    walk_at "ob"
    refine ⟨by walk_at "ob_len", fun t1 ht1 => ?_⟩
    walk_at "ob"
    have g1 : Ex F (upd F t1 (.tup [.ty "tuple", .ty "list"])) := by walk_at "ob_ex"
    have fin : ∀ b, b = true → R (.bl b) (upd F t1 (.tup [.ty "tuple", .ty "list"])) := fun b e => by rw [e]; exact k _ g1
    cases d with
    | none =>
      cases dp_non hx
      refine cw_isi2 hd (b1 := false) (b2 := false) upd_same (dp_ex g1 hy) (by simp only [tyD]; decide +kernel) (by simp only [tyD]; decide +kernel) ?_
      walk_at "ob"
      refine ⟨(fun h => by cases h), fun _ => ?_⟩
      cases dp_non hy
      walk_at "ob"
      refine ⟨fun _ => ⟨fun _ => ?_, fun h => by cases h⟩, fun h => absurd h (by decide)⟩
      walk_at "ob"
      refine ⟨fun _ => ?_, fun h => absurd h (by decide)⟩
      walk_at "ob"
      refine cw_isi hd (n := "str") (b := false) (dp_ex g1 hx) (by simp only [tyD]; decide +kernel) ?_
      walk_at "ob"
      refine cw_isi hd (n := "str") (b := false) (dp_ex g1 hy) (by simp only [tyD]; decide +kernel) ?_
      walk_at "ob"
      exact fin _ (by decide)
    | str z =>
      cases dp_str hx
      refine cw_isi2 hd (b1 := false) (b2 := false) upd_same (dp_ex g1 hy) (by simp only [tyD]; decide +kernel) (by simp only [tyD]; decide +kernel) ?_
      walk_at "ob"
      refine ⟨(fun h => by cases h), fun _ => ?_⟩
      cases dp_str hy
      walk_at "ob"
      refine ⟨fun h => by simp at h, fun _ => ?_⟩
      walk_at "ob"
      refine cw_isi hd (n := "str") (b := true) (dp_ex g1 hy) (by simp only [tyD]; decide +kernel) ?_
      walk_at "ob"
      refine ⟨fun _ => ?_, (fun h => by cases h)⟩
      walk_at "ob"
      refine ⟨fun _ => ?_, fun h => by simp at h⟩
      walk_at "ob"
      refine cw_isi hd (n := "str") (b := true) (dp_ex g1 hx) (by simp only [tyD]; decide +kernel) ?_
      walk_at "ob"
      refine cw_isi hd (n := "str") (b := true) (dp_ex g1 hy) (by simp only [tyD]; decide +kernel) ?_
      walk_at "ob"
      exact fin _ (by decide)
    | bool b =>
      cases dp_bl hx
      refine cw_isi2 hd (b1 := false) (b2 := false) upd_same (dp_ex g1 hy) (by simp only [tyD]; decide +kernel) (by simp only [tyD]; decide +kernel) ?_
      walk_at "ob"
      refine ⟨(fun h => by cases h), fun _ => ?_⟩
      cases dp_bl hy
      walk_at "ob"
      refine ⟨fun h => by simp at h, fun _ => ?_⟩
      walk_at "ob"
      refine cw_isi hd (n := "str") (b := false) (dp_ex g1 hy) (by simp only [tyD]; decide +kernel) ?_
      walk_at "ob"
      refine ⟨(fun h => by cases h), fun _ => ?_⟩
      walk_at "ob"
      refine cw_isi hd (n := "int") (b := true) (dp_ex g1 hx) (by simp only [tyD]; decide +kernel) ?_
      walk_at "ob"
      refine ⟨fun _ => ?_, (fun h => by cases h)⟩
      walk_at "ob"
      refine cw_isi hd (n := "bool") (b := true) (dp_ex g1 hx) (by simp only [tyD]; decide +kernel) ?_
      walk_at "ob"
      refine cw_isi hd (n := "bool") (b := true) (dp_ex g1 hy) (by simp only [tyD]; decide +kernel) ?_
      walk_at "ob"
      refine ⟨fun _ => ?_, fun h => absurd h (by decide)⟩
      walk_at "ob"
      exact fin _ (by simp)
    | int i =>
      cases dp_int hx
      refine cw_isi2 hd (b1 := false) (b2 := false) upd_same (dp_ex g1 hy) (by simp only [tyD]; decide +kernel) (by simp only [tyD]; decide +kernel) ?_
      walk_at "ob"
      refine ⟨(fun h => by cases h), fun _ => ?_⟩
      cases dp_int hy
      walk_at "ob"
      refine ⟨fun h => by simp at h, fun _ => ?_⟩
      walk_at "ob"
      refine cw_isi hd (n := "str") (b := false) (dp_ex g1 hy) (by simp only [tyD]; decide +kernel) ?_
      walk_at "ob"
      refine ⟨(fun h => by cases h), fun _ => ?_⟩
      walk_at "ob"
      refine cw_isi hd (n := "int") (b := true) (dp_ex g1 hx) (by simp only [tyD]; decide +kernel) ?_
      walk_at "ob"
      refine ⟨fun _ => ?_, (fun h => by cases h)⟩
      walk_at "ob"
      refine cw_isi hd (n := "bool") (b := false) (dp_ex g1 hx) (by simp only [tyD]; decide +kernel) ?_
      walk_at "ob"
      refine cw_isi hd (n := "bool") (b := false) (dp_ex g1 hy) (by simp only [tyD]; decide +kernel) ?_
      walk_at "ob"
      refine ⟨fun _ => ?_, fun h => absurd h (by decide)⟩
      walk_at "ob"
      exact fin _ (by simp)
    | list ds =>
      have hz2 : ds.length ≤ 1000 ∧ ∃ n', n = n' + 1 ∧ ds.all (szD n') = true := by
        cases n with
        | zero => simp [szD] at hz
        | succ n' => simp only [szD, Bool.and_eq_true, decide_eq_true_eq] at hz; exact ⟨hz.1, n', rfl, hz.2⟩
      obtain ⟨hlen, n', rfl, hall⟩ := hz2
      refine cw_isi2 hd (b1 := false) (b2 := true) upd_same (dp_ex g1 hy) (by simp only [tyD]; decide +kernel) (by simp only [tyD]; decide +kernel) ?_
      walk_at "ob"
      refine ⟨fun _ => ?_, (fun h => by cases h)⟩
      walk_at "ob"
      refine ⟨by walk_at "ob_len", fun t2 ht2 => ?_⟩
      have g2 : Ex F (upd (upd F t1 (.tup [.ty "tuple", .ty "list"])) t2 (.tup [.ty "tuple", .ty "list"])) := by walk_at "ob_ex"
      walk_at "ob"
      refine cw_isi2 hd (b1 := false) (b2 := true) upd_same (dp_ex g2 hx) (by simp only [tyD]; decide +kernel) (by simp only [tyD]; decide +kernel) ?_
      walk_at "ob"
      refine ⟨(fun h => by cases h), fun _ => ?_⟩
      walk_at "ob"
      refine cw_isi hd (n := "list") (b := true) (dp_ex g2 hx) (by simp only [tyD]; decide +kernel) ?_
      walk_at "ob"
      refine cw_isi hd (n := "list") (b := true) (dp_ex g2 hy) (by simp only [tyD]; decide +kernel) ?_
      walk_at "ob"
      refine ⟨fun h => by simp at h, fun _ => ?_⟩
      obtain ⟨xa, xs, rfl, hxs, hxd⟩ := dp_lst hx
      obtain ⟨ya, ys, rfl, hys, hyd⟩ := dp_lst hy
      have lx : xs.length = ds.length := dps_len hxd
      have ly : ys.length = ds.length := dps_len hyd
      walk_at "ob"
      refine cw_lenS hd (ys := xs) (Or.inl (g2.sqL hxs)) ?_
      walk_at "ob"
      refine cw_lenS hd (ys := ys) (Or.inl (g2.sqL hys)) ?_
      rw [lx, ly]
      walk_at "ob"
      refine ⟨fun h => by simp at h, fun _ => ?_⟩
      walk_at "ob"
      refine ew_lcR hd ?_
      walk_at "ob"
      refine cw_lenS hd (ys := ys) (Or.inl (g2.sqL hys)) ?_
      rw [ly]
      walk_at "ob"
      refine ⟨(ds.length : Int), rfl, by omega, by omega, fun Dl hDl => ?_⟩
      refine ⟨fun i acc _ G => acc = [] ∧ Ex (upd (upd F t1 (.tup [.ty "tuple", .ty "list"])) t2 (.tup [.ty "tuple", .ty "list"])) G, ⟨rfl, .refl _⟩, ?_, ?_, ?_⟩
      · rintro i acc _ G hi hg ⟨rfl, g⟩
        exact Nat.zero_le _
      · rintro i acc _ G hi hg ⟨rfl, g⟩
        have hd' := hd.jd (D := Dl) (acc := [])
        have hil : i < ds.length := by omega
        obtain ⟨vx, ex1, dx⟩ := dps_get hxd (List.getElem?_eq_getElem hil)
        obtain ⟨vy, ey1, dy⟩ := dps_get hyd (List.getElem?_eq_getElem hil)
        have hgx := g2.trans g
        refine gw_name ⟨rfl, ?_⟩
        walk_at "ob"
        refine ew_call hd' ?_
        walk_at "ob"
        refine rw_ixD hd' (Or.inl (hgx.sqL hxs)) ex1 ?_
        walk_at "ob"
        refine rw_ixD hd' (Or.inl (hgx.sqL hys)) ey1 ?_
        walk_at "ob"
        refine ⟨vx, vy, ds[i], rfl, dp_ex hgx dx, dp_ex hgx dy, List.all_eq_true.mp hall _ (List.getElem_mem hil), fun G2 gG => ?_⟩
        walk_at "ob"
        exact ⟨(fun h => by cases h), fun _ => ⟨rfl, g.trans gG⟩⟩
      · rintro acc _ G hg ⟨rfl, g⟩
        walk_at "ob"
        refine ⟨by walk_at "ob_len", fun e1 he1 => ?_⟩
        refine rw_eqD hd (d := .list []) (e := .list []) (.lst (SqL.of (by walk_at "ob_at")) .nil) (.lst (SqL.of upd_same) .nil) (shaped_low (n := 1) rfl) (shaped_low (n := 1) rfl) ?_
        have he2 : G e1 = none := (Ex.out (F := G) (.refl _) hg).free he1
        exact k _ ((g2.trans g).trans (Ex.new (Ex.out (.refl _) hg) he1))
    | tuple ds =>
      have hz2 : ds.length ≤ 1000 ∧ ∃ n', n = n' + 1 ∧ ds.all (szD n') = true := by
        cases n with
        | zero => simp [szD] at hz
        | succ n' => simp only [szD, Bool.and_eq_true, decide_eq_true_eq] at hz; exact ⟨hz.1, n', rfl, hz.2⟩
      obtain ⟨hlen, n', rfl, hall⟩ := hz2
      refine cw_isi2 hd (b1 := true) (b2 := false) upd_same (dp_ex g1 hy) (by simp only [tyD]; decide +kernel) (by simp only [tyD]; decide +kernel) ?_
      walk_at "ob"
      refine ⟨fun _ => ?_, (fun h => by cases h)⟩
      walk_at "ob"
      refine ⟨by walk_at "ob_len", fun t2 ht2 => ?_⟩
      have g2 : Ex F (upd (upd F t1 (.tup [.ty "tuple", .ty "list"])) t2 (.tup [.ty "tuple", .ty "list"])) := by walk_at "ob_ex"
      walk_at "ob"
      refine cw_isi2 hd (b1 := true) (b2 := false) upd_same (dp_ex g2 hx) (by simp only [tyD]; decide +kernel) (by simp only [tyD]; decide +kernel) ?_
      walk_at "ob"
      refine ⟨(fun h => by cases h), fun _ => ?_⟩
      walk_at "ob"
      refine cw_isi hd (n := "list") (b := false) (dp_ex g2 hx) (by simp only [tyD]; decide +kernel) ?_
      walk_at "ob"
      refine cw_isi hd (n := "list") (b := false) (dp_ex g2 hy) (by simp only [tyD]; decide +kernel) ?_
      walk_at "ob"
      refine ⟨fun h => by simp at h, fun _ => ?_⟩
      obtain ⟨xa, xs, rfl, hxs, hxd⟩ := dp_tup hx
      obtain ⟨ya, ys, rfl, hys, hyd⟩ := dp_tup hy
      have lx : xs.length = ds.length := dps_len hxd
      have ly : ys.length = ds.length := dps_len hyd
      walk_at "ob"
      refine cw_lenS hd (ys := xs) (Or.inr (g2.sqT hxs)) ?_
      walk_at "ob"
      refine cw_lenS hd (ys := ys) (Or.inr (g2.sqT hys)) ?_
      rw [lx, ly]
      walk_at "ob"
      refine ⟨fun h => by simp at h, fun _ => ?_⟩
      walk_at "ob"
      refine ew_lcR hd ?_
      walk_at "ob"
      refine cw_lenS hd (ys := ys) (Or.inr (g2.sqT hys)) ?_
      rw [ly]
      walk_at "ob"
      refine ⟨(ds.length : Int), rfl, by omega, by omega, fun Dl hDl => ?_⟩
      refine ⟨fun i acc _ G => acc = [] ∧ Ex (upd (upd F t1 (.tup [.ty "tuple", .ty "list"])) t2 (.tup [.ty "tuple", .ty "list"])) G, ⟨rfl, .refl _⟩, ?_, ?_, ?_⟩
      · rintro i acc _ G hi hg ⟨rfl, g⟩
        exact Nat.zero_le _
      · rintro i acc _ G hi hg ⟨rfl, g⟩
        have hd' := hd.jd (D := Dl) (acc := [])
        have hil : i < ds.length := by omega
        obtain ⟨vx, ex1, dx⟩ := dps_get hxd (List.getElem?_eq_getElem hil)
        obtain ⟨vy, ey1, dy⟩ := dps_get hyd (List.getElem?_eq_getElem hil)
        have hgx := g2.trans g
        refine gw_name ⟨rfl, ?_⟩
        walk_at "ob"
        refine ew_call hd' ?_
        walk_at "ob"
        refine rw_ixD hd' (Or.inr (hgx.sqT hxs)) ex1 ?_
        walk_at "ob"
        refine rw_ixD hd' (Or.inr (hgx.sqT hys)) ey1 ?_
        walk_at "ob"
        refine ⟨vx, vy, ds[i], rfl, dp_ex hgx dx, dp_ex hgx dy, List.all_eq_true.mp hall _ (List.getElem_mem hil), fun G2 gG => ?_⟩
        walk_at "ob"
        exact ⟨(fun h => by cases h), fun _ => ⟨rfl, g.trans gG⟩⟩
      · rintro acc _ G hg ⟨rfl, g⟩
        walk_at "ob"
        refine ⟨by walk_at "ob_len", fun e1 he1 => ?_⟩
        refine rw_eqD hd (d := .list []) (e := .list []) (.lst (SqL.of (by walk_at "ob_at")) .nil) (.lst (SqL.of upd_same) .nil) (shaped_low (n := 1) rfl) (shaped_low (n := 1) rfl) ?_
        have he2 : G e1 = none := (Ex.out (F := G) (.refl _) hg).free he1
        exact k _ ((g2.trans g).trans (Ex.new (Ex.out (.refl _) hg) he1))
    | dict kv => cases hx
end
end Obr
/-! ### a world with a machine that does nothing, and without it -/
namespace Obr
open PySem L2 PyProof.Rows
def gap (o : Nat) (x : Int) : Int := if x < o then x else x + 1
def gapN (o j : Nat) : Nat := if j < o then j else j + 1
structure OutW (o : Nat) (w w' : Wld) : Prop where
  cap : w'.cap = w.cap
  start : w'.start = w.start
  refill : w'.refill = w.refill
  len : w'.ms.length = w.ms.length + 1
  le : o ≤ w.ms.length
  ms : ∀ j : Nat, w'.ms[gapN o j]? = w.ms[j]?
  at_ : w'.ms[o]? = some []
structure OutS (o : Nat) (u t : LSt) : Prop where
  level : t.level = u.level
  beat : t.beat = u.beat
  last : t.last = gap o u.last
  ms : ∀ j : Nat, t.ms[gapN o j]? = u.ms[j]?
  at_ : ∃ m0, t.ms[o]? = some m0 ∧ m0.at_ = 0 ∧ m0.over = -1
def gapC (o : Nat) (c : Clm) : Clm := ⟨gap o c.k, c.draw, c.since⟩
/-- in the midst of the draws -/
structure OutX (o : Nat) (x y : LSt × List Int × Bool) : Prop where
  s : OutS o x.1 y.1
  bg : y.2.1 = x.2.1.map (gap o)
  op : y.2.2 = x.2.2
end Obr
/-! a list or a tuple: the way is chosen where what stands in the slot is known -/
namespace Obr
open PySem L2 PyProof.Rows
def wiOr (w1 w2 : TI) : TI := fun σ H R => w1 σ H R ∨ w2 σ H R
def teOr (t1 t2 : TE) : TE := fun σ H Q => t1 σ H Q ∨ t2 σ H Q
section
variable {S : Type} {J : S → Hp → Hp → Prop} {σ : L2.St} {s : S} {F : Hp} {R : V → S → Hp → Prop} {t1 t2 te : TE} {w1 w2 : TI} {g : TG} {tt : TT} {vs : List Nat} {D : En S} {tb : TS}
end
end Obr
namespace Obr
open PySem L2 PySem.Spec PyProof.Rows RZ
/-! ### zip of a tuple and a list -/
def ItM (K : PySem.W.Frag) (a b : Addr) : It where
  go := fun i H => ∃ (us vs : List V) (u v : V), SqT K H a us ∧ SqL K H b vs ∧ us[i]? = some u ∧ vs[i]? = some v
  yld := fun i H r H' => ∃ T u v, r = .ref T ∧ H T = none ∧ H' = upd H T (.tup [u, v]) ∧ (∀ us, SqT K H a us → us[i]? = some u) ∧ ∀ vs, SqL K H b vs → vs[i]? = some v
  stop := fun i H => ∃ us vs : List V, SqT K H a us ∧ SqL K H b vs ∧ i ≤ us.length ∧ i ≤ vs.length ∧ (i = us.length ∨ i = vs.length)
structure StM (z TI TO i1 i2 a b : Addr) (i : Nat) (h : Heap) : Prop where
  zz : IsZip h z TI TO .none
  ti : IsTupOf2 h TI (.ref i1) (.ref i2)
  to : ∃ u v, IsTupOf2 h TO u v
  one : h.IsTupleIter i1 a i
  two : h.IsListIter i2 b i
def iZipM (K : PySem.W.Frag) (ta : TA) : TI := fun σ H R => ta σ H fun vs H1 => ∃ a b xs ys, vs = [.ref a, .ref b] ∧ SqT K H1 a xs ∧ SqL K H1 b ys ∧ R (ItM K a b) H1
section
variable {S : Type} {J : S → Hp → Hp → Prop} {K : PySem.W.Frag} {σ : L2.St} {s : S} {F : Hp} {R : V → S → Hp → Prop} {te : TE} {tt : TT} {g : TG} {ta : TA} {vs : List Nat}
/-- what a comprehension over a zip of xs and ys asks -/
def ZipAsk (J : S → Hp → Hp → Prop) (g : TG) (tt : TT) (te : TE) (vs : List Nat) (σ : L2.St) (xs ys : List V) (R : V → S → Hp → Prop) (s1 : S) (F1 : Hp) (st : Hp → Prop) : Prop :=
  xs.length = ys.length ∧ xs.length ≤ 100000 ∧ ∀ Dl, F1 Dl = none → ∃ Pv : Nat → List V → S → Hp → Prop, Pv 0 [] s1 F1 ∧
      (∀ i acc s F, i ≤ xs.length → F Dl = none → Pv i acc s F → st F ∧ acc.length ≤ i) ∧ (∀ (i : Nat) acc x y s F T, xs[i]? = some x → ys[i]? = some y → F Dl = none → Pv i acc s F → F T = none → T ≠ Dl → LcTurn J Dl g tt te vs σ acc (.ref T) s (upd F T (.tup [x, y])) (Pv (i + 1))) ∧
      (∀ acc s F, F Dl = none → Pv xs.length acc s F → R (.ref Dl) s (upd F Dl (.lst acc)))
end
end Obr
/-! a comprehension over a zip of two lists, or two tuples, of any lengths -/
namespace Obr
open PySem L2 PySem.Spec PyProof.Rows RZ
section
variable {S : Type} {J : S → Hp → Hp → Prop} {K : PySem.W.Frag} {σ : L2.St} {s : S} {F : Hp} {R : V → S → Hp → Prop} {te : TE} {tt : TT} {g : TG} {ta : TA} {vs : List Nat}
def ZipAsk2 (J : S → Hp → Hp → Prop) (g : TG) (tt : TT) (te : TE) (vs : List Nat) (σ : L2.St) (xs ys : List V) (R : V → S → Hp → Prop) (s1 : S) (F1 : Hp) (st : Hp → Prop) : Prop :=
  xs.length ≤ 100000 ∧ ∀ Dl, F1 Dl = none → ∃ Pv : Nat → List V → S → Hp → Prop, Pv 0 [] s1 F1 ∧
      (∀ i acc s F, i ≤ min xs.length ys.length → F Dl = none → Pv i acc s F → st F ∧ acc.length ≤ i) ∧ (∀ (i : Nat) acc x y s F T, xs[i]? = some x → ys[i]? = some y → F Dl = none → Pv i acc s F → F T = none → T ≠ Dl → LcTurn J Dl g tt te vs σ acc (.ref T) s (upd F T (.tup [x, y])) (Pv (i + 1))) ∧
      (∀ acc s F, F Dl = none → Pv (min xs.length ys.length) acc s F → R (.ref Dl) s (upd F Dl (.lst acc)))
end
end Obr
/-! enumerate of a list in a for; comprehensions that read items one by one and change nothing -/
namespace Obr
open PySem L2 PySem.Spec PyProof.Rows RZ
theorem walk_enumL {K : PySem.W.Frag} {a : Addr} {xs : List V} : Walk (Ite K a) xs.length (fun H => SqL K H a xs) (YPair (fun i => some (.int (i : Nat))) (fun i => xs[i]?)) := by
  refine ⟨fun i _ hi q => ⟨xs, xs[i], q, by simp [hi]⟩, fun _ q => ⟨xs, q, Nat.le_refl _⟩, fun i H v H' _ q y => ?_⟩
  obtain ⟨T, x, h1, h2, h3, h4⟩ := y
  exact ⟨T, .int (i : Nat), x, h1, h2, h3, rfl, h4 xs q⟩
section
variable {S : Type} {J : S → Hp → Hp → Prop} {K : PySem.W.Frag} {σ : L2.St} {s : S} {F : Hp} {R : V → S → Hp → Prop} {te tl : TE} {tt : TT} {t : TS} {g : TG} {ta : TA} {D : En S} {vs : List Nat}
theorem sw_forEL (hd : Hid J) (h : AW J ta σ s F fun ws s1 F1 => ∃ (a : Addr) (xs : List V) (Pv : Nat → L2.St → S → Hp → Prop), ws = [.ref a] ∧ SqL K F1 a xs ∧ Pv 0 σ s1 F1 ∧ (∀ i σ s F, i ≤ xs.length → Pv i σ s F → SqL K F a xs) ∧
      (∀ (i : Nat) x σ s F T, xs[i]? = some x → Pv i σ s F → F T = none → GW J g (.ref T) σ s (upd F T (.tup [.int (i : Int), x])) fun σ s F => SW J t { D with nx := Pv (i + 1), ct := Pv (i + 1), bk := D.nx } σ s F) ∧ (∀ σ s F, Pv xs.length σ s F → D.nx σ s F)) :
    SW J (tFor (iEnum K ta) g t) D σ s F := fun H j D' l =>
  h H j _ fun v s1 F1 H1 j1 ⟨a, xs, Pv, e, l1, h0, hl, hs, hdn⟩ => ⟨a, xs, e, hd.sqL j1 l1, for_it walk_enumL (fun i σ H => ∃ s F, J s F H ∧ Pv i σ s F) ⟨s1, F1, j1, h0⟩
    (fun i σ' H' hi ⟨s', F', j', p⟩ => hd.sqL j' (hl i σ' s' F' hi p))
    (fun i x σ' H' H'' hi ⟨s', F', j', p⟩ ⟨T, y, z, ex, hT, eH, e1, e2⟩ => by
      subst ex eH
      cases e1
      exact hs i z σ' s' F' T e2 p (hd.fresh j' hT) _ (hd.al j' hT) _ fun σ2 s2 F2 H2 j2 k => k H2 j2 _ ⟨fun σ3 s3 F3 H3 j3 k3 => ⟨s3, F3, j3, k3⟩, l.rt, l.nx, fun σ3 s3 F3 H3 j3 k3 => ⟨s3, F3, j3, k3⟩⟩)
    (fun σ' H' ⟨s', F', j', p⟩ => l.nx _ _ _ _ j' (hdn σ' s' F' p))⟩
/-- a list or a tuple -/
def SqO (K : PySem.W.Frag) (F : Hp) (a : Addr) (xs : List V) : Prop := SqL K F a xs ∨ SqT K F a xs
/-- [f(x) for x in a list or tuple] that changes nothing but makes new things -/
theorem lc_turns {α : Type} (hd : Hid J) {e f : α → V} {l : List α} {Dl : Addr} (st : Hp → Prop) (hst : ∀ G, Ex F G → st G)
    (turn : ∀ (i : Nat) x acc G, l[i]? = some x → Ex F G → G Dl = none → LcTurn J Dl g tt te vs σ acc (e x) s G fun acc' s' G' => s' = s ∧ Ex G G' ∧ acc' = acc ++ [f x])
    (k : ∀ G, Ex F G → G Dl = some (.lst (l.map f)) → R (.ref Dl) s G) :
    ∃ Pv : Nat → List V → S → Hp → Prop, Pv 0 [] s F ∧ (∀ i acc s F, i ≤ (l.map e).length → F Dl = none → Pv i acc s F → st F ∧ acc.length ≤ i) ∧
      (∀ (i : Nat) acc x s F, (l.map e)[i]? = some x → F Dl = none → Pv i acc s F → LcTurn J Dl g tt te vs σ acc x s F (Pv (i + 1))) ∧
      (∀ acc s F, F Dl = none → Pv (l.map e).length acc s F → R (.ref Dl) s (upd F Dl (.lst acc))) := by
  refine ⟨fun i acc s' G => s' = s ∧ Ex F G ∧ acc = (l.take i).map f, ⟨rfl, .refl _, rfl⟩, ?_, ?_, ?_⟩
  · rintro i acc s' G hi _ ⟨rfl, g1, rfl⟩
    exact ⟨hst _ g1, by rw [List.length_map]; exact List.length_take_le _ _⟩
  · rintro i acc x s' G hi hD ⟨rfl, g1, rfl⟩
    rw [List.getElem?_map] at hi
    obtain ⟨y, hy, rfl⟩ := Option.map_eq_some_iff.mp hi
    have z := turn i y ((l.take i).map f) G hy g1 hD
    unfold LcTurn at z ⊢
    intro H j Q q
    refine z H j Q fun σ2 s2 F2 H2 j2 ⟨h1, h2⟩ => q σ2 s2 F2 H2 j2 ⟨h1, fun H3 j3 Q3 q3 => h2 H3 j3 Q3 fun b s4 F4 H4 j4 ⟨p1, p2⟩ => q3 b s4 F4 H4 j4 ⟨fun hb => ?_, fun hb => ?_⟩⟩
    · refine (p1 hb).imp fun v s5 F5 ⟨y1, y2, y3⟩ => ⟨y1, g1.trans y2, ?_⟩
      rw [y3, List.take_succ, hy, List.map_append]
      rfl
    · obtain ⟨_, _, y3⟩ := p2 hb
      have := congrArg List.length y3
      simp at this
  · rintro acc s' G hD ⟨rfl, g1, rfl⟩
    rw [List.length_map, List.take_length]
    exact k _ (Ex.new g1 hD) upd_same
theorem ew_lcLf {α : Type} (hd : Hid J) {a : Addr} {e f : α → V} {l : List α} (h : EW J tl σ s F fun v s1 F1 => v = .ref a ∧ s1 = s ∧ F1 = F) (row : SqL K F a (l.map e)) (hl : l.length ≤ 100000)
    (turn : ∀ (i : Nat) x Dl acc G, l[i]? = some x → Ex F G → G Dl = none → LcTurn J Dl g tt te vs σ acc (e x) s G fun acc' s' G' => s' = s ∧ Ex G G' ∧ acc' = acc ++ [f x])
    (k : ∀ Dl G, Ex F G → G Dl = some (.lst (l.map f)) → R (.ref Dl) s G) : EW J (tLc (iList K tl) g tt te vs) σ s F R :=
  ew_lcL hd (h.imp fun v s1 F1 ⟨ev, es, eF⟩ => by
    subst ev es eF
    exact ⟨a, _, rfl, row, by rw [List.length_map]; exact hl, fun Dl _ => lc_turns hd (fun G => SqL K G a (l.map e)) (fun G g1 => g1.sqL row) (fun i x acc G => turn i x Dl acc G) (k Dl)⟩)
end
end Obr
namespace Obr
open PySem L2 PyProof.Rows
local macro_rules | `(tactic| walk_at "ob_at") => `(tactic| first
  | assumption
  | exact upd_same
  | (refine Eq.trans (upd_ne ?obn) ?obr; (case obn => walk_at "ob_ne"); (case obr => walk_at "ob_at")))
local macro_rules | `(tactic| walk_at "ob_ne") => `(tactic| first
  | assumption
  | (refine Ne.symm ?obs; (case obs => assumption))
  | (refine' ne_of_none (H := ?_) ?obe ?obh; (case obh => assumption); (case obe => walk_at "ob_at"))
  | (refine Ne.symm ?obs; (case obs => (refine' ne_of_none (H := ?_) ?obe ?obh; (case obh => assumption); (case obe => walk_at "ob_at")))))
local macro_rules | `(tactic| walk_at "ob_fr") => `(tactic| first
  | assumption
  | (refine Eq.trans (upd_ne ?obn) ?obr; (case obn => walk_at "ob_ne"); (case obr => walk_at "ob_fr"))
  | (refine Ex.free (G := ?_) (by assumption) ?obh; (case obh => walk_at "ob_fr")))
local macro_rules | `(tactic| walk_at "ob_ex") => `(tactic| first
  | assumption
  | exact Ex.refl _
  | (refine Ex.out ?obg ?obh; (case obh => assumption); (case obg => walk_at "ob_ex"))
  | (refine Ex.new ?obg ?obh; (case obh => assumption); (case obg => walk_at "ob_ex"))
  | (refine Ex.new ?obg ?obh; (case obh => walk_at "ob_fr"); (case obg => walk_at "ob_ex")))
local macro_rules | `(tactic| walk_at "ob_sq") => `(tactic| first
  | assumption
  | (refine SqL.of ?oba; (case oba => walk_at "ob_at"))
  | (refine Ex.sqT (F := ?_) ?obg ?obh; (case obh => assumption); (case obg => walk_at "ob_ex"))
  | (refine Ex.sqL (F := ?_) ?obg ?obh; (case obh => assumption); (case obg => walk_at "ob_ex"))
  | (refine SqT.of ?oba; (case oba => walk_at "ob_at")))
local macro_rules | `(tactic| walk_at "ob_side") => `(tactic| first | exact rfl | assumption | decide | omega | exact ⟨by decide, by decide, by decide⟩ | exact Or.inr ⟨by decide, by decide⟩ | exact Or.inl ⟨by decide, by decide⟩ | exact wide_div (b := 60) (by first | decide | omega) (by first | decide | omega) (by decide) (by decide))
local macro_rules | `(tactic| walk_at "ob1") => `(tactic| first
  | with_reducible refine sw_seq ?_
  | with_reducible refine sw_asg ?_
  | with_reducible refine sw_ret ?_
  | with_reducible refine sw_par ?_
  | with_reducible refine ⟨_, _, rfl, ?_⟩
  | with_reducible refine sw_drop ?_
  | with_reducible refine sw_if ?_
  | with_reducible refine sw_next ?_
  | with_reducible refine gw_name ?_
  | with_reducible refine gw_subL (by assumption) ?_
  | with_reducible refine gsw_cons ?_
  | with_reducible refine gsw_nil ?_
  | with_reducible refine ew_c ?_
  | ((with_reducible refine' ew_var (v := ?_) ?obv ?_); (case obv => exact rfl))
  | ((with_reducible refine ew_next (by assumption) ?obv ?_); (case obv => exact rfl))
  | ((with_reducible refine ew_world (by assumption) ?obv ?_); (case obv => exact rfl))
  | ((with_reducible refine ew_rule (by assumption) ?obv ?_); (case obv => exact rfl))
  | with_reducible refine ew_op ?_
  | with_reducible refine ew_un ?_
  | with_reducible refine ew_dget (by assumption) ?_
  | with_reducible refine uw_I ?_
  | with_reducible refine ppw_nil ?_
  | with_reducible refine ppw_cons ?_
  | with_reducible refine sw_dput (by assumption) ?_
  | with_reducible refine ew_cb ?_
  | with_reducible refine ew_if ?_
  | with_reducible refine ew_slL (by assumption) ?_
  | with_reducible refine ow_some ?_
  | with_reducible refine ow_none ?_
  | with_reducible refine aw_nil ?_
  | with_reducible refine aw_cons ?_
  | with_reducible refine rw_I0 ?_
  | ((with_reducible refine rw_I ?obc ?_); (case obc => walk_at "ob_side"))
  | with_reducible refine rw_isN ?_
  | with_reducible refine rw_notN ?_
  | ((with_reducible refine rw_eq ?obc ?_); (case obc => exact rfl))
  | ((with_reducible refine rw_ne ?obc ?_); (case obc => exact rfl))
  | with_reducible refine cw_max2 ?_
  | with_reducible refine cw_min2 ?_
  | with_reducible refine tw_test ?_
  | with_reducible refine tw_B ?_
  | with_reducible refine tw_not ?_
  | with_reducible refine tw_truB ?_
  | with_reducible refine tw_and ?_
  | with_reducible refine tw_or ?_
  | with_reducible refine ew_and ?_
  | (refine' Exists.intro _ (And.intro (show V.bl _ = V.bl _ from rfl) ?_))
  | (refine' Exists.intro _ (And.intro (show V.int _ = V.int _ from rfl) ?_))
  | ((with_reducible refine' rw_ixL (v := ?_) (xs := ?_) (by assumption) ?obl ?oba ?_); (case obl => walk_at "ob_sq"); (case oba => first | exact rfl | exact at_zero))
  | ((with_reducible refine' rw_ixT (v := ?_) (xs := ?_) (by assumption) ?obl ?oba ?_); (case obl => walk_at "ob_sq"); (case oba => first | exact rfl | exact at_zero))
  | ((with_reducible refine' ew_lst (by assumption) ?_))
  | ((with_reducible refine' ew_tup (by assumption) ?_)))
local macro_rules | `(tactic| walk_at "ob_len") => `(tactic| first | exact Nat.le_of_ble_eq_true rfl | (simp; done) | omega)
local macro_rules | `(tactic| walk_at "ob") => `(tactic| repeat walk_at "ob1")

/-! ### deeds -/
inductive Deed
  | enter (ss : List Stp)
  | tick
  | pause (k : Nat)
  | go (k : Nat)
  | lend (n : Int)
  | back (n : Int)
  | merge (c s f : Int)
def deedD : Deed → PyData
  | .enter ss => .tuple [.str "enter", macD ss]
  | .tick => .tuple [.str "tick"]
  | .pause k => .tuple [.str "pause", .int (k : Nat)]
  | .go k => .tuple [.str "go", .int (k : Nat)]
  | .lend n => .tuple [.str "lend", .int n]
  | .back n => .tuple [.str "back", .int n]
  | .merge c s f => .tuple [.str "merge", .tuple [.int c, .int s, .int f]]
/-- a store that goes on: its world and state, what is lent, of each machine whether it's paused and all its steps -/
structure Hl where
  w : Wld
  t : LSt
  ln : Int
  sv : List (Bool × List Stp)
inductive HStep (r : Rgt) (p : Bool) : Hl → Deed → Hl → Prop
  | enter {h : Hl} {ss : List Stp} : ss.length ≤ 6 → (∀ st ∈ ss, StpOk h.w.cap st) → h.w.ms.length < 5 → HStep r p h (.enter ss) ⟨{ h.w with ms := h.w.ms ++ [ss] }, { h.t with ms := h.t.ms ++ [mac0 h.t.beat] }, h.ln, h.sv ++ [(false, ss)]⟩
  | tick {h : Hl} {t' : LSt} {lv : Int} {bs : List Int} : LBeat h.w r p false h.t t' lv bs → HStep r p h .tick ⟨h.w, t', h.ln, h.sv⟩
  | pause {h : Hl} {k : Nat} {full ss : List Stp} {m : Mac} : h.sv[k]? = some (false, full) → h.t.ms[k]? = some m → h.w.ms[k]? = some ss → HStep r p h (.pause k) ⟨stW h.w k (cutS ss m), h.t, h.ln, h.sv.set k (true, full)⟩
  | go {h : Hl} {k : Nat} {full ss : List Stp} {m : Mac} : h.sv[k]? = some (true, full) → h.t.ms[k]? = some m → h.w.ms[k]? = some ss → HStep r p h (.go k) ⟨stW h.w k full, { h.t with ms := h.t.ms.set k { m with since := h.t.beat } }, h.ln, h.sv.set k (false, full)⟩
  | lend {h : Hl} {n : Int} : 1 ≤ n → n ≤ h.t.level → HStep r p h (.lend n) ⟨h.w, { h.t with level := h.t.level - n }, h.ln + n, h.sv⟩
  | back {h : Hl} {n : Int} : 1 ≤ n → n ≤ h.ln → HStep r p h (.back n) ⟨h.w, { h.t with level := minI h.w.cap (h.t.level + n) }, h.ln - n, h.sv⟩
  | merge {h : Hl} {c s f : Int} : 1 ≤ c → c ≤ 99 → 0 ≤ s → s ≤ c → 0 ≤ f → f ≤ 9 → h.w.cap + c ≤ 99 → h.w.refill + f ≤ 9 → HStep r p h (.merge c s f) ⟨{ h.w with cap := h.w.cap + c, refill := h.w.refill + f }, { h.t with level := h.t.level + s }, h.ln, h.sv⟩
/-- deeds one behind the other -/
inductive HGo (r : Rgt) (p : Bool) : Hl → List Deed → Hl → Prop
  | nil {h : Hl} : HGo r p h [] h
  | cons {h h1 h' : Hl} {d : Deed} {dl : List Deed} : HStep r p h d h1 → HGo r p h1 dl h' → HGo r p h (d :: dl) h'
theorem HGo.app {r : Rgt} {p : Bool} : ∀ {dl dl' : List Deed} {h h1 h2 : Hl}, HGo r p h dl h1 → HGo r p h1 dl' h2 → HGo r p h (dl ++ dl') h2
  | [], _, _, _, _, .nil, k => k
  | _ :: _, _, _, _, _, .cons s g, k => .cons s (g.app k)
theorem HGo.snoc {r : Rgt} {p : Bool} {dl : List Deed} {d : Deed} {h h1 h2 : Hl} (g : HGo r p h dl h1) (s : HStep r p h1 d h2) : HGo r p h (dl ++ [d]) h2 := g.app (.cons s .nil)
/-- what a beat and the others want, and what they keep -/
structure HI (h : Hl) : Prop where
  ok : LOk h.w h.t
  m5 : h.w.ms.length ≤ 5
  lg : ∀ ss ∈ h.w.ms, ∀ st ∈ ss, (0 : Int) ≤ st.long
  c0 : 1 ≤ h.w.cap
  f0 : 0 ≤ h.w.refill
  fl : ∀ x ∈ h.sv, ∀ st ∈ x.2, (0 : Int) ≤ st.long
  ls : h.sv.length = h.w.ms.length
  pre : ∀ (k : Nat) (z : Bool) (full ss : List Stp), h.sv[k]? = some (z, full) → h.w.ms[k]? = some ss → ss <+: full
theorem beat_lok {w : Wld} {r : Rgt} {p : Bool} {t t' : LSt} {lv : Int} {bg : List Int} (h : LOk w t) (b : LBeat w r p false t t' lv bg) : LOk w t' := by
  obtain ⟨hl, hb, hm⟩ := beat_ms h b
  refine ⟨by rw [hb]; have := h.b; omega, fun k m' ss h1 h2 => ?_, hl⟩
  obtain ⟨m, hk⟩ := ms_both' h.len h2
  obtain ⟨m2, g1, g2⟩ := hm k m ss hk h2
  rw [h1] at g1
  cases g1
  have ho := h.m k m ss hk h2
  have e : MacOk ss (endM false t.beat ss m) := by
    have a0 := ho.a0
    have a1 := ho.a1
    rcases endM_cases ho h.b with ⟨x1, x2, x3⟩ | ⟨x1, x3⟩
    · rw [x3]
      exact ⟨by show 0 ≤ m.at_ + 1; omega, by show m.at_ + 1 ≤ _; omega, fun z => absurd z (by show ¬ (0 : Int) ≤ -1; decide)⟩
    · rw [x3]; exact ho
  by_cases c : (endM false t.beat ss m).over < 0 ∧ (endM false t.beat ss m).at_ < ss.length
  · obtain ⟨st, hst, ⟨_, q⟩ | ⟨_, q⟩⟩ := g2.yes c
    · rw [q]; exact ⟨e.a0, e.a1, fun _ => c.2⟩
    · rw [q]; exact ⟨e.a0, e.a1, e.o⟩
  · rw [(g2.no c).1]; exact e
theorem HI.step {r : Rgt} {p : Bool} {h h' : Hl} {d : Deed} (hi : HI h) (hs : HStep r p h d h') : HI h' := by
  have nn : ∀ {cap : Int} {ss : List Stp}, (∀ st ∈ ss, StpOk cap st) → ∀ st ∈ ss, (0 : Int) ≤ st.long := fun z st hst => by have := (z st hst).l0; omega
  have hl := hi.ok.len
  have hls := hi.ls
  cases hs with
  | @enter ss h6 hso h5 =>
    refine ⟨⟨hi.ok.b, fun k m s2 h1 h2 => ?_, ?_⟩, ?_, ?_, hi.c0, hi.f0, ?_, ?_, ?_⟩
    · have h1 : (h.t.ms ++ [mac0 h.t.beat])[k]? = some m := h1
      have h2 : (h.w.ms ++ [ss])[k]? = some s2 := h2
      by_cases c : k < h.w.ms.length
      · rw [List.getElem?_append_left (by omega)] at h1 h2
        exact hi.ok.m k m s2 h1 h2
      · rw [List.getElem?_append_right (by omega)] at h1 h2
        have hk : k - h.w.ms.length = 0 := by
          have := (List.getElem?_eq_some_iff.mp h2).1
          simp at this
          omega
        rw [hl, hk] at h1
        rw [hk] at h2
        cases h1
        cases h2
        exact ⟨Int.le_refl 0, Int.natCast_nonneg _, fun z => absurd z (by show ¬ (0 : Int) ≤ -1; decide)⟩
    · show (h.t.ms ++ [_]).length = (h.w.ms ++ [_]).length
      rw [List.length_append, List.length_append, hl]
      rfl
    · show (h.w.ms ++ [_]).length ≤ 5
      rw [List.length_append]
      show _ + 1 ≤ 5
      omega
    · intro s2 h2
      rcases List.mem_append.mp h2 with z | z
      · exact hi.lg s2 z
      · rw [List.mem_singleton.mp z]; exact nn hso
    · intro x hx
      rcases List.mem_append.mp hx with z | z
      · exact hi.fl x z
      · rw [List.mem_singleton.mp z]; exact nn hso
    · show (h.sv ++ [_]).length = (h.w.ms ++ [_]).length
      rw [List.length_append, List.length_append, hls]
      rfl
    · intro k z full s2 h1 h2
      have h1 : (h.sv ++ [(false, ss)])[k]? = some (z, full) := h1
      have h2 : (h.w.ms ++ [ss])[k]? = some s2 := h2
      by_cases c : k < h.w.ms.length
      · rw [List.getElem?_append_left (by omega)] at h1 h2
        exact hi.pre k z full s2 h1 h2
      · rw [List.getElem?_append_right (by omega)] at h1 h2
        have hk : k - h.w.ms.length = 0 := by
          have := (List.getElem?_eq_some_iff.mp h2).1
          simp at this
          omega
        rw [hls, hk] at h1
        rw [hk] at h2
        cases h1
        cases h2
        exact List.prefix_refl _
  | tick b => exact ⟨beat_lok hi.ok b, hi.m5, hi.lg, hi.c0, hi.f0, hi.fl, hi.ls, hi.pre⟩
  | @pause k full ss m e1 e2 e3 =>
    have hkw := (List.getElem?_eq_some_iff.mp e3).1
    refine ⟨stW_ok hi.ok e2 (cutS_ok (hi.ok.m k m ss e2 e3)) (fun _ _ => rfl) rfl rfl, by show (h.w.ms.set k _).length ≤ 5; rw [List.length_set]; exact hi.m5, ?_, hi.c0, hi.f0, ?_, by show (h.sv.set k _).length = (h.w.ms.set k _).length; rw [List.length_set, List.length_set]; exact hls, ?_⟩
    · intro s2 h2
      rcases List.mem_or_eq_of_mem_set (show s2 ∈ h.w.ms.set k _ from h2) with z | z
      · exact hi.lg s2 z
      · rw [z]; exact fun st hst => hi.lg ss (List.mem_of_getElem? e3) st (cutS_pre.subset hst)
    · intro x hx
      rcases List.mem_or_eq_of_mem_set (show x ∈ h.sv.set k _ from hx) with z | z
      · exact hi.fl x z
      · rw [z]; exact hi.fl (false, full) (List.mem_of_getElem? e1)
    · intro j z f2 s2 h1 h2
      have h1 : (h.sv.set k (true, full))[j]? = some (z, f2) := h1
      have h2 : (h.w.ms.set k (cutS ss m))[j]? = some s2 := h2
      by_cases c : k = j
      · subst c
        rw [List.getElem?_set_self (by omega)] at h1 h2
        cases h1
        cases h2
        exact cutS_pre.trans (hi.pre k _ _ _ e1 e3)
      · rw [List.getElem?_set_ne c] at h1 h2
        exact hi.pre j z f2 s2 h1 h2
  | @go k full ss m e1 e2 e3 =>
    have hkw := (List.getElem?_eq_some_iff.mp e3).1
    have hkt := (List.getElem?_eq_some_iff.mp e2).1
    have ho := hi.ok.m k m ss e2 e3
    have hp := hi.pre k _ _ _ e1 e3
    have hpl := hp.length_le
    refine ⟨stW_ok (m := { m with since := h.t.beat }) hi.ok (by show (h.t.ms.set k _)[k]? = _; exact List.getElem?_set_self hkt) ⟨ho.a0, by have := ho.a1; show m.at_ ≤ _; omega, fun z => by have := ho.o z; show m.at_ < _; omega⟩ (fun j hj => by show (h.t.ms.set k _)[j]? = _; rw [List.getElem?_set_ne (Ne.symm hj)]) (by show (h.t.ms.set k _).length = _; rw [List.length_set]) rfl, by show (h.w.ms.set k _).length ≤ 5; rw [List.length_set]; exact hi.m5, ?_, hi.c0, hi.f0, ?_, by show (h.sv.set k _).length = (h.w.ms.set k _).length; rw [List.length_set, List.length_set]; exact hls, ?_⟩
    · intro s2 h2
      rcases List.mem_or_eq_of_mem_set (show s2 ∈ h.w.ms.set k _ from h2) with z | z
      · exact hi.lg s2 z
      · rw [z]; exact hi.fl (true, full) (List.mem_of_getElem? e1)
    · intro x hx
      rcases List.mem_or_eq_of_mem_set (show x ∈ h.sv.set k _ from hx) with z | z
      · exact hi.fl x z
      · rw [z]; exact hi.fl (true, full) (List.mem_of_getElem? e1)
    · intro j z f2 s2 h1 h2
      have h1 : (h.sv.set k (false, full))[j]? = some (z, f2) := h1
      have h2 : (h.w.ms.set k full)[j]? = some s2 := h2
      by_cases c : k = j
      · subst c
        rw [List.getElem?_set_self (by omega)] at h1 h2
        cases h1
        cases h2
        exact List.prefix_refl _
      · rw [List.getElem?_set_ne c] at h1 h2
        exact hi.pre j z f2 s2 h1 h2
  | lend _ _ => exact ⟨⟨hi.ok.b, hi.ok.m, hi.ok.len⟩, hi.m5, hi.lg, hi.c0, hi.f0, hi.fl, hi.ls, hi.pre⟩
  | back _ _ => exact ⟨⟨hi.ok.b, hi.ok.m, hi.ok.len⟩, hi.m5, hi.lg, hi.c0, hi.f0, hi.fl, hi.ls, hi.pre⟩
  | merge c0 _ _ _ f0 _ _ _ => exact ⟨⟨hi.ok.b, hi.ok.m, hi.ok.len⟩, hi.m5, hi.lg, by show 1 ≤ h.w.cap + _; have := hi.c0; omega, by show 0 ≤ h.w.refill + _; have := hi.f0; omega, hi.fl, hi.ls, hi.pre⟩
def SvAt (A : RAd) (h : Hl) : Prop := A.mads.map (fun ad => (ad.sv.pz, ad.sv.full)) = h.sv
theorem SEnt.put {sh : Bool} {K : PySem.W.Frag} {F0 F : Hp} {A : RAd} {t t' : LSt} {w w' : Wld} {r : Rgt} {p anew : Bool} {ex : List (Addr × HO)} (h : SEnt sh K F0 F A t w r p anew ex) (e : t'.ms = t.ms) (ew : w'.ms = w.ms) : SEnt sh K F0 (upd F A.a (.ins A.C A.dx (rfsS sh A t' w' r p anew))) A t' w' r p anew ex :=
  ⟨by rw [e]; exact h.own.set (i := 0) (a := A.a) (o' := .ins A.C A.dx (rfsS sh A t' w' r p anew)) rfl, by rw [ew]; exact h.st, by rw [ew]; exact h.len1, by rw [e, ew]; exact h.len2, by rw [e, ew]; exact h.pz, h.np, h.na⟩
theorem sw_match {S : Type} {J : S → Hp → Hp → Prop} {K : PySem.W.Frag} {σ : L2.St} {s : S} {F : Hp} {te : TE} {t : TM} {D : En S} (hd : Hid J) (h : EW J te σ s F fun v s1 F1 => ∃ (a : Addr) (xs : List V), v = .ref a ∧ SqT K F1 a xs ∧ SW J (t xs) D σ s1 F1) : SW J (tMatch K te t) D σ s F := fun H j D' l =>
  h H j _ fun v s1 F1 H1 j1 ⟨a, xs, e, hq, k⟩ => ⟨a, xs, e, hd.sqT j1 hq, k H1 j1 D' l⟩
section
variable {S : Type} {J : S → Hp → Hp → Prop} {σ : L2.St} {s : S} {F : Hp} {t : TS} {r : TM} {D : En S} {wd y : Str} {i : Nat} {v : V} {xs : List V}
theorem sw_two_hit (h : SW J t D (σ.set i (some v)) s F) : SW J (tmTwo wd i t r [.str wd, v]) D σ s F := fun H j D' l => ⟨fun z => absurd rfl z, fun x v' e => by cases e; exact ⟨wd, rfl, fun _ => h H j D' l, fun z => absurd rfl z⟩⟩
theorem sw_two_miss (n : y ≠ wd) (h : SW J (r [.str y, v]) D σ s F) : SW J (tmTwo wd i t r [.str y, v]) D σ s F := fun H j D' l => ⟨fun z => absurd rfl z, fun x v' e => by cases e; exact ⟨y, rfl, fun z => absurd z n, fun _ => h H j D' l⟩⟩
theorem sw_two_skip (n : xs.length ≠ 2) (h : SW J (r xs) D σ s F) : SW J (tmTwo wd i t r xs) D σ s F := fun H j D' l => ⟨fun _ => h H j D' l, fun x v' e => by subst e; exact absurd rfl n⟩
theorem sw_one_hit (h : SW J t D σ s F) : SW J (tmOne wd t r [.str wd]) D σ s F := fun H j D' l => ⟨fun z => absurd rfl z, fun x e => by cases e; exact ⟨wd, rfl, fun _ => h H j D' l, fun z => absurd rfl z⟩⟩
theorem sw_one_skip (n : xs.length ≠ 1) (h : SW J (r xs) D σ s F) : SW J (tmOne wd t r xs) D σ s F := fun H j D' l => ⟨fun _ => h H j D' l, fun x e => by subst e; exact absurd rfl n⟩
end
theorem sv_set {A : RAd} {h : Hl} (hs : SvAt A h) {k : Nat} {ad : MAd} (z : Bool) : (pzA A k ad z).mads.map (fun ad => (ad.sv.pz, ad.sv.full)) = h.sv.set k (z, ad.sv.full) := by
  show (A.mads.set k (pzAd ad z)).map _ = _
  rw [List.map_set, hs]
  rfl
theorem sv_get {A : RAd} {h : Hl} (hs : SvAt A h) {k : Nat} {z : Bool} {full : List Stp} (e : h.sv[k]? = some (z, full)) : ∃ ad, A.mads[k]? = some ad ∧ ad.sv.pz = z ∧ ad.sv.full = full := by
  rw [← hs, List.getElem?_map] at e
  obtain ⟨ad, h1, h2⟩ := Option.map_eq_some_iff.mp e
  simp only [Prod.mk.injEq] at h2
  exact ⟨ad, h1, h2.1, h2.2⟩
theorem cw_tupT {S : Type} {J : S → Hp → Hp → Prop} {K : PySem.W.Frag} {s : S} {F : Hp} {R : V → S → Hp → Prop} (hd : Hid J) {p : Addr} {ys : List V} (l : SqT K F p ys) (h : R (.ref p) s F) : CW J (fun xs H Q => ∃ p ys, xs = [.ref p] ∧ ((SqL K H p ys ∧ ∀ l, H l = none → Q (.ref l) (upd H l (.tup ys))) ∨ (SqT K H p ys ∧ Q (.ref p) H))) [.ref p] s F R :=
  fun H j Q q => ⟨p, ys, rfl, Or.inr ⟨hd.sqT j l, q _ _ _ _ j h⟩⟩
def aBInit (K : PySem.W.Frag) (BC C M : Addr) : List V → Hp → VK → Prop := fun vs F R => ∃ (Fb : Hp) (a dx : Addr) (sv rv : V) (w : Wld) (r : Rgt) (p : Bool), vs = [.ref a, sv, rv] ∧ F = upd Fb a (.ins BC dx []) ∧ Fb a = none ∧ Dp K Fb sv (stoD w) ∧ w.ms = [] ∧ Dp K Fb rv (rulD r p) ∧ WldOk w ∧
  ∀ (F0' F' : Hp) (b : BAd) (A : RAd), b.a = a → b.C = BC → A.C = C → A.M = M → A.hp = false → Ex Fb F0' → BEnt K F0' F' b A (lBegun w) w r p [] 0 [] → R .non F'
def aBEnter (K : PySem.W.Frag) (BC C M : Addr) : List V → Hp → VK → Prop := fun vs F R => ∃ (F0 : Hp) (b : BAd) (A : RAd) (t : LSt) (w : Wld) (r : Rgt) (p : Bool) (ds : List V) (ln : Int) (ex : List (Addr × HO)) (v : V) (ss : List Stp), vs = [.ref b.a, v] ∧ b.C = BC ∧ A.C = C ∧ A.M = M ∧ BEnt K F0 F b A t w r p ds ln ex ∧ Dp K F0 v (macD ss) ∧ ss.length ≤ 6 ∧ (∀ st ∈ ss, StpOk w.cap st) ∧ w.ms.length < 5 ∧ ds.length < 10000 ∧
  ∀ (F0' F' : Hp) (ad : MAd) (e : Addr), Ex F0 F0' → ad.sv.pz = false → ad.sv.full = ss → Dp K F0' (.ref e) (deedD (.enter ss)) → BEnt K F0' F' b { A with mads := A.mads ++ [ad] } { t with ms := t.ms ++ [mac0 t.beat] } { w with ms := w.ms ++ [ss] } r p (ds ++ [.ref e]) ln ex → R (.int (w.ms.length : Int)) F'
def aTick (K : PySem.W.Frag) (BC C M : Addr) : List V → Hp → VK → Prop := fun vs F R => ∃ (F0 : Hp) (b : BAd) (A : RAd) (t : LSt) (w : Wld) (r : Rgt) (p : Bool) (ds : List V) (ln : Int) (ex : List (Addr × HO)), vs = [.ref b.a] ∧ b.C = BC ∧ A.C = C ∧ A.M = M ∧ BEnt K F0 F b A t w r p ds ln ex ∧ LOk w t ∧ w.ms.length ≤ 5 ∧ (∀ ss ∈ w.ms, ∀ st ∈ ss, (0 : Int) ≤ st.long) ∧ ds.length < 10000 ∧
  ∀ (F0' F' : Hp) (q bg o e : Addr) (t' : LSt) (lv : Int) (bs : List Int), LBeat w r p false t t' lv bs → LOk w t' → Ex F0 F0' → F0' e = some (.tup [.str "tick"]) → F0' bg = some (.lst (bs.map V.int)) → F0' o = some (.lst ((overs t w.ms.length).map V.int)) → F0' q = some (.tup [.ref o, .ref bg, .int lv]) → BEnt K F0' F' b A t' w r p (ds ++ [.ref e]) ln ex → R (.ref q) F'
def aStock (K : PySem.W.Frag) (BC C : Addr) : List V → Hp → VK → Prop := fun vs F R => ∃ (F0 : Hp) (b : BAd) (A : RAd) (t : LSt) (w : Wld) (r : Rgt) (p : Bool) (ds : List V) (ln : Int) (ex : List (Addr × HO)), vs = [.ref b.a] ∧ b.C = BC ∧ A.C = C ∧ BEnt K F0 F b A t w r p ds ln ex ∧
  ∀ (q : Addr) (F' : Hp), Ex F F' → F q = none → F' q = some (.tup [.int w.cap, .int t.level, .int w.refill, .int ln]) → R (.ref q) F'
def aDeeds (K : PySem.W.Frag) (BC : Addr) : List V → Hp → VK → Prop := fun vs F R => ∃ (F0 : Hp) (b : BAd) (A : RAd) (t : LSt) (w : Wld) (r : Rgt) (p : Bool) (ds : List V) (ln : Int) (ex : List (Addr × HO)), vs = [.ref b.a] ∧ b.C = BC ∧ BEnt K F0 F b A t w r p ds ln ex ∧
  ∀ (q : Addr), F q = none → R (.ref q) (upd F q (.lst ds))
def StandTo (G : Hp) (A : RAd) (t : LSt) (i : Nat) (acc : List V) : Prop := ∀ (k : Nat) (m : Mac) (ad : MAd), k < i → t.ms[k]? = some m → A.mads[k]? = some ad → ∃ q : Addr, acc[k]? = some (.ref q) ∧ G q = some (.tup [.int m.at_, leftV m t.beat, .bl ad.sv.pz])
def aStanding (K : PySem.W.Frag) (BC C M : Addr) : List V → Hp → VK → Prop := fun vs F R => ∃ (F0 : Hp) (b : BAd) (A : RAd) (t : LSt) (w : Wld) (r : Rgt) (p : Bool) (ds : List V) (ln : Int) (ex : List (Addr × HO)), vs = [.ref b.a] ∧ b.C = BC ∧ A.C = C ∧ A.M = M ∧ BEnt K F0 F b A t w r p ds ln ex ∧ w.ms.length ≤ 5 ∧
  ∀ (q : Addr) (F' : Hp) (xs : List V), Ex F F' → F' q = some (.lst xs) → xs.length = w.ms.length → StandTo F' A t w.ms.length xs → R (.ref q) F'
def aThat (K : PySem.W.Frag) (BC C M : Addr) : List V → Hp → VK → Prop := fun vs F R => ∃ (F0 : Hp) (b : BAd) (A : RAd) (t : LSt) (w : Wld) (r : Rgt) (p : Bool) (ds : List V) (ln : Int) (ex : List (Addr × HO)) (k : Nat) (ad : MAd), vs = [.ref b.a, .int (k : Nat), .bl ad.sv.pz] ∧ b.C = BC ∧ A.C = C ∧ A.M = M ∧ BEnt K F0 F b A t w r p ds ln ex ∧ A.mads[k]? = some ad ∧ R (.ref ad.a) F
def aPause (K : PySem.W.Frag) (BC C M : Addr) : List V → Hp → VK → Prop := fun vs F R => ∃ (F0 : Hp) (b : BAd) (A : RAd) (t : LSt) (w : Wld) (r : Rgt) (p : Bool) (ds : List V) (ln : Int) (ex : List (Addr × HO)) (k : Nat) (ad : MAd) (m : Mac) (ss : List Stp), vs = [.ref b.a, .int (k : Nat)] ∧ b.C = BC ∧ A.C = C ∧ A.M = M ∧ BEnt K F0 F b A t w r p ds ln ex ∧ A.mads[k]? = some ad ∧ ad.sv.pz = false ∧ t.ms[k]? = some m ∧ w.ms[k]? = some ss ∧ MacOk ss m ∧ ds.length < 10000 ∧
  ∀ (F0' F' : Hp) (e : Addr), Ex F0 F0' → Dp K F0' (.ref e) (deedD (.pause k)) → BEnt K F0' F' b (pzA A k ad true) t (stW w k (cutS ss m)) r p (ds ++ [.ref e]) ln ex → R .non F'
def aGo (K : PySem.W.Frag) (BC C M : Addr) : List V → Hp → VK → Prop := fun vs F R => ∃ (F0 : Hp) (b : BAd) (A : RAd) (t : LSt) (w : Wld) (r : Rgt) (p : Bool) (ds : List V) (ln : Int) (ex : List (Addr × HO)) (k : Nat) (ad : MAd) (m : Mac) (ss : List Stp), vs = [.ref b.a, .int (k : Nat)] ∧ b.C = BC ∧ A.C = C ∧ A.M = M ∧ BEnt K F0 F b A t w r p ds ln ex ∧ A.mads[k]? = some ad ∧ ad.sv.pz = true ∧ t.ms[k]? = some m ∧ w.ms[k]? = some ss ∧ ds.length < 10000 ∧
  ∀ (F0' F' : Hp) (e : Addr), Ex F0 F0' → Dp K F0' (.ref e) (deedD (.go k)) → BEnt K F0' F' b (pzA A k ad false) { t with ms := t.ms.set k { m with since := t.beat } } (stW w k ad.sv.full) r p (ds ++ [.ref e]) ln ex → R .non F'
theorem set_sameM {l : List Mac} {k : Nat} {m : Mac} (h : l[k]? = some m) : l.set k m = l := by
  refine List.ext_getElem? fun j => ?_
  rw [List.getElem?_set]
  by_cases c : k = j
  · subst c
    have := (List.getElem?_eq_some_iff.mp h).1
    rw [if_pos rfl, h]
    simp [this]
  · rw [if_neg c]
section
variable {P : Program} {w : World} {K : PySem.W.Frag} {mg : Str → Option Value} {base : Heap} {BC C M : Addr} {tMM : Tok}

abbrev s_Breath__dot__deeds : Stmt := inClass (top 33) 11
def N_Breath_deeds : List Str := ["self"]
theorem sc_Breath_deeds : FnScope N_Breath_deeds ["self"] (defScope s_Breath__dot__deeds) := ⟨rfl, rfl, rfl, by decide +kernel, rfl, by decide +kernel, by decide +kernel⟩
theorem ok_Breath_deeds {f : Addr} {fd : FuncData}  (Fn : Fun K "deeds" "Breath.deeds" s_Breath__dot__deeds f fd) (B : Blt mg) (HB : ClsF K BC bkeys) (HR : ClsF K C rkeys) : FnOk P w K mg base CX0 1 f fd ["self"] (LS (aDeeds K BC)) := by
  refine Fn.ok sc_Breath_deeds (fun vs H Q E h => ?_) (fun cdv A outer s H vs Q E hr h => ?_)
  · obtain ⟨J, F, R, hd, j, h, _⟩ := h
    obtain ⟨F0, b, A, t, w, r, p, ds, ln, ex, rfl, _⟩ := h
    rfl
  · have nd := sc_Breath_deeds.nd
    obtain ⟨J, F, R, hd, j, h, q⟩ := h
    obtain ⟨F0, b, A, t, w, r, p, ds, ln, ex, rfl, rfl, hX, k⟩ := h
    refine ⟨_, (pss_one (ps_ret (pe_callTy call_list_of (by rfl) B.list (by decide +kernel) (pa_cons (pe_fld (pv 0) rfl) pa_nil)))), ?_⟩
    refine LS.body j q ?_
    refine sw_ret (ew_cb (aw_cons (ew_fld hd ?_)))
    walk_at "ob"
    refine ⟨b.a, b.C, b.dx, _, _, rfl, hX.ex0, HB.cl, HB.no _ (by decide +kernel), rfl, ?_⟩
    refine aw_nil (cw_list hd (Or.inl (SqL.of (hX.experm (List.Perm.swap _ _ _)).ex0)) fun q hq => ?_)
    exact k q hq

abbrev s_Breath__dot__stock : Stmt := inClass (top 33) 10
def N_Breath_stock : List Str := ["self"]
theorem sc_Breath_stock : FnScope N_Breath_stock ["self"] (defScope s_Breath__dot__stock) := ⟨rfl, rfl, rfl, by decide +kernel, rfl, by decide +kernel, by decide +kernel⟩
theorem ok_Breath_stock {f : Addr} {fd : FuncData}  (Fn : Fun K "stock" "Breath.stock" s_Breath__dot__stock f fd) (B : Blt mg) (HB : ClsF K BC bkeys) (HR : ClsF K C rkeys) : FnOk P w K mg base CX0 1 f fd ["self"] (LS (aStock K BC C)) := by
  refine Fn.ok sc_Breath_stock (fun vs H Q E h => ?_) (fun cdv A outer s H vs Q E hr h => ?_)
  · obtain ⟨J, F, R, hd, j, h, _⟩ := h
    obtain ⟨F0, b, A, t, w, r, p, ds, ln, ex, rfl, _⟩ := h
    rfl
  · have nd := sc_Breath_stock.nd
    obtain ⟨J, F, R, hd, j, h, q⟩ := h
    obtain ⟨F0, b, A, t, w, r, p, ds, ln, ex, rfl, rfl, rfl, hX, k⟩ := h
    refine ⟨_, (pss_one (ps_ret (pe_tup (pa_cons (pe_fld (pe_fld (pv 0) rfl) rfl) (pa_cons (pe_fld (pe_fld (pv 0) rfl) rfl) (pa_cons (pe_fld (pe_fld (pv 0) rfl) rfl) (pa_cons (pe_fld (pv 0) rfl) pa_nil))))))), ?_⟩
    refine LS.body j q ?_
    refine sw_ret (ew_tup hd (aw_cons (ew_fld hd (ew_fld hd ?_))))
    walk_at "ob"
    refine ⟨b.a, b.C, b.dx, _, _, rfl, hX.ex0, HB.cl, HB.no _ (by decide +kernel), rfl, ?_⟩
    refine ⟨A.a, A.C, A.dx, _, _, rfl, hX.cell, HR.cl, HR.no _ (by decide +kernel), lookup_nd (i := 0) (rfs_nd _ _ _ _ _ _) rfl, ?_⟩
    refine aw_cons (ew_fld hd (ew_fld hd ?_))
    walk_at "ob"
    refine ⟨b.a, b.C, b.dx, _, _, rfl, hX.ex0, HB.cl, HB.no _ (by decide +kernel), rfl, ?_⟩
    refine ⟨A.a, A.C, A.dx, _, _, rfl, hX.cell, HR.cl, HR.no _ (by decide +kernel), lookup_nd (i := 1) (rfs_nd _ _ _ _ _ _) rfl, ?_⟩
    refine aw_cons (ew_fld hd (ew_fld hd ?_))
    walk_at "ob"
    refine ⟨b.a, b.C, b.dx, _, _, rfl, hX.ex0, HB.cl, HB.no _ (by decide +kernel), rfl, ?_⟩
    refine ⟨A.a, A.C, A.dx, _, _, rfl, hX.cell, HR.cl, HR.no _ (by decide +kernel), lookup_nd (i := 2) (rfs_nd _ _ _ _ _ _) rfl, ?_⟩
    refine aw_cons (ew_fld hd ?_)
    walk_at "ob"
    refine ⟨b.a, b.C, b.dx, _, _, rfl, hX.ex0, HB.cl, HB.no _ (by decide +kernel), rfl, ?_⟩
    refine aw_nil ⟨by walk_at "ob_len", fun q hq => ?_⟩
    exact k q _ (Ex.new (.refl _) hq) hq upd_same

abbrev s_Breath__dot__tick : Stmt := inClass (top 33) 2
def N_Breath_tick : List Str := ["self", "over", "begun"]
theorem sc_Breath_tick : FnScope N_Breath_tick ["self"] (defScope s_Breath__dot__tick) := ⟨rfl, rfl, rfl, by decide +kernel, rfl, by decide +kernel, by decide +kernel⟩
theorem ok_Breath_tick {f : Addr} {fd : FuncData} {f1 : Addr} {fd1 : FuncData} (Fn : Fun K "tick" "Breath.tick" s_Breath__dot__tick f fd) (B : Blt mg) (HB : ClsF K BC bkeys) (HR : ClsF K C rkeys) (M_do_beat : Met K C "do_beat" f1 fd1 ["self"]) (G_do_beat : FnOk P w K mg base CX0 5 f1 fd1 ["self"] (LS (aDoBeat K C M))) : FnOk P w K mg base CX0 6 f fd ["self"] (LS (aTick K BC C M)) := by
  refine Fn.ok sc_Breath_tick (fun vs H Q E h => ?_) (fun cdv A outer s H vs Q E hr h => ?_)
  · obtain ⟨J, F, R, hd, j, h, _⟩ := h
    obtain ⟨F0, b, A, t, w, r, p, ds, ln, ex, rfl, _⟩ := h
    rfl
  · have nd := sc_Breath_tick.nd
    obtain ⟨J, F, R, hd, j, h, q⟩ := h
    obtain ⟨F0, b, A, t, w, r, p, ds, ln, ex, rfl, rfl, rfl, rfl, hX, hok, hm5, hlong, hds, k⟩ := h
    refine ⟨_, (pss_cons (ps_asg (pe_meth0 (pe_fld (pv 0) rfl) M_do_beat.cl M_do_beat.m G_do_beat (by exact hr.mono (by decide)) M_do_beat.a .nil pass0) (pg_tup rfl (pgs_cons (pg_name (i := 1) nd rfl (Or.inl rfl)) (pgs_cons (pg_name (i := 2) nd rfl (Or.inl rfl)) pgs_nil))))
      (pss_cons (ps_expr (pe_bm PySem.F.plainAttrs_list PySem.F.slot_list_append PySem.F.type_list_append mt_append (pe_fld (pv 0) rfl) (pa_cons (pe_tup (pa_cons pe_str pa_nil)) pa_nil)))
      (pss_one (ps_ret (pe_tup (pa_cons (pv 1) (pa_cons (pv 2) (pa_cons (pe_fld (pe_fld (pv 0) rfl) rfl) pa_nil)))))))), ?_⟩
    refine LS.body j q ?_
    refine sw_seq (sw_asg (ew_meth hd (ew_fld hd ?_)))
    walk_at "ob"
    refine ⟨b.a, b.C, b.dx, _, _, rfl, hX.ex0, HB.cl, HB.no _ (by decide +kernel), rfl, ?_⟩
    refine ⟨A.a, A.dx, _, rfl, hX.cell, rfs_no (by decide +kernel), aw_nil ⟨_, A, t, w, r, p, false, _, rfl, rfl, rfl, hX.shut, hok, hm5, hlong, fun q bg o F1 t' lv bs bt hok' hX1 => ?_⟩⟩
    have hX2 := (SAt.open hX hX1).freeze.freeze.freeze
    have hbq := (SAt.open hX hX1).ex0
    have hbn := (SAt.open hX hX1).ex0n
    have hcn := (SAt.open hX hX1).freeze.ex0n
    have hdn := (SAt.open hX hX1).freeze.freeze.ex0n
    refine gw_tup hd ⟨q, _, rfl, SqT.of hbq, rfl, gsw_cons (gw_name (gsw_cons (gw_name (gsw_nil ?_))))⟩
    refine sw_seq (sw_drop (ew_bmL hd (ew_fld hd ?_)))
    walk_at "ob"
    refine ⟨b.a, b.C, b.dx, _, _, rfl, hX2.ex0, HB.cl, HB.no _ (by decide +kernel), rfl, ?_⟩
    refine ⟨b.dl, ds, rfl, SqL.of (hX2.experm (List.Perm.swap _ _ _)).ex0, aw_cons (ew_tup hd (aw_cons (ew_c (aw_nil ⟨by walk_at "ob_len", fun e he => ?_⟩))))⟩
    have hX3 := (hX2.more (o := .tup [.str "tick"]) he).freeze
    have hen := (hX2.more (o := .tup [.str "tick"]) he).ex0n
    refine aw_nil (mw_append hd (hX3.experm (List.Perm.swap _ _ _)).ex0 (by omega) ?_)
    have hX4 := ((hX3.experm (List.Perm.swap _ _ _)).exset (o' := .lst (ds ++ [.ref e]))).experm (List.Perm.swap _ _ _)
    have elv : t'.level = lv := by
      obtain ⟨_, _, _, _, e⟩ := bt
      exact e.symm
    refine sw_ret (ew_tup hd (aw_cons (ew_var rfl (aw_cons (ew_var rfl (aw_cons (ew_fld hd (ew_fld hd ?_))))))))
    walk_at "ob"
    refine ⟨b.a, b.C, b.dx, _, _, rfl, hX4.ex0, HB.cl, HB.no _ (by decide +kernel), rfl, ?_⟩
    refine ⟨A.a, A.C, A.dx, _, _, rfl, hX4.cell, HR.cl, HR.no _ (by decide +kernel), lookup_nd (i := 1) (rfs_nd _ _ _ _ _ _) rfl, ?_⟩
    refine aw_nil ⟨by walk_at "ob_len", fun z hz => ?_⟩
    have hX5 := (hX4.more (o := .tup [.ref o, .ref bg, .int t'.level]) hz)
    have hzn := hX5.ex0n
    have hX6 := hX5.freeze
    rw [elv] at *
    refine k _ _ z bg o e t' lv bs bt hok' ?_ ?_ ?_ ?_ ?_ hX6
    · exact Ex.new (Ex.new (Ex.new (Ex.new (Ex.new (.refl _) hbn) hcn) hdn) hen) hzn
    · exact Ex.new (.refl _) hzn _ _ upd_same
    · exact Ex.new (Ex.new (Ex.new (.refl _) hdn) hen) hzn _ _ upd_same
    · exact Ex.new (Ex.new (.refl _) hen) hzn _ _ upd_same
    · exact upd_same

abbrev s_Breath__dot__enter : Stmt := inClass (top 33) 1
def N_Breath_enter : List Str := ["self", "steps", "number", "kept", "step"]
theorem sc_Breath_enter : FnScope N_Breath_enter ["self", "steps"] (defScope s_Breath__dot__enter) := ⟨rfl, rfl, rfl, by decide +kernel, rfl, by decide +kernel, by decide +kernel⟩
theorem ok_Breath_enter {f : Addr} {fd : FuncData} {f1 f2 f3 : Addr} {fd1 fd2 fd3 : FuncData} (Fn : Fun K "enter" "Breath.enter" s_Breath__dot__enter f fd) (B : Blt mg) (HB : ClsF K BC bkeys) (HR : ClsF K C rkeys) (gMOST_MACHINES : mg "MOST_MACHINES" = some (.int 5 tMM)) (Ccheck_steps : Cal K mg "check_steps" f1 fd1 ["number", "steps", "cap"]) (Gcheck_steps : FnOk P w K mg base CX0 2 f1 fd1 ["number", "steps", "cap"] (LS (aChkSs K))) (Ccheck_count : Cal K mg "check_count" f2 fd2 ["many", "least", "most"]) (Gcheck_count : FnOk P w K mg base CX0 1 f2 fd2 ["many", "least", "most"] (LS aCount)) (M_enter : Met K C "enter" f3 fd3 ["self", "steps"]) (G_enter : FnOk P w K mg base CX0 3 f3 fd3 ["self", "steps"] (LS (aEnterS false K C M))) : FnOk P w K mg base CX0 5 f fd ["self", "steps"] (LS (aBEnter K BC C M)) := by
  refine Fn.ok sc_Breath_enter (fun vs H Q E h => ?_) (fun cdv A outer s H vs Q E hr h => ?_)
  · obtain ⟨J, F, R, hd, j, h, _⟩ := h
    obtain ⟨F0, b, A, t, w, r, p, ds, ln, ex, v, ss, rfl, _⟩ := h
    rfl
  · have nd := sc_Breath_enter.nd
    obtain ⟨J, F, R, hd, j, h, q⟩ := h
    obtain ⟨F0, b, A, t, w, r, p, ds, ln, ex, v, ss, rfl, rfl, rfl, rfl, hX, dv, hs6, hso, hm5, hds, k⟩ := h
    refine ⟨_, (pss_cons (ps_set (i := 2) nd rfl (Or.inl rfl) (pe_callB call_len_seq (by rfl) B.len (by decide +kernel) (pa_cons (pe_fld (pe_fld (pv 0) rfl) rfl) pa_nil)))
      (pss_cons (ps_expr (pe_call Gcheck_steps (by exact hr.mono (by decide)) (by rfl) Ccheck_steps.g Ccheck_steps.k Ccheck_steps.a .nil pass0 (pa_cons (pv 2) (pa_cons (pv 1) (pa_cons (pe_fld (pe_fld (pv 0) rfl) rfl) pa_nil)))))
      (pss_cons (ps_expr (pe_call Gcheck_count (by exact hr.mono (by decide)) (by rfl) Ccheck_count.g Ccheck_count.k Ccheck_count.a .nil pass0 (pa_cons (pe_op op_add (pv 2) pe_int) (pa_cons pe_int (pa_cons (pe_glob (v := .int 5) rfl gMOST_MACHINES ⟨_, rfl⟩) pa_nil)))))
      (pss_cons (ps_set (i := 3) nd rfl (Or.inl rfl) (pe_callTy call_tuple_of (by rfl) B.tuple (by decide +kernel) (pa_cons (pe_lc (own := [("step", 4)]) (te := (tCB (fun xs H Q => ∃ p ys, xs = [.ref p] ∧ ((SqL K H p ys ∧ ∀ l, H l = none → Q (.ref l) (upd H l (.tup ys))) ∨ (SqT K H p ys ∧ Q (.ref p) H))) (tCons (tVar 4) tNil))) (tt := tYes) (by rfl) nd (pi_tup (pv 1)) (blkOk_by (own := [("step", 4)]) (N := N_Breath_enter) (sc := defScope s_Breath__dot__enter) (by decide +kernel)) (fun _ _ _ _ _ => (pg_name (i := 4) nd rfl (Or.inl rfl))) (fun _ _ _ _ _ => pts_nil) (fun _ _ _ _ _ => (pe_callTy call_tuple_of (by rfl) B.tuple (by decide +kernel) (pa_cons (pv 4) pa_nil)))) pa_nil)))
      (pss_cons (ps_expr (pe_meth (pe_fld (pv 0) rfl) M_enter.cl M_enter.m G_enter (by exact hr.mono (by decide)) M_enter.a .nil pass0 (pa_cons (pv 3) pa_nil)))
      (pss_cons (ps_expr (pe_bm PySem.F.plainAttrs_list PySem.F.slot_list_append PySem.F.type_list_append mt_append (pe_fld (pv 0) rfl) (pa_cons (pe_tup (pa_cons pe_str (pa_cons (pv 3) pa_nil))) pa_nil)))
      (pss_one (ps_ret (pv 2))))))))), ?_⟩
    refine LS.body j q ?_
    have hml : (A.mads.map fun ad => V.ref ad.a).length = w.ms.length := by rw [List.length_map, hX.len1]
    obtain ⟨va, us, rfl, lu, dus⟩ := dp_tup dv
    have hul : us.length = ss.length := by have := dps_len dus; simpa using this
    refine sw_seq (sw_asg (ew_cb (aw_cons (ew_fld hd (ew_fld hd ?_)))))
    walk_at "ob"
    refine ⟨b.a, b.C, b.dx, _, _, rfl, hX.ex0, HB.cl, HB.no _ (by decide +kernel), rfl, ?_⟩
    refine ⟨A.a, A.C, A.dx, _, _, rfl, hX.cell, HR.cl, HR.no _ (by decide +kernel), lookup_nd (i := 5) (rfs_nd _ _ _ _ _ _) rfl, ?_⟩
    refine aw_nil (cw_lenS hd (Or.inl (SqL.of hX.mlc)) (gw_name ?_))
    rw [hml]
    refine sw_seq (sw_drop (ew_call hd (aw_cons (ew_var rfl (aw_cons (ew_var rfl (aw_cons (ew_fld hd (ew_fld hd ?_)))))))))
    walk_at "ob"
    refine ⟨b.a, b.C, b.dx, _, _, rfl, hX.ex0, HB.cl, HB.no _ (by decide +kernel), rfl, ?_⟩
    refine ⟨A.a, A.C, A.dx, _, _, rfl, hX.cell, HR.cl, HR.no _ (by decide +kernel), lookup_nd (i := 0) (rfs_nd _ _ _ _ _ _) rfl, ?_⟩
    refine aw_nil ⟨.ref va, _, _, ss, rfl, dp_ex hX.own.ex (.tup lu dus), hs6, hso, fun F1 g1 => ?_⟩
    have hX1 := hX.grow g1
    have g01 : Ex F0 F1 := hX1.own.ex
    refine sw_seq (sw_drop (ew_call hd (aw_cons (ew_op (ew_var rfl (ew_c (rw_I0 (aw_cons (ew_c (aw_cons (ew_c (aw_nil ?_))))))))))))
    refine ⟨_, _, _, rfl, by omega, by omega, ?_⟩
    refine sw_seq (sw_asg (ew_cb (aw_cons (ew_lcT hd (ew_var rfl ?_)))))
    refine ⟨va, us, rfl, g01.sqT lu, by omega, fun Dl hDl => ?_⟩
    refine ⟨fun i acc _ G => F1 = G ∧ acc = us.take i, ⟨rfl, rfl⟩, ?_, ?_, ?_⟩
    · rintro i acc _ G hi hg ⟨rfl, rfl⟩
      exact ⟨g01.sqT lu, List.length_take_le _ _⟩
    · rintro i acc x _ G hi hg ⟨rfl, rfl⟩
      have hd' := hd.jd (D := Dl) (acc := us.take i)
      obtain ⟨d, hd1, hd2⟩ := dps_get' dus hi
      rw [List.getElem?_map] at hd1
      obtain ⟨st, hst, rfl⟩ := Option.map_eq_some_iff.mp hd1
      obtain ⟨ta, zs, rfl, lz, dzs⟩ := dp_tup hd2
      refine gw_name ⟨rfl, tw_yes ⟨fun _ => ew_cb (aw_cons (ew_var rfl (aw_nil (cw_tupT hd' (g01.sqT lz) ⟨rfl, ?_⟩)))), (fun z => by cases z)⟩⟩
      rw [List.take_succ, hi]
      rfl
    rintro acc _ G hg ⟨rfl, rfl⟩
    rw [List.take_length]
    refine aw_nil (cw_tuple hd (SqL.of upd_same) fun kq hkq => gw_name ?_)
    have hX2 := (hX1.new' (o := .lst us) hg).more (o := .tup us) hkq
    have hkn := hX2.ex0n
    have hX3 := hX2.freeze
    have dK : Dp K (upd F0 kq (.tup us)) (.ref kq) (macD ss) := .tup (SqT.of upd_same) (dps_ex (Ex.new (.refl _) hkn) dus)
    generalize (upd (upd F1 Dl (.lst us)) kq (.tup us)) = F2 at hX3 ⊢
    refine sw_seq (sw_drop (ew_meth hd (ew_fld hd ?_)))
    walk_at "ob"
    refine ⟨b.a, b.C, b.dx, _, _, rfl, hX3.ex0, HB.cl, HB.no _ (by decide +kernel), rfl, ?_⟩
    refine ⟨A.a, A.dx, _, rfl, hX3.cell, rfs_no (by decide +kernel), aw_cons (ew_var rfl (aw_nil ⟨_, A, t, w, r, p, false, _, .ref kq, ss, rfl, rfl, rfl, hX3, dK, by omega, fun ad F3 hpz hX4 => ?_⟩))⟩
    refine sw_seq (sw_drop (ew_bmL hd (ew_fld hd ?_)))
    walk_at "ob"
    refine ⟨b.a, b.C, b.dx, _, _, rfl, hX4.ex0, HB.cl, HB.no _ (by decide +kernel), rfl, ?_⟩
    refine ⟨b.dl, ds, rfl, SqL.of (hX4.experm (List.Perm.swap _ _ _)).ex0, aw_cons (ew_tup hd (aw_cons (ew_c (aw_cons (ew_var rfl (aw_nil ⟨by walk_at "ob_len", fun e he => ?_⟩))))))⟩
    have hen := (hX4.more (o := .tup [.str "enter", .ref kq]) he).ex0n
    have hX5 := (hX4.more (o := .tup [.str "enter", .ref kq]) he).freeze
    have hful : ad.sv.full = ss := by
      have z := hX4.st w.ms.length ad ss (by show (A.mads ++ [ad])[w.ms.length]? = _; rw [← hX.len1, List.getElem?_append_right (Nat.le_refl _), Nat.sub_self]; rfl) (by show (w.ms ++ [ss])[w.ms.length]? = _; rw [List.getElem?_append_right (Nat.le_refl _), Nat.sub_self]; rfl)
      exact (z.all hpz).symm
    refine aw_nil (mw_append hd (hX5.experm (List.Perm.swap _ _ _)).ex0 (by omega) ?_)
    have hX6 := ((hX5.experm (List.Perm.swap _ _ _)).exset (o' := .lst (ds ++ [.ref e]))).experm (List.Perm.swap _ _ _)
    exact sw_ret (ew_var rfl (k _ _ ad e ((Ex.new (.refl _) hkn).trans (Ex.new (.refl _) hen)) hpz hful (.tup (SqT.of upd_same) (.cons (.str _) (.cons (dp_ex (Ex.new (.refl _) hen) dK) .nil))) hX6))

abbrev s_Breath__dot____init__ : Stmt := inClass (top 33) 0
def N_Breath___init__ : List Str := ["self", "store", "rule"]
theorem sc_Breath___init__ : FnScope N_Breath___init__ ["self", "store", "rule"] (defScope s_Breath__dot____init__) := ⟨rfl, rfl, rfl, by decide +kernel, rfl, by decide +kernel, by decide +kernel⟩
theorem ok_Breath___init__ {f : Addr} {fd : FuncData} {f1 f2 f3 : Addr} {fd1 fd2 fd3 : FuncData} (Fn : Fun K "__init__" "Breath.__init__" s_Breath__dot____init__ f fd) (B : Blt mg) (HB : ClsF K BC bkeys) (HR : ClsF K C rkeys) (Ccheck_store : Cal K mg "check_store" f1 fd1 ["store"]) (Gcheck_store : FnOk P w K mg base CX0 1 f1 fd1 ["store"] (LS (aChkSt K))) (Ccheck_rule : Cal K mg "check_rule" f2 fd2 ["rule"]) (Gcheck_rule : FnOk P w K mg base CX0 1 f2 fd2 ["rule"] (LS (aChkR K))) (MK_Run : Mk K C f3) (G_Run : FnOk P w K mg base CX0 5 f3 fd3 ["self", "world", "rule", "anew"] (LS (aRInit K C M))) (MK_Run_g : mg "Run" = some (.ref C)) (MK_Run_a : Binds K fd3 ["self", "world", "rule", "anew"] []) : FnOk P w K mg base CX0 7 f fd ["self", "store", "rule"] (LS (aBInit K BC C M)) := by
  refine Fn.ok sc_Breath___init__ (fun vs H Q E h => ?_) (fun cdv A outer s H vs Q E hr h => ?_)
  · obtain ⟨J, F, R, hd, j, h, _⟩ := h
    obtain ⟨Fb, a, dx, sv, rv, w, r, p, rfl, _⟩ := h
    rfl
  · have nd := sc_Breath___init__.nd
    obtain ⟨J, F, R, hd, j, h, q⟩ := h
    obtain ⟨Fb, a, dx, sv, rv, w, r, p, rfl, rfl, hFa, dsv, hms, drv, hw, k⟩ := h
    refine ⟨_, (pss_cons (ps_expr (pe_call Gcheck_store (by exact hr.mono (by decide)) (by rfl) Ccheck_store.g Ccheck_store.k Ccheck_store.a .nil pass0 (pa_cons (pv 1) pa_nil)))
      (pss_cons (ps_expr (pe_call Gcheck_rule (by exact hr.mono (by decide)) (by rfl) Ccheck_rule.g Ccheck_rule.k Ccheck_rule.a .nil pass0 (pa_cons (pv 2) pa_nil)))
      (pss_cons (ps_fld (pv 0) (pe_make MK_Run G_Run (by exact hr.mono (by decide)) (by rfl) MK_Run_g MK_Run_a .nil pass0 (pa_cons (pe_tup (pa_cons (pv 1) (pa_cons (pe_tup pa_nil) pa_nil))) (pa_cons (pv 2) (pa_cons pe_bl pa_nil)))) rfl)
      (pss_cons (ps_fld (pv 0) pe_int rfl)
      (pss_one (ps_fld (pv 0) (pe_lst pa_nil) rfl)))))), ?_⟩
    refine LS.body j q ?_
    have ga : Ex Fb (upd Fb a (.ins BC dx [])) := Ex.new (.refl _) hFa
    refine sw_seq (sw_drop (ew_call hd (aw_cons (ew_var rfl (aw_nil ⟨sv, w, rfl, dp_ex ga dsv, hw, ?_⟩)))))
    refine sw_seq (sw_drop (ew_call hd (aw_cons (ew_var rfl (aw_nil ⟨rv, r, p, rfl, dp_ex ga drv, ?_⟩)))))
    refine sw_seq (sw_fld hd (ew_make hd (aw_cons (ew_tup hd (aw_cons (ew_var rfl (aw_cons (ew_tup hd (aw_nil ?_)))))))))
    refine ⟨by walk_at "ob_len", fun p0 hp0 => aw_nil ⟨by walk_at "ob_len", fun p1 hp1 => aw_cons (ew_var rfl (aw_cons (ew_c (aw_nil ?_))))⟩⟩
    intro x dx2 hx hdx hne
    have g1 := Ex.new (.refl (upd Fb a (.ins BC dx []))) hp0 (u := .tup [])
    have g2 := Ex.new (.refl _) hp1 (u := .tup [sv, .ref p0])
    have g3 := Ex.new (.refl _) hdx (u := .own x)
    have g13 := g1.trans (g2.trans g3)
    have g03 := ga.trans g13
    have o0 := g2.trans g3 _ _ (show upd (upd Fb a (.ins BC dx [])) p0 (.tup []) p0 = some (.tup []) from upd_same)
    have o1 := g3 _ _ (show upd (upd (upd Fb a (.ins BC dx [])) p0 (.tup [])) p1 (.tup [sv, .ref p0]) p1 = some (.tup [sv, .ref p0]) from upd_same)
    have oa := g13 _ _ (show upd Fb a (.ins BC dx []) a = some (.ins BC dx []) from upd_same)
    have hxn : upd (upd (upd (upd Fb a (.ins BC dx [])) p0 (.tup [])) p1 (.tup [sv, .ref p0])) dx2 (.own x) x = none := by rw [upd_ne hne.symm]; exact hx
    generalize (upd (upd (upd (upd Fb a (.ins BC dx [])) p0 (.tup [])) p1 (.tup [sv, .ref p0])) dx2 (.own x)) = Fc at g03 o0 o1 oa hxn ⊢
    have dW : Dp K Fc (.ref p1) (wldD w) := by
      have e : wldD w = .tuple [stoD w, .tuple (w.ms.map macD)] := rfl
      rw [e, hms]
      exact .tup (SqT.of o1) (.cons (dp_ex g03 dsv) (.cons (.tup (SqT.of o0) .nil) .nil))
    refine ⟨Fc, x, dx2, .ref p1, rv, w, r, p, false, rfl, rfl, hxn, dW, dp_ex g03 drv, by rw [hms]; simp, fun F' A ea eC eM eP hX => ⟨rfl, ?_⟩⟩
    subst eC
    have hX1 := hX.thaw oa (fun k ad ss h1 h2 => by rw [hms] at h2; simp at h2)
    have gF : Ex Fb (cutH Fc a) := cutH_ex g03 hFa
    rw [← ea]
    refine ew_var rfl ⟨a, BC, dx, [], rfl, hX1.ex0, HB.cl, HB.no _ (by decide +kernel), by decide, ?_⟩
    have hX2 := hX1.exset (o' := .ins BC dx [("run", .ref A.a)])
    refine sw_seq (sw_fld hd (ew_c (ew_var rfl ⟨a, BC, dx, [("run", .ref A.a)], rfl, hX2.ex0, HB.cl, HB.no _ (by decide +kernel), by simp, ?_⟩)))
    have hX3 := hX2.exset (o' := .ins BC dx [("run", .ref A.a), ("lent", .int 0)])
    refine sw_fld hd (ew_lst hd (aw_nil ⟨by walk_at "ob_len", fun dl hdl => ew_var rfl ⟨a, BC, dx, [("run", .ref A.a), ("lent", .int 0)], rfl, ?_, HB.cl, HB.no _ (by decide +kernel), by simp, ?_⟩⟩))
    · exact ((hX3.more (o := .lst []) hdl).experm (List.Perm.swap _ _ _)).ex0
    have hX4 := ((hX3.more (o := .lst []) hdl).experm (List.Perm.swap _ _ _)).exset (o' := .ins BC dx (bfs A ⟨a, dx, BC, dl⟩ 0))
    exact k _ _ ⟨a, dx, BC, dl⟩ A rfl rfl rfl eM eP gF hX4

abbrev s_Breath__dot__standing : Stmt := inClass (top 33) 9
def N_Breath_standing : List Str := ["self", "beat", "machine"]
theorem sc_Breath_standing : FnScope N_Breath_standing ["self"] (defScope s_Breath__dot__standing) := ⟨rfl, rfl, rfl, by decide +kernel, rfl, by decide +kernel, by decide +kernel⟩
theorem ok_Breath_standing {f : Addr} {fd : FuncData} {f1 : Addr} {fd1 : FuncData} (Fn : Fun K "standing" "Breath.standing" s_Breath__dot__standing f fd) (B : Blt mg) (HB : ClsF K BC bkeys) (HR : ClsF K C rkeys) (HM : ClsF K M mkeys) (M_left : Met K M "left" f1 fd1 ["self", "beat"]) (G_left : FnOk P w K mg base CX0 2 f1 fd1 ["self", "beat"] (LS (aLeft K M))) : FnOk P w K mg base CX0 3 f fd ["self"] (LS (aStanding K BC C M)) := by
  refine Fn.ok sc_Breath_standing (fun vs H Q E h => ?_) (fun cdv A outer s H vs Q E hr h => ?_)
  · obtain ⟨J, F, R, hd, j, h, _⟩ := h
    obtain ⟨F0, b, A, t, w, r, p, ds, ln, ex, rfl, _⟩ := h
    rfl
  · have nd := sc_Breath_standing.nd
    obtain ⟨J, F, R, hd, j, h, q⟩ := h
    obtain ⟨F0, b, A, t, w, r, p, ds, ln, ex, rfl, rfl, rfl, rfl, hX, hm5, k⟩ := h
    refine ⟨_, (pss_cons (ps_set (i := 1) nd rfl (Or.inr rfl) (pe_fld (pe_fld (pv 0) rfl) rfl))
      (pss_one (ps_ret (pe_lc (own := [("machine", 2)]) (te := (tTup (tCons (tFld K (tVar 2) "at") (tCons (tMeth _ "left" (LS (aLeft K _)) [] E0 (tVar 2) (tCons (tVar 1) tNil)) (tCons (tFld K (tVar 2) "paused") tNil))))) (tt := tYes) (by rfl) nd (pi_list (pe_fld (pe_fld (pv 0) rfl) rfl)) (blkOk_by (own := [("machine", 2)]) (N := N_Breath_standing) (sc := defScope s_Breath__dot__standing) (by decide +kernel)) (fun _ _ _ _ _ => (pg_name (i := 2) nd rfl (Or.inl rfl))) (fun _ _ _ _ _ => pts_nil) (fun _ _ _ _ _ => (pe_tup (pa_cons (pe_fld (pv 2) rfl) (pa_cons (pe_meth (pv 2) M_left.cl M_left.m G_left (by exact hr.mono (by decide)) M_left.a .nil pass0 (pa_cons (pv 1) pa_nil)) (pa_cons (pe_fld (pv 2) rfl) pa_nil))))))))), ?_⟩
    refine LS.body j q ?_
    refine sw_seq (sw_asg (ew_fld hd (ew_fld hd ?_)))
    walk_at "ob"
    refine ⟨b.a, b.C, b.dx, _, _, rfl, hX.ex0, HB.cl, HB.no _ (by decide +kernel), rfl, ?_⟩
    refine ⟨A.a, A.C, A.dx, _, _, rfl, hX.cell, HR.cl, HR.no _ (by decide +kernel), lookup_nd (i := 4) (rfs_nd _ _ _ _ _ _) rfl, ?_⟩
    refine gw_name (sw_ret (ew_lcL hd (ew_fld hd (ew_fld hd ?_))))
    walk_at "ob"
    refine ⟨b.a, b.C, b.dx, _, _, rfl, hX.ex0, HB.cl, HB.no _ (by decide +kernel), rfl, ?_⟩
    refine ⟨A.a, A.C, A.dx, _, _, rfl, hX.cell, HR.cl, HR.no _ (by decide +kernel), lookup_nd (i := 5) (rfs_nd _ _ _ _ _ _) rfl, ?_⟩
    have hml : (A.mads.map fun ad => V.ref ad.a).length = w.ms.length := by rw [List.length_map, hX.len1]
    refine ⟨A.ml, _, rfl, SqL.of hX.mlc, by omega, fun Dl hDl => ?_⟩
    refine ⟨fun i acc _ G => Ex F G ∧ acc.length = i ∧ StandTo G A t i acc, ⟨.refl _, rfl, fun kk m ad hk _ _ => absurd hk (by omega)⟩, ?_, ?_, ?_⟩
    · rintro i acc _ G hi hg ⟨g, hl, _⟩
      exact ⟨SqL.of (g _ _ hX.mlc), by omega⟩
    · rintro i acc x _ G hi hg ⟨g, hl, hs⟩
      have hd' := hd.jd (D := Dl) (acc := acc)
      rw [List.getElem?_map] at hi
      obtain ⟨ad, had, rfl⟩ := Option.map_eq_some_iff.mp hi
      have hS := hX.shut.grow g
      have hil : i < w.ms.length := by
        have := (List.getElem?_eq_some_iff.mp had).1
        rw [hX.len1] at this
        exact this
      obtain ⟨ad', m, ss, h1, h2, h3⟩ := hS.three hil
      rw [had] at h1
      cases h1
      have hcell := hS.mac had h2
      refine gw_name ⟨rfl, tw_yes ⟨fun _ => ?_, (fun z => by cases z)⟩⟩
      refine ew_tup hd' (aw_cons (ew_fld hd' (ew_var rfl ⟨ad.a, A.M, ad.dx, _, _, rfl, hcell, HM.cl, HM.no _ (by decide +kernel), lookup_nd (i := 2) (mfs_nd _ _ _) rfl, ?_⟩)))
      refine aw_cons (ew_meth hd' (ew_var rfl ⟨ad.a, ad.dx, _, rfl, hcell, mfs_no (by decide +kernel), aw_cons (ew_var rfl (aw_nil ⟨_, ad.a, ad.dx, _, ad.sv, ss, m, t.beat, rfl, hS.mobj had h2 h3, ?_⟩))⟩))
      refine aw_cons (ew_fld hd' (ew_var rfl ⟨ad.a, A.M, ad.dx, _, _, rfl, hcell, HM.cl, HM.no _ (by decide +kernel), lookup_nd (i := 5) (mfs_nd _ _ _) rfl, ?_⟩))
      refine aw_nil ⟨by walk_at "ob_len", fun q hq => ⟨Ex.new g hq, by rw [List.length_append, hl]; rfl, fun kk m' ad' hkk hm' had' => ?_⟩⟩
      by_cases e : kk = i
      · subst e
        rw [h2] at hm'
        cases hm'
        rw [had] at had'
        cases had'
        refine ⟨q, ?_, upd_same⟩
        rw [List.getElem?_append_right (by omega), hl, Nat.sub_self]
        rfl
      · obtain ⟨q', e1, e2⟩ := hs kk m' ad' (by omega) hm' had'
        exact ⟨q', by rw [List.getElem?_append_left (by omega)]; exact e1, Ex.new (.refl _) hq _ _ e2⟩
    rintro acc _ G hg ⟨g, hl, hs⟩
    rw [hml] at hl hs
    refine k Dl _ acc (Ex.new g hg) upd_same hl fun kk m' ad' hkk hm' had' => ?_
    obtain ⟨q', e1, e2⟩ := hs kk m' ad' hkk hm' had'
    exact ⟨q', e1, Ex.new (.refl _) hg _ _ e2⟩

abbrev s_Breath__dot__machine_that : Stmt := inClass (top 33) 5
def N_Breath_machine_that : List Str := ["self", "number", "paused", "machines"]
theorem sc_Breath_machine_that : FnScope N_Breath_machine_that ["self", "number", "paused"] (defScope s_Breath__dot__machine_that) := ⟨rfl, rfl, rfl, by decide +kernel, rfl, by decide +kernel, by decide +kernel⟩
theorem ok_Breath_machine_that {f : Addr} {fd : FuncData}  (Fn : Fun K "machine_that" "Breath.machine_that" s_Breath__dot__machine_that f fd) (B : Blt mg) (HB : ClsF K BC bkeys) (HR : ClsF K C rkeys) (HM : ClsF K M mkeys) : FnOk P w K mg base CX0 2 f fd ["self", "number", "paused"] (LS (aThat K BC C M)) := by
  refine Fn.ok sc_Breath_machine_that (fun vs H Q E h => ?_) (fun cdv A outer s H vs Q E hr h => ?_)
  · obtain ⟨J, F, R, hd, j, h, _⟩ := h
    obtain ⟨F0, b, A, t, w, r, p, ds, ln, ex, kk, ad, rfl, _⟩ := h
    rfl
  · have nd := sc_Breath_machine_that.nd
    obtain ⟨J, F, R, hd, j, h, q⟩ := h
    obtain ⟨F0, b, A, t, w, r, p, ds, ln, ex, kk, ad, rfl, rfl, rfl, rfl, hX, had, k⟩ := h
    refine ⟨_, (pss_cons (ps_set (i := 3) nd rfl (Or.inl rfl) (pe_fld (pe_fld (pv 0) rfl) rfl))
      (pss_cons (ps_if (PW.pt (pw_or (pt_not (pt_chain op_le op_lt pe_int (pv 1) (pe_callB call_len_seq (by rfl) B.len (by decide +kernel) (pa_cons (pv 3) pa_nil)))) (pw_or1 (pt_cmpR op_ne (pe_fld (pe_ix ix_list (pv 3) (pv 1) (fun _ _ => rfl)) rfl) (pv 2) (nomark _))))) (pss_one ps_never) pss_nil)
      (pss_one (ps_ret (pe_ix ix_list (pv 3) (pv 1) (fun _ _ => rfl)))))), ?_⟩
    refine LS.body j q ?_
    have hml : (A.mads.map fun ad => V.ref ad.a).length = A.mads.length := List.length_map _
    have hkl : kk < A.mads.length := (List.getElem?_eq_some_iff.mp had).1
    have hgt : (A.mads.map fun ad => V.ref ad.a)[kk]? = some (.ref ad.a) := by rw [List.getElem?_map, had]; rfl
    obtain ⟨m, hm⟩ : ∃ m, t.ms[kk]? = some m := ⟨_, List.getElem?_eq_getElem (by rw [hX.len2, ← hX.len1]; exact hkl)⟩
    have hcell := hX.mac had hm
    refine sw_seq (sw_asg (ew_fld hd (ew_fld hd ?_)))
    walk_at "ob"
    refine ⟨b.a, b.C, b.dx, _, _, rfl, hX.ex0, HB.cl, HB.no _ (by decide +kernel), rfl, ?_⟩
    refine ⟨A.a, A.C, A.dx, _, _, rfl, hX.cell, HR.cl, HR.no _ (by decide +kernel), lookup_nd (i := 5) (rfs_nd _ _ _ _ _ _) rfl, ?_⟩
    refine gw_name (sw_seq (sw_if (tw_or (tw_not (tw_test (ew_chain ?_))))))
    walk_at "ob"
    refine ⟨fun hb => ?_, fun hb => absurd (of_decide_eq_false hb) (by omega)⟩
    refine ew_cb (aw_cons (ew_var rfl (aw_nil (cw_lenS hd (Or.inl (SqL.of hX.mlc)) ?_))))
    refine rw_I0 ?_
    rw [hml, decide_eq_true (by omega : ((kk : Nat) : Int) < ((A.mads.length : Nat) : Int))]
    refine ⟨_, rfl, (fun z => by cases z), fun _ => ?_⟩
    refine tw_test (ew_op (ew_fld hd (ew_op ?_)))
    walk_at "ob"
    refine rw_ixL hd (SqL.of hX.mlc) (atI_nat hgt) ?_
    refine ⟨ad.a, A.M, ad.dx, _, _, rfl, hcell, HM.cl, HM.no _ (by decide +kernel), lookup_nd (i := 5) (mfs_nd _ _ _) rfl, ?_⟩
    walk_at "ob"
    rw [decide_eq_true rfl]
    refine ⟨(fun z => by cases z), fun _ => sw_next ?_⟩
    refine sw_ret (ew_op (ew_var rfl (ew_var rfl (rw_ixL hd (SqL.of hX.mlc) (atI_nat hgt) k))))

abbrev s_Breath__dot__pause : Stmt := inClass (top 33) 3
def N_Breath_pause : List Str := ["self", "number", "machine"]
theorem sc_Breath_pause : FnScope N_Breath_pause ["self", "number"] (defScope s_Breath__dot__pause) := ⟨rfl, rfl, rfl, by decide +kernel, rfl, by decide +kernel, by decide +kernel⟩
theorem ok_Breath_pause {f : Addr} {fd : FuncData} {f1 : Addr} {fd1 : FuncData} (Fn : Fun K "pause" "Breath.pause" s_Breath__dot__pause f fd) (B : Blt mg) (HB : ClsF K BC bkeys) (HR : ClsF K C rkeys) (HM : ClsF K M mkeys) (M_machine_that : Met K BC "machine_that" f1 fd1 ["self", "number", "paused"]) (G_machine_that : FnOk P w K mg base CX0 2 f1 fd1 ["self", "number", "paused"] (LS (aThat K BC C M))) : FnOk P w K mg base CX0 3 f fd ["self", "number"] (LS (aPause K BC C M)) := by
  refine Fn.ok sc_Breath_pause (fun vs H Q E h => ?_) (fun cdv A outer s H vs Q E hr h => ?_)
  · obtain ⟨J, F, R, hd, j, h, _⟩ := h
    obtain ⟨F0, b, A, t, w, r, p, ds, ln, ex, kk, ad, m, ss, rfl, _⟩ := h
    rfl
  · have nd := sc_Breath_pause.nd
    obtain ⟨J, F, R, hd, j, h, q⟩ := h
    obtain ⟨F0, b, A, t, w, r, p, ds, ln, ex, kk, ad, m, ss, rfl, rfl, rfl, rfl, hX, had, hpz, hm, hs, hmo, hds, k⟩ := h
    refine ⟨_, (pss_cons (ps_set (i := 2) nd rfl (Or.inl rfl) (pe_meth (pv 0) M_machine_that.cl M_machine_that.m G_machine_that (by exact hr.mono (by decide)) M_machine_that.a .nil pass0 (pa_cons (pv 1) (pa_cons pe_bl pa_nil))))
      (pss_cons (ps_fld (pv 2) pe_bl rfl)
      (pss_one (ps_expr (pe_bm PySem.F.plainAttrs_list PySem.F.slot_list_append PySem.F.type_list_append mt_append (pe_fld (pv 0) rfl) (pa_cons (pe_tup (pa_cons pe_str (pa_cons (pv 1) pa_nil))) pa_nil)))))), ?_⟩
    refine LS.body j q ?_
    refine sw_seq (sw_asg (ew_meth hd (ew_var rfl ⟨b.a, b.dx, _, rfl, hX.ex0, rfl, aw_cons (ew_var rfl (aw_cons (ew_c (aw_nil ?_))))⟩)))
    refine ⟨F0, b, A, t, w, r, p, ds, ln, ex, kk, ad, by rw [hpz], rfl, rfl, rfl, hX, had, gw_name ?_⟩
    refine sw_seq (sw_fld hd (ew_c (ew_var rfl ⟨ad.a, A.M, ad.dx, mfs kk ad.sv m, rfl, hX.mac had hm, HM.cl, HM.no _ (by decide +kernel), Nat.lt_of_le_of_lt (Nat.le_of_ble_eq_true (m := 6) rfl) (by decide), ?_⟩)))
    rw [putF_nd (i := 5) (mfs_nd _ _ _) rfl, show (mfs kk ad.sv m).set 5 ("paused", V.bl true) = mfs kk (pzAd ad true).sv m from rfl]
    have hst := hX.st kk ad ss had hs
    have hX1 := hX.flag true had hm hs (m' := m) (cutS_pre.trans hst.pre) (fun z => by cases z) fun _ => cutS_pz hmo
    rw [set_sameM hm] at hX1
    refine sw_drop (ew_bmL hd (ew_fld hd ?_))
    walk_at "ob"
    refine ⟨b.a, b.C, b.dx, _, _, rfl, hX1.ex0, HB.cl, HB.no _ (by decide +kernel), rfl, ?_⟩
    refine ⟨b.dl, ds, rfl, SqL.of (hX1.experm (List.Perm.swap _ _ _)).ex0, aw_cons (ew_tup hd (aw_cons (ew_c (aw_cons (ew_var rfl (aw_nil ⟨by walk_at "ob_len", fun e he => ?_⟩))))))⟩
    have hen := (hX1.more (o := .tup [.str "pause", .int (kk : Nat)]) he).ex0n
    have hY5 := (hX1.more (o := .tup [.str "pause", .int (kk : Nat)]) he).freeze
    refine aw_nil (mw_append hd (hY5.experm (List.Perm.swap _ _ _)).ex0 (by omega) ?_)
    have hY6 := ((hY5.experm (List.Perm.swap _ _ _)).exset (o' := .lst (ds ++ [.ref e]))).experm (List.Perm.swap _ _ _)
    exact k _ _ e (Ex.new (.refl _) hen) (.tup (SqT.of upd_same) (.cons (.str _) (.cons (.int _) .nil))) hY6

abbrev s_Breath__dot__go : Stmt := inClass (top 33) 4
def N_Breath_go : List Str := ["self", "number", "machine"]
theorem sc_Breath_go : FnScope N_Breath_go ["self", "number"] (defScope s_Breath__dot__go) := ⟨rfl, rfl, rfl, by decide +kernel, rfl, by decide +kernel, by decide +kernel⟩
theorem ok_Breath_go {f : Addr} {fd : FuncData} {f1 : Addr} {fd1 : FuncData} (Fn : Fun K "go" "Breath.go" s_Breath__dot__go f fd) (B : Blt mg) (HB : ClsF K BC bkeys) (HR : ClsF K C rkeys) (HM : ClsF K M mkeys) (M_machine_that : Met K BC "machine_that" f1 fd1 ["self", "number", "paused"]) (G_machine_that : FnOk P w K mg base CX0 2 f1 fd1 ["self", "number", "paused"] (LS (aThat K BC C M))) : FnOk P w K mg base CX0 3 f fd ["self", "number"] (LS (aGo K BC C M)) := by
  refine Fn.ok sc_Breath_go (fun vs H Q E h => ?_) (fun cdv A outer s H vs Q E hr h => ?_)
  · obtain ⟨J, F, R, hd, j, h, _⟩ := h
    obtain ⟨F0, b, A, t, w, r, p, ds, ln, ex, kk, ad, m, ss, rfl, _⟩ := h
    rfl
  · have nd := sc_Breath_go.nd
    obtain ⟨J, F, R, hd, j, h, q⟩ := h
    obtain ⟨F0, b, A, t, w, r, p, ds, ln, ex, kk, ad, m, ss, rfl, rfl, rfl, rfl, hX, had, hpz, hm, hs, hds, k⟩ := h
    refine ⟨_, (pss_cons (ps_set (i := 2) nd rfl (Or.inl rfl) (pe_meth (pv 0) M_machine_that.cl M_machine_that.m G_machine_that (by exact hr.mono (by decide)) M_machine_that.a .nil pass0 (pa_cons (pv 1) (pa_cons pe_bl pa_nil))))
      (pss_cons (ps_fld (pv 2) pe_bl rfl)
      (pss_cons (ps_fld (pv 2) (pe_fld (pe_fld (pv 0) rfl) rfl) rfl)
      (pss_one (ps_expr (pe_bm PySem.F.plainAttrs_list PySem.F.slot_list_append PySem.F.type_list_append mt_append (pe_fld (pv 0) rfl) (pa_cons (pe_tup (pa_cons pe_str (pa_cons (pv 1) pa_nil))) pa_nil))))))), ?_⟩
    refine LS.body j q ?_
    refine sw_seq (sw_asg (ew_meth hd (ew_var rfl ⟨b.a, b.dx, _, rfl, hX.ex0, rfl, aw_cons (ew_var rfl (aw_cons (ew_c (aw_nil ?_))))⟩)))
    refine ⟨F0, b, A, t, w, r, p, ds, ln, ex, kk, ad, by rw [hpz], rfl, rfl, rfl, hX, had, gw_name ?_⟩
    refine sw_seq (sw_fld hd (ew_c (ew_var rfl ⟨ad.a, A.M, ad.dx, mfs kk ad.sv m, rfl, hX.mac had hm, HM.cl, HM.no _ (by decide +kernel), Nat.lt_of_le_of_lt (Nat.le_of_ble_eq_true (m := 6) rfl) (by decide), ?_⟩)))
    rw [putF_nd (i := 5) (mfs_nd _ _ _) rfl, show (mfs kk ad.sv m).set 5 ("paused", V.bl false) = mfs kk (pzAd ad false).sv m from rfl]
    have hX1 := hX.flag false had hm hs (m' := m) (List.prefix_refl _) (fun _ => rfl) (fun z => by cases z)
    rw [set_sameM hm] at hX1
    have had1 : (pzA A kk ad false).mads[kk]? = some (pzAd ad false) := List.getElem?_set_self (List.getElem?_eq_some_iff.mp had).1
    have hs1 : (stW w kk ad.sv.full).ms[kk]? = some ad.sv.full := List.getElem?_set_self (List.getElem?_eq_some_iff.mp hs).1
    refine sw_seq (sw_fld hd (ew_fld hd (ew_fld hd ?_)))
    walk_at "ob"
    refine ⟨b.a, b.C, b.dx, _, _, rfl, hX1.ex0, HB.cl, HB.no _ (by decide +kernel), rfl, ?_⟩
    refine ⟨A.a, A.C, A.dx, _, _, rfl, hX1.cell, HR.cl, HR.no _ (by decide +kernel), lookup_nd (i := 4) (rfs_nd _ _ _ _ _ _) rfl, ?_⟩
    refine ew_var rfl ⟨ad.a, A.M, ad.dx, mfs kk (pzAd ad false).sv m, rfl, upd_same, HM.cl, HM.no _ (by decide +kernel), Nat.lt_of_le_of_lt (Nat.le_of_ble_eq_true (m := 6) rfl) (by decide), ?_⟩
    rw [putF_nd (i := 4) (mfs_nd _ _ _) rfl, show (mfs kk (pzAd ad false).sv m).set 4 ("since", V.int t.beat) = mfs kk (pzAd ad false).sv { m with since := t.beat } from rfl]
    have hX2 := hX1.flag false had1 hm hs1 (m' := { m with since := t.beat }) (List.prefix_refl _) (fun _ => rfl) (fun z => by cases z)
    have eA : pzA (pzA A kk ad false) kk (pzAd ad false) false = pzA A kk ad false := by
      unfold pzA
      simp only [List.set_set]
      rfl
    have eW : stW (stW w kk ad.sv.full) kk ad.sv.full = stW w kk ad.sv.full := by
      unfold stW
      simp only [List.set_set]
    have hX3 := hX2
    rw [eA, show (pzAd ad false).sv.full = ad.sv.full from rfl, eW] at hX3
    refine sw_drop (ew_bmL hd (ew_fld hd ?_))
    walk_at "ob"
    refine ⟨b.a, b.C, b.dx, _, _, rfl, hX3.ex0, HB.cl, HB.no _ (by decide +kernel), rfl, ?_⟩
    refine ⟨b.dl, ds, rfl, SqL.of (hX3.experm (List.Perm.swap _ _ _)).ex0, aw_cons (ew_tup hd (aw_cons (ew_c (aw_cons (ew_var rfl (aw_nil ⟨by walk_at "ob_len", fun e he => ?_⟩))))))⟩
    have hen := (hX3.more (o := .tup [.str "go", .int (kk : Nat)]) he).ex0n
    have hY5 := (hX3.more (o := .tup [.str "go", .int (kk : Nat)]) he).freeze
    refine aw_nil (mw_append hd (hY5.experm (List.Perm.swap _ _ _)).ex0 (by omega) ?_)
    have hY6 := ((hY5.experm (List.Perm.swap _ _ _)).exset (o' := .lst (ds ++ [.ref e]))).experm (List.Perm.swap _ _ _)
    exact k _ _ e (Ex.new (.refl _) hen) (.tup (SqT.of upd_same) (.cons (.str _) (.cons (.int _) .nil))) hY6

end
def aLend (K : PySem.W.Frag) (BC C M : Addr) : List V → Hp → VK → Prop := fun vs F R => ∃ (F0 : Hp) (b : BAd) (A : RAd) (t : LSt) (w : Wld) (r : Rgt) (p : Bool) (ds : List V) (ln : Int) (ex : List (Addr × HO)) (n : Int), vs = [.ref b.a, .int n] ∧ b.C = BC ∧ A.C = C ∧ A.M = M ∧ BEnt K F0 F b A t w r p ds ln ex ∧ 1 ≤ n ∧ n ≤ t.level ∧ ds.length < 10000 ∧
  ∀ (F0' F' : Hp) (e : Addr), Ex F0 F0' → Dp K F0' (.ref e) (deedD (.lend n)) → BEnt K F0' F' b A { t with level := t.level - n } w r p (ds ++ [.ref e]) (ln + n) ex → R .non F'
def aBack (K : PySem.W.Frag) (BC C M : Addr) : List V → Hp → VK → Prop := fun vs F R => ∃ (F0 : Hp) (b : BAd) (A : RAd) (t : LSt) (w : Wld) (r : Rgt) (p : Bool) (ds : List V) (ln : Int) (ex : List (Addr × HO)) (n : Int), vs = [.ref b.a, .int n] ∧ b.C = BC ∧ A.C = C ∧ A.M = M ∧ BEnt K F0 F b A t w r p ds ln ex ∧ 1 ≤ n ∧ n ≤ ln ∧ ds.length < 10000 ∧
  ∀ (F0' F' : Hp) (e : Addr), Ex F0 F0' → Dp K F0' (.ref e) (deedD (.back n)) → BEnt K F0' F' b A { t with level := minI w.cap (t.level + n) } w r p (ds ++ [.ref e]) (ln - n) ex → R .non F'
def aMerge (K : PySem.W.Frag) (BC C M : Addr) : List V → Hp → VK → Prop := fun vs F R => ∃ (F0 : Hp) (b : BAd) (A : RAd) (t : LSt) (w : Wld) (r : Rgt) (p : Bool) (ds : List V) (ln : Int) (ex : List (Addr × HO)) (v : V) (c s f : Int), vs = [.ref b.a, v] ∧ b.C = BC ∧ A.C = C ∧ A.M = M ∧ BEnt K F0 F b A t w r p ds ln ex ∧ Dp K F v (.tuple [.int c, .int s, .int f]) ∧ 1 ≤ c ∧ c ≤ 99 ∧ 0 ≤ s ∧ s ≤ c ∧ 0 ≤ f ∧ f ≤ 9 ∧ 1 ≤ w.cap ∧ 0 ≤ w.refill ∧ w.cap + c ≤ 99 ∧ w.refill + f ≤ 9 ∧ ds.length < 10000 ∧
  ∀ (F0' F' : Hp) (e : Addr), Ex F0 F0' → Dp K F0' (.ref e) (deedD (.merge c s f)) → BEnt K F0' F' b A { t with level := t.level + s } { w with cap := w.cap + c, refill := w.refill + f } r p (ds ++ [.ref e]) ln ex → R .non F'
def aDoDeed (K : PySem.W.Frag) (BC C M : Addr) : List V → Hp → VK → Prop := fun vs F R => ∃ (F0 : Hp) (b : BAd) (A : RAd) (h h' : Hl) (r : Rgt) (p : Bool) (ds : List V) (ex : List (Addr × HO)) (pl : Int) (dv : V) (d : Deed), vs = [.ref b.a, .int pl, dv] ∧ b.C = BC ∧ A.C = C ∧ A.M = M ∧ BEnt K F0 F b A h.t h.w r p ds h.ln ex ∧ SvAt A h ∧ HI h ∧ HStep r p h d h' ∧ Dp K F0 dv (deedD d) ∧ ds.length < 10000 ∧
  ∀ (F0' F' : Hp) (A' : RAd) (e : Addr), Ex F0 F0' → A'.C = C → A'.M = M → SvAt A' h' → Dp K F0' (.ref e) (deedD d) → BEnt K F0' F' b A' h'.t h'.w r p (ds ++ [.ref e]) h'.ln ex → R .non F'
def hl0 (w : Wld) : Hl := ⟨w, lBegun w, 0, []⟩
theorem hl0_ok {w : Wld} (hw : WldOk w) (hm : w.ms = []) : HI (hl0 w) := ⟨⟨Int.le_refl 0, (fun k m ss _ h2 => by have h2 : w.ms[k]? = some ss := h2; rw [hm] at h2; simp at h2), by show (w.ms.map _).length = _; rw [List.length_map]; rfl⟩, hw.m, (fun ss h => by have h : ss ∈ w.ms := h; rw [hm] at h; cases h), hw.c0, hw.r0, (fun x h => by cases h), by show 0 = w.ms.length; rw [hm]; rfl, fun k z f s h => by have h : ([] : List (Bool × List Stp))[k]? = _ := h; simp at h⟩
def aAgain (K : PySem.W.Frag) (BC C M : Addr) : List V → Hp → VK → Prop := fun vs F R => ∃ (sv rv : V) (da : Addr) (dvs : List V) (dl : List Deed) (w : Wld) (r : Rgt) (p : Bool) (h' : Hl), vs = [sv, rv, .ref da] ∧ Dp K F sv (stoD w) ∧ w.ms = [] ∧ Dp K F rv (rulD r p) ∧ WldOk w ∧ SqL K F da dvs ∧ DpAll K F dvs (dl.map deedD) ∧ dl.length ≤ 5000 ∧ HGo r p (hl0 w) dl h' ∧
  ∀ (F0' F' : Hp) (b : BAd) (A : RAd) (ds : List V), Ex F F0' → b.C = BC → A.C = C → A.M = M → SvAt A h' → DpAll K F0' ds (dl.map deedD) → BEnt K F0' F' b A h'.t h'.w r p ds h'.ln [] → R (.ref b.a) F'
section
variable {P : Program} {w : World} {K : PySem.W.Frag} {mg : Str → Option Value} {base : Heap} {BC C M : Addr} {tMM tMC tMR : Tok}

abbrev s_Breath__dot__lend : Stmt := inClass (top 33) 6
def N_Breath_lend : List Str := ["self", "many"]
theorem sc_Breath_lend : FnScope N_Breath_lend ["self", "many"] (defScope s_Breath__dot__lend) := ⟨rfl, rfl, rfl, by decide +kernel, rfl, by decide +kernel, by decide +kernel⟩
theorem ok_Breath_lend {f : Addr} {fd : FuncData} {f1 : Addr} {fd1 : FuncData} (Fn : Fun K "lend" "Breath.lend" s_Breath__dot__lend f fd) (B : Blt mg) (HB : ClsF K BC bkeys) (HR : ClsF K C rkeys) (Ccheck_count : Cal K mg "check_count" f1 fd1 ["many", "least", "most"]) (Gcheck_count : FnOk P w K mg base CX0 1 f1 fd1 ["many", "least", "most"] (LS aCount)) : FnOk P w K mg base CX0 2 f fd ["self", "many"] (LS (aLend K BC C M)) := by
  refine Fn.ok sc_Breath_lend (fun vs H Q E h => ?_) (fun cdv A outer s H vs Q E hr h => ?_)
  · obtain ⟨J, F, R, hd, j, h, _⟩ := h
    obtain ⟨F0, b, A, t, w, r, p, ds, ln, ex, n, rfl, _⟩ := h
    rfl
  · have nd := sc_Breath_lend.nd
    obtain ⟨J, F, R, hd, j, h, q⟩ := h
    obtain ⟨F0, b, A, t, w, r, p, ds, ln, ex, n, rfl, rfl, rfl, rfl, hX, hn1, hn2, hds, k⟩ := h
    refine ⟨_, (pss_cons (ps_expr (pe_call Gcheck_count (by exact hr.mono (by decide)) (by rfl) Ccheck_count.g Ccheck_count.k Ccheck_count.a .nil pass0 (pa_cons (pv 1) (pa_cons pe_int (pa_cons (pe_fld (pe_fld (pv 0) rfl) rfl) pa_nil)))))
      (pss_cons (ps_fldaug (pe_fld (pv 0) rfl) (pv 1) in_sub)
      (pss_cons (ps_fldaug (pv 0) (pv 1) in_add)
      (pss_one (ps_expr (pe_bm PySem.F.plainAttrs_list PySem.F.slot_list_append PySem.F.type_list_append mt_append (pe_fld (pv 0) rfl) (pa_cons (pe_tup (pa_cons pe_str (pa_cons (pv 1) pa_nil))) pa_nil))))))), ?_⟩
    refine LS.body j q ?_
    refine sw_seq (sw_drop (ew_call hd (aw_cons (ew_var rfl (aw_cons (ew_c (aw_cons (ew_fld hd (ew_fld hd ?_)))))))))
    walk_at "ob"
    refine ⟨b.a, b.C, b.dx, _, _, rfl, hX.ex0, HB.cl, HB.no _ (by decide +kernel), rfl, ?_⟩
    refine ⟨A.a, A.C, A.dx, _, _, rfl, hX.cell, HR.cl, HR.no _ (by decide +kernel), lookup_nd (i := 1) (rfs_nd _ _ _ _ _ _) rfl, ?_⟩
    refine aw_nil ⟨_, _, _, rfl, hn1, hn2, ?_⟩
    refine sw_seq (sw_fldaugI hd in_subR (ew_fld hd ?_))
    walk_at "ob"
    refine ⟨b.a, b.C, b.dx, _, _, rfl, hX.ex0, HB.cl, HB.no _ (by decide +kernel), rfl, ?_⟩
    refine ⟨A.a, A.C, A.dx, _, t.level, rfl, hX.cell, HR.cl, HR.no _ (by decide +kernel), lookup_nd (i := 1) (rfs_nd _ _ _ _ _ _) rfl, ?_⟩
    refine ew_var rfl ⟨n, A.dx, _, rfl, hX.cell, rfs_lt, ?_⟩
    rw [putF_nd (i := 1) (rfs_nd _ _ _ _ _ _) rfl]
    have hX1 := hX.put (t' := { t with level := t.level - n }) (w' := w) rfl rfl
    refine sw_seq (sw_fldaugI hd in_addR ?_)
    walk_at "ob"
    refine ⟨b.a, b.C, b.dx, _, ln, rfl, hX1.ex0, HB.cl, HB.no _ (by decide +kernel), rfl, ?_⟩
    refine ew_var rfl ⟨n, b.dx, _, rfl, hX1.ex0, by simp [bfs], ?_⟩
    have hX2 := hX1.exset (o' := .ins b.C b.dx (bfs A b (ln + n)))
    refine sw_drop (ew_bmL hd (ew_fld hd ?_))
    walk_at "ob"
    refine ⟨b.a, b.C, b.dx, _, _, rfl, hX2.ex0, HB.cl, HB.no _ (by decide +kernel), rfl, ?_⟩
    refine ⟨b.dl, ds, rfl, SqL.of (hX2.experm (List.Perm.swap _ _ _)).ex0, aw_cons (ew_tup hd (aw_cons (ew_c (aw_cons (ew_var rfl (aw_nil ⟨by walk_at "ob_len", fun e he => ?_⟩))))))⟩
    have hen := (hX2.more (o := .tup [.str "lend", .int n]) he).ex0n
    have hY5 := (hX2.more (o := .tup [.str "lend", .int n]) he).freeze
    refine aw_nil (mw_append hd (hY5.experm (List.Perm.swap _ _ _)).ex0 (by omega) ?_)
    have hY6 := ((hY5.experm (List.Perm.swap _ _ _)).exset (o' := .lst (ds ++ [.ref e]))).experm (List.Perm.swap _ _ _)
    exact k _ _ e (Ex.new (.refl _) hen) (.tup (SqT.of upd_same) (.cons (.str _) (.cons (.int _) .nil))) hY6

abbrev s_Breath__dot__back : Stmt := inClass (top 33) 7
def N_Breath_back : List Str := ["self", "many"]
theorem sc_Breath_back : FnScope N_Breath_back ["self", "many"] (defScope s_Breath__dot__back) := ⟨rfl, rfl, rfl, by decide +kernel, rfl, by decide +kernel, by decide +kernel⟩
theorem ok_Breath_back {f : Addr} {fd : FuncData} {f1 f2 : Addr} {fd1 fd2 : FuncData} (Fn : Fun K "back" "Breath.back" s_Breath__dot__back f fd) (B : Blt mg) (HB : ClsF K BC bkeys) (HR : ClsF K C rkeys) (Ccheck_count : Cal K mg "check_count" f1 fd1 ["many", "least", "most"]) (Gcheck_count : FnOk P w K mg base CX0 1 f1 fd1 ["many", "least", "most"] (LS aCount)) (M_put_in : Met K C "put_in" f2 fd2 ["self", "many"]) (G_put_in : FnOk P w K mg base CX0 1 f2 fd2 ["self", "many"] (LS (aPutIn false K C))) : FnOk P w K mg base CX0 2 f fd ["self", "many"] (LS (aBack K BC C M)) := by
  refine Fn.ok sc_Breath_back (fun vs H Q E h => ?_) (fun cdv A outer s H vs Q E hr h => ?_)
  · obtain ⟨J, F, R, hd, j, h, _⟩ := h
    obtain ⟨F0, b, A, t, w, r, p, ds, ln, ex, n, rfl, _⟩ := h
    rfl
  · have nd := sc_Breath_back.nd
    obtain ⟨J, F, R, hd, j, h, q⟩ := h
    obtain ⟨F0, b, A, t, w, r, p, ds, ln, ex, n, rfl, rfl, rfl, rfl, hX, hn1, hn2, hds, k⟩ := h
    refine ⟨_, (pss_cons (ps_expr (pe_call Gcheck_count (by exact hr.mono (by decide)) (by rfl) Ccheck_count.g Ccheck_count.k Ccheck_count.a .nil pass0 (pa_cons (pv 1) (pa_cons pe_int (pa_cons (pe_fld (pv 0) rfl) pa_nil)))))
      (pss_cons (ps_expr (pe_meth (pe_fld (pv 0) rfl) M_put_in.cl M_put_in.m G_put_in (by exact hr.mono (by decide)) M_put_in.a .nil pass0 (pa_cons (pv 1) pa_nil)))
      (pss_cons (ps_fldaug (pv 0) (pv 1) in_sub)
      (pss_one (ps_expr (pe_bm PySem.F.plainAttrs_list PySem.F.slot_list_append PySem.F.type_list_append mt_append (pe_fld (pv 0) rfl) (pa_cons (pe_tup (pa_cons pe_str (pa_cons (pv 1) pa_nil))) pa_nil))))))), ?_⟩
    refine LS.body j q ?_
    refine sw_seq (sw_drop (ew_call hd (aw_cons (ew_var rfl (aw_cons (ew_c (aw_cons (ew_fld hd ?_))))))))
    walk_at "ob"
    refine ⟨b.a, b.C, b.dx, _, _, rfl, hX.ex0, HB.cl, HB.no _ (by decide +kernel), rfl, ?_⟩
    refine aw_nil ⟨_, _, _, rfl, hn1, hn2, ?_⟩
    refine sw_seq (sw_drop (ew_meth hd (ew_fld hd ?_)))
    walk_at "ob"
    refine ⟨b.a, b.C, b.dx, _, _, rfl, hX.ex0, HB.cl, HB.no _ (by decide +kernel), rfl, ?_⟩
    refine ⟨A.a, A.dx, _, rfl, hX.cell, rfs_no (by decide +kernel), aw_cons (ew_var rfl (aw_nil ⟨A, t, w, r, p, false, n, rfl, rfl, hX.cell, ?_⟩))⟩
    have hX1 := hX.put (t' := { t with level := minI w.cap (t.level + n) }) (w' := w) rfl rfl
    refine sw_seq (sw_fldaugI hd in_subR ?_)
    walk_at "ob"
    refine ⟨b.a, b.C, b.dx, _, ln, rfl, hX1.ex0, HB.cl, HB.no _ (by decide +kernel), rfl, ?_⟩
    refine ew_var rfl ⟨n, b.dx, _, rfl, hX1.ex0, by simp [bfs], ?_⟩
    have hX2 := hX1.exset (o' := .ins b.C b.dx (bfs A b (ln - n)))
    refine sw_drop (ew_bmL hd (ew_fld hd ?_))
    walk_at "ob"
    refine ⟨b.a, b.C, b.dx, _, _, rfl, hX2.ex0, HB.cl, HB.no _ (by decide +kernel), rfl, ?_⟩
    refine ⟨b.dl, ds, rfl, SqL.of (hX2.experm (List.Perm.swap _ _ _)).ex0, aw_cons (ew_tup hd (aw_cons (ew_c (aw_cons (ew_var rfl (aw_nil ⟨by walk_at "ob_len", fun e he => ?_⟩))))))⟩
    have hen := (hX2.more (o := .tup [.str "back", .int n]) he).ex0n
    have hY5 := (hX2.more (o := .tup [.str "back", .int n]) he).freeze
    refine aw_nil (mw_append hd (hY5.experm (List.Perm.swap _ _ _)).ex0 (by omega) ?_)
    have hY6 := ((hY5.experm (List.Perm.swap _ _ _)).exset (o' := .lst (ds ++ [.ref e]))).experm (List.Perm.swap _ _ _)
    exact k _ _ e (Ex.new (.refl _) hen) (.tup (SqT.of upd_same) (.cons (.str _) (.cons (.int _) .nil))) hY6

abbrev s_Breath__dot__merge : Stmt := inClass (top 33) 8
def N_Breath_merge : List Str := ["self", "store", "cap", "start", "refill"]
theorem sc_Breath_merge : FnScope N_Breath_merge ["self", "store"] (defScope s_Breath__dot__merge) := ⟨rfl, rfl, rfl, by decide +kernel, rfl, by decide +kernel, by decide +kernel⟩
theorem ok_Breath_merge {f : Addr} {fd : FuncData} {f1 f2 : Addr} {fd1 fd2 : FuncData} (Fn : Fun K "merge" "Breath.merge" s_Breath__dot__merge f fd) (B : Blt mg) (HB : ClsF K BC bkeys) (HR : ClsF K C rkeys) (Ccheck_count : Cal K mg "check_count" f1 fd1 ["many", "least", "most"]) (Gcheck_count : FnOk P w K mg base CX0 1 f1 fd1 ["many", "least", "most"] (LS aCount)) (Ccheck_store : Cal K mg "check_store" f2 fd2 ["store"]) (Gcheck_store : FnOk P w K mg base CX0 1 f2 fd2 ["store"] (LS (aChkSt K))) (gMOST_CAP : mg "MOST_CAP" = some (.int 99 tMC)) (gMOST_REFILL : mg "MOST_REFILL" = some (.int 9 tMR)) : FnOk P w K mg base CX0 2 f fd ["self", "store"] (LS (aMerge K BC C M)) := by
  refine Fn.ok sc_Breath_merge (fun vs H Q E h => ?_) (fun cdv A outer s H vs Q E hr h => ?_)
  · obtain ⟨J, F, R, hd, j, h, _⟩ := h
    obtain ⟨F0, b, A, t, w, r, p, ds, ln, ex, v, c, s, f, rfl, _⟩ := h
    rfl
  · have nd := sc_Breath_merge.nd
    obtain ⟨J, F, R, hd, j, h, q⟩ := h
    obtain ⟨F0, b, A, t, w, r, p, ds, ln, ex, v, c, s0, f, rfl, rfl, rfl, rfl, hX0, dv, c0, c1, s1, s2, f0, f1, wc, wf, hc, hf, hds, k⟩ := h
    refine ⟨_, (pss_cons (ps_expr (pe_call Gcheck_store (by exact hr.mono (by decide)) (by rfl) Ccheck_store.g Ccheck_store.k Ccheck_store.a .nil pass0 (pa_cons (pv 1) pa_nil)))
      (pss_cons (ps_asg (pv 1) (pg_tup rfl (pgs_cons (pg_name (i := 2) nd rfl (Or.inl rfl)) (pgs_cons (pg_name (i := 3) nd rfl (Or.inl rfl)) (pgs_cons (pg_name (i := 4) nd rfl (Or.inl rfl)) pgs_nil)))))
      (pss_cons (ps_expr (pe_call Gcheck_count (by exact hr.mono (by decide)) (by rfl) Ccheck_count.g Ccheck_count.k Ccheck_count.a .nil pass0 (pa_cons (pe_op op_add (pe_fld (pe_fld (pv 0) rfl) rfl) (pv 2)) (pa_cons pe_int (pa_cons (pe_glob (v := .int 99) rfl gMOST_CAP ⟨_, rfl⟩) pa_nil)))))
      (pss_cons (ps_expr (pe_call Gcheck_count (by exact hr.mono (by decide)) (by rfl) Ccheck_count.g Ccheck_count.k Ccheck_count.a .nil pass0 (pa_cons (pe_op op_add (pe_fld (pe_fld (pv 0) rfl) rfl) (pv 4)) (pa_cons pe_int (pa_cons (pe_glob (v := .int 9) rfl gMOST_REFILL ⟨_, rfl⟩) pa_nil)))))
      (pss_cons (ps_fldaug (pe_fld (pv 0) rfl) (pv 2) in_add)
      (pss_cons (ps_fldaug (pe_fld (pv 0) rfl) (pv 3) in_add)
      (pss_cons (ps_fldaug (pe_fld (pv 0) rfl) (pv 4) in_add)
      (pss_one (ps_expr (pe_bm PySem.F.plainAttrs_list PySem.F.slot_list_append PySem.F.type_list_append mt_append (pe_fld (pv 0) rfl) (pa_cons (pe_tup (pa_cons pe_str (pa_cons (pe_tup (pa_cons (pv 2) (pa_cons (pv 3) (pa_cons (pv 4) pa_nil)))) pa_nil))) pa_nil))))))))))), ?_⟩
    refine LS.body j q ?_
    refine sw_seq (sw_drop (ew_call hd (aw_cons (ew_var rfl (aw_nil ⟨v, ⟨c, s0, f, []⟩, rfl, dv, ⟨c0, c1, s1, s2, f0, f1, Nat.zero_le _, fun _ h => (by cases h), fun _ h => (by cases h)⟩, ?_⟩)))))
    obtain ⟨va, ys, rfl, ly, dys⟩ := dp_tup dv
    obtain ⟨y1, y2, y3, rfl, d1, d2, d3⟩ := dps3 dys
    cases dp_int d1
    cases dp_int d2
    cases dp_int d3
    refine sw_seq (sw_asg (ew_var rfl (gw_tup hd ⟨va, _, rfl, ly, rfl, gsw_cons (gw_name (gsw_cons (gw_name (gsw_cons (gw_name (gsw_nil ?_))))))⟩)))
    refine sw_seq (sw_drop (ew_call hd (aw_cons (ew_op (ew_fld hd (ew_fld hd ?_))))))
    walk_at "ob"
    refine ⟨b.a, b.C, b.dx, _, _, rfl, hX0.ex0, HB.cl, HB.no _ (by decide +kernel), rfl, ?_⟩
    refine ⟨A.a, A.C, A.dx, _, _, rfl, hX0.cell, HR.cl, HR.no _ (by decide +kernel), lookup_nd (i := 0) (rfs_nd _ _ _ _ _ _) rfl, ?_⟩
    refine ew_var rfl (rw_I0 (aw_cons (ew_c (aw_cons (ew_c (aw_nil ⟨_, _, _, rfl, by omega, by omega, ?_⟩))))))
    refine sw_seq (sw_drop (ew_call hd (aw_cons (ew_op (ew_fld hd (ew_fld hd ?_))))))
    walk_at "ob"
    refine ⟨b.a, b.C, b.dx, _, _, rfl, hX0.ex0, HB.cl, HB.no _ (by decide +kernel), rfl, ?_⟩
    refine ⟨A.a, A.C, A.dx, _, _, rfl, hX0.cell, HR.cl, HR.no _ (by decide +kernel), lookup_nd (i := 2) (rfs_nd _ _ _ _ _ _) rfl, ?_⟩
    refine ew_var rfl (rw_I0 (aw_cons (ew_c (aw_cons (ew_c (aw_nil ⟨_, _, _, rfl, by omega, by omega, ?_⟩))))))
    refine sw_seq (sw_fldaugI hd in_addR (ew_fld hd ?_))
    walk_at "ob"
    refine ⟨b.a, b.C, b.dx, _, _, rfl, hX0.ex0, HB.cl, HB.no _ (by decide +kernel), rfl, ?_⟩
    refine ⟨A.a, A.C, A.dx, _, _, rfl, hX0.cell, HR.cl, HR.no _ (by decide +kernel), lookup_nd (i := 0) (rfs_nd _ _ _ _ _ _) rfl, ?_⟩
    refine ew_var rfl ⟨c, A.dx, _, rfl, hX0.cell, rfs_lt, ?_⟩
    rw [putF_nd (i := 0) (rfs_nd _ _ _ _ _ _) rfl]
    have hX1 := hX0.put (t' := t) (w' := { w with cap := w.cap + c }) rfl rfl
    refine sw_seq (sw_fldaugI hd in_addR (ew_fld hd ?_))
    walk_at "ob"
    refine ⟨b.a, b.C, b.dx, _, _, rfl, hX1.ex0, HB.cl, HB.no _ (by decide +kernel), rfl, ?_⟩
    refine ⟨A.a, A.C, A.dx, _, _, rfl, hX1.cell, HR.cl, HR.no _ (by decide +kernel), lookup_nd (i := 1) (rfs_nd _ _ _ _ _ _) rfl, ?_⟩
    refine ew_var rfl ⟨s0, A.dx, _, rfl, hX1.cell, rfs_lt, ?_⟩
    rw [putF_nd (i := 1) (rfs_nd _ _ _ _ _ _) rfl]
    have hX2 := hX1.put (t' := { t with level := t.level + s0 }) (w' := { w with cap := w.cap + c }) rfl rfl
    refine sw_seq (sw_fldaugI hd in_addR (ew_fld hd ?_))
    walk_at "ob"
    refine ⟨b.a, b.C, b.dx, _, _, rfl, hX2.ex0, HB.cl, HB.no _ (by decide +kernel), rfl, ?_⟩
    refine ⟨A.a, A.C, A.dx, _, _, rfl, hX2.cell, HR.cl, HR.no _ (by decide +kernel), lookup_nd (i := 2) (rfs_nd _ _ _ _ _ _) rfl, ?_⟩
    refine ew_var rfl ⟨f, A.dx, _, rfl, hX2.cell, rfs_lt, ?_⟩
    rw [putF_nd (i := 2) (rfs_nd _ _ _ _ _ _) rfl]
    have hX3 := hX2.put (t' := { t with level := t.level + s0 }) (w' := { w with cap := w.cap + c, refill := w.refill + f }) rfl rfl
    refine sw_drop (ew_bmL hd (ew_fld hd ?_))
    walk_at "ob"
    refine ⟨b.a, b.C, b.dx, _, _, rfl, hX3.ex0, HB.cl, HB.no _ (by decide +kernel), rfl, ?_⟩
    refine ⟨b.dl, ds, rfl, SqL.of (hX3.experm (List.Perm.swap _ _ _)).ex0, aw_cons (ew_tup hd (aw_cons (ew_c (aw_cons (ew_tup hd (aw_cons (ew_var rfl (aw_cons (ew_var rfl (aw_cons (ew_var rfl (aw_nil ⟨by walk_at "ob_len", fun q hq => aw_nil ⟨by walk_at "ob_len", fun e he => ?_⟩⟩))))))))))))⟩
    have hqn := (hX3.more (o := .tup [.int c, .int s0, .int f]) hq).ex0n
    have hX4 := (hX3.more (o := .tup [.int c, .int s0, .int f]) hq).freeze
    have hen := (hX4.more (o := .tup [.str "merge", .ref q]) he).ex0n
    have hY5 := (hX4.more (o := .tup [.str "merge", .ref q]) he).freeze
    refine aw_nil (mw_append hd (hY5.experm (List.Perm.swap _ _ _)).ex0 (by omega) ?_)
    have hY6 := ((hY5.experm (List.Perm.swap _ _ _)).exset (o' := .lst (ds ++ [.ref e]))).experm (List.Perm.swap _ _ _)
    exact k _ _ e ((Ex.new (.refl _) hqn).trans (Ex.new (.refl _) hen)) (.tup (SqT.of upd_same) (.cons (.str _) (.cons (.tup ((Ex.new (.refl _) hen).sqT (SqT.of upd_same)) (.cons (.int _) (.cons (.int _) (.cons (.int _) .nil)))) .nil))) hY6

abbrev s_do_deed : Stmt := top 35
def N_do_deed : List Str := ["breath", "place", "deed", "steps", "number", "many", "store"]
theorem sc_do_deed : FnScope N_do_deed ["breath", "place", "deed"] (defScope s_do_deed) := ⟨rfl, rfl, rfl, by decide +kernel, rfl, by decide +kernel, by decide +kernel⟩
theorem ok_do_deed {f : Addr} {fd : FuncData} {f1 f2 f3 f4 f5 f6 f7 : Addr} {fd1 fd2 fd3 fd4 fd5 fd6 fd7 : FuncData} (Fn : Fun K "do_deed" "do_deed" s_do_deed f fd) (B : Blt mg) (M_enter : Met K BC "enter" f1 fd1 ["self", "steps"]) (G_enter : FnOk P w K mg base CX0 5 f1 fd1 ["self", "steps"] (LS (aBEnter K BC C M))) (M_tick : Met K BC "tick" f2 fd2 ["self"]) (G_tick : FnOk P w K mg base CX0 6 f2 fd2 ["self"] (LS (aTick K BC C M))) (M_pause : Met K BC "pause" f3 fd3 ["self", "number"]) (G_pause : FnOk P w K mg base CX0 3 f3 fd3 ["self", "number"] (LS (aPause K BC C M))) (M_go : Met K BC "go" f4 fd4 ["self", "number"]) (G_go : FnOk P w K mg base CX0 3 f4 fd4 ["self", "number"] (LS (aGo K BC C M))) (M_lend : Met K BC "lend" f5 fd5 ["self", "many"]) (G_lend : FnOk P w K mg base CX0 2 f5 fd5 ["self", "many"] (LS (aLend K BC C M))) (M_back : Met K BC "back" f6 fd6 ["self", "many"]) (G_back : FnOk P w K mg base CX0 2 f6 fd6 ["self", "many"] (LS (aBack K BC C M))) (M_merge : Met K BC "merge" f7 fd7 ["self", "store"]) (G_merge : FnOk P w K mg base CX0 2 f7 fd7 ["self", "store"] (LS (aMerge K BC C M))) : FnOk P w K mg base CX0 7 f fd ["breath", "place", "deed"] (LS (aDoDeed K BC C M)) := by
  refine Fn.ok sc_do_deed (fun vs H Q E h => ?_) (fun cdv A outer s H vs Q E hr h => ?_)
  · obtain ⟨J, F, R, hd, j, h, _⟩ := h
    obtain ⟨F0, b, A, h1, h2, r, p, ds, ex, pl, dv, d, rfl, _⟩ := h
    rfl
  · have nd := sc_do_deed.nd
    obtain ⟨J, F, R, hd, j, h, q⟩ := h
    obtain ⟨F0, b, A, h, h2, r, p, ds, ex, pl, dv, d, rfl, rfl, rfl, rfl, hX, hsv, hi, hst, hdv, hds, k⟩ := h
    refine ⟨_, (pss_one (ps_match (pv 2) (pm_two (i := 3) rfl nd rfl (Or.inl rfl) (pss_one (ps_expr (pe_meth (pv 0) M_enter.cl M_enter.m G_enter (by exact hr.mono (by decide)) M_enter.a .nil pass0 (pa_cons (pv 3) pa_nil))))
      (pm_one rfl (pss_one (ps_expr (pe_meth0 (pv 0) M_tick.cl M_tick.m G_tick (by exact hr.mono (by decide)) M_tick.a .nil pass0)))
      (pm_two (i := 4) rfl nd rfl (Or.inl rfl) (pss_one (ps_expr (pe_meth (pv 0) M_pause.cl M_pause.m G_pause (by exact hr.mono (by decide)) M_pause.a .nil pass0 (pa_cons (pv 4) pa_nil))))
      (pm_two (i := 4) rfl nd rfl (Or.inl rfl) (pss_one (ps_expr (pe_meth (pv 0) M_go.cl M_go.m G_go (by exact hr.mono (by decide)) M_go.a .nil pass0 (pa_cons (pv 4) pa_nil))))
      (pm_two (i := 5) rfl nd rfl (Or.inl rfl) (pss_one (ps_expr (pe_meth (pv 0) M_lend.cl M_lend.m G_lend (by exact hr.mono (by decide)) M_lend.a .nil pass0 (pa_cons (pv 5) pa_nil))))
      (pm_two (i := 5) rfl nd rfl (Or.inl rfl) (pss_one (ps_expr (pe_meth (pv 0) M_back.cl M_back.m G_back (by exact hr.mono (by decide)) M_back.a .nil pass0 (pa_cons (pv 5) pa_nil))))
      (pm_two (i := 6) rfl nd rfl (Or.inl rfl) (pss_one (ps_expr (pe_meth (pv 0) M_merge.cl M_merge.m G_merge (by exact hr.mono (by decide)) M_merge.a .nil pass0 (pa_cons (pv 6) pa_nil))))
      (pm_any (pss_one (ps_never)))))))))))), ?_⟩
    refine LS.body j q ?_
    refine sw_match hd (ew_var rfl ?_)
    cases hst with
    | @enter ss h6 hso h5 =>
      obtain ⟨da, us, rfl, lu, dus⟩ := dp_tup hdv
      obtain ⟨u1, u2, rfl, e1, e2⟩ := dps2 dus
      cases e1
      refine ⟨da, _, rfl, hX.own.ex.sqT lu, sw_two_hit ?_⟩
      refine sw_drop (ew_meth hd (ew_var rfl ⟨b.a, b.dx, _, rfl, hX.ex0, lookup_out (show _ ∉ bkeys by decide +kernel), aw_cons (ew_var rfl (aw_nil ?_))⟩))
      refine ⟨F0, b, A, h.t, h.w, r, p, ds, h.ln, ex, u2, ss, rfl, rfl, rfl, rfl, hX, e2, h6, hso, h5, hds, fun F0' F' ad e g hpz hful de hX' => k F0' F' { A with mads := A.mads ++ [ad] } e g rfl rfl ?_ de hX'⟩
      show (A.mads ++ [ad]).map _ = h.sv ++ [(false, ss)]
      rw [List.map_append, hsv, List.map_singleton, hpz, hful]
    | @tick t2 lv2 bs2 hb =>
      obtain ⟨da, us, rfl, lu, dus⟩ := dp_tup hdv
      obtain ⟨u1, rfl, e1⟩ : ∃ u, us = [u] ∧ Dp K F0 u (.str "tick") := by
        cases dus with
        | cons x y => cases y; exact ⟨_, rfl, x⟩
      cases e1
      refine ⟨da, _, rfl, hX.own.ex.sqT lu, sw_two_skip (show (1 : Nat) ≠ 2 by decide) (sw_one_hit ?_)⟩
      refine sw_drop (ew_meth hd (ew_var rfl ⟨b.a, b.dx, _, rfl, hX.ex0, lookup_out (show _ ∉ bkeys by decide +kernel), aw_nil ?_⟩))
      refine ⟨F0, b, A, h.t, h.w, r, p, ds, h.ln, ex, rfl, rfl, rfl, rfl, hX, hi.ok, hi.m5, hi.lg, hds, fun F0' F' q bg o e t' lv bs bt _ g q1 q2 q3 q4 hX' => ?_⟩
      obtain ⟨rfl, rfl, rfl⟩ := beat_uniq hb bt
      exact k F0' F' A e g rfl rfl hsv (.tup (SqT.of q1) (.cons (.str _) .nil)) hX'
    | @pause kk full ss m g1 g2 g3 =>
      obtain ⟨da, us, rfl, lu, dus⟩ := dp_tup hdv
      obtain ⟨u1, u2, rfl, e1, e2⟩ := dps2 dus
      cases e1
      refine ⟨da, _, rfl, hX.own.ex.sqT lu, sw_two_miss (by decide +kernel) (sw_one_skip (show (2 : Nat) ≠ 1 by decide) (sw_two_hit ?_))⟩
      cases dp_int e2
      obtain ⟨ad, had, hpz, rfl⟩ := sv_get hsv g1
      refine sw_drop (ew_meth hd (ew_var rfl ⟨b.a, b.dx, _, rfl, hX.ex0, lookup_out (show _ ∉ bkeys by decide +kernel), aw_cons (ew_var rfl (aw_nil ?_))⟩))
      exact ⟨F0, b, A, h.t, h.w, r, p, ds, h.ln, ex, kk, ad, m, ss, rfl, rfl, rfl, rfl, hX, had, hpz, g2, g3, hi.ok.m kk m ss g2 g3, hds, fun F0' F' e g de hX' => k F0' F' (pzA A kk ad true) e g rfl rfl (sv_set hsv true) de hX'⟩
    | @go kk full ss m g1 g2 g3 =>
      obtain ⟨da, us, rfl, lu, dus⟩ := dp_tup hdv
      obtain ⟨u1, u2, rfl, e1, e2⟩ := dps2 dus
      cases e1
      refine ⟨da, _, rfl, hX.own.ex.sqT lu, sw_two_miss (by decide +kernel) (sw_one_skip (show (2 : Nat) ≠ 1 by decide) (sw_two_miss (by decide +kernel) (sw_two_hit ?_)))⟩
      cases dp_int e2
      obtain ⟨ad, had, hpz, rfl⟩ := sv_get hsv g1
      refine sw_drop (ew_meth hd (ew_var rfl ⟨b.a, b.dx, _, rfl, hX.ex0, lookup_out (show _ ∉ bkeys by decide +kernel), aw_cons (ew_var rfl (aw_nil ?_))⟩))
      exact ⟨F0, b, A, h.t, h.w, r, p, ds, h.ln, ex, kk, ad, m, ss, rfl, rfl, rfl, rfl, hX, had, hpz, g2, g3, hds, fun F0' F' e g de hX' => k F0' F' (pzA A kk ad false) e g rfl rfl (sv_set hsv false) de hX'⟩
    | @lend n n1 n2 =>
      obtain ⟨da, us, rfl, lu, dus⟩ := dp_tup hdv
      obtain ⟨u1, u2, rfl, e1, e2⟩ := dps2 dus
      cases e1
      refine ⟨da, _, rfl, hX.own.ex.sqT lu, sw_two_miss (by decide +kernel) (sw_one_skip (show (2 : Nat) ≠ 1 by decide) (sw_two_miss (by decide +kernel) (sw_two_miss (by decide +kernel) (sw_two_hit ?_))))⟩
      cases dp_int e2
      refine sw_drop (ew_meth hd (ew_var rfl ⟨b.a, b.dx, _, rfl, hX.ex0, lookup_out (show _ ∉ bkeys by decide +kernel), aw_cons (ew_var rfl (aw_nil ?_))⟩))
      exact ⟨F0, b, A, h.t, h.w, r, p, ds, h.ln, ex, n, rfl, rfl, rfl, rfl, hX, n1, n2, hds, fun F0' F' e g de hX' => k F0' F' A e g rfl rfl hsv de hX'⟩
    | @back n n1 n2 =>
      obtain ⟨da, us, rfl, lu, dus⟩ := dp_tup hdv
      obtain ⟨u1, u2, rfl, e1, e2⟩ := dps2 dus
      cases e1
      refine ⟨da, _, rfl, hX.own.ex.sqT lu, sw_two_miss (by decide +kernel) (sw_one_skip (show (2 : Nat) ≠ 1 by decide) (sw_two_miss (by decide +kernel) (sw_two_miss (by decide +kernel) (sw_two_miss (by decide +kernel) (sw_two_hit ?_)))))⟩
      cases dp_int e2
      refine sw_drop (ew_meth hd (ew_var rfl ⟨b.a, b.dx, _, rfl, hX.ex0, lookup_out (show _ ∉ bkeys by decide +kernel), aw_cons (ew_var rfl (aw_nil ?_))⟩))
      exact ⟨F0, b, A, h.t, h.w, r, p, ds, h.ln, ex, n, rfl, rfl, rfl, rfl, hX, n1, n2, hds, fun F0' F' e g de hX' => k F0' F' A e g rfl rfl hsv de hX'⟩
    | @merge c s0 f0 m1 m2 m3 m4 m5 m6 m7 m8 =>
      obtain ⟨da, us, rfl, lu, dus⟩ := dp_tup hdv
      obtain ⟨u1, u2, rfl, e1, e2⟩ := dps2 dus
      cases e1
      refine ⟨da, _, rfl, hX.own.ex.sqT lu, sw_two_miss (by decide +kernel) (sw_one_skip (show (2 : Nat) ≠ 1 by decide) (sw_two_miss (by decide +kernel) (sw_two_miss (by decide +kernel) (sw_two_miss (by decide +kernel) (sw_two_miss (by decide +kernel) (sw_two_hit ?_))))))⟩
      refine sw_drop (ew_meth hd (ew_var rfl ⟨b.a, b.dx, _, rfl, hX.ex0, lookup_out (show _ ∉ bkeys by decide +kernel), aw_cons (ew_var rfl (aw_nil ?_))⟩))
      exact ⟨F0, b, A, h.t, h.w, r, p, ds, h.ln, ex, u2, c, s0, f0, rfl, rfl, rfl, rfl, hX, dp_ex hX.own.ex e2, m1, m2, m3, m4, m5, m6, hi.c0, hi.f0, m7, m8, hds, fun F0' F' e g de hX' => k F0' F' A e g rfl rfl hsv de hX'⟩


abbrev s_again : Stmt := top 34
def N_again : List Str := ["store", "rule", "deeds", "breath", "place", "deed"]
theorem sc_again : FnScope N_again ["store", "rule", "deeds"] (defScope s_again) := ⟨rfl, rfl, rfl, by decide +kernel, rfl, by decide +kernel, by decide +kernel⟩
theorem ok_again {f : Addr} {fd : FuncData} {f1 f2 : Addr} {fd1 fd2 : FuncData} (Fn : Fun K "again" "again" s_again f fd) (B : Blt mg) (Cdo_deed : Cal K mg "do_deed" f1 fd1 ["breath", "place", "deed"]) (Gdo_deed : FnOk P w K mg base CX0 7 f1 fd1 ["breath", "place", "deed"] (LS (aDoDeed K BC C M))) (MK_Breath : Mk K BC f2) (G_Breath : FnOk P w K mg base CX0 7 f2 fd2 ["self", "store", "rule"] (LS (aBInit K BC C M))) (MK_Breath_g : mg "Breath" = some (.ref BC)) (MK_Breath_a : Binds K fd2 ["self", "store", "rule"] []) {cBreathError : Addr} (gBreathError : mg "BreathError" = some (.ref cBreathError)) : FnOk P w K mg base CX0 9 f fd ["store", "rule", "deeds"] (LS (aAgain K BC C M)) := by
  refine Fn.ok sc_again (fun vs H Q E h => ?_) (fun cdv A outer s H vs Q E hr h => ?_)
  · obtain ⟨J, F, R, hd, j, h, _⟩ := h
    obtain ⟨sv, rv, da, dvs, dl, w, r, p, h1, rfl, _⟩ := h
    rfl
  · have nd := sc_again.nd
    obtain ⟨J, F, R, hd, j, h, q⟩ := h
    obtain ⟨sv, rv, da, dvs, dl, w, r, p, h2, rfl, dsv, hms, drv, hw, ld, dds, hdl, hgo, k⟩ := h
    refine ⟨_, (pss_cons (ps_set (i := 3) nd rfl (Or.inl rfl) (pe_make MK_Breath G_Breath (by exact hr.mono (by decide)) (by rfl) MK_Breath_g MK_Breath_a .nil pass0 (pa_cons (pv 0) (pa_cons (pv 1) pa_nil))))
      (pss_cons (ps_for PassesOwn.never rfl (pi_enum (by rfl) B.enumerate (pa_cons (pv 2) pa_nil)) (pg_tup rfl (pgs_cons (pg_name (i := 4) nd rfl (Or.inl rfl)) (pgs_cons (pg_name (i := 5) nd rfl (Or.inl rfl)) pgs_nil))) (pss_one (ps_try_only rfl rfl ⟨rfl, by decide, .inl gBreathError⟩ L2.takes0 (fun W pn xe tk _ => pss_one (ps_expr (pe_call Gdo_deed (by exact hr.mono (by decide)) (by rfl) Cdo_deed.g Cdo_deed.k Cdo_deed.a .nil pass0 (pa_cons (pv 3) (pa_cons (pv 4) (pa_cons (pv 5) pa_nil)))))) (fun a oe cls d pn _ _ => pss_never) (ts := fun _ _ _ => tNever) (Wout := fun _ _ _ _ => False))))
      (pss_one (ps_ret (pv 3))))), ?_⟩
    refine LS.body j q ?_
    have hvl : dvs.length = dl.length := by have := dps_len dds; simpa using this
    refine sw_seq (sw_asg (ew_make hd (aw_cons (ew_var rfl (aw_cons (ew_var rfl (aw_nil ?_)))))))
    intro x dx hx hdx hne2
    have gdx := Ex.new (.refl F) hdx (u := .own x)
    refine ⟨upd F dx (.own x), x, dx, sv, rv, w, r, p, rfl, rfl, by rw [upd_ne hne2.symm]; exact hx, dp_ex gdx dsv, hms, dp_ex gdx drv, hw, fun F0 F6 b A ea eb eC eM eP gF hX => ⟨rfl, gw_name ?_⟩⟩
    subst ea
    have gF5 : Ex F F0 := gdx.trans gF
    have hs0 : SvAt A (hl0 w) := by
      have z := hX.len1
      rw [hms] at z
      show A.mads.map _ = []
      rw [List.length_eq_zero_iff.mp z]
      rfl
    refine sw_seq ?_
    refine sw_mid (fun σ _ G => ∃ (x4 x5 : Option V) (F0 : Hp) (A : RAd) (ds : List V), σ = [some sv, some rv, some (.ref da), some (.ref b.a), x4, x5] ∧ Ex F F0 ∧ A.C = C ∧ A.M = M ∧ SvAt A h2 ∧ DpAll K F0 ds (dl.map deedD) ∧ BEnt K F0 G b A h2.t h2.w r p ds h2.ln []) ?_ ?_
    · refine sw_forEL hd (aw_cons (ew_var rfl (aw_nil ⟨da, dvs, fun i σ _ G => ∃ (x4 x5 : Option V) (F0 : Hp) (A : RAd) (ds : List V) (h : Hl), σ = [some sv, some rv, some (.ref da), some (.ref b.a), x4, x5] ∧ Ex F F0 ∧ A.C = C ∧ A.M = M ∧ SvAt A h ∧ HI h ∧ HGo r p h (dl.drop i) h2 ∧ DpAll K F0 ds ((dl.take i).map deedD) ∧ BEnt K F0 G b A h.t h.w r p ds h.ln [], rfl, (gF5.trans hX.own.ex).sqL ld, ⟨none, none, F0, A, [], hl0 w, rfl, gF5, eC, eM, hs0, hl0_ok hw hms, hgo, .nil, hX⟩, ?_, ?_, ?_⟩)))
      · rintro i σ _ G hi ⟨x4, x5, F0, A, ds, h, rfl, g, _, _, _, _, _, _, hX⟩
        exact (g.trans hX.own.ex).sqL ld
      · rintro i x σ _ G T hx ⟨x4, x5, F0, A, ds, h, rfl, g, eC, eM, hs, hi, hgo, dd, hX⟩ hT
        have hX1 := hX.new' (o := .tup [.int (i : Int), x]) hT
        refine gw_tup hd ⟨T, _, rfl, SqT.of upd_same, rfl, gsw_cons (gw_name (gsw_cons (gw_name (gsw_nil ?_))))⟩
        obtain ⟨d', hd1, dx1⟩ := dps_get' dds hx
        rw [List.getElem?_map] at hd1
        obtain ⟨d, hdd, rfl⟩ := Option.map_eq_some_iff.mp hd1
        have hil := (List.getElem?_eq_some_iff.mp hdd).1
        have edr : dl.drop i = d :: dl.drop (i + 1) := by
          rw [List.drop_eq_getElem_cons hil]
          congr 1
          exact (List.getElem?_eq_some_iff.mp hdd).2
        rw [edr] at hgo
        cases hgo with
        | @cons _ h1 _ _ _ hst hgo' =>
        have hdsl : ds.length = i := by have := dps_len dd; rw [this, List.length_map, List.length_take]; omega
        refine sw_drop (ew_call hd (aw_cons (ew_var rfl (aw_cons (ew_var rfl (aw_cons (ew_var rfl (aw_nil ?_))))))))
        refine ⟨F0, b, A, h, h1, r, p, ds, [], (i : Int), x, d, rfl, eb, eC, eM, hX1, hs, hi, hst, dp_ex g dx1, by omega, fun F0' F' A' e g' eC' eM' hs' de hX' => ?_⟩
        refine ⟨_, _, F0', A', ds ++ [.ref e], h1, rfl, g.trans g', eC', eM', hs', hi.step hst, hgo', ?_, hX'⟩
        rw [List.take_succ, hdd, List.map_append]
        exact dps_snoc (dps_ex g' dd) de
      · rintro σ _ G ⟨x4, x5, F0, A, ds, h, rfl, g, eC, eM, hs, hi, hgo, dd, hX⟩
        rw [hvl] at dd hgo
        rw [List.drop_length] at hgo
        rw [List.take_length] at dd
        cases hgo
        exact ⟨x4, x5, F0, A, ds, rfl, g, eC, eM, hs, dd, hX⟩
    rintro σ _ G ⟨x4, x5, F0, A, ds, rfl, g, eC, eM, hs, dd, hX⟩
    exact sw_ret (ew_var rfl (k F0 G b A ds g eb eC eM hs dd hX))
end
end Obr
namespace Obr
/-! ### what is there adds up (mathematics only) -/
/-- what machine k gives back at beat c -/
def pendM (c : Int) (ss : List Stp) (m : Mac) : Int := if m.over = c then (match ss[m.at_.toNat]? with | some st => st.back | none => 0) else 0
/-- what machine k gives back, whenever -/
def busyM (ss : List Stp) (m : Mac) : Int := if 0 ≤ m.over then (match ss[m.at_.toNat]? with | some st => st.back | none => 0) else 0
def sumM (f : List Stp → Mac → Int) : List (List Stp) → List Mac → Int
  | ss :: l, m :: ms => f ss m + sumM f l ms
  | _, _ => 0
def pend (w : Wld) (c : Int) (t : LSt) : Int := sumM (pendM c) w.ms t.ms
def busy (w : Wld) (t : LSt) : Int := sumM busyM w.ms t.ms
/-- what all steps that are over at the beat give back -/
structure Ends27 (w : Wld) (t x : LSt) : Prop where
  ok : LOk w x
  beat : x.beat = t.beat
  sum : x.level + pend w t.beat x = t.level + pend w t.beat t
  all : x.level + busy w x = t.level + busy w t
  later : ∀ c, t.beat < c → pend w c x = pend w c t
/-- the law's own going: (there, at, what ends when) -/
structure G27 where
  there : Int
  at_ : List Int
  eo : List (Int × Int)
def esum (E : List (Int × Int)) (c : Int) : Int := ((E.filter fun x => decide (x.1 = c)).map Prod.snd).sum
def atM (m : Mac) : Int := if 0 ≤ m.over then m.at_ + 1 else m.at_
/-- one that begins at the beat -/
inductive Go27 (w : Wld) (b : Int) : G27 → List Int → G27 → Prop
  | nil {g} : Go27 w b g [] g
  | cons {g : G27} {k : Nat} {ss : List Stp} {a : Int} {st : Stp} {l : List Int} {g' : G27} : w.ms[k]? = some ss → g.at_[k]? = some a → 0 ≤ a → ss[a.toNat]? = some st →
      Go27 w b ⟨g.there - st.draw, g.at_.set k (a + 1), g.eo ++ [(b + st.long, st.back)]⟩ l g' → Go27 w b g ((k : Int) :: l) g'
/-- the law's going and the machines, in the midst of the draws at beat b -/
structure R27 (w : Wld) (x : LSt) (g : G27) : Prop where
  there : g.there = x.level
  at_ : g.at_ = x.ms.map atM
  eo : ∀ c, x.beat < c → esum g.eo c = pend w c x
/-- the law's going and the machines, ahead of a beat -/
structure J27 (w : Wld) (t : LSt) (g : G27) : Prop where
  there : g.there = t.level
  at_ : g.at_ = t.ms.map atM
  eo : ∀ c, t.beat ≤ c → esum g.eo c = pend w c t
/-! the first beat -/
end Obr
/-! ### since when a machine waits does not matter but by 'wait' -/
namespace Obr
open PySem L2 PyProof.Rows
def nm (m : Mac) : Mac := ⟨m.at_, m.over, 0, 0, 0, none⟩
structure EqS (t u : LSt) : Prop where
  lv : u.level = t.level
  la : u.last = t.last
  bt : u.beat = t.beat
  ms : u.ms.map nm = t.ms.map nm
theorem EqS.refl {t : LSt} : EqS t t := ⟨rfl, rfl, rfl, rfl⟩
theorem EqS.two {t u : LSt} (h : EqS t u) (k : Nat) : (t.ms[k]? = none ∧ u.ms[k]? = none) ∨ ∃ m m', t.ms[k]? = some m ∧ u.ms[k]? = some m' ∧ m'.at_ = m.at_ ∧ m'.over = m.over := by
  have z := congrArg (fun l : List Mac => l[k]?) h.ms
  simp only [List.getElem?_map] at z
  cases e1 : t.ms[k]? with
  | none =>
    rw [e1] at z
    cases e2 : u.ms[k]? with
    | none => exact .inl ⟨rfl, rfl⟩
    | some m => rw [e2] at z; cases z
  | some m =>
    rw [e1] at z
    cases e2 : u.ms[k]? with
    | none => rw [e2] at z; cases z
    | some m' =>
      rw [e2] at z
      have z := Option.some.inj z
      unfold nm at z
      simp only [Mac.mk.injEq] at z
      exact .inr ⟨m, m', rfl, rfl, z.1, z.2.1⟩
theorem EqS.set {t u : LSt} (h : EqS t u) {k : Nat} {m m' : Mac} (e : nm m' = nm m) : (u.ms.set k m').map nm = (t.ms.set k m).map nm := by rw [List.map_set, List.map_set, h.ms, e]
theorem lEnd_eqs {w : Wld} {t u : LSt} (h : EqS t u) (k : Nat) : EqS (lEnd w false t k) (lEnd w false u k) := by
  rcases h.two k with ⟨e1, e2⟩ | ⟨m, m', e1, e2, ea, eo⟩
  · unfold lEnd
    rw [e1, e2]
    exact h
  · unfold lEnd
    rw [e1, e2]
    cases w.ms[k]? with
    | none => exact h
    | some ss =>
      simp only
      rw [eo, ea, h.bt]
      split
      · split
        · split
          · exact ⟨by rw [h.lv], h.la, rfl, h.set rfl⟩
          · exact ⟨by rw [h.lv], h.la, rfl, h.set rfl⟩
        · exact h
      · exact h
theorem lEnds_eqs {w : Wld} {t u : LSt} (h : EqS t u) : ∀ n, EqS (lEnds w false t n) (lEnds w false u n)
  | 0 => h
  | n + 1 => lEnd_eqs (lEnds_eqs h n) n
theorem lFill_eqs {w : Wld} {t u : LSt} (h : EqS t u) : EqS (lFill w t) (lFill w u) := by
  unfold lFill
  rw [h.bt]
  split
  · exact ⟨by rw [h.lv], h.la, rfl, h.ms⟩
  · exact h
def nc (c : Clm) : Clm := ⟨c.k, c.draw, 0⟩
theorem lClaim_eqs {w : Wld} {t u : LSt} (h : EqS t u) (k : Nat) : (lClaim w u k).map nc = (lClaim w t k).map nc := by
  rcases h.two k with ⟨e1, e2⟩ | ⟨m, m', e1, e2, ea, eo⟩
  · unfold lClaim
    rw [e1, e2]
  · unfold lClaim
    rw [e1, e2]
    cases w.ms[k]? with
    | none => rfl
    | some ss =>
      simp only
      rw [eo, ea]
      split
      · split <;> rfl
      · rfl
theorem lClaims_eqs {w : Wld} {t u : LSt} (h : EqS t u) : ∀ n, (lClaims w u n).map nc = (lClaims w t n).map nc
  | 0 => rfl
  | n + 1 => by rw [lClaims, lClaims, List.map_append, List.map_append, lClaims_eqs h n, lClaim_eqs h n]
theorem ckey_nc {r : Rgt} (hr : r ≠ .wait) {last : Int} {c : Clm} : ckey r last (nc c) = ckey r last c := by
  cases r with
  | wait => exact absurd rfl hr
  | _ => rfl
theorem turn_nc {r : Rgt} (hr : r ≠ .wait) {last : Int} {cs ts : List Clm} (h : TurnOk r last cs ts) : TurnOk r last (cs.map nc) (ts.map nc) :=
  ⟨h.perm.map nc, List.pairwise_map.mpr (h.srt.imp fun {a b} z => by
    unfold cLt at z ⊢
    rw [ckey_nc hr, ckey_nc hr]
    exact z)⟩
theorem lDraw_eqs {w : Wld} {p : Bool} {x y : LSt × List Int × Bool} {c c' : Clm} (h : EqS x.1 y.1) (h2 : y.2 = x.2) (hc : nc c' = nc c) : EqS (lDraw w p x c).1 (lDraw w p y c').1 ∧ (lDraw w p y c').2 = (lDraw w p x c).2 := by
  have ek : c'.k = c.k := by have z := congrArg Clm.k hc; exact z
  have ed : c'.draw = c.draw := by have z := congrArg Clm.draw hc; exact z
  obtain ⟨x1, x2, x3⟩ := x
  obtain ⟨y1, y2, y3⟩ := y
  cases h2
  rcases h.two c.k.toNat with ⟨e1, e2⟩ | ⟨m, m', e1, e2, ea, eo⟩
  · unfold lDraw
    simp only at e1 e2 ⊢
    rw [ek, e1, e2]
    exact ⟨h, rfl⟩
  · unfold lDraw
    simp only at e1 e2 h ⊢
    rw [ek, ed, e1, e2]
    cases w.ms[c.k.toNat]? with
    | none => exact ⟨h, rfl⟩
    | some ss =>
      simp only
      rw [ea, h.lv, h.bt]
      split
      · split
        · exact ⟨⟨rfl, h.la, rfl, h.set (by unfold nm; simp only [ea])⟩, rfl⟩
        · exact ⟨h, rfl⟩
      · exact ⟨⟨rfl, h.la, rfl, h.set (by unfold nm; simp only [ea, eo])⟩, rfl⟩
theorem lDraws_eqs {w : Wld} {p : Bool} : ∀ (ts us : List Clm) {x y : LSt × List Int × Bool}, us.map nc = ts.map nc → EqS x.1 y.1 → y.2 = x.2 → EqS (ts.foldl (lDraw w p) x).1 (us.foldl (lDraw w p) y).1 ∧ (us.foldl (lDraw w p) y).2 = (ts.foldl (lDraw w p) x).2
  | [], [], _, _, _, h, h2 => ⟨h, h2⟩
  | [], _ :: _, _, _, e, _, _ => by cases e
  | _ :: _, [], _, _, e, _, _ => by cases e
  | c :: ts, c' :: us, x, y, e, h, h2 => by
    simp only [List.map_cons, List.cons.injEq] at e
    obtain ⟨z1, z2⟩ := lDraw_eqs (w := w) (p := p) h h2 e.1
    exact lDraws_eqs ts us e.2 z1 z2
theorem beat_eqs {w : Wld} {r : Rgt} (hr : r ≠ .wait) {p : Bool} {t u t' u' : LSt} {lv lv2 : Int} {bg bg2 : List Int} (h : EqS t u) (b : LBeat w r p false t t' lv bg) (b2 : LBeat w r p false u u' lv2 bg2) : EqS t' u' ∧ lv2 = lv ∧ bg2 = bg := by
  obtain ⟨ts, k1, e1, e2, e3⟩ := b.ex
  obtain ⟨us, k2, f1, f2, f3⟩ := b2.ex
  have hS := lFill_eqs (w := w) (lEnds_eqs (w := w) h w.ms.length)
  have hts : us.map nc = ts.map nc := by
    have a := turn_nc hr k1
    have a2 := turn_nc hr k2
    rw [lClaims_eqs hS, hS.la] at a2
    exact turn_uniq a2 a
  obtain ⟨z1, z2⟩ := lDraws_eqs (w := w) (p := p) ts us (x := (lFill w (lEnds w false t w.ms.length), [], true)) (y := (lFill w (lEnds w false u w.ms.length), [], true)) hts hS rfl
  have ebg : bg2 = bg := by
    rw [e1, f1]
    exact congrArg Prod.fst z2
  have z1 : EqS (lDraws w p ts (lFill w (lEnds w false t w.ms.length))).1 (lDraws w p us (lFill w (lEnds w false u w.ms.length))).1 := z1
  have et : EqS t' u' := by
    rw [e2, f2, ebg]
    exact ⟨z1.lv, by show (if bg.isEmpty then _ else _) = if bg.isEmpty then _ else _; rw [z1.la], by show _ + 1 = _ + 1; rw [z1.bt], z1.ms⟩
  exact ⟨et, by rw [e3, f3, et.lv], ebg⟩
/-! ### all paused -/
/-- what machine x gives back at the end of its step -/
def backK (w : Wld) (t : LSt) (x : Int) : Int := match t.ms[x.toNat]?, w.ms[x.toNat]? with
  | some m, some ss => (match ss[m.at_.toNat]? with | some st => st.back | none => 0)
  | _, _ => 0
theorem ends_one {w : Wld} {t : LSt} (h : LOk w t) {n : Nat} (hn : n < w.ms.length) (hb : ∀ ss ∈ w.ms, ∀ st ∈ ss, 0 ≤ st.back) : ∃ (m : Mac) (ss : List Stp), t.ms[n]? = some m ∧ w.ms[n]? = some ss ∧ (lEnds w false t (n + 1)).level = if m.over = t.beat then minI w.cap ((lEnds w false t n).level + backK w t (n : Int)) else (lEnds w false t n).level := by
  have hs : w.ms[n]? = some w.ms[n] := List.getElem?_eq_getElem hn
  obtain ⟨m, hm⟩ := ms_both' h.len hs
  refine ⟨m, _, hm, hs, ?_⟩
  have he : (lEnds w false t n).ms[n]? = some m := by rw [lEnds_ms (Nat.le_of_lt hn) hs, if_neg (Nat.lt_irrefl _), hm]
  show (lEnd w false (lEnds w false t n) n).level = _
  unfold lEnd
  rw [he, hs, lEnds_beat]
  simp only
  by_cases c : m.over = t.beat
  · rw [if_pos c, if_pos c]
    have hlt := (h.m n m _ hm hs).o (by have := h.b; omega)
    have a0 := (h.m n m _ hm hs).a0
    have hst : (w.ms[n])[m.at_.toNat]? = some (w.ms[n])[m.at_.toNat] := List.getElem?_eq_getElem (by omega)
    have eb : backK w t (n : Int) = (w.ms[n])[m.at_.toNat].back := by
      unfold backK
      rw [Int.toNat_natCast, hm, hs]
      simp only [hst]
    rw [hst, eb]
    simp only
    split <;> rfl
  · rw [if_neg c, if_neg c]
theorem ends_sum {w : Wld} {t : LSt} (h : LOk w t) (hb : ∀ ss ∈ w.ms, ∀ st ∈ ss, 0 ≤ st.back) (hl : t.level ≤ w.cap) : ∀ n, n ≤ w.ms.length → (lEnds w false t n).level = min w.cap (t.level + ((overs t n).map (backK w t)).sum)
  | 0, _ => by
    show t.level = min w.cap (t.level + 0)
    omega
  | n + 1, hn => by
    obtain ⟨m, ss, hm, hs, e⟩ := ends_one h (n := n) (by omega) hb
    rw [e, ends_sum h hb hl n (by omega)]
    have hb0 : 0 ≤ backK w t (n : Int) := by
      unfold backK
      rw [Int.toNat_natCast, hm, hs]
      simp only
      split
      · rename_i st hst
        exact hb ss (List.mem_of_getElem? hs) st (List.mem_of_getElem? hst)
      · exact Int.le_refl _
    have eo : overs t (n + 1) = overs t n ++ (if m.over = t.beat then [(n : Int)] else []) := by
      show overs t n ++ (match t.ms[n]? with | some m => if m.over = t.beat then [(n : Int)] else [] | none => []) = _
      rw [hm]
    rw [eo]
    split
    · rw [List.map_append, List.sum_append]
      show minI _ _ = min _ (_ + (_ + (backK w t (n : Int) + 0)))
      unfold minI
      split <;> omega
    · rw [List.append_nil]
/-- a beat of machines that are all paused -/
theorem pz_beat {w : Wld} {r : Rgt} {p : Bool} {t t' : LSt} {lv : Int} {bg : List Int} (h : LOk w t) (hp : ∀ (k : Nat) (m : Mac) (ss : List Stp), t.ms[k]? = some m → w.ms[k]? = some ss → PzOk ss m) (b : LBeat w r p false t t' lv bg) :
    bg = [] ∧ t'.level = (lFill w (lEnds w false t w.ms.length)).level ∧ t'.beat = t.beat + 1 ∧ ∀ (k : Nat) (m : Mac) (ss : List Stp), t.ms[k]? = some m → w.ms[k]? = some ss → t'.ms[k]? = some (endM false t.beat ss m) ∧ PzOk ss (endM false t.beat ss m) := by
  obtain ⟨ts, hts, e1, e2, _⟩ := b.ex
  have pe : ∀ (k : Nat) (m : Mac) (ss : List Stp), t.ms[k]? = some m → w.ms[k]? = some ss → PzOk ss (endM false t.beat ss m) := fun k m ss h1 h2 => by
    have z := hp k m ss h1 h2
    have a0 := (h.m k m ss h1 h2).a0
    rcases endM_cases (h.m k m ss h1 h2) h.b with ⟨x1, x2, x3⟩ | ⟨x1, x3⟩
    · rw [x3]
      left
      refine ⟨by show (-1 : Int) < 0; decide, ?_⟩
      show m.at_ + 1 = _
      have := h.b
      rcases z with z | z <;> omega
    · rw [x3]; exact z
  have hms : ∀ (k : Nat) (m : Mac) (ss : List Stp), t.ms[k]? = some m → w.ms[k]? = some ss → (lFill w (lEnds w false t w.ms.length)).ms[k]? = some (endM false t.beat ss m) := fun k m ss hm hs => by
    rw [lFill_ms, lEnds_ms (Nat.le_refl _) hs, if_pos (List.getElem?_eq_some_iff.mp hs).1, hm]
    rfl
  have hcl : lClaims w (lFill w (lEnds w false t w.ms.length)) w.ms.length = [] := by
    refine List.eq_nil_iff_forall_not_mem.mpr fun c hc => ?_
    obtain ⟨j, hj, hcj⟩ := lClaims_mem hc
    obtain ⟨m2, ss, st, h1, h2, h3, h4, h5, _⟩ := lClaim_mem hcj
    obtain ⟨m, hm⟩ := ms_both' h.len h2
    rw [hms j m ss hm h2] at h1
    cases h1
    have z := pe j m ss hm h2
    rcases z with z | z <;> omega
  have ets : ts = [] := by
    have z := hts.perm
    rw [hcl] at z
    exact z.eq_nil
  subst ets
  have ebg : bg = [] := e1
  subst ebg
  refine ⟨rfl, by rw [e2]; rfl, ?_, fun k m ss h1 h2 => ⟨?_, pe k m ss h1 h2⟩⟩
  · rw [e2]
    show (lFill w (lEnds w false t w.ms.length)).beat + 1 = _
    rw [lFill_beat, lEnds_beat]
  · rw [e2]
    exact hms k m ss h1 h2
end Obr
/-! own cells laid aside while a call runs that knows nothing of them -/
namespace Obr
open PySem L2 PyProof.Rows
def overH (F G : Hp) : Hp := fun y => match G y with | some o => some o | none => F y
def JP {S : Type} (J : S → Hp → Hp → Prop) (G : Hp) : S → Hp → Hp → Prop := fun s F H => (∀ y o, G y = some o → F y = none) ∧ J s (overH F G) H
theorem over_none {F G : Hp} {y : Addr} (h : G y = none) : overH F G y = F y := by unfold overH; rw [h]
theorem over_upd {F G : Hp} {p : Addr} {o : HO} (h : G p = none) : overH (upd F p o) G = upd (overH F G) p o := by
  funext y
  by_cases e : y = p
  · subst e
    rw [over_none h, upd_same, upd_same]
  · rw [upd_ne e]
    unfold overH
    cases G y with
    | none => exact upd_ne e
    | some _ => rfl
theorem Hid.jp {S : Type} {J : S → Hp → Hp → Prop} {G : Hp} (hd : Hid J) : Hid (JP J G) where
  ex := fun {s F H} ⟨h0, j⟩ a o e => hd.ex j a o (by
    have : G a = none := by
      cases g : G a with
      | none => rfl
      | some u => rw [h0 a u g] at e; cases e
    rw [over_none this]; exact e)
  al := fun {s F H p o} ⟨h0, j⟩ hp => by
    have e := hd.fresh j hp
    have g : G p = none := by
      cases g : G p with
      | none => rfl
      | some u => unfold overH at e; rw [g] at e; cases e
    refine ⟨fun y u gy => ?_, by rw [over_upd g]; exact hd.al j hp⟩
    have n : y ≠ p := fun z => by rw [z, g] at gy; cases gy
    rw [upd_ne n]
    exact h0 y u gy
  mu := fun {s F H a o o'} ⟨h0, j⟩ e => by
    have g : G a = none := by
      cases g : G a with
      | none => rfl
      | some u => rw [h0 a u g] at e; cases e
    refine ⟨fun y u gy => ?_, by rw [over_upd g]; exact hd.mu j (o := o) (by rw [over_none g]; exact e)⟩
    have n : y ≠ a := fun z => by rw [z, g] at gy; cases gy
    rw [upd_ne n]
    exact h0 y u gy
def pickH (F : Hp) (L : List (Addr × HO)) : Hp := fun y => if y ∈ L.map (·.1) then F y else none
def dropH (F : Hp) (L : List (Addr × HO)) : Hp := fun y => if y ∈ L.map (·.1) then none else F y
theorem over_pick {F : Hp} {L : List (Addr × HO)} : overH (dropH F L) (pickH F L) = F := by
  funext y
  unfold overH dropH pickH
  by_cases h : y ∈ L.map (·.1)
  · simp only [if_pos h]
    cases F y <;> rfl
  · simp only [if_neg h]
theorem drop_ex {F0 F : Hp} {L : List (Addr × HO)} (h : Own F0 F L) : Ex F0 (dropH F L) := fun y o e => by
  unfold dropH
  rw [if_neg (fun m => by
    obtain ⟨p, hp, rfl⟩ := List.mem_map.mp m
    rw [h.out p hp] at e
    cases e)]
  exact h.ex y o e
theorem ew_aside {S : Type} {J : S → Hp → Hp → Prop} {σ : L2.St} {s : S} {F0 F : Hp} {R : V → S → Hp → Prop} {t : TE} {L : List (Addr × HO)} (hd : Hid J) (h : Own F0 F L)
    (k : EW (JP J (pickH F L)) t σ s (dropH F L) fun v s' F' => ∀ F'', Own F' F'' L → R v s' F'') : EW J t σ s F R := by
  intro H j Q q
  have h1 : ∀ y o, pickH F L y = some o → dropH F L y = none := fun y o e => by
    unfold pickH at e
    unfold dropH
    split at e
    · rename_i m
      rw [if_pos m]
    · cases e
  have pk : ∀ p ∈ L, pickH F L p.1 = some p.2 := fun p hp => by
    unfold pickH
    rw [if_pos (List.mem_map.mpr ⟨p, hp, rfl⟩)]
    exact h.at_ p hp
  refine k H ⟨h1, by rw [over_pick]; exact j⟩ Q fun v s' F' H' ⟨h0, j'⟩ r => q v s' _ H' j' (r _ ⟨fun y o e => ?_, fun p hp => h0 p.1 p.2 (pk p hp), fun p hp => ?_, h.nd⟩)
  · have g : pickH F L y = none := by
      cases g : pickH F L y with
      | none => rfl
      | some u => rw [h0 y u g] at e; cases e
    rw [over_none g]
    exact e
  · unfold overH
    rw [pk p hp]
end Obr
/-! ### two stores that go on, side by side -/
namespace Obr
open PySem L2 PyProof.Rows
def cellsB (b : BAd) (A : RAd) (t : LSt) (w : Wld) (r : Rgt) (p : Bool) (ds : List V) (ln : Int) : List (Addr × HO) :=
  (A.a, .ins A.C A.dx (rfsS false A t w r p false)) :: (A.ml, .lst (A.mads.map fun ad => .ref ad.a)) :: (mcells A.M 0 A.mads t.ms ++ [(b.a, .ins b.C b.dx (bfs A b ln)), (b.dl, .lst ds)])
structure Side (K : PySem.W.Frag) (F0 : Hp) (A : RAd) (t : LSt) (w : Wld) : Prop where
  st : ∀ (k : Nat) (ad : MAd) (ss : List Stp), A.mads[k]? = some ad → w.ms[k]? = some ss → StAt K F0 ad.sv ss
  len1 : A.mads.length = w.ms.length
  len2 : t.ms.length = w.ms.length
  pz : ∀ (k : Nat) (ad : MAd) (m : Mac) (ss : List Stp), A.mads[k]? = some ad → t.ms[k]? = some m → w.ms[k]? = some ss → ad.sv.pz = true → PzOk ss m
  np : A.hp = false → ∀ ad ∈ A.mads, ad.sv.pz = false
section
variable {K : PySem.W.Frag} {F0 F0' F F' : Hp} {b b1 b2 : BAd} {A A1 A2 : RAd} {t t1 t2 : LSt} {w w1 w2 : Wld} {r r1 r2 : Rgt} {p p1 p2 : Bool} {ds ds1 ds2 : List V} {ln ln1 ln2 : Int} {ex : List (Addr × HO)}
theorem Side.exx (h : Side K F0 A t w) (g : Ex F0 F0') : Side K F0' A t w := ⟨fun k ad ss h1 h2 => (h.st k ad ss h1 h2).ex g, h.len1, h.len2, h.pz, h.np⟩
theorem cells_app : cellsB b A t w r p ds ln ++ ex = (A.a, .ins A.C A.dx (rfsS false A t w r p false)) :: (A.ml, .lst (A.mads.map fun ad => .ref ad.a)) :: (mcells A.M 0 A.mads t.ms ++ ((b.a, .ins b.C b.dx (bfs A b ln)) :: (b.dl, .lst ds) :: ex)) := by
  unfold cellsB
  simp
theorem bent_side (h : BEnt K F0 F b A t w r p ds ln ex) : Side K F0 A t w := ⟨h.st, h.len1, h.len2, h.pz, h.np⟩
theorem bent_own (h : BEnt K F0 F b A t w r p ds ln ex) : Own F0 F (cellsB b A t w r p ds ln ++ ex) := by rw [cells_app]; exact h.own
theorem bent_of (s : Side K F0 A t w) (o : Own F0 F (cellsB b A t w r p ds ln ++ ex)) : BEnt K F0 F b A t w r p ds ln ex := ⟨by rw [cells_app] at o; exact o, s.st, s.len1, s.len2, s.pz, s.np, fun z => by cases z⟩
end
/-- two of them -/
structure BB (K : PySem.W.Frag) (F0 F : Hp) (r : Rgt) (p : Bool) (b1 : BAd) (A1 : RAd) (t1 : LSt) (w1 : Wld) (ds1 : List V) (ln1 : Int) (b2 : BAd) (A2 : RAd) (t2 : LSt) (w2 : Wld) (ds2 : List V) (ln2 : Int) : Prop where
  own : Own F0 F (cellsB b1 A1 t1 w1 r p ds1 ln1 ++ cellsB b2 A2 t2 w2 r p ds2 ln2)
  s1 : Side K F0 A1 t1 w1
  s2 : Side K F0 A2 t2 w2
section
variable {K : PySem.W.Frag} {F0 F0' F F' F'' : Hp} {r : Rgt} {p : Bool} {b1 b2 : BAd} {A1 A2 A' : RAd} {t1 t2 t' : LSt} {w1 w2 w' : Wld} {ds1 ds2 ds' : List V} {ln1 ln2 ln' : Int}
theorem BB.fst (h : BB K F0 F r p b1 A1 t1 w1 ds1 ln1 b2 A2 t2 w2 ds2 ln2) : BEnt K F0 F b1 A1 t1 w1 r p ds1 ln1 (cellsB b2 A2 t2 w2 r p ds2 ln2) := bent_of h.s1 h.own
theorem BB.snd (h : BB K F0 F r p b1 A1 t1 w1 ds1 ln1 b2 A2 t2 w2 ds2 ln2) : BEnt K F0 F b2 A2 t2 w2 r p ds2 ln2 (cellsB b1 A1 t1 w1 r p ds1 ln1) := bent_of h.s2 (h.own.perm List.perm_append_comm)
theorem BB.set1 (h : BB K F0 F r p b1 A1 t1 w1 ds1 ln1 b2 A2 t2 w2 ds2 ln2) (g : Ex F0 F0') (h' : BEnt K F0' F' b1 A' t' w' r p ds' ln' (cellsB b2 A2 t2 w2 r p ds2 ln2)) : BB K F0' F' r p b1 A' t' w' ds' ln' b2 A2 t2 w2 ds2 ln2 := ⟨bent_own h', bent_side h', h.s2.exx g⟩
theorem BB.set2 (h : BB K F0 F r p b1 A1 t1 w1 ds1 ln1 b2 A2 t2 w2 ds2 ln2) (g : Ex F0 F0') (h' : BEnt K F0' F' b2 A' t' w' r p ds' ln' (cellsB b1 A1 t1 w1 r p ds1 ln1)) : BB K F0' F' r p b1 A1 t1 w1 ds1 ln1 b2 A' t' w' ds' ln' := ⟨(bent_own h').perm List.perm_append_comm, h.s1.exx g, bent_side h'⟩
theorem BB.grow (h : BB K F0 F r p b1 A1 t1 w1 ds1 ln1 b2 A2 t2 w2 ds2 ln2) (g : Ex F F') : BB K F0 F' r p b1 A1 t1 w1 ds1 ln1 b2 A2 t2 w2 ds2 ln2 := ⟨h.own.grow g, h.s1, h.s2⟩
theorem BB.new (h : BB K F0 F r p b1 A1 t1 w1 ds1 ln1 b2 A2 t2 w2 ds2 ln2) {x : Addr} {o : HO} (hx : F x = none) : BB K (upd F0 x o) (upd F x o) r p b1 A1 t1 w1 ds1 ln1 b2 A2 t2 w2 ds2 ln2 :=
  have g : Ex F0 (upd F0 x o) := Ex.new (.refl _) (h.own.ex.free hx)
  ⟨h.own.new hx, h.s1.exx g, h.s2.exx g⟩
theorem BB.at2 (h : BB K F0 F r p b1 A1 t1 w1 ds1 ln1 b2 A2 t2 w2 ds2 ln2) (et : t2 = t') (ew : w2 = w') (el : ln2 = ln') : BB K F0 F r p b1 A1 t1 w1 ds1 ln1 b2 A2 t' w' ds2 ln' := by
  subst et ew el
  exact h
/-- cells of a base that others' cells lie beside -/
theorem own_join {B G H : Hp} {L M : List (Addr × HO)} (h1 : Own B G L) (h2 : Own G H M) : Own B H (L ++ M) where
  ex := fun a o e => h2.ex a o (h1.ex a o e)
  out := fun x hx => by
    rcases List.mem_append.mp hx with z | z
    · exact h1.out x z
    · cases e : B x.1 with
      | none => rfl
      | some o => have := h1.ex _ _ e; rw [h2.out x z] at this; cases this
  at_ := fun x hx => by
    rcases List.mem_append.mp hx with z | z
    · exact h2.ex _ _ (h1.at_ x z)
    · exact h2.at_ x z
  nd := by
    rw [List.map_append, List.nodup_append]
    refine ⟨h1.nd, h2.nd, fun a ha c hc e => ?_⟩
    subst e
    obtain ⟨x, hx, rfl⟩ := List.mem_map.mp ha
    obtain ⟨y, hy, e⟩ := List.mem_map.mp hc
    have z := h1.at_ x hx
    have := h2.out y hy
    rw [e, z] at this
    cases this
theorem BB.make (s1 : Side K F0 A1 t1 w1) (h2 : BEnt K F0' F' b2 A2 t2 w2 r p ds2 ln2 []) (g : Ex F0 F0') (o : Own F' F'' (cellsB b1 A1 t1 w1 r p ds1 ln1)) : BB K F0' F'' r p b1 A1 t1 w1 ds1 ln1 b2 A2 t2 w2 ds2 ln2 := by
  have z := bent_own h2
  rw [List.append_nil] at z
  exact ⟨(own_join z o).perm List.perm_append_comm, s1.exx g, bent_side h2⟩
end
end Obr
namespace Obr
open PySem L2 PyProof.Rows
/-! ### rows of beats, as laws read them -/
theorem bg_len {w : Wld} {r : Rgt} {p anew : Bool} {t t' : LSt} {lv : Int} {bg : List Int} (h : LBeat w r p anew t t' lv bg) : bg.length ≤ w.ms.length := by
  obtain ⟨ts, hts, e, _, _⟩ := h.ex
  have key : ∀ (ts : List Clm) (x : LSt × List Int × Bool), (ts.foldl (lDraw w p) x).2.1.length ≤ x.2.1.length + ts.length := by
    intro ts
    induction ts with
    | nil => intro x; simp
    | cons c ts ih =>
      intro x
      rw [List.foldl_cons]
      have h1 := ih (lDraw w p x c)
      have h2 : (lDraw w p x c).2.1.length ≤ x.2.1.length + 1 := by
        rcases lDraw_bg (w := w) (p := p) (x := x) (c := c) with e | e
        · rw [e]; omega
        · rw [e, List.length_append]; simp
      rw [List.length_cons]
      omega
  have h1 := key ts (lFill w (lEnds w anew t w.ms.length), [], true)
  have h2 := hts.perm.length_eq
  have h3 := lClaims_len (w := w) (t := lFill w (lEnds w anew t w.ms.length)) w.ms.length
  rw [e]
  unfold lDraws
  simp at h1
  omega
theorem eqv_low {n : Nat} {d : PyData} (h : lowD n d = true) : PyData.eqv d d = true := SeqAt.eqv_refl d (lowD_ok n d h).1
def str4 : List V := [.str "rank", .str "turns", .str "wait", .str "least"]
def eoD (x : Int × Int) : PyData := .tuple [.int x.1, .int x.2]
theorem lpath_beat {w : Wld} {r : Rgt} {p : Bool} : ∀ {n : Nat} {t : LSt}, LPath w r p n t → t.beat = n
  | _, _, .zero => rfl
  | _, _, .succ (n := n) h b => by
    obtain ⟨ts, _, _, e2, _⟩ := b.ex
    have i := lpath_beat h
    rw [e2]
    show (lDraws w p ts _).1.beat + 1 = _
    unfold lDraws
    rw [(lDraws_beat ts).1, lFill_beat, lEnds_beat, i]
    omega
end Obr
namespace Obr
open PySem L2 PyProof.Rows
local macro_rules | `(tactic| walk_at "ob_wat") => `(tactic| first
  | with_reducible refine WAt.g_store (by assumption) ?_
  | with_reducible refine WAt.g_machines (by assumption) ?_
  | with_reducible refine WAt.g_rule (by assumption) ?_
  | with_reducible refine WAt.g_level (by assumption) ?_
  | with_reducible refine WAt.g_at (by assumption) ?_
  | with_reducible refine WAt.g_over (by assumption) ?_
  | with_reducible refine WAt.g_since (by assumption) ?_
  | with_reducible refine WAt.g_last (by assumption) ?_
  | with_reducible refine WAt.g_beat (by assumption) ?_
  | with_reducible refine WAt.g_done (by assumption) ?_
  | with_reducible refine WAt.g_waits (by assumption) ?_
  | with_reducible refine WAt.g_ends (by assumption) ?_
  | ((with_reducible refine' WAt.r_at_ (t := ?_) (m := ?_) ?obw ?obd ?obm ?_); (case obw => assumption); (case obd => assumption); (case obm => assumption))
  | ((with_reducible refine' WAt.r_over (t := ?_) (m := ?_) ?obw ?obd ?obm ?_); (case obw => assumption); (case obd => assumption); (case obm => assumption))
  | ((with_reducible refine' WAt.r_since (t := ?_) (m := ?_) ?obw ?obd ?obm ?_); (case obw => assumption); (case obd => assumption); (case obm => assumption))
  | ((with_reducible refine' WAt.r_done (t := ?_) (m := ?_) ?obw ?obd ?obm ?_); (case obw => assumption); (case obd => assumption); (case obm => assumption))
  | ((with_reducible refine' WAt.r_waits (t := ?_) (m := ?_) ?obw ?obd ?obm ?_); (case obw => assumption); (case obd => assumption); (case obm => assumption))
  | ((with_reducible refine' WAt.r_right ?obw ?obd ?_); (case obw => assumption); (case obd => assumption))
  | ((with_reducible refine' WAt.r_pass ?obw ?obd ?_); (case obw => assumption); (case obd => assumption)))
local macro_rules | `(tactic| walk_at "ob_at") => `(tactic| first
  | assumption
  | exact upd_same
  | (refine Eq.trans (upd_ne ?obn) ?obr; (case obn => walk_at "ob_ne"); (case obr => walk_at "ob_at")))
local macro_rules | `(tactic| walk_at "ob_ne") => `(tactic| first
  | assumption
  | (refine Ne.symm ?obs; (case obs => assumption))
  | (refine' ne_of_none (H := ?_) ?obe ?obh; (case obh => assumption); (case obe => walk_at "ob_at"))
  | (refine Ne.symm ?obs; (case obs => (refine' ne_of_none (H := ?_) ?obe ?obh; (case obh => assumption); (case obe => walk_at "ob_at")))))
local macro_rules | `(tactic| walk_at "ob_fr") => `(tactic| first
  | assumption
  | (refine Eq.trans (upd_ne ?obn) ?obr; (case obn => walk_at "ob_ne"); (case obr => walk_at "ob_fr"))
  | (refine Ex.free (G := ?_) (by assumption) ?obh; (case obh => walk_at "ob_fr")))
local macro_rules | `(tactic| walk_at "ob_ex") => `(tactic| first
  | assumption
  | exact Ex.refl _
  | (refine Ex.out ?obg ?obh; (case obh => assumption); (case obg => walk_at "ob_ex"))
  | (refine Ex.new ?obg ?obh; (case obh => assumption); (case obg => walk_at "ob_ex"))
  | (refine Ex.new ?obg ?obh; (case obh => walk_at "ob_fr"); (case obg => walk_at "ob_ex")))
local macro_rules | `(tactic| walk_at "ob_sq") => `(tactic| first
  | assumption
  | (refine SqL.of ?oba; (case oba => walk_at "ob_at"))
  | (refine Ex.sqT (F := ?_) ?obg ?obh; (case obh => assumption); (case obg => walk_at "ob_ex"))
  | (refine Ex.sqL (F := ?_) ?obg ?obh; (case obh => assumption); (case obg => walk_at "ob_ex"))
  | (refine SqT.of ?oba; (case oba => walk_at "ob_at")))
local macro_rules | `(tactic| walk_at "ob_side") => `(tactic| first | exact rfl | assumption | decide | omega | exact ⟨by decide, by decide, by decide⟩ | exact Or.inr ⟨by decide, by decide⟩ | exact Or.inl ⟨by decide, by decide⟩ | exact wide_div (b := 60) (by first | decide | omega) (by first | decide | omega) (by decide) (by decide))
local macro_rules | `(tactic| walk_at "ob1") => `(tactic| first
  | walk_at "ob_wat"
  | with_reducible refine sw_seq ?_
  | with_reducible refine sw_asg ?_
  | with_reducible refine sw_ret ?_
  | with_reducible refine sw_par ?_
  | with_reducible refine ⟨_, _, rfl, ?_⟩
  | with_reducible refine sw_drop ?_
  | with_reducible refine sw_if ?_
  | with_reducible refine sw_next ?_
  | with_reducible refine gw_name ?_
  | with_reducible refine gw_subL (by assumption) ?_
  | with_reducible refine gsw_cons ?_
  | with_reducible refine gsw_nil ?_
  | with_reducible refine ew_c ?_
  | ((with_reducible refine' ew_var (v := ?_) ?obv ?_); (case obv => exact rfl))
  | ((with_reducible refine ew_next (by assumption) ?obv ?_); (case obv => exact rfl))
  | ((with_reducible refine ew_world (by assumption) ?obv ?_); (case obv => exact rfl))
  | ((with_reducible refine ew_rule (by assumption) ?obv ?_); (case obv => exact rfl))
  | with_reducible refine ew_op ?_
  | with_reducible refine ew_un ?_
  | with_reducible refine ew_dget (by assumption) ?_
  | with_reducible refine uw_I ?_
  | with_reducible refine ppw_nil ?_
  | with_reducible refine ppw_cons ?_
  | with_reducible refine sw_dput (by assumption) ?_
  | with_reducible refine ew_cb ?_
  | with_reducible refine ew_if ?_
  | with_reducible refine ew_slL (by assumption) ?_
  | with_reducible refine ow_some ?_
  | with_reducible refine ow_none ?_
  | with_reducible refine aw_nil ?_
  | with_reducible refine aw_cons ?_
  | with_reducible refine rw_I0 ?_
  | ((with_reducible refine rw_I ?obc ?_); (case obc => walk_at "ob_side"))
  | with_reducible refine rw_isN ?_
  | with_reducible refine rw_notN ?_
  | ((with_reducible refine rw_eq ?obc ?_); (case obc => exact rfl))
  | ((with_reducible refine rw_ne ?obc ?_); (case obc => exact rfl))
  | with_reducible refine cw_max2 ?_
  | with_reducible refine cw_min2 ?_
  | with_reducible refine tw_test ?_
  | with_reducible refine tw_B ?_
  | with_reducible refine tw_not ?_
  | with_reducible refine tw_truB ?_
  | with_reducible refine tw_and ?_
  | with_reducible refine tw_or ?_
  | with_reducible refine ew_and ?_
  | (refine' Exists.intro _ (And.intro (show V.bl _ = V.bl _ from rfl) ?_))
  | (refine' Exists.intro _ (And.intro (show V.int _ = V.int _ from rfl) ?_))
  | ((with_reducible refine' rw_ixL (v := ?_) (xs := ?_) (by assumption) ?obl ?oba ?_); (case obl => walk_at "ob_sq"); (case oba => first | exact rfl | exact at_zero))
  | ((with_reducible refine' rw_ixT (v := ?_) (xs := ?_) (by assumption) ?obl ?oba ?_); (case obl => walk_at "ob_sq"); (case oba => first | exact rfl | exact at_zero))
  | ((with_reducible refine' ew_lst (by assumption) ?_))
  | ((with_reducible refine' ew_tup (by assumption) ?_)))
local macro_rules | `(tactic| walk_at "ob_len") => `(tactic| first | exact Nat.le_of_ble_eq_true rfl | (simp; done) | omega)
local macro_rules | `(tactic| walk_at "ob") => `(tactic| repeat walk_at "ob1")

/-! ### a store that is joined -/
def w0 (w : Wld) : Wld := { w with ms := [] }
def tI (w : Wld) (i : Nat) : LSt := ⟨w.start, -1, 0, (w.ms.take i).map fun _ => mac0 0⟩
def wI (w : Wld) (i : Nat) : Wld := { w with ms := w.ms.take i }
def hI (w : Wld) (i : Nat) : Hl := ⟨wI w i, tI w i, 0, (w.ms.take i).map fun ss => (false, ss)⟩
theorem w0_ok {w : Wld} (h : WldOk w) : WldOk (w0 w) := ⟨h.c0, h.c1, h.s0, h.s1, h.r0, h.r1, Nat.zero_le _, fun _ h => (by cases h), fun _ h => (by cases h)⟩
theorem tI_next {w : Wld} {j : Nat} {ss : List Stp} (h : w.ms[j]? = some ss) : tI w (j + 1) = { tI w j with ms := (tI w j).ms ++ [mac0 (tI w j).beat] } := by
  unfold tI
  rw [List.take_succ, h, List.map_append]
  rfl
theorem wI_next {w : Wld} {j : Nat} {ss : List Stp} (h : w.ms[j]? = some ss) : wI w (j + 1) = { wI w j with ms := (wI w j).ms ++ [ss] } := by
  unfold wI
  rw [List.take_succ, h]
  rfl
theorem hI_next {w : Wld} (hw : WldOk w) {r : Rgt} {p : Bool} {j : Nat} {ss : List Stp} (h : w.ms[j]? = some ss) : HStep r p (hI w j) (.enter ss) (hI w (j + 1)) := by
  have hm := List.mem_of_getElem? h
  have hj := (List.getElem?_eq_some_iff.mp h).1
  have z : HStep r p (hI w j) (.enter ss) _ := .enter (hw.n ss hm) (hw.st ss hm) (by show (w.ms.take j).length < 5; rw [List.length_take]; have := hw.m; omega)
  have e : hI w (j + 1) = ⟨{ (hI w j).w with ms := (hI w j).w.ms ++ [ss] }, { (hI w j).t with ms := (hI w j).t.ms ++ [mac0 (hI w j).t.beat] }, (hI w j).ln, (hI w j).sv ++ [(false, ss)]⟩ := by
    unfold hI
    rw [tI_next h, wI_next h, List.take_succ, h, List.map_append]
    rfl
  rw [e]
  exact z
def joinW (w : Wld) (mc : Int) : Wld := ⟨w.cap + mc, w.start, w.refill, w.ms⟩
theorem join_ok {w : Wld} {mc : Int} (hw : WldOk w) (h1 : 1 ≤ mc) (h2 : w.cap + mc ≤ 99) : WldOk (joinW w mc) :=
  ⟨by show 1 ≤ w.cap + mc; have := hw.c0; omega, h2, hw.s0, by show w.start ≤ w.cap + mc; have := hw.s1; omega, hw.r0, hw.r1, hw.m, hw.n, fun ss h st hs => by
    have q := hw.st ss h st hs
    exact ⟨q.d0, by show st.draw ≤ w.cap + mc; have := q.d1; omega, q.l0, q.l1, q.b0, q.b1⟩⟩
theorem join_step {w : Wld} {r : Rgt} {p : Bool} {mc : Int} (hw : WldOk w) (h1 : 1 ≤ mc) (h2 : w.cap + mc ≤ 99) : HStep r p (hl0 (w0 w)) (.merge mc 0 0) (hI (joinW w mc) 0) := by
  have z : HStep r p (hl0 (w0 w)) (.merge mc 0 0) _ := .merge h1 (by have := hw.c0; omega) (Int.le_refl 0) (by omega) (Int.le_refl 0) (by decide) h2 (by show w.refill + 0 ≤ 9; have := hw.r1; omega)
  have e : hI (joinW w mc) 0 = ⟨{ (hl0 (w0 w)).w with cap := (hl0 (w0 w)).w.cap + mc, refill := (hl0 (w0 w)).w.refill + 0 }, { (hl0 (w0 w)).t with level := (hl0 (w0 w)).t.level + 0 }, (hl0 (w0 w)).ln, (hl0 (w0 w)).sv⟩ := by
    rw [Int.add_zero, Int.add_zero]
    rfl
  rw [e]
  exact z
theorem szI {n : Nat} {l : List Int} (h : l.length ≤ 1000) : szD (n + 1) (.list (l.map PyData.int)) = true := by
  show (decide ((l.map PyData.int).length ≤ 1000) && (l.map PyData.int).all (szD n)) = true
  rw [List.length_map, decide_eq_true h, List.all_map, Bool.true_and, List.all_eq_true]
  intro x _
  cases n <;> rfl
theorem szT {a b : List Int} {l : Int} (ha : a.length ≤ 1000) (hb : b.length ≤ 1000) : szD 2 (.tuple [.list (a.map PyData.int), .list (b.map PyData.int), .int l]) = true := by
  show (decide (([PyData.list (a.map PyData.int), .list (b.map PyData.int), .int l]).length ≤ 1000) && ([PyData.list (a.map PyData.int), .list (b.map PyData.int), .int l]).all (szD 1)) = true
  simp only [List.all_cons, szI ha, szI hb, List.all_nil]
  rfl
theorem low_four {n : Nat} {a b c d : Int} : lowD (n + 1) (.tuple [.int a, .int b, .int c, .int d]) = true := by
  show [PyData.int a, .int b, .int c, .int d].all (lowD n) = true
  simp [lowD]
def aMerged (K : PySem.W.Frag) : List V → Hp → VK → Prop := fun vs F R => ∃ (sv mv rv ov : V) (w : Wld) (r : Rgt) (p : Bool) (mc : Int), vs = [sv, mv, rv, ov] ∧ Dp K F sv (stoD w) ∧ Dp K F mv (.tuple (w.ms.map macD)) ∧ Dp K F rv (rulD r p) ∧ Dp K F ov (.tuple [.int mc, .int 0, .int 0]) ∧ WldOk w ∧ 1 ≤ mc ∧ w.cap + mc ≤ 99 ∧ ∀ F', Ex F F' → R (.bl true) F'
theorem HGo.inv {r : Rgt} {p : Bool} : ∀ {dl : List Deed} {h h' : Hl}, HI h → HGo r p h dl h' → HI h'
  | [], _, _, hi, .nil => hi
  | _ :: _, _, _, hi, .cons s g => g.inv (hi.step s)
section
variable {P : Program} {w : World} {K : PySem.W.Frag} {mg : Str → Option Value} {base : Heap} {BC C M : Addr}

abbrev s__law_is_merged : Stmt := top 42
def N__law_is_merged : List Str := ["_law_store", "_law_machines", "_law_rule_here", "_law_more", "_law_cap", "_law_start", "_law_refill", "_law_both_of", "_law_alone", "_law_steps", "_law_beat"]
theorem sc__law_is_merged : FnScope N__law_is_merged ["_law_store", "_law_machines", "_law_rule_here", "_law_more"] (defScope s__law_is_merged) := ⟨rfl, rfl, rfl, by decide +kernel, rfl, by decide +kernel, by decide +kernel⟩
theorem ok__law_is_merged {f : Addr} {fd : FuncData} {f1 f2 f3 f4 f5 f6 f7 f8 : Addr} {fd1 fd2 fd3 fd4 fd5 fd6 fd7 fd8 : FuncData} (Fn : Fun K "_law_is_merged" "_law_is_merged" s__law_is_merged f fd) (B : Blt mg) (C_law_alike : Cal K mg "_law_alike" f1 fd1 ["_law_found", "_law_due"]) (G_law_alike : FnOk P w K mg base CX0 3 f1 fd1 ["_law_found", "_law_due"] (LS (aAlike K 3))) (Cagain : Cal K mg "again" f2 fd2 ["store", "rule", "deeds"]) (Gagain : FnOk P w K mg base CX0 9 f2 fd2 ["store", "rule", "deeds"] (LS (aAgain K BC C M))) (M_merge : Met K BC "merge" f3 fd3 ["self", "store"]) (G_merge : FnOk P w K mg base CX0 2 f3 fd3 ["self", "store"] (LS (aMerge K BC C M))) (M_enter : Met K BC "enter" f4 fd4 ["self", "steps"]) (G_enter : FnOk P w K mg base CX0 5 f4 fd4 ["self", "steps"] (LS (aBEnter K BC C M))) (M_tick : Met K BC "tick" f5 fd5 ["self"]) (G_tick : FnOk P w K mg base CX0 6 f5 fd5 ["self"] (LS (aTick K BC C M))) (M_stock : Met K BC "stock" f6 fd6 ["self"]) (G_stock : FnOk P w K mg base CX0 1 f6 fd6 ["self"] (LS (aStock K BC C))) (M_deeds : Met K BC "deeds" f7 fd7 ["self"]) (G_deeds : FnOk P w K mg base CX0 1 f7 fd7 ["self"] (LS (aDeeds K BC))) (MK_Breath : Mk K BC f8) (G_Breath : FnOk P w K mg base CX0 7 f8 fd8 ["self", "store", "rule"] (LS (aBInit K BC C M))) (MK_Breath_g : mg "Breath" = some (.ref BC)) (MK_Breath_a : Binds K fd8 ["self", "store", "rule"] []) : FnOk P w K mg base CX0 10 f fd ["_law_store", "_law_machines", "_law_rule_here", "_law_more"] (LS (aMerged K)) := by
  refine Fn.ok sc__law_is_merged (fun vs H Q E h => ?_) (fun cdv A outer s H vs Q E hr h => ?_)
  · obtain ⟨J, F, R, hd, j, h, _⟩ := h
    obtain ⟨sv, mv, rv, ov, w, r, p, mc, rfl, _⟩ := h
    rfl
  · have nd := sc__law_is_merged.nd
    obtain ⟨J, F, R, hd, j, h, q⟩ := h
    obtain ⟨sv, mv, rv, ov, wd, r, p, mc, rfl, dsv, dmv, drv, dov, hw, hmc, hcc, k⟩ := h
    refine ⟨_, (pss_cons (ps_asg (pv 0) (pg_tup rfl (pgs_cons (pg_name (i := 4) nd rfl (Or.inl rfl)) (pgs_cons (pg_name (i := 5) nd rfl (Or.inl rfl)) (pgs_cons (pg_name (i := 6) nd rfl (Or.inl rfl)) pgs_nil)))))
      (pss_cons (ps_set (i := 7) nd rfl (Or.inl rfl) (pe_make MK_Breath G_Breath (by exact hr.mono (by decide)) (by rfl) MK_Breath_g MK_Breath_a .nil pass0 (pa_cons (pe_tup (pa_cons (pv 4) (pa_cons (pv 5) (pa_cons (pv 6) pa_nil)))) (pa_cons (pv 2) pa_nil))))
      (pss_cons (ps_expr (pe_meth (pv 7) M_merge.cl M_merge.m G_merge (by exact hr.mono (by decide)) M_merge.a .nil pass0 (pa_cons (pv 3) pa_nil)))
      (pss_cons (ps_set (i := 8) nd rfl (Or.inl rfl) (pe_make MK_Breath G_Breath (by exact hr.mono (by decide)) (by rfl) MK_Breath_g MK_Breath_a .nil pass0 (pa_cons (pe_tup (pa_cons (pe_op op_add (pv 4) (pe_ix ix_tup (pv 3) pe_int (fun _ _ => rfl))) (pa_cons (pv 5) (pa_cons (pv 6) pa_nil)))) (pa_cons (pv 2) pa_nil))))
      (pss_cons (ps_for PassesOwn.never rfl (pi_tup (pv 1)) (pg_name (i := 9) nd rfl (Or.inl rfl)) (pss_cons (ps_expr (pe_meth (pv 7) M_enter.cl M_enter.m G_enter (by exact hr.mono (by decide)) M_enter.a .nil pass0 (pa_cons (pv 9) pa_nil)))
      (pss_one (ps_expr (pe_meth (pv 8) M_enter.cl M_enter.m G_enter (by exact hr.mono (by decide)) M_enter.a .nil pass0 (pa_cons (pv 9) pa_nil))))))
      (pss_cons (ps_for PassesOwn.never rfl (pi_range1 rfl B.range (pa_cons pe_int pa_nil)) (pg_name (i := 10) nd rfl (Or.inl rfl)) (pss_one (ps_if (PW.pt (pw_or (pt_not (pt_val (pe_call G_law_alike (by exact hr.mono (by decide)) (by rfl) C_law_alike.g C_law_alike.k C_law_alike.a .nil pass0 (pa_cons (pe_meth0 (pv 7) M_tick.cl M_tick.m G_tick (by exact hr.mono (by decide)) M_tick.a .nil pass0) (pa_cons (pe_meth0 (pv 8) M_tick.cl M_tick.m G_tick (by exact hr.mono (by decide)) M_tick.a .nil pass0) pa_nil))))) (pw_or1 (pt_cmpR (op_neD (by exact hr.units)) (pe_meth0 (pv 7) M_stock.cl M_stock.m G_stock (by exact hr.mono (by decide)) M_stock.a .nil pass0) (pe_meth0 (pv 8) M_stock.cl M_stock.m G_stock (by exact hr.mono (by decide)) M_stock.a .nil pass0) (nomark _))))) (pss_one (ps_ret pe_bl)) pss_nil)))
      (pss_cons (ps_if (pt_cmpR (op_neD (by exact hr.units)) (pe_meth0 (pe_call Gagain (by exact hr.mono (by decide)) (by rfl) Cagain.g Cagain.k Cagain.a .nil pass0 (pa_cons (pe_tup (pa_cons (pv 4) (pa_cons (pv 5) (pa_cons (pv 6) pa_nil)))) (pa_cons (pv 2) (pa_cons (pe_meth0 (pv 7) M_deeds.cl M_deeds.m G_deeds (by exact hr.mono (by decide)) M_deeds.a .nil pass0) pa_nil)))) M_stock.cl M_stock.m G_stock (by exact hr.mono (by decide)) M_stock.a .nil pass0) (pe_meth0 (pv 8) M_stock.cl M_stock.m G_stock (by exact hr.mono (by decide)) M_stock.a .nil pass0) (nomark _)) (pss_one (ps_ret pe_bl)) pss_nil)
      (pss_one (ps_ret pe_bl))))))))), ?_⟩
    refine LS.body j q ?_
    obtain ⟨sa, ys, rfl, ly, dys⟩ := dp_tup dsv
    obtain ⟨ma, zs, rfl, lz, dzs⟩ := dp_tup dmv
    obtain ⟨v1, v2, v3, rfl, d1, d2, d3⟩ := dps3 dys
    cases dp_int d1
    cases dp_int d2
    cases dp_int d3
    have hzl : zs.length = wd.ms.length := by have := dps_len dzs; simpa using this
    have hm5 := hw.m
    obtain ⟨oa, os, rfl, lo, dos⟩ := dp_tup dov
    obtain ⟨o1, o2, o3, rfl, f1, f2, f3⟩ := dps3 dos
    cases dp_int f1
    refine sw_seq (sw_asg (ew_var rfl (gw_tup hd ⟨sa, _, rfl, ly, rfl, gsw_cons (gw_name (gsw_cons (gw_name (gsw_cons (gw_name (gsw_nil ?_))))))⟩)))
    refine sw_seq (sw_asg (ew_make hd (aw_cons (ew_tup hd (aw_cons (ew_var rfl (aw_cons (ew_var rfl (aw_cons (ew_var rfl (aw_nil ⟨by walk_at "ob_len", fun p1 hp1 => ?_⟩)))))))))))
    have k1 := Ex.new (.refl F) hp1 (u := .tup [.int wd.cap, .int wd.start, .int wd.refill])
    refine aw_cons (ew_var rfl (aw_nil ?_))
    intro x dx hx hdx hne2
    have k2 := Ex.new (.refl _) hdx (F := upd F p1 (.tup [.int wd.cap, .int wd.start, .int wd.refill])) (u := .own x)
    refine ⟨_, x, dx, .ref p1, rv, w0 wd, r, p, rfl, rfl, by rw [upd_ne hne2.symm]; exact hx, .tup (k2.sqT (SqT.of upd_same)) (.cons (.int _) (.cons (.int _) (.cons (.int _) .nil))), rfl, dp_ex (k1.trans k2) drv, w0_ok hw, fun F0 F1 b1 A1 ea eb1 eC1 eM1 eP1 gF hX => ⟨rfl, gw_name ?_⟩⟩
    subst ea
    have g0 : Ex F F0 := k1.trans (k2.trans gF)
    clear k1 k2 gF hx hdx hp1
    refine sw_seq (sw_drop (ew_meth hd (ew_var rfl ⟨b1.a, b1.dx, _, rfl, eb1 ▸ hX.ex0, lookup_out (show _ ∉ bkeys by decide +kernel), aw_cons (ew_var rfl (aw_nil ?_))⟩)))
    refine ⟨F0, b1, A1, lBegun (w0 wd), w0 wd, r, p, [], 0, [], .ref oa, mc, 0, 0, rfl, eb1, eC1, eM1, hX, dp_ex (g0.trans hX.own.ex) dov, hmc, by have := hw.c0; omega, Int.le_refl 0, by omega, Int.le_refl 0, by decide, hw.c0, hw.r0, hcc, by show wd.refill + 0 ≤ 9; have := hw.r1; omega, by decide, fun F0' F2 e1 g1 de1 hX => ?_⟩
    have hW := join_ok hw hmc hcc
    have hX : BEnt K F0' F2 b1 A1 (tI (joinW wd mc) 0) (wI (joinW wd mc) 0) r p [.ref e1] 0 [] := by
      have e9 : ({ w0 wd with cap := (w0 wd).cap + mc, refill := (w0 wd).refill + 0 } : Wld) = wI (joinW wd mc) 0 := by rw [Int.add_zero]; rfl
      have e8 : ({ lBegun (w0 wd) with level := (lBegun (w0 wd)).level + 0 } : LSt) = tI (joinW wd mc) 0 := by rw [Int.add_zero]; rfl
      rw [← e9, ← e8]
      exact hX
    have g01 := g0.trans g1
    have dd1 : DpAll K F0' [.ref e1] ([Deed.merge mc 0 0].map deedD) := .cons de1 .nil
    have hg1 : HGo r p (hl0 (w0 wd)) [Deed.merge mc 0 0] (hI (joinW wd mc) 0) := .cons (join_step hw hmc hcc) .nil
    clear g0 g1 de1
    have sd1 := bent_side hX
    have ow1 := bent_own hX
    rw [List.append_nil] at ow1
    have gd := drop_ex ow1
    have gdF := g01.trans gd
    refine sw_seq (sw_asg (ew_aside hd ow1 (ew_make hd.jp (aw_cons (ew_tup hd.jp (aw_cons (ew_op (ew_var rfl (ew_op (ew_var rfl (ew_c (rw_ixT hd.jp (gdF.sqT lo) (atI_nat (j := 0) rfl) (rw_I0 ?_)))))))))))))
    generalize (dropH F2 _) = F3 at gd gdF ⊢
    refine aw_cons (ew_var rfl (aw_cons (ew_var rfl (aw_nil ⟨by walk_at "ob_len", fun p1 hp1 => aw_cons (ew_var rfl (aw_nil ?_))⟩))))
    have k1 := Ex.new (.refl F3) hp1 (u := .tup [.int (wd.cap + mc), .int wd.start, .int wd.refill])
    intro x dx hx hdx hne2
    have k2 := Ex.new (.refl _) hdx (F := upd F3 p1 (.tup [.int (wd.cap + mc), .int wd.start, .int wd.refill])) (u := .own x)
    refine ⟨_, x, dx, .ref p1, rv, w0 (joinW wd mc), r, p, rfl, rfl, by rw [upd_ne hne2.symm]; exact hx, .tup (k2.sqT (SqT.of upd_same)) (.cons (.int _) (.cons (.int _) (.cons (.int _) .nil))), rfl, dp_ex (gdF.trans (k1.trans k2)) drv, w0_ok hW, fun F0 F4 b2 A2 ea eb2 eC2 eM2 eP2 gF hX2 => ⟨rfl, fun F5 hO => gw_name ?_⟩⟩
    subst ea
    have g02 : Ex F0' F0 := gd.trans (k1.trans (k2.trans gF))
    have hB := BB.make sd1 hX2 g02 hO
    have g03 := g01.trans g02
    have dd1 := dps_ex g02 dd1
    clear k1 k2 gF hx hdx hp1 hX hX2 ow1 sd1 hO gd gdF g01 g02
    -- all come in
    refine sw_seq ?_
    refine sw_mid (fun σ _ G => ∃ (x9 x10 : Option V) (F0 : Hp) (A1 A2 : RAd) (ds1 ds2 : List V) (dl : List Deed), σ = [some (.ref sa), some (.ref ma), some rv, some (.ref oa), some (.int wd.cap), some (.int wd.start), some (.int wd.refill), some (.ref b1.a), some (.ref b2.a), x9, x10] ∧ Ex F F0 ∧ A1.C = C ∧ A1.M = M ∧ A2.C = C ∧ A2.M = M ∧ dl.length ≤ 10 ∧ DpAll K F0 ds1 (dl.map deedD) ∧ HGo r p (hl0 (w0 wd)) dl (hI (joinW wd mc) wd.ms.length) ∧ ds2.length ≤ 10 ∧ BB K F0 G r p b1 A1 (tI (joinW wd mc) wd.ms.length) (wI (joinW wd mc) wd.ms.length) ds1 0 b2 A2 (tI (joinW wd mc) wd.ms.length) (wI (joinW wd mc) wd.ms.length) ds2 0) ?_ ?_
    · refine sw_forT hd (ew_var rfl ?_)
      refine ⟨ma, zs, fun j σ _ G => ∃ (x9 x10 : Option V) (F0 : Hp) (A1 A2 : RAd) (ds1 ds2 : List V) (dl : List Deed), σ = [some (.ref sa), some (.ref ma), some rv, some (.ref oa), some (.int wd.cap), some (.int wd.start), some (.int wd.refill), some (.ref b1.a), some (.ref b2.a), x9, x10] ∧ Ex F F0 ∧ A1.C = C ∧ A1.M = M ∧ A2.C = C ∧ A2.M = M ∧ dl.length = j + 1 ∧ DpAll K F0 ds1 (dl.map deedD) ∧ HGo r p (hl0 (w0 wd)) dl (hI (joinW wd mc) j) ∧ ds2.length = j ∧ BB K F0 G r p b1 A1 (tI (joinW wd mc) j) (wI (joinW wd mc) j) ds1 0 b2 A2 (tI (joinW wd mc) j) (wI (joinW wd mc) j) ds2 0, rfl, (g03.trans hB.own.ex).sqT lz, ⟨none, none, F0, A1, A2, _, _, _, rfl, g03, eC1, eM1, eC2, eM2, rfl, dd1, hg1, rfl, hB⟩, ?_, ?_, ?_⟩
      · rintro j σ _ G hj ⟨x9, x10, F0, A1, A2, ds1, ds2, dl, rfl, g, _, _, _, _, _, _, _, _, hB⟩
        exact (g.trans hB.own.ex).sqT lz
      · rintro j xv σ _ G hxv ⟨x9, x10, F0, A1, A2, ds1, ds2, dl, rfl, g, eC1, eM1, eC2, eM2, hdl, dd, hgo, hd2, hB⟩
        obtain ⟨d, hd1, dxv⟩ := dps_get' dzs hxv
        rw [List.getElem?_map] at hd1
        obtain ⟨ss, hss, rfl⟩ := Option.map_eq_some_iff.mp hd1
        have hsm := List.mem_of_getElem? hss
        have hjl := (List.getElem?_eq_some_iff.mp hss).1
        have hWs := hW.st ss hsm
        have hwl : (wI (joinW wd mc) j).ms.length = j := by
          show (wd.ms.take j).length = j
          rw [List.length_take]
          omega
        have hds1 : ds1.length = j + 1 := by have := dps_len dd; rw [this, List.length_map, hdl]
        refine gw_name (sw_seq (sw_drop (ew_meth hd (ew_var rfl ⟨b1.a, b1.dx, _, rfl, eb1 ▸ hB.fst.ex0, lookup_out (show _ ∉ bkeys by decide +kernel), aw_cons (ew_var rfl (aw_nil ?_))⟩))))
        refine ⟨F0, b1, A1, tI (joinW wd mc) j, wI (joinW wd mc) j, r, p, ds1, 0, _, xv, ss, rfl, eb1, eC1, eM1, hB.fst, dp_ex g dxv, hw.n ss hsm, hWs, by omega, by omega, fun F0' F' ad e g1 hpz hful de hX' => ?_⟩
        have hB1 := hB.set1 g1 hX'
        refine sw_drop (ew_meth hd (ew_var rfl ⟨b2.a, b2.dx, _, rfl, eb2 ▸ hB1.snd.ex0, lookup_out (show _ ∉ bkeys by decide +kernel), aw_cons (ew_var rfl (aw_nil ?_))⟩))
        refine ⟨F0', b2, A2, tI (joinW wd mc) j, wI (joinW wd mc) j, r, p, ds2, 0, _, xv, ss, rfl, eb2, eC2, eM2, hB1.snd, dp_ex (g.trans g1) dxv, hw.n ss hsm, hWs, by omega, by omega, fun F0'' F'' ad' e' g2 hpz' hful' de' hX'' => ?_⟩
        have hB2 := hB1.set2 g2 hX''
        rw [← tI_next (w := joinW wd mc) hss, ← wI_next (w := joinW wd mc) hss] at hB2
        refine ⟨_, _, F0'', { A1 with mads := A1.mads ++ [ad] }, { A2 with mads := A2.mads ++ [ad'] }, ds1 ++ [.ref e], ds2 ++ [.ref e'], dl ++ [.enter ss], rfl, g.trans (g1.trans g2), eC1, eM1, eC2, eM2, by rw [List.length_append, hdl]; rfl, ?_, hgo.snoc (hI_next (w := joinW wd mc) hW hss), by rw [List.length_append, hd2]; rfl, hB2⟩
        rw [List.map_append]
        exact dps_ex g2 (dps_snoc (dps_ex g1 dd) de)
      · rintro σ _ G ⟨x9, x10, F0, A1, A2, ds1, ds2, dl, rfl, g, eC1, eM1, eC2, eM2, hdl, dd, hgo, hd2, hB⟩
        rw [hzl] at hgo hB hdl hd2
        exact ⟨x9, x10, F0, A1, A2, ds1, ds2, dl, rfl, g, eC1, eM1, eC2, eM2, by omega, dd, hgo, by omega, hB⟩
    clear hB dd1 hg1 g03 eC1 eM1 eP1 eC2 eM2 eP2
    rintro σ _ G ⟨x9, x10, F0, A1, A2, ds1, ds2, dl, rfl, g, eC1, eM1, eC2, eM2, hdl, dd, hgo, hd2, hB⟩
    have ew : wI (joinW wd mc) wd.ms.length = joinW wd mc := by
      unfold wI
      show ({ joinW wd mc with ms := wd.ms.take wd.ms.length } : Wld) = _
      rw [List.take_length]
      rfl
    have eh : hI (joinW wd mc) wd.ms.length = ⟨joinW wd mc, tI (joinW wd mc) wd.ms.length, 0, wd.ms.map fun ss => (false, ss)⟩ := by
      unfold hI
      rw [ew]
      show (⟨_, _, 0, (wd.ms.take wd.ms.length).map _⟩ : Hl) = _
      rw [List.take_length]
    rw [eh] at hgo
    rw [ew] at hB
    generalize tI (joinW wd mc) wd.ms.length = t0 at hgo hB
    generalize (wd.ms.map fun ss => (false, ss)) = svs at hgo
    -- the beats
    refine sw_seq ?_
    refine sw_mid (fun σ _ G => ∃ (x9 x10 : Option V) (F0 : Hp) (A1 A2 : RAd) (ds1 ds2 : List V) (dl : List Deed) (t : LSt), σ = [some (.ref sa), some (.ref ma), some rv, some (.ref oa), some (.int wd.cap), some (.int wd.start), some (.int wd.refill), some (.ref b1.a), some (.ref b2.a), x9, x10] ∧ Ex F F0 ∧ A1.C = C ∧ A1.M = M ∧ A2.C = C ∧ A2.M = M ∧ dl.length ≤ 25 ∧ DpAll K F0 ds1 (dl.map deedD) ∧ HGo r p (hl0 (w0 wd)) dl ⟨joinW wd mc, t, 0, svs⟩ ∧ BB K F0 G r p b1 A1 t (joinW wd mc) ds1 0 b2 A2 t (joinW wd mc) ds2 0) ?_ ?_
    · refine sw_forR1 (aw_cons (ew_c (aw_nil ?_)))
      refine ⟨15, fun j σ _ G => ∃ (x9 x10 : Option V) (F0 : Hp) (A1 A2 : RAd) (ds1 ds2 : List V) (dl : List Deed) (t : LSt), σ = [some (.ref sa), some (.ref ma), some rv, some (.ref oa), some (.int wd.cap), some (.int wd.start), some (.int wd.refill), some (.ref b1.a), some (.ref b2.a), x9, x10] ∧ Ex F F0 ∧ A1.C = C ∧ A1.M = M ∧ A2.C = C ∧ A2.M = M ∧ dl.length ≤ 10 + j ∧ DpAll K F0 ds1 (dl.map deedD) ∧ HGo r p (hl0 (w0 wd)) dl ⟨joinW wd mc, t, 0, svs⟩ ∧ ds2.length ≤ 10 + j ∧ BB K F0 G r p b1 A1 t (joinW wd mc) ds1 0 b2 A2 t (joinW wd mc) ds2 0, rfl, by decide, by decide, ⟨x9, x10, F0, A1, A2, ds1, ds2, dl, t0, rfl, g, eC1, eM1, eC2, eM2, hdl, dd, hgo, hd2, hB⟩, ?_, ?_⟩
      · rintro j σ _ G hj ⟨x9, x10, F0, A1, A2, ds1, ds2, dl, t, rfl, g, eC1, eM1, eC2, eM2, hdl, dd, hgo, hd2, hB⟩
        have hi := HGo.inv (hl0_ok (w0_ok hw) rfl) hgo
        have hds1 : ds1.length = dl.length := by have := dps_len dd; rw [this, List.length_map]
        refine gw_name (sw_if (tw_or (tw_not (tw_B (ew_call hd (aw_cons (ew_meth hd (ew_var rfl ⟨b1.a, b1.dx, _, rfl, eb1 ▸ hB.fst.ex0, lookup_out (show _ ∉ bkeys by decide +kernel), aw_nil ?_⟩))))))))
        refine ⟨F0, b1, A1, t, joinW wd mc, r, p, ds1, 0, _, rfl, eb1, eC1, eM1, hB.fst, hi.ok, hi.m5, hi.lg, by omega, fun F1 G1 q1 bg1 oA1 e1 t1 lv1 bs1 bt1 ok1 g1 c1 c2 c3 c4 hX1 => ?_⟩
        have hB1 := hB.set1 g1 hX1
        refine aw_cons (ew_meth hd (ew_var rfl ⟨b2.a, b2.dx, _, rfl, eb2 ▸ hB1.snd.ex0, lookup_out (show _ ∉ bkeys by decide +kernel), aw_nil ?_⟩))
        refine ⟨F1, b2, A2, t, joinW wd mc, r, p, ds2, 0, _, rfl, eb2, eC2, eM2, hB1.snd, hi.ok, hi.m5, hi.lg, by omega, fun F2 G2 q2 bg2 oA2 e2 t2 lv2 bs2 bt2 ok2 g2 k1 k2 k3 k4 hX2 => ?_⟩
        have hB2 := hB1.set2 g2 hX2
        obtain ⟨rfl, rfl, rfl⟩ := beat_uniq bt1 bt2
        have hlo := overs_len (t := t) (joinW wd mc).ms.length
        have hlb := bg_len bt1
        have hjm : (joinW wd mc).ms.length ≤ 5 := hi.m5
        refine aw_nil ⟨.ref q1, .ref q2, .tuple [.list ((overs t (joinW wd mc).ms.length).map PyData.int), .list (bs1.map PyData.int), .int lv1], rfl, ?_, ?_, szT (by omega) (by omega), fun G3 g3 => ⟨_, rfl, (fun z => by cases z), fun _ => ?_⟩⟩
        · exact dp_ex (g2.trans hB2.own.ex) (.tup (SqT.of c4) (.cons (.lst (SqL.of c3) dp_ints) (.cons (.lst (SqL.of c2) dp_ints) (.cons (.int _) .nil))))
        · exact dp_ex hB2.own.ex (.tup (SqT.of k4) (.cons (.lst (SqL.of k3) dp_ints) (.cons (.lst (SqL.of k2) dp_ints) (.cons (.int _) .nil))))
        have hB3 := hB2.grow g3
        refine tw_test (ew_op (ew_meth hd (ew_var rfl ⟨b1.a, b1.dx, _, rfl, eb1 ▸ hB3.fst.ex0, lookup_out (show _ ∉ bkeys by decide +kernel), aw_nil ?_⟩)))
        refine ⟨F2, b1, A1, t1, joinW wd mc, r, p, _, 0, _, rfl, eb1, eC1, hB3.fst, fun qa G4 g4 hqa ea => ?_⟩
        have hB4 := hB3.grow g4
        refine ew_meth hd (ew_var rfl ⟨b2.a, b2.dx, _, rfl, eb2 ▸ hB4.snd.ex0, lookup_out (show _ ∉ bkeys by decide +kernel), aw_nil ?_⟩)
        refine ⟨F2, b2, A2, t1, joinW wd mc, r, p, _, 0, _, rfl, eb2, eC2, hB4.snd, fun qb G5 g5 hqb eb => ?_⟩
        refine rw_neD hd (d := .tuple [.int (joinW wd mc).cap, .int t1.level, .int (joinW wd mc).refill, .int 0]) (e := .tuple [.int (joinW wd mc).cap, .int t1.level, .int (joinW wd mc).refill, .int 0]) (.tup (SqT.of (g5 _ _ ea)) (.cons (.int _) (.cons (.int _) (.cons (.int _) (.cons (.int _) .nil))))) (.tup (SqT.of eb) (.cons (.int _) (.cons (.int _) (.cons (.int _) (.cons (.int _) .nil))))) (shaped_low (n := 1) low_four) (shaped_low (n := 1) low_four) ?_
        rw [eqv_low (n := 1) low_four]
        refine ⟨_, rfl, (fun z => by cases z), fun _ => sw_next ⟨_, _, F2, A1, A2, ds1 ++ [.ref e1], ds2 ++ [.ref e2], dl ++ [.tick], t1, rfl, g.trans (g1.trans g2), eC1, eM1, eC2, eM2, ?_, ?_, hgo.snoc (.tick bt1), ?_, hB4.grow g5⟩⟩
        · rw [List.length_append]; show _ + 1 ≤ _; omega
        · rw [List.map_append]
          exact dps_ex g2 (dps_snoc (dps_ex g1 dd) (.tup (SqT.of c1) (.cons (.str _) .nil)))
        · rw [List.length_append]; show _ + 1 ≤ _; omega
      · rintro σ _ G ⟨x9, x10, F0, A1, A2, ds1, ds2, dl, t, rfl, g, eC1, eM1, eC2, eM2, hdl, dd, hgo, hd2, hB⟩
        exact ⟨x9, x10, F0, A1, A2, ds1, ds2, dl, t, rfl, g, eC1, eM1, eC2, eM2, by omega, dd, hgo, hB⟩
    clear hB dd hgo g hdl hd2 eC1 eM1 eC2 eM2
    rintro σ _ G ⟨x9, x10, F0, A1, A2, ds1, ds2, dl, t, rfl, g, eC1, eM1, eC2, eM2, hdl, dd, hgo, hB⟩
    -- done again
    refine sw_seq ?_
    refine sw_mid (fun σ _ G => Ex F G) ?_ ?_
    · refine sw_if (tw_test (ew_op (ew_meth hd (ew_call hd (aw_cons (ew_tup hd (aw_cons (ew_var rfl (aw_cons (ew_var rfl (aw_cons (ew_var rfl (aw_nil ⟨by walk_at "ob_len", fun p1 hp1 => ?_⟩)))))))))))))
      have k1 := Ex.new (.refl G) hp1 (u := .tup [.int wd.cap, .int wd.start, .int wd.refill])
      have hB1 := hB.grow k1
      have dst : Dp K (upd G p1 (.tup [.int wd.cap, .int wd.start, .int wd.refill])) (.ref p1) (stoD (w0 wd)) := .tup (SqT.of upd_same) (.cons (.int _) (.cons (.int _) (.cons (.int _) .nil)))
      have k1G := g.trans hB1.own.ex
      generalize upd G p1 (.tup [.int wd.cap, .int wd.start, .int wd.refill]) = G1 at hB1 dst k1G k1
      refine aw_cons (ew_var rfl (aw_cons (ew_meth hd (ew_var rfl ⟨b1.a, b1.dx, _, rfl, eb1 ▸ hB1.fst.ex0, lookup_out (show _ ∉ bkeys by decide +kernel), aw_nil ?_⟩))))
      refine ⟨F0, b1, A1, t, joinW wd mc, r, p, ds1, 0, _, rfl, eb1, hB1.fst, fun qd hqd => aw_nil ?_⟩
      have k2 := Ex.new (.refl G1) hqd (u := .lst ds1)
      have hB2 := hB1.grow k2
      refine ⟨.ref p1, rv, qd, ds1, dl, w0 wd, r, p, _, rfl, dp_ex k2 dst, rfl, dp_ex (k1G.trans k2) drv, w0_ok hw, SqL.of upd_same, dps_ex hB2.own.ex dd, by omega, hgo, fun F3 G3 b3 A3 ds3 g3 eb3 eC3 eM3 hs3 dd3 hX3 => ?_⟩
      have gG3 := g3.trans hX3.own.ex
      have hB3 := hB2.grow gG3
      refine ⟨b3.a, b3.dx, _, rfl, eb3 ▸ hX3.ex0, lookup_out (show _ ∉ bkeys by decide +kernel), aw_nil ?_⟩
      refine ⟨F3, b3, A3, t, joinW wd mc, r, p, ds3, 0, [], rfl, eb3, eC3, hX3, fun qa G4 g4 hqa ea => ?_⟩
      have hB4 := hB3.grow g4
      refine ew_meth hd (ew_var rfl ⟨b2.a, b2.dx, _, rfl, eb2 ▸ hB4.snd.ex0, lookup_out (show _ ∉ bkeys by decide +kernel), aw_nil ?_⟩)
      refine ⟨F0, b2, A2, t, joinW wd mc, r, p, ds2, 0, _, rfl, eb2, eC2, hB4.snd, fun qb G5 g5 hqb eb => ?_⟩
      refine rw_neD hd (d := .tuple [.int (joinW wd mc).cap, .int t.level, .int (joinW wd mc).refill, .int 0]) (e := .tuple [.int (joinW wd mc).cap, .int t.level, .int (joinW wd mc).refill, .int 0]) (.tup (SqT.of (g5 _ _ ea)) (.cons (.int _) (.cons (.int _) (.cons (.int _) (.cons (.int _) .nil))))) (.tup (SqT.of eb) (.cons (.int _) (.cons (.int _) (.cons (.int _) (.cons (.int _) .nil))))) (shaped_low (n := 1) low_four) (shaped_low (n := 1) low_four) ?_
      rw [eqv_low (n := 1) low_four]
      exact ⟨_, rfl, (fun z => by cases z), fun _ => sw_next ((k1G.trans k2).trans (gG3.trans (g4.trans g5)))⟩
    rintro σ _ G gG
    exact sw_ret (ew_c (k G gG))
end
end Obr
namespace Obr
open PySem L2 PyProof.Rows
local macro_rules | `(tactic| walk_at "ob_wat") => `(tactic| first
  | with_reducible refine WAt.g_store (by assumption) ?_
  | with_reducible refine WAt.g_machines (by assumption) ?_
  | with_reducible refine WAt.g_rule (by assumption) ?_
  | with_reducible refine WAt.g_level (by assumption) ?_
  | with_reducible refine WAt.g_at (by assumption) ?_
  | with_reducible refine WAt.g_over (by assumption) ?_
  | with_reducible refine WAt.g_since (by assumption) ?_
  | with_reducible refine WAt.g_last (by assumption) ?_
  | with_reducible refine WAt.g_beat (by assumption) ?_
  | with_reducible refine WAt.g_done (by assumption) ?_
  | with_reducible refine WAt.g_waits (by assumption) ?_
  | with_reducible refine WAt.g_ends (by assumption) ?_
  | ((with_reducible refine' WAt.r_at_ (t := ?_) (m := ?_) ?obw ?obd ?obm ?_); (case obw => assumption); (case obd => assumption); (case obm => assumption))
  | ((with_reducible refine' WAt.r_over (t := ?_) (m := ?_) ?obw ?obd ?obm ?_); (case obw => assumption); (case obd => assumption); (case obm => assumption))
  | ((with_reducible refine' WAt.r_since (t := ?_) (m := ?_) ?obw ?obd ?obm ?_); (case obw => assumption); (case obd => assumption); (case obm => assumption))
  | ((with_reducible refine' WAt.r_done (t := ?_) (m := ?_) ?obw ?obd ?obm ?_); (case obw => assumption); (case obd => assumption); (case obm => assumption))
  | ((with_reducible refine' WAt.r_waits (t := ?_) (m := ?_) ?obw ?obd ?obm ?_); (case obw => assumption); (case obd => assumption); (case obm => assumption))
  | ((with_reducible refine' WAt.r_right ?obw ?obd ?_); (case obw => assumption); (case obd => assumption))
  | ((with_reducible refine' WAt.r_pass ?obw ?obd ?_); (case obw => assumption); (case obd => assumption)))
local macro_rules | `(tactic| walk_at "ob_at") => `(tactic| first
  | assumption
  | exact upd_same
  | (refine Eq.trans (upd_ne ?obn) ?obr; (case obn => walk_at "ob_ne"); (case obr => walk_at "ob_at")))
local macro_rules | `(tactic| walk_at "ob_ne") => `(tactic| first
  | assumption
  | (refine Ne.symm ?obs; (case obs => assumption))
  | (refine' ne_of_none (H := ?_) ?obe ?obh; (case obh => assumption); (case obe => walk_at "ob_at"))
  | (refine Ne.symm ?obs; (case obs => (refine' ne_of_none (H := ?_) ?obe ?obh; (case obh => assumption); (case obe => walk_at "ob_at")))))
local macro_rules | `(tactic| walk_at "ob_fr") => `(tactic| first
  | assumption
  | (refine Eq.trans (upd_ne ?obn) ?obr; (case obn => walk_at "ob_ne"); (case obr => walk_at "ob_fr"))
  | (refine Ex.free (G := ?_) (by assumption) ?obh; (case obh => walk_at "ob_fr")))
local macro_rules | `(tactic| walk_at "ob_ex") => `(tactic| first
  | assumption
  | exact Ex.refl _
  | (refine Ex.out ?obg ?obh; (case obh => assumption); (case obg => walk_at "ob_ex"))
  | (refine Ex.new ?obg ?obh; (case obh => assumption); (case obg => walk_at "ob_ex"))
  | (refine Ex.new ?obg ?obh; (case obh => walk_at "ob_fr"); (case obg => walk_at "ob_ex")))
local macro_rules | `(tactic| walk_at "ob_sq") => `(tactic| first
  | assumption
  | (refine SqL.of ?oba; (case oba => walk_at "ob_at"))
  | (refine Ex.sqT (F := ?_) ?obg ?obh; (case obh => assumption); (case obg => walk_at "ob_ex"))
  | (refine Ex.sqL (F := ?_) ?obg ?obh; (case obh => assumption); (case obg => walk_at "ob_ex"))
  | (refine SqT.of ?oba; (case oba => walk_at "ob_at")))
local macro_rules | `(tactic| walk_at "ob_side") => `(tactic| first | exact rfl | assumption | decide | omega | exact ⟨by decide, by decide, by decide⟩ | exact Or.inr ⟨by decide, by decide⟩ | exact Or.inl ⟨by decide, by decide⟩ | exact wide_div (b := 60) (by first | decide | omega) (by first | decide | omega) (by decide) (by decide))
local macro_rules | `(tactic| walk_at "ob1") => `(tactic| first
  | walk_at "ob_wat"
  | with_reducible refine sw_seq ?_
  | with_reducible refine sw_asg ?_
  | with_reducible refine sw_ret ?_
  | with_reducible refine sw_par ?_
  | with_reducible refine ⟨_, _, rfl, ?_⟩
  | with_reducible refine sw_drop ?_
  | with_reducible refine sw_if ?_
  | with_reducible refine sw_next ?_
  | with_reducible refine gw_name ?_
  | with_reducible refine gw_subL (by assumption) ?_
  | with_reducible refine gsw_cons ?_
  | with_reducible refine gsw_nil ?_
  | with_reducible refine ew_c ?_
  | ((with_reducible refine' ew_var (v := ?_) ?obv ?_); (case obv => exact rfl))
  | ((with_reducible refine ew_next (by assumption) ?obv ?_); (case obv => exact rfl))
  | ((with_reducible refine ew_world (by assumption) ?obv ?_); (case obv => exact rfl))
  | ((with_reducible refine ew_rule (by assumption) ?obv ?_); (case obv => exact rfl))
  | with_reducible refine ew_op ?_
  | with_reducible refine ew_un ?_
  | with_reducible refine ew_dget (by assumption) ?_
  | with_reducible refine uw_I ?_
  | with_reducible refine ppw_nil ?_
  | with_reducible refine ppw_cons ?_
  | with_reducible refine sw_dput (by assumption) ?_
  | with_reducible refine ew_cb ?_
  | with_reducible refine ew_if ?_
  | with_reducible refine ew_slL (by assumption) ?_
  | with_reducible refine ow_some ?_
  | with_reducible refine ow_none ?_
  | with_reducible refine aw_nil ?_
  | with_reducible refine aw_cons ?_
  | with_reducible refine rw_I0 ?_
  | ((with_reducible refine rw_I ?obc ?_); (case obc => walk_at "ob_side"))
  | with_reducible refine rw_isN ?_
  | with_reducible refine rw_notN ?_
  | ((with_reducible refine rw_eq ?obc ?_); (case obc => exact rfl))
  | ((with_reducible refine rw_ne ?obc ?_); (case obc => exact rfl))
  | with_reducible refine cw_max2 ?_
  | with_reducible refine cw_min2 ?_
  | with_reducible refine tw_test ?_
  | with_reducible refine tw_B ?_
  | with_reducible refine tw_not ?_
  | with_reducible refine tw_truB ?_
  | with_reducible refine tw_and ?_
  | with_reducible refine tw_or ?_
  | with_reducible refine ew_and ?_
  | (refine' Exists.intro _ (And.intro (show V.bl _ = V.bl _ from rfl) ?_))
  | (refine' Exists.intro _ (And.intro (show V.int _ = V.int _ from rfl) ?_))
  | ((with_reducible refine' rw_ixL (v := ?_) (xs := ?_) (by assumption) ?obl ?oba ?_); (case obl => walk_at "ob_sq"); (case oba => first | exact rfl | exact at_zero))
  | ((with_reducible refine' rw_ixT (v := ?_) (xs := ?_) (by assumption) ?obl ?oba ?_); (case obl => walk_at "ob_sq"); (case oba => first | exact rfl | exact at_zero))
  | ((with_reducible refine' ew_lst (by assumption) ?_))
  | ((with_reducible refine' ew_tup (by assumption) ?_)))
local macro_rules | `(tactic| walk_at "ob_len") => `(tactic| first | exact Nat.le_of_ble_eq_true rfl | (simp; done) | omega)
local macro_rules | `(tactic| walk_at "ob") => `(tactic| repeat walk_at "ob1")

/-! ### the law -/
def aLaw (K : PySem.W.Frag) : List V → Hp → VK → Prop := fun vs F R => ∃ (a : Addr) (ns : List Int), vs = [.ref a] ∧ SqL K F a (ns.map V.int) ∧ ns.length ≤ 63 ∧ ∀ F', R (.bl true) F'
theorem overs_eqs {t u : LSt} (h : EqS t u) : ∀ n, overs u n = overs t n
  | 0 => rfl
  | n + 1 => by
    show overs u n ++ _ = overs t n ++ _
    rw [overs_eqs h n]
    congr 1
    rcases h.two n with ⟨e1, e2⟩ | ⟨m, m', e1, e2, ea, eo⟩
    · rw [e1, e2]
    · rw [e1, e2]
      simp only
      rw [eo, h.bt]
def leftD (m : Mac) (b : Int) : PyData := if 0 ≤ m.over then .int (m.over - b) else .none
def standL (t : LSt) : List PyData := t.ms.map fun m => .tuple [.int m.at_, leftD m t.beat, .bool false]
theorem left_dp {K : PySem.W.Frag} {F : Hp} {m : Mac} {b : Int} : Dp K F (leftV m b) (leftD m b) := by
  unfold leftV leftD
  split
  · exact .int _
  · exact .non
theorem stand_eqs {t u : LSt} (h : EqS t u) : standL u = standL t := by
  unfold standL
  have z := congrArg (fun l : List Mac => l.map fun m => PyData.tuple [.int m.at_, leftD m t.beat, .bool false]) h.ms
  simp only [List.map_map] at z
  rw [h.bt]
  exact z
theorem low_stand {t : LSt} : lowD 2 (.list (standL t)) = true := by
  show (standL t).all (lowD 1) = true
  unfold standL
  rw [List.all_map, List.all_eq_true]
  intro m _
  show [PyData.int m.at_, leftD m t.beat, .bool false].all (lowD 0) = true
  unfold leftD
  split <;> simp [lowD]
theorem stand_dp {K : PySem.W.Frag} {G : Hp} {A : RAd} {t : LSt} {n : Nat} {xs : List V} (h : StandTo G A t n xs) (hl : xs.length = n) (h1 : t.ms.length = n) (h2 : A.mads.length = n) (hz : ∀ ad ∈ A.mads, ad.sv.pz = false) : DpAll K G xs (standL t) := by
  have key : ∀ (k : Nat) (v : V), xs[k]? = some v → ∃ d, (standL t)[k]? = some d ∧ Dp K G v d := fun k v hv => by
    have hk : k < n := by rw [← hl]; exact (List.getElem?_eq_some_iff.mp hv).1
    have hm : t.ms[k]? = some t.ms[k] := List.getElem?_eq_getElem (by omega)
    have ha : A.mads[k]? = some A.mads[k] := List.getElem?_eq_getElem (by omega)
    obtain ⟨q, hq, oq⟩ := h k _ _ hk hm ha
    rw [hv] at hq
    cases hq
    rw [hz _ (List.mem_of_getElem? ha)] at oq
    refine ⟨_, by unfold standL; rw [List.getElem?_map, hm]; rfl, .tup (SqT.of oq) (.cons (.int _) (.cons left_dp (.cons (.bl _) .nil)))⟩
  have hlen : xs.length = (standL t).length := by unfold standL; rw [List.length_map]; omega
  have mk : ∀ (xs : List V) (ds : List PyData), xs.length = ds.length → (∀ (k : Nat) (v : V), xs[k]? = some v → ∃ d, ds[k]? = some d ∧ Dp K G v d) → DpAll K G xs ds := fun xs => by
    induction xs with
    | nil => intro ds hl _; cases ds with
      | nil => exact .nil
      | cons _ _ => cases hl
    | cons x xs ih =>
      intro ds hl hk
      cases ds with
      | nil => cases hl
      | cons d ds =>
        obtain ⟨d', e, hd⟩ := hk 0 x rfl
        cases e
        exact .cons hd (ih ds (by simpa using hl) fun k v hv => by
          obtain ⟨d2, e2, h2⟩ := hk (k + 1) v (by simpa using hv)
          exact ⟨d2, by simpa using e2, h2⟩)
  exact mk xs (standL t) hlen key
theorem stW_back {w : Wld} {k : Nat} {ss x : List Stp} (h : w.ms[k]? = some ss) : stW (stW w k x) k ss = w := by
  unfold stW
  simp only [List.set_set]
  have e : w.ms.set k ss = w.ms := by
    refine List.ext_getElem? fun j => ?_
    rw [List.getElem?_set]
    by_cases c : k = j
    · subst c
      have := (List.getElem?_eq_some_iff.mp h).1
      rw [if_pos rfl, if_pos this, h]
    · rw [if_neg c]
  rw [e]
theorem eqs_since {t u : LSt} (h : EqS t u) {k : Nat} {m : Mac} {b : Int} (hm : u.ms[k]? = some m) : EqS t { u with ms := u.ms.set k { m with since := b } } := by
  refine ⟨h.lv, h.la, h.bt, ?_⟩
  show (u.ms.set k _).map nm = _
  rw [← h.ms, List.map_set]
  refine List.ext_getElem? fun j => ?_
  rw [List.getElem?_set]
  by_cases c : k = j
  · subst c
    have := (List.getElem?_eq_some_iff.mp hm).1
    rw [if_pos rfl, List.length_map, if_pos this, List.getElem?_map, hm]
    rfl
  · rw [if_neg c]
theorem eqs_ok {w : Wld} {u : LSt} (h : LOk w u) {k : Nat} {m : Mac} {b : Int} (hm : u.ms[k]? = some m) : LOk w { u with ms := u.ms.set k { m with since := b } } := by
  have hk := (List.getElem?_eq_some_iff.mp hm).1
  refine ⟨h.b, fun j m2 ss h1 h2 => ?_, by show (u.ms.set k _).length = _; rw [List.length_set]; exact h.len⟩
  have h1 : (u.ms.set k { m with since := b })[j]? = some m2 := h1
  by_cases c : k = j
  · subst c
    rw [List.getElem?_set_self hk] at h1
    cases h1
    have z := h.m k m ss hm h2
    exact ⟨z.a0, z.a1, z.o⟩
  · rw [List.getElem?_set_ne c] at h1
    exact h.m j m2 ss h1 h2
/-- the first n machines paused -/
def pzN (w : Wld) (t : LSt) : Nat → Wld
  | 0 => w
  | n + 1 => match t.ms[n]?, w.ms[n]? with
    | some m, some ss => stW (pzN w t n) n (cutS ss m)
    | _, _ => pzN w t n
theorem pzN_cap {w : Wld} {t : LSt} : ∀ n, (pzN w t n).cap = w.cap ∧ (pzN w t n).refill = w.refill ∧ (pzN w t n).start = w.start ∧ (pzN w t n).ms.length = w.ms.length
  | 0 => ⟨rfl, rfl, rfl, rfl⟩
  | n + 1 => by
    have z := pzN_cap (w := w) (t := t) n
    unfold pzN
    split
    · refine ⟨z.1, z.2.1, z.2.2.1, ?_⟩
      show ((pzN w t n).ms.set n _).length = _
      rw [List.length_set]
      exact z.2.2.2
    · exact z
theorem pzN_get {w : Wld} {t : LSt} {k : Nat} {m : Mac} {ss : List Stp} (hm : t.ms[k]? = some m) (hs : w.ms[k]? = some ss) : ∀ n, (pzN w t n).ms[k]? = some (if k < n then cutS ss m else ss)
  | 0 => by rw [if_neg (by omega)]; exact hs
  | n + 1 => by
    have z := pzN_get hm hs n
    by_cases c : n = k
    · subst c
      unfold pzN
      rw [hm, hs]
      show ((pzN w t n).ms.set n _)[n]? = _
      rw [List.getElem?_set_self (by rw [(pzN_cap n).2.2.2]; exact (List.getElem?_eq_some_iff.mp hs).1), if_pos (by omega)]
    · have e : (pzN w t (n + 1)).ms[k]? = (pzN w t n).ms[k]? := by
        show (match t.ms[n]?, w.ms[n]? with
          | some m, some ss => stW (pzN w t n) n (cutS ss m)
          | _, _ => pzN w t n).ms[k]? = _
        split
        · show ((pzN w t n).ms.set n _)[k]? = _
          rw [List.getElem?_set_ne c]
        · rfl
      rw [e, z]
      by_cases c2 : k < n
      · rw [if_pos c2, if_pos (by omega)]
      · rw [if_neg c2, if_neg (by omega)]
theorem pzN_ok {w : Wld} {t : LSt} (h : LOk w t) (n : Nat) : LOk (pzN w t n) t := by
  refine ⟨h.b, fun k m ss h1 h2 => ?_, by rw [(pzN_cap n).2.2.2]; exact h.len⟩
  have hk : k < w.ms.length := by rw [← h.len]; exact (List.getElem?_eq_some_iff.mp h1).1
  have hs : w.ms[k]? = some w.ms[k] := List.getElem?_eq_getElem hk
  rw [pzN_get h1 hs] at h2
  cases h2
  split
  · exact cutS_ok (h.m k m _ h1 hs)
  · exact h.m k m _ h1 hs
theorem pzN_pz {w : Wld} {t : LSt} (h : LOk w t) : ∀ (k : Nat) (m : Mac) (ss : List Stp), t.ms[k]? = some m → (pzN w t w.ms.length).ms[k]? = some ss → PzOk ss m := fun k m ss h1 h2 => by
  have hk : k < w.ms.length := by rw [← h.len]; exact (List.getElem?_eq_some_iff.mp h1).1
  have hs : w.ms[k]? = some w.ms[k] := List.getElem?_eq_getElem hk
  rw [pzN_get h1 hs, if_pos hk] at h2
  cases h2
  exact cutS_pz (h.m k m _ h1 hs)
theorem pzN_wok {w : Wld} {t : LSt} (hw : WldOk w) (h : LOk w t) : WldOk (pzN w t w.ms.length) := by
  obtain ⟨e1, e2, e3, e4⟩ := pzN_cap (w := w) (t := t) w.ms.length
  have key : ∀ ss ∈ (pzN w t w.ms.length).ms, ∃ s0 ∈ w.ms, ss <+: s0 := fun ss hss => by
    obtain ⟨k, hk⟩ := List.mem_iff_getElem?.mp hss
    have hkl : k < w.ms.length := by rw [← e4]; exact (List.getElem?_eq_some_iff.mp hk).1
    have hs : w.ms[k]? = some w.ms[k] := List.getElem?_eq_getElem hkl
    obtain ⟨m, hm⟩ := ms_both' h.len hs
    rw [pzN_get hm hs, if_pos hkl] at hk
    cases hk
    exact ⟨_, List.mem_of_getElem? hs, cutS_pre⟩
  refine ⟨by rw [e1]; exact hw.c0, by rw [e1]; exact hw.c1, by rw [e3]; exact hw.s0, by rw [e1, e3]; exact hw.s1, by rw [e2]; exact hw.r0, by rw [e2]; exact hw.r1, by rw [e4]; exact hw.m, fun ss hss => ?_, fun ss hss st hst => ?_⟩
  · obtain ⟨s0, h0, hp⟩ := key ss hss
    have := hp.length_le
    have := hw.n s0 h0
    omega
  · obtain ⟨s0, h0, hp⟩ := key ss hss
    rw [e1]
    exact hw.st s0 h0 st (hp.subset hst)
theorem minI_min {a b : Int} : minI a b = min a b := by unfold minI; split <;> omega
/-- the level behind a beat of machines that are all paused, as the law reckons it -/
theorem pz_level {w : Wld} {r : Rgt} {p : Bool} {t t' : LSt} {lv : Int} {bg : List Int} (hw : WldOk w) (h : LOk w t) (h0 : 0 ≤ t.level) (hl : t.level ≤ w.cap) (hp : ∀ (k : Nat) (m : Mac) (ss : List Stp), t.ms[k]? = some m → w.ms[k]? = some ss → PzOk ss m) (b : LBeat w r p false t t' lv bg) :
    lv = minI w.cap (minI w.cap (t.level + ((overs t w.ms.length).map (backK w t)).sum) + w.refill * (if decide (0 < t.beat) then 1 else 0)) ∧ 0 ≤ t'.level ∧ t'.level ≤ w.cap := by
  obtain ⟨_, e1, _, _⟩ := pz_beat h hp b
  have hb : ∀ ss ∈ w.ms, ∀ st ∈ ss, 0 ≤ st.back := fun ss h1 st h2 => (hw.st ss h1 st h2).b0
  have e2 := ends_sum h hb hl w.ms.length (Nat.le_refl _)
  have elv : lv = t'.level := by obtain ⟨_, _, _, _, e⟩ := b; exact e
  have q := lEnds_lev hw (anew := false) h0 hl w.ms.length
  have q2 := lFill_lev hw q.1 q.2
  rw [e2] at q
  refine ⟨?_, by rw [e1]; exact q2.1, by rw [e1]; exact q2.2⟩
  rw [elv, e1]
  unfold lFill
  rw [lEnds_beat]
  simp only [minI_min]
  by_cases c : 0 < t.beat
  · rw [if_pos c, decide_eq_true c, if_pos rfl, Int.mul_one]
    show min w.cap ((lEnds w false t w.ms.length).level + w.refill) = _
    rw [e2]
  · rw [if_neg c, decide_eq_false c, if_neg (by decide), Int.mul_zero, e2]
    generalize ((overs t w.ms.length).map (backK w t)).sum = Z
    omega
theorem low_mac {n : Nat} {ss : List Stp} : lowD (n + 2) (macD ss) = true := by
  show (ss.map stpD).all (lowD (n + 1)) = true
  rw [List.all_map, List.all_eq_true]
  intro s _
  show [PyData.int s.draw, .int s.long, .int s.back].all (lowD n) = true
  simp [lowD]
theorem low_macs {n : Nat} {ms : List (List Stp)} : lowD (n + 3) (.tuple (ms.map macD)) = true := by
  show (ms.map macD).all (lowD (n + 2)) = true
  rw [List.all_map, List.all_eq_true]
  intro s _
  exact low_mac
theorem eqv_nilT {ds : List PyData} : PyData.eqv (.tuple ds) (.tuple []) = ds.isEmpty := by
  cases ds with
  | nil => rfl
  | cons a l => rfl
theorem overs_mem {t : LSt} {x : Int} : ∀ {n : Nat}, x ∈ overs t n → ∃ (k : Nat) (m : Mac), x = (k : Int) ∧ k < n ∧ t.ms[k]? = some m ∧ m.over = t.beat
  | 0, h => by cases h
  | n + 1, h => by
    rcases List.mem_append.mp (show x ∈ overs t n ++ (match t.ms[n]? with | some m => if m.over = t.beat then [(n : Int)] else [] | none => []) from h) with z | z
    · obtain ⟨k, m, h1, h2, h3⟩ := overs_mem z
      exact ⟨k, m, h1, by omega, h3⟩
    · split at z
      · rename_i m hm
        split at z
        · rename_i ho
          exact ⟨n, m, List.mem_singleton.mp z, by omega, hm, ho⟩
        · cases z
      · cases z
theorem cw_minE {S : Type} {J : S → Hp → Hp → Prop} {s : S} {F : Hp} {R : V → S → Hp → Prop} {i k v : Int} (e : minI i k = v) (h : R (.int v) s F) : CW J (fun xs H Q => ∃ i j, xs = [.int i, .int j] ∧ Q (.int (if j < i then j else i)) H) [.int i, .int k] s F R := by
  subst e
  exact cw_min2 h
theorem pzN_pre {w : Wld} {t : LSt} (h : LOk w t) {k : Nat} {ss : List Stp} (e : (pzN w t w.ms.length).ms[k]? = some ss) : ∃ s0, w.ms[k]? = some s0 ∧ ss <+: s0 := by
  have hkl : k < w.ms.length := by rw [← (pzN_cap (w := w) (t := t) w.ms.length).2.2.2]; exact (List.getElem?_eq_some_iff.mp e).1
  have hs : w.ms[k]? = some w.ms[k] := List.getElem?_eq_getElem hkl
  obtain ⟨m, hm⟩ := ms_both' h.len hs
  rw [pzN_get hm hs, if_pos hkl] at e
  cases e
  exact ⟨_, hs, cutS_pre⟩
theorem pre_get {α : Type} {l m : List α} (h : l <+: m) {i : Nat} {x : α} (e : l[i]? = some x) : m[i]? = some x := by
  obtain ⟨t, rfl⟩ := h
  rw [List.getElem?_append_left (List.getElem?_eq_some_iff.mp e).1]
  exact e
theorem endM_over {ss : List Stp} {m : Mac} {b : Int} (h : MacOk ss m) (hb : 0 ≤ b) (ho : m.over = b) : (endM false b ss m).at_ = m.at_ + 1 := by
  rcases endM_cases h hb with ⟨_, _, e⟩ | ⟨e, _⟩
  · rw [e]
  · exact absurd ho e
section
variable {P : Program} {w : World} {K : PySem.W.Frag} {mg : Str → Option Value} {base : Heap} {BC C M : Addr}

abbrev s_law : Stmt := top 43
def N_law : List Str := ["_law_script", "_law_h", "_law_turn", "_law_cap", "_law_start", "_law_refill", "_law_machines", "_law_rule_here", "_law_one", "_law_two", "_law_more", "_law_steps", "_law_many", "_law_beat", "_law_level", "_law_part", "_law_number", "_law_ended", "_law_began", "_law_there", "_law_rows", "_law_k"]
theorem sc_law : FnScope N_law ["_law_script"] (defScope s_law) := ⟨rfl, rfl, rfl, by decide +kernel, rfl, by decide +kernel, by decide +kernel⟩
theorem ok_law {f : Addr} {fd : FuncData} {f1 f2 f3 f4 f5 f6 f7 f8 f9 f10 f11 f12 f13 f14 : Addr} {fd1 fd2 fd3 fd4 fd5 fd6 fd7 fd8 fd9 fd10 fd11 fd12 fd13 fd14 : FuncData} (Fn : Fun K "law" "law" s_law f fd) (B : Blt mg) (C_law_mix : Cal K mg "_law_mix" f1 fd1 ["_law_script", "_law_seed"]) (G_law_mix : FnOk P w K mg base CX0 1 f1 fd1 ["_law_script", "_law_seed"] (LS (aMix K))) (C_law_world : Cal K mg "_law_world" f2 fd2 ["_law_h", "_law_most", "_law_cap"]) (G_law_world : FnOk P w K mg base CX0 2 f2 fd2 ["_law_h", "_law_most", "_law_cap"] (LN (aWorld K))) (C_law_next : Cal K mg "_law_next" f3 fd3 ["_law_h", "_law_many"]) (G_law_next : FnOk P w K mg base CX0 1 f3 fd3 ["_law_h", "_law_many"] (LN aNext)) (C_law_alike : Cal K mg "_law_alike" f4 fd4 ["_law_found", "_law_due"]) (G_law_alike : FnOk P w K mg base CX0 3 f4 fd4 ["_law_found", "_law_due"] (LS (aAlike K 3))) (C_law_is_merged : Cal K mg "_law_is_merged" f5 fd5 ["_law_store", "_law_machines", "_law_rule_here", "_law_more"]) (G_law_is_merged : FnOk P w K mg base CX0 10 f5 fd5 ["_law_store", "_law_machines", "_law_rule_here", "_law_more"] (LS (aMerged K))) (M_enter : Met K BC "enter" f6 fd6 ["self", "steps"]) (G_enter : FnOk P w K mg base CX0 5 f6 fd6 ["self", "steps"] (LS (aBEnter K BC C M))) (M_tick : Met K BC "tick" f7 fd7 ["self"]) (G_tick : FnOk P w K mg base CX0 6 f7 fd7 ["self"] (LS (aTick K BC C M))) (M_pause : Met K BC "pause" f8 fd8 ["self", "number"]) (G_pause : FnOk P w K mg base CX0 3 f8 fd8 ["self", "number"] (LS (aPause K BC C M))) (M_go : Met K BC "go" f9 fd9 ["self", "number"]) (G_go : FnOk P w K mg base CX0 3 f9 fd9 ["self", "number"] (LS (aGo K BC C M))) (M_lend : Met K BC "lend" f10 fd10 ["self", "many"]) (G_lend : FnOk P w K mg base CX0 2 f10 fd10 ["self", "many"] (LS (aLend K BC C M))) (M_back : Met K BC "back" f11 fd11 ["self", "many"]) (G_back : FnOk P w K mg base CX0 2 f11 fd11 ["self", "many"] (LS (aBack K BC C M))) (M_stock : Met K BC "stock" f12 fd12 ["self"]) (G_stock : FnOk P w K mg base CX0 1 f12 fd12 ["self"] (LS (aStock K BC C))) (M_standing : Met K BC "standing" f13 fd13 ["self"]) (G_standing : FnOk P w K mg base CX0 3 f13 fd13 ["self"] (LS (aStanding K BC C M))) (MK_Breath : Mk K BC f14) (G_Breath : FnOk P w K mg base CX0 7 f14 fd14 ["self", "store", "rule"] (LS (aBInit K BC C M))) (MK_Breath_g : mg "Breath" = some (.ref BC)) (MK_Breath_a : Binds K fd14 ["self", "store", "rule"] []) : FnOk P w K mg base CX0 11 f fd ["_law_script"] (LS (aLaw K)) := by
  refine Fn.ok sc_law (fun vs H Q E h => ?_) (fun cdv A outer s H vs Q E hr h => ?_)
  · obtain ⟨J, F, R, hd, j, h, _⟩ := h
    obtain ⟨a, ns, rfl, _⟩ := h
    rfl
  · have nd := sc_law.nd
    obtain ⟨J, F, R, hd, j, h, q⟩ := h
    obtain ⟨a, ns, rfl, hl, hn, k⟩ := h
    refine ⟨_, (pss_cons (ps_set (i := 1) nd rfl (Or.inl rfl) (pe_call G_law_mix (by exact hr.mono (by decide)) (by rfl) C_law_mix.g C_law_mix.k C_law_mix.a .nil pass0 (pa_cons (pv 0) (pa_cons pe_int pa_nil))))
      (pss_cons (ps_for PassesOwn.never rfl (pi_range1 rfl B.range (pa_cons pe_int pa_nil)) (pg_name (i := 2) nd rfl (Or.inl rfl)) (pss_cons (ps_asg (pe_call G_law_world (by exact hr.mono (by decide)) (by rfl) C_law_world.g C_law_world.k C_law_world.a .nil pass0 (pa_cons (pv 1) (pa_cons pe_int (pa_cons pe_int pa_nil)))) (pg_tup rfl (pgs_cons (pg_tup rfl (pgs_cons (pg_name (i := 3) nd rfl (Or.inl rfl)) (pgs_cons (pg_name (i := 4) nd rfl (Or.inl rfl)) (pgs_cons (pg_name (i := 5) nd rfl (Or.inl rfl)) pgs_nil)))) (pgs_cons (pg_name (i := 6) nd rfl (Or.inr rfl)) pgs_nil))))
      (pss_cons (ps_set (i := 7) nd rfl (Or.inl rfl) (pe_tup (pa_cons (pe_ix ix_list (pe_lst (pa_cons pe_str (pa_cons pe_str (pa_cons pe_str pa_nil)))) (pe_call G_law_next (by exact hr.mono (by decide)) (by rfl) C_law_next.g C_law_next.k C_law_next.a .nil pass0 (pa_cons (pv 1) (pa_cons pe_int pa_nil))) (fun _ _ => rfl)) (pa_cons (pe_cmpR op_eq (pe_call G_law_next (by exact hr.mono (by decide)) (by rfl) C_law_next.g C_law_next.k C_law_next.a .nil pass0 (pa_cons (pv 1) (pa_cons pe_int pa_nil))) pe_int (nomark _)) pa_nil))))
      (pss_cons (ps_par (i := 8) (j := 9) rfl nd rfl rfl (by decide) rfl rfl (pa_cons (pe_make MK_Breath G_Breath (by exact hr.mono (by decide)) (by rfl) MK_Breath_g MK_Breath_a .nil pass0 (pa_cons (pe_tup (pa_cons (pv 3) (pa_cons (pv 4) (pa_cons (pv 5) pa_nil)))) (pa_cons (pv 7) pa_nil))) (pa_cons (pe_make MK_Breath G_Breath (by exact hr.mono (by decide)) (by rfl) MK_Breath_g MK_Breath_a .nil pass0 (pa_cons (pe_tup (pa_cons (pv 3) (pa_cons (pv 4) (pa_cons (pv 5) pa_nil)))) (pa_cons (pv 7) pa_nil))) pa_nil)) (by rfl))
      (pss_cons (ps_set (i := 10) nd rfl (Or.inl rfl) (pe_tup (pa_cons (pe_op op_add pe_int (pe_call G_law_next (by exact hr.mono (by decide)) (by rfl) C_law_next.g C_law_next.k C_law_next.a .nil pass0 (pa_cons (pv 1) (pa_cons pe_int pa_nil)))) (pa_cons pe_int (pa_cons pe_int pa_nil)))))
      (pss_cons (ps_for PassesOwn.never rfl (pi_tup (pv 6)) (pg_name (i := 11) nd rfl (Or.inl rfl)) (pss_one (ps_if (pt_cmpR op_ne (pe_meth (pv 8) M_enter.cl M_enter.m G_enter (by exact hr.mono (by decide)) M_enter.a .nil pass0 (pa_cons (pv 11) pa_nil)) (pe_meth (pv 9) M_enter.cl M_enter.m G_enter (by exact hr.mono (by decide)) M_enter.a .nil pass0 (pa_cons (pv 11) pa_nil)) (nomark _)) (pss_one (ps_ret pe_bl)) pss_nil)))
      (pss_cons (ps_set (i := 12) nd rfl (Or.inl rfl) (pe_call G_law_next (by exact hr.mono (by decide)) (by rfl) C_law_next.g C_law_next.k C_law_next.a .nil pass0 (pa_cons (pv 1) (pa_cons pe_int pa_nil))))
      (pss_cons (ps_for PassesOwn.never rfl (pi_range1 rfl B.range (pa_cons (pv 12) pa_nil)) (pg_name (i := 13) nd rfl (Or.inl rfl)) (pss_cons (ps_set (i := 14) nd rfl (Or.inl rfl) (pe_ix ix_tup (pe_meth0 (pv 9) M_stock.cl M_stock.m G_stock (by exact hr.mono (by decide)) M_stock.a .nil pass0) pe_int (fun _ _ => rfl)))
      (pss_cons (ps_if (PW.pt (pw_and (pt_cmpR op_gt (pv 14) pe_int (nomark _)) (pw_and1 (pt_cmpR op_eq (pe_call G_law_next (by exact hr.mono (by decide)) (by rfl) C_law_next.g C_law_next.k C_law_next.a .nil pass0 (pa_cons (pv 1) (pa_cons pe_int pa_nil))) pe_int (nomark _))))) (pss_cons (ps_set (i := 15) nd rfl (Or.inl rfl) (pe_op op_add pe_int (pe_call G_law_next (by exact hr.mono (by decide)) (by rfl) C_law_next.g C_law_next.k C_law_next.a .nil pass0 (pa_cons (pv 1) (pa_cons (pv 14) pa_nil)))))
      (pss_cons (ps_expr (pe_meth (pv 9) M_lend.cl M_lend.m G_lend (by exact hr.mono (by decide)) M_lend.a .nil pass0 (pa_cons (pv 15) pa_nil)))
      (pss_one (ps_expr (pe_meth (pv 9) M_back.cl M_back.m G_back (by exact hr.mono (by decide)) M_back.a .nil pass0 (pa_cons (pv 15) pa_nil)))))) pss_nil)
      (pss_cons (ps_if (PW.pt (pw_and (pt_cmpR (op_neD (by exact hr.units)) (pv 6) (pe_tup pa_nil) (nomark _)) (pw_and1 (pt_cmpR op_eq (pe_call G_law_next (by exact hr.mono (by decide)) (by rfl) C_law_next.g C_law_next.k C_law_next.a .nil pass0 (pa_cons (pv 1) (pa_cons pe_int pa_nil))) pe_int (nomark _))))) (pss_cons (ps_set (i := 16) nd rfl (Or.inl rfl) (pe_call G_law_next (by exact hr.mono (by decide)) (by rfl) C_law_next.g C_law_next.k C_law_next.a .nil pass0 (pa_cons (pv 1) (pa_cons (pe_callB call_len_seq (by rfl) B.len (by decide +kernel) (pa_cons (pv 6) pa_nil)) pa_nil))))
      (pss_cons (ps_expr (pe_meth (pv 9) M_pause.cl M_pause.m G_pause (by exact hr.mono (by decide)) M_pause.a .nil pass0 (pa_cons (pv 16) pa_nil)))
      (pss_one (ps_expr (pe_meth (pv 9) M_go.cl M_go.m G_go (by exact hr.mono (by decide)) M_go.a .nil pass0 (pa_cons (pv 16) pa_nil)))))) pss_nil)
      (pss_one (ps_if (PW.pt (pw_or (pt_not (pt_val (pe_call G_law_alike (by exact hr.mono (by decide)) (by rfl) C_law_alike.g C_law_alike.k C_law_alike.a .nil pass0 (pa_cons (pe_meth0 (pv 8) M_tick.cl M_tick.m G_tick (by exact hr.mono (by decide)) M_tick.a .nil pass0) (pa_cons (pe_meth0 (pv 9) M_tick.cl M_tick.m G_tick (by exact hr.mono (by decide)) M_tick.a .nil pass0) pa_nil))))) (pw_or (pt_cmpR (op_neD (by exact hr.units)) (pe_meth0 (pv 8) M_stock.cl M_stock.m G_stock (by exact hr.mono (by decide)) M_stock.a .nil pass0) (pe_meth0 (pv 9) M_stock.cl M_stock.m G_stock (by exact hr.mono (by decide)) M_stock.a .nil pass0) (nomark _)) (pw_or1 (pt_cmpR (op_neD (by exact hr.units)) (pe_meth0 (pv 8) M_standing.cl M_standing.m G_standing (by exact hr.mono (by decide)) M_standing.a .nil pass0) (pe_meth0 (pv 9) M_standing.cl M_standing.m G_standing (by exact hr.mono (by decide)) M_standing.a .nil pass0) (nomark _)))))) (pss_one (ps_ret pe_bl)) pss_nil))))))
      (pss_cons (ps_for PassesOwn.never rfl (pi_range1 rfl B.range (pa_cons (pe_callB call_len_seq (by rfl) B.len (by decide +kernel) (pa_cons (pv 6) pa_nil)) pa_nil)) (pg_name (i := 16) nd rfl (Or.inl rfl)) (pss_one (ps_expr (pe_meth (pv 8) M_pause.cl M_pause.m G_pause (by exact hr.mono (by decide)) M_pause.a .nil pass0 (pa_cons (pv 16) pa_nil)))))
      (pss_cons (ps_set (i := 14) nd rfl (Or.inl rfl) (pe_ix ix_tup (pe_meth0 (pv 8) M_stock.cl M_stock.m G_stock (by exact hr.mono (by decide)) M_stock.a .nil pass0) pe_int (fun _ _ => rfl)))
      (pss_cons (ps_for PassesOwn.never rfl (pi_range1 rfl B.range (pa_cons pe_int pa_nil)) (pg_name (i := 13) nd rfl (Or.inl rfl)) (pss_cons (ps_asg (pe_meth0 (pv 8) M_tick.cl M_tick.m G_tick (by exact hr.mono (by decide)) M_tick.a .nil pass0) (pg_tup rfl (pgs_cons (pg_name (i := 17) nd rfl (Or.inl rfl)) (pgs_cons (pg_name (i := 18) nd rfl (Or.inl rfl)) (pgs_cons (pg_name (i := 19) nd rfl (Or.inl rfl)) pgs_nil)))))
      (pss_cons (ps_set (i := 20) nd rfl (Or.inr rfl) (pe_meth0 (pv 8) M_standing.cl M_standing.m G_standing (by exact hr.mono (by decide)) M_standing.a .nil pass0))
      (pss_cons (ps_set (i := 14) nd rfl (Or.inl rfl) (pe_callB (call_min2 rfl) (by rfl) B.min (by decide +kernel) (pa_cons (pv 3) (pa_cons (pe_op op_add (pv 14) (pe_callB (cr_sum rfl) (by rfl) B.sum (by decide +kernel) (pa_cons (pe_lc (own := [("_law_k", 21)]) (te := (tOp (rIxT K) (tOp (rIxT K) (tOp (rIxT K) (tVar 6) (tVar 21)) (tOp (rI0 fun i j => .int (i - j)) (tOp (rIxT K) (tOp (rIxL K) (tVar 20) (tVar 21)) (tC (.int 0))) (tC (.int 1)))) (tC (.int 2)))) (tt := tYes) (by rfl) nd (pi_list (pv 17)) (blkOk_by (own := [("_law_k", 21)]) (N := N_law) (sc := defScope s_law) (by decide +kernel)) (fun _ _ _ _ _ => (pg_name (i := 21) nd rfl (Or.inl rfl))) (fun _ _ _ _ _ => pts_nil) (fun _ _ _ _ _ => (pe_ix ix_tup (pe_ix ix_tup (pe_ix ix_tup (pv 6) (pv 21) (fun _ _ => rfl)) (pe_op op_sub (pe_ix ix_tup (pe_ix ix_list (pv 20) (pv 21) (fun _ _ => rfl)) pe_int (fun _ _ => rfl)) pe_int) (fun _ _ => rfl)) pe_int (fun _ _ => rfl)))) pa_nil))) pa_nil))))
      (pss_cons (ps_set (i := 14) nd rfl (Or.inl rfl) (pe_callB (call_min2 rfl) (by rfl) B.min (by decide +kernel) (pa_cons (pv 3) (pa_cons (pe_op op_add (pv 14) (pe_op op_mul (pv 5) (pe_callTy call_int1 (by rfl) B.int (by decide +kernel) (pa_cons (pe_cmpR op_gt (pe_op op_add (pv 12) (pv 13)) pe_int (nomark _)) pa_nil)))) pa_nil))))
      (pss_one (ps_if (PW.pt (pw_or (pt_cmpR (op_neD (by exact hr.units)) (pv 18) (pe_lst pa_nil) (nomark _)) (pw_or1 (pt_cmpR op_ne (pv 19) (pv 14) (nomark _))))) (pss_one (ps_ret pe_bl)) pss_nil)))))))
      (pss_one (ps_if (pt_not (pt_val (pe_call G_law_is_merged (by exact hr.mono (by decide)) (by rfl) C_law_is_merged.g C_law_is_merged.k C_law_is_merged.a .nil pass0 (pa_cons (pe_tup (pa_cons (pv 3) (pa_cons (pv 4) (pa_cons (pv 5) pa_nil)))) (pa_cons (pv 6) (pa_cons (pv 7) (pa_cons (pv 10) pa_nil))))))) (pss_one (ps_ret pe_bl)) pss_nil)))))))))))))
      (pss_one (ps_ret pe_bl)))), ?_⟩
    refine LS.body j q ?_
    refine sw_seq (sw_asg (ew_call hd ?_))
    walk_at "ob"
    refine ⟨a, ns, 73, rfl, hl, by decide, by decide, fun m c hh m0 m1 hc hh0 hne => gw_name ?_⟩
    refine sw_hide hc hh0 hne m0 m1 hn (fun _ F => k F) ?_
    have hdj := hd.hj (h := hh) (c := c)
    refine sw_seq ?_
    refine sw_mid (fun σ _ _ => ∃ (x2 x3 x4 x5 x6 x7 x8 x9 x10 x11 x12 x13 x14 x15 x16 x17 x18 x19 x20 x21 : Option V), σ = [some (.ref a), some (.ref hh), x2, x3, x4, x5, x6, x7, x8, x9, x10, x11, x12, x13, x14, x15, x16, x17, x18, x19, x20, x21]) ?_ ?_
    · refine sw_forR1 ?_
      walk_at "ob"
      refine ⟨4, fun i σ _ _ => ∃ (x2 x3 x4 x5 x6 x7 x8 x9 x10 x11 x12 x13 x14 x15 x16 x17 x18 x19 x20 x21 : Option V), σ = [some (.ref a), some (.ref hh), x2, x3, x4, x5, x6, x7, x8, x9, x10, x11, x12, x13, x14, x15, x16, x17, x18, x19, x20, x21], rfl, by decide, by decide, ⟨_, _, _, _, _, _, _, _, _, _, _, _, _, _, _, _, _, _, _, _, rfl⟩, ?_, ?_⟩
      · rintro i σ _ F2 hi ⟨x2, x3, x4, x5, x6, x7, x8, x9, x10, x11, x12, x13, x14, x15, x16, x17, x18, x19, x20, x21, rfl⟩
        refine gw_name ?_
        refine sw_seq (sw_asg ?_)
        walk_at "ob"
        refine ⟨by decide, by decide, ?_⟩
        walk_at "ob"
        refine ⟨by decide, by decide, fun wv F3 wd g1 dw hw hwc hwn hws => ?_⟩
        obtain ⟨wa, wxs, rfl, lx, dxs⟩ := dp_tup dw
        obtain ⟨sv, mv, rfl, dsv, dmv⟩ := dps2 dxs
        obtain ⟨sa, ys, rfl, ly, dys⟩ := dp_tup dsv
        obtain ⟨w1, w2, w3, rfl, d1, d2, d3⟩ := dps3 dys
        cases dp_int d1
        cases dp_int d2
        cases dp_int d3
        refine gw_tup hdj ⟨wa, _, rfl, lx, rfl, gsw_cons (gw_tup hdj ⟨sa, _, rfl, ly, rfl, gsw_cons (gw_name (gsw_cons (gw_name (gsw_cons (gw_name (gsw_nil ?_))))))⟩)⟩
        refine gsw_cons (gw_name (gsw_nil ?_))
        obtain ⟨ma, zs, rfl, lz, dzs⟩ := dp_tup dmv
        have hzl : zs.length = wd.ms.length := by have := dps_len dzs; simpa using this
        have hm5 := hw.m
        refine sw_seq (sw_asg (ew_tup hdj (aw_cons (ew_op (ew_lst hdj (aw_cons (ew_c (aw_cons (ew_c (aw_cons (ew_c (aw_nil ⟨by walk_at "ob_len", fun p0 hp0 => ?_⟩))))))))))))
        refine ew_next hd rfl (ew_c ⟨3, rfl, by decide, by decide, fun rr r0 r1 => ?_⟩)
        obtain ⟨rg, hrg, hnw⟩ : ∃ rg : Rgt, atI [V.str "rank", V.str "turns", V.str "least"] rr = some (V.str (rgtS rg)) ∧ rg ≠ .wait := by
          have : rr = 0 ∨ rr = 1 ∨ rr = 2 := by omega
          rcases this with rfl | rfl | rfl
          · exact ⟨.rank, rfl, by decide⟩
          · exact ⟨.turns, rfl, by decide⟩
          · exact ⟨.least, rfl, by decide⟩
        refine rw_ixL hdj (SqL.of upd_same) hrg ?_
        refine aw_cons (ew_op (ew_next hd rfl (ew_c ⟨2, rfl, by decide, by decide, fun r2 _ _ => ew_c (rw_eq rfl ?_)⟩)))
        generalize decide (V.int r2 = V.int 0) = pp
        refine aw_nil ⟨by walk_at "ob_len", fun ra hra => gw_name ?_⟩
        have k1 := Ex.new (.refl F3) hp0 (u := .lst [V.str "rank", V.str "turns", V.str "least"])
        have k2 := Ex.new (.refl _) hra (F := upd F3 p0 (.lst [V.str "rank", V.str "turns", V.str "least"])) (u := .tup [V.str (rgtS rg), V.bl pp])
        have dR : Dp K (upd (upd F3 p0 (.lst [V.str "rank", V.str "turns", V.str "least"])) ra (.tup [V.str (rgtS rg), V.bl pp])) (.ref ra) (rulD rg pp) := .tup (SqT.of upd_same) (.cons (.str _) (.cons (.bl _) .nil))
        have lz := (k1.trans k2).sqT lz
        have dzs := dps_ex (k1.trans k2) dzs
        generalize (upd (upd F3 p0 (.lst [V.str "rank", V.str "turns", V.str "least"])) ra (.tup [V.str (rgtS rg), V.bl pp])) = F4 at dR lz dzs
        clear k1 k2 hp0 hra hrg
        -- the two stores
        refine sw_seq (sw_par (aw_cons (ew_make hdj (aw_cons (ew_tup hdj (aw_cons (ew_var rfl (aw_cons (ew_var rfl (aw_cons (ew_var rfl (aw_nil ⟨by walk_at "ob_len", fun p1 hp1 => ?_⟩))))))))))))
        have k1 := Ex.new (.refl F4) hp1 (u := .tup [.int wd.cap, .int wd.start, .int wd.refill])
        refine aw_cons (ew_var rfl (aw_nil ?_))
        intro x dx hx hdx hne2
        have k2 := Ex.new (.refl _) hdx (F := upd F4 p1 (.tup [.int wd.cap, .int wd.start, .int wd.refill])) (u := .own x)
        refine ⟨_, x, dx, .ref p1, .ref ra, w0 wd, rg, pp, rfl, rfl, by rw [upd_ne hne2.symm]; exact hx, .tup (k2.sqT (SqT.of upd_same)) (.cons (.int _) (.cons (.int _) (.cons (.int _) .nil))), rfl, dp_ex (k1.trans k2) dR, w0_ok hw, fun F0 F1 b1 A1 ea eb1 eC1 eM1 eP1 gF hX => ⟨rfl, ?_⟩⟩
        subst ea
        have g0 : Ex F4 F0 := k1.trans (k2.trans gF)
        clear k1 k2 gF hx hdx hp1
        have sd1 := bent_side hX
        have ow1 := bent_own hX
        rw [List.append_nil] at ow1
        have gd := drop_ex ow1
        refine aw_cons (ew_aside hdj ow1 (ew_make hdj.jp (aw_cons (ew_tup hdj.jp (aw_cons (ew_var rfl (aw_cons (ew_var rfl (aw_cons (ew_var rfl (aw_nil ⟨by walk_at "ob_len", fun p1 hp1 => ?_⟩)))))))))))
        generalize (dropH F1 _) = F5 at gd hp1 ⊢
        have k1 := Ex.new (.refl F5) hp1 (u := .tup [.int wd.cap, .int wd.start, .int wd.refill])
        refine aw_cons (ew_var rfl (aw_nil ?_))
        intro x dx hx hdx hne2
        have k2 := Ex.new (.refl _) hdx (F := upd F5 p1 (.tup [.int wd.cap, .int wd.start, .int wd.refill])) (u := .own x)
        refine ⟨_, x, dx, .ref p1, .ref ra, w0 wd, rg, pp, rfl, rfl, by rw [upd_ne hne2.symm]; exact hx, .tup (k2.sqT (SqT.of upd_same)) (.cons (.int _) (.cons (.int _) (.cons (.int _) .nil))), rfl, dp_ex (g0.trans (gd.trans (k1.trans k2))) dR, w0_ok hw, fun F0' F6 b2 A2 ea eb2 eC2 eM2 eP2 gF hX2 => ⟨rfl, fun F7 hO => aw_nil ⟨_, _, rfl, ?_⟩⟩⟩
        subst ea
        have g02 : Ex F0 F0' := gd.trans (k1.trans (k2.trans gF))
        have hB := BB.make sd1 hX2 g02 hO
        have g03 := g0.trans g02
        clear k1 k2 gF hx hdx hp1 hX hX2 ow1 sd1 hO gd g0 g02
        refine sw_seq (sw_asg (ew_tup hdj (aw_cons (ew_op (ew_c (ew_next hd rfl (ew_c ⟨20, rfl, by decide, by decide, fun mr mr0 mr1 => rw_I0 ?_⟩)))))))
        refine aw_cons (ew_c (aw_cons (ew_c (aw_nil ⟨by walk_at "ob_len", fun oa hoa => gw_name ?_⟩))))
        have k1 := Ex.new (.refl F0') (hB.own.ex.free hoa) (u := .tup [.int (1 + mr), .int 0, .int 0])
        have hB := hB.new (o := .tup [.int (1 + mr), .int 0, .int 0]) hoa
        have dov : Dp K (upd F0' oa (.tup [.int (1 + mr), .int 0, .int 0])) (.ref oa) (.tuple [.int (1 + mr), .int 0, .int 0]) := .tup (SqT.of upd_same) (.cons (.int _) (.cons (.int _) (.cons (.int _) .nil)))
        have gB := g03.trans k1
        have lz := gB.sqT lz
        have dzs := dps_ex gB dzs
        have dR := dp_ex gB dR
        generalize (upd F0' oa (.tup [.int (1 + mr), .int 0, .int 0])) = B0 at hB dov lz dzs dR
        generalize (upd F7 oa (.tup [.int (1 + mr), .int 0, .int 0])) = F8 at hB
        clear k1 gB g03
        -- all come in
        refine sw_seq ?_
        refine sw_mid (fun σ _ G => ∃ (x11 x12 x13 x14 x15 x16 x17 x18 x19 x20 x21 : Option V) (F0 : Hp) (A1 A2 : RAd) (ds1 ds2 : List V), σ = [some (.ref a), some (.ref hh), some (.int i), some (.int wd.cap), some (.int wd.start), some (.int wd.refill), some (.ref ma), some (.ref ra), some (.ref b1.a), some (.ref b2.a), some (.ref oa), x11, x12, x13, x14, x15, x16, x17, x18, x19, x20, x21] ∧ Ex B0 F0 ∧ A1.C = C ∧ A1.M = M ∧ A1.hp = false ∧ A2.C = C ∧ A2.M = M ∧ A2.hp = false ∧ ds1.length ≤ 5 ∧ ds2.length ≤ 5 ∧ BB K F0 G rg pp b1 A1 (lBegun wd) wd ds1 0 b2 A2 (lBegun wd) wd ds2 0) ?_ ?_
        · refine sw_forT hdj (ew_var rfl ?_)
          refine ⟨ma, zs, fun j σ _ G => ∃ (x11 x12 x13 x14 x15 x16 x17 x18 x19 x20 x21 : Option V) (F0 : Hp) (A1 A2 : RAd) (ds1 ds2 : List V), σ = [some (.ref a), some (.ref hh), some (.int i), some (.int wd.cap), some (.int wd.start), some (.int wd.refill), some (.ref ma), some (.ref ra), some (.ref b1.a), some (.ref b2.a), some (.ref oa), x11, x12, x13, x14, x15, x16, x17, x18, x19, x20, x21] ∧ Ex B0 F0 ∧ A1.C = C ∧ A1.M = M ∧ A1.hp = false ∧ A2.C = C ∧ A2.M = M ∧ A2.hp = false ∧ ds1.length = j ∧ ds2.length = j ∧ BB K F0 G rg pp b1 A1 (tI wd j) (wI wd j) ds1 0 b2 A2 (tI wd j) (wI wd j) ds2 0, rfl, hB.own.ex.sqT lz, ⟨x11, x12, x13, x14, x15, x16, x17, x18, x19, x20, x21, B0, A1, A2, [], [], rfl, .refl _, eC1, eM1, eP1, eC2, eM2, eP2, rfl, rfl, hB⟩, ?_, ?_, ?_⟩
          · rintro j σ _ G hj ⟨_, _, _, _, _, _, _, _, _, _, _, F0, A1, A2, ds1, ds2, _, g, _, _, _, _, _, _, _, _, hB⟩
            exact (g.trans hB.own.ex).sqT lz
          · rintro j xv σ _ G hxv ⟨x11, x12, x13, x14, x15, x16, x17, x18, x19, x20, x21, F0, A1, A2, ds1, ds2, rfl, g, eC1, eM1, eP1, eC2, eM2, eP2, hd1, hd2, hB⟩
            obtain ⟨d, hdd, dxv⟩ := dps_get' dzs hxv
            rw [List.getElem?_map] at hdd
            obtain ⟨ss, hss, rfl⟩ := Option.map_eq_some_iff.mp hdd
            have hsm := List.mem_of_getElem? hss
            have hjl := (List.getElem?_eq_some_iff.mp hss).1
            have hWs := hw.st ss hsm
            have hwl : (wI wd j).ms.length = j := by
              show (wd.ms.take j).length = j
              rw [List.length_take]
              omega
            refine gw_name (sw_if (tw_test (ew_op (ew_meth hdj (ew_var rfl ⟨b1.a, b1.dx, _, rfl, eb1 ▸ hB.fst.ex0, lookup_out (show _ ∉ bkeys by decide +kernel), aw_cons (ew_var rfl (aw_nil ?_))⟩)))))
            refine ⟨F0, b1, A1, tI wd j, wI wd j, rg, pp, ds1, 0, _, xv, ss, rfl, eb1, eC1, eM1, hB.fst, dp_ex g dxv, hw.n ss hsm, hWs, by omega, by omega, fun F0' F' ad e g1 hpz hful de hX' => ?_⟩
            have hB1 := hB.set1 g1 hX'
            refine ew_meth hdj (ew_var rfl ⟨b2.a, b2.dx, _, rfl, eb2 ▸ hB1.snd.ex0, lookup_out (show _ ∉ bkeys by decide +kernel), aw_cons (ew_var rfl (aw_nil ?_))⟩)
            refine ⟨F0', b2, A2, tI wd j, wI wd j, rg, pp, ds2, 0, _, xv, ss, rfl, eb2, eC2, eM2, hB1.snd, dp_ex (g.trans g1) dxv, hw.n ss hsm, hWs, by omega, by omega, fun F0'' F'' ad' e' g2 hpz' hful' de' hX'' => ?_⟩
            have hB2 := hB1.set2 g2 hX''
            rw [← tI_next hss, ← wI_next hss] at hB2
            refine rw_ne rfl ⟨_, rfl, fun z => absurd z (by simp), fun _ => sw_next ⟨_, _, _, _, _, _, _, _, _, _, _, F0'', { A1 with mads := A1.mads ++ [ad] }, { A2 with mads := A2.mads ++ [ad'] }, ds1 ++ [.ref e], ds2 ++ [.ref e'], rfl, g.trans (g1.trans g2), eC1, eM1, eP1, eC2, eM2, eP2, by rw [List.length_append, hd1]; rfl, by rw [List.length_append, hd2]; rfl, hB2⟩⟩
          · rintro σ _ G ⟨x11, x12, x13, x14, x15, x16, x17, x18, x19, x20, x21, F0, A1, A2, ds1, ds2, rfl, g, eC1, eM1, eP1, eC2, eM2, eP2, hd1, hd2, hB⟩
            rw [hzl] at hB hd1 hd2
            have eW : wI wd wd.ms.length = wd := by
              unfold wI
              rw [List.take_length]
            have em : (lBegun wd).ms.map mcore = (tI wd wd.ms.length).ms.map mcore := by
              show (wd.ms.map _).map mcore = ((wd.ms.take wd.ms.length).map _).map mcore
              rw [List.take_length, List.map_map, List.map_map]
              rfl
            have hB1 := hB.set1 (.refl _) (hB.fst.same (t' := lBegun wd) em rfl rfl rfl eW.symm)
            have hB2 := hB1.set2 (.refl _) (hB1.snd.same (t' := lBegun wd) em rfl rfl rfl eW.symm)
            exact ⟨x11, x12, x13, x14, x15, x16, x17, x18, x19, x20, x21, F0, A1, A2, ds1, ds2, rfl, g, eC1, eM1, eP1, eC2, eM2, eP2, by omega, by omega, hB2⟩
        clear hB eC1 eM1 eP1 eC2 eM2 eP2 dsv dys dmv dxs
        rintro σ _ G ⟨x11, x12, x13, x14, x15, x16, x17, x18, x19, x20, x21, F0, A1, A2, ds1, ds2, rfl, g, eC1, eM1, eP1, eC2, eM2, eP2, hd1, hd2, hB⟩
        refine sw_seq (sw_asg (ew_next hd rfl (ew_c ⟨30, rfl, by decide, by decide, fun mi mi0 mi1 => gw_name ?_⟩)))
        obtain ⟨mn, rfl⟩ : ∃ mn : Nat, mi = mn := ⟨mi.toNat, by omega⟩
        have hlong : ∀ ss ∈ wd.ms, ∀ st ∈ ss, (0 : Int) ≤ st.long := fun ss h st h2 => by have := (hw.st ss h st h2).l0; omega
        refine sw_seq ?_
        refine sw_mid (fun σ _ G => ∃ (x11 x13 x14 x15 x16 x17 x18 x19 x20 x21 : Option V) (F0 : Hp) (A1 : RAd) (ds1 : List V) (t : LSt) (ex : List (Addr × HO)), σ = [some (.ref a), some (.ref hh), some (.int i), some (.int wd.cap), some (.int wd.start), some (.int wd.refill), some (.ref ma), some (.ref ra), some (.ref b1.a), some (.ref b2.a), some (.ref oa), x11, some (.int (mn : Int)), x13, x14, x15, x16, x17, x18, x19, x20, x21] ∧ Ex B0 F0 ∧ A1.C = C ∧ A1.M = M ∧ A1.hp = false ∧ ds1.length ≤ 40 ∧ LPath wd rg pp mn t ∧ BEnt K F0 G b1 A1 t wd rg pp ds1 0 ex) ?_ ?_
        · refine sw_forR1 (aw_cons (ew_var rfl (aw_nil ?_)))
          refine ⟨mn, fun j σ _ G => ∃ (x11 x13 x14 x15 x16 x17 x18 x19 x20 x21 : Option V) (F0 : Hp) (A1 A2 : RAd) (ds1 ds2 : List V) (t u : LSt), σ = [some (.ref a), some (.ref hh), some (.int i), some (.int wd.cap), some (.int wd.start), some (.int wd.refill), some (.ref ma), some (.ref ra), some (.ref b1.a), some (.ref b2.a), some (.ref oa), x11, some (.int (mn : Int)), x13, x14, x15, x16, x17, x18, x19, x20, x21] ∧ Ex B0 F0 ∧ A1.C = C ∧ A1.M = M ∧ A1.hp = false ∧ A2.C = C ∧ A2.M = M ∧ (∀ ad ∈ A2.mads, ad.sv.pz = false) ∧ ds1.length ≤ 5 + j ∧ ds2.length ≤ 5 + 5 * j ∧ LPath wd rg pp j t ∧ EqS t u ∧ LOk wd u ∧ BB K F0 G rg pp b1 A1 t wd ds1 0 b2 A2 u wd ds2 0, rfl, by omega, by omega, ⟨x11, x13, x14, x15, x16, x17, x18, x19, x20, x21, F0, A1, A2, ds1, ds2, lBegun wd, lBegun wd, rfl, g, eC1, eM1, eP1, eC2, eM2, hB.s2.np eP2, by omega, by omega, .zero, .refl, ((LPath.zero (w := wd) (r := rg) (p := pp)).inv hw).ok, hB⟩, ?_, ?_⟩
          · clear hB eC1 eM1 eP1 eC2 eM2 eP2 hd1 hd2 g
            rintro j σ _ G hj ⟨x11, x13, x14, x15, x16, x17, x18, x19, x20, x21, F0, A1, A2, ds1, ds2, t, u, rfl, g, eC1, eM1, eP1, eC2, eM2, hz2, hd1, hd2, hP, hE, hu, hB⟩
            have hiv := hP.inv hw
            have hul := hE.lv
            refine gw_name ?_
            refine sw_seq (sw_asg (ew_op (ew_meth hdj (ew_var rfl ⟨b2.a, b2.dx, _, rfl, eb2 ▸ hB.snd.ex0, lookup_out (show _ ∉ bkeys by decide +kernel), aw_nil ?_⟩))))
            refine ⟨F0, b2, A2, u, wd, rg, pp, ds2, 0, _, rfl, eb2, eC2, hB.snd, fun qs G1 gs hqs es => ew_c (rw_ixT hdj (SqT.of es) (atI_nat (j := 1) rfl) (gw_name ?_))⟩
            have hB := hB.grow gs
            refine sw_seq ?_
            refine sw_mid (fun σ _ G => ∃ (x15 x16 : Option V) (F0 : Hp) (A2 : RAd) (ds2 : List V) (u2 : LSt), σ = [some (.ref a), some (.ref hh), some (.int i), some (.int wd.cap), some (.int wd.start), some (.int wd.refill), some (.ref ma), some (.ref ra), some (.ref b1.a), some (.ref b2.a), some (.ref oa), x11, some (.int (mn : Int)), some (.int (j : Int)), some (.int u.level), x15, x16, x17, x18, x19, x20, x21] ∧ Ex B0 F0 ∧ A2.C = C ∧ A2.M = M ∧ (∀ ad ∈ A2.mads, ad.sv.pz = false) ∧ ds2.length ≤ 5 + 5 * j + 2 ∧ EqS t u2 ∧ LOk wd u2 ∧ BB K F0 G rg pp b1 A1 t wd ds1 0 b2 A2 u2 wd ds2 0) ?_ ?_
            · have h0 := hiv.l0
              have h1 := hiv.l1
              refine sw_if (tw_and (tw_test (ew_op (ew_var rfl (ew_c (rw_I0 ⟨_, rfl, fun hb1 => ?_, fun _ => ⟨(fun z => by cases z), fun _ => sw_next ⟨x15, x16, F0, A2, ds2, u, rfl, g, eC2, eM2, hz2, by omega, hE, hu, hB⟩⟩⟩))))))
              have hb1 := of_decide_eq_true hb1
              refine tw_test (ew_op (ew_next hd rfl (ew_c ⟨2, rfl, by decide, by decide, fun r2 _ _ => ew_c (rw_eq rfl ⟨_, rfl, fun _ => ?_, fun _ => sw_next ⟨x15, x16, F0, A2, ds2, u, rfl, g, eC2, eM2, hz2, by omega, hE, hu, hB⟩⟩)⟩)))
              refine sw_seq (sw_asg (ew_op (ew_c (ew_next hd rfl (ew_var rfl ⟨u.level, rfl, by omega, by have := hw.c1; omega, fun pr pr0 pr1 => rw_I0 (gw_name ?_)⟩)))))
              refine sw_seq (sw_drop (ew_meth hdj (ew_var rfl ⟨b2.a, b2.dx, _, rfl, eb2 ▸ hB.snd.ex0, lookup_out (show _ ∉ bkeys by decide +kernel), aw_cons (ew_var rfl (aw_nil ?_))⟩)))
              refine ⟨F0, b2, A2, u, wd, rg, pp, ds2, 0, _, 1 + pr, rfl, eb2, eC2, eM2, hB.snd, by omega, by omega, by omega, fun F1 G2 e1 g1 de1 hX1 => ?_⟩
              have hB1 := hB.set2 g1 hX1
              refine sw_drop (ew_meth hdj (ew_var rfl ⟨b2.a, b2.dx, _, rfl, eb2 ▸ hB1.snd.ex0, lookup_out (show _ ∉ bkeys by decide +kernel), aw_cons (ew_var rfl (aw_nil ?_))⟩))
              refine ⟨F1, b2, A2, _, wd, rg, pp, _, _, _, 1 + pr, rfl, eb2, eC2, eM2, hB1.snd, by omega, by omega, by rw [List.length_append]; show _ + 1 < _; omega, fun F9 G3 e2 g2 de2 hX2 => ?_⟩
              have eL : minI wd.cap (u.level - (1 + pr) + (1 + pr)) = u.level := by
                rw [show u.level - (1 + pr) + (1 + pr) = u.level by omega]
                unfold minI
                split <;> omega
              have hB2 := (hB1.set2 g2 hX2).at2 (t' := u) (w' := wd) (ln' := 0) (by show (⟨minI wd.cap (u.level - (1 + pr) + (1 + pr)), u.last, u.beat, u.ms⟩ : LSt) = u; rw [eL]) rfl (by omega)
              exact ⟨_, x16, F9, A2, _, u, rfl, g.trans (g1.trans g2), eC2, eM2, hz2, by rw [List.length_append, List.length_append]; show _ + 1 + 1 ≤ _; omega, hE, hu, hB2⟩
            clear hB hu hE hz2 eC2 eM2 hd2 g
            rintro σ _ G2 ⟨x15, x16, F0, A2, ds2, u2, rfl, g, eC2, eM2, hz2, hd2, hE, hu, hB⟩
            refine sw_seq ?_
            refine sw_mid (fun σ _ G => ∃ (x15 x16 : Option V) (F0 : Hp) (A2 : RAd) (ds2 : List V) (u2 : LSt), σ = [some (.ref a), some (.ref hh), some (.int i), some (.int wd.cap), some (.int wd.start), some (.int wd.refill), some (.ref ma), some (.ref ra), some (.ref b1.a), some (.ref b2.a), some (.ref oa), x11, some (.int (mn : Int)), some (.int (j : Int)), some (.int u.level), x15, x16, x17, x18, x19, x20, x21] ∧ Ex B0 F0 ∧ A2.C = C ∧ A2.M = M ∧ (∀ ad ∈ A2.mads, ad.sv.pz = false) ∧ ds2.length ≤ 5 + 5 * j + 4 ∧ EqS t u2 ∧ LOk wd u2 ∧ BB K F0 G rg pp b1 A1 t wd ds1 0 b2 A2 u2 wd ds2 0) ?_ ?_
            · refine sw_if (tw_and (tw_test (ew_op (ew_var rfl (ew_tup hdj (aw_nil ⟨by walk_at "ob_len", fun pe hpe => ?_⟩))))))
              have gpe := Ex.new (.refl G2) hpe (u := .tup [])
              have hB := hB.grow gpe
              have gG0 := g.trans hB.own.ex
              refine rw_neD hdj (d := .tuple (wd.ms.map macD)) (e := .tuple []) (.tup (gG0.sqT lz) (dps_ex gG0 dzs)) (.tup (SqT.of upd_same) .nil) (shaped_low (n := 3) low_macs) (shaped_low (n := 1) rfl) ?_
              rw [eqv_nilT]
              refine ⟨_, rfl, fun hb => ?_, fun _ => ⟨(fun z => by cases z), fun _ => sw_next ⟨x15, x16, F0, A2, ds2, u2, rfl, g, eC2, eM2, hz2, by omega, hE, hu, hB⟩⟩⟩
              have hne : 0 < wd.ms.length := by
                cases hms : wd.ms with
                | nil => rw [hms] at hb; cases hb
                | cons _ _ => exact Nat.succ_pos _
              refine tw_test (ew_op (ew_next hd rfl (ew_c ⟨2, rfl, by decide, by decide, fun r2 _ _ => ew_c (rw_eq rfl ⟨_, rfl, fun _ => ?_, fun _ => sw_next ⟨x15, x16, F0, A2, ds2, u2, rfl, g, eC2, eM2, hz2, by omega, hE, hu, hB⟩⟩)⟩)))
              refine sw_seq (sw_asg (ew_next hd rfl (ew_cb (aw_cons (ew_var rfl (aw_nil (cw_lenS hdj (Or.inr (gG0.sqT lz)) ⟨_, rfl, by omega, by omega, fun oi o0 o1 => gw_name ?_⟩)))))))
              obtain ⟨o, rfl, hol⟩ : ∃ o : Nat, oi = (o : Int) ∧ o < wd.ms.length := ⟨oi.toNat, by omega, by omega⟩
              obtain ⟨ss, hss⟩ : ∃ ss, wd.ms[o]? = some ss := ⟨_, List.getElem?_eq_getElem hol⟩
              obtain ⟨ad, had⟩ : ∃ ad, A2.mads[o]? = some ad := ⟨_, List.getElem?_eq_getElem (by rw [hB.s2.len1]; exact hol)⟩
              obtain ⟨m, hm⟩ := ms_both' hu.len hss
              have hpz := hz2 ad (List.mem_of_getElem? had)
              have hfull := (hB.s2.st o ad ss had hss).all hpz
              refine sw_seq (sw_drop (ew_meth hdj (ew_var rfl ⟨b2.a, b2.dx, _, rfl, eb2 ▸ hB.snd.ex0, lookup_out (show _ ∉ bkeys by decide +kernel), aw_cons (ew_var rfl (aw_nil ?_))⟩)))
              refine ⟨F0, b2, A2, u2, wd, rg, pp, ds2, 0, _, o, ad, m, ss, rfl, eb2, eC2, eM2, hB.snd, had, hpz, hm, hss, hu.m o m ss hm hss, by omega, fun F1 G3 e1 g1 de1 hX1 => ?_⟩
              have hB1 := hB.set2 g1 hX1
              have had' : (pzA A2 o ad true).mads[o]? = some (pzAd ad true) := List.getElem?_set_self (List.getElem?_eq_some_iff.mp had).1
              have hss' : (stW wd o (cutS ss m)).ms[o]? = some (cutS ss m) := List.getElem?_set_self hol
              refine sw_drop (ew_meth hdj (ew_var rfl ⟨b2.a, b2.dx, _, rfl, eb2 ▸ hB1.snd.ex0, lookup_out (show _ ∉ bkeys by decide +kernel), aw_cons (ew_var rfl (aw_nil ?_))⟩))
              refine ⟨F1, b2, pzA A2 o ad true, u2, _, rg, pp, _, _, _, o, pzAd ad true, m, _, rfl, eb2, eC2, eM2, hB1.snd, had', rfl, hm, hss', by rw [List.length_append]; show _ + 1 < _; omega, fun F9 G4 e2 g2 de2 hX2 => ?_⟩
              have hB2 := (hB1.set2 g2 hX2).at2 (t' := { u2 with ms := u2.ms.set o { m with since := u2.beat } }) (w' := wd) (ln' := 0) rfl (by show stW (stW wd o (cutS ss m)) o ad.sv.full = wd; rw [← hfull]; exact stW_back hss) rfl
              refine ⟨x15, _, F9, pzA (pzA A2 o ad true) o (pzAd ad true) false, _, { u2 with ms := u2.ms.set o { m with since := u2.beat } }, rfl, g.trans (g1.trans g2), eC2, eM2, fun a9 ha9 => ?_, by rw [List.length_append, List.length_append]; show _ + 1 + 1 ≤ _; omega, eqs_since hE hm, eqs_ok hu hm, hB2⟩
              have ha9 : a9 ∈ (A2.mads.set o (pzAd ad true)).set o (pzAd (pzAd ad true) false) := ha9
              rw [List.set_set] at ha9
              rcases List.mem_or_eq_of_mem_set ha9 with z | z
              · exact hz2 a9 z
              · rw [z]; rfl
            clear hB hu hE hz2 eC2 eM2 hd2 g
            rintro σ _ G3 ⟨x15, x16, F0, A2, ds2, u3, rfl, g, eC2, eM2, hz2, hd2, hE, hu, hB⟩
            have hz1 : ∀ ad ∈ A1.mads, ad.sv.pz = false := hB.s1.np eP1
            refine sw_if (tw_or (tw_not (tw_B (ew_call hdj (aw_cons (ew_meth hdj (ew_var rfl ⟨b1.a, b1.dx, _, rfl, eb1 ▸ hB.fst.ex0, lookup_out (show _ ∉ bkeys by decide +kernel), aw_nil ?_⟩)))))))
            refine ⟨F0, b1, A1, t, wd, rg, pp, ds1, 0, _, rfl, eb1, eC1, eM1, hB.fst, hiv.ok, hm5, hlong, by omega, fun F1 G4 q1 bg1 oA1 e1 t1 lv1 bs1 bt1 ok1 g1 c1 c2 c3 c4 hX1 => ?_⟩
            have hB1 := hB.set1 g1 hX1
            refine aw_cons (ew_meth hdj (ew_var rfl ⟨b2.a, b2.dx, _, rfl, eb2 ▸ hB1.snd.ex0, lookup_out (show _ ∉ bkeys by decide +kernel), aw_nil ?_⟩))
            refine ⟨F1, b2, A2, u3, wd, rg, pp, ds2, 0, _, rfl, eb2, eC2, eM2, hB1.snd, hu, hm5, hlong, by omega, fun F9 G5 q2 bg2 oA2 e2 t2 lv2 bs2 bt2 ok2 g2 k1 k2 k3 k4 hX2 => ?_⟩
            have hB2 := hB1.set2 g2 hX2
            obtain ⟨hE2, rfl, rfl⟩ := beat_eqs hnw hE bt1 bt2
            rw [overs_eqs hE wd.ms.length] at k3
            have hlo := overs_len (t := t) wd.ms.length
            have hlb := bg_len bt1
            refine aw_nil ⟨.ref q1, .ref q2, .tuple [.list ((overs t wd.ms.length).map PyData.int), .list (bs2.map PyData.int), .int lv2], rfl, ?_, ?_, szT (by omega) (by omega), fun G6 g6 => ⟨_, rfl, (fun z => by cases z), fun _ => ?_⟩⟩
            · exact dp_ex (g2.trans hB2.own.ex) (.tup (SqT.of c4) (.cons (.lst (SqL.of c3) dp_ints) (.cons (.lst (SqL.of c2) dp_ints) (.cons (.int _) .nil))))
            · exact dp_ex hB2.own.ex (.tup (SqT.of k4) (.cons (.lst (SqL.of k3) dp_ints) (.cons (.lst (SqL.of k2) dp_ints) (.cons (.int _) .nil))))
            have hB3 := hB2.grow g6
            refine tw_or (tw_test (ew_op (ew_meth hdj (ew_var rfl ⟨b1.a, b1.dx, _, rfl, eb1 ▸ hB3.fst.ex0, lookup_out (show _ ∉ bkeys by decide +kernel), aw_nil ?_⟩))))
            refine ⟨F9, b1, A1, t1, wd, rg, pp, _, 0, _, rfl, eb1, eC1, hB3.fst, fun qa G7 g7 hqa ea => ?_⟩
            have hB4 := hB3.grow g7
            refine ew_meth hdj (ew_var rfl ⟨b2.a, b2.dx, _, rfl, eb2 ▸ hB4.snd.ex0, lookup_out (show _ ∉ bkeys by decide +kernel), aw_nil ?_⟩)
            refine ⟨F9, b2, A2, t2, wd, rg, pp, _, 0, _, rfl, eb2, eC2, hB4.snd, fun qb G8 g8 hqb eb => ?_⟩
            rw [hE2.lv] at eb
            refine rw_neD hdj (d := .tuple [.int wd.cap, .int t1.level, .int wd.refill, .int 0]) (e := .tuple [.int wd.cap, .int t1.level, .int wd.refill, .int 0]) (.tup (SqT.of (g8 _ _ ea)) (.cons (.int _) (.cons (.int _) (.cons (.int _) (.cons (.int _) .nil))))) (.tup (SqT.of eb) (.cons (.int _) (.cons (.int _) (.cons (.int _) (.cons (.int _) .nil))))) (shaped_low (n := 1) low_four) (shaped_low (n := 1) low_four) ?_
            rw [eqv_low (n := 1) low_four]
            refine ⟨_, rfl, (fun z => by cases z), fun _ => ?_⟩
            have hB5 := hB4.grow g8
            refine tw_test (ew_op (ew_meth hdj (ew_var rfl ⟨b1.a, b1.dx, _, rfl, eb1 ▸ hB5.fst.ex0, lookup_out (show _ ∉ bkeys by decide +kernel), aw_nil ?_⟩)))
            refine ⟨F9, b1, A1, t1, wd, rg, pp, _, 0, _, rfl, eb1, eC1, eM1, hB5.fst, hm5, fun qc G9 xs1 g9 ec hl1 hs1 => ?_⟩
            have hB6 := hB5.grow g9
            refine ew_meth hdj (ew_var rfl ⟨b2.a, b2.dx, _, rfl, eb2 ▸ hB6.snd.ex0, lookup_out (show _ ∉ bkeys by decide +kernel), aw_nil ?_⟩)
            refine ⟨F9, b2, A2, t2, wd, rg, pp, _, 0, _, rfl, eb2, eC2, eM2, hB6.snd, hm5, fun qd Gx xs2 gx ed hl2 hs2 => ?_⟩
            have dd1 := stand_dp (K := K) hs1 hl1 ok1.len hB6.s1.len1 hz1
            have dd2 := stand_dp (K := K) hs2 hl2 ok2.len hB6.s2.len1 hz2
            rw [stand_eqs hE2] at dd2
            refine rw_neD hdj (d := .list (standL t1)) (e := .list (standL t1)) (.lst (SqL.of (gx _ _ ec)) (dps_ex gx dd1)) (.lst (SqL.of ed) dd2) (shaped_low (n := 2) low_stand) (shaped_low (n := 2) low_stand) ?_
            rw [eqv_low (n := 2) low_stand]
            exact ⟨_, rfl, (fun z => by cases z), fun _ => sw_next ⟨_, _, _, _, _, _, _, _, _, _, F9, A1, A2, ds1 ++ [.ref e1], ds2 ++ [.ref e2], t1, t2, rfl, g.trans (g1.trans g2), eC1, eM1, eP1, eC2, eM2, hz2, by rw [List.length_append]; show _ + 1 ≤ _; omega, by rw [List.length_append]; show _ + 1 ≤ _; omega, .succ hP bt1, hE2, ok2, hB6.grow gx⟩⟩
          · rintro σ _ G ⟨x11, x13, x14, x15, x16, x17, x18, x19, x20, x21, F0, A1, A2, ds1, ds2, t, u, rfl, g, eC1, eM1, eP1, eC2, eM2, hz2, hd1, hd2, hP, hE, hu, hB⟩
            rw [Int.toNat_natCast] at hP hd1
            exact ⟨x11, x13, x14, x15, x16, x17, x18, x19, x20, x21, F0, A1, ds1, t, _, rfl, g, eC1, eM1, eP1, by omega, hP, hB.fst⟩
        clear hB eC1 eM1 eP1 eC2 eM2 eP2 hd1 hd2 g
        rintro σ _ G ⟨x11, x13, x14, x15, x16, x17, x18, x19, x20, x21, F0, A1, ds1, T, ex, rfl, g, eC1, eM1, eP1, hd1, hP, hX⟩
        have hiv := hP.inv hw
        have hbT := lpath_beat hP
        -- all are paused
        refine sw_seq ?_
        refine sw_mid (fun σ _ G => ∃ (x11 x13 x14 x15 x16 x17 x18 x19 x20 x21 : Option V) (F0 : Hp) (A1 : RAd) (ds1 : List V), σ = [some (.ref a), some (.ref hh), some (.int i), some (.int wd.cap), some (.int wd.start), some (.int wd.refill), some (.ref ma), some (.ref ra), some (.ref b1.a), some (.ref b2.a), some (.ref oa), x11, some (.int (mn : Int)), x13, x14, x15, x16, x17, x18, x19, x20, x21] ∧ Ex B0 F0 ∧ A1.C = C ∧ A1.M = M ∧ ds1.length ≤ 45 ∧ BEnt K F0 G b1 A1 T (pzN wd T wd.ms.length) rg pp ds1 0 ex) ?_ ?_
        · refine sw_forR1 (aw_cons (ew_cb (aw_cons (ew_var rfl (aw_nil (cw_lenS hdj (Or.inr ((g.trans hX.own.ex).sqT lz)) (aw_nil ?_)))))))
          refine ⟨_, fun j σ _ G => ∃ (x11 x13 x14 x15 x16 x17 x18 x19 x20 x21 : Option V) (F0 : Hp) (A1 : RAd) (ds1 : List V), σ = [some (.ref a), some (.ref hh), some (.int i), some (.int wd.cap), some (.int wd.start), some (.int wd.refill), some (.ref ma), some (.ref ra), some (.ref b1.a), some (.ref b2.a), some (.ref oa), x11, some (.int (mn : Int)), x13, x14, x15, x16, x17, x18, x19, x20, x21] ∧ Ex B0 F0 ∧ A1.C = C ∧ A1.M = M ∧ ds1.length ≤ 40 + j ∧ (∀ (k : Nat) (ad : MAd), j ≤ k → A1.mads[k]? = some ad → ad.sv.pz = false) ∧ BEnt K F0 G b1 A1 T (pzN wd T j) rg pp ds1 0 ex, rfl, by omega, by omega, ⟨x11, x13, x14, x15, x16, x17, x18, x19, x20, x21, F0, A1, ds1, rfl, g, eC1, eM1, by omega, fun k ad _ h => hX.np eP1 ad (List.mem_of_getElem? h), hX⟩, ?_, ?_⟩
          · clear hX eC1 eM1 eP1 hd1 g
            rintro j σ _ G hj ⟨x11, x13, x14, x15, x16, x17, x18, x19, x20, x21, F0, A1, ds1, rfl, g, eC1, eM1, hd1, hz, hX⟩
            have hjl : j < wd.ms.length := by omega
            obtain ⟨ss, hss⟩ : ∃ ss, wd.ms[j]? = some ss := ⟨_, List.getElem?_eq_getElem hjl⟩
            obtain ⟨m, hm⟩ := ms_both' hiv.ok.len hss
            obtain ⟨ad, had⟩ : ∃ ad, A1.mads[j]? = some ad := ⟨_, List.getElem?_eq_getElem (by rw [hX.len1, (pzN_cap j).2.2.2]; exact hjl)⟩
            have hs' := pzN_get hm hss j
            rw [if_neg (by omega)] at hs'
            refine gw_name (sw_drop (ew_meth hdj (ew_var rfl ⟨b1.a, b1.dx, _, rfl, eb1 ▸ hX.ex0, lookup_out (show _ ∉ bkeys by decide +kernel), aw_cons (ew_var rfl (aw_nil ?_))⟩)))
            refine ⟨F0, b1, A1, T, pzN wd T j, rg, pp, ds1, 0, ex, j, ad, m, ss, rfl, eb1, eC1, eM1, hX, had, hz j ad (Nat.le_refl _) had, hm, hs', hiv.ok.m j m ss hm hss, by omega, fun F1 G1 e g1 de hX' => ?_⟩
            refine ⟨_, _, _, _, _, _, _, _, _, _, F1, pzA A1 j ad true, ds1 ++ [.ref e], rfl, g.trans g1, eC1, eM1, by rw [List.length_append]; show _ + 1 ≤ _; omega, fun k a9 hk h9 => ?_, ?_⟩
            · have h9 : (A1.mads.set j (pzAd ad true))[k]? = some a9 := h9
              rw [List.getElem?_set_ne (by omega)] at h9
              exact hz k a9 (by omega) h9
            · have e9 : pzN wd T (j + 1) = stW (pzN wd T j) j (cutS ss m) := by
                show (match T.ms[j]?, wd.ms[j]? with
                  | some m, some ss => stW (pzN wd T j) j (cutS ss m)
                  | _, _ => pzN wd T j) = _
                rw [hm, hss]
              rw [e9]
              exact hX'
          · rintro σ _ G ⟨x11, x13, x14, x15, x16, x17, x18, x19, x20, x21, F0, A1, ds1, rfl, g, eC1, eM1, hd1, hz, hX⟩
            rw [Int.toNat_natCast, hzl] at hX hd1
            exact ⟨x11, x13, x14, x15, x16, x17, x18, x19, x20, x21, F0, A1, ds1, rfl, g, eC1, eM1, by omega, hX⟩
        clear hX eC1 eM1 eP1 hd1 g
        rintro σ _ G ⟨x11, x13, x14, x15, x16, x17, x18, x19, x20, x21, F0, A1, ds1, rfl, g, eC1, eM1, hd1, hX⟩
        have hwp := pzN_wok hw hiv.ok
        have hokp := pzN_ok hiv.ok wd.ms.length
        have hpzp := pzN_pz hiv.ok
        have hpre : ∀ (k : Nat) (ss : List Stp), (pzN wd T wd.ms.length).ms[k]? = some ss → ∃ s0, wd.ms[k]? = some s0 ∧ ss <+: s0 := fun k ss => pzN_pre hiv.ok
        obtain ⟨ecp, erp, _, elp⟩ := pzN_cap (w := wd) (t := T) wd.ms.length
        have hl0 := hiv.l0
        have hl1 : T.level ≤ (pzN wd T wd.ms.length).cap := by rw [ecp]; exact hiv.l1
        generalize pzN wd T wd.ms.length = wp at hX hwp hokp hpzp hpre ecp erp elp hl1
        clear hP hiv
        refine sw_seq (sw_asg (ew_op (ew_meth hdj (ew_var rfl ⟨b1.a, b1.dx, _, rfl, eb1 ▸ hX.ex0, lookup_out (show _ ∉ bkeys by decide +kernel), aw_nil ?_⟩))))
        refine ⟨F0, b1, A1, T, wp, rg, pp, ds1, 0, ex, rfl, eb1, eC1, hX, fun qs G1 gs hqs es => ew_c (rw_ixT hdj (SqT.of es) (atI_nat (j := 1) rfl) (gw_name ?_))⟩
        have hX := hX.grow gs
        have hmp5 : wp.ms.length ≤ 5 := by omega
        have hlongp : ∀ ss ∈ wp.ms, ∀ st ∈ ss, (0 : Int) ≤ st.long := fun ss h st h2 => by have := (hwp.st ss h st h2).l0; omega
        refine sw_seq ?_
        refine sw_mid (fun σ _ G => ∃ (x11 x13 x14 x15 x16 x17 x18 x19 x20 x21 x12 : Option V), σ = [some (.ref a), some (.ref hh), some (.int i), some (.int wd.cap), some (.int wd.start), some (.int wd.refill), some (.ref ma), some (.ref ra), some (.ref b1.a), some (.ref b2.a), some (.ref oa), x11, x12, x13, x14, x15, x16, x17, x18, x19, x20, x21] ∧ Ex B0 G) ?_ ?_
        · refine sw_forR1 (aw_cons (ew_c (aw_nil ?_)))
          refine ⟨12, fun j σ _ G => ∃ (x11 x13 x15 x16 x17 x18 x19 x20 x21 : Option V) (F0 : Hp) (ds1 : List V) (t : LSt), σ = [some (.ref a), some (.ref hh), some (.int i), some (.int wd.cap), some (.int wd.start), some (.int wd.refill), some (.ref ma), some (.ref ra), some (.ref b1.a), some (.ref b2.a), some (.ref oa), x11, some (.int (mn : Int)), x13, some (.int t.level), x15, x16, x17, x18, x19, x20, x21] ∧ Ex B0 F0 ∧ ds1.length ≤ 50 + j ∧ LOk wp t ∧ 0 ≤ t.level ∧ t.level ≤ wp.cap ∧ t.beat = (mn : Int) + j ∧ (∀ (k : Nat) (m : Mac) (ss : List Stp), t.ms[k]? = some m → wp.ms[k]? = some ss → PzOk ss m) ∧ BEnt K F0 G b1 A1 t wp rg pp ds1 0 ex, rfl, by decide, by decide, ⟨x11, x13, x15, x16, x17, x18, x19, x20, x21, F0, ds1, T, rfl, g, by omega, hokp, hl0, hl1, by omega, hpzp, hX⟩, ?_, ?_⟩
          · clear hX hd1 g hokp hl0 hl1 hpzp
            rintro j σ _ G hj ⟨x11, x13, x15, x16, x17, x18, x19, x20, x21, F0, ds1, t, rfl, g, hd1, hok, h0, h1, hbt, hpz, hX⟩
            refine gw_name (sw_seq (sw_asg (ew_meth hdj (ew_var rfl ⟨b1.a, b1.dx, _, rfl, eb1 ▸ hX.ex0, lookup_out (show _ ∉ bkeys by decide +kernel), aw_nil ?_⟩))))
            refine ⟨F0, b1, A1, t, wp, rg, pp, ds1, 0, ex, rfl, eb1, eC1, eM1, hX, hok, hmp5, hlongp, by omega, fun F1 G1 q bg oA e t' lv bs bt ok' g1 c1 c2 c3 c4 hX1 => ?_⟩
            obtain ⟨rfl, _, hbeat, hms⟩ := pz_beat hok hpz bt
            obtain ⟨elv, l0', l1'⟩ := pz_level hwp hok h0 h1 hpz bt
            have elv2 : lv = t'.level := by obtain ⟨_, _, _, _, e⟩ := bt; exact e
            have hov5 := overs_len (t := t) wp.ms.length
            refine gw_tup hdj ⟨q, _, rfl, SqT.of (hX1.own.ex _ _ c4), rfl, gsw_cons (gw_name (gsw_cons (gw_name (gsw_cons (gw_name (gsw_nil ?_))))))⟩
            refine sw_seq (sw_asg (ew_meth hdj (ew_var rfl ⟨b1.a, b1.dx, _, rfl, eb1 ▸ hX1.ex0, lookup_out (show _ ∉ bkeys by decide +kernel), aw_nil ?_⟩)))
            refine ⟨F1, b1, A1, t', wp, rg, pp, _, 0, ex, rfl, eb1, eC1, eM1, hX1, hmp5, fun qr G2 xs g2 er hxl hst => gw_name ?_⟩
            have hX2 := hX1.grow g2
            have gB2 := (g.trans g1).trans hX2.own.ex
            refine sw_seq (sw_asg (ew_cb (aw_cons (ew_var rfl (aw_cons (ew_op (ew_var rfl (ew_cb (aw_cons (ew_lcLf hdj (e := V.int) (l := overs t wp.ms.length) (f := fun x => V.int (backK wp t x)) (ew_var rfl ⟨rfl, rfl, rfl⟩) (SqL.of ((hX1.own.ex.trans g2) _ _ c3)) (by omega) ?_ fun Dl G3 g3 e3 => aw_nil (cw_sum hdj (ns := (overs t wp.ms.length).map (backK wp t)) (by rw [List.map_map]; exact SqL.of e3) (rw_I0 (aw_nil (cw_minE (v := minI wd.cap (t.level + ((overs t wp.ms.length).map (backK wp t)).sum)) rfl (gw_name ?_)))))))))))))))
            · intro i2 x D2 acc G3 hx g3 hg3
              have hd' := hdj.jd (D := D2) (acc := acc)
              obtain ⟨kk, m, rfl, hkl, hm, hmo⟩ := overs_mem (List.mem_of_getElem? hx)
              have hsp : wp.ms[kk]? = some wp.ms[kk] := List.getElem?_eq_getElem hkl
              obtain ⟨s0, hs0, hp0⟩ := hpre kk _ hsp
              have hmk := hok.m kk m _ hm hsp
              have ha0 := hmk.a0
              have hlt := hmk.o (by have := hok.b; omega)
              have hst0 : (wp.ms[kk])[m.at_.toNat]? = some (wp.ms[kk])[m.at_.toNat] := List.getElem?_eq_getElem (by omega)
              have hst1 := pre_get hp0 hst0
              generalize (wp.ms[kk])[m.at_.toNat]'(by omega) = st at hst0 hst1
              have hbk : backK wp t (kk : Int) = st.back := by
                unfold backK
                rw [Int.toNat_natCast, hm, hsp]
                simp only [hst0]
              obtain ⟨ad, had⟩ : ∃ ad, A1.mads[kk]? = some ad := ⟨_, List.getElem?_eq_getElem (by rw [hX.len1]; exact hkl)⟩
              obtain ⟨qk, hqk, oqk⟩ := hst kk _ ad hkl (hms kk m _ hm hsp).1 had
              rw [endM_over hmk hok.b hmo] at oqk
              obtain ⟨xv, hxv, dxv⟩ := dps_get (dps_ex gB2 dzs) (show (wd.ms.map macD)[kk]? = some (macD s0) by rw [List.getElem?_map, hs0]; rfl)
              obtain ⟨ta, us, rfl, lu, dus⟩ := dp_tup (ds := s0.map stpD) dxv
              obtain ⟨yv, hyv, dyv⟩ := dps_get dus (show (s0.map stpD)[m.at_.toNat]? = some (stpD st) by rw [List.getElem?_map, hst1]; rfl)
              obtain ⟨tb, vs3, rfl, lt, dts⟩ := dp_tup (ds := [.int st.draw, .int st.long, .int st.back]) dyv
              obtain ⟨z1, z2, z3, rfl, f1, f2, f3⟩ := dps3 dts
              cases dp_int f3
              refine gw_name ⟨rfl, tw_yes ⟨fun _ => ?_, (fun z => by cases z)⟩⟩
              refine ew_op (ew_op (ew_op (ew_var rfl (ew_var rfl (rw_ixT hd' ((gB2.trans g3).sqT lz) (atI_nat hxv) ?_)))))
              refine ew_op (ew_op (ew_op (ew_var rfl (ew_var rfl (rw_ixL hd' (SqL.of (g3 _ _ er)) (atI_nat hqk) (ew_c (rw_ixT hd' (SqT.of (g3 _ _ oqk)) (atI_nat (j := 0) rfl) (ew_c (rw_I0 ?_)))))))))
              rw [show m.at_ + 1 - 1 = ((m.at_.toNat : Nat) : Int) by omega]
              exact rw_ixT hd' (g3.sqT lu) (atI_nat hyv) (ew_c (rw_ixT hd' (g3.sqT lt) (atI_nat (j := 2) rfl) ⟨rfl, .refl _, by rw [hbk]⟩))
            have hX3 := hX2.grow g3
            refine sw_seq (sw_asg (ew_cb (aw_cons (ew_var rfl (aw_cons (ew_op (ew_var rfl (ew_op (ew_var rfl (ew_cb (aw_cons (ew_op (ew_op (ew_var rfl (ew_var rfl (rw_I0 (ew_c (rw_I0 (aw_nil (cw_intB (rw_I (Or.inr ⟨by split <;> decide, by split <;> decide⟩) (rw_I0 (aw_nil (cw_minE (v := t'.level) ?_ (gw_name ?_)))))))))))))))))))))))))
            · rw [← elv2, elv, ecp, erp, hbt]
            refine sw_if (tw_or (tw_test (ew_op (ew_var rfl (ew_lst hdj (aw_nil ⟨by walk_at "ob_len", fun pe hpe => ?_⟩))))))
            have gpe := Ex.new (.refl G3) hpe (u := .lst [])
            have hX4 := hX3.grow gpe
            refine rw_neD hdj (d := .list []) (e := .list []) (.lst (SqL.of (hX4.own.ex _ _ c2)) .nil) (.lst (SqL.of upd_same) .nil) (shaped_low (n := 1) rfl) (shaped_low (n := 1) rfl) ?_
            rw [eqv_low (n := 1) rfl]
            refine ⟨_, rfl, (fun z => by cases z), fun _ => ?_⟩
            refine tw_test (ew_op (ew_var rfl (ew_var rfl (rw_ne rfl ⟨_, rfl, fun z => ?_, fun _ => sw_next ⟨_, _, _, _, _, _, _, _, _, F1, ds1 ++ [.ref e], t', rfl, g.trans g1, by rw [List.length_append]; show _ + 1 ≤ _; omega, ok', l0', l1', by rw [hbeat, hbt]; omega, fun k m' ss' h1 h2 => ?_, hX4⟩⟩))))
            · rw [elv2] at z
              exact absurd z (by simp)
            · obtain ⟨m, hm⟩ := ms_both' hok.len h2
              obtain ⟨y1, y2⟩ := hms k m ss' hm h2
              rw [h1] at y1
              cases y1
              exact y2
          · rintro σ _ G ⟨x11, x13, x15, x16, x17, x18, x19, x20, x21, F0, ds1, t, rfl, g, _, _, _, _, _, _, hX⟩
            exact ⟨x11, x13, _, x15, x16, x17, x18, x19, x20, x21, _, rfl, g.trans hX.own.ex⟩
        clear hX g
        rintro σ _ G ⟨x11, x13, x14, x15, x16, x17, x18, x19, x20, x21, x12, rfl, gG⟩
        refine sw_if (tw_not (tw_B (ew_call hdj (aw_cons (ew_tup hdj (aw_cons (ew_var rfl (aw_cons (ew_var rfl (aw_cons (ew_var rfl (aw_nil ⟨by walk_at "ob_len", fun ps hps => ?_⟩))))))))))))
        have gp := gG.trans (Ex.new (.refl G) hps (u := .tup [.int wd.cap, .int wd.start, .int wd.refill]))
        refine aw_cons (ew_var rfl (aw_cons (ew_var rfl (aw_cons (ew_var rfl (aw_nil ?_))))))
        exact ⟨.ref ps, .ref ma, .ref ra, .ref oa, wd, rg, pp, 1 + mr, rfl, .tup (SqT.of upd_same) (.cons (.int _) (.cons (.int _) (.cons (.int _) .nil))), .tup (gp.sqT lz) (dps_ex gp dzs), dp_ex gp dR, dp_ex gp dov, hw, by omega, by omega, fun G9 g9 => ⟨_, rfl, (fun z => by cases z), fun _ => sw_next ⟨_, _, _, _, _, _, _, _, _, _, _, _, _, _, _, _, _, _, _, _, rfl⟩⟩⟩
      · rintro σ _ _ ⟨x2, x3, x4, x5, x6, x7, x8, x9, x10, x11, x12, x13, x14, x15, x16, x17, x18, x19, x20, x21, rfl⟩
        exact ⟨_, _, _, _, _, _, _, _, _, _, _, _, _, _, _, _, _, _, _, _, rfl⟩
    · rintro σ _ _ ⟨x2, x3, x4, x5, x6, x7, x8, x9, x10, x11, x12, x13, x14, x15, x16, x17, x18, x19, x20, x21, rfl⟩
      refine sw_ret (ew_c ?_)
      rfl

end
end Obr
namespace Obr
open PySem PySem.Spec PyProof.Rows L2
/-! ### the head: where each def stands -/
theorem funOf {K : PySem.W.Frag} {x qual : Str} {st : Stmt} {f : Addr} {fd : FuncData} (F : FunD K x qual (defArgs st) (defBody st) (defScope st) [] [] f fd) : Fun K x qual st f fd := by
  obtain ⟨oc, od, dV, kV, doc, pm, an, cdv, ct, osl, rfl, lk, hcd, hD, _⟩ := F.ex
  rcases hD with ⟨_, rfl⟩ | ⟨e, _⟩
  · exact ⟨⟨oc, od, kV, doc, pm, an, cdv, ct, osl, rfl, lk, hcd⟩, F.kp⟩
  · exact absurd rfl e
theorem facts {P : Program} {w : World} {K : PySem.W.Frag} {h : Heap} {mg : Str → Option Value} {f : Addr} (X : K.In h) (G : h.Ns mainGlobals mg) (hfa : mg ("law" : Str) = some (.ref f)) (c : He.SaysD fa fn K) (x : exB K = true) :
    ∃ fd : FuncData, (∀ (s : Shared) (v : Value), BindsTo s fd ⟨[v], []⟩ [("_law_script", v)]) ∧ ∀ base : Heap, K.In base → base.Ns mainGlobals mg → FnOk P w K mg base CX0 11 f fd ["_law_script"] (LS (aLaw K)) := by
  obtain ⟨fd_in_turn, D_in_turn⟩ := c.def_ 1 (d := dd ("in_turn", none) "in_turn" "in_turn" (top 11)) rfl
  have b_in_turn : Binds K fd_in_turn ["right", "last", "waiting"] [] := FunD.bindsN (ps := ["right", "last", "waiting"]) D_in_turn fun _ _ _ _ _ _ us hl => match us, hl with | [_, _, _], _ => rfl
  have g_in_turn : mg "in_turn" = some (.ref (He.ga K "in_turn")) := He.glo_ok X G (c.fact 1 (f := .glo "in_turn") rfl)
  have C_in_turn : Cal K mg "in_turn" (He.ga K "in_turn") fd_in_turn ["right", "last", "waiting"] := ⟨g_in_turn, D_in_turn.kp, b_in_turn⟩
  obtain ⟨fd_least_first, D_least_first⟩ := c.def_ 2 (d := dd ("least_first", none) "least_first" "least_first" (top 12)) rfl
  have b_least_first : Binds K fd_least_first ["pairs"] [] := FunD.bindsN (ps := ["pairs"]) D_least_first fun _ _ _ _ _ _ us hl => match us, hl with | [_], _ => rfl
  have g_least_first : mg "least_first" = some (.ref (He.ga K "least_first")) := He.glo_ok X G (c.fact 2 (f := .glo "least_first") rfl)
  have C_least_first : Cal K mg "least_first" (He.ga K "least_first") fd_least_first ["pairs"] := ⟨g_least_first, D_least_first.kp, b_least_first⟩
  obtain ⟨fd_behind_first, D_behind_first⟩ := c.def_ 3 (d := dd ("behind_first", none) "behind_first" "behind_first" (top 13)) rfl
  have b_behind_first : Binds K fd_behind_first ["last", "numbers"] [] := FunD.bindsN (ps := ["last", "numbers"]) D_behind_first fun _ _ _ _ _ _ us hl => match us, hl with | [_, _], _ => rfl
  have g_behind_first : mg "behind_first" = some (.ref (He.ga K "behind_first")) := He.glo_ok X G (c.fact 3 (f := .glo "behind_first") rfl)
  have C_behind_first : Cal K mg "behind_first" (He.ga K "behind_first") fd_behind_first ["last", "numbers"] := ⟨g_behind_first, D_behind_first.kp, b_behind_first⟩
  obtain ⟨fd_check_store, D_check_store⟩ := c.def_ 4 (d := dd ("check_store", none) "check_store" "check_store" (top 20)) rfl
  have b_check_store : Binds K fd_check_store ["store"] [] := FunD.bindsN (ps := ["store"]) D_check_store fun _ _ _ _ _ _ us hl => match us, hl with | [_], _ => rfl
  have g_check_store : mg "check_store" = some (.ref (He.ga K "check_store")) := He.glo_ok X G (c.fact 4 (f := .glo "check_store") rfl)
  have C_check_store : Cal K mg "check_store" (He.ga K "check_store") fd_check_store ["store"] := ⟨g_check_store, D_check_store.kp, b_check_store⟩
  obtain ⟨fd_check_steps, D_check_steps⟩ := c.def_ 5 (d := dd ("check_steps", none) "check_steps" "check_steps" (top 21)) rfl
  have b_check_steps : Binds K fd_check_steps ["number", "steps", "cap"] [] := FunD.bindsN (ps := ["number", "steps", "cap"]) D_check_steps fun _ _ _ _ _ _ us hl => match us, hl with | [_, _, _], _ => rfl
  have g_check_steps : mg "check_steps" = some (.ref (He.ga K "check_steps")) := He.glo_ok X G (c.fact 5 (f := .glo "check_steps") rfl)
  have C_check_steps : Cal K mg "check_steps" (He.ga K "check_steps") fd_check_steps ["number", "steps", "cap"] := ⟨g_check_steps, D_check_steps.kp, b_check_steps⟩
  obtain ⟨fd_is_step, D_is_step⟩ := c.def_ 6 (d := dd ("is_step", none) "is_step" "is_step" (top 22)) rfl
  have b_is_step : Binds K fd_is_step ["step", "cap"] [] := FunD.bindsN (ps := ["step", "cap"]) D_is_step fun _ _ _ _ _ _ us hl => match us, hl with | [_, _], _ => rfl
  have g_is_step : mg "is_step" = some (.ref (He.ga K "is_step")) := He.glo_ok X G (c.fact 6 (f := .glo "is_step") rfl)
  have C_is_step : Cal K mg "is_step" (He.ga K "is_step") fd_is_step ["step", "cap"] := ⟨g_is_step, D_is_step.kp, b_is_step⟩
  obtain ⟨fd_check_rule, D_check_rule⟩ := c.def_ 7 (d := dd ("check_rule", none) "check_rule" "check_rule" (top 23)) rfl
  have b_check_rule : Binds K fd_check_rule ["rule"] [] := FunD.bindsN (ps := ["rule"]) D_check_rule fun _ _ _ _ _ _ us hl => match us, hl with | [_], _ => rfl
  have g_check_rule : mg "check_rule" = some (.ref (He.ga K "check_rule")) := He.glo_ok X G (c.fact 7 (f := .glo "check_rule") rfl)
  have C_check_rule : Cal K mg "check_rule" (He.ga K "check_rule") fd_check_rule ["rule"] := ⟨g_check_rule, D_check_rule.kp, b_check_rule⟩
  obtain ⟨fd_check_count, D_check_count⟩ := c.def_ 8 (d := dd ("check_count", none) "check_count" "check_count" (top 24)) rfl
  have b_check_count : Binds K fd_check_count ["many", "least", "most"] [] := FunD.bindsN (ps := ["many", "least", "most"]) D_check_count fun _ _ _ _ _ _ us hl => match us, hl with | [_, _, _], _ => rfl
  have g_check_count : mg "check_count" = some (.ref (He.ga K "check_count")) := He.glo_ok X G (c.fact 8 (f := .glo "check_count") rfl)
  have C_check_count : Cal K mg "check_count" (He.ga K "check_count") fd_check_count ["many", "least", "most"] := ⟨g_check_count, D_check_count.kp, b_check_count⟩
  obtain ⟨fd_Machine___init__, D_Machine___init__⟩ := c.def_ 9 (d := dd ("Machine", some "__init__") "__init__" "Machine.__init__" (inClass (top 29) 0)) rfl
  have b_Machine___init__ : Binds K fd_Machine___init__ ["self", "number", "steps", "since"] [] := FunD.bindsN (ps := ["self", "number", "steps", "since"]) D_Machine___init__ fun _ _ _ _ _ _ us hl => match us, hl with | [_, _, _, _], _ => rfl
  obtain ⟨fd_Machine_is_done, D_Machine_is_done⟩ := c.def_ 10 (d := dd ("Machine", some "is_done") "is_done" "Machine.is_done" (inClass (top 29) 1)) rfl
  have b_Machine_is_done : Binds K fd_Machine_is_done ["self"] [] := FunD.bindsN (ps := ["self"]) D_Machine_is_done fun _ _ _ _ _ _ us hl => match us, hl with | [_], _ => rfl
  have M_Machine_is_done : Met K (He.ga K "Machine") "is_done" (He.ma K (He.ga K "Machine") "is_done") fd_Machine_is_done ["self"] := ⟨He.cls_ok (c.fact 51 (f := .cls "Machine") rfl), He.meth_ok (c.fact 59 (f := .meth "Machine" "is_done") rfl), b_Machine_is_done⟩
  obtain ⟨fd_Machine_is_busy, D_Machine_is_busy⟩ := c.def_ 11 (d := dd ("Machine", some "is_busy") "is_busy" "Machine.is_busy" (inClass (top 29) 2)) rfl
  have b_Machine_is_busy : Binds K fd_Machine_is_busy ["self"] [] := FunD.bindsN (ps := ["self"]) D_Machine_is_busy fun _ _ _ _ _ _ us hl => match us, hl with | [_], _ => rfl
  have M_Machine_is_busy : Met K (He.ga K "Machine") "is_busy" (He.ma K (He.ga K "Machine") "is_busy") fd_Machine_is_busy ["self"] := ⟨He.cls_ok (c.fact 51 (f := .cls "Machine") rfl), He.meth_ok (c.fact 60 (f := .meth "Machine" "is_busy") rfl), b_Machine_is_busy⟩
  obtain ⟨fd_Machine_is_waiting, D_Machine_is_waiting⟩ := c.def_ 12 (d := dd ("Machine", some "is_waiting") "is_waiting" "Machine.is_waiting" (inClass (top 29) 3)) rfl
  have b_Machine_is_waiting : Binds K fd_Machine_is_waiting ["self"] [] := FunD.bindsN (ps := ["self"]) D_Machine_is_waiting fun _ _ _ _ _ _ us hl => match us, hl with | [_], _ => rfl
  have M_Machine_is_waiting : Met K (He.ga K "Machine") "is_waiting" (He.ma K (He.ga K "Machine") "is_waiting") fd_Machine_is_waiting ["self"] := ⟨He.cls_ok (c.fact 51 (f := .cls "Machine") rfl), He.meth_ok (c.fact 61 (f := .meth "Machine" "is_waiting") rfl), b_Machine_is_waiting⟩
  obtain ⟨fd_Machine_need, D_Machine_need⟩ := c.def_ 13 (d := dd ("Machine", some "need") "need" "Machine.need" (inClass (top 29) 4)) rfl
  have b_Machine_need : Binds K fd_Machine_need ["self"] [] := FunD.bindsN (ps := ["self"]) D_Machine_need fun _ _ _ _ _ _ us hl => match us, hl with | [_], _ => rfl
  have M_Machine_need : Met K (He.ga K "Machine") "need" (He.ma K (He.ga K "Machine") "need") fd_Machine_need ["self"] := ⟨He.cls_ok (c.fact 51 (f := .cls "Machine") rfl), He.meth_ok (c.fact 62 (f := .meth "Machine" "need") rfl), b_Machine_need⟩
  obtain ⟨fd_Machine_left, D_Machine_left⟩ := c.def_ 14 (d := dd ("Machine", some "left") "left" "Machine.left" (inClass (top 29) 5)) rfl
  have b_Machine_left : Binds K fd_Machine_left ["self", "beat"] [] := FunD.bindsN (ps := ["self", "beat"]) D_Machine_left fun _ _ _ _ _ _ us hl => match us, hl with | [_, _], _ => rfl
  have M_Machine_left : Met K (He.ga K "Machine") "left" (He.ma K (He.ga K "Machine") "left") fd_Machine_left ["self", "beat"] := ⟨He.cls_ok (c.fact 51 (f := .cls "Machine") rfl), He.meth_ok (c.fact 63 (f := .meth "Machine" "left") rfl), b_Machine_left⟩
  obtain ⟨fd_Machine_begin_step, D_Machine_begin_step⟩ := c.def_ 15 (d := dd ("Machine", some "begin_step") "begin_step" "Machine.begin_step" (inClass (top 29) 6)) rfl
  have b_Machine_begin_step : Binds K fd_Machine_begin_step ["self", "beat"] [] := FunD.bindsN (ps := ["self", "beat"]) D_Machine_begin_step fun _ _ _ _ _ _ us hl => match us, hl with | [_, _], _ => rfl
  have M_Machine_begin_step : Met K (He.ga K "Machine") "begin_step" (He.ma K (He.ga K "Machine") "begin_step") fd_Machine_begin_step ["self", "beat"] := ⟨He.cls_ok (c.fact 51 (f := .cls "Machine") rfl), He.meth_ok (c.fact 64 (f := .meth "Machine" "begin_step") rfl), b_Machine_begin_step⟩
  obtain ⟨fd_Machine_end_step, D_Machine_end_step⟩ := c.def_ 16 (d := dd ("Machine", some "end_step") "end_step" "Machine.end_step" (inClass (top 29) 7)) rfl
  have b_Machine_end_step : Binds K fd_Machine_end_step ["self", "beat"] [] := FunD.bindsN (ps := ["self", "beat"]) D_Machine_end_step fun _ _ _ _ _ _ us hl => match us, hl with | [_, _], _ => rfl
  have M_Machine_end_step : Met K (He.ga K "Machine") "end_step" (He.ma K (He.ga K "Machine") "end_step") fd_Machine_end_step ["self", "beat"] := ⟨He.cls_ok (c.fact 51 (f := .cls "Machine") rfl), He.meth_ok (c.fact 65 (f := .meth "Machine" "end_step") rfl), b_Machine_end_step⟩
  obtain ⟨fd_Machine_begin_anew, D_Machine_begin_anew⟩ := c.def_ 17 (d := dd ("Machine", some "begin_anew") "begin_anew" "Machine.begin_anew" (inClass (top 29) 8)) rfl
  have b_Machine_begin_anew : Binds K fd_Machine_begin_anew ["self"] [] := FunD.bindsN (ps := ["self"]) D_Machine_begin_anew fun _ _ _ _ _ _ us hl => match us, hl with | [_], _ => rfl
  have M_Machine_begin_anew : Met K (He.ga K "Machine") "begin_anew" (He.ma K (He.ga K "Machine") "begin_anew") fd_Machine_begin_anew ["self"] := ⟨He.cls_ok (c.fact 51 (f := .cls "Machine") rfl), He.meth_ok (c.fact 66 (f := .meth "Machine" "begin_anew") rfl), b_Machine_begin_anew⟩
  obtain ⟨fd_Shop___init__, D_Shop___init__⟩ := c.def_ 18 (d := dd ("Shop", some "__init__") "__init__" "Shop.__init__" (inClass (top 30) 0)) rfl
  have b_Shop___init__ : Binds K fd_Shop___init__ ["self", "world", "anew"] [] := FunD.bindsN (ps := ["self", "world", "anew"]) D_Shop___init__ fun _ _ _ _ _ _ us hl => match us, hl with | [_, _, _], _ => rfl
  obtain ⟨fd_Run___init__, D_Run___init__⟩ := c.def_ 26 (d := dd ("Run", some "__init__") "__init__" "Run.__init__" (inClass (top 31) 0)) rfl
  have b_Run___init__ : Binds K fd_Run___init__ ["self", "world", "rule", "anew"] [] := FunD.bindsN (ps := ["self", "world", "rule", "anew"]) D_Run___init__ fun _ _ _ _ _ _ us hl => match us, hl with | [_, _, _, _], _ => rfl
  obtain ⟨fd_Run_do_beat, D_Run_do_beat⟩ := c.def_ 27 (d := dd ("Run", some "do_beat") "do_beat" "Run.do_beat" (inClass (top 31) 1)) rfl
  have b_Run_do_beat : Binds K fd_Run_do_beat ["self"] [] := FunD.bindsN (ps := ["self"]) D_Run_do_beat fun _ _ _ _ _ _ us hl => match us, hl with | [_], _ => rfl
  have M_Run_do_beat : Met K (He.ga K "Run") "do_beat" (He.ma K (He.ga K "Run") "do_beat") fd_Run_do_beat ["self"] := ⟨He.cls_ok (c.fact 53 (f := .cls "Run") rfl), He.meth_ok (c.fact 74 (f := .meth "Run" "do_beat") rfl), b_Run_do_beat⟩
  obtain ⟨fd_Run_begin_steps, D_Run_begin_steps⟩ := c.def_ 28 (d := dd ("Run", some "begin_steps") "begin_steps" "Run.begin_steps" (inClass (top 31) 2)) rfl
  have b_Run_begin_steps : Binds K fd_Run_begin_steps ["self"] [] := FunD.bindsN (ps := ["self"]) D_Run_begin_steps fun _ _ _ _ _ _ us hl => match us, hl with | [_], _ => rfl
  have M_Run_begin_steps : Met K (He.ga K "Run") "begin_steps" (He.ma K (He.ga K "Run") "begin_steps") fd_Run_begin_steps ["self"] := ⟨He.cls_ok (c.fact 53 (f := .cls "Run") rfl), He.meth_ok (c.fact 75 (f := .meth "Run" "begin_steps") rfl), b_Run_begin_steps⟩
  obtain ⟨fd_Breath___init__, D_Breath___init__⟩ := c.def_ 30 (d := dd ("Breath", some "__init__") "__init__" "Breath.__init__" (inClass (top 33) 0)) rfl
  have b_Breath___init__ : Binds K fd_Breath___init__ ["self", "store", "rule"] [] := FunD.bindsN (ps := ["self", "store", "rule"]) D_Breath___init__ fun _ _ _ _ _ _ us hl => match us, hl with | [_, _, _], _ => rfl
  obtain ⟨fd_Breath_enter, D_Breath_enter⟩ := c.def_ 31 (d := dd ("Breath", some "enter") "enter" "Breath.enter" (inClass (top 33) 1)) rfl
  have b_Breath_enter : Binds K fd_Breath_enter ["self", "steps"] [] := FunD.bindsN (ps := ["self", "steps"]) D_Breath_enter fun _ _ _ _ _ _ us hl => match us, hl with | [_, _], _ => rfl
  have M_Breath_enter : Met K (He.ga K "Breath") "enter" (He.ma K (He.ga K "Breath") "enter") fd_Breath_enter ["self", "steps"] := ⟨He.cls_ok (c.fact 54 (f := .cls "Breath") rfl), He.meth_ok (c.fact 77 (f := .meth "Breath" "enter") rfl), b_Breath_enter⟩
  obtain ⟨fd_Breath_tick, D_Breath_tick⟩ := c.def_ 32 (d := dd ("Breath", some "tick") "tick" "Breath.tick" (inClass (top 33) 2)) rfl
  have b_Breath_tick : Binds K fd_Breath_tick ["self"] [] := FunD.bindsN (ps := ["self"]) D_Breath_tick fun _ _ _ _ _ _ us hl => match us, hl with | [_], _ => rfl
  have M_Breath_tick : Met K (He.ga K "Breath") "tick" (He.ma K (He.ga K "Breath") "tick") fd_Breath_tick ["self"] := ⟨He.cls_ok (c.fact 54 (f := .cls "Breath") rfl), He.meth_ok (c.fact 78 (f := .meth "Breath" "tick") rfl), b_Breath_tick⟩
  obtain ⟨fd_Breath_pause, D_Breath_pause⟩ := c.def_ 33 (d := dd ("Breath", some "pause") "pause" "Breath.pause" (inClass (top 33) 3)) rfl
  have b_Breath_pause : Binds K fd_Breath_pause ["self", "number"] [] := FunD.bindsN (ps := ["self", "number"]) D_Breath_pause fun _ _ _ _ _ _ us hl => match us, hl with | [_, _], _ => rfl
  have M_Breath_pause : Met K (He.ga K "Breath") "pause" (He.ma K (He.ga K "Breath") "pause") fd_Breath_pause ["self", "number"] := ⟨He.cls_ok (c.fact 54 (f := .cls "Breath") rfl), He.meth_ok (c.fact 79 (f := .meth "Breath" "pause") rfl), b_Breath_pause⟩
  obtain ⟨fd_Breath_go, D_Breath_go⟩ := c.def_ 34 (d := dd ("Breath", some "go") "go" "Breath.go" (inClass (top 33) 4)) rfl
  have b_Breath_go : Binds K fd_Breath_go ["self", "number"] [] := FunD.bindsN (ps := ["self", "number"]) D_Breath_go fun _ _ _ _ _ _ us hl => match us, hl with | [_, _], _ => rfl
  have M_Breath_go : Met K (He.ga K "Breath") "go" (He.ma K (He.ga K "Breath") "go") fd_Breath_go ["self", "number"] := ⟨He.cls_ok (c.fact 54 (f := .cls "Breath") rfl), He.meth_ok (c.fact 80 (f := .meth "Breath" "go") rfl), b_Breath_go⟩
  obtain ⟨fd_Breath_machine_that, D_Breath_machine_that⟩ := c.def_ 35 (d := dd ("Breath", some "machine_that") "machine_that" "Breath.machine_that" (inClass (top 33) 5)) rfl
  have b_Breath_machine_that : Binds K fd_Breath_machine_that ["self", "number", "paused"] [] := FunD.bindsN (ps := ["self", "number", "paused"]) D_Breath_machine_that fun _ _ _ _ _ _ us hl => match us, hl with | [_, _, _], _ => rfl
  have M_Breath_machine_that : Met K (He.ga K "Breath") "machine_that" (He.ma K (He.ga K "Breath") "machine_that") fd_Breath_machine_that ["self", "number", "paused"] := ⟨He.cls_ok (c.fact 54 (f := .cls "Breath") rfl), He.meth_ok (c.fact 81 (f := .meth "Breath" "machine_that") rfl), b_Breath_machine_that⟩
  obtain ⟨fd_Breath_lend, D_Breath_lend⟩ := c.def_ 36 (d := dd ("Breath", some "lend") "lend" "Breath.lend" (inClass (top 33) 6)) rfl
  have b_Breath_lend : Binds K fd_Breath_lend ["self", "many"] [] := FunD.bindsN (ps := ["self", "many"]) D_Breath_lend fun _ _ _ _ _ _ us hl => match us, hl with | [_, _], _ => rfl
  have M_Breath_lend : Met K (He.ga K "Breath") "lend" (He.ma K (He.ga K "Breath") "lend") fd_Breath_lend ["self", "many"] := ⟨He.cls_ok (c.fact 54 (f := .cls "Breath") rfl), He.meth_ok (c.fact 82 (f := .meth "Breath" "lend") rfl), b_Breath_lend⟩
  obtain ⟨fd_Breath_back, D_Breath_back⟩ := c.def_ 37 (d := dd ("Breath", some "back") "back" "Breath.back" (inClass (top 33) 7)) rfl
  have b_Breath_back : Binds K fd_Breath_back ["self", "many"] [] := FunD.bindsN (ps := ["self", "many"]) D_Breath_back fun _ _ _ _ _ _ us hl => match us, hl with | [_, _], _ => rfl
  have M_Breath_back : Met K (He.ga K "Breath") "back" (He.ma K (He.ga K "Breath") "back") fd_Breath_back ["self", "many"] := ⟨He.cls_ok (c.fact 54 (f := .cls "Breath") rfl), He.meth_ok (c.fact 83 (f := .meth "Breath" "back") rfl), b_Breath_back⟩
  obtain ⟨fd_Breath_merge, D_Breath_merge⟩ := c.def_ 38 (d := dd ("Breath", some "merge") "merge" "Breath.merge" (inClass (top 33) 8)) rfl
  have b_Breath_merge : Binds K fd_Breath_merge ["self", "store"] [] := FunD.bindsN (ps := ["self", "store"]) D_Breath_merge fun _ _ _ _ _ _ us hl => match us, hl with | [_, _], _ => rfl
  have M_Breath_merge : Met K (He.ga K "Breath") "merge" (He.ma K (He.ga K "Breath") "merge") fd_Breath_merge ["self", "store"] := ⟨He.cls_ok (c.fact 54 (f := .cls "Breath") rfl), He.meth_ok (c.fact 84 (f := .meth "Breath" "merge") rfl), b_Breath_merge⟩
  obtain ⟨fd_Breath_standing, D_Breath_standing⟩ := c.def_ 39 (d := dd ("Breath", some "standing") "standing" "Breath.standing" (inClass (top 33) 9)) rfl
  have b_Breath_standing : Binds K fd_Breath_standing ["self"] [] := FunD.bindsN (ps := ["self"]) D_Breath_standing fun _ _ _ _ _ _ us hl => match us, hl with | [_], _ => rfl
  have M_Breath_standing : Met K (He.ga K "Breath") "standing" (He.ma K (He.ga K "Breath") "standing") fd_Breath_standing ["self"] := ⟨He.cls_ok (c.fact 54 (f := .cls "Breath") rfl), He.meth_ok (c.fact 85 (f := .meth "Breath" "standing") rfl), b_Breath_standing⟩
  obtain ⟨fd_Breath_stock, D_Breath_stock⟩ := c.def_ 40 (d := dd ("Breath", some "stock") "stock" "Breath.stock" (inClass (top 33) 10)) rfl
  have b_Breath_stock : Binds K fd_Breath_stock ["self"] [] := FunD.bindsN (ps := ["self"]) D_Breath_stock fun _ _ _ _ _ _ us hl => match us, hl with | [_], _ => rfl
  have M_Breath_stock : Met K (He.ga K "Breath") "stock" (He.ma K (He.ga K "Breath") "stock") fd_Breath_stock ["self"] := ⟨He.cls_ok (c.fact 54 (f := .cls "Breath") rfl), He.meth_ok (c.fact 86 (f := .meth "Breath" "stock") rfl), b_Breath_stock⟩
  obtain ⟨fd_Breath_deeds, D_Breath_deeds⟩ := c.def_ 41 (d := dd ("Breath", some "deeds") "deeds" "Breath.deeds" (inClass (top 33) 11)) rfl
  have b_Breath_deeds : Binds K fd_Breath_deeds ["self"] [] := FunD.bindsN (ps := ["self"]) D_Breath_deeds fun _ _ _ _ _ _ us hl => match us, hl with | [_], _ => rfl
  have M_Breath_deeds : Met K (He.ga K "Breath") "deeds" (He.ma K (He.ga K "Breath") "deeds") fd_Breath_deeds ["self"] := ⟨He.cls_ok (c.fact 54 (f := .cls "Breath") rfl), He.meth_ok (c.fact 87 (f := .meth "Breath" "deeds") rfl), b_Breath_deeds⟩
  obtain ⟨fd_again, D_again⟩ := c.def_ 42 (d := dd ("again", none) "again" "again" (top 34)) rfl
  have b_again : Binds K fd_again ["store", "rule", "deeds"] [] := FunD.bindsN (ps := ["store", "rule", "deeds"]) D_again fun _ _ _ _ _ _ us hl => match us, hl with | [_, _, _], _ => rfl
  have g_again : mg "again" = some (.ref (He.ga K "again")) := He.glo_ok X G (c.fact 9 (f := .glo "again") rfl)
  have C_again : Cal K mg "again" (He.ga K "again") fd_again ["store", "rule", "deeds"] := ⟨g_again, D_again.kp, b_again⟩
  obtain ⟨fd_do_deed, D_do_deed⟩ := c.def_ 43 (d := dd ("do_deed", none) "do_deed" "do_deed" (top 35)) rfl
  have b_do_deed : Binds K fd_do_deed ["breath", "place", "deed"] [] := FunD.bindsN (ps := ["breath", "place", "deed"]) D_do_deed fun _ _ _ _ _ _ us hl => match us, hl with | [_, _, _], _ => rfl
  have g_do_deed : mg "do_deed" = some (.ref (He.ga K "do_deed")) := He.glo_ok X G (c.fact 10 (f := .glo "do_deed") rfl)
  have C_do_deed : Cal K mg "do_deed" (He.ga K "do_deed") fd_do_deed ["breath", "place", "deed"] := ⟨g_do_deed, D_do_deed.kp, b_do_deed⟩
  obtain ⟨fd__law_mix, D__law_mix⟩ := c.def_ 44 (d := dd ("_law_mix", none) "_law_mix" "_law_mix" (top 37)) rfl
  have b__law_mix : Binds K fd__law_mix ["_law_script", "_law_seed"] [] := FunD.bindsN (ps := ["_law_script", "_law_seed"]) D__law_mix fun _ _ _ _ _ _ us hl => match us, hl with | [_, _], _ => rfl
  have g__law_mix : mg "_law_mix" = some (.ref (He.ga K "_law_mix")) := He.glo_ok X G (c.fact 11 (f := .glo "_law_mix") rfl)
  have C__law_mix : Cal K mg "_law_mix" (He.ga K "_law_mix") fd__law_mix ["_law_script", "_law_seed"] := ⟨g__law_mix, D__law_mix.kp, b__law_mix⟩
  obtain ⟨fd__law_next, D__law_next⟩ := c.def_ 45 (d := dd ("_law_next", none) "_law_next" "_law_next" (top 38)) rfl
  have b__law_next : Binds K fd__law_next ["_law_h", "_law_many"] [] := FunD.bindsN (ps := ["_law_h", "_law_many"]) D__law_next fun _ _ _ _ _ _ us hl => match us, hl with | [_, _], _ => rfl
  have g__law_next : mg "_law_next" = some (.ref (He.ga K "_law_next")) := He.glo_ok X G (c.fact 12 (f := .glo "_law_next") rfl)
  have C__law_next : Cal K mg "_law_next" (He.ga K "_law_next") fd__law_next ["_law_h", "_law_many"] := ⟨g__law_next, D__law_next.kp, b__law_next⟩
  obtain ⟨fd__law_alike, D__law_alike⟩ := c.def_ 46 (d := dd ("_law_alike", none) "_law_alike" "_law_alike" (top 39)) rfl
  have b__law_alike : Binds K fd__law_alike ["_law_found", "_law_due"] [] := FunD.bindsN (ps := ["_law_found", "_law_due"]) D__law_alike fun _ _ _ _ _ _ us hl => match us, hl with | [_, _], _ => rfl
  have g__law_alike : mg "_law_alike" = some (.ref (He.ga K "_law_alike")) := He.glo_ok X G (c.fact 13 (f := .glo "_law_alike") rfl)
  have C__law_alike : Cal K mg "_law_alike" (He.ga K "_law_alike") fd__law_alike ["_law_found", "_law_due"] := ⟨g__law_alike, D__law_alike.kp, b__law_alike⟩
  obtain ⟨fd__law_world, D__law_world⟩ := c.def_ 47 (d := dd ("_law_world", none) "_law_world" "_law_world" (top 40)) rfl
  have b__law_world : Binds K fd__law_world ["_law_h", "_law_most", "_law_cap"] [] := FunD.bindsN (ps := ["_law_h", "_law_most", "_law_cap"]) D__law_world fun _ _ _ _ _ _ us hl => match us, hl with | [_, _, _], _ => rfl
  have g__law_world : mg "_law_world" = some (.ref (He.ga K "_law_world")) := He.glo_ok X G (c.fact 14 (f := .glo "_law_world") rfl)
  have C__law_world : Cal K mg "_law_world" (He.ga K "_law_world") fd__law_world ["_law_h", "_law_most", "_law_cap"] := ⟨g__law_world, D__law_world.kp, b__law_world⟩
  obtain ⟨fd__law_rule, D__law_rule⟩ := c.def_ 48 (d := dd ("_law_rule", none) "_law_rule" "_law_rule" (top 41)) rfl
  have b__law_rule : Binds K fd__law_rule ["_law_h"] [] := FunD.bindsN (ps := ["_law_h"]) D__law_rule fun _ _ _ _ _ _ us hl => match us, hl with | [_], _ => rfl
  have g__law_rule : mg "_law_rule" = some (.ref (He.ga K "_law_rule")) := He.glo_ok X G (c.fact 15 (f := .glo "_law_rule") rfl)
  have C__law_rule : Cal K mg "_law_rule" (He.ga K "_law_rule") fd__law_rule ["_law_h"] := ⟨g__law_rule, D__law_rule.kp, b__law_rule⟩
  obtain ⟨fd__law_is_merged, D__law_is_merged⟩ := c.def_ 49 (d := dd ("_law_is_merged", none) "_law_is_merged" "_law_is_merged" (top 42)) rfl
  have b__law_is_merged : Binds K fd__law_is_merged ["_law_store", "_law_machines", "_law_rule_here", "_law_more"] [] := FunD.bindsN (ps := ["_law_store", "_law_machines", "_law_rule_here", "_law_more"]) D__law_is_merged fun _ _ _ _ _ _ us hl => match us, hl with | [_, _, _, _], _ => rfl
  have g__law_is_merged : mg "_law_is_merged" = some (.ref (He.ga K "_law_is_merged")) := He.glo_ok X G (c.fact 16 (f := .glo "_law_is_merged") rfl)
  have C__law_is_merged : Cal K mg "_law_is_merged" (He.ga K "_law_is_merged") fd__law_is_merged ["_law_store", "_law_machines", "_law_rule_here", "_law_more"] := ⟨g__law_is_merged, D__law_is_merged.kp, b__law_is_merged⟩
  obtain ⟨fd_law, D_law⟩ := c.def_ 50 (d := dd ("law", none) "law" "law" (top 43)) rfl
  have b_law : Binds K fd_law ["_law_script"] [] := FunD.bindsN (ps := ["_law_script"]) D_law fun _ _ _ _ _ _ us hl => match us, hl with | [_], _ => rfl
  have g_law : mg "law" = some (.ref (He.ga K "law")) := He.glo_ok X G (c.fact 17 (f := .glo "law") rfl)
  have C_law : Cal K mg "law" (He.ga K "law") fd_law ["_law_script"] := ⟨g_law, D_law.kp, b_law⟩
  obtain ⟨fd_Run_enter, D_Run_enter⟩ := c.def_ 51 (d := dd ("Run", some "enter") "enter" "Shop.enter" (inClass (top 30) 1)) rfl
  have b_Run_enter : Binds K fd_Run_enter ["self", "steps"] [] := FunD.bindsN (ps := ["self", "steps"]) D_Run_enter fun _ _ _ _ _ _ us hl => match us, hl with | [_, _], _ => rfl
  have M_Run_enter : Met K (He.ga K "Run") "enter" (He.ma K (He.ga K "Run") "enter") fd_Run_enter ["self", "steps"] := ⟨He.cls_ok (c.fact 53 (f := .cls "Run") rfl), He.meth_ok (c.fact 88 (f := .meth "Run" "enter") rfl), b_Run_enter⟩
  obtain ⟨fd_Run_open_beat, D_Run_open_beat⟩ := c.def_ 52 (d := dd ("Run", some "open_beat") "open_beat" "Shop.open_beat" (inClass (top 30) 2)) rfl
  have b_Run_open_beat : Binds K fd_Run_open_beat ["self"] [] := FunD.bindsN (ps := ["self"]) D_Run_open_beat fun _ _ _ _ _ _ us hl => match us, hl with | [_], _ => rfl
  have M_Run_open_beat : Met K (He.ga K "Run") "open_beat" (He.ma K (He.ga K "Run") "open_beat") fd_Run_open_beat ["self"] := ⟨He.cls_ok (c.fact 53 (f := .cls "Run") rfl), He.meth_ok (c.fact 89 (f := .meth "Run" "open_beat") rfl), b_Run_open_beat⟩
  obtain ⟨fd_Run_end_steps, D_Run_end_steps⟩ := c.def_ 53 (d := dd ("Run", some "end_steps") "end_steps" "Shop.end_steps" (inClass (top 30) 3)) rfl
  have b_Run_end_steps : Binds K fd_Run_end_steps ["self"] [] := FunD.bindsN (ps := ["self"]) D_Run_end_steps fun _ _ _ _ _ _ us hl => match us, hl with | [_], _ => rfl
  have M_Run_end_steps : Met K (He.ga K "Run") "end_steps" (He.ma K (He.ga K "Run") "end_steps") fd_Run_end_steps ["self"] := ⟨He.cls_ok (c.fact 53 (f := .cls "Run") rfl), He.meth_ok (c.fact 90 (f := .meth "Run" "end_steps") rfl), b_Run_end_steps⟩
  obtain ⟨fd_Run_put_in, D_Run_put_in⟩ := c.def_ 54 (d := dd ("Run", some "put_in") "put_in" "Shop.put_in" (inClass (top 30) 4)) rfl
  have b_Run_put_in : Binds K fd_Run_put_in ["self", "many"] [] := FunD.bindsN (ps := ["self", "many"]) D_Run_put_in fun _ _ _ _ _ _ us hl => match us, hl with | [_, _], _ => rfl
  have M_Run_put_in : Met K (He.ga K "Run") "put_in" (He.ma K (He.ga K "Run") "put_in") fd_Run_put_in ["self", "many"] := ⟨He.cls_ok (c.fact 53 (f := .cls "Run") rfl), He.meth_ok (c.fact 91 (f := .meth "Run" "put_in") rfl), b_Run_put_in⟩
  obtain ⟨fd_Run_begin, D_Run_begin⟩ := c.def_ 55 (d := dd ("Run", some "begin") "begin" "Shop.begin" (inClass (top 30) 5)) rfl
  have b_Run_begin : Binds K fd_Run_begin ["self", "machine"] [] := FunD.bindsN (ps := ["self", "machine"]) D_Run_begin fun _ _ _ _ _ _ us hl => match us, hl with | [_, _], _ => rfl
  have M_Run_begin : Met K (He.ga K "Run") "begin" (He.ma K (He.ga K "Run") "begin") fd_Run_begin ["self", "machine"] := ⟨He.cls_ok (c.fact 53 (f := .cls "Run") rfl), He.meth_ok (c.fact 92 (f := .meth "Run" "begin") rfl), b_Run_begin⟩
  obtain ⟨fd_Run_close_beat, D_Run_close_beat⟩ := c.def_ 56 (d := dd ("Run", some "close_beat") "close_beat" "Shop.close_beat" (inClass (top 30) 6)) rfl
  have b_Run_close_beat : Binds K fd_Run_close_beat ["self"] [] := FunD.bindsN (ps := ["self"]) D_Run_close_beat fun _ _ _ _ _ _ us hl => match us, hl with | [_], _ => rfl
  have M_Run_close_beat : Met K (He.ga K "Run") "close_beat" (He.ma K (He.ga K "Run") "close_beat") fd_Run_close_beat ["self"] := ⟨He.cls_ok (c.fact 53 (f := .cls "Run") rfl), He.meth_ok (c.fact 93 (f := .meth "Run" "close_beat") rfl), b_Run_close_beat⟩
  obtain ⟨fd_Run_waiting, D_Run_waiting⟩ := c.def_ 57 (d := dd ("Run", some "waiting") "waiting" "Shop.waiting" (inClass (top 30) 7)) rfl
  have b_Run_waiting : Binds K fd_Run_waiting ["self"] [] := FunD.bindsN (ps := ["self"]) D_Run_waiting fun _ _ _ _ _ _ us hl => match us, hl with | [_], _ => rfl
  have M_Run_waiting : Met K (He.ga K "Run") "waiting" (He.ma K (He.ga K "Run") "waiting") fd_Run_waiting ["self"] := ⟨He.cls_ok (c.fact 53 (f := .cls "Run") rfl), He.meth_ok (c.fact 94 (f := .meth "Run" "waiting") rfl), b_Run_waiting⟩
  have B : Blt mg := ⟨He.free_ok X G (c.fact 24 (f := .free "len") rfl), He.free_ok X G (c.fact 25 (f := .free "list") rfl), He.free_ok X G (c.fact 26 (f := .free "tuple") rfl), He.free_ok X G (c.fact 27 (f := .free "max") rfl), He.free_ok X G (c.fact 28 (f := .free "min") rfl), He.free_ok X G (c.fact 29 (f := .free "range") rfl), He.free_ok X G (c.fact 30 (f := .free "sum") rfl), He.free_ok X G (c.fact 31 (f := .free "sorted") rfl), He.free_ok X G (c.fact 32 (f := .free "enumerate") rfl), He.free_ok X G (c.fact 33 (f := .free "zip") rfl), He.free_ok X G (c.fact 34 (f := .free "isinstance") rfl), He.free_ok X G (c.fact 35 (f := .free "int") rfl), He.free_ok X G (c.fact 36 (f := .free "str") rfl), He.free_ok X G (c.fact 37 (f := .free "bool") rfl), He.free_ok X G (c.fact 38 (f := .free "ValueError") rfl)⟩
  have Bany : mg "any" = none := He.free_ok X G (c.fact 39 (f := .free "any") rfl)
  have Ball : mg "all" = none := He.free_ok X G (c.fact 41 (f := .free "all") rfl)
  have Bset : mg "set" = none := He.free_ok X G (c.fact 42 (f := .free "set") rfl)
  have Bdivmod : mg "divmod" = none := He.free_ok X G (c.fact 40 (f := .free "divmod") rfl)
  obtain ⟨xR, y0⟩ := He.ba x
  obtain ⟨xM, y1⟩ := He.ba y0
  obtain ⟨xN, y2⟩ := He.ba y1
  obtain ⟨xS, y3⟩ := He.ba y2
  have xB := y3
  have HM : ClsF K (He.ga K "Machine") mkeys := ⟨He.cls_ok (c.fact 51 (f := .cls "Machine") rfl), fun f hf => He.noat_ok (List.all_eq_true.mp xM f hf)⟩
  have HR : ClsF K (He.ga K "Run") rkeys := ⟨He.cls_ok (c.fact 53 (f := .cls "Run") rfl), fun f hf => He.noat_ok (List.all_eq_true.mp xN f hf)⟩
  have HB : ClsF K (He.ga K "Breath") bkeys := ⟨He.cls_ok (c.fact 54 (f := .cls "Breath") rfl), fun f hf => He.noat_ok (List.all_eq_true.mp xB f hf)⟩
  obtain ⟨t_MOST_CAP, g_MOST_CAP⟩ := He.int_ok X G (c.fact 43 (f := .int "MOST_CAP" 99) rfl)
  obtain ⟨t_MOST_REFILL, g_MOST_REFILL⟩ := He.int_ok X G (c.fact 44 (f := .int "MOST_REFILL" 9) rfl)
  obtain ⟨t_MOST_MACHINES, g_MOST_MACHINES⟩ := He.int_ok X G (c.fact 45 (f := .int "MOST_MACHINES" 5) rfl)
  obtain ⟨t_MOST_STEPS, g_MOST_STEPS⟩ := He.int_ok X G (c.fact 46 (f := .int "MOST_STEPS" 6) rfl)
  obtain ⟨t_MOST_LONG, g_MOST_LONG⟩ := He.int_ok X G (c.fact 47 (f := .int "MOST_LONG" 9) rfl)
  obtain ⟨t_DRAW, g_DRAW⟩ := He.int_ok X G (c.fact 48 (f := .int "DRAW" 0) rfl)
  obtain ⟨t_LONG, g_LONG⟩ := He.int_ok X G (c.fact 49 (f := .int "LONG" 1) rfl)
  obtain ⟨t_BACK, g_BACK⟩ := He.int_ok X G (c.fact 50 (f := .int "BACK" 2) rfl)
  have CF_Shop___init__ : ClsFn K (He.ga K "Shop") "__init__" (He.ma K (He.ga K "Shop") "__init__") fd_Shop___init__ ["self", "world", "anew"] := clsFn_ok xS D_Shop___init__.kp b_Shop___init__
  have MK_Machine := He.mkr_ok (c.fact 55 (f := .mkr "Machine") rfl)
  have MKg_Machine : mg "Machine" = some (.ref (He.ga K "Machine")) := He.glo_ok X G (c.fact 18 (f := .glo "Machine") rfl)
  have MK_Shop := He.mkr_ok (c.fact 56 (f := .mkr "Shop") rfl)
  have MKg_Shop : mg "Shop" = some (.ref (He.ga K "Shop")) := He.glo_ok X G (c.fact 19 (f := .glo "Shop") rfl)
  have MK_Run := He.mkr_ok (c.fact 57 (f := .mkr "Run") rfl)
  have MKg_Run : mg "Run" = some (.ref (He.ga K "Run")) := He.glo_ok X G (c.fact 20 (f := .glo "Run") rfl)
  have MK_Breath := He.mkr_ok (c.fact 58 (f := .mkr "Breath") rfl)
  have MKg_Breath : mg "Breath" = some (.ref (He.ga K "Breath")) := He.glo_ok X G (c.fact 21 (f := .glo "Breath") rfl)
  have gRIGHTS : mg "RIGHTS" = some (.ref (He.ga K "RIGHTS")) := He.glo_ok X G (c.fact 22 (f := .glo "RIGHTS") rfl)
  have gBreathError : mg "BreathError" = some (.ref (He.ga K "BreathError")) := He.glo_ok X G (c.fact 23 (f := .glo "BreathError") rfl)
  have tRIGHTS : ∀ H, SqT K H (He.ga K "RIGHTS") [.str "rank", .str "turns", .str "wait", .str "least"] := fun H => He.tupB_ok xR H
  have e := hfa.symm.trans g_law
  cases e
  refine ⟨fd_law, fun s v => FunD.bindsA (ps := ["_law_script"]) D_law (fun _ _ _ _ _ _ us hl => match us, hl with | [_], _ => rfl) s [v] rfl, fun base _ _ => ?_⟩
  have G_next := ok_next (P := P) (w := w) (K := K) (mg := mg) (base := base) (funOf D__law_next) B
  have G_mix := ok_mix (P := P) (w := w) (K := K) (mg := mg) (base := base) (funOf D__law_mix) B
  have G_rule := ok_rule (P := P) (w := w) (K := K) (mg := mg) (base := base) (funOf D__law_rule) B C__law_next G_next
  have G_world := ok_world (P := P) (w := w) (K := K) (mg := mg) (base := base) (funOf D__law_world) B C__law_next G_next
  have G_alike := ok_alike (P := P) (w := w) (K := K) (mg := mg) (base := base) (funOf D__law_alike) B C__law_alike 3
  have G_m_is_done := ok_Machine_is_done (P := P) (w := w) (K := K) (mg := mg) (base := base) (funOf D_Machine_is_done) B HM
  have G_m_is_busy := ok_Machine_is_busy (P := P) (w := w) (K := K) (mg := mg) (base := base) (funOf D_Machine_is_busy) B HM
  have G_m_is_waiting := ok_Machine_is_waiting (P := P) (w := w) (K := K) (mg := mg) (base := base) (funOf D_Machine_is_waiting) B HM M_Machine_is_busy G_m_is_busy M_Machine_is_done G_m_is_done
  have G_m_need := ok_Machine_need (P := P) (w := w) (K := K) (mg := mg) (base := base) (funOf D_Machine_need) B HM g_DRAW
  have G_m_begin_step := ok_Machine_begin_step (P := P) (w := w) (K := K) (mg := mg) (base := base) (funOf D_Machine_begin_step) B HM g_LONG
  have G_m_end_step := ok_Machine_end_step (P := P) (w := w) (K := K) (mg := mg) (base := base) (funOf D_Machine_end_step) B HM g_BACK
  have G_m_begin_anew := ok_Machine_begin_anew (P := P) (w := w) (K := K) (mg := mg) (base := base) (funOf D_Machine_begin_anew) B HM
  have G_m_init := ok_Machine___init__ (P := P) (w := w) (K := K) (mg := mg) (base := base) (funOf D_Machine___init__) B HM
  have G_r_put_in := ok_Shop_put_in (P := P) (w := w) (K := K) (mg := mg) (base := base) (sh := false) (funOf D_Run_put_in) B HR
  have G_r_waiting := ok_Shop_waiting (P := P) (w := w) (K := K) (mg := mg) (base := base) (sh := false) (funOf D_Run_waiting) B HR M_Machine_is_waiting G_m_is_waiting
  have G_r_end_steps := ok_Shop_end_steps (P := P) (w := w) (K := K) (mg := mg) (base := base) (sh := false) (funOf D_Run_end_steps) B HR HM M_Run_put_in G_r_put_in M_Machine_end_step G_m_end_step M_Machine_is_done G_m_is_done M_Machine_begin_anew G_m_begin_anew
  have G_r_begin := ok_Shop_begin (P := P) (w := w) (K := K) (mg := mg) (base := base) (sh := false) (funOf D_Run_begin) B HR HM M_Machine_need G_m_need M_Machine_begin_step G_m_begin_step
  have G_r_close_beat := ok_Shop_close_beat (P := P) (w := w) (K := K) (mg := mg) (base := base) (sh := false) (funOf D_Run_close_beat) B HR HM
  have G_r_open_beat := ok_Shop_open_beat (P := P) (w := w) (K := K) (mg := mg) (base := base) (sh := false) (funOf D_Run_open_beat) B HR HM M_Run_end_steps G_r_end_steps M_Run_put_in G_r_put_in
  have G_r_enter1 := ok_Shop_enter (P := P) (w := w) (K := K) (mg := mg) (base := base) (sh := true) (funOf D_Run_enter) B HR HM MK_Machine G_m_init MKg_Machine b_Machine___init__
  have G_Shop___init__ := ok_Shop___init__ (P := P) (w := w) (K := K) (mg := mg) (base := base) (C := He.ga K "Run") (funOf D_Shop___init__) B HR HM M_Run_enter G_r_enter1
  have G_behind := ok_behind_first (P := P) (w := w) (K := K) (mg := mg) (base := base) (funOf D_behind_first) B
  have G_least := ok_least_first (P := P) (w := w) (K := K) (mg := mg) (base := base) (funOf D_least_first) B
  have G_in_turn := ok_in_turn (P := P) (w := w) (K := K) (mg := mg) (base := base) (funOf D_in_turn) B HM C_least_first G_least C_behind_first G_behind M_Machine_need G_m_need
  have G_r_begin_steps := ok_Run_begin_steps (P := P) (w := w) (K := K) (mg := mg) (base := base) (funOf D_Run_begin_steps) B HR HM M_Run_waiting G_r_waiting C_in_turn G_in_turn M_Machine_need G_m_need M_Run_begin G_r_begin
  have G_r_do_beat := ok_Run_do_beat (P := P) (w := w) (K := K) (mg := mg) (base := base) (funOf D_Run_do_beat) B HR HM M_Run_open_beat G_r_open_beat M_Run_begin_steps G_r_begin_steps M_Run_close_beat G_r_close_beat
  have G_r_init := ok_Run___init__ (P := P) (w := w) (K := K) (mg := mg) (base := base) (funOf D_Run___init__) B HR HM MKg_Shop CF_Shop___init__ G_Shop___init__
  have G_is_step := ok_is_step (P := P) (w := w) (K := K) (mg := mg) (base := base) (funOf D_is_step) B g_MOST_LONG
  have G_check_store := ok_check_store (P := P) (w := w) (K := K) (mg := mg) (base := base) (funOf D_check_store) B g_MOST_CAP g_MOST_REFILL
  have G_check_steps := ok_check_steps (P := P) (w := w) (K := K) (mg := mg) (base := base) (funOf D_check_steps) B g_MOST_STEPS C_is_step G_is_step
  have G_check_rule := ok_check_rule (P := P) (w := w) (K := K) (mg := mg) (base := base) (funOf D_check_rule) B gRIGHTS tRIGHTS
  have G_check_count := ok_check_count (P := P) (w := w) (K := K) (mg := mg) (base := base) (funOf D_check_count) B
  have G_m_left := ok_Machine_left (P := P) (w := w) (K := K) (mg := mg) (base := base) (funOf D_Machine_left) B HM M_Machine_is_busy G_m_is_busy
  have G_r_enter := ok_Shop_enter (P := P) (w := w) (K := K) (mg := mg) (base := base) (sh := false) (funOf D_Run_enter) B HR HM MK_Machine G_m_init MKg_Machine b_Machine___init__
  have G_b_init := ok_Breath___init__ (P := P) (w := w) (K := K) (mg := mg) (base := base) (funOf D_Breath___init__) B HB HR C_check_store G_check_store C_check_rule G_check_rule MK_Run G_r_init MKg_Run b_Run___init__
  have G_b_enter := ok_Breath_enter (P := P) (w := w) (K := K) (mg := mg) (base := base) (funOf D_Breath_enter) B HB HR g_MOST_MACHINES C_check_steps G_check_steps C_check_count G_check_count M_Run_enter G_r_enter
  have G_b_tick := ok_Breath_tick (P := P) (w := w) (K := K) (mg := mg) (base := base) (funOf D_Breath_tick) B HB HR M_Run_do_beat G_r_do_beat
  have G_b_stock := ok_Breath_stock (P := P) (w := w) (K := K) (mg := mg) (base := base) (funOf D_Breath_stock) B HB HR
  have G_b_deeds := ok_Breath_deeds (P := P) (w := w) (K := K) (mg := mg) (base := base) (funOf D_Breath_deeds) B HB HR
  have G_b_standing := ok_Breath_standing (P := P) (w := w) (K := K) (mg := mg) (base := base) (funOf D_Breath_standing) B HB HR HM M_Machine_left G_m_left
  have G_b_that := ok_Breath_machine_that (P := P) (w := w) (K := K) (mg := mg) (base := base) (funOf D_Breath_machine_that) B HB HR HM
  have G_b_pause := ok_Breath_pause (P := P) (w := w) (K := K) (mg := mg) (base := base) (funOf D_Breath_pause) B HB HR HM M_Breath_machine_that G_b_that
  have G_b_go := ok_Breath_go (P := P) (w := w) (K := K) (mg := mg) (base := base) (funOf D_Breath_go) B HB HR HM M_Breath_machine_that G_b_that
  have G_b_lend := ok_Breath_lend (P := P) (w := w) (K := K) (mg := mg) (base := base) (M := He.ga K "Machine") (funOf D_Breath_lend) B HB HR C_check_count G_check_count
  have G_b_back := ok_Breath_back (P := P) (w := w) (K := K) (mg := mg) (base := base) (M := He.ga K "Machine") (funOf D_Breath_back) B HB HR C_check_count G_check_count M_Run_put_in G_r_put_in
  have G_b_merge := ok_Breath_merge (P := P) (w := w) (K := K) (mg := mg) (base := base) (M := He.ga K "Machine") (funOf D_Breath_merge) B HB HR C_check_count G_check_count C_check_store G_check_store g_MOST_CAP g_MOST_REFILL
  have G_do_deed := ok_do_deed (P := P) (w := w) (K := K) (mg := mg) (base := base) (funOf D_do_deed) B M_Breath_enter G_b_enter M_Breath_tick G_b_tick M_Breath_pause G_b_pause M_Breath_go G_b_go M_Breath_lend G_b_lend M_Breath_back G_b_back M_Breath_merge G_b_merge
  have G_again := ok_again (P := P) (w := w) (K := K) (mg := mg) (base := base) (funOf D_again) B C_do_deed G_do_deed MK_Breath G_b_init MKg_Breath b_Breath___init__ gBreathError
  have G_merged := ok__law_is_merged (P := P) (w := w) (K := K) (mg := mg) (base := base) (funOf D__law_is_merged) B C__law_alike G_alike C_again G_again M_Breath_merge G_b_merge M_Breath_enter G_b_enter M_Breath_tick G_b_tick M_Breath_stock G_b_stock M_Breath_deeds G_b_deeds MK_Breath G_b_init MKg_Breath b_Breath___init__
  exact ok_law (P := P) (w := w) (K := K) (mg := mg) (base := base) (funOf D_law) B C__law_mix G_mix C__law_world G_world C__law_next G_next C__law_alike G_alike C__law_is_merged G_merged M_Breath_enter G_b_enter M_Breath_tick G_b_tick M_Breath_pause G_b_pause M_Breath_go G_b_go M_Breath_lend G_b_lend M_Breath_back G_b_back M_Breath_stock G_b_stock M_Breath_standing G_b_standing MK_Breath G_b_init MKg_Breath b_Breath___init__
end Obr
open PySem PySem.W PySem.Calls PyProof.Rows
theorem PySem.Challenge.cw_onebreath_k20_whole_loans_pauses_and_mer_holds : PySem.Challenge.rw_onebreath_k20_whole_loans_pauses_and_mer.Holds := by
  w_on; o_law
  refine HandSHeadRun.head_any (r := OpenLaw.row PySem.Challenge.rw_onebreath_k20_whole_loans_pauses_and_mer) (q := view (OpenLaw.row PySem.Challenge.rw_onebreath_k20_whole_loans_pauses_and_mer).prog [43]) (H := Obr.hk) (ob := Obr.ob) (M := 6000) (loose := Obr.loose) (d := HandSHeadRun.topDef (OpenLaw.row PySem.Challenge.rw_onebreath_k20_whole_loans_pauses_and_mer).prog 43) (kwd := []) Obr.ob_eq
    (by kernel_rfl) (fun s => by kernel_rfl) Obr.run (by kernel_rfl) (by kernel_rfl) (by kernel_rfl) (by rfl) (by first | assumption | decide +kernel) (by decide +kernel) ⟨rfl, rfl, rfl, rfl, rfl, by decide +kernel⟩ ?hw ?hc
  case hw => w_witness2
  case hc =>
    refine L2.walk_ofE (l := PySem.Challenge.rw_onebreath_k20_whole_loans_pauses_and_mer) (n := 63) (k := 11) (x := "_law_script") (CX := L2.CX0) rfl (by decide) (by kernel_rfl) ⟨rfl, by decide, by decide⟩ ?F (fun _ _ _ _ z => z)
    intro w mg fa h Y G hmg0
    obtain ⟨K, KX, c, x⟩ := Y
    have hmg : mg ("law" : PySem.Str) = some (.ref fa) := by
      have e : (HandSHeadRun.topDef (OpenLaw.row PySem.Challenge.rw_onebreath_k20_whole_loans_pauses_and_mer).prog 43).name = ("law" : PySem.Str) := by kernel_rfl
      rw [← e]
      exact hmg0
    obtain ⟨fd, hb, hF⟩ := Obr.facts (P := (PySem.Challenge.rw_onebreath_k20_whole_loans_pauses_and_mer).prog) (w := w) KX G hmg c x
    exact ⟨K, fd, Obr.LS (Obr.aLaw K), KX, hb, fun H a ns hl _ hS => ⟨fun _ F H => F = H, H, fun v _ => v = .bl true, Obr.hid_eq, rfl, ⟨a, ns, rfl, hS, hl, fun _ => rfl⟩, fun v F' H' e r => r⟩, hF⟩
