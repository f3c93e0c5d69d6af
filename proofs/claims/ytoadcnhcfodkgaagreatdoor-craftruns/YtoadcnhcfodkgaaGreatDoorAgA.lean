/-
  Pairs of functions, as functions of what they are handed, for the seat YtoadcnhcfodkgaaGreatDoor. No Go text in sight.
-/
import Derived.Test.YtoadcnhcfodkgaaGreatDoorNxL
import Derived.Test.YtoadcnhcfodkgaaGreatDoorDsI
namespace Go.Proofs.YtoadcnhcfodkgaaGreatDoor.Nx
open Go.RowKit Go.Proofs.YtoadcnhcfodkgaaGreatDoor

section
variable {P : Program} {a b : Nat} {sa : List Value} {sr : Value} {kind : Nat}
/-- What both sides answer: the same where the flow stays good. -/
theorem ag_of (h : ∃ g, PrOk P (fun d => bif d then b else a) sa sr kind g) (hk : kind ≠ 8) {A R : Type} (d : Dl A) (c : Dc R) (hd : ∀ x, All2 (G2 []) sa (d.enc x)) (hc : ∀ v, G2 [] sr v → ∃ y, c.enc y = v) :
    ∃ f g : Bool → A → R × Bool, FlowOk P a d f c ∧ FlowOk P b d g c ∧ Ag f g := by
  obtain ⟨g, h1, h2, _⟩ := h
  have key : ∀ x : Bool × Bool × A, ∃ y : R, c.enc y = (g x.1 x.2.1 (d.enc x.2.2)).1 := fun x => hc _ (h1 x.1 x.2.1 (d.enc x.2.2) (hd x.2.2)).2.2.1
  have fx : ∀ (e bad : Bool) (x : A) (y : R), c.enc y = (g e bad (d.enc x)).1 → ∀ k w, GW w → 1 < k → Fl k bad w → Calls P (bif e then b else a) (ptr k :: d.enc x).toArray w fun e' w' => e' = .returned (c.enc y) ∧ Fl k (g e bad (d.enc x)).2 w' ∧ Kept k w w' := by
    intro e bad x y hy k w hg h1k hf
    rw [hy]
    exact ((h1 e bad (d.enc x) (hd x)).1.1 hk).2.2 k w hg h1k hf
  refine ⟨fun bad x => (Classical.choose (key (false, bad, x)), (g false bad (d.enc x)).2), fun bad x => (if bad = false ∧ (g false false (d.enc x)).2 = false then Classical.choose (key (false, false, x)) else Classical.choose (key (true, bad, x)), (g true bad (d.enc x)).2), ?_, ?_, ?_⟩
  · intro k bad x w hg h1k hf
    exact fx false bad x _ (Classical.choose_spec (key (false, bad, x))) k w hg h1k hf
  · intro k bad x w hg h1k hf
    refine fx true bad x _ ?_ k w hg h1k hf
    by_cases e : bad = false ∧ (g false false (d.enc x)).2 = false
    · have s := Classical.choose_spec (key (false, false, x))
      dsimp only at s ⊢
      rw [if_pos e, s, e.1]
      exact (h2 (d.enc x) (hd x)).2 e.2
    · have s := Classical.choose_spec (key (true, bad, x))
      dsimp only at s ⊢
      rw [if_neg e, s]
  · refine ⟨fun x => ⟨(h1 false true _ (hd x)).2.1 rfl, (h1 true true _ (hd x)).2.1 rfl⟩, fun x => (h2 _ (hd x)).1.symm, fun x e => ?_⟩
    show (if false = false ∧ (g false false (d.enc x)).2 = false then _ else _) = _
    rw [if_pos ⟨rfl, e⟩]
/-- Where a bad flow answers zeros, both are the same. -/
theorem same_of (h : ∃ g, PrOk P (fun d => bif d then b else a) sa sr 5 g) {A R : Type} (d : Dl A) (c : Dc R) (hd : ∀ x, All2 (G2 []) sa (d.enc x)) (hc : ∀ v, G2 [] sr v → ∃ y, c.enc y = v) :
    ∃ f : Bool → A → R × Bool, FlowOk P a d f c ∧ FlowOk P b d f c := by
  obtain ⟨g, h1, h2, _⟩ := h
  have key : ∀ x : Bool × A, ∃ y : R, c.enc y = (g false x.1 (d.enc x.2)).1 := fun x => hc _ (h1 false x.1 (d.enc x.2) (hd x.2)).2.2.1
  have eq : ∀ bad x, (g true bad (d.enc x)).1 = (g false bad (d.enc x)).1 ∧ (g true bad (d.enc x)).2 = (g false bad (d.enc x)).2 := by
    intro bad x
    have z : ∀ e, (g e bad (d.enc x)).2 = true → (g e bad (d.enc x)).1 = zeroV sr := fun e => (h1 e bad _ (hd x)).2.2.2.2.2.1 rfl
    cases bad
    · have f := (h2 _ (hd x)).1
      refine ⟨?_, f.symm⟩
      cases e : (g false false (d.enc x)).2
      · exact ((h2 _ (hd x)).2 e).symm
      · rw [z false e, z true (f.symm.trans e)]
    · have e1 := (h1 true true _ (hd x)).2.1 rfl
      have e2 := (h1 false true _ (hd x)).2.1 rfl
      exact ⟨by rw [z true e1, z false e2], by rw [e1, e2]⟩
  refine ⟨fun bad x => (Classical.choose (key (bad, x)), (g false bad (d.enc x)).2), ?_, ?_⟩
  · intro k bad x w hg h1k hf
    have s := Classical.choose_spec (key (bad, x))
    have := ((h1 false bad (d.enc x) (hd x)).1.1 (by decide)).2.2 k w hg h1k hf
    dsimp only at s ⊢
    rw [s]
    exact this
  · intro k bad x w hg h1k hf
    have s := Classical.choose_spec (key (bad, x))
    have := ((h1 true bad (d.enc x) (hd x)).1.1 (by decide)).2.2 k w hg h1k hf
    rw [(eq bad x).1, (eq bad x).2] at this
    dsimp only at s ⊢
    rw [s]
    exact this
end
end Go.Proofs.YtoadcnhcfodkgaaGreatDoor.Nx
