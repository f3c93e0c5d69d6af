/-
  Contracts with a premise, for the seat YtoadcnhcfodkgaaGreatDoor. No Go text in sight.
-/
import Derived.Test.YtoadcnhcfodkgaaGreatDoorSxI
namespace Go.Proofs.YtoadcnhcfodkgaaGreatDoor
open Go.RowKit

def fpCt (P : Program) (fn : Nat) {A R : Type} (d : Dl A) (S : Bool → A → Prop) (g : Bool → A → R × Bool) (c : Dc R) (go : ∀ (args : Array Value) (w : World), (callFunc fn args).run P w = .ok (.enter fn args) w)
    (h : ∀ b bad x w, S bad x → GW w → 1 < b → Fl b bad w → Calls P fn (ptr b :: d.enc x).toArray w fun e w' => e = .returned (c.enc (g bad x).1) ∧ Fl b (g bad x).2 w' ∧ Kept b w w') : Ct P where
  fn := fn
  sp := fun args m K => match args with
    | .pointer (some ⟨k, 0, none⟩) :: rest => (match d.dec rest, m[k]? with
      | some x, some [.bool bad] => S bad x ∧ K (c.enc (g bad x).1) (m.set k [.bool (g bad x).2])
      | _, _ => False)
    | _ => False
  go := go
  mono := fun hK hs => by
    split at hs
    · split at hs
      · exact ⟨hs.1, hK _ _ hs.2⟩
      · exact hs
    · exact hs
  keep := fun {args m K} hs => by
    split at hs
    · rename_i k rest
      split at hs
      · refine ⟨hs.1, hs.2, List.length_set .., fun k' hk' => ?_⟩
        have e : k ≠ k' := by rintro rfl; exact hk' (by simp [ptrs])
        rw [List.getElem?_set_ne e]
      · exact hs
    · exact hs
  ok := fun {bs w0 bl m w args args' K} R hlen hv hs => by
    split at hs
    · rename_i k rest
      split at hs
      · rename_i x bad hd hmk
        obtain ⟨hS, hs⟩ := hs
        have h0 := hv 0
        obtain ⟨B, hB, he⟩ := h0
        have hrest := d.law _ _ hd
        have hargs : args' = (ptr B :: d.enc x).toArray := by
          refine Array.ext (by rw [hlen, hrest]; simp) (fun i h1 h2 => ?_)
          cases i with
          | zero =>
            simp only [Array.getD_eq_getD_getElem?, Array.getElem?_eq_getElem h1] at he
            simpa [ptr] using he
          | succ i =>
            have hi : i < rest.length := by simp at hlen; omega
            have := hv (i + 1)
            simp only [List.getD_eq_getElem?_getD, Array.getD_eq_getD_getElem?, List.getElem?_cons_succ] at this
            rw [List.getElem?_eq_getElem hi, Array.getElem?_eq_getElem h1] at this
            have e := this.plain (d.np x _ (by rw [← hrest]; exact List.getElem_mem hi))
            simp only [Option.getD_some] at e
            rw [e]
            simp [hrest]
        obtain ⟨l2, e2, A⟩ := R.arr k B hB
        have e2 : m[k]? = some l2 := e2
        rw [hmk] at e2
        cases e2
        rw [hargs]
        refine Calls.mono (h B bad x w hS R.gwAt (R.gt hB hmk (List.cons_ne_nil _ _)) (fl_arr A)) ?_
        rintro e w' ⟨rfl, F, Kp⟩
        exact ⟨_, _, _, rfl, .same (c.np _), hs, R.flow hB hmk F Kp⟩
      · exact hs.elim
    · exact hs.elim
def ppCt (P : Program) (fn : Nat) {A R : Type} (d : Dl A) (S : A → Prop) (g : A → R) (c : Dc R) (go : ∀ (args : Array Value) (w : World), (callFunc fn args).run P w = .ok (.enter fn args) w)
    (h : ∀ x w, S x → GW w → Calls P fn (d.enc x).toArray w fun e w' => e = .returned (c.enc (g x)) ∧ Below w.heap.size w w') : Ct P where
  fn := fn
  sp := fun args m K => match d.dec args with
    | some x => S x ∧ K (c.enc (g x)) m
    | none => False
  go := go
  mono := fun hK hs => by
    split at hs
    · exact ⟨hs.1, hK _ _ hs.2⟩
    · exact hs
  keep := fun {args m K} hs => by
    split at hs
    · exact ⟨hs.1, hs.2, rfl, fun _ _ => rfl⟩
    · exact hs
  ok := fun {bs w0 bl m w args args' K} R hlen hv hs => by
    split at hs
    · rename_i x hd
      have hl := d.law _ _ hd
      rw [args_same hlen hv (by rw [hl]; exact d.np x), hl]
      refine Calls.mono (h x w hs.1 R.gwAt) ?_
      rintro e w' ⟨rfl, Kp⟩
      exact ⟨_, _, _, rfl, .same (c.np _), hs.2, R.pure Kp⟩
    · exact hs.elim
/-- What is always the same value. -/
def cOne (v : Value) (h : isP v = false) : Dc Unit where
  enc _ := v
  dec _ := none
  law _ _ h := by cases h
  np _ := h
end Go.Proofs.YtoadcnhcfodkgaaGreatDoor
