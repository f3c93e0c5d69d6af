/-
  Short names of some laws, for the seat YtoadcnhcfodkgaaGreatDoor.
-/
import Derived.Handy
namespace Go.Proofs.YtoadcnhcfodkgaaGreatDoor

theorem zA {α : Type} {l : List α} {i : Nat} {a : α} : l.toArray.setIfInBounds i a = (l.set i a).toArray := by simp
theorem zB {α : Type} {x : α} {xs : List α} {a : α} : (x :: xs).set 0 a = a :: xs := rfl
theorem zC {α : Type} {x : α} {xs : List α} {i : Nat} {a : α} : (x :: xs).set (i + 1) a = x :: xs.set i a := rfl
theorem zD {p : Prop} [d : Decidable p] (h : decide p = true) : p := of_decide_eq_true h
theorem zL {a b : Nat} (h : a < b) : a ≠ b := by omega
theorem zG {a b : Nat} (h : b < a) : a ≠ b := by omega
end Go.Proofs.YtoadcnhcfodkgaaGreatDoor
