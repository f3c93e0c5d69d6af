/-
  Rows of frames in memory; the reference's Same at two rows that hold the same, walked, for the seat YtoadcnhcfodkgaaGreatDoor.
-/
import Derived.Test.YtoadcnhcfodkgaaGreatDoorNLook
import Derived.Laws.OwnMore
import Derived.OwnWalk
namespace Go.Proofs.YtoadcnhcfodkgaaGreatDoor
open Go.RowKit

/-- Frames as cells. -/
def cellsOf (l : List (UInt8 × List UInt8)) : List Value := l.flatMap fun x => [.int .i64 (x.1.toNat : Nat), .string ⟨x.2.toArray⟩]
theorem cellsOf_length (l : List (UInt8 × List UInt8)) : (cellsOf l).length = l.length * 2 := by
  induction l with
  | nil => rfl
  | cons x l ih => simp only [cellsOf, List.flatMap_cons, List.length_append, List.length_cons, List.length_nil] at ih ⊢; omega
theorem cellsOf_append (l m : List (UInt8 × List UInt8)) : cellsOf (l ++ m) = cellsOf l ++ cellsOf m := by simp [cellsOf]
theorem cellsOf_at : ∀ (l : List (UInt8 × List UInt8)) (i : Nat) (h : i < l.length), (cellsOf l)[i * 2]? = some (.int .i64 (l[i].1.toNat : Nat)) ∧ (cellsOf l)[i * 2 + 1]? = some (.string ⟨l[i].2.toArray⟩)
  | x :: l, 0, _ => ⟨rfl, rfl⟩
  | x :: l, i + 1, h => by
    have := cellsOf_at l i (by simpa using h)
    have e : cellsOf (x :: l) = [.int .i64 (x.1.toNat : Nat), .string ⟨x.2.toArray⟩] ++ cellsOf l := rfl
    rw [e, show (i + 1) * 2 = i * 2 + 2 by omega]
    exact this
/-- The slice v holds these frames; its block lies from B on. -/
def Frames (B : Nat) (w : World) (v : Value) (l : List (UInt8 × List UInt8)) : Prop := w.ownsRow B 99 2 v l.length (cellsOf l)
theorem Frames.below {B : Nat} {w w' : World} {v : Value} {l : List (UInt8 × List UInt8)} (h : Frames B w v l) (hb : Below w.heap.size w w') : Frames B w' v l := by
  refine ⟨h.1, ?_⟩
  rcases h.2 with hn | ⟨g, cap, cur, rfl, hg, hgg, rest⟩
  · exact .inl hn
  · exact .inr ⟨g, cap, cur, rfl, hg, by rw [hb.block g (Array.getElem?_eq_some_iff.1 hgg).1]; exact hgg, rest⟩
theorem Frames.base {B B' : Nat} {w : World} {v : Value} {l : List (UInt8 × List UInt8)} (h : Frames B' w v l) (hB : B ≤ B') : Frames B w v l :=
  ⟨h.1, h.2.imp id (fun ⟨g, cap, cur, a, b, c⟩ => ⟨g, cap, cur, a, Nat.le_trans hB b, c⟩)⟩
/-- What is known of a slice of frames. -/
theorem Frames.shape {B : Nat} {w : World} {v : Value} {l : List (UInt8 × List UInt8)} (h : Frames B w v l) :
    ∃ (a : Option Addr) (c : Nat), v = .slice a l.length c ∧ l.length ≤ c ∧ (l ≠ [] → ∃ g, a = some ⟨g, 0, none⟩ ∧ B ≤ g ∧ g < w.heap.size ∧
      ∀ i (hi : i < l.length), w.cell? ⟨g, i * 2, none⟩ = some (.int .i64 (l[i].1.toNat : Nat)) ∧ w.cell? ⟨g, i * 2 + 1, none⟩ = some (.string ⟨l[i].2.toArray⟩)) := by
  have H := h
  rcases h.2 with ⟨rfl, h0⟩ | ⟨g, cap, cur, rfl, hg, hgg, hn, rest⟩
  · exact ⟨none, 0, by rw [h0], by omega, fun hne => absurd (List.length_eq_zero_iff.1 h0) hne⟩
  · refine ⟨some ⟨g, 0, none⟩, cap, rfl, hn, fun _ => ⟨g, rfl, hg, (Array.getElem?_eq_some_iff.1 hgg).1, fun i hi => ?_⟩⟩
    have H' : w.ownsRow B 99 2 (.slice (some ⟨g, 0, none⟩) l.length cap) l.length (cellsOf l) := H
    have c := cellsOf_at l i hi
    exact ⟨(H'.cellAt (i * 2) (by omega)).trans c.1, (H'.cellAt (i * 2 + 1) (by omega)).trans c.2⟩
end Go.Proofs.YtoadcnhcfodkgaaGreatDoor
