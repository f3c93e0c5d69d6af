/-
  A slice of records that is handed in, for the seat YtoadcnhcfodkgaaGreatDoor.
-/
import Derived.Test.YtoadcnhcfodkgaaGreatDoorTpR
namespace Go.Proofs.YtoadcnhcfodkgaaGreatDoor
open Go.ChangeShapes Go.WideShapes Go.ChangeAt Go.RowKit

section
variable {H : Type} {enc : TypeId × Value → H} {w : World} {base : Nat} {held : Bool}
theorem shape_lt {b : Nat} {x : TypeId × Nat} (h : w.shape? b = some x) : b < w.heap.size := by
  by_cases c : b < w.heap.size
  · exact c
  · have e : w.heap[b]? = none := Array.getElem?_eq_none (by omega)
    unfold World.shape? at h
    rw [e] at h
    cases h
set_option maxRecDepth 100000 in
theorem open_recsV {r : Reach} {b0 : Nat} {v : Value} {d : DataW H} {ps : List MemPlace} (hG : 0 < w.heap.size) (hval : Value.okWide Tryz.prog w r b0 22 v) (hd : DataW.Trod enc Tryz.prog w base (fun _ => true) held 22 v d ps) :
    ∃ (B : Nat) (ao : Option Addr) (nn cap : Nat) (L : Nat → Int × ByteArray) (sl : Value), v = .slice ao nn cap ∧ Recs w B ao nn cap L sl ∧ sl ≠ .nilIface ∧ ((DataW.weights Tryz.prog 22 d).all (· ≤ reachBytes) = true → nn ≤ reachBytes ∧ ∀ i, i < nn → (L i).2.size ≤ reachBytes) := by
  obtain ⟨fuel, h⟩ := hd
  obtain ⟨B, ao, nn, cap, L, sl, e, hr, hw⟩ := open_recs hG h
  have hval : Cell.okWide Tryz.prog w r b0 22 v := by
    unfold Value.okWide at hval
    rw [Tryz.underlying22] at hval
    exact hval
  unfold Cell.okWide at hval
  rw [Tryz.underlying22] at hval
  have hval : Cell.ok Tryz.prog w r b0 22 v := by
    split at hval <;> first | exact hval | (rename_i h1 _ ; cases h1)
  unfold Cell.ok at hval
  rw [Tryz.underlying22] at hval
  have hv : v = .slice ao nn cap := by
    cases v with
    | slice a n c =>
      have e : [Value.slice a n c] = [.slice ao nn cap] := e
      exact (List.cons.inj e).1
    | _ => exact hval.elim
  subst hv
  by_cases hs : sl = .nilIface
  · have h0 : nn = 0 := by
      by_cases c : nn = 0
      · exact c
      · exact absurd hs (hr.idx (i := 0) (by omega))
    subst h0
    cases ao with
    | none => exact ⟨B, none, 0, cap, L, .slice none 0 cap, rfl, ⟨fun _ _ => rfl, rfl, hr.lies, fun h => absurd h (Nat.not_lt_zero _), fun i h => absurd h (Nat.not_lt_zero i)⟩, (fun k => by cases k), hw⟩
    | some a =>
      obtain ⟨_, _, _, hsp, row, cells, hsh, _⟩ := hval
      obtain ⟨b, o, sp⟩ := a
      dsimp only at hsp hsh
      subst hsp
      exact ⟨b, some ⟨b, o, none⟩, 0, cap, L, .slice (some ⟨0, o, none⟩) 0 cap, rfl, ⟨fun bl hbl => ⟨b, hbl, rfl⟩, rfl, shape_lt hsh, fun h => absurd h (Nat.not_lt_zero _), fun i h => absurd h (Nat.not_lt_zero i)⟩, (fun k => by cases k), hw⟩
  · exact ⟨B, ao, nn, cap, L, sl, rfl, hr, hs, hw⟩
end
end Go.Proofs.YtoadcnhcfodkgaaGreatDoor
