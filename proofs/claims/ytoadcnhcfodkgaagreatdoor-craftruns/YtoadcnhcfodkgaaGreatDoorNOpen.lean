/-
  Frames out of bytes: frame.unwrap, frame.Open, walked, for the seat YtoadcnhcfodkgaaGreatDoor.
-/
import Derived.Test.YtoadcnhcfodkgaaGreatDoorNLook
import Derived.Test.YtoadcnhcfodkgaaGreatDoorNClone
import Derived.Laws.ResultCell
import Derived.RegionTactic
import Derived.Deep.RegionWith
namespace Go.Proofs.YtoadcnhcfodkgaaGreatDoor
open Go.RowKit

set_option maxHeartbeats 1000000 in
set_option maxRecDepth 100000 in
theorem unwrap_any (s : ByteArray) (k : Nat) (w : World) (h5 : 5 ≤ s.size) (hm : s.size ≤ 5000) (hk : (s[1]'(by omega)).toNat = k) :
    Calls Tryz.prog 113 #[.string s] w fun e w' => e = .returned (.agg #[.int .i64 (k : Nat), .string (s.extract 3 (s.size - 2))]) ∧ Below w.heap.size w w' := by
  have hk8 : k < 256 := by rw [← hk]; exact (s[1]'(by omega)).toNat_lt
  have hsz : (s.extract 3 (s.size - 2)).size ≤ 281474976710656 := by rw [ByteArray.size_extract]; omega
  have hsl : ∀ W : World, (Instr.slice 9 (.string s) (some (.int .i64 3)) (some (.int .i64 ((s.size : Int) - 2))) none).run Tryz.prog W = .ok (.string (s.extract 3 (s.size - 2))) W := fun W => by
    rw [run_slice_string W 9 s .i64 .i64 3 ((s.size : Int) - 2) Tryz.underlying9 (by omega) (by omega) (by omega), show ((s.size : Int) - 2).toNat = s.size - 2 by omega]
    rfl
  have hcl := fun W => clone_any (s.extract 3 (s.size - 2)) W hsz
  have hw : IntKind.i64.wrap ((s.size : Int) - 2) = (s.size : Int) - 2 := by rw [IntKind.wrap_i64]; omega
  have hv : IntKind.i64.wrap (k : Int) = (k : Int) := by rw [IntKind.wrap_i64]; omega
  go_enter Tryz.func113, Tryz.ntmps113
  go_wp2
  go_region_with (go_at_call 112; refine (hcl _).mono ?_; rintro e w1 ⟨rfl, hb1⟩; have k0 : w1.cell? ⟨w.heap.size, 0, none⟩ = some (.int .i64 0) := (hb1.cell (by simp)).trans (by simp); have k1 : w1.cell? ⟨w.heap.size, 1, none⟩ = some (.string ⟨#[]⟩) := (hb1.cell (by simp)).trans (by simp); have f0 : w1.frozen? ⟨w.heap.size, 0, none⟩ = false := (hb1.frozen (by simp)).trans (by simp); have f1 : w1.frozen? ⟨w.heap.size, 1, none⟩ = false := (hb1.frozen (by simp)).trans (by simp))
  all_goals
    go_wp2
    have hb0 : Below w.heap.size w (w.alloc (.cells #[.int .i64 0, .string ⟨#[]⟩] 99)).drew := ((Below.refl _ w).alloc (Nat.le_refl _) _).drew
    have hb2 : Below w.heap.size w w1 := hb0.trans (hb1.mono (by simp))
    refine bodyPost_ret (v := .agg #[.int .i64 (k : Nat), .string (s.extract 3 (s.size - 2))]) (by simp [results, Tryz.results113, go_sem, k0, k1]) rfl ⟨rfl, ?_⟩
    exact (hb2.setCell (Nat.le_refl _) _).setCell (Nat.le_refl _) _
/-- What bytes are opened as: kind, data, and whether they are a frame. -/
def openS (s : ByteArray) : Int × ByteArray × Bool := if lookC s.data.toList = (2, (s.size : Int)) then (((s.data.toList.getD 1 0).toNat : Int), s.extract 3 (s.size - 2), true) else (0, ⟨#[]⟩, false)
theorem lookC_two {l : List UInt8} {b : Int} (h : lookC l = (2, b)) : ∃ n : Nat, look l = some (n + 1) ∧ b = (n : Int) + 5 := by
  unfold lookC at h
  split at h
  · cases h
  · cases e : look l with
    | none => rw [e] at h; cases h
    | some k =>
      cases k with
      | zero => rw [e] at h; cases h
      | succ n =>
        rw [e] at h
        exact ⟨n, rfl, by have := congrArg Prod.snd h; simpa [lookP] using this.symm⟩
theorem two_size {s : ByteArray} (h : lookC s.data.toList = (2, (s.size : Int))) : 5 ≤ s.size ∧ s.size ≤ 5000 := by
  obtain ⟨n, hn, hb⟩ := lookC_two h
  have := (look_len hn).2 n rfl
  omega
end Go.Proofs.YtoadcnhcfodkgaaGreatDoor
