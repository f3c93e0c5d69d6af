/-
  The reference's tables, walked at each degree and order, for the seat YtoadcnhcfodkgaaGreatDoor.
-/
import Derived.Test.YtoadcnhcfodkgaaGreatDoorFTab
import Derived.Test.YtoadcnhcfodkgaaGreatDoorVMem
import Derived.Handy
import Derived.Deep.RegionHeld3
namespace Go.Proofs.YtoadcnhcfodkgaaGreatDoor
open Go.RowKit

set_option maxRecDepth 100000 in
set_option maxHeartbeats 4000000 in
theorem table_at (N M : Nat) (w : World) (h1 : 1 ≤ N) (h6 : N ≤ 6) (hm : M ≤ N) : Calls Tryz.prog 257 #[.int .i64 (N : Int), .int .i64 (M : Int)] w fun e w' => e = .returned (.tuple #[.int .i64 (at0 (nIdx N M * 2)), .int .i64 (at0 (nIdx N M * 2 + 1))]) ∧ Below w.heap.size w w' := by
  obtain ⟨x, hx⟩ : ∃ x, Hid (x = at0 (nIdx N M * 2)) := ⟨_, rfl⟩
  obtain ⟨y, hy⟩ : ∃ y, Hid (y = at0 (nIdx N M * 2 + 1)) := ⟨_, rfl⟩
  rw [← hx.out, ← hy.out]
  have c : (N = 1 ∧ (M = 0 ∨ M = 1)) ∨ (N = 2 ∧ (M = 0 ∨ M = 1 ∨ M = 2)) ∨ (N = 3 ∧ (M = 0 ∨ M = 1 ∨ M = 2 ∨ M = 3)) ∨ (N = 4 ∧ (M = 0 ∨ M = 1 ∨ M = 2 ∨ M = 3 ∨ M = 4)) ∨ (N = 5 ∧ (M = 0 ∨ M = 1 ∨ M = 2 ∨ M = 3 ∨ M = 4 ∨ M = 5)) ∨ (N = 6 ∧ (M = 0 ∨ M = 1 ∨ M = 2 ∨ M = 3 ∨ M = 4 ∨ M = 5 ∨ M = 6)) := by omega
  rcases c with ⟨rfl, rfl | rfl⟩ | ⟨rfl, rfl | rfl | rfl⟩ | ⟨rfl, rfl | rfl | rfl | rfl⟩ | ⟨rfl, rfl | rfl | rfl | rfl | rfl⟩ | ⟨rfl, rfl | rfl | rfl | rfl | rfl | rfl⟩ | ⟨rfl, rfl | rfl | rfl | rfl | rfl | rfl | rfl⟩
  all_goals
    go_enter Tryz.func257, Tryz.ntmps257
    go_wp2
    refine bodyPost_ret (v := .tuple #[.int .i64 x, .int .i64 y]) (by rw [hx.out, hy.out]; simp [results, Tryz.results257, go_sem, at0, at0L, nIdx]) rfl ?_
    exact ⟨rfl, Below.refl _ _⟩
set_option maxRecDepth 100000 in
set_option maxHeartbeats 4000000 in
theorem yearly_at (N M : Nat) (w : World) (h1 : 1 ≤ N) (h2 : N ≤ 2) (hm : M ≤ N) : Calls Tryz.prog 258 #[.int .i64 (N : Int), .int .i64 (M : Int)] w fun e w' => e = .returned (.tuple #[.int .i64 (yr0 (nIdx N M * 2)), .int .i64 (yr0 (nIdx N M * 2 + 1))]) ∧ Below w.heap.size w w' := by
  obtain ⟨x, hx⟩ : ∃ x, Hid (x = yr0 (nIdx N M * 2)) := ⟨_, rfl⟩
  obtain ⟨y, hy⟩ : ∃ y, Hid (y = yr0 (nIdx N M * 2 + 1)) := ⟨_, rfl⟩
  rw [← hx.out, ← hy.out]
  have c : (N = 1 ∧ (M = 0 ∨ M = 1)) ∨ (N = 2 ∧ (M = 0 ∨ M = 1 ∨ M = 2)) := by omega
  rcases c with ⟨rfl, rfl | rfl⟩ | ⟨rfl, rfl | rfl | rfl⟩
  all_goals
    go_enter Tryz.func258, Tryz.ntmps258
    go_wp2
    refine bodyPost_ret (v := .tuple #[.int .i64 x, .int .i64 y]) (by rw [hx.out, hy.out]; simp [results, Tryz.results258, go_sem, yr0, yr0L, nIdx]) rfl ?_
    exact ⟨rfl, Below.refl _ _⟩
end Go.Proofs.YtoadcnhcfodkgaaGreatDoor
