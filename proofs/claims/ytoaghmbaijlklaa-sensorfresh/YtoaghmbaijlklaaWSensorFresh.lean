/-
  SensorFresh, walked, for the seat Ytoaghmbaijlklaa.
-/
import Derived.Test.YtoaghmbaijlklaaSenAwake
namespace Go.Proofs.Ytoaghmbaijlklaa
open Go.RowKit

set_option maxHeartbeats 2000000 in
set_option maxRecDepth 100000 in
theorem SensorFresh_any (t n : Int) (w : World) (ht : -9223372036854775808 ≤ t ∧ t ≤ 9223372036854775807) (hn : -9223372036854775808 ≤ n ∧ n ≤ 9223372036854775807) : Calls Try.prog 5 #[.int .i64 t, .int .i64 n] w fun e w' => e = .returned (.bool true) ∧ Below w.heap.size w w' := by
  have hr := fun W => sfresh_any 0 t 0 0 0 n W ht hn
  have hq := fun W => rfresh_any 0 t 0 0 0 n W ht hn
  generalize freshS t n = o at *
  go_enter Try.func5, Try.ntmps5
  go_wp2_with fail
  refine (awake_any _).mono ?_
  rintro e w1 ⟨rfl, b1⟩
  go_wp2_with fail
  go_region_with (first | (go_at_call 13; refine (hr _).mono ?_; rintro e w2 ⟨rfl, b2⟩; have q0 := kc b2 w1.heap.size 0; have q1 := kc b2 w1.heap.size 1; have q2 := kc b2 w1.heap.size 2; have q3 := kc b2 w1.heap.size 3; have q4 := kc b2 w1.heap.size 4) | (go_at_call 14; refine (hq _).mono ?_; rintro e w3 ⟨rfl, b3⟩; have p0 := kc b3 w1.heap.size 0; have p1 := kc b3 w1.heap.size 1; have p2 := kc b3 w1.heap.size 2; have p3 := kc b3 w1.heap.size 3; have p4 := kc b3 w1.heap.size 4))
  all_goals
    go_wp2_with (with_reducible refine post_stop ?_)
    exact ⟨bodyPost_ret (v := .bool true) (by simp [results, Try.results5, go_sem]) rfl ⟨rfl, bel_then (bel_then (bel_drew (bel_al b1 _)) b2) b3⟩⟩
end Go.Proofs.Ytoaghmbaijlklaa
