/-
  SensorReads, walked, for the seat Ytoaghmbaijlklaa.
-/
import Derived.Test.YtoaghmbaijlklaaSenAwake
namespace Go.Proofs.Ytoaghmbaijlklaa
open Go.RowKit

set_option maxHeartbeats 2000000 in
set_option maxRecDepth 100000 in
theorem SensorReads_any (k : Int) (s : ByteArray) (w : World) (hs : s.size ≤ maxLen) : Calls Try.prog 3 #[.agg #[.int .i64 k, .string s]] w fun e w' => e = .returned (.bool true) ∧ Below w.heap.size w w' := by
  have hr := fun W => sread_any k s W hs
  have hq := fun W => rread_any k s W hs
  unfold rdV at hr hq
  generalize readR k s = r at *
  generalize readOk k s = o at *
  go_enter Try.func3, Try.ntmps3
  go_wp2_with fail
  refine (awake_any _).mono ?_
  rintro e w1 ⟨rfl, b1⟩
  have L1 := bel_then (bel_al (Below.refl _ w) _) b1
  have B1 := (Arr_at w w.heap.size [.int .i64 k, .string s] 23 rfl).below b1
  have c0 : w1.cell? ⟨w.heap.size, 0, none⟩ = some (.int .i64 k) := B1.c 0 (of_decide_eq_true rfl)
  have c1 : w1.cell? ⟨w.heap.size, 1, none⟩ = some (.string s) := B1.c 1 (of_decide_eq_true rfl)
  go_wp2_with fail
  refine (hr _).mono ?_
  rintro e w2 ⟨rfl, b2⟩
  have L2 := bel_then L1 b2
  have B2 := B1.below b2
  have z2 := B2.lies
  have c2 : w2.cell? ⟨w.heap.size, 0, none⟩ = some (.int .i64 k) := B2.c 0 (of_decide_eq_true rfl)
  have c3 : w2.cell? ⟨w.heap.size, 1, none⟩ = some (.string s) := B2.c 1 (of_decide_eq_true rfl)
  clear c0 c1 b1 b2
  go_wp2_with fail
  refine (hq _).mono ?_
  rintro e w3 ⟨rfl, b3⟩
  have L3 := bel_then (bel_al L2 _) b3
  have A := (Arr_at w2 w2.heap.size [.int .i64 r.1, .int .i64 r.2.1, .int .i64 r.2.2.1, .int .i64 r.2.2.2.1, .int .i64 r.2.2.2.2] 28 rfl).below b3
  have z3 := A.lies
  have d0 : w3.cell? ⟨w2.heap.size, 0, none⟩ = some (.int .i64 r.1) := A.c 0 (of_decide_eq_true rfl)
  have d1 : w3.cell? ⟨w2.heap.size, 1, none⟩ = some (.int .i64 r.2.1) := A.c 1 (of_decide_eq_true rfl)
  have d2 : w3.cell? ⟨w2.heap.size, 2, none⟩ = some (.int .i64 r.2.2.1) := A.c 2 (of_decide_eq_true rfl)
  have d3 : w3.cell? ⟨w2.heap.size, 3, none⟩ = some (.int .i64 r.2.2.2.1) := A.c 3 (of_decide_eq_true rfl)
  have d4 : w3.cell? ⟨w2.heap.size, 4, none⟩ = some (.int .i64 r.2.2.2.2) := A.c 4 (of_decide_eq_true rfl)
  clear b3 c2 c3
  go_wp2_with (with_reducible refine post_stop ?_)
  exact ⟨bodyPost_ret (v := .bool true) (by simp [results, Try.results3, go_sem]) rfl ⟨rfl, bel_al L3 _⟩⟩
end Go.Proofs.Ytoaghmbaijlklaa
