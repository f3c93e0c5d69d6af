/-
  SensorWrites, walked, for the seat Ytoaghmbaijlklaa.
-/
import Derived.Test.YtoaghmbaijlklaaSenAwake
import Derived.Test.YtoaghmbaijlklaaSenRWrite
namespace Go.Proofs.Ytoaghmbaijlklaa
open Go.RowKit

set_option maxHeartbeats 2000000 in
set_option maxRecDepth 100000 in
theorem SensorWrites_any (k t : Int) (cf : Nat → Int) (w : World) : Calls Try.prog 4 #[.int .i64 k, .int .i64 t, .agg (row 6 cf).toArray] w fun e w' => e = .returned (.bool true) ∧ Below w.heap.size w w' := by
  have hr := swrite_any k t cf
  have hq := rwrite_any k t cf
  generalize writeS k t cf = r at *
  generalize writeOk k t cf = o at *
  rw [show (row 6 cf).toArray = #[.int .i64 (cf 0), .int .i64 (cf 1), .int .i64 (cf 2), .int .i64 (cf 3), .int .i64 (cf 4), .int .i64 (cf 5)] from rfl] at *
  go_enter Try.func4, Try.ntmps4
  go_wp2_with fail
  refine (awake_any _).mono ?_
  rintro e w1 ⟨rfl, b1⟩
  have L1 := bel_then (bel_al (Below.refl _ w) _) b1
  have B1 := (Arr_at w w.heap.size [.int .i64 (cf 0), .int .i64 (cf 1), .int .i64 (cf 2), .int .i64 (cf 3), .int .i64 (cf 4), .int .i64 (cf 5)] 32 rfl).below b1
  have c0 : w1.cell? ⟨w.heap.size, 0, none⟩ = some (.int .i64 (cf 0)) := B1.c 0 (of_decide_eq_true rfl)
  have c1 : w1.cell? ⟨w.heap.size, 1, none⟩ = some (.int .i64 (cf 1)) := B1.c 1 (of_decide_eq_true rfl)
  have c2 : w1.cell? ⟨w.heap.size, 2, none⟩ = some (.int .i64 (cf 2)) := B1.c 2 (of_decide_eq_true rfl)
  have c3 : w1.cell? ⟨w.heap.size, 3, none⟩ = some (.int .i64 (cf 3)) := B1.c 3 (of_decide_eq_true rfl)
  have c4 : w1.cell? ⟨w.heap.size, 4, none⟩ = some (.int .i64 (cf 4)) := B1.c 4 (of_decide_eq_true rfl)
  have c5 : w1.cell? ⟨w.heap.size, 5, none⟩ = some (.int .i64 (cf 5)) := B1.c 5 (of_decide_eq_true rfl)
  clear b1
  go_wp2_with fail
  refine (hr _).mono ?_
  rintro e w2 ⟨rfl, b2⟩
  have L2 := bel_then L1 b2
  have B2 := B1.below b2
  have z2 := B2.lies
  clear c0 c1 c2 c3 c4 c5 b2
  have c0 : w2.cell? ⟨w.heap.size, 0, none⟩ = some (.int .i64 (cf 0)) := B2.c 0 (of_decide_eq_true rfl)
  have c1 : w2.cell? ⟨w.heap.size, 1, none⟩ = some (.int .i64 (cf 1)) := B2.c 1 (of_decide_eq_true rfl)
  have c2 : w2.cell? ⟨w.heap.size, 2, none⟩ = some (.int .i64 (cf 2)) := B2.c 2 (of_decide_eq_true rfl)
  have c3 : w2.cell? ⟨w.heap.size, 3, none⟩ = some (.int .i64 (cf 3)) := B2.c 3 (of_decide_eq_true rfl)
  have c4 : w2.cell? ⟨w.heap.size, 4, none⟩ = some (.int .i64 (cf 4)) := B2.c 4 (of_decide_eq_true rfl)
  have c5 : w2.cell? ⟨w.heap.size, 5, none⟩ = some (.int .i64 (cf 5)) := B2.c 5 (of_decide_eq_true rfl)
  go_wp2_with fail
  refine (hq _).mono ?_
  rintro e w3 ⟨rfl, b3⟩
  have L3 := bel_then (bel_al L2 _) b3
  have A := (Arr_at w2 w2.heap.size [.int .i64 r.1, .string r.2] 23 rfl).below b3
  have z3 := A.lies
  have d0 : w3.cell? ⟨w2.heap.size, 0, none⟩ = some (.int .i64 r.1) := A.c 0 (of_decide_eq_true rfl)
  have d1 : w3.cell? ⟨w2.heap.size, 1, none⟩ = some (.string r.2) := A.c 1 (of_decide_eq_true rfl)
  clear b3 c0 c1 c2 c3 c4 c5
  go_wp2_with (with_reducible refine post_stop ?_)
  exact ⟨bodyPost_ret (v := .bool true) (by simp [results, Try.results4, go_sem]) rfl ⟨rfl, bel_al L3 _⟩⟩
end Go.Proofs.Ytoaghmbaijlklaa
