/-
  The walk of the law TriadFirst, for the seat Ytkeijfbpkdelpaa. (Made by mklaw05.py.)
-/
import Derived.Test.YtkeijfbpkdelpaaDAwake
import Derived.Test.YtkeijfbpkdelpaaDHelp
import Derived.Test.YtkeijfbpkdelpaaQTurn
import Derived.Test.YtkeijfbpkdelpaaDMath
import Derived.Test.YtkeijfbpkdelpaaStop
import Derived.Handy
import Derived.Deep.RegionHeld3
namespace Go.Proofs.Ytkeijfbpkdelpaa
open Go.RowKit

set_option maxRecDepth 100000 in
set_option maxHeartbeats 4000000 in
theorem TriadFirst_l0 (p : V6) (q : V6) (w : World) (l0 : longS (p.1, p.2.1, p.2.2.1) = false) :
    Calls Try.prog 5 #[.agg #[.int .i64 p.1, .int .i64 p.2.1, .int .i64 p.2.2.1, .int .i64 p.2.2.2.1, .int .i64 p.2.2.2.2.1, .int .i64 p.2.2.2.2.2], .agg #[.int .i64 q.1, .int .i64 q.2.1, .int .i64 q.2.2.1, .int .i64 q.2.2.2.1, .int .i64 q.2.2.2.2.1, .int .i64 q.2.2.2.2.2]] w fun e w' => e = .returned (.bool true) ∧ Below w.heap.size w w' := by
  go_enter Try.func5, Try.ntmps5
  have y16_low : w.heap.size ≤ w.heap.size := (Below.refl w.heap.size w).size
  have y17_B0 : w.heap.size < w.heap.size + 1 := (Nat.lt_succ_self _)
  have y17_low : w.heap.size ≤ w.heap.size + 1 := (Nat.le_succ_of_le (Below.refl w.heap.size w).size)
  go_wp2_with fail
  refine (awake_any  _).mono ?_
  rintro e w1 ⟨rfl, k1⟩
  have K1 : Below w.heap.size w w1 := bel_then (bel_al (bel_al (Below.refl w.heap.size w) _) _) k1
  have B0_1 : Arr w.heap.size [.int .i64 p.1, .int .i64 p.2.1, .int .i64 p.2.2.1, .int .i64 p.2.2.2.1, .int .i64 p.2.2.2.2.1, .int .i64 p.2.2.2.2.2] w1 := ((Arr_at _ _ [.int .i64 p.1, .int .i64 p.2.1, .int .i64 p.2.2.1, .int .i64 p.2.2.2.1, .int .i64 p.2.2.2.2.1, .int .i64 p.2.2.2.2.2] _ (by simp)).alloc _).below k1
  have B1_1 : Arr (w.heap.size + 1) [.int .i64 q.1, .int .i64 q.2.1, .int .i64 q.2.2.1, .int .i64 q.2.2.2.1, .int .i64 q.2.2.2.2.1, .int .i64 q.2.2.2.2.2] w1 := (Arr_at _ _ [.int .i64 q.1, .int .i64 q.2.1, .int .i64 q.2.2.1, .int .i64 q.2.2.2.1, .int .i64 q.2.2.2.2.1, .int .i64 q.2.2.2.2.2] _ (by simp)).below k1
  have z1 := B1_1.lies
  clear k1
  have c2_B0_0 : w1.cell? ⟨w.heap.size, 0, none⟩ = some (.int .i64 p.1) := B0_1.c 0 (of_decide_eq_true rfl)
  have c2_B0_1 : w1.cell? ⟨w.heap.size, 1, none⟩ = some (.int .i64 p.2.1) := B0_1.c 1 (of_decide_eq_true rfl)
  have c2_B0_2 : w1.cell? ⟨w.heap.size, 2, none⟩ = some (.int .i64 p.2.2.1) := B0_1.c 2 (of_decide_eq_true rfl)
  go_wp2_with fail
  refine (long_any (p.1, p.2.1, p.2.2.1) _).mono ?_
  rintro e w2 ⟨rfl, k2⟩
  rw [l0]
  try dsimp only
  have K2 : Below w.heap.size w w2 := bel_then K1 k2
  have B0_2 : Arr w.heap.size [.int .i64 p.1, .int .i64 p.2.1, .int .i64 p.2.2.1, .int .i64 p.2.2.2.1, .int .i64 p.2.2.2.2.1, .int .i64 p.2.2.2.2.2] w2 := B0_1.below k2
  have B1_2 : Arr (w.heap.size + 1) [.int .i64 q.1, .int .i64 q.2.1, .int .i64 q.2.2.1, .int .i64 q.2.2.2.1, .int .i64 q.2.2.2.2.1, .int .i64 q.2.2.2.2.2] w2 := B1_1.below k2
  have z2 := B1_2.lies
  clear c2_B0_0 c2_B0_1 c2_B0_2 K1 B0_1 B1_1 k2
  go_wp2
  go_ret
  exact ⟨rfl, K2⟩
set_option maxRecDepth 100000 in
set_option maxHeartbeats 4000000 in
theorem TriadFirst_l1 (p : V6) (q : V6) (w : World) (l0 : longS (p.1, p.2.1, p.2.2.1) = true) (l1 : longS p.2.2.2 = false) :
    Calls Try.prog 5 #[.agg #[.int .i64 p.1, .int .i64 p.2.1, .int .i64 p.2.2.1, .int .i64 p.2.2.2.1, .int .i64 p.2.2.2.2.1, .int .i64 p.2.2.2.2.2], .agg #[.int .i64 q.1, .int .i64 q.2.1, .int .i64 q.2.2.1, .int .i64 q.2.2.2.1, .int .i64 q.2.2.2.2.1, .int .i64 q.2.2.2.2.2]] w fun e w' => e = .returned (.bool true) ∧ Below w.heap.size w w' := by
  go_enter Try.func5, Try.ntmps5
  have y18_low : w.heap.size ≤ w.heap.size := (Below.refl w.heap.size w).size
  have y19_B0 : w.heap.size < w.heap.size + 1 := (Nat.lt_succ_self _)
  have y19_low : w.heap.size ≤ w.heap.size + 1 := (Nat.le_succ_of_le (Below.refl w.heap.size w).size)
  go_wp2_with fail
  refine (awake_any  _).mono ?_
  rintro e w1 ⟨rfl, k1⟩
  have K1 : Below w.heap.size w w1 := bel_then (bel_al (bel_al (Below.refl w.heap.size w) _) _) k1
  have B0_1 : Arr w.heap.size [.int .i64 p.1, .int .i64 p.2.1, .int .i64 p.2.2.1, .int .i64 p.2.2.2.1, .int .i64 p.2.2.2.2.1, .int .i64 p.2.2.2.2.2] w1 := ((Arr_at _ _ [.int .i64 p.1, .int .i64 p.2.1, .int .i64 p.2.2.1, .int .i64 p.2.2.2.1, .int .i64 p.2.2.2.2.1, .int .i64 p.2.2.2.2.2] _ (by simp)).alloc _).below k1
  have B1_1 : Arr (w.heap.size + 1) [.int .i64 q.1, .int .i64 q.2.1, .int .i64 q.2.2.1, .int .i64 q.2.2.2.1, .int .i64 q.2.2.2.2.1, .int .i64 q.2.2.2.2.2] w1 := (Arr_at _ _ [.int .i64 q.1, .int .i64 q.2.1, .int .i64 q.2.2.1, .int .i64 q.2.2.2.1, .int .i64 q.2.2.2.2.1, .int .i64 q.2.2.2.2.2] _ (by simp)).below k1
  have z1 := B1_1.lies
  clear k1
  have c2_B0_0 : w1.cell? ⟨w.heap.size, 0, none⟩ = some (.int .i64 p.1) := B0_1.c 0 (of_decide_eq_true rfl)
  have c2_B0_1 : w1.cell? ⟨w.heap.size, 1, none⟩ = some (.int .i64 p.2.1) := B0_1.c 1 (of_decide_eq_true rfl)
  have c2_B0_2 : w1.cell? ⟨w.heap.size, 2, none⟩ = some (.int .i64 p.2.2.1) := B0_1.c 2 (of_decide_eq_true rfl)
  go_wp2_with fail
  refine (long_any (p.1, p.2.1, p.2.2.1) _).mono ?_
  rintro e w2 ⟨rfl, k2⟩
  rw [l0]
  try dsimp only
  have K2 : Below w.heap.size w w2 := bel_then K1 k2
  have B0_2 : Arr w.heap.size [.int .i64 p.1, .int .i64 p.2.1, .int .i64 p.2.2.1, .int .i64 p.2.2.2.1, .int .i64 p.2.2.2.2.1, .int .i64 p.2.2.2.2.2] w2 := B0_1.below k2
  have B1_2 : Arr (w.heap.size + 1) [.int .i64 q.1, .int .i64 q.2.1, .int .i64 q.2.2.1, .int .i64 q.2.2.2.1, .int .i64 q.2.2.2.2.1, .int .i64 q.2.2.2.2.2] w2 := B1_1.below k2
  have z2 := B1_2.lies
  clear c2_B0_0 c2_B0_1 c2_B0_2 K1 B0_1 B1_1 k2
  have c3_B0_3 : w2.cell? ⟨w.heap.size, 3, none⟩ = some (.int .i64 p.2.2.2.1) := B0_2.c 3 (of_decide_eq_true rfl)
  have c3_B0_4 : w2.cell? ⟨w.heap.size, 4, none⟩ = some (.int .i64 p.2.2.2.2.1) := B0_2.c 4 (of_decide_eq_true rfl)
  have c3_B0_5 : w2.cell? ⟨w.heap.size, 5, none⟩ = some (.int .i64 p.2.2.2.2.2) := B0_2.c 5 (of_decide_eq_true rfl)
  go_wp2_with fail
  refine (long_any p.2.2.2 _).mono ?_
  rintro e w3 ⟨rfl, k3⟩
  rw [l1]
  try dsimp only
  have K3 : Below w.heap.size w w3 := bel_then K2 k3
  have B0_3 : Arr w.heap.size [.int .i64 p.1, .int .i64 p.2.1, .int .i64 p.2.2.1, .int .i64 p.2.2.2.1, .int .i64 p.2.2.2.2.1, .int .i64 p.2.2.2.2.2] w3 := B0_2.below k3
  have B1_3 : Arr (w.heap.size + 1) [.int .i64 q.1, .int .i64 q.2.1, .int .i64 q.2.2.1, .int .i64 q.2.2.2.1, .int .i64 q.2.2.2.2.1, .int .i64 q.2.2.2.2.2] w3 := B1_2.below k3
  have z3 := B1_3.lies
  clear c3_B0_3 c3_B0_4 c3_B0_5 K2 B0_2 B1_2 k3
  go_wp2
  go_ret
  exact ⟨rfl, K3⟩
set_option maxRecDepth 100000 in
set_option maxHeartbeats 4000000 in
theorem TriadFirst_l2 (p : V6) (q : V6) (w : World) (l0 : longS (p.1, p.2.1, p.2.2.1) = true) (l1 : longS p.2.2.2 = true) (l2 : longS (q.1, q.2.1, q.2.2.1) = false) :
    Calls Try.prog 5 #[.agg #[.int .i64 p.1, .int .i64 p.2.1, .int .i64 p.2.2.1, .int .i64 p.2.2.2.1, .int .i64 p.2.2.2.2.1, .int .i64 p.2.2.2.2.2], .agg #[.int .i64 q.1, .int .i64 q.2.1, .int .i64 q.2.2.1, .int .i64 q.2.2.2.1, .int .i64 q.2.2.2.2.1, .int .i64 q.2.2.2.2.2]] w fun e w' => e = .returned (.bool true) ∧ Below w.heap.size w w' := by
  go_enter Try.func5, Try.ntmps5
  have y20_low : w.heap.size ≤ w.heap.size := (Below.refl w.heap.size w).size
  have y21_B0 : w.heap.size < w.heap.size + 1 := (Nat.lt_succ_self _)
  have y21_low : w.heap.size ≤ w.heap.size + 1 := (Nat.le_succ_of_le (Below.refl w.heap.size w).size)
  go_wp2_with fail
  refine (awake_any  _).mono ?_
  rintro e w1 ⟨rfl, k1⟩
  have K1 : Below w.heap.size w w1 := bel_then (bel_al (bel_al (Below.refl w.heap.size w) _) _) k1
  have B0_1 : Arr w.heap.size [.int .i64 p.1, .int .i64 p.2.1, .int .i64 p.2.2.1, .int .i64 p.2.2.2.1, .int .i64 p.2.2.2.2.1, .int .i64 p.2.2.2.2.2] w1 := ((Arr_at _ _ [.int .i64 p.1, .int .i64 p.2.1, .int .i64 p.2.2.1, .int .i64 p.2.2.2.1, .int .i64 p.2.2.2.2.1, .int .i64 p.2.2.2.2.2] _ (by simp)).alloc _).below k1
  have B1_1 : Arr (w.heap.size + 1) [.int .i64 q.1, .int .i64 q.2.1, .int .i64 q.2.2.1, .int .i64 q.2.2.2.1, .int .i64 q.2.2.2.2.1, .int .i64 q.2.2.2.2.2] w1 := (Arr_at _ _ [.int .i64 q.1, .int .i64 q.2.1, .int .i64 q.2.2.1, .int .i64 q.2.2.2.1, .int .i64 q.2.2.2.2.1, .int .i64 q.2.2.2.2.2] _ (by simp)).below k1
  have z1 := B1_1.lies
  clear k1
  have c2_B0_0 : w1.cell? ⟨w.heap.size, 0, none⟩ = some (.int .i64 p.1) := B0_1.c 0 (of_decide_eq_true rfl)
  have c2_B0_1 : w1.cell? ⟨w.heap.size, 1, none⟩ = some (.int .i64 p.2.1) := B0_1.c 1 (of_decide_eq_true rfl)
  have c2_B0_2 : w1.cell? ⟨w.heap.size, 2, none⟩ = some (.int .i64 p.2.2.1) := B0_1.c 2 (of_decide_eq_true rfl)
  go_wp2_with fail
  refine (long_any (p.1, p.2.1, p.2.2.1) _).mono ?_
  rintro e w2 ⟨rfl, k2⟩
  rw [l0]
  try dsimp only
  have K2 : Below w.heap.size w w2 := bel_then K1 k2
  have B0_2 : Arr w.heap.size [.int .i64 p.1, .int .i64 p.2.1, .int .i64 p.2.2.1, .int .i64 p.2.2.2.1, .int .i64 p.2.2.2.2.1, .int .i64 p.2.2.2.2.2] w2 := B0_1.below k2
  have B1_2 : Arr (w.heap.size + 1) [.int .i64 q.1, .int .i64 q.2.1, .int .i64 q.2.2.1, .int .i64 q.2.2.2.1, .int .i64 q.2.2.2.2.1, .int .i64 q.2.2.2.2.2] w2 := B1_1.below k2
  have z2 := B1_2.lies
  clear c2_B0_0 c2_B0_1 c2_B0_2 K1 B0_1 B1_1 k2
  have c3_B0_3 : w2.cell? ⟨w.heap.size, 3, none⟩ = some (.int .i64 p.2.2.2.1) := B0_2.c 3 (of_decide_eq_true rfl)
  have c3_B0_4 : w2.cell? ⟨w.heap.size, 4, none⟩ = some (.int .i64 p.2.2.2.2.1) := B0_2.c 4 (of_decide_eq_true rfl)
  have c3_B0_5 : w2.cell? ⟨w.heap.size, 5, none⟩ = some (.int .i64 p.2.2.2.2.2) := B0_2.c 5 (of_decide_eq_true rfl)
  go_wp2_with fail
  refine (long_any p.2.2.2 _).mono ?_
  rintro e w3 ⟨rfl, k3⟩
  rw [l1]
  try dsimp only
  have K3 : Below w.heap.size w w3 := bel_then K2 k3
  have B0_3 : Arr w.heap.size [.int .i64 p.1, .int .i64 p.2.1, .int .i64 p.2.2.1, .int .i64 p.2.2.2.1, .int .i64 p.2.2.2.2.1, .int .i64 p.2.2.2.2.2] w3 := B0_2.below k3
  have B1_3 : Arr (w.heap.size + 1) [.int .i64 q.1, .int .i64 q.2.1, .int .i64 q.2.2.1, .int .i64 q.2.2.2.1, .int .i64 q.2.2.2.2.1, .int .i64 q.2.2.2.2.2] w3 := B1_2.below k3
  have z3 := B1_3.lies
  clear c3_B0_3 c3_B0_4 c3_B0_5 K2 B0_2 B1_2 k3
  have c4_B1_0 : w3.cell? ⟨w.heap.size + 1, 0, none⟩ = some (.int .i64 q.1) := B1_3.c 0 (of_decide_eq_true rfl)
  have c4_B1_1 : w3.cell? ⟨w.heap.size + 1, 1, none⟩ = some (.int .i64 q.2.1) := B1_3.c 1 (of_decide_eq_true rfl)
  have c4_B1_2 : w3.cell? ⟨w.heap.size + 1, 2, none⟩ = some (.int .i64 q.2.2.1) := B1_3.c 2 (of_decide_eq_true rfl)
  go_wp2_with fail
  refine (long_any (q.1, q.2.1, q.2.2.1) _).mono ?_
  rintro e w4 ⟨rfl, k4⟩
  rw [l2]
  try dsimp only
  have K4 : Below w.heap.size w w4 := bel_then K3 k4
  have B0_4 : Arr w.heap.size [.int .i64 p.1, .int .i64 p.2.1, .int .i64 p.2.2.1, .int .i64 p.2.2.2.1, .int .i64 p.2.2.2.2.1, .int .i64 p.2.2.2.2.2] w4 := B0_3.below k4
  have B1_4 : Arr (w.heap.size + 1) [.int .i64 q.1, .int .i64 q.2.1, .int .i64 q.2.2.1, .int .i64 q.2.2.2.1, .int .i64 q.2.2.2.2.1, .int .i64 q.2.2.2.2.2] w4 := B1_3.below k4
  have z4 := B1_4.lies
  clear c4_B1_0 c4_B1_1 c4_B1_2 K3 B0_3 B1_3 k4
  go_wp2
  go_ret
  exact ⟨rfl, K4⟩
set_option maxRecDepth 100000 in
set_option maxHeartbeats 4000000 in
theorem TriadFirst_l3 (p : V6) (q : V6) (w : World) (l0 : longS (p.1, p.2.1, p.2.2.1) = true) (l1 : longS p.2.2.2 = true) (l2 : longS (q.1, q.2.1, q.2.2.1) = true) (l3 : longS q.2.2.2 = false) :
    Calls Try.prog 5 #[.agg #[.int .i64 p.1, .int .i64 p.2.1, .int .i64 p.2.2.1, .int .i64 p.2.2.2.1, .int .i64 p.2.2.2.2.1, .int .i64 p.2.2.2.2.2], .agg #[.int .i64 q.1, .int .i64 q.2.1, .int .i64 q.2.2.1, .int .i64 q.2.2.2.1, .int .i64 q.2.2.2.2.1, .int .i64 q.2.2.2.2.2]] w fun e w' => e = .returned (.bool true) ∧ Below w.heap.size w w' := by
  go_enter Try.func5, Try.ntmps5
  have y22_low : w.heap.size ≤ w.heap.size := (Below.refl w.heap.size w).size
  have y23_B0 : w.heap.size < w.heap.size + 1 := (Nat.lt_succ_self _)
  have y23_low : w.heap.size ≤ w.heap.size + 1 := (Nat.le_succ_of_le (Below.refl w.heap.size w).size)
  go_wp2_with fail
  refine (awake_any  _).mono ?_
  rintro e w1 ⟨rfl, k1⟩
  have K1 : Below w.heap.size w w1 := bel_then (bel_al (bel_al (Below.refl w.heap.size w) _) _) k1
  have B0_1 : Arr w.heap.size [.int .i64 p.1, .int .i64 p.2.1, .int .i64 p.2.2.1, .int .i64 p.2.2.2.1, .int .i64 p.2.2.2.2.1, .int .i64 p.2.2.2.2.2] w1 := ((Arr_at _ _ [.int .i64 p.1, .int .i64 p.2.1, .int .i64 p.2.2.1, .int .i64 p.2.2.2.1, .int .i64 p.2.2.2.2.1, .int .i64 p.2.2.2.2.2] _ (by simp)).alloc _).below k1
  have B1_1 : Arr (w.heap.size + 1) [.int .i64 q.1, .int .i64 q.2.1, .int .i64 q.2.2.1, .int .i64 q.2.2.2.1, .int .i64 q.2.2.2.2.1, .int .i64 q.2.2.2.2.2] w1 := (Arr_at _ _ [.int .i64 q.1, .int .i64 q.2.1, .int .i64 q.2.2.1, .int .i64 q.2.2.2.1, .int .i64 q.2.2.2.2.1, .int .i64 q.2.2.2.2.2] _ (by simp)).below k1
  have z1 := B1_1.lies
  clear k1
  have c2_B0_0 : w1.cell? ⟨w.heap.size, 0, none⟩ = some (.int .i64 p.1) := B0_1.c 0 (of_decide_eq_true rfl)
  have c2_B0_1 : w1.cell? ⟨w.heap.size, 1, none⟩ = some (.int .i64 p.2.1) := B0_1.c 1 (of_decide_eq_true rfl)
  have c2_B0_2 : w1.cell? ⟨w.heap.size, 2, none⟩ = some (.int .i64 p.2.2.1) := B0_1.c 2 (of_decide_eq_true rfl)
  go_wp2_with fail
  refine (long_any (p.1, p.2.1, p.2.2.1) _).mono ?_
  rintro e w2 ⟨rfl, k2⟩
  rw [l0]
  try dsimp only
  have K2 : Below w.heap.size w w2 := bel_then K1 k2
  have B0_2 : Arr w.heap.size [.int .i64 p.1, .int .i64 p.2.1, .int .i64 p.2.2.1, .int .i64 p.2.2.2.1, .int .i64 p.2.2.2.2.1, .int .i64 p.2.2.2.2.2] w2 := B0_1.below k2
  have B1_2 : Arr (w.heap.size + 1) [.int .i64 q.1, .int .i64 q.2.1, .int .i64 q.2.2.1, .int .i64 q.2.2.2.1, .int .i64 q.2.2.2.2.1, .int .i64 q.2.2.2.2.2] w2 := B1_1.below k2
  have z2 := B1_2.lies
  clear c2_B0_0 c2_B0_1 c2_B0_2 K1 B0_1 B1_1 k2
  have c3_B0_3 : w2.cell? ⟨w.heap.size, 3, none⟩ = some (.int .i64 p.2.2.2.1) := B0_2.c 3 (of_decide_eq_true rfl)
  have c3_B0_4 : w2.cell? ⟨w.heap.size, 4, none⟩ = some (.int .i64 p.2.2.2.2.1) := B0_2.c 4 (of_decide_eq_true rfl)
  have c3_B0_5 : w2.cell? ⟨w.heap.size, 5, none⟩ = some (.int .i64 p.2.2.2.2.2) := B0_2.c 5 (of_decide_eq_true rfl)
  go_wp2_with fail
  refine (long_any p.2.2.2 _).mono ?_
  rintro e w3 ⟨rfl, k3⟩
  rw [l1]
  try dsimp only
  have K3 : Below w.heap.size w w3 := bel_then K2 k3
  have B0_3 : Arr w.heap.size [.int .i64 p.1, .int .i64 p.2.1, .int .i64 p.2.2.1, .int .i64 p.2.2.2.1, .int .i64 p.2.2.2.2.1, .int .i64 p.2.2.2.2.2] w3 := B0_2.below k3
  have B1_3 : Arr (w.heap.size + 1) [.int .i64 q.1, .int .i64 q.2.1, .int .i64 q.2.2.1, .int .i64 q.2.2.2.1, .int .i64 q.2.2.2.2.1, .int .i64 q.2.2.2.2.2] w3 := B1_2.below k3
  have z3 := B1_3.lies
  clear c3_B0_3 c3_B0_4 c3_B0_5 K2 B0_2 B1_2 k3
  have c4_B1_0 : w3.cell? ⟨w.heap.size + 1, 0, none⟩ = some (.int .i64 q.1) := B1_3.c 0 (of_decide_eq_true rfl)
  have c4_B1_1 : w3.cell? ⟨w.heap.size + 1, 1, none⟩ = some (.int .i64 q.2.1) := B1_3.c 1 (of_decide_eq_true rfl)
  have c4_B1_2 : w3.cell? ⟨w.heap.size + 1, 2, none⟩ = some (.int .i64 q.2.2.1) := B1_3.c 2 (of_decide_eq_true rfl)
  go_wp2_with fail
  refine (long_any (q.1, q.2.1, q.2.2.1) _).mono ?_
  rintro e w4 ⟨rfl, k4⟩
  rw [l2]
  try dsimp only
  have K4 : Below w.heap.size w w4 := bel_then K3 k4
  have B0_4 : Arr w.heap.size [.int .i64 p.1, .int .i64 p.2.1, .int .i64 p.2.2.1, .int .i64 p.2.2.2.1, .int .i64 p.2.2.2.2.1, .int .i64 p.2.2.2.2.2] w4 := B0_3.below k4
  have B1_4 : Arr (w.heap.size + 1) [.int .i64 q.1, .int .i64 q.2.1, .int .i64 q.2.2.1, .int .i64 q.2.2.2.1, .int .i64 q.2.2.2.2.1, .int .i64 q.2.2.2.2.2] w4 := B1_3.below k4
  have z4 := B1_4.lies
  clear c4_B1_0 c4_B1_1 c4_B1_2 K3 B0_3 B1_3 k4
  have c5_B1_3 : w4.cell? ⟨w.heap.size + 1, 3, none⟩ = some (.int .i64 q.2.2.2.1) := B1_4.c 3 (of_decide_eq_true rfl)
  have c5_B1_4 : w4.cell? ⟨w.heap.size + 1, 4, none⟩ = some (.int .i64 q.2.2.2.2.1) := B1_4.c 4 (of_decide_eq_true rfl)
  have c5_B1_5 : w4.cell? ⟨w.heap.size + 1, 5, none⟩ = some (.int .i64 q.2.2.2.2.2) := B1_4.c 5 (of_decide_eq_true rfl)
  go_wp2_with fail
  refine (long_any q.2.2.2 _).mono ?_
  rintro e w5 ⟨rfl, k5⟩
  rw [l3]
  try dsimp only
  have K5 : Below w.heap.size w w5 := bel_then K4 k5
  have B0_5 : Arr w.heap.size [.int .i64 p.1, .int .i64 p.2.1, .int .i64 p.2.2.1, .int .i64 p.2.2.2.1, .int .i64 p.2.2.2.2.1, .int .i64 p.2.2.2.2.2] w5 := B0_4.below k5
  have B1_5 : Arr (w.heap.size + 1) [.int .i64 q.1, .int .i64 q.2.1, .int .i64 q.2.2.1, .int .i64 q.2.2.2.1, .int .i64 q.2.2.2.2.1, .int .i64 q.2.2.2.2.2] w5 := B1_4.below k5
  have z5 := B1_5.lies
  clear c5_B1_3 c5_B1_4 c5_B1_5 K4 B0_4 B1_4 k5
  go_wp2
  go_ret
  exact ⟨rfl, K5⟩
set_option maxRecDepth 100000 in
set_option maxHeartbeats 4000000 in
theorem TriadFirst_bad (p : V6) (q : V6) (w : World) (l0 : longS (p.1, p.2.1, p.2.2.1) = true) (l1 : longS p.2.2.2 = true) (l2 : longS (q.1, q.2.1, q.2.2.1) = true) (l3 : longS q.2.2.2 = true) (ha : dAttitudeS false p q = ((0, 0, 0, 0), true)) :
    Calls Try.prog 5 #[.agg #[.int .i64 p.1, .int .i64 p.2.1, .int .i64 p.2.2.1, .int .i64 p.2.2.2.1, .int .i64 p.2.2.2.2.1, .int .i64 p.2.2.2.2.2], .agg #[.int .i64 q.1, .int .i64 q.2.1, .int .i64 q.2.2.1, .int .i64 q.2.2.2.1, .int .i64 q.2.2.2.2.1, .int .i64 q.2.2.2.2.2]] w fun e w' => e = .returned (.bool true) ∧ Below w.heap.size w w' := by
  go_enter Try.func5, Try.ntmps5
  have y24_low : w.heap.size ≤ w.heap.size := (Below.refl w.heap.size w).size
  have y25_B0 : w.heap.size < w.heap.size + 1 := (Nat.lt_succ_self _)
  have y25_low : w.heap.size ≤ w.heap.size + 1 := (Nat.le_succ_of_le (Below.refl w.heap.size w).size)
  go_wp2_with fail
  refine (awake_any  _).mono ?_
  rintro e w1 ⟨rfl, k1⟩
  have K1 : Below w.heap.size w w1 := bel_then (bel_al (bel_al (Below.refl w.heap.size w) _) _) k1
  have B0_1 : Arr w.heap.size [.int .i64 p.1, .int .i64 p.2.1, .int .i64 p.2.2.1, .int .i64 p.2.2.2.1, .int .i64 p.2.2.2.2.1, .int .i64 p.2.2.2.2.2] w1 := ((Arr_at _ _ [.int .i64 p.1, .int .i64 p.2.1, .int .i64 p.2.2.1, .int .i64 p.2.2.2.1, .int .i64 p.2.2.2.2.1, .int .i64 p.2.2.2.2.2] _ (by simp)).alloc _).below k1
  have B1_1 : Arr (w.heap.size + 1) [.int .i64 q.1, .int .i64 q.2.1, .int .i64 q.2.2.1, .int .i64 q.2.2.2.1, .int .i64 q.2.2.2.2.1, .int .i64 q.2.2.2.2.2] w1 := (Arr_at _ _ [.int .i64 q.1, .int .i64 q.2.1, .int .i64 q.2.2.1, .int .i64 q.2.2.2.1, .int .i64 q.2.2.2.2.1, .int .i64 q.2.2.2.2.2] _ (by simp)).below k1
  have z1 := B1_1.lies
  clear k1
  have c2_B0_0 : w1.cell? ⟨w.heap.size, 0, none⟩ = some (.int .i64 p.1) := B0_1.c 0 (of_decide_eq_true rfl)
  have c2_B0_1 : w1.cell? ⟨w.heap.size, 1, none⟩ = some (.int .i64 p.2.1) := B0_1.c 1 (of_decide_eq_true rfl)
  have c2_B0_2 : w1.cell? ⟨w.heap.size, 2, none⟩ = some (.int .i64 p.2.2.1) := B0_1.c 2 (of_decide_eq_true rfl)
  go_wp2_with fail
  refine (long_any (p.1, p.2.1, p.2.2.1) _).mono ?_
  rintro e w2 ⟨rfl, k2⟩
  rw [l0]
  try dsimp only
  have K2 : Below w.heap.size w w2 := bel_then K1 k2
  have B0_2 : Arr w.heap.size [.int .i64 p.1, .int .i64 p.2.1, .int .i64 p.2.2.1, .int .i64 p.2.2.2.1, .int .i64 p.2.2.2.2.1, .int .i64 p.2.2.2.2.2] w2 := B0_1.below k2
  have B1_2 : Arr (w.heap.size + 1) [.int .i64 q.1, .int .i64 q.2.1, .int .i64 q.2.2.1, .int .i64 q.2.2.2.1, .int .i64 q.2.2.2.2.1, .int .i64 q.2.2.2.2.2] w2 := B1_1.below k2
  have z2 := B1_2.lies
  clear c2_B0_0 c2_B0_1 c2_B0_2 K1 B0_1 B1_1 k2
  have c3_B0_3 : w2.cell? ⟨w.heap.size, 3, none⟩ = some (.int .i64 p.2.2.2.1) := B0_2.c 3 (of_decide_eq_true rfl)
  have c3_B0_4 : w2.cell? ⟨w.heap.size, 4, none⟩ = some (.int .i64 p.2.2.2.2.1) := B0_2.c 4 (of_decide_eq_true rfl)
  have c3_B0_5 : w2.cell? ⟨w.heap.size, 5, none⟩ = some (.int .i64 p.2.2.2.2.2) := B0_2.c 5 (of_decide_eq_true rfl)
  go_wp2_with fail
  refine (long_any p.2.2.2 _).mono ?_
  rintro e w3 ⟨rfl, k3⟩
  rw [l1]
  try dsimp only
  have K3 : Below w.heap.size w w3 := bel_then K2 k3
  have B0_3 : Arr w.heap.size [.int .i64 p.1, .int .i64 p.2.1, .int .i64 p.2.2.1, .int .i64 p.2.2.2.1, .int .i64 p.2.2.2.2.1, .int .i64 p.2.2.2.2.2] w3 := B0_2.below k3
  have B1_3 : Arr (w.heap.size + 1) [.int .i64 q.1, .int .i64 q.2.1, .int .i64 q.2.2.1, .int .i64 q.2.2.2.1, .int .i64 q.2.2.2.2.1, .int .i64 q.2.2.2.2.2] w3 := B1_2.below k3
  have z3 := B1_3.lies
  clear c3_B0_3 c3_B0_4 c3_B0_5 K2 B0_2 B1_2 k3
  have c4_B1_0 : w3.cell? ⟨w.heap.size + 1, 0, none⟩ = some (.int .i64 q.1) := B1_3.c 0 (of_decide_eq_true rfl)
  have c4_B1_1 : w3.cell? ⟨w.heap.size + 1, 1, none⟩ = some (.int .i64 q.2.1) := B1_3.c 1 (of_decide_eq_true rfl)
  have c4_B1_2 : w3.cell? ⟨w.heap.size + 1, 2, none⟩ = some (.int .i64 q.2.2.1) := B1_3.c 2 (of_decide_eq_true rfl)
  go_wp2_with fail
  refine (long_any (q.1, q.2.1, q.2.2.1) _).mono ?_
  rintro e w4 ⟨rfl, k4⟩
  rw [l2]
  try dsimp only
  have K4 : Below w.heap.size w w4 := bel_then K3 k4
  have B0_4 : Arr w.heap.size [.int .i64 p.1, .int .i64 p.2.1, .int .i64 p.2.2.1, .int .i64 p.2.2.2.1, .int .i64 p.2.2.2.2.1, .int .i64 p.2.2.2.2.2] w4 := B0_3.below k4
  have B1_4 : Arr (w.heap.size + 1) [.int .i64 q.1, .int .i64 q.2.1, .int .i64 q.2.2.1, .int .i64 q.2.2.2.1, .int .i64 q.2.2.2.2.1, .int .i64 q.2.2.2.2.2] w4 := B1_3.below k4
  have z4 := B1_4.lies
  clear c4_B1_0 c4_B1_1 c4_B1_2 K3 B0_3 B1_3 k4
  have c5_B1_3 : w4.cell? ⟨w.heap.size + 1, 3, none⟩ = some (.int .i64 q.2.2.2.1) := B1_4.c 3 (of_decide_eq_true rfl)
  have c5_B1_4 : w4.cell? ⟨w.heap.size + 1, 4, none⟩ = some (.int .i64 q.2.2.2.2.1) := B1_4.c 4 (of_decide_eq_true rfl)
  have c5_B1_5 : w4.cell? ⟨w.heap.size + 1, 5, none⟩ = some (.int .i64 q.2.2.2.2.2) := B1_4.c 5 (of_decide_eq_true rfl)
  go_wp2_with fail
  refine (long_any q.2.2.2 _).mono ?_
  rintro e w5 ⟨rfl, k5⟩
  rw [l3]
  try dsimp only
  have K5 : Below w.heap.size w w5 := bel_then K4 k5
  have B0_5 : Arr w.heap.size [.int .i64 p.1, .int .i64 p.2.1, .int .i64 p.2.2.1, .int .i64 p.2.2.2.1, .int .i64 p.2.2.2.2.1, .int .i64 p.2.2.2.2.2] w5 := B0_4.below k5
  have B1_5 : Arr (w.heap.size + 1) [.int .i64 q.1, .int .i64 q.2.1, .int .i64 q.2.2.1, .int .i64 q.2.2.2.1, .int .i64 q.2.2.2.2.1, .int .i64 q.2.2.2.2.2] w5 := B1_4.below k5
  have z5 := B1_5.lies
  clear c5_B1_3 c5_B1_4 c5_B1_5 K4 B0_4 B1_4 k5
  have y26_B0 : w.heap.size < w5.heap.size := B0_5.lies
  have y26_B1 : w.heap.size + 1 < w5.heap.size := B1_5.lies
  have y26_low : w.heap.size ≤ w5.heap.size := K5.size
  have c6_B0_0 : w5.cell? ⟨w.heap.size, 0, none⟩ = some (.int .i64 p.1) := B0_5.c 0 (of_decide_eq_true rfl)
  have c6_B0_1 : w5.cell? ⟨w.heap.size, 1, none⟩ = some (.int .i64 p.2.1) := B0_5.c 1 (of_decide_eq_true rfl)
  have c6_B0_2 : w5.cell? ⟨w.heap.size, 2, none⟩ = some (.int .i64 p.2.2.1) := B0_5.c 2 (of_decide_eq_true rfl)
  have c6_B0_3 : w5.cell? ⟨w.heap.size, 3, none⟩ = some (.int .i64 p.2.2.2.1) := B0_5.c 3 (of_decide_eq_true rfl)
  have c6_B0_4 : w5.cell? ⟨w.heap.size, 4, none⟩ = some (.int .i64 p.2.2.2.2.1) := B0_5.c 4 (of_decide_eq_true rfl)
  have c6_B0_5 : w5.cell? ⟨w.heap.size, 5, none⟩ = some (.int .i64 p.2.2.2.2.2) := B0_5.c 5 (of_decide_eq_true rfl)
  have c6_B1_0 : w5.cell? ⟨w.heap.size + 1, 0, none⟩ = some (.int .i64 q.1) := B1_5.c 0 (of_decide_eq_true rfl)
  have c6_B1_1 : w5.cell? ⟨w.heap.size + 1, 1, none⟩ = some (.int .i64 q.2.1) := B1_5.c 1 (of_decide_eq_true rfl)
  have c6_B1_2 : w5.cell? ⟨w.heap.size + 1, 2, none⟩ = some (.int .i64 q.2.2.1) := B1_5.c 2 (of_decide_eq_true rfl)
  have c6_B1_3 : w5.cell? ⟨w.heap.size + 1, 3, none⟩ = some (.int .i64 q.2.2.2.1) := B1_5.c 3 (of_decide_eq_true rfl)
  have c6_B1_4 : w5.cell? ⟨w.heap.size + 1, 4, none⟩ = some (.int .i64 q.2.2.2.2.1) := B1_5.c 4 (of_decide_eq_true rfl)
  have c6_B1_5 : w5.cell? ⟨w.heap.size + 1, 5, none⟩ = some (.int .i64 q.2.2.2.2.2) := B1_5.c 5 (of_decide_eq_true rfl)
  have l6_B0 := B0_5.lies
  have l6_B1 := B1_5.lies
  go_wp2_with fail
  refine (dAttitude_any w5.heap.size false p q _ (Fl_at _ _ _ _ (by simp))).mono ?_
  rintro e w6 ⟨rfl, f6, k6⟩
  rw [ha] at f6 ⊢
  dsimp only at f6 ⊢
  have K6 : Below w.heap.size w w6 := k6.on (bel_al K5 _) (by omega)
  have B0_6 : Arr w.heap.size [.int .i64 p.1, .int .i64 p.2.1, .int .i64 p.2.2.1, .int .i64 p.2.2.2.1, .int .i64 p.2.2.2.2.1, .int .i64 p.2.2.2.2.2] w6 := (B0_5.alloc _).kept k6 (Nat.ne_of_lt y26_B0)
  have B1_6 : Arr (w.heap.size + 1) [.int .i64 q.1, .int .i64 q.2.1, .int .i64 q.2.2.1, .int .i64 q.2.2.2.1, .int .i64 q.2.2.2.2.1, .int .i64 q.2.2.2.2.2] w6 := (B1_5.alloc _).kept k6 (Nat.ne_of_lt y26_B1)
  have z6 := f6.lies
  clear c6_B0_0 c6_B0_1 c6_B0_2 c6_B0_3 c6_B0_4 c6_B0_5 c6_B1_0 c6_B1_1 c6_B1_2 c6_B1_3 c6_B1_4 c6_B1_5 l6_B0 l6_B1 K5 B0_5 B1_5 k6
  have y27_B0 : w.heap.size < w6.heap.size := B0_6.lies
  have y27_B1 : w.heap.size + 1 < w6.heap.size := B1_6.lies
  have y27_B2 : w5.heap.size < w6.heap.size := f6.lies
  have y27_low : w.heap.size ≤ w6.heap.size := K6.size
  have c7_B2 := f6.cell
  have l7_B2 := f6.lies
  go_wp2
  clear c7_B2 l7_B2
  go_ret
  exact ⟨rfl, (bel_al K6 _)⟩
set_option maxRecDepth 100000 in
set_option maxHeartbeats 4000000 in
theorem TriadFirst_good (p : V6) (q : V6) (w : World) (a0 a1 a2 a3 u0 u1 u2 t0 t1 t2 x0 x1 x2 : Int) (l0 : longS (p.1, p.2.1, p.2.2.1) = true) (l1 : longS p.2.2.2 = true) (l2 : longS (q.1, q.2.1, q.2.2.1) = true) (l3 : longS q.2.2.2 = true) (ha : dAttitudeS false p q = ((a0, a1, a2, a3), false)) (hu : vUnitS false (p.1, p.2.1, p.2.2.1) = ((u0, u1, u2), false)) (ht : qTurnS false (a0, a1, a2, a3) (u0, u1, u2) = ((t0, t1, t2), false)) (hx : vUnitS false (q.1, q.2.1, q.2.2.1) = ((x0, x1, x2), false)) (n0 : -4096 ≤ t0 - x0 ∧ t0 - x0 ≤ 4096) (n1 : -4096 ≤ t1 - x1 ∧ t1 - x1 ≤ 4096) (n2 : -4096 ≤ t2 - x2 ∧ t2 - x2 ≤ 4096) (hn : near5S (t0, t1, t2) (x0, x1, x2) = true) :
    Calls Try.prog 5 #[.agg #[.int .i64 p.1, .int .i64 p.2.1, .int .i64 p.2.2.1, .int .i64 p.2.2.2.1, .int .i64 p.2.2.2.2.1, .int .i64 p.2.2.2.2.2], .agg #[.int .i64 q.1, .int .i64 q.2.1, .int .i64 q.2.2.1, .int .i64 q.2.2.2.1, .int .i64 q.2.2.2.2.1, .int .i64 q.2.2.2.2.2]] w fun e w' => e = .returned (.bool true) ∧ Below w.heap.size w w' := by
  go_enter Try.func5, Try.ntmps5
  have y28_low : w.heap.size ≤ w.heap.size := (Below.refl w.heap.size w).size
  have y29_B0 : w.heap.size < w.heap.size + 1 := (Nat.lt_succ_self _)
  have y29_low : w.heap.size ≤ w.heap.size + 1 := (Nat.le_succ_of_le (Below.refl w.heap.size w).size)
  go_wp2_with fail
  refine (awake_any  _).mono ?_
  rintro e w1 ⟨rfl, k1⟩
  have K1 : Below w.heap.size w w1 := bel_then (bel_al (bel_al (Below.refl w.heap.size w) _) _) k1
  have B0_1 : Arr w.heap.size [.int .i64 p.1, .int .i64 p.2.1, .int .i64 p.2.2.1, .int .i64 p.2.2.2.1, .int .i64 p.2.2.2.2.1, .int .i64 p.2.2.2.2.2] w1 := ((Arr_at _ _ [.int .i64 p.1, .int .i64 p.2.1, .int .i64 p.2.2.1, .int .i64 p.2.2.2.1, .int .i64 p.2.2.2.2.1, .int .i64 p.2.2.2.2.2] _ (by simp)).alloc _).below k1
  have B1_1 : Arr (w.heap.size + 1) [.int .i64 q.1, .int .i64 q.2.1, .int .i64 q.2.2.1, .int .i64 q.2.2.2.1, .int .i64 q.2.2.2.2.1, .int .i64 q.2.2.2.2.2] w1 := (Arr_at _ _ [.int .i64 q.1, .int .i64 q.2.1, .int .i64 q.2.2.1, .int .i64 q.2.2.2.1, .int .i64 q.2.2.2.2.1, .int .i64 q.2.2.2.2.2] _ (by simp)).below k1
  have z1 := B1_1.lies
  clear k1
  have c2_B0_0 : w1.cell? ⟨w.heap.size, 0, none⟩ = some (.int .i64 p.1) := B0_1.c 0 (of_decide_eq_true rfl)
  have c2_B0_1 : w1.cell? ⟨w.heap.size, 1, none⟩ = some (.int .i64 p.2.1) := B0_1.c 1 (of_decide_eq_true rfl)
  have c2_B0_2 : w1.cell? ⟨w.heap.size, 2, none⟩ = some (.int .i64 p.2.2.1) := B0_1.c 2 (of_decide_eq_true rfl)
  go_wp2_with fail
  refine (long_any (p.1, p.2.1, p.2.2.1) _).mono ?_
  rintro e w2 ⟨rfl, k2⟩
  rw [l0]
  try dsimp only
  have K2 : Below w.heap.size w w2 := bel_then K1 k2
  have B0_2 : Arr w.heap.size [.int .i64 p.1, .int .i64 p.2.1, .int .i64 p.2.2.1, .int .i64 p.2.2.2.1, .int .i64 p.2.2.2.2.1, .int .i64 p.2.2.2.2.2] w2 := B0_1.below k2
  have B1_2 : Arr (w.heap.size + 1) [.int .i64 q.1, .int .i64 q.2.1, .int .i64 q.2.2.1, .int .i64 q.2.2.2.1, .int .i64 q.2.2.2.2.1, .int .i64 q.2.2.2.2.2] w2 := B1_1.below k2
  have z2 := B1_2.lies
  clear c2_B0_0 c2_B0_1 c2_B0_2 K1 B0_1 B1_1 k2
  have c3_B0_3 : w2.cell? ⟨w.heap.size, 3, none⟩ = some (.int .i64 p.2.2.2.1) := B0_2.c 3 (of_decide_eq_true rfl)
  have c3_B0_4 : w2.cell? ⟨w.heap.size, 4, none⟩ = some (.int .i64 p.2.2.2.2.1) := B0_2.c 4 (of_decide_eq_true rfl)
  have c3_B0_5 : w2.cell? ⟨w.heap.size, 5, none⟩ = some (.int .i64 p.2.2.2.2.2) := B0_2.c 5 (of_decide_eq_true rfl)
  go_wp2_with fail
  refine (long_any p.2.2.2 _).mono ?_
  rintro e w3 ⟨rfl, k3⟩
  rw [l1]
  try dsimp only
  have K3 : Below w.heap.size w w3 := bel_then K2 k3
  have B0_3 : Arr w.heap.size [.int .i64 p.1, .int .i64 p.2.1, .int .i64 p.2.2.1, .int .i64 p.2.2.2.1, .int .i64 p.2.2.2.2.1, .int .i64 p.2.2.2.2.2] w3 := B0_2.below k3
  have B1_3 : Arr (w.heap.size + 1) [.int .i64 q.1, .int .i64 q.2.1, .int .i64 q.2.2.1, .int .i64 q.2.2.2.1, .int .i64 q.2.2.2.2.1, .int .i64 q.2.2.2.2.2] w3 := B1_2.below k3
  have z3 := B1_3.lies
  clear c3_B0_3 c3_B0_4 c3_B0_5 K2 B0_2 B1_2 k3
  have c4_B1_0 : w3.cell? ⟨w.heap.size + 1, 0, none⟩ = some (.int .i64 q.1) := B1_3.c 0 (of_decide_eq_true rfl)
  have c4_B1_1 : w3.cell? ⟨w.heap.size + 1, 1, none⟩ = some (.int .i64 q.2.1) := B1_3.c 1 (of_decide_eq_true rfl)
  have c4_B1_2 : w3.cell? ⟨w.heap.size + 1, 2, none⟩ = some (.int .i64 q.2.2.1) := B1_3.c 2 (of_decide_eq_true rfl)
  go_wp2_with fail
  refine (long_any (q.1, q.2.1, q.2.2.1) _).mono ?_
  rintro e w4 ⟨rfl, k4⟩
  rw [l2]
  try dsimp only
  have K4 : Below w.heap.size w w4 := bel_then K3 k4
  have B0_4 : Arr w.heap.size [.int .i64 p.1, .int .i64 p.2.1, .int .i64 p.2.2.1, .int .i64 p.2.2.2.1, .int .i64 p.2.2.2.2.1, .int .i64 p.2.2.2.2.2] w4 := B0_3.below k4
  have B1_4 : Arr (w.heap.size + 1) [.int .i64 q.1, .int .i64 q.2.1, .int .i64 q.2.2.1, .int .i64 q.2.2.2.1, .int .i64 q.2.2.2.2.1, .int .i64 q.2.2.2.2.2] w4 := B1_3.below k4
  have z4 := B1_4.lies
  clear c4_B1_0 c4_B1_1 c4_B1_2 K3 B0_3 B1_3 k4
  have c5_B1_3 : w4.cell? ⟨w.heap.size + 1, 3, none⟩ = some (.int .i64 q.2.2.2.1) := B1_4.c 3 (of_decide_eq_true rfl)
  have c5_B1_4 : w4.cell? ⟨w.heap.size + 1, 4, none⟩ = some (.int .i64 q.2.2.2.2.1) := B1_4.c 4 (of_decide_eq_true rfl)
  have c5_B1_5 : w4.cell? ⟨w.heap.size + 1, 5, none⟩ = some (.int .i64 q.2.2.2.2.2) := B1_4.c 5 (of_decide_eq_true rfl)
  go_wp2_with fail
  refine (long_any q.2.2.2 _).mono ?_
  rintro e w5 ⟨rfl, k5⟩
  rw [l3]
  try dsimp only
  have K5 : Below w.heap.size w w5 := bel_then K4 k5
  have B0_5 : Arr w.heap.size [.int .i64 p.1, .int .i64 p.2.1, .int .i64 p.2.2.1, .int .i64 p.2.2.2.1, .int .i64 p.2.2.2.2.1, .int .i64 p.2.2.2.2.2] w5 := B0_4.below k5
  have B1_5 : Arr (w.heap.size + 1) [.int .i64 q.1, .int .i64 q.2.1, .int .i64 q.2.2.1, .int .i64 q.2.2.2.1, .int .i64 q.2.2.2.2.1, .int .i64 q.2.2.2.2.2] w5 := B1_4.below k5
  have z5 := B1_5.lies
  clear c5_B1_3 c5_B1_4 c5_B1_5 K4 B0_4 B1_4 k5
  have y30_B0 : w.heap.size < w5.heap.size := B0_5.lies
  have y30_B1 : w.heap.size + 1 < w5.heap.size := B1_5.lies
  have y30_low : w.heap.size ≤ w5.heap.size := K5.size
  have c6_B0_0 : w5.cell? ⟨w.heap.size, 0, none⟩ = some (.int .i64 p.1) := B0_5.c 0 (of_decide_eq_true rfl)
  have c6_B0_1 : w5.cell? ⟨w.heap.size, 1, none⟩ = some (.int .i64 p.2.1) := B0_5.c 1 (of_decide_eq_true rfl)
  have c6_B0_2 : w5.cell? ⟨w.heap.size, 2, none⟩ = some (.int .i64 p.2.2.1) := B0_5.c 2 (of_decide_eq_true rfl)
  have c6_B0_3 : w5.cell? ⟨w.heap.size, 3, none⟩ = some (.int .i64 p.2.2.2.1) := B0_5.c 3 (of_decide_eq_true rfl)
  have c6_B0_4 : w5.cell? ⟨w.heap.size, 4, none⟩ = some (.int .i64 p.2.2.2.2.1) := B0_5.c 4 (of_decide_eq_true rfl)
  have c6_B0_5 : w5.cell? ⟨w.heap.size, 5, none⟩ = some (.int .i64 p.2.2.2.2.2) := B0_5.c 5 (of_decide_eq_true rfl)
  have c6_B1_0 : w5.cell? ⟨w.heap.size + 1, 0, none⟩ = some (.int .i64 q.1) := B1_5.c 0 (of_decide_eq_true rfl)
  have c6_B1_1 : w5.cell? ⟨w.heap.size + 1, 1, none⟩ = some (.int .i64 q.2.1) := B1_5.c 1 (of_decide_eq_true rfl)
  have c6_B1_2 : w5.cell? ⟨w.heap.size + 1, 2, none⟩ = some (.int .i64 q.2.2.1) := B1_5.c 2 (of_decide_eq_true rfl)
  have c6_B1_3 : w5.cell? ⟨w.heap.size + 1, 3, none⟩ = some (.int .i64 q.2.2.2.1) := B1_5.c 3 (of_decide_eq_true rfl)
  have c6_B1_4 : w5.cell? ⟨w.heap.size + 1, 4, none⟩ = some (.int .i64 q.2.2.2.2.1) := B1_5.c 4 (of_decide_eq_true rfl)
  have c6_B1_5 : w5.cell? ⟨w.heap.size + 1, 5, none⟩ = some (.int .i64 q.2.2.2.2.2) := B1_5.c 5 (of_decide_eq_true rfl)
  have l6_B0 := B0_5.lies
  have l6_B1 := B1_5.lies
  go_wp2_with fail
  refine (dAttitude_any w5.heap.size false p q _ (Fl_at _ _ _ _ (by simp))).mono ?_
  rintro e w6 ⟨rfl, f6, k6⟩
  rw [ha] at f6 ⊢
  dsimp only at f6 ⊢
  have K6 : Below w.heap.size w w6 := k6.on (bel_al K5 _) (by omega)
  have B0_6 : Arr w.heap.size [.int .i64 p.1, .int .i64 p.2.1, .int .i64 p.2.2.1, .int .i64 p.2.2.2.1, .int .i64 p.2.2.2.2.1, .int .i64 p.2.2.2.2.2] w6 := (B0_5.alloc _).kept k6 (Nat.ne_of_lt y30_B0)
  have B1_6 : Arr (w.heap.size + 1) [.int .i64 q.1, .int .i64 q.2.1, .int .i64 q.2.2.1, .int .i64 q.2.2.2.1, .int .i64 q.2.2.2.2.1, .int .i64 q.2.2.2.2.2] w6 := (B1_5.alloc _).kept k6 (Nat.ne_of_lt y30_B1)
  have z6 := f6.lies
  clear c6_B0_0 c6_B0_1 c6_B0_2 c6_B0_3 c6_B0_4 c6_B0_5 c6_B1_0 c6_B1_1 c6_B1_2 c6_B1_3 c6_B1_4 c6_B1_5 l6_B0 l6_B1 K5 B0_5 B1_5 k6
  have y31_B0 : w.heap.size < w6.heap.size := B0_6.lies
  have y31_B1 : w.heap.size + 1 < w6.heap.size := B1_6.lies
  have y31_B2 : w5.heap.size < w6.heap.size := f6.lies
  have y31_low : w.heap.size ≤ w6.heap.size := K6.size
  have c7_B2 := f6.cell
  have l7_B2 := f6.lies
  go_wp2_with fail
  clear c7_B2 l7_B2
  refine wp_region_held_drew (S := fun w' => Arr w6.heap.size [.int .i64 a0, .int .i64 a1, .int .i64 a2, .int .i64 a3] w' ∧ Arr w.heap.size [.int .i64 p.1, .int .i64 p.2.1, .int .i64 p.2.2.1, .int .i64 p.2.2.2.1, .int .i64 p.2.2.2.2.1, .int .i64 p.2.2.2.2.2] w' ∧ Arr (w.heap.size + 1) [.int .i64 q.1, .int .i64 q.2.1, .int .i64 q.2.2.1, .int .i64 q.2.2.2.1, .int .i64 q.2.2.2.2.1, .int .i64 q.2.2.2.2.2] w') (by kernel_rfl) ⟨(Arr_at _ _ [.int .i64 a0, .int .i64 a1, .int .i64 a2, .int .i64 a3] _ (by simp)).drew, (B0_6.alloc _).drew, (B1_6.alloc _).drew⟩ (fun hHeld => ?_)
  refine take_at (i := 0) (v := ?v1) rfl (by kernel_rfl) (by kernel_rfl) (by kernel_rfl) (fun _ _ _ h => h) (Or.inl ⟨by rfl, ?y1⟩) hHeld ?t1
  case y1 => (intro wx hSw; go_simp <;> with_reducible rfl)
  simp only [Act.put, List.setIfInBounds_toArray, List.set_cons_zero, List.set_cons_succ]
  refine take_at (i := 1) (v := ?v2) rfl (by kernel_rfl) (by kernel_rfl) (by kernel_rfl) (fun _ _ _ h => h) (Or.inl ⟨by rfl, ?y2⟩) hHeld ?t2
  case y2 => (intro wx hSw; have hc0 : wx.cell? ⟨w6.heap.size, 0, none⟩ = some (.int .i64 a0) := hSw.1.c 0 (of_decide_eq_true rfl); have hc1 : wx.cell? ⟨w6.heap.size, 1, none⟩ = some (.int .i64 a1) := hSw.1.c 1 (of_decide_eq_true rfl); have hc2 : wx.cell? ⟨w6.heap.size, 2, none⟩ = some (.int .i64 a2) := hSw.1.c 2 (of_decide_eq_true rfl); have hc3 : wx.cell? ⟨w6.heap.size, 3, none⟩ = some (.int .i64 a3) := hSw.1.c 3 (of_decide_eq_true rfl); go_simp <;> with_reducible rfl)
  simp only [Act.put, List.setIfInBounds_toArray, List.set_cons_zero, List.set_cons_succ]
  refine take_at (i := 2) (v := ?v3) rfl (by kernel_rfl) (by kernel_rfl) (by kernel_rfl) (fun _ _ _ h => h) (Or.inl ⟨by rfl, ?y3⟩) hHeld ?t3
  case y3 => (intro wx hSw; go_simp <;> with_reducible rfl)
  simp only [Act.put, List.setIfInBounds_toArray, List.set_cons_zero, List.set_cons_succ]
  refine take_at (i := 3) (v := ?v4) rfl (by kernel_rfl) (by kernel_rfl) (by kernel_rfl) (fun _ _ _ h => h) (Or.inl ⟨by rfl, ?y4⟩) hHeld ?t4
  case y4 => (intro wx hSw; go_simp <;> with_reducible rfl)
  simp only [Act.put, List.setIfInBounds_toArray, List.set_cons_zero, List.set_cons_succ]
  refine take_at (i := 4) (v := ?v5) rfl (by kernel_rfl) (by kernel_rfl) (by kernel_rfl) (fun _ _ _ h => h) (Or.inl ⟨by rfl, ?y5⟩) hHeld ?t5
  case y5 => (intro wx hSw; have hc0 : wx.cell? ⟨w.heap.size, 0, none⟩ = some (.int .i64 p.1) := hSw.2.1.c 0 (of_decide_eq_true rfl); have hc1 : wx.cell? ⟨w.heap.size, 1, none⟩ = some (.int .i64 p.2.1) := hSw.2.1.c 1 (of_decide_eq_true rfl); have hc2 : wx.cell? ⟨w.heap.size, 2, none⟩ = some (.int .i64 p.2.2.1) := hSw.2.1.c 2 (of_decide_eq_true rfl); go_simp <;> with_reducible rfl)
  simp only [Act.put, List.setIfInBounds_toArray, List.set_cons_zero, List.set_cons_succ]
  refine take_at (i := 7) (v := ?v6) rfl (by kernel_rfl) (by kernel_rfl) (by kernel_rfl) (fun _ _ _ h => h) (Or.inl ⟨by rfl, ?y6⟩) hHeld ?t6
  case y6 => (intro wx hSw; go_simp <;> with_reducible rfl)
  simp only [Act.put, List.setIfInBounds_toArray, List.set_cons_zero, List.set_cons_succ]
  refine take_at (i := 8) (v := ?v7) rfl (by kernel_rfl) (by kernel_rfl) (by kernel_rfl) (fun _ _ _ h => h) (Or.inl ⟨by rfl, ?y7⟩) hHeld ?t7
  case y7 => (intro wx hSw; go_simp <;> with_reducible rfl)
  simp only [Act.put, List.setIfInBounds_toArray, List.set_cons_zero, List.set_cons_succ]
  refine take_at (i := 9) (v := ?v8) rfl (by kernel_rfl) (by kernel_rfl) (by kernel_rfl) (fun _ _ _ h => h) (Or.inl ⟨by rfl, ?y8⟩) hHeld ?t8
  case y8 => (intro wx hSw; have hc0 : wx.cell? ⟨w.heap.size + 1, 0, none⟩ = some (.int .i64 q.1) := hSw.2.2.c 0 (of_decide_eq_true rfl); have hc1 : wx.cell? ⟨w.heap.size + 1, 1, none⟩ = some (.int .i64 q.2.1) := hSw.2.2.c 1 (of_decide_eq_true rfl); have hc2 : wx.cell? ⟨w.heap.size + 1, 2, none⟩ = some (.int .i64 q.2.2.1) := hSw.2.2.c 2 (of_decide_eq_true rfl); go_simp <;> with_reducible rfl)
  simp only [Act.put, List.setIfInBounds_toArray, List.set_cons_zero, List.set_cons_succ]
  refine call_at (i := 5) (by kernel_rfl) rfl (fun K hK => ?_)
  go_simp
  refine (vUnit_any w5.heap.size false (p.1, p.2.1, p.2.2.1) _ (f6.alloc _).drew).mono ?_
  rintro e w7 ⟨rfl, f7, k7⟩
  rw [hu] at f7 ⊢
  dsimp only at f7 ⊢
  have K7 : Below w.heap.size w w7 := k7.on (Below.drew (bel_al K6 _)) (by omega)
  have B0_7 : Arr w.heap.size [.int .i64 p.1, .int .i64 p.2.1, .int .i64 p.2.2.1, .int .i64 p.2.2.2.1, .int .i64 p.2.2.2.2.1, .int .i64 p.2.2.2.2.2] w7 := (B0_6.alloc _).drew.kept k7 (Nat.ne_of_lt y30_B0)
  have B1_7 : Arr (w.heap.size + 1) [.int .i64 q.1, .int .i64 q.2.1, .int .i64 q.2.2.1, .int .i64 q.2.2.2.1, .int .i64 q.2.2.2.2.1, .int .i64 q.2.2.2.2.2] w7 := (B1_6.alloc _).drew.kept k7 (Nat.ne_of_lt y30_B1)
  have B3_7 : Arr w6.heap.size [.int .i64 a0, .int .i64 a1, .int .i64 a2, .int .i64 a3] w7 := (Arr_at _ _ [.int .i64 a0, .int .i64 a1, .int .i64 a2, .int .i64 a3] _ (by simp)).drew.kept k7 (Nat.ne_of_gt y31_B2)
  have z7 := B3_7.lies
  clear hHeld
  refine hK.out _ _ ⟨B3_7, B0_7, B1_7⟩ (fun hHeld => ?_)
  clear hK K K6 B0_6 B1_6 f6 k7
  refine call_at (i := 6) (by kernel_rfl) rfl (fun K hK => ?_)
  go_simp
  refine (qTurn_any w5.heap.size false (a0, a1, a2, a3) (u0, u1, u2) _ f7).mono ?_
  rintro e w8 ⟨rfl, f8, k8⟩
  rw [ht] at f8 ⊢
  dsimp only at f8 ⊢
  have K8 : Below w.heap.size w w8 := k8.on K7 (by omega)
  have B0_8 : Arr w.heap.size [.int .i64 p.1, .int .i64 p.2.1, .int .i64 p.2.2.1, .int .i64 p.2.2.2.1, .int .i64 p.2.2.2.2.1, .int .i64 p.2.2.2.2.2] w8 := B0_7.kept k8 (Nat.ne_of_lt y30_B0)
  have B1_8 : Arr (w.heap.size + 1) [.int .i64 q.1, .int .i64 q.2.1, .int .i64 q.2.2.1, .int .i64 q.2.2.2.1, .int .i64 q.2.2.2.2.1, .int .i64 q.2.2.2.2.2] w8 := B1_7.kept k8 (Nat.ne_of_lt y30_B1)
  have B3_8 : Arr w6.heap.size [.int .i64 a0, .int .i64 a1, .int .i64 a2, .int .i64 a3] w8 := B3_7.kept k8 (Nat.ne_of_gt y31_B2)
  have z8 := B3_8.lies
  clear hHeld
  refine hK.out _ _ ⟨B3_8, B0_8, B1_8⟩ (fun hHeld => ?_)
  clear hK K K7 B0_7 B1_7 f7 B3_7 k8
  refine call_at (i := 10) (by kernel_rfl) rfl (fun K hK => ?_)
  go_simp
  refine (vUnit_any w5.heap.size false (q.1, q.2.1, q.2.2.1) _ f8).mono ?_
  rintro e w9 ⟨rfl, f9, k9⟩
  rw [hx] at f9 ⊢
  dsimp only at f9 ⊢
  have K9 : Below w.heap.size w w9 := k9.on K8 (by omega)
  have B0_9 : Arr w.heap.size [.int .i64 p.1, .int .i64 p.2.1, .int .i64 p.2.2.1, .int .i64 p.2.2.2.1, .int .i64 p.2.2.2.2.1, .int .i64 p.2.2.2.2.2] w9 := B0_8.kept k9 (Nat.ne_of_lt y30_B0)
  have B1_9 : Arr (w.heap.size + 1) [.int .i64 q.1, .int .i64 q.2.1, .int .i64 q.2.2.1, .int .i64 q.2.2.2.1, .int .i64 q.2.2.2.2.1, .int .i64 q.2.2.2.2.2] w9 := B1_8.kept k9 (Nat.ne_of_lt y30_B1)
  have B3_9 : Arr w6.heap.size [.int .i64 a0, .int .i64 a1, .int .i64 a2, .int .i64 a3] w9 := B3_8.kept k9 (Nat.ne_of_gt y31_B2)
  have z9 := B3_9.lies
  clear hHeld
  refine hK.out _ _ ⟨B3_9, B0_9, B1_9⟩ (fun hHeld => ?_)
  clear hK K K8 B0_8 B1_8 f8 B3_8 k9
  refine wpAnyH_swap (S := fun w' => Arr w6.heap.size [.int .i64 a0, .int .i64 a1, .int .i64 a2, .int .i64 a3] w' ∧ Arr w.heap.size [.int .i64 p.1, .int .i64 p.2.1, .int .i64 p.2.2.1, .int .i64 p.2.2.2.1, .int .i64 p.2.2.2.2.1, .int .i64 p.2.2.2.2.2] w' ∧ Arr (w.heap.size + 1) [.int .i64 q.1, .int .i64 q.2.1, .int .i64 q.2.2.1, .int .i64 q.2.2.2.1, .int .i64 q.2.2.2.2.1, .int .i64 q.2.2.2.2.2] w' ∧ Fl w5.heap.size false w') (fun _ h => ⟨h.1, h.2.1, h.2.2.1⟩) ?_
  clear hHeld
  have hHeld : Arr w6.heap.size [.int .i64 a0, .int .i64 a1, .int .i64 a2, .int .i64 a3] w9 ∧ Arr w.heap.size [.int .i64 p.1, .int .i64 p.2.1, .int .i64 p.2.2.1, .int .i64 p.2.2.2.1, .int .i64 p.2.2.2.2.1, .int .i64 p.2.2.2.2.2] w9 ∧ Arr (w.heap.size + 1) [.int .i64 q.1, .int .i64 q.2.1, .int .i64 q.2.2.1, .int .i64 q.2.2.2.1, .int .i64 q.2.2.2.2.1, .int .i64 q.2.2.2.2.2] w9 ∧ Fl w5.heap.size false w9 := ⟨B3_9, B0_9, B1_9, f9⟩
  refine call_at (i := 11) (by kernel_rfl) rfl (fun K hK => ?_)
  go_simp
  refine (near5_any (t0, t1, t2) (x0, x1, x2) _ (by first | omega | (dsimp only; omega)) (by first | omega | (dsimp only; omega)) (by first | omega | (dsimp only; omega))).mono ?_
  rintro e w10 ⟨rfl, k10⟩
  rw [hn]
  try dsimp only
  have K10 : Below w.heap.size w w10 := bel_then K9 k10
  have B0_10 : Arr w.heap.size [.int .i64 p.1, .int .i64 p.2.1, .int .i64 p.2.2.1, .int .i64 p.2.2.2.1, .int .i64 p.2.2.2.2.1, .int .i64 p.2.2.2.2.2] w10 := B0_9.below k10
  have B1_10 : Arr (w.heap.size + 1) [.int .i64 q.1, .int .i64 q.2.1, .int .i64 q.2.2.1, .int .i64 q.2.2.2.1, .int .i64 q.2.2.2.2.1, .int .i64 q.2.2.2.2.2] w10 := B1_9.below k10
  have B2_10 : Fl w5.heap.size false w10 := f9.below k10
  have B3_10 : Arr w6.heap.size [.int .i64 a0, .int .i64 a1, .int .i64 a2, .int .i64 a3] w10 := B3_9.below k10
  have z10 := B3_10.lies
  clear hHeld
  refine hK.out _ _ ⟨B3_10, B0_10, B1_10, B2_10⟩ (fun hHeld => ?_)
  clear hK K K9 B0_9 B1_9 f9 B3_9 k10
  refine take_at (i := 12) (v := ?v9) rfl (by kernel_rfl) (by kernel_rfl) (by kernel_rfl) (fun _ _ _ h => h) (Or.inl ⟨by rfl, ?y9⟩) hHeld ?t9
  case y9 => (intro wx hSw; go_simp <;> with_reducible rfl)
  simp only [Act.put, List.setIfInBounds_toArray, List.set_cons_zero, List.set_cons_succ]
  refine take_at (i := 13) (v := ?v10) rfl (by kernel_rfl) (by kernel_rfl) (by kernel_rfl) (fun _ _ _ h => h) (Or.inl ⟨by rfl, ?y10⟩) hHeld ?t10
  case y10 => (intro wx hSw; go_simp <;> with_reducible rfl)
  simp only [Act.put, List.setIfInBounds_toArray, List.set_cons_zero, List.set_cons_succ]
  refine take_at (i := 14) (v := ?v11) rfl (by kernel_rfl) (by kernel_rfl) (by kernel_rfl) (fun _ _ _ h => h) (Or.inl ⟨by rfl, ?y11⟩) hHeld ?t11
  case y11 => (intro wx hSw; go_simp <;> with_reducible rfl)
  simp only [Act.put, List.setIfInBounds_toArray, List.set_cons_zero, List.set_cons_succ]
  refine take_at (i := 15) (v := ?v12) rfl (by kernel_rfl) (by kernel_rfl) (by kernel_rfl) (fun _ _ _ h => h) (Or.inl ⟨by rfl, ?y12⟩) hHeld ?t12
  case y12 => (intro wx hSw; go_simp <;> with_reducible rfl)
  simp only [Act.put, List.setIfInBounds_toArray, List.set_cons_zero, List.set_cons_succ]
  refine take_at (i := 16) (v := ?v13) rfl (by kernel_rfl) (by kernel_rfl) (by kernel_rfl) (fun _ _ _ h => h) (Or.inl ⟨by rfl, ?y13⟩) hHeld ?t13
  case y13 => (intro wx hSw; have hc0 : wx.cell? ⟨w5.heap.size, 0, none⟩ = some (.bool false) := hSw.2.2.2.cell; go_simp <;> with_reducible rfl)
  simp only [Act.put, List.setIfInBounds_toArray, List.set_cons_zero, List.set_cons_succ]
  refine take_at (i := 17) (v := ?v14) rfl (by kernel_rfl) (by kernel_rfl) (by kernel_rfl) (fun _ _ _ h => h) (Or.inl ⟨by rfl, ?y14⟩) hHeld ?t14
  case y14 => (intro wx hSw; go_simp <;> with_reducible rfl)
  simp only [Act.put, List.setIfInBounds_toArray, List.set_cons_zero, List.set_cons_succ]
  refine take_at (i := 18) (v := ?v15) rfl (by kernel_rfl) (by kernel_rfl) (by kernel_rfl) (fun _ _ _ h => h) (Or.inl ⟨by rfl, ?y15⟩) hHeld ?t15
  case y15 => (intro wx hSw; go_simp <;> with_reducible rfl)
  simp only [Act.put, List.setIfInBounds_toArray, List.set_cons_zero, List.set_cons_succ]
  refine take_at (i := 19) (v := ?v16) rfl (by kernel_rfl) (by kernel_rfl) (by kernel_rfl) (fun _ _ _ h => h) (Or.inl ⟨by rfl, ?y16⟩) hHeld ?t16
  case y16 => (intro wx hSw; go_simp <;> with_reducible rfl)
  simp only [Act.put, List.setIfInBounds_toArray, List.set_cons_zero, List.set_cons_succ]
  refine wpAnyH_done (by kernel_rfl) ?_ _
  clear hHeld
  go_wp2
  go_ret
  exact ⟨rfl, K10⟩
theorem TriadFirst_any (p q : V6) (w : World) :
    Calls Try.prog 5 #[.agg #[.int .i64 p.1, .int .i64 p.2.1, .int .i64 p.2.2.1, .int .i64 p.2.2.2.1, .int .i64 p.2.2.2.2.1, .int .i64 p.2.2.2.2.2], .agg #[.int .i64 q.1, .int .i64 q.2.1, .int .i64 q.2.2.1, .int .i64 q.2.2.2.1, .int .i64 q.2.2.2.2.1, .int .i64 q.2.2.2.2.2]] w fun e w' => e = .returned (.bool true) ∧ Below w.heap.size w w' := by
  cases l0 : longS (p.1, p.2.1, p.2.2.1)
  · exact TriadFirst_l0 p q w l0
  cases l1 : longS p.2.2.2
  · exact TriadFirst_l1 p q w l0 l1
  cases l2 : longS (q.1, q.2.1, q.2.2.1)
  · exact TriadFirst_l2 p q w l0 l1 l2
  cases l3 : longS q.2.2.2
  · exact TriadFirst_l3 p q w l0 l1 l2 l3
  rcases first_law l0 l1 l2 l3 with ha | ⟨a0, a1, a2, a3, u0, u1, u2, t0, t1, t2, x0, x1, x2, ha, hu, ht, hx, n0, n1, n2⟩
  · exact TriadFirst_bad p q w l0 l1 l2 l3 ha
  · exact TriadFirst_good p q w a0 a1 a2 a3 u0 u1 u2 t0 t1 t2 x0 x1 x2 l0 l1 l2 l3 ha hu ht hx ⟨n0.lo, n0.hi⟩ ⟨n1.lo, n1.hi⟩ ⟨n2.lo, n2.hi⟩ (near5_yes n0 n1 n2)
end Go.Proofs.Ytkeijfbpkdelpaa
