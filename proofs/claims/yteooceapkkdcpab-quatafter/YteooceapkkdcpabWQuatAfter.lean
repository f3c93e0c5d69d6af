/-
  The walk of the law QuatAfter, for the seat Yteooceapkkdcpab. (Made by mklaw04.py.)
-/
import Derived.Test.YteooceapkkdcpabQAwake
import Derived.Test.YteooceapkkdcpabQEqv
import Derived.Test.YteooceapkkdcpabVEqv
import Derived.Test.YteooceapkkdcpabQHelp
import Derived.Test.YteooceapkkdcpabQTurn
import Derived.Test.YteooceapkkdcpabQMul
import Derived.Test.YteooceapkkdcpabQAfterM
import Derived.Handy
import Derived.Deep.RegionHeld3
namespace Go.Proofs.Yteooceapkkdcpab
open Go.RowKit

set_option maxRecDepth 100000 in
set_option maxHeartbeats 4000000 in
theorem QuatAfter_p (p : V4) (q : V4) (v : V3) (w : World) (hu : qUnitS false p = ((0, 0, 0, 0), true)) :
    Calls Try.prog 3 #[.agg #[.int .i64 p.1, .int .i64 p.2.1, .int .i64 p.2.2.1, .int .i64 p.2.2.2], .agg #[.int .i64 q.1, .int .i64 q.2.1, .int .i64 q.2.2.1, .int .i64 q.2.2.2], .agg #[.int .i64 v.1, .int .i64 v.2.1, .int .i64 v.2.2]] w fun e w' => e = .returned (.bool true) ∧ Below w.heap.size w w' := by
  go_enter Try.func3, Try.ntmps3
  go_wp2_with fail
  refine (awake_any  _).mono ?_
  rintro e w1 ⟨rfl, k1⟩
  have K1 : Below w.heap.size w w1 := bel_then (bel_al (bel_al (bel_al (Below.refl w.heap.size w) _) _) _) k1
  have B0_1 : Arr w.heap.size [.int .i64 p.1, .int .i64 p.2.1, .int .i64 p.2.2.1, .int .i64 p.2.2.2] w1 := (((Arr_at _ _ [.int .i64 p.1, .int .i64 p.2.1, .int .i64 p.2.2.1, .int .i64 p.2.2.2] _ (by simp)).alloc _).alloc _).below k1
  have B1_1 : Arr (w.heap.size + 1) [.int .i64 q.1, .int .i64 q.2.1, .int .i64 q.2.2.1, .int .i64 q.2.2.2] w1 := ((Arr_at _ _ [.int .i64 q.1, .int .i64 q.2.1, .int .i64 q.2.2.1, .int .i64 q.2.2.2] _ (by simp)).alloc _).below k1
  have B2_1 : Arr (w.heap.size + 1 + 1) [.int .i64 v.1, .int .i64 v.2.1, .int .i64 v.2.2] w1 := (Arr_at _ _ [.int .i64 v.1, .int .i64 v.2.1, .int .i64 v.2.2] _ (by simp)).below k1
  have z1 := B2_1.lies
  clear k1
  have c2_B0_0 : w1.cell? ⟨w.heap.size, 0, none⟩ = some (.int .i64 p.1) := B0_1.c 0 (of_decide_eq_true rfl)
  have c2_B0_1 : w1.cell? ⟨w.heap.size, 1, none⟩ = some (.int .i64 p.2.1) := B0_1.c 1 (of_decide_eq_true rfl)
  have c2_B0_2 : w1.cell? ⟨w.heap.size, 2, none⟩ = some (.int .i64 p.2.2.1) := B0_1.c 2 (of_decide_eq_true rfl)
  have c2_B0_3 : w1.cell? ⟨w.heap.size, 3, none⟩ = some (.int .i64 p.2.2.2) := B0_1.c 3 (of_decide_eq_true rfl)
  go_wp2_with fail
  refine (lunit_any p _).mono ?_
  rintro e w2 ⟨rfl, k2⟩
  rw [hu]
  try dsimp only
  have K2 : Below w.heap.size w w2 := bel_then K1 k2
  have B0_2 : Arr w.heap.size [.int .i64 p.1, .int .i64 p.2.1, .int .i64 p.2.2.1, .int .i64 p.2.2.2] w2 := B0_1.below k2
  have B1_2 : Arr (w.heap.size + 1) [.int .i64 q.1, .int .i64 q.2.1, .int .i64 q.2.2.1, .int .i64 q.2.2.2] w2 := B1_1.below k2
  have B2_2 : Arr (w.heap.size + 1 + 1) [.int .i64 v.1, .int .i64 v.2.1, .int .i64 v.2.2] w2 := B2_1.below k2
  have z2 := B2_2.lies
  clear c2_B0_0 c2_B0_1 c2_B0_2 c2_B0_3 K1 B0_1 B1_1 B2_1 k2
  have c3_B1_0 : w2.cell? ⟨w.heap.size + 1, 0, none⟩ = some (.int .i64 q.1) := B1_2.c 0 (of_decide_eq_true rfl)
  have c3_B1_1 : w2.cell? ⟨w.heap.size + 1, 1, none⟩ = some (.int .i64 q.2.1) := B1_2.c 1 (of_decide_eq_true rfl)
  have c3_B1_2 : w2.cell? ⟨w.heap.size + 1, 2, none⟩ = some (.int .i64 q.2.2.1) := B1_2.c 2 (of_decide_eq_true rfl)
  have c3_B1_3 : w2.cell? ⟨w.heap.size + 1, 3, none⟩ = some (.int .i64 q.2.2.2) := B1_2.c 3 (of_decide_eq_true rfl)
  have l3_B1 := B1_2.lies
  go_wp2_with fail
  refine (lunit_any q _).mono ?_
  rintro e w3 ⟨rfl, k3⟩
  generalize e3 : qUnitS false q = r3
  have E3 : Hid _ := e3
  clear e3
  have K3 : Below w.heap.size w w3 := bel_then (bel_al K2 _) k3
  have B0_3 : Arr w.heap.size [.int .i64 p.1, .int .i64 p.2.1, .int .i64 p.2.2.1, .int .i64 p.2.2.2] w3 := (B0_2.alloc _).below k3
  have B1_3 : Arr (w.heap.size + 1) [.int .i64 q.1, .int .i64 q.2.1, .int .i64 q.2.2.1, .int .i64 q.2.2.2] w3 := (B1_2.alloc _).below k3
  have B2_3 : Arr (w.heap.size + 1 + 1) [.int .i64 v.1, .int .i64 v.2.1, .int .i64 v.2.2] w3 := (B2_2.alloc _).below k3
  have B3_3 : Arr w2.heap.size [.int .i64 0, .int .i64 0, .int .i64 0, .int .i64 0] w3 := (Arr_at _ _ [.int .i64 0, .int .i64 0, .int .i64 0, .int .i64 0] _ (by simp)).below k3
  have z3 := B3_3.lies
  clear c3_B1_0 c3_B1_1 c3_B1_2 c3_B1_3 l3_B1 K2 B0_2 B1_2 B2_2 k3
  go_wp2
  go_ret
  exact ⟨rfl, (bel_al K3 _)⟩
set_option maxRecDepth 100000 in
set_option maxHeartbeats 4000000 in
theorem QuatAfter_q (p : V4) (q : V4) (v : V3) (w : World) (a0 a1 a2 a3 : Int) (hu : qUnitS false p = ((a0, a1, a2, a3), false)) (hq : qUnitS false q = ((0, 0, 0, 0), true)) :
    Calls Try.prog 3 #[.agg #[.int .i64 p.1, .int .i64 p.2.1, .int .i64 p.2.2.1, .int .i64 p.2.2.2], .agg #[.int .i64 q.1, .int .i64 q.2.1, .int .i64 q.2.2.1, .int .i64 q.2.2.2], .agg #[.int .i64 v.1, .int .i64 v.2.1, .int .i64 v.2.2]] w fun e w' => e = .returned (.bool true) ∧ Below w.heap.size w w' := by
  go_enter Try.func3, Try.ntmps3
  go_wp2_with fail
  refine (awake_any  _).mono ?_
  rintro e w1 ⟨rfl, k1⟩
  have K1 : Below w.heap.size w w1 := bel_then (bel_al (bel_al (bel_al (Below.refl w.heap.size w) _) _) _) k1
  have B0_1 : Arr w.heap.size [.int .i64 p.1, .int .i64 p.2.1, .int .i64 p.2.2.1, .int .i64 p.2.2.2] w1 := (((Arr_at _ _ [.int .i64 p.1, .int .i64 p.2.1, .int .i64 p.2.2.1, .int .i64 p.2.2.2] _ (by simp)).alloc _).alloc _).below k1
  have B1_1 : Arr (w.heap.size + 1) [.int .i64 q.1, .int .i64 q.2.1, .int .i64 q.2.2.1, .int .i64 q.2.2.2] w1 := ((Arr_at _ _ [.int .i64 q.1, .int .i64 q.2.1, .int .i64 q.2.2.1, .int .i64 q.2.2.2] _ (by simp)).alloc _).below k1
  have B2_1 : Arr (w.heap.size + 1 + 1) [.int .i64 v.1, .int .i64 v.2.1, .int .i64 v.2.2] w1 := (Arr_at _ _ [.int .i64 v.1, .int .i64 v.2.1, .int .i64 v.2.2] _ (by simp)).below k1
  have z1 := B2_1.lies
  clear k1
  have c2_B0_0 : w1.cell? ⟨w.heap.size, 0, none⟩ = some (.int .i64 p.1) := B0_1.c 0 (of_decide_eq_true rfl)
  have c2_B0_1 : w1.cell? ⟨w.heap.size, 1, none⟩ = some (.int .i64 p.2.1) := B0_1.c 1 (of_decide_eq_true rfl)
  have c2_B0_2 : w1.cell? ⟨w.heap.size, 2, none⟩ = some (.int .i64 p.2.2.1) := B0_1.c 2 (of_decide_eq_true rfl)
  have c2_B0_3 : w1.cell? ⟨w.heap.size, 3, none⟩ = some (.int .i64 p.2.2.2) := B0_1.c 3 (of_decide_eq_true rfl)
  go_wp2_with fail
  refine (lunit_any p _).mono ?_
  rintro e w2 ⟨rfl, k2⟩
  rw [hu]
  try dsimp only
  have K2 : Below w.heap.size w w2 := bel_then K1 k2
  have B0_2 : Arr w.heap.size [.int .i64 p.1, .int .i64 p.2.1, .int .i64 p.2.2.1, .int .i64 p.2.2.2] w2 := B0_1.below k2
  have B1_2 : Arr (w.heap.size + 1) [.int .i64 q.1, .int .i64 q.2.1, .int .i64 q.2.2.1, .int .i64 q.2.2.2] w2 := B1_1.below k2
  have B2_2 : Arr (w.heap.size + 1 + 1) [.int .i64 v.1, .int .i64 v.2.1, .int .i64 v.2.2] w2 := B2_1.below k2
  have z2 := B2_2.lies
  clear c2_B0_0 c2_B0_1 c2_B0_2 c2_B0_3 K1 B0_1 B1_1 B2_1 k2
  have c3_B1_0 : w2.cell? ⟨w.heap.size + 1, 0, none⟩ = some (.int .i64 q.1) := B1_2.c 0 (of_decide_eq_true rfl)
  have c3_B1_1 : w2.cell? ⟨w.heap.size + 1, 1, none⟩ = some (.int .i64 q.2.1) := B1_2.c 1 (of_decide_eq_true rfl)
  have c3_B1_2 : w2.cell? ⟨w.heap.size + 1, 2, none⟩ = some (.int .i64 q.2.2.1) := B1_2.c 2 (of_decide_eq_true rfl)
  have c3_B1_3 : w2.cell? ⟨w.heap.size + 1, 3, none⟩ = some (.int .i64 q.2.2.2) := B1_2.c 3 (of_decide_eq_true rfl)
  have l3_B1 := B1_2.lies
  go_wp2_with fail
  refine (lunit_any q _).mono ?_
  rintro e w3 ⟨rfl, k3⟩
  rw [hq]
  try dsimp only
  have K3 : Below w.heap.size w w3 := bel_then (bel_al K2 _) k3
  have B0_3 : Arr w.heap.size [.int .i64 p.1, .int .i64 p.2.1, .int .i64 p.2.2.1, .int .i64 p.2.2.2] w3 := (B0_2.alloc _).below k3
  have B1_3 : Arr (w.heap.size + 1) [.int .i64 q.1, .int .i64 q.2.1, .int .i64 q.2.2.1, .int .i64 q.2.2.2] w3 := (B1_2.alloc _).below k3
  have B2_3 : Arr (w.heap.size + 1 + 1) [.int .i64 v.1, .int .i64 v.2.1, .int .i64 v.2.2] w3 := (B2_2.alloc _).below k3
  have B3_3 : Arr w2.heap.size [.int .i64 a0, .int .i64 a1, .int .i64 a2, .int .i64 a3] w3 := (Arr_at _ _ [.int .i64 a0, .int .i64 a1, .int .i64 a2, .int .i64 a3] _ (by simp)).below k3
  have z3 := B3_3.lies
  clear c3_B1_0 c3_B1_1 c3_B1_2 c3_B1_3 l3_B1 K2 B0_2 B1_2 B2_2 k3
  go_wp2
  go_ret
  exact ⟨rfl, (bel_al K3 _)⟩
set_option maxRecDepth 100000 in
set_option maxHeartbeats 4000000 in
theorem QuatAfter_v (p : V4) (q : V4) (v : V3) (w : World) (a0 a1 a2 a3 : Int) (hu : qUnitS false p = ((a0, a1, a2, a3), false)) (b0 b1 b2 b3 : Int) (hq : qUnitS false q = ((b0, b1, b2, b3), false)) (v0 : -9223372036854775808 ≤ v.1 ∧ v.1 ≤ 9223372036854775807) (v1 : -9223372036854775808 ≤ v.2.1 ∧ v.2.1 ≤ 9223372036854775807) (v2 : -9223372036854775808 ≤ v.2.2 ∧ v.2.2 ≤ 9223372036854775807) (hv : nearS v (0, 0, 0) 1099511627776 = false) :
    Calls Try.prog 3 #[.agg #[.int .i64 p.1, .int .i64 p.2.1, .int .i64 p.2.2.1, .int .i64 p.2.2.2], .agg #[.int .i64 q.1, .int .i64 q.2.1, .int .i64 q.2.2.1, .int .i64 q.2.2.2], .agg #[.int .i64 v.1, .int .i64 v.2.1, .int .i64 v.2.2]] w fun e w' => e = .returned (.bool true) ∧ Below w.heap.size w w' := by
  go_enter Try.func3, Try.ntmps3
  go_wp2_with fail
  refine (awake_any  _).mono ?_
  rintro e w1 ⟨rfl, k1⟩
  have K1 : Below w.heap.size w w1 := bel_then (bel_al (bel_al (bel_al (Below.refl w.heap.size w) _) _) _) k1
  have B0_1 : Arr w.heap.size [.int .i64 p.1, .int .i64 p.2.1, .int .i64 p.2.2.1, .int .i64 p.2.2.2] w1 := (((Arr_at _ _ [.int .i64 p.1, .int .i64 p.2.1, .int .i64 p.2.2.1, .int .i64 p.2.2.2] _ (by simp)).alloc _).alloc _).below k1
  have B1_1 : Arr (w.heap.size + 1) [.int .i64 q.1, .int .i64 q.2.1, .int .i64 q.2.2.1, .int .i64 q.2.2.2] w1 := ((Arr_at _ _ [.int .i64 q.1, .int .i64 q.2.1, .int .i64 q.2.2.1, .int .i64 q.2.2.2] _ (by simp)).alloc _).below k1
  have B2_1 : Arr (w.heap.size + 1 + 1) [.int .i64 v.1, .int .i64 v.2.1, .int .i64 v.2.2] w1 := (Arr_at _ _ [.int .i64 v.1, .int .i64 v.2.1, .int .i64 v.2.2] _ (by simp)).below k1
  have z1 := B2_1.lies
  clear k1
  have c2_B0_0 : w1.cell? ⟨w.heap.size, 0, none⟩ = some (.int .i64 p.1) := B0_1.c 0 (of_decide_eq_true rfl)
  have c2_B0_1 : w1.cell? ⟨w.heap.size, 1, none⟩ = some (.int .i64 p.2.1) := B0_1.c 1 (of_decide_eq_true rfl)
  have c2_B0_2 : w1.cell? ⟨w.heap.size, 2, none⟩ = some (.int .i64 p.2.2.1) := B0_1.c 2 (of_decide_eq_true rfl)
  have c2_B0_3 : w1.cell? ⟨w.heap.size, 3, none⟩ = some (.int .i64 p.2.2.2) := B0_1.c 3 (of_decide_eq_true rfl)
  go_wp2_with fail
  refine (lunit_any p _).mono ?_
  rintro e w2 ⟨rfl, k2⟩
  rw [hu]
  try dsimp only
  have K2 : Below w.heap.size w w2 := bel_then K1 k2
  have B0_2 : Arr w.heap.size [.int .i64 p.1, .int .i64 p.2.1, .int .i64 p.2.2.1, .int .i64 p.2.2.2] w2 := B0_1.below k2
  have B1_2 : Arr (w.heap.size + 1) [.int .i64 q.1, .int .i64 q.2.1, .int .i64 q.2.2.1, .int .i64 q.2.2.2] w2 := B1_1.below k2
  have B2_2 : Arr (w.heap.size + 1 + 1) [.int .i64 v.1, .int .i64 v.2.1, .int .i64 v.2.2] w2 := B2_1.below k2
  have z2 := B2_2.lies
  clear c2_B0_0 c2_B0_1 c2_B0_2 c2_B0_3 K1 B0_1 B1_1 B2_1 k2
  have c3_B1_0 : w2.cell? ⟨w.heap.size + 1, 0, none⟩ = some (.int .i64 q.1) := B1_2.c 0 (of_decide_eq_true rfl)
  have c3_B1_1 : w2.cell? ⟨w.heap.size + 1, 1, none⟩ = some (.int .i64 q.2.1) := B1_2.c 1 (of_decide_eq_true rfl)
  have c3_B1_2 : w2.cell? ⟨w.heap.size + 1, 2, none⟩ = some (.int .i64 q.2.2.1) := B1_2.c 2 (of_decide_eq_true rfl)
  have c3_B1_3 : w2.cell? ⟨w.heap.size + 1, 3, none⟩ = some (.int .i64 q.2.2.2) := B1_2.c 3 (of_decide_eq_true rfl)
  have l3_B1 := B1_2.lies
  go_wp2_with fail
  refine (lunit_any q _).mono ?_
  rintro e w3 ⟨rfl, k3⟩
  rw [hq]
  try dsimp only
  have K3 : Below w.heap.size w w3 := bel_then (bel_al K2 _) k3
  have B0_3 : Arr w.heap.size [.int .i64 p.1, .int .i64 p.2.1, .int .i64 p.2.2.1, .int .i64 p.2.2.2] w3 := (B0_2.alloc _).below k3
  have B1_3 : Arr (w.heap.size + 1) [.int .i64 q.1, .int .i64 q.2.1, .int .i64 q.2.2.1, .int .i64 q.2.2.2] w3 := (B1_2.alloc _).below k3
  have B2_3 : Arr (w.heap.size + 1 + 1) [.int .i64 v.1, .int .i64 v.2.1, .int .i64 v.2.2] w3 := (B2_2.alloc _).below k3
  have B3_3 : Arr w2.heap.size [.int .i64 a0, .int .i64 a1, .int .i64 a2, .int .i64 a3] w3 := (Arr_at _ _ [.int .i64 a0, .int .i64 a1, .int .i64 a2, .int .i64 a3] _ (by simp)).below k3
  have z3 := B3_3.lies
  clear c3_B1_0 c3_B1_1 c3_B1_2 c3_B1_3 l3_B1 K2 B0_2 B1_2 B2_2 k3
  have c4_B2_0 : w3.cell? ⟨w.heap.size + 1 + 1, 0, none⟩ = some (.int .i64 v.1) := B2_3.c 0 (of_decide_eq_true rfl)
  have c4_B2_1 : w3.cell? ⟨w.heap.size + 1 + 1, 1, none⟩ = some (.int .i64 v.2.1) := B2_3.c 1 (of_decide_eq_true rfl)
  have c4_B2_2 : w3.cell? ⟨w.heap.size + 1 + 1, 2, none⟩ = some (.int .i64 v.2.2) := B2_3.c 2 (of_decide_eq_true rfl)
  have l4_B2 := B2_3.lies
  go_wp2_with fail
  refine (near_any v (0, 0, 0) 1099511627776 _ (by first | omega | (dsimp only; omega)) (by first | omega | (dsimp only; omega)) (by first | omega | (dsimp only; omega)) (by omega)).mono ?_
  rintro e w4 ⟨rfl, k4⟩
  rw [hv]
  try dsimp only
  have K4 : Below w.heap.size w w4 := bel_then (bel_al K3 _) k4
  have B0_4 : Arr w.heap.size [.int .i64 p.1, .int .i64 p.2.1, .int .i64 p.2.2.1, .int .i64 p.2.2.2] w4 := (B0_3.alloc _).below k4
  have B1_4 : Arr (w.heap.size + 1) [.int .i64 q.1, .int .i64 q.2.1, .int .i64 q.2.2.1, .int .i64 q.2.2.2] w4 := (B1_3.alloc _).below k4
  have B2_4 : Arr (w.heap.size + 1 + 1) [.int .i64 v.1, .int .i64 v.2.1, .int .i64 v.2.2] w4 := (B2_3.alloc _).below k4
  have B3_4 : Arr w2.heap.size [.int .i64 a0, .int .i64 a1, .int .i64 a2, .int .i64 a3] w4 := (B3_3.alloc _).below k4
  have B4_4 : Arr w3.heap.size [.int .i64 b0, .int .i64 b1, .int .i64 b2, .int .i64 b3] w4 := (Arr_at _ _ [.int .i64 b0, .int .i64 b1, .int .i64 b2, .int .i64 b3] _ (by simp)).below k4
  have z4 := B4_4.lies
  clear c4_B2_0 c4_B2_1 c4_B2_2 l4_B2 K3 B0_3 B1_3 B2_3 B3_3 k4
  go_wp2
  go_ret
  exact ⟨rfl, K4⟩
set_option maxRecDepth 100000 in
set_option maxHeartbeats 4000000 in
theorem QuatAfter_good (p : V4) (q : V4) (v : V3) (w : World) (y0 y1 y2 x0 x1 x2 c0 c1 c2 c3 o0 o1 o2 : Int) (a0 a1 a2 a3 : Int) (hu : qUnitS false p = ((a0, a1, a2, a3), false)) (b0 b1 b2 b3 : Int) (hq : qUnitS false q = ((b0, b1, b2, b3), false)) (v0 : -9223372036854775808 ≤ v.1 ∧ v.1 ≤ 9223372036854775807) (v1 : -9223372036854775808 ≤ v.2.1 ∧ v.2.1 ≤ 9223372036854775807) (v2 : -9223372036854775808 ≤ v.2.2 ∧ v.2.2 ≤ 9223372036854775807) (hv : nearS v (0, 0, 0) 1099511627776 = true) (h1 : qTurnS false (b0, b1, b2, b3) v = ((y0, y1, y2), false)) (h2 : qTurnS false (a0, a1, a2, a3) (y0, y1, y2) = ((x0, x1, x2), false)) (h3 : qMulS false (a0, a1, a2, a3) (b0, b1, b2, b3) = ((c0, c1, c2, c3), false)) (h4 : qTurnS false (c0, c1, c2, c3) v = ((o0, o1, o2), false)) (n0 : -1024 ≤ x0 - o0 ∧ x0 - o0 ≤ 1024) (n1 : -1024 ≤ x1 - o1 ∧ x1 - o1 ≤ 1024) (n2 : -1024 ≤ x2 - o2 ∧ x2 - o2 ≤ 1024) (hn : nearS (x0, x1, x2) (o0, o1, o2) 1024 = true) :
    Calls Try.prog 3 #[.agg #[.int .i64 p.1, .int .i64 p.2.1, .int .i64 p.2.2.1, .int .i64 p.2.2.2], .agg #[.int .i64 q.1, .int .i64 q.2.1, .int .i64 q.2.2.1, .int .i64 q.2.2.2], .agg #[.int .i64 v.1, .int .i64 v.2.1, .int .i64 v.2.2]] w fun e w' => e = .returned (.bool true) ∧ Below w.heap.size w w' := by
  go_enter Try.func3, Try.ntmps3
  go_wp2_with fail
  refine (awake_any  _).mono ?_
  rintro e w1 ⟨rfl, k1⟩
  have K1 : Below w.heap.size w w1 := bel_then (bel_al (bel_al (bel_al (Below.refl w.heap.size w) _) _) _) k1
  have B0_1 : Arr w.heap.size [.int .i64 p.1, .int .i64 p.2.1, .int .i64 p.2.2.1, .int .i64 p.2.2.2] w1 := (((Arr_at _ _ [.int .i64 p.1, .int .i64 p.2.1, .int .i64 p.2.2.1, .int .i64 p.2.2.2] _ (by simp)).alloc _).alloc _).below k1
  have B1_1 : Arr (w.heap.size + 1) [.int .i64 q.1, .int .i64 q.2.1, .int .i64 q.2.2.1, .int .i64 q.2.2.2] w1 := ((Arr_at _ _ [.int .i64 q.1, .int .i64 q.2.1, .int .i64 q.2.2.1, .int .i64 q.2.2.2] _ (by simp)).alloc _).below k1
  have B2_1 : Arr (w.heap.size + 1 + 1) [.int .i64 v.1, .int .i64 v.2.1, .int .i64 v.2.2] w1 := (Arr_at _ _ [.int .i64 v.1, .int .i64 v.2.1, .int .i64 v.2.2] _ (by simp)).below k1
  have z1 := B2_1.lies
  clear k1
  have c2_B0_0 : w1.cell? ⟨w.heap.size, 0, none⟩ = some (.int .i64 p.1) := B0_1.c 0 (of_decide_eq_true rfl)
  have c2_B0_1 : w1.cell? ⟨w.heap.size, 1, none⟩ = some (.int .i64 p.2.1) := B0_1.c 1 (of_decide_eq_true rfl)
  have c2_B0_2 : w1.cell? ⟨w.heap.size, 2, none⟩ = some (.int .i64 p.2.2.1) := B0_1.c 2 (of_decide_eq_true rfl)
  have c2_B0_3 : w1.cell? ⟨w.heap.size, 3, none⟩ = some (.int .i64 p.2.2.2) := B0_1.c 3 (of_decide_eq_true rfl)
  go_wp2_with fail
  refine (lunit_any p _).mono ?_
  rintro e w2 ⟨rfl, k2⟩
  rw [hu]
  try dsimp only
  have K2 : Below w.heap.size w w2 := bel_then K1 k2
  have B0_2 : Arr w.heap.size [.int .i64 p.1, .int .i64 p.2.1, .int .i64 p.2.2.1, .int .i64 p.2.2.2] w2 := B0_1.below k2
  have B1_2 : Arr (w.heap.size + 1) [.int .i64 q.1, .int .i64 q.2.1, .int .i64 q.2.2.1, .int .i64 q.2.2.2] w2 := B1_1.below k2
  have B2_2 : Arr (w.heap.size + 1 + 1) [.int .i64 v.1, .int .i64 v.2.1, .int .i64 v.2.2] w2 := B2_1.below k2
  have z2 := B2_2.lies
  clear c2_B0_0 c2_B0_1 c2_B0_2 c2_B0_3 K1 B0_1 B1_1 B2_1 k2
  have c3_B1_0 : w2.cell? ⟨w.heap.size + 1, 0, none⟩ = some (.int .i64 q.1) := B1_2.c 0 (of_decide_eq_true rfl)
  have c3_B1_1 : w2.cell? ⟨w.heap.size + 1, 1, none⟩ = some (.int .i64 q.2.1) := B1_2.c 1 (of_decide_eq_true rfl)
  have c3_B1_2 : w2.cell? ⟨w.heap.size + 1, 2, none⟩ = some (.int .i64 q.2.2.1) := B1_2.c 2 (of_decide_eq_true rfl)
  have c3_B1_3 : w2.cell? ⟨w.heap.size + 1, 3, none⟩ = some (.int .i64 q.2.2.2) := B1_2.c 3 (of_decide_eq_true rfl)
  have l3_B1 := B1_2.lies
  go_wp2_with fail
  refine (lunit_any q _).mono ?_
  rintro e w3 ⟨rfl, k3⟩
  rw [hq]
  try dsimp only
  have K3 : Below w.heap.size w w3 := bel_then (bel_al K2 _) k3
  have B0_3 : Arr w.heap.size [.int .i64 p.1, .int .i64 p.2.1, .int .i64 p.2.2.1, .int .i64 p.2.2.2] w3 := (B0_2.alloc _).below k3
  have B1_3 : Arr (w.heap.size + 1) [.int .i64 q.1, .int .i64 q.2.1, .int .i64 q.2.2.1, .int .i64 q.2.2.2] w3 := (B1_2.alloc _).below k3
  have B2_3 : Arr (w.heap.size + 1 + 1) [.int .i64 v.1, .int .i64 v.2.1, .int .i64 v.2.2] w3 := (B2_2.alloc _).below k3
  have B3_3 : Arr w2.heap.size [.int .i64 a0, .int .i64 a1, .int .i64 a2, .int .i64 a3] w3 := (Arr_at _ _ [.int .i64 a0, .int .i64 a1, .int .i64 a2, .int .i64 a3] _ (by simp)).below k3
  have z3 := B3_3.lies
  clear c3_B1_0 c3_B1_1 c3_B1_2 c3_B1_3 l3_B1 K2 B0_2 B1_2 B2_2 k3
  have c4_B2_0 : w3.cell? ⟨w.heap.size + 1 + 1, 0, none⟩ = some (.int .i64 v.1) := B2_3.c 0 (of_decide_eq_true rfl)
  have c4_B2_1 : w3.cell? ⟨w.heap.size + 1 + 1, 1, none⟩ = some (.int .i64 v.2.1) := B2_3.c 1 (of_decide_eq_true rfl)
  have c4_B2_2 : w3.cell? ⟨w.heap.size + 1 + 1, 2, none⟩ = some (.int .i64 v.2.2) := B2_3.c 2 (of_decide_eq_true rfl)
  have l4_B2 := B2_3.lies
  go_wp2_with fail
  refine (near_any v (0, 0, 0) 1099511627776 _ (by first | omega | (dsimp only; omega)) (by first | omega | (dsimp only; omega)) (by first | omega | (dsimp only; omega)) (by omega)).mono ?_
  rintro e w4 ⟨rfl, k4⟩
  rw [hv]
  try dsimp only
  have K4 : Below w.heap.size w w4 := bel_then (bel_al K3 _) k4
  have B0_4 : Arr w.heap.size [.int .i64 p.1, .int .i64 p.2.1, .int .i64 p.2.2.1, .int .i64 p.2.2.2] w4 := (B0_3.alloc _).below k4
  have B1_4 : Arr (w.heap.size + 1) [.int .i64 q.1, .int .i64 q.2.1, .int .i64 q.2.2.1, .int .i64 q.2.2.2] w4 := (B1_3.alloc _).below k4
  have B2_4 : Arr (w.heap.size + 1 + 1) [.int .i64 v.1, .int .i64 v.2.1, .int .i64 v.2.2] w4 := (B2_3.alloc _).below k4
  have B3_4 : Arr w2.heap.size [.int .i64 a0, .int .i64 a1, .int .i64 a2, .int .i64 a3] w4 := (B3_3.alloc _).below k4
  have B4_4 : Arr w3.heap.size [.int .i64 b0, .int .i64 b1, .int .i64 b2, .int .i64 b3] w4 := (Arr_at _ _ [.int .i64 b0, .int .i64 b1, .int .i64 b2, .int .i64 b3] _ (by simp)).below k4
  have z4 := B4_4.lies
  clear c4_B2_0 c4_B2_1 c4_B2_2 l4_B2 K3 B0_3 B1_3 B2_3 B3_3 k4
  go_wp2_with fail
  rename_i K0 aK0
  have cont1 : ∀ (W1 : World) (t1_14 t1_15 t1_16 t1_17 t1_18 t1_19 t1_20 t1_21 t1_22 t1_23 t1_24 t1_25 t1_26 t1_27 t1_28 t1_29 t1_30 t1_31 t1_32 t1_33 t1_34 t1_35 t1_36 t1_37 t1_38 t1_39 t1_40 t1_41 t1_42 t1_43 t1_44 t1_45 t1_46 : Value) (x1_0 : Nat) , Below w.heap.size w W1 → Arr w.heap.size [.int .i64 p.1, .int .i64 p.2.1, .int .i64 p.2.2.1, .int .i64 p.2.2.2] W1 → Arr (w.heap.size + 1) [.int .i64 q.1, .int .i64 q.2.1, .int .i64 q.2.2.1, .int .i64 q.2.2.2] W1 → Arr (w.heap.size + 1 + 1) [.int .i64 v.1, .int .i64 v.2.1, .int .i64 v.2.2] W1 → Arr w2.heap.size [.int .i64 a0, .int .i64 a1, .int .i64 a2, .int .i64 a3] W1 → Arr w3.heap.size [.int .i64 b0, .int .i64 b1, .int .i64 b2, .int .i64 b3] W1 → Fl w4.heap.size false W1 → Arr x1_0 [.int .i64 x0, .int .i64 x1, .int .i64 x2] W1 → w.heap.size ≤ x1_0 → w.heap.size < x1_0 → w.heap.size + 1 < x1_0 → w.heap.size + 1 + 1 < x1_0 → w2.heap.size < x1_0 → w3.heap.size < x1_0 → w4.heap.size < x1_0 → K0 { tmps := #[.agg #[.int .i64 p.1, .int .i64 p.2.1, .int .i64 p.2.2.1, .int .i64 p.2.2.2], .agg #[.int .i64 q.1, .int .i64 q.2.1, .int .i64 q.2.2.1, .int .i64 q.2.2.2], .agg #[.int .i64 v.1, .int .i64 v.2.1, .int .i64 v.2.2], .pointer (some ⟨w.heap.size, 0, none⟩), .pointer (some ⟨w.heap.size + 1, 0, none⟩), .pointer (some ⟨w.heap.size + 1 + 1, 0, none⟩), .bool false, .pointer (some ⟨w2.heap.size, 0, none⟩), .bool true, .pointer (some ⟨w3.heap.size, 0, none⟩), .bool true, .pointer (some ⟨w4.heap.size, 0, none⟩), .pointer (some ⟨x1_0, 0, none⟩), undef, t1_14, t1_15, t1_16, t1_17, t1_18, t1_19, t1_20, t1_21, t1_22, t1_23, t1_24, t1_25, t1_26, t1_27, t1_28, t1_29, t1_30, t1_31, t1_32, t1_33, t1_34, t1_35, t1_36, t1_37, t1_38, t1_39, t1_40, t1_41, t1_42, t1_43, t1_44, t1_45, t1_46, undef, undef, undef, undef, undef, undef, undef, undef, undef, undef, undef, undef, undef, undef, undef, undef, undef], defers := [] } W1 := by
    intro W1 t1_14 t1_15 t1_16 t1_17 t1_18 t1_19 t1_20 t1_21 t1_22 t1_23 t1_24 t1_25 t1_26 t1_27 t1_28 t1_29 t1_30 t1_31 t1_32 t1_33 t1_34 t1_35 t1_36 t1_37 t1_38 t1_39 t1_40 t1_41 t1_42 t1_43 t1_44 t1_45 t1_46 x1_0 KC1 B0_c1 B1_c1 B2_c1 B3_c1 B4_c1 B5_c1 B6_c1 s1_0 s1_1 s1_2 s1_3 s1_4 s1_5 s1_6
    have zc1_B0 := B0_c1.lies
    have zc1_B1 := B1_c1.lies
    have zc1_B2 := B2_c1.lies
    have zc1_B3 := B3_c1.lies
    have zc1_B4 := B4_c1.lies
    have zc1_B5 := B5_c1.lies
    have zc1_B6 := B6_c1.lies
    apply aK0
    go_wp2_with fail
    rename_i K0 aK0
    have cont2 : ∀ (W2 : World) (t2_14 t2_15 t2_16 t2_17 t2_18 t2_19 t2_20 t2_21 t2_22 t2_23 t2_24 t2_25 t2_26 t2_27 t2_28 t2_29 t2_30 t2_31 t2_32 t2_33 t2_34 t2_35 t2_36 t2_37 t2_38 t2_39 t2_40 t2_41 t2_42 t2_43 t2_44 t2_45 t2_46 t2_47 t2_48 t2_49 t2_50 t2_51 t2_52 t2_53 : Value) (x2_0 : Nat) , Below w.heap.size w W2 → Arr w.heap.size [.int .i64 p.1, .int .i64 p.2.1, .int .i64 p.2.2.1, .int .i64 p.2.2.2] W2 → Arr (w.heap.size + 1) [.int .i64 q.1, .int .i64 q.2.1, .int .i64 q.2.2.1, .int .i64 q.2.2.2] W2 → Arr (w.heap.size + 1 + 1) [.int .i64 v.1, .int .i64 v.2.1, .int .i64 v.2.2] W2 → Arr w2.heap.size [.int .i64 a0, .int .i64 a1, .int .i64 a2, .int .i64 a3] W2 → Arr w3.heap.size [.int .i64 b0, .int .i64 b1, .int .i64 b2, .int .i64 b3] W2 → Fl w4.heap.size false W2 → Arr x1_0 [.int .i64 x0, .int .i64 x1, .int .i64 x2] W2 → Arr x2_0 [.int .i64 o0, .int .i64 o1, .int .i64 o2] W2 → w.heap.size ≤ x2_0 → w.heap.size < x2_0 → w.heap.size + 1 < x2_0 → w.heap.size + 1 + 1 < x2_0 → w2.heap.size < x2_0 → w3.heap.size < x2_0 → w4.heap.size < x2_0 → x1_0 < x2_0 → K0 { tmps := #[.agg #[.int .i64 p.1, .int .i64 p.2.1, .int .i64 p.2.2.1, .int .i64 p.2.2.2], .agg #[.int .i64 q.1, .int .i64 q.2.1, .int .i64 q.2.2.1, .int .i64 q.2.2.2], .agg #[.int .i64 v.1, .int .i64 v.2.1, .int .i64 v.2.2], .pointer (some ⟨w.heap.size, 0, none⟩), .pointer (some ⟨w.heap.size + 1, 0, none⟩), .pointer (some ⟨w.heap.size + 1 + 1, 0, none⟩), .bool false, .pointer (some ⟨w2.heap.size, 0, none⟩), .bool true, .pointer (some ⟨w3.heap.size, 0, none⟩), .bool true, .pointer (some ⟨w4.heap.size, 0, none⟩), .pointer (some ⟨x1_0, 0, none⟩), .pointer (some ⟨x2_0, 0, none⟩), t2_14, t2_15, t2_16, t2_17, t2_18, t2_19, t2_20, t2_21, t2_22, t2_23, t2_24, t2_25, t2_26, t2_27, t2_28, t2_29, t2_30, t2_31, t2_32, t2_33, t2_34, t2_35, t2_36, t2_37, t2_38, t2_39, t2_40, t2_41, t2_42, t2_43, t2_44, t2_45, t2_46, t2_47, t2_48, t2_49, t2_50, t2_51, t2_52, t2_53, undef, undef, undef, undef, undef, undef, undef, undef, undef, undef], defers := [] } W2 := by
      intro W2 t2_14 t2_15 t2_16 t2_17 t2_18 t2_19 t2_20 t2_21 t2_22 t2_23 t2_24 t2_25 t2_26 t2_27 t2_28 t2_29 t2_30 t2_31 t2_32 t2_33 t2_34 t2_35 t2_36 t2_37 t2_38 t2_39 t2_40 t2_41 t2_42 t2_43 t2_44 t2_45 t2_46 t2_47 t2_48 t2_49 t2_50 t2_51 t2_52 t2_53 x2_0 KC2 B0_c2 B1_c2 B2_c2 B3_c2 B4_c2 B5_c2 B6_c2 B7_c2 s2_0 s2_1 s2_2 s2_3 s2_4 s2_5 s2_6 s2_7
      have zc2_B0 := B0_c2.lies
      have zc2_B1 := B1_c2.lies
      have zc2_B2 := B2_c2.lies
      have zc2_B3 := B3_c2.lies
      have zc2_B4 := B4_c2.lies
      have zc2_B5 := B5_c2.lies
      have zc2_B6 := B6_c2.lies
      have zc2_B7 := B7_c2.lies
      apply aK0
      have c7_B5 := B5_c2.cell
      have c7_B6_0 : W2.cell? ⟨x1_0, 0, none⟩ = some (.int .i64 x0) := B6_c2.c 0 (of_decide_eq_true rfl)
      have c7_B6_1 : W2.cell? ⟨x1_0, 1, none⟩ = some (.int .i64 x1) := B6_c2.c 1 (of_decide_eq_true rfl)
      have c7_B6_2 : W2.cell? ⟨x1_0, 2, none⟩ = some (.int .i64 x2) := B6_c2.c 2 (of_decide_eq_true rfl)
      have c7_B7_0 : W2.cell? ⟨x2_0, 0, none⟩ = some (.int .i64 o0) := B7_c2.c 0 (of_decide_eq_true rfl)
      have c7_B7_1 : W2.cell? ⟨x2_0, 1, none⟩ = some (.int .i64 o1) := B7_c2.c 1 (of_decide_eq_true rfl)
      have c7_B7_2 : W2.cell? ⟨x2_0, 2, none⟩ = some (.int .i64 o2) := B7_c2.c 2 (of_decide_eq_true rfl)
      go_wp2_with fail
      refine (near_any (x0, x1, x2) (o0, o1, o2) 1024 _ (by first | omega | (dsimp only; omega)) (by first | omega | (dsimp only; omega)) (by first | omega | (dsimp only; omega)) (by omega)).mono ?_
      rintro e w9 ⟨rfl, k9⟩
      rw [hn]
      try dsimp only
      have K9 : Below w.heap.size w w9 := bel_then KC2 k9
      have B0_9 : Arr w.heap.size [.int .i64 p.1, .int .i64 p.2.1, .int .i64 p.2.2.1, .int .i64 p.2.2.2] w9 := B0_c2.below k9
      have B1_9 : Arr (w.heap.size + 1) [.int .i64 q.1, .int .i64 q.2.1, .int .i64 q.2.2.1, .int .i64 q.2.2.2] w9 := B1_c2.below k9
      have B2_9 : Arr (w.heap.size + 1 + 1) [.int .i64 v.1, .int .i64 v.2.1, .int .i64 v.2.2] w9 := B2_c2.below k9
      have B3_9 : Arr w2.heap.size [.int .i64 a0, .int .i64 a1, .int .i64 a2, .int .i64 a3] w9 := B3_c2.below k9
      have B4_9 : Arr w3.heap.size [.int .i64 b0, .int .i64 b1, .int .i64 b2, .int .i64 b3] w9 := B4_c2.below k9
      have B5_9 : Fl w4.heap.size false w9 := B5_c2.below k9
      have B6_9 : Arr x1_0 [.int .i64 x0, .int .i64 x1, .int .i64 x2] w9 := B6_c2.below k9
      have B7_9 : Arr x2_0 [.int .i64 o0, .int .i64 o1, .int .i64 o2] w9 := B7_c2.below k9
      have z9 := B7_9.lies
      clear c7_B5 c7_B6_0 c7_B6_1 c7_B6_2 c7_B7_0 c7_B7_1 c7_B7_2 B0_c2 B1_c2 B2_c2 B3_c2 B4_c2 B5_c2 B6_c2 B7_c2 k9
      go_wp2
      go_ret
      exact ⟨rfl, K9⟩
    refine wp_region_held_drew (S := fun w' => Arr w2.heap.size [.int .i64 a0, .int .i64 a1, .int .i64 a2, .int .i64 a3] w' ∧ Arr w3.heap.size [.int .i64 b0, .int .i64 b1, .int .i64 b2, .int .i64 b3] w' ∧ Arr (w.heap.size + 1 + 1) [.int .i64 v.1, .int .i64 v.2.1, .int .i64 v.2.2] w') (by kernel_rfl) ⟨B3_c1.drew, B4_c1.drew, B2_c1.drew⟩ (fun hHeld => ?_)
    refine take_at (i := 0) (v := ?v56) rfl (by kernel_rfl) (by kernel_rfl) (by kernel_rfl) (fun _ _ _ h => h) (Or.inl ⟨by rfl, ?y56⟩) hHeld ?t56
    case y56 => (intro wx hSw; go_simp <;> with_reducible rfl)
    simp only [Act.put, List.setIfInBounds_toArray, List.set_cons_zero, List.set_cons_succ]
    refine take_at (i := 1) (v := ?v57) rfl (by kernel_rfl) (by kernel_rfl) (by kernel_rfl) (fun _ _ _ h => h) (Or.inl ⟨by rfl, ?y57⟩) hHeld ?t57
    case y57 => (intro wx hSw; go_simp <;> with_reducible rfl)
    simp only [Act.put, List.setIfInBounds_toArray, List.set_cons_zero, List.set_cons_succ]
    refine take_at (i := 2) (v := ?v58) rfl (by kernel_rfl) (by kernel_rfl) (by kernel_rfl) (fun _ _ _ h => h) (Or.inl ⟨by rfl, ?y58⟩) hHeld ?t58
    case y58 => (intro wx hSw; have hc0 : wx.cell? ⟨w2.heap.size, 0, none⟩ = some (.int .i64 a0) := hSw.1.c 0 (of_decide_eq_true rfl); have hc1 : wx.cell? ⟨w2.heap.size, 1, none⟩ = some (.int .i64 a1) := hSw.1.c 1 (of_decide_eq_true rfl); have hc2 : wx.cell? ⟨w2.heap.size, 2, none⟩ = some (.int .i64 a2) := hSw.1.c 2 (of_decide_eq_true rfl); have hc3 : wx.cell? ⟨w2.heap.size, 3, none⟩ = some (.int .i64 a3) := hSw.1.c 3 (of_decide_eq_true rfl); go_simp <;> with_reducible rfl)
    simp only [Act.put, List.setIfInBounds_toArray, List.set_cons_zero, List.set_cons_succ]
    refine take_at (i := 3) (v := ?v59) rfl (by kernel_rfl) (by kernel_rfl) (by kernel_rfl) (fun _ _ _ h => h) (Or.inl ⟨by rfl, ?y59⟩) hHeld ?t59
    case y59 => (intro wx hSw; have hc0 : wx.cell? ⟨w3.heap.size, 0, none⟩ = some (.int .i64 b0) := hSw.2.1.c 0 (of_decide_eq_true rfl); have hc1 : wx.cell? ⟨w3.heap.size, 1, none⟩ = some (.int .i64 b1) := hSw.2.1.c 1 (of_decide_eq_true rfl); have hc2 : wx.cell? ⟨w3.heap.size, 2, none⟩ = some (.int .i64 b2) := hSw.2.1.c 2 (of_decide_eq_true rfl); have hc3 : wx.cell? ⟨w3.heap.size, 3, none⟩ = some (.int .i64 b3) := hSw.2.1.c 3 (of_decide_eq_true rfl); go_simp <;> with_reducible rfl)
    simp only [Act.put, List.setIfInBounds_toArray, List.set_cons_zero, List.set_cons_succ]
    refine take_at (i := 5) (v := ?v60) rfl (by kernel_rfl) (by kernel_rfl) (by kernel_rfl) (fun _ _ _ h => h) (Or.inl ⟨by rfl, ?y60⟩) hHeld ?t60
    case y60 => (intro wx hSw; have hc0 : wx.cell? ⟨w.heap.size + 1 + 1, 0, none⟩ = some (.int .i64 v.1) := hSw.2.2.c 0 (of_decide_eq_true rfl); have hc1 : wx.cell? ⟨w.heap.size + 1 + 1, 1, none⟩ = some (.int .i64 v.2.1) := hSw.2.2.c 1 (of_decide_eq_true rfl); have hc2 : wx.cell? ⟨w.heap.size + 1 + 1, 2, none⟩ = some (.int .i64 v.2.2) := hSw.2.2.c 2 (of_decide_eq_true rfl); go_simp <;> with_reducible rfl)
    simp only [Act.put, List.setIfInBounds_toArray, List.set_cons_zero, List.set_cons_succ]
    refine call_at2 (i0 := 4) (i1 := 7) (by kernel_rfl) rfl rfl (fun K hK => ?_) (fun K hK => ?_)
    · go_simp
      refine (qMul_any w4.heap.size false (a0, a1, a2, a3) (b0, b1, b2, b3) _ B5_c1.drew).mono ?_
      rintro e w7 ⟨rfl, f7, k7⟩
      rw [h3] at f7 ⊢
      dsimp only at f7 ⊢
      have K7 : Below w.heap.size w w7 := k7.on (Below.drew KC1) (by omega)
      have B0_7 : Arr w.heap.size [.int .i64 p.1, .int .i64 p.2.1, .int .i64 p.2.2.1, .int .i64 p.2.2.2] w7 := B0_c1.drew.kept k7 (by omega)
      have B1_7 : Arr (w.heap.size + 1) [.int .i64 q.1, .int .i64 q.2.1, .int .i64 q.2.2.1, .int .i64 q.2.2.2] w7 := B1_c1.drew.kept k7 (by omega)
      have B2_7 : Arr (w.heap.size + 1 + 1) [.int .i64 v.1, .int .i64 v.2.1, .int .i64 v.2.2] w7 := B2_c1.drew.kept k7 (by omega)
      have B3_7 : Arr w2.heap.size [.int .i64 a0, .int .i64 a1, .int .i64 a2, .int .i64 a3] w7 := B3_c1.drew.kept k7 (by omega)
      have B4_7 : Arr w3.heap.size [.int .i64 b0, .int .i64 b1, .int .i64 b2, .int .i64 b3] w7 := B4_c1.drew.kept k7 (by omega)
      have B6_7 : Arr x1_0 [.int .i64 x0, .int .i64 x1, .int .i64 x2] w7 := B6_c1.drew.kept k7 (by omega)
      have z7 := B6_7.lies
      clear hHeld
      refine hK.out _ _ ⟨B3_7, B4_7, B2_7⟩ (fun hHeld => ?_)
      clear hK K B0_c1 B1_c1 B2_c1 B3_c1 B4_c1 B5_c1 B6_c1 k7
      refine call_at2 (i0 := 6) (i1 := 7) (by kernel_rfl) rfl rfl (fun K hK => ?_) (fun K hK => ?_)
      · go_simp
        refine (qTurn_any w4.heap.size false (c0, c1, c2, c3) v _ f7).mono ?_
        rintro e w8 ⟨rfl, f8, k8⟩
        rw [h4] at f8 ⊢
        dsimp only at f8 ⊢
        have K8 : Below w.heap.size w w8 := k8.on K7 (by omega)
        have B0_8 : Arr w.heap.size [.int .i64 p.1, .int .i64 p.2.1, .int .i64 p.2.2.1, .int .i64 p.2.2.2] w8 := B0_7.kept k8 (by omega)
        have B1_8 : Arr (w.heap.size + 1) [.int .i64 q.1, .int .i64 q.2.1, .int .i64 q.2.2.1, .int .i64 q.2.2.2] w8 := B1_7.kept k8 (by omega)
        have B2_8 : Arr (w.heap.size + 1 + 1) [.int .i64 v.1, .int .i64 v.2.1, .int .i64 v.2.2] w8 := B2_7.kept k8 (by omega)
        have B3_8 : Arr w2.heap.size [.int .i64 a0, .int .i64 a1, .int .i64 a2, .int .i64 a3] w8 := B3_7.kept k8 (by omega)
        have B4_8 : Arr w3.heap.size [.int .i64 b0, .int .i64 b1, .int .i64 b2, .int .i64 b3] w8 := B4_7.kept k8 (by omega)
        have B6_8 : Arr x1_0 [.int .i64 x0, .int .i64 x1, .int .i64 x2] w8 := B6_7.kept k8 (by omega)
        have z8 := B6_8.lies
        clear hHeld
        refine hK.out _ _ ⟨B3_8, B4_8, B2_8⟩ (fun hHeld => ?_)
        clear hK K K7 B0_7 B1_7 B2_7 B3_7 B4_7 f7 B6_7 k8
        refine call_at (i := 7) (by kernel_rfl) rfl (fun K hK => ?_)
        go_simp
        clear hHeld
        refine hK.out _ _ ⟨(B3_8.alloc _), (B4_8.alloc _), (B2_8.alloc _)⟩ (fun hHeld => ?_)
        clear hK K
        refine call_at (i := 8) (by kernel_rfl) rfl (fun K hK => ?_)
        go_simp
        clear hHeld
        refine hK.out _ _ ⟨(B3_8.alloc _), (B4_8.alloc _), (B2_8.alloc _)⟩ (fun hHeld => ?_)
        clear hK K
        refine wpAnyH_done (by kernel_rfl) ?_ _
        clear hHeld
        exact cont2 _ _ _ _ _ _ _ _ _ _ _ _ _ _ _ _ _ _ _ _ _ _ _ _ _ _ _ _ _ _ _ _ _ _ _ _ _ _ _ _ _ w8.heap.size (bel_al K8 _) (B0_8.alloc _) (B1_8.alloc _) (B2_8.alloc _) (B3_8.alloc _) (B4_8.alloc _) (f8.alloc _) (B6_8.alloc _) (Arr_at _ _ [.int .i64 o0, .int .i64 o1, .int .i64 o2] _ (by simp)) (by omega) (by omega) (by omega) (by omega) (by omega) (by omega) (by omega) (by omega)
      · go_simp
        clear hHeld
        refine hK.out _ _ ⟨(B3_7.alloc _), (B4_7.alloc _), (B2_7.alloc _)⟩ (fun hHeld => ?_)
        clear hK K
        refine call_at (i := 6) (by kernel_rfl) rfl (fun K hK => ?_)
        go_simp
        refine (qTurn_any w4.heap.size false (c0, c1, c2, c3) v _ (f7.alloc _)).mono ?_
        rintro e w8 ⟨rfl, f8, k8⟩
        rw [h4] at f8 ⊢
        dsimp only at f8 ⊢
        have K8 : Below w.heap.size w w8 := k8.on (bel_al K7 _) (by omega)
        have B0_8 : Arr w.heap.size [.int .i64 p.1, .int .i64 p.2.1, .int .i64 p.2.2.1, .int .i64 p.2.2.2] w8 := (B0_7.alloc _).kept k8 (by omega)
        have B1_8 : Arr (w.heap.size + 1) [.int .i64 q.1, .int .i64 q.2.1, .int .i64 q.2.2.1, .int .i64 q.2.2.2] w8 := (B1_7.alloc _).kept k8 (by omega)
        have B2_8 : Arr (w.heap.size + 1 + 1) [.int .i64 v.1, .int .i64 v.2.1, .int .i64 v.2.2] w8 := (B2_7.alloc _).kept k8 (by omega)
        have B3_8 : Arr w2.heap.size [.int .i64 a0, .int .i64 a1, .int .i64 a2, .int .i64 a3] w8 := (B3_7.alloc _).kept k8 (by omega)
        have B4_8 : Arr w3.heap.size [.int .i64 b0, .int .i64 b1, .int .i64 b2, .int .i64 b3] w8 := (B4_7.alloc _).kept k8 (by omega)
        have B6_8 : Arr x1_0 [.int .i64 x0, .int .i64 x1, .int .i64 x2] w8 := (B6_7.alloc _).kept k8 (by omega)
        have B7_8 : Arr w7.heap.size [.int .i64 0, .int .i64 0, .int .i64 0] w8 := (Arr_at _ _ [.int .i64 0, .int .i64 0, .int .i64 0] _ (by simp)).kept k8 (by omega)
        have z8 := B7_8.lies
        clear hHeld
        refine hK.out _ _ ⟨B3_8, B4_8, B2_8⟩ (fun hHeld => ?_)
        clear hK K K7 B0_7 B1_7 B2_7 B3_7 B4_7 f7 B6_7 k8
        refine call_at (i := 8) (by kernel_rfl) rfl (fun K hK => ?_)
        have c8_B7_0 : w8.cell? ⟨w7.heap.size, 0, none⟩ = some (.int .i64 0) := B7_8.c 0 (of_decide_eq_true rfl)
        have c8_B7_1 : w8.cell? ⟨w7.heap.size, 1, none⟩ = some (.int .i64 0) := B7_8.c 1 (of_decide_eq_true rfl)
        have c8_B7_2 : w8.cell? ⟨w7.heap.size, 2, none⟩ = some (.int .i64 0) := B7_8.c 2 (of_decide_eq_true rfl)
        have g8_B7_0 := B7_8.f 0 (of_decide_eq_true rfl)
        have g8_B7_1 := B7_8.f 1 (of_decide_eq_true rfl)
        have g8_B7_2 := B7_8.f 2 (of_decide_eq_true rfl)
        go_simp
        clear hHeld
        refine hK.out _ _ ⟨(((B3_8.new w7.heap.size 0 (by omega) (.int .i64 o0)).new w7.heap.size 1 (by omega) (.int .i64 o1)).new w7.heap.size 2 (by omega) (.int .i64 o2)), (((B4_8.new w7.heap.size 0 (by omega) (.int .i64 o0)).new w7.heap.size 1 (by omega) (.int .i64 o1)).new w7.heap.size 2 (by omega) (.int .i64 o2)), (((B2_8.new w7.heap.size 0 (by omega) (.int .i64 o0)).new w7.heap.size 1 (by omega) (.int .i64 o1)).new w7.heap.size 2 (by omega) (.int .i64 o2))⟩ (fun hHeld => ?_)
        clear hK K c8_B7_0 c8_B7_1 c8_B7_2 g8_B7_0 g8_B7_1 g8_B7_2
        refine wpAnyH_done (by kernel_rfl) ?_ _
        clear hHeld
        exact cont2 _ _ _ _ _ _ _ _ _ _ _ _ _ _ _ _ _ _ _ _ _ _ _ _ _ _ _ _ _ _ _ _ _ _ _ _ _ _ _ _ _ w7.heap.size (bel_new (bel_new (bel_new K8 _ _ (by omega) _) _ _ (by omega) _) _ _ (by omega) _) (((B0_8.new w7.heap.size 0 (by omega) (.int .i64 o0)).new w7.heap.size 1 (by omega) (.int .i64 o1)).new w7.heap.size 2 (by omega) (.int .i64 o2)) (((B1_8.new w7.heap.size 0 (by omega) (.int .i64 o0)).new w7.heap.size 1 (by omega) (.int .i64 o1)).new w7.heap.size 2 (by omega) (.int .i64 o2)) (((B2_8.new w7.heap.size 0 (by omega) (.int .i64 o0)).new w7.heap.size 1 (by omega) (.int .i64 o1)).new w7.heap.size 2 (by omega) (.int .i64 o2)) (((B3_8.new w7.heap.size 0 (by omega) (.int .i64 o0)).new w7.heap.size 1 (by omega) (.int .i64 o1)).new w7.heap.size 2 (by omega) (.int .i64 o2)) (((B4_8.new w7.heap.size 0 (by omega) (.int .i64 o0)).new w7.heap.size 1 (by omega) (.int .i64 o1)).new w7.heap.size 2 (by omega) (.int .i64 o2)) (((f8.new w7.heap.size 0 (by omega) (.int .i64 o0)).new w7.heap.size 1 (by omega) (.int .i64 o1)).new w7.heap.size 2 (by omega) (.int .i64 o2)) (((B6_8.new w7.heap.size 0 (by omega) (.int .i64 o0)).new w7.heap.size 1 (by omega) (.int .i64 o1)).new w7.heap.size 2 (by omega) (.int .i64 o2)) (((B7_8.put 0 (of_decide_eq_true rfl) (.int .i64 o0) [.int .i64 o0, .int .i64 0, .int .i64 0] rfl).put 1 (of_decide_eq_true rfl) (.int .i64 o1) [.int .i64 o0, .int .i64 o1, .int .i64 0] rfl).put 2 (of_decide_eq_true rfl) (.int .i64 o2) [.int .i64 o0, .int .i64 o1, .int .i64 o2] rfl) (by omega) (by omega) (by omega) (by omega) (by omega) (by omega) (by omega) (by omega)
    · go_simp
      clear hHeld
      refine hK.out _ _ ⟨(B3_c1.drew.alloc _), (B4_c1.drew.alloc _), (B2_c1.drew.alloc _)⟩ (fun hHeld => ?_)
      clear hK K
      refine call_at (i := 4) (by kernel_rfl) rfl (fun K hK => ?_)
      go_simp
      refine (qMul_any w4.heap.size false (a0, a1, a2, a3) (b0, b1, b2, b3) _ (B5_c1.drew.alloc _)).mono ?_
      rintro e w7 ⟨rfl, f7, k7⟩
      rw [h3] at f7 ⊢
      dsimp only at f7 ⊢
      have K7 : Below w.heap.size w w7 := k7.on (bel_al (Below.drew KC1) _) (by omega)
      have B0_7 : Arr w.heap.size [.int .i64 p.1, .int .i64 p.2.1, .int .i64 p.2.2.1, .int .i64 p.2.2.2] w7 := (B0_c1.drew.alloc _).kept k7 (by omega)
      have B1_7 : Arr (w.heap.size + 1) [.int .i64 q.1, .int .i64 q.2.1, .int .i64 q.2.2.1, .int .i64 q.2.2.2] w7 := (B1_c1.drew.alloc _).kept k7 (by omega)
      have B2_7 : Arr (w.heap.size + 1 + 1) [.int .i64 v.1, .int .i64 v.2.1, .int .i64 v.2.2] w7 := (B2_c1.drew.alloc _).kept k7 (by omega)
      have B3_7 : Arr w2.heap.size [.int .i64 a0, .int .i64 a1, .int .i64 a2, .int .i64 a3] w7 := (B3_c1.drew.alloc _).kept k7 (by omega)
      have B4_7 : Arr w3.heap.size [.int .i64 b0, .int .i64 b1, .int .i64 b2, .int .i64 b3] w7 := (B4_c1.drew.alloc _).kept k7 (by omega)
      have B6_7 : Arr x1_0 [.int .i64 x0, .int .i64 x1, .int .i64 x2] w7 := (B6_c1.drew.alloc _).kept k7 (by omega)
      have B7_7 : Arr W1.heap.size [.int .i64 0, .int .i64 0, .int .i64 0] w7 := (Arr_at _ _ [.int .i64 0, .int .i64 0, .int .i64 0] _ (by simp)).kept k7 (by omega)
      have z7 := B7_7.lies
      clear hHeld
      refine hK.out _ _ ⟨B3_7, B4_7, B2_7⟩ (fun hHeld => ?_)
      clear hK K B0_c1 B1_c1 B2_c1 B3_c1 B4_c1 B5_c1 B6_c1 k7
      refine call_at (i := 6) (by kernel_rfl) rfl (fun K hK => ?_)
      go_simp
      refine (qTurn_any w4.heap.size false (c0, c1, c2, c3) v _ f7).mono ?_
      rintro e w8 ⟨rfl, f8, k8⟩
      rw [h4] at f8 ⊢
      dsimp only at f8 ⊢
      have K8 : Below w.heap.size w w8 := k8.on K7 (by omega)
      have B0_8 : Arr w.heap.size [.int .i64 p.1, .int .i64 p.2.1, .int .i64 p.2.2.1, .int .i64 p.2.2.2] w8 := B0_7.kept k8 (by omega)
      have B1_8 : Arr (w.heap.size + 1) [.int .i64 q.1, .int .i64 q.2.1, .int .i64 q.2.2.1, .int .i64 q.2.2.2] w8 := B1_7.kept k8 (by omega)
      have B2_8 : Arr (w.heap.size + 1 + 1) [.int .i64 v.1, .int .i64 v.2.1, .int .i64 v.2.2] w8 := B2_7.kept k8 (by omega)
      have B3_8 : Arr w2.heap.size [.int .i64 a0, .int .i64 a1, .int .i64 a2, .int .i64 a3] w8 := B3_7.kept k8 (by omega)
      have B4_8 : Arr w3.heap.size [.int .i64 b0, .int .i64 b1, .int .i64 b2, .int .i64 b3] w8 := B4_7.kept k8 (by omega)
      have B6_8 : Arr x1_0 [.int .i64 x0, .int .i64 x1, .int .i64 x2] w8 := B6_7.kept k8 (by omega)
      have B7_8 : Arr W1.heap.size [.int .i64 0, .int .i64 0, .int .i64 0] w8 := B7_7.kept k8 (by omega)
      have z8 := B7_8.lies
      clear hHeld
      refine hK.out _ _ ⟨B3_8, B4_8, B2_8⟩ (fun hHeld => ?_)
      clear hK K K7 B0_7 B1_7 B2_7 B3_7 B4_7 f7 B6_7 B7_7 k8
      refine call_at (i := 8) (by kernel_rfl) rfl (fun K hK => ?_)
      have c8_B7_0 : w8.cell? ⟨W1.heap.size, 0, none⟩ = some (.int .i64 0) := B7_8.c 0 (of_decide_eq_true rfl)
      have c8_B7_1 : w8.cell? ⟨W1.heap.size, 1, none⟩ = some (.int .i64 0) := B7_8.c 1 (of_decide_eq_true rfl)
      have c8_B7_2 : w8.cell? ⟨W1.heap.size, 2, none⟩ = some (.int .i64 0) := B7_8.c 2 (of_decide_eq_true rfl)
      have g8_B7_0 := B7_8.f 0 (of_decide_eq_true rfl)
      have g8_B7_1 := B7_8.f 1 (of_decide_eq_true rfl)
      have g8_B7_2 := B7_8.f 2 (of_decide_eq_true rfl)
      go_simp
      clear hHeld
      refine hK.out _ _ ⟨(((B3_8.new W1.heap.size 0 (by omega) (.int .i64 o0)).new W1.heap.size 1 (by omega) (.int .i64 o1)).new W1.heap.size 2 (by omega) (.int .i64 o2)), (((B4_8.new W1.heap.size 0 (by omega) (.int .i64 o0)).new W1.heap.size 1 (by omega) (.int .i64 o1)).new W1.heap.size 2 (by omega) (.int .i64 o2)), (((B2_8.new W1.heap.size 0 (by omega) (.int .i64 o0)).new W1.heap.size 1 (by omega) (.int .i64 o1)).new W1.heap.size 2 (by omega) (.int .i64 o2))⟩ (fun hHeld => ?_)
      clear hK K c8_B7_0 c8_B7_1 c8_B7_2 g8_B7_0 g8_B7_1 g8_B7_2
      refine wpAnyH_done (by kernel_rfl) ?_ _
      clear hHeld
      exact cont2 _ _ _ _ _ _ _ _ _ _ _ _ _ _ _ _ _ _ _ _ _ _ _ _ _ _ _ _ _ _ _ _ _ _ _ _ _ _ _ _ _ W1.heap.size (bel_new (bel_new (bel_new K8 _ _ (by omega) _) _ _ (by omega) _) _ _ (by omega) _) (((B0_8.new W1.heap.size 0 (by omega) (.int .i64 o0)).new W1.heap.size 1 (by omega) (.int .i64 o1)).new W1.heap.size 2 (by omega) (.int .i64 o2)) (((B1_8.new W1.heap.size 0 (by omega) (.int .i64 o0)).new W1.heap.size 1 (by omega) (.int .i64 o1)).new W1.heap.size 2 (by omega) (.int .i64 o2)) (((B2_8.new W1.heap.size 0 (by omega) (.int .i64 o0)).new W1.heap.size 1 (by omega) (.int .i64 o1)).new W1.heap.size 2 (by omega) (.int .i64 o2)) (((B3_8.new W1.heap.size 0 (by omega) (.int .i64 o0)).new W1.heap.size 1 (by omega) (.int .i64 o1)).new W1.heap.size 2 (by omega) (.int .i64 o2)) (((B4_8.new W1.heap.size 0 (by omega) (.int .i64 o0)).new W1.heap.size 1 (by omega) (.int .i64 o1)).new W1.heap.size 2 (by omega) (.int .i64 o2)) (((f8.new W1.heap.size 0 (by omega) (.int .i64 o0)).new W1.heap.size 1 (by omega) (.int .i64 o1)).new W1.heap.size 2 (by omega) (.int .i64 o2)) (((B6_8.new W1.heap.size 0 (by omega) (.int .i64 o0)).new W1.heap.size 1 (by omega) (.int .i64 o1)).new W1.heap.size 2 (by omega) (.int .i64 o2)) (((B7_8.put 0 (of_decide_eq_true rfl) (.int .i64 o0) [.int .i64 o0, .int .i64 0, .int .i64 0] rfl).put 1 (of_decide_eq_true rfl) (.int .i64 o1) [.int .i64 o0, .int .i64 o1, .int .i64 0] rfl).put 2 (of_decide_eq_true rfl) (.int .i64 o2) [.int .i64 o0, .int .i64 o1, .int .i64 o2] rfl) (by omega) (by omega) (by omega) (by omega) (by omega) (by omega) (by omega) (by omega)
  refine wp_region_held_drew (S := fun w' => Arr w2.heap.size [.int .i64 a0, .int .i64 a1, .int .i64 a2, .int .i64 a3] w' ∧ Arr w3.heap.size [.int .i64 b0, .int .i64 b1, .int .i64 b2, .int .i64 b3] w' ∧ Arr (w.heap.size + 1 + 1) [.int .i64 v.1, .int .i64 v.2.1, .int .i64 v.2.2] w') (by kernel_rfl) ⟨(B3_4.alloc _).drew, (B4_4.alloc _).drew, (B2_4.alloc _).drew⟩ (fun hHeld => ?_)
  refine take_at (i := 0) (v := ?v61) rfl (by kernel_rfl) (by kernel_rfl) (by kernel_rfl) (fun _ _ _ h => h) (Or.inl ⟨by rfl, ?y61⟩) hHeld ?t61
  case y61 => (intro wx hSw; go_simp <;> with_reducible rfl)
  simp only [Act.put, List.setIfInBounds_toArray, List.set_cons_zero, List.set_cons_succ]
  refine take_at (i := 1) (v := ?v62) rfl (by kernel_rfl) (by kernel_rfl) (by kernel_rfl) (fun _ _ _ h => h) (Or.inl ⟨by rfl, ?y62⟩) hHeld ?t62
  case y62 => (intro wx hSw; have hc0 : wx.cell? ⟨w2.heap.size, 0, none⟩ = some (.int .i64 a0) := hSw.1.c 0 (of_decide_eq_true rfl); have hc1 : wx.cell? ⟨w2.heap.size, 1, none⟩ = some (.int .i64 a1) := hSw.1.c 1 (of_decide_eq_true rfl); have hc2 : wx.cell? ⟨w2.heap.size, 2, none⟩ = some (.int .i64 a2) := hSw.1.c 2 (of_decide_eq_true rfl); have hc3 : wx.cell? ⟨w2.heap.size, 3, none⟩ = some (.int .i64 a3) := hSw.1.c 3 (of_decide_eq_true rfl); go_simp <;> with_reducible rfl)
  simp only [Act.put, List.setIfInBounds_toArray, List.set_cons_zero, List.set_cons_succ]
  refine take_at (i := 2) (v := ?v63) rfl (by kernel_rfl) (by kernel_rfl) (by kernel_rfl) (fun _ _ _ h => h) (Or.inl ⟨by rfl, ?y63⟩) hHeld ?t63
  case y63 => (intro wx hSw; go_simp <;> with_reducible rfl)
  simp only [Act.put, List.setIfInBounds_toArray, List.set_cons_zero, List.set_cons_succ]
  refine take_at (i := 3) (v := ?v64) rfl (by kernel_rfl) (by kernel_rfl) (by kernel_rfl) (fun _ _ _ h => h) (Or.inl ⟨by rfl, ?y64⟩) hHeld ?t64
  case y64 => (intro wx hSw; have hc0 : wx.cell? ⟨w3.heap.size, 0, none⟩ = some (.int .i64 b0) := hSw.2.1.c 0 (of_decide_eq_true rfl); have hc1 : wx.cell? ⟨w3.heap.size, 1, none⟩ = some (.int .i64 b1) := hSw.2.1.c 1 (of_decide_eq_true rfl); have hc2 : wx.cell? ⟨w3.heap.size, 2, none⟩ = some (.int .i64 b2) := hSw.2.1.c 2 (of_decide_eq_true rfl); have hc3 : wx.cell? ⟨w3.heap.size, 3, none⟩ = some (.int .i64 b3) := hSw.2.1.c 3 (of_decide_eq_true rfl); go_simp <;> with_reducible rfl)
  simp only [Act.put, List.setIfInBounds_toArray, List.set_cons_zero, List.set_cons_succ]
  refine take_at (i := 4) (v := ?v65) rfl (by kernel_rfl) (by kernel_rfl) (by kernel_rfl) (fun _ _ _ h => h) (Or.inl ⟨by rfl, ?y65⟩) hHeld ?t65
  case y65 => (intro wx hSw; have hc0 : wx.cell? ⟨w.heap.size + 1 + 1, 0, none⟩ = some (.int .i64 v.1) := hSw.2.2.c 0 (of_decide_eq_true rfl); have hc1 : wx.cell? ⟨w.heap.size + 1 + 1, 1, none⟩ = some (.int .i64 v.2.1) := hSw.2.2.c 1 (of_decide_eq_true rfl); have hc2 : wx.cell? ⟨w.heap.size + 1 + 1, 2, none⟩ = some (.int .i64 v.2.2) := hSw.2.2.c 2 (of_decide_eq_true rfl); go_simp <;> with_reducible rfl)
  simp only [Act.put, List.setIfInBounds_toArray, List.set_cons_zero, List.set_cons_succ]
  refine call_at2 (i0 := 5) (i1 := 7) (by kernel_rfl) rfl rfl (fun K hK => ?_) (fun K hK => ?_)
  · go_simp
    refine (qTurn_any w4.heap.size false (b0, b1, b2, b3) v _ (Fl_at _ _ _ _ (by simp)).drew).mono ?_
    rintro e w5 ⟨rfl, f5, k5⟩
    rw [h1] at f5 ⊢
    dsimp only at f5 ⊢
    have K5 : Below w.heap.size w w5 := k5.on (Below.drew (bel_al K4 _)) (by omega)
    have B0_5 : Arr w.heap.size [.int .i64 p.1, .int .i64 p.2.1, .int .i64 p.2.2.1, .int .i64 p.2.2.2] w5 := (B0_4.alloc _).drew.kept k5 (by omega)
    have B1_5 : Arr (w.heap.size + 1) [.int .i64 q.1, .int .i64 q.2.1, .int .i64 q.2.2.1, .int .i64 q.2.2.2] w5 := (B1_4.alloc _).drew.kept k5 (by omega)
    have B2_5 : Arr (w.heap.size + 1 + 1) [.int .i64 v.1, .int .i64 v.2.1, .int .i64 v.2.2] w5 := (B2_4.alloc _).drew.kept k5 (by omega)
    have B3_5 : Arr w2.heap.size [.int .i64 a0, .int .i64 a1, .int .i64 a2, .int .i64 a3] w5 := (B3_4.alloc _).drew.kept k5 (by omega)
    have B4_5 : Arr w3.heap.size [.int .i64 b0, .int .i64 b1, .int .i64 b2, .int .i64 b3] w5 := (B4_4.alloc _).drew.kept k5 (by omega)
    have z5 := f5.lies
    clear hHeld
    refine hK.out _ _ ⟨B3_5, B4_5, B2_5⟩ (fun hHeld => ?_)
    clear hK K K4 B0_4 B1_4 B2_4 B3_4 B4_4 k5
    refine call_at2 (i0 := 6) (i1 := 7) (by kernel_rfl) rfl rfl (fun K hK => ?_) (fun K hK => ?_)
    · go_simp
      refine (qTurn_any w4.heap.size false (a0, a1, a2, a3) (y0, y1, y2) _ f5).mono ?_
      rintro e w6 ⟨rfl, f6, k6⟩
      rw [h2] at f6 ⊢
      dsimp only at f6 ⊢
      have K6 : Below w.heap.size w w6 := k6.on K5 (by omega)
      have B0_6 : Arr w.heap.size [.int .i64 p.1, .int .i64 p.2.1, .int .i64 p.2.2.1, .int .i64 p.2.2.2] w6 := B0_5.kept k6 (by omega)
      have B1_6 : Arr (w.heap.size + 1) [.int .i64 q.1, .int .i64 q.2.1, .int .i64 q.2.2.1, .int .i64 q.2.2.2] w6 := B1_5.kept k6 (by omega)
      have B2_6 : Arr (w.heap.size + 1 + 1) [.int .i64 v.1, .int .i64 v.2.1, .int .i64 v.2.2] w6 := B2_5.kept k6 (by omega)
      have B3_6 : Arr w2.heap.size [.int .i64 a0, .int .i64 a1, .int .i64 a2, .int .i64 a3] w6 := B3_5.kept k6 (by omega)
      have B4_6 : Arr w3.heap.size [.int .i64 b0, .int .i64 b1, .int .i64 b2, .int .i64 b3] w6 := B4_5.kept k6 (by omega)
      have z6 := f6.lies
      clear hHeld
      refine hK.out _ _ ⟨B3_6, B4_6, B2_6⟩ (fun hHeld => ?_)
      clear hK K K5 B0_5 B1_5 B2_5 B3_5 B4_5 f5 k6
      refine call_at (i := 7) (by kernel_rfl) rfl (fun K hK => ?_)
      go_simp
      clear hHeld
      refine hK.out _ _ ⟨(B3_6.alloc _), (B4_6.alloc _), (B2_6.alloc _)⟩ (fun hHeld => ?_)
      clear hK K
      refine call_at (i := 8) (by kernel_rfl) rfl (fun K hK => ?_)
      go_simp
      clear hHeld
      refine hK.out _ _ ⟨(B3_6.alloc _), (B4_6.alloc _), (B2_6.alloc _)⟩ (fun hHeld => ?_)
      clear hK K
      refine wpAnyH_done (by kernel_rfl) ?_ _
      clear hHeld
      exact cont1 _ _ _ _ _ _ _ _ _ _ _ _ _ _ _ _ _ _ _ _ _ _ _ _ _ _ _ _ _ _ _ _ _ _ w6.heap.size (bel_al K6 _) (B0_6.alloc _) (B1_6.alloc _) (B2_6.alloc _) (B3_6.alloc _) (B4_6.alloc _) (f6.alloc _) (Arr_at _ _ [.int .i64 x0, .int .i64 x1, .int .i64 x2] _ (by simp)) (by omega) (by omega) (by omega) (by omega) (by omega) (by omega) (by omega)
    · go_simp
      clear hHeld
      refine hK.out _ _ ⟨(B3_5.alloc _), (B4_5.alloc _), (B2_5.alloc _)⟩ (fun hHeld => ?_)
      clear hK K
      refine call_at (i := 6) (by kernel_rfl) rfl (fun K hK => ?_)
      go_simp
      refine (qTurn_any w4.heap.size false (a0, a1, a2, a3) (y0, y1, y2) _ (f5.alloc _)).mono ?_
      rintro e w6 ⟨rfl, f6, k6⟩
      rw [h2] at f6 ⊢
      dsimp only at f6 ⊢
      have K6 : Below w.heap.size w w6 := k6.on (bel_al K5 _) (by omega)
      have B0_6 : Arr w.heap.size [.int .i64 p.1, .int .i64 p.2.1, .int .i64 p.2.2.1, .int .i64 p.2.2.2] w6 := (B0_5.alloc _).kept k6 (by omega)
      have B1_6 : Arr (w.heap.size + 1) [.int .i64 q.1, .int .i64 q.2.1, .int .i64 q.2.2.1, .int .i64 q.2.2.2] w6 := (B1_5.alloc _).kept k6 (by omega)
      have B2_6 : Arr (w.heap.size + 1 + 1) [.int .i64 v.1, .int .i64 v.2.1, .int .i64 v.2.2] w6 := (B2_5.alloc _).kept k6 (by omega)
      have B3_6 : Arr w2.heap.size [.int .i64 a0, .int .i64 a1, .int .i64 a2, .int .i64 a3] w6 := (B3_5.alloc _).kept k6 (by omega)
      have B4_6 : Arr w3.heap.size [.int .i64 b0, .int .i64 b1, .int .i64 b2, .int .i64 b3] w6 := (B4_5.alloc _).kept k6 (by omega)
      have B6_6 : Arr w5.heap.size [.int .i64 0, .int .i64 0, .int .i64 0] w6 := (Arr_at _ _ [.int .i64 0, .int .i64 0, .int .i64 0] _ (by simp)).kept k6 (by omega)
      have z6 := B6_6.lies
      clear hHeld
      refine hK.out _ _ ⟨B3_6, B4_6, B2_6⟩ (fun hHeld => ?_)
      clear hK K K5 B0_5 B1_5 B2_5 B3_5 B4_5 f5 k6
      refine call_at (i := 8) (by kernel_rfl) rfl (fun K hK => ?_)
      have c7_B6_0 : w6.cell? ⟨w5.heap.size, 0, none⟩ = some (.int .i64 0) := B6_6.c 0 (of_decide_eq_true rfl)
      have c7_B6_1 : w6.cell? ⟨w5.heap.size, 1, none⟩ = some (.int .i64 0) := B6_6.c 1 (of_decide_eq_true rfl)
      have c7_B6_2 : w6.cell? ⟨w5.heap.size, 2, none⟩ = some (.int .i64 0) := B6_6.c 2 (of_decide_eq_true rfl)
      have g7_B6_0 := B6_6.f 0 (of_decide_eq_true rfl)
      have g7_B6_1 := B6_6.f 1 (of_decide_eq_true rfl)
      have g7_B6_2 := B6_6.f 2 (of_decide_eq_true rfl)
      go_simp
      clear hHeld
      refine hK.out _ _ ⟨(((B3_6.new w5.heap.size 0 (by omega) (.int .i64 x0)).new w5.heap.size 1 (by omega) (.int .i64 x1)).new w5.heap.size 2 (by omega) (.int .i64 x2)), (((B4_6.new w5.heap.size 0 (by omega) (.int .i64 x0)).new w5.heap.size 1 (by omega) (.int .i64 x1)).new w5.heap.size 2 (by omega) (.int .i64 x2)), (((B2_6.new w5.heap.size 0 (by omega) (.int .i64 x0)).new w5.heap.size 1 (by omega) (.int .i64 x1)).new w5.heap.size 2 (by omega) (.int .i64 x2))⟩ (fun hHeld => ?_)
      clear hK K c7_B6_0 c7_B6_1 c7_B6_2 g7_B6_0 g7_B6_1 g7_B6_2
      refine wpAnyH_done (by kernel_rfl) ?_ _
      clear hHeld
      exact cont1 _ _ _ _ _ _ _ _ _ _ _ _ _ _ _ _ _ _ _ _ _ _ _ _ _ _ _ _ _ _ _ _ _ _ w5.heap.size (bel_new (bel_new (bel_new K6 _ _ (by omega) _) _ _ (by omega) _) _ _ (by omega) _) (((B0_6.new w5.heap.size 0 (by omega) (.int .i64 x0)).new w5.heap.size 1 (by omega) (.int .i64 x1)).new w5.heap.size 2 (by omega) (.int .i64 x2)) (((B1_6.new w5.heap.size 0 (by omega) (.int .i64 x0)).new w5.heap.size 1 (by omega) (.int .i64 x1)).new w5.heap.size 2 (by omega) (.int .i64 x2)) (((B2_6.new w5.heap.size 0 (by omega) (.int .i64 x0)).new w5.heap.size 1 (by omega) (.int .i64 x1)).new w5.heap.size 2 (by omega) (.int .i64 x2)) (((B3_6.new w5.heap.size 0 (by omega) (.int .i64 x0)).new w5.heap.size 1 (by omega) (.int .i64 x1)).new w5.heap.size 2 (by omega) (.int .i64 x2)) (((B4_6.new w5.heap.size 0 (by omega) (.int .i64 x0)).new w5.heap.size 1 (by omega) (.int .i64 x1)).new w5.heap.size 2 (by omega) (.int .i64 x2)) (((f6.new w5.heap.size 0 (by omega) (.int .i64 x0)).new w5.heap.size 1 (by omega) (.int .i64 x1)).new w5.heap.size 2 (by omega) (.int .i64 x2)) (((B6_6.put 0 (of_decide_eq_true rfl) (.int .i64 x0) [.int .i64 x0, .int .i64 0, .int .i64 0] rfl).put 1 (of_decide_eq_true rfl) (.int .i64 x1) [.int .i64 x0, .int .i64 x1, .int .i64 0] rfl).put 2 (of_decide_eq_true rfl) (.int .i64 x2) [.int .i64 x0, .int .i64 x1, .int .i64 x2] rfl) (by omega) (by omega) (by omega) (by omega) (by omega) (by omega) (by omega)
  · go_simp
    clear hHeld
    refine hK.out _ _ ⟨((B3_4.alloc _).drew.alloc _), ((B4_4.alloc _).drew.alloc _), ((B2_4.alloc _).drew.alloc _)⟩ (fun hHeld => ?_)
    clear hK K
    refine call_at (i := 5) (by kernel_rfl) rfl (fun K hK => ?_)
    go_simp
    refine (qTurn_any w4.heap.size false (b0, b1, b2, b3) v _ ((Fl_at _ _ _ _ (by simp)).drew.alloc _)).mono ?_
    rintro e w5 ⟨rfl, f5, k5⟩
    rw [h1] at f5 ⊢
    dsimp only at f5 ⊢
    have K5 : Below w.heap.size w w5 := k5.on (bel_al (Below.drew (bel_al K4 _)) _) (by omega)
    have B0_5 : Arr w.heap.size [.int .i64 p.1, .int .i64 p.2.1, .int .i64 p.2.2.1, .int .i64 p.2.2.2] w5 := ((B0_4.alloc _).drew.alloc _).kept k5 (by omega)
    have B1_5 : Arr (w.heap.size + 1) [.int .i64 q.1, .int .i64 q.2.1, .int .i64 q.2.2.1, .int .i64 q.2.2.2] w5 := ((B1_4.alloc _).drew.alloc _).kept k5 (by omega)
    have B2_5 : Arr (w.heap.size + 1 + 1) [.int .i64 v.1, .int .i64 v.2.1, .int .i64 v.2.2] w5 := ((B2_4.alloc _).drew.alloc _).kept k5 (by omega)
    have B3_5 : Arr w2.heap.size [.int .i64 a0, .int .i64 a1, .int .i64 a2, .int .i64 a3] w5 := ((B3_4.alloc _).drew.alloc _).kept k5 (by omega)
    have B4_5 : Arr w3.heap.size [.int .i64 b0, .int .i64 b1, .int .i64 b2, .int .i64 b3] w5 := ((B4_4.alloc _).drew.alloc _).kept k5 (by omega)
    have B6_5 : Arr (w4.heap.size + 1) [.int .i64 0, .int .i64 0, .int .i64 0] w5 := (Arr_at _ _ [.int .i64 0, .int .i64 0, .int .i64 0] _ (by simp)).kept k5 (by omega)
    have z5 := B6_5.lies
    clear hHeld
    refine hK.out _ _ ⟨B3_5, B4_5, B2_5⟩ (fun hHeld => ?_)
    clear hK K K4 B0_4 B1_4 B2_4 B3_4 B4_4 k5
    refine call_at (i := 6) (by kernel_rfl) rfl (fun K hK => ?_)
    go_simp
    refine (qTurn_any w4.heap.size false (a0, a1, a2, a3) (y0, y1, y2) _ f5).mono ?_
    rintro e w6 ⟨rfl, f6, k6⟩
    rw [h2] at f6 ⊢
    dsimp only at f6 ⊢
    have K6 : Below w.heap.size w w6 := k6.on K5 (by omega)
    have B0_6 : Arr w.heap.size [.int .i64 p.1, .int .i64 p.2.1, .int .i64 p.2.2.1, .int .i64 p.2.2.2] w6 := B0_5.kept k6 (by omega)
    have B1_6 : Arr (w.heap.size + 1) [.int .i64 q.1, .int .i64 q.2.1, .int .i64 q.2.2.1, .int .i64 q.2.2.2] w6 := B1_5.kept k6 (by omega)
    have B2_6 : Arr (w.heap.size + 1 + 1) [.int .i64 v.1, .int .i64 v.2.1, .int .i64 v.2.2] w6 := B2_5.kept k6 (by omega)
    have B3_6 : Arr w2.heap.size [.int .i64 a0, .int .i64 a1, .int .i64 a2, .int .i64 a3] w6 := B3_5.kept k6 (by omega)
    have B4_6 : Arr w3.heap.size [.int .i64 b0, .int .i64 b1, .int .i64 b2, .int .i64 b3] w6 := B4_5.kept k6 (by omega)
    have B6_6 : Arr (w4.heap.size + 1) [.int .i64 0, .int .i64 0, .int .i64 0] w6 := B6_5.kept k6 (by omega)
    have z6 := B6_6.lies
    clear hHeld
    refine hK.out _ _ ⟨B3_6, B4_6, B2_6⟩ (fun hHeld => ?_)
    clear hK K K5 B0_5 B1_5 B2_5 B3_5 B4_5 f5 B6_5 k6
    refine call_at (i := 8) (by kernel_rfl) rfl (fun K hK => ?_)
    have c7_B6_0 : w6.cell? ⟨w4.heap.size + 1, 0, none⟩ = some (.int .i64 0) := B6_6.c 0 (of_decide_eq_true rfl)
    have c7_B6_1 : w6.cell? ⟨w4.heap.size + 1, 1, none⟩ = some (.int .i64 0) := B6_6.c 1 (of_decide_eq_true rfl)
    have c7_B6_2 : w6.cell? ⟨w4.heap.size + 1, 2, none⟩ = some (.int .i64 0) := B6_6.c 2 (of_decide_eq_true rfl)
    have g7_B6_0 := B6_6.f 0 (of_decide_eq_true rfl)
    have g7_B6_1 := B6_6.f 1 (of_decide_eq_true rfl)
    have g7_B6_2 := B6_6.f 2 (of_decide_eq_true rfl)
    go_simp
    clear hHeld
    refine hK.out _ _ ⟨(((B3_6.new (w4.heap.size + 1) 0 (by omega) (.int .i64 x0)).new (w4.heap.size + 1) 1 (by omega) (.int .i64 x1)).new (w4.heap.size + 1) 2 (by omega) (.int .i64 x2)), (((B4_6.new (w4.heap.size + 1) 0 (by omega) (.int .i64 x0)).new (w4.heap.size + 1) 1 (by omega) (.int .i64 x1)).new (w4.heap.size + 1) 2 (by omega) (.int .i64 x2)), (((B2_6.new (w4.heap.size + 1) 0 (by omega) (.int .i64 x0)).new (w4.heap.size + 1) 1 (by omega) (.int .i64 x1)).new (w4.heap.size + 1) 2 (by omega) (.int .i64 x2))⟩ (fun hHeld => ?_)
    clear hK K c7_B6_0 c7_B6_1 c7_B6_2 g7_B6_0 g7_B6_1 g7_B6_2
    refine wpAnyH_done (by kernel_rfl) ?_ _
    clear hHeld
    exact cont1 _ _ _ _ _ _ _ _ _ _ _ _ _ _ _ _ _ _ _ _ _ _ _ _ _ _ _ _ _ _ _ _ _ _ (w4.heap.size + 1) (bel_new (bel_new (bel_new K6 _ _ (by omega) _) _ _ (by omega) _) _ _ (by omega) _) (((B0_6.new (w4.heap.size + 1) 0 (by omega) (.int .i64 x0)).new (w4.heap.size + 1) 1 (by omega) (.int .i64 x1)).new (w4.heap.size + 1) 2 (by omega) (.int .i64 x2)) (((B1_6.new (w4.heap.size + 1) 0 (by omega) (.int .i64 x0)).new (w4.heap.size + 1) 1 (by omega) (.int .i64 x1)).new (w4.heap.size + 1) 2 (by omega) (.int .i64 x2)) (((B2_6.new (w4.heap.size + 1) 0 (by omega) (.int .i64 x0)).new (w4.heap.size + 1) 1 (by omega) (.int .i64 x1)).new (w4.heap.size + 1) 2 (by omega) (.int .i64 x2)) (((B3_6.new (w4.heap.size + 1) 0 (by omega) (.int .i64 x0)).new (w4.heap.size + 1) 1 (by omega) (.int .i64 x1)).new (w4.heap.size + 1) 2 (by omega) (.int .i64 x2)) (((B4_6.new (w4.heap.size + 1) 0 (by omega) (.int .i64 x0)).new (w4.heap.size + 1) 1 (by omega) (.int .i64 x1)).new (w4.heap.size + 1) 2 (by omega) (.int .i64 x2)) (((f6.new (w4.heap.size + 1) 0 (by omega) (.int .i64 x0)).new (w4.heap.size + 1) 1 (by omega) (.int .i64 x1)).new (w4.heap.size + 1) 2 (by omega) (.int .i64 x2)) (((B6_6.put 0 (of_decide_eq_true rfl) (.int .i64 x0) [.int .i64 x0, .int .i64 0, .int .i64 0] rfl).put 1 (of_decide_eq_true rfl) (.int .i64 x1) [.int .i64 x0, .int .i64 x1, .int .i64 0] rfl).put 2 (of_decide_eq_true rfl) (.int .i64 x2) [.int .i64 x0, .int .i64 x1, .int .i64 x2] rfl) (by omega) (by omega) (by omega) (by omega) (by omega) (by omega) (by omega)
theorem QuatAfter_any (p q : V4) (v : V3) (w : World) (v0 : -9223372036854775808 ≤ v.1 ∧ v.1 ≤ 9223372036854775807) (v1 : -9223372036854775808 ≤ v.2.1 ∧ v.2.1 ≤ 9223372036854775807) (v2 : -9223372036854775808 ≤ v.2.2 ∧ v.2.2 ≤ 9223372036854775807) :
    Calls Try.prog 3 #[.agg #[.int .i64 p.1, .int .i64 p.2.1, .int .i64 p.2.2.1, .int .i64 p.2.2.2], .agg #[.int .i64 q.1, .int .i64 q.2.1, .int .i64 q.2.2.1, .int .i64 q.2.2.2], .agg #[.int .i64 v.1, .int .i64 v.2.1, .int .i64 v.2.2]] w fun e w' => e = .returned (.bool true) ∧ Below w.heap.size w w' := by
  rcases unit_math p with h | ⟨a0, a1, a2, a3, h, U⟩
  · exact QuatAfter_p p q v w h
  · rcases unit_math q with k | ⟨b0, b1, b2, b3, k, V⟩
    · exact QuatAfter_q p q v w a0 a1 a2 a3 h k
    · cases hv : nearS v (0, 0, 0) 1099511627776
      · exact QuatAfter_v p q v w a0 a1 a2 a3 h b0 b1 b2 b3 k v0 v1 v2 hv
      · have g := near_get hv
        have s0 : Ab v.1 1099511627776 := ⟨by have := g.1.lo; simpa using this, by have := g.1.hi; simpa using this⟩
        have s1 : Ab v.2.1 1099511627776 := ⟨by have := g.2.1.lo; simpa using this, by have := g.2.1.hi; simpa using this⟩
        have s2 : Ab v.2.2 1099511627776 := ⟨by have := g.2.2.lo; simpa using this, by have := g.2.2.hi; simpa using this⟩
        obtain ⟨y0, y1, y2, x0, x1, x2, c0, c1, c2, c3, z0, z1, z2, e1, e2, e3, e4, m0, m1, m2⟩ := after_math U V s0 s1 s2
        exact QuatAfter_good p q v w y0 y1 y2 x0 x1 x2 c0 c1 c2 c3 z0 z1 z2 a0 a1 a2 a3 h b0 b1 b2 b3 k v0 v1 v2 hv e1 e2 e3 e4 ⟨m0.lo, m0.hi⟩ ⟨m1.lo, m1.hi⟩ ⟨m2.lo, m2.hi⟩ (near_yes m0 m1 m2)
end Go.Proofs.Yteooceapkkdcpab
