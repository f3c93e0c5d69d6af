/-
  The walk of the law QuatThere, for the seat Yteooceapkkdcpab. (Made by mklaw04.py.)
-/
import Derived.Test.YteooceapkkdcpabQAwake
import Derived.Test.YteooceapkkdcpabQEqv
import Derived.Test.YteooceapkkdcpabVEqv
import Derived.Test.YteooceapkkdcpabQThereX
import Derived.Handy
import Derived.Deep.RegionHeld3
namespace Go.Proofs.Yteooceapkkdcpab
open Go.RowKit

set_option maxRecDepth 100000 in
set_option maxHeartbeats 4000000 in
theorem QuatThere_bf (q : V4) (p : V3) (w : World) (hu : qUnitS false q = ((0, 0, 0, 0), true)) (v0 : -9223372036854775808 ≤ p.1 ∧ p.1 ≤ 9223372036854775807) (v1 : -9223372036854775808 ≤ p.2.1 ∧ p.2.1 ≤ 9223372036854775807) (v2 : -9223372036854775808 ≤ p.2.2 ∧ p.2.2 ≤ 9223372036854775807) (hp : nearS p (0, 0, 0) 1099511627776 = false) :
    Calls Try.prog 4 #[.agg #[.int .i64 q.1, .int .i64 q.2.1, .int .i64 q.2.2.1, .int .i64 q.2.2.2], .agg #[.int .i64 p.1, .int .i64 p.2.1, .int .i64 p.2.2]] w fun e w' => e = .returned (.bool true) ∧ Below w.heap.size w w' := by
  go_enter Try.func4, Try.ntmps4
  go_wp2_with fail
  refine (awake_any  _).mono ?_
  rintro e w1 ⟨rfl, k1⟩
  have K1 : Below w.heap.size w w1 := bel_then (bel_al (bel_al (Below.refl w.heap.size w) _) _) k1
  have B0_1 : Arr w.heap.size [.int .i64 q.1, .int .i64 q.2.1, .int .i64 q.2.2.1, .int .i64 q.2.2.2] w1 := ((Arr_at _ _ [.int .i64 q.1, .int .i64 q.2.1, .int .i64 q.2.2.1, .int .i64 q.2.2.2] _ (by simp)).alloc _).below k1
  have B1_1 : Arr (w.heap.size + 1) [.int .i64 p.1, .int .i64 p.2.1, .int .i64 p.2.2] w1 := (Arr_at _ _ [.int .i64 p.1, .int .i64 p.2.1, .int .i64 p.2.2] _ (by simp)).below k1
  have z1 := B1_1.lies
  clear k1
  have c2_B0_0 : w1.cell? ⟨w.heap.size, 0, none⟩ = some (.int .i64 q.1) := B0_1.c 0 (of_decide_eq_true rfl)
  have c2_B0_1 : w1.cell? ⟨w.heap.size, 1, none⟩ = some (.int .i64 q.2.1) := B0_1.c 1 (of_decide_eq_true rfl)
  have c2_B0_2 : w1.cell? ⟨w.heap.size, 2, none⟩ = some (.int .i64 q.2.2.1) := B0_1.c 2 (of_decide_eq_true rfl)
  have c2_B0_3 : w1.cell? ⟨w.heap.size, 3, none⟩ = some (.int .i64 q.2.2.2) := B0_1.c 3 (of_decide_eq_true rfl)
  have l2_B0 := B0_1.lies
  go_wp2_with fail
  refine (lunit_any q _).mono ?_
  rintro e w2 ⟨rfl, k2⟩
  rw [hu]
  try dsimp only
  have K2 : Below w.heap.size w w2 := bel_then (bel_al K1 _) k2
  have B0_2 : Arr w.heap.size [.int .i64 q.1, .int .i64 q.2.1, .int .i64 q.2.2.1, .int .i64 q.2.2.2] w2 := (B0_1.alloc _).below k2
  have B1_2 : Arr (w.heap.size + 1) [.int .i64 p.1, .int .i64 p.2.1, .int .i64 p.2.2] w2 := (B1_1.alloc _).below k2
  have B2_2 : Fl w1.heap.size false w2 := (Fl_at _ _ _ _ (by simp)).below k2
  have z2 := B2_2.lies
  clear c2_B0_0 c2_B0_1 c2_B0_2 c2_B0_3 l2_B0 K1 B0_1 B1_1 k2
  have c3_B1_0 : w2.cell? ⟨w.heap.size + 1, 0, none⟩ = some (.int .i64 p.1) := B1_2.c 0 (of_decide_eq_true rfl)
  have c3_B1_1 : w2.cell? ⟨w.heap.size + 1, 1, none⟩ = some (.int .i64 p.2.1) := B1_2.c 1 (of_decide_eq_true rfl)
  have c3_B1_2 : w2.cell? ⟨w.heap.size + 1, 2, none⟩ = some (.int .i64 p.2.2) := B1_2.c 2 (of_decide_eq_true rfl)
  have l3_B1 := B1_2.lies
  go_wp2_with fail
  refine (near_any p (0, 0, 0) 1099511627776 _ (by first | omega | (dsimp only; omega)) (by first | omega | (dsimp only; omega)) (by first | omega | (dsimp only; omega)) (by omega)).mono ?_
  rintro e w3 ⟨rfl, k3⟩
  rw [hp]
  try dsimp only
  have K3 : Below w.heap.size w w3 := bel_then (bel_al K2 _) k3
  have B0_3 : Arr w.heap.size [.int .i64 q.1, .int .i64 q.2.1, .int .i64 q.2.2.1, .int .i64 q.2.2.2] w3 := (B0_2.alloc _).below k3
  have B1_3 : Arr (w.heap.size + 1) [.int .i64 p.1, .int .i64 p.2.1, .int .i64 p.2.2] w3 := (B1_2.alloc _).below k3
  have B2_3 : Fl w1.heap.size false w3 := (B2_2.alloc _).below k3
  have B3_3 : Arr w2.heap.size [.int .i64 0, .int .i64 0, .int .i64 0, .int .i64 0] w3 := (Arr_at _ _ [.int .i64 0, .int .i64 0, .int .i64 0, .int .i64 0] _ (by simp)).below k3
  have z3 := B3_3.lies
  clear c3_B1_0 c3_B1_1 c3_B1_2 l3_B1 K2 B0_2 B1_2 B2_2 k3
  go_wp2
  go_ret
  exact ⟨rfl, K3⟩
set_option maxRecDepth 100000 in
set_option maxHeartbeats 4000000 in
theorem QuatThere_br (q : V4) (p : V3) (w : World) (hu : qUnitS false q = ((0, 0, 0, 0), true)) (s0 s1 s2 s3 t0 t1 t2 : Int) (v0 : -9223372036854775808 ≤ p.1 ∧ p.1 ≤ 9223372036854775807) (v1 : -9223372036854775808 ≤ p.2.1 ∧ p.2.1 ≤ 9223372036854775807) (v2 : -9223372036854775808 ≤ p.2.2 ∧ p.2.2 ≤ 9223372036854775807) (hp : nearS p (0, 0, 0) 1099511627776 = true) (hr : qFromRodS false p = ((s0, s1, s2, s3), false)) (ht : qToRodS false (s0, s1, s2, s3) = ((t0, t1, t2), false)) (j0 : -1024 ≤ t0 - p.1 ∧ t0 - p.1 ≤ 1024) (j1 : -1024 ≤ t1 - p.2.1 ∧ t1 - p.2.1 ≤ 1024) (j2 : -1024 ≤ t2 - p.2.2 ∧ t2 - p.2.2 ≤ 1024) (hj : nearS (t0, t1, t2) p 1024 = true) :
    Calls Try.prog 4 #[.agg #[.int .i64 q.1, .int .i64 q.2.1, .int .i64 q.2.2.1, .int .i64 q.2.2.2], .agg #[.int .i64 p.1, .int .i64 p.2.1, .int .i64 p.2.2]] w fun e w' => e = .returned (.bool true) ∧ Below w.heap.size w w' := by
  go_enter Try.func4, Try.ntmps4
  go_wp2_with fail
  refine (awake_any  _).mono ?_
  rintro e w1 ⟨rfl, k1⟩
  have K1 : Below w.heap.size w w1 := bel_then (bel_al (bel_al (Below.refl w.heap.size w) _) _) k1
  have B0_1 : Arr w.heap.size [.int .i64 q.1, .int .i64 q.2.1, .int .i64 q.2.2.1, .int .i64 q.2.2.2] w1 := ((Arr_at _ _ [.int .i64 q.1, .int .i64 q.2.1, .int .i64 q.2.2.1, .int .i64 q.2.2.2] _ (by simp)).alloc _).below k1
  have B1_1 : Arr (w.heap.size + 1) [.int .i64 p.1, .int .i64 p.2.1, .int .i64 p.2.2] w1 := (Arr_at _ _ [.int .i64 p.1, .int .i64 p.2.1, .int .i64 p.2.2] _ (by simp)).below k1
  have z1 := B1_1.lies
  clear k1
  have c2_B0_0 : w1.cell? ⟨w.heap.size, 0, none⟩ = some (.int .i64 q.1) := B0_1.c 0 (of_decide_eq_true rfl)
  have c2_B0_1 : w1.cell? ⟨w.heap.size, 1, none⟩ = some (.int .i64 q.2.1) := B0_1.c 1 (of_decide_eq_true rfl)
  have c2_B0_2 : w1.cell? ⟨w.heap.size, 2, none⟩ = some (.int .i64 q.2.2.1) := B0_1.c 2 (of_decide_eq_true rfl)
  have c2_B0_3 : w1.cell? ⟨w.heap.size, 3, none⟩ = some (.int .i64 q.2.2.2) := B0_1.c 3 (of_decide_eq_true rfl)
  have l2_B0 := B0_1.lies
  go_wp2_with fail
  refine (lunit_any q _).mono ?_
  rintro e w2 ⟨rfl, k2⟩
  rw [hu]
  try dsimp only
  have K2 : Below w.heap.size w w2 := bel_then (bel_al K1 _) k2
  have B0_2 : Arr w.heap.size [.int .i64 q.1, .int .i64 q.2.1, .int .i64 q.2.2.1, .int .i64 q.2.2.2] w2 := (B0_1.alloc _).below k2
  have B1_2 : Arr (w.heap.size + 1) [.int .i64 p.1, .int .i64 p.2.1, .int .i64 p.2.2] w2 := (B1_1.alloc _).below k2
  have B2_2 : Fl w1.heap.size false w2 := (Fl_at _ _ _ _ (by simp)).below k2
  have z2 := B2_2.lies
  clear c2_B0_0 c2_B0_1 c2_B0_2 c2_B0_3 l2_B0 K1 B0_1 B1_1 k2
  have c3_B1_0 : w2.cell? ⟨w.heap.size + 1, 0, none⟩ = some (.int .i64 p.1) := B1_2.c 0 (of_decide_eq_true rfl)
  have c3_B1_1 : w2.cell? ⟨w.heap.size + 1, 1, none⟩ = some (.int .i64 p.2.1) := B1_2.c 1 (of_decide_eq_true rfl)
  have c3_B1_2 : w2.cell? ⟨w.heap.size + 1, 2, none⟩ = some (.int .i64 p.2.2) := B1_2.c 2 (of_decide_eq_true rfl)
  have l3_B1 := B1_2.lies
  go_wp2_with fail
  refine (near_any p (0, 0, 0) 1099511627776 _ (by first | omega | (dsimp only; omega)) (by first | omega | (dsimp only; omega)) (by first | omega | (dsimp only; omega)) (by omega)).mono ?_
  rintro e w3 ⟨rfl, k3⟩
  rw [hp]
  try dsimp only
  have K3 : Below w.heap.size w w3 := bel_then (bel_al K2 _) k3
  have B0_3 : Arr w.heap.size [.int .i64 q.1, .int .i64 q.2.1, .int .i64 q.2.2.1, .int .i64 q.2.2.2] w3 := (B0_2.alloc _).below k3
  have B1_3 : Arr (w.heap.size + 1) [.int .i64 p.1, .int .i64 p.2.1, .int .i64 p.2.2] w3 := (B1_2.alloc _).below k3
  have B2_3 : Fl w1.heap.size false w3 := (B2_2.alloc _).below k3
  have B3_3 : Arr w2.heap.size [.int .i64 0, .int .i64 0, .int .i64 0, .int .i64 0] w3 := (Arr_at _ _ [.int .i64 0, .int .i64 0, .int .i64 0, .int .i64 0] _ (by simp)).below k3
  have z3 := B3_3.lies
  clear c3_B1_0 c3_B1_1 c3_B1_2 l3_B1 K2 B0_2 B1_2 B2_2 k3
  have c4_B1_0 : w3.cell? ⟨w.heap.size + 1, 0, none⟩ = some (.int .i64 p.1) := B1_3.c 0 (of_decide_eq_true rfl)
  have c4_B1_1 : w3.cell? ⟨w.heap.size + 1, 1, none⟩ = some (.int .i64 p.2.1) := B1_3.c 1 (of_decide_eq_true rfl)
  have c4_B1_2 : w3.cell? ⟨w.heap.size + 1, 2, none⟩ = some (.int .i64 p.2.2) := B1_3.c 2 (of_decide_eq_true rfl)
  go_wp2_with fail
  refine (qFromRod_any w1.heap.size false p _ B2_3).mono ?_
  rintro e w4 ⟨rfl, f4, k4⟩
  rw [hr] at f4 ⊢
  dsimp only at f4 ⊢
  have K4 : Below w.heap.size w w4 := k4.on K3 (by omega)
  have B0_4 : Arr w.heap.size [.int .i64 q.1, .int .i64 q.2.1, .int .i64 q.2.2.1, .int .i64 q.2.2.2] w4 := B0_3.kept k4 (by omega)
  have B1_4 : Arr (w.heap.size + 1) [.int .i64 p.1, .int .i64 p.2.1, .int .i64 p.2.2] w4 := B1_3.kept k4 (by omega)
  have B3_4 : Arr w2.heap.size [.int .i64 0, .int .i64 0, .int .i64 0, .int .i64 0] w4 := B3_3.kept k4 (by omega)
  have z4 := B3_4.lies
  clear c4_B1_0 c4_B1_1 c4_B1_2 K3 B0_3 B1_3 B2_3 B3_3 k4
  go_wp2_with fail
  refine (qToRod_any w1.heap.size false (s0, s1, s2, s3) _ f4).mono ?_
  rintro e w5 ⟨rfl, f5, k5⟩
  rw [ht] at f5 ⊢
  dsimp only at f5 ⊢
  have K5 : Below w.heap.size w w5 := k5.on K4 (by omega)
  have B0_5 : Arr w.heap.size [.int .i64 q.1, .int .i64 q.2.1, .int .i64 q.2.2.1, .int .i64 q.2.2.2] w5 := B0_4.kept k5 (by omega)
  have B1_5 : Arr (w.heap.size + 1) [.int .i64 p.1, .int .i64 p.2.1, .int .i64 p.2.2] w5 := B1_4.kept k5 (by omega)
  have B3_5 : Arr w2.heap.size [.int .i64 0, .int .i64 0, .int .i64 0, .int .i64 0] w5 := B3_4.kept k5 (by omega)
  have z5 := B3_5.lies
  clear K4 B0_4 B1_4 f4 B3_4 k5
  have c6_B1_0 : w5.cell? ⟨w.heap.size + 1, 0, none⟩ = some (.int .i64 p.1) := B1_5.c 0 (of_decide_eq_true rfl)
  have c6_B1_1 : w5.cell? ⟨w.heap.size + 1, 1, none⟩ = some (.int .i64 p.2.1) := B1_5.c 1 (of_decide_eq_true rfl)
  have c6_B1_2 : w5.cell? ⟨w.heap.size + 1, 2, none⟩ = some (.int .i64 p.2.2) := B1_5.c 2 (of_decide_eq_true rfl)
  have c6_B2 := f5.cell
  have l6_B1 := B1_5.lies
  have l6_B2 := f5.lies
  go_wp2_with fail
  refine (near_any (t0, t1, t2) p 1024 _ (by first | omega | (dsimp only; omega)) (by first | omega | (dsimp only; omega)) (by first | omega | (dsimp only; omega)) (by omega)).mono ?_
  rintro e w6 ⟨rfl, k6⟩
  rw [hj]
  try dsimp only
  have K6 : Below w.heap.size w w6 := bel_then (bel_al K5 _) k6
  have B0_6 : Arr w.heap.size [.int .i64 q.1, .int .i64 q.2.1, .int .i64 q.2.2.1, .int .i64 q.2.2.2] w6 := (B0_5.alloc _).below k6
  have B1_6 : Arr (w.heap.size + 1) [.int .i64 p.1, .int .i64 p.2.1, .int .i64 p.2.2] w6 := (B1_5.alloc _).below k6
  have B2_6 : Fl w1.heap.size false w6 := (f5.alloc _).below k6
  have B3_6 : Arr w2.heap.size [.int .i64 0, .int .i64 0, .int .i64 0, .int .i64 0] w6 := (B3_5.alloc _).below k6
  have B4_6 : Arr w5.heap.size [.int .i64 t0, .int .i64 t1, .int .i64 t2] w6 := (Arr_at _ _ [.int .i64 t0, .int .i64 t1, .int .i64 t2] _ (by simp)).below k6
  have z6 := B4_6.lies
  clear c6_B1_0 c6_B1_1 c6_B1_2 c6_B2 l6_B1 l6_B2 K5 B0_5 B1_5 f5 B3_5 k6
  go_wp2
  go_ret
  exact ⟨rfl, K6⟩
end Go.Proofs.Yteooceapkkdcpab
