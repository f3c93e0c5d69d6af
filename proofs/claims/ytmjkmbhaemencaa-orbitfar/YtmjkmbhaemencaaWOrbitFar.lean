/-
  The walk of the law OrbitFar, for the seat Ytmjkmbhaemencaa. (Made by mkorbit.py.)
-/
import Derived.Test.YtmjkmbhaemencaaOAwake
import Derived.Test.YtmjkmbhaemencaaVCode
import Derived.Handy
import Derived.Deep.RegionHeld3
namespace Go.Proofs.Ytmjkmbhaemencaa
open Go.RowKit

set_option maxRecDepth 100000 in
set_option maxHeartbeats 4000000 in
theorem OrbitFar_a (o : V7) (t : Int) (w : World) (hr : oRightC o = false) :
    Calls Try.prog 7 #[.agg #[.int .i64 o.1, .int .i64 o.2.1, .int .i64 o.2.2.1, .int .i64 o.2.2.2.1, .int .i64 o.2.2.2.2.1, .int .i64 o.2.2.2.2.2.1, .int .i64 o.2.2.2.2.2.2], .int .i64 t] w fun e w' => e = .returned (.bool true) ∧ Below w.heap.size w w' := by
  go_enter Try.func7, Try.ntmps7
  have y1_low : w.heap.size ≤ w.heap.size := (Below.refl w.heap.size w).size
  go_wp2_with fail
  refine (awake_any  _).mono ?_
  rintro e w1 ⟨rfl, k1⟩
  have K1 : Below w.heap.size w w1 := bel_then (bel_al (Below.refl w.heap.size w) _) k1
  have B0_1 : Arr w.heap.size [.int .i64 o.1, .int .i64 o.2.1, .int .i64 o.2.2.1, .int .i64 o.2.2.2.1, .int .i64 o.2.2.2.2.1, .int .i64 o.2.2.2.2.2.1, .int .i64 o.2.2.2.2.2.2] w1 := (Arr_at _ _ [.int .i64 o.1, .int .i64 o.2.1, .int .i64 o.2.2.1, .int .i64 o.2.2.2.1, .int .i64 o.2.2.2.2.1, .int .i64 o.2.2.2.2.2.1, .int .i64 o.2.2.2.2.2.2] _ (by simp)).below k1
  have z1 := B0_1.lies
  clear k1
  have c2_B0_0 : w1.cell? ⟨w.heap.size, 0, none⟩ = some (.int .i64 o.1) := B0_1.c 0 (of_decide_eq_true rfl)
  have c2_B0_1 : w1.cell? ⟨w.heap.size, 1, none⟩ = some (.int .i64 o.2.1) := B0_1.c 1 (of_decide_eq_true rfl)
  have c2_B0_2 : w1.cell? ⟨w.heap.size, 2, none⟩ = some (.int .i64 o.2.2.1) := B0_1.c 2 (of_decide_eq_true rfl)
  have c2_B0_3 : w1.cell? ⟨w.heap.size, 3, none⟩ = some (.int .i64 o.2.2.2.1) := B0_1.c 3 (of_decide_eq_true rfl)
  have c2_B0_4 : w1.cell? ⟨w.heap.size, 4, none⟩ = some (.int .i64 o.2.2.2.2.1) := B0_1.c 4 (of_decide_eq_true rfl)
  have c2_B0_5 : w1.cell? ⟨w.heap.size, 5, none⟩ = some (.int .i64 o.2.2.2.2.2.1) := B0_1.c 5 (of_decide_eq_true rfl)
  have c2_B0_6 : w1.cell? ⟨w.heap.size, 6, none⟩ = some (.int .i64 o.2.2.2.2.2.2) := B0_1.c 6 (of_decide_eq_true rfl)
  go_wp2_with fail
  refine (oRightC_any o _).mono ?_
  rintro e w2 ⟨rfl, k2⟩
  rw [hr]
  try dsimp only
  have K2 : Below w.heap.size w w2 := bel_then K1 k2
  have B0_2 : Arr w.heap.size [.int .i64 o.1, .int .i64 o.2.1, .int .i64 o.2.2.1, .int .i64 o.2.2.2.1, .int .i64 o.2.2.2.2.1, .int .i64 o.2.2.2.2.2.1, .int .i64 o.2.2.2.2.2.2] w2 := B0_1.below k2
  have z2 := B0_2.lies
  clear c2_B0_0 c2_B0_1 c2_B0_2 c2_B0_3 c2_B0_4 c2_B0_5 c2_B0_6 K1 B0_1 k2
  go_wp2
  go_ret
  exact ⟨rfl, K2⟩
set_option maxRecDepth 100000 in
set_option maxHeartbeats 4000000 in
theorem OrbitFar_b (o : V7) (t : Int) (w : World) (hr : oRightC o = true) (c1 : t < 0) :
    Calls Try.prog 7 #[.agg #[.int .i64 o.1, .int .i64 o.2.1, .int .i64 o.2.2.1, .int .i64 o.2.2.2.1, .int .i64 o.2.2.2.2.1, .int .i64 o.2.2.2.2.2.1, .int .i64 o.2.2.2.2.2.2], .int .i64 t] w fun e w' => e = .returned (.bool true) ∧ Below w.heap.size w w' := by
  go_enter Try.func7, Try.ntmps7
  have y1_low : w.heap.size ≤ w.heap.size := (Below.refl w.heap.size w).size
  go_wp2_with fail
  refine (awake_any  _).mono ?_
  rintro e w1 ⟨rfl, k1⟩
  have K1 : Below w.heap.size w w1 := bel_then (bel_al (Below.refl w.heap.size w) _) k1
  have B0_1 : Arr w.heap.size [.int .i64 o.1, .int .i64 o.2.1, .int .i64 o.2.2.1, .int .i64 o.2.2.2.1, .int .i64 o.2.2.2.2.1, .int .i64 o.2.2.2.2.2.1, .int .i64 o.2.2.2.2.2.2] w1 := (Arr_at _ _ [.int .i64 o.1, .int .i64 o.2.1, .int .i64 o.2.2.1, .int .i64 o.2.2.2.1, .int .i64 o.2.2.2.2.1, .int .i64 o.2.2.2.2.2.1, .int .i64 o.2.2.2.2.2.2] _ (by simp)).below k1
  have z1 := B0_1.lies
  clear k1
  have c2_B0_0 : w1.cell? ⟨w.heap.size, 0, none⟩ = some (.int .i64 o.1) := B0_1.c 0 (of_decide_eq_true rfl)
  have c2_B0_1 : w1.cell? ⟨w.heap.size, 1, none⟩ = some (.int .i64 o.2.1) := B0_1.c 1 (of_decide_eq_true rfl)
  have c2_B0_2 : w1.cell? ⟨w.heap.size, 2, none⟩ = some (.int .i64 o.2.2.1) := B0_1.c 2 (of_decide_eq_true rfl)
  have c2_B0_3 : w1.cell? ⟨w.heap.size, 3, none⟩ = some (.int .i64 o.2.2.2.1) := B0_1.c 3 (of_decide_eq_true rfl)
  have c2_B0_4 : w1.cell? ⟨w.heap.size, 4, none⟩ = some (.int .i64 o.2.2.2.2.1) := B0_1.c 4 (of_decide_eq_true rfl)
  have c2_B0_5 : w1.cell? ⟨w.heap.size, 5, none⟩ = some (.int .i64 o.2.2.2.2.2.1) := B0_1.c 5 (of_decide_eq_true rfl)
  have c2_B0_6 : w1.cell? ⟨w.heap.size, 6, none⟩ = some (.int .i64 o.2.2.2.2.2.2) := B0_1.c 6 (of_decide_eq_true rfl)
  go_wp2_with fail
  refine (oRightC_any o _).mono ?_
  rintro e w2 ⟨rfl, k2⟩
  rw [hr]
  try dsimp only
  have K2 : Below w.heap.size w w2 := bel_then K1 k2
  have B0_2 : Arr w.heap.size [.int .i64 o.1, .int .i64 o.2.1, .int .i64 o.2.2.1, .int .i64 o.2.2.2.1, .int .i64 o.2.2.2.2.1, .int .i64 o.2.2.2.2.2.1, .int .i64 o.2.2.2.2.2.2] w2 := B0_1.below k2
  have z2 := B0_2.lies
  clear c2_B0_0 c2_B0_1 c2_B0_2 c2_B0_3 c2_B0_4 c2_B0_5 c2_B0_6 K1 B0_1 k2
  go_wp2
  go_ret
  exact ⟨rfl, K2⟩
set_option maxRecDepth 100000 in
set_option maxHeartbeats 4000000 in
theorem OrbitFar_c (o : V7) (t : Int) (w : World) (hr : oRightC o = true) (c1 : ¬ t < 0) (c2 : t > 157766400000) :
    Calls Try.prog 7 #[.agg #[.int .i64 o.1, .int .i64 o.2.1, .int .i64 o.2.2.1, .int .i64 o.2.2.2.1, .int .i64 o.2.2.2.2.1, .int .i64 o.2.2.2.2.2.1, .int .i64 o.2.2.2.2.2.2], .int .i64 t] w fun e w' => e = .returned (.bool true) ∧ Below w.heap.size w w' := by
  go_enter Try.func7, Try.ntmps7
  have y1_low : w.heap.size ≤ w.heap.size := (Below.refl w.heap.size w).size
  go_wp2_with fail
  refine (awake_any  _).mono ?_
  rintro e w1 ⟨rfl, k1⟩
  have K1 : Below w.heap.size w w1 := bel_then (bel_al (Below.refl w.heap.size w) _) k1
  have B0_1 : Arr w.heap.size [.int .i64 o.1, .int .i64 o.2.1, .int .i64 o.2.2.1, .int .i64 o.2.2.2.1, .int .i64 o.2.2.2.2.1, .int .i64 o.2.2.2.2.2.1, .int .i64 o.2.2.2.2.2.2] w1 := (Arr_at _ _ [.int .i64 o.1, .int .i64 o.2.1, .int .i64 o.2.2.1, .int .i64 o.2.2.2.1, .int .i64 o.2.2.2.2.1, .int .i64 o.2.2.2.2.2.1, .int .i64 o.2.2.2.2.2.2] _ (by simp)).below k1
  have z1 := B0_1.lies
  clear k1
  have c2_B0_0 : w1.cell? ⟨w.heap.size, 0, none⟩ = some (.int .i64 o.1) := B0_1.c 0 (of_decide_eq_true rfl)
  have c2_B0_1 : w1.cell? ⟨w.heap.size, 1, none⟩ = some (.int .i64 o.2.1) := B0_1.c 1 (of_decide_eq_true rfl)
  have c2_B0_2 : w1.cell? ⟨w.heap.size, 2, none⟩ = some (.int .i64 o.2.2.1) := B0_1.c 2 (of_decide_eq_true rfl)
  have c2_B0_3 : w1.cell? ⟨w.heap.size, 3, none⟩ = some (.int .i64 o.2.2.2.1) := B0_1.c 3 (of_decide_eq_true rfl)
  have c2_B0_4 : w1.cell? ⟨w.heap.size, 4, none⟩ = some (.int .i64 o.2.2.2.2.1) := B0_1.c 4 (of_decide_eq_true rfl)
  have c2_B0_5 : w1.cell? ⟨w.heap.size, 5, none⟩ = some (.int .i64 o.2.2.2.2.2.1) := B0_1.c 5 (of_decide_eq_true rfl)
  have c2_B0_6 : w1.cell? ⟨w.heap.size, 6, none⟩ = some (.int .i64 o.2.2.2.2.2.2) := B0_1.c 6 (of_decide_eq_true rfl)
  go_wp2_with fail
  refine (oRightC_any o _).mono ?_
  rintro e w2 ⟨rfl, k2⟩
  rw [hr]
  try dsimp only
  have K2 : Below w.heap.size w w2 := bel_then K1 k2
  have B0_2 : Arr w.heap.size [.int .i64 o.1, .int .i64 o.2.1, .int .i64 o.2.2.1, .int .i64 o.2.2.2.1, .int .i64 o.2.2.2.2.1, .int .i64 o.2.2.2.2.2.1, .int .i64 o.2.2.2.2.2.2] w2 := B0_1.below k2
  have z2 := B0_2.lies
  clear c2_B0_0 c2_B0_1 c2_B0_2 c2_B0_3 c2_B0_4 c2_B0_5 c2_B0_6 K1 B0_1 k2
  go_wp2
  go_ret
  exact ⟨rfl, K2⟩
set_option maxRecDepth 100000 in
set_option maxHeartbeats 4000000 in
theorem OrbitFar_in (o : V7) (t : Int) (w : World) (hr : oRightC o = true) (c1 : ¬ t < 0) (c2 : ¬ t > 157766400000) (e0 : 0 ≤ o.2.1) (e1 : o.2.1 ≤ 109951162777) (x y z n low high : Int) (hp : placeS false o t = ((x, y, z), false)) (hn : vNormS false (x, y, z) = (n, false)) (hl : mulS false o.1 (1099511627776 - o.2.1) = (low, false)) (hh : mulS false o.1 (1099511627776 + o.2.1) = (high, false)) (l0 : -4611686018427387904 ≤ low) (l1 : low ≤ 4611686018427387904) (h0 : -4611686018427387904 ≤ high) (h1 : high ≤ 4611686018427387904) (n1 : n ≥ low - 65536) (n2 : n ≤ high + 65536) :
    Calls Try.prog 7 #[.agg #[.int .i64 o.1, .int .i64 o.2.1, .int .i64 o.2.2.1, .int .i64 o.2.2.2.1, .int .i64 o.2.2.2.2.1, .int .i64 o.2.2.2.2.2.1, .int .i64 o.2.2.2.2.2.2], .int .i64 t] w fun e w' => e = .returned (.bool true) ∧ Below w.heap.size w w' := by
  go_enter Try.func7, Try.ntmps7
  have y1_low : w.heap.size ≤ w.heap.size := (Below.refl w.heap.size w).size
  go_wp2_with fail
  refine (awake_any  _).mono ?_
  rintro e w1 ⟨rfl, k1⟩
  have K1 : Below w.heap.size w w1 := bel_then (bel_al (Below.refl w.heap.size w) _) k1
  have B0_1 : Arr w.heap.size [.int .i64 o.1, .int .i64 o.2.1, .int .i64 o.2.2.1, .int .i64 o.2.2.2.1, .int .i64 o.2.2.2.2.1, .int .i64 o.2.2.2.2.2.1, .int .i64 o.2.2.2.2.2.2] w1 := (Arr_at _ _ [.int .i64 o.1, .int .i64 o.2.1, .int .i64 o.2.2.1, .int .i64 o.2.2.2.1, .int .i64 o.2.2.2.2.1, .int .i64 o.2.2.2.2.2.1, .int .i64 o.2.2.2.2.2.2] _ (by simp)).below k1
  have z1 := B0_1.lies
  clear k1
  have c2_B0_0 : w1.cell? ⟨w.heap.size, 0, none⟩ = some (.int .i64 o.1) := B0_1.c 0 (of_decide_eq_true rfl)
  have c2_B0_1 : w1.cell? ⟨w.heap.size, 1, none⟩ = some (.int .i64 o.2.1) := B0_1.c 1 (of_decide_eq_true rfl)
  have c2_B0_2 : w1.cell? ⟨w.heap.size, 2, none⟩ = some (.int .i64 o.2.2.1) := B0_1.c 2 (of_decide_eq_true rfl)
  have c2_B0_3 : w1.cell? ⟨w.heap.size, 3, none⟩ = some (.int .i64 o.2.2.2.1) := B0_1.c 3 (of_decide_eq_true rfl)
  have c2_B0_4 : w1.cell? ⟨w.heap.size, 4, none⟩ = some (.int .i64 o.2.2.2.2.1) := B0_1.c 4 (of_decide_eq_true rfl)
  have c2_B0_5 : w1.cell? ⟨w.heap.size, 5, none⟩ = some (.int .i64 o.2.2.2.2.2.1) := B0_1.c 5 (of_decide_eq_true rfl)
  have c2_B0_6 : w1.cell? ⟨w.heap.size, 6, none⟩ = some (.int .i64 o.2.2.2.2.2.2) := B0_1.c 6 (of_decide_eq_true rfl)
  go_wp2_with fail
  refine (oRightC_any o _).mono ?_
  rintro e w2 ⟨rfl, k2⟩
  rw [hr]
  try dsimp only
  have K2 : Below w.heap.size w w2 := bel_then K1 k2
  have B0_2 : Arr w.heap.size [.int .i64 o.1, .int .i64 o.2.1, .int .i64 o.2.2.1, .int .i64 o.2.2.2.1, .int .i64 o.2.2.2.2.1, .int .i64 o.2.2.2.2.2.1, .int .i64 o.2.2.2.2.2.2] w2 := B0_1.below k2
  have z2 := B0_2.lies
  clear c2_B0_0 c2_B0_1 c2_B0_2 c2_B0_3 c2_B0_4 c2_B0_5 c2_B0_6 K1 B0_1 k2
  have y2_B0 : w.heap.size < w2.heap.size := B0_2.lies
  have y2_low : w.heap.size ≤ w2.heap.size := K2.size
  have c3_B0_0 : w2.cell? ⟨w.heap.size, 0, none⟩ = some (.int .i64 o.1) := B0_2.c 0 (of_decide_eq_true rfl)
  have c3_B0_1 : w2.cell? ⟨w.heap.size, 1, none⟩ = some (.int .i64 o.2.1) := B0_2.c 1 (of_decide_eq_true rfl)
  have c3_B0_2 : w2.cell? ⟨w.heap.size, 2, none⟩ = some (.int .i64 o.2.2.1) := B0_2.c 2 (of_decide_eq_true rfl)
  have c3_B0_3 : w2.cell? ⟨w.heap.size, 3, none⟩ = some (.int .i64 o.2.2.2.1) := B0_2.c 3 (of_decide_eq_true rfl)
  have c3_B0_4 : w2.cell? ⟨w.heap.size, 4, none⟩ = some (.int .i64 o.2.2.2.2.1) := B0_2.c 4 (of_decide_eq_true rfl)
  have c3_B0_5 : w2.cell? ⟨w.heap.size, 5, none⟩ = some (.int .i64 o.2.2.2.2.2.1) := B0_2.c 5 (of_decide_eq_true rfl)
  have c3_B0_6 : w2.cell? ⟨w.heap.size, 6, none⟩ = some (.int .i64 o.2.2.2.2.2.2) := B0_2.c 6 (of_decide_eq_true rfl)
  have l3_B0 := B0_2.lies
  go_wp2_with fail
  refine (oPlace_any w2.heap.size false o t _ (Fl_at _ _ _ _ (by simp))).mono ?_
  rintro e w3 ⟨rfl, f3, k3⟩
  rw [hp] at f3 ⊢
  dsimp only at f3 ⊢
  have K3 : Below w.heap.size w w3 := k3.on (bel_al K2 _) (by omega)
  have B0_3 : Arr w.heap.size [.int .i64 o.1, .int .i64 o.2.1, .int .i64 o.2.2.1, .int .i64 o.2.2.2.1, .int .i64 o.2.2.2.2.1, .int .i64 o.2.2.2.2.2.1, .int .i64 o.2.2.2.2.2.2] w3 := (B0_2.alloc _).kept k3 (Nat.ne_of_lt y2_B0)
  have z3 := f3.lies
  clear c3_B0_0 c3_B0_1 c3_B0_2 c3_B0_3 c3_B0_4 c3_B0_5 c3_B0_6 l3_B0 K2 B0_2 k3
  go_wp2_with fail
  refine (vNorm_any w2.heap.size false (x, y, z) _ f3).mono ?_
  rintro e w4 ⟨rfl, f4, k4⟩
  rw [hn] at f4 ⊢
  dsimp only at f4 ⊢
  have K4 : Below w.heap.size w w4 := k4.on K3 (by omega)
  have B0_4 : Arr w.heap.size [.int .i64 o.1, .int .i64 o.2.1, .int .i64 o.2.2.1, .int .i64 o.2.2.2.1, .int .i64 o.2.2.2.2.1, .int .i64 o.2.2.2.2.2.1, .int .i64 o.2.2.2.2.2.2] w4 := B0_3.kept k4 (Nat.ne_of_lt y2_B0)
  have z4 := f4.lies
  clear K3 B0_3 f3 k4
  go_wp2_with fail
  refine wp_region_held_drew (S := fun w' => Arr w.heap.size [.int .i64 o.1, .int .i64 o.2.1, .int .i64 o.2.2.1, .int .i64 o.2.2.2.1, .int .i64 o.2.2.2.2.1, .int .i64 o.2.2.2.2.2.1, .int .i64 o.2.2.2.2.2.2] w') (by kernel_rfl) B0_4.drew (fun hHeld => ?_)
  refine take_at (i := 0) (v := ?v1) rfl (by kernel_rfl) (by kernel_rfl) (by kernel_rfl) (fun _ _ _ h => h) (Or.inl ⟨by rfl, ?y1⟩) hHeld ?t1
  case y1 => (intro wx hSw; go_simp <;> with_reducible rfl)
  simp only [Act.put, List.setIfInBounds_toArray, List.set_cons_zero, List.set_cons_succ]
  refine take_at (i := 1) (v := ?v2) rfl (by kernel_rfl) (by kernel_rfl) (by kernel_rfl) (fun _ _ _ h => h) (Or.inl ⟨by rfl, ?y2⟩) hHeld ?t2
  case y2 => (intro wx hSw; go_simp <;> with_reducible rfl)
  simp only [Act.put, List.setIfInBounds_toArray, List.set_cons_zero, List.set_cons_succ]
  refine take_at (i := 2) (v := ?v3) rfl (by kernel_rfl) (by kernel_rfl) (by kernel_rfl) (fun _ _ _ h => h) (Or.inl ⟨by rfl, ?y3⟩) hHeld ?t3
  case y3 => (intro wx hSw; have hc0 : wx.cell? ⟨w.heap.size, 0, none⟩ = some (.int .i64 o.1) := hSw.c 0 (of_decide_eq_true rfl); go_simp <;> with_reducible rfl)
  simp only [Act.put, List.setIfInBounds_toArray, List.set_cons_zero, List.set_cons_succ]
  refine take_at (i := 3) (v := ?v4) rfl (by kernel_rfl) (by kernel_rfl) (by kernel_rfl) (fun _ _ _ h => h) (Or.inl ⟨by rfl, ?y4⟩) hHeld ?t4
  case y4 => (intro wx hSw; go_simp <;> with_reducible rfl)
  simp only [Act.put, List.setIfInBounds_toArray, List.set_cons_zero, List.set_cons_succ]
  refine take_at (i := 4) (v := ?v5) rfl (by kernel_rfl) (by kernel_rfl) (by kernel_rfl) (fun _ _ _ h => h) (Or.inl ⟨by rfl, ?y5⟩) hHeld ?t5
  case y5 => (intro wx hSw; have hc1 : wx.cell? ⟨w.heap.size, 1, none⟩ = some (.int .i64 o.2.1) := hSw.c 1 (of_decide_eq_true rfl); go_simp <;> with_reducible rfl)
  simp only [Act.put, List.setIfInBounds_toArray, List.set_cons_zero, List.set_cons_succ]
  refine take_at (i := 5) (v := ?v6) rfl (by kernel_rfl) (by kernel_rfl) (by kernel_rfl) (fun _ _ _ h => h) (Or.inl ⟨by rfl, ?y6⟩) hHeld ?t6
  case y6 => (intro wx hSw; go_simp <;> with_reducible rfl)
  simp only [Act.put, List.setIfInBounds_toArray, List.set_cons_zero, List.set_cons_succ]
  rw [IntWalk.i64_in (1099511627776 - o.2.1) (by omega)]
  refine take_at (i := 7) (v := ?v7) rfl (by kernel_rfl) (by kernel_rfl) (by kernel_rfl) (fun _ _ _ h => h) (Or.inl ⟨by rfl, ?y7⟩) hHeld ?t7
  case y7 => (intro wx hSw; go_simp <;> with_reducible rfl)
  simp only [Act.put, List.setIfInBounds_toArray, List.set_cons_zero, List.set_cons_succ]
  refine take_at (i := 8) (v := ?v8) rfl (by kernel_rfl) (by kernel_rfl) (by kernel_rfl) (fun _ _ _ h => h) (Or.inl ⟨by rfl, ?y8⟩) hHeld ?t8
  case y8 => (intro wx hSw; go_simp <;> with_reducible rfl)
  simp only [Act.put, List.setIfInBounds_toArray, List.set_cons_zero, List.set_cons_succ]
  refine take_at (i := 9) (v := ?v9) rfl (by kernel_rfl) (by kernel_rfl) (by kernel_rfl) (fun _ _ _ h => h) (Or.inl ⟨by rfl, ?y9⟩) hHeld ?t9
  case y9 => (intro wx hSw; have hc0 : wx.cell? ⟨w.heap.size, 0, none⟩ = some (.int .i64 o.1) := hSw.c 0 (of_decide_eq_true rfl); go_simp <;> with_reducible rfl)
  simp only [Act.put, List.setIfInBounds_toArray, List.set_cons_zero, List.set_cons_succ]
  refine take_at (i := 10) (v := ?v10) rfl (by kernel_rfl) (by kernel_rfl) (by kernel_rfl) (fun _ _ _ h => h) (Or.inl ⟨by rfl, ?y10⟩) hHeld ?t10
  case y10 => (intro wx hSw; go_simp <;> with_reducible rfl)
  simp only [Act.put, List.setIfInBounds_toArray, List.set_cons_zero, List.set_cons_succ]
  refine take_at (i := 11) (v := ?v11) rfl (by kernel_rfl) (by kernel_rfl) (by kernel_rfl) (fun _ _ _ h => h) (Or.inl ⟨by rfl, ?y11⟩) hHeld ?t11
  case y11 => (intro wx hSw; have hc1 : wx.cell? ⟨w.heap.size, 1, none⟩ = some (.int .i64 o.2.1) := hSw.c 1 (of_decide_eq_true rfl); go_simp <;> with_reducible rfl)
  simp only [Act.put, List.setIfInBounds_toArray, List.set_cons_zero, List.set_cons_succ]
  refine take_at (i := 12) (v := ?v12) rfl (by kernel_rfl) (by kernel_rfl) (by kernel_rfl) (fun _ _ _ h => h) (Or.inl ⟨by rfl, ?y12⟩) hHeld ?t12
  case y12 => (intro wx hSw; go_simp <;> with_reducible rfl)
  simp only [Act.put, List.setIfInBounds_toArray, List.set_cons_zero, List.set_cons_succ]
  rw [IntWalk.i64_in (1099511627776 + o.2.1) (by omega)]
  refine call_at (i := 6) (by kernel_rfl) rfl (fun K hK => ?_)
  go_simp
  refine (Mul_any w2.heap.size false o.1 (1099511627776 - o.2.1) _ f4.drew).mono ?_
  rintro e w5 ⟨rfl, f5, k5⟩
  rw [hl] at f5 ⊢
  dsimp only at f5 ⊢
  have K5 : Below w.heap.size w w5 := k5.on (Below.drew K4) (by omega)
  have B0_5 : Arr w.heap.size [.int .i64 o.1, .int .i64 o.2.1, .int .i64 o.2.2.1, .int .i64 o.2.2.2.1, .int .i64 o.2.2.2.2.1, .int .i64 o.2.2.2.2.2.1, .int .i64 o.2.2.2.2.2.2] w5 := B0_4.drew.kept k5 (Nat.ne_of_lt y2_B0)
  have z5 := f5.lies
  clear hHeld
  refine hK.out _ _ B0_5 (fun hHeld => ?_)
  clear hK K K4 B0_4 f4 k5
  refine call_at (i := 13) (by kernel_rfl) rfl (fun K hK => ?_)
  go_simp
  refine (Mul_any w2.heap.size false o.1 (1099511627776 + o.2.1) _ f5).mono ?_
  rintro e w6 ⟨rfl, f6, k6⟩
  rw [hh] at f6 ⊢
  dsimp only at f6 ⊢
  have K6 : Below w.heap.size w w6 := k6.on K5 (by omega)
  have B0_6 : Arr w.heap.size [.int .i64 o.1, .int .i64 o.2.1, .int .i64 o.2.2.1, .int .i64 o.2.2.2.1, .int .i64 o.2.2.2.2.1, .int .i64 o.2.2.2.2.2.1, .int .i64 o.2.2.2.2.2.2] w6 := B0_5.kept k6 (Nat.ne_of_lt y2_B0)
  have z6 := f6.lies
  clear hHeld
  refine hK.out _ _ B0_6 (fun hHeld => ?_)
  clear hK K K5 B0_5 f5 k6
  refine take_at (i := 14) (v := ?v13) rfl (by kernel_rfl) (by kernel_rfl) (by kernel_rfl) (fun _ _ _ h => h) (Or.inl ⟨by rfl, ?y13⟩) hHeld ?t13
  case y13 => (intro wx hSw; go_simp <;> with_reducible rfl)
  simp only [Act.put, List.setIfInBounds_toArray, List.set_cons_zero, List.set_cons_succ]
  refine take_at (i := 15) (v := ?v14) rfl (by kernel_rfl) (by kernel_rfl) (by kernel_rfl) (fun _ _ _ h => h) (Or.inl ⟨by rfl, ?y14⟩) hHeld ?t14
  case y14 => (intro wx hSw; go_simp <;> with_reducible rfl)
  simp only [Act.put, List.setIfInBounds_toArray, List.set_cons_zero, List.set_cons_succ]
  refine wpAnyH_done (by kernel_rfl) ?_ _
  clear hHeld
  have c6_B1 := f6.cell
  go_wp2
  clear c6_B1
  go_ret
  exact ⟨rfl, K6⟩
theorem OrbitFar_any (o : V7) (t : Int) (w : World) :
    Calls Try.prog 7 #[.agg #[.int .i64 o.1, .int .i64 o.2.1, .int .i64 o.2.2.1, .int .i64 o.2.2.2.1, .int .i64 o.2.2.2.2.1, .int .i64 o.2.2.2.2.2.1, .int .i64 o.2.2.2.2.2.2], .int .i64 t] w fun e w' => e = .returned (.bool true) ∧ Below w.heap.size w w' := by
  cases hr : oRightC o
  · exact OrbitFar_a o t w hr
  by_cases c1 : t < 0
  · exact OrbitFar_b o t w hr c1
  by_cases c2 : t > 157766400000
  · exact OrbitFar_c o t w hr c1 c2
  have O := oRightC_get hr
  obtain ⟨low, high, hl, hh, l1, h1⟩ := O.far
  obtain ⟨T⟩ := steps_at (o := o) (t := t) hr (cRight_in (by omega) (by omega))
  obtain ⟨n, hn, n0, n3, f1, f2⟩ := T.Q.far T.G.sc hl hh l1
  exact OrbitFar_in o t w hr c1 c2 O.e0 O.e1 _ _ _ n low high T.e (by unfold vNormS; simp only [hn]) hl hh (by omega) (by omega) (by omega) (by omega) (by omega) (by omega)
end Go.Proofs.Ytmjkmbhaemencaa
