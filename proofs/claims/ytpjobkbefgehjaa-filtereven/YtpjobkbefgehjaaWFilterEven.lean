/-
  The walk of the law FilterEven, for the seat Ytpjobkbefgehjaa. (Made by mkeven14.py.)
-/
import Derived.Test.YtpjobkbefgehjaaFAwake
import Derived.Test.YtpjobkbefgehjaaFEvW
import Derived.Test.YtpjobkbefgehjaaFCMeet
import Derived.Handy
import Derived.Deep.RegionHeld3
namespace Go.Proofs.Ytpjobkbefgehjaa
open Go.RowKit

set_option maxRecDepth 100000 in
set_option maxHeartbeats 4000000 in
theorem even_1 (g : Nat → Int) (v : V3) (s : Nat → Int) (w : World) (hM : hMoveS false g v (s 0) = ((fun _ => 0), true)) :
    Calls Try.prog 4 #[.agg (row 43 g).toArray, .agg #[.int .i64 v.1, .int .i64 v.2.1, .int .i64 v.2.2], .agg (row 13 s).toArray] w fun e w' => e = .returned (.bool true) ∧ Below w.heap.size w w' := by
  go_enter Try.func4, Try.ntmps4
  have y1_low : w.heap.size ≤ w.heap.size := (Below.refl w.heap.size w).size
  have y2_B0 : w.heap.size < w.heap.size + 1 := (Nat.lt_succ_self _)
  have y2_low : w.heap.size ≤ w.heap.size + 1 := (Nat.le_succ_of_le (Below.refl w.heap.size w).size)
  have y3_B0 : w.heap.size < w.heap.size + 1 + 1 := (Nat.lt_succ_of_lt (Nat.lt_succ_self _))
  have y3_B1 : w.heap.size + 1 < w.heap.size + 1 + 1 := (Nat.lt_succ_self _)
  have y3_low : w.heap.size ≤ w.heap.size + 1 + 1 := (Nat.le_succ_of_le (Nat.le_succ_of_le (Below.refl w.heap.size w).size))
  go_wp2_with fail
  refine (awake_any  _).mono ?_
  rintro e w1 ⟨rfl, k1⟩
  try dsimp only
  have K1 : Below w.heap.size w w1 := bel_then (bel_al (bel_al (bel_al (Below.refl w.heap.size w) _) _) _) k1
  have B0_1 : Arr w.heap.size (row 43 g) w1 := (((Arr_at _ _ (row 43 g) _ (by simp)).alloc _).alloc _).below k1
  have B1_1 : Arr (w.heap.size + 1) [.int .i64 v.1, .int .i64 v.2.1, .int .i64 v.2.2] w1 := ((Arr_at _ _ [.int .i64 v.1, .int .i64 v.2.1, .int .i64 v.2.2] _ (by simp)).alloc _).below k1
  have B2_1 : Arr (w.heap.size + 1 + 1) (row 13 s) w1 := (Arr_at _ _ (row 13 s) _ (by simp)).below k1
  have z1 := B2_1.lies
  clear k1
  have y4_B0 : w.heap.size < w1.heap.size := B0_1.lies
  have y4_B1 : w.heap.size + 1 < w1.heap.size := B1_1.lies
  have y4_B2 : w.heap.size + 1 + 1 < w1.heap.size := B2_1.lies
  have y4_low : w.heap.size ≤ w1.heap.size := K1.size
  have c2_B1_0 : w1.cell? ⟨w.heap.size + 1, 0, none⟩ = some (.int .i64 v.1) := B1_1.c 0 (of_decide_eq_true rfl)
  have c2_B1_1 : w1.cell? ⟨w.heap.size + 1, 1, none⟩ = some (.int .i64 v.2.1) := B1_1.c 1 (of_decide_eq_true rfl)
  have c2_B1_2 : w1.cell? ⟨w.heap.size + 1, 2, none⟩ = some (.int .i64 v.2.2) := B1_1.c 2 (of_decide_eq_true rfl)
  have c2_B2_3 : w1.cell? ⟨w.heap.size + 1 + 1, 0, none⟩ = some (.int .i64 (s 0)) := row_c B2_1 0 (by omega)
  have l2_B1 := B1_1.lies
  have l2_B2 := B2_1.lies
  go_wp2_with (refine row_load (ty := 31) rfl rfl rfl (B0_1.alloc _) (by kernel_rfl) (by rw [row_len]; kernel_rfl) ?_)
  refine (hMove_any w1.heap.size false g v (s 0) _ (Fl_at _ _ _ _ (by simp))).mono ?_
  rintro e w2 ⟨rfl, f2, k2⟩
  rw [hM] at f2 ⊢
  dsimp only at f2 ⊢
  try dsimp only
  have K2 : Below w.heap.size w w2 := k2.on (bel_al K1 _) (by omega)
  have B0_2 : Arr w.heap.size (row 43 g) w2 := (B0_1.alloc _).kept k2 (Nat.ne_of_lt y4_B0)
  have B1_2 : Arr (w.heap.size + 1) [.int .i64 v.1, .int .i64 v.2.1, .int .i64 v.2.2] w2 := (B1_1.alloc _).kept k2 (Nat.ne_of_lt y4_B1)
  have B2_2 : Arr (w.heap.size + 1 + 1) (row 13 s) w2 := (B2_1.alloc _).kept k2 (Nat.ne_of_lt y4_B2)
  have z2 := f2.lies
  clear c2_B1_0 c2_B1_1 c2_B1_2 c2_B2_3 l2_B1 l2_B2 K1 B0_1 B1_1 B2_1 k2
  have y5_B0 : w.heap.size < w2.heap.size := B0_2.lies
  have y5_B1 : w.heap.size + 1 < w2.heap.size := B1_2.lies
  have y5_B2 : w.heap.size + 1 + 1 < w2.heap.size := B2_2.lies
  have y5_B3 : w1.heap.size < w2.heap.size := f2.lies
  have y5_low : w.heap.size ≤ w2.heap.size := K2.size
  go_wp2_with (refine store_stop rfl (by kernel_rfl) ?_)
  refine Stop.mk (store_row (l' := row 43 (fun _ => 0)) rfl rfl rfl rfl (Arr_at _ _ (row 43 (fun _ => 0)) _ (by simp)) (by simp only [row_len]) (by rw [row_len]; kernel_rfl) (row_one _ _) ?_)
  intro w3 B4_3 o3
  have K3 : Below w.heap.size w w3 := bel_off (bel_al K2 _) o3 y5_low
  have B0_3 : Arr w.heap.size (row 43 g) w3 := (B0_2.alloc _).off o3 (Nat.ne_of_lt y5_B0)
  have B1_3 : Arr (w.heap.size + 1) [.int .i64 v.1, .int .i64 v.2.1, .int .i64 v.2.2] w3 := (B1_2.alloc _).off o3 (Nat.ne_of_lt y5_B1)
  have B2_3 : Arr (w.heap.size + 1 + 1) (row 13 s) w3 := (B2_2.alloc _).off o3 (Nat.ne_of_lt y5_B2)
  have B3_3 : Fl w1.heap.size true w3 := (f2.alloc _).off o3 (Nat.ne_of_lt y5_B3)
  have z3_B4 := B4_3.lies
  have z3_B0 := B0_3.lies
  have z3_B1 := B1_3.lies
  have z3_B2 := B2_3.lies
  have z3_B3 := B3_3.lies
  clear K2 B0_2 B1_2 B2_2 f2 o3
  have c4_B3 := B3_3.cell
  go_wp2_with (refine row_load (ty := 31) rfl rfl rfl B4_3 (by kernel_rfl) (by rw [row_len]; kernel_rfl) ?_)
  clear c4_B3
  go_ret
  exact ⟨rfl, K3⟩
set_option maxRecDepth 100000 in
set_option maxHeartbeats 4000000 in
theorem even_2 (g : Nat → Int) (v : V3) (s : Nat → Int) (w : World) (h : Nat → Int) (hM : hMoveS false g v (s 0) = (h, false)) (hE : EvenG h) (hK : hMeetS false h (fun x_ => s (1 + x_)) (fun x_ => s (7 + x_)) = (((fun _ => 0), 0, false), true)) :
    Calls Try.prog 4 #[.agg (row 43 g).toArray, .agg #[.int .i64 v.1, .int .i64 v.2.1, .int .i64 v.2.2], .agg (row 13 s).toArray] w fun e w' => e = .returned (.bool true) ∧ Below w.heap.size w w' := by
  go_enter Try.func4, Try.ntmps4
  have y1_low : w.heap.size ≤ w.heap.size := (Below.refl w.heap.size w).size
  have y2_B0 : w.heap.size < w.heap.size + 1 := (Nat.lt_succ_self _)
  have y2_low : w.heap.size ≤ w.heap.size + 1 := (Nat.le_succ_of_le (Below.refl w.heap.size w).size)
  have y3_B0 : w.heap.size < w.heap.size + 1 + 1 := (Nat.lt_succ_of_lt (Nat.lt_succ_self _))
  have y3_B1 : w.heap.size + 1 < w.heap.size + 1 + 1 := (Nat.lt_succ_self _)
  have y3_low : w.heap.size ≤ w.heap.size + 1 + 1 := (Nat.le_succ_of_le (Nat.le_succ_of_le (Below.refl w.heap.size w).size))
  go_wp2_with fail
  refine (awake_any  _).mono ?_
  rintro e w1 ⟨rfl, k1⟩
  try dsimp only
  have K1 : Below w.heap.size w w1 := bel_then (bel_al (bel_al (bel_al (Below.refl w.heap.size w) _) _) _) k1
  have B0_1 : Arr w.heap.size (row 43 g) w1 := (((Arr_at _ _ (row 43 g) _ (by simp)).alloc _).alloc _).below k1
  have B1_1 : Arr (w.heap.size + 1) [.int .i64 v.1, .int .i64 v.2.1, .int .i64 v.2.2] w1 := ((Arr_at _ _ [.int .i64 v.1, .int .i64 v.2.1, .int .i64 v.2.2] _ (by simp)).alloc _).below k1
  have B2_1 : Arr (w.heap.size + 1 + 1) (row 13 s) w1 := (Arr_at _ _ (row 13 s) _ (by simp)).below k1
  have z1 := B2_1.lies
  clear k1
  have y4_B0 : w.heap.size < w1.heap.size := B0_1.lies
  have y4_B1 : w.heap.size + 1 < w1.heap.size := B1_1.lies
  have y4_B2 : w.heap.size + 1 + 1 < w1.heap.size := B2_1.lies
  have y4_low : w.heap.size ≤ w1.heap.size := K1.size
  have c2_B1_0 : w1.cell? ⟨w.heap.size + 1, 0, none⟩ = some (.int .i64 v.1) := B1_1.c 0 (of_decide_eq_true rfl)
  have c2_B1_1 : w1.cell? ⟨w.heap.size + 1, 1, none⟩ = some (.int .i64 v.2.1) := B1_1.c 1 (of_decide_eq_true rfl)
  have c2_B1_2 : w1.cell? ⟨w.heap.size + 1, 2, none⟩ = some (.int .i64 v.2.2) := B1_1.c 2 (of_decide_eq_true rfl)
  have c2_B2_3 : w1.cell? ⟨w.heap.size + 1 + 1, 0, none⟩ = some (.int .i64 (s 0)) := row_c B2_1 0 (by omega)
  have l2_B1 := B1_1.lies
  have l2_B2 := B2_1.lies
  go_wp2_with (refine row_load (ty := 31) rfl rfl rfl (B0_1.alloc _) (by kernel_rfl) (by rw [row_len]; kernel_rfl) ?_)
  refine (hMove_any w1.heap.size false g v (s 0) _ (Fl_at _ _ _ _ (by simp))).mono ?_
  rintro e w2 ⟨rfl, f2, k2⟩
  rw [hM] at f2 ⊢
  dsimp only at f2 ⊢
  try dsimp only
  have K2 : Below w.heap.size w w2 := k2.on (bel_al K1 _) (by omega)
  have B0_2 : Arr w.heap.size (row 43 g) w2 := (B0_1.alloc _).kept k2 (Nat.ne_of_lt y4_B0)
  have B1_2 : Arr (w.heap.size + 1) [.int .i64 v.1, .int .i64 v.2.1, .int .i64 v.2.2] w2 := (B1_1.alloc _).kept k2 (Nat.ne_of_lt y4_B1)
  have B2_2 : Arr (w.heap.size + 1 + 1) (row 13 s) w2 := (B2_1.alloc _).kept k2 (Nat.ne_of_lt y4_B2)
  have z2 := f2.lies
  clear c2_B1_0 c2_B1_1 c2_B1_2 c2_B2_3 l2_B1 l2_B2 K1 B0_1 B1_1 B2_1 k2
  have y5_B0 : w.heap.size < w2.heap.size := B0_2.lies
  have y5_B1 : w.heap.size + 1 < w2.heap.size := B1_2.lies
  have y5_B2 : w.heap.size + 1 + 1 < w2.heap.size := B2_2.lies
  have y5_B3 : w1.heap.size < w2.heap.size := f2.lies
  have y5_low : w.heap.size ≤ w2.heap.size := K2.size
  go_wp2_with (refine store_stop rfl (by kernel_rfl) ?_)
  refine Stop.mk (store_row (l' := row 43 h) rfl rfl rfl rfl (Arr_at _ _ (row 43 (fun _ => 0)) _ (by simp)) (by simp only [row_len]) (by rw [row_len]; kernel_rfl) (row_one _ _) ?_)
  intro w3 B4_3 o3
  have K3 : Below w.heap.size w w3 := bel_off (bel_al K2 _) o3 y5_low
  have B0_3 : Arr w.heap.size (row 43 g) w3 := (B0_2.alloc _).off o3 (Nat.ne_of_lt y5_B0)
  have B1_3 : Arr (w.heap.size + 1) [.int .i64 v.1, .int .i64 v.2.1, .int .i64 v.2.2] w3 := (B1_2.alloc _).off o3 (Nat.ne_of_lt y5_B1)
  have B2_3 : Arr (w.heap.size + 1 + 1) (row 13 s) w3 := (B2_2.alloc _).off o3 (Nat.ne_of_lt y5_B2)
  have B3_3 : Fl w1.heap.size false w3 := (f2.alloc _).off o3 (Nat.ne_of_lt y5_B3)
  have z3_B4 := B4_3.lies
  have z3_B0 := B0_3.lies
  have z3_B1 := B1_3.lies
  have z3_B2 := B2_3.lies
  have z3_B3 := B3_3.lies
  clear K2 B0_2 B1_2 B2_2 f2 o3
  have c4_B3 := B3_3.cell
  go_wp2_with (refine row_load (ty := 31) rfl rfl rfl B4_3 (by kernel_rfl) (by rw [row_len]; kernel_rfl) ?_)
  refine (even_any h _ (by assumption)).mono ?_
  rintro e w4 ⟨rfl, k4⟩
  try dsimp only
  have K4 : Below w.heap.size w w4 := bel_then K3 k4
  have B0_4 : Arr w.heap.size (row 43 g) w4 := B0_3.below k4
  have B1_4 : Arr (w.heap.size + 1) [.int .i64 v.1, .int .i64 v.2.1, .int .i64 v.2.2] w4 := B1_3.below k4
  have B2_4 : Arr (w.heap.size + 1 + 1) (row 13 s) w4 := B2_3.below k4
  have B3_4 : Fl w1.heap.size false w4 := B3_3.below k4
  have B4_4 : Arr w2.heap.size (row 43 h) w4 := B4_3.below k4
  have z4 := B4_4.lies
  clear c4_B3 K3 B0_3 B1_3 B2_3 B3_3 B4_3 k4
  go_wp2_with (first | (refine row_load (ty := 31) rfl rfl rfl B4_4 (by kernel_rfl) (by rw [row_len]; kernel_rfl) ?_) | (refine part_load (ty := 45) (M := 6) rfl rfl rfl B2_4 (by omega) (by kernel_rfl) (by rw [row_len]; kernel_rfl) ?_) | (refine part_load (ty := 45) (M := 6) rfl rfl rfl B2_4 (by omega) (by kernel_rfl) (by rw [row_len]; kernel_rfl) ?_))
  refine (hMeet_any w1.heap.size false h (fun x_ => s (1 + x_)) (fun x_ => s (7 + x_)) _ B3_4).mono ?_
  rintro e w5 ⟨rfl, f5, k5⟩
  rw [hK] at f5 ⊢
  dsimp only at f5 ⊢
  try dsimp only
  have K5 : Below w.heap.size w w5 := k5.on K4 (by omega)
  have B0_5 : Arr w.heap.size (row 43 g) w5 := B0_4.kept k5 (Nat.ne_of_lt y4_B0)
  have B1_5 : Arr (w.heap.size + 1) [.int .i64 v.1, .int .i64 v.2.1, .int .i64 v.2.2] w5 := B1_4.kept k5 (Nat.ne_of_lt y4_B1)
  have B2_5 : Arr (w.heap.size + 1 + 1) (row 13 s) w5 := B2_4.kept k5 (Nat.ne_of_lt y4_B2)
  have B4_5 : Arr w2.heap.size (row 43 h) w5 := B4_4.kept k5 (Nat.ne_of_gt y5_B3)
  have z5 := B4_5.lies
  clear K4 B0_4 B1_4 B2_4 B3_4 B4_4 k5
  have y6_B0 : w.heap.size < w5.heap.size := B0_5.lies
  have y6_B1 : w.heap.size + 1 < w5.heap.size := B1_5.lies
  have y6_B2 : w.heap.size + 1 + 1 < w5.heap.size := B2_5.lies
  have y6_B3 : w1.heap.size < w5.heap.size := f5.lies
  have y6_B4 : w2.heap.size < w5.heap.size := B4_5.lies
  have y6_low : w.heap.size ≤ w5.heap.size := K5.size
  go_wp2_with (refine store_stop rfl (by kernel_rfl) ?_)
  refine Stop.mk (store_row (l' := row 43 (fun _ => 0)) rfl rfl rfl rfl (Arr_at _ _ (row 43 (fun _ => 0)) _ (by simp)) (by simp only [row_len]) (by rw [row_len]; kernel_rfl) (row_one _ _) ?_)
  intro w6 B5_6 o6
  have K6 : Below w.heap.size w w6 := bel_off (bel_al K5 _) o6 y6_low
  have B0_6 : Arr w.heap.size (row 43 g) w6 := (B0_5.alloc _).off o6 (Nat.ne_of_lt y6_B0)
  have B1_6 : Arr (w.heap.size + 1) [.int .i64 v.1, .int .i64 v.2.1, .int .i64 v.2.2] w6 := (B1_5.alloc _).off o6 (Nat.ne_of_lt y6_B1)
  have B2_6 : Arr (w.heap.size + 1 + 1) (row 13 s) w6 := (B2_5.alloc _).off o6 (Nat.ne_of_lt y6_B2)
  have B3_6 : Fl w1.heap.size true w6 := (f5.alloc _).off o6 (Nat.ne_of_lt y6_B3)
  have B4_6 : Arr w2.heap.size (row 43 h) w6 := (B4_5.alloc _).off o6 (Nat.ne_of_lt y6_B4)
  have z6_B5 := B5_6.lies
  have z6_B0 := B0_6.lies
  have z6_B1 := B1_6.lies
  have z6_B2 := B2_6.lies
  have z6_B3 := B3_6.lies
  have z6_B4 := B4_6.lies
  clear K5 B0_5 B1_5 B2_5 f5 B4_5 o6
  have c7_B3 := B3_6.cell
  go_wp2_with (refine row_load (ty := 31) rfl rfl rfl B5_6 (by kernel_rfl) (by rw [row_len]; kernel_rfl) ?_)
  clear c7_B3
  go_ret
  exact ⟨rfl, K6⟩
set_option maxRecDepth 100000 in
set_option maxHeartbeats 4000000 in
theorem even_3 (g : Nat → Int) (v : V3) (s : Nat → Int) (w : World) (h : Nat → Int) (hM : hMoveS false g v (s 0) = (h, false)) (hE : EvenG h) (x : Int) (hK : hMeetS false h (fun x_ => s (1 + x_)) (fun x_ => s (7 + x_)) = ((h, x, false), false)) (hx : 32985348833280 < x) :
    Calls Try.prog 4 #[.agg (row 43 g).toArray, .agg #[.int .i64 v.1, .int .i64 v.2.1, .int .i64 v.2.2], .agg (row 13 s).toArray] w fun e w' => e = .returned (.bool true) ∧ Below w.heap.size w w' := by
  go_enter Try.func4, Try.ntmps4
  have y1_low : w.heap.size ≤ w.heap.size := (Below.refl w.heap.size w).size
  have y2_B0 : w.heap.size < w.heap.size + 1 := (Nat.lt_succ_self _)
  have y2_low : w.heap.size ≤ w.heap.size + 1 := (Nat.le_succ_of_le (Below.refl w.heap.size w).size)
  have y3_B0 : w.heap.size < w.heap.size + 1 + 1 := (Nat.lt_succ_of_lt (Nat.lt_succ_self _))
  have y3_B1 : w.heap.size + 1 < w.heap.size + 1 + 1 := (Nat.lt_succ_self _)
  have y3_low : w.heap.size ≤ w.heap.size + 1 + 1 := (Nat.le_succ_of_le (Nat.le_succ_of_le (Below.refl w.heap.size w).size))
  go_wp2_with fail
  refine (awake_any  _).mono ?_
  rintro e w1 ⟨rfl, k1⟩
  try dsimp only
  have K1 : Below w.heap.size w w1 := bel_then (bel_al (bel_al (bel_al (Below.refl w.heap.size w) _) _) _) k1
  have B0_1 : Arr w.heap.size (row 43 g) w1 := (((Arr_at _ _ (row 43 g) _ (by simp)).alloc _).alloc _).below k1
  have B1_1 : Arr (w.heap.size + 1) [.int .i64 v.1, .int .i64 v.2.1, .int .i64 v.2.2] w1 := ((Arr_at _ _ [.int .i64 v.1, .int .i64 v.2.1, .int .i64 v.2.2] _ (by simp)).alloc _).below k1
  have B2_1 : Arr (w.heap.size + 1 + 1) (row 13 s) w1 := (Arr_at _ _ (row 13 s) _ (by simp)).below k1
  have z1 := B2_1.lies
  clear k1
  have y4_B0 : w.heap.size < w1.heap.size := B0_1.lies
  have y4_B1 : w.heap.size + 1 < w1.heap.size := B1_1.lies
  have y4_B2 : w.heap.size + 1 + 1 < w1.heap.size := B2_1.lies
  have y4_low : w.heap.size ≤ w1.heap.size := K1.size
  have c2_B1_0 : w1.cell? ⟨w.heap.size + 1, 0, none⟩ = some (.int .i64 v.1) := B1_1.c 0 (of_decide_eq_true rfl)
  have c2_B1_1 : w1.cell? ⟨w.heap.size + 1, 1, none⟩ = some (.int .i64 v.2.1) := B1_1.c 1 (of_decide_eq_true rfl)
  have c2_B1_2 : w1.cell? ⟨w.heap.size + 1, 2, none⟩ = some (.int .i64 v.2.2) := B1_1.c 2 (of_decide_eq_true rfl)
  have c2_B2_3 : w1.cell? ⟨w.heap.size + 1 + 1, 0, none⟩ = some (.int .i64 (s 0)) := row_c B2_1 0 (by omega)
  have l2_B1 := B1_1.lies
  have l2_B2 := B2_1.lies
  go_wp2_with (refine row_load (ty := 31) rfl rfl rfl (B0_1.alloc _) (by kernel_rfl) (by rw [row_len]; kernel_rfl) ?_)
  refine (hMove_any w1.heap.size false g v (s 0) _ (Fl_at _ _ _ _ (by simp))).mono ?_
  rintro e w2 ⟨rfl, f2, k2⟩
  rw [hM] at f2 ⊢
  dsimp only at f2 ⊢
  try dsimp only
  have K2 : Below w.heap.size w w2 := k2.on (bel_al K1 _) (by omega)
  have B0_2 : Arr w.heap.size (row 43 g) w2 := (B0_1.alloc _).kept k2 (Nat.ne_of_lt y4_B0)
  have B1_2 : Arr (w.heap.size + 1) [.int .i64 v.1, .int .i64 v.2.1, .int .i64 v.2.2] w2 := (B1_1.alloc _).kept k2 (Nat.ne_of_lt y4_B1)
  have B2_2 : Arr (w.heap.size + 1 + 1) (row 13 s) w2 := (B2_1.alloc _).kept k2 (Nat.ne_of_lt y4_B2)
  have z2 := f2.lies
  clear c2_B1_0 c2_B1_1 c2_B1_2 c2_B2_3 l2_B1 l2_B2 K1 B0_1 B1_1 B2_1 k2
  have y5_B0 : w.heap.size < w2.heap.size := B0_2.lies
  have y5_B1 : w.heap.size + 1 < w2.heap.size := B1_2.lies
  have y5_B2 : w.heap.size + 1 + 1 < w2.heap.size := B2_2.lies
  have y5_B3 : w1.heap.size < w2.heap.size := f2.lies
  have y5_low : w.heap.size ≤ w2.heap.size := K2.size
  go_wp2_with (refine store_stop rfl (by kernel_rfl) ?_)
  refine Stop.mk (store_row (l' := row 43 h) rfl rfl rfl rfl (Arr_at _ _ (row 43 (fun _ => 0)) _ (by simp)) (by simp only [row_len]) (by rw [row_len]; kernel_rfl) (row_one _ _) ?_)
  intro w3 B4_3 o3
  have K3 : Below w.heap.size w w3 := bel_off (bel_al K2 _) o3 y5_low
  have B0_3 : Arr w.heap.size (row 43 g) w3 := (B0_2.alloc _).off o3 (Nat.ne_of_lt y5_B0)
  have B1_3 : Arr (w.heap.size + 1) [.int .i64 v.1, .int .i64 v.2.1, .int .i64 v.2.2] w3 := (B1_2.alloc _).off o3 (Nat.ne_of_lt y5_B1)
  have B2_3 : Arr (w.heap.size + 1 + 1) (row 13 s) w3 := (B2_2.alloc _).off o3 (Nat.ne_of_lt y5_B2)
  have B3_3 : Fl w1.heap.size false w3 := (f2.alloc _).off o3 (Nat.ne_of_lt y5_B3)
  have z3_B4 := B4_3.lies
  have z3_B0 := B0_3.lies
  have z3_B1 := B1_3.lies
  have z3_B2 := B2_3.lies
  have z3_B3 := B3_3.lies
  clear K2 B0_2 B1_2 B2_2 f2 o3
  have c4_B3 := B3_3.cell
  go_wp2_with (refine row_load (ty := 31) rfl rfl rfl B4_3 (by kernel_rfl) (by rw [row_len]; kernel_rfl) ?_)
  refine (even_any h _ (by assumption)).mono ?_
  rintro e w4 ⟨rfl, k4⟩
  try dsimp only
  have K4 : Below w.heap.size w w4 := bel_then K3 k4
  have B0_4 : Arr w.heap.size (row 43 g) w4 := B0_3.below k4
  have B1_4 : Arr (w.heap.size + 1) [.int .i64 v.1, .int .i64 v.2.1, .int .i64 v.2.2] w4 := B1_3.below k4
  have B2_4 : Arr (w.heap.size + 1 + 1) (row 13 s) w4 := B2_3.below k4
  have B3_4 : Fl w1.heap.size false w4 := B3_3.below k4
  have B4_4 : Arr w2.heap.size (row 43 h) w4 := B4_3.below k4
  have z4 := B4_4.lies
  clear c4_B3 K3 B0_3 B1_3 B2_3 B3_3 B4_3 k4
  go_wp2_with (first | (refine row_load (ty := 31) rfl rfl rfl B4_4 (by kernel_rfl) (by rw [row_len]; kernel_rfl) ?_) | (refine part_load (ty := 45) (M := 6) rfl rfl rfl B2_4 (by omega) (by kernel_rfl) (by rw [row_len]; kernel_rfl) ?_) | (refine part_load (ty := 45) (M := 6) rfl rfl rfl B2_4 (by omega) (by kernel_rfl) (by rw [row_len]; kernel_rfl) ?_))
  refine (hMeet_any w1.heap.size false h (fun x_ => s (1 + x_)) (fun x_ => s (7 + x_)) _ B3_4).mono ?_
  rintro e w5 ⟨rfl, f5, k5⟩
  rw [hK] at f5 ⊢
  dsimp only at f5 ⊢
  try dsimp only
  have K5 : Below w.heap.size w w5 := k5.on K4 (by omega)
  have B0_5 : Arr w.heap.size (row 43 g) w5 := B0_4.kept k5 (Nat.ne_of_lt y4_B0)
  have B1_5 : Arr (w.heap.size + 1) [.int .i64 v.1, .int .i64 v.2.1, .int .i64 v.2.2] w5 := B1_4.kept k5 (Nat.ne_of_lt y4_B1)
  have B2_5 : Arr (w.heap.size + 1 + 1) (row 13 s) w5 := B2_4.kept k5 (Nat.ne_of_lt y4_B2)
  have B4_5 : Arr w2.heap.size (row 43 h) w5 := B4_4.kept k5 (Nat.ne_of_gt y5_B3)
  have z5 := B4_5.lies
  clear K4 B0_4 B1_4 B2_4 B3_4 B4_4 k5
  have y6_B0 : w.heap.size < w5.heap.size := B0_5.lies
  have y6_B1 : w.heap.size + 1 < w5.heap.size := B1_5.lies
  have y6_B2 : w.heap.size + 1 + 1 < w5.heap.size := B2_5.lies
  have y6_B3 : w1.heap.size < w5.heap.size := f5.lies
  have y6_B4 : w2.heap.size < w5.heap.size := B4_5.lies
  have y6_low : w.heap.size ≤ w5.heap.size := K5.size
  go_wp2_with (refine store_stop rfl (by kernel_rfl) ?_)
  refine Stop.mk (store_row (l' := row 43 h) rfl rfl rfl rfl (Arr_at _ _ (row 43 (fun _ => 0)) _ (by simp)) (by simp only [row_len]) (by rw [row_len]; kernel_rfl) (row_one _ _) ?_)
  intro w6 B5_6 o6
  have K6 : Below w.heap.size w w6 := bel_off (bel_al K5 _) o6 y6_low
  have B0_6 : Arr w.heap.size (row 43 g) w6 := (B0_5.alloc _).off o6 (Nat.ne_of_lt y6_B0)
  have B1_6 : Arr (w.heap.size + 1) [.int .i64 v.1, .int .i64 v.2.1, .int .i64 v.2.2] w6 := (B1_5.alloc _).off o6 (Nat.ne_of_lt y6_B1)
  have B2_6 : Arr (w.heap.size + 1 + 1) (row 13 s) w6 := (B2_5.alloc _).off o6 (Nat.ne_of_lt y6_B2)
  have B3_6 : Fl w1.heap.size false w6 := (f5.alloc _).off o6 (Nat.ne_of_lt y6_B3)
  have B4_6 : Arr w2.heap.size (row 43 h) w6 := (B4_5.alloc _).off o6 (Nat.ne_of_lt y6_B4)
  have z6_B5 := B5_6.lies
  have z6_B0 := B0_6.lies
  have z6_B1 := B1_6.lies
  have z6_B2 := B2_6.lies
  have z6_B3 := B3_6.lies
  have z6_B4 := B4_6.lies
  clear K5 B0_5 B1_5 B2_5 f5 B4_5 o6
  have c7_B3 := B3_6.cell
  go_wp2_with (first | (refine row_load (ty := 31) rfl rfl rfl B5_6 (by kernel_rfl) (by rw [row_len]; kernel_rfl) ?_) | (refine row_load (ty := 31) rfl rfl rfl B4_6 (by kernel_rfl) (by rw [row_len]; kernel_rfl) ?_))
  clear c7_B3
  go_ret
  exact ⟨rfl, K6⟩
set_option maxRecDepth 100000 in
set_option maxHeartbeats 4000000 in
theorem even_4 (g : Nat → Int) (v : V3) (s : Nat → Int) (w : World) (h : Nat → Int) (hM : hMoveS false g v (s 0) = (h, false)) (hE : EvenG h) (k : Nat → Int) (x : Int) (hK : hMeetS false h (fun x_ => s (1 + x_)) (fun x_ => s (7 + x_)) = ((k, x, true), false)) (hx : x ≤ 32985348833280) (hF : EvenG k) :
    Calls Try.prog 4 #[.agg (row 43 g).toArray, .agg #[.int .i64 v.1, .int .i64 v.2.1, .int .i64 v.2.2], .agg (row 13 s).toArray] w fun e w' => e = .returned (.bool true) ∧ Below w.heap.size w w' := by
  go_enter Try.func4, Try.ntmps4
  have y1_low : w.heap.size ≤ w.heap.size := (Below.refl w.heap.size w).size
  have y2_B0 : w.heap.size < w.heap.size + 1 := (Nat.lt_succ_self _)
  have y2_low : w.heap.size ≤ w.heap.size + 1 := (Nat.le_succ_of_le (Below.refl w.heap.size w).size)
  have y3_B0 : w.heap.size < w.heap.size + 1 + 1 := (Nat.lt_succ_of_lt (Nat.lt_succ_self _))
  have y3_B1 : w.heap.size + 1 < w.heap.size + 1 + 1 := (Nat.lt_succ_self _)
  have y3_low : w.heap.size ≤ w.heap.size + 1 + 1 := (Nat.le_succ_of_le (Nat.le_succ_of_le (Below.refl w.heap.size w).size))
  go_wp2_with fail
  refine (awake_any  _).mono ?_
  rintro e w1 ⟨rfl, k1⟩
  try dsimp only
  have K1 : Below w.heap.size w w1 := bel_then (bel_al (bel_al (bel_al (Below.refl w.heap.size w) _) _) _) k1
  have B0_1 : Arr w.heap.size (row 43 g) w1 := (((Arr_at _ _ (row 43 g) _ (by simp)).alloc _).alloc _).below k1
  have B1_1 : Arr (w.heap.size + 1) [.int .i64 v.1, .int .i64 v.2.1, .int .i64 v.2.2] w1 := ((Arr_at _ _ [.int .i64 v.1, .int .i64 v.2.1, .int .i64 v.2.2] _ (by simp)).alloc _).below k1
  have B2_1 : Arr (w.heap.size + 1 + 1) (row 13 s) w1 := (Arr_at _ _ (row 13 s) _ (by simp)).below k1
  have z1 := B2_1.lies
  clear k1
  have y4_B0 : w.heap.size < w1.heap.size := B0_1.lies
  have y4_B1 : w.heap.size + 1 < w1.heap.size := B1_1.lies
  have y4_B2 : w.heap.size + 1 + 1 < w1.heap.size := B2_1.lies
  have y4_low : w.heap.size ≤ w1.heap.size := K1.size
  have c2_B1_0 : w1.cell? ⟨w.heap.size + 1, 0, none⟩ = some (.int .i64 v.1) := B1_1.c 0 (of_decide_eq_true rfl)
  have c2_B1_1 : w1.cell? ⟨w.heap.size + 1, 1, none⟩ = some (.int .i64 v.2.1) := B1_1.c 1 (of_decide_eq_true rfl)
  have c2_B1_2 : w1.cell? ⟨w.heap.size + 1, 2, none⟩ = some (.int .i64 v.2.2) := B1_1.c 2 (of_decide_eq_true rfl)
  have c2_B2_3 : w1.cell? ⟨w.heap.size + 1 + 1, 0, none⟩ = some (.int .i64 (s 0)) := row_c B2_1 0 (by omega)
  have l2_B1 := B1_1.lies
  have l2_B2 := B2_1.lies
  go_wp2_with (refine row_load (ty := 31) rfl rfl rfl (B0_1.alloc _) (by kernel_rfl) (by rw [row_len]; kernel_rfl) ?_)
  refine (hMove_any w1.heap.size false g v (s 0) _ (Fl_at _ _ _ _ (by simp))).mono ?_
  rintro e w2 ⟨rfl, f2, k2⟩
  rw [hM] at f2 ⊢
  dsimp only at f2 ⊢
  try dsimp only
  have K2 : Below w.heap.size w w2 := k2.on (bel_al K1 _) (by omega)
  have B0_2 : Arr w.heap.size (row 43 g) w2 := (B0_1.alloc _).kept k2 (Nat.ne_of_lt y4_B0)
  have B1_2 : Arr (w.heap.size + 1) [.int .i64 v.1, .int .i64 v.2.1, .int .i64 v.2.2] w2 := (B1_1.alloc _).kept k2 (Nat.ne_of_lt y4_B1)
  have B2_2 : Arr (w.heap.size + 1 + 1) (row 13 s) w2 := (B2_1.alloc _).kept k2 (Nat.ne_of_lt y4_B2)
  have z2 := f2.lies
  clear c2_B1_0 c2_B1_1 c2_B1_2 c2_B2_3 l2_B1 l2_B2 K1 B0_1 B1_1 B2_1 k2
  have y5_B0 : w.heap.size < w2.heap.size := B0_2.lies
  have y5_B1 : w.heap.size + 1 < w2.heap.size := B1_2.lies
  have y5_B2 : w.heap.size + 1 + 1 < w2.heap.size := B2_2.lies
  have y5_B3 : w1.heap.size < w2.heap.size := f2.lies
  have y5_low : w.heap.size ≤ w2.heap.size := K2.size
  go_wp2_with (refine store_stop rfl (by kernel_rfl) ?_)
  refine Stop.mk (store_row (l' := row 43 h) rfl rfl rfl rfl (Arr_at _ _ (row 43 (fun _ => 0)) _ (by simp)) (by simp only [row_len]) (by rw [row_len]; kernel_rfl) (row_one _ _) ?_)
  intro w3 B4_3 o3
  have K3 : Below w.heap.size w w3 := bel_off (bel_al K2 _) o3 y5_low
  have B0_3 : Arr w.heap.size (row 43 g) w3 := (B0_2.alloc _).off o3 (Nat.ne_of_lt y5_B0)
  have B1_3 : Arr (w.heap.size + 1) [.int .i64 v.1, .int .i64 v.2.1, .int .i64 v.2.2] w3 := (B1_2.alloc _).off o3 (Nat.ne_of_lt y5_B1)
  have B2_3 : Arr (w.heap.size + 1 + 1) (row 13 s) w3 := (B2_2.alloc _).off o3 (Nat.ne_of_lt y5_B2)
  have B3_3 : Fl w1.heap.size false w3 := (f2.alloc _).off o3 (Nat.ne_of_lt y5_B3)
  have z3_B4 := B4_3.lies
  have z3_B0 := B0_3.lies
  have z3_B1 := B1_3.lies
  have z3_B2 := B2_3.lies
  have z3_B3 := B3_3.lies
  clear K2 B0_2 B1_2 B2_2 f2 o3
  have c4_B3 := B3_3.cell
  go_wp2_with (refine row_load (ty := 31) rfl rfl rfl B4_3 (by kernel_rfl) (by rw [row_len]; kernel_rfl) ?_)
  refine (even_any h _ (by assumption)).mono ?_
  rintro e w4 ⟨rfl, k4⟩
  try dsimp only
  have K4 : Below w.heap.size w w4 := bel_then K3 k4
  have B0_4 : Arr w.heap.size (row 43 g) w4 := B0_3.below k4
  have B1_4 : Arr (w.heap.size + 1) [.int .i64 v.1, .int .i64 v.2.1, .int .i64 v.2.2] w4 := B1_3.below k4
  have B2_4 : Arr (w.heap.size + 1 + 1) (row 13 s) w4 := B2_3.below k4
  have B3_4 : Fl w1.heap.size false w4 := B3_3.below k4
  have B4_4 : Arr w2.heap.size (row 43 h) w4 := B4_3.below k4
  have z4 := B4_4.lies
  clear c4_B3 K3 B0_3 B1_3 B2_3 B3_3 B4_3 k4
  go_wp2_with (first | (refine row_load (ty := 31) rfl rfl rfl B4_4 (by kernel_rfl) (by rw [row_len]; kernel_rfl) ?_) | (refine part_load (ty := 45) (M := 6) rfl rfl rfl B2_4 (by omega) (by kernel_rfl) (by rw [row_len]; kernel_rfl) ?_) | (refine part_load (ty := 45) (M := 6) rfl rfl rfl B2_4 (by omega) (by kernel_rfl) (by rw [row_len]; kernel_rfl) ?_))
  refine (hMeet_any w1.heap.size false h (fun x_ => s (1 + x_)) (fun x_ => s (7 + x_)) _ B3_4).mono ?_
  rintro e w5 ⟨rfl, f5, k5⟩
  rw [hK] at f5 ⊢
  dsimp only at f5 ⊢
  try dsimp only
  have K5 : Below w.heap.size w w5 := k5.on K4 (by omega)
  have B0_5 : Arr w.heap.size (row 43 g) w5 := B0_4.kept k5 (Nat.ne_of_lt y4_B0)
  have B1_5 : Arr (w.heap.size + 1) [.int .i64 v.1, .int .i64 v.2.1, .int .i64 v.2.2] w5 := B1_4.kept k5 (Nat.ne_of_lt y4_B1)
  have B2_5 : Arr (w.heap.size + 1 + 1) (row 13 s) w5 := B2_4.kept k5 (Nat.ne_of_lt y4_B2)
  have B4_5 : Arr w2.heap.size (row 43 h) w5 := B4_4.kept k5 (Nat.ne_of_gt y5_B3)
  have z5 := B4_5.lies
  clear K4 B0_4 B1_4 B2_4 B3_4 B4_4 k5
  have y6_B0 : w.heap.size < w5.heap.size := B0_5.lies
  have y6_B1 : w.heap.size + 1 < w5.heap.size := B1_5.lies
  have y6_B2 : w.heap.size + 1 + 1 < w5.heap.size := B2_5.lies
  have y6_B3 : w1.heap.size < w5.heap.size := f5.lies
  have y6_B4 : w2.heap.size < w5.heap.size := B4_5.lies
  have y6_low : w.heap.size ≤ w5.heap.size := K5.size
  go_wp2_with (refine store_stop rfl (by kernel_rfl) ?_)
  refine Stop.mk (store_row (l' := row 43 k) rfl rfl rfl rfl (Arr_at _ _ (row 43 (fun _ => 0)) _ (by simp)) (by simp only [row_len]) (by rw [row_len]; kernel_rfl) (row_one _ _) ?_)
  intro w6 B5_6 o6
  have K6 : Below w.heap.size w w6 := bel_off (bel_al K5 _) o6 y6_low
  have B0_6 : Arr w.heap.size (row 43 g) w6 := (B0_5.alloc _).off o6 (Nat.ne_of_lt y6_B0)
  have B1_6 : Arr (w.heap.size + 1) [.int .i64 v.1, .int .i64 v.2.1, .int .i64 v.2.2] w6 := (B1_5.alloc _).off o6 (Nat.ne_of_lt y6_B1)
  have B2_6 : Arr (w.heap.size + 1 + 1) (row 13 s) w6 := (B2_5.alloc _).off o6 (Nat.ne_of_lt y6_B2)
  have B3_6 : Fl w1.heap.size false w6 := (f5.alloc _).off o6 (Nat.ne_of_lt y6_B3)
  have B4_6 : Arr w2.heap.size (row 43 h) w6 := (B4_5.alloc _).off o6 (Nat.ne_of_lt y6_B4)
  have z6_B5 := B5_6.lies
  have z6_B0 := B0_6.lies
  have z6_B1 := B1_6.lies
  have z6_B2 := B2_6.lies
  have z6_B3 := B3_6.lies
  have z6_B4 := B4_6.lies
  clear K5 B0_5 B1_5 B2_5 f5 B4_5 o6
  have c7_B3 := B3_6.cell
  go_wp2_with (refine row_load (ty := 31) rfl rfl rfl B5_6 (by kernel_rfl) (by rw [row_len]; kernel_rfl) ?_)
  refine (even_any k _ (by assumption)).mono ?_
  rintro e w7 ⟨rfl, k7⟩
  try dsimp only
  have K7 : Below w.heap.size w w7 := bel_then K6 k7
  have B0_7 : Arr w.heap.size (row 43 g) w7 := B0_6.below k7
  have B1_7 : Arr (w.heap.size + 1) [.int .i64 v.1, .int .i64 v.2.1, .int .i64 v.2.2] w7 := B1_6.below k7
  have B2_7 : Arr (w.heap.size + 1 + 1) (row 13 s) w7 := B2_6.below k7
  have B3_7 : Fl w1.heap.size false w7 := B3_6.below k7
  have B4_7 : Arr w2.heap.size (row 43 h) w7 := B4_6.below k7
  have B5_7 : Arr w5.heap.size (row 43 k) w7 := B5_6.below k7
  have z7 := B5_7.lies
  clear c7_B3 K6 B0_6 B1_6 B2_6 B3_6 B4_6 B5_6 k7
  go_wp2
  go_ret
  exact ⟨rfl, K7⟩
theorem FilterEven_any (g : Nat → Int) (v : V3) (s : Nat → Int) (w : World) :
    Calls Try.prog 4 #[.agg (row 43 g).toArray, .agg #[.int .i64 v.1, .int .i64 v.2.1, .int .i64 v.2.2], .agg (row 13 s).toArray] w fun e w' => e = .returned (.bool true) ∧ Below w.heap.size w w' := by
  rcases move_out g v (s 0) with hM | ⟨h, hM, hE⟩
  · exact even_1 g v s w hM
  · rcases meet_out h (fun x_ => s (1 + x_)) (fun x_ => s (7 + x_)) with hK | ⟨x, hK, hx⟩ | ⟨k, x, hK, hx, hF⟩
    · exact even_2 g v s w h hM hE hK
    · exact even_3 g v s w h hM hE x hK hx
    · exact even_4 g v s w h hM hE k x hK hx hF
end Go.Proofs.Ytpjobkbefgehjaa
