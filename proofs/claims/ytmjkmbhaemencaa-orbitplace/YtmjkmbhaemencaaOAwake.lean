/-
  awake, for the seat Ytmjkmbhaemencaa. (Made by mkorbit.py.)
-/
import Derived.Test.YtmjkmbhaemencaaOPlace
import Derived.Handy
import Derived.Deep.RegionHeld3
namespace Go.Proofs.Ytmjkmbhaemencaa
open Go.RowKit

theorem awake_right : oRightC (7696581394432, 0, 0, 0, 0, 0, 0) = true := by decide +kernel
theorem awake_place : placeS false (7696581394432, 0, 0, 0, 0, 0, 0) 0 = ((7696581394432, 0, 0), false) := by decide +kernel
set_option maxRecDepth 100000 in
set_option maxHeartbeats 2000000 in
theorem round_any  (w : World) :
    Calls Try.prog 22 #[] w fun e w' => e = .returned (.agg #[.int .i64 ((7696581394432, 0, 0, 0, 0, 0, 0).1), .int .i64 ((7696581394432, 0, 0, 0, 0, 0, 0).2.1), .int .i64 ((7696581394432, 0, 0, 0, 0, 0, 0).2.2.1), .int .i64 ((7696581394432, 0, 0, 0, 0, 0, 0).2.2.2.1), .int .i64 ((7696581394432, 0, 0, 0, 0, 0, 0).2.2.2.2.1), .int .i64 ((7696581394432, 0, 0, 0, 0, 0, 0).2.2.2.2.2.1), .int .i64 ((7696581394432, 0, 0, 0, 0, 0, 0).2.2.2.2.2.2)]) ∧ Below w.heap.size w w' := by
  go_enter Try.func22, Try.ntmps22
  go_wp2_with (with_reducible refine post_stop ?_)
  refine Stop.mk ?_
  refine bodyPost_ret (v := .agg #[.int .i64 7696581394432, .int .i64 0, .int .i64 0, .int .i64 0, .int .i64 0, .int .i64 0, .int .i64 0]) (results_arr Try.results22 (Arr_at _ _ [.int .i64 7696581394432, .int .i64 0, .int .i64 0, .int .i64 0, .int .i64 0, .int .i64 0, .int .i64 0] _ (by simp)) rfl (by kernel_rfl) (by kernel_rfl)) rfl ?_
  exact ⟨rfl, (bel_al (Below.refl w.heap.size w) _)⟩
set_option maxRecDepth 100000 in
set_option maxHeartbeats 4000000 in
theorem awake_any  (w : World) :
    Calls Try.prog 9 #[] w fun e w' => e = .returned (.bool true) ∧ Below w.heap.size w w' := by
  go_enter Try.func9, Try.ntmps9
  have y1_low : w.heap.size ≤ w.heap.size := (Below.refl w.heap.size w).size
  go_wp2_with fail
  refine (round_any  _).mono ?_
  rintro e w1 ⟨rfl, k1⟩
  have K1 : Below w.heap.size w w1 := bel_then (bel_al (Below.refl w.heap.size w) _) k1
  have B0_1 : Fl w.heap.size false w1 := (Fl_at _ _ _ _ (by simp)).below k1
  have z1 := B0_1.lies
  clear k1
  go_wp2_with fail
  refine (oPlace_any w.heap.size false (7696581394432, 0, 0, 0, 0, 0, 0) 0 _ B0_1).mono ?_
  rintro e w2 ⟨rfl, f2, k2⟩
  rw [awake_place] at f2 ⊢
  dsimp only at f2 ⊢
  have K2 : Below w.heap.size w w2 := k2.on K1 (by omega)
  have z2 := f2.lies
  clear K1 B0_1 k2
  have y2_B0 : w.heap.size < w2.heap.size := f2.lies
  have y2_low : w.heap.size ≤ w2.heap.size := K2.size
  go_wp2_with fail
  refine (round_any  _).mono ?_
  rintro e w3 ⟨rfl, k3⟩
  have K3 : Below w.heap.size w w3 := bel_then (bel_al K2 _) k3
  have B0_3 : Fl w.heap.size false w3 := (f2.alloc _).below k3
  have B1_3 : Arr w2.heap.size [.int .i64 7696581394432, .int .i64 0, .int .i64 0] w3 := (Arr_at _ _ [.int .i64 7696581394432, .int .i64 0, .int .i64 0] _ (by simp)).below k3
  have z3 := B1_3.lies
  clear K2 f2 k3
  go_wp2_with fail
  refine (oRightC_any (7696581394432, 0, 0, 0, 0, 0, 0) _).mono ?_
  rintro e w4 ⟨rfl, k4⟩
  rw [awake_right]
  try dsimp only
  have K4 : Below w.heap.size w w4 := bel_then K3 k4
  have B0_4 : Fl w.heap.size false w4 := B0_3.below k4
  have B1_4 : Arr w2.heap.size [.int .i64 7696581394432, .int .i64 0, .int .i64 0] w4 := B1_3.below k4
  have z4 := B1_4.lies
  clear K3 B0_3 B1_3 k4
  have c5_B0 := B0_4.cell
  have c5_B1_1 : w4.cell? ⟨w2.heap.size, 1, none⟩ = some (.int .i64 0) := B1_4.c 1 (of_decide_eq_true rfl)
  go_wp2
  clear c5_B0 c5_B1_1
  go_ret
  exact ⟨rfl, K4⟩
end Go.Proofs.Ytmjkmbhaemencaa
