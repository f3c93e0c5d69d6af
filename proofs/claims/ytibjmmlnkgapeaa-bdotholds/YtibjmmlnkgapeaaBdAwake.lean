/-
  awake, for the seat Ytibjmmlnkgapeaa. (Made by mkbdot.py.)
-/
import Derived.Test.YtibjmmlnkgapeaaBdStep
import Derived.Test.YtibjmmlnkgapeaaBdDip
import Derived.Test.YtibjmmlnkgapeaaVEq9
import Derived.Handy
import Derived.Deep.RegionHeld3
namespace Go.Proofs.Ytibjmmlnkgapeaa
open Go.RowKit

theorem awake_a : bStepS false (false, 0, 0, 0, 0, 0, 0, 0) (1099511627776, 0, 0) 5 = ((true, 5, 1099511627776, 0, 0, 0, 0, 0), false) := by kernel_rfl
theorem awake_b : bStepS false (true, 5, 1099511627776, 0, 0, 0, 0, 0) (4398046511104, 0, 0) 1005 = ((true, 1005, 4398046511104, 0, 0, 1099511627776, 0, 0), false) := by kernel_rfl
theorem awake_c : bDipS false (true, 1005, 4398046511104, 0, 0, 1099511627776, 0, 0) = (((-219902325555), 0, 0), false) := by kernel_rfl
set_option maxRecDepth 100000 in
set_option maxHeartbeats 4000000 in
theorem awake_any  (w : World) :
    Calls Try.prog 7 #[] w fun e w' => e = .returned (.bool true) ∧ Below w.heap.size w w' := by
  go_enter Try.func7, Try.ntmps7
  have y1_low : w.heap.size ≤ w.heap.size := (Below.refl w.heap.size w).size
  go_wp2_with fail
  refine (bStep_any w.heap.size false (false, 0, 0, 0, 0, 0, 0, 0) (1099511627776, 0, 0) 5 _ (Fl_at _ _ _ _ (by simp)) (by decide) (by decide)).mono ?_
  rintro e w1 ⟨rfl, f1, k1⟩
  rw [awake_a] at f1 ⊢
  dsimp only at f1 ⊢
  have K1 : Below w.heap.size w w1 := k1.on (bel_al (Below.refl w.heap.size w) _) (by omega)
  have z1 := f1.lies
  clear k1
  have y2_B0 : w.heap.size < w1.heap.size := f1.lies
  have y2_low : w.heap.size ≤ w1.heap.size := K1.size
  go_wp2_with fail
  refine (bStep_any w.heap.size false (true, 5, 1099511627776, 0, 0, 0, 0, 0) (4398046511104, 0, 0) 1005 _ (f1.alloc _) (by decide) (by decide)).mono ?_
  rintro e w2 ⟨rfl, f2, k2⟩
  rw [awake_b] at f2 ⊢
  dsimp only at f2 ⊢
  have K2 : Below w.heap.size w w2 := k2.on (bel_al K1 _) (by omega)
  have B1_2 : Arr w1.heap.size [.bool true, .int .i64 5, .int .i64 1099511627776, .int .i64 0, .int .i64 0, .int .i64 0, .int .i64 0, .int .i64 0] w2 := (Arr_at _ _ [.bool true, .int .i64 5, .int .i64 1099511627776, .int .i64 0, .int .i64 0, .int .i64 0, .int .i64 0, .int .i64 0] _ (by simp)).kept k2 (Nat.ne_of_gt y2_B0)
  have z2 := B1_2.lies
  clear K1 f1 k2
  have c3_B1_0 : w2.cell? ⟨w1.heap.size, 0, none⟩ = some (.bool true) := B1_2.c 0 (of_decide_eq_true rfl)
  have c3_B1_1 : w2.cell? ⟨w1.heap.size, 1, none⟩ = some (.int .i64 5) := B1_2.c 1 (of_decide_eq_true rfl)
  have c3_B1_2 : w2.cell? ⟨w1.heap.size, 2, none⟩ = some (.int .i64 1099511627776) := B1_2.c 2 (of_decide_eq_true rfl)
  have c3_B1_3 : w2.cell? ⟨w1.heap.size, 3, none⟩ = some (.int .i64 0) := B1_2.c 3 (of_decide_eq_true rfl)
  have c3_B1_4 : w2.cell? ⟨w1.heap.size, 4, none⟩ = some (.int .i64 0) := B1_2.c 4 (of_decide_eq_true rfl)
  have c3_B1_5 : w2.cell? ⟨w1.heap.size, 5, none⟩ = some (.int .i64 0) := B1_2.c 5 (of_decide_eq_true rfl)
  have c3_B1_6 : w2.cell? ⟨w1.heap.size, 6, none⟩ = some (.int .i64 0) := B1_2.c 6 (of_decide_eq_true rfl)
  have c3_B1_7 : w2.cell? ⟨w1.heap.size, 7, none⟩ = some (.int .i64 0) := B1_2.c 7 (of_decide_eq_true rfl)
  have g3_B1_0 := B1_2.f 0 (of_decide_eq_true rfl)
  have g3_B1_1 := B1_2.f 1 (of_decide_eq_true rfl)
  have g3_B1_2 := B1_2.f 2 (of_decide_eq_true rfl)
  have g3_B1_3 := B1_2.f 3 (of_decide_eq_true rfl)
  have g3_B1_4 := B1_2.f 4 (of_decide_eq_true rfl)
  have g3_B1_5 := B1_2.f 5 (of_decide_eq_true rfl)
  have g3_B1_6 := B1_2.f 6 (of_decide_eq_true rfl)
  have g3_B1_7 := B1_2.f 7 (of_decide_eq_true rfl)
  go_wp2_with fail
  refine (bDip_any w.heap.size false (true, 1005, 4398046511104, 0, 0, 1099511627776, 0, 0) _ ((((((((f2.new w1.heap.size 0 (Nat.ne_of_lt y2_B0) (.bool true)).new w1.heap.size 1 (Nat.ne_of_lt y2_B0) (.int .i64 1005)).new w1.heap.size 2 (Nat.ne_of_lt y2_B0) (.int .i64 4398046511104)).new w1.heap.size 3 (Nat.ne_of_lt y2_B0) (.int .i64 0)).new w1.heap.size 4 (Nat.ne_of_lt y2_B0) (.int .i64 0)).new w1.heap.size 5 (Nat.ne_of_lt y2_B0) (.int .i64 1099511627776)).new w1.heap.size 6 (Nat.ne_of_lt y2_B0) (.int .i64 0)).new w1.heap.size 7 (Nat.ne_of_lt y2_B0) (.int .i64 0))).mono ?_
  rintro e w3 ⟨rfl, f3, k3⟩
  rw [awake_c] at f3 ⊢
  dsimp only at f3 ⊢
  have K3 : Below w.heap.size w w3 := k3.on (bel_new (bel_new (bel_new (bel_new (bel_new (bel_new (bel_new (bel_new K2 _ _ y2_low _) _ _ y2_low _) _ _ y2_low _) _ _ y2_low _) _ _ y2_low _) _ _ y2_low _) _ _ y2_low _) _ _ y2_low _) (by omega)
  have B1_3 : Arr w1.heap.size [.bool true, .int .i64 1005, .int .i64 4398046511104, .int .i64 0, .int .i64 0, .int .i64 1099511627776, .int .i64 0, .int .i64 0] w3 := ((((((((B1_2.put 0 (of_decide_eq_true rfl) (.bool true) [.bool true, .int .i64 5, .int .i64 1099511627776, .int .i64 0, .int .i64 0, .int .i64 0, .int .i64 0, .int .i64 0] rfl).put 1 (of_decide_eq_true rfl) (.int .i64 1005) [.bool true, .int .i64 1005, .int .i64 1099511627776, .int .i64 0, .int .i64 0, .int .i64 0, .int .i64 0, .int .i64 0] rfl).put 2 (of_decide_eq_true rfl) (.int .i64 4398046511104) [.bool true, .int .i64 1005, .int .i64 4398046511104, .int .i64 0, .int .i64 0, .int .i64 0, .int .i64 0, .int .i64 0] rfl).put 3 (of_decide_eq_true rfl) (.int .i64 0) [.bool true, .int .i64 1005, .int .i64 4398046511104, .int .i64 0, .int .i64 0, .int .i64 0, .int .i64 0, .int .i64 0] rfl).put 4 (of_decide_eq_true rfl) (.int .i64 0) [.bool true, .int .i64 1005, .int .i64 4398046511104, .int .i64 0, .int .i64 0, .int .i64 0, .int .i64 0, .int .i64 0] rfl).put 5 (of_decide_eq_true rfl) (.int .i64 1099511627776) [.bool true, .int .i64 1005, .int .i64 4398046511104, .int .i64 0, .int .i64 0, .int .i64 1099511627776, .int .i64 0, .int .i64 0] rfl).put 6 (of_decide_eq_true rfl) (.int .i64 0) [.bool true, .int .i64 1005, .int .i64 4398046511104, .int .i64 0, .int .i64 0, .int .i64 1099511627776, .int .i64 0, .int .i64 0] rfl).put 7 (of_decide_eq_true rfl) (.int .i64 0) [.bool true, .int .i64 1005, .int .i64 4398046511104, .int .i64 0, .int .i64 0, .int .i64 1099511627776, .int .i64 0, .int .i64 0] rfl).kept k3 (Nat.ne_of_gt y2_B0)
  have z3 := B1_3.lies
  clear c3_B1_0 c3_B1_1 c3_B1_2 c3_B1_3 c3_B1_4 c3_B1_5 c3_B1_6 c3_B1_7 g3_B1_0 g3_B1_1 g3_B1_2 g3_B1_3 g3_B1_4 g3_B1_5 g3_B1_6 g3_B1_7 K2 f2 B1_2 k3
  have y3_B0 : w.heap.size < w3.heap.size := f3.lies
  have y3_B1 : w1.heap.size < w3.heap.size := B1_3.lies
  have y3_low : w.heap.size ≤ w3.heap.size := K3.size
  have c4_B0 := f3.cell
  have c4_B1_5 : w3.cell? ⟨w1.heap.size, 5, none⟩ = some (.int .i64 1099511627776) := B1_3.c 5 (of_decide_eq_true rfl)
  have c4_B1_6 : w3.cell? ⟨w1.heap.size, 6, none⟩ = some (.int .i64 0) := B1_3.c 6 (of_decide_eq_true rfl)
  have c4_B1_7 : w3.cell? ⟨w1.heap.size, 7, none⟩ = some (.int .i64 0) := B1_3.c 7 (of_decide_eq_true rfl)
  have l4_B0 := f3.lies
  have l4_B1 := B1_3.lies
  go_wp2
  clear c4_B0 c4_B1_5 c4_B1_6 c4_B1_7 l4_B0 l4_B1
  go_ret
  exact ⟨rfl, (bel_al K3 _)⟩
end Go.Proofs.Ytibjmmlnkgapeaa
