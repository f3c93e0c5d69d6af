/- A part. -/
import Derived.Test.YtooehgijllihdaaFAwake
import Derived.Test.YtooehgijllihdaaFCMeet
import Derived.Test.YtooehgijllihdaaJH
import Derived.Handy
import Derived.Deep.RegionHeld3
namespace Go.Proofs.Ytooehgijllihdaa
open Go.RowKit
set_option maxRecDepth 100000
set_option maxHeartbeats 20000000
@[go_sem] theorem idx_vec0 (a b c : Int) (w : World) : (Instr.index 25 (.agg #[.int .i64 a, .int .i64 b, .int .i64 c]) (.int .i64 0)).run Try.prog w = .ok (.int .i64 a) w := by kernel_rfl
@[go_sem] theorem idx_vec1 (a b c : Int) (w : World) : (Instr.index 25 (.agg #[.int .i64 a, .int .i64 b, .int .i64 c]) (.int .i64 1)).run Try.prog w = .ok (.int .i64 b) w := by kernel_rfl
@[go_sem] theorem idx_vec2 (a b c : Int) (w : World) : (Instr.index 25 (.agg #[.int .i64 a, .int .i64 b, .int .i64 c]) (.int .i64 2)).run Try.prog w = .ok (.int .i64 c) w := by kernel_rfl
theorem finds_bad (q : V4) (o : V3) (w : World) (hU : qUnitS false q = ((0, 0, 0, 0), true)) :
  Calls Try.prog 3 #[.agg #[.int .i64 q.1, .int .i64 q.2.1, .int .i64 q.2.2.1, .int .i64 q.2.2.2], .agg #[.int .i64 o.1, .int .i64 o.2.1, .int .i64 o.2.2]] w fun e w' => e = .returned (.bool true) ∧ Below w.heap.size w w' := by
 go_enter Try.func3, Try.ntmps3
 have y1_low : w.heap.size ≤ w.heap.size := (Below.refl w.heap.size w).size
 have y2_B0 : w.heap.size < w.heap.size + 1 := by omega
 have y2_low : w.heap.size ≤ w.heap.size + 1 := (Nat.le_succ_of_le (Below.refl w.heap.size w).size)
 go_wp2_with fail
 refine (awake_any  _).mono ?_
 rintro e w1 ⟨rfl, k1⟩
 try dsimp only
 have K1 : Below w.heap.size w w1 := bel_then (bel_al (bel_al (Below.refl w.heap.size w) _) _) k1
 have B0_1 := ((Arr_at _ w.heap.size [.int .i64 q.1, .int .i64 q.2.1, .int .i64 q.2.2.1, .int .i64 q.2.2.2] _ (by simp)).alloc _).below k1
 have B1_1 := (Arr_at _ (w.heap.size + 1) [.int .i64 o.1, .int .i64 o.2.1, .int .i64 o.2.2] _ (by simp)).below k1
 have z1 := B1_1.lies
 clear k1
 have y3_B0 := B0_1.lies
 have y3_B1 := B1_1.lies
 have y3_low : w.heap.size ≤ w1.heap.size := K1.size
 have c2_B0_0 : w1.cell? ⟨w.heap.size, 0, none⟩ = some (.int .i64 q.1) := B0_1.c 0 (zD rfl)
 have c2_B0_1 : w1.cell? ⟨w.heap.size, 1, none⟩ = some (.int .i64 q.2.1) := B0_1.c 1 (zD rfl)
 have c2_B0_2 : w1.cell? ⟨w.heap.size, 2, none⟩ = some (.int .i64 q.2.2.1) := B0_1.c 2 (zD rfl)
 have c2_B0_3 : w1.cell? ⟨w.heap.size, 3, none⟩ = some (.int .i64 q.2.2.2) := B0_1.c 3 (zD rfl)
 have l2_B0 := B0_1.lies
 go_wp2_with fail
 refine (qUnit_any w1.heap.size false q _ (Fl_at _ _ _ _ (by simp))).mono ?_
 rintro e w2 ⟨rfl, f2, k2⟩
 rw [hU] at f2 ⊢
 dsimp only at f2 ⊢
 try dsimp only
 have K2 : Below w.heap.size w w2 := k2.on (bel_al K1 _) (by omega)
 have B0_2 := (B0_1.alloc _).kept k2 (zL y3_B0)
 have B1_2 := (B1_1.alloc _).kept k2 (zL y3_B1)
 have z2 := f2.lies
 clear c2_B0_0 c2_B0_1 c2_B0_2 c2_B0_3 l2_B0 K1 B0_1 B1_1 k2
 have y4_B0 := B0_2.lies
 have y4_B1 := B1_2.lies
 have y4_B2 := f2.lies
 have y4_low : w.heap.size ≤ w2.heap.size := K2.size
 have c3_B2 := f2.cell
 have l3_B2 := f2.lies
 go_wp2
 clear c3_B2 l3_B2
 go_ret
 exact ⟨rfl, (bel_al K2 _)⟩
theorem finds_gt0 (q : V4) (o : V3) (w : World) (a : V4) (hU : qUnitS false q = (a, false)) (h : 54975581388 < o.1) :
  Calls Try.prog 3 #[.agg #[.int .i64 q.1, .int .i64 q.2.1, .int .i64 q.2.2.1, .int .i64 q.2.2.2], .agg #[.int .i64 o.1, .int .i64 o.2.1, .int .i64 o.2.2]] w fun e w' => e = .returned (.bool true) ∧ Below w.heap.size w w' := by
 go_enter Try.func3, Try.ntmps3
 have y1_low : w.heap.size ≤ w.heap.size := (Below.refl w.heap.size w).size
 have y2_B0 : w.heap.size < w.heap.size + 1 := by omega
 have y2_low : w.heap.size ≤ w.heap.size + 1 := (Nat.le_succ_of_le (Below.refl w.heap.size w).size)
 go_wp2_with fail
 refine (awake_any  _).mono ?_
 rintro e w1 ⟨rfl, k1⟩
 try dsimp only
 have K1 : Below w.heap.size w w1 := bel_then (bel_al (bel_al (Below.refl w.heap.size w) _) _) k1
 have B0_1 := ((Arr_at _ w.heap.size [.int .i64 q.1, .int .i64 q.2.1, .int .i64 q.2.2.1, .int .i64 q.2.2.2] _ (by simp)).alloc _).below k1
 have B1_1 := (Arr_at _ (w.heap.size + 1) [.int .i64 o.1, .int .i64 o.2.1, .int .i64 o.2.2] _ (by simp)).below k1
 have z1 := B1_1.lies
 clear k1
 have y3_B0 := B0_1.lies
 have y3_B1 := B1_1.lies
 have y3_low : w.heap.size ≤ w1.heap.size := K1.size
 have c2_B0_0 : w1.cell? ⟨w.heap.size, 0, none⟩ = some (.int .i64 q.1) := B0_1.c 0 (zD rfl)
 have c2_B0_1 : w1.cell? ⟨w.heap.size, 1, none⟩ = some (.int .i64 q.2.1) := B0_1.c 1 (zD rfl)
 have c2_B0_2 : w1.cell? ⟨w.heap.size, 2, none⟩ = some (.int .i64 q.2.2.1) := B0_1.c 2 (zD rfl)
 have c2_B0_3 : w1.cell? ⟨w.heap.size, 3, none⟩ = some (.int .i64 q.2.2.2) := B0_1.c 3 (zD rfl)
 have l2_B0 := B0_1.lies
 go_wp2_with fail
 refine (qUnit_any w1.heap.size false q _ (Fl_at _ _ _ _ (by simp))).mono ?_
 rintro e w2 ⟨rfl, f2, k2⟩
 rw [hU] at f2 ⊢
 dsimp only at f2 ⊢
 try dsimp only
 have K2 : Below w.heap.size w w2 := k2.on (bel_al K1 _) (by omega)
 have B0_2 := (B0_1.alloc _).kept k2 (zL y3_B0)
 have B1_2 := (B1_1.alloc _).kept k2 (zL y3_B1)
 have z2 := f2.lies
 clear c2_B0_0 c2_B0_1 c2_B0_2 c2_B0_3 l2_B0 K1 B0_1 B1_1 k2
 have y4_B0 := B0_2.lies
 have y4_B1 := B1_2.lies
 have y4_B2 := f2.lies
 have y4_low : w.heap.size ≤ w2.heap.size := K2.size
 have c3_B1_0 : w2.cell? ⟨w.heap.size + 1, 0, none⟩ = some (.int .i64 o.1) := B1_2.c 0 (zD rfl)
 have c3_B1_1 : w2.cell? ⟨w.heap.size + 1, 1, none⟩ = some (.int .i64 o.2.1) := B1_2.c 1 (zD rfl)
 have c3_B1_2 : w2.cell? ⟨w.heap.size + 1, 2, none⟩ = some (.int .i64 o.2.2) := B1_2.c 2 (zD rfl)
 have c3_B2 := f2.cell
 have l3_B1 := B1_2.lies
 have l3_B2 := f2.lies
 go_wp2_with fail
 clear c3_B1_0 c3_B1_1 c3_B1_2 c3_B2 l3_B1 l3_B2
 refine wp_loop_rounds 1 ?_
 rw [rounds_succ]
 go_wp2
 go_ret
 exact ⟨rfl, (bel_al K2 _)⟩
theorem finds_lt0 (q : V4) (o : V3) (w : World) (a : V4) (hU : qUnitS false q = (a, false)) (h : o.1 < -54975581388) (h' : o.1 ≤ 54975581388) :
  Calls Try.prog 3 #[.agg #[.int .i64 q.1, .int .i64 q.2.1, .int .i64 q.2.2.1, .int .i64 q.2.2.2], .agg #[.int .i64 o.1, .int .i64 o.2.1, .int .i64 o.2.2]] w fun e w' => e = .returned (.bool true) ∧ Below w.heap.size w w' := by
 go_enter Try.func3, Try.ntmps3
 have y1_low : w.heap.size ≤ w.heap.size := (Below.refl w.heap.size w).size
 have y2_B0 : w.heap.size < w.heap.size + 1 := by omega
 have y2_low : w.heap.size ≤ w.heap.size + 1 := (Nat.le_succ_of_le (Below.refl w.heap.size w).size)
 go_wp2_with fail
 refine (awake_any  _).mono ?_
 rintro e w1 ⟨rfl, k1⟩
 try dsimp only
 have K1 : Below w.heap.size w w1 := bel_then (bel_al (bel_al (Below.refl w.heap.size w) _) _) k1
 have B0_1 := ((Arr_at _ w.heap.size [.int .i64 q.1, .int .i64 q.2.1, .int .i64 q.2.2.1, .int .i64 q.2.2.2] _ (by simp)).alloc _).below k1
 have B1_1 := (Arr_at _ (w.heap.size + 1) [.int .i64 o.1, .int .i64 o.2.1, .int .i64 o.2.2] _ (by simp)).below k1
 have z1 := B1_1.lies
 clear k1
 have y3_B0 := B0_1.lies
 have y3_B1 := B1_1.lies
 have y3_low : w.heap.size ≤ w1.heap.size := K1.size
 have c2_B0_0 : w1.cell? ⟨w.heap.size, 0, none⟩ = some (.int .i64 q.1) := B0_1.c 0 (zD rfl)
 have c2_B0_1 : w1.cell? ⟨w.heap.size, 1, none⟩ = some (.int .i64 q.2.1) := B0_1.c 1 (zD rfl)
 have c2_B0_2 : w1.cell? ⟨w.heap.size, 2, none⟩ = some (.int .i64 q.2.2.1) := B0_1.c 2 (zD rfl)
 have c2_B0_3 : w1.cell? ⟨w.heap.size, 3, none⟩ = some (.int .i64 q.2.2.2) := B0_1.c 3 (zD rfl)
 have l2_B0 := B0_1.lies
 go_wp2_with fail
 refine (qUnit_any w1.heap.size false q _ (Fl_at _ _ _ _ (by simp))).mono ?_
 rintro e w2 ⟨rfl, f2, k2⟩
 rw [hU] at f2 ⊢
 dsimp only at f2 ⊢
 try dsimp only
 have K2 : Below w.heap.size w w2 := k2.on (bel_al K1 _) (by omega)
 have B0_2 := (B0_1.alloc _).kept k2 (zL y3_B0)
 have B1_2 := (B1_1.alloc _).kept k2 (zL y3_B1)
 have z2 := f2.lies
 clear c2_B0_0 c2_B0_1 c2_B0_2 c2_B0_3 l2_B0 K1 B0_1 B1_1 k2
 have y4_B0 := B0_2.lies
 have y4_B1 := B1_2.lies
 have y4_B2 := f2.lies
 have y4_low : w.heap.size ≤ w2.heap.size := K2.size
 have c3_B1_0 : w2.cell? ⟨w.heap.size + 1, 0, none⟩ = some (.int .i64 o.1) := B1_2.c 0 (zD rfl)
 have c3_B1_1 : w2.cell? ⟨w.heap.size + 1, 1, none⟩ = some (.int .i64 o.2.1) := B1_2.c 1 (zD rfl)
 have c3_B1_2 : w2.cell? ⟨w.heap.size + 1, 2, none⟩ = some (.int .i64 o.2.2) := B1_2.c 2 (zD rfl)
 have c3_B2 := f2.cell
 have l3_B1 := B1_2.lies
 have l3_B2 := f2.lies
 go_wp2_with fail
 clear c3_B1_0 c3_B1_1 c3_B1_2 c3_B2 l3_B1 l3_B2
 refine wp_loop_rounds 1 ?_
 rw [rounds_succ]
 go_wp2
 go_ret
 exact ⟨rfl, (bel_al K2 _)⟩
theorem finds_gt1 (q : V4) (o : V3) (w : World) (a : V4) (hU : qUnitS false q = (a, false)) (l0 : -54975581388 ≤ o.1) (u0 : o.1 ≤ 54975581388) (h : 54975581388 < o.2.1) :
  Calls Try.prog 3 #[.agg #[.int .i64 q.1, .int .i64 q.2.1, .int .i64 q.2.2.1, .int .i64 q.2.2.2], .agg #[.int .i64 o.1, .int .i64 o.2.1, .int .i64 o.2.2]] w fun e w' => e = .returned (.bool true) ∧ Below w.heap.size w w' := by
 go_enter Try.func3, Try.ntmps3
 have y1_low : w.heap.size ≤ w.heap.size := (Below.refl w.heap.size w).size
 have y2_B0 : w.heap.size < w.heap.size + 1 := by omega
 have y2_low : w.heap.size ≤ w.heap.size + 1 := (Nat.le_succ_of_le (Below.refl w.heap.size w).size)
 go_wp2_with fail
 refine (awake_any  _).mono ?_
 rintro e w1 ⟨rfl, k1⟩
 try dsimp only
 have K1 : Below w.heap.size w w1 := bel_then (bel_al (bel_al (Below.refl w.heap.size w) _) _) k1
 have B0_1 := ((Arr_at _ w.heap.size [.int .i64 q.1, .int .i64 q.2.1, .int .i64 q.2.2.1, .int .i64 q.2.2.2] _ (by simp)).alloc _).below k1
 have B1_1 := (Arr_at _ (w.heap.size + 1) [.int .i64 o.1, .int .i64 o.2.1, .int .i64 o.2.2] _ (by simp)).below k1
 have z1 := B1_1.lies
 clear k1
 have y3_B0 := B0_1.lies
 have y3_B1 := B1_1.lies
 have y3_low : w.heap.size ≤ w1.heap.size := K1.size
 have c2_B0_0 : w1.cell? ⟨w.heap.size, 0, none⟩ = some (.int .i64 q.1) := B0_1.c 0 (zD rfl)
 have c2_B0_1 : w1.cell? ⟨w.heap.size, 1, none⟩ = some (.int .i64 q.2.1) := B0_1.c 1 (zD rfl)
 have c2_B0_2 : w1.cell? ⟨w.heap.size, 2, none⟩ = some (.int .i64 q.2.2.1) := B0_1.c 2 (zD rfl)
 have c2_B0_3 : w1.cell? ⟨w.heap.size, 3, none⟩ = some (.int .i64 q.2.2.2) := B0_1.c 3 (zD rfl)
 have l2_B0 := B0_1.lies
 go_wp2_with fail
 refine (qUnit_any w1.heap.size false q _ (Fl_at _ _ _ _ (by simp))).mono ?_
 rintro e w2 ⟨rfl, f2, k2⟩
 rw [hU] at f2 ⊢
 dsimp only at f2 ⊢
 try dsimp only
 have K2 : Below w.heap.size w w2 := k2.on (bel_al K1 _) (by omega)
 have B0_2 := (B0_1.alloc _).kept k2 (zL y3_B0)
 have B1_2 := (B1_1.alloc _).kept k2 (zL y3_B1)
 have z2 := f2.lies
 clear c2_B0_0 c2_B0_1 c2_B0_2 c2_B0_3 l2_B0 K1 B0_1 B1_1 k2
 have y4_B0 := B0_2.lies
 have y4_B1 := B1_2.lies
 have y4_B2 := f2.lies
 have y4_low : w.heap.size ≤ w2.heap.size := K2.size
 have c3_B1_0 : w2.cell? ⟨w.heap.size + 1, 0, none⟩ = some (.int .i64 o.1) := B1_2.c 0 (zD rfl)
 have c3_B1_1 : w2.cell? ⟨w.heap.size + 1, 1, none⟩ = some (.int .i64 o.2.1) := B1_2.c 1 (zD rfl)
 have c3_B1_2 : w2.cell? ⟨w.heap.size + 1, 2, none⟩ = some (.int .i64 o.2.2) := B1_2.c 2 (zD rfl)
 have c3_B2 := f2.cell
 have l3_B1 := B1_2.lies
 have l3_B2 := f2.lies
 go_wp2_with fail
 clear c3_B1_0 c3_B1_1 c3_B1_2 c3_B2 l3_B1 l3_B2
 refine wp_loop_rounds 2 ?_
 rw [rounds_succ]
 go_wp2_with fail
 rw [rounds_succ]
 go_wp2
 go_ret
 exact ⟨rfl, (bel_al K2 _)⟩
theorem finds_lt1 (q : V4) (o : V3) (w : World) (a : V4) (hU : qUnitS false q = (a, false)) (l0 : -54975581388 ≤ o.1) (u0 : o.1 ≤ 54975581388) (h : o.2.1 < -54975581388) (h' : o.2.1 ≤ 54975581388) :
  Calls Try.prog 3 #[.agg #[.int .i64 q.1, .int .i64 q.2.1, .int .i64 q.2.2.1, .int .i64 q.2.2.2], .agg #[.int .i64 o.1, .int .i64 o.2.1, .int .i64 o.2.2]] w fun e w' => e = .returned (.bool true) ∧ Below w.heap.size w w' := by
 go_enter Try.func3, Try.ntmps3
 have y1_low : w.heap.size ≤ w.heap.size := (Below.refl w.heap.size w).size
 have y2_B0 : w.heap.size < w.heap.size + 1 := by omega
 have y2_low : w.heap.size ≤ w.heap.size + 1 := (Nat.le_succ_of_le (Below.refl w.heap.size w).size)
 go_wp2_with fail
 refine (awake_any  _).mono ?_
 rintro e w1 ⟨rfl, k1⟩
 try dsimp only
 have K1 : Below w.heap.size w w1 := bel_then (bel_al (bel_al (Below.refl w.heap.size w) _) _) k1
 have B0_1 := ((Arr_at _ w.heap.size [.int .i64 q.1, .int .i64 q.2.1, .int .i64 q.2.2.1, .int .i64 q.2.2.2] _ (by simp)).alloc _).below k1
 have B1_1 := (Arr_at _ (w.heap.size + 1) [.int .i64 o.1, .int .i64 o.2.1, .int .i64 o.2.2] _ (by simp)).below k1
 have z1 := B1_1.lies
 clear k1
 have y3_B0 := B0_1.lies
 have y3_B1 := B1_1.lies
 have y3_low : w.heap.size ≤ w1.heap.size := K1.size
 have c2_B0_0 : w1.cell? ⟨w.heap.size, 0, none⟩ = some (.int .i64 q.1) := B0_1.c 0 (zD rfl)
 have c2_B0_1 : w1.cell? ⟨w.heap.size, 1, none⟩ = some (.int .i64 q.2.1) := B0_1.c 1 (zD rfl)
 have c2_B0_2 : w1.cell? ⟨w.heap.size, 2, none⟩ = some (.int .i64 q.2.2.1) := B0_1.c 2 (zD rfl)
 have c2_B0_3 : w1.cell? ⟨w.heap.size, 3, none⟩ = some (.int .i64 q.2.2.2) := B0_1.c 3 (zD rfl)
 have l2_B0 := B0_1.lies
 go_wp2_with fail
 refine (qUnit_any w1.heap.size false q _ (Fl_at _ _ _ _ (by simp))).mono ?_
 rintro e w2 ⟨rfl, f2, k2⟩
 rw [hU] at f2 ⊢
 dsimp only at f2 ⊢
 try dsimp only
 have K2 : Below w.heap.size w w2 := k2.on (bel_al K1 _) (by omega)
 have B0_2 := (B0_1.alloc _).kept k2 (zL y3_B0)
 have B1_2 := (B1_1.alloc _).kept k2 (zL y3_B1)
 have z2 := f2.lies
 clear c2_B0_0 c2_B0_1 c2_B0_2 c2_B0_3 l2_B0 K1 B0_1 B1_1 k2
 have y4_B0 := B0_2.lies
 have y4_B1 := B1_2.lies
 have y4_B2 := f2.lies
 have y4_low : w.heap.size ≤ w2.heap.size := K2.size
 have c3_B1_0 : w2.cell? ⟨w.heap.size + 1, 0, none⟩ = some (.int .i64 o.1) := B1_2.c 0 (zD rfl)
 have c3_B1_1 : w2.cell? ⟨w.heap.size + 1, 1, none⟩ = some (.int .i64 o.2.1) := B1_2.c 1 (zD rfl)
 have c3_B1_2 : w2.cell? ⟨w.heap.size + 1, 2, none⟩ = some (.int .i64 o.2.2) := B1_2.c 2 (zD rfl)
 have c3_B2 := f2.cell
 have l3_B1 := B1_2.lies
 have l3_B2 := f2.lies
 go_wp2_with fail
 clear c3_B1_0 c3_B1_1 c3_B1_2 c3_B2 l3_B1 l3_B2
 refine wp_loop_rounds 2 ?_
 rw [rounds_succ]
 go_wp2_with fail
 rw [rounds_succ]
 go_wp2
 go_ret
 exact ⟨rfl, (bel_al K2 _)⟩
theorem finds_gt2 (q : V4) (o : V3) (w : World) (a : V4) (hU : qUnitS false q = (a, false)) (l0 : -54975581388 ≤ o.1) (u0 : o.1 ≤ 54975581388) (l1 : -54975581388 ≤ o.2.1) (u1 : o.2.1 ≤ 54975581388) (h : 54975581388 < o.2.2) :
  Calls Try.prog 3 #[.agg #[.int .i64 q.1, .int .i64 q.2.1, .int .i64 q.2.2.1, .int .i64 q.2.2.2], .agg #[.int .i64 o.1, .int .i64 o.2.1, .int .i64 o.2.2]] w fun e w' => e = .returned (.bool true) ∧ Below w.heap.size w w' := by
 go_enter Try.func3, Try.ntmps3
 have y1_low : w.heap.size ≤ w.heap.size := (Below.refl w.heap.size w).size
 have y2_B0 : w.heap.size < w.heap.size + 1 := by omega
 have y2_low : w.heap.size ≤ w.heap.size + 1 := (Nat.le_succ_of_le (Below.refl w.heap.size w).size)
 go_wp2_with fail
 refine (awake_any  _).mono ?_
 rintro e w1 ⟨rfl, k1⟩
 try dsimp only
 have K1 : Below w.heap.size w w1 := bel_then (bel_al (bel_al (Below.refl w.heap.size w) _) _) k1
 have B0_1 := ((Arr_at _ w.heap.size [.int .i64 q.1, .int .i64 q.2.1, .int .i64 q.2.2.1, .int .i64 q.2.2.2] _ (by simp)).alloc _).below k1
 have B1_1 := (Arr_at _ (w.heap.size + 1) [.int .i64 o.1, .int .i64 o.2.1, .int .i64 o.2.2] _ (by simp)).below k1
 have z1 := B1_1.lies
 clear k1
 have y3_B0 := B0_1.lies
 have y3_B1 := B1_1.lies
 have y3_low : w.heap.size ≤ w1.heap.size := K1.size
 have c2_B0_0 : w1.cell? ⟨w.heap.size, 0, none⟩ = some (.int .i64 q.1) := B0_1.c 0 (zD rfl)
 have c2_B0_1 : w1.cell? ⟨w.heap.size, 1, none⟩ = some (.int .i64 q.2.1) := B0_1.c 1 (zD rfl)
 have c2_B0_2 : w1.cell? ⟨w.heap.size, 2, none⟩ = some (.int .i64 q.2.2.1) := B0_1.c 2 (zD rfl)
 have c2_B0_3 : w1.cell? ⟨w.heap.size, 3, none⟩ = some (.int .i64 q.2.2.2) := B0_1.c 3 (zD rfl)
 have l2_B0 := B0_1.lies
 go_wp2_with fail
 refine (qUnit_any w1.heap.size false q _ (Fl_at _ _ _ _ (by simp))).mono ?_
 rintro e w2 ⟨rfl, f2, k2⟩
 rw [hU] at f2 ⊢
 dsimp only at f2 ⊢
 try dsimp only
 have K2 : Below w.heap.size w w2 := k2.on (bel_al K1 _) (by omega)
 have B0_2 := (B0_1.alloc _).kept k2 (zL y3_B0)
 have B1_2 := (B1_1.alloc _).kept k2 (zL y3_B1)
 have z2 := f2.lies
 clear c2_B0_0 c2_B0_1 c2_B0_2 c2_B0_3 l2_B0 K1 B0_1 B1_1 k2
 have y4_B0 := B0_2.lies
 have y4_B1 := B1_2.lies
 have y4_B2 := f2.lies
 have y4_low : w.heap.size ≤ w2.heap.size := K2.size
 have c3_B1_0 : w2.cell? ⟨w.heap.size + 1, 0, none⟩ = some (.int .i64 o.1) := B1_2.c 0 (zD rfl)
 have c3_B1_1 : w2.cell? ⟨w.heap.size + 1, 1, none⟩ = some (.int .i64 o.2.1) := B1_2.c 1 (zD rfl)
 have c3_B1_2 : w2.cell? ⟨w.heap.size + 1, 2, none⟩ = some (.int .i64 o.2.2) := B1_2.c 2 (zD rfl)
 have c3_B2 := f2.cell
 have l3_B1 := B1_2.lies
 have l3_B2 := f2.lies
 go_wp2_with fail
 clear c3_B1_0 c3_B1_1 c3_B1_2 c3_B2 l3_B1 l3_B2
 refine wp_loop_rounds 3 ?_
 rw [rounds_succ]
 go_wp2_with fail
 rw [rounds_succ]
 go_wp2_with fail
 rw [rounds_succ]
 go_wp2
 go_ret
 exact ⟨rfl, (bel_al K2 _)⟩
theorem finds_lt2 (q : V4) (o : V3) (w : World) (a : V4) (hU : qUnitS false q = (a, false)) (l0 : -54975581388 ≤ o.1) (u0 : o.1 ≤ 54975581388) (l1 : -54975581388 ≤ o.2.1) (u1 : o.2.1 ≤ 54975581388) (h : o.2.2 < -54975581388) (h' : o.2.2 ≤ 54975581388) :
  Calls Try.prog 3 #[.agg #[.int .i64 q.1, .int .i64 q.2.1, .int .i64 q.2.2.1, .int .i64 q.2.2.2], .agg #[.int .i64 o.1, .int .i64 o.2.1, .int .i64 o.2.2]] w fun e w' => e = .returned (.bool true) ∧ Below w.heap.size w w' := by
 go_enter Try.func3, Try.ntmps3
 have y1_low : w.heap.size ≤ w.heap.size := (Below.refl w.heap.size w).size
 have y2_B0 : w.heap.size < w.heap.size + 1 := by omega
 have y2_low : w.heap.size ≤ w.heap.size + 1 := (Nat.le_succ_of_le (Below.refl w.heap.size w).size)
 go_wp2_with fail
 refine (awake_any  _).mono ?_
 rintro e w1 ⟨rfl, k1⟩
 try dsimp only
 have K1 : Below w.heap.size w w1 := bel_then (bel_al (bel_al (Below.refl w.heap.size w) _) _) k1
 have B0_1 := ((Arr_at _ w.heap.size [.int .i64 q.1, .int .i64 q.2.1, .int .i64 q.2.2.1, .int .i64 q.2.2.2] _ (by simp)).alloc _).below k1
 have B1_1 := (Arr_at _ (w.heap.size + 1) [.int .i64 o.1, .int .i64 o.2.1, .int .i64 o.2.2] _ (by simp)).below k1
 have z1 := B1_1.lies
 clear k1
 have y3_B0 := B0_1.lies
 have y3_B1 := B1_1.lies
 have y3_low : w.heap.size ≤ w1.heap.size := K1.size
 have c2_B0_0 : w1.cell? ⟨w.heap.size, 0, none⟩ = some (.int .i64 q.1) := B0_1.c 0 (zD rfl)
 have c2_B0_1 : w1.cell? ⟨w.heap.size, 1, none⟩ = some (.int .i64 q.2.1) := B0_1.c 1 (zD rfl)
 have c2_B0_2 : w1.cell? ⟨w.heap.size, 2, none⟩ = some (.int .i64 q.2.2.1) := B0_1.c 2 (zD rfl)
 have c2_B0_3 : w1.cell? ⟨w.heap.size, 3, none⟩ = some (.int .i64 q.2.2.2) := B0_1.c 3 (zD rfl)
 have l2_B0 := B0_1.lies
 go_wp2_with fail
 refine (qUnit_any w1.heap.size false q _ (Fl_at _ _ _ _ (by simp))).mono ?_
 rintro e w2 ⟨rfl, f2, k2⟩
 rw [hU] at f2 ⊢
 dsimp only at f2 ⊢
 try dsimp only
 have K2 : Below w.heap.size w w2 := k2.on (bel_al K1 _) (by omega)
 have B0_2 := (B0_1.alloc _).kept k2 (zL y3_B0)
 have B1_2 := (B1_1.alloc _).kept k2 (zL y3_B1)
 have z2 := f2.lies
 clear c2_B0_0 c2_B0_1 c2_B0_2 c2_B0_3 l2_B0 K1 B0_1 B1_1 k2
 have y4_B0 := B0_2.lies
 have y4_B1 := B1_2.lies
 have y4_B2 := f2.lies
 have y4_low : w.heap.size ≤ w2.heap.size := K2.size
 have c3_B1_0 : w2.cell? ⟨w.heap.size + 1, 0, none⟩ = some (.int .i64 o.1) := B1_2.c 0 (zD rfl)
 have c3_B1_1 : w2.cell? ⟨w.heap.size + 1, 1, none⟩ = some (.int .i64 o.2.1) := B1_2.c 1 (zD rfl)
 have c3_B1_2 : w2.cell? ⟨w.heap.size + 1, 2, none⟩ = some (.int .i64 o.2.2) := B1_2.c 2 (zD rfl)
 have c3_B2 := f2.cell
 have l3_B1 := B1_2.lies
 have l3_B2 := f2.lies
 go_wp2_with fail
 clear c3_B1_0 c3_B1_1 c3_B1_2 c3_B2 l3_B1 l3_B2
 refine wp_loop_rounds 3 ?_
 rw [rounds_succ]
 go_wp2_with fail
 rw [rounds_succ]
 go_wp2_with fail
 rw [rounds_succ]
 go_wp2
 go_ret
 exact ⟨rfl, (bel_al K2 _)⟩
end Go.Proofs.Ytooehgijllihdaa
