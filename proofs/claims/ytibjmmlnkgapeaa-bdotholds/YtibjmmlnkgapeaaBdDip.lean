/-
  The walk of bdot.Dipole, for the seat Ytibjmmlnkgapeaa. (Made by mkbdot.py.)
-/
import Derived.Test.YtibjmmlnkgapeaaBdSpec
import Derived.Test.YtibjmmlnkgapeaaVCode
import Derived.Test.YtibjmmlnkgapeaaVFold
import Derived.Test.YtibjmmlnkgapeaaStop
import Derived.Handy
import Derived.Deep.RegionHeld3
namespace Go.Proofs.Ytibjmmlnkgapeaa
open Go.RowKit

set_option maxRecDepth 100000 in
set_option maxHeartbeats 2000000 in
theorem bDip_on (b : Nat) (bad : Bool) (d : D7) (w : World) (hw : Fl b bad w) :
    Calls Try.prog 10 #[.pointer (some ⟨b, 0, none⟩), .agg #[.bool true, .int .i64 d.1, .int .i64 d.2.1, .int .i64 d.2.2.1, .int .i64 d.2.2.2.1, .int .i64 d.2.2.2.2.1, .int .i64 d.2.2.2.2.2.1, .int .i64 d.2.2.2.2.2.2]] w fun e w' => e = .returned (.agg #[.int .i64 ((bDip1 bad d).1.1), .int .i64 ((bDip1 bad d).1.2.1), .int .i64 ((bDip1 bad d).1.2.2)]) ∧ Fl b (bDip1 bad d).2 w' ∧ Kept b w w' := by
  have hl := hw.lies
  go_enter Try.func10, Try.ntmps10
  have y1_BF : b < w.heap.size := hw.lies
  have y2_BF : b < w.heap.size + 1 := (Nat.lt_succ_of_lt hw.lies)
  have y2_B0 : w.heap.size < w.heap.size + 1 := (Nat.lt_succ_self _)
  go_wp2_with fail
  refine (vScale_any b bad d.2.2.2.2 (-274877906944) _ ((hw.alloc _).alloc _)).mono ?_
  rintro e w1 ⟨rfl, f1, k1⟩
  generalize e1 : vScaleS bad d.2.2.2.2 (-274877906944) = r1 at f1 ⊢
  have E1 : Hid _ := e1
  clear e1
  have K1 : Kept b w w1 := Kept.trans (((Kept.refl b w).al _).al _) k1
  have B0_1 : Arr w.heap.size [.bool true, .int .i64 d.1, .int .i64 d.2.1, .int .i64 d.2.2.1, .int .i64 d.2.2.2.1, .int .i64 d.2.2.2.2.1, .int .i64 d.2.2.2.2.2.1, .int .i64 d.2.2.2.2.2.2] w1 := ((Arr_at _ _ [.bool true, .int .i64 d.1, .int .i64 d.2.1, .int .i64 d.2.2.1, .int .i64 d.2.2.2.1, .int .i64 d.2.2.2.2.1, .int .i64 d.2.2.2.2.2.1, .int .i64 d.2.2.2.2.2.2] _ (by simp)).alloc _).kept k1 (Nat.ne_of_gt y1_BF)
  have B1_1 : Arr (w.heap.size + 1) [.int .i64 0, .int .i64 0, .int .i64 0] w1 := (Arr_at _ _ [.int .i64 0, .int .i64 0, .int .i64 0] _ (by simp)).kept k1 (Nat.ne_of_gt y2_BF)
  have z1 := B1_1.lies
  clear k1
  have y3_BF : b < w1.heap.size := f1.lies
  have y3_B0 : w.heap.size < w1.heap.size := B0_1.lies
  have y3_B1 : w.heap.size + 1 < w1.heap.size := B1_1.lies
  go_wp2_with fail
  refine wp_loop_rounds 40 ?_
  rw [rounds_succ]
  by_cases hc1 : 219902325555 < r1.1.1
  · have Hhc1 : Hid (219902325555 < r1.1.1) := hc1
    go_wp2_with fail
    rw [rounds_succ]
    by_cases hc2 : 219902325555 < r1.1.2.1
    · have Hhc2 : Hid (219902325555 < r1.1.2.1) := hc2
      go_wp2_with fail
      rw [rounds_succ]
      by_cases hc3 : 219902325555 < r1.1.2.2
      · have Hhc3 : Hid (219902325555 < r1.1.2.2) := hc3
        go_wp2_with fail
        rw [rounds_succ]
        have c6_B1_0 : w1.cell? ⟨w.heap.size + 1, 0, none⟩ = some (.int .i64 0) := B1_1.c 0 (of_decide_eq_true rfl)
        have c6_B1_1 : w1.cell? ⟨w.heap.size + 1, 1, none⟩ = some (.int .i64 0) := B1_1.c 1 (of_decide_eq_true rfl)
        have c6_B1_2 : w1.cell? ⟨w.heap.size + 1, 2, none⟩ = some (.int .i64 0) := B1_1.c 2 (of_decide_eq_true rfl)
        have g6_B1_0 := B1_1.f 0 (of_decide_eq_true rfl)
        have g6_B1_1 := B1_1.f 1 (of_decide_eq_true rfl)
        have g6_B1_2 := B1_1.f 2 (of_decide_eq_true rfl)
        have l6_B1 := B1_1.lies
        go_wp2_with (with_reducible refine post_stop ?_)
        refine Stop.mk ?_
        clear c6_B1_0 c6_B1_1 c6_B1_2 g6_B1_0 g6_B1_1 g6_B1_2 l6_B1
        refine bodyPost_ret (v := .agg #[.int .i64 219902325555, .int .i64 219902325555, .int .i64 219902325555]) (results_arr Try.results10 ((((B1_1.put 0 (of_decide_eq_true rfl) (.int .i64 219902325555) [.int .i64 219902325555, .int .i64 0, .int .i64 0] rfl).put 1 (of_decide_eq_true rfl) (.int .i64 219902325555) [.int .i64 219902325555, .int .i64 219902325555, .int .i64 0] rfl).put 2 (of_decide_eq_true rfl) (.int .i64 219902325555) [.int .i64 219902325555, .int .i64 219902325555, .int .i64 219902325555] rfl).alloc _) rfl (by kernel_rfl) (by kernel_rfl)) rfl ?_
        have hs : bDip1 bad d = ((219902325555, 219902325555, 219902325555), r1.2) := by unfold bDip1; simp only [E1.out]; rw [show clampS r1.1.1 = 219902325555 by unfold clampS; omega, show clampS r1.1.2.1 = 219902325555 by unfold clampS; omega, show clampS r1.1.2.2 = 219902325555 by unfold clampS; omega]
        rw [hs]
        exact ⟨rfl, ((((f1.new (w.heap.size + 1) 0 (Nat.ne_of_lt y2_BF) (.int .i64 219902325555)).new (w.heap.size + 1) 1 (Nat.ne_of_lt y2_BF) (.int .i64 219902325555)).new (w.heap.size + 1) 2 (Nat.ne_of_lt y2_BF) (.int .i64 219902325555)).alloc _), ((((K1.new _ _ (by omega) _).new _ _ (by omega) _).new _ _ (by omega) _).al _)⟩
      · have Hhc3 : Hid (¬ 219902325555 < r1.1.2.2) := hc3
        by_cases hc4 : (-219902325555) < r1.1.2.2
        · have Hhc4 : Hid ((-219902325555) < r1.1.2.2) := hc4
          go_wp2_with fail
          rw [rounds_succ]
          have c6_B1_0 : w1.cell? ⟨w.heap.size + 1, 0, none⟩ = some (.int .i64 0) := B1_1.c 0 (of_decide_eq_true rfl)
          have c6_B1_1 : w1.cell? ⟨w.heap.size + 1, 1, none⟩ = some (.int .i64 0) := B1_1.c 1 (of_decide_eq_true rfl)
          have c6_B1_2 : w1.cell? ⟨w.heap.size + 1, 2, none⟩ = some (.int .i64 0) := B1_1.c 2 (of_decide_eq_true rfl)
          have g6_B1_0 := B1_1.f 0 (of_decide_eq_true rfl)
          have g6_B1_1 := B1_1.f 1 (of_decide_eq_true rfl)
          have g6_B1_2 := B1_1.f 2 (of_decide_eq_true rfl)
          have l6_B1 := B1_1.lies
          go_wp2_with (with_reducible refine post_stop ?_)
          refine Stop.mk ?_
          clear c6_B1_0 c6_B1_1 c6_B1_2 g6_B1_0 g6_B1_1 g6_B1_2 l6_B1
          refine bodyPost_ret (v := .agg #[.int .i64 219902325555, .int .i64 219902325555, .int .i64 r1.1.2.2]) (results_arr Try.results10 ((((B1_1.put 0 (of_decide_eq_true rfl) (.int .i64 219902325555) [.int .i64 219902325555, .int .i64 0, .int .i64 0] rfl).put 1 (of_decide_eq_true rfl) (.int .i64 219902325555) [.int .i64 219902325555, .int .i64 219902325555, .int .i64 0] rfl).put 2 (of_decide_eq_true rfl) (.int .i64 r1.1.2.2) [.int .i64 219902325555, .int .i64 219902325555, .int .i64 r1.1.2.2] rfl).alloc _) rfl (by kernel_rfl) (by kernel_rfl)) rfl ?_
          have hs : bDip1 bad d = ((219902325555, 219902325555, r1.1.2.2), r1.2) := by unfold bDip1; simp only [E1.out]; rw [show clampS r1.1.1 = 219902325555 by unfold clampS; omega, show clampS r1.1.2.1 = 219902325555 by unfold clampS; omega, show clampS r1.1.2.2 = r1.1.2.2 by unfold clampS; omega]
          rw [hs]
          exact ⟨rfl, ((((f1.new (w.heap.size + 1) 0 (Nat.ne_of_lt y2_BF) (.int .i64 219902325555)).new (w.heap.size + 1) 1 (Nat.ne_of_lt y2_BF) (.int .i64 219902325555)).new (w.heap.size + 1) 2 (Nat.ne_of_lt y2_BF) (.int .i64 r1.1.2.2)).alloc _), ((((K1.new _ _ (by omega) _).new _ _ (by omega) _).new _ _ (by omega) _).al _)⟩
        · have Hhc4 : Hid (¬ (-219902325555) < r1.1.2.2) := hc4
          go_wp2_with fail
          rw [rounds_succ]
          have c6_B1_0 : w1.cell? ⟨w.heap.size + 1, 0, none⟩ = some (.int .i64 0) := B1_1.c 0 (of_decide_eq_true rfl)
          have c6_B1_1 : w1.cell? ⟨w.heap.size + 1, 1, none⟩ = some (.int .i64 0) := B1_1.c 1 (of_decide_eq_true rfl)
          have c6_B1_2 : w1.cell? ⟨w.heap.size + 1, 2, none⟩ = some (.int .i64 0) := B1_1.c 2 (of_decide_eq_true rfl)
          have g6_B1_0 := B1_1.f 0 (of_decide_eq_true rfl)
          have g6_B1_1 := B1_1.f 1 (of_decide_eq_true rfl)
          have g6_B1_2 := B1_1.f 2 (of_decide_eq_true rfl)
          have l6_B1 := B1_1.lies
          go_wp2_with (with_reducible refine post_stop ?_)
          refine Stop.mk ?_
          clear c6_B1_0 c6_B1_1 c6_B1_2 g6_B1_0 g6_B1_1 g6_B1_2 l6_B1
          refine bodyPost_ret (v := .agg #[.int .i64 219902325555, .int .i64 219902325555, .int .i64 (-219902325555)]) (results_arr Try.results10 ((((B1_1.put 0 (of_decide_eq_true rfl) (.int .i64 219902325555) [.int .i64 219902325555, .int .i64 0, .int .i64 0] rfl).put 1 (of_decide_eq_true rfl) (.int .i64 219902325555) [.int .i64 219902325555, .int .i64 219902325555, .int .i64 0] rfl).put 2 (of_decide_eq_true rfl) (.int .i64 (-219902325555)) [.int .i64 219902325555, .int .i64 219902325555, .int .i64 (-219902325555)] rfl).alloc _) rfl (by kernel_rfl) (by kernel_rfl)) rfl ?_
          have hs : bDip1 bad d = ((219902325555, 219902325555, (-219902325555)), r1.2) := by unfold bDip1; simp only [E1.out]; rw [show clampS r1.1.1 = 219902325555 by unfold clampS; omega, show clampS r1.1.2.1 = 219902325555 by unfold clampS; omega, show clampS r1.1.2.2 = (-219902325555) by unfold clampS; omega]
          rw [hs]
          exact ⟨rfl, ((((f1.new (w.heap.size + 1) 0 (Nat.ne_of_lt y2_BF) (.int .i64 219902325555)).new (w.heap.size + 1) 1 (Nat.ne_of_lt y2_BF) (.int .i64 219902325555)).new (w.heap.size + 1) 2 (Nat.ne_of_lt y2_BF) (.int .i64 (-219902325555))).alloc _), ((((K1.new _ _ (by omega) _).new _ _ (by omega) _).new _ _ (by omega) _).al _)⟩
    · have Hhc2 : Hid (¬ 219902325555 < r1.1.2.1) := hc2
      by_cases hc3 : (-219902325555) < r1.1.2.1
      · have Hhc3 : Hid ((-219902325555) < r1.1.2.1) := hc3
        go_wp2_with fail
        rw [rounds_succ]
        by_cases hc4 : 219902325555 < r1.1.2.2
        · have Hhc4 : Hid (219902325555 < r1.1.2.2) := hc4
          go_wp2_with fail
          rw [rounds_succ]
          have c6_B1_0 : w1.cell? ⟨w.heap.size + 1, 0, none⟩ = some (.int .i64 0) := B1_1.c 0 (of_decide_eq_true rfl)
          have c6_B1_1 : w1.cell? ⟨w.heap.size + 1, 1, none⟩ = some (.int .i64 0) := B1_1.c 1 (of_decide_eq_true rfl)
          have c6_B1_2 : w1.cell? ⟨w.heap.size + 1, 2, none⟩ = some (.int .i64 0) := B1_1.c 2 (of_decide_eq_true rfl)
          have g6_B1_0 := B1_1.f 0 (of_decide_eq_true rfl)
          have g6_B1_1 := B1_1.f 1 (of_decide_eq_true rfl)
          have g6_B1_2 := B1_1.f 2 (of_decide_eq_true rfl)
          have l6_B1 := B1_1.lies
          go_wp2_with (with_reducible refine post_stop ?_)
          refine Stop.mk ?_
          clear c6_B1_0 c6_B1_1 c6_B1_2 g6_B1_0 g6_B1_1 g6_B1_2 l6_B1
          refine bodyPost_ret (v := .agg #[.int .i64 219902325555, .int .i64 r1.1.2.1, .int .i64 219902325555]) (results_arr Try.results10 ((((B1_1.put 0 (of_decide_eq_true rfl) (.int .i64 219902325555) [.int .i64 219902325555, .int .i64 0, .int .i64 0] rfl).put 1 (of_decide_eq_true rfl) (.int .i64 r1.1.2.1) [.int .i64 219902325555, .int .i64 r1.1.2.1, .int .i64 0] rfl).put 2 (of_decide_eq_true rfl) (.int .i64 219902325555) [.int .i64 219902325555, .int .i64 r1.1.2.1, .int .i64 219902325555] rfl).alloc _) rfl (by kernel_rfl) (by kernel_rfl)) rfl ?_
          have hs : bDip1 bad d = ((219902325555, r1.1.2.1, 219902325555), r1.2) := by unfold bDip1; simp only [E1.out]; rw [show clampS r1.1.1 = 219902325555 by unfold clampS; omega, show clampS r1.1.2.1 = r1.1.2.1 by unfold clampS; omega, show clampS r1.1.2.2 = 219902325555 by unfold clampS; omega]
          rw [hs]
          exact ⟨rfl, ((((f1.new (w.heap.size + 1) 0 (Nat.ne_of_lt y2_BF) (.int .i64 219902325555)).new (w.heap.size + 1) 1 (Nat.ne_of_lt y2_BF) (.int .i64 r1.1.2.1)).new (w.heap.size + 1) 2 (Nat.ne_of_lt y2_BF) (.int .i64 219902325555)).alloc _), ((((K1.new _ _ (by omega) _).new _ _ (by omega) _).new _ _ (by omega) _).al _)⟩
        · have Hhc4 : Hid (¬ 219902325555 < r1.1.2.2) := hc4
          by_cases hc5 : (-219902325555) < r1.1.2.2
          · have Hhc5 : Hid ((-219902325555) < r1.1.2.2) := hc5
            go_wp2_with fail
            rw [rounds_succ]
            have c6_B1_0 : w1.cell? ⟨w.heap.size + 1, 0, none⟩ = some (.int .i64 0) := B1_1.c 0 (of_decide_eq_true rfl)
            have c6_B1_1 : w1.cell? ⟨w.heap.size + 1, 1, none⟩ = some (.int .i64 0) := B1_1.c 1 (of_decide_eq_true rfl)
            have c6_B1_2 : w1.cell? ⟨w.heap.size + 1, 2, none⟩ = some (.int .i64 0) := B1_1.c 2 (of_decide_eq_true rfl)
            have g6_B1_0 := B1_1.f 0 (of_decide_eq_true rfl)
            have g6_B1_1 := B1_1.f 1 (of_decide_eq_true rfl)
            have g6_B1_2 := B1_1.f 2 (of_decide_eq_true rfl)
            have l6_B1 := B1_1.lies
            go_wp2_with (with_reducible refine post_stop ?_)
            refine Stop.mk ?_
            clear c6_B1_0 c6_B1_1 c6_B1_2 g6_B1_0 g6_B1_1 g6_B1_2 l6_B1
            refine bodyPost_ret (v := .agg #[.int .i64 219902325555, .int .i64 r1.1.2.1, .int .i64 r1.1.2.2]) (results_arr Try.results10 ((((B1_1.put 0 (of_decide_eq_true rfl) (.int .i64 219902325555) [.int .i64 219902325555, .int .i64 0, .int .i64 0] rfl).put 1 (of_decide_eq_true rfl) (.int .i64 r1.1.2.1) [.int .i64 219902325555, .int .i64 r1.1.2.1, .int .i64 0] rfl).put 2 (of_decide_eq_true rfl) (.int .i64 r1.1.2.2) [.int .i64 219902325555, .int .i64 r1.1.2.1, .int .i64 r1.1.2.2] rfl).alloc _) rfl (by kernel_rfl) (by kernel_rfl)) rfl ?_
            have hs : bDip1 bad d = ((219902325555, r1.1.2.1, r1.1.2.2), r1.2) := by unfold bDip1; simp only [E1.out]; rw [show clampS r1.1.1 = 219902325555 by unfold clampS; omega, show clampS r1.1.2.1 = r1.1.2.1 by unfold clampS; omega, show clampS r1.1.2.2 = r1.1.2.2 by unfold clampS; omega]
            rw [hs]
            exact ⟨rfl, ((((f1.new (w.heap.size + 1) 0 (Nat.ne_of_lt y2_BF) (.int .i64 219902325555)).new (w.heap.size + 1) 1 (Nat.ne_of_lt y2_BF) (.int .i64 r1.1.2.1)).new (w.heap.size + 1) 2 (Nat.ne_of_lt y2_BF) (.int .i64 r1.1.2.2)).alloc _), ((((K1.new _ _ (by omega) _).new _ _ (by omega) _).new _ _ (by omega) _).al _)⟩
          · have Hhc5 : Hid (¬ (-219902325555) < r1.1.2.2) := hc5
            go_wp2_with fail
            rw [rounds_succ]
            have c6_B1_0 : w1.cell? ⟨w.heap.size + 1, 0, none⟩ = some (.int .i64 0) := B1_1.c 0 (of_decide_eq_true rfl)
            have c6_B1_1 : w1.cell? ⟨w.heap.size + 1, 1, none⟩ = some (.int .i64 0) := B1_1.c 1 (of_decide_eq_true rfl)
            have c6_B1_2 : w1.cell? ⟨w.heap.size + 1, 2, none⟩ = some (.int .i64 0) := B1_1.c 2 (of_decide_eq_true rfl)
            have g6_B1_0 := B1_1.f 0 (of_decide_eq_true rfl)
            have g6_B1_1 := B1_1.f 1 (of_decide_eq_true rfl)
            have g6_B1_2 := B1_1.f 2 (of_decide_eq_true rfl)
            have l6_B1 := B1_1.lies
            go_wp2_with (with_reducible refine post_stop ?_)
            refine Stop.mk ?_
            clear c6_B1_0 c6_B1_1 c6_B1_2 g6_B1_0 g6_B1_1 g6_B1_2 l6_B1
            refine bodyPost_ret (v := .agg #[.int .i64 219902325555, .int .i64 r1.1.2.1, .int .i64 (-219902325555)]) (results_arr Try.results10 ((((B1_1.put 0 (of_decide_eq_true rfl) (.int .i64 219902325555) [.int .i64 219902325555, .int .i64 0, .int .i64 0] rfl).put 1 (of_decide_eq_true rfl) (.int .i64 r1.1.2.1) [.int .i64 219902325555, .int .i64 r1.1.2.1, .int .i64 0] rfl).put 2 (of_decide_eq_true rfl) (.int .i64 (-219902325555)) [.int .i64 219902325555, .int .i64 r1.1.2.1, .int .i64 (-219902325555)] rfl).alloc _) rfl (by kernel_rfl) (by kernel_rfl)) rfl ?_
            have hs : bDip1 bad d = ((219902325555, r1.1.2.1, (-219902325555)), r1.2) := by unfold bDip1; simp only [E1.out]; rw [show clampS r1.1.1 = 219902325555 by unfold clampS; omega, show clampS r1.1.2.1 = r1.1.2.1 by unfold clampS; omega, show clampS r1.1.2.2 = (-219902325555) by unfold clampS; omega]
            rw [hs]
            exact ⟨rfl, ((((f1.new (w.heap.size + 1) 0 (Nat.ne_of_lt y2_BF) (.int .i64 219902325555)).new (w.heap.size + 1) 1 (Nat.ne_of_lt y2_BF) (.int .i64 r1.1.2.1)).new (w.heap.size + 1) 2 (Nat.ne_of_lt y2_BF) (.int .i64 (-219902325555))).alloc _), ((((K1.new _ _ (by omega) _).new _ _ (by omega) _).new _ _ (by omega) _).al _)⟩
      · have Hhc3 : Hid (¬ (-219902325555) < r1.1.2.1) := hc3
        go_wp2_with fail
        rw [rounds_succ]
        by_cases hc4 : 219902325555 < r1.1.2.2
        · have Hhc4 : Hid (219902325555 < r1.1.2.2) := hc4
          go_wp2_with fail
          rw [rounds_succ]
          have c6_B1_0 : w1.cell? ⟨w.heap.size + 1, 0, none⟩ = some (.int .i64 0) := B1_1.c 0 (of_decide_eq_true rfl)
          have c6_B1_1 : w1.cell? ⟨w.heap.size + 1, 1, none⟩ = some (.int .i64 0) := B1_1.c 1 (of_decide_eq_true rfl)
          have c6_B1_2 : w1.cell? ⟨w.heap.size + 1, 2, none⟩ = some (.int .i64 0) := B1_1.c 2 (of_decide_eq_true rfl)
          have g6_B1_0 := B1_1.f 0 (of_decide_eq_true rfl)
          have g6_B1_1 := B1_1.f 1 (of_decide_eq_true rfl)
          have g6_B1_2 := B1_1.f 2 (of_decide_eq_true rfl)
          have l6_B1 := B1_1.lies
          go_wp2_with (with_reducible refine post_stop ?_)
          refine Stop.mk ?_
          clear c6_B1_0 c6_B1_1 c6_B1_2 g6_B1_0 g6_B1_1 g6_B1_2 l6_B1
          refine bodyPost_ret (v := .agg #[.int .i64 219902325555, .int .i64 (-219902325555), .int .i64 219902325555]) (results_arr Try.results10 ((((B1_1.put 0 (of_decide_eq_true rfl) (.int .i64 219902325555) [.int .i64 219902325555, .int .i64 0, .int .i64 0] rfl).put 1 (of_decide_eq_true rfl) (.int .i64 (-219902325555)) [.int .i64 219902325555, .int .i64 (-219902325555), .int .i64 0] rfl).put 2 (of_decide_eq_true rfl) (.int .i64 219902325555) [.int .i64 219902325555, .int .i64 (-219902325555), .int .i64 219902325555] rfl).alloc _) rfl (by kernel_rfl) (by kernel_rfl)) rfl ?_
          have hs : bDip1 bad d = ((219902325555, (-219902325555), 219902325555), r1.2) := by unfold bDip1; simp only [E1.out]; rw [show clampS r1.1.1 = 219902325555 by unfold clampS; omega, show clampS r1.1.2.1 = (-219902325555) by unfold clampS; omega, show clampS r1.1.2.2 = 219902325555 by unfold clampS; omega]
          rw [hs]
          exact ⟨rfl, ((((f1.new (w.heap.size + 1) 0 (Nat.ne_of_lt y2_BF) (.int .i64 219902325555)).new (w.heap.size + 1) 1 (Nat.ne_of_lt y2_BF) (.int .i64 (-219902325555))).new (w.heap.size + 1) 2 (Nat.ne_of_lt y2_BF) (.int .i64 219902325555)).alloc _), ((((K1.new _ _ (by omega) _).new _ _ (by omega) _).new _ _ (by omega) _).al _)⟩
        · have Hhc4 : Hid (¬ 219902325555 < r1.1.2.2) := hc4
          by_cases hc5 : (-219902325555) < r1.1.2.2
          · have Hhc5 : Hid ((-219902325555) < r1.1.2.2) := hc5
            go_wp2_with fail
            rw [rounds_succ]
            have c6_B1_0 : w1.cell? ⟨w.heap.size + 1, 0, none⟩ = some (.int .i64 0) := B1_1.c 0 (of_decide_eq_true rfl)
            have c6_B1_1 : w1.cell? ⟨w.heap.size + 1, 1, none⟩ = some (.int .i64 0) := B1_1.c 1 (of_decide_eq_true rfl)
            have c6_B1_2 : w1.cell? ⟨w.heap.size + 1, 2, none⟩ = some (.int .i64 0) := B1_1.c 2 (of_decide_eq_true rfl)
            have g6_B1_0 := B1_1.f 0 (of_decide_eq_true rfl)
            have g6_B1_1 := B1_1.f 1 (of_decide_eq_true rfl)
            have g6_B1_2 := B1_1.f 2 (of_decide_eq_true rfl)
            have l6_B1 := B1_1.lies
            go_wp2_with (with_reducible refine post_stop ?_)
            refine Stop.mk ?_
            clear c6_B1_0 c6_B1_1 c6_B1_2 g6_B1_0 g6_B1_1 g6_B1_2 l6_B1
            refine bodyPost_ret (v := .agg #[.int .i64 219902325555, .int .i64 (-219902325555), .int .i64 r1.1.2.2]) (results_arr Try.results10 ((((B1_1.put 0 (of_decide_eq_true rfl) (.int .i64 219902325555) [.int .i64 219902325555, .int .i64 0, .int .i64 0] rfl).put 1 (of_decide_eq_true rfl) (.int .i64 (-219902325555)) [.int .i64 219902325555, .int .i64 (-219902325555), .int .i64 0] rfl).put 2 (of_decide_eq_true rfl) (.int .i64 r1.1.2.2) [.int .i64 219902325555, .int .i64 (-219902325555), .int .i64 r1.1.2.2] rfl).alloc _) rfl (by kernel_rfl) (by kernel_rfl)) rfl ?_
            have hs : bDip1 bad d = ((219902325555, (-219902325555), r1.1.2.2), r1.2) := by unfold bDip1; simp only [E1.out]; rw [show clampS r1.1.1 = 219902325555 by unfold clampS; omega, show clampS r1.1.2.1 = (-219902325555) by unfold clampS; omega, show clampS r1.1.2.2 = r1.1.2.2 by unfold clampS; omega]
            rw [hs]
            exact ⟨rfl, ((((f1.new (w.heap.size + 1) 0 (Nat.ne_of_lt y2_BF) (.int .i64 219902325555)).new (w.heap.size + 1) 1 (Nat.ne_of_lt y2_BF) (.int .i64 (-219902325555))).new (w.heap.size + 1) 2 (Nat.ne_of_lt y2_BF) (.int .i64 r1.1.2.2)).alloc _), ((((K1.new _ _ (by omega) _).new _ _ (by omega) _).new _ _ (by omega) _).al _)⟩
          · have Hhc5 : Hid (¬ (-219902325555) < r1.1.2.2) := hc5
            go_wp2_with fail
            rw [rounds_succ]
            have c6_B1_0 : w1.cell? ⟨w.heap.size + 1, 0, none⟩ = some (.int .i64 0) := B1_1.c 0 (of_decide_eq_true rfl)
            have c6_B1_1 : w1.cell? ⟨w.heap.size + 1, 1, none⟩ = some (.int .i64 0) := B1_1.c 1 (of_decide_eq_true rfl)
            have c6_B1_2 : w1.cell? ⟨w.heap.size + 1, 2, none⟩ = some (.int .i64 0) := B1_1.c 2 (of_decide_eq_true rfl)
            have g6_B1_0 := B1_1.f 0 (of_decide_eq_true rfl)
            have g6_B1_1 := B1_1.f 1 (of_decide_eq_true rfl)
            have g6_B1_2 := B1_1.f 2 (of_decide_eq_true rfl)
            have l6_B1 := B1_1.lies
            go_wp2_with (with_reducible refine post_stop ?_)
            refine Stop.mk ?_
            clear c6_B1_0 c6_B1_1 c6_B1_2 g6_B1_0 g6_B1_1 g6_B1_2 l6_B1
            refine bodyPost_ret (v := .agg #[.int .i64 219902325555, .int .i64 (-219902325555), .int .i64 (-219902325555)]) (results_arr Try.results10 ((((B1_1.put 0 (of_decide_eq_true rfl) (.int .i64 219902325555) [.int .i64 219902325555, .int .i64 0, .int .i64 0] rfl).put 1 (of_decide_eq_true rfl) (.int .i64 (-219902325555)) [.int .i64 219902325555, .int .i64 (-219902325555), .int .i64 0] rfl).put 2 (of_decide_eq_true rfl) (.int .i64 (-219902325555)) [.int .i64 219902325555, .int .i64 (-219902325555), .int .i64 (-219902325555)] rfl).alloc _) rfl (by kernel_rfl) (by kernel_rfl)) rfl ?_
            have hs : bDip1 bad d = ((219902325555, (-219902325555), (-219902325555)), r1.2) := by unfold bDip1; simp only [E1.out]; rw [show clampS r1.1.1 = 219902325555 by unfold clampS; omega, show clampS r1.1.2.1 = (-219902325555) by unfold clampS; omega, show clampS r1.1.2.2 = (-219902325555) by unfold clampS; omega]
            rw [hs]
            exact ⟨rfl, ((((f1.new (w.heap.size + 1) 0 (Nat.ne_of_lt y2_BF) (.int .i64 219902325555)).new (w.heap.size + 1) 1 (Nat.ne_of_lt y2_BF) (.int .i64 (-219902325555))).new (w.heap.size + 1) 2 (Nat.ne_of_lt y2_BF) (.int .i64 (-219902325555))).alloc _), ((((K1.new _ _ (by omega) _).new _ _ (by omega) _).new _ _ (by omega) _).al _)⟩
  · have Hhc1 : Hid (¬ 219902325555 < r1.1.1) := hc1
    by_cases hc2 : (-219902325555) < r1.1.1
    · have Hhc2 : Hid ((-219902325555) < r1.1.1) := hc2
      go_wp2_with fail
      rw [rounds_succ]
      by_cases hc3 : 219902325555 < r1.1.2.1
      · have Hhc3 : Hid (219902325555 < r1.1.2.1) := hc3
        go_wp2_with fail
        rw [rounds_succ]
        by_cases hc4 : 219902325555 < r1.1.2.2
        · have Hhc4 : Hid (219902325555 < r1.1.2.2) := hc4
          go_wp2_with fail
          rw [rounds_succ]
          have c6_B1_0 : w1.cell? ⟨w.heap.size + 1, 0, none⟩ = some (.int .i64 0) := B1_1.c 0 (of_decide_eq_true rfl)
          have c6_B1_1 : w1.cell? ⟨w.heap.size + 1, 1, none⟩ = some (.int .i64 0) := B1_1.c 1 (of_decide_eq_true rfl)
          have c6_B1_2 : w1.cell? ⟨w.heap.size + 1, 2, none⟩ = some (.int .i64 0) := B1_1.c 2 (of_decide_eq_true rfl)
          have g6_B1_0 := B1_1.f 0 (of_decide_eq_true rfl)
          have g6_B1_1 := B1_1.f 1 (of_decide_eq_true rfl)
          have g6_B1_2 := B1_1.f 2 (of_decide_eq_true rfl)
          have l6_B1 := B1_1.lies
          go_wp2_with (with_reducible refine post_stop ?_)
          refine Stop.mk ?_
          clear c6_B1_0 c6_B1_1 c6_B1_2 g6_B1_0 g6_B1_1 g6_B1_2 l6_B1
          refine bodyPost_ret (v := .agg #[.int .i64 r1.1.1, .int .i64 219902325555, .int .i64 219902325555]) (results_arr Try.results10 ((((B1_1.put 0 (of_decide_eq_true rfl) (.int .i64 r1.1.1) [.int .i64 r1.1.1, .int .i64 0, .int .i64 0] rfl).put 1 (of_decide_eq_true rfl) (.int .i64 219902325555) [.int .i64 r1.1.1, .int .i64 219902325555, .int .i64 0] rfl).put 2 (of_decide_eq_true rfl) (.int .i64 219902325555) [.int .i64 r1.1.1, .int .i64 219902325555, .int .i64 219902325555] rfl).alloc _) rfl (by kernel_rfl) (by kernel_rfl)) rfl ?_
          have hs : bDip1 bad d = ((r1.1.1, 219902325555, 219902325555), r1.2) := by unfold bDip1; simp only [E1.out]; rw [show clampS r1.1.1 = r1.1.1 by unfold clampS; omega, show clampS r1.1.2.1 = 219902325555 by unfold clampS; omega, show clampS r1.1.2.2 = 219902325555 by unfold clampS; omega]
          rw [hs]
          exact ⟨rfl, ((((f1.new (w.heap.size + 1) 0 (Nat.ne_of_lt y2_BF) (.int .i64 r1.1.1)).new (w.heap.size + 1) 1 (Nat.ne_of_lt y2_BF) (.int .i64 219902325555)).new (w.heap.size + 1) 2 (Nat.ne_of_lt y2_BF) (.int .i64 219902325555)).alloc _), ((((K1.new _ _ (by omega) _).new _ _ (by omega) _).new _ _ (by omega) _).al _)⟩
        · have Hhc4 : Hid (¬ 219902325555 < r1.1.2.2) := hc4
          by_cases hc5 : (-219902325555) < r1.1.2.2
          · have Hhc5 : Hid ((-219902325555) < r1.1.2.2) := hc5
            go_wp2_with fail
            rw [rounds_succ]
            have c6_B1_0 : w1.cell? ⟨w.heap.size + 1, 0, none⟩ = some (.int .i64 0) := B1_1.c 0 (of_decide_eq_true rfl)
            have c6_B1_1 : w1.cell? ⟨w.heap.size + 1, 1, none⟩ = some (.int .i64 0) := B1_1.c 1 (of_decide_eq_true rfl)
            have c6_B1_2 : w1.cell? ⟨w.heap.size + 1, 2, none⟩ = some (.int .i64 0) := B1_1.c 2 (of_decide_eq_true rfl)
            have g6_B1_0 := B1_1.f 0 (of_decide_eq_true rfl)
            have g6_B1_1 := B1_1.f 1 (of_decide_eq_true rfl)
            have g6_B1_2 := B1_1.f 2 (of_decide_eq_true rfl)
            have l6_B1 := B1_1.lies
            go_wp2_with (with_reducible refine post_stop ?_)
            refine Stop.mk ?_
            clear c6_B1_0 c6_B1_1 c6_B1_2 g6_B1_0 g6_B1_1 g6_B1_2 l6_B1
            refine bodyPost_ret (v := .agg #[.int .i64 r1.1.1, .int .i64 219902325555, .int .i64 r1.1.2.2]) (results_arr Try.results10 ((((B1_1.put 0 (of_decide_eq_true rfl) (.int .i64 r1.1.1) [.int .i64 r1.1.1, .int .i64 0, .int .i64 0] rfl).put 1 (of_decide_eq_true rfl) (.int .i64 219902325555) [.int .i64 r1.1.1, .int .i64 219902325555, .int .i64 0] rfl).put 2 (of_decide_eq_true rfl) (.int .i64 r1.1.2.2) [.int .i64 r1.1.1, .int .i64 219902325555, .int .i64 r1.1.2.2] rfl).alloc _) rfl (by kernel_rfl) (by kernel_rfl)) rfl ?_
            have hs : bDip1 bad d = ((r1.1.1, 219902325555, r1.1.2.2), r1.2) := by unfold bDip1; simp only [E1.out]; rw [show clampS r1.1.1 = r1.1.1 by unfold clampS; omega, show clampS r1.1.2.1 = 219902325555 by unfold clampS; omega, show clampS r1.1.2.2 = r1.1.2.2 by unfold clampS; omega]
            rw [hs]
            exact ⟨rfl, ((((f1.new (w.heap.size + 1) 0 (Nat.ne_of_lt y2_BF) (.int .i64 r1.1.1)).new (w.heap.size + 1) 1 (Nat.ne_of_lt y2_BF) (.int .i64 219902325555)).new (w.heap.size + 1) 2 (Nat.ne_of_lt y2_BF) (.int .i64 r1.1.2.2)).alloc _), ((((K1.new _ _ (by omega) _).new _ _ (by omega) _).new _ _ (by omega) _).al _)⟩
          · have Hhc5 : Hid (¬ (-219902325555) < r1.1.2.2) := hc5
            go_wp2_with fail
            rw [rounds_succ]
            have c6_B1_0 : w1.cell? ⟨w.heap.size + 1, 0, none⟩ = some (.int .i64 0) := B1_1.c 0 (of_decide_eq_true rfl)
            have c6_B1_1 : w1.cell? ⟨w.heap.size + 1, 1, none⟩ = some (.int .i64 0) := B1_1.c 1 (of_decide_eq_true rfl)
            have c6_B1_2 : w1.cell? ⟨w.heap.size + 1, 2, none⟩ = some (.int .i64 0) := B1_1.c 2 (of_decide_eq_true rfl)
            have g6_B1_0 := B1_1.f 0 (of_decide_eq_true rfl)
            have g6_B1_1 := B1_1.f 1 (of_decide_eq_true rfl)
            have g6_B1_2 := B1_1.f 2 (of_decide_eq_true rfl)
            have l6_B1 := B1_1.lies
            go_wp2_with (with_reducible refine post_stop ?_)
            refine Stop.mk ?_
            clear c6_B1_0 c6_B1_1 c6_B1_2 g6_B1_0 g6_B1_1 g6_B1_2 l6_B1
            refine bodyPost_ret (v := .agg #[.int .i64 r1.1.1, .int .i64 219902325555, .int .i64 (-219902325555)]) (results_arr Try.results10 ((((B1_1.put 0 (of_decide_eq_true rfl) (.int .i64 r1.1.1) [.int .i64 r1.1.1, .int .i64 0, .int .i64 0] rfl).put 1 (of_decide_eq_true rfl) (.int .i64 219902325555) [.int .i64 r1.1.1, .int .i64 219902325555, .int .i64 0] rfl).put 2 (of_decide_eq_true rfl) (.int .i64 (-219902325555)) [.int .i64 r1.1.1, .int .i64 219902325555, .int .i64 (-219902325555)] rfl).alloc _) rfl (by kernel_rfl) (by kernel_rfl)) rfl ?_
            have hs : bDip1 bad d = ((r1.1.1, 219902325555, (-219902325555)), r1.2) := by unfold bDip1; simp only [E1.out]; rw [show clampS r1.1.1 = r1.1.1 by unfold clampS; omega, show clampS r1.1.2.1 = 219902325555 by unfold clampS; omega, show clampS r1.1.2.2 = (-219902325555) by unfold clampS; omega]
            rw [hs]
            exact ⟨rfl, ((((f1.new (w.heap.size + 1) 0 (Nat.ne_of_lt y2_BF) (.int .i64 r1.1.1)).new (w.heap.size + 1) 1 (Nat.ne_of_lt y2_BF) (.int .i64 219902325555)).new (w.heap.size + 1) 2 (Nat.ne_of_lt y2_BF) (.int .i64 (-219902325555))).alloc _), ((((K1.new _ _ (by omega) _).new _ _ (by omega) _).new _ _ (by omega) _).al _)⟩
      · have Hhc3 : Hid (¬ 219902325555 < r1.1.2.1) := hc3
        by_cases hc4 : (-219902325555) < r1.1.2.1
        · have Hhc4 : Hid ((-219902325555) < r1.1.2.1) := hc4
          go_wp2_with fail
          rw [rounds_succ]
          by_cases hc5 : 219902325555 < r1.1.2.2
          · have Hhc5 : Hid (219902325555 < r1.1.2.2) := hc5
            go_wp2_with fail
            rw [rounds_succ]
            have c6_B1_0 : w1.cell? ⟨w.heap.size + 1, 0, none⟩ = some (.int .i64 0) := B1_1.c 0 (of_decide_eq_true rfl)
            have c6_B1_1 : w1.cell? ⟨w.heap.size + 1, 1, none⟩ = some (.int .i64 0) := B1_1.c 1 (of_decide_eq_true rfl)
            have c6_B1_2 : w1.cell? ⟨w.heap.size + 1, 2, none⟩ = some (.int .i64 0) := B1_1.c 2 (of_decide_eq_true rfl)
            have g6_B1_0 := B1_1.f 0 (of_decide_eq_true rfl)
            have g6_B1_1 := B1_1.f 1 (of_decide_eq_true rfl)
            have g6_B1_2 := B1_1.f 2 (of_decide_eq_true rfl)
            have l6_B1 := B1_1.lies
            go_wp2_with (with_reducible refine post_stop ?_)
            refine Stop.mk ?_
            clear c6_B1_0 c6_B1_1 c6_B1_2 g6_B1_0 g6_B1_1 g6_B1_2 l6_B1
            refine bodyPost_ret (v := .agg #[.int .i64 r1.1.1, .int .i64 r1.1.2.1, .int .i64 219902325555]) (results_arr Try.results10 ((((B1_1.put 0 (of_decide_eq_true rfl) (.int .i64 r1.1.1) [.int .i64 r1.1.1, .int .i64 0, .int .i64 0] rfl).put 1 (of_decide_eq_true rfl) (.int .i64 r1.1.2.1) [.int .i64 r1.1.1, .int .i64 r1.1.2.1, .int .i64 0] rfl).put 2 (of_decide_eq_true rfl) (.int .i64 219902325555) [.int .i64 r1.1.1, .int .i64 r1.1.2.1, .int .i64 219902325555] rfl).alloc _) rfl (by kernel_rfl) (by kernel_rfl)) rfl ?_
            have hs : bDip1 bad d = ((r1.1.1, r1.1.2.1, 219902325555), r1.2) := by unfold bDip1; simp only [E1.out]; rw [show clampS r1.1.1 = r1.1.1 by unfold clampS; omega, show clampS r1.1.2.1 = r1.1.2.1 by unfold clampS; omega, show clampS r1.1.2.2 = 219902325555 by unfold clampS; omega]
            rw [hs]
            exact ⟨rfl, ((((f1.new (w.heap.size + 1) 0 (Nat.ne_of_lt y2_BF) (.int .i64 r1.1.1)).new (w.heap.size + 1) 1 (Nat.ne_of_lt y2_BF) (.int .i64 r1.1.2.1)).new (w.heap.size + 1) 2 (Nat.ne_of_lt y2_BF) (.int .i64 219902325555)).alloc _), ((((K1.new _ _ (by omega) _).new _ _ (by omega) _).new _ _ (by omega) _).al _)⟩
          · have Hhc5 : Hid (¬ 219902325555 < r1.1.2.2) := hc5
            by_cases hc6 : (-219902325555) < r1.1.2.2
            · have Hhc6 : Hid ((-219902325555) < r1.1.2.2) := hc6
              go_wp2_with fail
              rw [rounds_succ]
              have c6_B1_0 : w1.cell? ⟨w.heap.size + 1, 0, none⟩ = some (.int .i64 0) := B1_1.c 0 (of_decide_eq_true rfl)
              have c6_B1_1 : w1.cell? ⟨w.heap.size + 1, 1, none⟩ = some (.int .i64 0) := B1_1.c 1 (of_decide_eq_true rfl)
              have c6_B1_2 : w1.cell? ⟨w.heap.size + 1, 2, none⟩ = some (.int .i64 0) := B1_1.c 2 (of_decide_eq_true rfl)
              have g6_B1_0 := B1_1.f 0 (of_decide_eq_true rfl)
              have g6_B1_1 := B1_1.f 1 (of_decide_eq_true rfl)
              have g6_B1_2 := B1_1.f 2 (of_decide_eq_true rfl)
              have l6_B1 := B1_1.lies
              go_wp2_with (with_reducible refine post_stop ?_)
              refine Stop.mk ?_
              clear c6_B1_0 c6_B1_1 c6_B1_2 g6_B1_0 g6_B1_1 g6_B1_2 l6_B1
              refine bodyPost_ret (v := .agg #[.int .i64 r1.1.1, .int .i64 r1.1.2.1, .int .i64 r1.1.2.2]) (results_arr Try.results10 ((((B1_1.put 0 (of_decide_eq_true rfl) (.int .i64 r1.1.1) [.int .i64 r1.1.1, .int .i64 0, .int .i64 0] rfl).put 1 (of_decide_eq_true rfl) (.int .i64 r1.1.2.1) [.int .i64 r1.1.1, .int .i64 r1.1.2.1, .int .i64 0] rfl).put 2 (of_decide_eq_true rfl) (.int .i64 r1.1.2.2) [.int .i64 r1.1.1, .int .i64 r1.1.2.1, .int .i64 r1.1.2.2] rfl).alloc _) rfl (by kernel_rfl) (by kernel_rfl)) rfl ?_
              have hs : bDip1 bad d = (r1.1, r1.2) := by unfold bDip1; simp only [E1.out]; rw [show clampS r1.1.1 = r1.1.1 by unfold clampS; omega, show clampS r1.1.2.1 = r1.1.2.1 by unfold clampS; omega, show clampS r1.1.2.2 = r1.1.2.2 by unfold clampS; omega]
              rw [hs]
              exact ⟨rfl, ((((f1.new (w.heap.size + 1) 0 (Nat.ne_of_lt y2_BF) (.int .i64 r1.1.1)).new (w.heap.size + 1) 1 (Nat.ne_of_lt y2_BF) (.int .i64 r1.1.2.1)).new (w.heap.size + 1) 2 (Nat.ne_of_lt y2_BF) (.int .i64 r1.1.2.2)).alloc _), ((((K1.new _ _ (by omega) _).new _ _ (by omega) _).new _ _ (by omega) _).al _)⟩
            · have Hhc6 : Hid (¬ (-219902325555) < r1.1.2.2) := hc6
              go_wp2_with fail
              rw [rounds_succ]
              have c6_B1_0 : w1.cell? ⟨w.heap.size + 1, 0, none⟩ = some (.int .i64 0) := B1_1.c 0 (of_decide_eq_true rfl)
              have c6_B1_1 : w1.cell? ⟨w.heap.size + 1, 1, none⟩ = some (.int .i64 0) := B1_1.c 1 (of_decide_eq_true rfl)
              have c6_B1_2 : w1.cell? ⟨w.heap.size + 1, 2, none⟩ = some (.int .i64 0) := B1_1.c 2 (of_decide_eq_true rfl)
              have g6_B1_0 := B1_1.f 0 (of_decide_eq_true rfl)
              have g6_B1_1 := B1_1.f 1 (of_decide_eq_true rfl)
              have g6_B1_2 := B1_1.f 2 (of_decide_eq_true rfl)
              have l6_B1 := B1_1.lies
              go_wp2_with (with_reducible refine post_stop ?_)
              refine Stop.mk ?_
              clear c6_B1_0 c6_B1_1 c6_B1_2 g6_B1_0 g6_B1_1 g6_B1_2 l6_B1
              refine bodyPost_ret (v := .agg #[.int .i64 r1.1.1, .int .i64 r1.1.2.1, .int .i64 (-219902325555)]) (results_arr Try.results10 ((((B1_1.put 0 (of_decide_eq_true rfl) (.int .i64 r1.1.1) [.int .i64 r1.1.1, .int .i64 0, .int .i64 0] rfl).put 1 (of_decide_eq_true rfl) (.int .i64 r1.1.2.1) [.int .i64 r1.1.1, .int .i64 r1.1.2.1, .int .i64 0] rfl).put 2 (of_decide_eq_true rfl) (.int .i64 (-219902325555)) [.int .i64 r1.1.1, .int .i64 r1.1.2.1, .int .i64 (-219902325555)] rfl).alloc _) rfl (by kernel_rfl) (by kernel_rfl)) rfl ?_
              have hs : bDip1 bad d = ((r1.1.1, r1.1.2.1, (-219902325555)), r1.2) := by unfold bDip1; simp only [E1.out]; rw [show clampS r1.1.1 = r1.1.1 by unfold clampS; omega, show clampS r1.1.2.1 = r1.1.2.1 by unfold clampS; omega, show clampS r1.1.2.2 = (-219902325555) by unfold clampS; omega]
              rw [hs]
              exact ⟨rfl, ((((f1.new (w.heap.size + 1) 0 (Nat.ne_of_lt y2_BF) (.int .i64 r1.1.1)).new (w.heap.size + 1) 1 (Nat.ne_of_lt y2_BF) (.int .i64 r1.1.2.1)).new (w.heap.size + 1) 2 (Nat.ne_of_lt y2_BF) (.int .i64 (-219902325555))).alloc _), ((((K1.new _ _ (by omega) _).new _ _ (by omega) _).new _ _ (by omega) _).al _)⟩
        · have Hhc4 : Hid (¬ (-219902325555) < r1.1.2.1) := hc4
          go_wp2_with fail
          rw [rounds_succ]
          by_cases hc5 : 219902325555 < r1.1.2.2
          · have Hhc5 : Hid (219902325555 < r1.1.2.2) := hc5
            go_wp2_with fail
            rw [rounds_succ]
            have c6_B1_0 : w1.cell? ⟨w.heap.size + 1, 0, none⟩ = some (.int .i64 0) := B1_1.c 0 (of_decide_eq_true rfl)
            have c6_B1_1 : w1.cell? ⟨w.heap.size + 1, 1, none⟩ = some (.int .i64 0) := B1_1.c 1 (of_decide_eq_true rfl)
            have c6_B1_2 : w1.cell? ⟨w.heap.size + 1, 2, none⟩ = some (.int .i64 0) := B1_1.c 2 (of_decide_eq_true rfl)
            have g6_B1_0 := B1_1.f 0 (of_decide_eq_true rfl)
            have g6_B1_1 := B1_1.f 1 (of_decide_eq_true rfl)
            have g6_B1_2 := B1_1.f 2 (of_decide_eq_true rfl)
            have l6_B1 := B1_1.lies
            go_wp2_with (with_reducible refine post_stop ?_)
            refine Stop.mk ?_
            clear c6_B1_0 c6_B1_1 c6_B1_2 g6_B1_0 g6_B1_1 g6_B1_2 l6_B1
            refine bodyPost_ret (v := .agg #[.int .i64 r1.1.1, .int .i64 (-219902325555), .int .i64 219902325555]) (results_arr Try.results10 ((((B1_1.put 0 (of_decide_eq_true rfl) (.int .i64 r1.1.1) [.int .i64 r1.1.1, .int .i64 0, .int .i64 0] rfl).put 1 (of_decide_eq_true rfl) (.int .i64 (-219902325555)) [.int .i64 r1.1.1, .int .i64 (-219902325555), .int .i64 0] rfl).put 2 (of_decide_eq_true rfl) (.int .i64 219902325555) [.int .i64 r1.1.1, .int .i64 (-219902325555), .int .i64 219902325555] rfl).alloc _) rfl (by kernel_rfl) (by kernel_rfl)) rfl ?_
            have hs : bDip1 bad d = ((r1.1.1, (-219902325555), 219902325555), r1.2) := by unfold bDip1; simp only [E1.out]; rw [show clampS r1.1.1 = r1.1.1 by unfold clampS; omega, show clampS r1.1.2.1 = (-219902325555) by unfold clampS; omega, show clampS r1.1.2.2 = 219902325555 by unfold clampS; omega]
            rw [hs]
            exact ⟨rfl, ((((f1.new (w.heap.size + 1) 0 (Nat.ne_of_lt y2_BF) (.int .i64 r1.1.1)).new (w.heap.size + 1) 1 (Nat.ne_of_lt y2_BF) (.int .i64 (-219902325555))).new (w.heap.size + 1) 2 (Nat.ne_of_lt y2_BF) (.int .i64 219902325555)).alloc _), ((((K1.new _ _ (by omega) _).new _ _ (by omega) _).new _ _ (by omega) _).al _)⟩
          · have Hhc5 : Hid (¬ 219902325555 < r1.1.2.2) := hc5
            by_cases hc6 : (-219902325555) < r1.1.2.2
            · have Hhc6 : Hid ((-219902325555) < r1.1.2.2) := hc6
              go_wp2_with fail
              rw [rounds_succ]
              have c6_B1_0 : w1.cell? ⟨w.heap.size + 1, 0, none⟩ = some (.int .i64 0) := B1_1.c 0 (of_decide_eq_true rfl)
              have c6_B1_1 : w1.cell? ⟨w.heap.size + 1, 1, none⟩ = some (.int .i64 0) := B1_1.c 1 (of_decide_eq_true rfl)
              have c6_B1_2 : w1.cell? ⟨w.heap.size + 1, 2, none⟩ = some (.int .i64 0) := B1_1.c 2 (of_decide_eq_true rfl)
              have g6_B1_0 := B1_1.f 0 (of_decide_eq_true rfl)
              have g6_B1_1 := B1_1.f 1 (of_decide_eq_true rfl)
              have g6_B1_2 := B1_1.f 2 (of_decide_eq_true rfl)
              have l6_B1 := B1_1.lies
              go_wp2_with (with_reducible refine post_stop ?_)
              refine Stop.mk ?_
              clear c6_B1_0 c6_B1_1 c6_B1_2 g6_B1_0 g6_B1_1 g6_B1_2 l6_B1
              refine bodyPost_ret (v := .agg #[.int .i64 r1.1.1, .int .i64 (-219902325555), .int .i64 r1.1.2.2]) (results_arr Try.results10 ((((B1_1.put 0 (of_decide_eq_true rfl) (.int .i64 r1.1.1) [.int .i64 r1.1.1, .int .i64 0, .int .i64 0] rfl).put 1 (of_decide_eq_true rfl) (.int .i64 (-219902325555)) [.int .i64 r1.1.1, .int .i64 (-219902325555), .int .i64 0] rfl).put 2 (of_decide_eq_true rfl) (.int .i64 r1.1.2.2) [.int .i64 r1.1.1, .int .i64 (-219902325555), .int .i64 r1.1.2.2] rfl).alloc _) rfl (by kernel_rfl) (by kernel_rfl)) rfl ?_
              have hs : bDip1 bad d = ((r1.1.1, (-219902325555), r1.1.2.2), r1.2) := by unfold bDip1; simp only [E1.out]; rw [show clampS r1.1.1 = r1.1.1 by unfold clampS; omega, show clampS r1.1.2.1 = (-219902325555) by unfold clampS; omega, show clampS r1.1.2.2 = r1.1.2.2 by unfold clampS; omega]
              rw [hs]
              exact ⟨rfl, ((((f1.new (w.heap.size + 1) 0 (Nat.ne_of_lt y2_BF) (.int .i64 r1.1.1)).new (w.heap.size + 1) 1 (Nat.ne_of_lt y2_BF) (.int .i64 (-219902325555))).new (w.heap.size + 1) 2 (Nat.ne_of_lt y2_BF) (.int .i64 r1.1.2.2)).alloc _), ((((K1.new _ _ (by omega) _).new _ _ (by omega) _).new _ _ (by omega) _).al _)⟩
            · have Hhc6 : Hid (¬ (-219902325555) < r1.1.2.2) := hc6
              go_wp2_with fail
              rw [rounds_succ]
              have c6_B1_0 : w1.cell? ⟨w.heap.size + 1, 0, none⟩ = some (.int .i64 0) := B1_1.c 0 (of_decide_eq_true rfl)
              have c6_B1_1 : w1.cell? ⟨w.heap.size + 1, 1, none⟩ = some (.int .i64 0) := B1_1.c 1 (of_decide_eq_true rfl)
              have c6_B1_2 : w1.cell? ⟨w.heap.size + 1, 2, none⟩ = some (.int .i64 0) := B1_1.c 2 (of_decide_eq_true rfl)
              have g6_B1_0 := B1_1.f 0 (of_decide_eq_true rfl)
              have g6_B1_1 := B1_1.f 1 (of_decide_eq_true rfl)
              have g6_B1_2 := B1_1.f 2 (of_decide_eq_true rfl)
              have l6_B1 := B1_1.lies
              go_wp2_with (with_reducible refine post_stop ?_)
              refine Stop.mk ?_
              clear c6_B1_0 c6_B1_1 c6_B1_2 g6_B1_0 g6_B1_1 g6_B1_2 l6_B1
              refine bodyPost_ret (v := .agg #[.int .i64 r1.1.1, .int .i64 (-219902325555), .int .i64 (-219902325555)]) (results_arr Try.results10 ((((B1_1.put 0 (of_decide_eq_true rfl) (.int .i64 r1.1.1) [.int .i64 r1.1.1, .int .i64 0, .int .i64 0] rfl).put 1 (of_decide_eq_true rfl) (.int .i64 (-219902325555)) [.int .i64 r1.1.1, .int .i64 (-219902325555), .int .i64 0] rfl).put 2 (of_decide_eq_true rfl) (.int .i64 (-219902325555)) [.int .i64 r1.1.1, .int .i64 (-219902325555), .int .i64 (-219902325555)] rfl).alloc _) rfl (by kernel_rfl) (by kernel_rfl)) rfl ?_
              have hs : bDip1 bad d = ((r1.1.1, (-219902325555), (-219902325555)), r1.2) := by unfold bDip1; simp only [E1.out]; rw [show clampS r1.1.1 = r1.1.1 by unfold clampS; omega, show clampS r1.1.2.1 = (-219902325555) by unfold clampS; omega, show clampS r1.1.2.2 = (-219902325555) by unfold clampS; omega]
              rw [hs]
              exact ⟨rfl, ((((f1.new (w.heap.size + 1) 0 (Nat.ne_of_lt y2_BF) (.int .i64 r1.1.1)).new (w.heap.size + 1) 1 (Nat.ne_of_lt y2_BF) (.int .i64 (-219902325555))).new (w.heap.size + 1) 2 (Nat.ne_of_lt y2_BF) (.int .i64 (-219902325555))).alloc _), ((((K1.new _ _ (by omega) _).new _ _ (by omega) _).new _ _ (by omega) _).al _)⟩
    · have Hhc2 : Hid (¬ (-219902325555) < r1.1.1) := hc2
      go_wp2_with fail
      rw [rounds_succ]
      by_cases hc3 : 219902325555 < r1.1.2.1
      · have Hhc3 : Hid (219902325555 < r1.1.2.1) := hc3
        go_wp2_with fail
        rw [rounds_succ]
        by_cases hc4 : 219902325555 < r1.1.2.2
        · have Hhc4 : Hid (219902325555 < r1.1.2.2) := hc4
          go_wp2_with fail
          rw [rounds_succ]
          have c6_B1_0 : w1.cell? ⟨w.heap.size + 1, 0, none⟩ = some (.int .i64 0) := B1_1.c 0 (of_decide_eq_true rfl)
          have c6_B1_1 : w1.cell? ⟨w.heap.size + 1, 1, none⟩ = some (.int .i64 0) := B1_1.c 1 (of_decide_eq_true rfl)
          have c6_B1_2 : w1.cell? ⟨w.heap.size + 1, 2, none⟩ = some (.int .i64 0) := B1_1.c 2 (of_decide_eq_true rfl)
          have g6_B1_0 := B1_1.f 0 (of_decide_eq_true rfl)
          have g6_B1_1 := B1_1.f 1 (of_decide_eq_true rfl)
          have g6_B1_2 := B1_1.f 2 (of_decide_eq_true rfl)
          have l6_B1 := B1_1.lies
          go_wp2_with (with_reducible refine post_stop ?_)
          refine Stop.mk ?_
          clear c6_B1_0 c6_B1_1 c6_B1_2 g6_B1_0 g6_B1_1 g6_B1_2 l6_B1
          refine bodyPost_ret (v := .agg #[.int .i64 (-219902325555), .int .i64 219902325555, .int .i64 219902325555]) (results_arr Try.results10 ((((B1_1.put 0 (of_decide_eq_true rfl) (.int .i64 (-219902325555)) [.int .i64 (-219902325555), .int .i64 0, .int .i64 0] rfl).put 1 (of_decide_eq_true rfl) (.int .i64 219902325555) [.int .i64 (-219902325555), .int .i64 219902325555, .int .i64 0] rfl).put 2 (of_decide_eq_true rfl) (.int .i64 219902325555) [.int .i64 (-219902325555), .int .i64 219902325555, .int .i64 219902325555] rfl).alloc _) rfl (by kernel_rfl) (by kernel_rfl)) rfl ?_
          have hs : bDip1 bad d = (((-219902325555), 219902325555, 219902325555), r1.2) := by unfold bDip1; simp only [E1.out]; rw [show clampS r1.1.1 = (-219902325555) by unfold clampS; omega, show clampS r1.1.2.1 = 219902325555 by unfold clampS; omega, show clampS r1.1.2.2 = 219902325555 by unfold clampS; omega]
          rw [hs]
          exact ⟨rfl, ((((f1.new (w.heap.size + 1) 0 (Nat.ne_of_lt y2_BF) (.int .i64 (-219902325555))).new (w.heap.size + 1) 1 (Nat.ne_of_lt y2_BF) (.int .i64 219902325555)).new (w.heap.size + 1) 2 (Nat.ne_of_lt y2_BF) (.int .i64 219902325555)).alloc _), ((((K1.new _ _ (by omega) _).new _ _ (by omega) _).new _ _ (by omega) _).al _)⟩
        · have Hhc4 : Hid (¬ 219902325555 < r1.1.2.2) := hc4
          by_cases hc5 : (-219902325555) < r1.1.2.2
          · have Hhc5 : Hid ((-219902325555) < r1.1.2.2) := hc5
            go_wp2_with fail
            rw [rounds_succ]
            have c6_B1_0 : w1.cell? ⟨w.heap.size + 1, 0, none⟩ = some (.int .i64 0) := B1_1.c 0 (of_decide_eq_true rfl)
            have c6_B1_1 : w1.cell? ⟨w.heap.size + 1, 1, none⟩ = some (.int .i64 0) := B1_1.c 1 (of_decide_eq_true rfl)
            have c6_B1_2 : w1.cell? ⟨w.heap.size + 1, 2, none⟩ = some (.int .i64 0) := B1_1.c 2 (of_decide_eq_true rfl)
            have g6_B1_0 := B1_1.f 0 (of_decide_eq_true rfl)
            have g6_B1_1 := B1_1.f 1 (of_decide_eq_true rfl)
            have g6_B1_2 := B1_1.f 2 (of_decide_eq_true rfl)
            have l6_B1 := B1_1.lies
            go_wp2_with (with_reducible refine post_stop ?_)
            refine Stop.mk ?_
            clear c6_B1_0 c6_B1_1 c6_B1_2 g6_B1_0 g6_B1_1 g6_B1_2 l6_B1
            refine bodyPost_ret (v := .agg #[.int .i64 (-219902325555), .int .i64 219902325555, .int .i64 r1.1.2.2]) (results_arr Try.results10 ((((B1_1.put 0 (of_decide_eq_true rfl) (.int .i64 (-219902325555)) [.int .i64 (-219902325555), .int .i64 0, .int .i64 0] rfl).put 1 (of_decide_eq_true rfl) (.int .i64 219902325555) [.int .i64 (-219902325555), .int .i64 219902325555, .int .i64 0] rfl).put 2 (of_decide_eq_true rfl) (.int .i64 r1.1.2.2) [.int .i64 (-219902325555), .int .i64 219902325555, .int .i64 r1.1.2.2] rfl).alloc _) rfl (by kernel_rfl) (by kernel_rfl)) rfl ?_
            have hs : bDip1 bad d = (((-219902325555), 219902325555, r1.1.2.2), r1.2) := by unfold bDip1; simp only [E1.out]; rw [show clampS r1.1.1 = (-219902325555) by unfold clampS; omega, show clampS r1.1.2.1 = 219902325555 by unfold clampS; omega, show clampS r1.1.2.2 = r1.1.2.2 by unfold clampS; omega]
            rw [hs]
            exact ⟨rfl, ((((f1.new (w.heap.size + 1) 0 (Nat.ne_of_lt y2_BF) (.int .i64 (-219902325555))).new (w.heap.size + 1) 1 (Nat.ne_of_lt y2_BF) (.int .i64 219902325555)).new (w.heap.size + 1) 2 (Nat.ne_of_lt y2_BF) (.int .i64 r1.1.2.2)).alloc _), ((((K1.new _ _ (by omega) _).new _ _ (by omega) _).new _ _ (by omega) _).al _)⟩
          · have Hhc5 : Hid (¬ (-219902325555) < r1.1.2.2) := hc5
            go_wp2_with fail
            rw [rounds_succ]
            have c6_B1_0 : w1.cell? ⟨w.heap.size + 1, 0, none⟩ = some (.int .i64 0) := B1_1.c 0 (of_decide_eq_true rfl)
            have c6_B1_1 : w1.cell? ⟨w.heap.size + 1, 1, none⟩ = some (.int .i64 0) := B1_1.c 1 (of_decide_eq_true rfl)
            have c6_B1_2 : w1.cell? ⟨w.heap.size + 1, 2, none⟩ = some (.int .i64 0) := B1_1.c 2 (of_decide_eq_true rfl)
            have g6_B1_0 := B1_1.f 0 (of_decide_eq_true rfl)
            have g6_B1_1 := B1_1.f 1 (of_decide_eq_true rfl)
            have g6_B1_2 := B1_1.f 2 (of_decide_eq_true rfl)
            have l6_B1 := B1_1.lies
            go_wp2_with (with_reducible refine post_stop ?_)
            refine Stop.mk ?_
            clear c6_B1_0 c6_B1_1 c6_B1_2 g6_B1_0 g6_B1_1 g6_B1_2 l6_B1
            refine bodyPost_ret (v := .agg #[.int .i64 (-219902325555), .int .i64 219902325555, .int .i64 (-219902325555)]) (results_arr Try.results10 ((((B1_1.put 0 (of_decide_eq_true rfl) (.int .i64 (-219902325555)) [.int .i64 (-219902325555), .int .i64 0, .int .i64 0] rfl).put 1 (of_decide_eq_true rfl) (.int .i64 219902325555) [.int .i64 (-219902325555), .int .i64 219902325555, .int .i64 0] rfl).put 2 (of_decide_eq_true rfl) (.int .i64 (-219902325555)) [.int .i64 (-219902325555), .int .i64 219902325555, .int .i64 (-219902325555)] rfl).alloc _) rfl (by kernel_rfl) (by kernel_rfl)) rfl ?_
            have hs : bDip1 bad d = (((-219902325555), 219902325555, (-219902325555)), r1.2) := by unfold bDip1; simp only [E1.out]; rw [show clampS r1.1.1 = (-219902325555) by unfold clampS; omega, show clampS r1.1.2.1 = 219902325555 by unfold clampS; omega, show clampS r1.1.2.2 = (-219902325555) by unfold clampS; omega]
            rw [hs]
            exact ⟨rfl, ((((f1.new (w.heap.size + 1) 0 (Nat.ne_of_lt y2_BF) (.int .i64 (-219902325555))).new (w.heap.size + 1) 1 (Nat.ne_of_lt y2_BF) (.int .i64 219902325555)).new (w.heap.size + 1) 2 (Nat.ne_of_lt y2_BF) (.int .i64 (-219902325555))).alloc _), ((((K1.new _ _ (by omega) _).new _ _ (by omega) _).new _ _ (by omega) _).al _)⟩
      · have Hhc3 : Hid (¬ 219902325555 < r1.1.2.1) := hc3
        by_cases hc4 : (-219902325555) < r1.1.2.1
        · have Hhc4 : Hid ((-219902325555) < r1.1.2.1) := hc4
          go_wp2_with fail
          rw [rounds_succ]
          by_cases hc5 : 219902325555 < r1.1.2.2
          · have Hhc5 : Hid (219902325555 < r1.1.2.2) := hc5
            go_wp2_with fail
            rw [rounds_succ]
            have c6_B1_0 : w1.cell? ⟨w.heap.size + 1, 0, none⟩ = some (.int .i64 0) := B1_1.c 0 (of_decide_eq_true rfl)
            have c6_B1_1 : w1.cell? ⟨w.heap.size + 1, 1, none⟩ = some (.int .i64 0) := B1_1.c 1 (of_decide_eq_true rfl)
            have c6_B1_2 : w1.cell? ⟨w.heap.size + 1, 2, none⟩ = some (.int .i64 0) := B1_1.c 2 (of_decide_eq_true rfl)
            have g6_B1_0 := B1_1.f 0 (of_decide_eq_true rfl)
            have g6_B1_1 := B1_1.f 1 (of_decide_eq_true rfl)
            have g6_B1_2 := B1_1.f 2 (of_decide_eq_true rfl)
            have l6_B1 := B1_1.lies
            go_wp2_with (with_reducible refine post_stop ?_)
            refine Stop.mk ?_
            clear c6_B1_0 c6_B1_1 c6_B1_2 g6_B1_0 g6_B1_1 g6_B1_2 l6_B1
            refine bodyPost_ret (v := .agg #[.int .i64 (-219902325555), .int .i64 r1.1.2.1, .int .i64 219902325555]) (results_arr Try.results10 ((((B1_1.put 0 (of_decide_eq_true rfl) (.int .i64 (-219902325555)) [.int .i64 (-219902325555), .int .i64 0, .int .i64 0] rfl).put 1 (of_decide_eq_true rfl) (.int .i64 r1.1.2.1) [.int .i64 (-219902325555), .int .i64 r1.1.2.1, .int .i64 0] rfl).put 2 (of_decide_eq_true rfl) (.int .i64 219902325555) [.int .i64 (-219902325555), .int .i64 r1.1.2.1, .int .i64 219902325555] rfl).alloc _) rfl (by kernel_rfl) (by kernel_rfl)) rfl ?_
            have hs : bDip1 bad d = (((-219902325555), r1.1.2.1, 219902325555), r1.2) := by unfold bDip1; simp only [E1.out]; rw [show clampS r1.1.1 = (-219902325555) by unfold clampS; omega, show clampS r1.1.2.1 = r1.1.2.1 by unfold clampS; omega, show clampS r1.1.2.2 = 219902325555 by unfold clampS; omega]
            rw [hs]
            exact ⟨rfl, ((((f1.new (w.heap.size + 1) 0 (Nat.ne_of_lt y2_BF) (.int .i64 (-219902325555))).new (w.heap.size + 1) 1 (Nat.ne_of_lt y2_BF) (.int .i64 r1.1.2.1)).new (w.heap.size + 1) 2 (Nat.ne_of_lt y2_BF) (.int .i64 219902325555)).alloc _), ((((K1.new _ _ (by omega) _).new _ _ (by omega) _).new _ _ (by omega) _).al _)⟩
          · have Hhc5 : Hid (¬ 219902325555 < r1.1.2.2) := hc5
            by_cases hc6 : (-219902325555) < r1.1.2.2
            · have Hhc6 : Hid ((-219902325555) < r1.1.2.2) := hc6
              go_wp2_with fail
              rw [rounds_succ]
              have c6_B1_0 : w1.cell? ⟨w.heap.size + 1, 0, none⟩ = some (.int .i64 0) := B1_1.c 0 (of_decide_eq_true rfl)
              have c6_B1_1 : w1.cell? ⟨w.heap.size + 1, 1, none⟩ = some (.int .i64 0) := B1_1.c 1 (of_decide_eq_true rfl)
              have c6_B1_2 : w1.cell? ⟨w.heap.size + 1, 2, none⟩ = some (.int .i64 0) := B1_1.c 2 (of_decide_eq_true rfl)
              have g6_B1_0 := B1_1.f 0 (of_decide_eq_true rfl)
              have g6_B1_1 := B1_1.f 1 (of_decide_eq_true rfl)
              have g6_B1_2 := B1_1.f 2 (of_decide_eq_true rfl)
              have l6_B1 := B1_1.lies
              go_wp2_with (with_reducible refine post_stop ?_)
              refine Stop.mk ?_
              clear c6_B1_0 c6_B1_1 c6_B1_2 g6_B1_0 g6_B1_1 g6_B1_2 l6_B1
              refine bodyPost_ret (v := .agg #[.int .i64 (-219902325555), .int .i64 r1.1.2.1, .int .i64 r1.1.2.2]) (results_arr Try.results10 ((((B1_1.put 0 (of_decide_eq_true rfl) (.int .i64 (-219902325555)) [.int .i64 (-219902325555), .int .i64 0, .int .i64 0] rfl).put 1 (of_decide_eq_true rfl) (.int .i64 r1.1.2.1) [.int .i64 (-219902325555), .int .i64 r1.1.2.1, .int .i64 0] rfl).put 2 (of_decide_eq_true rfl) (.int .i64 r1.1.2.2) [.int .i64 (-219902325555), .int .i64 r1.1.2.1, .int .i64 r1.1.2.2] rfl).alloc _) rfl (by kernel_rfl) (by kernel_rfl)) rfl ?_
              have hs : bDip1 bad d = (((-219902325555), r1.1.2.1, r1.1.2.2), r1.2) := by unfold bDip1; simp only [E1.out]; rw [show clampS r1.1.1 = (-219902325555) by unfold clampS; omega, show clampS r1.1.2.1 = r1.1.2.1 by unfold clampS; omega, show clampS r1.1.2.2 = r1.1.2.2 by unfold clampS; omega]
              rw [hs]
              exact ⟨rfl, ((((f1.new (w.heap.size + 1) 0 (Nat.ne_of_lt y2_BF) (.int .i64 (-219902325555))).new (w.heap.size + 1) 1 (Nat.ne_of_lt y2_BF) (.int .i64 r1.1.2.1)).new (w.heap.size + 1) 2 (Nat.ne_of_lt y2_BF) (.int .i64 r1.1.2.2)).alloc _), ((((K1.new _ _ (by omega) _).new _ _ (by omega) _).new _ _ (by omega) _).al _)⟩
            · have Hhc6 : Hid (¬ (-219902325555) < r1.1.2.2) := hc6
              go_wp2_with fail
              rw [rounds_succ]
              have c6_B1_0 : w1.cell? ⟨w.heap.size + 1, 0, none⟩ = some (.int .i64 0) := B1_1.c 0 (of_decide_eq_true rfl)
              have c6_B1_1 : w1.cell? ⟨w.heap.size + 1, 1, none⟩ = some (.int .i64 0) := B1_1.c 1 (of_decide_eq_true rfl)
              have c6_B1_2 : w1.cell? ⟨w.heap.size + 1, 2, none⟩ = some (.int .i64 0) := B1_1.c 2 (of_decide_eq_true rfl)
              have g6_B1_0 := B1_1.f 0 (of_decide_eq_true rfl)
              have g6_B1_1 := B1_1.f 1 (of_decide_eq_true rfl)
              have g6_B1_2 := B1_1.f 2 (of_decide_eq_true rfl)
              have l6_B1 := B1_1.lies
              go_wp2_with (with_reducible refine post_stop ?_)
              refine Stop.mk ?_
              clear c6_B1_0 c6_B1_1 c6_B1_2 g6_B1_0 g6_B1_1 g6_B1_2 l6_B1
              refine bodyPost_ret (v := .agg #[.int .i64 (-219902325555), .int .i64 r1.1.2.1, .int .i64 (-219902325555)]) (results_arr Try.results10 ((((B1_1.put 0 (of_decide_eq_true rfl) (.int .i64 (-219902325555)) [.int .i64 (-219902325555), .int .i64 0, .int .i64 0] rfl).put 1 (of_decide_eq_true rfl) (.int .i64 r1.1.2.1) [.int .i64 (-219902325555), .int .i64 r1.1.2.1, .int .i64 0] rfl).put 2 (of_decide_eq_true rfl) (.int .i64 (-219902325555)) [.int .i64 (-219902325555), .int .i64 r1.1.2.1, .int .i64 (-219902325555)] rfl).alloc _) rfl (by kernel_rfl) (by kernel_rfl)) rfl ?_
              have hs : bDip1 bad d = (((-219902325555), r1.1.2.1, (-219902325555)), r1.2) := by unfold bDip1; simp only [E1.out]; rw [show clampS r1.1.1 = (-219902325555) by unfold clampS; omega, show clampS r1.1.2.1 = r1.1.2.1 by unfold clampS; omega, show clampS r1.1.2.2 = (-219902325555) by unfold clampS; omega]
              rw [hs]
              exact ⟨rfl, ((((f1.new (w.heap.size + 1) 0 (Nat.ne_of_lt y2_BF) (.int .i64 (-219902325555))).new (w.heap.size + 1) 1 (Nat.ne_of_lt y2_BF) (.int .i64 r1.1.2.1)).new (w.heap.size + 1) 2 (Nat.ne_of_lt y2_BF) (.int .i64 (-219902325555))).alloc _), ((((K1.new _ _ (by omega) _).new _ _ (by omega) _).new _ _ (by omega) _).al _)⟩
        · have Hhc4 : Hid (¬ (-219902325555) < r1.1.2.1) := hc4
          go_wp2_with fail
          rw [rounds_succ]
          by_cases hc5 : 219902325555 < r1.1.2.2
          · have Hhc5 : Hid (219902325555 < r1.1.2.2) := hc5
            go_wp2_with fail
            rw [rounds_succ]
            have c6_B1_0 : w1.cell? ⟨w.heap.size + 1, 0, none⟩ = some (.int .i64 0) := B1_1.c 0 (of_decide_eq_true rfl)
            have c6_B1_1 : w1.cell? ⟨w.heap.size + 1, 1, none⟩ = some (.int .i64 0) := B1_1.c 1 (of_decide_eq_true rfl)
            have c6_B1_2 : w1.cell? ⟨w.heap.size + 1, 2, none⟩ = some (.int .i64 0) := B1_1.c 2 (of_decide_eq_true rfl)
            have g6_B1_0 := B1_1.f 0 (of_decide_eq_true rfl)
            have g6_B1_1 := B1_1.f 1 (of_decide_eq_true rfl)
            have g6_B1_2 := B1_1.f 2 (of_decide_eq_true rfl)
            have l6_B1 := B1_1.lies
            go_wp2_with (with_reducible refine post_stop ?_)
            refine Stop.mk ?_
            clear c6_B1_0 c6_B1_1 c6_B1_2 g6_B1_0 g6_B1_1 g6_B1_2 l6_B1
            refine bodyPost_ret (v := .agg #[.int .i64 (-219902325555), .int .i64 (-219902325555), .int .i64 219902325555]) (results_arr Try.results10 ((((B1_1.put 0 (of_decide_eq_true rfl) (.int .i64 (-219902325555)) [.int .i64 (-219902325555), .int .i64 0, .int .i64 0] rfl).put 1 (of_decide_eq_true rfl) (.int .i64 (-219902325555)) [.int .i64 (-219902325555), .int .i64 (-219902325555), .int .i64 0] rfl).put 2 (of_decide_eq_true rfl) (.int .i64 219902325555) [.int .i64 (-219902325555), .int .i64 (-219902325555), .int .i64 219902325555] rfl).alloc _) rfl (by kernel_rfl) (by kernel_rfl)) rfl ?_
            have hs : bDip1 bad d = (((-219902325555), (-219902325555), 219902325555), r1.2) := by unfold bDip1; simp only [E1.out]; rw [show clampS r1.1.1 = (-219902325555) by unfold clampS; omega, show clampS r1.1.2.1 = (-219902325555) by unfold clampS; omega, show clampS r1.1.2.2 = 219902325555 by unfold clampS; omega]
            rw [hs]
            exact ⟨rfl, ((((f1.new (w.heap.size + 1) 0 (Nat.ne_of_lt y2_BF) (.int .i64 (-219902325555))).new (w.heap.size + 1) 1 (Nat.ne_of_lt y2_BF) (.int .i64 (-219902325555))).new (w.heap.size + 1) 2 (Nat.ne_of_lt y2_BF) (.int .i64 219902325555)).alloc _), ((((K1.new _ _ (by omega) _).new _ _ (by omega) _).new _ _ (by omega) _).al _)⟩
          · have Hhc5 : Hid (¬ 219902325555 < r1.1.2.2) := hc5
            by_cases hc6 : (-219902325555) < r1.1.2.2
            · have Hhc6 : Hid ((-219902325555) < r1.1.2.2) := hc6
              go_wp2_with fail
              rw [rounds_succ]
              have c6_B1_0 : w1.cell? ⟨w.heap.size + 1, 0, none⟩ = some (.int .i64 0) := B1_1.c 0 (of_decide_eq_true rfl)
              have c6_B1_1 : w1.cell? ⟨w.heap.size + 1, 1, none⟩ = some (.int .i64 0) := B1_1.c 1 (of_decide_eq_true rfl)
              have c6_B1_2 : w1.cell? ⟨w.heap.size + 1, 2, none⟩ = some (.int .i64 0) := B1_1.c 2 (of_decide_eq_true rfl)
              have g6_B1_0 := B1_1.f 0 (of_decide_eq_true rfl)
              have g6_B1_1 := B1_1.f 1 (of_decide_eq_true rfl)
              have g6_B1_2 := B1_1.f 2 (of_decide_eq_true rfl)
              have l6_B1 := B1_1.lies
              go_wp2_with (with_reducible refine post_stop ?_)
              refine Stop.mk ?_
              clear c6_B1_0 c6_B1_1 c6_B1_2 g6_B1_0 g6_B1_1 g6_B1_2 l6_B1
              refine bodyPost_ret (v := .agg #[.int .i64 (-219902325555), .int .i64 (-219902325555), .int .i64 r1.1.2.2]) (results_arr Try.results10 ((((B1_1.put 0 (of_decide_eq_true rfl) (.int .i64 (-219902325555)) [.int .i64 (-219902325555), .int .i64 0, .int .i64 0] rfl).put 1 (of_decide_eq_true rfl) (.int .i64 (-219902325555)) [.int .i64 (-219902325555), .int .i64 (-219902325555), .int .i64 0] rfl).put 2 (of_decide_eq_true rfl) (.int .i64 r1.1.2.2) [.int .i64 (-219902325555), .int .i64 (-219902325555), .int .i64 r1.1.2.2] rfl).alloc _) rfl (by kernel_rfl) (by kernel_rfl)) rfl ?_
              have hs : bDip1 bad d = (((-219902325555), (-219902325555), r1.1.2.2), r1.2) := by unfold bDip1; simp only [E1.out]; rw [show clampS r1.1.1 = (-219902325555) by unfold clampS; omega, show clampS r1.1.2.1 = (-219902325555) by unfold clampS; omega, show clampS r1.1.2.2 = r1.1.2.2 by unfold clampS; omega]
              rw [hs]
              exact ⟨rfl, ((((f1.new (w.heap.size + 1) 0 (Nat.ne_of_lt y2_BF) (.int .i64 (-219902325555))).new (w.heap.size + 1) 1 (Nat.ne_of_lt y2_BF) (.int .i64 (-219902325555))).new (w.heap.size + 1) 2 (Nat.ne_of_lt y2_BF) (.int .i64 r1.1.2.2)).alloc _), ((((K1.new _ _ (by omega) _).new _ _ (by omega) _).new _ _ (by omega) _).al _)⟩
            · have Hhc6 : Hid (¬ (-219902325555) < r1.1.2.2) := hc6
              go_wp2_with fail
              rw [rounds_succ]
              have c6_B1_0 : w1.cell? ⟨w.heap.size + 1, 0, none⟩ = some (.int .i64 0) := B1_1.c 0 (of_decide_eq_true rfl)
              have c6_B1_1 : w1.cell? ⟨w.heap.size + 1, 1, none⟩ = some (.int .i64 0) := B1_1.c 1 (of_decide_eq_true rfl)
              have c6_B1_2 : w1.cell? ⟨w.heap.size + 1, 2, none⟩ = some (.int .i64 0) := B1_1.c 2 (of_decide_eq_true rfl)
              have g6_B1_0 := B1_1.f 0 (of_decide_eq_true rfl)
              have g6_B1_1 := B1_1.f 1 (of_decide_eq_true rfl)
              have g6_B1_2 := B1_1.f 2 (of_decide_eq_true rfl)
              have l6_B1 := B1_1.lies
              go_wp2_with (with_reducible refine post_stop ?_)
              refine Stop.mk ?_
              clear c6_B1_0 c6_B1_1 c6_B1_2 g6_B1_0 g6_B1_1 g6_B1_2 l6_B1
              refine bodyPost_ret (v := .agg #[.int .i64 (-219902325555), .int .i64 (-219902325555), .int .i64 (-219902325555)]) (results_arr Try.results10 ((((B1_1.put 0 (of_decide_eq_true rfl) (.int .i64 (-219902325555)) [.int .i64 (-219902325555), .int .i64 0, .int .i64 0] rfl).put 1 (of_decide_eq_true rfl) (.int .i64 (-219902325555)) [.int .i64 (-219902325555), .int .i64 (-219902325555), .int .i64 0] rfl).put 2 (of_decide_eq_true rfl) (.int .i64 (-219902325555)) [.int .i64 (-219902325555), .int .i64 (-219902325555), .int .i64 (-219902325555)] rfl).alloc _) rfl (by kernel_rfl) (by kernel_rfl)) rfl ?_
              have hs : bDip1 bad d = (((-219902325555), (-219902325555), (-219902325555)), r1.2) := by unfold bDip1; simp only [E1.out]; rw [show clampS r1.1.1 = (-219902325555) by unfold clampS; omega, show clampS r1.1.2.1 = (-219902325555) by unfold clampS; omega, show clampS r1.1.2.2 = (-219902325555) by unfold clampS; omega]
              rw [hs]
              exact ⟨rfl, ((((f1.new (w.heap.size + 1) 0 (Nat.ne_of_lt y2_BF) (.int .i64 (-219902325555))).new (w.heap.size + 1) 1 (Nat.ne_of_lt y2_BF) (.int .i64 (-219902325555))).new (w.heap.size + 1) 2 (Nat.ne_of_lt y2_BF) (.int .i64 (-219902325555))).alloc _), ((((K1.new _ _ (by omega) _).new _ _ (by omega) _).new _ _ (by omega) _).al _)⟩
set_option maxRecDepth 100000 in
set_option maxHeartbeats 2000000 in
theorem bDip_off (b : Nat) (bad : Bool) (d : D7) (w : World) (hw : Fl b bad w) :
    Calls Try.prog 10 #[.pointer (some ⟨b, 0, none⟩), .agg #[.bool false, .int .i64 d.1, .int .i64 d.2.1, .int .i64 d.2.2.1, .int .i64 d.2.2.2.1, .int .i64 d.2.2.2.2.1, .int .i64 d.2.2.2.2.2.1, .int .i64 d.2.2.2.2.2.2]] w fun e w' => e = .returned (.agg #[.int .i64 ((bDip0 bad d).1.1), .int .i64 ((bDip0 bad d).1.2.1), .int .i64 ((bDip0 bad d).1.2.2)]) ∧ Fl b (bDip0 bad d).2 w' ∧ Kept b w w' := by
  have hl := hw.lies
  go_enter Try.func10, Try.ntmps10
  have y1_BF : b < w.heap.size := hw.lies
  have y2_BF : b < w.heap.size + 1 := (Nat.lt_succ_of_lt hw.lies)
  have y2_B0 : w.heap.size < w.heap.size + 1 := (Nat.lt_succ_self _)
  go_wp2_with (with_reducible refine post_stop ?_)
  refine Stop.mk ?_
  refine bodyPost_ret (v := .agg #[.int .i64 0, .int .i64 0, .int .i64 0]) (results_arr Try.results10 (Arr_at _ _ [.int .i64 0, .int .i64 0, .int .i64 0] _ (by simp)) rfl (by kernel_rfl) (by kernel_rfl)) rfl ?_
  have hs : bDip0 bad d = ((0, 0, 0), bad) := rfl
  rw [hs]
  exact ⟨rfl, ((hw.alloc _).alloc _), (((Kept.refl b w).al _).al _)⟩
theorem bDip_any (b : Nat) (bad : Bool) (d : Dr) (w : World) (hw : Fl b bad w) :
    Calls Try.prog 10 #[.pointer (some ⟨b, 0, none⟩), .agg #[.bool d.1, .int .i64 d.2.1, .int .i64 d.2.2.1, .int .i64 d.2.2.2.1, .int .i64 d.2.2.2.2.1, .int .i64 d.2.2.2.2.2.1, .int .i64 d.2.2.2.2.2.2.1, .int .i64 d.2.2.2.2.2.2.2]] w fun e w' => e = .returned (.agg #[.int .i64 ((bDipS bad d).1.1), .int .i64 ((bDipS bad d).1.2.1), .int .i64 ((bDipS bad d).1.2.2)]) ∧ Fl b (bDipS bad d).2 w' ∧ Kept b w w' := by
  obtain ⟨o, d⟩ := d
  cases o
  · exact bDip_off b bad d w hw
  · exact bDip_on b bad d w hw
end Go.Proofs.Ytibjmmlnkgapeaa
