/-
  The walk of the reference's Dipole, for the seat Ytibjmmlnkgapeaa. (Made by mkbdot.py.)
-/
import Derived.Test.YtibjmmlnkgapeaaBdSpec
import Derived.Test.YtibjmmlnkgapeaaRMeth
import Derived.Test.YtibjmmlnkgapeaaVFold
import Derived.Test.YtibjmmlnkgapeaaStop
import Derived.Handy
import Derived.Deep.RegionHeld3
namespace Go.Proofs.Ytibjmmlnkgapeaa
open Go.RowKit

set_option maxRecDepth 100000 in
set_option maxHeartbeats 2000000 in
theorem rDip_on (b : Nat) (bad : Bool) (d : D7) (w : World) (hw : Fl b bad w) :
    Calls Try.prog 11 #[.pointer (some ⟨b, 0, none⟩), .agg #[.bool true, .int .i64 d.1, .int .i64 d.2.1, .int .i64 d.2.2.1, .int .i64 d.2.2.2.1, .int .i64 d.2.2.2.2.1, .int .i64 d.2.2.2.2.2.1, .int .i64 d.2.2.2.2.2.2]] w fun e w' => e = .returned (.agg #[.int .i64 ((rDip1 bad d).1.1), .int .i64 ((rDip1 bad d).1.2.1), .int .i64 ((rDip1 bad d).1.2.2)]) ∧ Fl b (rDip1 bad d).2 w' ∧ Kept b w w' := by
  have hl := hw.lies
  go_enter Try.func11, Try.ntmps11
  have y1_BF : b < w.heap.size := hw.lies
  have y2_BF : b < w.heap.size + 1 := (Nat.lt_succ_of_lt hw.lies)
  have y2_B0 : w.heap.size < w.heap.size + 1 := (Nat.lt_succ_self _)
  have y3_BF : b < w.heap.size + 1 + 1 := (Nat.lt_succ_of_lt (Nat.lt_succ_of_lt hw.lies))
  have y3_B0 : w.heap.size < w.heap.size + 1 + 1 := (Nat.lt_succ_of_lt (Nat.lt_succ_self _))
  have y3_B1 : w.heap.size + 1 < w.heap.size + 1 + 1 := (Nat.lt_succ_self _)
  go_wp2_with fail
  refine wp_loop_rounds 40 ?_
  rw [rounds_succ]
  go_wp2_with fail
  refine (rMul_any b bad d.2.2.2.2.1 (-274877906944) _ (((hw.alloc _).alloc _).alloc _)).mono ?_
  rintro e w1 ⟨rfl, f1, k1⟩
  generalize e1 : mulS bad d.2.2.2.2.1 (-274877906944) = r1 at f1 ⊢
  have E1 : Hid _ := e1
  clear e1
  have K1 : Kept b w w1 := Kept.trans ((((Kept.refl b w).al _).al _).al _) k1
  have B0_1 : Arr w.heap.size [.bool true, .int .i64 d.1, .int .i64 d.2.1, .int .i64 d.2.2.1, .int .i64 d.2.2.2.1, .int .i64 d.2.2.2.2.1, .int .i64 d.2.2.2.2.2.1, .int .i64 d.2.2.2.2.2.2] w1 := (((Arr_at _ _ [.bool true, .int .i64 d.1, .int .i64 d.2.1, .int .i64 d.2.2.1, .int .i64 d.2.2.2.1, .int .i64 d.2.2.2.2.1, .int .i64 d.2.2.2.2.2.1, .int .i64 d.2.2.2.2.2.2] _ (by simp)).alloc _).alloc _).kept k1 (Nat.ne_of_gt y1_BF)
  have B1_1 : Arr (w.heap.size + 1) [.int .i64 0, .int .i64 0, .int .i64 0] w1 := ((Arr_at _ _ [.int .i64 0, .int .i64 0, .int .i64 0] _ (by simp)).alloc _).kept k1 (Nat.ne_of_gt y2_BF)
  have B2_1 : Arr (w.heap.size + 1 + 1) [.int .i64 0, .int .i64 0, .int .i64 0] w1 := (Arr_at _ _ [.int .i64 0, .int .i64 0, .int .i64 0] _ (by simp)).kept k1 (Nat.ne_of_gt y3_BF)
  have z1 := B2_1.lies
  clear k1
  by_cases hc1 : r1.1 > 219902325555
  · have Hhc1 : Hid (r1.1 > 219902325555) := hc1
    have c3_B2_0 : w1.cell? ⟨w.heap.size + 1 + 1, 0, none⟩ = some (.int .i64 0) := B2_1.c 0 (of_decide_eq_true rfl)
    have g3_B2_0 := B2_1.f 0 (of_decide_eq_true rfl)
    go_wp2_with fail
    clear c3_B2_0 g3_B2_0
    refine rounds_letter (S := fun w' => Kept b w w' ∧ Fl b r1.2 w' ∧ Arr w.heap.size [.bool true, .int .i64 d.1, .int .i64 d.2.1, .int .i64 d.2.2.1, .int .i64 d.2.2.2.1, .int .i64 d.2.2.2.2.1, .int .i64 d.2.2.2.2.2.1, .int .i64 d.2.2.2.2.2.2] w' ∧ Arr (w.heap.size + 1) [.int .i64 0, .int .i64 0, .int .i64 0] w' ∧ Arr (w.heap.size + 1 + 1) [.int .i64 219902325555, .int .i64 0, .int .i64 0] w') ⟨(K1.new _ _ (by omega) _), (f1.new (w.heap.size + 1 + 1) 0 (Nat.ne_of_lt y3_BF) (.int .i64 219902325555)), (B0_1.new (w.heap.size + 1 + 1) 0 (Nat.ne_of_lt y3_B0) (.int .i64 219902325555)), (B1_1.new (w.heap.size + 1 + 1) 0 (Nat.ne_of_lt y3_B1) (.int .i64 219902325555)), (B2_1.put 0 (of_decide_eq_true rfl) (.int .i64 219902325555) [.int .i64 219902325555, .int .i64 0, .int .i64 0] rfl)⟩ ?_
    rintro w2 ⟨K2, BF_2, B0_2, B1_2, B2_2⟩
    have z2 := B2_2.lies
    clear K1 f1 B0_1 B1_1 B2_1
    rw [rounds_succ]
    have c4_B0_6 : w2.cell? ⟨w.heap.size, 6, none⟩ = some (.int .i64 d.2.2.2.2.2.1) := B0_2.c 6 (of_decide_eq_true rfl)
    go_wp2_with fail
    refine (rMul_any b r1.2 d.2.2.2.2.2.1 (-274877906944) _ BF_2).mono ?_
    rintro e w3 ⟨rfl, f3, k3⟩
    generalize e3 : mulS r1.2 d.2.2.2.2.2.1 (-274877906944) = r3 at f3 ⊢
    have E3 : Hid _ := e3
    clear e3
    have K3 : Kept b w w3 := Kept.trans K2 k3
    have B0_3 : Arr w.heap.size [.bool true, .int .i64 d.1, .int .i64 d.2.1, .int .i64 d.2.2.1, .int .i64 d.2.2.2.1, .int .i64 d.2.2.2.2.1, .int .i64 d.2.2.2.2.2.1, .int .i64 d.2.2.2.2.2.2] w3 := B0_2.kept k3 (Nat.ne_of_gt y1_BF)
    have B1_3 : Arr (w.heap.size + 1) [.int .i64 0, .int .i64 0, .int .i64 0] w3 := B1_2.kept k3 (Nat.ne_of_gt y2_BF)
    have B2_3 : Arr (w.heap.size + 1 + 1) [.int .i64 219902325555, .int .i64 0, .int .i64 0] w3 := B2_2.kept k3 (Nat.ne_of_gt y3_BF)
    have z3 := B2_3.lies
    clear c4_B0_6 K2 BF_2 B0_2 B1_2 B2_2 k3
    by_cases hc2 : r3.1 > 219902325555
    · have Hhc2 : Hid (r3.1 > 219902325555) := hc2
      have c5_B2_1 : w3.cell? ⟨w.heap.size + 1 + 1, 1, none⟩ = some (.int .i64 0) := B2_3.c 1 (of_decide_eq_true rfl)
      have g5_B2_1 := B2_3.f 1 (of_decide_eq_true rfl)
      go_wp2_with fail
      clear c5_B2_1 g5_B2_1
      refine rounds_letter (S := fun w' => Kept b w w' ∧ Fl b r3.2 w' ∧ Arr w.heap.size [.bool true, .int .i64 d.1, .int .i64 d.2.1, .int .i64 d.2.2.1, .int .i64 d.2.2.2.1, .int .i64 d.2.2.2.2.1, .int .i64 d.2.2.2.2.2.1, .int .i64 d.2.2.2.2.2.2] w' ∧ Arr (w.heap.size + 1) [.int .i64 0, .int .i64 0, .int .i64 0] w' ∧ Arr (w.heap.size + 1 + 1) [.int .i64 219902325555, .int .i64 219902325555, .int .i64 0] w') ⟨(K3.new _ _ (by omega) _), (f3.new (w.heap.size + 1 + 1) 1 (Nat.ne_of_lt y3_BF) (.int .i64 219902325555)), (B0_3.new (w.heap.size + 1 + 1) 1 (Nat.ne_of_lt y3_B0) (.int .i64 219902325555)), (B1_3.new (w.heap.size + 1 + 1) 1 (Nat.ne_of_lt y3_B1) (.int .i64 219902325555)), (B2_3.put 1 (of_decide_eq_true rfl) (.int .i64 219902325555) [.int .i64 219902325555, .int .i64 219902325555, .int .i64 0] rfl)⟩ ?_
      rintro w4 ⟨K4, BF_4, B0_4, B1_4, B2_4⟩
      have z4 := B2_4.lies
      clear K3 f3 B0_3 B1_3 B2_3
      rw [rounds_succ]
      have c6_B0_7 : w4.cell? ⟨w.heap.size, 7, none⟩ = some (.int .i64 d.2.2.2.2.2.2) := B0_4.c 7 (of_decide_eq_true rfl)
      go_wp2_with fail
      refine (rMul_any b r3.2 d.2.2.2.2.2.2 (-274877906944) _ BF_4).mono ?_
      rintro e w5 ⟨rfl, f5, k5⟩
      generalize e5 : mulS r3.2 d.2.2.2.2.2.2 (-274877906944) = r5 at f5 ⊢
      have E5 : Hid _ := e5
      clear e5
      have K5 : Kept b w w5 := Kept.trans K4 k5
      have B0_5 : Arr w.heap.size [.bool true, .int .i64 d.1, .int .i64 d.2.1, .int .i64 d.2.2.1, .int .i64 d.2.2.2.1, .int .i64 d.2.2.2.2.1, .int .i64 d.2.2.2.2.2.1, .int .i64 d.2.2.2.2.2.2] w5 := B0_4.kept k5 (Nat.ne_of_gt y1_BF)
      have B1_5 : Arr (w.heap.size + 1) [.int .i64 0, .int .i64 0, .int .i64 0] w5 := B1_4.kept k5 (Nat.ne_of_gt y2_BF)
      have B2_5 : Arr (w.heap.size + 1 + 1) [.int .i64 219902325555, .int .i64 219902325555, .int .i64 0] w5 := B2_4.kept k5 (Nat.ne_of_gt y3_BF)
      have z5 := B2_5.lies
      clear c6_B0_7 K4 BF_4 B0_4 B1_4 B2_4 k5
      by_cases hc3 : r5.1 > 219902325555
      · have Hhc3 : Hid (r5.1 > 219902325555) := hc3
        have c7_B2_2 : w5.cell? ⟨w.heap.size + 1 + 1, 2, none⟩ = some (.int .i64 0) := B2_5.c 2 (of_decide_eq_true rfl)
        have g7_B2_2 := B2_5.f 2 (of_decide_eq_true rfl)
        go_wp2_with fail
        clear c7_B2_2 g7_B2_2
        refine rounds_letter (S := fun w' => Kept b w w' ∧ Fl b r5.2 w' ∧ Arr w.heap.size [.bool true, .int .i64 d.1, .int .i64 d.2.1, .int .i64 d.2.2.1, .int .i64 d.2.2.2.1, .int .i64 d.2.2.2.2.1, .int .i64 d.2.2.2.2.2.1, .int .i64 d.2.2.2.2.2.2] w' ∧ Arr (w.heap.size + 1) [.int .i64 0, .int .i64 0, .int .i64 0] w' ∧ Arr (w.heap.size + 1 + 1) [.int .i64 219902325555, .int .i64 219902325555, .int .i64 219902325555] w') ⟨(K5.new _ _ (by omega) _), (f5.new (w.heap.size + 1 + 1) 2 (Nat.ne_of_lt y3_BF) (.int .i64 219902325555)), (B0_5.new (w.heap.size + 1 + 1) 2 (Nat.ne_of_lt y3_B0) (.int .i64 219902325555)), (B1_5.new (w.heap.size + 1 + 1) 2 (Nat.ne_of_lt y3_B1) (.int .i64 219902325555)), (B2_5.put 2 (of_decide_eq_true rfl) (.int .i64 219902325555) [.int .i64 219902325555, .int .i64 219902325555, .int .i64 219902325555] rfl)⟩ ?_
        rintro w6 ⟨K6, BF_6, B0_6, B1_6, B2_6⟩
        have z6 := B2_6.lies
        clear K5 f5 B0_5 B1_5 B2_5
        rw [rounds_succ]
        rcases Bool.eq_false_or_eq_true r5.2 with hc4 | hc4
        · have Hhc4 : Hid (r5.2 = true) := hc4
          have c8_B1_0 : w6.cell? ⟨w.heap.size + 1, 0, none⟩ = some (.int .i64 0) := B1_6.c 0 (of_decide_eq_true rfl)
          have c8_B1_1 : w6.cell? ⟨w.heap.size + 1, 1, none⟩ = some (.int .i64 0) := B1_6.c 1 (of_decide_eq_true rfl)
          have c8_B1_2 : w6.cell? ⟨w.heap.size + 1, 2, none⟩ = some (.int .i64 0) := B1_6.c 2 (of_decide_eq_true rfl)
          have c8_BF := BF_6.cell
          have g8_B1_0 := B1_6.f 0 (of_decide_eq_true rfl)
          have g8_B1_1 := B1_6.f 1 (of_decide_eq_true rfl)
          have g8_B1_2 := B1_6.f 2 (of_decide_eq_true rfl)
          go_wp2_with (with_reducible refine post_stop ?_)
          refine Stop.mk ?_
          clear c8_B1_0 c8_B1_1 c8_B1_2 c8_BF g8_B1_0 g8_B1_1 g8_B1_2
          refine bodyPost_ret (v := .agg #[.int .i64 0, .int .i64 0, .int .i64 0]) (results_arr Try.results11 (((B1_6.put 0 (of_decide_eq_true rfl) (.int .i64 0) [.int .i64 0, .int .i64 0, .int .i64 0] rfl).put 1 (of_decide_eq_true rfl) (.int .i64 0) [.int .i64 0, .int .i64 0, .int .i64 0] rfl).put 2 (of_decide_eq_true rfl) (.int .i64 0) [.int .i64 0, .int .i64 0, .int .i64 0] rfl) rfl (by kernel_rfl) (by kernel_rfl)) rfl ?_
          have hs : rDip1 bad d = ((0, 0, 0), r5.2) := by unfold rDip1; simp only [E1.out, E3.out, E5.out]; rw [if_pos Hhc4.out]
          rw [hs]
          exact ⟨rfl, (((BF_6.new (w.heap.size + 1) 0 (Nat.ne_of_lt y2_BF) (.int .i64 0)).new (w.heap.size + 1) 1 (Nat.ne_of_lt y2_BF) (.int .i64 0)).new (w.heap.size + 1) 2 (Nat.ne_of_lt y2_BF) (.int .i64 0)), (((K6.new _ _ (by omega) _).new _ _ (by omega) _).new _ _ (by omega) _)⟩
        · have Hhc4 : Hid (r5.2 = false) := hc4
          have c8_B1_0 : w6.cell? ⟨w.heap.size + 1, 0, none⟩ = some (.int .i64 0) := B1_6.c 0 (of_decide_eq_true rfl)
          have c8_B1_1 : w6.cell? ⟨w.heap.size + 1, 1, none⟩ = some (.int .i64 0) := B1_6.c 1 (of_decide_eq_true rfl)
          have c8_B1_2 : w6.cell? ⟨w.heap.size + 1, 2, none⟩ = some (.int .i64 0) := B1_6.c 2 (of_decide_eq_true rfl)
          have c8_B2_0 : w6.cell? ⟨w.heap.size + 1 + 1, 0, none⟩ = some (.int .i64 219902325555) := B2_6.c 0 (of_decide_eq_true rfl)
          have c8_B2_1 : w6.cell? ⟨w.heap.size + 1 + 1, 1, none⟩ = some (.int .i64 219902325555) := B2_6.c 1 (of_decide_eq_true rfl)
          have c8_B2_2 : w6.cell? ⟨w.heap.size + 1 + 1, 2, none⟩ = some (.int .i64 219902325555) := B2_6.c 2 (of_decide_eq_true rfl)
          have c8_BF := BF_6.cell
          have g8_B1_0 := B1_6.f 0 (of_decide_eq_true rfl)
          have g8_B1_1 := B1_6.f 1 (of_decide_eq_true rfl)
          have g8_B1_2 := B1_6.f 2 (of_decide_eq_true rfl)
          go_wp2_with (with_reducible refine post_stop ?_)
          refine Stop.mk ?_
          clear c8_B1_0 c8_B1_1 c8_B1_2 c8_B2_0 c8_B2_1 c8_B2_2 c8_BF g8_B1_0 g8_B1_1 g8_B1_2
          refine bodyPost_ret (v := .agg #[.int .i64 219902325555, .int .i64 219902325555, .int .i64 219902325555]) (results_arr Try.results11 (((B1_6.put 0 (of_decide_eq_true rfl) (.int .i64 219902325555) [.int .i64 219902325555, .int .i64 0, .int .i64 0] rfl).put 1 (of_decide_eq_true rfl) (.int .i64 219902325555) [.int .i64 219902325555, .int .i64 219902325555, .int .i64 0] rfl).put 2 (of_decide_eq_true rfl) (.int .i64 219902325555) [.int .i64 219902325555, .int .i64 219902325555, .int .i64 219902325555] rfl) rfl (by kernel_rfl) (by kernel_rfl)) rfl ?_
          have hs : rDip1 bad d = ((219902325555, 219902325555, 219902325555), r5.2) := by unfold rDip1; simp only [E1.out, E3.out, E5.out]; rw [if_neg (by rw [Hhc4.out]; decide)]; rw [show clampS r1.1 = 219902325555 by unfold clampS; omega, show clampS r3.1 = 219902325555 by unfold clampS; omega, show clampS r5.1 = 219902325555 by unfold clampS; omega]
          rw [hs]
          exact ⟨rfl, (((BF_6.new (w.heap.size + 1) 0 (Nat.ne_of_lt y2_BF) (.int .i64 219902325555)).new (w.heap.size + 1) 1 (Nat.ne_of_lt y2_BF) (.int .i64 219902325555)).new (w.heap.size + 1) 2 (Nat.ne_of_lt y2_BF) (.int .i64 219902325555)), (((K6.new _ _ (by omega) _).new _ _ (by omega) _).new _ _ (by omega) _)⟩
      · have Hhc3 : Hid (¬ r5.1 > 219902325555) := hc3
        by_cases hc4 : r5.1 < (-219902325555)
        · have Hhc4 : Hid (r5.1 < (-219902325555)) := hc4
          have c7_B2_2 : w5.cell? ⟨w.heap.size + 1 + 1, 2, none⟩ = some (.int .i64 0) := B2_5.c 2 (of_decide_eq_true rfl)
          have g7_B2_2 := B2_5.f 2 (of_decide_eq_true rfl)
          go_wp2_with fail
          clear c7_B2_2 g7_B2_2
          refine rounds_letter (S := fun w' => Kept b w w' ∧ Fl b r5.2 w' ∧ Arr w.heap.size [.bool true, .int .i64 d.1, .int .i64 d.2.1, .int .i64 d.2.2.1, .int .i64 d.2.2.2.1, .int .i64 d.2.2.2.2.1, .int .i64 d.2.2.2.2.2.1, .int .i64 d.2.2.2.2.2.2] w' ∧ Arr (w.heap.size + 1) [.int .i64 0, .int .i64 0, .int .i64 0] w' ∧ Arr (w.heap.size + 1 + 1) [.int .i64 219902325555, .int .i64 219902325555, .int .i64 (-219902325555)] w') ⟨(K5.new _ _ (by omega) _), (f5.new (w.heap.size + 1 + 1) 2 (Nat.ne_of_lt y3_BF) (.int .i64 (-219902325555))), (B0_5.new (w.heap.size + 1 + 1) 2 (Nat.ne_of_lt y3_B0) (.int .i64 (-219902325555))), (B1_5.new (w.heap.size + 1 + 1) 2 (Nat.ne_of_lt y3_B1) (.int .i64 (-219902325555))), (B2_5.put 2 (of_decide_eq_true rfl) (.int .i64 (-219902325555)) [.int .i64 219902325555, .int .i64 219902325555, .int .i64 (-219902325555)] rfl)⟩ ?_
          rintro w6 ⟨K6, BF_6, B0_6, B1_6, B2_6⟩
          have z6 := B2_6.lies
          clear K5 f5 B0_5 B1_5 B2_5
          rw [rounds_succ]
          rcases Bool.eq_false_or_eq_true r5.2 with hc5 | hc5
          · have Hhc5 : Hid (r5.2 = true) := hc5
            have c8_B1_0 : w6.cell? ⟨w.heap.size + 1, 0, none⟩ = some (.int .i64 0) := B1_6.c 0 (of_decide_eq_true rfl)
            have c8_B1_1 : w6.cell? ⟨w.heap.size + 1, 1, none⟩ = some (.int .i64 0) := B1_6.c 1 (of_decide_eq_true rfl)
            have c8_B1_2 : w6.cell? ⟨w.heap.size + 1, 2, none⟩ = some (.int .i64 0) := B1_6.c 2 (of_decide_eq_true rfl)
            have c8_BF := BF_6.cell
            have g8_B1_0 := B1_6.f 0 (of_decide_eq_true rfl)
            have g8_B1_1 := B1_6.f 1 (of_decide_eq_true rfl)
            have g8_B1_2 := B1_6.f 2 (of_decide_eq_true rfl)
            go_wp2_with (with_reducible refine post_stop ?_)
            refine Stop.mk ?_
            clear c8_B1_0 c8_B1_1 c8_B1_2 c8_BF g8_B1_0 g8_B1_1 g8_B1_2
            refine bodyPost_ret (v := .agg #[.int .i64 0, .int .i64 0, .int .i64 0]) (results_arr Try.results11 (((B1_6.put 0 (of_decide_eq_true rfl) (.int .i64 0) [.int .i64 0, .int .i64 0, .int .i64 0] rfl).put 1 (of_decide_eq_true rfl) (.int .i64 0) [.int .i64 0, .int .i64 0, .int .i64 0] rfl).put 2 (of_decide_eq_true rfl) (.int .i64 0) [.int .i64 0, .int .i64 0, .int .i64 0] rfl) rfl (by kernel_rfl) (by kernel_rfl)) rfl ?_
            have hs : rDip1 bad d = ((0, 0, 0), r5.2) := by unfold rDip1; simp only [E1.out, E3.out, E5.out]; rw [if_pos Hhc5.out]
            rw [hs]
            exact ⟨rfl, (((BF_6.new (w.heap.size + 1) 0 (Nat.ne_of_lt y2_BF) (.int .i64 0)).new (w.heap.size + 1) 1 (Nat.ne_of_lt y2_BF) (.int .i64 0)).new (w.heap.size + 1) 2 (Nat.ne_of_lt y2_BF) (.int .i64 0)), (((K6.new _ _ (by omega) _).new _ _ (by omega) _).new _ _ (by omega) _)⟩
          · have Hhc5 : Hid (r5.2 = false) := hc5
            have c8_B1_0 : w6.cell? ⟨w.heap.size + 1, 0, none⟩ = some (.int .i64 0) := B1_6.c 0 (of_decide_eq_true rfl)
            have c8_B1_1 : w6.cell? ⟨w.heap.size + 1, 1, none⟩ = some (.int .i64 0) := B1_6.c 1 (of_decide_eq_true rfl)
            have c8_B1_2 : w6.cell? ⟨w.heap.size + 1, 2, none⟩ = some (.int .i64 0) := B1_6.c 2 (of_decide_eq_true rfl)
            have c8_B2_0 : w6.cell? ⟨w.heap.size + 1 + 1, 0, none⟩ = some (.int .i64 219902325555) := B2_6.c 0 (of_decide_eq_true rfl)
            have c8_B2_1 : w6.cell? ⟨w.heap.size + 1 + 1, 1, none⟩ = some (.int .i64 219902325555) := B2_6.c 1 (of_decide_eq_true rfl)
            have c8_B2_2 : w6.cell? ⟨w.heap.size + 1 + 1, 2, none⟩ = some (.int .i64 (-219902325555)) := B2_6.c 2 (of_decide_eq_true rfl)
            have c8_BF := BF_6.cell
            have g8_B1_0 := B1_6.f 0 (of_decide_eq_true rfl)
            have g8_B1_1 := B1_6.f 1 (of_decide_eq_true rfl)
            have g8_B1_2 := B1_6.f 2 (of_decide_eq_true rfl)
            go_wp2_with (with_reducible refine post_stop ?_)
            refine Stop.mk ?_
            clear c8_B1_0 c8_B1_1 c8_B1_2 c8_B2_0 c8_B2_1 c8_B2_2 c8_BF g8_B1_0 g8_B1_1 g8_B1_2
            refine bodyPost_ret (v := .agg #[.int .i64 219902325555, .int .i64 219902325555, .int .i64 (-219902325555)]) (results_arr Try.results11 (((B1_6.put 0 (of_decide_eq_true rfl) (.int .i64 219902325555) [.int .i64 219902325555, .int .i64 0, .int .i64 0] rfl).put 1 (of_decide_eq_true rfl) (.int .i64 219902325555) [.int .i64 219902325555, .int .i64 219902325555, .int .i64 0] rfl).put 2 (of_decide_eq_true rfl) (.int .i64 (-219902325555)) [.int .i64 219902325555, .int .i64 219902325555, .int .i64 (-219902325555)] rfl) rfl (by kernel_rfl) (by kernel_rfl)) rfl ?_
            have hs : rDip1 bad d = ((219902325555, 219902325555, (-219902325555)), r5.2) := by unfold rDip1; simp only [E1.out, E3.out, E5.out]; rw [if_neg (by rw [Hhc5.out]; decide)]; rw [show clampS r1.1 = 219902325555 by unfold clampS; omega, show clampS r3.1 = 219902325555 by unfold clampS; omega, show clampS r5.1 = (-219902325555) by unfold clampS; omega]
            rw [hs]
            exact ⟨rfl, (((BF_6.new (w.heap.size + 1) 0 (Nat.ne_of_lt y2_BF) (.int .i64 219902325555)).new (w.heap.size + 1) 1 (Nat.ne_of_lt y2_BF) (.int .i64 219902325555)).new (w.heap.size + 1) 2 (Nat.ne_of_lt y2_BF) (.int .i64 (-219902325555))), (((K6.new _ _ (by omega) _).new _ _ (by omega) _).new _ _ (by omega) _)⟩
        · have Hhc4 : Hid (¬ r5.1 < (-219902325555)) := hc4
          have c7_B2_2 : w5.cell? ⟨w.heap.size + 1 + 1, 2, none⟩ = some (.int .i64 0) := B2_5.c 2 (of_decide_eq_true rfl)
          have g7_B2_2 := B2_5.f 2 (of_decide_eq_true rfl)
          go_wp2_with fail
          clear c7_B2_2 g7_B2_2
          refine rounds_letter (S := fun w' => Kept b w w' ∧ Fl b r5.2 w' ∧ Arr w.heap.size [.bool true, .int .i64 d.1, .int .i64 d.2.1, .int .i64 d.2.2.1, .int .i64 d.2.2.2.1, .int .i64 d.2.2.2.2.1, .int .i64 d.2.2.2.2.2.1, .int .i64 d.2.2.2.2.2.2] w' ∧ Arr (w.heap.size + 1) [.int .i64 0, .int .i64 0, .int .i64 0] w' ∧ Arr (w.heap.size + 1 + 1) [.int .i64 219902325555, .int .i64 219902325555, .int .i64 r5.1] w') ⟨(K5.new _ _ (by omega) _), (f5.new (w.heap.size + 1 + 1) 2 (Nat.ne_of_lt y3_BF) (.int .i64 r5.1)), (B0_5.new (w.heap.size + 1 + 1) 2 (Nat.ne_of_lt y3_B0) (.int .i64 r5.1)), (B1_5.new (w.heap.size + 1 + 1) 2 (Nat.ne_of_lt y3_B1) (.int .i64 r5.1)), (B2_5.put 2 (of_decide_eq_true rfl) (.int .i64 r5.1) [.int .i64 219902325555, .int .i64 219902325555, .int .i64 r5.1] rfl)⟩ ?_
          rintro w6 ⟨K6, BF_6, B0_6, B1_6, B2_6⟩
          have z6 := B2_6.lies
          clear K5 f5 B0_5 B1_5 B2_5
          rw [rounds_succ]
          rcases Bool.eq_false_or_eq_true r5.2 with hc5 | hc5
          · have Hhc5 : Hid (r5.2 = true) := hc5
            have c8_B1_0 : w6.cell? ⟨w.heap.size + 1, 0, none⟩ = some (.int .i64 0) := B1_6.c 0 (of_decide_eq_true rfl)
            have c8_B1_1 : w6.cell? ⟨w.heap.size + 1, 1, none⟩ = some (.int .i64 0) := B1_6.c 1 (of_decide_eq_true rfl)
            have c8_B1_2 : w6.cell? ⟨w.heap.size + 1, 2, none⟩ = some (.int .i64 0) := B1_6.c 2 (of_decide_eq_true rfl)
            have c8_BF := BF_6.cell
            have g8_B1_0 := B1_6.f 0 (of_decide_eq_true rfl)
            have g8_B1_1 := B1_6.f 1 (of_decide_eq_true rfl)
            have g8_B1_2 := B1_6.f 2 (of_decide_eq_true rfl)
            go_wp2_with (with_reducible refine post_stop ?_)
            refine Stop.mk ?_
            clear c8_B1_0 c8_B1_1 c8_B1_2 c8_BF g8_B1_0 g8_B1_1 g8_B1_2
            refine bodyPost_ret (v := .agg #[.int .i64 0, .int .i64 0, .int .i64 0]) (results_arr Try.results11 (((B1_6.put 0 (of_decide_eq_true rfl) (.int .i64 0) [.int .i64 0, .int .i64 0, .int .i64 0] rfl).put 1 (of_decide_eq_true rfl) (.int .i64 0) [.int .i64 0, .int .i64 0, .int .i64 0] rfl).put 2 (of_decide_eq_true rfl) (.int .i64 0) [.int .i64 0, .int .i64 0, .int .i64 0] rfl) rfl (by kernel_rfl) (by kernel_rfl)) rfl ?_
            have hs : rDip1 bad d = ((0, 0, 0), r5.2) := by unfold rDip1; simp only [E1.out, E3.out, E5.out]; rw [if_pos Hhc5.out]
            rw [hs]
            exact ⟨rfl, (((BF_6.new (w.heap.size + 1) 0 (Nat.ne_of_lt y2_BF) (.int .i64 0)).new (w.heap.size + 1) 1 (Nat.ne_of_lt y2_BF) (.int .i64 0)).new (w.heap.size + 1) 2 (Nat.ne_of_lt y2_BF) (.int .i64 0)), (((K6.new _ _ (by omega) _).new _ _ (by omega) _).new _ _ (by omega) _)⟩
          · have Hhc5 : Hid (r5.2 = false) := hc5
            have c8_B1_0 : w6.cell? ⟨w.heap.size + 1, 0, none⟩ = some (.int .i64 0) := B1_6.c 0 (of_decide_eq_true rfl)
            have c8_B1_1 : w6.cell? ⟨w.heap.size + 1, 1, none⟩ = some (.int .i64 0) := B1_6.c 1 (of_decide_eq_true rfl)
            have c8_B1_2 : w6.cell? ⟨w.heap.size + 1, 2, none⟩ = some (.int .i64 0) := B1_6.c 2 (of_decide_eq_true rfl)
            have c8_B2_0 : w6.cell? ⟨w.heap.size + 1 + 1, 0, none⟩ = some (.int .i64 219902325555) := B2_6.c 0 (of_decide_eq_true rfl)
            have c8_B2_1 : w6.cell? ⟨w.heap.size + 1 + 1, 1, none⟩ = some (.int .i64 219902325555) := B2_6.c 1 (of_decide_eq_true rfl)
            have c8_B2_2 : w6.cell? ⟨w.heap.size + 1 + 1, 2, none⟩ = some (.int .i64 r5.1) := B2_6.c 2 (of_decide_eq_true rfl)
            have c8_BF := BF_6.cell
            have g8_B1_0 := B1_6.f 0 (of_decide_eq_true rfl)
            have g8_B1_1 := B1_6.f 1 (of_decide_eq_true rfl)
            have g8_B1_2 := B1_6.f 2 (of_decide_eq_true rfl)
            go_wp2_with (with_reducible refine post_stop ?_)
            refine Stop.mk ?_
            clear c8_B1_0 c8_B1_1 c8_B1_2 c8_B2_0 c8_B2_1 c8_B2_2 c8_BF g8_B1_0 g8_B1_1 g8_B1_2
            refine bodyPost_ret (v := .agg #[.int .i64 219902325555, .int .i64 219902325555, .int .i64 r5.1]) (results_arr Try.results11 (((B1_6.put 0 (of_decide_eq_true rfl) (.int .i64 219902325555) [.int .i64 219902325555, .int .i64 0, .int .i64 0] rfl).put 1 (of_decide_eq_true rfl) (.int .i64 219902325555) [.int .i64 219902325555, .int .i64 219902325555, .int .i64 0] rfl).put 2 (of_decide_eq_true rfl) (.int .i64 r5.1) [.int .i64 219902325555, .int .i64 219902325555, .int .i64 r5.1] rfl) rfl (by kernel_rfl) (by kernel_rfl)) rfl ?_
            have hs : rDip1 bad d = ((219902325555, 219902325555, r5.1), r5.2) := by unfold rDip1; simp only [E1.out, E3.out, E5.out]; rw [if_neg (by rw [Hhc5.out]; decide)]; rw [show clampS r1.1 = 219902325555 by unfold clampS; omega, show clampS r3.1 = 219902325555 by unfold clampS; omega, show clampS r5.1 = r5.1 by unfold clampS; omega]
            rw [hs]
            exact ⟨rfl, (((BF_6.new (w.heap.size + 1) 0 (Nat.ne_of_lt y2_BF) (.int .i64 219902325555)).new (w.heap.size + 1) 1 (Nat.ne_of_lt y2_BF) (.int .i64 219902325555)).new (w.heap.size + 1) 2 (Nat.ne_of_lt y2_BF) (.int .i64 r5.1)), (((K6.new _ _ (by omega) _).new _ _ (by omega) _).new _ _ (by omega) _)⟩
    · have Hhc2 : Hid (¬ r3.1 > 219902325555) := hc2
      by_cases hc3 : r3.1 < (-219902325555)
      · have Hhc3 : Hid (r3.1 < (-219902325555)) := hc3
        have c5_B2_1 : w3.cell? ⟨w.heap.size + 1 + 1, 1, none⟩ = some (.int .i64 0) := B2_3.c 1 (of_decide_eq_true rfl)
        have g5_B2_1 := B2_3.f 1 (of_decide_eq_true rfl)
        go_wp2_with fail
        clear c5_B2_1 g5_B2_1
        refine rounds_letter (S := fun w' => Kept b w w' ∧ Fl b r3.2 w' ∧ Arr w.heap.size [.bool true, .int .i64 d.1, .int .i64 d.2.1, .int .i64 d.2.2.1, .int .i64 d.2.2.2.1, .int .i64 d.2.2.2.2.1, .int .i64 d.2.2.2.2.2.1, .int .i64 d.2.2.2.2.2.2] w' ∧ Arr (w.heap.size + 1) [.int .i64 0, .int .i64 0, .int .i64 0] w' ∧ Arr (w.heap.size + 1 + 1) [.int .i64 219902325555, .int .i64 (-219902325555), .int .i64 0] w') ⟨(K3.new _ _ (by omega) _), (f3.new (w.heap.size + 1 + 1) 1 (Nat.ne_of_lt y3_BF) (.int .i64 (-219902325555))), (B0_3.new (w.heap.size + 1 + 1) 1 (Nat.ne_of_lt y3_B0) (.int .i64 (-219902325555))), (B1_3.new (w.heap.size + 1 + 1) 1 (Nat.ne_of_lt y3_B1) (.int .i64 (-219902325555))), (B2_3.put 1 (of_decide_eq_true rfl) (.int .i64 (-219902325555)) [.int .i64 219902325555, .int .i64 (-219902325555), .int .i64 0] rfl)⟩ ?_
        rintro w4 ⟨K4, BF_4, B0_4, B1_4, B2_4⟩
        have z4 := B2_4.lies
        clear K3 f3 B0_3 B1_3 B2_3
        rw [rounds_succ]
        have c6_B0_7 : w4.cell? ⟨w.heap.size, 7, none⟩ = some (.int .i64 d.2.2.2.2.2.2) := B0_4.c 7 (of_decide_eq_true rfl)
        go_wp2_with fail
        refine (rMul_any b r3.2 d.2.2.2.2.2.2 (-274877906944) _ BF_4).mono ?_
        rintro e w5 ⟨rfl, f5, k5⟩
        generalize e5 : mulS r3.2 d.2.2.2.2.2.2 (-274877906944) = r5 at f5 ⊢
        have E5 : Hid _ := e5
        clear e5
        have K5 : Kept b w w5 := Kept.trans K4 k5
        have B0_5 : Arr w.heap.size [.bool true, .int .i64 d.1, .int .i64 d.2.1, .int .i64 d.2.2.1, .int .i64 d.2.2.2.1, .int .i64 d.2.2.2.2.1, .int .i64 d.2.2.2.2.2.1, .int .i64 d.2.2.2.2.2.2] w5 := B0_4.kept k5 (Nat.ne_of_gt y1_BF)
        have B1_5 : Arr (w.heap.size + 1) [.int .i64 0, .int .i64 0, .int .i64 0] w5 := B1_4.kept k5 (Nat.ne_of_gt y2_BF)
        have B2_5 : Arr (w.heap.size + 1 + 1) [.int .i64 219902325555, .int .i64 (-219902325555), .int .i64 0] w5 := B2_4.kept k5 (Nat.ne_of_gt y3_BF)
        have z5 := B2_5.lies
        clear c6_B0_7 K4 BF_4 B0_4 B1_4 B2_4 k5
        by_cases hc4 : r5.1 > 219902325555
        · have Hhc4 : Hid (r5.1 > 219902325555) := hc4
          have c7_B2_2 : w5.cell? ⟨w.heap.size + 1 + 1, 2, none⟩ = some (.int .i64 0) := B2_5.c 2 (of_decide_eq_true rfl)
          have g7_B2_2 := B2_5.f 2 (of_decide_eq_true rfl)
          go_wp2_with fail
          clear c7_B2_2 g7_B2_2
          refine rounds_letter (S := fun w' => Kept b w w' ∧ Fl b r5.2 w' ∧ Arr w.heap.size [.bool true, .int .i64 d.1, .int .i64 d.2.1, .int .i64 d.2.2.1, .int .i64 d.2.2.2.1, .int .i64 d.2.2.2.2.1, .int .i64 d.2.2.2.2.2.1, .int .i64 d.2.2.2.2.2.2] w' ∧ Arr (w.heap.size + 1) [.int .i64 0, .int .i64 0, .int .i64 0] w' ∧ Arr (w.heap.size + 1 + 1) [.int .i64 219902325555, .int .i64 (-219902325555), .int .i64 219902325555] w') ⟨(K5.new _ _ (by omega) _), (f5.new (w.heap.size + 1 + 1) 2 (Nat.ne_of_lt y3_BF) (.int .i64 219902325555)), (B0_5.new (w.heap.size + 1 + 1) 2 (Nat.ne_of_lt y3_B0) (.int .i64 219902325555)), (B1_5.new (w.heap.size + 1 + 1) 2 (Nat.ne_of_lt y3_B1) (.int .i64 219902325555)), (B2_5.put 2 (of_decide_eq_true rfl) (.int .i64 219902325555) [.int .i64 219902325555, .int .i64 (-219902325555), .int .i64 219902325555] rfl)⟩ ?_
          rintro w6 ⟨K6, BF_6, B0_6, B1_6, B2_6⟩
          have z6 := B2_6.lies
          clear K5 f5 B0_5 B1_5 B2_5
          rw [rounds_succ]
          rcases Bool.eq_false_or_eq_true r5.2 with hc5 | hc5
          · have Hhc5 : Hid (r5.2 = true) := hc5
            have c8_B1_0 : w6.cell? ⟨w.heap.size + 1, 0, none⟩ = some (.int .i64 0) := B1_6.c 0 (of_decide_eq_true rfl)
            have c8_B1_1 : w6.cell? ⟨w.heap.size + 1, 1, none⟩ = some (.int .i64 0) := B1_6.c 1 (of_decide_eq_true rfl)
            have c8_B1_2 : w6.cell? ⟨w.heap.size + 1, 2, none⟩ = some (.int .i64 0) := B1_6.c 2 (of_decide_eq_true rfl)
            have c8_BF := BF_6.cell
            have g8_B1_0 := B1_6.f 0 (of_decide_eq_true rfl)
            have g8_B1_1 := B1_6.f 1 (of_decide_eq_true rfl)
            have g8_B1_2 := B1_6.f 2 (of_decide_eq_true rfl)
            go_wp2_with (with_reducible refine post_stop ?_)
            refine Stop.mk ?_
            clear c8_B1_0 c8_B1_1 c8_B1_2 c8_BF g8_B1_0 g8_B1_1 g8_B1_2
            refine bodyPost_ret (v := .agg #[.int .i64 0, .int .i64 0, .int .i64 0]) (results_arr Try.results11 (((B1_6.put 0 (of_decide_eq_true rfl) (.int .i64 0) [.int .i64 0, .int .i64 0, .int .i64 0] rfl).put 1 (of_decide_eq_true rfl) (.int .i64 0) [.int .i64 0, .int .i64 0, .int .i64 0] rfl).put 2 (of_decide_eq_true rfl) (.int .i64 0) [.int .i64 0, .int .i64 0, .int .i64 0] rfl) rfl (by kernel_rfl) (by kernel_rfl)) rfl ?_
            have hs : rDip1 bad d = ((0, 0, 0), r5.2) := by unfold rDip1; simp only [E1.out, E3.out, E5.out]; rw [if_pos Hhc5.out]
            rw [hs]
            exact ⟨rfl, (((BF_6.new (w.heap.size + 1) 0 (Nat.ne_of_lt y2_BF) (.int .i64 0)).new (w.heap.size + 1) 1 (Nat.ne_of_lt y2_BF) (.int .i64 0)).new (w.heap.size + 1) 2 (Nat.ne_of_lt y2_BF) (.int .i64 0)), (((K6.new _ _ (by omega) _).new _ _ (by omega) _).new _ _ (by omega) _)⟩
          · have Hhc5 : Hid (r5.2 = false) := hc5
            have c8_B1_0 : w6.cell? ⟨w.heap.size + 1, 0, none⟩ = some (.int .i64 0) := B1_6.c 0 (of_decide_eq_true rfl)
            have c8_B1_1 : w6.cell? ⟨w.heap.size + 1, 1, none⟩ = some (.int .i64 0) := B1_6.c 1 (of_decide_eq_true rfl)
            have c8_B1_2 : w6.cell? ⟨w.heap.size + 1, 2, none⟩ = some (.int .i64 0) := B1_6.c 2 (of_decide_eq_true rfl)
            have c8_B2_0 : w6.cell? ⟨w.heap.size + 1 + 1, 0, none⟩ = some (.int .i64 219902325555) := B2_6.c 0 (of_decide_eq_true rfl)
            have c8_B2_1 : w6.cell? ⟨w.heap.size + 1 + 1, 1, none⟩ = some (.int .i64 (-219902325555)) := B2_6.c 1 (of_decide_eq_true rfl)
            have c8_B2_2 : w6.cell? ⟨w.heap.size + 1 + 1, 2, none⟩ = some (.int .i64 219902325555) := B2_6.c 2 (of_decide_eq_true rfl)
            have c8_BF := BF_6.cell
            have g8_B1_0 := B1_6.f 0 (of_decide_eq_true rfl)
            have g8_B1_1 := B1_6.f 1 (of_decide_eq_true rfl)
            have g8_B1_2 := B1_6.f 2 (of_decide_eq_true rfl)
            go_wp2_with (with_reducible refine post_stop ?_)
            refine Stop.mk ?_
            clear c8_B1_0 c8_B1_1 c8_B1_2 c8_B2_0 c8_B2_1 c8_B2_2 c8_BF g8_B1_0 g8_B1_1 g8_B1_2
            refine bodyPost_ret (v := .agg #[.int .i64 219902325555, .int .i64 (-219902325555), .int .i64 219902325555]) (results_arr Try.results11 (((B1_6.put 0 (of_decide_eq_true rfl) (.int .i64 219902325555) [.int .i64 219902325555, .int .i64 0, .int .i64 0] rfl).put 1 (of_decide_eq_true rfl) (.int .i64 (-219902325555)) [.int .i64 219902325555, .int .i64 (-219902325555), .int .i64 0] rfl).put 2 (of_decide_eq_true rfl) (.int .i64 219902325555) [.int .i64 219902325555, .int .i64 (-219902325555), .int .i64 219902325555] rfl) rfl (by kernel_rfl) (by kernel_rfl)) rfl ?_
            have hs : rDip1 bad d = ((219902325555, (-219902325555), 219902325555), r5.2) := by unfold rDip1; simp only [E1.out, E3.out, E5.out]; rw [if_neg (by rw [Hhc5.out]; decide)]; rw [show clampS r1.1 = 219902325555 by unfold clampS; omega, show clampS r3.1 = (-219902325555) by unfold clampS; omega, show clampS r5.1 = 219902325555 by unfold clampS; omega]
            rw [hs]
            exact ⟨rfl, (((BF_6.new (w.heap.size + 1) 0 (Nat.ne_of_lt y2_BF) (.int .i64 219902325555)).new (w.heap.size + 1) 1 (Nat.ne_of_lt y2_BF) (.int .i64 (-219902325555))).new (w.heap.size + 1) 2 (Nat.ne_of_lt y2_BF) (.int .i64 219902325555)), (((K6.new _ _ (by omega) _).new _ _ (by omega) _).new _ _ (by omega) _)⟩
        · have Hhc4 : Hid (¬ r5.1 > 219902325555) := hc4
          by_cases hc5 : r5.1 < (-219902325555)
          · have Hhc5 : Hid (r5.1 < (-219902325555)) := hc5
            have c7_B2_2 : w5.cell? ⟨w.heap.size + 1 + 1, 2, none⟩ = some (.int .i64 0) := B2_5.c 2 (of_decide_eq_true rfl)
            have g7_B2_2 := B2_5.f 2 (of_decide_eq_true rfl)
            go_wp2_with fail
            clear c7_B2_2 g7_B2_2
            refine rounds_letter (S := fun w' => Kept b w w' ∧ Fl b r5.2 w' ∧ Arr w.heap.size [.bool true, .int .i64 d.1, .int .i64 d.2.1, .int .i64 d.2.2.1, .int .i64 d.2.2.2.1, .int .i64 d.2.2.2.2.1, .int .i64 d.2.2.2.2.2.1, .int .i64 d.2.2.2.2.2.2] w' ∧ Arr (w.heap.size + 1) [.int .i64 0, .int .i64 0, .int .i64 0] w' ∧ Arr (w.heap.size + 1 + 1) [.int .i64 219902325555, .int .i64 (-219902325555), .int .i64 (-219902325555)] w') ⟨(K5.new _ _ (by omega) _), (f5.new (w.heap.size + 1 + 1) 2 (Nat.ne_of_lt y3_BF) (.int .i64 (-219902325555))), (B0_5.new (w.heap.size + 1 + 1) 2 (Nat.ne_of_lt y3_B0) (.int .i64 (-219902325555))), (B1_5.new (w.heap.size + 1 + 1) 2 (Nat.ne_of_lt y3_B1) (.int .i64 (-219902325555))), (B2_5.put 2 (of_decide_eq_true rfl) (.int .i64 (-219902325555)) [.int .i64 219902325555, .int .i64 (-219902325555), .int .i64 (-219902325555)] rfl)⟩ ?_
            rintro w6 ⟨K6, BF_6, B0_6, B1_6, B2_6⟩
            have z6 := B2_6.lies
            clear K5 f5 B0_5 B1_5 B2_5
            rw [rounds_succ]
            rcases Bool.eq_false_or_eq_true r5.2 with hc6 | hc6
            · have Hhc6 : Hid (r5.2 = true) := hc6
              have c8_B1_0 : w6.cell? ⟨w.heap.size + 1, 0, none⟩ = some (.int .i64 0) := B1_6.c 0 (of_decide_eq_true rfl)
              have c8_B1_1 : w6.cell? ⟨w.heap.size + 1, 1, none⟩ = some (.int .i64 0) := B1_6.c 1 (of_decide_eq_true rfl)
              have c8_B1_2 : w6.cell? ⟨w.heap.size + 1, 2, none⟩ = some (.int .i64 0) := B1_6.c 2 (of_decide_eq_true rfl)
              have c8_BF := BF_6.cell
              have g8_B1_0 := B1_6.f 0 (of_decide_eq_true rfl)
              have g8_B1_1 := B1_6.f 1 (of_decide_eq_true rfl)
              have g8_B1_2 := B1_6.f 2 (of_decide_eq_true rfl)
              go_wp2_with (with_reducible refine post_stop ?_)
              refine Stop.mk ?_
              clear c8_B1_0 c8_B1_1 c8_B1_2 c8_BF g8_B1_0 g8_B1_1 g8_B1_2
              refine bodyPost_ret (v := .agg #[.int .i64 0, .int .i64 0, .int .i64 0]) (results_arr Try.results11 (((B1_6.put 0 (of_decide_eq_true rfl) (.int .i64 0) [.int .i64 0, .int .i64 0, .int .i64 0] rfl).put 1 (of_decide_eq_true rfl) (.int .i64 0) [.int .i64 0, .int .i64 0, .int .i64 0] rfl).put 2 (of_decide_eq_true rfl) (.int .i64 0) [.int .i64 0, .int .i64 0, .int .i64 0] rfl) rfl (by kernel_rfl) (by kernel_rfl)) rfl ?_
              have hs : rDip1 bad d = ((0, 0, 0), r5.2) := by unfold rDip1; simp only [E1.out, E3.out, E5.out]; rw [if_pos Hhc6.out]
              rw [hs]
              exact ⟨rfl, (((BF_6.new (w.heap.size + 1) 0 (Nat.ne_of_lt y2_BF) (.int .i64 0)).new (w.heap.size + 1) 1 (Nat.ne_of_lt y2_BF) (.int .i64 0)).new (w.heap.size + 1) 2 (Nat.ne_of_lt y2_BF) (.int .i64 0)), (((K6.new _ _ (by omega) _).new _ _ (by omega) _).new _ _ (by omega) _)⟩
            · have Hhc6 : Hid (r5.2 = false) := hc6
              have c8_B1_0 : w6.cell? ⟨w.heap.size + 1, 0, none⟩ = some (.int .i64 0) := B1_6.c 0 (of_decide_eq_true rfl)
              have c8_B1_1 : w6.cell? ⟨w.heap.size + 1, 1, none⟩ = some (.int .i64 0) := B1_6.c 1 (of_decide_eq_true rfl)
              have c8_B1_2 : w6.cell? ⟨w.heap.size + 1, 2, none⟩ = some (.int .i64 0) := B1_6.c 2 (of_decide_eq_true rfl)
              have c8_B2_0 : w6.cell? ⟨w.heap.size + 1 + 1, 0, none⟩ = some (.int .i64 219902325555) := B2_6.c 0 (of_decide_eq_true rfl)
              have c8_B2_1 : w6.cell? ⟨w.heap.size + 1 + 1, 1, none⟩ = some (.int .i64 (-219902325555)) := B2_6.c 1 (of_decide_eq_true rfl)
              have c8_B2_2 : w6.cell? ⟨w.heap.size + 1 + 1, 2, none⟩ = some (.int .i64 (-219902325555)) := B2_6.c 2 (of_decide_eq_true rfl)
              have c8_BF := BF_6.cell
              have g8_B1_0 := B1_6.f 0 (of_decide_eq_true rfl)
              have g8_B1_1 := B1_6.f 1 (of_decide_eq_true rfl)
              have g8_B1_2 := B1_6.f 2 (of_decide_eq_true rfl)
              go_wp2_with (with_reducible refine post_stop ?_)
              refine Stop.mk ?_
              clear c8_B1_0 c8_B1_1 c8_B1_2 c8_B2_0 c8_B2_1 c8_B2_2 c8_BF g8_B1_0 g8_B1_1 g8_B1_2
              refine bodyPost_ret (v := .agg #[.int .i64 219902325555, .int .i64 (-219902325555), .int .i64 (-219902325555)]) (results_arr Try.results11 (((B1_6.put 0 (of_decide_eq_true rfl) (.int .i64 219902325555) [.int .i64 219902325555, .int .i64 0, .int .i64 0] rfl).put 1 (of_decide_eq_true rfl) (.int .i64 (-219902325555)) [.int .i64 219902325555, .int .i64 (-219902325555), .int .i64 0] rfl).put 2 (of_decide_eq_true rfl) (.int .i64 (-219902325555)) [.int .i64 219902325555, .int .i64 (-219902325555), .int .i64 (-219902325555)] rfl) rfl (by kernel_rfl) (by kernel_rfl)) rfl ?_
              have hs : rDip1 bad d = ((219902325555, (-219902325555), (-219902325555)), r5.2) := by unfold rDip1; simp only [E1.out, E3.out, E5.out]; rw [if_neg (by rw [Hhc6.out]; decide)]; rw [show clampS r1.1 = 219902325555 by unfold clampS; omega, show clampS r3.1 = (-219902325555) by unfold clampS; omega, show clampS r5.1 = (-219902325555) by unfold clampS; omega]
              rw [hs]
              exact ⟨rfl, (((BF_6.new (w.heap.size + 1) 0 (Nat.ne_of_lt y2_BF) (.int .i64 219902325555)).new (w.heap.size + 1) 1 (Nat.ne_of_lt y2_BF) (.int .i64 (-219902325555))).new (w.heap.size + 1) 2 (Nat.ne_of_lt y2_BF) (.int .i64 (-219902325555))), (((K6.new _ _ (by omega) _).new _ _ (by omega) _).new _ _ (by omega) _)⟩
          · have Hhc5 : Hid (¬ r5.1 < (-219902325555)) := hc5
            have c7_B2_2 : w5.cell? ⟨w.heap.size + 1 + 1, 2, none⟩ = some (.int .i64 0) := B2_5.c 2 (of_decide_eq_true rfl)
            have g7_B2_2 := B2_5.f 2 (of_decide_eq_true rfl)
            go_wp2_with fail
            clear c7_B2_2 g7_B2_2
            refine rounds_letter (S := fun w' => Kept b w w' ∧ Fl b r5.2 w' ∧ Arr w.heap.size [.bool true, .int .i64 d.1, .int .i64 d.2.1, .int .i64 d.2.2.1, .int .i64 d.2.2.2.1, .int .i64 d.2.2.2.2.1, .int .i64 d.2.2.2.2.2.1, .int .i64 d.2.2.2.2.2.2] w' ∧ Arr (w.heap.size + 1) [.int .i64 0, .int .i64 0, .int .i64 0] w' ∧ Arr (w.heap.size + 1 + 1) [.int .i64 219902325555, .int .i64 (-219902325555), .int .i64 r5.1] w') ⟨(K5.new _ _ (by omega) _), (f5.new (w.heap.size + 1 + 1) 2 (Nat.ne_of_lt y3_BF) (.int .i64 r5.1)), (B0_5.new (w.heap.size + 1 + 1) 2 (Nat.ne_of_lt y3_B0) (.int .i64 r5.1)), (B1_5.new (w.heap.size + 1 + 1) 2 (Nat.ne_of_lt y3_B1) (.int .i64 r5.1)), (B2_5.put 2 (of_decide_eq_true rfl) (.int .i64 r5.1) [.int .i64 219902325555, .int .i64 (-219902325555), .int .i64 r5.1] rfl)⟩ ?_
            rintro w6 ⟨K6, BF_6, B0_6, B1_6, B2_6⟩
            have z6 := B2_6.lies
            clear K5 f5 B0_5 B1_5 B2_5
            rw [rounds_succ]
            rcases Bool.eq_false_or_eq_true r5.2 with hc6 | hc6
            · have Hhc6 : Hid (r5.2 = true) := hc6
              have c8_B1_0 : w6.cell? ⟨w.heap.size + 1, 0, none⟩ = some (.int .i64 0) := B1_6.c 0 (of_decide_eq_true rfl)
              have c8_B1_1 : w6.cell? ⟨w.heap.size + 1, 1, none⟩ = some (.int .i64 0) := B1_6.c 1 (of_decide_eq_true rfl)
              have c8_B1_2 : w6.cell? ⟨w.heap.size + 1, 2, none⟩ = some (.int .i64 0) := B1_6.c 2 (of_decide_eq_true rfl)
              have c8_BF := BF_6.cell
              have g8_B1_0 := B1_6.f 0 (of_decide_eq_true rfl)
              have g8_B1_1 := B1_6.f 1 (of_decide_eq_true rfl)
              have g8_B1_2 := B1_6.f 2 (of_decide_eq_true rfl)
              go_wp2_with (with_reducible refine post_stop ?_)
              refine Stop.mk ?_
              clear c8_B1_0 c8_B1_1 c8_B1_2 c8_BF g8_B1_0 g8_B1_1 g8_B1_2
              refine bodyPost_ret (v := .agg #[.int .i64 0, .int .i64 0, .int .i64 0]) (results_arr Try.results11 (((B1_6.put 0 (of_decide_eq_true rfl) (.int .i64 0) [.int .i64 0, .int .i64 0, .int .i64 0] rfl).put 1 (of_decide_eq_true rfl) (.int .i64 0) [.int .i64 0, .int .i64 0, .int .i64 0] rfl).put 2 (of_decide_eq_true rfl) (.int .i64 0) [.int .i64 0, .int .i64 0, .int .i64 0] rfl) rfl (by kernel_rfl) (by kernel_rfl)) rfl ?_
              have hs : rDip1 bad d = ((0, 0, 0), r5.2) := by unfold rDip1; simp only [E1.out, E3.out, E5.out]; rw [if_pos Hhc6.out]
              rw [hs]
              exact ⟨rfl, (((BF_6.new (w.heap.size + 1) 0 (Nat.ne_of_lt y2_BF) (.int .i64 0)).new (w.heap.size + 1) 1 (Nat.ne_of_lt y2_BF) (.int .i64 0)).new (w.heap.size + 1) 2 (Nat.ne_of_lt y2_BF) (.int .i64 0)), (((K6.new _ _ (by omega) _).new _ _ (by omega) _).new _ _ (by omega) _)⟩
            · have Hhc6 : Hid (r5.2 = false) := hc6
              have c8_B1_0 : w6.cell? ⟨w.heap.size + 1, 0, none⟩ = some (.int .i64 0) := B1_6.c 0 (of_decide_eq_true rfl)
              have c8_B1_1 : w6.cell? ⟨w.heap.size + 1, 1, none⟩ = some (.int .i64 0) := B1_6.c 1 (of_decide_eq_true rfl)
              have c8_B1_2 : w6.cell? ⟨w.heap.size + 1, 2, none⟩ = some (.int .i64 0) := B1_6.c 2 (of_decide_eq_true rfl)
              have c8_B2_0 : w6.cell? ⟨w.heap.size + 1 + 1, 0, none⟩ = some (.int .i64 219902325555) := B2_6.c 0 (of_decide_eq_true rfl)
              have c8_B2_1 : w6.cell? ⟨w.heap.size + 1 + 1, 1, none⟩ = some (.int .i64 (-219902325555)) := B2_6.c 1 (of_decide_eq_true rfl)
              have c8_B2_2 : w6.cell? ⟨w.heap.size + 1 + 1, 2, none⟩ = some (.int .i64 r5.1) := B2_6.c 2 (of_decide_eq_true rfl)
              have c8_BF := BF_6.cell
              have g8_B1_0 := B1_6.f 0 (of_decide_eq_true rfl)
              have g8_B1_1 := B1_6.f 1 (of_decide_eq_true rfl)
              have g8_B1_2 := B1_6.f 2 (of_decide_eq_true rfl)
              go_wp2_with (with_reducible refine post_stop ?_)
              refine Stop.mk ?_
              clear c8_B1_0 c8_B1_1 c8_B1_2 c8_B2_0 c8_B2_1 c8_B2_2 c8_BF g8_B1_0 g8_B1_1 g8_B1_2
              refine bodyPost_ret (v := .agg #[.int .i64 219902325555, .int .i64 (-219902325555), .int .i64 r5.1]) (results_arr Try.results11 (((B1_6.put 0 (of_decide_eq_true rfl) (.int .i64 219902325555) [.int .i64 219902325555, .int .i64 0, .int .i64 0] rfl).put 1 (of_decide_eq_true rfl) (.int .i64 (-219902325555)) [.int .i64 219902325555, .int .i64 (-219902325555), .int .i64 0] rfl).put 2 (of_decide_eq_true rfl) (.int .i64 r5.1) [.int .i64 219902325555, .int .i64 (-219902325555), .int .i64 r5.1] rfl) rfl (by kernel_rfl) (by kernel_rfl)) rfl ?_
              have hs : rDip1 bad d = ((219902325555, (-219902325555), r5.1), r5.2) := by unfold rDip1; simp only [E1.out, E3.out, E5.out]; rw [if_neg (by rw [Hhc6.out]; decide)]; rw [show clampS r1.1 = 219902325555 by unfold clampS; omega, show clampS r3.1 = (-219902325555) by unfold clampS; omega, show clampS r5.1 = r5.1 by unfold clampS; omega]
              rw [hs]
              exact ⟨rfl, (((BF_6.new (w.heap.size + 1) 0 (Nat.ne_of_lt y2_BF) (.int .i64 219902325555)).new (w.heap.size + 1) 1 (Nat.ne_of_lt y2_BF) (.int .i64 (-219902325555))).new (w.heap.size + 1) 2 (Nat.ne_of_lt y2_BF) (.int .i64 r5.1)), (((K6.new _ _ (by omega) _).new _ _ (by omega) _).new _ _ (by omega) _)⟩
      · have Hhc3 : Hid (¬ r3.1 < (-219902325555)) := hc3
        have c5_B2_1 : w3.cell? ⟨w.heap.size + 1 + 1, 1, none⟩ = some (.int .i64 0) := B2_3.c 1 (of_decide_eq_true rfl)
        have g5_B2_1 := B2_3.f 1 (of_decide_eq_true rfl)
        go_wp2_with fail
        clear c5_B2_1 g5_B2_1
        refine rounds_letter (S := fun w' => Kept b w w' ∧ Fl b r3.2 w' ∧ Arr w.heap.size [.bool true, .int .i64 d.1, .int .i64 d.2.1, .int .i64 d.2.2.1, .int .i64 d.2.2.2.1, .int .i64 d.2.2.2.2.1, .int .i64 d.2.2.2.2.2.1, .int .i64 d.2.2.2.2.2.2] w' ∧ Arr (w.heap.size + 1) [.int .i64 0, .int .i64 0, .int .i64 0] w' ∧ Arr (w.heap.size + 1 + 1) [.int .i64 219902325555, .int .i64 r3.1, .int .i64 0] w') ⟨(K3.new _ _ (by omega) _), (f3.new (w.heap.size + 1 + 1) 1 (Nat.ne_of_lt y3_BF) (.int .i64 r3.1)), (B0_3.new (w.heap.size + 1 + 1) 1 (Nat.ne_of_lt y3_B0) (.int .i64 r3.1)), (B1_3.new (w.heap.size + 1 + 1) 1 (Nat.ne_of_lt y3_B1) (.int .i64 r3.1)), (B2_3.put 1 (of_decide_eq_true rfl) (.int .i64 r3.1) [.int .i64 219902325555, .int .i64 r3.1, .int .i64 0] rfl)⟩ ?_
        rintro w4 ⟨K4, BF_4, B0_4, B1_4, B2_4⟩
        have z4 := B2_4.lies
        clear K3 f3 B0_3 B1_3 B2_3
        rw [rounds_succ]
        have c6_B0_7 : w4.cell? ⟨w.heap.size, 7, none⟩ = some (.int .i64 d.2.2.2.2.2.2) := B0_4.c 7 (of_decide_eq_true rfl)
        go_wp2_with fail
        refine (rMul_any b r3.2 d.2.2.2.2.2.2 (-274877906944) _ BF_4).mono ?_
        rintro e w5 ⟨rfl, f5, k5⟩
        generalize e5 : mulS r3.2 d.2.2.2.2.2.2 (-274877906944) = r5 at f5 ⊢
        have E5 : Hid _ := e5
        clear e5
        have K5 : Kept b w w5 := Kept.trans K4 k5
        have B0_5 : Arr w.heap.size [.bool true, .int .i64 d.1, .int .i64 d.2.1, .int .i64 d.2.2.1, .int .i64 d.2.2.2.1, .int .i64 d.2.2.2.2.1, .int .i64 d.2.2.2.2.2.1, .int .i64 d.2.2.2.2.2.2] w5 := B0_4.kept k5 (Nat.ne_of_gt y1_BF)
        have B1_5 : Arr (w.heap.size + 1) [.int .i64 0, .int .i64 0, .int .i64 0] w5 := B1_4.kept k5 (Nat.ne_of_gt y2_BF)
        have B2_5 : Arr (w.heap.size + 1 + 1) [.int .i64 219902325555, .int .i64 r3.1, .int .i64 0] w5 := B2_4.kept k5 (Nat.ne_of_gt y3_BF)
        have z5 := B2_5.lies
        clear c6_B0_7 K4 BF_4 B0_4 B1_4 B2_4 k5
        by_cases hc4 : r5.1 > 219902325555
        · have Hhc4 : Hid (r5.1 > 219902325555) := hc4
          have c7_B2_2 : w5.cell? ⟨w.heap.size + 1 + 1, 2, none⟩ = some (.int .i64 0) := B2_5.c 2 (of_decide_eq_true rfl)
          have g7_B2_2 := B2_5.f 2 (of_decide_eq_true rfl)
          go_wp2_with fail
          clear c7_B2_2 g7_B2_2
          refine rounds_letter (S := fun w' => Kept b w w' ∧ Fl b r5.2 w' ∧ Arr w.heap.size [.bool true, .int .i64 d.1, .int .i64 d.2.1, .int .i64 d.2.2.1, .int .i64 d.2.2.2.1, .int .i64 d.2.2.2.2.1, .int .i64 d.2.2.2.2.2.1, .int .i64 d.2.2.2.2.2.2] w' ∧ Arr (w.heap.size + 1) [.int .i64 0, .int .i64 0, .int .i64 0] w' ∧ Arr (w.heap.size + 1 + 1) [.int .i64 219902325555, .int .i64 r3.1, .int .i64 219902325555] w') ⟨(K5.new _ _ (by omega) _), (f5.new (w.heap.size + 1 + 1) 2 (Nat.ne_of_lt y3_BF) (.int .i64 219902325555)), (B0_5.new (w.heap.size + 1 + 1) 2 (Nat.ne_of_lt y3_B0) (.int .i64 219902325555)), (B1_5.new (w.heap.size + 1 + 1) 2 (Nat.ne_of_lt y3_B1) (.int .i64 219902325555)), (B2_5.put 2 (of_decide_eq_true rfl) (.int .i64 219902325555) [.int .i64 219902325555, .int .i64 r3.1, .int .i64 219902325555] rfl)⟩ ?_
          rintro w6 ⟨K6, BF_6, B0_6, B1_6, B2_6⟩
          have z6 := B2_6.lies
          clear K5 f5 B0_5 B1_5 B2_5
          rw [rounds_succ]
          rcases Bool.eq_false_or_eq_true r5.2 with hc5 | hc5
          · have Hhc5 : Hid (r5.2 = true) := hc5
            have c8_B1_0 : w6.cell? ⟨w.heap.size + 1, 0, none⟩ = some (.int .i64 0) := B1_6.c 0 (of_decide_eq_true rfl)
            have c8_B1_1 : w6.cell? ⟨w.heap.size + 1, 1, none⟩ = some (.int .i64 0) := B1_6.c 1 (of_decide_eq_true rfl)
            have c8_B1_2 : w6.cell? ⟨w.heap.size + 1, 2, none⟩ = some (.int .i64 0) := B1_6.c 2 (of_decide_eq_true rfl)
            have c8_BF := BF_6.cell
            have g8_B1_0 := B1_6.f 0 (of_decide_eq_true rfl)
            have g8_B1_1 := B1_6.f 1 (of_decide_eq_true rfl)
            have g8_B1_2 := B1_6.f 2 (of_decide_eq_true rfl)
            go_wp2_with (with_reducible refine post_stop ?_)
            refine Stop.mk ?_
            clear c8_B1_0 c8_B1_1 c8_B1_2 c8_BF g8_B1_0 g8_B1_1 g8_B1_2
            refine bodyPost_ret (v := .agg #[.int .i64 0, .int .i64 0, .int .i64 0]) (results_arr Try.results11 (((B1_6.put 0 (of_decide_eq_true rfl) (.int .i64 0) [.int .i64 0, .int .i64 0, .int .i64 0] rfl).put 1 (of_decide_eq_true rfl) (.int .i64 0) [.int .i64 0, .int .i64 0, .int .i64 0] rfl).put 2 (of_decide_eq_true rfl) (.int .i64 0) [.int .i64 0, .int .i64 0, .int .i64 0] rfl) rfl (by kernel_rfl) (by kernel_rfl)) rfl ?_
            have hs : rDip1 bad d = ((0, 0, 0), r5.2) := by unfold rDip1; simp only [E1.out, E3.out, E5.out]; rw [if_pos Hhc5.out]
            rw [hs]
            exact ⟨rfl, (((BF_6.new (w.heap.size + 1) 0 (Nat.ne_of_lt y2_BF) (.int .i64 0)).new (w.heap.size + 1) 1 (Nat.ne_of_lt y2_BF) (.int .i64 0)).new (w.heap.size + 1) 2 (Nat.ne_of_lt y2_BF) (.int .i64 0)), (((K6.new _ _ (by omega) _).new _ _ (by omega) _).new _ _ (by omega) _)⟩
          · have Hhc5 : Hid (r5.2 = false) := hc5
            have c8_B1_0 : w6.cell? ⟨w.heap.size + 1, 0, none⟩ = some (.int .i64 0) := B1_6.c 0 (of_decide_eq_true rfl)
            have c8_B1_1 : w6.cell? ⟨w.heap.size + 1, 1, none⟩ = some (.int .i64 0) := B1_6.c 1 (of_decide_eq_true rfl)
            have c8_B1_2 : w6.cell? ⟨w.heap.size + 1, 2, none⟩ = some (.int .i64 0) := B1_6.c 2 (of_decide_eq_true rfl)
            have c8_B2_0 : w6.cell? ⟨w.heap.size + 1 + 1, 0, none⟩ = some (.int .i64 219902325555) := B2_6.c 0 (of_decide_eq_true rfl)
            have c8_B2_1 : w6.cell? ⟨w.heap.size + 1 + 1, 1, none⟩ = some (.int .i64 r3.1) := B2_6.c 1 (of_decide_eq_true rfl)
            have c8_B2_2 : w6.cell? ⟨w.heap.size + 1 + 1, 2, none⟩ = some (.int .i64 219902325555) := B2_6.c 2 (of_decide_eq_true rfl)
            have c8_BF := BF_6.cell
            have g8_B1_0 := B1_6.f 0 (of_decide_eq_true rfl)
            have g8_B1_1 := B1_6.f 1 (of_decide_eq_true rfl)
            have g8_B1_2 := B1_6.f 2 (of_decide_eq_true rfl)
            go_wp2_with (with_reducible refine post_stop ?_)
            refine Stop.mk ?_
            clear c8_B1_0 c8_B1_1 c8_B1_2 c8_B2_0 c8_B2_1 c8_B2_2 c8_BF g8_B1_0 g8_B1_1 g8_B1_2
            refine bodyPost_ret (v := .agg #[.int .i64 219902325555, .int .i64 r3.1, .int .i64 219902325555]) (results_arr Try.results11 (((B1_6.put 0 (of_decide_eq_true rfl) (.int .i64 219902325555) [.int .i64 219902325555, .int .i64 0, .int .i64 0] rfl).put 1 (of_decide_eq_true rfl) (.int .i64 r3.1) [.int .i64 219902325555, .int .i64 r3.1, .int .i64 0] rfl).put 2 (of_decide_eq_true rfl) (.int .i64 219902325555) [.int .i64 219902325555, .int .i64 r3.1, .int .i64 219902325555] rfl) rfl (by kernel_rfl) (by kernel_rfl)) rfl ?_
            have hs : rDip1 bad d = ((219902325555, r3.1, 219902325555), r5.2) := by unfold rDip1; simp only [E1.out, E3.out, E5.out]; rw [if_neg (by rw [Hhc5.out]; decide)]; rw [show clampS r1.1 = 219902325555 by unfold clampS; omega, show clampS r3.1 = r3.1 by unfold clampS; omega, show clampS r5.1 = 219902325555 by unfold clampS; omega]
            rw [hs]
            exact ⟨rfl, (((BF_6.new (w.heap.size + 1) 0 (Nat.ne_of_lt y2_BF) (.int .i64 219902325555)).new (w.heap.size + 1) 1 (Nat.ne_of_lt y2_BF) (.int .i64 r3.1)).new (w.heap.size + 1) 2 (Nat.ne_of_lt y2_BF) (.int .i64 219902325555)), (((K6.new _ _ (by omega) _).new _ _ (by omega) _).new _ _ (by omega) _)⟩
        · have Hhc4 : Hid (¬ r5.1 > 219902325555) := hc4
          by_cases hc5 : r5.1 < (-219902325555)
          · have Hhc5 : Hid (r5.1 < (-219902325555)) := hc5
            have c7_B2_2 : w5.cell? ⟨w.heap.size + 1 + 1, 2, none⟩ = some (.int .i64 0) := B2_5.c 2 (of_decide_eq_true rfl)
            have g7_B2_2 := B2_5.f 2 (of_decide_eq_true rfl)
            go_wp2_with fail
            clear c7_B2_2 g7_B2_2
            refine rounds_letter (S := fun w' => Kept b w w' ∧ Fl b r5.2 w' ∧ Arr w.heap.size [.bool true, .int .i64 d.1, .int .i64 d.2.1, .int .i64 d.2.2.1, .int .i64 d.2.2.2.1, .int .i64 d.2.2.2.2.1, .int .i64 d.2.2.2.2.2.1, .int .i64 d.2.2.2.2.2.2] w' ∧ Arr (w.heap.size + 1) [.int .i64 0, .int .i64 0, .int .i64 0] w' ∧ Arr (w.heap.size + 1 + 1) [.int .i64 219902325555, .int .i64 r3.1, .int .i64 (-219902325555)] w') ⟨(K5.new _ _ (by omega) _), (f5.new (w.heap.size + 1 + 1) 2 (Nat.ne_of_lt y3_BF) (.int .i64 (-219902325555))), (B0_5.new (w.heap.size + 1 + 1) 2 (Nat.ne_of_lt y3_B0) (.int .i64 (-219902325555))), (B1_5.new (w.heap.size + 1 + 1) 2 (Nat.ne_of_lt y3_B1) (.int .i64 (-219902325555))), (B2_5.put 2 (of_decide_eq_true rfl) (.int .i64 (-219902325555)) [.int .i64 219902325555, .int .i64 r3.1, .int .i64 (-219902325555)] rfl)⟩ ?_
            rintro w6 ⟨K6, BF_6, B0_6, B1_6, B2_6⟩
            have z6 := B2_6.lies
            clear K5 f5 B0_5 B1_5 B2_5
            rw [rounds_succ]
            rcases Bool.eq_false_or_eq_true r5.2 with hc6 | hc6
            · have Hhc6 : Hid (r5.2 = true) := hc6
              have c8_B1_0 : w6.cell? ⟨w.heap.size + 1, 0, none⟩ = some (.int .i64 0) := B1_6.c 0 (of_decide_eq_true rfl)
              have c8_B1_1 : w6.cell? ⟨w.heap.size + 1, 1, none⟩ = some (.int .i64 0) := B1_6.c 1 (of_decide_eq_true rfl)
              have c8_B1_2 : w6.cell? ⟨w.heap.size + 1, 2, none⟩ = some (.int .i64 0) := B1_6.c 2 (of_decide_eq_true rfl)
              have c8_BF := BF_6.cell
              have g8_B1_0 := B1_6.f 0 (of_decide_eq_true rfl)
              have g8_B1_1 := B1_6.f 1 (of_decide_eq_true rfl)
              have g8_B1_2 := B1_6.f 2 (of_decide_eq_true rfl)
              go_wp2_with (with_reducible refine post_stop ?_)
              refine Stop.mk ?_
              clear c8_B1_0 c8_B1_1 c8_B1_2 c8_BF g8_B1_0 g8_B1_1 g8_B1_2
              refine bodyPost_ret (v := .agg #[.int .i64 0, .int .i64 0, .int .i64 0]) (results_arr Try.results11 (((B1_6.put 0 (of_decide_eq_true rfl) (.int .i64 0) [.int .i64 0, .int .i64 0, .int .i64 0] rfl).put 1 (of_decide_eq_true rfl) (.int .i64 0) [.int .i64 0, .int .i64 0, .int .i64 0] rfl).put 2 (of_decide_eq_true rfl) (.int .i64 0) [.int .i64 0, .int .i64 0, .int .i64 0] rfl) rfl (by kernel_rfl) (by kernel_rfl)) rfl ?_
              have hs : rDip1 bad d = ((0, 0, 0), r5.2) := by unfold rDip1; simp only [E1.out, E3.out, E5.out]; rw [if_pos Hhc6.out]
              rw [hs]
              exact ⟨rfl, (((BF_6.new (w.heap.size + 1) 0 (Nat.ne_of_lt y2_BF) (.int .i64 0)).new (w.heap.size + 1) 1 (Nat.ne_of_lt y2_BF) (.int .i64 0)).new (w.heap.size + 1) 2 (Nat.ne_of_lt y2_BF) (.int .i64 0)), (((K6.new _ _ (by omega) _).new _ _ (by omega) _).new _ _ (by omega) _)⟩
            · have Hhc6 : Hid (r5.2 = false) := hc6
              have c8_B1_0 : w6.cell? ⟨w.heap.size + 1, 0, none⟩ = some (.int .i64 0) := B1_6.c 0 (of_decide_eq_true rfl)
              have c8_B1_1 : w6.cell? ⟨w.heap.size + 1, 1, none⟩ = some (.int .i64 0) := B1_6.c 1 (of_decide_eq_true rfl)
              have c8_B1_2 : w6.cell? ⟨w.heap.size + 1, 2, none⟩ = some (.int .i64 0) := B1_6.c 2 (of_decide_eq_true rfl)
              have c8_B2_0 : w6.cell? ⟨w.heap.size + 1 + 1, 0, none⟩ = some (.int .i64 219902325555) := B2_6.c 0 (of_decide_eq_true rfl)
              have c8_B2_1 : w6.cell? ⟨w.heap.size + 1 + 1, 1, none⟩ = some (.int .i64 r3.1) := B2_6.c 1 (of_decide_eq_true rfl)
              have c8_B2_2 : w6.cell? ⟨w.heap.size + 1 + 1, 2, none⟩ = some (.int .i64 (-219902325555)) := B2_6.c 2 (of_decide_eq_true rfl)
              have c8_BF := BF_6.cell
              have g8_B1_0 := B1_6.f 0 (of_decide_eq_true rfl)
              have g8_B1_1 := B1_6.f 1 (of_decide_eq_true rfl)
              have g8_B1_2 := B1_6.f 2 (of_decide_eq_true rfl)
              go_wp2_with (with_reducible refine post_stop ?_)
              refine Stop.mk ?_
              clear c8_B1_0 c8_B1_1 c8_B1_2 c8_B2_0 c8_B2_1 c8_B2_2 c8_BF g8_B1_0 g8_B1_1 g8_B1_2
              refine bodyPost_ret (v := .agg #[.int .i64 219902325555, .int .i64 r3.1, .int .i64 (-219902325555)]) (results_arr Try.results11 (((B1_6.put 0 (of_decide_eq_true rfl) (.int .i64 219902325555) [.int .i64 219902325555, .int .i64 0, .int .i64 0] rfl).put 1 (of_decide_eq_true rfl) (.int .i64 r3.1) [.int .i64 219902325555, .int .i64 r3.1, .int .i64 0] rfl).put 2 (of_decide_eq_true rfl) (.int .i64 (-219902325555)) [.int .i64 219902325555, .int .i64 r3.1, .int .i64 (-219902325555)] rfl) rfl (by kernel_rfl) (by kernel_rfl)) rfl ?_
              have hs : rDip1 bad d = ((219902325555, r3.1, (-219902325555)), r5.2) := by unfold rDip1; simp only [E1.out, E3.out, E5.out]; rw [if_neg (by rw [Hhc6.out]; decide)]; rw [show clampS r1.1 = 219902325555 by unfold clampS; omega, show clampS r3.1 = r3.1 by unfold clampS; omega, show clampS r5.1 = (-219902325555) by unfold clampS; omega]
              rw [hs]
              exact ⟨rfl, (((BF_6.new (w.heap.size + 1) 0 (Nat.ne_of_lt y2_BF) (.int .i64 219902325555)).new (w.heap.size + 1) 1 (Nat.ne_of_lt y2_BF) (.int .i64 r3.1)).new (w.heap.size + 1) 2 (Nat.ne_of_lt y2_BF) (.int .i64 (-219902325555))), (((K6.new _ _ (by omega) _).new _ _ (by omega) _).new _ _ (by omega) _)⟩
          · have Hhc5 : Hid (¬ r5.1 < (-219902325555)) := hc5
            have c7_B2_2 : w5.cell? ⟨w.heap.size + 1 + 1, 2, none⟩ = some (.int .i64 0) := B2_5.c 2 (of_decide_eq_true rfl)
            have g7_B2_2 := B2_5.f 2 (of_decide_eq_true rfl)
            go_wp2_with fail
            clear c7_B2_2 g7_B2_2
            refine rounds_letter (S := fun w' => Kept b w w' ∧ Fl b r5.2 w' ∧ Arr w.heap.size [.bool true, .int .i64 d.1, .int .i64 d.2.1, .int .i64 d.2.2.1, .int .i64 d.2.2.2.1, .int .i64 d.2.2.2.2.1, .int .i64 d.2.2.2.2.2.1, .int .i64 d.2.2.2.2.2.2] w' ∧ Arr (w.heap.size + 1) [.int .i64 0, .int .i64 0, .int .i64 0] w' ∧ Arr (w.heap.size + 1 + 1) [.int .i64 219902325555, .int .i64 r3.1, .int .i64 r5.1] w') ⟨(K5.new _ _ (by omega) _), (f5.new (w.heap.size + 1 + 1) 2 (Nat.ne_of_lt y3_BF) (.int .i64 r5.1)), (B0_5.new (w.heap.size + 1 + 1) 2 (Nat.ne_of_lt y3_B0) (.int .i64 r5.1)), (B1_5.new (w.heap.size + 1 + 1) 2 (Nat.ne_of_lt y3_B1) (.int .i64 r5.1)), (B2_5.put 2 (of_decide_eq_true rfl) (.int .i64 r5.1) [.int .i64 219902325555, .int .i64 r3.1, .int .i64 r5.1] rfl)⟩ ?_
            rintro w6 ⟨K6, BF_6, B0_6, B1_6, B2_6⟩
            have z6 := B2_6.lies
            clear K5 f5 B0_5 B1_5 B2_5
            rw [rounds_succ]
            rcases Bool.eq_false_or_eq_true r5.2 with hc6 | hc6
            · have Hhc6 : Hid (r5.2 = true) := hc6
              have c8_B1_0 : w6.cell? ⟨w.heap.size + 1, 0, none⟩ = some (.int .i64 0) := B1_6.c 0 (of_decide_eq_true rfl)
              have c8_B1_1 : w6.cell? ⟨w.heap.size + 1, 1, none⟩ = some (.int .i64 0) := B1_6.c 1 (of_decide_eq_true rfl)
              have c8_B1_2 : w6.cell? ⟨w.heap.size + 1, 2, none⟩ = some (.int .i64 0) := B1_6.c 2 (of_decide_eq_true rfl)
              have c8_BF := BF_6.cell
              have g8_B1_0 := B1_6.f 0 (of_decide_eq_true rfl)
              have g8_B1_1 := B1_6.f 1 (of_decide_eq_true rfl)
              have g8_B1_2 := B1_6.f 2 (of_decide_eq_true rfl)
              go_wp2_with (with_reducible refine post_stop ?_)
              refine Stop.mk ?_
              clear c8_B1_0 c8_B1_1 c8_B1_2 c8_BF g8_B1_0 g8_B1_1 g8_B1_2
              refine bodyPost_ret (v := .agg #[.int .i64 0, .int .i64 0, .int .i64 0]) (results_arr Try.results11 (((B1_6.put 0 (of_decide_eq_true rfl) (.int .i64 0) [.int .i64 0, .int .i64 0, .int .i64 0] rfl).put 1 (of_decide_eq_true rfl) (.int .i64 0) [.int .i64 0, .int .i64 0, .int .i64 0] rfl).put 2 (of_decide_eq_true rfl) (.int .i64 0) [.int .i64 0, .int .i64 0, .int .i64 0] rfl) rfl (by kernel_rfl) (by kernel_rfl)) rfl ?_
              have hs : rDip1 bad d = ((0, 0, 0), r5.2) := by unfold rDip1; simp only [E1.out, E3.out, E5.out]; rw [if_pos Hhc6.out]
              rw [hs]
              exact ⟨rfl, (((BF_6.new (w.heap.size + 1) 0 (Nat.ne_of_lt y2_BF) (.int .i64 0)).new (w.heap.size + 1) 1 (Nat.ne_of_lt y2_BF) (.int .i64 0)).new (w.heap.size + 1) 2 (Nat.ne_of_lt y2_BF) (.int .i64 0)), (((K6.new _ _ (by omega) _).new _ _ (by omega) _).new _ _ (by omega) _)⟩
            · have Hhc6 : Hid (r5.2 = false) := hc6
              have c8_B1_0 : w6.cell? ⟨w.heap.size + 1, 0, none⟩ = some (.int .i64 0) := B1_6.c 0 (of_decide_eq_true rfl)
              have c8_B1_1 : w6.cell? ⟨w.heap.size + 1, 1, none⟩ = some (.int .i64 0) := B1_6.c 1 (of_decide_eq_true rfl)
              have c8_B1_2 : w6.cell? ⟨w.heap.size + 1, 2, none⟩ = some (.int .i64 0) := B1_6.c 2 (of_decide_eq_true rfl)
              have c8_B2_0 : w6.cell? ⟨w.heap.size + 1 + 1, 0, none⟩ = some (.int .i64 219902325555) := B2_6.c 0 (of_decide_eq_true rfl)
              have c8_B2_1 : w6.cell? ⟨w.heap.size + 1 + 1, 1, none⟩ = some (.int .i64 r3.1) := B2_6.c 1 (of_decide_eq_true rfl)
              have c8_B2_2 : w6.cell? ⟨w.heap.size + 1 + 1, 2, none⟩ = some (.int .i64 r5.1) := B2_6.c 2 (of_decide_eq_true rfl)
              have c8_BF := BF_6.cell
              have g8_B1_0 := B1_6.f 0 (of_decide_eq_true rfl)
              have g8_B1_1 := B1_6.f 1 (of_decide_eq_true rfl)
              have g8_B1_2 := B1_6.f 2 (of_decide_eq_true rfl)
              go_wp2_with (with_reducible refine post_stop ?_)
              refine Stop.mk ?_
              clear c8_B1_0 c8_B1_1 c8_B1_2 c8_B2_0 c8_B2_1 c8_B2_2 c8_BF g8_B1_0 g8_B1_1 g8_B1_2
              refine bodyPost_ret (v := .agg #[.int .i64 219902325555, .int .i64 r3.1, .int .i64 r5.1]) (results_arr Try.results11 (((B1_6.put 0 (of_decide_eq_true rfl) (.int .i64 219902325555) [.int .i64 219902325555, .int .i64 0, .int .i64 0] rfl).put 1 (of_decide_eq_true rfl) (.int .i64 r3.1) [.int .i64 219902325555, .int .i64 r3.1, .int .i64 0] rfl).put 2 (of_decide_eq_true rfl) (.int .i64 r5.1) [.int .i64 219902325555, .int .i64 r3.1, .int .i64 r5.1] rfl) rfl (by kernel_rfl) (by kernel_rfl)) rfl ?_
              have hs : rDip1 bad d = ((219902325555, r3.1, r5.1), r5.2) := by unfold rDip1; simp only [E1.out, E3.out, E5.out]; rw [if_neg (by rw [Hhc6.out]; decide)]; rw [show clampS r1.1 = 219902325555 by unfold clampS; omega, show clampS r3.1 = r3.1 by unfold clampS; omega, show clampS r5.1 = r5.1 by unfold clampS; omega]
              rw [hs]
              exact ⟨rfl, (((BF_6.new (w.heap.size + 1) 0 (Nat.ne_of_lt y2_BF) (.int .i64 219902325555)).new (w.heap.size + 1) 1 (Nat.ne_of_lt y2_BF) (.int .i64 r3.1)).new (w.heap.size + 1) 2 (Nat.ne_of_lt y2_BF) (.int .i64 r5.1)), (((K6.new _ _ (by omega) _).new _ _ (by omega) _).new _ _ (by omega) _)⟩
  · have Hhc1 : Hid (¬ r1.1 > 219902325555) := hc1
    by_cases hc2 : r1.1 < (-219902325555)
    · have Hhc2 : Hid (r1.1 < (-219902325555)) := hc2
      have c3_B2_0 : w1.cell? ⟨w.heap.size + 1 + 1, 0, none⟩ = some (.int .i64 0) := B2_1.c 0 (of_decide_eq_true rfl)
      have g3_B2_0 := B2_1.f 0 (of_decide_eq_true rfl)
      go_wp2_with fail
      clear c3_B2_0 g3_B2_0
      refine rounds_letter (S := fun w' => Kept b w w' ∧ Fl b r1.2 w' ∧ Arr w.heap.size [.bool true, .int .i64 d.1, .int .i64 d.2.1, .int .i64 d.2.2.1, .int .i64 d.2.2.2.1, .int .i64 d.2.2.2.2.1, .int .i64 d.2.2.2.2.2.1, .int .i64 d.2.2.2.2.2.2] w' ∧ Arr (w.heap.size + 1) [.int .i64 0, .int .i64 0, .int .i64 0] w' ∧ Arr (w.heap.size + 1 + 1) [.int .i64 (-219902325555), .int .i64 0, .int .i64 0] w') ⟨(K1.new _ _ (by omega) _), (f1.new (w.heap.size + 1 + 1) 0 (Nat.ne_of_lt y3_BF) (.int .i64 (-219902325555))), (B0_1.new (w.heap.size + 1 + 1) 0 (Nat.ne_of_lt y3_B0) (.int .i64 (-219902325555))), (B1_1.new (w.heap.size + 1 + 1) 0 (Nat.ne_of_lt y3_B1) (.int .i64 (-219902325555))), (B2_1.put 0 (of_decide_eq_true rfl) (.int .i64 (-219902325555)) [.int .i64 (-219902325555), .int .i64 0, .int .i64 0] rfl)⟩ ?_
      rintro w2 ⟨K2, BF_2, B0_2, B1_2, B2_2⟩
      have z2 := B2_2.lies
      clear K1 f1 B0_1 B1_1 B2_1
      rw [rounds_succ]
      have c4_B0_6 : w2.cell? ⟨w.heap.size, 6, none⟩ = some (.int .i64 d.2.2.2.2.2.1) := B0_2.c 6 (of_decide_eq_true rfl)
      go_wp2_with fail
      refine (rMul_any b r1.2 d.2.2.2.2.2.1 (-274877906944) _ BF_2).mono ?_
      rintro e w3 ⟨rfl, f3, k3⟩
      generalize e3 : mulS r1.2 d.2.2.2.2.2.1 (-274877906944) = r3 at f3 ⊢
      have E3 : Hid _ := e3
      clear e3
      have K3 : Kept b w w3 := Kept.trans K2 k3
      have B0_3 : Arr w.heap.size [.bool true, .int .i64 d.1, .int .i64 d.2.1, .int .i64 d.2.2.1, .int .i64 d.2.2.2.1, .int .i64 d.2.2.2.2.1, .int .i64 d.2.2.2.2.2.1, .int .i64 d.2.2.2.2.2.2] w3 := B0_2.kept k3 (Nat.ne_of_gt y1_BF)
      have B1_3 : Arr (w.heap.size + 1) [.int .i64 0, .int .i64 0, .int .i64 0] w3 := B1_2.kept k3 (Nat.ne_of_gt y2_BF)
      have B2_3 : Arr (w.heap.size + 1 + 1) [.int .i64 (-219902325555), .int .i64 0, .int .i64 0] w3 := B2_2.kept k3 (Nat.ne_of_gt y3_BF)
      have z3 := B2_3.lies
      clear c4_B0_6 K2 BF_2 B0_2 B1_2 B2_2 k3
      by_cases hc3 : r3.1 > 219902325555
      · have Hhc3 : Hid (r3.1 > 219902325555) := hc3
        have c5_B2_1 : w3.cell? ⟨w.heap.size + 1 + 1, 1, none⟩ = some (.int .i64 0) := B2_3.c 1 (of_decide_eq_true rfl)
        have g5_B2_1 := B2_3.f 1 (of_decide_eq_true rfl)
        go_wp2_with fail
        clear c5_B2_1 g5_B2_1
        refine rounds_letter (S := fun w' => Kept b w w' ∧ Fl b r3.2 w' ∧ Arr w.heap.size [.bool true, .int .i64 d.1, .int .i64 d.2.1, .int .i64 d.2.2.1, .int .i64 d.2.2.2.1, .int .i64 d.2.2.2.2.1, .int .i64 d.2.2.2.2.2.1, .int .i64 d.2.2.2.2.2.2] w' ∧ Arr (w.heap.size + 1) [.int .i64 0, .int .i64 0, .int .i64 0] w' ∧ Arr (w.heap.size + 1 + 1) [.int .i64 (-219902325555), .int .i64 219902325555, .int .i64 0] w') ⟨(K3.new _ _ (by omega) _), (f3.new (w.heap.size + 1 + 1) 1 (Nat.ne_of_lt y3_BF) (.int .i64 219902325555)), (B0_3.new (w.heap.size + 1 + 1) 1 (Nat.ne_of_lt y3_B0) (.int .i64 219902325555)), (B1_3.new (w.heap.size + 1 + 1) 1 (Nat.ne_of_lt y3_B1) (.int .i64 219902325555)), (B2_3.put 1 (of_decide_eq_true rfl) (.int .i64 219902325555) [.int .i64 (-219902325555), .int .i64 219902325555, .int .i64 0] rfl)⟩ ?_
        rintro w4 ⟨K4, BF_4, B0_4, B1_4, B2_4⟩
        have z4 := B2_4.lies
        clear K3 f3 B0_3 B1_3 B2_3
        rw [rounds_succ]
        have c6_B0_7 : w4.cell? ⟨w.heap.size, 7, none⟩ = some (.int .i64 d.2.2.2.2.2.2) := B0_4.c 7 (of_decide_eq_true rfl)
        go_wp2_with fail
        refine (rMul_any b r3.2 d.2.2.2.2.2.2 (-274877906944) _ BF_4).mono ?_
        rintro e w5 ⟨rfl, f5, k5⟩
        generalize e5 : mulS r3.2 d.2.2.2.2.2.2 (-274877906944) = r5 at f5 ⊢
        have E5 : Hid _ := e5
        clear e5
        have K5 : Kept b w w5 := Kept.trans K4 k5
        have B0_5 : Arr w.heap.size [.bool true, .int .i64 d.1, .int .i64 d.2.1, .int .i64 d.2.2.1, .int .i64 d.2.2.2.1, .int .i64 d.2.2.2.2.1, .int .i64 d.2.2.2.2.2.1, .int .i64 d.2.2.2.2.2.2] w5 := B0_4.kept k5 (Nat.ne_of_gt y1_BF)
        have B1_5 : Arr (w.heap.size + 1) [.int .i64 0, .int .i64 0, .int .i64 0] w5 := B1_4.kept k5 (Nat.ne_of_gt y2_BF)
        have B2_5 : Arr (w.heap.size + 1 + 1) [.int .i64 (-219902325555), .int .i64 219902325555, .int .i64 0] w5 := B2_4.kept k5 (Nat.ne_of_gt y3_BF)
        have z5 := B2_5.lies
        clear c6_B0_7 K4 BF_4 B0_4 B1_4 B2_4 k5
        by_cases hc4 : r5.1 > 219902325555
        · have Hhc4 : Hid (r5.1 > 219902325555) := hc4
          have c7_B2_2 : w5.cell? ⟨w.heap.size + 1 + 1, 2, none⟩ = some (.int .i64 0) := B2_5.c 2 (of_decide_eq_true rfl)
          have g7_B2_2 := B2_5.f 2 (of_decide_eq_true rfl)
          go_wp2_with fail
          clear c7_B2_2 g7_B2_2
          refine rounds_letter (S := fun w' => Kept b w w' ∧ Fl b r5.2 w' ∧ Arr w.heap.size [.bool true, .int .i64 d.1, .int .i64 d.2.1, .int .i64 d.2.2.1, .int .i64 d.2.2.2.1, .int .i64 d.2.2.2.2.1, .int .i64 d.2.2.2.2.2.1, .int .i64 d.2.2.2.2.2.2] w' ∧ Arr (w.heap.size + 1) [.int .i64 0, .int .i64 0, .int .i64 0] w' ∧ Arr (w.heap.size + 1 + 1) [.int .i64 (-219902325555), .int .i64 219902325555, .int .i64 219902325555] w') ⟨(K5.new _ _ (by omega) _), (f5.new (w.heap.size + 1 + 1) 2 (Nat.ne_of_lt y3_BF) (.int .i64 219902325555)), (B0_5.new (w.heap.size + 1 + 1) 2 (Nat.ne_of_lt y3_B0) (.int .i64 219902325555)), (B1_5.new (w.heap.size + 1 + 1) 2 (Nat.ne_of_lt y3_B1) (.int .i64 219902325555)), (B2_5.put 2 (of_decide_eq_true rfl) (.int .i64 219902325555) [.int .i64 (-219902325555), .int .i64 219902325555, .int .i64 219902325555] rfl)⟩ ?_
          rintro w6 ⟨K6, BF_6, B0_6, B1_6, B2_6⟩
          have z6 := B2_6.lies
          clear K5 f5 B0_5 B1_5 B2_5
          rw [rounds_succ]
          rcases Bool.eq_false_or_eq_true r5.2 with hc5 | hc5
          · have Hhc5 : Hid (r5.2 = true) := hc5
            have c8_B1_0 : w6.cell? ⟨w.heap.size + 1, 0, none⟩ = some (.int .i64 0) := B1_6.c 0 (of_decide_eq_true rfl)
            have c8_B1_1 : w6.cell? ⟨w.heap.size + 1, 1, none⟩ = some (.int .i64 0) := B1_6.c 1 (of_decide_eq_true rfl)
            have c8_B1_2 : w6.cell? ⟨w.heap.size + 1, 2, none⟩ = some (.int .i64 0) := B1_6.c 2 (of_decide_eq_true rfl)
            have c8_BF := BF_6.cell
            have g8_B1_0 := B1_6.f 0 (of_decide_eq_true rfl)
            have g8_B1_1 := B1_6.f 1 (of_decide_eq_true rfl)
            have g8_B1_2 := B1_6.f 2 (of_decide_eq_true rfl)
            go_wp2_with (with_reducible refine post_stop ?_)
            refine Stop.mk ?_
            clear c8_B1_0 c8_B1_1 c8_B1_2 c8_BF g8_B1_0 g8_B1_1 g8_B1_2
            refine bodyPost_ret (v := .agg #[.int .i64 0, .int .i64 0, .int .i64 0]) (results_arr Try.results11 (((B1_6.put 0 (of_decide_eq_true rfl) (.int .i64 0) [.int .i64 0, .int .i64 0, .int .i64 0] rfl).put 1 (of_decide_eq_true rfl) (.int .i64 0) [.int .i64 0, .int .i64 0, .int .i64 0] rfl).put 2 (of_decide_eq_true rfl) (.int .i64 0) [.int .i64 0, .int .i64 0, .int .i64 0] rfl) rfl (by kernel_rfl) (by kernel_rfl)) rfl ?_
            have hs : rDip1 bad d = ((0, 0, 0), r5.2) := by unfold rDip1; simp only [E1.out, E3.out, E5.out]; rw [if_pos Hhc5.out]
            rw [hs]
            exact ⟨rfl, (((BF_6.new (w.heap.size + 1) 0 (Nat.ne_of_lt y2_BF) (.int .i64 0)).new (w.heap.size + 1) 1 (Nat.ne_of_lt y2_BF) (.int .i64 0)).new (w.heap.size + 1) 2 (Nat.ne_of_lt y2_BF) (.int .i64 0)), (((K6.new _ _ (by omega) _).new _ _ (by omega) _).new _ _ (by omega) _)⟩
          · have Hhc5 : Hid (r5.2 = false) := hc5
            have c8_B1_0 : w6.cell? ⟨w.heap.size + 1, 0, none⟩ = some (.int .i64 0) := B1_6.c 0 (of_decide_eq_true rfl)
            have c8_B1_1 : w6.cell? ⟨w.heap.size + 1, 1, none⟩ = some (.int .i64 0) := B1_6.c 1 (of_decide_eq_true rfl)
            have c8_B1_2 : w6.cell? ⟨w.heap.size + 1, 2, none⟩ = some (.int .i64 0) := B1_6.c 2 (of_decide_eq_true rfl)
            have c8_B2_0 : w6.cell? ⟨w.heap.size + 1 + 1, 0, none⟩ = some (.int .i64 (-219902325555)) := B2_6.c 0 (of_decide_eq_true rfl)
            have c8_B2_1 : w6.cell? ⟨w.heap.size + 1 + 1, 1, none⟩ = some (.int .i64 219902325555) := B2_6.c 1 (of_decide_eq_true rfl)
            have c8_B2_2 : w6.cell? ⟨w.heap.size + 1 + 1, 2, none⟩ = some (.int .i64 219902325555) := B2_6.c 2 (of_decide_eq_true rfl)
            have c8_BF := BF_6.cell
            have g8_B1_0 := B1_6.f 0 (of_decide_eq_true rfl)
            have g8_B1_1 := B1_6.f 1 (of_decide_eq_true rfl)
            have g8_B1_2 := B1_6.f 2 (of_decide_eq_true rfl)
            go_wp2_with (with_reducible refine post_stop ?_)
            refine Stop.mk ?_
            clear c8_B1_0 c8_B1_1 c8_B1_2 c8_B2_0 c8_B2_1 c8_B2_2 c8_BF g8_B1_0 g8_B1_1 g8_B1_2
            refine bodyPost_ret (v := .agg #[.int .i64 (-219902325555), .int .i64 219902325555, .int .i64 219902325555]) (results_arr Try.results11 (((B1_6.put 0 (of_decide_eq_true rfl) (.int .i64 (-219902325555)) [.int .i64 (-219902325555), .int .i64 0, .int .i64 0] rfl).put 1 (of_decide_eq_true rfl) (.int .i64 219902325555) [.int .i64 (-219902325555), .int .i64 219902325555, .int .i64 0] rfl).put 2 (of_decide_eq_true rfl) (.int .i64 219902325555) [.int .i64 (-219902325555), .int .i64 219902325555, .int .i64 219902325555] rfl) rfl (by kernel_rfl) (by kernel_rfl)) rfl ?_
            have hs : rDip1 bad d = (((-219902325555), 219902325555, 219902325555), r5.2) := by unfold rDip1; simp only [E1.out, E3.out, E5.out]; rw [if_neg (by rw [Hhc5.out]; decide)]; rw [show clampS r1.1 = (-219902325555) by unfold clampS; omega, show clampS r3.1 = 219902325555 by unfold clampS; omega, show clampS r5.1 = 219902325555 by unfold clampS; omega]
            rw [hs]
            exact ⟨rfl, (((BF_6.new (w.heap.size + 1) 0 (Nat.ne_of_lt y2_BF) (.int .i64 (-219902325555))).new (w.heap.size + 1) 1 (Nat.ne_of_lt y2_BF) (.int .i64 219902325555)).new (w.heap.size + 1) 2 (Nat.ne_of_lt y2_BF) (.int .i64 219902325555)), (((K6.new _ _ (by omega) _).new _ _ (by omega) _).new _ _ (by omega) _)⟩
        · have Hhc4 : Hid (¬ r5.1 > 219902325555) := hc4
          by_cases hc5 : r5.1 < (-219902325555)
          · have Hhc5 : Hid (r5.1 < (-219902325555)) := hc5
            have c7_B2_2 : w5.cell? ⟨w.heap.size + 1 + 1, 2, none⟩ = some (.int .i64 0) := B2_5.c 2 (of_decide_eq_true rfl)
            have g7_B2_2 := B2_5.f 2 (of_decide_eq_true rfl)
            go_wp2_with fail
            clear c7_B2_2 g7_B2_2
            refine rounds_letter (S := fun w' => Kept b w w' ∧ Fl b r5.2 w' ∧ Arr w.heap.size [.bool true, .int .i64 d.1, .int .i64 d.2.1, .int .i64 d.2.2.1, .int .i64 d.2.2.2.1, .int .i64 d.2.2.2.2.1, .int .i64 d.2.2.2.2.2.1, .int .i64 d.2.2.2.2.2.2] w' ∧ Arr (w.heap.size + 1) [.int .i64 0, .int .i64 0, .int .i64 0] w' ∧ Arr (w.heap.size + 1 + 1) [.int .i64 (-219902325555), .int .i64 219902325555, .int .i64 (-219902325555)] w') ⟨(K5.new _ _ (by omega) _), (f5.new (w.heap.size + 1 + 1) 2 (Nat.ne_of_lt y3_BF) (.int .i64 (-219902325555))), (B0_5.new (w.heap.size + 1 + 1) 2 (Nat.ne_of_lt y3_B0) (.int .i64 (-219902325555))), (B1_5.new (w.heap.size + 1 + 1) 2 (Nat.ne_of_lt y3_B1) (.int .i64 (-219902325555))), (B2_5.put 2 (of_decide_eq_true rfl) (.int .i64 (-219902325555)) [.int .i64 (-219902325555), .int .i64 219902325555, .int .i64 (-219902325555)] rfl)⟩ ?_
            rintro w6 ⟨K6, BF_6, B0_6, B1_6, B2_6⟩
            have z6 := B2_6.lies
            clear K5 f5 B0_5 B1_5 B2_5
            rw [rounds_succ]
            rcases Bool.eq_false_or_eq_true r5.2 with hc6 | hc6
            · have Hhc6 : Hid (r5.2 = true) := hc6
              have c8_B1_0 : w6.cell? ⟨w.heap.size + 1, 0, none⟩ = some (.int .i64 0) := B1_6.c 0 (of_decide_eq_true rfl)
              have c8_B1_1 : w6.cell? ⟨w.heap.size + 1, 1, none⟩ = some (.int .i64 0) := B1_6.c 1 (of_decide_eq_true rfl)
              have c8_B1_2 : w6.cell? ⟨w.heap.size + 1, 2, none⟩ = some (.int .i64 0) := B1_6.c 2 (of_decide_eq_true rfl)
              have c8_BF := BF_6.cell
              have g8_B1_0 := B1_6.f 0 (of_decide_eq_true rfl)
              have g8_B1_1 := B1_6.f 1 (of_decide_eq_true rfl)
              have g8_B1_2 := B1_6.f 2 (of_decide_eq_true rfl)
              go_wp2_with (with_reducible refine post_stop ?_)
              refine Stop.mk ?_
              clear c8_B1_0 c8_B1_1 c8_B1_2 c8_BF g8_B1_0 g8_B1_1 g8_B1_2
              refine bodyPost_ret (v := .agg #[.int .i64 0, .int .i64 0, .int .i64 0]) (results_arr Try.results11 (((B1_6.put 0 (of_decide_eq_true rfl) (.int .i64 0) [.int .i64 0, .int .i64 0, .int .i64 0] rfl).put 1 (of_decide_eq_true rfl) (.int .i64 0) [.int .i64 0, .int .i64 0, .int .i64 0] rfl).put 2 (of_decide_eq_true rfl) (.int .i64 0) [.int .i64 0, .int .i64 0, .int .i64 0] rfl) rfl (by kernel_rfl) (by kernel_rfl)) rfl ?_
              have hs : rDip1 bad d = ((0, 0, 0), r5.2) := by unfold rDip1; simp only [E1.out, E3.out, E5.out]; rw [if_pos Hhc6.out]
              rw [hs]
              exact ⟨rfl, (((BF_6.new (w.heap.size + 1) 0 (Nat.ne_of_lt y2_BF) (.int .i64 0)).new (w.heap.size + 1) 1 (Nat.ne_of_lt y2_BF) (.int .i64 0)).new (w.heap.size + 1) 2 (Nat.ne_of_lt y2_BF) (.int .i64 0)), (((K6.new _ _ (by omega) _).new _ _ (by omega) _).new _ _ (by omega) _)⟩
            · have Hhc6 : Hid (r5.2 = false) := hc6
              have c8_B1_0 : w6.cell? ⟨w.heap.size + 1, 0, none⟩ = some (.int .i64 0) := B1_6.c 0 (of_decide_eq_true rfl)
              have c8_B1_1 : w6.cell? ⟨w.heap.size + 1, 1, none⟩ = some (.int .i64 0) := B1_6.c 1 (of_decide_eq_true rfl)
              have c8_B1_2 : w6.cell? ⟨w.heap.size + 1, 2, none⟩ = some (.int .i64 0) := B1_6.c 2 (of_decide_eq_true rfl)
              have c8_B2_0 : w6.cell? ⟨w.heap.size + 1 + 1, 0, none⟩ = some (.int .i64 (-219902325555)) := B2_6.c 0 (of_decide_eq_true rfl)
              have c8_B2_1 : w6.cell? ⟨w.heap.size + 1 + 1, 1, none⟩ = some (.int .i64 219902325555) := B2_6.c 1 (of_decide_eq_true rfl)
              have c8_B2_2 : w6.cell? ⟨w.heap.size + 1 + 1, 2, none⟩ = some (.int .i64 (-219902325555)) := B2_6.c 2 (of_decide_eq_true rfl)
              have c8_BF := BF_6.cell
              have g8_B1_0 := B1_6.f 0 (of_decide_eq_true rfl)
              have g8_B1_1 := B1_6.f 1 (of_decide_eq_true rfl)
              have g8_B1_2 := B1_6.f 2 (of_decide_eq_true rfl)
              go_wp2_with (with_reducible refine post_stop ?_)
              refine Stop.mk ?_
              clear c8_B1_0 c8_B1_1 c8_B1_2 c8_B2_0 c8_B2_1 c8_B2_2 c8_BF g8_B1_0 g8_B1_1 g8_B1_2
              refine bodyPost_ret (v := .agg #[.int .i64 (-219902325555), .int .i64 219902325555, .int .i64 (-219902325555)]) (results_arr Try.results11 (((B1_6.put 0 (of_decide_eq_true rfl) (.int .i64 (-219902325555)) [.int .i64 (-219902325555), .int .i64 0, .int .i64 0] rfl).put 1 (of_decide_eq_true rfl) (.int .i64 219902325555) [.int .i64 (-219902325555), .int .i64 219902325555, .int .i64 0] rfl).put 2 (of_decide_eq_true rfl) (.int .i64 (-219902325555)) [.int .i64 (-219902325555), .int .i64 219902325555, .int .i64 (-219902325555)] rfl) rfl (by kernel_rfl) (by kernel_rfl)) rfl ?_
              have hs : rDip1 bad d = (((-219902325555), 219902325555, (-219902325555)), r5.2) := by unfold rDip1; simp only [E1.out, E3.out, E5.out]; rw [if_neg (by rw [Hhc6.out]; decide)]; rw [show clampS r1.1 = (-219902325555) by unfold clampS; omega, show clampS r3.1 = 219902325555 by unfold clampS; omega, show clampS r5.1 = (-219902325555) by unfold clampS; omega]
              rw [hs]
              exact ⟨rfl, (((BF_6.new (w.heap.size + 1) 0 (Nat.ne_of_lt y2_BF) (.int .i64 (-219902325555))).new (w.heap.size + 1) 1 (Nat.ne_of_lt y2_BF) (.int .i64 219902325555)).new (w.heap.size + 1) 2 (Nat.ne_of_lt y2_BF) (.int .i64 (-219902325555))), (((K6.new _ _ (by omega) _).new _ _ (by omega) _).new _ _ (by omega) _)⟩
          · have Hhc5 : Hid (¬ r5.1 < (-219902325555)) := hc5
            have c7_B2_2 : w5.cell? ⟨w.heap.size + 1 + 1, 2, none⟩ = some (.int .i64 0) := B2_5.c 2 (of_decide_eq_true rfl)
            have g7_B2_2 := B2_5.f 2 (of_decide_eq_true rfl)
            go_wp2_with fail
            clear c7_B2_2 g7_B2_2
            refine rounds_letter (S := fun w' => Kept b w w' ∧ Fl b r5.2 w' ∧ Arr w.heap.size [.bool true, .int .i64 d.1, .int .i64 d.2.1, .int .i64 d.2.2.1, .int .i64 d.2.2.2.1, .int .i64 d.2.2.2.2.1, .int .i64 d.2.2.2.2.2.1, .int .i64 d.2.2.2.2.2.2] w' ∧ Arr (w.heap.size + 1) [.int .i64 0, .int .i64 0, .int .i64 0] w' ∧ Arr (w.heap.size + 1 + 1) [.int .i64 (-219902325555), .int .i64 219902325555, .int .i64 r5.1] w') ⟨(K5.new _ _ (by omega) _), (f5.new (w.heap.size + 1 + 1) 2 (Nat.ne_of_lt y3_BF) (.int .i64 r5.1)), (B0_5.new (w.heap.size + 1 + 1) 2 (Nat.ne_of_lt y3_B0) (.int .i64 r5.1)), (B1_5.new (w.heap.size + 1 + 1) 2 (Nat.ne_of_lt y3_B1) (.int .i64 r5.1)), (B2_5.put 2 (of_decide_eq_true rfl) (.int .i64 r5.1) [.int .i64 (-219902325555), .int .i64 219902325555, .int .i64 r5.1] rfl)⟩ ?_
            rintro w6 ⟨K6, BF_6, B0_6, B1_6, B2_6⟩
            have z6 := B2_6.lies
            clear K5 f5 B0_5 B1_5 B2_5
            rw [rounds_succ]
            rcases Bool.eq_false_or_eq_true r5.2 with hc6 | hc6
            · have Hhc6 : Hid (r5.2 = true) := hc6
              have c8_B1_0 : w6.cell? ⟨w.heap.size + 1, 0, none⟩ = some (.int .i64 0) := B1_6.c 0 (of_decide_eq_true rfl)
              have c8_B1_1 : w6.cell? ⟨w.heap.size + 1, 1, none⟩ = some (.int .i64 0) := B1_6.c 1 (of_decide_eq_true rfl)
              have c8_B1_2 : w6.cell? ⟨w.heap.size + 1, 2, none⟩ = some (.int .i64 0) := B1_6.c 2 (of_decide_eq_true rfl)
              have c8_BF := BF_6.cell
              have g8_B1_0 := B1_6.f 0 (of_decide_eq_true rfl)
              have g8_B1_1 := B1_6.f 1 (of_decide_eq_true rfl)
              have g8_B1_2 := B1_6.f 2 (of_decide_eq_true rfl)
              go_wp2_with (with_reducible refine post_stop ?_)
              refine Stop.mk ?_
              clear c8_B1_0 c8_B1_1 c8_B1_2 c8_BF g8_B1_0 g8_B1_1 g8_B1_2
              refine bodyPost_ret (v := .agg #[.int .i64 0, .int .i64 0, .int .i64 0]) (results_arr Try.results11 (((B1_6.put 0 (of_decide_eq_true rfl) (.int .i64 0) [.int .i64 0, .int .i64 0, .int .i64 0] rfl).put 1 (of_decide_eq_true rfl) (.int .i64 0) [.int .i64 0, .int .i64 0, .int .i64 0] rfl).put 2 (of_decide_eq_true rfl) (.int .i64 0) [.int .i64 0, .int .i64 0, .int .i64 0] rfl) rfl (by kernel_rfl) (by kernel_rfl)) rfl ?_
              have hs : rDip1 bad d = ((0, 0, 0), r5.2) := by unfold rDip1; simp only [E1.out, E3.out, E5.out]; rw [if_pos Hhc6.out]
              rw [hs]
              exact ⟨rfl, (((BF_6.new (w.heap.size + 1) 0 (Nat.ne_of_lt y2_BF) (.int .i64 0)).new (w.heap.size + 1) 1 (Nat.ne_of_lt y2_BF) (.int .i64 0)).new (w.heap.size + 1) 2 (Nat.ne_of_lt y2_BF) (.int .i64 0)), (((K6.new _ _ (by omega) _).new _ _ (by omega) _).new _ _ (by omega) _)⟩
            · have Hhc6 : Hid (r5.2 = false) := hc6
              have c8_B1_0 : w6.cell? ⟨w.heap.size + 1, 0, none⟩ = some (.int .i64 0) := B1_6.c 0 (of_decide_eq_true rfl)
              have c8_B1_1 : w6.cell? ⟨w.heap.size + 1, 1, none⟩ = some (.int .i64 0) := B1_6.c 1 (of_decide_eq_true rfl)
              have c8_B1_2 : w6.cell? ⟨w.heap.size + 1, 2, none⟩ = some (.int .i64 0) := B1_6.c 2 (of_decide_eq_true rfl)
              have c8_B2_0 : w6.cell? ⟨w.heap.size + 1 + 1, 0, none⟩ = some (.int .i64 (-219902325555)) := B2_6.c 0 (of_decide_eq_true rfl)
              have c8_B2_1 : w6.cell? ⟨w.heap.size + 1 + 1, 1, none⟩ = some (.int .i64 219902325555) := B2_6.c 1 (of_decide_eq_true rfl)
              have c8_B2_2 : w6.cell? ⟨w.heap.size + 1 + 1, 2, none⟩ = some (.int .i64 r5.1) := B2_6.c 2 (of_decide_eq_true rfl)
              have c8_BF := BF_6.cell
              have g8_B1_0 := B1_6.f 0 (of_decide_eq_true rfl)
              have g8_B1_1 := B1_6.f 1 (of_decide_eq_true rfl)
              have g8_B1_2 := B1_6.f 2 (of_decide_eq_true rfl)
              go_wp2_with (with_reducible refine post_stop ?_)
              refine Stop.mk ?_
              clear c8_B1_0 c8_B1_1 c8_B1_2 c8_B2_0 c8_B2_1 c8_B2_2 c8_BF g8_B1_0 g8_B1_1 g8_B1_2
              refine bodyPost_ret (v := .agg #[.int .i64 (-219902325555), .int .i64 219902325555, .int .i64 r5.1]) (results_arr Try.results11 (((B1_6.put 0 (of_decide_eq_true rfl) (.int .i64 (-219902325555)) [.int .i64 (-219902325555), .int .i64 0, .int .i64 0] rfl).put 1 (of_decide_eq_true rfl) (.int .i64 219902325555) [.int .i64 (-219902325555), .int .i64 219902325555, .int .i64 0] rfl).put 2 (of_decide_eq_true rfl) (.int .i64 r5.1) [.int .i64 (-219902325555), .int .i64 219902325555, .int .i64 r5.1] rfl) rfl (by kernel_rfl) (by kernel_rfl)) rfl ?_
              have hs : rDip1 bad d = (((-219902325555), 219902325555, r5.1), r5.2) := by unfold rDip1; simp only [E1.out, E3.out, E5.out]; rw [if_neg (by rw [Hhc6.out]; decide)]; rw [show clampS r1.1 = (-219902325555) by unfold clampS; omega, show clampS r3.1 = 219902325555 by unfold clampS; omega, show clampS r5.1 = r5.1 by unfold clampS; omega]
              rw [hs]
              exact ⟨rfl, (((BF_6.new (w.heap.size + 1) 0 (Nat.ne_of_lt y2_BF) (.int .i64 (-219902325555))).new (w.heap.size + 1) 1 (Nat.ne_of_lt y2_BF) (.int .i64 219902325555)).new (w.heap.size + 1) 2 (Nat.ne_of_lt y2_BF) (.int .i64 r5.1)), (((K6.new _ _ (by omega) _).new _ _ (by omega) _).new _ _ (by omega) _)⟩
      · have Hhc3 : Hid (¬ r3.1 > 219902325555) := hc3
        by_cases hc4 : r3.1 < (-219902325555)
        · have Hhc4 : Hid (r3.1 < (-219902325555)) := hc4
          have c5_B2_1 : w3.cell? ⟨w.heap.size + 1 + 1, 1, none⟩ = some (.int .i64 0) := B2_3.c 1 (of_decide_eq_true rfl)
          have g5_B2_1 := B2_3.f 1 (of_decide_eq_true rfl)
          go_wp2_with fail
          clear c5_B2_1 g5_B2_1
          refine rounds_letter (S := fun w' => Kept b w w' ∧ Fl b r3.2 w' ∧ Arr w.heap.size [.bool true, .int .i64 d.1, .int .i64 d.2.1, .int .i64 d.2.2.1, .int .i64 d.2.2.2.1, .int .i64 d.2.2.2.2.1, .int .i64 d.2.2.2.2.2.1, .int .i64 d.2.2.2.2.2.2] w' ∧ Arr (w.heap.size + 1) [.int .i64 0, .int .i64 0, .int .i64 0] w' ∧ Arr (w.heap.size + 1 + 1) [.int .i64 (-219902325555), .int .i64 (-219902325555), .int .i64 0] w') ⟨(K3.new _ _ (by omega) _), (f3.new (w.heap.size + 1 + 1) 1 (Nat.ne_of_lt y3_BF) (.int .i64 (-219902325555))), (B0_3.new (w.heap.size + 1 + 1) 1 (Nat.ne_of_lt y3_B0) (.int .i64 (-219902325555))), (B1_3.new (w.heap.size + 1 + 1) 1 (Nat.ne_of_lt y3_B1) (.int .i64 (-219902325555))), (B2_3.put 1 (of_decide_eq_true rfl) (.int .i64 (-219902325555)) [.int .i64 (-219902325555), .int .i64 (-219902325555), .int .i64 0] rfl)⟩ ?_
          rintro w4 ⟨K4, BF_4, B0_4, B1_4, B2_4⟩
          have z4 := B2_4.lies
          clear K3 f3 B0_3 B1_3 B2_3
          rw [rounds_succ]
          have c6_B0_7 : w4.cell? ⟨w.heap.size, 7, none⟩ = some (.int .i64 d.2.2.2.2.2.2) := B0_4.c 7 (of_decide_eq_true rfl)
          go_wp2_with fail
          refine (rMul_any b r3.2 d.2.2.2.2.2.2 (-274877906944) _ BF_4).mono ?_
          rintro e w5 ⟨rfl, f5, k5⟩
          generalize e5 : mulS r3.2 d.2.2.2.2.2.2 (-274877906944) = r5 at f5 ⊢
          have E5 : Hid _ := e5
          clear e5
          have K5 : Kept b w w5 := Kept.trans K4 k5
          have B0_5 : Arr w.heap.size [.bool true, .int .i64 d.1, .int .i64 d.2.1, .int .i64 d.2.2.1, .int .i64 d.2.2.2.1, .int .i64 d.2.2.2.2.1, .int .i64 d.2.2.2.2.2.1, .int .i64 d.2.2.2.2.2.2] w5 := B0_4.kept k5 (Nat.ne_of_gt y1_BF)
          have B1_5 : Arr (w.heap.size + 1) [.int .i64 0, .int .i64 0, .int .i64 0] w5 := B1_4.kept k5 (Nat.ne_of_gt y2_BF)
          have B2_5 : Arr (w.heap.size + 1 + 1) [.int .i64 (-219902325555), .int .i64 (-219902325555), .int .i64 0] w5 := B2_4.kept k5 (Nat.ne_of_gt y3_BF)
          have z5 := B2_5.lies
          clear c6_B0_7 K4 BF_4 B0_4 B1_4 B2_4 k5
          by_cases hc5 : r5.1 > 219902325555
          · have Hhc5 : Hid (r5.1 > 219902325555) := hc5
            have c7_B2_2 : w5.cell? ⟨w.heap.size + 1 + 1, 2, none⟩ = some (.int .i64 0) := B2_5.c 2 (of_decide_eq_true rfl)
            have g7_B2_2 := B2_5.f 2 (of_decide_eq_true rfl)
            go_wp2_with fail
            clear c7_B2_2 g7_B2_2
            refine rounds_letter (S := fun w' => Kept b w w' ∧ Fl b r5.2 w' ∧ Arr w.heap.size [.bool true, .int .i64 d.1, .int .i64 d.2.1, .int .i64 d.2.2.1, .int .i64 d.2.2.2.1, .int .i64 d.2.2.2.2.1, .int .i64 d.2.2.2.2.2.1, .int .i64 d.2.2.2.2.2.2] w' ∧ Arr (w.heap.size + 1) [.int .i64 0, .int .i64 0, .int .i64 0] w' ∧ Arr (w.heap.size + 1 + 1) [.int .i64 (-219902325555), .int .i64 (-219902325555), .int .i64 219902325555] w') ⟨(K5.new _ _ (by omega) _), (f5.new (w.heap.size + 1 + 1) 2 (Nat.ne_of_lt y3_BF) (.int .i64 219902325555)), (B0_5.new (w.heap.size + 1 + 1) 2 (Nat.ne_of_lt y3_B0) (.int .i64 219902325555)), (B1_5.new (w.heap.size + 1 + 1) 2 (Nat.ne_of_lt y3_B1) (.int .i64 219902325555)), (B2_5.put 2 (of_decide_eq_true rfl) (.int .i64 219902325555) [.int .i64 (-219902325555), .int .i64 (-219902325555), .int .i64 219902325555] rfl)⟩ ?_
            rintro w6 ⟨K6, BF_6, B0_6, B1_6, B2_6⟩
            have z6 := B2_6.lies
            clear K5 f5 B0_5 B1_5 B2_5
            rw [rounds_succ]
            rcases Bool.eq_false_or_eq_true r5.2 with hc6 | hc6
            · have Hhc6 : Hid (r5.2 = true) := hc6
              have c8_B1_0 : w6.cell? ⟨w.heap.size + 1, 0, none⟩ = some (.int .i64 0) := B1_6.c 0 (of_decide_eq_true rfl)
              have c8_B1_1 : w6.cell? ⟨w.heap.size + 1, 1, none⟩ = some (.int .i64 0) := B1_6.c 1 (of_decide_eq_true rfl)
              have c8_B1_2 : w6.cell? ⟨w.heap.size + 1, 2, none⟩ = some (.int .i64 0) := B1_6.c 2 (of_decide_eq_true rfl)
              have c8_BF := BF_6.cell
              have g8_B1_0 := B1_6.f 0 (of_decide_eq_true rfl)
              have g8_B1_1 := B1_6.f 1 (of_decide_eq_true rfl)
              have g8_B1_2 := B1_6.f 2 (of_decide_eq_true rfl)
              go_wp2_with (with_reducible refine post_stop ?_)
              refine Stop.mk ?_
              clear c8_B1_0 c8_B1_1 c8_B1_2 c8_BF g8_B1_0 g8_B1_1 g8_B1_2
              refine bodyPost_ret (v := .agg #[.int .i64 0, .int .i64 0, .int .i64 0]) (results_arr Try.results11 (((B1_6.put 0 (of_decide_eq_true rfl) (.int .i64 0) [.int .i64 0, .int .i64 0, .int .i64 0] rfl).put 1 (of_decide_eq_true rfl) (.int .i64 0) [.int .i64 0, .int .i64 0, .int .i64 0] rfl).put 2 (of_decide_eq_true rfl) (.int .i64 0) [.int .i64 0, .int .i64 0, .int .i64 0] rfl) rfl (by kernel_rfl) (by kernel_rfl)) rfl ?_
              have hs : rDip1 bad d = ((0, 0, 0), r5.2) := by unfold rDip1; simp only [E1.out, E3.out, E5.out]; rw [if_pos Hhc6.out]
              rw [hs]
              exact ⟨rfl, (((BF_6.new (w.heap.size + 1) 0 (Nat.ne_of_lt y2_BF) (.int .i64 0)).new (w.heap.size + 1) 1 (Nat.ne_of_lt y2_BF) (.int .i64 0)).new (w.heap.size + 1) 2 (Nat.ne_of_lt y2_BF) (.int .i64 0)), (((K6.new _ _ (by omega) _).new _ _ (by omega) _).new _ _ (by omega) _)⟩
            · have Hhc6 : Hid (r5.2 = false) := hc6
              have c8_B1_0 : w6.cell? ⟨w.heap.size + 1, 0, none⟩ = some (.int .i64 0) := B1_6.c 0 (of_decide_eq_true rfl)
              have c8_B1_1 : w6.cell? ⟨w.heap.size + 1, 1, none⟩ = some (.int .i64 0) := B1_6.c 1 (of_decide_eq_true rfl)
              have c8_B1_2 : w6.cell? ⟨w.heap.size + 1, 2, none⟩ = some (.int .i64 0) := B1_6.c 2 (of_decide_eq_true rfl)
              have c8_B2_0 : w6.cell? ⟨w.heap.size + 1 + 1, 0, none⟩ = some (.int .i64 (-219902325555)) := B2_6.c 0 (of_decide_eq_true rfl)
              have c8_B2_1 : w6.cell? ⟨w.heap.size + 1 + 1, 1, none⟩ = some (.int .i64 (-219902325555)) := B2_6.c 1 (of_decide_eq_true rfl)
              have c8_B2_2 : w6.cell? ⟨w.heap.size + 1 + 1, 2, none⟩ = some (.int .i64 219902325555) := B2_6.c 2 (of_decide_eq_true rfl)
              have c8_BF := BF_6.cell
              have g8_B1_0 := B1_6.f 0 (of_decide_eq_true rfl)
              have g8_B1_1 := B1_6.f 1 (of_decide_eq_true rfl)
              have g8_B1_2 := B1_6.f 2 (of_decide_eq_true rfl)
              go_wp2_with (with_reducible refine post_stop ?_)
              refine Stop.mk ?_
              clear c8_B1_0 c8_B1_1 c8_B1_2 c8_B2_0 c8_B2_1 c8_B2_2 c8_BF g8_B1_0 g8_B1_1 g8_B1_2
              refine bodyPost_ret (v := .agg #[.int .i64 (-219902325555), .int .i64 (-219902325555), .int .i64 219902325555]) (results_arr Try.results11 (((B1_6.put 0 (of_decide_eq_true rfl) (.int .i64 (-219902325555)) [.int .i64 (-219902325555), .int .i64 0, .int .i64 0] rfl).put 1 (of_decide_eq_true rfl) (.int .i64 (-219902325555)) [.int .i64 (-219902325555), .int .i64 (-219902325555), .int .i64 0] rfl).put 2 (of_decide_eq_true rfl) (.int .i64 219902325555) [.int .i64 (-219902325555), .int .i64 (-219902325555), .int .i64 219902325555] rfl) rfl (by kernel_rfl) (by kernel_rfl)) rfl ?_
              have hs : rDip1 bad d = (((-219902325555), (-219902325555), 219902325555), r5.2) := by unfold rDip1; simp only [E1.out, E3.out, E5.out]; rw [if_neg (by rw [Hhc6.out]; decide)]; rw [show clampS r1.1 = (-219902325555) by unfold clampS; omega, show clampS r3.1 = (-219902325555) by unfold clampS; omega, show clampS r5.1 = 219902325555 by unfold clampS; omega]
              rw [hs]
              exact ⟨rfl, (((BF_6.new (w.heap.size + 1) 0 (Nat.ne_of_lt y2_BF) (.int .i64 (-219902325555))).new (w.heap.size + 1) 1 (Nat.ne_of_lt y2_BF) (.int .i64 (-219902325555))).new (w.heap.size + 1) 2 (Nat.ne_of_lt y2_BF) (.int .i64 219902325555)), (((K6.new _ _ (by omega) _).new _ _ (by omega) _).new _ _ (by omega) _)⟩
          · have Hhc5 : Hid (¬ r5.1 > 219902325555) := hc5
            by_cases hc6 : r5.1 < (-219902325555)
            · have Hhc6 : Hid (r5.1 < (-219902325555)) := hc6
              have c7_B2_2 : w5.cell? ⟨w.heap.size + 1 + 1, 2, none⟩ = some (.int .i64 0) := B2_5.c 2 (of_decide_eq_true rfl)
              have g7_B2_2 := B2_5.f 2 (of_decide_eq_true rfl)
              go_wp2_with fail
              clear c7_B2_2 g7_B2_2
              refine rounds_letter (S := fun w' => Kept b w w' ∧ Fl b r5.2 w' ∧ Arr w.heap.size [.bool true, .int .i64 d.1, .int .i64 d.2.1, .int .i64 d.2.2.1, .int .i64 d.2.2.2.1, .int .i64 d.2.2.2.2.1, .int .i64 d.2.2.2.2.2.1, .int .i64 d.2.2.2.2.2.2] w' ∧ Arr (w.heap.size + 1) [.int .i64 0, .int .i64 0, .int .i64 0] w' ∧ Arr (w.heap.size + 1 + 1) [.int .i64 (-219902325555), .int .i64 (-219902325555), .int .i64 (-219902325555)] w') ⟨(K5.new _ _ (by omega) _), (f5.new (w.heap.size + 1 + 1) 2 (Nat.ne_of_lt y3_BF) (.int .i64 (-219902325555))), (B0_5.new (w.heap.size + 1 + 1) 2 (Nat.ne_of_lt y3_B0) (.int .i64 (-219902325555))), (B1_5.new (w.heap.size + 1 + 1) 2 (Nat.ne_of_lt y3_B1) (.int .i64 (-219902325555))), (B2_5.put 2 (of_decide_eq_true rfl) (.int .i64 (-219902325555)) [.int .i64 (-219902325555), .int .i64 (-219902325555), .int .i64 (-219902325555)] rfl)⟩ ?_
              rintro w6 ⟨K6, BF_6, B0_6, B1_6, B2_6⟩
              have z6 := B2_6.lies
              clear K5 f5 B0_5 B1_5 B2_5
              rw [rounds_succ]
              rcases Bool.eq_false_or_eq_true r5.2 with hc7 | hc7
              · have Hhc7 : Hid (r5.2 = true) := hc7
                have c8_B1_0 : w6.cell? ⟨w.heap.size + 1, 0, none⟩ = some (.int .i64 0) := B1_6.c 0 (of_decide_eq_true rfl)
                have c8_B1_1 : w6.cell? ⟨w.heap.size + 1, 1, none⟩ = some (.int .i64 0) := B1_6.c 1 (of_decide_eq_true rfl)
                have c8_B1_2 : w6.cell? ⟨w.heap.size + 1, 2, none⟩ = some (.int .i64 0) := B1_6.c 2 (of_decide_eq_true rfl)
                have c8_BF := BF_6.cell
                have g8_B1_0 := B1_6.f 0 (of_decide_eq_true rfl)
                have g8_B1_1 := B1_6.f 1 (of_decide_eq_true rfl)
                have g8_B1_2 := B1_6.f 2 (of_decide_eq_true rfl)
                go_wp2_with (with_reducible refine post_stop ?_)
                refine Stop.mk ?_
                clear c8_B1_0 c8_B1_1 c8_B1_2 c8_BF g8_B1_0 g8_B1_1 g8_B1_2
                refine bodyPost_ret (v := .agg #[.int .i64 0, .int .i64 0, .int .i64 0]) (results_arr Try.results11 (((B1_6.put 0 (of_decide_eq_true rfl) (.int .i64 0) [.int .i64 0, .int .i64 0, .int .i64 0] rfl).put 1 (of_decide_eq_true rfl) (.int .i64 0) [.int .i64 0, .int .i64 0, .int .i64 0] rfl).put 2 (of_decide_eq_true rfl) (.int .i64 0) [.int .i64 0, .int .i64 0, .int .i64 0] rfl) rfl (by kernel_rfl) (by kernel_rfl)) rfl ?_
                have hs : rDip1 bad d = ((0, 0, 0), r5.2) := by unfold rDip1; simp only [E1.out, E3.out, E5.out]; rw [if_pos Hhc7.out]
                rw [hs]
                exact ⟨rfl, (((BF_6.new (w.heap.size + 1) 0 (Nat.ne_of_lt y2_BF) (.int .i64 0)).new (w.heap.size + 1) 1 (Nat.ne_of_lt y2_BF) (.int .i64 0)).new (w.heap.size + 1) 2 (Nat.ne_of_lt y2_BF) (.int .i64 0)), (((K6.new _ _ (by omega) _).new _ _ (by omega) _).new _ _ (by omega) _)⟩
              · have Hhc7 : Hid (r5.2 = false) := hc7
                have c8_B1_0 : w6.cell? ⟨w.heap.size + 1, 0, none⟩ = some (.int .i64 0) := B1_6.c 0 (of_decide_eq_true rfl)
                have c8_B1_1 : w6.cell? ⟨w.heap.size + 1, 1, none⟩ = some (.int .i64 0) := B1_6.c 1 (of_decide_eq_true rfl)
                have c8_B1_2 : w6.cell? ⟨w.heap.size + 1, 2, none⟩ = some (.int .i64 0) := B1_6.c 2 (of_decide_eq_true rfl)
                have c8_B2_0 : w6.cell? ⟨w.heap.size + 1 + 1, 0, none⟩ = some (.int .i64 (-219902325555)) := B2_6.c 0 (of_decide_eq_true rfl)
                have c8_B2_1 : w6.cell? ⟨w.heap.size + 1 + 1, 1, none⟩ = some (.int .i64 (-219902325555)) := B2_6.c 1 (of_decide_eq_true rfl)
                have c8_B2_2 : w6.cell? ⟨w.heap.size + 1 + 1, 2, none⟩ = some (.int .i64 (-219902325555)) := B2_6.c 2 (of_decide_eq_true rfl)
                have c8_BF := BF_6.cell
                have g8_B1_0 := B1_6.f 0 (of_decide_eq_true rfl)
                have g8_B1_1 := B1_6.f 1 (of_decide_eq_true rfl)
                have g8_B1_2 := B1_6.f 2 (of_decide_eq_true rfl)
                go_wp2_with (with_reducible refine post_stop ?_)
                refine Stop.mk ?_
                clear c8_B1_0 c8_B1_1 c8_B1_2 c8_B2_0 c8_B2_1 c8_B2_2 c8_BF g8_B1_0 g8_B1_1 g8_B1_2
                refine bodyPost_ret (v := .agg #[.int .i64 (-219902325555), .int .i64 (-219902325555), .int .i64 (-219902325555)]) (results_arr Try.results11 (((B1_6.put 0 (of_decide_eq_true rfl) (.int .i64 (-219902325555)) [.int .i64 (-219902325555), .int .i64 0, .int .i64 0] rfl).put 1 (of_decide_eq_true rfl) (.int .i64 (-219902325555)) [.int .i64 (-219902325555), .int .i64 (-219902325555), .int .i64 0] rfl).put 2 (of_decide_eq_true rfl) (.int .i64 (-219902325555)) [.int .i64 (-219902325555), .int .i64 (-219902325555), .int .i64 (-219902325555)] rfl) rfl (by kernel_rfl) (by kernel_rfl)) rfl ?_
                have hs : rDip1 bad d = (((-219902325555), (-219902325555), (-219902325555)), r5.2) := by unfold rDip1; simp only [E1.out, E3.out, E5.out]; rw [if_neg (by rw [Hhc7.out]; decide)]; rw [show clampS r1.1 = (-219902325555) by unfold clampS; omega, show clampS r3.1 = (-219902325555) by unfold clampS; omega, show clampS r5.1 = (-219902325555) by unfold clampS; omega]
                rw [hs]
                exact ⟨rfl, (((BF_6.new (w.heap.size + 1) 0 (Nat.ne_of_lt y2_BF) (.int .i64 (-219902325555))).new (w.heap.size + 1) 1 (Nat.ne_of_lt y2_BF) (.int .i64 (-219902325555))).new (w.heap.size + 1) 2 (Nat.ne_of_lt y2_BF) (.int .i64 (-219902325555))), (((K6.new _ _ (by omega) _).new _ _ (by omega) _).new _ _ (by omega) _)⟩
            · have Hhc6 : Hid (¬ r5.1 < (-219902325555)) := hc6
              have c7_B2_2 : w5.cell? ⟨w.heap.size + 1 + 1, 2, none⟩ = some (.int .i64 0) := B2_5.c 2 (of_decide_eq_true rfl)
              have g7_B2_2 := B2_5.f 2 (of_decide_eq_true rfl)
              go_wp2_with fail
              clear c7_B2_2 g7_B2_2
              refine rounds_letter (S := fun w' => Kept b w w' ∧ Fl b r5.2 w' ∧ Arr w.heap.size [.bool true, .int .i64 d.1, .int .i64 d.2.1, .int .i64 d.2.2.1, .int .i64 d.2.2.2.1, .int .i64 d.2.2.2.2.1, .int .i64 d.2.2.2.2.2.1, .int .i64 d.2.2.2.2.2.2] w' ∧ Arr (w.heap.size + 1) [.int .i64 0, .int .i64 0, .int .i64 0] w' ∧ Arr (w.heap.size + 1 + 1) [.int .i64 (-219902325555), .int .i64 (-219902325555), .int .i64 r5.1] w') ⟨(K5.new _ _ (by omega) _), (f5.new (w.heap.size + 1 + 1) 2 (Nat.ne_of_lt y3_BF) (.int .i64 r5.1)), (B0_5.new (w.heap.size + 1 + 1) 2 (Nat.ne_of_lt y3_B0) (.int .i64 r5.1)), (B1_5.new (w.heap.size + 1 + 1) 2 (Nat.ne_of_lt y3_B1) (.int .i64 r5.1)), (B2_5.put 2 (of_decide_eq_true rfl) (.int .i64 r5.1) [.int .i64 (-219902325555), .int .i64 (-219902325555), .int .i64 r5.1] rfl)⟩ ?_
              rintro w6 ⟨K6, BF_6, B0_6, B1_6, B2_6⟩
              have z6 := B2_6.lies
              clear K5 f5 B0_5 B1_5 B2_5
              rw [rounds_succ]
              rcases Bool.eq_false_or_eq_true r5.2 with hc7 | hc7
              · have Hhc7 : Hid (r5.2 = true) := hc7
                have c8_B1_0 : w6.cell? ⟨w.heap.size + 1, 0, none⟩ = some (.int .i64 0) := B1_6.c 0 (of_decide_eq_true rfl)
                have c8_B1_1 : w6.cell? ⟨w.heap.size + 1, 1, none⟩ = some (.int .i64 0) := B1_6.c 1 (of_decide_eq_true rfl)
                have c8_B1_2 : w6.cell? ⟨w.heap.size + 1, 2, none⟩ = some (.int .i64 0) := B1_6.c 2 (of_decide_eq_true rfl)
                have c8_BF := BF_6.cell
                have g8_B1_0 := B1_6.f 0 (of_decide_eq_true rfl)
                have g8_B1_1 := B1_6.f 1 (of_decide_eq_true rfl)
                have g8_B1_2 := B1_6.f 2 (of_decide_eq_true rfl)
                go_wp2_with (with_reducible refine post_stop ?_)
                refine Stop.mk ?_
                clear c8_B1_0 c8_B1_1 c8_B1_2 c8_BF g8_B1_0 g8_B1_1 g8_B1_2
                refine bodyPost_ret (v := .agg #[.int .i64 0, .int .i64 0, .int .i64 0]) (results_arr Try.results11 (((B1_6.put 0 (of_decide_eq_true rfl) (.int .i64 0) [.int .i64 0, .int .i64 0, .int .i64 0] rfl).put 1 (of_decide_eq_true rfl) (.int .i64 0) [.int .i64 0, .int .i64 0, .int .i64 0] rfl).put 2 (of_decide_eq_true rfl) (.int .i64 0) [.int .i64 0, .int .i64 0, .int .i64 0] rfl) rfl (by kernel_rfl) (by kernel_rfl)) rfl ?_
                have hs : rDip1 bad d = ((0, 0, 0), r5.2) := by unfold rDip1; simp only [E1.out, E3.out, E5.out]; rw [if_pos Hhc7.out]
                rw [hs]
                exact ⟨rfl, (((BF_6.new (w.heap.size + 1) 0 (Nat.ne_of_lt y2_BF) (.int .i64 0)).new (w.heap.size + 1) 1 (Nat.ne_of_lt y2_BF) (.int .i64 0)).new (w.heap.size + 1) 2 (Nat.ne_of_lt y2_BF) (.int .i64 0)), (((K6.new _ _ (by omega) _).new _ _ (by omega) _).new _ _ (by omega) _)⟩
              · have Hhc7 : Hid (r5.2 = false) := hc7
                have c8_B1_0 : w6.cell? ⟨w.heap.size + 1, 0, none⟩ = some (.int .i64 0) := B1_6.c 0 (of_decide_eq_true rfl)
                have c8_B1_1 : w6.cell? ⟨w.heap.size + 1, 1, none⟩ = some (.int .i64 0) := B1_6.c 1 (of_decide_eq_true rfl)
                have c8_B1_2 : w6.cell? ⟨w.heap.size + 1, 2, none⟩ = some (.int .i64 0) := B1_6.c 2 (of_decide_eq_true rfl)
                have c8_B2_0 : w6.cell? ⟨w.heap.size + 1 + 1, 0, none⟩ = some (.int .i64 (-219902325555)) := B2_6.c 0 (of_decide_eq_true rfl)
                have c8_B2_1 : w6.cell? ⟨w.heap.size + 1 + 1, 1, none⟩ = some (.int .i64 (-219902325555)) := B2_6.c 1 (of_decide_eq_true rfl)
                have c8_B2_2 : w6.cell? ⟨w.heap.size + 1 + 1, 2, none⟩ = some (.int .i64 r5.1) := B2_6.c 2 (of_decide_eq_true rfl)
                have c8_BF := BF_6.cell
                have g8_B1_0 := B1_6.f 0 (of_decide_eq_true rfl)
                have g8_B1_1 := B1_6.f 1 (of_decide_eq_true rfl)
                have g8_B1_2 := B1_6.f 2 (of_decide_eq_true rfl)
                go_wp2_with (with_reducible refine post_stop ?_)
                refine Stop.mk ?_
                clear c8_B1_0 c8_B1_1 c8_B1_2 c8_B2_0 c8_B2_1 c8_B2_2 c8_BF g8_B1_0 g8_B1_1 g8_B1_2
                refine bodyPost_ret (v := .agg #[.int .i64 (-219902325555), .int .i64 (-219902325555), .int .i64 r5.1]) (results_arr Try.results11 (((B1_6.put 0 (of_decide_eq_true rfl) (.int .i64 (-219902325555)) [.int .i64 (-219902325555), .int .i64 0, .int .i64 0] rfl).put 1 (of_decide_eq_true rfl) (.int .i64 (-219902325555)) [.int .i64 (-219902325555), .int .i64 (-219902325555), .int .i64 0] rfl).put 2 (of_decide_eq_true rfl) (.int .i64 r5.1) [.int .i64 (-219902325555), .int .i64 (-219902325555), .int .i64 r5.1] rfl) rfl (by kernel_rfl) (by kernel_rfl)) rfl ?_
                have hs : rDip1 bad d = (((-219902325555), (-219902325555), r5.1), r5.2) := by unfold rDip1; simp only [E1.out, E3.out, E5.out]; rw [if_neg (by rw [Hhc7.out]; decide)]; rw [show clampS r1.1 = (-219902325555) by unfold clampS; omega, show clampS r3.1 = (-219902325555) by unfold clampS; omega, show clampS r5.1 = r5.1 by unfold clampS; omega]
                rw [hs]
                exact ⟨rfl, (((BF_6.new (w.heap.size + 1) 0 (Nat.ne_of_lt y2_BF) (.int .i64 (-219902325555))).new (w.heap.size + 1) 1 (Nat.ne_of_lt y2_BF) (.int .i64 (-219902325555))).new (w.heap.size + 1) 2 (Nat.ne_of_lt y2_BF) (.int .i64 r5.1)), (((K6.new _ _ (by omega) _).new _ _ (by omega) _).new _ _ (by omega) _)⟩
        · have Hhc4 : Hid (¬ r3.1 < (-219902325555)) := hc4
          have c5_B2_1 : w3.cell? ⟨w.heap.size + 1 + 1, 1, none⟩ = some (.int .i64 0) := B2_3.c 1 (of_decide_eq_true rfl)
          have g5_B2_1 := B2_3.f 1 (of_decide_eq_true rfl)
          go_wp2_with fail
          clear c5_B2_1 g5_B2_1
          refine rounds_letter (S := fun w' => Kept b w w' ∧ Fl b r3.2 w' ∧ Arr w.heap.size [.bool true, .int .i64 d.1, .int .i64 d.2.1, .int .i64 d.2.2.1, .int .i64 d.2.2.2.1, .int .i64 d.2.2.2.2.1, .int .i64 d.2.2.2.2.2.1, .int .i64 d.2.2.2.2.2.2] w' ∧ Arr (w.heap.size + 1) [.int .i64 0, .int .i64 0, .int .i64 0] w' ∧ Arr (w.heap.size + 1 + 1) [.int .i64 (-219902325555), .int .i64 r3.1, .int .i64 0] w') ⟨(K3.new _ _ (by omega) _), (f3.new (w.heap.size + 1 + 1) 1 (Nat.ne_of_lt y3_BF) (.int .i64 r3.1)), (B0_3.new (w.heap.size + 1 + 1) 1 (Nat.ne_of_lt y3_B0) (.int .i64 r3.1)), (B1_3.new (w.heap.size + 1 + 1) 1 (Nat.ne_of_lt y3_B1) (.int .i64 r3.1)), (B2_3.put 1 (of_decide_eq_true rfl) (.int .i64 r3.1) [.int .i64 (-219902325555), .int .i64 r3.1, .int .i64 0] rfl)⟩ ?_
          rintro w4 ⟨K4, BF_4, B0_4, B1_4, B2_4⟩
          have z4 := B2_4.lies
          clear K3 f3 B0_3 B1_3 B2_3
          rw [rounds_succ]
          have c6_B0_7 : w4.cell? ⟨w.heap.size, 7, none⟩ = some (.int .i64 d.2.2.2.2.2.2) := B0_4.c 7 (of_decide_eq_true rfl)
          go_wp2_with fail
          refine (rMul_any b r3.2 d.2.2.2.2.2.2 (-274877906944) _ BF_4).mono ?_
          rintro e w5 ⟨rfl, f5, k5⟩
          generalize e5 : mulS r3.2 d.2.2.2.2.2.2 (-274877906944) = r5 at f5 ⊢
          have E5 : Hid _ := e5
          clear e5
          have K5 : Kept b w w5 := Kept.trans K4 k5
          have B0_5 : Arr w.heap.size [.bool true, .int .i64 d.1, .int .i64 d.2.1, .int .i64 d.2.2.1, .int .i64 d.2.2.2.1, .int .i64 d.2.2.2.2.1, .int .i64 d.2.2.2.2.2.1, .int .i64 d.2.2.2.2.2.2] w5 := B0_4.kept k5 (Nat.ne_of_gt y1_BF)
          have B1_5 : Arr (w.heap.size + 1) [.int .i64 0, .int .i64 0, .int .i64 0] w5 := B1_4.kept k5 (Nat.ne_of_gt y2_BF)
          have B2_5 : Arr (w.heap.size + 1 + 1) [.int .i64 (-219902325555), .int .i64 r3.1, .int .i64 0] w5 := B2_4.kept k5 (Nat.ne_of_gt y3_BF)
          have z5 := B2_5.lies
          clear c6_B0_7 K4 BF_4 B0_4 B1_4 B2_4 k5
          by_cases hc5 : r5.1 > 219902325555
          · have Hhc5 : Hid (r5.1 > 219902325555) := hc5
            have c7_B2_2 : w5.cell? ⟨w.heap.size + 1 + 1, 2, none⟩ = some (.int .i64 0) := B2_5.c 2 (of_decide_eq_true rfl)
            have g7_B2_2 := B2_5.f 2 (of_decide_eq_true rfl)
            go_wp2_with fail
            clear c7_B2_2 g7_B2_2
            refine rounds_letter (S := fun w' => Kept b w w' ∧ Fl b r5.2 w' ∧ Arr w.heap.size [.bool true, .int .i64 d.1, .int .i64 d.2.1, .int .i64 d.2.2.1, .int .i64 d.2.2.2.1, .int .i64 d.2.2.2.2.1, .int .i64 d.2.2.2.2.2.1, .int .i64 d.2.2.2.2.2.2] w' ∧ Arr (w.heap.size + 1) [.int .i64 0, .int .i64 0, .int .i64 0] w' ∧ Arr (w.heap.size + 1 + 1) [.int .i64 (-219902325555), .int .i64 r3.1, .int .i64 219902325555] w') ⟨(K5.new _ _ (by omega) _), (f5.new (w.heap.size + 1 + 1) 2 (Nat.ne_of_lt y3_BF) (.int .i64 219902325555)), (B0_5.new (w.heap.size + 1 + 1) 2 (Nat.ne_of_lt y3_B0) (.int .i64 219902325555)), (B1_5.new (w.heap.size + 1 + 1) 2 (Nat.ne_of_lt y3_B1) (.int .i64 219902325555)), (B2_5.put 2 (of_decide_eq_true rfl) (.int .i64 219902325555) [.int .i64 (-219902325555), .int .i64 r3.1, .int .i64 219902325555] rfl)⟩ ?_
            rintro w6 ⟨K6, BF_6, B0_6, B1_6, B2_6⟩
            have z6 := B2_6.lies
            clear K5 f5 B0_5 B1_5 B2_5
            rw [rounds_succ]
            rcases Bool.eq_false_or_eq_true r5.2 with hc6 | hc6
            · have Hhc6 : Hid (r5.2 = true) := hc6
              have c8_B1_0 : w6.cell? ⟨w.heap.size + 1, 0, none⟩ = some (.int .i64 0) := B1_6.c 0 (of_decide_eq_true rfl)
              have c8_B1_1 : w6.cell? ⟨w.heap.size + 1, 1, none⟩ = some (.int .i64 0) := B1_6.c 1 (of_decide_eq_true rfl)
              have c8_B1_2 : w6.cell? ⟨w.heap.size + 1, 2, none⟩ = some (.int .i64 0) := B1_6.c 2 (of_decide_eq_true rfl)
              have c8_BF := BF_6.cell
              have g8_B1_0 := B1_6.f 0 (of_decide_eq_true rfl)
              have g8_B1_1 := B1_6.f 1 (of_decide_eq_true rfl)
              have g8_B1_2 := B1_6.f 2 (of_decide_eq_true rfl)
              go_wp2_with (with_reducible refine post_stop ?_)
              refine Stop.mk ?_
              clear c8_B1_0 c8_B1_1 c8_B1_2 c8_BF g8_B1_0 g8_B1_1 g8_B1_2
              refine bodyPost_ret (v := .agg #[.int .i64 0, .int .i64 0, .int .i64 0]) (results_arr Try.results11 (((B1_6.put 0 (of_decide_eq_true rfl) (.int .i64 0) [.int .i64 0, .int .i64 0, .int .i64 0] rfl).put 1 (of_decide_eq_true rfl) (.int .i64 0) [.int .i64 0, .int .i64 0, .int .i64 0] rfl).put 2 (of_decide_eq_true rfl) (.int .i64 0) [.int .i64 0, .int .i64 0, .int .i64 0] rfl) rfl (by kernel_rfl) (by kernel_rfl)) rfl ?_
              have hs : rDip1 bad d = ((0, 0, 0), r5.2) := by unfold rDip1; simp only [E1.out, E3.out, E5.out]; rw [if_pos Hhc6.out]
              rw [hs]
              exact ⟨rfl, (((BF_6.new (w.heap.size + 1) 0 (Nat.ne_of_lt y2_BF) (.int .i64 0)).new (w.heap.size + 1) 1 (Nat.ne_of_lt y2_BF) (.int .i64 0)).new (w.heap.size + 1) 2 (Nat.ne_of_lt y2_BF) (.int .i64 0)), (((K6.new _ _ (by omega) _).new _ _ (by omega) _).new _ _ (by omega) _)⟩
            · have Hhc6 : Hid (r5.2 = false) := hc6
              have c8_B1_0 : w6.cell? ⟨w.heap.size + 1, 0, none⟩ = some (.int .i64 0) := B1_6.c 0 (of_decide_eq_true rfl)
              have c8_B1_1 : w6.cell? ⟨w.heap.size + 1, 1, none⟩ = some (.int .i64 0) := B1_6.c 1 (of_decide_eq_true rfl)
              have c8_B1_2 : w6.cell? ⟨w.heap.size + 1, 2, none⟩ = some (.int .i64 0) := B1_6.c 2 (of_decide_eq_true rfl)
              have c8_B2_0 : w6.cell? ⟨w.heap.size + 1 + 1, 0, none⟩ = some (.int .i64 (-219902325555)) := B2_6.c 0 (of_decide_eq_true rfl)
              have c8_B2_1 : w6.cell? ⟨w.heap.size + 1 + 1, 1, none⟩ = some (.int .i64 r3.1) := B2_6.c 1 (of_decide_eq_true rfl)
              have c8_B2_2 : w6.cell? ⟨w.heap.size + 1 + 1, 2, none⟩ = some (.int .i64 219902325555) := B2_6.c 2 (of_decide_eq_true rfl)
              have c8_BF := BF_6.cell
              have g8_B1_0 := B1_6.f 0 (of_decide_eq_true rfl)
              have g8_B1_1 := B1_6.f 1 (of_decide_eq_true rfl)
              have g8_B1_2 := B1_6.f 2 (of_decide_eq_true rfl)
              go_wp2_with (with_reducible refine post_stop ?_)
              refine Stop.mk ?_
              clear c8_B1_0 c8_B1_1 c8_B1_2 c8_B2_0 c8_B2_1 c8_B2_2 c8_BF g8_B1_0 g8_B1_1 g8_B1_2
              refine bodyPost_ret (v := .agg #[.int .i64 (-219902325555), .int .i64 r3.1, .int .i64 219902325555]) (results_arr Try.results11 (((B1_6.put 0 (of_decide_eq_true rfl) (.int .i64 (-219902325555)) [.int .i64 (-219902325555), .int .i64 0, .int .i64 0] rfl).put 1 (of_decide_eq_true rfl) (.int .i64 r3.1) [.int .i64 (-219902325555), .int .i64 r3.1, .int .i64 0] rfl).put 2 (of_decide_eq_true rfl) (.int .i64 219902325555) [.int .i64 (-219902325555), .int .i64 r3.1, .int .i64 219902325555] rfl) rfl (by kernel_rfl) (by kernel_rfl)) rfl ?_
              have hs : rDip1 bad d = (((-219902325555), r3.1, 219902325555), r5.2) := by unfold rDip1; simp only [E1.out, E3.out, E5.out]; rw [if_neg (by rw [Hhc6.out]; decide)]; rw [show clampS r1.1 = (-219902325555) by unfold clampS; omega, show clampS r3.1 = r3.1 by unfold clampS; omega, show clampS r5.1 = 219902325555 by unfold clampS; omega]
              rw [hs]
              exact ⟨rfl, (((BF_6.new (w.heap.size + 1) 0 (Nat.ne_of_lt y2_BF) (.int .i64 (-219902325555))).new (w.heap.size + 1) 1 (Nat.ne_of_lt y2_BF) (.int .i64 r3.1)).new (w.heap.size + 1) 2 (Nat.ne_of_lt y2_BF) (.int .i64 219902325555)), (((K6.new _ _ (by omega) _).new _ _ (by omega) _).new _ _ (by omega) _)⟩
          · have Hhc5 : Hid (¬ r5.1 > 219902325555) := hc5
            by_cases hc6 : r5.1 < (-219902325555)
            · have Hhc6 : Hid (r5.1 < (-219902325555)) := hc6
              have c7_B2_2 : w5.cell? ⟨w.heap.size + 1 + 1, 2, none⟩ = some (.int .i64 0) := B2_5.c 2 (of_decide_eq_true rfl)
              have g7_B2_2 := B2_5.f 2 (of_decide_eq_true rfl)
              go_wp2_with fail
              clear c7_B2_2 g7_B2_2
              refine rounds_letter (S := fun w' => Kept b w w' ∧ Fl b r5.2 w' ∧ Arr w.heap.size [.bool true, .int .i64 d.1, .int .i64 d.2.1, .int .i64 d.2.2.1, .int .i64 d.2.2.2.1, .int .i64 d.2.2.2.2.1, .int .i64 d.2.2.2.2.2.1, .int .i64 d.2.2.2.2.2.2] w' ∧ Arr (w.heap.size + 1) [.int .i64 0, .int .i64 0, .int .i64 0] w' ∧ Arr (w.heap.size + 1 + 1) [.int .i64 (-219902325555), .int .i64 r3.1, .int .i64 (-219902325555)] w') ⟨(K5.new _ _ (by omega) _), (f5.new (w.heap.size + 1 + 1) 2 (Nat.ne_of_lt y3_BF) (.int .i64 (-219902325555))), (B0_5.new (w.heap.size + 1 + 1) 2 (Nat.ne_of_lt y3_B0) (.int .i64 (-219902325555))), (B1_5.new (w.heap.size + 1 + 1) 2 (Nat.ne_of_lt y3_B1) (.int .i64 (-219902325555))), (B2_5.put 2 (of_decide_eq_true rfl) (.int .i64 (-219902325555)) [.int .i64 (-219902325555), .int .i64 r3.1, .int .i64 (-219902325555)] rfl)⟩ ?_
              rintro w6 ⟨K6, BF_6, B0_6, B1_6, B2_6⟩
              have z6 := B2_6.lies
              clear K5 f5 B0_5 B1_5 B2_5
              rw [rounds_succ]
              rcases Bool.eq_false_or_eq_true r5.2 with hc7 | hc7
              · have Hhc7 : Hid (r5.2 = true) := hc7
                have c8_B1_0 : w6.cell? ⟨w.heap.size + 1, 0, none⟩ = some (.int .i64 0) := B1_6.c 0 (of_decide_eq_true rfl)
                have c8_B1_1 : w6.cell? ⟨w.heap.size + 1, 1, none⟩ = some (.int .i64 0) := B1_6.c 1 (of_decide_eq_true rfl)
                have c8_B1_2 : w6.cell? ⟨w.heap.size + 1, 2, none⟩ = some (.int .i64 0) := B1_6.c 2 (of_decide_eq_true rfl)
                have c8_BF := BF_6.cell
                have g8_B1_0 := B1_6.f 0 (of_decide_eq_true rfl)
                have g8_B1_1 := B1_6.f 1 (of_decide_eq_true rfl)
                have g8_B1_2 := B1_6.f 2 (of_decide_eq_true rfl)
                go_wp2_with (with_reducible refine post_stop ?_)
                refine Stop.mk ?_
                clear c8_B1_0 c8_B1_1 c8_B1_2 c8_BF g8_B1_0 g8_B1_1 g8_B1_2
                refine bodyPost_ret (v := .agg #[.int .i64 0, .int .i64 0, .int .i64 0]) (results_arr Try.results11 (((B1_6.put 0 (of_decide_eq_true rfl) (.int .i64 0) [.int .i64 0, .int .i64 0, .int .i64 0] rfl).put 1 (of_decide_eq_true rfl) (.int .i64 0) [.int .i64 0, .int .i64 0, .int .i64 0] rfl).put 2 (of_decide_eq_true rfl) (.int .i64 0) [.int .i64 0, .int .i64 0, .int .i64 0] rfl) rfl (by kernel_rfl) (by kernel_rfl)) rfl ?_
                have hs : rDip1 bad d = ((0, 0, 0), r5.2) := by unfold rDip1; simp only [E1.out, E3.out, E5.out]; rw [if_pos Hhc7.out]
                rw [hs]
                exact ⟨rfl, (((BF_6.new (w.heap.size + 1) 0 (Nat.ne_of_lt y2_BF) (.int .i64 0)).new (w.heap.size + 1) 1 (Nat.ne_of_lt y2_BF) (.int .i64 0)).new (w.heap.size + 1) 2 (Nat.ne_of_lt y2_BF) (.int .i64 0)), (((K6.new _ _ (by omega) _).new _ _ (by omega) _).new _ _ (by omega) _)⟩
              · have Hhc7 : Hid (r5.2 = false) := hc7
                have c8_B1_0 : w6.cell? ⟨w.heap.size + 1, 0, none⟩ = some (.int .i64 0) := B1_6.c 0 (of_decide_eq_true rfl)
                have c8_B1_1 : w6.cell? ⟨w.heap.size + 1, 1, none⟩ = some (.int .i64 0) := B1_6.c 1 (of_decide_eq_true rfl)
                have c8_B1_2 : w6.cell? ⟨w.heap.size + 1, 2, none⟩ = some (.int .i64 0) := B1_6.c 2 (of_decide_eq_true rfl)
                have c8_B2_0 : w6.cell? ⟨w.heap.size + 1 + 1, 0, none⟩ = some (.int .i64 (-219902325555)) := B2_6.c 0 (of_decide_eq_true rfl)
                have c8_B2_1 : w6.cell? ⟨w.heap.size + 1 + 1, 1, none⟩ = some (.int .i64 r3.1) := B2_6.c 1 (of_decide_eq_true rfl)
                have c8_B2_2 : w6.cell? ⟨w.heap.size + 1 + 1, 2, none⟩ = some (.int .i64 (-219902325555)) := B2_6.c 2 (of_decide_eq_true rfl)
                have c8_BF := BF_6.cell
                have g8_B1_0 := B1_6.f 0 (of_decide_eq_true rfl)
                have g8_B1_1 := B1_6.f 1 (of_decide_eq_true rfl)
                have g8_B1_2 := B1_6.f 2 (of_decide_eq_true rfl)
                go_wp2_with (with_reducible refine post_stop ?_)
                refine Stop.mk ?_
                clear c8_B1_0 c8_B1_1 c8_B1_2 c8_B2_0 c8_B2_1 c8_B2_2 c8_BF g8_B1_0 g8_B1_1 g8_B1_2
                refine bodyPost_ret (v := .agg #[.int .i64 (-219902325555), .int .i64 r3.1, .int .i64 (-219902325555)]) (results_arr Try.results11 (((B1_6.put 0 (of_decide_eq_true rfl) (.int .i64 (-219902325555)) [.int .i64 (-219902325555), .int .i64 0, .int .i64 0] rfl).put 1 (of_decide_eq_true rfl) (.int .i64 r3.1) [.int .i64 (-219902325555), .int .i64 r3.1, .int .i64 0] rfl).put 2 (of_decide_eq_true rfl) (.int .i64 (-219902325555)) [.int .i64 (-219902325555), .int .i64 r3.1, .int .i64 (-219902325555)] rfl) rfl (by kernel_rfl) (by kernel_rfl)) rfl ?_
                have hs : rDip1 bad d = (((-219902325555), r3.1, (-219902325555)), r5.2) := by unfold rDip1; simp only [E1.out, E3.out, E5.out]; rw [if_neg (by rw [Hhc7.out]; decide)]; rw [show clampS r1.1 = (-219902325555) by unfold clampS; omega, show clampS r3.1 = r3.1 by unfold clampS; omega, show clampS r5.1 = (-219902325555) by unfold clampS; omega]
                rw [hs]
                exact ⟨rfl, (((BF_6.new (w.heap.size + 1) 0 (Nat.ne_of_lt y2_BF) (.int .i64 (-219902325555))).new (w.heap.size + 1) 1 (Nat.ne_of_lt y2_BF) (.int .i64 r3.1)).new (w.heap.size + 1) 2 (Nat.ne_of_lt y2_BF) (.int .i64 (-219902325555))), (((K6.new _ _ (by omega) _).new _ _ (by omega) _).new _ _ (by omega) _)⟩
            · have Hhc6 : Hid (¬ r5.1 < (-219902325555)) := hc6
              have c7_B2_2 : w5.cell? ⟨w.heap.size + 1 + 1, 2, none⟩ = some (.int .i64 0) := B2_5.c 2 (of_decide_eq_true rfl)
              have g7_B2_2 := B2_5.f 2 (of_decide_eq_true rfl)
              go_wp2_with fail
              clear c7_B2_2 g7_B2_2
              refine rounds_letter (S := fun w' => Kept b w w' ∧ Fl b r5.2 w' ∧ Arr w.heap.size [.bool true, .int .i64 d.1, .int .i64 d.2.1, .int .i64 d.2.2.1, .int .i64 d.2.2.2.1, .int .i64 d.2.2.2.2.1, .int .i64 d.2.2.2.2.2.1, .int .i64 d.2.2.2.2.2.2] w' ∧ Arr (w.heap.size + 1) [.int .i64 0, .int .i64 0, .int .i64 0] w' ∧ Arr (w.heap.size + 1 + 1) [.int .i64 (-219902325555), .int .i64 r3.1, .int .i64 r5.1] w') ⟨(K5.new _ _ (by omega) _), (f5.new (w.heap.size + 1 + 1) 2 (Nat.ne_of_lt y3_BF) (.int .i64 r5.1)), (B0_5.new (w.heap.size + 1 + 1) 2 (Nat.ne_of_lt y3_B0) (.int .i64 r5.1)), (B1_5.new (w.heap.size + 1 + 1) 2 (Nat.ne_of_lt y3_B1) (.int .i64 r5.1)), (B2_5.put 2 (of_decide_eq_true rfl) (.int .i64 r5.1) [.int .i64 (-219902325555), .int .i64 r3.1, .int .i64 r5.1] rfl)⟩ ?_
              rintro w6 ⟨K6, BF_6, B0_6, B1_6, B2_6⟩
              have z6 := B2_6.lies
              clear K5 f5 B0_5 B1_5 B2_5
              rw [rounds_succ]
              rcases Bool.eq_false_or_eq_true r5.2 with hc7 | hc7
              · have Hhc7 : Hid (r5.2 = true) := hc7
                have c8_B1_0 : w6.cell? ⟨w.heap.size + 1, 0, none⟩ = some (.int .i64 0) := B1_6.c 0 (of_decide_eq_true rfl)
                have c8_B1_1 : w6.cell? ⟨w.heap.size + 1, 1, none⟩ = some (.int .i64 0) := B1_6.c 1 (of_decide_eq_true rfl)
                have c8_B1_2 : w6.cell? ⟨w.heap.size + 1, 2, none⟩ = some (.int .i64 0) := B1_6.c 2 (of_decide_eq_true rfl)
                have c8_BF := BF_6.cell
                have g8_B1_0 := B1_6.f 0 (of_decide_eq_true rfl)
                have g8_B1_1 := B1_6.f 1 (of_decide_eq_true rfl)
                have g8_B1_2 := B1_6.f 2 (of_decide_eq_true rfl)
                go_wp2_with (with_reducible refine post_stop ?_)
                refine Stop.mk ?_
                clear c8_B1_0 c8_B1_1 c8_B1_2 c8_BF g8_B1_0 g8_B1_1 g8_B1_2
                refine bodyPost_ret (v := .agg #[.int .i64 0, .int .i64 0, .int .i64 0]) (results_arr Try.results11 (((B1_6.put 0 (of_decide_eq_true rfl) (.int .i64 0) [.int .i64 0, .int .i64 0, .int .i64 0] rfl).put 1 (of_decide_eq_true rfl) (.int .i64 0) [.int .i64 0, .int .i64 0, .int .i64 0] rfl).put 2 (of_decide_eq_true rfl) (.int .i64 0) [.int .i64 0, .int .i64 0, .int .i64 0] rfl) rfl (by kernel_rfl) (by kernel_rfl)) rfl ?_
                have hs : rDip1 bad d = ((0, 0, 0), r5.2) := by unfold rDip1; simp only [E1.out, E3.out, E5.out]; rw [if_pos Hhc7.out]
                rw [hs]
                exact ⟨rfl, (((BF_6.new (w.heap.size + 1) 0 (Nat.ne_of_lt y2_BF) (.int .i64 0)).new (w.heap.size + 1) 1 (Nat.ne_of_lt y2_BF) (.int .i64 0)).new (w.heap.size + 1) 2 (Nat.ne_of_lt y2_BF) (.int .i64 0)), (((K6.new _ _ (by omega) _).new _ _ (by omega) _).new _ _ (by omega) _)⟩
              · have Hhc7 : Hid (r5.2 = false) := hc7
                have c8_B1_0 : w6.cell? ⟨w.heap.size + 1, 0, none⟩ = some (.int .i64 0) := B1_6.c 0 (of_decide_eq_true rfl)
                have c8_B1_1 : w6.cell? ⟨w.heap.size + 1, 1, none⟩ = some (.int .i64 0) := B1_6.c 1 (of_decide_eq_true rfl)
                have c8_B1_2 : w6.cell? ⟨w.heap.size + 1, 2, none⟩ = some (.int .i64 0) := B1_6.c 2 (of_decide_eq_true rfl)
                have c8_B2_0 : w6.cell? ⟨w.heap.size + 1 + 1, 0, none⟩ = some (.int .i64 (-219902325555)) := B2_6.c 0 (of_decide_eq_true rfl)
                have c8_B2_1 : w6.cell? ⟨w.heap.size + 1 + 1, 1, none⟩ = some (.int .i64 r3.1) := B2_6.c 1 (of_decide_eq_true rfl)
                have c8_B2_2 : w6.cell? ⟨w.heap.size + 1 + 1, 2, none⟩ = some (.int .i64 r5.1) := B2_6.c 2 (of_decide_eq_true rfl)
                have c8_BF := BF_6.cell
                have g8_B1_0 := B1_6.f 0 (of_decide_eq_true rfl)
                have g8_B1_1 := B1_6.f 1 (of_decide_eq_true rfl)
                have g8_B1_2 := B1_6.f 2 (of_decide_eq_true rfl)
                go_wp2_with (with_reducible refine post_stop ?_)
                refine Stop.mk ?_
                clear c8_B1_0 c8_B1_1 c8_B1_2 c8_B2_0 c8_B2_1 c8_B2_2 c8_BF g8_B1_0 g8_B1_1 g8_B1_2
                refine bodyPost_ret (v := .agg #[.int .i64 (-219902325555), .int .i64 r3.1, .int .i64 r5.1]) (results_arr Try.results11 (((B1_6.put 0 (of_decide_eq_true rfl) (.int .i64 (-219902325555)) [.int .i64 (-219902325555), .int .i64 0, .int .i64 0] rfl).put 1 (of_decide_eq_true rfl) (.int .i64 r3.1) [.int .i64 (-219902325555), .int .i64 r3.1, .int .i64 0] rfl).put 2 (of_decide_eq_true rfl) (.int .i64 r5.1) [.int .i64 (-219902325555), .int .i64 r3.1, .int .i64 r5.1] rfl) rfl (by kernel_rfl) (by kernel_rfl)) rfl ?_
                have hs : rDip1 bad d = (((-219902325555), r3.1, r5.1), r5.2) := by unfold rDip1; simp only [E1.out, E3.out, E5.out]; rw [if_neg (by rw [Hhc7.out]; decide)]; rw [show clampS r1.1 = (-219902325555) by unfold clampS; omega, show clampS r3.1 = r3.1 by unfold clampS; omega, show clampS r5.1 = r5.1 by unfold clampS; omega]
                rw [hs]
                exact ⟨rfl, (((BF_6.new (w.heap.size + 1) 0 (Nat.ne_of_lt y2_BF) (.int .i64 (-219902325555))).new (w.heap.size + 1) 1 (Nat.ne_of_lt y2_BF) (.int .i64 r3.1)).new (w.heap.size + 1) 2 (Nat.ne_of_lt y2_BF) (.int .i64 r5.1)), (((K6.new _ _ (by omega) _).new _ _ (by omega) _).new _ _ (by omega) _)⟩
    · have Hhc2 : Hid (¬ r1.1 < (-219902325555)) := hc2
      have c3_B2_0 : w1.cell? ⟨w.heap.size + 1 + 1, 0, none⟩ = some (.int .i64 0) := B2_1.c 0 (of_decide_eq_true rfl)
      have g3_B2_0 := B2_1.f 0 (of_decide_eq_true rfl)
      go_wp2_with fail
      clear c3_B2_0 g3_B2_0
      refine rounds_letter (S := fun w' => Kept b w w' ∧ Fl b r1.2 w' ∧ Arr w.heap.size [.bool true, .int .i64 d.1, .int .i64 d.2.1, .int .i64 d.2.2.1, .int .i64 d.2.2.2.1, .int .i64 d.2.2.2.2.1, .int .i64 d.2.2.2.2.2.1, .int .i64 d.2.2.2.2.2.2] w' ∧ Arr (w.heap.size + 1) [.int .i64 0, .int .i64 0, .int .i64 0] w' ∧ Arr (w.heap.size + 1 + 1) [.int .i64 r1.1, .int .i64 0, .int .i64 0] w') ⟨(K1.new _ _ (by omega) _), (f1.new (w.heap.size + 1 + 1) 0 (Nat.ne_of_lt y3_BF) (.int .i64 r1.1)), (B0_1.new (w.heap.size + 1 + 1) 0 (Nat.ne_of_lt y3_B0) (.int .i64 r1.1)), (B1_1.new (w.heap.size + 1 + 1) 0 (Nat.ne_of_lt y3_B1) (.int .i64 r1.1)), (B2_1.put 0 (of_decide_eq_true rfl) (.int .i64 r1.1) [.int .i64 r1.1, .int .i64 0, .int .i64 0] rfl)⟩ ?_
      rintro w2 ⟨K2, BF_2, B0_2, B1_2, B2_2⟩
      have z2 := B2_2.lies
      clear K1 f1 B0_1 B1_1 B2_1
      rw [rounds_succ]
      have c4_B0_6 : w2.cell? ⟨w.heap.size, 6, none⟩ = some (.int .i64 d.2.2.2.2.2.1) := B0_2.c 6 (of_decide_eq_true rfl)
      go_wp2_with fail
      refine (rMul_any b r1.2 d.2.2.2.2.2.1 (-274877906944) _ BF_2).mono ?_
      rintro e w3 ⟨rfl, f3, k3⟩
      generalize e3 : mulS r1.2 d.2.2.2.2.2.1 (-274877906944) = r3 at f3 ⊢
      have E3 : Hid _ := e3
      clear e3
      have K3 : Kept b w w3 := Kept.trans K2 k3
      have B0_3 : Arr w.heap.size [.bool true, .int .i64 d.1, .int .i64 d.2.1, .int .i64 d.2.2.1, .int .i64 d.2.2.2.1, .int .i64 d.2.2.2.2.1, .int .i64 d.2.2.2.2.2.1, .int .i64 d.2.2.2.2.2.2] w3 := B0_2.kept k3 (Nat.ne_of_gt y1_BF)
      have B1_3 : Arr (w.heap.size + 1) [.int .i64 0, .int .i64 0, .int .i64 0] w3 := B1_2.kept k3 (Nat.ne_of_gt y2_BF)
      have B2_3 : Arr (w.heap.size + 1 + 1) [.int .i64 r1.1, .int .i64 0, .int .i64 0] w3 := B2_2.kept k3 (Nat.ne_of_gt y3_BF)
      have z3 := B2_3.lies
      clear c4_B0_6 K2 BF_2 B0_2 B1_2 B2_2 k3
      by_cases hc3 : r3.1 > 219902325555
      · have Hhc3 : Hid (r3.1 > 219902325555) := hc3
        have c5_B2_1 : w3.cell? ⟨w.heap.size + 1 + 1, 1, none⟩ = some (.int .i64 0) := B2_3.c 1 (of_decide_eq_true rfl)
        have g5_B2_1 := B2_3.f 1 (of_decide_eq_true rfl)
        go_wp2_with fail
        clear c5_B2_1 g5_B2_1
        refine rounds_letter (S := fun w' => Kept b w w' ∧ Fl b r3.2 w' ∧ Arr w.heap.size [.bool true, .int .i64 d.1, .int .i64 d.2.1, .int .i64 d.2.2.1, .int .i64 d.2.2.2.1, .int .i64 d.2.2.2.2.1, .int .i64 d.2.2.2.2.2.1, .int .i64 d.2.2.2.2.2.2] w' ∧ Arr (w.heap.size + 1) [.int .i64 0, .int .i64 0, .int .i64 0] w' ∧ Arr (w.heap.size + 1 + 1) [.int .i64 r1.1, .int .i64 219902325555, .int .i64 0] w') ⟨(K3.new _ _ (by omega) _), (f3.new (w.heap.size + 1 + 1) 1 (Nat.ne_of_lt y3_BF) (.int .i64 219902325555)), (B0_3.new (w.heap.size + 1 + 1) 1 (Nat.ne_of_lt y3_B0) (.int .i64 219902325555)), (B1_3.new (w.heap.size + 1 + 1) 1 (Nat.ne_of_lt y3_B1) (.int .i64 219902325555)), (B2_3.put 1 (of_decide_eq_true rfl) (.int .i64 219902325555) [.int .i64 r1.1, .int .i64 219902325555, .int .i64 0] rfl)⟩ ?_
        rintro w4 ⟨K4, BF_4, B0_4, B1_4, B2_4⟩
        have z4 := B2_4.lies
        clear K3 f3 B0_3 B1_3 B2_3
        rw [rounds_succ]
        have c6_B0_7 : w4.cell? ⟨w.heap.size, 7, none⟩ = some (.int .i64 d.2.2.2.2.2.2) := B0_4.c 7 (of_decide_eq_true rfl)
        go_wp2_with fail
        refine (rMul_any b r3.2 d.2.2.2.2.2.2 (-274877906944) _ BF_4).mono ?_
        rintro e w5 ⟨rfl, f5, k5⟩
        generalize e5 : mulS r3.2 d.2.2.2.2.2.2 (-274877906944) = r5 at f5 ⊢
        have E5 : Hid _ := e5
        clear e5
        have K5 : Kept b w w5 := Kept.trans K4 k5
        have B0_5 : Arr w.heap.size [.bool true, .int .i64 d.1, .int .i64 d.2.1, .int .i64 d.2.2.1, .int .i64 d.2.2.2.1, .int .i64 d.2.2.2.2.1, .int .i64 d.2.2.2.2.2.1, .int .i64 d.2.2.2.2.2.2] w5 := B0_4.kept k5 (Nat.ne_of_gt y1_BF)
        have B1_5 : Arr (w.heap.size + 1) [.int .i64 0, .int .i64 0, .int .i64 0] w5 := B1_4.kept k5 (Nat.ne_of_gt y2_BF)
        have B2_5 : Arr (w.heap.size + 1 + 1) [.int .i64 r1.1, .int .i64 219902325555, .int .i64 0] w5 := B2_4.kept k5 (Nat.ne_of_gt y3_BF)
        have z5 := B2_5.lies
        clear c6_B0_7 K4 BF_4 B0_4 B1_4 B2_4 k5
        by_cases hc4 : r5.1 > 219902325555
        · have Hhc4 : Hid (r5.1 > 219902325555) := hc4
          have c7_B2_2 : w5.cell? ⟨w.heap.size + 1 + 1, 2, none⟩ = some (.int .i64 0) := B2_5.c 2 (of_decide_eq_true rfl)
          have g7_B2_2 := B2_5.f 2 (of_decide_eq_true rfl)
          go_wp2_with fail
          clear c7_B2_2 g7_B2_2
          refine rounds_letter (S := fun w' => Kept b w w' ∧ Fl b r5.2 w' ∧ Arr w.heap.size [.bool true, .int .i64 d.1, .int .i64 d.2.1, .int .i64 d.2.2.1, .int .i64 d.2.2.2.1, .int .i64 d.2.2.2.2.1, .int .i64 d.2.2.2.2.2.1, .int .i64 d.2.2.2.2.2.2] w' ∧ Arr (w.heap.size + 1) [.int .i64 0, .int .i64 0, .int .i64 0] w' ∧ Arr (w.heap.size + 1 + 1) [.int .i64 r1.1, .int .i64 219902325555, .int .i64 219902325555] w') ⟨(K5.new _ _ (by omega) _), (f5.new (w.heap.size + 1 + 1) 2 (Nat.ne_of_lt y3_BF) (.int .i64 219902325555)), (B0_5.new (w.heap.size + 1 + 1) 2 (Nat.ne_of_lt y3_B0) (.int .i64 219902325555)), (B1_5.new (w.heap.size + 1 + 1) 2 (Nat.ne_of_lt y3_B1) (.int .i64 219902325555)), (B2_5.put 2 (of_decide_eq_true rfl) (.int .i64 219902325555) [.int .i64 r1.1, .int .i64 219902325555, .int .i64 219902325555] rfl)⟩ ?_
          rintro w6 ⟨K6, BF_6, B0_6, B1_6, B2_6⟩
          have z6 := B2_6.lies
          clear K5 f5 B0_5 B1_5 B2_5
          rw [rounds_succ]
          rcases Bool.eq_false_or_eq_true r5.2 with hc5 | hc5
          · have Hhc5 : Hid (r5.2 = true) := hc5
            have c8_B1_0 : w6.cell? ⟨w.heap.size + 1, 0, none⟩ = some (.int .i64 0) := B1_6.c 0 (of_decide_eq_true rfl)
            have c8_B1_1 : w6.cell? ⟨w.heap.size + 1, 1, none⟩ = some (.int .i64 0) := B1_6.c 1 (of_decide_eq_true rfl)
            have c8_B1_2 : w6.cell? ⟨w.heap.size + 1, 2, none⟩ = some (.int .i64 0) := B1_6.c 2 (of_decide_eq_true rfl)
            have c8_BF := BF_6.cell
            have g8_B1_0 := B1_6.f 0 (of_decide_eq_true rfl)
            have g8_B1_1 := B1_6.f 1 (of_decide_eq_true rfl)
            have g8_B1_2 := B1_6.f 2 (of_decide_eq_true rfl)
            go_wp2_with (with_reducible refine post_stop ?_)
            refine Stop.mk ?_
            clear c8_B1_0 c8_B1_1 c8_B1_2 c8_BF g8_B1_0 g8_B1_1 g8_B1_2
            refine bodyPost_ret (v := .agg #[.int .i64 0, .int .i64 0, .int .i64 0]) (results_arr Try.results11 (((B1_6.put 0 (of_decide_eq_true rfl) (.int .i64 0) [.int .i64 0, .int .i64 0, .int .i64 0] rfl).put 1 (of_decide_eq_true rfl) (.int .i64 0) [.int .i64 0, .int .i64 0, .int .i64 0] rfl).put 2 (of_decide_eq_true rfl) (.int .i64 0) [.int .i64 0, .int .i64 0, .int .i64 0] rfl) rfl (by kernel_rfl) (by kernel_rfl)) rfl ?_
            have hs : rDip1 bad d = ((0, 0, 0), r5.2) := by unfold rDip1; simp only [E1.out, E3.out, E5.out]; rw [if_pos Hhc5.out]
            rw [hs]
            exact ⟨rfl, (((BF_6.new (w.heap.size + 1) 0 (Nat.ne_of_lt y2_BF) (.int .i64 0)).new (w.heap.size + 1) 1 (Nat.ne_of_lt y2_BF) (.int .i64 0)).new (w.heap.size + 1) 2 (Nat.ne_of_lt y2_BF) (.int .i64 0)), (((K6.new _ _ (by omega) _).new _ _ (by omega) _).new _ _ (by omega) _)⟩
          · have Hhc5 : Hid (r5.2 = false) := hc5
            have c8_B1_0 : w6.cell? ⟨w.heap.size + 1, 0, none⟩ = some (.int .i64 0) := B1_6.c 0 (of_decide_eq_true rfl)
            have c8_B1_1 : w6.cell? ⟨w.heap.size + 1, 1, none⟩ = some (.int .i64 0) := B1_6.c 1 (of_decide_eq_true rfl)
            have c8_B1_2 : w6.cell? ⟨w.heap.size + 1, 2, none⟩ = some (.int .i64 0) := B1_6.c 2 (of_decide_eq_true rfl)
            have c8_B2_0 : w6.cell? ⟨w.heap.size + 1 + 1, 0, none⟩ = some (.int .i64 r1.1) := B2_6.c 0 (of_decide_eq_true rfl)
            have c8_B2_1 : w6.cell? ⟨w.heap.size + 1 + 1, 1, none⟩ = some (.int .i64 219902325555) := B2_6.c 1 (of_decide_eq_true rfl)
            have c8_B2_2 : w6.cell? ⟨w.heap.size + 1 + 1, 2, none⟩ = some (.int .i64 219902325555) := B2_6.c 2 (of_decide_eq_true rfl)
            have c8_BF := BF_6.cell
            have g8_B1_0 := B1_6.f 0 (of_decide_eq_true rfl)
            have g8_B1_1 := B1_6.f 1 (of_decide_eq_true rfl)
            have g8_B1_2 := B1_6.f 2 (of_decide_eq_true rfl)
            go_wp2_with (with_reducible refine post_stop ?_)
            refine Stop.mk ?_
            clear c8_B1_0 c8_B1_1 c8_B1_2 c8_B2_0 c8_B2_1 c8_B2_2 c8_BF g8_B1_0 g8_B1_1 g8_B1_2
            refine bodyPost_ret (v := .agg #[.int .i64 r1.1, .int .i64 219902325555, .int .i64 219902325555]) (results_arr Try.results11 (((B1_6.put 0 (of_decide_eq_true rfl) (.int .i64 r1.1) [.int .i64 r1.1, .int .i64 0, .int .i64 0] rfl).put 1 (of_decide_eq_true rfl) (.int .i64 219902325555) [.int .i64 r1.1, .int .i64 219902325555, .int .i64 0] rfl).put 2 (of_decide_eq_true rfl) (.int .i64 219902325555) [.int .i64 r1.1, .int .i64 219902325555, .int .i64 219902325555] rfl) rfl (by kernel_rfl) (by kernel_rfl)) rfl ?_
            have hs : rDip1 bad d = ((r1.1, 219902325555, 219902325555), r5.2) := by unfold rDip1; simp only [E1.out, E3.out, E5.out]; rw [if_neg (by rw [Hhc5.out]; decide)]; rw [show clampS r1.1 = r1.1 by unfold clampS; omega, show clampS r3.1 = 219902325555 by unfold clampS; omega, show clampS r5.1 = 219902325555 by unfold clampS; omega]
            rw [hs]
            exact ⟨rfl, (((BF_6.new (w.heap.size + 1) 0 (Nat.ne_of_lt y2_BF) (.int .i64 r1.1)).new (w.heap.size + 1) 1 (Nat.ne_of_lt y2_BF) (.int .i64 219902325555)).new (w.heap.size + 1) 2 (Nat.ne_of_lt y2_BF) (.int .i64 219902325555)), (((K6.new _ _ (by omega) _).new _ _ (by omega) _).new _ _ (by omega) _)⟩
        · have Hhc4 : Hid (¬ r5.1 > 219902325555) := hc4
          by_cases hc5 : r5.1 < (-219902325555)
          · have Hhc5 : Hid (r5.1 < (-219902325555)) := hc5
            have c7_B2_2 : w5.cell? ⟨w.heap.size + 1 + 1, 2, none⟩ = some (.int .i64 0) := B2_5.c 2 (of_decide_eq_true rfl)
            have g7_B2_2 := B2_5.f 2 (of_decide_eq_true rfl)
            go_wp2_with fail
            clear c7_B2_2 g7_B2_2
            refine rounds_letter (S := fun w' => Kept b w w' ∧ Fl b r5.2 w' ∧ Arr w.heap.size [.bool true, .int .i64 d.1, .int .i64 d.2.1, .int .i64 d.2.2.1, .int .i64 d.2.2.2.1, .int .i64 d.2.2.2.2.1, .int .i64 d.2.2.2.2.2.1, .int .i64 d.2.2.2.2.2.2] w' ∧ Arr (w.heap.size + 1) [.int .i64 0, .int .i64 0, .int .i64 0] w' ∧ Arr (w.heap.size + 1 + 1) [.int .i64 r1.1, .int .i64 219902325555, .int .i64 (-219902325555)] w') ⟨(K5.new _ _ (by omega) _), (f5.new (w.heap.size + 1 + 1) 2 (Nat.ne_of_lt y3_BF) (.int .i64 (-219902325555))), (B0_5.new (w.heap.size + 1 + 1) 2 (Nat.ne_of_lt y3_B0) (.int .i64 (-219902325555))), (B1_5.new (w.heap.size + 1 + 1) 2 (Nat.ne_of_lt y3_B1) (.int .i64 (-219902325555))), (B2_5.put 2 (of_decide_eq_true rfl) (.int .i64 (-219902325555)) [.int .i64 r1.1, .int .i64 219902325555, .int .i64 (-219902325555)] rfl)⟩ ?_
            rintro w6 ⟨K6, BF_6, B0_6, B1_6, B2_6⟩
            have z6 := B2_6.lies
            clear K5 f5 B0_5 B1_5 B2_5
            rw [rounds_succ]
            rcases Bool.eq_false_or_eq_true r5.2 with hc6 | hc6
            · have Hhc6 : Hid (r5.2 = true) := hc6
              have c8_B1_0 : w6.cell? ⟨w.heap.size + 1, 0, none⟩ = some (.int .i64 0) := B1_6.c 0 (of_decide_eq_true rfl)
              have c8_B1_1 : w6.cell? ⟨w.heap.size + 1, 1, none⟩ = some (.int .i64 0) := B1_6.c 1 (of_decide_eq_true rfl)
              have c8_B1_2 : w6.cell? ⟨w.heap.size + 1, 2, none⟩ = some (.int .i64 0) := B1_6.c 2 (of_decide_eq_true rfl)
              have c8_BF := BF_6.cell
              have g8_B1_0 := B1_6.f 0 (of_decide_eq_true rfl)
              have g8_B1_1 := B1_6.f 1 (of_decide_eq_true rfl)
              have g8_B1_2 := B1_6.f 2 (of_decide_eq_true rfl)
              go_wp2_with (with_reducible refine post_stop ?_)
              refine Stop.mk ?_
              clear c8_B1_0 c8_B1_1 c8_B1_2 c8_BF g8_B1_0 g8_B1_1 g8_B1_2
              refine bodyPost_ret (v := .agg #[.int .i64 0, .int .i64 0, .int .i64 0]) (results_arr Try.results11 (((B1_6.put 0 (of_decide_eq_true rfl) (.int .i64 0) [.int .i64 0, .int .i64 0, .int .i64 0] rfl).put 1 (of_decide_eq_true rfl) (.int .i64 0) [.int .i64 0, .int .i64 0, .int .i64 0] rfl).put 2 (of_decide_eq_true rfl) (.int .i64 0) [.int .i64 0, .int .i64 0, .int .i64 0] rfl) rfl (by kernel_rfl) (by kernel_rfl)) rfl ?_
              have hs : rDip1 bad d = ((0, 0, 0), r5.2) := by unfold rDip1; simp only [E1.out, E3.out, E5.out]; rw [if_pos Hhc6.out]
              rw [hs]
              exact ⟨rfl, (((BF_6.new (w.heap.size + 1) 0 (Nat.ne_of_lt y2_BF) (.int .i64 0)).new (w.heap.size + 1) 1 (Nat.ne_of_lt y2_BF) (.int .i64 0)).new (w.heap.size + 1) 2 (Nat.ne_of_lt y2_BF) (.int .i64 0)), (((K6.new _ _ (by omega) _).new _ _ (by omega) _).new _ _ (by omega) _)⟩
            · have Hhc6 : Hid (r5.2 = false) := hc6
              have c8_B1_0 : w6.cell? ⟨w.heap.size + 1, 0, none⟩ = some (.int .i64 0) := B1_6.c 0 (of_decide_eq_true rfl)
              have c8_B1_1 : w6.cell? ⟨w.heap.size + 1, 1, none⟩ = some (.int .i64 0) := B1_6.c 1 (of_decide_eq_true rfl)
              have c8_B1_2 : w6.cell? ⟨w.heap.size + 1, 2, none⟩ = some (.int .i64 0) := B1_6.c 2 (of_decide_eq_true rfl)
              have c8_B2_0 : w6.cell? ⟨w.heap.size + 1 + 1, 0, none⟩ = some (.int .i64 r1.1) := B2_6.c 0 (of_decide_eq_true rfl)
              have c8_B2_1 : w6.cell? ⟨w.heap.size + 1 + 1, 1, none⟩ = some (.int .i64 219902325555) := B2_6.c 1 (of_decide_eq_true rfl)
              have c8_B2_2 : w6.cell? ⟨w.heap.size + 1 + 1, 2, none⟩ = some (.int .i64 (-219902325555)) := B2_6.c 2 (of_decide_eq_true rfl)
              have c8_BF := BF_6.cell
              have g8_B1_0 := B1_6.f 0 (of_decide_eq_true rfl)
              have g8_B1_1 := B1_6.f 1 (of_decide_eq_true rfl)
              have g8_B1_2 := B1_6.f 2 (of_decide_eq_true rfl)
              go_wp2_with (with_reducible refine post_stop ?_)
              refine Stop.mk ?_
              clear c8_B1_0 c8_B1_1 c8_B1_2 c8_B2_0 c8_B2_1 c8_B2_2 c8_BF g8_B1_0 g8_B1_1 g8_B1_2
              refine bodyPost_ret (v := .agg #[.int .i64 r1.1, .int .i64 219902325555, .int .i64 (-219902325555)]) (results_arr Try.results11 (((B1_6.put 0 (of_decide_eq_true rfl) (.int .i64 r1.1) [.int .i64 r1.1, .int .i64 0, .int .i64 0] rfl).put 1 (of_decide_eq_true rfl) (.int .i64 219902325555) [.int .i64 r1.1, .int .i64 219902325555, .int .i64 0] rfl).put 2 (of_decide_eq_true rfl) (.int .i64 (-219902325555)) [.int .i64 r1.1, .int .i64 219902325555, .int .i64 (-219902325555)] rfl) rfl (by kernel_rfl) (by kernel_rfl)) rfl ?_
              have hs : rDip1 bad d = ((r1.1, 219902325555, (-219902325555)), r5.2) := by unfold rDip1; simp only [E1.out, E3.out, E5.out]; rw [if_neg (by rw [Hhc6.out]; decide)]; rw [show clampS r1.1 = r1.1 by unfold clampS; omega, show clampS r3.1 = 219902325555 by unfold clampS; omega, show clampS r5.1 = (-219902325555) by unfold clampS; omega]
              rw [hs]
              exact ⟨rfl, (((BF_6.new (w.heap.size + 1) 0 (Nat.ne_of_lt y2_BF) (.int .i64 r1.1)).new (w.heap.size + 1) 1 (Nat.ne_of_lt y2_BF) (.int .i64 219902325555)).new (w.heap.size + 1) 2 (Nat.ne_of_lt y2_BF) (.int .i64 (-219902325555))), (((K6.new _ _ (by omega) _).new _ _ (by omega) _).new _ _ (by omega) _)⟩
          · have Hhc5 : Hid (¬ r5.1 < (-219902325555)) := hc5
            have c7_B2_2 : w5.cell? ⟨w.heap.size + 1 + 1, 2, none⟩ = some (.int .i64 0) := B2_5.c 2 (of_decide_eq_true rfl)
            have g7_B2_2 := B2_5.f 2 (of_decide_eq_true rfl)
            go_wp2_with fail
            clear c7_B2_2 g7_B2_2
            refine rounds_letter (S := fun w' => Kept b w w' ∧ Fl b r5.2 w' ∧ Arr w.heap.size [.bool true, .int .i64 d.1, .int .i64 d.2.1, .int .i64 d.2.2.1, .int .i64 d.2.2.2.1, .int .i64 d.2.2.2.2.1, .int .i64 d.2.2.2.2.2.1, .int .i64 d.2.2.2.2.2.2] w' ∧ Arr (w.heap.size + 1) [.int .i64 0, .int .i64 0, .int .i64 0] w' ∧ Arr (w.heap.size + 1 + 1) [.int .i64 r1.1, .int .i64 219902325555, .int .i64 r5.1] w') ⟨(K5.new _ _ (by omega) _), (f5.new (w.heap.size + 1 + 1) 2 (Nat.ne_of_lt y3_BF) (.int .i64 r5.1)), (B0_5.new (w.heap.size + 1 + 1) 2 (Nat.ne_of_lt y3_B0) (.int .i64 r5.1)), (B1_5.new (w.heap.size + 1 + 1) 2 (Nat.ne_of_lt y3_B1) (.int .i64 r5.1)), (B2_5.put 2 (of_decide_eq_true rfl) (.int .i64 r5.1) [.int .i64 r1.1, .int .i64 219902325555, .int .i64 r5.1] rfl)⟩ ?_
            rintro w6 ⟨K6, BF_6, B0_6, B1_6, B2_6⟩
            have z6 := B2_6.lies
            clear K5 f5 B0_5 B1_5 B2_5
            rw [rounds_succ]
            rcases Bool.eq_false_or_eq_true r5.2 with hc6 | hc6
            · have Hhc6 : Hid (r5.2 = true) := hc6
              have c8_B1_0 : w6.cell? ⟨w.heap.size + 1, 0, none⟩ = some (.int .i64 0) := B1_6.c 0 (of_decide_eq_true rfl)
              have c8_B1_1 : w6.cell? ⟨w.heap.size + 1, 1, none⟩ = some (.int .i64 0) := B1_6.c 1 (of_decide_eq_true rfl)
              have c8_B1_2 : w6.cell? ⟨w.heap.size + 1, 2, none⟩ = some (.int .i64 0) := B1_6.c 2 (of_decide_eq_true rfl)
              have c8_BF := BF_6.cell
              have g8_B1_0 := B1_6.f 0 (of_decide_eq_true rfl)
              have g8_B1_1 := B1_6.f 1 (of_decide_eq_true rfl)
              have g8_B1_2 := B1_6.f 2 (of_decide_eq_true rfl)
              go_wp2_with (with_reducible refine post_stop ?_)
              refine Stop.mk ?_
              clear c8_B1_0 c8_B1_1 c8_B1_2 c8_BF g8_B1_0 g8_B1_1 g8_B1_2
              refine bodyPost_ret (v := .agg #[.int .i64 0, .int .i64 0, .int .i64 0]) (results_arr Try.results11 (((B1_6.put 0 (of_decide_eq_true rfl) (.int .i64 0) [.int .i64 0, .int .i64 0, .int .i64 0] rfl).put 1 (of_decide_eq_true rfl) (.int .i64 0) [.int .i64 0, .int .i64 0, .int .i64 0] rfl).put 2 (of_decide_eq_true rfl) (.int .i64 0) [.int .i64 0, .int .i64 0, .int .i64 0] rfl) rfl (by kernel_rfl) (by kernel_rfl)) rfl ?_
              have hs : rDip1 bad d = ((0, 0, 0), r5.2) := by unfold rDip1; simp only [E1.out, E3.out, E5.out]; rw [if_pos Hhc6.out]
              rw [hs]
              exact ⟨rfl, (((BF_6.new (w.heap.size + 1) 0 (Nat.ne_of_lt y2_BF) (.int .i64 0)).new (w.heap.size + 1) 1 (Nat.ne_of_lt y2_BF) (.int .i64 0)).new (w.heap.size + 1) 2 (Nat.ne_of_lt y2_BF) (.int .i64 0)), (((K6.new _ _ (by omega) _).new _ _ (by omega) _).new _ _ (by omega) _)⟩
            · have Hhc6 : Hid (r5.2 = false) := hc6
              have c8_B1_0 : w6.cell? ⟨w.heap.size + 1, 0, none⟩ = some (.int .i64 0) := B1_6.c 0 (of_decide_eq_true rfl)
              have c8_B1_1 : w6.cell? ⟨w.heap.size + 1, 1, none⟩ = some (.int .i64 0) := B1_6.c 1 (of_decide_eq_true rfl)
              have c8_B1_2 : w6.cell? ⟨w.heap.size + 1, 2, none⟩ = some (.int .i64 0) := B1_6.c 2 (of_decide_eq_true rfl)
              have c8_B2_0 : w6.cell? ⟨w.heap.size + 1 + 1, 0, none⟩ = some (.int .i64 r1.1) := B2_6.c 0 (of_decide_eq_true rfl)
              have c8_B2_1 : w6.cell? ⟨w.heap.size + 1 + 1, 1, none⟩ = some (.int .i64 219902325555) := B2_6.c 1 (of_decide_eq_true rfl)
              have c8_B2_2 : w6.cell? ⟨w.heap.size + 1 + 1, 2, none⟩ = some (.int .i64 r5.1) := B2_6.c 2 (of_decide_eq_true rfl)
              have c8_BF := BF_6.cell
              have g8_B1_0 := B1_6.f 0 (of_decide_eq_true rfl)
              have g8_B1_1 := B1_6.f 1 (of_decide_eq_true rfl)
              have g8_B1_2 := B1_6.f 2 (of_decide_eq_true rfl)
              go_wp2_with (with_reducible refine post_stop ?_)
              refine Stop.mk ?_
              clear c8_B1_0 c8_B1_1 c8_B1_2 c8_B2_0 c8_B2_1 c8_B2_2 c8_BF g8_B1_0 g8_B1_1 g8_B1_2
              refine bodyPost_ret (v := .agg #[.int .i64 r1.1, .int .i64 219902325555, .int .i64 r5.1]) (results_arr Try.results11 (((B1_6.put 0 (of_decide_eq_true rfl) (.int .i64 r1.1) [.int .i64 r1.1, .int .i64 0, .int .i64 0] rfl).put 1 (of_decide_eq_true rfl) (.int .i64 219902325555) [.int .i64 r1.1, .int .i64 219902325555, .int .i64 0] rfl).put 2 (of_decide_eq_true rfl) (.int .i64 r5.1) [.int .i64 r1.1, .int .i64 219902325555, .int .i64 r5.1] rfl) rfl (by kernel_rfl) (by kernel_rfl)) rfl ?_
              have hs : rDip1 bad d = ((r1.1, 219902325555, r5.1), r5.2) := by unfold rDip1; simp only [E1.out, E3.out, E5.out]; rw [if_neg (by rw [Hhc6.out]; decide)]; rw [show clampS r1.1 = r1.1 by unfold clampS; omega, show clampS r3.1 = 219902325555 by unfold clampS; omega, show clampS r5.1 = r5.1 by unfold clampS; omega]
              rw [hs]
              exact ⟨rfl, (((BF_6.new (w.heap.size + 1) 0 (Nat.ne_of_lt y2_BF) (.int .i64 r1.1)).new (w.heap.size + 1) 1 (Nat.ne_of_lt y2_BF) (.int .i64 219902325555)).new (w.heap.size + 1) 2 (Nat.ne_of_lt y2_BF) (.int .i64 r5.1)), (((K6.new _ _ (by omega) _).new _ _ (by omega) _).new _ _ (by omega) _)⟩
      · have Hhc3 : Hid (¬ r3.1 > 219902325555) := hc3
        by_cases hc4 : r3.1 < (-219902325555)
        · have Hhc4 : Hid (r3.1 < (-219902325555)) := hc4
          have c5_B2_1 : w3.cell? ⟨w.heap.size + 1 + 1, 1, none⟩ = some (.int .i64 0) := B2_3.c 1 (of_decide_eq_true rfl)
          have g5_B2_1 := B2_3.f 1 (of_decide_eq_true rfl)
          go_wp2_with fail
          clear c5_B2_1 g5_B2_1
          refine rounds_letter (S := fun w' => Kept b w w' ∧ Fl b r3.2 w' ∧ Arr w.heap.size [.bool true, .int .i64 d.1, .int .i64 d.2.1, .int .i64 d.2.2.1, .int .i64 d.2.2.2.1, .int .i64 d.2.2.2.2.1, .int .i64 d.2.2.2.2.2.1, .int .i64 d.2.2.2.2.2.2] w' ∧ Arr (w.heap.size + 1) [.int .i64 0, .int .i64 0, .int .i64 0] w' ∧ Arr (w.heap.size + 1 + 1) [.int .i64 r1.1, .int .i64 (-219902325555), .int .i64 0] w') ⟨(K3.new _ _ (by omega) _), (f3.new (w.heap.size + 1 + 1) 1 (Nat.ne_of_lt y3_BF) (.int .i64 (-219902325555))), (B0_3.new (w.heap.size + 1 + 1) 1 (Nat.ne_of_lt y3_B0) (.int .i64 (-219902325555))), (B1_3.new (w.heap.size + 1 + 1) 1 (Nat.ne_of_lt y3_B1) (.int .i64 (-219902325555))), (B2_3.put 1 (of_decide_eq_true rfl) (.int .i64 (-219902325555)) [.int .i64 r1.1, .int .i64 (-219902325555), .int .i64 0] rfl)⟩ ?_
          rintro w4 ⟨K4, BF_4, B0_4, B1_4, B2_4⟩
          have z4 := B2_4.lies
          clear K3 f3 B0_3 B1_3 B2_3
          rw [rounds_succ]
          have c6_B0_7 : w4.cell? ⟨w.heap.size, 7, none⟩ = some (.int .i64 d.2.2.2.2.2.2) := B0_4.c 7 (of_decide_eq_true rfl)
          go_wp2_with fail
          refine (rMul_any b r3.2 d.2.2.2.2.2.2 (-274877906944) _ BF_4).mono ?_
          rintro e w5 ⟨rfl, f5, k5⟩
          generalize e5 : mulS r3.2 d.2.2.2.2.2.2 (-274877906944) = r5 at f5 ⊢
          have E5 : Hid _ := e5
          clear e5
          have K5 : Kept b w w5 := Kept.trans K4 k5
          have B0_5 : Arr w.heap.size [.bool true, .int .i64 d.1, .int .i64 d.2.1, .int .i64 d.2.2.1, .int .i64 d.2.2.2.1, .int .i64 d.2.2.2.2.1, .int .i64 d.2.2.2.2.2.1, .int .i64 d.2.2.2.2.2.2] w5 := B0_4.kept k5 (Nat.ne_of_gt y1_BF)
          have B1_5 : Arr (w.heap.size + 1) [.int .i64 0, .int .i64 0, .int .i64 0] w5 := B1_4.kept k5 (Nat.ne_of_gt y2_BF)
          have B2_5 : Arr (w.heap.size + 1 + 1) [.int .i64 r1.1, .int .i64 (-219902325555), .int .i64 0] w5 := B2_4.kept k5 (Nat.ne_of_gt y3_BF)
          have z5 := B2_5.lies
          clear c6_B0_7 K4 BF_4 B0_4 B1_4 B2_4 k5
          by_cases hc5 : r5.1 > 219902325555
          · have Hhc5 : Hid (r5.1 > 219902325555) := hc5
            have c7_B2_2 : w5.cell? ⟨w.heap.size + 1 + 1, 2, none⟩ = some (.int .i64 0) := B2_5.c 2 (of_decide_eq_true rfl)
            have g7_B2_2 := B2_5.f 2 (of_decide_eq_true rfl)
            go_wp2_with fail
            clear c7_B2_2 g7_B2_2
            refine rounds_letter (S := fun w' => Kept b w w' ∧ Fl b r5.2 w' ∧ Arr w.heap.size [.bool true, .int .i64 d.1, .int .i64 d.2.1, .int .i64 d.2.2.1, .int .i64 d.2.2.2.1, .int .i64 d.2.2.2.2.1, .int .i64 d.2.2.2.2.2.1, .int .i64 d.2.2.2.2.2.2] w' ∧ Arr (w.heap.size + 1) [.int .i64 0, .int .i64 0, .int .i64 0] w' ∧ Arr (w.heap.size + 1 + 1) [.int .i64 r1.1, .int .i64 (-219902325555), .int .i64 219902325555] w') ⟨(K5.new _ _ (by omega) _), (f5.new (w.heap.size + 1 + 1) 2 (Nat.ne_of_lt y3_BF) (.int .i64 219902325555)), (B0_5.new (w.heap.size + 1 + 1) 2 (Nat.ne_of_lt y3_B0) (.int .i64 219902325555)), (B1_5.new (w.heap.size + 1 + 1) 2 (Nat.ne_of_lt y3_B1) (.int .i64 219902325555)), (B2_5.put 2 (of_decide_eq_true rfl) (.int .i64 219902325555) [.int .i64 r1.1, .int .i64 (-219902325555), .int .i64 219902325555] rfl)⟩ ?_
            rintro w6 ⟨K6, BF_6, B0_6, B1_6, B2_6⟩
            have z6 := B2_6.lies
            clear K5 f5 B0_5 B1_5 B2_5
            rw [rounds_succ]
            rcases Bool.eq_false_or_eq_true r5.2 with hc6 | hc6
            · have Hhc6 : Hid (r5.2 = true) := hc6
              have c8_B1_0 : w6.cell? ⟨w.heap.size + 1, 0, none⟩ = some (.int .i64 0) := B1_6.c 0 (of_decide_eq_true rfl)
              have c8_B1_1 : w6.cell? ⟨w.heap.size + 1, 1, none⟩ = some (.int .i64 0) := B1_6.c 1 (of_decide_eq_true rfl)
              have c8_B1_2 : w6.cell? ⟨w.heap.size + 1, 2, none⟩ = some (.int .i64 0) := B1_6.c 2 (of_decide_eq_true rfl)
              have c8_BF := BF_6.cell
              have g8_B1_0 := B1_6.f 0 (of_decide_eq_true rfl)
              have g8_B1_1 := B1_6.f 1 (of_decide_eq_true rfl)
              have g8_B1_2 := B1_6.f 2 (of_decide_eq_true rfl)
              go_wp2_with (with_reducible refine post_stop ?_)
              refine Stop.mk ?_
              clear c8_B1_0 c8_B1_1 c8_B1_2 c8_BF g8_B1_0 g8_B1_1 g8_B1_2
              refine bodyPost_ret (v := .agg #[.int .i64 0, .int .i64 0, .int .i64 0]) (results_arr Try.results11 (((B1_6.put 0 (of_decide_eq_true rfl) (.int .i64 0) [.int .i64 0, .int .i64 0, .int .i64 0] rfl).put 1 (of_decide_eq_true rfl) (.int .i64 0) [.int .i64 0, .int .i64 0, .int .i64 0] rfl).put 2 (of_decide_eq_true rfl) (.int .i64 0) [.int .i64 0, .int .i64 0, .int .i64 0] rfl) rfl (by kernel_rfl) (by kernel_rfl)) rfl ?_
              have hs : rDip1 bad d = ((0, 0, 0), r5.2) := by unfold rDip1; simp only [E1.out, E3.out, E5.out]; rw [if_pos Hhc6.out]
              rw [hs]
              exact ⟨rfl, (((BF_6.new (w.heap.size + 1) 0 (Nat.ne_of_lt y2_BF) (.int .i64 0)).new (w.heap.size + 1) 1 (Nat.ne_of_lt y2_BF) (.int .i64 0)).new (w.heap.size + 1) 2 (Nat.ne_of_lt y2_BF) (.int .i64 0)), (((K6.new _ _ (by omega) _).new _ _ (by omega) _).new _ _ (by omega) _)⟩
            · have Hhc6 : Hid (r5.2 = false) := hc6
              have c8_B1_0 : w6.cell? ⟨w.heap.size + 1, 0, none⟩ = some (.int .i64 0) := B1_6.c 0 (of_decide_eq_true rfl)
              have c8_B1_1 : w6.cell? ⟨w.heap.size + 1, 1, none⟩ = some (.int .i64 0) := B1_6.c 1 (of_decide_eq_true rfl)
              have c8_B1_2 : w6.cell? ⟨w.heap.size + 1, 2, none⟩ = some (.int .i64 0) := B1_6.c 2 (of_decide_eq_true rfl)
              have c8_B2_0 : w6.cell? ⟨w.heap.size + 1 + 1, 0, none⟩ = some (.int .i64 r1.1) := B2_6.c 0 (of_decide_eq_true rfl)
              have c8_B2_1 : w6.cell? ⟨w.heap.size + 1 + 1, 1, none⟩ = some (.int .i64 (-219902325555)) := B2_6.c 1 (of_decide_eq_true rfl)
              have c8_B2_2 : w6.cell? ⟨w.heap.size + 1 + 1, 2, none⟩ = some (.int .i64 219902325555) := B2_6.c 2 (of_decide_eq_true rfl)
              have c8_BF := BF_6.cell
              have g8_B1_0 := B1_6.f 0 (of_decide_eq_true rfl)
              have g8_B1_1 := B1_6.f 1 (of_decide_eq_true rfl)
              have g8_B1_2 := B1_6.f 2 (of_decide_eq_true rfl)
              go_wp2_with (with_reducible refine post_stop ?_)
              refine Stop.mk ?_
              clear c8_B1_0 c8_B1_1 c8_B1_2 c8_B2_0 c8_B2_1 c8_B2_2 c8_BF g8_B1_0 g8_B1_1 g8_B1_2
              refine bodyPost_ret (v := .agg #[.int .i64 r1.1, .int .i64 (-219902325555), .int .i64 219902325555]) (results_arr Try.results11 (((B1_6.put 0 (of_decide_eq_true rfl) (.int .i64 r1.1) [.int .i64 r1.1, .int .i64 0, .int .i64 0] rfl).put 1 (of_decide_eq_true rfl) (.int .i64 (-219902325555)) [.int .i64 r1.1, .int .i64 (-219902325555), .int .i64 0] rfl).put 2 (of_decide_eq_true rfl) (.int .i64 219902325555) [.int .i64 r1.1, .int .i64 (-219902325555), .int .i64 219902325555] rfl) rfl (by kernel_rfl) (by kernel_rfl)) rfl ?_
              have hs : rDip1 bad d = ((r1.1, (-219902325555), 219902325555), r5.2) := by unfold rDip1; simp only [E1.out, E3.out, E5.out]; rw [if_neg (by rw [Hhc6.out]; decide)]; rw [show clampS r1.1 = r1.1 by unfold clampS; omega, show clampS r3.1 = (-219902325555) by unfold clampS; omega, show clampS r5.1 = 219902325555 by unfold clampS; omega]
              rw [hs]
              exact ⟨rfl, (((BF_6.new (w.heap.size + 1) 0 (Nat.ne_of_lt y2_BF) (.int .i64 r1.1)).new (w.heap.size + 1) 1 (Nat.ne_of_lt y2_BF) (.int .i64 (-219902325555))).new (w.heap.size + 1) 2 (Nat.ne_of_lt y2_BF) (.int .i64 219902325555)), (((K6.new _ _ (by omega) _).new _ _ (by omega) _).new _ _ (by omega) _)⟩
          · have Hhc5 : Hid (¬ r5.1 > 219902325555) := hc5
            by_cases hc6 : r5.1 < (-219902325555)
            · have Hhc6 : Hid (r5.1 < (-219902325555)) := hc6
              have c7_B2_2 : w5.cell? ⟨w.heap.size + 1 + 1, 2, none⟩ = some (.int .i64 0) := B2_5.c 2 (of_decide_eq_true rfl)
              have g7_B2_2 := B2_5.f 2 (of_decide_eq_true rfl)
              go_wp2_with fail
              clear c7_B2_2 g7_B2_2
              refine rounds_letter (S := fun w' => Kept b w w' ∧ Fl b r5.2 w' ∧ Arr w.heap.size [.bool true, .int .i64 d.1, .int .i64 d.2.1, .int .i64 d.2.2.1, .int .i64 d.2.2.2.1, .int .i64 d.2.2.2.2.1, .int .i64 d.2.2.2.2.2.1, .int .i64 d.2.2.2.2.2.2] w' ∧ Arr (w.heap.size + 1) [.int .i64 0, .int .i64 0, .int .i64 0] w' ∧ Arr (w.heap.size + 1 + 1) [.int .i64 r1.1, .int .i64 (-219902325555), .int .i64 (-219902325555)] w') ⟨(K5.new _ _ (by omega) _), (f5.new (w.heap.size + 1 + 1) 2 (Nat.ne_of_lt y3_BF) (.int .i64 (-219902325555))), (B0_5.new (w.heap.size + 1 + 1) 2 (Nat.ne_of_lt y3_B0) (.int .i64 (-219902325555))), (B1_5.new (w.heap.size + 1 + 1) 2 (Nat.ne_of_lt y3_B1) (.int .i64 (-219902325555))), (B2_5.put 2 (of_decide_eq_true rfl) (.int .i64 (-219902325555)) [.int .i64 r1.1, .int .i64 (-219902325555), .int .i64 (-219902325555)] rfl)⟩ ?_
              rintro w6 ⟨K6, BF_6, B0_6, B1_6, B2_6⟩
              have z6 := B2_6.lies
              clear K5 f5 B0_5 B1_5 B2_5
              rw [rounds_succ]
              rcases Bool.eq_false_or_eq_true r5.2 with hc7 | hc7
              · have Hhc7 : Hid (r5.2 = true) := hc7
                have c8_B1_0 : w6.cell? ⟨w.heap.size + 1, 0, none⟩ = some (.int .i64 0) := B1_6.c 0 (of_decide_eq_true rfl)
                have c8_B1_1 : w6.cell? ⟨w.heap.size + 1, 1, none⟩ = some (.int .i64 0) := B1_6.c 1 (of_decide_eq_true rfl)
                have c8_B1_2 : w6.cell? ⟨w.heap.size + 1, 2, none⟩ = some (.int .i64 0) := B1_6.c 2 (of_decide_eq_true rfl)
                have c8_BF := BF_6.cell
                have g8_B1_0 := B1_6.f 0 (of_decide_eq_true rfl)
                have g8_B1_1 := B1_6.f 1 (of_decide_eq_true rfl)
                have g8_B1_2 := B1_6.f 2 (of_decide_eq_true rfl)
                go_wp2_with (with_reducible refine post_stop ?_)
                refine Stop.mk ?_
                clear c8_B1_0 c8_B1_1 c8_B1_2 c8_BF g8_B1_0 g8_B1_1 g8_B1_2
                refine bodyPost_ret (v := .agg #[.int .i64 0, .int .i64 0, .int .i64 0]) (results_arr Try.results11 (((B1_6.put 0 (of_decide_eq_true rfl) (.int .i64 0) [.int .i64 0, .int .i64 0, .int .i64 0] rfl).put 1 (of_decide_eq_true rfl) (.int .i64 0) [.int .i64 0, .int .i64 0, .int .i64 0] rfl).put 2 (of_decide_eq_true rfl) (.int .i64 0) [.int .i64 0, .int .i64 0, .int .i64 0] rfl) rfl (by kernel_rfl) (by kernel_rfl)) rfl ?_
                have hs : rDip1 bad d = ((0, 0, 0), r5.2) := by unfold rDip1; simp only [E1.out, E3.out, E5.out]; rw [if_pos Hhc7.out]
                rw [hs]
                exact ⟨rfl, (((BF_6.new (w.heap.size + 1) 0 (Nat.ne_of_lt y2_BF) (.int .i64 0)).new (w.heap.size + 1) 1 (Nat.ne_of_lt y2_BF) (.int .i64 0)).new (w.heap.size + 1) 2 (Nat.ne_of_lt y2_BF) (.int .i64 0)), (((K6.new _ _ (by omega) _).new _ _ (by omega) _).new _ _ (by omega) _)⟩
              · have Hhc7 : Hid (r5.2 = false) := hc7
                have c8_B1_0 : w6.cell? ⟨w.heap.size + 1, 0, none⟩ = some (.int .i64 0) := B1_6.c 0 (of_decide_eq_true rfl)
                have c8_B1_1 : w6.cell? ⟨w.heap.size + 1, 1, none⟩ = some (.int .i64 0) := B1_6.c 1 (of_decide_eq_true rfl)
                have c8_B1_2 : w6.cell? ⟨w.heap.size + 1, 2, none⟩ = some (.int .i64 0) := B1_6.c 2 (of_decide_eq_true rfl)
                have c8_B2_0 : w6.cell? ⟨w.heap.size + 1 + 1, 0, none⟩ = some (.int .i64 r1.1) := B2_6.c 0 (of_decide_eq_true rfl)
                have c8_B2_1 : w6.cell? ⟨w.heap.size + 1 + 1, 1, none⟩ = some (.int .i64 (-219902325555)) := B2_6.c 1 (of_decide_eq_true rfl)
                have c8_B2_2 : w6.cell? ⟨w.heap.size + 1 + 1, 2, none⟩ = some (.int .i64 (-219902325555)) := B2_6.c 2 (of_decide_eq_true rfl)
                have c8_BF := BF_6.cell
                have g8_B1_0 := B1_6.f 0 (of_decide_eq_true rfl)
                have g8_B1_1 := B1_6.f 1 (of_decide_eq_true rfl)
                have g8_B1_2 := B1_6.f 2 (of_decide_eq_true rfl)
                go_wp2_with (with_reducible refine post_stop ?_)
                refine Stop.mk ?_
                clear c8_B1_0 c8_B1_1 c8_B1_2 c8_B2_0 c8_B2_1 c8_B2_2 c8_BF g8_B1_0 g8_B1_1 g8_B1_2
                refine bodyPost_ret (v := .agg #[.int .i64 r1.1, .int .i64 (-219902325555), .int .i64 (-219902325555)]) (results_arr Try.results11 (((B1_6.put 0 (of_decide_eq_true rfl) (.int .i64 r1.1) [.int .i64 r1.1, .int .i64 0, .int .i64 0] rfl).put 1 (of_decide_eq_true rfl) (.int .i64 (-219902325555)) [.int .i64 r1.1, .int .i64 (-219902325555), .int .i64 0] rfl).put 2 (of_decide_eq_true rfl) (.int .i64 (-219902325555)) [.int .i64 r1.1, .int .i64 (-219902325555), .int .i64 (-219902325555)] rfl) rfl (by kernel_rfl) (by kernel_rfl)) rfl ?_
                have hs : rDip1 bad d = ((r1.1, (-219902325555), (-219902325555)), r5.2) := by unfold rDip1; simp only [E1.out, E3.out, E5.out]; rw [if_neg (by rw [Hhc7.out]; decide)]; rw [show clampS r1.1 = r1.1 by unfold clampS; omega, show clampS r3.1 = (-219902325555) by unfold clampS; omega, show clampS r5.1 = (-219902325555) by unfold clampS; omega]
                rw [hs]
                exact ⟨rfl, (((BF_6.new (w.heap.size + 1) 0 (Nat.ne_of_lt y2_BF) (.int .i64 r1.1)).new (w.heap.size + 1) 1 (Nat.ne_of_lt y2_BF) (.int .i64 (-219902325555))).new (w.heap.size + 1) 2 (Nat.ne_of_lt y2_BF) (.int .i64 (-219902325555))), (((K6.new _ _ (by omega) _).new _ _ (by omega) _).new _ _ (by omega) _)⟩
            · have Hhc6 : Hid (¬ r5.1 < (-219902325555)) := hc6
              have c7_B2_2 : w5.cell? ⟨w.heap.size + 1 + 1, 2, none⟩ = some (.int .i64 0) := B2_5.c 2 (of_decide_eq_true rfl)
              have g7_B2_2 := B2_5.f 2 (of_decide_eq_true rfl)
              go_wp2_with fail
              clear c7_B2_2 g7_B2_2
              refine rounds_letter (S := fun w' => Kept b w w' ∧ Fl b r5.2 w' ∧ Arr w.heap.size [.bool true, .int .i64 d.1, .int .i64 d.2.1, .int .i64 d.2.2.1, .int .i64 d.2.2.2.1, .int .i64 d.2.2.2.2.1, .int .i64 d.2.2.2.2.2.1, .int .i64 d.2.2.2.2.2.2] w' ∧ Arr (w.heap.size + 1) [.int .i64 0, .int .i64 0, .int .i64 0] w' ∧ Arr (w.heap.size + 1 + 1) [.int .i64 r1.1, .int .i64 (-219902325555), .int .i64 r5.1] w') ⟨(K5.new _ _ (by omega) _), (f5.new (w.heap.size + 1 + 1) 2 (Nat.ne_of_lt y3_BF) (.int .i64 r5.1)), (B0_5.new (w.heap.size + 1 + 1) 2 (Nat.ne_of_lt y3_B0) (.int .i64 r5.1)), (B1_5.new (w.heap.size + 1 + 1) 2 (Nat.ne_of_lt y3_B1) (.int .i64 r5.1)), (B2_5.put 2 (of_decide_eq_true rfl) (.int .i64 r5.1) [.int .i64 r1.1, .int .i64 (-219902325555), .int .i64 r5.1] rfl)⟩ ?_
              rintro w6 ⟨K6, BF_6, B0_6, B1_6, B2_6⟩
              have z6 := B2_6.lies
              clear K5 f5 B0_5 B1_5 B2_5
              rw [rounds_succ]
              rcases Bool.eq_false_or_eq_true r5.2 with hc7 | hc7
              · have Hhc7 : Hid (r5.2 = true) := hc7
                have c8_B1_0 : w6.cell? ⟨w.heap.size + 1, 0, none⟩ = some (.int .i64 0) := B1_6.c 0 (of_decide_eq_true rfl)
                have c8_B1_1 : w6.cell? ⟨w.heap.size + 1, 1, none⟩ = some (.int .i64 0) := B1_6.c 1 (of_decide_eq_true rfl)
                have c8_B1_2 : w6.cell? ⟨w.heap.size + 1, 2, none⟩ = some (.int .i64 0) := B1_6.c 2 (of_decide_eq_true rfl)
                have c8_BF := BF_6.cell
                have g8_B1_0 := B1_6.f 0 (of_decide_eq_true rfl)
                have g8_B1_1 := B1_6.f 1 (of_decide_eq_true rfl)
                have g8_B1_2 := B1_6.f 2 (of_decide_eq_true rfl)
                go_wp2_with (with_reducible refine post_stop ?_)
                refine Stop.mk ?_
                clear c8_B1_0 c8_B1_1 c8_B1_2 c8_BF g8_B1_0 g8_B1_1 g8_B1_2
                refine bodyPost_ret (v := .agg #[.int .i64 0, .int .i64 0, .int .i64 0]) (results_arr Try.results11 (((B1_6.put 0 (of_decide_eq_true rfl) (.int .i64 0) [.int .i64 0, .int .i64 0, .int .i64 0] rfl).put 1 (of_decide_eq_true rfl) (.int .i64 0) [.int .i64 0, .int .i64 0, .int .i64 0] rfl).put 2 (of_decide_eq_true rfl) (.int .i64 0) [.int .i64 0, .int .i64 0, .int .i64 0] rfl) rfl (by kernel_rfl) (by kernel_rfl)) rfl ?_
                have hs : rDip1 bad d = ((0, 0, 0), r5.2) := by unfold rDip1; simp only [E1.out, E3.out, E5.out]; rw [if_pos Hhc7.out]
                rw [hs]
                exact ⟨rfl, (((BF_6.new (w.heap.size + 1) 0 (Nat.ne_of_lt y2_BF) (.int .i64 0)).new (w.heap.size + 1) 1 (Nat.ne_of_lt y2_BF) (.int .i64 0)).new (w.heap.size + 1) 2 (Nat.ne_of_lt y2_BF) (.int .i64 0)), (((K6.new _ _ (by omega) _).new _ _ (by omega) _).new _ _ (by omega) _)⟩
              · have Hhc7 : Hid (r5.2 = false) := hc7
                have c8_B1_0 : w6.cell? ⟨w.heap.size + 1, 0, none⟩ = some (.int .i64 0) := B1_6.c 0 (of_decide_eq_true rfl)
                have c8_B1_1 : w6.cell? ⟨w.heap.size + 1, 1, none⟩ = some (.int .i64 0) := B1_6.c 1 (of_decide_eq_true rfl)
                have c8_B1_2 : w6.cell? ⟨w.heap.size + 1, 2, none⟩ = some (.int .i64 0) := B1_6.c 2 (of_decide_eq_true rfl)
                have c8_B2_0 : w6.cell? ⟨w.heap.size + 1 + 1, 0, none⟩ = some (.int .i64 r1.1) := B2_6.c 0 (of_decide_eq_true rfl)
                have c8_B2_1 : w6.cell? ⟨w.heap.size + 1 + 1, 1, none⟩ = some (.int .i64 (-219902325555)) := B2_6.c 1 (of_decide_eq_true rfl)
                have c8_B2_2 : w6.cell? ⟨w.heap.size + 1 + 1, 2, none⟩ = some (.int .i64 r5.1) := B2_6.c 2 (of_decide_eq_true rfl)
                have c8_BF := BF_6.cell
                have g8_B1_0 := B1_6.f 0 (of_decide_eq_true rfl)
                have g8_B1_1 := B1_6.f 1 (of_decide_eq_true rfl)
                have g8_B1_2 := B1_6.f 2 (of_decide_eq_true rfl)
                go_wp2_with (with_reducible refine post_stop ?_)
                refine Stop.mk ?_
                clear c8_B1_0 c8_B1_1 c8_B1_2 c8_B2_0 c8_B2_1 c8_B2_2 c8_BF g8_B1_0 g8_B1_1 g8_B1_2
                refine bodyPost_ret (v := .agg #[.int .i64 r1.1, .int .i64 (-219902325555), .int .i64 r5.1]) (results_arr Try.results11 (((B1_6.put 0 (of_decide_eq_true rfl) (.int .i64 r1.1) [.int .i64 r1.1, .int .i64 0, .int .i64 0] rfl).put 1 (of_decide_eq_true rfl) (.int .i64 (-219902325555)) [.int .i64 r1.1, .int .i64 (-219902325555), .int .i64 0] rfl).put 2 (of_decide_eq_true rfl) (.int .i64 r5.1) [.int .i64 r1.1, .int .i64 (-219902325555), .int .i64 r5.1] rfl) rfl (by kernel_rfl) (by kernel_rfl)) rfl ?_
                have hs : rDip1 bad d = ((r1.1, (-219902325555), r5.1), r5.2) := by unfold rDip1; simp only [E1.out, E3.out, E5.out]; rw [if_neg (by rw [Hhc7.out]; decide)]; rw [show clampS r1.1 = r1.1 by unfold clampS; omega, show clampS r3.1 = (-219902325555) by unfold clampS; omega, show clampS r5.1 = r5.1 by unfold clampS; omega]
                rw [hs]
                exact ⟨rfl, (((BF_6.new (w.heap.size + 1) 0 (Nat.ne_of_lt y2_BF) (.int .i64 r1.1)).new (w.heap.size + 1) 1 (Nat.ne_of_lt y2_BF) (.int .i64 (-219902325555))).new (w.heap.size + 1) 2 (Nat.ne_of_lt y2_BF) (.int .i64 r5.1)), (((K6.new _ _ (by omega) _).new _ _ (by omega) _).new _ _ (by omega) _)⟩
        · have Hhc4 : Hid (¬ r3.1 < (-219902325555)) := hc4
          have c5_B2_1 : w3.cell? ⟨w.heap.size + 1 + 1, 1, none⟩ = some (.int .i64 0) := B2_3.c 1 (of_decide_eq_true rfl)
          have g5_B2_1 := B2_3.f 1 (of_decide_eq_true rfl)
          go_wp2_with fail
          clear c5_B2_1 g5_B2_1
          refine rounds_letter (S := fun w' => Kept b w w' ∧ Fl b r3.2 w' ∧ Arr w.heap.size [.bool true, .int .i64 d.1, .int .i64 d.2.1, .int .i64 d.2.2.1, .int .i64 d.2.2.2.1, .int .i64 d.2.2.2.2.1, .int .i64 d.2.2.2.2.2.1, .int .i64 d.2.2.2.2.2.2] w' ∧ Arr (w.heap.size + 1) [.int .i64 0, .int .i64 0, .int .i64 0] w' ∧ Arr (w.heap.size + 1 + 1) [.int .i64 r1.1, .int .i64 r3.1, .int .i64 0] w') ⟨(K3.new _ _ (by omega) _), (f3.new (w.heap.size + 1 + 1) 1 (Nat.ne_of_lt y3_BF) (.int .i64 r3.1)), (B0_3.new (w.heap.size + 1 + 1) 1 (Nat.ne_of_lt y3_B0) (.int .i64 r3.1)), (B1_3.new (w.heap.size + 1 + 1) 1 (Nat.ne_of_lt y3_B1) (.int .i64 r3.1)), (B2_3.put 1 (of_decide_eq_true rfl) (.int .i64 r3.1) [.int .i64 r1.1, .int .i64 r3.1, .int .i64 0] rfl)⟩ ?_
          rintro w4 ⟨K4, BF_4, B0_4, B1_4, B2_4⟩
          have z4 := B2_4.lies
          clear K3 f3 B0_3 B1_3 B2_3
          rw [rounds_succ]
          have c6_B0_7 : w4.cell? ⟨w.heap.size, 7, none⟩ = some (.int .i64 d.2.2.2.2.2.2) := B0_4.c 7 (of_decide_eq_true rfl)
          go_wp2_with fail
          refine (rMul_any b r3.2 d.2.2.2.2.2.2 (-274877906944) _ BF_4).mono ?_
          rintro e w5 ⟨rfl, f5, k5⟩
          generalize e5 : mulS r3.2 d.2.2.2.2.2.2 (-274877906944) = r5 at f5 ⊢
          have E5 : Hid _ := e5
          clear e5
          have K5 : Kept b w w5 := Kept.trans K4 k5
          have B0_5 : Arr w.heap.size [.bool true, .int .i64 d.1, .int .i64 d.2.1, .int .i64 d.2.2.1, .int .i64 d.2.2.2.1, .int .i64 d.2.2.2.2.1, .int .i64 d.2.2.2.2.2.1, .int .i64 d.2.2.2.2.2.2] w5 := B0_4.kept k5 (Nat.ne_of_gt y1_BF)
          have B1_5 : Arr (w.heap.size + 1) [.int .i64 0, .int .i64 0, .int .i64 0] w5 := B1_4.kept k5 (Nat.ne_of_gt y2_BF)
          have B2_5 : Arr (w.heap.size + 1 + 1) [.int .i64 r1.1, .int .i64 r3.1, .int .i64 0] w5 := B2_4.kept k5 (Nat.ne_of_gt y3_BF)
          have z5 := B2_5.lies
          clear c6_B0_7 K4 BF_4 B0_4 B1_4 B2_4 k5
          by_cases hc5 : r5.1 > 219902325555
          · have Hhc5 : Hid (r5.1 > 219902325555) := hc5
            have c7_B2_2 : w5.cell? ⟨w.heap.size + 1 + 1, 2, none⟩ = some (.int .i64 0) := B2_5.c 2 (of_decide_eq_true rfl)
            have g7_B2_2 := B2_5.f 2 (of_decide_eq_true rfl)
            go_wp2_with fail
            clear c7_B2_2 g7_B2_2
            refine rounds_letter (S := fun w' => Kept b w w' ∧ Fl b r5.2 w' ∧ Arr w.heap.size [.bool true, .int .i64 d.1, .int .i64 d.2.1, .int .i64 d.2.2.1, .int .i64 d.2.2.2.1, .int .i64 d.2.2.2.2.1, .int .i64 d.2.2.2.2.2.1, .int .i64 d.2.2.2.2.2.2] w' ∧ Arr (w.heap.size + 1) [.int .i64 0, .int .i64 0, .int .i64 0] w' ∧ Arr (w.heap.size + 1 + 1) [.int .i64 r1.1, .int .i64 r3.1, .int .i64 219902325555] w') ⟨(K5.new _ _ (by omega) _), (f5.new (w.heap.size + 1 + 1) 2 (Nat.ne_of_lt y3_BF) (.int .i64 219902325555)), (B0_5.new (w.heap.size + 1 + 1) 2 (Nat.ne_of_lt y3_B0) (.int .i64 219902325555)), (B1_5.new (w.heap.size + 1 + 1) 2 (Nat.ne_of_lt y3_B1) (.int .i64 219902325555)), (B2_5.put 2 (of_decide_eq_true rfl) (.int .i64 219902325555) [.int .i64 r1.1, .int .i64 r3.1, .int .i64 219902325555] rfl)⟩ ?_
            rintro w6 ⟨K6, BF_6, B0_6, B1_6, B2_6⟩
            have z6 := B2_6.lies
            clear K5 f5 B0_5 B1_5 B2_5
            rw [rounds_succ]
            rcases Bool.eq_false_or_eq_true r5.2 with hc6 | hc6
            · have Hhc6 : Hid (r5.2 = true) := hc6
              have c8_B1_0 : w6.cell? ⟨w.heap.size + 1, 0, none⟩ = some (.int .i64 0) := B1_6.c 0 (of_decide_eq_true rfl)
              have c8_B1_1 : w6.cell? ⟨w.heap.size + 1, 1, none⟩ = some (.int .i64 0) := B1_6.c 1 (of_decide_eq_true rfl)
              have c8_B1_2 : w6.cell? ⟨w.heap.size + 1, 2, none⟩ = some (.int .i64 0) := B1_6.c 2 (of_decide_eq_true rfl)
              have c8_BF := BF_6.cell
              have g8_B1_0 := B1_6.f 0 (of_decide_eq_true rfl)
              have g8_B1_1 := B1_6.f 1 (of_decide_eq_true rfl)
              have g8_B1_2 := B1_6.f 2 (of_decide_eq_true rfl)
              go_wp2_with (with_reducible refine post_stop ?_)
              refine Stop.mk ?_
              clear c8_B1_0 c8_B1_1 c8_B1_2 c8_BF g8_B1_0 g8_B1_1 g8_B1_2
              refine bodyPost_ret (v := .agg #[.int .i64 0, .int .i64 0, .int .i64 0]) (results_arr Try.results11 (((B1_6.put 0 (of_decide_eq_true rfl) (.int .i64 0) [.int .i64 0, .int .i64 0, .int .i64 0] rfl).put 1 (of_decide_eq_true rfl) (.int .i64 0) [.int .i64 0, .int .i64 0, .int .i64 0] rfl).put 2 (of_decide_eq_true rfl) (.int .i64 0) [.int .i64 0, .int .i64 0, .int .i64 0] rfl) rfl (by kernel_rfl) (by kernel_rfl)) rfl ?_
              have hs : rDip1 bad d = ((0, 0, 0), r5.2) := by unfold rDip1; simp only [E1.out, E3.out, E5.out]; rw [if_pos Hhc6.out]
              rw [hs]
              exact ⟨rfl, (((BF_6.new (w.heap.size + 1) 0 (Nat.ne_of_lt y2_BF) (.int .i64 0)).new (w.heap.size + 1) 1 (Nat.ne_of_lt y2_BF) (.int .i64 0)).new (w.heap.size + 1) 2 (Nat.ne_of_lt y2_BF) (.int .i64 0)), (((K6.new _ _ (by omega) _).new _ _ (by omega) _).new _ _ (by omega) _)⟩
            · have Hhc6 : Hid (r5.2 = false) := hc6
              have c8_B1_0 : w6.cell? ⟨w.heap.size + 1, 0, none⟩ = some (.int .i64 0) := B1_6.c 0 (of_decide_eq_true rfl)
              have c8_B1_1 : w6.cell? ⟨w.heap.size + 1, 1, none⟩ = some (.int .i64 0) := B1_6.c 1 (of_decide_eq_true rfl)
              have c8_B1_2 : w6.cell? ⟨w.heap.size + 1, 2, none⟩ = some (.int .i64 0) := B1_6.c 2 (of_decide_eq_true rfl)
              have c8_B2_0 : w6.cell? ⟨w.heap.size + 1 + 1, 0, none⟩ = some (.int .i64 r1.1) := B2_6.c 0 (of_decide_eq_true rfl)
              have c8_B2_1 : w6.cell? ⟨w.heap.size + 1 + 1, 1, none⟩ = some (.int .i64 r3.1) := B2_6.c 1 (of_decide_eq_true rfl)
              have c8_B2_2 : w6.cell? ⟨w.heap.size + 1 + 1, 2, none⟩ = some (.int .i64 219902325555) := B2_6.c 2 (of_decide_eq_true rfl)
              have c8_BF := BF_6.cell
              have g8_B1_0 := B1_6.f 0 (of_decide_eq_true rfl)
              have g8_B1_1 := B1_6.f 1 (of_decide_eq_true rfl)
              have g8_B1_2 := B1_6.f 2 (of_decide_eq_true rfl)
              go_wp2_with (with_reducible refine post_stop ?_)
              refine Stop.mk ?_
              clear c8_B1_0 c8_B1_1 c8_B1_2 c8_B2_0 c8_B2_1 c8_B2_2 c8_BF g8_B1_0 g8_B1_1 g8_B1_2
              refine bodyPost_ret (v := .agg #[.int .i64 r1.1, .int .i64 r3.1, .int .i64 219902325555]) (results_arr Try.results11 (((B1_6.put 0 (of_decide_eq_true rfl) (.int .i64 r1.1) [.int .i64 r1.1, .int .i64 0, .int .i64 0] rfl).put 1 (of_decide_eq_true rfl) (.int .i64 r3.1) [.int .i64 r1.1, .int .i64 r3.1, .int .i64 0] rfl).put 2 (of_decide_eq_true rfl) (.int .i64 219902325555) [.int .i64 r1.1, .int .i64 r3.1, .int .i64 219902325555] rfl) rfl (by kernel_rfl) (by kernel_rfl)) rfl ?_
              have hs : rDip1 bad d = ((r1.1, r3.1, 219902325555), r5.2) := by unfold rDip1; simp only [E1.out, E3.out, E5.out]; rw [if_neg (by rw [Hhc6.out]; decide)]; rw [show clampS r1.1 = r1.1 by unfold clampS; omega, show clampS r3.1 = r3.1 by unfold clampS; omega, show clampS r5.1 = 219902325555 by unfold clampS; omega]
              rw [hs]
              exact ⟨rfl, (((BF_6.new (w.heap.size + 1) 0 (Nat.ne_of_lt y2_BF) (.int .i64 r1.1)).new (w.heap.size + 1) 1 (Nat.ne_of_lt y2_BF) (.int .i64 r3.1)).new (w.heap.size + 1) 2 (Nat.ne_of_lt y2_BF) (.int .i64 219902325555)), (((K6.new _ _ (by omega) _).new _ _ (by omega) _).new _ _ (by omega) _)⟩
          · have Hhc5 : Hid (¬ r5.1 > 219902325555) := hc5
            by_cases hc6 : r5.1 < (-219902325555)
            · have Hhc6 : Hid (r5.1 < (-219902325555)) := hc6
              have c7_B2_2 : w5.cell? ⟨w.heap.size + 1 + 1, 2, none⟩ = some (.int .i64 0) := B2_5.c 2 (of_decide_eq_true rfl)
              have g7_B2_2 := B2_5.f 2 (of_decide_eq_true rfl)
              go_wp2_with fail
              clear c7_B2_2 g7_B2_2
              refine rounds_letter (S := fun w' => Kept b w w' ∧ Fl b r5.2 w' ∧ Arr w.heap.size [.bool true, .int .i64 d.1, .int .i64 d.2.1, .int .i64 d.2.2.1, .int .i64 d.2.2.2.1, .int .i64 d.2.2.2.2.1, .int .i64 d.2.2.2.2.2.1, .int .i64 d.2.2.2.2.2.2] w' ∧ Arr (w.heap.size + 1) [.int .i64 0, .int .i64 0, .int .i64 0] w' ∧ Arr (w.heap.size + 1 + 1) [.int .i64 r1.1, .int .i64 r3.1, .int .i64 (-219902325555)] w') ⟨(K5.new _ _ (by omega) _), (f5.new (w.heap.size + 1 + 1) 2 (Nat.ne_of_lt y3_BF) (.int .i64 (-219902325555))), (B0_5.new (w.heap.size + 1 + 1) 2 (Nat.ne_of_lt y3_B0) (.int .i64 (-219902325555))), (B1_5.new (w.heap.size + 1 + 1) 2 (Nat.ne_of_lt y3_B1) (.int .i64 (-219902325555))), (B2_5.put 2 (of_decide_eq_true rfl) (.int .i64 (-219902325555)) [.int .i64 r1.1, .int .i64 r3.1, .int .i64 (-219902325555)] rfl)⟩ ?_
              rintro w6 ⟨K6, BF_6, B0_6, B1_6, B2_6⟩
              have z6 := B2_6.lies
              clear K5 f5 B0_5 B1_5 B2_5
              rw [rounds_succ]
              rcases Bool.eq_false_or_eq_true r5.2 with hc7 | hc7
              · have Hhc7 : Hid (r5.2 = true) := hc7
                have c8_B1_0 : w6.cell? ⟨w.heap.size + 1, 0, none⟩ = some (.int .i64 0) := B1_6.c 0 (of_decide_eq_true rfl)
                have c8_B1_1 : w6.cell? ⟨w.heap.size + 1, 1, none⟩ = some (.int .i64 0) := B1_6.c 1 (of_decide_eq_true rfl)
                have c8_B1_2 : w6.cell? ⟨w.heap.size + 1, 2, none⟩ = some (.int .i64 0) := B1_6.c 2 (of_decide_eq_true rfl)
                have c8_BF := BF_6.cell
                have g8_B1_0 := B1_6.f 0 (of_decide_eq_true rfl)
                have g8_B1_1 := B1_6.f 1 (of_decide_eq_true rfl)
                have g8_B1_2 := B1_6.f 2 (of_decide_eq_true rfl)
                go_wp2_with (with_reducible refine post_stop ?_)
                refine Stop.mk ?_
                clear c8_B1_0 c8_B1_1 c8_B1_2 c8_BF g8_B1_0 g8_B1_1 g8_B1_2
                refine bodyPost_ret (v := .agg #[.int .i64 0, .int .i64 0, .int .i64 0]) (results_arr Try.results11 (((B1_6.put 0 (of_decide_eq_true rfl) (.int .i64 0) [.int .i64 0, .int .i64 0, .int .i64 0] rfl).put 1 (of_decide_eq_true rfl) (.int .i64 0) [.int .i64 0, .int .i64 0, .int .i64 0] rfl).put 2 (of_decide_eq_true rfl) (.int .i64 0) [.int .i64 0, .int .i64 0, .int .i64 0] rfl) rfl (by kernel_rfl) (by kernel_rfl)) rfl ?_
                have hs : rDip1 bad d = ((0, 0, 0), r5.2) := by unfold rDip1; simp only [E1.out, E3.out, E5.out]; rw [if_pos Hhc7.out]
                rw [hs]
                exact ⟨rfl, (((BF_6.new (w.heap.size + 1) 0 (Nat.ne_of_lt y2_BF) (.int .i64 0)).new (w.heap.size + 1) 1 (Nat.ne_of_lt y2_BF) (.int .i64 0)).new (w.heap.size + 1) 2 (Nat.ne_of_lt y2_BF) (.int .i64 0)), (((K6.new _ _ (by omega) _).new _ _ (by omega) _).new _ _ (by omega) _)⟩
              · have Hhc7 : Hid (r5.2 = false) := hc7
                have c8_B1_0 : w6.cell? ⟨w.heap.size + 1, 0, none⟩ = some (.int .i64 0) := B1_6.c 0 (of_decide_eq_true rfl)
                have c8_B1_1 : w6.cell? ⟨w.heap.size + 1, 1, none⟩ = some (.int .i64 0) := B1_6.c 1 (of_decide_eq_true rfl)
                have c8_B1_2 : w6.cell? ⟨w.heap.size + 1, 2, none⟩ = some (.int .i64 0) := B1_6.c 2 (of_decide_eq_true rfl)
                have c8_B2_0 : w6.cell? ⟨w.heap.size + 1 + 1, 0, none⟩ = some (.int .i64 r1.1) := B2_6.c 0 (of_decide_eq_true rfl)
                have c8_B2_1 : w6.cell? ⟨w.heap.size + 1 + 1, 1, none⟩ = some (.int .i64 r3.1) := B2_6.c 1 (of_decide_eq_true rfl)
                have c8_B2_2 : w6.cell? ⟨w.heap.size + 1 + 1, 2, none⟩ = some (.int .i64 (-219902325555)) := B2_6.c 2 (of_decide_eq_true rfl)
                have c8_BF := BF_6.cell
                have g8_B1_0 := B1_6.f 0 (of_decide_eq_true rfl)
                have g8_B1_1 := B1_6.f 1 (of_decide_eq_true rfl)
                have g8_B1_2 := B1_6.f 2 (of_decide_eq_true rfl)
                go_wp2_with (with_reducible refine post_stop ?_)
                refine Stop.mk ?_
                clear c8_B1_0 c8_B1_1 c8_B1_2 c8_B2_0 c8_B2_1 c8_B2_2 c8_BF g8_B1_0 g8_B1_1 g8_B1_2
                refine bodyPost_ret (v := .agg #[.int .i64 r1.1, .int .i64 r3.1, .int .i64 (-219902325555)]) (results_arr Try.results11 (((B1_6.put 0 (of_decide_eq_true rfl) (.int .i64 r1.1) [.int .i64 r1.1, .int .i64 0, .int .i64 0] rfl).put 1 (of_decide_eq_true rfl) (.int .i64 r3.1) [.int .i64 r1.1, .int .i64 r3.1, .int .i64 0] rfl).put 2 (of_decide_eq_true rfl) (.int .i64 (-219902325555)) [.int .i64 r1.1, .int .i64 r3.1, .int .i64 (-219902325555)] rfl) rfl (by kernel_rfl) (by kernel_rfl)) rfl ?_
                have hs : rDip1 bad d = ((r1.1, r3.1, (-219902325555)), r5.2) := by unfold rDip1; simp only [E1.out, E3.out, E5.out]; rw [if_neg (by rw [Hhc7.out]; decide)]; rw [show clampS r1.1 = r1.1 by unfold clampS; omega, show clampS r3.1 = r3.1 by unfold clampS; omega, show clampS r5.1 = (-219902325555) by unfold clampS; omega]
                rw [hs]
                exact ⟨rfl, (((BF_6.new (w.heap.size + 1) 0 (Nat.ne_of_lt y2_BF) (.int .i64 r1.1)).new (w.heap.size + 1) 1 (Nat.ne_of_lt y2_BF) (.int .i64 r3.1)).new (w.heap.size + 1) 2 (Nat.ne_of_lt y2_BF) (.int .i64 (-219902325555))), (((K6.new _ _ (by omega) _).new _ _ (by omega) _).new _ _ (by omega) _)⟩
            · have Hhc6 : Hid (¬ r5.1 < (-219902325555)) := hc6
              have c7_B2_2 : w5.cell? ⟨w.heap.size + 1 + 1, 2, none⟩ = some (.int .i64 0) := B2_5.c 2 (of_decide_eq_true rfl)
              have g7_B2_2 := B2_5.f 2 (of_decide_eq_true rfl)
              go_wp2_with fail
              clear c7_B2_2 g7_B2_2
              refine rounds_letter (S := fun w' => Kept b w w' ∧ Fl b r5.2 w' ∧ Arr w.heap.size [.bool true, .int .i64 d.1, .int .i64 d.2.1, .int .i64 d.2.2.1, .int .i64 d.2.2.2.1, .int .i64 d.2.2.2.2.1, .int .i64 d.2.2.2.2.2.1, .int .i64 d.2.2.2.2.2.2] w' ∧ Arr (w.heap.size + 1) [.int .i64 0, .int .i64 0, .int .i64 0] w' ∧ Arr (w.heap.size + 1 + 1) [.int .i64 r1.1, .int .i64 r3.1, .int .i64 r5.1] w') ⟨(K5.new _ _ (by omega) _), (f5.new (w.heap.size + 1 + 1) 2 (Nat.ne_of_lt y3_BF) (.int .i64 r5.1)), (B0_5.new (w.heap.size + 1 + 1) 2 (Nat.ne_of_lt y3_B0) (.int .i64 r5.1)), (B1_5.new (w.heap.size + 1 + 1) 2 (Nat.ne_of_lt y3_B1) (.int .i64 r5.1)), (B2_5.put 2 (of_decide_eq_true rfl) (.int .i64 r5.1) [.int .i64 r1.1, .int .i64 r3.1, .int .i64 r5.1] rfl)⟩ ?_
              rintro w6 ⟨K6, BF_6, B0_6, B1_6, B2_6⟩
              have z6 := B2_6.lies
              clear K5 f5 B0_5 B1_5 B2_5
              rw [rounds_succ]
              rcases Bool.eq_false_or_eq_true r5.2 with hc7 | hc7
              · have Hhc7 : Hid (r5.2 = true) := hc7
                have c8_B1_0 : w6.cell? ⟨w.heap.size + 1, 0, none⟩ = some (.int .i64 0) := B1_6.c 0 (of_decide_eq_true rfl)
                have c8_B1_1 : w6.cell? ⟨w.heap.size + 1, 1, none⟩ = some (.int .i64 0) := B1_6.c 1 (of_decide_eq_true rfl)
                have c8_B1_2 : w6.cell? ⟨w.heap.size + 1, 2, none⟩ = some (.int .i64 0) := B1_6.c 2 (of_decide_eq_true rfl)
                have c8_BF := BF_6.cell
                have g8_B1_0 := B1_6.f 0 (of_decide_eq_true rfl)
                have g8_B1_1 := B1_6.f 1 (of_decide_eq_true rfl)
                have g8_B1_2 := B1_6.f 2 (of_decide_eq_true rfl)
                go_wp2_with (with_reducible refine post_stop ?_)
                refine Stop.mk ?_
                clear c8_B1_0 c8_B1_1 c8_B1_2 c8_BF g8_B1_0 g8_B1_1 g8_B1_2
                refine bodyPost_ret (v := .agg #[.int .i64 0, .int .i64 0, .int .i64 0]) (results_arr Try.results11 (((B1_6.put 0 (of_decide_eq_true rfl) (.int .i64 0) [.int .i64 0, .int .i64 0, .int .i64 0] rfl).put 1 (of_decide_eq_true rfl) (.int .i64 0) [.int .i64 0, .int .i64 0, .int .i64 0] rfl).put 2 (of_decide_eq_true rfl) (.int .i64 0) [.int .i64 0, .int .i64 0, .int .i64 0] rfl) rfl (by kernel_rfl) (by kernel_rfl)) rfl ?_
                have hs : rDip1 bad d = ((0, 0, 0), r5.2) := by unfold rDip1; simp only [E1.out, E3.out, E5.out]; rw [if_pos Hhc7.out]
                rw [hs]
                exact ⟨rfl, (((BF_6.new (w.heap.size + 1) 0 (Nat.ne_of_lt y2_BF) (.int .i64 0)).new (w.heap.size + 1) 1 (Nat.ne_of_lt y2_BF) (.int .i64 0)).new (w.heap.size + 1) 2 (Nat.ne_of_lt y2_BF) (.int .i64 0)), (((K6.new _ _ (by omega) _).new _ _ (by omega) _).new _ _ (by omega) _)⟩
              · have Hhc7 : Hid (r5.2 = false) := hc7
                have c8_B1_0 : w6.cell? ⟨w.heap.size + 1, 0, none⟩ = some (.int .i64 0) := B1_6.c 0 (of_decide_eq_true rfl)
                have c8_B1_1 : w6.cell? ⟨w.heap.size + 1, 1, none⟩ = some (.int .i64 0) := B1_6.c 1 (of_decide_eq_true rfl)
                have c8_B1_2 : w6.cell? ⟨w.heap.size + 1, 2, none⟩ = some (.int .i64 0) := B1_6.c 2 (of_decide_eq_true rfl)
                have c8_B2_0 : w6.cell? ⟨w.heap.size + 1 + 1, 0, none⟩ = some (.int .i64 r1.1) := B2_6.c 0 (of_decide_eq_true rfl)
                have c8_B2_1 : w6.cell? ⟨w.heap.size + 1 + 1, 1, none⟩ = some (.int .i64 r3.1) := B2_6.c 1 (of_decide_eq_true rfl)
                have c8_B2_2 : w6.cell? ⟨w.heap.size + 1 + 1, 2, none⟩ = some (.int .i64 r5.1) := B2_6.c 2 (of_decide_eq_true rfl)
                have c8_BF := BF_6.cell
                have g8_B1_0 := B1_6.f 0 (of_decide_eq_true rfl)
                have g8_B1_1 := B1_6.f 1 (of_decide_eq_true rfl)
                have g8_B1_2 := B1_6.f 2 (of_decide_eq_true rfl)
                go_wp2_with (with_reducible refine post_stop ?_)
                refine Stop.mk ?_
                clear c8_B1_0 c8_B1_1 c8_B1_2 c8_B2_0 c8_B2_1 c8_B2_2 c8_BF g8_B1_0 g8_B1_1 g8_B1_2
                refine bodyPost_ret (v := .agg #[.int .i64 r1.1, .int .i64 r3.1, .int .i64 r5.1]) (results_arr Try.results11 (((B1_6.put 0 (of_decide_eq_true rfl) (.int .i64 r1.1) [.int .i64 r1.1, .int .i64 0, .int .i64 0] rfl).put 1 (of_decide_eq_true rfl) (.int .i64 r3.1) [.int .i64 r1.1, .int .i64 r3.1, .int .i64 0] rfl).put 2 (of_decide_eq_true rfl) (.int .i64 r5.1) [.int .i64 r1.1, .int .i64 r3.1, .int .i64 r5.1] rfl) rfl (by kernel_rfl) (by kernel_rfl)) rfl ?_
                have hs : rDip1 bad d = ((r1.1, r3.1, r5.1), r5.2) := by unfold rDip1; simp only [E1.out, E3.out, E5.out]; rw [if_neg (by rw [Hhc7.out]; decide)]; rw [show clampS r1.1 = r1.1 by unfold clampS; omega, show clampS r3.1 = r3.1 by unfold clampS; omega, show clampS r5.1 = r5.1 by unfold clampS; omega]
                rw [hs]
                exact ⟨rfl, (((BF_6.new (w.heap.size + 1) 0 (Nat.ne_of_lt y2_BF) (.int .i64 r1.1)).new (w.heap.size + 1) 1 (Nat.ne_of_lt y2_BF) (.int .i64 r3.1)).new (w.heap.size + 1) 2 (Nat.ne_of_lt y2_BF) (.int .i64 r5.1)), (((K6.new _ _ (by omega) _).new _ _ (by omega) _).new _ _ (by omega) _)⟩
set_option maxRecDepth 100000 in
set_option maxHeartbeats 2000000 in
theorem rDip_off (b : Nat) (bad : Bool) (d : D7) (w : World) (hw : Fl b bad w) :
    Calls Try.prog 11 #[.pointer (some ⟨b, 0, none⟩), .agg #[.bool false, .int .i64 d.1, .int .i64 d.2.1, .int .i64 d.2.2.1, .int .i64 d.2.2.2.1, .int .i64 d.2.2.2.2.1, .int .i64 d.2.2.2.2.2.1, .int .i64 d.2.2.2.2.2.2]] w fun e w' => e = .returned (.agg #[.int .i64 ((bDip0 bad d).1.1), .int .i64 ((bDip0 bad d).1.2.1), .int .i64 ((bDip0 bad d).1.2.2)]) ∧ Fl b (bDip0 bad d).2 w' ∧ Kept b w w' := by
  have hl := hw.lies
  go_enter Try.func11, Try.ntmps11
  have y1_BF : b < w.heap.size := hw.lies
  have y2_BF : b < w.heap.size + 1 := (Nat.lt_succ_of_lt hw.lies)
  have y2_B0 : w.heap.size < w.heap.size + 1 := (Nat.lt_succ_self _)
  have y3_BF : b < w.heap.size + 1 + 1 := (Nat.lt_succ_of_lt (Nat.lt_succ_of_lt hw.lies))
  have y3_B0 : w.heap.size < w.heap.size + 1 + 1 := (Nat.lt_succ_of_lt (Nat.lt_succ_self _))
  have y3_B1 : w.heap.size + 1 < w.heap.size + 1 + 1 := (Nat.lt_succ_self _)
  go_wp2_with (with_reducible refine post_stop ?_)
  refine Stop.mk ?_
  refine bodyPost_ret (v := .agg #[.int .i64 0, .int .i64 0, .int .i64 0]) (results_arr Try.results11 ((Arr_at _ _ [.int .i64 0, .int .i64 0, .int .i64 0] _ (by simp)).alloc _) rfl (by kernel_rfl) (by kernel_rfl)) rfl ?_
  have hs : bDip0 bad d = ((0, 0, 0), bad) := rfl
  rw [hs]
  exact ⟨rfl, (((hw.alloc _).alloc _).alloc _), ((((Kept.refl b w).al _).al _).al _)⟩
end Go.Proofs.Ytibjmmlnkgapeaa
