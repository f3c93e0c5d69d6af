/-
  The walk of bdot.Step, for the seat Ytibjmmlnkgapeaa. (Made by mkbdot.py.)
-/
import Derived.Test.YtibjmmlnkgapeaaBdLeaf
import Derived.Test.YtibjmmlnkgapeaaStop
import Derived.Handy
import Derived.Deep.RegionHeld3
namespace Go.Proofs.Ytibjmmlnkgapeaa
open Go.RowKit

set_option maxRecDepth 100000 in
set_option maxHeartbeats 2000000 in
theorem bStep_any (b : Nat) (bad : Bool) (d : Dr) (v : V3) (k : Int) (w : World) (hw : Fl b bad w) (hd : -9223372036854775808 ≤ d.2.1 ∧ d.2.1 ≤ 9223372036854775807) (ht : -9223372036854775808 ≤ k ∧ k ≤ 9223372036854775807) :
    Calls Try.prog 8 #[.pointer (some ⟨b, 0, none⟩), .agg #[.bool d.1, .int .i64 d.2.1, .int .i64 d.2.2.1, .int .i64 d.2.2.2.1, .int .i64 d.2.2.2.2.1, .int .i64 d.2.2.2.2.2.1, .int .i64 d.2.2.2.2.2.2.1, .int .i64 d.2.2.2.2.2.2.2], .agg #[.int .i64 v.1, .int .i64 v.2.1, .int .i64 v.2.2], .int .i64 k] w fun e w' => e = .returned (.agg #[.bool ((bStepS bad d v k).1.1), .int .i64 ((bStepS bad d v k).1.2.1), .int .i64 ((bStepS bad d v k).1.2.2.1), .int .i64 ((bStepS bad d v k).1.2.2.2.1), .int .i64 ((bStepS bad d v k).1.2.2.2.2.1), .int .i64 ((bStepS bad d v k).1.2.2.2.2.2.1), .int .i64 ((bStepS bad d v k).1.2.2.2.2.2.2.1), .int .i64 ((bStepS bad d v k).1.2.2.2.2.2.2.2)]) ∧ Fl b (bStepS bad d v k).2 w' ∧ Kept b w w' := by
  have hl := hw.lies
  go_enter Try.func8, Try.ntmps8
  have y1_BF : b < w.heap.size := hw.lies
  have y2_BF : b < w.heap.size + 1 := (Nat.lt_succ_of_lt hw.lies)
  have y2_B0 : w.heap.size < w.heap.size + 1 := (Nat.lt_succ_self _)
  have y3_BF : b < w.heap.size + 1 + 1 := (Nat.lt_succ_of_lt (Nat.lt_succ_of_lt hw.lies))
  have y3_B0 : w.heap.size < w.heap.size + 1 + 1 := (Nat.lt_succ_of_lt (Nat.lt_succ_self _))
  have y3_B1 : w.heap.size + 1 < w.heap.size + 1 + 1 := (Nat.lt_succ_self _)
  have y4_BF : b < w.heap.size + 1 + 1 + 1 := (Nat.lt_succ_of_lt (Nat.lt_succ_of_lt (Nat.lt_succ_of_lt hw.lies)))
  have y4_B0 : w.heap.size < w.heap.size + 1 + 1 + 1 := (Nat.lt_succ_of_lt (Nat.lt_succ_of_lt (Nat.lt_succ_self _)))
  have y4_B1 : w.heap.size + 1 < w.heap.size + 1 + 1 + 1 := (Nat.lt_succ_of_lt (Nat.lt_succ_self _))
  have y4_B2 : w.heap.size + 1 + 1 < w.heap.size + 1 + 1 + 1 := (Nat.lt_succ_self _)
  go_wp2_with fail
  refine (goes_any d k _ hd ht).mono ?_
  rintro e w1 ⟨rfl, k1⟩
  generalize e1 : goesS d k = r1
  have E1 : Hid _ := e1
  clear e1
  have K1 : Kept b w w1 := Kept.trans (((((Kept.refl b w).al _).al _).al _).al _) (Kept.of_below k1)
  have BF_1 : Fl b bad w1 := ((((hw.alloc _).alloc _).alloc _).alloc _).below k1
  have B0_1 : Arr w.heap.size [.bool d.1, .int .i64 d.2.1, .int .i64 d.2.2.1, .int .i64 d.2.2.2.1, .int .i64 d.2.2.2.2.1, .int .i64 d.2.2.2.2.2.1, .int .i64 d.2.2.2.2.2.2.1, .int .i64 d.2.2.2.2.2.2.2] w1 := ((((Arr_at _ _ [.bool d.1, .int .i64 d.2.1, .int .i64 d.2.2.1, .int .i64 d.2.2.2.1, .int .i64 d.2.2.2.2.1, .int .i64 d.2.2.2.2.2.1, .int .i64 d.2.2.2.2.2.2.1, .int .i64 d.2.2.2.2.2.2.2] _ (by simp)).alloc _).alloc _).alloc _).below k1
  have B1_1 : Arr (w.heap.size + 1) [.int .i64 v.1, .int .i64 v.2.1, .int .i64 v.2.2] w1 := (((Arr_at _ _ [.int .i64 v.1, .int .i64 v.2.1, .int .i64 v.2.2] _ (by simp)).alloc _).alloc _).below k1
  have B2_1 : Arr (w.heap.size + 1 + 1) [.bool false, .int .i64 0, .int .i64 0, .int .i64 0, .int .i64 0, .int .i64 0, .int .i64 0, .int .i64 0] w1 := ((Arr_at _ _ [.bool false, .int .i64 0, .int .i64 0, .int .i64 0, .int .i64 0, .int .i64 0, .int .i64 0, .int .i64 0] _ (by simp)).alloc _).below k1
  have B3_1 : Arr (w.heap.size + 1 + 1 + 1) [.int .i64 0, .int .i64 0, .int .i64 0] w1 := (Arr_at _ _ [.int .i64 0, .int .i64 0, .int .i64 0] _ (by simp)).below k1
  have z1 := B3_1.lies
  clear k1
  rcases Bool.eq_false_or_eq_true r1 with hc1 | hc1
  · have Hhc1 : Hid (r1 = true) := hc1
    have hg := goes_in (E1.out.trans hc1)
    obtain ⟨hg1, hg2⟩ := hg
    have c2_B0_0 : w1.cell? ⟨w.heap.size, 0, none⟩ = some (.bool d.1) := B0_1.c 0 (of_decide_eq_true rfl)
    have c2_B0_1 : w1.cell? ⟨w.heap.size, 1, none⟩ = some (.int .i64 d.2.1) := B0_1.c 1 (of_decide_eq_true rfl)
    have c2_B0_2 : w1.cell? ⟨w.heap.size, 2, none⟩ = some (.int .i64 d.2.2.1) := B0_1.c 2 (of_decide_eq_true rfl)
    have c2_B0_3 : w1.cell? ⟨w.heap.size, 3, none⟩ = some (.int .i64 d.2.2.2.1) := B0_1.c 3 (of_decide_eq_true rfl)
    have c2_B0_4 : w1.cell? ⟨w.heap.size, 4, none⟩ = some (.int .i64 d.2.2.2.2.1) := B0_1.c 4 (of_decide_eq_true rfl)
    have c2_B0_5 : w1.cell? ⟨w.heap.size, 5, none⟩ = some (.int .i64 d.2.2.2.2.2.1) := B0_1.c 5 (of_decide_eq_true rfl)
    have c2_B0_6 : w1.cell? ⟨w.heap.size, 6, none⟩ = some (.int .i64 d.2.2.2.2.2.2.1) := B0_1.c 6 (of_decide_eq_true rfl)
    have c2_B0_7 : w1.cell? ⟨w.heap.size, 7, none⟩ = some (.int .i64 d.2.2.2.2.2.2.2) := B0_1.c 7 (of_decide_eq_true rfl)
    have c2_B1_0 : w1.cell? ⟨w.heap.size + 1, 0, none⟩ = some (.int .i64 v.1) := B1_1.c 0 (of_decide_eq_true rfl)
    have c2_B1_1 : w1.cell? ⟨w.heap.size + 1, 1, none⟩ = some (.int .i64 v.2.1) := B1_1.c 1 (of_decide_eq_true rfl)
    have c2_B1_2 : w1.cell? ⟨w.heap.size + 1, 2, none⟩ = some (.int .i64 v.2.2) := B1_1.c 2 (of_decide_eq_true rfl)
    go_wp2_with fail
    refine (lean_any b bad d v (k - d.2.1) _ BF_1 (by omega) (by omega)).mono ?_
    rintro e w2 ⟨rfl, f2, k2⟩
    generalize e2 : leanS bad d v (k - d.2.1) = r2 at f2 ⊢
    have E2 : Hid _ := e2
    clear e2
    have K2 : Kept b w w2 := Kept.trans K1 k2
    have B0_2 : Arr w.heap.size [.bool d.1, .int .i64 d.2.1, .int .i64 d.2.2.1, .int .i64 d.2.2.2.1, .int .i64 d.2.2.2.2.1, .int .i64 d.2.2.2.2.2.1, .int .i64 d.2.2.2.2.2.2.1, .int .i64 d.2.2.2.2.2.2.2] w2 := B0_1.kept k2 (Nat.ne_of_gt y1_BF)
    have B1_2 : Arr (w.heap.size + 1) [.int .i64 v.1, .int .i64 v.2.1, .int .i64 v.2.2] w2 := B1_1.kept k2 (Nat.ne_of_gt y2_BF)
    have B2_2 : Arr (w.heap.size + 1 + 1) [.bool false, .int .i64 0, .int .i64 0, .int .i64 0, .int .i64 0, .int .i64 0, .int .i64 0, .int .i64 0] w2 := B2_1.kept k2 (Nat.ne_of_gt y3_BF)
    have B3_2 : Arr (w.heap.size + 1 + 1 + 1) [.int .i64 0, .int .i64 0, .int .i64 0] w2 := B3_1.kept k2 (Nat.ne_of_gt y4_BF)
    have z2 := B3_2.lies
    clear c2_B0_0 c2_B0_1 c2_B0_2 c2_B0_3 c2_B0_4 c2_B0_5 c2_B0_6 c2_B0_7 c2_B1_0 c2_B1_1 c2_B1_2 K1 BF_1 B0_1 B1_1 B2_1 B3_1 k2
    have c3_B1_0 : w2.cell? ⟨w.heap.size + 1, 0, none⟩ = some (.int .i64 v.1) := B1_2.c 0 (of_decide_eq_true rfl)
    have c3_B1_1 : w2.cell? ⟨w.heap.size + 1, 1, none⟩ = some (.int .i64 v.2.1) := B1_2.c 1 (of_decide_eq_true rfl)
    have c3_B1_2 : w2.cell? ⟨w.heap.size + 1, 2, none⟩ = some (.int .i64 v.2.2) := B1_2.c 2 (of_decide_eq_true rfl)
    have c3_B3_0 : w2.cell? ⟨w.heap.size + 1 + 1 + 1, 0, none⟩ = some (.int .i64 0) := B3_2.c 0 (of_decide_eq_true rfl)
    have c3_B3_1 : w2.cell? ⟨w.heap.size + 1 + 1 + 1, 1, none⟩ = some (.int .i64 0) := B3_2.c 1 (of_decide_eq_true rfl)
    have c3_B3_2 : w2.cell? ⟨w.heap.size + 1 + 1 + 1, 2, none⟩ = some (.int .i64 0) := B3_2.c 2 (of_decide_eq_true rfl)
    have g3_B3_0 := B3_2.f 0 (of_decide_eq_true rfl)
    have g3_B3_1 := B3_2.f 1 (of_decide_eq_true rfl)
    have g3_B3_2 := B3_2.f 2 (of_decide_eq_true rfl)
    go_wp2_with fail
    refine (vAdd_any b r2.2 v (0, 0, 0) _ (((f2.new (w.heap.size + 1 + 1 + 1) 0 (Nat.ne_of_lt y4_BF) (.int .i64 r2.1.1)).new (w.heap.size + 1 + 1 + 1) 1 (Nat.ne_of_lt y4_BF) (.int .i64 r2.1.2.1)).new (w.heap.size + 1 + 1 + 1) 2 (Nat.ne_of_lt y4_BF) (.int .i64 r2.1.2.2))).mono ?_
    rintro e w3 ⟨rfl, f3, k3⟩
    generalize e3 : vAddS r2.2 v (0, 0, 0) = r3 at f3 ⊢
    have E3 : Hid _ := e3
    clear e3
    have K3 : Kept b w w3 := Kept.trans (((K2.new _ _ (by omega) _).new _ _ (by omega) _).new _ _ (by omega) _) k3
    have B0_3 : Arr w.heap.size [.bool d.1, .int .i64 d.2.1, .int .i64 d.2.2.1, .int .i64 d.2.2.2.1, .int .i64 d.2.2.2.2.1, .int .i64 d.2.2.2.2.2.1, .int .i64 d.2.2.2.2.2.2.1, .int .i64 d.2.2.2.2.2.2.2] w3 := (((B0_2.new (w.heap.size + 1 + 1 + 1) 0 (Nat.ne_of_lt y4_B0) (.int .i64 r2.1.1)).new (w.heap.size + 1 + 1 + 1) 1 (Nat.ne_of_lt y4_B0) (.int .i64 r2.1.2.1)).new (w.heap.size + 1 + 1 + 1) 2 (Nat.ne_of_lt y4_B0) (.int .i64 r2.1.2.2)).kept k3 (Nat.ne_of_gt y1_BF)
    have B1_3 : Arr (w.heap.size + 1) [.int .i64 v.1, .int .i64 v.2.1, .int .i64 v.2.2] w3 := (((B1_2.new (w.heap.size + 1 + 1 + 1) 0 (Nat.ne_of_lt y4_B1) (.int .i64 r2.1.1)).new (w.heap.size + 1 + 1 + 1) 1 (Nat.ne_of_lt y4_B1) (.int .i64 r2.1.2.1)).new (w.heap.size + 1 + 1 + 1) 2 (Nat.ne_of_lt y4_B1) (.int .i64 r2.1.2.2)).kept k3 (Nat.ne_of_gt y2_BF)
    have B2_3 : Arr (w.heap.size + 1 + 1) [.bool false, .int .i64 0, .int .i64 0, .int .i64 0, .int .i64 0, .int .i64 0, .int .i64 0, .int .i64 0] w3 := (((B2_2.new (w.heap.size + 1 + 1 + 1) 0 (Nat.ne_of_lt y4_B2) (.int .i64 r2.1.1)).new (w.heap.size + 1 + 1 + 1) 1 (Nat.ne_of_lt y4_B2) (.int .i64 r2.1.2.1)).new (w.heap.size + 1 + 1 + 1) 2 (Nat.ne_of_lt y4_B2) (.int .i64 r2.1.2.2)).kept k3 (Nat.ne_of_gt y3_BF)
    have B3_3 : Arr (w.heap.size + 1 + 1 + 1) [.int .i64 r2.1.1, .int .i64 r2.1.2.1, .int .i64 r2.1.2.2] w3 := (((B3_2.put 0 (of_decide_eq_true rfl) (.int .i64 r2.1.1) [.int .i64 r2.1.1, .int .i64 0, .int .i64 0] rfl).put 1 (of_decide_eq_true rfl) (.int .i64 r2.1.2.1) [.int .i64 r2.1.1, .int .i64 r2.1.2.1, .int .i64 0] rfl).put 2 (of_decide_eq_true rfl) (.int .i64 r2.1.2.2) [.int .i64 r2.1.1, .int .i64 r2.1.2.1, .int .i64 r2.1.2.2] rfl).kept k3 (Nat.ne_of_gt y4_BF)
    have z3 := B3_3.lies
    clear c3_B1_0 c3_B1_1 c3_B1_2 c3_B3_0 c3_B3_1 c3_B3_2 g3_B3_0 g3_B3_1 g3_B3_2 K2 f2 B0_2 B1_2 B2_2 B3_2 k3
    rcases Bool.eq_false_or_eq_true r3.2 with hc2 | hc2
    · have Hhc2 : Hid (r3.2 = true) := hc2
      have c4_B1_0 : w3.cell? ⟨w.heap.size + 1, 0, none⟩ = some (.int .i64 v.1) := B1_3.c 0 (of_decide_eq_true rfl)
      have c4_B1_1 : w3.cell? ⟨w.heap.size + 1, 1, none⟩ = some (.int .i64 v.2.1) := B1_3.c 1 (of_decide_eq_true rfl)
      have c4_B1_2 : w3.cell? ⟨w.heap.size + 1, 2, none⟩ = some (.int .i64 v.2.2) := B1_3.c 2 (of_decide_eq_true rfl)
      have c4_B2_0 : w3.cell? ⟨w.heap.size + 1 + 1, 0, none⟩ = some (.bool false) := B2_3.c 0 (of_decide_eq_true rfl)
      have c4_B2_1 : w3.cell? ⟨w.heap.size + 1 + 1, 1, none⟩ = some (.int .i64 0) := B2_3.c 1 (of_decide_eq_true rfl)
      have c4_B2_2 : w3.cell? ⟨w.heap.size + 1 + 1, 2, none⟩ = some (.int .i64 0) := B2_3.c 2 (of_decide_eq_true rfl)
      have c4_B2_3 : w3.cell? ⟨w.heap.size + 1 + 1, 3, none⟩ = some (.int .i64 0) := B2_3.c 3 (of_decide_eq_true rfl)
      have c4_B2_4 : w3.cell? ⟨w.heap.size + 1 + 1, 4, none⟩ = some (.int .i64 0) := B2_3.c 4 (of_decide_eq_true rfl)
      have c4_B2_5 : w3.cell? ⟨w.heap.size + 1 + 1, 5, none⟩ = some (.int .i64 0) := B2_3.c 5 (of_decide_eq_true rfl)
      have c4_B2_6 : w3.cell? ⟨w.heap.size + 1 + 1, 6, none⟩ = some (.int .i64 0) := B2_3.c 6 (of_decide_eq_true rfl)
      have c4_B2_7 : w3.cell? ⟨w.heap.size + 1 + 1, 7, none⟩ = some (.int .i64 0) := B2_3.c 7 (of_decide_eq_true rfl)
      have c4_BF := f3.cell
      have g4_B1_0 := B1_3.f 0 (of_decide_eq_true rfl)
      have g4_B1_1 := B1_3.f 1 (of_decide_eq_true rfl)
      have g4_B1_2 := B1_3.f 2 (of_decide_eq_true rfl)
      have g4_B2_0 := B2_3.f 0 (of_decide_eq_true rfl)
      have g4_B2_1 := B2_3.f 1 (of_decide_eq_true rfl)
      have g4_B2_2 := B2_3.f 2 (of_decide_eq_true rfl)
      have g4_B2_3 := B2_3.f 3 (of_decide_eq_true rfl)
      have g4_B2_4 := B2_3.f 4 (of_decide_eq_true rfl)
      have g4_B2_5 := B2_3.f 5 (of_decide_eq_true rfl)
      have g4_B2_6 := B2_3.f 6 (of_decide_eq_true rfl)
      have g4_B2_7 := B2_3.f 7 (of_decide_eq_true rfl)
      go_wp2_with (with_reducible refine post_stop ?_)
      refine Stop.mk ?_
      clear c4_B1_0 c4_B1_1 c4_B1_2 c4_B2_0 c4_B2_1 c4_B2_2 c4_B2_3 c4_B2_4 c4_B2_5 c4_B2_6 c4_B2_7 c4_BF g4_B1_0 g4_B1_1 g4_B1_2 g4_B2_0 g4_B2_1 g4_B2_2 g4_B2_3 g4_B2_4 g4_B2_5 g4_B2_6 g4_B2_7
      refine bodyPost_ret (v := .agg #[.bool false, .int .i64 0, .int .i64 0, .int .i64 0, .int .i64 0, .int .i64 0, .int .i64 0, .int .i64 0]) (results_arr Try.results8 (((((((((((B2_3.new (w.heap.size + 1) 0 (Nat.ne_of_gt y3_B1) (.int .i64 r3.1.1)).new (w.heap.size + 1) 1 (Nat.ne_of_gt y3_B1) (.int .i64 r3.1.2.1)).new (w.heap.size + 1) 2 (Nat.ne_of_gt y3_B1) (.int .i64 r3.1.2.2)).put 0 (of_decide_eq_true rfl) (.bool false) [.bool false, .int .i64 0, .int .i64 0, .int .i64 0, .int .i64 0, .int .i64 0, .int .i64 0, .int .i64 0] rfl).put 1 (of_decide_eq_true rfl) (.int .i64 0) [.bool false, .int .i64 0, .int .i64 0, .int .i64 0, .int .i64 0, .int .i64 0, .int .i64 0, .int .i64 0] rfl).put 2 (of_decide_eq_true rfl) (.int .i64 0) [.bool false, .int .i64 0, .int .i64 0, .int .i64 0, .int .i64 0, .int .i64 0, .int .i64 0, .int .i64 0] rfl).put 3 (of_decide_eq_true rfl) (.int .i64 0) [.bool false, .int .i64 0, .int .i64 0, .int .i64 0, .int .i64 0, .int .i64 0, .int .i64 0, .int .i64 0] rfl).put 4 (of_decide_eq_true rfl) (.int .i64 0) [.bool false, .int .i64 0, .int .i64 0, .int .i64 0, .int .i64 0, .int .i64 0, .int .i64 0, .int .i64 0] rfl).put 5 (of_decide_eq_true rfl) (.int .i64 0) [.bool false, .int .i64 0, .int .i64 0, .int .i64 0, .int .i64 0, .int .i64 0, .int .i64 0, .int .i64 0] rfl).put 6 (of_decide_eq_true rfl) (.int .i64 0) [.bool false, .int .i64 0, .int .i64 0, .int .i64 0, .int .i64 0, .int .i64 0, .int .i64 0, .int .i64 0] rfl).put 7 (of_decide_eq_true rfl) (.int .i64 0) [.bool false, .int .i64 0, .int .i64 0, .int .i64 0, .int .i64 0, .int .i64 0, .int .i64 0, .int .i64 0] rfl) rfl (by kernel_rfl) (by kernel_rfl)) rfl ?_
      have hs : bStepS bad d v k = ((false, 0, 0, 0, 0, 0, 0, 0), r3.2) := by unfold bStepS; simp only [E1.out, E2.out, E3.out]; rw [if_pos Hhc1.out]; rw [if_pos Hhc2.out]
      rw [hs]
      exact ⟨rfl, (((((((((((f3.new (w.heap.size + 1) 0 (Nat.ne_of_lt y2_BF) (.int .i64 r3.1.1)).new (w.heap.size + 1) 1 (Nat.ne_of_lt y2_BF) (.int .i64 r3.1.2.1)).new (w.heap.size + 1) 2 (Nat.ne_of_lt y2_BF) (.int .i64 r3.1.2.2)).new (w.heap.size + 1 + 1) 0 (Nat.ne_of_lt y3_BF) (.bool false)).new (w.heap.size + 1 + 1) 1 (Nat.ne_of_lt y3_BF) (.int .i64 0)).new (w.heap.size + 1 + 1) 2 (Nat.ne_of_lt y3_BF) (.int .i64 0)).new (w.heap.size + 1 + 1) 3 (Nat.ne_of_lt y3_BF) (.int .i64 0)).new (w.heap.size + 1 + 1) 4 (Nat.ne_of_lt y3_BF) (.int .i64 0)).new (w.heap.size + 1 + 1) 5 (Nat.ne_of_lt y3_BF) (.int .i64 0)).new (w.heap.size + 1 + 1) 6 (Nat.ne_of_lt y3_BF) (.int .i64 0)).new (w.heap.size + 1 + 1) 7 (Nat.ne_of_lt y3_BF) (.int .i64 0)), (((((((((((K3.new _ _ (by omega) _).new _ _ (by omega) _).new _ _ (by omega) _).new _ _ (by omega) _).new _ _ (by omega) _).new _ _ (by omega) _).new _ _ (by omega) _).new _ _ (by omega) _).new _ _ (by omega) _).new _ _ (by omega) _).new _ _ (by omega) _)⟩
    · have Hhc2 : Hid (r3.2 = false) := hc2
      have c4_B1_0 : w3.cell? ⟨w.heap.size + 1, 0, none⟩ = some (.int .i64 v.1) := B1_3.c 0 (of_decide_eq_true rfl)
      have c4_B1_1 : w3.cell? ⟨w.heap.size + 1, 1, none⟩ = some (.int .i64 v.2.1) := B1_3.c 1 (of_decide_eq_true rfl)
      have c4_B1_2 : w3.cell? ⟨w.heap.size + 1, 2, none⟩ = some (.int .i64 v.2.2) := B1_3.c 2 (of_decide_eq_true rfl)
      have c4_B2_0 : w3.cell? ⟨w.heap.size + 1 + 1, 0, none⟩ = some (.bool false) := B2_3.c 0 (of_decide_eq_true rfl)
      have c4_B2_1 : w3.cell? ⟨w.heap.size + 1 + 1, 1, none⟩ = some (.int .i64 0) := B2_3.c 1 (of_decide_eq_true rfl)
      have c4_B2_2 : w3.cell? ⟨w.heap.size + 1 + 1, 2, none⟩ = some (.int .i64 0) := B2_3.c 2 (of_decide_eq_true rfl)
      have c4_B2_3 : w3.cell? ⟨w.heap.size + 1 + 1, 3, none⟩ = some (.int .i64 0) := B2_3.c 3 (of_decide_eq_true rfl)
      have c4_B2_4 : w3.cell? ⟨w.heap.size + 1 + 1, 4, none⟩ = some (.int .i64 0) := B2_3.c 4 (of_decide_eq_true rfl)
      have c4_B2_5 : w3.cell? ⟨w.heap.size + 1 + 1, 5, none⟩ = some (.int .i64 0) := B2_3.c 5 (of_decide_eq_true rfl)
      have c4_B2_6 : w3.cell? ⟨w.heap.size + 1 + 1, 6, none⟩ = some (.int .i64 0) := B2_3.c 6 (of_decide_eq_true rfl)
      have c4_B2_7 : w3.cell? ⟨w.heap.size + 1 + 1, 7, none⟩ = some (.int .i64 0) := B2_3.c 7 (of_decide_eq_true rfl)
      have c4_B3_0 : w3.cell? ⟨w.heap.size + 1 + 1 + 1, 0, none⟩ = some (.int .i64 r2.1.1) := B3_3.c 0 (of_decide_eq_true rfl)
      have c4_B3_1 : w3.cell? ⟨w.heap.size + 1 + 1 + 1, 1, none⟩ = some (.int .i64 r2.1.2.1) := B3_3.c 1 (of_decide_eq_true rfl)
      have c4_B3_2 : w3.cell? ⟨w.heap.size + 1 + 1 + 1, 2, none⟩ = some (.int .i64 r2.1.2.2) := B3_3.c 2 (of_decide_eq_true rfl)
      have c4_BF := f3.cell
      have g4_B1_0 := B1_3.f 0 (of_decide_eq_true rfl)
      have g4_B1_1 := B1_3.f 1 (of_decide_eq_true rfl)
      have g4_B1_2 := B1_3.f 2 (of_decide_eq_true rfl)
      have g4_B2_0 := B2_3.f 0 (of_decide_eq_true rfl)
      have g4_B2_1 := B2_3.f 1 (of_decide_eq_true rfl)
      have g4_B2_2 := B2_3.f 2 (of_decide_eq_true rfl)
      have g4_B2_3 := B2_3.f 3 (of_decide_eq_true rfl)
      have g4_B2_4 := B2_3.f 4 (of_decide_eq_true rfl)
      have g4_B2_5 := B2_3.f 5 (of_decide_eq_true rfl)
      have g4_B2_6 := B2_3.f 6 (of_decide_eq_true rfl)
      have g4_B2_7 := B2_3.f 7 (of_decide_eq_true rfl)
      go_wp2_with (with_reducible refine post_stop ?_)
      refine Stop.mk ?_
      clear c4_B1_0 c4_B1_1 c4_B1_2 c4_B2_0 c4_B2_1 c4_B2_2 c4_B2_3 c4_B2_4 c4_B2_5 c4_B2_6 c4_B2_7 c4_B3_0 c4_B3_1 c4_B3_2 c4_BF g4_B1_0 g4_B1_1 g4_B1_2 g4_B2_0 g4_B2_1 g4_B2_2 g4_B2_3 g4_B2_4 g4_B2_5 g4_B2_6 g4_B2_7
      refine bodyPost_ret (v := .agg #[.bool true, .int .i64 k, .int .i64 r3.1.1, .int .i64 r3.1.2.1, .int .i64 r3.1.2.2, .int .i64 r2.1.1, .int .i64 r2.1.2.1, .int .i64 r2.1.2.2]) (results_arr Try.results8 (((((((((((B2_3.new (w.heap.size + 1) 0 (Nat.ne_of_gt y3_B1) (.int .i64 r3.1.1)).new (w.heap.size + 1) 1 (Nat.ne_of_gt y3_B1) (.int .i64 r3.1.2.1)).new (w.heap.size + 1) 2 (Nat.ne_of_gt y3_B1) (.int .i64 r3.1.2.2)).put 0 (of_decide_eq_true rfl) (.bool true) [.bool true, .int .i64 0, .int .i64 0, .int .i64 0, .int .i64 0, .int .i64 0, .int .i64 0, .int .i64 0] rfl).put 1 (of_decide_eq_true rfl) (.int .i64 k) [.bool true, .int .i64 k, .int .i64 0, .int .i64 0, .int .i64 0, .int .i64 0, .int .i64 0, .int .i64 0] rfl).put 2 (of_decide_eq_true rfl) (.int .i64 r3.1.1) [.bool true, .int .i64 k, .int .i64 r3.1.1, .int .i64 0, .int .i64 0, .int .i64 0, .int .i64 0, .int .i64 0] rfl).put 3 (of_decide_eq_true rfl) (.int .i64 r3.1.2.1) [.bool true, .int .i64 k, .int .i64 r3.1.1, .int .i64 r3.1.2.1, .int .i64 0, .int .i64 0, .int .i64 0, .int .i64 0] rfl).put 4 (of_decide_eq_true rfl) (.int .i64 r3.1.2.2) [.bool true, .int .i64 k, .int .i64 r3.1.1, .int .i64 r3.1.2.1, .int .i64 r3.1.2.2, .int .i64 0, .int .i64 0, .int .i64 0] rfl).put 5 (of_decide_eq_true rfl) (.int .i64 r2.1.1) [.bool true, .int .i64 k, .int .i64 r3.1.1, .int .i64 r3.1.2.1, .int .i64 r3.1.2.2, .int .i64 r2.1.1, .int .i64 0, .int .i64 0] rfl).put 6 (of_decide_eq_true rfl) (.int .i64 r2.1.2.1) [.bool true, .int .i64 k, .int .i64 r3.1.1, .int .i64 r3.1.2.1, .int .i64 r3.1.2.2, .int .i64 r2.1.1, .int .i64 r2.1.2.1, .int .i64 0] rfl).put 7 (of_decide_eq_true rfl) (.int .i64 r2.1.2.2) [.bool true, .int .i64 k, .int .i64 r3.1.1, .int .i64 r3.1.2.1, .int .i64 r3.1.2.2, .int .i64 r2.1.1, .int .i64 r2.1.2.1, .int .i64 r2.1.2.2] rfl) rfl (by kernel_rfl) (by kernel_rfl)) rfl ?_
      have hs : bStepS bad d v k = ((true, k, r3.1.1, r3.1.2.1, r3.1.2.2, r2.1.1, r2.1.2.1, r2.1.2.2), r3.2) := by unfold bStepS; simp only [E1.out, E2.out, E3.out]; rw [if_pos Hhc1.out]; rw [if_neg (by rw [Hhc2.out]; decide)]
      rw [hs]
      exact ⟨rfl, (((((((((((f3.new (w.heap.size + 1) 0 (Nat.ne_of_lt y2_BF) (.int .i64 r3.1.1)).new (w.heap.size + 1) 1 (Nat.ne_of_lt y2_BF) (.int .i64 r3.1.2.1)).new (w.heap.size + 1) 2 (Nat.ne_of_lt y2_BF) (.int .i64 r3.1.2.2)).new (w.heap.size + 1 + 1) 0 (Nat.ne_of_lt y3_BF) (.bool true)).new (w.heap.size + 1 + 1) 1 (Nat.ne_of_lt y3_BF) (.int .i64 k)).new (w.heap.size + 1 + 1) 2 (Nat.ne_of_lt y3_BF) (.int .i64 r3.1.1)).new (w.heap.size + 1 + 1) 3 (Nat.ne_of_lt y3_BF) (.int .i64 r3.1.2.1)).new (w.heap.size + 1 + 1) 4 (Nat.ne_of_lt y3_BF) (.int .i64 r3.1.2.2)).new (w.heap.size + 1 + 1) 5 (Nat.ne_of_lt y3_BF) (.int .i64 r2.1.1)).new (w.heap.size + 1 + 1) 6 (Nat.ne_of_lt y3_BF) (.int .i64 r2.1.2.1)).new (w.heap.size + 1 + 1) 7 (Nat.ne_of_lt y3_BF) (.int .i64 r2.1.2.2)), (((((((((((K3.new _ _ (by omega) _).new _ _ (by omega) _).new _ _ (by omega) _).new _ _ (by omega) _).new _ _ (by omega) _).new _ _ (by omega) _).new _ _ (by omega) _).new _ _ (by omega) _).new _ _ (by omega) _).new _ _ (by omega) _).new _ _ (by omega) _)⟩
  · have Hhc1 : Hid (r1 = false) := hc1
    have c2_B1_0 : w1.cell? ⟨w.heap.size + 1, 0, none⟩ = some (.int .i64 v.1) := B1_1.c 0 (of_decide_eq_true rfl)
    have c2_B1_1 : w1.cell? ⟨w.heap.size + 1, 1, none⟩ = some (.int .i64 v.2.1) := B1_1.c 1 (of_decide_eq_true rfl)
    have c2_B1_2 : w1.cell? ⟨w.heap.size + 1, 2, none⟩ = some (.int .i64 v.2.2) := B1_1.c 2 (of_decide_eq_true rfl)
    go_wp2_with fail
    refine (vAdd_any b bad v (0, 0, 0) _ BF_1).mono ?_
    rintro e w2 ⟨rfl, f2, k2⟩
    generalize e2 : vAddS bad v (0, 0, 0) = r2 at f2 ⊢
    have E2 : Hid _ := e2
    clear e2
    have K2 : Kept b w w2 := Kept.trans K1 k2
    have B0_2 : Arr w.heap.size [.bool d.1, .int .i64 d.2.1, .int .i64 d.2.2.1, .int .i64 d.2.2.2.1, .int .i64 d.2.2.2.2.1, .int .i64 d.2.2.2.2.2.1, .int .i64 d.2.2.2.2.2.2.1, .int .i64 d.2.2.2.2.2.2.2] w2 := B0_1.kept k2 (Nat.ne_of_gt y1_BF)
    have B1_2 : Arr (w.heap.size + 1) [.int .i64 v.1, .int .i64 v.2.1, .int .i64 v.2.2] w2 := B1_1.kept k2 (Nat.ne_of_gt y2_BF)
    have B2_2 : Arr (w.heap.size + 1 + 1) [.bool false, .int .i64 0, .int .i64 0, .int .i64 0, .int .i64 0, .int .i64 0, .int .i64 0, .int .i64 0] w2 := B2_1.kept k2 (Nat.ne_of_gt y3_BF)
    have B3_2 : Arr (w.heap.size + 1 + 1 + 1) [.int .i64 0, .int .i64 0, .int .i64 0] w2 := B3_1.kept k2 (Nat.ne_of_gt y4_BF)
    have z2 := B3_2.lies
    clear c2_B1_0 c2_B1_1 c2_B1_2 K1 BF_1 B0_1 B1_1 B2_1 B3_1 k2
    rcases Bool.eq_false_or_eq_true r2.2 with hc2 | hc2
    · have Hhc2 : Hid (r2.2 = true) := hc2
      have c3_B1_0 : w2.cell? ⟨w.heap.size + 1, 0, none⟩ = some (.int .i64 v.1) := B1_2.c 0 (of_decide_eq_true rfl)
      have c3_B1_1 : w2.cell? ⟨w.heap.size + 1, 1, none⟩ = some (.int .i64 v.2.1) := B1_2.c 1 (of_decide_eq_true rfl)
      have c3_B1_2 : w2.cell? ⟨w.heap.size + 1, 2, none⟩ = some (.int .i64 v.2.2) := B1_2.c 2 (of_decide_eq_true rfl)
      have c3_B2_0 : w2.cell? ⟨w.heap.size + 1 + 1, 0, none⟩ = some (.bool false) := B2_2.c 0 (of_decide_eq_true rfl)
      have c3_B2_1 : w2.cell? ⟨w.heap.size + 1 + 1, 1, none⟩ = some (.int .i64 0) := B2_2.c 1 (of_decide_eq_true rfl)
      have c3_B2_2 : w2.cell? ⟨w.heap.size + 1 + 1, 2, none⟩ = some (.int .i64 0) := B2_2.c 2 (of_decide_eq_true rfl)
      have c3_B2_3 : w2.cell? ⟨w.heap.size + 1 + 1, 3, none⟩ = some (.int .i64 0) := B2_2.c 3 (of_decide_eq_true rfl)
      have c3_B2_4 : w2.cell? ⟨w.heap.size + 1 + 1, 4, none⟩ = some (.int .i64 0) := B2_2.c 4 (of_decide_eq_true rfl)
      have c3_B2_5 : w2.cell? ⟨w.heap.size + 1 + 1, 5, none⟩ = some (.int .i64 0) := B2_2.c 5 (of_decide_eq_true rfl)
      have c3_B2_6 : w2.cell? ⟨w.heap.size + 1 + 1, 6, none⟩ = some (.int .i64 0) := B2_2.c 6 (of_decide_eq_true rfl)
      have c3_B2_7 : w2.cell? ⟨w.heap.size + 1 + 1, 7, none⟩ = some (.int .i64 0) := B2_2.c 7 (of_decide_eq_true rfl)
      have c3_BF := f2.cell
      have g3_B1_0 := B1_2.f 0 (of_decide_eq_true rfl)
      have g3_B1_1 := B1_2.f 1 (of_decide_eq_true rfl)
      have g3_B1_2 := B1_2.f 2 (of_decide_eq_true rfl)
      have g3_B2_0 := B2_2.f 0 (of_decide_eq_true rfl)
      have g3_B2_1 := B2_2.f 1 (of_decide_eq_true rfl)
      have g3_B2_2 := B2_2.f 2 (of_decide_eq_true rfl)
      have g3_B2_3 := B2_2.f 3 (of_decide_eq_true rfl)
      have g3_B2_4 := B2_2.f 4 (of_decide_eq_true rfl)
      have g3_B2_5 := B2_2.f 5 (of_decide_eq_true rfl)
      have g3_B2_6 := B2_2.f 6 (of_decide_eq_true rfl)
      have g3_B2_7 := B2_2.f 7 (of_decide_eq_true rfl)
      go_wp2_with (with_reducible refine post_stop ?_)
      refine Stop.mk ?_
      clear c3_B1_0 c3_B1_1 c3_B1_2 c3_B2_0 c3_B2_1 c3_B2_2 c3_B2_3 c3_B2_4 c3_B2_5 c3_B2_6 c3_B2_7 c3_BF g3_B1_0 g3_B1_1 g3_B1_2 g3_B2_0 g3_B2_1 g3_B2_2 g3_B2_3 g3_B2_4 g3_B2_5 g3_B2_6 g3_B2_7
      refine bodyPost_ret (v := .agg #[.bool false, .int .i64 0, .int .i64 0, .int .i64 0, .int .i64 0, .int .i64 0, .int .i64 0, .int .i64 0]) (results_arr Try.results8 (((((((((((B2_2.new (w.heap.size + 1) 0 (Nat.ne_of_gt y3_B1) (.int .i64 r2.1.1)).new (w.heap.size + 1) 1 (Nat.ne_of_gt y3_B1) (.int .i64 r2.1.2.1)).new (w.heap.size + 1) 2 (Nat.ne_of_gt y3_B1) (.int .i64 r2.1.2.2)).put 0 (of_decide_eq_true rfl) (.bool false) [.bool false, .int .i64 0, .int .i64 0, .int .i64 0, .int .i64 0, .int .i64 0, .int .i64 0, .int .i64 0] rfl).put 1 (of_decide_eq_true rfl) (.int .i64 0) [.bool false, .int .i64 0, .int .i64 0, .int .i64 0, .int .i64 0, .int .i64 0, .int .i64 0, .int .i64 0] rfl).put 2 (of_decide_eq_true rfl) (.int .i64 0) [.bool false, .int .i64 0, .int .i64 0, .int .i64 0, .int .i64 0, .int .i64 0, .int .i64 0, .int .i64 0] rfl).put 3 (of_decide_eq_true rfl) (.int .i64 0) [.bool false, .int .i64 0, .int .i64 0, .int .i64 0, .int .i64 0, .int .i64 0, .int .i64 0, .int .i64 0] rfl).put 4 (of_decide_eq_true rfl) (.int .i64 0) [.bool false, .int .i64 0, .int .i64 0, .int .i64 0, .int .i64 0, .int .i64 0, .int .i64 0, .int .i64 0] rfl).put 5 (of_decide_eq_true rfl) (.int .i64 0) [.bool false, .int .i64 0, .int .i64 0, .int .i64 0, .int .i64 0, .int .i64 0, .int .i64 0, .int .i64 0] rfl).put 6 (of_decide_eq_true rfl) (.int .i64 0) [.bool false, .int .i64 0, .int .i64 0, .int .i64 0, .int .i64 0, .int .i64 0, .int .i64 0, .int .i64 0] rfl).put 7 (of_decide_eq_true rfl) (.int .i64 0) [.bool false, .int .i64 0, .int .i64 0, .int .i64 0, .int .i64 0, .int .i64 0, .int .i64 0, .int .i64 0] rfl) rfl (by kernel_rfl) (by kernel_rfl)) rfl ?_
      have hs : bStepS bad d v k = ((false, 0, 0, 0, 0, 0, 0, 0), r2.2) := by unfold bStepS; simp only [E1.out, E2.out]; rw [if_neg (by rw [Hhc1.out]; decide)]; rw [if_pos Hhc2.out]
      rw [hs]
      exact ⟨rfl, (((((((((((f2.new (w.heap.size + 1) 0 (Nat.ne_of_lt y2_BF) (.int .i64 r2.1.1)).new (w.heap.size + 1) 1 (Nat.ne_of_lt y2_BF) (.int .i64 r2.1.2.1)).new (w.heap.size + 1) 2 (Nat.ne_of_lt y2_BF) (.int .i64 r2.1.2.2)).new (w.heap.size + 1 + 1) 0 (Nat.ne_of_lt y3_BF) (.bool false)).new (w.heap.size + 1 + 1) 1 (Nat.ne_of_lt y3_BF) (.int .i64 0)).new (w.heap.size + 1 + 1) 2 (Nat.ne_of_lt y3_BF) (.int .i64 0)).new (w.heap.size + 1 + 1) 3 (Nat.ne_of_lt y3_BF) (.int .i64 0)).new (w.heap.size + 1 + 1) 4 (Nat.ne_of_lt y3_BF) (.int .i64 0)).new (w.heap.size + 1 + 1) 5 (Nat.ne_of_lt y3_BF) (.int .i64 0)).new (w.heap.size + 1 + 1) 6 (Nat.ne_of_lt y3_BF) (.int .i64 0)).new (w.heap.size + 1 + 1) 7 (Nat.ne_of_lt y3_BF) (.int .i64 0)), (((((((((((K2.new _ _ (by omega) _).new _ _ (by omega) _).new _ _ (by omega) _).new _ _ (by omega) _).new _ _ (by omega) _).new _ _ (by omega) _).new _ _ (by omega) _).new _ _ (by omega) _).new _ _ (by omega) _).new _ _ (by omega) _).new _ _ (by omega) _)⟩
    · have Hhc2 : Hid (r2.2 = false) := hc2
      have c3_B1_0 : w2.cell? ⟨w.heap.size + 1, 0, none⟩ = some (.int .i64 v.1) := B1_2.c 0 (of_decide_eq_true rfl)
      have c3_B1_1 : w2.cell? ⟨w.heap.size + 1, 1, none⟩ = some (.int .i64 v.2.1) := B1_2.c 1 (of_decide_eq_true rfl)
      have c3_B1_2 : w2.cell? ⟨w.heap.size + 1, 2, none⟩ = some (.int .i64 v.2.2) := B1_2.c 2 (of_decide_eq_true rfl)
      have c3_B2_0 : w2.cell? ⟨w.heap.size + 1 + 1, 0, none⟩ = some (.bool false) := B2_2.c 0 (of_decide_eq_true rfl)
      have c3_B2_1 : w2.cell? ⟨w.heap.size + 1 + 1, 1, none⟩ = some (.int .i64 0) := B2_2.c 1 (of_decide_eq_true rfl)
      have c3_B2_2 : w2.cell? ⟨w.heap.size + 1 + 1, 2, none⟩ = some (.int .i64 0) := B2_2.c 2 (of_decide_eq_true rfl)
      have c3_B2_3 : w2.cell? ⟨w.heap.size + 1 + 1, 3, none⟩ = some (.int .i64 0) := B2_2.c 3 (of_decide_eq_true rfl)
      have c3_B2_4 : w2.cell? ⟨w.heap.size + 1 + 1, 4, none⟩ = some (.int .i64 0) := B2_2.c 4 (of_decide_eq_true rfl)
      have c3_B2_5 : w2.cell? ⟨w.heap.size + 1 + 1, 5, none⟩ = some (.int .i64 0) := B2_2.c 5 (of_decide_eq_true rfl)
      have c3_B2_6 : w2.cell? ⟨w.heap.size + 1 + 1, 6, none⟩ = some (.int .i64 0) := B2_2.c 6 (of_decide_eq_true rfl)
      have c3_B2_7 : w2.cell? ⟨w.heap.size + 1 + 1, 7, none⟩ = some (.int .i64 0) := B2_2.c 7 (of_decide_eq_true rfl)
      have c3_B3_0 : w2.cell? ⟨w.heap.size + 1 + 1 + 1, 0, none⟩ = some (.int .i64 0) := B3_2.c 0 (of_decide_eq_true rfl)
      have c3_B3_1 : w2.cell? ⟨w.heap.size + 1 + 1 + 1, 1, none⟩ = some (.int .i64 0) := B3_2.c 1 (of_decide_eq_true rfl)
      have c3_B3_2 : w2.cell? ⟨w.heap.size + 1 + 1 + 1, 2, none⟩ = some (.int .i64 0) := B3_2.c 2 (of_decide_eq_true rfl)
      have c3_BF := f2.cell
      have g3_B1_0 := B1_2.f 0 (of_decide_eq_true rfl)
      have g3_B1_1 := B1_2.f 1 (of_decide_eq_true rfl)
      have g3_B1_2 := B1_2.f 2 (of_decide_eq_true rfl)
      have g3_B2_0 := B2_2.f 0 (of_decide_eq_true rfl)
      have g3_B2_1 := B2_2.f 1 (of_decide_eq_true rfl)
      have g3_B2_2 := B2_2.f 2 (of_decide_eq_true rfl)
      have g3_B2_3 := B2_2.f 3 (of_decide_eq_true rfl)
      have g3_B2_4 := B2_2.f 4 (of_decide_eq_true rfl)
      have g3_B2_5 := B2_2.f 5 (of_decide_eq_true rfl)
      have g3_B2_6 := B2_2.f 6 (of_decide_eq_true rfl)
      have g3_B2_7 := B2_2.f 7 (of_decide_eq_true rfl)
      go_wp2_with (with_reducible refine post_stop ?_)
      refine Stop.mk ?_
      clear c3_B1_0 c3_B1_1 c3_B1_2 c3_B2_0 c3_B2_1 c3_B2_2 c3_B2_3 c3_B2_4 c3_B2_5 c3_B2_6 c3_B2_7 c3_B3_0 c3_B3_1 c3_B3_2 c3_BF g3_B1_0 g3_B1_1 g3_B1_2 g3_B2_0 g3_B2_1 g3_B2_2 g3_B2_3 g3_B2_4 g3_B2_5 g3_B2_6 g3_B2_7
      refine bodyPost_ret (v := .agg #[.bool true, .int .i64 k, .int .i64 r2.1.1, .int .i64 r2.1.2.1, .int .i64 r2.1.2.2, .int .i64 0, .int .i64 0, .int .i64 0]) (results_arr Try.results8 (((((((((((B2_2.new (w.heap.size + 1) 0 (Nat.ne_of_gt y3_B1) (.int .i64 r2.1.1)).new (w.heap.size + 1) 1 (Nat.ne_of_gt y3_B1) (.int .i64 r2.1.2.1)).new (w.heap.size + 1) 2 (Nat.ne_of_gt y3_B1) (.int .i64 r2.1.2.2)).put 0 (of_decide_eq_true rfl) (.bool true) [.bool true, .int .i64 0, .int .i64 0, .int .i64 0, .int .i64 0, .int .i64 0, .int .i64 0, .int .i64 0] rfl).put 1 (of_decide_eq_true rfl) (.int .i64 k) [.bool true, .int .i64 k, .int .i64 0, .int .i64 0, .int .i64 0, .int .i64 0, .int .i64 0, .int .i64 0] rfl).put 2 (of_decide_eq_true rfl) (.int .i64 r2.1.1) [.bool true, .int .i64 k, .int .i64 r2.1.1, .int .i64 0, .int .i64 0, .int .i64 0, .int .i64 0, .int .i64 0] rfl).put 3 (of_decide_eq_true rfl) (.int .i64 r2.1.2.1) [.bool true, .int .i64 k, .int .i64 r2.1.1, .int .i64 r2.1.2.1, .int .i64 0, .int .i64 0, .int .i64 0, .int .i64 0] rfl).put 4 (of_decide_eq_true rfl) (.int .i64 r2.1.2.2) [.bool true, .int .i64 k, .int .i64 r2.1.1, .int .i64 r2.1.2.1, .int .i64 r2.1.2.2, .int .i64 0, .int .i64 0, .int .i64 0] rfl).put 5 (of_decide_eq_true rfl) (.int .i64 0) [.bool true, .int .i64 k, .int .i64 r2.1.1, .int .i64 r2.1.2.1, .int .i64 r2.1.2.2, .int .i64 0, .int .i64 0, .int .i64 0] rfl).put 6 (of_decide_eq_true rfl) (.int .i64 0) [.bool true, .int .i64 k, .int .i64 r2.1.1, .int .i64 r2.1.2.1, .int .i64 r2.1.2.2, .int .i64 0, .int .i64 0, .int .i64 0] rfl).put 7 (of_decide_eq_true rfl) (.int .i64 0) [.bool true, .int .i64 k, .int .i64 r2.1.1, .int .i64 r2.1.2.1, .int .i64 r2.1.2.2, .int .i64 0, .int .i64 0, .int .i64 0] rfl) rfl (by kernel_rfl) (by kernel_rfl)) rfl ?_
      have hs : bStepS bad d v k = ((true, k, r2.1.1, r2.1.2.1, r2.1.2.2, 0, 0, 0), r2.2) := by unfold bStepS; simp only [E1.out, E2.out]; rw [if_neg (by rw [Hhc1.out]; decide)]; rw [if_neg (by rw [Hhc2.out]; decide)]
      rw [hs]
      exact ⟨rfl, (((((((((((f2.new (w.heap.size + 1) 0 (Nat.ne_of_lt y2_BF) (.int .i64 r2.1.1)).new (w.heap.size + 1) 1 (Nat.ne_of_lt y2_BF) (.int .i64 r2.1.2.1)).new (w.heap.size + 1) 2 (Nat.ne_of_lt y2_BF) (.int .i64 r2.1.2.2)).new (w.heap.size + 1 + 1) 0 (Nat.ne_of_lt y3_BF) (.bool true)).new (w.heap.size + 1 + 1) 1 (Nat.ne_of_lt y3_BF) (.int .i64 k)).new (w.heap.size + 1 + 1) 2 (Nat.ne_of_lt y3_BF) (.int .i64 r2.1.1)).new (w.heap.size + 1 + 1) 3 (Nat.ne_of_lt y3_BF) (.int .i64 r2.1.2.1)).new (w.heap.size + 1 + 1) 4 (Nat.ne_of_lt y3_BF) (.int .i64 r2.1.2.2)).new (w.heap.size + 1 + 1) 5 (Nat.ne_of_lt y3_BF) (.int .i64 0)).new (w.heap.size + 1 + 1) 6 (Nat.ne_of_lt y3_BF) (.int .i64 0)).new (w.heap.size + 1 + 1) 7 (Nat.ne_of_lt y3_BF) (.int .i64 0)), (((((((((((K2.new _ _ (by omega) _).new _ _ (by omega) _).new _ _ (by omega) _).new _ _ (by omega) _).new _ _ (by omega) _).new _ _ (by omega) _).new _ _ (by omega) _).new _ _ (by omega) _).new _ _ (by omega) _).new _ _ (by omega) _).new _ _ (by omega) _)⟩
end Go.Proofs.Ytibjmmlnkgapeaa
