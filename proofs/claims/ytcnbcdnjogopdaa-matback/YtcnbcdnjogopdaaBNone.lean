/-
  Walks of package alidaderef06, for the seat Ytcnbcdnjogopdaa. (Made by mkref06.py.)
-/
import Derived.Test.YtcnbcdnjogopdaaBLeaf
import Derived.Handy
import Derived.Deep.RegionHeld3
namespace Go.Proofs.Ytcnbcdnjogopdaa
open Go.RowKit

set_option maxRecDepth 100000 in
set_option maxHeartbeats 2000000 in
theorem zRootN_any (b : Nat) (bad : Bool) (m : Nat → Int) (n : Int) (w : World) (hw : Fl b bad w) (ho : Hid (zsizeS bad n = (false, true))) :
    Calls Try.prog 11 #[.pointer (some ⟨b, 0, none⟩), .agg (row 36 m).toArray, .int .i64 n] w fun e w' => e = .returned (.agg (row 36 ((zRootNS bad m n).1)).toArray) ∧ Fl b (zRootNS bad m n).2 w' ∧ Kept b w w' := by
  have hl := hw.lies
  go_enter Try.func11, Try.ntmps11
  have y1_BF : b < w.heap.size := hw.lies
  have y2_BF : b < w.heap.size + 1 := (Nat.lt_succ_of_lt hw.lies)
  have y2_B0 : w.heap.size < w.heap.size + 1 := (Nat.lt_succ_self _)
  have y3_BF : b < w.heap.size + 1 + 1 := (Nat.lt_succ_of_lt (Nat.lt_succ_of_lt hw.lies))
  have y3_B0 : w.heap.size < w.heap.size + 1 + 1 := (Nat.lt_succ_of_lt (Nat.lt_succ_self _))
  have y3_B1 : w.heap.size + 1 < w.heap.size + 1 + 1 := (Nat.lt_succ_self _)
  go_wp2_with (refine store_stop rfl (by kernel_rfl) ?_)
  refine Stop.mk (store_row (l' := row 36 (fun _ => 0)) rfl rfl rfl rfl (Arr_at _ _ (row 36 (fun _ => 0)) _ (by simp)) (by simp only [row_len]) (by rw [row_len]; kernel_rfl) (row_one _ _) ?_)
  intro w1 B2_1 o1
  have K1 : Kept b w w1 := Kept.off ((((Kept.refl b w).al _).al _).al _) o1 (by omega)
  have BF_1 : Fl b bad w1 := (((hw.alloc _).alloc _).alloc _).off o1 (Nat.ne_of_lt y3_BF)
  have B0_1 : Arr w.heap.size (row 36 m) w1 := (((Arr_at _ _ (row 36 m) _ (by simp)).alloc _).alloc _).off o1 (Nat.ne_of_lt y3_B0)
  have B1_1 : Arr (w.heap.size + 1) (row 36 (fun _ => 0)) w1 := ((Arr_at _ _ (row 36 (fun _ => 0)) _ (by simp)).alloc _).off o1 (Nat.ne_of_lt y3_B1)
  have z1_B2 := B2_1.lies
  have z1_BF := BF_1.lies
  have z1_B0 := B0_1.lies
  have z1_B1 := B1_1.lies
  clear o1
  go_wp2_with fail
  refine (zsize_any b bad n _ BF_1).mono ?_
  rintro e w2 ⟨rfl, f2, k2⟩
  rw [ho.out] at f2 ⊢
  dsimp only at f2 ⊢
  have K2 : Kept b w w2 := Kept.trans K1 k2
  have B0_2 : Arr w.heap.size (row 36 m) w2 := B0_1.kept k2 (Nat.ne_of_gt y1_BF)
  have B1_2 : Arr (w.heap.size + 1) (row 36 (fun _ => 0)) w2 := B1_1.kept k2 (Nat.ne_of_gt y2_BF)
  have B2_2 : Arr (w.heap.size + 1 + 1) (row 36 (fun _ => 0)) w2 := B2_1.kept k2 (Nat.ne_of_gt y3_BF)
  have z2 := B2_2.lies
  clear K1 BF_1 B0_1 B1_1 B2_1 k2
  go_wp2_with (first | (refine row_load rfl rfl rfl B2_2 (by kernel_rfl) (by rw [row_len]; kernel_rfl) ?_) | (refine store_stop rfl (by kernel_rfl) ?_))
  refine Stop.mk (store_row (l' := row 36 (fun _ => 0)) rfl rfl rfl rfl B1_2 (by simp only [row_len]) (by rw [row_len]; kernel_rfl) (row_one _ _) ?_)
  intro w3 B1_3 o3
  have K3 : Kept b w w3 := Kept.off K2 o3 (by omega)
  have BF_3 : Fl b true w3 := f2.off o3 (Nat.ne_of_lt y2_BF)
  have B0_3 : Arr w.heap.size (row 36 m) w3 := B0_2.off o3 (Nat.ne_of_lt y2_B0)
  have B2_3 : Arr (w.heap.size + 1 + 1) (row 36 (fun _ => 0)) w3 := B2_2.off o3 (Nat.ne_of_gt y3_B1)
  have z3_B1 := B1_3.lies
  have z3_BF := BF_3.lies
  have z3_B0 := B0_3.lies
  have z3_B2 := B2_3.lies
  clear K2 B1_2 f2 B0_2 B2_2 o3
  go_wp2_with (with_reducible refine post_stop ?_)
  refine Stop.mk ?_
  refine bodyPost_ret (v := .agg (row 36 (fun _ => 0)).toArray) (results_arr Try.results11 B1_3 rfl (by kernel_rfl) (by rw [row_len]; kernel_rfl)) rfl ?_
  have hs : zRootNS bad m n = ((fun _ => 0), true) := rfl
  rw [hs]
  exact ⟨rfl, BF_3, K3⟩
set_option maxRecDepth 100000 in
set_option maxHeartbeats 2000000 in
theorem zSolveN_any (b : Nat) (bad : Bool) (l : Nat → Int) (p : Nat → Int) (n : Int) (w : World) (hw : Fl b bad w) (ho : Hid (zsizeS bad n = (false, true))) :
    Calls Try.prog 13 #[.pointer (some ⟨b, 0, none⟩), .agg (row 36 l).toArray, .agg (row 6 p).toArray, .int .i64 n] w fun e w' => e = .returned (.agg (row 6 ((zSolveNS bad l p n).1)).toArray) ∧ Fl b (zSolveNS bad l p n).2 w' ∧ Kept b w w' := by
  have hl := hw.lies
  go_enter Try.func13, Try.ntmps13
  have y1_BF : b < w.heap.size := hw.lies
  have y2_BF : b < w.heap.size + 1 := (Nat.lt_succ_of_lt hw.lies)
  have y2_B0 : w.heap.size < w.heap.size + 1 := (Nat.lt_succ_self _)
  have y3_BF : b < w.heap.size + 1 + 1 := (Nat.lt_succ_of_lt (Nat.lt_succ_of_lt hw.lies))
  have y3_B0 : w.heap.size < w.heap.size + 1 + 1 := (Nat.lt_succ_of_lt (Nat.lt_succ_self _))
  have y3_B1 : w.heap.size + 1 < w.heap.size + 1 + 1 := (Nat.lt_succ_self _)
  have y4_BF : b < w.heap.size + 1 + 1 + 1 := (Nat.lt_succ_of_lt (Nat.lt_succ_of_lt (Nat.lt_succ_of_lt hw.lies)))
  have y4_B0 : w.heap.size < w.heap.size + 1 + 1 + 1 := (Nat.lt_succ_of_lt (Nat.lt_succ_of_lt (Nat.lt_succ_self _)))
  have y4_B1 : w.heap.size + 1 < w.heap.size + 1 + 1 + 1 := (Nat.lt_succ_of_lt (Nat.lt_succ_self _))
  have y4_B2 : w.heap.size + 1 + 1 < w.heap.size + 1 + 1 + 1 := (Nat.lt_succ_self _)
  go_wp2_with fail
  refine (zsize_any b bad n _ ((((hw.alloc _).alloc _).alloc _).alloc _)).mono ?_
  rintro e w1 ⟨rfl, f1, k1⟩
  rw [ho.out] at f1 ⊢
  dsimp only at f1 ⊢
  have K1 : Kept b w w1 := Kept.trans (((((Kept.refl b w).al _).al _).al _).al _) k1
  have B0_1 : Arr w.heap.size (row 36 l) w1 := ((((Arr_at _ _ (row 36 l) _ (by simp)).alloc _).alloc _).alloc _).kept k1 (Nat.ne_of_gt y1_BF)
  have B1_1 : Arr (w.heap.size + 1) (row 6 p) w1 := (((Arr_at _ _ (row 6 p) _ (by simp)).alloc _).alloc _).kept k1 (Nat.ne_of_gt y2_BF)
  have B2_1 : Arr (w.heap.size + 1 + 1) [.int .i64 0, .int .i64 0, .int .i64 0, .int .i64 0, .int .i64 0, .int .i64 0] w1 := ((Arr_at _ _ [.int .i64 0, .int .i64 0, .int .i64 0, .int .i64 0, .int .i64 0, .int .i64 0] _ (by simp)).alloc _).kept k1 (Nat.ne_of_gt y3_BF)
  have B3_1 : Arr (w.heap.size + 1 + 1 + 1) [.int .i64 0, .int .i64 0, .int .i64 0, .int .i64 0, .int .i64 0, .int .i64 0] w1 := (Arr_at _ _ [.int .i64 0, .int .i64 0, .int .i64 0, .int .i64 0, .int .i64 0, .int .i64 0] _ (by simp)).kept k1 (Nat.ne_of_gt y4_BF)
  have z1 := B3_1.lies
  clear k1
  have c2_B2_0 : w1.cell? ⟨w.heap.size + 1 + 1, 0, none⟩ = some (.int .i64 0) := B2_1.c 0 (of_decide_eq_true rfl)
  have c2_B2_1 : w1.cell? ⟨w.heap.size + 1 + 1, 1, none⟩ = some (.int .i64 0) := B2_1.c 1 (of_decide_eq_true rfl)
  have c2_B2_2 : w1.cell? ⟨w.heap.size + 1 + 1, 2, none⟩ = some (.int .i64 0) := B2_1.c 2 (of_decide_eq_true rfl)
  have c2_B2_3 : w1.cell? ⟨w.heap.size + 1 + 1, 3, none⟩ = some (.int .i64 0) := B2_1.c 3 (of_decide_eq_true rfl)
  have c2_B2_4 : w1.cell? ⟨w.heap.size + 1 + 1, 4, none⟩ = some (.int .i64 0) := B2_1.c 4 (of_decide_eq_true rfl)
  have c2_B2_5 : w1.cell? ⟨w.heap.size + 1 + 1, 5, none⟩ = some (.int .i64 0) := B2_1.c 5 (of_decide_eq_true rfl)
  have c2_B3_0 : w1.cell? ⟨w.heap.size + 1 + 1 + 1, 0, none⟩ = some (.int .i64 0) := B3_1.c 0 (of_decide_eq_true rfl)
  have c2_B3_1 : w1.cell? ⟨w.heap.size + 1 + 1 + 1, 1, none⟩ = some (.int .i64 0) := B3_1.c 1 (of_decide_eq_true rfl)
  have c2_B3_2 : w1.cell? ⟨w.heap.size + 1 + 1 + 1, 2, none⟩ = some (.int .i64 0) := B3_1.c 2 (of_decide_eq_true rfl)
  have c2_B3_3 : w1.cell? ⟨w.heap.size + 1 + 1 + 1, 3, none⟩ = some (.int .i64 0) := B3_1.c 3 (of_decide_eq_true rfl)
  have c2_B3_4 : w1.cell? ⟨w.heap.size + 1 + 1 + 1, 4, none⟩ = some (.int .i64 0) := B3_1.c 4 (of_decide_eq_true rfl)
  have c2_B3_5 : w1.cell? ⟨w.heap.size + 1 + 1 + 1, 5, none⟩ = some (.int .i64 0) := B3_1.c 5 (of_decide_eq_true rfl)
  have g2_B2_0 := B2_1.f 0 (of_decide_eq_true rfl)
  have g2_B2_1 := B2_1.f 1 (of_decide_eq_true rfl)
  have g2_B2_2 := B2_1.f 2 (of_decide_eq_true rfl)
  have g2_B2_3 := B2_1.f 3 (of_decide_eq_true rfl)
  have g2_B2_4 := B2_1.f 4 (of_decide_eq_true rfl)
  have g2_B2_5 := B2_1.f 5 (of_decide_eq_true rfl)
  go_wp2_with (with_reducible refine post_stop ?_)
  refine Stop.mk ?_
  clear c2_B2_0 c2_B2_1 c2_B2_2 c2_B2_3 c2_B2_4 c2_B2_5 c2_B3_0 c2_B3_1 c2_B3_2 c2_B3_3 c2_B3_4 c2_B3_5 g2_B2_0 g2_B2_1 g2_B2_2 g2_B2_3 g2_B2_4 g2_B2_5
  refine bodyPost_ret (v := .agg #[.int .i64 0, .int .i64 0, .int .i64 0, .int .i64 0, .int .i64 0, .int .i64 0]) (results_arr Try.results13 ((((((B2_1.put 0 (of_decide_eq_true rfl) (.int .i64 0) [.int .i64 0, .int .i64 0, .int .i64 0, .int .i64 0, .int .i64 0, .int .i64 0] rfl).put 1 (of_decide_eq_true rfl) (.int .i64 0) [.int .i64 0, .int .i64 0, .int .i64 0, .int .i64 0, .int .i64 0, .int .i64 0] rfl).put 2 (of_decide_eq_true rfl) (.int .i64 0) [.int .i64 0, .int .i64 0, .int .i64 0, .int .i64 0, .int .i64 0, .int .i64 0] rfl).put 3 (of_decide_eq_true rfl) (.int .i64 0) [.int .i64 0, .int .i64 0, .int .i64 0, .int .i64 0, .int .i64 0, .int .i64 0] rfl).put 4 (of_decide_eq_true rfl) (.int .i64 0) [.int .i64 0, .int .i64 0, .int .i64 0, .int .i64 0, .int .i64 0, .int .i64 0] rfl).put 5 (of_decide_eq_true rfl) (.int .i64 0) [.int .i64 0, .int .i64 0, .int .i64 0, .int .i64 0, .int .i64 0, .int .i64 0] rfl) rfl (by kernel_rfl) (by kernel_rfl)) rfl ?_
  have hs : zSolveNS bad l p n = ((fun _ => 0), true) := rfl
  rw [hs]
  exact ⟨rfl, ((((((f1.new (w.heap.size + 1 + 1) 0 (Nat.ne_of_lt y3_BF) (.int .i64 0)).new (w.heap.size + 1 + 1) 1 (Nat.ne_of_lt y3_BF) (.int .i64 0)).new (w.heap.size + 1 + 1) 2 (Nat.ne_of_lt y3_BF) (.int .i64 0)).new (w.heap.size + 1 + 1) 3 (Nat.ne_of_lt y3_BF) (.int .i64 0)).new (w.heap.size + 1 + 1) 4 (Nat.ne_of_lt y3_BF) (.int .i64 0)).new (w.heap.size + 1 + 1) 5 (Nat.ne_of_lt y3_BF) (.int .i64 0)), ((((((K1.new _ _ (by omega) _).new _ _ (by omega) _).new _ _ (by omega) _).new _ _ (by omega) _).new _ _ (by omega) _).new _ _ (by omega) _)⟩
set_option maxRecDepth 100000 in
set_option maxHeartbeats 2000000 in
theorem zSquareN_any (b : Nat) (bad : Bool) (l : Nat → Int) (n : Int) (w : World) (hw : Fl b bad w) (ho : Hid (zsizeS bad n = (false, true))) :
    Calls Try.prog 15 #[.pointer (some ⟨b, 0, none⟩), .agg (row 36 l).toArray, .int .i64 n] w fun e w' => e = .returned (.agg (row 36 ((zSquareNS bad l n).1)).toArray) ∧ Fl b (zSquareNS bad l n).2 w' ∧ Kept b w w' := by
  have hl := hw.lies
  go_enter Try.func15, Try.ntmps15
  have y1_BF : b < w.heap.size := hw.lies
  have y2_BF : b < w.heap.size + 1 := (Nat.lt_succ_of_lt hw.lies)
  have y2_B0 : w.heap.size < w.heap.size + 1 := (Nat.lt_succ_self _)
  have y3_BF : b < w.heap.size + 1 + 1 := (Nat.lt_succ_of_lt (Nat.lt_succ_of_lt hw.lies))
  have y3_B0 : w.heap.size < w.heap.size + 1 + 1 := (Nat.lt_succ_of_lt (Nat.lt_succ_self _))
  have y3_B1 : w.heap.size + 1 < w.heap.size + 1 + 1 := (Nat.lt_succ_self _)
  go_wp2_with (refine store_stop rfl (by kernel_rfl) ?_)
  refine Stop.mk (store_row (l' := row 36 (fun _ => 0)) rfl rfl rfl rfl (Arr_at _ _ (row 36 (fun _ => 0)) _ (by simp)) (by simp only [row_len]) (by rw [row_len]; kernel_rfl) (row_one _ _) ?_)
  intro w1 B2_1 o1
  have K1 : Kept b w w1 := Kept.off ((((Kept.refl b w).al _).al _).al _) o1 (by omega)
  have BF_1 : Fl b bad w1 := (((hw.alloc _).alloc _).alloc _).off o1 (Nat.ne_of_lt y3_BF)
  have B0_1 : Arr w.heap.size (row 36 l) w1 := (((Arr_at _ _ (row 36 l) _ (by simp)).alloc _).alloc _).off o1 (Nat.ne_of_lt y3_B0)
  have B1_1 : Arr (w.heap.size + 1) (row 36 (fun _ => 0)) w1 := ((Arr_at _ _ (row 36 (fun _ => 0)) _ (by simp)).alloc _).off o1 (Nat.ne_of_lt y3_B1)
  have z1_B2 := B2_1.lies
  have z1_BF := BF_1.lies
  have z1_B0 := B0_1.lies
  have z1_B1 := B1_1.lies
  clear o1
  go_wp2_with fail
  refine (zsize_any b bad n _ BF_1).mono ?_
  rintro e w2 ⟨rfl, f2, k2⟩
  rw [ho.out] at f2 ⊢
  dsimp only at f2 ⊢
  have K2 : Kept b w w2 := Kept.trans K1 k2
  have B0_2 : Arr w.heap.size (row 36 l) w2 := B0_1.kept k2 (Nat.ne_of_gt y1_BF)
  have B1_2 : Arr (w.heap.size + 1) (row 36 (fun _ => 0)) w2 := B1_1.kept k2 (Nat.ne_of_gt y2_BF)
  have B2_2 : Arr (w.heap.size + 1 + 1) (row 36 (fun _ => 0)) w2 := B2_1.kept k2 (Nat.ne_of_gt y3_BF)
  have z2 := B2_2.lies
  clear K1 BF_1 B0_1 B1_1 B2_1 k2
  go_wp2_with (first | (refine row_load rfl rfl rfl B2_2 (by kernel_rfl) (by rw [row_len]; kernel_rfl) ?_) | (refine store_stop rfl (by kernel_rfl) ?_))
  refine Stop.mk (store_row (l' := row 36 (fun _ => 0)) rfl rfl rfl rfl B1_2 (by simp only [row_len]) (by rw [row_len]; kernel_rfl) (row_one _ _) ?_)
  intro w3 B1_3 o3
  have K3 : Kept b w w3 := Kept.off K2 o3 (by omega)
  have BF_3 : Fl b true w3 := f2.off o3 (Nat.ne_of_lt y2_BF)
  have B0_3 : Arr w.heap.size (row 36 l) w3 := B0_2.off o3 (Nat.ne_of_lt y2_B0)
  have B2_3 : Arr (w.heap.size + 1 + 1) (row 36 (fun _ => 0)) w3 := B2_2.off o3 (Nat.ne_of_gt y3_B1)
  have z3_B1 := B1_3.lies
  have z3_BF := BF_3.lies
  have z3_B0 := B0_3.lies
  have z3_B2 := B2_3.lies
  clear K2 B1_2 f2 B0_2 B2_2 o3
  go_wp2_with (with_reducible refine post_stop ?_)
  refine Stop.mk ?_
  refine bodyPost_ret (v := .agg (row 36 (fun _ => 0)).toArray) (results_arr Try.results15 B1_3 rfl (by kernel_rfl) (by rw [row_len]; kernel_rfl)) rfl ?_
  have hs : zSquareNS bad l n = ((fun _ => 0), true) := rfl
  rw [hs]
  exact ⟨rfl, BF_3, K3⟩
set_option maxRecDepth 100000 in
set_option maxHeartbeats 2000000 in
theorem zApplyN_any (b : Nat) (bad : Bool) (m : Nat → Int) (p : Nat → Int) (n : Int) (w : World) (hw : Fl b bad w) (ho : Hid (zsizeS bad n = (false, true))) :
    Calls Try.prog 17 #[.pointer (some ⟨b, 0, none⟩), .agg (row 36 m).toArray, .agg (row 6 p).toArray, .int .i64 n] w fun e w' => e = .returned (.agg (row 6 ((zApplyNS bad m p n).1)).toArray) ∧ Fl b (zApplyNS bad m p n).2 w' ∧ Kept b w w' := by
  have hl := hw.lies
  go_enter Try.func17, Try.ntmps17
  have y1_BF : b < w.heap.size := hw.lies
  have y2_BF : b < w.heap.size + 1 := (Nat.lt_succ_of_lt hw.lies)
  have y2_B0 : w.heap.size < w.heap.size + 1 := (Nat.lt_succ_self _)
  have y3_BF : b < w.heap.size + 1 + 1 := (Nat.lt_succ_of_lt (Nat.lt_succ_of_lt hw.lies))
  have y3_B0 : w.heap.size < w.heap.size + 1 + 1 := (Nat.lt_succ_of_lt (Nat.lt_succ_self _))
  have y3_B1 : w.heap.size + 1 < w.heap.size + 1 + 1 := (Nat.lt_succ_self _)
  have y4_BF : b < w.heap.size + 1 + 1 + 1 := (Nat.lt_succ_of_lt (Nat.lt_succ_of_lt (Nat.lt_succ_of_lt hw.lies)))
  have y4_B0 : w.heap.size < w.heap.size + 1 + 1 + 1 := (Nat.lt_succ_of_lt (Nat.lt_succ_of_lt (Nat.lt_succ_self _)))
  have y4_B1 : w.heap.size + 1 < w.heap.size + 1 + 1 + 1 := (Nat.lt_succ_of_lt (Nat.lt_succ_self _))
  have y4_B2 : w.heap.size + 1 + 1 < w.heap.size + 1 + 1 + 1 := (Nat.lt_succ_self _)
  go_wp2_with fail
  refine (zsize_any b bad n _ ((((hw.alloc _).alloc _).alloc _).alloc _)).mono ?_
  rintro e w1 ⟨rfl, f1, k1⟩
  rw [ho.out] at f1 ⊢
  dsimp only at f1 ⊢
  have K1 : Kept b w w1 := Kept.trans (((((Kept.refl b w).al _).al _).al _).al _) k1
  have B0_1 : Arr w.heap.size (row 36 m) w1 := ((((Arr_at _ _ (row 36 m) _ (by simp)).alloc _).alloc _).alloc _).kept k1 (Nat.ne_of_gt y1_BF)
  have B1_1 : Arr (w.heap.size + 1) (row 6 p) w1 := (((Arr_at _ _ (row 6 p) _ (by simp)).alloc _).alloc _).kept k1 (Nat.ne_of_gt y2_BF)
  have B2_1 : Arr (w.heap.size + 1 + 1) [.int .i64 0, .int .i64 0, .int .i64 0, .int .i64 0, .int .i64 0, .int .i64 0] w1 := ((Arr_at _ _ [.int .i64 0, .int .i64 0, .int .i64 0, .int .i64 0, .int .i64 0, .int .i64 0] _ (by simp)).alloc _).kept k1 (Nat.ne_of_gt y3_BF)
  have B3_1 : Arr (w.heap.size + 1 + 1 + 1) [.int .i64 0, .int .i64 0, .int .i64 0, .int .i64 0, .int .i64 0, .int .i64 0] w1 := (Arr_at _ _ [.int .i64 0, .int .i64 0, .int .i64 0, .int .i64 0, .int .i64 0, .int .i64 0] _ (by simp)).kept k1 (Nat.ne_of_gt y4_BF)
  have z1 := B3_1.lies
  clear k1
  have c2_B2_0 : w1.cell? ⟨w.heap.size + 1 + 1, 0, none⟩ = some (.int .i64 0) := B2_1.c 0 (of_decide_eq_true rfl)
  have c2_B2_1 : w1.cell? ⟨w.heap.size + 1 + 1, 1, none⟩ = some (.int .i64 0) := B2_1.c 1 (of_decide_eq_true rfl)
  have c2_B2_2 : w1.cell? ⟨w.heap.size + 1 + 1, 2, none⟩ = some (.int .i64 0) := B2_1.c 2 (of_decide_eq_true rfl)
  have c2_B2_3 : w1.cell? ⟨w.heap.size + 1 + 1, 3, none⟩ = some (.int .i64 0) := B2_1.c 3 (of_decide_eq_true rfl)
  have c2_B2_4 : w1.cell? ⟨w.heap.size + 1 + 1, 4, none⟩ = some (.int .i64 0) := B2_1.c 4 (of_decide_eq_true rfl)
  have c2_B2_5 : w1.cell? ⟨w.heap.size + 1 + 1, 5, none⟩ = some (.int .i64 0) := B2_1.c 5 (of_decide_eq_true rfl)
  have c2_B3_0 : w1.cell? ⟨w.heap.size + 1 + 1 + 1, 0, none⟩ = some (.int .i64 0) := B3_1.c 0 (of_decide_eq_true rfl)
  have c2_B3_1 : w1.cell? ⟨w.heap.size + 1 + 1 + 1, 1, none⟩ = some (.int .i64 0) := B3_1.c 1 (of_decide_eq_true rfl)
  have c2_B3_2 : w1.cell? ⟨w.heap.size + 1 + 1 + 1, 2, none⟩ = some (.int .i64 0) := B3_1.c 2 (of_decide_eq_true rfl)
  have c2_B3_3 : w1.cell? ⟨w.heap.size + 1 + 1 + 1, 3, none⟩ = some (.int .i64 0) := B3_1.c 3 (of_decide_eq_true rfl)
  have c2_B3_4 : w1.cell? ⟨w.heap.size + 1 + 1 + 1, 4, none⟩ = some (.int .i64 0) := B3_1.c 4 (of_decide_eq_true rfl)
  have c2_B3_5 : w1.cell? ⟨w.heap.size + 1 + 1 + 1, 5, none⟩ = some (.int .i64 0) := B3_1.c 5 (of_decide_eq_true rfl)
  have g2_B2_0 := B2_1.f 0 (of_decide_eq_true rfl)
  have g2_B2_1 := B2_1.f 1 (of_decide_eq_true rfl)
  have g2_B2_2 := B2_1.f 2 (of_decide_eq_true rfl)
  have g2_B2_3 := B2_1.f 3 (of_decide_eq_true rfl)
  have g2_B2_4 := B2_1.f 4 (of_decide_eq_true rfl)
  have g2_B2_5 := B2_1.f 5 (of_decide_eq_true rfl)
  go_wp2_with (with_reducible refine post_stop ?_)
  refine Stop.mk ?_
  clear c2_B2_0 c2_B2_1 c2_B2_2 c2_B2_3 c2_B2_4 c2_B2_5 c2_B3_0 c2_B3_1 c2_B3_2 c2_B3_3 c2_B3_4 c2_B3_5 g2_B2_0 g2_B2_1 g2_B2_2 g2_B2_3 g2_B2_4 g2_B2_5
  refine bodyPost_ret (v := .agg #[.int .i64 0, .int .i64 0, .int .i64 0, .int .i64 0, .int .i64 0, .int .i64 0]) (results_arr Try.results17 ((((((B2_1.put 0 (of_decide_eq_true rfl) (.int .i64 0) [.int .i64 0, .int .i64 0, .int .i64 0, .int .i64 0, .int .i64 0, .int .i64 0] rfl).put 1 (of_decide_eq_true rfl) (.int .i64 0) [.int .i64 0, .int .i64 0, .int .i64 0, .int .i64 0, .int .i64 0, .int .i64 0] rfl).put 2 (of_decide_eq_true rfl) (.int .i64 0) [.int .i64 0, .int .i64 0, .int .i64 0, .int .i64 0, .int .i64 0, .int .i64 0] rfl).put 3 (of_decide_eq_true rfl) (.int .i64 0) [.int .i64 0, .int .i64 0, .int .i64 0, .int .i64 0, .int .i64 0, .int .i64 0] rfl).put 4 (of_decide_eq_true rfl) (.int .i64 0) [.int .i64 0, .int .i64 0, .int .i64 0, .int .i64 0, .int .i64 0, .int .i64 0] rfl).put 5 (of_decide_eq_true rfl) (.int .i64 0) [.int .i64 0, .int .i64 0, .int .i64 0, .int .i64 0, .int .i64 0, .int .i64 0] rfl) rfl (by kernel_rfl) (by kernel_rfl)) rfl ?_
  have hs : zApplyNS bad m p n = ((fun _ => 0), true) := rfl
  rw [hs]
  exact ⟨rfl, ((((((f1.new (w.heap.size + 1 + 1) 0 (Nat.ne_of_lt y3_BF) (.int .i64 0)).new (w.heap.size + 1 + 1) 1 (Nat.ne_of_lt y3_BF) (.int .i64 0)).new (w.heap.size + 1 + 1) 2 (Nat.ne_of_lt y3_BF) (.int .i64 0)).new (w.heap.size + 1 + 1) 3 (Nat.ne_of_lt y3_BF) (.int .i64 0)).new (w.heap.size + 1 + 1) 4 (Nat.ne_of_lt y3_BF) (.int .i64 0)).new (w.heap.size + 1 + 1) 5 (Nat.ne_of_lt y3_BF) (.int .i64 0)), ((((((K1.new _ _ (by omega) _).new _ _ (by omega) _).new _ _ (by omega) _).new _ _ (by omega) _).new _ _ (by omega) _).new _ _ (by omega) _)⟩
end Go.Proofs.Ytcnbcdnjogopdaa
