/-
  Walks of package mat, for the seat Ytcnbcdnjogopdaa. (Made by mkmat.py.)
-/
import Derived.Test.YtcnbcdnjogopdaaALeaf
import Derived.Handy
import Derived.Deep.RegionHeld3
namespace Go.Proofs.Ytcnbcdnjogopdaa
open Go.RowKit

set_option maxRecDepth 100000 in
set_option maxHeartbeats 2000000 in
theorem mRootN_any (b : Nat) (bad : Bool) (m : Nat → Int) (n : Int) (w : World) (hw : Fl b bad w) (ho : Hid (mfitsS bad n = (false, true))) :
    Calls Try.prog 10 #[.pointer (some ⟨b, 0, none⟩), .agg (row 36 m).toArray, .int .i64 n] w fun e w' => e = .returned (.agg (row 36 ((mRootNS bad m n).1)).toArray) ∧ Fl b (mRootNS bad m n).2 w' ∧ Kept b w w' := by
  have hl := hw.lies
  go_enter Try.func10, Try.ntmps10
  have y1_BF : b < w.heap.size := hw.lies
  have y2_BF : b < w.heap.size + 1 := (Nat.lt_succ_of_lt hw.lies)
  have y2_B0 : w.heap.size < w.heap.size + 1 := (Nat.lt_succ_self _)
  have y3_BF : b < w.heap.size + 1 + 1 := (Nat.lt_succ_of_lt (Nat.lt_succ_of_lt hw.lies))
  have y3_B0 : w.heap.size < w.heap.size + 1 + 1 := (Nat.lt_succ_of_lt (Nat.lt_succ_self _))
  have y3_B1 : w.heap.size + 1 < w.heap.size + 1 + 1 := (Nat.lt_succ_self _)
  go_wp2_with fail
  refine (mfits_any b bad n _ (((hw.alloc _).alloc _).alloc _)).mono ?_
  rintro e w1 ⟨rfl, f1, k1⟩
  rw [ho.out] at f1 ⊢
  dsimp only at f1 ⊢
  have K1 : Kept b w w1 := Kept.trans ((((Kept.refl b w).al _).al _).al _) k1
  have B0_1 : Arr w.heap.size (row 36 m) w1 := (((Arr_at _ _ (row 36 m) _ (by simp)).alloc _).alloc _).kept k1 (Nat.ne_of_gt y1_BF)
  have B1_1 : Arr (w.heap.size + 1) (row 36 (fun _ => 0)) w1 := ((Arr_at _ _ (row 36 (fun _ => 0)) _ (by simp)).alloc _).kept k1 (Nat.ne_of_gt y2_BF)
  have B2_1 : Arr (w.heap.size + 1 + 1) (row 36 (fun _ => 0)) w1 := (Arr_at _ _ (row 36 (fun _ => 0)) _ (by simp)).kept k1 (Nat.ne_of_gt y3_BF)
  have z1 := B2_1.lies
  clear k1
  go_wp2_with (first | (refine row_load rfl rfl rfl B2_1 (by kernel_rfl) (by rw [row_len]; kernel_rfl) ?_) | (refine store_stop rfl (by kernel_rfl) ?_))
  refine Stop.mk (store_row (l' := row 36 (fun _ => 0)) rfl rfl rfl rfl B1_1 (by simp only [row_len]) (by rw [row_len]; kernel_rfl) (row_one _ _) ?_)
  intro w2 B1_2 o2
  have K2 : Kept b w w2 := Kept.off K1 o2 (by omega)
  have BF_2 : Fl b true w2 := f1.off o2 (Nat.ne_of_lt y2_BF)
  have B0_2 : Arr w.heap.size (row 36 m) w2 := B0_1.off o2 (Nat.ne_of_lt y2_B0)
  have B2_2 : Arr (w.heap.size + 1 + 1) (row 36 (fun _ => 0)) w2 := B2_1.off o2 (Nat.ne_of_gt y3_B1)
  have z2_B1 := B1_2.lies
  have z2_BF := BF_2.lies
  have z2_B0 := B0_2.lies
  have z2_B2 := B2_2.lies
  clear K1 B1_1 f1 B0_1 B2_1 o2
  go_wp2_with (with_reducible refine post_stop ?_)
  refine Stop.mk ?_
  refine bodyPost_ret (v := .agg (row 36 (fun _ => 0)).toArray) (results_arr Try.results10 B1_2 rfl (by kernel_rfl) (by rw [row_len]; kernel_rfl)) rfl ?_
  have hs : mRootNS bad m n = ((fun _ => 0), true) := rfl
  rw [hs]
  exact ⟨rfl, BF_2, K2⟩
set_option maxRecDepth 100000 in
set_option maxHeartbeats 2000000 in
theorem mSolveN_any (b : Nat) (bad : Bool) (l : Nat → Int) (p : Nat → Int) (n : Int) (w : World) (hw : Fl b bad w) (ho : Hid (mfitsS bad n = (false, true))) :
    Calls Try.prog 12 #[.pointer (some ⟨b, 0, none⟩), .agg (row 36 l).toArray, .agg (row 6 p).toArray, .int .i64 n] w fun e w' => e = .returned (.agg (row 6 ((mSolveNS bad l p n).1)).toArray) ∧ Fl b (mSolveNS bad l p n).2 w' ∧ Kept b w w' := by
  have hl := hw.lies
  go_enter Try.func12, Try.ntmps12
  have y1_BF : b < w.heap.size := hw.lies
  have y2_BF : b < w.heap.size + 1 := (Nat.lt_succ_of_lt hw.lies)
  have y2_B0 : w.heap.size < w.heap.size + 1 := (Nat.lt_succ_self _)
  have y3_BF : b < w.heap.size + 1 + 1 := (Nat.lt_succ_of_lt (Nat.lt_succ_of_lt hw.lies))
  have y3_B0 : w.heap.size < w.heap.size + 1 + 1 := (Nat.lt_succ_of_lt (Nat.lt_succ_self _))
  have y3_B1 : w.heap.size + 1 < w.heap.size + 1 + 1 := (Nat.lt_succ_self _)
  have y4_BF : b < w.heap.size + 1 + 1 + 1 := (Nat.lt_succ_of_lt (Nat.lt_succ_of_lt (Nat.lt_succ_of_lt hw.lies)))
  have y4_B0 : w.heap.size < w.heap.size + 1 + 1 + 1 := (Nat.lt_succ_of_lt (Nat.lt_succ_of_lt (Nat.lt_succ_self _)))
  have y4_B1 : w.heap.size + 1 < w.heap.size + 1 + 1 + 1 := (Nat.lt_succ_of_lt (Nat.lt_succ_self _))
  have y4_B2 : w.heap.size + 1 + 1 < w.heap.size + 1 + 1 + 1 := (Nat.lt_succ_self _)
  go_wp2_with fail
  refine (mfits_any b bad n _ ((((hw.alloc _).alloc _).alloc _).alloc _)).mono ?_
  rintro e w1 ⟨rfl, f1, k1⟩
  rw [ho.out] at f1 ⊢
  dsimp only at f1 ⊢
  have K1 : Kept b w w1 := Kept.trans (((((Kept.refl b w).al _).al _).al _).al _) k1
  have B0_1 : Arr w.heap.size (row 36 l) w1 := ((((Arr_at _ _ (row 36 l) _ (by simp)).alloc _).alloc _).alloc _).kept k1 (Nat.ne_of_gt y1_BF)
  have B1_1 : Arr (w.heap.size + 1) (row 6 p) w1 := (((Arr_at _ _ (row 6 p) _ (by simp)).alloc _).alloc _).kept k1 (Nat.ne_of_gt y2_BF)
  have B2_1 : Arr (w.heap.size + 1 + 1) [.int .i64 0, .int .i64 0, .int .i64 0, .int .i64 0, .int .i64 0, .int .i64 0] w1 := ((Arr_at _ _ [.int .i64 0, .int .i64 0, .int .i64 0, .int .i64 0, .int .i64 0, .int .i64 0] _ (by simp)).alloc _).kept k1 (Nat.ne_of_gt y3_BF)
  have B3_1 : Arr (w.heap.size + 1 + 1 + 1) [.int .i64 0, .int .i64 0, .int .i64 0, .int .i64 0, .int .i64 0, .int .i64 0] w1 := (Arr_at _ _ [.int .i64 0, .int .i64 0, .int .i64 0, .int .i64 0, .int .i64 0, .int .i64 0] _ (by simp)).kept k1 (Nat.ne_of_gt y4_BF)
  have z1 := B3_1.lies
  clear k1
  have c2_B2_0 : w1.cell? ⟨w.heap.size + 1 + 1, 0, none⟩ = some (.int .i64 0) := B2_1.c 0 (of_decide_eq_true rfl)
  have c2_B2_1 : w1.cell? ⟨w.heap.size + 1 + 1, 1, none⟩ = some (.int .i64 0) := B2_1.c 1 (of_decide_eq_true rfl)
  have c2_B2_2 : w1.cell? ⟨w.heap.size + 1 + 1, 2, none⟩ = some (.int .i64 0) := B2_1.c 2 (of_decide_eq_true rfl)
  have c2_B2_3 : w1.cell? ⟨w.heap.size + 1 + 1, 3, none⟩ = some (.int .i64 0) := B2_1.c 3 (of_decide_eq_true rfl)
  have c2_B2_4 : w1.cell? ⟨w.heap.size + 1 + 1, 4, none⟩ = some (.int .i64 0) := B2_1.c 4 (of_decide_eq_true rfl)
  have c2_B2_5 : w1.cell? ⟨w.heap.size + 1 + 1, 5, none⟩ = some (.int .i64 0) := B2_1.c 5 (of_decide_eq_true rfl)
  have c2_B3_0 : w1.cell? ⟨w.heap.size + 1 + 1 + 1, 0, none⟩ = some (.int .i64 0) := B3_1.c 0 (of_decide_eq_true rfl)
  have c2_B3_1 : w1.cell? ⟨w.heap.size + 1 + 1 + 1, 1, none⟩ = some (.int .i64 0) := B3_1.c 1 (of_decide_eq_true rfl)
  have c2_B3_2 : w1.cell? ⟨w.heap.size + 1 + 1 + 1, 2, none⟩ = some (.int .i64 0) := B3_1.c 2 (of_decide_eq_true rfl)
  have c2_B3_3 : w1.cell? ⟨w.heap.size + 1 + 1 + 1, 3, none⟩ = some (.int .i64 0) := B3_1.c 3 (of_decide_eq_true rfl)
  have c2_B3_4 : w1.cell? ⟨w.heap.size + 1 + 1 + 1, 4, none⟩ = some (.int .i64 0) := B3_1.c 4 (of_decide_eq_true rfl)
  have c2_B3_5 : w1.cell? ⟨w.heap.size + 1 + 1 + 1, 5, none⟩ = some (.int .i64 0) := B3_1.c 5 (of_decide_eq_true rfl)
  have g2_B2_0 := B2_1.f 0 (of_decide_eq_true rfl)
  have g2_B2_1 := B2_1.f 1 (of_decide_eq_true rfl)
  have g2_B2_2 := B2_1.f 2 (of_decide_eq_true rfl)
  have g2_B2_3 := B2_1.f 3 (of_decide_eq_true rfl)
  have g2_B2_4 := B2_1.f 4 (of_decide_eq_true rfl)
  have g2_B2_5 := B2_1.f 5 (of_decide_eq_true rfl)
  go_wp2_with (with_reducible refine post_stop ?_)
  refine Stop.mk ?_
  clear c2_B2_0 c2_B2_1 c2_B2_2 c2_B2_3 c2_B2_4 c2_B2_5 c2_B3_0 c2_B3_1 c2_B3_2 c2_B3_3 c2_B3_4 c2_B3_5 g2_B2_0 g2_B2_1 g2_B2_2 g2_B2_3 g2_B2_4 g2_B2_5
  refine bodyPost_ret (v := .agg #[.int .i64 0, .int .i64 0, .int .i64 0, .int .i64 0, .int .i64 0, .int .i64 0]) (results_arr Try.results12 ((((((B2_1.put 0 (of_decide_eq_true rfl) (.int .i64 0) [.int .i64 0, .int .i64 0, .int .i64 0, .int .i64 0, .int .i64 0, .int .i64 0] rfl).put 1 (of_decide_eq_true rfl) (.int .i64 0) [.int .i64 0, .int .i64 0, .int .i64 0, .int .i64 0, .int .i64 0, .int .i64 0] rfl).put 2 (of_decide_eq_true rfl) (.int .i64 0) [.int .i64 0, .int .i64 0, .int .i64 0, .int .i64 0, .int .i64 0, .int .i64 0] rfl).put 3 (of_decide_eq_true rfl) (.int .i64 0) [.int .i64 0, .int .i64 0, .int .i64 0, .int .i64 0, .int .i64 0, .int .i64 0] rfl).put 4 (of_decide_eq_true rfl) (.int .i64 0) [.int .i64 0, .int .i64 0, .int .i64 0, .int .i64 0, .int .i64 0, .int .i64 0] rfl).put 5 (of_decide_eq_true rfl) (.int .i64 0) [.int .i64 0, .int .i64 0, .int .i64 0, .int .i64 0, .int .i64 0, .int .i64 0] rfl) rfl (by kernel_rfl) (by kernel_rfl)) rfl ?_
  have hs : mSolveNS bad l p n = ((fun _ => 0), true) := rfl
  rw [hs]
  exact ⟨rfl, ((((((f1.new (w.heap.size + 1 + 1) 0 (Nat.ne_of_lt y3_BF) (.int .i64 0)).new (w.heap.size + 1 + 1) 1 (Nat.ne_of_lt y3_BF) (.int .i64 0)).new (w.heap.size + 1 + 1) 2 (Nat.ne_of_lt y3_BF) (.int .i64 0)).new (w.heap.size + 1 + 1) 3 (Nat.ne_of_lt y3_BF) (.int .i64 0)).new (w.heap.size + 1 + 1) 4 (Nat.ne_of_lt y3_BF) (.int .i64 0)).new (w.heap.size + 1 + 1) 5 (Nat.ne_of_lt y3_BF) (.int .i64 0)), ((((((K1.new _ _ (by omega) _).new _ _ (by omega) _).new _ _ (by omega) _).new _ _ (by omega) _).new _ _ (by omega) _).new _ _ (by omega) _)⟩
set_option maxRecDepth 100000 in
set_option maxHeartbeats 2000000 in
theorem mSquareN_any (b : Nat) (bad : Bool) (l : Nat → Int) (n : Int) (w : World) (hw : Fl b bad w) (ho : Hid (mfitsS bad n = (false, true))) :
    Calls Try.prog 14 #[.pointer (some ⟨b, 0, none⟩), .agg (row 36 l).toArray, .int .i64 n] w fun e w' => e = .returned (.agg (row 36 ((mSquareNS bad l n).1)).toArray) ∧ Fl b (mSquareNS bad l n).2 w' ∧ Kept b w w' := by
  have hl := hw.lies
  go_enter Try.func14, Try.ntmps14
  have y1_BF : b < w.heap.size := hw.lies
  have y2_BF : b < w.heap.size + 1 := (Nat.lt_succ_of_lt hw.lies)
  have y2_B0 : w.heap.size < w.heap.size + 1 := (Nat.lt_succ_self _)
  have y3_BF : b < w.heap.size + 1 + 1 := (Nat.lt_succ_of_lt (Nat.lt_succ_of_lt hw.lies))
  have y3_B0 : w.heap.size < w.heap.size + 1 + 1 := (Nat.lt_succ_of_lt (Nat.lt_succ_self _))
  have y3_B1 : w.heap.size + 1 < w.heap.size + 1 + 1 := (Nat.lt_succ_self _)
  go_wp2_with fail
  refine (mfits_any b bad n _ (((hw.alloc _).alloc _).alloc _)).mono ?_
  rintro e w1 ⟨rfl, f1, k1⟩
  rw [ho.out] at f1 ⊢
  dsimp only at f1 ⊢
  have K1 : Kept b w w1 := Kept.trans ((((Kept.refl b w).al _).al _).al _) k1
  have B0_1 : Arr w.heap.size (row 36 l) w1 := (((Arr_at _ _ (row 36 l) _ (by simp)).alloc _).alloc _).kept k1 (Nat.ne_of_gt y1_BF)
  have B1_1 : Arr (w.heap.size + 1) (row 36 (fun _ => 0)) w1 := ((Arr_at _ _ (row 36 (fun _ => 0)) _ (by simp)).alloc _).kept k1 (Nat.ne_of_gt y2_BF)
  have B2_1 : Arr (w.heap.size + 1 + 1) (row 36 (fun _ => 0)) w1 := (Arr_at _ _ (row 36 (fun _ => 0)) _ (by simp)).kept k1 (Nat.ne_of_gt y3_BF)
  have z1 := B2_1.lies
  clear k1
  go_wp2_with (first | (refine row_load rfl rfl rfl B2_1 (by kernel_rfl) (by rw [row_len]; kernel_rfl) ?_) | (refine store_stop rfl (by kernel_rfl) ?_))
  refine Stop.mk (store_row (l' := row 36 (fun _ => 0)) rfl rfl rfl rfl B1_1 (by simp only [row_len]) (by rw [row_len]; kernel_rfl) (row_one _ _) ?_)
  intro w2 B1_2 o2
  have K2 : Kept b w w2 := Kept.off K1 o2 (by omega)
  have BF_2 : Fl b true w2 := f1.off o2 (Nat.ne_of_lt y2_BF)
  have B0_2 : Arr w.heap.size (row 36 l) w2 := B0_1.off o2 (Nat.ne_of_lt y2_B0)
  have B2_2 : Arr (w.heap.size + 1 + 1) (row 36 (fun _ => 0)) w2 := B2_1.off o2 (Nat.ne_of_gt y3_B1)
  have z2_B1 := B1_2.lies
  have z2_BF := BF_2.lies
  have z2_B0 := B0_2.lies
  have z2_B2 := B2_2.lies
  clear K1 B1_1 f1 B0_1 B2_1 o2
  go_wp2_with (with_reducible refine post_stop ?_)
  refine Stop.mk ?_
  refine bodyPost_ret (v := .agg (row 36 (fun _ => 0)).toArray) (results_arr Try.results14 B1_2 rfl (by kernel_rfl) (by rw [row_len]; kernel_rfl)) rfl ?_
  have hs : mSquareNS bad l n = ((fun _ => 0), true) := rfl
  rw [hs]
  exact ⟨rfl, BF_2, K2⟩
set_option maxRecDepth 100000 in
set_option maxHeartbeats 2000000 in
theorem mApplyN_any (b : Nat) (bad : Bool) (m : Nat → Int) (p : Nat → Int) (n : Int) (w : World) (hw : Fl b bad w) (ho : Hid (mfitsS bad n = (false, true))) :
    Calls Try.prog 16 #[.pointer (some ⟨b, 0, none⟩), .agg (row 36 m).toArray, .agg (row 6 p).toArray, .int .i64 n] w fun e w' => e = .returned (.agg (row 6 ((mApplyNS bad m p n).1)).toArray) ∧ Fl b (mApplyNS bad m p n).2 w' ∧ Kept b w w' := by
  have hl := hw.lies
  go_enter Try.func16, Try.ntmps16
  have y1_BF : b < w.heap.size := hw.lies
  have y2_BF : b < w.heap.size + 1 := (Nat.lt_succ_of_lt hw.lies)
  have y2_B0 : w.heap.size < w.heap.size + 1 := (Nat.lt_succ_self _)
  have y3_BF : b < w.heap.size + 1 + 1 := (Nat.lt_succ_of_lt (Nat.lt_succ_of_lt hw.lies))
  have y3_B0 : w.heap.size < w.heap.size + 1 + 1 := (Nat.lt_succ_of_lt (Nat.lt_succ_self _))
  have y3_B1 : w.heap.size + 1 < w.heap.size + 1 + 1 := (Nat.lt_succ_self _)
  have y4_BF : b < w.heap.size + 1 + 1 + 1 := (Nat.lt_succ_of_lt (Nat.lt_succ_of_lt (Nat.lt_succ_of_lt hw.lies)))
  have y4_B0 : w.heap.size < w.heap.size + 1 + 1 + 1 := (Nat.lt_succ_of_lt (Nat.lt_succ_of_lt (Nat.lt_succ_self _)))
  have y4_B1 : w.heap.size + 1 < w.heap.size + 1 + 1 + 1 := (Nat.lt_succ_of_lt (Nat.lt_succ_self _))
  have y4_B2 : w.heap.size + 1 + 1 < w.heap.size + 1 + 1 + 1 := (Nat.lt_succ_self _)
  go_wp2_with fail
  refine (mfits_any b bad n _ ((((hw.alloc _).alloc _).alloc _).alloc _)).mono ?_
  rintro e w1 ⟨rfl, f1, k1⟩
  rw [ho.out] at f1 ⊢
  dsimp only at f1 ⊢
  have K1 : Kept b w w1 := Kept.trans (((((Kept.refl b w).al _).al _).al _).al _) k1
  have B0_1 : Arr w.heap.size (row 36 m) w1 := ((((Arr_at _ _ (row 36 m) _ (by simp)).alloc _).alloc _).alloc _).kept k1 (Nat.ne_of_gt y1_BF)
  have B1_1 : Arr (w.heap.size + 1) (row 6 p) w1 := (((Arr_at _ _ (row 6 p) _ (by simp)).alloc _).alloc _).kept k1 (Nat.ne_of_gt y2_BF)
  have B2_1 : Arr (w.heap.size + 1 + 1) [.int .i64 0, .int .i64 0, .int .i64 0, .int .i64 0, .int .i64 0, .int .i64 0] w1 := ((Arr_at _ _ [.int .i64 0, .int .i64 0, .int .i64 0, .int .i64 0, .int .i64 0, .int .i64 0] _ (by simp)).alloc _).kept k1 (Nat.ne_of_gt y3_BF)
  have B3_1 : Arr (w.heap.size + 1 + 1 + 1) [.int .i64 0, .int .i64 0, .int .i64 0, .int .i64 0, .int .i64 0, .int .i64 0] w1 := (Arr_at _ _ [.int .i64 0, .int .i64 0, .int .i64 0, .int .i64 0, .int .i64 0, .int .i64 0] _ (by simp)).kept k1 (Nat.ne_of_gt y4_BF)
  have z1 := B3_1.lies
  clear k1
  have c2_B2_0 : w1.cell? ⟨w.heap.size + 1 + 1, 0, none⟩ = some (.int .i64 0) := B2_1.c 0 (of_decide_eq_true rfl)
  have c2_B2_1 : w1.cell? ⟨w.heap.size + 1 + 1, 1, none⟩ = some (.int .i64 0) := B2_1.c 1 (of_decide_eq_true rfl)
  have c2_B2_2 : w1.cell? ⟨w.heap.size + 1 + 1, 2, none⟩ = some (.int .i64 0) := B2_1.c 2 (of_decide_eq_true rfl)
  have c2_B2_3 : w1.cell? ⟨w.heap.size + 1 + 1, 3, none⟩ = some (.int .i64 0) := B2_1.c 3 (of_decide_eq_true rfl)
  have c2_B2_4 : w1.cell? ⟨w.heap.size + 1 + 1, 4, none⟩ = some (.int .i64 0) := B2_1.c 4 (of_decide_eq_true rfl)
  have c2_B2_5 : w1.cell? ⟨w.heap.size + 1 + 1, 5, none⟩ = some (.int .i64 0) := B2_1.c 5 (of_decide_eq_true rfl)
  have c2_B3_0 : w1.cell? ⟨w.heap.size + 1 + 1 + 1, 0, none⟩ = some (.int .i64 0) := B3_1.c 0 (of_decide_eq_true rfl)
  have c2_B3_1 : w1.cell? ⟨w.heap.size + 1 + 1 + 1, 1, none⟩ = some (.int .i64 0) := B3_1.c 1 (of_decide_eq_true rfl)
  have c2_B3_2 : w1.cell? ⟨w.heap.size + 1 + 1 + 1, 2, none⟩ = some (.int .i64 0) := B3_1.c 2 (of_decide_eq_true rfl)
  have c2_B3_3 : w1.cell? ⟨w.heap.size + 1 + 1 + 1, 3, none⟩ = some (.int .i64 0) := B3_1.c 3 (of_decide_eq_true rfl)
  have c2_B3_4 : w1.cell? ⟨w.heap.size + 1 + 1 + 1, 4, none⟩ = some (.int .i64 0) := B3_1.c 4 (of_decide_eq_true rfl)
  have c2_B3_5 : w1.cell? ⟨w.heap.size + 1 + 1 + 1, 5, none⟩ = some (.int .i64 0) := B3_1.c 5 (of_decide_eq_true rfl)
  have g2_B2_0 := B2_1.f 0 (of_decide_eq_true rfl)
  have g2_B2_1 := B2_1.f 1 (of_decide_eq_true rfl)
  have g2_B2_2 := B2_1.f 2 (of_decide_eq_true rfl)
  have g2_B2_3 := B2_1.f 3 (of_decide_eq_true rfl)
  have g2_B2_4 := B2_1.f 4 (of_decide_eq_true rfl)
  have g2_B2_5 := B2_1.f 5 (of_decide_eq_true rfl)
  go_wp2_with (with_reducible refine post_stop ?_)
  refine Stop.mk ?_
  clear c2_B2_0 c2_B2_1 c2_B2_2 c2_B2_3 c2_B2_4 c2_B2_5 c2_B3_0 c2_B3_1 c2_B3_2 c2_B3_3 c2_B3_4 c2_B3_5 g2_B2_0 g2_B2_1 g2_B2_2 g2_B2_3 g2_B2_4 g2_B2_5
  refine bodyPost_ret (v := .agg #[.int .i64 0, .int .i64 0, .int .i64 0, .int .i64 0, .int .i64 0, .int .i64 0]) (results_arr Try.results16 ((((((B2_1.put 0 (of_decide_eq_true rfl) (.int .i64 0) [.int .i64 0, .int .i64 0, .int .i64 0, .int .i64 0, .int .i64 0, .int .i64 0] rfl).put 1 (of_decide_eq_true rfl) (.int .i64 0) [.int .i64 0, .int .i64 0, .int .i64 0, .int .i64 0, .int .i64 0, .int .i64 0] rfl).put 2 (of_decide_eq_true rfl) (.int .i64 0) [.int .i64 0, .int .i64 0, .int .i64 0, .int .i64 0, .int .i64 0, .int .i64 0] rfl).put 3 (of_decide_eq_true rfl) (.int .i64 0) [.int .i64 0, .int .i64 0, .int .i64 0, .int .i64 0, .int .i64 0, .int .i64 0] rfl).put 4 (of_decide_eq_true rfl) (.int .i64 0) [.int .i64 0, .int .i64 0, .int .i64 0, .int .i64 0, .int .i64 0, .int .i64 0] rfl).put 5 (of_decide_eq_true rfl) (.int .i64 0) [.int .i64 0, .int .i64 0, .int .i64 0, .int .i64 0, .int .i64 0, .int .i64 0] rfl) rfl (by kernel_rfl) (by kernel_rfl)) rfl ?_
  have hs : mApplyNS bad m p n = ((fun _ => 0), true) := rfl
  rw [hs]
  exact ⟨rfl, ((((((f1.new (w.heap.size + 1 + 1) 0 (Nat.ne_of_lt y3_BF) (.int .i64 0)).new (w.heap.size + 1 + 1) 1 (Nat.ne_of_lt y3_BF) (.int .i64 0)).new (w.heap.size + 1 + 1) 2 (Nat.ne_of_lt y3_BF) (.int .i64 0)).new (w.heap.size + 1 + 1) 3 (Nat.ne_of_lt y3_BF) (.int .i64 0)).new (w.heap.size + 1 + 1) 4 (Nat.ne_of_lt y3_BF) (.int .i64 0)).new (w.heap.size + 1 + 1) 5 (Nat.ne_of_lt y3_BF) (.int .i64 0)), ((((((K1.new _ _ (by omega) _).new _ _ (by omega) _).new _ _ (by omega) _).new _ _ (by omega) _).new _ _ (by omega) _).new _ _ (by omega) _)⟩
end Go.Proofs.Ytcnbcdnjogopdaa
