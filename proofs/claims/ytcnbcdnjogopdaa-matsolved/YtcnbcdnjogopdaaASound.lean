/-
  Walks of package mat, for the seat Ytcnbcdnjogopdaa. (Made by mkmat.py.)
-/
import Derived.Test.YtcnbcdnjogopdaaASpec
import Derived.Test.YtcnbcdnjogopdaaMeth
import Derived.Handy
import Derived.Deep.RegionHeld3
namespace Go.Proofs.Ytcnbcdnjogopdaa
open Go.RowKit

set_option maxRecDepth 100000 in
set_option maxHeartbeats 2000000 in
theorem msoundM_any (b : Nat) (bad : Bool) (g : Nat → Int) (w : World) (hw : Fl b bad w) :
    Calls Try.prog 23 #[.pointer (some ⟨b, 0, none⟩), .agg (row 36 g).toArray] w fun e w' => e = .returned (.agg (row 36 ((msoundMS bad g).1)).toArray) ∧ Fl b (msoundMS bad g).2 w' ∧ Kept b w w' := by
  have hl := hw.lies
  go_enter Try.func23, Try.ntmps23
  have y1_BF : b < w.heap.size := hw.lies
  have y2_BF : b < w.heap.size + 1 := (Nat.lt_succ_of_lt hw.lies)
  have y2_B0 : w.heap.size < w.heap.size + 1 := (Nat.lt_succ_self _)
  rcases Bool.eq_false_or_eq_true bad with hc1 | hc1
  · have Hhc1 : Hid (bad = true) := hc1
    have y3_BF : b < w.heap.size + 1 + 1 := (Nat.lt_succ_of_lt (Nat.lt_succ_of_lt hw.lies))
    have y3_B0 : w.heap.size < w.heap.size + 1 + 1 := (Nat.lt_succ_of_lt (Nat.lt_succ_self _))
    have y3_B1 : w.heap.size + 1 < w.heap.size + 1 + 1 := (Nat.lt_succ_self _)
    have c1_BF := hw.cell
    have l1_BF := hw.lies
    go_wp2_with (first | (refine row_load rfl rfl rfl (Arr_at _ _ (row 36 (fun _ => 0)) _ (by simp)) (by kernel_rfl) (by rw [row_len]; kernel_rfl) ?_) | (refine store_stop rfl (by kernel_rfl) ?_))
    clear c1_BF l1_BF
    refine Stop.mk (store_row (l' := row 36 (fun _ => 0)) rfl rfl rfl rfl ((Arr_at _ _ (row 36 (fun _ => 0)) _ (by simp)).alloc _) (by simp only [row_len]) (by rw [row_len]; kernel_rfl) (row_one _ _) ?_)
    intro w1 B1_1 o1
    have K1 : Kept b w w1 := Kept.off ((((Kept.refl b w).al _).al _).al _) o1 (by omega)
    have BF_1 : Fl b bad w1 := (((hw.alloc _).alloc _).alloc _).off o1 (Nat.ne_of_lt y2_BF)
    have B0_1 : Arr w.heap.size (row 36 g) w1 := (((Arr_at _ _ (row 36 g) _ (by simp)).alloc _).alloc _).off o1 (Nat.ne_of_lt y2_B0)
    have B2_1 : Arr (w.heap.size + 1 + 1) (row 36 (fun _ => 0)) w1 := (Arr_at _ _ (row 36 (fun _ => 0)) _ (by simp)).off o1 (Nat.ne_of_gt y3_B1)
    have z1_B1 := B1_1.lies
    have z1_BF := BF_1.lies
    have z1_B0 := B0_1.lies
    have z1_B2 := B2_1.lies
    clear o1
    go_wp2_with (with_reducible refine post_stop ?_)
    refine Stop.mk ?_
    refine bodyPost_ret (v := .agg (row 36 (fun _ => 0)).toArray) (results_arr Try.results23 B1_1 rfl (by kernel_rfl) (by rw [row_len]; kernel_rfl)) rfl ?_
    have hs : msoundMS bad g = ((fun _ => 0), bad) := by unfold msoundMS; rw [if_pos Hhc1.out]
    first | (rw [hs]; exact ⟨rfl, BF_1, K1⟩) | (have hfl := BF_1; rw [Hhc1.out] at hs hfl; rw [hs]; exact ⟨rfl, hfl, K1⟩)
  · have Hhc1 : Hid (bad = false) := hc1
    have c1_BF := hw.cell
    have l1_BF := hw.lies
    go_wp2_with (first | (refine row_load rfl rfl rfl ((Arr_at _ _ (row 36 g) _ (by simp)).alloc _) (by kernel_rfl) (by rw [row_len]; kernel_rfl) ?_) | (refine store_stop rfl (by kernel_rfl) ?_))
    clear c1_BF l1_BF
    refine Stop.mk (store_row (l' := row 36 g) rfl rfl rfl rfl (Arr_at _ _ (row 36 (fun _ => 0)) _ (by simp)) (by simp only [row_len]) (by rw [row_len]; kernel_rfl) (row_one _ _) ?_)
    intro w1 B1_1 o1
    have K1 : Kept b w w1 := Kept.off (((Kept.refl b w).al _).al _) o1 (by omega)
    have BF_1 : Fl b bad w1 := ((hw.alloc _).alloc _).off o1 (Nat.ne_of_lt y2_BF)
    have B0_1 : Arr w.heap.size (row 36 g) w1 := ((Arr_at _ _ (row 36 g) _ (by simp)).alloc _).off o1 (Nat.ne_of_lt y2_B0)
    have z1_B1 := B1_1.lies
    have z1_BF := BF_1.lies
    have z1_B0 := B0_1.lies
    clear o1
    go_wp2_with (with_reducible refine post_stop ?_)
    refine Stop.mk ?_
    refine bodyPost_ret (v := .agg (row 36 g).toArray) (results_arr Try.results23 B1_1 rfl (by kernel_rfl) (by rw [row_len]; kernel_rfl)) rfl ?_
    have hs : msoundMS bad g = (g, bad) := by unfold msoundMS; rw [if_neg (by rw [Hhc1.out]; decide)]
    first | (rw [hs]; exact ⟨rfl, BF_1, K1⟩) | (have hfl := BF_1; rw [Hhc1.out] at hs hfl; rw [hs]; exact ⟨rfl, hfl, K1⟩)
end Go.Proofs.Ytcnbcdnjogopdaa
