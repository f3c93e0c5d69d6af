/-
  Walks of package mat, for the seat Ytcnbcdnjogopdaa. (Made by mkmat.py.)
-/
import Derived.Test.YtcnbcdnjogopdaaASpec
import Derived.Test.YtcnbcdnjogopdaaMeth
import Derived.Handy
import Derived.Deep.RegionHeld3
namespace Go.Proofs.Ytcnbcdnjogopdaa
open Go.RowKit

set_option maxRecDepth 100000 in
set_option maxHeartbeats 2000000 in
theorem mfits_any (b : Nat) (bad : Bool) (n : Int) (w : World) (hw : Fl b bad w) :
    Calls Try.prog 19 #[.pointer (some ⟨b, 0, none⟩), .int .i64 n] w fun e w' => e = .returned (.bool ((mfitsS bad n).1)) ∧ Fl b (mfitsS bad n).2 w' ∧ Kept b w w' := by
  have hl := hw.lies
  go_enter Try.func19, Try.ntmps19
  by_cases hc1 : n < 1
  · have Hhc1 : Hid (n < 1) := hc1
    go_wp2_with fail
    refine (Fail_any b bad  _ hw).mono ?_
    rintro e w1 ⟨rfl, f1, k1⟩
    have K1 : Kept b w w1 := Kept.trans (Kept.refl b w) k1
    have z1 := K1.size
    clear k1
    go_wp2
    go_ret
    have hs : mfitsS bad n = (false, true) := by unfold mfitsS; rw [if_pos (by have := Hhc1.out; omega)]
    rw [hs]
    exact ⟨rfl, f1, K1⟩
  · have Hhc1 : Hid (¬ n < 1) := hc1
    by_cases hc2 : n > 6
    · have Hhc2 : Hid (n > 6) := hc2
      go_wp2_with fail
      refine (Fail_any b bad  _ hw).mono ?_
      rintro e w1 ⟨rfl, f1, k1⟩
      have K1 : Kept b w w1 := Kept.trans (Kept.refl b w) k1
      have z1 := K1.size
      clear k1
      go_wp2
      go_ret
      have hs : mfitsS bad n = (false, true) := by unfold mfitsS; rw [if_neg (by have := Hhc1.out; omega)]; rw [if_pos (by have := Hhc2.out; omega)]
      rw [hs]
      exact ⟨rfl, f1, K1⟩
    · have Hhc2 : Hid (¬ n > 6) := hc2
      go_wp2
      go_ret
      have hs : mfitsS bad n = (true, bad) := by unfold mfitsS; rw [if_neg (by have := Hhc1.out; omega)]; rw [if_neg (by have := Hhc2.out; omega)]
      rw [hs]
      exact ⟨rfl, hw, (Kept.refl b w)⟩
set_option maxRecDepth 100000 in
set_option maxHeartbeats 2000000 in
theorem mpivot_any (b : Nat) (bad : Bool) (s : Int) (w : World) (hw : Fl b bad w) :
    Calls Try.prog 22 #[.pointer (some ⟨b, 0, none⟩), .int .i64 s] w fun e w' => e = .returned (.int .i64 ((mpivotS bad s).1)) ∧ Fl b (mpivotS bad s).2 w' ∧ Kept b w w' := by
  have hl := hw.lies
  go_enter Try.func22, Try.ntmps22
  by_cases hc1 : s < 1
  · have Hhc1 : Hid (s < 1) := hc1
    go_wp2_with fail
    refine (Fail_any b bad  _ hw).mono ?_
    rintro e w1 ⟨rfl, f1, k1⟩
    have K1 : Kept b w w1 := Kept.trans (Kept.refl b w) k1
    have z1 := K1.size
    clear k1
    go_wp2_with fail
    refine (Sqrt_any b true s _ f1).mono ?_
    rintro e w2 ⟨rfl, f2, k2⟩
    generalize e2 : sqrtS true s = r2 at f2 ⊢
    have E2 : Hid _ := e2
    clear e2
    have K2 : Kept b w w2 := Kept.trans K1 k2
    have z2 := K2.size
    clear K1 f1 k2
    go_wp2
    go_ret
    have hs : mpivotS bad s = (r2.1, r2.2) := by unfold mpivotS; simp only [E2.out]; rw [if_pos (by have := Hhc1.out; omega)]
    rw [hs]
    exact ⟨rfl, f2, K2⟩
  · have Hhc1 : Hid (¬ s < 1) := hc1
    go_wp2_with fail
    refine (Sqrt_any b bad s _ hw).mono ?_
    rintro e w1 ⟨rfl, f1, k1⟩
    generalize e1 : sqrtS bad s = r1 at f1 ⊢
    have E1 : Hid _ := e1
    clear e1
    have K1 : Kept b w w1 := Kept.trans (Kept.refl b w) k1
    have z1 := K1.size
    clear k1
    go_wp2
    go_ret
    have hs : mpivotS bad s = (r1.1, r1.2) := by unfold mpivotS; simp only [E1.out]; rw [if_neg (by have := Hhc1.out; omega)]
    rw [hs]
    exact ⟨rfl, f1, K1⟩
set_option maxRecDepth 100000 in
set_option maxHeartbeats 2000000 in
theorem msoundR_any (b : Nat) (bad : Bool) (g : Nat → Int) (w : World) (hw : Fl b bad w) :
    Calls Try.prog 34 #[.pointer (some ⟨b, 0, none⟩), .agg (row 6 g).toArray] w fun e w' => e = .returned (.agg (row 6 ((msoundRS bad g).1)).toArray) ∧ Fl b (msoundRS bad g).2 w' ∧ Kept b w w' := by
  have hl := hw.lies
  go_enter Try.func34, Try.ntmps34
  have y1_BF : b < w.heap.size := hw.lies
  have y2_BF : b < w.heap.size + 1 := (Nat.lt_succ_of_lt hw.lies)
  have y2_B0 : w.heap.size < w.heap.size + 1 := (Nat.lt_succ_self _)
  rcases Bool.eq_false_or_eq_true bad with hc1 | hc1
  · have Hhc1 : Hid (bad = true) := hc1
    have y3_BF : b < w.heap.size + 1 + 1 := (Nat.lt_succ_of_lt (Nat.lt_succ_of_lt hw.lies))
    have y3_B0 : w.heap.size < w.heap.size + 1 + 1 := (Nat.lt_succ_of_lt (Nat.lt_succ_self _))
    have y3_B1 : w.heap.size + 1 < w.heap.size + 1 + 1 := (Nat.lt_succ_self _)
    have c1_BF := hw.cell
    have l1_BF := hw.lies
    go_wp2_with (with_reducible refine post_stop ?_)
    refine Stop.mk ?_
    clear c1_BF l1_BF
    refine bodyPost_ret (v := .agg #[.int .i64 0, .int .i64 0, .int .i64 0, .int .i64 0, .int .i64 0, .int .i64 0]) (results_arr Try.results34 ((Arr_at _ _ [.int .i64 0, .int .i64 0, .int .i64 0, .int .i64 0, .int .i64 0, .int .i64 0] _ (by simp)).alloc _) rfl (by kernel_rfl) (by kernel_rfl)) rfl ?_
    have hs : msoundRS bad g = ((fun _ => 0), bad) := by unfold msoundRS; rw [if_pos Hhc1.out]
    first | (rw [hs]; exact ⟨rfl, (((hw.alloc _).alloc _).alloc _), ((((Kept.refl b w).al _).al _).al _)⟩) | (have hfl := (((hw.alloc _).alloc _).alloc _); rw [Hhc1.out] at hs hfl; rw [hs]; exact ⟨rfl, hfl, ((((Kept.refl b w).al _).al _).al _)⟩)
  · have Hhc1 : Hid (bad = false) := hc1
    have c1_BF := hw.cell
    have l1_BF := hw.lies
    go_wp2_with (first | (refine row_load rfl rfl rfl ((Arr_at _ _ (row 6 g) _ (by simp)).alloc _) (by kernel_rfl) (by rw [row_len]; kernel_rfl) ?_) | (refine store_stop rfl (by kernel_rfl) ?_))
    clear c1_BF l1_BF
    refine Stop.mk (store_row (l' := row 6 g) rfl rfl rfl rfl (Arr_at _ _ [.int .i64 0, .int .i64 0, .int .i64 0, .int .i64 0, .int .i64 0, .int .i64 0] _ (by simp)) (by rw [row_len]; rfl) (by rw [row_len]; kernel_rfl) (row_one _ _) ?_)
    intro w1 B1_1 o1
    have K1 : Kept b w w1 := Kept.off (((Kept.refl b w).al _).al _) o1 (by omega)
    have BF_1 : Fl b bad w1 := ((hw.alloc _).alloc _).off o1 (Nat.ne_of_lt y2_BF)
    have B0_1 : Arr w.heap.size (row 6 g) w1 := ((Arr_at _ _ (row 6 g) _ (by simp)).alloc _).off o1 (Nat.ne_of_lt y2_B0)
    have z1_B1 := B1_1.lies
    have z1_BF := BF_1.lies
    have z1_B0 := B0_1.lies
    clear o1
    go_wp2_with (with_reducible refine post_stop ?_)
    refine Stop.mk ?_
    refine bodyPost_ret (v := .agg (row 6 g).toArray) (results_arr Try.results34 B1_1 rfl (by kernel_rfl) (by rw [row_len]; kernel_rfl)) rfl ?_
    have hs : msoundRS bad g = (g, bad) := by unfold msoundRS; rw [if_neg (by rw [Hhc1.out]; decide)]
    first | (rw [hs]; exact ⟨rfl, BF_1, K1⟩) | (have hfl := BF_1; rw [Hhc1.out] at hs hfl; rw [hs]; exact ⟨rfl, hfl, K1⟩)
end Go.Proofs.Ytcnbcdnjogopdaa
