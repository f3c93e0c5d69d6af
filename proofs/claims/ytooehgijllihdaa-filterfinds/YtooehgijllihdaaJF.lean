/- A part. -/
import Derived.Test.YtooehgijllihdaaJS
import Derived.Test.YtooehgijllihdaaJD
import Derived.Handy
import Derived.Deep.RegionHeld3
namespace Go.Proofs.Ytooehgijllihdaa
open Go.RowKit
set_option maxRecDepth 100000
set_option maxHeartbeats 20000000
theorem mfits_any (b : Nat) (bad : Bool) (n : Int) (w : World) (hw : Fl b bad w) :
  Calls Try.prog 67 #[.pointer (some ⟨b, 0, none⟩), .int .i64 n] w fun e w' => e = .returned (.bool ((mfitsS bad n).1)) ∧ Fl b (mfitsS bad n).2 w' ∧ Kept b w w' := by
 have hl := hw.lies
 go_enter Try.func67, Try.ntmps67
 by_cases hc1 : n < 1
 ·have Hhc1 : Hid (n < 1) := hc1
  go_wp2_with fail
  refine (Fail_any b bad  _ hw).mono ?_
  rintro e w1 ⟨rfl, f1, k1⟩
  have K1 : Kept b w w1 := Kept.trans (Kept.refl b w) k1
  have z1 := K1.size
  clear k1
  go_wp2
  go_ret
  have hs : mfitsS bad n = (false, true) := by unfold mfitsS; rw [if_pos (by have := Hhc1.out; omega)]
  rw [hs]
  exact ⟨rfl, f1, K1⟩
 ·have Hhc1 : Hid (¬ n < 1) := hc1
  by_cases hc2 : n > 6
  ·have Hhc2 : Hid (n > 6) := hc2
   go_wp2_with fail
   refine (Fail_any b bad  _ hw).mono ?_
   rintro e w1 ⟨rfl, f1, k1⟩
   have K1 : Kept b w w1 := Kept.trans (Kept.refl b w) k1
   have z1 := K1.size
   clear k1
   go_wp2
   go_ret
   have hs : mfitsS bad n = (false, true) := by unfold mfitsS; rw [if_neg (by have := Hhc1.out; omega)]; rw [if_pos (by have := Hhc2.out; omega)]
   rw [hs]
   exact ⟨rfl, f1, K1⟩
  ·have Hhc2 : Hid (¬ n > 6) := hc2
   go_wp2
   go_ret
   have hs : mfitsS bad n = (true, bad) := by unfold mfitsS; rw [if_neg (by have := Hhc1.out; omega)]; rw [if_neg (by have := Hhc2.out; omega)]
   rw [hs]
   exact ⟨rfl, hw, (Kept.refl b w)⟩
theorem mpivot_any (b : Nat) (bad : Bool) (s : Int) (w : World) (hw : Fl b bad w) :
  Calls Try.prog 69 #[.pointer (some ⟨b, 0, none⟩), .int .i64 s] w fun e w' => e = .returned (.int .i64 ((mpivotS bad s).1)) ∧ Fl b (mpivotS bad s).2 w' ∧ Kept b w w' := by
 have hl := hw.lies
 go_enter Try.func69, Try.ntmps69
 by_cases hc1 : s < 1
 ·have Hhc1 : Hid (s < 1) := hc1
  go_wp2_with fail
  refine (Fail_any b bad  _ hw).mono ?_
  rintro e w1 ⟨rfl, f1, k1⟩
  have K1 : Kept b w w1 := Kept.trans (Kept.refl b w) k1
  have z1 := K1.size
  clear k1
  go_wp2_with fail
  refine (Sqrt_any b true s _ f1).mono ?_
  rintro e w2 ⟨rfl, f2, k2⟩
  generalize e2 : sqrtS true s = r2 at f2 ⊢
  have E2 : Hid _ := e2
  clear e2
  have K2 := Kept.trans K1 k2
  have z2 := K2.size
  clear K1 f1 k2
  go_wp2
  go_ret
  have hs : mpivotS bad s = (r2.1, r2.2) := by unfold mpivotS; simp only [E2.out]; rw [if_pos (by have := Hhc1.out; omega)]
  rw [hs]
  exact ⟨rfl, f2, K2⟩
 ·have Hhc1 : Hid (¬ s < 1) := hc1
  go_wp2_with fail
  refine (Sqrt_any b bad s _ hw).mono ?_
  rintro e w1 ⟨rfl, f1, k1⟩
  generalize e1 : sqrtS bad s = r1 at f1 ⊢
  have E1 : Hid _ := e1
  clear e1
  have K1 : Kept b w w1 := Kept.trans (Kept.refl b w) k1
  have z1 := K1.size
  clear k1
  go_wp2
  go_ret
  have hs : mpivotS bad s = (r1.1, r1.2) := by unfold mpivotS; simp only [E1.out]; rw [if_neg (by have := Hhc1.out; omega)]
  rw [hs]
  exact ⟨rfl, f1, K1⟩
theorem msoundR_any (b : Nat) (bad : Bool) (g : Nat → Int) (w : World) (hw : Fl b bad w) :
  Calls Try.prog 72 #[.pointer (some ⟨b, 0, none⟩), .agg (row 6 g).toArray] w fun e w' => e = .returned (.agg (row 6 ((msoundRS bad g).1)).toArray) ∧ Fl b (msoundRS bad g).2 w' ∧ Kept b w w' := by
 have hl := hw.lies
 go_enter Try.func72, Try.ntmps72
 have y1_BF := hw.lies
 have y2_BF : b < w.heap.size + 1 := (Nat.lt_succ_of_lt hw.lies)
 have y2_B0 : w.heap.size < w.heap.size + 1 := by omega
 rcases Bool.eq_false_or_eq_true bad with hc1 | hc1
 ·have Hhc1 : Hid (bad = true) := hc1
  have y3_BF : b < w.heap.size + 1 + 1 := (Nat.lt_succ_of_lt (Nat.lt_succ_of_lt hw.lies))
  have y3_B0 : w.heap.size < w.heap.size + 1 + 1 := by omega
  have y3_B1 : w.heap.size + 1 < w.heap.size + 1 + 1 := by omega
  have c1_BF := hw.cell
  have l1_BF := hw.lies
  go_wp2_with (with_reducible refine post_stop ?_)
  refine Stop.mk ?_
  clear c1_BF l1_BF
  refine bodyPost_ret (v := .agg #[.int .i64 0, .int .i64 0, .int .i64 0, .int .i64 0, .int .i64 0, .int .i64 0]) (results_arr Try.results72 ((Arr_at _ _ [.int .i64 0, .int .i64 0, .int .i64 0, .int .i64 0, .int .i64 0, .int .i64 0] _ (by simp)).alloc _) rfl (by kernel_rfl) (by kernel_rfl)) rfl ?_
  have hs : msoundRS bad g = ((fun _ => 0), bad) := by unfold msoundRS; rw [if_pos Hhc1.out]
  first | (rw [hs]; exact ⟨rfl, (((hw.alloc _).alloc _).alloc _), ((((Kept.refl b w).al _).al _).al _)⟩) | (have hfl := (((hw.alloc _).alloc _).alloc _); rw [Hhc1.out] at hs hfl; rw [hs]; exact ⟨rfl, hfl, ((((Kept.refl b w).al _).al _).al _)⟩)
 ·have Hhc1 : Hid (bad = false) := hc1
  have c1_BF := hw.cell
  have l1_BF := hw.lies
  go_wp2_with (first | (refine row_load rfl rfl rfl ((Arr_at _ _ (row 6 g) _ (by simp)).alloc _) (by kernel_rfl) (by rw [row_len]; kernel_rfl) ?_) | (refine store_stop rfl (by kernel_rfl) ?_))
  clear c1_BF l1_BF
  refine Stop.mk (store_row (l' := row 6 g) rfl rfl rfl rfl (Arr_at _ _ [.int .i64 0, .int .i64 0, .int .i64 0, .int .i64 0, .int .i64 0, .int .i64 0] _ (by simp)) (by rw [row_len]; rfl) (by rw [row_len]; kernel_rfl) (row_one _ _) ?_)
  intro w1 B1_1 o1
  have K1 : Kept b w w1 := Kept.off (((Kept.refl b w).al _).al _) o1 (by omega)
  have BF_1 := ((hw.alloc _).alloc _).off o1 (zL y2_BF)
  have B0_1 := ((Arr_at _ w.heap.size (row 6 g) _ (by simp)).alloc _).off o1 (zL y2_B0)
  have z1_B1 := B1_1.lies
  have z1_BF := BF_1.lies
  have z1_B0 := B0_1.lies
  clear o1
  go_wp2_with (with_reducible refine post_stop ?_)
  refine Stop.mk ?_
  refine bodyPost_ret (v := .agg (row 6 g).toArray) (results_arr Try.results72 B1_1 rfl (by kernel_rfl) (by rw [row_len]; kernel_rfl)) rfl ?_
  have hs : msoundRS bad g = (g, bad) := by unfold msoundRS; rw [if_neg (by rw [Hhc1.out]; decide)]
  first | (rw [hs]; exact ⟨rfl, BF_1, K1⟩) | (have hfl := BF_1; rw [Hhc1.out] at hs hfl; rw [hs]; exact ⟨rfl, hfl, K1⟩)
end Go.Proofs.Ytooehgijllihdaa
namespace Go.Proofs.Ytooehgijllihdaa
open Go.RowKit
set_option maxRecDepth 100000
set_option maxHeartbeats 20000000
theorem mless_any (b : Nat) (bad : Bool) (s : Int) (p : Nat → Int) (q : Nat → Int) (n : Nat) (w : World) (hw : Fl b bad w) (h6 : n ≤ 6) :
  Calls Try.prog 68 #[.pointer (some ⟨b, 0, none⟩), .int .i64 s, .agg (row 6 p).toArray, .agg (row 6 q).toArray, .int .i64 (n : Int)] w fun e w' => e = .returned (.int .i64 ((mlessS bad s p q n).1)) ∧ Fl b (mlessS bad s p q n).2 w' ∧ Kept b w w' := by
 have hl := hw.lies
 go_enter Try.func68, Try.ntmps68
 have y1_BF := hw.lies
 have y2_BF : b < w.heap.size + 1 := (Nat.lt_succ_of_lt hw.lies)
 have y2_B0 : w.heap.size < w.heap.size + 1 := by omega
 go_wp2_with fail
 obtain ⟨J0, hJ0⟩ : ∃ J : Nat → Act → World → Prop, Hid (J = fun k a Wl0 => ∀ G_ : Prop, (∀ (s0 : Int × Bool) (m2 m3 m4 m5 m6 m9 m10 m11 m14 m15 m16 m17 m18 m19 m20 m21 m22 m23 m24 m25 m26 m27 m28 : Value), Hid (mlessS_l0 p q (s, bad) k = s0) → a = { tmps := #[.pointer (some ⟨b, 0, none⟩), .int .i64 s0.1, m2, m3, m4, m5, m6, .pointer (some ⟨w.heap.size, 0, none⟩), .pointer (some ⟨w.heap.size + 1, 0, none⟩), m9, m10, m11, .int .i64 (n : Int), .int .i64 (k : Int), m14, m15, m16, m17, m18, m19, m20, m21, m22, m23, m24, m25, m26, m27, m28], defers := [] } → Kept b w Wl0 → Fl b s0.2 Wl0 → Arr w.heap.size (row 6 p) Wl0 → Arr (w.heap.size + 1) (row 6 q) Wl0 → G_) → G_) := ⟨_, rfl⟩
 refine rounds_up J0 n ?_ ?_ ?_
 ·rw [hJ0.out]
  intro G_ hG_
  exact hG_ (s, bad) _ _ _ _ _ _ _ _ _ _ _ _ _ _ _ _ _ _ _ _ _ _ _ rfl rfl (((Kept.refl b w).al _).al _) ((hw.alloc _).alloc _) ((Arr_at _ _ (row 6 p) _ (by simp)).alloc _) (Arr_at _ _ (row 6 q) _ (by simp))
 ·intro k a Wl0 hk hI R hR
  rw [hJ0.out] at hI
  refine hI _ ?_
  clear hI
  intro s0 m2 m3 m4 m5 m6 m9 m10 m11 m14 m15 m16 m17 m18 m19 m20 m21 m22 m23 m24 m25 m26 m27 m28 El0 ea Kl0 BF_l0 B0_l0 B1_l0
  subst ea
  have zl0_BF := BF_l0.lies
  have zl0_B0 := B0_l0.lies
  have zl0_B1 := B1_l0.lies
  go_wp2_with fail
  refine wp_region_held_drew (S := fun w' => Arr w.heap.size (row 6 p) w' ∧ Arr (w.heap.size + 1) (row 6 q) w') (by kernel_rfl) ⟨B0_l0.drew, B1_l0.drew⟩ (fun zH => ?_)
  refine zT 0 rfl (by kernel_rfl) (fun _ _ _ => id) rfl (fun _ _ => by go_simp <;> with_reducible rfl) zH ?_
  simp only [Act.put, zA, zB, zC]
  refine zT 1 rfl (by kernel_rfl) (fun _ _ _ => id) rfl (fun _ _ => by go_simp <;> with_reducible rfl) zH ?_
  simp only [Act.put, zA, zB, zC]
  refine zT 2 rfl (by kernel_rfl) (fun _ _ _ => id) rfl (fun _ _ => by go_simp <;> with_reducible rfl) zH ?_
  simp only [Act.put, zA, zB, zC]
  refine zT 3 rfl (by kernel_rfl) (fun _ _ _ => id) rfl (fun _ _ => by go_simp <;> with_reducible rfl) zH ?_
  simp only [Act.put, zA, zB, zC]
  refine zT 4 rfl (by kernel_rfl) (fun _ _ _ => id) rfl (fun _ _ => by have hi0 : (k : Int) < 6 := (by omega); go_simp <;> with_reducible rfl) zH ?_
  simp only [Act.put, zA, zB, zC]
  refine zT 5 rfl (by kernel_rfl) (fun _ _ _ => id) rfl (fun wx hS => by have hc0 : wx.cell? ⟨w.heap.size, k, none⟩ = some (.int .i64 (p k)) := row_c hS.1 k (by omega); go_simp <;> with_reducible rfl) zH ?_
  simp only [Act.put, zA, zB, zC]
  refine zT 6 rfl (by kernel_rfl) (fun _ _ _ => id) rfl (fun _ _ => by go_simp <;> with_reducible rfl) zH ?_
  simp only [Act.put, zA, zB, zC]
  refine zT 7 rfl (by kernel_rfl) (fun _ _ _ => id) rfl (fun _ _ => by have hi0 : (k : Int) < 6 := (by omega); go_simp <;> with_reducible rfl) zH ?_
  simp only [Act.put, zA, zB, zC]
  refine zT 8 rfl (by kernel_rfl) (fun _ _ _ => id) rfl (fun wx hS => by have hc0 : wx.cell? ⟨w.heap.size + 1, k, none⟩ = some (.int .i64 (q k)) := row_c hS.2 k (by omega); go_simp <;> with_reducible rfl) zH ?_
  simp only [Act.put, zA, zB, zC]
  refine zK 9 (by kernel_rfl) rfl (fun K hK => ?_)
  go_simp
  refine (Mul_any b s0.2 (p k) (q k) _ BF_l0.drew).mono ?_
  rintro e w1 ⟨rfl, f1, k1⟩
  generalize e1 : mulS s0.2 (p k) (q k) = r1 at f1 ⊢
  have E1 : Hid _ := e1
  clear e1
  have K1 : Kept b w w1 := Kept.trans Kl0.drew k1
  have B0_1 := B0_l0.drew.kept k1 (zG y1_BF)
  have B1_1 := B1_l0.drew.kept k1 (zG y2_BF)
  have z1 := B1_1.lies
  clear zH
  refine hK.out _ _ ⟨B0_1, B1_1⟩ (fun zH => ?_)
  clear hK K BF_l0 B0_l0 B1_l0 k1
  refine zK 10 (by kernel_rfl) rfl (fun K hK => ?_)
  go_simp
  refine (Sub_any b r1.2 s0.1 r1.1 _ f1).mono ?_
  rintro e w2 ⟨rfl, f2, k2⟩
  generalize e2 : subS r1.2 s0.1 r1.1 = r2 at f2 ⊢
  have E2 : Hid _ := e2
  clear e2
  have K2 := Kept.trans K1 k2
  have B0_2 := B0_1.kept k2 (zG y1_BF)
  have B1_2 := B1_1.kept k2 (zG y2_BF)
  have z2 := B1_2.lies
  clear zH
  refine hK.out _ _ ⟨B0_2, B1_2⟩ (fun zH => ?_)
  clear hK K K1 f1 B0_1 B1_1 k2
  refine zT 11 rfl (by kernel_rfl) (fun _ _ _ => id) rfl (fun _ _ => by go_simp <;> with_reducible rfl) zH ?_
  simp only [Act.put, zA, zB, zC]
  refine wpAnyH_done (by kernel_rfl) ?_ _
  clear zH
  go_wp2_with fail
  have hs0 : Hid (mlessS_l0 p q (s, bad) (k + 1) = (r2.1, r2.2)) := by show _ = _; unfold mlessS_l0; simp only [El0.out, E1.out, E2.out]
  rw [hJ0.out]
  intro G_ hG_
  exact hG_ (r2.1, r2.2) _ _ _ _ _ _ _ _ _ _ _ _ _ _ _ _ _ _ _ _ _ _ _ hs0 rfl K2 f2 B0_2 B1_2
 ·intro a Wl0 hI R
  rw [hJ0.out] at hI
  refine hI _ ?_
  clear hI hJ0
  intro r3 m2 m3 m4 m5 m6 m9 m10 m11 m14 m15 m16 m17 m18 m19 m20 m21 m22 m23 m24 m25 m26 m27 m28 E3 ea Kl0 BF_l0 B0_l0 B1_l0
  subst ea
  have zl0_BF := BF_l0.lies
  have zl0_B0 := B0_l0.lies
  have zl0_B1 := B1_l0.lies
  go_wp2
  go_ret
  have hs : mlessS bad s p q n = (r3.1, r3.2) := by unfold mlessS; simp only [E3.out]
  rw [hs]
  exact ⟨rfl, BF_l0, Kl0⟩
end Go.Proofs.Ytooehgijllihdaa
namespace Go.Proofs.Ytooehgijllihdaa
open Go.RowKit
set_option maxRecDepth 100000
set_option maxHeartbeats 20000000
theorem msoundM_any (b : Nat) (bad : Bool) (g : Nat → Int) (w : World) (hw : Fl b bad w) :
  Calls Try.prog 70 #[.pointer (some ⟨b, 0, none⟩), .agg (row 36 g).toArray] w fun e w' => e = .returned (.agg (row 36 ((msoundMS bad g).1)).toArray) ∧ Fl b (msoundMS bad g).2 w' ∧ Kept b w w' := by
 have hl := hw.lies
 go_enter Try.func70, Try.ntmps70
 have y1_BF := hw.lies
 have y2_BF : b < w.heap.size + 1 := (Nat.lt_succ_of_lt hw.lies)
 have y2_B0 : w.heap.size < w.heap.size + 1 := by omega
 rcases Bool.eq_false_or_eq_true bad with hc1 | hc1
 ·have Hhc1 : Hid (bad = true) := hc1
  have y3_BF : b < w.heap.size + 1 + 1 := (Nat.lt_succ_of_lt (Nat.lt_succ_of_lt hw.lies))
  have y3_B0 : w.heap.size < w.heap.size + 1 + 1 := by omega
  have y3_B1 : w.heap.size + 1 < w.heap.size + 1 + 1 := by omega
  have c1_BF := hw.cell
  have l1_BF := hw.lies
  go_wp2_with (first | (refine row_load rfl rfl rfl (Arr_at _ _ (row 36 (fun _ => 0)) _ (by simp)) (by kernel_rfl) (by rw [row_len]; kernel_rfl) ?_) | (refine store_stop rfl (by kernel_rfl) ?_))
  clear c1_BF l1_BF
  refine Stop.mk (store_row (l' := row 36 (fun _ => 0)) rfl rfl rfl rfl ((Arr_at _ _ (row 36 (fun _ => 0)) _ (by simp)).alloc _) (by simp only [row_len]) (by rw [row_len]; kernel_rfl) (row_one _ _) ?_)
  intro w1 B1_1 o1
  have K1 : Kept b w w1 := Kept.off ((((Kept.refl b w).al _).al _).al _) o1 (by omega)
  have BF_1 := (((hw.alloc _).alloc _).alloc _).off o1 (zL y2_BF)
  have B0_1 := (((Arr_at _ w.heap.size (row 36 g) _ (by simp)).alloc _).alloc _).off o1 (zL y2_B0)
  have B2_1 := (Arr_at _ (w.heap.size + 1 + 1) (row 36 (fun _ => 0)) _ (by simp)).off o1 (zG y3_B1)
  have z1_B1 := B1_1.lies
  have z1_BF := BF_1.lies
  have z1_B0 := B0_1.lies
  have z1_B2 := B2_1.lies
  clear o1
  go_wp2_with (with_reducible refine post_stop ?_)
  refine Stop.mk ?_
  refine bodyPost_ret (v := .agg (row 36 (fun _ => 0)).toArray) (results_arr Try.results70 B1_1 rfl (by kernel_rfl) (by rw [row_len]; kernel_rfl)) rfl ?_
  have hs : msoundMS bad g = ((fun _ => 0), bad) := by unfold msoundMS; rw [if_pos Hhc1.out]
  first | (rw [hs]; exact ⟨rfl, BF_1, K1⟩) | (have hfl := BF_1; rw [Hhc1.out] at hs hfl; rw [hs]; exact ⟨rfl, hfl, K1⟩)
 ·have Hhc1 : Hid (bad = false) := hc1
  have c1_BF := hw.cell
  have l1_BF := hw.lies
  go_wp2_with (first | (refine row_load rfl rfl rfl ((Arr_at _ _ (row 36 g) _ (by simp)).alloc _) (by kernel_rfl) (by rw [row_len]; kernel_rfl) ?_) | (refine store_stop rfl (by kernel_rfl) ?_))
  clear c1_BF l1_BF
  refine Stop.mk (store_row (l' := row 36 g) rfl rfl rfl rfl (Arr_at _ _ (row 36 (fun _ => 0)) _ (by simp)) (by simp only [row_len]) (by rw [row_len]; kernel_rfl) (row_one _ _) ?_)
  intro w1 B1_1 o1
  have K1 : Kept b w w1 := Kept.off (((Kept.refl b w).al _).al _) o1 (by omega)
  have BF_1 := ((hw.alloc _).alloc _).off o1 (zL y2_BF)
  have B0_1 := ((Arr_at _ w.heap.size (row 36 g) _ (by simp)).alloc _).off o1 (zL y2_B0)
  have z1_B1 := B1_1.lies
  have z1_BF := BF_1.lies
  have z1_B0 := B0_1.lies
  clear o1
  go_wp2_with (with_reducible refine post_stop ?_)
  refine Stop.mk ?_
  refine bodyPost_ret (v := .agg (row 36 g).toArray) (results_arr Try.results70 B1_1 rfl (by kernel_rfl) (by rw [row_len]; kernel_rfl)) rfl ?_
  have hs : msoundMS bad g = (g, bad) := by unfold msoundMS; rw [if_neg (by rw [Hhc1.out]; decide)]
  first | (rw [hs]; exact ⟨rfl, BF_1, K1⟩) | (have hfl := BF_1; rw [Hhc1.out] at hs hfl; rw [hs]; exact ⟨rfl, hfl, K1⟩)
end Go.Proofs.Ytooehgijllihdaa
namespace Go.Proofs.Ytooehgijllihdaa
open Go.RowKit
set_option maxRecDepth 100000
set_option maxHeartbeats 20000000
theorem mRoot_any (b : Nat) (bad : Bool) (m : Nat → Int) (n : Nat) (w : World) (hw : Fl b bad w) (h1 : 1 ≤ n) (h6 : n ≤ 6) :
  Calls Try.prog 41 #[.pointer (some ⟨b, 0, none⟩), .agg (row 36 m).toArray, .int .i64 (n : Int)] w fun e w' => e = .returned (.agg (row 36 ((mRootS bad m n).1)).toArray) ∧ Fl b (mRootS bad m n).2 w' ∧ Kept b w w' := by
 have hl := hw.lies
 go_enter Try.func41, Try.ntmps41
 have y1_BF := hw.lies
 have y2_BF : b < w.heap.size + 1 := (Nat.lt_succ_of_lt hw.lies)
 have y2_B0 : w.heap.size < w.heap.size + 1 := by omega
 have y3_BF : b < w.heap.size + 1 + 1 := (Nat.lt_succ_of_lt (Nat.lt_succ_of_lt hw.lies))
 have y3_B0 : w.heap.size < w.heap.size + 1 + 1 := by omega
 have y3_B1 : w.heap.size + 1 < w.heap.size + 1 + 1 := by omega
 go_wp2_with fail
 refine (mfits_any b bad (n : Int) _ (((hw.alloc _).alloc _).alloc _)).mono ?_
 rintro e w1 ⟨rfl, f1, k1⟩
 rw [(fits_in bad h1 h6)] at f1 ⊢
 dsimp only at f1 ⊢
 have K1 : Kept b w w1 := Kept.trans ((((Kept.refl b w).al _).al _).al _) k1
 have B0_1 := (((Arr_at _ w.heap.size (row 36 m) _ (by simp)).alloc _).alloc _).kept k1 (zG y1_BF)
 have B1_1 := ((Arr_at _ (w.heap.size + 1) (row 36 (fun _ => 0)) _ (by simp)).alloc _).kept k1 (zG y2_BF)
 have B2_1 := (Arr_at _ (w.heap.size + 1 + 1) (row 36 (fun _ => 0)) _ (by simp)).kept k1 (zG y3_BF)
 have z1 := B2_1.lies
 clear k1
 go_wp2_with fail
 obtain ⟨J0, hJ0⟩ : ∃ J : Nat → Act → World → Prop, Hid (J = fun i a Wl0 => ∀ G_ : Prop, (∀ (s0 : (Nat → Int) × Bool) (m1 m2 m3 m5 m8 m9 m10 m11 m12 m13 m14 m17 m18 m19 m20 m21 m22 m23 m24 m25 m26 m27 m28 m29 m30 m31 m32 m33 m34 m35 m36 m37 m38 m39 m40 m41 m42 m43 m44 m45 m46 m47 m48 m49 m50 m51 m52 m53 m54 m55 m56 m57 m58 m59 m60 m61 m62 m63 m64 m65 m66 m67 m68 m69 m70 m71 m72 : Value), Hid (mRootS_l0 m ((fun _ => 0), bad) i = s0) → a = { tmps := #[.pointer (some ⟨b, 0, none⟩), m1, m2, m3, .pointer (some ⟨w.heap.size, 0, none⟩), m5, .pointer (some ⟨w.heap.size + 1, 0, none⟩), .pointer (some ⟨w.heap.size + 1 + 1, 0, none⟩), m8, m9, m10, m11, m12, m13, m14, .int .i64 (n : Int), .int .i64 (i : Int), m17, m18, m19, m20, m21, m22, m23, m24, m25, m26, m27, m28, m29, m30, m31, m32, m33, m34, m35, m36, m37, m38, m39, m40, m41, m42, m43, m44, m45, m46, m47, m48, m49, m50, m51, m52, m53, m54, m55, m56, m57, m58, m59, m60, m61, m62, m63, m64, m65, m66, m67, m68, m69, m70, m71, m72], defers := [] } → Kept b w Wl0 → Fl b s0.2 Wl0 → Arr w.heap.size (row 36 m) Wl0 → Arr (w.heap.size + 1) (row 36 (fun _ => 0)) Wl0 → Arr (w.heap.size + 1 + 1) (row 36 s0.1) Wl0 → G_) → G_) := ⟨_, rfl⟩
 refine rounds_up J0 n ?_ ?_ ?_
 ·rw [hJ0.out]
  intro G_ hG_
  exact hG_ ((fun _ => 0), bad) _ _ _ _ _ _ _ _ _ _ _ _ _ _ _ _ _ _ _ _ _ _ _ _ _ _ _ _ _ _ _ _ _ _ _ _ _ _ _ _ _ _ _ _ _ _ _ _ _ _ _ _ _ _ _ _ _ _ _ _ _ _ _ _ _ _ _ rfl rfl K1 f1 B0_1 B1_1 B2_1
 ·intro i a Wl0 hi hI R hR
  rw [hJ0.out] at hI
  refine hI _ ?_
  clear hI
  intro s0 m1 m2 m3 m5 m8 m9 m10 m11 m12 m13 m14 m17 m18 m19 m20 m21 m22 m23 m24 m25 m26 m27 m28 m29 m30 m31 m32 m33 m34 m35 m36 m37 m38 m39 m40 m41 m42 m43 m44 m45 m46 m47 m48 m49 m50 m51 m52 m53 m54 m55 m56 m57 m58 m59 m60 m61 m62 m63 m64 m65 m66 m67 m68 m69 m70 m71 m72 El0 ea Kl0 BF_l0 B0_l0 B1_l0 B2_l0
  subst ea
  have zl0_BF := BF_l0.lies
  have zl0_B0 := B0_l0.lies
  have zl0_B1 := B1_l0.lies
  have zl0_B2 := B2_l0.lies
  go_wp2_with fail
  obtain ⟨J1, hJ1⟩ : ∃ J : Nat → Act → World → Prop, Hid (J = fun j a Wl1 => ∀ G_ : Prop, (∀ (s1 : (Nat → Int) × Bool) (n1 n2 n3 n5 n9 n10 n11 n12 n13 n14 n17 n18 n21 n22 n23 n24 n25 n26 n27 n28 n29 n30 n31 n32 n33 n34 n35 n36 n37 n38 n39 n40 n41 n42 n43 n44 n45 n46 n47 n48 n49 n50 n51 n52 n53 n54 n55 n56 n57 n58 n59 n60 n61 n62 n63 n64 n65 n66 n67 n68 n69 n70 n71 n72 : Value), Hid (mRootS_l1 m i (s0.1, s0.2) j = s1) → a = { tmps := #[.pointer (some ⟨b, 0, none⟩), n1, n2, n3, .pointer (some ⟨w.heap.size, 0, none⟩), n5, .pointer (some ⟨w.heap.size + 1, 0, none⟩), .pointer (some ⟨w.heap.size + 1 + 1, 0, none⟩), .int .i64 (i : Int), n9, n10, n11, n12, n13, n14, .int .i64 (n : Int), .int .i64 (i : Int), n17, n18, .int .i64 (i : Int), .int .i64 (j : Int), n21, n22, n23, n24, n25, n26, n27, n28, n29, n30, n31, n32, n33, n34, n35, n36, n37, n38, n39, n40, n41, n42, n43, n44, n45, n46, n47, n48, n49, n50, n51, n52, n53, n54, n55, n56, n57, n58, n59, n60, n61, n62, n63, n64, n65, n66, n67, n68, n69, n70, n71, n72], defers := [] } → Kept b w Wl1 → Fl b s1.2 Wl1 → Arr w.heap.size (row 36 m) Wl1 → Arr (w.heap.size + 1) (row 36 (fun _ => 0)) Wl1 → Arr (w.heap.size + 1 + 1) (row 36 s1.1) Wl1 → G_) → G_) := ⟨_, rfl⟩
  refine rounds_up J1 i ?_ ?_ ?_
  ·rw [hJ1.out]
   intro G_ hG_
   exact hG_ (s0.1, s0.2) _ _ _ _ _ _ _ _ _ _ _ _ _ _ _ _ _ _ _ _ _ _ _ _ _ _ _ _ _ _ _ _ _ _ _ _ _ _ _ _ _ _ _ _ _ _ _ _ _ _ _ _ _ _ _ _ _ _ _ _ _ _ _ _ rfl rfl Kl0 BF_l0 B0_l0 B1_l0 B2_l0
  ·intro j a Wl1 hj hI R hR
   rw [hJ1.out] at hI
   refine hI _ ?_
   clear hI
   intro s1 n1 n2 n3 n5 n9 n10 n11 n12 n13 n14 n17 n18 n21 n22 n23 n24 n25 n26 n27 n28 n29 n30 n31 n32 n33 n34 n35 n36 n37 n38 n39 n40 n41 n42 n43 n44 n45 n46 n47 n48 n49 n50 n51 n52 n53 n54 n55 n56 n57 n58 n59 n60 n61 n62 n63 n64 n65 n66 n67 n68 n69 n70 n71 n72 El1 ea Kl1 BF_l1 B0_l1 B1_l1 B2_l1
   subst ea
   have zl1_BF := BF_l1.lies
   have zl1_B0 := B0_l1.lies
   have zl1_B1 := B1_l1.lies
   have zl1_B2 := B2_l1.lies
   go_wp2_with fail
   refine wp_region_held_drew (S := fun w' => Arr w.heap.size (row 36 m) w' ∧ NearR (w.heap.size + 1 + 1) 36 s1.1 (i * 6 + j) w') (by kernel_rfl) ⟨B0_l1.drew, (NearR.same B2_l1.drew)⟩ (fun zH => ?_)
   refine zT 0 rfl (by kernel_rfl) (fun _ _ _ => id) rfl (fun _ _ => by go_simp <;> with_reducible rfl) zH ?_
   simp only [Act.put, zA, zB, zC]
   refine zT 1 rfl (by kernel_rfl) (fun _ _ _ => id) rfl (fun _ _ => by go_simp <;> with_reducible rfl) zH ?_
   simp only [Act.put, zA, zB, zC]
   refine zT 2 rfl (by kernel_rfl) (fun _ _ _ => id) rfl (fun _ _ => by go_simp <;> with_reducible rfl) zH ?_
   simp only [Act.put, zA, zB, zC]
   refine zT 3 rfl (by kernel_rfl) (fun _ _ _ => id) rfl (fun _ _ => by go_simp <;> with_reducible rfl) zH ?_
   simp only [Act.put, zA, zB, zC]
   refine zT 4 rfl (by kernel_rfl) (fun _ _ _ => id) rfl (fun _ _ => by go_simp <;> with_reducible rfl) zH ?_
   simp only [Act.put, zA, zB, zC]
   refine zT 5 rfl (by kernel_rfl) (fun _ _ _ => id) rfl (fun _ _ => by go_simp <;> with_reducible rfl) zH ?_
   simp only [Act.put, zA, zB, zC]
   refine zT 6 rfl (by kernel_rfl) (fun _ _ _ => id) rfl (fun _ _ => by have hi0 : (i : Int) < 6 := (by omega); go_simp <;> with_reducible rfl) zH ?_
   simp only [Act.put, zA, zB, zC]
   refine zT 7 rfl (by kernel_rfl) (fun _ _ _ => id) rfl (fun _ _ => by have hi0 : (j : Int) < 6 := (by omega); go_simp <;> with_reducible rfl) zH ?_
   simp only [Act.put, zA, zB, zC]
   refine zT 8 rfl (by kernel_rfl) (fun _ _ _ => id) rfl (fun wx hS => by have hc0 : wx.cell? ⟨w.heap.size, i * 6 + j, none⟩ = some (.int .i64 (m (i * 6 + j))) := row_c hS.1 (i * 6 + j) (by omega); go_simp <;> with_reducible rfl) zH ?_
   simp only [Act.put, zA, zB, zC]
   refine zT 9 rfl (by kernel_rfl) (fun _ _ _ => id) rfl (fun _ _ => by go_simp <;> with_reducible rfl) zH ?_
   simp only [Act.put, zA, zB, zC]
   refine zT 10 rfl (by kernel_rfl) (fun _ _ _ => id) rfl (fun _ _ => by have hi0 : (i : Int) < 6 := (by omega); go_simp <;> with_reducible rfl) zH ?_
   simp only [Act.put, zA, zB, zC]
   refine zT 12 rfl (by kernel_rfl) (fun _ _ _ => id) rfl (fun _ _ => by go_simp <;> with_reducible rfl) zH ?_
   simp only [Act.put, zA, zB, zC]
   refine zT 13 rfl (by kernel_rfl) (fun _ _ _ => id) rfl (fun _ _ => by have hi0 : (j : Int) < 6 := (by omega); go_simp <;> with_reducible rfl) zH ?_
   simp only [Act.put, zA, zB, zC]
   refine take_at (i := 14) rfl (by kernel_rfl) (by kernel_rfl) (by kernel_rfl) (fun _ _ _ h => h) (near_yield (M := 6) (by rfl) rfl rfl (fun _ hS => hS.2) (by omega) (by omega) (by kernel_rfl) (by rw [row_len]; kernel_rfl)) zH ?_
   simp only [Act.put, zA, zB, zC]
   refine zT 15 rfl (by kernel_rfl) (fun _ _ _ => id) rfl (fun _ _ => by go_simp <;> with_reducible rfl) zH ?_
   simp only [Act.put, zA, zB, zC]
   refine zT 17 rfl (by kernel_rfl) (fun _ _ _ => id) rfl (fun _ _ => by go_simp <;> with_reducible rfl) zH ?_
   simp only [Act.put, zA, zB, zC]
   refine zT 18 rfl (by kernel_rfl) (fun _ _ _ => id) rfl (fun _ _ => by go_simp <;> with_reducible rfl) zH ?_
   simp only [Act.put, zA, zB, zC]
   refine zT 19 rfl (by kernel_rfl) (fun _ _ _ => id) rfl (fun _ _ => by have hi0 : (j : Int) < 6 := (by omega); go_simp <;> with_reducible rfl) zH ?_
   simp only [Act.put, zA, zB, zC]
   refine zT 20 rfl (by kernel_rfl) (fun _ _ _ => id) rfl (fun _ _ => by have hi0 : (j : Int) < 6 := (by omega); go_simp <;> with_reducible rfl) zH ?_
   simp only [Act.put, zA, zB, zC]
   refine zT 21 rfl (by kernel_rfl) (fun _ _ _ => id) rfl (fun wx hS => by have hc0 : wx.cell? ⟨w.heap.size + 1 + 1, j * 6 + j, none⟩ = some (.int .i64 (s1.1 (j * 6 + j))) := near_c hS.2 (j * 6 + j) (by omega) (by omega); go_simp <;> with_reducible rfl) zH ?_
   simp only [Act.put, zA, zB, zC]
   refine zT 23 rfl (by kernel_rfl) (fun _ _ _ => id) rfl (fun _ _ => by have hi0 : (i : Int) < 6 := (by omega); go_simp <;> with_reducible rfl) zH ?_
   simp only [Act.put, zA, zB, zC]
   refine zK 11 (by kernel_rfl) rfl (fun K hK => ?_)
   refine late_part (M := 6) (by rfl) rfl rfl B2_l1.drew (by omega) (by kernel_rfl) (by rw [row_len]; kernel_rfl) ?_
   simp only [Act.put, zA, zB, zC]
   clear zH
   refine hK.out _ _ ⟨B0_l1.drew, (NearR.same B2_l1.drew)⟩ (fun zH => ?_)
   clear hK K
   refine zK 16 (by kernel_rfl) rfl (fun K hK => ?_)
   go_simp
   refine (mless_any b s1.2 (m (i * 6 + j)) (fun x_ => s1.1 (i * 6 + x_)) (fun x_ => s1.1 (j * 6 + x_)) j _ BF_l1.drew (by omega)).mono ?_
   rintro e w2 ⟨rfl, f2, k2⟩
   generalize e2 : mlessS s1.2 (m (i * 6 + j)) (fun x_ => s1.1 (i * 6 + x_)) (fun x_ => s1.1 (j * 6 + x_)) j = r2 at f2 ⊢
   have E2 : Hid _ := e2
   clear e2
   have K2 : Kept b w w2 := Kept.trans Kl1.drew k2
   have B0_2 := B0_l1.drew.kept k2 (zG y1_BF)
   have B1_2 := B1_l1.drew.kept k2 (zG y2_BF)
   have B2_2 := B2_l1.drew.kept k2 (zG y3_BF)
   have z2 := B2_2.lies
   clear zH
   refine hK.out _ _ ⟨B0_2, (NearR.same B2_2)⟩ (fun zH => ?_)
   clear hK K BF_l1 B0_l1 B1_l1 B2_l1 k2
   refine zK 22 (by kernel_rfl) rfl (fun K hK => ?_)
   go_simp
   refine (Div_any b r2.2 r2.1 (s1.1 (j * 6 + j)) _ f2).mono ?_
   rintro e w3 ⟨rfl, f3, k3⟩
   generalize e3 : divS r2.2 r2.1 (s1.1 (j * 6 + j)) = r3 at f3 ⊢
   have E3 : Hid _ := e3
   clear e3
   have K3 := Kept.trans K2 k3
   have B0_3 := B0_2.kept k3 (zG y1_BF)
   have B1_3 := B1_2.kept k3 (zG y2_BF)
   have B2_3 := B2_2.kept k3 (zG y3_BF)
   have z3 := B2_3.lies
   clear zH
   refine hK.out _ _ ⟨B0_3, (NearR.same B2_3)⟩ (fun zH => ?_)
   clear hK K K2 f2 B0_2 B1_2 B2_2 k3
   refine zT 24 rfl (by kernel_rfl) (fun _ _ _ => id) rfl (fun _ _ => by have hi0 : (j : Int) < 6 := (by omega); go_simp <;> with_reducible rfl) zH ?_
   simp only [Act.put, zA, zB, zC]
   refine zK 25 (by kernel_rfl) rfl (fun K hK => ?_)
   have c5_B2_0 : w3.cell? ⟨w.heap.size + 1 + 1, i * 6 + j, none⟩ = some (.int .i64 (s1.1 (i * 6 + j))) := row_c B2_3 (i * 6 + j) (by omega)
   have g5_B2_1 := row_f B2_3 (i * 6 + j) (by omega)
   go_simp
   clear zH
   refine hK.out _ _ ⟨(B0_3.new (w.heap.size + 1 + 1) (i * 6 + j) (zL y3_B0) (.int .i64 r3.1)), (NearR.upd (row_put B2_3 (i * 6 + j) (by omega) r3.1))⟩ (fun zH => ?_)
   clear hK K c5_B2_0 g5_B2_1
   refine wpAnyH_done (by kernel_rfl) ?_ _
   clear zH
   go_wp2_with fail
   have hs1 : Hid (mRootS_l1 m i (s0.1, s0.2) (j + 1) = ((updF s1.1 (i * 6 + j) r3.1), r3.2)) := by show _ = _; unfold mRootS_l1; simp only [El1.out, E2.out, E3.out]
   rw [hJ1.out]
   intro G_ hG_
   exact hG_ ((updF s1.1 (i * 6 + j) r3.1), r3.2) _ _ _ _ _ _ _ _ _ _ _ _ _ _ _ _ _ _ _ _ _ _ _ _ _ _ _ _ _ _ _ _ _ _ _ _ _ _ _ _ _ _ _ _ _ _ _ _ _ _ _ _ _ _ _ _ _ _ _ _ _ _ _ _ hs1 rfl (K3.new _ _ (by omega) _) (f3.new (w.heap.size + 1 + 1) (i * 6 + j) (zL y3_BF) (.int .i64 r3.1)) (B0_3.new (w.heap.size + 1 + 1) (i * 6 + j) (zL y3_B0) (.int .i64 r3.1)) (B1_3.new (w.heap.size + 1 + 1) (i * 6 + j) (zL y3_B1) (.int .i64 r3.1)) (row_put B2_3 (i * 6 + j) (by omega) r3.1)
  ·intro a Wl1 hI R
   rw [hJ1.out] at hI
   refine hI _ ?_
   clear hI hJ1
   intro r4 n1 n2 n3 n5 n9 n10 n11 n12 n13 n14 n17 n18 n21 n22 n23 n24 n25 n26 n27 n28 n29 n30 n31 n32 n33 n34 n35 n36 n37 n38 n39 n40 n41 n42 n43 n44 n45 n46 n47 n48 n49 n50 n51 n52 n53 n54 n55 n56 n57 n58 n59 n60 n61 n62 n63 n64 n65 n66 n67 n68 n69 n70 n71 n72 E4 ea Kl1 BF_l1 B0_l1 B1_l1 B2_l1
   subst ea
   have zl1_BF := BF_l1.lies
   have zl1_B0 := B0_l1.lies
   have zl1_B1 := B1_l1.lies
   have zl1_B2 := B2_l1.lies
   go_wp2_with fail
   refine get_cont (fun KK3 hKK3 => ?_)
   have cont3 : ∀ (W3 : World) (l3 l5 l10 l11 l12 l13 l14 l17 l18 l21 l22 l23 l24 l25 l26 l27 l28 l29 l30 l31 l32 l33 l34 l35 l36 l37 l38 l39 l40 l41 l42 l43 l44 l45 l46 l47 l48 l49 l50 l51 l52 l53 l54 l55 l56 l57 l58 l59 l60 l61 l62 l63 l64 l65 l66 l67 l68 l69 l70 l71 l72 : Value) (r5 : _) (r6 : _) , Hid (mlessS r4.2 (m (i * 6 + i)) (fun x_ => r4.1 (i * 6 + x_)) (fun x_ => r4.1 (i * 6 + x_)) i = r5) → Hid (mpivotS r5.2 r5.1 = r6) → Kept b w W3 → Fl b r6.2 W3 → Arr w.heap.size (row 36 m) W3 → Arr (w.heap.size + 1) (row 36 (fun _ => 0)) W3 → Arr (w.heap.size + 1 + 1) (row 36 (updF r4.1 (i * 6 + i) r6.1)) W3 → KK3 { tmps := #[.pointer (some ⟨b, 0, none⟩), n1, n2, l3, .pointer (some ⟨w.heap.size, 0, none⟩), l5, .pointer (some ⟨w.heap.size + 1, 0, none⟩), .pointer (some ⟨w.heap.size + 1 + 1, 0, none⟩), .int .i64 (i : Int), n9, l10, l11, l12, l13, l14, .int .i64 (n : Int), .int .i64 (i : Int), l17, l18, .int .i64 (i : Int), .int .i64 (i : Int), l21, l22, l23, l24, l25, l26, l27, l28, l29, l30, l31, l32, l33, l34, l35, l36, l37, l38, l39, l40, l41, l42, l43, l44, l45, l46, l47, l48, l49, l50, l51, l52, l53, l54, l55, l56, l57, l58, l59, l60, l61, l62, l63, l64, l65, l66, l67, l68, l69, l70, l71, l72], defers := [] } W3 := by
    intro W3 l3 l5 l10 l11 l12 l13 l14 l17 l18 l21 l22 l23 l24 l25 l26 l27 l28 l29 l30 l31 l32 l33 l34 l35 l36 l37 l38 l39 l40 l41 l42 l43 l44 l45 l46 l47 l48 l49 l50 l51 l52 l53 l54 l55 l56 l57 l58 l59 l60 l61 l62 l63 l64 l65 l66 l67 l68 l69 l70 l71 l72 r5 r6 E5 E6 KC3 BF_c3 B0_c3 B1_c3 B2_c3
    have zc3_BF := BF_c3.lies
    have zc3_B0 := B0_c3.lies
    have zc3_B1 := B1_c3.lies
    have zc3_B2 := B2_c3.lies
    rw [hKK3.out]
    dsimp only [Exit.inBlock, Exit.then]
    first | refine use_cont (by assumption) ?_ | skip
    have i8_0 : (i : Int) < 6 := by omega
    go_wp2_with fail
    clear i8_0
    have hs0 : Hid (mRootS_l0 m ((fun _ => 0), bad) (i + 1) = ((updF r4.1 (i * 6 + i) r6.1), r6.2)) := by show _ = _; unfold mRootS_l0; simp only [El0.out, E4.out, E5.out, E6.out]
    rw [hJ0.out]
    intro G_ hG_
    exact hG_ ((updF r4.1 (i * 6 + i) r6.1), r6.2) _ _ _ _ _ _ _ _ _ _ _ _ _ _ _ _ _ _ _ _ _ _ _ _ _ _ _ _ _ _ _ _ _ _ _ _ _ _ _ _ _ _ _ _ _ _ _ _ _ _ _ _ _ _ _ _ _ _ _ _ _ _ _ _ _ _ _ hs0 rfl KC3 BF_c3 B0_c3 B1_c3 B2_c3
   refine wp_region_held_drew (S := fun w' => Arr w.heap.size (row 36 m) w' ∧ NearR (w.heap.size + 1 + 1) 36 r4.1 (i * 6 + i) w') (by kernel_rfl) ⟨B0_l1.drew, (NearR.same B2_l1.drew)⟩ (fun zH => ?_)
   refine zT 0 rfl (by kernel_rfl) (fun _ _ _ => id) rfl (fun _ _ => by go_simp <;> with_reducible rfl) zH ?_
   simp only [Act.put, zA, zB, zC]
   refine zT 1 rfl (by kernel_rfl) (fun _ _ _ => id) rfl (fun _ _ => by go_simp <;> with_reducible rfl) zH ?_
   simp only [Act.put, zA, zB, zC]
   refine zT 2 rfl (by kernel_rfl) (fun _ _ _ => id) rfl (fun _ _ => by go_simp <;> with_reducible rfl) zH ?_
   simp only [Act.put, zA, zB, zC]
   refine zT 3 rfl (by kernel_rfl) (fun _ _ _ => id) rfl (fun _ _ => by go_simp <;> with_reducible rfl) zH ?_
   simp only [Act.put, zA, zB, zC]
   refine zT 4 rfl (by kernel_rfl) (fun _ _ _ => id) rfl (fun _ _ => by go_simp <;> with_reducible rfl) zH ?_
   simp only [Act.put, zA, zB, zC]
   refine zT 5 rfl (by kernel_rfl) (fun _ _ _ => id) rfl (fun _ _ => by go_simp <;> with_reducible rfl) zH ?_
   simp only [Act.put, zA, zB, zC]
   refine zT 6 rfl (by kernel_rfl) (fun _ _ _ => id) rfl (fun _ _ => by have hi0 : (i : Int) < 6 := (by omega); go_simp <;> with_reducible rfl) zH ?_
   simp only [Act.put, zA, zB, zC]
   refine zT 7 rfl (by kernel_rfl) (fun _ _ _ => id) rfl (fun _ _ => by have hi0 : (i : Int) < 6 := (by omega); go_simp <;> with_reducible rfl) zH ?_
   simp only [Act.put, zA, zB, zC]
   refine zT 8 rfl (by kernel_rfl) (fun _ _ _ => id) rfl (fun wx hS => by have hc0 : wx.cell? ⟨w.heap.size, i * 6 + i, none⟩ = some (.int .i64 (m (i * 6 + i))) := row_c hS.1 (i * 6 + i) (by omega); go_simp <;> with_reducible rfl) zH ?_
   simp only [Act.put, zA, zB, zC]
   refine zT 9 rfl (by kernel_rfl) (fun _ _ _ => id) rfl (fun _ _ => by go_simp <;> with_reducible rfl) zH ?_
   simp only [Act.put, zA, zB, zC]
   refine zT 10 rfl (by kernel_rfl) (fun _ _ _ => id) rfl (fun _ _ => by have hi0 : (i : Int) < 6 := (by omega); go_simp <;> with_reducible rfl) zH ?_
   simp only [Act.put, zA, zB, zC]
   refine zT 12 rfl (by kernel_rfl) (fun _ _ _ => id) rfl (fun _ _ => by go_simp <;> with_reducible rfl) zH ?_
   simp only [Act.put, zA, zB, zC]
   refine zT 13 rfl (by kernel_rfl) (fun _ _ _ => id) rfl (fun _ _ => by have hi0 : (i : Int) < 6 := (by omega); go_simp <;> with_reducible rfl) zH ?_
   simp only [Act.put, zA, zB, zC]
   refine zT 15 rfl (by kernel_rfl) (fun _ _ _ => id) rfl (fun _ _ => by go_simp <;> with_reducible rfl) zH ?_
   simp only [Act.put, zA, zB, zC]
   refine zT 18 rfl (by kernel_rfl) (fun _ _ _ => id) rfl (fun _ _ => by have hi0 : (i : Int) < 6 := (by omega); go_simp <;> with_reducible rfl) zH ?_
   simp only [Act.put, zA, zB, zC]
   refine call_at2 (i0 := 11) (i1 := 14) (by kernel_rfl) rfl rfl (fun K hK => ?_) (fun K hK => ?_)
   ·refine late_part (M := 6) (by rfl) rfl rfl B2_l1.drew (by omega) (by kernel_rfl) (by rw [row_len]; kernel_rfl) ?_
    simp only [Act.put, zA, zB, zC]
    clear zH
    refine hK.out _ _ ⟨B0_l1.drew, (NearR.same B2_l1.drew)⟩ (fun zH => ?_)
    clear hK K
    refine zK 14 (by kernel_rfl) rfl (fun K hK => ?_)
    refine late_part (M := 6) (by rfl) rfl rfl B2_l1.drew (by omega) (by kernel_rfl) (by rw [row_len]; kernel_rfl) ?_
    simp only [Act.put, zA, zB, zC]
    clear zH
    refine hK.out _ _ ⟨B0_l1.drew, (NearR.same B2_l1.drew)⟩ (fun zH => ?_)
    clear hK K
    refine zK 16 (by kernel_rfl) rfl (fun K hK => ?_)
    go_simp
    refine (mless_any b r4.2 (m (i * 6 + i)) (fun x_ => r4.1 (i * 6 + x_)) (fun x_ => r4.1 (i * 6 + x_)) i _ BF_l1.drew (by omega)).mono ?_
    rintro e w5 ⟨rfl, f5, k5⟩
    generalize e5 : mlessS r4.2 (m (i * 6 + i)) (fun x_ => r4.1 (i * 6 + x_)) (fun x_ => r4.1 (i * 6 + x_)) i = r5 at f5 ⊢
    have E5 : Hid _ := e5
    clear e5
    have K5 : Kept b w w5 := Kept.trans Kl1.drew k5
    have B0_5 := B0_l1.drew.kept k5 (zG y1_BF)
    have B1_5 := B1_l1.drew.kept k5 (zG y2_BF)
    have B2_5 := B2_l1.drew.kept k5 (zG y3_BF)
    have z5 := B2_5.lies
    clear zH
    refine hK.out _ _ ⟨B0_5, (NearR.same B2_5)⟩ (fun zH => ?_)
    clear hK K BF_l1 B0_l1 B1_l1 B2_l1 k5
    refine zK 17 (by kernel_rfl) rfl (fun K hK => ?_)
    go_simp
    refine (mpivot_any b r5.2 r5.1 _ f5).mono ?_
    rintro e w6 ⟨rfl, f6, k6⟩
    generalize e6 : mpivotS r5.2 r5.1 = r6 at f6 ⊢
    have E6 : Hid _ := e6
    clear e6
    have K6 := Kept.trans K5 k6
    have B0_6 := B0_5.kept k6 (zG y1_BF)
    have B1_6 := B1_5.kept k6 (zG y2_BF)
    have B2_6 := B2_5.kept k6 (zG y3_BF)
    have z6 := B2_6.lies
    clear zH
    refine hK.out _ _ ⟨B0_6, (NearR.same B2_6)⟩ (fun zH => ?_)
    clear hK K K5 f5 B0_5 B1_5 B2_5 k6
    refine zT 19 rfl (by kernel_rfl) (fun _ _ _ => id) rfl (fun _ _ => by have hi0 : (i : Int) < 6 := (by omega); go_simp <;> with_reducible rfl) zH ?_
    simp only [Act.put, zA, zB, zC]
    refine zK 20 (by kernel_rfl) rfl (fun K hK => ?_)
    have c8_B2_0 : w6.cell? ⟨w.heap.size + 1 + 1, i * 6 + i, none⟩ = some (.int .i64 (r4.1 (i * 6 + i))) := row_c B2_6 (i * 6 + i) (by omega)
    have g8_B2_1 := row_f B2_6 (i * 6 + i) (by omega)
    go_simp
    clear zH
    refine hK.out _ _ ⟨(B0_6.new (w.heap.size + 1 + 1) (i * 6 + i) (zL y3_B0) (.int .i64 r6.1)), (NearR.upd (row_put B2_6 (i * 6 + i) (by omega) r6.1))⟩ (fun zH => ?_)
    clear hK K c8_B2_0 g8_B2_1
    refine wpAnyH_done (by kernel_rfl) ?_ _
    clear zH
    refine put_cont hKK3 ?_
    exact cont3 _ _ _ _ _ _ _ _ _ _ _ _ _ _ _ _ _ _ _ _ _ _ _ _ _ _ _ _ _ _ _ _ _ _ _ _ _ _ _ _ _ _ _ _ _ _ _ _ _ _ _ _ _ _ _ _ _ _ _ _ _ _ r5 r6 E5 E6 (K6.new _ _ (by omega) _) (f6.new (w.heap.size + 1 + 1) (i * 6 + i) (zL y3_BF) (.int .i64 r6.1)) (B0_6.new (w.heap.size + 1 + 1) (i * 6 + i) (zL y3_B0) (.int .i64 r6.1)) (B1_6.new (w.heap.size + 1 + 1) (i * 6 + i) (zL y3_B1) (.int .i64 r6.1)) (row_put B2_6 (i * 6 + i) (by omega) r6.1)
   ·refine late_part (M := 6) (by rfl) rfl rfl B2_l1.drew (by omega) (by kernel_rfl) (by rw [row_len]; kernel_rfl) ?_
    simp only [Act.put, zA, zB, zC]
    clear zH
    refine hK.out _ _ ⟨B0_l1.drew, (NearR.same B2_l1.drew)⟩ (fun zH => ?_)
    clear hK K
    refine zK 11 (by kernel_rfl) rfl (fun K hK => ?_)
    refine late_part (M := 6) (by rfl) rfl rfl B2_l1.drew (by omega) (by kernel_rfl) (by rw [row_len]; kernel_rfl) ?_
    simp only [Act.put, zA, zB, zC]
    clear zH
    refine hK.out _ _ ⟨B0_l1.drew, (NearR.same B2_l1.drew)⟩ (fun zH => ?_)
    clear hK K
    refine zK 16 (by kernel_rfl) rfl (fun K hK => ?_)
    go_simp
    refine (mless_any b r4.2 (m (i * 6 + i)) (fun x_ => r4.1 (i * 6 + x_)) (fun x_ => r4.1 (i * 6 + x_)) i _ BF_l1.drew (by omega)).mono ?_
    rintro e w5 ⟨rfl, f5, k5⟩
    generalize e5 : mlessS r4.2 (m (i * 6 + i)) (fun x_ => r4.1 (i * 6 + x_)) (fun x_ => r4.1 (i * 6 + x_)) i = r5 at f5 ⊢
    have E5 : Hid _ := e5
    clear e5
    have K5 : Kept b w w5 := Kept.trans Kl1.drew k5
    have B0_5 := B0_l1.drew.kept k5 (zG y1_BF)
    have B1_5 := B1_l1.drew.kept k5 (zG y2_BF)
    have B2_5 := B2_l1.drew.kept k5 (zG y3_BF)
    have z5 := B2_5.lies
    clear zH
    refine hK.out _ _ ⟨B0_5, (NearR.same B2_5)⟩ (fun zH => ?_)
    clear hK K BF_l1 B0_l1 B1_l1 B2_l1 k5
    refine zK 17 (by kernel_rfl) rfl (fun K hK => ?_)
    go_simp
    refine (mpivot_any b r5.2 r5.1 _ f5).mono ?_
    rintro e w6 ⟨rfl, f6, k6⟩
    generalize e6 : mpivotS r5.2 r5.1 = r6 at f6 ⊢
    have E6 : Hid _ := e6
    clear e6
    have K6 := Kept.trans K5 k6
    have B0_6 := B0_5.kept k6 (zG y1_BF)
    have B1_6 := B1_5.kept k6 (zG y2_BF)
    have B2_6 := B2_5.kept k6 (zG y3_BF)
    have z6 := B2_6.lies
    clear zH
    refine hK.out _ _ ⟨B0_6, (NearR.same B2_6)⟩ (fun zH => ?_)
    clear hK K K5 f5 B0_5 B1_5 B2_5 k6
    refine zT 19 rfl (by kernel_rfl) (fun _ _ _ => id) rfl (fun _ _ => by have hi0 : (i : Int) < 6 := (by omega); go_simp <;> with_reducible rfl) zH ?_
    simp only [Act.put, zA, zB, zC]
    refine zK 20 (by kernel_rfl) rfl (fun K hK => ?_)
    have c8_B2_0 : w6.cell? ⟨w.heap.size + 1 + 1, i * 6 + i, none⟩ = some (.int .i64 (r4.1 (i * 6 + i))) := row_c B2_6 (i * 6 + i) (by omega)
    have g8_B2_1 := row_f B2_6 (i * 6 + i) (by omega)
    go_simp
    clear zH
    refine hK.out _ _ ⟨(B0_6.new (w.heap.size + 1 + 1) (i * 6 + i) (zL y3_B0) (.int .i64 r6.1)), (NearR.upd (row_put B2_6 (i * 6 + i) (by omega) r6.1))⟩ (fun zH => ?_)
    clear hK K c8_B2_0 g8_B2_1
    refine wpAnyH_done (by kernel_rfl) ?_ _
    clear zH
    refine put_cont hKK3 ?_
    exact cont3 _ _ _ _ _ _ _ _ _ _ _ _ _ _ _ _ _ _ _ _ _ _ _ _ _ _ _ _ _ _ _ _ _ _ _ _ _ _ _ _ _ _ _ _ _ _ _ _ _ _ _ _ _ _ _ _ _ _ _ _ _ _ r5 r6 E5 E6 (K6.new _ _ (by omega) _) (f6.new (w.heap.size + 1 + 1) (i * 6 + i) (zL y3_BF) (.int .i64 r6.1)) (B0_6.new (w.heap.size + 1 + 1) (i * 6 + i) (zL y3_B0) (.int .i64 r6.1)) (B1_6.new (w.heap.size + 1 + 1) (i * 6 + i) (zL y3_B1) (.int .i64 r6.1)) (row_put B2_6 (i * 6 + i) (by omega) r6.1)
 ·intro a Wl0 hI R
  rw [hJ0.out] at hI
  refine hI _ ?_
  clear hI hJ0
  intro r2 m1 m2 m3 m5 m8 m9 m10 m11 m12 m13 m14 m17 m18 m19 m20 m21 m22 m23 m24 m25 m26 m27 m28 m29 m30 m31 m32 m33 m34 m35 m36 m37 m38 m39 m40 m41 m42 m43 m44 m45 m46 m47 m48 m49 m50 m51 m52 m53 m54 m55 m56 m57 m58 m59 m60 m61 m62 m63 m64 m65 m66 m67 m68 m69 m70 m71 m72 E2 ea Kl0 BF_l0 B0_l0 B1_l0 B2_l0
  subst ea
  have zl0_BF := BF_l0.lies
  have zl0_B0 := B0_l0.lies
  have zl0_B1 := B1_l0.lies
  have zl0_B2 := B2_l0.lies
  go_wp2_with (refine row_load rfl rfl rfl B2_l0 (by kernel_rfl) (by rw [row_len]; kernel_rfl) ?_)
  refine (msoundM_any b r2.2 r2.1 _ BF_l0).mono ?_
  rintro e w3 ⟨rfl, f3, k3⟩
  generalize e3 : msoundMS r2.2 r2.1 = r3 at f3 ⊢
  have E3 : Hid _ := e3
  clear e3
  have K3 : Kept b w w3 := Kept.trans Kl0 k3
  have B0_3 := B0_l0.kept k3 (zG y1_BF)
  have B1_3 := B1_l0.kept k3 (zG y2_BF)
  have B2_3 := B2_l0.kept k3 (zG y3_BF)
  have z3 := B2_3.lies
  clear BF_l0 B0_l0 B1_l0 B2_l0 k3
  go_wp2_with (refine store_stop rfl (by kernel_rfl) ?_)
  refine Stop.mk (store_row (l' := row 36 r3.1) rfl rfl rfl rfl B1_3 (by simp only [row_len]) (by rw [row_len]; kernel_rfl) (row_one _ _) ?_)
  intro w4 B1_4 o4
  have K4 : Kept b w w4 := Kept.off K3 o4 (by omega)
  have BF_4 := f3.off o4 (zL y2_BF)
  have B0_4 := B0_3.off o4 (zL y2_B0)
  have B2_4 := B2_3.off o4 (zG y3_B1)
  have z4_B1 := B1_4.lies
  have z4_BF := BF_4.lies
  have z4_B0 := B0_4.lies
  have z4_B2 := B2_4.lies
  clear K3 B1_3 f3 B0_3 B2_3 o4
  go_wp2_with (with_reducible refine post_stop ?_)
  refine Stop.mk ?_
  refine bodyPost_ret (v := .agg (row 36 r3.1).toArray) (results_arr Try.results41 B1_4 rfl (by kernel_rfl) (by rw [row_len]; kernel_rfl)) rfl ?_
  have hs : mRootS bad m n = (r3.1, r3.2) := by unfold mRootS; simp only [E2.out, E3.out]
  rw [hs]
  exact ⟨rfl, BF_4, K4⟩
end Go.Proofs.Ytooehgijllihdaa
namespace Go.Proofs.Ytooehgijllihdaa
open Go.RowKit
set_option maxRecDepth 100000
set_option maxHeartbeats 20000000
theorem mforward_any (b : Nat) (bad : Bool) (l : Nat → Int) (p : Nat → Int) (n : Nat) (w : World) (hw : Fl b bad w) (h6 : n ≤ 6) :
  Calls Try.prog 73 #[.pointer (some ⟨b, 0, none⟩), .agg (row 36 l).toArray, .agg (row 6 p).toArray, .int .i64 (n : Int)] w fun e w' => e = .returned (.agg (row 6 ((mforwardS bad l p n).1)).toArray) ∧ Fl b (mforwardS bad l p n).2 w' ∧ Kept b w w' := by
 have hl := hw.lies
 go_enter Try.func73, Try.ntmps73
 have y1_BF := hw.lies
 have y2_BF : b < w.heap.size + 1 := (Nat.lt_succ_of_lt hw.lies)
 have y2_B0 : w.heap.size < w.heap.size + 1 := by omega
 have y3_BF : b < w.heap.size + 1 + 1 := (Nat.lt_succ_of_lt (Nat.lt_succ_of_lt hw.lies))
 have y3_B0 : w.heap.size < w.heap.size + 1 + 1 := by omega
 have y3_B1 : w.heap.size + 1 < w.heap.size + 1 + 1 := by omega
 have y4_BF : b < w.heap.size + 1 + 1 + 1 := (Nat.lt_succ_of_lt (Nat.lt_succ_of_lt (Nat.lt_succ_of_lt hw.lies)))
 have y4_B0 : w.heap.size < w.heap.size + 1 + 1 + 1 := by omega
 have y4_B1 : w.heap.size + 1 < w.heap.size + 1 + 1 + 1 := by omega
 have y4_B2 : w.heap.size + 1 + 1 < w.heap.size + 1 + 1 + 1 := by omega
 go_wp2_with fail
 obtain ⟨J0, hJ0⟩ : ∃ J : Nat → Act → World → Prop, Hid (J = fun i a Wl0 => ∀ G_ : Prop, (∀ (s0 : (Nat → Int) × Bool) (m1 m2 m3 m4 m7 m10 m13 m14 m15 m16 m17 m18 m19 m20 m21 m22 m23 m24 m25 m26 m27 m28 m29 m30 m31 m32 m33 m34 m35 : Value), Hid (mforwardS_l0 l p ((fun _ => 0), bad) i = s0) → a = { tmps := #[.pointer (some ⟨b, 0, none⟩), m1, m2, m3, m4, .pointer (some ⟨w.heap.size, 0, none⟩), .pointer (some ⟨w.heap.size + 1, 0, none⟩), m7, .pointer (some ⟨w.heap.size + 1 + 1, 0, none⟩), .pointer (some ⟨w.heap.size + 1 + 1 + 1, 0, none⟩), m10, .int .i64 (n : Int), .int .i64 (i : Int), m13, m14, m15, m16, m17, m18, m19, m20, m21, m22, m23, m24, m25, m26, m27, m28, m29, m30, m31, m32, m33, m34, m35], defers := [] } → Kept b w Wl0 → Fl b s0.2 Wl0 → Arr w.heap.size (row 36 l) Wl0 → Arr (w.heap.size + 1) (row 6 p) Wl0 → Arr (w.heap.size + 1 + 1) (row 6 (fun _ => 0)) Wl0 → Arr (w.heap.size + 1 + 1 + 1) (row 6 s0.1) Wl0 → G_) → G_) := ⟨_, rfl⟩
 refine rounds_up J0 n ?_ ?_ ?_
 ·rw [hJ0.out]
  intro G_ hG_
  exact hG_ ((fun _ => 0), bad) _ _ _ _ _ _ _ _ _ _ _ _ _ _ _ _ _ _ _ _ _ _ _ _ _ _ _ _ _ rfl rfl (((((Kept.refl b w).al _).al _).al _).al _) ((((hw.alloc _).alloc _).alloc _).alloc _) ((((Arr_at _ _ (row 36 l) _ (by simp)).alloc _).alloc _).alloc _) (((Arr_at _ _ (row 6 p) _ (by simp)).alloc _).alloc _) ((Arr_at _ _ (row 6 (fun _ => 0)) _ (by simp)).alloc _) (Arr_at _ _ (row 6 (fun _ => 0)) _ (by simp))
 ·intro i a Wl0 hi hI R hR
  rw [hJ0.out] at hI
  refine hI _ ?_
  clear hI
  intro s0 m1 m2 m3 m4 m7 m10 m13 m14 m15 m16 m17 m18 m19 m20 m21 m22 m23 m24 m25 m26 m27 m28 m29 m30 m31 m32 m33 m34 m35 El0 ea Kl0 BF_l0 B0_l0 B1_l0 B2_l0 B3_l0
  subst ea
  have zl0_BF := BF_l0.lies
  have zl0_B0 := B0_l0.lies
  have zl0_B1 := B1_l0.lies
  have zl0_B2 := B2_l0.lies
  have zl0_B3 := B3_l0.lies
  go_wp2_with fail
  refine wp_region_held_drew (S := fun w' => Arr (w.heap.size + 1) (row 6 p) w' ∧ Arr w.heap.size (row 36 l) w' ∧ NearR (w.heap.size + 1 + 1 + 1) 6 s0.1 i w') (by kernel_rfl) ⟨B1_l0.drew, B0_l0.drew, (NearR.same B3_l0.drew)⟩ (fun zH => ?_)
  refine zT 0 rfl (by kernel_rfl) (fun _ _ _ => id) rfl (fun _ _ => by go_simp <;> with_reducible rfl) zH ?_
  simp only [Act.put, zA, zB, zC]
  refine zT 1 rfl (by kernel_rfl) (fun _ _ _ => id) rfl (fun _ _ => by go_simp <;> with_reducible rfl) zH ?_
  simp only [Act.put, zA, zB, zC]
  refine zT 2 rfl (by kernel_rfl) (fun _ _ _ => id) rfl (fun _ _ => by go_simp <;> with_reducible rfl) zH ?_
  simp only [Act.put, zA, zB, zC]
  refine zT 3 rfl (by kernel_rfl) (fun _ _ _ => id) rfl (fun _ _ => by go_simp <;> with_reducible rfl) zH ?_
  simp only [Act.put, zA, zB, zC]
  refine zT 4 rfl (by kernel_rfl) (fun _ _ _ => id) rfl (fun _ _ => by have hi0 : (i : Int) < 6 := (by omega); go_simp <;> with_reducible rfl) zH ?_
  simp only [Act.put, zA, zB, zC]
  refine zT 5 rfl (by kernel_rfl) (fun _ _ _ => id) rfl (fun wx hS => by have hc0 : wx.cell? ⟨w.heap.size + 1, i, none⟩ = some (.int .i64 (p i)) := row_c hS.1 i (by omega); go_simp <;> with_reducible rfl) zH ?_
  simp only [Act.put, zA, zB, zC]
  refine zT 6 rfl (by kernel_rfl) (fun _ _ _ => id) rfl (fun _ _ => by go_simp <;> with_reducible rfl) zH ?_
  simp only [Act.put, zA, zB, zC]
  refine zT 7 rfl (by kernel_rfl) (fun _ _ _ => id) rfl (fun _ _ => by have hi0 : (i : Int) < 6 := (by omega); go_simp <;> with_reducible rfl) zH ?_
  simp only [Act.put, zA, zB, zC]
  refine take_at (i := 8) rfl (by kernel_rfl) (by kernel_rfl) (by kernel_rfl) (fun _ _ _ h => h) (part_yield (M := 6) (by rfl) rfl rfl (fun _ hS => hS.2.1) (by omega) (by kernel_rfl) (by rw [row_len]; kernel_rfl)) zH ?_
  simp only [Act.put, zA, zB, zC]
  refine zT 10 rfl (by kernel_rfl) (fun _ _ _ => id) rfl (fun _ _ => by go_simp <;> with_reducible rfl) zH ?_
  simp only [Act.put, zA, zB, zC]
  refine zT 12 rfl (by kernel_rfl) (fun _ _ _ => id) rfl (fun _ _ => by go_simp <;> with_reducible rfl) zH ?_
  simp only [Act.put, zA, zB, zC]
  refine zT 13 rfl (by kernel_rfl) (fun _ _ _ => id) rfl (fun _ _ => by go_simp <;> with_reducible rfl) zH ?_
  simp only [Act.put, zA, zB, zC]
  refine zT 14 rfl (by kernel_rfl) (fun _ _ _ => id) rfl (fun _ _ => by have hi0 : (i : Int) < 6 := (by omega); go_simp <;> with_reducible rfl) zH ?_
  simp only [Act.put, zA, zB, zC]
  refine zT 15 rfl (by kernel_rfl) (fun _ _ _ => id) rfl (fun _ _ => by have hi0 : (i : Int) < 6 := (by omega); go_simp <;> with_reducible rfl) zH ?_
  simp only [Act.put, zA, zB, zC]
  refine zT 16 rfl (by kernel_rfl) (fun _ _ _ => id) rfl (fun wx hS => by have hc0 : wx.cell? ⟨w.heap.size, i * 6 + i, none⟩ = some (.int .i64 (l (i * 6 + i))) := row_c hS.2.1 (i * 6 + i) (by omega); go_simp <;> with_reducible rfl) zH ?_
  simp only [Act.put, zA, zB, zC]
  refine zK 9 (by kernel_rfl) rfl (fun K hK => ?_)
  refine late_row (by rfl) rfl rfl B3_l0.drew (by kernel_rfl) (by rw [row_len]; kernel_rfl) ?_
  simp only [Act.put, zA, zB, zC]
  clear zH
  refine hK.out _ _ ⟨B1_l0.drew, B0_l0.drew, (NearR.same B3_l0.drew)⟩ (fun zH => ?_)
  clear hK K
  refine zK 11 (by kernel_rfl) rfl (fun K hK => ?_)
  go_simp
  refine (mless_any b s0.2 (p i) (fun x_ => l (i * 6 + x_)) s0.1 i _ BF_l0.drew (by omega)).mono ?_
  rintro e w1 ⟨rfl, f1, k1⟩
  generalize e1 : mlessS s0.2 (p i) (fun x_ => l (i * 6 + x_)) s0.1 i = r1 at f1 ⊢
  have E1 : Hid _ := e1
  clear e1
  have K1 : Kept b w w1 := Kept.trans Kl0.drew k1
  have B0_1 := B0_l0.drew.kept k1 (zG y1_BF)
  have B1_1 := B1_l0.drew.kept k1 (zG y2_BF)
  have B2_1 := B2_l0.drew.kept k1 (zG y3_BF)
  have B3_1 := B3_l0.drew.kept k1 (zG y4_BF)
  have z1 := B3_1.lies
  clear zH
  refine hK.out _ _ ⟨B1_1, B0_1, (NearR.same B3_1)⟩ (fun zH => ?_)
  clear hK K BF_l0 B0_l0 B1_l0 B2_l0 B3_l0 k1
  refine zK 17 (by kernel_rfl) rfl (fun K hK => ?_)
  go_simp
  refine (Div_any b r1.2 r1.1 (l (i * 6 + i)) _ f1).mono ?_
  rintro e w2 ⟨rfl, f2, k2⟩
  generalize e2 : divS r1.2 r1.1 (l (i * 6 + i)) = r2 at f2 ⊢
  have E2 : Hid _ := e2
  clear e2
  have K2 := Kept.trans K1 k2
  have B0_2 := B0_1.kept k2 (zG y1_BF)
  have B1_2 := B1_1.kept k2 (zG y2_BF)
  have B2_2 := B2_1.kept k2 (zG y3_BF)
  have B3_2 := B3_1.kept k2 (zG y4_BF)
  have z2 := B3_2.lies
  clear zH
  refine hK.out _ _ ⟨B1_2, B0_2, (NearR.same B3_2)⟩ (fun zH => ?_)
  clear hK K K1 f1 B0_1 B1_1 B2_1 B3_1 k2
  refine zT 18 rfl (by kernel_rfl) (fun _ _ _ => id) rfl (fun _ _ => by have hi0 : (i : Int) < 6 := (by omega); go_simp <;> with_reducible rfl) zH ?_
  simp only [Act.put, zA, zB, zC]
  refine zK 19 (by kernel_rfl) rfl (fun K hK => ?_)
  have c3_B3_0 : w2.cell? ⟨w.heap.size + 1 + 1 + 1, i, none⟩ = some (.int .i64 (s0.1 i)) := row_c B3_2 i (by omega)
  have g3_B3_1 := row_f B3_2 i (by omega)
  go_simp
  clear zH
  refine hK.out _ _ ⟨(B1_2.new (w.heap.size + 1 + 1 + 1) i (zL y4_B1) (.int .i64 r2.1)), (B0_2.new (w.heap.size + 1 + 1 + 1) i (zL y4_B0) (.int .i64 r2.1)), (NearR.upd (row_put B3_2 i (by omega) r2.1))⟩ (fun zH => ?_)
  clear hK K c3_B3_0 g3_B3_1
  refine wpAnyH_done (by kernel_rfl) ?_ _
  clear zH
  go_wp2_with fail
  have hs0 : Hid (mforwardS_l0 l p ((fun _ => 0), bad) (i + 1) = ((updF s0.1 i r2.1), r2.2)) := by show _ = _; unfold mforwardS_l0; simp only [El0.out, E1.out, E2.out]
  rw [hJ0.out]
  intro G_ hG_
  exact hG_ ((updF s0.1 i r2.1), r2.2) _ _ _ _ _ _ _ _ _ _ _ _ _ _ _ _ _ _ _ _ _ _ _ _ _ _ _ _ _ hs0 rfl (K2.new _ _ (by omega) _) (f2.new (w.heap.size + 1 + 1 + 1) i (zL y4_BF) (.int .i64 r2.1)) (B0_2.new (w.heap.size + 1 + 1 + 1) i (zL y4_B0) (.int .i64 r2.1)) (B1_2.new (w.heap.size + 1 + 1 + 1) i (zL y4_B1) (.int .i64 r2.1)) (B2_2.new (w.heap.size + 1 + 1 + 1) i (zL y4_B2) (.int .i64 r2.1)) (row_put B3_2 i (by omega) r2.1)
 ·intro a Wl0 hI R
  rw [hJ0.out] at hI
  refine hI _ ?_
  clear hI hJ0
  intro r3 m1 m2 m3 m4 m7 m10 m13 m14 m15 m16 m17 m18 m19 m20 m21 m22 m23 m24 m25 m26 m27 m28 m29 m30 m31 m32 m33 m34 m35 E3 ea Kl0 BF_l0 B0_l0 B1_l0 B2_l0 B3_l0
  subst ea
  have zl0_BF := BF_l0.lies
  have zl0_B0 := B0_l0.lies
  have zl0_B1 := B1_l0.lies
  have zl0_B2 := B2_l0.lies
  have zl0_B3 := B3_l0.lies
  go_wp2_with (first | (refine row_load rfl rfl rfl B3_l0 (by kernel_rfl) (by rw [row_len]; kernel_rfl) ?_) | (refine store_stop rfl (by kernel_rfl) ?_))
  refine Stop.mk (store_row (l' := row 6 r3.1) rfl rfl rfl rfl B2_l0 (by simp only [row_len]) (by rw [row_len]; kernel_rfl) (row_one _ _) ?_)
  intro w4 B2_4 o4
  have K4 : Kept b w w4 := Kept.off Kl0 o4 (by omega)
  have BF_4 := BF_l0.off o4 (zL y3_BF)
  have B0_4 := B0_l0.off o4 (zL y3_B0)
  have B1_4 := B1_l0.off o4 (zL y3_B1)
  have B3_4 := B3_l0.off o4 (zG y4_B2)
  have z4_B2 := B2_4.lies
  have z4_BF := BF_4.lies
  have z4_B0 := B0_4.lies
  have z4_B1 := B1_4.lies
  have z4_B3 := B3_4.lies
  clear B2_l0 BF_l0 B0_l0 B1_l0 B3_l0 o4
  go_wp2_with (with_reducible refine post_stop ?_)
  refine Stop.mk ?_
  refine bodyPost_ret (v := .agg (row 6 r3.1).toArray) (results_arr Try.results73 B2_4 rfl (by kernel_rfl) (by rw [row_len]; kernel_rfl)) rfl ?_
  have hs : mforwardS bad l p n = (r3.1, r3.2) := by unfold mforwardS; simp only [E3.out]
  rw [hs]
  exact ⟨rfl, BF_4, K4⟩
end Go.Proofs.Ytooehgijllihdaa
namespace Go.Proofs.Ytooehgijllihdaa
open Go.RowKit
set_option maxRecDepth 100000
set_option maxHeartbeats 20000000
theorem mSolve_any (b : Nat) (bad : Bool) (l : Nat → Int) (p : Nat → Int) (n : Nat) (w : World) (hw : Fl b bad w) (h1 : 1 ≤ n) (h6 : n ≤ 6) :
  Calls Try.prog 43 #[.pointer (some ⟨b, 0, none⟩), .agg (row 36 l).toArray, .agg (row 6 p).toArray, .int .i64 (n : Int)] w fun e w' => e = .returned (.agg (row 6 ((mSolveS bad l p n).1)).toArray) ∧ Fl b (mSolveS bad l p n).2 w' ∧ Kept b w w' := by
 have hl := hw.lies
 go_enter Try.func43, Try.ntmps43
 have y1_BF := hw.lies
 have y2_BF : b < w.heap.size + 1 := (Nat.lt_succ_of_lt hw.lies)
 have y2_B0 : w.heap.size < w.heap.size + 1 := by omega
 have y3_BF : b < w.heap.size + 1 + 1 := (Nat.lt_succ_of_lt (Nat.lt_succ_of_lt hw.lies))
 have y3_B0 : w.heap.size < w.heap.size + 1 + 1 := by omega
 have y3_B1 : w.heap.size + 1 < w.heap.size + 1 + 1 := by omega
 have y4_BF : b < w.heap.size + 1 + 1 + 1 := (Nat.lt_succ_of_lt (Nat.lt_succ_of_lt (Nat.lt_succ_of_lt hw.lies)))
 have y4_B0 : w.heap.size < w.heap.size + 1 + 1 + 1 := by omega
 have y4_B1 : w.heap.size + 1 < w.heap.size + 1 + 1 + 1 := by omega
 have y4_B2 : w.heap.size + 1 + 1 < w.heap.size + 1 + 1 + 1 := by omega
 go_wp2_with fail
 refine (mfits_any b bad (n : Int) _ ((((hw.alloc _).alloc _).alloc _).alloc _)).mono ?_
 rintro e w1 ⟨rfl, f1, k1⟩
 rw [(fits_in bad h1 h6)] at f1 ⊢
 dsimp only at f1 ⊢
 have K1 : Kept b w w1 := Kept.trans (((((Kept.refl b w).al _).al _).al _).al _) k1
 have B0_1 := ((((Arr_at _ w.heap.size (row 36 l) _ (by simp)).alloc _).alloc _).alloc _).kept k1 (zG y1_BF)
 have B1_1 := (((Arr_at _ (w.heap.size + 1) (row 6 p) _ (by simp)).alloc _).alloc _).kept k1 (zG y2_BF)
 have B2_1 := ((Arr_at _ (w.heap.size + 1 + 1) [.int .i64 0, .int .i64 0, .int .i64 0, .int .i64 0, .int .i64 0, .int .i64 0] _ (by simp)).alloc _).kept k1 (zG y3_BF)
 have B3_1 := (Arr_at _ (w.heap.size + 1 + 1 + 1) [.int .i64 0, .int .i64 0, .int .i64 0, .int .i64 0, .int .i64 0, .int .i64 0] _ (by simp)).kept k1 (zG y4_BF)
 have z1 := B3_1.lies
 clear k1
 go_wp2_with (first | (refine row_load rfl rfl rfl B0_1 (by kernel_rfl) (by rw [row_len]; kernel_rfl) ?_) | (refine row_load rfl rfl rfl B1_1 (by kernel_rfl) (by rw [row_len]; kernel_rfl) ?_))
 refine (mforward_any b bad l p n _ f1 (by omega)).mono ?_
 rintro e w2 ⟨rfl, f2, k2⟩
 generalize e2 : mforwardS bad l p n = r2 at f2 ⊢
 have E2 : Hid _ := e2
 clear e2
 have K2 := Kept.trans K1 k2
 have B0_2 := B0_1.kept k2 (zG y1_BF)
 have B1_2 := B1_1.kept k2 (zG y2_BF)
 have B2_2 := B2_1.kept k2 (zG y3_BF)
 have B3_2 := B3_1.kept k2 (zG y4_BF)
 have z2 := B3_2.lies
 clear K1 f1 B0_1 B1_1 B2_1 B3_1 k2
 have y5_BF := f2.lies
 have y5_B0 := B0_2.lies
 have y5_B1 := B1_2.lies
 have y5_B2 := B2_2.lies
 have y5_B3 := B3_2.lies
 go_wp2_with (refine store_stop rfl (by kernel_rfl) ?_)
 refine Stop.mk (store_row (l' := row 6 r2.1) rfl rfl rfl rfl (Arr_at _ _ [.int .i64 0, .int .i64 0, .int .i64 0, .int .i64 0, .int .i64 0, .int .i64 0] _ (by simp)) (by rw [row_len]; rfl) (by rw [row_len]; kernel_rfl) (row_one _ _) ?_)
 intro w3 B4_3 o3
 have K3 : Kept b w w3 := Kept.off (K2.al _) o3 (by omega)
 have BF_3 := (f2.alloc _).off o3 (zL y5_BF)
 have B0_3 := (B0_2.alloc _).off o3 (zL y5_B0)
 have B1_3 := (B1_2.alloc _).off o3 (zL y5_B1)
 have B2_3 := (B2_2.alloc _).off o3 (zL y5_B2)
 have B3_3 := (B3_2.alloc _).off o3 (zL y5_B3)
 have z3_B4 := B4_3.lies
 have z3_BF := BF_3.lies
 have z3_B0 := B0_3.lies
 have z3_B1 := B1_3.lies
 have z3_B2 := B2_3.lies
 have z3_B3 := B3_3.lies
 clear K2 f2 B0_2 B1_2 B2_2 B3_2 o3
 go_wp2_with fail
 obtain ⟨J0, hJ0⟩ : ∃ J : Nat → Act → World → Prop, Hid (J = fun d a Wl0 => ∀ G_ : Prop, (∀ (s0 : (Nat → Int) × Bool) (m1 m2 m4 m6 m7 m12 m13 m14 m15 m16 m17 m18 m19 m20 m21 m22 m23 m24 m25 m26 m27 m28 m29 m30 m31 m32 m33 m34 m35 m36 m37 m38 m39 m40 m41 m42 m43 m44 m45 m46 m47 m48 m49 m50 m51 m52 m53 m54 m55 m56 m57 m58 m59 m60 m61 m62 m63 m64 m65 : Value) (v0 : Int), Hid (mSolveS_l0 l n r2 ((fun _ => 0), r2.2) d = s0) → Hid (v0 = (n : Int) - 1 - (d : Int)) → a = { tmps := #[.pointer (some ⟨b, 0, none⟩), m1, m2, .int .i64 (n : Int), m4, .pointer (some ⟨w.heap.size, 0, none⟩), m6, m7, .pointer (some ⟨w.heap.size + 1 + 1, 0, none⟩), .pointer (some ⟨w.heap.size + 1 + 1 + 1, 0, none⟩), .pointer (some ⟨w2.heap.size, 0, none⟩), .int .i64 v0, m12, m13, m14, m15, m16, m17, m18, m19, m20, m21, m22, m23, m24, m25, m26, m27, m28, m29, m30, m31, m32, m33, m34, m35, m36, m37, m38, m39, m40, m41, m42, m43, m44, m45, m46, m47, m48, m49, m50, m51, m52, m53, m54, m55, m56, m57, m58, m59, m60, m61, m62, m63, m64, m65], defers := [] } → Kept b w Wl0 → Fl b s0.2 Wl0 → Arr w.heap.size (row 36 l) Wl0 → Arr (w.heap.size + 1) (row 6 p) Wl0 → Arr (w.heap.size + 1 + 1) (row 6 (fun _ => 0)) Wl0 → Arr (w.heap.size + 1 + 1 + 1) (row 6 s0.1) Wl0 → Arr w2.heap.size (row 6 r2.1) Wl0 → G_) → G_) := ⟨_, rfl⟩
 refine rounds_up J0 n ?_ ?_ ?_
 ·rw [hJ0.out]
  intro G_ hG_
  exact hG_ ((fun _ => 0), r2.2) _ _ _ _ _ _ _ _ _ _ _ _ _ _ _ _ _ _ _ _ _ _ _ _ _ _ _ _ _ _ _ _ _ _ _ _ _ _ _ _ _ _ _ _ _ _ _ _ _ _ _ _ _ _ _ _ _ _ _ _ rfl (show _ = _ by omega) rfl K3 BF_3 B0_3 B1_3 B2_3 B3_3 B4_3
 ·intro d a Wl0 hd hI R hR
  rw [hJ0.out] at hI
  refine hI _ ?_
  clear hI
  intro s0 m1 m2 m4 m6 m7 m12 m13 m14 m15 m16 m17 m18 m19 m20 m21 m22 m23 m24 m25 m26 m27 m28 m29 m30 m31 m32 m33 m34 m35 m36 m37 m38 m39 m40 m41 m42 m43 m44 m45 m46 m47 m48 m49 m50 m51 m52 m53 m54 m55 m56 m57 m58 m59 m60 m61 m62 m63 m64 m65 v0 El0 V0 ea Kl0 BF_l0 B0_l0 B1_l0 B2_l0 B3_l0 B4_l0
  subst ea
  have zl0_BF := BF_l0.lies
  have zl0_B0 := B0_l0.lies
  have zl0_B1 := B1_l0.lies
  have zl0_B2 := B2_l0.lies
  have zl0_B3 := B3_l0.lies
  have zl0_B4 := B4_l0.lies
  obtain ⟨i, hi⟩ : ∃ i, n - 1 - d = i := ⟨_, rfl⟩
  obtain rfl : v0 = (i : Int) := by have := V0.out; omega
  have Hi : i + d + 1 = n := by omega
  have Xi : Hid (n - 1 - d = i) := hi
  clear hi V0
  have c5_B4_0 : Wl0.cell? ⟨w2.heap.size, i, none⟩ = some (.int .i64 (r2.1 i)) := row_c B4_l0 i (by omega)
  have i5_1 : (i : Int) < 6 := by omega
  go_wp2_with fail
  clear c5_B4_0 i5_1
  obtain ⟨J1, hJ1⟩ : ∃ J : Nat → Act → World → Prop, Hid (J = fun k a Wl1 => ∀ G_ : Prop, (∀ (s1 : Int × Bool) (n1 n2 n4 n6 n7 n14 n15 n16 n17 n18 n19 n20 n21 n22 n23 n24 n25 n26 n27 n28 n29 n30 n31 n32 n33 n34 n35 n36 n37 n38 n39 n40 n41 n42 n43 n44 n45 n46 n47 n48 n49 n50 n51 n52 n53 n54 n55 n56 n57 n58 n59 n60 n61 n62 n63 n64 n65 : Value) (v1 : Int), Hid (mSolveS_l1 l s0 i ((r2.1 i), s0.2) k = s1) → Hid (v1 = (i : Int) + 1 + (k : Int)) → a = { tmps := #[.pointer (some ⟨b, 0, none⟩), n1, n2, .int .i64 (n : Int), n4, .pointer (some ⟨w.heap.size, 0, none⟩), n6, n7, .pointer (some ⟨w.heap.size + 1 + 1, 0, none⟩), .pointer (some ⟨w.heap.size + 1 + 1 + 1, 0, none⟩), .pointer (some ⟨w2.heap.size, 0, none⟩), .int .i64 (i : Int), .int .i64 s1.1, .int .i64 v1, n14, n15, n16, n17, n18, n19, n20, n21, n22, n23, n24, n25, n26, n27, n28, n29, n30, n31, n32, n33, n34, n35, n36, n37, n38, n39, n40, n41, n42, n43, n44, n45, n46, n47, n48, n49, n50, n51, n52, n53, n54, n55, n56, n57, n58, n59, n60, n61, n62, n63, n64, n65], defers := [] } → Kept b w Wl1 → Fl b s1.2 Wl1 → Arr w.heap.size (row 36 l) Wl1 → Arr (w.heap.size + 1) (row 6 p) Wl1 → Arr (w.heap.size + 1 + 1) (row 6 (fun _ => 0)) Wl1 → Arr (w.heap.size + 1 + 1 + 1) (row 6 s0.1) Wl1 → Arr w2.heap.size (row 6 r2.1) Wl1 → G_) → G_) := ⟨_, rfl⟩
  refine rounds_up J1 d ?_ ?_ ?_
  ·rw [hJ1.out]
   intro G_ hG_
   exact hG_ ((r2.1 i), s0.2) _ _ _ _ _ _ _ _ _ _ _ _ _ _ _ _ _ _ _ _ _ _ _ _ _ _ _ _ _ _ _ _ _ _ _ _ _ _ _ _ _ _ _ _ _ _ _ _ _ _ _ _ _ _ _ _ _ _ rfl (show _ = _ by omega) rfl Kl0 BF_l0 B0_l0 B1_l0 B2_l0 B3_l0 B4_l0
  ·intro k a Wl1 hk hI R hR
   rw [hJ1.out] at hI
   refine hI _ ?_
   clear hI
   intro s1 n1 n2 n4 n6 n7 n14 n15 n16 n17 n18 n19 n20 n21 n22 n23 n24 n25 n26 n27 n28 n29 n30 n31 n32 n33 n34 n35 n36 n37 n38 n39 n40 n41 n42 n43 n44 n45 n46 n47 n48 n49 n50 n51 n52 n53 n54 n55 n56 n57 n58 n59 n60 n61 n62 n63 n64 n65 v1 El1 V1 ea Kl1 BF_l1 B0_l1 B1_l1 B2_l1 B3_l1 B4_l1
   subst ea
   have zl1_BF := BF_l1.lies
   have zl1_B0 := B0_l1.lies
   have zl1_B1 := B1_l1.lies
   have zl1_B2 := B2_l1.lies
   have zl1_B3 := B3_l1.lies
   have zl1_B4 := B4_l1.lies
   obtain ⟨u, hu⟩ : ∃ u, i + 1 + k = u := ⟨_, rfl⟩
   obtain rfl : v1 = (u : Int) := by have := V1.out; omega
   have Hu : i + 1 + k ≤ u ∧ u ≤ i + 1 + k ∧ u < n := by omega
   have Xu : Hid (i + 1 + k = u) := hu
   clear hu V1
   go_wp2_with fail
   refine wp_region_held_drew (S := fun w' => Arr w.heap.size (row 36 l) w' ∧ Arr (w.heap.size + 1 + 1 + 1) (row 6 s0.1) w') (by kernel_rfl) ⟨B0_l1.drew, B3_l1.drew⟩ (fun zH => ?_)
   refine zT 0 rfl (by kernel_rfl) (fun _ _ _ => id) rfl (fun _ _ => by go_simp <;> with_reducible rfl) zH ?_
   simp only [Act.put, zA, zB, zC]
   refine zT 1 rfl (by kernel_rfl) (fun _ _ _ => id) rfl (fun _ _ => by go_simp <;> with_reducible rfl) zH ?_
   simp only [Act.put, zA, zB, zC]
   refine zT 2 rfl (by kernel_rfl) (fun _ _ _ => id) rfl (fun _ _ => by go_simp <;> with_reducible rfl) zH ?_
   simp only [Act.put, zA, zB, zC]
   refine zT 3 rfl (by kernel_rfl) (fun _ _ _ => id) rfl (fun _ _ => by go_simp <;> with_reducible rfl) zH ?_
   simp only [Act.put, zA, zB, zC]
   refine zT 4 rfl (by kernel_rfl) (fun _ _ _ => id) rfl (fun _ _ => by go_simp <;> with_reducible rfl) zH ?_
   simp only [Act.put, zA, zB, zC]
   refine zT 5 rfl (by kernel_rfl) (fun _ _ _ => id) rfl (fun _ _ => by have hi0 : (u : Int) < 6 := (by omega); go_simp <;> with_reducible rfl) zH ?_
   simp only [Act.put, zA, zB, zC]
   refine zT 6 rfl (by kernel_rfl) (fun _ _ _ => id) rfl (fun _ _ => by have hi0 : (i : Int) < 6 := (by omega); go_simp <;> with_reducible rfl) zH ?_
   simp only [Act.put, zA, zB, zC]
   refine zT 7 rfl (by kernel_rfl) (fun _ _ _ => id) rfl (fun wx hS => by have hc0 : wx.cell? ⟨w.heap.size, u * 6 + i, none⟩ = some (.int .i64 (l (u * 6 + i))) := row_c hS.1 (u * 6 + i) (by omega); go_simp <;> with_reducible rfl) zH ?_
   simp only [Act.put, zA, zB, zC]
   refine zT 8 rfl (by kernel_rfl) (fun _ _ _ => id) rfl (fun _ _ => by go_simp <;> with_reducible rfl) zH ?_
   simp only [Act.put, zA, zB, zC]
   refine zT 9 rfl (by kernel_rfl) (fun _ _ _ => id) rfl (fun _ _ => by have hi0 : (u : Int) < 6 := (by omega); go_simp <;> with_reducible rfl) zH ?_
   simp only [Act.put, zA, zB, zC]
   refine zT 10 rfl (by kernel_rfl) (fun _ _ _ => id) rfl (fun wx hS => by have hc0 : wx.cell? ⟨w.heap.size + 1 + 1 + 1, u, none⟩ = some (.int .i64 (s0.1 u)) := row_c hS.2 u (by omega); go_simp <;> with_reducible rfl) zH ?_
   simp only [Act.put, zA, zB, zC]
   refine zK 11 (by kernel_rfl) rfl (fun K hK => ?_)
   go_simp
   refine (Mul_any b s1.2 (l (u * 6 + i)) (s0.1 u) _ BF_l1.drew).mono ?_
   rintro e w4 ⟨rfl, f4, k4⟩
   generalize e4 : mulS s1.2 (l (u * 6 + i)) (s0.1 u) = r4 at f4 ⊢
   have E4 : Hid _ := e4
   clear e4
   have K4 : Kept b w w4 := Kept.trans Kl1.drew k4
   have B0_4 := B0_l1.drew.kept k4 (zG y1_BF)
   have B1_4 := B1_l1.drew.kept k4 (zG y2_BF)
   have B2_4 := B2_l1.drew.kept k4 (zG y3_BF)
   have B3_4 := B3_l1.drew.kept k4 (zG y4_BF)
   have B4_4 := B4_l1.drew.kept k4 (zG y5_BF)
   have z4 := B4_4.lies
   clear zH
   refine hK.out _ _ ⟨B0_4, B3_4⟩ (fun zH => ?_)
   clear hK K BF_l1 B0_l1 B1_l1 B2_l1 B3_l1 B4_l1 k4
   refine zK 12 (by kernel_rfl) rfl (fun K hK => ?_)
   go_simp
   refine (Sub_any b r4.2 s1.1 r4.1 _ f4).mono ?_
   rintro e w5 ⟨rfl, f5, k5⟩
   generalize e5 : subS r4.2 s1.1 r4.1 = r5 at f5 ⊢
   have E5 : Hid _ := e5
   clear e5
   have K5 := Kept.trans K4 k5
   have B0_5 := B0_4.kept k5 (zG y1_BF)
   have B1_5 := B1_4.kept k5 (zG y2_BF)
   have B2_5 := B2_4.kept k5 (zG y3_BF)
   have B3_5 := B3_4.kept k5 (zG y4_BF)
   have B4_5 := B4_4.kept k5 (zG y5_BF)
   have z5 := B4_5.lies
   clear zH
   refine hK.out _ _ ⟨B0_5, B3_5⟩ (fun zH => ?_)
   clear hK K K4 f4 B0_4 B1_4 B2_4 B3_4 B4_4 k5
   refine zT 13 rfl (by kernel_rfl) (fun _ _ _ => id) rfl (fun _ _ => by go_simp <;> with_reducible rfl) zH ?_
   simp only [Act.put, zA, zB, zC]
   refine wpAnyH_done (by kernel_rfl) ?_ _
   clear zH
   go_wp2_with fail
   have hs1 : Hid (mSolveS_l1 l s0 i ((r2.1 i), s0.2) (k + 1) = (r5.1, r5.2)) := by show _ = _; unfold mSolveS_l1; simp only [Xu.out, El1.out, E4.out, E5.out]
   rw [hJ1.out]
   intro G_ hG_
   exact hG_ (r5.1, r5.2) _ _ _ _ _ _ _ _ _ _ _ _ _ _ _ _ _ _ _ _ _ _ _ _ _ _ _ _ _ _ _ _ _ _ _ _ _ _ _ _ _ _ _ _ _ _ _ _ _ _ _ _ _ _ _ _ _ _ hs1 (show _ = _ by omega) rfl K5 f5 B0_5 B1_5 B2_5 B3_5 B4_5
  ·intro a Wl1 hI R
   rw [hJ1.out] at hI
   refine hI _ ?_
   clear hI hJ1
   intro r6 n1 n2 n4 n6 n7 n14 n15 n16 n17 n18 n19 n20 n21 n22 n23 n24 n25 n26 n27 n28 n29 n30 n31 n32 n33 n34 n35 n36 n37 n38 n39 n40 n41 n42 n43 n44 n45 n46 n47 n48 n49 n50 n51 n52 n53 n54 n55 n56 n57 n58 n59 n60 n61 n62 n63 n64 n65 v1 E6 V1 ea Kl1 BF_l1 B0_l1 B1_l1 B2_l1 B3_l1 B4_l1
   subst ea
   have zl1_BF := BF_l1.lies
   have zl1_B0 := B0_l1.lies
   have zl1_B1 := B1_l1.lies
   have zl1_B2 := B2_l1.lies
   have zl1_B3 := B3_l1.lies
   have zl1_B4 := B4_l1.lies
   obtain rfl : v1 = (n : Int) := by have := V1.out; omega
   clear V1
   have c8_B0_0 : Wl1.cell? ⟨w.heap.size, i * 6 + i, none⟩ = some (.int .i64 (l (i * 6 + i))) := row_c B0_l1 (i * 6 + i) (by omega)
   have i8_1 : (i : Int) < 6 := by omega
   go_wp2_with fail
   refine (Div_any b r6.2 r6.1 (l (i * 6 + i)) _ BF_l1).mono ?_
   rintro e w7 ⟨rfl, f7, k7⟩
   generalize e7 : divS r6.2 r6.1 (l (i * 6 + i)) = r7 at f7 ⊢
   have E7 : Hid _ := e7
   clear e7
   have K7 : Kept b w w7 := Kept.trans Kl1 k7
   have B0_7 := B0_l1.kept k7 (zG y1_BF)
   have B1_7 := B1_l1.kept k7 (zG y2_BF)
   have B2_7 := B2_l1.kept k7 (zG y3_BF)
   have B3_7 := B3_l1.kept k7 (zG y4_BF)
   have B4_7 := B4_l1.kept k7 (zG y5_BF)
   have z7 := B4_7.lies
   clear c8_B0_0 i8_1 BF_l1 B0_l1 B1_l1 B2_l1 B3_l1 B4_l1 k7
   have c9_B3_0 : w7.cell? ⟨w.heap.size + 1 + 1 + 1, i, none⟩ = some (.int .i64 (s0.1 i)) := row_c B3_7 i (by omega)
   have g9_B3_1 := row_f B3_7 i (by omega)
   have i9_2 : (i : Int) < 6 := by omega
   go_wp2_with fail
   clear c9_B3_0 g9_B3_1 i9_2
   have hs0 : Hid (mSolveS_l0 l n r2 ((fun _ => 0), r2.2) (d + 1) = ((updF s0.1 i r7.1), r7.2)) := by show _ = _; unfold mSolveS_l0; simp only [Xi.out, El0.out, E6.out, E7.out]
   rw [hJ0.out]
   intro G_ hG_
   exact hG_ ((updF s0.1 i r7.1), r7.2) _ _ _ _ _ _ _ _ _ _ _ _ _ _ _ _ _ _ _ _ _ _ _ _ _ _ _ _ _ _ _ _ _ _ _ _ _ _ _ _ _ _ _ _ _ _ _ _ _ _ _ _ _ _ _ _ _ _ _ _ hs0 (show _ = _ by omega) rfl (K7.new _ _ (by omega) _) (f7.new (w.heap.size + 1 + 1 + 1) i (zL y4_BF) (.int .i64 r7.1)) (B0_7.new (w.heap.size + 1 + 1 + 1) i (zL y4_B0) (.int .i64 r7.1)) (B1_7.new (w.heap.size + 1 + 1 + 1) i (zL y4_B1) (.int .i64 r7.1)) (B2_7.new (w.heap.size + 1 + 1 + 1) i (zL y4_B2) (.int .i64 r7.1)) (row_put B3_7 i (by omega) r7.1) (B4_7.new (w.heap.size + 1 + 1 + 1) i (zG y5_B3) (.int .i64 r7.1))
 ·intro a Wl0 hI R
  rw [hJ0.out] at hI
  refine hI _ ?_
  clear hI hJ0
  intro r4 m1 m2 m4 m6 m7 m12 m13 m14 m15 m16 m17 m18 m19 m20 m21 m22 m23 m24 m25 m26 m27 m28 m29 m30 m31 m32 m33 m34 m35 m36 m37 m38 m39 m40 m41 m42 m43 m44 m45 m46 m47 m48 m49 m50 m51 m52 m53 m54 m55 m56 m57 m58 m59 m60 m61 m62 m63 m64 m65 v0 E4 V0 ea Kl0 BF_l0 B0_l0 B1_l0 B2_l0 B3_l0 B4_l0
  subst ea
  have zl0_BF := BF_l0.lies
  have zl0_B0 := B0_l0.lies
  have zl0_B1 := B1_l0.lies
  have zl0_B2 := B2_l0.lies
  have zl0_B3 := B3_l0.lies
  have zl0_B4 := B4_l0.lies
  obtain rfl : v0 = -1 := by have := V0.out; omega
  clear V0
  go_wp2_with (refine row_load rfl rfl rfl B3_l0 (by kernel_rfl) (by rw [row_len]; kernel_rfl) ?_)
  refine (msoundR_any b r4.2 r4.1 _ BF_l0).mono ?_
  rintro e w5 ⟨rfl, f5, k5⟩
  generalize e5 : msoundRS r4.2 r4.1 = r5 at f5 ⊢
  have E5 : Hid _ := e5
  clear e5
  have K5 : Kept b w w5 := Kept.trans Kl0 k5
  have B0_5 := B0_l0.kept k5 (zG y1_BF)
  have B1_5 := B1_l0.kept k5 (zG y2_BF)
  have B2_5 := B2_l0.kept k5 (zG y3_BF)
  have B3_5 := B3_l0.kept k5 (zG y4_BF)
  have B4_5 := B4_l0.kept k5 (zG y5_BF)
  have z5 := B4_5.lies
  clear BF_l0 B0_l0 B1_l0 B2_l0 B3_l0 B4_l0 k5
  go_wp2_with (refine store_stop rfl (by kernel_rfl) ?_)
  refine Stop.mk (store_row (l' := row 6 r5.1) rfl rfl rfl rfl B2_5 (by simp only [row_len]) (by rw [row_len]; kernel_rfl) (row_one _ _) ?_)
  intro w6 B2_6 o6
  have K6 : Kept b w w6 := Kept.off K5 o6 (by omega)
  have BF_6 := f5.off o6 (zL y3_BF)
  have B0_6 := B0_5.off o6 (zL y3_B0)
  have B1_6 := B1_5.off o6 (zL y3_B1)
  have B3_6 := B3_5.off o6 (zG y4_B2)
  have B4_6 := B4_5.off o6 (zG y5_B2)
  have z6_B2 := B2_6.lies
  have z6_BF := BF_6.lies
  have z6_B0 := B0_6.lies
  have z6_B1 := B1_6.lies
  have z6_B3 := B3_6.lies
  have z6_B4 := B4_6.lies
  clear K5 B2_5 f5 B0_5 B1_5 B3_5 B4_5 o6
  go_wp2_with (with_reducible refine post_stop ?_)
  refine Stop.mk ?_
  refine bodyPost_ret (v := .agg (row 6 r5.1).toArray) (results_arr Try.results43 B2_6 rfl (by kernel_rfl) (by rw [row_len]; kernel_rfl)) rfl ?_
  have hs : mSolveS bad l p n = (r5.1, r5.2) := by unfold mSolveS; simp only [E2.out, E4.out, E5.out]
  rw [hs]
  exact ⟨rfl, BF_6, K6⟩
end Go.Proofs.Ytooehgijllihdaa
namespace Go.Proofs.Ytooehgijllihdaa
open Go.RowKit
set_option maxRecDepth 100000
set_option maxHeartbeats 20000000
theorem msum_any (b : Nat) (bad : Bool) (p : Nat → Int) (q : Nat → Int) (n : Nat) (w : World) (hw : Fl b bad w) (h6 : n ≤ 6) :
  Calls Try.prog 71 #[.pointer (some ⟨b, 0, none⟩), .agg (row 6 p).toArray, .agg (row 6 q).toArray, .int .i64 (n : Int)] w fun e w' => e = .returned (.int .i64 ((msumS bad p q n).1)) ∧ Fl b (msumS bad p q n).2 w' ∧ Kept b w w' := by
 have hl := hw.lies
 go_enter Try.func71, Try.ntmps71
 have y1_BF := hw.lies
 have y2_BF : b < w.heap.size + 1 := (Nat.lt_succ_of_lt hw.lies)
 have y2_B0 : w.heap.size < w.heap.size + 1 := by omega
 go_wp2_with fail
 obtain ⟨J0, hJ0⟩ : ∃ J : Nat → Act → World → Prop, Hid (J = fun k a Wl0 => ∀ G_ : Prop, (∀ (s0 : Int × Bool) (m1 m2 m3 m4 m7 m8 m10 m13 m14 m15 m16 m17 m18 m19 m20 m21 m22 m23 m24 m25 m26 m27 : Value), Hid (msumS_l0 p q (0, bad) k = s0) → a = { tmps := #[.pointer (some ⟨b, 0, none⟩), m1, m2, m3, m4, .pointer (some ⟨w.heap.size, 0, none⟩), .pointer (some ⟨w.heap.size + 1, 0, none⟩), m7, m8, .int .i64 s0.1, m10, .int .i64 (n : Int), .int .i64 (k : Int), m13, m14, m15, m16, m17, m18, m19, m20, m21, m22, m23, m24, m25, m26, m27], defers := [] } → Kept b w Wl0 → Fl b s0.2 Wl0 → Arr w.heap.size (row 6 p) Wl0 → Arr (w.heap.size + 1) (row 6 q) Wl0 → G_) → G_) := ⟨_, rfl⟩
 refine rounds_up J0 n ?_ ?_ ?_
 ·rw [hJ0.out]
  intro G_ hG_
  exact hG_ (0, bad) _ _ _ _ _ _ _ _ _ _ _ _ _ _ _ _ _ _ _ _ _ _ rfl rfl (((Kept.refl b w).al _).al _) ((hw.alloc _).alloc _) ((Arr_at _ _ (row 6 p) _ (by simp)).alloc _) (Arr_at _ _ (row 6 q) _ (by simp))
 ·intro k a Wl0 hk hI R hR
  rw [hJ0.out] at hI
  refine hI _ ?_
  clear hI
  intro s0 m1 m2 m3 m4 m7 m8 m10 m13 m14 m15 m16 m17 m18 m19 m20 m21 m22 m23 m24 m25 m26 m27 El0 ea Kl0 BF_l0 B0_l0 B1_l0
  subst ea
  have zl0_BF := BF_l0.lies
  have zl0_B0 := B0_l0.lies
  have zl0_B1 := B1_l0.lies
  go_wp2_with fail
  refine wp_region_held_drew (S := fun w' => Arr w.heap.size (row 6 p) w' ∧ Arr (w.heap.size + 1) (row 6 q) w') (by kernel_rfl) ⟨B0_l0.drew, B1_l0.drew⟩ (fun zH => ?_)
  refine zT 0 rfl (by kernel_rfl) (fun _ _ _ => id) rfl (fun _ _ => by go_simp <;> with_reducible rfl) zH ?_
  simp only [Act.put, zA, zB, zC]
  refine zT 1 rfl (by kernel_rfl) (fun _ _ _ => id) rfl (fun _ _ => by go_simp <;> with_reducible rfl) zH ?_
  simp only [Act.put, zA, zB, zC]
  refine zT 2 rfl (by kernel_rfl) (fun _ _ _ => id) rfl (fun _ _ => by go_simp <;> with_reducible rfl) zH ?_
  simp only [Act.put, zA, zB, zC]
  refine zT 3 rfl (by kernel_rfl) (fun _ _ _ => id) rfl (fun _ _ => by go_simp <;> with_reducible rfl) zH ?_
  simp only [Act.put, zA, zB, zC]
  refine zT 4 rfl (by kernel_rfl) (fun _ _ _ => id) rfl (fun _ _ => by have hi0 : (k : Int) < 6 := (by omega); go_simp <;> with_reducible rfl) zH ?_
  simp only [Act.put, zA, zB, zC]
  refine zT 5 rfl (by kernel_rfl) (fun _ _ _ => id) rfl (fun wx hS => by have hc0 : wx.cell? ⟨w.heap.size, k, none⟩ = some (.int .i64 (p k)) := row_c hS.1 k (by omega); go_simp <;> with_reducible rfl) zH ?_
  simp only [Act.put, zA, zB, zC]
  refine zT 6 rfl (by kernel_rfl) (fun _ _ _ => id) rfl (fun _ _ => by go_simp <;> with_reducible rfl) zH ?_
  simp only [Act.put, zA, zB, zC]
  refine zT 7 rfl (by kernel_rfl) (fun _ _ _ => id) rfl (fun _ _ => by have hi0 : (k : Int) < 6 := (by omega); go_simp <;> with_reducible rfl) zH ?_
  simp only [Act.put, zA, zB, zC]
  refine zT 8 rfl (by kernel_rfl) (fun _ _ _ => id) rfl (fun wx hS => by have hc0 : wx.cell? ⟨w.heap.size + 1, k, none⟩ = some (.int .i64 (q k)) := row_c hS.2 k (by omega); go_simp <;> with_reducible rfl) zH ?_
  simp only [Act.put, zA, zB, zC]
  refine zK 9 (by kernel_rfl) rfl (fun K hK => ?_)
  go_simp
  refine (Mul_any b s0.2 (p k) (q k) _ BF_l0.drew).mono ?_
  rintro e w1 ⟨rfl, f1, k1⟩
  generalize e1 : mulS s0.2 (p k) (q k) = r1 at f1 ⊢
  have E1 : Hid _ := e1
  clear e1
  have K1 : Kept b w w1 := Kept.trans Kl0.drew k1
  have B0_1 := B0_l0.drew.kept k1 (zG y1_BF)
  have B1_1 := B1_l0.drew.kept k1 (zG y2_BF)
  have z1 := B1_1.lies
  clear zH
  refine hK.out _ _ ⟨B0_1, B1_1⟩ (fun zH => ?_)
  clear hK K BF_l0 B0_l0 B1_l0 k1
  refine zK 10 (by kernel_rfl) rfl (fun K hK => ?_)
  go_simp
  refine (Add_any b r1.2 s0.1 r1.1 _ f1).mono ?_
  rintro e w2 ⟨rfl, f2, k2⟩
  generalize e2 : addS r1.2 s0.1 r1.1 = r2 at f2 ⊢
  have E2 : Hid _ := e2
  clear e2
  have K2 := Kept.trans K1 k2
  have B0_2 := B0_1.kept k2 (zG y1_BF)
  have B1_2 := B1_1.kept k2 (zG y2_BF)
  have z2 := B1_2.lies
  clear zH
  refine hK.out _ _ ⟨B0_2, B1_2⟩ (fun zH => ?_)
  clear hK K K1 f1 B0_1 B1_1 k2
  refine zT 11 rfl (by kernel_rfl) (fun _ _ _ => id) rfl (fun _ _ => by go_simp <;> with_reducible rfl) zH ?_
  simp only [Act.put, zA, zB, zC]
  refine wpAnyH_done (by kernel_rfl) ?_ _
  clear zH
  go_wp2_with fail
  have hs0 : Hid (msumS_l0 p q (0, bad) (k + 1) = (r2.1, r2.2)) := by show _ = _; unfold msumS_l0; simp only [El0.out, E1.out, E2.out]
  rw [hJ0.out]
  intro G_ hG_
  exact hG_ (r2.1, r2.2) _ _ _ _ _ _ _ _ _ _ _ _ _ _ _ _ _ _ _ _ _ _ hs0 rfl K2 f2 B0_2 B1_2
 ·intro a Wl0 hI R
  rw [hJ0.out] at hI
  refine hI _ ?_
  clear hI hJ0
  intro r3 m1 m2 m3 m4 m7 m8 m10 m13 m14 m15 m16 m17 m18 m19 m20 m21 m22 m23 m24 m25 m26 m27 E3 ea Kl0 BF_l0 B0_l0 B1_l0
  subst ea
  have zl0_BF := BF_l0.lies
  have zl0_B0 := B0_l0.lies
  have zl0_B1 := B1_l0.lies
  go_wp2
  go_ret
  have hs : msumS bad p q n = (r3.1, r3.2) := by unfold msumS; simp only [E3.out]
  rw [hs]
  exact ⟨rfl, BF_l0, Kl0⟩
end Go.Proofs.Ytooehgijllihdaa
namespace Go.Proofs.Ytooehgijllihdaa
open Go.RowKit
set_option maxRecDepth 100000
set_option maxHeartbeats 20000000
end Go.Proofs.Ytooehgijllihdaa
namespace Go.Proofs.Ytooehgijllihdaa
open Go.RowKit
set_option maxRecDepth 100000
set_option maxHeartbeats 20000000
theorem mApply_any (b : Nat) (bad : Bool) (m : Nat → Int) (p : Nat → Int) (n : Nat) (w : World) (hw : Fl b bad w) (h1 : 1 ≤ n) (h6 : n ≤ 6) :
  Calls Try.prog 42 #[.pointer (some ⟨b, 0, none⟩), .agg (row 36 m).toArray, .agg (row 6 p).toArray, .int .i64 (n : Int)] w fun e w' => e = .returned (.agg (row 6 ((mApplyS bad m p n).1)).toArray) ∧ Fl b (mApplyS bad m p n).2 w' ∧ Kept b w w' := by
 have hl := hw.lies
 go_enter Try.func42, Try.ntmps42
 have y1_BF := hw.lies
 have y2_BF : b < w.heap.size + 1 := (Nat.lt_succ_of_lt hw.lies)
 have y2_B0 : w.heap.size < w.heap.size + 1 := by omega
 have y3_BF : b < w.heap.size + 1 + 1 := (Nat.lt_succ_of_lt (Nat.lt_succ_of_lt hw.lies))
 have y3_B0 : w.heap.size < w.heap.size + 1 + 1 := by omega
 have y3_B1 : w.heap.size + 1 < w.heap.size + 1 + 1 := by omega
 have y4_BF : b < w.heap.size + 1 + 1 + 1 := (Nat.lt_succ_of_lt (Nat.lt_succ_of_lt (Nat.lt_succ_of_lt hw.lies)))
 have y4_B0 : w.heap.size < w.heap.size + 1 + 1 + 1 := by omega
 have y4_B1 : w.heap.size + 1 < w.heap.size + 1 + 1 + 1 := by omega
 have y4_B2 : w.heap.size + 1 + 1 < w.heap.size + 1 + 1 + 1 := by omega
 go_wp2_with fail
 refine (mfits_any b bad (n : Int) _ ((((hw.alloc _).alloc _).alloc _).alloc _)).mono ?_
 rintro e w1 ⟨rfl, f1, k1⟩
 rw [(fits_in bad h1 h6)] at f1 ⊢
 dsimp only at f1 ⊢
 have K1 : Kept b w w1 := Kept.trans (((((Kept.refl b w).al _).al _).al _).al _) k1
 have B0_1 := ((((Arr_at _ w.heap.size (row 36 m) _ (by simp)).alloc _).alloc _).alloc _).kept k1 (zG y1_BF)
 have B1_1 := (((Arr_at _ (w.heap.size + 1) (row 6 p) _ (by simp)).alloc _).alloc _).kept k1 (zG y2_BF)
 have B2_1 := ((Arr_at _ (w.heap.size + 1 + 1) [.int .i64 0, .int .i64 0, .int .i64 0, .int .i64 0, .int .i64 0, .int .i64 0] _ (by simp)).alloc _).kept k1 (zG y3_BF)
 have B3_1 := (Arr_at _ (w.heap.size + 1 + 1 + 1) [.int .i64 0, .int .i64 0, .int .i64 0, .int .i64 0, .int .i64 0, .int .i64 0] _ (by simp)).kept k1 (zG y4_BF)
 have z1 := B3_1.lies
 clear k1
 go_wp2_with fail
 obtain ⟨J0, hJ0⟩ : ∃ J : Nat → Act → World → Prop, Hid (J = fun i a Wl0 => ∀ G_ : Prop, (∀ (s0 : (Nat → Int) × Bool) (m1 m2 m4 m7 m10 m11 m12 m13 m14 m15 m18 m19 m20 m21 m22 m23 m24 m25 m26 m27 m28 m29 m30 m31 m32 : Value), Hid (mApplyS_l0 m p n ((fun _ => 0), bad) i = s0) → a = { tmps := #[.pointer (some ⟨b, 0, none⟩), m1, m2, .int .i64 (n : Int), m4, .pointer (some ⟨w.heap.size, 0, none⟩), .pointer (some ⟨w.heap.size + 1, 0, none⟩), m7, .pointer (some ⟨w.heap.size + 1 + 1, 0, none⟩), .pointer (some ⟨w.heap.size + 1 + 1 + 1, 0, none⟩), m10, m11, m12, m13, m14, m15, .int .i64 (n : Int), .int .i64 (i : Int), m18, m19, m20, m21, m22, m23, m24, m25, m26, m27, m28, m29, m30, m31, m32], defers := [] } → Kept b w Wl0 → Fl b s0.2 Wl0 → Arr w.heap.size (row 36 m) Wl0 → Arr (w.heap.size + 1) (row 6 p) Wl0 → Arr (w.heap.size + 1 + 1) (row 6 (fun _ => 0)) Wl0 → Arr (w.heap.size + 1 + 1 + 1) (row 6 s0.1) Wl0 → G_) → G_) := ⟨_, rfl⟩
 refine rounds_up J0 n ?_ ?_ ?_
 ·rw [hJ0.out]
  intro G_ hG_
  exact hG_ ((fun _ => 0), bad) _ _ _ _ _ _ _ _ _ _ _ _ _ _ _ _ _ _ _ _ _ _ _ _ _ rfl rfl K1 f1 B0_1 B1_1 B2_1 B3_1
 ·intro i a Wl0 hi hI R hR
  rw [hJ0.out] at hI
  refine hI _ ?_
  clear hI
  intro s0 m1 m2 m4 m7 m10 m11 m12 m13 m14 m15 m18 m19 m20 m21 m22 m23 m24 m25 m26 m27 m28 m29 m30 m31 m32 El0 ea Kl0 BF_l0 B0_l0 B1_l0 B2_l0 B3_l0
  subst ea
  have zl0_BF := BF_l0.lies
  have zl0_B0 := B0_l0.lies
  have zl0_B1 := B1_l0.lies
  have zl0_B2 := B2_l0.lies
  have zl0_B3 := B3_l0.lies
  go_wp2_with fail
  refine wp_region_held_drew (S := fun w' => Arr w.heap.size (row 36 m) w' ∧ Arr (w.heap.size + 1) (row 6 p) w') (by kernel_rfl) ⟨B0_l0.drew, B1_l0.drew⟩ (fun zH => ?_)
  refine zT 0 rfl (by kernel_rfl) (fun _ _ _ => id) rfl (fun _ _ => by go_simp <;> with_reducible rfl) zH ?_
  simp only [Act.put, zA, zB, zC]
  refine zT 1 rfl (by kernel_rfl) (fun _ _ _ => id) rfl (fun _ _ => by go_simp <;> with_reducible rfl) zH ?_
  simp only [Act.put, zA, zB, zC]
  refine zT 2 rfl (by kernel_rfl) (fun _ _ _ => id) rfl (fun _ _ => by go_simp <;> with_reducible rfl) zH ?_
  simp only [Act.put, zA, zB, zC]
  refine zT 3 rfl (by kernel_rfl) (fun _ _ _ => id) rfl (fun _ _ => by have hi0 : (i : Int) < 6 := (by omega); go_simp <;> with_reducible rfl) zH ?_
  simp only [Act.put, zA, zB, zC]
  refine take_at (i := 4) rfl (by kernel_rfl) (by kernel_rfl) (by kernel_rfl) (fun _ _ _ h => h) (part_yield (M := 6) (by rfl) rfl rfl (fun _ hS => hS.1) (by omega) (by kernel_rfl) (by rw [row_len]; kernel_rfl)) zH ?_
  simp only [Act.put, zA, zB, zC]
  refine take_at (i := 5) rfl (by kernel_rfl) (by kernel_rfl) (by kernel_rfl) (fun _ _ _ h => h) (row_yield (by rfl) rfl rfl (fun _ hS => hS.2) (by kernel_rfl) (by rw [row_len]; kernel_rfl)) zH ?_
  simp only [Act.put, zA, zB, zC]
  refine zT 6 rfl (by kernel_rfl) (fun _ _ _ => id) rfl (fun _ _ => by go_simp <;> with_reducible rfl) zH ?_
  simp only [Act.put, zA, zB, zC]
  refine zK 7 (by kernel_rfl) rfl (fun K hK => ?_)
  go_simp
  refine (msum_any b s0.2 (fun x_ => m (i * 6 + x_)) p n _ BF_l0.drew (by omega)).mono ?_
  rintro e w2 ⟨rfl, f2, k2⟩
  generalize e2 : msumS s0.2 (fun x_ => m (i * 6 + x_)) p n = r2 at f2 ⊢
  have E2 : Hid _ := e2
  clear e2
  have K2 : Kept b w w2 := Kept.trans Kl0.drew k2
  have B0_2 := B0_l0.drew.kept k2 (zG y1_BF)
  have B1_2 := B1_l0.drew.kept k2 (zG y2_BF)
  have B2_2 := B2_l0.drew.kept k2 (zG y3_BF)
  have B3_2 := B3_l0.drew.kept k2 (zG y4_BF)
  have z2 := B3_2.lies
  clear zH
  refine hK.out _ _ ⟨B0_2, B1_2⟩ (fun zH => ?_)
  clear hK K BF_l0 B0_l0 B1_l0 B2_l0 B3_l0 k2
  refine zT 8 rfl (by kernel_rfl) (fun _ _ _ => id) rfl (fun _ _ => by have hi0 : (i : Int) < 6 := (by omega); go_simp <;> with_reducible rfl) zH ?_
  simp only [Act.put, zA, zB, zC]
  refine zK 9 (by kernel_rfl) rfl (fun K hK => ?_)
  have c4_B3_0 : w2.cell? ⟨w.heap.size + 1 + 1 + 1, i, none⟩ = some (.int .i64 (s0.1 i)) := row_c B3_2 i (by omega)
  have g4_B3_1 := row_f B3_2 i (by omega)
  go_simp
  clear zH
  refine hK.out _ _ ⟨(B0_2.new (w.heap.size + 1 + 1 + 1) i (zL y4_B0) (.int .i64 r2.1)), (B1_2.new (w.heap.size + 1 + 1 + 1) i (zL y4_B1) (.int .i64 r2.1))⟩ (fun zH => ?_)
  clear hK K c4_B3_0 g4_B3_1
  refine wpAnyH_done (by kernel_rfl) ?_ _
  clear zH
  go_wp2_with fail
  have hs0 : Hid (mApplyS_l0 m p n ((fun _ => 0), bad) (i + 1) = ((updF s0.1 i r2.1), r2.2)) := by show _ = _; unfold mApplyS_l0; simp only [El0.out, E2.out]
  rw [hJ0.out]
  intro G_ hG_
  exact hG_ ((updF s0.1 i r2.1), r2.2) _ _ _ _ _ _ _ _ _ _ _ _ _ _ _ _ _ _ _ _ _ _ _ _ _ hs0 rfl (K2.new _ _ (by omega) _) (f2.new (w.heap.size + 1 + 1 + 1) i (zL y4_BF) (.int .i64 r2.1)) (B0_2.new (w.heap.size + 1 + 1 + 1) i (zL y4_B0) (.int .i64 r2.1)) (B1_2.new (w.heap.size + 1 + 1 + 1) i (zL y4_B1) (.int .i64 r2.1)) (B2_2.new (w.heap.size + 1 + 1 + 1) i (zL y4_B2) (.int .i64 r2.1)) (row_put B3_2 i (by omega) r2.1)
 ·intro a Wl0 hI R
  rw [hJ0.out] at hI
  refine hI _ ?_
  clear hI hJ0
  intro r3 m1 m2 m4 m7 m10 m11 m12 m13 m14 m15 m18 m19 m20 m21 m22 m23 m24 m25 m26 m27 m28 m29 m30 m31 m32 E3 ea Kl0 BF_l0 B0_l0 B1_l0 B2_l0 B3_l0
  subst ea
  have zl0_BF := BF_l0.lies
  have zl0_B0 := B0_l0.lies
  have zl0_B1 := B1_l0.lies
  have zl0_B2 := B2_l0.lies
  have zl0_B3 := B3_l0.lies
  go_wp2_with (refine row_load rfl rfl rfl B3_l0 (by kernel_rfl) (by rw [row_len]; kernel_rfl) ?_)
  refine (msoundR_any b r3.2 r3.1 _ BF_l0).mono ?_
  rintro e w4 ⟨rfl, f4, k4⟩
  generalize e4 : msoundRS r3.2 r3.1 = r4 at f4 ⊢
  have E4 : Hid _ := e4
  clear e4
  have K4 : Kept b w w4 := Kept.trans Kl0 k4
  have B0_4 := B0_l0.kept k4 (zG y1_BF)
  have B1_4 := B1_l0.kept k4 (zG y2_BF)
  have B2_4 := B2_l0.kept k4 (zG y3_BF)
  have B3_4 := B3_l0.kept k4 (zG y4_BF)
  have z4 := B3_4.lies
  clear BF_l0 B0_l0 B1_l0 B2_l0 B3_l0 k4
  go_wp2_with (refine store_stop rfl (by kernel_rfl) ?_)
  refine Stop.mk (store_row (l' := row 6 r4.1) rfl rfl rfl rfl B2_4 (by simp only [row_len]) (by rw [row_len]; kernel_rfl) (row_one _ _) ?_)
  intro w5 B2_5 o5
  have K5 : Kept b w w5 := Kept.off K4 o5 (by omega)
  have BF_5 := f4.off o5 (zL y3_BF)
  have B0_5 := B0_4.off o5 (zL y3_B0)
  have B1_5 := B1_4.off o5 (zL y3_B1)
  have B3_5 := B3_4.off o5 (zG y4_B2)
  have z5_B2 := B2_5.lies
  have z5_BF := BF_5.lies
  have z5_B0 := B0_5.lies
  have z5_B1 := B1_5.lies
  have z5_B3 := B3_5.lies
  clear K4 B2_4 f4 B0_4 B1_4 B3_4 o5
  go_wp2_with (with_reducible refine post_stop ?_)
  refine Stop.mk ?_
  refine bodyPost_ret (v := .agg (row 6 r4.1).toArray) (results_arr Try.results42 B2_5 rfl (by kernel_rfl) (by rw [row_len]; kernel_rfl)) rfl ?_
  have hs : mApplyS bad m p n = (r4.1, r4.2) := by unfold mApplyS; simp only [E3.out, E4.out]
  rw [hs]
  exact ⟨rfl, BF_5, K5⟩
end Go.Proofs.Ytooehgijllihdaa
namespace Go.Proofs.Ytooehgijllihdaa
open Go.RowKit
set_option maxRecDepth 100000
set_option maxHeartbeats 20000000
end Go.Proofs.Ytooehgijllihdaa
namespace Go.Proofs.Ytooehgijllihdaa
open Go.RowKit
set_option maxRecDepth 100000
set_option maxHeartbeats 20000000
end Go.Proofs.Ytooehgijllihdaa
namespace Go.Proofs.Ytooehgijllihdaa
open Go.RowKit
set_option maxRecDepth 100000
set_option maxHeartbeats 20000000
theorem hRoot6_any (b : Nat) (bad : Bool) (m : Nat → Int) (w : World) (hw : Fl b bad w) :
  Calls Try.prog 41 #[.pointer (some ⟨b, 0, none⟩), .agg (row 36 m).toArray, .int .i64 6] w fun e w' => e = .returned (.agg (row 36 (zRoot6 bad m).1).toArray) ∧ Fl b (zRoot6 bad m).2 w' ∧ Kept b w w' := by
 rw [← mRoot6_eq]
 exact mRoot_any b bad m 6 w hw (by omega) (by omega)
theorem hSolve6_any (b : Nat) (bad : Bool) (l : Nat → Int) (p : Nat → Int) (w : World) (hw : Fl b bad w) :
  Calls Try.prog 43 #[.pointer (some ⟨b, 0, none⟩), .agg (row 36 l).toArray, .agg (row 6 p).toArray, .int .i64 6] w fun e w' => e = .returned (.agg (row 6 (zSolve6 bad l p).1).toArray) ∧ Fl b (zSolve6 bad l p).2 w' ∧ Kept b w w' := by
 rw [← mSolve6_eq]
 exact mSolve_any b bad l p 6 w hw (by omega) (by omega)
theorem hApply6_any (b : Nat) (bad : Bool) (m : Nat → Int) (p : Nat → Int) (w : World) (hw : Fl b bad w) :
  Calls Try.prog 42 #[.pointer (some ⟨b, 0, none⟩), .agg (row 36 m).toArray, .agg (row 6 p).toArray, .int .i64 6] w fun e w' => e = .returned (.agg (row 6 (zApply6 bad m p).1).toArray) ∧ Fl b (zApply6 bad m p).2 w' ∧ Kept b w w' := by
 rw [← mApply6_eq]
 exact mApply_any b bad m p 6 w hw (by omega) (by omega)
end Go.Proofs.Ytooehgijllihdaa
