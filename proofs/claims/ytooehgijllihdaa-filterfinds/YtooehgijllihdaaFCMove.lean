/- A part. -/
import Derived.Test.YtooehgijllihdaaXAct
import Derived.Test.YtooehgijllihdaaJC
import Derived.Test.YtooehgijllihdaaJH
import Derived.Test.YtooehgijllihdaaFCMoved
import Derived.Test.YtooehgijllihdaaFCAround
import Derived.Handy
import Derived.Deep.RegionHeld3
namespace Go.Proofs.Ytooehgijllihdaa
open Go.RowKit
set_option maxRecDepth 100000
set_option maxHeartbeats 20000000
theorem hMove_any (b : Nat) (bad : Bool) (g : Nat → Int) (v : V3) (ms : Int) (w : World) (hw : Fl b bad w) :
  Calls Try.prog 13 #[.pointer (some ⟨b, 0, none⟩), .agg (row 43 g).toArray, .agg #[.int .i64 v.1, .int .i64 v.2.1, .int .i64 v.2.2], .int .i64 ms] w fun e w' => e = .returned (.agg (row 43 ((hMoveS bad g v ms).1)).toArray) ∧ Fl b (hMoveS bad g v ms).2 w' ∧ Kept b w w' := by
 have hl := hw.lies
 go_enter Try.func13, Try.ntmps13
 have y1_BF := hw.lies
 have y2_BF : b < w.heap.size + 1 := (Nat.lt_succ_of_lt hw.lies)
 have y2_B0 : w.heap.size < w.heap.size + 1 := by omega
 have y3_BF : b < w.heap.size + 1 + 1 := (Nat.lt_succ_of_lt (Nat.lt_succ_of_lt hw.lies))
 have y3_B0 : w.heap.size < w.heap.size + 1 + 1 := by omega
 have y3_B1 : w.heap.size + 1 < w.heap.size + 1 + 1 := by omega
 by_cases hc1 : ms < 10
 ·have Hhc1 : Hid (ms < 10) := hc1
  go_wp2_with fail
  refine (Fail_any b bad  _ (((hw.alloc _).alloc _).alloc _)).mono ?_
  rintro e w1 ⟨rfl, f1, k1⟩
  try dsimp only
  have K1 : Kept b w w1 := Kept.trans ((((Kept.refl b w).al _).al _).al _) k1
  have B2_1 := (Arr_at _ (w.heap.size + 1 + 1) (row 43 (fun _ => 0)) _ (by simp)).kept k1 (zG y3_BF)
  have z1 := B2_1.lies
  clear k1
  go_wp2_with (refine store_stop rfl (by kernel_rfl) ?_)
  refine Stop.mk (store_row (l' := row 43 (fun _ => 0)) rfl rfl rfl rfl B2_1 (by simp only [row_len]) (by rw [row_len]; kernel_rfl) (row_one _ _) ?_)
  intro w2 B2_2 o2
  have K2 : Kept b w w2 := Kept.off K1 o2 (by omega)
  have BF_2 := f1.off o2 (zL y3_BF)
  have z2_B2 := B2_2.lies
  have z2_BF := BF_2.lies
  clear K1 B2_1 f1 o2
  go_wp2_with (with_reducible refine post_stop ?_)
  refine Stop.mk ?_
  refine bodyPost_ret (v := .agg (row 43 (fun _ => 0)).toArray) (results_arr Try.results13 B2_2 rfl (by kernel_rfl) (by rw [row_len]; kernel_rfl)) rfl ?_
  have hs : hMoveS bad g v ms = ((fun _ => 0), true) := by unfold hMoveS; rw [if_pos (by have := Hhc1.out; omega)]
  rw [hs]
  exact ⟨rfl, BF_2, K2⟩
 ·have Hhc1 : Hid (¬ ms < 10) := hc1
  by_cases hc2 : ms > 10000
  ·have Hhc2 : Hid (ms > 10000) := hc2
   go_wp2_with fail
   refine (Fail_any b bad  _ (((hw.alloc _).alloc _).alloc _)).mono ?_
   rintro e w1 ⟨rfl, f1, k1⟩
   try dsimp only
   have K1 : Kept b w w1 := Kept.trans ((((Kept.refl b w).al _).al _).al _) k1
   have B2_1 := (Arr_at _ (w.heap.size + 1 + 1) (row 43 (fun _ => 0)) _ (by simp)).kept k1 (zG y3_BF)
   have z1 := B2_1.lies
   clear k1
   go_wp2_with (refine store_stop rfl (by kernel_rfl) ?_)
   refine Stop.mk (store_row (l' := row 43 (fun _ => 0)) rfl rfl rfl rfl B2_1 (by simp only [row_len]) (by rw [row_len]; kernel_rfl) (row_one _ _) ?_)
   intro w2 B2_2 o2
   have K2 : Kept b w w2 := Kept.off K1 o2 (by omega)
   have BF_2 := f1.off o2 (zL y3_BF)
   have z2_B2 := B2_2.lies
   have z2_BF := BF_2.lies
   clear K1 B2_1 f1 o2
   go_wp2_with (with_reducible refine post_stop ?_)
   refine Stop.mk ?_
   refine bodyPost_ret (v := .agg (row 43 (fun _ => 0)).toArray) (results_arr Try.results13 B2_2 rfl (by kernel_rfl) (by rw [row_len]; kernel_rfl)) rfl ?_
   have hs : hMoveS bad g v ms = ((fun _ => 0), true) := by unfold hMoveS; rw [if_neg (by have := Hhc1.out; omega)]; rw [if_pos (by have := Hhc2.out; omega)]
   rw [hs]
   exact ⟨rfl, BF_2, K2⟩
  ·have Hhc2 : Hid (¬ ms > 10000) := hc2
   go_wp2_with (refine row_load (ty := 38) rfl rfl rfl (((Arr_at _ _ (row 43 g) _ (by simp)).alloc _).alloc _) (by kernel_rfl) (by rw [row_len]; kernel_rfl) ?_)
   refine (hPoints_any b bad g _ (((hw.alloc _).alloc _).alloc _)).mono ?_
   rintro e w1 ⟨rfl, f1, k1⟩
   generalize e1 : hPointsS bad g = r1 at f1 ⊢
   have E1 : Hid _ := e1
   clear e1
   try dsimp only
   have K1 : Kept b w w1 := Kept.trans ((((Kept.refl b w).al _).al _).al _) k1
   have B0_1 := (((Arr_at _ w.heap.size (row 43 g) _ (by simp)).alloc _).alloc _).kept k1 (zG y1_BF)
   have B1_1 := ((Arr_at _ (w.heap.size + 1) [.int .i64 v.1, .int .i64 v.2.1, .int .i64 v.2.2] _ (by simp)).alloc _).kept k1 (zG y2_BF)
   have B2_1 := (Arr_at _ (w.heap.size + 1 + 1) (row 43 (fun _ => 0)) _ (by simp)).kept k1 (zG y3_BF)
   have z1 := B2_1.lies
   clear k1
   have y4_BF := f1.lies
   have y4_B0 := B0_1.lies
   have y4_B1 := B1_1.lies
   have y4_B2 := B2_1.lies
   go_wp2_with (refine store_stop rfl (by kernel_rfl) ?_)
   refine Stop.mk (store_row (l' := row 78 r1.1) rfl rfl rfl rfl (Arr_at _ _ (row 78 (fun _ => 0)) _ (by simp)) (by simp only [row_len]) (by rw [row_len]; kernel_rfl) (row_one _ _) ?_)
   intro w2 B3_2 o2
   have K2 : Kept b w w2 := Kept.off (K1.al _) o2 (by omega)
   have BF_2 := (f1.alloc _).off o2 (zL y4_BF)
   have B0_2 := (B0_1.alloc _).off o2 (zL y4_B0)
   have B1_2 := (B1_1.alloc _).off o2 (zL y4_B1)
   have B2_2 := (B2_1.alloc _).off o2 (zL y4_B2)
   have z2_B3 := B3_2.lies
   have z2_BF := BF_2.lies
   have z2_B0 := B0_2.lies
   have z2_B1 := B1_2.lies
   have z2_B2 := B2_2.lies
   clear K1 f1 B0_1 B1_1 B2_1 o2
   have c3_B1_0 : w2.cell? ⟨w.heap.size + 1, 0, none⟩ = some (.int .i64 v.1) := B1_2.c 0 (zD rfl)
   have c3_B1_1 : w2.cell? ⟨w.heap.size + 1, 1, none⟩ = some (.int .i64 v.2.1) := B1_2.c 1 (zD rfl)
   have c3_B1_2 : w2.cell? ⟨w.heap.size + 1, 2, none⟩ = some (.int .i64 v.2.2) := B1_2.c 2 (zD rfl)
   go_wp2_with (first | (refine row_load (ty := 38) rfl rfl rfl B0_2 (by kernel_rfl) (by rw [row_len]; kernel_rfl) ?_) | (refine row_load (ty := 59) rfl rfl rfl B3_2 (by kernel_rfl) (by rw [row_len]; kernel_rfl) ?_))
   refine (hmoved_any b r1.2 g r1.1 v ms _ BF_2).mono ?_
   rintro e w3 ⟨rfl, f3, k3⟩
   generalize e3 : hmovedS r1.2 g r1.1 v ms = r3 at f3 ⊢
   have E3 : Hid _ := e3
   clear e3
   try dsimp only
   have K3 := Kept.trans K2 k3
   have B0_3 := B0_2.kept k3 (zG y1_BF)
   have B1_3 := B1_2.kept k3 (zG y2_BF)
   have B2_3 := B2_2.kept k3 (zG y3_BF)
   have B3_3 := B3_2.kept k3 (zG y4_BF)
   have z3 := B3_3.lies
   clear c3_B1_0 c3_B1_1 c3_B1_2 K2 BF_2 B0_2 B1_2 B2_2 B3_2 k3
   have y5_BF := f3.lies
   have y5_B0 := B0_3.lies
   have y5_B1 := B1_3.lies
   have y5_B2 := B2_3.lies
   have y5_B3 := B3_3.lies
   go_wp2_with (refine store_stop rfl (by kernel_rfl) ?_)
   refine Stop.mk (store_row (l' := row 52 r3.1) rfl rfl rfl rfl (Arr_at _ _ (row 52 (fun _ => 0)) _ (by simp)) (by simp only [row_len]) (by rw [row_len]; kernel_rfl) (row_one _ _) ?_)
   intro w4 B4_4 o4
   have K4 : Kept b w w4 := Kept.off (K3.al _) o4 (by omega)
   have BF_4 := (f3.alloc _).off o4 (zL y5_BF)
   have B0_4 := (B0_3.alloc _).off o4 (zL y5_B0)
   have B1_4 := (B1_3.alloc _).off o4 (zL y5_B1)
   have B2_4 := (B2_3.alloc _).off o4 (zL y5_B2)
   have B3_4 := (B3_3.alloc _).off o4 (zL y5_B3)
   have z4_B4 := B4_4.lies
   have z4_BF := BF_4.lies
   have z4_B0 := B0_4.lies
   have z4_B1 := B1_4.lies
   have z4_B2 := B2_4.lies
   have z4_B3 := B3_4.lies
   clear K3 f3 B0_3 B1_3 B2_3 B3_3 o4
   have c5_B4_0 : w4.cell? ⟨w3.heap.size, 0, none⟩ = some (.int .i64 (r3.1 0)) := row_c B4_4 0 (by omega)
   have c5_B4_1 : w4.cell? ⟨w3.heap.size, 1, none⟩ = some (.int .i64 (r3.1 1)) := row_c B4_4 1 (by omega)
   have c5_B4_2 : w4.cell? ⟨w3.heap.size, 2, none⟩ = some (.int .i64 (r3.1 2)) := row_c B4_4 2 (by omega)
   have c5_B4_3 : w4.cell? ⟨w3.heap.size, 3, none⟩ = some (.int .i64 (r3.1 3)) := row_c B4_4 3 (by omega)
   go_wp2_with fail
   refine (qUnit_any b r3.2 ((r3.1 0), (r3.1 1), (r3.1 2), (r3.1 3)) _ BF_4).mono ?_
   rintro e w5 ⟨rfl, f5, k5⟩
   generalize e5 : qUnitS r3.2 ((r3.1 0), (r3.1 1), (r3.1 2), (r3.1 3)) = r5 at f5 ⊢
   have E5 : Hid _ := e5
   clear e5
   try dsimp only
   have K5 := Kept.trans K4 k5
   have B0_5 := B0_4.kept k5 (zG y1_BF)
   have B2_5 := B2_4.kept k5 (zG y3_BF)
   have B3_5 := B3_4.kept k5 (zG y4_BF)
   have B4_5 := B4_4.kept k5 (zG y5_BF)
   have z5 := B4_5.lies
   clear c5_B4_0 c5_B4_1 c5_B4_2 c5_B4_3 K4 BF_4 B0_4 B2_4 B3_4 B4_4 k5
   have y6_BF := f5.lies
   have y6_B0 := B0_5.lies
   have y6_B2 := B2_5.lies
   have y6_B3 := B3_5.lies
   have y6_B4 := B4_5.lies
   go_wp2_with (first | (refine row_load (ty := 75) rfl rfl rfl (B4_5.alloc _) (by kernel_rfl) (by rw [row_len]; kernel_rfl) ?_) | (refine row_load (ty := 59) rfl rfl rfl (B3_5.alloc _) (by kernel_rfl) (by rw [row_len]; kernel_rfl) ?_))
   refine (haround_any b r5.2 r5.1 r3.1 r1.1 _ (f5.alloc _)).mono ?_
   rintro e w6 ⟨rfl, f6, k6⟩
   generalize e6 : haroundS r5.2 r5.1 r3.1 r1.1 = r6 at f6 ⊢
   have E6 : Hid _ := e6
   clear e6
   try dsimp only
   have K6 : Kept b w w6 := Kept.trans (K5.al _) k6
   have B0_6 := (B0_5.alloc _).kept k6 (zG y1_BF)
   have B2_6 := (B2_5.alloc _).kept k6 (zG y3_BF)
   have B3_6 := (B3_5.alloc _).kept k6 (zG y4_BF)
   have B4_6 := (B4_5.alloc _).kept k6 (zG y5_BF)
   have B5_6 := (Arr_at _ w5.heap.size [.int .i64 r5.1.1, .int .i64 r5.1.2.1, .int .i64 r5.1.2.2.1, .int .i64 r5.1.2.2.2] _ (by simp)).kept k6 (zG y6_BF)
   have z6 := B5_6.lies
   clear K5 f5 B0_5 B2_5 B3_5 B4_5 k6
   have y7_BF := f6.lies
   have y7_B0 := B0_6.lies
   have y7_B2 := B2_6.lies
   have y7_B3 := B3_6.lies
   have y7_B4 := B4_6.lies
   have y7_B5 := B5_6.lies
   go_wp2_with (refine store_stop rfl (by kernel_rfl) ?_)
   refine Stop.mk (store_row (l' := row 78 r6.1) rfl rfl rfl rfl (Arr_at _ _ (row 78 (fun _ => 0)) _ (by simp)) (by simp only [row_len]) (by rw [row_len]; kernel_rfl) (row_one _ _) ?_)
   intro w7 B6_7 o7
   have K7 : Kept b w w7 := Kept.off (K6.al _) o7 (by omega)
   have BF_7 := (f6.alloc _).off o7 (zL y7_BF)
   have B0_7 := (B0_6.alloc _).off o7 (zL y7_B0)
   have B2_7 := (B2_6.alloc _).off o7 (zL y7_B2)
   have B3_7 := (B3_6.alloc _).off o7 (zL y7_B3)
   have B4_7 := (B4_6.alloc _).off o7 (zL y7_B4)
   have B5_7 := (B5_6.alloc _).off o7 (zL y7_B5)
   have z7_B6 := B6_7.lies
   have z7_BF := BF_7.lies
   have z7_B0 := B0_7.lies
   have z7_B2 := B2_7.lies
   have z7_B3 := B3_7.lies
   have z7_B4 := B4_7.lies
   have z7_B5 := B5_7.lies
   clear K6 f6 B0_6 B2_6 B3_6 B4_6 B5_6 o7
   go_wp2_with (refine row_load (ty := 61) rfl rfl rfl B6_7 (by kernel_rfl) (by rw [row_len]; kernel_rfl) ?_)
   refine (hmean_any b r6.2 r6.1 _ BF_7).mono ?_
   rintro e w8 ⟨rfl, f8, k8⟩
   generalize e8 : hmeanS r6.2 r6.1 = r8 at f8 ⊢
   have E8 : Hid _ := e8
   clear e8
   try dsimp only
   have K8 := Kept.trans K7 k8
   have B0_8 := B0_7.kept k8 (zG y1_BF)
   have B2_8 := B2_7.kept k8 (zG y3_BF)
   have B5_8 := B5_7.kept k8 (zG y6_BF)
   have B6_8 := B6_7.kept k8 (zG y7_BF)
   have z8 := B6_8.lies
   clear K7 BF_7 B0_7 B2_7 B5_7 B6_7 k8
   have y8_BF := f8.lies
   have y8_B0 := B0_8.lies
   have y8_B2 := B2_8.lies
   have y8_B5 := B5_8.lies
   have y8_B6 := B6_8.lies
   go_wp2_with (refine store_stop rfl (by kernel_rfl) ?_)
   refine Stop.mk (store_row (l' := row 6 r8.1) rfl rfl rfl rfl (Arr_at _ _ [.int .i64 0, .int .i64 0, .int .i64 0, .int .i64 0, .int .i64 0, .int .i64 0] _ (by simp)) (by rw [row_len]; rfl) (by rw [row_len]; kernel_rfl) (row_one _ _) ?_)
   intro w9 B7_9 o9
   have K9 : Kept b w w9 := Kept.off (K8.al _) o9 (by omega)
   have BF_9 := (f8.alloc _).off o9 (zL y8_BF)
   have B0_9 := (B0_8.alloc _).off o9 (zL y8_B0)
   have B2_9 := (B2_8.alloc _).off o9 (zL y8_B2)
   have B5_9 := (B5_8.alloc _).off o9 (zL y8_B5)
   have B6_9 := (B6_8.alloc _).off o9 (zL y8_B6)
   have z9_B7 := B7_9.lies
   have z9_BF := BF_9.lies
   have z9_B0 := B0_9.lies
   have z9_B2 := B2_9.lies
   have z9_B5 := B5_9.lies
   have z9_B6 := B6_9.lies
   clear K8 f8 B0_8 B2_8 B5_8 B6_8 o9
   go_wp2_with (first | (refine row_load (ty := 61) rfl rfl rfl B6_9 (by kernel_rfl) (by rw [row_len]; kernel_rfl) ?_) | (refine row_load (ty := 34) rfl rfl rfl B7_9 (by kernel_rfl) (by rw [row_len]; kernel_rfl) ?_))
   refine (hbeside_any b r8.2 r6.1 r8.1 _ BF_9).mono ?_
   rintro e w10 ⟨rfl, f10, k10⟩
   generalize e10 : hbesideS r8.2 r6.1 r8.1 = r10 at f10 ⊢
   have E10 : Hid _ := e10
   clear e10
   try dsimp only
   have K10 := Kept.trans K9 k10
   have B0_10 := B0_9.kept k10 (zG y1_BF)
   have B2_10 := B2_9.kept k10 (zG y3_BF)
   have B5_10 := B5_9.kept k10 (zG y6_BF)
   have B6_10 := B6_9.kept k10 (zG y7_BF)
   have B7_10 := B7_9.kept k10 (zG y8_BF)
   have z10 := B7_10.lies
   clear K9 BF_9 B0_9 B2_9 B5_9 B6_9 B7_9 k10
   have y9_BF := f10.lies
   have y9_B0 := B0_10.lies
   have y9_B2 := B2_10.lies
   have y9_B5 := B5_10.lies
   have y9_B6 := B6_10.lies
   have y9_B7 := B7_10.lies
   go_wp2_with (refine store_stop rfl (by kernel_rfl) ?_)
   refine Stop.mk (store_row (l' := row 78 r10.1) rfl rfl rfl rfl (Arr_at _ _ (row 78 (fun _ => 0)) _ (by simp)) (by simp only [row_len]) (by rw [row_len]; kernel_rfl) (row_one _ _) ?_)
   intro w11 B8_11 o11
   have K11 : Kept b w w11 := Kept.off (K10.al _) o11 (by omega)
   have BF_11 := (f10.alloc _).off o11 (zL y9_BF)
   have B0_11 := (B0_10.alloc _).off o11 (zL y9_B0)
   have B2_11 := (B2_10.alloc _).off o11 (zL y9_B2)
   have B5_11 := (B5_10.alloc _).off o11 (zL y9_B5)
   have B6_11 := (B6_10.alloc _).off o11 (zL y9_B6)
   have B7_11 := (B7_10.alloc _).off o11 (zL y9_B7)
   have z11_B8 := B8_11.lies
   have z11_BF := BF_11.lies
   have z11_B0 := B0_11.lies
   have z11_B2 := B2_11.lies
   have z11_B5 := B5_11.lies
   have z11_B6 := B6_11.lies
   have z11_B7 := B7_11.lies
   clear K10 f10 B0_10 B2_10 B5_10 B6_10 B7_10 o11
   go_wp2_with (first | (refine row_load (ty := 61) rfl rfl rfl B8_11 (by kernel_rfl) (by rw [row_len]; kernel_rfl) ?_) | (refine row_load (ty := 61) rfl rfl rfl B8_11 (by kernel_rfl) (by rw [row_len]; kernel_rfl) ?_))
   refine (hproducts_any b r10.2 r10.1 r10.1 _ BF_11).mono ?_
   rintro e w12 ⟨rfl, f12, k12⟩
   generalize e12 : hproductsS r10.2 r10.1 r10.1 = r12 at f12 ⊢
   have E12 : Hid _ := e12
   clear e12
   try dsimp only
   have K12 := Kept.trans K11 k12
   have B0_12 := B0_11.kept k12 (zG y1_BF)
   have B2_12 := B2_11.kept k12 (zG y3_BF)
   have B5_12 := B5_11.kept k12 (zG y6_BF)
   have B7_12 := B7_11.kept k12 (zG y8_BF)
   have B8_12 := B8_11.kept k12 (zG y9_BF)
   have z12 := B8_12.lies
   clear K11 BF_11 B0_11 B2_11 B5_11 B7_11 B8_11 k12
   have y10_BF := f12.lies
   have y10_B0 := B0_12.lies
   have y10_B2 := B2_12.lies
   have y10_B5 := B5_12.lies
   have y10_B7 := B7_12.lies
   have y10_B8 := B8_12.lies
   go_wp2_with (refine store_stop rfl (by kernel_rfl) ?_)
   refine Stop.mk (store_row (l' := row 36 r12.1) rfl rfl rfl rfl (Arr_at _ _ (row 36 (fun _ => 0)) _ (by simp)) (by simp only [row_len]) (by rw [row_len]; kernel_rfl) (row_one _ _) ?_)
   intro w13 B9_13 o13
   have K13 : Kept b w w13 := Kept.off (K12.al _) o13 (by omega)
   have BF_13 := (f12.alloc _).off o13 (zL y10_BF)
   have B0_13 := (B0_12.alloc _).off o13 (zL y10_B0)
   have B2_13 := (B2_12.alloc _).off o13 (zL y10_B2)
   have B5_13 := (B5_12.alloc _).off o13 (zL y10_B5)
   have B7_13 := (B7_12.alloc _).off o13 (zL y10_B7)
   have B8_13 := (B8_12.alloc _).off o13 (zL y10_B8)
   have z13_B9 := B9_13.lies
   have z13_BF := BF_13.lies
   have z13_B0 := B0_13.lies
   have z13_B2 := B2_13.lies
   have z13_B5 := B5_13.lies
   have z13_B7 := B7_13.lies
   have z13_B8 := B8_13.lies
   clear K12 f12 B0_12 B2_12 B5_12 B7_12 B8_12 o13
   go_wp2_with fail
   refine wp_region_held_drew (S := fun w' => Arr w5.heap.size [.int .i64 r5.1.1, .int .i64 r5.1.2.1, .int .i64 r5.1.2.2.1, .int .i64 r5.1.2.2.2] w' ∧ Arr w8.heap.size (row 6 r8.1) w' ∧ Arr w.heap.size (row 43 g) w' ∧ Arr w12.heap.size (row 36 r12.1) w') (by kernel_rfl) ⟨B5_13.drew, B7_13.drew, B0_13.drew, B9_13.drew⟩ (fun zH => ?_)
   refine zT 0 rfl (by kernel_rfl) (fun _ _ _ => id) rfl (fun _ _ => by go_simp <;> with_reducible rfl) zH ?_
   simp only [Act.put, zA, zB, zC]
   refine zT 1 rfl (by kernel_rfl) (fun _ _ _ => id) rfl (fun _ _ => by go_simp <;> with_reducible rfl) zH ?_
   simp only [Act.put, zA, zB, zC]
   refine zT 2 rfl (by kernel_rfl) (fun _ _ _ => id) rfl (fun wx hS => by have hc0 : wx.cell? ⟨w5.heap.size, 0, none⟩ = some (.int .i64 r5.1.1) := hS.1.c 0 (zD rfl); have hc1 : wx.cell? ⟨w5.heap.size, 1, none⟩ = some (.int .i64 r5.1.2.1) := hS.1.c 1 (zD rfl); have hc2 : wx.cell? ⟨w5.heap.size, 2, none⟩ = some (.int .i64 r5.1.2.2.1) := hS.1.c 2 (zD rfl); have hc3 : wx.cell? ⟨w5.heap.size, 3, none⟩ = some (.int .i64 r5.1.2.2.2) := hS.1.c 3 (zD rfl); go_simp <;> with_reducible rfl) zH ?_
   simp only [Act.put, zA, zB, zC]
   refine take_at (i := 3) rfl (by kernel_rfl) (by kernel_rfl) (by kernel_rfl) (fun _ _ _ h => h) (row_yield (by rfl) rfl rfl (fun _ hS => hS.2.1) (by kernel_rfl) (by rw [row_len]; kernel_rfl)) zH ?_
   simp only [Act.put, zA, zB, zC]
   refine zT 5 rfl (by kernel_rfl) (fun _ _ _ => id) rfl (fun _ _ => by go_simp <;> with_reducible rfl) zH ?_
   simp only [Act.put, zA, zB, zC]
   refine zT 6 rfl (by kernel_rfl) (fun _ _ _ => id) rfl (fun _ _ => by go_simp <;> with_reducible rfl) zH ?_
   simp only [Act.put, zA, zB, zC]
   refine zT 7 rfl (by kernel_rfl) (fun _ _ _ => id) rfl (fun wx hS => by have hc0 : wx.cell? ⟨w.heap.size, 4, none⟩ = some (.int .i64 (g 4)) := row_c hS.2.2.1 4 (by omega); have hc1 : wx.cell? ⟨w.heap.size, 5, none⟩ = some (.int .i64 (g 5)) := row_c hS.2.2.1 5 (by omega); have hc2 : wx.cell? ⟨w.heap.size, 6, none⟩ = some (.int .i64 (g 6)) := row_c hS.2.2.1 6 (by omega); go_simp <;> with_reducible rfl) zH ?_
   simp only [Act.put, zA, zB, zC]
   refine take_at (i := 8) rfl (by kernel_rfl) (by kernel_rfl) (by kernel_rfl) (fun _ _ _ h => h) (row_yield (by rfl) rfl rfl (fun _ hS => hS.2.1) (by kernel_rfl) (by rw [row_len]; kernel_rfl)) zH ?_
   simp only [Act.put, zA, zB, zC]
   refine zT 10 rfl (by kernel_rfl) (fun _ _ _ => id) rfl (fun _ _ => by go_simp <;> with_reducible rfl) zH ?_
   simp only [Act.put, zA, zB, zC]
   refine take_at (i := 11) rfl (by kernel_rfl) (by kernel_rfl) (by kernel_rfl) (fun _ _ _ h => h) (row_yield (by rfl) rfl rfl (fun _ hS => hS.2.2.2) (by kernel_rfl) (by rw [row_len]; kernel_rfl)) zH ?_
   simp only [Act.put, zA, zB, zC]
   refine zT 12 rfl (by kernel_rfl) (fun _ _ _ => id) rfl (fun _ _ => by go_simp <;> with_reducible rfl) zH ?_
   simp only [Act.put, zA, zB, zC]
   refine zT 13 rfl (by kernel_rfl) (fun _ _ _ => id) rfl (fun _ _ => by go_simp <;> with_reducible rfl) zH ?_
   simp only [Act.put, zA, zB, zC]
   refine zT 15 rfl (by kernel_rfl) (fun _ _ _ => id) rfl (fun _ _ => by go_simp <;> with_reducible rfl) zH ?_
   simp only [Act.put, zA, zB, zC]
   refine zT 16 rfl (by kernel_rfl) (fun _ _ _ => id) rfl (fun _ _ => by go_simp <;> with_reducible rfl) zH ?_
   simp only [Act.put, zA, zB, zC]
   refine zK 4 (by kernel_rfl) rfl (fun K hK => ?_)
   go_simp
   refine (hturned_any b r12.2 r5.1 r8.1 _ BF_13.drew).mono ?_
   rintro e w14 ⟨rfl, f14, k14⟩
   generalize e14 : hturnedS r12.2 r5.1 r8.1 = r14 at f14 ⊢
   have E14 : Hid _ := e14
   clear e14
   have K14 : Kept b w w14 := Kept.trans K13.drew k14
   have B0_14 := B0_13.drew.kept k14 (zG y1_BF)
   have B2_14 := B2_13.drew.kept k14 (zG y3_BF)
   have B5_14 := B5_13.drew.kept k14 (zG y6_BF)
   have B7_14 := B7_13.drew.kept k14 (zG y8_BF)
   have B9_14 := B9_13.drew.kept k14 (zG y10_BF)
   have z14 := B9_14.lies
   clear zH
   refine hK.out _ _ ⟨B5_14, B7_14, B0_14, B9_14⟩ (fun zH => ?_)
   clear hK K K13 BF_13 B0_13 B2_13 B5_13 B7_13 B9_13 k14
   refine zK 9 (by kernel_rfl) rfl (fun K hK => ?_)
   go_simp
   refine (hbiased_any b r14.2 ((g 4), (g 5), (g 6)) r8.1 _ f14).mono ?_
   rintro e w15 ⟨rfl, f15, k15⟩
   generalize e15 : hbiasedS r14.2 ((g 4), (g 5), (g 6)) r8.1 = r15 at f15 ⊢
   have E15 : Hid _ := e15
   clear e15
   have K15 := Kept.trans K14 k15
   have B0_15 := B0_14.kept k15 (zG y1_BF)
   have B2_15 := B2_14.kept k15 (zG y3_BF)
   have B5_15 := B5_14.kept k15 (zG y6_BF)
   have B7_15 := B7_14.kept k15 (zG y8_BF)
   have B9_15 := B9_14.kept k15 (zG y10_BF)
   have z15 := B9_15.lies
   clear zH
   refine hK.out _ _ ⟨B5_15, B7_15, B0_15, B9_15⟩ (fun zH => ?_)
   clear hK K K14 f14 B0_14 B2_14 B5_14 B7_14 B9_14 k15
   refine zK 14 (by kernel_rfl) rfl (fun K hK => ?_)
   go_simp
   refine (Part_any b r15.2 65536 ms 1000 _ f15).mono ?_
   rintro e w16 ⟨rfl, f16, k16⟩
   generalize e16 : partS r15.2 65536 ms 1000 = r16 at f16 ⊢
   have E16 : Hid _ := e16
   clear e16
   have K16 := Kept.trans K15 k16
   have B0_16 := B0_15.kept k16 (zG y1_BF)
   have B2_16 := B2_15.kept k16 (zG y3_BF)
   have B5_16 := B5_15.kept k16 (zG y6_BF)
   have B7_16 := B7_15.kept k16 (zG y8_BF)
   have B9_16 := B9_15.kept k16 (zG y10_BF)
   have z16 := B9_16.lies
   clear zH
   refine hK.out _ _ ⟨B5_16, B7_16, B0_16, B9_16⟩ (fun zH => ?_)
   clear hK K K15 f15 B0_15 B2_15 B5_15 B7_15 B9_15 k16
   refine zK 17 (by kernel_rfl) rfl (fun K hK => ?_)
   go_simp
   refine (Part_any b r16.2 1024 ms 1000 _ f16).mono ?_
   rintro e w17 ⟨rfl, f17, k17⟩
   generalize e17 : partS r16.2 1024 ms 1000 = r17 at f17 ⊢
   have E17 : Hid _ := e17
   clear e17
   have K17 := Kept.trans K16 k17
   have B0_17 := B0_16.kept k17 (zG y1_BF)
   have B2_17 := B2_16.kept k17 (zG y3_BF)
   have B5_17 := B5_16.kept k17 (zG y6_BF)
   have B7_17 := B7_16.kept k17 (zG y8_BF)
   have B9_17 := B9_16.kept k17 (zG y10_BF)
   have z17 := B9_17.lies
   clear zH
   refine hK.out _ _ ⟨B5_17, B7_17, B0_17, B9_17⟩ (fun zH => ?_)
   clear hK K K16 f16 B0_16 B2_16 B5_16 B7_16 B9_16 k17
   refine zK 18 (by kernel_rfl) rfl (fun K hK => ?_)
   go_simp
   refine (hraised_any b r17.2 r12.1 r16.1 r17.1 _ f17).mono ?_
   rintro e w18 ⟨rfl, f18, k18⟩
   generalize e18 : hraisedS r17.2 r12.1 r16.1 r17.1 = r18 at f18 ⊢
   have E18 : Hid _ := e18
   clear e18
   have K18 := Kept.trans K17 k18
   have B0_18 := B0_17.kept k18 (zG y1_BF)
   have B2_18 := B2_17.kept k18 (zG y3_BF)
   have B5_18 := B5_17.kept k18 (zG y6_BF)
   have B7_18 := B7_17.kept k18 (zG y8_BF)
   have B9_18 := B9_17.kept k18 (zG y10_BF)
   have z18 := B9_18.lies
   clear zH
   refine hK.out _ _ ⟨B5_18, B7_18, B0_18, B9_18⟩ (fun zH => ?_)
   clear hK K K17 f17 B0_17 B2_17 B5_17 B7_17 B9_17 k18
   refine take_at (i := 19) (v := .agg (row 43 (guessF r14.1 r15.1 r18.1)).toArray) rfl (by kernel_rfl) (by kernel_rfl) (by kernel_rfl) (fun _ _ _ h => h) (Or.inl ⟨by rfl, ?y12⟩) zH ?t12
   case y12 => (intro wx hS; exact build_exec (vs := #[(0, .agg #[.int .i64 r14.1.1, .int .i64 r14.1.2.1, .int .i64 r14.1.2.2.1, .int .i64 r14.1.2.2.2]), (1, .agg #[.int .i64 r15.1.1, .int .i64 r15.1.2.1, .int .i64 r15.1.2.2]), (2, .agg (row 36 r18.1).toArray)]) rfl (by kernel_rfl) (buildG_run r14.1.1 r14.1.2.1 r14.1.2.2.1 r14.1.2.2.2 r15.1.1 r15.1.2.1 r15.1.2.2 r18.1 wx))
   simp only [Act.put, zA, zB, zC]
   refine zK 20 (by kernel_rfl) rfl (fun K hK => ?_)
   go_simp
   refine (hsound_any b r18.2 (guessF r14.1 r15.1 r18.1) _ f18).mono ?_
   rintro e w19 ⟨rfl, f19, k19⟩
   generalize e19 : hsoundS r18.2 (guessF r14.1 r15.1 r18.1) = r19 at f19 ⊢
   have E19 : Hid _ := e19
   clear e19
   have K19 := Kept.trans K18 k19
   have B0_19 := B0_18.kept k19 (zG y1_BF)
   have B2_19 := B2_18.kept k19 (zG y3_BF)
   have B5_19 := B5_18.kept k19 (zG y6_BF)
   have B7_19 := B7_18.kept k19 (zG y8_BF)
   have B9_19 := B9_18.kept k19 (zG y10_BF)
   have z19 := B9_19.lies
   clear zH
   refine hK.out _ _ ⟨B5_19, B7_19, B0_19, B9_19⟩ (fun zH => ?_)
   clear hK K K18 f18 B0_18 B2_18 B5_18 B7_18 B9_18 k19
   refine zK 21 (by kernel_rfl) rfl (fun K hK => ?_)
   refine row_store_at (l' := row 43 r19.1) (by rfl) rfl rfl rfl B2_19 (by simp only [row_len]) (by rw [row_len]; kernel_rfl) (row_one _ _) ?_
   intro w20 B2_20 o20
   have K20 : Kept b w w20 := Kept.off K19 o20 (by omega)
   have BF_20 := f19.off o20 (zL y3_BF)
   have B0_20 := B0_19.off o20 (zL y3_B0)
   have B5_20 := B5_19.off o20 (zG y6_B2)
   have B7_20 := B7_19.off o20 (zG y8_B2)
   have B9_20 := B9_19.off o20 (zG y10_B2)
   have z20_B2 := B2_20.lies
   have z20_BF := BF_20.lies
   have z20_B0 := B0_20.lies
   have z20_B5 := B5_20.lies
   have z20_B7 := B7_20.lies
   have z20_B9 := B9_20.lies
   simp only [Act.put]
   clear zH
   refine hK.out _ _ ⟨B5_20, B7_20, B0_20, B9_20⟩ (fun zH => ?_)
   clear hK K K19 B2_19 f19 B0_19 B5_19 B7_19 B9_19 o20
   refine wpAnyH_done (by kernel_rfl) ?_ _
   clear zH
   go_wp2_with (with_reducible refine post_stop ?_)
   refine Stop.mk ?_
   refine bodyPost_ret (v := .agg (row 43 r19.1).toArray) (results_arr Try.results13 B2_20 rfl (by kernel_rfl) (by rw [row_len]; kernel_rfl)) rfl ?_
   have hs : hMoveS bad g v ms = (r19.1, r19.2) := by unfold hMoveS; simp only [E1.out, E3.out, E5.out, E6.out, E8.out, E10.out, E12.out, E14.out, E15.out, E16.out, E17.out, E18.out, E19.out]; rw [if_neg (by have := Hhc1.out; omega)]; rw [if_neg (by have := Hhc2.out; omega)]
   rw [hs]
   exact ⟨rfl, BF_20, K20⟩
end Go.Proofs.Ytooehgijllihdaa
