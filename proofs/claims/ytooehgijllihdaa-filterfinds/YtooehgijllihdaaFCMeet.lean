/- A part. -/
import Derived.Test.YtooehgijllihdaaXAct
import Derived.Test.YtooehgijllihdaaJC
import Derived.Test.YtooehgijllihdaaJH
import Derived.Test.YtooehgijllihdaaFCView
import Derived.Test.YtooehgijllihdaaFCMet
import Derived.Handy
import Derived.Deep.RegionHeld3
namespace Go.Proofs.Ytooehgijllihdaa
open Go.RowKit
set_option maxRecDepth 100000
set_option maxHeartbeats 20000000
theorem hMeet_any (b : Nat) (bad : Bool) (g : Nat → Int) (sky : Nat → Int) (body : Nat → Int) (w : World) (hw : Fl b bad w) :
  Calls Try.prog 10 #[.pointer (some ⟨b, 0, none⟩), .agg (row 43 g).toArray, .agg (row 6 sky).toArray, .agg (row 6 body).toArray] w fun e w' => e = .returned (.tuple #[.agg (row 43 ((hMeetS bad g sky body).1).1).toArray, .int .i64 ((hMeetS bad g sky body).1).2.1, .bool ((hMeetS bad g sky body).1).2.2]) ∧ Fl b (hMeetS bad g sky body).2 w' ∧ Kept b w w' := by
 have hl := hw.lies
 go_enter Try.func10, Try.ntmps10
 have y1_BF := hw.lies
 have y2_BF : b < w.heap.size + 1 := (Nat.lt_succ_of_lt hw.lies)
 have y2_B0 : w.heap.size < w.heap.size + 1 := by omega
 have y3_BF : b < w.heap.size + 1 + 1 := (Nat.lt_succ_of_lt (Nat.lt_succ_of_lt hw.lies))
 have y3_B0 : w.heap.size < w.heap.size + 1 + 1 := by omega
 have y3_B1 : w.heap.size + 1 < w.heap.size + 1 + 1 := by omega
 have y4_BF : b < w.heap.size + 1 + 1 + 1 := (Nat.lt_succ_of_lt (Nat.lt_succ_of_lt (Nat.lt_succ_of_lt hw.lies)))
 have y4_B0 : w.heap.size < w.heap.size + 1 + 1 + 1 := by omega
 have y4_B1 : w.heap.size + 1 < w.heap.size + 1 + 1 + 1 := by omega
 have y4_B2 : w.heap.size + 1 + 1 < w.heap.size + 1 + 1 + 1 := by omega
 go_wp2_with (refine row_load (ty := 38) rfl rfl rfl ((((Arr_at _ _ (row 43 g) _ (by simp)).alloc _).alloc _).alloc _) (by kernel_rfl) (by rw [row_len]; kernel_rfl) ?_)
 refine (hPoints_any b bad g _ ((((hw.alloc _).alloc _).alloc _).alloc _)).mono ?_
 rintro e w1 ⟨rfl, f1, k1⟩
 generalize e1 : hPointsS bad g = r1 at f1 ⊢
 have E1 : Hid _ := e1
 clear e1
 try dsimp only
 have K1 : Kept b w w1 := Kept.trans (((((Kept.refl b w).al _).al _).al _).al _) k1
 have B0_1 := ((((Arr_at _ w.heap.size (row 43 g) _ (by simp)).alloc _).alloc _).alloc _).kept k1 (zG y1_BF)
 have B1_1 := (((Arr_at _ (w.heap.size + 1) (row 6 sky) _ (by simp)).alloc _).alloc _).kept k1 (zG y2_BF)
 have B2_1 := ((Arr_at _ (w.heap.size + 1 + 1) (row 6 body) _ (by simp)).alloc _).kept k1 (zG y3_BF)
 have B3_1 := (Arr_at _ (w.heap.size + 1 + 1 + 1) (row 43 (fun _ => 0)) _ (by simp)).kept k1 (zG y4_BF)
 have z1 := B3_1.lies
 clear k1
 have y5_BF := f1.lies
 have y5_B0 := B0_1.lies
 have y5_B1 := B1_1.lies
 have y5_B2 := B2_1.lies
 have y5_B3 := B3_1.lies
 go_wp2_with (refine store_stop rfl (by kernel_rfl) ?_)
 refine Stop.mk (store_row (l' := row 78 r1.1) rfl rfl rfl rfl (Arr_at _ _ (row 78 (fun _ => 0)) _ (by simp)) (by simp only [row_len]) (by rw [row_len]; kernel_rfl) (row_one _ _) ?_)
 intro w2 B4_2 o2
 have K2 : Kept b w w2 := Kept.off (K1.al _) o2 (by omega)
 have BF_2 := (f1.alloc _).off o2 (zL y5_BF)
 have B0_2 := (B0_1.alloc _).off o2 (zL y5_B0)
 have B1_2 := (B1_1.alloc _).off o2 (zL y5_B1)
 have B2_2 := (B2_1.alloc _).off o2 (zL y5_B2)
 have B3_2 := (B3_1.alloc _).off o2 (zL y5_B3)
 have z2_B4 := B4_2.lies
 have z2_BF := BF_2.lies
 have z2_B0 := B0_2.lies
 have z2_B1 := B1_2.lies
 have z2_B2 := B2_2.lies
 have z2_B3 := B3_2.lies
 clear K1 f1 B0_1 B1_1 B2_1 B3_1 o2
 go_wp2_with fail
 refine get_cont (fun KK1 hKK1 => ?_)
 have cont1 : ∀ (W1 : World) (n21 n22 n23 n24 n25 n26 n27 n28 n29 n30 : Value) (x1_0 : Nat) (r3 : _) (r4 : _) , Hid (hunitsS r1.2 sky = r3) → Hid (hviewedS r3.2 g r1.1 (fun i_ => if i_ = 0 then r3.1.1 else if i_ = 1 then r3.1.2.1 else if i_ = 2 then r3.1.2.2.1 else if i_ = 3 then r3.1.2.2.2.1 else if i_ = 4 then r3.1.2.2.2.2.1 else r3.1.2.2.2.2.2) = r4) → Kept b w W1 → Fl b r4.2 W1 → Arr w.heap.size (row 43 g) W1 → Arr (w.heap.size + 1) (row 6 sky) W1 → Arr (w.heap.size + 1 + 1) (row 6 body) W1 → Arr (w.heap.size + 1 + 1 + 1) (row 43 (fun _ => 0)) W1 → Arr w1.heap.size (row 78 r1.1) W1 → Arr x1_0 (row 78 r4.1) W1 → w.heap.size ≤ x1_0 → b < x1_0 → w.heap.size < x1_0 → w.heap.size + 1 < x1_0 → w.heap.size + 1 + 1 < x1_0 → w.heap.size + 1 + 1 + 1 < x1_0 → w1.heap.size < x1_0 → KK1 { tmps := #[.pointer (some ⟨b, 0, none⟩), .agg (row 43 g).toArray, .agg (row 6 sky).toArray, .agg (row 6 body).toArray, undef, .pointer (some ⟨w.heap.size, 0, none⟩), .pointer (some ⟨w.heap.size + 1, 0, none⟩), .pointer (some ⟨w.heap.size + 1 + 1, 0, none⟩), .pointer (some ⟨w.heap.size + 1 + 1 + 1, 0, none⟩), .int .i64 0, .bool false, .pointer (some ⟨w1.heap.size, 0, none⟩), .pointer (some ⟨x1_0, 0, none⟩), undef, undef, undef, undef, undef, undef, undef, undef, n21, n22, n23, n24, n25, n26, n27, n28, n29, n30, undef, undef, undef, undef, undef, undef, undef, undef, undef, undef, undef, undef, undef, undef, undef, undef, undef, undef, undef, undef, undef, undef, undef, undef, undef, undef, undef, undef, undef, undef, undef, undef, undef, undef, undef, undef, undef, undef, undef, undef, undef, undef, undef, undef, undef, undef, undef, undef, undef, undef, undef, undef, undef, undef, undef, undef, undef], defers := [] } W1 := by
  intro W1 n21 n22 n23 n24 n25 n26 n27 n28 n29 n30 x1_0 r3 r4 E3 E4 KC1 BF_c1 B0_c1 B1_c1 B2_c1 B3_c1 B4_c1 B5_c1 s1_0 s1_1 s1_2 s1_3 s1_4 s1_5 s1_6
  have zc1_BF := BF_c1.lies
  have zc1_B0 := B0_c1.lies
  have zc1_B1 := B1_c1.lies
  have zc1_B2 := B2_c1.lies
  have zc1_B3 := B3_c1.lies
  have zc1_B4 := B4_c1.lies
  have zc1_B5 := B5_c1.lies
  rw [hKK1.out]
  dsimp only [Exit.inBlock, Exit.then]
  first | refine use_cont (by assumption) ?_ | skip
  go_wp2_with (refine row_load (ty := 61) rfl rfl rfl B5_c1 (by kernel_rfl) (by rw [row_len]; kernel_rfl) ?_)
  refine (hmean_any b r4.2 r4.1 _ BF_c1).mono ?_
  rintro e w5 ⟨rfl, f5, k5⟩
  generalize e5 : hmeanS r4.2 r4.1 = r5 at f5 ⊢
  have E5 : Hid _ := e5
  clear e5
  try dsimp only
  have K5 : Kept b w w5 := Kept.trans KC1 k5
  have B0_5 := B0_c1.kept k5 (zG y1_BF)
  have B2_5 := B2_c1.kept k5 (zG y3_BF)
  have B3_5 := B3_c1.kept k5 (zG y4_BF)
  have B4_5 := B4_c1.kept k5 (zG y5_BF)
  have B5_5 := B5_c1.kept k5 (zG s1_1)
  have z5 := B5_5.lies
  clear BF_c1 B0_c1 B2_c1 B3_c1 B4_c1 B5_c1 k5
  have y6_BF := f5.lies
  have y6_B0 := B0_5.lies
  have y6_B2 := B2_5.lies
  have y6_B3 := B3_5.lies
  have y6_B4 := B4_5.lies
  have y6_B5 := B5_5.lies
  go_wp2_with (refine store_stop rfl (by kernel_rfl) ?_)
  refine Stop.mk (store_row (l' := row 6 r5.1) rfl rfl rfl rfl (Arr_at _ _ [.int .i64 0, .int .i64 0, .int .i64 0, .int .i64 0, .int .i64 0, .int .i64 0] _ (by simp)) (by rw [row_len]; rfl) (by rw [row_len]; kernel_rfl) (row_one _ _) ?_)
  intro w6 B6_6 o6
  have K6 : Kept b w w6 := Kept.off (K5.al _) o6 (by omega)
  have BF_6 := (f5.alloc _).off o6 (zL y6_BF)
  have B0_6 := (B0_5.alloc _).off o6 (zL y6_B0)
  have B2_6 := (B2_5.alloc _).off o6 (zL y6_B2)
  have B3_6 := (B3_5.alloc _).off o6 (zL y6_B3)
  have B4_6 := (B4_5.alloc _).off o6 (zL y6_B4)
  have B5_6 := (B5_5.alloc _).off o6 (zL y6_B5)
  have z6_B6 := B6_6.lies
  have z6_BF := BF_6.lies
  have z6_B0 := B0_6.lies
  have z6_B2 := B2_6.lies
  have z6_B3 := B3_6.lies
  have z6_B4 := B4_6.lies
  have z6_B5 := B5_6.lies
  clear K5 f5 B0_5 B2_5 B3_5 B4_5 B5_5 o6
  go_wp2_with (first | (refine row_load (ty := 61) rfl rfl rfl B5_6 (by kernel_rfl) (by rw [row_len]; kernel_rfl) ?_) | (refine row_load (ty := 34) rfl rfl rfl B6_6 (by kernel_rfl) (by rw [row_len]; kernel_rfl) ?_))
  refine (hbeside_any b r5.2 r4.1 r5.1 _ BF_6).mono ?_
  rintro e w7 ⟨rfl, f7, k7⟩
  generalize e7 : hbesideS r5.2 r4.1 r5.1 = r7 at f7 ⊢
  have E7 : Hid _ := e7
  clear e7
  try dsimp only
  have K7 := Kept.trans K6 k7
  have B0_7 := B0_6.kept k7 (zG y1_BF)
  have B2_7 := B2_6.kept k7 (zG y3_BF)
  have B3_7 := B3_6.kept k7 (zG y4_BF)
  have B4_7 := B4_6.kept k7 (zG y5_BF)
  have B5_7 := B5_6.kept k7 (zG s1_1)
  have B6_7 := B6_6.kept k7 (zG y6_BF)
  have z7 := B6_7.lies
  have z7_B5 := B5_7.lies
  clear K6 BF_6 B0_6 B2_6 B3_6 B4_6 B5_6 B6_6 k7
  have y7_BF := f7.lies
  have y7_B0 := B0_7.lies
  have y7_B2 := B2_7.lies
  have y7_B3 := B3_7.lies
  have y7_B4 := B4_7.lies
  have y7_B5 := B5_7.lies
  have y7_B6 := B6_7.lies
  go_wp2_with (refine store_stop rfl (by kernel_rfl) ?_)
  refine Stop.mk (store_row (l' := row 78 r7.1) rfl rfl rfl rfl (Arr_at _ _ (row 78 (fun _ => 0)) _ (by simp)) (by simp only [row_len]) (by rw [row_len]; kernel_rfl) (row_one _ _) ?_)
  intro w8 B7_8 o8
  have K8 : Kept b w w8 := Kept.off (K7.al _) o8 (by omega)
  have BF_8 := (f7.alloc _).off o8 (zL y7_BF)
  have B0_8 := (B0_7.alloc _).off o8 (zL y7_B0)
  have B2_8 := (B2_7.alloc _).off o8 (zL y7_B2)
  have B3_8 := (B3_7.alloc _).off o8 (zL y7_B3)
  have B4_8 := (B4_7.alloc _).off o8 (zL y7_B4)
  have B5_8 := (B5_7.alloc _).off o8 (zL y7_B5)
  have B6_8 := (B6_7.alloc _).off o8 (zL y7_B6)
  have z8_B7 := B7_8.lies
  have z8_BF := BF_8.lies
  have z8_B0 := B0_8.lies
  have z8_B2 := B2_8.lies
  have z8_B3 := B3_8.lies
  have z8_B4 := B4_8.lies
  have z8_B5 := B5_8.lies
  have z8_B6 := B6_8.lies
  clear K7 f7 B0_7 B2_7 B3_7 B4_7 B5_7 B6_7 o8
  go_wp2_with (first | (refine row_load (ty := 61) rfl rfl rfl B7_8 (by kernel_rfl) (by rw [row_len]; kernel_rfl) ?_) | (refine row_load (ty := 61) rfl rfl rfl B7_8 (by kernel_rfl) (by rw [row_len]; kernel_rfl) ?_))
  refine (hproducts_any b r7.2 r7.1 r7.1 _ BF_8).mono ?_
  rintro e w9 ⟨rfl, f9, k9⟩
  generalize e9 : hproductsS r7.2 r7.1 r7.1 = r9 at f9 ⊢
  have E9 : Hid _ := e9
  clear e9
  try dsimp only
  have K9 := Kept.trans K8 k9
  have B0_9 := B0_8.kept k9 (zG y1_BF)
  have B2_9 := B2_8.kept k9 (zG y3_BF)
  have B3_9 := B3_8.kept k9 (zG y4_BF)
  have B4_9 := B4_8.kept k9 (zG y5_BF)
  have B6_9 := B6_8.kept k9 (zG y6_BF)
  have B7_9 := B7_8.kept k9 (zG y7_BF)
  have z9 := B7_9.lies
  clear K8 BF_8 B0_8 B2_8 B3_8 B4_8 B6_8 B7_8 k9
  go_wp2_with fail
  refine (hraised_any b r9.2 r9.1 67108864 268435456 _ f9).mono ?_
  rintro e w10 ⟨rfl, f10, k10⟩
  generalize e10 : hraisedS r9.2 r9.1 67108864 268435456 = r10 at f10 ⊢
  have E10 : Hid _ := e10
  clear e10
  try dsimp only
  have K10 := Kept.trans K9 k10
  have B0_10 := B0_9.kept k10 (zG y1_BF)
  have B2_10 := B2_9.kept k10 (zG y3_BF)
  have B3_10 := B3_9.kept k10 (zG y4_BF)
  have B4_10 := B4_9.kept k10 (zG y5_BF)
  have B6_10 := B6_9.kept k10 (zG y6_BF)
  have B7_10 := B7_9.kept k10 (zG y7_BF)
  have z10 := B7_10.lies
  clear K9 f9 B0_9 B2_9 B3_9 B4_9 B6_9 B7_9 k10
  have y8_BF := f10.lies
  have y8_B0 := B0_10.lies
  have y8_B2 := B2_10.lies
  have y8_B3 := B3_10.lies
  have y8_B4 := B4_10.lies
  have y8_B6 := B6_10.lies
  have y8_B7 := B7_10.lies
  go_wp2_with (refine store_stop rfl (by kernel_rfl) ?_)
  refine Stop.mk (store_row (l' := row 36 r10.1) rfl rfl rfl rfl (Arr_at _ _ (row 36 (fun _ => 0)) _ (by simp)) (by simp only [row_len]) (by rw [row_len]; kernel_rfl) (row_one _ _) ?_)
  intro w11 B8_11 o11
  have K11 : Kept b w w11 := Kept.off (K10.al _) o11 (by omega)
  have BF_11 := (f10.alloc _).off o11 (zL y8_BF)
  have B0_11 := (B0_10.alloc _).off o11 (zL y8_B0)
  have B2_11 := (B2_10.alloc _).off o11 (zL y8_B2)
  have B3_11 := (B3_10.alloc _).off o11 (zL y8_B3)
  have B4_11 := (B4_10.alloc _).off o11 (zL y8_B4)
  have B6_11 := (B6_10.alloc _).off o11 (zL y8_B6)
  have B7_11 := (B7_10.alloc _).off o11 (zL y8_B7)
  have z11_B8 := B8_11.lies
  have z11_BF := BF_11.lies
  have z11_B0 := B0_11.lies
  have z11_B2 := B2_11.lies
  have z11_B3 := B3_11.lies
  have z11_B4 := B4_11.lies
  have z11_B6 := B6_11.lies
  have z11_B7 := B7_11.lies
  clear K10 f10 B0_10 B2_10 B3_10 B4_10 B6_10 B7_10 o11
  go_wp2_with (first | (refine row_load (ty := 59) rfl rfl rfl B4_11 (by kernel_rfl) (by rw [row_len]; kernel_rfl) ?_) | (refine row_load (ty := 61) rfl rfl rfl B7_11 (by kernel_rfl) (by rw [row_len]; kernel_rfl) ?_))
  refine (hproducts_any b r10.2 r1.1 r7.1 _ BF_11).mono ?_
  rintro e w12 ⟨rfl, f12, k12⟩
  generalize e12 : hproductsS r10.2 r1.1 r7.1 = r12 at f12 ⊢
  have E12 : Hid _ := e12
  clear e12
  try dsimp only
  have K12 := Kept.trans K11 k12
  have B0_12 := B0_11.kept k12 (zG y1_BF)
  have B2_12 := B2_11.kept k12 (zG y3_BF)
  have B3_12 := B3_11.kept k12 (zG y4_BF)
  have B4_12 := B4_11.kept k12 (zG y5_BF)
  have B6_12 := B6_11.kept k12 (zG y6_BF)
  have B7_12 := B7_11.kept k12 (zG y7_BF)
  have B8_12 := B8_11.kept k12 (zG y8_BF)
  have z12 := B8_12.lies
  clear K11 BF_11 B0_11 B2_11 B3_11 B4_11 B6_11 B7_11 B8_11 k12
  have y9_BF := f12.lies
  have y9_B0 := B0_12.lies
  have y9_B2 := B2_12.lies
  have y9_B3 := B3_12.lies
  have y9_B4 := B4_12.lies
  have y9_B6 := B6_12.lies
  have y9_B7 := B7_12.lies
  have y9_B8 := B8_12.lies
  go_wp2_with (refine store_stop rfl (by kernel_rfl) ?_)
  refine Stop.mk (store_row (l' := row 36 r12.1) rfl rfl rfl rfl (Arr_at _ _ (row 36 (fun _ => 0)) _ (by simp)) (by simp only [row_len]) (by rw [row_len]; kernel_rfl) (row_one _ _) ?_)
  intro w13 B9_13 o13
  have K13 : Kept b w w13 := Kept.off (K12.al _) o13 (by omega)
  have BF_13 := (f12.alloc _).off o13 (zL y9_BF)
  have B0_13 := (B0_12.alloc _).off o13 (zL y9_B0)
  have B2_13 := (B2_12.alloc _).off o13 (zL y9_B2)
  have B3_13 := (B3_12.alloc _).off o13 (zL y9_B3)
  have B4_13 := (B4_12.alloc _).off o13 (zL y9_B4)
  have B6_13 := (B6_12.alloc _).off o13 (zL y9_B6)
  have B7_13 := (B7_12.alloc _).off o13 (zL y9_B7)
  have B8_13 := (B8_12.alloc _).off o13 (zL y9_B8)
  have z13_B9 := B9_13.lies
  have z13_BF := BF_13.lies
  have z13_B0 := B0_13.lies
  have z13_B2 := B2_13.lies
  have z13_B3 := B3_13.lies
  have z13_B4 := B4_13.lies
  have z13_B6 := B6_13.lies
  have z13_B7 := B7_13.lies
  have z13_B8 := B8_13.lies
  clear K12 f12 B0_12 B2_12 B3_12 B4_12 B6_12 B7_12 B8_12 o13
  go_wp2_with fail
  refine get_cont (fun KK2 hKK2 => ?_)
  have cont2 : ∀ (W2 : World) (j21 j22 j23 j24 j25 j26 j27 j28 j29 j30 j31 j32 j33 j34 j35 j36 j37 j38 j39 j40 j41 j42 j43 j44 j45 j46 j47 j48 j49 j50 j51 j52 j53 j54 : Value) (x2_0 : Nat) (r14 : _) (r15 : _) (r16 : _) , Hid (hunitsS r12.2 body = r14) → Hid (hjoinedP r14.1 = r15) → Hid (hlessS r14.2 (fun i_ => if i_ = 0 then r15.1 else if i_ = 1 then r15.2.1 else if i_ = 2 then r15.2.2.1 else if i_ = 3 then r15.2.2.2.1 else if i_ = 4 then r15.2.2.2.2.1 else r15.2.2.2.2.2) r5.1 = r16) → Kept b w W2 → Fl b r16.2 W2 → Arr w.heap.size (row 43 g) W2 → Arr (w.heap.size + 1 + 1) (row 6 body) W2 → Arr (w.heap.size + 1 + 1 + 1) (row 43 (fun _ => 0)) W2 → Arr w5.heap.size (row 6 r5.1) W2 → Arr w10.heap.size (row 36 r10.1) W2 → Arr w12.heap.size (row 36 r12.1) W2 → Arr x2_0 [.int .i64 (r16.1 0), .int .i64 (r16.1 1), .int .i64 (r16.1 2), .int .i64 (r16.1 3), .int .i64 (r16.1 4), .int .i64 (r16.1 5)] W2 → w.heap.size ≤ x2_0 → b < x2_0 → w.heap.size < x2_0 → w.heap.size + 1 + 1 < x2_0 → w.heap.size + 1 + 1 + 1 < x2_0 → w5.heap.size < x2_0 → w10.heap.size < x2_0 → w12.heap.size < x2_0 → KK2 { tmps := #[.pointer (some ⟨b, 0, none⟩), .agg (row 43 g).toArray, .agg (row 6 sky).toArray, .agg (row 6 body).toArray, undef, .pointer (some ⟨w.heap.size, 0, none⟩), .pointer (some ⟨w.heap.size + 1, 0, none⟩), .pointer (some ⟨w.heap.size + 1 + 1, 0, none⟩), .pointer (some ⟨w.heap.size + 1 + 1 + 1, 0, none⟩), .int .i64 0, .bool false, .pointer (some ⟨w1.heap.size, 0, none⟩), .pointer (some ⟨x1_0, 0, none⟩), .pointer (some ⟨w5.heap.size, 0, none⟩), .pointer (some ⟨w7.heap.size, 0, none⟩), .pointer (some ⟨w10.heap.size, 0, none⟩), .pointer (some ⟨w12.heap.size, 0, none⟩), .pointer (some ⟨x2_0, 0, none⟩), undef, undef, undef, j21, j22, j23, j24, j25, j26, j27, j28, j29, j30, j31, j32, j33, j34, j35, j36, j37, j38, j39, j40, j41, j42, j43, j44, j45, j46, j47, j48, j49, j50, j51, j52, j53, j54, undef, undef, undef, undef, undef, undef, undef, undef, undef, undef, undef, undef, undef, undef, undef, undef, undef, undef, undef, undef, undef, undef, undef, undef, undef, undef, undef, undef, undef, undef, undef, undef, undef], defers := [] } W2 := by
   intro W2 j21 j22 j23 j24 j25 j26 j27 j28 j29 j30 j31 j32 j33 j34 j35 j36 j37 j38 j39 j40 j41 j42 j43 j44 j45 j46 j47 j48 j49 j50 j51 j52 j53 j54 x2_0 r14 r15 r16 E14 E15 E16 KC2 BF_c2 B0_c2 B2_c2 B3_c2 B6_c2 B8_c2 B9_c2 B10_c2 s2_0 s2_1 s2_2 s2_3 s2_4 s2_5 s2_6 s2_7
   have zc2_BF := BF_c2.lies
   have zc2_B0 := B0_c2.lies
   have zc2_B2 := B2_c2.lies
   have zc2_B3 := B3_c2.lies
   have zc2_B6 := B6_c2.lies
   have zc2_B8 := B8_c2.lies
   have zc2_B9 := B9_c2.lies
   have zc2_B10 := B10_c2.lies
   rw [hKK2.out]
   dsimp only [Exit.inBlock, Exit.then]
   first | refine use_cont (by assumption) ?_ | skip
   go_wp2_with (refine row_load (ty := 36) rfl rfl rfl B8_c2 (by kernel_rfl) (by rw [row_len]; kernel_rfl) ?_)
   refine (hRoot6_any b r16.2 r10.1 _ BF_c2).mono ?_
   rintro e w17 ⟨rfl, f17, k17⟩
   generalize e17 : zRoot6 r16.2 r10.1 = r17 at f17 ⊢
   have E17 : Hid _ := e17
   clear e17
   try dsimp only
   have K17 : Kept b w w17 := Kept.trans KC2 k17
   have B0_17 := B0_c2.kept k17 (zG y1_BF)
   have B3_17 := B3_c2.kept k17 (zG y4_BF)
   have B8_17 := B8_c2.kept k17 (zG y8_BF)
   have B9_17 := B9_c2.kept k17 (zG y9_BF)
   have B10_17 := B10_c2.kept k17 (zG s2_1)
   have z17 := B10_17.lies
   clear BF_c2 B0_c2 B3_c2 B8_c2 B9_c2 B10_c2 k17
   have y10_BF := f17.lies
   have y10_B0 := B0_17.lies
   have y10_B3 := B3_17.lies
   have y10_B8 := B8_17.lies
   have y10_B9 := B9_17.lies
   have y10_B10 := B10_17.lies
   go_wp2_with (refine store_stop rfl (by kernel_rfl) ?_)
   refine Stop.mk (store_row (l' := row 36 r17.1) rfl rfl rfl rfl (Arr_at _ _ (row 36 (fun _ => 0)) _ (by simp)) (by simp only [row_len]) (by rw [row_len]; kernel_rfl) (row_one _ _) ?_)
   intro w18 B11_18 o18
   have K18 : Kept b w w18 := Kept.off (K17.al _) o18 (by omega)
   have BF_18 := (f17.alloc _).off o18 (zL y10_BF)
   have B0_18 := (B0_17.alloc _).off o18 (zL y10_B0)
   have B3_18 := (B3_17.alloc _).off o18 (zL y10_B3)
   have B8_18 := (B8_17.alloc _).off o18 (zL y10_B8)
   have B9_18 := (B9_17.alloc _).off o18 (zL y10_B9)
   have B10_18 := (B10_17.alloc _).off o18 (zL y10_B10)
   have z18_B11 := B11_18.lies
   have z18_BF := BF_18.lies
   have z18_B0 := B0_18.lies
   have z18_B3 := B3_18.lies
   have z18_B8 := B8_18.lies
   have z18_B9 := B9_18.lies
   have z18_B10 := B10_18.lies
   clear K17 f17 B0_17 B3_17 B8_17 B9_17 B10_17 o18
   go_wp2_with fail
   refine wp_region_held_drew (S := fun w' => Arr x2_0 [.int .i64 (r16.1 0), .int .i64 (r16.1 1), .int .i64 (r16.1 2), .int .i64 (r16.1 3), .int .i64 (r16.1 4), .int .i64 (r16.1 5)] w' ∧ Arr w17.heap.size (row 36 r17.1) w') (by kernel_rfl) ⟨B10_18.drew, B11_18.drew⟩ (fun zH => ?_)
   refine zT 0 rfl (by kernel_rfl) (fun _ _ _ => id) rfl (fun _ _ => by go_simp <;> with_reducible rfl) zH ?_
   simp only [Act.put, zA, zB, zC]
   refine zT 1 rfl (by kernel_rfl) (fun _ _ _ => id) rfl (fun wx hS => by have hc0 : wx.cell? ⟨x2_0, 0, none⟩ = some (.int .i64 (r16.1 0)) := hS.1.c 0 (zD rfl); have hc1 : wx.cell? ⟨x2_0, 1, none⟩ = some (.int .i64 (r16.1 1)) := hS.1.c 1 (zD rfl); have hc2 : wx.cell? ⟨x2_0, 2, none⟩ = some (.int .i64 (r16.1 2)) := hS.1.c 2 (zD rfl); have hc3 : wx.cell? ⟨x2_0, 3, none⟩ = some (.int .i64 (r16.1 3)) := hS.1.c 3 (zD rfl); have hc4 : wx.cell? ⟨x2_0, 4, none⟩ = some (.int .i64 (r16.1 4)) := hS.1.c 4 (zD rfl); have hc5 : wx.cell? ⟨x2_0, 5, none⟩ = some (.int .i64 (r16.1 5)) := hS.1.c 5 (zD rfl); go_simp <;> with_reducible rfl) zH ?_
   simp only [Act.put, zA, zB, zC]
   refine take_at (i := 2) (v := .agg (row 36 (matF r16.1)).toArray) rfl (by kernel_rfl) (by kernel_rfl) (by kernel_rfl) (fun _ _ _ h => h) (Or.inl ⟨by rfl, ?y3⟩) zH ?t3
   case y3 => (intro wx hS; exact build_exec (vs := #[(0, .agg #[.int .i64 (r16.1 0), .int .i64 (r16.1 1), .int .i64 (r16.1 2), .int .i64 (r16.1 3), .int .i64 (r16.1 4), .int .i64 (r16.1 5)])]) rfl (by kernel_rfl) (buildM_run r16.1 wx))
   simp only [Act.put, zA, zB, zC]
   refine zT 3 rfl (by kernel_rfl) (fun _ _ _ => id) rfl (fun _ _ => by go_simp <;> with_reducible rfl) zH ?_
   simp only [Act.put, zA, zB, zC]
   refine take_at (i := 4) rfl (by kernel_rfl) (by kernel_rfl) (by kernel_rfl) (fun _ _ _ h => h) (row_yield (by rfl) rfl rfl (fun _ hS => hS.2) (by kernel_rfl) (by rw [row_len]; kernel_rfl)) zH ?_
   simp only [Act.put, zA, zB, zC]
   refine zT 5 rfl (by kernel_rfl) (fun _ _ _ => id) rfl (fun wx hS => by have hc0 : wx.cell? ⟨x2_0, 0, none⟩ = some (.int .i64 (r16.1 0)) := hS.1.c 0 (zD rfl); have hc1 : wx.cell? ⟨x2_0, 1, none⟩ = some (.int .i64 (r16.1 1)) := hS.1.c 1 (zD rfl); have hc2 : wx.cell? ⟨x2_0, 2, none⟩ = some (.int .i64 (r16.1 2)) := hS.1.c 2 (zD rfl); have hc3 : wx.cell? ⟨x2_0, 3, none⟩ = some (.int .i64 (r16.1 3)) := hS.1.c 3 (zD rfl); have hc4 : wx.cell? ⟨x2_0, 4, none⟩ = some (.int .i64 (r16.1 4)) := hS.1.c 4 (zD rfl); have hc5 : wx.cell? ⟨x2_0, 5, none⟩ = some (.int .i64 (r16.1 5)) := hS.1.c 5 (zD rfl); go_simp <;> with_reducible rfl) zH ?_
   simp only [Act.put, zA, zB, zC]
   refine zK 6 (by kernel_rfl) rfl (fun K hK => ?_)
   go_simp
   refine (hSolve6_any b r17.2 r17.1 r16.1 _ BF_18.drew).mono ?_
   rintro e w19 ⟨rfl, f19, k19⟩
   generalize e19 : zSolve6 r17.2 r17.1 r16.1 = r19 at f19 ⊢
   have E19 : Hid _ := e19
   clear e19
   have K19 : Kept b w w19 := Kept.trans K18.drew k19
   have B0_19 := B0_18.drew.kept k19 (zG y1_BF)
   have B3_19 := B3_18.drew.kept k19 (zG y4_BF)
   have B9_19 := B9_18.drew.kept k19 (zG y9_BF)
   have B10_19 := B10_18.drew.kept k19 (zG s2_1)
   have B11_19 := B11_18.drew.kept k19 (zG y10_BF)
   have z19 := B11_19.lies
   have z19_B10 := B10_19.lies
   clear zH
   refine hK.out _ _ ⟨B10_19, B11_19⟩ (fun zH => ?_)
   clear hK K K18 BF_18 B0_18 B3_18 B9_18 B10_18 B11_18 k19
   refine zK 7 (by kernel_rfl) rfl (fun K hK => ?_)
   go_simp
   refine (hApply6_any b r19.2 (matF r16.1) r19.1 _ f19).mono ?_
   rintro e w20 ⟨rfl, f20, k20⟩
   generalize e20 : zApply6 r19.2 (matF r16.1) r19.1 = r20 at f20 ⊢
   have E20 : Hid _ := e20
   clear e20
   have K20 := Kept.trans K19 k20
   have B0_20 := B0_19.kept k20 (zG y1_BF)
   have B3_20 := B3_19.kept k20 (zG y4_BF)
   have B9_20 := B9_19.kept k20 (zG y9_BF)
   have B10_20 := B10_19.kept k20 (zG s2_1)
   have B11_20 := B11_19.kept k20 (zG y10_BF)
   have z20 := B11_20.lies
   have z20_B10 := B10_20.lies
   clear zH
   refine hK.out _ _ ⟨B10_20, B11_20⟩ (fun zH => ?_)
   clear hK K K19 f19 B0_19 B3_19 B9_19 B10_19 B11_19 k20
   refine zT 8 rfl (by kernel_rfl) (fun _ _ _ => id) rfl (fun _ _ => by go_simp <;> with_reducible rfl) zH ?_
   simp only [Act.put, zA, zB, zC]
   refine zT 9 rfl (by kernel_rfl) (fun _ _ _ => id) rfl (fun _ _ => by go_simp <;> with_reducible rfl) zH ?_
   simp only [Act.put, zA, zB, zC]
   refine wpAnyH_done (by kernel_rfl) ?_ _
   clear zH
   by_cases hc1 : (r20.1 0) > 32985348833280
   ·have Hhc1 : Hid ((r20.1 0) > 32985348833280) := hc1
    go_wp2_with (first | (refine row_load (ty := 38) rfl rfl rfl B0_20 (by kernel_rfl) (by rw [row_len]; kernel_rfl) ?_) | (refine store_stop rfl (by kernel_rfl) ?_))
    refine Stop.mk (store_row (l' := row 43 g) rfl rfl rfl rfl B3_20 (by simp only [row_len]) (by rw [row_len]; kernel_rfl) (row_one _ _) ?_)
    intro w21 B3_21 o21
    have K21 : Kept b w w21 := Kept.off K20 o21 (by omega)
    have BF_21 := f20.off o21 (zL y4_BF)
    have B0_21 := B0_20.off o21 (zL y4_B0)
    have z21_B3 := B3_21.lies
    have z21_BF := BF_21.lies
    have z21_B0 := B0_21.lies
    clear K20 B3_20 f20 B0_20 o21
    go_wp2_with (with_reducible refine post_stop ?_)
    refine Stop.mk ?_
    refine bodyPost_ret (v := .tuple #[.agg (row 43 g).toArray, .int .i64 (r20.1 0), .bool false]) (results_arr2t Try.results10 B3_21 rfl rfl rfl (by kernel_rfl) (by rw [row_len]; kernel_rfl)) rfl ?_
    have hs : hMeetS bad g sky body = ((g, (r20.1 0), false), r20.2) := by unfold hMeetS; simp only [E1.out, E3.out, E4.out, E5.out, E7.out, E9.out, E10.out, E12.out, E14.out, E15.out, E16.out, E17.out, E19.out, E20.out]; rw [if_pos (by have := Hhc1.out; omega)]
    rw [hs]
    exact ⟨rfl, BF_21, K21⟩
   ·have Hhc1 : Hid (¬ (r20.1 0) > 32985348833280) := hc1
    have c17_B10_0 : w20.cell? ⟨x2_0, 0, none⟩ = some (.int .i64 (r16.1 0)) := B10_20.c 0 (zD rfl)
    have c17_B10_1 : w20.cell? ⟨x2_0, 1, none⟩ = some (.int .i64 (r16.1 1)) := B10_20.c 1 (zD rfl)
    have c17_B10_2 : w20.cell? ⟨x2_0, 2, none⟩ = some (.int .i64 (r16.1 2)) := B10_20.c 2 (zD rfl)
    have c17_B10_3 : w20.cell? ⟨x2_0, 3, none⟩ = some (.int .i64 (r16.1 3)) := B10_20.c 3 (zD rfl)
    have c17_B10_4 : w20.cell? ⟨x2_0, 4, none⟩ = some (.int .i64 (r16.1 4)) := B10_20.c 4 (zD rfl)
    have c17_B10_5 : w20.cell? ⟨x2_0, 5, none⟩ = some (.int .i64 (r16.1 5)) := B10_20.c 5 (zD rfl)
    go_wp2_with (first | (refine row_load (ty := 38) rfl rfl rfl B0_20 (by kernel_rfl) (by rw [row_len]; kernel_rfl) ?_) | (refine row_load (ty := 36) rfl rfl rfl B11_20 (by kernel_rfl) (by rw [row_len]; kernel_rfl) ?_) | (refine row_load (ty := 36) rfl rfl rfl B9_20 (by kernel_rfl) (by rw [row_len]; kernel_rfl) ?_))
    refine (hmet_any b r20.2 g r17.1 r12.1 r16.1 _ f20).mono ?_
    rintro e w21 ⟨rfl, f21, k21⟩
    generalize e21 : hmetS r20.2 g r17.1 r12.1 r16.1 = r21 at f21 ⊢
    have E21 : Hid _ := e21
    clear e21
    try dsimp only
    have K21 := Kept.trans K20 k21
    have B0_21 := B0_20.kept k21 (zG y1_BF)
    have B3_21 := B3_20.kept k21 (zG y4_BF)
    have B9_21 := B9_20.kept k21 (zG y9_BF)
    have B10_21 := B10_20.kept k21 (zG s2_1)
    have B11_21 := B11_20.kept k21 (zG y10_BF)
    have z21 := B11_21.lies
    have z21_B10 := B10_21.lies
    clear c17_B10_0 c17_B10_1 c17_B10_2 c17_B10_3 c17_B10_4 c17_B10_5 K20 f20 B0_20 B3_20 B9_20 B10_20 B11_20 k21
    have y11_BF := f21.lies
    have y11_B0 := B0_21.lies
    have y11_B3 := B3_21.lies
    have y11_B9 := B9_21.lies
    have y11_B10 := B10_21.lies
    have y11_B11 := B11_21.lies
    go_wp2_with (refine store_stop rfl (by kernel_rfl) ?_)
    refine Stop.mk (store_row (l' := row 43 r21.1) rfl rfl rfl rfl (Arr_at _ _ (row 43 (fun _ => 0)) _ (by simp)) (by simp only [row_len]) (by rw [row_len]; kernel_rfl) (row_one _ _) ?_)
    intro w22 B12_22 o22
    have K22 : Kept b w w22 := Kept.off (K21.al _) o22 (by omega)
    have BF_22 := (f21.alloc _).off o22 (zL y11_BF)
    have B0_22 := (B0_21.alloc _).off o22 (zL y11_B0)
    have B3_22 := (B3_21.alloc _).off o22 (zL y11_B3)
    have B9_22 := (B9_21.alloc _).off o22 (zL y11_B9)
    have B10_22 := (B10_21.alloc _).off o22 (zL y11_B10)
    have B11_22 := (B11_21.alloc _).off o22 (zL y11_B11)
    have z22_B12 := B12_22.lies
    have z22_BF := BF_22.lies
    have z22_B0 := B0_22.lies
    have z22_B3 := B3_22.lies
    have z22_B9 := B9_22.lies
    have z22_B10 := B10_22.lies
    have z22_B11 := B11_22.lies
    clear K21 f21 B0_21 B3_21 B9_21 B10_21 B11_21 o22
    rcases Bool.eq_false_or_eq_true r21.2 with hc2 | hc2
    ·have Hhc2 : Hid (r21.2 = true) := hc2
     have c19_BF := BF_22.cell
     go_wp2_with (refine store_stop rfl (by kernel_rfl) ?_)
     clear c19_BF
     refine Stop.mk (store_row (l' := row 43 (fun _ => 0)) rfl rfl rfl rfl B3_22 (by simp only [row_len]) (by rw [row_len]; kernel_rfl) (row_one _ _) ?_)
     intro w23 B3_23 o23
     have K23 : Kept b w w23 := Kept.off K22 o23 (by omega)
     have BF_23 := BF_22.off o23 (zL y4_BF)
     have z23_B3 := B3_23.lies
     have z23_BF := BF_23.lies
     clear K22 B3_22 BF_22 o23
     go_wp2_with (with_reducible refine post_stop ?_)
     refine Stop.mk ?_
     refine bodyPost_ret (v := .tuple #[.agg (row 43 (fun _ => 0)).toArray, .int .i64 0, .bool false]) (results_arr2t Try.results10 B3_23 rfl rfl rfl (by kernel_rfl) (by rw [row_len]; kernel_rfl)) rfl ?_
     have hs : hMeetS bad g sky body = (((fun _ => 0), 0, false), r21.2) := by unfold hMeetS; simp only [E1.out, E3.out, E4.out, E5.out, E7.out, E9.out, E10.out, E12.out, E14.out, E15.out, E16.out, E17.out, E19.out, E20.out, E21.out]; rw [if_neg (by have := Hhc1.out; omega)]; rw [if_pos Hhc2.out]
     rw [hs]
     exact ⟨rfl, BF_23, K23⟩
    ·have Hhc2 : Hid (r21.2 = false) := hc2
     have c19_BF := BF_22.cell
     go_wp2_with (first | (refine row_load (ty := 38) rfl rfl rfl B12_22 (by kernel_rfl) (by rw [row_len]; kernel_rfl) ?_) | (refine store_stop rfl (by kernel_rfl) ?_))
     clear c19_BF
     refine Stop.mk (store_row (l' := row 43 r21.1) rfl rfl rfl rfl B3_22 (by simp only [row_len]) (by rw [row_len]; kernel_rfl) (row_one _ _) ?_)
     intro w23 B3_23 o23
     have K23 : Kept b w w23 := Kept.off K22 o23 (by omega)
     have BF_23 := BF_22.off o23 (zL y4_BF)
     have B12_23 := B12_22.off o23 (zG y11_B3)
     have z23_B3 := B3_23.lies
     have z23_BF := BF_23.lies
     have z23_B12 := B12_23.lies
     clear K22 B3_22 BF_22 B12_22 o23
     go_wp2_with (with_reducible refine post_stop ?_)
     refine Stop.mk ?_
     refine bodyPost_ret (v := .tuple #[.agg (row 43 r21.1).toArray, .int .i64 (r20.1 0), .bool true]) (results_arr2t Try.results10 B3_23 rfl rfl rfl (by kernel_rfl) (by rw [row_len]; kernel_rfl)) rfl ?_
     have hs : hMeetS bad g sky body = ((r21.1, (r20.1 0), true), r21.2) := by unfold hMeetS; simp only [E1.out, E3.out, E4.out, E5.out, E7.out, E9.out, E10.out, E12.out, E14.out, E15.out, E16.out, E17.out, E19.out, E20.out, E21.out]; rw [if_neg (by have := Hhc1.out; omega)]; rw [if_neg (by rw [Hhc2.out]; decide)]
     rw [hs]
     exact ⟨rfl, BF_23, K23⟩
  refine wp_region_held_drew (S := fun w' => Arr (w.heap.size + 1 + 1) (row 6 body) w' ∧ Arr w5.heap.size (row 6 r5.1) w') (by kernel_rfl) ⟨B2_13.drew, B6_13.drew⟩ (fun zH => ?_)
  refine zT 0 rfl (by kernel_rfl) (fun _ _ _ => id) rfl (fun _ _ => by go_simp <;> with_reducible rfl) zH ?_
  simp only [Act.put, zA, zB, zC]
  refine zT 1 rfl (by kernel_rfl) (fun _ _ _ => id) rfl (fun _ _ => by go_simp <;> with_reducible rfl) zH ?_
  simp only [Act.put, zA, zB, zC]
  refine take_at (i := 2) rfl (by kernel_rfl) (by kernel_rfl) (by kernel_rfl) (fun _ _ _ h => h) (row_yield (by rfl) rfl rfl (fun _ hS => hS.1) (by kernel_rfl) (by rw [row_len]; kernel_rfl)) zH ?_
  simp only [Act.put, zA, zB, zC]
  refine take_at (i := 5) rfl (by kernel_rfl) (by kernel_rfl) (by kernel_rfl) (fun _ _ _ h => h) (row_yield (by rfl) rfl rfl (fun _ hS => hS.2) (by kernel_rfl) (by rw [row_len]; kernel_rfl)) zH ?_
  simp only [Act.put, zA, zB, zC]
  refine call_at2 (i0 := 3) (i1 := 7) (by kernel_rfl) rfl rfl (fun K hK => ?_) (fun K hK => ?_)
  ·go_simp
   refine (hunits_any b r12.2 body _ BF_13.drew).mono ?_
   rintro e w14 ⟨rfl, f14, k14⟩
   generalize e14 : hunitsS r12.2 body = r14 at f14 ⊢
   have E14 : Hid _ := e14
   clear e14
   have K14 : Kept b w w14 := Kept.trans K13.drew k14
   have B0_14 := B0_13.drew.kept k14 (zG y1_BF)
   have B2_14 := B2_13.drew.kept k14 (zG y3_BF)
   have B3_14 := B3_13.drew.kept k14 (zG y4_BF)
   have B6_14 := B6_13.drew.kept k14 (zG y6_BF)
   have B8_14 := B8_13.drew.kept k14 (zG y8_BF)
   have B9_14 := B9_13.drew.kept k14 (zG y9_BF)
   have z14 := B9_14.lies
   clear zH
   refine hK.out _ _ ⟨B2_14, B6_14⟩ (fun zH => ?_)
   clear hK K K13 BF_13 B0_13 B2_13 B3_13 B6_13 B8_13 B9_13 k14
   refine call_at2 (i0 := 4) (i1 := 7) (by kernel_rfl) rfl rfl (fun K hK => ?_) (fun K hK => ?_)
   ·go_simp
    refine (hjoined_any r14.1 _).mono ?_
    rintro e w15 ⟨rfl, k15⟩
    generalize e15 : hjoinedP r14.1 = r15
    have E15 : Hid _ := e15
    clear e15
    have K15 : Kept b w w15 := Kept.trans K14 (Kept.of_below k15)
    have BF_15 := f14.below k15
    have B0_15 := B0_14.below k15
    have B2_15 := B2_14.below k15
    have B3_15 := B3_14.below k15
    have B6_15 := B6_14.below k15
    have B8_15 := B8_14.below k15
    have B9_15 := B9_14.below k15
    have z15 := B9_15.lies
    clear zH
    refine hK.out _ _ ⟨B2_15, B6_15⟩ (fun zH => ?_)
    clear hK K K14 f14 B0_14 B2_14 B3_14 B6_14 B8_14 B9_14 k15
    refine call_at2 (i0 := 6) (i1 := 7) (by kernel_rfl) rfl rfl (fun K hK => ?_) (fun K hK => ?_)
    ·go_simp
     refine (hless_any b r14.2 (fun i_ => if i_ = 0 then r15.1 else if i_ = 1 then r15.2.1 else if i_ = 2 then r15.2.2.1 else if i_ = 3 then r15.2.2.2.1 else if i_ = 4 then r15.2.2.2.2.1 else r15.2.2.2.2.2) r5.1 _ BF_15).mono ?_
     rintro e w16 ⟨rfl, f16, k16⟩
     generalize e16 : hlessS r14.2 (fun i_ => if i_ = 0 then r15.1 else if i_ = 1 then r15.2.1 else if i_ = 2 then r15.2.2.1 else if i_ = 3 then r15.2.2.2.1 else if i_ = 4 then r15.2.2.2.2.1 else r15.2.2.2.2.2) r5.1 = r16 at f16 ⊢
     have E16 : Hid _ := e16
     clear e16
     have K16 := Kept.trans K15 k16
     have B0_16 := B0_15.kept k16 (zG y1_BF)
     have B2_16 := B2_15.kept k16 (zG y3_BF)
     have B3_16 := B3_15.kept k16 (zG y4_BF)
     have B6_16 := B6_15.kept k16 (zG y6_BF)
     have B8_16 := B8_15.kept k16 (zG y8_BF)
     have B9_16 := B9_15.kept k16 (zG y9_BF)
     have z16 := B9_16.lies
     clear zH
     refine hK.out _ _ ⟨B2_16, B6_16⟩ (fun zH => ?_)
     clear hK K K15 BF_15 B0_15 B2_15 B3_15 B6_15 B8_15 B9_15 k16
     refine zK 7 (by kernel_rfl) rfl (fun K hK => ?_)
     have y12_BF := f16.lies
     have y12_B0 := B0_16.lies
     have y12_B2 := B2_16.lies
     have y12_B3 := B3_16.lies
     have y12_B6 := B6_16.lies
     have y12_B8 := B8_16.lies
     have y12_B9 := B9_16.lies
     go_simp
     clear zH
     refine hK.out _ _ ⟨(B2_16.alloc _), (B6_16.alloc _)⟩ (fun zH => ?_)
     clear hK K
     refine zK 8 (by kernel_rfl) rfl (fun K hK => ?_)
     have hrow : (row 6 r16.1).toArray = #[.int .i64 (r16.1 0), .int .i64 (r16.1 1), .int .i64 (r16.1 2), .int .i64 (r16.1 3), .int .i64 (r16.1 4), .int .i64 (r16.1 5)] := rfl
     go_simp
     clear zH
     refine hK.out _ _ ⟨(B2_16.alloc _), (B6_16.alloc _)⟩ (fun zH => ?_)
     clear hK K hrow
     refine wpAnyH_done (by kernel_rfl) ?_ _
     clear zH
     refine put_cont hKK2 ?_
     exact cont2 _ _ _ _ _ _ _ _ _ _ _ _ _ _ _ _ _ _ _ _ _ _ _ _ _ _ _ _ _ _ _ _ _ _ _ w16.heap.size r14 r15 r16 E14 E15 E16 (K16.al _) (f16.alloc _) (B0_16.alloc _) (B2_16.alloc _) (B3_16.alloc _) (B6_16.alloc _) (B8_16.alloc _) (B9_16.alloc _) (Arr_at _ _ [.int .i64 (r16.1 0), .int .i64 (r16.1 1), .int .i64 (r16.1 2), .int .i64 (r16.1 3), .int .i64 (r16.1 4), .int .i64 (r16.1 5)] _ (by simp)) (by omega) y12_BF y12_B0 y12_B2 y12_B3 y12_B6 y12_B8 y12_B9
    ·have y13_BF := BF_15.lies
     have y13_B0 := B0_15.lies
     have y13_B2 := B2_15.lies
     have y13_B3 := B3_15.lies
     have y13_B6 := B6_15.lies
     have y13_B8 := B8_15.lies
     have y13_B9 := B9_15.lies
     go_simp
     clear zH
     refine hK.out _ _ ⟨(B2_15.alloc _), (B6_15.alloc _)⟩ (fun zH => ?_)
     clear hK K
     refine zK 6 (by kernel_rfl) rfl (fun K hK => ?_)
     go_simp
     refine (hless_any b r14.2 (fun i_ => if i_ = 0 then r15.1 else if i_ = 1 then r15.2.1 else if i_ = 2 then r15.2.2.1 else if i_ = 3 then r15.2.2.2.1 else if i_ = 4 then r15.2.2.2.2.1 else r15.2.2.2.2.2) r5.1 _ (BF_15.alloc _)).mono ?_
     rintro e w16 ⟨rfl, f16, k16⟩
     generalize e16 : hlessS r14.2 (fun i_ => if i_ = 0 then r15.1 else if i_ = 1 then r15.2.1 else if i_ = 2 then r15.2.2.1 else if i_ = 3 then r15.2.2.2.1 else if i_ = 4 then r15.2.2.2.2.1 else r15.2.2.2.2.2) r5.1 = r16 at f16 ⊢
     have E16 : Hid _ := e16
     clear e16
     have K16 : Kept b w w16 := Kept.trans (K15.al _) k16
     have B0_16 := (B0_15.alloc _).kept k16 (zG y1_BF)
     have B2_16 := (B2_15.alloc _).kept k16 (zG y3_BF)
     have B3_16 := (B3_15.alloc _).kept k16 (zG y4_BF)
     have B6_16 := (B6_15.alloc _).kept k16 (zG y6_BF)
     have B8_16 := (B8_15.alloc _).kept k16 (zG y8_BF)
     have B9_16 := (B9_15.alloc _).kept k16 (zG y9_BF)
     have B10_16 := (Arr_at _ w15.heap.size [.int .i64 0, .int .i64 0, .int .i64 0, .int .i64 0, .int .i64 0, .int .i64 0] _ (by simp)).kept k16 (zG y13_BF)
     have z16 := B10_16.lies
     clear zH
     refine hK.out _ _ ⟨B2_16, B6_16⟩ (fun zH => ?_)
     clear hK K K15 BF_15 B0_15 B2_15 B3_15 B6_15 B8_15 B9_15 k16
     refine zK 8 (by kernel_rfl) rfl (fun K hK => ?_)
     have c15_B10_0 : w16.cell? ⟨w15.heap.size, 0, none⟩ = some (.int .i64 0) := B10_16.c 0 (zD rfl)
     have c15_B10_1 : w16.cell? ⟨w15.heap.size, 1, none⟩ = some (.int .i64 0) := B10_16.c 1 (zD rfl)
     have c15_B10_2 : w16.cell? ⟨w15.heap.size, 2, none⟩ = some (.int .i64 0) := B10_16.c 2 (zD rfl)
     have c15_B10_3 : w16.cell? ⟨w15.heap.size, 3, none⟩ = some (.int .i64 0) := B10_16.c 3 (zD rfl)
     have c15_B10_4 : w16.cell? ⟨w15.heap.size, 4, none⟩ = some (.int .i64 0) := B10_16.c 4 (zD rfl)
     have c15_B10_5 : w16.cell? ⟨w15.heap.size, 5, none⟩ = some (.int .i64 0) := B10_16.c 5 (zD rfl)
     have g15_B10_0 := B10_16.f 0 (zD rfl)
     have g15_B10_1 := B10_16.f 1 (zD rfl)
     have g15_B10_2 := B10_16.f 2 (zD rfl)
     have g15_B10_3 := B10_16.f 3 (zD rfl)
     have g15_B10_4 := B10_16.f 4 (zD rfl)
     have g15_B10_5 := B10_16.f 5 (zD rfl)
     have hrow : (row 6 r16.1).toArray = #[.int .i64 (r16.1 0), .int .i64 (r16.1 1), .int .i64 (r16.1 2), .int .i64 (r16.1 3), .int .i64 (r16.1 4), .int .i64 (r16.1 5)] := rfl
     go_simp
     clear zH
     refine hK.out _ _ ⟨((((((B2_16.new w15.heap.size 0 (zL y13_B2) (.int .i64 (r16.1 0))).new w15.heap.size 1 (zL y13_B2) (.int .i64 (r16.1 1))).new w15.heap.size 2 (zL y13_B2) (.int .i64 (r16.1 2))).new w15.heap.size 3 (zL y13_B2) (.int .i64 (r16.1 3))).new w15.heap.size 4 (zL y13_B2) (.int .i64 (r16.1 4))).new w15.heap.size 5 (zL y13_B2) (.int .i64 (r16.1 5))), ((((((B6_16.new w15.heap.size 0 (zL y13_B6) (.int .i64 (r16.1 0))).new w15.heap.size 1 (zL y13_B6) (.int .i64 (r16.1 1))).new w15.heap.size 2 (zL y13_B6) (.int .i64 (r16.1 2))).new w15.heap.size 3 (zL y13_B6) (.int .i64 (r16.1 3))).new w15.heap.size 4 (zL y13_B6) (.int .i64 (r16.1 4))).new w15.heap.size 5 (zL y13_B6) (.int .i64 (r16.1 5)))⟩ (fun zH => ?_)
     clear hK K c15_B10_0 c15_B10_1 c15_B10_2 c15_B10_3 c15_B10_4 c15_B10_5 g15_B10_0 g15_B10_1 g15_B10_2 g15_B10_3 g15_B10_4 g15_B10_5 hrow
     refine wpAnyH_done (by kernel_rfl) ?_ _
     clear zH
     refine put_cont hKK2 ?_
     exact cont2 _ _ _ _ _ _ _ _ _ _ _ _ _ _ _ _ _ _ _ _ _ _ _ _ _ _ _ _ _ _ _ _ _ _ _ w15.heap.size r14 r15 r16 E14 E15 E16 ((((((K16.new _ _ (by omega) _).new _ _ (by omega) _).new _ _ (by omega) _).new _ _ (by omega) _).new _ _ (by omega) _).new _ _ (by omega) _) ((((((f16.new w15.heap.size 0 (zL y13_BF) (.int .i64 (r16.1 0))).new w15.heap.size 1 (zL y13_BF) (.int .i64 (r16.1 1))).new w15.heap.size 2 (zL y13_BF) (.int .i64 (r16.1 2))).new w15.heap.size 3 (zL y13_BF) (.int .i64 (r16.1 3))).new w15.heap.size 4 (zL y13_BF) (.int .i64 (r16.1 4))).new w15.heap.size 5 (zL y13_BF) (.int .i64 (r16.1 5))) ((((((B0_16.new w15.heap.size 0 (zL y13_B0) (.int .i64 (r16.1 0))).new w15.heap.size 1 (zL y13_B0) (.int .i64 (r16.1 1))).new w15.heap.size 2 (zL y13_B0) (.int .i64 (r16.1 2))).new w15.heap.size 3 (zL y13_B0) (.int .i64 (r16.1 3))).new w15.heap.size 4 (zL y13_B0) (.int .i64 (r16.1 4))).new w15.heap.size 5 (zL y13_B0) (.int .i64 (r16.1 5))) ((((((B2_16.new w15.heap.size 0 (zL y13_B2) (.int .i64 (r16.1 0))).new w15.heap.size 1 (zL y13_B2) (.int .i64 (r16.1 1))).new w15.heap.size 2 (zL y13_B2) (.int .i64 (r16.1 2))).new w15.heap.size 3 (zL y13_B2) (.int .i64 (r16.1 3))).new w15.heap.size 4 (zL y13_B2) (.int .i64 (r16.1 4))).new w15.heap.size 5 (zL y13_B2) (.int .i64 (r16.1 5))) ((((((B3_16.new w15.heap.size 0 (zL y13_B3) (.int .i64 (r16.1 0))).new w15.heap.size 1 (zL y13_B3) (.int .i64 (r16.1 1))).new w15.heap.size 2 (zL y13_B3) (.int .i64 (r16.1 2))).new w15.heap.size 3 (zL y13_B3) (.int .i64 (r16.1 3))).new w15.heap.size 4 (zL y13_B3) (.int .i64 (r16.1 4))).new w15.heap.size 5 (zL y13_B3) (.int .i64 (r16.1 5))) ((((((B6_16.new w15.heap.size 0 (zL y13_B6) (.int .i64 (r16.1 0))).new w15.heap.size 1 (zL y13_B6) (.int .i64 (r16.1 1))).new w15.heap.size 2 (zL y13_B6) (.int .i64 (r16.1 2))).new w15.heap.size 3 (zL y13_B6) (.int .i64 (r16.1 3))).new w15.heap.size 4 (zL y13_B6) (.int .i64 (r16.1 4))).new w15.heap.size 5 (zL y13_B6) (.int .i64 (r16.1 5))) ((((((B8_16.new w15.heap.size 0 (zL y13_B8) (.int .i64 (r16.1 0))).new w15.heap.size 1 (zL y13_B8) (.int .i64 (r16.1 1))).new w15.heap.size 2 (zL y13_B8) (.int .i64 (r16.1 2))).new w15.heap.size 3 (zL y13_B8) (.int .i64 (r16.1 3))).new w15.heap.size 4 (zL y13_B8) (.int .i64 (r16.1 4))).new w15.heap.size 5 (zL y13_B8) (.int .i64 (r16.1 5))) ((((((B9_16.new w15.heap.size 0 (zL y13_B9) (.int .i64 (r16.1 0))).new w15.heap.size 1 (zL y13_B9) (.int .i64 (r16.1 1))).new w15.heap.size 2 (zL y13_B9) (.int .i64 (r16.1 2))).new w15.heap.size 3 (zL y13_B9) (.int .i64 (r16.1 3))).new w15.heap.size 4 (zL y13_B9) (.int .i64 (r16.1 4))).new w15.heap.size 5 (zL y13_B9) (.int .i64 (r16.1 5))) ((((((B10_16.put 0 (zD rfl) (.int .i64 (r16.1 0)) [.int .i64 (r16.1 0), .int .i64 0, .int .i64 0, .int .i64 0, .int .i64 0, .int .i64 0] rfl).put 1 (zD rfl) (.int .i64 (r16.1 1)) [.int .i64 (r16.1 0), .int .i64 (r16.1 1), .int .i64 0, .int .i64 0, .int .i64 0, .int .i64 0] rfl).put 2 (zD rfl) (.int .i64 (r16.1 2)) [.int .i64 (r16.1 0), .int .i64 (r16.1 1), .int .i64 (r16.1 2), .int .i64 0, .int .i64 0, .int .i64 0] rfl).put 3 (zD rfl) (.int .i64 (r16.1 3)) [.int .i64 (r16.1 0), .int .i64 (r16.1 1), .int .i64 (r16.1 2), .int .i64 (r16.1 3), .int .i64 0, .int .i64 0] rfl).put 4 (zD rfl) (.int .i64 (r16.1 4)) [.int .i64 (r16.1 0), .int .i64 (r16.1 1), .int .i64 (r16.1 2), .int .i64 (r16.1 3), .int .i64 (r16.1 4), .int .i64 0] rfl).put 5 (zD rfl) (.int .i64 (r16.1 5)) [.int .i64 (r16.1 0), .int .i64 (r16.1 1), .int .i64 (r16.1 2), .int .i64 (r16.1 3), .int .i64 (r16.1 4), .int .i64 (r16.1 5)] rfl) (by omega) y13_BF y13_B0 y13_B2 y13_B3 y13_B6 y13_B8 y13_B9
   ·have y14_BF := f14.lies
    have y14_B0 := B0_14.lies
    have y14_B2 := B2_14.lies
    have y14_B3 := B3_14.lies
    have y14_B6 := B6_14.lies
    have y14_B8 := B8_14.lies
    have y14_B9 := B9_14.lies
    go_simp
    clear zH
    refine hK.out _ _ ⟨(B2_14.alloc _), (B6_14.alloc _)⟩ (fun zH => ?_)
    clear hK K
    refine zK 4 (by kernel_rfl) rfl (fun K hK => ?_)
    go_simp
    refine (hjoined_any r14.1 _).mono ?_
    rintro e w15 ⟨rfl, k15⟩
    generalize e15 : hjoinedP r14.1 = r15
    have E15 : Hid _ := e15
    clear e15
    have K15 : Kept b w w15 := Kept.trans (K14.al _) (Kept.of_below k15)
    have BF_15 := (f14.alloc _).below k15
    have B0_15 := (B0_14.alloc _).below k15
    have B2_15 := (B2_14.alloc _).below k15
    have B3_15 := (B3_14.alloc _).below k15
    have B6_15 := (B6_14.alloc _).below k15
    have B8_15 := (B8_14.alloc _).below k15
    have B9_15 := (B9_14.alloc _).below k15
    have B10_15 := (Arr_at _ w14.heap.size [.int .i64 0, .int .i64 0, .int .i64 0, .int .i64 0, .int .i64 0, .int .i64 0] _ (by simp)).below k15
    have z15 := B10_15.lies
    clear zH
    refine hK.out _ _ ⟨B2_15, B6_15⟩ (fun zH => ?_)
    clear hK K K14 f14 B0_14 B2_14 B3_14 B6_14 B8_14 B9_14 k15
    refine zK 6 (by kernel_rfl) rfl (fun K hK => ?_)
    go_simp
    refine (hless_any b r14.2 (fun i_ => if i_ = 0 then r15.1 else if i_ = 1 then r15.2.1 else if i_ = 2 then r15.2.2.1 else if i_ = 3 then r15.2.2.2.1 else if i_ = 4 then r15.2.2.2.2.1 else r15.2.2.2.2.2) r5.1 _ BF_15).mono ?_
    rintro e w16 ⟨rfl, f16, k16⟩
    generalize e16 : hlessS r14.2 (fun i_ => if i_ = 0 then r15.1 else if i_ = 1 then r15.2.1 else if i_ = 2 then r15.2.2.1 else if i_ = 3 then r15.2.2.2.1 else if i_ = 4 then r15.2.2.2.2.1 else r15.2.2.2.2.2) r5.1 = r16 at f16 ⊢
    have E16 : Hid _ := e16
    clear e16
    have K16 := Kept.trans K15 k16
    have B0_16 := B0_15.kept k16 (zG y1_BF)
    have B2_16 := B2_15.kept k16 (zG y3_BF)
    have B3_16 := B3_15.kept k16 (zG y4_BF)
    have B6_16 := B6_15.kept k16 (zG y6_BF)
    have B8_16 := B8_15.kept k16 (zG y8_BF)
    have B9_16 := B9_15.kept k16 (zG y9_BF)
    have B10_16 := B10_15.kept k16 (zG y14_BF)
    have z16 := B10_16.lies
    clear zH
    refine hK.out _ _ ⟨B2_16, B6_16⟩ (fun zH => ?_)
    clear hK K K15 BF_15 B0_15 B2_15 B3_15 B6_15 B8_15 B9_15 B10_15 k16
    refine zK 8 (by kernel_rfl) rfl (fun K hK => ?_)
    have c15_B10_0 : w16.cell? ⟨w14.heap.size, 0, none⟩ = some (.int .i64 0) := B10_16.c 0 (zD rfl)
    have c15_B10_1 : w16.cell? ⟨w14.heap.size, 1, none⟩ = some (.int .i64 0) := B10_16.c 1 (zD rfl)
    have c15_B10_2 : w16.cell? ⟨w14.heap.size, 2, none⟩ = some (.int .i64 0) := B10_16.c 2 (zD rfl)
    have c15_B10_3 : w16.cell? ⟨w14.heap.size, 3, none⟩ = some (.int .i64 0) := B10_16.c 3 (zD rfl)
    have c15_B10_4 : w16.cell? ⟨w14.heap.size, 4, none⟩ = some (.int .i64 0) := B10_16.c 4 (zD rfl)
    have c15_B10_5 : w16.cell? ⟨w14.heap.size, 5, none⟩ = some (.int .i64 0) := B10_16.c 5 (zD rfl)
    have g15_B10_0 := B10_16.f 0 (zD rfl)
    have g15_B10_1 := B10_16.f 1 (zD rfl)
    have g15_B10_2 := B10_16.f 2 (zD rfl)
    have g15_B10_3 := B10_16.f 3 (zD rfl)
    have g15_B10_4 := B10_16.f 4 (zD rfl)
    have g15_B10_5 := B10_16.f 5 (zD rfl)
    have hrow : (row 6 r16.1).toArray = #[.int .i64 (r16.1 0), .int .i64 (r16.1 1), .int .i64 (r16.1 2), .int .i64 (r16.1 3), .int .i64 (r16.1 4), .int .i64 (r16.1 5)] := rfl
    go_simp
    clear zH
    refine hK.out _ _ ⟨((((((B2_16.new w14.heap.size 0 (zL y14_B2) (.int .i64 (r16.1 0))).new w14.heap.size 1 (zL y14_B2) (.int .i64 (r16.1 1))).new w14.heap.size 2 (zL y14_B2) (.int .i64 (r16.1 2))).new w14.heap.size 3 (zL y14_B2) (.int .i64 (r16.1 3))).new w14.heap.size 4 (zL y14_B2) (.int .i64 (r16.1 4))).new w14.heap.size 5 (zL y14_B2) (.int .i64 (r16.1 5))), ((((((B6_16.new w14.heap.size 0 (zL y14_B6) (.int .i64 (r16.1 0))).new w14.heap.size 1 (zL y14_B6) (.int .i64 (r16.1 1))).new w14.heap.size 2 (zL y14_B6) (.int .i64 (r16.1 2))).new w14.heap.size 3 (zL y14_B6) (.int .i64 (r16.1 3))).new w14.heap.size 4 (zL y14_B6) (.int .i64 (r16.1 4))).new w14.heap.size 5 (zL y14_B6) (.int .i64 (r16.1 5)))⟩ (fun zH => ?_)
    clear hK K c15_B10_0 c15_B10_1 c15_B10_2 c15_B10_3 c15_B10_4 c15_B10_5 g15_B10_0 g15_B10_1 g15_B10_2 g15_B10_3 g15_B10_4 g15_B10_5 hrow
    refine wpAnyH_done (by kernel_rfl) ?_ _
    clear zH
    refine put_cont hKK2 ?_
    exact cont2 _ _ _ _ _ _ _ _ _ _ _ _ _ _ _ _ _ _ _ _ _ _ _ _ _ _ _ _ _ _ _ _ _ _ _ w14.heap.size r14 r15 r16 E14 E15 E16 ((((((K16.new _ _ (by omega) _).new _ _ (by omega) _).new _ _ (by omega) _).new _ _ (by omega) _).new _ _ (by omega) _).new _ _ (by omega) _) ((((((f16.new w14.heap.size 0 (zL y14_BF) (.int .i64 (r16.1 0))).new w14.heap.size 1 (zL y14_BF) (.int .i64 (r16.1 1))).new w14.heap.size 2 (zL y14_BF) (.int .i64 (r16.1 2))).new w14.heap.size 3 (zL y14_BF) (.int .i64 (r16.1 3))).new w14.heap.size 4 (zL y14_BF) (.int .i64 (r16.1 4))).new w14.heap.size 5 (zL y14_BF) (.int .i64 (r16.1 5))) ((((((B0_16.new w14.heap.size 0 (zL y14_B0) (.int .i64 (r16.1 0))).new w14.heap.size 1 (zL y14_B0) (.int .i64 (r16.1 1))).new w14.heap.size 2 (zL y14_B0) (.int .i64 (r16.1 2))).new w14.heap.size 3 (zL y14_B0) (.int .i64 (r16.1 3))).new w14.heap.size 4 (zL y14_B0) (.int .i64 (r16.1 4))).new w14.heap.size 5 (zL y14_B0) (.int .i64 (r16.1 5))) ((((((B2_16.new w14.heap.size 0 (zL y14_B2) (.int .i64 (r16.1 0))).new w14.heap.size 1 (zL y14_B2) (.int .i64 (r16.1 1))).new w14.heap.size 2 (zL y14_B2) (.int .i64 (r16.1 2))).new w14.heap.size 3 (zL y14_B2) (.int .i64 (r16.1 3))).new w14.heap.size 4 (zL y14_B2) (.int .i64 (r16.1 4))).new w14.heap.size 5 (zL y14_B2) (.int .i64 (r16.1 5))) ((((((B3_16.new w14.heap.size 0 (zL y14_B3) (.int .i64 (r16.1 0))).new w14.heap.size 1 (zL y14_B3) (.int .i64 (r16.1 1))).new w14.heap.size 2 (zL y14_B3) (.int .i64 (r16.1 2))).new w14.heap.size 3 (zL y14_B3) (.int .i64 (r16.1 3))).new w14.heap.size 4 (zL y14_B3) (.int .i64 (r16.1 4))).new w14.heap.size 5 (zL y14_B3) (.int .i64 (r16.1 5))) ((((((B6_16.new w14.heap.size 0 (zL y14_B6) (.int .i64 (r16.1 0))).new w14.heap.size 1 (zL y14_B6) (.int .i64 (r16.1 1))).new w14.heap.size 2 (zL y14_B6) (.int .i64 (r16.1 2))).new w14.heap.size 3 (zL y14_B6) (.int .i64 (r16.1 3))).new w14.heap.size 4 (zL y14_B6) (.int .i64 (r16.1 4))).new w14.heap.size 5 (zL y14_B6) (.int .i64 (r16.1 5))) ((((((B8_16.new w14.heap.size 0 (zL y14_B8) (.int .i64 (r16.1 0))).new w14.heap.size 1 (zL y14_B8) (.int .i64 (r16.1 1))).new w14.heap.size 2 (zL y14_B8) (.int .i64 (r16.1 2))).new w14.heap.size 3 (zL y14_B8) (.int .i64 (r16.1 3))).new w14.heap.size 4 (zL y14_B8) (.int .i64 (r16.1 4))).new w14.heap.size 5 (zL y14_B8) (.int .i64 (r16.1 5))) ((((((B9_16.new w14.heap.size 0 (zL y14_B9) (.int .i64 (r16.1 0))).new w14.heap.size 1 (zL y14_B9) (.int .i64 (r16.1 1))).new w14.heap.size 2 (zL y14_B9) (.int .i64 (r16.1 2))).new w14.heap.size 3 (zL y14_B9) (.int .i64 (r16.1 3))).new w14.heap.size 4 (zL y14_B9) (.int .i64 (r16.1 4))).new w14.heap.size 5 (zL y14_B9) (.int .i64 (r16.1 5))) ((((((B10_16.put 0 (zD rfl) (.int .i64 (r16.1 0)) [.int .i64 (r16.1 0), .int .i64 0, .int .i64 0, .int .i64 0, .int .i64 0, .int .i64 0] rfl).put 1 (zD rfl) (.int .i64 (r16.1 1)) [.int .i64 (r16.1 0), .int .i64 (r16.1 1), .int .i64 0, .int .i64 0, .int .i64 0, .int .i64 0] rfl).put 2 (zD rfl) (.int .i64 (r16.1 2)) [.int .i64 (r16.1 0), .int .i64 (r16.1 1), .int .i64 (r16.1 2), .int .i64 0, .int .i64 0, .int .i64 0] rfl).put 3 (zD rfl) (.int .i64 (r16.1 3)) [.int .i64 (r16.1 0), .int .i64 (r16.1 1), .int .i64 (r16.1 2), .int .i64 (r16.1 3), .int .i64 0, .int .i64 0] rfl).put 4 (zD rfl) (.int .i64 (r16.1 4)) [.int .i64 (r16.1 0), .int .i64 (r16.1 1), .int .i64 (r16.1 2), .int .i64 (r16.1 3), .int .i64 (r16.1 4), .int .i64 0] rfl).put 5 (zD rfl) (.int .i64 (r16.1 5)) [.int .i64 (r16.1 0), .int .i64 (r16.1 1), .int .i64 (r16.1 2), .int .i64 (r16.1 3), .int .i64 (r16.1 4), .int .i64 (r16.1 5)] rfl) (by omega) y14_BF y14_B0 y14_B2 y14_B3 y14_B6 y14_B8 y14_B9
  ·have y15_BF := BF_13.lies
   have y15_B0 := B0_13.lies
   have y15_B2 := B2_13.lies
   have y15_B3 := B3_13.lies
   have y15_B6 := B6_13.lies
   have y15_B8 := B8_13.lies
   have y15_B9 := B9_13.lies
   go_simp
   clear zH
   refine hK.out _ _ ⟨(B2_13.alloc _).drew, (B6_13.alloc _).drew⟩ (fun zH => ?_)
   clear hK K
   refine zK 3 (by kernel_rfl) rfl (fun K hK => ?_)
   go_simp
   refine (hunits_any b r12.2 body _ (BF_13.alloc _).drew).mono ?_
   rintro e w14 ⟨rfl, f14, k14⟩
   generalize e14 : hunitsS r12.2 body = r14 at f14 ⊢
   have E14 : Hid _ := e14
   clear e14
   have K14 : Kept b w w14 := Kept.trans (K13.al _).drew k14
   have B0_14 := (B0_13.alloc _).drew.kept k14 (zG y1_BF)
   have B2_14 := (B2_13.alloc _).drew.kept k14 (zG y3_BF)
   have B3_14 := (B3_13.alloc _).drew.kept k14 (zG y4_BF)
   have B6_14 := (B6_13.alloc _).drew.kept k14 (zG y6_BF)
   have B8_14 := (B8_13.alloc _).drew.kept k14 (zG y8_BF)
   have B9_14 := (B9_13.alloc _).drew.kept k14 (zG y9_BF)
   have B10_14 := (Arr_at _ w13.heap.size [.int .i64 0, .int .i64 0, .int .i64 0, .int .i64 0, .int .i64 0, .int .i64 0] _ (by simp)).drew.kept k14 (zG y15_BF)
   have z14 := B10_14.lies
   clear zH
   refine hK.out _ _ ⟨B2_14, B6_14⟩ (fun zH => ?_)
   clear hK K K13 BF_13 B0_13 B2_13 B3_13 B6_13 B8_13 B9_13 k14
   refine zK 4 (by kernel_rfl) rfl (fun K hK => ?_)
   go_simp
   refine (hjoined_any r14.1 _).mono ?_
   rintro e w15 ⟨rfl, k15⟩
   generalize e15 : hjoinedP r14.1 = r15
   have E15 : Hid _ := e15
   clear e15
   have K15 : Kept b w w15 := Kept.trans K14 (Kept.of_below k15)
   have BF_15 := f14.below k15
   have B0_15 := B0_14.below k15
   have B2_15 := B2_14.below k15
   have B3_15 := B3_14.below k15
   have B6_15 := B6_14.below k15
   have B8_15 := B8_14.below k15
   have B9_15 := B9_14.below k15
   have B10_15 := B10_14.below k15
   have z15 := B10_15.lies
   clear zH
   refine hK.out _ _ ⟨B2_15, B6_15⟩ (fun zH => ?_)
   clear hK K K14 f14 B0_14 B2_14 B3_14 B6_14 B8_14 B9_14 B10_14 k15
   refine zK 6 (by kernel_rfl) rfl (fun K hK => ?_)
   go_simp
   refine (hless_any b r14.2 (fun i_ => if i_ = 0 then r15.1 else if i_ = 1 then r15.2.1 else if i_ = 2 then r15.2.2.1 else if i_ = 3 then r15.2.2.2.1 else if i_ = 4 then r15.2.2.2.2.1 else r15.2.2.2.2.2) r5.1 _ BF_15).mono ?_
   rintro e w16 ⟨rfl, f16, k16⟩
   generalize e16 : hlessS r14.2 (fun i_ => if i_ = 0 then r15.1 else if i_ = 1 then r15.2.1 else if i_ = 2 then r15.2.2.1 else if i_ = 3 then r15.2.2.2.1 else if i_ = 4 then r15.2.2.2.2.1 else r15.2.2.2.2.2) r5.1 = r16 at f16 ⊢
   have E16 : Hid _ := e16
   clear e16
   have K16 := Kept.trans K15 k16
   have B0_16 := B0_15.kept k16 (zG y1_BF)
   have B2_16 := B2_15.kept k16 (zG y3_BF)
   have B3_16 := B3_15.kept k16 (zG y4_BF)
   have B6_16 := B6_15.kept k16 (zG y6_BF)
   have B8_16 := B8_15.kept k16 (zG y8_BF)
   have B9_16 := B9_15.kept k16 (zG y9_BF)
   have B10_16 := B10_15.kept k16 (zG y15_BF)
   have z16 := B10_16.lies
   clear zH
   refine hK.out _ _ ⟨B2_16, B6_16⟩ (fun zH => ?_)
   clear hK K K15 BF_15 B0_15 B2_15 B3_15 B6_15 B8_15 B9_15 B10_15 k16
   refine zK 8 (by kernel_rfl) rfl (fun K hK => ?_)
   have c15_B10_0 : w16.cell? ⟨w13.heap.size, 0, none⟩ = some (.int .i64 0) := B10_16.c 0 (zD rfl)
   have c15_B10_1 : w16.cell? ⟨w13.heap.size, 1, none⟩ = some (.int .i64 0) := B10_16.c 1 (zD rfl)
   have c15_B10_2 : w16.cell? ⟨w13.heap.size, 2, none⟩ = some (.int .i64 0) := B10_16.c 2 (zD rfl)
   have c15_B10_3 : w16.cell? ⟨w13.heap.size, 3, none⟩ = some (.int .i64 0) := B10_16.c 3 (zD rfl)
   have c15_B10_4 : w16.cell? ⟨w13.heap.size, 4, none⟩ = some (.int .i64 0) := B10_16.c 4 (zD rfl)
   have c15_B10_5 : w16.cell? ⟨w13.heap.size, 5, none⟩ = some (.int .i64 0) := B10_16.c 5 (zD rfl)
   have g15_B10_0 := B10_16.f 0 (zD rfl)
   have g15_B10_1 := B10_16.f 1 (zD rfl)
   have g15_B10_2 := B10_16.f 2 (zD rfl)
   have g15_B10_3 := B10_16.f 3 (zD rfl)
   have g15_B10_4 := B10_16.f 4 (zD rfl)
   have g15_B10_5 := B10_16.f 5 (zD rfl)
   have hrow : (row 6 r16.1).toArray = #[.int .i64 (r16.1 0), .int .i64 (r16.1 1), .int .i64 (r16.1 2), .int .i64 (r16.1 3), .int .i64 (r16.1 4), .int .i64 (r16.1 5)] := rfl
   go_simp
   clear zH
   refine hK.out _ _ ⟨((((((B2_16.new w13.heap.size 0 (zL y15_B2) (.int .i64 (r16.1 0))).new w13.heap.size 1 (zL y15_B2) (.int .i64 (r16.1 1))).new w13.heap.size 2 (zL y15_B2) (.int .i64 (r16.1 2))).new w13.heap.size 3 (zL y15_B2) (.int .i64 (r16.1 3))).new w13.heap.size 4 (zL y15_B2) (.int .i64 (r16.1 4))).new w13.heap.size 5 (zL y15_B2) (.int .i64 (r16.1 5))), ((((((B6_16.new w13.heap.size 0 (zL y15_B6) (.int .i64 (r16.1 0))).new w13.heap.size 1 (zL y15_B6) (.int .i64 (r16.1 1))).new w13.heap.size 2 (zL y15_B6) (.int .i64 (r16.1 2))).new w13.heap.size 3 (zL y15_B6) (.int .i64 (r16.1 3))).new w13.heap.size 4 (zL y15_B6) (.int .i64 (r16.1 4))).new w13.heap.size 5 (zL y15_B6) (.int .i64 (r16.1 5)))⟩ (fun zH => ?_)
   clear hK K c15_B10_0 c15_B10_1 c15_B10_2 c15_B10_3 c15_B10_4 c15_B10_5 g15_B10_0 g15_B10_1 g15_B10_2 g15_B10_3 g15_B10_4 g15_B10_5 hrow
   refine wpAnyH_done (by kernel_rfl) ?_ _
   clear zH
   refine put_cont hKK2 ?_
   exact cont2 _ _ _ _ _ _ _ _ _ _ _ _ _ _ _ _ _ _ _ _ _ _ _ _ _ _ _ _ _ _ _ _ _ _ _ w13.heap.size r14 r15 r16 E14 E15 E16 ((((((K16.new _ _ (by omega) _).new _ _ (by omega) _).new _ _ (by omega) _).new _ _ (by omega) _).new _ _ (by omega) _).new _ _ (by omega) _) ((((((f16.new w13.heap.size 0 (zL y15_BF) (.int .i64 (r16.1 0))).new w13.heap.size 1 (zL y15_BF) (.int .i64 (r16.1 1))).new w13.heap.size 2 (zL y15_BF) (.int .i64 (r16.1 2))).new w13.heap.size 3 (zL y15_BF) (.int .i64 (r16.1 3))).new w13.heap.size 4 (zL y15_BF) (.int .i64 (r16.1 4))).new w13.heap.size 5 (zL y15_BF) (.int .i64 (r16.1 5))) ((((((B0_16.new w13.heap.size 0 (zL y15_B0) (.int .i64 (r16.1 0))).new w13.heap.size 1 (zL y15_B0) (.int .i64 (r16.1 1))).new w13.heap.size 2 (zL y15_B0) (.int .i64 (r16.1 2))).new w13.heap.size 3 (zL y15_B0) (.int .i64 (r16.1 3))).new w13.heap.size 4 (zL y15_B0) (.int .i64 (r16.1 4))).new w13.heap.size 5 (zL y15_B0) (.int .i64 (r16.1 5))) ((((((B2_16.new w13.heap.size 0 (zL y15_B2) (.int .i64 (r16.1 0))).new w13.heap.size 1 (zL y15_B2) (.int .i64 (r16.1 1))).new w13.heap.size 2 (zL y15_B2) (.int .i64 (r16.1 2))).new w13.heap.size 3 (zL y15_B2) (.int .i64 (r16.1 3))).new w13.heap.size 4 (zL y15_B2) (.int .i64 (r16.1 4))).new w13.heap.size 5 (zL y15_B2) (.int .i64 (r16.1 5))) ((((((B3_16.new w13.heap.size 0 (zL y15_B3) (.int .i64 (r16.1 0))).new w13.heap.size 1 (zL y15_B3) (.int .i64 (r16.1 1))).new w13.heap.size 2 (zL y15_B3) (.int .i64 (r16.1 2))).new w13.heap.size 3 (zL y15_B3) (.int .i64 (r16.1 3))).new w13.heap.size 4 (zL y15_B3) (.int .i64 (r16.1 4))).new w13.heap.size 5 (zL y15_B3) (.int .i64 (r16.1 5))) ((((((B6_16.new w13.heap.size 0 (zL y15_B6) (.int .i64 (r16.1 0))).new w13.heap.size 1 (zL y15_B6) (.int .i64 (r16.1 1))).new w13.heap.size 2 (zL y15_B6) (.int .i64 (r16.1 2))).new w13.heap.size 3 (zL y15_B6) (.int .i64 (r16.1 3))).new w13.heap.size 4 (zL y15_B6) (.int .i64 (r16.1 4))).new w13.heap.size 5 (zL y15_B6) (.int .i64 (r16.1 5))) ((((((B8_16.new w13.heap.size 0 (zL y15_B8) (.int .i64 (r16.1 0))).new w13.heap.size 1 (zL y15_B8) (.int .i64 (r16.1 1))).new w13.heap.size 2 (zL y15_B8) (.int .i64 (r16.1 2))).new w13.heap.size 3 (zL y15_B8) (.int .i64 (r16.1 3))).new w13.heap.size 4 (zL y15_B8) (.int .i64 (r16.1 4))).new w13.heap.size 5 (zL y15_B8) (.int .i64 (r16.1 5))) ((((((B9_16.new w13.heap.size 0 (zL y15_B9) (.int .i64 (r16.1 0))).new w13.heap.size 1 (zL y15_B9) (.int .i64 (r16.1 1))).new w13.heap.size 2 (zL y15_B9) (.int .i64 (r16.1 2))).new w13.heap.size 3 (zL y15_B9) (.int .i64 (r16.1 3))).new w13.heap.size 4 (zL y15_B9) (.int .i64 (r16.1 4))).new w13.heap.size 5 (zL y15_B9) (.int .i64 (r16.1 5))) ((((((B10_16.put 0 (zD rfl) (.int .i64 (r16.1 0)) [.int .i64 (r16.1 0), .int .i64 0, .int .i64 0, .int .i64 0, .int .i64 0, .int .i64 0] rfl).put 1 (zD rfl) (.int .i64 (r16.1 1)) [.int .i64 (r16.1 0), .int .i64 (r16.1 1), .int .i64 0, .int .i64 0, .int .i64 0, .int .i64 0] rfl).put 2 (zD rfl) (.int .i64 (r16.1 2)) [.int .i64 (r16.1 0), .int .i64 (r16.1 1), .int .i64 (r16.1 2), .int .i64 0, .int .i64 0, .int .i64 0] rfl).put 3 (zD rfl) (.int .i64 (r16.1 3)) [.int .i64 (r16.1 0), .int .i64 (r16.1 1), .int .i64 (r16.1 2), .int .i64 (r16.1 3), .int .i64 0, .int .i64 0] rfl).put 4 (zD rfl) (.int .i64 (r16.1 4)) [.int .i64 (r16.1 0), .int .i64 (r16.1 1), .int .i64 (r16.1 2), .int .i64 (r16.1 3), .int .i64 (r16.1 4), .int .i64 0] rfl).put 5 (zD rfl) (.int .i64 (r16.1 5)) [.int .i64 (r16.1 0), .int .i64 (r16.1 1), .int .i64 (r16.1 2), .int .i64 (r16.1 3), .int .i64 (r16.1 4), .int .i64 (r16.1 5)] rfl) (by omega) y15_BF y15_B0 y15_B2 y15_B3 y15_B6 y15_B8 y15_B9
 refine wp_region_held_drew (S := fun w' => Arr w.heap.size (row 43 g) w' ∧ Arr w1.heap.size (row 78 r1.1) w' ∧ Arr (w.heap.size + 1) (row 6 sky) w') (by kernel_rfl) ⟨B0_2.drew, B4_2.drew, B1_2.drew⟩ (fun zH => ?_)
 refine zT 0 rfl (by kernel_rfl) (fun _ _ _ => id) rfl (fun _ _ => by go_simp <;> with_reducible rfl) zH ?_
 simp only [Act.put, zA, zB, zC]
 refine take_at (i := 1) rfl (by kernel_rfl) (by kernel_rfl) (by kernel_rfl) (fun _ _ _ h => h) (row_yield (by rfl) rfl rfl (fun _ hS => hS.1) (by kernel_rfl) (by rw [row_len]; kernel_rfl)) zH ?_
 simp only [Act.put, zA, zB, zC]
 refine take_at (i := 2) rfl (by kernel_rfl) (by kernel_rfl) (by kernel_rfl) (fun _ _ _ h => h) (row_yield (by rfl) rfl rfl (fun _ hS => hS.2.1) (by kernel_rfl) (by rw [row_len]; kernel_rfl)) zH ?_
 simp only [Act.put, zA, zB, zC]
 refine zT 3 rfl (by kernel_rfl) (fun _ _ _ => id) rfl (fun _ _ => by go_simp <;> with_reducible rfl) zH ?_
 simp only [Act.put, zA, zB, zC]
 refine take_at (i := 4) rfl (by kernel_rfl) (by kernel_rfl) (by kernel_rfl) (fun _ _ _ h => h) (row_yield (by rfl) rfl rfl (fun _ hS => hS.2.2) (by kernel_rfl) (by rw [row_len]; kernel_rfl)) zH ?_
 simp only [Act.put, zA, zB, zC]
 refine call_at2 (i0 := 5) (i1 := 7) (by kernel_rfl) rfl rfl (fun K hK => ?_) (fun K hK => ?_)
 ·go_simp
  refine (hunits_any b r1.2 sky _ BF_2.drew).mono ?_
  rintro e w3 ⟨rfl, f3, k3⟩
  generalize e3 : hunitsS r1.2 sky = r3 at f3 ⊢
  have E3 : Hid _ := e3
  clear e3
  have K3 : Kept b w w3 := Kept.trans K2.drew k3
  have B0_3 := B0_2.drew.kept k3 (zG y1_BF)
  have B1_3 := B1_2.drew.kept k3 (zG y2_BF)
  have B2_3 := B2_2.drew.kept k3 (zG y3_BF)
  have B3_3 := B3_2.drew.kept k3 (zG y4_BF)
  have B4_3 := B4_2.drew.kept k3 (zG y5_BF)
  have z3 := B4_3.lies
  clear zH
  refine hK.out _ _ ⟨B0_3, B4_3, B1_3⟩ (fun zH => ?_)
  clear hK K K2 BF_2 B0_2 B1_2 B2_2 B3_2 B4_2 k3
  refine call_at2 (i0 := 6) (i1 := 7) (by kernel_rfl) rfl rfl (fun K hK => ?_) (fun K hK => ?_)
  ·go_simp
   refine (hviewed_any b r3.2 g r1.1 (fun i_ => if i_ = 0 then r3.1.1 else if i_ = 1 then r3.1.2.1 else if i_ = 2 then r3.1.2.2.1 else if i_ = 3 then r3.1.2.2.2.1 else if i_ = 4 then r3.1.2.2.2.2.1 else r3.1.2.2.2.2.2) _ f3).mono ?_
   rintro e w4 ⟨rfl, f4, k4⟩
   generalize e4 : hviewedS r3.2 g r1.1 (fun i_ => if i_ = 0 then r3.1.1 else if i_ = 1 then r3.1.2.1 else if i_ = 2 then r3.1.2.2.1 else if i_ = 3 then r3.1.2.2.2.1 else if i_ = 4 then r3.1.2.2.2.2.1 else r3.1.2.2.2.2.2) = r4 at f4 ⊢
   have E4 : Hid _ := e4
   clear e4
   have K4 := Kept.trans K3 k4
   have B0_4 := B0_3.kept k4 (zG y1_BF)
   have B1_4 := B1_3.kept k4 (zG y2_BF)
   have B2_4 := B2_3.kept k4 (zG y3_BF)
   have B3_4 := B3_3.kept k4 (zG y4_BF)
   have B4_4 := B4_3.kept k4 (zG y5_BF)
   have z4 := B4_4.lies
   clear zH
   refine hK.out _ _ ⟨B0_4, B4_4, B1_4⟩ (fun zH => ?_)
   clear hK K K3 f3 B0_3 B1_3 B2_3 B3_3 B4_3 k4
   refine zK 7 (by kernel_rfl) rfl (fun K hK => ?_)
   have y16_BF := f4.lies
   have y16_B0 := B0_4.lies
   have y16_B1 := B1_4.lies
   have y16_B2 := B2_4.lies
   have y16_B3 := B3_4.lies
   have y16_B4 := B4_4.lies
   go_simp
   clear zH
   refine hK.out _ _ ⟨(B0_4.alloc _), (B4_4.alloc _), (B1_4.alloc _)⟩ (fun zH => ?_)
   clear hK K
   refine zK 8 (by kernel_rfl) rfl (fun K hK => ?_)
   refine row_store_at (l' := row 78 r4.1) (by rfl) rfl rfl rfl (Arr_at _ _ (row 78 (fun _ => 0)) _ (by simp)) (by simp only [row_len]) (by rw [row_len]; kernel_rfl) (row_one _ _) ?_
   intro w5 B5_5 o5
   have K5 : Kept b w w5 := Kept.off (K4.al _) o5 (by omega)
   have BF_5 := (f4.alloc _).off o5 (zL y16_BF)
   have B0_5 := (B0_4.alloc _).off o5 (zL y16_B0)
   have B1_5 := (B1_4.alloc _).off o5 (zL y16_B1)
   have B2_5 := (B2_4.alloc _).off o5 (zL y16_B2)
   have B3_5 := (B3_4.alloc _).off o5 (zL y16_B3)
   have B4_5 := (B4_4.alloc _).off o5 (zL y16_B4)
   have z5_B5 := B5_5.lies
   have z5_BF := BF_5.lies
   have z5_B0 := B0_5.lies
   have z5_B1 := B1_5.lies
   have z5_B2 := B2_5.lies
   have z5_B3 := B3_5.lies
   have z5_B4 := B4_5.lies
   simp only [Act.put]
   clear zH
   refine hK.out _ _ ⟨B0_5, B4_5, B1_5⟩ (fun zH => ?_)
   clear hK K K4 f4 B0_4 B1_4 B2_4 B3_4 B4_4 o5
   refine wpAnyH_done (by kernel_rfl) ?_ _
   clear zH
   refine put_cont hKK1 ?_
   exact cont1 _ _ _ _ _ _ _ _ _ _ _ w4.heap.size r3 r4 E3 E4 K5 BF_5 B0_5 B1_5 B2_5 B3_5 B4_5 B5_5 (by omega) y16_BF y16_B0 y16_B1 y16_B2 y16_B3 y16_B4
  ·have y17_BF := f3.lies
   have y17_B0 := B0_3.lies
   have y17_B1 := B1_3.lies
   have y17_B2 := B2_3.lies
   have y17_B3 := B3_3.lies
   have y17_B4 := B4_3.lies
   go_simp
   clear zH
   refine hK.out _ _ ⟨(B0_3.alloc _), (B4_3.alloc _), (B1_3.alloc _)⟩ (fun zH => ?_)
   clear hK K
   refine zK 6 (by kernel_rfl) rfl (fun K hK => ?_)
   go_simp
   refine (hviewed_any b r3.2 g r1.1 (fun i_ => if i_ = 0 then r3.1.1 else if i_ = 1 then r3.1.2.1 else if i_ = 2 then r3.1.2.2.1 else if i_ = 3 then r3.1.2.2.2.1 else if i_ = 4 then r3.1.2.2.2.2.1 else r3.1.2.2.2.2.2) _ (f3.alloc _)).mono ?_
   rintro e w4 ⟨rfl, f4, k4⟩
   generalize e4 : hviewedS r3.2 g r1.1 (fun i_ => if i_ = 0 then r3.1.1 else if i_ = 1 then r3.1.2.1 else if i_ = 2 then r3.1.2.2.1 else if i_ = 3 then r3.1.2.2.2.1 else if i_ = 4 then r3.1.2.2.2.2.1 else r3.1.2.2.2.2.2) = r4 at f4 ⊢
   have E4 : Hid _ := e4
   clear e4
   have K4 : Kept b w w4 := Kept.trans (K3.al _) k4
   have B0_4 := (B0_3.alloc _).kept k4 (zG y1_BF)
   have B1_4 := (B1_3.alloc _).kept k4 (zG y2_BF)
   have B2_4 := (B2_3.alloc _).kept k4 (zG y3_BF)
   have B3_4 := (B3_3.alloc _).kept k4 (zG y4_BF)
   have B4_4 := (B4_3.alloc _).kept k4 (zG y5_BF)
   have B5_4 := (Arr_at _ w3.heap.size (row 78 (fun _ => 0)) _ (by simp)).kept k4 (zG y17_BF)
   have z4 := B5_4.lies
   clear zH
   refine hK.out _ _ ⟨B0_4, B4_4, B1_4⟩ (fun zH => ?_)
   clear hK K K3 f3 B0_3 B1_3 B2_3 B3_3 B4_3 k4
   refine zK 8 (by kernel_rfl) rfl (fun K hK => ?_)
   refine row_store_at (l' := row 78 r4.1) (by rfl) rfl rfl rfl B5_4 (by simp only [row_len]) (by rw [row_len]; kernel_rfl) (row_one _ _) ?_
   intro w5 B5_5 o5
   have K5 : Kept b w w5 := Kept.off K4 o5 (by omega)
   have BF_5 := f4.off o5 (zL y17_BF)
   have B0_5 := B0_4.off o5 (zL y17_B0)
   have B1_5 := B1_4.off o5 (zL y17_B1)
   have B2_5 := B2_4.off o5 (zL y17_B2)
   have B3_5 := B3_4.off o5 (zL y17_B3)
   have B4_5 := B4_4.off o5 (zL y17_B4)
   have z5_B5 := B5_5.lies
   have z5_BF := BF_5.lies
   have z5_B0 := B0_5.lies
   have z5_B1 := B1_5.lies
   have z5_B2 := B2_5.lies
   have z5_B3 := B3_5.lies
   have z5_B4 := B4_5.lies
   simp only [Act.put]
   clear zH
   refine hK.out _ _ ⟨B0_5, B4_5, B1_5⟩ (fun zH => ?_)
   clear hK K K4 B5_4 f4 B0_4 B1_4 B2_4 B3_4 B4_4 o5
   refine wpAnyH_done (by kernel_rfl) ?_ _
   clear zH
   refine put_cont hKK1 ?_
   exact cont1 _ _ _ _ _ _ _ _ _ _ _ w3.heap.size r3 r4 E3 E4 K5 BF_5 B0_5 B1_5 B2_5 B3_5 B4_5 B5_5 (by omega) y17_BF y17_B0 y17_B1 y17_B2 y17_B3 y17_B4
 ·have y18_BF := BF_2.lies
  have y18_B0 := B0_2.lies
  have y18_B1 := B1_2.lies
  have y18_B2 := B2_2.lies
  have y18_B3 := B3_2.lies
  have y18_B4 := B4_2.lies
  go_simp
  clear zH
  refine hK.out _ _ ⟨(B0_2.alloc _).drew, (B4_2.alloc _).drew, (B1_2.alloc _).drew⟩ (fun zH => ?_)
  clear hK K
  refine zK 5 (by kernel_rfl) rfl (fun K hK => ?_)
  go_simp
  refine (hunits_any b r1.2 sky _ (BF_2.alloc _).drew).mono ?_
  rintro e w3 ⟨rfl, f3, k3⟩
  generalize e3 : hunitsS r1.2 sky = r3 at f3 ⊢
  have E3 : Hid _ := e3
  clear e3
  have K3 : Kept b w w3 := Kept.trans (K2.al _).drew k3
  have B0_3 := (B0_2.alloc _).drew.kept k3 (zG y1_BF)
  have B1_3 := (B1_2.alloc _).drew.kept k3 (zG y2_BF)
  have B2_3 := (B2_2.alloc _).drew.kept k3 (zG y3_BF)
  have B3_3 := (B3_2.alloc _).drew.kept k3 (zG y4_BF)
  have B4_3 := (B4_2.alloc _).drew.kept k3 (zG y5_BF)
  have B5_3 := (Arr_at _ w2.heap.size (row 78 (fun _ => 0)) _ (by simp)).drew.kept k3 (zG y18_BF)
  have z3 := B5_3.lies
  clear zH
  refine hK.out _ _ ⟨B0_3, B4_3, B1_3⟩ (fun zH => ?_)
  clear hK K K2 BF_2 B0_2 B1_2 B2_2 B3_2 B4_2 k3
  refine zK 6 (by kernel_rfl) rfl (fun K hK => ?_)
  go_simp
  refine (hviewed_any b r3.2 g r1.1 (fun i_ => if i_ = 0 then r3.1.1 else if i_ = 1 then r3.1.2.1 else if i_ = 2 then r3.1.2.2.1 else if i_ = 3 then r3.1.2.2.2.1 else if i_ = 4 then r3.1.2.2.2.2.1 else r3.1.2.2.2.2.2) _ f3).mono ?_
  rintro e w4 ⟨rfl, f4, k4⟩
  generalize e4 : hviewedS r3.2 g r1.1 (fun i_ => if i_ = 0 then r3.1.1 else if i_ = 1 then r3.1.2.1 else if i_ = 2 then r3.1.2.2.1 else if i_ = 3 then r3.1.2.2.2.1 else if i_ = 4 then r3.1.2.2.2.2.1 else r3.1.2.2.2.2.2) = r4 at f4 ⊢
  have E4 : Hid _ := e4
  clear e4
  have K4 := Kept.trans K3 k4
  have B0_4 := B0_3.kept k4 (zG y1_BF)
  have B1_4 := B1_3.kept k4 (zG y2_BF)
  have B2_4 := B2_3.kept k4 (zG y3_BF)
  have B3_4 := B3_3.kept k4 (zG y4_BF)
  have B4_4 := B4_3.kept k4 (zG y5_BF)
  have B5_4 := B5_3.kept k4 (zG y18_BF)
  have z4 := B5_4.lies
  clear zH
  refine hK.out _ _ ⟨B0_4, B4_4, B1_4⟩ (fun zH => ?_)
  clear hK K K3 f3 B0_3 B1_3 B2_3 B3_3 B4_3 B5_3 k4
  refine zK 8 (by kernel_rfl) rfl (fun K hK => ?_)
  refine row_store_at (l' := row 78 r4.1) (by rfl) rfl rfl rfl B5_4 (by simp only [row_len]) (by rw [row_len]; kernel_rfl) (row_one _ _) ?_
  intro w5 B5_5 o5
  have K5 : Kept b w w5 := Kept.off K4 o5 (by omega)
  have BF_5 := f4.off o5 (zL y18_BF)
  have B0_5 := B0_4.off o5 (zL y18_B0)
  have B1_5 := B1_4.off o5 (zL y18_B1)
  have B2_5 := B2_4.off o5 (zL y18_B2)
  have B3_5 := B3_4.off o5 (zL y18_B3)
  have B4_5 := B4_4.off o5 (zL y18_B4)
  have z5_B5 := B5_5.lies
  have z5_BF := BF_5.lies
  have z5_B0 := B0_5.lies
  have z5_B1 := B1_5.lies
  have z5_B2 := B2_5.lies
  have z5_B3 := B3_5.lies
  have z5_B4 := B4_5.lies
  simp only [Act.put]
  clear zH
  refine hK.out _ _ ⟨B0_5, B4_5, B1_5⟩ (fun zH => ?_)
  clear hK K K4 B5_4 f4 B0_4 B1_4 B2_4 B3_4 B4_4 o5
  refine wpAnyH_done (by kernel_rfl) ?_ _
  clear zH
  refine put_cont hKK1 ?_
  exact cont1 _ _ _ _ _ _ _ _ _ _ _ w2.heap.size r3 r4 E3 E4 K5 BF_5 B0_5 B1_5 B2_5 B3_5 B4_5 B5_5 (by omega) y18_BF y18_B0 y18_B1 y18_B2 y18_B3 y18_B4
end Go.Proofs.Ytooehgijllihdaa
