/- A part. -/
import Derived.Test.YtooehgijllihdaaXAct
import Derived.Test.YtooehgijllihdaaJH
import Derived.Test.YtooehgijllihdaaVCode
import Derived.Handy
import Derived.Deep.RegionHeld3
namespace Go.Proofs.Ytooehgijllihdaa
open Go.RowKit
set_option maxRecDepth 100000
set_option maxHeartbeats 20000000
theorem hmoved_any (b : Nat) (bad : Bool) (g : Nat → Int) (x : Nat → Int) (v : V3) (ms : Int) (w : World) (hw : Fl b bad w) :
  Calls Try.prog 47 #[.pointer (some ⟨b, 0, none⟩), .agg (row 43 g).toArray, .agg (row 78 x).toArray, .agg #[.int .i64 v.1, .int .i64 v.2.1, .int .i64 v.2.2], .int .i64 ms] w fun e w' => e = .returned (.agg (row 52 ((hmovedS bad g x v ms).1)).toArray) ∧ Fl b (hmovedS bad g x v ms).2 w' ∧ Kept b w w' := by
 have hl := hw.lies
 go_enter Try.func47, Try.ntmps47
 have y1_BF := hw.lies
 have y2_BF : b < w.heap.size + 1 := (Nat.lt_succ_of_lt hw.lies)
 have y2_B0 : w.heap.size < w.heap.size + 1 := by omega
 have y3_BF : b < w.heap.size + 1 + 1 := (Nat.lt_succ_of_lt (Nat.lt_succ_of_lt hw.lies))
 have y3_B0 : w.heap.size < w.heap.size + 1 + 1 := by omega
 have y3_B1 : w.heap.size + 1 < w.heap.size + 1 + 1 := by omega
 have y4_BF : b < w.heap.size + 1 + 1 + 1 := (Nat.lt_succ_of_lt (Nat.lt_succ_of_lt (Nat.lt_succ_of_lt hw.lies)))
 have y4_B0 : w.heap.size < w.heap.size + 1 + 1 + 1 := by omega
 have y4_B1 : w.heap.size + 1 < w.heap.size + 1 + 1 + 1 := by omega
 have y4_B2 : w.heap.size + 1 + 1 < w.heap.size + 1 + 1 + 1 := by omega
 go_wp2_with (first | (refine row_load (ty := 38) rfl rfl rfl ((((Arr_at _ _ (row 43 g) _ (by simp)).alloc _).alloc _).alloc _) (by kernel_rfl) (by rw [row_len]; kernel_rfl) ?_) | (refine row_load (ty := 61) rfl rfl rfl (((Arr_at _ _ (row 78 x) _ (by simp)).alloc _).alloc _) (by kernel_rfl) (by rw [row_len]; kernel_rfl) ?_))
 refine (hattitudes_any b bad g x _ ((((hw.alloc _).alloc _).alloc _).alloc _)).mono ?_
 rintro e w1 ⟨rfl, f1, k1⟩
 generalize e1 : hattitudesS bad g x = r1 at f1 ⊢
 have E1 : Hid _ := e1
 clear e1
 try dsimp only
 have K1 : Kept b w w1 := Kept.trans (((((Kept.refl b w).al _).al _).al _).al _) k1
 have B0_1 := ((((Arr_at _ w.heap.size (row 43 g) _ (by simp)).alloc _).alloc _).alloc _).kept k1 (zG y1_BF)
 have B1_1 := (((Arr_at _ (w.heap.size + 1) (row 78 x) _ (by simp)).alloc _).alloc _).kept k1 (zG y2_BF)
 have B2_1 := ((Arr_at _ (w.heap.size + 1 + 1) [.int .i64 v.1, .int .i64 v.2.1, .int .i64 v.2.2] _ (by simp)).alloc _).kept k1 (zG y3_BF)
 have B3_1 := (Arr_at _ (w.heap.size + 1 + 1 + 1) (row 52 (fun _ => 0)) _ (by simp)).kept k1 (zG y4_BF)
 have z1 := B3_1.lies
 clear k1
 have y5_BF := f1.lies
 have y5_B0 := B0_1.lies
 have y5_B1 := B1_1.lies
 have y5_B2 := B2_1.lies
 have y5_B3 := B3_1.lies
 go_wp2_with (refine store_stop rfl (by kernel_rfl) ?_)
 refine Stop.mk (store_row (l' := row 52 r1.1) rfl rfl rfl rfl (Arr_at _ _ (row 52 (fun _ => 0)) _ (by simp)) (by simp only [row_len]) (by rw [row_len]; kernel_rfl) (row_one _ _) ?_)
 intro w2 B4_2 o2
 have K2 : Kept b w w2 := Kept.off (K1.al _) o2 (by omega)
 have BF_2 := (f1.alloc _).off o2 (zL y5_BF)
 have B0_2 := (B0_1.alloc _).off o2 (zL y5_B0)
 have B1_2 := (B1_1.alloc _).off o2 (zL y5_B1)
 have B2_2 := (B2_1.alloc _).off o2 (zL y5_B2)
 have B3_2 := (B3_1.alloc _).off o2 (zL y5_B3)
 have z2_B4 := B4_2.lies
 have z2_BF := BF_2.lies
 have z2_B0 := B0_2.lies
 have z2_B1 := B1_2.lies
 have z2_B2 := B2_2.lies
 have z2_B3 := B3_2.lies
 clear K1 f1 B0_1 B1_1 B2_1 B3_1 o2
 have c3_B0_0 : w2.cell? ⟨w.heap.size, 4, none⟩ = some (.int .i64 (g 4)) := row_c B0_2 4 (by omega)
 have c3_B0_1 : w2.cell? ⟨w.heap.size, 5, none⟩ = some (.int .i64 (g 5)) := row_c B0_2 5 (by omega)
 have c3_B0_2 : w2.cell? ⟨w.heap.size, 6, none⟩ = some (.int .i64 (g 6)) := row_c B0_2 6 (by omega)
 have c3_B2_0 : w2.cell? ⟨w.heap.size + 1 + 1, 0, none⟩ = some (.int .i64 v.1) := B2_2.c 0 (zD rfl)
 have c3_B2_1 : w2.cell? ⟨w.heap.size + 1 + 1, 1, none⟩ = some (.int .i64 v.2.1) := B2_2.c 1 (zD rfl)
 have c3_B2_2 : w2.cell? ⟨w.heap.size + 1 + 1, 2, none⟩ = some (.int .i64 v.2.2) := B2_2.c 2 (zD rfl)
 go_wp2_with fail
 refine (vSub_any b r1.2 v ((g 4), (g 5), (g 6)) _ BF_2).mono ?_
 rintro e w3 ⟨rfl, f3, k3⟩
 generalize e3 : vSubS r1.2 v ((g 4), (g 5), (g 6)) = r3 at f3 ⊢
 have E3 : Hid _ := e3
 clear e3
 try dsimp only
 have K3 := Kept.trans K2 k3
 have B0_3 := B0_2.kept k3 (zG y1_BF)
 have B1_3 := B1_2.kept k3 (zG y2_BF)
 have B2_3 := B2_2.kept k3 (zG y3_BF)
 have B3_3 := B3_2.kept k3 (zG y4_BF)
 have B4_3 := B4_2.kept k3 (zG y5_BF)
 have z3 := B4_3.lies
 clear c3_B0_0 c3_B0_1 c3_B0_2 c3_B2_0 c3_B2_1 c3_B2_2 K2 BF_2 B0_2 B1_2 B2_2 B3_2 B4_2 k3
 have y6_BF := f3.lies
 have y6_B0 := B0_3.lies
 have y6_B1 := B1_3.lies
 have y6_B2 := B2_3.lies
 have y6_B3 := B3_3.lies
 have y6_B4 := B4_3.lies
 go_wp2_with (refine row_load (ty := 61) rfl rfl rfl (B1_3.alloc _) (by kernel_rfl) (by rw [row_len]; kernel_rfl) ?_)
 obtain ⟨J0, hJ0⟩ : ∃ J : Nat → Act → World → Prop, Hid (J = fun k a Wl0 => ∀ G_ : Prop, (∀ (s0 : (Nat → Int) × Bool) (A0 C0 D0 F0 : Nat → Value), Hid (hmovedS_l0 x ms r3 (r1.1, r3.2) k = s0) → a = { tmps := #[.pointer (some ⟨b, 0, none⟩), A0 1, A0 2, A0 3, .int .i64 ms, A0 5, A0 6, A0 7, A0 8, A0 9, .pointer (some ⟨w.heap.size + 1 + 1 + 1, 0, none⟩), .pointer (some ⟨w1.heap.size, 0, none⟩), .pointer (some ⟨w3.heap.size, 0, none⟩), A0 13, A0 14, A0 15, A0 16, A0 17, A0 18, A0 19, C0 0, C0 1, C0 2, C0 3, C0 4, C0 5, C0 6, C0 7, .agg (row 78 x).toArray, .int .i64 (k : Int), C0 10, C0 11, C0 12, C0 13, C0 14, C0 15, C0 16, C0 17, C0 18, C0 19, D0 0, D0 1, D0 2, D0 3, D0 4, D0 5, D0 6, D0 7, D0 8, D0 9, D0 10, D0 11, D0 12, D0 13, D0 14, D0 15, D0 16, D0 17, D0 18, D0 19, F0 0, F0 1, F0 2, F0 3, F0 4, F0 5], defers := [] } → Kept b w Wl0 → Fl b s0.2 Wl0 → Arr (w.heap.size + 1 + 1 + 1) (row 52 (fun _ => 0)) Wl0 → Arr w1.heap.size (row 52 s0.1) Wl0 → Arr w3.heap.size [.int .i64 r3.1.1, .int .i64 r3.1.2.1, .int .i64 r3.1.2.2] Wl0 → G_) → G_) := ⟨_, rfl⟩
 refine rounds_up J0 13 ?_ ?_ ?_
 ·refine give_act (fun a_ ea_ => ?_)
  rw [hJ0.out]
  intro G_ hG_
  exact hG_ (r1.1, r3.2) (zS a_ 0) (zS a_ 20) (zS a_ 40) (zS a_ 60) rfl (by subst ea_; rfl) (K3.al _) (f3.alloc _) (B3_3.alloc _) (B4_3.alloc _) (Arr_at _ _ [.int .i64 r3.1.1, .int .i64 r3.1.2.1, .int .i64 r3.1.2.2] _ (by simp))
 ·intro k a Wl0 hk hI R hR
  rw [hJ0.out] at hI
  refine hI _ ?_
  clear hI
  intro s0 A0 C0 D0 F0 El0 ea Kl0 BF_l0 B3_l0 B4_l0 B5_l0
  subst ea
  have zl0_BF := BF_l0.lies
  have zl0_B3 := B3_l0.lies
  have zl0_B4 := B4_l0.lies
  have zl0_B5 := B5_l0.lies
  have y15_BF := BF_l0.lies
  have y15_B3 := B3_l0.lies
  have y15_B4 := B4_l0.lies
  have y15_B5 := B5_l0.lies
  have i5_0 : (k : Int) < 13 := by omega
  go_wp2_with (refine store_stop rfl (by kernel_rfl) ?_)
  clear i5_0
  refine Stop.mk (store_row (l' := row 6 (fun x_ => x (k * 6 + x_))) rfl rfl rfl rfl (Arr_at _ _ [.int .i64 0, .int .i64 0, .int .i64 0, .int .i64 0, .int .i64 0, .int .i64 0] _ (by simp)) (by rw [row_len]; rfl) (by rw [row_len]; kernel_rfl) (row_one _ _) ?_)
  intro w4 B6_4 o4
  have K4 : Kept b w w4 := Kept.off (Kl0.al _) o4 (by omega)
  have BF_4 := (BF_l0.alloc _).off o4 (zL y15_BF)
  have B3_4 := (B3_l0.alloc _).off o4 (zL y15_B3)
  have B4_4 := (B4_l0.alloc _).off o4 (zL y15_B4)
  have B5_4 := (B5_l0.alloc _).off o4 (zL y15_B5)
  have z4_B6 := B6_4.lies
  have z4_BF := BF_4.lies
  have z4_B3 := B3_4.lies
  have z4_B4 := B4_4.lies
  have z4_B5 := B5_4.lies
  clear BF_l0 B3_l0 B4_l0 B5_l0 o4
  go_wp2_with (refine row_load (ty := 34) rfl rfl rfl B6_4 (by kernel_rfl) (by rw [row_len]; kernel_rfl) ?_)
  refine (hparted_any (fun x_ => x (k * 6 + x_)) _).mono ?_
  rintro e w5 ⟨rfl, k5⟩
  generalize e5 : hpartedP (fun x_ => x (k * 6 + x_)) = r5
  have E5 : Hid _ := e5
  clear e5
  try dsimp only
  have K5 : Kept b w w5 := Kept.trans K4 (Kept.of_below k5)
  have BF_5 := BF_4.below k5
  have B3_5 := B3_4.below k5
  have B4_5 := B4_4.below k5
  have B5_5 := B5_4.below k5
  have B6_5 := B6_4.below k5
  have z5 := B6_5.lies
  clear K4 BF_4 B3_4 B4_4 B5_4 B6_4 k5
  have y16_BF := BF_5.lies
  have y16_B3 := B3_5.lies
  have y16_B4 := B4_5.lies
  have y16_B5 := B5_5.lies
  have y16_B6 := B6_5.lies
  have y17_BF : b < w5.heap.size + 1 := (Nat.lt_succ_of_lt BF_5.lies)
  have y17_B3 : w.heap.size + 1 + 1 + 1 < w5.heap.size + 1 := (Nat.lt_succ_of_lt B3_5.lies)
  have y17_B4 : w1.heap.size < w5.heap.size + 1 := (Nat.lt_succ_of_lt B4_5.lies)
  have y17_B5 : w3.heap.size < w5.heap.size + 1 := (Nat.lt_succ_of_lt B5_5.lies)
  have y17_B6 : Wl0.heap.size < w5.heap.size + 1 := (Nat.lt_succ_of_lt B6_5.lies)
  have y17_B7 : w5.heap.size < w5.heap.size + 1 := by omega
  have c7_B5_0 : w5.cell? ⟨w3.heap.size, 0, none⟩ = some (.int .i64 r3.1.1) := B5_5.c 0 (zD rfl)
  have c7_B5_1 : w5.cell? ⟨w3.heap.size, 1, none⟩ = some (.int .i64 r3.1.2.1) := B5_5.c 1 (zD rfl)
  have c7_B5_2 : w5.cell? ⟨w3.heap.size, 2, none⟩ = some (.int .i64 r3.1.2.2) := B5_5.c 2 (zD rfl)
  have l7_B5 := B5_5.lies
  go_wp2_with fail
  refine (vSub_any b s0.2 r3.1 r5.2 _ ((BF_5.alloc _).alloc _)).mono ?_
  rintro e w6 ⟨rfl, f6, k6⟩
  generalize e6 : vSubS s0.2 r3.1 r5.2 = r6 at f6 ⊢
  have E6 : Hid _ := e6
  clear e6
  try dsimp only
  have K6 : Kept b w w6 := Kept.trans ((K5.al _).al _) k6
  have B3_6 := ((B3_5.alloc _).alloc _).kept k6 (zG y4_BF)
  have B4_6 := ((B4_5.alloc _).alloc _).kept k6 (zG y5_BF)
  have B5_6 := ((B5_5.alloc _).alloc _).kept k6 (zG y6_BF)
  have B8_6 := (Arr_at _ (w5.heap.size + 1) [.int .i64 r5.2.1, .int .i64 r5.2.2.1, .int .i64 r5.2.2.2] _ (by simp)).kept k6 (zG y17_BF)
  have z6 := B8_6.lies
  clear c7_B5_0 c7_B5_1 c7_B5_2 l7_B5 K5 BF_5 B3_5 B4_5 B5_5 k6
  have y18_BF := f6.lies
  have y18_B3 := B3_6.lies
  have y18_B4 := B4_6.lies
  have y18_B5 := B5_6.lies
  have y18_B8 := B8_6.lies
  go_wp2_with fail
  refine wp_loop_rounds 4 ?_
  rw [rounds_succ]
  go_wp2_with fail
  refine (Part_any b r6.2 r6.1.1 ms 1000 _ (f6.alloc _)).mono ?_
  rintro e w7 ⟨rfl, f7, k7⟩
  generalize e7 : partS r6.2 r6.1.1 ms 1000 = r7 at f7 ⊢
  have E7 : Hid _ := e7
  clear e7
  try dsimp only
  have K7 : Kept b w w7 := Kept.trans (K6.al _) k7
  have B3_7 := (B3_6.alloc _).kept k7 (zG y4_BF)
  have B4_7 := (B4_6.alloc _).kept k7 (zG y5_BF)
  have B5_7 := (B5_6.alloc _).kept k7 (zG y6_BF)
  have B9_7 := (Arr_at _ w6.heap.size [.int .i64 r6.1.1, .int .i64 r6.1.2.1, .int .i64 r6.1.2.2] _ (by simp)).kept k7 (zG y18_BF)
  have z7 := B9_7.lies
  clear K6 f6 B3_6 B4_6 B5_6 k7
  have c10_B9_0 : w7.cell? ⟨w6.heap.size, 0, none⟩ = some (.int .i64 r6.1.1) := B9_7.c 0 (zD rfl)
  have g10_B9_0 := B9_7.f 0 (zD rfl)
  go_wp2_with fail
  clear c10_B9_0 g10_B9_0
  refine rounds_letter (S := fun w' => Kept b w w' ∧ Fl b r7.2 w' ∧ Arr (w.heap.size + 1 + 1 + 1) (row 52 (fun _ => 0)) w' ∧ Arr w1.heap.size (row 52 s0.1) w' ∧ Arr w3.heap.size [.int .i64 r3.1.1, .int .i64 r3.1.2.1, .int .i64 r3.1.2.2] w' ∧ Arr w6.heap.size [.int .i64 r7.1, .int .i64 r6.1.2.1, .int .i64 r6.1.2.2] w') ⟨(K7.new _ _ (by omega) _), (f7.new w6.heap.size 0 (zL y18_BF) (.int .i64 r7.1)), (B3_7.new w6.heap.size 0 (zL y18_B3) (.int .i64 r7.1)), (B4_7.new w6.heap.size 0 (zL y18_B4) (.int .i64 r7.1)), (B5_7.new w6.heap.size 0 (zL y18_B5) (.int .i64 r7.1)), (B9_7.put 0 (zD rfl) (.int .i64 r7.1) [.int .i64 r7.1, .int .i64 r6.1.2.1, .int .i64 r6.1.2.2] rfl)⟩ ?_
  rintro w8 ⟨K8, BF_8, B3_8, B4_8, B5_8, B9_8⟩
  have z8 := B9_8.lies
  clear K7 f7 B3_7 B4_7 B5_7 B9_7
  rw [rounds_succ]
  have c11_B9_1 : w8.cell? ⟨w6.heap.size, 1, none⟩ = some (.int .i64 r6.1.2.1) := B9_8.c 1 (zD rfl)
  go_wp2_with fail
  refine (Part_any b r7.2 r6.1.2.1 ms 1000 _ BF_8).mono ?_
  rintro e w9 ⟨rfl, f9, k9⟩
  generalize e9 : partS r7.2 r6.1.2.1 ms 1000 = r9 at f9 ⊢
  have E9 : Hid _ := e9
  clear e9
  try dsimp only
  have K9 := Kept.trans K8 k9
  have B3_9 := B3_8.kept k9 (zG y4_BF)
  have B4_9 := B4_8.kept k9 (zG y5_BF)
  have B5_9 := B5_8.kept k9 (zG y6_BF)
  have B9_9 := B9_8.kept k9 (zG y18_BF)
  have z9 := B9_9.lies
  clear c11_B9_1 K8 BF_8 B3_8 B4_8 B5_8 B9_8 k9
  have c12_B9_1 : w9.cell? ⟨w6.heap.size, 1, none⟩ = some (.int .i64 r6.1.2.1) := B9_9.c 1 (zD rfl)
  have g12_B9_1 := B9_9.f 1 (zD rfl)
  go_wp2_with fail
  clear c12_B9_1 g12_B9_1
  refine rounds_letter (S := fun w' => Kept b w w' ∧ Fl b r9.2 w' ∧ Arr (w.heap.size + 1 + 1 + 1) (row 52 (fun _ => 0)) w' ∧ Arr w1.heap.size (row 52 s0.1) w' ∧ Arr w3.heap.size [.int .i64 r3.1.1, .int .i64 r3.1.2.1, .int .i64 r3.1.2.2] w' ∧ Arr w6.heap.size [.int .i64 r7.1, .int .i64 r9.1, .int .i64 r6.1.2.2] w') ⟨(K9.new _ _ (by omega) _), (f9.new w6.heap.size 1 (zL y18_BF) (.int .i64 r9.1)), (B3_9.new w6.heap.size 1 (zL y18_B3) (.int .i64 r9.1)), (B4_9.new w6.heap.size 1 (zL y18_B4) (.int .i64 r9.1)), (B5_9.new w6.heap.size 1 (zL y18_B5) (.int .i64 r9.1)), (B9_9.put 1 (zD rfl) (.int .i64 r9.1) [.int .i64 r7.1, .int .i64 r9.1, .int .i64 r6.1.2.2] rfl)⟩ ?_
  rintro w10 ⟨K10, BF_10, B3_10, B4_10, B5_10, B9_10⟩
  have z10 := B9_10.lies
  clear K9 f9 B3_9 B4_9 B5_9 B9_9
  rw [rounds_succ]
  have c13_B9_2 : w10.cell? ⟨w6.heap.size, 2, none⟩ = some (.int .i64 r6.1.2.2) := B9_10.c 2 (zD rfl)
  go_wp2_with fail
  refine (Part_any b r9.2 r6.1.2.2 ms 1000 _ BF_10).mono ?_
  rintro e w11 ⟨rfl, f11, k11⟩
  generalize e11 : partS r9.2 r6.1.2.2 ms 1000 = r11 at f11 ⊢
  have E11 : Hid _ := e11
  clear e11
  try dsimp only
  have K11 := Kept.trans K10 k11
  have B3_11 := B3_10.kept k11 (zG y4_BF)
  have B4_11 := B4_10.kept k11 (zG y5_BF)
  have B5_11 := B5_10.kept k11 (zG y6_BF)
  have B9_11 := B9_10.kept k11 (zG y18_BF)
  have z11 := B9_11.lies
  clear c13_B9_2 K10 BF_10 B3_10 B4_10 B5_10 B9_10 k11
  have c14_B9_2 : w11.cell? ⟨w6.heap.size, 2, none⟩ = some (.int .i64 r6.1.2.2) := B9_11.c 2 (zD rfl)
  have g14_B9_2 := B9_11.f 2 (zD rfl)
  go_wp2_with fail
  clear c14_B9_2 g14_B9_2
  refine rounds_letter (S := fun w' => Kept b w w' ∧ Fl b r11.2 w' ∧ Arr (w.heap.size + 1 + 1 + 1) (row 52 (fun _ => 0)) w' ∧ Arr w1.heap.size (row 52 s0.1) w' ∧ Arr w3.heap.size [.int .i64 r3.1.1, .int .i64 r3.1.2.1, .int .i64 r3.1.2.2] w' ∧ Arr w6.heap.size [.int .i64 r7.1, .int .i64 r9.1, .int .i64 r11.1] w') ⟨(K11.new _ _ (by omega) _), (f11.new w6.heap.size 2 (zL y18_BF) (.int .i64 r11.1)), (B3_11.new w6.heap.size 2 (zL y18_B3) (.int .i64 r11.1)), (B4_11.new w6.heap.size 2 (zL y18_B4) (.int .i64 r11.1)), (B5_11.new w6.heap.size 2 (zL y18_B5) (.int .i64 r11.1)), (B9_11.put 2 (zD rfl) (.int .i64 r11.1) [.int .i64 r7.1, .int .i64 r9.1, .int .i64 r11.1] rfl)⟩ ?_
  rintro w12 ⟨K12, BF_12, B3_12, B4_12, B5_12, B9_12⟩
  have z12 := B9_12.lies
  clear K11 f11 B3_11 B4_11 B5_11 B9_11
  rw [rounds_succ]
  go_wp2_with fail
  refine get_cont (fun KK3 hKK3 => ?_)
  have cont3 : ∀ (W3 : World) (l5 l9 l15 l19 l20 l21 l22 l23 l24 l25 l26 l27 l30 l31 l32 l33 l34 l35 l36 l37 l38 l39 l40 l41 l43 l44 l45 l46 l47 l48 l49 l50 l51 l52 l53 l54 l55 l56 l57 l58 l59 l60 l61 l62 l63 l64 l65 : Value) (r13 : _) (r14 : _) , Hid (qFromRodS r11.2 (r7.1, r9.1, r11.1) = r13) → Hid (qMulS r13.2 r13.1 ((s0.1 (k * 4)), (s0.1 (k * 4 + 1)), (s0.1 (k * 4 + 2)), (s0.1 (k * 4 + 3))) = r14) → Kept b w W3 → Fl b r14.2 W3 → Arr (w.heap.size + 1 + 1 + 1) (row 52 (fun _ => 0)) W3 → Arr w1.heap.size (row 52 (updF (updF (updF (updF s0.1 (k * 4) r14.1.1) (k * 4 + 1) r14.1.2.1) (k * 4 + 2) r14.1.2.2.1) (k * 4 + 3) r14.1.2.2.2)) W3 → Arr w3.heap.size [.int .i64 r3.1.1, .int .i64 r3.1.2.1, .int .i64 r3.1.2.2] W3 → Arr w6.heap.size [.int .i64 r7.1, .int .i64 r9.1, .int .i64 r11.1] W3 → KK3 { tmps := #[.pointer (some ⟨b, 0, none⟩), A0 1, A0 2, A0 3, .int .i64 ms, l5, A0 6, A0 7, A0 8, l9, .pointer (some ⟨w.heap.size + 1 + 1 + 1, 0, none⟩), .pointer (some ⟨w1.heap.size, 0, none⟩), .pointer (some ⟨w3.heap.size, 0, none⟩), .int .i64 (k : Int), .pointer (some ⟨Wl0.heap.size, 0, none⟩), l15, .pointer (some ⟨w5.heap.size + 1, 0, none⟩), .pointer (some ⟨w6.heap.size, 0, none⟩), .int .i64 2, l19, l20, l21, l22, l23, l24, l25, l26, l27, .agg (row 78 x).toArray, .int .i64 (k : Int), l30, l31, l32, l33, l34, l35, l36, l37, l38, l39, l40, l41, .int .i64 3, l43, l44, l45, l46, l47, l48, l49, l50, l51, l52, l53, l54, l55, l56, l57, l58, l59, l60, l61, l62, l63, l64, l65], defers := [] } W3 := by
   intro W3 l5 l9 l15 l19 l20 l21 l22 l23 l24 l25 l26 l27 l30 l31 l32 l33 l34 l35 l36 l37 l38 l39 l40 l41 l43 l44 l45 l46 l47 l48 l49 l50 l51 l52 l53 l54 l55 l56 l57 l58 l59 l60 l61 l62 l63 l64 l65 r13 r14 E13 E14 KC3 BF_c3 B3_c3 B4_c3 B5_c3 B9_c3
   have zc3_BF := BF_c3.lies
   have zc3_B3 := B3_c3.lies
   have zc3_B4 := B4_c3.lies
   have zc3_B5 := B5_c3.lies
   have zc3_B9 := B9_c3.lies
   rw [hKK3.out]
   dsimp only [Exit.inBlock, Exit.then]
   first | refine use_cont (by assumption) ?_ | skip
   have i16_0 : (k : Int) < 13 := by omega
   go_wp2_with fail
   clear i16_0
   have hs0 : Hid (hmovedS_l0 x ms r3 (r1.1, r3.2) (k + 1) = ((updF (updF (updF (updF s0.1 (k * 4) r14.1.1) (k * 4 + 1) r14.1.2.1) (k * 4 + 2) r14.1.2.2.1) (k * 4 + 3) r14.1.2.2.2), r14.2)) := by show _ = _; rw [hmovedS_l0_succ]; unfold hmovedS_l0s; simp only [El0.out, E5.out, E6.out, E7.out, E9.out, E11.out, E13.out, E14.out]
   refine give_act (fun a_ ea_ => ?_)
   rw [hJ0.out]
   intro G_ hG_
   exact hG_ ((updF (updF (updF (updF s0.1 (k * 4) r14.1.1) (k * 4 + 1) r14.1.2.1) (k * 4 + 2) r14.1.2.2.1) (k * 4 + 3) r14.1.2.2.2), r14.2) (zS a_ 0) (zS a_ 20) (zS a_ 40) (zS a_ 60) hs0 (by subst ea_; rfl) KC3 BF_c3 B3_c3 B4_c3 B5_c3
  refine wp_region_held_drew (S := fun w' => Arr w6.heap.size [.int .i64 r7.1, .int .i64 r9.1, .int .i64 r11.1] w') (by kernel_rfl) B9_12.drew (fun zH => ?_)
  refine zT 0 rfl (by kernel_rfl) (fun _ _ _ => id) rfl (fun _ _ => by go_simp <;> with_reducible rfl) zH ?_
  simp only [Act.put, zA, zB, zC]
  refine zT 1 rfl (by kernel_rfl) (fun _ _ _ => id) rfl (fun _ _ => by go_simp <;> with_reducible rfl) zH ?_
  simp only [Act.put, zA, zB, zC]
  refine zT 2 rfl (by kernel_rfl) (fun _ _ _ => id) rfl (fun _ _ => by go_simp <;> with_reducible rfl) zH ?_
  simp only [Act.put, zA, zB, zC]
  refine zT 3 rfl (by kernel_rfl) (fun _ _ _ => id) rfl (fun wx hS => by have hc0 : wx.cell? ⟨w6.heap.size, 0, none⟩ = some (.int .i64 r7.1) := hS.c 0 (zD rfl); have hc1 : wx.cell? ⟨w6.heap.size, 1, none⟩ = some (.int .i64 r9.1) := hS.c 1 (zD rfl); have hc2 : wx.cell? ⟨w6.heap.size, 2, none⟩ = some (.int .i64 r11.1) := hS.c 2 (zD rfl); go_simp <;> with_reducible rfl) zH ?_
  simp only [Act.put, zA, zB, zC]
  refine zT 5 rfl (by kernel_rfl) (fun _ _ _ => id) rfl (fun _ _ => by go_simp <;> with_reducible rfl) zH ?_
  simp only [Act.put, zA, zB, zC]
  refine zT 6 rfl (by kernel_rfl) (fun _ _ _ => id) rfl (fun _ _ => by have hi0 : (k : Int) < 13 := (by omega); go_simp <;> with_reducible rfl) zH ?_
  simp only [Act.put, zA, zB, zC]
  refine call_at2 (i0 := 4) (i1 := 7) (by kernel_rfl) rfl rfl (fun K hK => ?_) (fun K hK => ?_)
  ·go_simp
   refine (qFromRod_any b r11.2 (r7.1, r9.1, r11.1) _ BF_12.drew).mono ?_
   rintro e w13 ⟨rfl, f13, k13⟩
   generalize e13 : qFromRodS r11.2 (r7.1, r9.1, r11.1) = r13 at f13 ⊢
   have E13 : Hid _ := e13
   clear e13
   have K13 : Kept b w w13 := Kept.trans K12.drew k13
   have B3_13 := B3_12.drew.kept k13 (zG y4_BF)
   have B4_13 := B4_12.drew.kept k13 (zG y5_BF)
   have B5_13 := B5_12.drew.kept k13 (zG y6_BF)
   have B9_13 := B9_12.drew.kept k13 (zG y18_BF)
   have z13 := B9_13.lies
   clear zH
   refine hK.out _ _ B9_13 (fun zH => ?_)
   clear hK K K12 BF_12 B3_12 B4_12 B5_12 B9_12 k13
   refine zK 7 (by kernel_rfl) rfl (fun K hK => ?_)
   refine late_part (M := 4) (by rfl) rfl rfl B4_13 (by omega) (by kernel_rfl) (by rw [row_len]; kernel_rfl) ?_
   simp only [Act.put, zA, zB, zC]
   clear zH
   refine hK.out _ _ B9_13 (fun zH => ?_)
   clear hK K
   refine zK 8 (by kernel_rfl) rfl (fun K hK => ?_)
   go_simp
   refine (qMul_any b r13.2 r13.1 ((s0.1 (k * 4)), (s0.1 (k * 4 + 1)), (s0.1 (k * 4 + 2)), (s0.1 (k * 4 + 3))) _ f13).mono ?_
   rintro e w14 ⟨rfl, f14, k14⟩
   generalize e14 : qMulS r13.2 r13.1 ((s0.1 (k * 4)), (s0.1 (k * 4 + 1)), (s0.1 (k * 4 + 2)), (s0.1 (k * 4 + 3))) = r14 at f14 ⊢
   have E14 : Hid _ := e14
   clear e14
   have K14 := Kept.trans K13 k14
   have B3_14 := B3_13.kept k14 (zG y4_BF)
   have B4_14 := B4_13.kept k14 (zG y5_BF)
   have B5_14 := B5_13.kept k14 (zG y6_BF)
   have B9_14 := B9_13.kept k14 (zG y18_BF)
   have z14 := B9_14.lies
   clear zH
   refine hK.out _ _ B9_14 (fun zH => ?_)
   clear hK K K13 f13 B3_13 B4_13 B5_13 B9_13 k14
   refine zT 9 rfl (by kernel_rfl) (fun _ _ _ => id) rfl (fun _ _ => by have hi0 : (k : Int) < 13 := (by omega); go_simp <;> with_reducible rfl) zH ?_
   simp only [Act.put, zA, zB, zC]
   refine zK 10 (by kernel_rfl) rfl (fun K hK => ?_)
   have c16_B4_0 : w14.cell? ⟨w1.heap.size, k * 4 + 1, none⟩ = some (.int .i64 (s0.1 (k * 4 + 1))) := row_c B4_14 (k * 4 + 1) (by omega)
   have c16_B4_1 : w14.cell? ⟨w1.heap.size, k * 4 + 2, none⟩ = some (.int .i64 (s0.1 (k * 4 + 2))) := row_c B4_14 (k * 4 + 2) (by omega)
   have c16_B4_2 : w14.cell? ⟨w1.heap.size, k * 4 + 3, none⟩ = some (.int .i64 (s0.1 (k * 4 + 3))) := row_c B4_14 (k * 4 + 3) (by omega)
   have c16_B4_3 : w14.cell? ⟨w1.heap.size, k * 4, none⟩ = some (.int .i64 (s0.1 (k * 4))) := row_c B4_14 (k * 4) (by omega)
   have g16_B4_4 := row_f B4_14 (k * 4 + 1) (by omega)
   have g16_B4_5 := row_f B4_14 (k * 4 + 2) (by omega)
   have g16_B4_6 := row_f B4_14 (k * 4 + 3) (by omega)
   have g16_B4_7 := row_f B4_14 (k * 4) (by omega)
   go_simp
   clear zH
   refine hK.out _ _ ((((B9_14.new w1.heap.size (k * 4) (zG y18_B4) (.int .i64 r14.1.1)).new w1.heap.size (k * 4 + 1) (zG y18_B4) (.int .i64 r14.1.2.1)).new w1.heap.size (k * 4 + 2) (zG y18_B4) (.int .i64 r14.1.2.2.1)).new w1.heap.size (k * 4 + 3) (zG y18_B4) (.int .i64 r14.1.2.2.2)) (fun zH => ?_)
   clear hK K c16_B4_0 c16_B4_1 c16_B4_2 c16_B4_3 g16_B4_4 g16_B4_5 g16_B4_6 g16_B4_7
   refine wpAnyH_done (by kernel_rfl) ?_ _
   clear zH
   refine put_cont hKK3 ?_
   exact cont3 _ _ _ _ _ _ _ _ _ _ _ _ _ _ _ _ _ _ _ _ _ _ _ _ _ _ _ _ _ _ _ _ _ _ _ _ _ _ _ _ _ _ _ _ _ _ _ _ r13 r14 E13 E14 ((((K14.new _ _ (by omega) _).new _ _ (by omega) _).new _ _ (by omega) _).new _ _ (by omega) _) ((((f14.new w1.heap.size (k * 4) (zL y5_BF) (.int .i64 r14.1.1)).new w1.heap.size (k * 4 + 1) (zL y5_BF) (.int .i64 r14.1.2.1)).new w1.heap.size (k * 4 + 2) (zL y5_BF) (.int .i64 r14.1.2.2.1)).new w1.heap.size (k * 4 + 3) (zL y5_BF) (.int .i64 r14.1.2.2.2)) ((((B3_14.new w1.heap.size (k * 4) (zL y5_B3) (.int .i64 r14.1.1)).new w1.heap.size (k * 4 + 1) (zL y5_B3) (.int .i64 r14.1.2.1)).new w1.heap.size (k * 4 + 2) (zL y5_B3) (.int .i64 r14.1.2.2.1)).new w1.heap.size (k * 4 + 3) (zL y5_B3) (.int .i64 r14.1.2.2.2)) (row_put (row_put (row_put (row_put B4_14 (k * 4) (by omega) r14.1.1) (k * 4 + 1) (by omega) r14.1.2.1) (k * 4 + 2) (by omega) r14.1.2.2.1) (k * 4 + 3) (by omega) r14.1.2.2.2) ((((B5_14.new w1.heap.size (k * 4) (zG y6_B4) (.int .i64 r14.1.1)).new w1.heap.size (k * 4 + 1) (zG y6_B4) (.int .i64 r14.1.2.1)).new w1.heap.size (k * 4 + 2) (zG y6_B4) (.int .i64 r14.1.2.2.1)).new w1.heap.size (k * 4 + 3) (zG y6_B4) (.int .i64 r14.1.2.2.2)) ((((B9_14.new w1.heap.size (k * 4) (zG y18_B4) (.int .i64 r14.1.1)).new w1.heap.size (k * 4 + 1) (zG y18_B4) (.int .i64 r14.1.2.1)).new w1.heap.size (k * 4 + 2) (zG y18_B4) (.int .i64 r14.1.2.2.1)).new w1.heap.size (k * 4 + 3) (zG y18_B4) (.int .i64 r14.1.2.2.2))
  ·refine late_part (M := 4) (by rfl) rfl rfl B4_12.drew (by omega) (by kernel_rfl) (by rw [row_len]; kernel_rfl) ?_
   simp only [Act.put, zA, zB, zC]
   clear zH
   refine hK.out _ _ B9_12.drew (fun zH => ?_)
   clear hK K
   refine zK 4 (by kernel_rfl) rfl (fun K hK => ?_)
   go_simp
   refine (qFromRod_any b r11.2 (r7.1, r9.1, r11.1) _ BF_12.drew).mono ?_
   rintro e w13 ⟨rfl, f13, k13⟩
   generalize e13 : qFromRodS r11.2 (r7.1, r9.1, r11.1) = r13 at f13 ⊢
   have E13 : Hid _ := e13
   clear e13
   have K13 : Kept b w w13 := Kept.trans K12.drew k13
   have B3_13 := B3_12.drew.kept k13 (zG y4_BF)
   have B4_13 := B4_12.drew.kept k13 (zG y5_BF)
   have B5_13 := B5_12.drew.kept k13 (zG y6_BF)
   have B9_13 := B9_12.drew.kept k13 (zG y18_BF)
   have z13 := B9_13.lies
   clear zH
   refine hK.out _ _ B9_13 (fun zH => ?_)
   clear hK K K12 BF_12 B3_12 B4_12 B5_12 B9_12 k13
   refine zK 8 (by kernel_rfl) rfl (fun K hK => ?_)
   go_simp
   refine (qMul_any b r13.2 r13.1 ((s0.1 (k * 4)), (s0.1 (k * 4 + 1)), (s0.1 (k * 4 + 2)), (s0.1 (k * 4 + 3))) _ f13).mono ?_
   rintro e w14 ⟨rfl, f14, k14⟩
   generalize e14 : qMulS r13.2 r13.1 ((s0.1 (k * 4)), (s0.1 (k * 4 + 1)), (s0.1 (k * 4 + 2)), (s0.1 (k * 4 + 3))) = r14 at f14 ⊢
   have E14 : Hid _ := e14
   clear e14
   have K14 := Kept.trans K13 k14
   have B3_14 := B3_13.kept k14 (zG y4_BF)
   have B4_14 := B4_13.kept k14 (zG y5_BF)
   have B5_14 := B5_13.kept k14 (zG y6_BF)
   have B9_14 := B9_13.kept k14 (zG y18_BF)
   have z14 := B9_14.lies
   clear zH
   refine hK.out _ _ B9_14 (fun zH => ?_)
   clear hK K K13 f13 B3_13 B4_13 B5_13 B9_13 k14
   refine zT 9 rfl (by kernel_rfl) (fun _ _ _ => id) rfl (fun _ _ => by have hi0 : (k : Int) < 13 := (by omega); go_simp <;> with_reducible rfl) zH ?_
   simp only [Act.put, zA, zB, zC]
   refine zK 10 (by kernel_rfl) rfl (fun K hK => ?_)
   have c16_B4_0 : w14.cell? ⟨w1.heap.size, k * 4 + 1, none⟩ = some (.int .i64 (s0.1 (k * 4 + 1))) := row_c B4_14 (k * 4 + 1) (by omega)
   have c16_B4_1 : w14.cell? ⟨w1.heap.size, k * 4 + 2, none⟩ = some (.int .i64 (s0.1 (k * 4 + 2))) := row_c B4_14 (k * 4 + 2) (by omega)
   have c16_B4_2 : w14.cell? ⟨w1.heap.size, k * 4 + 3, none⟩ = some (.int .i64 (s0.1 (k * 4 + 3))) := row_c B4_14 (k * 4 + 3) (by omega)
   have c16_B4_3 : w14.cell? ⟨w1.heap.size, k * 4, none⟩ = some (.int .i64 (s0.1 (k * 4))) := row_c B4_14 (k * 4) (by omega)
   have g16_B4_4 := row_f B4_14 (k * 4 + 1) (by omega)
   have g16_B4_5 := row_f B4_14 (k * 4 + 2) (by omega)
   have g16_B4_6 := row_f B4_14 (k * 4 + 3) (by omega)
   have g16_B4_7 := row_f B4_14 (k * 4) (by omega)
   go_simp
   clear zH
   refine hK.out _ _ ((((B9_14.new w1.heap.size (k * 4) (zG y18_B4) (.int .i64 r14.1.1)).new w1.heap.size (k * 4 + 1) (zG y18_B4) (.int .i64 r14.1.2.1)).new w1.heap.size (k * 4 + 2) (zG y18_B4) (.int .i64 r14.1.2.2.1)).new w1.heap.size (k * 4 + 3) (zG y18_B4) (.int .i64 r14.1.2.2.2)) (fun zH => ?_)
   clear hK K c16_B4_0 c16_B4_1 c16_B4_2 c16_B4_3 g16_B4_4 g16_B4_5 g16_B4_6 g16_B4_7
   refine wpAnyH_done (by kernel_rfl) ?_ _
   clear zH
   refine put_cont hKK3 ?_
   exact cont3 _ _ _ _ _ _ _ _ _ _ _ _ _ _ _ _ _ _ _ _ _ _ _ _ _ _ _ _ _ _ _ _ _ _ _ _ _ _ _ _ _ _ _ _ _ _ _ _ r13 r14 E13 E14 ((((K14.new _ _ (by omega) _).new _ _ (by omega) _).new _ _ (by omega) _).new _ _ (by omega) _) ((((f14.new w1.heap.size (k * 4) (zL y5_BF) (.int .i64 r14.1.1)).new w1.heap.size (k * 4 + 1) (zL y5_BF) (.int .i64 r14.1.2.1)).new w1.heap.size (k * 4 + 2) (zL y5_BF) (.int .i64 r14.1.2.2.1)).new w1.heap.size (k * 4 + 3) (zL y5_BF) (.int .i64 r14.1.2.2.2)) ((((B3_14.new w1.heap.size (k * 4) (zL y5_B3) (.int .i64 r14.1.1)).new w1.heap.size (k * 4 + 1) (zL y5_B3) (.int .i64 r14.1.2.1)).new w1.heap.size (k * 4 + 2) (zL y5_B3) (.int .i64 r14.1.2.2.1)).new w1.heap.size (k * 4 + 3) (zL y5_B3) (.int .i64 r14.1.2.2.2)) (row_put (row_put (row_put (row_put B4_14 (k * 4) (by omega) r14.1.1) (k * 4 + 1) (by omega) r14.1.2.1) (k * 4 + 2) (by omega) r14.1.2.2.1) (k * 4 + 3) (by omega) r14.1.2.2.2) ((((B5_14.new w1.heap.size (k * 4) (zG y6_B4) (.int .i64 r14.1.1)).new w1.heap.size (k * 4 + 1) (zG y6_B4) (.int .i64 r14.1.2.1)).new w1.heap.size (k * 4 + 2) (zG y6_B4) (.int .i64 r14.1.2.2.1)).new w1.heap.size (k * 4 + 3) (zG y6_B4) (.int .i64 r14.1.2.2.2)) ((((B9_14.new w1.heap.size (k * 4) (zG y18_B4) (.int .i64 r14.1.1)).new w1.heap.size (k * 4 + 1) (zG y18_B4) (.int .i64 r14.1.2.1)).new w1.heap.size (k * 4 + 2) (zG y18_B4) (.int .i64 r14.1.2.2.1)).new w1.heap.size (k * 4 + 3) (zG y18_B4) (.int .i64 r14.1.2.2.2))
 ·intro a Wl0 hI R
  rw [hJ0.out] at hI
  refine hI _ ?_
  clear hI hJ0
  intro r13 A0 C0 D0 F0 E13 ea Kl0 BF_l0 B3_l0 B4_l0 B5_l0
  subst ea
  have zl0_BF := BF_l0.lies
  have zl0_B3 := B3_l0.lies
  have zl0_B4 := B4_l0.lies
  have zl0_B5 := B5_l0.lies
  go_wp2_with (first | (refine row_load (ty := 75) rfl rfl rfl B4_l0 (by kernel_rfl) (by rw [row_len]; kernel_rfl) ?_) | (refine store_stop rfl (by kernel_rfl) ?_))
  refine Stop.mk (store_row (l' := row 52 r13.1) rfl rfl rfl rfl B3_l0 (by simp only [row_len]) (by rw [row_len]; kernel_rfl) (row_one _ _) ?_)
  intro w14 B3_14 o14
  have K14 : Kept b w w14 := Kept.off Kl0 o14 (by omega)
  have BF_14 := BF_l0.off o14 (zL y4_BF)
  have B4_14 := B4_l0.off o14 (zG y5_B3)
  have z14_B3 := B3_14.lies
  have z14_BF := BF_14.lies
  have z14_B4 := B4_14.lies
  clear B3_l0 BF_l0 B4_l0 o14
  go_wp2_with (with_reducible refine post_stop ?_)
  refine Stop.mk ?_
  refine bodyPost_ret (v := .agg (row 52 r13.1).toArray) (results_arr Try.results47 B3_14 rfl (by kernel_rfl) (by rw [row_len]; kernel_rfl)) rfl ?_
  have hs : hmovedS bad g x v ms = (r13.1, r13.2) := by unfold hmovedS; simp only [E1.out, E3.out, E13.out]
  rw [hs]
  exact ⟨rfl, BF_14, K14⟩
end Go.Proofs.Ytooehgijllihdaa
