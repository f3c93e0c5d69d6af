/- A part. -/
import Derived.Test.YtooehgijllihdaaXAct
import Derived.Test.YtooehgijllihdaaJH
import Derived.Test.YtooehgijllihdaaJG
import Derived.Handy
import Derived.Deep.RegionHeld3
namespace Go.Proofs.Ytooehgijllihdaa
open Go.RowKit
set_option maxRecDepth 100000
set_option maxHeartbeats 20000000
theorem haround_any (b : Nat) (bad : Bool) (q : V4) (y : Nat → Int) (x : Nat → Int) (w : World) (hw : Fl b bad w) :
  Calls Try.prog 48 #[.pointer (some ⟨b, 0, none⟩), .agg #[.int .i64 q.1, .int .i64 q.2.1, .int .i64 q.2.2.1, .int .i64 q.2.2.2], .agg (row 52 y).toArray, .agg (row 78 x).toArray] w fun e w' => e = .returned (.agg (row 78 ((haroundS bad q y x).1)).toArray) ∧ Fl b (haroundS bad q y x).2 w' ∧ Kept b w w' := by
 have hl := hw.lies
 go_enter Try.func48, Try.ntmps48
 have y1_BF := hw.lies
 have y2_BF : b < w.heap.size + 1 := (Nat.lt_succ_of_lt hw.lies)
 have y2_B0 : w.heap.size < w.heap.size + 1 := by omega
 have y3_BF : b < w.heap.size + 1 + 1 := (Nat.lt_succ_of_lt (Nat.lt_succ_of_lt hw.lies))
 have y3_B0 : w.heap.size < w.heap.size + 1 + 1 := by omega
 have y3_B1 : w.heap.size + 1 < w.heap.size + 1 + 1 := by omega
 have y4_BF : b < w.heap.size + 1 + 1 + 1 := (Nat.lt_succ_of_lt (Nat.lt_succ_of_lt (Nat.lt_succ_of_lt hw.lies)))
 have y4_B0 : w.heap.size < w.heap.size + 1 + 1 + 1 := by omega
 have y4_B1 : w.heap.size + 1 < w.heap.size + 1 + 1 + 1 := by omega
 have y4_B2 : w.heap.size + 1 + 1 < w.heap.size + 1 + 1 + 1 := by omega
 have y5_BF : b < w.heap.size + 1 + 1 + 1 + 1 := (Nat.lt_succ_of_lt (Nat.lt_succ_of_lt (Nat.lt_succ_of_lt (Nat.lt_succ_of_lt hw.lies))))
 have y5_B0 : w.heap.size < w.heap.size + 1 + 1 + 1 + 1 := by omega
 have y5_B1 : w.heap.size + 1 < w.heap.size + 1 + 1 + 1 + 1 := by omega
 have y5_B2 : w.heap.size + 1 + 1 < w.heap.size + 1 + 1 + 1 + 1 := by omega
 have y5_B3 : w.heap.size + 1 + 1 + 1 < w.heap.size + 1 + 1 + 1 + 1 := by omega
 go_wp2_with (refine row_load (ty := 61) rfl rfl rfl (((Arr_at _ _ (row 78 x) _ (by simp)).alloc _).alloc _) (by kernel_rfl) (by rw [row_len]; kernel_rfl) ?_)
 obtain ⟨J0, hJ0⟩ : ∃ J : Nat → Act → World → Prop, Hid (J = fun k a Wl0 => ∀ G_ : Prop, (∀ (s0 : (Nat → Int) × Bool) (A0 C0 D0 : Nat → Value), Hid (haroundS_l0 q y x ((fun _ => 0), bad) k = s0) → a = { tmps := #[.pointer (some ⟨b, 0, none⟩), A0 1, A0 2, A0 3, A0 4, .pointer (some ⟨w.heap.size, 0, none⟩), .pointer (some ⟨w.heap.size + 1, 0, none⟩), A0 7, .pointer (some ⟨w.heap.size + 1 + 1 + 1, 0, none⟩), .pointer (some ⟨w.heap.size + 1 + 1 + 1 + 1, 0, none⟩), A0 10, A0 11, A0 12, A0 13, A0 14, .agg (row 78 x).toArray, .int .i64 (k : Int), A0 17, A0 18, A0 19, C0 0, C0 1, C0 2, C0 3, C0 4, C0 5, C0 6, C0 7, C0 8, C0 9, C0 10, C0 11, C0 12, C0 13, C0 14, C0 15, C0 16, C0 17, C0 18, C0 19, D0 0, D0 1], defers := [] } → Kept b w Wl0 → Fl b s0.2 Wl0 → Arr w.heap.size [.int .i64 q.1, .int .i64 q.2.1, .int .i64 q.2.2.1, .int .i64 q.2.2.2] Wl0 → Arr (w.heap.size + 1) (row 52 y) Wl0 → Arr (w.heap.size + 1 + 1 + 1) (row 78 (fun _ => 0)) Wl0 → Arr (w.heap.size + 1 + 1 + 1 + 1) (row 78 s0.1) Wl0 → G_) → G_) := ⟨_, rfl⟩
 refine rounds_up J0 13 ?_ ?_ ?_
 ·refine give_act (fun a_ ea_ => ?_)
  rw [hJ0.out]
  intro G_ hG_
  exact hG_ ((fun _ => 0), bad) (zS a_ 0) (zS a_ 20) (zS a_ 40) rfl (by subst ea_; rfl) ((((((Kept.refl b w).al _).al _).al _).al _).al _) (((((hw.alloc _).alloc _).alloc _).alloc _).alloc _) (((((Arr_at _ _ [.int .i64 q.1, .int .i64 q.2.1, .int .i64 q.2.2.1, .int .i64 q.2.2.2] _ (by simp)).alloc _).alloc _).alloc _).alloc _) ((((Arr_at _ _ (row 52 y) _ (by simp)).alloc _).alloc _).alloc _) ((Arr_at _ _ (row 78 (fun _ => 0)) _ (by simp)).alloc _) (Arr_at _ _ (row 78 (fun _ => 0)) _ (by simp))
 ·intro k a Wl0 hk hI R hR
  rw [hJ0.out] at hI
  refine hI _ ?_
  clear hI
  intro s0 A0 C0 D0 El0 ea Kl0 BF_l0 B0_l0 B1_l0 B3_l0 B4_l0
  subst ea
  have zl0_BF := BF_l0.lies
  have zl0_B0 := B0_l0.lies
  have zl0_B1 := B1_l0.lies
  have zl0_B3 := B3_l0.lies
  have zl0_B4 := B4_l0.lies
  have y20_BF := BF_l0.lies
  have y20_B0 := B0_l0.lies
  have y20_B1 := B1_l0.lies
  have y20_B3 := B3_l0.lies
  have y20_B4 := B4_l0.lies
  have i2_0 : (k : Int) < 13 := by omega
  go_wp2_with (refine store_stop rfl (by kernel_rfl) ?_)
  clear i2_0
  refine Stop.mk (store_row (l' := row 6 (fun x_ => x (k * 6 + x_))) rfl rfl rfl rfl (Arr_at _ _ [.int .i64 0, .int .i64 0, .int .i64 0, .int .i64 0, .int .i64 0, .int .i64 0] _ (by simp)) (by rw [row_len]; rfl) (by rw [row_len]; kernel_rfl) (row_one _ _) ?_)
  intro w1 B5_1 o1
  have K1 : Kept b w w1 := Kept.off (Kl0.al _) o1 (by omega)
  have BF_1 := (BF_l0.alloc _).off o1 (zL y20_BF)
  have B0_1 := (B0_l0.alloc _).off o1 (zL y20_B0)
  have B1_1 := (B1_l0.alloc _).off o1 (zL y20_B1)
  have B3_1 := (B3_l0.alloc _).off o1 (zL y20_B3)
  have B4_1 := (B4_l0.alloc _).off o1 (zL y20_B4)
  have z1_B5 := B5_1.lies
  have z1_BF := BF_1.lies
  have z1_B0 := B0_1.lies
  have z1_B1 := B1_1.lies
  have z1_B3 := B3_1.lies
  have z1_B4 := B4_1.lies
  clear BF_l0 B0_l0 B1_l0 B3_l0 B4_l0 o1
  go_wp2_with (refine row_load (ty := 34) rfl rfl rfl B5_1 (by kernel_rfl) (by rw [row_len]; kernel_rfl) ?_)
  refine (hparted_any (fun x_ => x (k * 6 + x_)) _).mono ?_
  rintro e w2 ⟨rfl, k2⟩
  generalize e2 : hpartedP (fun x_ => x (k * 6 + x_)) = r2
  have E2 : Hid _ := e2
  clear e2
  try dsimp only
  have K2 : Kept b w w2 := Kept.trans K1 (Kept.of_below k2)
  have BF_2 := BF_1.below k2
  have B0_2 := B0_1.below k2
  have B1_2 := B1_1.below k2
  have B3_2 := B3_1.below k2
  have B4_2 := B4_1.below k2
  have B5_2 := B5_1.below k2
  have z2 := B5_2.lies
  clear K1 BF_1 B0_1 B1_1 B3_1 B4_1 B5_1 k2
  have y21_BF := BF_2.lies
  have y21_B0 := B0_2.lies
  have y21_B1 := B1_2.lies
  have y21_B3 := B3_2.lies
  have y21_B4 := B4_2.lies
  have y21_B5 := B5_2.lies
  have y22_BF : b < w2.heap.size + 1 := (Nat.lt_succ_of_lt BF_2.lies)
  have y22_B0 : w.heap.size < w2.heap.size + 1 := (Nat.lt_succ_of_lt B0_2.lies)
  have y22_B1 : w.heap.size + 1 < w2.heap.size + 1 := (Nat.lt_succ_of_lt B1_2.lies)
  have y22_B3 : w.heap.size + 1 + 1 + 1 < w2.heap.size + 1 := (Nat.lt_succ_of_lt B3_2.lies)
  have y22_B4 : w.heap.size + 1 + 1 + 1 + 1 < w2.heap.size + 1 := (Nat.lt_succ_of_lt B4_2.lies)
  have y22_B5 : Wl0.heap.size < w2.heap.size + 1 := (Nat.lt_succ_of_lt B5_2.lies)
  have y22_B6 : w2.heap.size < w2.heap.size + 1 := by omega
  go_wp2_with fail
  refine get_cont (fun KK3 hKK3 => ?_)
  have cont3 : ∀ (W3 : World) (l4 l12 l17 l18 l19 l20 l21 l22 l23 l24 l25 l26 l27 l28 l29 l30 l31 l32 l33 l34 l35 l36 l37 l38 l39 l40 l41 : Value) (x3_0 : Nat) (r3 : _) (r4 : _) (r5 : _) , Hid (qBackS q = r3) → Hid (qMulS s0.2 ((y (k * 4)), (y (k * 4 + 1)), (y (k * 4 + 2)), (y (k * 4 + 3))) r3 = r4) → Hid (qToRodS r4.2 r4.1 = r5) → Kept b w W3 → Fl b r5.2 W3 → Arr w.heap.size [.int .i64 q.1, .int .i64 q.2.1, .int .i64 q.2.2.1, .int .i64 q.2.2.2] W3 → Arr (w.heap.size + 1) (row 52 y) W3 → Arr (w.heap.size + 1 + 1 + 1) (row 78 (fun _ => 0)) W3 → Arr (w.heap.size + 1 + 1 + 1 + 1) (row 78 s0.1) W3 → Arr (w2.heap.size + 1) [.int .i64 r2.2.1, .int .i64 r2.2.2.1, .int .i64 r2.2.2.2] W3 → Arr x3_0 [.int .i64 r5.1.1, .int .i64 r5.1.2.1, .int .i64 r5.1.2.2] W3 → w.heap.size ≤ x3_0 → b < x3_0 → w.heap.size < x3_0 → w.heap.size + 1 < x3_0 → w.heap.size + 1 + 1 + 1 < x3_0 → w.heap.size + 1 + 1 + 1 + 1 < x3_0 → w2.heap.size + 1 < x3_0 → KK3 { tmps := #[.pointer (some ⟨b, 0, none⟩), A0 1, A0 2, A0 3, l4, .pointer (some ⟨w.heap.size, 0, none⟩), .pointer (some ⟨w.heap.size + 1, 0, none⟩), A0 7, .pointer (some ⟨w.heap.size + 1 + 1 + 1, 0, none⟩), .pointer (some ⟨w.heap.size + 1 + 1 + 1 + 1, 0, none⟩), .int .i64 (k : Int), .pointer (some ⟨Wl0.heap.size, 0, none⟩), l12, .pointer (some ⟨w2.heap.size + 1, 0, none⟩), .pointer (some ⟨x3_0, 0, none⟩), .agg (row 78 x).toArray, .int .i64 (k : Int), l17, l18, l19, l20, l21, l22, l23, l24, l25, l26, l27, l28, l29, l30, l31, l32, l33, l34, l35, l36, l37, l38, l39, l40, l41], defers := [] } W3 := by
   intro W3 l4 l12 l17 l18 l19 l20 l21 l22 l23 l24 l25 l26 l27 l28 l29 l30 l31 l32 l33 l34 l35 l36 l37 l38 l39 l40 l41 x3_0 r3 r4 r5 E3 E4 E5 KC3 BF_c3 B0_c3 B1_c3 B3_c3 B4_c3 B7_c3 B8_c3 s3_0 s3_1 s3_2 s3_3 s3_4 s3_5 s3_6
   have zc3_BF := BF_c3.lies
   have zc3_B0 := B0_c3.lies
   have zc3_B1 := B1_c3.lies
   have zc3_B3 := B3_c3.lies
   have zc3_B4 := B4_c3.lies
   have zc3_B7 := B7_c3.lies
   have zc3_B8 := B8_c3.lies
   rw [hKK3.out]
   dsimp only [Exit.inBlock, Exit.then]
   first | refine use_cont (by assumption) ?_ | skip
   have c5_B7_0 : W3.cell? ⟨w2.heap.size + 1, 0, none⟩ = some (.int .i64 r2.2.1) := B7_c3.c 0 (zD rfl)
   have c5_B7_1 : W3.cell? ⟨w2.heap.size + 1, 1, none⟩ = some (.int .i64 r2.2.2.1) := B7_c3.c 1 (zD rfl)
   have c5_B7_2 : W3.cell? ⟨w2.heap.size + 1, 2, none⟩ = some (.int .i64 r2.2.2.2) := B7_c3.c 2 (zD rfl)
   have c5_B8_0 : W3.cell? ⟨x3_0, 0, none⟩ = some (.int .i64 r5.1.1) := B8_c3.c 0 (zD rfl)
   have c5_B8_1 : W3.cell? ⟨x3_0, 1, none⟩ = some (.int .i64 r5.1.2.1) := B8_c3.c 1 (zD rfl)
   have c5_B8_2 : W3.cell? ⟨x3_0, 2, none⟩ = some (.int .i64 r5.1.2.2) := B8_c3.c 2 (zD rfl)
   have i5_6 : (k : Int) < 13 := by omega
   go_wp2_with fail
   refine (hjoined_any (r5.1.1, r5.1.2.1, r5.1.2.2, r2.2.1, r2.2.2.1, r2.2.2.2) _).mono ?_
   rintro e w6 ⟨rfl, k6⟩
   generalize e6 : hjoinedP (r5.1.1, r5.1.2.1, r5.1.2.2, r2.2.1, r2.2.2.1, r2.2.2.2) = r6
   have E6 : Hid _ := e6
   clear e6
   try dsimp only
   have K6 : Kept b w w6 := Kept.trans KC3 (Kept.of_below k6)
   have BF_6 := BF_c3.below k6
   have B0_6 := B0_c3.below k6
   have B1_6 := B1_c3.below k6
   have B3_6 := B3_c3.below k6
   have B4_6 := B4_c3.below k6
   have B7_6 := B7_c3.below k6
   have B8_6 := B8_c3.below k6
   have z6 := B8_6.lies
   clear c5_B7_0 c5_B7_1 c5_B7_2 c5_B8_0 c5_B8_1 c5_B8_2 i5_6 BF_c3 B0_c3 B1_c3 B3_c3 B4_c3 B7_c3 B8_c3 k6
   have c6_B4_0 : w6.cell? ⟨w.heap.size + 1 + 1 + 1 + 1, k * 6 + 1, none⟩ = some (.int .i64 (s0.1 (k * 6 + 1))) := row_c B4_6 (k * 6 + 1) (by omega)
   have c6_B4_1 : w6.cell? ⟨w.heap.size + 1 + 1 + 1 + 1, k * 6 + 2, none⟩ = some (.int .i64 (s0.1 (k * 6 + 2))) := row_c B4_6 (k * 6 + 2) (by omega)
   have c6_B4_2 : w6.cell? ⟨w.heap.size + 1 + 1 + 1 + 1, k * 6 + 3, none⟩ = some (.int .i64 (s0.1 (k * 6 + 3))) := row_c B4_6 (k * 6 + 3) (by omega)
   have c6_B4_3 : w6.cell? ⟨w.heap.size + 1 + 1 + 1 + 1, k * 6 + 4, none⟩ = some (.int .i64 (s0.1 (k * 6 + 4))) := row_c B4_6 (k * 6 + 4) (by omega)
   have c6_B4_4 : w6.cell? ⟨w.heap.size + 1 + 1 + 1 + 1, k * 6 + 5, none⟩ = some (.int .i64 (s0.1 (k * 6 + 5))) := row_c B4_6 (k * 6 + 5) (by omega)
   have c6_B4_5 : w6.cell? ⟨w.heap.size + 1 + 1 + 1 + 1, k * 6, none⟩ = some (.int .i64 (s0.1 (k * 6))) := row_c B4_6 (k * 6) (by omega)
   have g6_B4_6 := row_f B4_6 (k * 6 + 1) (by omega)
   have g6_B4_7 := row_f B4_6 (k * 6 + 2) (by omega)
   have g6_B4_8 := row_f B4_6 (k * 6 + 3) (by omega)
   have g6_B4_9 := row_f B4_6 (k * 6 + 4) (by omega)
   have g6_B4_10 := row_f B4_6 (k * 6 + 5) (by omega)
   have g6_B4_11 := row_f B4_6 (k * 6) (by omega)
   have i6_12 : (k : Int) < 13 := by omega
   go_wp2_with fail
   clear c6_B4_0 c6_B4_1 c6_B4_2 c6_B4_3 c6_B4_4 c6_B4_5 g6_B4_6 g6_B4_7 g6_B4_8 g6_B4_9 g6_B4_10 g6_B4_11 i6_12
   have hs0 : Hid (haroundS_l0 q y x ((fun _ => 0), bad) (k + 1) = ((updF (updF (updF (updF (updF (updF s0.1 (k * 6) r6.1) (k * 6 + 1) r6.2.1) (k * 6 + 2) r6.2.2.1) (k * 6 + 3) r6.2.2.2.1) (k * 6 + 4) r6.2.2.2.2.1) (k * 6 + 5) r6.2.2.2.2.2), r5.2)) := by show _ = _; rw [haroundS_l0_succ]; unfold haroundS_l0s; simp only [El0.out, E2.out, E3.out, E4.out, E5.out, E6.out]
   refine give_act (fun a_ ea_ => ?_)
   rw [hJ0.out]
   intro G_ hG_
   exact hG_ ((updF (updF (updF (updF (updF (updF s0.1 (k * 6) r6.1) (k * 6 + 1) r6.2.1) (k * 6 + 2) r6.2.2.1) (k * 6 + 3) r6.2.2.2.1) (k * 6 + 4) r6.2.2.2.2.1) (k * 6 + 5) r6.2.2.2.2.2), r5.2) (zS a_ 0) (zS a_ 20) (zS a_ 40) hs0 (by subst ea_; rfl) ((((((K6.new _ _ (by omega) _).new _ _ (by omega) _).new _ _ (by omega) _).new _ _ (by omega) _).new _ _ (by omega) _).new _ _ (by omega) _) ((((((BF_6.new (w.heap.size + 1 + 1 + 1 + 1) (k * 6) (zL y5_BF) (.int .i64 r6.1)).new (w.heap.size + 1 + 1 + 1 + 1) (k * 6 + 1) (zL y5_BF) (.int .i64 r6.2.1)).new (w.heap.size + 1 + 1 + 1 + 1) (k * 6 + 2) (zL y5_BF) (.int .i64 r6.2.2.1)).new (w.heap.size + 1 + 1 + 1 + 1) (k * 6 + 3) (zL y5_BF) (.int .i64 r6.2.2.2.1)).new (w.heap.size + 1 + 1 + 1 + 1) (k * 6 + 4) (zL y5_BF) (.int .i64 r6.2.2.2.2.1)).new (w.heap.size + 1 + 1 + 1 + 1) (k * 6 + 5) (zL y5_BF) (.int .i64 r6.2.2.2.2.2)) ((((((B0_6.new (w.heap.size + 1 + 1 + 1 + 1) (k * 6) (zL y5_B0) (.int .i64 r6.1)).new (w.heap.size + 1 + 1 + 1 + 1) (k * 6 + 1) (zL y5_B0) (.int .i64 r6.2.1)).new (w.heap.size + 1 + 1 + 1 + 1) (k * 6 + 2) (zL y5_B0) (.int .i64 r6.2.2.1)).new (w.heap.size + 1 + 1 + 1 + 1) (k * 6 + 3) (zL y5_B0) (.int .i64 r6.2.2.2.1)).new (w.heap.size + 1 + 1 + 1 + 1) (k * 6 + 4) (zL y5_B0) (.int .i64 r6.2.2.2.2.1)).new (w.heap.size + 1 + 1 + 1 + 1) (k * 6 + 5) (zL y5_B0) (.int .i64 r6.2.2.2.2.2)) ((((((B1_6.new (w.heap.size + 1 + 1 + 1 + 1) (k * 6) (zL y5_B1) (.int .i64 r6.1)).new (w.heap.size + 1 + 1 + 1 + 1) (k * 6 + 1) (zL y5_B1) (.int .i64 r6.2.1)).new (w.heap.size + 1 + 1 + 1 + 1) (k * 6 + 2) (zL y5_B1) (.int .i64 r6.2.2.1)).new (w.heap.size + 1 + 1 + 1 + 1) (k * 6 + 3) (zL y5_B1) (.int .i64 r6.2.2.2.1)).new (w.heap.size + 1 + 1 + 1 + 1) (k * 6 + 4) (zL y5_B1) (.int .i64 r6.2.2.2.2.1)).new (w.heap.size + 1 + 1 + 1 + 1) (k * 6 + 5) (zL y5_B1) (.int .i64 r6.2.2.2.2.2)) ((((((B3_6.new (w.heap.size + 1 + 1 + 1 + 1) (k * 6) (zL y5_B3) (.int .i64 r6.1)).new (w.heap.size + 1 + 1 + 1 + 1) (k * 6 + 1) (zL y5_B3) (.int .i64 r6.2.1)).new (w.heap.size + 1 + 1 + 1 + 1) (k * 6 + 2) (zL y5_B3) (.int .i64 r6.2.2.1)).new (w.heap.size + 1 + 1 + 1 + 1) (k * 6 + 3) (zL y5_B3) (.int .i64 r6.2.2.2.1)).new (w.heap.size + 1 + 1 + 1 + 1) (k * 6 + 4) (zL y5_B3) (.int .i64 r6.2.2.2.2.1)).new (w.heap.size + 1 + 1 + 1 + 1) (k * 6 + 5) (zL y5_B3) (.int .i64 r6.2.2.2.2.2)) (row_put (row_put (row_put (row_put (row_put (row_put B4_6 (k * 6) (by omega) r6.1) (k * 6 + 1) (by omega) r6.2.1) (k * 6 + 2) (by omega) r6.2.2.1) (k * 6 + 3) (by omega) r6.2.2.2.1) (k * 6 + 4) (by omega) r6.2.2.2.2.1) (k * 6 + 5) (by omega) r6.2.2.2.2.2)
  refine wp_region_held_drew (S := fun w' => Arr (w.heap.size + 1) (row 52 y) w' ∧ Arr w.heap.size [.int .i64 q.1, .int .i64 q.2.1, .int .i64 q.2.2.1, .int .i64 q.2.2.2] w') (by kernel_rfl) ⟨((B1_2.alloc _).alloc _).drew, ((B0_2.alloc _).alloc _).drew⟩ (fun zH => ?_)
  refine zT 0 rfl (by kernel_rfl) (fun _ _ _ => id) rfl (fun _ _ => by go_simp <;> with_reducible rfl) zH ?_
  simp only [Act.put, zA, zB, zC]
  refine zT 1 rfl (by kernel_rfl) (fun _ _ _ => id) rfl (fun _ _ => by go_simp <;> with_reducible rfl) zH ?_
  simp only [Act.put, zA, zB, zC]
  refine zT 2 rfl (by kernel_rfl) (fun _ _ _ => id) rfl (fun _ _ => by go_simp <;> with_reducible rfl) zH ?_
  simp only [Act.put, zA, zB, zC]
  refine zT 3 rfl (by kernel_rfl) (fun _ _ _ => id) rfl (fun _ _ => by have hi0 : (k : Int) < 13 := (by omega); go_simp <;> with_reducible rfl) zH ?_
  simp only [Act.put, zA, zB, zC]
  refine zT 4 rfl (by kernel_rfl) (fun _ _ _ => id) rfl (fun wx hS => by have hc0 : wx.cell? ⟨w.heap.size + 1, k * 4 + 1, none⟩ = some (.int .i64 (y (k * 4 + 1))) := row_c hS.1 (k * 4 + 1) (by omega); have hc1 : wx.cell? ⟨w.heap.size + 1, k * 4 + 2, none⟩ = some (.int .i64 (y (k * 4 + 2))) := row_c hS.1 (k * 4 + 2) (by omega); have hc2 : wx.cell? ⟨w.heap.size + 1, k * 4 + 3, none⟩ = some (.int .i64 (y (k * 4 + 3))) := row_c hS.1 (k * 4 + 3) (by omega); have hc3 : wx.cell? ⟨w.heap.size + 1, k * 4, none⟩ = some (.int .i64 (y (k * 4))) := row_c hS.1 (k * 4) (by omega); go_simp <;> with_reducible rfl) zH ?_
  simp only [Act.put, zA, zB, zC]
  refine zT 5 rfl (by kernel_rfl) (fun _ _ _ => id) rfl (fun wx hS => by have hc0 : wx.cell? ⟨w.heap.size, 0, none⟩ = some (.int .i64 q.1) := hS.2.c 0 (zD rfl); have hc1 : wx.cell? ⟨w.heap.size, 1, none⟩ = some (.int .i64 q.2.1) := hS.2.c 1 (zD rfl); have hc2 : wx.cell? ⟨w.heap.size, 2, none⟩ = some (.int .i64 q.2.2.1) := hS.2.c 2 (zD rfl); have hc3 : wx.cell? ⟨w.heap.size, 3, none⟩ = some (.int .i64 q.2.2.2) := hS.2.c 3 (zD rfl); go_simp <;> with_reducible rfl) zH ?_
  simp only [Act.put, zA, zB, zC]
  refine call_at2 (i0 := 6) (i1 := 9) (by kernel_rfl) rfl rfl (fun K hK => ?_) (fun K hK => ?_)
  ·go_simp
   refine (qBack_any q _).mono ?_
   rintro e w3 ⟨rfl, k3⟩
   generalize e3 : qBackS q = r3
   have E3 : Hid _ := e3
   clear e3
   have K3 : Kept b w w3 := Kept.trans ((K2.al _).al _).drew (Kept.of_below k3)
   have BF_3 := ((BF_2.alloc _).alloc _).drew.below k3
   have B0_3 := ((B0_2.alloc _).alloc _).drew.below k3
   have B1_3 := ((B1_2.alloc _).alloc _).drew.below k3
   have B3_3 := ((B3_2.alloc _).alloc _).drew.below k3
   have B4_3 := ((B4_2.alloc _).alloc _).drew.below k3
   have B7_3 := (Arr_at _ (w2.heap.size + 1) [.int .i64 r2.2.1, .int .i64 r2.2.2.1, .int .i64 r2.2.2.2] _ (by simp)).drew.below k3
   have z3 := B7_3.lies
   clear zH
   refine hK.out _ _ ⟨B1_3, B0_3⟩ (fun zH => ?_)
   clear hK K K2 BF_2 B0_2 B1_2 B3_2 B4_2 k3
   refine call_at2 (i0 := 7) (i1 := 9) (by kernel_rfl) rfl rfl (fun K hK => ?_) (fun K hK => ?_)
   ·go_simp
    refine (qMul_any b s0.2 ((y (k * 4)), (y (k * 4 + 1)), (y (k * 4 + 2)), (y (k * 4 + 3))) r3 _ BF_3).mono ?_
    rintro e w4 ⟨rfl, f4, k4⟩
    generalize e4 : qMulS s0.2 ((y (k * 4)), (y (k * 4 + 1)), (y (k * 4 + 2)), (y (k * 4 + 3))) r3 = r4 at f4 ⊢
    have E4 : Hid _ := e4
    clear e4
    have K4 := Kept.trans K3 k4
    have B0_4 := B0_3.kept k4 (zG y1_BF)
    have B1_4 := B1_3.kept k4 (zG y2_BF)
    have B3_4 := B3_3.kept k4 (zG y4_BF)
    have B4_4 := B4_3.kept k4 (zG y5_BF)
    have B7_4 := B7_3.kept k4 (zG y22_BF)
    have z4 := B7_4.lies
    clear zH
    refine hK.out _ _ ⟨B1_4, B0_4⟩ (fun zH => ?_)
    clear hK K K3 BF_3 B0_3 B1_3 B3_3 B4_3 B7_3 k4
    refine call_at2 (i0 := 8) (i1 := 9) (by kernel_rfl) rfl rfl (fun K hK => ?_) (fun K hK => ?_)
    ·go_simp
     refine (qToRod_any b r4.2 r4.1 _ f4).mono ?_
     rintro e w5 ⟨rfl, f5, k5⟩
     generalize e5 : qToRodS r4.2 r4.1 = r5 at f5 ⊢
     have E5 : Hid _ := e5
     clear e5
     have K5 := Kept.trans K4 k5
     have B0_5 := B0_4.kept k5 (zG y1_BF)
     have B1_5 := B1_4.kept k5 (zG y2_BF)
     have B3_5 := B3_4.kept k5 (zG y4_BF)
     have B4_5 := B4_4.kept k5 (zG y5_BF)
     have B7_5 := B7_4.kept k5 (zG y22_BF)
     have z5 := B7_5.lies
     clear zH
     refine hK.out _ _ ⟨B1_5, B0_5⟩ (fun zH => ?_)
     clear hK K K4 f4 B0_4 B1_4 B3_4 B4_4 B7_4 k5
     refine zK 9 (by kernel_rfl) rfl (fun K hK => ?_)
     have y23_BF := f5.lies
     have y23_B0 := B0_5.lies
     have y23_B1 := B1_5.lies
     have y23_B3 := B3_5.lies
     have y23_B4 := B4_5.lies
     have y23_B7 := B7_5.lies
     go_simp
     clear zH
     refine hK.out _ _ ⟨(B1_5.alloc _), (B0_5.alloc _)⟩ (fun zH => ?_)
     clear hK K
     refine zK 10 (by kernel_rfl) rfl (fun K hK => ?_)
     go_simp
     clear zH
     refine hK.out _ _ ⟨(B1_5.alloc _), (B0_5.alloc _)⟩ (fun zH => ?_)
     clear hK K
     refine wpAnyH_done (by kernel_rfl) ?_ _
     clear zH
     refine put_cont hKK3 ?_
     exact cont3 _ _ _ _ _ _ _ _ _ _ _ _ _ _ _ _ _ _ _ _ _ _ _ _ _ _ _ _ w5.heap.size r3 r4 r5 E3 E4 E5 (K5.al _) (f5.alloc _) (B0_5.alloc _) (B1_5.alloc _) (B3_5.alloc _) (B4_5.alloc _) (B7_5.alloc _) (Arr_at _ _ [.int .i64 r5.1.1, .int .i64 r5.1.2.1, .int .i64 r5.1.2.2] _ (by simp)) (by omega) y23_BF y23_B0 y23_B1 y23_B3 y23_B4 y23_B7
    ·have y24_BF := f4.lies
     have y24_B0 := B0_4.lies
     have y24_B1 := B1_4.lies
     have y24_B3 := B3_4.lies
     have y24_B4 := B4_4.lies
     have y24_B7 := B7_4.lies
     go_simp
     clear zH
     refine hK.out _ _ ⟨(B1_4.alloc _), (B0_4.alloc _)⟩ (fun zH => ?_)
     clear hK K
     refine zK 8 (by kernel_rfl) rfl (fun K hK => ?_)
     go_simp
     refine (qToRod_any b r4.2 r4.1 _ (f4.alloc _)).mono ?_
     rintro e w5 ⟨rfl, f5, k5⟩
     generalize e5 : qToRodS r4.2 r4.1 = r5 at f5 ⊢
     have E5 : Hid _ := e5
     clear e5
     have K5 : Kept b w w5 := Kept.trans (K4.al _) k5
     have B0_5 := (B0_4.alloc _).kept k5 (zG y1_BF)
     have B1_5 := (B1_4.alloc _).kept k5 (zG y2_BF)
     have B3_5 := (B3_4.alloc _).kept k5 (zG y4_BF)
     have B4_5 := (B4_4.alloc _).kept k5 (zG y5_BF)
     have B7_5 := (B7_4.alloc _).kept k5 (zG y22_BF)
     have B8_5 := (Arr_at _ w4.heap.size [.int .i64 0, .int .i64 0, .int .i64 0] _ (by simp)).kept k5 (zG y24_BF)
     have z5 := B8_5.lies
     clear zH
     refine hK.out _ _ ⟨B1_5, B0_5⟩ (fun zH => ?_)
     clear hK K K4 f4 B0_4 B1_4 B3_4 B4_4 B7_4 k5
     refine zK 10 (by kernel_rfl) rfl (fun K hK => ?_)
     have c6_B8_0 : w5.cell? ⟨w4.heap.size, 0, none⟩ = some (.int .i64 0) := B8_5.c 0 (zD rfl)
     have c6_B8_1 : w5.cell? ⟨w4.heap.size, 1, none⟩ = some (.int .i64 0) := B8_5.c 1 (zD rfl)
     have c6_B8_2 : w5.cell? ⟨w4.heap.size, 2, none⟩ = some (.int .i64 0) := B8_5.c 2 (zD rfl)
     have g6_B8_0 := B8_5.f 0 (zD rfl)
     have g6_B8_1 := B8_5.f 1 (zD rfl)
     have g6_B8_2 := B8_5.f 2 (zD rfl)
     go_simp
     clear zH
     refine hK.out _ _ ⟨(((B1_5.new w4.heap.size 0 (zL y24_B1) (.int .i64 r5.1.1)).new w4.heap.size 1 (zL y24_B1) (.int .i64 r5.1.2.1)).new w4.heap.size 2 (zL y24_B1) (.int .i64 r5.1.2.2)), (((B0_5.new w4.heap.size 0 (zL y24_B0) (.int .i64 r5.1.1)).new w4.heap.size 1 (zL y24_B0) (.int .i64 r5.1.2.1)).new w4.heap.size 2 (zL y24_B0) (.int .i64 r5.1.2.2))⟩ (fun zH => ?_)
     clear hK K c6_B8_0 c6_B8_1 c6_B8_2 g6_B8_0 g6_B8_1 g6_B8_2
     refine wpAnyH_done (by kernel_rfl) ?_ _
     clear zH
     refine put_cont hKK3 ?_
     exact cont3 _ _ _ _ _ _ _ _ _ _ _ _ _ _ _ _ _ _ _ _ _ _ _ _ _ _ _ _ w4.heap.size r3 r4 r5 E3 E4 E5 (((K5.new _ _ (by omega) _).new _ _ (by omega) _).new _ _ (by omega) _) (((f5.new w4.heap.size 0 (zL y24_BF) (.int .i64 r5.1.1)).new w4.heap.size 1 (zL y24_BF) (.int .i64 r5.1.2.1)).new w4.heap.size 2 (zL y24_BF) (.int .i64 r5.1.2.2)) (((B0_5.new w4.heap.size 0 (zL y24_B0) (.int .i64 r5.1.1)).new w4.heap.size 1 (zL y24_B0) (.int .i64 r5.1.2.1)).new w4.heap.size 2 (zL y24_B0) (.int .i64 r5.1.2.2)) (((B1_5.new w4.heap.size 0 (zL y24_B1) (.int .i64 r5.1.1)).new w4.heap.size 1 (zL y24_B1) (.int .i64 r5.1.2.1)).new w4.heap.size 2 (zL y24_B1) (.int .i64 r5.1.2.2)) (((B3_5.new w4.heap.size 0 (zL y24_B3) (.int .i64 r5.1.1)).new w4.heap.size 1 (zL y24_B3) (.int .i64 r5.1.2.1)).new w4.heap.size 2 (zL y24_B3) (.int .i64 r5.1.2.2)) (((B4_5.new w4.heap.size 0 (zL y24_B4) (.int .i64 r5.1.1)).new w4.heap.size 1 (zL y24_B4) (.int .i64 r5.1.2.1)).new w4.heap.size 2 (zL y24_B4) (.int .i64 r5.1.2.2)) (((B7_5.new w4.heap.size 0 (zL y24_B7) (.int .i64 r5.1.1)).new w4.heap.size 1 (zL y24_B7) (.int .i64 r5.1.2.1)).new w4.heap.size 2 (zL y24_B7) (.int .i64 r5.1.2.2)) (((B8_5.put 0 (zD rfl) (.int .i64 r5.1.1) [.int .i64 r5.1.1, .int .i64 0, .int .i64 0] rfl).put 1 (zD rfl) (.int .i64 r5.1.2.1) [.int .i64 r5.1.1, .int .i64 r5.1.2.1, .int .i64 0] rfl).put 2 (zD rfl) (.int .i64 r5.1.2.2) [.int .i64 r5.1.1, .int .i64 r5.1.2.1, .int .i64 r5.1.2.2] rfl) (by omega) y24_BF y24_B0 y24_B1 y24_B3 y24_B4 y24_B7
   ·have y25_BF := BF_3.lies
    have y25_B0 := B0_3.lies
    have y25_B1 := B1_3.lies
    have y25_B3 := B3_3.lies
    have y25_B4 := B4_3.lies
    have y25_B7 := B7_3.lies
    go_simp
    clear zH
    refine hK.out _ _ ⟨(B1_3.alloc _), (B0_3.alloc _)⟩ (fun zH => ?_)
    clear hK K
    refine zK 7 (by kernel_rfl) rfl (fun K hK => ?_)
    go_simp
    refine (qMul_any b s0.2 ((y (k * 4)), (y (k * 4 + 1)), (y (k * 4 + 2)), (y (k * 4 + 3))) r3 _ (BF_3.alloc _)).mono ?_
    rintro e w4 ⟨rfl, f4, k4⟩
    generalize e4 : qMulS s0.2 ((y (k * 4)), (y (k * 4 + 1)), (y (k * 4 + 2)), (y (k * 4 + 3))) r3 = r4 at f4 ⊢
    have E4 : Hid _ := e4
    clear e4
    have K4 : Kept b w w4 := Kept.trans (K3.al _) k4
    have B0_4 := (B0_3.alloc _).kept k4 (zG y1_BF)
    have B1_4 := (B1_3.alloc _).kept k4 (zG y2_BF)
    have B3_4 := (B3_3.alloc _).kept k4 (zG y4_BF)
    have B4_4 := (B4_3.alloc _).kept k4 (zG y5_BF)
    have B7_4 := (B7_3.alloc _).kept k4 (zG y22_BF)
    have B8_4 := (Arr_at _ w3.heap.size [.int .i64 0, .int .i64 0, .int .i64 0] _ (by simp)).kept k4 (zG y25_BF)
    have z4 := B8_4.lies
    clear zH
    refine hK.out _ _ ⟨B1_4, B0_4⟩ (fun zH => ?_)
    clear hK K K3 BF_3 B0_3 B1_3 B3_3 B4_3 B7_3 k4
    refine zK 8 (by kernel_rfl) rfl (fun K hK => ?_)
    go_simp
    refine (qToRod_any b r4.2 r4.1 _ f4).mono ?_
    rintro e w5 ⟨rfl, f5, k5⟩
    generalize e5 : qToRodS r4.2 r4.1 = r5 at f5 ⊢
    have E5 : Hid _ := e5
    clear e5
    have K5 := Kept.trans K4 k5
    have B0_5 := B0_4.kept k5 (zG y1_BF)
    have B1_5 := B1_4.kept k5 (zG y2_BF)
    have B3_5 := B3_4.kept k5 (zG y4_BF)
    have B4_5 := B4_4.kept k5 (zG y5_BF)
    have B7_5 := B7_4.kept k5 (zG y22_BF)
    have B8_5 := B8_4.kept k5 (zG y25_BF)
    have z5 := B8_5.lies
    clear zH
    refine hK.out _ _ ⟨B1_5, B0_5⟩ (fun zH => ?_)
    clear hK K K4 f4 B0_4 B1_4 B3_4 B4_4 B7_4 B8_4 k5
    refine zK 10 (by kernel_rfl) rfl (fun K hK => ?_)
    have c6_B8_0 : w5.cell? ⟨w3.heap.size, 0, none⟩ = some (.int .i64 0) := B8_5.c 0 (zD rfl)
    have c6_B8_1 : w5.cell? ⟨w3.heap.size, 1, none⟩ = some (.int .i64 0) := B8_5.c 1 (zD rfl)
    have c6_B8_2 : w5.cell? ⟨w3.heap.size, 2, none⟩ = some (.int .i64 0) := B8_5.c 2 (zD rfl)
    have g6_B8_0 := B8_5.f 0 (zD rfl)
    have g6_B8_1 := B8_5.f 1 (zD rfl)
    have g6_B8_2 := B8_5.f 2 (zD rfl)
    go_simp
    clear zH
    refine hK.out _ _ ⟨(((B1_5.new w3.heap.size 0 (zL y25_B1) (.int .i64 r5.1.1)).new w3.heap.size 1 (zL y25_B1) (.int .i64 r5.1.2.1)).new w3.heap.size 2 (zL y25_B1) (.int .i64 r5.1.2.2)), (((B0_5.new w3.heap.size 0 (zL y25_B0) (.int .i64 r5.1.1)).new w3.heap.size 1 (zL y25_B0) (.int .i64 r5.1.2.1)).new w3.heap.size 2 (zL y25_B0) (.int .i64 r5.1.2.2))⟩ (fun zH => ?_)
    clear hK K c6_B8_0 c6_B8_1 c6_B8_2 g6_B8_0 g6_B8_1 g6_B8_2
    refine wpAnyH_done (by kernel_rfl) ?_ _
    clear zH
    refine put_cont hKK3 ?_
    exact cont3 _ _ _ _ _ _ _ _ _ _ _ _ _ _ _ _ _ _ _ _ _ _ _ _ _ _ _ _ w3.heap.size r3 r4 r5 E3 E4 E5 (((K5.new _ _ (by omega) _).new _ _ (by omega) _).new _ _ (by omega) _) (((f5.new w3.heap.size 0 (zL y25_BF) (.int .i64 r5.1.1)).new w3.heap.size 1 (zL y25_BF) (.int .i64 r5.1.2.1)).new w3.heap.size 2 (zL y25_BF) (.int .i64 r5.1.2.2)) (((B0_5.new w3.heap.size 0 (zL y25_B0) (.int .i64 r5.1.1)).new w3.heap.size 1 (zL y25_B0) (.int .i64 r5.1.2.1)).new w3.heap.size 2 (zL y25_B0) (.int .i64 r5.1.2.2)) (((B1_5.new w3.heap.size 0 (zL y25_B1) (.int .i64 r5.1.1)).new w3.heap.size 1 (zL y25_B1) (.int .i64 r5.1.2.1)).new w3.heap.size 2 (zL y25_B1) (.int .i64 r5.1.2.2)) (((B3_5.new w3.heap.size 0 (zL y25_B3) (.int .i64 r5.1.1)).new w3.heap.size 1 (zL y25_B3) (.int .i64 r5.1.2.1)).new w3.heap.size 2 (zL y25_B3) (.int .i64 r5.1.2.2)) (((B4_5.new w3.heap.size 0 (zL y25_B4) (.int .i64 r5.1.1)).new w3.heap.size 1 (zL y25_B4) (.int .i64 r5.1.2.1)).new w3.heap.size 2 (zL y25_B4) (.int .i64 r5.1.2.2)) (((B7_5.new w3.heap.size 0 (zL y25_B7) (.int .i64 r5.1.1)).new w3.heap.size 1 (zL y25_B7) (.int .i64 r5.1.2.1)).new w3.heap.size 2 (zL y25_B7) (.int .i64 r5.1.2.2)) (((B8_5.put 0 (zD rfl) (.int .i64 r5.1.1) [.int .i64 r5.1.1, .int .i64 0, .int .i64 0] rfl).put 1 (zD rfl) (.int .i64 r5.1.2.1) [.int .i64 r5.1.1, .int .i64 r5.1.2.1, .int .i64 0] rfl).put 2 (zD rfl) (.int .i64 r5.1.2.2) [.int .i64 r5.1.1, .int .i64 r5.1.2.1, .int .i64 r5.1.2.2] rfl) (by omega) y25_BF y25_B0 y25_B1 y25_B3 y25_B4 y25_B7
  ·have y26_BF : b < w2.heap.size + 1 + 1 := (Nat.lt_succ_of_lt (Nat.lt_succ_of_lt BF_2.lies))
   have y26_B0 : w.heap.size < w2.heap.size + 1 + 1 := (Nat.lt_succ_of_lt (Nat.lt_succ_of_lt B0_2.lies))
   have y26_B1 : w.heap.size + 1 < w2.heap.size + 1 + 1 := (Nat.lt_succ_of_lt (Nat.lt_succ_of_lt B1_2.lies))
   have y26_B3 : w.heap.size + 1 + 1 + 1 < w2.heap.size + 1 + 1 := (Nat.lt_succ_of_lt (Nat.lt_succ_of_lt B3_2.lies))
   have y26_B4 : w.heap.size + 1 + 1 + 1 + 1 < w2.heap.size + 1 + 1 := (Nat.lt_succ_of_lt (Nat.lt_succ_of_lt B4_2.lies))
   have y26_B7 : w2.heap.size + 1 < w2.heap.size + 1 + 1 := by omega
   go_simp
   clear zH
   refine hK.out _ _ ⟨(((B1_2.alloc _).alloc _).alloc _).drew, (((B0_2.alloc _).alloc _).alloc _).drew⟩ (fun zH => ?_)
   clear hK K
   refine zK 6 (by kernel_rfl) rfl (fun K hK => ?_)
   go_simp
   refine (qBack_any q _).mono ?_
   rintro e w3 ⟨rfl, k3⟩
   generalize e3 : qBackS q = r3
   have E3 : Hid _ := e3
   clear e3
   have K3 : Kept b w w3 := Kept.trans (((K2.al _).al _).al _).drew (Kept.of_below k3)
   have BF_3 := (((BF_2.alloc _).alloc _).alloc _).drew.below k3
   have B0_3 := (((B0_2.alloc _).alloc _).alloc _).drew.below k3
   have B1_3 := (((B1_2.alloc _).alloc _).alloc _).drew.below k3
   have B3_3 := (((B3_2.alloc _).alloc _).alloc _).drew.below k3
   have B4_3 := (((B4_2.alloc _).alloc _).alloc _).drew.below k3
   have B7_3 := ((Arr_at _ (w2.heap.size + 1) [.int .i64 r2.2.1, .int .i64 r2.2.2.1, .int .i64 r2.2.2.2] _ (by simp)).alloc _).drew.below k3
   have B8_3 := (Arr_at _ (w2.heap.size + 1 + 1) [.int .i64 0, .int .i64 0, .int .i64 0] _ (by simp)).drew.below k3
   have z3 := B8_3.lies
   clear zH
   refine hK.out _ _ ⟨B1_3, B0_3⟩ (fun zH => ?_)
   clear hK K K2 BF_2 B0_2 B1_2 B3_2 B4_2 k3
   refine zK 7 (by kernel_rfl) rfl (fun K hK => ?_)
   go_simp
   refine (qMul_any b s0.2 ((y (k * 4)), (y (k * 4 + 1)), (y (k * 4 + 2)), (y (k * 4 + 3))) r3 _ BF_3).mono ?_
   rintro e w4 ⟨rfl, f4, k4⟩
   generalize e4 : qMulS s0.2 ((y (k * 4)), (y (k * 4 + 1)), (y (k * 4 + 2)), (y (k * 4 + 3))) r3 = r4 at f4 ⊢
   have E4 : Hid _ := e4
   clear e4
   have K4 := Kept.trans K3 k4
   have B0_4 := B0_3.kept k4 (zG y1_BF)
   have B1_4 := B1_3.kept k4 (zG y2_BF)
   have B3_4 := B3_3.kept k4 (zG y4_BF)
   have B4_4 := B4_3.kept k4 (zG y5_BF)
   have B7_4 := B7_3.kept k4 (zG y22_BF)
   have B8_4 := B8_3.kept k4 (zG y26_BF)
   have z4 := B8_4.lies
   clear zH
   refine hK.out _ _ ⟨B1_4, B0_4⟩ (fun zH => ?_)
   clear hK K K3 BF_3 B0_3 B1_3 B3_3 B4_3 B7_3 B8_3 k4
   refine zK 8 (by kernel_rfl) rfl (fun K hK => ?_)
   go_simp
   refine (qToRod_any b r4.2 r4.1 _ f4).mono ?_
   rintro e w5 ⟨rfl, f5, k5⟩
   generalize e5 : qToRodS r4.2 r4.1 = r5 at f5 ⊢
   have E5 : Hid _ := e5
   clear e5
   have K5 := Kept.trans K4 k5
   have B0_5 := B0_4.kept k5 (zG y1_BF)
   have B1_5 := B1_4.kept k5 (zG y2_BF)
   have B3_5 := B3_4.kept k5 (zG y4_BF)
   have B4_5 := B4_4.kept k5 (zG y5_BF)
   have B7_5 := B7_4.kept k5 (zG y22_BF)
   have B8_5 := B8_4.kept k5 (zG y26_BF)
   have z5 := B8_5.lies
   clear zH
   refine hK.out _ _ ⟨B1_5, B0_5⟩ (fun zH => ?_)
   clear hK K K4 f4 B0_4 B1_4 B3_4 B4_4 B7_4 B8_4 k5
   refine zK 10 (by kernel_rfl) rfl (fun K hK => ?_)
   have c6_B8_0 : w5.cell? ⟨w2.heap.size + 1 + 1, 0, none⟩ = some (.int .i64 0) := B8_5.c 0 (zD rfl)
   have c6_B8_1 : w5.cell? ⟨w2.heap.size + 1 + 1, 1, none⟩ = some (.int .i64 0) := B8_5.c 1 (zD rfl)
   have c6_B8_2 : w5.cell? ⟨w2.heap.size + 1 + 1, 2, none⟩ = some (.int .i64 0) := B8_5.c 2 (zD rfl)
   have g6_B8_0 := B8_5.f 0 (zD rfl)
   have g6_B8_1 := B8_5.f 1 (zD rfl)
   have g6_B8_2 := B8_5.f 2 (zD rfl)
   go_simp
   clear zH
   refine hK.out _ _ ⟨(((B1_5.new (w2.heap.size + 1 + 1) 0 (zL y26_B1) (.int .i64 r5.1.1)).new (w2.heap.size + 1 + 1) 1 (zL y26_B1) (.int .i64 r5.1.2.1)).new (w2.heap.size + 1 + 1) 2 (zL y26_B1) (.int .i64 r5.1.2.2)), (((B0_5.new (w2.heap.size + 1 + 1) 0 (zL y26_B0) (.int .i64 r5.1.1)).new (w2.heap.size + 1 + 1) 1 (zL y26_B0) (.int .i64 r5.1.2.1)).new (w2.heap.size + 1 + 1) 2 (zL y26_B0) (.int .i64 r5.1.2.2))⟩ (fun zH => ?_)
   clear hK K c6_B8_0 c6_B8_1 c6_B8_2 g6_B8_0 g6_B8_1 g6_B8_2
   refine wpAnyH_done (by kernel_rfl) ?_ _
   clear zH
   refine put_cont hKK3 ?_
   exact cont3 _ _ _ _ _ _ _ _ _ _ _ _ _ _ _ _ _ _ _ _ _ _ _ _ _ _ _ _ (w2.heap.size + 1 + 1) r3 r4 r5 E3 E4 E5 (((K5.new _ _ (by omega) _).new _ _ (by omega) _).new _ _ (by omega) _) (((f5.new (w2.heap.size + 1 + 1) 0 (zL y26_BF) (.int .i64 r5.1.1)).new (w2.heap.size + 1 + 1) 1 (zL y26_BF) (.int .i64 r5.1.2.1)).new (w2.heap.size + 1 + 1) 2 (zL y26_BF) (.int .i64 r5.1.2.2)) (((B0_5.new (w2.heap.size + 1 + 1) 0 (zL y26_B0) (.int .i64 r5.1.1)).new (w2.heap.size + 1 + 1) 1 (zL y26_B0) (.int .i64 r5.1.2.1)).new (w2.heap.size + 1 + 1) 2 (zL y26_B0) (.int .i64 r5.1.2.2)) (((B1_5.new (w2.heap.size + 1 + 1) 0 (zL y26_B1) (.int .i64 r5.1.1)).new (w2.heap.size + 1 + 1) 1 (zL y26_B1) (.int .i64 r5.1.2.1)).new (w2.heap.size + 1 + 1) 2 (zL y26_B1) (.int .i64 r5.1.2.2)) (((B3_5.new (w2.heap.size + 1 + 1) 0 (zL y26_B3) (.int .i64 r5.1.1)).new (w2.heap.size + 1 + 1) 1 (zL y26_B3) (.int .i64 r5.1.2.1)).new (w2.heap.size + 1 + 1) 2 (zL y26_B3) (.int .i64 r5.1.2.2)) (((B4_5.new (w2.heap.size + 1 + 1) 0 (zL y26_B4) (.int .i64 r5.1.1)).new (w2.heap.size + 1 + 1) 1 (zL y26_B4) (.int .i64 r5.1.2.1)).new (w2.heap.size + 1 + 1) 2 (zL y26_B4) (.int .i64 r5.1.2.2)) (((B7_5.new (w2.heap.size + 1 + 1) 0 (zL y26_B7) (.int .i64 r5.1.1)).new (w2.heap.size + 1 + 1) 1 (zL y26_B7) (.int .i64 r5.1.2.1)).new (w2.heap.size + 1 + 1) 2 (zL y26_B7) (.int .i64 r5.1.2.2)) (((B8_5.put 0 (zD rfl) (.int .i64 r5.1.1) [.int .i64 r5.1.1, .int .i64 0, .int .i64 0] rfl).put 1 (zD rfl) (.int .i64 r5.1.2.1) [.int .i64 r5.1.1, .int .i64 r5.1.2.1, .int .i64 0] rfl).put 2 (zD rfl) (.int .i64 r5.1.2.2) [.int .i64 r5.1.1, .int .i64 r5.1.2.1, .int .i64 r5.1.2.2] rfl) (by omega) y26_BF y26_B0 y26_B1 y26_B3 y26_B4 y26_B7
 ·intro a Wl0 hI R
  rw [hJ0.out] at hI
  refine hI _ ?_
  clear hI hJ0
  intro r3 A0 C0 D0 E3 ea Kl0 BF_l0 B0_l0 B1_l0 B3_l0 B4_l0
  subst ea
  have zl0_BF := BF_l0.lies
  have zl0_B0 := B0_l0.lies
  have zl0_B1 := B1_l0.lies
  have zl0_B3 := B3_l0.lies
  have zl0_B4 := B4_l0.lies
  go_wp2_with (first | (refine row_load (ty := 61) rfl rfl rfl B4_l0 (by kernel_rfl) (by rw [row_len]; kernel_rfl) ?_) | (refine store_stop rfl (by kernel_rfl) ?_))
  refine Stop.mk (store_row (l' := row 78 r3.1) rfl rfl rfl rfl B3_l0 (by simp only [row_len]) (by rw [row_len]; kernel_rfl) (row_one _ _) ?_)
  intro w4 B3_4 o4
  have K4 : Kept b w w4 := Kept.off Kl0 o4 (by omega)
  have BF_4 := BF_l0.off o4 (zL y4_BF)
  have B4_4 := B4_l0.off o4 (zG y5_B3)
  have z4_B3 := B3_4.lies
  have z4_BF := BF_4.lies
  have z4_B4 := B4_4.lies
  clear B3_l0 BF_l0 B4_l0 o4
  go_wp2_with (with_reducible refine post_stop ?_)
  refine Stop.mk ?_
  refine bodyPost_ret (v := .agg (row 78 r3.1).toArray) (results_arr Try.results48 B3_4 rfl (by kernel_rfl) (by rw [row_len]; kernel_rfl)) rfl ?_
  have hs : haroundS bad q y x = (r3.1, r3.2) := by unfold haroundS; simp only [E3.out]
  rw [hs]
  exact ⟨rfl, BF_4, K4⟩
end Go.Proofs.Ytooehgijllihdaa
