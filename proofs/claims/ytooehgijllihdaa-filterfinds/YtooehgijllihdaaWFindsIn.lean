/- A part. -/
import Derived.Test.YtooehgijllihdaaFAwake
import Derived.Test.YtooehgijllihdaaFCMeet
import Derived.Test.YtooehgijllihdaaJH
import Derived.Test.YtooehgijllihdaaWFindsOut
import Derived.Handy
import Derived.Deep.RegionHeld3
namespace Go.Proofs.Ytooehgijllihdaa
open Go.RowKit
set_option maxRecDepth 100000
set_option maxHeartbeats 20000000
theorem finds_in (q : V4) (o : V3) (w : World) (a : V4) (b d : V3) (f c k : V4) (g0 g1 g2 g3 g4 : Nat → Int) (x1 x2 x3 x4 : Int) (z : V4) (r : V3) (hU : qUnitS false q = (a, false)) (hT : qTurnS false a (1099511627776, 0, 0) = (b, false)) (hV : qTurnS false a (0, 1099511627776, 0) = (d, false)) (hF : qFromRodS false o = (f, false)) (hM : qMulS false f a = (c, false)) (hQ : qUnitS false c = (k, false)) (hS : hStartP k = g0) (hm0 : hMeetS false g0 (fun i_ => if i_ = 0 then 1099511627776 else if i_ = 4 then 1099511627776 else 0) (fun i_ => if i_ = 0 then b.1 else if i_ = 1 then b.2.1 else if i_ = 2 then b.2.2 else if i_ = 3 then d.1 else if i_ = 4 then d.2.1 else d.2.2) = ((g1, x1, true), false)) (hm1 : hMeetS false g1 (fun i_ => if i_ = 0 then 1099511627776 else if i_ = 4 then 1099511627776 else 0) (fun i_ => if i_ = 0 then b.1 else if i_ = 1 then b.2.1 else if i_ = 2 then b.2.2 else if i_ = 3 then d.1 else if i_ = 4 then d.2.1 else d.2.2) = ((g2, x2, true), false)) (hm2 : hMeetS false g2 (fun i_ => if i_ = 0 then 1099511627776 else if i_ = 4 then 1099511627776 else 0) (fun i_ => if i_ = 0 then b.1 else if i_ = 1 then b.2.1 else if i_ = 2 then b.2.2 else if i_ = 3 then d.1 else if i_ = 4 then d.2.1 else d.2.2) = ((g3, x3, true), false)) (hm3 : hMeetS false g3 (fun i_ => if i_ = 0 then 1099511627776 else if i_ = 4 then 1099511627776 else 0) (fun i_ => if i_ = 0 then b.1 else if i_ = 1 then b.2.1 else if i_ = 2 then b.2.2 else if i_ = 3 then d.1 else if i_ = 4 then d.2.1 else d.2.2) = ((g4, x4, true), false)) (y : V4) (hB : qBackS a = y) (hz : qMulS false ((g4 0), (g4 1), (g4 2), (g4 3)) y = (z, false)) (hr : qToRodS false z = (r, false)) (l0 : -54975581388 ≤ o.1) (u0 : o.1 ≤ 54975581388) (l1 : -54975581388 ≤ o.2.1) (u1 : o.2.1 ≤ 54975581388) (l2 : -54975581388 ≤ o.2.2) (u2 : o.2.2 ≤ 54975581388) (s0 : -17179869184 ≤ r.1) (t0 : r.1 ≤ 17179869184) (s1 : -17179869184 ≤ r.2.1) (t1 : r.2.1 ≤ 17179869184) (s2 : -17179869184 ≤ r.2.2) (t2 : r.2.2 ≤ 17179869184) (hg : g4 7 < 1073741824) :
  Calls Try.prog 3 #[.agg #[.int .i64 q.1, .int .i64 q.2.1, .int .i64 q.2.2.1, .int .i64 q.2.2.2], .agg #[.int .i64 o.1, .int .i64 o.2.1, .int .i64 o.2.2]] w fun e w' => e = .returned (.bool true) ∧ Below w.heap.size w w' := by
 go_enter Try.func3, Try.ntmps3
 have y1_low : w.heap.size ≤ w.heap.size := (Below.refl w.heap.size w).size
 have y2_B0 : w.heap.size < w.heap.size + 1 := by omega
 have y2_low : w.heap.size ≤ w.heap.size + 1 := (Nat.le_succ_of_le (Below.refl w.heap.size w).size)
 go_wp2_with fail
 refine (awake_any  _).mono ?_
 rintro e w1 ⟨rfl, k1⟩
 try dsimp only
 have K1 : Below w.heap.size w w1 := bel_then (bel_al (bel_al (Below.refl w.heap.size w) _) _) k1
 have B0_1 := ((Arr_at _ w.heap.size [.int .i64 q.1, .int .i64 q.2.1, .int .i64 q.2.2.1, .int .i64 q.2.2.2] _ (by simp)).alloc _).below k1
 have B1_1 := (Arr_at _ (w.heap.size + 1) [.int .i64 o.1, .int .i64 o.2.1, .int .i64 o.2.2] _ (by simp)).below k1
 have z1 := B1_1.lies
 clear k1
 have y3_B0 := B0_1.lies
 have y3_B1 := B1_1.lies
 have y3_low : w.heap.size ≤ w1.heap.size := K1.size
 have c2_B0_0 : w1.cell? ⟨w.heap.size, 0, none⟩ = some (.int .i64 q.1) := B0_1.c 0 (zD rfl)
 have c2_B0_1 : w1.cell? ⟨w.heap.size, 1, none⟩ = some (.int .i64 q.2.1) := B0_1.c 1 (zD rfl)
 have c2_B0_2 : w1.cell? ⟨w.heap.size, 2, none⟩ = some (.int .i64 q.2.2.1) := B0_1.c 2 (zD rfl)
 have c2_B0_3 : w1.cell? ⟨w.heap.size, 3, none⟩ = some (.int .i64 q.2.2.2) := B0_1.c 3 (zD rfl)
 have l2_B0 := B0_1.lies
 go_wp2_with fail
 refine (qUnit_any w1.heap.size false q _ (Fl_at _ _ _ _ (by simp))).mono ?_
 rintro e w2 ⟨rfl, f2, k2⟩
 rw [hU] at f2 ⊢
 dsimp only at f2 ⊢
 try dsimp only
 have K2 : Below w.heap.size w w2 := k2.on (bel_al K1 _) (by omega)
 have B0_2 := (B0_1.alloc _).kept k2 (zL y3_B0)
 have B1_2 := (B1_1.alloc _).kept k2 (zL y3_B1)
 have z2 := f2.lies
 clear c2_B0_0 c2_B0_1 c2_B0_2 c2_B0_3 l2_B0 K1 B0_1 B1_1 k2
 have y4_B0 := B0_2.lies
 have y4_B1 := B1_2.lies
 have y4_B2 := f2.lies
 have y4_low : w.heap.size ≤ w2.heap.size := K2.size
 have c3_B1_0 : w2.cell? ⟨w.heap.size + 1, 0, none⟩ = some (.int .i64 o.1) := B1_2.c 0 (zD rfl)
 have c3_B1_1 : w2.cell? ⟨w.heap.size + 1, 1, none⟩ = some (.int .i64 o.2.1) := B1_2.c 1 (zD rfl)
 have c3_B1_2 : w2.cell? ⟨w.heap.size + 1, 2, none⟩ = some (.int .i64 o.2.2) := B1_2.c 2 (zD rfl)
 have c3_B2 := f2.cell
 have l3_B1 := B1_2.lies
 have l3_B2 := f2.lies
 go_wp2_with fail
 clear c3_B1_0 c3_B1_1 c3_B1_2 c3_B2 l3_B1 l3_B2
 refine wp_loop_rounds 4 ?_
 rw [rounds_succ]
 go_wp2_with fail
 rw [rounds_succ]
 go_wp2_with fail
 rw [rounds_succ]
 go_wp2_with fail
 rw [rounds_succ]
 have y5_B0 : w.heap.size < w2.heap.size + 1 := (Nat.lt_succ_of_lt B0_2.lies)
 have y5_B1 : w.heap.size + 1 < w2.heap.size + 1 := (Nat.lt_succ_of_lt B1_2.lies)
 have y5_B2 : w1.heap.size < w2.heap.size + 1 := (Nat.lt_succ_of_lt f2.lies)
 have y5_B3 : w2.heap.size < w2.heap.size + 1 := by omega
 have y5_low : w.heap.size ≤ w2.heap.size + 1 := (Nat.le_succ_of_le K2.size)
 go_wp2_with fail
 refine get_cont (fun KK1 hKK1 => ?_)
 have cont1 : ∀ (W1 : World) (t1_18 t1_19 t1_20 t1_21 t1_22 t1_23 t1_24 t1_25 t1_26 t1_27 t1_28 t1_31 t1_32 t1_33 t1_34 t1_35 t1_36 t1_37 t1_38 t1_39 t1_40 t1_41 t1_42 t1_43 t1_44 t1_45 t1_46 t1_47 t1_48 t1_49 t1_50 t1_51 t1_52 t1_53 : Value) (x1_0 : Nat) , Below w.heap.size w W1 → Arr w.heap.size [.int .i64 q.1, .int .i64 q.2.1, .int .i64 q.2.2.1, .int .i64 q.2.2.2] W1 → Arr (w.heap.size + 1) [.int .i64 o.1, .int .i64 o.2.1, .int .i64 o.2.2] W1 → Fl w1.heap.size false W1 → Arr w2.heap.size [.int .i64 a.1, .int .i64 a.2.1, .int .i64 a.2.2.1, .int .i64 a.2.2.2] W1 → Arr (w2.heap.size + 1) [.int .i64 1099511627776, .int .i64 0, .int .i64 0, .int .i64 0, .int .i64 1099511627776, .int .i64 0] W1 → Arr x1_0 [.int .i64 b.1, .int .i64 b.2.1, .int .i64 b.2.2, .int .i64 d.1, .int .i64 d.2.1, .int .i64 d.2.2] W1 → w.heap.size ≤ x1_0 → w.heap.size < x1_0 → w.heap.size + 1 < x1_0 → w1.heap.size < x1_0 → w2.heap.size < x1_0 → w2.heap.size + 1 < x1_0 → KK1 { tmps := #[.agg #[.int .i64 q.1, .int .i64 q.2.1, .int .i64 q.2.2.1, .int .i64 q.2.2.2], .agg #[.int .i64 o.1, .int .i64 o.2.1, .int .i64 o.2.2], .pointer (some ⟨w.heap.size, 0, none⟩), .pointer (some ⟨w.heap.size + 1, 0, none⟩), .bool false, .pointer (some ⟨w1.heap.size, 0, none⟩), .pointer (some ⟨w2.heap.size, 0, none⟩), undef, .int .i64 o.2.2, .pointer (some ⟨w2.heap.size + 1, 0, none⟩), .pointer (some ⟨x1_0, 0, none⟩), undef, undef, undef, undef, undef, undef, undef, t1_18, t1_19, t1_20, t1_21, t1_22, t1_23, t1_24, t1_25, t1_26, t1_27, t1_28, .agg #[.int .i64 o.1, .int .i64 o.2.1, .int .i64 o.2.2], .int .i64 3, t1_31, t1_32, t1_33, t1_34, t1_35, t1_36, t1_37, t1_38, t1_39, t1_40, t1_41, t1_42, t1_43, t1_44, t1_45, t1_46, t1_47, t1_48, t1_49, t1_50, t1_51, t1_52, t1_53, undef, undef, undef, undef, undef, undef, undef, undef, undef, undef, undef, undef, undef, undef, undef, undef, undef, undef, undef, undef, undef, undef, undef, undef, undef, undef, undef, undef, undef, undef, undef, undef, undef, undef, undef, undef, undef, undef, undef, undef, undef, undef, undef, undef, undef, undef, undef, undef, undef, undef, undef, undef, undef, undef, undef], defers := [] } W1 := by
  intro W1 t1_18 t1_19 t1_20 t1_21 t1_22 t1_23 t1_24 t1_25 t1_26 t1_27 t1_28 t1_31 t1_32 t1_33 t1_34 t1_35 t1_36 t1_37 t1_38 t1_39 t1_40 t1_41 t1_42 t1_43 t1_44 t1_45 t1_46 t1_47 t1_48 t1_49 t1_50 t1_51 t1_52 t1_53 x1_0 KC1 B0_c1 B1_c1 B2_c1 B3_c1 B4_c1 B5_c1 s1_0 s1_1 s1_2 s1_3 s1_4 s1_5
  have zc1_B0 := B0_c1.lies
  have zc1_B1 := B1_c1.lies
  have zc1_B2 := B2_c1.lies
  have zc1_B3 := B3_c1.lies
  have zc1_B4 := B4_c1.lies
  have zc1_B5 := B5_c1.lies
  rw [hKK1.out]
  dsimp only [Exit.inBlock, Exit.then]
  first | refine use_cont (by assumption) ?_ | skip
  go_wp2_with fail
  refine get_cont (fun KK2 hKK2 => ?_)
  have cont2 : ∀ (W2 : World) (t2_18 t2_19 t2_20 t2_21 t2_22 t2_23 t2_24 t2_25 t2_26 t2_27 t2_28 t2_31 t2_32 t2_33 t2_34 t2_35 t2_36 t2_37 t2_38 t2_39 t2_40 t2_41 t2_42 t2_43 t2_44 t2_45 t2_46 t2_47 t2_48 t2_49 t2_50 t2_51 t2_52 t2_53 t2_54 t2_55 t2_56 t2_57 t2_58 t2_59 t2_60 t2_61 t2_62 : Value) (x2_0 : Nat) , Below w.heap.size w W2 → Arr w.heap.size [.int .i64 q.1, .int .i64 q.2.1, .int .i64 q.2.2.1, .int .i64 q.2.2.2] W2 → Arr (w.heap.size + 1) [.int .i64 o.1, .int .i64 o.2.1, .int .i64 o.2.2] W2 → Fl w1.heap.size false W2 → Arr w2.heap.size [.int .i64 a.1, .int .i64 a.2.1, .int .i64 a.2.2.1, .int .i64 a.2.2.2] W2 → Arr (w2.heap.size + 1) [.int .i64 1099511627776, .int .i64 0, .int .i64 0, .int .i64 0, .int .i64 1099511627776, .int .i64 0] W2 → Arr x1_0 [.int .i64 b.1, .int .i64 b.2.1, .int .i64 b.2.2, .int .i64 d.1, .int .i64 d.2.1, .int .i64 d.2.2] W2 → Arr x2_0 (row 43 g0) W2 → w.heap.size ≤ x2_0 → w.heap.size < x2_0 → w.heap.size + 1 < x2_0 → w1.heap.size < x2_0 → w2.heap.size < x2_0 → w2.heap.size + 1 < x2_0 → x1_0 < x2_0 → KK2 { tmps := #[.agg #[.int .i64 q.1, .int .i64 q.2.1, .int .i64 q.2.2.1, .int .i64 q.2.2.2], .agg #[.int .i64 o.1, .int .i64 o.2.1, .int .i64 o.2.2], .pointer (some ⟨w.heap.size, 0, none⟩), .pointer (some ⟨w.heap.size + 1, 0, none⟩), .bool false, .pointer (some ⟨w1.heap.size, 0, none⟩), .pointer (some ⟨w2.heap.size, 0, none⟩), undef, .int .i64 o.2.2, .pointer (some ⟨w2.heap.size + 1, 0, none⟩), .pointer (some ⟨x1_0, 0, none⟩), .pointer (some ⟨x2_0, 0, none⟩), undef, undef, undef, undef, undef, undef, t2_18, t2_19, t2_20, t2_21, t2_22, t2_23, t2_24, t2_25, t2_26, t2_27, t2_28, .agg #[.int .i64 o.1, .int .i64 o.2.1, .int .i64 o.2.2], .int .i64 3, t2_31, t2_32, t2_33, t2_34, t2_35, t2_36, t2_37, t2_38, t2_39, t2_40, t2_41, t2_42, t2_43, t2_44, t2_45, t2_46, t2_47, t2_48, t2_49, t2_50, t2_51, t2_52, t2_53, t2_54, t2_55, t2_56, t2_57, t2_58, t2_59, t2_60, t2_61, t2_62, undef, undef, undef, undef, undef, undef, undef, undef, undef, undef, undef, undef, undef, undef, undef, undef, undef, undef, undef, undef, undef, undef, undef, undef, undef, undef, undef, undef, undef, undef, undef, undef, undef, undef, undef, undef, undef, undef, undef, undef, undef, undef, undef, undef, undef, undef], defers := [] } W2 := by
   intro W2 t2_18 t2_19 t2_20 t2_21 t2_22 t2_23 t2_24 t2_25 t2_26 t2_27 t2_28 t2_31 t2_32 t2_33 t2_34 t2_35 t2_36 t2_37 t2_38 t2_39 t2_40 t2_41 t2_42 t2_43 t2_44 t2_45 t2_46 t2_47 t2_48 t2_49 t2_50 t2_51 t2_52 t2_53 t2_54 t2_55 t2_56 t2_57 t2_58 t2_59 t2_60 t2_61 t2_62 x2_0 KC2 B0_c2 B1_c2 B2_c2 B3_c2 B4_c2 B5_c2 B6_c2 s2_0 s2_1 s2_2 s2_3 s2_4 s2_5 s2_6
   have zc2_B0 := B0_c2.lies
   have zc2_B1 := B1_c2.lies
   have zc2_B2 := B2_c2.lies
   have zc2_B3 := B3_c2.lies
   have zc2_B4 := B4_c2.lies
   have zc2_B5 := B5_c2.lies
   have zc2_B6 := B6_c2.lies
   rw [hKK2.out]
   dsimp only [Exit.inBlock, Exit.then]
   first | refine use_cont (by assumption) ?_ | skip
   go_wp2_with fail
   refine wp_loop_rounds 5 ?_
   rw [rounds_succ]
   have c10_B4_0 : W2.cell? ⟨w2.heap.size + 1, 0, none⟩ = some (.int .i64 1099511627776) := B4_c2.c 0 (zD rfl)
   have c10_B4_1 : W2.cell? ⟨w2.heap.size + 1, 1, none⟩ = some (.int .i64 0) := B4_c2.c 1 (zD rfl)
   have c10_B4_2 : W2.cell? ⟨w2.heap.size + 1, 2, none⟩ = some (.int .i64 0) := B4_c2.c 2 (zD rfl)
   have c10_B4_3 : W2.cell? ⟨w2.heap.size + 1, 3, none⟩ = some (.int .i64 0) := B4_c2.c 3 (zD rfl)
   have c10_B4_4 : W2.cell? ⟨w2.heap.size + 1, 4, none⟩ = some (.int .i64 1099511627776) := B4_c2.c 4 (zD rfl)
   have c10_B4_5 : W2.cell? ⟨w2.heap.size + 1, 5, none⟩ = some (.int .i64 0) := B4_c2.c 5 (zD rfl)
   have c10_B5_0 : W2.cell? ⟨x1_0, 0, none⟩ = some (.int .i64 b.1) := B5_c2.c 0 (zD rfl)
   have c10_B5_1 : W2.cell? ⟨x1_0, 1, none⟩ = some (.int .i64 b.2.1) := B5_c2.c 1 (zD rfl)
   have c10_B5_2 : W2.cell? ⟨x1_0, 2, none⟩ = some (.int .i64 b.2.2) := B5_c2.c 2 (zD rfl)
   have c10_B5_3 : W2.cell? ⟨x1_0, 3, none⟩ = some (.int .i64 d.1) := B5_c2.c 3 (zD rfl)
   have c10_B5_4 : W2.cell? ⟨x1_0, 4, none⟩ = some (.int .i64 d.2.1) := B5_c2.c 4 (zD rfl)
   have c10_B5_5 : W2.cell? ⟨x1_0, 5, none⟩ = some (.int .i64 d.2.2) := B5_c2.c 5 (zD rfl)
   go_wp2_with (refine row_load (ty := 38) rfl rfl rfl B6_c2 (by kernel_rfl) (by rw [row_len]; kernel_rfl) ?_)
   refine (hMeet_any w1.heap.size false g0 (fun i_ => if i_ = 0 then 1099511627776 else if i_ = 4 then 1099511627776 else 0) (fun i_ => if i_ = 0 then b.1 else if i_ = 1 then b.2.1 else if i_ = 2 then b.2.2 else if i_ = 3 then d.1 else if i_ = 4 then d.2.1 else d.2.2) _ B2_c2).mono ?_
   rintro e w9 ⟨rfl, f9, k9⟩
   rw [hm0] at f9 ⊢
   dsimp only at f9 ⊢
   try dsimp only
   have K9 : Below w.heap.size w w9 := k9.on KC2 (by omega)
   have B0_9 := B0_c2.kept k9 (zL y3_B0)
   have B1_9 := B1_c2.kept k9 (zL y3_B1)
   have B3_9 := B3_c2.kept k9 (zG y4_B2)
   have B4_9 := B4_c2.kept k9 (zG y5_B2)
   have B5_9 := B5_c2.kept k9 (zG s1_3)
   have B6_9 := B6_c2.kept k9 (zG s2_3)
   have z9 := B6_9.lies
   have z9_B5 := B5_9.lies
   clear c10_B4_0 c10_B4_1 c10_B4_2 c10_B4_3 c10_B4_4 c10_B4_5 c10_B5_0 c10_B5_1 c10_B5_2 c10_B5_3 c10_B5_4 c10_B5_5 B0_c2 B1_c2 B2_c2 B3_c2 B4_c2 B5_c2 B6_c2 k9
   have y10_B0 := B0_9.lies
   have y10_B1 := B1_9.lies
   have y10_B2 := f9.lies
   have y10_B3 := B3_9.lies
   have y10_B4 := B4_9.lies
   have y10_B5 := B5_9.lies
   have y10_B6 := B6_9.lies
   have y10_low : w.heap.size ≤ w9.heap.size := K9.size
   go_wp2_with (refine store_stop rfl (by kernel_rfl) ?_)
   refine Stop.mk (store_row (l' := row 43 g1) rfl rfl rfl rfl (Arr_at _ _ (row 43 (fun _ => 0)) _ (by simp)) (by simp only [row_len]) (by rw [row_len]; kernel_rfl) (row_one _ _) ?_)
   intro w10 B7_10 o10
   have K10 : Below w.heap.size w w10 := bel_off (bel_al K9 _) o10 y10_low
   have B0_10 := (B0_9.alloc _).off o10 (zL y10_B0)
   have B1_10 := (B1_9.alloc _).off o10 (zL y10_B1)
   have B2_10 := (f9.alloc _).off o10 (zL y10_B2)
   have B3_10 := (B3_9.alloc _).off o10 (zL y10_B3)
   have B4_10 := (B4_9.alloc _).off o10 (zL y10_B4)
   have B5_10 := (B5_9.alloc _).off o10 (zL y10_B5)
   have B6_10 := (B6_9.alloc _).off o10 (zL y10_B6)
   have z10_B7 := B7_10.lies
   have z10_B0 := B0_10.lies
   have z10_B1 := B1_10.lies
   have z10_B2 := B2_10.lies
   have z10_B3 := B3_10.lies
   have z10_B4 := B4_10.lies
   have z10_B5 := B5_10.lies
   have z10_B6 := B6_10.lies
   clear K9 B0_9 B1_9 f9 B3_9 B4_9 B5_9 B6_9 o10
   go_wp2_with (first | (refine row_load (ty := 38) rfl rfl rfl B7_10 (by kernel_rfl) (by rw [row_len]; kernel_rfl) ?_) | (refine store_stop rfl (by kernel_rfl) ?_))
   refine Stop.mk (store_row (l' := row 43 g1) rfl rfl rfl rfl B6_10 (by simp only [row_len]) (by rw [row_len]; kernel_rfl) (row_one _ _) ?_)
   intro w11 B6_11 o11
   have K11 : Below w.heap.size w w11 := bel_off K10 o11 s2_0
   have B0_11 := B0_10.off o11 (zL s2_1)
   have B1_11 := B1_10.off o11 (zL s2_2)
   have B2_11 := B2_10.off o11 (zL s2_3)
   have B3_11 := B3_10.off o11 (zL s2_4)
   have B4_11 := B4_10.off o11 (zL s2_5)
   have B5_11 := B5_10.off o11 (zL s2_6)
   have B7_11 := B7_10.off o11 (zG y10_B6)
   have z11_B6 := B6_11.lies
   have z11_B0 := B0_11.lies
   have z11_B1 := B1_11.lies
   have z11_B2 := B2_11.lies
   have z11_B3 := B3_11.lies
   have z11_B4 := B4_11.lies
   have z11_B5 := B5_11.lies
   have z11_B7 := B7_11.lies
   clear K10 B6_10 B0_10 B1_10 B2_10 B3_10 B4_10 B5_10 B7_10 o11
   go_wp2_with fail
   rw [rounds_succ]
   have c14_B4_0 : w11.cell? ⟨w2.heap.size + 1, 0, none⟩ = some (.int .i64 1099511627776) := B4_11.c 0 (zD rfl)
   have c14_B4_1 : w11.cell? ⟨w2.heap.size + 1, 1, none⟩ = some (.int .i64 0) := B4_11.c 1 (zD rfl)
   have c14_B4_2 : w11.cell? ⟨w2.heap.size + 1, 2, none⟩ = some (.int .i64 0) := B4_11.c 2 (zD rfl)
   have c14_B4_3 : w11.cell? ⟨w2.heap.size + 1, 3, none⟩ = some (.int .i64 0) := B4_11.c 3 (zD rfl)
   have c14_B4_4 : w11.cell? ⟨w2.heap.size + 1, 4, none⟩ = some (.int .i64 1099511627776) := B4_11.c 4 (zD rfl)
   have c14_B4_5 : w11.cell? ⟨w2.heap.size + 1, 5, none⟩ = some (.int .i64 0) := B4_11.c 5 (zD rfl)
   have c14_B5_0 : w11.cell? ⟨x1_0, 0, none⟩ = some (.int .i64 b.1) := B5_11.c 0 (zD rfl)
   have c14_B5_1 : w11.cell? ⟨x1_0, 1, none⟩ = some (.int .i64 b.2.1) := B5_11.c 1 (zD rfl)
   have c14_B5_2 : w11.cell? ⟨x1_0, 2, none⟩ = some (.int .i64 b.2.2) := B5_11.c 2 (zD rfl)
   have c14_B5_3 : w11.cell? ⟨x1_0, 3, none⟩ = some (.int .i64 d.1) := B5_11.c 3 (zD rfl)
   have c14_B5_4 : w11.cell? ⟨x1_0, 4, none⟩ = some (.int .i64 d.2.1) := B5_11.c 4 (zD rfl)
   have c14_B5_5 : w11.cell? ⟨x1_0, 5, none⟩ = some (.int .i64 d.2.2) := B5_11.c 5 (zD rfl)
   go_wp2_with (refine row_load (ty := 38) rfl rfl rfl B6_11 (by kernel_rfl) (by rw [row_len]; kernel_rfl) ?_)
   refine (hMeet_any w1.heap.size false g1 (fun i_ => if i_ = 0 then 1099511627776 else if i_ = 4 then 1099511627776 else 0) (fun i_ => if i_ = 0 then b.1 else if i_ = 1 then b.2.1 else if i_ = 2 then b.2.2 else if i_ = 3 then d.1 else if i_ = 4 then d.2.1 else d.2.2) _ B2_11).mono ?_
   rintro e w12 ⟨rfl, f12, k12⟩
   rw [hm1] at f12 ⊢
   dsimp only at f12 ⊢
   try dsimp only
   have K12 : Below w.heap.size w w12 := k12.on K11 (by omega)
   have B0_12 := B0_11.kept k12 (zL y3_B0)
   have B1_12 := B1_11.kept k12 (zL y3_B1)
   have B3_12 := B3_11.kept k12 (zG y4_B2)
   have B4_12 := B4_11.kept k12 (zG y5_B2)
   have B5_12 := B5_11.kept k12 (zG s1_3)
   have B6_12 := B6_11.kept k12 (zG s2_3)
   have B7_12 := B7_11.kept k12 (zG y10_B2)
   have z12 := B7_12.lies
   have z12_B5 := B5_12.lies
   have z12_B6 := B6_12.lies
   clear c14_B4_0 c14_B4_1 c14_B4_2 c14_B4_3 c14_B4_4 c14_B4_5 c14_B5_0 c14_B5_1 c14_B5_2 c14_B5_3 c14_B5_4 c14_B5_5 K11 B0_11 B1_11 B2_11 B3_11 B4_11 B5_11 B6_11 B7_11 k12
   have y11_B0 := B0_12.lies
   have y11_B1 := B1_12.lies
   have y11_B2 := f12.lies
   have y11_B3 := B3_12.lies
   have y11_B4 := B4_12.lies
   have y11_B5 := B5_12.lies
   have y11_B6 := B6_12.lies
   have y11_B7 := B7_12.lies
   have y11_low : w.heap.size ≤ w12.heap.size := K12.size
   go_wp2_with (refine store_stop rfl (by kernel_rfl) ?_)
   refine Stop.mk (store_row (l' := row 43 g2) rfl rfl rfl rfl (Arr_at _ _ (row 43 (fun _ => 0)) _ (by simp)) (by simp only [row_len]) (by rw [row_len]; kernel_rfl) (row_one _ _) ?_)
   intro w13 B8_13 o13
   have K13 : Below w.heap.size w w13 := bel_off (bel_al K12 _) o13 y11_low
   have B0_13 := (B0_12.alloc _).off o13 (zL y11_B0)
   have B1_13 := (B1_12.alloc _).off o13 (zL y11_B1)
   have B2_13 := (f12.alloc _).off o13 (zL y11_B2)
   have B3_13 := (B3_12.alloc _).off o13 (zL y11_B3)
   have B4_13 := (B4_12.alloc _).off o13 (zL y11_B4)
   have B5_13 := (B5_12.alloc _).off o13 (zL y11_B5)
   have B6_13 := (B6_12.alloc _).off o13 (zL y11_B6)
   have B7_13 := (B7_12.alloc _).off o13 (zL y11_B7)
   have z13_B8 := B8_13.lies
   have z13_B0 := B0_13.lies
   have z13_B1 := B1_13.lies
   have z13_B2 := B2_13.lies
   have z13_B3 := B3_13.lies
   have z13_B4 := B4_13.lies
   have z13_B5 := B5_13.lies
   have z13_B6 := B6_13.lies
   have z13_B7 := B7_13.lies
   clear K12 B0_12 B1_12 f12 B3_12 B4_12 B5_12 B6_12 B7_12 o13
   go_wp2_with (first | (refine row_load (ty := 38) rfl rfl rfl B8_13 (by kernel_rfl) (by rw [row_len]; kernel_rfl) ?_) | (refine store_stop rfl (by kernel_rfl) ?_))
   refine Stop.mk (store_row (l' := row 43 g2) rfl rfl rfl rfl B6_13 (by simp only [row_len]) (by rw [row_len]; kernel_rfl) (row_one _ _) ?_)
   intro w14 B6_14 o14
   have K14 : Below w.heap.size w w14 := bel_off K13 o14 s2_0
   have B0_14 := B0_13.off o14 (zL s2_1)
   have B1_14 := B1_13.off o14 (zL s2_2)
   have B2_14 := B2_13.off o14 (zL s2_3)
   have B3_14 := B3_13.off o14 (zL s2_4)
   have B4_14 := B4_13.off o14 (zL s2_5)
   have B5_14 := B5_13.off o14 (zL s2_6)
   have B7_14 := B7_13.off o14 (zG y10_B6)
   have B8_14 := B8_13.off o14 (zG y11_B6)
   have z14_B6 := B6_14.lies
   have z14_B0 := B0_14.lies
   have z14_B1 := B1_14.lies
   have z14_B2 := B2_14.lies
   have z14_B3 := B3_14.lies
   have z14_B4 := B4_14.lies
   have z14_B5 := B5_14.lies
   have z14_B7 := B7_14.lies
   have z14_B8 := B8_14.lies
   clear K13 B6_13 B0_13 B1_13 B2_13 B3_13 B4_13 B5_13 B7_13 B8_13 o14
   go_wp2_with fail
   rw [rounds_succ]
   have c18_B4_0 : w14.cell? ⟨w2.heap.size + 1, 0, none⟩ = some (.int .i64 1099511627776) := B4_14.c 0 (zD rfl)
   have c18_B4_1 : w14.cell? ⟨w2.heap.size + 1, 1, none⟩ = some (.int .i64 0) := B4_14.c 1 (zD rfl)
   have c18_B4_2 : w14.cell? ⟨w2.heap.size + 1, 2, none⟩ = some (.int .i64 0) := B4_14.c 2 (zD rfl)
   have c18_B4_3 : w14.cell? ⟨w2.heap.size + 1, 3, none⟩ = some (.int .i64 0) := B4_14.c 3 (zD rfl)
   have c18_B4_4 : w14.cell? ⟨w2.heap.size + 1, 4, none⟩ = some (.int .i64 1099511627776) := B4_14.c 4 (zD rfl)
   have c18_B4_5 : w14.cell? ⟨w2.heap.size + 1, 5, none⟩ = some (.int .i64 0) := B4_14.c 5 (zD rfl)
   have c18_B5_0 : w14.cell? ⟨x1_0, 0, none⟩ = some (.int .i64 b.1) := B5_14.c 0 (zD rfl)
   have c18_B5_1 : w14.cell? ⟨x1_0, 1, none⟩ = some (.int .i64 b.2.1) := B5_14.c 1 (zD rfl)
   have c18_B5_2 : w14.cell? ⟨x1_0, 2, none⟩ = some (.int .i64 b.2.2) := B5_14.c 2 (zD rfl)
   have c18_B5_3 : w14.cell? ⟨x1_0, 3, none⟩ = some (.int .i64 d.1) := B5_14.c 3 (zD rfl)
   have c18_B5_4 : w14.cell? ⟨x1_0, 4, none⟩ = some (.int .i64 d.2.1) := B5_14.c 4 (zD rfl)
   have c18_B5_5 : w14.cell? ⟨x1_0, 5, none⟩ = some (.int .i64 d.2.2) := B5_14.c 5 (zD rfl)
   go_wp2_with (refine row_load (ty := 38) rfl rfl rfl B6_14 (by kernel_rfl) (by rw [row_len]; kernel_rfl) ?_)
   refine (hMeet_any w1.heap.size false g2 (fun i_ => if i_ = 0 then 1099511627776 else if i_ = 4 then 1099511627776 else 0) (fun i_ => if i_ = 0 then b.1 else if i_ = 1 then b.2.1 else if i_ = 2 then b.2.2 else if i_ = 3 then d.1 else if i_ = 4 then d.2.1 else d.2.2) _ B2_14).mono ?_
   rintro e w15 ⟨rfl, f15, k15⟩
   rw [hm2] at f15 ⊢
   dsimp only at f15 ⊢
   try dsimp only
   have K15 : Below w.heap.size w w15 := k15.on K14 (by omega)
   have B0_15 := B0_14.kept k15 (zL y3_B0)
   have B1_15 := B1_14.kept k15 (zL y3_B1)
   have B3_15 := B3_14.kept k15 (zG y4_B2)
   have B4_15 := B4_14.kept k15 (zG y5_B2)
   have B5_15 := B5_14.kept k15 (zG s1_3)
   have B6_15 := B6_14.kept k15 (zG s2_3)
   have B7_15 := B7_14.kept k15 (zG y10_B2)
   have B8_15 := B8_14.kept k15 (zG y11_B2)
   have z15 := B8_15.lies
   have z15_B5 := B5_15.lies
   have z15_B6 := B6_15.lies
   clear c18_B4_0 c18_B4_1 c18_B4_2 c18_B4_3 c18_B4_4 c18_B4_5 c18_B5_0 c18_B5_1 c18_B5_2 c18_B5_3 c18_B5_4 c18_B5_5 K14 B0_14 B1_14 B2_14 B3_14 B4_14 B5_14 B6_14 B7_14 B8_14 k15
   have y12_B0 := B0_15.lies
   have y12_B1 := B1_15.lies
   have y12_B2 := f15.lies
   have y12_B3 := B3_15.lies
   have y12_B4 := B4_15.lies
   have y12_B5 := B5_15.lies
   have y12_B6 := B6_15.lies
   have y12_B7 := B7_15.lies
   have y12_B8 := B8_15.lies
   have y12_low : w.heap.size ≤ w15.heap.size := K15.size
   go_wp2_with (refine store_stop rfl (by kernel_rfl) ?_)
   refine Stop.mk (store_row (l' := row 43 g3) rfl rfl rfl rfl (Arr_at _ _ (row 43 (fun _ => 0)) _ (by simp)) (by simp only [row_len]) (by rw [row_len]; kernel_rfl) (row_one _ _) ?_)
   intro w16 B9_16 o16
   have K16 : Below w.heap.size w w16 := bel_off (bel_al K15 _) o16 y12_low
   have B0_16 := (B0_15.alloc _).off o16 (zL y12_B0)
   have B1_16 := (B1_15.alloc _).off o16 (zL y12_B1)
   have B2_16 := (f15.alloc _).off o16 (zL y12_B2)
   have B3_16 := (B3_15.alloc _).off o16 (zL y12_B3)
   have B4_16 := (B4_15.alloc _).off o16 (zL y12_B4)
   have B5_16 := (B5_15.alloc _).off o16 (zL y12_B5)
   have B6_16 := (B6_15.alloc _).off o16 (zL y12_B6)
   have B7_16 := (B7_15.alloc _).off o16 (zL y12_B7)
   have B8_16 := (B8_15.alloc _).off o16 (zL y12_B8)
   have z16_B9 := B9_16.lies
   have z16_B0 := B0_16.lies
   have z16_B1 := B1_16.lies
   have z16_B2 := B2_16.lies
   have z16_B3 := B3_16.lies
   have z16_B4 := B4_16.lies
   have z16_B5 := B5_16.lies
   have z16_B6 := B6_16.lies
   have z16_B7 := B7_16.lies
   have z16_B8 := B8_16.lies
   clear K15 B0_15 B1_15 f15 B3_15 B4_15 B5_15 B6_15 B7_15 B8_15 o16
   go_wp2_with (first | (refine row_load (ty := 38) rfl rfl rfl B9_16 (by kernel_rfl) (by rw [row_len]; kernel_rfl) ?_) | (refine store_stop rfl (by kernel_rfl) ?_))
   refine Stop.mk (store_row (l' := row 43 g3) rfl rfl rfl rfl B6_16 (by simp only [row_len]) (by rw [row_len]; kernel_rfl) (row_one _ _) ?_)
   intro w17 B6_17 o17
   have K17 : Below w.heap.size w w17 := bel_off K16 o17 s2_0
   have B0_17 := B0_16.off o17 (zL s2_1)
   have B1_17 := B1_16.off o17 (zL s2_2)
   have B2_17 := B2_16.off o17 (zL s2_3)
   have B3_17 := B3_16.off o17 (zL s2_4)
   have B4_17 := B4_16.off o17 (zL s2_5)
   have B5_17 := B5_16.off o17 (zL s2_6)
   have B7_17 := B7_16.off o17 (zG y10_B6)
   have B8_17 := B8_16.off o17 (zG y11_B6)
   have B9_17 := B9_16.off o17 (zG y12_B6)
   have z17_B6 := B6_17.lies
   have z17_B0 := B0_17.lies
   have z17_B1 := B1_17.lies
   have z17_B2 := B2_17.lies
   have z17_B3 := B3_17.lies
   have z17_B4 := B4_17.lies
   have z17_B5 := B5_17.lies
   have z17_B7 := B7_17.lies
   have z17_B8 := B8_17.lies
   have z17_B9 := B9_17.lies
   clear K16 B6_16 B0_16 B1_16 B2_16 B3_16 B4_16 B5_16 B7_16 B8_16 B9_16 o17
   go_wp2_with fail
   rw [rounds_succ]
   have c22_B4_0 : w17.cell? ⟨w2.heap.size + 1, 0, none⟩ = some (.int .i64 1099511627776) := B4_17.c 0 (zD rfl)
   have c22_B4_1 : w17.cell? ⟨w2.heap.size + 1, 1, none⟩ = some (.int .i64 0) := B4_17.c 1 (zD rfl)
   have c22_B4_2 : w17.cell? ⟨w2.heap.size + 1, 2, none⟩ = some (.int .i64 0) := B4_17.c 2 (zD rfl)
   have c22_B4_3 : w17.cell? ⟨w2.heap.size + 1, 3, none⟩ = some (.int .i64 0) := B4_17.c 3 (zD rfl)
   have c22_B4_4 : w17.cell? ⟨w2.heap.size + 1, 4, none⟩ = some (.int .i64 1099511627776) := B4_17.c 4 (zD rfl)
   have c22_B4_5 : w17.cell? ⟨w2.heap.size + 1, 5, none⟩ = some (.int .i64 0) := B4_17.c 5 (zD rfl)
   have c22_B5_0 : w17.cell? ⟨x1_0, 0, none⟩ = some (.int .i64 b.1) := B5_17.c 0 (zD rfl)
   have c22_B5_1 : w17.cell? ⟨x1_0, 1, none⟩ = some (.int .i64 b.2.1) := B5_17.c 1 (zD rfl)
   have c22_B5_2 : w17.cell? ⟨x1_0, 2, none⟩ = some (.int .i64 b.2.2) := B5_17.c 2 (zD rfl)
   have c22_B5_3 : w17.cell? ⟨x1_0, 3, none⟩ = some (.int .i64 d.1) := B5_17.c 3 (zD rfl)
   have c22_B5_4 : w17.cell? ⟨x1_0, 4, none⟩ = some (.int .i64 d.2.1) := B5_17.c 4 (zD rfl)
   have c22_B5_5 : w17.cell? ⟨x1_0, 5, none⟩ = some (.int .i64 d.2.2) := B5_17.c 5 (zD rfl)
   go_wp2_with (refine row_load (ty := 38) rfl rfl rfl B6_17 (by kernel_rfl) (by rw [row_len]; kernel_rfl) ?_)
   refine (hMeet_any w1.heap.size false g3 (fun i_ => if i_ = 0 then 1099511627776 else if i_ = 4 then 1099511627776 else 0) (fun i_ => if i_ = 0 then b.1 else if i_ = 1 then b.2.1 else if i_ = 2 then b.2.2 else if i_ = 3 then d.1 else if i_ = 4 then d.2.1 else d.2.2) _ B2_17).mono ?_
   rintro e w18 ⟨rfl, f18, k18⟩
   rw [hm3] at f18 ⊢
   dsimp only at f18 ⊢
   try dsimp only
   have K18 : Below w.heap.size w w18 := k18.on K17 (by omega)
   have B0_18 := B0_17.kept k18 (zL y3_B0)
   have B1_18 := B1_17.kept k18 (zL y3_B1)
   have B3_18 := B3_17.kept k18 (zG y4_B2)
   have B4_18 := B4_17.kept k18 (zG y5_B2)
   have B5_18 := B5_17.kept k18 (zG s1_3)
   have B6_18 := B6_17.kept k18 (zG s2_3)
   have B7_18 := B7_17.kept k18 (zG y10_B2)
   have B8_18 := B8_17.kept k18 (zG y11_B2)
   have B9_18 := B9_17.kept k18 (zG y12_B2)
   have z18 := B9_18.lies
   have z18_B5 := B5_18.lies
   have z18_B6 := B6_18.lies
   clear c22_B4_0 c22_B4_1 c22_B4_2 c22_B4_3 c22_B4_4 c22_B4_5 c22_B5_0 c22_B5_1 c22_B5_2 c22_B5_3 c22_B5_4 c22_B5_5 K17 B0_17 B1_17 B2_17 B3_17 B4_17 B5_17 B6_17 B7_17 B8_17 B9_17 k18
   have y13_B0 := B0_18.lies
   have y13_B1 := B1_18.lies
   have y13_B2 := f18.lies
   have y13_B3 := B3_18.lies
   have y13_B4 := B4_18.lies
   have y13_B5 := B5_18.lies
   have y13_B6 := B6_18.lies
   have y13_B7 := B7_18.lies
   have y13_B8 := B8_18.lies
   have y13_B9 := B9_18.lies
   have y13_low : w.heap.size ≤ w18.heap.size := K18.size
   go_wp2_with (refine store_stop rfl (by kernel_rfl) ?_)
   refine Stop.mk (store_row (l' := row 43 g4) rfl rfl rfl rfl (Arr_at _ _ (row 43 (fun _ => 0)) _ (by simp)) (by simp only [row_len]) (by rw [row_len]; kernel_rfl) (row_one _ _) ?_)
   intro w19 B10_19 o19
   have K19 : Below w.heap.size w w19 := bel_off (bel_al K18 _) o19 y13_low
   have B0_19 := (B0_18.alloc _).off o19 (zL y13_B0)
   have B1_19 := (B1_18.alloc _).off o19 (zL y13_B1)
   have B2_19 := (f18.alloc _).off o19 (zL y13_B2)
   have B3_19 := (B3_18.alloc _).off o19 (zL y13_B3)
   have B4_19 := (B4_18.alloc _).off o19 (zL y13_B4)
   have B5_19 := (B5_18.alloc _).off o19 (zL y13_B5)
   have B6_19 := (B6_18.alloc _).off o19 (zL y13_B6)
   have B7_19 := (B7_18.alloc _).off o19 (zL y13_B7)
   have B8_19 := (B8_18.alloc _).off o19 (zL y13_B8)
   have B9_19 := (B9_18.alloc _).off o19 (zL y13_B9)
   have z19_B10 := B10_19.lies
   have z19_B0 := B0_19.lies
   have z19_B1 := B1_19.lies
   have z19_B2 := B2_19.lies
   have z19_B3 := B3_19.lies
   have z19_B4 := B4_19.lies
   have z19_B5 := B5_19.lies
   have z19_B6 := B6_19.lies
   have z19_B7 := B7_19.lies
   have z19_B8 := B8_19.lies
   have z19_B9 := B9_19.lies
   clear K18 B0_18 B1_18 f18 B3_18 B4_18 B5_18 B6_18 B7_18 B8_18 B9_18 o19
   go_wp2_with (first | (refine row_load (ty := 38) rfl rfl rfl B10_19 (by kernel_rfl) (by rw [row_len]; kernel_rfl) ?_) | (refine store_stop rfl (by kernel_rfl) ?_))
   refine Stop.mk (store_row (l' := row 43 g4) rfl rfl rfl rfl B6_19 (by simp only [row_len]) (by rw [row_len]; kernel_rfl) (row_one _ _) ?_)
   intro w20 B6_20 o20
   have K20 : Below w.heap.size w w20 := bel_off K19 o20 s2_0
   have B0_20 := B0_19.off o20 (zL s2_1)
   have B1_20 := B1_19.off o20 (zL s2_2)
   have B2_20 := B2_19.off o20 (zL s2_3)
   have B3_20 := B3_19.off o20 (zL s2_4)
   have B4_20 := B4_19.off o20 (zL s2_5)
   have B5_20 := B5_19.off o20 (zL s2_6)
   have B7_20 := B7_19.off o20 (zG y10_B6)
   have B8_20 := B8_19.off o20 (zG y11_B6)
   have B9_20 := B9_19.off o20 (zG y12_B6)
   have B10_20 := B10_19.off o20 (zG y13_B6)
   have z20_B6 := B6_20.lies
   have z20_B0 := B0_20.lies
   have z20_B1 := B1_20.lies
   have z20_B2 := B2_20.lies
   have z20_B3 := B3_20.lies
   have z20_B4 := B4_20.lies
   have z20_B5 := B5_20.lies
   have z20_B7 := B7_20.lies
   have z20_B8 := B8_20.lies
   have z20_B9 := B9_20.lies
   have z20_B10 := B10_20.lies
   clear K19 B6_19 B0_19 B1_19 B2_19 B3_19 B4_19 B5_19 B7_19 B8_19 B9_19 B10_19 o20
   go_wp2_with fail
   rw [rounds_succ]
   go_wp2_with fail
   refine get_cont (fun KK3 hKK3 => ?_)
   have cont3 : ∀ (W3 : World) (t3_13 t3_18 t3_19 t3_20 t3_21 t3_22 t3_23 t3_24 t3_25 t3_26 t3_27 t3_28 t3_31 t3_32 t3_33 t3_34 t3_35 t3_36 t3_37 t3_38 t3_39 t3_40 t3_41 t3_42 t3_43 t3_44 t3_45 t3_46 t3_47 t3_48 t3_49 t3_50 t3_51 t3_52 t3_53 t3_54 t3_55 t3_56 t3_57 t3_58 t3_59 t3_60 t3_61 t3_62 t3_64 t3_65 t3_66 t3_67 t3_68 t3_69 t3_70 t3_71 t3_72 t3_73 t3_74 t3_75 t3_76 t3_77 t3_78 t3_79 t3_80 t3_81 t3_82 t3_83 t3_84 t3_85 : Value) (x3_0 : Nat) , Below w.heap.size w W3 → Arr w.heap.size [.int .i64 q.1, .int .i64 q.2.1, .int .i64 q.2.2.1, .int .i64 q.2.2.2] W3 → Arr (w.heap.size + 1) [.int .i64 o.1, .int .i64 o.2.1, .int .i64 o.2.2] W3 → Fl w1.heap.size false W3 → Arr w2.heap.size [.int .i64 a.1, .int .i64 a.2.1, .int .i64 a.2.2.1, .int .i64 a.2.2.2] W3 → Arr (w2.heap.size + 1) [.int .i64 1099511627776, .int .i64 0, .int .i64 0, .int .i64 0, .int .i64 1099511627776, .int .i64 0] W3 → Arr x1_0 [.int .i64 b.1, .int .i64 b.2.1, .int .i64 b.2.2, .int .i64 d.1, .int .i64 d.2.1, .int .i64 d.2.2] W3 → Arr x2_0 (row 43 g4) W3 → Arr w9.heap.size (row 43 g1) W3 → Arr w12.heap.size (row 43 g2) W3 → Arr w15.heap.size (row 43 g3) W3 → Arr w18.heap.size (row 43 g4) W3 → Arr x3_0 [.int .i64 r.1, .int .i64 r.2.1, .int .i64 r.2.2] W3 → w.heap.size ≤ x3_0 → w.heap.size < x3_0 → w.heap.size + 1 < x3_0 → w1.heap.size < x3_0 → w2.heap.size < x3_0 → w2.heap.size + 1 < x3_0 → x1_0 < x3_0 → x2_0 < x3_0 → w9.heap.size < x3_0 → w12.heap.size < x3_0 → w15.heap.size < x3_0 → w18.heap.size < x3_0 → KK3 { tmps := #[.agg #[.int .i64 q.1, .int .i64 q.2.1, .int .i64 q.2.2.1, .int .i64 q.2.2.2], .agg #[.int .i64 o.1, .int .i64 o.2.1, .int .i64 o.2.2], .pointer (some ⟨w.heap.size, 0, none⟩), .pointer (some ⟨w.heap.size + 1, 0, none⟩), .bool false, .pointer (some ⟨w1.heap.size, 0, none⟩), .pointer (some ⟨w2.heap.size, 0, none⟩), undef, .int .i64 o.2.2, .pointer (some ⟨w2.heap.size + 1, 0, none⟩), .pointer (some ⟨x1_0, 0, none⟩), .pointer (some ⟨x2_0, 0, none⟩), .pointer (some ⟨w18.heap.size, 0, none⟩), t3_13, .bool true, .pointer (some ⟨x3_0, 0, none⟩), undef, undef, t3_18, t3_19, t3_20, t3_21, t3_22, t3_23, t3_24, t3_25, t3_26, t3_27, t3_28, .agg #[.int .i64 o.1, .int .i64 o.2.1, .int .i64 o.2.2], .int .i64 3, t3_31, t3_32, t3_33, t3_34, t3_35, t3_36, t3_37, t3_38, t3_39, t3_40, t3_41, t3_42, t3_43, t3_44, t3_45, t3_46, t3_47, t3_48, t3_49, t3_50, t3_51, t3_52, t3_53, t3_54, t3_55, t3_56, t3_57, t3_58, t3_59, t3_60, t3_61, t3_62, .int .i64 4, t3_64, t3_65, t3_66, t3_67, t3_68, t3_69, t3_70, t3_71, t3_72, t3_73, t3_74, t3_75, t3_76, t3_77, t3_78, t3_79, t3_80, t3_81, t3_82, t3_83, t3_84, t3_85, undef, undef, undef, undef, undef, undef, undef, undef, undef, undef, undef, undef, undef, undef, undef, undef, undef, undef, undef, undef, undef, undef, undef], defers := [] } W3 := by
    intro W3 t3_13 t3_18 t3_19 t3_20 t3_21 t3_22 t3_23 t3_24 t3_25 t3_26 t3_27 t3_28 t3_31 t3_32 t3_33 t3_34 t3_35 t3_36 t3_37 t3_38 t3_39 t3_40 t3_41 t3_42 t3_43 t3_44 t3_45 t3_46 t3_47 t3_48 t3_49 t3_50 t3_51 t3_52 t3_53 t3_54 t3_55 t3_56 t3_57 t3_58 t3_59 t3_60 t3_61 t3_62 t3_64 t3_65 t3_66 t3_67 t3_68 t3_69 t3_70 t3_71 t3_72 t3_73 t3_74 t3_75 t3_76 t3_77 t3_78 t3_79 t3_80 t3_81 t3_82 t3_83 t3_84 t3_85 x3_0 KC3 B0_c3 B1_c3 B2_c3 B3_c3 B4_c3 B5_c3 B6_c3 B7_c3 B8_c3 B9_c3 B10_c3 B11_c3 s3_0 s3_1 s3_2 s3_3 s3_4 s3_5 s3_6 s3_7 s3_8 s3_9 s3_10 s3_11
    have zc3_B0 := B0_c3.lies
    have zc3_B1 := B1_c3.lies
    have zc3_B2 := B2_c3.lies
    have zc3_B3 := B3_c3.lies
    have zc3_B4 := B4_c3.lies
    have zc3_B5 := B5_c3.lies
    have zc3_B6 := B6_c3.lies
    have zc3_B7 := B7_c3.lies
    have zc3_B8 := B8_c3.lies
    have zc3_B9 := B9_c3.lies
    have zc3_B10 := B10_c3.lies
    have zc3_B11 := B11_c3.lies
    rw [hKK3.out]
    dsimp only [Exit.inBlock, Exit.then]
    first | refine use_cont (by assumption) ?_ | skip
    have c27_B11_0 : W3.cell? ⟨x3_0, 0, none⟩ = some (.int .i64 r.1) := B11_c3.c 0 (zD rfl)
    have c27_B11_1 : W3.cell? ⟨x3_0, 1, none⟩ = some (.int .i64 r.2.1) := B11_c3.c 1 (zD rfl)
    have c27_B11_2 : W3.cell? ⟨x3_0, 2, none⟩ = some (.int .i64 r.2.2) := B11_c3.c 2 (zD rfl)
    go_wp2_with fail
    clear c27_B11_0 c27_B11_1 c27_B11_2
    refine wp_loop_rounds 4 ?_
    rw [rounds_succ]
    go_wp2_with fail
    rw [rounds_succ]
    go_wp2_with fail
    rw [rounds_succ]
    go_wp2_with fail
    rw [rounds_succ]
    have c31_B2 := B2_c3.cell
    have c31_B6_1 : W3.cell? ⟨x2_0, 7, none⟩ = some (.int .i64 (g4 7)) := row_c B6_c3 7 (by omega)
    go_wp2
    clear c31_B2 c31_B6_1
    go_ret
    exact ⟨rfl, KC3⟩
   refine wp_region_held_drew (S := fun w' => Arr x2_0 (row 43 g4) w' ∧ Arr w2.heap.size [.int .i64 a.1, .int .i64 a.2.1, .int .i64 a.2.2.1, .int .i64 a.2.2.2] w') (by kernel_rfl) ⟨B6_20.drew, B3_20.drew⟩ (fun zH => ?_)
   refine zT 0 rfl (by kernel_rfl) (fun _ _ _ => id) rfl (fun _ _ => by go_simp <;> with_reducible rfl) zH ?_
   simp only [Act.put, zA, zB, zC]
   refine zT 1 rfl (by kernel_rfl) (fun _ _ _ => id) rfl (fun _ _ => by go_simp <;> with_reducible rfl) zH ?_
   simp only [Act.put, zA, zB, zC]
   refine zT 2 rfl (by kernel_rfl) (fun _ _ _ => id) rfl (fun _ _ => by go_simp <;> with_reducible rfl) zH ?_
   simp only [Act.put, zA, zB, zC]
   refine zT 3 rfl (by kernel_rfl) (fun _ _ _ => id) rfl (fun wx hSw => by have hc0 : wx.cell? ⟨x2_0, 0, none⟩ = some (.int .i64 (g4 0)) := row_c hSw.1 0 (by omega); have hc1 : wx.cell? ⟨x2_0, 1, none⟩ = some (.int .i64 (g4 1)) := row_c hSw.1 1 (by omega); have hc2 : wx.cell? ⟨x2_0, 2, none⟩ = some (.int .i64 (g4 2)) := row_c hSw.1 2 (by omega); have hc3 : wx.cell? ⟨x2_0, 3, none⟩ = some (.int .i64 (g4 3)) := row_c hSw.1 3 (by omega); go_simp <;> with_reducible rfl) zH ?_
   simp only [Act.put, zA, zB, zC]
   refine zT 4 rfl (by kernel_rfl) (fun _ _ _ => id) rfl (fun wx hSw => by have hc0 : wx.cell? ⟨w2.heap.size, 0, none⟩ = some (.int .i64 a.1) := hSw.2.c 0 (zD rfl); have hc1 : wx.cell? ⟨w2.heap.size, 1, none⟩ = some (.int .i64 a.2.1) := hSw.2.c 1 (zD rfl); have hc2 : wx.cell? ⟨w2.heap.size, 2, none⟩ = some (.int .i64 a.2.2.1) := hSw.2.c 2 (zD rfl); have hc3 : wx.cell? ⟨w2.heap.size, 3, none⟩ = some (.int .i64 a.2.2.2) := hSw.2.c 3 (zD rfl); go_simp <;> with_reducible rfl) zH ?_
   simp only [Act.put, zA, zB, zC]
   refine call_at2 (i0 := 5) (i1 := 8) (by kernel_rfl) rfl rfl (fun K hK => ?_) (fun K hK => ?_)
   ·go_simp
    refine (qBack_any a _).mono ?_
    rintro e w21 ⟨rfl, k21⟩
    rw [hB]
    try dsimp only
    have K21 : Below w.heap.size w w21 := bel_then (Below.drew K20) k21
    have B0_21 := B0_20.drew.below k21
    have B1_21 := B1_20.drew.below k21
    have B2_21 := B2_20.drew.below k21
    have B3_21 := B3_20.drew.below k21
    have B4_21 := B4_20.drew.below k21
    have B5_21 := B5_20.drew.below k21
    have B6_21 := B6_20.drew.below k21
    have B7_21 := B7_20.drew.below k21
    have B8_21 := B8_20.drew.below k21
    have B9_21 := B9_20.drew.below k21
    have B10_21 := B10_20.drew.below k21
    have z21 := B10_21.lies
    have z21_B5 := B5_21.lies
    have z21_B6 := B6_21.lies
    clear zH
    refine hK.out _ _ ⟨B6_21, B3_21⟩ (fun zH => ?_)
    clear hK K K20 B0_20 B1_20 B2_20 B3_20 B4_20 B5_20 B6_20 B7_20 B8_20 B9_20 B10_20 k21
    refine call_at2 (i0 := 6) (i1 := 8) (by kernel_rfl) rfl rfl (fun K hK => ?_) (fun K hK => ?_)
    ·go_simp
     refine (qMul_any w1.heap.size false ((g4 0), (g4 1), (g4 2), (g4 3)) y _ B2_21).mono ?_
     rintro e w22 ⟨rfl, f22, k22⟩
     rw [hz] at f22 ⊢
     dsimp only at f22 ⊢
     have K22 : Below w.heap.size w w22 := k22.on K21 (by omega)
     have B0_22 := B0_21.kept k22 (zL y3_B0)
     have B1_22 := B1_21.kept k22 (zL y3_B1)
     have B3_22 := B3_21.kept k22 (zG y4_B2)
     have B4_22 := B4_21.kept k22 (zG y5_B2)
     have B5_22 := B5_21.kept k22 (zG s1_3)
     have B6_22 := B6_21.kept k22 (zG s2_3)
     have B7_22 := B7_21.kept k22 (zG y10_B2)
     have B8_22 := B8_21.kept k22 (zG y11_B2)
     have B9_22 := B9_21.kept k22 (zG y12_B2)
     have B10_22 := B10_21.kept k22 (zG y13_B2)
     have z22 := B10_22.lies
     have z22_B5 := B5_22.lies
     have z22_B6 := B6_22.lies
     clear zH
     refine hK.out _ _ ⟨B6_22, B3_22⟩ (fun zH => ?_)
     clear hK K K21 B0_21 B1_21 B2_21 B3_21 B4_21 B5_21 B6_21 B7_21 B8_21 B9_21 B10_21 k22
     refine call_at2 (i0 := 7) (i1 := 8) (by kernel_rfl) rfl rfl (fun K hK => ?_) (fun K hK => ?_)
     ·go_simp
      refine (qToRod_any w1.heap.size false z _ f22).mono ?_
      rintro e w23 ⟨rfl, f23, k23⟩
      rw [hr] at f23 ⊢
      dsimp only at f23 ⊢
      have K23 : Below w.heap.size w w23 := k23.on K22 (by omega)
      have B0_23 := B0_22.kept k23 (zL y3_B0)
      have B1_23 := B1_22.kept k23 (zL y3_B1)
      have B3_23 := B3_22.kept k23 (zG y4_B2)
      have B4_23 := B4_22.kept k23 (zG y5_B2)
      have B5_23 := B5_22.kept k23 (zG s1_3)
      have B6_23 := B6_22.kept k23 (zG s2_3)
      have B7_23 := B7_22.kept k23 (zG y10_B2)
      have B8_23 := B8_22.kept k23 (zG y11_B2)
      have B9_23 := B9_22.kept k23 (zG y12_B2)
      have B10_23 := B10_22.kept k23 (zG y13_B2)
      have z23 := B10_23.lies
      have z23_B5 := B5_23.lies
      have z23_B6 := B6_23.lies
      clear zH
      refine hK.out _ _ ⟨B6_23, B3_23⟩ (fun zH => ?_)
      clear hK K K22 B0_22 B1_22 f22 B3_22 B4_22 B5_22 B6_22 B7_22 B8_22 B9_22 B10_22 k23
      refine zK 8 (by kernel_rfl) rfl (fun K hK => ?_)
      have y14_B0 := B0_23.lies
      have y14_B1 := B1_23.lies
      have y14_B2 := f23.lies
      have y14_B3 := B3_23.lies
      have y14_B4 := B4_23.lies
      have y14_B5 := B5_23.lies
      have y14_B6 := B6_23.lies
      have y14_B7 := B7_23.lies
      have y14_B8 := B8_23.lies
      have y14_B9 := B9_23.lies
      have y14_B10 := B10_23.lies
      have y14_low : w.heap.size ≤ w23.heap.size := K23.size
      go_simp
      clear zH
      refine hK.out _ _ ⟨(B6_23.alloc _), (B3_23.alloc _)⟩ (fun zH => ?_)
      clear hK K
      refine zK 9 (by kernel_rfl) rfl (fun K hK => ?_)
      go_simp
      clear zH
      refine hK.out _ _ ⟨(B6_23.alloc _), (B3_23.alloc _)⟩ (fun zH => ?_)
      clear hK K
      refine wpAnyH_done (by kernel_rfl) ?_ _
      clear zH
      refine put_cont hKK3 ?_
      exact cont3 _ _ _ _ _ _ _ _ _ _ _ _ _ _ _ _ _ _ _ _ _ _ _ _ _ _ _ _ _ _ _ _ _ _ _ _ _ _ _ _ _ _ _ _ _ _ _ _ _ _ _ _ _ _ _ _ _ _ _ _ _ _ _ _ _ _ _ w23.heap.size (bel_al K23 _) (B0_23.alloc _) (B1_23.alloc _) (f23.alloc _) (B3_23.alloc _) (B4_23.alloc _) (B5_23.alloc _) (B6_23.alloc _) (B7_23.alloc _) (B8_23.alloc _) (B9_23.alloc _) (B10_23.alloc _) (Arr_at _ _ [.int .i64 r.1, .int .i64 r.2.1, .int .i64 r.2.2] _ (by simp)) y14_low y14_B0 y14_B1 y14_B2 y14_B3 y14_B4 y14_B5 y14_B6 y14_B7 y14_B8 y14_B9 y14_B10
     ·have y15_B0 := B0_22.lies
      have y15_B1 := B1_22.lies
      have y15_B2 := f22.lies
      have y15_B3 := B3_22.lies
      have y15_B4 := B4_22.lies
      have y15_B5 := B5_22.lies
      have y15_B6 := B6_22.lies
      have y15_B7 := B7_22.lies
      have y15_B8 := B8_22.lies
      have y15_B9 := B9_22.lies
      have y15_B10 := B10_22.lies
      have y15_low : w.heap.size ≤ w22.heap.size := K22.size
      go_simp
      clear zH
      refine hK.out _ _ ⟨(B6_22.alloc _), (B3_22.alloc _)⟩ (fun zH => ?_)
      clear hK K
      refine zK 7 (by kernel_rfl) rfl (fun K hK => ?_)
      go_simp
      refine (qToRod_any w1.heap.size false z _ (f22.alloc _)).mono ?_
      rintro e w23 ⟨rfl, f23, k23⟩
      rw [hr] at f23 ⊢
      dsimp only at f23 ⊢
      have K23 : Below w.heap.size w w23 := k23.on (bel_al K22 _) (by omega)
      have B0_23 := (B0_22.alloc _).kept k23 (zL y3_B0)
      have B1_23 := (B1_22.alloc _).kept k23 (zL y3_B1)
      have B3_23 := (B3_22.alloc _).kept k23 (zG y4_B2)
      have B4_23 := (B4_22.alloc _).kept k23 (zG y5_B2)
      have B5_23 := (B5_22.alloc _).kept k23 (zG s1_3)
      have B6_23 := (B6_22.alloc _).kept k23 (zG s2_3)
      have B7_23 := (B7_22.alloc _).kept k23 (zG y10_B2)
      have B8_23 := (B8_22.alloc _).kept k23 (zG y11_B2)
      have B9_23 := (B9_22.alloc _).kept k23 (zG y12_B2)
      have B10_23 := (B10_22.alloc _).kept k23 (zG y13_B2)
      have B11_23 := (Arr_at _ w22.heap.size [.int .i64 0, .int .i64 0, .int .i64 0] _ (by simp)).kept k23 (zG y15_B2)
      have z23 := B11_23.lies
      have z23_B5 := B5_23.lies
      have z23_B6 := B6_23.lies
      clear zH
      refine hK.out _ _ ⟨B6_23, B3_23⟩ (fun zH => ?_)
      clear hK K K22 B0_22 B1_22 f22 B3_22 B4_22 B5_22 B6_22 B7_22 B8_22 B9_22 B10_22 k23
      refine zK 9 (by kernel_rfl) rfl (fun K hK => ?_)
      have c28_B11_0 : w23.cell? ⟨w22.heap.size, 0, none⟩ = some (.int .i64 0) := B11_23.c 0 (zD rfl)
      have c28_B11_1 : w23.cell? ⟨w22.heap.size, 1, none⟩ = some (.int .i64 0) := B11_23.c 1 (zD rfl)
      have c28_B11_2 : w23.cell? ⟨w22.heap.size, 2, none⟩ = some (.int .i64 0) := B11_23.c 2 (zD rfl)
      have g28_B11_0 := B11_23.f 0 (zD rfl)
      have g28_B11_1 := B11_23.f 1 (zD rfl)
      have g28_B11_2 := B11_23.f 2 (zD rfl)
      go_simp
      clear zH
      refine hK.out _ _ ⟨(((B6_23.new w22.heap.size 0 (zL y15_B6) (.int .i64 r.1)).new w22.heap.size 1 (zL y15_B6) (.int .i64 r.2.1)).new w22.heap.size 2 (zL y15_B6) (.int .i64 r.2.2)), (((B3_23.new w22.heap.size 0 (zL y15_B3) (.int .i64 r.1)).new w22.heap.size 1 (zL y15_B3) (.int .i64 r.2.1)).new w22.heap.size 2 (zL y15_B3) (.int .i64 r.2.2))⟩ (fun zH => ?_)
      clear hK K c28_B11_0 c28_B11_1 c28_B11_2 g28_B11_0 g28_B11_1 g28_B11_2
      refine wpAnyH_done (by kernel_rfl) ?_ _
      clear zH
      refine put_cont hKK3 ?_
      exact cont3 _ _ _ _ _ _ _ _ _ _ _ _ _ _ _ _ _ _ _ _ _ _ _ _ _ _ _ _ _ _ _ _ _ _ _ _ _ _ _ _ _ _ _ _ _ _ _ _ _ _ _ _ _ _ _ _ _ _ _ _ _ _ _ _ _ _ _ w22.heap.size (bel_new (bel_new (bel_new K23 _ _ y15_low _) _ _ y15_low _) _ _ y15_low _) (((B0_23.new w22.heap.size 0 (zL y15_B0) (.int .i64 r.1)).new w22.heap.size 1 (zL y15_B0) (.int .i64 r.2.1)).new w22.heap.size 2 (zL y15_B0) (.int .i64 r.2.2)) (((B1_23.new w22.heap.size 0 (zL y15_B1) (.int .i64 r.1)).new w22.heap.size 1 (zL y15_B1) (.int .i64 r.2.1)).new w22.heap.size 2 (zL y15_B1) (.int .i64 r.2.2)) (((f23.new w22.heap.size 0 (zL y15_B2) (.int .i64 r.1)).new w22.heap.size 1 (zL y15_B2) (.int .i64 r.2.1)).new w22.heap.size 2 (zL y15_B2) (.int .i64 r.2.2)) (((B3_23.new w22.heap.size 0 (zL y15_B3) (.int .i64 r.1)).new w22.heap.size 1 (zL y15_B3) (.int .i64 r.2.1)).new w22.heap.size 2 (zL y15_B3) (.int .i64 r.2.2)) (((B4_23.new w22.heap.size 0 (zL y15_B4) (.int .i64 r.1)).new w22.heap.size 1 (zL y15_B4) (.int .i64 r.2.1)).new w22.heap.size 2 (zL y15_B4) (.int .i64 r.2.2)) (((B5_23.new w22.heap.size 0 (zL y15_B5) (.int .i64 r.1)).new w22.heap.size 1 (zL y15_B5) (.int .i64 r.2.1)).new w22.heap.size 2 (zL y15_B5) (.int .i64 r.2.2)) (((B6_23.new w22.heap.size 0 (zL y15_B6) (.int .i64 r.1)).new w22.heap.size 1 (zL y15_B6) (.int .i64 r.2.1)).new w22.heap.size 2 (zL y15_B6) (.int .i64 r.2.2)) (((B7_23.new w22.heap.size 0 (zL y15_B7) (.int .i64 r.1)).new w22.heap.size 1 (zL y15_B7) (.int .i64 r.2.1)).new w22.heap.size 2 (zL y15_B7) (.int .i64 r.2.2)) (((B8_23.new w22.heap.size 0 (zL y15_B8) (.int .i64 r.1)).new w22.heap.size 1 (zL y15_B8) (.int .i64 r.2.1)).new w22.heap.size 2 (zL y15_B8) (.int .i64 r.2.2)) (((B9_23.new w22.heap.size 0 (zL y15_B9) (.int .i64 r.1)).new w22.heap.size 1 (zL y15_B9) (.int .i64 r.2.1)).new w22.heap.size 2 (zL y15_B9) (.int .i64 r.2.2)) (((B10_23.new w22.heap.size 0 (zL y15_B10) (.int .i64 r.1)).new w22.heap.size 1 (zL y15_B10) (.int .i64 r.2.1)).new w22.heap.size 2 (zL y15_B10) (.int .i64 r.2.2)) (((B11_23.put 0 (zD rfl) (.int .i64 r.1) [.int .i64 r.1, .int .i64 0, .int .i64 0] rfl).put 1 (zD rfl) (.int .i64 r.2.1) [.int .i64 r.1, .int .i64 r.2.1, .int .i64 0] rfl).put 2 (zD rfl) (.int .i64 r.2.2) [.int .i64 r.1, .int .i64 r.2.1, .int .i64 r.2.2] rfl) y15_low y15_B0 y15_B1 y15_B2 y15_B3 y15_B4 y15_B5 y15_B6 y15_B7 y15_B8 y15_B9 y15_B10
    ·have y16_B0 := B0_21.lies
     have y16_B1 := B1_21.lies
     have y16_B2 := B2_21.lies
     have y16_B3 := B3_21.lies
     have y16_B4 := B4_21.lies
     have y16_B5 := B5_21.lies
     have y16_B6 := B6_21.lies
     have y16_B7 := B7_21.lies
     have y16_B8 := B8_21.lies
     have y16_B9 := B9_21.lies
     have y16_B10 := B10_21.lies
     have y16_low : w.heap.size ≤ w21.heap.size := K21.size
     go_simp
     clear zH
     refine hK.out _ _ ⟨(B6_21.alloc _), (B3_21.alloc _)⟩ (fun zH => ?_)
     clear hK K
     refine zK 6 (by kernel_rfl) rfl (fun K hK => ?_)
     go_simp
     refine (qMul_any w1.heap.size false ((g4 0), (g4 1), (g4 2), (g4 3)) y _ (B2_21.alloc _)).mono ?_
     rintro e w22 ⟨rfl, f22, k22⟩
     rw [hz] at f22 ⊢
     dsimp only at f22 ⊢
     have K22 : Below w.heap.size w w22 := k22.on (bel_al K21 _) (by omega)
     have B0_22 := (B0_21.alloc _).kept k22 (zL y3_B0)
     have B1_22 := (B1_21.alloc _).kept k22 (zL y3_B1)
     have B3_22 := (B3_21.alloc _).kept k22 (zG y4_B2)
     have B4_22 := (B4_21.alloc _).kept k22 (zG y5_B2)
     have B5_22 := (B5_21.alloc _).kept k22 (zG s1_3)
     have B6_22 := (B6_21.alloc _).kept k22 (zG s2_3)
     have B7_22 := (B7_21.alloc _).kept k22 (zG y10_B2)
     have B8_22 := (B8_21.alloc _).kept k22 (zG y11_B2)
     have B9_22 := (B9_21.alloc _).kept k22 (zG y12_B2)
     have B10_22 := (B10_21.alloc _).kept k22 (zG y13_B2)
     have B11_22 := (Arr_at _ w21.heap.size [.int .i64 0, .int .i64 0, .int .i64 0] _ (by simp)).kept k22 (zG y16_B2)
     have z22 := B11_22.lies
     have z22_B5 := B5_22.lies
     have z22_B6 := B6_22.lies
     clear zH
     refine hK.out _ _ ⟨B6_22, B3_22⟩ (fun zH => ?_)
     clear hK K K21 B0_21 B1_21 B2_21 B3_21 B4_21 B5_21 B6_21 B7_21 B8_21 B9_21 B10_21 k22
     refine zK 7 (by kernel_rfl) rfl (fun K hK => ?_)
     go_simp
     refine (qToRod_any w1.heap.size false z _ f22).mono ?_
     rintro e w23 ⟨rfl, f23, k23⟩
     rw [hr] at f23 ⊢
     dsimp only at f23 ⊢
     have K23 : Below w.heap.size w w23 := k23.on K22 (by omega)
     have B0_23 := B0_22.kept k23 (zL y3_B0)
     have B1_23 := B1_22.kept k23 (zL y3_B1)
     have B3_23 := B3_22.kept k23 (zG y4_B2)
     have B4_23 := B4_22.kept k23 (zG y5_B2)
     have B5_23 := B5_22.kept k23 (zG s1_3)
     have B6_23 := B6_22.kept k23 (zG s2_3)
     have B7_23 := B7_22.kept k23 (zG y10_B2)
     have B8_23 := B8_22.kept k23 (zG y11_B2)
     have B9_23 := B9_22.kept k23 (zG y12_B2)
     have B10_23 := B10_22.kept k23 (zG y13_B2)
     have B11_23 := B11_22.kept k23 (zG y16_B2)
     have z23 := B11_23.lies
     have z23_B5 := B5_23.lies
     have z23_B6 := B6_23.lies
     clear zH
     refine hK.out _ _ ⟨B6_23, B3_23⟩ (fun zH => ?_)
     clear hK K K22 B0_22 B1_22 f22 B3_22 B4_22 B5_22 B6_22 B7_22 B8_22 B9_22 B10_22 B11_22 k23
     refine zK 9 (by kernel_rfl) rfl (fun K hK => ?_)
     have c28_B11_0 : w23.cell? ⟨w21.heap.size, 0, none⟩ = some (.int .i64 0) := B11_23.c 0 (zD rfl)
     have c28_B11_1 : w23.cell? ⟨w21.heap.size, 1, none⟩ = some (.int .i64 0) := B11_23.c 1 (zD rfl)
     have c28_B11_2 : w23.cell? ⟨w21.heap.size, 2, none⟩ = some (.int .i64 0) := B11_23.c 2 (zD rfl)
     have g28_B11_0 := B11_23.f 0 (zD rfl)
     have g28_B11_1 := B11_23.f 1 (zD rfl)
     have g28_B11_2 := B11_23.f 2 (zD rfl)
     go_simp
     clear zH
     refine hK.out _ _ ⟨(((B6_23.new w21.heap.size 0 (zL y16_B6) (.int .i64 r.1)).new w21.heap.size 1 (zL y16_B6) (.int .i64 r.2.1)).new w21.heap.size 2 (zL y16_B6) (.int .i64 r.2.2)), (((B3_23.new w21.heap.size 0 (zL y16_B3) (.int .i64 r.1)).new w21.heap.size 1 (zL y16_B3) (.int .i64 r.2.1)).new w21.heap.size 2 (zL y16_B3) (.int .i64 r.2.2))⟩ (fun zH => ?_)
     clear hK K c28_B11_0 c28_B11_1 c28_B11_2 g28_B11_0 g28_B11_1 g28_B11_2
     refine wpAnyH_done (by kernel_rfl) ?_ _
     clear zH
     refine put_cont hKK3 ?_
     exact cont3 _ _ _ _ _ _ _ _ _ _ _ _ _ _ _ _ _ _ _ _ _ _ _ _ _ _ _ _ _ _ _ _ _ _ _ _ _ _ _ _ _ _ _ _ _ _ _ _ _ _ _ _ _ _ _ _ _ _ _ _ _ _ _ _ _ _ _ w21.heap.size (bel_new (bel_new (bel_new K23 _ _ y16_low _) _ _ y16_low _) _ _ y16_low _) (((B0_23.new w21.heap.size 0 (zL y16_B0) (.int .i64 r.1)).new w21.heap.size 1 (zL y16_B0) (.int .i64 r.2.1)).new w21.heap.size 2 (zL y16_B0) (.int .i64 r.2.2)) (((B1_23.new w21.heap.size 0 (zL y16_B1) (.int .i64 r.1)).new w21.heap.size 1 (zL y16_B1) (.int .i64 r.2.1)).new w21.heap.size 2 (zL y16_B1) (.int .i64 r.2.2)) (((f23.new w21.heap.size 0 (zL y16_B2) (.int .i64 r.1)).new w21.heap.size 1 (zL y16_B2) (.int .i64 r.2.1)).new w21.heap.size 2 (zL y16_B2) (.int .i64 r.2.2)) (((B3_23.new w21.heap.size 0 (zL y16_B3) (.int .i64 r.1)).new w21.heap.size 1 (zL y16_B3) (.int .i64 r.2.1)).new w21.heap.size 2 (zL y16_B3) (.int .i64 r.2.2)) (((B4_23.new w21.heap.size 0 (zL y16_B4) (.int .i64 r.1)).new w21.heap.size 1 (zL y16_B4) (.int .i64 r.2.1)).new w21.heap.size 2 (zL y16_B4) (.int .i64 r.2.2)) (((B5_23.new w21.heap.size 0 (zL y16_B5) (.int .i64 r.1)).new w21.heap.size 1 (zL y16_B5) (.int .i64 r.2.1)).new w21.heap.size 2 (zL y16_B5) (.int .i64 r.2.2)) (((B6_23.new w21.heap.size 0 (zL y16_B6) (.int .i64 r.1)).new w21.heap.size 1 (zL y16_B6) (.int .i64 r.2.1)).new w21.heap.size 2 (zL y16_B6) (.int .i64 r.2.2)) (((B7_23.new w21.heap.size 0 (zL y16_B7) (.int .i64 r.1)).new w21.heap.size 1 (zL y16_B7) (.int .i64 r.2.1)).new w21.heap.size 2 (zL y16_B7) (.int .i64 r.2.2)) (((B8_23.new w21.heap.size 0 (zL y16_B8) (.int .i64 r.1)).new w21.heap.size 1 (zL y16_B8) (.int .i64 r.2.1)).new w21.heap.size 2 (zL y16_B8) (.int .i64 r.2.2)) (((B9_23.new w21.heap.size 0 (zL y16_B9) (.int .i64 r.1)).new w21.heap.size 1 (zL y16_B9) (.int .i64 r.2.1)).new w21.heap.size 2 (zL y16_B9) (.int .i64 r.2.2)) (((B10_23.new w21.heap.size 0 (zL y16_B10) (.int .i64 r.1)).new w21.heap.size 1 (zL y16_B10) (.int .i64 r.2.1)).new w21.heap.size 2 (zL y16_B10) (.int .i64 r.2.2)) (((B11_23.put 0 (zD rfl) (.int .i64 r.1) [.int .i64 r.1, .int .i64 0, .int .i64 0] rfl).put 1 (zD rfl) (.int .i64 r.2.1) [.int .i64 r.1, .int .i64 r.2.1, .int .i64 0] rfl).put 2 (zD rfl) (.int .i64 r.2.2) [.int .i64 r.1, .int .i64 r.2.1, .int .i64 r.2.2] rfl) y16_low y16_B0 y16_B1 y16_B2 y16_B3 y16_B4 y16_B5 y16_B6 y16_B7 y16_B8 y16_B9 y16_B10
   ·have y17_B0 := B0_20.lies
    have y17_B1 := B1_20.lies
    have y17_B2 := B2_20.lies
    have y17_B3 := B3_20.lies
    have y17_B4 := B4_20.lies
    have y17_B5 := B5_20.lies
    have y17_B6 := B6_20.lies
    have y17_B7 := B7_20.lies
    have y17_B8 := B8_20.lies
    have y17_B9 := B9_20.lies
    have y17_B10 := B10_20.lies
    have y17_low : w.heap.size ≤ w20.heap.size := K20.size
    go_simp
    clear zH
    refine hK.out _ _ ⟨(B6_20.alloc _).drew, (B3_20.alloc _).drew⟩ (fun zH => ?_)
    clear hK K
    refine zK 5 (by kernel_rfl) rfl (fun K hK => ?_)
    go_simp
    refine (qBack_any a _).mono ?_
    rintro e w21 ⟨rfl, k21⟩
    rw [hB]
    try dsimp only
    have K21 : Below w.heap.size w w21 := bel_then (Below.drew (bel_al K20 _)) k21
    have B0_21 := (B0_20.alloc _).drew.below k21
    have B1_21 := (B1_20.alloc _).drew.below k21
    have B2_21 := (B2_20.alloc _).drew.below k21
    have B3_21 := (B3_20.alloc _).drew.below k21
    have B4_21 := (B4_20.alloc _).drew.below k21
    have B5_21 := (B5_20.alloc _).drew.below k21
    have B6_21 := (B6_20.alloc _).drew.below k21
    have B7_21 := (B7_20.alloc _).drew.below k21
    have B8_21 := (B8_20.alloc _).drew.below k21
    have B9_21 := (B9_20.alloc _).drew.below k21
    have B10_21 := (B10_20.alloc _).drew.below k21
    have B11_21 := (Arr_at _ w20.heap.size [.int .i64 0, .int .i64 0, .int .i64 0] _ (by simp)).drew.below k21
    have z21 := B11_21.lies
    have z21_B5 := B5_21.lies
    have z21_B6 := B6_21.lies
    clear zH
    refine hK.out _ _ ⟨B6_21, B3_21⟩ (fun zH => ?_)
    clear hK K K20 B0_20 B1_20 B2_20 B3_20 B4_20 B5_20 B6_20 B7_20 B8_20 B9_20 B10_20 k21
    refine zK 6 (by kernel_rfl) rfl (fun K hK => ?_)
    go_simp
    refine (qMul_any w1.heap.size false ((g4 0), (g4 1), (g4 2), (g4 3)) y _ B2_21).mono ?_
    rintro e w22 ⟨rfl, f22, k22⟩
    rw [hz] at f22 ⊢
    dsimp only at f22 ⊢
    have K22 : Below w.heap.size w w22 := k22.on K21 (by omega)
    have B0_22 := B0_21.kept k22 (zL y3_B0)
    have B1_22 := B1_21.kept k22 (zL y3_B1)
    have B3_22 := B3_21.kept k22 (zG y4_B2)
    have B4_22 := B4_21.kept k22 (zG y5_B2)
    have B5_22 := B5_21.kept k22 (zG s1_3)
    have B6_22 := B6_21.kept k22 (zG s2_3)
    have B7_22 := B7_21.kept k22 (zG y10_B2)
    have B8_22 := B8_21.kept k22 (zG y11_B2)
    have B9_22 := B9_21.kept k22 (zG y12_B2)
    have B10_22 := B10_21.kept k22 (zG y13_B2)
    have B11_22 := B11_21.kept k22 (zG y17_B2)
    have z22 := B11_22.lies
    have z22_B5 := B5_22.lies
    have z22_B6 := B6_22.lies
    clear zH
    refine hK.out _ _ ⟨B6_22, B3_22⟩ (fun zH => ?_)
    clear hK K K21 B0_21 B1_21 B2_21 B3_21 B4_21 B5_21 B6_21 B7_21 B8_21 B9_21 B10_21 B11_21 k22
    refine zK 7 (by kernel_rfl) rfl (fun K hK => ?_)
    go_simp
    refine (qToRod_any w1.heap.size false z _ f22).mono ?_
    rintro e w23 ⟨rfl, f23, k23⟩
    rw [hr] at f23 ⊢
    dsimp only at f23 ⊢
    have K23 : Below w.heap.size w w23 := k23.on K22 (by omega)
    have B0_23 := B0_22.kept k23 (zL y3_B0)
    have B1_23 := B1_22.kept k23 (zL y3_B1)
    have B3_23 := B3_22.kept k23 (zG y4_B2)
    have B4_23 := B4_22.kept k23 (zG y5_B2)
    have B5_23 := B5_22.kept k23 (zG s1_3)
    have B6_23 := B6_22.kept k23 (zG s2_3)
    have B7_23 := B7_22.kept k23 (zG y10_B2)
    have B8_23 := B8_22.kept k23 (zG y11_B2)
    have B9_23 := B9_22.kept k23 (zG y12_B2)
    have B10_23 := B10_22.kept k23 (zG y13_B2)
    have B11_23 := B11_22.kept k23 (zG y17_B2)
    have z23 := B11_23.lies
    have z23_B5 := B5_23.lies
    have z23_B6 := B6_23.lies
    clear zH
    refine hK.out _ _ ⟨B6_23, B3_23⟩ (fun zH => ?_)
    clear hK K K22 B0_22 B1_22 f22 B3_22 B4_22 B5_22 B6_22 B7_22 B8_22 B9_22 B10_22 B11_22 k23
    refine zK 9 (by kernel_rfl) rfl (fun K hK => ?_)
    have c28_B11_0 : w23.cell? ⟨w20.heap.size, 0, none⟩ = some (.int .i64 0) := B11_23.c 0 (zD rfl)
    have c28_B11_1 : w23.cell? ⟨w20.heap.size, 1, none⟩ = some (.int .i64 0) := B11_23.c 1 (zD rfl)
    have c28_B11_2 : w23.cell? ⟨w20.heap.size, 2, none⟩ = some (.int .i64 0) := B11_23.c 2 (zD rfl)
    have g28_B11_0 := B11_23.f 0 (zD rfl)
    have g28_B11_1 := B11_23.f 1 (zD rfl)
    have g28_B11_2 := B11_23.f 2 (zD rfl)
    go_simp
    clear zH
    refine hK.out _ _ ⟨(((B6_23.new w20.heap.size 0 (zL y17_B6) (.int .i64 r.1)).new w20.heap.size 1 (zL y17_B6) (.int .i64 r.2.1)).new w20.heap.size 2 (zL y17_B6) (.int .i64 r.2.2)), (((B3_23.new w20.heap.size 0 (zL y17_B3) (.int .i64 r.1)).new w20.heap.size 1 (zL y17_B3) (.int .i64 r.2.1)).new w20.heap.size 2 (zL y17_B3) (.int .i64 r.2.2))⟩ (fun zH => ?_)
    clear hK K c28_B11_0 c28_B11_1 c28_B11_2 g28_B11_0 g28_B11_1 g28_B11_2
    refine wpAnyH_done (by kernel_rfl) ?_ _
    clear zH
    refine put_cont hKK3 ?_
    exact cont3 _ _ _ _ _ _ _ _ _ _ _ _ _ _ _ _ _ _ _ _ _ _ _ _ _ _ _ _ _ _ _ _ _ _ _ _ _ _ _ _ _ _ _ _ _ _ _ _ _ _ _ _ _ _ _ _ _ _ _ _ _ _ _ _ _ _ _ w20.heap.size (bel_new (bel_new (bel_new K23 _ _ y17_low _) _ _ y17_low _) _ _ y17_low _) (((B0_23.new w20.heap.size 0 (zL y17_B0) (.int .i64 r.1)).new w20.heap.size 1 (zL y17_B0) (.int .i64 r.2.1)).new w20.heap.size 2 (zL y17_B0) (.int .i64 r.2.2)) (((B1_23.new w20.heap.size 0 (zL y17_B1) (.int .i64 r.1)).new w20.heap.size 1 (zL y17_B1) (.int .i64 r.2.1)).new w20.heap.size 2 (zL y17_B1) (.int .i64 r.2.2)) (((f23.new w20.heap.size 0 (zL y17_B2) (.int .i64 r.1)).new w20.heap.size 1 (zL y17_B2) (.int .i64 r.2.1)).new w20.heap.size 2 (zL y17_B2) (.int .i64 r.2.2)) (((B3_23.new w20.heap.size 0 (zL y17_B3) (.int .i64 r.1)).new w20.heap.size 1 (zL y17_B3) (.int .i64 r.2.1)).new w20.heap.size 2 (zL y17_B3) (.int .i64 r.2.2)) (((B4_23.new w20.heap.size 0 (zL y17_B4) (.int .i64 r.1)).new w20.heap.size 1 (zL y17_B4) (.int .i64 r.2.1)).new w20.heap.size 2 (zL y17_B4) (.int .i64 r.2.2)) (((B5_23.new w20.heap.size 0 (zL y17_B5) (.int .i64 r.1)).new w20.heap.size 1 (zL y17_B5) (.int .i64 r.2.1)).new w20.heap.size 2 (zL y17_B5) (.int .i64 r.2.2)) (((B6_23.new w20.heap.size 0 (zL y17_B6) (.int .i64 r.1)).new w20.heap.size 1 (zL y17_B6) (.int .i64 r.2.1)).new w20.heap.size 2 (zL y17_B6) (.int .i64 r.2.2)) (((B7_23.new w20.heap.size 0 (zL y17_B7) (.int .i64 r.1)).new w20.heap.size 1 (zL y17_B7) (.int .i64 r.2.1)).new w20.heap.size 2 (zL y17_B7) (.int .i64 r.2.2)) (((B8_23.new w20.heap.size 0 (zL y17_B8) (.int .i64 r.1)).new w20.heap.size 1 (zL y17_B8) (.int .i64 r.2.1)).new w20.heap.size 2 (zL y17_B8) (.int .i64 r.2.2)) (((B9_23.new w20.heap.size 0 (zL y17_B9) (.int .i64 r.1)).new w20.heap.size 1 (zL y17_B9) (.int .i64 r.2.1)).new w20.heap.size 2 (zL y17_B9) (.int .i64 r.2.2)) (((B10_23.new w20.heap.size 0 (zL y17_B10) (.int .i64 r.1)).new w20.heap.size 1 (zL y17_B10) (.int .i64 r.2.1)).new w20.heap.size 2 (zL y17_B10) (.int .i64 r.2.2)) (((B11_23.put 0 (zD rfl) (.int .i64 r.1) [.int .i64 r.1, .int .i64 0, .int .i64 0] rfl).put 1 (zD rfl) (.int .i64 r.2.1) [.int .i64 r.1, .int .i64 r.2.1, .int .i64 0] rfl).put 2 (zD rfl) (.int .i64 r.2.2) [.int .i64 r.1, .int .i64 r.2.1, .int .i64 r.2.2] rfl) y17_low y17_B0 y17_B1 y17_B2 y17_B3 y17_B4 y17_B5 y17_B6 y17_B7 y17_B8 y17_B9 y17_B10
  refine wp_region_held_drew (S := fun w' => Arr (w.heap.size + 1) [.int .i64 o.1, .int .i64 o.2.1, .int .i64 o.2.2] w' ∧ Arr w2.heap.size [.int .i64 a.1, .int .i64 a.2.1, .int .i64 a.2.2.1, .int .i64 a.2.2.2] w') (by kernel_rfl) ⟨B1_c1.drew, B3_c1.drew⟩ (fun zH => ?_)
  refine zT 0 rfl (by kernel_rfl) (fun _ _ _ => id) rfl (fun _ _ => by go_simp <;> with_reducible rfl) zH ?_
  simp only [Act.put, zA, zB, zC]
  refine zT 1 rfl (by kernel_rfl) (fun _ _ _ => id) rfl (fun _ _ => by go_simp <;> with_reducible rfl) zH ?_
  simp only [Act.put, zA, zB, zC]
  refine zT 2 rfl (by kernel_rfl) (fun _ _ _ => id) rfl (fun _ _ => by go_simp <;> with_reducible rfl) zH ?_
  simp only [Act.put, zA, zB, zC]
  refine zT 3 rfl (by kernel_rfl) (fun _ _ _ => id) rfl (fun wx hSw => by have hc0 : wx.cell? ⟨w.heap.size + 1, 0, none⟩ = some (.int .i64 o.1) := hSw.1.c 0 (zD rfl); have hc1 : wx.cell? ⟨w.heap.size + 1, 1, none⟩ = some (.int .i64 o.2.1) := hSw.1.c 1 (zD rfl); have hc2 : wx.cell? ⟨w.heap.size + 1, 2, none⟩ = some (.int .i64 o.2.2) := hSw.1.c 2 (zD rfl); go_simp <;> with_reducible rfl) zH ?_
  simp only [Act.put, zA, zB, zC]
  refine zT 5 rfl (by kernel_rfl) (fun _ _ _ => id) rfl (fun wx hSw => by have hc0 : wx.cell? ⟨w2.heap.size, 0, none⟩ = some (.int .i64 a.1) := hSw.2.c 0 (zD rfl); have hc1 : wx.cell? ⟨w2.heap.size, 1, none⟩ = some (.int .i64 a.2.1) := hSw.2.c 1 (zD rfl); have hc2 : wx.cell? ⟨w2.heap.size, 2, none⟩ = some (.int .i64 a.2.2.1) := hSw.2.c 2 (zD rfl); have hc3 : wx.cell? ⟨w2.heap.size, 3, none⟩ = some (.int .i64 a.2.2.2) := hSw.2.c 3 (zD rfl); go_simp <;> with_reducible rfl) zH ?_
  simp only [Act.put, zA, zB, zC]
  refine call_at2 (i0 := 4) (i1 := 9) (by kernel_rfl) rfl rfl (fun K hK => ?_) (fun K hK => ?_)
  ·go_simp
   refine (qFromRod_any w1.heap.size false o _ B2_c1.drew).mono ?_
   rintro e w5 ⟨rfl, f5, k5⟩
   rw [hF] at f5 ⊢
   dsimp only at f5 ⊢
   have K5 : Below w.heap.size w w5 := k5.on (Below.drew KC1) (by omega)
   have B0_5 := B0_c1.drew.kept k5 (zL y3_B0)
   have B1_5 := B1_c1.drew.kept k5 (zL y3_B1)
   have B3_5 := B3_c1.drew.kept k5 (zG y4_B2)
   have B4_5 := B4_c1.drew.kept k5 (zG y5_B2)
   have B5_5 := B5_c1.drew.kept k5 (zG s1_3)
   have z5 := B5_5.lies
   clear zH
   refine hK.out _ _ ⟨B1_5, B3_5⟩ (fun zH => ?_)
   clear hK K B0_c1 B1_c1 B2_c1 B3_c1 B4_c1 B5_c1 k5
   refine call_at2 (i0 := 6) (i1 := 9) (by kernel_rfl) rfl rfl (fun K hK => ?_) (fun K hK => ?_)
   ·go_simp
    refine (qMul_any w1.heap.size false f a _ f5).mono ?_
    rintro e w6 ⟨rfl, f6, k6⟩
    rw [hM] at f6 ⊢
    dsimp only at f6 ⊢
    have K6 : Below w.heap.size w w6 := k6.on K5 (by omega)
    have B0_6 := B0_5.kept k6 (zL y3_B0)
    have B1_6 := B1_5.kept k6 (zL y3_B1)
    have B3_6 := B3_5.kept k6 (zG y4_B2)
    have B4_6 := B4_5.kept k6 (zG y5_B2)
    have B5_6 := B5_5.kept k6 (zG s1_3)
    have z6 := B5_6.lies
    clear zH
    refine hK.out _ _ ⟨B1_6, B3_6⟩ (fun zH => ?_)
    clear hK K K5 B0_5 B1_5 f5 B3_5 B4_5 B5_5 k6
    refine call_at2 (i0 := 7) (i1 := 9) (by kernel_rfl) rfl rfl (fun K hK => ?_) (fun K hK => ?_)
    ·go_simp
     refine (qUnit_any w1.heap.size false c _ f6).mono ?_
     rintro e w7 ⟨rfl, f7, k7⟩
     rw [hQ] at f7 ⊢
     dsimp only at f7 ⊢
     have K7 : Below w.heap.size w w7 := k7.on K6 (by omega)
     have B0_7 := B0_6.kept k7 (zL y3_B0)
     have B1_7 := B1_6.kept k7 (zL y3_B1)
     have B3_7 := B3_6.kept k7 (zG y4_B2)
     have B4_7 := B4_6.kept k7 (zG y5_B2)
     have B5_7 := B5_6.kept k7 (zG s1_3)
     have z7 := B5_7.lies
     clear zH
     refine hK.out _ _ ⟨B1_7, B3_7⟩ (fun zH => ?_)
     clear hK K K6 B0_6 B1_6 f6 B3_6 B4_6 B5_6 k7
     refine call_at2 (i0 := 8) (i1 := 9) (by kernel_rfl) rfl rfl (fun K hK => ?_) (fun K hK => ?_)
     ·go_simp
      refine (hStart_any k _).mono ?_
      rintro e w8 ⟨rfl, k8⟩
      rw [hS]
      try dsimp only
      have K8 : Below w.heap.size w w8 := bel_then K7 k8
      have B0_8 := B0_7.below k8
      have B1_8 := B1_7.below k8
      have B2_8 := f7.below k8
      have B3_8 := B3_7.below k8
      have B4_8 := B4_7.below k8
      have B5_8 := B5_7.below k8
      have z8 := B5_8.lies
      clear zH
      refine hK.out _ _ ⟨B1_8, B3_8⟩ (fun zH => ?_)
      clear hK K K7 B0_7 B1_7 f7 B3_7 B4_7 B5_7 k8
      refine zK 9 (by kernel_rfl) rfl (fun K hK => ?_)
      have y18_B0 := B0_8.lies
      have y18_B1 := B1_8.lies
      have y18_B2 := B2_8.lies
      have y18_B3 := B3_8.lies
      have y18_B4 := B4_8.lies
      have y18_B5 := B5_8.lies
      have y18_low : w.heap.size ≤ w8.heap.size := K8.size
      go_simp
      clear zH
      refine hK.out _ _ ⟨(B1_8.alloc _), (B3_8.alloc _)⟩ (fun zH => ?_)
      clear hK K
      refine zK 10 (by kernel_rfl) rfl (fun K hK => ?_)
      refine row_store_at (l' := row 43 g0) (by rfl) rfl rfl rfl (Arr_at _ _ (row 43 (fun _ => 0)) _ (by simp)) (by simp only [row_len]) (by rw [row_len]; kernel_rfl) (row_one _ _) ?_
      intro w9 B6_9 o9
      have K9 : Below w.heap.size w w9 := bel_off (bel_al K8 _) o9 y18_low
      have B0_9 := (B0_8.alloc _).off o9 (zL y18_B0)
      have B1_9 := (B1_8.alloc _).off o9 (zL y18_B1)
      have B2_9 := (B2_8.alloc _).off o9 (zL y18_B2)
      have B3_9 := (B3_8.alloc _).off o9 (zL y18_B3)
      have B4_9 := (B4_8.alloc _).off o9 (zL y18_B4)
      have B5_9 := (B5_8.alloc _).off o9 (zL y18_B5)
      have z9_B6 := B6_9.lies
      have z9_B0 := B0_9.lies
      have z9_B1 := B1_9.lies
      have z9_B2 := B2_9.lies
      have z9_B3 := B3_9.lies
      have z9_B4 := B4_9.lies
      have z9_B5 := B5_9.lies
      simp only [Act.put]
      clear zH
      refine hK.out _ _ ⟨B1_9, B3_9⟩ (fun zH => ?_)
      clear hK K K8 B0_8 B1_8 B2_8 B3_8 B4_8 B5_8 o9
      refine wpAnyH_done (by kernel_rfl) ?_ _
      clear zH
      refine put_cont hKK2 ?_
      exact cont2 _ _ _ _ _ _ _ _ _ _ _ _ _ _ _ _ _ _ _ _ _ _ _ _ _ _ _ _ _ _ _ _ _ _ _ _ _ _ _ _ _ _ _ _ w8.heap.size K9 B0_9 B1_9 B2_9 B3_9 B4_9 B5_9 B6_9 y18_low y18_B0 y18_B1 y18_B2 y18_B3 y18_B4 y18_B5
     ·have y19_B0 := B0_7.lies
      have y19_B1 := B1_7.lies
      have y19_B2 := f7.lies
      have y19_B3 := B3_7.lies
      have y19_B4 := B4_7.lies
      have y19_B5 := B5_7.lies
      have y19_low : w.heap.size ≤ w7.heap.size := K7.size
      go_simp
      clear zH
      refine hK.out _ _ ⟨(B1_7.alloc _), (B3_7.alloc _)⟩ (fun zH => ?_)
      clear hK K
      refine zK 8 (by kernel_rfl) rfl (fun K hK => ?_)
      go_simp
      refine (hStart_any k _).mono ?_
      rintro e w8 ⟨rfl, k8⟩
      rw [hS]
      try dsimp only
      have K8 : Below w.heap.size w w8 := bel_then (bel_al K7 _) k8
      have B0_8 := (B0_7.alloc _).below k8
      have B1_8 := (B1_7.alloc _).below k8
      have B2_8 := (f7.alloc _).below k8
      have B3_8 := (B3_7.alloc _).below k8
      have B4_8 := (B4_7.alloc _).below k8
      have B5_8 := (B5_7.alloc _).below k8
      have B6_8 := (Arr_at _ w7.heap.size (row 43 (fun _ => 0)) _ (by simp)).below k8
      have z8 := B6_8.lies
      have z8_B5 := B5_8.lies
      clear zH
      refine hK.out _ _ ⟨B1_8, B3_8⟩ (fun zH => ?_)
      clear hK K K7 B0_7 B1_7 f7 B3_7 B4_7 B5_7 k8
      refine zK 10 (by kernel_rfl) rfl (fun K hK => ?_)
      refine row_store_at (l' := row 43 g0) (by rfl) rfl rfl rfl B6_8 (by simp only [row_len]) (by rw [row_len]; kernel_rfl) (row_one _ _) ?_
      intro w9 B6_9 o9
      have K9 : Below w.heap.size w w9 := bel_off K8 o9 y19_low
      have B0_9 := B0_8.off o9 (zL y19_B0)
      have B1_9 := B1_8.off o9 (zL y19_B1)
      have B2_9 := B2_8.off o9 (zL y19_B2)
      have B3_9 := B3_8.off o9 (zL y19_B3)
      have B4_9 := B4_8.off o9 (zL y19_B4)
      have B5_9 := B5_8.off o9 (zL y19_B5)
      have z9_B6 := B6_9.lies
      have z9_B0 := B0_9.lies
      have z9_B1 := B1_9.lies
      have z9_B2 := B2_9.lies
      have z9_B3 := B3_9.lies
      have z9_B4 := B4_9.lies
      have z9_B5 := B5_9.lies
      simp only [Act.put]
      clear zH
      refine hK.out _ _ ⟨B1_9, B3_9⟩ (fun zH => ?_)
      clear hK K K8 B6_8 B0_8 B1_8 B2_8 B3_8 B4_8 B5_8 o9
      refine wpAnyH_done (by kernel_rfl) ?_ _
      clear zH
      refine put_cont hKK2 ?_
      exact cont2 _ _ _ _ _ _ _ _ _ _ _ _ _ _ _ _ _ _ _ _ _ _ _ _ _ _ _ _ _ _ _ _ _ _ _ _ _ _ _ _ _ _ _ _ w7.heap.size K9 B0_9 B1_9 B2_9 B3_9 B4_9 B5_9 B6_9 y19_low y19_B0 y19_B1 y19_B2 y19_B3 y19_B4 y19_B5
    ·have y20_B0 := B0_6.lies
     have y20_B1 := B1_6.lies
     have y20_B2 := f6.lies
     have y20_B3 := B3_6.lies
     have y20_B4 := B4_6.lies
     have y20_B5 := B5_6.lies
     have y20_low : w.heap.size ≤ w6.heap.size := K6.size
     go_simp
     clear zH
     refine hK.out _ _ ⟨(B1_6.alloc _), (B3_6.alloc _)⟩ (fun zH => ?_)
     clear hK K
     refine zK 7 (by kernel_rfl) rfl (fun K hK => ?_)
     go_simp
     refine (qUnit_any w1.heap.size false c _ (f6.alloc _)).mono ?_
     rintro e w7 ⟨rfl, f7, k7⟩
     rw [hQ] at f7 ⊢
     dsimp only at f7 ⊢
     have K7 : Below w.heap.size w w7 := k7.on (bel_al K6 _) (by omega)
     have B0_7 := (B0_6.alloc _).kept k7 (zL y3_B0)
     have B1_7 := (B1_6.alloc _).kept k7 (zL y3_B1)
     have B3_7 := (B3_6.alloc _).kept k7 (zG y4_B2)
     have B4_7 := (B4_6.alloc _).kept k7 (zG y5_B2)
     have B5_7 := (B5_6.alloc _).kept k7 (zG s1_3)
     have B6_7 := (Arr_at _ w6.heap.size (row 43 (fun _ => 0)) _ (by simp)).kept k7 (zG y20_B2)
     have z7 := B6_7.lies
     have z7_B5 := B5_7.lies
     clear zH
     refine hK.out _ _ ⟨B1_7, B3_7⟩ (fun zH => ?_)
     clear hK K K6 B0_6 B1_6 f6 B3_6 B4_6 B5_6 k7
     refine zK 8 (by kernel_rfl) rfl (fun K hK => ?_)
     go_simp
     refine (hStart_any k _).mono ?_
     rintro e w8 ⟨rfl, k8⟩
     rw [hS]
     try dsimp only
     have K8 : Below w.heap.size w w8 := bel_then K7 k8
     have B0_8 := B0_7.below k8
     have B1_8 := B1_7.below k8
     have B2_8 := f7.below k8
     have B3_8 := B3_7.below k8
     have B4_8 := B4_7.below k8
     have B5_8 := B5_7.below k8
     have B6_8 := B6_7.below k8
     have z8 := B6_8.lies
     have z8_B5 := B5_8.lies
     clear zH
     refine hK.out _ _ ⟨B1_8, B3_8⟩ (fun zH => ?_)
     clear hK K K7 B0_7 B1_7 f7 B3_7 B4_7 B5_7 B6_7 k8
     refine zK 10 (by kernel_rfl) rfl (fun K hK => ?_)
     refine row_store_at (l' := row 43 g0) (by rfl) rfl rfl rfl B6_8 (by simp only [row_len]) (by rw [row_len]; kernel_rfl) (row_one _ _) ?_
     intro w9 B6_9 o9
     have K9 : Below w.heap.size w w9 := bel_off K8 o9 y20_low
     have B0_9 := B0_8.off o9 (zL y20_B0)
     have B1_9 := B1_8.off o9 (zL y20_B1)
     have B2_9 := B2_8.off o9 (zL y20_B2)
     have B3_9 := B3_8.off o9 (zL y20_B3)
     have B4_9 := B4_8.off o9 (zL y20_B4)
     have B5_9 := B5_8.off o9 (zL y20_B5)
     have z9_B6 := B6_9.lies
     have z9_B0 := B0_9.lies
     have z9_B1 := B1_9.lies
     have z9_B2 := B2_9.lies
     have z9_B3 := B3_9.lies
     have z9_B4 := B4_9.lies
     have z9_B5 := B5_9.lies
     simp only [Act.put]
     clear zH
     refine hK.out _ _ ⟨B1_9, B3_9⟩ (fun zH => ?_)
     clear hK K K8 B6_8 B0_8 B1_8 B2_8 B3_8 B4_8 B5_8 o9
     refine wpAnyH_done (by kernel_rfl) ?_ _
     clear zH
     refine put_cont hKK2 ?_
     exact cont2 _ _ _ _ _ _ _ _ _ _ _ _ _ _ _ _ _ _ _ _ _ _ _ _ _ _ _ _ _ _ _ _ _ _ _ _ _ _ _ _ _ _ _ _ w6.heap.size K9 B0_9 B1_9 B2_9 B3_9 B4_9 B5_9 B6_9 y20_low y20_B0 y20_B1 y20_B2 y20_B3 y20_B4 y20_B5
   ·have y21_B0 := B0_5.lies
    have y21_B1 := B1_5.lies
    have y21_B2 := f5.lies
    have y21_B3 := B3_5.lies
    have y21_B4 := B4_5.lies
    have y21_B5 := B5_5.lies
    have y21_low : w.heap.size ≤ w5.heap.size := K5.size
    go_simp
    clear zH
    refine hK.out _ _ ⟨(B1_5.alloc _), (B3_5.alloc _)⟩ (fun zH => ?_)
    clear hK K
    refine zK 6 (by kernel_rfl) rfl (fun K hK => ?_)
    go_simp
    refine (qMul_any w1.heap.size false f a _ (f5.alloc _)).mono ?_
    rintro e w6 ⟨rfl, f6, k6⟩
    rw [hM] at f6 ⊢
    dsimp only at f6 ⊢
    have K6 : Below w.heap.size w w6 := k6.on (bel_al K5 _) (by omega)
    have B0_6 := (B0_5.alloc _).kept k6 (zL y3_B0)
    have B1_6 := (B1_5.alloc _).kept k6 (zL y3_B1)
    have B3_6 := (B3_5.alloc _).kept k6 (zG y4_B2)
    have B4_6 := (B4_5.alloc _).kept k6 (zG y5_B2)
    have B5_6 := (B5_5.alloc _).kept k6 (zG s1_3)
    have B6_6 := (Arr_at _ w5.heap.size (row 43 (fun _ => 0)) _ (by simp)).kept k6 (zG y21_B2)
    have z6 := B6_6.lies
    have z6_B5 := B5_6.lies
    clear zH
    refine hK.out _ _ ⟨B1_6, B3_6⟩ (fun zH => ?_)
    clear hK K K5 B0_5 B1_5 f5 B3_5 B4_5 B5_5 k6
    refine zK 7 (by kernel_rfl) rfl (fun K hK => ?_)
    go_simp
    refine (qUnit_any w1.heap.size false c _ f6).mono ?_
    rintro e w7 ⟨rfl, f7, k7⟩
    rw [hQ] at f7 ⊢
    dsimp only at f7 ⊢
    have K7 : Below w.heap.size w w7 := k7.on K6 (by omega)
    have B0_7 := B0_6.kept k7 (zL y3_B0)
    have B1_7 := B1_6.kept k7 (zL y3_B1)
    have B3_7 := B3_6.kept k7 (zG y4_B2)
    have B4_7 := B4_6.kept k7 (zG y5_B2)
    have B5_7 := B5_6.kept k7 (zG s1_3)
    have B6_7 := B6_6.kept k7 (zG y21_B2)
    have z7 := B6_7.lies
    have z7_B5 := B5_7.lies
    clear zH
    refine hK.out _ _ ⟨B1_7, B3_7⟩ (fun zH => ?_)
    clear hK K K6 B0_6 B1_6 f6 B3_6 B4_6 B5_6 B6_6 k7
    refine zK 8 (by kernel_rfl) rfl (fun K hK => ?_)
    go_simp
    refine (hStart_any k _).mono ?_
    rintro e w8 ⟨rfl, k8⟩
    rw [hS]
    try dsimp only
    have K8 : Below w.heap.size w w8 := bel_then K7 k8
    have B0_8 := B0_7.below k8
    have B1_8 := B1_7.below k8
    have B2_8 := f7.below k8
    have B3_8 := B3_7.below k8
    have B4_8 := B4_7.below k8
    have B5_8 := B5_7.below k8
    have B6_8 := B6_7.below k8
    have z8 := B6_8.lies
    have z8_B5 := B5_8.lies
    clear zH
    refine hK.out _ _ ⟨B1_8, B3_8⟩ (fun zH => ?_)
    clear hK K K7 B0_7 B1_7 f7 B3_7 B4_7 B5_7 B6_7 k8
    refine zK 10 (by kernel_rfl) rfl (fun K hK => ?_)
    refine row_store_at (l' := row 43 g0) (by rfl) rfl rfl rfl B6_8 (by simp only [row_len]) (by rw [row_len]; kernel_rfl) (row_one _ _) ?_
    intro w9 B6_9 o9
    have K9 : Below w.heap.size w w9 := bel_off K8 o9 y21_low
    have B0_9 := B0_8.off o9 (zL y21_B0)
    have B1_9 := B1_8.off o9 (zL y21_B1)
    have B2_9 := B2_8.off o9 (zL y21_B2)
    have B3_9 := B3_8.off o9 (zL y21_B3)
    have B4_9 := B4_8.off o9 (zL y21_B4)
    have B5_9 := B5_8.off o9 (zL y21_B5)
    have z9_B6 := B6_9.lies
    have z9_B0 := B0_9.lies
    have z9_B1 := B1_9.lies
    have z9_B2 := B2_9.lies
    have z9_B3 := B3_9.lies
    have z9_B4 := B4_9.lies
    have z9_B5 := B5_9.lies
    simp only [Act.put]
    clear zH
    refine hK.out _ _ ⟨B1_9, B3_9⟩ (fun zH => ?_)
    clear hK K K8 B6_8 B0_8 B1_8 B2_8 B3_8 B4_8 B5_8 o9
    refine wpAnyH_done (by kernel_rfl) ?_ _
    clear zH
    refine put_cont hKK2 ?_
    exact cont2 _ _ _ _ _ _ _ _ _ _ _ _ _ _ _ _ _ _ _ _ _ _ _ _ _ _ _ _ _ _ _ _ _ _ _ _ _ _ _ _ _ _ _ _ w5.heap.size K9 B0_9 B1_9 B2_9 B3_9 B4_9 B5_9 B6_9 y21_low y21_B0 y21_B1 y21_B2 y21_B3 y21_B4 y21_B5
  ·have y22_B0 := B0_c1.lies
   have y22_B1 := B1_c1.lies
   have y22_B2 := B2_c1.lies
   have y22_B3 := B3_c1.lies
   have y22_B4 := B4_c1.lies
   have y22_B5 := B5_c1.lies
   have y22_low : w.heap.size ≤ W1.heap.size := KC1.size
   go_simp
   clear zH
   refine hK.out _ _ ⟨(B1_c1.alloc _).drew, (B3_c1.alloc _).drew⟩ (fun zH => ?_)
   clear hK K
   refine zK 4 (by kernel_rfl) rfl (fun K hK => ?_)
   go_simp
   refine (qFromRod_any w1.heap.size false o _ (B2_c1.alloc _).drew).mono ?_
   rintro e w5 ⟨rfl, f5, k5⟩
   rw [hF] at f5 ⊢
   dsimp only at f5 ⊢
   have K5 : Below w.heap.size w w5 := k5.on (Below.drew (bel_al KC1 _)) (by omega)
   have B0_5 := (B0_c1.alloc _).drew.kept k5 (zL y3_B0)
   have B1_5 := (B1_c1.alloc _).drew.kept k5 (zL y3_B1)
   have B3_5 := (B3_c1.alloc _).drew.kept k5 (zG y4_B2)
   have B4_5 := (B4_c1.alloc _).drew.kept k5 (zG y5_B2)
   have B5_5 := (B5_c1.alloc _).drew.kept k5 (zG s1_3)
   have B6_5 := (Arr_at _ W1.heap.size (row 43 (fun _ => 0)) _ (by simp)).drew.kept k5 (zG y22_B2)
   have z5 := B6_5.lies
   have z5_B5 := B5_5.lies
   clear zH
   refine hK.out _ _ ⟨B1_5, B3_5⟩ (fun zH => ?_)
   clear hK K B0_c1 B1_c1 B2_c1 B3_c1 B4_c1 B5_c1 k5
   refine zK 6 (by kernel_rfl) rfl (fun K hK => ?_)
   go_simp
   refine (qMul_any w1.heap.size false f a _ f5).mono ?_
   rintro e w6 ⟨rfl, f6, k6⟩
   rw [hM] at f6 ⊢
   dsimp only at f6 ⊢
   have K6 : Below w.heap.size w w6 := k6.on K5 (by omega)
   have B0_6 := B0_5.kept k6 (zL y3_B0)
   have B1_6 := B1_5.kept k6 (zL y3_B1)
   have B3_6 := B3_5.kept k6 (zG y4_B2)
   have B4_6 := B4_5.kept k6 (zG y5_B2)
   have B5_6 := B5_5.kept k6 (zG s1_3)
   have B6_6 := B6_5.kept k6 (zG y22_B2)
   have z6 := B6_6.lies
   have z6_B5 := B5_6.lies
   clear zH
   refine hK.out _ _ ⟨B1_6, B3_6⟩ (fun zH => ?_)
   clear hK K K5 B0_5 B1_5 f5 B3_5 B4_5 B5_5 B6_5 k6
   refine zK 7 (by kernel_rfl) rfl (fun K hK => ?_)
   go_simp
   refine (qUnit_any w1.heap.size false c _ f6).mono ?_
   rintro e w7 ⟨rfl, f7, k7⟩
   rw [hQ] at f7 ⊢
   dsimp only at f7 ⊢
   have K7 : Below w.heap.size w w7 := k7.on K6 (by omega)
   have B0_7 := B0_6.kept k7 (zL y3_B0)
   have B1_7 := B1_6.kept k7 (zL y3_B1)
   have B3_7 := B3_6.kept k7 (zG y4_B2)
   have B4_7 := B4_6.kept k7 (zG y5_B2)
   have B5_7 := B5_6.kept k7 (zG s1_3)
   have B6_7 := B6_6.kept k7 (zG y22_B2)
   have z7 := B6_7.lies
   have z7_B5 := B5_7.lies
   clear zH
   refine hK.out _ _ ⟨B1_7, B3_7⟩ (fun zH => ?_)
   clear hK K K6 B0_6 B1_6 f6 B3_6 B4_6 B5_6 B6_6 k7
   refine zK 8 (by kernel_rfl) rfl (fun K hK => ?_)
   go_simp
   refine (hStart_any k _).mono ?_
   rintro e w8 ⟨rfl, k8⟩
   rw [hS]
   try dsimp only
   have K8 : Below w.heap.size w w8 := bel_then K7 k8
   have B0_8 := B0_7.below k8
   have B1_8 := B1_7.below k8
   have B2_8 := f7.below k8
   have B3_8 := B3_7.below k8
   have B4_8 := B4_7.below k8
   have B5_8 := B5_7.below k8
   have B6_8 := B6_7.below k8
   have z8 := B6_8.lies
   have z8_B5 := B5_8.lies
   clear zH
   refine hK.out _ _ ⟨B1_8, B3_8⟩ (fun zH => ?_)
   clear hK K K7 B0_7 B1_7 f7 B3_7 B4_7 B5_7 B6_7 k8
   refine zK 10 (by kernel_rfl) rfl (fun K hK => ?_)
   refine row_store_at (l' := row 43 g0) (by rfl) rfl rfl rfl B6_8 (by simp only [row_len]) (by rw [row_len]; kernel_rfl) (row_one _ _) ?_
   intro w9 B6_9 o9
   have K9 : Below w.heap.size w w9 := bel_off K8 o9 y22_low
   have B0_9 := B0_8.off o9 (zL y22_B0)
   have B1_9 := B1_8.off o9 (zL y22_B1)
   have B2_9 := B2_8.off o9 (zL y22_B2)
   have B3_9 := B3_8.off o9 (zL y22_B3)
   have B4_9 := B4_8.off o9 (zL y22_B4)
   have B5_9 := B5_8.off o9 (zL y22_B5)
   have z9_B6 := B6_9.lies
   have z9_B0 := B0_9.lies
   have z9_B1 := B1_9.lies
   have z9_B2 := B2_9.lies
   have z9_B3 := B3_9.lies
   have z9_B4 := B4_9.lies
   have z9_B5 := B5_9.lies
   simp only [Act.put]
   clear zH
   refine hK.out _ _ ⟨B1_9, B3_9⟩ (fun zH => ?_)
   clear hK K K8 B6_8 B0_8 B1_8 B2_8 B3_8 B4_8 B5_8 o9
   refine wpAnyH_done (by kernel_rfl) ?_ _
   clear zH
   refine put_cont hKK2 ?_
   exact cont2 _ _ _ _ _ _ _ _ _ _ _ _ _ _ _ _ _ _ _ _ _ _ _ _ _ _ _ _ _ _ _ _ _ _ _ _ _ _ _ _ _ _ _ _ W1.heap.size K9 B0_9 B1_9 B2_9 B3_9 B4_9 B5_9 B6_9 y22_low y22_B0 y22_B1 y22_B2 y22_B3 y22_B4 y22_B5
 refine wp_region_held_drew (S := fun w' => Arr w2.heap.size [.int .i64 a.1, .int .i64 a.2.1, .int .i64 a.2.2.1, .int .i64 a.2.2.2] w' ∧ Arr (w2.heap.size + 1) [.int .i64 1099511627776, .int .i64 0, .int .i64 0, .int .i64 0, .int .i64 1099511627776, .int .i64 0] w') (by kernel_rfl) ⟨((Arr_at _ _ [.int .i64 a.1, .int .i64 a.2.1, .int .i64 a.2.2.1, .int .i64 a.2.2.2] _ (by simp)).alloc _).drew, (Arr_at _ _ [.int .i64 1099511627776, .int .i64 0, .int .i64 0, .int .i64 0, .int .i64 1099511627776, .int .i64 0] _ (by simp)).drew⟩ (fun zH => ?_)
 refine zT 0 rfl (by kernel_rfl) (fun _ _ _ => id) rfl (fun _ _ => by go_simp <;> with_reducible rfl) zH ?_
 simp only [Act.put, zA, zB, zC]
 refine zT 1 rfl (by kernel_rfl) (fun _ _ _ => id) rfl (fun wx hSw => by have hc0 : wx.cell? ⟨w2.heap.size, 0, none⟩ = some (.int .i64 a.1) := hSw.1.c 0 (zD rfl); have hc1 : wx.cell? ⟨w2.heap.size, 1, none⟩ = some (.int .i64 a.2.1) := hSw.1.c 1 (zD rfl); have hc2 : wx.cell? ⟨w2.heap.size, 2, none⟩ = some (.int .i64 a.2.2.1) := hSw.1.c 2 (zD rfl); have hc3 : wx.cell? ⟨w2.heap.size, 3, none⟩ = some (.int .i64 a.2.2.2) := hSw.1.c 3 (zD rfl); go_simp <;> with_reducible rfl) zH ?_
 simp only [Act.put, zA, zB, zC]
 refine zT 2 rfl (by kernel_rfl) (fun _ _ _ => id) rfl (fun _ _ => by go_simp <;> with_reducible rfl) zH ?_
 simp only [Act.put, zA, zB, zC]
 refine zT 3 rfl (by kernel_rfl) (fun _ _ _ => id) rfl (fun wx hSw => by have hc0 : wx.cell? ⟨w2.heap.size + 1, 0, none⟩ = some (.int .i64 1099511627776) := hSw.2.c 0 (zD rfl); have hc1 : wx.cell? ⟨w2.heap.size + 1, 1, none⟩ = some (.int .i64 0) := hSw.2.c 1 (zD rfl); have hc2 : wx.cell? ⟨w2.heap.size + 1, 2, none⟩ = some (.int .i64 0) := hSw.2.c 2 (zD rfl); go_simp <;> with_reducible rfl) zH ?_
 simp only [Act.put, zA, zB, zC]
 refine zT 5 rfl (by kernel_rfl) (fun _ _ _ => id) rfl (fun _ _ => by go_simp <;> with_reducible rfl) zH ?_
 simp only [Act.put, zA, zB, zC]
 refine zT 6 rfl (by kernel_rfl) (fun _ _ _ => id) rfl (fun wx hSw => by have hc0 : wx.cell? ⟨w2.heap.size, 0, none⟩ = some (.int .i64 a.1) := hSw.1.c 0 (zD rfl); have hc1 : wx.cell? ⟨w2.heap.size, 1, none⟩ = some (.int .i64 a.2.1) := hSw.1.c 1 (zD rfl); have hc2 : wx.cell? ⟨w2.heap.size, 2, none⟩ = some (.int .i64 a.2.2.1) := hSw.1.c 2 (zD rfl); have hc3 : wx.cell? ⟨w2.heap.size, 3, none⟩ = some (.int .i64 a.2.2.2) := hSw.1.c 3 (zD rfl); go_simp <;> with_reducible rfl) zH ?_
 simp only [Act.put, zA, zB, zC]
 refine zT 7 rfl (by kernel_rfl) (fun _ _ _ => id) rfl (fun _ _ => by go_simp <;> with_reducible rfl) zH ?_
 simp only [Act.put, zA, zB, zC]
 refine zT 8 rfl (by kernel_rfl) (fun _ _ _ => id) rfl (fun wx hSw => by have hc3 : wx.cell? ⟨w2.heap.size + 1, 3, none⟩ = some (.int .i64 0) := hSw.2.c 3 (zD rfl); have hc4 : wx.cell? ⟨w2.heap.size + 1, 4, none⟩ = some (.int .i64 1099511627776) := hSw.2.c 4 (zD rfl); have hc5 : wx.cell? ⟨w2.heap.size + 1, 5, none⟩ = some (.int .i64 0) := hSw.2.c 5 (zD rfl); go_simp <;> with_reducible rfl) zH ?_
 simp only [Act.put, zA, zB, zC]
 refine call_at2 (i0 := 4) (i1 := 11) (by kernel_rfl) rfl rfl (fun K hK => ?_) (fun K hK => ?_)
 ·go_simp
  refine (qTurn_any w1.heap.size false a (1099511627776, 0, 0) _ ((f2.alloc _).alloc _).drew).mono ?_
  rintro e w3 ⟨rfl, f3, k3⟩
  rw [hT] at f3 ⊢
  dsimp only at f3 ⊢
  have K3 : Below w.heap.size w w3 := k3.on (Below.drew (bel_al (bel_al K2 _) _)) (by omega)
  have B0_3 := ((B0_2.alloc _).alloc _).drew.kept k3 (zL y3_B0)
  have B1_3 := ((B1_2.alloc _).alloc _).drew.kept k3 (zL y3_B1)
  have B3_3 := ((Arr_at _ w2.heap.size [.int .i64 a.1, .int .i64 a.2.1, .int .i64 a.2.2.1, .int .i64 a.2.2.2] _ (by simp)).alloc _).drew.kept k3 (zG y4_B2)
  have B4_3 := (Arr_at _ (w2.heap.size + 1) [.int .i64 1099511627776, .int .i64 0, .int .i64 0, .int .i64 0, .int .i64 1099511627776, .int .i64 0] _ (by simp)).drew.kept k3 (zG y5_B2)
  have z3 := B4_3.lies
  clear zH
  refine hK.out _ _ ⟨B3_3, B4_3⟩ (fun zH => ?_)
  clear hK K K2 B0_2 B1_2 f2 k3
  refine call_at2 (i0 := 9) (i1 := 11) (by kernel_rfl) rfl rfl (fun K hK => ?_) (fun K hK => ?_)
  ·go_simp
   refine (qTurn_any w1.heap.size false a (0, 1099511627776, 0) _ f3).mono ?_
   rintro e w4 ⟨rfl, f4, k4⟩
   rw [hV] at f4 ⊢
   dsimp only at f4 ⊢
   have K4 : Below w.heap.size w w4 := k4.on K3 (by omega)
   have B0_4 := B0_3.kept k4 (zL y3_B0)
   have B1_4 := B1_3.kept k4 (zL y3_B1)
   have B3_4 := B3_3.kept k4 (zG y4_B2)
   have B4_4 := B4_3.kept k4 (zG y5_B2)
   have z4 := B4_4.lies
   clear zH
   refine hK.out _ _ ⟨B3_4, B4_4⟩ (fun zH => ?_)
   clear hK K K3 B0_3 B1_3 f3 B3_3 B4_3 k4
   refine zT 10 rfl (by kernel_rfl) (fun _ _ _ => id) rfl (fun _ _ => by go_simp <;> with_reducible rfl) zH ?_
   simp only [Act.put, zA, zB, zC]
   refine zK 11 (by kernel_rfl) rfl (fun K hK => ?_)
   have y23_B0 := B0_4.lies
   have y23_B1 := B1_4.lies
   have y23_B2 := f4.lies
   have y23_B3 := B3_4.lies
   have y23_B4 := B4_4.lies
   have y23_low : w.heap.size ≤ w4.heap.size := K4.size
   go_simp
   clear zH
   refine hK.out _ _ ⟨(B3_4.alloc _), (B4_4.alloc _)⟩ (fun zH => ?_)
   clear hK K
   refine zK 12 (by kernel_rfl) rfl (fun K hK => ?_)
   go_simp
   clear zH
   refine hK.out _ _ ⟨(B3_4.alloc _), (B4_4.alloc _)⟩ (fun zH => ?_)
   clear hK K
   refine wpAnyH_done (by kernel_rfl) ?_ _
   clear zH
   refine put_cont hKK1 ?_
   exact cont1 _ _ _ _ _ _ _ _ _ _ _ _ _ _ _ _ _ _ _ _ _ _ _ _ _ _ _ _ _ _ _ _ _ _ _ w4.heap.size (bel_al K4 _) (B0_4.alloc _) (B1_4.alloc _) (f4.alloc _) (B3_4.alloc _) (B4_4.alloc _) (Arr_at _ _ [.int .i64 b.1, .int .i64 b.2.1, .int .i64 b.2.2, .int .i64 d.1, .int .i64 d.2.1, .int .i64 d.2.2] _ (by simp)) y23_low y23_B0 y23_B1 y23_B2 y23_B3 y23_B4
  ·have y24_B0 := B0_3.lies
   have y24_B1 := B1_3.lies
   have y24_B2 := f3.lies
   have y24_B3 := B3_3.lies
   have y24_B4 := B4_3.lies
   have y24_low : w.heap.size ≤ w3.heap.size := K3.size
   go_simp
   clear zH
   refine hK.out _ _ ⟨(B3_3.alloc _), (B4_3.alloc _)⟩ (fun zH => ?_)
   clear hK K
   refine zK 9 (by kernel_rfl) rfl (fun K hK => ?_)
   go_simp
   refine (qTurn_any w1.heap.size false a (0, 1099511627776, 0) _ (f3.alloc _)).mono ?_
   rintro e w4 ⟨rfl, f4, k4⟩
   rw [hV] at f4 ⊢
   dsimp only at f4 ⊢
   have K4 : Below w.heap.size w w4 := k4.on (bel_al K3 _) (by omega)
   have B0_4 := (B0_3.alloc _).kept k4 (zL y3_B0)
   have B1_4 := (B1_3.alloc _).kept k4 (zL y3_B1)
   have B3_4 := (B3_3.alloc _).kept k4 (zG y4_B2)
   have B4_4 := (B4_3.alloc _).kept k4 (zG y5_B2)
   have B5_4 := (Arr_at _ w3.heap.size [.int .i64 0, .int .i64 0, .int .i64 0, .int .i64 0, .int .i64 0, .int .i64 0] _ (by simp)).kept k4 (zG y24_B2)
   have z4 := B5_4.lies
   clear zH
   refine hK.out _ _ ⟨B3_4, B4_4⟩ (fun zH => ?_)
   clear hK K K3 B0_3 B1_3 f3 B3_3 B4_3 k4
   refine zT 10 rfl (by kernel_rfl) (fun _ _ _ => id) rfl (fun _ _ => by go_simp <;> with_reducible rfl) zH ?_
   simp only [Act.put, zA, zB, zC]
   refine zK 12 (by kernel_rfl) rfl (fun K hK => ?_)
   have c9_B5_0 : w4.cell? ⟨w3.heap.size, 0, none⟩ = some (.int .i64 0) := B5_4.c 0 (zD rfl)
   have c9_B5_1 : w4.cell? ⟨w3.heap.size, 1, none⟩ = some (.int .i64 0) := B5_4.c 1 (zD rfl)
   have c9_B5_2 : w4.cell? ⟨w3.heap.size, 2, none⟩ = some (.int .i64 0) := B5_4.c 2 (zD rfl)
   have c9_B5_3 : w4.cell? ⟨w3.heap.size, 3, none⟩ = some (.int .i64 0) := B5_4.c 3 (zD rfl)
   have c9_B5_4 : w4.cell? ⟨w3.heap.size, 4, none⟩ = some (.int .i64 0) := B5_4.c 4 (zD rfl)
   have c9_B5_5 : w4.cell? ⟨w3.heap.size, 5, none⟩ = some (.int .i64 0) := B5_4.c 5 (zD rfl)
   have g9_B5_0 := B5_4.f 0 (zD rfl)
   have g9_B5_1 := B5_4.f 1 (zD rfl)
   have g9_B5_2 := B5_4.f 2 (zD rfl)
   have g9_B5_3 := B5_4.f 3 (zD rfl)
   have g9_B5_4 := B5_4.f 4 (zD rfl)
   have g9_B5_5 := B5_4.f 5 (zD rfl)
   go_simp
   clear zH
   refine hK.out _ _ ⟨((((((B3_4.new w3.heap.size 0 (zL y24_B3) (.int .i64 b.1)).new w3.heap.size 1 (zL y24_B3) (.int .i64 b.2.1)).new w3.heap.size 2 (zL y24_B3) (.int .i64 b.2.2)).new w3.heap.size 3 (zL y24_B3) (.int .i64 d.1)).new w3.heap.size 4 (zL y24_B3) (.int .i64 d.2.1)).new w3.heap.size 5 (zL y24_B3) (.int .i64 d.2.2)), ((((((B4_4.new w3.heap.size 0 (zL y24_B4) (.int .i64 b.1)).new w3.heap.size 1 (zL y24_B4) (.int .i64 b.2.1)).new w3.heap.size 2 (zL y24_B4) (.int .i64 b.2.2)).new w3.heap.size 3 (zL y24_B4) (.int .i64 d.1)).new w3.heap.size 4 (zL y24_B4) (.int .i64 d.2.1)).new w3.heap.size 5 (zL y24_B4) (.int .i64 d.2.2))⟩ (fun zH => ?_)
   clear hK K c9_B5_0 c9_B5_1 c9_B5_2 c9_B5_3 c9_B5_4 c9_B5_5 g9_B5_0 g9_B5_1 g9_B5_2 g9_B5_3 g9_B5_4 g9_B5_5
   refine wpAnyH_done (by kernel_rfl) ?_ _
   clear zH
   refine put_cont hKK1 ?_
   exact cont1 _ _ _ _ _ _ _ _ _ _ _ _ _ _ _ _ _ _ _ _ _ _ _ _ _ _ _ _ _ _ _ _ _ _ _ w3.heap.size (bel_new (bel_new (bel_new (bel_new (bel_new (bel_new K4 _ _ y24_low _) _ _ y24_low _) _ _ y24_low _) _ _ y24_low _) _ _ y24_low _) _ _ y24_low _) ((((((B0_4.new w3.heap.size 0 (zL y24_B0) (.int .i64 b.1)).new w3.heap.size 1 (zL y24_B0) (.int .i64 b.2.1)).new w3.heap.size 2 (zL y24_B0) (.int .i64 b.2.2)).new w3.heap.size 3 (zL y24_B0) (.int .i64 d.1)).new w3.heap.size 4 (zL y24_B0) (.int .i64 d.2.1)).new w3.heap.size 5 (zL y24_B0) (.int .i64 d.2.2)) ((((((B1_4.new w3.heap.size 0 (zL y24_B1) (.int .i64 b.1)).new w3.heap.size 1 (zL y24_B1) (.int .i64 b.2.1)).new w3.heap.size 2 (zL y24_B1) (.int .i64 b.2.2)).new w3.heap.size 3 (zL y24_B1) (.int .i64 d.1)).new w3.heap.size 4 (zL y24_B1) (.int .i64 d.2.1)).new w3.heap.size 5 (zL y24_B1) (.int .i64 d.2.2)) ((((((f4.new w3.heap.size 0 (zL y24_B2) (.int .i64 b.1)).new w3.heap.size 1 (zL y24_B2) (.int .i64 b.2.1)).new w3.heap.size 2 (zL y24_B2) (.int .i64 b.2.2)).new w3.heap.size 3 (zL y24_B2) (.int .i64 d.1)).new w3.heap.size 4 (zL y24_B2) (.int .i64 d.2.1)).new w3.heap.size 5 (zL y24_B2) (.int .i64 d.2.2)) ((((((B3_4.new w3.heap.size 0 (zL y24_B3) (.int .i64 b.1)).new w3.heap.size 1 (zL y24_B3) (.int .i64 b.2.1)).new w3.heap.size 2 (zL y24_B3) (.int .i64 b.2.2)).new w3.heap.size 3 (zL y24_B3) (.int .i64 d.1)).new w3.heap.size 4 (zL y24_B3) (.int .i64 d.2.1)).new w3.heap.size 5 (zL y24_B3) (.int .i64 d.2.2)) ((((((B4_4.new w3.heap.size 0 (zL y24_B4) (.int .i64 b.1)).new w3.heap.size 1 (zL y24_B4) (.int .i64 b.2.1)).new w3.heap.size 2 (zL y24_B4) (.int .i64 b.2.2)).new w3.heap.size 3 (zL y24_B4) (.int .i64 d.1)).new w3.heap.size 4 (zL y24_B4) (.int .i64 d.2.1)).new w3.heap.size 5 (zL y24_B4) (.int .i64 d.2.2)) ((((((B5_4.put 0 (zD rfl) (.int .i64 b.1) [.int .i64 b.1, .int .i64 0, .int .i64 0, .int .i64 0, .int .i64 0, .int .i64 0] rfl).put 1 (zD rfl) (.int .i64 b.2.1) [.int .i64 b.1, .int .i64 b.2.1, .int .i64 0, .int .i64 0, .int .i64 0, .int .i64 0] rfl).put 2 (zD rfl) (.int .i64 b.2.2) [.int .i64 b.1, .int .i64 b.2.1, .int .i64 b.2.2, .int .i64 0, .int .i64 0, .int .i64 0] rfl).put 3 (zD rfl) (.int .i64 d.1) [.int .i64 b.1, .int .i64 b.2.1, .int .i64 b.2.2, .int .i64 d.1, .int .i64 0, .int .i64 0] rfl).put 4 (zD rfl) (.int .i64 d.2.1) [.int .i64 b.1, .int .i64 b.2.1, .int .i64 b.2.2, .int .i64 d.1, .int .i64 d.2.1, .int .i64 0] rfl).put 5 (zD rfl) (.int .i64 d.2.2) [.int .i64 b.1, .int .i64 b.2.1, .int .i64 b.2.2, .int .i64 d.1, .int .i64 d.2.1, .int .i64 d.2.2] rfl) y24_low y24_B0 y24_B1 y24_B2 y24_B3 y24_B4
 ·have y25_B0 : w.heap.size < w2.heap.size + 1 + 1 := (Nat.lt_succ_of_lt (Nat.lt_succ_of_lt B0_2.lies))
  have y25_B1 : w.heap.size + 1 < w2.heap.size + 1 + 1 := (Nat.lt_succ_of_lt (Nat.lt_succ_of_lt B1_2.lies))
  have y25_B2 : w1.heap.size < w2.heap.size + 1 + 1 := (Nat.lt_succ_of_lt (Nat.lt_succ_of_lt f2.lies))
  have y25_B3 : w2.heap.size < w2.heap.size + 1 + 1 := by omega
  have y25_B4 : w2.heap.size + 1 < w2.heap.size + 1 + 1 := by omega
  have y25_low : w.heap.size ≤ w2.heap.size + 1 + 1 := (Nat.le_succ_of_le (Nat.le_succ_of_le K2.size))
  go_simp
  clear zH
  refine hK.out _ _ ⟨(((Arr_at _ _ [.int .i64 a.1, .int .i64 a.2.1, .int .i64 a.2.2.1, .int .i64 a.2.2.2] _ (by simp)).alloc _).alloc _).drew, ((Arr_at _ _ [.int .i64 1099511627776, .int .i64 0, .int .i64 0, .int .i64 0, .int .i64 1099511627776, .int .i64 0] _ (by simp)).alloc _).drew⟩ (fun zH => ?_)
  clear hK K
  refine zK 4 (by kernel_rfl) rfl (fun K hK => ?_)
  go_simp
  refine (qTurn_any w1.heap.size false a (1099511627776, 0, 0) _ (((f2.alloc _).alloc _).alloc _).drew).mono ?_
  rintro e w3 ⟨rfl, f3, k3⟩
  rw [hT] at f3 ⊢
  dsimp only at f3 ⊢
  have K3 : Below w.heap.size w w3 := k3.on (Below.drew (bel_al (bel_al (bel_al K2 _) _) _)) (by omega)
  have B0_3 := (((B0_2.alloc _).alloc _).alloc _).drew.kept k3 (zL y3_B0)
  have B1_3 := (((B1_2.alloc _).alloc _).alloc _).drew.kept k3 (zL y3_B1)
  have B3_3 := (((Arr_at _ w2.heap.size [.int .i64 a.1, .int .i64 a.2.1, .int .i64 a.2.2.1, .int .i64 a.2.2.2] _ (by simp)).alloc _).alloc _).drew.kept k3 (zG y4_B2)
  have B4_3 := ((Arr_at _ (w2.heap.size + 1) [.int .i64 1099511627776, .int .i64 0, .int .i64 0, .int .i64 0, .int .i64 1099511627776, .int .i64 0] _ (by simp)).alloc _).drew.kept k3 (zG y5_B2)
  have B5_3 := (Arr_at _ (w2.heap.size + 1 + 1) [.int .i64 0, .int .i64 0, .int .i64 0, .int .i64 0, .int .i64 0, .int .i64 0] _ (by simp)).drew.kept k3 (zG y25_B2)
  have z3 := B5_3.lies
  clear zH
  refine hK.out _ _ ⟨B3_3, B4_3⟩ (fun zH => ?_)
  clear hK K K2 B0_2 B1_2 f2 k3
  refine zK 9 (by kernel_rfl) rfl (fun K hK => ?_)
  go_simp
  refine (qTurn_any w1.heap.size false a (0, 1099511627776, 0) _ f3).mono ?_
  rintro e w4 ⟨rfl, f4, k4⟩
  rw [hV] at f4 ⊢
  dsimp only at f4 ⊢
  have K4 : Below w.heap.size w w4 := k4.on K3 (by omega)
  have B0_4 := B0_3.kept k4 (zL y3_B0)
  have B1_4 := B1_3.kept k4 (zL y3_B1)
  have B3_4 := B3_3.kept k4 (zG y4_B2)
  have B4_4 := B4_3.kept k4 (zG y5_B2)
  have B5_4 := B5_3.kept k4 (zG y25_B2)
  have z4 := B5_4.lies
  clear zH
  refine hK.out _ _ ⟨B3_4, B4_4⟩ (fun zH => ?_)
  clear hK K K3 B0_3 B1_3 f3 B3_3 B4_3 B5_3 k4
  refine zT 10 rfl (by kernel_rfl) (fun _ _ _ => id) rfl (fun _ _ => by go_simp <;> with_reducible rfl) zH ?_
  simp only [Act.put, zA, zB, zC]
  refine zK 12 (by kernel_rfl) rfl (fun K hK => ?_)
  have c9_B5_0 : w4.cell? ⟨w2.heap.size + 1 + 1, 0, none⟩ = some (.int .i64 0) := B5_4.c 0 (zD rfl)
  have c9_B5_1 : w4.cell? ⟨w2.heap.size + 1 + 1, 1, none⟩ = some (.int .i64 0) := B5_4.c 1 (zD rfl)
  have c9_B5_2 : w4.cell? ⟨w2.heap.size + 1 + 1, 2, none⟩ = some (.int .i64 0) := B5_4.c 2 (zD rfl)
  have c9_B5_3 : w4.cell? ⟨w2.heap.size + 1 + 1, 3, none⟩ = some (.int .i64 0) := B5_4.c 3 (zD rfl)
  have c9_B5_4 : w4.cell? ⟨w2.heap.size + 1 + 1, 4, none⟩ = some (.int .i64 0) := B5_4.c 4 (zD rfl)
  have c9_B5_5 : w4.cell? ⟨w2.heap.size + 1 + 1, 5, none⟩ = some (.int .i64 0) := B5_4.c 5 (zD rfl)
  have g9_B5_0 := B5_4.f 0 (zD rfl)
  have g9_B5_1 := B5_4.f 1 (zD rfl)
  have g9_B5_2 := B5_4.f 2 (zD rfl)
  have g9_B5_3 := B5_4.f 3 (zD rfl)
  have g9_B5_4 := B5_4.f 4 (zD rfl)
  have g9_B5_5 := B5_4.f 5 (zD rfl)
  go_simp
  clear zH
  refine hK.out _ _ ⟨((((((B3_4.new (w2.heap.size + 1 + 1) 0 (zL y25_B3) (.int .i64 b.1)).new (w2.heap.size + 1 + 1) 1 (zL y25_B3) (.int .i64 b.2.1)).new (w2.heap.size + 1 + 1) 2 (zL y25_B3) (.int .i64 b.2.2)).new (w2.heap.size + 1 + 1) 3 (zL y25_B3) (.int .i64 d.1)).new (w2.heap.size + 1 + 1) 4 (zL y25_B3) (.int .i64 d.2.1)).new (w2.heap.size + 1 + 1) 5 (zL y25_B3) (.int .i64 d.2.2)), ((((((B4_4.new (w2.heap.size + 1 + 1) 0 (zL y25_B4) (.int .i64 b.1)).new (w2.heap.size + 1 + 1) 1 (zL y25_B4) (.int .i64 b.2.1)).new (w2.heap.size + 1 + 1) 2 (zL y25_B4) (.int .i64 b.2.2)).new (w2.heap.size + 1 + 1) 3 (zL y25_B4) (.int .i64 d.1)).new (w2.heap.size + 1 + 1) 4 (zL y25_B4) (.int .i64 d.2.1)).new (w2.heap.size + 1 + 1) 5 (zL y25_B4) (.int .i64 d.2.2))⟩ (fun zH => ?_)
  clear hK K c9_B5_0 c9_B5_1 c9_B5_2 c9_B5_3 c9_B5_4 c9_B5_5 g9_B5_0 g9_B5_1 g9_B5_2 g9_B5_3 g9_B5_4 g9_B5_5
  refine wpAnyH_done (by kernel_rfl) ?_ _
  clear zH
  refine put_cont hKK1 ?_
  exact cont1 _ _ _ _ _ _ _ _ _ _ _ _ _ _ _ _ _ _ _ _ _ _ _ _ _ _ _ _ _ _ _ _ _ _ _ (w2.heap.size + 1 + 1) (bel_new (bel_new (bel_new (bel_new (bel_new (bel_new K4 _ _ y25_low _) _ _ y25_low _) _ _ y25_low _) _ _ y25_low _) _ _ y25_low _) _ _ y25_low _) ((((((B0_4.new (w2.heap.size + 1 + 1) 0 (zL y25_B0) (.int .i64 b.1)).new (w2.heap.size + 1 + 1) 1 (zL y25_B0) (.int .i64 b.2.1)).new (w2.heap.size + 1 + 1) 2 (zL y25_B0) (.int .i64 b.2.2)).new (w2.heap.size + 1 + 1) 3 (zL y25_B0) (.int .i64 d.1)).new (w2.heap.size + 1 + 1) 4 (zL y25_B0) (.int .i64 d.2.1)).new (w2.heap.size + 1 + 1) 5 (zL y25_B0) (.int .i64 d.2.2)) ((((((B1_4.new (w2.heap.size + 1 + 1) 0 (zL y25_B1) (.int .i64 b.1)).new (w2.heap.size + 1 + 1) 1 (zL y25_B1) (.int .i64 b.2.1)).new (w2.heap.size + 1 + 1) 2 (zL y25_B1) (.int .i64 b.2.2)).new (w2.heap.size + 1 + 1) 3 (zL y25_B1) (.int .i64 d.1)).new (w2.heap.size + 1 + 1) 4 (zL y25_B1) (.int .i64 d.2.1)).new (w2.heap.size + 1 + 1) 5 (zL y25_B1) (.int .i64 d.2.2)) ((((((f4.new (w2.heap.size + 1 + 1) 0 (zL y25_B2) (.int .i64 b.1)).new (w2.heap.size + 1 + 1) 1 (zL y25_B2) (.int .i64 b.2.1)).new (w2.heap.size + 1 + 1) 2 (zL y25_B2) (.int .i64 b.2.2)).new (w2.heap.size + 1 + 1) 3 (zL y25_B2) (.int .i64 d.1)).new (w2.heap.size + 1 + 1) 4 (zL y25_B2) (.int .i64 d.2.1)).new (w2.heap.size + 1 + 1) 5 (zL y25_B2) (.int .i64 d.2.2)) ((((((B3_4.new (w2.heap.size + 1 + 1) 0 (zL y25_B3) (.int .i64 b.1)).new (w2.heap.size + 1 + 1) 1 (zL y25_B3) (.int .i64 b.2.1)).new (w2.heap.size + 1 + 1) 2 (zL y25_B3) (.int .i64 b.2.2)).new (w2.heap.size + 1 + 1) 3 (zL y25_B3) (.int .i64 d.1)).new (w2.heap.size + 1 + 1) 4 (zL y25_B3) (.int .i64 d.2.1)).new (w2.heap.size + 1 + 1) 5 (zL y25_B3) (.int .i64 d.2.2)) ((((((B4_4.new (w2.heap.size + 1 + 1) 0 (zL y25_B4) (.int .i64 b.1)).new (w2.heap.size + 1 + 1) 1 (zL y25_B4) (.int .i64 b.2.1)).new (w2.heap.size + 1 + 1) 2 (zL y25_B4) (.int .i64 b.2.2)).new (w2.heap.size + 1 + 1) 3 (zL y25_B4) (.int .i64 d.1)).new (w2.heap.size + 1 + 1) 4 (zL y25_B4) (.int .i64 d.2.1)).new (w2.heap.size + 1 + 1) 5 (zL y25_B4) (.int .i64 d.2.2)) ((((((B5_4.put 0 (zD rfl) (.int .i64 b.1) [.int .i64 b.1, .int .i64 0, .int .i64 0, .int .i64 0, .int .i64 0, .int .i64 0] rfl).put 1 (zD rfl) (.int .i64 b.2.1) [.int .i64 b.1, .int .i64 b.2.1, .int .i64 0, .int .i64 0, .int .i64 0, .int .i64 0] rfl).put 2 (zD rfl) (.int .i64 b.2.2) [.int .i64 b.1, .int .i64 b.2.1, .int .i64 b.2.2, .int .i64 0, .int .i64 0, .int .i64 0] rfl).put 3 (zD rfl) (.int .i64 d.1) [.int .i64 b.1, .int .i64 b.2.1, .int .i64 b.2.2, .int .i64 d.1, .int .i64 0, .int .i64 0] rfl).put 4 (zD rfl) (.int .i64 d.2.1) [.int .i64 b.1, .int .i64 b.2.1, .int .i64 b.2.2, .int .i64 d.1, .int .i64 d.2.1, .int .i64 0] rfl).put 5 (zD rfl) (.int .i64 d.2.2) [.int .i64 b.1, .int .i64 b.2.1, .int .i64 b.2.2, .int .i64 d.1, .int .i64 d.2.1, .int .i64 d.2.2] rfl) y25_low y25_B0 y25_B1 y25_B2 y25_B3 y25_B4
end Go.Proofs.Ytooehgijllihdaa
