/- A part. -/
import Derived.Test.YtpjobkbefgehjaaGreatFAwake
import Derived.Test.YtpjobkbefgehjaaGreatFLawE
import Derived.Test.YtpjobkbefgehjaaGreatFCMeet
import Derived.Handy
import Derived.Deep.RegionHeld3
namespace Go.Proofs.YtpjobkbefgehjaaGreat
open Go.RowKit
set_option maxRecDepth 100000
set_option maxHeartbeats 20000000
theorem FilterMeets_any (g : Nat → Int) (p : Nat → Int) (q : Nat → Int) (w : World) :
  Calls Tryz.prog 4 #[.agg (row 43 g).toArray, .agg (row 6 p).toArray, .agg (row 6 q).toArray] w fun e w' => e = .returned (.bool true) ∧ Below w.heap.size w w' := by
 go_enter Tryz.func4, Tryz.ntmps4
 have y1_low : w.heap.size ≤ w.heap.size := (Below.refl w.heap.size w).size
 have y2_B0 : w.heap.size < w.heap.size + 1 := by omega
 have y2_low : w.heap.size ≤ w.heap.size + 1 := (Nat.le_succ_of_le (Below.refl w.heap.size w).size)
 have y3_B0 : w.heap.size < w.heap.size + 1 + 1 := by omega
 have y3_B1 : w.heap.size + 1 < w.heap.size + 1 + 1 := by omega
 have y3_low : w.heap.size ≤ w.heap.size + 1 + 1 := (Nat.le_succ_of_le (Nat.le_succ_of_le (Below.refl w.heap.size w).size))
 go_wp2_with fail
 refine (awake_any  _).mono ?_
 rintro e w1 ⟨rfl, k1⟩
 try dsimp only
 have K1 : Below w.heap.size w w1 := bel_then (bel_al (bel_al (bel_al (Below.refl w.heap.size w) _) _) _) k1
 have B0_1 := (((Arr_at _ w.heap.size (row 43 g) _ (by simp)).alloc _).alloc _).below k1
 have B1_1 := ((Arr_at _ (w.heap.size + 1) (row 6 p) _ (by simp)).alloc _).below k1
 have B2_1 := (Arr_at _ (w.heap.size + 1 + 1) (row 6 q) _ (by simp)).below k1
 have z1 := B2_1.lies
 clear k1
 have y4_B0 := B0_1.lies
 have y4_B1 := B1_1.lies
 have y4_B2 := B2_1.lies
 have y4_low : w.heap.size ≤ w1.heap.size := K1.size
 have y5_B0 : w.heap.size < w1.heap.size + 1 := (Nat.lt_succ_of_lt B0_1.lies)
 have y5_B1 : w.heap.size + 1 < w1.heap.size + 1 := (Nat.lt_succ_of_lt B1_1.lies)
 have y5_B2 : w.heap.size + 1 + 1 < w1.heap.size + 1 := (Nat.lt_succ_of_lt B2_1.lies)
 have y5_B3 : w1.heap.size < w1.heap.size + 1 := by omega
 have y5_low : w.heap.size ≤ w1.heap.size + 1 := (Nat.le_succ_of_le K1.size)
 go_wp2_with (first | (refine row_load (ty := 31) rfl rfl rfl ((B0_1.alloc _).alloc _) (by kernel_rfl) (by rw [row_len]; kernel_rfl) ?_) | (refine row_load (ty := 41) rfl rfl rfl ((B1_1.alloc _).alloc _) (by kernel_rfl) (by rw [row_len]; kernel_rfl) ?_) | (refine row_load (ty := 41) rfl rfl rfl ((B2_1.alloc _).alloc _) (by kernel_rfl) (by rw [row_len]; kernel_rfl) ?_))
 refine (hMeet_any w1.heap.size false g p q _ ((Fl_at _ _ _ _ (by simp)).alloc _)).mono ?_
 rintro e w2 ⟨rfl, f2, k2⟩
 generalize e2 : hMeetS false g p q = r2 at f2 ⊢
 have E2 : Hid _ := e2
 clear e2
 try dsimp only
 have K2 : Below w.heap.size w w2 := k2.on (bel_al (bel_al K1 _) _) (by omega)
 have B0_2 := ((B0_1.alloc _).alloc _).kept k2 (zL y4_B0)
 have B1_2 := ((B1_1.alloc _).alloc _).kept k2 (zL y4_B1)
 have B2_2 := ((B2_1.alloc _).alloc _).kept k2 (zL y4_B2)
 have B4_2 : Fl (w1.heap.size + 1) false w2 := (Fl_at _ _ _ _ (by simp)).kept k2 (zG y5_B3)
 have z2 := B4_2.lies
 clear K1 B0_1 B1_1 B2_1 k2
 have y6_B0 := B0_2.lies
 have y6_B1 := B1_2.lies
 have y6_B2 := B2_2.lies
 have y6_B3 := f2.lies
 have y6_B4 := B4_2.lies
 have y6_low : w.heap.size ≤ w2.heap.size := K2.size
 go_wp2_with (refine store_stop rfl (by kernel_rfl) ?_)
 refine Stop.mk (store_row (l' := row 43 r2.1.1) rfl rfl rfl rfl (Arr_at _ _ (row 43 (fun _ => 0)) _ (by simp)) (by simp only [row_len]) (by rw [row_len]; kernel_rfl) (row_one _ _) ?_)
 intro w3 B5_3 o3
 have K3 : Below w.heap.size w w3 := bel_off (bel_al K2 _) o3 y6_low
 have B0_3 := (B0_2.alloc _).off o3 (zL y6_B0)
 have B1_3 := (B1_2.alloc _).off o3 (zL y6_B1)
 have B2_3 := (B2_2.alloc _).off o3 (zL y6_B2)
 have B3_3 := (f2.alloc _).off o3 (zL y6_B3)
 have B4_3 := (B4_2.alloc _).off o3 (zL y6_B4)
 have z3_B5 := B5_3.lies
 have z3_B0 := B0_3.lies
 have z3_B1 := B1_3.lies
 have z3_B2 := B2_3.lies
 have z3_B3 := B3_3.lies
 have z3_B4 := B4_3.lies
 clear K2 B0_2 B1_2 B2_2 f2 B4_2 o3
 go_wp2_with (first | (refine row_load (ty := 31) rfl rfl rfl B0_3 (by kernel_rfl) (by rw [row_len]; kernel_rfl) ?_) | (refine row_load (ty := 41) rfl rfl rfl B1_3 (by kernel_rfl) (by rw [row_len]; kernel_rfl) ?_) | (refine row_load (ty := 41) rfl rfl rfl B2_3 (by kernel_rfl) (by rw [row_len]; kernel_rfl) ?_))
 refine (fMeetC_any (w1.heap.size + 1) false g p q _ B4_3 rfl).mono ?_
 rintro e w4 ⟨rfl, f4, k4⟩
 rw [E2.out] at f4 ⊢
 try dsimp only
 have K4 : Below w.heap.size w w4 := k4.on K3 (by omega)
 have B0_4 := B0_3.kept k4 (zL y5_B0)
 have B1_4 := B1_3.kept k4 (zL y5_B1)
 have B2_4 := B2_3.kept k4 (zL y5_B2)
 have B3_4 := B3_3.kept k4 (zL y5_B3)
 have B5_4 := B5_3.kept k4 (zG y6_B4)
 have z4 := B5_4.lies
 clear K3 B0_3 B1_3 B2_3 B3_3 B4_3 B5_3 k4
 have y7_B0 := B0_4.lies
 have y7_B1 := B1_4.lies
 have y7_B2 := B2_4.lies
 have y7_B3 := B3_4.lies
 have y7_B4 := f4.lies
 have y7_B5 := B5_4.lies
 have y7_low : w.heap.size ≤ w4.heap.size := K4.size
 go_wp2_with (refine store_stop rfl (by kernel_rfl) ?_)
 refine Stop.mk (store_row (l' := row 43 r2.1.1) rfl rfl rfl rfl (Arr_at _ _ (row 43 (fun _ => 0)) _ (by simp)) (by simp only [row_len]) (by rw [row_len]; kernel_rfl) (row_one _ _) ?_)
 intro w5 B6_5 o5
 have K5 : Below w.heap.size w w5 := bel_off (bel_al K4 _) o5 y7_low
 have B0_5 := (B0_4.alloc _).off o5 (zL y7_B0)
 have B1_5 := (B1_4.alloc _).off o5 (zL y7_B1)
 have B2_5 := (B2_4.alloc _).off o5 (zL y7_B2)
 have B3_5 := (B3_4.alloc _).off o5 (zL y7_B3)
 have B4_5 := (f4.alloc _).off o5 (zL y7_B4)
 have B5_5 := (B5_4.alloc _).off o5 (zL y7_B5)
 have z5_B6 := B6_5.lies
 have z5_B0 := B0_5.lies
 have z5_B1 := B1_5.lies
 have z5_B2 := B2_5.lies
 have z5_B3 := B3_5.lies
 have z5_B4 := B4_5.lies
 have z5_B5 := B5_5.lies
 clear K4 B0_4 B1_4 B2_4 B3_4 f4 B5_4 o5
 go_wp2_with fail
 refine wp_region_held_drew (S := fun w' => Arr w2.heap.size (row 43 r2.1.1) w' ∧ Arr w4.heap.size (row 43 r2.1.1) w' ∧ Fl w1.heap.size r2.2 w' ∧ Fl (w1.heap.size + 1) r2.2 w') (by kernel_rfl) ⟨B5_5.drew, B6_5.drew, B3_5.drew, B4_5.drew⟩ (fun zH => ?_)
 refine take_at (i := 0) rfl (by kernel_rfl) (by kernel_rfl) (by kernel_rfl) (fun _ _ _ h => h) (row_yield (by rfl) rfl rfl (fun _ hS => hS.1) (by kernel_rfl) (by rw [row_len]; kernel_rfl)) zH ?_
 simp only [Act.put, zA, zB, zC]
 refine take_at (i := 1) rfl (by kernel_rfl) (by kernel_rfl) (by kernel_rfl) (fun _ _ _ h => h) (row_yield (by rfl) rfl rfl (fun _ hS => hS.2.1) (by kernel_rfl) (by rw [row_len]; kernel_rfl)) zH ?_
 simp only [Act.put, zA, zB, zC]
 refine zT 2 rfl (by kernel_rfl) (fun _ _ _ => id) rfl (fun _ _ => by go_simp <;> with_reducible rfl) zH ?_
 simp only [Act.put, zA, zB, zC]
 refine zT 3 rfl (by kernel_rfl) (fun _ _ _ => id) rfl (fun _ _ => by go_simp <;> with_reducible rfl) zH ?_
 simp only [Act.put, zA, zB, zC]
 refine zT 4 rfl (by kernel_rfl) (fun _ _ _ => id) rfl (fun _ _ => by go_simp <;> with_reducible rfl) zH ?_
 simp only [Act.put, zA, zB, zC]
 refine zT 5 rfl (by kernel_rfl) (fun _ _ _ => id) rfl (fun _ _ => by go_simp <;> with_reducible rfl) zH ?_
 simp only [Act.put, zA, zB, zC]
 refine zT 6 rfl (by kernel_rfl) (fun _ _ _ => id) rfl (fun _ _ => by go_simp <;> with_reducible rfl) zH ?_
 simp only [Act.put, zA, zB, zC]
 refine zT 7 rfl (by kernel_rfl) (fun _ _ _ => id) rfl (fun _ _ => by go_simp <;> with_reducible rfl) zH ?_
 simp only [Act.put, zA, zB, zC]
 refine zT 8 rfl (by kernel_rfl) (fun _ _ _ => id) rfl (fun _ _ => by go_simp <;> with_reducible rfl) zH ?_
 simp only [Act.put, zA, zB, zC]
 refine zT 9 rfl (by kernel_rfl) (fun _ _ _ => id) rfl (fun _ _ => by go_simp <;> with_reducible rfl) zH ?_
 simp only [Act.put, zA, zB, zC]
 refine zT 10 rfl (by kernel_rfl) (fun _ _ _ => id) rfl (fun _ _ => by go_simp <;> with_reducible rfl) zH ?_
 simp only [Act.put, zA, zB, zC]
 refine zT 11 rfl (by kernel_rfl) (fun _ _ _ => id) rfl (fun _ _ => by go_simp <;> with_reducible rfl) zH ?_
 simp only [Act.put, zA, zB, zC]
 refine zT 12 rfl (by kernel_rfl) (fun _ _ _ => id) rfl (fun _ _ => by go_simp <;> with_reducible rfl) zH ?_
 simp only [Act.put, zA, zB, zC]
 refine zT 13 rfl (by kernel_rfl) (fun _ _ _ => id) rfl (fun _ _ => by go_simp <;> with_reducible rfl) zH ?_
 simp only [Act.put, zA, zB, zC]
 refine zT 14 rfl (by kernel_rfl) (fun _ _ _ => id) rfl (fun _ _ => by go_simp <;> with_reducible rfl) zH ?_
 simp only [Act.put, zA, zB, zC]
 refine zT 15 rfl (by kernel_rfl) (fun _ _ _ => id) rfl (fun _ _ => by go_simp <;> with_reducible rfl) zH ?_
 simp only [Act.put, zA, zB, zC]
 refine zT 16 rfl (by kernel_rfl) (fun _ _ _ => id) rfl (fun _ _ => by go_simp <;> with_reducible rfl) zH ?_
 simp only [Act.put, zA, zB, zC]
 refine zT 17 rfl (by kernel_rfl) (fun _ _ _ => id) rfl (fun wx hS => by have hc0 : wx.cell? ⟨w1.heap.size, 0, none⟩ = some (.bool r2.2) := hS.2.2.1.cell; go_simp <;> with_reducible rfl) zH ?_
 simp only [Act.put, zA, zB, zC]
 refine zT 18 rfl (by kernel_rfl) (fun _ _ _ => id) rfl (fun _ _ => by go_simp <;> with_reducible rfl) zH ?_
 simp only [Act.put, zA, zB, zC]
 refine zT 19 rfl (by kernel_rfl) (fun _ _ _ => id) rfl (fun _ _ => by go_simp <;> with_reducible rfl) zH ?_
 simp only [Act.put, zA, zB, zC]
 refine zT 20 rfl (by kernel_rfl) (fun _ _ _ => id) rfl (fun _ _ => by go_simp <;> with_reducible rfl) zH ?_
 simp only [Act.put, zA, zB, zC]
 refine zT 21 rfl (by kernel_rfl) (fun _ _ _ => id) rfl (fun wx hS => by have hc0 : wx.cell? ⟨w1.heap.size + 1, 0, none⟩ = some (.bool r2.2) := hS.2.2.2.cell; go_simp <;> with_reducible rfl) zH ?_
 simp only [Act.put, zA, zB, zC]
 refine zT 22 rfl (by kernel_rfl) (fun _ _ _ => id) rfl (fun _ _ => by go_simp <;> with_reducible rfl) zH ?_
 simp only [Act.put, zA, zB, zC]
 refine zT 23 rfl (by kernel_rfl) (fun _ _ _ => id) rfl (fun _ _ => by go_simp <;> with_reducible rfl) zH ?_
 simp only [Act.put, zA, zB, zC]
 refine zT 24 rfl (by kernel_rfl) (fun _ _ _ => id) rfl (fun _ _ => by go_simp <;> with_reducible rfl) zH ?_
 simp only [Act.put, zA, zB, zC]
 refine wpAnyH_done (by kernel_rfl) ?_ _
 clear zH
 go_wp2
 go_ret
 exact ⟨rfl, (Below.drew K5)⟩
end Go.Proofs.YtpjobkbefgehjaaGreat
