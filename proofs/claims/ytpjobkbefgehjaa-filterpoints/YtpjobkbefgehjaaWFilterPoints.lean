/-
  The walk of the law FilterPoints, for the seat Ytpjobkbefgehjaa. (Made by mkpts14.py.)
-/
import Derived.Test.YtpjobkbefgehjaaFAwake
import Derived.Test.YtpjobkbefgehjaaFRStart
import Derived.Test.YtpjobkbefgehjaaJH
import Derived.Test.YtpjobkbefgehjaaJV
import Derived.Test.YtpjobkbefgehjaaFPtM
import Derived.Test.YtpjobkbefgehjaaFCEqr
import Derived.Handy
import Derived.Deep.RegionHeld3
namespace Go.Proofs.Ytpjobkbefgehjaa
open Go.RowKit

theorem fPointsC_any (b : Nat) (bad : Bool) (g : Nat → Int) (w : World) (hw : Fl b bad w) :
    Calls Try.prog 10 #[.pointer (some ⟨b, 0, none⟩), .agg (row 43 g).toArray] w fun e w' => e = .returned (.agg (row 78 ((hPointsS bad g).1)).toArray) ∧ Fl b (hPointsS bad g).2 w' ∧ Kept b w w' := by
  rw [← points_same]
  exact fPoints_any b bad g w hw
theorem fSpreadC_any (b : Nat) (bad : Bool) (g : Nat → Int) (w : World) (hw : Fl b bad w) :
    Calls Try.prog 12 #[.pointer (some ⟨b, 0, none⟩), .agg (row 43 g).toArray] w fun e w' => e = .returned (.int .i64 ((hSpreadS bad g).1)) ∧ Fl b (hSpreadS bad g).2 w' ∧ Kept b w w' := fSpread_any b bad g w hw
set_option maxRecDepth 100000 in
set_option maxHeartbeats 4000000 in
theorem FilterPoints_any (g : Nat → Int) (bad : Bool) (w : World) :
    Calls Try.prog 3 #[.agg (row 43 g).toArray, .bool bad] w fun e w' => e = .returned (.bool true) ∧ Below w.heap.size w w' := by
  go_enter Try.func3, Try.ntmps3
  have y1_low : w.heap.size ≤ w.heap.size := (Below.refl w.heap.size w).size
  go_wp2_with fail
  refine (awake_any  _).mono ?_
  rintro e w1 ⟨rfl, k1⟩
  try dsimp only
  have K1 : Below w.heap.size w w1 := bel_then (bel_al (Below.refl w.heap.size w) _) k1
  have B0_1 : Arr w.heap.size (row 43 g) w1 := (Arr_at _ _ (row 43 g) _ (by simp)).below k1
  have z1 := B0_1.lies
  clear k1
  have y2_B0 : w.heap.size < w1.heap.size := B0_1.lies
  have y2_low : w.heap.size ≤ w1.heap.size := K1.size
  have y3_B0 : w.heap.size < w1.heap.size + 1 := (Nat.lt_succ_of_lt B0_1.lies)
  have y3_B1 : w1.heap.size < w1.heap.size + 1 := (Nat.lt_succ_self _)
  have y3_low : w.heap.size ≤ w1.heap.size + 1 := (Nat.le_succ_of_le K1.size)
  have y4_B0 : w.heap.size < w1.heap.size + 1 + 1 := (Nat.lt_succ_of_lt (Nat.lt_succ_of_lt B0_1.lies))
  have y4_B1 : w1.heap.size < w1.heap.size + 1 + 1 := (Nat.lt_succ_of_lt (Nat.lt_succ_self _))
  have y4_B2 : w1.heap.size + 1 < w1.heap.size + 1 + 1 := (Nat.lt_succ_self _)
  have y4_low : w.heap.size ≤ w1.heap.size + 1 + 1 := (Nat.le_succ_of_le (Nat.le_succ_of_le K1.size))
  have y5_B0 : w.heap.size < w1.heap.size + 1 + 1 + 1 := (Nat.lt_succ_of_lt (Nat.lt_succ_of_lt (Nat.lt_succ_of_lt B0_1.lies)))
  have y5_B1 : w1.heap.size < w1.heap.size + 1 + 1 + 1 := (Nat.lt_succ_of_lt (Nat.lt_succ_of_lt (Nat.lt_succ_self _)))
  have y5_B2 : w1.heap.size + 1 < w1.heap.size + 1 + 1 + 1 := (Nat.lt_succ_of_lt (Nat.lt_succ_self _))
  have y5_B3 : w1.heap.size + 1 + 1 < w1.heap.size + 1 + 1 + 1 := (Nat.lt_succ_self _)
  have y5_low : w.heap.size ≤ w1.heap.size + 1 + 1 + 1 := (Nat.le_succ_of_le (Nat.le_succ_of_le (Nat.le_succ_of_le K1.size)))
  go_wp2_with fail
  refine wp_region_held_drew (S := fun w' => Arr w.heap.size (row 43 g) w') (by kernel_rfl) ((((B0_1.alloc _).alloc _).alloc _).alloc _).drew (fun hHeld => ?_)
  refine take_at (i := 0) (v := ?v1) rfl (by kernel_rfl) (by kernel_rfl) (by kernel_rfl) (fun _ _ _ h => h) (Or.inl ⟨by rfl, ?y1⟩) hHeld ?t1
  case y1 => (intro wx hSw; go_simp <;> with_reducible rfl)
  simp only [Act.put, List.setIfInBounds_toArray, List.set_cons_zero, List.set_cons_succ]
  refine take_at (i := 1) (v := ?v2) rfl (by kernel_rfl) (by kernel_rfl) (by kernel_rfl) (fun _ _ _ h => h) (Or.inl ⟨by rfl, ?y2⟩) hHeld ?t2
  case y2 => (intro wx hSw; have hc0 : wx.cell? ⟨w.heap.size, 0, none⟩ = some (.int .i64 (g 0)) := row_c hSw 0 (by omega); have hc1 : wx.cell? ⟨w.heap.size, 1, none⟩ = some (.int .i64 (g 1)) := row_c hSw 1 (by omega); have hc2 : wx.cell? ⟨w.heap.size, 2, none⟩ = some (.int .i64 (g 2)) := row_c hSw 2 (by omega); have hc3 : wx.cell? ⟨w.heap.size, 3, none⟩ = some (.int .i64 (g 3)) := row_c hSw 3 (by omega); go_simp <;> with_reducible rfl)
  simp only [Act.put, List.setIfInBounds_toArray, List.set_cons_zero, List.set_cons_succ]
  refine take_at (i := 3) (v := ?v3) rfl (by kernel_rfl) (by kernel_rfl) (by kernel_rfl) (fun _ _ _ h => h) (Or.inl ⟨by rfl, ?y3⟩) hHeld ?t3
  case y3 => (intro wx hSw; go_simp <;> with_reducible rfl)
  simp only [Act.put, List.setIfInBounds_toArray, List.set_cons_zero, List.set_cons_succ]
  refine take_at (i := 4) (v := ?v4) rfl (by kernel_rfl) (by kernel_rfl) (by kernel_rfl) (fun _ _ _ h => h) (Or.inl ⟨by rfl, ?y4⟩) hHeld ?t4
  case y4 => (intro wx hSw; have hc0 : wx.cell? ⟨w.heap.size, 0, none⟩ = some (.int .i64 (g 0)) := row_c hSw 0 (by omega); have hc1 : wx.cell? ⟨w.heap.size, 1, none⟩ = some (.int .i64 (g 1)) := row_c hSw 1 (by omega); have hc2 : wx.cell? ⟨w.heap.size, 2, none⟩ = some (.int .i64 (g 2)) := row_c hSw 2 (by omega); have hc3 : wx.cell? ⟨w.heap.size, 3, none⟩ = some (.int .i64 (g 3)) := row_c hSw 3 (by omega); go_simp <;> with_reducible rfl)
  simp only [Act.put, List.setIfInBounds_toArray, List.set_cons_zero, List.set_cons_succ]
  refine call_at (i := 2) (by kernel_rfl) rfl (fun K hK => ?_)
  go_simp
  refine (hStart_any ((g 0), (g 1), (g 2), (g 3)) _).mono ?_
  rintro e w2 ⟨rfl, k2⟩
  generalize e2 : hStartP ((g 0), (g 1), (g 2), (g 3)) = r2
  have E2 : Hid _ := e2
  clear e2
  have K2 : Below w.heap.size w w2 := bel_then (Below.drew (bel_al (bel_al (bel_al (bel_al K1 _) _) _) _)) k2
  have B0_2 : Arr w.heap.size (row 43 g) w2 := ((((B0_1.alloc _).alloc _).alloc _).alloc _).drew.below k2
  have B1_2 : Fl w1.heap.size bad w2 := ((((Fl_at _ _ _ _ (by simp)).alloc _).alloc _).alloc _).drew.below k2
  have B2_2 : Fl (w1.heap.size + 1) bad w2 := (((Fl_at _ _ _ _ (by simp)).alloc _).alloc _).drew.below k2
  have B3_2 : Fl (w1.heap.size + 1 + 1) bad w2 := ((Fl_at _ _ _ _ (by simp)).alloc _).drew.below k2
  have B4_2 : Fl (w1.heap.size + 1 + 1 + 1) bad w2 := (Fl_at _ _ _ _ (by simp)).drew.below k2
  have z2 := B4_2.lies
  clear hHeld
  refine hK.out _ _ B0_2 (fun hHeld => ?_)
  clear hK K K1 B0_1 k2
  refine call_at (i := 5) (by kernel_rfl) rfl (fun K hK => ?_)
  go_simp
  refine (fStartC_any ((g 0), (g 1), (g 2), (g 3)) _).mono ?_
  rintro e w3 ⟨rfl, k3⟩
  rw [E2.out]
  have K3 : Below w.heap.size w w3 := bel_then K2 k3
  have B0_3 : Arr w.heap.size (row 43 g) w3 := B0_2.below k3
  have B1_3 : Fl w1.heap.size bad w3 := B1_2.below k3
  have B2_3 : Fl (w1.heap.size + 1) bad w3 := B2_2.below k3
  have B3_3 : Fl (w1.heap.size + 1 + 1) bad w3 := B3_2.below k3
  have B4_3 : Fl (w1.heap.size + 1 + 1 + 1) bad w3 := B4_2.below k3
  have z3 := B4_3.lies
  clear hHeld
  refine hK.out _ _ B0_3 (fun hHeld => ?_)
  clear hK K K2 B0_2 B1_2 B2_2 B3_2 B4_2 k3
  refine take_at (i := 6) (v := ?v5) rfl (by kernel_rfl) (by kernel_rfl) (by kernel_rfl) (fun _ _ _ h => h) (Or.inl ⟨by rfl, ?y5⟩) hHeld ?t5
  case y5 => (intro wx hSw; go_simp <;> with_reducible rfl)
  simp only [Act.put, List.setIfInBounds_toArray, List.set_cons_zero, List.set_cons_succ]
  refine take_at (i := 7) (v := ?v6) rfl (by kernel_rfl) (by kernel_rfl) (by kernel_rfl) (fun _ _ _ h => h) (Or.inl ⟨by rfl, ?y6⟩) hHeld ?t6
  case y6 => (intro wx hSw; go_simp <;> with_reducible rfl)
  simp only [Act.put, List.setIfInBounds_toArray, List.set_cons_zero, List.set_cons_succ]
  refine take_at (i := 8) (v := ?v7) rfl (by kernel_rfl) (by kernel_rfl) (by kernel_rfl) (fun _ _ _ h => h) (Or.inl ⟨by rfl, ?y7⟩) hHeld ?t7
  case y7 => (intro wx hSw; go_simp <;> with_reducible rfl)
  simp only [Act.put, List.setIfInBounds_toArray, List.set_cons_zero, List.set_cons_succ]
  refine take_at (i := 9) rfl (by kernel_rfl) (by kernel_rfl) (by kernel_rfl) (fun _ _ _ h => h) (row_yield (by rfl) rfl rfl (fun _ hSw => hSw) (by kernel_rfl) (by rw [row_len]; kernel_rfl)) hHeld ?_
  simp only [Act.put, List.setIfInBounds_toArray, List.set_cons_zero, List.set_cons_succ]
  refine take_at (i := 11) (v := ?v8) rfl (by kernel_rfl) (by kernel_rfl) (by kernel_rfl) (fun _ _ _ h => h) (Or.inl ⟨by rfl, ?y8⟩) hHeld ?t8
  case y8 => (intro wx hSw; go_simp <;> with_reducible rfl)
  simp only [Act.put, List.setIfInBounds_toArray, List.set_cons_zero, List.set_cons_succ]
  refine take_at (i := 12) rfl (by kernel_rfl) (by kernel_rfl) (by kernel_rfl) (fun _ _ _ h => h) (row_yield (by rfl) rfl rfl (fun _ hSw => hSw) (by kernel_rfl) (by rw [row_len]; kernel_rfl)) hHeld ?_
  simp only [Act.put, List.setIfInBounds_toArray, List.set_cons_zero, List.set_cons_succ]
  refine call_at (i := 10) (by kernel_rfl) rfl (fun K hK => ?_)
  go_simp
  refine (hPoints_any w1.heap.size bad g _ B1_3).mono ?_
  rintro e w4 ⟨rfl, f4, k4⟩
  generalize e4 : hPointsS bad g = r4 at f4 ⊢
  have E4 : Hid _ := e4
  clear e4
  have K4 : Below w.heap.size w w4 := k4.on K3 (by omega)
  have B0_4 : Arr w.heap.size (row 43 g) w4 := B0_3.kept k4 (Nat.ne_of_lt y2_B0)
  have B2_4 : Fl (w1.heap.size + 1) bad w4 := B2_3.kept k4 (Nat.ne_of_gt y3_B1)
  have B3_4 : Fl (w1.heap.size + 1 + 1) bad w4 := B3_3.kept k4 (Nat.ne_of_gt y4_B1)
  have B4_4 : Fl (w1.heap.size + 1 + 1 + 1) bad w4 := B4_3.kept k4 (Nat.ne_of_gt y5_B1)
  have z4 := B4_4.lies
  clear hHeld
  refine hK.out _ _ B0_4 (fun hHeld => ?_)
  clear hK K K3 B0_3 B1_3 B2_3 B3_3 B4_3 k4
  refine wpAnyH_swap (S := fun w' => Arr w.heap.size (row 43 g) w' ∧ Fl w1.heap.size r4.2 w') (fun _ h => h.1) ?_
  clear hHeld
  have hHeld : Arr w.heap.size (row 43 g) w4 ∧ Fl w1.heap.size r4.2 w4 := ⟨B0_4, f4⟩
  refine call_at (i := 13) (by kernel_rfl) rfl (fun K hK => ?_)
  go_simp
  refine (fPointsC_any (w1.heap.size + 1) bad g _ B2_4).mono ?_
  rintro e w5 ⟨rfl, f5, k5⟩
  rw [E4.out] at f5 ⊢
  have K5 : Below w.heap.size w w5 := k5.on K4 (by omega)
  have B0_5 : Arr w.heap.size (row 43 g) w5 := B0_4.kept k5 (Nat.ne_of_lt y3_B0)
  have B1_5 : Fl w1.heap.size r4.2 w5 := f4.kept k5 (Nat.ne_of_lt y3_B1)
  have B3_5 : Fl (w1.heap.size + 1 + 1) bad w5 := B3_4.kept k5 (Nat.ne_of_gt y4_B2)
  have B4_5 : Fl (w1.heap.size + 1 + 1 + 1) bad w5 := B4_4.kept k5 (Nat.ne_of_gt y5_B2)
  have z5 := B4_5.lies
  clear hHeld
  refine hK.out _ _ ⟨B0_5, B1_5⟩ (fun hHeld => ?_)
  clear hK K K4 B0_4 f4 B2_4 B3_4 B4_4 k5
  refine wpAnyH_swap (S := fun w' => Arr w.heap.size (row 43 g) w' ∧ Fl w1.heap.size r4.2 w' ∧ Fl (w1.heap.size + 1) r4.2 w') (fun _ h => ⟨h.1, h.2.1⟩) ?_
  clear hHeld
  have hHeld : Arr w.heap.size (row 43 g) w5 ∧ Fl w1.heap.size r4.2 w5 ∧ Fl (w1.heap.size + 1) r4.2 w5 := ⟨B0_5, B1_5, f5⟩
  refine take_at (i := 14) (v := ?v9) rfl (by kernel_rfl) (by kernel_rfl) (by kernel_rfl) (fun _ _ _ h => h) (Or.inl ⟨by rfl, ?y9⟩) hHeld ?t9
  case y9 => (intro wx hSw; go_simp <;> with_reducible rfl)
  simp only [Act.put, List.setIfInBounds_toArray, List.set_cons_zero, List.set_cons_succ]
  refine take_at (i := 15) (v := ?v10) rfl (by kernel_rfl) (by kernel_rfl) (by kernel_rfl) (fun _ _ _ h => h) (Or.inl ⟨by rfl, ?y10⟩) hHeld ?t10
  case y10 => (intro wx hSw; go_simp <;> with_reducible rfl)
  simp only [Act.put, List.setIfInBounds_toArray, List.set_cons_zero, List.set_cons_succ]
  refine take_at (i := 16) (v := ?v11) rfl (by kernel_rfl) (by kernel_rfl) (by kernel_rfl) (fun _ _ _ h => h) (Or.inl ⟨by rfl, ?y11⟩) hHeld ?t11
  case y11 => (intro wx hSw; go_simp <;> with_reducible rfl)
  simp only [Act.put, List.setIfInBounds_toArray, List.set_cons_zero, List.set_cons_succ]
  refine take_at (i := 17) (v := ?v12) rfl (by kernel_rfl) (by kernel_rfl) (by kernel_rfl) (fun _ _ _ h => h) (Or.inl ⟨by rfl, ?y12⟩) hHeld ?t12
  case y12 => (intro wx hSw; go_simp <;> with_reducible rfl)
  simp only [Act.put, List.setIfInBounds_toArray, List.set_cons_zero, List.set_cons_succ]
  refine take_at (i := 18) (v := ?v13) rfl (by kernel_rfl) (by kernel_rfl) (by kernel_rfl) (fun _ _ _ h => h) (Or.inl ⟨by rfl, ?y13⟩) hHeld ?t13
  case y13 => (intro wx hSw; go_simp <;> with_reducible rfl)
  simp only [Act.put, List.setIfInBounds_toArray, List.set_cons_zero, List.set_cons_succ]
  refine take_at (i := 19) (v := ?v14) rfl (by kernel_rfl) (by kernel_rfl) (by kernel_rfl) (fun _ _ _ h => h) (Or.inl ⟨by rfl, ?y14⟩) hHeld ?t14
  case y14 => (intro wx hSw; go_simp <;> with_reducible rfl)
  simp only [Act.put, List.setIfInBounds_toArray, List.set_cons_zero, List.set_cons_succ]
  refine take_at (i := 20) (v := ?v15) rfl (by kernel_rfl) (by kernel_rfl) (by kernel_rfl) (fun _ _ _ h => h) (Or.inl ⟨by rfl, ?y15⟩) hHeld ?t15
  case y15 => (intro wx hSw; have hc0 : wx.cell? ⟨w1.heap.size, 0, none⟩ = some (.bool r4.2) := hSw.2.1.cell; go_simp <;> with_reducible rfl)
  simp only [Act.put, List.setIfInBounds_toArray, List.set_cons_zero, List.set_cons_succ]
  refine take_at (i := 21) (v := ?v16) rfl (by kernel_rfl) (by kernel_rfl) (by kernel_rfl) (fun _ _ _ h => h) (Or.inl ⟨by rfl, ?y16⟩) hHeld ?t16
  case y16 => (intro wx hSw; go_simp <;> with_reducible rfl)
  simp only [Act.put, List.setIfInBounds_toArray, List.set_cons_zero, List.set_cons_succ]
  refine take_at (i := 22) (v := ?v17) rfl (by kernel_rfl) (by kernel_rfl) (by kernel_rfl) (fun _ _ _ h => h) (Or.inl ⟨by rfl, ?y17⟩) hHeld ?t17
  case y17 => (intro wx hSw; go_simp <;> with_reducible rfl)
  simp only [Act.put, List.setIfInBounds_toArray, List.set_cons_zero, List.set_cons_succ]
  refine take_at (i := 23) (v := ?v18) rfl (by kernel_rfl) (by kernel_rfl) (by kernel_rfl) (fun _ _ _ h => h) (Or.inl ⟨by rfl, ?y18⟩) hHeld ?t18
  case y18 => (intro wx hSw; go_simp <;> with_reducible rfl)
  simp only [Act.put, List.setIfInBounds_toArray, List.set_cons_zero, List.set_cons_succ]
  refine take_at (i := 24) (v := ?v19) rfl (by kernel_rfl) (by kernel_rfl) (by kernel_rfl) (fun _ _ _ h => h) (Or.inl ⟨by rfl, ?y19⟩) hHeld ?t19
  case y19 => (intro wx hSw; have hc0 : wx.cell? ⟨w1.heap.size + 1, 0, none⟩ = some (.bool r4.2) := hSw.2.2.cell; go_simp <;> with_reducible rfl)
  simp only [Act.put, List.setIfInBounds_toArray, List.set_cons_zero, List.set_cons_succ]
  refine take_at (i := 25) (v := ?v20) rfl (by kernel_rfl) (by kernel_rfl) (by kernel_rfl) (fun _ _ _ h => h) (Or.inl ⟨by rfl, ?y20⟩) hHeld ?t20
  case y20 => (intro wx hSw; go_simp <;> with_reducible rfl)
  simp only [Act.put, List.setIfInBounds_toArray, List.set_cons_zero, List.set_cons_succ]
  refine take_at (i := 26) (v := ?v21) rfl (by kernel_rfl) (by kernel_rfl) (by kernel_rfl) (fun _ _ _ h => h) (Or.inl ⟨by rfl, ?y21⟩) hHeld ?t21
  case y21 => (intro wx hSw; go_simp <;> with_reducible rfl)
  simp only [Act.put, List.setIfInBounds_toArray, List.set_cons_zero, List.set_cons_succ]
  refine take_at (i := 27) (v := ?v22) rfl (by kernel_rfl) (by kernel_rfl) (by kernel_rfl) (fun _ _ _ h => h) (Or.inl ⟨by rfl, ?y22⟩) hHeld ?t22
  case y22 => (intro wx hSw; go_simp <;> with_reducible rfl)
  simp only [Act.put, List.setIfInBounds_toArray, List.set_cons_zero, List.set_cons_succ]
  refine take_at (i := 28) (v := ?v23) rfl (by kernel_rfl) (by kernel_rfl) (by kernel_rfl) (fun _ _ _ h => h) (Or.inl ⟨by rfl, ?y23⟩) hHeld ?t23
  case y23 => (intro wx hSw; go_simp <;> with_reducible rfl)
  simp only [Act.put, List.setIfInBounds_toArray, List.set_cons_zero, List.set_cons_succ]
  refine take_at (i := 29) rfl (by kernel_rfl) (by kernel_rfl) (by kernel_rfl) (fun _ _ _ h => h) (row_yield (by rfl) rfl rfl (fun _ hSw => hSw.1) (by kernel_rfl) (by rw [row_len]; kernel_rfl)) hHeld ?_
  simp only [Act.put, List.setIfInBounds_toArray, List.set_cons_zero, List.set_cons_succ]
  refine take_at (i := 31) (v := ?v24) rfl (by kernel_rfl) (by kernel_rfl) (by kernel_rfl) (fun _ _ _ h => h) (Or.inl ⟨by rfl, ?y24⟩) hHeld ?t24
  case y24 => (intro wx hSw; go_simp <;> with_reducible rfl)
  simp only [Act.put, List.setIfInBounds_toArray, List.set_cons_zero, List.set_cons_succ]
  refine take_at (i := 32) rfl (by kernel_rfl) (by kernel_rfl) (by kernel_rfl) (fun _ _ _ h => h) (row_yield (by rfl) rfl rfl (fun _ hSw => hSw.1) (by kernel_rfl) (by rw [row_len]; kernel_rfl)) hHeld ?_
  simp only [Act.put, List.setIfInBounds_toArray, List.set_cons_zero, List.set_cons_succ]
  refine call_at (i := 30) (by kernel_rfl) rfl (fun K hK => ?_)
  go_simp
  refine (hSpread_any (w1.heap.size + 1 + 1) bad g _ B3_5).mono ?_
  rintro e w6 ⟨rfl, f6, k6⟩
  generalize e6 : hSpreadS bad g = r6 at f6 ⊢
  have E6 : Hid _ := e6
  clear e6
  have K6 : Below w.heap.size w w6 := k6.on K5 (by omega)
  have B0_6 : Arr w.heap.size (row 43 g) w6 := B0_5.kept k6 (Nat.ne_of_lt y4_B0)
  have B1_6 : Fl w1.heap.size r4.2 w6 := B1_5.kept k6 (Nat.ne_of_lt y4_B1)
  have B2_6 : Fl (w1.heap.size + 1) r4.2 w6 := f5.kept k6 (Nat.ne_of_lt y4_B2)
  have B4_6 : Fl (w1.heap.size + 1 + 1 + 1) bad w6 := B4_5.kept k6 (Nat.ne_of_gt y5_B3)
  have z6 := B4_6.lies
  clear hHeld
  refine hK.out _ _ ⟨B0_6, B1_6, B2_6⟩ (fun hHeld => ?_)
  clear hK K K5 B0_5 B1_5 f5 B3_5 B4_5 k6
  refine wpAnyH_swap (S := fun w' => Arr w.heap.size (row 43 g) w' ∧ Fl w1.heap.size r4.2 w' ∧ Fl (w1.heap.size + 1) r4.2 w' ∧ Fl (w1.heap.size + 1 + 1) r6.2 w') (fun _ h => ⟨h.1, h.2.1, h.2.2.1⟩) ?_
  clear hHeld
  have hHeld : Arr w.heap.size (row 43 g) w6 ∧ Fl w1.heap.size r4.2 w6 ∧ Fl (w1.heap.size + 1) r4.2 w6 ∧ Fl (w1.heap.size + 1 + 1) r6.2 w6 := ⟨B0_6, B1_6, B2_6, f6⟩
  refine call_at (i := 33) (by kernel_rfl) rfl (fun K hK => ?_)
  go_simp
  refine (fSpreadC_any (w1.heap.size + 1 + 1 + 1) bad g _ B4_6).mono ?_
  rintro e w7 ⟨rfl, f7, k7⟩
  rw [E6.out] at f7 ⊢
  have K7 : Below w.heap.size w w7 := k7.on K6 (by omega)
  have B0_7 : Arr w.heap.size (row 43 g) w7 := B0_6.kept k7 (Nat.ne_of_lt y5_B0)
  have B1_7 : Fl w1.heap.size r4.2 w7 := B1_6.kept k7 (Nat.ne_of_lt y5_B1)
  have B2_7 : Fl (w1.heap.size + 1) r4.2 w7 := B2_6.kept k7 (Nat.ne_of_lt y5_B2)
  have B3_7 : Fl (w1.heap.size + 1 + 1) r6.2 w7 := f6.kept k7 (Nat.ne_of_lt y5_B3)
  have z7 := f7.lies
  clear hHeld
  refine hK.out _ _ ⟨B0_7, B1_7, B2_7, B3_7⟩ (fun hHeld => ?_)
  clear hK K K6 B0_6 B1_6 B2_6 f6 B4_6 k7
  refine wpAnyH_swap (S := fun w' => Arr w.heap.size (row 43 g) w' ∧ Fl w1.heap.size r4.2 w' ∧ Fl (w1.heap.size + 1) r4.2 w' ∧ Fl (w1.heap.size + 1 + 1) r6.2 w' ∧ Fl (w1.heap.size + 1 + 1 + 1) r6.2 w') (fun _ h => ⟨h.1, h.2.1, h.2.2.1, h.2.2.2.1⟩) ?_
  clear hHeld
  have hHeld : Arr w.heap.size (row 43 g) w7 ∧ Fl w1.heap.size r4.2 w7 ∧ Fl (w1.heap.size + 1) r4.2 w7 ∧ Fl (w1.heap.size + 1 + 1) r6.2 w7 ∧ Fl (w1.heap.size + 1 + 1 + 1) r6.2 w7 := ⟨B0_7, B1_7, B2_7, B3_7, f7⟩
  refine take_at (i := 34) (v := ?v25) rfl (by kernel_rfl) (by kernel_rfl) (by kernel_rfl) (fun _ _ _ h => h) (Or.inl ⟨by rfl, ?y25⟩) hHeld ?t25
  case y25 => (intro wx hSw; go_simp <;> with_reducible rfl)
  simp only [Act.put, List.setIfInBounds_toArray, List.set_cons_zero, List.set_cons_succ]
  refine take_at (i := 35) (v := ?v26) rfl (by kernel_rfl) (by kernel_rfl) (by kernel_rfl) (fun _ _ _ h => h) (Or.inl ⟨by rfl, ?y26⟩) hHeld ?t26
  case y26 => (intro wx hSw; go_simp <;> with_reducible rfl)
  simp only [Act.put, List.setIfInBounds_toArray, List.set_cons_zero, List.set_cons_succ]
  refine take_at (i := 36) (v := ?v27) rfl (by kernel_rfl) (by kernel_rfl) (by kernel_rfl) (fun _ _ _ h => h) (Or.inl ⟨by rfl, ?y27⟩) hHeld ?t27
  case y27 => (intro wx hSw; go_simp <;> with_reducible rfl)
  simp only [Act.put, List.setIfInBounds_toArray, List.set_cons_zero, List.set_cons_succ]
  refine take_at (i := 37) (v := ?v28) rfl (by kernel_rfl) (by kernel_rfl) (by kernel_rfl) (fun _ _ _ h => h) (Or.inl ⟨by rfl, ?y28⟩) hHeld ?t28
  case y28 => (intro wx hSw; go_simp <;> with_reducible rfl)
  simp only [Act.put, List.setIfInBounds_toArray, List.set_cons_zero, List.set_cons_succ]
  refine take_at (i := 38) (v := ?v29) rfl (by kernel_rfl) (by kernel_rfl) (by kernel_rfl) (fun _ _ _ h => h) (Or.inl ⟨by rfl, ?y29⟩) hHeld ?t29
  case y29 => (intro wx hSw; go_simp <;> with_reducible rfl)
  simp only [Act.put, List.setIfInBounds_toArray, List.set_cons_zero, List.set_cons_succ]
  refine take_at (i := 39) (v := ?v30) rfl (by kernel_rfl) (by kernel_rfl) (by kernel_rfl) (fun _ _ _ h => h) (Or.inl ⟨by rfl, ?y30⟩) hHeld ?t30
  case y30 => (intro wx hSw; go_simp <;> with_reducible rfl)
  simp only [Act.put, List.setIfInBounds_toArray, List.set_cons_zero, List.set_cons_succ]
  refine take_at (i := 40) (v := ?v31) rfl (by kernel_rfl) (by kernel_rfl) (by kernel_rfl) (fun _ _ _ h => h) (Or.inl ⟨by rfl, ?y31⟩) hHeld ?t31
  case y31 => (intro wx hSw; have hc0 : wx.cell? ⟨w1.heap.size + 1 + 1, 0, none⟩ = some (.bool r6.2) := hSw.2.2.2.1.cell; go_simp <;> with_reducible rfl)
  simp only [Act.put, List.setIfInBounds_toArray, List.set_cons_zero, List.set_cons_succ]
  refine take_at (i := 41) (v := ?v32) rfl (by kernel_rfl) (by kernel_rfl) (by kernel_rfl) (fun _ _ _ h => h) (Or.inl ⟨by rfl, ?y32⟩) hHeld ?t32
  case y32 => (intro wx hSw; go_simp <;> with_reducible rfl)
  simp only [Act.put, List.setIfInBounds_toArray, List.set_cons_zero, List.set_cons_succ]
  refine take_at (i := 42) (v := ?v33) rfl (by kernel_rfl) (by kernel_rfl) (by kernel_rfl) (fun _ _ _ h => h) (Or.inl ⟨by rfl, ?y33⟩) hHeld ?t33
  case y33 => (intro wx hSw; go_simp <;> with_reducible rfl)
  simp only [Act.put, List.setIfInBounds_toArray, List.set_cons_zero, List.set_cons_succ]
  refine take_at (i := 43) (v := ?v34) rfl (by kernel_rfl) (by kernel_rfl) (by kernel_rfl) (fun _ _ _ h => h) (Or.inl ⟨by rfl, ?y34⟩) hHeld ?t34
  case y34 => (intro wx hSw; go_simp <;> with_reducible rfl)
  simp only [Act.put, List.setIfInBounds_toArray, List.set_cons_zero, List.set_cons_succ]
  refine take_at (i := 44) (v := ?v35) rfl (by kernel_rfl) (by kernel_rfl) (by kernel_rfl) (fun _ _ _ h => h) (Or.inl ⟨by rfl, ?y35⟩) hHeld ?t35
  case y35 => (intro wx hSw; have hc0 : wx.cell? ⟨w1.heap.size + 1 + 1 + 1, 0, none⟩ = some (.bool r6.2) := hSw.2.2.2.2.cell; go_simp <;> with_reducible rfl)
  simp only [Act.put, List.setIfInBounds_toArray, List.set_cons_zero, List.set_cons_succ]
  refine take_at (i := 45) (v := ?v36) rfl (by kernel_rfl) (by kernel_rfl) (by kernel_rfl) (fun _ _ _ h => h) (Or.inl ⟨by rfl, ?y36⟩) hHeld ?t36
  case y36 => (intro wx hSw; go_simp <;> with_reducible rfl)
  simp only [Act.put, List.setIfInBounds_toArray, List.set_cons_zero, List.set_cons_succ]
  refine take_at (i := 46) (v := ?v37) rfl (by kernel_rfl) (by kernel_rfl) (by kernel_rfl) (fun _ _ _ h => h) (Or.inl ⟨by rfl, ?y37⟩) hHeld ?t37
  case y37 => (intro wx hSw; go_simp <;> with_reducible rfl)
  simp only [Act.put, List.setIfInBounds_toArray, List.set_cons_zero, List.set_cons_succ]
  refine take_at (i := 47) (v := ?v38) rfl (by kernel_rfl) (by kernel_rfl) (by kernel_rfl) (fun _ _ _ h => h) (Or.inl ⟨by rfl, ?y38⟩) hHeld ?t38
  case y38 => (intro wx hSw; go_simp <;> with_reducible rfl)
  simp only [Act.put, List.setIfInBounds_toArray, List.set_cons_zero, List.set_cons_succ]
  refine wpAnyH_done (by kernel_rfl) ?_ _
  clear hHeld
  go_wp2
  go_ret
  exact ⟨rfl, K7⟩
end Go.Proofs.Ytpjobkbefgehjaa
