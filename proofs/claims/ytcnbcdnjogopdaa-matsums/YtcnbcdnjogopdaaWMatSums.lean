/-
  The walk of the law MatSums, for the seat Ytcnbcdnjogopdaa. (Made by mklaw06.py.)
-/
import Derived.Test.YtcnbcdnjogopdaaLAwake
import Derived.Test.YtcnbcdnjogopdaaAAll
import Derived.Test.YtcnbcdnjogopdaaVPart
import Derived.Handy
import Derived.Deep.RegionHeld3
namespace Go.Proofs.Ytcnbcdnjogopdaa
open Go.RowKit

set_option maxRecDepth 100000 in
set_option maxHeartbeats 4000000 in
theorem MatSums_any (m : Nat → Int) (p : Nat → Int) (n : Int) (w : World) :
    Calls Try.prog 5 #[.agg (row 36 m).toArray, .agg (row 6 p).toArray, .int .i64 n] w fun e w' => e = .returned (.bool true) ∧ Below w.heap.size w w' := by
  go_enter Try.func5, Try.ntmps5
  have y1_low : w.heap.size ≤ w.heap.size := (Below.refl w.heap.size w).size
  have y2_B0 : w.heap.size < w.heap.size + 1 := (Nat.lt_succ_self _)
  have y2_low : w.heap.size ≤ w.heap.size + 1 := (Nat.le_succ_of_le (Below.refl w.heap.size w).size)
  go_wp2_with fail
  refine (awake_any  _).mono ?_
  rintro e w1 ⟨rfl, k1⟩
  have K1 : Below w.heap.size w w1 := bel_then (bel_al (bel_al (Below.refl w.heap.size w) _) _) k1
  have B0_1 : Arr w.heap.size (row 36 m) w1 := ((Arr_at _ _ (row 36 m) _ (by simp)).alloc _).below k1
  have B1_1 : Arr (w.heap.size + 1) (row 6 p) w1 := (Arr_at _ _ (row 6 p) _ (by simp)).below k1
  have z1 := B1_1.lies
  clear k1
  go_wp2_with fail
  refine (flows_any false _).mono ?_
  rintro e w2 ⟨rfl, rfl⟩
  go_wp2_with fail
  refine (flows_any false _).mono ?_
  rintro e w2 ⟨rfl, rfl⟩
  go_wp2_with fail
  refine wp_region_held_drew (S := fun w' => Arr w.heap.size (row 36 m) w' ∧ Arr (w.heap.size + 1) (row 6 p) w') (by kernel_rfl) ⟨((((B0_1.alloc _).alloc _).alloc _).alloc _).drew, ((((B1_1.alloc _).alloc _).alloc _).alloc _).drew⟩ (fun hHeld => ?_)
  refine take_at (i := 0) (v := ?v1) rfl (by kernel_rfl) (by kernel_rfl) (by kernel_rfl) (fun _ _ _ h => h) (Or.inl ⟨by rfl, ?y1⟩) hHeld ?t1
  case y1 => (intro wx hSw; go_simp <;> with_reducible rfl)
  simp only [Act.put, List.setIfInBounds_toArray, List.set_cons_zero, List.set_cons_succ]
  refine take_at (i := 1) rfl (by kernel_rfl) (by kernel_rfl) (by kernel_rfl) (fun _ _ _ h => h) (row_yield (by rfl) rfl rfl (fun _ hSw => hSw.1) (by kernel_rfl) (by rw [row_len]; kernel_rfl)) hHeld ?_
  simp only [Act.put, List.setIfInBounds_toArray, List.set_cons_zero, List.set_cons_succ]
  refine take_at (i := 2) (v := ?v2) rfl (by kernel_rfl) (by kernel_rfl) (by kernel_rfl) (fun _ _ _ h => h) (Or.inl ⟨by rfl, ?y2⟩) hHeld ?t2
  case y2 => (intro wx hSw; go_simp <;> with_reducible rfl)
  simp only [Act.put, List.setIfInBounds_toArray, List.set_cons_zero, List.set_cons_succ]
  refine take_at (i := 4) (v := ?v3) rfl (by kernel_rfl) (by kernel_rfl) (by kernel_rfl) (fun _ _ _ h => h) (Or.inl ⟨by rfl, ?y3⟩) hHeld ?t3
  case y3 => (intro wx hSw; go_simp <;> with_reducible rfl)
  simp only [Act.put, List.setIfInBounds_toArray, List.set_cons_zero, List.set_cons_succ]
  refine take_at (i := 5) rfl (by kernel_rfl) (by kernel_rfl) (by kernel_rfl) (fun _ _ _ h => h) (row_yield (by rfl) rfl rfl (fun _ hSw => hSw.1) (by kernel_rfl) (by rw [row_len]; kernel_rfl)) hHeld ?_
  simp only [Act.put, List.setIfInBounds_toArray, List.set_cons_zero, List.set_cons_succ]
  refine take_at (i := 6) (v := ?v4) rfl (by kernel_rfl) (by kernel_rfl) (by kernel_rfl) (fun _ _ _ h => h) (Or.inl ⟨by rfl, ?y4⟩) hHeld ?t4
  case y4 => (intro wx hSw; go_simp <;> with_reducible rfl)
  simp only [Act.put, List.setIfInBounds_toArray, List.set_cons_zero, List.set_cons_succ]
  refine call_at (i := 3) (by kernel_rfl) rfl (fun K hK => ?_)
  go_simp
  refine (aSquare_any w1.heap.size false m n _ ((((Fl_at _ _ _ _ (by simp)).alloc _).alloc _).alloc _).drew).mono ?_
  rintro e w2 ⟨rfl, f2, k2⟩
  generalize e2 : aSquareS false m n = r2 at f2 ⊢
  have E2 : Hid _ := e2
  clear e2
  have K2 : Below w.heap.size w w2 := k2.on (Below.drew (bel_al (bel_al (bel_al (bel_al K1 _) _) _) _)) (by omega)
  have B0_2 : Arr w.heap.size (row 36 m) w2 := ((((B0_1.alloc _).alloc _).alloc _).alloc _).drew.kept k2 (by omega)
  have B1_2 : Arr (w.heap.size + 1) (row 6 p) w2 := ((((B1_1.alloc _).alloc _).alloc _).alloc _).drew.kept k2 (by omega)
  have B3_2 : Fl (w1.heap.size + 1) false w2 := (((Fl_at _ _ _ _ (by simp)).alloc _).alloc _).drew.kept k2 (by omega)
  have B4_2 : Fl (w1.heap.size + 1 + 1) false w2 := ((Fl_at _ _ _ _ (by simp)).alloc _).drew.kept k2 (by omega)
  have B5_2 : Fl (w1.heap.size + 1 + 1 + 1) false w2 := (Fl_at _ _ _ _ (by simp)).drew.kept k2 (by omega)
  have z2 := B5_2.lies
  clear hHeld
  refine hK.out _ _ ⟨B0_2, B1_2⟩ (fun hHeld => ?_)
  clear hK K K1 B0_1 B1_1 k2
  refine wpAnyH_swap (S := fun w' => Arr w.heap.size (row 36 m) w' ∧ Arr (w.heap.size + 1) (row 6 p) w' ∧ Fl w1.heap.size r2.2 w') (fun _ h => ⟨h.1, h.2.1⟩) ?_
  clear hHeld
  have hHeld : Arr w.heap.size (row 36 m) w2 ∧ Arr (w.heap.size + 1) (row 6 p) w2 ∧ Fl w1.heap.size r2.2 w2 := ⟨B0_2, B1_2, f2⟩
  refine call_at (i := 7) (by kernel_rfl) rfl (fun K hK => ?_)
  go_simp
  refine (ySquare_any (w1.heap.size + 1) false m n _ B3_2 rfl).mono ?_
  rintro e w3 ⟨rfl, f3, k3⟩
  rw [E2.out] at f3 ⊢
  have K3 : Below w.heap.size w w3 := k3.on K2 (by omega)
  have B0_3 : Arr w.heap.size (row 36 m) w3 := B0_2.kept k3 (by omega)
  have B1_3 : Arr (w.heap.size + 1) (row 6 p) w3 := B1_2.kept k3 (by omega)
  have B2_3 : Fl w1.heap.size r2.2 w3 := f2.kept k3 (by omega)
  have B4_3 : Fl (w1.heap.size + 1 + 1) false w3 := B4_2.kept k3 (by omega)
  have B5_3 : Fl (w1.heap.size + 1 + 1 + 1) false w3 := B5_2.kept k3 (by omega)
  have z3 := B5_3.lies
  clear hHeld
  refine hK.out _ _ ⟨B0_3, B1_3, B2_3⟩ (fun hHeld => ?_)
  clear hK K K2 B0_2 B1_2 f2 B3_2 B4_2 B5_2 k3
  refine wpAnyH_swap (S := fun w' => Arr w.heap.size (row 36 m) w' ∧ Arr (w.heap.size + 1) (row 6 p) w' ∧ Fl w1.heap.size r2.2 w' ∧ Fl (w1.heap.size + 1) r2.2 w') (fun _ h => ⟨h.1, h.2.1, h.2.2.1⟩) ?_
  clear hHeld
  have hHeld : Arr w.heap.size (row 36 m) w3 ∧ Arr (w.heap.size + 1) (row 6 p) w3 ∧ Fl w1.heap.size r2.2 w3 ∧ Fl (w1.heap.size + 1) r2.2 w3 := ⟨B0_3, B1_3, B2_3, f3⟩
  refine take_at (i := 8) (v := ?v5) rfl (by kernel_rfl) (by kernel_rfl) (by kernel_rfl) (fun _ _ _ h => h) (Or.inl ⟨by rfl, ?y5⟩) hHeld ?t5
  case y5 => (intro wx hSw; go_simp <;> with_reducible rfl)
  simp only [Act.put, List.setIfInBounds_toArray, List.set_cons_zero, List.set_cons_succ]
  refine take_at (i := 9) (v := ?v6) rfl (by kernel_rfl) (by kernel_rfl) (by kernel_rfl) (fun _ _ _ h => h) (Or.inl ⟨by rfl, ?y6⟩) hHeld ?t6
  case y6 => (intro wx hSw; go_simp <;> with_reducible rfl)
  simp only [Act.put, List.setIfInBounds_toArray, List.set_cons_zero, List.set_cons_succ]
  refine take_at (i := 10) (v := ?v7) rfl (by kernel_rfl) (by kernel_rfl) (by kernel_rfl) (fun _ _ _ h => h) (Or.inl ⟨by rfl, ?y7⟩) hHeld ?t7
  case y7 => (intro wx hSw; go_simp <;> with_reducible rfl)
  simp only [Act.put, List.setIfInBounds_toArray, List.set_cons_zero, List.set_cons_succ]
  refine take_at (i := 11) (v := ?v8) rfl (by kernel_rfl) (by kernel_rfl) (by kernel_rfl) (fun _ _ _ h => h) (Or.inl ⟨by rfl, ?y8⟩) hHeld ?t8
  case y8 => (intro wx hSw; go_simp <;> with_reducible rfl)
  simp only [Act.put, List.setIfInBounds_toArray, List.set_cons_zero, List.set_cons_succ]
  refine take_at (i := 12) (v := ?v9) rfl (by kernel_rfl) (by kernel_rfl) (by kernel_rfl) (fun _ _ _ h => h) (Or.inl ⟨by rfl, ?y9⟩) hHeld ?t9
  case y9 => (intro wx hSw; go_simp <;> with_reducible rfl)
  simp only [Act.put, List.setIfInBounds_toArray, List.set_cons_zero, List.set_cons_succ]
  refine take_at (i := 13) (v := ?v10) rfl (by kernel_rfl) (by kernel_rfl) (by kernel_rfl) (fun _ _ _ h => h) (Or.inl ⟨by rfl, ?y10⟩) hHeld ?t10
  case y10 => (intro wx hSw; have hc0 : wx.cell? ⟨w1.heap.size, 0, none⟩ = some (.bool r2.2) := hSw.2.2.1.cell; go_simp <;> with_reducible rfl)
  simp only [Act.put, List.setIfInBounds_toArray, List.set_cons_zero, List.set_cons_succ]
  refine take_at (i := 14) (v := ?v11) rfl (by kernel_rfl) (by kernel_rfl) (by kernel_rfl) (fun _ _ _ h => h) (Or.inl ⟨by rfl, ?y11⟩) hHeld ?t11
  case y11 => (intro wx hSw; go_simp <;> with_reducible rfl)
  simp only [Act.put, List.setIfInBounds_toArray, List.set_cons_zero, List.set_cons_succ]
  refine take_at (i := 15) (v := ?v12) rfl (by kernel_rfl) (by kernel_rfl) (by kernel_rfl) (fun _ _ _ h => h) (Or.inl ⟨by rfl, ?y12⟩) hHeld ?t12
  case y12 => (intro wx hSw; go_simp <;> with_reducible rfl)
  simp only [Act.put, List.setIfInBounds_toArray, List.set_cons_zero, List.set_cons_succ]
  refine take_at (i := 16) (v := ?v13) rfl (by kernel_rfl) (by kernel_rfl) (by kernel_rfl) (fun _ _ _ h => h) (Or.inl ⟨by rfl, ?y13⟩) hHeld ?t13
  case y13 => (intro wx hSw; go_simp <;> with_reducible rfl)
  simp only [Act.put, List.setIfInBounds_toArray, List.set_cons_zero, List.set_cons_succ]
  refine take_at (i := 17) (v := ?v14) rfl (by kernel_rfl) (by kernel_rfl) (by kernel_rfl) (fun _ _ _ h => h) (Or.inl ⟨by rfl, ?y14⟩) hHeld ?t14
  case y14 => (intro wx hSw; have hc0 : wx.cell? ⟨w1.heap.size + 1, 0, none⟩ = some (.bool r2.2) := hSw.2.2.2.cell; go_simp <;> with_reducible rfl)
  simp only [Act.put, List.setIfInBounds_toArray, List.set_cons_zero, List.set_cons_succ]
  refine take_at (i := 18) (v := ?v15) rfl (by kernel_rfl) (by kernel_rfl) (by kernel_rfl) (fun _ _ _ h => h) (Or.inl ⟨by rfl, ?y15⟩) hHeld ?t15
  case y15 => (intro wx hSw; go_simp <;> with_reducible rfl)
  simp only [Act.put, List.setIfInBounds_toArray, List.set_cons_zero, List.set_cons_succ]
  refine take_at (i := 19) (v := ?v16) rfl (by kernel_rfl) (by kernel_rfl) (by kernel_rfl) (fun _ _ _ h => h) (Or.inl ⟨by rfl, ?y16⟩) hHeld ?t16
  case y16 => (intro wx hSw; go_simp <;> with_reducible rfl)
  simp only [Act.put, List.setIfInBounds_toArray, List.set_cons_zero, List.set_cons_succ]
  refine take_at (i := 20) (v := ?v17) rfl (by kernel_rfl) (by kernel_rfl) (by kernel_rfl) (fun _ _ _ h => h) (Or.inl ⟨by rfl, ?y17⟩) hHeld ?t17
  case y17 => (intro wx hSw; go_simp <;> with_reducible rfl)
  simp only [Act.put, List.setIfInBounds_toArray, List.set_cons_zero, List.set_cons_succ]
  refine take_at (i := 21) (v := ?v18) rfl (by kernel_rfl) (by kernel_rfl) (by kernel_rfl) (fun _ _ _ h => h) (Or.inl ⟨by rfl, ?y18⟩) hHeld ?t18
  case y18 => (intro wx hSw; go_simp <;> with_reducible rfl)
  simp only [Act.put, List.setIfInBounds_toArray, List.set_cons_zero, List.set_cons_succ]
  refine take_at (i := 22) rfl (by kernel_rfl) (by kernel_rfl) (by kernel_rfl) (fun _ _ _ h => h) (row_yield (by rfl) rfl rfl (fun _ hSw => hSw.1) (by kernel_rfl) (by rw [row_len]; kernel_rfl)) hHeld ?_
  simp only [Act.put, List.setIfInBounds_toArray, List.set_cons_zero, List.set_cons_succ]
  refine take_at (i := 23) rfl (by kernel_rfl) (by kernel_rfl) (by kernel_rfl) (fun _ _ _ h => h) (row_yield (by rfl) rfl rfl (fun _ hSw => hSw.2.1) (by kernel_rfl) (by rw [row_len]; kernel_rfl)) hHeld ?_
  simp only [Act.put, List.setIfInBounds_toArray, List.set_cons_zero, List.set_cons_succ]
  refine take_at (i := 24) (v := ?v19) rfl (by kernel_rfl) (by kernel_rfl) (by kernel_rfl) (fun _ _ _ h => h) (Or.inl ⟨by rfl, ?y19⟩) hHeld ?t19
  case y19 => (intro wx hSw; go_simp <;> with_reducible rfl)
  simp only [Act.put, List.setIfInBounds_toArray, List.set_cons_zero, List.set_cons_succ]
  refine take_at (i := 26) (v := ?v20) rfl (by kernel_rfl) (by kernel_rfl) (by kernel_rfl) (fun _ _ _ h => h) (Or.inl ⟨by rfl, ?y20⟩) hHeld ?t20
  case y20 => (intro wx hSw; go_simp <;> with_reducible rfl)
  simp only [Act.put, List.setIfInBounds_toArray, List.set_cons_zero, List.set_cons_succ]
  refine take_at (i := 27) rfl (by kernel_rfl) (by kernel_rfl) (by kernel_rfl) (fun _ _ _ h => h) (row_yield (by rfl) rfl rfl (fun _ hSw => hSw.1) (by kernel_rfl) (by rw [row_len]; kernel_rfl)) hHeld ?_
  simp only [Act.put, List.setIfInBounds_toArray, List.set_cons_zero, List.set_cons_succ]
  refine take_at (i := 28) rfl (by kernel_rfl) (by kernel_rfl) (by kernel_rfl) (fun _ _ _ h => h) (row_yield (by rfl) rfl rfl (fun _ hSw => hSw.2.1) (by kernel_rfl) (by rw [row_len]; kernel_rfl)) hHeld ?_
  simp only [Act.put, List.setIfInBounds_toArray, List.set_cons_zero, List.set_cons_succ]
  refine take_at (i := 29) (v := ?v21) rfl (by kernel_rfl) (by kernel_rfl) (by kernel_rfl) (fun _ _ _ h => h) (Or.inl ⟨by rfl, ?y21⟩) hHeld ?t21
  case y21 => (intro wx hSw; go_simp <;> with_reducible rfl)
  simp only [Act.put, List.setIfInBounds_toArray, List.set_cons_zero, List.set_cons_succ]
  refine call_at (i := 25) (by kernel_rfl) rfl (fun K hK => ?_)
  go_simp
  refine (aApply_any (w1.heap.size + 1 + 1) false m p n _ B4_3).mono ?_
  rintro e w4 ⟨rfl, f4, k4⟩
  generalize e4 : aApplyS false m p n = r4 at f4 ⊢
  have E4 : Hid _ := e4
  clear e4
  have K4 : Below w.heap.size w w4 := k4.on K3 (by omega)
  have B0_4 : Arr w.heap.size (row 36 m) w4 := B0_3.kept k4 (by omega)
  have B1_4 : Arr (w.heap.size + 1) (row 6 p) w4 := B1_3.kept k4 (by omega)
  have B2_4 : Fl w1.heap.size r2.2 w4 := B2_3.kept k4 (by omega)
  have B3_4 : Fl (w1.heap.size + 1) r2.2 w4 := f3.kept k4 (by omega)
  have B5_4 : Fl (w1.heap.size + 1 + 1 + 1) false w4 := B5_3.kept k4 (by omega)
  have z4 := B5_4.lies
  clear hHeld
  refine hK.out _ _ ⟨B0_4, B1_4, B2_4, B3_4⟩ (fun hHeld => ?_)
  clear hK K K3 B0_3 B1_3 B2_3 f3 B4_3 B5_3 k4
  refine wpAnyH_swap (S := fun w' => Arr w.heap.size (row 36 m) w' ∧ Arr (w.heap.size + 1) (row 6 p) w' ∧ Fl w1.heap.size r2.2 w' ∧ Fl (w1.heap.size + 1) r2.2 w' ∧ Fl (w1.heap.size + 1 + 1) r4.2 w') (fun _ h => ⟨h.1, h.2.1, h.2.2.1, h.2.2.2.1⟩) ?_
  clear hHeld
  have hHeld : Arr w.heap.size (row 36 m) w4 ∧ Arr (w.heap.size + 1) (row 6 p) w4 ∧ Fl w1.heap.size r2.2 w4 ∧ Fl (w1.heap.size + 1) r2.2 w4 ∧ Fl (w1.heap.size + 1 + 1) r4.2 w4 := ⟨B0_4, B1_4, B2_4, B3_4, f4⟩
  refine call_at (i := 30) (by kernel_rfl) rfl (fun K hK => ?_)
  go_simp
  refine (yApply_any (w1.heap.size + 1 + 1 + 1) false m p n _ B5_4 rfl).mono ?_
  rintro e w5 ⟨rfl, f5, k5⟩
  rw [E4.out] at f5 ⊢
  have K5 : Below w.heap.size w w5 := k5.on K4 (by omega)
  have B0_5 : Arr w.heap.size (row 36 m) w5 := B0_4.kept k5 (by omega)
  have B1_5 : Arr (w.heap.size + 1) (row 6 p) w5 := B1_4.kept k5 (by omega)
  have B2_5 : Fl w1.heap.size r2.2 w5 := B2_4.kept k5 (by omega)
  have B3_5 : Fl (w1.heap.size + 1) r2.2 w5 := B3_4.kept k5 (by omega)
  have B4_5 : Fl (w1.heap.size + 1 + 1) r4.2 w5 := f4.kept k5 (by omega)
  have z5 := f5.lies
  clear hHeld
  refine hK.out _ _ ⟨B0_5, B1_5, B2_5, B3_5, B4_5⟩ (fun hHeld => ?_)
  clear hK K K4 B0_4 B1_4 B2_4 B3_4 f4 B5_4 k5
  refine wpAnyH_swap (S := fun w' => Arr w.heap.size (row 36 m) w' ∧ Arr (w.heap.size + 1) (row 6 p) w' ∧ Fl w1.heap.size r2.2 w' ∧ Fl (w1.heap.size + 1) r2.2 w' ∧ Fl (w1.heap.size + 1 + 1) r4.2 w' ∧ Fl (w1.heap.size + 1 + 1 + 1) r4.2 w') (fun _ h => ⟨h.1, h.2.1, h.2.2.1, h.2.2.2.1, h.2.2.2.2.1⟩) ?_
  clear hHeld
  have hHeld : Arr w.heap.size (row 36 m) w5 ∧ Arr (w.heap.size + 1) (row 6 p) w5 ∧ Fl w1.heap.size r2.2 w5 ∧ Fl (w1.heap.size + 1) r2.2 w5 ∧ Fl (w1.heap.size + 1 + 1) r4.2 w5 ∧ Fl (w1.heap.size + 1 + 1 + 1) r4.2 w5 := ⟨B0_5, B1_5, B2_5, B3_5, B4_5, f5⟩
  refine take_at (i := 31) (v := ?v22) rfl (by kernel_rfl) (by kernel_rfl) (by kernel_rfl) (fun _ _ _ h => h) (Or.inl ⟨by rfl, ?y22⟩) hHeld ?t22
  case y22 => (intro wx hSw; go_simp <;> with_reducible rfl)
  simp only [Act.put, List.setIfInBounds_toArray, List.set_cons_zero, List.set_cons_succ]
  refine take_at (i := 32) (v := ?v23) rfl (by kernel_rfl) (by kernel_rfl) (by kernel_rfl) (fun _ _ _ h => h) (Or.inl ⟨by rfl, ?y23⟩) hHeld ?t23
  case y23 => (intro wx hSw; go_simp <;> with_reducible rfl)
  simp only [Act.put, List.setIfInBounds_toArray, List.set_cons_zero, List.set_cons_succ]
  refine take_at (i := 33) (v := ?v24) rfl (by kernel_rfl) (by kernel_rfl) (by kernel_rfl) (fun _ _ _ h => h) (Or.inl ⟨by rfl, ?y24⟩) hHeld ?t24
  case y24 => (intro wx hSw; go_simp <;> with_reducible rfl)
  simp only [Act.put, List.setIfInBounds_toArray, List.set_cons_zero, List.set_cons_succ]
  refine take_at (i := 34) (v := ?v25) rfl (by kernel_rfl) (by kernel_rfl) (by kernel_rfl) (fun _ _ _ h => h) (Or.inl ⟨by rfl, ?y25⟩) hHeld ?t25
  case y25 => (intro wx hSw; go_simp <;> with_reducible rfl)
  simp only [Act.put, List.setIfInBounds_toArray, List.set_cons_zero, List.set_cons_succ]
  refine take_at (i := 35) (v := ?v26) rfl (by kernel_rfl) (by kernel_rfl) (by kernel_rfl) (fun _ _ _ h => h) (Or.inl ⟨by rfl, ?y26⟩) hHeld ?t26
  case y26 => (intro wx hSw; go_simp <;> with_reducible rfl)
  simp only [Act.put, List.setIfInBounds_toArray, List.set_cons_zero, List.set_cons_succ]
  refine take_at (i := 36) (v := ?v27) rfl (by kernel_rfl) (by kernel_rfl) (by kernel_rfl) (fun _ _ _ h => h) (Or.inl ⟨by rfl, ?y27⟩) hHeld ?t27
  case y27 => (intro wx hSw; go_simp <;> with_reducible rfl)
  simp only [Act.put, List.setIfInBounds_toArray, List.set_cons_zero, List.set_cons_succ]
  refine take_at (i := 37) (v := ?v28) rfl (by kernel_rfl) (by kernel_rfl) (by kernel_rfl) (fun _ _ _ h => h) (Or.inl ⟨by rfl, ?y28⟩) hHeld ?t28
  case y28 => (intro wx hSw; have hc0 : wx.cell? ⟨w1.heap.size + 1 + 1, 0, none⟩ = some (.bool r4.2) := hSw.2.2.2.2.1.cell; go_simp <;> with_reducible rfl)
  simp only [Act.put, List.setIfInBounds_toArray, List.set_cons_zero, List.set_cons_succ]
  refine take_at (i := 38) (v := ?v29) rfl (by kernel_rfl) (by kernel_rfl) (by kernel_rfl) (fun _ _ _ h => h) (Or.inl ⟨by rfl, ?y29⟩) hHeld ?t29
  case y29 => (intro wx hSw; go_simp <;> with_reducible rfl)
  simp only [Act.put, List.setIfInBounds_toArray, List.set_cons_zero, List.set_cons_succ]
  refine take_at (i := 39) (v := ?v30) rfl (by kernel_rfl) (by kernel_rfl) (by kernel_rfl) (fun _ _ _ h => h) (Or.inl ⟨by rfl, ?y30⟩) hHeld ?t30
  case y30 => (intro wx hSw; go_simp <;> with_reducible rfl)
  simp only [Act.put, List.setIfInBounds_toArray, List.set_cons_zero, List.set_cons_succ]
  refine take_at (i := 40) (v := ?v31) rfl (by kernel_rfl) (by kernel_rfl) (by kernel_rfl) (fun _ _ _ h => h) (Or.inl ⟨by rfl, ?y31⟩) hHeld ?t31
  case y31 => (intro wx hSw; go_simp <;> with_reducible rfl)
  simp only [Act.put, List.setIfInBounds_toArray, List.set_cons_zero, List.set_cons_succ]
  refine take_at (i := 41) (v := ?v32) rfl (by kernel_rfl) (by kernel_rfl) (by kernel_rfl) (fun _ _ _ h => h) (Or.inl ⟨by rfl, ?y32⟩) hHeld ?t32
  case y32 => (intro wx hSw; have hc0 : wx.cell? ⟨w1.heap.size + 1 + 1 + 1, 0, none⟩ = some (.bool r4.2) := hSw.2.2.2.2.2.cell; go_simp <;> with_reducible rfl)
  simp only [Act.put, List.setIfInBounds_toArray, List.set_cons_zero, List.set_cons_succ]
  refine take_at (i := 42) (v := ?v33) rfl (by kernel_rfl) (by kernel_rfl) (by kernel_rfl) (fun _ _ _ h => h) (Or.inl ⟨by rfl, ?y33⟩) hHeld ?t33
  case y33 => (intro wx hSw; go_simp <;> with_reducible rfl)
  simp only [Act.put, List.setIfInBounds_toArray, List.set_cons_zero, List.set_cons_succ]
  refine take_at (i := 43) (v := ?v34) rfl (by kernel_rfl) (by kernel_rfl) (by kernel_rfl) (fun _ _ _ h => h) (Or.inl ⟨by rfl, ?y34⟩) hHeld ?t34
  case y34 => (intro wx hSw; go_simp <;> with_reducible rfl)
  simp only [Act.put, List.setIfInBounds_toArray, List.set_cons_zero, List.set_cons_succ]
  refine take_at (i := 44) (v := ?v35) rfl (by kernel_rfl) (by kernel_rfl) (by kernel_rfl) (fun _ _ _ h => h) (Or.inl ⟨by rfl, ?y35⟩) hHeld ?t35
  case y35 => (intro wx hSw; go_simp <;> with_reducible rfl)
  simp only [Act.put, List.setIfInBounds_toArray, List.set_cons_zero, List.set_cons_succ]
  refine wpAnyH_done (by kernel_rfl) ?_ _
  clear hHeld
  go_wp2
  go_ret
  exact ⟨rfl, K5⟩
end Go.Proofs.Ytcnbcdnjogopdaa
