/-
  The walks of the law FieldPole, for the seat YtmhcfkcpoecokaaDoor. (Made by mkfield.py.)
-/
import Derived.Test.YtmhcfkcpoecokaaDoorJU
import Derived.Test.YtmhcfkcpoecokaaDoorJE
import Derived.Handy
import Derived.Deep.RegionHeld3
namespace Go.Proofs.YtmhcfkcpoecokaaDoor
open Go.RowKit

set_option maxRecDepth 100000 in
set_option maxHeartbeats 4000000 in
theorem FieldPole_a (p : V3) (t : Int) (w : World) (hG0 : Arr 0 (row 54 at0) w) (hG1 : Arr 1 (row 10 yr0) w) (c1 : p.2.2 > 9100000000000) :
    Calls Tryd.prog 7 #[.agg #[.int .i64 p.1, .int .i64 p.2.1, .int .i64 p.2.2], .int .i64 t] w fun e w' => e = .returned (.bool true) ∧ Below w.heap.size w w' := by
  have l_0 := hG0.lies
  have l_1 := hG1.lies
  go_enter Tryd.func7, Tryd.ntmps7
  have y1_G0 : 0 < w.heap.size := hG0.lies
  have y1_G1 : 1 < w.heap.size := hG1.lies
  have y1_low : w.heap.size ≤ w.heap.size := (Below.refl w.heap.size w).size
  go_wp2_with fail
  refine (awake_any  _ (hG0.alloc _) (hG1.alloc _)).mono ?_
  rintro e w1 ⟨rfl, k1⟩
  have K1 : Below w.heap.size w w1 := bel_then (bel_al (Below.refl w.heap.size w) _) k1
  have G0_1 : Arr 0 (row 54 at0) w1 := (hG0.alloc _).below k1
  have G1_1 : Arr 1 (row 10 yr0) w1 := (hG1.alloc _).below k1
  have B0_1 : Arr w.heap.size [.int .i64 p.1, .int .i64 p.2.1, .int .i64 p.2.2] w1 := (Arr_at _ _ [.int .i64 p.1, .int .i64 p.2.1, .int .i64 p.2.2] _ (by simp)).below k1
  have z1 := B0_1.lies
  clear hG0 hG1 k1
  go_wp2_with fail
  refine wp_region_held_drew (S := fun w' => Arr w.heap.size [.int .i64 p.1, .int .i64 p.2.1, .int .i64 p.2.2] w') (by kernel_rfl) B0_1.drew (fun hHeld => ?_)
  refine take_at (i := 0) (v := ?v1) rfl (by kernel_rfl) (by kernel_rfl) (by kernel_rfl) (fun _ _ _ h => h) (Or.inl ⟨by rfl, ?y1⟩) hHeld ?t1
  case y1 => (intro wx hSw; go_simp <;> with_reducible rfl)
  simp only [Act.put, List.setIfInBounds_toArray, List.set_cons_zero, List.set_cons_succ]
  refine take_at (i := 1) (v := ?v2) rfl (by kernel_rfl) (by kernel_rfl) (by kernel_rfl) (fun _ _ _ h => h) (Or.inl ⟨by rfl, ?y2⟩) hHeld ?t2
  case y2 => (intro wx hSw; have hc0 : wx.cell? ⟨w.heap.size, 0, none⟩ = some (.int .i64 p.1) := hSw.c 0 (of_decide_eq_true rfl); go_simp <;> with_reducible rfl)
  simp only [Act.put, List.setIfInBounds_toArray, List.set_cons_zero, List.set_cons_succ]
  refine take_at (i := 2) (v := ?v3) rfl (by kernel_rfl) (by kernel_rfl) (by kernel_rfl) (fun _ _ _ h => h) (Or.inl ⟨by rfl, ?y3⟩) hHeld ?t3
  case y3 => (intro wx hSw; go_simp <;> with_reducible rfl)
  simp only [Act.put, List.setIfInBounds_toArray, List.set_cons_zero, List.set_cons_succ]
  refine take_at (i := 3) (v := ?v4) rfl (by kernel_rfl) (by kernel_rfl) (by kernel_rfl) (fun _ _ _ h => h) (Or.inl ⟨by rfl, ?y4⟩) hHeld ?t4
  case y4 => (intro wx hSw; have hc1 : wx.cell? ⟨w.heap.size, 1, none⟩ = some (.int .i64 p.2.1) := hSw.c 1 (of_decide_eq_true rfl); go_simp <;> with_reducible rfl)
  simp only [Act.put, List.setIfInBounds_toArray, List.set_cons_zero, List.set_cons_succ]
  refine take_at (i := 4) (v := ?v5) rfl (by kernel_rfl) (by kernel_rfl) (by kernel_rfl) (fun _ _ _ h => h) (Or.inl ⟨by rfl, ?y5⟩) hHeld ?t5
  case y5 => (intro wx hSw; go_simp <;> with_reducible rfl)
  simp only [Act.put, List.setIfInBounds_toArray, List.set_cons_zero, List.set_cons_succ]
  refine take_at (i := 5) (v := ?v6) rfl (by kernel_rfl) (by kernel_rfl) (by kernel_rfl) (fun _ _ _ h => h) (Or.inl ⟨by rfl, ?y6⟩) hHeld ?t6
  case y6 => (intro wx hSw; have hc2 : wx.cell? ⟨w.heap.size, 2, none⟩ = some (.int .i64 p.2.2) := hSw.c 2 (of_decide_eq_true rfl); go_simp <;> with_reducible rfl)
  simp only [Act.put, List.setIfInBounds_toArray, List.set_cons_zero, List.set_cons_succ]
  refine take_at (i := 6) (v := ?v7) rfl (by kernel_rfl) (by kernel_rfl) (by kernel_rfl) (fun _ _ _ h => h) (Or.inl ⟨by rfl, ?y7⟩) hHeld ?t7
  case y7 => (intro wx hSw; go_simp <;> with_reducible rfl)
  simp only [Act.put, List.setIfInBounds_toArray, List.set_cons_zero, List.set_cons_succ]
  refine take_at (i := 7) (v := ?v8) rfl (by kernel_rfl) (by kernel_rfl) (by kernel_rfl) (fun _ _ _ h => h) (Or.inl ⟨by rfl, ?y8⟩) hHeld ?t8
  case y8 => (intro wx hSw; go_simp <;> with_reducible rfl)
  simp only [Act.put, List.setIfInBounds_toArray, List.set_cons_zero, List.set_cons_succ]
  refine take_at (i := 8) (v := ?v9) rfl (by kernel_rfl) (by kernel_rfl) (by kernel_rfl) (fun _ _ _ h => h) (Or.inl ⟨by rfl, ?y9⟩) hHeld ?t9
  case y9 => (intro wx hSw; go_simp <;> with_reducible rfl)
  simp only [Act.put, List.setIfInBounds_toArray, List.set_cons_zero, List.set_cons_succ]
  refine wpAnyH_done (by kernel_rfl) ?_ _
  clear hHeld
  have y2_G0 : 0 < w1.heap.size := G0_1.lies
  have y2_G1 : 1 < w1.heap.size := G1_1.lies
  have y2_B0 : w.heap.size < w1.heap.size := B0_1.lies
  have y2_low : w.heap.size ≤ w1.heap.size := K1.size
  go_wp2
  go_ret
  exact ⟨rfl, (Below.drew (bel_al K1 _))⟩
set_option maxRecDepth 100000 in
set_option maxHeartbeats 4000000 in
theorem FieldPole_b (p : V3) (t : Int) (w : World) (hG0 : Arr 0 (row 54 at0) w) (hG1 : Arr 1 (row 10 yr0) w) (c1 : ¬ p.2.2 > 9100000000000) (c2 : p.2.2 < (-9100000000000)) :
    Calls Tryd.prog 7 #[.agg #[.int .i64 p.1, .int .i64 p.2.1, .int .i64 p.2.2], .int .i64 t] w fun e w' => e = .returned (.bool true) ∧ Below w.heap.size w w' := by
  have l_0 := hG0.lies
  have l_1 := hG1.lies
  go_enter Tryd.func7, Tryd.ntmps7
  have y1_G0 : 0 < w.heap.size := hG0.lies
  have y1_G1 : 1 < w.heap.size := hG1.lies
  have y1_low : w.heap.size ≤ w.heap.size := (Below.refl w.heap.size w).size
  go_wp2_with fail
  refine (awake_any  _ (hG0.alloc _) (hG1.alloc _)).mono ?_
  rintro e w1 ⟨rfl, k1⟩
  have K1 : Below w.heap.size w w1 := bel_then (bel_al (Below.refl w.heap.size w) _) k1
  have G0_1 : Arr 0 (row 54 at0) w1 := (hG0.alloc _).below k1
  have G1_1 : Arr 1 (row 10 yr0) w1 := (hG1.alloc _).below k1
  have B0_1 : Arr w.heap.size [.int .i64 p.1, .int .i64 p.2.1, .int .i64 p.2.2] w1 := (Arr_at _ _ [.int .i64 p.1, .int .i64 p.2.1, .int .i64 p.2.2] _ (by simp)).below k1
  have z1 := B0_1.lies
  clear hG0 hG1 k1
  go_wp2_with fail
  refine wp_region_held_drew (S := fun w' => Arr w.heap.size [.int .i64 p.1, .int .i64 p.2.1, .int .i64 p.2.2] w') (by kernel_rfl) B0_1.drew (fun hHeld => ?_)
  refine take_at (i := 0) (v := ?v1) rfl (by kernel_rfl) (by kernel_rfl) (by kernel_rfl) (fun _ _ _ h => h) (Or.inl ⟨by rfl, ?y1⟩) hHeld ?t1
  case y1 => (intro wx hSw; go_simp <;> with_reducible rfl)
  simp only [Act.put, List.setIfInBounds_toArray, List.set_cons_zero, List.set_cons_succ]
  refine take_at (i := 1) (v := ?v2) rfl (by kernel_rfl) (by kernel_rfl) (by kernel_rfl) (fun _ _ _ h => h) (Or.inl ⟨by rfl, ?y2⟩) hHeld ?t2
  case y2 => (intro wx hSw; have hc0 : wx.cell? ⟨w.heap.size, 0, none⟩ = some (.int .i64 p.1) := hSw.c 0 (of_decide_eq_true rfl); go_simp <;> with_reducible rfl)
  simp only [Act.put, List.setIfInBounds_toArray, List.set_cons_zero, List.set_cons_succ]
  refine take_at (i := 2) (v := ?v3) rfl (by kernel_rfl) (by kernel_rfl) (by kernel_rfl) (fun _ _ _ h => h) (Or.inl ⟨by rfl, ?y3⟩) hHeld ?t3
  case y3 => (intro wx hSw; go_simp <;> with_reducible rfl)
  simp only [Act.put, List.setIfInBounds_toArray, List.set_cons_zero, List.set_cons_succ]
  refine take_at (i := 3) (v := ?v4) rfl (by kernel_rfl) (by kernel_rfl) (by kernel_rfl) (fun _ _ _ h => h) (Or.inl ⟨by rfl, ?y4⟩) hHeld ?t4
  case y4 => (intro wx hSw; have hc1 : wx.cell? ⟨w.heap.size, 1, none⟩ = some (.int .i64 p.2.1) := hSw.c 1 (of_decide_eq_true rfl); go_simp <;> with_reducible rfl)
  simp only [Act.put, List.setIfInBounds_toArray, List.set_cons_zero, List.set_cons_succ]
  refine take_at (i := 4) (v := ?v5) rfl (by kernel_rfl) (by kernel_rfl) (by kernel_rfl) (fun _ _ _ h => h) (Or.inl ⟨by rfl, ?y5⟩) hHeld ?t5
  case y5 => (intro wx hSw; go_simp <;> with_reducible rfl)
  simp only [Act.put, List.setIfInBounds_toArray, List.set_cons_zero, List.set_cons_succ]
  refine take_at (i := 5) (v := ?v6) rfl (by kernel_rfl) (by kernel_rfl) (by kernel_rfl) (fun _ _ _ h => h) (Or.inl ⟨by rfl, ?y6⟩) hHeld ?t6
  case y6 => (intro wx hSw; have hc2 : wx.cell? ⟨w.heap.size, 2, none⟩ = some (.int .i64 p.2.2) := hSw.c 2 (of_decide_eq_true rfl); go_simp <;> with_reducible rfl)
  simp only [Act.put, List.setIfInBounds_toArray, List.set_cons_zero, List.set_cons_succ]
  refine take_at (i := 6) (v := ?v7) rfl (by kernel_rfl) (by kernel_rfl) (by kernel_rfl) (fun _ _ _ h => h) (Or.inl ⟨by rfl, ?y7⟩) hHeld ?t7
  case y7 => (intro wx hSw; go_simp <;> with_reducible rfl)
  simp only [Act.put, List.setIfInBounds_toArray, List.set_cons_zero, List.set_cons_succ]
  refine take_at (i := 7) (v := ?v8) rfl (by kernel_rfl) (by kernel_rfl) (by kernel_rfl) (fun _ _ _ h => h) (Or.inl ⟨by rfl, ?y8⟩) hHeld ?t8
  case y8 => (intro wx hSw; go_simp <;> with_reducible rfl)
  simp only [Act.put, List.setIfInBounds_toArray, List.set_cons_zero, List.set_cons_succ]
  refine take_at (i := 8) (v := ?v9) rfl (by kernel_rfl) (by kernel_rfl) (by kernel_rfl) (fun _ _ _ h => h) (Or.inl ⟨by rfl, ?y9⟩) hHeld ?t9
  case y9 => (intro wx hSw; go_simp <;> with_reducible rfl)
  simp only [Act.put, List.setIfInBounds_toArray, List.set_cons_zero, List.set_cons_succ]
  refine wpAnyH_done (by kernel_rfl) ?_ _
  clear hHeld
  have y2_G0 : 0 < w1.heap.size := G0_1.lies
  have y2_G1 : 1 < w1.heap.size := G1_1.lies
  have y2_B0 : w.heap.size < w1.heap.size := B0_1.lies
  have y2_low : w.heap.size ≤ w1.heap.size := K1.size
  go_wp2
  go_ret
  exact ⟨rfl, (Below.drew (bel_al K1 _))⟩
set_option maxRecDepth 100000 in
set_option maxHeartbeats 4000000 in
theorem FieldPole_c (p : V3) (t : Int) (w : World) (hG0 : Arr 0 (row 54 at0) w) (hG1 : Arr 1 (row 10 yr0) w) (c1 : ¬ p.2.2 > 9100000000000) (c2 : ¬ p.2.2 < (-9100000000000)) (c3 : p.2.2 > (-7013000000000)) (c4 : p.2.2 < 7013000000000) :
    Calls Tryd.prog 7 #[.agg #[.int .i64 p.1, .int .i64 p.2.1, .int .i64 p.2.2], .int .i64 t] w fun e w' => e = .returned (.bool true) ∧ Below w.heap.size w w' := by
  have l_0 := hG0.lies
  have l_1 := hG1.lies
  go_enter Tryd.func7, Tryd.ntmps7
  have y1_G0 : 0 < w.heap.size := hG0.lies
  have y1_G1 : 1 < w.heap.size := hG1.lies
  have y1_low : w.heap.size ≤ w.heap.size := (Below.refl w.heap.size w).size
  go_wp2_with fail
  refine (awake_any  _ (hG0.alloc _) (hG1.alloc _)).mono ?_
  rintro e w1 ⟨rfl, k1⟩
  have K1 : Below w.heap.size w w1 := bel_then (bel_al (Below.refl w.heap.size w) _) k1
  have G0_1 : Arr 0 (row 54 at0) w1 := (hG0.alloc _).below k1
  have G1_1 : Arr 1 (row 10 yr0) w1 := (hG1.alloc _).below k1
  have B0_1 : Arr w.heap.size [.int .i64 p.1, .int .i64 p.2.1, .int .i64 p.2.2] w1 := (Arr_at _ _ [.int .i64 p.1, .int .i64 p.2.1, .int .i64 p.2.2] _ (by simp)).below k1
  have z1 := B0_1.lies
  clear hG0 hG1 k1
  go_wp2_with fail
  refine wp_region_held_drew (S := fun w' => Arr w.heap.size [.int .i64 p.1, .int .i64 p.2.1, .int .i64 p.2.2] w') (by kernel_rfl) B0_1.drew (fun hHeld => ?_)
  refine take_at (i := 0) (v := ?v1) rfl (by kernel_rfl) (by kernel_rfl) (by kernel_rfl) (fun _ _ _ h => h) (Or.inl ⟨by rfl, ?y1⟩) hHeld ?t1
  case y1 => (intro wx hSw; go_simp <;> with_reducible rfl)
  simp only [Act.put, List.setIfInBounds_toArray, List.set_cons_zero, List.set_cons_succ]
  refine take_at (i := 1) (v := ?v2) rfl (by kernel_rfl) (by kernel_rfl) (by kernel_rfl) (fun _ _ _ h => h) (Or.inl ⟨by rfl, ?y2⟩) hHeld ?t2
  case y2 => (intro wx hSw; have hc0 : wx.cell? ⟨w.heap.size, 0, none⟩ = some (.int .i64 p.1) := hSw.c 0 (of_decide_eq_true rfl); go_simp <;> with_reducible rfl)
  simp only [Act.put, List.setIfInBounds_toArray, List.set_cons_zero, List.set_cons_succ]
  refine take_at (i := 2) (v := ?v3) rfl (by kernel_rfl) (by kernel_rfl) (by kernel_rfl) (fun _ _ _ h => h) (Or.inl ⟨by rfl, ?y3⟩) hHeld ?t3
  case y3 => (intro wx hSw; go_simp <;> with_reducible rfl)
  simp only [Act.put, List.setIfInBounds_toArray, List.set_cons_zero, List.set_cons_succ]
  refine take_at (i := 3) (v := ?v4) rfl (by kernel_rfl) (by kernel_rfl) (by kernel_rfl) (fun _ _ _ h => h) (Or.inl ⟨by rfl, ?y4⟩) hHeld ?t4
  case y4 => (intro wx hSw; have hc1 : wx.cell? ⟨w.heap.size, 1, none⟩ = some (.int .i64 p.2.1) := hSw.c 1 (of_decide_eq_true rfl); go_simp <;> with_reducible rfl)
  simp only [Act.put, List.setIfInBounds_toArray, List.set_cons_zero, List.set_cons_succ]
  refine take_at (i := 4) (v := ?v5) rfl (by kernel_rfl) (by kernel_rfl) (by kernel_rfl) (fun _ _ _ h => h) (Or.inl ⟨by rfl, ?y5⟩) hHeld ?t5
  case y5 => (intro wx hSw; go_simp <;> with_reducible rfl)
  simp only [Act.put, List.setIfInBounds_toArray, List.set_cons_zero, List.set_cons_succ]
  refine take_at (i := 5) (v := ?v6) rfl (by kernel_rfl) (by kernel_rfl) (by kernel_rfl) (fun _ _ _ h => h) (Or.inl ⟨by rfl, ?y6⟩) hHeld ?t6
  case y6 => (intro wx hSw; have hc2 : wx.cell? ⟨w.heap.size, 2, none⟩ = some (.int .i64 p.2.2) := hSw.c 2 (of_decide_eq_true rfl); go_simp <;> with_reducible rfl)
  simp only [Act.put, List.setIfInBounds_toArray, List.set_cons_zero, List.set_cons_succ]
  refine take_at (i := 6) (v := ?v7) rfl (by kernel_rfl) (by kernel_rfl) (by kernel_rfl) (fun _ _ _ h => h) (Or.inl ⟨by rfl, ?y7⟩) hHeld ?t7
  case y7 => (intro wx hSw; go_simp <;> with_reducible rfl)
  simp only [Act.put, List.setIfInBounds_toArray, List.set_cons_zero, List.set_cons_succ]
  refine take_at (i := 7) (v := ?v8) rfl (by kernel_rfl) (by kernel_rfl) (by kernel_rfl) (fun _ _ _ h => h) (Or.inl ⟨by rfl, ?y8⟩) hHeld ?t8
  case y8 => (intro wx hSw; go_simp <;> with_reducible rfl)
  simp only [Act.put, List.setIfInBounds_toArray, List.set_cons_zero, List.set_cons_succ]
  refine take_at (i := 8) (v := ?v9) rfl (by kernel_rfl) (by kernel_rfl) (by kernel_rfl) (fun _ _ _ h => h) (Or.inl ⟨by rfl, ?y9⟩) hHeld ?t9
  case y9 => (intro wx hSw; go_simp <;> with_reducible rfl)
  simp only [Act.put, List.setIfInBounds_toArray, List.set_cons_zero, List.set_cons_succ]
  refine wpAnyH_done (by kernel_rfl) ?_ _
  clear hHeld
  have y2_G0 : 0 < w1.heap.size := G0_1.lies
  have y2_G1 : 1 < w1.heap.size := G1_1.lies
  have y2_B0 : w.heap.size < w1.heap.size := B0_1.lies
  have y2_low : w.heap.size ≤ w1.heap.size := K1.size
  go_wp2
  go_ret
  exact ⟨rfl, (Below.drew (bel_al K1 _))⟩
set_option maxRecDepth 100000 in
set_option maxHeartbeats 4000000 in
theorem FieldPole_dn (p : V3) (t : Int) (w : World) (hG0 : Arr 0 (row 54 at0) w) (hG1 : Arr 1 (row 10 yr0) w) (c1 : ¬ p.2.2 > 9100000000000) (c2 : ¬ p.2.2 < (-9100000000000)) (c3 : p.2.2 > (-7013000000000)) (c4 : ¬ p.2.2 < 7013000000000) (kd : t < 0) :
    Calls Tryd.prog 7 #[.agg #[.int .i64 p.1, .int .i64 p.2.1, .int .i64 p.2.2], .int .i64 t] w fun e w' => e = .returned (.bool true) ∧ Below w.heap.size w w' := by
  have l_0 := hG0.lies
  have l_1 := hG1.lies
  go_enter Tryd.func7, Tryd.ntmps7
  have y1_G0 : 0 < w.heap.size := hG0.lies
  have y1_G1 : 1 < w.heap.size := hG1.lies
  have y1_low : w.heap.size ≤ w.heap.size := (Below.refl w.heap.size w).size
  go_wp2_with fail
  refine (awake_any  _ (hG0.alloc _) (hG1.alloc _)).mono ?_
  rintro e w1 ⟨rfl, k1⟩
  have K1 : Below w.heap.size w w1 := bel_then (bel_al (Below.refl w.heap.size w) _) k1
  have G0_1 : Arr 0 (row 54 at0) w1 := (hG0.alloc _).below k1
  have G1_1 : Arr 1 (row 10 yr0) w1 := (hG1.alloc _).below k1
  have B0_1 : Arr w.heap.size [.int .i64 p.1, .int .i64 p.2.1, .int .i64 p.2.2] w1 := (Arr_at _ _ [.int .i64 p.1, .int .i64 p.2.1, .int .i64 p.2.2] _ (by simp)).below k1
  have z1 := B0_1.lies
  clear hG0 hG1 k1
  go_wp2_with fail
  refine wp_region_held_drew (S := fun w' => Arr w.heap.size [.int .i64 p.1, .int .i64 p.2.1, .int .i64 p.2.2] w') (by kernel_rfl) B0_1.drew (fun hHeld => ?_)
  refine take_at (i := 0) (v := ?v1) rfl (by kernel_rfl) (by kernel_rfl) (by kernel_rfl) (fun _ _ _ h => h) (Or.inl ⟨by rfl, ?y1⟩) hHeld ?t1
  case y1 => (intro wx hSw; go_simp <;> with_reducible rfl)
  simp only [Act.put, List.setIfInBounds_toArray, List.set_cons_zero, List.set_cons_succ]
  refine take_at (i := 1) (v := ?v2) rfl (by kernel_rfl) (by kernel_rfl) (by kernel_rfl) (fun _ _ _ h => h) (Or.inl ⟨by rfl, ?y2⟩) hHeld ?t2
  case y2 => (intro wx hSw; have hc0 : wx.cell? ⟨w.heap.size, 0, none⟩ = some (.int .i64 p.1) := hSw.c 0 (of_decide_eq_true rfl); go_simp <;> with_reducible rfl)
  simp only [Act.put, List.setIfInBounds_toArray, List.set_cons_zero, List.set_cons_succ]
  refine take_at (i := 2) (v := ?v3) rfl (by kernel_rfl) (by kernel_rfl) (by kernel_rfl) (fun _ _ _ h => h) (Or.inl ⟨by rfl, ?y3⟩) hHeld ?t3
  case y3 => (intro wx hSw; go_simp <;> with_reducible rfl)
  simp only [Act.put, List.setIfInBounds_toArray, List.set_cons_zero, List.set_cons_succ]
  refine take_at (i := 3) (v := ?v4) rfl (by kernel_rfl) (by kernel_rfl) (by kernel_rfl) (fun _ _ _ h => h) (Or.inl ⟨by rfl, ?y4⟩) hHeld ?t4
  case y4 => (intro wx hSw; have hc1 : wx.cell? ⟨w.heap.size, 1, none⟩ = some (.int .i64 p.2.1) := hSw.c 1 (of_decide_eq_true rfl); go_simp <;> with_reducible rfl)
  simp only [Act.put, List.setIfInBounds_toArray, List.set_cons_zero, List.set_cons_succ]
  refine take_at (i := 4) (v := ?v5) rfl (by kernel_rfl) (by kernel_rfl) (by kernel_rfl) (fun _ _ _ h => h) (Or.inl ⟨by rfl, ?y5⟩) hHeld ?t5
  case y5 => (intro wx hSw; go_simp <;> with_reducible rfl)
  simp only [Act.put, List.setIfInBounds_toArray, List.set_cons_zero, List.set_cons_succ]
  refine take_at (i := 5) (v := ?v6) rfl (by kernel_rfl) (by kernel_rfl) (by kernel_rfl) (fun _ _ _ h => h) (Or.inl ⟨by rfl, ?y6⟩) hHeld ?t6
  case y6 => (intro wx hSw; have hc2 : wx.cell? ⟨w.heap.size, 2, none⟩ = some (.int .i64 p.2.2) := hSw.c 2 (of_decide_eq_true rfl); go_simp <;> with_reducible rfl)
  simp only [Act.put, List.setIfInBounds_toArray, List.set_cons_zero, List.set_cons_succ]
  refine take_at (i := 6) (v := ?v7) rfl (by kernel_rfl) (by kernel_rfl) (by kernel_rfl) (fun _ _ _ h => h) (Or.inl ⟨by rfl, ?y7⟩) hHeld ?t7
  case y7 => (intro wx hSw; go_simp <;> with_reducible rfl)
  simp only [Act.put, List.setIfInBounds_toArray, List.set_cons_zero, List.set_cons_succ]
  refine take_at (i := 7) (v := ?v8) rfl (by kernel_rfl) (by kernel_rfl) (by kernel_rfl) (fun _ _ _ h => h) (Or.inl ⟨by rfl, ?y8⟩) hHeld ?t8
  case y8 => (intro wx hSw; go_simp <;> with_reducible rfl)
  simp only [Act.put, List.setIfInBounds_toArray, List.set_cons_zero, List.set_cons_succ]
  refine take_at (i := 8) (v := ?v9) rfl (by kernel_rfl) (by kernel_rfl) (by kernel_rfl) (fun _ _ _ h => h) (Or.inl ⟨by rfl, ?y9⟩) hHeld ?t9
  case y9 => (intro wx hSw; go_simp <;> with_reducible rfl)
  simp only [Act.put, List.setIfInBounds_toArray, List.set_cons_zero, List.set_cons_succ]
  refine wpAnyH_done (by kernel_rfl) ?_ _
  clear hHeld
  have y2_G0 : 0 < w1.heap.size := G0_1.lies
  have y2_G1 : 1 < w1.heap.size := G1_1.lies
  have y2_B0 : w.heap.size < w1.heap.size := B0_1.lies
  have y2_low : w.heap.size ≤ w1.heap.size := K1.size
  go_wp2
  go_ret
  exact ⟨rfl, (Below.drew (bel_al K1 _))⟩
set_option maxRecDepth 100000 in
set_option maxHeartbeats 4000000 in
theorem FieldPole_en (p : V3) (t : Int) (w : World) (hG0 : Arr 0 (row 54 at0) w) (hG1 : Arr 1 (row 10 yr0) w) (c1 : ¬ p.2.2 > 9100000000000) (c2 : ¬ p.2.2 < (-9100000000000)) (c3 : p.2.2 > (-7013000000000)) (c4 : ¬ p.2.2 < 7013000000000) (kd : ¬ t < 0) (ke : t > 157766400000) :
    Calls Tryd.prog 7 #[.agg #[.int .i64 p.1, .int .i64 p.2.1, .int .i64 p.2.2], .int .i64 t] w fun e w' => e = .returned (.bool true) ∧ Below w.heap.size w w' := by
  have l_0 := hG0.lies
  have l_1 := hG1.lies
  go_enter Tryd.func7, Tryd.ntmps7
  have y1_G0 : 0 < w.heap.size := hG0.lies
  have y1_G1 : 1 < w.heap.size := hG1.lies
  have y1_low : w.heap.size ≤ w.heap.size := (Below.refl w.heap.size w).size
  go_wp2_with fail
  refine (awake_any  _ (hG0.alloc _) (hG1.alloc _)).mono ?_
  rintro e w1 ⟨rfl, k1⟩
  have K1 : Below w.heap.size w w1 := bel_then (bel_al (Below.refl w.heap.size w) _) k1
  have G0_1 : Arr 0 (row 54 at0) w1 := (hG0.alloc _).below k1
  have G1_1 : Arr 1 (row 10 yr0) w1 := (hG1.alloc _).below k1
  have B0_1 : Arr w.heap.size [.int .i64 p.1, .int .i64 p.2.1, .int .i64 p.2.2] w1 := (Arr_at _ _ [.int .i64 p.1, .int .i64 p.2.1, .int .i64 p.2.2] _ (by simp)).below k1
  have z1 := B0_1.lies
  clear hG0 hG1 k1
  go_wp2_with fail
  refine wp_region_held_drew (S := fun w' => Arr w.heap.size [.int .i64 p.1, .int .i64 p.2.1, .int .i64 p.2.2] w') (by kernel_rfl) B0_1.drew (fun hHeld => ?_)
  refine take_at (i := 0) (v := ?v1) rfl (by kernel_rfl) (by kernel_rfl) (by kernel_rfl) (fun _ _ _ h => h) (Or.inl ⟨by rfl, ?y1⟩) hHeld ?t1
  case y1 => (intro wx hSw; go_simp <;> with_reducible rfl)
  simp only [Act.put, List.setIfInBounds_toArray, List.set_cons_zero, List.set_cons_succ]
  refine take_at (i := 1) (v := ?v2) rfl (by kernel_rfl) (by kernel_rfl) (by kernel_rfl) (fun _ _ _ h => h) (Or.inl ⟨by rfl, ?y2⟩) hHeld ?t2
  case y2 => (intro wx hSw; have hc0 : wx.cell? ⟨w.heap.size, 0, none⟩ = some (.int .i64 p.1) := hSw.c 0 (of_decide_eq_true rfl); go_simp <;> with_reducible rfl)
  simp only [Act.put, List.setIfInBounds_toArray, List.set_cons_zero, List.set_cons_succ]
  refine take_at (i := 2) (v := ?v3) rfl (by kernel_rfl) (by kernel_rfl) (by kernel_rfl) (fun _ _ _ h => h) (Or.inl ⟨by rfl, ?y3⟩) hHeld ?t3
  case y3 => (intro wx hSw; go_simp <;> with_reducible rfl)
  simp only [Act.put, List.setIfInBounds_toArray, List.set_cons_zero, List.set_cons_succ]
  refine take_at (i := 3) (v := ?v4) rfl (by kernel_rfl) (by kernel_rfl) (by kernel_rfl) (fun _ _ _ h => h) (Or.inl ⟨by rfl, ?y4⟩) hHeld ?t4
  case y4 => (intro wx hSw; have hc1 : wx.cell? ⟨w.heap.size, 1, none⟩ = some (.int .i64 p.2.1) := hSw.c 1 (of_decide_eq_true rfl); go_simp <;> with_reducible rfl)
  simp only [Act.put, List.setIfInBounds_toArray, List.set_cons_zero, List.set_cons_succ]
  refine take_at (i := 4) (v := ?v5) rfl (by kernel_rfl) (by kernel_rfl) (by kernel_rfl) (fun _ _ _ h => h) (Or.inl ⟨by rfl, ?y5⟩) hHeld ?t5
  case y5 => (intro wx hSw; go_simp <;> with_reducible rfl)
  simp only [Act.put, List.setIfInBounds_toArray, List.set_cons_zero, List.set_cons_succ]
  refine take_at (i := 5) (v := ?v6) rfl (by kernel_rfl) (by kernel_rfl) (by kernel_rfl) (fun _ _ _ h => h) (Or.inl ⟨by rfl, ?y6⟩) hHeld ?t6
  case y6 => (intro wx hSw; have hc2 : wx.cell? ⟨w.heap.size, 2, none⟩ = some (.int .i64 p.2.2) := hSw.c 2 (of_decide_eq_true rfl); go_simp <;> with_reducible rfl)
  simp only [Act.put, List.setIfInBounds_toArray, List.set_cons_zero, List.set_cons_succ]
  refine take_at (i := 6) (v := ?v7) rfl (by kernel_rfl) (by kernel_rfl) (by kernel_rfl) (fun _ _ _ h => h) (Or.inl ⟨by rfl, ?y7⟩) hHeld ?t7
  case y7 => (intro wx hSw; go_simp <;> with_reducible rfl)
  simp only [Act.put, List.setIfInBounds_toArray, List.set_cons_zero, List.set_cons_succ]
  refine take_at (i := 7) (v := ?v8) rfl (by kernel_rfl) (by kernel_rfl) (by kernel_rfl) (fun _ _ _ h => h) (Or.inl ⟨by rfl, ?y8⟩) hHeld ?t8
  case y8 => (intro wx hSw; go_simp <;> with_reducible rfl)
  simp only [Act.put, List.setIfInBounds_toArray, List.set_cons_zero, List.set_cons_succ]
  refine take_at (i := 8) (v := ?v9) rfl (by kernel_rfl) (by kernel_rfl) (by kernel_rfl) (fun _ _ _ h => h) (Or.inl ⟨by rfl, ?y9⟩) hHeld ?t9
  case y9 => (intro wx hSw; go_simp <;> with_reducible rfl)
  simp only [Act.put, List.setIfInBounds_toArray, List.set_cons_zero, List.set_cons_succ]
  refine wpAnyH_done (by kernel_rfl) ?_ _
  clear hHeld
  have y2_G0 : 0 < w1.heap.size := G0_1.lies
  have y2_G1 : 1 < w1.heap.size := G1_1.lies
  have y2_B0 : w.heap.size < w1.heap.size := B0_1.lies
  have y2_low : w.heap.size ≤ w1.heap.size := K1.size
  go_wp2
  go_ret
  exact ⟨rfl, (Below.drew (bel_al K1 _))⟩
set_option maxRecDepth 100000 in
set_option maxHeartbeats 4000000 in
theorem FieldPole_fn (p : V3) (t : Int) (w : World) (hG0 : Arr 0 (row 54 at0) w) (hG1 : Arr 1 (row 10 yr0) w) (c1 : ¬ p.2.2 > 9100000000000) (c2 : ¬ p.2.2 < (-9100000000000)) (c3 : p.2.2 > (-7013000000000)) (c4 : ¬ p.2.2 < 7013000000000) (kd : ¬ t < 0) (ke : ¬ t > 157766400000) (kf : p.1 > 34359738368) :
    Calls Tryd.prog 7 #[.agg #[.int .i64 p.1, .int .i64 p.2.1, .int .i64 p.2.2], .int .i64 t] w fun e w' => e = .returned (.bool true) ∧ Below w.heap.size w w' := by
  have l_0 := hG0.lies
  have l_1 := hG1.lies
  go_enter Tryd.func7, Tryd.ntmps7
  have y1_G0 : 0 < w.heap.size := hG0.lies
  have y1_G1 : 1 < w.heap.size := hG1.lies
  have y1_low : w.heap.size ≤ w.heap.size := (Below.refl w.heap.size w).size
  go_wp2_with fail
  refine (awake_any  _ (hG0.alloc _) (hG1.alloc _)).mono ?_
  rintro e w1 ⟨rfl, k1⟩
  have K1 : Below w.heap.size w w1 := bel_then (bel_al (Below.refl w.heap.size w) _) k1
  have G0_1 : Arr 0 (row 54 at0) w1 := (hG0.alloc _).below k1
  have G1_1 : Arr 1 (row 10 yr0) w1 := (hG1.alloc _).below k1
  have B0_1 : Arr w.heap.size [.int .i64 p.1, .int .i64 p.2.1, .int .i64 p.2.2] w1 := (Arr_at _ _ [.int .i64 p.1, .int .i64 p.2.1, .int .i64 p.2.2] _ (by simp)).below k1
  have z1 := B0_1.lies
  clear hG0 hG1 k1
  go_wp2_with fail
  refine wp_region_held_drew (S := fun w' => Arr w.heap.size [.int .i64 p.1, .int .i64 p.2.1, .int .i64 p.2.2] w') (by kernel_rfl) B0_1.drew (fun hHeld => ?_)
  refine take_at (i := 0) (v := ?v1) rfl (by kernel_rfl) (by kernel_rfl) (by kernel_rfl) (fun _ _ _ h => h) (Or.inl ⟨by rfl, ?y1⟩) hHeld ?t1
  case y1 => (intro wx hSw; go_simp <;> with_reducible rfl)
  simp only [Act.put, List.setIfInBounds_toArray, List.set_cons_zero, List.set_cons_succ]
  refine take_at (i := 1) (v := ?v2) rfl (by kernel_rfl) (by kernel_rfl) (by kernel_rfl) (fun _ _ _ h => h) (Or.inl ⟨by rfl, ?y2⟩) hHeld ?t2
  case y2 => (intro wx hSw; have hc0 : wx.cell? ⟨w.heap.size, 0, none⟩ = some (.int .i64 p.1) := hSw.c 0 (of_decide_eq_true rfl); go_simp <;> with_reducible rfl)
  simp only [Act.put, List.setIfInBounds_toArray, List.set_cons_zero, List.set_cons_succ]
  refine take_at (i := 2) (v := ?v3) rfl (by kernel_rfl) (by kernel_rfl) (by kernel_rfl) (fun _ _ _ h => h) (Or.inl ⟨by rfl, ?y3⟩) hHeld ?t3
  case y3 => (intro wx hSw; go_simp <;> with_reducible rfl)
  simp only [Act.put, List.setIfInBounds_toArray, List.set_cons_zero, List.set_cons_succ]
  refine take_at (i := 3) (v := ?v4) rfl (by kernel_rfl) (by kernel_rfl) (by kernel_rfl) (fun _ _ _ h => h) (Or.inl ⟨by rfl, ?y4⟩) hHeld ?t4
  case y4 => (intro wx hSw; have hc1 : wx.cell? ⟨w.heap.size, 1, none⟩ = some (.int .i64 p.2.1) := hSw.c 1 (of_decide_eq_true rfl); go_simp <;> with_reducible rfl)
  simp only [Act.put, List.setIfInBounds_toArray, List.set_cons_zero, List.set_cons_succ]
  refine take_at (i := 4) (v := ?v5) rfl (by kernel_rfl) (by kernel_rfl) (by kernel_rfl) (fun _ _ _ h => h) (Or.inl ⟨by rfl, ?y5⟩) hHeld ?t5
  case y5 => (intro wx hSw; go_simp <;> with_reducible rfl)
  simp only [Act.put, List.setIfInBounds_toArray, List.set_cons_zero, List.set_cons_succ]
  refine take_at (i := 5) (v := ?v6) rfl (by kernel_rfl) (by kernel_rfl) (by kernel_rfl) (fun _ _ _ h => h) (Or.inl ⟨by rfl, ?y6⟩) hHeld ?t6
  case y6 => (intro wx hSw; have hc2 : wx.cell? ⟨w.heap.size, 2, none⟩ = some (.int .i64 p.2.2) := hSw.c 2 (of_decide_eq_true rfl); go_simp <;> with_reducible rfl)
  simp only [Act.put, List.setIfInBounds_toArray, List.set_cons_zero, List.set_cons_succ]
  refine take_at (i := 6) (v := ?v7) rfl (by kernel_rfl) (by kernel_rfl) (by kernel_rfl) (fun _ _ _ h => h) (Or.inl ⟨by rfl, ?y7⟩) hHeld ?t7
  case y7 => (intro wx hSw; go_simp <;> with_reducible rfl)
  simp only [Act.put, List.setIfInBounds_toArray, List.set_cons_zero, List.set_cons_succ]
  refine take_at (i := 7) (v := ?v8) rfl (by kernel_rfl) (by kernel_rfl) (by kernel_rfl) (fun _ _ _ h => h) (Or.inl ⟨by rfl, ?y8⟩) hHeld ?t8
  case y8 => (intro wx hSw; go_simp <;> with_reducible rfl)
  simp only [Act.put, List.setIfInBounds_toArray, List.set_cons_zero, List.set_cons_succ]
  refine take_at (i := 8) (v := ?v9) rfl (by kernel_rfl) (by kernel_rfl) (by kernel_rfl) (fun _ _ _ h => h) (Or.inl ⟨by rfl, ?y9⟩) hHeld ?t9
  case y9 => (intro wx hSw; go_simp <;> with_reducible rfl)
  simp only [Act.put, List.setIfInBounds_toArray, List.set_cons_zero, List.set_cons_succ]
  refine wpAnyH_done (by kernel_rfl) ?_ _
  clear hHeld
  have y2_G0 : 0 < w1.heap.size := G0_1.lies
  have y2_G1 : 1 < w1.heap.size := G1_1.lies
  have y2_B0 : w.heap.size < w1.heap.size := B0_1.lies
  have y2_low : w.heap.size ≤ w1.heap.size := K1.size
  go_wp2
  go_ret
  exact ⟨rfl, (Below.drew (bel_al K1 _))⟩
set_option maxRecDepth 100000 in
set_option maxHeartbeats 4000000 in
theorem FieldPole_gn (p : V3) (t : Int) (w : World) (hG0 : Arr 0 (row 54 at0) w) (hG1 : Arr 1 (row 10 yr0) w) (c1 : ¬ p.2.2 > 9100000000000) (c2 : ¬ p.2.2 < (-9100000000000)) (c3 : p.2.2 > (-7013000000000)) (c4 : ¬ p.2.2 < 7013000000000) (kd : ¬ t < 0) (ke : ¬ t > 157766400000) (kf : ¬ p.1 > 34359738368) (kg : p.1 < (-34359738368)) :
    Calls Tryd.prog 7 #[.agg #[.int .i64 p.1, .int .i64 p.2.1, .int .i64 p.2.2], .int .i64 t] w fun e w' => e = .returned (.bool true) ∧ Below w.heap.size w w' := by
  have l_0 := hG0.lies
  have l_1 := hG1.lies
  go_enter Tryd.func7, Tryd.ntmps7
  have y1_G0 : 0 < w.heap.size := hG0.lies
  have y1_G1 : 1 < w.heap.size := hG1.lies
  have y1_low : w.heap.size ≤ w.heap.size := (Below.refl w.heap.size w).size
  go_wp2_with fail
  refine (awake_any  _ (hG0.alloc _) (hG1.alloc _)).mono ?_
  rintro e w1 ⟨rfl, k1⟩
  have K1 : Below w.heap.size w w1 := bel_then (bel_al (Below.refl w.heap.size w) _) k1
  have G0_1 : Arr 0 (row 54 at0) w1 := (hG0.alloc _).below k1
  have G1_1 : Arr 1 (row 10 yr0) w1 := (hG1.alloc _).below k1
  have B0_1 : Arr w.heap.size [.int .i64 p.1, .int .i64 p.2.1, .int .i64 p.2.2] w1 := (Arr_at _ _ [.int .i64 p.1, .int .i64 p.2.1, .int .i64 p.2.2] _ (by simp)).below k1
  have z1 := B0_1.lies
  clear hG0 hG1 k1
  go_wp2_with fail
  refine wp_region_held_drew (S := fun w' => Arr w.heap.size [.int .i64 p.1, .int .i64 p.2.1, .int .i64 p.2.2] w') (by kernel_rfl) B0_1.drew (fun hHeld => ?_)
  refine take_at (i := 0) (v := ?v1) rfl (by kernel_rfl) (by kernel_rfl) (by kernel_rfl) (fun _ _ _ h => h) (Or.inl ⟨by rfl, ?y1⟩) hHeld ?t1
  case y1 => (intro wx hSw; go_simp <;> with_reducible rfl)
  simp only [Act.put, List.setIfInBounds_toArray, List.set_cons_zero, List.set_cons_succ]
  refine take_at (i := 1) (v := ?v2) rfl (by kernel_rfl) (by kernel_rfl) (by kernel_rfl) (fun _ _ _ h => h) (Or.inl ⟨by rfl, ?y2⟩) hHeld ?t2
  case y2 => (intro wx hSw; have hc0 : wx.cell? ⟨w.heap.size, 0, none⟩ = some (.int .i64 p.1) := hSw.c 0 (of_decide_eq_true rfl); go_simp <;> with_reducible rfl)
  simp only [Act.put, List.setIfInBounds_toArray, List.set_cons_zero, List.set_cons_succ]
  refine take_at (i := 2) (v := ?v3) rfl (by kernel_rfl) (by kernel_rfl) (by kernel_rfl) (fun _ _ _ h => h) (Or.inl ⟨by rfl, ?y3⟩) hHeld ?t3
  case y3 => (intro wx hSw; go_simp <;> with_reducible rfl)
  simp only [Act.put, List.setIfInBounds_toArray, List.set_cons_zero, List.set_cons_succ]
  refine take_at (i := 3) (v := ?v4) rfl (by kernel_rfl) (by kernel_rfl) (by kernel_rfl) (fun _ _ _ h => h) (Or.inl ⟨by rfl, ?y4⟩) hHeld ?t4
  case y4 => (intro wx hSw; have hc1 : wx.cell? ⟨w.heap.size, 1, none⟩ = some (.int .i64 p.2.1) := hSw.c 1 (of_decide_eq_true rfl); go_simp <;> with_reducible rfl)
  simp only [Act.put, List.setIfInBounds_toArray, List.set_cons_zero, List.set_cons_succ]
  refine take_at (i := 4) (v := ?v5) rfl (by kernel_rfl) (by kernel_rfl) (by kernel_rfl) (fun _ _ _ h => h) (Or.inl ⟨by rfl, ?y5⟩) hHeld ?t5
  case y5 => (intro wx hSw; go_simp <;> with_reducible rfl)
  simp only [Act.put, List.setIfInBounds_toArray, List.set_cons_zero, List.set_cons_succ]
  refine take_at (i := 5) (v := ?v6) rfl (by kernel_rfl) (by kernel_rfl) (by kernel_rfl) (fun _ _ _ h => h) (Or.inl ⟨by rfl, ?y6⟩) hHeld ?t6
  case y6 => (intro wx hSw; have hc2 : wx.cell? ⟨w.heap.size, 2, none⟩ = some (.int .i64 p.2.2) := hSw.c 2 (of_decide_eq_true rfl); go_simp <;> with_reducible rfl)
  simp only [Act.put, List.setIfInBounds_toArray, List.set_cons_zero, List.set_cons_succ]
  refine take_at (i := 6) (v := ?v7) rfl (by kernel_rfl) (by kernel_rfl) (by kernel_rfl) (fun _ _ _ h => h) (Or.inl ⟨by rfl, ?y7⟩) hHeld ?t7
  case y7 => (intro wx hSw; go_simp <;> with_reducible rfl)
  simp only [Act.put, List.setIfInBounds_toArray, List.set_cons_zero, List.set_cons_succ]
  refine take_at (i := 7) (v := ?v8) rfl (by kernel_rfl) (by kernel_rfl) (by kernel_rfl) (fun _ _ _ h => h) (Or.inl ⟨by rfl, ?y8⟩) hHeld ?t8
  case y8 => (intro wx hSw; go_simp <;> with_reducible rfl)
  simp only [Act.put, List.setIfInBounds_toArray, List.set_cons_zero, List.set_cons_succ]
  refine take_at (i := 8) (v := ?v9) rfl (by kernel_rfl) (by kernel_rfl) (by kernel_rfl) (fun _ _ _ h => h) (Or.inl ⟨by rfl, ?y9⟩) hHeld ?t9
  case y9 => (intro wx hSw; go_simp <;> with_reducible rfl)
  simp only [Act.put, List.setIfInBounds_toArray, List.set_cons_zero, List.set_cons_succ]
  refine wpAnyH_done (by kernel_rfl) ?_ _
  clear hHeld
  have y2_G0 : 0 < w1.heap.size := G0_1.lies
  have y2_G1 : 1 < w1.heap.size := G1_1.lies
  have y2_B0 : w.heap.size < w1.heap.size := B0_1.lies
  have y2_low : w.heap.size ≤ w1.heap.size := K1.size
  go_wp2
  go_ret
  exact ⟨rfl, (Below.drew (bel_al K1 _))⟩
set_option maxRecDepth 100000 in
set_option maxHeartbeats 4000000 in
theorem FieldPole_hn (p : V3) (t : Int) (w : World) (hG0 : Arr 0 (row 54 at0) w) (hG1 : Arr 1 (row 10 yr0) w) (c1 : ¬ p.2.2 > 9100000000000) (c2 : ¬ p.2.2 < (-9100000000000)) (c3 : p.2.2 > (-7013000000000)) (c4 : ¬ p.2.2 < 7013000000000) (kd : ¬ t < 0) (ke : ¬ t > 157766400000) (kf : ¬ p.1 > 34359738368) (kg : ¬ p.1 < (-34359738368)) (kh : p.2.1 > 34359738368) :
    Calls Tryd.prog 7 #[.agg #[.int .i64 p.1, .int .i64 p.2.1, .int .i64 p.2.2], .int .i64 t] w fun e w' => e = .returned (.bool true) ∧ Below w.heap.size w w' := by
  have l_0 := hG0.lies
  have l_1 := hG1.lies
  go_enter Tryd.func7, Tryd.ntmps7
  have y1_G0 : 0 < w.heap.size := hG0.lies
  have y1_G1 : 1 < w.heap.size := hG1.lies
  have y1_low : w.heap.size ≤ w.heap.size := (Below.refl w.heap.size w).size
  go_wp2_with fail
  refine (awake_any  _ (hG0.alloc _) (hG1.alloc _)).mono ?_
  rintro e w1 ⟨rfl, k1⟩
  have K1 : Below w.heap.size w w1 := bel_then (bel_al (Below.refl w.heap.size w) _) k1
  have G0_1 : Arr 0 (row 54 at0) w1 := (hG0.alloc _).below k1
  have G1_1 : Arr 1 (row 10 yr0) w1 := (hG1.alloc _).below k1
  have B0_1 : Arr w.heap.size [.int .i64 p.1, .int .i64 p.2.1, .int .i64 p.2.2] w1 := (Arr_at _ _ [.int .i64 p.1, .int .i64 p.2.1, .int .i64 p.2.2] _ (by simp)).below k1
  have z1 := B0_1.lies
  clear hG0 hG1 k1
  go_wp2_with fail
  refine wp_region_held_drew (S := fun w' => Arr w.heap.size [.int .i64 p.1, .int .i64 p.2.1, .int .i64 p.2.2] w') (by kernel_rfl) B0_1.drew (fun hHeld => ?_)
  refine take_at (i := 0) (v := ?v1) rfl (by kernel_rfl) (by kernel_rfl) (by kernel_rfl) (fun _ _ _ h => h) (Or.inl ⟨by rfl, ?y1⟩) hHeld ?t1
  case y1 => (intro wx hSw; go_simp <;> with_reducible rfl)
  simp only [Act.put, List.setIfInBounds_toArray, List.set_cons_zero, List.set_cons_succ]
  refine take_at (i := 1) (v := ?v2) rfl (by kernel_rfl) (by kernel_rfl) (by kernel_rfl) (fun _ _ _ h => h) (Or.inl ⟨by rfl, ?y2⟩) hHeld ?t2
  case y2 => (intro wx hSw; have hc0 : wx.cell? ⟨w.heap.size, 0, none⟩ = some (.int .i64 p.1) := hSw.c 0 (of_decide_eq_true rfl); go_simp <;> with_reducible rfl)
  simp only [Act.put, List.setIfInBounds_toArray, List.set_cons_zero, List.set_cons_succ]
  refine take_at (i := 2) (v := ?v3) rfl (by kernel_rfl) (by kernel_rfl) (by kernel_rfl) (fun _ _ _ h => h) (Or.inl ⟨by rfl, ?y3⟩) hHeld ?t3
  case y3 => (intro wx hSw; go_simp <;> with_reducible rfl)
  simp only [Act.put, List.setIfInBounds_toArray, List.set_cons_zero, List.set_cons_succ]
  refine take_at (i := 3) (v := ?v4) rfl (by kernel_rfl) (by kernel_rfl) (by kernel_rfl) (fun _ _ _ h => h) (Or.inl ⟨by rfl, ?y4⟩) hHeld ?t4
  case y4 => (intro wx hSw; have hc1 : wx.cell? ⟨w.heap.size, 1, none⟩ = some (.int .i64 p.2.1) := hSw.c 1 (of_decide_eq_true rfl); go_simp <;> with_reducible rfl)
  simp only [Act.put, List.setIfInBounds_toArray, List.set_cons_zero, List.set_cons_succ]
  refine take_at (i := 4) (v := ?v5) rfl (by kernel_rfl) (by kernel_rfl) (by kernel_rfl) (fun _ _ _ h => h) (Or.inl ⟨by rfl, ?y5⟩) hHeld ?t5
  case y5 => (intro wx hSw; go_simp <;> with_reducible rfl)
  simp only [Act.put, List.setIfInBounds_toArray, List.set_cons_zero, List.set_cons_succ]
  refine take_at (i := 5) (v := ?v6) rfl (by kernel_rfl) (by kernel_rfl) (by kernel_rfl) (fun _ _ _ h => h) (Or.inl ⟨by rfl, ?y6⟩) hHeld ?t6
  case y6 => (intro wx hSw; have hc2 : wx.cell? ⟨w.heap.size, 2, none⟩ = some (.int .i64 p.2.2) := hSw.c 2 (of_decide_eq_true rfl); go_simp <;> with_reducible rfl)
  simp only [Act.put, List.setIfInBounds_toArray, List.set_cons_zero, List.set_cons_succ]
  refine take_at (i := 6) (v := ?v7) rfl (by kernel_rfl) (by kernel_rfl) (by kernel_rfl) (fun _ _ _ h => h) (Or.inl ⟨by rfl, ?y7⟩) hHeld ?t7
  case y7 => (intro wx hSw; go_simp <;> with_reducible rfl)
  simp only [Act.put, List.setIfInBounds_toArray, List.set_cons_zero, List.set_cons_succ]
  refine take_at (i := 7) (v := ?v8) rfl (by kernel_rfl) (by kernel_rfl) (by kernel_rfl) (fun _ _ _ h => h) (Or.inl ⟨by rfl, ?y8⟩) hHeld ?t8
  case y8 => (intro wx hSw; go_simp <;> with_reducible rfl)
  simp only [Act.put, List.setIfInBounds_toArray, List.set_cons_zero, List.set_cons_succ]
  refine take_at (i := 8) (v := ?v9) rfl (by kernel_rfl) (by kernel_rfl) (by kernel_rfl) (fun _ _ _ h => h) (Or.inl ⟨by rfl, ?y9⟩) hHeld ?t9
  case y9 => (intro wx hSw; go_simp <;> with_reducible rfl)
  simp only [Act.put, List.setIfInBounds_toArray, List.set_cons_zero, List.set_cons_succ]
  refine wpAnyH_done (by kernel_rfl) ?_ _
  clear hHeld
  have y2_G0 : 0 < w1.heap.size := G0_1.lies
  have y2_G1 : 1 < w1.heap.size := G1_1.lies
  have y2_B0 : w.heap.size < w1.heap.size := B0_1.lies
  have y2_low : w.heap.size ≤ w1.heap.size := K1.size
  go_wp2
  go_ret
  exact ⟨rfl, (Below.drew (bel_al K1 _))⟩
set_option maxRecDepth 100000 in
set_option maxHeartbeats 4000000 in
theorem FieldPole_in (p : V3) (t : Int) (w : World) (hG0 : Arr 0 (row 54 at0) w) (hG1 : Arr 1 (row 10 yr0) w) (c1 : ¬ p.2.2 > 9100000000000) (c2 : ¬ p.2.2 < (-9100000000000)) (c3 : p.2.2 > (-7013000000000)) (c4 : ¬ p.2.2 < 7013000000000) (kd : ¬ t < 0) (ke : ¬ t > 157766400000) (kf : ¬ p.1 > 34359738368) (kg : ¬ p.1 < (-34359738368)) (kh : ¬ p.2.1 > 34359738368) (ki : p.2.1 < (-34359738368)) :
    Calls Tryd.prog 7 #[.agg #[.int .i64 p.1, .int .i64 p.2.1, .int .i64 p.2.2], .int .i64 t] w fun e w' => e = .returned (.bool true) ∧ Below w.heap.size w w' := by
  have l_0 := hG0.lies
  have l_1 := hG1.lies
  go_enter Tryd.func7, Tryd.ntmps7
  have y1_G0 : 0 < w.heap.size := hG0.lies
  have y1_G1 : 1 < w.heap.size := hG1.lies
  have y1_low : w.heap.size ≤ w.heap.size := (Below.refl w.heap.size w).size
  go_wp2_with fail
  refine (awake_any  _ (hG0.alloc _) (hG1.alloc _)).mono ?_
  rintro e w1 ⟨rfl, k1⟩
  have K1 : Below w.heap.size w w1 := bel_then (bel_al (Below.refl w.heap.size w) _) k1
  have G0_1 : Arr 0 (row 54 at0) w1 := (hG0.alloc _).below k1
  have G1_1 : Arr 1 (row 10 yr0) w1 := (hG1.alloc _).below k1
  have B0_1 : Arr w.heap.size [.int .i64 p.1, .int .i64 p.2.1, .int .i64 p.2.2] w1 := (Arr_at _ _ [.int .i64 p.1, .int .i64 p.2.1, .int .i64 p.2.2] _ (by simp)).below k1
  have z1 := B0_1.lies
  clear hG0 hG1 k1
  go_wp2_with fail
  refine wp_region_held_drew (S := fun w' => Arr w.heap.size [.int .i64 p.1, .int .i64 p.2.1, .int .i64 p.2.2] w') (by kernel_rfl) B0_1.drew (fun hHeld => ?_)
  refine take_at (i := 0) (v := ?v1) rfl (by kernel_rfl) (by kernel_rfl) (by kernel_rfl) (fun _ _ _ h => h) (Or.inl ⟨by rfl, ?y1⟩) hHeld ?t1
  case y1 => (intro wx hSw; go_simp <;> with_reducible rfl)
  simp only [Act.put, List.setIfInBounds_toArray, List.set_cons_zero, List.set_cons_succ]
  refine take_at (i := 1) (v := ?v2) rfl (by kernel_rfl) (by kernel_rfl) (by kernel_rfl) (fun _ _ _ h => h) (Or.inl ⟨by rfl, ?y2⟩) hHeld ?t2
  case y2 => (intro wx hSw; have hc0 : wx.cell? ⟨w.heap.size, 0, none⟩ = some (.int .i64 p.1) := hSw.c 0 (of_decide_eq_true rfl); go_simp <;> with_reducible rfl)
  simp only [Act.put, List.setIfInBounds_toArray, List.set_cons_zero, List.set_cons_succ]
  refine take_at (i := 2) (v := ?v3) rfl (by kernel_rfl) (by kernel_rfl) (by kernel_rfl) (fun _ _ _ h => h) (Or.inl ⟨by rfl, ?y3⟩) hHeld ?t3
  case y3 => (intro wx hSw; go_simp <;> with_reducible rfl)
  simp only [Act.put, List.setIfInBounds_toArray, List.set_cons_zero, List.set_cons_succ]
  refine take_at (i := 3) (v := ?v4) rfl (by kernel_rfl) (by kernel_rfl) (by kernel_rfl) (fun _ _ _ h => h) (Or.inl ⟨by rfl, ?y4⟩) hHeld ?t4
  case y4 => (intro wx hSw; have hc1 : wx.cell? ⟨w.heap.size, 1, none⟩ = some (.int .i64 p.2.1) := hSw.c 1 (of_decide_eq_true rfl); go_simp <;> with_reducible rfl)
  simp only [Act.put, List.setIfInBounds_toArray, List.set_cons_zero, List.set_cons_succ]
  refine take_at (i := 4) (v := ?v5) rfl (by kernel_rfl) (by kernel_rfl) (by kernel_rfl) (fun _ _ _ h => h) (Or.inl ⟨by rfl, ?y5⟩) hHeld ?t5
  case y5 => (intro wx hSw; go_simp <;> with_reducible rfl)
  simp only [Act.put, List.setIfInBounds_toArray, List.set_cons_zero, List.set_cons_succ]
  refine take_at (i := 5) (v := ?v6) rfl (by kernel_rfl) (by kernel_rfl) (by kernel_rfl) (fun _ _ _ h => h) (Or.inl ⟨by rfl, ?y6⟩) hHeld ?t6
  case y6 => (intro wx hSw; have hc2 : wx.cell? ⟨w.heap.size, 2, none⟩ = some (.int .i64 p.2.2) := hSw.c 2 (of_decide_eq_true rfl); go_simp <;> with_reducible rfl)
  simp only [Act.put, List.setIfInBounds_toArray, List.set_cons_zero, List.set_cons_succ]
  refine take_at (i := 6) (v := ?v7) rfl (by kernel_rfl) (by kernel_rfl) (by kernel_rfl) (fun _ _ _ h => h) (Or.inl ⟨by rfl, ?y7⟩) hHeld ?t7
  case y7 => (intro wx hSw; go_simp <;> with_reducible rfl)
  simp only [Act.put, List.setIfInBounds_toArray, List.set_cons_zero, List.set_cons_succ]
  refine take_at (i := 7) (v := ?v8) rfl (by kernel_rfl) (by kernel_rfl) (by kernel_rfl) (fun _ _ _ h => h) (Or.inl ⟨by rfl, ?y8⟩) hHeld ?t8
  case y8 => (intro wx hSw; go_simp <;> with_reducible rfl)
  simp only [Act.put, List.setIfInBounds_toArray, List.set_cons_zero, List.set_cons_succ]
  refine take_at (i := 8) (v := ?v9) rfl (by kernel_rfl) (by kernel_rfl) (by kernel_rfl) (fun _ _ _ h => h) (Or.inl ⟨by rfl, ?y9⟩) hHeld ?t9
  case y9 => (intro wx hSw; go_simp <;> with_reducible rfl)
  simp only [Act.put, List.setIfInBounds_toArray, List.set_cons_zero, List.set_cons_succ]
  refine wpAnyH_done (by kernel_rfl) ?_ _
  clear hHeld
  have y2_G0 : 0 < w1.heap.size := G0_1.lies
  have y2_G1 : 1 < w1.heap.size := G1_1.lies
  have y2_B0 : w.heap.size < w1.heap.size := B0_1.lies
  have y2_low : w.heap.size ≤ w1.heap.size := K1.size
  go_wp2
  go_ret
  exact ⟨rfl, (Below.drew (bel_al K1 _))⟩
set_option maxRecDepth 100000 in
set_option maxHeartbeats 4000000 in
theorem FieldPole_inn (p : V3) (t : Int) (w : World) (hG0 : Arr 0 (row 54 at0) w) (hG1 : Arr 1 (row 10 yr0) w) (c1 : ¬ p.2.2 > 9100000000000) (c2 : ¬ p.2.2 < (-9100000000000)) (c3 : p.2.2 > (-7013000000000)) (c4 : ¬ p.2.2 < 7013000000000) (kd : ¬ t < 0) (ke : ¬ t > 157766400000) (kf : ¬ p.1 > 34359738368) (kg : ¬ p.1 < (-34359738368)) (kh : ¬ p.2.1 > 34359738368) (ki : ¬ p.2.1 < (-34359738368)) (a0 a1 a2 b0 b1 b2 n : Int) (hA : earS false (0, 0, p.2.2) t = ((a0, a1, a2), false)) (hB : earS false p t = ((b0, b1, b2), false)) (u0 : a0 - b0 ≤ 8796093022208) (v0 : -8796093022208 ≤ a0 - b0) (u1 : a1 - b1 ≤ 8796093022208) (v1 : -8796093022208 ≤ a1 - b1) (u2 : a2 - b2 ≤ 8796093022208) (v2 : -8796093022208 ≤ a2 - b2) (hn : vNormS false (a0, a1, a2) = (n, false)) (n0 : n > 10995116277760) :
    Calls Tryd.prog 7 #[.agg #[.int .i64 p.1, .int .i64 p.2.1, .int .i64 p.2.2], .int .i64 t] w fun e w' => e = .returned (.bool true) ∧ Below w.heap.size w w' := by
  have l_0 := hG0.lies
  have l_1 := hG1.lies
  go_enter Tryd.func7, Tryd.ntmps7
  have y1_G0 : 0 < w.heap.size := hG0.lies
  have y1_G1 : 1 < w.heap.size := hG1.lies
  have y1_low : w.heap.size ≤ w.heap.size := (Below.refl w.heap.size w).size
  go_wp2_with fail
  refine (awake_any  _ (hG0.alloc _) (hG1.alloc _)).mono ?_
  rintro e w1 ⟨rfl, k1⟩
  have K1 : Below w.heap.size w w1 := bel_then (bel_al (Below.refl w.heap.size w) _) k1
  have G0_1 : Arr 0 (row 54 at0) w1 := (hG0.alloc _).below k1
  have G1_1 : Arr 1 (row 10 yr0) w1 := (hG1.alloc _).below k1
  have B0_1 : Arr w.heap.size [.int .i64 p.1, .int .i64 p.2.1, .int .i64 p.2.2] w1 := (Arr_at _ _ [.int .i64 p.1, .int .i64 p.2.1, .int .i64 p.2.2] _ (by simp)).below k1
  have z1 := B0_1.lies
  clear hG0 hG1 k1
  go_wp2_with fail
  refine wp_region_held_drew (S := fun w' => Arr w.heap.size [.int .i64 p.1, .int .i64 p.2.1, .int .i64 p.2.2] w') (by kernel_rfl) B0_1.drew (fun hHeld => ?_)
  refine take_at (i := 0) (v := ?v1) rfl (by kernel_rfl) (by kernel_rfl) (by kernel_rfl) (fun _ _ _ h => h) (Or.inl ⟨by rfl, ?y1⟩) hHeld ?t1
  case y1 => (intro wx hSw; go_simp <;> with_reducible rfl)
  simp only [Act.put, List.setIfInBounds_toArray, List.set_cons_zero, List.set_cons_succ]
  refine take_at (i := 1) (v := ?v2) rfl (by kernel_rfl) (by kernel_rfl) (by kernel_rfl) (fun _ _ _ h => h) (Or.inl ⟨by rfl, ?y2⟩) hHeld ?t2
  case y2 => (intro wx hSw; have hc0 : wx.cell? ⟨w.heap.size, 0, none⟩ = some (.int .i64 p.1) := hSw.c 0 (of_decide_eq_true rfl); go_simp <;> with_reducible rfl)
  simp only [Act.put, List.setIfInBounds_toArray, List.set_cons_zero, List.set_cons_succ]
  refine take_at (i := 2) (v := ?v3) rfl (by kernel_rfl) (by kernel_rfl) (by kernel_rfl) (fun _ _ _ h => h) (Or.inl ⟨by rfl, ?y3⟩) hHeld ?t3
  case y3 => (intro wx hSw; go_simp <;> with_reducible rfl)
  simp only [Act.put, List.setIfInBounds_toArray, List.set_cons_zero, List.set_cons_succ]
  refine take_at (i := 3) (v := ?v4) rfl (by kernel_rfl) (by kernel_rfl) (by kernel_rfl) (fun _ _ _ h => h) (Or.inl ⟨by rfl, ?y4⟩) hHeld ?t4
  case y4 => (intro wx hSw; have hc1 : wx.cell? ⟨w.heap.size, 1, none⟩ = some (.int .i64 p.2.1) := hSw.c 1 (of_decide_eq_true rfl); go_simp <;> with_reducible rfl)
  simp only [Act.put, List.setIfInBounds_toArray, List.set_cons_zero, List.set_cons_succ]
  refine take_at (i := 4) (v := ?v5) rfl (by kernel_rfl) (by kernel_rfl) (by kernel_rfl) (fun _ _ _ h => h) (Or.inl ⟨by rfl, ?y5⟩) hHeld ?t5
  case y5 => (intro wx hSw; go_simp <;> with_reducible rfl)
  simp only [Act.put, List.setIfInBounds_toArray, List.set_cons_zero, List.set_cons_succ]
  refine take_at (i := 5) (v := ?v6) rfl (by kernel_rfl) (by kernel_rfl) (by kernel_rfl) (fun _ _ _ h => h) (Or.inl ⟨by rfl, ?y6⟩) hHeld ?t6
  case y6 => (intro wx hSw; have hc2 : wx.cell? ⟨w.heap.size, 2, none⟩ = some (.int .i64 p.2.2) := hSw.c 2 (of_decide_eq_true rfl); go_simp <;> with_reducible rfl)
  simp only [Act.put, List.setIfInBounds_toArray, List.set_cons_zero, List.set_cons_succ]
  refine take_at (i := 6) (v := ?v7) rfl (by kernel_rfl) (by kernel_rfl) (by kernel_rfl) (fun _ _ _ h => h) (Or.inl ⟨by rfl, ?y7⟩) hHeld ?t7
  case y7 => (intro wx hSw; go_simp <;> with_reducible rfl)
  simp only [Act.put, List.setIfInBounds_toArray, List.set_cons_zero, List.set_cons_succ]
  refine take_at (i := 7) (v := ?v8) rfl (by kernel_rfl) (by kernel_rfl) (by kernel_rfl) (fun _ _ _ h => h) (Or.inl ⟨by rfl, ?y8⟩) hHeld ?t8
  case y8 => (intro wx hSw; go_simp <;> with_reducible rfl)
  simp only [Act.put, List.setIfInBounds_toArray, List.set_cons_zero, List.set_cons_succ]
  refine take_at (i := 8) (v := ?v9) rfl (by kernel_rfl) (by kernel_rfl) (by kernel_rfl) (fun _ _ _ h => h) (Or.inl ⟨by rfl, ?y9⟩) hHeld ?t9
  case y9 => (intro wx hSw; go_simp <;> with_reducible rfl)
  simp only [Act.put, List.setIfInBounds_toArray, List.set_cons_zero, List.set_cons_succ]
  refine wpAnyH_done (by kernel_rfl) ?_ _
  clear hHeld
  have y2_G0 : 0 < w1.heap.size := G0_1.lies
  have y2_G1 : 1 < w1.heap.size := G1_1.lies
  have y2_B0 : w.heap.size < w1.heap.size := B0_1.lies
  have y2_low : w.heap.size ≤ w1.heap.size := K1.size
  go_wp2_with fail
  refine (earth_any w1.heap.size false (0, 0, p.2.2) t _ (Fl_at _ _ _ _ (by simp)).drew (G0_1.alloc _).drew (G1_1.alloc _).drew (by omega)).mono ?_
  rintro e w2 ⟨rfl, f2, k2⟩
  rw [hA] at f2 ⊢
  dsimp only at f2 ⊢
  have K2 : Below w.heap.size w w2 := k2.on (Below.drew (bel_al K1 _)) (by omega)
  have G0_2 : Arr 0 (row 54 at0) w2 := (G0_1.alloc _).drew.kept k2 (Nat.ne_of_lt y2_G0)
  have G1_2 : Arr 1 (row 10 yr0) w2 := (G1_1.alloc _).drew.kept k2 (Nat.ne_of_lt y2_G1)
  have B0_2 : Arr w.heap.size [.int .i64 p.1, .int .i64 p.2.1, .int .i64 p.2.2] w2 := (B0_1.alloc _).drew.kept k2 (Nat.ne_of_lt y2_B0)
  have z2 := f2.lies
  clear K1 G0_1 G1_1 B0_1 k2
  go_wp2_with fail
  refine (earth_any w1.heap.size false p t _ f2 G0_2 G1_2 (by omega)).mono ?_
  rintro e w3 ⟨rfl, f3, k3⟩
  rw [hB] at f3 ⊢
  dsimp only at f3 ⊢
  have K3 : Below w.heap.size w w3 := k3.on K2 (by omega)
  have G0_3 : Arr 0 (row 54 at0) w3 := G0_2.kept k3 (Nat.ne_of_lt y2_G0)
  have G1_3 : Arr 1 (row 10 yr0) w3 := G1_2.kept k3 (Nat.ne_of_lt y2_G1)
  have B0_3 : Arr w.heap.size [.int .i64 p.1, .int .i64 p.2.1, .int .i64 p.2.2] w3 := B0_2.kept k3 (Nat.ne_of_lt y2_B0)
  have z3 := f3.lies
  clear K2 G0_2 G1_2 B0_2 f2 k3
  have y3_G0 : 0 < w3.heap.size := G0_3.lies
  have y3_G1 : 1 < w3.heap.size := G1_3.lies
  have y3_B0 : w.heap.size < w3.heap.size := B0_3.lies
  have y3_B1 : w1.heap.size < w3.heap.size := f3.lies
  have y3_low : w.heap.size ≤ w3.heap.size := K3.size
  have y4_G0 : 0 < w3.heap.size + 1 := (Nat.lt_succ_of_lt G0_3.lies)
  have y4_G1 : 1 < w3.heap.size + 1 := (Nat.lt_succ_of_lt G1_3.lies)
  have y4_B0 : w.heap.size < w3.heap.size + 1 := (Nat.lt_succ_of_lt B0_3.lies)
  have y4_B1 : w1.heap.size < w3.heap.size + 1 := (Nat.lt_succ_of_lt f3.lies)
  have y4_B2 : w3.heap.size < w3.heap.size + 1 := (Nat.lt_succ_self _)
  have y4_low : w.heap.size ≤ w3.heap.size + 1 := (Nat.le_succ_of_le K3.size)
  go_wp2_with fail
  refine wp_loop_rounds 4 ?_
  rw [rounds_succ]
  go_wp2_with fail
  refine wp_region_held_drew (S := fun w' => Arr w3.heap.size [.int .i64 a0, .int .i64 a1, .int .i64 a2] w' ∧ Arr (w3.heap.size + 1) [.int .i64 b0, .int .i64 b1, .int .i64 b2] w') (by kernel_rfl) ⟨((Arr_at _ _ [.int .i64 a0, .int .i64 a1, .int .i64 a2] _ (by simp)).alloc _).drew, (Arr_at _ _ [.int .i64 b0, .int .i64 b1, .int .i64 b2] _ (by simp)).drew⟩ (fun hHeld => ?_)
  refine take_at (i := 0) (v := ?v34) rfl (by kernel_rfl) (by kernel_rfl) (by kernel_rfl) (fun _ _ _ h => h) (Or.inl ⟨by rfl, ?y34⟩) hHeld ?t34
  case y34 => (intro wx hSw; go_simp <;> with_reducible rfl)
  simp only [Act.put, List.setIfInBounds_toArray, List.set_cons_zero, List.set_cons_succ]
  refine take_at (i := 1) (v := ?v35) rfl (by kernel_rfl) (by kernel_rfl) (by kernel_rfl) (fun _ _ _ h => h) (Or.inl ⟨by rfl, ?y35⟩) hHeld ?t35
  case y35 => (intro wx hSw; go_simp <;> with_reducible rfl)
  simp only [Act.put, List.setIfInBounds_toArray, List.set_cons_zero, List.set_cons_succ]
  refine take_at (i := 2) (v := ?v36) rfl (by kernel_rfl) (by kernel_rfl) (by kernel_rfl) (fun _ _ _ h => h) (Or.inl ⟨by rfl, ?y36⟩) hHeld ?t36
  case y36 => (intro wx hSw; have hc0 : wx.cell? ⟨w3.heap.size, 0, none⟩ = some (.int .i64 a0) := hSw.1.c 0 (of_decide_eq_true rfl); go_simp <;> with_reducible rfl)
  simp only [Act.put, List.setIfInBounds_toArray, List.set_cons_zero, List.set_cons_succ]
  refine take_at (i := 3) (v := ?v37) rfl (by kernel_rfl) (by kernel_rfl) (by kernel_rfl) (fun _ _ _ h => h) (Or.inl ⟨by rfl, ?y37⟩) hHeld ?t37
  case y37 => (intro wx hSw; go_simp <;> with_reducible rfl)
  simp only [Act.put, List.setIfInBounds_toArray, List.set_cons_zero, List.set_cons_succ]
  refine take_at (i := 4) (v := ?v38) rfl (by kernel_rfl) (by kernel_rfl) (by kernel_rfl) (fun _ _ _ h => h) (Or.inl ⟨by rfl, ?y38⟩) hHeld ?t38
  case y38 => (intro wx hSw; go_simp <;> with_reducible rfl)
  simp only [Act.put, List.setIfInBounds_toArray, List.set_cons_zero, List.set_cons_succ]
  refine take_at (i := 5) (v := ?v39) rfl (by kernel_rfl) (by kernel_rfl) (by kernel_rfl) (fun _ _ _ h => h) (Or.inl ⟨by rfl, ?y39⟩) hHeld ?t39
  case y39 => (intro wx hSw; have hc0 : wx.cell? ⟨w3.heap.size + 1, 0, none⟩ = some (.int .i64 b0) := hSw.2.c 0 (of_decide_eq_true rfl); go_simp <;> with_reducible rfl)
  simp only [Act.put, List.setIfInBounds_toArray, List.set_cons_zero, List.set_cons_succ]
  refine take_at (i := 6) (v := ?v40) rfl (by kernel_rfl) (by kernel_rfl) (by kernel_rfl) (fun _ _ _ h => h) (Or.inl ⟨by rfl, ?y40⟩) hHeld ?t40
  case y40 => (intro wx hSw; go_simp <;> with_reducible rfl)
  simp only [Act.put, List.setIfInBounds_toArray, List.set_cons_zero, List.set_cons_succ]
  rw [IntWalk.i64_in (a0 - b0) (by omega)]
  refine take_at (i := 7) (v := ?v41) rfl (by kernel_rfl) (by kernel_rfl) (by kernel_rfl) (fun _ _ _ h => h) (Or.inl ⟨by rfl, ?y41⟩) hHeld ?t41
  case y41 => (intro wx hSw; go_simp <;> with_reducible rfl)
  simp only [Act.put, List.setIfInBounds_toArray, List.set_cons_zero, List.set_cons_succ]
  refine wpAnyH_done (by kernel_rfl) ?_ _
  clear hHeld
  go_wp2_with fail
  rw [rounds_succ]
  go_wp2_with fail
  refine wp_region_held_drew (S := fun w' => Arr w3.heap.size [.int .i64 a0, .int .i64 a1, .int .i64 a2] w' ∧ Arr (w3.heap.size + 1) [.int .i64 b0, .int .i64 b1, .int .i64 b2] w') (by kernel_rfl) ⟨((Arr_at _ _ [.int .i64 a0, .int .i64 a1, .int .i64 a2] _ (by simp)).alloc _).drew.drew, (Arr_at _ _ [.int .i64 b0, .int .i64 b1, .int .i64 b2] _ (by simp)).drew.drew⟩ (fun hHeld => ?_)
  refine take_at (i := 0) (v := ?v42) rfl (by kernel_rfl) (by kernel_rfl) (by kernel_rfl) (fun _ _ _ h => h) (Or.inl ⟨by rfl, ?y42⟩) hHeld ?t42
  case y42 => (intro wx hSw; go_simp <;> with_reducible rfl)
  simp only [Act.put, List.setIfInBounds_toArray, List.set_cons_zero, List.set_cons_succ]
  refine take_at (i := 1) (v := ?v43) rfl (by kernel_rfl) (by kernel_rfl) (by kernel_rfl) (fun _ _ _ h => h) (Or.inl ⟨by rfl, ?y43⟩) hHeld ?t43
  case y43 => (intro wx hSw; go_simp <;> with_reducible rfl)
  simp only [Act.put, List.setIfInBounds_toArray, List.set_cons_zero, List.set_cons_succ]
  refine take_at (i := 2) (v := ?v44) rfl (by kernel_rfl) (by kernel_rfl) (by kernel_rfl) (fun _ _ _ h => h) (Or.inl ⟨by rfl, ?y44⟩) hHeld ?t44
  case y44 => (intro wx hSw; have hc1 : wx.cell? ⟨w3.heap.size, 1, none⟩ = some (.int .i64 a1) := hSw.1.c 1 (of_decide_eq_true rfl); go_simp <;> with_reducible rfl)
  simp only [Act.put, List.setIfInBounds_toArray, List.set_cons_zero, List.set_cons_succ]
  refine take_at (i := 3) (v := ?v45) rfl (by kernel_rfl) (by kernel_rfl) (by kernel_rfl) (fun _ _ _ h => h) (Or.inl ⟨by rfl, ?y45⟩) hHeld ?t45
  case y45 => (intro wx hSw; go_simp <;> with_reducible rfl)
  simp only [Act.put, List.setIfInBounds_toArray, List.set_cons_zero, List.set_cons_succ]
  refine take_at (i := 4) (v := ?v46) rfl (by kernel_rfl) (by kernel_rfl) (by kernel_rfl) (fun _ _ _ h => h) (Or.inl ⟨by rfl, ?y46⟩) hHeld ?t46
  case y46 => (intro wx hSw; go_simp <;> with_reducible rfl)
  simp only [Act.put, List.setIfInBounds_toArray, List.set_cons_zero, List.set_cons_succ]
  refine take_at (i := 5) (v := ?v47) rfl (by kernel_rfl) (by kernel_rfl) (by kernel_rfl) (fun _ _ _ h => h) (Or.inl ⟨by rfl, ?y47⟩) hHeld ?t47
  case y47 => (intro wx hSw; have hc1 : wx.cell? ⟨w3.heap.size + 1, 1, none⟩ = some (.int .i64 b1) := hSw.2.c 1 (of_decide_eq_true rfl); go_simp <;> with_reducible rfl)
  simp only [Act.put, List.setIfInBounds_toArray, List.set_cons_zero, List.set_cons_succ]
  refine take_at (i := 6) (v := ?v48) rfl (by kernel_rfl) (by kernel_rfl) (by kernel_rfl) (fun _ _ _ h => h) (Or.inl ⟨by rfl, ?y48⟩) hHeld ?t48
  case y48 => (intro wx hSw; go_simp <;> with_reducible rfl)
  simp only [Act.put, List.setIfInBounds_toArray, List.set_cons_zero, List.set_cons_succ]
  rw [IntWalk.i64_in (a1 - b1) (by omega)]
  refine take_at (i := 7) (v := ?v49) rfl (by kernel_rfl) (by kernel_rfl) (by kernel_rfl) (fun _ _ _ h => h) (Or.inl ⟨by rfl, ?y49⟩) hHeld ?t49
  case y49 => (intro wx hSw; go_simp <;> with_reducible rfl)
  simp only [Act.put, List.setIfInBounds_toArray, List.set_cons_zero, List.set_cons_succ]
  refine wpAnyH_done (by kernel_rfl) ?_ _
  clear hHeld
  go_wp2_with fail
  rw [rounds_succ]
  go_wp2_with fail
  refine wp_region_held_drew (S := fun w' => Arr w3.heap.size [.int .i64 a0, .int .i64 a1, .int .i64 a2] w' ∧ Arr (w3.heap.size + 1) [.int .i64 b0, .int .i64 b1, .int .i64 b2] w') (by kernel_rfl) ⟨((Arr_at _ _ [.int .i64 a0, .int .i64 a1, .int .i64 a2] _ (by simp)).alloc _).drew.drew.drew, (Arr_at _ _ [.int .i64 b0, .int .i64 b1, .int .i64 b2] _ (by simp)).drew.drew.drew⟩ (fun hHeld => ?_)
  refine take_at (i := 0) (v := ?v50) rfl (by kernel_rfl) (by kernel_rfl) (by kernel_rfl) (fun _ _ _ h => h) (Or.inl ⟨by rfl, ?y50⟩) hHeld ?t50
  case y50 => (intro wx hSw; go_simp <;> with_reducible rfl)
  simp only [Act.put, List.setIfInBounds_toArray, List.set_cons_zero, List.set_cons_succ]
  refine take_at (i := 1) (v := ?v51) rfl (by kernel_rfl) (by kernel_rfl) (by kernel_rfl) (fun _ _ _ h => h) (Or.inl ⟨by rfl, ?y51⟩) hHeld ?t51
  case y51 => (intro wx hSw; go_simp <;> with_reducible rfl)
  simp only [Act.put, List.setIfInBounds_toArray, List.set_cons_zero, List.set_cons_succ]
  refine take_at (i := 2) (v := ?v52) rfl (by kernel_rfl) (by kernel_rfl) (by kernel_rfl) (fun _ _ _ h => h) (Or.inl ⟨by rfl, ?y52⟩) hHeld ?t52
  case y52 => (intro wx hSw; have hc2 : wx.cell? ⟨w3.heap.size, 2, none⟩ = some (.int .i64 a2) := hSw.1.c 2 (of_decide_eq_true rfl); go_simp <;> with_reducible rfl)
  simp only [Act.put, List.setIfInBounds_toArray, List.set_cons_zero, List.set_cons_succ]
  refine take_at (i := 3) (v := ?v53) rfl (by kernel_rfl) (by kernel_rfl) (by kernel_rfl) (fun _ _ _ h => h) (Or.inl ⟨by rfl, ?y53⟩) hHeld ?t53
  case y53 => (intro wx hSw; go_simp <;> with_reducible rfl)
  simp only [Act.put, List.setIfInBounds_toArray, List.set_cons_zero, List.set_cons_succ]
  refine take_at (i := 4) (v := ?v54) rfl (by kernel_rfl) (by kernel_rfl) (by kernel_rfl) (fun _ _ _ h => h) (Or.inl ⟨by rfl, ?y54⟩) hHeld ?t54
  case y54 => (intro wx hSw; go_simp <;> with_reducible rfl)
  simp only [Act.put, List.setIfInBounds_toArray, List.set_cons_zero, List.set_cons_succ]
  refine take_at (i := 5) (v := ?v55) rfl (by kernel_rfl) (by kernel_rfl) (by kernel_rfl) (fun _ _ _ h => h) (Or.inl ⟨by rfl, ?y55⟩) hHeld ?t55
  case y55 => (intro wx hSw; have hc2 : wx.cell? ⟨w3.heap.size + 1, 2, none⟩ = some (.int .i64 b2) := hSw.2.c 2 (of_decide_eq_true rfl); go_simp <;> with_reducible rfl)
  simp only [Act.put, List.setIfInBounds_toArray, List.set_cons_zero, List.set_cons_succ]
  refine take_at (i := 6) (v := ?v56) rfl (by kernel_rfl) (by kernel_rfl) (by kernel_rfl) (fun _ _ _ h => h) (Or.inl ⟨by rfl, ?y56⟩) hHeld ?t56
  case y56 => (intro wx hSw; go_simp <;> with_reducible rfl)
  simp only [Act.put, List.setIfInBounds_toArray, List.set_cons_zero, List.set_cons_succ]
  rw [IntWalk.i64_in (a2 - b2) (by omega)]
  refine take_at (i := 7) (v := ?v57) rfl (by kernel_rfl) (by kernel_rfl) (by kernel_rfl) (fun _ _ _ h => h) (Or.inl ⟨by rfl, ?y57⟩) hHeld ?t57
  case y57 => (intro wx hSw; go_simp <;> with_reducible rfl)
  simp only [Act.put, List.setIfInBounds_toArray, List.set_cons_zero, List.set_cons_succ]
  refine wpAnyH_done (by kernel_rfl) ?_ _
  clear hHeld
  go_wp2_with fail
  rw [rounds_succ]
  have c12_B1 := f3.cell
  have l12_B1 := f3.lies
  go_wp2_with fail
  refine (vNorm_any w1.heap.size false (a0, a1, a2) _ ((f3.alloc _).alloc _).drew.drew.drew).mono ?_
  rintro e w4 ⟨rfl, f4, k4⟩
  rw [hn] at f4 ⊢
  dsimp only at f4 ⊢
  have K4 : Below w.heap.size w w4 := k4.on (Below.drew (Below.drew (Below.drew (bel_al (bel_al K3 _) _)))) (by omega)
  have G0_4 : Arr 0 (row 54 at0) w4 := ((G0_3.alloc _).alloc _).drew.drew.drew.kept k4 (Nat.ne_of_lt y2_G0)
  have G1_4 : Arr 1 (row 10 yr0) w4 := ((G1_3.alloc _).alloc _).drew.drew.drew.kept k4 (Nat.ne_of_lt y2_G1)
  have B0_4 : Arr w.heap.size [.int .i64 p.1, .int .i64 p.2.1, .int .i64 p.2.2] w4 := ((B0_3.alloc _).alloc _).drew.drew.drew.kept k4 (Nat.ne_of_lt y2_B0)
  have B2_4 : Arr w3.heap.size [.int .i64 a0, .int .i64 a1, .int .i64 a2] w4 := ((Arr_at _ _ [.int .i64 a0, .int .i64 a1, .int .i64 a2] _ (by simp)).alloc _).drew.drew.drew.kept k4 (Nat.ne_of_gt y3_B1)
  have B3_4 : Arr (w3.heap.size + 1) [.int .i64 b0, .int .i64 b1, .int .i64 b2] w4 := (Arr_at _ _ [.int .i64 b0, .int .i64 b1, .int .i64 b2] _ (by simp)).drew.drew.drew.kept k4 (Nat.ne_of_gt y4_B1)
  have z4 := B3_4.lies
  clear c12_B1 l12_B1 K3 G0_3 G1_3 B0_3 f3 k4
  go_wp2
  go_ret
  exact ⟨rfl, K4⟩
set_option maxRecDepth 100000 in
set_option maxHeartbeats 4000000 in
theorem FieldPole_ds (p : V3) (t : Int) (w : World) (hG0 : Arr 0 (row 54 at0) w) (hG1 : Arr 1 (row 10 yr0) w) (c1 : ¬ p.2.2 > 9100000000000) (c2 : ¬ p.2.2 < (-9100000000000)) (c3 : ¬ p.2.2 > (-7013000000000)) (kd : t < 0) :
    Calls Tryd.prog 7 #[.agg #[.int .i64 p.1, .int .i64 p.2.1, .int .i64 p.2.2], .int .i64 t] w fun e w' => e = .returned (.bool true) ∧ Below w.heap.size w w' := by
  have l_0 := hG0.lies
  have l_1 := hG1.lies
  go_enter Tryd.func7, Tryd.ntmps7
  have y1_G0 : 0 < w.heap.size := hG0.lies
  have y1_G1 : 1 < w.heap.size := hG1.lies
  have y1_low : w.heap.size ≤ w.heap.size := (Below.refl w.heap.size w).size
  go_wp2_with fail
  refine (awake_any  _ (hG0.alloc _) (hG1.alloc _)).mono ?_
  rintro e w1 ⟨rfl, k1⟩
  have K1 : Below w.heap.size w w1 := bel_then (bel_al (Below.refl w.heap.size w) _) k1
  have G0_1 : Arr 0 (row 54 at0) w1 := (hG0.alloc _).below k1
  have G1_1 : Arr 1 (row 10 yr0) w1 := (hG1.alloc _).below k1
  have B0_1 : Arr w.heap.size [.int .i64 p.1, .int .i64 p.2.1, .int .i64 p.2.2] w1 := (Arr_at _ _ [.int .i64 p.1, .int .i64 p.2.1, .int .i64 p.2.2] _ (by simp)).below k1
  have z1 := B0_1.lies
  clear hG0 hG1 k1
  go_wp2_with fail
  refine wp_region_held_drew (S := fun w' => Arr w.heap.size [.int .i64 p.1, .int .i64 p.2.1, .int .i64 p.2.2] w') (by kernel_rfl) B0_1.drew (fun hHeld => ?_)
  refine take_at (i := 0) (v := ?v1) rfl (by kernel_rfl) (by kernel_rfl) (by kernel_rfl) (fun _ _ _ h => h) (Or.inl ⟨by rfl, ?y1⟩) hHeld ?t1
  case y1 => (intro wx hSw; go_simp <;> with_reducible rfl)
  simp only [Act.put, List.setIfInBounds_toArray, List.set_cons_zero, List.set_cons_succ]
  refine take_at (i := 1) (v := ?v2) rfl (by kernel_rfl) (by kernel_rfl) (by kernel_rfl) (fun _ _ _ h => h) (Or.inl ⟨by rfl, ?y2⟩) hHeld ?t2
  case y2 => (intro wx hSw; have hc0 : wx.cell? ⟨w.heap.size, 0, none⟩ = some (.int .i64 p.1) := hSw.c 0 (of_decide_eq_true rfl); go_simp <;> with_reducible rfl)
  simp only [Act.put, List.setIfInBounds_toArray, List.set_cons_zero, List.set_cons_succ]
  refine take_at (i := 2) (v := ?v3) rfl (by kernel_rfl) (by kernel_rfl) (by kernel_rfl) (fun _ _ _ h => h) (Or.inl ⟨by rfl, ?y3⟩) hHeld ?t3
  case y3 => (intro wx hSw; go_simp <;> with_reducible rfl)
  simp only [Act.put, List.setIfInBounds_toArray, List.set_cons_zero, List.set_cons_succ]
  refine take_at (i := 3) (v := ?v4) rfl (by kernel_rfl) (by kernel_rfl) (by kernel_rfl) (fun _ _ _ h => h) (Or.inl ⟨by rfl, ?y4⟩) hHeld ?t4
  case y4 => (intro wx hSw; have hc1 : wx.cell? ⟨w.heap.size, 1, none⟩ = some (.int .i64 p.2.1) := hSw.c 1 (of_decide_eq_true rfl); go_simp <;> with_reducible rfl)
  simp only [Act.put, List.setIfInBounds_toArray, List.set_cons_zero, List.set_cons_succ]
  refine take_at (i := 4) (v := ?v5) rfl (by kernel_rfl) (by kernel_rfl) (by kernel_rfl) (fun _ _ _ h => h) (Or.inl ⟨by rfl, ?y5⟩) hHeld ?t5
  case y5 => (intro wx hSw; go_simp <;> with_reducible rfl)
  simp only [Act.put, List.setIfInBounds_toArray, List.set_cons_zero, List.set_cons_succ]
  refine take_at (i := 5) (v := ?v6) rfl (by kernel_rfl) (by kernel_rfl) (by kernel_rfl) (fun _ _ _ h => h) (Or.inl ⟨by rfl, ?y6⟩) hHeld ?t6
  case y6 => (intro wx hSw; have hc2 : wx.cell? ⟨w.heap.size, 2, none⟩ = some (.int .i64 p.2.2) := hSw.c 2 (of_decide_eq_true rfl); go_simp <;> with_reducible rfl)
  simp only [Act.put, List.setIfInBounds_toArray, List.set_cons_zero, List.set_cons_succ]
  refine take_at (i := 6) (v := ?v7) rfl (by kernel_rfl) (by kernel_rfl) (by kernel_rfl) (fun _ _ _ h => h) (Or.inl ⟨by rfl, ?y7⟩) hHeld ?t7
  case y7 => (intro wx hSw; go_simp <;> with_reducible rfl)
  simp only [Act.put, List.setIfInBounds_toArray, List.set_cons_zero, List.set_cons_succ]
  refine take_at (i := 7) (v := ?v8) rfl (by kernel_rfl) (by kernel_rfl) (by kernel_rfl) (fun _ _ _ h => h) (Or.inl ⟨by rfl, ?y8⟩) hHeld ?t8
  case y8 => (intro wx hSw; go_simp <;> with_reducible rfl)
  simp only [Act.put, List.setIfInBounds_toArray, List.set_cons_zero, List.set_cons_succ]
  refine take_at (i := 8) (v := ?v9) rfl (by kernel_rfl) (by kernel_rfl) (by kernel_rfl) (fun _ _ _ h => h) (Or.inl ⟨by rfl, ?y9⟩) hHeld ?t9
  case y9 => (intro wx hSw; go_simp <;> with_reducible rfl)
  simp only [Act.put, List.setIfInBounds_toArray, List.set_cons_zero, List.set_cons_succ]
  refine wpAnyH_done (by kernel_rfl) ?_ _
  clear hHeld
  have y2_G0 : 0 < w1.heap.size := G0_1.lies
  have y2_G1 : 1 < w1.heap.size := G1_1.lies
  have y2_B0 : w.heap.size < w1.heap.size := B0_1.lies
  have y2_low : w.heap.size ≤ w1.heap.size := K1.size
  go_wp2
  go_ret
  exact ⟨rfl, (Below.drew (bel_al K1 _))⟩
set_option maxRecDepth 100000 in
set_option maxHeartbeats 4000000 in
theorem FieldPole_es (p : V3) (t : Int) (w : World) (hG0 : Arr 0 (row 54 at0) w) (hG1 : Arr 1 (row 10 yr0) w) (c1 : ¬ p.2.2 > 9100000000000) (c2 : ¬ p.2.2 < (-9100000000000)) (c3 : ¬ p.2.2 > (-7013000000000)) (kd : ¬ t < 0) (ke : t > 157766400000) :
    Calls Tryd.prog 7 #[.agg #[.int .i64 p.1, .int .i64 p.2.1, .int .i64 p.2.2], .int .i64 t] w fun e w' => e = .returned (.bool true) ∧ Below w.heap.size w w' := by
  have l_0 := hG0.lies
  have l_1 := hG1.lies
  go_enter Tryd.func7, Tryd.ntmps7
  have y1_G0 : 0 < w.heap.size := hG0.lies
  have y1_G1 : 1 < w.heap.size := hG1.lies
  have y1_low : w.heap.size ≤ w.heap.size := (Below.refl w.heap.size w).size
  go_wp2_with fail
  refine (awake_any  _ (hG0.alloc _) (hG1.alloc _)).mono ?_
  rintro e w1 ⟨rfl, k1⟩
  have K1 : Below w.heap.size w w1 := bel_then (bel_al (Below.refl w.heap.size w) _) k1
  have G0_1 : Arr 0 (row 54 at0) w1 := (hG0.alloc _).below k1
  have G1_1 : Arr 1 (row 10 yr0) w1 := (hG1.alloc _).below k1
  have B0_1 : Arr w.heap.size [.int .i64 p.1, .int .i64 p.2.1, .int .i64 p.2.2] w1 := (Arr_at _ _ [.int .i64 p.1, .int .i64 p.2.1, .int .i64 p.2.2] _ (by simp)).below k1
  have z1 := B0_1.lies
  clear hG0 hG1 k1
  go_wp2_with fail
  refine wp_region_held_drew (S := fun w' => Arr w.heap.size [.int .i64 p.1, .int .i64 p.2.1, .int .i64 p.2.2] w') (by kernel_rfl) B0_1.drew (fun hHeld => ?_)
  refine take_at (i := 0) (v := ?v1) rfl (by kernel_rfl) (by kernel_rfl) (by kernel_rfl) (fun _ _ _ h => h) (Or.inl ⟨by rfl, ?y1⟩) hHeld ?t1
  case y1 => (intro wx hSw; go_simp <;> with_reducible rfl)
  simp only [Act.put, List.setIfInBounds_toArray, List.set_cons_zero, List.set_cons_succ]
  refine take_at (i := 1) (v := ?v2) rfl (by kernel_rfl) (by kernel_rfl) (by kernel_rfl) (fun _ _ _ h => h) (Or.inl ⟨by rfl, ?y2⟩) hHeld ?t2
  case y2 => (intro wx hSw; have hc0 : wx.cell? ⟨w.heap.size, 0, none⟩ = some (.int .i64 p.1) := hSw.c 0 (of_decide_eq_true rfl); go_simp <;> with_reducible rfl)
  simp only [Act.put, List.setIfInBounds_toArray, List.set_cons_zero, List.set_cons_succ]
  refine take_at (i := 2) (v := ?v3) rfl (by kernel_rfl) (by kernel_rfl) (by kernel_rfl) (fun _ _ _ h => h) (Or.inl ⟨by rfl, ?y3⟩) hHeld ?t3
  case y3 => (intro wx hSw; go_simp <;> with_reducible rfl)
  simp only [Act.put, List.setIfInBounds_toArray, List.set_cons_zero, List.set_cons_succ]
  refine take_at (i := 3) (v := ?v4) rfl (by kernel_rfl) (by kernel_rfl) (by kernel_rfl) (fun _ _ _ h => h) (Or.inl ⟨by rfl, ?y4⟩) hHeld ?t4
  case y4 => (intro wx hSw; have hc1 : wx.cell? ⟨w.heap.size, 1, none⟩ = some (.int .i64 p.2.1) := hSw.c 1 (of_decide_eq_true rfl); go_simp <;> with_reducible rfl)
  simp only [Act.put, List.setIfInBounds_toArray, List.set_cons_zero, List.set_cons_succ]
  refine take_at (i := 4) (v := ?v5) rfl (by kernel_rfl) (by kernel_rfl) (by kernel_rfl) (fun _ _ _ h => h) (Or.inl ⟨by rfl, ?y5⟩) hHeld ?t5
  case y5 => (intro wx hSw; go_simp <;> with_reducible rfl)
  simp only [Act.put, List.setIfInBounds_toArray, List.set_cons_zero, List.set_cons_succ]
  refine take_at (i := 5) (v := ?v6) rfl (by kernel_rfl) (by kernel_rfl) (by kernel_rfl) (fun _ _ _ h => h) (Or.inl ⟨by rfl, ?y6⟩) hHeld ?t6
  case y6 => (intro wx hSw; have hc2 : wx.cell? ⟨w.heap.size, 2, none⟩ = some (.int .i64 p.2.2) := hSw.c 2 (of_decide_eq_true rfl); go_simp <;> with_reducible rfl)
  simp only [Act.put, List.setIfInBounds_toArray, List.set_cons_zero, List.set_cons_succ]
  refine take_at (i := 6) (v := ?v7) rfl (by kernel_rfl) (by kernel_rfl) (by kernel_rfl) (fun _ _ _ h => h) (Or.inl ⟨by rfl, ?y7⟩) hHeld ?t7
  case y7 => (intro wx hSw; go_simp <;> with_reducible rfl)
  simp only [Act.put, List.setIfInBounds_toArray, List.set_cons_zero, List.set_cons_succ]
  refine take_at (i := 7) (v := ?v8) rfl (by kernel_rfl) (by kernel_rfl) (by kernel_rfl) (fun _ _ _ h => h) (Or.inl ⟨by rfl, ?y8⟩) hHeld ?t8
  case y8 => (intro wx hSw; go_simp <;> with_reducible rfl)
  simp only [Act.put, List.setIfInBounds_toArray, List.set_cons_zero, List.set_cons_succ]
  refine take_at (i := 8) (v := ?v9) rfl (by kernel_rfl) (by kernel_rfl) (by kernel_rfl) (fun _ _ _ h => h) (Or.inl ⟨by rfl, ?y9⟩) hHeld ?t9
  case y9 => (intro wx hSw; go_simp <;> with_reducible rfl)
  simp only [Act.put, List.setIfInBounds_toArray, List.set_cons_zero, List.set_cons_succ]
  refine wpAnyH_done (by kernel_rfl) ?_ _
  clear hHeld
  have y2_G0 : 0 < w1.heap.size := G0_1.lies
  have y2_G1 : 1 < w1.heap.size := G1_1.lies
  have y2_B0 : w.heap.size < w1.heap.size := B0_1.lies
  have y2_low : w.heap.size ≤ w1.heap.size := K1.size
  go_wp2
  go_ret
  exact ⟨rfl, (Below.drew (bel_al K1 _))⟩
set_option maxRecDepth 100000 in
set_option maxHeartbeats 4000000 in
theorem FieldPole_fs (p : V3) (t : Int) (w : World) (hG0 : Arr 0 (row 54 at0) w) (hG1 : Arr 1 (row 10 yr0) w) (c1 : ¬ p.2.2 > 9100000000000) (c2 : ¬ p.2.2 < (-9100000000000)) (c3 : ¬ p.2.2 > (-7013000000000)) (kd : ¬ t < 0) (ke : ¬ t > 157766400000) (kf : p.1 > 34359738368) :
    Calls Tryd.prog 7 #[.agg #[.int .i64 p.1, .int .i64 p.2.1, .int .i64 p.2.2], .int .i64 t] w fun e w' => e = .returned (.bool true) ∧ Below w.heap.size w w' := by
  have l_0 := hG0.lies
  have l_1 := hG1.lies
  go_enter Tryd.func7, Tryd.ntmps7
  have y1_G0 : 0 < w.heap.size := hG0.lies
  have y1_G1 : 1 < w.heap.size := hG1.lies
  have y1_low : w.heap.size ≤ w.heap.size := (Below.refl w.heap.size w).size
  go_wp2_with fail
  refine (awake_any  _ (hG0.alloc _) (hG1.alloc _)).mono ?_
  rintro e w1 ⟨rfl, k1⟩
  have K1 : Below w.heap.size w w1 := bel_then (bel_al (Below.refl w.heap.size w) _) k1
  have G0_1 : Arr 0 (row 54 at0) w1 := (hG0.alloc _).below k1
  have G1_1 : Arr 1 (row 10 yr0) w1 := (hG1.alloc _).below k1
  have B0_1 : Arr w.heap.size [.int .i64 p.1, .int .i64 p.2.1, .int .i64 p.2.2] w1 := (Arr_at _ _ [.int .i64 p.1, .int .i64 p.2.1, .int .i64 p.2.2] _ (by simp)).below k1
  have z1 := B0_1.lies
  clear hG0 hG1 k1
  go_wp2_with fail
  refine wp_region_held_drew (S := fun w' => Arr w.heap.size [.int .i64 p.1, .int .i64 p.2.1, .int .i64 p.2.2] w') (by kernel_rfl) B0_1.drew (fun hHeld => ?_)
  refine take_at (i := 0) (v := ?v1) rfl (by kernel_rfl) (by kernel_rfl) (by kernel_rfl) (fun _ _ _ h => h) (Or.inl ⟨by rfl, ?y1⟩) hHeld ?t1
  case y1 => (intro wx hSw; go_simp <;> with_reducible rfl)
  simp only [Act.put, List.setIfInBounds_toArray, List.set_cons_zero, List.set_cons_succ]
  refine take_at (i := 1) (v := ?v2) rfl (by kernel_rfl) (by kernel_rfl) (by kernel_rfl) (fun _ _ _ h => h) (Or.inl ⟨by rfl, ?y2⟩) hHeld ?t2
  case y2 => (intro wx hSw; have hc0 : wx.cell? ⟨w.heap.size, 0, none⟩ = some (.int .i64 p.1) := hSw.c 0 (of_decide_eq_true rfl); go_simp <;> with_reducible rfl)
  simp only [Act.put, List.setIfInBounds_toArray, List.set_cons_zero, List.set_cons_succ]
  refine take_at (i := 2) (v := ?v3) rfl (by kernel_rfl) (by kernel_rfl) (by kernel_rfl) (fun _ _ _ h => h) (Or.inl ⟨by rfl, ?y3⟩) hHeld ?t3
  case y3 => (intro wx hSw; go_simp <;> with_reducible rfl)
  simp only [Act.put, List.setIfInBounds_toArray, List.set_cons_zero, List.set_cons_succ]
  refine take_at (i := 3) (v := ?v4) rfl (by kernel_rfl) (by kernel_rfl) (by kernel_rfl) (fun _ _ _ h => h) (Or.inl ⟨by rfl, ?y4⟩) hHeld ?t4
  case y4 => (intro wx hSw; have hc1 : wx.cell? ⟨w.heap.size, 1, none⟩ = some (.int .i64 p.2.1) := hSw.c 1 (of_decide_eq_true rfl); go_simp <;> with_reducible rfl)
  simp only [Act.put, List.setIfInBounds_toArray, List.set_cons_zero, List.set_cons_succ]
  refine take_at (i := 4) (v := ?v5) rfl (by kernel_rfl) (by kernel_rfl) (by kernel_rfl) (fun _ _ _ h => h) (Or.inl ⟨by rfl, ?y5⟩) hHeld ?t5
  case y5 => (intro wx hSw; go_simp <;> with_reducible rfl)
  simp only [Act.put, List.setIfInBounds_toArray, List.set_cons_zero, List.set_cons_succ]
  refine take_at (i := 5) (v := ?v6) rfl (by kernel_rfl) (by kernel_rfl) (by kernel_rfl) (fun _ _ _ h => h) (Or.inl ⟨by rfl, ?y6⟩) hHeld ?t6
  case y6 => (intro wx hSw; have hc2 : wx.cell? ⟨w.heap.size, 2, none⟩ = some (.int .i64 p.2.2) := hSw.c 2 (of_decide_eq_true rfl); go_simp <;> with_reducible rfl)
  simp only [Act.put, List.setIfInBounds_toArray, List.set_cons_zero, List.set_cons_succ]
  refine take_at (i := 6) (v := ?v7) rfl (by kernel_rfl) (by kernel_rfl) (by kernel_rfl) (fun _ _ _ h => h) (Or.inl ⟨by rfl, ?y7⟩) hHeld ?t7
  case y7 => (intro wx hSw; go_simp <;> with_reducible rfl)
  simp only [Act.put, List.setIfInBounds_toArray, List.set_cons_zero, List.set_cons_succ]
  refine take_at (i := 7) (v := ?v8) rfl (by kernel_rfl) (by kernel_rfl) (by kernel_rfl) (fun _ _ _ h => h) (Or.inl ⟨by rfl, ?y8⟩) hHeld ?t8
  case y8 => (intro wx hSw; go_simp <;> with_reducible rfl)
  simp only [Act.put, List.setIfInBounds_toArray, List.set_cons_zero, List.set_cons_succ]
  refine take_at (i := 8) (v := ?v9) rfl (by kernel_rfl) (by kernel_rfl) (by kernel_rfl) (fun _ _ _ h => h) (Or.inl ⟨by rfl, ?y9⟩) hHeld ?t9
  case y9 => (intro wx hSw; go_simp <;> with_reducible rfl)
  simp only [Act.put, List.setIfInBounds_toArray, List.set_cons_zero, List.set_cons_succ]
  refine wpAnyH_done (by kernel_rfl) ?_ _
  clear hHeld
  have y2_G0 : 0 < w1.heap.size := G0_1.lies
  have y2_G1 : 1 < w1.heap.size := G1_1.lies
  have y2_B0 : w.heap.size < w1.heap.size := B0_1.lies
  have y2_low : w.heap.size ≤ w1.heap.size := K1.size
  go_wp2
  go_ret
  exact ⟨rfl, (Below.drew (bel_al K1 _))⟩
set_option maxRecDepth 100000 in
set_option maxHeartbeats 4000000 in
theorem FieldPole_gs (p : V3) (t : Int) (w : World) (hG0 : Arr 0 (row 54 at0) w) (hG1 : Arr 1 (row 10 yr0) w) (c1 : ¬ p.2.2 > 9100000000000) (c2 : ¬ p.2.2 < (-9100000000000)) (c3 : ¬ p.2.2 > (-7013000000000)) (kd : ¬ t < 0) (ke : ¬ t > 157766400000) (kf : ¬ p.1 > 34359738368) (kg : p.1 < (-34359738368)) :
    Calls Tryd.prog 7 #[.agg #[.int .i64 p.1, .int .i64 p.2.1, .int .i64 p.2.2], .int .i64 t] w fun e w' => e = .returned (.bool true) ∧ Below w.heap.size w w' := by
  have l_0 := hG0.lies
  have l_1 := hG1.lies
  go_enter Tryd.func7, Tryd.ntmps7
  have y1_G0 : 0 < w.heap.size := hG0.lies
  have y1_G1 : 1 < w.heap.size := hG1.lies
  have y1_low : w.heap.size ≤ w.heap.size := (Below.refl w.heap.size w).size
  go_wp2_with fail
  refine (awake_any  _ (hG0.alloc _) (hG1.alloc _)).mono ?_
  rintro e w1 ⟨rfl, k1⟩
  have K1 : Below w.heap.size w w1 := bel_then (bel_al (Below.refl w.heap.size w) _) k1
  have G0_1 : Arr 0 (row 54 at0) w1 := (hG0.alloc _).below k1
  have G1_1 : Arr 1 (row 10 yr0) w1 := (hG1.alloc _).below k1
  have B0_1 : Arr w.heap.size [.int .i64 p.1, .int .i64 p.2.1, .int .i64 p.2.2] w1 := (Arr_at _ _ [.int .i64 p.1, .int .i64 p.2.1, .int .i64 p.2.2] _ (by simp)).below k1
  have z1 := B0_1.lies
  clear hG0 hG1 k1
  go_wp2_with fail
  refine wp_region_held_drew (S := fun w' => Arr w.heap.size [.int .i64 p.1, .int .i64 p.2.1, .int .i64 p.2.2] w') (by kernel_rfl) B0_1.drew (fun hHeld => ?_)
  refine take_at (i := 0) (v := ?v1) rfl (by kernel_rfl) (by kernel_rfl) (by kernel_rfl) (fun _ _ _ h => h) (Or.inl ⟨by rfl, ?y1⟩) hHeld ?t1
  case y1 => (intro wx hSw; go_simp <;> with_reducible rfl)
  simp only [Act.put, List.setIfInBounds_toArray, List.set_cons_zero, List.set_cons_succ]
  refine take_at (i := 1) (v := ?v2) rfl (by kernel_rfl) (by kernel_rfl) (by kernel_rfl) (fun _ _ _ h => h) (Or.inl ⟨by rfl, ?y2⟩) hHeld ?t2
  case y2 => (intro wx hSw; have hc0 : wx.cell? ⟨w.heap.size, 0, none⟩ = some (.int .i64 p.1) := hSw.c 0 (of_decide_eq_true rfl); go_simp <;> with_reducible rfl)
  simp only [Act.put, List.setIfInBounds_toArray, List.set_cons_zero, List.set_cons_succ]
  refine take_at (i := 2) (v := ?v3) rfl (by kernel_rfl) (by kernel_rfl) (by kernel_rfl) (fun _ _ _ h => h) (Or.inl ⟨by rfl, ?y3⟩) hHeld ?t3
  case y3 => (intro wx hSw; go_simp <;> with_reducible rfl)
  simp only [Act.put, List.setIfInBounds_toArray, List.set_cons_zero, List.set_cons_succ]
  refine take_at (i := 3) (v := ?v4) rfl (by kernel_rfl) (by kernel_rfl) (by kernel_rfl) (fun _ _ _ h => h) (Or.inl ⟨by rfl, ?y4⟩) hHeld ?t4
  case y4 => (intro wx hSw; have hc1 : wx.cell? ⟨w.heap.size, 1, none⟩ = some (.int .i64 p.2.1) := hSw.c 1 (of_decide_eq_true rfl); go_simp <;> with_reducible rfl)
  simp only [Act.put, List.setIfInBounds_toArray, List.set_cons_zero, List.set_cons_succ]
  refine take_at (i := 4) (v := ?v5) rfl (by kernel_rfl) (by kernel_rfl) (by kernel_rfl) (fun _ _ _ h => h) (Or.inl ⟨by rfl, ?y5⟩) hHeld ?t5
  case y5 => (intro wx hSw; go_simp <;> with_reducible rfl)
  simp only [Act.put, List.setIfInBounds_toArray, List.set_cons_zero, List.set_cons_succ]
  refine take_at (i := 5) (v := ?v6) rfl (by kernel_rfl) (by kernel_rfl) (by kernel_rfl) (fun _ _ _ h => h) (Or.inl ⟨by rfl, ?y6⟩) hHeld ?t6
  case y6 => (intro wx hSw; have hc2 : wx.cell? ⟨w.heap.size, 2, none⟩ = some (.int .i64 p.2.2) := hSw.c 2 (of_decide_eq_true rfl); go_simp <;> with_reducible rfl)
  simp only [Act.put, List.setIfInBounds_toArray, List.set_cons_zero, List.set_cons_succ]
  refine take_at (i := 6) (v := ?v7) rfl (by kernel_rfl) (by kernel_rfl) (by kernel_rfl) (fun _ _ _ h => h) (Or.inl ⟨by rfl, ?y7⟩) hHeld ?t7
  case y7 => (intro wx hSw; go_simp <;> with_reducible rfl)
  simp only [Act.put, List.setIfInBounds_toArray, List.set_cons_zero, List.set_cons_succ]
  refine take_at (i := 7) (v := ?v8) rfl (by kernel_rfl) (by kernel_rfl) (by kernel_rfl) (fun _ _ _ h => h) (Or.inl ⟨by rfl, ?y8⟩) hHeld ?t8
  case y8 => (intro wx hSw; go_simp <;> with_reducible rfl)
  simp only [Act.put, List.setIfInBounds_toArray, List.set_cons_zero, List.set_cons_succ]
  refine take_at (i := 8) (v := ?v9) rfl (by kernel_rfl) (by kernel_rfl) (by kernel_rfl) (fun _ _ _ h => h) (Or.inl ⟨by rfl, ?y9⟩) hHeld ?t9
  case y9 => (intro wx hSw; go_simp <;> with_reducible rfl)
  simp only [Act.put, List.setIfInBounds_toArray, List.set_cons_zero, List.set_cons_succ]
  refine wpAnyH_done (by kernel_rfl) ?_ _
  clear hHeld
  have y2_G0 : 0 < w1.heap.size := G0_1.lies
  have y2_G1 : 1 < w1.heap.size := G1_1.lies
  have y2_B0 : w.heap.size < w1.heap.size := B0_1.lies
  have y2_low : w.heap.size ≤ w1.heap.size := K1.size
  go_wp2
  go_ret
  exact ⟨rfl, (Below.drew (bel_al K1 _))⟩
set_option maxRecDepth 100000 in
set_option maxHeartbeats 4000000 in
theorem FieldPole_hs (p : V3) (t : Int) (w : World) (hG0 : Arr 0 (row 54 at0) w) (hG1 : Arr 1 (row 10 yr0) w) (c1 : ¬ p.2.2 > 9100000000000) (c2 : ¬ p.2.2 < (-9100000000000)) (c3 : ¬ p.2.2 > (-7013000000000)) (kd : ¬ t < 0) (ke : ¬ t > 157766400000) (kf : ¬ p.1 > 34359738368) (kg : ¬ p.1 < (-34359738368)) (kh : p.2.1 > 34359738368) :
    Calls Tryd.prog 7 #[.agg #[.int .i64 p.1, .int .i64 p.2.1, .int .i64 p.2.2], .int .i64 t] w fun e w' => e = .returned (.bool true) ∧ Below w.heap.size w w' := by
  have l_0 := hG0.lies
  have l_1 := hG1.lies
  go_enter Tryd.func7, Tryd.ntmps7
  have y1_G0 : 0 < w.heap.size := hG0.lies
  have y1_G1 : 1 < w.heap.size := hG1.lies
  have y1_low : w.heap.size ≤ w.heap.size := (Below.refl w.heap.size w).size
  go_wp2_with fail
  refine (awake_any  _ (hG0.alloc _) (hG1.alloc _)).mono ?_
  rintro e w1 ⟨rfl, k1⟩
  have K1 : Below w.heap.size w w1 := bel_then (bel_al (Below.refl w.heap.size w) _) k1
  have G0_1 : Arr 0 (row 54 at0) w1 := (hG0.alloc _).below k1
  have G1_1 : Arr 1 (row 10 yr0) w1 := (hG1.alloc _).below k1
  have B0_1 : Arr w.heap.size [.int .i64 p.1, .int .i64 p.2.1, .int .i64 p.2.2] w1 := (Arr_at _ _ [.int .i64 p.1, .int .i64 p.2.1, .int .i64 p.2.2] _ (by simp)).below k1
  have z1 := B0_1.lies
  clear hG0 hG1 k1
  go_wp2_with fail
  refine wp_region_held_drew (S := fun w' => Arr w.heap.size [.int .i64 p.1, .int .i64 p.2.1, .int .i64 p.2.2] w') (by kernel_rfl) B0_1.drew (fun hHeld => ?_)
  refine take_at (i := 0) (v := ?v1) rfl (by kernel_rfl) (by kernel_rfl) (by kernel_rfl) (fun _ _ _ h => h) (Or.inl ⟨by rfl, ?y1⟩) hHeld ?t1
  case y1 => (intro wx hSw; go_simp <;> with_reducible rfl)
  simp only [Act.put, List.setIfInBounds_toArray, List.set_cons_zero, List.set_cons_succ]
  refine take_at (i := 1) (v := ?v2) rfl (by kernel_rfl) (by kernel_rfl) (by kernel_rfl) (fun _ _ _ h => h) (Or.inl ⟨by rfl, ?y2⟩) hHeld ?t2
  case y2 => (intro wx hSw; have hc0 : wx.cell? ⟨w.heap.size, 0, none⟩ = some (.int .i64 p.1) := hSw.c 0 (of_decide_eq_true rfl); go_simp <;> with_reducible rfl)
  simp only [Act.put, List.setIfInBounds_toArray, List.set_cons_zero, List.set_cons_succ]
  refine take_at (i := 2) (v := ?v3) rfl (by kernel_rfl) (by kernel_rfl) (by kernel_rfl) (fun _ _ _ h => h) (Or.inl ⟨by rfl, ?y3⟩) hHeld ?t3
  case y3 => (intro wx hSw; go_simp <;> with_reducible rfl)
  simp only [Act.put, List.setIfInBounds_toArray, List.set_cons_zero, List.set_cons_succ]
  refine take_at (i := 3) (v := ?v4) rfl (by kernel_rfl) (by kernel_rfl) (by kernel_rfl) (fun _ _ _ h => h) (Or.inl ⟨by rfl, ?y4⟩) hHeld ?t4
  case y4 => (intro wx hSw; have hc1 : wx.cell? ⟨w.heap.size, 1, none⟩ = some (.int .i64 p.2.1) := hSw.c 1 (of_decide_eq_true rfl); go_simp <;> with_reducible rfl)
  simp only [Act.put, List.setIfInBounds_toArray, List.set_cons_zero, List.set_cons_succ]
  refine take_at (i := 4) (v := ?v5) rfl (by kernel_rfl) (by kernel_rfl) (by kernel_rfl) (fun _ _ _ h => h) (Or.inl ⟨by rfl, ?y5⟩) hHeld ?t5
  case y5 => (intro wx hSw; go_simp <;> with_reducible rfl)
  simp only [Act.put, List.setIfInBounds_toArray, List.set_cons_zero, List.set_cons_succ]
  refine take_at (i := 5) (v := ?v6) rfl (by kernel_rfl) (by kernel_rfl) (by kernel_rfl) (fun _ _ _ h => h) (Or.inl ⟨by rfl, ?y6⟩) hHeld ?t6
  case y6 => (intro wx hSw; have hc2 : wx.cell? ⟨w.heap.size, 2, none⟩ = some (.int .i64 p.2.2) := hSw.c 2 (of_decide_eq_true rfl); go_simp <;> with_reducible rfl)
  simp only [Act.put, List.setIfInBounds_toArray, List.set_cons_zero, List.set_cons_succ]
  refine take_at (i := 6) (v := ?v7) rfl (by kernel_rfl) (by kernel_rfl) (by kernel_rfl) (fun _ _ _ h => h) (Or.inl ⟨by rfl, ?y7⟩) hHeld ?t7
  case y7 => (intro wx hSw; go_simp <;> with_reducible rfl)
  simp only [Act.put, List.setIfInBounds_toArray, List.set_cons_zero, List.set_cons_succ]
  refine take_at (i := 7) (v := ?v8) rfl (by kernel_rfl) (by kernel_rfl) (by kernel_rfl) (fun _ _ _ h => h) (Or.inl ⟨by rfl, ?y8⟩) hHeld ?t8
  case y8 => (intro wx hSw; go_simp <;> with_reducible rfl)
  simp only [Act.put, List.setIfInBounds_toArray, List.set_cons_zero, List.set_cons_succ]
  refine take_at (i := 8) (v := ?v9) rfl (by kernel_rfl) (by kernel_rfl) (by kernel_rfl) (fun _ _ _ h => h) (Or.inl ⟨by rfl, ?y9⟩) hHeld ?t9
  case y9 => (intro wx hSw; go_simp <;> with_reducible rfl)
  simp only [Act.put, List.setIfInBounds_toArray, List.set_cons_zero, List.set_cons_succ]
  refine wpAnyH_done (by kernel_rfl) ?_ _
  clear hHeld
  have y2_G0 : 0 < w1.heap.size := G0_1.lies
  have y2_G1 : 1 < w1.heap.size := G1_1.lies
  have y2_B0 : w.heap.size < w1.heap.size := B0_1.lies
  have y2_low : w.heap.size ≤ w1.heap.size := K1.size
  go_wp2
  go_ret
  exact ⟨rfl, (Below.drew (bel_al K1 _))⟩
set_option maxRecDepth 100000 in
set_option maxHeartbeats 4000000 in
theorem FieldPole_is (p : V3) (t : Int) (w : World) (hG0 : Arr 0 (row 54 at0) w) (hG1 : Arr 1 (row 10 yr0) w) (c1 : ¬ p.2.2 > 9100000000000) (c2 : ¬ p.2.2 < (-9100000000000)) (c3 : ¬ p.2.2 > (-7013000000000)) (kd : ¬ t < 0) (ke : ¬ t > 157766400000) (kf : ¬ p.1 > 34359738368) (kg : ¬ p.1 < (-34359738368)) (kh : ¬ p.2.1 > 34359738368) (ki : p.2.1 < (-34359738368)) :
    Calls Tryd.prog 7 #[.agg #[.int .i64 p.1, .int .i64 p.2.1, .int .i64 p.2.2], .int .i64 t] w fun e w' => e = .returned (.bool true) ∧ Below w.heap.size w w' := by
  have l_0 := hG0.lies
  have l_1 := hG1.lies
  go_enter Tryd.func7, Tryd.ntmps7
  have y1_G0 : 0 < w.heap.size := hG0.lies
  have y1_G1 : 1 < w.heap.size := hG1.lies
  have y1_low : w.heap.size ≤ w.heap.size := (Below.refl w.heap.size w).size
  go_wp2_with fail
  refine (awake_any  _ (hG0.alloc _) (hG1.alloc _)).mono ?_
  rintro e w1 ⟨rfl, k1⟩
  have K1 : Below w.heap.size w w1 := bel_then (bel_al (Below.refl w.heap.size w) _) k1
  have G0_1 : Arr 0 (row 54 at0) w1 := (hG0.alloc _).below k1
  have G1_1 : Arr 1 (row 10 yr0) w1 := (hG1.alloc _).below k1
  have B0_1 : Arr w.heap.size [.int .i64 p.1, .int .i64 p.2.1, .int .i64 p.2.2] w1 := (Arr_at _ _ [.int .i64 p.1, .int .i64 p.2.1, .int .i64 p.2.2] _ (by simp)).below k1
  have z1 := B0_1.lies
  clear hG0 hG1 k1
  go_wp2_with fail
  refine wp_region_held_drew (S := fun w' => Arr w.heap.size [.int .i64 p.1, .int .i64 p.2.1, .int .i64 p.2.2] w') (by kernel_rfl) B0_1.drew (fun hHeld => ?_)
  refine take_at (i := 0) (v := ?v1) rfl (by kernel_rfl) (by kernel_rfl) (by kernel_rfl) (fun _ _ _ h => h) (Or.inl ⟨by rfl, ?y1⟩) hHeld ?t1
  case y1 => (intro wx hSw; go_simp <;> with_reducible rfl)
  simp only [Act.put, List.setIfInBounds_toArray, List.set_cons_zero, List.set_cons_succ]
  refine take_at (i := 1) (v := ?v2) rfl (by kernel_rfl) (by kernel_rfl) (by kernel_rfl) (fun _ _ _ h => h) (Or.inl ⟨by rfl, ?y2⟩) hHeld ?t2
  case y2 => (intro wx hSw; have hc0 : wx.cell? ⟨w.heap.size, 0, none⟩ = some (.int .i64 p.1) := hSw.c 0 (of_decide_eq_true rfl); go_simp <;> with_reducible rfl)
  simp only [Act.put, List.setIfInBounds_toArray, List.set_cons_zero, List.set_cons_succ]
  refine take_at (i := 2) (v := ?v3) rfl (by kernel_rfl) (by kernel_rfl) (by kernel_rfl) (fun _ _ _ h => h) (Or.inl ⟨by rfl, ?y3⟩) hHeld ?t3
  case y3 => (intro wx hSw; go_simp <;> with_reducible rfl)
  simp only [Act.put, List.setIfInBounds_toArray, List.set_cons_zero, List.set_cons_succ]
  refine take_at (i := 3) (v := ?v4) rfl (by kernel_rfl) (by kernel_rfl) (by kernel_rfl) (fun _ _ _ h => h) (Or.inl ⟨by rfl, ?y4⟩) hHeld ?t4
  case y4 => (intro wx hSw; have hc1 : wx.cell? ⟨w.heap.size, 1, none⟩ = some (.int .i64 p.2.1) := hSw.c 1 (of_decide_eq_true rfl); go_simp <;> with_reducible rfl)
  simp only [Act.put, List.setIfInBounds_toArray, List.set_cons_zero, List.set_cons_succ]
  refine take_at (i := 4) (v := ?v5) rfl (by kernel_rfl) (by kernel_rfl) (by kernel_rfl) (fun _ _ _ h => h) (Or.inl ⟨by rfl, ?y5⟩) hHeld ?t5
  case y5 => (intro wx hSw; go_simp <;> with_reducible rfl)
  simp only [Act.put, List.setIfInBounds_toArray, List.set_cons_zero, List.set_cons_succ]
  refine take_at (i := 5) (v := ?v6) rfl (by kernel_rfl) (by kernel_rfl) (by kernel_rfl) (fun _ _ _ h => h) (Or.inl ⟨by rfl, ?y6⟩) hHeld ?t6
  case y6 => (intro wx hSw; have hc2 : wx.cell? ⟨w.heap.size, 2, none⟩ = some (.int .i64 p.2.2) := hSw.c 2 (of_decide_eq_true rfl); go_simp <;> with_reducible rfl)
  simp only [Act.put, List.setIfInBounds_toArray, List.set_cons_zero, List.set_cons_succ]
  refine take_at (i := 6) (v := ?v7) rfl (by kernel_rfl) (by kernel_rfl) (by kernel_rfl) (fun _ _ _ h => h) (Or.inl ⟨by rfl, ?y7⟩) hHeld ?t7
  case y7 => (intro wx hSw; go_simp <;> with_reducible rfl)
  simp only [Act.put, List.setIfInBounds_toArray, List.set_cons_zero, List.set_cons_succ]
  refine take_at (i := 7) (v := ?v8) rfl (by kernel_rfl) (by kernel_rfl) (by kernel_rfl) (fun _ _ _ h => h) (Or.inl ⟨by rfl, ?y8⟩) hHeld ?t8
  case y8 => (intro wx hSw; go_simp <;> with_reducible rfl)
  simp only [Act.put, List.setIfInBounds_toArray, List.set_cons_zero, List.set_cons_succ]
  refine take_at (i := 8) (v := ?v9) rfl (by kernel_rfl) (by kernel_rfl) (by kernel_rfl) (fun _ _ _ h => h) (Or.inl ⟨by rfl, ?y9⟩) hHeld ?t9
  case y9 => (intro wx hSw; go_simp <;> with_reducible rfl)
  simp only [Act.put, List.setIfInBounds_toArray, List.set_cons_zero, List.set_cons_succ]
  refine wpAnyH_done (by kernel_rfl) ?_ _
  clear hHeld
  have y2_G0 : 0 < w1.heap.size := G0_1.lies
  have y2_G1 : 1 < w1.heap.size := G1_1.lies
  have y2_B0 : w.heap.size < w1.heap.size := B0_1.lies
  have y2_low : w.heap.size ≤ w1.heap.size := K1.size
  go_wp2
  go_ret
  exact ⟨rfl, (Below.drew (bel_al K1 _))⟩
set_option maxRecDepth 100000 in
set_option maxHeartbeats 4000000 in
theorem FieldPole_ins (p : V3) (t : Int) (w : World) (hG0 : Arr 0 (row 54 at0) w) (hG1 : Arr 1 (row 10 yr0) w) (c1 : ¬ p.2.2 > 9100000000000) (c2 : ¬ p.2.2 < (-9100000000000)) (c3 : ¬ p.2.2 > (-7013000000000)) (kd : ¬ t < 0) (ke : ¬ t > 157766400000) (kf : ¬ p.1 > 34359738368) (kg : ¬ p.1 < (-34359738368)) (kh : ¬ p.2.1 > 34359738368) (ki : ¬ p.2.1 < (-34359738368)) (a0 a1 a2 b0 b1 b2 n : Int) (hA : earS false (0, 0, p.2.2) t = ((a0, a1, a2), false)) (hB : earS false p t = ((b0, b1, b2), false)) (u0 : a0 - b0 ≤ 8796093022208) (v0 : -8796093022208 ≤ a0 - b0) (u1 : a1 - b1 ≤ 8796093022208) (v1 : -8796093022208 ≤ a1 - b1) (u2 : a2 - b2 ≤ 8796093022208) (v2 : -8796093022208 ≤ a2 - b2) (hn : vNormS false (a0, a1, a2) = (n, false)) (n0 : n > 10995116277760) :
    Calls Tryd.prog 7 #[.agg #[.int .i64 p.1, .int .i64 p.2.1, .int .i64 p.2.2], .int .i64 t] w fun e w' => e = .returned (.bool true) ∧ Below w.heap.size w w' := by
  have l_0 := hG0.lies
  have l_1 := hG1.lies
  go_enter Tryd.func7, Tryd.ntmps7
  have y1_G0 : 0 < w.heap.size := hG0.lies
  have y1_G1 : 1 < w.heap.size := hG1.lies
  have y1_low : w.heap.size ≤ w.heap.size := (Below.refl w.heap.size w).size
  go_wp2_with fail
  refine (awake_any  _ (hG0.alloc _) (hG1.alloc _)).mono ?_
  rintro e w1 ⟨rfl, k1⟩
  have K1 : Below w.heap.size w w1 := bel_then (bel_al (Below.refl w.heap.size w) _) k1
  have G0_1 : Arr 0 (row 54 at0) w1 := (hG0.alloc _).below k1
  have G1_1 : Arr 1 (row 10 yr0) w1 := (hG1.alloc _).below k1
  have B0_1 : Arr w.heap.size [.int .i64 p.1, .int .i64 p.2.1, .int .i64 p.2.2] w1 := (Arr_at _ _ [.int .i64 p.1, .int .i64 p.2.1, .int .i64 p.2.2] _ (by simp)).below k1
  have z1 := B0_1.lies
  clear hG0 hG1 k1
  go_wp2_with fail
  refine wp_region_held_drew (S := fun w' => Arr w.heap.size [.int .i64 p.1, .int .i64 p.2.1, .int .i64 p.2.2] w') (by kernel_rfl) B0_1.drew (fun hHeld => ?_)
  refine take_at (i := 0) (v := ?v1) rfl (by kernel_rfl) (by kernel_rfl) (by kernel_rfl) (fun _ _ _ h => h) (Or.inl ⟨by rfl, ?y1⟩) hHeld ?t1
  case y1 => (intro wx hSw; go_simp <;> with_reducible rfl)
  simp only [Act.put, List.setIfInBounds_toArray, List.set_cons_zero, List.set_cons_succ]
  refine take_at (i := 1) (v := ?v2) rfl (by kernel_rfl) (by kernel_rfl) (by kernel_rfl) (fun _ _ _ h => h) (Or.inl ⟨by rfl, ?y2⟩) hHeld ?t2
  case y2 => (intro wx hSw; have hc0 : wx.cell? ⟨w.heap.size, 0, none⟩ = some (.int .i64 p.1) := hSw.c 0 (of_decide_eq_true rfl); go_simp <;> with_reducible rfl)
  simp only [Act.put, List.setIfInBounds_toArray, List.set_cons_zero, List.set_cons_succ]
  refine take_at (i := 2) (v := ?v3) rfl (by kernel_rfl) (by kernel_rfl) (by kernel_rfl) (fun _ _ _ h => h) (Or.inl ⟨by rfl, ?y3⟩) hHeld ?t3
  case y3 => (intro wx hSw; go_simp <;> with_reducible rfl)
  simp only [Act.put, List.setIfInBounds_toArray, List.set_cons_zero, List.set_cons_succ]
  refine take_at (i := 3) (v := ?v4) rfl (by kernel_rfl) (by kernel_rfl) (by kernel_rfl) (fun _ _ _ h => h) (Or.inl ⟨by rfl, ?y4⟩) hHeld ?t4
  case y4 => (intro wx hSw; have hc1 : wx.cell? ⟨w.heap.size, 1, none⟩ = some (.int .i64 p.2.1) := hSw.c 1 (of_decide_eq_true rfl); go_simp <;> with_reducible rfl)
  simp only [Act.put, List.setIfInBounds_toArray, List.set_cons_zero, List.set_cons_succ]
  refine take_at (i := 4) (v := ?v5) rfl (by kernel_rfl) (by kernel_rfl) (by kernel_rfl) (fun _ _ _ h => h) (Or.inl ⟨by rfl, ?y5⟩) hHeld ?t5
  case y5 => (intro wx hSw; go_simp <;> with_reducible rfl)
  simp only [Act.put, List.setIfInBounds_toArray, List.set_cons_zero, List.set_cons_succ]
  refine take_at (i := 5) (v := ?v6) rfl (by kernel_rfl) (by kernel_rfl) (by kernel_rfl) (fun _ _ _ h => h) (Or.inl ⟨by rfl, ?y6⟩) hHeld ?t6
  case y6 => (intro wx hSw; have hc2 : wx.cell? ⟨w.heap.size, 2, none⟩ = some (.int .i64 p.2.2) := hSw.c 2 (of_decide_eq_true rfl); go_simp <;> with_reducible rfl)
  simp only [Act.put, List.setIfInBounds_toArray, List.set_cons_zero, List.set_cons_succ]
  refine take_at (i := 6) (v := ?v7) rfl (by kernel_rfl) (by kernel_rfl) (by kernel_rfl) (fun _ _ _ h => h) (Or.inl ⟨by rfl, ?y7⟩) hHeld ?t7
  case y7 => (intro wx hSw; go_simp <;> with_reducible rfl)
  simp only [Act.put, List.setIfInBounds_toArray, List.set_cons_zero, List.set_cons_succ]
  refine take_at (i := 7) (v := ?v8) rfl (by kernel_rfl) (by kernel_rfl) (by kernel_rfl) (fun _ _ _ h => h) (Or.inl ⟨by rfl, ?y8⟩) hHeld ?t8
  case y8 => (intro wx hSw; go_simp <;> with_reducible rfl)
  simp only [Act.put, List.setIfInBounds_toArray, List.set_cons_zero, List.set_cons_succ]
  refine take_at (i := 8) (v := ?v9) rfl (by kernel_rfl) (by kernel_rfl) (by kernel_rfl) (fun _ _ _ h => h) (Or.inl ⟨by rfl, ?y9⟩) hHeld ?t9
  case y9 => (intro wx hSw; go_simp <;> with_reducible rfl)
  simp only [Act.put, List.setIfInBounds_toArray, List.set_cons_zero, List.set_cons_succ]
  refine wpAnyH_done (by kernel_rfl) ?_ _
  clear hHeld
  have y2_G0 : 0 < w1.heap.size := G0_1.lies
  have y2_G1 : 1 < w1.heap.size := G1_1.lies
  have y2_B0 : w.heap.size < w1.heap.size := B0_1.lies
  have y2_low : w.heap.size ≤ w1.heap.size := K1.size
  go_wp2_with fail
  refine (earth_any w1.heap.size false (0, 0, p.2.2) t _ (Fl_at _ _ _ _ (by simp)).drew (G0_1.alloc _).drew (G1_1.alloc _).drew (by omega)).mono ?_
  rintro e w2 ⟨rfl, f2, k2⟩
  rw [hA] at f2 ⊢
  dsimp only at f2 ⊢
  have K2 : Below w.heap.size w w2 := k2.on (Below.drew (bel_al K1 _)) (by omega)
  have G0_2 : Arr 0 (row 54 at0) w2 := (G0_1.alloc _).drew.kept k2 (Nat.ne_of_lt y2_G0)
  have G1_2 : Arr 1 (row 10 yr0) w2 := (G1_1.alloc _).drew.kept k2 (Nat.ne_of_lt y2_G1)
  have B0_2 : Arr w.heap.size [.int .i64 p.1, .int .i64 p.2.1, .int .i64 p.2.2] w2 := (B0_1.alloc _).drew.kept k2 (Nat.ne_of_lt y2_B0)
  have z2 := f2.lies
  clear K1 G0_1 G1_1 B0_1 k2
  go_wp2_with fail
  refine (earth_any w1.heap.size false p t _ f2 G0_2 G1_2 (by omega)).mono ?_
  rintro e w3 ⟨rfl, f3, k3⟩
  rw [hB] at f3 ⊢
  dsimp only at f3 ⊢
  have K3 : Below w.heap.size w w3 := k3.on K2 (by omega)
  have G0_3 : Arr 0 (row 54 at0) w3 := G0_2.kept k3 (Nat.ne_of_lt y2_G0)
  have G1_3 : Arr 1 (row 10 yr0) w3 := G1_2.kept k3 (Nat.ne_of_lt y2_G1)
  have B0_3 : Arr w.heap.size [.int .i64 p.1, .int .i64 p.2.1, .int .i64 p.2.2] w3 := B0_2.kept k3 (Nat.ne_of_lt y2_B0)
  have z3 := f3.lies
  clear K2 G0_2 G1_2 B0_2 f2 k3
  have y3_G0 : 0 < w3.heap.size := G0_3.lies
  have y3_G1 : 1 < w3.heap.size := G1_3.lies
  have y3_B0 : w.heap.size < w3.heap.size := B0_3.lies
  have y3_B1 : w1.heap.size < w3.heap.size := f3.lies
  have y3_low : w.heap.size ≤ w3.heap.size := K3.size
  have y4_G0 : 0 < w3.heap.size + 1 := (Nat.lt_succ_of_lt G0_3.lies)
  have y4_G1 : 1 < w3.heap.size + 1 := (Nat.lt_succ_of_lt G1_3.lies)
  have y4_B0 : w.heap.size < w3.heap.size + 1 := (Nat.lt_succ_of_lt B0_3.lies)
  have y4_B1 : w1.heap.size < w3.heap.size + 1 := (Nat.lt_succ_of_lt f3.lies)
  have y4_B2 : w3.heap.size < w3.heap.size + 1 := (Nat.lt_succ_self _)
  have y4_low : w.heap.size ≤ w3.heap.size + 1 := (Nat.le_succ_of_le K3.size)
  go_wp2_with fail
  refine wp_loop_rounds 4 ?_
  rw [rounds_succ]
  go_wp2_with fail
  refine wp_region_held_drew (S := fun w' => Arr w3.heap.size [.int .i64 a0, .int .i64 a1, .int .i64 a2] w' ∧ Arr (w3.heap.size + 1) [.int .i64 b0, .int .i64 b1, .int .i64 b2] w') (by kernel_rfl) ⟨((Arr_at _ _ [.int .i64 a0, .int .i64 a1, .int .i64 a2] _ (by simp)).alloc _).drew, (Arr_at _ _ [.int .i64 b0, .int .i64 b1, .int .i64 b2] _ (by simp)).drew⟩ (fun hHeld => ?_)
  refine take_at (i := 0) (v := ?v34) rfl (by kernel_rfl) (by kernel_rfl) (by kernel_rfl) (fun _ _ _ h => h) (Or.inl ⟨by rfl, ?y34⟩) hHeld ?t34
  case y34 => (intro wx hSw; go_simp <;> with_reducible rfl)
  simp only [Act.put, List.setIfInBounds_toArray, List.set_cons_zero, List.set_cons_succ]
  refine take_at (i := 1) (v := ?v35) rfl (by kernel_rfl) (by kernel_rfl) (by kernel_rfl) (fun _ _ _ h => h) (Or.inl ⟨by rfl, ?y35⟩) hHeld ?t35
  case y35 => (intro wx hSw; go_simp <;> with_reducible rfl)
  simp only [Act.put, List.setIfInBounds_toArray, List.set_cons_zero, List.set_cons_succ]
  refine take_at (i := 2) (v := ?v36) rfl (by kernel_rfl) (by kernel_rfl) (by kernel_rfl) (fun _ _ _ h => h) (Or.inl ⟨by rfl, ?y36⟩) hHeld ?t36
  case y36 => (intro wx hSw; have hc0 : wx.cell? ⟨w3.heap.size, 0, none⟩ = some (.int .i64 a0) := hSw.1.c 0 (of_decide_eq_true rfl); go_simp <;> with_reducible rfl)
  simp only [Act.put, List.setIfInBounds_toArray, List.set_cons_zero, List.set_cons_succ]
  refine take_at (i := 3) (v := ?v37) rfl (by kernel_rfl) (by kernel_rfl) (by kernel_rfl) (fun _ _ _ h => h) (Or.inl ⟨by rfl, ?y37⟩) hHeld ?t37
  case y37 => (intro wx hSw; go_simp <;> with_reducible rfl)
  simp only [Act.put, List.setIfInBounds_toArray, List.set_cons_zero, List.set_cons_succ]
  refine take_at (i := 4) (v := ?v38) rfl (by kernel_rfl) (by kernel_rfl) (by kernel_rfl) (fun _ _ _ h => h) (Or.inl ⟨by rfl, ?y38⟩) hHeld ?t38
  case y38 => (intro wx hSw; go_simp <;> with_reducible rfl)
  simp only [Act.put, List.setIfInBounds_toArray, List.set_cons_zero, List.set_cons_succ]
  refine take_at (i := 5) (v := ?v39) rfl (by kernel_rfl) (by kernel_rfl) (by kernel_rfl) (fun _ _ _ h => h) (Or.inl ⟨by rfl, ?y39⟩) hHeld ?t39
  case y39 => (intro wx hSw; have hc0 : wx.cell? ⟨w3.heap.size + 1, 0, none⟩ = some (.int .i64 b0) := hSw.2.c 0 (of_decide_eq_true rfl); go_simp <;> with_reducible rfl)
  simp only [Act.put, List.setIfInBounds_toArray, List.set_cons_zero, List.set_cons_succ]
  refine take_at (i := 6) (v := ?v40) rfl (by kernel_rfl) (by kernel_rfl) (by kernel_rfl) (fun _ _ _ h => h) (Or.inl ⟨by rfl, ?y40⟩) hHeld ?t40
  case y40 => (intro wx hSw; go_simp <;> with_reducible rfl)
  simp only [Act.put, List.setIfInBounds_toArray, List.set_cons_zero, List.set_cons_succ]
  rw [IntWalk.i64_in (a0 - b0) (by omega)]
  refine take_at (i := 7) (v := ?v41) rfl (by kernel_rfl) (by kernel_rfl) (by kernel_rfl) (fun _ _ _ h => h) (Or.inl ⟨by rfl, ?y41⟩) hHeld ?t41
  case y41 => (intro wx hSw; go_simp <;> with_reducible rfl)
  simp only [Act.put, List.setIfInBounds_toArray, List.set_cons_zero, List.set_cons_succ]
  refine wpAnyH_done (by kernel_rfl) ?_ _
  clear hHeld
  go_wp2_with fail
  rw [rounds_succ]
  go_wp2_with fail
  refine wp_region_held_drew (S := fun w' => Arr w3.heap.size [.int .i64 a0, .int .i64 a1, .int .i64 a2] w' ∧ Arr (w3.heap.size + 1) [.int .i64 b0, .int .i64 b1, .int .i64 b2] w') (by kernel_rfl) ⟨((Arr_at _ _ [.int .i64 a0, .int .i64 a1, .int .i64 a2] _ (by simp)).alloc _).drew.drew, (Arr_at _ _ [.int .i64 b0, .int .i64 b1, .int .i64 b2] _ (by simp)).drew.drew⟩ (fun hHeld => ?_)
  refine take_at (i := 0) (v := ?v42) rfl (by kernel_rfl) (by kernel_rfl) (by kernel_rfl) (fun _ _ _ h => h) (Or.inl ⟨by rfl, ?y42⟩) hHeld ?t42
  case y42 => (intro wx hSw; go_simp <;> with_reducible rfl)
  simp only [Act.put, List.setIfInBounds_toArray, List.set_cons_zero, List.set_cons_succ]
  refine take_at (i := 1) (v := ?v43) rfl (by kernel_rfl) (by kernel_rfl) (by kernel_rfl) (fun _ _ _ h => h) (Or.inl ⟨by rfl, ?y43⟩) hHeld ?t43
  case y43 => (intro wx hSw; go_simp <;> with_reducible rfl)
  simp only [Act.put, List.setIfInBounds_toArray, List.set_cons_zero, List.set_cons_succ]
  refine take_at (i := 2) (v := ?v44) rfl (by kernel_rfl) (by kernel_rfl) (by kernel_rfl) (fun _ _ _ h => h) (Or.inl ⟨by rfl, ?y44⟩) hHeld ?t44
  case y44 => (intro wx hSw; have hc1 : wx.cell? ⟨w3.heap.size, 1, none⟩ = some (.int .i64 a1) := hSw.1.c 1 (of_decide_eq_true rfl); go_simp <;> with_reducible rfl)
  simp only [Act.put, List.setIfInBounds_toArray, List.set_cons_zero, List.set_cons_succ]
  refine take_at (i := 3) (v := ?v45) rfl (by kernel_rfl) (by kernel_rfl) (by kernel_rfl) (fun _ _ _ h => h) (Or.inl ⟨by rfl, ?y45⟩) hHeld ?t45
  case y45 => (intro wx hSw; go_simp <;> with_reducible rfl)
  simp only [Act.put, List.setIfInBounds_toArray, List.set_cons_zero, List.set_cons_succ]
  refine take_at (i := 4) (v := ?v46) rfl (by kernel_rfl) (by kernel_rfl) (by kernel_rfl) (fun _ _ _ h => h) (Or.inl ⟨by rfl, ?y46⟩) hHeld ?t46
  case y46 => (intro wx hSw; go_simp <;> with_reducible rfl)
  simp only [Act.put, List.setIfInBounds_toArray, List.set_cons_zero, List.set_cons_succ]
  refine take_at (i := 5) (v := ?v47) rfl (by kernel_rfl) (by kernel_rfl) (by kernel_rfl) (fun _ _ _ h => h) (Or.inl ⟨by rfl, ?y47⟩) hHeld ?t47
  case y47 => (intro wx hSw; have hc1 : wx.cell? ⟨w3.heap.size + 1, 1, none⟩ = some (.int .i64 b1) := hSw.2.c 1 (of_decide_eq_true rfl); go_simp <;> with_reducible rfl)
  simp only [Act.put, List.setIfInBounds_toArray, List.set_cons_zero, List.set_cons_succ]
  refine take_at (i := 6) (v := ?v48) rfl (by kernel_rfl) (by kernel_rfl) (by kernel_rfl) (fun _ _ _ h => h) (Or.inl ⟨by rfl, ?y48⟩) hHeld ?t48
  case y48 => (intro wx hSw; go_simp <;> with_reducible rfl)
  simp only [Act.put, List.setIfInBounds_toArray, List.set_cons_zero, List.set_cons_succ]
  rw [IntWalk.i64_in (a1 - b1) (by omega)]
  refine take_at (i := 7) (v := ?v49) rfl (by kernel_rfl) (by kernel_rfl) (by kernel_rfl) (fun _ _ _ h => h) (Or.inl ⟨by rfl, ?y49⟩) hHeld ?t49
  case y49 => (intro wx hSw; go_simp <;> with_reducible rfl)
  simp only [Act.put, List.setIfInBounds_toArray, List.set_cons_zero, List.set_cons_succ]
  refine wpAnyH_done (by kernel_rfl) ?_ _
  clear hHeld
  go_wp2_with fail
  rw [rounds_succ]
  go_wp2_with fail
  refine wp_region_held_drew (S := fun w' => Arr w3.heap.size [.int .i64 a0, .int .i64 a1, .int .i64 a2] w' ∧ Arr (w3.heap.size + 1) [.int .i64 b0, .int .i64 b1, .int .i64 b2] w') (by kernel_rfl) ⟨((Arr_at _ _ [.int .i64 a0, .int .i64 a1, .int .i64 a2] _ (by simp)).alloc _).drew.drew.drew, (Arr_at _ _ [.int .i64 b0, .int .i64 b1, .int .i64 b2] _ (by simp)).drew.drew.drew⟩ (fun hHeld => ?_)
  refine take_at (i := 0) (v := ?v50) rfl (by kernel_rfl) (by kernel_rfl) (by kernel_rfl) (fun _ _ _ h => h) (Or.inl ⟨by rfl, ?y50⟩) hHeld ?t50
  case y50 => (intro wx hSw; go_simp <;> with_reducible rfl)
  simp only [Act.put, List.setIfInBounds_toArray, List.set_cons_zero, List.set_cons_succ]
  refine take_at (i := 1) (v := ?v51) rfl (by kernel_rfl) (by kernel_rfl) (by kernel_rfl) (fun _ _ _ h => h) (Or.inl ⟨by rfl, ?y51⟩) hHeld ?t51
  case y51 => (intro wx hSw; go_simp <;> with_reducible rfl)
  simp only [Act.put, List.setIfInBounds_toArray, List.set_cons_zero, List.set_cons_succ]
  refine take_at (i := 2) (v := ?v52) rfl (by kernel_rfl) (by kernel_rfl) (by kernel_rfl) (fun _ _ _ h => h) (Or.inl ⟨by rfl, ?y52⟩) hHeld ?t52
  case y52 => (intro wx hSw; have hc2 : wx.cell? ⟨w3.heap.size, 2, none⟩ = some (.int .i64 a2) := hSw.1.c 2 (of_decide_eq_true rfl); go_simp <;> with_reducible rfl)
  simp only [Act.put, List.setIfInBounds_toArray, List.set_cons_zero, List.set_cons_succ]
  refine take_at (i := 3) (v := ?v53) rfl (by kernel_rfl) (by kernel_rfl) (by kernel_rfl) (fun _ _ _ h => h) (Or.inl ⟨by rfl, ?y53⟩) hHeld ?t53
  case y53 => (intro wx hSw; go_simp <;> with_reducible rfl)
  simp only [Act.put, List.setIfInBounds_toArray, List.set_cons_zero, List.set_cons_succ]
  refine take_at (i := 4) (v := ?v54) rfl (by kernel_rfl) (by kernel_rfl) (by kernel_rfl) (fun _ _ _ h => h) (Or.inl ⟨by rfl, ?y54⟩) hHeld ?t54
  case y54 => (intro wx hSw; go_simp <;> with_reducible rfl)
  simp only [Act.put, List.setIfInBounds_toArray, List.set_cons_zero, List.set_cons_succ]
  refine take_at (i := 5) (v := ?v55) rfl (by kernel_rfl) (by kernel_rfl) (by kernel_rfl) (fun _ _ _ h => h) (Or.inl ⟨by rfl, ?y55⟩) hHeld ?t55
  case y55 => (intro wx hSw; have hc2 : wx.cell? ⟨w3.heap.size + 1, 2, none⟩ = some (.int .i64 b2) := hSw.2.c 2 (of_decide_eq_true rfl); go_simp <;> with_reducible rfl)
  simp only [Act.put, List.setIfInBounds_toArray, List.set_cons_zero, List.set_cons_succ]
  refine take_at (i := 6) (v := ?v56) rfl (by kernel_rfl) (by kernel_rfl) (by kernel_rfl) (fun _ _ _ h => h) (Or.inl ⟨by rfl, ?y56⟩) hHeld ?t56
  case y56 => (intro wx hSw; go_simp <;> with_reducible rfl)
  simp only [Act.put, List.setIfInBounds_toArray, List.set_cons_zero, List.set_cons_succ]
  rw [IntWalk.i64_in (a2 - b2) (by omega)]
  refine take_at (i := 7) (v := ?v57) rfl (by kernel_rfl) (by kernel_rfl) (by kernel_rfl) (fun _ _ _ h => h) (Or.inl ⟨by rfl, ?y57⟩) hHeld ?t57
  case y57 => (intro wx hSw; go_simp <;> with_reducible rfl)
  simp only [Act.put, List.setIfInBounds_toArray, List.set_cons_zero, List.set_cons_succ]
  refine wpAnyH_done (by kernel_rfl) ?_ _
  clear hHeld
  go_wp2_with fail
  rw [rounds_succ]
  have c12_B1 := f3.cell
  have l12_B1 := f3.lies
  go_wp2_with fail
  refine (vNorm_any w1.heap.size false (a0, a1, a2) _ ((f3.alloc _).alloc _).drew.drew.drew).mono ?_
  rintro e w4 ⟨rfl, f4, k4⟩
  rw [hn] at f4 ⊢
  dsimp only at f4 ⊢
  have K4 : Below w.heap.size w w4 := k4.on (Below.drew (Below.drew (Below.drew (bel_al (bel_al K3 _) _)))) (by omega)
  have G0_4 : Arr 0 (row 54 at0) w4 := ((G0_3.alloc _).alloc _).drew.drew.drew.kept k4 (Nat.ne_of_lt y2_G0)
  have G1_4 : Arr 1 (row 10 yr0) w4 := ((G1_3.alloc _).alloc _).drew.drew.drew.kept k4 (Nat.ne_of_lt y2_G1)
  have B0_4 : Arr w.heap.size [.int .i64 p.1, .int .i64 p.2.1, .int .i64 p.2.2] w4 := ((B0_3.alloc _).alloc _).drew.drew.drew.kept k4 (Nat.ne_of_lt y2_B0)
  have B2_4 : Arr w3.heap.size [.int .i64 a0, .int .i64 a1, .int .i64 a2] w4 := ((Arr_at _ _ [.int .i64 a0, .int .i64 a1, .int .i64 a2] _ (by simp)).alloc _).drew.drew.drew.kept k4 (Nat.ne_of_gt y3_B1)
  have B3_4 : Arr (w3.heap.size + 1) [.int .i64 b0, .int .i64 b1, .int .i64 b2] w4 := (Arr_at _ _ [.int .i64 b0, .int .i64 b1, .int .i64 b2] _ (by simp)).drew.drew.drew.kept k4 (Nat.ne_of_gt y4_B1)
  have z4 := B3_4.lies
  clear c12_B1 l12_B1 K3 G0_3 G1_3 B0_3 f3 k4
  go_wp2
  go_ret
  exact ⟨rfl, K4⟩
end Go.Proofs.YtmhcfkcpoecokaaDoor
