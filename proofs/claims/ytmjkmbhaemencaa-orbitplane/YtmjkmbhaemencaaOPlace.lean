/-
  The walks of orbit.Place, for the seat Ytmjkmbhaemencaa. (Made by mkorbit.py.)
-/
import Derived.Test.YtmjkmbhaemencaaORight
import Derived.Test.YtmjkmbhaemencaaOKep
import Derived.Test.YtmjkmbhaemencaaStop
import Derived.Handy
import Derived.Deep.RegionHeld3
namespace Go.Proofs.Ytmjkmbhaemencaa
open Go.RowKit

set_option maxRecDepth 100000 in
set_option maxHeartbeats 2000000 in
theorem oshapeOf_any (b : Nat) (bad : Bool) (o : V7) (w : World) (hw : Fl b bad w) :
    Calls Try.prog 38 #[.pointer (some ⟨b, 0, none⟩), .agg #[.int .i64 o.1, .int .i64 o.2.1, .int .i64 o.2.2.1, .int .i64 o.2.2.2.1, .int .i64 o.2.2.2.2.1, .int .i64 o.2.2.2.2.2.1, .int .i64 o.2.2.2.2.2.2]] w fun e w' => e = .returned (.agg #[.int .i64 ((shapeS bad o).1.1), .int .i64 ((shapeS bad o).1.2.1), .int .i64 ((shapeS bad o).1.2.2)]) ∧ Fl b (shapeS bad o).2 w' ∧ Kept b w w' := by
  have hl := hw.lies
  go_enter Try.func38, Try.ntmps38
  have y1_BF : b < w.heap.size := hw.lies
  have y2_BF : b < w.heap.size + 1 := (Nat.lt_succ_of_lt hw.lies)
  have y2_B0 : w.heap.size < w.heap.size + 1 := (Nat.lt_succ_self _)
  go_wp2_with fail
  refine wp_region_held_drew (S := fun w' => Arr w.heap.size [.int .i64 o.1, .int .i64 o.2.1, .int .i64 o.2.2.1, .int .i64 o.2.2.2.1, .int .i64 o.2.2.2.2.1, .int .i64 o.2.2.2.2.2.1, .int .i64 o.2.2.2.2.2.2] w') (by kernel_rfl) ((Arr_at _ _ [.int .i64 o.1, .int .i64 o.2.1, .int .i64 o.2.2.1, .int .i64 o.2.2.2.1, .int .i64 o.2.2.2.2.1, .int .i64 o.2.2.2.2.2.1, .int .i64 o.2.2.2.2.2.2] _ (by simp)).alloc _).drew (fun hHeld => ?_)
  refine take_at (i := 0) (v := ?v1) rfl (by kernel_rfl) (by kernel_rfl) (by kernel_rfl) (fun _ _ _ h => h) (Or.inl ⟨by rfl, ?y1⟩) hHeld ?t1
  case y1 => (intro wx hSw; go_simp <;> with_reducible rfl)
  simp only [Act.put, List.setIfInBounds_toArray, List.set_cons_zero, List.set_cons_succ]
  refine take_at (i := 1) (v := ?v2) rfl (by kernel_rfl) (by kernel_rfl) (by kernel_rfl) (fun _ _ _ h => h) (Or.inl ⟨by rfl, ?y2⟩) hHeld ?t2
  case y2 => (intro wx hSw; go_simp <;> with_reducible rfl)
  simp only [Act.put, List.setIfInBounds_toArray, List.set_cons_zero, List.set_cons_succ]
  refine take_at (i := 2) (v := ?v3) rfl (by kernel_rfl) (by kernel_rfl) (by kernel_rfl) (fun _ _ _ h => h) (Or.inl ⟨by rfl, ?y3⟩) hHeld ?t3
  case y3 => (intro wx hSw; go_simp <;> with_reducible rfl)
  simp only [Act.put, List.setIfInBounds_toArray, List.set_cons_zero, List.set_cons_succ]
  refine take_at (i := 3) (v := ?v4) rfl (by kernel_rfl) (by kernel_rfl) (by kernel_rfl) (fun _ _ _ h => h) (Or.inl ⟨by rfl, ?y4⟩) hHeld ?t4
  case y4 => (intro wx hSw; go_simp <;> with_reducible rfl)
  simp only [Act.put, List.setIfInBounds_toArray, List.set_cons_zero, List.set_cons_succ]
  refine take_at (i := 4) (v := ?v5) rfl (by kernel_rfl) (by kernel_rfl) (by kernel_rfl) (fun _ _ _ h => h) (Or.inl ⟨by rfl, ?y5⟩) hHeld ?t5
  case y5 => (intro wx hSw; have hc1 : wx.cell? ⟨w.heap.size, 1, none⟩ = some (.int .i64 o.2.1) := hSw.c 1 (of_decide_eq_true rfl); go_simp <;> with_reducible rfl)
  simp only [Act.put, List.setIfInBounds_toArray, List.set_cons_zero, List.set_cons_succ]
  refine take_at (i := 5) (v := ?v6) rfl (by kernel_rfl) (by kernel_rfl) (by kernel_rfl) (fun _ _ _ h => h) (Or.inl ⟨by rfl, ?y6⟩) hHeld ?t6
  case y6 => (intro wx hSw; go_simp <;> with_reducible rfl)
  simp only [Act.put, List.setIfInBounds_toArray, List.set_cons_zero, List.set_cons_succ]
  refine take_at (i := 6) (v := ?v7) rfl (by kernel_rfl) (by kernel_rfl) (by kernel_rfl) (fun _ _ _ h => h) (Or.inl ⟨by rfl, ?y7⟩) hHeld ?t7
  case y7 => (intro wx hSw; have hc1 : wx.cell? ⟨w.heap.size, 1, none⟩ = some (.int .i64 o.2.1) := hSw.c 1 (of_decide_eq_true rfl); go_simp <;> with_reducible rfl)
  simp only [Act.put, List.setIfInBounds_toArray, List.set_cons_zero, List.set_cons_succ]
  refine take_at (i := 10) (v := ?v8) rfl (by kernel_rfl) (by kernel_rfl) (by kernel_rfl) (fun _ _ _ h => h) (Or.inl ⟨by rfl, ?y8⟩) hHeld ?t8
  case y8 => (intro wx hSw; go_simp <;> with_reducible rfl)
  simp only [Act.put, List.setIfInBounds_toArray, List.set_cons_zero, List.set_cons_succ]
  refine take_at (i := 11) (v := ?v9) rfl (by kernel_rfl) (by kernel_rfl) (by kernel_rfl) (fun _ _ _ h => h) (Or.inl ⟨by rfl, ?y9⟩) hHeld ?t9
  case y9 => (intro wx hSw; go_simp <;> with_reducible rfl)
  simp only [Act.put, List.setIfInBounds_toArray, List.set_cons_zero, List.set_cons_succ]
  refine take_at (i := 12) (v := ?v10) rfl (by kernel_rfl) (by kernel_rfl) (by kernel_rfl) (fun _ _ _ h => h) (Or.inl ⟨by rfl, ?y10⟩) hHeld ?t10
  case y10 => (intro wx hSw; have hc2 : wx.cell? ⟨w.heap.size, 2, none⟩ = some (.int .i64 o.2.2.1) := hSw.c 2 (of_decide_eq_true rfl); go_simp <;> with_reducible rfl)
  simp only [Act.put, List.setIfInBounds_toArray, List.set_cons_zero, List.set_cons_succ]
  refine take_at (i := 14) (v := ?v11) rfl (by kernel_rfl) (by kernel_rfl) (by kernel_rfl) (fun _ _ _ h => h) (Or.inl ⟨by rfl, ?y11⟩) hHeld ?t11
  case y11 => (intro wx hSw; go_simp <;> with_reducible rfl)
  simp only [Act.put, List.setIfInBounds_toArray, List.set_cons_zero, List.set_cons_succ]
  refine take_at (i := 15) (v := ?v12) rfl (by kernel_rfl) (by kernel_rfl) (by kernel_rfl) (fun _ _ _ h => h) (Or.inl ⟨by rfl, ?y12⟩) hHeld ?t12
  case y12 => (intro wx hSw; go_simp <;> with_reducible rfl)
  simp only [Act.put, List.setIfInBounds_toArray, List.set_cons_zero, List.set_cons_succ]
  refine take_at (i := 16) (v := ?v13) rfl (by kernel_rfl) (by kernel_rfl) (by kernel_rfl) (fun _ _ _ h => h) (Or.inl ⟨by rfl, ?y13⟩) hHeld ?t13
  case y13 => (intro wx hSw; have hc2 : wx.cell? ⟨w.heap.size, 2, none⟩ = some (.int .i64 o.2.2.1) := hSw.c 2 (of_decide_eq_true rfl); go_simp <;> with_reducible rfl)
  simp only [Act.put, List.setIfInBounds_toArray, List.set_cons_zero, List.set_cons_succ]
  refine call_at (i := 7) (by kernel_rfl) rfl (fun K hK => ?_)
  go_simp
  refine (Mul_any b bad o.2.1 o.2.1 _ ((hw.alloc _).alloc _).drew).mono ?_
  rintro e w1 ⟨rfl, f1, k1⟩
  generalize e1 : mulS bad o.2.1 o.2.1 = r1 at f1 ⊢
  have E1 : Hid _ := e1
  clear e1
  have K1 : Kept b w w1 := Kept.trans (((Kept.refl b w).al _).al _).drew k1
  have B0_1 : Arr w.heap.size [.int .i64 o.1, .int .i64 o.2.1, .int .i64 o.2.2.1, .int .i64 o.2.2.2.1, .int .i64 o.2.2.2.2.1, .int .i64 o.2.2.2.2.2.1, .int .i64 o.2.2.2.2.2.2] w1 := ((Arr_at _ _ [.int .i64 o.1, .int .i64 o.2.1, .int .i64 o.2.2.1, .int .i64 o.2.2.2.1, .int .i64 o.2.2.2.2.1, .int .i64 o.2.2.2.2.2.1, .int .i64 o.2.2.2.2.2.2] _ (by simp)).alloc _).drew.kept k1 (Nat.ne_of_gt y1_BF)
  have B1_1 : Arr (w.heap.size + 1) [.int .i64 0, .int .i64 0, .int .i64 0] w1 := (Arr_at _ _ [.int .i64 0, .int .i64 0, .int .i64 0] _ (by simp)).drew.kept k1 (Nat.ne_of_gt y2_BF)
  have z1 := B1_1.lies
  clear hHeld
  refine hK.out _ _ B0_1 (fun hHeld => ?_)
  clear hK K k1
  refine call_at (i := 8) (by kernel_rfl) rfl (fun K hK => ?_)
  go_simp
  refine (Sub_any b r1.2 1099511627776 r1.1 _ f1).mono ?_
  rintro e w2 ⟨rfl, f2, k2⟩
  generalize e2 : subS r1.2 1099511627776 r1.1 = r2 at f2 ⊢
  have E2 : Hid _ := e2
  clear e2
  have K2 : Kept b w w2 := Kept.trans K1 k2
  have B0_2 : Arr w.heap.size [.int .i64 o.1, .int .i64 o.2.1, .int .i64 o.2.2.1, .int .i64 o.2.2.2.1, .int .i64 o.2.2.2.2.1, .int .i64 o.2.2.2.2.2.1, .int .i64 o.2.2.2.2.2.2] w2 := B0_1.kept k2 (Nat.ne_of_gt y1_BF)
  have B1_2 : Arr (w.heap.size + 1) [.int .i64 0, .int .i64 0, .int .i64 0] w2 := B1_1.kept k2 (Nat.ne_of_gt y2_BF)
  have z2 := B1_2.lies
  clear hHeld
  refine hK.out _ _ B0_2 (fun hHeld => ?_)
  clear hK K K1 f1 B0_1 B1_1 k2
  refine call_at (i := 9) (by kernel_rfl) rfl (fun K hK => ?_)
  go_simp
  refine (Sqrt_any b r2.2 r2.1 _ f2).mono ?_
  rintro e w3 ⟨rfl, f3, k3⟩
  generalize e3 : sqrtS r2.2 r2.1 = r3 at f3 ⊢
  have E3 : Hid _ := e3
  clear e3
  have K3 : Kept b w w3 := Kept.trans K2 k3
  have B0_3 : Arr w.heap.size [.int .i64 o.1, .int .i64 o.2.1, .int .i64 o.2.2.1, .int .i64 o.2.2.2.1, .int .i64 o.2.2.2.2.1, .int .i64 o.2.2.2.2.2.1, .int .i64 o.2.2.2.2.2.2] w3 := B0_2.kept k3 (Nat.ne_of_gt y1_BF)
  have B1_3 : Arr (w.heap.size + 1) [.int .i64 0, .int .i64 0, .int .i64 0] w3 := B1_2.kept k3 (Nat.ne_of_gt y2_BF)
  have z3 := B1_3.lies
  clear hHeld
  refine hK.out _ _ B0_3 (fun hHeld => ?_)
  clear hK K K2 f2 B0_2 B1_2 k3
  refine call_at (i := 13) (by kernel_rfl) rfl (fun K hK => ?_)
  go_simp
  refine (Sin_any b r3.2 o.2.2.1 _ f3).mono ?_
  rintro e w4 ⟨rfl, f4, k4⟩
  generalize e4 : sinA r3.2 o.2.2.1 = r4 at f4 ⊢
  have E4 : Hid _ := e4
  clear e4
  have K4 : Kept b w w4 := Kept.trans K3 k4
  have B0_4 : Arr w.heap.size [.int .i64 o.1, .int .i64 o.2.1, .int .i64 o.2.2.1, .int .i64 o.2.2.2.1, .int .i64 o.2.2.2.2.1, .int .i64 o.2.2.2.2.2.1, .int .i64 o.2.2.2.2.2.2] w4 := B0_3.kept k4 (Nat.ne_of_gt y1_BF)
  have B1_4 : Arr (w.heap.size + 1) [.int .i64 0, .int .i64 0, .int .i64 0] w4 := B1_3.kept k4 (Nat.ne_of_gt y2_BF)
  have z4 := B1_4.lies
  clear hHeld
  refine hK.out _ _ B0_4 (fun hHeld => ?_)
  clear hK K K3 f3 B0_3 B1_3 k4
  refine call_at (i := 17) (by kernel_rfl) rfl (fun K hK => ?_)
  go_simp
  refine (Cos_any b r4.2 o.2.2.1 _ f4).mono ?_
  rintro e w5 ⟨rfl, f5, k5⟩
  generalize e5 : cosA r4.2 o.2.2.1 = r5 at f5 ⊢
  have E5 : Hid _ := e5
  clear e5
  have K5 : Kept b w w5 := Kept.trans K4 k5
  have B0_5 : Arr w.heap.size [.int .i64 o.1, .int .i64 o.2.1, .int .i64 o.2.2.1, .int .i64 o.2.2.2.1, .int .i64 o.2.2.2.2.1, .int .i64 o.2.2.2.2.2.1, .int .i64 o.2.2.2.2.2.2] w5 := B0_4.kept k5 (Nat.ne_of_gt y1_BF)
  have B1_5 : Arr (w.heap.size + 1) [.int .i64 0, .int .i64 0, .int .i64 0] w5 := B1_4.kept k5 (Nat.ne_of_gt y2_BF)
  have z5 := B1_5.lies
  clear hHeld
  refine hK.out _ _ B0_5 (fun hHeld => ?_)
  clear hK K K4 f4 B0_4 B1_4 k5
  refine take_at (i := 18) (v := ?v14) rfl (by kernel_rfl) (by kernel_rfl) (by kernel_rfl) (fun _ _ _ h => h) (Or.inl ⟨by rfl, ?y14⟩) hHeld ?t14
  case y14 => (intro wx hSw; go_simp <;> with_reducible rfl)
  simp only [Act.put, List.setIfInBounds_toArray, List.set_cons_zero, List.set_cons_succ]
  refine call_at (i := 19) (by kernel_rfl) rfl (fun K hK => ?_)
  have c2_B1_0 : w5.cell? ⟨w.heap.size + 1, 0, none⟩ = some (.int .i64 0) := B1_5.c 0 (of_decide_eq_true rfl)
  have c2_B1_1 : w5.cell? ⟨w.heap.size + 1, 1, none⟩ = some (.int .i64 0) := B1_5.c 1 (of_decide_eq_true rfl)
  have c2_B1_2 : w5.cell? ⟨w.heap.size + 1, 2, none⟩ = some (.int .i64 0) := B1_5.c 2 (of_decide_eq_true rfl)
  have g2_B1_0 := B1_5.f 0 (of_decide_eq_true rfl)
  have g2_B1_1 := B1_5.f 1 (of_decide_eq_true rfl)
  have g2_B1_2 := B1_5.f 2 (of_decide_eq_true rfl)
  go_simp
  clear hHeld
  refine hK.out _ _ (((B0_5.new (w.heap.size + 1) 0 (Nat.ne_of_lt y2_B0) (.int .i64 r3.1)).new (w.heap.size + 1) 1 (Nat.ne_of_lt y2_B0) (.int .i64 r4.1)).new (w.heap.size + 1) 2 (Nat.ne_of_lt y2_B0) (.int .i64 r5.1)) (fun hHeld => ?_)
  clear hK K c2_B1_0 c2_B1_1 c2_B1_2 g2_B1_0 g2_B1_1 g2_B1_2
  refine wpAnyH_done (by kernel_rfl) ?_ _
  clear hHeld
  go_wp2_with (with_reducible refine post_stop ?_)
  refine Stop.mk ?_
  refine bodyPost_ret (v := .agg #[.int .i64 r3.1, .int .i64 r4.1, .int .i64 r5.1]) (results_arr Try.results38 (((B1_5.put 0 (of_decide_eq_true rfl) (.int .i64 r3.1) [.int .i64 r3.1, .int .i64 0, .int .i64 0] rfl).put 1 (of_decide_eq_true rfl) (.int .i64 r4.1) [.int .i64 r3.1, .int .i64 r4.1, .int .i64 0] rfl).put 2 (of_decide_eq_true rfl) (.int .i64 r5.1) [.int .i64 r3.1, .int .i64 r4.1, .int .i64 r5.1] rfl) rfl (by kernel_rfl) (by kernel_rfl)) rfl ?_
  have hs : shapeS bad o = ((r3.1, r4.1, r5.1), r5.2) := by unfold shapeS; simp only [E1.out, E2.out, E3.out, E4.out, E5.out]
  rw [hs]
  exact ⟨rfl, (((f5.new (w.heap.size + 1) 0 (Nat.ne_of_lt y2_BF) (.int .i64 r3.1)).new (w.heap.size + 1) 1 (Nat.ne_of_lt y2_BF) (.int .i64 r4.1)).new (w.heap.size + 1) 2 (Nat.ne_of_lt y2_BF) (.int .i64 r5.1)), (((K5.new _ _ (by omega) _).new _ _ (by omega) _).new _ _ (by omega) _)⟩
set_option maxRecDepth 100000 in
set_option maxHeartbeats 2000000 in
theorem odrifted_any (b : Nat) (bad : Bool) (o : V7) (s : V3) (d : Int) (w : World) (hw : Fl b bad w) :
    Calls Try.prog 39 #[.pointer (some ⟨b, 0, none⟩), .agg #[.int .i64 o.1, .int .i64 o.2.1, .int .i64 o.2.2.1, .int .i64 o.2.2.2.1, .int .i64 o.2.2.2.2.1, .int .i64 o.2.2.2.2.2.1, .int .i64 o.2.2.2.2.2.2], .agg #[.int .i64 s.1, .int .i64 s.2.1, .int .i64 s.2.2], .int .i64 d] w fun e w' => e = .returned (.agg #[.int .i64 ((driftS bad o s d).1.1), .int .i64 ((driftS bad o s d).1.2.1), .int .i64 ((driftS bad o s d).1.2.2)]) ∧ Fl b (driftS bad o s d).2 w' ∧ Kept b w w' := by
  have hl := hw.lies
  go_enter Try.func39, Try.ntmps39
  have y1_BF : b < w.heap.size := hw.lies
  have y2_BF : b < w.heap.size + 1 := (Nat.lt_succ_of_lt hw.lies)
  have y2_B0 : w.heap.size < w.heap.size + 1 := (Nat.lt_succ_self _)
  have y3_BF : b < w.heap.size + 1 + 1 := (Nat.lt_succ_of_lt (Nat.lt_succ_of_lt hw.lies))
  have y3_B0 : w.heap.size < w.heap.size + 1 + 1 := (Nat.lt_succ_of_lt (Nat.lt_succ_self _))
  have y3_B1 : w.heap.size + 1 < w.heap.size + 1 + 1 := (Nat.lt_succ_self _)
  go_wp2_with fail
  refine wp_region_held_drew (S := fun w' => Arr w.heap.size [.int .i64 o.1, .int .i64 o.2.1, .int .i64 o.2.2.1, .int .i64 o.2.2.2.1, .int .i64 o.2.2.2.2.1, .int .i64 o.2.2.2.2.2.1, .int .i64 o.2.2.2.2.2.2] w') (by kernel_rfl) (((Arr_at _ _ [.int .i64 o.1, .int .i64 o.2.1, .int .i64 o.2.2.1, .int .i64 o.2.2.2.1, .int .i64 o.2.2.2.2.1, .int .i64 o.2.2.2.2.2.1, .int .i64 o.2.2.2.2.2.2] _ (by simp)).alloc _).alloc _).drew (fun hHeld => ?_)
  refine take_at (i := 0) (v := ?v1) rfl (by kernel_rfl) (by kernel_rfl) (by kernel_rfl) (fun _ _ _ h => h) (Or.inl ⟨by rfl, ?y1⟩) hHeld ?t1
  case y1 => (intro wx hSw; go_simp <;> with_reducible rfl)
  simp only [Act.put, List.setIfInBounds_toArray, List.set_cons_zero, List.set_cons_succ]
  refine take_at (i := 1) (v := ?v2) rfl (by kernel_rfl) (by kernel_rfl) (by kernel_rfl) (fun _ _ _ h => h) (Or.inl ⟨by rfl, ?y2⟩) hHeld ?t2
  case y2 => (intro wx hSw; go_simp <;> with_reducible rfl)
  simp only [Act.put, List.setIfInBounds_toArray, List.set_cons_zero, List.set_cons_succ]
  refine take_at (i := 2) (v := ?v3) rfl (by kernel_rfl) (by kernel_rfl) (by kernel_rfl) (fun _ _ _ h => h) (Or.inl ⟨by rfl, ?y3⟩) hHeld ?t3
  case y3 => (intro wx hSw; go_simp <;> with_reducible rfl)
  simp only [Act.put, List.setIfInBounds_toArray, List.set_cons_zero, List.set_cons_succ]
  refine take_at (i := 3) (v := ?v4) rfl (by kernel_rfl) (by kernel_rfl) (by kernel_rfl) (fun _ _ _ h => h) (Or.inl ⟨by rfl, ?y4⟩) hHeld ?t4
  case y4 => (intro wx hSw; go_simp <;> with_reducible rfl)
  simp only [Act.put, List.setIfInBounds_toArray, List.set_cons_zero, List.set_cons_succ]
  refine take_at (i := 4) (v := ?v5) rfl (by kernel_rfl) (by kernel_rfl) (by kernel_rfl) (fun _ _ _ h => h) (Or.inl ⟨by rfl, ?y5⟩) hHeld ?t5
  case y5 => (intro wx hSw; have hc0 : wx.cell? ⟨w.heap.size, 0, none⟩ = some (.int .i64 o.1) := hSw.c 0 (of_decide_eq_true rfl); go_simp <;> with_reducible rfl)
  simp only [Act.put, List.setIfInBounds_toArray, List.set_cons_zero, List.set_cons_succ]
  refine take_at (i := 7) (v := ?v6) rfl (by kernel_rfl) (by kernel_rfl) (by kernel_rfl) (fun _ _ _ h => h) (Or.inl ⟨by rfl, ?y6⟩) hHeld ?t6
  case y6 => (intro wx hSw; go_simp <;> with_reducible rfl)
  simp only [Act.put, List.setIfInBounds_toArray, List.set_cons_zero, List.set_cons_succ]
  refine take_at (i := 8) (v := ?v7) rfl (by kernel_rfl) (by kernel_rfl) (by kernel_rfl) (fun _ _ _ h => h) (Or.inl ⟨by rfl, ?y7⟩) hHeld ?t7
  case y7 => (intro wx hSw; have hc0 : wx.cell? ⟨w.heap.size, 0, none⟩ = some (.int .i64 o.1) := hSw.c 0 (of_decide_eq_true rfl); go_simp <;> with_reducible rfl)
  simp only [Act.put, List.setIfInBounds_toArray, List.set_cons_zero, List.set_cons_succ]
  refine call_at (i := 5) (by kernel_rfl) rfl (fun K hK => ?_)
  go_simp
  refine (Div_any b bad 3271636820114455529 o.1 _ (((hw.alloc _).alloc _).alloc _).drew).mono ?_
  rintro e w1 ⟨rfl, f1, k1⟩
  generalize e1 : divS bad 3271636820114455529 o.1 = r1 at f1 ⊢
  have E1 : Hid _ := e1
  clear e1
  have K1 : Kept b w w1 := Kept.trans ((((Kept.refl b w).al _).al _).al _).drew k1
  have B0_1 : Arr w.heap.size [.int .i64 o.1, .int .i64 o.2.1, .int .i64 o.2.2.1, .int .i64 o.2.2.2.1, .int .i64 o.2.2.2.2.1, .int .i64 o.2.2.2.2.2.1, .int .i64 o.2.2.2.2.2.2] w1 := (((Arr_at _ _ [.int .i64 o.1, .int .i64 o.2.1, .int .i64 o.2.2.1, .int .i64 o.2.2.2.1, .int .i64 o.2.2.2.2.1, .int .i64 o.2.2.2.2.2.1, .int .i64 o.2.2.2.2.2.2] _ (by simp)).alloc _).alloc _).drew.kept k1 (Nat.ne_of_gt y1_BF)
  have B1_1 : Arr (w.heap.size + 1) [.int .i64 s.1, .int .i64 s.2.1, .int .i64 s.2.2] w1 := ((Arr_at _ _ [.int .i64 s.1, .int .i64 s.2.1, .int .i64 s.2.2] _ (by simp)).alloc _).drew.kept k1 (Nat.ne_of_gt y2_BF)
  have B2_1 : Arr (w.heap.size + 1 + 1) [.int .i64 0, .int .i64 0, .int .i64 0] w1 := (Arr_at _ _ [.int .i64 0, .int .i64 0, .int .i64 0] _ (by simp)).drew.kept k1 (Nat.ne_of_gt y3_BF)
  have z1 := B2_1.lies
  clear hHeld
  refine hK.out _ _ B0_1 (fun hHeld => ?_)
  clear hK K k1
  refine call_at (i := 6) (by kernel_rfl) rfl (fun K hK => ?_)
  go_simp
  refine (Sqrt_any b r1.2 r1.1 _ f1).mono ?_
  rintro e w2 ⟨rfl, f2, k2⟩
  generalize e2 : sqrtS r1.2 r1.1 = r2 at f2 ⊢
  have E2 : Hid _ := e2
  clear e2
  have K2 : Kept b w w2 := Kept.trans K1 k2
  have B0_2 : Arr w.heap.size [.int .i64 o.1, .int .i64 o.2.1, .int .i64 o.2.2.1, .int .i64 o.2.2.2.1, .int .i64 o.2.2.2.2.1, .int .i64 o.2.2.2.2.2.1, .int .i64 o.2.2.2.2.2.2] w2 := B0_1.kept k2 (Nat.ne_of_gt y1_BF)
  have B1_2 : Arr (w.heap.size + 1) [.int .i64 s.1, .int .i64 s.2.1, .int .i64 s.2.2] w2 := B1_1.kept k2 (Nat.ne_of_gt y2_BF)
  have B2_2 : Arr (w.heap.size + 1 + 1) [.int .i64 0, .int .i64 0, .int .i64 0] w2 := B2_1.kept k2 (Nat.ne_of_gt y3_BF)
  have z2 := B2_2.lies
  clear hHeld
  refine hK.out _ _ B0_2 (fun hHeld => ?_)
  clear hK K K1 f1 B0_1 B1_1 B2_1 k2
  refine call_at (i := 9) (by kernel_rfl) rfl (fun K hK => ?_)
  go_simp
  refine (Div_any b r2.2 r2.1 o.1 _ f2).mono ?_
  rintro e w3 ⟨rfl, f3, k3⟩
  generalize e3 : divS r2.2 r2.1 o.1 = r3 at f3 ⊢
  have E3 : Hid _ := e3
  clear e3
  have K3 : Kept b w w3 := Kept.trans K2 k3
  have B0_3 : Arr w.heap.size [.int .i64 o.1, .int .i64 o.2.1, .int .i64 o.2.2.1, .int .i64 o.2.2.2.1, .int .i64 o.2.2.2.2.1, .int .i64 o.2.2.2.2.2.1, .int .i64 o.2.2.2.2.2.2] w3 := B0_2.kept k3 (Nat.ne_of_gt y1_BF)
  have B1_3 : Arr (w.heap.size + 1) [.int .i64 s.1, .int .i64 s.2.1, .int .i64 s.2.2] w3 := B1_2.kept k3 (Nat.ne_of_gt y2_BF)
  have B2_3 : Arr (w.heap.size + 1 + 1) [.int .i64 0, .int .i64 0, .int .i64 0] w3 := B2_2.kept k3 (Nat.ne_of_gt y3_BF)
  have z3 := B2_3.lies
  clear hHeld
  refine hK.out _ _ B0_3 (fun hHeld => ?_)
  clear hK K K2 f2 B0_2 B1_2 B2_2 k3
  refine take_at (i := 10) (v := ?v8) rfl (by kernel_rfl) (by kernel_rfl) (by kernel_rfl) (fun _ _ _ h => h) (Or.inl ⟨by rfl, ?y8⟩) hHeld ?t8
  case y8 => (intro wx hSw; go_simp <;> with_reducible rfl)
  simp only [Act.put, List.setIfInBounds_toArray, List.set_cons_zero, List.set_cons_succ]
  refine wpAnyH_done (by kernel_rfl) ?_ _
  clear hHeld
  go_wp2_with fail
  refine wp_region_held_drew (S := fun w' => Arr w.heap.size [.int .i64 o.1, .int .i64 o.2.1, .int .i64 o.2.2.1, .int .i64 o.2.2.2.1, .int .i64 o.2.2.2.2.1, .int .i64 o.2.2.2.2.2.1, .int .i64 o.2.2.2.2.2.2] w' ∧ Arr (w.heap.size + 1) [.int .i64 s.1, .int .i64 s.2.1, .int .i64 s.2.2] w') (by kernel_rfl) ⟨B0_3.drew, B1_3.drew⟩ (fun hHeld => ?_)
  refine take_at (i := 0) (v := ?v9) rfl (by kernel_rfl) (by kernel_rfl) (by kernel_rfl) (fun _ _ _ h => h) (Or.inl ⟨by rfl, ?y9⟩) hHeld ?t9
  case y9 => (intro wx hSw; go_simp <;> with_reducible rfl)
  simp only [Act.put, List.setIfInBounds_toArray, List.set_cons_zero, List.set_cons_succ]
  refine take_at (i := 1) (v := ?v10) rfl (by kernel_rfl) (by kernel_rfl) (by kernel_rfl) (fun _ _ _ h => h) (Or.inl ⟨by rfl, ?y10⟩) hHeld ?t10
  case y10 => (intro wx hSw; go_simp <;> with_reducible rfl)
  simp only [Act.put, List.setIfInBounds_toArray, List.set_cons_zero, List.set_cons_succ]
  refine take_at (i := 2) (v := ?v11) rfl (by kernel_rfl) (by kernel_rfl) (by kernel_rfl) (fun _ _ _ h => h) (Or.inl ⟨by rfl, ?y11⟩) hHeld ?t11
  case y11 => (intro wx hSw; have hc0 : wx.cell? ⟨w.heap.size, 0, none⟩ = some (.int .i64 o.1) := hSw.1.c 0 (of_decide_eq_true rfl); go_simp <;> with_reducible rfl)
  simp only [Act.put, List.setIfInBounds_toArray, List.set_cons_zero, List.set_cons_succ]
  refine take_at (i := 3) (v := ?v12) rfl (by kernel_rfl) (by kernel_rfl) (by kernel_rfl) (fun _ _ _ h => h) (Or.inl ⟨by rfl, ?y12⟩) hHeld ?t12
  case y12 => (intro wx hSw; go_simp <;> with_reducible rfl)
  simp only [Act.put, List.setIfInBounds_toArray, List.set_cons_zero, List.set_cons_succ]
  refine take_at (i := 4) (v := ?v13) rfl (by kernel_rfl) (by kernel_rfl) (by kernel_rfl) (fun _ _ _ h => h) (Or.inl ⟨by rfl, ?y13⟩) hHeld ?t13
  case y13 => (intro wx hSw; go_simp <;> with_reducible rfl)
  simp only [Act.put, List.setIfInBounds_toArray, List.set_cons_zero, List.set_cons_succ]
  refine take_at (i := 5) (v := ?v14) rfl (by kernel_rfl) (by kernel_rfl) (by kernel_rfl) (fun _ _ _ h => h) (Or.inl ⟨by rfl, ?y14⟩) hHeld ?t14
  case y14 => (intro wx hSw; have hc0 : wx.cell? ⟨w.heap.size + 1, 0, none⟩ = some (.int .i64 s.1) := hSw.2.c 0 (of_decide_eq_true rfl); go_simp <;> with_reducible rfl)
  simp only [Act.put, List.setIfInBounds_toArray, List.set_cons_zero, List.set_cons_succ]
  refine take_at (i := 6) (v := ?v15) rfl (by kernel_rfl) (by kernel_rfl) (by kernel_rfl) (fun _ _ _ h => h) (Or.inl ⟨by rfl, ?y15⟩) hHeld ?t15
  case y15 => (intro wx hSw; go_simp <;> with_reducible rfl)
  simp only [Act.put, List.setIfInBounds_toArray, List.set_cons_zero, List.set_cons_succ]
  refine take_at (i := 7) (v := ?v16) rfl (by kernel_rfl) (by kernel_rfl) (by kernel_rfl) (fun _ _ _ h => h) (Or.inl ⟨by rfl, ?y16⟩) hHeld ?t16
  case y16 => (intro wx hSw; have hc0 : wx.cell? ⟨w.heap.size + 1, 0, none⟩ = some (.int .i64 s.1) := hSw.2.c 0 (of_decide_eq_true rfl); go_simp <;> with_reducible rfl)
  simp only [Act.put, List.setIfInBounds_toArray, List.set_cons_zero, List.set_cons_succ]
  refine call_at (i := 8) (by kernel_rfl) rfl (fun K hK => ?_)
  go_simp
  refine (Mul_any b r3.2 s.1 s.1 _ f3.drew).mono ?_
  rintro e w4 ⟨rfl, f4, k4⟩
  generalize e4 : mulS r3.2 s.1 s.1 = r4 at f4 ⊢
  have E4 : Hid _ := e4
  clear e4
  have K4 : Kept b w w4 := Kept.trans K3.drew k4
  have B0_4 : Arr w.heap.size [.int .i64 o.1, .int .i64 o.2.1, .int .i64 o.2.2.1, .int .i64 o.2.2.2.1, .int .i64 o.2.2.2.2.1, .int .i64 o.2.2.2.2.2.1, .int .i64 o.2.2.2.2.2.2] w4 := B0_3.drew.kept k4 (Nat.ne_of_gt y1_BF)
  have B1_4 : Arr (w.heap.size + 1) [.int .i64 s.1, .int .i64 s.2.1, .int .i64 s.2.2] w4 := B1_3.drew.kept k4 (Nat.ne_of_gt y2_BF)
  have B2_4 : Arr (w.heap.size + 1 + 1) [.int .i64 0, .int .i64 0, .int .i64 0] w4 := B2_3.drew.kept k4 (Nat.ne_of_gt y3_BF)
  have z4 := B2_4.lies
  clear hHeld
  refine hK.out _ _ ⟨B0_4, B1_4⟩ (fun hHeld => ?_)
  clear hK K K3 f3 B0_3 B1_3 B2_3 k4
  refine call_at (i := 9) (by kernel_rfl) rfl (fun K hK => ?_)
  go_simp
  refine (Mul_any b r4.2 o.1 r4.1 _ f4).mono ?_
  rintro e w5 ⟨rfl, f5, k5⟩
  generalize e5 : mulS r4.2 o.1 r4.1 = r5 at f5 ⊢
  have E5 : Hid _ := e5
  clear e5
  have K5 : Kept b w w5 := Kept.trans K4 k5
  have B0_5 : Arr w.heap.size [.int .i64 o.1, .int .i64 o.2.1, .int .i64 o.2.2.1, .int .i64 o.2.2.2.1, .int .i64 o.2.2.2.2.1, .int .i64 o.2.2.2.2.2.1, .int .i64 o.2.2.2.2.2.2] w5 := B0_4.kept k5 (Nat.ne_of_gt y1_BF)
  have B1_5 : Arr (w.heap.size + 1) [.int .i64 s.1, .int .i64 s.2.1, .int .i64 s.2.2] w5 := B1_4.kept k5 (Nat.ne_of_gt y2_BF)
  have B2_5 : Arr (w.heap.size + 1 + 1) [.int .i64 0, .int .i64 0, .int .i64 0] w5 := B2_4.kept k5 (Nat.ne_of_gt y3_BF)
  have z5 := B2_5.lies
  clear hHeld
  refine hK.out _ _ ⟨B0_5, B1_5⟩ (fun hHeld => ?_)
  clear hK K K4 f4 B0_4 B1_4 B2_4 k5
  refine take_at (i := 10) (v := ?v17) rfl (by kernel_rfl) (by kernel_rfl) (by kernel_rfl) (fun _ _ _ h => h) (Or.inl ⟨by rfl, ?y17⟩) hHeld ?t17
  case y17 => (intro wx hSw; go_simp <;> with_reducible rfl)
  simp only [Act.put, List.setIfInBounds_toArray, List.set_cons_zero, List.set_cons_succ]
  refine wpAnyH_done (by kernel_rfl) ?_ _
  clear hHeld
  go_wp2_with fail
  refine (Div_any b r5.2 7012835795048 r5.1 _ f5).mono ?_
  rintro e w6 ⟨rfl, f6, k6⟩
  generalize e6 : divS r5.2 7012835795048 r5.1 = r6 at f6 ⊢
  have E6 : Hid _ := e6
  clear e6
  have K6 : Kept b w w6 := Kept.trans K5 k6
  have B0_6 : Arr w.heap.size [.int .i64 o.1, .int .i64 o.2.1, .int .i64 o.2.2.1, .int .i64 o.2.2.2.1, .int .i64 o.2.2.2.2.1, .int .i64 o.2.2.2.2.2.1, .int .i64 o.2.2.2.2.2.2] w6 := B0_5.kept k6 (Nat.ne_of_gt y1_BF)
  have B1_6 : Arr (w.heap.size + 1) [.int .i64 s.1, .int .i64 s.2.1, .int .i64 s.2.2] w6 := B1_5.kept k6 (Nat.ne_of_gt y2_BF)
  have B2_6 : Arr (w.heap.size + 1 + 1) [.int .i64 0, .int .i64 0, .int .i64 0] w6 := B2_5.kept k6 (Nat.ne_of_gt y3_BF)
  have z6 := B2_6.lies
  clear K5 f5 B0_5 B1_5 B2_5 k6
  go_wp2_with fail
  refine (Mul_any b r6.2 r6.1 r6.1 _ f6).mono ?_
  rintro e w7 ⟨rfl, f7, k7⟩
  generalize e7 : mulS r6.2 r6.1 r6.1 = r7 at f7 ⊢
  have E7 : Hid _ := e7
  clear e7
  have K7 : Kept b w w7 := Kept.trans K6 k7
  have B0_7 : Arr w.heap.size [.int .i64 o.1, .int .i64 o.2.1, .int .i64 o.2.2.1, .int .i64 o.2.2.2.1, .int .i64 o.2.2.2.2.1, .int .i64 o.2.2.2.2.2.1, .int .i64 o.2.2.2.2.2.2] w7 := B0_6.kept k7 (Nat.ne_of_gt y1_BF)
  have B1_7 : Arr (w.heap.size + 1) [.int .i64 s.1, .int .i64 s.2.1, .int .i64 s.2.2] w7 := B1_6.kept k7 (Nat.ne_of_gt y2_BF)
  have B2_7 : Arr (w.heap.size + 1 + 1) [.int .i64 0, .int .i64 0, .int .i64 0] w7 := B2_6.kept k7 (Nat.ne_of_gt y3_BF)
  have z7 := B2_7.lies
  clear K6 f6 B0_6 B1_6 B2_6 k7
  go_wp2_with fail
  refine (Mul_any b r7.2 1785540935 r7.1 _ f7).mono ?_
  rintro e w8 ⟨rfl, f8, k8⟩
  generalize e8 : mulS r7.2 1785540935 r7.1 = r8 at f8 ⊢
  have E8 : Hid _ := e8
  clear e8
  have K8 : Kept b w w8 := Kept.trans K7 k8
  have B0_8 : Arr w.heap.size [.int .i64 o.1, .int .i64 o.2.1, .int .i64 o.2.2.1, .int .i64 o.2.2.2.1, .int .i64 o.2.2.2.2.1, .int .i64 o.2.2.2.2.2.1, .int .i64 o.2.2.2.2.2.2] w8 := B0_7.kept k8 (Nat.ne_of_gt y1_BF)
  have B1_8 : Arr (w.heap.size + 1) [.int .i64 s.1, .int .i64 s.2.1, .int .i64 s.2.2] w8 := B1_7.kept k8 (Nat.ne_of_gt y2_BF)
  have B2_8 : Arr (w.heap.size + 1 + 1) [.int .i64 0, .int .i64 0, .int .i64 0] w8 := B2_7.kept k8 (Nat.ne_of_gt y3_BF)
  have z8 := B2_8.lies
  clear K7 f7 B0_7 B1_7 B2_7 k8
  go_wp2_with fail
  refine (Mul_any b r8.2 r8.1 r3.1 _ f8).mono ?_
  rintro e w9 ⟨rfl, f9, k9⟩
  generalize e9 : mulS r8.2 r8.1 r3.1 = r9 at f9 ⊢
  have E9 : Hid _ := e9
  clear e9
  have K9 : Kept b w w9 := Kept.trans K8 k9
  have B0_9 : Arr w.heap.size [.int .i64 o.1, .int .i64 o.2.1, .int .i64 o.2.2.1, .int .i64 o.2.2.2.1, .int .i64 o.2.2.2.2.1, .int .i64 o.2.2.2.2.2.1, .int .i64 o.2.2.2.2.2.2] w9 := B0_8.kept k9 (Nat.ne_of_gt y1_BF)
  have B1_9 : Arr (w.heap.size + 1) [.int .i64 s.1, .int .i64 s.2.1, .int .i64 s.2.2] w9 := B1_8.kept k9 (Nat.ne_of_gt y2_BF)
  have B2_9 : Arr (w.heap.size + 1 + 1) [.int .i64 0, .int .i64 0, .int .i64 0] w9 := B2_8.kept k9 (Nat.ne_of_gt y3_BF)
  have z9 := B2_9.lies
  clear K8 f8 B0_8 B1_8 B2_8 k9
  have c7_B1_1 : w9.cell? ⟨w.heap.size + 1, 1, none⟩ = some (.int .i64 s.2.1) := B1_9.c 1 (of_decide_eq_true rfl)
  go_wp2_with fail
  refine (Mul_any b r9.2 s.2.1 s.2.1 _ f9).mono ?_
  rintro e w10 ⟨rfl, f10, k10⟩
  generalize e10 : mulS r9.2 s.2.1 s.2.1 = r10 at f10 ⊢
  have E10 : Hid _ := e10
  clear e10
  have K10 : Kept b w w10 := Kept.trans K9 k10
  have B0_10 : Arr w.heap.size [.int .i64 o.1, .int .i64 o.2.1, .int .i64 o.2.2.1, .int .i64 o.2.2.2.1, .int .i64 o.2.2.2.2.1, .int .i64 o.2.2.2.2.2.1, .int .i64 o.2.2.2.2.2.2] w10 := B0_9.kept k10 (Nat.ne_of_gt y1_BF)
  have B1_10 : Arr (w.heap.size + 1) [.int .i64 s.1, .int .i64 s.2.1, .int .i64 s.2.2] w10 := B1_9.kept k10 (Nat.ne_of_gt y2_BF)
  have B2_10 : Arr (w.heap.size + 1 + 1) [.int .i64 0, .int .i64 0, .int .i64 0] w10 := B2_9.kept k10 (Nat.ne_of_gt y3_BF)
  have z10 := B2_10.lies
  clear c7_B1_1 K9 f9 B0_9 B1_9 B2_9 k10
  go_wp2_with fail
  refine (Part_any b r10.2 r10.1 5 2 _ f10).mono ?_
  rintro e w11 ⟨rfl, f11, k11⟩
  generalize e11 : partS r10.2 r10.1 5 2 = r11 at f11 ⊢
  have E11 : Hid _ := e11
  clear e11
  have K11 : Kept b w w11 := Kept.trans K10 k11
  have B0_11 : Arr w.heap.size [.int .i64 o.1, .int .i64 o.2.1, .int .i64 o.2.2.1, .int .i64 o.2.2.2.1, .int .i64 o.2.2.2.2.1, .int .i64 o.2.2.2.2.2.1, .int .i64 o.2.2.2.2.2.2] w11 := B0_10.kept k11 (Nat.ne_of_gt y1_BF)
  have B1_11 : Arr (w.heap.size + 1) [.int .i64 s.1, .int .i64 s.2.1, .int .i64 s.2.2] w11 := B1_10.kept k11 (Nat.ne_of_gt y2_BF)
  have B2_11 : Arr (w.heap.size + 1 + 1) [.int .i64 0, .int .i64 0, .int .i64 0] w11 := B2_10.kept k11 (Nat.ne_of_gt y3_BF)
  have z11 := B2_11.lies
  clear K10 f10 B0_10 B1_10 B2_10 k11
  go_wp2_with fail
  refine (Sub_any b r11.2 2199023255552 r11.1 _ f11).mono ?_
  rintro e w12 ⟨rfl, f12, k12⟩
  generalize e12 : subS r11.2 2199023255552 r11.1 = r12 at f12 ⊢
  have E12 : Hid _ := e12
  clear e12
  have K12 : Kept b w w12 := Kept.trans K11 k12
  have B0_12 : Arr w.heap.size [.int .i64 o.1, .int .i64 o.2.1, .int .i64 o.2.2.1, .int .i64 o.2.2.2.1, .int .i64 o.2.2.2.2.1, .int .i64 o.2.2.2.2.2.1, .int .i64 o.2.2.2.2.2.2] w12 := B0_11.kept k12 (Nat.ne_of_gt y1_BF)
  have B1_12 : Arr (w.heap.size + 1) [.int .i64 s.1, .int .i64 s.2.1, .int .i64 s.2.2] w12 := B1_11.kept k12 (Nat.ne_of_gt y2_BF)
  have B2_12 : Arr (w.heap.size + 1 + 1) [.int .i64 0, .int .i64 0, .int .i64 0] w12 := B2_11.kept k12 (Nat.ne_of_gt y3_BF)
  have z12 := B2_12.lies
  clear K11 f11 B0_11 B1_11 B2_11 k12
  go_wp2_with fail
  refine (Mul_any b r12.2 r9.1 r12.1 _ f12).mono ?_
  rintro e w13 ⟨rfl, f13, k13⟩
  generalize e13 : mulS r12.2 r9.1 r12.1 = r13 at f13 ⊢
  have E13 : Hid _ := e13
  clear e13
  have K13 : Kept b w w13 := Kept.trans K12 k13
  have B0_13 : Arr w.heap.size [.int .i64 o.1, .int .i64 o.2.1, .int .i64 o.2.2.1, .int .i64 o.2.2.2.1, .int .i64 o.2.2.2.2.1, .int .i64 o.2.2.2.2.2.1, .int .i64 o.2.2.2.2.2.2] w13 := B0_12.kept k13 (Nat.ne_of_gt y1_BF)
  have B1_13 : Arr (w.heap.size + 1) [.int .i64 s.1, .int .i64 s.2.1, .int .i64 s.2.2] w13 := B1_12.kept k13 (Nat.ne_of_gt y2_BF)
  have B2_13 : Arr (w.heap.size + 1 + 1) [.int .i64 0, .int .i64 0, .int .i64 0] w13 := B2_12.kept k13 (Nat.ne_of_gt y3_BF)
  have z13 := B2_13.lies
  clear K12 f12 B0_12 B1_12 B2_12 k13
  have c11_B1_0 : w13.cell? ⟨w.heap.size + 1, 0, none⟩ = some (.int .i64 s.1) := B1_13.c 0 (of_decide_eq_true rfl)
  go_wp2_with fail
  refine (Mul_any b r13.2 r9.1 s.1 _ f13).mono ?_
  rintro e w14 ⟨rfl, f14, k14⟩
  generalize e14 : mulS r13.2 r9.1 s.1 = r14 at f14 ⊢
  have E14 : Hid _ := e14
  clear e14
  have K14 : Kept b w w14 := Kept.trans K13 k14
  have B0_14 : Arr w.heap.size [.int .i64 o.1, .int .i64 o.2.1, .int .i64 o.2.2.1, .int .i64 o.2.2.2.1, .int .i64 o.2.2.2.2.1, .int .i64 o.2.2.2.2.2.1, .int .i64 o.2.2.2.2.2.2] w14 := B0_13.kept k14 (Nat.ne_of_gt y1_BF)
  have B1_14 : Arr (w.heap.size + 1) [.int .i64 s.1, .int .i64 s.2.1, .int .i64 s.2.2] w14 := B1_13.kept k14 (Nat.ne_of_gt y2_BF)
  have B2_14 : Arr (w.heap.size + 1 + 1) [.int .i64 0, .int .i64 0, .int .i64 0] w14 := B2_13.kept k14 (Nat.ne_of_gt y3_BF)
  have z14 := B2_14.lies
  clear c11_B1_0 K13 f13 B0_13 B1_13 B2_13 k14
  go_wp2_with fail
  refine (Part_any b r14.2 r10.1 3 2 _ f14).mono ?_
  rintro e w15 ⟨rfl, f15, k15⟩
  generalize e15 : partS r14.2 r10.1 3 2 = r15 at f15 ⊢
  have E15 : Hid _ := e15
  clear e15
  have K15 : Kept b w w15 := Kept.trans K14 k15
  have B0_15 : Arr w.heap.size [.int .i64 o.1, .int .i64 o.2.1, .int .i64 o.2.2.1, .int .i64 o.2.2.2.1, .int .i64 o.2.2.2.2.1, .int .i64 o.2.2.2.2.2.1, .int .i64 o.2.2.2.2.2.2] w15 := B0_14.kept k15 (Nat.ne_of_gt y1_BF)
  have B1_15 : Arr (w.heap.size + 1) [.int .i64 s.1, .int .i64 s.2.1, .int .i64 s.2.2] w15 := B1_14.kept k15 (Nat.ne_of_gt y2_BF)
  have B2_15 : Arr (w.heap.size + 1 + 1) [.int .i64 0, .int .i64 0, .int .i64 0] w15 := B2_14.kept k15 (Nat.ne_of_gt y3_BF)
  have z15 := B2_15.lies
  clear K14 f14 B0_14 B1_14 B2_14 k15
  go_wp2_with fail
  refine (Sub_any b r15.2 1099511627776 r15.1 _ f15).mono ?_
  rintro e w16 ⟨rfl, f16, k16⟩
  generalize e16 : subS r15.2 1099511627776 r15.1 = r16 at f16 ⊢
  have E16 : Hid _ := e16
  clear e16
  have K16 : Kept b w w16 := Kept.trans K15 k16
  have B0_16 : Arr w.heap.size [.int .i64 o.1, .int .i64 o.2.1, .int .i64 o.2.2.1, .int .i64 o.2.2.2.1, .int .i64 o.2.2.2.2.1, .int .i64 o.2.2.2.2.2.1, .int .i64 o.2.2.2.2.2.2] w16 := B0_15.kept k16 (Nat.ne_of_gt y1_BF)
  have B1_16 : Arr (w.heap.size + 1) [.int .i64 s.1, .int .i64 s.2.1, .int .i64 s.2.2] w16 := B1_15.kept k16 (Nat.ne_of_gt y2_BF)
  have B2_16 : Arr (w.heap.size + 1 + 1) [.int .i64 0, .int .i64 0, .int .i64 0] w16 := B2_15.kept k16 (Nat.ne_of_gt y3_BF)
  have z16 := B2_16.lies
  clear K15 f15 B0_15 B1_15 B2_15 k16
  go_wp2_with fail
  refine (Mul_any b r16.2 r14.1 r16.1 _ f16).mono ?_
  rintro e w17 ⟨rfl, f17, k17⟩
  generalize e17 : mulS r16.2 r14.1 r16.1 = r17 at f17 ⊢
  have E17 : Hid _ := e17
  clear e17
  have K17 : Kept b w w17 := Kept.trans K16 k17
  have B0_17 : Arr w.heap.size [.int .i64 o.1, .int .i64 o.2.1, .int .i64 o.2.2.1, .int .i64 o.2.2.2.1, .int .i64 o.2.2.2.2.1, .int .i64 o.2.2.2.2.2.1, .int .i64 o.2.2.2.2.2.2] w17 := B0_16.kept k17 (Nat.ne_of_gt y1_BF)
  have B1_17 : Arr (w.heap.size + 1) [.int .i64 s.1, .int .i64 s.2.1, .int .i64 s.2.2] w17 := B1_16.kept k17 (Nat.ne_of_gt y2_BF)
  have B2_17 : Arr (w.heap.size + 1 + 1) [.int .i64 0, .int .i64 0, .int .i64 0] w17 := B2_16.kept k17 (Nat.ne_of_gt y3_BF)
  have z17 := B2_17.lies
  clear K16 f16 B0_16 B1_16 B2_16 k17
  go_wp2_with fail
  refine wp_region_held_drew (S := fun w' => Arr w.heap.size [.int .i64 o.1, .int .i64 o.2.1, .int .i64 o.2.2.1, .int .i64 o.2.2.2.1, .int .i64 o.2.2.2.2.1, .int .i64 o.2.2.2.2.2.1, .int .i64 o.2.2.2.2.2.2] w' ∧ Arr (w.heap.size + 1) [.int .i64 s.1, .int .i64 s.2.1, .int .i64 s.2.2] w') (by kernel_rfl) ⟨B0_17.drew, B1_17.drew⟩ (fun hHeld => ?_)
  refine take_at (i := 0) (v := ?v18) rfl (by kernel_rfl) (by kernel_rfl) (by kernel_rfl) (fun _ _ _ h => h) (Or.inl ⟨by rfl, ?y18⟩) hHeld ?t18
  case y18 => (intro wx hSw; go_simp <;> with_reducible rfl)
  simp only [Act.put, List.setIfInBounds_toArray, List.set_cons_zero, List.set_cons_succ]
  refine take_at (i := 1) (v := ?v19) rfl (by kernel_rfl) (by kernel_rfl) (by kernel_rfl) (fun _ _ _ h => h) (Or.inl ⟨by rfl, ?y19⟩) hHeld ?t19
  case y19 => (intro wx hSw; go_simp <;> with_reducible rfl)
  simp only [Act.put, List.setIfInBounds_toArray, List.set_cons_zero, List.set_cons_succ]
  refine take_at (i := 2) (v := ?v20) rfl (by kernel_rfl) (by kernel_rfl) (by kernel_rfl) (fun _ _ _ h => h) (Or.inl ⟨by rfl, ?y20⟩) hHeld ?t20
  case y20 => (intro wx hSw; have hc3 : wx.cell? ⟨w.heap.size, 3, none⟩ = some (.int .i64 o.2.2.2.1) := hSw.1.c 3 (of_decide_eq_true rfl); go_simp <;> with_reducible rfl)
  simp only [Act.put, List.setIfInBounds_toArray, List.set_cons_zero, List.set_cons_succ]
  refine take_at (i := 3) (v := ?v21) rfl (by kernel_rfl) (by kernel_rfl) (by kernel_rfl) (fun _ _ _ h => h) (Or.inl ⟨by rfl, ?y21⟩) hHeld ?t21
  case y21 => (intro wx hSw; go_simp <;> with_reducible rfl)
  simp only [Act.put, List.setIfInBounds_toArray, List.set_cons_zero, List.set_cons_succ]
  refine take_at (i := 4) (v := ?v22) rfl (by kernel_rfl) (by kernel_rfl) (by kernel_rfl) (fun _ _ _ h => h) (Or.inl ⟨by rfl, ?y22⟩) hHeld ?t22
  case y22 => (intro wx hSw; go_simp <;> with_reducible rfl)
  simp only [Act.put, List.setIfInBounds_toArray, List.set_cons_zero, List.set_cons_succ]
  refine take_at (i := 5) (v := ?v23) rfl (by kernel_rfl) (by kernel_rfl) (by kernel_rfl) (fun _ _ _ h => h) (Or.inl ⟨by rfl, ?y23⟩) hHeld ?t23
  case y23 => (intro wx hSw; go_simp <;> with_reducible rfl)
  simp only [Act.put, List.setIfInBounds_toArray, List.set_cons_zero, List.set_cons_succ]
  refine take_at (i := 6) (v := ?v24) rfl (by kernel_rfl) (by kernel_rfl) (by kernel_rfl) (fun _ _ _ h => h) (Or.inl ⟨by rfl, ?y24⟩) hHeld ?t24
  case y24 => (intro wx hSw; go_simp <;> with_reducible rfl)
  simp only [Act.put, List.setIfInBounds_toArray, List.set_cons_zero, List.set_cons_succ]
  refine take_at (i := 7) (v := ?v25) rfl (by kernel_rfl) (by kernel_rfl) (by kernel_rfl) (fun _ _ _ h => h) (Or.inl ⟨by rfl, ?y25⟩) hHeld ?t25
  case y25 => (intro wx hSw; have hc2 : wx.cell? ⟨w.heap.size + 1, 2, none⟩ = some (.int .i64 s.2.2) := hSw.2.c 2 (of_decide_eq_true rfl); go_simp <;> with_reducible rfl)
  simp only [Act.put, List.setIfInBounds_toArray, List.set_cons_zero, List.set_cons_succ]
  refine take_at (i := 9) (v := ?v26) rfl (by kernel_rfl) (by kernel_rfl) (by kernel_rfl) (fun _ _ _ h => h) (Or.inl ⟨by rfl, ?y26⟩) hHeld ?t26
  case y26 => (intro wx hSw; go_simp <;> with_reducible rfl)
  simp only [Act.put, List.setIfInBounds_toArray, List.set_cons_zero, List.set_cons_succ]
  refine take_at (i := 12) (v := ?v27) rfl (by kernel_rfl) (by kernel_rfl) (by kernel_rfl) (fun _ _ _ h => h) (Or.inl ⟨by rfl, ?y27⟩) hHeld ?t27
  case y27 => (intro wx hSw; go_simp <;> with_reducible rfl)
  simp only [Act.put, List.setIfInBounds_toArray, List.set_cons_zero, List.set_cons_succ]
  refine take_at (i := 13) (v := ?v28) rfl (by kernel_rfl) (by kernel_rfl) (by kernel_rfl) (fun _ _ _ h => h) (Or.inl ⟨by rfl, ?y28⟩) hHeld ?t28
  case y28 => (intro wx hSw; go_simp <;> with_reducible rfl)
  simp only [Act.put, List.setIfInBounds_toArray, List.set_cons_zero, List.set_cons_succ]
  refine take_at (i := 14) (v := ?v29) rfl (by kernel_rfl) (by kernel_rfl) (by kernel_rfl) (fun _ _ _ h => h) (Or.inl ⟨by rfl, ?y29⟩) hHeld ?t29
  case y29 => (intro wx hSw; have hc4 : wx.cell? ⟨w.heap.size, 4, none⟩ = some (.int .i64 o.2.2.2.2.1) := hSw.1.c 4 (of_decide_eq_true rfl); go_simp <;> with_reducible rfl)
  simp only [Act.put, List.setIfInBounds_toArray, List.set_cons_zero, List.set_cons_succ]
  refine take_at (i := 15) (v := ?v30) rfl (by kernel_rfl) (by kernel_rfl) (by kernel_rfl) (fun _ _ _ h => h) (Or.inl ⟨by rfl, ?y30⟩) hHeld ?t30
  case y30 => (intro wx hSw; go_simp <;> with_reducible rfl)
  simp only [Act.put, List.setIfInBounds_toArray, List.set_cons_zero, List.set_cons_succ]
  refine take_at (i := 16) (v := ?v31) rfl (by kernel_rfl) (by kernel_rfl) (by kernel_rfl) (fun _ _ _ h => h) (Or.inl ⟨by rfl, ?y31⟩) hHeld ?t31
  case y31 => (intro wx hSw; go_simp <;> with_reducible rfl)
  simp only [Act.put, List.setIfInBounds_toArray, List.set_cons_zero, List.set_cons_succ]
  refine take_at (i := 17) (v := ?v32) rfl (by kernel_rfl) (by kernel_rfl) (by kernel_rfl) (fun _ _ _ h => h) (Or.inl ⟨by rfl, ?y32⟩) hHeld ?t32
  case y32 => (intro wx hSw; go_simp <;> with_reducible rfl)
  simp only [Act.put, List.setIfInBounds_toArray, List.set_cons_zero, List.set_cons_succ]
  refine take_at (i := 20) (v := ?v33) rfl (by kernel_rfl) (by kernel_rfl) (by kernel_rfl) (fun _ _ _ h => h) (Or.inl ⟨by rfl, ?y33⟩) hHeld ?t33
  case y33 => (intro wx hSw; go_simp <;> with_reducible rfl)
  simp only [Act.put, List.setIfInBounds_toArray, List.set_cons_zero, List.set_cons_succ]
  refine take_at (i := 21) (v := ?v34) rfl (by kernel_rfl) (by kernel_rfl) (by kernel_rfl) (fun _ _ _ h => h) (Or.inl ⟨by rfl, ?y34⟩) hHeld ?t34
  case y34 => (intro wx hSw; go_simp <;> with_reducible rfl)
  simp only [Act.put, List.setIfInBounds_toArray, List.set_cons_zero, List.set_cons_succ]
  refine take_at (i := 22) (v := ?v35) rfl (by kernel_rfl) (by kernel_rfl) (by kernel_rfl) (fun _ _ _ h => h) (Or.inl ⟨by rfl, ?y35⟩) hHeld ?t35
  case y35 => (intro wx hSw; go_simp <;> with_reducible rfl)
  simp only [Act.put, List.setIfInBounds_toArray, List.set_cons_zero, List.set_cons_succ]
  refine take_at (i := 23) (v := ?v36) rfl (by kernel_rfl) (by kernel_rfl) (by kernel_rfl) (fun _ _ _ h => h) (Or.inl ⟨by rfl, ?y36⟩) hHeld ?t36
  case y36 => (intro wx hSw; have hc5 : wx.cell? ⟨w.heap.size, 5, none⟩ = some (.int .i64 o.2.2.2.2.2.1) := hSw.1.c 5 (of_decide_eq_true rfl); go_simp <;> with_reducible rfl)
  simp only [Act.put, List.setIfInBounds_toArray, List.set_cons_zero, List.set_cons_succ]
  refine take_at (i := 24) (v := ?v37) rfl (by kernel_rfl) (by kernel_rfl) (by kernel_rfl) (fun _ _ _ h => h) (Or.inl ⟨by rfl, ?y37⟩) hHeld ?t37
  case y37 => (intro wx hSw; go_simp <;> with_reducible rfl)
  simp only [Act.put, List.setIfInBounds_toArray, List.set_cons_zero, List.set_cons_succ]
  refine take_at (i := 25) (v := ?v38) rfl (by kernel_rfl) (by kernel_rfl) (by kernel_rfl) (fun _ _ _ h => h) (Or.inl ⟨by rfl, ?y38⟩) hHeld ?t38
  case y38 => (intro wx hSw; go_simp <;> with_reducible rfl)
  simp only [Act.put, List.setIfInBounds_toArray, List.set_cons_zero, List.set_cons_succ]
  refine take_at (i := 26) (v := ?v39) rfl (by kernel_rfl) (by kernel_rfl) (by kernel_rfl) (fun _ _ _ h => h) (Or.inl ⟨by rfl, ?y39⟩) hHeld ?t39
  case y39 => (intro wx hSw; go_simp <;> with_reducible rfl)
  simp only [Act.put, List.setIfInBounds_toArray, List.set_cons_zero, List.set_cons_succ]
  refine take_at (i := 27) (v := ?v40) rfl (by kernel_rfl) (by kernel_rfl) (by kernel_rfl) (fun _ _ _ h => h) (Or.inl ⟨by rfl, ?y40⟩) hHeld ?t40
  case y40 => (intro wx hSw; go_simp <;> with_reducible rfl)
  simp only [Act.put, List.setIfInBounds_toArray, List.set_cons_zero, List.set_cons_succ]
  refine take_at (i := 29) (v := ?v41) rfl (by kernel_rfl) (by kernel_rfl) (by kernel_rfl) (fun _ _ _ h => h) (Or.inl ⟨by rfl, ?y41⟩) hHeld ?t41
  case y41 => (intro wx hSw; go_simp <;> with_reducible rfl)
  simp only [Act.put, List.setIfInBounds_toArray, List.set_cons_zero, List.set_cons_succ]
  refine call_at (i := 8) (by kernel_rfl) rfl (fun K hK => ?_)
  go_simp
  refine (Mul_any b r17.2 r9.1 s.2.2 _ f17.drew).mono ?_
  rintro e w18 ⟨rfl, f18, k18⟩
  generalize e18 : mulS r17.2 r9.1 s.2.2 = r18 at f18 ⊢
  have E18 : Hid _ := e18
  clear e18
  have K18 : Kept b w w18 := Kept.trans K17.drew k18
  have B0_18 : Arr w.heap.size [.int .i64 o.1, .int .i64 o.2.1, .int .i64 o.2.2.1, .int .i64 o.2.2.2.1, .int .i64 o.2.2.2.2.1, .int .i64 o.2.2.2.2.2.1, .int .i64 o.2.2.2.2.2.2] w18 := B0_17.drew.kept k18 (Nat.ne_of_gt y1_BF)
  have B1_18 : Arr (w.heap.size + 1) [.int .i64 s.1, .int .i64 s.2.1, .int .i64 s.2.2] w18 := B1_17.drew.kept k18 (Nat.ne_of_gt y2_BF)
  have B2_18 : Arr (w.heap.size + 1 + 1) [.int .i64 0, .int .i64 0, .int .i64 0] w18 := B2_17.drew.kept k18 (Nat.ne_of_gt y3_BF)
  have z18 := B2_18.lies
  clear hHeld
  refine hK.out _ _ ⟨B0_18, B1_18⟩ (fun hHeld => ?_)
  clear hK K K17 f17 B0_17 B1_17 B2_17 k18
  refine call_at (i := 10) (by kernel_rfl) rfl (fun K hK => ?_)
  go_simp
  refine (Mul_any b r18.2 r18.1 d _ f18).mono ?_
  rintro e w19 ⟨rfl, f19, k19⟩
  generalize e19 : mulS r18.2 r18.1 d = r19 at f19 ⊢
  have E19 : Hid _ := e19
  clear e19
  have K19 : Kept b w w19 := Kept.trans K18 k19
  have B0_19 : Arr w.heap.size [.int .i64 o.1, .int .i64 o.2.1, .int .i64 o.2.2.1, .int .i64 o.2.2.2.1, .int .i64 o.2.2.2.2.1, .int .i64 o.2.2.2.2.2.1, .int .i64 o.2.2.2.2.2.2] w19 := B0_18.kept k19 (Nat.ne_of_gt y1_BF)
  have B1_19 : Arr (w.heap.size + 1) [.int .i64 s.1, .int .i64 s.2.1, .int .i64 s.2.2] w19 := B1_18.kept k19 (Nat.ne_of_gt y2_BF)
  have B2_19 : Arr (w.heap.size + 1 + 1) [.int .i64 0, .int .i64 0, .int .i64 0] w19 := B2_18.kept k19 (Nat.ne_of_gt y3_BF)
  have z19 := B2_19.lies
  clear hHeld
  refine hK.out _ _ ⟨B0_19, B1_19⟩ (fun hHeld => ?_)
  clear hK K K18 f18 B0_18 B1_18 B2_18 k19
  refine call_at (i := 11) (by kernel_rfl) rfl (fun K hK => ?_)
  go_simp
  refine (Sub_any b r19.2 o.2.2.2.1 r19.1 _ f19).mono ?_
  rintro e w20 ⟨rfl, f20, k20⟩
  generalize e20 : subS r19.2 o.2.2.2.1 r19.1 = r20 at f20 ⊢
  have E20 : Hid _ := e20
  clear e20
  have K20 : Kept b w w20 := Kept.trans K19 k20
  have B0_20 : Arr w.heap.size [.int .i64 o.1, .int .i64 o.2.1, .int .i64 o.2.2.1, .int .i64 o.2.2.2.1, .int .i64 o.2.2.2.2.1, .int .i64 o.2.2.2.2.2.1, .int .i64 o.2.2.2.2.2.2] w20 := B0_19.kept k20 (Nat.ne_of_gt y1_BF)
  have B1_20 : Arr (w.heap.size + 1) [.int .i64 s.1, .int .i64 s.2.1, .int .i64 s.2.2] w20 := B1_19.kept k20 (Nat.ne_of_gt y2_BF)
  have B2_20 : Arr (w.heap.size + 1 + 1) [.int .i64 0, .int .i64 0, .int .i64 0] w20 := B2_19.kept k20 (Nat.ne_of_gt y3_BF)
  have z20 := B2_20.lies
  clear hHeld
  refine hK.out _ _ ⟨B0_20, B1_20⟩ (fun hHeld => ?_)
  clear hK K K19 f19 B0_19 B1_19 B2_19 k20
  refine call_at (i := 18) (by kernel_rfl) rfl (fun K hK => ?_)
  go_simp
  refine (Mul_any b r20.2 r13.1 d _ f20).mono ?_
  rintro e w21 ⟨rfl, f21, k21⟩
  generalize e21 : mulS r20.2 r13.1 d = r21 at f21 ⊢
  have E21 : Hid _ := e21
  clear e21
  have K21 : Kept b w w21 := Kept.trans K20 k21
  have B0_21 : Arr w.heap.size [.int .i64 o.1, .int .i64 o.2.1, .int .i64 o.2.2.1, .int .i64 o.2.2.2.1, .int .i64 o.2.2.2.2.1, .int .i64 o.2.2.2.2.2.1, .int .i64 o.2.2.2.2.2.2] w21 := B0_20.kept k21 (Nat.ne_of_gt y1_BF)
  have B1_21 : Arr (w.heap.size + 1) [.int .i64 s.1, .int .i64 s.2.1, .int .i64 s.2.2] w21 := B1_20.kept k21 (Nat.ne_of_gt y2_BF)
  have B2_21 : Arr (w.heap.size + 1 + 1) [.int .i64 0, .int .i64 0, .int .i64 0] w21 := B2_20.kept k21 (Nat.ne_of_gt y3_BF)
  have z21 := B2_21.lies
  clear hHeld
  refine hK.out _ _ ⟨B0_21, B1_21⟩ (fun hHeld => ?_)
  clear hK K K20 f20 B0_20 B1_20 B2_20 k21
  refine call_at (i := 19) (by kernel_rfl) rfl (fun K hK => ?_)
  go_simp
  refine (Add_any b r21.2 o.2.2.2.2.1 r21.1 _ f21).mono ?_
  rintro e w22 ⟨rfl, f22, k22⟩
  generalize e22 : addS r21.2 o.2.2.2.2.1 r21.1 = r22 at f22 ⊢
  have E22 : Hid _ := e22
  clear e22
  have K22 : Kept b w w22 := Kept.trans K21 k22
  have B0_22 : Arr w.heap.size [.int .i64 o.1, .int .i64 o.2.1, .int .i64 o.2.2.1, .int .i64 o.2.2.2.1, .int .i64 o.2.2.2.2.1, .int .i64 o.2.2.2.2.2.1, .int .i64 o.2.2.2.2.2.2] w22 := B0_21.kept k22 (Nat.ne_of_gt y1_BF)
  have B1_22 : Arr (w.heap.size + 1) [.int .i64 s.1, .int .i64 s.2.1, .int .i64 s.2.2] w22 := B1_21.kept k22 (Nat.ne_of_gt y2_BF)
  have B2_22 : Arr (w.heap.size + 1 + 1) [.int .i64 0, .int .i64 0, .int .i64 0] w22 := B2_21.kept k22 (Nat.ne_of_gt y3_BF)
  have z22 := B2_22.lies
  clear hHeld
  refine hK.out _ _ ⟨B0_22, B1_22⟩ (fun hHeld => ?_)
  clear hK K K21 f21 B0_21 B1_21 B2_21 k22
  refine call_at (i := 28) (by kernel_rfl) rfl (fun K hK => ?_)
  go_simp
  refine (Add_any b r22.2 r3.1 r17.1 _ f22).mono ?_
  rintro e w23 ⟨rfl, f23, k23⟩
  generalize e23 : addS r22.2 r3.1 r17.1 = r23 at f23 ⊢
  have E23 : Hid _ := e23
  clear e23
  have K23 : Kept b w w23 := Kept.trans K22 k23
  have B0_23 : Arr w.heap.size [.int .i64 o.1, .int .i64 o.2.1, .int .i64 o.2.2.1, .int .i64 o.2.2.2.1, .int .i64 o.2.2.2.2.1, .int .i64 o.2.2.2.2.2.1, .int .i64 o.2.2.2.2.2.2] w23 := B0_22.kept k23 (Nat.ne_of_gt y1_BF)
  have B1_23 : Arr (w.heap.size + 1) [.int .i64 s.1, .int .i64 s.2.1, .int .i64 s.2.2] w23 := B1_22.kept k23 (Nat.ne_of_gt y2_BF)
  have B2_23 : Arr (w.heap.size + 1 + 1) [.int .i64 0, .int .i64 0, .int .i64 0] w23 := B2_22.kept k23 (Nat.ne_of_gt y3_BF)
  have z23 := B2_23.lies
  clear hHeld
  refine hK.out _ _ ⟨B0_23, B1_23⟩ (fun hHeld => ?_)
  clear hK K K22 f22 B0_22 B1_22 B2_22 k23
  refine call_at (i := 30) (by kernel_rfl) rfl (fun K hK => ?_)
  go_simp
  refine (Mul_any b r23.2 r23.1 d _ f23).mono ?_
  rintro e w24 ⟨rfl, f24, k24⟩
  generalize e24 : mulS r23.2 r23.1 d = r24 at f24 ⊢
  have E24 : Hid _ := e24
  clear e24
  have K24 : Kept b w w24 := Kept.trans K23 k24
  have B0_24 : Arr w.heap.size [.int .i64 o.1, .int .i64 o.2.1, .int .i64 o.2.2.1, .int .i64 o.2.2.2.1, .int .i64 o.2.2.2.2.1, .int .i64 o.2.2.2.2.2.1, .int .i64 o.2.2.2.2.2.2] w24 := B0_23.kept k24 (Nat.ne_of_gt y1_BF)
  have B1_24 : Arr (w.heap.size + 1) [.int .i64 s.1, .int .i64 s.2.1, .int .i64 s.2.2] w24 := B1_23.kept k24 (Nat.ne_of_gt y2_BF)
  have B2_24 : Arr (w.heap.size + 1 + 1) [.int .i64 0, .int .i64 0, .int .i64 0] w24 := B2_23.kept k24 (Nat.ne_of_gt y3_BF)
  have z24 := B2_24.lies
  clear hHeld
  refine hK.out _ _ ⟨B0_24, B1_24⟩ (fun hHeld => ?_)
  clear hK K K23 f23 B0_23 B1_23 B2_23 k24
  refine call_at (i := 31) (by kernel_rfl) rfl (fun K hK => ?_)
  go_simp
  refine (Add_any b r24.2 o.2.2.2.2.2.1 r24.1 _ f24).mono ?_
  rintro e w25 ⟨rfl, f25, k25⟩
  generalize e25 : addS r24.2 o.2.2.2.2.2.1 r24.1 = r25 at f25 ⊢
  have E25 : Hid _ := e25
  clear e25
  have K25 : Kept b w w25 := Kept.trans K24 k25
  have B0_25 : Arr w.heap.size [.int .i64 o.1, .int .i64 o.2.1, .int .i64 o.2.2.1, .int .i64 o.2.2.2.1, .int .i64 o.2.2.2.2.1, .int .i64 o.2.2.2.2.2.1, .int .i64 o.2.2.2.2.2.2] w25 := B0_24.kept k25 (Nat.ne_of_gt y1_BF)
  have B1_25 : Arr (w.heap.size + 1) [.int .i64 s.1, .int .i64 s.2.1, .int .i64 s.2.2] w25 := B1_24.kept k25 (Nat.ne_of_gt y2_BF)
  have B2_25 : Arr (w.heap.size + 1 + 1) [.int .i64 0, .int .i64 0, .int .i64 0] w25 := B2_24.kept k25 (Nat.ne_of_gt y3_BF)
  have z25 := B2_25.lies
  clear hHeld
  refine hK.out _ _ ⟨B0_25, B1_25⟩ (fun hHeld => ?_)
  clear hK K K24 f24 B0_24 B1_24 B2_24 k25
  refine call_at (i := 32) (by kernel_rfl) rfl (fun K hK => ?_)
  go_simp
  refine (Mod_any b r25.2 r25.1 6908435304716 _ f25).mono ?_
  rintro e w26 ⟨rfl, f26, k26⟩
  generalize e26 : modS r25.2 r25.1 6908435304716 = r26 at f26 ⊢
  have E26 : Hid _ := e26
  clear e26
  have K26 : Kept b w w26 := Kept.trans K25 k26
  have B0_26 : Arr w.heap.size [.int .i64 o.1, .int .i64 o.2.1, .int .i64 o.2.2.1, .int .i64 o.2.2.2.1, .int .i64 o.2.2.2.2.1, .int .i64 o.2.2.2.2.2.1, .int .i64 o.2.2.2.2.2.2] w26 := B0_25.kept k26 (Nat.ne_of_gt y1_BF)
  have B1_26 : Arr (w.heap.size + 1) [.int .i64 s.1, .int .i64 s.2.1, .int .i64 s.2.2] w26 := B1_25.kept k26 (Nat.ne_of_gt y2_BF)
  have B2_26 : Arr (w.heap.size + 1 + 1) [.int .i64 0, .int .i64 0, .int .i64 0] w26 := B2_25.kept k26 (Nat.ne_of_gt y3_BF)
  have z26 := B2_26.lies
  clear hHeld
  refine hK.out _ _ ⟨B0_26, B1_26⟩ (fun hHeld => ?_)
  clear hK K K25 f25 B0_25 B1_25 B2_25 k26
  refine take_at (i := 33) (v := ?v42) rfl (by kernel_rfl) (by kernel_rfl) (by kernel_rfl) (fun _ _ _ h => h) (Or.inl ⟨by rfl, ?y42⟩) hHeld ?t42
  case y42 => (intro wx hSw; go_simp <;> with_reducible rfl)
  simp only [Act.put, List.setIfInBounds_toArray, List.set_cons_zero, List.set_cons_succ]
  refine call_at (i := 34) (by kernel_rfl) rfl (fun K hK => ?_)
  have c16_B2_0 : w26.cell? ⟨w.heap.size + 1 + 1, 0, none⟩ = some (.int .i64 0) := B2_26.c 0 (of_decide_eq_true rfl)
  have c16_B2_1 : w26.cell? ⟨w.heap.size + 1 + 1, 1, none⟩ = some (.int .i64 0) := B2_26.c 1 (of_decide_eq_true rfl)
  have c16_B2_2 : w26.cell? ⟨w.heap.size + 1 + 1, 2, none⟩ = some (.int .i64 0) := B2_26.c 2 (of_decide_eq_true rfl)
  have g16_B2_0 := B2_26.f 0 (of_decide_eq_true rfl)
  have g16_B2_1 := B2_26.f 1 (of_decide_eq_true rfl)
  have g16_B2_2 := B2_26.f 2 (of_decide_eq_true rfl)
  go_simp
  clear hHeld
  refine hK.out _ _ ⟨(((B0_26.new (w.heap.size + 1 + 1) 0 (Nat.ne_of_lt y3_B0) (.int .i64 r20.1)).new (w.heap.size + 1 + 1) 1 (Nat.ne_of_lt y3_B0) (.int .i64 r22.1)).new (w.heap.size + 1 + 1) 2 (Nat.ne_of_lt y3_B0) (.int .i64 r26.1)), (((B1_26.new (w.heap.size + 1 + 1) 0 (Nat.ne_of_lt y3_B1) (.int .i64 r20.1)).new (w.heap.size + 1 + 1) 1 (Nat.ne_of_lt y3_B1) (.int .i64 r22.1)).new (w.heap.size + 1 + 1) 2 (Nat.ne_of_lt y3_B1) (.int .i64 r26.1))⟩ (fun hHeld => ?_)
  clear hK K c16_B2_0 c16_B2_1 c16_B2_2 g16_B2_0 g16_B2_1 g16_B2_2
  refine wpAnyH_done (by kernel_rfl) ?_ _
  clear hHeld
  go_wp2_with (with_reducible refine post_stop ?_)
  refine Stop.mk ?_
  refine bodyPost_ret (v := .agg #[.int .i64 r20.1, .int .i64 r22.1, .int .i64 r26.1]) (results_arr Try.results39 (((B2_26.put 0 (of_decide_eq_true rfl) (.int .i64 r20.1) [.int .i64 r20.1, .int .i64 0, .int .i64 0] rfl).put 1 (of_decide_eq_true rfl) (.int .i64 r22.1) [.int .i64 r20.1, .int .i64 r22.1, .int .i64 0] rfl).put 2 (of_decide_eq_true rfl) (.int .i64 r26.1) [.int .i64 r20.1, .int .i64 r22.1, .int .i64 r26.1] rfl) rfl (by kernel_rfl) (by kernel_rfl)) rfl ?_
  have hs : driftS bad o s d = ((r20.1, r22.1, r26.1), r26.2) := by unfold driftS; simp only [E1.out, E2.out, E3.out, E4.out, E5.out, E6.out, E7.out, E8.out, E9.out, E10.out, E11.out, E12.out, E13.out, E14.out, E15.out, E16.out, E17.out, E18.out, E19.out, E20.out, E21.out, E22.out, E23.out, E24.out, E25.out, E26.out]
  rw [hs]
  exact ⟨rfl, (((f26.new (w.heap.size + 1 + 1) 0 (Nat.ne_of_lt y3_BF) (.int .i64 r20.1)).new (w.heap.size + 1 + 1) 1 (Nat.ne_of_lt y3_BF) (.int .i64 r22.1)).new (w.heap.size + 1 + 1) 2 (Nat.ne_of_lt y3_BF) (.int .i64 r26.1)), (((K26.new _ _ (by omega) _).new _ _ (by omega) _).new _ _ (by omega) _)⟩
set_option maxRecDepth 100000 in
set_option maxHeartbeats 2000000 in
theorem oturned_any (b : Nat) (bad : Bool) (u : Int) (v : Int) (a : Int) (w : World) (hw : Fl b bad w) :
    Calls Try.prog 40 #[.pointer (some ⟨b, 0, none⟩), .int .i64 u, .int .i64 v, .int .i64 a] w fun e w' => e = .returned (.tuple #[.int .i64 ((turnedS bad u v a).1.1), .int .i64 ((turnedS bad u v a).1.2)]) ∧ Fl b (turnedS bad u v a).2 w' ∧ Kept b w w' := by
  have hl := hw.lies
  go_enter Try.func40, Try.ntmps40
  go_wp2_with fail
  refine (Sin_any b bad a _ hw).mono ?_
  rintro e w1 ⟨rfl, f1, k1⟩
  generalize e1 : sinA bad a = r1 at f1 ⊢
  have E1 : Hid _ := e1
  clear e1
  have K1 : Kept b w w1 := Kept.trans (Kept.refl b w) k1
  have z1 := K1.size
  clear k1
  go_wp2_with fail
  refine (Cos_any b r1.2 a _ f1).mono ?_
  rintro e w2 ⟨rfl, f2, k2⟩
  generalize e2 : cosA r1.2 a = r2 at f2 ⊢
  have E2 : Hid _ := e2
  clear e2
  have K2 : Kept b w w2 := Kept.trans K1 k2
  have z2 := K2.size
  clear K1 f1 k2
  go_wp2_with fail
  refine (Mul_any b r2.2 u r2.1 _ f2).mono ?_
  rintro e w3 ⟨rfl, f3, k3⟩
  generalize e3 : mulS r2.2 u r2.1 = r3 at f3 ⊢
  have E3 : Hid _ := e3
  clear e3
  have K3 : Kept b w w3 := Kept.trans K2 k3
  have z3 := K3.size
  clear K2 f2 k3
  go_wp2_with fail
  refine (Mul_any b r3.2 v r1.1 _ f3).mono ?_
  rintro e w4 ⟨rfl, f4, k4⟩
  generalize e4 : mulS r3.2 v r1.1 = r4 at f4 ⊢
  have E4 : Hid _ := e4
  clear e4
  have K4 : Kept b w w4 := Kept.trans K3 k4
  have z4 := K4.size
  clear K3 f3 k4
  go_wp2_with fail
  refine (Sub_any b r4.2 r3.1 r4.1 _ f4).mono ?_
  rintro e w5 ⟨rfl, f5, k5⟩
  generalize e5 : subS r4.2 r3.1 r4.1 = r5 at f5 ⊢
  have E5 : Hid _ := e5
  clear e5
  have K5 : Kept b w w5 := Kept.trans K4 k5
  have z5 := K5.size
  clear K4 f4 k5
  go_wp2_with fail
  refine (Mul_any b r5.2 u r1.1 _ f5).mono ?_
  rintro e w6 ⟨rfl, f6, k6⟩
  generalize e6 : mulS r5.2 u r1.1 = r6 at f6 ⊢
  have E6 : Hid _ := e6
  clear e6
  have K6 : Kept b w w6 := Kept.trans K5 k6
  have z6 := K6.size
  clear K5 f5 k6
  go_wp2_with fail
  refine (Mul_any b r6.2 v r2.1 _ f6).mono ?_
  rintro e w7 ⟨rfl, f7, k7⟩
  generalize e7 : mulS r6.2 v r2.1 = r7 at f7 ⊢
  have E7 : Hid _ := e7
  clear e7
  have K7 : Kept b w w7 := Kept.trans K6 k7
  have z7 := K7.size
  clear K6 f6 k7
  go_wp2_with fail
  refine (Add_any b r7.2 r6.1 r7.1 _ f7).mono ?_
  rintro e w8 ⟨rfl, f8, k8⟩
  generalize e8 : addS r7.2 r6.1 r7.1 = r8 at f8 ⊢
  have E8 : Hid _ := e8
  clear e8
  have K8 : Kept b w w8 := Kept.trans K7 k8
  have z8 := K8.size
  clear K7 f7 k8
  go_wp2
  refine bodyPost_ret (v := .tuple #[.int .i64 r5.1, .int .i64 r8.1]) (by simp [results, Try.results40, go_sem]) rfl ?_
  have hs : turnedS bad u v a = ((r5.1, r8.1), r8.2) := by unfold turnedS; simp only [E1.out, E2.out, E3.out, E4.out, E5.out, E6.out, E7.out, E8.out]
  rw [hs]
  exact ⟨rfl, f8, K8⟩
set_option maxRecDepth 100000 in
set_option maxHeartbeats 2000000 in
theorem oPlace_n1 (b : Nat) (bad : Bool) (o : V7) (t : Int) (w : World) (hw : Fl b bad w) (hr : oRightC o = false) :
    Calls Try.prog 14 #[.pointer (some ⟨b, 0, none⟩), .agg #[.int .i64 o.1, .int .i64 o.2.1, .int .i64 o.2.2.1, .int .i64 o.2.2.2.1, .int .i64 o.2.2.2.2.1, .int .i64 o.2.2.2.2.2.1, .int .i64 o.2.2.2.2.2.2], .int .i64 t] w fun e w' => e = .returned (.agg #[.int .i64 ((0, 0, 0).1), .int .i64 ((0, 0, 0).2.1), .int .i64 ((0, 0, 0).2.2)]) ∧ Fl b true w' ∧ Kept b w w' := by
  have hl := hw.lies
  go_enter Try.func14, Try.ntmps14
  have y1_BF : b < w.heap.size := hw.lies
  have y2_BF : b < w.heap.size + 1 := (Nat.lt_succ_of_lt hw.lies)
  have y2_B0 : w.heap.size < w.heap.size + 1 := (Nat.lt_succ_self _)
  go_wp2_with fail
  refine (oRightC_any o _).mono ?_
  rintro e w1 ⟨rfl, k1⟩
  rw [hr]
  try dsimp only
  have K1 : Kept b w w1 := Kept.trans (((Kept.refl b w).al _).al _) (Kept.of_below k1)
  have BF_1 : Fl b bad w1 := ((hw.alloc _).alloc _).below k1
  have B0_1 : Arr w.heap.size [.int .i64 o.1, .int .i64 o.2.1, .int .i64 o.2.2.1, .int .i64 o.2.2.2.1, .int .i64 o.2.2.2.2.1, .int .i64 o.2.2.2.2.2.1, .int .i64 o.2.2.2.2.2.2] w1 := ((Arr_at _ _ [.int .i64 o.1, .int .i64 o.2.1, .int .i64 o.2.2.1, .int .i64 o.2.2.2.1, .int .i64 o.2.2.2.2.1, .int .i64 o.2.2.2.2.2.1, .int .i64 o.2.2.2.2.2.2] _ (by simp)).alloc _).below k1
  have B1_1 : Arr (w.heap.size + 1) [.int .i64 0, .int .i64 0, .int .i64 0] w1 := (Arr_at _ _ [.int .i64 0, .int .i64 0, .int .i64 0] _ (by simp)).below k1
  have z1 := B1_1.lies
  clear k1
  go_wp2_with fail
  refine (Fail_any b bad  _ BF_1).mono ?_
  rintro e w2 ⟨rfl, f2, k2⟩
  have K2 : Kept b w w2 := Kept.trans K1 k2
  have B0_2 : Arr w.heap.size [.int .i64 o.1, .int .i64 o.2.1, .int .i64 o.2.2.1, .int .i64 o.2.2.2.1, .int .i64 o.2.2.2.2.1, .int .i64 o.2.2.2.2.2.1, .int .i64 o.2.2.2.2.2.2] w2 := B0_1.kept k2 (Nat.ne_of_gt y1_BF)
  have B1_2 : Arr (w.heap.size + 1) [.int .i64 0, .int .i64 0, .int .i64 0] w2 := B1_1.kept k2 (Nat.ne_of_gt y2_BF)
  have z2 := B1_2.lies
  clear K1 BF_1 B0_1 B1_1 k2
  have c3_B1_0 : w2.cell? ⟨w.heap.size + 1, 0, none⟩ = some (.int .i64 0) := B1_2.c 0 (of_decide_eq_true rfl)
  have c3_B1_1 : w2.cell? ⟨w.heap.size + 1, 1, none⟩ = some (.int .i64 0) := B1_2.c 1 (of_decide_eq_true rfl)
  have c3_B1_2 : w2.cell? ⟨w.heap.size + 1, 2, none⟩ = some (.int .i64 0) := B1_2.c 2 (of_decide_eq_true rfl)
  have g3_B1_0 := B1_2.f 0 (of_decide_eq_true rfl)
  have g3_B1_1 := B1_2.f 1 (of_decide_eq_true rfl)
  have g3_B1_2 := B1_2.f 2 (of_decide_eq_true rfl)
  go_wp2_with (with_reducible refine post_stop ?_)
  refine Stop.mk ?_
  clear c3_B1_0 c3_B1_1 c3_B1_2 g3_B1_0 g3_B1_1 g3_B1_2
  refine bodyPost_ret (v := .agg #[.int .i64 0, .int .i64 0, .int .i64 0]) (results_arr Try.results14 (((B1_2.put 0 (of_decide_eq_true rfl) (.int .i64 0) [.int .i64 0, .int .i64 0, .int .i64 0] rfl).put 1 (of_decide_eq_true rfl) (.int .i64 0) [.int .i64 0, .int .i64 0, .int .i64 0] rfl).put 2 (of_decide_eq_true rfl) (.int .i64 0) [.int .i64 0, .int .i64 0, .int .i64 0] rfl) rfl (by kernel_rfl) (by kernel_rfl)) rfl ?_
  exact ⟨rfl, (((f2.new (w.heap.size + 1) 0 (Nat.ne_of_lt y2_BF) (.int .i64 0)).new (w.heap.size + 1) 1 (Nat.ne_of_lt y2_BF) (.int .i64 0)).new (w.heap.size + 1) 2 (Nat.ne_of_lt y2_BF) (.int .i64 0)), (((K2.new _ _ (by omega) _).new _ _ (by omega) _).new _ _ (by omega) _)⟩
set_option maxRecDepth 100000 in
set_option maxHeartbeats 2000000 in
theorem oPlace_n2 (b : Nat) (bad : Bool) (o : V7) (t : Int) (w : World) (hw : Fl b bad w) (hr : oRightC o = true) (ht : cRight t = false) :
    Calls Try.prog 14 #[.pointer (some ⟨b, 0, none⟩), .agg #[.int .i64 o.1, .int .i64 o.2.1, .int .i64 o.2.2.1, .int .i64 o.2.2.2.1, .int .i64 o.2.2.2.2.1, .int .i64 o.2.2.2.2.2.1, .int .i64 o.2.2.2.2.2.2], .int .i64 t] w fun e w' => e = .returned (.agg #[.int .i64 ((0, 0, 0).1), .int .i64 ((0, 0, 0).2.1), .int .i64 ((0, 0, 0).2.2)]) ∧ Fl b true w' ∧ Kept b w w' := by
  have hl := hw.lies
  go_enter Try.func14, Try.ntmps14
  have y1_BF : b < w.heap.size := hw.lies
  have y2_BF : b < w.heap.size + 1 := (Nat.lt_succ_of_lt hw.lies)
  have y2_B0 : w.heap.size < w.heap.size + 1 := (Nat.lt_succ_self _)
  go_wp2_with fail
  refine (oRightC_any o _).mono ?_
  rintro e w1 ⟨rfl, k1⟩
  rw [hr]
  try dsimp only
  have K1 : Kept b w w1 := Kept.trans (((Kept.refl b w).al _).al _) (Kept.of_below k1)
  have BF_1 : Fl b bad w1 := ((hw.alloc _).alloc _).below k1
  have B0_1 : Arr w.heap.size [.int .i64 o.1, .int .i64 o.2.1, .int .i64 o.2.2.1, .int .i64 o.2.2.2.1, .int .i64 o.2.2.2.2.1, .int .i64 o.2.2.2.2.2.1, .int .i64 o.2.2.2.2.2.2] w1 := ((Arr_at _ _ [.int .i64 o.1, .int .i64 o.2.1, .int .i64 o.2.2.1, .int .i64 o.2.2.2.1, .int .i64 o.2.2.2.2.1, .int .i64 o.2.2.2.2.2.1, .int .i64 o.2.2.2.2.2.2] _ (by simp)).alloc _).below k1
  have B1_1 : Arr (w.heap.size + 1) [.int .i64 0, .int .i64 0, .int .i64 0] w1 := (Arr_at _ _ [.int .i64 0, .int .i64 0, .int .i64 0] _ (by simp)).below k1
  have z1 := B1_1.lies
  clear k1
  go_wp2_with fail
  refine (cRight_any t _).mono ?_
  rintro e w2 ⟨rfl, k2⟩
  rw [ht]
  try dsimp only
  have K2 : Kept b w w2 := Kept.trans K1 (Kept.of_below k2)
  have BF_2 : Fl b bad w2 := BF_1.below k2
  have B0_2 : Arr w.heap.size [.int .i64 o.1, .int .i64 o.2.1, .int .i64 o.2.2.1, .int .i64 o.2.2.2.1, .int .i64 o.2.2.2.2.1, .int .i64 o.2.2.2.2.2.1, .int .i64 o.2.2.2.2.2.2] w2 := B0_1.below k2
  have B1_2 : Arr (w.heap.size + 1) [.int .i64 0, .int .i64 0, .int .i64 0] w2 := B1_1.below k2
  have z2 := B1_2.lies
  clear K1 BF_1 B0_1 B1_1 k2
  go_wp2_with fail
  refine (Fail_any b bad  _ BF_2).mono ?_
  rintro e w3 ⟨rfl, f3, k3⟩
  have K3 : Kept b w w3 := Kept.trans K2 k3
  have B0_3 : Arr w.heap.size [.int .i64 o.1, .int .i64 o.2.1, .int .i64 o.2.2.1, .int .i64 o.2.2.2.1, .int .i64 o.2.2.2.2.1, .int .i64 o.2.2.2.2.2.1, .int .i64 o.2.2.2.2.2.2] w3 := B0_2.kept k3 (Nat.ne_of_gt y1_BF)
  have B1_3 : Arr (w.heap.size + 1) [.int .i64 0, .int .i64 0, .int .i64 0] w3 := B1_2.kept k3 (Nat.ne_of_gt y2_BF)
  have z3 := B1_3.lies
  clear K2 BF_2 B0_2 B1_2 k3
  have c4_B1_0 : w3.cell? ⟨w.heap.size + 1, 0, none⟩ = some (.int .i64 0) := B1_3.c 0 (of_decide_eq_true rfl)
  have c4_B1_1 : w3.cell? ⟨w.heap.size + 1, 1, none⟩ = some (.int .i64 0) := B1_3.c 1 (of_decide_eq_true rfl)
  have c4_B1_2 : w3.cell? ⟨w.heap.size + 1, 2, none⟩ = some (.int .i64 0) := B1_3.c 2 (of_decide_eq_true rfl)
  have g4_B1_0 := B1_3.f 0 (of_decide_eq_true rfl)
  have g4_B1_1 := B1_3.f 1 (of_decide_eq_true rfl)
  have g4_B1_2 := B1_3.f 2 (of_decide_eq_true rfl)
  go_wp2_with (with_reducible refine post_stop ?_)
  refine Stop.mk ?_
  clear c4_B1_0 c4_B1_1 c4_B1_2 g4_B1_0 g4_B1_1 g4_B1_2
  refine bodyPost_ret (v := .agg #[.int .i64 0, .int .i64 0, .int .i64 0]) (results_arr Try.results14 (((B1_3.put 0 (of_decide_eq_true rfl) (.int .i64 0) [.int .i64 0, .int .i64 0, .int .i64 0] rfl).put 1 (of_decide_eq_true rfl) (.int .i64 0) [.int .i64 0, .int .i64 0, .int .i64 0] rfl).put 2 (of_decide_eq_true rfl) (.int .i64 0) [.int .i64 0, .int .i64 0, .int .i64 0] rfl) rfl (by kernel_rfl) (by kernel_rfl)) rfl ?_
  exact ⟨rfl, (((f3.new (w.heap.size + 1) 0 (Nat.ne_of_lt y2_BF) (.int .i64 0)).new (w.heap.size + 1) 1 (Nat.ne_of_lt y2_BF) (.int .i64 0)).new (w.heap.size + 1) 2 (Nat.ne_of_lt y2_BF) (.int .i64 0)), (((K3.new _ _ (by omega) _).new _ _ (by omega) _).new _ _ (by omega) _)⟩
set_option maxRecDepth 100000 in
set_option maxHeartbeats 2000000 in
theorem oPlace_bad (b : Nat) (o : V7) (t : Int) (w : World) (hw : Fl b true w) (hr : oRightC o = true) (ht : cRight t = true) :
    Calls Try.prog 14 #[.pointer (some ⟨b, 0, none⟩), .agg #[.int .i64 o.1, .int .i64 o.2.1, .int .i64 o.2.2.1, .int .i64 o.2.2.2.1, .int .i64 o.2.2.2.2.1, .int .i64 o.2.2.2.2.2.1, .int .i64 o.2.2.2.2.2.2], .int .i64 t] w fun e w' => e = .returned (.agg #[.int .i64 ((0, 0, 0).1), .int .i64 ((0, 0, 0).2.1), .int .i64 ((0, 0, 0).2.2)]) ∧ Fl b true w' ∧ Kept b w w' := by
  have hl := hw.lies
  go_enter Try.func14, Try.ntmps14
  have y1_BF : b < w.heap.size := hw.lies
  have y2_BF : b < w.heap.size + 1 := (Nat.lt_succ_of_lt hw.lies)
  have y2_B0 : w.heap.size < w.heap.size + 1 := (Nat.lt_succ_self _)
  go_wp2_with fail
  refine (oRightC_any o _).mono ?_
  rintro e w1 ⟨rfl, k1⟩
  rw [hr]
  try dsimp only
  have K1 : Kept b w w1 := Kept.trans (((Kept.refl b w).al _).al _) (Kept.of_below k1)
  have BF_1 : Fl b true w1 := ((hw.alloc _).alloc _).below k1
  have B0_1 : Arr w.heap.size [.int .i64 o.1, .int .i64 o.2.1, .int .i64 o.2.2.1, .int .i64 o.2.2.2.1, .int .i64 o.2.2.2.2.1, .int .i64 o.2.2.2.2.2.1, .int .i64 o.2.2.2.2.2.2] w1 := ((Arr_at _ _ [.int .i64 o.1, .int .i64 o.2.1, .int .i64 o.2.2.1, .int .i64 o.2.2.2.1, .int .i64 o.2.2.2.2.1, .int .i64 o.2.2.2.2.2.1, .int .i64 o.2.2.2.2.2.2] _ (by simp)).alloc _).below k1
  have B1_1 : Arr (w.heap.size + 1) [.int .i64 0, .int .i64 0, .int .i64 0] w1 := (Arr_at _ _ [.int .i64 0, .int .i64 0, .int .i64 0] _ (by simp)).below k1
  have z1 := B1_1.lies
  clear k1
  go_wp2_with fail
  refine (cRight_any t _).mono ?_
  rintro e w2 ⟨rfl, k2⟩
  rw [ht]
  try dsimp only
  have K2 : Kept b w w2 := Kept.trans K1 (Kept.of_below k2)
  have BF_2 : Fl b true w2 := BF_1.below k2
  have B0_2 : Arr w.heap.size [.int .i64 o.1, .int .i64 o.2.1, .int .i64 o.2.2.1, .int .i64 o.2.2.2.1, .int .i64 o.2.2.2.2.1, .int .i64 o.2.2.2.2.2.1, .int .i64 o.2.2.2.2.2.2] w2 := B0_1.below k2
  have B1_2 : Arr (w.heap.size + 1) [.int .i64 0, .int .i64 0, .int .i64 0] w2 := B1_1.below k2
  have z2 := B1_2.lies
  clear K1 BF_1 B0_1 B1_1 k2
  go_wp2_with fail
  refine wp_region_held_drew (S := fun w' => Arr w.heap.size [.int .i64 o.1, .int .i64 o.2.1, .int .i64 o.2.2.1, .int .i64 o.2.2.2.1, .int .i64 o.2.2.2.2.1, .int .i64 o.2.2.2.2.2.1, .int .i64 o.2.2.2.2.2.2] w') (by kernel_rfl) B0_2.drew (fun hHeld => ?_)
  refine take_at (i := 0) (v := ?v1) rfl (by kernel_rfl) (by kernel_rfl) (by kernel_rfl) (fun _ _ _ h => h) (Or.inl ⟨by rfl, ?y1⟩) hHeld ?t1
  case y1 => (intro wx hSw; go_simp <;> with_reducible rfl)
  simp only [Act.put, List.setIfInBounds_toArray, List.set_cons_zero, List.set_cons_succ]
  refine take_at (i := 1) (v := ?v2) rfl (by kernel_rfl) (by kernel_rfl) (by kernel_rfl) (fun _ _ _ h => h) (Or.inl ⟨by rfl, ?y2⟩) hHeld ?t2
  case y2 => (intro wx hSw; go_simp <;> with_reducible rfl)
  simp only [Act.put, List.setIfInBounds_toArray, List.set_cons_zero, List.set_cons_succ]
  refine take_at (i := 2) (v := ?v3) rfl (by kernel_rfl) (by kernel_rfl) (by kernel_rfl) (fun _ _ _ h => h) (Or.inl ⟨by rfl, ?y3⟩) hHeld ?t3
  case y3 => (intro wx hSw; go_simp <;> with_reducible rfl)
  simp only [Act.put, List.setIfInBounds_toArray, List.set_cons_zero, List.set_cons_succ]
  refine take_at (i := 4) (v := ?v4) rfl (by kernel_rfl) (by kernel_rfl) (by kernel_rfl) (fun _ _ _ h => h) (Or.inl ⟨by rfl, ?y4⟩) hHeld ?t4
  case y4 => (intro wx hSw; go_simp <;> with_reducible rfl)
  simp only [Act.put, List.setIfInBounds_toArray, List.set_cons_zero, List.set_cons_succ]
  refine take_at (i := 5) (v := ?v5) rfl (by kernel_rfl) (by kernel_rfl) (by kernel_rfl) (fun _ _ _ h => h) (Or.inl ⟨by rfl, ?y5⟩) hHeld ?t5
  case y5 => (intro wx hSw; go_simp <;> with_reducible rfl)
  simp only [Act.put, List.setIfInBounds_toArray, List.set_cons_zero, List.set_cons_succ]
  refine take_at (i := 6) (v := ?v6) rfl (by kernel_rfl) (by kernel_rfl) (by kernel_rfl) (fun _ _ _ h => h) (Or.inl ⟨by rfl, ?y6⟩) hHeld ?t6
  case y6 => (intro wx hSw; have hc6 : wx.cell? ⟨w.heap.size, 6, none⟩ = some (.int .i64 o.2.2.2.2.2.2) := hSw.c 6 (of_decide_eq_true rfl); go_simp <;> with_reducible rfl)
  simp only [Act.put, List.setIfInBounds_toArray, List.set_cons_zero, List.set_cons_succ]
  refine call_at (i := 3) (by kernel_rfl) rfl (fun K hK => ?_)
  go_simp
  refine (cDays_any b true t _ BF_2.drew).mono ?_
  rintro e w3 ⟨rfl, f3, k3⟩
  rw [cDaysS_true] at f3 ⊢
  dsimp only at f3 ⊢
  have K3 : Kept b w w3 := Kept.trans K2.drew k3
  have B0_3 : Arr w.heap.size [.int .i64 o.1, .int .i64 o.2.1, .int .i64 o.2.2.1, .int .i64 o.2.2.2.1, .int .i64 o.2.2.2.2.1, .int .i64 o.2.2.2.2.2.1, .int .i64 o.2.2.2.2.2.2] w3 := B0_2.drew.kept k3 (Nat.ne_of_gt y1_BF)
  have B1_3 : Arr (w.heap.size + 1) [.int .i64 0, .int .i64 0, .int .i64 0] w3 := B1_2.drew.kept k3 (Nat.ne_of_gt y2_BF)
  have z3 := B1_3.lies
  clear hHeld
  refine hK.out _ _ B0_3 (fun hHeld => ?_)
  clear hK K K2 BF_2 B0_2 B1_2 k3
  refine call_at (i := 7) (by kernel_rfl) rfl (fun K hK => ?_)
  go_simp
  refine (cDays_any b true o.2.2.2.2.2.2 _ f3).mono ?_
  rintro e w4 ⟨rfl, f4, k4⟩
  rw [cDaysS_true] at f4 ⊢
  dsimp only at f4 ⊢
  have K4 : Kept b w w4 := Kept.trans K3 k4
  have B0_4 : Arr w.heap.size [.int .i64 o.1, .int .i64 o.2.1, .int .i64 o.2.2.1, .int .i64 o.2.2.2.1, .int .i64 o.2.2.2.2.1, .int .i64 o.2.2.2.2.2.1, .int .i64 o.2.2.2.2.2.2] w4 := B0_3.kept k4 (Nat.ne_of_gt y1_BF)
  have B1_4 : Arr (w.heap.size + 1) [.int .i64 0, .int .i64 0, .int .i64 0] w4 := B1_3.kept k4 (Nat.ne_of_gt y2_BF)
  have z4 := B1_4.lies
  clear hHeld
  refine hK.out _ _ B0_4 (fun hHeld => ?_)
  clear hK K K3 f3 B0_3 B1_3 k4
  refine call_at (i := 8) (by kernel_rfl) rfl (fun K hK => ?_)
  go_simp
  refine (Sub_any b true 0 0 _ f4).mono ?_
  rintro e w5 ⟨rfl, f5, k5⟩
  rw [subS_true] at f5 ⊢
  dsimp only at f5 ⊢
  have K5 : Kept b w w5 := Kept.trans K4 k5
  have B0_5 : Arr w.heap.size [.int .i64 o.1, .int .i64 o.2.1, .int .i64 o.2.2.1, .int .i64 o.2.2.2.1, .int .i64 o.2.2.2.2.1, .int .i64 o.2.2.2.2.2.1, .int .i64 o.2.2.2.2.2.2] w5 := B0_4.kept k5 (Nat.ne_of_gt y1_BF)
  have B1_5 : Arr (w.heap.size + 1) [.int .i64 0, .int .i64 0, .int .i64 0] w5 := B1_4.kept k5 (Nat.ne_of_gt y2_BF)
  have z5 := B1_5.lies
  clear hHeld
  refine hK.out _ _ B0_5 (fun hHeld => ?_)
  clear hK K K4 f4 B0_4 B1_4 k5
  refine take_at (i := 9) (v := ?v7) rfl (by kernel_rfl) (by kernel_rfl) (by kernel_rfl) (fun _ _ _ h => h) (Or.inl ⟨by rfl, ?y7⟩) hHeld ?t7
  case y7 => (intro wx hSw; go_simp <;> with_reducible rfl)
  simp only [Act.put, List.setIfInBounds_toArray, List.set_cons_zero, List.set_cons_succ]
  refine wpAnyH_done (by kernel_rfl) ?_ _
  clear hHeld
  have c4_B0_0 : w5.cell? ⟨w.heap.size, 0, none⟩ = some (.int .i64 o.1) := B0_5.c 0 (of_decide_eq_true rfl)
  have c4_B0_1 : w5.cell? ⟨w.heap.size, 1, none⟩ = some (.int .i64 o.2.1) := B0_5.c 1 (of_decide_eq_true rfl)
  have c4_B0_2 : w5.cell? ⟨w.heap.size, 2, none⟩ = some (.int .i64 o.2.2.1) := B0_5.c 2 (of_decide_eq_true rfl)
  have c4_B0_3 : w5.cell? ⟨w.heap.size, 3, none⟩ = some (.int .i64 o.2.2.2.1) := B0_5.c 3 (of_decide_eq_true rfl)
  have c4_B0_4 : w5.cell? ⟨w.heap.size, 4, none⟩ = some (.int .i64 o.2.2.2.2.1) := B0_5.c 4 (of_decide_eq_true rfl)
  have c4_B0_5 : w5.cell? ⟨w.heap.size, 5, none⟩ = some (.int .i64 o.2.2.2.2.2.1) := B0_5.c 5 (of_decide_eq_true rfl)
  have c4_B0_6 : w5.cell? ⟨w.heap.size, 6, none⟩ = some (.int .i64 o.2.2.2.2.2.2) := B0_5.c 6 (of_decide_eq_true rfl)
  go_wp2_with fail
  refine (oshapeOf_any b true o _ f5).mono ?_
  rintro e w6 ⟨rfl, f6, k6⟩
  rw [shapeS_true] at f6 ⊢
  dsimp only at f6 ⊢
  have K6 : Kept b w w6 := Kept.trans K5 k6
  have B0_6 : Arr w.heap.size [.int .i64 o.1, .int .i64 o.2.1, .int .i64 o.2.2.1, .int .i64 o.2.2.2.1, .int .i64 o.2.2.2.2.1, .int .i64 o.2.2.2.2.2.1, .int .i64 o.2.2.2.2.2.2] w6 := B0_5.kept k6 (Nat.ne_of_gt y1_BF)
  have B1_6 : Arr (w.heap.size + 1) [.int .i64 0, .int .i64 0, .int .i64 0] w6 := B1_5.kept k6 (Nat.ne_of_gt y2_BF)
  have z6 := B1_6.lies
  clear c4_B0_0 c4_B0_1 c4_B0_2 c4_B0_3 c4_B0_4 c4_B0_5 c4_B0_6 K5 f5 B0_5 B1_5 k6
  have y3_BF : b < w6.heap.size := f6.lies
  have y3_B0 : w.heap.size < w6.heap.size := B0_6.lies
  have y3_B1 : w.heap.size + 1 < w6.heap.size := B1_6.lies
  have c5_B0_0 : w6.cell? ⟨w.heap.size, 0, none⟩ = some (.int .i64 o.1) := B0_6.c 0 (of_decide_eq_true rfl)
  have c5_B0_1 : w6.cell? ⟨w.heap.size, 1, none⟩ = some (.int .i64 o.2.1) := B0_6.c 1 (of_decide_eq_true rfl)
  have c5_B0_2 : w6.cell? ⟨w.heap.size, 2, none⟩ = some (.int .i64 o.2.2.1) := B0_6.c 2 (of_decide_eq_true rfl)
  have c5_B0_3 : w6.cell? ⟨w.heap.size, 3, none⟩ = some (.int .i64 o.2.2.2.1) := B0_6.c 3 (of_decide_eq_true rfl)
  have c5_B0_4 : w6.cell? ⟨w.heap.size, 4, none⟩ = some (.int .i64 o.2.2.2.2.1) := B0_6.c 4 (of_decide_eq_true rfl)
  have c5_B0_5 : w6.cell? ⟨w.heap.size, 5, none⟩ = some (.int .i64 o.2.2.2.2.2.1) := B0_6.c 5 (of_decide_eq_true rfl)
  have c5_B0_6 : w6.cell? ⟨w.heap.size, 6, none⟩ = some (.int .i64 o.2.2.2.2.2.2) := B0_6.c 6 (of_decide_eq_true rfl)
  have l5_B0 := B0_6.lies
  go_wp2_with fail
  refine (odrifted_any b true o (0, 0, 0) 0 _ (f6.alloc _)).mono ?_
  rintro e w7 ⟨rfl, f7, k7⟩
  rw [driftS_true] at f7 ⊢
  dsimp only at f7 ⊢
  have K7 : Kept b w w7 := Kept.trans (K6.al _) k7
  have B0_7 : Arr w.heap.size [.int .i64 o.1, .int .i64 o.2.1, .int .i64 o.2.2.1, .int .i64 o.2.2.2.1, .int .i64 o.2.2.2.2.1, .int .i64 o.2.2.2.2.2.1, .int .i64 o.2.2.2.2.2.2] w7 := (B0_6.alloc _).kept k7 (Nat.ne_of_gt y1_BF)
  have B1_7 : Arr (w.heap.size + 1) [.int .i64 0, .int .i64 0, .int .i64 0] w7 := (B1_6.alloc _).kept k7 (Nat.ne_of_gt y2_BF)
  have B2_7 : Arr w6.heap.size [.int .i64 0, .int .i64 0, .int .i64 0] w7 := (Arr_at _ _ [.int .i64 0, .int .i64 0, .int .i64 0] _ (by simp)).kept k7 (Nat.ne_of_gt y3_BF)
  have z7 := B2_7.lies
  clear c5_B0_0 c5_B0_1 c5_B0_2 c5_B0_3 c5_B0_4 c5_B0_5 c5_B0_6 l5_B0 K6 f6 B0_6 B1_6 k7
  have y4_BF : b < w7.heap.size := f7.lies
  have y4_B0 : w.heap.size < w7.heap.size := B0_7.lies
  have y4_B1 : w.heap.size + 1 < w7.heap.size := B1_7.lies
  have y4_B2 : w6.heap.size < w7.heap.size := B2_7.lies
  have c6_B0_1 : w7.cell? ⟨w.heap.size, 1, none⟩ = some (.int .i64 o.2.1) := B0_7.c 1 (of_decide_eq_true rfl)
  have l6_B0 := B0_7.lies
  go_wp2_with fail
  refine (oKepC_any b true 0 o.2.1 _ (f7.alloc _)).mono ?_
  rintro e w8 ⟨rfl, f8, k8⟩
  rw [oKepC_true] at f8 ⊢
  dsimp only at f8 ⊢
  have K8 : Kept b w w8 := Kept.trans (K7.al _) k8
  have B0_8 : Arr w.heap.size [.int .i64 o.1, .int .i64 o.2.1, .int .i64 o.2.2.1, .int .i64 o.2.2.2.1, .int .i64 o.2.2.2.2.1, .int .i64 o.2.2.2.2.2.1, .int .i64 o.2.2.2.2.2.2] w8 := (B0_7.alloc _).kept k8 (Nat.ne_of_gt y1_BF)
  have B1_8 : Arr (w.heap.size + 1) [.int .i64 0, .int .i64 0, .int .i64 0] w8 := (B1_7.alloc _).kept k8 (Nat.ne_of_gt y2_BF)
  have B2_8 : Arr w6.heap.size [.int .i64 0, .int .i64 0, .int .i64 0] w8 := (B2_7.alloc _).kept k8 (Nat.ne_of_gt y3_BF)
  have B3_8 : Arr w7.heap.size [.int .i64 0, .int .i64 0, .int .i64 0] w8 := (Arr_at _ _ [.int .i64 0, .int .i64 0, .int .i64 0] _ (by simp)).kept k8 (Nat.ne_of_gt y4_BF)
  have z8 := B3_8.lies
  clear c6_B0_1 l6_B0 K7 f7 B0_7 B1_7 B2_7 k8
  go_wp2_with fail
  refine wp_region_held_drew (S := fun w' => Arr w.heap.size [.int .i64 o.1, .int .i64 o.2.1, .int .i64 o.2.2.1, .int .i64 o.2.2.2.1, .int .i64 o.2.2.2.2.1, .int .i64 o.2.2.2.2.2.1, .int .i64 o.2.2.2.2.2.2] w') (by kernel_rfl) B0_8.drew (fun hHeld => ?_)
  refine take_at (i := 0) (v := ?v8) rfl (by kernel_rfl) (by kernel_rfl) (by kernel_rfl) (fun _ _ _ h => h) (Or.inl ⟨by rfl, ?y8⟩) hHeld ?t8
  case y8 => (intro wx hSw; go_simp <;> with_reducible rfl)
  simp only [Act.put, List.setIfInBounds_toArray, List.set_cons_zero, List.set_cons_succ]
  refine take_at (i := 1) (v := ?v9) rfl (by kernel_rfl) (by kernel_rfl) (by kernel_rfl) (fun _ _ _ h => h) (Or.inl ⟨by rfl, ?y9⟩) hHeld ?t9
  case y9 => (intro wx hSw; go_simp <;> with_reducible rfl)
  simp only [Act.put, List.setIfInBounds_toArray, List.set_cons_zero, List.set_cons_succ]
  refine take_at (i := 2) (v := ?v10) rfl (by kernel_rfl) (by kernel_rfl) (by kernel_rfl) (fun _ _ _ h => h) (Or.inl ⟨by rfl, ?y10⟩) hHeld ?t10
  case y10 => (intro wx hSw; have hc0 : wx.cell? ⟨w.heap.size, 0, none⟩ = some (.int .i64 o.1) := hSw.c 0 (of_decide_eq_true rfl); go_simp <;> with_reducible rfl)
  simp only [Act.put, List.setIfInBounds_toArray, List.set_cons_zero, List.set_cons_succ]
  refine take_at (i := 3) (v := ?v11) rfl (by kernel_rfl) (by kernel_rfl) (by kernel_rfl) (fun _ _ _ h => h) (Or.inl ⟨by rfl, ?y11⟩) hHeld ?t11
  case y11 => (intro wx hSw; go_simp <;> with_reducible rfl)
  simp only [Act.put, List.setIfInBounds_toArray, List.set_cons_zero, List.set_cons_succ]
  refine take_at (i := 4) (v := ?v12) rfl (by kernel_rfl) (by kernel_rfl) (by kernel_rfl) (fun _ _ _ h => h) (Or.inl ⟨by rfl, ?y12⟩) hHeld ?t12
  case y12 => (intro wx hSw; go_simp <;> with_reducible rfl)
  simp only [Act.put, List.setIfInBounds_toArray, List.set_cons_zero, List.set_cons_succ]
  refine take_at (i := 5) (v := ?v13) rfl (by kernel_rfl) (by kernel_rfl) (by kernel_rfl) (fun _ _ _ h => h) (Or.inl ⟨by rfl, ?y13⟩) hHeld ?t13
  case y13 => (intro wx hSw; go_simp <;> with_reducible rfl)
  simp only [Act.put, List.setIfInBounds_toArray, List.set_cons_zero, List.set_cons_succ]
  refine take_at (i := 7) (v := ?v14) rfl (by kernel_rfl) (by kernel_rfl) (by kernel_rfl) (fun _ _ _ h => h) (Or.inl ⟨by rfl, ?y14⟩) hHeld ?t14
  case y14 => (intro wx hSw; go_simp <;> with_reducible rfl)
  simp only [Act.put, List.setIfInBounds_toArray, List.set_cons_zero, List.set_cons_succ]
  refine take_at (i := 8) (v := ?v15) rfl (by kernel_rfl) (by kernel_rfl) (by kernel_rfl) (fun _ _ _ h => h) (Or.inl ⟨by rfl, ?y15⟩) hHeld ?t15
  case y15 => (intro wx hSw; have hc1 : wx.cell? ⟨w.heap.size, 1, none⟩ = some (.int .i64 o.2.1) := hSw.c 1 (of_decide_eq_true rfl); go_simp <;> with_reducible rfl)
  simp only [Act.put, List.setIfInBounds_toArray, List.set_cons_zero, List.set_cons_succ]
  refine call_at (i := 6) (by kernel_rfl) rfl (fun K hK => ?_)
  go_simp
  refine (Cos_any b true 0 _ f8.drew).mono ?_
  rintro e w9 ⟨rfl, f9, k9⟩
  rw [cosA_true] at f9 ⊢
  dsimp only at f9 ⊢
  have K9 : Kept b w w9 := Kept.trans K8.drew k9
  have B0_9 : Arr w.heap.size [.int .i64 o.1, .int .i64 o.2.1, .int .i64 o.2.2.1, .int .i64 o.2.2.2.1, .int .i64 o.2.2.2.2.1, .int .i64 o.2.2.2.2.2.1, .int .i64 o.2.2.2.2.2.2] w9 := B0_8.drew.kept k9 (Nat.ne_of_gt y1_BF)
  have B1_9 : Arr (w.heap.size + 1) [.int .i64 0, .int .i64 0, .int .i64 0] w9 := B1_8.drew.kept k9 (Nat.ne_of_gt y2_BF)
  have B2_9 : Arr w6.heap.size [.int .i64 0, .int .i64 0, .int .i64 0] w9 := B2_8.drew.kept k9 (Nat.ne_of_gt y3_BF)
  have B3_9 : Arr w7.heap.size [.int .i64 0, .int .i64 0, .int .i64 0] w9 := B3_8.drew.kept k9 (Nat.ne_of_gt y4_BF)
  have z9 := B3_9.lies
  clear hHeld
  refine hK.out _ _ B0_9 (fun hHeld => ?_)
  clear hK K K8 f8 B0_8 B1_8 B2_8 B3_8 k9
  refine call_at (i := 9) (by kernel_rfl) rfl (fun K hK => ?_)
  go_simp
  refine (Sub_any b true 0 o.2.1 _ f9).mono ?_
  rintro e w10 ⟨rfl, f10, k10⟩
  rw [subS_true] at f10 ⊢
  dsimp only at f10 ⊢
  have K10 : Kept b w w10 := Kept.trans K9 k10
  have B0_10 : Arr w.heap.size [.int .i64 o.1, .int .i64 o.2.1, .int .i64 o.2.2.1, .int .i64 o.2.2.2.1, .int .i64 o.2.2.2.2.1, .int .i64 o.2.2.2.2.2.1, .int .i64 o.2.2.2.2.2.2] w10 := B0_9.kept k10 (Nat.ne_of_gt y1_BF)
  have B1_10 : Arr (w.heap.size + 1) [.int .i64 0, .int .i64 0, .int .i64 0] w10 := B1_9.kept k10 (Nat.ne_of_gt y2_BF)
  have B2_10 : Arr w6.heap.size [.int .i64 0, .int .i64 0, .int .i64 0] w10 := B2_9.kept k10 (Nat.ne_of_gt y3_BF)
  have B3_10 : Arr w7.heap.size [.int .i64 0, .int .i64 0, .int .i64 0] w10 := B3_9.kept k10 (Nat.ne_of_gt y4_BF)
  have z10 := B3_10.lies
  clear hHeld
  refine hK.out _ _ B0_10 (fun hHeld => ?_)
  clear hK K K9 f9 B0_9 B1_9 B2_9 B3_9 k10
  refine call_at (i := 10) (by kernel_rfl) rfl (fun K hK => ?_)
  go_simp
  refine (Mul_any b true o.1 0 _ f10).mono ?_
  rintro e w11 ⟨rfl, f11, k11⟩
  rw [mulS_true] at f11 ⊢
  dsimp only at f11 ⊢
  have K11 : Kept b w w11 := Kept.trans K10 k11
  have B0_11 : Arr w.heap.size [.int .i64 o.1, .int .i64 o.2.1, .int .i64 o.2.2.1, .int .i64 o.2.2.2.1, .int .i64 o.2.2.2.2.1, .int .i64 o.2.2.2.2.2.1, .int .i64 o.2.2.2.2.2.2] w11 := B0_10.kept k11 (Nat.ne_of_gt y1_BF)
  have B1_11 : Arr (w.heap.size + 1) [.int .i64 0, .int .i64 0, .int .i64 0] w11 := B1_10.kept k11 (Nat.ne_of_gt y2_BF)
  have B2_11 : Arr w6.heap.size [.int .i64 0, .int .i64 0, .int .i64 0] w11 := B2_10.kept k11 (Nat.ne_of_gt y3_BF)
  have B3_11 : Arr w7.heap.size [.int .i64 0, .int .i64 0, .int .i64 0] w11 := B3_10.kept k11 (Nat.ne_of_gt y4_BF)
  have z11 := B3_11.lies
  clear hHeld
  refine hK.out _ _ B0_11 (fun hHeld => ?_)
  clear hK K K10 f10 B0_10 B1_10 B2_10 B3_10 k11
  refine take_at (i := 11) (v := ?v16) rfl (by kernel_rfl) (by kernel_rfl) (by kernel_rfl) (fun _ _ _ h => h) (Or.inl ⟨by rfl, ?y16⟩) hHeld ?t16
  case y16 => (intro wx hSw; go_simp <;> with_reducible rfl)
  simp only [Act.put, List.setIfInBounds_toArray, List.set_cons_zero, List.set_cons_succ]
  refine wpAnyH_done (by kernel_rfl) ?_ _
  clear hHeld
  have c8_B0_0 : w11.cell? ⟨w.heap.size, 0, none⟩ = some (.int .i64 o.1) := B0_11.c 0 (of_decide_eq_true rfl)
  have c8_B2_0 : w11.cell? ⟨w6.heap.size, 0, none⟩ = some (.int .i64 0) := B2_11.c 0 (of_decide_eq_true rfl)
  go_wp2_with fail
  refine (Mul_any b true o.1 0 _ f11).mono ?_
  rintro e w12 ⟨rfl, f12, k12⟩
  rw [mulS_true] at f12 ⊢
  dsimp only at f12 ⊢
  have K12 : Kept b w w12 := Kept.trans K11 k12
  have B0_12 : Arr w.heap.size [.int .i64 o.1, .int .i64 o.2.1, .int .i64 o.2.2.1, .int .i64 o.2.2.2.1, .int .i64 o.2.2.2.2.1, .int .i64 o.2.2.2.2.2.1, .int .i64 o.2.2.2.2.2.2] w12 := B0_11.kept k12 (Nat.ne_of_gt y1_BF)
  have B1_12 : Arr (w.heap.size + 1) [.int .i64 0, .int .i64 0, .int .i64 0] w12 := B1_11.kept k12 (Nat.ne_of_gt y2_BF)
  have B2_12 : Arr w6.heap.size [.int .i64 0, .int .i64 0, .int .i64 0] w12 := B2_11.kept k12 (Nat.ne_of_gt y3_BF)
  have B3_12 : Arr w7.heap.size [.int .i64 0, .int .i64 0, .int .i64 0] w12 := B3_11.kept k12 (Nat.ne_of_gt y4_BF)
  have z12 := B3_12.lies
  clear c8_B0_0 c8_B2_0 K11 f11 B0_11 B1_11 B2_11 B3_11 k12
  go_wp2_with fail
  refine (Sin_any b true 0 _ f12).mono ?_
  rintro e w13 ⟨rfl, f13, k13⟩
  rw [sinA_true] at f13 ⊢
  dsimp only at f13 ⊢
  have K13 : Kept b w w13 := Kept.trans K12 k13
  have B0_13 : Arr w.heap.size [.int .i64 o.1, .int .i64 o.2.1, .int .i64 o.2.2.1, .int .i64 o.2.2.2.1, .int .i64 o.2.2.2.2.1, .int .i64 o.2.2.2.2.2.1, .int .i64 o.2.2.2.2.2.2] w13 := B0_12.kept k13 (Nat.ne_of_gt y1_BF)
  have B1_13 : Arr (w.heap.size + 1) [.int .i64 0, .int .i64 0, .int .i64 0] w13 := B1_12.kept k13 (Nat.ne_of_gt y2_BF)
  have B2_13 : Arr w6.heap.size [.int .i64 0, .int .i64 0, .int .i64 0] w13 := B2_12.kept k13 (Nat.ne_of_gt y3_BF)
  have B3_13 : Arr w7.heap.size [.int .i64 0, .int .i64 0, .int .i64 0] w13 := B3_12.kept k13 (Nat.ne_of_gt y4_BF)
  have z13 := B3_13.lies
  clear K12 f12 B0_12 B1_12 B2_12 B3_12 k13
  go_wp2_with fail
  refine (Mul_any b true 0 0 _ f13).mono ?_
  rintro e w14 ⟨rfl, f14, k14⟩
  rw [mulS_true] at f14 ⊢
  dsimp only at f14 ⊢
  have K14 : Kept b w w14 := Kept.trans K13 k14
  have B0_14 : Arr w.heap.size [.int .i64 o.1, .int .i64 o.2.1, .int .i64 o.2.2.1, .int .i64 o.2.2.2.1, .int .i64 o.2.2.2.2.1, .int .i64 o.2.2.2.2.2.1, .int .i64 o.2.2.2.2.2.2] w14 := B0_13.kept k14 (Nat.ne_of_gt y1_BF)
  have B1_14 : Arr (w.heap.size + 1) [.int .i64 0, .int .i64 0, .int .i64 0] w14 := B1_13.kept k14 (Nat.ne_of_gt y2_BF)
  have B2_14 : Arr w6.heap.size [.int .i64 0, .int .i64 0, .int .i64 0] w14 := B2_13.kept k14 (Nat.ne_of_gt y3_BF)
  have B3_14 : Arr w7.heap.size [.int .i64 0, .int .i64 0, .int .i64 0] w14 := B3_13.kept k14 (Nat.ne_of_gt y4_BF)
  have z14 := B3_14.lies
  clear K13 f13 B0_13 B1_13 B2_13 B3_13 k14
  have c11_B3_1 : w14.cell? ⟨w7.heap.size, 1, none⟩ = some (.int .i64 0) := B3_14.c 1 (of_decide_eq_true rfl)
  go_wp2_with fail
  refine (oturned_any b true 0 0 0 _ f14).mono ?_
  rintro e w15 ⟨rfl, f15, k15⟩
  rw [turnedS_true] at f15 ⊢
  dsimp only at f15 ⊢
  have K15 : Kept b w w15 := Kept.trans K14 k15
  have B0_15 : Arr w.heap.size [.int .i64 o.1, .int .i64 o.2.1, .int .i64 o.2.2.1, .int .i64 o.2.2.2.1, .int .i64 o.2.2.2.2.1, .int .i64 o.2.2.2.2.2.1, .int .i64 o.2.2.2.2.2.2] w15 := B0_14.kept k15 (Nat.ne_of_gt y1_BF)
  have B1_15 : Arr (w.heap.size + 1) [.int .i64 0, .int .i64 0, .int .i64 0] w15 := B1_14.kept k15 (Nat.ne_of_gt y2_BF)
  have B2_15 : Arr w6.heap.size [.int .i64 0, .int .i64 0, .int .i64 0] w15 := B2_14.kept k15 (Nat.ne_of_gt y3_BF)
  have B3_15 : Arr w7.heap.size [.int .i64 0, .int .i64 0, .int .i64 0] w15 := B3_14.kept k15 (Nat.ne_of_gt y4_BF)
  have z15 := B3_15.lies
  clear c11_B3_1 K14 f14 B0_14 B1_14 B2_14 B3_14 k15
  go_wp2_with fail
  refine wp_region_held_drew (S := fun w' => Arr w6.heap.size [.int .i64 0, .int .i64 0, .int .i64 0] w' ∧ Arr w7.heap.size [.int .i64 0, .int .i64 0, .int .i64 0] w') (by kernel_rfl) ⟨B2_15.drew, B3_15.drew⟩ (fun hHeld => ?_)
  refine take_at (i := 0) (v := ?v17) rfl (by kernel_rfl) (by kernel_rfl) (by kernel_rfl) (fun _ _ _ h => h) (Or.inl ⟨by rfl, ?y17⟩) hHeld ?t17
  case y17 => (intro wx hSw; go_simp <;> with_reducible rfl)
  simp only [Act.put, List.setIfInBounds_toArray, List.set_cons_zero, List.set_cons_succ]
  refine take_at (i := 1) (v := ?v18) rfl (by kernel_rfl) (by kernel_rfl) (by kernel_rfl) (fun _ _ _ h => h) (Or.inl ⟨by rfl, ?y18⟩) hHeld ?t18
  case y18 => (intro wx hSw; go_simp <;> with_reducible rfl)
  simp only [Act.put, List.setIfInBounds_toArray, List.set_cons_zero, List.set_cons_succ]
  refine take_at (i := 2) (v := ?v19) rfl (by kernel_rfl) (by kernel_rfl) (by kernel_rfl) (fun _ _ _ h => h) (Or.inl ⟨by rfl, ?y19⟩) hHeld ?t19
  case y19 => (intro wx hSw; go_simp <;> with_reducible rfl)
  simp only [Act.put, List.setIfInBounds_toArray, List.set_cons_zero, List.set_cons_succ]
  refine take_at (i := 3) (v := ?v20) rfl (by kernel_rfl) (by kernel_rfl) (by kernel_rfl) (fun _ _ _ h => h) (Or.inl ⟨by rfl, ?y20⟩) hHeld ?t20
  case y20 => (intro wx hSw; go_simp <;> with_reducible rfl)
  simp only [Act.put, List.setIfInBounds_toArray, List.set_cons_zero, List.set_cons_succ]
  refine take_at (i := 4) (v := ?v21) rfl (by kernel_rfl) (by kernel_rfl) (by kernel_rfl) (fun _ _ _ h => h) (Or.inl ⟨by rfl, ?y21⟩) hHeld ?t21
  case y21 => (intro wx hSw; go_simp <;> with_reducible rfl)
  simp only [Act.put, List.setIfInBounds_toArray, List.set_cons_zero, List.set_cons_succ]
  refine take_at (i := 5) (v := ?v22) rfl (by kernel_rfl) (by kernel_rfl) (by kernel_rfl) (fun _ _ _ h => h) (Or.inl ⟨by rfl, ?y22⟩) hHeld ?t22
  case y22 => (intro wx hSw; have hc2 : wx.cell? ⟨w6.heap.size, 2, none⟩ = some (.int .i64 0) := hSw.1.c 2 (of_decide_eq_true rfl); go_simp <;> with_reducible rfl)
  simp only [Act.put, List.setIfInBounds_toArray, List.set_cons_zero, List.set_cons_succ]
  refine take_at (i := 7) (v := ?v23) rfl (by kernel_rfl) (by kernel_rfl) (by kernel_rfl) (fun _ _ _ h => h) (Or.inl ⟨by rfl, ?y23⟩) hHeld ?t23
  case y23 => (intro wx hSw; go_simp <;> with_reducible rfl)
  simp only [Act.put, List.setIfInBounds_toArray, List.set_cons_zero, List.set_cons_succ]
  refine take_at (i := 8) (v := ?v24) rfl (by kernel_rfl) (by kernel_rfl) (by kernel_rfl) (fun _ _ _ h => h) (Or.inl ⟨by rfl, ?y24⟩) hHeld ?t24
  case y24 => (intro wx hSw; have hc0 : wx.cell? ⟨w7.heap.size, 0, none⟩ = some (.int .i64 0) := hSw.2.c 0 (of_decide_eq_true rfl); go_simp <;> with_reducible rfl)
  simp only [Act.put, List.setIfInBounds_toArray, List.set_cons_zero, List.set_cons_succ]
  refine call_at (i := 6) (by kernel_rfl) rfl (fun K hK => ?_)
  go_simp
  refine (Mul_any b true 0 0 _ f15.drew).mono ?_
  rintro e w16 ⟨rfl, f16, k16⟩
  rw [mulS_true] at f16 ⊢
  dsimp only at f16 ⊢
  have K16 : Kept b w w16 := Kept.trans K15.drew k16
  have B0_16 : Arr w.heap.size [.int .i64 o.1, .int .i64 o.2.1, .int .i64 o.2.2.1, .int .i64 o.2.2.2.1, .int .i64 o.2.2.2.2.1, .int .i64 o.2.2.2.2.2.1, .int .i64 o.2.2.2.2.2.2] w16 := B0_15.drew.kept k16 (Nat.ne_of_gt y1_BF)
  have B1_16 : Arr (w.heap.size + 1) [.int .i64 0, .int .i64 0, .int .i64 0] w16 := B1_15.drew.kept k16 (Nat.ne_of_gt y2_BF)
  have B2_16 : Arr w6.heap.size [.int .i64 0, .int .i64 0, .int .i64 0] w16 := B2_15.drew.kept k16 (Nat.ne_of_gt y3_BF)
  have B3_16 : Arr w7.heap.size [.int .i64 0, .int .i64 0, .int .i64 0] w16 := B3_15.drew.kept k16 (Nat.ne_of_gt y4_BF)
  have z16 := B3_16.lies
  clear hHeld
  refine hK.out _ _ ⟨B2_16, B3_16⟩ (fun hHeld => ?_)
  clear hK K K15 f15 B0_15 B1_15 B2_15 B3_15 k16
  refine call_at (i := 9) (by kernel_rfl) rfl (fun K hK => ?_)
  go_simp
  refine (oturned_any b true 0 0 0 _ f16).mono ?_
  rintro e w17 ⟨rfl, f17, k17⟩
  rw [turnedS_true] at f17 ⊢
  dsimp only at f17 ⊢
  have K17 : Kept b w w17 := Kept.trans K16 k17
  have B0_17 : Arr w.heap.size [.int .i64 o.1, .int .i64 o.2.1, .int .i64 o.2.2.1, .int .i64 o.2.2.2.1, .int .i64 o.2.2.2.2.1, .int .i64 o.2.2.2.2.2.1, .int .i64 o.2.2.2.2.2.2] w17 := B0_16.kept k17 (Nat.ne_of_gt y1_BF)
  have B1_17 : Arr (w.heap.size + 1) [.int .i64 0, .int .i64 0, .int .i64 0] w17 := B1_16.kept k17 (Nat.ne_of_gt y2_BF)
  have B2_17 : Arr w6.heap.size [.int .i64 0, .int .i64 0, .int .i64 0] w17 := B2_16.kept k17 (Nat.ne_of_gt y3_BF)
  have B3_17 : Arr w7.heap.size [.int .i64 0, .int .i64 0, .int .i64 0] w17 := B3_16.kept k17 (Nat.ne_of_gt y4_BF)
  have z17 := B3_17.lies
  clear hHeld
  refine hK.out _ _ ⟨B2_17, B3_17⟩ (fun hHeld => ?_)
  clear hK K K16 f16 B0_16 B1_16 B2_16 B3_16 k17
  refine take_at (i := 10) (v := ?v25) rfl (by kernel_rfl) (by kernel_rfl) (by kernel_rfl) (fun _ _ _ h => h) (Or.inl ⟨by rfl, ?y25⟩) hHeld ?t25
  case y25 => (intro wx hSw; go_simp <;> with_reducible rfl)
  simp only [Act.put, List.setIfInBounds_toArray, List.set_cons_zero, List.set_cons_succ]
  refine take_at (i := 11) (v := ?v26) rfl (by kernel_rfl) (by kernel_rfl) (by kernel_rfl) (fun _ _ _ h => h) (Or.inl ⟨by rfl, ?y26⟩) hHeld ?t26
  case y26 => (intro wx hSw; go_simp <;> with_reducible rfl)
  simp only [Act.put, List.setIfInBounds_toArray, List.set_cons_zero, List.set_cons_succ]
  refine take_at (i := 12) (v := ?v27) rfl (by kernel_rfl) (by kernel_rfl) (by kernel_rfl) (fun _ _ _ h => h) (Or.inl ⟨by rfl, ?y27⟩) hHeld ?t27
  case y27 => (intro wx hSw; go_simp <;> with_reducible rfl)
  simp only [Act.put, List.setIfInBounds_toArray, List.set_cons_zero, List.set_cons_succ]
  refine take_at (i := 13) (v := ?v28) rfl (by kernel_rfl) (by kernel_rfl) (by kernel_rfl) (fun _ _ _ h => h) (Or.inl ⟨by rfl, ?y28⟩) hHeld ?t28
  case y28 => (intro wx hSw; go_simp <;> with_reducible rfl)
  simp only [Act.put, List.setIfInBounds_toArray, List.set_cons_zero, List.set_cons_succ]
  refine take_at (i := 14) (v := ?v29) rfl (by kernel_rfl) (by kernel_rfl) (by kernel_rfl) (fun _ _ _ h => h) (Or.inl ⟨by rfl, ?y29⟩) hHeld ?t29
  case y29 => (intro wx hSw; go_simp <;> with_reducible rfl)
  simp only [Act.put, List.setIfInBounds_toArray, List.set_cons_zero, List.set_cons_succ]
  refine wpAnyH_done (by kernel_rfl) ?_ _
  clear hHeld
  have c13_B2_1 : w17.cell? ⟨w6.heap.size, 1, none⟩ = some (.int .i64 0) := B2_17.c 1 (of_decide_eq_true rfl)
  go_wp2_with fail
  refine (Mul_any b true 0 0 _ f17).mono ?_
  rintro e w18 ⟨rfl, f18, k18⟩
  rw [mulS_true] at f18 ⊢
  dsimp only at f18 ⊢
  have K18 : Kept b w w18 := Kept.trans K17 k18
  have B0_18 : Arr w.heap.size [.int .i64 o.1, .int .i64 o.2.1, .int .i64 o.2.2.1, .int .i64 o.2.2.2.1, .int .i64 o.2.2.2.2.1, .int .i64 o.2.2.2.2.2.1, .int .i64 o.2.2.2.2.2.2] w18 := B0_17.kept k18 (Nat.ne_of_gt y1_BF)
  have B1_18 : Arr (w.heap.size + 1) [.int .i64 0, .int .i64 0, .int .i64 0] w18 := B1_17.kept k18 (Nat.ne_of_gt y2_BF)
  have B2_18 : Arr w6.heap.size [.int .i64 0, .int .i64 0, .int .i64 0] w18 := B2_17.kept k18 (Nat.ne_of_gt y3_BF)
  have B3_18 : Arr w7.heap.size [.int .i64 0, .int .i64 0, .int .i64 0] w18 := B3_17.kept k18 (Nat.ne_of_gt y4_BF)
  have z18 := B3_18.lies
  clear c13_B2_1 K17 f17 B0_17 B1_17 B2_17 B3_17 k18
  have c14_B1_0 : w18.cell? ⟨w.heap.size + 1, 0, none⟩ = some (.int .i64 0) := B1_18.c 0 (of_decide_eq_true rfl)
  have c14_B1_1 : w18.cell? ⟨w.heap.size + 1, 1, none⟩ = some (.int .i64 0) := B1_18.c 1 (of_decide_eq_true rfl)
  have c14_B1_2 : w18.cell? ⟨w.heap.size + 1, 2, none⟩ = some (.int .i64 0) := B1_18.c 2 (of_decide_eq_true rfl)
  have g14_B1_0 := B1_18.f 0 (of_decide_eq_true rfl)
  have g14_B1_1 := B1_18.f 1 (of_decide_eq_true rfl)
  have g14_B1_2 := B1_18.f 2 (of_decide_eq_true rfl)
  go_wp2_with (with_reducible refine post_stop ?_)
  refine Stop.mk ?_
  clear c14_B1_0 c14_B1_1 c14_B1_2 g14_B1_0 g14_B1_1 g14_B1_2
  refine bodyPost_ret (v := .agg #[.int .i64 0, .int .i64 0, .int .i64 0]) (results_arr Try.results14 (((B1_18.put 0 (of_decide_eq_true rfl) (.int .i64 0) [.int .i64 0, .int .i64 0, .int .i64 0] rfl).put 1 (of_decide_eq_true rfl) (.int .i64 0) [.int .i64 0, .int .i64 0, .int .i64 0] rfl).put 2 (of_decide_eq_true rfl) (.int .i64 0) [.int .i64 0, .int .i64 0, .int .i64 0] rfl) rfl (by kernel_rfl) (by kernel_rfl)) rfl ?_
  exact ⟨rfl, (((f18.new (w.heap.size + 1) 0 (Nat.ne_of_lt y2_BF) (.int .i64 0)).new (w.heap.size + 1) 1 (Nat.ne_of_lt y2_BF) (.int .i64 0)).new (w.heap.size + 1) 2 (Nat.ne_of_lt y2_BF) (.int .i64 0)), (((K18.new _ _ (by omega) _).new _ _ (by omega) _).new _ _ (by omega) _)⟩
set_option maxRecDepth 100000 in
set_option maxHeartbeats 2000000 in
theorem oPlace_good (b : Nat) (o : V7) (t : Int) (w : World) (hw : Fl b false w) (hr : oRightC o = true) (ht : cRight t = true) (dt da : Int) (hdt : cDaysS false t = (dt, false)) (hda : cDaysS false o.2.2.2.2.2.2 = (da, false)) (hd : subS false dt da = (dt - da, false)) (G : Angles o.1 o.2.1 o.2.2.1 o.2.2.2.1 o.2.2.2.2.1 o.2.2.2.2.2.1 (dt - da)) (x : Int) (hx : oKepC false ((o.2.2.2.2.2.1 + G.mm) % 6908435304716) o.2.1 = (x, false)) (Q : Plane o.1 o.2.1 G.e2 G.r G.s G.c (o.2.2.2.1 - G.kcd) (o.2.2.2.2.1 + G.kyd) x) :
    Calls Try.prog 14 #[.pointer (some ⟨b, 0, none⟩), .agg #[.int .i64 o.1, .int .i64 o.2.1, .int .i64 o.2.2.1, .int .i64 o.2.2.2.1, .int .i64 o.2.2.2.2.1, .int .i64 o.2.2.2.2.2.1, .int .i64 o.2.2.2.2.2.2], .int .i64 t] w fun e w' => e = .returned (.agg #[.int .i64 (((Q.m5 - Q.m6), (Q.m7 + Q.m8), Q.z).1), .int .i64 (((Q.m5 - Q.m6), (Q.m7 + Q.m8), Q.z).2.1), .int .i64 (((Q.m5 - Q.m6), (Q.m7 + Q.m8), Q.z).2.2)]) ∧ Fl b false w' ∧ Kept b w w' := by
  have hl := hw.lies
  go_enter Try.func14, Try.ntmps14
  have y1_BF : b < w.heap.size := hw.lies
  have y2_BF : b < w.heap.size + 1 := (Nat.lt_succ_of_lt hw.lies)
  have y2_B0 : w.heap.size < w.heap.size + 1 := (Nat.lt_succ_self _)
  go_wp2_with fail
  refine (oRightC_any o _).mono ?_
  rintro e w1 ⟨rfl, k1⟩
  rw [hr]
  try dsimp only
  have K1 : Kept b w w1 := Kept.trans (((Kept.refl b w).al _).al _) (Kept.of_below k1)
  have BF_1 : Fl b false w1 := ((hw.alloc _).alloc _).below k1
  have B0_1 : Arr w.heap.size [.int .i64 o.1, .int .i64 o.2.1, .int .i64 o.2.2.1, .int .i64 o.2.2.2.1, .int .i64 o.2.2.2.2.1, .int .i64 o.2.2.2.2.2.1, .int .i64 o.2.2.2.2.2.2] w1 := ((Arr_at _ _ [.int .i64 o.1, .int .i64 o.2.1, .int .i64 o.2.2.1, .int .i64 o.2.2.2.1, .int .i64 o.2.2.2.2.1, .int .i64 o.2.2.2.2.2.1, .int .i64 o.2.2.2.2.2.2] _ (by simp)).alloc _).below k1
  have B1_1 : Arr (w.heap.size + 1) [.int .i64 0, .int .i64 0, .int .i64 0] w1 := (Arr_at _ _ [.int .i64 0, .int .i64 0, .int .i64 0] _ (by simp)).below k1
  have z1 := B1_1.lies
  clear k1
  go_wp2_with fail
  refine (cRight_any t _).mono ?_
  rintro e w2 ⟨rfl, k2⟩
  rw [ht]
  try dsimp only
  have K2 : Kept b w w2 := Kept.trans K1 (Kept.of_below k2)
  have BF_2 : Fl b false w2 := BF_1.below k2
  have B0_2 : Arr w.heap.size [.int .i64 o.1, .int .i64 o.2.1, .int .i64 o.2.2.1, .int .i64 o.2.2.2.1, .int .i64 o.2.2.2.2.1, .int .i64 o.2.2.2.2.2.1, .int .i64 o.2.2.2.2.2.2] w2 := B0_1.below k2
  have B1_2 : Arr (w.heap.size + 1) [.int .i64 0, .int .i64 0, .int .i64 0] w2 := B1_1.below k2
  have z2 := B1_2.lies
  clear K1 BF_1 B0_1 B1_1 k2
  go_wp2_with fail
  refine wp_region_held_drew (S := fun w' => Arr w.heap.size [.int .i64 o.1, .int .i64 o.2.1, .int .i64 o.2.2.1, .int .i64 o.2.2.2.1, .int .i64 o.2.2.2.2.1, .int .i64 o.2.2.2.2.2.1, .int .i64 o.2.2.2.2.2.2] w') (by kernel_rfl) B0_2.drew (fun hHeld => ?_)
  refine take_at (i := 0) (v := ?v1) rfl (by kernel_rfl) (by kernel_rfl) (by kernel_rfl) (fun _ _ _ h => h) (Or.inl ⟨by rfl, ?y1⟩) hHeld ?t1
  case y1 => (intro wx hSw; go_simp <;> with_reducible rfl)
  simp only [Act.put, List.setIfInBounds_toArray, List.set_cons_zero, List.set_cons_succ]
  refine take_at (i := 1) (v := ?v2) rfl (by kernel_rfl) (by kernel_rfl) (by kernel_rfl) (fun _ _ _ h => h) (Or.inl ⟨by rfl, ?y2⟩) hHeld ?t2
  case y2 => (intro wx hSw; go_simp <;> with_reducible rfl)
  simp only [Act.put, List.setIfInBounds_toArray, List.set_cons_zero, List.set_cons_succ]
  refine take_at (i := 2) (v := ?v3) rfl (by kernel_rfl) (by kernel_rfl) (by kernel_rfl) (fun _ _ _ h => h) (Or.inl ⟨by rfl, ?y3⟩) hHeld ?t3
  case y3 => (intro wx hSw; go_simp <;> with_reducible rfl)
  simp only [Act.put, List.setIfInBounds_toArray, List.set_cons_zero, List.set_cons_succ]
  refine take_at (i := 4) (v := ?v4) rfl (by kernel_rfl) (by kernel_rfl) (by kernel_rfl) (fun _ _ _ h => h) (Or.inl ⟨by rfl, ?y4⟩) hHeld ?t4
  case y4 => (intro wx hSw; go_simp <;> with_reducible rfl)
  simp only [Act.put, List.setIfInBounds_toArray, List.set_cons_zero, List.set_cons_succ]
  refine take_at (i := 5) (v := ?v5) rfl (by kernel_rfl) (by kernel_rfl) (by kernel_rfl) (fun _ _ _ h => h) (Or.inl ⟨by rfl, ?y5⟩) hHeld ?t5
  case y5 => (intro wx hSw; go_simp <;> with_reducible rfl)
  simp only [Act.put, List.setIfInBounds_toArray, List.set_cons_zero, List.set_cons_succ]
  refine take_at (i := 6) (v := ?v6) rfl (by kernel_rfl) (by kernel_rfl) (by kernel_rfl) (fun _ _ _ h => h) (Or.inl ⟨by rfl, ?y6⟩) hHeld ?t6
  case y6 => (intro wx hSw; have hc6 : wx.cell? ⟨w.heap.size, 6, none⟩ = some (.int .i64 o.2.2.2.2.2.2) := hSw.c 6 (of_decide_eq_true rfl); go_simp <;> with_reducible rfl)
  simp only [Act.put, List.setIfInBounds_toArray, List.set_cons_zero, List.set_cons_succ]
  refine call_at (i := 3) (by kernel_rfl) rfl (fun K hK => ?_)
  go_simp
  refine (cDays_any b false t _ BF_2.drew).mono ?_
  rintro e w3 ⟨rfl, f3, k3⟩
  rw [hdt] at f3 ⊢
  dsimp only at f3 ⊢
  have K3 : Kept b w w3 := Kept.trans K2.drew k3
  have B0_3 : Arr w.heap.size [.int .i64 o.1, .int .i64 o.2.1, .int .i64 o.2.2.1, .int .i64 o.2.2.2.1, .int .i64 o.2.2.2.2.1, .int .i64 o.2.2.2.2.2.1, .int .i64 o.2.2.2.2.2.2] w3 := B0_2.drew.kept k3 (Nat.ne_of_gt y1_BF)
  have B1_3 : Arr (w.heap.size + 1) [.int .i64 0, .int .i64 0, .int .i64 0] w3 := B1_2.drew.kept k3 (Nat.ne_of_gt y2_BF)
  have z3 := B1_3.lies
  clear hHeld
  refine hK.out _ _ B0_3 (fun hHeld => ?_)
  clear hK K K2 BF_2 B0_2 B1_2 k3
  refine call_at (i := 7) (by kernel_rfl) rfl (fun K hK => ?_)
  go_simp
  refine (cDays_any b false o.2.2.2.2.2.2 _ f3).mono ?_
  rintro e w4 ⟨rfl, f4, k4⟩
  rw [hda] at f4 ⊢
  dsimp only at f4 ⊢
  have K4 : Kept b w w4 := Kept.trans K3 k4
  have B0_4 : Arr w.heap.size [.int .i64 o.1, .int .i64 o.2.1, .int .i64 o.2.2.1, .int .i64 o.2.2.2.1, .int .i64 o.2.2.2.2.1, .int .i64 o.2.2.2.2.2.1, .int .i64 o.2.2.2.2.2.2] w4 := B0_3.kept k4 (Nat.ne_of_gt y1_BF)
  have B1_4 : Arr (w.heap.size + 1) [.int .i64 0, .int .i64 0, .int .i64 0] w4 := B1_3.kept k4 (Nat.ne_of_gt y2_BF)
  have z4 := B1_4.lies
  clear hHeld
  refine hK.out _ _ B0_4 (fun hHeld => ?_)
  clear hK K K3 f3 B0_3 B1_3 k4
  refine call_at (i := 8) (by kernel_rfl) rfl (fun K hK => ?_)
  go_simp
  refine (Sub_any b false dt da _ f4).mono ?_
  rintro e w5 ⟨rfl, f5, k5⟩
  rw [hd] at f5 ⊢
  dsimp only at f5 ⊢
  have K5 : Kept b w w5 := Kept.trans K4 k5
  have B0_5 : Arr w.heap.size [.int .i64 o.1, .int .i64 o.2.1, .int .i64 o.2.2.1, .int .i64 o.2.2.2.1, .int .i64 o.2.2.2.2.1, .int .i64 o.2.2.2.2.2.1, .int .i64 o.2.2.2.2.2.2] w5 := B0_4.kept k5 (Nat.ne_of_gt y1_BF)
  have B1_5 : Arr (w.heap.size + 1) [.int .i64 0, .int .i64 0, .int .i64 0] w5 := B1_4.kept k5 (Nat.ne_of_gt y2_BF)
  have z5 := B1_5.lies
  clear hHeld
  refine hK.out _ _ B0_5 (fun hHeld => ?_)
  clear hK K K4 f4 B0_4 B1_4 k5
  refine take_at (i := 9) (v := ?v7) rfl (by kernel_rfl) (by kernel_rfl) (by kernel_rfl) (fun _ _ _ h => h) (Or.inl ⟨by rfl, ?y7⟩) hHeld ?t7
  case y7 => (intro wx hSw; go_simp <;> with_reducible rfl)
  simp only [Act.put, List.setIfInBounds_toArray, List.set_cons_zero, List.set_cons_succ]
  refine wpAnyH_done (by kernel_rfl) ?_ _
  clear hHeld
  have c4_B0_0 : w5.cell? ⟨w.heap.size, 0, none⟩ = some (.int .i64 o.1) := B0_5.c 0 (of_decide_eq_true rfl)
  have c4_B0_1 : w5.cell? ⟨w.heap.size, 1, none⟩ = some (.int .i64 o.2.1) := B0_5.c 1 (of_decide_eq_true rfl)
  have c4_B0_2 : w5.cell? ⟨w.heap.size, 2, none⟩ = some (.int .i64 o.2.2.1) := B0_5.c 2 (of_decide_eq_true rfl)
  have c4_B0_3 : w5.cell? ⟨w.heap.size, 3, none⟩ = some (.int .i64 o.2.2.2.1) := B0_5.c 3 (of_decide_eq_true rfl)
  have c4_B0_4 : w5.cell? ⟨w.heap.size, 4, none⟩ = some (.int .i64 o.2.2.2.2.1) := B0_5.c 4 (of_decide_eq_true rfl)
  have c4_B0_5 : w5.cell? ⟨w.heap.size, 5, none⟩ = some (.int .i64 o.2.2.2.2.2.1) := B0_5.c 5 (of_decide_eq_true rfl)
  have c4_B0_6 : w5.cell? ⟨w.heap.size, 6, none⟩ = some (.int .i64 o.2.2.2.2.2.2) := B0_5.c 6 (of_decide_eq_true rfl)
  go_wp2_with fail
  refine (oshapeOf_any b false o _ f5).mono ?_
  rintro e w6 ⟨rfl, f6, k6⟩
  rw [(shape_good G)] at f6 ⊢
  dsimp only at f6 ⊢
  have K6 : Kept b w w6 := Kept.trans K5 k6
  have B0_6 : Arr w.heap.size [.int .i64 o.1, .int .i64 o.2.1, .int .i64 o.2.2.1, .int .i64 o.2.2.2.1, .int .i64 o.2.2.2.2.1, .int .i64 o.2.2.2.2.2.1, .int .i64 o.2.2.2.2.2.2] w6 := B0_5.kept k6 (Nat.ne_of_gt y1_BF)
  have B1_6 : Arr (w.heap.size + 1) [.int .i64 0, .int .i64 0, .int .i64 0] w6 := B1_5.kept k6 (Nat.ne_of_gt y2_BF)
  have z6 := B1_6.lies
  clear c4_B0_0 c4_B0_1 c4_B0_2 c4_B0_3 c4_B0_4 c4_B0_5 c4_B0_6 K5 f5 B0_5 B1_5 k6
  have y3_BF : b < w6.heap.size := f6.lies
  have y3_B0 : w.heap.size < w6.heap.size := B0_6.lies
  have y3_B1 : w.heap.size + 1 < w6.heap.size := B1_6.lies
  have c5_B0_0 : w6.cell? ⟨w.heap.size, 0, none⟩ = some (.int .i64 o.1) := B0_6.c 0 (of_decide_eq_true rfl)
  have c5_B0_1 : w6.cell? ⟨w.heap.size, 1, none⟩ = some (.int .i64 o.2.1) := B0_6.c 1 (of_decide_eq_true rfl)
  have c5_B0_2 : w6.cell? ⟨w.heap.size, 2, none⟩ = some (.int .i64 o.2.2.1) := B0_6.c 2 (of_decide_eq_true rfl)
  have c5_B0_3 : w6.cell? ⟨w.heap.size, 3, none⟩ = some (.int .i64 o.2.2.2.1) := B0_6.c 3 (of_decide_eq_true rfl)
  have c5_B0_4 : w6.cell? ⟨w.heap.size, 4, none⟩ = some (.int .i64 o.2.2.2.2.1) := B0_6.c 4 (of_decide_eq_true rfl)
  have c5_B0_5 : w6.cell? ⟨w.heap.size, 5, none⟩ = some (.int .i64 o.2.2.2.2.2.1) := B0_6.c 5 (of_decide_eq_true rfl)
  have c5_B0_6 : w6.cell? ⟨w.heap.size, 6, none⟩ = some (.int .i64 o.2.2.2.2.2.2) := B0_6.c 6 (of_decide_eq_true rfl)
  have l5_B0 := B0_6.lies
  go_wp2_with fail
  refine (odrifted_any b false o (G.r, G.s, G.c) (dt - da) _ (f6.alloc _)).mono ?_
  rintro e w7 ⟨rfl, f7, k7⟩
  rw [(drift_good G)] at f7 ⊢
  dsimp only at f7 ⊢
  have K7 : Kept b w w7 := Kept.trans (K6.al _) k7
  have B0_7 : Arr w.heap.size [.int .i64 o.1, .int .i64 o.2.1, .int .i64 o.2.2.1, .int .i64 o.2.2.2.1, .int .i64 o.2.2.2.2.1, .int .i64 o.2.2.2.2.2.1, .int .i64 o.2.2.2.2.2.2] w7 := (B0_6.alloc _).kept k7 (Nat.ne_of_gt y1_BF)
  have B1_7 : Arr (w.heap.size + 1) [.int .i64 0, .int .i64 0, .int .i64 0] w7 := (B1_6.alloc _).kept k7 (Nat.ne_of_gt y2_BF)
  have B2_7 : Arr w6.heap.size [.int .i64 G.r, .int .i64 G.s, .int .i64 G.c] w7 := (Arr_at _ _ [.int .i64 G.r, .int .i64 G.s, .int .i64 G.c] _ (by simp)).kept k7 (Nat.ne_of_gt y3_BF)
  have z7 := B2_7.lies
  clear c5_B0_0 c5_B0_1 c5_B0_2 c5_B0_3 c5_B0_4 c5_B0_5 c5_B0_6 l5_B0 K6 f6 B0_6 B1_6 k7
  have y4_BF : b < w7.heap.size := f7.lies
  have y4_B0 : w.heap.size < w7.heap.size := B0_7.lies
  have y4_B1 : w.heap.size + 1 < w7.heap.size := B1_7.lies
  have y4_B2 : w6.heap.size < w7.heap.size := B2_7.lies
  have c6_B0_1 : w7.cell? ⟨w.heap.size, 1, none⟩ = some (.int .i64 o.2.1) := B0_7.c 1 (of_decide_eq_true rfl)
  have l6_B0 := B0_7.lies
  go_wp2_with fail
  refine (oKepC_any b false ((o.2.2.2.2.2.1 + G.mm) % 6908435304716) o.2.1 _ (f7.alloc _)).mono ?_
  rintro e w8 ⟨rfl, f8, k8⟩
  rw [hx] at f8 ⊢
  dsimp only at f8 ⊢
  have K8 : Kept b w w8 := Kept.trans (K7.al _) k8
  have B0_8 : Arr w.heap.size [.int .i64 o.1, .int .i64 o.2.1, .int .i64 o.2.2.1, .int .i64 o.2.2.2.1, .int .i64 o.2.2.2.2.1, .int .i64 o.2.2.2.2.2.1, .int .i64 o.2.2.2.2.2.2] w8 := (B0_7.alloc _).kept k8 (Nat.ne_of_gt y1_BF)
  have B1_8 : Arr (w.heap.size + 1) [.int .i64 0, .int .i64 0, .int .i64 0] w8 := (B1_7.alloc _).kept k8 (Nat.ne_of_gt y2_BF)
  have B2_8 : Arr w6.heap.size [.int .i64 G.r, .int .i64 G.s, .int .i64 G.c] w8 := (B2_7.alloc _).kept k8 (Nat.ne_of_gt y3_BF)
  have B3_8 : Arr w7.heap.size [.int .i64 (o.2.2.2.1 - G.kcd), .int .i64 (o.2.2.2.2.1 + G.kyd), .int .i64 ((o.2.2.2.2.2.1 + G.mm) % 6908435304716)] w8 := (Arr_at _ _ [.int .i64 (o.2.2.2.1 - G.kcd), .int .i64 (o.2.2.2.2.1 + G.kyd), .int .i64 ((o.2.2.2.2.2.1 + G.mm) % 6908435304716)] _ (by simp)).kept k8 (Nat.ne_of_gt y4_BF)
  have z8 := B3_8.lies
  clear c6_B0_1 l6_B0 K7 f7 B0_7 B1_7 B2_7 k8
  go_wp2_with fail
  refine wp_region_held_drew (S := fun w' => Arr w.heap.size [.int .i64 o.1, .int .i64 o.2.1, .int .i64 o.2.2.1, .int .i64 o.2.2.2.1, .int .i64 o.2.2.2.2.1, .int .i64 o.2.2.2.2.2.1, .int .i64 o.2.2.2.2.2.2] w') (by kernel_rfl) B0_8.drew (fun hHeld => ?_)
  refine take_at (i := 0) (v := ?v8) rfl (by kernel_rfl) (by kernel_rfl) (by kernel_rfl) (fun _ _ _ h => h) (Or.inl ⟨by rfl, ?y8⟩) hHeld ?t8
  case y8 => (intro wx hSw; go_simp <;> with_reducible rfl)
  simp only [Act.put, List.setIfInBounds_toArray, List.set_cons_zero, List.set_cons_succ]
  refine take_at (i := 1) (v := ?v9) rfl (by kernel_rfl) (by kernel_rfl) (by kernel_rfl) (fun _ _ _ h => h) (Or.inl ⟨by rfl, ?y9⟩) hHeld ?t9
  case y9 => (intro wx hSw; go_simp <;> with_reducible rfl)
  simp only [Act.put, List.setIfInBounds_toArray, List.set_cons_zero, List.set_cons_succ]
  refine take_at (i := 2) (v := ?v10) rfl (by kernel_rfl) (by kernel_rfl) (by kernel_rfl) (fun _ _ _ h => h) (Or.inl ⟨by rfl, ?y10⟩) hHeld ?t10
  case y10 => (intro wx hSw; have hc0 : wx.cell? ⟨w.heap.size, 0, none⟩ = some (.int .i64 o.1) := hSw.c 0 (of_decide_eq_true rfl); go_simp <;> with_reducible rfl)
  simp only [Act.put, List.setIfInBounds_toArray, List.set_cons_zero, List.set_cons_succ]
  refine take_at (i := 3) (v := ?v11) rfl (by kernel_rfl) (by kernel_rfl) (by kernel_rfl) (fun _ _ _ h => h) (Or.inl ⟨by rfl, ?y11⟩) hHeld ?t11
  case y11 => (intro wx hSw; go_simp <;> with_reducible rfl)
  simp only [Act.put, List.setIfInBounds_toArray, List.set_cons_zero, List.set_cons_succ]
  refine take_at (i := 4) (v := ?v12) rfl (by kernel_rfl) (by kernel_rfl) (by kernel_rfl) (fun _ _ _ h => h) (Or.inl ⟨by rfl, ?y12⟩) hHeld ?t12
  case y12 => (intro wx hSw; go_simp <;> with_reducible rfl)
  simp only [Act.put, List.setIfInBounds_toArray, List.set_cons_zero, List.set_cons_succ]
  refine take_at (i := 5) (v := ?v13) rfl (by kernel_rfl) (by kernel_rfl) (by kernel_rfl) (fun _ _ _ h => h) (Or.inl ⟨by rfl, ?y13⟩) hHeld ?t13
  case y13 => (intro wx hSw; go_simp <;> with_reducible rfl)
  simp only [Act.put, List.setIfInBounds_toArray, List.set_cons_zero, List.set_cons_succ]
  refine take_at (i := 7) (v := ?v14) rfl (by kernel_rfl) (by kernel_rfl) (by kernel_rfl) (fun _ _ _ h => h) (Or.inl ⟨by rfl, ?y14⟩) hHeld ?t14
  case y14 => (intro wx hSw; go_simp <;> with_reducible rfl)
  simp only [Act.put, List.setIfInBounds_toArray, List.set_cons_zero, List.set_cons_succ]
  refine take_at (i := 8) (v := ?v15) rfl (by kernel_rfl) (by kernel_rfl) (by kernel_rfl) (fun _ _ _ h => h) (Or.inl ⟨by rfl, ?y15⟩) hHeld ?t15
  case y15 => (intro wx hSw; have hc1 : wx.cell? ⟨w.heap.size, 1, none⟩ = some (.int .i64 o.2.1) := hSw.c 1 (of_decide_eq_true rfl); go_simp <;> with_reducible rfl)
  simp only [Act.put, List.setIfInBounds_toArray, List.set_cons_zero, List.set_cons_succ]
  refine call_at (i := 6) (by kernel_rfl) rfl (fun K hK => ?_)
  go_simp
  refine (Cos_any b false x _ f8.drew).mono ?_
  rintro e w9 ⟨rfl, f9, k9⟩
  rw [Q.hcx] at f9 ⊢
  dsimp only at f9 ⊢
  have K9 : Kept b w w9 := Kept.trans K8.drew k9
  have B0_9 : Arr w.heap.size [.int .i64 o.1, .int .i64 o.2.1, .int .i64 o.2.2.1, .int .i64 o.2.2.2.1, .int .i64 o.2.2.2.2.1, .int .i64 o.2.2.2.2.2.1, .int .i64 o.2.2.2.2.2.2] w9 := B0_8.drew.kept k9 (Nat.ne_of_gt y1_BF)
  have B1_9 : Arr (w.heap.size + 1) [.int .i64 0, .int .i64 0, .int .i64 0] w9 := B1_8.drew.kept k9 (Nat.ne_of_gt y2_BF)
  have B2_9 : Arr w6.heap.size [.int .i64 G.r, .int .i64 G.s, .int .i64 G.c] w9 := B2_8.drew.kept k9 (Nat.ne_of_gt y3_BF)
  have B3_9 : Arr w7.heap.size [.int .i64 (o.2.2.2.1 - G.kcd), .int .i64 (o.2.2.2.2.1 + G.kyd), .int .i64 ((o.2.2.2.2.2.1 + G.mm) % 6908435304716)] w9 := B3_8.drew.kept k9 (Nat.ne_of_gt y4_BF)
  have z9 := B3_9.lies
  clear hHeld
  refine hK.out _ _ B0_9 (fun hHeld => ?_)
  clear hK K K8 f8 B0_8 B1_8 B2_8 B3_8 k9
  refine call_at (i := 9) (by kernel_rfl) rfl (fun K hK => ?_)
  go_simp
  refine (Sub_any b false Q.cx o.2.1 _ f9).mono ?_
  rintro e w10 ⟨rfl, f10, k10⟩
  rw [Q.hce] at f10 ⊢
  dsimp only at f10 ⊢
  have K10 : Kept b w w10 := Kept.trans K9 k10
  have B0_10 : Arr w.heap.size [.int .i64 o.1, .int .i64 o.2.1, .int .i64 o.2.2.1, .int .i64 o.2.2.2.1, .int .i64 o.2.2.2.2.1, .int .i64 o.2.2.2.2.2.1, .int .i64 o.2.2.2.2.2.2] w10 := B0_9.kept k10 (Nat.ne_of_gt y1_BF)
  have B1_10 : Arr (w.heap.size + 1) [.int .i64 0, .int .i64 0, .int .i64 0] w10 := B1_9.kept k10 (Nat.ne_of_gt y2_BF)
  have B2_10 : Arr w6.heap.size [.int .i64 G.r, .int .i64 G.s, .int .i64 G.c] w10 := B2_9.kept k10 (Nat.ne_of_gt y3_BF)
  have B3_10 : Arr w7.heap.size [.int .i64 (o.2.2.2.1 - G.kcd), .int .i64 (o.2.2.2.2.1 + G.kyd), .int .i64 ((o.2.2.2.2.2.1 + G.mm) % 6908435304716)] w10 := B3_9.kept k10 (Nat.ne_of_gt y4_BF)
  have z10 := B3_10.lies
  clear hHeld
  refine hK.out _ _ B0_10 (fun hHeld => ?_)
  clear hK K K9 f9 B0_9 B1_9 B2_9 B3_9 k10
  refine call_at (i := 10) (by kernel_rfl) rfl (fun K hK => ?_)
  go_simp
  refine (Mul_any b false o.1 (Q.cx - o.2.1) _ f10).mono ?_
  rintro e w11 ⟨rfl, f11, k11⟩
  rw [Q.hu] at f11 ⊢
  dsimp only at f11 ⊢
  have K11 : Kept b w w11 := Kept.trans K10 k11
  have B0_11 : Arr w.heap.size [.int .i64 o.1, .int .i64 o.2.1, .int .i64 o.2.2.1, .int .i64 o.2.2.2.1, .int .i64 o.2.2.2.2.1, .int .i64 o.2.2.2.2.2.1, .int .i64 o.2.2.2.2.2.2] w11 := B0_10.kept k11 (Nat.ne_of_gt y1_BF)
  have B1_11 : Arr (w.heap.size + 1) [.int .i64 0, .int .i64 0, .int .i64 0] w11 := B1_10.kept k11 (Nat.ne_of_gt y2_BF)
  have B2_11 : Arr w6.heap.size [.int .i64 G.r, .int .i64 G.s, .int .i64 G.c] w11 := B2_10.kept k11 (Nat.ne_of_gt y3_BF)
  have B3_11 : Arr w7.heap.size [.int .i64 (o.2.2.2.1 - G.kcd), .int .i64 (o.2.2.2.2.1 + G.kyd), .int .i64 ((o.2.2.2.2.2.1 + G.mm) % 6908435304716)] w11 := B3_10.kept k11 (Nat.ne_of_gt y4_BF)
  have z11 := B3_11.lies
  clear hHeld
  refine hK.out _ _ B0_11 (fun hHeld => ?_)
  clear hK K K10 f10 B0_10 B1_10 B2_10 B3_10 k11
  refine take_at (i := 11) (v := ?v16) rfl (by kernel_rfl) (by kernel_rfl) (by kernel_rfl) (fun _ _ _ h => h) (Or.inl ⟨by rfl, ?y16⟩) hHeld ?t16
  case y16 => (intro wx hSw; go_simp <;> with_reducible rfl)
  simp only [Act.put, List.setIfInBounds_toArray, List.set_cons_zero, List.set_cons_succ]
  refine wpAnyH_done (by kernel_rfl) ?_ _
  clear hHeld
  have c8_B0_0 : w11.cell? ⟨w.heap.size, 0, none⟩ = some (.int .i64 o.1) := B0_11.c 0 (of_decide_eq_true rfl)
  have c8_B2_0 : w11.cell? ⟨w6.heap.size, 0, none⟩ = some (.int .i64 G.r) := B2_11.c 0 (of_decide_eq_true rfl)
  go_wp2_with fail
  refine (Mul_any b false o.1 G.r _ f11).mono ?_
  rintro e w12 ⟨rfl, f12, k12⟩
  rw [Q.hw1] at f12 ⊢
  dsimp only at f12 ⊢
  have K12 : Kept b w w12 := Kept.trans K11 k12
  have B0_12 : Arr w.heap.size [.int .i64 o.1, .int .i64 o.2.1, .int .i64 o.2.2.1, .int .i64 o.2.2.2.1, .int .i64 o.2.2.2.2.1, .int .i64 o.2.2.2.2.2.1, .int .i64 o.2.2.2.2.2.2] w12 := B0_11.kept k12 (Nat.ne_of_gt y1_BF)
  have B1_12 : Arr (w.heap.size + 1) [.int .i64 0, .int .i64 0, .int .i64 0] w12 := B1_11.kept k12 (Nat.ne_of_gt y2_BF)
  have B2_12 : Arr w6.heap.size [.int .i64 G.r, .int .i64 G.s, .int .i64 G.c] w12 := B2_11.kept k12 (Nat.ne_of_gt y3_BF)
  have B3_12 : Arr w7.heap.size [.int .i64 (o.2.2.2.1 - G.kcd), .int .i64 (o.2.2.2.2.1 + G.kyd), .int .i64 ((o.2.2.2.2.2.1 + G.mm) % 6908435304716)] w12 := B3_11.kept k12 (Nat.ne_of_gt y4_BF)
  have z12 := B3_12.lies
  clear c8_B0_0 c8_B2_0 K11 f11 B0_11 B1_11 B2_11 B3_11 k12
  go_wp2_with fail
  refine (Sin_any b false x _ f12).mono ?_
  rintro e w13 ⟨rfl, f13, k13⟩
  rw [Q.hsx] at f13 ⊢
  dsimp only at f13 ⊢
  have K13 : Kept b w w13 := Kept.trans K12 k13
  have B0_13 : Arr w.heap.size [.int .i64 o.1, .int .i64 o.2.1, .int .i64 o.2.2.1, .int .i64 o.2.2.2.1, .int .i64 o.2.2.2.2.1, .int .i64 o.2.2.2.2.2.1, .int .i64 o.2.2.2.2.2.2] w13 := B0_12.kept k13 (Nat.ne_of_gt y1_BF)
  have B1_13 : Arr (w.heap.size + 1) [.int .i64 0, .int .i64 0, .int .i64 0] w13 := B1_12.kept k13 (Nat.ne_of_gt y2_BF)
  have B2_13 : Arr w6.heap.size [.int .i64 G.r, .int .i64 G.s, .int .i64 G.c] w13 := B2_12.kept k13 (Nat.ne_of_gt y3_BF)
  have B3_13 : Arr w7.heap.size [.int .i64 (o.2.2.2.1 - G.kcd), .int .i64 (o.2.2.2.2.1 + G.kyd), .int .i64 ((o.2.2.2.2.2.1 + G.mm) % 6908435304716)] w13 := B3_12.kept k13 (Nat.ne_of_gt y4_BF)
  have z13 := B3_13.lies
  clear K12 f12 B0_12 B1_12 B2_12 B3_12 k13
  go_wp2_with fail
  refine (Mul_any b false Q.w1 Q.sx _ f13).mono ?_
  rintro e w14 ⟨rfl, f14, k14⟩
  rw [Q.hv] at f14 ⊢
  dsimp only at f14 ⊢
  have K14 : Kept b w w14 := Kept.trans K13 k14
  have B0_14 : Arr w.heap.size [.int .i64 o.1, .int .i64 o.2.1, .int .i64 o.2.2.1, .int .i64 o.2.2.2.1, .int .i64 o.2.2.2.2.1, .int .i64 o.2.2.2.2.2.1, .int .i64 o.2.2.2.2.2.2] w14 := B0_13.kept k14 (Nat.ne_of_gt y1_BF)
  have B1_14 : Arr (w.heap.size + 1) [.int .i64 0, .int .i64 0, .int .i64 0] w14 := B1_13.kept k14 (Nat.ne_of_gt y2_BF)
  have B2_14 : Arr w6.heap.size [.int .i64 G.r, .int .i64 G.s, .int .i64 G.c] w14 := B2_13.kept k14 (Nat.ne_of_gt y3_BF)
  have B3_14 : Arr w7.heap.size [.int .i64 (o.2.2.2.1 - G.kcd), .int .i64 (o.2.2.2.2.1 + G.kyd), .int .i64 ((o.2.2.2.2.2.1 + G.mm) % 6908435304716)] w14 := B3_13.kept k14 (Nat.ne_of_gt y4_BF)
  have z14 := B3_14.lies
  clear K13 f13 B0_13 B1_13 B2_13 B3_13 k14
  have c11_B3_1 : w14.cell? ⟨w7.heap.size, 1, none⟩ = some (.int .i64 (o.2.2.2.2.1 + G.kyd)) := B3_14.c 1 (of_decide_eq_true rfl)
  go_wp2_with fail
  refine (oturned_any b false Q.u Q.v (o.2.2.2.2.1 + G.kyd) _ f14).mono ?_
  rintro e w15 ⟨rfl, f15, k15⟩
  rw [(turn1_good Q)] at f15 ⊢
  dsimp only at f15 ⊢
  have K15 : Kept b w w15 := Kept.trans K14 k15
  have B0_15 : Arr w.heap.size [.int .i64 o.1, .int .i64 o.2.1, .int .i64 o.2.2.1, .int .i64 o.2.2.2.1, .int .i64 o.2.2.2.2.1, .int .i64 o.2.2.2.2.2.1, .int .i64 o.2.2.2.2.2.2] w15 := B0_14.kept k15 (Nat.ne_of_gt y1_BF)
  have B1_15 : Arr (w.heap.size + 1) [.int .i64 0, .int .i64 0, .int .i64 0] w15 := B1_14.kept k15 (Nat.ne_of_gt y2_BF)
  have B2_15 : Arr w6.heap.size [.int .i64 G.r, .int .i64 G.s, .int .i64 G.c] w15 := B2_14.kept k15 (Nat.ne_of_gt y3_BF)
  have B3_15 : Arr w7.heap.size [.int .i64 (o.2.2.2.1 - G.kcd), .int .i64 (o.2.2.2.2.1 + G.kyd), .int .i64 ((o.2.2.2.2.2.1 + G.mm) % 6908435304716)] w15 := B3_14.kept k15 (Nat.ne_of_gt y4_BF)
  have z15 := B3_15.lies
  clear c11_B3_1 K14 f14 B0_14 B1_14 B2_14 B3_14 k15
  go_wp2_with fail
  refine wp_region_held_drew (S := fun w' => Arr w6.heap.size [.int .i64 G.r, .int .i64 G.s, .int .i64 G.c] w' ∧ Arr w7.heap.size [.int .i64 (o.2.2.2.1 - G.kcd), .int .i64 (o.2.2.2.2.1 + G.kyd), .int .i64 ((o.2.2.2.2.2.1 + G.mm) % 6908435304716)] w') (by kernel_rfl) ⟨B2_15.drew, B3_15.drew⟩ (fun hHeld => ?_)
  refine take_at (i := 0) (v := ?v17) rfl (by kernel_rfl) (by kernel_rfl) (by kernel_rfl) (fun _ _ _ h => h) (Or.inl ⟨by rfl, ?y17⟩) hHeld ?t17
  case y17 => (intro wx hSw; go_simp <;> with_reducible rfl)
  simp only [Act.put, List.setIfInBounds_toArray, List.set_cons_zero, List.set_cons_succ]
  refine take_at (i := 1) (v := ?v18) rfl (by kernel_rfl) (by kernel_rfl) (by kernel_rfl) (fun _ _ _ h => h) (Or.inl ⟨by rfl, ?y18⟩) hHeld ?t18
  case y18 => (intro wx hSw; go_simp <;> with_reducible rfl)
  simp only [Act.put, List.setIfInBounds_toArray, List.set_cons_zero, List.set_cons_succ]
  refine take_at (i := 2) (v := ?v19) rfl (by kernel_rfl) (by kernel_rfl) (by kernel_rfl) (fun _ _ _ h => h) (Or.inl ⟨by rfl, ?y19⟩) hHeld ?t19
  case y19 => (intro wx hSw; go_simp <;> with_reducible rfl)
  simp only [Act.put, List.setIfInBounds_toArray, List.set_cons_zero, List.set_cons_succ]
  refine take_at (i := 3) (v := ?v20) rfl (by kernel_rfl) (by kernel_rfl) (by kernel_rfl) (fun _ _ _ h => h) (Or.inl ⟨by rfl, ?y20⟩) hHeld ?t20
  case y20 => (intro wx hSw; go_simp <;> with_reducible rfl)
  simp only [Act.put, List.setIfInBounds_toArray, List.set_cons_zero, List.set_cons_succ]
  refine take_at (i := 4) (v := ?v21) rfl (by kernel_rfl) (by kernel_rfl) (by kernel_rfl) (fun _ _ _ h => h) (Or.inl ⟨by rfl, ?y21⟩) hHeld ?t21
  case y21 => (intro wx hSw; go_simp <;> with_reducible rfl)
  simp only [Act.put, List.setIfInBounds_toArray, List.set_cons_zero, List.set_cons_succ]
  refine take_at (i := 5) (v := ?v22) rfl (by kernel_rfl) (by kernel_rfl) (by kernel_rfl) (fun _ _ _ h => h) (Or.inl ⟨by rfl, ?y22⟩) hHeld ?t22
  case y22 => (intro wx hSw; have hc2 : wx.cell? ⟨w6.heap.size, 2, none⟩ = some (.int .i64 G.c) := hSw.1.c 2 (of_decide_eq_true rfl); go_simp <;> with_reducible rfl)
  simp only [Act.put, List.setIfInBounds_toArray, List.set_cons_zero, List.set_cons_succ]
  refine take_at (i := 7) (v := ?v23) rfl (by kernel_rfl) (by kernel_rfl) (by kernel_rfl) (fun _ _ _ h => h) (Or.inl ⟨by rfl, ?y23⟩) hHeld ?t23
  case y23 => (intro wx hSw; go_simp <;> with_reducible rfl)
  simp only [Act.put, List.setIfInBounds_toArray, List.set_cons_zero, List.set_cons_succ]
  refine take_at (i := 8) (v := ?v24) rfl (by kernel_rfl) (by kernel_rfl) (by kernel_rfl) (fun _ _ _ h => h) (Or.inl ⟨by rfl, ?y24⟩) hHeld ?t24
  case y24 => (intro wx hSw; have hc0 : wx.cell? ⟨w7.heap.size, 0, none⟩ = some (.int .i64 (o.2.2.2.1 - G.kcd)) := hSw.2.c 0 (of_decide_eq_true rfl); go_simp <;> with_reducible rfl)
  simp only [Act.put, List.setIfInBounds_toArray, List.set_cons_zero, List.set_cons_succ]
  refine call_at (i := 6) (by kernel_rfl) rfl (fun K hK => ?_)
  go_simp
  refine (Mul_any b false (Q.m3 + Q.m4) G.c _ f15.drew).mono ?_
  rintro e w16 ⟨rfl, f16, k16⟩
  rw [Q.hbc] at f16 ⊢
  dsimp only at f16 ⊢
  have K16 : Kept b w w16 := Kept.trans K15.drew k16
  have B0_16 : Arr w.heap.size [.int .i64 o.1, .int .i64 o.2.1, .int .i64 o.2.2.1, .int .i64 o.2.2.2.1, .int .i64 o.2.2.2.2.1, .int .i64 o.2.2.2.2.2.1, .int .i64 o.2.2.2.2.2.2] w16 := B0_15.drew.kept k16 (Nat.ne_of_gt y1_BF)
  have B1_16 : Arr (w.heap.size + 1) [.int .i64 0, .int .i64 0, .int .i64 0] w16 := B1_15.drew.kept k16 (Nat.ne_of_gt y2_BF)
  have B2_16 : Arr w6.heap.size [.int .i64 G.r, .int .i64 G.s, .int .i64 G.c] w16 := B2_15.drew.kept k16 (Nat.ne_of_gt y3_BF)
  have B3_16 : Arr w7.heap.size [.int .i64 (o.2.2.2.1 - G.kcd), .int .i64 (o.2.2.2.2.1 + G.kyd), .int .i64 ((o.2.2.2.2.2.1 + G.mm) % 6908435304716)] w16 := B3_15.drew.kept k16 (Nat.ne_of_gt y4_BF)
  have z16 := B3_16.lies
  clear hHeld
  refine hK.out _ _ ⟨B2_16, B3_16⟩ (fun hHeld => ?_)
  clear hK K K15 f15 B0_15 B1_15 B2_15 B3_15 k16
  refine call_at (i := 9) (by kernel_rfl) rfl (fun K hK => ?_)
  go_simp
  refine (oturned_any b false (Q.m1 - Q.m2) Q.bc (o.2.2.2.1 - G.kcd) _ f16).mono ?_
  rintro e w17 ⟨rfl, f17, k17⟩
  rw [(turn2_good Q)] at f17 ⊢
  dsimp only at f17 ⊢
  have K17 : Kept b w w17 := Kept.trans K16 k17
  have B0_17 : Arr w.heap.size [.int .i64 o.1, .int .i64 o.2.1, .int .i64 o.2.2.1, .int .i64 o.2.2.2.1, .int .i64 o.2.2.2.2.1, .int .i64 o.2.2.2.2.2.1, .int .i64 o.2.2.2.2.2.2] w17 := B0_16.kept k17 (Nat.ne_of_gt y1_BF)
  have B1_17 : Arr (w.heap.size + 1) [.int .i64 0, .int .i64 0, .int .i64 0] w17 := B1_16.kept k17 (Nat.ne_of_gt y2_BF)
  have B2_17 : Arr w6.heap.size [.int .i64 G.r, .int .i64 G.s, .int .i64 G.c] w17 := B2_16.kept k17 (Nat.ne_of_gt y3_BF)
  have B3_17 : Arr w7.heap.size [.int .i64 (o.2.2.2.1 - G.kcd), .int .i64 (o.2.2.2.2.1 + G.kyd), .int .i64 ((o.2.2.2.2.2.1 + G.mm) % 6908435304716)] w17 := B3_16.kept k17 (Nat.ne_of_gt y4_BF)
  have z17 := B3_17.lies
  clear hHeld
  refine hK.out _ _ ⟨B2_17, B3_17⟩ (fun hHeld => ?_)
  clear hK K K16 f16 B0_16 B1_16 B2_16 B3_16 k17
  refine take_at (i := 10) (v := ?v25) rfl (by kernel_rfl) (by kernel_rfl) (by kernel_rfl) (fun _ _ _ h => h) (Or.inl ⟨by rfl, ?y25⟩) hHeld ?t25
  case y25 => (intro wx hSw; go_simp <;> with_reducible rfl)
  simp only [Act.put, List.setIfInBounds_toArray, List.set_cons_zero, List.set_cons_succ]
  refine take_at (i := 11) (v := ?v26) rfl (by kernel_rfl) (by kernel_rfl) (by kernel_rfl) (fun _ _ _ h => h) (Or.inl ⟨by rfl, ?y26⟩) hHeld ?t26
  case y26 => (intro wx hSw; go_simp <;> with_reducible rfl)
  simp only [Act.put, List.setIfInBounds_toArray, List.set_cons_zero, List.set_cons_succ]
  refine take_at (i := 12) (v := ?v27) rfl (by kernel_rfl) (by kernel_rfl) (by kernel_rfl) (fun _ _ _ h => h) (Or.inl ⟨by rfl, ?y27⟩) hHeld ?t27
  case y27 => (intro wx hSw; go_simp <;> with_reducible rfl)
  simp only [Act.put, List.setIfInBounds_toArray, List.set_cons_zero, List.set_cons_succ]
  refine take_at (i := 13) (v := ?v28) rfl (by kernel_rfl) (by kernel_rfl) (by kernel_rfl) (fun _ _ _ h => h) (Or.inl ⟨by rfl, ?y28⟩) hHeld ?t28
  case y28 => (intro wx hSw; go_simp <;> with_reducible rfl)
  simp only [Act.put, List.setIfInBounds_toArray, List.set_cons_zero, List.set_cons_succ]
  refine take_at (i := 14) (v := ?v29) rfl (by kernel_rfl) (by kernel_rfl) (by kernel_rfl) (fun _ _ _ h => h) (Or.inl ⟨by rfl, ?y29⟩) hHeld ?t29
  case y29 => (intro wx hSw; go_simp <;> with_reducible rfl)
  simp only [Act.put, List.setIfInBounds_toArray, List.set_cons_zero, List.set_cons_succ]
  refine wpAnyH_done (by kernel_rfl) ?_ _
  clear hHeld
  have c13_B2_1 : w17.cell? ⟨w6.heap.size, 1, none⟩ = some (.int .i64 G.s) := B2_17.c 1 (of_decide_eq_true rfl)
  go_wp2_with fail
  refine (Mul_any b false (Q.m3 + Q.m4) G.s _ f17).mono ?_
  rintro e w18 ⟨rfl, f18, k18⟩
  rw [Q.hz] at f18 ⊢
  dsimp only at f18 ⊢
  have K18 : Kept b w w18 := Kept.trans K17 k18
  have B0_18 : Arr w.heap.size [.int .i64 o.1, .int .i64 o.2.1, .int .i64 o.2.2.1, .int .i64 o.2.2.2.1, .int .i64 o.2.2.2.2.1, .int .i64 o.2.2.2.2.2.1, .int .i64 o.2.2.2.2.2.2] w18 := B0_17.kept k18 (Nat.ne_of_gt y1_BF)
  have B1_18 : Arr (w.heap.size + 1) [.int .i64 0, .int .i64 0, .int .i64 0] w18 := B1_17.kept k18 (Nat.ne_of_gt y2_BF)
  have B2_18 : Arr w6.heap.size [.int .i64 G.r, .int .i64 G.s, .int .i64 G.c] w18 := B2_17.kept k18 (Nat.ne_of_gt y3_BF)
  have B3_18 : Arr w7.heap.size [.int .i64 (o.2.2.2.1 - G.kcd), .int .i64 (o.2.2.2.2.1 + G.kyd), .int .i64 ((o.2.2.2.2.2.1 + G.mm) % 6908435304716)] w18 := B3_17.kept k18 (Nat.ne_of_gt y4_BF)
  have z18 := B3_18.lies
  clear c13_B2_1 K17 f17 B0_17 B1_17 B2_17 B3_17 k18
  have c14_B1_0 : w18.cell? ⟨w.heap.size + 1, 0, none⟩ = some (.int .i64 0) := B1_18.c 0 (of_decide_eq_true rfl)
  have c14_B1_1 : w18.cell? ⟨w.heap.size + 1, 1, none⟩ = some (.int .i64 0) := B1_18.c 1 (of_decide_eq_true rfl)
  have c14_B1_2 : w18.cell? ⟨w.heap.size + 1, 2, none⟩ = some (.int .i64 0) := B1_18.c 2 (of_decide_eq_true rfl)
  have g14_B1_0 := B1_18.f 0 (of_decide_eq_true rfl)
  have g14_B1_1 := B1_18.f 1 (of_decide_eq_true rfl)
  have g14_B1_2 := B1_18.f 2 (of_decide_eq_true rfl)
  go_wp2_with (with_reducible refine post_stop ?_)
  refine Stop.mk ?_
  clear c14_B1_0 c14_B1_1 c14_B1_2 g14_B1_0 g14_B1_1 g14_B1_2
  refine bodyPost_ret (v := .agg #[.int .i64 (Q.m5 - Q.m6), .int .i64 (Q.m7 + Q.m8), .int .i64 Q.z]) (results_arr Try.results14 (((B1_18.put 0 (of_decide_eq_true rfl) (.int .i64 (Q.m5 - Q.m6)) [.int .i64 (Q.m5 - Q.m6), .int .i64 0, .int .i64 0] rfl).put 1 (of_decide_eq_true rfl) (.int .i64 (Q.m7 + Q.m8)) [.int .i64 (Q.m5 - Q.m6), .int .i64 (Q.m7 + Q.m8), .int .i64 0] rfl).put 2 (of_decide_eq_true rfl) (.int .i64 Q.z) [.int .i64 (Q.m5 - Q.m6), .int .i64 (Q.m7 + Q.m8), .int .i64 Q.z] rfl) rfl (by kernel_rfl) (by kernel_rfl)) rfl ?_
  exact ⟨rfl, (((f18.new (w.heap.size + 1) 0 (Nat.ne_of_lt y2_BF) (.int .i64 (Q.m5 - Q.m6))).new (w.heap.size + 1) 1 (Nat.ne_of_lt y2_BF) (.int .i64 (Q.m7 + Q.m8))).new (w.heap.size + 1) 2 (Nat.ne_of_lt y2_BF) (.int .i64 Q.z)), (((K18.new _ _ (by omega) _).new _ _ (by omega) _).new _ _ (by omega) _)⟩
theorem oPlace_any (b : Nat) (bad : Bool) (o : V7) (t : Int) (w : World) (hw : Fl b bad w) :
    Calls Try.prog 14 #[.pointer (some ⟨b, 0, none⟩), .agg #[.int .i64 o.1, .int .i64 o.2.1, .int .i64 o.2.2.1, .int .i64 o.2.2.2.1, .int .i64 o.2.2.2.2.1, .int .i64 o.2.2.2.2.2.1, .int .i64 o.2.2.2.2.2.2], .int .i64 t] w fun e w' => e = .returned (.agg #[.int .i64 ((placeS bad o t).1.1), .int .i64 ((placeS bad o t).1.2.1), .int .i64 ((placeS bad o t).1.2.2)]) ∧ Fl b (placeS bad o t).2 w' ∧ Kept b w w' := by
  rcases placeS_cases bad o t with ⟨hr, e⟩ | ⟨hr, ht, e⟩ | ⟨hr, ht, hb, e⟩ | ⟨hr, ht, hb, L⟩
  · rw [e]; exact oPlace_n1 b bad o t w hw hr
  · rw [e]; exact oPlace_n2 b bad o t w hw hr ht
  · subst hb; rw [e]; exact oPlace_bad b o t w hw hr ht
  · subst hb
    obtain ⟨⟨dt, da, hdt, hda, hd, G, x, hx, Q, e⟩⟩ := L
    rw [e]; exact oPlace_good b o t w hw hr ht dt da hdt hda hd G x hx Q
end Go.Proofs.Ytmjkmbhaemencaa
