/-
  The walks of package vec, for the seat Ytmjkmbhaemencaa. (Made by mkvec.py.)
-/
import Derived.Test.YtmjkmbhaemencaaVSpec
import Derived.Test.YtmjkmbhaemencaaVMem
import Derived.Test.YtmjkmbhaemencaaMNorm
import Derived.Handy
import Derived.Deep.RegionHeld3
namespace Go.Proofs.Ytmjkmbhaemencaa
open Go.RowKit

set_option maxRecDepth 100000 in
set_option maxHeartbeats 2000000 in
theorem vDot_any (b : Nat) (bad : Bool) (p : V3) (q : V3) (w : World) (hw : Fl b bad w) :
    Calls Try.prog 21 #[.pointer (some ⟨b, 0, none⟩), .agg #[.int .i64 p.1, .int .i64 p.2.1, .int .i64 p.2.2], .agg #[.int .i64 q.1, .int .i64 q.2.1, .int .i64 q.2.2]] w fun e w' => e = .returned (.int .i64 ((vDotS bad p q).1)) ∧ Fl b (vDotS bad p q).2 w' ∧ Kept b w w' := by
  have hl := hw.lies
  go_enter Try.func21, Try.ntmps21
  go_wp2_with fail
  refine wp_region_held_drew (S := fun w' => Arr w.heap.size [.int .i64 p.1, .int .i64 p.2.1, .int .i64 p.2.2] w' ∧ Arr (w.heap.size + 1) [.int .i64 q.1, .int .i64 q.2.1, .int .i64 q.2.2] w') (by kernel_rfl) ⟨((Arr_at _ _ [.int .i64 p.1, .int .i64 p.2.1, .int .i64 p.2.2] _ (by simp)).alloc _).drew, (Arr_at _ _ [.int .i64 q.1, .int .i64 q.2.1, .int .i64 q.2.2] _ (by simp)).drew⟩ (fun hHeld => ?_)
  refine take_at (i := 0) (v := ?v49) rfl (by kernel_rfl) (by kernel_rfl) (by kernel_rfl) (fun _ _ _ h => h) (Or.inl ⟨by rfl, ?y49⟩) hHeld ?t49
  case y49 => (intro wx hSw; go_simp <;> with_reducible rfl)
  simp only [Act.put, List.setIfInBounds_toArray, List.set_cons_zero, List.set_cons_succ]
  refine take_at (i := 1) (v := ?v50) rfl (by kernel_rfl) (by kernel_rfl) (by kernel_rfl) (fun _ _ _ h => h) (Or.inl ⟨by rfl, ?y50⟩) hHeld ?t50
  case y50 => (intro wx hSw; go_simp <;> with_reducible rfl)
  simp only [Act.put, List.setIfInBounds_toArray, List.set_cons_zero, List.set_cons_succ]
  refine take_at (i := 2) (v := ?v51) rfl (by kernel_rfl) (by kernel_rfl) (by kernel_rfl) (fun _ _ _ h => h) (Or.inl ⟨by rfl, ?y51⟩) hHeld ?t51
  case y51 => (intro wx hSw; go_simp <;> with_reducible rfl)
  simp only [Act.put, List.setIfInBounds_toArray, List.set_cons_zero, List.set_cons_succ]
  refine take_at (i := 3) (v := ?v52) rfl (by kernel_rfl) (by kernel_rfl) (by kernel_rfl) (fun _ _ _ h => h) (Or.inl ⟨by rfl, ?y52⟩) hHeld ?t52
  case y52 => (intro wx hSw; go_simp <;> with_reducible rfl)
  simp only [Act.put, List.setIfInBounds_toArray, List.set_cons_zero, List.set_cons_succ]
  refine take_at (i := 4) (v := ?v53) rfl (by kernel_rfl) (by kernel_rfl) (by kernel_rfl) (fun _ _ _ h => h) (Or.inl ⟨by rfl, ?y53⟩) hHeld ?t53
  case y53 => (intro wx hSw; have hc0 : wx.cell? ⟨w.heap.size, 0, none⟩ = some (.int .i64 p.1) := hSw.1.c 0 (of_decide_eq_true rfl); go_simp <;> with_reducible rfl)
  simp only [Act.put, List.setIfInBounds_toArray, List.set_cons_zero, List.set_cons_succ]
  refine take_at (i := 5) (v := ?v54) rfl (by kernel_rfl) (by kernel_rfl) (by kernel_rfl) (fun _ _ _ h => h) (Or.inl ⟨by rfl, ?y54⟩) hHeld ?t54
  case y54 => (intro wx hSw; go_simp <;> with_reducible rfl)
  simp only [Act.put, List.setIfInBounds_toArray, List.set_cons_zero, List.set_cons_succ]
  refine take_at (i := 6) (v := ?v55) rfl (by kernel_rfl) (by kernel_rfl) (by kernel_rfl) (fun _ _ _ h => h) (Or.inl ⟨by rfl, ?y55⟩) hHeld ?t55
  case y55 => (intro wx hSw; have hc0 : wx.cell? ⟨w.heap.size + 1, 0, none⟩ = some (.int .i64 q.1) := hSw.2.c 0 (of_decide_eq_true rfl); go_simp <;> with_reducible rfl)
  simp only [Act.put, List.setIfInBounds_toArray, List.set_cons_zero, List.set_cons_succ]
  refine take_at (i := 8) (v := ?v56) rfl (by kernel_rfl) (by kernel_rfl) (by kernel_rfl) (fun _ _ _ h => h) (Or.inl ⟨by rfl, ?y56⟩) hHeld ?t56
  case y56 => (intro wx hSw; go_simp <;> with_reducible rfl)
  simp only [Act.put, List.setIfInBounds_toArray, List.set_cons_zero, List.set_cons_succ]
  refine take_at (i := 9) (v := ?v57) rfl (by kernel_rfl) (by kernel_rfl) (by kernel_rfl) (fun _ _ _ h => h) (Or.inl ⟨by rfl, ?y57⟩) hHeld ?t57
  case y57 => (intro wx hSw; go_simp <;> with_reducible rfl)
  simp only [Act.put, List.setIfInBounds_toArray, List.set_cons_zero, List.set_cons_succ]
  refine take_at (i := 10) (v := ?v58) rfl (by kernel_rfl) (by kernel_rfl) (by kernel_rfl) (fun _ _ _ h => h) (Or.inl ⟨by rfl, ?y58⟩) hHeld ?t58
  case y58 => (intro wx hSw; have hc1 : wx.cell? ⟨w.heap.size, 1, none⟩ = some (.int .i64 p.2.1) := hSw.1.c 1 (of_decide_eq_true rfl); go_simp <;> with_reducible rfl)
  simp only [Act.put, List.setIfInBounds_toArray, List.set_cons_zero, List.set_cons_succ]
  refine take_at (i := 11) (v := ?v59) rfl (by kernel_rfl) (by kernel_rfl) (by kernel_rfl) (fun _ _ _ h => h) (Or.inl ⟨by rfl, ?y59⟩) hHeld ?t59
  case y59 => (intro wx hSw; go_simp <;> with_reducible rfl)
  simp only [Act.put, List.setIfInBounds_toArray, List.set_cons_zero, List.set_cons_succ]
  refine take_at (i := 12) (v := ?v60) rfl (by kernel_rfl) (by kernel_rfl) (by kernel_rfl) (fun _ _ _ h => h) (Or.inl ⟨by rfl, ?y60⟩) hHeld ?t60
  case y60 => (intro wx hSw; have hc1 : wx.cell? ⟨w.heap.size + 1, 1, none⟩ = some (.int .i64 q.2.1) := hSw.2.c 1 (of_decide_eq_true rfl); go_simp <;> with_reducible rfl)
  simp only [Act.put, List.setIfInBounds_toArray, List.set_cons_zero, List.set_cons_succ]
  refine take_at (i := 15) (v := ?v61) rfl (by kernel_rfl) (by kernel_rfl) (by kernel_rfl) (fun _ _ _ h => h) (Or.inl ⟨by rfl, ?y61⟩) hHeld ?t61
  case y61 => (intro wx hSw; go_simp <;> with_reducible rfl)
  simp only [Act.put, List.setIfInBounds_toArray, List.set_cons_zero, List.set_cons_succ]
  refine take_at (i := 16) (v := ?v62) rfl (by kernel_rfl) (by kernel_rfl) (by kernel_rfl) (fun _ _ _ h => h) (Or.inl ⟨by rfl, ?y62⟩) hHeld ?t62
  case y62 => (intro wx hSw; go_simp <;> with_reducible rfl)
  simp only [Act.put, List.setIfInBounds_toArray, List.set_cons_zero, List.set_cons_succ]
  refine take_at (i := 17) (v := ?v63) rfl (by kernel_rfl) (by kernel_rfl) (by kernel_rfl) (fun _ _ _ h => h) (Or.inl ⟨by rfl, ?y63⟩) hHeld ?t63
  case y63 => (intro wx hSw; have hc2 : wx.cell? ⟨w.heap.size, 2, none⟩ = some (.int .i64 p.2.2) := hSw.1.c 2 (of_decide_eq_true rfl); go_simp <;> with_reducible rfl)
  simp only [Act.put, List.setIfInBounds_toArray, List.set_cons_zero, List.set_cons_succ]
  refine take_at (i := 18) (v := ?v64) rfl (by kernel_rfl) (by kernel_rfl) (by kernel_rfl) (fun _ _ _ h => h) (Or.inl ⟨by rfl, ?y64⟩) hHeld ?t64
  case y64 => (intro wx hSw; go_simp <;> with_reducible rfl)
  simp only [Act.put, List.setIfInBounds_toArray, List.set_cons_zero, List.set_cons_succ]
  refine take_at (i := 19) (v := ?v65) rfl (by kernel_rfl) (by kernel_rfl) (by kernel_rfl) (fun _ _ _ h => h) (Or.inl ⟨by rfl, ?y65⟩) hHeld ?t65
  case y65 => (intro wx hSw; have hc2 : wx.cell? ⟨w.heap.size + 1, 2, none⟩ = some (.int .i64 q.2.2) := hSw.2.c 2 (of_decide_eq_true rfl); go_simp <;> with_reducible rfl)
  simp only [Act.put, List.setIfInBounds_toArray, List.set_cons_zero, List.set_cons_succ]
  refine call_at (i := 7) (by kernel_rfl) rfl (fun K hK => ?_)
  go_simp
  refine (Mul_any b bad p.1 q.1 _ ((hw.alloc _).alloc _).drew).mono ?_
  rintro e w1 ⟨rfl, f1, k1⟩
  generalize e1 : mulS bad p.1 q.1 = r1 at f1 ⊢
  have E1 : Hid _ := e1
  clear e1
  have K1 : Kept b w w1 := Kept.trans (((Kept.refl b w).al _).al _).drew k1
  have B0_1 : Arr w.heap.size [.int .i64 p.1, .int .i64 p.2.1, .int .i64 p.2.2] w1 := ((Arr_at _ _ [.int .i64 p.1, .int .i64 p.2.1, .int .i64 p.2.2] _ (by simp)).alloc _).drew.kept k1 (by omega)
  have B1_1 : Arr (w.heap.size + 1) [.int .i64 q.1, .int .i64 q.2.1, .int .i64 q.2.2] w1 := (Arr_at _ _ [.int .i64 q.1, .int .i64 q.2.1, .int .i64 q.2.2] _ (by simp)).drew.kept k1 (by omega)
  have z1 := B1_1.lies
  clear hHeld
  refine hK.out _ _ ⟨B0_1, B1_1⟩ (fun hHeld => ?_)
  clear hK K k1
  refine call_at (i := 13) (by kernel_rfl) rfl (fun K hK => ?_)
  go_simp
  refine (Mul_any b r1.2 p.2.1 q.2.1 _ f1).mono ?_
  rintro e w2 ⟨rfl, f2, k2⟩
  generalize e2 : mulS r1.2 p.2.1 q.2.1 = r2 at f2 ⊢
  have E2 : Hid _ := e2
  clear e2
  have K2 : Kept b w w2 := Kept.trans K1 k2
  have B0_2 : Arr w.heap.size [.int .i64 p.1, .int .i64 p.2.1, .int .i64 p.2.2] w2 := B0_1.kept k2 (by omega)
  have B1_2 : Arr (w.heap.size + 1) [.int .i64 q.1, .int .i64 q.2.1, .int .i64 q.2.2] w2 := B1_1.kept k2 (by omega)
  have z2 := B1_2.lies
  clear hHeld
  refine hK.out _ _ ⟨B0_2, B1_2⟩ (fun hHeld => ?_)
  clear hK K K1 f1 B0_1 B1_1 k2
  refine call_at (i := 14) (by kernel_rfl) rfl (fun K hK => ?_)
  go_simp
  refine (Add_any b r2.2 r1.1 r2.1 _ f2).mono ?_
  rintro e w3 ⟨rfl, f3, k3⟩
  generalize e3 : addS r2.2 r1.1 r2.1 = r3 at f3 ⊢
  have E3 : Hid _ := e3
  clear e3
  have K3 : Kept b w w3 := Kept.trans K2 k3
  have B0_3 : Arr w.heap.size [.int .i64 p.1, .int .i64 p.2.1, .int .i64 p.2.2] w3 := B0_2.kept k3 (by omega)
  have B1_3 : Arr (w.heap.size + 1) [.int .i64 q.1, .int .i64 q.2.1, .int .i64 q.2.2] w3 := B1_2.kept k3 (by omega)
  have z3 := B1_3.lies
  clear hHeld
  refine hK.out _ _ ⟨B0_3, B1_3⟩ (fun hHeld => ?_)
  clear hK K K2 f2 B0_2 B1_2 k3
  refine call_at (i := 20) (by kernel_rfl) rfl (fun K hK => ?_)
  go_simp
  refine (Mul_any b r3.2 p.2.2 q.2.2 _ f3).mono ?_
  rintro e w4 ⟨rfl, f4, k4⟩
  generalize e4 : mulS r3.2 p.2.2 q.2.2 = r4 at f4 ⊢
  have E4 : Hid _ := e4
  clear e4
  have K4 : Kept b w w4 := Kept.trans K3 k4
  have B0_4 : Arr w.heap.size [.int .i64 p.1, .int .i64 p.2.1, .int .i64 p.2.2] w4 := B0_3.kept k4 (by omega)
  have B1_4 : Arr (w.heap.size + 1) [.int .i64 q.1, .int .i64 q.2.1, .int .i64 q.2.2] w4 := B1_3.kept k4 (by omega)
  have z4 := B1_4.lies
  clear hHeld
  refine hK.out _ _ ⟨B0_4, B1_4⟩ (fun hHeld => ?_)
  clear hK K K3 f3 B0_3 B1_3 k4
  refine call_at (i := 21) (by kernel_rfl) rfl (fun K hK => ?_)
  go_simp
  refine (Add_any b r4.2 r3.1 r4.1 _ f4).mono ?_
  rintro e w5 ⟨rfl, f5, k5⟩
  generalize e5 : addS r4.2 r3.1 r4.1 = r5 at f5 ⊢
  have E5 : Hid _ := e5
  clear e5
  have K5 : Kept b w w5 := Kept.trans K4 k5
  have B0_5 : Arr w.heap.size [.int .i64 p.1, .int .i64 p.2.1, .int .i64 p.2.2] w5 := B0_4.kept k5 (by omega)
  have B1_5 : Arr (w.heap.size + 1) [.int .i64 q.1, .int .i64 q.2.1, .int .i64 q.2.2] w5 := B1_4.kept k5 (by omega)
  have z5 := B1_5.lies
  clear hHeld
  refine hK.out _ _ ⟨B0_5, B1_5⟩ (fun hHeld => ?_)
  clear hK K K4 f4 B0_4 B1_4 k5
  refine take_at (i := 22) (v := ?v66) rfl (by kernel_rfl) (by kernel_rfl) (by kernel_rfl) (fun _ _ _ h => h) (Or.inl ⟨by rfl, ?y66⟩) hHeld ?t66
  case y66 => (intro wx hSw; go_simp <;> with_reducible rfl)
  simp only [Act.put, List.setIfInBounds_toArray, List.set_cons_zero, List.set_cons_succ]
  refine wpAnyH_done (by kernel_rfl) ?_ _
  clear hHeld
  go_wp2
  go_ret
  have hs : vDotS bad p q = (r5.1, r5.2) := by unfold vDotS; simp only [E1.out, E2.out, E3.out, E4.out, E5.out]
  rw [hs]
  exact ⟨rfl, f5, K5⟩
set_option maxRecDepth 100000 in
set_option maxHeartbeats 2000000 in
theorem vNorm_any (b : Nat) (bad : Bool) (p : V3) (w : World) (hw : Fl b bad w) :
    Calls Try.prog 19 #[.pointer (some ⟨b, 0, none⟩), .agg #[.int .i64 p.1, .int .i64 p.2.1, .int .i64 p.2.2]] w fun e w' => e = .returned (.int .i64 ((vNormS bad p).1)) ∧ Fl b (vNormS bad p).2 w' ∧ Kept b w w' := by
  have hl := hw.lies
  go_enter Try.func19, Try.ntmps19
  go_wp2_with fail
  refine (Norm_any b bad p.1 p.2.1 p.2.2 _ (hw.alloc _)).mono ?_
  rintro e w1 ⟨rfl, f1, k1⟩
  generalize e1 : normS bad p.1 p.2.1 p.2.2 = r1 at f1 ⊢
  have E1 : Hid _ := e1
  clear e1
  have K1 : Kept b w w1 := Kept.trans ((Kept.refl b w).al _) k1
  have B0_1 : Arr w.heap.size [.int .i64 p.1, .int .i64 p.2.1, .int .i64 p.2.2] w1 := (Arr_at _ _ [.int .i64 p.1, .int .i64 p.2.1, .int .i64 p.2.2] _ (by simp)).kept k1 (by omega)
  have z1 := B0_1.lies
  clear k1
  go_wp2
  go_ret
  have hs : vNormS bad p = (r1.1, r1.2) := by unfold vNormS; simp only [E1.out]
  rw [hs]
  exact ⟨rfl, f1, K1⟩
end Go.Proofs.Ytmjkmbhaemencaa
