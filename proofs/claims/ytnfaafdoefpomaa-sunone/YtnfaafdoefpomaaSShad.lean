/-
  The walk of sun.Shaded, for the seat Ytnfaafdoefpomaa. (Made by mksun.py.)
-/
import Derived.Test.YtnfaafdoefpomaaSSpec
import Derived.Test.YtnfaafdoefpomaaVCode
import Derived.Handy
import Derived.Deep.RegionHeld3
namespace Go.Proofs.Ytnfaafdoefpomaa
open Go.RowKit

set_option maxRecDepth 100000 in
set_option maxHeartbeats 2000000 in
theorem sShad_any (b : Nat) (bad : Bool) (p : V3) (s : V3) (w : World) (hw : Fl b bad w) :
    Calls Try.prog 10 #[.pointer (some ⟨b, 0, none⟩), .agg #[.int .i64 p.1, .int .i64 p.2.1, .int .i64 p.2.2], .agg #[.int .i64 s.1, .int .i64 s.2.1, .int .i64 s.2.2]] w fun e w' => e = .returned (.bool ((shadS bad p s).1)) ∧ Fl b (shadS bad p s).2 w' ∧ Kept b w w' := by
  have hl := hw.lies
  go_enter Try.func10, Try.ntmps10
  have y1_BF : b < w.heap.size := hw.lies
  have y2_BF : b < w.heap.size + 1 := (Nat.lt_succ_of_lt hw.lies)
  have y2_B0 : w.heap.size < w.heap.size + 1 := (Nat.lt_succ_self _)
  go_wp2_with fail
  refine (vDot_any b bad p s _ ((hw.alloc _).alloc _)).mono ?_
  rintro e w1 ⟨rfl, f1, k1⟩
  generalize e1 : vDotS bad p s = r1 at f1 ⊢
  have E1 : Hid _ := e1
  clear e1
  have K1 : Kept b w w1 := Kept.trans (((Kept.refl b w).al _).al _) k1
  have B0_1 : Arr w.heap.size [.int .i64 p.1, .int .i64 p.2.1, .int .i64 p.2.2] w1 := ((Arr_at _ _ [.int .i64 p.1, .int .i64 p.2.1, .int .i64 p.2.2] _ (by simp)).alloc _).kept k1 (Nat.ne_of_gt y1_BF)
  have B1_1 : Arr (w.heap.size + 1) [.int .i64 s.1, .int .i64 s.2.1, .int .i64 s.2.2] w1 := (Arr_at _ _ [.int .i64 s.1, .int .i64 s.2.1, .int .i64 s.2.2] _ (by simp)).kept k1 (Nat.ne_of_gt y2_BF)
  have z1 := B1_1.lies
  clear k1
  go_wp2_with fail
  refine wp_region_held_drew (S := fun w' => Arr w.heap.size [.int .i64 p.1, .int .i64 p.2.1, .int .i64 p.2.2] w' ∧ Arr (w.heap.size + 1) [.int .i64 s.1, .int .i64 s.2.1, .int .i64 s.2.2] w') (by kernel_rfl) ⟨B0_1.drew, B1_1.drew⟩ (fun hHeld => ?_)
  refine take_at (i := 0) (v := ?v1) rfl (by kernel_rfl) (by kernel_rfl) (by kernel_rfl) (fun _ _ _ h => h) (Or.inl ⟨by rfl, ?y1⟩) hHeld ?t1
  case y1 => (intro wx hSw; go_simp <;> with_reducible rfl)
  simp only [Act.put, List.setIfInBounds_toArray, List.set_cons_zero, List.set_cons_succ]
  refine take_at (i := 1) (v := ?v2) rfl (by kernel_rfl) (by kernel_rfl) (by kernel_rfl) (fun _ _ _ h => h) (Or.inl ⟨by rfl, ?y2⟩) hHeld ?t2
  case y2 => (intro wx hSw; go_simp <;> with_reducible rfl)
  simp only [Act.put, List.setIfInBounds_toArray, List.set_cons_zero, List.set_cons_succ]
  refine take_at (i := 2) (v := ?v3) rfl (by kernel_rfl) (by kernel_rfl) (by kernel_rfl) (fun _ _ _ h => h) (Or.inl ⟨by rfl, ?y3⟩) hHeld ?t3
  case y3 => (intro wx hSw; have hc0 : wx.cell? ⟨w.heap.size, 0, none⟩ = some (.int .i64 p.1) := hSw.1.c 0 (of_decide_eq_true rfl); have hc1 : wx.cell? ⟨w.heap.size, 1, none⟩ = some (.int .i64 p.2.1) := hSw.1.c 1 (of_decide_eq_true rfl); have hc2 : wx.cell? ⟨w.heap.size, 2, none⟩ = some (.int .i64 p.2.2) := hSw.1.c 2 (of_decide_eq_true rfl); go_simp <;> with_reducible rfl)
  simp only [Act.put, List.setIfInBounds_toArray, List.set_cons_zero, List.set_cons_succ]
  refine take_at (i := 3) (v := ?v4) rfl (by kernel_rfl) (by kernel_rfl) (by kernel_rfl) (fun _ _ _ h => h) (Or.inl ⟨by rfl, ?y4⟩) hHeld ?t4
  case y4 => (intro wx hSw; go_simp <;> with_reducible rfl)
  simp only [Act.put, List.setIfInBounds_toArray, List.set_cons_zero, List.set_cons_succ]
  refine take_at (i := 4) (v := ?v5) rfl (by kernel_rfl) (by kernel_rfl) (by kernel_rfl) (fun _ _ _ h => h) (Or.inl ⟨by rfl, ?y5⟩) hHeld ?t5
  case y5 => (intro wx hSw; have hc0 : wx.cell? ⟨w.heap.size + 1, 0, none⟩ = some (.int .i64 s.1) := hSw.2.c 0 (of_decide_eq_true rfl); have hc1 : wx.cell? ⟨w.heap.size + 1, 1, none⟩ = some (.int .i64 s.2.1) := hSw.2.c 1 (of_decide_eq_true rfl); have hc2 : wx.cell? ⟨w.heap.size + 1, 2, none⟩ = some (.int .i64 s.2.2) := hSw.2.c 2 (of_decide_eq_true rfl); go_simp <;> with_reducible rfl)
  simp only [Act.put, List.setIfInBounds_toArray, List.set_cons_zero, List.set_cons_succ]
  refine take_at (i := 5) (v := ?v6) rfl (by kernel_rfl) (by kernel_rfl) (by kernel_rfl) (fun _ _ _ h => h) (Or.inl ⟨by rfl, ?y6⟩) hHeld ?t6
  case y6 => (intro wx hSw; go_simp <;> with_reducible rfl)
  simp only [Act.put, List.setIfInBounds_toArray, List.set_cons_zero, List.set_cons_succ]
  refine call_at (i := 6) (by kernel_rfl) rfl (fun K hK => ?_)
  go_simp
  refine (vScale_any b r1.2 s r1.1 _ f1.drew).mono ?_
  rintro e w2 ⟨rfl, f2, k2⟩
  generalize e2 : vScaleS r1.2 s r1.1 = r2 at f2 ⊢
  have E2 : Hid _ := e2
  clear e2
  have K2 : Kept b w w2 := Kept.trans K1.drew k2
  have B0_2 : Arr w.heap.size [.int .i64 p.1, .int .i64 p.2.1, .int .i64 p.2.2] w2 := B0_1.drew.kept k2 (Nat.ne_of_gt y1_BF)
  have B1_2 : Arr (w.heap.size + 1) [.int .i64 s.1, .int .i64 s.2.1, .int .i64 s.2.2] w2 := B1_1.drew.kept k2 (Nat.ne_of_gt y2_BF)
  have z2 := B1_2.lies
  clear hHeld
  refine hK.out _ _ ⟨B0_2, B1_2⟩ (fun hHeld => ?_)
  clear hK K K1 f1 B0_1 B1_1 k2
  refine call_at (i := 7) (by kernel_rfl) rfl (fun K hK => ?_)
  go_simp
  refine (vSub_any b r2.2 p r2.1 _ f2).mono ?_
  rintro e w3 ⟨rfl, f3, k3⟩
  generalize e3 : vSubS r2.2 p r2.1 = r3 at f3 ⊢
  have E3 : Hid _ := e3
  clear e3
  have K3 : Kept b w w3 := Kept.trans K2 k3
  have B0_3 : Arr w.heap.size [.int .i64 p.1, .int .i64 p.2.1, .int .i64 p.2.2] w3 := B0_2.kept k3 (Nat.ne_of_gt y1_BF)
  have B1_3 : Arr (w.heap.size + 1) [.int .i64 s.1, .int .i64 s.2.1, .int .i64 s.2.2] w3 := B1_2.kept k3 (Nat.ne_of_gt y2_BF)
  have z3 := B1_3.lies
  clear hHeld
  refine hK.out _ _ ⟨B0_3, B1_3⟩ (fun hHeld => ?_)
  clear hK K K2 f2 B0_2 B1_2 k3
  refine call_at (i := 8) (by kernel_rfl) rfl (fun K hK => ?_)
  go_simp
  refine (vNorm_any b r3.2 r3.1 _ f3).mono ?_
  rintro e w4 ⟨rfl, f4, k4⟩
  generalize e4 : vNormS r3.2 r3.1 = r4 at f4 ⊢
  have E4 : Hid _ := e4
  clear e4
  have K4 : Kept b w w4 := Kept.trans K3 k4
  have B0_4 : Arr w.heap.size [.int .i64 p.1, .int .i64 p.2.1, .int .i64 p.2.2] w4 := B0_3.kept k4 (Nat.ne_of_gt y1_BF)
  have B1_4 : Arr (w.heap.size + 1) [.int .i64 s.1, .int .i64 s.2.1, .int .i64 s.2.2] w4 := B1_3.kept k4 (Nat.ne_of_gt y2_BF)
  have z4 := B1_4.lies
  clear hHeld
  refine hK.out _ _ ⟨B0_4, B1_4⟩ (fun hHeld => ?_)
  clear hK K K3 f3 B0_3 B1_3 k4
  refine take_at (i := 9) (v := ?v7) rfl (by kernel_rfl) (by kernel_rfl) (by kernel_rfl) (fun _ _ _ h => h) (Or.inl ⟨by rfl, ?y7⟩) hHeld ?t7
  case y7 => (intro wx hSw; go_simp <;> with_reducible rfl)
  simp only [Act.put, List.setIfInBounds_toArray, List.set_cons_zero, List.set_cons_succ]
  refine wpAnyH_done (by kernel_rfl) ?_ _
  clear hHeld
  rcases Bool.eq_false_or_eq_true r4.2 with hc1 | hc1
  · have Hhc1 : Hid (r4.2 = true) := hc1
    have c3_BF := f4.cell
    go_wp2
    clear c3_BF
    go_ret
    have hs : shadS bad p s = (false, r4.2) := by unfold shadS; simp only [E1.out, E2.out, E3.out, E4.out]; rw [if_pos Hhc1.out]
    rw [hs]
    exact ⟨rfl, f4, K4⟩
  · have Hhc1 : Hid (r4.2 = false) := hc1
    by_cases hc2 : r1.1 < 0
    · have Hhc2 : Hid (r1.1 < 0) := hc2
      have c3_BF := f4.cell
      go_wp2
      clear c3_BF
      go_ret
      have hs : shadS bad p s = ((decide (r4.1 < 7012835795048)), r4.2) := by unfold shadS; simp only [E1.out, E2.out, E3.out, E4.out]; rw [if_neg (by rw [Hhc1.out]; decide)]; rw [if_pos (by have := Hhc2.out; omega)]
      rw [hs]
      exact ⟨rfl, f4, K4⟩
    · have Hhc2 : Hid (¬ r1.1 < 0) := hc2
      have c3_BF := f4.cell
      go_wp2
      clear c3_BF
      go_ret
      have hs : shadS bad p s = (false, r4.2) := by unfold shadS; simp only [E1.out, E2.out, E3.out, E4.out]; rw [if_neg (by rw [Hhc1.out]; decide)]; rw [if_neg (by have := Hhc2.out; omega)]
      rw [hs]
      exact ⟨rfl, f4, K4⟩
end Go.Proofs.Ytnfaafdoefpomaa
