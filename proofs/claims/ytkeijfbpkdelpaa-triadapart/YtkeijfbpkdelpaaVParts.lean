/-
  Walks of package vec, for the seat Ytkeijfbpkdelpaa. (Made by mkvec.py.)
-/
import Derived.Test.YtkeijfbpkdelpaaVCode
namespace Go.Proofs.Ytkeijfbpkdelpaa
open Go.RowKit

set_option maxRecDepth 100000 in
set_option maxHeartbeats 2000000 in
theorem vParts_any (b : Nat) (bad : Bool) (p : V3) (q : V3) (w : World) (hw : Fl b bad w) :
    Calls Try.prog 17 #[.pointer (some ⟨b, 0, none⟩), .agg #[.int .i64 p.1, .int .i64 p.2.1, .int .i64 p.2.2], .agg #[.int .i64 q.1, .int .i64 q.2.1, .int .i64 q.2.2]] w fun e w' => e = .returned (.tuple #[.int .i64 ((vPartsS bad p q).1.1), .int .i64 ((vPartsS bad p q).1.2)]) ∧ Fl b (vPartsS bad p q).2 w' ∧ Kept b w w' := by
  have hl := hw.lies
  go_enter Try.func17, Try.ntmps17
  go_wp2_with fail
  rename_i Q0 K0 aK0
  have cont1 : ∀ (W1 : World) (x1_0 : Nat) (x1_1 : Nat) (r1 : _) (r2 : _) , Hid (vUnitS bad p = r1) → Hid (vUnitS r1.2 q = r2) → Kept b w W1 → Fl b r2.2 W1 → Arr w.heap.size [.int .i64 p.1, .int .i64 p.2.1, .int .i64 p.2.2] W1 → Arr (w.heap.size + 1) [.int .i64 q.1, .int .i64 q.2.1, .int .i64 q.2.2] W1 → Arr x1_0 [.int .i64 r1.1.1, .int .i64 r1.1.2.1, .int .i64 r1.1.2.2] W1 → Arr x1_1 [.int .i64 r2.1.1, .int .i64 r2.1.2.1, .int .i64 r2.1.2.2] W1 → w.heap.size ≤ x1_0 → w.heap.size ≤ x1_1 → b < x1_0 → w.heap.size < x1_0 → w.heap.size + 1 < x1_0 → b < x1_1 → w.heap.size < x1_1 → w.heap.size + 1 < x1_1 → x1_0 ≠ x1_1 → K0 { tmps := #[.pointer (some ⟨b, 0, none⟩), .agg #[.int .i64 p.1, .int .i64 p.2.1, .int .i64 p.2.2], .agg #[.int .i64 q.1, .int .i64 q.2.1, .int .i64 q.2.2], undef, .pointer (some ⟨w.heap.size, 0, none⟩), .pointer (some ⟨w.heap.size + 1, 0, none⟩), .int .i64 0, .int .i64 0, .pointer (some ⟨x1_0, 0, none⟩), .pointer (some ⟨x1_1, 0, none⟩), .pointer (some ⟨b, 0, none⟩), .agg #[.int .i64 p.1, .int .i64 p.2.1, .int .i64 p.2.2], .agg #[.int .i64 r1.1.1, .int .i64 r1.1.2.1, .int .i64 r1.1.2.2], .pointer (some ⟨b, 0, none⟩), .agg #[.int .i64 q.1, .int .i64 q.2.1, .int .i64 q.2.2], .agg #[.int .i64 r2.1.1, .int .i64 r2.1.2.1, .int .i64 r2.1.2.2], undef, undef, undef, undef, undef, undef, undef, undef, undef, undef], defers := [] } W1 := by
    intro W1 x1_0 x1_1 r1 r2 E1 E2 KC1 BF_c1 B0_c1 B1_c1 B2_c1 B3_c1 s1_0 s1_1 s1_2 s1_3 s1_4 s1_5 s1_6 s1_7 s1_8
    apply aK0
    clear aK0
    go_wp2_with fail
    refine wp_region_held_drew (S := fun w' => Arr x1_0 [.int .i64 r1.1.1, .int .i64 r1.1.2.1, .int .i64 r1.1.2.2] w' ∧ Arr x1_1 [.int .i64 r2.1.1, .int .i64 r2.1.2.1, .int .i64 r2.1.2.2] w') (by kernel_rfl) ⟨B2_c1.drew, B3_c1.drew⟩ (fun hHeld => ?_)
    refine take_at (i := 0) (v := ?v115) rfl (by kernel_rfl) (by kernel_rfl) (by kernel_rfl) (fun _ _ _ h => h) (Or.inl ⟨by rfl, ?y115⟩) hHeld ?t115
    case y115 => (intro wx hSw; go_simp <;> with_reducible rfl)
    simp only [Act.put, List.setIfInBounds_toArray, List.set_cons_zero, List.set_cons_succ]
    refine take_at (i := 1) (v := ?v116) rfl (by kernel_rfl) (by kernel_rfl) (by kernel_rfl) (fun _ _ _ h => h) (Or.inl ⟨by rfl, ?y116⟩) hHeld ?t116
    case y116 => (intro wx hSw; go_simp <;> with_reducible rfl)
    simp only [Act.put, List.setIfInBounds_toArray, List.set_cons_zero, List.set_cons_succ]
    refine take_at (i := 2) (v := ?v117) rfl (by kernel_rfl) (by kernel_rfl) (by kernel_rfl) (fun _ _ _ h => h) (Or.inl ⟨by rfl, ?y117⟩) hHeld ?t117
    case y117 => (intro wx hSw; have hc0 : wx.cell? ⟨x1_0, 0, none⟩ = some (.int .i64 r1.1.1) := hSw.1.c 0 (of_decide_eq_true rfl); have hc1 : wx.cell? ⟨x1_0, 1, none⟩ = some (.int .i64 r1.1.2.1) := hSw.1.c 1 (of_decide_eq_true rfl); have hc2 : wx.cell? ⟨x1_0, 2, none⟩ = some (.int .i64 r1.1.2.2) := hSw.1.c 2 (of_decide_eq_true rfl); go_simp <;> with_reducible rfl)
    simp only [Act.put, List.setIfInBounds_toArray, List.set_cons_zero, List.set_cons_succ]
    refine take_at (i := 3) (v := ?v118) rfl (by kernel_rfl) (by kernel_rfl) (by kernel_rfl) (fun _ _ _ h => h) (Or.inl ⟨by rfl, ?y118⟩) hHeld ?t118
    case y118 => (intro wx hSw; have hc0 : wx.cell? ⟨x1_1, 0, none⟩ = some (.int .i64 r2.1.1) := hSw.2.c 0 (of_decide_eq_true rfl); have hc1 : wx.cell? ⟨x1_1, 1, none⟩ = some (.int .i64 r2.1.2.1) := hSw.2.c 1 (of_decide_eq_true rfl); have hc2 : wx.cell? ⟨x1_1, 2, none⟩ = some (.int .i64 r2.1.2.2) := hSw.2.c 2 (of_decide_eq_true rfl); go_simp <;> with_reducible rfl)
    simp only [Act.put, List.setIfInBounds_toArray, List.set_cons_zero, List.set_cons_succ]
    refine take_at (i := 6) (v := ?v119) rfl (by kernel_rfl) (by kernel_rfl) (by kernel_rfl) (fun _ _ _ h => h) (Or.inl ⟨by rfl, ?y119⟩) hHeld ?t119
    case y119 => (intro wx hSw; go_simp <;> with_reducible rfl)
    simp only [Act.put, List.setIfInBounds_toArray, List.set_cons_zero, List.set_cons_succ]
    refine take_at (i := 7) (v := ?v120) rfl (by kernel_rfl) (by kernel_rfl) (by kernel_rfl) (fun _ _ _ h => h) (Or.inl ⟨by rfl, ?y120⟩) hHeld ?t120
    case y120 => (intro wx hSw; have hc0 : wx.cell? ⟨x1_0, 0, none⟩ = some (.int .i64 r1.1.1) := hSw.1.c 0 (of_decide_eq_true rfl); have hc1 : wx.cell? ⟨x1_0, 1, none⟩ = some (.int .i64 r1.1.2.1) := hSw.1.c 1 (of_decide_eq_true rfl); have hc2 : wx.cell? ⟨x1_0, 2, none⟩ = some (.int .i64 r1.1.2.2) := hSw.1.c 2 (of_decide_eq_true rfl); go_simp <;> with_reducible rfl)
    simp only [Act.put, List.setIfInBounds_toArray, List.set_cons_zero, List.set_cons_succ]
    refine take_at (i := 8) (v := ?v121) rfl (by kernel_rfl) (by kernel_rfl) (by kernel_rfl) (fun _ _ _ h => h) (Or.inl ⟨by rfl, ?y121⟩) hHeld ?t121
    case y121 => (intro wx hSw; have hc0 : wx.cell? ⟨x1_1, 0, none⟩ = some (.int .i64 r2.1.1) := hSw.2.c 0 (of_decide_eq_true rfl); have hc1 : wx.cell? ⟨x1_1, 1, none⟩ = some (.int .i64 r2.1.2.1) := hSw.2.c 1 (of_decide_eq_true rfl); have hc2 : wx.cell? ⟨x1_1, 2, none⟩ = some (.int .i64 r2.1.2.2) := hSw.2.c 2 (of_decide_eq_true rfl); go_simp <;> with_reducible rfl)
    simp only [Act.put, List.setIfInBounds_toArray, List.set_cons_zero, List.set_cons_succ]
    refine call_at (i := 4) (by kernel_rfl) rfl (fun K hK => ?_)
    go_simp
    refine (vCross_any b r2.2 r1.1 r2.1 _ BF_c1.drew).mono ?_
    rintro e w3 ⟨rfl, f3, k3⟩
    generalize e3 : vCrossS r2.2 r1.1 r2.1 = r3 at f3 ⊢
    have E3 : Hid _ := e3
    clear e3
    have K3 : Kept b w w3 := Kept.trans KC1.drew k3
    have B0_3 : Arr w.heap.size [.int .i64 p.1, .int .i64 p.2.1, .int .i64 p.2.2] w3 := B0_c1.drew.kept k3 (by omega)
    have B1_3 : Arr (w.heap.size + 1) [.int .i64 q.1, .int .i64 q.2.1, .int .i64 q.2.2] w3 := B1_c1.drew.kept k3 (by omega)
    have B2_3 : Arr x1_0 [.int .i64 r1.1.1, .int .i64 r1.1.2.1, .int .i64 r1.1.2.2] w3 := B2_c1.drew.kept k3 (by omega)
    have B3_3 : Arr x1_1 [.int .i64 r2.1.1, .int .i64 r2.1.2.1, .int .i64 r2.1.2.2] w3 := B3_c1.drew.kept k3 (by omega)
    have z3 := B3_3.lies
    clear hHeld
    refine hK.out _ _ ⟨B2_3, B3_3⟩ (fun hHeld => ?_)
    clear hK K BF_c1 B0_c1 B1_c1 B2_c1 B3_c1 k3
    refine call_at (i := 5) (by kernel_rfl) rfl (fun K hK => ?_)
    go_simp
    refine (vNorm_any b r3.2 r3.1 _ f3).mono ?_
    rintro e w4 ⟨rfl, f4, k4⟩
    generalize e4 : vNormS r3.2 r3.1 = r4 at f4 ⊢
    have E4 : Hid _ := e4
    clear e4
    have K4 : Kept b w w4 := Kept.trans K3 k4
    have B0_4 : Arr w.heap.size [.int .i64 p.1, .int .i64 p.2.1, .int .i64 p.2.2] w4 := B0_3.kept k4 (by omega)
    have B1_4 : Arr (w.heap.size + 1) [.int .i64 q.1, .int .i64 q.2.1, .int .i64 q.2.2] w4 := B1_3.kept k4 (by omega)
    have B2_4 : Arr x1_0 [.int .i64 r1.1.1, .int .i64 r1.1.2.1, .int .i64 r1.1.2.2] w4 := B2_3.kept k4 (by omega)
    have B3_4 : Arr x1_1 [.int .i64 r2.1.1, .int .i64 r2.1.2.1, .int .i64 r2.1.2.2] w4 := B3_3.kept k4 (by omega)
    have z4 := B3_4.lies
    clear hHeld
    refine hK.out _ _ ⟨B2_4, B3_4⟩ (fun hHeld => ?_)
    clear hK K K3 f3 B0_3 B1_3 B2_3 B3_3 k4
    refine call_at (i := 9) (by kernel_rfl) rfl (fun K hK => ?_)
    go_simp
    refine (vDot_any b r4.2 r1.1 r2.1 _ f4).mono ?_
    rintro e w5 ⟨rfl, f5, k5⟩
    generalize e5 : vDotS r4.2 r1.1 r2.1 = r5 at f5 ⊢
    have E5 : Hid _ := e5
    clear e5
    have K5 : Kept b w w5 := Kept.trans K4 k5
    have B0_5 : Arr w.heap.size [.int .i64 p.1, .int .i64 p.2.1, .int .i64 p.2.2] w5 := B0_4.kept k5 (by omega)
    have B1_5 : Arr (w.heap.size + 1) [.int .i64 q.1, .int .i64 q.2.1, .int .i64 q.2.2] w5 := B1_4.kept k5 (by omega)
    have B2_5 : Arr x1_0 [.int .i64 r1.1.1, .int .i64 r1.1.2.1, .int .i64 r1.1.2.2] w5 := B2_4.kept k5 (by omega)
    have B3_5 : Arr x1_1 [.int .i64 r2.1.1, .int .i64 r2.1.2.1, .int .i64 r2.1.2.2] w5 := B3_4.kept k5 (by omega)
    have z5 := B3_5.lies
    clear hHeld
    refine hK.out _ _ ⟨B2_5, B3_5⟩ (fun hHeld => ?_)
    clear hK K K4 f4 B0_4 B1_4 B2_4 B3_4 k5
    refine take_at (i := 10) (v := ?v122) rfl (by kernel_rfl) (by kernel_rfl) (by kernel_rfl) (fun _ _ _ h => h) (Or.inl ⟨by rfl, ?y122⟩) hHeld ?t122
    case y122 => (intro wx hSw; go_simp <;> with_reducible rfl)
    simp only [Act.put, List.setIfInBounds_toArray, List.set_cons_zero, List.set_cons_succ]
    refine take_at (i := 11) (v := ?v123) rfl (by kernel_rfl) (by kernel_rfl) (by kernel_rfl) (fun _ _ _ h => h) (Or.inl ⟨by rfl, ?y123⟩) hHeld ?t123
    case y123 => (intro wx hSw; go_simp <;> with_reducible rfl)
    simp only [Act.put, List.setIfInBounds_toArray, List.set_cons_zero, List.set_cons_succ]
    refine wpAnyH_done (by kernel_rfl) ?_ _
    clear hHeld
    go_wp2
    refine bodyPost_ret (v := .tuple #[.int .i64 r4.1, .int .i64 r5.1]) (by simp [results, Try.results17, go_sem]) rfl ?_
    have hs : vPartsS bad p q = ((r4.1, r5.1), r5.2) := by unfold vPartsS; simp only [E1.out, E2.out, E3.out, E4.out, E5.out]
    rw [hs]
    exact ⟨rfl, f5, K5⟩
  refine wp_region_held_drew (S := fun w' => Arr w.heap.size [.int .i64 p.1, .int .i64 p.2.1, .int .i64 p.2.2] w' ∧ Arr (w.heap.size + 1) [.int .i64 q.1, .int .i64 q.2.1, .int .i64 q.2.2] w') (by kernel_rfl) ⟨((Arr_at _ _ [.int .i64 p.1, .int .i64 p.2.1, .int .i64 p.2.2] _ (by simp)).alloc _).drew, (Arr_at _ _ [.int .i64 q.1, .int .i64 q.2.1, .int .i64 q.2.2] _ (by simp)).drew⟩ (fun hHeld => ?_)
  refine take_at (i := 0) (v := ?v124) rfl (by kernel_rfl) (by kernel_rfl) (by kernel_rfl) (fun _ _ _ h => h) (Or.inl ⟨by rfl, ?y124⟩) hHeld ?t124
  case y124 => (intro wx hSw; go_simp <;> with_reducible rfl)
  simp only [Act.put, List.setIfInBounds_toArray, List.set_cons_zero, List.set_cons_succ]
  refine take_at (i := 1) (v := ?v125) rfl (by kernel_rfl) (by kernel_rfl) (by kernel_rfl) (fun _ _ _ h => h) (Or.inl ⟨by rfl, ?y125⟩) hHeld ?t125
  case y125 => (intro wx hSw; have hc0 : wx.cell? ⟨w.heap.size, 0, none⟩ = some (.int .i64 p.1) := hSw.1.c 0 (of_decide_eq_true rfl); have hc1 : wx.cell? ⟨w.heap.size, 1, none⟩ = some (.int .i64 p.2.1) := hSw.1.c 1 (of_decide_eq_true rfl); have hc2 : wx.cell? ⟨w.heap.size, 2, none⟩ = some (.int .i64 p.2.2) := hSw.1.c 2 (of_decide_eq_true rfl); go_simp <;> with_reducible rfl)
  simp only [Act.put, List.setIfInBounds_toArray, List.set_cons_zero, List.set_cons_succ]
  refine take_at (i := 3) (v := ?v126) rfl (by kernel_rfl) (by kernel_rfl) (by kernel_rfl) (fun _ _ _ h => h) (Or.inl ⟨by rfl, ?y126⟩) hHeld ?t126
  case y126 => (intro wx hSw; go_simp <;> with_reducible rfl)
  simp only [Act.put, List.setIfInBounds_toArray, List.set_cons_zero, List.set_cons_succ]
  refine take_at (i := 4) (v := ?v127) rfl (by kernel_rfl) (by kernel_rfl) (by kernel_rfl) (fun _ _ _ h => h) (Or.inl ⟨by rfl, ?y127⟩) hHeld ?t127
  case y127 => (intro wx hSw; have hc0 : wx.cell? ⟨w.heap.size + 1, 0, none⟩ = some (.int .i64 q.1) := hSw.2.c 0 (of_decide_eq_true rfl); have hc1 : wx.cell? ⟨w.heap.size + 1, 1, none⟩ = some (.int .i64 q.2.1) := hSw.2.c 1 (of_decide_eq_true rfl); have hc2 : wx.cell? ⟨w.heap.size + 1, 2, none⟩ = some (.int .i64 q.2.2) := hSw.2.c 2 (of_decide_eq_true rfl); go_simp <;> with_reducible rfl)
  simp only [Act.put, List.setIfInBounds_toArray, List.set_cons_zero, List.set_cons_succ]
  refine call_at3 (i0 := 2) (i1 := 6) (i2 := 7) (by kernel_rfl) rfl rfl rfl (fun K hK => ?_) (fun K hK => ?_) (fun K hK => ?_)
  · go_simp
    refine (vUnit_any b bad p _ ((hw.alloc _).alloc _).drew).mono ?_
    rintro e w1 ⟨rfl, f1, k1⟩
    generalize e1 : vUnitS bad p = r1 at f1 ⊢
    have E1 : Hid _ := e1
    clear e1
    have K1 : Kept b w w1 := Kept.trans (((Kept.refl b w).al _).al _).drew k1
    have B0_1 : Arr w.heap.size [.int .i64 p.1, .int .i64 p.2.1, .int .i64 p.2.2] w1 := ((Arr_at _ _ [.int .i64 p.1, .int .i64 p.2.1, .int .i64 p.2.2] _ (by simp)).alloc _).drew.kept k1 (by omega)
    have B1_1 : Arr (w.heap.size + 1) [.int .i64 q.1, .int .i64 q.2.1, .int .i64 q.2.2] w1 := (Arr_at _ _ [.int .i64 q.1, .int .i64 q.2.1, .int .i64 q.2.2] _ (by simp)).drew.kept k1 (by omega)
    have z1 := B1_1.lies
    clear hHeld
    refine hK.out _ _ ⟨B0_1, B1_1⟩ (fun hHeld => ?_)
    clear hK K k1
    refine call_at3 (i0 := 5) (i1 := 6) (i2 := 7) (by kernel_rfl) rfl rfl rfl (fun K hK => ?_) (fun K hK => ?_) (fun K hK => ?_)
    · go_simp
      refine (vUnit_any b r1.2 q _ f1).mono ?_
      rintro e w2 ⟨rfl, f2, k2⟩
      generalize e2 : vUnitS r1.2 q = r2 at f2 ⊢
      have E2 : Hid _ := e2
      clear e2
      have K2 : Kept b w w2 := Kept.trans K1 k2
      have B0_2 : Arr w.heap.size [.int .i64 p.1, .int .i64 p.2.1, .int .i64 p.2.2] w2 := B0_1.kept k2 (by omega)
      have B1_2 : Arr (w.heap.size + 1) [.int .i64 q.1, .int .i64 q.2.1, .int .i64 q.2.2] w2 := B1_1.kept k2 (by omega)
      have z2 := B1_2.lies
      clear hHeld
      refine hK.out _ _ ⟨B0_2, B1_2⟩ (fun hHeld => ?_)
      clear hK K K1 f1 B0_1 B1_1 k2
      refine call_at2 (i0 := 6) (i1 := 7) (by kernel_rfl) rfl rfl (fun K hK => ?_) (fun K hK => ?_)
      · go_simp
        clear hHeld
        refine hK.out _ _ ⟨(B0_2.alloc _), (B1_2.alloc _)⟩ (fun hHeld => ?_)
        clear hK K
        refine call_at (i := 7) (by kernel_rfl) rfl (fun K hK => ?_)
        go_simp
        clear hHeld
        refine hK.out _ _ ⟨((B0_2.alloc _).alloc _), ((B1_2.alloc _).alloc _)⟩ (fun hHeld => ?_)
        clear hK K
        refine call_at (i := 8) (by kernel_rfl) rfl (fun K hK => ?_)
        go_simp
        clear hHeld
        refine hK.out _ _ ⟨((B0_2.alloc _).alloc _), ((B1_2.alloc _).alloc _)⟩ (fun hHeld => ?_)
        clear hK K
        refine call_at (i := 9) (by kernel_rfl) rfl (fun K hK => ?_)
        go_simp
        clear hHeld
        refine hK.out _ _ ⟨((B0_2.alloc _).alloc _), ((B1_2.alloc _).alloc _)⟩ (fun hHeld => ?_)
        clear hK K
        refine wpAnyH_done (by kernel_rfl) ?_ _
        clear hHeld
        exact cont1 _ w2.heap.size (w2.heap.size + 1) r1 r2 E1 E2 ((K2.al _).al _) ((f2.alloc _).alloc _) ((B0_2.alloc _).alloc _) ((B1_2.alloc _).alloc _) ((Arr_at _ _ [.int .i64 r1.1.1, .int .i64 r1.1.2.1, .int .i64 r1.1.2.2] _ (by simp)).alloc _) (Arr_at _ _ [.int .i64 r2.1.1, .int .i64 r2.1.2.1, .int .i64 r2.1.2.2] _ (by simp)) (by omega) (by omega) (by omega) (by omega) (by omega) (by omega) (by omega) (by omega) (by omega)
      · go_simp
        clear hHeld
        refine hK.out _ _ ⟨(B0_2.alloc _), (B1_2.alloc _)⟩ (fun hHeld => ?_)
        clear hK K
        refine call_at (i := 6) (by kernel_rfl) rfl (fun K hK => ?_)
        go_simp
        clear hHeld
        refine hK.out _ _ ⟨((B0_2.alloc _).alloc _), ((B1_2.alloc _).alloc _)⟩ (fun hHeld => ?_)
        clear hK K
        refine call_at (i := 8) (by kernel_rfl) rfl (fun K hK => ?_)
        go_simp
        clear hHeld
        refine hK.out _ _ ⟨((B0_2.alloc _).alloc _), ((B1_2.alloc _).alloc _)⟩ (fun hHeld => ?_)
        clear hK K
        refine call_at (i := 9) (by kernel_rfl) rfl (fun K hK => ?_)
        go_simp
        clear hHeld
        refine hK.out _ _ ⟨((B0_2.alloc _).alloc _), ((B1_2.alloc _).alloc _)⟩ (fun hHeld => ?_)
        clear hK K
        refine wpAnyH_done (by kernel_rfl) ?_ _
        clear hHeld
        exact cont1 _ (w2.heap.size + 1) w2.heap.size r1 r2 E1 E2 ((K2.al _).al _) ((f2.alloc _).alloc _) ((B0_2.alloc _).alloc _) ((B1_2.alloc _).alloc _) (Arr_at _ _ [.int .i64 r1.1.1, .int .i64 r1.1.2.1, .int .i64 r1.1.2.2] _ (by simp)) ((Arr_at _ _ [.int .i64 r2.1.1, .int .i64 r2.1.2.1, .int .i64 r2.1.2.2] _ (by simp)).alloc _) (by omega) (by omega) (by omega) (by omega) (by omega) (by omega) (by omega) (by omega) (by omega)
    · go_simp
      clear hHeld
      refine hK.out _ _ ⟨(B0_1.alloc _), (B1_1.alloc _)⟩ (fun hHeld => ?_)
      clear hK K
      refine call_at2 (i0 := 5) (i1 := 7) (by kernel_rfl) rfl rfl (fun K hK => ?_) (fun K hK => ?_)
      · go_simp
        refine (vUnit_any b r1.2 q _ (f1.alloc _)).mono ?_
        rintro e w2 ⟨rfl, f2, k2⟩
        generalize e2 : vUnitS r1.2 q = r2 at f2 ⊢
        have E2 : Hid _ := e2
        clear e2
        have K2 : Kept b w w2 := Kept.trans (K1.al _) k2
        have B0_2 : Arr w.heap.size [.int .i64 p.1, .int .i64 p.2.1, .int .i64 p.2.2] w2 := (B0_1.alloc _).kept k2 (by omega)
        have B1_2 : Arr (w.heap.size + 1) [.int .i64 q.1, .int .i64 q.2.1, .int .i64 q.2.2] w2 := (B1_1.alloc _).kept k2 (by omega)
        have B2_2 : Arr w1.heap.size [.int .i64 0, .int .i64 0, .int .i64 0] w2 := (Arr_at _ _ [.int .i64 0, .int .i64 0, .int .i64 0] _ (by simp)).kept k2 (by omega)
        have z2 := B2_2.lies
        clear hHeld
        refine hK.out _ _ ⟨B0_2, B1_2⟩ (fun hHeld => ?_)
        clear hK K K1 f1 B0_1 B1_1 k2
        refine call_at (i := 7) (by kernel_rfl) rfl (fun K hK => ?_)
        go_simp
        clear hHeld
        refine hK.out _ _ ⟨(B0_2.alloc _), (B1_2.alloc _)⟩ (fun hHeld => ?_)
        clear hK K
        refine call_at (i := 8) (by kernel_rfl) rfl (fun K hK => ?_)
        have c4_B2_0 : w2.cell? ⟨w1.heap.size, 0, none⟩ = some (.int .i64 0) := B2_2.c 0 (of_decide_eq_true rfl)
        have c4_B2_1 : w2.cell? ⟨w1.heap.size, 1, none⟩ = some (.int .i64 0) := B2_2.c 1 (of_decide_eq_true rfl)
        have c4_B2_2 : w2.cell? ⟨w1.heap.size, 2, none⟩ = some (.int .i64 0) := B2_2.c 2 (of_decide_eq_true rfl)
        have g4_B2_0 := B2_2.f 0 (of_decide_eq_true rfl)
        have g4_B2_1 := B2_2.f 1 (of_decide_eq_true rfl)
        have g4_B2_2 := B2_2.f 2 (of_decide_eq_true rfl)
        have l4_B2 := B2_2.lies
        go_simp
        clear hHeld
        refine hK.out _ _ ⟨((((B0_2.new _ _ (by omega) _).new _ _ (by omega) _).new _ _ (by omega) _).alloc _), ((((B1_2.new _ _ (by omega) _).new _ _ (by omega) _).new _ _ (by omega) _).alloc _)⟩ (fun hHeld => ?_)
        clear hK K c4_B2_0 c4_B2_1 c4_B2_2 g4_B2_0 g4_B2_1 g4_B2_2 l4_B2
        refine call_at (i := 9) (by kernel_rfl) rfl (fun K hK => ?_)
        go_simp
        clear hHeld
        refine hK.out _ _ ⟨((((B0_2.new _ _ (by omega) _).new _ _ (by omega) _).new _ _ (by omega) _).alloc _), ((((B1_2.new _ _ (by omega) _).new _ _ (by omega) _).new _ _ (by omega) _).alloc _)⟩ (fun hHeld => ?_)
        clear hK K
        refine wpAnyH_done (by kernel_rfl) ?_ _
        clear hHeld
        exact cont1 _ w1.heap.size w2.heap.size r1 r2 E1 E2 ((((K2.new _ _ (by omega) _).new _ _ (by omega) _).new _ _ (by omega) _).al _) ((((f2.new _ _ (by omega) _).new _ _ (by omega) _).new _ _ (by omega) _).alloc _) ((((B0_2.new _ _ (by omega) _).new _ _ (by omega) _).new _ _ (by omega) _).alloc _) ((((B1_2.new _ _ (by omega) _).new _ _ (by omega) _).new _ _ (by omega) _).alloc _) ((((B2_2.put 0 (of_decide_eq_true rfl) (.int .i64 r1.1.1) [.int .i64 r1.1.1, .int .i64 0, .int .i64 0] rfl).put 1 (of_decide_eq_true rfl) (.int .i64 r1.1.2.1) [.int .i64 r1.1.1, .int .i64 r1.1.2.1, .int .i64 0] rfl).put 2 (of_decide_eq_true rfl) (.int .i64 r1.1.2.2) [.int .i64 r1.1.1, .int .i64 r1.1.2.1, .int .i64 r1.1.2.2] rfl).alloc _) (Arr_at _ _ [.int .i64 r2.1.1, .int .i64 r2.1.2.1, .int .i64 r2.1.2.2] _ (by simp)) (by omega) (by omega) (by omega) (by omega) (by omega) (by omega) (by omega) (by omega) (by omega)
      · go_simp
        clear hHeld
        refine hK.out _ _ ⟨((B0_1.alloc _).alloc _), ((B1_1.alloc _).alloc _)⟩ (fun hHeld => ?_)
        clear hK K
        refine call_at (i := 5) (by kernel_rfl) rfl (fun K hK => ?_)
        go_simp
        refine (vUnit_any b r1.2 q _ ((f1.alloc _).alloc _)).mono ?_
        rintro e w2 ⟨rfl, f2, k2⟩
        generalize e2 : vUnitS r1.2 q = r2 at f2 ⊢
        have E2 : Hid _ := e2
        clear e2
        have K2 : Kept b w w2 := Kept.trans ((K1.al _).al _) k2
        have B0_2 : Arr w.heap.size [.int .i64 p.1, .int .i64 p.2.1, .int .i64 p.2.2] w2 := ((B0_1.alloc _).alloc _).kept k2 (by omega)
        have B1_2 : Arr (w.heap.size + 1) [.int .i64 q.1, .int .i64 q.2.1, .int .i64 q.2.2] w2 := ((B1_1.alloc _).alloc _).kept k2 (by omega)
        have B2_2 : Arr w1.heap.size [.int .i64 0, .int .i64 0, .int .i64 0] w2 := ((Arr_at _ _ [.int .i64 0, .int .i64 0, .int .i64 0] _ (by simp)).alloc _).kept k2 (by omega)
        have B3_2 : Arr (w1.heap.size + 1) [.int .i64 0, .int .i64 0, .int .i64 0] w2 := (Arr_at _ _ [.int .i64 0, .int .i64 0, .int .i64 0] _ (by simp)).kept k2 (by omega)
        have z2 := B3_2.lies
        clear hHeld
        refine hK.out _ _ ⟨B0_2, B1_2⟩ (fun hHeld => ?_)
        clear hK K K1 f1 B0_1 B1_1 k2
        refine call_at (i := 8) (by kernel_rfl) rfl (fun K hK => ?_)
        have c4_B2_0 : w2.cell? ⟨w1.heap.size, 0, none⟩ = some (.int .i64 0) := B2_2.c 0 (of_decide_eq_true rfl)
        have c4_B2_1 : w2.cell? ⟨w1.heap.size, 1, none⟩ = some (.int .i64 0) := B2_2.c 1 (of_decide_eq_true rfl)
        have c4_B2_2 : w2.cell? ⟨w1.heap.size, 2, none⟩ = some (.int .i64 0) := B2_2.c 2 (of_decide_eq_true rfl)
        have g4_B2_0 := B2_2.f 0 (of_decide_eq_true rfl)
        have g4_B2_1 := B2_2.f 1 (of_decide_eq_true rfl)
        have g4_B2_2 := B2_2.f 2 (of_decide_eq_true rfl)
        go_simp
        clear hHeld
        refine hK.out _ _ ⟨(((B0_2.new _ _ (by omega) _).new _ _ (by omega) _).new _ _ (by omega) _), (((B1_2.new _ _ (by omega) _).new _ _ (by omega) _).new _ _ (by omega) _)⟩ (fun hHeld => ?_)
        clear hK K c4_B2_0 c4_B2_1 c4_B2_2 g4_B2_0 g4_B2_1 g4_B2_2
        refine call_at (i := 9) (by kernel_rfl) rfl (fun K hK => ?_)
        have c5_B3_0 : w2.cell? ⟨w1.heap.size + 1, 0, none⟩ = some (.int .i64 0) := B3_2.c 0 (of_decide_eq_true rfl)
        have c5_B3_1 : w2.cell? ⟨w1.heap.size + 1, 1, none⟩ = some (.int .i64 0) := B3_2.c 1 (of_decide_eq_true rfl)
        have c5_B3_2 : w2.cell? ⟨w1.heap.size + 1, 2, none⟩ = some (.int .i64 0) := B3_2.c 2 (of_decide_eq_true rfl)
        have g5_B3_0 := B3_2.f 0 (of_decide_eq_true rfl)
        have g5_B3_1 := B3_2.f 1 (of_decide_eq_true rfl)
        have g5_B3_2 := B3_2.f 2 (of_decide_eq_true rfl)
        go_simp
        clear hHeld
        refine hK.out _ _ ⟨((((((B0_2.new _ _ (by omega) _).new _ _ (by omega) _).new _ _ (by omega) _).new _ _ (by omega) _).new _ _ (by omega) _).new _ _ (by omega) _), ((((((B1_2.new _ _ (by omega) _).new _ _ (by omega) _).new _ _ (by omega) _).new _ _ (by omega) _).new _ _ (by omega) _).new _ _ (by omega) _)⟩ (fun hHeld => ?_)
        clear hK K c5_B3_0 c5_B3_1 c5_B3_2 g5_B3_0 g5_B3_1 g5_B3_2
        refine wpAnyH_done (by kernel_rfl) ?_ _
        clear hHeld
        exact cont1 _ w1.heap.size (w1.heap.size + 1) r1 r2 E1 E2 ((((((K2.new _ _ (by omega) _).new _ _ (by omega) _).new _ _ (by omega) _).new _ _ (by omega) _).new _ _ (by omega) _).new _ _ (by omega) _) ((((((f2.new _ _ (by omega) _).new _ _ (by omega) _).new _ _ (by omega) _).new _ _ (by omega) _).new _ _ (by omega) _).new _ _ (by omega) _) ((((((B0_2.new _ _ (by omega) _).new _ _ (by omega) _).new _ _ (by omega) _).new _ _ (by omega) _).new _ _ (by omega) _).new _ _ (by omega) _) ((((((B1_2.new _ _ (by omega) _).new _ _ (by omega) _).new _ _ (by omega) _).new _ _ (by omega) _).new _ _ (by omega) _).new _ _ (by omega) _) ((((((B2_2.put 0 (of_decide_eq_true rfl) (.int .i64 r1.1.1) [.int .i64 r1.1.1, .int .i64 0, .int .i64 0] rfl).put 1 (of_decide_eq_true rfl) (.int .i64 r1.1.2.1) [.int .i64 r1.1.1, .int .i64 r1.1.2.1, .int .i64 0] rfl).put 2 (of_decide_eq_true rfl) (.int .i64 r1.1.2.2) [.int .i64 r1.1.1, .int .i64 r1.1.2.1, .int .i64 r1.1.2.2] rfl).new _ _ (by omega) _).new _ _ (by omega) _).new _ _ (by omega) _) ((((((B3_2.new _ _ (by omega) _).new _ _ (by omega) _).new _ _ (by omega) _).put 0 (of_decide_eq_true rfl) (.int .i64 r2.1.1) [.int .i64 r2.1.1, .int .i64 0, .int .i64 0] rfl).put 1 (of_decide_eq_true rfl) (.int .i64 r2.1.2.1) [.int .i64 r2.1.1, .int .i64 r2.1.2.1, .int .i64 0] rfl).put 2 (of_decide_eq_true rfl) (.int .i64 r2.1.2.2) [.int .i64 r2.1.1, .int .i64 r2.1.2.1, .int .i64 r2.1.2.2] rfl) (by omega) (by omega) (by omega) (by omega) (by omega) (by omega) (by omega) (by omega) (by omega)
    · go_simp
      clear hHeld
      refine hK.out _ _ ⟨(B0_1.alloc _), (B1_1.alloc _)⟩ (fun hHeld => ?_)
      clear hK K
      refine call_at2 (i0 := 5) (i1 := 6) (by kernel_rfl) rfl rfl (fun K hK => ?_) (fun K hK => ?_)
      · go_simp
        refine (vUnit_any b r1.2 q _ (f1.alloc _)).mono ?_
        rintro e w2 ⟨rfl, f2, k2⟩
        generalize e2 : vUnitS r1.2 q = r2 at f2 ⊢
        have E2 : Hid _ := e2
        clear e2
        have K2 : Kept b w w2 := Kept.trans (K1.al _) k2
        have B0_2 : Arr w.heap.size [.int .i64 p.1, .int .i64 p.2.1, .int .i64 p.2.2] w2 := (B0_1.alloc _).kept k2 (by omega)
        have B1_2 : Arr (w.heap.size + 1) [.int .i64 q.1, .int .i64 q.2.1, .int .i64 q.2.2] w2 := (B1_1.alloc _).kept k2 (by omega)
        have B2_2 : Arr w1.heap.size [.int .i64 0, .int .i64 0, .int .i64 0] w2 := (Arr_at _ _ [.int .i64 0, .int .i64 0, .int .i64 0] _ (by simp)).kept k2 (by omega)
        have z2 := B2_2.lies
        clear hHeld
        refine hK.out _ _ ⟨B0_2, B1_2⟩ (fun hHeld => ?_)
        clear hK K K1 f1 B0_1 B1_1 k2
        refine call_at (i := 6) (by kernel_rfl) rfl (fun K hK => ?_)
        go_simp
        clear hHeld
        refine hK.out _ _ ⟨(B0_2.alloc _), (B1_2.alloc _)⟩ (fun hHeld => ?_)
        clear hK K
        refine call_at (i := 8) (by kernel_rfl) rfl (fun K hK => ?_)
        go_simp
        clear hHeld
        refine hK.out _ _ ⟨(B0_2.alloc _), (B1_2.alloc _)⟩ (fun hHeld => ?_)
        clear hK K
        refine call_at (i := 9) (by kernel_rfl) rfl (fun K hK => ?_)
        have c5_B2_0 : w2.cell? ⟨w1.heap.size, 0, none⟩ = some (.int .i64 0) := B2_2.c 0 (of_decide_eq_true rfl)
        have c5_B2_1 : w2.cell? ⟨w1.heap.size, 1, none⟩ = some (.int .i64 0) := B2_2.c 1 (of_decide_eq_true rfl)
        have c5_B2_2 : w2.cell? ⟨w1.heap.size, 2, none⟩ = some (.int .i64 0) := B2_2.c 2 (of_decide_eq_true rfl)
        have g5_B2_0 := B2_2.f 0 (of_decide_eq_true rfl)
        have g5_B2_1 := B2_2.f 1 (of_decide_eq_true rfl)
        have g5_B2_2 := B2_2.f 2 (of_decide_eq_true rfl)
        have l5_B2 := B2_2.lies
        go_simp
        clear hHeld
        refine hK.out _ _ ⟨((((B0_2.new _ _ (by omega) _).new _ _ (by omega) _).new _ _ (by omega) _).alloc _), ((((B1_2.new _ _ (by omega) _).new _ _ (by omega) _).new _ _ (by omega) _).alloc _)⟩ (fun hHeld => ?_)
        clear hK K c5_B2_0 c5_B2_1 c5_B2_2 g5_B2_0 g5_B2_1 g5_B2_2 l5_B2
        refine wpAnyH_done (by kernel_rfl) ?_ _
        clear hHeld
        exact cont1 _ w2.heap.size w1.heap.size r1 r2 E1 E2 ((((K2.new _ _ (by omega) _).new _ _ (by omega) _).new _ _ (by omega) _).al _) ((((f2.new _ _ (by omega) _).new _ _ (by omega) _).new _ _ (by omega) _).alloc _) ((((B0_2.new _ _ (by omega) _).new _ _ (by omega) _).new _ _ (by omega) _).alloc _) ((((B1_2.new _ _ (by omega) _).new _ _ (by omega) _).new _ _ (by omega) _).alloc _) (Arr_at _ _ [.int .i64 r1.1.1, .int .i64 r1.1.2.1, .int .i64 r1.1.2.2] _ (by simp)) ((((B2_2.put 0 (of_decide_eq_true rfl) (.int .i64 r2.1.1) [.int .i64 r2.1.1, .int .i64 0, .int .i64 0] rfl).put 1 (of_decide_eq_true rfl) (.int .i64 r2.1.2.1) [.int .i64 r2.1.1, .int .i64 r2.1.2.1, .int .i64 0] rfl).put 2 (of_decide_eq_true rfl) (.int .i64 r2.1.2.2) [.int .i64 r2.1.1, .int .i64 r2.1.2.1, .int .i64 r2.1.2.2] rfl).alloc _) (by omega) (by omega) (by omega) (by omega) (by omega) (by omega) (by omega) (by omega) (by omega)
      · go_simp
        clear hHeld
        refine hK.out _ _ ⟨((B0_1.alloc _).alloc _), ((B1_1.alloc _).alloc _)⟩ (fun hHeld => ?_)
        clear hK K
        refine call_at (i := 5) (by kernel_rfl) rfl (fun K hK => ?_)
        go_simp
        refine (vUnit_any b r1.2 q _ ((f1.alloc _).alloc _)).mono ?_
        rintro e w2 ⟨rfl, f2, k2⟩
        generalize e2 : vUnitS r1.2 q = r2 at f2 ⊢
        have E2 : Hid _ := e2
        clear e2
        have K2 : Kept b w w2 := Kept.trans ((K1.al _).al _) k2
        have B0_2 : Arr w.heap.size [.int .i64 p.1, .int .i64 p.2.1, .int .i64 p.2.2] w2 := ((B0_1.alloc _).alloc _).kept k2 (by omega)
        have B1_2 : Arr (w.heap.size + 1) [.int .i64 q.1, .int .i64 q.2.1, .int .i64 q.2.2] w2 := ((B1_1.alloc _).alloc _).kept k2 (by omega)
        have B2_2 : Arr w1.heap.size [.int .i64 0, .int .i64 0, .int .i64 0] w2 := ((Arr_at _ _ [.int .i64 0, .int .i64 0, .int .i64 0] _ (by simp)).alloc _).kept k2 (by omega)
        have B3_2 : Arr (w1.heap.size + 1) [.int .i64 0, .int .i64 0, .int .i64 0] w2 := (Arr_at _ _ [.int .i64 0, .int .i64 0, .int .i64 0] _ (by simp)).kept k2 (by omega)
        have z2 := B3_2.lies
        clear hHeld
        refine hK.out _ _ ⟨B0_2, B1_2⟩ (fun hHeld => ?_)
        clear hK K K1 f1 B0_1 B1_1 k2
        refine call_at (i := 8) (by kernel_rfl) rfl (fun K hK => ?_)
        have c4_B3_0 : w2.cell? ⟨w1.heap.size + 1, 0, none⟩ = some (.int .i64 0) := B3_2.c 0 (of_decide_eq_true rfl)
        have c4_B3_1 : w2.cell? ⟨w1.heap.size + 1, 1, none⟩ = some (.int .i64 0) := B3_2.c 1 (of_decide_eq_true rfl)
        have c4_B3_2 : w2.cell? ⟨w1.heap.size + 1, 2, none⟩ = some (.int .i64 0) := B3_2.c 2 (of_decide_eq_true rfl)
        have g4_B3_0 := B3_2.f 0 (of_decide_eq_true rfl)
        have g4_B3_1 := B3_2.f 1 (of_decide_eq_true rfl)
        have g4_B3_2 := B3_2.f 2 (of_decide_eq_true rfl)
        go_simp
        clear hHeld
        refine hK.out _ _ ⟨(((B0_2.new _ _ (by omega) _).new _ _ (by omega) _).new _ _ (by omega) _), (((B1_2.new _ _ (by omega) _).new _ _ (by omega) _).new _ _ (by omega) _)⟩ (fun hHeld => ?_)
        clear hK K c4_B3_0 c4_B3_1 c4_B3_2 g4_B3_0 g4_B3_1 g4_B3_2
        refine call_at (i := 9) (by kernel_rfl) rfl (fun K hK => ?_)
        have c5_B2_0 : w2.cell? ⟨w1.heap.size, 0, none⟩ = some (.int .i64 0) := B2_2.c 0 (of_decide_eq_true rfl)
        have c5_B2_1 : w2.cell? ⟨w1.heap.size, 1, none⟩ = some (.int .i64 0) := B2_2.c 1 (of_decide_eq_true rfl)
        have c5_B2_2 : w2.cell? ⟨w1.heap.size, 2, none⟩ = some (.int .i64 0) := B2_2.c 2 (of_decide_eq_true rfl)
        have g5_B2_0 := B2_2.f 0 (of_decide_eq_true rfl)
        have g5_B2_1 := B2_2.f 1 (of_decide_eq_true rfl)
        have g5_B2_2 := B2_2.f 2 (of_decide_eq_true rfl)
        go_simp
        clear hHeld
        refine hK.out _ _ ⟨((((((B0_2.new _ _ (by omega) _).new _ _ (by omega) _).new _ _ (by omega) _).new _ _ (by omega) _).new _ _ (by omega) _).new _ _ (by omega) _), ((((((B1_2.new _ _ (by omega) _).new _ _ (by omega) _).new _ _ (by omega) _).new _ _ (by omega) _).new _ _ (by omega) _).new _ _ (by omega) _)⟩ (fun hHeld => ?_)
        clear hK K c5_B2_0 c5_B2_1 c5_B2_2 g5_B2_0 g5_B2_1 g5_B2_2
        refine wpAnyH_done (by kernel_rfl) ?_ _
        clear hHeld
        exact cont1 _ (w1.heap.size + 1) w1.heap.size r1 r2 E1 E2 ((((((K2.new _ _ (by omega) _).new _ _ (by omega) _).new _ _ (by omega) _).new _ _ (by omega) _).new _ _ (by omega) _).new _ _ (by omega) _) ((((((f2.new _ _ (by omega) _).new _ _ (by omega) _).new _ _ (by omega) _).new _ _ (by omega) _).new _ _ (by omega) _).new _ _ (by omega) _) ((((((B0_2.new _ _ (by omega) _).new _ _ (by omega) _).new _ _ (by omega) _).new _ _ (by omega) _).new _ _ (by omega) _).new _ _ (by omega) _) ((((((B1_2.new _ _ (by omega) _).new _ _ (by omega) _).new _ _ (by omega) _).new _ _ (by omega) _).new _ _ (by omega) _).new _ _ (by omega) _) ((((((B3_2.put 0 (of_decide_eq_true rfl) (.int .i64 r1.1.1) [.int .i64 r1.1.1, .int .i64 0, .int .i64 0] rfl).put 1 (of_decide_eq_true rfl) (.int .i64 r1.1.2.1) [.int .i64 r1.1.1, .int .i64 r1.1.2.1, .int .i64 0] rfl).put 2 (of_decide_eq_true rfl) (.int .i64 r1.1.2.2) [.int .i64 r1.1.1, .int .i64 r1.1.2.1, .int .i64 r1.1.2.2] rfl).new _ _ (by omega) _).new _ _ (by omega) _).new _ _ (by omega) _) ((((((B2_2.new _ _ (by omega) _).new _ _ (by omega) _).new _ _ (by omega) _).put 0 (of_decide_eq_true rfl) (.int .i64 r2.1.1) [.int .i64 r2.1.1, .int .i64 0, .int .i64 0] rfl).put 1 (of_decide_eq_true rfl) (.int .i64 r2.1.2.1) [.int .i64 r2.1.1, .int .i64 r2.1.2.1, .int .i64 0] rfl).put 2 (of_decide_eq_true rfl) (.int .i64 r2.1.2.2) [.int .i64 r2.1.1, .int .i64 r2.1.2.1, .int .i64 r2.1.2.2] rfl) (by omega) (by omega) (by omega) (by omega) (by omega) (by omega) (by omega) (by omega) (by omega)
  · go_simp
    clear hHeld
    refine hK.out _ _ ⟨(((Arr_at _ _ [.int .i64 p.1, .int .i64 p.2.1, .int .i64 p.2.2] _ (by simp)).alloc _).drew.alloc _), ((Arr_at _ _ [.int .i64 q.1, .int .i64 q.2.1, .int .i64 q.2.2] _ (by simp)).drew.alloc _)⟩ (fun hHeld => ?_)
    clear hK K
    refine call_at2 (i0 := 2) (i1 := 7) (by kernel_rfl) rfl rfl (fun K hK => ?_) (fun K hK => ?_)
    · go_simp
      refine (vUnit_any b bad p _ (((hw.alloc _).alloc _).drew.alloc _)).mono ?_
      rintro e w1 ⟨rfl, f1, k1⟩
      generalize e1 : vUnitS bad p = r1 at f1 ⊢
      have E1 : Hid _ := e1
      clear e1
      have K1 : Kept b w w1 := Kept.trans ((((Kept.refl b w).al _).al _).drew.al _) k1
      have B0_1 : Arr w.heap.size [.int .i64 p.1, .int .i64 p.2.1, .int .i64 p.2.2] w1 := (((Arr_at _ _ [.int .i64 p.1, .int .i64 p.2.1, .int .i64 p.2.2] _ (by simp)).alloc _).drew.alloc _).kept k1 (by omega)
      have B1_1 : Arr (w.heap.size + 1) [.int .i64 q.1, .int .i64 q.2.1, .int .i64 q.2.2] w1 := ((Arr_at _ _ [.int .i64 q.1, .int .i64 q.2.1, .int .i64 q.2.2] _ (by simp)).drew.alloc _).kept k1 (by omega)
      have B2_1 : Arr (w.heap.size + 1 + 1) [.int .i64 0, .int .i64 0, .int .i64 0] w1 := (Arr_at _ _ [.int .i64 0, .int .i64 0, .int .i64 0] _ (by simp)).kept k1 (by omega)
      have z1 := B2_1.lies
      clear hHeld
      refine hK.out _ _ ⟨B0_1, B1_1⟩ (fun hHeld => ?_)
      clear hK K k1
      refine call_at2 (i0 := 5) (i1 := 7) (by kernel_rfl) rfl rfl (fun K hK => ?_) (fun K hK => ?_)
      · go_simp
        refine (vUnit_any b r1.2 q _ f1).mono ?_
        rintro e w2 ⟨rfl, f2, k2⟩
        generalize e2 : vUnitS r1.2 q = r2 at f2 ⊢
        have E2 : Hid _ := e2
        clear e2
        have K2 : Kept b w w2 := Kept.trans K1 k2
        have B0_2 : Arr w.heap.size [.int .i64 p.1, .int .i64 p.2.1, .int .i64 p.2.2] w2 := B0_1.kept k2 (by omega)
        have B1_2 : Arr (w.heap.size + 1) [.int .i64 q.1, .int .i64 q.2.1, .int .i64 q.2.2] w2 := B1_1.kept k2 (by omega)
        have B2_2 : Arr (w.heap.size + 1 + 1) [.int .i64 0, .int .i64 0, .int .i64 0] w2 := B2_1.kept k2 (by omega)
        have z2 := B2_2.lies
        clear hHeld
        refine hK.out _ _ ⟨B0_2, B1_2⟩ (fun hHeld => ?_)
        clear hK K K1 f1 B0_1 B1_1 B2_1 k2
        refine call_at (i := 7) (by kernel_rfl) rfl (fun K hK => ?_)
        go_simp
        clear hHeld
        refine hK.out _ _ ⟨(B0_2.alloc _), (B1_2.alloc _)⟩ (fun hHeld => ?_)
        clear hK K
        refine call_at (i := 8) (by kernel_rfl) rfl (fun K hK => ?_)
        have c4_B2_0 : w2.cell? ⟨w.heap.size + 1 + 1, 0, none⟩ = some (.int .i64 0) := B2_2.c 0 (of_decide_eq_true rfl)
        have c4_B2_1 : w2.cell? ⟨w.heap.size + 1 + 1, 1, none⟩ = some (.int .i64 0) := B2_2.c 1 (of_decide_eq_true rfl)
        have c4_B2_2 : w2.cell? ⟨w.heap.size + 1 + 1, 2, none⟩ = some (.int .i64 0) := B2_2.c 2 (of_decide_eq_true rfl)
        have g4_B2_0 := B2_2.f 0 (of_decide_eq_true rfl)
        have g4_B2_1 := B2_2.f 1 (of_decide_eq_true rfl)
        have g4_B2_2 := B2_2.f 2 (of_decide_eq_true rfl)
        have l4_B2 := B2_2.lies
        go_simp
        clear hHeld
        refine hK.out _ _ ⟨((((B0_2.new _ _ (by omega) _).new _ _ (by omega) _).new _ _ (by omega) _).alloc _), ((((B1_2.new _ _ (by omega) _).new _ _ (by omega) _).new _ _ (by omega) _).alloc _)⟩ (fun hHeld => ?_)
        clear hK K c4_B2_0 c4_B2_1 c4_B2_2 g4_B2_0 g4_B2_1 g4_B2_2 l4_B2
        refine call_at (i := 9) (by kernel_rfl) rfl (fun K hK => ?_)
        go_simp
        clear hHeld
        refine hK.out _ _ ⟨((((B0_2.new _ _ (by omega) _).new _ _ (by omega) _).new _ _ (by omega) _).alloc _), ((((B1_2.new _ _ (by omega) _).new _ _ (by omega) _).new _ _ (by omega) _).alloc _)⟩ (fun hHeld => ?_)
        clear hK K
        refine wpAnyH_done (by kernel_rfl) ?_ _
        clear hHeld
        exact cont1 _ (w.heap.size + 1 + 1) w2.heap.size r1 r2 E1 E2 ((((K2.new _ _ (by omega) _).new _ _ (by omega) _).new _ _ (by omega) _).al _) ((((f2.new _ _ (by omega) _).new _ _ (by omega) _).new _ _ (by omega) _).alloc _) ((((B0_2.new _ _ (by omega) _).new _ _ (by omega) _).new _ _ (by omega) _).alloc _) ((((B1_2.new _ _ (by omega) _).new _ _ (by omega) _).new _ _ (by omega) _).alloc _) ((((B2_2.put 0 (of_decide_eq_true rfl) (.int .i64 r1.1.1) [.int .i64 r1.1.1, .int .i64 0, .int .i64 0] rfl).put 1 (of_decide_eq_true rfl) (.int .i64 r1.1.2.1) [.int .i64 r1.1.1, .int .i64 r1.1.2.1, .int .i64 0] rfl).put 2 (of_decide_eq_true rfl) (.int .i64 r1.1.2.2) [.int .i64 r1.1.1, .int .i64 r1.1.2.1, .int .i64 r1.1.2.2] rfl).alloc _) (Arr_at _ _ [.int .i64 r2.1.1, .int .i64 r2.1.2.1, .int .i64 r2.1.2.2] _ (by simp)) (by omega) (by omega) (by omega) (by omega) (by omega) (by omega) (by omega) (by omega) (by omega)
      · go_simp
        clear hHeld
        refine hK.out _ _ ⟨(B0_1.alloc _), (B1_1.alloc _)⟩ (fun hHeld => ?_)
        clear hK K
        refine call_at (i := 5) (by kernel_rfl) rfl (fun K hK => ?_)
        go_simp
        refine (vUnit_any b r1.2 q _ (f1.alloc _)).mono ?_
        rintro e w2 ⟨rfl, f2, k2⟩
        generalize e2 : vUnitS r1.2 q = r2 at f2 ⊢
        have E2 : Hid _ := e2
        clear e2
        have K2 : Kept b w w2 := Kept.trans (K1.al _) k2
        have B0_2 : Arr w.heap.size [.int .i64 p.1, .int .i64 p.2.1, .int .i64 p.2.2] w2 := (B0_1.alloc _).kept k2 (by omega)
        have B1_2 : Arr (w.heap.size + 1) [.int .i64 q.1, .int .i64 q.2.1, .int .i64 q.2.2] w2 := (B1_1.alloc _).kept k2 (by omega)
        have B2_2 : Arr (w.heap.size + 1 + 1) [.int .i64 0, .int .i64 0, .int .i64 0] w2 := (B2_1.alloc _).kept k2 (by omega)
        have B3_2 : Arr w1.heap.size [.int .i64 0, .int .i64 0, .int .i64 0] w2 := (Arr_at _ _ [.int .i64 0, .int .i64 0, .int .i64 0] _ (by simp)).kept k2 (by omega)
        have z2 := B3_2.lies
        clear hHeld
        refine hK.out _ _ ⟨B0_2, B1_2⟩ (fun hHeld => ?_)
        clear hK K K1 f1 B0_1 B1_1 B2_1 k2
        refine call_at (i := 8) (by kernel_rfl) rfl (fun K hK => ?_)
        have c4_B2_0 : w2.cell? ⟨w.heap.size + 1 + 1, 0, none⟩ = some (.int .i64 0) := B2_2.c 0 (of_decide_eq_true rfl)
        have c4_B2_1 : w2.cell? ⟨w.heap.size + 1 + 1, 1, none⟩ = some (.int .i64 0) := B2_2.c 1 (of_decide_eq_true rfl)
        have c4_B2_2 : w2.cell? ⟨w.heap.size + 1 + 1, 2, none⟩ = some (.int .i64 0) := B2_2.c 2 (of_decide_eq_true rfl)
        have g4_B2_0 := B2_2.f 0 (of_decide_eq_true rfl)
        have g4_B2_1 := B2_2.f 1 (of_decide_eq_true rfl)
        have g4_B2_2 := B2_2.f 2 (of_decide_eq_true rfl)
        go_simp
        clear hHeld
        refine hK.out _ _ ⟨(((B0_2.new _ _ (by omega) _).new _ _ (by omega) _).new _ _ (by omega) _), (((B1_2.new _ _ (by omega) _).new _ _ (by omega) _).new _ _ (by omega) _)⟩ (fun hHeld => ?_)
        clear hK K c4_B2_0 c4_B2_1 c4_B2_2 g4_B2_0 g4_B2_1 g4_B2_2
        refine call_at (i := 9) (by kernel_rfl) rfl (fun K hK => ?_)
        have c5_B3_0 : w2.cell? ⟨w1.heap.size, 0, none⟩ = some (.int .i64 0) := B3_2.c 0 (of_decide_eq_true rfl)
        have c5_B3_1 : w2.cell? ⟨w1.heap.size, 1, none⟩ = some (.int .i64 0) := B3_2.c 1 (of_decide_eq_true rfl)
        have c5_B3_2 : w2.cell? ⟨w1.heap.size, 2, none⟩ = some (.int .i64 0) := B3_2.c 2 (of_decide_eq_true rfl)
        have g5_B3_0 := B3_2.f 0 (of_decide_eq_true rfl)
        have g5_B3_1 := B3_2.f 1 (of_decide_eq_true rfl)
        have g5_B3_2 := B3_2.f 2 (of_decide_eq_true rfl)
        go_simp
        clear hHeld
        refine hK.out _ _ ⟨((((((B0_2.new _ _ (by omega) _).new _ _ (by omega) _).new _ _ (by omega) _).new _ _ (by omega) _).new _ _ (by omega) _).new _ _ (by omega) _), ((((((B1_2.new _ _ (by omega) _).new _ _ (by omega) _).new _ _ (by omega) _).new _ _ (by omega) _).new _ _ (by omega) _).new _ _ (by omega) _)⟩ (fun hHeld => ?_)
        clear hK K c5_B3_0 c5_B3_1 c5_B3_2 g5_B3_0 g5_B3_1 g5_B3_2
        refine wpAnyH_done (by kernel_rfl) ?_ _
        clear hHeld
        exact cont1 _ (w.heap.size + 1 + 1) w1.heap.size r1 r2 E1 E2 ((((((K2.new _ _ (by omega) _).new _ _ (by omega) _).new _ _ (by omega) _).new _ _ (by omega) _).new _ _ (by omega) _).new _ _ (by omega) _) ((((((f2.new _ _ (by omega) _).new _ _ (by omega) _).new _ _ (by omega) _).new _ _ (by omega) _).new _ _ (by omega) _).new _ _ (by omega) _) ((((((B0_2.new _ _ (by omega) _).new _ _ (by omega) _).new _ _ (by omega) _).new _ _ (by omega) _).new _ _ (by omega) _).new _ _ (by omega) _) ((((((B1_2.new _ _ (by omega) _).new _ _ (by omega) _).new _ _ (by omega) _).new _ _ (by omega) _).new _ _ (by omega) _).new _ _ (by omega) _) ((((((B2_2.put 0 (of_decide_eq_true rfl) (.int .i64 r1.1.1) [.int .i64 r1.1.1, .int .i64 0, .int .i64 0] rfl).put 1 (of_decide_eq_true rfl) (.int .i64 r1.1.2.1) [.int .i64 r1.1.1, .int .i64 r1.1.2.1, .int .i64 0] rfl).put 2 (of_decide_eq_true rfl) (.int .i64 r1.1.2.2) [.int .i64 r1.1.1, .int .i64 r1.1.2.1, .int .i64 r1.1.2.2] rfl).new _ _ (by omega) _).new _ _ (by omega) _).new _ _ (by omega) _) ((((((B3_2.new _ _ (by omega) _).new _ _ (by omega) _).new _ _ (by omega) _).put 0 (of_decide_eq_true rfl) (.int .i64 r2.1.1) [.int .i64 r2.1.1, .int .i64 0, .int .i64 0] rfl).put 1 (of_decide_eq_true rfl) (.int .i64 r2.1.2.1) [.int .i64 r2.1.1, .int .i64 r2.1.2.1, .int .i64 0] rfl).put 2 (of_decide_eq_true rfl) (.int .i64 r2.1.2.2) [.int .i64 r2.1.1, .int .i64 r2.1.2.1, .int .i64 r2.1.2.2] rfl) (by omega) (by omega) (by omega) (by omega) (by omega) (by omega) (by omega) (by omega) (by omega)
    · go_simp
      clear hHeld
      refine hK.out _ _ ⟨((((Arr_at _ _ [.int .i64 p.1, .int .i64 p.2.1, .int .i64 p.2.2] _ (by simp)).alloc _).drew.alloc _).alloc _), (((Arr_at _ _ [.int .i64 q.1, .int .i64 q.2.1, .int .i64 q.2.2] _ (by simp)).drew.alloc _).alloc _)⟩ (fun hHeld => ?_)
      clear hK K
      refine call_at (i := 2) (by kernel_rfl) rfl (fun K hK => ?_)
      go_simp
      refine (vUnit_any b bad p _ ((((hw.alloc _).alloc _).drew.alloc _).alloc _)).mono ?_
      rintro e w1 ⟨rfl, f1, k1⟩
      generalize e1 : vUnitS bad p = r1 at f1 ⊢
      have E1 : Hid _ := e1
      clear e1
      have K1 : Kept b w w1 := Kept.trans (((((Kept.refl b w).al _).al _).drew.al _).al _) k1
      have B0_1 : Arr w.heap.size [.int .i64 p.1, .int .i64 p.2.1, .int .i64 p.2.2] w1 := ((((Arr_at _ _ [.int .i64 p.1, .int .i64 p.2.1, .int .i64 p.2.2] _ (by simp)).alloc _).drew.alloc _).alloc _).kept k1 (by omega)
      have B1_1 : Arr (w.heap.size + 1) [.int .i64 q.1, .int .i64 q.2.1, .int .i64 q.2.2] w1 := (((Arr_at _ _ [.int .i64 q.1, .int .i64 q.2.1, .int .i64 q.2.2] _ (by simp)).drew.alloc _).alloc _).kept k1 (by omega)
      have B2_1 : Arr (w.heap.size + 1 + 1) [.int .i64 0, .int .i64 0, .int .i64 0] w1 := ((Arr_at _ _ [.int .i64 0, .int .i64 0, .int .i64 0] _ (by simp)).alloc _).kept k1 (by omega)
      have B3_1 : Arr (w.heap.size + 1 + 1 + 1) [.int .i64 0, .int .i64 0, .int .i64 0] w1 := (Arr_at _ _ [.int .i64 0, .int .i64 0, .int .i64 0] _ (by simp)).kept k1 (by omega)
      have z1 := B3_1.lies
      clear hHeld
      refine hK.out _ _ ⟨B0_1, B1_1⟩ (fun hHeld => ?_)
      clear hK K k1
      refine call_at (i := 5) (by kernel_rfl) rfl (fun K hK => ?_)
      go_simp
      refine (vUnit_any b r1.2 q _ f1).mono ?_
      rintro e w2 ⟨rfl, f2, k2⟩
      generalize e2 : vUnitS r1.2 q = r2 at f2 ⊢
      have E2 : Hid _ := e2
      clear e2
      have K2 : Kept b w w2 := Kept.trans K1 k2
      have B0_2 : Arr w.heap.size [.int .i64 p.1, .int .i64 p.2.1, .int .i64 p.2.2] w2 := B0_1.kept k2 (by omega)
      have B1_2 : Arr (w.heap.size + 1) [.int .i64 q.1, .int .i64 q.2.1, .int .i64 q.2.2] w2 := B1_1.kept k2 (by omega)
      have B2_2 : Arr (w.heap.size + 1 + 1) [.int .i64 0, .int .i64 0, .int .i64 0] w2 := B2_1.kept k2 (by omega)
      have B3_2 : Arr (w.heap.size + 1 + 1 + 1) [.int .i64 0, .int .i64 0, .int .i64 0] w2 := B3_1.kept k2 (by omega)
      have z2 := B3_2.lies
      clear hHeld
      refine hK.out _ _ ⟨B0_2, B1_2⟩ (fun hHeld => ?_)
      clear hK K K1 f1 B0_1 B1_1 B2_1 B3_1 k2
      refine call_at (i := 8) (by kernel_rfl) rfl (fun K hK => ?_)
      have c4_B2_0 : w2.cell? ⟨w.heap.size + 1 + 1, 0, none⟩ = some (.int .i64 0) := B2_2.c 0 (of_decide_eq_true rfl)
      have c4_B2_1 : w2.cell? ⟨w.heap.size + 1 + 1, 1, none⟩ = some (.int .i64 0) := B2_2.c 1 (of_decide_eq_true rfl)
      have c4_B2_2 : w2.cell? ⟨w.heap.size + 1 + 1, 2, none⟩ = some (.int .i64 0) := B2_2.c 2 (of_decide_eq_true rfl)
      have g4_B2_0 := B2_2.f 0 (of_decide_eq_true rfl)
      have g4_B2_1 := B2_2.f 1 (of_decide_eq_true rfl)
      have g4_B2_2 := B2_2.f 2 (of_decide_eq_true rfl)
      go_simp
      clear hHeld
      refine hK.out _ _ ⟨(((B0_2.new _ _ (by omega) _).new _ _ (by omega) _).new _ _ (by omega) _), (((B1_2.new _ _ (by omega) _).new _ _ (by omega) _).new _ _ (by omega) _)⟩ (fun hHeld => ?_)
      clear hK K c4_B2_0 c4_B2_1 c4_B2_2 g4_B2_0 g4_B2_1 g4_B2_2
      refine call_at (i := 9) (by kernel_rfl) rfl (fun K hK => ?_)
      have c5_B3_0 : w2.cell? ⟨w.heap.size + 1 + 1 + 1, 0, none⟩ = some (.int .i64 0) := B3_2.c 0 (of_decide_eq_true rfl)
      have c5_B3_1 : w2.cell? ⟨w.heap.size + 1 + 1 + 1, 1, none⟩ = some (.int .i64 0) := B3_2.c 1 (of_decide_eq_true rfl)
      have c5_B3_2 : w2.cell? ⟨w.heap.size + 1 + 1 + 1, 2, none⟩ = some (.int .i64 0) := B3_2.c 2 (of_decide_eq_true rfl)
      have g5_B3_0 := B3_2.f 0 (of_decide_eq_true rfl)
      have g5_B3_1 := B3_2.f 1 (of_decide_eq_true rfl)
      have g5_B3_2 := B3_2.f 2 (of_decide_eq_true rfl)
      go_simp
      clear hHeld
      refine hK.out _ _ ⟨((((((B0_2.new _ _ (by omega) _).new _ _ (by omega) _).new _ _ (by omega) _).new _ _ (by omega) _).new _ _ (by omega) _).new _ _ (by omega) _), ((((((B1_2.new _ _ (by omega) _).new _ _ (by omega) _).new _ _ (by omega) _).new _ _ (by omega) _).new _ _ (by omega) _).new _ _ (by omega) _)⟩ (fun hHeld => ?_)
      clear hK K c5_B3_0 c5_B3_1 c5_B3_2 g5_B3_0 g5_B3_1 g5_B3_2
      refine wpAnyH_done (by kernel_rfl) ?_ _
      clear hHeld
      exact cont1 _ (w.heap.size + 1 + 1) (w.heap.size + 1 + 1 + 1) r1 r2 E1 E2 ((((((K2.new _ _ (by omega) _).new _ _ (by omega) _).new _ _ (by omega) _).new _ _ (by omega) _).new _ _ (by omega) _).new _ _ (by omega) _) ((((((f2.new _ _ (by omega) _).new _ _ (by omega) _).new _ _ (by omega) _).new _ _ (by omega) _).new _ _ (by omega) _).new _ _ (by omega) _) ((((((B0_2.new _ _ (by omega) _).new _ _ (by omega) _).new _ _ (by omega) _).new _ _ (by omega) _).new _ _ (by omega) _).new _ _ (by omega) _) ((((((B1_2.new _ _ (by omega) _).new _ _ (by omega) _).new _ _ (by omega) _).new _ _ (by omega) _).new _ _ (by omega) _).new _ _ (by omega) _) ((((((B2_2.put 0 (of_decide_eq_true rfl) (.int .i64 r1.1.1) [.int .i64 r1.1.1, .int .i64 0, .int .i64 0] rfl).put 1 (of_decide_eq_true rfl) (.int .i64 r1.1.2.1) [.int .i64 r1.1.1, .int .i64 r1.1.2.1, .int .i64 0] rfl).put 2 (of_decide_eq_true rfl) (.int .i64 r1.1.2.2) [.int .i64 r1.1.1, .int .i64 r1.1.2.1, .int .i64 r1.1.2.2] rfl).new _ _ (by omega) _).new _ _ (by omega) _).new _ _ (by omega) _) ((((((B3_2.new _ _ (by omega) _).new _ _ (by omega) _).new _ _ (by omega) _).put 0 (of_decide_eq_true rfl) (.int .i64 r2.1.1) [.int .i64 r2.1.1, .int .i64 0, .int .i64 0] rfl).put 1 (of_decide_eq_true rfl) (.int .i64 r2.1.2.1) [.int .i64 r2.1.1, .int .i64 r2.1.2.1, .int .i64 0] rfl).put 2 (of_decide_eq_true rfl) (.int .i64 r2.1.2.2) [.int .i64 r2.1.1, .int .i64 r2.1.2.1, .int .i64 r2.1.2.2] rfl) (by omega) (by omega) (by omega) (by omega) (by omega) (by omega) (by omega) (by omega) (by omega)
  · go_simp
    clear hHeld
    refine hK.out _ _ ⟨(((Arr_at _ _ [.int .i64 p.1, .int .i64 p.2.1, .int .i64 p.2.2] _ (by simp)).alloc _).drew.alloc _), ((Arr_at _ _ [.int .i64 q.1, .int .i64 q.2.1, .int .i64 q.2.2] _ (by simp)).drew.alloc _)⟩ (fun hHeld => ?_)
    clear hK K
    refine call_at2 (i0 := 2) (i1 := 6) (by kernel_rfl) rfl rfl (fun K hK => ?_) (fun K hK => ?_)
    · go_simp
      refine (vUnit_any b bad p _ (((hw.alloc _).alloc _).drew.alloc _)).mono ?_
      rintro e w1 ⟨rfl, f1, k1⟩
      generalize e1 : vUnitS bad p = r1 at f1 ⊢
      have E1 : Hid _ := e1
      clear e1
      have K1 : Kept b w w1 := Kept.trans ((((Kept.refl b w).al _).al _).drew.al _) k1
      have B0_1 : Arr w.heap.size [.int .i64 p.1, .int .i64 p.2.1, .int .i64 p.2.2] w1 := (((Arr_at _ _ [.int .i64 p.1, .int .i64 p.2.1, .int .i64 p.2.2] _ (by simp)).alloc _).drew.alloc _).kept k1 (by omega)
      have B1_1 : Arr (w.heap.size + 1) [.int .i64 q.1, .int .i64 q.2.1, .int .i64 q.2.2] w1 := ((Arr_at _ _ [.int .i64 q.1, .int .i64 q.2.1, .int .i64 q.2.2] _ (by simp)).drew.alloc _).kept k1 (by omega)
      have B2_1 : Arr (w.heap.size + 1 + 1) [.int .i64 0, .int .i64 0, .int .i64 0] w1 := (Arr_at _ _ [.int .i64 0, .int .i64 0, .int .i64 0] _ (by simp)).kept k1 (by omega)
      have z1 := B2_1.lies
      clear hHeld
      refine hK.out _ _ ⟨B0_1, B1_1⟩ (fun hHeld => ?_)
      clear hK K k1
      refine call_at2 (i0 := 5) (i1 := 6) (by kernel_rfl) rfl rfl (fun K hK => ?_) (fun K hK => ?_)
      · go_simp
        refine (vUnit_any b r1.2 q _ f1).mono ?_
        rintro e w2 ⟨rfl, f2, k2⟩
        generalize e2 : vUnitS r1.2 q = r2 at f2 ⊢
        have E2 : Hid _ := e2
        clear e2
        have K2 : Kept b w w2 := Kept.trans K1 k2
        have B0_2 : Arr w.heap.size [.int .i64 p.1, .int .i64 p.2.1, .int .i64 p.2.2] w2 := B0_1.kept k2 (by omega)
        have B1_2 : Arr (w.heap.size + 1) [.int .i64 q.1, .int .i64 q.2.1, .int .i64 q.2.2] w2 := B1_1.kept k2 (by omega)
        have B2_2 : Arr (w.heap.size + 1 + 1) [.int .i64 0, .int .i64 0, .int .i64 0] w2 := B2_1.kept k2 (by omega)
        have z2 := B2_2.lies
        clear hHeld
        refine hK.out _ _ ⟨B0_2, B1_2⟩ (fun hHeld => ?_)
        clear hK K K1 f1 B0_1 B1_1 B2_1 k2
        refine call_at (i := 6) (by kernel_rfl) rfl (fun K hK => ?_)
        go_simp
        clear hHeld
        refine hK.out _ _ ⟨(B0_2.alloc _), (B1_2.alloc _)⟩ (fun hHeld => ?_)
        clear hK K
        refine call_at (i := 8) (by kernel_rfl) rfl (fun K hK => ?_)
        go_simp
        clear hHeld
        refine hK.out _ _ ⟨(B0_2.alloc _), (B1_2.alloc _)⟩ (fun hHeld => ?_)
        clear hK K
        refine call_at (i := 9) (by kernel_rfl) rfl (fun K hK => ?_)
        have c5_B2_0 : w2.cell? ⟨w.heap.size + 1 + 1, 0, none⟩ = some (.int .i64 0) := B2_2.c 0 (of_decide_eq_true rfl)
        have c5_B2_1 : w2.cell? ⟨w.heap.size + 1 + 1, 1, none⟩ = some (.int .i64 0) := B2_2.c 1 (of_decide_eq_true rfl)
        have c5_B2_2 : w2.cell? ⟨w.heap.size + 1 + 1, 2, none⟩ = some (.int .i64 0) := B2_2.c 2 (of_decide_eq_true rfl)
        have g5_B2_0 := B2_2.f 0 (of_decide_eq_true rfl)
        have g5_B2_1 := B2_2.f 1 (of_decide_eq_true rfl)
        have g5_B2_2 := B2_2.f 2 (of_decide_eq_true rfl)
        have l5_B2 := B2_2.lies
        go_simp
        clear hHeld
        refine hK.out _ _ ⟨((((B0_2.new _ _ (by omega) _).new _ _ (by omega) _).new _ _ (by omega) _).alloc _), ((((B1_2.new _ _ (by omega) _).new _ _ (by omega) _).new _ _ (by omega) _).alloc _)⟩ (fun hHeld => ?_)
        clear hK K c5_B2_0 c5_B2_1 c5_B2_2 g5_B2_0 g5_B2_1 g5_B2_2 l5_B2
        refine wpAnyH_done (by kernel_rfl) ?_ _
        clear hHeld
        exact cont1 _ w2.heap.size (w.heap.size + 1 + 1) r1 r2 E1 E2 ((((K2.new _ _ (by omega) _).new _ _ (by omega) _).new _ _ (by omega) _).al _) ((((f2.new _ _ (by omega) _).new _ _ (by omega) _).new _ _ (by omega) _).alloc _) ((((B0_2.new _ _ (by omega) _).new _ _ (by omega) _).new _ _ (by omega) _).alloc _) ((((B1_2.new _ _ (by omega) _).new _ _ (by omega) _).new _ _ (by omega) _).alloc _) (Arr_at _ _ [.int .i64 r1.1.1, .int .i64 r1.1.2.1, .int .i64 r1.1.2.2] _ (by simp)) ((((B2_2.put 0 (of_decide_eq_true rfl) (.int .i64 r2.1.1) [.int .i64 r2.1.1, .int .i64 0, .int .i64 0] rfl).put 1 (of_decide_eq_true rfl) (.int .i64 r2.1.2.1) [.int .i64 r2.1.1, .int .i64 r2.1.2.1, .int .i64 0] rfl).put 2 (of_decide_eq_true rfl) (.int .i64 r2.1.2.2) [.int .i64 r2.1.1, .int .i64 r2.1.2.1, .int .i64 r2.1.2.2] rfl).alloc _) (by omega) (by omega) (by omega) (by omega) (by omega) (by omega) (by omega) (by omega) (by omega)
      · go_simp
        clear hHeld
        refine hK.out _ _ ⟨(B0_1.alloc _), (B1_1.alloc _)⟩ (fun hHeld => ?_)
        clear hK K
        refine call_at (i := 5) (by kernel_rfl) rfl (fun K hK => ?_)
        go_simp
        refine (vUnit_any b r1.2 q _ (f1.alloc _)).mono ?_
        rintro e w2 ⟨rfl, f2, k2⟩
        generalize e2 : vUnitS r1.2 q = r2 at f2 ⊢
        have E2 : Hid _ := e2
        clear e2
        have K2 : Kept b w w2 := Kept.trans (K1.al _) k2
        have B0_2 : Arr w.heap.size [.int .i64 p.1, .int .i64 p.2.1, .int .i64 p.2.2] w2 := (B0_1.alloc _).kept k2 (by omega)
        have B1_2 : Arr (w.heap.size + 1) [.int .i64 q.1, .int .i64 q.2.1, .int .i64 q.2.2] w2 := (B1_1.alloc _).kept k2 (by omega)
        have B2_2 : Arr (w.heap.size + 1 + 1) [.int .i64 0, .int .i64 0, .int .i64 0] w2 := (B2_1.alloc _).kept k2 (by omega)
        have B3_2 : Arr w1.heap.size [.int .i64 0, .int .i64 0, .int .i64 0] w2 := (Arr_at _ _ [.int .i64 0, .int .i64 0, .int .i64 0] _ (by simp)).kept k2 (by omega)
        have z2 := B3_2.lies
        clear hHeld
        refine hK.out _ _ ⟨B0_2, B1_2⟩ (fun hHeld => ?_)
        clear hK K K1 f1 B0_1 B1_1 B2_1 k2
        refine call_at (i := 8) (by kernel_rfl) rfl (fun K hK => ?_)
        have c4_B3_0 : w2.cell? ⟨w1.heap.size, 0, none⟩ = some (.int .i64 0) := B3_2.c 0 (of_decide_eq_true rfl)
        have c4_B3_1 : w2.cell? ⟨w1.heap.size, 1, none⟩ = some (.int .i64 0) := B3_2.c 1 (of_decide_eq_true rfl)
        have c4_B3_2 : w2.cell? ⟨w1.heap.size, 2, none⟩ = some (.int .i64 0) := B3_2.c 2 (of_decide_eq_true rfl)
        have g4_B3_0 := B3_2.f 0 (of_decide_eq_true rfl)
        have g4_B3_1 := B3_2.f 1 (of_decide_eq_true rfl)
        have g4_B3_2 := B3_2.f 2 (of_decide_eq_true rfl)
        go_simp
        clear hHeld
        refine hK.out _ _ ⟨(((B0_2.new _ _ (by omega) _).new _ _ (by omega) _).new _ _ (by omega) _), (((B1_2.new _ _ (by omega) _).new _ _ (by omega) _).new _ _ (by omega) _)⟩ (fun hHeld => ?_)
        clear hK K c4_B3_0 c4_B3_1 c4_B3_2 g4_B3_0 g4_B3_1 g4_B3_2
        refine call_at (i := 9) (by kernel_rfl) rfl (fun K hK => ?_)
        have c5_B2_0 : w2.cell? ⟨w.heap.size + 1 + 1, 0, none⟩ = some (.int .i64 0) := B2_2.c 0 (of_decide_eq_true rfl)
        have c5_B2_1 : w2.cell? ⟨w.heap.size + 1 + 1, 1, none⟩ = some (.int .i64 0) := B2_2.c 1 (of_decide_eq_true rfl)
        have c5_B2_2 : w2.cell? ⟨w.heap.size + 1 + 1, 2, none⟩ = some (.int .i64 0) := B2_2.c 2 (of_decide_eq_true rfl)
        have g5_B2_0 := B2_2.f 0 (of_decide_eq_true rfl)
        have g5_B2_1 := B2_2.f 1 (of_decide_eq_true rfl)
        have g5_B2_2 := B2_2.f 2 (of_decide_eq_true rfl)
        go_simp
        clear hHeld
        refine hK.out _ _ ⟨((((((B0_2.new _ _ (by omega) _).new _ _ (by omega) _).new _ _ (by omega) _).new _ _ (by omega) _).new _ _ (by omega) _).new _ _ (by omega) _), ((((((B1_2.new _ _ (by omega) _).new _ _ (by omega) _).new _ _ (by omega) _).new _ _ (by omega) _).new _ _ (by omega) _).new _ _ (by omega) _)⟩ (fun hHeld => ?_)
        clear hK K c5_B2_0 c5_B2_1 c5_B2_2 g5_B2_0 g5_B2_1 g5_B2_2
        refine wpAnyH_done (by kernel_rfl) ?_ _
        clear hHeld
        exact cont1 _ w1.heap.size (w.heap.size + 1 + 1) r1 r2 E1 E2 ((((((K2.new _ _ (by omega) _).new _ _ (by omega) _).new _ _ (by omega) _).new _ _ (by omega) _).new _ _ (by omega) _).new _ _ (by omega) _) ((((((f2.new _ _ (by omega) _).new _ _ (by omega) _).new _ _ (by omega) _).new _ _ (by omega) _).new _ _ (by omega) _).new _ _ (by omega) _) ((((((B0_2.new _ _ (by omega) _).new _ _ (by omega) _).new _ _ (by omega) _).new _ _ (by omega) _).new _ _ (by omega) _).new _ _ (by omega) _) ((((((B1_2.new _ _ (by omega) _).new _ _ (by omega) _).new _ _ (by omega) _).new _ _ (by omega) _).new _ _ (by omega) _).new _ _ (by omega) _) ((((((B3_2.put 0 (of_decide_eq_true rfl) (.int .i64 r1.1.1) [.int .i64 r1.1.1, .int .i64 0, .int .i64 0] rfl).put 1 (of_decide_eq_true rfl) (.int .i64 r1.1.2.1) [.int .i64 r1.1.1, .int .i64 r1.1.2.1, .int .i64 0] rfl).put 2 (of_decide_eq_true rfl) (.int .i64 r1.1.2.2) [.int .i64 r1.1.1, .int .i64 r1.1.2.1, .int .i64 r1.1.2.2] rfl).new _ _ (by omega) _).new _ _ (by omega) _).new _ _ (by omega) _) ((((((B2_2.new _ _ (by omega) _).new _ _ (by omega) _).new _ _ (by omega) _).put 0 (of_decide_eq_true rfl) (.int .i64 r2.1.1) [.int .i64 r2.1.1, .int .i64 0, .int .i64 0] rfl).put 1 (of_decide_eq_true rfl) (.int .i64 r2.1.2.1) [.int .i64 r2.1.1, .int .i64 r2.1.2.1, .int .i64 0] rfl).put 2 (of_decide_eq_true rfl) (.int .i64 r2.1.2.2) [.int .i64 r2.1.1, .int .i64 r2.1.2.1, .int .i64 r2.1.2.2] rfl) (by omega) (by omega) (by omega) (by omega) (by omega) (by omega) (by omega) (by omega) (by omega)
    · go_simp
      clear hHeld
      refine hK.out _ _ ⟨((((Arr_at _ _ [.int .i64 p.1, .int .i64 p.2.1, .int .i64 p.2.2] _ (by simp)).alloc _).drew.alloc _).alloc _), (((Arr_at _ _ [.int .i64 q.1, .int .i64 q.2.1, .int .i64 q.2.2] _ (by simp)).drew.alloc _).alloc _)⟩ (fun hHeld => ?_)
      clear hK K
      refine call_at (i := 2) (by kernel_rfl) rfl (fun K hK => ?_)
      go_simp
      refine (vUnit_any b bad p _ ((((hw.alloc _).alloc _).drew.alloc _).alloc _)).mono ?_
      rintro e w1 ⟨rfl, f1, k1⟩
      generalize e1 : vUnitS bad p = r1 at f1 ⊢
      have E1 : Hid _ := e1
      clear e1
      have K1 : Kept b w w1 := Kept.trans (((((Kept.refl b w).al _).al _).drew.al _).al _) k1
      have B0_1 : Arr w.heap.size [.int .i64 p.1, .int .i64 p.2.1, .int .i64 p.2.2] w1 := ((((Arr_at _ _ [.int .i64 p.1, .int .i64 p.2.1, .int .i64 p.2.2] _ (by simp)).alloc _).drew.alloc _).alloc _).kept k1 (by omega)
      have B1_1 : Arr (w.heap.size + 1) [.int .i64 q.1, .int .i64 q.2.1, .int .i64 q.2.2] w1 := (((Arr_at _ _ [.int .i64 q.1, .int .i64 q.2.1, .int .i64 q.2.2] _ (by simp)).drew.alloc _).alloc _).kept k1 (by omega)
      have B2_1 : Arr (w.heap.size + 1 + 1) [.int .i64 0, .int .i64 0, .int .i64 0] w1 := ((Arr_at _ _ [.int .i64 0, .int .i64 0, .int .i64 0] _ (by simp)).alloc _).kept k1 (by omega)
      have B3_1 : Arr (w.heap.size + 1 + 1 + 1) [.int .i64 0, .int .i64 0, .int .i64 0] w1 := (Arr_at _ _ [.int .i64 0, .int .i64 0, .int .i64 0] _ (by simp)).kept k1 (by omega)
      have z1 := B3_1.lies
      clear hHeld
      refine hK.out _ _ ⟨B0_1, B1_1⟩ (fun hHeld => ?_)
      clear hK K k1
      refine call_at (i := 5) (by kernel_rfl) rfl (fun K hK => ?_)
      go_simp
      refine (vUnit_any b r1.2 q _ f1).mono ?_
      rintro e w2 ⟨rfl, f2, k2⟩
      generalize e2 : vUnitS r1.2 q = r2 at f2 ⊢
      have E2 : Hid _ := e2
      clear e2
      have K2 : Kept b w w2 := Kept.trans K1 k2
      have B0_2 : Arr w.heap.size [.int .i64 p.1, .int .i64 p.2.1, .int .i64 p.2.2] w2 := B0_1.kept k2 (by omega)
      have B1_2 : Arr (w.heap.size + 1) [.int .i64 q.1, .int .i64 q.2.1, .int .i64 q.2.2] w2 := B1_1.kept k2 (by omega)
      have B2_2 : Arr (w.heap.size + 1 + 1) [.int .i64 0, .int .i64 0, .int .i64 0] w2 := B2_1.kept k2 (by omega)
      have B3_2 : Arr (w.heap.size + 1 + 1 + 1) [.int .i64 0, .int .i64 0, .int .i64 0] w2 := B3_1.kept k2 (by omega)
      have z2 := B3_2.lies
      clear hHeld
      refine hK.out _ _ ⟨B0_2, B1_2⟩ (fun hHeld => ?_)
      clear hK K K1 f1 B0_1 B1_1 B2_1 B3_1 k2
      refine call_at (i := 8) (by kernel_rfl) rfl (fun K hK => ?_)
      have c4_B3_0 : w2.cell? ⟨w.heap.size + 1 + 1 + 1, 0, none⟩ = some (.int .i64 0) := B3_2.c 0 (of_decide_eq_true rfl)
      have c4_B3_1 : w2.cell? ⟨w.heap.size + 1 + 1 + 1, 1, none⟩ = some (.int .i64 0) := B3_2.c 1 (of_decide_eq_true rfl)
      have c4_B3_2 : w2.cell? ⟨w.heap.size + 1 + 1 + 1, 2, none⟩ = some (.int .i64 0) := B3_2.c 2 (of_decide_eq_true rfl)
      have g4_B3_0 := B3_2.f 0 (of_decide_eq_true rfl)
      have g4_B3_1 := B3_2.f 1 (of_decide_eq_true rfl)
      have g4_B3_2 := B3_2.f 2 (of_decide_eq_true rfl)
      go_simp
      clear hHeld
      refine hK.out _ _ ⟨(((B0_2.new _ _ (by omega) _).new _ _ (by omega) _).new _ _ (by omega) _), (((B1_2.new _ _ (by omega) _).new _ _ (by omega) _).new _ _ (by omega) _)⟩ (fun hHeld => ?_)
      clear hK K c4_B3_0 c4_B3_1 c4_B3_2 g4_B3_0 g4_B3_1 g4_B3_2
      refine call_at (i := 9) (by kernel_rfl) rfl (fun K hK => ?_)
      have c5_B2_0 : w2.cell? ⟨w.heap.size + 1 + 1, 0, none⟩ = some (.int .i64 0) := B2_2.c 0 (of_decide_eq_true rfl)
      have c5_B2_1 : w2.cell? ⟨w.heap.size + 1 + 1, 1, none⟩ = some (.int .i64 0) := B2_2.c 1 (of_decide_eq_true rfl)
      have c5_B2_2 : w2.cell? ⟨w.heap.size + 1 + 1, 2, none⟩ = some (.int .i64 0) := B2_2.c 2 (of_decide_eq_true rfl)
      have g5_B2_0 := B2_2.f 0 (of_decide_eq_true rfl)
      have g5_B2_1 := B2_2.f 1 (of_decide_eq_true rfl)
      have g5_B2_2 := B2_2.f 2 (of_decide_eq_true rfl)
      go_simp
      clear hHeld
      refine hK.out _ _ ⟨((((((B0_2.new _ _ (by omega) _).new _ _ (by omega) _).new _ _ (by omega) _).new _ _ (by omega) _).new _ _ (by omega) _).new _ _ (by omega) _), ((((((B1_2.new _ _ (by omega) _).new _ _ (by omega) _).new _ _ (by omega) _).new _ _ (by omega) _).new _ _ (by omega) _).new _ _ (by omega) _)⟩ (fun hHeld => ?_)
      clear hK K c5_B2_0 c5_B2_1 c5_B2_2 g5_B2_0 g5_B2_1 g5_B2_2
      refine wpAnyH_done (by kernel_rfl) ?_ _
      clear hHeld
      exact cont1 _ (w.heap.size + 1 + 1 + 1) (w.heap.size + 1 + 1) r1 r2 E1 E2 ((((((K2.new _ _ (by omega) _).new _ _ (by omega) _).new _ _ (by omega) _).new _ _ (by omega) _).new _ _ (by omega) _).new _ _ (by omega) _) ((((((f2.new _ _ (by omega) _).new _ _ (by omega) _).new _ _ (by omega) _).new _ _ (by omega) _).new _ _ (by omega) _).new _ _ (by omega) _) ((((((B0_2.new _ _ (by omega) _).new _ _ (by omega) _).new _ _ (by omega) _).new _ _ (by omega) _).new _ _ (by omega) _).new _ _ (by omega) _) ((((((B1_2.new _ _ (by omega) _).new _ _ (by omega) _).new _ _ (by omega) _).new _ _ (by omega) _).new _ _ (by omega) _).new _ _ (by omega) _) ((((((B3_2.put 0 (of_decide_eq_true rfl) (.int .i64 r1.1.1) [.int .i64 r1.1.1, .int .i64 0, .int .i64 0] rfl).put 1 (of_decide_eq_true rfl) (.int .i64 r1.1.2.1) [.int .i64 r1.1.1, .int .i64 r1.1.2.1, .int .i64 0] rfl).put 2 (of_decide_eq_true rfl) (.int .i64 r1.1.2.2) [.int .i64 r1.1.1, .int .i64 r1.1.2.1, .int .i64 r1.1.2.2] rfl).new _ _ (by omega) _).new _ _ (by omega) _).new _ _ (by omega) _) ((((((B2_2.new _ _ (by omega) _).new _ _ (by omega) _).new _ _ (by omega) _).put 0 (of_decide_eq_true rfl) (.int .i64 r2.1.1) [.int .i64 r2.1.1, .int .i64 0, .int .i64 0] rfl).put 1 (of_decide_eq_true rfl) (.int .i64 r2.1.2.1) [.int .i64 r2.1.1, .int .i64 r2.1.2.1, .int .i64 0] rfl).put 2 (of_decide_eq_true rfl) (.int .i64 r2.1.2.2) [.int .i64 r2.1.1, .int .i64 r2.1.2.1, .int .i64 r2.1.2.2] rfl) (by omega) (by omega) (by omega) (by omega) (by omega) (by omega) (by omega) (by omega) (by omega)
end Go.Proofs.Ytkeijfbpkdelpaa
