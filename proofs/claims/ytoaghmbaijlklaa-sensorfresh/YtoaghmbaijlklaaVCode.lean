/-
  The walks of package vec, for the seat Ytoaghmbaijlklaa. (Made by mkvec.py.)
-/
import Derived.Test.YtoaghmbaijlklaaVSpec
import Derived.Test.YtoaghmbaijlklaaVMem
import Derived.Test.YtoaghmbaijlklaaMNorm
import Derived.Handy
import Derived.Deep.RegionHeld3
namespace Go.Proofs.Ytoaghmbaijlklaa
open Go.RowKit

set_option maxRecDepth 100000 in
set_option maxHeartbeats 2000000 in
theorem vNorm_any (b : Nat) (bad : Bool) (p : V3) (w : World) (hw : Fl b bad w) :
    Calls Try.prog 38 #[.pointer (some ⟨b, 0, none⟩), .agg #[.int .i64 p.1, .int .i64 p.2.1, .int .i64 p.2.2]] w fun e w' => e = .returned (.int .i64 ((vNormS bad p).1)) ∧ Fl b (vNormS bad p).2 w' ∧ Kept b w w' := by
  have hl := hw.lies
  go_enter Try.func38, Try.ntmps38
  go_wp2_with fail
  refine (Norm_any b bad p.1 p.2.1 p.2.2 _ (hw.alloc _)).mono ?_
  rintro e w1 ⟨rfl, f1, k1⟩
  generalize e1 : normS bad p.1 p.2.1 p.2.2 = r1 at f1 ⊢
  have E1 : Hid _ := e1
  clear e1
  have K1 : Kept b w w1 := Kept.trans ((Kept.refl b w).al _) k1
  have B0_1 : Arr w.heap.size [.int .i64 p.1, .int .i64 p.2.1, .int .i64 p.2.2] w1 := (Arr_at _ _ [.int .i64 p.1, .int .i64 p.2.1, .int .i64 p.2.2] _ (by simp)).kept k1 (by omega)
  have z1 := B0_1.lies
  clear k1
  go_wp2
  go_ret
  have hs : vNormS bad p = (r1.1, r1.2) := by unfold vNormS; simp only [E1.out]
  rw [hs]
  exact ⟨rfl, f1, K1⟩
set_option maxRecDepth 100000 in
set_option maxHeartbeats 2000000 in
theorem vUnit_any (b : Nat) (bad : Bool) (p : V3) (w : World) (hw : Fl b bad w) :
    Calls Try.prog 40 #[.pointer (some ⟨b, 0, none⟩), .agg #[.int .i64 p.1, .int .i64 p.2.1, .int .i64 p.2.2]] w fun e w' => e = .returned (.agg #[.int .i64 ((vUnitS bad p).1.1), .int .i64 ((vUnitS bad p).1.2.1), .int .i64 ((vUnitS bad p).1.2.2)]) ∧ Fl b (vUnitS bad p).2 w' ∧ Kept b w w' := by
  have hl := hw.lies
  go_enter Try.func40, Try.ntmps40
  go_wp2_with fail
  refine (vNorm_any b bad p _ ((hw.alloc _).alloc _)).mono ?_
  rintro e w1 ⟨rfl, f1, k1⟩
  generalize e1 : vNormS bad p = r1 at f1 ⊢
  have E1 : Hid _ := e1
  clear e1
  have K1 : Kept b w w1 := Kept.trans (((Kept.refl b w).al _).al _) k1
  have B0_1 : Arr w.heap.size [.int .i64 p.1, .int .i64 p.2.1, .int .i64 p.2.2] w1 := ((Arr_at _ _ [.int .i64 p.1, .int .i64 p.2.1, .int .i64 p.2.2] _ (by simp)).alloc _).kept k1 (by omega)
  have B1_1 : Arr (w.heap.size + 1) [.int .i64 0, .int .i64 0, .int .i64 0] w1 := (Arr_at _ _ [.int .i64 0, .int .i64 0, .int .i64 0] _ (by simp)).kept k1 (by omega)
  have z1 := B1_1.lies
  clear k1
  by_cases hc1 : r1.1 < 1048576
  · have Hhc1 : Hid (r1.1 < 1048576) := hc1
    go_wp2_with fail
    refine (Fail_any b r1.2  _ f1).mono ?_
    rintro e w2 ⟨rfl, f2, k2⟩
    have K2 : Kept b w w2 := Kept.trans K1 k2
    have B0_2 : Arr w.heap.size [.int .i64 p.1, .int .i64 p.2.1, .int .i64 p.2.2] w2 := B0_1.kept k2 (by omega)
    have B1_2 : Arr (w.heap.size + 1) [.int .i64 0, .int .i64 0, .int .i64 0] w2 := B1_1.kept k2 (by omega)
    have z2 := B1_2.lies
    clear K1 f1 B0_1 B1_1 k2
    have c3_B1_0 : w2.cell? ⟨w.heap.size + 1, 0, none⟩ = some (.int .i64 0) := B1_2.c 0 (of_decide_eq_true rfl)
    have c3_B1_1 : w2.cell? ⟨w.heap.size + 1, 1, none⟩ = some (.int .i64 0) := B1_2.c 1 (of_decide_eq_true rfl)
    have c3_B1_2 : w2.cell? ⟨w.heap.size + 1, 2, none⟩ = some (.int .i64 0) := B1_2.c 2 (of_decide_eq_true rfl)
    have g3_B1_0 := B1_2.f 0 (of_decide_eq_true rfl)
    have g3_B1_1 := B1_2.f 1 (of_decide_eq_true rfl)
    have g3_B1_2 := B1_2.f 2 (of_decide_eq_true rfl)
    go_wp2
    clear c3_B1_0 c3_B1_1 c3_B1_2 g3_B1_0 g3_B1_1 g3_B1_2
    have d0 := Arr.c (B1_2.put 0 (of_decide_eq_true rfl) (.int .i64 0) [.int .i64 0, .int .i64 0, .int .i64 0] rfl) 0 (of_decide_eq_true rfl)
    have d1 := Arr.c ((B1_2.put 0 (of_decide_eq_true rfl) (.int .i64 0) [.int .i64 0, .int .i64 0, .int .i64 0] rfl).put 1 (of_decide_eq_true rfl) (.int .i64 0) [.int .i64 0, .int .i64 0, .int .i64 0] rfl) 1 (of_decide_eq_true rfl)
    have d2 := Arr.c (((B1_2.put 0 (of_decide_eq_true rfl) (.int .i64 0) [.int .i64 0, .int .i64 0, .int .i64 0] rfl).put 1 (of_decide_eq_true rfl) (.int .i64 0) [.int .i64 0, .int .i64 0, .int .i64 0] rfl).put 2 (of_decide_eq_true rfl) (.int .i64 0) [.int .i64 0, .int .i64 0, .int .i64 0] rfl) 2 (of_decide_eq_true rfl)
    refine bodyPost_ret (v := .agg #[.int .i64 0, .int .i64 0, .int .i64 0]) (by simp [results, Try.results40, go_sem, d0, d1, d2]) rfl ?_
    have hs : vUnitS bad p = ((0, 0, 0), true) := by unfold vUnitS; simp only [E1.out]; rw [if_pos (by have := Hhc1.out; omega)]
    rw [hs]
    exact ⟨rfl, (((f2.new _ _ (by omega) _).new _ _ (by omega) _).new _ _ (by omega) _), (((K2.new _ _ (by omega) _).new _ _ (by omega) _).new _ _ (by omega) _)⟩
  · have Hhc1 : Hid (¬ r1.1 < 1048576) := hc1
    go_wp2_with fail
    refine wp_region_held_drew (S := fun w' => Arr w.heap.size [.int .i64 p.1, .int .i64 p.2.1, .int .i64 p.2.2] w') (by kernel_rfl) B0_1.drew (fun hHeld => ?_)
    refine take_at (i := 0) (v := ?v102) rfl (by kernel_rfl) (by kernel_rfl) (by kernel_rfl) (fun _ _ _ h => h) (Or.inl ⟨by rfl, ?y102⟩) hHeld ?t102
    case y102 => (intro wx hSw; go_simp <;> with_reducible rfl)
    simp only [Act.put, List.setIfInBounds_toArray, List.set_cons_zero, List.set_cons_succ]
    refine take_at (i := 1) (v := ?v103) rfl (by kernel_rfl) (by kernel_rfl) (by kernel_rfl) (fun _ _ _ h => h) (Or.inl ⟨by rfl, ?y103⟩) hHeld ?t103
    case y103 => (intro wx hSw; go_simp <;> with_reducible rfl)
    simp only [Act.put, List.setIfInBounds_toArray, List.set_cons_zero, List.set_cons_succ]
    refine take_at (i := 2) (v := ?v104) rfl (by kernel_rfl) (by kernel_rfl) (by kernel_rfl) (fun _ _ _ h => h) (Or.inl ⟨by rfl, ?y104⟩) hHeld ?t104
    case y104 => (intro wx hSw; have hc0 : wx.cell? ⟨w.heap.size, 0, none⟩ = some (.int .i64 p.1) := hSw.c 0 (of_decide_eq_true rfl); go_simp <;> with_reducible rfl)
    simp only [Act.put, List.setIfInBounds_toArray, List.set_cons_zero, List.set_cons_succ]
    refine take_at (i := 3) (v := ?v105) rfl (by kernel_rfl) (by kernel_rfl) (by kernel_rfl) (fun _ _ _ h => h) (Or.inl ⟨by rfl, ?y105⟩) hHeld ?t105
    case y105 => (intro wx hSw; go_simp <;> with_reducible rfl)
    simp only [Act.put, List.setIfInBounds_toArray, List.set_cons_zero, List.set_cons_succ]
    refine take_at (i := 5) (v := ?v106) rfl (by kernel_rfl) (by kernel_rfl) (by kernel_rfl) (fun _ _ _ h => h) (Or.inl ⟨by rfl, ?y106⟩) hHeld ?t106
    case y106 => (intro wx hSw; go_simp <;> with_reducible rfl)
    simp only [Act.put, List.setIfInBounds_toArray, List.set_cons_zero, List.set_cons_succ]
    refine take_at (i := 6) (v := ?v107) rfl (by kernel_rfl) (by kernel_rfl) (by kernel_rfl) (fun _ _ _ h => h) (Or.inl ⟨by rfl, ?y107⟩) hHeld ?t107
    case y107 => (intro wx hSw; go_simp <;> with_reducible rfl)
    simp only [Act.put, List.setIfInBounds_toArray, List.set_cons_zero, List.set_cons_succ]
    refine take_at (i := 7) (v := ?v108) rfl (by kernel_rfl) (by kernel_rfl) (by kernel_rfl) (fun _ _ _ h => h) (Or.inl ⟨by rfl, ?y108⟩) hHeld ?t108
    case y108 => (intro wx hSw; have hc1 : wx.cell? ⟨w.heap.size, 1, none⟩ = some (.int .i64 p.2.1) := hSw.c 1 (of_decide_eq_true rfl); go_simp <;> with_reducible rfl)
    simp only [Act.put, List.setIfInBounds_toArray, List.set_cons_zero, List.set_cons_succ]
    refine take_at (i := 8) (v := ?v109) rfl (by kernel_rfl) (by kernel_rfl) (by kernel_rfl) (fun _ _ _ h => h) (Or.inl ⟨by rfl, ?y109⟩) hHeld ?t109
    case y109 => (intro wx hSw; go_simp <;> with_reducible rfl)
    simp only [Act.put, List.setIfInBounds_toArray, List.set_cons_zero, List.set_cons_succ]
    refine take_at (i := 10) (v := ?v110) rfl (by kernel_rfl) (by kernel_rfl) (by kernel_rfl) (fun _ _ _ h => h) (Or.inl ⟨by rfl, ?y110⟩) hHeld ?t110
    case y110 => (intro wx hSw; go_simp <;> with_reducible rfl)
    simp only [Act.put, List.setIfInBounds_toArray, List.set_cons_zero, List.set_cons_succ]
    refine take_at (i := 11) (v := ?v111) rfl (by kernel_rfl) (by kernel_rfl) (by kernel_rfl) (fun _ _ _ h => h) (Or.inl ⟨by rfl, ?y111⟩) hHeld ?t111
    case y111 => (intro wx hSw; go_simp <;> with_reducible rfl)
    simp only [Act.put, List.setIfInBounds_toArray, List.set_cons_zero, List.set_cons_succ]
    refine take_at (i := 12) (v := ?v112) rfl (by kernel_rfl) (by kernel_rfl) (by kernel_rfl) (fun _ _ _ h => h) (Or.inl ⟨by rfl, ?y112⟩) hHeld ?t112
    case y112 => (intro wx hSw; have hc2 : wx.cell? ⟨w.heap.size, 2, none⟩ = some (.int .i64 p.2.2) := hSw.c 2 (of_decide_eq_true rfl); go_simp <;> with_reducible rfl)
    simp only [Act.put, List.setIfInBounds_toArray, List.set_cons_zero, List.set_cons_succ]
    refine take_at (i := 13) (v := ?v113) rfl (by kernel_rfl) (by kernel_rfl) (by kernel_rfl) (fun _ _ _ h => h) (Or.inl ⟨by rfl, ?y113⟩) hHeld ?t113
    case y113 => (intro wx hSw; go_simp <;> with_reducible rfl)
    simp only [Act.put, List.setIfInBounds_toArray, List.set_cons_zero, List.set_cons_succ]
    refine call_at (i := 4) (by kernel_rfl) rfl (fun K hK => ?_)
    go_simp
    refine (Div_any b r1.2 p.1 r1.1 _ f1.drew).mono ?_
    rintro e w2 ⟨rfl, f2, k2⟩
    generalize e2 : divS r1.2 p.1 r1.1 = r2 at f2 ⊢
    have E2 : Hid _ := e2
    clear e2
    have K2 : Kept b w w2 := Kept.trans K1.drew k2
    have B0_2 : Arr w.heap.size [.int .i64 p.1, .int .i64 p.2.1, .int .i64 p.2.2] w2 := B0_1.drew.kept k2 (by omega)
    have B1_2 : Arr (w.heap.size + 1) [.int .i64 0, .int .i64 0, .int .i64 0] w2 := B1_1.drew.kept k2 (by omega)
    have z2 := B1_2.lies
    clear hHeld
    refine hK.out _ _ B0_2 (fun hHeld => ?_)
    clear hK K K1 f1 B0_1 B1_1 k2
    refine call_at (i := 9) (by kernel_rfl) rfl (fun K hK => ?_)
    go_simp
    refine (Div_any b r2.2 p.2.1 r1.1 _ f2).mono ?_
    rintro e w3 ⟨rfl, f3, k3⟩
    generalize e3 : divS r2.2 p.2.1 r1.1 = r3 at f3 ⊢
    have E3 : Hid _ := e3
    clear e3
    have K3 : Kept b w w3 := Kept.trans K2 k3
    have B0_3 : Arr w.heap.size [.int .i64 p.1, .int .i64 p.2.1, .int .i64 p.2.2] w3 := B0_2.kept k3 (by omega)
    have B1_3 : Arr (w.heap.size + 1) [.int .i64 0, .int .i64 0, .int .i64 0] w3 := B1_2.kept k3 (by omega)
    have z3 := B1_3.lies
    clear hHeld
    refine hK.out _ _ B0_3 (fun hHeld => ?_)
    clear hK K K2 f2 B0_2 B1_2 k3
    refine call_at (i := 14) (by kernel_rfl) rfl (fun K hK => ?_)
    go_simp
    refine (Div_any b r3.2 p.2.2 r1.1 _ f3).mono ?_
    rintro e w4 ⟨rfl, f4, k4⟩
    generalize e4 : divS r3.2 p.2.2 r1.1 = r4 at f4 ⊢
    have E4 : Hid _ := e4
    clear e4
    have K4 : Kept b w w4 := Kept.trans K3 k4
    have B0_4 : Arr w.heap.size [.int .i64 p.1, .int .i64 p.2.1, .int .i64 p.2.2] w4 := B0_3.kept k4 (by omega)
    have B1_4 : Arr (w.heap.size + 1) [.int .i64 0, .int .i64 0, .int .i64 0] w4 := B1_3.kept k4 (by omega)
    have z4 := B1_4.lies
    clear hHeld
    refine hK.out _ _ B0_4 (fun hHeld => ?_)
    clear hK K K3 f3 B0_3 B1_3 k4
    refine take_at (i := 15) (v := ?v114) rfl (by kernel_rfl) (by kernel_rfl) (by kernel_rfl) (fun _ _ _ h => h) (Or.inl ⟨by rfl, ?y114⟩) hHeld ?t114
    case y114 => (intro wx hSw; go_simp <;> with_reducible rfl)
    simp only [Act.put, List.setIfInBounds_toArray, List.set_cons_zero, List.set_cons_succ]
    refine call_at (i := 16) (by kernel_rfl) rfl (fun K hK => ?_)
    have c3_B1_0 : w4.cell? ⟨w.heap.size + 1, 0, none⟩ = some (.int .i64 0) := B1_4.c 0 (of_decide_eq_true rfl)
    have c3_B1_1 : w4.cell? ⟨w.heap.size + 1, 1, none⟩ = some (.int .i64 0) := B1_4.c 1 (of_decide_eq_true rfl)
    have c3_B1_2 : w4.cell? ⟨w.heap.size + 1, 2, none⟩ = some (.int .i64 0) := B1_4.c 2 (of_decide_eq_true rfl)
    have g3_B1_0 := B1_4.f 0 (of_decide_eq_true rfl)
    have g3_B1_1 := B1_4.f 1 (of_decide_eq_true rfl)
    have g3_B1_2 := B1_4.f 2 (of_decide_eq_true rfl)
    go_simp
    clear hHeld
    refine hK.out _ _ (((B0_4.new _ _ (by omega) _).new _ _ (by omega) _).new _ _ (by omega) _) (fun hHeld => ?_)
    clear hK K c3_B1_0 c3_B1_1 c3_B1_2 g3_B1_0 g3_B1_1 g3_B1_2
    refine wpAnyH_done (by kernel_rfl) ?_ _
    clear hHeld
    go_wp2
    have d0 := Arr.c (B1_4.put 0 (of_decide_eq_true rfl) (.int .i64 r2.1) [.int .i64 r2.1, .int .i64 0, .int .i64 0] rfl) 0 (of_decide_eq_true rfl)
    have d1 := Arr.c ((B1_4.put 0 (of_decide_eq_true rfl) (.int .i64 r2.1) [.int .i64 r2.1, .int .i64 0, .int .i64 0] rfl).put 1 (of_decide_eq_true rfl) (.int .i64 r3.1) [.int .i64 r2.1, .int .i64 r3.1, .int .i64 0] rfl) 1 (of_decide_eq_true rfl)
    have d2 := Arr.c (((B1_4.put 0 (of_decide_eq_true rfl) (.int .i64 r2.1) [.int .i64 r2.1, .int .i64 0, .int .i64 0] rfl).put 1 (of_decide_eq_true rfl) (.int .i64 r3.1) [.int .i64 r2.1, .int .i64 r3.1, .int .i64 0] rfl).put 2 (of_decide_eq_true rfl) (.int .i64 r4.1) [.int .i64 r2.1, .int .i64 r3.1, .int .i64 r4.1] rfl) 2 (of_decide_eq_true rfl)
    refine bodyPost_ret (v := .agg #[.int .i64 r2.1, .int .i64 r3.1, .int .i64 r4.1]) (by simp [results, Try.results40, go_sem, d0, d1, d2]) rfl ?_
    have hs : vUnitS bad p = ((r2.1, r3.1, r4.1), r4.2) := by unfold vUnitS; simp only [E1.out, E2.out, E3.out, E4.out]; rw [if_neg (by have := Hhc1.out; omega)]
    rw [hs]
    exact ⟨rfl, (((f4.new _ _ (by omega) _).new _ _ (by omega) _).new _ _ (by omega) _), (((K4.new _ _ (by omega) _).new _ _ (by omega) _).new _ _ (by omega) _)⟩
end Go.Proofs.Ytoaghmbaijlklaa
