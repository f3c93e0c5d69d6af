/-
  Walks of package triad, for the seat Ytkeijfbpkdelpaa. (Made by mktriad.py.)
-/
import Derived.Test.YtkeijfbpkdelpaaDApart
import Derived.Test.YtkeijfbpkdelpaaDAxes
import Derived.Test.YtkeijfbpkdelpaaDBetween
import Derived.Test.YtkeijfbpkdelpaaQFrom
import Derived.Test.YtkeijfbpkdelpaaStop
import Derived.Handy
import Derived.Deep.RegionHeld3
namespace Go.Proofs.Ytkeijfbpkdelpaa
open Go.RowKit

set_option maxRecDepth 100000 in
set_option maxHeartbeats 2000000 in
theorem dAttitude_any (b : Nat) (bad : Bool) (p : V6) (q : V6) (w : World) (hw : Fl b bad w) :
    Calls Try.prog 10 #[.pointer (some ⟨b, 0, none⟩), .agg #[.int .i64 p.1, .int .i64 p.2.1, .int .i64 p.2.2.1, .int .i64 p.2.2.2.1, .int .i64 p.2.2.2.2.1, .int .i64 p.2.2.2.2.2], .agg #[.int .i64 q.1, .int .i64 q.2.1, .int .i64 q.2.2.1, .int .i64 q.2.2.2.1, .int .i64 q.2.2.2.2.1, .int .i64 q.2.2.2.2.2]] w fun e w' => e = .returned (.agg #[.int .i64 ((dAttitudeS bad p q).1.1), .int .i64 ((dAttitudeS bad p q).1.2.1), .int .i64 ((dAttitudeS bad p q).1.2.2.1), .int .i64 ((dAttitudeS bad p q).1.2.2.2)]) ∧ Fl b (dAttitudeS bad p q).2 w' ∧ Kept b w w' := by
  have hl := hw.lies
  go_enter Try.func10, Try.ntmps10
  go_wp2_with fail
  refine (dApart_any b bad (p.1, p.2.1, p.2.2.1) p.2.2.2 _ (((hw.alloc _).alloc _).alloc _)).mono ?_
  rintro e w1 ⟨rfl, f1, k1⟩
  generalize e1 : dApartS bad (p.1, p.2.1, p.2.2.1) p.2.2.2 = r1 at f1 ⊢
  have E1 : Hid _ := e1
  clear e1
  have K1 : Kept b w w1 := Kept.trans ((((Kept.refl b w).al _).al _).al _) k1
  have B0_1 : Arr w.heap.size [.int .i64 p.1, .int .i64 p.2.1, .int .i64 p.2.2.1, .int .i64 p.2.2.2.1, .int .i64 p.2.2.2.2.1, .int .i64 p.2.2.2.2.2] w1 := (((Arr_at _ _ [.int .i64 p.1, .int .i64 p.2.1, .int .i64 p.2.2.1, .int .i64 p.2.2.2.1, .int .i64 p.2.2.2.2.1, .int .i64 p.2.2.2.2.2] _ (by simp)).alloc _).alloc _).kept k1 (by omega)
  have B1_1 : Arr (w.heap.size + 1) [.int .i64 q.1, .int .i64 q.2.1, .int .i64 q.2.2.1, .int .i64 q.2.2.2.1, .int .i64 q.2.2.2.2.1, .int .i64 q.2.2.2.2.2] w1 := ((Arr_at _ _ [.int .i64 q.1, .int .i64 q.2.1, .int .i64 q.2.2.1, .int .i64 q.2.2.2.1, .int .i64 q.2.2.2.2.1, .int .i64 q.2.2.2.2.2] _ (by simp)).alloc _).kept k1 (by omega)
  have B2_1 : Arr (w.heap.size + 1 + 1) [.int .i64 0, .int .i64 0, .int .i64 0, .int .i64 0] w1 := (Arr_at _ _ [.int .i64 0, .int .i64 0, .int .i64 0, .int .i64 0] _ (by simp)).kept k1 (by omega)
  have z1 := B2_1.lies
  clear k1
  rcases Bool.eq_false_or_eq_true r1.1 with hc1 | hc1
  · have Hhc1 : Hid (r1.1 = true) := hc1
    have c2_B1_0 : w1.cell? ⟨w.heap.size + 1, 0, none⟩ = some (.int .i64 q.1) := B1_1.c 0 (of_decide_eq_true rfl)
    have c2_B1_1 : w1.cell? ⟨w.heap.size + 1, 1, none⟩ = some (.int .i64 q.2.1) := B1_1.c 1 (of_decide_eq_true rfl)
    have c2_B1_2 : w1.cell? ⟨w.heap.size + 1, 2, none⟩ = some (.int .i64 q.2.2.1) := B1_1.c 2 (of_decide_eq_true rfl)
    have c2_B1_3 : w1.cell? ⟨w.heap.size + 1, 3, none⟩ = some (.int .i64 q.2.2.2.1) := B1_1.c 3 (of_decide_eq_true rfl)
    have c2_B1_4 : w1.cell? ⟨w.heap.size + 1, 4, none⟩ = some (.int .i64 q.2.2.2.2.1) := B1_1.c 4 (of_decide_eq_true rfl)
    have c2_B1_5 : w1.cell? ⟨w.heap.size + 1, 5, none⟩ = some (.int .i64 q.2.2.2.2.2) := B1_1.c 5 (of_decide_eq_true rfl)
    go_wp2_with fail
    refine (dApart_any b r1.2 (q.1, q.2.1, q.2.2.1) q.2.2.2 _ f1).mono ?_
    rintro e w2 ⟨rfl, f2, k2⟩
    generalize e2 : dApartS r1.2 (q.1, q.2.1, q.2.2.1) q.2.2.2 = r2 at f2 ⊢
    have E2 : Hid _ := e2
    clear e2
    have K2 : Kept b w w2 := Kept.trans K1 k2
    have B0_2 : Arr w.heap.size [.int .i64 p.1, .int .i64 p.2.1, .int .i64 p.2.2.1, .int .i64 p.2.2.2.1, .int .i64 p.2.2.2.2.1, .int .i64 p.2.2.2.2.2] w2 := B0_1.kept k2 (by omega)
    have B1_2 : Arr (w.heap.size + 1) [.int .i64 q.1, .int .i64 q.2.1, .int .i64 q.2.2.1, .int .i64 q.2.2.2.1, .int .i64 q.2.2.2.2.1, .int .i64 q.2.2.2.2.2] w2 := B1_1.kept k2 (by omega)
    have B2_2 : Arr (w.heap.size + 1 + 1) [.int .i64 0, .int .i64 0, .int .i64 0, .int .i64 0] w2 := B2_1.kept k2 (by omega)
    have z2 := B2_2.lies
    clear c2_B1_0 c2_B1_1 c2_B1_2 c2_B1_3 c2_B1_4 c2_B1_5 K1 f1 B0_1 B1_1 B2_1 k2
    rcases Bool.eq_false_or_eq_true r2.1 with hc2 | hc2
    · have Hhc2 : Hid (r2.1 = true) := hc2
      go_wp2_with fail
      refine wp_region_held_drew (S := fun w' => Arr w.heap.size [.int .i64 p.1, .int .i64 p.2.1, .int .i64 p.2.2.1, .int .i64 p.2.2.2.1, .int .i64 p.2.2.2.2.1, .int .i64 p.2.2.2.2.2] w' ∧ Arr (w.heap.size + 1) [.int .i64 q.1, .int .i64 q.2.1, .int .i64 q.2.2.1, .int .i64 q.2.2.2.1, .int .i64 q.2.2.2.2.1, .int .i64 q.2.2.2.2.2] w') (by kernel_rfl) ⟨B0_2.drew, B1_2.drew⟩ (fun hHeld => ?_)
      refine take_at (i := 0) (v := ?v1) rfl (by kernel_rfl) (by kernel_rfl) (by kernel_rfl) (fun _ _ _ h => h) (Or.inl ⟨by rfl, ?y1⟩) hHeld ?t1
      case y1 => (intro wx hSw; go_simp <;> with_reducible rfl)
      simp only [Act.put, List.setIfInBounds_toArray, List.set_cons_zero, List.set_cons_succ]
      refine take_at (i := 1) (v := ?v2) rfl (by kernel_rfl) (by kernel_rfl) (by kernel_rfl) (fun _ _ _ h => h) (Or.inl ⟨by rfl, ?y2⟩) hHeld ?t2
      case y2 => (intro wx hSw; go_simp <;> with_reducible rfl)
      simp only [Act.put, List.setIfInBounds_toArray, List.set_cons_zero, List.set_cons_succ]
      refine take_at (i := 2) (v := ?v3) rfl (by kernel_rfl) (by kernel_rfl) (by kernel_rfl) (fun _ _ _ h => h) (Or.inl ⟨by rfl, ?y3⟩) hHeld ?t3
      case y3 => (intro wx hSw; go_simp <;> with_reducible rfl)
      simp only [Act.put, List.setIfInBounds_toArray, List.set_cons_zero, List.set_cons_succ]
      refine take_at (i := 3) (v := ?v4) rfl (by kernel_rfl) (by kernel_rfl) (by kernel_rfl) (fun _ _ _ h => h) (Or.inl ⟨by rfl, ?y4⟩) hHeld ?t4
      case y4 => (intro wx hSw; have hc0 : wx.cell? ⟨w.heap.size, 0, none⟩ = some (.int .i64 p.1) := hSw.1.c 0 (of_decide_eq_true rfl); have hc1 : wx.cell? ⟨w.heap.size, 1, none⟩ = some (.int .i64 p.2.1) := hSw.1.c 1 (of_decide_eq_true rfl); have hc2 : wx.cell? ⟨w.heap.size, 2, none⟩ = some (.int .i64 p.2.2.1) := hSw.1.c 2 (of_decide_eq_true rfl); have hc3 : wx.cell? ⟨w.heap.size, 3, none⟩ = some (.int .i64 p.2.2.2.1) := hSw.1.c 3 (of_decide_eq_true rfl); have hc4 : wx.cell? ⟨w.heap.size, 4, none⟩ = some (.int .i64 p.2.2.2.2.1) := hSw.1.c 4 (of_decide_eq_true rfl); have hc5 : wx.cell? ⟨w.heap.size, 5, none⟩ = some (.int .i64 p.2.2.2.2.2) := hSw.1.c 5 (of_decide_eq_true rfl); go_simp <;> with_reducible rfl)
      simp only [Act.put, List.setIfInBounds_toArray, List.set_cons_zero, List.set_cons_succ]
      refine take_at (i := 5) (v := ?v5) rfl (by kernel_rfl) (by kernel_rfl) (by kernel_rfl) (fun _ _ _ h => h) (Or.inl ⟨by rfl, ?y5⟩) hHeld ?t5
      case y5 => (intro wx hSw; go_simp <;> with_reducible rfl)
      simp only [Act.put, List.setIfInBounds_toArray, List.set_cons_zero, List.set_cons_succ]
      refine take_at (i := 6) (v := ?v6) rfl (by kernel_rfl) (by kernel_rfl) (by kernel_rfl) (fun _ _ _ h => h) (Or.inl ⟨by rfl, ?y6⟩) hHeld ?t6
      case y6 => (intro wx hSw; have hc0 : wx.cell? ⟨w.heap.size + 1, 0, none⟩ = some (.int .i64 q.1) := hSw.2.c 0 (of_decide_eq_true rfl); have hc1 : wx.cell? ⟨w.heap.size + 1, 1, none⟩ = some (.int .i64 q.2.1) := hSw.2.c 1 (of_decide_eq_true rfl); have hc2 : wx.cell? ⟨w.heap.size + 1, 2, none⟩ = some (.int .i64 q.2.2.1) := hSw.2.c 2 (of_decide_eq_true rfl); have hc3 : wx.cell? ⟨w.heap.size + 1, 3, none⟩ = some (.int .i64 q.2.2.2.1) := hSw.2.c 3 (of_decide_eq_true rfl); have hc4 : wx.cell? ⟨w.heap.size + 1, 4, none⟩ = some (.int .i64 q.2.2.2.2.1) := hSw.2.c 4 (of_decide_eq_true rfl); have hc5 : wx.cell? ⟨w.heap.size + 1, 5, none⟩ = some (.int .i64 q.2.2.2.2.2) := hSw.2.c 5 (of_decide_eq_true rfl); go_simp <;> with_reducible rfl)
      simp only [Act.put, List.setIfInBounds_toArray, List.set_cons_zero, List.set_cons_succ]
      refine call_at (i := 4) (by kernel_rfl) rfl (fun K hK => ?_)
      go_simp
      refine (daxes_any b r2.2 p _ f2.drew).mono ?_
      rintro e w3 ⟨rfl, f3, k3⟩
      generalize e3 : daxesS r2.2 p = r3 at f3 ⊢
      have E3 : Hid _ := e3
      clear e3
      have K3 : Kept b w w3 := Kept.trans K2.drew k3
      have B0_3 : Arr w.heap.size [.int .i64 p.1, .int .i64 p.2.1, .int .i64 p.2.2.1, .int .i64 p.2.2.2.1, .int .i64 p.2.2.2.2.1, .int .i64 p.2.2.2.2.2] w3 := B0_2.drew.kept k3 (by omega)
      have B1_3 : Arr (w.heap.size + 1) [.int .i64 q.1, .int .i64 q.2.1, .int .i64 q.2.2.1, .int .i64 q.2.2.2.1, .int .i64 q.2.2.2.2.1, .int .i64 q.2.2.2.2.2] w3 := B1_2.drew.kept k3 (by omega)
      have B2_3 : Arr (w.heap.size + 1 + 1) [.int .i64 0, .int .i64 0, .int .i64 0, .int .i64 0] w3 := B2_2.drew.kept k3 (by omega)
      have z3 := B2_3.lies
      clear hHeld
      refine hK.out _ _ ⟨B0_3, B1_3⟩ (fun hHeld => ?_)
      clear hK K K2 f2 B0_2 B1_2 B2_2 k3
      refine call_at (i := 7) (by kernel_rfl) rfl (fun K hK => ?_)
      go_simp
      refine (daxes_any b r3.2 q _ f3).mono ?_
      rintro e w4 ⟨rfl, f4, k4⟩
      generalize e4 : daxesS r3.2 q = r4 at f4 ⊢
      have E4 : Hid _ := e4
      clear e4
      have K4 : Kept b w w4 := Kept.trans K3 k4
      have B0_4 : Arr w.heap.size [.int .i64 p.1, .int .i64 p.2.1, .int .i64 p.2.2.1, .int .i64 p.2.2.2.1, .int .i64 p.2.2.2.2.1, .int .i64 p.2.2.2.2.2] w4 := B0_3.kept k4 (by omega)
      have B1_4 : Arr (w.heap.size + 1) [.int .i64 q.1, .int .i64 q.2.1, .int .i64 q.2.2.1, .int .i64 q.2.2.2.1, .int .i64 q.2.2.2.2.1, .int .i64 q.2.2.2.2.2] w4 := B1_3.kept k4 (by omega)
      have B2_4 : Arr (w.heap.size + 1 + 1) [.int .i64 0, .int .i64 0, .int .i64 0, .int .i64 0] w4 := B2_3.kept k4 (by omega)
      have z4 := B2_4.lies
      clear hHeld
      refine hK.out _ _ ⟨B0_4, B1_4⟩ (fun hHeld => ?_)
      clear hK K K3 f3 B0_3 B1_3 B2_3 k4
      refine call_at (i := 8) (by kernel_rfl) rfl (fun K hK => ?_)
      go_simp
      refine (dbetween_any b r4.2 r3.1 r4.1 _ f4).mono ?_
      rintro e w5 ⟨rfl, f5, k5⟩
      generalize e5 : dbetweenS r4.2 r3.1 r4.1 = r5 at f5 ⊢
      have E5 : Hid _ := e5
      clear e5
      have K5 : Kept b w w5 := Kept.trans K4 k5
      have B0_5 : Arr w.heap.size [.int .i64 p.1, .int .i64 p.2.1, .int .i64 p.2.2.1, .int .i64 p.2.2.2.1, .int .i64 p.2.2.2.2.1, .int .i64 p.2.2.2.2.2] w5 := B0_4.kept k5 (by omega)
      have B1_5 : Arr (w.heap.size + 1) [.int .i64 q.1, .int .i64 q.2.1, .int .i64 q.2.2.1, .int .i64 q.2.2.2.1, .int .i64 q.2.2.2.2.1, .int .i64 q.2.2.2.2.2] w5 := B1_4.kept k5 (by omega)
      have B2_5 : Arr (w.heap.size + 1 + 1) [.int .i64 0, .int .i64 0, .int .i64 0, .int .i64 0] w5 := B2_4.kept k5 (by omega)
      have z5 := B2_5.lies
      clear hHeld
      refine hK.out _ _ ⟨B0_5, B1_5⟩ (fun hHeld => ?_)
      clear hK K K4 f4 B0_4 B1_4 B2_4 k5
      refine call_at (i := 9) (by kernel_rfl) rfl (fun K hK => ?_)
      go_simp
      refine (qFromMatrix_any b r5.2 r5.1 _ f5).mono ?_
      rintro e w6 ⟨rfl, f6, k6⟩
      generalize e6 : qFromMatrixS r5.2 r5.1 = r6 at f6 ⊢
      have E6 : Hid _ := e6
      clear e6
      have K6 : Kept b w w6 := Kept.trans K5 k6
      have B0_6 : Arr w.heap.size [.int .i64 p.1, .int .i64 p.2.1, .int .i64 p.2.2.1, .int .i64 p.2.2.2.1, .int .i64 p.2.2.2.2.1, .int .i64 p.2.2.2.2.2] w6 := B0_5.kept k6 (by omega)
      have B1_6 : Arr (w.heap.size + 1) [.int .i64 q.1, .int .i64 q.2.1, .int .i64 q.2.2.1, .int .i64 q.2.2.2.1, .int .i64 q.2.2.2.2.1, .int .i64 q.2.2.2.2.2] w6 := B1_5.kept k6 (by omega)
      have B2_6 : Arr (w.heap.size + 1 + 1) [.int .i64 0, .int .i64 0, .int .i64 0, .int .i64 0] w6 := B2_5.kept k6 (by omega)
      have z6 := B2_6.lies
      clear hHeld
      refine hK.out _ _ ⟨B0_6, B1_6⟩ (fun hHeld => ?_)
      clear hK K K5 f5 B0_5 B1_5 B2_5 k6
      refine call_at (i := 10) (by kernel_rfl) rfl (fun K hK => ?_)
      have c4_B2_0 : w6.cell? ⟨w.heap.size + 1 + 1, 0, none⟩ = some (.int .i64 0) := B2_6.c 0 (of_decide_eq_true rfl)
      have c4_B2_1 : w6.cell? ⟨w.heap.size + 1 + 1, 1, none⟩ = some (.int .i64 0) := B2_6.c 1 (of_decide_eq_true rfl)
      have c4_B2_2 : w6.cell? ⟨w.heap.size + 1 + 1, 2, none⟩ = some (.int .i64 0) := B2_6.c 2 (of_decide_eq_true rfl)
      have c4_B2_3 : w6.cell? ⟨w.heap.size + 1 + 1, 3, none⟩ = some (.int .i64 0) := B2_6.c 3 (of_decide_eq_true rfl)
      have g4_B2_0 := B2_6.f 0 (of_decide_eq_true rfl)
      have g4_B2_1 := B2_6.f 1 (of_decide_eq_true rfl)
      have g4_B2_2 := B2_6.f 2 (of_decide_eq_true rfl)
      have g4_B2_3 := B2_6.f 3 (of_decide_eq_true rfl)
      go_simp
      clear hHeld
      refine hK.out _ _ ⟨((((B0_6.new (w.heap.size + 1 + 1) 0 (by omega) (.int .i64 r6.1.1)).new (w.heap.size + 1 + 1) 1 (by omega) (.int .i64 r6.1.2.1)).new (w.heap.size + 1 + 1) 2 (by omega) (.int .i64 r6.1.2.2.1)).new (w.heap.size + 1 + 1) 3 (by omega) (.int .i64 r6.1.2.2.2)), ((((B1_6.new (w.heap.size + 1 + 1) 0 (by omega) (.int .i64 r6.1.1)).new (w.heap.size + 1 + 1) 1 (by omega) (.int .i64 r6.1.2.1)).new (w.heap.size + 1 + 1) 2 (by omega) (.int .i64 r6.1.2.2.1)).new (w.heap.size + 1 + 1) 3 (by omega) (.int .i64 r6.1.2.2.2))⟩ (fun hHeld => ?_)
      clear hK K c4_B2_0 c4_B2_1 c4_B2_2 c4_B2_3 g4_B2_0 g4_B2_1 g4_B2_2 g4_B2_3
      refine wpAnyH_done (by kernel_rfl) ?_ _
      clear hHeld
      go_wp2_with (with_reducible refine post_stop ?_)
      refine Stop.mk ?_
      refine bodyPost_ret (v := .agg #[.int .i64 r6.1.1, .int .i64 r6.1.2.1, .int .i64 r6.1.2.2.1, .int .i64 r6.1.2.2.2]) (results_arr Try.results10 ((((B2_6.put 0 (of_decide_eq_true rfl) (.int .i64 r6.1.1) [.int .i64 r6.1.1, .int .i64 0, .int .i64 0, .int .i64 0] rfl).put 1 (of_decide_eq_true rfl) (.int .i64 r6.1.2.1) [.int .i64 r6.1.1, .int .i64 r6.1.2.1, .int .i64 0, .int .i64 0] rfl).put 2 (of_decide_eq_true rfl) (.int .i64 r6.1.2.2.1) [.int .i64 r6.1.1, .int .i64 r6.1.2.1, .int .i64 r6.1.2.2.1, .int .i64 0] rfl).put 3 (of_decide_eq_true rfl) (.int .i64 r6.1.2.2.2) [.int .i64 r6.1.1, .int .i64 r6.1.2.1, .int .i64 r6.1.2.2.1, .int .i64 r6.1.2.2.2] rfl) rfl (by kernel_rfl) (by kernel_rfl)) rfl ?_
      have hs : dAttitudeS bad p q = (r6.1, r6.2) := by unfold dAttitudeS; simp only [E1.out, E2.out, E3.out, E4.out, E5.out, E6.out]; rw [if_pos Hhc1.out]; rw [if_pos Hhc2.out]
      rw [hs]
      exact ⟨rfl, ((((f6.new (w.heap.size + 1 + 1) 0 (by omega) (.int .i64 r6.1.1)).new (w.heap.size + 1 + 1) 1 (by omega) (.int .i64 r6.1.2.1)).new (w.heap.size + 1 + 1) 2 (by omega) (.int .i64 r6.1.2.2.1)).new (w.heap.size + 1 + 1) 3 (by omega) (.int .i64 r6.1.2.2.2)), ((((K6.new _ _ (by omega) _).new _ _ (by omega) _).new _ _ (by omega) _).new _ _ (by omega) _)⟩
    · have Hhc2 : Hid (r2.1 = false) := hc2
      go_wp2_with fail
      refine (Fail_any b r2.2  _ f2).mono ?_
      rintro e w3 ⟨rfl, f3, k3⟩
      have K3 : Kept b w w3 := Kept.trans K2 k3
      have B0_3 : Arr w.heap.size [.int .i64 p.1, .int .i64 p.2.1, .int .i64 p.2.2.1, .int .i64 p.2.2.2.1, .int .i64 p.2.2.2.2.1, .int .i64 p.2.2.2.2.2] w3 := B0_2.kept k3 (by omega)
      have B1_3 : Arr (w.heap.size + 1) [.int .i64 q.1, .int .i64 q.2.1, .int .i64 q.2.2.1, .int .i64 q.2.2.2.1, .int .i64 q.2.2.2.2.1, .int .i64 q.2.2.2.2.2] w3 := B1_2.kept k3 (by omega)
      have B2_3 : Arr (w.heap.size + 1 + 1) [.int .i64 0, .int .i64 0, .int .i64 0, .int .i64 0] w3 := B2_2.kept k3 (by omega)
      have z3 := B2_3.lies
      clear K2 f2 B0_2 B1_2 B2_2 k3
      have c4_B2_0 : w3.cell? ⟨w.heap.size + 1 + 1, 0, none⟩ = some (.int .i64 0) := B2_3.c 0 (of_decide_eq_true rfl)
      have c4_B2_1 : w3.cell? ⟨w.heap.size + 1 + 1, 1, none⟩ = some (.int .i64 0) := B2_3.c 1 (of_decide_eq_true rfl)
      have c4_B2_2 : w3.cell? ⟨w.heap.size + 1 + 1, 2, none⟩ = some (.int .i64 0) := B2_3.c 2 (of_decide_eq_true rfl)
      have c4_B2_3 : w3.cell? ⟨w.heap.size + 1 + 1, 3, none⟩ = some (.int .i64 0) := B2_3.c 3 (of_decide_eq_true rfl)
      have g4_B2_0 := B2_3.f 0 (of_decide_eq_true rfl)
      have g4_B2_1 := B2_3.f 1 (of_decide_eq_true rfl)
      have g4_B2_2 := B2_3.f 2 (of_decide_eq_true rfl)
      have g4_B2_3 := B2_3.f 3 (of_decide_eq_true rfl)
      go_wp2_with (with_reducible refine post_stop ?_)
      refine Stop.mk ?_
      clear c4_B2_0 c4_B2_1 c4_B2_2 c4_B2_3 g4_B2_0 g4_B2_1 g4_B2_2 g4_B2_3
      refine bodyPost_ret (v := .agg #[.int .i64 0, .int .i64 0, .int .i64 0, .int .i64 0]) (results_arr Try.results10 ((((B2_3.put 0 (of_decide_eq_true rfl) (.int .i64 0) [.int .i64 0, .int .i64 0, .int .i64 0, .int .i64 0] rfl).put 1 (of_decide_eq_true rfl) (.int .i64 0) [.int .i64 0, .int .i64 0, .int .i64 0, .int .i64 0] rfl).put 2 (of_decide_eq_true rfl) (.int .i64 0) [.int .i64 0, .int .i64 0, .int .i64 0, .int .i64 0] rfl).put 3 (of_decide_eq_true rfl) (.int .i64 0) [.int .i64 0, .int .i64 0, .int .i64 0, .int .i64 0] rfl) rfl (by kernel_rfl) (by kernel_rfl)) rfl ?_
      have hs : dAttitudeS bad p q = ((0, 0, 0, 0), true) := by unfold dAttitudeS; simp only [E1.out, E2.out]; rw [if_pos Hhc1.out]; rw [if_neg (by rw [Hhc2.out]; decide)]
      rw [hs]
      exact ⟨rfl, ((((f3.new (w.heap.size + 1 + 1) 0 (by omega) (.int .i64 0)).new (w.heap.size + 1 + 1) 1 (by omega) (.int .i64 0)).new (w.heap.size + 1 + 1) 2 (by omega) (.int .i64 0)).new (w.heap.size + 1 + 1) 3 (by omega) (.int .i64 0)), ((((K3.new _ _ (by omega) _).new _ _ (by omega) _).new _ _ (by omega) _).new _ _ (by omega) _)⟩
  · have Hhc1 : Hid (r1.1 = false) := hc1
    go_wp2_with fail
    refine (Fail_any b r1.2  _ f1).mono ?_
    rintro e w2 ⟨rfl, f2, k2⟩
    have K2 : Kept b w w2 := Kept.trans K1 k2
    have B0_2 : Arr w.heap.size [.int .i64 p.1, .int .i64 p.2.1, .int .i64 p.2.2.1, .int .i64 p.2.2.2.1, .int .i64 p.2.2.2.2.1, .int .i64 p.2.2.2.2.2] w2 := B0_1.kept k2 (by omega)
    have B1_2 : Arr (w.heap.size + 1) [.int .i64 q.1, .int .i64 q.2.1, .int .i64 q.2.2.1, .int .i64 q.2.2.2.1, .int .i64 q.2.2.2.2.1, .int .i64 q.2.2.2.2.2] w2 := B1_1.kept k2 (by omega)
    have B2_2 : Arr (w.heap.size + 1 + 1) [.int .i64 0, .int .i64 0, .int .i64 0, .int .i64 0] w2 := B2_1.kept k2 (by omega)
    have z2 := B2_2.lies
    clear K1 f1 B0_1 B1_1 B2_1 k2
    have c3_B2_0 : w2.cell? ⟨w.heap.size + 1 + 1, 0, none⟩ = some (.int .i64 0) := B2_2.c 0 (of_decide_eq_true rfl)
    have c3_B2_1 : w2.cell? ⟨w.heap.size + 1 + 1, 1, none⟩ = some (.int .i64 0) := B2_2.c 1 (of_decide_eq_true rfl)
    have c3_B2_2 : w2.cell? ⟨w.heap.size + 1 + 1, 2, none⟩ = some (.int .i64 0) := B2_2.c 2 (of_decide_eq_true rfl)
    have c3_B2_3 : w2.cell? ⟨w.heap.size + 1 + 1, 3, none⟩ = some (.int .i64 0) := B2_2.c 3 (of_decide_eq_true rfl)
    have g3_B2_0 := B2_2.f 0 (of_decide_eq_true rfl)
    have g3_B2_1 := B2_2.f 1 (of_decide_eq_true rfl)
    have g3_B2_2 := B2_2.f 2 (of_decide_eq_true rfl)
    have g3_B2_3 := B2_2.f 3 (of_decide_eq_true rfl)
    go_wp2_with (with_reducible refine post_stop ?_)
    refine Stop.mk ?_
    clear c3_B2_0 c3_B2_1 c3_B2_2 c3_B2_3 g3_B2_0 g3_B2_1 g3_B2_2 g3_B2_3
    refine bodyPost_ret (v := .agg #[.int .i64 0, .int .i64 0, .int .i64 0, .int .i64 0]) (results_arr Try.results10 ((((B2_2.put 0 (of_decide_eq_true rfl) (.int .i64 0) [.int .i64 0, .int .i64 0, .int .i64 0, .int .i64 0] rfl).put 1 (of_decide_eq_true rfl) (.int .i64 0) [.int .i64 0, .int .i64 0, .int .i64 0, .int .i64 0] rfl).put 2 (of_decide_eq_true rfl) (.int .i64 0) [.int .i64 0, .int .i64 0, .int .i64 0, .int .i64 0] rfl).put 3 (of_decide_eq_true rfl) (.int .i64 0) [.int .i64 0, .int .i64 0, .int .i64 0, .int .i64 0] rfl) rfl (by kernel_rfl) (by kernel_rfl)) rfl ?_
    have hs : dAttitudeS bad p q = ((0, 0, 0, 0), true) := by unfold dAttitudeS; simp only [E1.out]; rw [if_neg (by rw [Hhc1.out]; decide)]
    rw [hs]
    exact ⟨rfl, ((((f2.new (w.heap.size + 1 + 1) 0 (by omega) (.int .i64 0)).new (w.heap.size + 1 + 1) 1 (by omega) (.int .i64 0)).new (w.heap.size + 1 + 1) 2 (by omega) (.int .i64 0)).new (w.heap.size + 1 + 1) 3 (by omega) (.int .i64 0)), ((((K2.new _ _ (by omega) _).new _ _ (by omega) _).new _ _ (by omega) _).new _ _ (by omega) _)⟩
end Go.Proofs.Ytkeijfbpkdelpaa
