/-
  Walks of the reference of stage 5, for the seat Ytkeijfbpkdelpaa. (Made by mkref05.py.)
-/
import Derived.Test.YtkeijfbpkdelpaaZApart
import Derived.Test.YtkeijfbpkdelpaaXFrom
import Derived.Test.YtkeijfbpkdelpaaVFold
import Derived.Test.YtkeijfbpkdelpaaStop
import Derived.Handy
import Derived.Deep.RegionHeld3
namespace Go.Proofs.Ytkeijfbpkdelpaa
open Go.RowKit

set_option maxRecDepth 100000 in
set_option maxHeartbeats 2000000 in
theorem zAttitude_any (b : Nat) (bad : Bool) (p : V6) (q : V6) (w : World) (hw : Fl b bad w) :
    Calls Try.prog 11 #[.pointer (some ⟨b, 0, none⟩), .agg #[.int .i64 p.1, .int .i64 p.2.1, .int .i64 p.2.2.1, .int .i64 p.2.2.2.1, .int .i64 p.2.2.2.2.1, .int .i64 p.2.2.2.2.2], .agg #[.int .i64 q.1, .int .i64 q.2.1, .int .i64 q.2.2.1, .int .i64 q.2.2.2.1, .int .i64 q.2.2.2.2.1, .int .i64 q.2.2.2.2.2]] w fun e w' => e = .returned (.agg #[.int .i64 ((zAttitudeS bad p q).1.1), .int .i64 ((zAttitudeS bad p q).1.2.1), .int .i64 ((zAttitudeS bad p q).1.2.2.1), .int .i64 ((zAttitudeS bad p q).1.2.2.2)]) ∧ Fl b (zAttitudeS bad p q).2 w' ∧ Kept b w w' := by
  have hl := hw.lies
  go_enter Try.func11, Try.ntmps11
  go_wp2_with fail
  refine (zApart_any b bad (p.1, p.2.1, p.2.2.1) p.2.2.2 _ (((hw.alloc _).alloc _).alloc _)).mono ?_
  rintro e w1 ⟨rfl, f1, k1⟩
  generalize e1 : zApartS bad (p.1, p.2.1, p.2.2.1) p.2.2.2 = r1 at f1 ⊢
  have E1 : Hid _ := e1
  clear e1
  have K1 : Kept b w w1 := Kept.trans ((((Kept.refl b w).al _).al _).al _) k1
  have B0_1 : Arr w.heap.size [.int .i64 p.1, .int .i64 p.2.1, .int .i64 p.2.2.1, .int .i64 p.2.2.2.1, .int .i64 p.2.2.2.2.1, .int .i64 p.2.2.2.2.2] w1 := (((Arr_at _ _ [.int .i64 p.1, .int .i64 p.2.1, .int .i64 p.2.2.1, .int .i64 p.2.2.2.1, .int .i64 p.2.2.2.2.1, .int .i64 p.2.2.2.2.2] _ (by simp)).alloc _).alloc _).kept k1 (by omega)
  have B1_1 : Arr (w.heap.size + 1) [.int .i64 q.1, .int .i64 q.2.1, .int .i64 q.2.2.1, .int .i64 q.2.2.2.1, .int .i64 q.2.2.2.2.1, .int .i64 q.2.2.2.2.2] w1 := ((Arr_at _ _ [.int .i64 q.1, .int .i64 q.2.1, .int .i64 q.2.2.1, .int .i64 q.2.2.2.1, .int .i64 q.2.2.2.2.1, .int .i64 q.2.2.2.2.2] _ (by simp)).alloc _).kept k1 (by omega)
  have B2_1 : Arr (w.heap.size + 1 + 1) [.int .i64 0, .int .i64 0, .int .i64 0, .int .i64 0] w1 := (Arr_at _ _ [.int .i64 0, .int .i64 0, .int .i64 0, .int .i64 0] _ (by simp)).kept k1 (by omega)
  have z1 := B2_1.lies
  clear k1
  have c2_B1_0 : w1.cell? ⟨w.heap.size + 1, 0, none⟩ = some (.int .i64 q.1) := B1_1.c 0 (of_decide_eq_true rfl)
  have c2_B1_1 : w1.cell? ⟨w.heap.size + 1, 1, none⟩ = some (.int .i64 q.2.1) := B1_1.c 1 (of_decide_eq_true rfl)
  have c2_B1_2 : w1.cell? ⟨w.heap.size + 1, 2, none⟩ = some (.int .i64 q.2.2.1) := B1_1.c 2 (of_decide_eq_true rfl)
  have c2_B1_3 : w1.cell? ⟨w.heap.size + 1, 3, none⟩ = some (.int .i64 q.2.2.2.1) := B1_1.c 3 (of_decide_eq_true rfl)
  have c2_B1_4 : w1.cell? ⟨w.heap.size + 1, 4, none⟩ = some (.int .i64 q.2.2.2.2.1) := B1_1.c 4 (of_decide_eq_true rfl)
  have c2_B1_5 : w1.cell? ⟨w.heap.size + 1, 5, none⟩ = some (.int .i64 q.2.2.2.2.2) := B1_1.c 5 (of_decide_eq_true rfl)
  go_wp2_with fail
  refine (zApart_any b r1.2 (q.1, q.2.1, q.2.2.1) q.2.2.2 _ f1).mono ?_
  rintro e w2 ⟨rfl, f2, k2⟩
  generalize e2 : zApartS r1.2 (q.1, q.2.1, q.2.2.1) q.2.2.2 = r2 at f2 ⊢
  have E2 : Hid _ := e2
  clear e2
  have K2 : Kept b w w2 := Kept.trans K1 k2
  have B0_2 : Arr w.heap.size [.int .i64 p.1, .int .i64 p.2.1, .int .i64 p.2.2.1, .int .i64 p.2.2.2.1, .int .i64 p.2.2.2.2.1, .int .i64 p.2.2.2.2.2] w2 := B0_1.kept k2 (by omega)
  have B1_2 : Arr (w.heap.size + 1) [.int .i64 q.1, .int .i64 q.2.1, .int .i64 q.2.2.1, .int .i64 q.2.2.2.1, .int .i64 q.2.2.2.2.1, .int .i64 q.2.2.2.2.2] w2 := B1_1.kept k2 (by omega)
  have B2_2 : Arr (w.heap.size + 1 + 1) [.int .i64 0, .int .i64 0, .int .i64 0, .int .i64 0] w2 := B2_1.kept k2 (by omega)
  have z2 := B2_2.lies
  clear c2_B1_0 c2_B1_1 c2_B1_2 c2_B1_3 c2_B1_4 c2_B1_5 K1 f1 B0_1 B1_1 B2_1 k2
  rcases Bool.eq_false_or_eq_true r1.1 with hc1 | hc1
  · have Hhc1 : Hid (r1.1 = true) := hc1
    rcases Bool.eq_false_or_eq_true r2.1 with hc2 | hc2
    · have Hhc2 : Hid (r2.1 = true) := hc2
      have c3_B0_0 : w2.cell? ⟨w.heap.size, 0, none⟩ = some (.int .i64 p.1) := B0_2.c 0 (of_decide_eq_true rfl)
      have c3_B0_1 : w2.cell? ⟨w.heap.size, 1, none⟩ = some (.int .i64 p.2.1) := B0_2.c 1 (of_decide_eq_true rfl)
      have c3_B0_2 : w2.cell? ⟨w.heap.size, 2, none⟩ = some (.int .i64 p.2.2.1) := B0_2.c 2 (of_decide_eq_true rfl)
      have c3_B0_3 : w2.cell? ⟨w.heap.size, 3, none⟩ = some (.int .i64 p.2.2.2.1) := B0_2.c 3 (of_decide_eq_true rfl)
      have c3_B0_4 : w2.cell? ⟨w.heap.size, 4, none⟩ = some (.int .i64 p.2.2.2.2.1) := B0_2.c 4 (of_decide_eq_true rfl)
      have c3_B0_5 : w2.cell? ⟨w.heap.size, 5, none⟩ = some (.int .i64 p.2.2.2.2.2) := B0_2.c 5 (of_decide_eq_true rfl)
      go_wp2_with fail
      refine (zframe_any b r2.2 p _ f2).mono ?_
      rintro e w3 ⟨rfl, f3, k3⟩
      generalize e3 : zframeS r2.2 p = r3 at f3 ⊢
      have E3 : Hid _ := e3
      clear e3
      have K3 : Kept b w w3 := Kept.trans K2 k3
      have B0_3 : Arr w.heap.size [.int .i64 p.1, .int .i64 p.2.1, .int .i64 p.2.2.1, .int .i64 p.2.2.2.1, .int .i64 p.2.2.2.2.1, .int .i64 p.2.2.2.2.2] w3 := B0_2.kept k3 (by omega)
      have B1_3 : Arr (w.heap.size + 1) [.int .i64 q.1, .int .i64 q.2.1, .int .i64 q.2.2.1, .int .i64 q.2.2.2.1, .int .i64 q.2.2.2.2.1, .int .i64 q.2.2.2.2.2] w3 := B1_2.kept k3 (by omega)
      have B2_3 : Arr (w.heap.size + 1 + 1) [.int .i64 0, .int .i64 0, .int .i64 0, .int .i64 0] w3 := B2_2.kept k3 (by omega)
      have z3 := B2_3.lies
      clear c3_B0_0 c3_B0_1 c3_B0_2 c3_B0_3 c3_B0_4 c3_B0_5 K2 f2 B0_2 B1_2 B2_2 k3
      have c4_B1_0 : w3.cell? ⟨w.heap.size + 1, 0, none⟩ = some (.int .i64 q.1) := B1_3.c 0 (of_decide_eq_true rfl)
      have c4_B1_1 : w3.cell? ⟨w.heap.size + 1, 1, none⟩ = some (.int .i64 q.2.1) := B1_3.c 1 (of_decide_eq_true rfl)
      have c4_B1_2 : w3.cell? ⟨w.heap.size + 1, 2, none⟩ = some (.int .i64 q.2.2.1) := B1_3.c 2 (of_decide_eq_true rfl)
      have c4_B1_3 : w3.cell? ⟨w.heap.size + 1, 3, none⟩ = some (.int .i64 q.2.2.2.1) := B1_3.c 3 (of_decide_eq_true rfl)
      have c4_B1_4 : w3.cell? ⟨w.heap.size + 1, 4, none⟩ = some (.int .i64 q.2.2.2.2.1) := B1_3.c 4 (of_decide_eq_true rfl)
      have c4_B1_5 : w3.cell? ⟨w.heap.size + 1, 5, none⟩ = some (.int .i64 q.2.2.2.2.2) := B1_3.c 5 (of_decide_eq_true rfl)
      have l4_B1 := B1_3.lies
      go_wp2_with fail
      refine (zframe_any b r3.2 q _ (f3.alloc _)).mono ?_
      rintro e w4 ⟨rfl, f4, k4⟩
      generalize e4 : zframeS r3.2 q = r4 at f4 ⊢
      have E4 : Hid _ := e4
      clear e4
      have K4 : Kept b w w4 := Kept.trans (K3.al _) k4
      have B0_4 : Arr w.heap.size [.int .i64 p.1, .int .i64 p.2.1, .int .i64 p.2.2.1, .int .i64 p.2.2.2.1, .int .i64 p.2.2.2.2.1, .int .i64 p.2.2.2.2.2] w4 := (B0_3.alloc _).kept k4 (by omega)
      have B1_4 : Arr (w.heap.size + 1) [.int .i64 q.1, .int .i64 q.2.1, .int .i64 q.2.2.1, .int .i64 q.2.2.2.1, .int .i64 q.2.2.2.2.1, .int .i64 q.2.2.2.2.2] w4 := (B1_3.alloc _).kept k4 (by omega)
      have B2_4 : Arr (w.heap.size + 1 + 1) [.int .i64 0, .int .i64 0, .int .i64 0, .int .i64 0] w4 := (B2_3.alloc _).kept k4 (by omega)
      have B3_4 : Arr w3.heap.size [.int .i64 r3.1.1, .int .i64 r3.1.2.1, .int .i64 r3.1.2.2.1, .int .i64 r3.1.2.2.2.1, .int .i64 r3.1.2.2.2.2.1, .int .i64 r3.1.2.2.2.2.2.1, .int .i64 r3.1.2.2.2.2.2.2.1, .int .i64 r3.1.2.2.2.2.2.2.2.1, .int .i64 r3.1.2.2.2.2.2.2.2.2] w4 := (Arr_at _ _ [.int .i64 r3.1.1, .int .i64 r3.1.2.1, .int .i64 r3.1.2.2.1, .int .i64 r3.1.2.2.2.1, .int .i64 r3.1.2.2.2.2.1, .int .i64 r3.1.2.2.2.2.2.1, .int .i64 r3.1.2.2.2.2.2.2.1, .int .i64 r3.1.2.2.2.2.2.2.2.1, .int .i64 r3.1.2.2.2.2.2.2.2.2] _ (by simp)).kept k4 (by omega)
      have z4 := B3_4.lies
      clear c4_B1_0 c4_B1_1 c4_B1_2 c4_B1_3 c4_B1_4 c4_B1_5 l4_B1 K3 f3 B0_3 B1_3 B2_3 k4
      go_wp2_with fail
      refine wp_loop_rounds 4 ?_
      rw [rounds_succ]
      go_wp2_with fail
      refine wp_loop_rounds 4 ?_
      rw [rounds_succ]
      go_wp2_with fail
      refine wp_region_held_drew (S := fun w' => Arr w4.heap.size [.int .i64 r4.1.1, .int .i64 r4.1.2.1, .int .i64 r4.1.2.2.1, .int .i64 r4.1.2.2.2.1, .int .i64 r4.1.2.2.2.2.1, .int .i64 r4.1.2.2.2.2.2.1, .int .i64 r4.1.2.2.2.2.2.2.1, .int .i64 r4.1.2.2.2.2.2.2.2.1, .int .i64 r4.1.2.2.2.2.2.2.2.2] w' ∧ Arr w3.heap.size [.int .i64 r3.1.1, .int .i64 r3.1.2.1, .int .i64 r3.1.2.2.1, .int .i64 r3.1.2.2.2.1, .int .i64 r3.1.2.2.2.2.1, .int .i64 r3.1.2.2.2.2.2.1, .int .i64 r3.1.2.2.2.2.2.2.1, .int .i64 r3.1.2.2.2.2.2.2.2.1, .int .i64 r3.1.2.2.2.2.2.2.2.2] w') (by kernel_rfl) ⟨((Arr_at _ _ [.int .i64 r4.1.1, .int .i64 r4.1.2.1, .int .i64 r4.1.2.2.1, .int .i64 r4.1.2.2.2.1, .int .i64 r4.1.2.2.2.2.1, .int .i64 r4.1.2.2.2.2.2.1, .int .i64 r4.1.2.2.2.2.2.2.1, .int .i64 r4.1.2.2.2.2.2.2.2.1, .int .i64 r4.1.2.2.2.2.2.2.2.2] _ (by simp)).alloc _).drew, ((B3_4.alloc _).alloc _).drew⟩ (fun hHeld => ?_)
      refine take_at (i := 0) (v := ?v820) rfl (by kernel_rfl) (by kernel_rfl) (by kernel_rfl) (fun _ _ _ h => h) (Or.inl ⟨by rfl, ?y820⟩) hHeld ?t820
      case y820 => (intro wx hSw; go_simp <;> with_reducible rfl)
      simp only [Act.put, List.setIfInBounds_toArray, List.set_cons_zero, List.set_cons_succ]
      refine take_at (i := 1) (v := ?v821) rfl (by kernel_rfl) (by kernel_rfl) (by kernel_rfl) (fun _ _ _ h => h) (Or.inl ⟨by rfl, ?y821⟩) hHeld ?t821
      case y821 => (intro wx hSw; go_simp <;> with_reducible rfl)
      simp only [Act.put, List.setIfInBounds_toArray, List.set_cons_zero, List.set_cons_succ]
      refine take_at (i := 2) (v := ?v822) rfl (by kernel_rfl) (by kernel_rfl) (by kernel_rfl) (fun _ _ _ h => h) (Or.inl ⟨by rfl, ?y822⟩) hHeld ?t822
      case y822 => (intro wx hSw; go_simp <;> with_reducible rfl)
      simp only [Act.put, List.setIfInBounds_toArray, List.set_cons_zero, List.set_cons_succ]
      refine take_at (i := 3) (v := ?v823) rfl (by kernel_rfl) (by kernel_rfl) (by kernel_rfl) (fun _ _ _ h => h) (Or.inl ⟨by rfl, ?y823⟩) hHeld ?t823
      case y823 => (intro wx hSw; go_simp <;> with_reducible rfl)
      simp only [Act.put, List.setIfInBounds_toArray, List.set_cons_zero, List.set_cons_succ]
      refine take_at (i := 4) (v := ?v824) rfl (by kernel_rfl) (by kernel_rfl) (by kernel_rfl) (fun _ _ _ h => h) (Or.inl ⟨by rfl, ?y824⟩) hHeld ?t824
      case y824 => (intro wx hSw; have hc0 : wx.cell? ⟨w4.heap.size, 0, none⟩ = some (.int .i64 r4.1.1) := hSw.1.c 0 (of_decide_eq_true rfl); go_simp <;> with_reducible rfl)
      simp only [Act.put, List.setIfInBounds_toArray, List.set_cons_zero, List.set_cons_succ]
      refine take_at (i := 5) (v := ?v825) rfl (by kernel_rfl) (by kernel_rfl) (by kernel_rfl) (fun _ _ _ h => h) (Or.inl ⟨by rfl, ?y825⟩) hHeld ?t825
      case y825 => (intro wx hSw; go_simp <;> with_reducible rfl)
      simp only [Act.put, List.setIfInBounds_toArray, List.set_cons_zero, List.set_cons_succ]
      refine take_at (i := 6) (v := ?v826) rfl (by kernel_rfl) (by kernel_rfl) (by kernel_rfl) (fun _ _ _ h => h) (Or.inl ⟨by rfl, ?y826⟩) hHeld ?t826
      case y826 => (intro wx hSw; go_simp <;> with_reducible rfl)
      simp only [Act.put, List.setIfInBounds_toArray, List.set_cons_zero, List.set_cons_succ]
      refine take_at (i := 7) (v := ?v827) rfl (by kernel_rfl) (by kernel_rfl) (by kernel_rfl) (fun _ _ _ h => h) (Or.inl ⟨by rfl, ?y827⟩) hHeld ?t827
      case y827 => (intro wx hSw; go_simp <;> with_reducible rfl)
      simp only [Act.put, List.setIfInBounds_toArray, List.set_cons_zero, List.set_cons_succ]
      refine take_at (i := 8) (v := ?v828) rfl (by kernel_rfl) (by kernel_rfl) (by kernel_rfl) (fun _ _ _ h => h) (Or.inl ⟨by rfl, ?y828⟩) hHeld ?t828
      case y828 => (intro wx hSw; have hc0 : wx.cell? ⟨w3.heap.size, 0, none⟩ = some (.int .i64 r3.1.1) := hSw.2.c 0 (of_decide_eq_true rfl); go_simp <;> with_reducible rfl)
      simp only [Act.put, List.setIfInBounds_toArray, List.set_cons_zero, List.set_cons_succ]
      refine call_at (i := 9) (by kernel_rfl) rfl (fun K hK => ?_)
      go_simp
      refine (rMul_any b r4.2 r4.1.1 r3.1.1 _ ((f4.alloc _).alloc _).drew).mono ?_
      rintro e w5 ⟨rfl, f5, k5⟩
      generalize e5 : mulS r4.2 r4.1.1 r3.1.1 = r5 at f5 ⊢
      have E5 : Hid _ := e5
      clear e5
      have K5 : Kept b w w5 := Kept.trans ((K4.al _).al _).drew k5
      have B0_5 : Arr w.heap.size [.int .i64 p.1, .int .i64 p.2.1, .int .i64 p.2.2.1, .int .i64 p.2.2.2.1, .int .i64 p.2.2.2.2.1, .int .i64 p.2.2.2.2.2] w5 := ((B0_4.alloc _).alloc _).drew.kept k5 (by omega)
      have B1_5 : Arr (w.heap.size + 1) [.int .i64 q.1, .int .i64 q.2.1, .int .i64 q.2.2.1, .int .i64 q.2.2.2.1, .int .i64 q.2.2.2.2.1, .int .i64 q.2.2.2.2.2] w5 := ((B1_4.alloc _).alloc _).drew.kept k5 (by omega)
      have B2_5 : Arr (w.heap.size + 1 + 1) [.int .i64 0, .int .i64 0, .int .i64 0, .int .i64 0] w5 := ((B2_4.alloc _).alloc _).drew.kept k5 (by omega)
      have B3_5 : Arr w3.heap.size [.int .i64 r3.1.1, .int .i64 r3.1.2.1, .int .i64 r3.1.2.2.1, .int .i64 r3.1.2.2.2.1, .int .i64 r3.1.2.2.2.2.1, .int .i64 r3.1.2.2.2.2.2.1, .int .i64 r3.1.2.2.2.2.2.2.1, .int .i64 r3.1.2.2.2.2.2.2.2.1, .int .i64 r3.1.2.2.2.2.2.2.2.2] w5 := ((B3_4.alloc _).alloc _).drew.kept k5 (by omega)
      have B4_5 : Arr w4.heap.size [.int .i64 r4.1.1, .int .i64 r4.1.2.1, .int .i64 r4.1.2.2.1, .int .i64 r4.1.2.2.2.1, .int .i64 r4.1.2.2.2.2.1, .int .i64 r4.1.2.2.2.2.2.1, .int .i64 r4.1.2.2.2.2.2.2.1, .int .i64 r4.1.2.2.2.2.2.2.2.1, .int .i64 r4.1.2.2.2.2.2.2.2.2] w5 := ((Arr_at _ _ [.int .i64 r4.1.1, .int .i64 r4.1.2.1, .int .i64 r4.1.2.2.1, .int .i64 r4.1.2.2.2.1, .int .i64 r4.1.2.2.2.2.1, .int .i64 r4.1.2.2.2.2.2.1, .int .i64 r4.1.2.2.2.2.2.2.1, .int .i64 r4.1.2.2.2.2.2.2.2.1, .int .i64 r4.1.2.2.2.2.2.2.2.2] _ (by simp)).alloc _).drew.kept k5 (by omega)
      have B5_5 : Arr (w4.heap.size + 1) [.int .i64 0, .int .i64 0, .int .i64 0, .int .i64 0, .int .i64 0, .int .i64 0, .int .i64 0, .int .i64 0, .int .i64 0] w5 := (Arr_at _ _ [.int .i64 0, .int .i64 0, .int .i64 0, .int .i64 0, .int .i64 0, .int .i64 0, .int .i64 0, .int .i64 0, .int .i64 0] _ (by simp)).drew.kept k5 (by omega)
      have z5 := B5_5.lies
      clear hHeld
      refine hK.out _ _ ⟨B4_5, B3_5⟩ (fun hHeld => ?_)
      clear hK K K4 f4 B0_4 B1_4 B2_4 B3_4 k5
      refine take_at (i := 10) (v := ?v829) rfl (by kernel_rfl) (by kernel_rfl) (by kernel_rfl) (fun _ _ _ h => h) (Or.inl ⟨by rfl, ?y829⟩) hHeld ?t829
      case y829 => (intro wx hSw; go_simp <;> with_reducible rfl)
      simp only [Act.put, List.setIfInBounds_toArray, List.set_cons_zero, List.set_cons_succ]
      refine wpAnyH_done (by kernel_rfl) ?_ _
      clear hHeld
      go_wp2_with fail
      refine wp_region_held_drew (S := fun w' => Arr w4.heap.size [.int .i64 r4.1.1, .int .i64 r4.1.2.1, .int .i64 r4.1.2.2.1, .int .i64 r4.1.2.2.2.1, .int .i64 r4.1.2.2.2.2.1, .int .i64 r4.1.2.2.2.2.2.1, .int .i64 r4.1.2.2.2.2.2.2.1, .int .i64 r4.1.2.2.2.2.2.2.2.1, .int .i64 r4.1.2.2.2.2.2.2.2.2] w' ∧ Arr w3.heap.size [.int .i64 r3.1.1, .int .i64 r3.1.2.1, .int .i64 r3.1.2.2.1, .int .i64 r3.1.2.2.2.1, .int .i64 r3.1.2.2.2.2.1, .int .i64 r3.1.2.2.2.2.2.1, .int .i64 r3.1.2.2.2.2.2.2.1, .int .i64 r3.1.2.2.2.2.2.2.2.1, .int .i64 r3.1.2.2.2.2.2.2.2.2] w') (by kernel_rfl) ⟨B4_5.drew, B3_5.drew⟩ (fun hHeld => ?_)
      refine take_at (i := 0) (v := ?v830) rfl (by kernel_rfl) (by kernel_rfl) (by kernel_rfl) (fun _ _ _ h => h) (Or.inl ⟨by rfl, ?y830⟩) hHeld ?t830
      case y830 => (intro wx hSw; go_simp <;> with_reducible rfl)
      simp only [Act.put, List.setIfInBounds_toArray, List.set_cons_zero, List.set_cons_succ]
      refine take_at (i := 1) (v := ?v831) rfl (by kernel_rfl) (by kernel_rfl) (by kernel_rfl) (fun _ _ _ h => h) (Or.inl ⟨by rfl, ?y831⟩) hHeld ?t831
      case y831 => (intro wx hSw; go_simp <;> with_reducible rfl)
      simp only [Act.put, List.setIfInBounds_toArray, List.set_cons_zero, List.set_cons_succ]
      refine take_at (i := 2) (v := ?v832) rfl (by kernel_rfl) (by kernel_rfl) (by kernel_rfl) (fun _ _ _ h => h) (Or.inl ⟨by rfl, ?y832⟩) hHeld ?t832
      case y832 => (intro wx hSw; go_simp <;> with_reducible rfl)
      simp only [Act.put, List.setIfInBounds_toArray, List.set_cons_zero, List.set_cons_succ]
      refine take_at (i := 3) (v := ?v833) rfl (by kernel_rfl) (by kernel_rfl) (by kernel_rfl) (fun _ _ _ h => h) (Or.inl ⟨by rfl, ?y833⟩) hHeld ?t833
      case y833 => (intro wx hSw; go_simp <;> with_reducible rfl)
      simp only [Act.put, List.setIfInBounds_toArray, List.set_cons_zero, List.set_cons_succ]
      refine take_at (i := 4) (v := ?v834) rfl (by kernel_rfl) (by kernel_rfl) (by kernel_rfl) (fun _ _ _ h => h) (Or.inl ⟨by rfl, ?y834⟩) hHeld ?t834
      case y834 => (intro wx hSw; have hc3 : wx.cell? ⟨w4.heap.size, 3, none⟩ = some (.int .i64 r4.1.2.2.2.1) := hSw.1.c 3 (of_decide_eq_true rfl); go_simp <;> with_reducible rfl)
      simp only [Act.put, List.setIfInBounds_toArray, List.set_cons_zero, List.set_cons_succ]
      refine take_at (i := 5) (v := ?v835) rfl (by kernel_rfl) (by kernel_rfl) (by kernel_rfl) (fun _ _ _ h => h) (Or.inl ⟨by rfl, ?y835⟩) hHeld ?t835
      case y835 => (intro wx hSw; go_simp <;> with_reducible rfl)
      simp only [Act.put, List.setIfInBounds_toArray, List.set_cons_zero, List.set_cons_succ]
      refine take_at (i := 6) (v := ?v836) rfl (by kernel_rfl) (by kernel_rfl) (by kernel_rfl) (fun _ _ _ h => h) (Or.inl ⟨by rfl, ?y836⟩) hHeld ?t836
      case y836 => (intro wx hSw; go_simp <;> with_reducible rfl)
      simp only [Act.put, List.setIfInBounds_toArray, List.set_cons_zero, List.set_cons_succ]
      refine take_at (i := 7) (v := ?v837) rfl (by kernel_rfl) (by kernel_rfl) (by kernel_rfl) (fun _ _ _ h => h) (Or.inl ⟨by rfl, ?y837⟩) hHeld ?t837
      case y837 => (intro wx hSw; go_simp <;> with_reducible rfl)
      simp only [Act.put, List.setIfInBounds_toArray, List.set_cons_zero, List.set_cons_succ]
      refine take_at (i := 8) (v := ?v838) rfl (by kernel_rfl) (by kernel_rfl) (by kernel_rfl) (fun _ _ _ h => h) (Or.inl ⟨by rfl, ?y838⟩) hHeld ?t838
      case y838 => (intro wx hSw; have hc3 : wx.cell? ⟨w3.heap.size, 3, none⟩ = some (.int .i64 r3.1.2.2.2.1) := hSw.2.c 3 (of_decide_eq_true rfl); go_simp <;> with_reducible rfl)
      simp only [Act.put, List.setIfInBounds_toArray, List.set_cons_zero, List.set_cons_succ]
      refine call_at (i := 9) (by kernel_rfl) rfl (fun K hK => ?_)
      go_simp
      refine (rMul_any b r5.2 r4.1.2.2.2.1 r3.1.2.2.2.1 _ f5.drew).mono ?_
      rintro e w6 ⟨rfl, f6, k6⟩
      generalize e6 : mulS r5.2 r4.1.2.2.2.1 r3.1.2.2.2.1 = r6 at f6 ⊢
      have E6 : Hid _ := e6
      clear e6
      have K6 : Kept b w w6 := Kept.trans K5.drew k6
      have B0_6 : Arr w.heap.size [.int .i64 p.1, .int .i64 p.2.1, .int .i64 p.2.2.1, .int .i64 p.2.2.2.1, .int .i64 p.2.2.2.2.1, .int .i64 p.2.2.2.2.2] w6 := B0_5.drew.kept k6 (by omega)
      have B1_6 : Arr (w.heap.size + 1) [.int .i64 q.1, .int .i64 q.2.1, .int .i64 q.2.2.1, .int .i64 q.2.2.2.1, .int .i64 q.2.2.2.2.1, .int .i64 q.2.2.2.2.2] w6 := B1_5.drew.kept k6 (by omega)
      have B2_6 : Arr (w.heap.size + 1 + 1) [.int .i64 0, .int .i64 0, .int .i64 0, .int .i64 0] w6 := B2_5.drew.kept k6 (by omega)
      have B3_6 : Arr w3.heap.size [.int .i64 r3.1.1, .int .i64 r3.1.2.1, .int .i64 r3.1.2.2.1, .int .i64 r3.1.2.2.2.1, .int .i64 r3.1.2.2.2.2.1, .int .i64 r3.1.2.2.2.2.2.1, .int .i64 r3.1.2.2.2.2.2.2.1, .int .i64 r3.1.2.2.2.2.2.2.2.1, .int .i64 r3.1.2.2.2.2.2.2.2.2] w6 := B3_5.drew.kept k6 (by omega)
      have B4_6 : Arr w4.heap.size [.int .i64 r4.1.1, .int .i64 r4.1.2.1, .int .i64 r4.1.2.2.1, .int .i64 r4.1.2.2.2.1, .int .i64 r4.1.2.2.2.2.1, .int .i64 r4.1.2.2.2.2.2.1, .int .i64 r4.1.2.2.2.2.2.2.1, .int .i64 r4.1.2.2.2.2.2.2.2.1, .int .i64 r4.1.2.2.2.2.2.2.2.2] w6 := B4_5.drew.kept k6 (by omega)
      have B5_6 : Arr (w4.heap.size + 1) [.int .i64 0, .int .i64 0, .int .i64 0, .int .i64 0, .int .i64 0, .int .i64 0, .int .i64 0, .int .i64 0, .int .i64 0] w6 := B5_5.drew.kept k6 (by omega)
      have z6 := B5_6.lies
      clear hHeld
      refine hK.out _ _ ⟨B4_6, B3_6⟩ (fun hHeld => ?_)
      clear hK K K5 f5 B0_5 B1_5 B2_5 B3_5 B4_5 B5_5 k6
      refine take_at (i := 10) (v := ?v839) rfl (by kernel_rfl) (by kernel_rfl) (by kernel_rfl) (fun _ _ _ h => h) (Or.inl ⟨by rfl, ?y839⟩) hHeld ?t839
      case y839 => (intro wx hSw; go_simp <;> with_reducible rfl)
      simp only [Act.put, List.setIfInBounds_toArray, List.set_cons_zero, List.set_cons_succ]
      refine wpAnyH_done (by kernel_rfl) ?_ _
      clear hHeld
      go_wp2_with fail
      refine wp_region_held_drew (S := fun w' => Arr w4.heap.size [.int .i64 r4.1.1, .int .i64 r4.1.2.1, .int .i64 r4.1.2.2.1, .int .i64 r4.1.2.2.2.1, .int .i64 r4.1.2.2.2.2.1, .int .i64 r4.1.2.2.2.2.2.1, .int .i64 r4.1.2.2.2.2.2.2.1, .int .i64 r4.1.2.2.2.2.2.2.2.1, .int .i64 r4.1.2.2.2.2.2.2.2.2] w' ∧ Arr w3.heap.size [.int .i64 r3.1.1, .int .i64 r3.1.2.1, .int .i64 r3.1.2.2.1, .int .i64 r3.1.2.2.2.1, .int .i64 r3.1.2.2.2.2.1, .int .i64 r3.1.2.2.2.2.2.1, .int .i64 r3.1.2.2.2.2.2.2.1, .int .i64 r3.1.2.2.2.2.2.2.2.1, .int .i64 r3.1.2.2.2.2.2.2.2.2] w') (by kernel_rfl) ⟨B4_6.drew, B3_6.drew⟩ (fun hHeld => ?_)
      refine take_at (i := 0) (v := ?v840) rfl (by kernel_rfl) (by kernel_rfl) (by kernel_rfl) (fun _ _ _ h => h) (Or.inl ⟨by rfl, ?y840⟩) hHeld ?t840
      case y840 => (intro wx hSw; go_simp <;> with_reducible rfl)
      simp only [Act.put, List.setIfInBounds_toArray, List.set_cons_zero, List.set_cons_succ]
      refine take_at (i := 1) (v := ?v841) rfl (by kernel_rfl) (by kernel_rfl) (by kernel_rfl) (fun _ _ _ h => h) (Or.inl ⟨by rfl, ?y841⟩) hHeld ?t841
      case y841 => (intro wx hSw; go_simp <;> with_reducible rfl)
      simp only [Act.put, List.setIfInBounds_toArray, List.set_cons_zero, List.set_cons_succ]
      refine take_at (i := 2) (v := ?v842) rfl (by kernel_rfl) (by kernel_rfl) (by kernel_rfl) (fun _ _ _ h => h) (Or.inl ⟨by rfl, ?y842⟩) hHeld ?t842
      case y842 => (intro wx hSw; go_simp <;> with_reducible rfl)
      simp only [Act.put, List.setIfInBounds_toArray, List.set_cons_zero, List.set_cons_succ]
      refine take_at (i := 3) (v := ?v843) rfl (by kernel_rfl) (by kernel_rfl) (by kernel_rfl) (fun _ _ _ h => h) (Or.inl ⟨by rfl, ?y843⟩) hHeld ?t843
      case y843 => (intro wx hSw; go_simp <;> with_reducible rfl)
      simp only [Act.put, List.setIfInBounds_toArray, List.set_cons_zero, List.set_cons_succ]
      refine take_at (i := 4) (v := ?v844) rfl (by kernel_rfl) (by kernel_rfl) (by kernel_rfl) (fun _ _ _ h => h) (Or.inl ⟨by rfl, ?y844⟩) hHeld ?t844
      case y844 => (intro wx hSw; have hc6 : wx.cell? ⟨w4.heap.size, 6, none⟩ = some (.int .i64 r4.1.2.2.2.2.2.2.1) := hSw.1.c 6 (of_decide_eq_true rfl); go_simp <;> with_reducible rfl)
      simp only [Act.put, List.setIfInBounds_toArray, List.set_cons_zero, List.set_cons_succ]
      refine take_at (i := 5) (v := ?v845) rfl (by kernel_rfl) (by kernel_rfl) (by kernel_rfl) (fun _ _ _ h => h) (Or.inl ⟨by rfl, ?y845⟩) hHeld ?t845
      case y845 => (intro wx hSw; go_simp <;> with_reducible rfl)
      simp only [Act.put, List.setIfInBounds_toArray, List.set_cons_zero, List.set_cons_succ]
      refine take_at (i := 6) (v := ?v846) rfl (by kernel_rfl) (by kernel_rfl) (by kernel_rfl) (fun _ _ _ h => h) (Or.inl ⟨by rfl, ?y846⟩) hHeld ?t846
      case y846 => (intro wx hSw; go_simp <;> with_reducible rfl)
      simp only [Act.put, List.setIfInBounds_toArray, List.set_cons_zero, List.set_cons_succ]
      refine take_at (i := 7) (v := ?v847) rfl (by kernel_rfl) (by kernel_rfl) (by kernel_rfl) (fun _ _ _ h => h) (Or.inl ⟨by rfl, ?y847⟩) hHeld ?t847
      case y847 => (intro wx hSw; go_simp <;> with_reducible rfl)
      simp only [Act.put, List.setIfInBounds_toArray, List.set_cons_zero, List.set_cons_succ]
      refine take_at (i := 8) (v := ?v848) rfl (by kernel_rfl) (by kernel_rfl) (by kernel_rfl) (fun _ _ _ h => h) (Or.inl ⟨by rfl, ?y848⟩) hHeld ?t848
      case y848 => (intro wx hSw; have hc6 : wx.cell? ⟨w3.heap.size, 6, none⟩ = some (.int .i64 r3.1.2.2.2.2.2.2.1) := hSw.2.c 6 (of_decide_eq_true rfl); go_simp <;> with_reducible rfl)
      simp only [Act.put, List.setIfInBounds_toArray, List.set_cons_zero, List.set_cons_succ]
      refine call_at (i := 9) (by kernel_rfl) rfl (fun K hK => ?_)
      go_simp
      refine (rMul_any b r6.2 r4.1.2.2.2.2.2.2.1 r3.1.2.2.2.2.2.2.1 _ f6.drew).mono ?_
      rintro e w7 ⟨rfl, f7, k7⟩
      generalize e7 : mulS r6.2 r4.1.2.2.2.2.2.2.1 r3.1.2.2.2.2.2.2.1 = r7 at f7 ⊢
      have E7 : Hid _ := e7
      clear e7
      have K7 : Kept b w w7 := Kept.trans K6.drew k7
      have B0_7 : Arr w.heap.size [.int .i64 p.1, .int .i64 p.2.1, .int .i64 p.2.2.1, .int .i64 p.2.2.2.1, .int .i64 p.2.2.2.2.1, .int .i64 p.2.2.2.2.2] w7 := B0_6.drew.kept k7 (by omega)
      have B1_7 : Arr (w.heap.size + 1) [.int .i64 q.1, .int .i64 q.2.1, .int .i64 q.2.2.1, .int .i64 q.2.2.2.1, .int .i64 q.2.2.2.2.1, .int .i64 q.2.2.2.2.2] w7 := B1_6.drew.kept k7 (by omega)
      have B2_7 : Arr (w.heap.size + 1 + 1) [.int .i64 0, .int .i64 0, .int .i64 0, .int .i64 0] w7 := B2_6.drew.kept k7 (by omega)
      have B3_7 : Arr w3.heap.size [.int .i64 r3.1.1, .int .i64 r3.1.2.1, .int .i64 r3.1.2.2.1, .int .i64 r3.1.2.2.2.1, .int .i64 r3.1.2.2.2.2.1, .int .i64 r3.1.2.2.2.2.2.1, .int .i64 r3.1.2.2.2.2.2.2.1, .int .i64 r3.1.2.2.2.2.2.2.2.1, .int .i64 r3.1.2.2.2.2.2.2.2.2] w7 := B3_6.drew.kept k7 (by omega)
      have B4_7 : Arr w4.heap.size [.int .i64 r4.1.1, .int .i64 r4.1.2.1, .int .i64 r4.1.2.2.1, .int .i64 r4.1.2.2.2.1, .int .i64 r4.1.2.2.2.2.1, .int .i64 r4.1.2.2.2.2.2.1, .int .i64 r4.1.2.2.2.2.2.2.1, .int .i64 r4.1.2.2.2.2.2.2.2.1, .int .i64 r4.1.2.2.2.2.2.2.2.2] w7 := B4_6.drew.kept k7 (by omega)
      have B5_7 : Arr (w4.heap.size + 1) [.int .i64 0, .int .i64 0, .int .i64 0, .int .i64 0, .int .i64 0, .int .i64 0, .int .i64 0, .int .i64 0, .int .i64 0] w7 := B5_6.drew.kept k7 (by omega)
      have z7 := B5_7.lies
      clear hHeld
      refine hK.out _ _ ⟨B4_7, B3_7⟩ (fun hHeld => ?_)
      clear hK K K6 f6 B0_6 B1_6 B2_6 B3_6 B4_6 B5_6 k7
      refine take_at (i := 10) (v := ?v849) rfl (by kernel_rfl) (by kernel_rfl) (by kernel_rfl) (fun _ _ _ h => h) (Or.inl ⟨by rfl, ?y849⟩) hHeld ?t849
      case y849 => (intro wx hSw; go_simp <;> with_reducible rfl)
      simp only [Act.put, List.setIfInBounds_toArray, List.set_cons_zero, List.set_cons_succ]
      refine wpAnyH_done (by kernel_rfl) ?_ _
      clear hHeld
      go_wp2_with fail
      refine wp_region_held_drew (S := fun _ => True) (by kernel_rfl) trivial (fun hHeld => ?_)
      refine take_at (i := 0) (v := ?v850) rfl (by kernel_rfl) (by kernel_rfl) (by kernel_rfl) (fun _ _ _ h => h) (Or.inl ⟨by rfl, ?y850⟩) hHeld ?t850
      case y850 => (intro wx hSw; go_simp <;> with_reducible rfl)
      simp only [Act.put, List.setIfInBounds_toArray, List.set_cons_zero, List.set_cons_succ]
      refine take_at (i := 1) (v := ?v851) rfl (by kernel_rfl) (by kernel_rfl) (by kernel_rfl) (fun _ _ _ h => h) (Or.inl ⟨by rfl, ?y851⟩) hHeld ?t851
      case y851 => (intro wx hSw; go_simp <;> with_reducible rfl)
      simp only [Act.put, List.setIfInBounds_toArray, List.set_cons_zero, List.set_cons_succ]
      refine take_at (i := 2) (v := ?v852) rfl (by kernel_rfl) (by kernel_rfl) (by kernel_rfl) (fun _ _ _ h => h) (Or.inl ⟨by rfl, ?y852⟩) hHeld ?t852
      case y852 => (intro wx hSw; go_simp <;> with_reducible rfl)
      simp only [Act.put, List.setIfInBounds_toArray, List.set_cons_zero, List.set_cons_succ]
      refine take_at (i := 3) (v := ?v853) rfl (by kernel_rfl) (by kernel_rfl) (by kernel_rfl) (fun _ _ _ h => h) (Or.inl ⟨by rfl, ?y853⟩) hHeld ?t853
      case y853 => (intro wx hSw; go_simp <;> with_reducible rfl)
      simp only [Act.put, List.setIfInBounds_toArray, List.set_cons_zero, List.set_cons_succ]
      refine take_at (i := 4) (v := ?v854) rfl (by kernel_rfl) (by kernel_rfl) (by kernel_rfl) (fun _ _ _ h => h) (Or.inl ⟨by rfl, ?y854⟩) hHeld ?t854
      case y854 => (intro wx hSw; go_simp <;> with_reducible rfl)
      simp only [Act.put, List.setIfInBounds_toArray, List.set_cons_zero, List.set_cons_succ]
      refine take_at (i := 5) (v := ?v855) rfl (by kernel_rfl) (by kernel_rfl) (by kernel_rfl) (fun _ _ _ h => h) (Or.inl ⟨by rfl, ?y855⟩) hHeld ?t855
      case y855 => (intro wx hSw; go_simp <;> with_reducible rfl)
      simp only [Act.put, List.setIfInBounds_toArray, List.set_cons_zero, List.set_cons_succ]
      refine take_at (i := 7) (v := ?v856) rfl (by kernel_rfl) (by kernel_rfl) (by kernel_rfl) (fun _ _ _ h => h) (Or.inl ⟨by rfl, ?y856⟩) hHeld ?t856
      case y856 => (intro wx hSw; go_simp <;> with_reducible rfl)
      simp only [Act.put, List.setIfInBounds_toArray, List.set_cons_zero, List.set_cons_succ]
      refine take_at (i := 9) (v := ?v857) rfl (by kernel_rfl) (by kernel_rfl) (by kernel_rfl) (fun _ _ _ h => h) (Or.inl ⟨by rfl, ?y857⟩) hHeld ?t857
      case y857 => (intro wx hSw; go_simp <;> with_reducible rfl)
      simp only [Act.put, List.setIfInBounds_toArray, List.set_cons_zero, List.set_cons_succ]
      refine call_at (i := 6) (by kernel_rfl) rfl (fun K hK => ?_)
      go_simp
      refine (rAdd_any b r7.2 r5.1 r6.1 _ f7.drew).mono ?_
      rintro e w8 ⟨rfl, f8, k8⟩
      generalize e8 : addS r7.2 r5.1 r6.1 = r8 at f8 ⊢
      have E8 : Hid _ := e8
      clear e8
      have K8 : Kept b w w8 := Kept.trans K7.drew k8
      have B0_8 : Arr w.heap.size [.int .i64 p.1, .int .i64 p.2.1, .int .i64 p.2.2.1, .int .i64 p.2.2.2.1, .int .i64 p.2.2.2.2.1, .int .i64 p.2.2.2.2.2] w8 := B0_7.drew.kept k8 (by omega)
      have B1_8 : Arr (w.heap.size + 1) [.int .i64 q.1, .int .i64 q.2.1, .int .i64 q.2.2.1, .int .i64 q.2.2.2.1, .int .i64 q.2.2.2.2.1, .int .i64 q.2.2.2.2.2] w8 := B1_7.drew.kept k8 (by omega)
      have B2_8 : Arr (w.heap.size + 1 + 1) [.int .i64 0, .int .i64 0, .int .i64 0, .int .i64 0] w8 := B2_7.drew.kept k8 (by omega)
      have B3_8 : Arr w3.heap.size [.int .i64 r3.1.1, .int .i64 r3.1.2.1, .int .i64 r3.1.2.2.1, .int .i64 r3.1.2.2.2.1, .int .i64 r3.1.2.2.2.2.1, .int .i64 r3.1.2.2.2.2.2.1, .int .i64 r3.1.2.2.2.2.2.2.1, .int .i64 r3.1.2.2.2.2.2.2.2.1, .int .i64 r3.1.2.2.2.2.2.2.2.2] w8 := B3_7.drew.kept k8 (by omega)
      have B4_8 : Arr w4.heap.size [.int .i64 r4.1.1, .int .i64 r4.1.2.1, .int .i64 r4.1.2.2.1, .int .i64 r4.1.2.2.2.1, .int .i64 r4.1.2.2.2.2.1, .int .i64 r4.1.2.2.2.2.2.1, .int .i64 r4.1.2.2.2.2.2.2.1, .int .i64 r4.1.2.2.2.2.2.2.2.1, .int .i64 r4.1.2.2.2.2.2.2.2.2] w8 := B4_7.drew.kept k8 (by omega)
      have B5_8 : Arr (w4.heap.size + 1) [.int .i64 0, .int .i64 0, .int .i64 0, .int .i64 0, .int .i64 0, .int .i64 0, .int .i64 0, .int .i64 0, .int .i64 0] w8 := B5_7.drew.kept k8 (by omega)
      have z8 := B5_8.lies
      clear hHeld
      refine hK.out _ _ trivial (fun hHeld => ?_)
      clear hK K K7 f7 B0_7 B1_7 B2_7 B3_7 B4_7 B5_7 k8
      refine call_at (i := 8) (by kernel_rfl) rfl (fun K hK => ?_)
      go_simp
      refine (rAdd_any b r8.2 r8.1 r7.1 _ f8).mono ?_
      rintro e w9 ⟨rfl, f9, k9⟩
      generalize e9 : addS r8.2 r8.1 r7.1 = r9 at f9 ⊢
      have E9 : Hid _ := e9
      clear e9
      have K9 : Kept b w w9 := Kept.trans K8 k9
      have B0_9 : Arr w.heap.size [.int .i64 p.1, .int .i64 p.2.1, .int .i64 p.2.2.1, .int .i64 p.2.2.2.1, .int .i64 p.2.2.2.2.1, .int .i64 p.2.2.2.2.2] w9 := B0_8.kept k9 (by omega)
      have B1_9 : Arr (w.heap.size + 1) [.int .i64 q.1, .int .i64 q.2.1, .int .i64 q.2.2.1, .int .i64 q.2.2.2.1, .int .i64 q.2.2.2.2.1, .int .i64 q.2.2.2.2.2] w9 := B1_8.kept k9 (by omega)
      have B2_9 : Arr (w.heap.size + 1 + 1) [.int .i64 0, .int .i64 0, .int .i64 0, .int .i64 0] w9 := B2_8.kept k9 (by omega)
      have B3_9 : Arr w3.heap.size [.int .i64 r3.1.1, .int .i64 r3.1.2.1, .int .i64 r3.1.2.2.1, .int .i64 r3.1.2.2.2.1, .int .i64 r3.1.2.2.2.2.1, .int .i64 r3.1.2.2.2.2.2.1, .int .i64 r3.1.2.2.2.2.2.2.1, .int .i64 r3.1.2.2.2.2.2.2.2.1, .int .i64 r3.1.2.2.2.2.2.2.2.2] w9 := B3_8.kept k9 (by omega)
      have B4_9 : Arr w4.heap.size [.int .i64 r4.1.1, .int .i64 r4.1.2.1, .int .i64 r4.1.2.2.1, .int .i64 r4.1.2.2.2.1, .int .i64 r4.1.2.2.2.2.1, .int .i64 r4.1.2.2.2.2.2.1, .int .i64 r4.1.2.2.2.2.2.2.1, .int .i64 r4.1.2.2.2.2.2.2.2.1, .int .i64 r4.1.2.2.2.2.2.2.2.2] w9 := B4_8.kept k9 (by omega)
      have B5_9 : Arr (w4.heap.size + 1) [.int .i64 0, .int .i64 0, .int .i64 0, .int .i64 0, .int .i64 0, .int .i64 0, .int .i64 0, .int .i64 0, .int .i64 0] w9 := B5_8.kept k9 (by omega)
      have z9 := B5_9.lies
      clear hHeld
      refine hK.out _ _ trivial (fun hHeld => ?_)
      clear hK K K8 f8 B0_8 B1_8 B2_8 B3_8 B4_8 B5_8 k9
      refine take_at (i := 10) (v := ?v858) rfl (by kernel_rfl) (by kernel_rfl) (by kernel_rfl) (fun _ _ _ h => h) (Or.inl ⟨by rfl, ?y858⟩) hHeld ?t858
      case y858 => (intro wx hSw; go_simp <;> with_reducible rfl)
      simp only [Act.put, List.setIfInBounds_toArray, List.set_cons_zero, List.set_cons_succ]
      refine call_at (i := 11) (by kernel_rfl) rfl (fun K hK => ?_)
      have c11_B5_0 : w9.cell? ⟨w4.heap.size + 1, 0, none⟩ = some (.int .i64 0) := B5_9.c 0 (of_decide_eq_true rfl)
      have g11_B5_0 := B5_9.f 0 (of_decide_eq_true rfl)
      go_simp
      clear hHeld
      refine hK.out _ _ trivial (fun hHeld => ?_)
      clear hK K c11_B5_0 g11_B5_0
      refine wpAnyH_done (by kernel_rfl) ?_ _
      clear hHeld
      have P9 : Hid (zlS r4.2 r4.1.1 r3.1.1 r4.1.2.2.2.1 r3.1.2.2.2.1 r4.1.2.2.2.2.2.2.1 r3.1.2.2.2.2.2.2.1 = r9) := by show _ = _; unfold zlS; simp only [E5.out, E6.out, E7.out, E8.out, E9.out]
      clear E5 E6 E7 E8 E9
      go_wp2_with fail
      refine rounds_letter (S := fun w' => Kept b w w' ∧ Fl b r9.2 w' ∧ Arr w.heap.size [.int .i64 p.1, .int .i64 p.2.1, .int .i64 p.2.2.1, .int .i64 p.2.2.2.1, .int .i64 p.2.2.2.2.1, .int .i64 p.2.2.2.2.2] w' ∧ Arr (w.heap.size + 1) [.int .i64 q.1, .int .i64 q.2.1, .int .i64 q.2.2.1, .int .i64 q.2.2.2.1, .int .i64 q.2.2.2.2.1, .int .i64 q.2.2.2.2.2] w' ∧ Arr (w.heap.size + 1 + 1) [.int .i64 0, .int .i64 0, .int .i64 0, .int .i64 0] w' ∧ Arr w3.heap.size [.int .i64 r3.1.1, .int .i64 r3.1.2.1, .int .i64 r3.1.2.2.1, .int .i64 r3.1.2.2.2.1, .int .i64 r3.1.2.2.2.2.1, .int .i64 r3.1.2.2.2.2.2.1, .int .i64 r3.1.2.2.2.2.2.2.1, .int .i64 r3.1.2.2.2.2.2.2.2.1, .int .i64 r3.1.2.2.2.2.2.2.2.2] w' ∧ Arr w4.heap.size [.int .i64 r4.1.1, .int .i64 r4.1.2.1, .int .i64 r4.1.2.2.1, .int .i64 r4.1.2.2.2.1, .int .i64 r4.1.2.2.2.2.1, .int .i64 r4.1.2.2.2.2.2.1, .int .i64 r4.1.2.2.2.2.2.2.1, .int .i64 r4.1.2.2.2.2.2.2.2.1, .int .i64 r4.1.2.2.2.2.2.2.2.2] w' ∧ Arr (w4.heap.size + 1) [.int .i64 r9.1, .int .i64 0, .int .i64 0, .int .i64 0, .int .i64 0, .int .i64 0, .int .i64 0, .int .i64 0, .int .i64 0] w') ⟨(K9.new _ _ (by omega) _), (f9.new (w4.heap.size + 1) 0 (by omega) (.int .i64 r9.1)), (B0_9.new (w4.heap.size + 1) 0 (by omega) (.int .i64 r9.1)), (B1_9.new (w4.heap.size + 1) 0 (by omega) (.int .i64 r9.1)), (B2_9.new (w4.heap.size + 1) 0 (by omega) (.int .i64 r9.1)), (B3_9.new (w4.heap.size + 1) 0 (by omega) (.int .i64 r9.1)), (B4_9.new (w4.heap.size + 1) 0 (by omega) (.int .i64 r9.1)), (B5_9.put 0 (of_decide_eq_true rfl) (.int .i64 r9.1) [.int .i64 r9.1, .int .i64 0, .int .i64 0, .int .i64 0, .int .i64 0, .int .i64 0, .int .i64 0, .int .i64 0, .int .i64 0] rfl)⟩ ?_
      rintro w10 ⟨K10, BF_10, B0_10, B1_10, B2_10, B3_10, B4_10, B5_10⟩
      have z10 := B5_10.lies
      clear K9 f9 B0_9 B1_9 B2_9 B3_9 B4_9 B5_9
      rw [rounds_succ]
      go_wp2_with fail
      refine wp_region_held_drew (S := fun w' => Arr w4.heap.size [.int .i64 r4.1.1, .int .i64 r4.1.2.1, .int .i64 r4.1.2.2.1, .int .i64 r4.1.2.2.2.1, .int .i64 r4.1.2.2.2.2.1, .int .i64 r4.1.2.2.2.2.2.1, .int .i64 r4.1.2.2.2.2.2.2.1, .int .i64 r4.1.2.2.2.2.2.2.2.1, .int .i64 r4.1.2.2.2.2.2.2.2.2] w' ∧ Arr w3.heap.size [.int .i64 r3.1.1, .int .i64 r3.1.2.1, .int .i64 r3.1.2.2.1, .int .i64 r3.1.2.2.2.1, .int .i64 r3.1.2.2.2.2.1, .int .i64 r3.1.2.2.2.2.2.1, .int .i64 r3.1.2.2.2.2.2.2.1, .int .i64 r3.1.2.2.2.2.2.2.2.1, .int .i64 r3.1.2.2.2.2.2.2.2.2] w') (by kernel_rfl) ⟨B4_10.drew, B3_10.drew⟩ (fun hHeld => ?_)
      refine take_at (i := 0) (v := ?v859) rfl (by kernel_rfl) (by kernel_rfl) (by kernel_rfl) (fun _ _ _ h => h) (Or.inl ⟨by rfl, ?y859⟩) hHeld ?t859
      case y859 => (intro wx hSw; go_simp <;> with_reducible rfl)
      simp only [Act.put, List.setIfInBounds_toArray, List.set_cons_zero, List.set_cons_succ]
      refine take_at (i := 1) (v := ?v860) rfl (by kernel_rfl) (by kernel_rfl) (by kernel_rfl) (fun _ _ _ h => h) (Or.inl ⟨by rfl, ?y860⟩) hHeld ?t860
      case y860 => (intro wx hSw; go_simp <;> with_reducible rfl)
      simp only [Act.put, List.setIfInBounds_toArray, List.set_cons_zero, List.set_cons_succ]
      refine take_at (i := 2) (v := ?v861) rfl (by kernel_rfl) (by kernel_rfl) (by kernel_rfl) (fun _ _ _ h => h) (Or.inl ⟨by rfl, ?y861⟩) hHeld ?t861
      case y861 => (intro wx hSw; go_simp <;> with_reducible rfl)
      simp only [Act.put, List.setIfInBounds_toArray, List.set_cons_zero, List.set_cons_succ]
      refine take_at (i := 3) (v := ?v862) rfl (by kernel_rfl) (by kernel_rfl) (by kernel_rfl) (fun _ _ _ h => h) (Or.inl ⟨by rfl, ?y862⟩) hHeld ?t862
      case y862 => (intro wx hSw; go_simp <;> with_reducible rfl)
      simp only [Act.put, List.setIfInBounds_toArray, List.set_cons_zero, List.set_cons_succ]
      refine take_at (i := 4) (v := ?v863) rfl (by kernel_rfl) (by kernel_rfl) (by kernel_rfl) (fun _ _ _ h => h) (Or.inl ⟨by rfl, ?y863⟩) hHeld ?t863
      case y863 => (intro wx hSw; have hc0 : wx.cell? ⟨w4.heap.size, 0, none⟩ = some (.int .i64 r4.1.1) := hSw.1.c 0 (of_decide_eq_true rfl); go_simp <;> with_reducible rfl)
      simp only [Act.put, List.setIfInBounds_toArray, List.set_cons_zero, List.set_cons_succ]
      refine take_at (i := 5) (v := ?v864) rfl (by kernel_rfl) (by kernel_rfl) (by kernel_rfl) (fun _ _ _ h => h) (Or.inl ⟨by rfl, ?y864⟩) hHeld ?t864
      case y864 => (intro wx hSw; go_simp <;> with_reducible rfl)
      simp only [Act.put, List.setIfInBounds_toArray, List.set_cons_zero, List.set_cons_succ]
      refine take_at (i := 6) (v := ?v865) rfl (by kernel_rfl) (by kernel_rfl) (by kernel_rfl) (fun _ _ _ h => h) (Or.inl ⟨by rfl, ?y865⟩) hHeld ?t865
      case y865 => (intro wx hSw; go_simp <;> with_reducible rfl)
      simp only [Act.put, List.setIfInBounds_toArray, List.set_cons_zero, List.set_cons_succ]
      refine take_at (i := 7) (v := ?v866) rfl (by kernel_rfl) (by kernel_rfl) (by kernel_rfl) (fun _ _ _ h => h) (Or.inl ⟨by rfl, ?y866⟩) hHeld ?t866
      case y866 => (intro wx hSw; go_simp <;> with_reducible rfl)
      simp only [Act.put, List.setIfInBounds_toArray, List.set_cons_zero, List.set_cons_succ]
      refine take_at (i := 8) (v := ?v867) rfl (by kernel_rfl) (by kernel_rfl) (by kernel_rfl) (fun _ _ _ h => h) (Or.inl ⟨by rfl, ?y867⟩) hHeld ?t867
      case y867 => (intro wx hSw; have hc1 : wx.cell? ⟨w3.heap.size, 1, none⟩ = some (.int .i64 r3.1.2.1) := hSw.2.c 1 (of_decide_eq_true rfl); go_simp <;> with_reducible rfl)
      simp only [Act.put, List.setIfInBounds_toArray, List.set_cons_zero, List.set_cons_succ]
      refine call_at (i := 9) (by kernel_rfl) rfl (fun K hK => ?_)
      go_simp
      refine (rMul_any b r9.2 r4.1.1 r3.1.2.1 _ BF_10.drew).mono ?_
      rintro e w11 ⟨rfl, f11, k11⟩
      generalize e11 : mulS r9.2 r4.1.1 r3.1.2.1 = r11 at f11 ⊢
      have E11 : Hid _ := e11
      clear e11
      have K11 : Kept b w w11 := Kept.trans K10.drew k11
      have B0_11 : Arr w.heap.size [.int .i64 p.1, .int .i64 p.2.1, .int .i64 p.2.2.1, .int .i64 p.2.2.2.1, .int .i64 p.2.2.2.2.1, .int .i64 p.2.2.2.2.2] w11 := B0_10.drew.kept k11 (by omega)
      have B1_11 : Arr (w.heap.size + 1) [.int .i64 q.1, .int .i64 q.2.1, .int .i64 q.2.2.1, .int .i64 q.2.2.2.1, .int .i64 q.2.2.2.2.1, .int .i64 q.2.2.2.2.2] w11 := B1_10.drew.kept k11 (by omega)
      have B2_11 : Arr (w.heap.size + 1 + 1) [.int .i64 0, .int .i64 0, .int .i64 0, .int .i64 0] w11 := B2_10.drew.kept k11 (by omega)
      have B3_11 : Arr w3.heap.size [.int .i64 r3.1.1, .int .i64 r3.1.2.1, .int .i64 r3.1.2.2.1, .int .i64 r3.1.2.2.2.1, .int .i64 r3.1.2.2.2.2.1, .int .i64 r3.1.2.2.2.2.2.1, .int .i64 r3.1.2.2.2.2.2.2.1, .int .i64 r3.1.2.2.2.2.2.2.2.1, .int .i64 r3.1.2.2.2.2.2.2.2.2] w11 := B3_10.drew.kept k11 (by omega)
      have B4_11 : Arr w4.heap.size [.int .i64 r4.1.1, .int .i64 r4.1.2.1, .int .i64 r4.1.2.2.1, .int .i64 r4.1.2.2.2.1, .int .i64 r4.1.2.2.2.2.1, .int .i64 r4.1.2.2.2.2.2.1, .int .i64 r4.1.2.2.2.2.2.2.1, .int .i64 r4.1.2.2.2.2.2.2.2.1, .int .i64 r4.1.2.2.2.2.2.2.2.2] w11 := B4_10.drew.kept k11 (by omega)
      have B5_11 : Arr (w4.heap.size + 1) [.int .i64 r9.1, .int .i64 0, .int .i64 0, .int .i64 0, .int .i64 0, .int .i64 0, .int .i64 0, .int .i64 0, .int .i64 0] w11 := B5_10.drew.kept k11 (by omega)
      have z11 := B5_11.lies
      clear hHeld
      refine hK.out _ _ ⟨B4_11, B3_11⟩ (fun hHeld => ?_)
      clear hK K K10 BF_10 B0_10 B1_10 B2_10 B3_10 B4_10 B5_10 k11
      refine take_at (i := 10) (v := ?v868) rfl (by kernel_rfl) (by kernel_rfl) (by kernel_rfl) (fun _ _ _ h => h) (Or.inl ⟨by rfl, ?y868⟩) hHeld ?t868
      case y868 => (intro wx hSw; go_simp <;> with_reducible rfl)
      simp only [Act.put, List.setIfInBounds_toArray, List.set_cons_zero, List.set_cons_succ]
      refine wpAnyH_done (by kernel_rfl) ?_ _
      clear hHeld
      go_wp2_with fail
      refine wp_region_held_drew (S := fun w' => Arr w4.heap.size [.int .i64 r4.1.1, .int .i64 r4.1.2.1, .int .i64 r4.1.2.2.1, .int .i64 r4.1.2.2.2.1, .int .i64 r4.1.2.2.2.2.1, .int .i64 r4.1.2.2.2.2.2.1, .int .i64 r4.1.2.2.2.2.2.2.1, .int .i64 r4.1.2.2.2.2.2.2.2.1, .int .i64 r4.1.2.2.2.2.2.2.2.2] w' ∧ Arr w3.heap.size [.int .i64 r3.1.1, .int .i64 r3.1.2.1, .int .i64 r3.1.2.2.1, .int .i64 r3.1.2.2.2.1, .int .i64 r3.1.2.2.2.2.1, .int .i64 r3.1.2.2.2.2.2.1, .int .i64 r3.1.2.2.2.2.2.2.1, .int .i64 r3.1.2.2.2.2.2.2.2.1, .int .i64 r3.1.2.2.2.2.2.2.2.2] w') (by kernel_rfl) ⟨B4_11.drew, B3_11.drew⟩ (fun hHeld => ?_)
      refine take_at (i := 0) (v := ?v869) rfl (by kernel_rfl) (by kernel_rfl) (by kernel_rfl) (fun _ _ _ h => h) (Or.inl ⟨by rfl, ?y869⟩) hHeld ?t869
      case y869 => (intro wx hSw; go_simp <;> with_reducible rfl)
      simp only [Act.put, List.setIfInBounds_toArray, List.set_cons_zero, List.set_cons_succ]
      refine take_at (i := 1) (v := ?v870) rfl (by kernel_rfl) (by kernel_rfl) (by kernel_rfl) (fun _ _ _ h => h) (Or.inl ⟨by rfl, ?y870⟩) hHeld ?t870
      case y870 => (intro wx hSw; go_simp <;> with_reducible rfl)
      simp only [Act.put, List.setIfInBounds_toArray, List.set_cons_zero, List.set_cons_succ]
      refine take_at (i := 2) (v := ?v871) rfl (by kernel_rfl) (by kernel_rfl) (by kernel_rfl) (fun _ _ _ h => h) (Or.inl ⟨by rfl, ?y871⟩) hHeld ?t871
      case y871 => (intro wx hSw; go_simp <;> with_reducible rfl)
      simp only [Act.put, List.setIfInBounds_toArray, List.set_cons_zero, List.set_cons_succ]
      refine take_at (i := 3) (v := ?v872) rfl (by kernel_rfl) (by kernel_rfl) (by kernel_rfl) (fun _ _ _ h => h) (Or.inl ⟨by rfl, ?y872⟩) hHeld ?t872
      case y872 => (intro wx hSw; go_simp <;> with_reducible rfl)
      simp only [Act.put, List.setIfInBounds_toArray, List.set_cons_zero, List.set_cons_succ]
      refine take_at (i := 4) (v := ?v873) rfl (by kernel_rfl) (by kernel_rfl) (by kernel_rfl) (fun _ _ _ h => h) (Or.inl ⟨by rfl, ?y873⟩) hHeld ?t873
      case y873 => (intro wx hSw; have hc3 : wx.cell? ⟨w4.heap.size, 3, none⟩ = some (.int .i64 r4.1.2.2.2.1) := hSw.1.c 3 (of_decide_eq_true rfl); go_simp <;> with_reducible rfl)
      simp only [Act.put, List.setIfInBounds_toArray, List.set_cons_zero, List.set_cons_succ]
      refine take_at (i := 5) (v := ?v874) rfl (by kernel_rfl) (by kernel_rfl) (by kernel_rfl) (fun _ _ _ h => h) (Or.inl ⟨by rfl, ?y874⟩) hHeld ?t874
      case y874 => (intro wx hSw; go_simp <;> with_reducible rfl)
      simp only [Act.put, List.setIfInBounds_toArray, List.set_cons_zero, List.set_cons_succ]
      refine take_at (i := 6) (v := ?v875) rfl (by kernel_rfl) (by kernel_rfl) (by kernel_rfl) (fun _ _ _ h => h) (Or.inl ⟨by rfl, ?y875⟩) hHeld ?t875
      case y875 => (intro wx hSw; go_simp <;> with_reducible rfl)
      simp only [Act.put, List.setIfInBounds_toArray, List.set_cons_zero, List.set_cons_succ]
      refine take_at (i := 7) (v := ?v876) rfl (by kernel_rfl) (by kernel_rfl) (by kernel_rfl) (fun _ _ _ h => h) (Or.inl ⟨by rfl, ?y876⟩) hHeld ?t876
      case y876 => (intro wx hSw; go_simp <;> with_reducible rfl)
      simp only [Act.put, List.setIfInBounds_toArray, List.set_cons_zero, List.set_cons_succ]
      refine take_at (i := 8) (v := ?v877) rfl (by kernel_rfl) (by kernel_rfl) (by kernel_rfl) (fun _ _ _ h => h) (Or.inl ⟨by rfl, ?y877⟩) hHeld ?t877
      case y877 => (intro wx hSw; have hc4 : wx.cell? ⟨w3.heap.size, 4, none⟩ = some (.int .i64 r3.1.2.2.2.2.1) := hSw.2.c 4 (of_decide_eq_true rfl); go_simp <;> with_reducible rfl)
      simp only [Act.put, List.setIfInBounds_toArray, List.set_cons_zero, List.set_cons_succ]
      refine call_at (i := 9) (by kernel_rfl) rfl (fun K hK => ?_)
      go_simp
      refine (rMul_any b r11.2 r4.1.2.2.2.1 r3.1.2.2.2.2.1 _ f11.drew).mono ?_
      rintro e w12 ⟨rfl, f12, k12⟩
      generalize e12 : mulS r11.2 r4.1.2.2.2.1 r3.1.2.2.2.2.1 = r12 at f12 ⊢
      have E12 : Hid _ := e12
      clear e12
      have K12 : Kept b w w12 := Kept.trans K11.drew k12
      have B0_12 : Arr w.heap.size [.int .i64 p.1, .int .i64 p.2.1, .int .i64 p.2.2.1, .int .i64 p.2.2.2.1, .int .i64 p.2.2.2.2.1, .int .i64 p.2.2.2.2.2] w12 := B0_11.drew.kept k12 (by omega)
      have B1_12 : Arr (w.heap.size + 1) [.int .i64 q.1, .int .i64 q.2.1, .int .i64 q.2.2.1, .int .i64 q.2.2.2.1, .int .i64 q.2.2.2.2.1, .int .i64 q.2.2.2.2.2] w12 := B1_11.drew.kept k12 (by omega)
      have B2_12 : Arr (w.heap.size + 1 + 1) [.int .i64 0, .int .i64 0, .int .i64 0, .int .i64 0] w12 := B2_11.drew.kept k12 (by omega)
      have B3_12 : Arr w3.heap.size [.int .i64 r3.1.1, .int .i64 r3.1.2.1, .int .i64 r3.1.2.2.1, .int .i64 r3.1.2.2.2.1, .int .i64 r3.1.2.2.2.2.1, .int .i64 r3.1.2.2.2.2.2.1, .int .i64 r3.1.2.2.2.2.2.2.1, .int .i64 r3.1.2.2.2.2.2.2.2.1, .int .i64 r3.1.2.2.2.2.2.2.2.2] w12 := B3_11.drew.kept k12 (by omega)
      have B4_12 : Arr w4.heap.size [.int .i64 r4.1.1, .int .i64 r4.1.2.1, .int .i64 r4.1.2.2.1, .int .i64 r4.1.2.2.2.1, .int .i64 r4.1.2.2.2.2.1, .int .i64 r4.1.2.2.2.2.2.1, .int .i64 r4.1.2.2.2.2.2.2.1, .int .i64 r4.1.2.2.2.2.2.2.2.1, .int .i64 r4.1.2.2.2.2.2.2.2.2] w12 := B4_11.drew.kept k12 (by omega)
      have B5_12 : Arr (w4.heap.size + 1) [.int .i64 r9.1, .int .i64 0, .int .i64 0, .int .i64 0, .int .i64 0, .int .i64 0, .int .i64 0, .int .i64 0, .int .i64 0] w12 := B5_11.drew.kept k12 (by omega)
      have z12 := B5_12.lies
      clear hHeld
      refine hK.out _ _ ⟨B4_12, B3_12⟩ (fun hHeld => ?_)
      clear hK K K11 f11 B0_11 B1_11 B2_11 B3_11 B4_11 B5_11 k12
      refine take_at (i := 10) (v := ?v878) rfl (by kernel_rfl) (by kernel_rfl) (by kernel_rfl) (fun _ _ _ h => h) (Or.inl ⟨by rfl, ?y878⟩) hHeld ?t878
      case y878 => (intro wx hSw; go_simp <;> with_reducible rfl)
      simp only [Act.put, List.setIfInBounds_toArray, List.set_cons_zero, List.set_cons_succ]
      refine wpAnyH_done (by kernel_rfl) ?_ _
      clear hHeld
      go_wp2_with fail
      refine wp_region_held_drew (S := fun w' => Arr w4.heap.size [.int .i64 r4.1.1, .int .i64 r4.1.2.1, .int .i64 r4.1.2.2.1, .int .i64 r4.1.2.2.2.1, .int .i64 r4.1.2.2.2.2.1, .int .i64 r4.1.2.2.2.2.2.1, .int .i64 r4.1.2.2.2.2.2.2.1, .int .i64 r4.1.2.2.2.2.2.2.2.1, .int .i64 r4.1.2.2.2.2.2.2.2.2] w' ∧ Arr w3.heap.size [.int .i64 r3.1.1, .int .i64 r3.1.2.1, .int .i64 r3.1.2.2.1, .int .i64 r3.1.2.2.2.1, .int .i64 r3.1.2.2.2.2.1, .int .i64 r3.1.2.2.2.2.2.1, .int .i64 r3.1.2.2.2.2.2.2.1, .int .i64 r3.1.2.2.2.2.2.2.2.1, .int .i64 r3.1.2.2.2.2.2.2.2.2] w') (by kernel_rfl) ⟨B4_12.drew, B3_12.drew⟩ (fun hHeld => ?_)
      refine take_at (i := 0) (v := ?v879) rfl (by kernel_rfl) (by kernel_rfl) (by kernel_rfl) (fun _ _ _ h => h) (Or.inl ⟨by rfl, ?y879⟩) hHeld ?t879
      case y879 => (intro wx hSw; go_simp <;> with_reducible rfl)
      simp only [Act.put, List.setIfInBounds_toArray, List.set_cons_zero, List.set_cons_succ]
      refine take_at (i := 1) (v := ?v880) rfl (by kernel_rfl) (by kernel_rfl) (by kernel_rfl) (fun _ _ _ h => h) (Or.inl ⟨by rfl, ?y880⟩) hHeld ?t880
      case y880 => (intro wx hSw; go_simp <;> with_reducible rfl)
      simp only [Act.put, List.setIfInBounds_toArray, List.set_cons_zero, List.set_cons_succ]
      refine take_at (i := 2) (v := ?v881) rfl (by kernel_rfl) (by kernel_rfl) (by kernel_rfl) (fun _ _ _ h => h) (Or.inl ⟨by rfl, ?y881⟩) hHeld ?t881
      case y881 => (intro wx hSw; go_simp <;> with_reducible rfl)
      simp only [Act.put, List.setIfInBounds_toArray, List.set_cons_zero, List.set_cons_succ]
      refine take_at (i := 3) (v := ?v882) rfl (by kernel_rfl) (by kernel_rfl) (by kernel_rfl) (fun _ _ _ h => h) (Or.inl ⟨by rfl, ?y882⟩) hHeld ?t882
      case y882 => (intro wx hSw; go_simp <;> with_reducible rfl)
      simp only [Act.put, List.setIfInBounds_toArray, List.set_cons_zero, List.set_cons_succ]
      refine take_at (i := 4) (v := ?v883) rfl (by kernel_rfl) (by kernel_rfl) (by kernel_rfl) (fun _ _ _ h => h) (Or.inl ⟨by rfl, ?y883⟩) hHeld ?t883
      case y883 => (intro wx hSw; have hc6 : wx.cell? ⟨w4.heap.size, 6, none⟩ = some (.int .i64 r4.1.2.2.2.2.2.2.1) := hSw.1.c 6 (of_decide_eq_true rfl); go_simp <;> with_reducible rfl)
      simp only [Act.put, List.setIfInBounds_toArray, List.set_cons_zero, List.set_cons_succ]
      refine take_at (i := 5) (v := ?v884) rfl (by kernel_rfl) (by kernel_rfl) (by kernel_rfl) (fun _ _ _ h => h) (Or.inl ⟨by rfl, ?y884⟩) hHeld ?t884
      case y884 => (intro wx hSw; go_simp <;> with_reducible rfl)
      simp only [Act.put, List.setIfInBounds_toArray, List.set_cons_zero, List.set_cons_succ]
      refine take_at (i := 6) (v := ?v885) rfl (by kernel_rfl) (by kernel_rfl) (by kernel_rfl) (fun _ _ _ h => h) (Or.inl ⟨by rfl, ?y885⟩) hHeld ?t885
      case y885 => (intro wx hSw; go_simp <;> with_reducible rfl)
      simp only [Act.put, List.setIfInBounds_toArray, List.set_cons_zero, List.set_cons_succ]
      refine take_at (i := 7) (v := ?v886) rfl (by kernel_rfl) (by kernel_rfl) (by kernel_rfl) (fun _ _ _ h => h) (Or.inl ⟨by rfl, ?y886⟩) hHeld ?t886
      case y886 => (intro wx hSw; go_simp <;> with_reducible rfl)
      simp only [Act.put, List.setIfInBounds_toArray, List.set_cons_zero, List.set_cons_succ]
      refine take_at (i := 8) (v := ?v887) rfl (by kernel_rfl) (by kernel_rfl) (by kernel_rfl) (fun _ _ _ h => h) (Or.inl ⟨by rfl, ?y887⟩) hHeld ?t887
      case y887 => (intro wx hSw; have hc7 : wx.cell? ⟨w3.heap.size, 7, none⟩ = some (.int .i64 r3.1.2.2.2.2.2.2.2.1) := hSw.2.c 7 (of_decide_eq_true rfl); go_simp <;> with_reducible rfl)
      simp only [Act.put, List.setIfInBounds_toArray, List.set_cons_zero, List.set_cons_succ]
      refine call_at (i := 9) (by kernel_rfl) rfl (fun K hK => ?_)
      go_simp
      refine (rMul_any b r12.2 r4.1.2.2.2.2.2.2.1 r3.1.2.2.2.2.2.2.2.1 _ f12.drew).mono ?_
      rintro e w13 ⟨rfl, f13, k13⟩
      generalize e13 : mulS r12.2 r4.1.2.2.2.2.2.2.1 r3.1.2.2.2.2.2.2.2.1 = r13 at f13 ⊢
      have E13 : Hid _ := e13
      clear e13
      have K13 : Kept b w w13 := Kept.trans K12.drew k13
      have B0_13 : Arr w.heap.size [.int .i64 p.1, .int .i64 p.2.1, .int .i64 p.2.2.1, .int .i64 p.2.2.2.1, .int .i64 p.2.2.2.2.1, .int .i64 p.2.2.2.2.2] w13 := B0_12.drew.kept k13 (by omega)
      have B1_13 : Arr (w.heap.size + 1) [.int .i64 q.1, .int .i64 q.2.1, .int .i64 q.2.2.1, .int .i64 q.2.2.2.1, .int .i64 q.2.2.2.2.1, .int .i64 q.2.2.2.2.2] w13 := B1_12.drew.kept k13 (by omega)
      have B2_13 : Arr (w.heap.size + 1 + 1) [.int .i64 0, .int .i64 0, .int .i64 0, .int .i64 0] w13 := B2_12.drew.kept k13 (by omega)
      have B3_13 : Arr w3.heap.size [.int .i64 r3.1.1, .int .i64 r3.1.2.1, .int .i64 r3.1.2.2.1, .int .i64 r3.1.2.2.2.1, .int .i64 r3.1.2.2.2.2.1, .int .i64 r3.1.2.2.2.2.2.1, .int .i64 r3.1.2.2.2.2.2.2.1, .int .i64 r3.1.2.2.2.2.2.2.2.1, .int .i64 r3.1.2.2.2.2.2.2.2.2] w13 := B3_12.drew.kept k13 (by omega)
      have B4_13 : Arr w4.heap.size [.int .i64 r4.1.1, .int .i64 r4.1.2.1, .int .i64 r4.1.2.2.1, .int .i64 r4.1.2.2.2.1, .int .i64 r4.1.2.2.2.2.1, .int .i64 r4.1.2.2.2.2.2.1, .int .i64 r4.1.2.2.2.2.2.2.1, .int .i64 r4.1.2.2.2.2.2.2.2.1, .int .i64 r4.1.2.2.2.2.2.2.2.2] w13 := B4_12.drew.kept k13 (by omega)
      have B5_13 : Arr (w4.heap.size + 1) [.int .i64 r9.1, .int .i64 0, .int .i64 0, .int .i64 0, .int .i64 0, .int .i64 0, .int .i64 0, .int .i64 0, .int .i64 0] w13 := B5_12.drew.kept k13 (by omega)
      have z13 := B5_13.lies
      clear hHeld
      refine hK.out _ _ ⟨B4_13, B3_13⟩ (fun hHeld => ?_)
      clear hK K K12 f12 B0_12 B1_12 B2_12 B3_12 B4_12 B5_12 k13
      refine take_at (i := 10) (v := ?v888) rfl (by kernel_rfl) (by kernel_rfl) (by kernel_rfl) (fun _ _ _ h => h) (Or.inl ⟨by rfl, ?y888⟩) hHeld ?t888
      case y888 => (intro wx hSw; go_simp <;> with_reducible rfl)
      simp only [Act.put, List.setIfInBounds_toArray, List.set_cons_zero, List.set_cons_succ]
      refine wpAnyH_done (by kernel_rfl) ?_ _
      clear hHeld
      go_wp2_with fail
      refine wp_region_held_drew (S := fun _ => True) (by kernel_rfl) trivial (fun hHeld => ?_)
      refine take_at (i := 0) (v := ?v889) rfl (by kernel_rfl) (by kernel_rfl) (by kernel_rfl) (fun _ _ _ h => h) (Or.inl ⟨by rfl, ?y889⟩) hHeld ?t889
      case y889 => (intro wx hSw; go_simp <;> with_reducible rfl)
      simp only [Act.put, List.setIfInBounds_toArray, List.set_cons_zero, List.set_cons_succ]
      refine take_at (i := 1) (v := ?v890) rfl (by kernel_rfl) (by kernel_rfl) (by kernel_rfl) (fun _ _ _ h => h) (Or.inl ⟨by rfl, ?y890⟩) hHeld ?t890
      case y890 => (intro wx hSw; go_simp <;> with_reducible rfl)
      simp only [Act.put, List.setIfInBounds_toArray, List.set_cons_zero, List.set_cons_succ]
      refine take_at (i := 2) (v := ?v891) rfl (by kernel_rfl) (by kernel_rfl) (by kernel_rfl) (fun _ _ _ h => h) (Or.inl ⟨by rfl, ?y891⟩) hHeld ?t891
      case y891 => (intro wx hSw; go_simp <;> with_reducible rfl)
      simp only [Act.put, List.setIfInBounds_toArray, List.set_cons_zero, List.set_cons_succ]
      refine take_at (i := 3) (v := ?v892) rfl (by kernel_rfl) (by kernel_rfl) (by kernel_rfl) (fun _ _ _ h => h) (Or.inl ⟨by rfl, ?y892⟩) hHeld ?t892
      case y892 => (intro wx hSw; go_simp <;> with_reducible rfl)
      simp only [Act.put, List.setIfInBounds_toArray, List.set_cons_zero, List.set_cons_succ]
      refine take_at (i := 4) (v := ?v893) rfl (by kernel_rfl) (by kernel_rfl) (by kernel_rfl) (fun _ _ _ h => h) (Or.inl ⟨by rfl, ?y893⟩) hHeld ?t893
      case y893 => (intro wx hSw; go_simp <;> with_reducible rfl)
      simp only [Act.put, List.setIfInBounds_toArray, List.set_cons_zero, List.set_cons_succ]
      refine take_at (i := 5) (v := ?v894) rfl (by kernel_rfl) (by kernel_rfl) (by kernel_rfl) (fun _ _ _ h => h) (Or.inl ⟨by rfl, ?y894⟩) hHeld ?t894
      case y894 => (intro wx hSw; go_simp <;> with_reducible rfl)
      simp only [Act.put, List.setIfInBounds_toArray, List.set_cons_zero, List.set_cons_succ]
      refine take_at (i := 7) (v := ?v895) rfl (by kernel_rfl) (by kernel_rfl) (by kernel_rfl) (fun _ _ _ h => h) (Or.inl ⟨by rfl, ?y895⟩) hHeld ?t895
      case y895 => (intro wx hSw; go_simp <;> with_reducible rfl)
      simp only [Act.put, List.setIfInBounds_toArray, List.set_cons_zero, List.set_cons_succ]
      refine take_at (i := 9) (v := ?v896) rfl (by kernel_rfl) (by kernel_rfl) (by kernel_rfl) (fun _ _ _ h => h) (Or.inl ⟨by rfl, ?y896⟩) hHeld ?t896
      case y896 => (intro wx hSw; go_simp <;> with_reducible rfl)
      simp only [Act.put, List.setIfInBounds_toArray, List.set_cons_zero, List.set_cons_succ]
      refine call_at (i := 6) (by kernel_rfl) rfl (fun K hK => ?_)
      go_simp
      refine (rAdd_any b r13.2 r11.1 r12.1 _ f13.drew).mono ?_
      rintro e w14 ⟨rfl, f14, k14⟩
      generalize e14 : addS r13.2 r11.1 r12.1 = r14 at f14 ⊢
      have E14 : Hid _ := e14
      clear e14
      have K14 : Kept b w w14 := Kept.trans K13.drew k14
      have B0_14 : Arr w.heap.size [.int .i64 p.1, .int .i64 p.2.1, .int .i64 p.2.2.1, .int .i64 p.2.2.2.1, .int .i64 p.2.2.2.2.1, .int .i64 p.2.2.2.2.2] w14 := B0_13.drew.kept k14 (by omega)
      have B1_14 : Arr (w.heap.size + 1) [.int .i64 q.1, .int .i64 q.2.1, .int .i64 q.2.2.1, .int .i64 q.2.2.2.1, .int .i64 q.2.2.2.2.1, .int .i64 q.2.2.2.2.2] w14 := B1_13.drew.kept k14 (by omega)
      have B2_14 : Arr (w.heap.size + 1 + 1) [.int .i64 0, .int .i64 0, .int .i64 0, .int .i64 0] w14 := B2_13.drew.kept k14 (by omega)
      have B3_14 : Arr w3.heap.size [.int .i64 r3.1.1, .int .i64 r3.1.2.1, .int .i64 r3.1.2.2.1, .int .i64 r3.1.2.2.2.1, .int .i64 r3.1.2.2.2.2.1, .int .i64 r3.1.2.2.2.2.2.1, .int .i64 r3.1.2.2.2.2.2.2.1, .int .i64 r3.1.2.2.2.2.2.2.2.1, .int .i64 r3.1.2.2.2.2.2.2.2.2] w14 := B3_13.drew.kept k14 (by omega)
      have B4_14 : Arr w4.heap.size [.int .i64 r4.1.1, .int .i64 r4.1.2.1, .int .i64 r4.1.2.2.1, .int .i64 r4.1.2.2.2.1, .int .i64 r4.1.2.2.2.2.1, .int .i64 r4.1.2.2.2.2.2.1, .int .i64 r4.1.2.2.2.2.2.2.1, .int .i64 r4.1.2.2.2.2.2.2.2.1, .int .i64 r4.1.2.2.2.2.2.2.2.2] w14 := B4_13.drew.kept k14 (by omega)
      have B5_14 : Arr (w4.heap.size + 1) [.int .i64 r9.1, .int .i64 0, .int .i64 0, .int .i64 0, .int .i64 0, .int .i64 0, .int .i64 0, .int .i64 0, .int .i64 0] w14 := B5_13.drew.kept k14 (by omega)
      have z14 := B5_14.lies
      clear hHeld
      refine hK.out _ _ trivial (fun hHeld => ?_)
      clear hK K K13 f13 B0_13 B1_13 B2_13 B3_13 B4_13 B5_13 k14
      refine call_at (i := 8) (by kernel_rfl) rfl (fun K hK => ?_)
      go_simp
      refine (rAdd_any b r14.2 r14.1 r13.1 _ f14).mono ?_
      rintro e w15 ⟨rfl, f15, k15⟩
      generalize e15 : addS r14.2 r14.1 r13.1 = r15 at f15 ⊢
      have E15 : Hid _ := e15
      clear e15
      have K15 : Kept b w w15 := Kept.trans K14 k15
      have B0_15 : Arr w.heap.size [.int .i64 p.1, .int .i64 p.2.1, .int .i64 p.2.2.1, .int .i64 p.2.2.2.1, .int .i64 p.2.2.2.2.1, .int .i64 p.2.2.2.2.2] w15 := B0_14.kept k15 (by omega)
      have B1_15 : Arr (w.heap.size + 1) [.int .i64 q.1, .int .i64 q.2.1, .int .i64 q.2.2.1, .int .i64 q.2.2.2.1, .int .i64 q.2.2.2.2.1, .int .i64 q.2.2.2.2.2] w15 := B1_14.kept k15 (by omega)
      have B2_15 : Arr (w.heap.size + 1 + 1) [.int .i64 0, .int .i64 0, .int .i64 0, .int .i64 0] w15 := B2_14.kept k15 (by omega)
      have B3_15 : Arr w3.heap.size [.int .i64 r3.1.1, .int .i64 r3.1.2.1, .int .i64 r3.1.2.2.1, .int .i64 r3.1.2.2.2.1, .int .i64 r3.1.2.2.2.2.1, .int .i64 r3.1.2.2.2.2.2.1, .int .i64 r3.1.2.2.2.2.2.2.1, .int .i64 r3.1.2.2.2.2.2.2.2.1, .int .i64 r3.1.2.2.2.2.2.2.2.2] w15 := B3_14.kept k15 (by omega)
      have B4_15 : Arr w4.heap.size [.int .i64 r4.1.1, .int .i64 r4.1.2.1, .int .i64 r4.1.2.2.1, .int .i64 r4.1.2.2.2.1, .int .i64 r4.1.2.2.2.2.1, .int .i64 r4.1.2.2.2.2.2.1, .int .i64 r4.1.2.2.2.2.2.2.1, .int .i64 r4.1.2.2.2.2.2.2.2.1, .int .i64 r4.1.2.2.2.2.2.2.2.2] w15 := B4_14.kept k15 (by omega)
      have B5_15 : Arr (w4.heap.size + 1) [.int .i64 r9.1, .int .i64 0, .int .i64 0, .int .i64 0, .int .i64 0, .int .i64 0, .int .i64 0, .int .i64 0, .int .i64 0] w15 := B5_14.kept k15 (by omega)
      have z15 := B5_15.lies
      clear hHeld
      refine hK.out _ _ trivial (fun hHeld => ?_)
      clear hK K K14 f14 B0_14 B1_14 B2_14 B3_14 B4_14 B5_14 k15
      refine take_at (i := 10) (v := ?v897) rfl (by kernel_rfl) (by kernel_rfl) (by kernel_rfl) (fun _ _ _ h => h) (Or.inl ⟨by rfl, ?y897⟩) hHeld ?t897
      case y897 => (intro wx hSw; go_simp <;> with_reducible rfl)
      simp only [Act.put, List.setIfInBounds_toArray, List.set_cons_zero, List.set_cons_succ]
      refine call_at (i := 11) (by kernel_rfl) rfl (fun K hK => ?_)
      have c17_B5_1 : w15.cell? ⟨w4.heap.size + 1, 1, none⟩ = some (.int .i64 0) := B5_15.c 1 (of_decide_eq_true rfl)
      have g17_B5_1 := B5_15.f 1 (of_decide_eq_true rfl)
      go_simp
      clear hHeld
      refine hK.out _ _ trivial (fun hHeld => ?_)
      clear hK K c17_B5_1 g17_B5_1
      refine wpAnyH_done (by kernel_rfl) ?_ _
      clear hHeld
      have P15 : Hid (zlS r9.2 r4.1.1 r3.1.2.1 r4.1.2.2.2.1 r3.1.2.2.2.2.1 r4.1.2.2.2.2.2.2.1 r3.1.2.2.2.2.2.2.2.1 = r15) := by show _ = _; unfold zlS; simp only [E11.out, E12.out, E13.out, E14.out, E15.out]
      clear E11 E12 E13 E14 E15
      go_wp2_with fail
      refine rounds_letter (S := fun w' => Kept b w w' ∧ Fl b r15.2 w' ∧ Arr w.heap.size [.int .i64 p.1, .int .i64 p.2.1, .int .i64 p.2.2.1, .int .i64 p.2.2.2.1, .int .i64 p.2.2.2.2.1, .int .i64 p.2.2.2.2.2] w' ∧ Arr (w.heap.size + 1) [.int .i64 q.1, .int .i64 q.2.1, .int .i64 q.2.2.1, .int .i64 q.2.2.2.1, .int .i64 q.2.2.2.2.1, .int .i64 q.2.2.2.2.2] w' ∧ Arr (w.heap.size + 1 + 1) [.int .i64 0, .int .i64 0, .int .i64 0, .int .i64 0] w' ∧ Arr w3.heap.size [.int .i64 r3.1.1, .int .i64 r3.1.2.1, .int .i64 r3.1.2.2.1, .int .i64 r3.1.2.2.2.1, .int .i64 r3.1.2.2.2.2.1, .int .i64 r3.1.2.2.2.2.2.1, .int .i64 r3.1.2.2.2.2.2.2.1, .int .i64 r3.1.2.2.2.2.2.2.2.1, .int .i64 r3.1.2.2.2.2.2.2.2.2] w' ∧ Arr w4.heap.size [.int .i64 r4.1.1, .int .i64 r4.1.2.1, .int .i64 r4.1.2.2.1, .int .i64 r4.1.2.2.2.1, .int .i64 r4.1.2.2.2.2.1, .int .i64 r4.1.2.2.2.2.2.1, .int .i64 r4.1.2.2.2.2.2.2.1, .int .i64 r4.1.2.2.2.2.2.2.2.1, .int .i64 r4.1.2.2.2.2.2.2.2.2] w' ∧ Arr (w4.heap.size + 1) [.int .i64 r9.1, .int .i64 r15.1, .int .i64 0, .int .i64 0, .int .i64 0, .int .i64 0, .int .i64 0, .int .i64 0, .int .i64 0] w') ⟨(K15.new _ _ (by omega) _), (f15.new (w4.heap.size + 1) 1 (by omega) (.int .i64 r15.1)), (B0_15.new (w4.heap.size + 1) 1 (by omega) (.int .i64 r15.1)), (B1_15.new (w4.heap.size + 1) 1 (by omega) (.int .i64 r15.1)), (B2_15.new (w4.heap.size + 1) 1 (by omega) (.int .i64 r15.1)), (B3_15.new (w4.heap.size + 1) 1 (by omega) (.int .i64 r15.1)), (B4_15.new (w4.heap.size + 1) 1 (by omega) (.int .i64 r15.1)), (B5_15.put 1 (of_decide_eq_true rfl) (.int .i64 r15.1) [.int .i64 r9.1, .int .i64 r15.1, .int .i64 0, .int .i64 0, .int .i64 0, .int .i64 0, .int .i64 0, .int .i64 0, .int .i64 0] rfl)⟩ ?_
      rintro w16 ⟨K16, BF_16, B0_16, B1_16, B2_16, B3_16, B4_16, B5_16⟩
      have z16 := B5_16.lies
      clear K15 f15 B0_15 B1_15 B2_15 B3_15 B4_15 B5_15
      rw [rounds_succ]
      go_wp2_with fail
      refine wp_region_held_drew (S := fun w' => Arr w4.heap.size [.int .i64 r4.1.1, .int .i64 r4.1.2.1, .int .i64 r4.1.2.2.1, .int .i64 r4.1.2.2.2.1, .int .i64 r4.1.2.2.2.2.1, .int .i64 r4.1.2.2.2.2.2.1, .int .i64 r4.1.2.2.2.2.2.2.1, .int .i64 r4.1.2.2.2.2.2.2.2.1, .int .i64 r4.1.2.2.2.2.2.2.2.2] w' ∧ Arr w3.heap.size [.int .i64 r3.1.1, .int .i64 r3.1.2.1, .int .i64 r3.1.2.2.1, .int .i64 r3.1.2.2.2.1, .int .i64 r3.1.2.2.2.2.1, .int .i64 r3.1.2.2.2.2.2.1, .int .i64 r3.1.2.2.2.2.2.2.1, .int .i64 r3.1.2.2.2.2.2.2.2.1, .int .i64 r3.1.2.2.2.2.2.2.2.2] w') (by kernel_rfl) ⟨B4_16.drew, B3_16.drew⟩ (fun hHeld => ?_)
      refine take_at (i := 0) (v := ?v898) rfl (by kernel_rfl) (by kernel_rfl) (by kernel_rfl) (fun _ _ _ h => h) (Or.inl ⟨by rfl, ?y898⟩) hHeld ?t898
      case y898 => (intro wx hSw; go_simp <;> with_reducible rfl)
      simp only [Act.put, List.setIfInBounds_toArray, List.set_cons_zero, List.set_cons_succ]
      refine take_at (i := 1) (v := ?v899) rfl (by kernel_rfl) (by kernel_rfl) (by kernel_rfl) (fun _ _ _ h => h) (Or.inl ⟨by rfl, ?y899⟩) hHeld ?t899
      case y899 => (intro wx hSw; go_simp <;> with_reducible rfl)
      simp only [Act.put, List.setIfInBounds_toArray, List.set_cons_zero, List.set_cons_succ]
      refine take_at (i := 2) (v := ?v900) rfl (by kernel_rfl) (by kernel_rfl) (by kernel_rfl) (fun _ _ _ h => h) (Or.inl ⟨by rfl, ?y900⟩) hHeld ?t900
      case y900 => (intro wx hSw; go_simp <;> with_reducible rfl)
      simp only [Act.put, List.setIfInBounds_toArray, List.set_cons_zero, List.set_cons_succ]
      refine take_at (i := 3) (v := ?v901) rfl (by kernel_rfl) (by kernel_rfl) (by kernel_rfl) (fun _ _ _ h => h) (Or.inl ⟨by rfl, ?y901⟩) hHeld ?t901
      case y901 => (intro wx hSw; go_simp <;> with_reducible rfl)
      simp only [Act.put, List.setIfInBounds_toArray, List.set_cons_zero, List.set_cons_succ]
      refine take_at (i := 4) (v := ?v902) rfl (by kernel_rfl) (by kernel_rfl) (by kernel_rfl) (fun _ _ _ h => h) (Or.inl ⟨by rfl, ?y902⟩) hHeld ?t902
      case y902 => (intro wx hSw; have hc0 : wx.cell? ⟨w4.heap.size, 0, none⟩ = some (.int .i64 r4.1.1) := hSw.1.c 0 (of_decide_eq_true rfl); go_simp <;> with_reducible rfl)
      simp only [Act.put, List.setIfInBounds_toArray, List.set_cons_zero, List.set_cons_succ]
      refine take_at (i := 5) (v := ?v903) rfl (by kernel_rfl) (by kernel_rfl) (by kernel_rfl) (fun _ _ _ h => h) (Or.inl ⟨by rfl, ?y903⟩) hHeld ?t903
      case y903 => (intro wx hSw; go_simp <;> with_reducible rfl)
      simp only [Act.put, List.setIfInBounds_toArray, List.set_cons_zero, List.set_cons_succ]
      refine take_at (i := 6) (v := ?v904) rfl (by kernel_rfl) (by kernel_rfl) (by kernel_rfl) (fun _ _ _ h => h) (Or.inl ⟨by rfl, ?y904⟩) hHeld ?t904
      case y904 => (intro wx hSw; go_simp <;> with_reducible rfl)
      simp only [Act.put, List.setIfInBounds_toArray, List.set_cons_zero, List.set_cons_succ]
      refine take_at (i := 7) (v := ?v905) rfl (by kernel_rfl) (by kernel_rfl) (by kernel_rfl) (fun _ _ _ h => h) (Or.inl ⟨by rfl, ?y905⟩) hHeld ?t905
      case y905 => (intro wx hSw; go_simp <;> with_reducible rfl)
      simp only [Act.put, List.setIfInBounds_toArray, List.set_cons_zero, List.set_cons_succ]
      refine take_at (i := 8) (v := ?v906) rfl (by kernel_rfl) (by kernel_rfl) (by kernel_rfl) (fun _ _ _ h => h) (Or.inl ⟨by rfl, ?y906⟩) hHeld ?t906
      case y906 => (intro wx hSw; have hc2 : wx.cell? ⟨w3.heap.size, 2, none⟩ = some (.int .i64 r3.1.2.2.1) := hSw.2.c 2 (of_decide_eq_true rfl); go_simp <;> with_reducible rfl)
      simp only [Act.put, List.setIfInBounds_toArray, List.set_cons_zero, List.set_cons_succ]
      refine call_at (i := 9) (by kernel_rfl) rfl (fun K hK => ?_)
      go_simp
      refine (rMul_any b r15.2 r4.1.1 r3.1.2.2.1 _ BF_16.drew).mono ?_
      rintro e w17 ⟨rfl, f17, k17⟩
      generalize e17 : mulS r15.2 r4.1.1 r3.1.2.2.1 = r17 at f17 ⊢
      have E17 : Hid _ := e17
      clear e17
      have K17 : Kept b w w17 := Kept.trans K16.drew k17
      have B0_17 : Arr w.heap.size [.int .i64 p.1, .int .i64 p.2.1, .int .i64 p.2.2.1, .int .i64 p.2.2.2.1, .int .i64 p.2.2.2.2.1, .int .i64 p.2.2.2.2.2] w17 := B0_16.drew.kept k17 (by omega)
      have B1_17 : Arr (w.heap.size + 1) [.int .i64 q.1, .int .i64 q.2.1, .int .i64 q.2.2.1, .int .i64 q.2.2.2.1, .int .i64 q.2.2.2.2.1, .int .i64 q.2.2.2.2.2] w17 := B1_16.drew.kept k17 (by omega)
      have B2_17 : Arr (w.heap.size + 1 + 1) [.int .i64 0, .int .i64 0, .int .i64 0, .int .i64 0] w17 := B2_16.drew.kept k17 (by omega)
      have B3_17 : Arr w3.heap.size [.int .i64 r3.1.1, .int .i64 r3.1.2.1, .int .i64 r3.1.2.2.1, .int .i64 r3.1.2.2.2.1, .int .i64 r3.1.2.2.2.2.1, .int .i64 r3.1.2.2.2.2.2.1, .int .i64 r3.1.2.2.2.2.2.2.1, .int .i64 r3.1.2.2.2.2.2.2.2.1, .int .i64 r3.1.2.2.2.2.2.2.2.2] w17 := B3_16.drew.kept k17 (by omega)
      have B4_17 : Arr w4.heap.size [.int .i64 r4.1.1, .int .i64 r4.1.2.1, .int .i64 r4.1.2.2.1, .int .i64 r4.1.2.2.2.1, .int .i64 r4.1.2.2.2.2.1, .int .i64 r4.1.2.2.2.2.2.1, .int .i64 r4.1.2.2.2.2.2.2.1, .int .i64 r4.1.2.2.2.2.2.2.2.1, .int .i64 r4.1.2.2.2.2.2.2.2.2] w17 := B4_16.drew.kept k17 (by omega)
      have B5_17 : Arr (w4.heap.size + 1) [.int .i64 r9.1, .int .i64 r15.1, .int .i64 0, .int .i64 0, .int .i64 0, .int .i64 0, .int .i64 0, .int .i64 0, .int .i64 0] w17 := B5_16.drew.kept k17 (by omega)
      have z17 := B5_17.lies
      clear hHeld
      refine hK.out _ _ ⟨B4_17, B3_17⟩ (fun hHeld => ?_)
      clear hK K K16 BF_16 B0_16 B1_16 B2_16 B3_16 B4_16 B5_16 k17
      refine take_at (i := 10) (v := ?v907) rfl (by kernel_rfl) (by kernel_rfl) (by kernel_rfl) (fun _ _ _ h => h) (Or.inl ⟨by rfl, ?y907⟩) hHeld ?t907
      case y907 => (intro wx hSw; go_simp <;> with_reducible rfl)
      simp only [Act.put, List.setIfInBounds_toArray, List.set_cons_zero, List.set_cons_succ]
      refine wpAnyH_done (by kernel_rfl) ?_ _
      clear hHeld
      go_wp2_with fail
      refine wp_region_held_drew (S := fun w' => Arr w4.heap.size [.int .i64 r4.1.1, .int .i64 r4.1.2.1, .int .i64 r4.1.2.2.1, .int .i64 r4.1.2.2.2.1, .int .i64 r4.1.2.2.2.2.1, .int .i64 r4.1.2.2.2.2.2.1, .int .i64 r4.1.2.2.2.2.2.2.1, .int .i64 r4.1.2.2.2.2.2.2.2.1, .int .i64 r4.1.2.2.2.2.2.2.2.2] w' ∧ Arr w3.heap.size [.int .i64 r3.1.1, .int .i64 r3.1.2.1, .int .i64 r3.1.2.2.1, .int .i64 r3.1.2.2.2.1, .int .i64 r3.1.2.2.2.2.1, .int .i64 r3.1.2.2.2.2.2.1, .int .i64 r3.1.2.2.2.2.2.2.1, .int .i64 r3.1.2.2.2.2.2.2.2.1, .int .i64 r3.1.2.2.2.2.2.2.2.2] w') (by kernel_rfl) ⟨B4_17.drew, B3_17.drew⟩ (fun hHeld => ?_)
      refine take_at (i := 0) (v := ?v908) rfl (by kernel_rfl) (by kernel_rfl) (by kernel_rfl) (fun _ _ _ h => h) (Or.inl ⟨by rfl, ?y908⟩) hHeld ?t908
      case y908 => (intro wx hSw; go_simp <;> with_reducible rfl)
      simp only [Act.put, List.setIfInBounds_toArray, List.set_cons_zero, List.set_cons_succ]
      refine take_at (i := 1) (v := ?v909) rfl (by kernel_rfl) (by kernel_rfl) (by kernel_rfl) (fun _ _ _ h => h) (Or.inl ⟨by rfl, ?y909⟩) hHeld ?t909
      case y909 => (intro wx hSw; go_simp <;> with_reducible rfl)
      simp only [Act.put, List.setIfInBounds_toArray, List.set_cons_zero, List.set_cons_succ]
      refine take_at (i := 2) (v := ?v910) rfl (by kernel_rfl) (by kernel_rfl) (by kernel_rfl) (fun _ _ _ h => h) (Or.inl ⟨by rfl, ?y910⟩) hHeld ?t910
      case y910 => (intro wx hSw; go_simp <;> with_reducible rfl)
      simp only [Act.put, List.setIfInBounds_toArray, List.set_cons_zero, List.set_cons_succ]
      refine take_at (i := 3) (v := ?v911) rfl (by kernel_rfl) (by kernel_rfl) (by kernel_rfl) (fun _ _ _ h => h) (Or.inl ⟨by rfl, ?y911⟩) hHeld ?t911
      case y911 => (intro wx hSw; go_simp <;> with_reducible rfl)
      simp only [Act.put, List.setIfInBounds_toArray, List.set_cons_zero, List.set_cons_succ]
      refine take_at (i := 4) (v := ?v912) rfl (by kernel_rfl) (by kernel_rfl) (by kernel_rfl) (fun _ _ _ h => h) (Or.inl ⟨by rfl, ?y912⟩) hHeld ?t912
      case y912 => (intro wx hSw; have hc3 : wx.cell? ⟨w4.heap.size, 3, none⟩ = some (.int .i64 r4.1.2.2.2.1) := hSw.1.c 3 (of_decide_eq_true rfl); go_simp <;> with_reducible rfl)
      simp only [Act.put, List.setIfInBounds_toArray, List.set_cons_zero, List.set_cons_succ]
      refine take_at (i := 5) (v := ?v913) rfl (by kernel_rfl) (by kernel_rfl) (by kernel_rfl) (fun _ _ _ h => h) (Or.inl ⟨by rfl, ?y913⟩) hHeld ?t913
      case y913 => (intro wx hSw; go_simp <;> with_reducible rfl)
      simp only [Act.put, List.setIfInBounds_toArray, List.set_cons_zero, List.set_cons_succ]
      refine take_at (i := 6) (v := ?v914) rfl (by kernel_rfl) (by kernel_rfl) (by kernel_rfl) (fun _ _ _ h => h) (Or.inl ⟨by rfl, ?y914⟩) hHeld ?t914
      case y914 => (intro wx hSw; go_simp <;> with_reducible rfl)
      simp only [Act.put, List.setIfInBounds_toArray, List.set_cons_zero, List.set_cons_succ]
      refine take_at (i := 7) (v := ?v915) rfl (by kernel_rfl) (by kernel_rfl) (by kernel_rfl) (fun _ _ _ h => h) (Or.inl ⟨by rfl, ?y915⟩) hHeld ?t915
      case y915 => (intro wx hSw; go_simp <;> with_reducible rfl)
      simp only [Act.put, List.setIfInBounds_toArray, List.set_cons_zero, List.set_cons_succ]
      refine take_at (i := 8) (v := ?v916) rfl (by kernel_rfl) (by kernel_rfl) (by kernel_rfl) (fun _ _ _ h => h) (Or.inl ⟨by rfl, ?y916⟩) hHeld ?t916
      case y916 => (intro wx hSw; have hc5 : wx.cell? ⟨w3.heap.size, 5, none⟩ = some (.int .i64 r3.1.2.2.2.2.2.1) := hSw.2.c 5 (of_decide_eq_true rfl); go_simp <;> with_reducible rfl)
      simp only [Act.put, List.setIfInBounds_toArray, List.set_cons_zero, List.set_cons_succ]
      refine call_at (i := 9) (by kernel_rfl) rfl (fun K hK => ?_)
      go_simp
      refine (rMul_any b r17.2 r4.1.2.2.2.1 r3.1.2.2.2.2.2.1 _ f17.drew).mono ?_
      rintro e w18 ⟨rfl, f18, k18⟩
      generalize e18 : mulS r17.2 r4.1.2.2.2.1 r3.1.2.2.2.2.2.1 = r18 at f18 ⊢
      have E18 : Hid _ := e18
      clear e18
      have K18 : Kept b w w18 := Kept.trans K17.drew k18
      have B0_18 : Arr w.heap.size [.int .i64 p.1, .int .i64 p.2.1, .int .i64 p.2.2.1, .int .i64 p.2.2.2.1, .int .i64 p.2.2.2.2.1, .int .i64 p.2.2.2.2.2] w18 := B0_17.drew.kept k18 (by omega)
      have B1_18 : Arr (w.heap.size + 1) [.int .i64 q.1, .int .i64 q.2.1, .int .i64 q.2.2.1, .int .i64 q.2.2.2.1, .int .i64 q.2.2.2.2.1, .int .i64 q.2.2.2.2.2] w18 := B1_17.drew.kept k18 (by omega)
      have B2_18 : Arr (w.heap.size + 1 + 1) [.int .i64 0, .int .i64 0, .int .i64 0, .int .i64 0] w18 := B2_17.drew.kept k18 (by omega)
      have B3_18 : Arr w3.heap.size [.int .i64 r3.1.1, .int .i64 r3.1.2.1, .int .i64 r3.1.2.2.1, .int .i64 r3.1.2.2.2.1, .int .i64 r3.1.2.2.2.2.1, .int .i64 r3.1.2.2.2.2.2.1, .int .i64 r3.1.2.2.2.2.2.2.1, .int .i64 r3.1.2.2.2.2.2.2.2.1, .int .i64 r3.1.2.2.2.2.2.2.2.2] w18 := B3_17.drew.kept k18 (by omega)
      have B4_18 : Arr w4.heap.size [.int .i64 r4.1.1, .int .i64 r4.1.2.1, .int .i64 r4.1.2.2.1, .int .i64 r4.1.2.2.2.1, .int .i64 r4.1.2.2.2.2.1, .int .i64 r4.1.2.2.2.2.2.1, .int .i64 r4.1.2.2.2.2.2.2.1, .int .i64 r4.1.2.2.2.2.2.2.2.1, .int .i64 r4.1.2.2.2.2.2.2.2.2] w18 := B4_17.drew.kept k18 (by omega)
      have B5_18 : Arr (w4.heap.size + 1) [.int .i64 r9.1, .int .i64 r15.1, .int .i64 0, .int .i64 0, .int .i64 0, .int .i64 0, .int .i64 0, .int .i64 0, .int .i64 0] w18 := B5_17.drew.kept k18 (by omega)
      have z18 := B5_18.lies
      clear hHeld
      refine hK.out _ _ ⟨B4_18, B3_18⟩ (fun hHeld => ?_)
      clear hK K K17 f17 B0_17 B1_17 B2_17 B3_17 B4_17 B5_17 k18
      refine take_at (i := 10) (v := ?v917) rfl (by kernel_rfl) (by kernel_rfl) (by kernel_rfl) (fun _ _ _ h => h) (Or.inl ⟨by rfl, ?y917⟩) hHeld ?t917
      case y917 => (intro wx hSw; go_simp <;> with_reducible rfl)
      simp only [Act.put, List.setIfInBounds_toArray, List.set_cons_zero, List.set_cons_succ]
      refine wpAnyH_done (by kernel_rfl) ?_ _
      clear hHeld
      go_wp2_with fail
      refine wp_region_held_drew (S := fun w' => Arr w4.heap.size [.int .i64 r4.1.1, .int .i64 r4.1.2.1, .int .i64 r4.1.2.2.1, .int .i64 r4.1.2.2.2.1, .int .i64 r4.1.2.2.2.2.1, .int .i64 r4.1.2.2.2.2.2.1, .int .i64 r4.1.2.2.2.2.2.2.1, .int .i64 r4.1.2.2.2.2.2.2.2.1, .int .i64 r4.1.2.2.2.2.2.2.2.2] w' ∧ Arr w3.heap.size [.int .i64 r3.1.1, .int .i64 r3.1.2.1, .int .i64 r3.1.2.2.1, .int .i64 r3.1.2.2.2.1, .int .i64 r3.1.2.2.2.2.1, .int .i64 r3.1.2.2.2.2.2.1, .int .i64 r3.1.2.2.2.2.2.2.1, .int .i64 r3.1.2.2.2.2.2.2.2.1, .int .i64 r3.1.2.2.2.2.2.2.2.2] w') (by kernel_rfl) ⟨B4_18.drew, B3_18.drew⟩ (fun hHeld => ?_)
      refine take_at (i := 0) (v := ?v918) rfl (by kernel_rfl) (by kernel_rfl) (by kernel_rfl) (fun _ _ _ h => h) (Or.inl ⟨by rfl, ?y918⟩) hHeld ?t918
      case y918 => (intro wx hSw; go_simp <;> with_reducible rfl)
      simp only [Act.put, List.setIfInBounds_toArray, List.set_cons_zero, List.set_cons_succ]
      refine take_at (i := 1) (v := ?v919) rfl (by kernel_rfl) (by kernel_rfl) (by kernel_rfl) (fun _ _ _ h => h) (Or.inl ⟨by rfl, ?y919⟩) hHeld ?t919
      case y919 => (intro wx hSw; go_simp <;> with_reducible rfl)
      simp only [Act.put, List.setIfInBounds_toArray, List.set_cons_zero, List.set_cons_succ]
      refine take_at (i := 2) (v := ?v920) rfl (by kernel_rfl) (by kernel_rfl) (by kernel_rfl) (fun _ _ _ h => h) (Or.inl ⟨by rfl, ?y920⟩) hHeld ?t920
      case y920 => (intro wx hSw; go_simp <;> with_reducible rfl)
      simp only [Act.put, List.setIfInBounds_toArray, List.set_cons_zero, List.set_cons_succ]
      refine take_at (i := 3) (v := ?v921) rfl (by kernel_rfl) (by kernel_rfl) (by kernel_rfl) (fun _ _ _ h => h) (Or.inl ⟨by rfl, ?y921⟩) hHeld ?t921
      case y921 => (intro wx hSw; go_simp <;> with_reducible rfl)
      simp only [Act.put, List.setIfInBounds_toArray, List.set_cons_zero, List.set_cons_succ]
      refine take_at (i := 4) (v := ?v922) rfl (by kernel_rfl) (by kernel_rfl) (by kernel_rfl) (fun _ _ _ h => h) (Or.inl ⟨by rfl, ?y922⟩) hHeld ?t922
      case y922 => (intro wx hSw; have hc6 : wx.cell? ⟨w4.heap.size, 6, none⟩ = some (.int .i64 r4.1.2.2.2.2.2.2.1) := hSw.1.c 6 (of_decide_eq_true rfl); go_simp <;> with_reducible rfl)
      simp only [Act.put, List.setIfInBounds_toArray, List.set_cons_zero, List.set_cons_succ]
      refine take_at (i := 5) (v := ?v923) rfl (by kernel_rfl) (by kernel_rfl) (by kernel_rfl) (fun _ _ _ h => h) (Or.inl ⟨by rfl, ?y923⟩) hHeld ?t923
      case y923 => (intro wx hSw; go_simp <;> with_reducible rfl)
      simp only [Act.put, List.setIfInBounds_toArray, List.set_cons_zero, List.set_cons_succ]
      refine take_at (i := 6) (v := ?v924) rfl (by kernel_rfl) (by kernel_rfl) (by kernel_rfl) (fun _ _ _ h => h) (Or.inl ⟨by rfl, ?y924⟩) hHeld ?t924
      case y924 => (intro wx hSw; go_simp <;> with_reducible rfl)
      simp only [Act.put, List.setIfInBounds_toArray, List.set_cons_zero, List.set_cons_succ]
      refine take_at (i := 7) (v := ?v925) rfl (by kernel_rfl) (by kernel_rfl) (by kernel_rfl) (fun _ _ _ h => h) (Or.inl ⟨by rfl, ?y925⟩) hHeld ?t925
      case y925 => (intro wx hSw; go_simp <;> with_reducible rfl)
      simp only [Act.put, List.setIfInBounds_toArray, List.set_cons_zero, List.set_cons_succ]
      refine take_at (i := 8) (v := ?v926) rfl (by kernel_rfl) (by kernel_rfl) (by kernel_rfl) (fun _ _ _ h => h) (Or.inl ⟨by rfl, ?y926⟩) hHeld ?t926
      case y926 => (intro wx hSw; have hc8 : wx.cell? ⟨w3.heap.size, 8, none⟩ = some (.int .i64 r3.1.2.2.2.2.2.2.2.2) := hSw.2.c 8 (of_decide_eq_true rfl); go_simp <;> with_reducible rfl)
      simp only [Act.put, List.setIfInBounds_toArray, List.set_cons_zero, List.set_cons_succ]
      refine call_at (i := 9) (by kernel_rfl) rfl (fun K hK => ?_)
      go_simp
      refine (rMul_any b r18.2 r4.1.2.2.2.2.2.2.1 r3.1.2.2.2.2.2.2.2.2 _ f18.drew).mono ?_
      rintro e w19 ⟨rfl, f19, k19⟩
      generalize e19 : mulS r18.2 r4.1.2.2.2.2.2.2.1 r3.1.2.2.2.2.2.2.2.2 = r19 at f19 ⊢
      have E19 : Hid _ := e19
      clear e19
      have K19 : Kept b w w19 := Kept.trans K18.drew k19
      have B0_19 : Arr w.heap.size [.int .i64 p.1, .int .i64 p.2.1, .int .i64 p.2.2.1, .int .i64 p.2.2.2.1, .int .i64 p.2.2.2.2.1, .int .i64 p.2.2.2.2.2] w19 := B0_18.drew.kept k19 (by omega)
      have B1_19 : Arr (w.heap.size + 1) [.int .i64 q.1, .int .i64 q.2.1, .int .i64 q.2.2.1, .int .i64 q.2.2.2.1, .int .i64 q.2.2.2.2.1, .int .i64 q.2.2.2.2.2] w19 := B1_18.drew.kept k19 (by omega)
      have B2_19 : Arr (w.heap.size + 1 + 1) [.int .i64 0, .int .i64 0, .int .i64 0, .int .i64 0] w19 := B2_18.drew.kept k19 (by omega)
      have B3_19 : Arr w3.heap.size [.int .i64 r3.1.1, .int .i64 r3.1.2.1, .int .i64 r3.1.2.2.1, .int .i64 r3.1.2.2.2.1, .int .i64 r3.1.2.2.2.2.1, .int .i64 r3.1.2.2.2.2.2.1, .int .i64 r3.1.2.2.2.2.2.2.1, .int .i64 r3.1.2.2.2.2.2.2.2.1, .int .i64 r3.1.2.2.2.2.2.2.2.2] w19 := B3_18.drew.kept k19 (by omega)
      have B4_19 : Arr w4.heap.size [.int .i64 r4.1.1, .int .i64 r4.1.2.1, .int .i64 r4.1.2.2.1, .int .i64 r4.1.2.2.2.1, .int .i64 r4.1.2.2.2.2.1, .int .i64 r4.1.2.2.2.2.2.1, .int .i64 r4.1.2.2.2.2.2.2.1, .int .i64 r4.1.2.2.2.2.2.2.2.1, .int .i64 r4.1.2.2.2.2.2.2.2.2] w19 := B4_18.drew.kept k19 (by omega)
      have B5_19 : Arr (w4.heap.size + 1) [.int .i64 r9.1, .int .i64 r15.1, .int .i64 0, .int .i64 0, .int .i64 0, .int .i64 0, .int .i64 0, .int .i64 0, .int .i64 0] w19 := B5_18.drew.kept k19 (by omega)
      have z19 := B5_19.lies
      clear hHeld
      refine hK.out _ _ ⟨B4_19, B3_19⟩ (fun hHeld => ?_)
      clear hK K K18 f18 B0_18 B1_18 B2_18 B3_18 B4_18 B5_18 k19
      refine take_at (i := 10) (v := ?v927) rfl (by kernel_rfl) (by kernel_rfl) (by kernel_rfl) (fun _ _ _ h => h) (Or.inl ⟨by rfl, ?y927⟩) hHeld ?t927
      case y927 => (intro wx hSw; go_simp <;> with_reducible rfl)
      simp only [Act.put, List.setIfInBounds_toArray, List.set_cons_zero, List.set_cons_succ]
      refine wpAnyH_done (by kernel_rfl) ?_ _
      clear hHeld
      go_wp2_with fail
      refine wp_region_held_drew (S := fun _ => True) (by kernel_rfl) trivial (fun hHeld => ?_)
      refine take_at (i := 0) (v := ?v928) rfl (by kernel_rfl) (by kernel_rfl) (by kernel_rfl) (fun _ _ _ h => h) (Or.inl ⟨by rfl, ?y928⟩) hHeld ?t928
      case y928 => (intro wx hSw; go_simp <;> with_reducible rfl)
      simp only [Act.put, List.setIfInBounds_toArray, List.set_cons_zero, List.set_cons_succ]
      refine take_at (i := 1) (v := ?v929) rfl (by kernel_rfl) (by kernel_rfl) (by kernel_rfl) (fun _ _ _ h => h) (Or.inl ⟨by rfl, ?y929⟩) hHeld ?t929
      case y929 => (intro wx hSw; go_simp <;> with_reducible rfl)
      simp only [Act.put, List.setIfInBounds_toArray, List.set_cons_zero, List.set_cons_succ]
      refine take_at (i := 2) (v := ?v930) rfl (by kernel_rfl) (by kernel_rfl) (by kernel_rfl) (fun _ _ _ h => h) (Or.inl ⟨by rfl, ?y930⟩) hHeld ?t930
      case y930 => (intro wx hSw; go_simp <;> with_reducible rfl)
      simp only [Act.put, List.setIfInBounds_toArray, List.set_cons_zero, List.set_cons_succ]
      refine take_at (i := 3) (v := ?v931) rfl (by kernel_rfl) (by kernel_rfl) (by kernel_rfl) (fun _ _ _ h => h) (Or.inl ⟨by rfl, ?y931⟩) hHeld ?t931
      case y931 => (intro wx hSw; go_simp <;> with_reducible rfl)
      simp only [Act.put, List.setIfInBounds_toArray, List.set_cons_zero, List.set_cons_succ]
      refine take_at (i := 4) (v := ?v932) rfl (by kernel_rfl) (by kernel_rfl) (by kernel_rfl) (fun _ _ _ h => h) (Or.inl ⟨by rfl, ?y932⟩) hHeld ?t932
      case y932 => (intro wx hSw; go_simp <;> with_reducible rfl)
      simp only [Act.put, List.setIfInBounds_toArray, List.set_cons_zero, List.set_cons_succ]
      refine take_at (i := 5) (v := ?v933) rfl (by kernel_rfl) (by kernel_rfl) (by kernel_rfl) (fun _ _ _ h => h) (Or.inl ⟨by rfl, ?y933⟩) hHeld ?t933
      case y933 => (intro wx hSw; go_simp <;> with_reducible rfl)
      simp only [Act.put, List.setIfInBounds_toArray, List.set_cons_zero, List.set_cons_succ]
      refine take_at (i := 7) (v := ?v934) rfl (by kernel_rfl) (by kernel_rfl) (by kernel_rfl) (fun _ _ _ h => h) (Or.inl ⟨by rfl, ?y934⟩) hHeld ?t934
      case y934 => (intro wx hSw; go_simp <;> with_reducible rfl)
      simp only [Act.put, List.setIfInBounds_toArray, List.set_cons_zero, List.set_cons_succ]
      refine take_at (i := 9) (v := ?v935) rfl (by kernel_rfl) (by kernel_rfl) (by kernel_rfl) (fun _ _ _ h => h) (Or.inl ⟨by rfl, ?y935⟩) hHeld ?t935
      case y935 => (intro wx hSw; go_simp <;> with_reducible rfl)
      simp only [Act.put, List.setIfInBounds_toArray, List.set_cons_zero, List.set_cons_succ]
      refine call_at (i := 6) (by kernel_rfl) rfl (fun K hK => ?_)
      go_simp
      refine (rAdd_any b r19.2 r17.1 r18.1 _ f19.drew).mono ?_
      rintro e w20 ⟨rfl, f20, k20⟩
      generalize e20 : addS r19.2 r17.1 r18.1 = r20 at f20 ⊢
      have E20 : Hid _ := e20
      clear e20
      have K20 : Kept b w w20 := Kept.trans K19.drew k20
      have B0_20 : Arr w.heap.size [.int .i64 p.1, .int .i64 p.2.1, .int .i64 p.2.2.1, .int .i64 p.2.2.2.1, .int .i64 p.2.2.2.2.1, .int .i64 p.2.2.2.2.2] w20 := B0_19.drew.kept k20 (by omega)
      have B1_20 : Arr (w.heap.size + 1) [.int .i64 q.1, .int .i64 q.2.1, .int .i64 q.2.2.1, .int .i64 q.2.2.2.1, .int .i64 q.2.2.2.2.1, .int .i64 q.2.2.2.2.2] w20 := B1_19.drew.kept k20 (by omega)
      have B2_20 : Arr (w.heap.size + 1 + 1) [.int .i64 0, .int .i64 0, .int .i64 0, .int .i64 0] w20 := B2_19.drew.kept k20 (by omega)
      have B3_20 : Arr w3.heap.size [.int .i64 r3.1.1, .int .i64 r3.1.2.1, .int .i64 r3.1.2.2.1, .int .i64 r3.1.2.2.2.1, .int .i64 r3.1.2.2.2.2.1, .int .i64 r3.1.2.2.2.2.2.1, .int .i64 r3.1.2.2.2.2.2.2.1, .int .i64 r3.1.2.2.2.2.2.2.2.1, .int .i64 r3.1.2.2.2.2.2.2.2.2] w20 := B3_19.drew.kept k20 (by omega)
      have B4_20 : Arr w4.heap.size [.int .i64 r4.1.1, .int .i64 r4.1.2.1, .int .i64 r4.1.2.2.1, .int .i64 r4.1.2.2.2.1, .int .i64 r4.1.2.2.2.2.1, .int .i64 r4.1.2.2.2.2.2.1, .int .i64 r4.1.2.2.2.2.2.2.1, .int .i64 r4.1.2.2.2.2.2.2.2.1, .int .i64 r4.1.2.2.2.2.2.2.2.2] w20 := B4_19.drew.kept k20 (by omega)
      have B5_20 : Arr (w4.heap.size + 1) [.int .i64 r9.1, .int .i64 r15.1, .int .i64 0, .int .i64 0, .int .i64 0, .int .i64 0, .int .i64 0, .int .i64 0, .int .i64 0] w20 := B5_19.drew.kept k20 (by omega)
      have z20 := B5_20.lies
      clear hHeld
      refine hK.out _ _ trivial (fun hHeld => ?_)
      clear hK K K19 f19 B0_19 B1_19 B2_19 B3_19 B4_19 B5_19 k20
      refine call_at (i := 8) (by kernel_rfl) rfl (fun K hK => ?_)
      go_simp
      refine (rAdd_any b r20.2 r20.1 r19.1 _ f20).mono ?_
      rintro e w21 ⟨rfl, f21, k21⟩
      generalize e21 : addS r20.2 r20.1 r19.1 = r21 at f21 ⊢
      have E21 : Hid _ := e21
      clear e21
      have K21 : Kept b w w21 := Kept.trans K20 k21
      have B0_21 : Arr w.heap.size [.int .i64 p.1, .int .i64 p.2.1, .int .i64 p.2.2.1, .int .i64 p.2.2.2.1, .int .i64 p.2.2.2.2.1, .int .i64 p.2.2.2.2.2] w21 := B0_20.kept k21 (by omega)
      have B1_21 : Arr (w.heap.size + 1) [.int .i64 q.1, .int .i64 q.2.1, .int .i64 q.2.2.1, .int .i64 q.2.2.2.1, .int .i64 q.2.2.2.2.1, .int .i64 q.2.2.2.2.2] w21 := B1_20.kept k21 (by omega)
      have B2_21 : Arr (w.heap.size + 1 + 1) [.int .i64 0, .int .i64 0, .int .i64 0, .int .i64 0] w21 := B2_20.kept k21 (by omega)
      have B3_21 : Arr w3.heap.size [.int .i64 r3.1.1, .int .i64 r3.1.2.1, .int .i64 r3.1.2.2.1, .int .i64 r3.1.2.2.2.1, .int .i64 r3.1.2.2.2.2.1, .int .i64 r3.1.2.2.2.2.2.1, .int .i64 r3.1.2.2.2.2.2.2.1, .int .i64 r3.1.2.2.2.2.2.2.2.1, .int .i64 r3.1.2.2.2.2.2.2.2.2] w21 := B3_20.kept k21 (by omega)
      have B4_21 : Arr w4.heap.size [.int .i64 r4.1.1, .int .i64 r4.1.2.1, .int .i64 r4.1.2.2.1, .int .i64 r4.1.2.2.2.1, .int .i64 r4.1.2.2.2.2.1, .int .i64 r4.1.2.2.2.2.2.1, .int .i64 r4.1.2.2.2.2.2.2.1, .int .i64 r4.1.2.2.2.2.2.2.2.1, .int .i64 r4.1.2.2.2.2.2.2.2.2] w21 := B4_20.kept k21 (by omega)
      have B5_21 : Arr (w4.heap.size + 1) [.int .i64 r9.1, .int .i64 r15.1, .int .i64 0, .int .i64 0, .int .i64 0, .int .i64 0, .int .i64 0, .int .i64 0, .int .i64 0] w21 := B5_20.kept k21 (by omega)
      have z21 := B5_21.lies
      clear hHeld
      refine hK.out _ _ trivial (fun hHeld => ?_)
      clear hK K K20 f20 B0_20 B1_20 B2_20 B3_20 B4_20 B5_20 k21
      refine take_at (i := 10) (v := ?v936) rfl (by kernel_rfl) (by kernel_rfl) (by kernel_rfl) (fun _ _ _ h => h) (Or.inl ⟨by rfl, ?y936⟩) hHeld ?t936
      case y936 => (intro wx hSw; go_simp <;> with_reducible rfl)
      simp only [Act.put, List.setIfInBounds_toArray, List.set_cons_zero, List.set_cons_succ]
      refine call_at (i := 11) (by kernel_rfl) rfl (fun K hK => ?_)
      have c23_B5_2 : w21.cell? ⟨w4.heap.size + 1, 2, none⟩ = some (.int .i64 0) := B5_21.c 2 (of_decide_eq_true rfl)
      have g23_B5_2 := B5_21.f 2 (of_decide_eq_true rfl)
      go_simp
      clear hHeld
      refine hK.out _ _ trivial (fun hHeld => ?_)
      clear hK K c23_B5_2 g23_B5_2
      refine wpAnyH_done (by kernel_rfl) ?_ _
      clear hHeld
      have P21 : Hid (zlS r15.2 r4.1.1 r3.1.2.2.1 r4.1.2.2.2.1 r3.1.2.2.2.2.2.1 r4.1.2.2.2.2.2.2.1 r3.1.2.2.2.2.2.2.2.2 = r21) := by show _ = _; unfold zlS; simp only [E17.out, E18.out, E19.out, E20.out, E21.out]
      clear E17 E18 E19 E20 E21
      go_wp2_with fail
      refine rounds_letter (S := fun w' => Kept b w w' ∧ Fl b r21.2 w' ∧ Arr w.heap.size [.int .i64 p.1, .int .i64 p.2.1, .int .i64 p.2.2.1, .int .i64 p.2.2.2.1, .int .i64 p.2.2.2.2.1, .int .i64 p.2.2.2.2.2] w' ∧ Arr (w.heap.size + 1) [.int .i64 q.1, .int .i64 q.2.1, .int .i64 q.2.2.1, .int .i64 q.2.2.2.1, .int .i64 q.2.2.2.2.1, .int .i64 q.2.2.2.2.2] w' ∧ Arr (w.heap.size + 1 + 1) [.int .i64 0, .int .i64 0, .int .i64 0, .int .i64 0] w' ∧ Arr w3.heap.size [.int .i64 r3.1.1, .int .i64 r3.1.2.1, .int .i64 r3.1.2.2.1, .int .i64 r3.1.2.2.2.1, .int .i64 r3.1.2.2.2.2.1, .int .i64 r3.1.2.2.2.2.2.1, .int .i64 r3.1.2.2.2.2.2.2.1, .int .i64 r3.1.2.2.2.2.2.2.2.1, .int .i64 r3.1.2.2.2.2.2.2.2.2] w' ∧ Arr w4.heap.size [.int .i64 r4.1.1, .int .i64 r4.1.2.1, .int .i64 r4.1.2.2.1, .int .i64 r4.1.2.2.2.1, .int .i64 r4.1.2.2.2.2.1, .int .i64 r4.1.2.2.2.2.2.1, .int .i64 r4.1.2.2.2.2.2.2.1, .int .i64 r4.1.2.2.2.2.2.2.2.1, .int .i64 r4.1.2.2.2.2.2.2.2.2] w' ∧ Arr (w4.heap.size + 1) [.int .i64 r9.1, .int .i64 r15.1, .int .i64 r21.1, .int .i64 0, .int .i64 0, .int .i64 0, .int .i64 0, .int .i64 0, .int .i64 0] w') ⟨(K21.new _ _ (by omega) _), (f21.new (w4.heap.size + 1) 2 (by omega) (.int .i64 r21.1)), (B0_21.new (w4.heap.size + 1) 2 (by omega) (.int .i64 r21.1)), (B1_21.new (w4.heap.size + 1) 2 (by omega) (.int .i64 r21.1)), (B2_21.new (w4.heap.size + 1) 2 (by omega) (.int .i64 r21.1)), (B3_21.new (w4.heap.size + 1) 2 (by omega) (.int .i64 r21.1)), (B4_21.new (w4.heap.size + 1) 2 (by omega) (.int .i64 r21.1)), (B5_21.put 2 (of_decide_eq_true rfl) (.int .i64 r21.1) [.int .i64 r9.1, .int .i64 r15.1, .int .i64 r21.1, .int .i64 0, .int .i64 0, .int .i64 0, .int .i64 0, .int .i64 0, .int .i64 0] rfl)⟩ ?_
      rintro w22 ⟨K22, BF_22, B0_22, B1_22, B2_22, B3_22, B4_22, B5_22⟩
      have z22 := B5_22.lies
      clear K21 f21 B0_21 B1_21 B2_21 B3_21 B4_21 B5_21
      rw [rounds_succ]
      go_wp2_with fail
      rw [rounds_succ]
      go_wp2_with fail
      refine wp_loop_rounds 4 ?_
      rw [rounds_succ]
      go_wp2_with fail
      refine wp_region_held_drew (S := fun w' => Arr w4.heap.size [.int .i64 r4.1.1, .int .i64 r4.1.2.1, .int .i64 r4.1.2.2.1, .int .i64 r4.1.2.2.2.1, .int .i64 r4.1.2.2.2.2.1, .int .i64 r4.1.2.2.2.2.2.1, .int .i64 r4.1.2.2.2.2.2.2.1, .int .i64 r4.1.2.2.2.2.2.2.2.1, .int .i64 r4.1.2.2.2.2.2.2.2.2] w' ∧ Arr w3.heap.size [.int .i64 r3.1.1, .int .i64 r3.1.2.1, .int .i64 r3.1.2.2.1, .int .i64 r3.1.2.2.2.1, .int .i64 r3.1.2.2.2.2.1, .int .i64 r3.1.2.2.2.2.2.1, .int .i64 r3.1.2.2.2.2.2.2.1, .int .i64 r3.1.2.2.2.2.2.2.2.1, .int .i64 r3.1.2.2.2.2.2.2.2.2] w') (by kernel_rfl) ⟨B4_22.drew, B3_22.drew⟩ (fun hHeld => ?_)
      refine take_at (i := 0) (v := ?v1054) rfl (by kernel_rfl) (by kernel_rfl) (by kernel_rfl) (fun _ _ _ h => h) (Or.inl ⟨by rfl, ?y1054⟩) hHeld ?t1054
      case y1054 => (intro wx hSw; go_simp <;> with_reducible rfl)
      simp only [Act.put, List.setIfInBounds_toArray, List.set_cons_zero, List.set_cons_succ]
      refine take_at (i := 1) (v := ?v1055) rfl (by kernel_rfl) (by kernel_rfl) (by kernel_rfl) (fun _ _ _ h => h) (Or.inl ⟨by rfl, ?y1055⟩) hHeld ?t1055
      case y1055 => (intro wx hSw; go_simp <;> with_reducible rfl)
      simp only [Act.put, List.setIfInBounds_toArray, List.set_cons_zero, List.set_cons_succ]
      refine take_at (i := 2) (v := ?v1056) rfl (by kernel_rfl) (by kernel_rfl) (by kernel_rfl) (fun _ _ _ h => h) (Or.inl ⟨by rfl, ?y1056⟩) hHeld ?t1056
      case y1056 => (intro wx hSw; go_simp <;> with_reducible rfl)
      simp only [Act.put, List.setIfInBounds_toArray, List.set_cons_zero, List.set_cons_succ]
      refine take_at (i := 3) (v := ?v1057) rfl (by kernel_rfl) (by kernel_rfl) (by kernel_rfl) (fun _ _ _ h => h) (Or.inl ⟨by rfl, ?y1057⟩) hHeld ?t1057
      case y1057 => (intro wx hSw; go_simp <;> with_reducible rfl)
      simp only [Act.put, List.setIfInBounds_toArray, List.set_cons_zero, List.set_cons_succ]
      refine take_at (i := 4) (v := ?v1058) rfl (by kernel_rfl) (by kernel_rfl) (by kernel_rfl) (fun _ _ _ h => h) (Or.inl ⟨by rfl, ?y1058⟩) hHeld ?t1058
      case y1058 => (intro wx hSw; have hc1 : wx.cell? ⟨w4.heap.size, 1, none⟩ = some (.int .i64 r4.1.2.1) := hSw.1.c 1 (of_decide_eq_true rfl); go_simp <;> with_reducible rfl)
      simp only [Act.put, List.setIfInBounds_toArray, List.set_cons_zero, List.set_cons_succ]
      refine take_at (i := 5) (v := ?v1059) rfl (by kernel_rfl) (by kernel_rfl) (by kernel_rfl) (fun _ _ _ h => h) (Or.inl ⟨by rfl, ?y1059⟩) hHeld ?t1059
      case y1059 => (intro wx hSw; go_simp <;> with_reducible rfl)
      simp only [Act.put, List.setIfInBounds_toArray, List.set_cons_zero, List.set_cons_succ]
      refine take_at (i := 6) (v := ?v1060) rfl (by kernel_rfl) (by kernel_rfl) (by kernel_rfl) (fun _ _ _ h => h) (Or.inl ⟨by rfl, ?y1060⟩) hHeld ?t1060
      case y1060 => (intro wx hSw; go_simp <;> with_reducible rfl)
      simp only [Act.put, List.setIfInBounds_toArray, List.set_cons_zero, List.set_cons_succ]
      refine take_at (i := 7) (v := ?v1061) rfl (by kernel_rfl) (by kernel_rfl) (by kernel_rfl) (fun _ _ _ h => h) (Or.inl ⟨by rfl, ?y1061⟩) hHeld ?t1061
      case y1061 => (intro wx hSw; go_simp <;> with_reducible rfl)
      simp only [Act.put, List.setIfInBounds_toArray, List.set_cons_zero, List.set_cons_succ]
      refine take_at (i := 8) (v := ?v1062) rfl (by kernel_rfl) (by kernel_rfl) (by kernel_rfl) (fun _ _ _ h => h) (Or.inl ⟨by rfl, ?y1062⟩) hHeld ?t1062
      case y1062 => (intro wx hSw; have hc0 : wx.cell? ⟨w3.heap.size, 0, none⟩ = some (.int .i64 r3.1.1) := hSw.2.c 0 (of_decide_eq_true rfl); go_simp <;> with_reducible rfl)
      simp only [Act.put, List.setIfInBounds_toArray, List.set_cons_zero, List.set_cons_succ]
      refine call_at (i := 9) (by kernel_rfl) rfl (fun K hK => ?_)
      go_simp
      refine (rMul_any b r21.2 r4.1.2.1 r3.1.1 _ BF_22.drew).mono ?_
      rintro e w23 ⟨rfl, f23, k23⟩
      generalize e23 : mulS r21.2 r4.1.2.1 r3.1.1 = r23 at f23 ⊢
      have E23 : Hid _ := e23
      clear e23
      have K23 : Kept b w w23 := Kept.trans K22.drew k23
      have B0_23 : Arr w.heap.size [.int .i64 p.1, .int .i64 p.2.1, .int .i64 p.2.2.1, .int .i64 p.2.2.2.1, .int .i64 p.2.2.2.2.1, .int .i64 p.2.2.2.2.2] w23 := B0_22.drew.kept k23 (by omega)
      have B1_23 : Arr (w.heap.size + 1) [.int .i64 q.1, .int .i64 q.2.1, .int .i64 q.2.2.1, .int .i64 q.2.2.2.1, .int .i64 q.2.2.2.2.1, .int .i64 q.2.2.2.2.2] w23 := B1_22.drew.kept k23 (by omega)
      have B2_23 : Arr (w.heap.size + 1 + 1) [.int .i64 0, .int .i64 0, .int .i64 0, .int .i64 0] w23 := B2_22.drew.kept k23 (by omega)
      have B3_23 : Arr w3.heap.size [.int .i64 r3.1.1, .int .i64 r3.1.2.1, .int .i64 r3.1.2.2.1, .int .i64 r3.1.2.2.2.1, .int .i64 r3.1.2.2.2.2.1, .int .i64 r3.1.2.2.2.2.2.1, .int .i64 r3.1.2.2.2.2.2.2.1, .int .i64 r3.1.2.2.2.2.2.2.2.1, .int .i64 r3.1.2.2.2.2.2.2.2.2] w23 := B3_22.drew.kept k23 (by omega)
      have B4_23 : Arr w4.heap.size [.int .i64 r4.1.1, .int .i64 r4.1.2.1, .int .i64 r4.1.2.2.1, .int .i64 r4.1.2.2.2.1, .int .i64 r4.1.2.2.2.2.1, .int .i64 r4.1.2.2.2.2.2.1, .int .i64 r4.1.2.2.2.2.2.2.1, .int .i64 r4.1.2.2.2.2.2.2.2.1, .int .i64 r4.1.2.2.2.2.2.2.2.2] w23 := B4_22.drew.kept k23 (by omega)
      have B5_23 : Arr (w4.heap.size + 1) [.int .i64 r9.1, .int .i64 r15.1, .int .i64 r21.1, .int .i64 0, .int .i64 0, .int .i64 0, .int .i64 0, .int .i64 0, .int .i64 0] w23 := B5_22.drew.kept k23 (by omega)
      have z23 := B5_23.lies
      clear hHeld
      refine hK.out _ _ ⟨B4_23, B3_23⟩ (fun hHeld => ?_)
      clear hK K K22 BF_22 B0_22 B1_22 B2_22 B3_22 B4_22 B5_22 k23
      refine take_at (i := 10) (v := ?v1063) rfl (by kernel_rfl) (by kernel_rfl) (by kernel_rfl) (fun _ _ _ h => h) (Or.inl ⟨by rfl, ?y1063⟩) hHeld ?t1063
      case y1063 => (intro wx hSw; go_simp <;> with_reducible rfl)
      simp only [Act.put, List.setIfInBounds_toArray, List.set_cons_zero, List.set_cons_succ]
      refine wpAnyH_done (by kernel_rfl) ?_ _
      clear hHeld
      go_wp2_with fail
      refine wp_region_held_drew (S := fun w' => Arr w4.heap.size [.int .i64 r4.1.1, .int .i64 r4.1.2.1, .int .i64 r4.1.2.2.1, .int .i64 r4.1.2.2.2.1, .int .i64 r4.1.2.2.2.2.1, .int .i64 r4.1.2.2.2.2.2.1, .int .i64 r4.1.2.2.2.2.2.2.1, .int .i64 r4.1.2.2.2.2.2.2.2.1, .int .i64 r4.1.2.2.2.2.2.2.2.2] w' ∧ Arr w3.heap.size [.int .i64 r3.1.1, .int .i64 r3.1.2.1, .int .i64 r3.1.2.2.1, .int .i64 r3.1.2.2.2.1, .int .i64 r3.1.2.2.2.2.1, .int .i64 r3.1.2.2.2.2.2.1, .int .i64 r3.1.2.2.2.2.2.2.1, .int .i64 r3.1.2.2.2.2.2.2.2.1, .int .i64 r3.1.2.2.2.2.2.2.2.2] w') (by kernel_rfl) ⟨B4_23.drew, B3_23.drew⟩ (fun hHeld => ?_)
      refine take_at (i := 0) (v := ?v1064) rfl (by kernel_rfl) (by kernel_rfl) (by kernel_rfl) (fun _ _ _ h => h) (Or.inl ⟨by rfl, ?y1064⟩) hHeld ?t1064
      case y1064 => (intro wx hSw; go_simp <;> with_reducible rfl)
      simp only [Act.put, List.setIfInBounds_toArray, List.set_cons_zero, List.set_cons_succ]
      refine take_at (i := 1) (v := ?v1065) rfl (by kernel_rfl) (by kernel_rfl) (by kernel_rfl) (fun _ _ _ h => h) (Or.inl ⟨by rfl, ?y1065⟩) hHeld ?t1065
      case y1065 => (intro wx hSw; go_simp <;> with_reducible rfl)
      simp only [Act.put, List.setIfInBounds_toArray, List.set_cons_zero, List.set_cons_succ]
      refine take_at (i := 2) (v := ?v1066) rfl (by kernel_rfl) (by kernel_rfl) (by kernel_rfl) (fun _ _ _ h => h) (Or.inl ⟨by rfl, ?y1066⟩) hHeld ?t1066
      case y1066 => (intro wx hSw; go_simp <;> with_reducible rfl)
      simp only [Act.put, List.setIfInBounds_toArray, List.set_cons_zero, List.set_cons_succ]
      refine take_at (i := 3) (v := ?v1067) rfl (by kernel_rfl) (by kernel_rfl) (by kernel_rfl) (fun _ _ _ h => h) (Or.inl ⟨by rfl, ?y1067⟩) hHeld ?t1067
      case y1067 => (intro wx hSw; go_simp <;> with_reducible rfl)
      simp only [Act.put, List.setIfInBounds_toArray, List.set_cons_zero, List.set_cons_succ]
      refine take_at (i := 4) (v := ?v1068) rfl (by kernel_rfl) (by kernel_rfl) (by kernel_rfl) (fun _ _ _ h => h) (Or.inl ⟨by rfl, ?y1068⟩) hHeld ?t1068
      case y1068 => (intro wx hSw; have hc4 : wx.cell? ⟨w4.heap.size, 4, none⟩ = some (.int .i64 r4.1.2.2.2.2.1) := hSw.1.c 4 (of_decide_eq_true rfl); go_simp <;> with_reducible rfl)
      simp only [Act.put, List.setIfInBounds_toArray, List.set_cons_zero, List.set_cons_succ]
      refine take_at (i := 5) (v := ?v1069) rfl (by kernel_rfl) (by kernel_rfl) (by kernel_rfl) (fun _ _ _ h => h) (Or.inl ⟨by rfl, ?y1069⟩) hHeld ?t1069
      case y1069 => (intro wx hSw; go_simp <;> with_reducible rfl)
      simp only [Act.put, List.setIfInBounds_toArray, List.set_cons_zero, List.set_cons_succ]
      refine take_at (i := 6) (v := ?v1070) rfl (by kernel_rfl) (by kernel_rfl) (by kernel_rfl) (fun _ _ _ h => h) (Or.inl ⟨by rfl, ?y1070⟩) hHeld ?t1070
      case y1070 => (intro wx hSw; go_simp <;> with_reducible rfl)
      simp only [Act.put, List.setIfInBounds_toArray, List.set_cons_zero, List.set_cons_succ]
      refine take_at (i := 7) (v := ?v1071) rfl (by kernel_rfl) (by kernel_rfl) (by kernel_rfl) (fun _ _ _ h => h) (Or.inl ⟨by rfl, ?y1071⟩) hHeld ?t1071
      case y1071 => (intro wx hSw; go_simp <;> with_reducible rfl)
      simp only [Act.put, List.setIfInBounds_toArray, List.set_cons_zero, List.set_cons_succ]
      refine take_at (i := 8) (v := ?v1072) rfl (by kernel_rfl) (by kernel_rfl) (by kernel_rfl) (fun _ _ _ h => h) (Or.inl ⟨by rfl, ?y1072⟩) hHeld ?t1072
      case y1072 => (intro wx hSw; have hc3 : wx.cell? ⟨w3.heap.size, 3, none⟩ = some (.int .i64 r3.1.2.2.2.1) := hSw.2.c 3 (of_decide_eq_true rfl); go_simp <;> with_reducible rfl)
      simp only [Act.put, List.setIfInBounds_toArray, List.set_cons_zero, List.set_cons_succ]
      refine call_at (i := 9) (by kernel_rfl) rfl (fun K hK => ?_)
      go_simp
      refine (rMul_any b r23.2 r4.1.2.2.2.2.1 r3.1.2.2.2.1 _ f23.drew).mono ?_
      rintro e w24 ⟨rfl, f24, k24⟩
      generalize e24 : mulS r23.2 r4.1.2.2.2.2.1 r3.1.2.2.2.1 = r24 at f24 ⊢
      have E24 : Hid _ := e24
      clear e24
      have K24 : Kept b w w24 := Kept.trans K23.drew k24
      have B0_24 : Arr w.heap.size [.int .i64 p.1, .int .i64 p.2.1, .int .i64 p.2.2.1, .int .i64 p.2.2.2.1, .int .i64 p.2.2.2.2.1, .int .i64 p.2.2.2.2.2] w24 := B0_23.drew.kept k24 (by omega)
      have B1_24 : Arr (w.heap.size + 1) [.int .i64 q.1, .int .i64 q.2.1, .int .i64 q.2.2.1, .int .i64 q.2.2.2.1, .int .i64 q.2.2.2.2.1, .int .i64 q.2.2.2.2.2] w24 := B1_23.drew.kept k24 (by omega)
      have B2_24 : Arr (w.heap.size + 1 + 1) [.int .i64 0, .int .i64 0, .int .i64 0, .int .i64 0] w24 := B2_23.drew.kept k24 (by omega)
      have B3_24 : Arr w3.heap.size [.int .i64 r3.1.1, .int .i64 r3.1.2.1, .int .i64 r3.1.2.2.1, .int .i64 r3.1.2.2.2.1, .int .i64 r3.1.2.2.2.2.1, .int .i64 r3.1.2.2.2.2.2.1, .int .i64 r3.1.2.2.2.2.2.2.1, .int .i64 r3.1.2.2.2.2.2.2.2.1, .int .i64 r3.1.2.2.2.2.2.2.2.2] w24 := B3_23.drew.kept k24 (by omega)
      have B4_24 : Arr w4.heap.size [.int .i64 r4.1.1, .int .i64 r4.1.2.1, .int .i64 r4.1.2.2.1, .int .i64 r4.1.2.2.2.1, .int .i64 r4.1.2.2.2.2.1, .int .i64 r4.1.2.2.2.2.2.1, .int .i64 r4.1.2.2.2.2.2.2.1, .int .i64 r4.1.2.2.2.2.2.2.2.1, .int .i64 r4.1.2.2.2.2.2.2.2.2] w24 := B4_23.drew.kept k24 (by omega)
      have B5_24 : Arr (w4.heap.size + 1) [.int .i64 r9.1, .int .i64 r15.1, .int .i64 r21.1, .int .i64 0, .int .i64 0, .int .i64 0, .int .i64 0, .int .i64 0, .int .i64 0] w24 := B5_23.drew.kept k24 (by omega)
      have z24 := B5_24.lies
      clear hHeld
      refine hK.out _ _ ⟨B4_24, B3_24⟩ (fun hHeld => ?_)
      clear hK K K23 f23 B0_23 B1_23 B2_23 B3_23 B4_23 B5_23 k24
      refine take_at (i := 10) (v := ?v1073) rfl (by kernel_rfl) (by kernel_rfl) (by kernel_rfl) (fun _ _ _ h => h) (Or.inl ⟨by rfl, ?y1073⟩) hHeld ?t1073
      case y1073 => (intro wx hSw; go_simp <;> with_reducible rfl)
      simp only [Act.put, List.setIfInBounds_toArray, List.set_cons_zero, List.set_cons_succ]
      refine wpAnyH_done (by kernel_rfl) ?_ _
      clear hHeld
      go_wp2_with fail
      refine wp_region_held_drew (S := fun w' => Arr w4.heap.size [.int .i64 r4.1.1, .int .i64 r4.1.2.1, .int .i64 r4.1.2.2.1, .int .i64 r4.1.2.2.2.1, .int .i64 r4.1.2.2.2.2.1, .int .i64 r4.1.2.2.2.2.2.1, .int .i64 r4.1.2.2.2.2.2.2.1, .int .i64 r4.1.2.2.2.2.2.2.2.1, .int .i64 r4.1.2.2.2.2.2.2.2.2] w' ∧ Arr w3.heap.size [.int .i64 r3.1.1, .int .i64 r3.1.2.1, .int .i64 r3.1.2.2.1, .int .i64 r3.1.2.2.2.1, .int .i64 r3.1.2.2.2.2.1, .int .i64 r3.1.2.2.2.2.2.1, .int .i64 r3.1.2.2.2.2.2.2.1, .int .i64 r3.1.2.2.2.2.2.2.2.1, .int .i64 r3.1.2.2.2.2.2.2.2.2] w') (by kernel_rfl) ⟨B4_24.drew, B3_24.drew⟩ (fun hHeld => ?_)
      refine take_at (i := 0) (v := ?v1074) rfl (by kernel_rfl) (by kernel_rfl) (by kernel_rfl) (fun _ _ _ h => h) (Or.inl ⟨by rfl, ?y1074⟩) hHeld ?t1074
      case y1074 => (intro wx hSw; go_simp <;> with_reducible rfl)
      simp only [Act.put, List.setIfInBounds_toArray, List.set_cons_zero, List.set_cons_succ]
      refine take_at (i := 1) (v := ?v1075) rfl (by kernel_rfl) (by kernel_rfl) (by kernel_rfl) (fun _ _ _ h => h) (Or.inl ⟨by rfl, ?y1075⟩) hHeld ?t1075
      case y1075 => (intro wx hSw; go_simp <;> with_reducible rfl)
      simp only [Act.put, List.setIfInBounds_toArray, List.set_cons_zero, List.set_cons_succ]
      refine take_at (i := 2) (v := ?v1076) rfl (by kernel_rfl) (by kernel_rfl) (by kernel_rfl) (fun _ _ _ h => h) (Or.inl ⟨by rfl, ?y1076⟩) hHeld ?t1076
      case y1076 => (intro wx hSw; go_simp <;> with_reducible rfl)
      simp only [Act.put, List.setIfInBounds_toArray, List.set_cons_zero, List.set_cons_succ]
      refine take_at (i := 3) (v := ?v1077) rfl (by kernel_rfl) (by kernel_rfl) (by kernel_rfl) (fun _ _ _ h => h) (Or.inl ⟨by rfl, ?y1077⟩) hHeld ?t1077
      case y1077 => (intro wx hSw; go_simp <;> with_reducible rfl)
      simp only [Act.put, List.setIfInBounds_toArray, List.set_cons_zero, List.set_cons_succ]
      refine take_at (i := 4) (v := ?v1078) rfl (by kernel_rfl) (by kernel_rfl) (by kernel_rfl) (fun _ _ _ h => h) (Or.inl ⟨by rfl, ?y1078⟩) hHeld ?t1078
      case y1078 => (intro wx hSw; have hc7 : wx.cell? ⟨w4.heap.size, 7, none⟩ = some (.int .i64 r4.1.2.2.2.2.2.2.2.1) := hSw.1.c 7 (of_decide_eq_true rfl); go_simp <;> with_reducible rfl)
      simp only [Act.put, List.setIfInBounds_toArray, List.set_cons_zero, List.set_cons_succ]
      refine take_at (i := 5) (v := ?v1079) rfl (by kernel_rfl) (by kernel_rfl) (by kernel_rfl) (fun _ _ _ h => h) (Or.inl ⟨by rfl, ?y1079⟩) hHeld ?t1079
      case y1079 => (intro wx hSw; go_simp <;> with_reducible rfl)
      simp only [Act.put, List.setIfInBounds_toArray, List.set_cons_zero, List.set_cons_succ]
      refine take_at (i := 6) (v := ?v1080) rfl (by kernel_rfl) (by kernel_rfl) (by kernel_rfl) (fun _ _ _ h => h) (Or.inl ⟨by rfl, ?y1080⟩) hHeld ?t1080
      case y1080 => (intro wx hSw; go_simp <;> with_reducible rfl)
      simp only [Act.put, List.setIfInBounds_toArray, List.set_cons_zero, List.set_cons_succ]
      refine take_at (i := 7) (v := ?v1081) rfl (by kernel_rfl) (by kernel_rfl) (by kernel_rfl) (fun _ _ _ h => h) (Or.inl ⟨by rfl, ?y1081⟩) hHeld ?t1081
      case y1081 => (intro wx hSw; go_simp <;> with_reducible rfl)
      simp only [Act.put, List.setIfInBounds_toArray, List.set_cons_zero, List.set_cons_succ]
      refine take_at (i := 8) (v := ?v1082) rfl (by kernel_rfl) (by kernel_rfl) (by kernel_rfl) (fun _ _ _ h => h) (Or.inl ⟨by rfl, ?y1082⟩) hHeld ?t1082
      case y1082 => (intro wx hSw; have hc6 : wx.cell? ⟨w3.heap.size, 6, none⟩ = some (.int .i64 r3.1.2.2.2.2.2.2.1) := hSw.2.c 6 (of_decide_eq_true rfl); go_simp <;> with_reducible rfl)
      simp only [Act.put, List.setIfInBounds_toArray, List.set_cons_zero, List.set_cons_succ]
      refine call_at (i := 9) (by kernel_rfl) rfl (fun K hK => ?_)
      go_simp
      refine (rMul_any b r24.2 r4.1.2.2.2.2.2.2.2.1 r3.1.2.2.2.2.2.2.1 _ f24.drew).mono ?_
      rintro e w25 ⟨rfl, f25, k25⟩
      generalize e25 : mulS r24.2 r4.1.2.2.2.2.2.2.2.1 r3.1.2.2.2.2.2.2.1 = r25 at f25 ⊢
      have E25 : Hid _ := e25
      clear e25
      have K25 : Kept b w w25 := Kept.trans K24.drew k25
      have B0_25 : Arr w.heap.size [.int .i64 p.1, .int .i64 p.2.1, .int .i64 p.2.2.1, .int .i64 p.2.2.2.1, .int .i64 p.2.2.2.2.1, .int .i64 p.2.2.2.2.2] w25 := B0_24.drew.kept k25 (by omega)
      have B1_25 : Arr (w.heap.size + 1) [.int .i64 q.1, .int .i64 q.2.1, .int .i64 q.2.2.1, .int .i64 q.2.2.2.1, .int .i64 q.2.2.2.2.1, .int .i64 q.2.2.2.2.2] w25 := B1_24.drew.kept k25 (by omega)
      have B2_25 : Arr (w.heap.size + 1 + 1) [.int .i64 0, .int .i64 0, .int .i64 0, .int .i64 0] w25 := B2_24.drew.kept k25 (by omega)
      have B3_25 : Arr w3.heap.size [.int .i64 r3.1.1, .int .i64 r3.1.2.1, .int .i64 r3.1.2.2.1, .int .i64 r3.1.2.2.2.1, .int .i64 r3.1.2.2.2.2.1, .int .i64 r3.1.2.2.2.2.2.1, .int .i64 r3.1.2.2.2.2.2.2.1, .int .i64 r3.1.2.2.2.2.2.2.2.1, .int .i64 r3.1.2.2.2.2.2.2.2.2] w25 := B3_24.drew.kept k25 (by omega)
      have B4_25 : Arr w4.heap.size [.int .i64 r4.1.1, .int .i64 r4.1.2.1, .int .i64 r4.1.2.2.1, .int .i64 r4.1.2.2.2.1, .int .i64 r4.1.2.2.2.2.1, .int .i64 r4.1.2.2.2.2.2.1, .int .i64 r4.1.2.2.2.2.2.2.1, .int .i64 r4.1.2.2.2.2.2.2.2.1, .int .i64 r4.1.2.2.2.2.2.2.2.2] w25 := B4_24.drew.kept k25 (by omega)
      have B5_25 : Arr (w4.heap.size + 1) [.int .i64 r9.1, .int .i64 r15.1, .int .i64 r21.1, .int .i64 0, .int .i64 0, .int .i64 0, .int .i64 0, .int .i64 0, .int .i64 0] w25 := B5_24.drew.kept k25 (by omega)
      have z25 := B5_25.lies
      clear hHeld
      refine hK.out _ _ ⟨B4_25, B3_25⟩ (fun hHeld => ?_)
      clear hK K K24 f24 B0_24 B1_24 B2_24 B3_24 B4_24 B5_24 k25
      refine take_at (i := 10) (v := ?v1083) rfl (by kernel_rfl) (by kernel_rfl) (by kernel_rfl) (fun _ _ _ h => h) (Or.inl ⟨by rfl, ?y1083⟩) hHeld ?t1083
      case y1083 => (intro wx hSw; go_simp <;> with_reducible rfl)
      simp only [Act.put, List.setIfInBounds_toArray, List.set_cons_zero, List.set_cons_succ]
      refine wpAnyH_done (by kernel_rfl) ?_ _
      clear hHeld
      go_wp2_with fail
      refine wp_region_held_drew (S := fun _ => True) (by kernel_rfl) trivial (fun hHeld => ?_)
      refine take_at (i := 0) (v := ?v1084) rfl (by kernel_rfl) (by kernel_rfl) (by kernel_rfl) (fun _ _ _ h => h) (Or.inl ⟨by rfl, ?y1084⟩) hHeld ?t1084
      case y1084 => (intro wx hSw; go_simp <;> with_reducible rfl)
      simp only [Act.put, List.setIfInBounds_toArray, List.set_cons_zero, List.set_cons_succ]
      refine take_at (i := 1) (v := ?v1085) rfl (by kernel_rfl) (by kernel_rfl) (by kernel_rfl) (fun _ _ _ h => h) (Or.inl ⟨by rfl, ?y1085⟩) hHeld ?t1085
      case y1085 => (intro wx hSw; go_simp <;> with_reducible rfl)
      simp only [Act.put, List.setIfInBounds_toArray, List.set_cons_zero, List.set_cons_succ]
      refine take_at (i := 2) (v := ?v1086) rfl (by kernel_rfl) (by kernel_rfl) (by kernel_rfl) (fun _ _ _ h => h) (Or.inl ⟨by rfl, ?y1086⟩) hHeld ?t1086
      case y1086 => (intro wx hSw; go_simp <;> with_reducible rfl)
      simp only [Act.put, List.setIfInBounds_toArray, List.set_cons_zero, List.set_cons_succ]
      refine take_at (i := 3) (v := ?v1087) rfl (by kernel_rfl) (by kernel_rfl) (by kernel_rfl) (fun _ _ _ h => h) (Or.inl ⟨by rfl, ?y1087⟩) hHeld ?t1087
      case y1087 => (intro wx hSw; go_simp <;> with_reducible rfl)
      simp only [Act.put, List.setIfInBounds_toArray, List.set_cons_zero, List.set_cons_succ]
      refine take_at (i := 4) (v := ?v1088) rfl (by kernel_rfl) (by kernel_rfl) (by kernel_rfl) (fun _ _ _ h => h) (Or.inl ⟨by rfl, ?y1088⟩) hHeld ?t1088
      case y1088 => (intro wx hSw; go_simp <;> with_reducible rfl)
      simp only [Act.put, List.setIfInBounds_toArray, List.set_cons_zero, List.set_cons_succ]
      refine take_at (i := 5) (v := ?v1089) rfl (by kernel_rfl) (by kernel_rfl) (by kernel_rfl) (fun _ _ _ h => h) (Or.inl ⟨by rfl, ?y1089⟩) hHeld ?t1089
      case y1089 => (intro wx hSw; go_simp <;> with_reducible rfl)
      simp only [Act.put, List.setIfInBounds_toArray, List.set_cons_zero, List.set_cons_succ]
      refine take_at (i := 7) (v := ?v1090) rfl (by kernel_rfl) (by kernel_rfl) (by kernel_rfl) (fun _ _ _ h => h) (Or.inl ⟨by rfl, ?y1090⟩) hHeld ?t1090
      case y1090 => (intro wx hSw; go_simp <;> with_reducible rfl)
      simp only [Act.put, List.setIfInBounds_toArray, List.set_cons_zero, List.set_cons_succ]
      refine take_at (i := 9) (v := ?v1091) rfl (by kernel_rfl) (by kernel_rfl) (by kernel_rfl) (fun _ _ _ h => h) (Or.inl ⟨by rfl, ?y1091⟩) hHeld ?t1091
      case y1091 => (intro wx hSw; go_simp <;> with_reducible rfl)
      simp only [Act.put, List.setIfInBounds_toArray, List.set_cons_zero, List.set_cons_succ]
      refine call_at (i := 6) (by kernel_rfl) rfl (fun K hK => ?_)
      go_simp
      refine (rAdd_any b r25.2 r23.1 r24.1 _ f25.drew).mono ?_
      rintro e w26 ⟨rfl, f26, k26⟩
      generalize e26 : addS r25.2 r23.1 r24.1 = r26 at f26 ⊢
      have E26 : Hid _ := e26
      clear e26
      have K26 : Kept b w w26 := Kept.trans K25.drew k26
      have B0_26 : Arr w.heap.size [.int .i64 p.1, .int .i64 p.2.1, .int .i64 p.2.2.1, .int .i64 p.2.2.2.1, .int .i64 p.2.2.2.2.1, .int .i64 p.2.2.2.2.2] w26 := B0_25.drew.kept k26 (by omega)
      have B1_26 : Arr (w.heap.size + 1) [.int .i64 q.1, .int .i64 q.2.1, .int .i64 q.2.2.1, .int .i64 q.2.2.2.1, .int .i64 q.2.2.2.2.1, .int .i64 q.2.2.2.2.2] w26 := B1_25.drew.kept k26 (by omega)
      have B2_26 : Arr (w.heap.size + 1 + 1) [.int .i64 0, .int .i64 0, .int .i64 0, .int .i64 0] w26 := B2_25.drew.kept k26 (by omega)
      have B3_26 : Arr w3.heap.size [.int .i64 r3.1.1, .int .i64 r3.1.2.1, .int .i64 r3.1.2.2.1, .int .i64 r3.1.2.2.2.1, .int .i64 r3.1.2.2.2.2.1, .int .i64 r3.1.2.2.2.2.2.1, .int .i64 r3.1.2.2.2.2.2.2.1, .int .i64 r3.1.2.2.2.2.2.2.2.1, .int .i64 r3.1.2.2.2.2.2.2.2.2] w26 := B3_25.drew.kept k26 (by omega)
      have B4_26 : Arr w4.heap.size [.int .i64 r4.1.1, .int .i64 r4.1.2.1, .int .i64 r4.1.2.2.1, .int .i64 r4.1.2.2.2.1, .int .i64 r4.1.2.2.2.2.1, .int .i64 r4.1.2.2.2.2.2.1, .int .i64 r4.1.2.2.2.2.2.2.1, .int .i64 r4.1.2.2.2.2.2.2.2.1, .int .i64 r4.1.2.2.2.2.2.2.2.2] w26 := B4_25.drew.kept k26 (by omega)
      have B5_26 : Arr (w4.heap.size + 1) [.int .i64 r9.1, .int .i64 r15.1, .int .i64 r21.1, .int .i64 0, .int .i64 0, .int .i64 0, .int .i64 0, .int .i64 0, .int .i64 0] w26 := B5_25.drew.kept k26 (by omega)
      have z26 := B5_26.lies
      clear hHeld
      refine hK.out _ _ trivial (fun hHeld => ?_)
      clear hK K K25 f25 B0_25 B1_25 B2_25 B3_25 B4_25 B5_25 k26
      refine call_at (i := 8) (by kernel_rfl) rfl (fun K hK => ?_)
      go_simp
      refine (rAdd_any b r26.2 r26.1 r25.1 _ f26).mono ?_
      rintro e w27 ⟨rfl, f27, k27⟩
      generalize e27 : addS r26.2 r26.1 r25.1 = r27 at f27 ⊢
      have E27 : Hid _ := e27
      clear e27
      have K27 : Kept b w w27 := Kept.trans K26 k27
      have B0_27 : Arr w.heap.size [.int .i64 p.1, .int .i64 p.2.1, .int .i64 p.2.2.1, .int .i64 p.2.2.2.1, .int .i64 p.2.2.2.2.1, .int .i64 p.2.2.2.2.2] w27 := B0_26.kept k27 (by omega)
      have B1_27 : Arr (w.heap.size + 1) [.int .i64 q.1, .int .i64 q.2.1, .int .i64 q.2.2.1, .int .i64 q.2.2.2.1, .int .i64 q.2.2.2.2.1, .int .i64 q.2.2.2.2.2] w27 := B1_26.kept k27 (by omega)
      have B2_27 : Arr (w.heap.size + 1 + 1) [.int .i64 0, .int .i64 0, .int .i64 0, .int .i64 0] w27 := B2_26.kept k27 (by omega)
      have B3_27 : Arr w3.heap.size [.int .i64 r3.1.1, .int .i64 r3.1.2.1, .int .i64 r3.1.2.2.1, .int .i64 r3.1.2.2.2.1, .int .i64 r3.1.2.2.2.2.1, .int .i64 r3.1.2.2.2.2.2.1, .int .i64 r3.1.2.2.2.2.2.2.1, .int .i64 r3.1.2.2.2.2.2.2.2.1, .int .i64 r3.1.2.2.2.2.2.2.2.2] w27 := B3_26.kept k27 (by omega)
      have B4_27 : Arr w4.heap.size [.int .i64 r4.1.1, .int .i64 r4.1.2.1, .int .i64 r4.1.2.2.1, .int .i64 r4.1.2.2.2.1, .int .i64 r4.1.2.2.2.2.1, .int .i64 r4.1.2.2.2.2.2.1, .int .i64 r4.1.2.2.2.2.2.2.1, .int .i64 r4.1.2.2.2.2.2.2.2.1, .int .i64 r4.1.2.2.2.2.2.2.2.2] w27 := B4_26.kept k27 (by omega)
      have B5_27 : Arr (w4.heap.size + 1) [.int .i64 r9.1, .int .i64 r15.1, .int .i64 r21.1, .int .i64 0, .int .i64 0, .int .i64 0, .int .i64 0, .int .i64 0, .int .i64 0] w27 := B5_26.kept k27 (by omega)
      have z27 := B5_27.lies
      clear hHeld
      refine hK.out _ _ trivial (fun hHeld => ?_)
      clear hK K K26 f26 B0_26 B1_26 B2_26 B3_26 B4_26 B5_26 k27
      refine take_at (i := 10) (v := ?v1092) rfl (by kernel_rfl) (by kernel_rfl) (by kernel_rfl) (fun _ _ _ h => h) (Or.inl ⟨by rfl, ?y1092⟩) hHeld ?t1092
      case y1092 => (intro wx hSw; go_simp <;> with_reducible rfl)
      simp only [Act.put, List.setIfInBounds_toArray, List.set_cons_zero, List.set_cons_succ]
      refine call_at (i := 11) (by kernel_rfl) rfl (fun K hK => ?_)
      have c31_B5_3 : w27.cell? ⟨w4.heap.size + 1, 3, none⟩ = some (.int .i64 0) := B5_27.c 3 (of_decide_eq_true rfl)
      have g31_B5_3 := B5_27.f 3 (of_decide_eq_true rfl)
      go_simp
      clear hHeld
      refine hK.out _ _ trivial (fun hHeld => ?_)
      clear hK K c31_B5_3 g31_B5_3
      refine wpAnyH_done (by kernel_rfl) ?_ _
      clear hHeld
      have P27 : Hid (zlS r21.2 r4.1.2.1 r3.1.1 r4.1.2.2.2.2.1 r3.1.2.2.2.1 r4.1.2.2.2.2.2.2.2.1 r3.1.2.2.2.2.2.2.1 = r27) := by show _ = _; unfold zlS; simp only [E23.out, E24.out, E25.out, E26.out, E27.out]
      clear E23 E24 E25 E26 E27
      go_wp2_with fail
      refine rounds_letter (S := fun w' => Kept b w w' ∧ Fl b r27.2 w' ∧ Arr w.heap.size [.int .i64 p.1, .int .i64 p.2.1, .int .i64 p.2.2.1, .int .i64 p.2.2.2.1, .int .i64 p.2.2.2.2.1, .int .i64 p.2.2.2.2.2] w' ∧ Arr (w.heap.size + 1) [.int .i64 q.1, .int .i64 q.2.1, .int .i64 q.2.2.1, .int .i64 q.2.2.2.1, .int .i64 q.2.2.2.2.1, .int .i64 q.2.2.2.2.2] w' ∧ Arr (w.heap.size + 1 + 1) [.int .i64 0, .int .i64 0, .int .i64 0, .int .i64 0] w' ∧ Arr w3.heap.size [.int .i64 r3.1.1, .int .i64 r3.1.2.1, .int .i64 r3.1.2.2.1, .int .i64 r3.1.2.2.2.1, .int .i64 r3.1.2.2.2.2.1, .int .i64 r3.1.2.2.2.2.2.1, .int .i64 r3.1.2.2.2.2.2.2.1, .int .i64 r3.1.2.2.2.2.2.2.2.1, .int .i64 r3.1.2.2.2.2.2.2.2.2] w' ∧ Arr w4.heap.size [.int .i64 r4.1.1, .int .i64 r4.1.2.1, .int .i64 r4.1.2.2.1, .int .i64 r4.1.2.2.2.1, .int .i64 r4.1.2.2.2.2.1, .int .i64 r4.1.2.2.2.2.2.1, .int .i64 r4.1.2.2.2.2.2.2.1, .int .i64 r4.1.2.2.2.2.2.2.2.1, .int .i64 r4.1.2.2.2.2.2.2.2.2] w' ∧ Arr (w4.heap.size + 1) [.int .i64 r9.1, .int .i64 r15.1, .int .i64 r21.1, .int .i64 r27.1, .int .i64 0, .int .i64 0, .int .i64 0, .int .i64 0, .int .i64 0] w') ⟨(K27.new _ _ (by omega) _), (f27.new (w4.heap.size + 1) 3 (by omega) (.int .i64 r27.1)), (B0_27.new (w4.heap.size + 1) 3 (by omega) (.int .i64 r27.1)), (B1_27.new (w4.heap.size + 1) 3 (by omega) (.int .i64 r27.1)), (B2_27.new (w4.heap.size + 1) 3 (by omega) (.int .i64 r27.1)), (B3_27.new (w4.heap.size + 1) 3 (by omega) (.int .i64 r27.1)), (B4_27.new (w4.heap.size + 1) 3 (by omega) (.int .i64 r27.1)), (B5_27.put 3 (of_decide_eq_true rfl) (.int .i64 r27.1) [.int .i64 r9.1, .int .i64 r15.1, .int .i64 r21.1, .int .i64 r27.1, .int .i64 0, .int .i64 0, .int .i64 0, .int .i64 0, .int .i64 0] rfl)⟩ ?_
      rintro w28 ⟨K28, BF_28, B0_28, B1_28, B2_28, B3_28, B4_28, B5_28⟩
      have z28 := B5_28.lies
      clear K27 f27 B0_27 B1_27 B2_27 B3_27 B4_27 B5_27
      rw [rounds_succ]
      go_wp2_with fail
      refine wp_region_held_drew (S := fun w' => Arr w4.heap.size [.int .i64 r4.1.1, .int .i64 r4.1.2.1, .int .i64 r4.1.2.2.1, .int .i64 r4.1.2.2.2.1, .int .i64 r4.1.2.2.2.2.1, .int .i64 r4.1.2.2.2.2.2.1, .int .i64 r4.1.2.2.2.2.2.2.1, .int .i64 r4.1.2.2.2.2.2.2.2.1, .int .i64 r4.1.2.2.2.2.2.2.2.2] w' ∧ Arr w3.heap.size [.int .i64 r3.1.1, .int .i64 r3.1.2.1, .int .i64 r3.1.2.2.1, .int .i64 r3.1.2.2.2.1, .int .i64 r3.1.2.2.2.2.1, .int .i64 r3.1.2.2.2.2.2.1, .int .i64 r3.1.2.2.2.2.2.2.1, .int .i64 r3.1.2.2.2.2.2.2.2.1, .int .i64 r3.1.2.2.2.2.2.2.2.2] w') (by kernel_rfl) ⟨B4_28.drew, B3_28.drew⟩ (fun hHeld => ?_)
      refine take_at (i := 0) (v := ?v1093) rfl (by kernel_rfl) (by kernel_rfl) (by kernel_rfl) (fun _ _ _ h => h) (Or.inl ⟨by rfl, ?y1093⟩) hHeld ?t1093
      case y1093 => (intro wx hSw; go_simp <;> with_reducible rfl)
      simp only [Act.put, List.setIfInBounds_toArray, List.set_cons_zero, List.set_cons_succ]
      refine take_at (i := 1) (v := ?v1094) rfl (by kernel_rfl) (by kernel_rfl) (by kernel_rfl) (fun _ _ _ h => h) (Or.inl ⟨by rfl, ?y1094⟩) hHeld ?t1094
      case y1094 => (intro wx hSw; go_simp <;> with_reducible rfl)
      simp only [Act.put, List.setIfInBounds_toArray, List.set_cons_zero, List.set_cons_succ]
      refine take_at (i := 2) (v := ?v1095) rfl (by kernel_rfl) (by kernel_rfl) (by kernel_rfl) (fun _ _ _ h => h) (Or.inl ⟨by rfl, ?y1095⟩) hHeld ?t1095
      case y1095 => (intro wx hSw; go_simp <;> with_reducible rfl)
      simp only [Act.put, List.setIfInBounds_toArray, List.set_cons_zero, List.set_cons_succ]
      refine take_at (i := 3) (v := ?v1096) rfl (by kernel_rfl) (by kernel_rfl) (by kernel_rfl) (fun _ _ _ h => h) (Or.inl ⟨by rfl, ?y1096⟩) hHeld ?t1096
      case y1096 => (intro wx hSw; go_simp <;> with_reducible rfl)
      simp only [Act.put, List.setIfInBounds_toArray, List.set_cons_zero, List.set_cons_succ]
      refine take_at (i := 4) (v := ?v1097) rfl (by kernel_rfl) (by kernel_rfl) (by kernel_rfl) (fun _ _ _ h => h) (Or.inl ⟨by rfl, ?y1097⟩) hHeld ?t1097
      case y1097 => (intro wx hSw; have hc1 : wx.cell? ⟨w4.heap.size, 1, none⟩ = some (.int .i64 r4.1.2.1) := hSw.1.c 1 (of_decide_eq_true rfl); go_simp <;> with_reducible rfl)
      simp only [Act.put, List.setIfInBounds_toArray, List.set_cons_zero, List.set_cons_succ]
      refine take_at (i := 5) (v := ?v1098) rfl (by kernel_rfl) (by kernel_rfl) (by kernel_rfl) (fun _ _ _ h => h) (Or.inl ⟨by rfl, ?y1098⟩) hHeld ?t1098
      case y1098 => (intro wx hSw; go_simp <;> with_reducible rfl)
      simp only [Act.put, List.setIfInBounds_toArray, List.set_cons_zero, List.set_cons_succ]
      refine take_at (i := 6) (v := ?v1099) rfl (by kernel_rfl) (by kernel_rfl) (by kernel_rfl) (fun _ _ _ h => h) (Or.inl ⟨by rfl, ?y1099⟩) hHeld ?t1099
      case y1099 => (intro wx hSw; go_simp <;> with_reducible rfl)
      simp only [Act.put, List.setIfInBounds_toArray, List.set_cons_zero, List.set_cons_succ]
      refine take_at (i := 7) (v := ?v1100) rfl (by kernel_rfl) (by kernel_rfl) (by kernel_rfl) (fun _ _ _ h => h) (Or.inl ⟨by rfl, ?y1100⟩) hHeld ?t1100
      case y1100 => (intro wx hSw; go_simp <;> with_reducible rfl)
      simp only [Act.put, List.setIfInBounds_toArray, List.set_cons_zero, List.set_cons_succ]
      refine take_at (i := 8) (v := ?v1101) rfl (by kernel_rfl) (by kernel_rfl) (by kernel_rfl) (fun _ _ _ h => h) (Or.inl ⟨by rfl, ?y1101⟩) hHeld ?t1101
      case y1101 => (intro wx hSw; have hc1 : wx.cell? ⟨w3.heap.size, 1, none⟩ = some (.int .i64 r3.1.2.1) := hSw.2.c 1 (of_decide_eq_true rfl); go_simp <;> with_reducible rfl)
      simp only [Act.put, List.setIfInBounds_toArray, List.set_cons_zero, List.set_cons_succ]
      refine call_at (i := 9) (by kernel_rfl) rfl (fun K hK => ?_)
      go_simp
      refine (rMul_any b r27.2 r4.1.2.1 r3.1.2.1 _ BF_28.drew).mono ?_
      rintro e w29 ⟨rfl, f29, k29⟩
      generalize e29 : mulS r27.2 r4.1.2.1 r3.1.2.1 = r29 at f29 ⊢
      have E29 : Hid _ := e29
      clear e29
      have K29 : Kept b w w29 := Kept.trans K28.drew k29
      have B0_29 : Arr w.heap.size [.int .i64 p.1, .int .i64 p.2.1, .int .i64 p.2.2.1, .int .i64 p.2.2.2.1, .int .i64 p.2.2.2.2.1, .int .i64 p.2.2.2.2.2] w29 := B0_28.drew.kept k29 (by omega)
      have B1_29 : Arr (w.heap.size + 1) [.int .i64 q.1, .int .i64 q.2.1, .int .i64 q.2.2.1, .int .i64 q.2.2.2.1, .int .i64 q.2.2.2.2.1, .int .i64 q.2.2.2.2.2] w29 := B1_28.drew.kept k29 (by omega)
      have B2_29 : Arr (w.heap.size + 1 + 1) [.int .i64 0, .int .i64 0, .int .i64 0, .int .i64 0] w29 := B2_28.drew.kept k29 (by omega)
      have B3_29 : Arr w3.heap.size [.int .i64 r3.1.1, .int .i64 r3.1.2.1, .int .i64 r3.1.2.2.1, .int .i64 r3.1.2.2.2.1, .int .i64 r3.1.2.2.2.2.1, .int .i64 r3.1.2.2.2.2.2.1, .int .i64 r3.1.2.2.2.2.2.2.1, .int .i64 r3.1.2.2.2.2.2.2.2.1, .int .i64 r3.1.2.2.2.2.2.2.2.2] w29 := B3_28.drew.kept k29 (by omega)
      have B4_29 : Arr w4.heap.size [.int .i64 r4.1.1, .int .i64 r4.1.2.1, .int .i64 r4.1.2.2.1, .int .i64 r4.1.2.2.2.1, .int .i64 r4.1.2.2.2.2.1, .int .i64 r4.1.2.2.2.2.2.1, .int .i64 r4.1.2.2.2.2.2.2.1, .int .i64 r4.1.2.2.2.2.2.2.2.1, .int .i64 r4.1.2.2.2.2.2.2.2.2] w29 := B4_28.drew.kept k29 (by omega)
      have B5_29 : Arr (w4.heap.size + 1) [.int .i64 r9.1, .int .i64 r15.1, .int .i64 r21.1, .int .i64 r27.1, .int .i64 0, .int .i64 0, .int .i64 0, .int .i64 0, .int .i64 0] w29 := B5_28.drew.kept k29 (by omega)
      have z29 := B5_29.lies
      clear hHeld
      refine hK.out _ _ ⟨B4_29, B3_29⟩ (fun hHeld => ?_)
      clear hK K K28 BF_28 B0_28 B1_28 B2_28 B3_28 B4_28 B5_28 k29
      refine take_at (i := 10) (v := ?v1102) rfl (by kernel_rfl) (by kernel_rfl) (by kernel_rfl) (fun _ _ _ h => h) (Or.inl ⟨by rfl, ?y1102⟩) hHeld ?t1102
      case y1102 => (intro wx hSw; go_simp <;> with_reducible rfl)
      simp only [Act.put, List.setIfInBounds_toArray, List.set_cons_zero, List.set_cons_succ]
      refine wpAnyH_done (by kernel_rfl) ?_ _
      clear hHeld
      go_wp2_with fail
      refine wp_region_held_drew (S := fun w' => Arr w4.heap.size [.int .i64 r4.1.1, .int .i64 r4.1.2.1, .int .i64 r4.1.2.2.1, .int .i64 r4.1.2.2.2.1, .int .i64 r4.1.2.2.2.2.1, .int .i64 r4.1.2.2.2.2.2.1, .int .i64 r4.1.2.2.2.2.2.2.1, .int .i64 r4.1.2.2.2.2.2.2.2.1, .int .i64 r4.1.2.2.2.2.2.2.2.2] w' ∧ Arr w3.heap.size [.int .i64 r3.1.1, .int .i64 r3.1.2.1, .int .i64 r3.1.2.2.1, .int .i64 r3.1.2.2.2.1, .int .i64 r3.1.2.2.2.2.1, .int .i64 r3.1.2.2.2.2.2.1, .int .i64 r3.1.2.2.2.2.2.2.1, .int .i64 r3.1.2.2.2.2.2.2.2.1, .int .i64 r3.1.2.2.2.2.2.2.2.2] w') (by kernel_rfl) ⟨B4_29.drew, B3_29.drew⟩ (fun hHeld => ?_)
      refine take_at (i := 0) (v := ?v1103) rfl (by kernel_rfl) (by kernel_rfl) (by kernel_rfl) (fun _ _ _ h => h) (Or.inl ⟨by rfl, ?y1103⟩) hHeld ?t1103
      case y1103 => (intro wx hSw; go_simp <;> with_reducible rfl)
      simp only [Act.put, List.setIfInBounds_toArray, List.set_cons_zero, List.set_cons_succ]
      refine take_at (i := 1) (v := ?v1104) rfl (by kernel_rfl) (by kernel_rfl) (by kernel_rfl) (fun _ _ _ h => h) (Or.inl ⟨by rfl, ?y1104⟩) hHeld ?t1104
      case y1104 => (intro wx hSw; go_simp <;> with_reducible rfl)
      simp only [Act.put, List.setIfInBounds_toArray, List.set_cons_zero, List.set_cons_succ]
      refine take_at (i := 2) (v := ?v1105) rfl (by kernel_rfl) (by kernel_rfl) (by kernel_rfl) (fun _ _ _ h => h) (Or.inl ⟨by rfl, ?y1105⟩) hHeld ?t1105
      case y1105 => (intro wx hSw; go_simp <;> with_reducible rfl)
      simp only [Act.put, List.setIfInBounds_toArray, List.set_cons_zero, List.set_cons_succ]
      refine take_at (i := 3) (v := ?v1106) rfl (by kernel_rfl) (by kernel_rfl) (by kernel_rfl) (fun _ _ _ h => h) (Or.inl ⟨by rfl, ?y1106⟩) hHeld ?t1106
      case y1106 => (intro wx hSw; go_simp <;> with_reducible rfl)
      simp only [Act.put, List.setIfInBounds_toArray, List.set_cons_zero, List.set_cons_succ]
      refine take_at (i := 4) (v := ?v1107) rfl (by kernel_rfl) (by kernel_rfl) (by kernel_rfl) (fun _ _ _ h => h) (Or.inl ⟨by rfl, ?y1107⟩) hHeld ?t1107
      case y1107 => (intro wx hSw; have hc4 : wx.cell? ⟨w4.heap.size, 4, none⟩ = some (.int .i64 r4.1.2.2.2.2.1) := hSw.1.c 4 (of_decide_eq_true rfl); go_simp <;> with_reducible rfl)
      simp only [Act.put, List.setIfInBounds_toArray, List.set_cons_zero, List.set_cons_succ]
      refine take_at (i := 5) (v := ?v1108) rfl (by kernel_rfl) (by kernel_rfl) (by kernel_rfl) (fun _ _ _ h => h) (Or.inl ⟨by rfl, ?y1108⟩) hHeld ?t1108
      case y1108 => (intro wx hSw; go_simp <;> with_reducible rfl)
      simp only [Act.put, List.setIfInBounds_toArray, List.set_cons_zero, List.set_cons_succ]
      refine take_at (i := 6) (v := ?v1109) rfl (by kernel_rfl) (by kernel_rfl) (by kernel_rfl) (fun _ _ _ h => h) (Or.inl ⟨by rfl, ?y1109⟩) hHeld ?t1109
      case y1109 => (intro wx hSw; go_simp <;> with_reducible rfl)
      simp only [Act.put, List.setIfInBounds_toArray, List.set_cons_zero, List.set_cons_succ]
      refine take_at (i := 7) (v := ?v1110) rfl (by kernel_rfl) (by kernel_rfl) (by kernel_rfl) (fun _ _ _ h => h) (Or.inl ⟨by rfl, ?y1110⟩) hHeld ?t1110
      case y1110 => (intro wx hSw; go_simp <;> with_reducible rfl)
      simp only [Act.put, List.setIfInBounds_toArray, List.set_cons_zero, List.set_cons_succ]
      refine take_at (i := 8) (v := ?v1111) rfl (by kernel_rfl) (by kernel_rfl) (by kernel_rfl) (fun _ _ _ h => h) (Or.inl ⟨by rfl, ?y1111⟩) hHeld ?t1111
      case y1111 => (intro wx hSw; have hc4 : wx.cell? ⟨w3.heap.size, 4, none⟩ = some (.int .i64 r3.1.2.2.2.2.1) := hSw.2.c 4 (of_decide_eq_true rfl); go_simp <;> with_reducible rfl)
      simp only [Act.put, List.setIfInBounds_toArray, List.set_cons_zero, List.set_cons_succ]
      refine call_at (i := 9) (by kernel_rfl) rfl (fun K hK => ?_)
      go_simp
      refine (rMul_any b r29.2 r4.1.2.2.2.2.1 r3.1.2.2.2.2.1 _ f29.drew).mono ?_
      rintro e w30 ⟨rfl, f30, k30⟩
      generalize e30 : mulS r29.2 r4.1.2.2.2.2.1 r3.1.2.2.2.2.1 = r30 at f30 ⊢
      have E30 : Hid _ := e30
      clear e30
      have K30 : Kept b w w30 := Kept.trans K29.drew k30
      have B0_30 : Arr w.heap.size [.int .i64 p.1, .int .i64 p.2.1, .int .i64 p.2.2.1, .int .i64 p.2.2.2.1, .int .i64 p.2.2.2.2.1, .int .i64 p.2.2.2.2.2] w30 := B0_29.drew.kept k30 (by omega)
      have B1_30 : Arr (w.heap.size + 1) [.int .i64 q.1, .int .i64 q.2.1, .int .i64 q.2.2.1, .int .i64 q.2.2.2.1, .int .i64 q.2.2.2.2.1, .int .i64 q.2.2.2.2.2] w30 := B1_29.drew.kept k30 (by omega)
      have B2_30 : Arr (w.heap.size + 1 + 1) [.int .i64 0, .int .i64 0, .int .i64 0, .int .i64 0] w30 := B2_29.drew.kept k30 (by omega)
      have B3_30 : Arr w3.heap.size [.int .i64 r3.1.1, .int .i64 r3.1.2.1, .int .i64 r3.1.2.2.1, .int .i64 r3.1.2.2.2.1, .int .i64 r3.1.2.2.2.2.1, .int .i64 r3.1.2.2.2.2.2.1, .int .i64 r3.1.2.2.2.2.2.2.1, .int .i64 r3.1.2.2.2.2.2.2.2.1, .int .i64 r3.1.2.2.2.2.2.2.2.2] w30 := B3_29.drew.kept k30 (by omega)
      have B4_30 : Arr w4.heap.size [.int .i64 r4.1.1, .int .i64 r4.1.2.1, .int .i64 r4.1.2.2.1, .int .i64 r4.1.2.2.2.1, .int .i64 r4.1.2.2.2.2.1, .int .i64 r4.1.2.2.2.2.2.1, .int .i64 r4.1.2.2.2.2.2.2.1, .int .i64 r4.1.2.2.2.2.2.2.2.1, .int .i64 r4.1.2.2.2.2.2.2.2.2] w30 := B4_29.drew.kept k30 (by omega)
      have B5_30 : Arr (w4.heap.size + 1) [.int .i64 r9.1, .int .i64 r15.1, .int .i64 r21.1, .int .i64 r27.1, .int .i64 0, .int .i64 0, .int .i64 0, .int .i64 0, .int .i64 0] w30 := B5_29.drew.kept k30 (by omega)
      have z30 := B5_30.lies
      clear hHeld
      refine hK.out _ _ ⟨B4_30, B3_30⟩ (fun hHeld => ?_)
      clear hK K K29 f29 B0_29 B1_29 B2_29 B3_29 B4_29 B5_29 k30
      refine take_at (i := 10) (v := ?v1112) rfl (by kernel_rfl) (by kernel_rfl) (by kernel_rfl) (fun _ _ _ h => h) (Or.inl ⟨by rfl, ?y1112⟩) hHeld ?t1112
      case y1112 => (intro wx hSw; go_simp <;> with_reducible rfl)
      simp only [Act.put, List.setIfInBounds_toArray, List.set_cons_zero, List.set_cons_succ]
      refine wpAnyH_done (by kernel_rfl) ?_ _
      clear hHeld
      go_wp2_with fail
      refine wp_region_held_drew (S := fun w' => Arr w4.heap.size [.int .i64 r4.1.1, .int .i64 r4.1.2.1, .int .i64 r4.1.2.2.1, .int .i64 r4.1.2.2.2.1, .int .i64 r4.1.2.2.2.2.1, .int .i64 r4.1.2.2.2.2.2.1, .int .i64 r4.1.2.2.2.2.2.2.1, .int .i64 r4.1.2.2.2.2.2.2.2.1, .int .i64 r4.1.2.2.2.2.2.2.2.2] w' ∧ Arr w3.heap.size [.int .i64 r3.1.1, .int .i64 r3.1.2.1, .int .i64 r3.1.2.2.1, .int .i64 r3.1.2.2.2.1, .int .i64 r3.1.2.2.2.2.1, .int .i64 r3.1.2.2.2.2.2.1, .int .i64 r3.1.2.2.2.2.2.2.1, .int .i64 r3.1.2.2.2.2.2.2.2.1, .int .i64 r3.1.2.2.2.2.2.2.2.2] w') (by kernel_rfl) ⟨B4_30.drew, B3_30.drew⟩ (fun hHeld => ?_)
      refine take_at (i := 0) (v := ?v1113) rfl (by kernel_rfl) (by kernel_rfl) (by kernel_rfl) (fun _ _ _ h => h) (Or.inl ⟨by rfl, ?y1113⟩) hHeld ?t1113
      case y1113 => (intro wx hSw; go_simp <;> with_reducible rfl)
      simp only [Act.put, List.setIfInBounds_toArray, List.set_cons_zero, List.set_cons_succ]
      refine take_at (i := 1) (v := ?v1114) rfl (by kernel_rfl) (by kernel_rfl) (by kernel_rfl) (fun _ _ _ h => h) (Or.inl ⟨by rfl, ?y1114⟩) hHeld ?t1114
      case y1114 => (intro wx hSw; go_simp <;> with_reducible rfl)
      simp only [Act.put, List.setIfInBounds_toArray, List.set_cons_zero, List.set_cons_succ]
      refine take_at (i := 2) (v := ?v1115) rfl (by kernel_rfl) (by kernel_rfl) (by kernel_rfl) (fun _ _ _ h => h) (Or.inl ⟨by rfl, ?y1115⟩) hHeld ?t1115
      case y1115 => (intro wx hSw; go_simp <;> with_reducible rfl)
      simp only [Act.put, List.setIfInBounds_toArray, List.set_cons_zero, List.set_cons_succ]
      refine take_at (i := 3) (v := ?v1116) rfl (by kernel_rfl) (by kernel_rfl) (by kernel_rfl) (fun _ _ _ h => h) (Or.inl ⟨by rfl, ?y1116⟩) hHeld ?t1116
      case y1116 => (intro wx hSw; go_simp <;> with_reducible rfl)
      simp only [Act.put, List.setIfInBounds_toArray, List.set_cons_zero, List.set_cons_succ]
      refine take_at (i := 4) (v := ?v1117) rfl (by kernel_rfl) (by kernel_rfl) (by kernel_rfl) (fun _ _ _ h => h) (Or.inl ⟨by rfl, ?y1117⟩) hHeld ?t1117
      case y1117 => (intro wx hSw; have hc7 : wx.cell? ⟨w4.heap.size, 7, none⟩ = some (.int .i64 r4.1.2.2.2.2.2.2.2.1) := hSw.1.c 7 (of_decide_eq_true rfl); go_simp <;> with_reducible rfl)
      simp only [Act.put, List.setIfInBounds_toArray, List.set_cons_zero, List.set_cons_succ]
      refine take_at (i := 5) (v := ?v1118) rfl (by kernel_rfl) (by kernel_rfl) (by kernel_rfl) (fun _ _ _ h => h) (Or.inl ⟨by rfl, ?y1118⟩) hHeld ?t1118
      case y1118 => (intro wx hSw; go_simp <;> with_reducible rfl)
      simp only [Act.put, List.setIfInBounds_toArray, List.set_cons_zero, List.set_cons_succ]
      refine take_at (i := 6) (v := ?v1119) rfl (by kernel_rfl) (by kernel_rfl) (by kernel_rfl) (fun _ _ _ h => h) (Or.inl ⟨by rfl, ?y1119⟩) hHeld ?t1119
      case y1119 => (intro wx hSw; go_simp <;> with_reducible rfl)
      simp only [Act.put, List.setIfInBounds_toArray, List.set_cons_zero, List.set_cons_succ]
      refine take_at (i := 7) (v := ?v1120) rfl (by kernel_rfl) (by kernel_rfl) (by kernel_rfl) (fun _ _ _ h => h) (Or.inl ⟨by rfl, ?y1120⟩) hHeld ?t1120
      case y1120 => (intro wx hSw; go_simp <;> with_reducible rfl)
      simp only [Act.put, List.setIfInBounds_toArray, List.set_cons_zero, List.set_cons_succ]
      refine take_at (i := 8) (v := ?v1121) rfl (by kernel_rfl) (by kernel_rfl) (by kernel_rfl) (fun _ _ _ h => h) (Or.inl ⟨by rfl, ?y1121⟩) hHeld ?t1121
      case y1121 => (intro wx hSw; have hc7 : wx.cell? ⟨w3.heap.size, 7, none⟩ = some (.int .i64 r3.1.2.2.2.2.2.2.2.1) := hSw.2.c 7 (of_decide_eq_true rfl); go_simp <;> with_reducible rfl)
      simp only [Act.put, List.setIfInBounds_toArray, List.set_cons_zero, List.set_cons_succ]
      refine call_at (i := 9) (by kernel_rfl) rfl (fun K hK => ?_)
      go_simp
      refine (rMul_any b r30.2 r4.1.2.2.2.2.2.2.2.1 r3.1.2.2.2.2.2.2.2.1 _ f30.drew).mono ?_
      rintro e w31 ⟨rfl, f31, k31⟩
      generalize e31 : mulS r30.2 r4.1.2.2.2.2.2.2.2.1 r3.1.2.2.2.2.2.2.2.1 = r31 at f31 ⊢
      have E31 : Hid _ := e31
      clear e31
      have K31 : Kept b w w31 := Kept.trans K30.drew k31
      have B0_31 : Arr w.heap.size [.int .i64 p.1, .int .i64 p.2.1, .int .i64 p.2.2.1, .int .i64 p.2.2.2.1, .int .i64 p.2.2.2.2.1, .int .i64 p.2.2.2.2.2] w31 := B0_30.drew.kept k31 (by omega)
      have B1_31 : Arr (w.heap.size + 1) [.int .i64 q.1, .int .i64 q.2.1, .int .i64 q.2.2.1, .int .i64 q.2.2.2.1, .int .i64 q.2.2.2.2.1, .int .i64 q.2.2.2.2.2] w31 := B1_30.drew.kept k31 (by omega)
      have B2_31 : Arr (w.heap.size + 1 + 1) [.int .i64 0, .int .i64 0, .int .i64 0, .int .i64 0] w31 := B2_30.drew.kept k31 (by omega)
      have B3_31 : Arr w3.heap.size [.int .i64 r3.1.1, .int .i64 r3.1.2.1, .int .i64 r3.1.2.2.1, .int .i64 r3.1.2.2.2.1, .int .i64 r3.1.2.2.2.2.1, .int .i64 r3.1.2.2.2.2.2.1, .int .i64 r3.1.2.2.2.2.2.2.1, .int .i64 r3.1.2.2.2.2.2.2.2.1, .int .i64 r3.1.2.2.2.2.2.2.2.2] w31 := B3_30.drew.kept k31 (by omega)
      have B4_31 : Arr w4.heap.size [.int .i64 r4.1.1, .int .i64 r4.1.2.1, .int .i64 r4.1.2.2.1, .int .i64 r4.1.2.2.2.1, .int .i64 r4.1.2.2.2.2.1, .int .i64 r4.1.2.2.2.2.2.1, .int .i64 r4.1.2.2.2.2.2.2.1, .int .i64 r4.1.2.2.2.2.2.2.2.1, .int .i64 r4.1.2.2.2.2.2.2.2.2] w31 := B4_30.drew.kept k31 (by omega)
      have B5_31 : Arr (w4.heap.size + 1) [.int .i64 r9.1, .int .i64 r15.1, .int .i64 r21.1, .int .i64 r27.1, .int .i64 0, .int .i64 0, .int .i64 0, .int .i64 0, .int .i64 0] w31 := B5_30.drew.kept k31 (by omega)
      have z31 := B5_31.lies
      clear hHeld
      refine hK.out _ _ ⟨B4_31, B3_31⟩ (fun hHeld => ?_)
      clear hK K K30 f30 B0_30 B1_30 B2_30 B3_30 B4_30 B5_30 k31
      refine take_at (i := 10) (v := ?v1122) rfl (by kernel_rfl) (by kernel_rfl) (by kernel_rfl) (fun _ _ _ h => h) (Or.inl ⟨by rfl, ?y1122⟩) hHeld ?t1122
      case y1122 => (intro wx hSw; go_simp <;> with_reducible rfl)
      simp only [Act.put, List.setIfInBounds_toArray, List.set_cons_zero, List.set_cons_succ]
      refine wpAnyH_done (by kernel_rfl) ?_ _
      clear hHeld
      go_wp2_with fail
      refine wp_region_held_drew (S := fun _ => True) (by kernel_rfl) trivial (fun hHeld => ?_)
      refine take_at (i := 0) (v := ?v1123) rfl (by kernel_rfl) (by kernel_rfl) (by kernel_rfl) (fun _ _ _ h => h) (Or.inl ⟨by rfl, ?y1123⟩) hHeld ?t1123
      case y1123 => (intro wx hSw; go_simp <;> with_reducible rfl)
      simp only [Act.put, List.setIfInBounds_toArray, List.set_cons_zero, List.set_cons_succ]
      refine take_at (i := 1) (v := ?v1124) rfl (by kernel_rfl) (by kernel_rfl) (by kernel_rfl) (fun _ _ _ h => h) (Or.inl ⟨by rfl, ?y1124⟩) hHeld ?t1124
      case y1124 => (intro wx hSw; go_simp <;> with_reducible rfl)
      simp only [Act.put, List.setIfInBounds_toArray, List.set_cons_zero, List.set_cons_succ]
      refine take_at (i := 2) (v := ?v1125) rfl (by kernel_rfl) (by kernel_rfl) (by kernel_rfl) (fun _ _ _ h => h) (Or.inl ⟨by rfl, ?y1125⟩) hHeld ?t1125
      case y1125 => (intro wx hSw; go_simp <;> with_reducible rfl)
      simp only [Act.put, List.setIfInBounds_toArray, List.set_cons_zero, List.set_cons_succ]
      refine take_at (i := 3) (v := ?v1126) rfl (by kernel_rfl) (by kernel_rfl) (by kernel_rfl) (fun _ _ _ h => h) (Or.inl ⟨by rfl, ?y1126⟩) hHeld ?t1126
      case y1126 => (intro wx hSw; go_simp <;> with_reducible rfl)
      simp only [Act.put, List.setIfInBounds_toArray, List.set_cons_zero, List.set_cons_succ]
      refine take_at (i := 4) (v := ?v1127) rfl (by kernel_rfl) (by kernel_rfl) (by kernel_rfl) (fun _ _ _ h => h) (Or.inl ⟨by rfl, ?y1127⟩) hHeld ?t1127
      case y1127 => (intro wx hSw; go_simp <;> with_reducible rfl)
      simp only [Act.put, List.setIfInBounds_toArray, List.set_cons_zero, List.set_cons_succ]
      refine take_at (i := 5) (v := ?v1128) rfl (by kernel_rfl) (by kernel_rfl) (by kernel_rfl) (fun _ _ _ h => h) (Or.inl ⟨by rfl, ?y1128⟩) hHeld ?t1128
      case y1128 => (intro wx hSw; go_simp <;> with_reducible rfl)
      simp only [Act.put, List.setIfInBounds_toArray, List.set_cons_zero, List.set_cons_succ]
      refine take_at (i := 7) (v := ?v1129) rfl (by kernel_rfl) (by kernel_rfl) (by kernel_rfl) (fun _ _ _ h => h) (Or.inl ⟨by rfl, ?y1129⟩) hHeld ?t1129
      case y1129 => (intro wx hSw; go_simp <;> with_reducible rfl)
      simp only [Act.put, List.setIfInBounds_toArray, List.set_cons_zero, List.set_cons_succ]
      refine take_at (i := 9) (v := ?v1130) rfl (by kernel_rfl) (by kernel_rfl) (by kernel_rfl) (fun _ _ _ h => h) (Or.inl ⟨by rfl, ?y1130⟩) hHeld ?t1130
      case y1130 => (intro wx hSw; go_simp <;> with_reducible rfl)
      simp only [Act.put, List.setIfInBounds_toArray, List.set_cons_zero, List.set_cons_succ]
      refine call_at (i := 6) (by kernel_rfl) rfl (fun K hK => ?_)
      go_simp
      refine (rAdd_any b r31.2 r29.1 r30.1 _ f31.drew).mono ?_
      rintro e w32 ⟨rfl, f32, k32⟩
      generalize e32 : addS r31.2 r29.1 r30.1 = r32 at f32 ⊢
      have E32 : Hid _ := e32
      clear e32
      have K32 : Kept b w w32 := Kept.trans K31.drew k32
      have B0_32 : Arr w.heap.size [.int .i64 p.1, .int .i64 p.2.1, .int .i64 p.2.2.1, .int .i64 p.2.2.2.1, .int .i64 p.2.2.2.2.1, .int .i64 p.2.2.2.2.2] w32 := B0_31.drew.kept k32 (by omega)
      have B1_32 : Arr (w.heap.size + 1) [.int .i64 q.1, .int .i64 q.2.1, .int .i64 q.2.2.1, .int .i64 q.2.2.2.1, .int .i64 q.2.2.2.2.1, .int .i64 q.2.2.2.2.2] w32 := B1_31.drew.kept k32 (by omega)
      have B2_32 : Arr (w.heap.size + 1 + 1) [.int .i64 0, .int .i64 0, .int .i64 0, .int .i64 0] w32 := B2_31.drew.kept k32 (by omega)
      have B3_32 : Arr w3.heap.size [.int .i64 r3.1.1, .int .i64 r3.1.2.1, .int .i64 r3.1.2.2.1, .int .i64 r3.1.2.2.2.1, .int .i64 r3.1.2.2.2.2.1, .int .i64 r3.1.2.2.2.2.2.1, .int .i64 r3.1.2.2.2.2.2.2.1, .int .i64 r3.1.2.2.2.2.2.2.2.1, .int .i64 r3.1.2.2.2.2.2.2.2.2] w32 := B3_31.drew.kept k32 (by omega)
      have B4_32 : Arr w4.heap.size [.int .i64 r4.1.1, .int .i64 r4.1.2.1, .int .i64 r4.1.2.2.1, .int .i64 r4.1.2.2.2.1, .int .i64 r4.1.2.2.2.2.1, .int .i64 r4.1.2.2.2.2.2.1, .int .i64 r4.1.2.2.2.2.2.2.1, .int .i64 r4.1.2.2.2.2.2.2.2.1, .int .i64 r4.1.2.2.2.2.2.2.2.2] w32 := B4_31.drew.kept k32 (by omega)
      have B5_32 : Arr (w4.heap.size + 1) [.int .i64 r9.1, .int .i64 r15.1, .int .i64 r21.1, .int .i64 r27.1, .int .i64 0, .int .i64 0, .int .i64 0, .int .i64 0, .int .i64 0] w32 := B5_31.drew.kept k32 (by omega)
      have z32 := B5_32.lies
      clear hHeld
      refine hK.out _ _ trivial (fun hHeld => ?_)
      clear hK K K31 f31 B0_31 B1_31 B2_31 B3_31 B4_31 B5_31 k32
      refine call_at (i := 8) (by kernel_rfl) rfl (fun K hK => ?_)
      go_simp
      refine (rAdd_any b r32.2 r32.1 r31.1 _ f32).mono ?_
      rintro e w33 ⟨rfl, f33, k33⟩
      generalize e33 : addS r32.2 r32.1 r31.1 = r33 at f33 ⊢
      have E33 : Hid _ := e33
      clear e33
      have K33 : Kept b w w33 := Kept.trans K32 k33
      have B0_33 : Arr w.heap.size [.int .i64 p.1, .int .i64 p.2.1, .int .i64 p.2.2.1, .int .i64 p.2.2.2.1, .int .i64 p.2.2.2.2.1, .int .i64 p.2.2.2.2.2] w33 := B0_32.kept k33 (by omega)
      have B1_33 : Arr (w.heap.size + 1) [.int .i64 q.1, .int .i64 q.2.1, .int .i64 q.2.2.1, .int .i64 q.2.2.2.1, .int .i64 q.2.2.2.2.1, .int .i64 q.2.2.2.2.2] w33 := B1_32.kept k33 (by omega)
      have B2_33 : Arr (w.heap.size + 1 + 1) [.int .i64 0, .int .i64 0, .int .i64 0, .int .i64 0] w33 := B2_32.kept k33 (by omega)
      have B3_33 : Arr w3.heap.size [.int .i64 r3.1.1, .int .i64 r3.1.2.1, .int .i64 r3.1.2.2.1, .int .i64 r3.1.2.2.2.1, .int .i64 r3.1.2.2.2.2.1, .int .i64 r3.1.2.2.2.2.2.1, .int .i64 r3.1.2.2.2.2.2.2.1, .int .i64 r3.1.2.2.2.2.2.2.2.1, .int .i64 r3.1.2.2.2.2.2.2.2.2] w33 := B3_32.kept k33 (by omega)
      have B4_33 : Arr w4.heap.size [.int .i64 r4.1.1, .int .i64 r4.1.2.1, .int .i64 r4.1.2.2.1, .int .i64 r4.1.2.2.2.1, .int .i64 r4.1.2.2.2.2.1, .int .i64 r4.1.2.2.2.2.2.1, .int .i64 r4.1.2.2.2.2.2.2.1, .int .i64 r4.1.2.2.2.2.2.2.2.1, .int .i64 r4.1.2.2.2.2.2.2.2.2] w33 := B4_32.kept k33 (by omega)
      have B5_33 : Arr (w4.heap.size + 1) [.int .i64 r9.1, .int .i64 r15.1, .int .i64 r21.1, .int .i64 r27.1, .int .i64 0, .int .i64 0, .int .i64 0, .int .i64 0, .int .i64 0] w33 := B5_32.kept k33 (by omega)
      have z33 := B5_33.lies
      clear hHeld
      refine hK.out _ _ trivial (fun hHeld => ?_)
      clear hK K K32 f32 B0_32 B1_32 B2_32 B3_32 B4_32 B5_32 k33
      refine take_at (i := 10) (v := ?v1131) rfl (by kernel_rfl) (by kernel_rfl) (by kernel_rfl) (fun _ _ _ h => h) (Or.inl ⟨by rfl, ?y1131⟩) hHeld ?t1131
      case y1131 => (intro wx hSw; go_simp <;> with_reducible rfl)
      simp only [Act.put, List.setIfInBounds_toArray, List.set_cons_zero, List.set_cons_succ]
      refine call_at (i := 11) (by kernel_rfl) rfl (fun K hK => ?_)
      have c37_B5_4 : w33.cell? ⟨w4.heap.size + 1, 4, none⟩ = some (.int .i64 0) := B5_33.c 4 (of_decide_eq_true rfl)
      have g37_B5_4 := B5_33.f 4 (of_decide_eq_true rfl)
      go_simp
      clear hHeld
      refine hK.out _ _ trivial (fun hHeld => ?_)
      clear hK K c37_B5_4 g37_B5_4
      refine wpAnyH_done (by kernel_rfl) ?_ _
      clear hHeld
      have P33 : Hid (zlS r27.2 r4.1.2.1 r3.1.2.1 r4.1.2.2.2.2.1 r3.1.2.2.2.2.1 r4.1.2.2.2.2.2.2.2.1 r3.1.2.2.2.2.2.2.2.1 = r33) := by show _ = _; unfold zlS; simp only [E29.out, E30.out, E31.out, E32.out, E33.out]
      clear E29 E30 E31 E32 E33
      go_wp2_with fail
      refine rounds_letter (S := fun w' => Kept b w w' ∧ Fl b r33.2 w' ∧ Arr w.heap.size [.int .i64 p.1, .int .i64 p.2.1, .int .i64 p.2.2.1, .int .i64 p.2.2.2.1, .int .i64 p.2.2.2.2.1, .int .i64 p.2.2.2.2.2] w' ∧ Arr (w.heap.size + 1) [.int .i64 q.1, .int .i64 q.2.1, .int .i64 q.2.2.1, .int .i64 q.2.2.2.1, .int .i64 q.2.2.2.2.1, .int .i64 q.2.2.2.2.2] w' ∧ Arr (w.heap.size + 1 + 1) [.int .i64 0, .int .i64 0, .int .i64 0, .int .i64 0] w' ∧ Arr w3.heap.size [.int .i64 r3.1.1, .int .i64 r3.1.2.1, .int .i64 r3.1.2.2.1, .int .i64 r3.1.2.2.2.1, .int .i64 r3.1.2.2.2.2.1, .int .i64 r3.1.2.2.2.2.2.1, .int .i64 r3.1.2.2.2.2.2.2.1, .int .i64 r3.1.2.2.2.2.2.2.2.1, .int .i64 r3.1.2.2.2.2.2.2.2.2] w' ∧ Arr w4.heap.size [.int .i64 r4.1.1, .int .i64 r4.1.2.1, .int .i64 r4.1.2.2.1, .int .i64 r4.1.2.2.2.1, .int .i64 r4.1.2.2.2.2.1, .int .i64 r4.1.2.2.2.2.2.1, .int .i64 r4.1.2.2.2.2.2.2.1, .int .i64 r4.1.2.2.2.2.2.2.2.1, .int .i64 r4.1.2.2.2.2.2.2.2.2] w' ∧ Arr (w4.heap.size + 1) [.int .i64 r9.1, .int .i64 r15.1, .int .i64 r21.1, .int .i64 r27.1, .int .i64 r33.1, .int .i64 0, .int .i64 0, .int .i64 0, .int .i64 0] w') ⟨(K33.new _ _ (by omega) _), (f33.new (w4.heap.size + 1) 4 (by omega) (.int .i64 r33.1)), (B0_33.new (w4.heap.size + 1) 4 (by omega) (.int .i64 r33.1)), (B1_33.new (w4.heap.size + 1) 4 (by omega) (.int .i64 r33.1)), (B2_33.new (w4.heap.size + 1) 4 (by omega) (.int .i64 r33.1)), (B3_33.new (w4.heap.size + 1) 4 (by omega) (.int .i64 r33.1)), (B4_33.new (w4.heap.size + 1) 4 (by omega) (.int .i64 r33.1)), (B5_33.put 4 (of_decide_eq_true rfl) (.int .i64 r33.1) [.int .i64 r9.1, .int .i64 r15.1, .int .i64 r21.1, .int .i64 r27.1, .int .i64 r33.1, .int .i64 0, .int .i64 0, .int .i64 0, .int .i64 0] rfl)⟩ ?_
      rintro w34 ⟨K34, BF_34, B0_34, B1_34, B2_34, B3_34, B4_34, B5_34⟩
      have z34 := B5_34.lies
      clear K33 f33 B0_33 B1_33 B2_33 B3_33 B4_33 B5_33
      rw [rounds_succ]
      go_wp2_with fail
      refine wp_region_held_drew (S := fun w' => Arr w4.heap.size [.int .i64 r4.1.1, .int .i64 r4.1.2.1, .int .i64 r4.1.2.2.1, .int .i64 r4.1.2.2.2.1, .int .i64 r4.1.2.2.2.2.1, .int .i64 r4.1.2.2.2.2.2.1, .int .i64 r4.1.2.2.2.2.2.2.1, .int .i64 r4.1.2.2.2.2.2.2.2.1, .int .i64 r4.1.2.2.2.2.2.2.2.2] w' ∧ Arr w3.heap.size [.int .i64 r3.1.1, .int .i64 r3.1.2.1, .int .i64 r3.1.2.2.1, .int .i64 r3.1.2.2.2.1, .int .i64 r3.1.2.2.2.2.1, .int .i64 r3.1.2.2.2.2.2.1, .int .i64 r3.1.2.2.2.2.2.2.1, .int .i64 r3.1.2.2.2.2.2.2.2.1, .int .i64 r3.1.2.2.2.2.2.2.2.2] w') (by kernel_rfl) ⟨B4_34.drew, B3_34.drew⟩ (fun hHeld => ?_)
      refine take_at (i := 0) (v := ?v1132) rfl (by kernel_rfl) (by kernel_rfl) (by kernel_rfl) (fun _ _ _ h => h) (Or.inl ⟨by rfl, ?y1132⟩) hHeld ?t1132
      case y1132 => (intro wx hSw; go_simp <;> with_reducible rfl)
      simp only [Act.put, List.setIfInBounds_toArray, List.set_cons_zero, List.set_cons_succ]
      refine take_at (i := 1) (v := ?v1133) rfl (by kernel_rfl) (by kernel_rfl) (by kernel_rfl) (fun _ _ _ h => h) (Or.inl ⟨by rfl, ?y1133⟩) hHeld ?t1133
      case y1133 => (intro wx hSw; go_simp <;> with_reducible rfl)
      simp only [Act.put, List.setIfInBounds_toArray, List.set_cons_zero, List.set_cons_succ]
      refine take_at (i := 2) (v := ?v1134) rfl (by kernel_rfl) (by kernel_rfl) (by kernel_rfl) (fun _ _ _ h => h) (Or.inl ⟨by rfl, ?y1134⟩) hHeld ?t1134
      case y1134 => (intro wx hSw; go_simp <;> with_reducible rfl)
      simp only [Act.put, List.setIfInBounds_toArray, List.set_cons_zero, List.set_cons_succ]
      refine take_at (i := 3) (v := ?v1135) rfl (by kernel_rfl) (by kernel_rfl) (by kernel_rfl) (fun _ _ _ h => h) (Or.inl ⟨by rfl, ?y1135⟩) hHeld ?t1135
      case y1135 => (intro wx hSw; go_simp <;> with_reducible rfl)
      simp only [Act.put, List.setIfInBounds_toArray, List.set_cons_zero, List.set_cons_succ]
      refine take_at (i := 4) (v := ?v1136) rfl (by kernel_rfl) (by kernel_rfl) (by kernel_rfl) (fun _ _ _ h => h) (Or.inl ⟨by rfl, ?y1136⟩) hHeld ?t1136
      case y1136 => (intro wx hSw; have hc1 : wx.cell? ⟨w4.heap.size, 1, none⟩ = some (.int .i64 r4.1.2.1) := hSw.1.c 1 (of_decide_eq_true rfl); go_simp <;> with_reducible rfl)
      simp only [Act.put, List.setIfInBounds_toArray, List.set_cons_zero, List.set_cons_succ]
      refine take_at (i := 5) (v := ?v1137) rfl (by kernel_rfl) (by kernel_rfl) (by kernel_rfl) (fun _ _ _ h => h) (Or.inl ⟨by rfl, ?y1137⟩) hHeld ?t1137
      case y1137 => (intro wx hSw; go_simp <;> with_reducible rfl)
      simp only [Act.put, List.setIfInBounds_toArray, List.set_cons_zero, List.set_cons_succ]
      refine take_at (i := 6) (v := ?v1138) rfl (by kernel_rfl) (by kernel_rfl) (by kernel_rfl) (fun _ _ _ h => h) (Or.inl ⟨by rfl, ?y1138⟩) hHeld ?t1138
      case y1138 => (intro wx hSw; go_simp <;> with_reducible rfl)
      simp only [Act.put, List.setIfInBounds_toArray, List.set_cons_zero, List.set_cons_succ]
      refine take_at (i := 7) (v := ?v1139) rfl (by kernel_rfl) (by kernel_rfl) (by kernel_rfl) (fun _ _ _ h => h) (Or.inl ⟨by rfl, ?y1139⟩) hHeld ?t1139
      case y1139 => (intro wx hSw; go_simp <;> with_reducible rfl)
      simp only [Act.put, List.setIfInBounds_toArray, List.set_cons_zero, List.set_cons_succ]
      refine take_at (i := 8) (v := ?v1140) rfl (by kernel_rfl) (by kernel_rfl) (by kernel_rfl) (fun _ _ _ h => h) (Or.inl ⟨by rfl, ?y1140⟩) hHeld ?t1140
      case y1140 => (intro wx hSw; have hc2 : wx.cell? ⟨w3.heap.size, 2, none⟩ = some (.int .i64 r3.1.2.2.1) := hSw.2.c 2 (of_decide_eq_true rfl); go_simp <;> with_reducible rfl)
      simp only [Act.put, List.setIfInBounds_toArray, List.set_cons_zero, List.set_cons_succ]
      refine call_at (i := 9) (by kernel_rfl) rfl (fun K hK => ?_)
      go_simp
      refine (rMul_any b r33.2 r4.1.2.1 r3.1.2.2.1 _ BF_34.drew).mono ?_
      rintro e w35 ⟨rfl, f35, k35⟩
      generalize e35 : mulS r33.2 r4.1.2.1 r3.1.2.2.1 = r35 at f35 ⊢
      have E35 : Hid _ := e35
      clear e35
      have K35 : Kept b w w35 := Kept.trans K34.drew k35
      have B0_35 : Arr w.heap.size [.int .i64 p.1, .int .i64 p.2.1, .int .i64 p.2.2.1, .int .i64 p.2.2.2.1, .int .i64 p.2.2.2.2.1, .int .i64 p.2.2.2.2.2] w35 := B0_34.drew.kept k35 (by omega)
      have B1_35 : Arr (w.heap.size + 1) [.int .i64 q.1, .int .i64 q.2.1, .int .i64 q.2.2.1, .int .i64 q.2.2.2.1, .int .i64 q.2.2.2.2.1, .int .i64 q.2.2.2.2.2] w35 := B1_34.drew.kept k35 (by omega)
      have B2_35 : Arr (w.heap.size + 1 + 1) [.int .i64 0, .int .i64 0, .int .i64 0, .int .i64 0] w35 := B2_34.drew.kept k35 (by omega)
      have B3_35 : Arr w3.heap.size [.int .i64 r3.1.1, .int .i64 r3.1.2.1, .int .i64 r3.1.2.2.1, .int .i64 r3.1.2.2.2.1, .int .i64 r3.1.2.2.2.2.1, .int .i64 r3.1.2.2.2.2.2.1, .int .i64 r3.1.2.2.2.2.2.2.1, .int .i64 r3.1.2.2.2.2.2.2.2.1, .int .i64 r3.1.2.2.2.2.2.2.2.2] w35 := B3_34.drew.kept k35 (by omega)
      have B4_35 : Arr w4.heap.size [.int .i64 r4.1.1, .int .i64 r4.1.2.1, .int .i64 r4.1.2.2.1, .int .i64 r4.1.2.2.2.1, .int .i64 r4.1.2.2.2.2.1, .int .i64 r4.1.2.2.2.2.2.1, .int .i64 r4.1.2.2.2.2.2.2.1, .int .i64 r4.1.2.2.2.2.2.2.2.1, .int .i64 r4.1.2.2.2.2.2.2.2.2] w35 := B4_34.drew.kept k35 (by omega)
      have B5_35 : Arr (w4.heap.size + 1) [.int .i64 r9.1, .int .i64 r15.1, .int .i64 r21.1, .int .i64 r27.1, .int .i64 r33.1, .int .i64 0, .int .i64 0, .int .i64 0, .int .i64 0] w35 := B5_34.drew.kept k35 (by omega)
      have z35 := B5_35.lies
      clear hHeld
      refine hK.out _ _ ⟨B4_35, B3_35⟩ (fun hHeld => ?_)
      clear hK K K34 BF_34 B0_34 B1_34 B2_34 B3_34 B4_34 B5_34 k35
      refine take_at (i := 10) (v := ?v1141) rfl (by kernel_rfl) (by kernel_rfl) (by kernel_rfl) (fun _ _ _ h => h) (Or.inl ⟨by rfl, ?y1141⟩) hHeld ?t1141
      case y1141 => (intro wx hSw; go_simp <;> with_reducible rfl)
      simp only [Act.put, List.setIfInBounds_toArray, List.set_cons_zero, List.set_cons_succ]
      refine wpAnyH_done (by kernel_rfl) ?_ _
      clear hHeld
      go_wp2_with fail
      refine wp_region_held_drew (S := fun w' => Arr w4.heap.size [.int .i64 r4.1.1, .int .i64 r4.1.2.1, .int .i64 r4.1.2.2.1, .int .i64 r4.1.2.2.2.1, .int .i64 r4.1.2.2.2.2.1, .int .i64 r4.1.2.2.2.2.2.1, .int .i64 r4.1.2.2.2.2.2.2.1, .int .i64 r4.1.2.2.2.2.2.2.2.1, .int .i64 r4.1.2.2.2.2.2.2.2.2] w' ∧ Arr w3.heap.size [.int .i64 r3.1.1, .int .i64 r3.1.2.1, .int .i64 r3.1.2.2.1, .int .i64 r3.1.2.2.2.1, .int .i64 r3.1.2.2.2.2.1, .int .i64 r3.1.2.2.2.2.2.1, .int .i64 r3.1.2.2.2.2.2.2.1, .int .i64 r3.1.2.2.2.2.2.2.2.1, .int .i64 r3.1.2.2.2.2.2.2.2.2] w') (by kernel_rfl) ⟨B4_35.drew, B3_35.drew⟩ (fun hHeld => ?_)
      refine take_at (i := 0) (v := ?v1142) rfl (by kernel_rfl) (by kernel_rfl) (by kernel_rfl) (fun _ _ _ h => h) (Or.inl ⟨by rfl, ?y1142⟩) hHeld ?t1142
      case y1142 => (intro wx hSw; go_simp <;> with_reducible rfl)
      simp only [Act.put, List.setIfInBounds_toArray, List.set_cons_zero, List.set_cons_succ]
      refine take_at (i := 1) (v := ?v1143) rfl (by kernel_rfl) (by kernel_rfl) (by kernel_rfl) (fun _ _ _ h => h) (Or.inl ⟨by rfl, ?y1143⟩) hHeld ?t1143
      case y1143 => (intro wx hSw; go_simp <;> with_reducible rfl)
      simp only [Act.put, List.setIfInBounds_toArray, List.set_cons_zero, List.set_cons_succ]
      refine take_at (i := 2) (v := ?v1144) rfl (by kernel_rfl) (by kernel_rfl) (by kernel_rfl) (fun _ _ _ h => h) (Or.inl ⟨by rfl, ?y1144⟩) hHeld ?t1144
      case y1144 => (intro wx hSw; go_simp <;> with_reducible rfl)
      simp only [Act.put, List.setIfInBounds_toArray, List.set_cons_zero, List.set_cons_succ]
      refine take_at (i := 3) (v := ?v1145) rfl (by kernel_rfl) (by kernel_rfl) (by kernel_rfl) (fun _ _ _ h => h) (Or.inl ⟨by rfl, ?y1145⟩) hHeld ?t1145
      case y1145 => (intro wx hSw; go_simp <;> with_reducible rfl)
      simp only [Act.put, List.setIfInBounds_toArray, List.set_cons_zero, List.set_cons_succ]
      refine take_at (i := 4) (v := ?v1146) rfl (by kernel_rfl) (by kernel_rfl) (by kernel_rfl) (fun _ _ _ h => h) (Or.inl ⟨by rfl, ?y1146⟩) hHeld ?t1146
      case y1146 => (intro wx hSw; have hc4 : wx.cell? ⟨w4.heap.size, 4, none⟩ = some (.int .i64 r4.1.2.2.2.2.1) := hSw.1.c 4 (of_decide_eq_true rfl); go_simp <;> with_reducible rfl)
      simp only [Act.put, List.setIfInBounds_toArray, List.set_cons_zero, List.set_cons_succ]
      refine take_at (i := 5) (v := ?v1147) rfl (by kernel_rfl) (by kernel_rfl) (by kernel_rfl) (fun _ _ _ h => h) (Or.inl ⟨by rfl, ?y1147⟩) hHeld ?t1147
      case y1147 => (intro wx hSw; go_simp <;> with_reducible rfl)
      simp only [Act.put, List.setIfInBounds_toArray, List.set_cons_zero, List.set_cons_succ]
      refine take_at (i := 6) (v := ?v1148) rfl (by kernel_rfl) (by kernel_rfl) (by kernel_rfl) (fun _ _ _ h => h) (Or.inl ⟨by rfl, ?y1148⟩) hHeld ?t1148
      case y1148 => (intro wx hSw; go_simp <;> with_reducible rfl)
      simp only [Act.put, List.setIfInBounds_toArray, List.set_cons_zero, List.set_cons_succ]
      refine take_at (i := 7) (v := ?v1149) rfl (by kernel_rfl) (by kernel_rfl) (by kernel_rfl) (fun _ _ _ h => h) (Or.inl ⟨by rfl, ?y1149⟩) hHeld ?t1149
      case y1149 => (intro wx hSw; go_simp <;> with_reducible rfl)
      simp only [Act.put, List.setIfInBounds_toArray, List.set_cons_zero, List.set_cons_succ]
      refine take_at (i := 8) (v := ?v1150) rfl (by kernel_rfl) (by kernel_rfl) (by kernel_rfl) (fun _ _ _ h => h) (Or.inl ⟨by rfl, ?y1150⟩) hHeld ?t1150
      case y1150 => (intro wx hSw; have hc5 : wx.cell? ⟨w3.heap.size, 5, none⟩ = some (.int .i64 r3.1.2.2.2.2.2.1) := hSw.2.c 5 (of_decide_eq_true rfl); go_simp <;> with_reducible rfl)
      simp only [Act.put, List.setIfInBounds_toArray, List.set_cons_zero, List.set_cons_succ]
      refine call_at (i := 9) (by kernel_rfl) rfl (fun K hK => ?_)
      go_simp
      refine (rMul_any b r35.2 r4.1.2.2.2.2.1 r3.1.2.2.2.2.2.1 _ f35.drew).mono ?_
      rintro e w36 ⟨rfl, f36, k36⟩
      generalize e36 : mulS r35.2 r4.1.2.2.2.2.1 r3.1.2.2.2.2.2.1 = r36 at f36 ⊢
      have E36 : Hid _ := e36
      clear e36
      have K36 : Kept b w w36 := Kept.trans K35.drew k36
      have B0_36 : Arr w.heap.size [.int .i64 p.1, .int .i64 p.2.1, .int .i64 p.2.2.1, .int .i64 p.2.2.2.1, .int .i64 p.2.2.2.2.1, .int .i64 p.2.2.2.2.2] w36 := B0_35.drew.kept k36 (by omega)
      have B1_36 : Arr (w.heap.size + 1) [.int .i64 q.1, .int .i64 q.2.1, .int .i64 q.2.2.1, .int .i64 q.2.2.2.1, .int .i64 q.2.2.2.2.1, .int .i64 q.2.2.2.2.2] w36 := B1_35.drew.kept k36 (by omega)
      have B2_36 : Arr (w.heap.size + 1 + 1) [.int .i64 0, .int .i64 0, .int .i64 0, .int .i64 0] w36 := B2_35.drew.kept k36 (by omega)
      have B3_36 : Arr w3.heap.size [.int .i64 r3.1.1, .int .i64 r3.1.2.1, .int .i64 r3.1.2.2.1, .int .i64 r3.1.2.2.2.1, .int .i64 r3.1.2.2.2.2.1, .int .i64 r3.1.2.2.2.2.2.1, .int .i64 r3.1.2.2.2.2.2.2.1, .int .i64 r3.1.2.2.2.2.2.2.2.1, .int .i64 r3.1.2.2.2.2.2.2.2.2] w36 := B3_35.drew.kept k36 (by omega)
      have B4_36 : Arr w4.heap.size [.int .i64 r4.1.1, .int .i64 r4.1.2.1, .int .i64 r4.1.2.2.1, .int .i64 r4.1.2.2.2.1, .int .i64 r4.1.2.2.2.2.1, .int .i64 r4.1.2.2.2.2.2.1, .int .i64 r4.1.2.2.2.2.2.2.1, .int .i64 r4.1.2.2.2.2.2.2.2.1, .int .i64 r4.1.2.2.2.2.2.2.2.2] w36 := B4_35.drew.kept k36 (by omega)
      have B5_36 : Arr (w4.heap.size + 1) [.int .i64 r9.1, .int .i64 r15.1, .int .i64 r21.1, .int .i64 r27.1, .int .i64 r33.1, .int .i64 0, .int .i64 0, .int .i64 0, .int .i64 0] w36 := B5_35.drew.kept k36 (by omega)
      have z36 := B5_36.lies
      clear hHeld
      refine hK.out _ _ ⟨B4_36, B3_36⟩ (fun hHeld => ?_)
      clear hK K K35 f35 B0_35 B1_35 B2_35 B3_35 B4_35 B5_35 k36
      refine take_at (i := 10) (v := ?v1151) rfl (by kernel_rfl) (by kernel_rfl) (by kernel_rfl) (fun _ _ _ h => h) (Or.inl ⟨by rfl, ?y1151⟩) hHeld ?t1151
      case y1151 => (intro wx hSw; go_simp <;> with_reducible rfl)
      simp only [Act.put, List.setIfInBounds_toArray, List.set_cons_zero, List.set_cons_succ]
      refine wpAnyH_done (by kernel_rfl) ?_ _
      clear hHeld
      go_wp2_with fail
      refine wp_region_held_drew (S := fun w' => Arr w4.heap.size [.int .i64 r4.1.1, .int .i64 r4.1.2.1, .int .i64 r4.1.2.2.1, .int .i64 r4.1.2.2.2.1, .int .i64 r4.1.2.2.2.2.1, .int .i64 r4.1.2.2.2.2.2.1, .int .i64 r4.1.2.2.2.2.2.2.1, .int .i64 r4.1.2.2.2.2.2.2.2.1, .int .i64 r4.1.2.2.2.2.2.2.2.2] w' ∧ Arr w3.heap.size [.int .i64 r3.1.1, .int .i64 r3.1.2.1, .int .i64 r3.1.2.2.1, .int .i64 r3.1.2.2.2.1, .int .i64 r3.1.2.2.2.2.1, .int .i64 r3.1.2.2.2.2.2.1, .int .i64 r3.1.2.2.2.2.2.2.1, .int .i64 r3.1.2.2.2.2.2.2.2.1, .int .i64 r3.1.2.2.2.2.2.2.2.2] w') (by kernel_rfl) ⟨B4_36.drew, B3_36.drew⟩ (fun hHeld => ?_)
      refine take_at (i := 0) (v := ?v1152) rfl (by kernel_rfl) (by kernel_rfl) (by kernel_rfl) (fun _ _ _ h => h) (Or.inl ⟨by rfl, ?y1152⟩) hHeld ?t1152
      case y1152 => (intro wx hSw; go_simp <;> with_reducible rfl)
      simp only [Act.put, List.setIfInBounds_toArray, List.set_cons_zero, List.set_cons_succ]
      refine take_at (i := 1) (v := ?v1153) rfl (by kernel_rfl) (by kernel_rfl) (by kernel_rfl) (fun _ _ _ h => h) (Or.inl ⟨by rfl, ?y1153⟩) hHeld ?t1153
      case y1153 => (intro wx hSw; go_simp <;> with_reducible rfl)
      simp only [Act.put, List.setIfInBounds_toArray, List.set_cons_zero, List.set_cons_succ]
      refine take_at (i := 2) (v := ?v1154) rfl (by kernel_rfl) (by kernel_rfl) (by kernel_rfl) (fun _ _ _ h => h) (Or.inl ⟨by rfl, ?y1154⟩) hHeld ?t1154
      case y1154 => (intro wx hSw; go_simp <;> with_reducible rfl)
      simp only [Act.put, List.setIfInBounds_toArray, List.set_cons_zero, List.set_cons_succ]
      refine take_at (i := 3) (v := ?v1155) rfl (by kernel_rfl) (by kernel_rfl) (by kernel_rfl) (fun _ _ _ h => h) (Or.inl ⟨by rfl, ?y1155⟩) hHeld ?t1155
      case y1155 => (intro wx hSw; go_simp <;> with_reducible rfl)
      simp only [Act.put, List.setIfInBounds_toArray, List.set_cons_zero, List.set_cons_succ]
      refine take_at (i := 4) (v := ?v1156) rfl (by kernel_rfl) (by kernel_rfl) (by kernel_rfl) (fun _ _ _ h => h) (Or.inl ⟨by rfl, ?y1156⟩) hHeld ?t1156
      case y1156 => (intro wx hSw; have hc7 : wx.cell? ⟨w4.heap.size, 7, none⟩ = some (.int .i64 r4.1.2.2.2.2.2.2.2.1) := hSw.1.c 7 (of_decide_eq_true rfl); go_simp <;> with_reducible rfl)
      simp only [Act.put, List.setIfInBounds_toArray, List.set_cons_zero, List.set_cons_succ]
      refine take_at (i := 5) (v := ?v1157) rfl (by kernel_rfl) (by kernel_rfl) (by kernel_rfl) (fun _ _ _ h => h) (Or.inl ⟨by rfl, ?y1157⟩) hHeld ?t1157
      case y1157 => (intro wx hSw; go_simp <;> with_reducible rfl)
      simp only [Act.put, List.setIfInBounds_toArray, List.set_cons_zero, List.set_cons_succ]
      refine take_at (i := 6) (v := ?v1158) rfl (by kernel_rfl) (by kernel_rfl) (by kernel_rfl) (fun _ _ _ h => h) (Or.inl ⟨by rfl, ?y1158⟩) hHeld ?t1158
      case y1158 => (intro wx hSw; go_simp <;> with_reducible rfl)
      simp only [Act.put, List.setIfInBounds_toArray, List.set_cons_zero, List.set_cons_succ]
      refine take_at (i := 7) (v := ?v1159) rfl (by kernel_rfl) (by kernel_rfl) (by kernel_rfl) (fun _ _ _ h => h) (Or.inl ⟨by rfl, ?y1159⟩) hHeld ?t1159
      case y1159 => (intro wx hSw; go_simp <;> with_reducible rfl)
      simp only [Act.put, List.setIfInBounds_toArray, List.set_cons_zero, List.set_cons_succ]
      refine take_at (i := 8) (v := ?v1160) rfl (by kernel_rfl) (by kernel_rfl) (by kernel_rfl) (fun _ _ _ h => h) (Or.inl ⟨by rfl, ?y1160⟩) hHeld ?t1160
      case y1160 => (intro wx hSw; have hc8 : wx.cell? ⟨w3.heap.size, 8, none⟩ = some (.int .i64 r3.1.2.2.2.2.2.2.2.2) := hSw.2.c 8 (of_decide_eq_true rfl); go_simp <;> with_reducible rfl)
      simp only [Act.put, List.setIfInBounds_toArray, List.set_cons_zero, List.set_cons_succ]
      refine call_at (i := 9) (by kernel_rfl) rfl (fun K hK => ?_)
      go_simp
      refine (rMul_any b r36.2 r4.1.2.2.2.2.2.2.2.1 r3.1.2.2.2.2.2.2.2.2 _ f36.drew).mono ?_
      rintro e w37 ⟨rfl, f37, k37⟩
      generalize e37 : mulS r36.2 r4.1.2.2.2.2.2.2.2.1 r3.1.2.2.2.2.2.2.2.2 = r37 at f37 ⊢
      have E37 : Hid _ := e37
      clear e37
      have K37 : Kept b w w37 := Kept.trans K36.drew k37
      have B0_37 : Arr w.heap.size [.int .i64 p.1, .int .i64 p.2.1, .int .i64 p.2.2.1, .int .i64 p.2.2.2.1, .int .i64 p.2.2.2.2.1, .int .i64 p.2.2.2.2.2] w37 := B0_36.drew.kept k37 (by omega)
      have B1_37 : Arr (w.heap.size + 1) [.int .i64 q.1, .int .i64 q.2.1, .int .i64 q.2.2.1, .int .i64 q.2.2.2.1, .int .i64 q.2.2.2.2.1, .int .i64 q.2.2.2.2.2] w37 := B1_36.drew.kept k37 (by omega)
      have B2_37 : Arr (w.heap.size + 1 + 1) [.int .i64 0, .int .i64 0, .int .i64 0, .int .i64 0] w37 := B2_36.drew.kept k37 (by omega)
      have B3_37 : Arr w3.heap.size [.int .i64 r3.1.1, .int .i64 r3.1.2.1, .int .i64 r3.1.2.2.1, .int .i64 r3.1.2.2.2.1, .int .i64 r3.1.2.2.2.2.1, .int .i64 r3.1.2.2.2.2.2.1, .int .i64 r3.1.2.2.2.2.2.2.1, .int .i64 r3.1.2.2.2.2.2.2.2.1, .int .i64 r3.1.2.2.2.2.2.2.2.2] w37 := B3_36.drew.kept k37 (by omega)
      have B4_37 : Arr w4.heap.size [.int .i64 r4.1.1, .int .i64 r4.1.2.1, .int .i64 r4.1.2.2.1, .int .i64 r4.1.2.2.2.1, .int .i64 r4.1.2.2.2.2.1, .int .i64 r4.1.2.2.2.2.2.1, .int .i64 r4.1.2.2.2.2.2.2.1, .int .i64 r4.1.2.2.2.2.2.2.2.1, .int .i64 r4.1.2.2.2.2.2.2.2.2] w37 := B4_36.drew.kept k37 (by omega)
      have B5_37 : Arr (w4.heap.size + 1) [.int .i64 r9.1, .int .i64 r15.1, .int .i64 r21.1, .int .i64 r27.1, .int .i64 r33.1, .int .i64 0, .int .i64 0, .int .i64 0, .int .i64 0] w37 := B5_36.drew.kept k37 (by omega)
      have z37 := B5_37.lies
      clear hHeld
      refine hK.out _ _ ⟨B4_37, B3_37⟩ (fun hHeld => ?_)
      clear hK K K36 f36 B0_36 B1_36 B2_36 B3_36 B4_36 B5_36 k37
      refine take_at (i := 10) (v := ?v1161) rfl (by kernel_rfl) (by kernel_rfl) (by kernel_rfl) (fun _ _ _ h => h) (Or.inl ⟨by rfl, ?y1161⟩) hHeld ?t1161
      case y1161 => (intro wx hSw; go_simp <;> with_reducible rfl)
      simp only [Act.put, List.setIfInBounds_toArray, List.set_cons_zero, List.set_cons_succ]
      refine wpAnyH_done (by kernel_rfl) ?_ _
      clear hHeld
      go_wp2_with fail
      refine wp_region_held_drew (S := fun _ => True) (by kernel_rfl) trivial (fun hHeld => ?_)
      refine take_at (i := 0) (v := ?v1162) rfl (by kernel_rfl) (by kernel_rfl) (by kernel_rfl) (fun _ _ _ h => h) (Or.inl ⟨by rfl, ?y1162⟩) hHeld ?t1162
      case y1162 => (intro wx hSw; go_simp <;> with_reducible rfl)
      simp only [Act.put, List.setIfInBounds_toArray, List.set_cons_zero, List.set_cons_succ]
      refine take_at (i := 1) (v := ?v1163) rfl (by kernel_rfl) (by kernel_rfl) (by kernel_rfl) (fun _ _ _ h => h) (Or.inl ⟨by rfl, ?y1163⟩) hHeld ?t1163
      case y1163 => (intro wx hSw; go_simp <;> with_reducible rfl)
      simp only [Act.put, List.setIfInBounds_toArray, List.set_cons_zero, List.set_cons_succ]
      refine take_at (i := 2) (v := ?v1164) rfl (by kernel_rfl) (by kernel_rfl) (by kernel_rfl) (fun _ _ _ h => h) (Or.inl ⟨by rfl, ?y1164⟩) hHeld ?t1164
      case y1164 => (intro wx hSw; go_simp <;> with_reducible rfl)
      simp only [Act.put, List.setIfInBounds_toArray, List.set_cons_zero, List.set_cons_succ]
      refine take_at (i := 3) (v := ?v1165) rfl (by kernel_rfl) (by kernel_rfl) (by kernel_rfl) (fun _ _ _ h => h) (Or.inl ⟨by rfl, ?y1165⟩) hHeld ?t1165
      case y1165 => (intro wx hSw; go_simp <;> with_reducible rfl)
      simp only [Act.put, List.setIfInBounds_toArray, List.set_cons_zero, List.set_cons_succ]
      refine take_at (i := 4) (v := ?v1166) rfl (by kernel_rfl) (by kernel_rfl) (by kernel_rfl) (fun _ _ _ h => h) (Or.inl ⟨by rfl, ?y1166⟩) hHeld ?t1166
      case y1166 => (intro wx hSw; go_simp <;> with_reducible rfl)
      simp only [Act.put, List.setIfInBounds_toArray, List.set_cons_zero, List.set_cons_succ]
      refine take_at (i := 5) (v := ?v1167) rfl (by kernel_rfl) (by kernel_rfl) (by kernel_rfl) (fun _ _ _ h => h) (Or.inl ⟨by rfl, ?y1167⟩) hHeld ?t1167
      case y1167 => (intro wx hSw; go_simp <;> with_reducible rfl)
      simp only [Act.put, List.setIfInBounds_toArray, List.set_cons_zero, List.set_cons_succ]
      refine take_at (i := 7) (v := ?v1168) rfl (by kernel_rfl) (by kernel_rfl) (by kernel_rfl) (fun _ _ _ h => h) (Or.inl ⟨by rfl, ?y1168⟩) hHeld ?t1168
      case y1168 => (intro wx hSw; go_simp <;> with_reducible rfl)
      simp only [Act.put, List.setIfInBounds_toArray, List.set_cons_zero, List.set_cons_succ]
      refine take_at (i := 9) (v := ?v1169) rfl (by kernel_rfl) (by kernel_rfl) (by kernel_rfl) (fun _ _ _ h => h) (Or.inl ⟨by rfl, ?y1169⟩) hHeld ?t1169
      case y1169 => (intro wx hSw; go_simp <;> with_reducible rfl)
      simp only [Act.put, List.setIfInBounds_toArray, List.set_cons_zero, List.set_cons_succ]
      refine call_at (i := 6) (by kernel_rfl) rfl (fun K hK => ?_)
      go_simp
      refine (rAdd_any b r37.2 r35.1 r36.1 _ f37.drew).mono ?_
      rintro e w38 ⟨rfl, f38, k38⟩
      generalize e38 : addS r37.2 r35.1 r36.1 = r38 at f38 ⊢
      have E38 : Hid _ := e38
      clear e38
      have K38 : Kept b w w38 := Kept.trans K37.drew k38
      have B0_38 : Arr w.heap.size [.int .i64 p.1, .int .i64 p.2.1, .int .i64 p.2.2.1, .int .i64 p.2.2.2.1, .int .i64 p.2.2.2.2.1, .int .i64 p.2.2.2.2.2] w38 := B0_37.drew.kept k38 (by omega)
      have B1_38 : Arr (w.heap.size + 1) [.int .i64 q.1, .int .i64 q.2.1, .int .i64 q.2.2.1, .int .i64 q.2.2.2.1, .int .i64 q.2.2.2.2.1, .int .i64 q.2.2.2.2.2] w38 := B1_37.drew.kept k38 (by omega)
      have B2_38 : Arr (w.heap.size + 1 + 1) [.int .i64 0, .int .i64 0, .int .i64 0, .int .i64 0] w38 := B2_37.drew.kept k38 (by omega)
      have B3_38 : Arr w3.heap.size [.int .i64 r3.1.1, .int .i64 r3.1.2.1, .int .i64 r3.1.2.2.1, .int .i64 r3.1.2.2.2.1, .int .i64 r3.1.2.2.2.2.1, .int .i64 r3.1.2.2.2.2.2.1, .int .i64 r3.1.2.2.2.2.2.2.1, .int .i64 r3.1.2.2.2.2.2.2.2.1, .int .i64 r3.1.2.2.2.2.2.2.2.2] w38 := B3_37.drew.kept k38 (by omega)
      have B4_38 : Arr w4.heap.size [.int .i64 r4.1.1, .int .i64 r4.1.2.1, .int .i64 r4.1.2.2.1, .int .i64 r4.1.2.2.2.1, .int .i64 r4.1.2.2.2.2.1, .int .i64 r4.1.2.2.2.2.2.1, .int .i64 r4.1.2.2.2.2.2.2.1, .int .i64 r4.1.2.2.2.2.2.2.2.1, .int .i64 r4.1.2.2.2.2.2.2.2.2] w38 := B4_37.drew.kept k38 (by omega)
      have B5_38 : Arr (w4.heap.size + 1) [.int .i64 r9.1, .int .i64 r15.1, .int .i64 r21.1, .int .i64 r27.1, .int .i64 r33.1, .int .i64 0, .int .i64 0, .int .i64 0, .int .i64 0] w38 := B5_37.drew.kept k38 (by omega)
      have z38 := B5_38.lies
      clear hHeld
      refine hK.out _ _ trivial (fun hHeld => ?_)
      clear hK K K37 f37 B0_37 B1_37 B2_37 B3_37 B4_37 B5_37 k38
      refine call_at (i := 8) (by kernel_rfl) rfl (fun K hK => ?_)
      go_simp
      refine (rAdd_any b r38.2 r38.1 r37.1 _ f38).mono ?_
      rintro e w39 ⟨rfl, f39, k39⟩
      generalize e39 : addS r38.2 r38.1 r37.1 = r39 at f39 ⊢
      have E39 : Hid _ := e39
      clear e39
      have K39 : Kept b w w39 := Kept.trans K38 k39
      have B0_39 : Arr w.heap.size [.int .i64 p.1, .int .i64 p.2.1, .int .i64 p.2.2.1, .int .i64 p.2.2.2.1, .int .i64 p.2.2.2.2.1, .int .i64 p.2.2.2.2.2] w39 := B0_38.kept k39 (by omega)
      have B1_39 : Arr (w.heap.size + 1) [.int .i64 q.1, .int .i64 q.2.1, .int .i64 q.2.2.1, .int .i64 q.2.2.2.1, .int .i64 q.2.2.2.2.1, .int .i64 q.2.2.2.2.2] w39 := B1_38.kept k39 (by omega)
      have B2_39 : Arr (w.heap.size + 1 + 1) [.int .i64 0, .int .i64 0, .int .i64 0, .int .i64 0] w39 := B2_38.kept k39 (by omega)
      have B3_39 : Arr w3.heap.size [.int .i64 r3.1.1, .int .i64 r3.1.2.1, .int .i64 r3.1.2.2.1, .int .i64 r3.1.2.2.2.1, .int .i64 r3.1.2.2.2.2.1, .int .i64 r3.1.2.2.2.2.2.1, .int .i64 r3.1.2.2.2.2.2.2.1, .int .i64 r3.1.2.2.2.2.2.2.2.1, .int .i64 r3.1.2.2.2.2.2.2.2.2] w39 := B3_38.kept k39 (by omega)
      have B4_39 : Arr w4.heap.size [.int .i64 r4.1.1, .int .i64 r4.1.2.1, .int .i64 r4.1.2.2.1, .int .i64 r4.1.2.2.2.1, .int .i64 r4.1.2.2.2.2.1, .int .i64 r4.1.2.2.2.2.2.1, .int .i64 r4.1.2.2.2.2.2.2.1, .int .i64 r4.1.2.2.2.2.2.2.2.1, .int .i64 r4.1.2.2.2.2.2.2.2.2] w39 := B4_38.kept k39 (by omega)
      have B5_39 : Arr (w4.heap.size + 1) [.int .i64 r9.1, .int .i64 r15.1, .int .i64 r21.1, .int .i64 r27.1, .int .i64 r33.1, .int .i64 0, .int .i64 0, .int .i64 0, .int .i64 0] w39 := B5_38.kept k39 (by omega)
      have z39 := B5_39.lies
      clear hHeld
      refine hK.out _ _ trivial (fun hHeld => ?_)
      clear hK K K38 f38 B0_38 B1_38 B2_38 B3_38 B4_38 B5_38 k39
      refine take_at (i := 10) (v := ?v1170) rfl (by kernel_rfl) (by kernel_rfl) (by kernel_rfl) (fun _ _ _ h => h) (Or.inl ⟨by rfl, ?y1170⟩) hHeld ?t1170
      case y1170 => (intro wx hSw; go_simp <;> with_reducible rfl)
      simp only [Act.put, List.setIfInBounds_toArray, List.set_cons_zero, List.set_cons_succ]
      refine call_at (i := 11) (by kernel_rfl) rfl (fun K hK => ?_)
      have c43_B5_5 : w39.cell? ⟨w4.heap.size + 1, 5, none⟩ = some (.int .i64 0) := B5_39.c 5 (of_decide_eq_true rfl)
      have g43_B5_5 := B5_39.f 5 (of_decide_eq_true rfl)
      go_simp
      clear hHeld
      refine hK.out _ _ trivial (fun hHeld => ?_)
      clear hK K c43_B5_5 g43_B5_5
      refine wpAnyH_done (by kernel_rfl) ?_ _
      clear hHeld
      have P39 : Hid (zlS r33.2 r4.1.2.1 r3.1.2.2.1 r4.1.2.2.2.2.1 r3.1.2.2.2.2.2.1 r4.1.2.2.2.2.2.2.2.1 r3.1.2.2.2.2.2.2.2.2 = r39) := by show _ = _; unfold zlS; simp only [E35.out, E36.out, E37.out, E38.out, E39.out]
      clear E35 E36 E37 E38 E39
      go_wp2_with fail
      refine rounds_letter (S := fun w' => Kept b w w' ∧ Fl b r39.2 w' ∧ Arr w.heap.size [.int .i64 p.1, .int .i64 p.2.1, .int .i64 p.2.2.1, .int .i64 p.2.2.2.1, .int .i64 p.2.2.2.2.1, .int .i64 p.2.2.2.2.2] w' ∧ Arr (w.heap.size + 1) [.int .i64 q.1, .int .i64 q.2.1, .int .i64 q.2.2.1, .int .i64 q.2.2.2.1, .int .i64 q.2.2.2.2.1, .int .i64 q.2.2.2.2.2] w' ∧ Arr (w.heap.size + 1 + 1) [.int .i64 0, .int .i64 0, .int .i64 0, .int .i64 0] w' ∧ Arr w3.heap.size [.int .i64 r3.1.1, .int .i64 r3.1.2.1, .int .i64 r3.1.2.2.1, .int .i64 r3.1.2.2.2.1, .int .i64 r3.1.2.2.2.2.1, .int .i64 r3.1.2.2.2.2.2.1, .int .i64 r3.1.2.2.2.2.2.2.1, .int .i64 r3.1.2.2.2.2.2.2.2.1, .int .i64 r3.1.2.2.2.2.2.2.2.2] w' ∧ Arr w4.heap.size [.int .i64 r4.1.1, .int .i64 r4.1.2.1, .int .i64 r4.1.2.2.1, .int .i64 r4.1.2.2.2.1, .int .i64 r4.1.2.2.2.2.1, .int .i64 r4.1.2.2.2.2.2.1, .int .i64 r4.1.2.2.2.2.2.2.1, .int .i64 r4.1.2.2.2.2.2.2.2.1, .int .i64 r4.1.2.2.2.2.2.2.2.2] w' ∧ Arr (w4.heap.size + 1) [.int .i64 r9.1, .int .i64 r15.1, .int .i64 r21.1, .int .i64 r27.1, .int .i64 r33.1, .int .i64 r39.1, .int .i64 0, .int .i64 0, .int .i64 0] w') ⟨(K39.new _ _ (by omega) _), (f39.new (w4.heap.size + 1) 5 (by omega) (.int .i64 r39.1)), (B0_39.new (w4.heap.size + 1) 5 (by omega) (.int .i64 r39.1)), (B1_39.new (w4.heap.size + 1) 5 (by omega) (.int .i64 r39.1)), (B2_39.new (w4.heap.size + 1) 5 (by omega) (.int .i64 r39.1)), (B3_39.new (w4.heap.size + 1) 5 (by omega) (.int .i64 r39.1)), (B4_39.new (w4.heap.size + 1) 5 (by omega) (.int .i64 r39.1)), (B5_39.put 5 (of_decide_eq_true rfl) (.int .i64 r39.1) [.int .i64 r9.1, .int .i64 r15.1, .int .i64 r21.1, .int .i64 r27.1, .int .i64 r33.1, .int .i64 r39.1, .int .i64 0, .int .i64 0, .int .i64 0] rfl)⟩ ?_
      rintro w40 ⟨K40, BF_40, B0_40, B1_40, B2_40, B3_40, B4_40, B5_40⟩
      have z40 := B5_40.lies
      clear K39 f39 B0_39 B1_39 B2_39 B3_39 B4_39 B5_39
      rw [rounds_succ]
      go_wp2_with fail
      rw [rounds_succ]
      go_wp2_with fail
      refine wp_loop_rounds 4 ?_
      rw [rounds_succ]
      go_wp2_with fail
      refine wp_region_held_drew (S := fun w' => Arr w4.heap.size [.int .i64 r4.1.1, .int .i64 r4.1.2.1, .int .i64 r4.1.2.2.1, .int .i64 r4.1.2.2.2.1, .int .i64 r4.1.2.2.2.2.1, .int .i64 r4.1.2.2.2.2.2.1, .int .i64 r4.1.2.2.2.2.2.2.1, .int .i64 r4.1.2.2.2.2.2.2.2.1, .int .i64 r4.1.2.2.2.2.2.2.2.2] w' ∧ Arr w3.heap.size [.int .i64 r3.1.1, .int .i64 r3.1.2.1, .int .i64 r3.1.2.2.1, .int .i64 r3.1.2.2.2.1, .int .i64 r3.1.2.2.2.2.1, .int .i64 r3.1.2.2.2.2.2.1, .int .i64 r3.1.2.2.2.2.2.2.1, .int .i64 r3.1.2.2.2.2.2.2.2.1, .int .i64 r3.1.2.2.2.2.2.2.2.2] w') (by kernel_rfl) ⟨B4_40.drew, B3_40.drew⟩ (fun hHeld => ?_)
      refine take_at (i := 0) (v := ?v1288) rfl (by kernel_rfl) (by kernel_rfl) (by kernel_rfl) (fun _ _ _ h => h) (Or.inl ⟨by rfl, ?y1288⟩) hHeld ?t1288
      case y1288 => (intro wx hSw; go_simp <;> with_reducible rfl)
      simp only [Act.put, List.setIfInBounds_toArray, List.set_cons_zero, List.set_cons_succ]
      refine take_at (i := 1) (v := ?v1289) rfl (by kernel_rfl) (by kernel_rfl) (by kernel_rfl) (fun _ _ _ h => h) (Or.inl ⟨by rfl, ?y1289⟩) hHeld ?t1289
      case y1289 => (intro wx hSw; go_simp <;> with_reducible rfl)
      simp only [Act.put, List.setIfInBounds_toArray, List.set_cons_zero, List.set_cons_succ]
      refine take_at (i := 2) (v := ?v1290) rfl (by kernel_rfl) (by kernel_rfl) (by kernel_rfl) (fun _ _ _ h => h) (Or.inl ⟨by rfl, ?y1290⟩) hHeld ?t1290
      case y1290 => (intro wx hSw; go_simp <;> with_reducible rfl)
      simp only [Act.put, List.setIfInBounds_toArray, List.set_cons_zero, List.set_cons_succ]
      refine take_at (i := 3) (v := ?v1291) rfl (by kernel_rfl) (by kernel_rfl) (by kernel_rfl) (fun _ _ _ h => h) (Or.inl ⟨by rfl, ?y1291⟩) hHeld ?t1291
      case y1291 => (intro wx hSw; go_simp <;> with_reducible rfl)
      simp only [Act.put, List.setIfInBounds_toArray, List.set_cons_zero, List.set_cons_succ]
      refine take_at (i := 4) (v := ?v1292) rfl (by kernel_rfl) (by kernel_rfl) (by kernel_rfl) (fun _ _ _ h => h) (Or.inl ⟨by rfl, ?y1292⟩) hHeld ?t1292
      case y1292 => (intro wx hSw; have hc2 : wx.cell? ⟨w4.heap.size, 2, none⟩ = some (.int .i64 r4.1.2.2.1) := hSw.1.c 2 (of_decide_eq_true rfl); go_simp <;> with_reducible rfl)
      simp only [Act.put, List.setIfInBounds_toArray, List.set_cons_zero, List.set_cons_succ]
      refine take_at (i := 5) (v := ?v1293) rfl (by kernel_rfl) (by kernel_rfl) (by kernel_rfl) (fun _ _ _ h => h) (Or.inl ⟨by rfl, ?y1293⟩) hHeld ?t1293
      case y1293 => (intro wx hSw; go_simp <;> with_reducible rfl)
      simp only [Act.put, List.setIfInBounds_toArray, List.set_cons_zero, List.set_cons_succ]
      refine take_at (i := 6) (v := ?v1294) rfl (by kernel_rfl) (by kernel_rfl) (by kernel_rfl) (fun _ _ _ h => h) (Or.inl ⟨by rfl, ?y1294⟩) hHeld ?t1294
      case y1294 => (intro wx hSw; go_simp <;> with_reducible rfl)
      simp only [Act.put, List.setIfInBounds_toArray, List.set_cons_zero, List.set_cons_succ]
      refine take_at (i := 7) (v := ?v1295) rfl (by kernel_rfl) (by kernel_rfl) (by kernel_rfl) (fun _ _ _ h => h) (Or.inl ⟨by rfl, ?y1295⟩) hHeld ?t1295
      case y1295 => (intro wx hSw; go_simp <;> with_reducible rfl)
      simp only [Act.put, List.setIfInBounds_toArray, List.set_cons_zero, List.set_cons_succ]
      refine take_at (i := 8) (v := ?v1296) rfl (by kernel_rfl) (by kernel_rfl) (by kernel_rfl) (fun _ _ _ h => h) (Or.inl ⟨by rfl, ?y1296⟩) hHeld ?t1296
      case y1296 => (intro wx hSw; have hc0 : wx.cell? ⟨w3.heap.size, 0, none⟩ = some (.int .i64 r3.1.1) := hSw.2.c 0 (of_decide_eq_true rfl); go_simp <;> with_reducible rfl)
      simp only [Act.put, List.setIfInBounds_toArray, List.set_cons_zero, List.set_cons_succ]
      refine call_at (i := 9) (by kernel_rfl) rfl (fun K hK => ?_)
      go_simp
      refine (rMul_any b r39.2 r4.1.2.2.1 r3.1.1 _ BF_40.drew).mono ?_
      rintro e w41 ⟨rfl, f41, k41⟩
      generalize e41 : mulS r39.2 r4.1.2.2.1 r3.1.1 = r41 at f41 ⊢
      have E41 : Hid _ := e41
      clear e41
      have K41 : Kept b w w41 := Kept.trans K40.drew k41
      have B0_41 : Arr w.heap.size [.int .i64 p.1, .int .i64 p.2.1, .int .i64 p.2.2.1, .int .i64 p.2.2.2.1, .int .i64 p.2.2.2.2.1, .int .i64 p.2.2.2.2.2] w41 := B0_40.drew.kept k41 (by omega)
      have B1_41 : Arr (w.heap.size + 1) [.int .i64 q.1, .int .i64 q.2.1, .int .i64 q.2.2.1, .int .i64 q.2.2.2.1, .int .i64 q.2.2.2.2.1, .int .i64 q.2.2.2.2.2] w41 := B1_40.drew.kept k41 (by omega)
      have B2_41 : Arr (w.heap.size + 1 + 1) [.int .i64 0, .int .i64 0, .int .i64 0, .int .i64 0] w41 := B2_40.drew.kept k41 (by omega)
      have B3_41 : Arr w3.heap.size [.int .i64 r3.1.1, .int .i64 r3.1.2.1, .int .i64 r3.1.2.2.1, .int .i64 r3.1.2.2.2.1, .int .i64 r3.1.2.2.2.2.1, .int .i64 r3.1.2.2.2.2.2.1, .int .i64 r3.1.2.2.2.2.2.2.1, .int .i64 r3.1.2.2.2.2.2.2.2.1, .int .i64 r3.1.2.2.2.2.2.2.2.2] w41 := B3_40.drew.kept k41 (by omega)
      have B4_41 : Arr w4.heap.size [.int .i64 r4.1.1, .int .i64 r4.1.2.1, .int .i64 r4.1.2.2.1, .int .i64 r4.1.2.2.2.1, .int .i64 r4.1.2.2.2.2.1, .int .i64 r4.1.2.2.2.2.2.1, .int .i64 r4.1.2.2.2.2.2.2.1, .int .i64 r4.1.2.2.2.2.2.2.2.1, .int .i64 r4.1.2.2.2.2.2.2.2.2] w41 := B4_40.drew.kept k41 (by omega)
      have B5_41 : Arr (w4.heap.size + 1) [.int .i64 r9.1, .int .i64 r15.1, .int .i64 r21.1, .int .i64 r27.1, .int .i64 r33.1, .int .i64 r39.1, .int .i64 0, .int .i64 0, .int .i64 0] w41 := B5_40.drew.kept k41 (by omega)
      have z41 := B5_41.lies
      clear hHeld
      refine hK.out _ _ ⟨B4_41, B3_41⟩ (fun hHeld => ?_)
      clear hK K K40 BF_40 B0_40 B1_40 B2_40 B3_40 B4_40 B5_40 k41
      refine take_at (i := 10) (v := ?v1297) rfl (by kernel_rfl) (by kernel_rfl) (by kernel_rfl) (fun _ _ _ h => h) (Or.inl ⟨by rfl, ?y1297⟩) hHeld ?t1297
      case y1297 => (intro wx hSw; go_simp <;> with_reducible rfl)
      simp only [Act.put, List.setIfInBounds_toArray, List.set_cons_zero, List.set_cons_succ]
      refine wpAnyH_done (by kernel_rfl) ?_ _
      clear hHeld
      go_wp2_with fail
      refine wp_region_held_drew (S := fun w' => Arr w4.heap.size [.int .i64 r4.1.1, .int .i64 r4.1.2.1, .int .i64 r4.1.2.2.1, .int .i64 r4.1.2.2.2.1, .int .i64 r4.1.2.2.2.2.1, .int .i64 r4.1.2.2.2.2.2.1, .int .i64 r4.1.2.2.2.2.2.2.1, .int .i64 r4.1.2.2.2.2.2.2.2.1, .int .i64 r4.1.2.2.2.2.2.2.2.2] w' ∧ Arr w3.heap.size [.int .i64 r3.1.1, .int .i64 r3.1.2.1, .int .i64 r3.1.2.2.1, .int .i64 r3.1.2.2.2.1, .int .i64 r3.1.2.2.2.2.1, .int .i64 r3.1.2.2.2.2.2.1, .int .i64 r3.1.2.2.2.2.2.2.1, .int .i64 r3.1.2.2.2.2.2.2.2.1, .int .i64 r3.1.2.2.2.2.2.2.2.2] w') (by kernel_rfl) ⟨B4_41.drew, B3_41.drew⟩ (fun hHeld => ?_)
      refine take_at (i := 0) (v := ?v1298) rfl (by kernel_rfl) (by kernel_rfl) (by kernel_rfl) (fun _ _ _ h => h) (Or.inl ⟨by rfl, ?y1298⟩) hHeld ?t1298
      case y1298 => (intro wx hSw; go_simp <;> with_reducible rfl)
      simp only [Act.put, List.setIfInBounds_toArray, List.set_cons_zero, List.set_cons_succ]
      refine take_at (i := 1) (v := ?v1299) rfl (by kernel_rfl) (by kernel_rfl) (by kernel_rfl) (fun _ _ _ h => h) (Or.inl ⟨by rfl, ?y1299⟩) hHeld ?t1299
      case y1299 => (intro wx hSw; go_simp <;> with_reducible rfl)
      simp only [Act.put, List.setIfInBounds_toArray, List.set_cons_zero, List.set_cons_succ]
      refine take_at (i := 2) (v := ?v1300) rfl (by kernel_rfl) (by kernel_rfl) (by kernel_rfl) (fun _ _ _ h => h) (Or.inl ⟨by rfl, ?y1300⟩) hHeld ?t1300
      case y1300 => (intro wx hSw; go_simp <;> with_reducible rfl)
      simp only [Act.put, List.setIfInBounds_toArray, List.set_cons_zero, List.set_cons_succ]
      refine take_at (i := 3) (v := ?v1301) rfl (by kernel_rfl) (by kernel_rfl) (by kernel_rfl) (fun _ _ _ h => h) (Or.inl ⟨by rfl, ?y1301⟩) hHeld ?t1301
      case y1301 => (intro wx hSw; go_simp <;> with_reducible rfl)
      simp only [Act.put, List.setIfInBounds_toArray, List.set_cons_zero, List.set_cons_succ]
      refine take_at (i := 4) (v := ?v1302) rfl (by kernel_rfl) (by kernel_rfl) (by kernel_rfl) (fun _ _ _ h => h) (Or.inl ⟨by rfl, ?y1302⟩) hHeld ?t1302
      case y1302 => (intro wx hSw; have hc5 : wx.cell? ⟨w4.heap.size, 5, none⟩ = some (.int .i64 r4.1.2.2.2.2.2.1) := hSw.1.c 5 (of_decide_eq_true rfl); go_simp <;> with_reducible rfl)
      simp only [Act.put, List.setIfInBounds_toArray, List.set_cons_zero, List.set_cons_succ]
      refine take_at (i := 5) (v := ?v1303) rfl (by kernel_rfl) (by kernel_rfl) (by kernel_rfl) (fun _ _ _ h => h) (Or.inl ⟨by rfl, ?y1303⟩) hHeld ?t1303
      case y1303 => (intro wx hSw; go_simp <;> with_reducible rfl)
      simp only [Act.put, List.setIfInBounds_toArray, List.set_cons_zero, List.set_cons_succ]
      refine take_at (i := 6) (v := ?v1304) rfl (by kernel_rfl) (by kernel_rfl) (by kernel_rfl) (fun _ _ _ h => h) (Or.inl ⟨by rfl, ?y1304⟩) hHeld ?t1304
      case y1304 => (intro wx hSw; go_simp <;> with_reducible rfl)
      simp only [Act.put, List.setIfInBounds_toArray, List.set_cons_zero, List.set_cons_succ]
      refine take_at (i := 7) (v := ?v1305) rfl (by kernel_rfl) (by kernel_rfl) (by kernel_rfl) (fun _ _ _ h => h) (Or.inl ⟨by rfl, ?y1305⟩) hHeld ?t1305
      case y1305 => (intro wx hSw; go_simp <;> with_reducible rfl)
      simp only [Act.put, List.setIfInBounds_toArray, List.set_cons_zero, List.set_cons_succ]
      refine take_at (i := 8) (v := ?v1306) rfl (by kernel_rfl) (by kernel_rfl) (by kernel_rfl) (fun _ _ _ h => h) (Or.inl ⟨by rfl, ?y1306⟩) hHeld ?t1306
      case y1306 => (intro wx hSw; have hc3 : wx.cell? ⟨w3.heap.size, 3, none⟩ = some (.int .i64 r3.1.2.2.2.1) := hSw.2.c 3 (of_decide_eq_true rfl); go_simp <;> with_reducible rfl)
      simp only [Act.put, List.setIfInBounds_toArray, List.set_cons_zero, List.set_cons_succ]
      refine call_at (i := 9) (by kernel_rfl) rfl (fun K hK => ?_)
      go_simp
      refine (rMul_any b r41.2 r4.1.2.2.2.2.2.1 r3.1.2.2.2.1 _ f41.drew).mono ?_
      rintro e w42 ⟨rfl, f42, k42⟩
      generalize e42 : mulS r41.2 r4.1.2.2.2.2.2.1 r3.1.2.2.2.1 = r42 at f42 ⊢
      have E42 : Hid _ := e42
      clear e42
      have K42 : Kept b w w42 := Kept.trans K41.drew k42
      have B0_42 : Arr w.heap.size [.int .i64 p.1, .int .i64 p.2.1, .int .i64 p.2.2.1, .int .i64 p.2.2.2.1, .int .i64 p.2.2.2.2.1, .int .i64 p.2.2.2.2.2] w42 := B0_41.drew.kept k42 (by omega)
      have B1_42 : Arr (w.heap.size + 1) [.int .i64 q.1, .int .i64 q.2.1, .int .i64 q.2.2.1, .int .i64 q.2.2.2.1, .int .i64 q.2.2.2.2.1, .int .i64 q.2.2.2.2.2] w42 := B1_41.drew.kept k42 (by omega)
      have B2_42 : Arr (w.heap.size + 1 + 1) [.int .i64 0, .int .i64 0, .int .i64 0, .int .i64 0] w42 := B2_41.drew.kept k42 (by omega)
      have B3_42 : Arr w3.heap.size [.int .i64 r3.1.1, .int .i64 r3.1.2.1, .int .i64 r3.1.2.2.1, .int .i64 r3.1.2.2.2.1, .int .i64 r3.1.2.2.2.2.1, .int .i64 r3.1.2.2.2.2.2.1, .int .i64 r3.1.2.2.2.2.2.2.1, .int .i64 r3.1.2.2.2.2.2.2.2.1, .int .i64 r3.1.2.2.2.2.2.2.2.2] w42 := B3_41.drew.kept k42 (by omega)
      have B4_42 : Arr w4.heap.size [.int .i64 r4.1.1, .int .i64 r4.1.2.1, .int .i64 r4.1.2.2.1, .int .i64 r4.1.2.2.2.1, .int .i64 r4.1.2.2.2.2.1, .int .i64 r4.1.2.2.2.2.2.1, .int .i64 r4.1.2.2.2.2.2.2.1, .int .i64 r4.1.2.2.2.2.2.2.2.1, .int .i64 r4.1.2.2.2.2.2.2.2.2] w42 := B4_41.drew.kept k42 (by omega)
      have B5_42 : Arr (w4.heap.size + 1) [.int .i64 r9.1, .int .i64 r15.1, .int .i64 r21.1, .int .i64 r27.1, .int .i64 r33.1, .int .i64 r39.1, .int .i64 0, .int .i64 0, .int .i64 0] w42 := B5_41.drew.kept k42 (by omega)
      have z42 := B5_42.lies
      clear hHeld
      refine hK.out _ _ ⟨B4_42, B3_42⟩ (fun hHeld => ?_)
      clear hK K K41 f41 B0_41 B1_41 B2_41 B3_41 B4_41 B5_41 k42
      refine take_at (i := 10) (v := ?v1307) rfl (by kernel_rfl) (by kernel_rfl) (by kernel_rfl) (fun _ _ _ h => h) (Or.inl ⟨by rfl, ?y1307⟩) hHeld ?t1307
      case y1307 => (intro wx hSw; go_simp <;> with_reducible rfl)
      simp only [Act.put, List.setIfInBounds_toArray, List.set_cons_zero, List.set_cons_succ]
      refine wpAnyH_done (by kernel_rfl) ?_ _
      clear hHeld
      go_wp2_with fail
      refine wp_region_held_drew (S := fun w' => Arr w4.heap.size [.int .i64 r4.1.1, .int .i64 r4.1.2.1, .int .i64 r4.1.2.2.1, .int .i64 r4.1.2.2.2.1, .int .i64 r4.1.2.2.2.2.1, .int .i64 r4.1.2.2.2.2.2.1, .int .i64 r4.1.2.2.2.2.2.2.1, .int .i64 r4.1.2.2.2.2.2.2.2.1, .int .i64 r4.1.2.2.2.2.2.2.2.2] w' ∧ Arr w3.heap.size [.int .i64 r3.1.1, .int .i64 r3.1.2.1, .int .i64 r3.1.2.2.1, .int .i64 r3.1.2.2.2.1, .int .i64 r3.1.2.2.2.2.1, .int .i64 r3.1.2.2.2.2.2.1, .int .i64 r3.1.2.2.2.2.2.2.1, .int .i64 r3.1.2.2.2.2.2.2.2.1, .int .i64 r3.1.2.2.2.2.2.2.2.2] w') (by kernel_rfl) ⟨B4_42.drew, B3_42.drew⟩ (fun hHeld => ?_)
      refine take_at (i := 0) (v := ?v1308) rfl (by kernel_rfl) (by kernel_rfl) (by kernel_rfl) (fun _ _ _ h => h) (Or.inl ⟨by rfl, ?y1308⟩) hHeld ?t1308
      case y1308 => (intro wx hSw; go_simp <;> with_reducible rfl)
      simp only [Act.put, List.setIfInBounds_toArray, List.set_cons_zero, List.set_cons_succ]
      refine take_at (i := 1) (v := ?v1309) rfl (by kernel_rfl) (by kernel_rfl) (by kernel_rfl) (fun _ _ _ h => h) (Or.inl ⟨by rfl, ?y1309⟩) hHeld ?t1309
      case y1309 => (intro wx hSw; go_simp <;> with_reducible rfl)
      simp only [Act.put, List.setIfInBounds_toArray, List.set_cons_zero, List.set_cons_succ]
      refine take_at (i := 2) (v := ?v1310) rfl (by kernel_rfl) (by kernel_rfl) (by kernel_rfl) (fun _ _ _ h => h) (Or.inl ⟨by rfl, ?y1310⟩) hHeld ?t1310
      case y1310 => (intro wx hSw; go_simp <;> with_reducible rfl)
      simp only [Act.put, List.setIfInBounds_toArray, List.set_cons_zero, List.set_cons_succ]
      refine take_at (i := 3) (v := ?v1311) rfl (by kernel_rfl) (by kernel_rfl) (by kernel_rfl) (fun _ _ _ h => h) (Or.inl ⟨by rfl, ?y1311⟩) hHeld ?t1311
      case y1311 => (intro wx hSw; go_simp <;> with_reducible rfl)
      simp only [Act.put, List.setIfInBounds_toArray, List.set_cons_zero, List.set_cons_succ]
      refine take_at (i := 4) (v := ?v1312) rfl (by kernel_rfl) (by kernel_rfl) (by kernel_rfl) (fun _ _ _ h => h) (Or.inl ⟨by rfl, ?y1312⟩) hHeld ?t1312
      case y1312 => (intro wx hSw; have hc8 : wx.cell? ⟨w4.heap.size, 8, none⟩ = some (.int .i64 r4.1.2.2.2.2.2.2.2.2) := hSw.1.c 8 (of_decide_eq_true rfl); go_simp <;> with_reducible rfl)
      simp only [Act.put, List.setIfInBounds_toArray, List.set_cons_zero, List.set_cons_succ]
      refine take_at (i := 5) (v := ?v1313) rfl (by kernel_rfl) (by kernel_rfl) (by kernel_rfl) (fun _ _ _ h => h) (Or.inl ⟨by rfl, ?y1313⟩) hHeld ?t1313
      case y1313 => (intro wx hSw; go_simp <;> with_reducible rfl)
      simp only [Act.put, List.setIfInBounds_toArray, List.set_cons_zero, List.set_cons_succ]
      refine take_at (i := 6) (v := ?v1314) rfl (by kernel_rfl) (by kernel_rfl) (by kernel_rfl) (fun _ _ _ h => h) (Or.inl ⟨by rfl, ?y1314⟩) hHeld ?t1314
      case y1314 => (intro wx hSw; go_simp <;> with_reducible rfl)
      simp only [Act.put, List.setIfInBounds_toArray, List.set_cons_zero, List.set_cons_succ]
      refine take_at (i := 7) (v := ?v1315) rfl (by kernel_rfl) (by kernel_rfl) (by kernel_rfl) (fun _ _ _ h => h) (Or.inl ⟨by rfl, ?y1315⟩) hHeld ?t1315
      case y1315 => (intro wx hSw; go_simp <;> with_reducible rfl)
      simp only [Act.put, List.setIfInBounds_toArray, List.set_cons_zero, List.set_cons_succ]
      refine take_at (i := 8) (v := ?v1316) rfl (by kernel_rfl) (by kernel_rfl) (by kernel_rfl) (fun _ _ _ h => h) (Or.inl ⟨by rfl, ?y1316⟩) hHeld ?t1316
      case y1316 => (intro wx hSw; have hc6 : wx.cell? ⟨w3.heap.size, 6, none⟩ = some (.int .i64 r3.1.2.2.2.2.2.2.1) := hSw.2.c 6 (of_decide_eq_true rfl); go_simp <;> with_reducible rfl)
      simp only [Act.put, List.setIfInBounds_toArray, List.set_cons_zero, List.set_cons_succ]
      refine call_at (i := 9) (by kernel_rfl) rfl (fun K hK => ?_)
      go_simp
      refine (rMul_any b r42.2 r4.1.2.2.2.2.2.2.2.2 r3.1.2.2.2.2.2.2.1 _ f42.drew).mono ?_
      rintro e w43 ⟨rfl, f43, k43⟩
      generalize e43 : mulS r42.2 r4.1.2.2.2.2.2.2.2.2 r3.1.2.2.2.2.2.2.1 = r43 at f43 ⊢
      have E43 : Hid _ := e43
      clear e43
      have K43 : Kept b w w43 := Kept.trans K42.drew k43
      have B0_43 : Arr w.heap.size [.int .i64 p.1, .int .i64 p.2.1, .int .i64 p.2.2.1, .int .i64 p.2.2.2.1, .int .i64 p.2.2.2.2.1, .int .i64 p.2.2.2.2.2] w43 := B0_42.drew.kept k43 (by omega)
      have B1_43 : Arr (w.heap.size + 1) [.int .i64 q.1, .int .i64 q.2.1, .int .i64 q.2.2.1, .int .i64 q.2.2.2.1, .int .i64 q.2.2.2.2.1, .int .i64 q.2.2.2.2.2] w43 := B1_42.drew.kept k43 (by omega)
      have B2_43 : Arr (w.heap.size + 1 + 1) [.int .i64 0, .int .i64 0, .int .i64 0, .int .i64 0] w43 := B2_42.drew.kept k43 (by omega)
      have B3_43 : Arr w3.heap.size [.int .i64 r3.1.1, .int .i64 r3.1.2.1, .int .i64 r3.1.2.2.1, .int .i64 r3.1.2.2.2.1, .int .i64 r3.1.2.2.2.2.1, .int .i64 r3.1.2.2.2.2.2.1, .int .i64 r3.1.2.2.2.2.2.2.1, .int .i64 r3.1.2.2.2.2.2.2.2.1, .int .i64 r3.1.2.2.2.2.2.2.2.2] w43 := B3_42.drew.kept k43 (by omega)
      have B4_43 : Arr w4.heap.size [.int .i64 r4.1.1, .int .i64 r4.1.2.1, .int .i64 r4.1.2.2.1, .int .i64 r4.1.2.2.2.1, .int .i64 r4.1.2.2.2.2.1, .int .i64 r4.1.2.2.2.2.2.1, .int .i64 r4.1.2.2.2.2.2.2.1, .int .i64 r4.1.2.2.2.2.2.2.2.1, .int .i64 r4.1.2.2.2.2.2.2.2.2] w43 := B4_42.drew.kept k43 (by omega)
      have B5_43 : Arr (w4.heap.size + 1) [.int .i64 r9.1, .int .i64 r15.1, .int .i64 r21.1, .int .i64 r27.1, .int .i64 r33.1, .int .i64 r39.1, .int .i64 0, .int .i64 0, .int .i64 0] w43 := B5_42.drew.kept k43 (by omega)
      have z43 := B5_43.lies
      clear hHeld
      refine hK.out _ _ ⟨B4_43, B3_43⟩ (fun hHeld => ?_)
      clear hK K K42 f42 B0_42 B1_42 B2_42 B3_42 B4_42 B5_42 k43
      refine take_at (i := 10) (v := ?v1317) rfl (by kernel_rfl) (by kernel_rfl) (by kernel_rfl) (fun _ _ _ h => h) (Or.inl ⟨by rfl, ?y1317⟩) hHeld ?t1317
      case y1317 => (intro wx hSw; go_simp <;> with_reducible rfl)
      simp only [Act.put, List.setIfInBounds_toArray, List.set_cons_zero, List.set_cons_succ]
      refine wpAnyH_done (by kernel_rfl) ?_ _
      clear hHeld
      go_wp2_with fail
      refine wp_region_held_drew (S := fun _ => True) (by kernel_rfl) trivial (fun hHeld => ?_)
      refine take_at (i := 0) (v := ?v1318) rfl (by kernel_rfl) (by kernel_rfl) (by kernel_rfl) (fun _ _ _ h => h) (Or.inl ⟨by rfl, ?y1318⟩) hHeld ?t1318
      case y1318 => (intro wx hSw; go_simp <;> with_reducible rfl)
      simp only [Act.put, List.setIfInBounds_toArray, List.set_cons_zero, List.set_cons_succ]
      refine take_at (i := 1) (v := ?v1319) rfl (by kernel_rfl) (by kernel_rfl) (by kernel_rfl) (fun _ _ _ h => h) (Or.inl ⟨by rfl, ?y1319⟩) hHeld ?t1319
      case y1319 => (intro wx hSw; go_simp <;> with_reducible rfl)
      simp only [Act.put, List.setIfInBounds_toArray, List.set_cons_zero, List.set_cons_succ]
      refine take_at (i := 2) (v := ?v1320) rfl (by kernel_rfl) (by kernel_rfl) (by kernel_rfl) (fun _ _ _ h => h) (Or.inl ⟨by rfl, ?y1320⟩) hHeld ?t1320
      case y1320 => (intro wx hSw; go_simp <;> with_reducible rfl)
      simp only [Act.put, List.setIfInBounds_toArray, List.set_cons_zero, List.set_cons_succ]
      refine take_at (i := 3) (v := ?v1321) rfl (by kernel_rfl) (by kernel_rfl) (by kernel_rfl) (fun _ _ _ h => h) (Or.inl ⟨by rfl, ?y1321⟩) hHeld ?t1321
      case y1321 => (intro wx hSw; go_simp <;> with_reducible rfl)
      simp only [Act.put, List.setIfInBounds_toArray, List.set_cons_zero, List.set_cons_succ]
      refine take_at (i := 4) (v := ?v1322) rfl (by kernel_rfl) (by kernel_rfl) (by kernel_rfl) (fun _ _ _ h => h) (Or.inl ⟨by rfl, ?y1322⟩) hHeld ?t1322
      case y1322 => (intro wx hSw; go_simp <;> with_reducible rfl)
      simp only [Act.put, List.setIfInBounds_toArray, List.set_cons_zero, List.set_cons_succ]
      refine take_at (i := 5) (v := ?v1323) rfl (by kernel_rfl) (by kernel_rfl) (by kernel_rfl) (fun _ _ _ h => h) (Or.inl ⟨by rfl, ?y1323⟩) hHeld ?t1323
      case y1323 => (intro wx hSw; go_simp <;> with_reducible rfl)
      simp only [Act.put, List.setIfInBounds_toArray, List.set_cons_zero, List.set_cons_succ]
      refine take_at (i := 7) (v := ?v1324) rfl (by kernel_rfl) (by kernel_rfl) (by kernel_rfl) (fun _ _ _ h => h) (Or.inl ⟨by rfl, ?y1324⟩) hHeld ?t1324
      case y1324 => (intro wx hSw; go_simp <;> with_reducible rfl)
      simp only [Act.put, List.setIfInBounds_toArray, List.set_cons_zero, List.set_cons_succ]
      refine take_at (i := 9) (v := ?v1325) rfl (by kernel_rfl) (by kernel_rfl) (by kernel_rfl) (fun _ _ _ h => h) (Or.inl ⟨by rfl, ?y1325⟩) hHeld ?t1325
      case y1325 => (intro wx hSw; go_simp <;> with_reducible rfl)
      simp only [Act.put, List.setIfInBounds_toArray, List.set_cons_zero, List.set_cons_succ]
      refine call_at (i := 6) (by kernel_rfl) rfl (fun K hK => ?_)
      go_simp
      refine (rAdd_any b r43.2 r41.1 r42.1 _ f43.drew).mono ?_
      rintro e w44 ⟨rfl, f44, k44⟩
      generalize e44 : addS r43.2 r41.1 r42.1 = r44 at f44 ⊢
      have E44 : Hid _ := e44
      clear e44
      have K44 : Kept b w w44 := Kept.trans K43.drew k44
      have B0_44 : Arr w.heap.size [.int .i64 p.1, .int .i64 p.2.1, .int .i64 p.2.2.1, .int .i64 p.2.2.2.1, .int .i64 p.2.2.2.2.1, .int .i64 p.2.2.2.2.2] w44 := B0_43.drew.kept k44 (by omega)
      have B1_44 : Arr (w.heap.size + 1) [.int .i64 q.1, .int .i64 q.2.1, .int .i64 q.2.2.1, .int .i64 q.2.2.2.1, .int .i64 q.2.2.2.2.1, .int .i64 q.2.2.2.2.2] w44 := B1_43.drew.kept k44 (by omega)
      have B2_44 : Arr (w.heap.size + 1 + 1) [.int .i64 0, .int .i64 0, .int .i64 0, .int .i64 0] w44 := B2_43.drew.kept k44 (by omega)
      have B3_44 : Arr w3.heap.size [.int .i64 r3.1.1, .int .i64 r3.1.2.1, .int .i64 r3.1.2.2.1, .int .i64 r3.1.2.2.2.1, .int .i64 r3.1.2.2.2.2.1, .int .i64 r3.1.2.2.2.2.2.1, .int .i64 r3.1.2.2.2.2.2.2.1, .int .i64 r3.1.2.2.2.2.2.2.2.1, .int .i64 r3.1.2.2.2.2.2.2.2.2] w44 := B3_43.drew.kept k44 (by omega)
      have B4_44 : Arr w4.heap.size [.int .i64 r4.1.1, .int .i64 r4.1.2.1, .int .i64 r4.1.2.2.1, .int .i64 r4.1.2.2.2.1, .int .i64 r4.1.2.2.2.2.1, .int .i64 r4.1.2.2.2.2.2.1, .int .i64 r4.1.2.2.2.2.2.2.1, .int .i64 r4.1.2.2.2.2.2.2.2.1, .int .i64 r4.1.2.2.2.2.2.2.2.2] w44 := B4_43.drew.kept k44 (by omega)
      have B5_44 : Arr (w4.heap.size + 1) [.int .i64 r9.1, .int .i64 r15.1, .int .i64 r21.1, .int .i64 r27.1, .int .i64 r33.1, .int .i64 r39.1, .int .i64 0, .int .i64 0, .int .i64 0] w44 := B5_43.drew.kept k44 (by omega)
      have z44 := B5_44.lies
      clear hHeld
      refine hK.out _ _ trivial (fun hHeld => ?_)
      clear hK K K43 f43 B0_43 B1_43 B2_43 B3_43 B4_43 B5_43 k44
      refine call_at (i := 8) (by kernel_rfl) rfl (fun K hK => ?_)
      go_simp
      refine (rAdd_any b r44.2 r44.1 r43.1 _ f44).mono ?_
      rintro e w45 ⟨rfl, f45, k45⟩
      generalize e45 : addS r44.2 r44.1 r43.1 = r45 at f45 ⊢
      have E45 : Hid _ := e45
      clear e45
      have K45 : Kept b w w45 := Kept.trans K44 k45
      have B0_45 : Arr w.heap.size [.int .i64 p.1, .int .i64 p.2.1, .int .i64 p.2.2.1, .int .i64 p.2.2.2.1, .int .i64 p.2.2.2.2.1, .int .i64 p.2.2.2.2.2] w45 := B0_44.kept k45 (by omega)
      have B1_45 : Arr (w.heap.size + 1) [.int .i64 q.1, .int .i64 q.2.1, .int .i64 q.2.2.1, .int .i64 q.2.2.2.1, .int .i64 q.2.2.2.2.1, .int .i64 q.2.2.2.2.2] w45 := B1_44.kept k45 (by omega)
      have B2_45 : Arr (w.heap.size + 1 + 1) [.int .i64 0, .int .i64 0, .int .i64 0, .int .i64 0] w45 := B2_44.kept k45 (by omega)
      have B3_45 : Arr w3.heap.size [.int .i64 r3.1.1, .int .i64 r3.1.2.1, .int .i64 r3.1.2.2.1, .int .i64 r3.1.2.2.2.1, .int .i64 r3.1.2.2.2.2.1, .int .i64 r3.1.2.2.2.2.2.1, .int .i64 r3.1.2.2.2.2.2.2.1, .int .i64 r3.1.2.2.2.2.2.2.2.1, .int .i64 r3.1.2.2.2.2.2.2.2.2] w45 := B3_44.kept k45 (by omega)
      have B4_45 : Arr w4.heap.size [.int .i64 r4.1.1, .int .i64 r4.1.2.1, .int .i64 r4.1.2.2.1, .int .i64 r4.1.2.2.2.1, .int .i64 r4.1.2.2.2.2.1, .int .i64 r4.1.2.2.2.2.2.1, .int .i64 r4.1.2.2.2.2.2.2.1, .int .i64 r4.1.2.2.2.2.2.2.2.1, .int .i64 r4.1.2.2.2.2.2.2.2.2] w45 := B4_44.kept k45 (by omega)
      have B5_45 : Arr (w4.heap.size + 1) [.int .i64 r9.1, .int .i64 r15.1, .int .i64 r21.1, .int .i64 r27.1, .int .i64 r33.1, .int .i64 r39.1, .int .i64 0, .int .i64 0, .int .i64 0] w45 := B5_44.kept k45 (by omega)
      have z45 := B5_45.lies
      clear hHeld
      refine hK.out _ _ trivial (fun hHeld => ?_)
      clear hK K K44 f44 B0_44 B1_44 B2_44 B3_44 B4_44 B5_44 k45
      refine take_at (i := 10) (v := ?v1326) rfl (by kernel_rfl) (by kernel_rfl) (by kernel_rfl) (fun _ _ _ h => h) (Or.inl ⟨by rfl, ?y1326⟩) hHeld ?t1326
      case y1326 => (intro wx hSw; go_simp <;> with_reducible rfl)
      simp only [Act.put, List.setIfInBounds_toArray, List.set_cons_zero, List.set_cons_succ]
      refine call_at (i := 11) (by kernel_rfl) rfl (fun K hK => ?_)
      have c51_B5_6 : w45.cell? ⟨w4.heap.size + 1, 6, none⟩ = some (.int .i64 0) := B5_45.c 6 (of_decide_eq_true rfl)
      have g51_B5_6 := B5_45.f 6 (of_decide_eq_true rfl)
      go_simp
      clear hHeld
      refine hK.out _ _ trivial (fun hHeld => ?_)
      clear hK K c51_B5_6 g51_B5_6
      refine wpAnyH_done (by kernel_rfl) ?_ _
      clear hHeld
      have P45 : Hid (zlS r39.2 r4.1.2.2.1 r3.1.1 r4.1.2.2.2.2.2.1 r3.1.2.2.2.1 r4.1.2.2.2.2.2.2.2.2 r3.1.2.2.2.2.2.2.1 = r45) := by show _ = _; unfold zlS; simp only [E41.out, E42.out, E43.out, E44.out, E45.out]
      clear E41 E42 E43 E44 E45
      go_wp2_with fail
      refine rounds_letter (S := fun w' => Kept b w w' ∧ Fl b r45.2 w' ∧ Arr w.heap.size [.int .i64 p.1, .int .i64 p.2.1, .int .i64 p.2.2.1, .int .i64 p.2.2.2.1, .int .i64 p.2.2.2.2.1, .int .i64 p.2.2.2.2.2] w' ∧ Arr (w.heap.size + 1) [.int .i64 q.1, .int .i64 q.2.1, .int .i64 q.2.2.1, .int .i64 q.2.2.2.1, .int .i64 q.2.2.2.2.1, .int .i64 q.2.2.2.2.2] w' ∧ Arr (w.heap.size + 1 + 1) [.int .i64 0, .int .i64 0, .int .i64 0, .int .i64 0] w' ∧ Arr w3.heap.size [.int .i64 r3.1.1, .int .i64 r3.1.2.1, .int .i64 r3.1.2.2.1, .int .i64 r3.1.2.2.2.1, .int .i64 r3.1.2.2.2.2.1, .int .i64 r3.1.2.2.2.2.2.1, .int .i64 r3.1.2.2.2.2.2.2.1, .int .i64 r3.1.2.2.2.2.2.2.2.1, .int .i64 r3.1.2.2.2.2.2.2.2.2] w' ∧ Arr w4.heap.size [.int .i64 r4.1.1, .int .i64 r4.1.2.1, .int .i64 r4.1.2.2.1, .int .i64 r4.1.2.2.2.1, .int .i64 r4.1.2.2.2.2.1, .int .i64 r4.1.2.2.2.2.2.1, .int .i64 r4.1.2.2.2.2.2.2.1, .int .i64 r4.1.2.2.2.2.2.2.2.1, .int .i64 r4.1.2.2.2.2.2.2.2.2] w' ∧ Arr (w4.heap.size + 1) [.int .i64 r9.1, .int .i64 r15.1, .int .i64 r21.1, .int .i64 r27.1, .int .i64 r33.1, .int .i64 r39.1, .int .i64 r45.1, .int .i64 0, .int .i64 0] w') ⟨(K45.new _ _ (by omega) _), (f45.new (w4.heap.size + 1) 6 (by omega) (.int .i64 r45.1)), (B0_45.new (w4.heap.size + 1) 6 (by omega) (.int .i64 r45.1)), (B1_45.new (w4.heap.size + 1) 6 (by omega) (.int .i64 r45.1)), (B2_45.new (w4.heap.size + 1) 6 (by omega) (.int .i64 r45.1)), (B3_45.new (w4.heap.size + 1) 6 (by omega) (.int .i64 r45.1)), (B4_45.new (w4.heap.size + 1) 6 (by omega) (.int .i64 r45.1)), (B5_45.put 6 (of_decide_eq_true rfl) (.int .i64 r45.1) [.int .i64 r9.1, .int .i64 r15.1, .int .i64 r21.1, .int .i64 r27.1, .int .i64 r33.1, .int .i64 r39.1, .int .i64 r45.1, .int .i64 0, .int .i64 0] rfl)⟩ ?_
      rintro w46 ⟨K46, BF_46, B0_46, B1_46, B2_46, B3_46, B4_46, B5_46⟩
      have z46 := B5_46.lies
      clear K45 f45 B0_45 B1_45 B2_45 B3_45 B4_45 B5_45
      rw [rounds_succ]
      go_wp2_with fail
      refine wp_region_held_drew (S := fun w' => Arr w4.heap.size [.int .i64 r4.1.1, .int .i64 r4.1.2.1, .int .i64 r4.1.2.2.1, .int .i64 r4.1.2.2.2.1, .int .i64 r4.1.2.2.2.2.1, .int .i64 r4.1.2.2.2.2.2.1, .int .i64 r4.1.2.2.2.2.2.2.1, .int .i64 r4.1.2.2.2.2.2.2.2.1, .int .i64 r4.1.2.2.2.2.2.2.2.2] w' ∧ Arr w3.heap.size [.int .i64 r3.1.1, .int .i64 r3.1.2.1, .int .i64 r3.1.2.2.1, .int .i64 r3.1.2.2.2.1, .int .i64 r3.1.2.2.2.2.1, .int .i64 r3.1.2.2.2.2.2.1, .int .i64 r3.1.2.2.2.2.2.2.1, .int .i64 r3.1.2.2.2.2.2.2.2.1, .int .i64 r3.1.2.2.2.2.2.2.2.2] w') (by kernel_rfl) ⟨B4_46.drew, B3_46.drew⟩ (fun hHeld => ?_)
      refine take_at (i := 0) (v := ?v1327) rfl (by kernel_rfl) (by kernel_rfl) (by kernel_rfl) (fun _ _ _ h => h) (Or.inl ⟨by rfl, ?y1327⟩) hHeld ?t1327
      case y1327 => (intro wx hSw; go_simp <;> with_reducible rfl)
      simp only [Act.put, List.setIfInBounds_toArray, List.set_cons_zero, List.set_cons_succ]
      refine take_at (i := 1) (v := ?v1328) rfl (by kernel_rfl) (by kernel_rfl) (by kernel_rfl) (fun _ _ _ h => h) (Or.inl ⟨by rfl, ?y1328⟩) hHeld ?t1328
      case y1328 => (intro wx hSw; go_simp <;> with_reducible rfl)
      simp only [Act.put, List.setIfInBounds_toArray, List.set_cons_zero, List.set_cons_succ]
      refine take_at (i := 2) (v := ?v1329) rfl (by kernel_rfl) (by kernel_rfl) (by kernel_rfl) (fun _ _ _ h => h) (Or.inl ⟨by rfl, ?y1329⟩) hHeld ?t1329
      case y1329 => (intro wx hSw; go_simp <;> with_reducible rfl)
      simp only [Act.put, List.setIfInBounds_toArray, List.set_cons_zero, List.set_cons_succ]
      refine take_at (i := 3) (v := ?v1330) rfl (by kernel_rfl) (by kernel_rfl) (by kernel_rfl) (fun _ _ _ h => h) (Or.inl ⟨by rfl, ?y1330⟩) hHeld ?t1330
      case y1330 => (intro wx hSw; go_simp <;> with_reducible rfl)
      simp only [Act.put, List.setIfInBounds_toArray, List.set_cons_zero, List.set_cons_succ]
      refine take_at (i := 4) (v := ?v1331) rfl (by kernel_rfl) (by kernel_rfl) (by kernel_rfl) (fun _ _ _ h => h) (Or.inl ⟨by rfl, ?y1331⟩) hHeld ?t1331
      case y1331 => (intro wx hSw; have hc2 : wx.cell? ⟨w4.heap.size, 2, none⟩ = some (.int .i64 r4.1.2.2.1) := hSw.1.c 2 (of_decide_eq_true rfl); go_simp <;> with_reducible rfl)
      simp only [Act.put, List.setIfInBounds_toArray, List.set_cons_zero, List.set_cons_succ]
      refine take_at (i := 5) (v := ?v1332) rfl (by kernel_rfl) (by kernel_rfl) (by kernel_rfl) (fun _ _ _ h => h) (Or.inl ⟨by rfl, ?y1332⟩) hHeld ?t1332
      case y1332 => (intro wx hSw; go_simp <;> with_reducible rfl)
      simp only [Act.put, List.setIfInBounds_toArray, List.set_cons_zero, List.set_cons_succ]
      refine take_at (i := 6) (v := ?v1333) rfl (by kernel_rfl) (by kernel_rfl) (by kernel_rfl) (fun _ _ _ h => h) (Or.inl ⟨by rfl, ?y1333⟩) hHeld ?t1333
      case y1333 => (intro wx hSw; go_simp <;> with_reducible rfl)
      simp only [Act.put, List.setIfInBounds_toArray, List.set_cons_zero, List.set_cons_succ]
      refine take_at (i := 7) (v := ?v1334) rfl (by kernel_rfl) (by kernel_rfl) (by kernel_rfl) (fun _ _ _ h => h) (Or.inl ⟨by rfl, ?y1334⟩) hHeld ?t1334
      case y1334 => (intro wx hSw; go_simp <;> with_reducible rfl)
      simp only [Act.put, List.setIfInBounds_toArray, List.set_cons_zero, List.set_cons_succ]
      refine take_at (i := 8) (v := ?v1335) rfl (by kernel_rfl) (by kernel_rfl) (by kernel_rfl) (fun _ _ _ h => h) (Or.inl ⟨by rfl, ?y1335⟩) hHeld ?t1335
      case y1335 => (intro wx hSw; have hc1 : wx.cell? ⟨w3.heap.size, 1, none⟩ = some (.int .i64 r3.1.2.1) := hSw.2.c 1 (of_decide_eq_true rfl); go_simp <;> with_reducible rfl)
      simp only [Act.put, List.setIfInBounds_toArray, List.set_cons_zero, List.set_cons_succ]
      refine call_at (i := 9) (by kernel_rfl) rfl (fun K hK => ?_)
      go_simp
      refine (rMul_any b r45.2 r4.1.2.2.1 r3.1.2.1 _ BF_46.drew).mono ?_
      rintro e w47 ⟨rfl, f47, k47⟩
      generalize e47 : mulS r45.2 r4.1.2.2.1 r3.1.2.1 = r47 at f47 ⊢
      have E47 : Hid _ := e47
      clear e47
      have K47 : Kept b w w47 := Kept.trans K46.drew k47
      have B0_47 : Arr w.heap.size [.int .i64 p.1, .int .i64 p.2.1, .int .i64 p.2.2.1, .int .i64 p.2.2.2.1, .int .i64 p.2.2.2.2.1, .int .i64 p.2.2.2.2.2] w47 := B0_46.drew.kept k47 (by omega)
      have B1_47 : Arr (w.heap.size + 1) [.int .i64 q.1, .int .i64 q.2.1, .int .i64 q.2.2.1, .int .i64 q.2.2.2.1, .int .i64 q.2.2.2.2.1, .int .i64 q.2.2.2.2.2] w47 := B1_46.drew.kept k47 (by omega)
      have B2_47 : Arr (w.heap.size + 1 + 1) [.int .i64 0, .int .i64 0, .int .i64 0, .int .i64 0] w47 := B2_46.drew.kept k47 (by omega)
      have B3_47 : Arr w3.heap.size [.int .i64 r3.1.1, .int .i64 r3.1.2.1, .int .i64 r3.1.2.2.1, .int .i64 r3.1.2.2.2.1, .int .i64 r3.1.2.2.2.2.1, .int .i64 r3.1.2.2.2.2.2.1, .int .i64 r3.1.2.2.2.2.2.2.1, .int .i64 r3.1.2.2.2.2.2.2.2.1, .int .i64 r3.1.2.2.2.2.2.2.2.2] w47 := B3_46.drew.kept k47 (by omega)
      have B4_47 : Arr w4.heap.size [.int .i64 r4.1.1, .int .i64 r4.1.2.1, .int .i64 r4.1.2.2.1, .int .i64 r4.1.2.2.2.1, .int .i64 r4.1.2.2.2.2.1, .int .i64 r4.1.2.2.2.2.2.1, .int .i64 r4.1.2.2.2.2.2.2.1, .int .i64 r4.1.2.2.2.2.2.2.2.1, .int .i64 r4.1.2.2.2.2.2.2.2.2] w47 := B4_46.drew.kept k47 (by omega)
      have B5_47 : Arr (w4.heap.size + 1) [.int .i64 r9.1, .int .i64 r15.1, .int .i64 r21.1, .int .i64 r27.1, .int .i64 r33.1, .int .i64 r39.1, .int .i64 r45.1, .int .i64 0, .int .i64 0] w47 := B5_46.drew.kept k47 (by omega)
      have z47 := B5_47.lies
      clear hHeld
      refine hK.out _ _ ⟨B4_47, B3_47⟩ (fun hHeld => ?_)
      clear hK K K46 BF_46 B0_46 B1_46 B2_46 B3_46 B4_46 B5_46 k47
      refine take_at (i := 10) (v := ?v1336) rfl (by kernel_rfl) (by kernel_rfl) (by kernel_rfl) (fun _ _ _ h => h) (Or.inl ⟨by rfl, ?y1336⟩) hHeld ?t1336
      case y1336 => (intro wx hSw; go_simp <;> with_reducible rfl)
      simp only [Act.put, List.setIfInBounds_toArray, List.set_cons_zero, List.set_cons_succ]
      refine wpAnyH_done (by kernel_rfl) ?_ _
      clear hHeld
      go_wp2_with fail
      refine wp_region_held_drew (S := fun w' => Arr w4.heap.size [.int .i64 r4.1.1, .int .i64 r4.1.2.1, .int .i64 r4.1.2.2.1, .int .i64 r4.1.2.2.2.1, .int .i64 r4.1.2.2.2.2.1, .int .i64 r4.1.2.2.2.2.2.1, .int .i64 r4.1.2.2.2.2.2.2.1, .int .i64 r4.1.2.2.2.2.2.2.2.1, .int .i64 r4.1.2.2.2.2.2.2.2.2] w' ∧ Arr w3.heap.size [.int .i64 r3.1.1, .int .i64 r3.1.2.1, .int .i64 r3.1.2.2.1, .int .i64 r3.1.2.2.2.1, .int .i64 r3.1.2.2.2.2.1, .int .i64 r3.1.2.2.2.2.2.1, .int .i64 r3.1.2.2.2.2.2.2.1, .int .i64 r3.1.2.2.2.2.2.2.2.1, .int .i64 r3.1.2.2.2.2.2.2.2.2] w') (by kernel_rfl) ⟨B4_47.drew, B3_47.drew⟩ (fun hHeld => ?_)
      refine take_at (i := 0) (v := ?v1337) rfl (by kernel_rfl) (by kernel_rfl) (by kernel_rfl) (fun _ _ _ h => h) (Or.inl ⟨by rfl, ?y1337⟩) hHeld ?t1337
      case y1337 => (intro wx hSw; go_simp <;> with_reducible rfl)
      simp only [Act.put, List.setIfInBounds_toArray, List.set_cons_zero, List.set_cons_succ]
      refine take_at (i := 1) (v := ?v1338) rfl (by kernel_rfl) (by kernel_rfl) (by kernel_rfl) (fun _ _ _ h => h) (Or.inl ⟨by rfl, ?y1338⟩) hHeld ?t1338
      case y1338 => (intro wx hSw; go_simp <;> with_reducible rfl)
      simp only [Act.put, List.setIfInBounds_toArray, List.set_cons_zero, List.set_cons_succ]
      refine take_at (i := 2) (v := ?v1339) rfl (by kernel_rfl) (by kernel_rfl) (by kernel_rfl) (fun _ _ _ h => h) (Or.inl ⟨by rfl, ?y1339⟩) hHeld ?t1339
      case y1339 => (intro wx hSw; go_simp <;> with_reducible rfl)
      simp only [Act.put, List.setIfInBounds_toArray, List.set_cons_zero, List.set_cons_succ]
      refine take_at (i := 3) (v := ?v1340) rfl (by kernel_rfl) (by kernel_rfl) (by kernel_rfl) (fun _ _ _ h => h) (Or.inl ⟨by rfl, ?y1340⟩) hHeld ?t1340
      case y1340 => (intro wx hSw; go_simp <;> with_reducible rfl)
      simp only [Act.put, List.setIfInBounds_toArray, List.set_cons_zero, List.set_cons_succ]
      refine take_at (i := 4) (v := ?v1341) rfl (by kernel_rfl) (by kernel_rfl) (by kernel_rfl) (fun _ _ _ h => h) (Or.inl ⟨by rfl, ?y1341⟩) hHeld ?t1341
      case y1341 => (intro wx hSw; have hc5 : wx.cell? ⟨w4.heap.size, 5, none⟩ = some (.int .i64 r4.1.2.2.2.2.2.1) := hSw.1.c 5 (of_decide_eq_true rfl); go_simp <;> with_reducible rfl)
      simp only [Act.put, List.setIfInBounds_toArray, List.set_cons_zero, List.set_cons_succ]
      refine take_at (i := 5) (v := ?v1342) rfl (by kernel_rfl) (by kernel_rfl) (by kernel_rfl) (fun _ _ _ h => h) (Or.inl ⟨by rfl, ?y1342⟩) hHeld ?t1342
      case y1342 => (intro wx hSw; go_simp <;> with_reducible rfl)
      simp only [Act.put, List.setIfInBounds_toArray, List.set_cons_zero, List.set_cons_succ]
      refine take_at (i := 6) (v := ?v1343) rfl (by kernel_rfl) (by kernel_rfl) (by kernel_rfl) (fun _ _ _ h => h) (Or.inl ⟨by rfl, ?y1343⟩) hHeld ?t1343
      case y1343 => (intro wx hSw; go_simp <;> with_reducible rfl)
      simp only [Act.put, List.setIfInBounds_toArray, List.set_cons_zero, List.set_cons_succ]
      refine take_at (i := 7) (v := ?v1344) rfl (by kernel_rfl) (by kernel_rfl) (by kernel_rfl) (fun _ _ _ h => h) (Or.inl ⟨by rfl, ?y1344⟩) hHeld ?t1344
      case y1344 => (intro wx hSw; go_simp <;> with_reducible rfl)
      simp only [Act.put, List.setIfInBounds_toArray, List.set_cons_zero, List.set_cons_succ]
      refine take_at (i := 8) (v := ?v1345) rfl (by kernel_rfl) (by kernel_rfl) (by kernel_rfl) (fun _ _ _ h => h) (Or.inl ⟨by rfl, ?y1345⟩) hHeld ?t1345
      case y1345 => (intro wx hSw; have hc4 : wx.cell? ⟨w3.heap.size, 4, none⟩ = some (.int .i64 r3.1.2.2.2.2.1) := hSw.2.c 4 (of_decide_eq_true rfl); go_simp <;> with_reducible rfl)
      simp only [Act.put, List.setIfInBounds_toArray, List.set_cons_zero, List.set_cons_succ]
      refine call_at (i := 9) (by kernel_rfl) rfl (fun K hK => ?_)
      go_simp
      refine (rMul_any b r47.2 r4.1.2.2.2.2.2.1 r3.1.2.2.2.2.1 _ f47.drew).mono ?_
      rintro e w48 ⟨rfl, f48, k48⟩
      generalize e48 : mulS r47.2 r4.1.2.2.2.2.2.1 r3.1.2.2.2.2.1 = r48 at f48 ⊢
      have E48 : Hid _ := e48
      clear e48
      have K48 : Kept b w w48 := Kept.trans K47.drew k48
      have B0_48 : Arr w.heap.size [.int .i64 p.1, .int .i64 p.2.1, .int .i64 p.2.2.1, .int .i64 p.2.2.2.1, .int .i64 p.2.2.2.2.1, .int .i64 p.2.2.2.2.2] w48 := B0_47.drew.kept k48 (by omega)
      have B1_48 : Arr (w.heap.size + 1) [.int .i64 q.1, .int .i64 q.2.1, .int .i64 q.2.2.1, .int .i64 q.2.2.2.1, .int .i64 q.2.2.2.2.1, .int .i64 q.2.2.2.2.2] w48 := B1_47.drew.kept k48 (by omega)
      have B2_48 : Arr (w.heap.size + 1 + 1) [.int .i64 0, .int .i64 0, .int .i64 0, .int .i64 0] w48 := B2_47.drew.kept k48 (by omega)
      have B3_48 : Arr w3.heap.size [.int .i64 r3.1.1, .int .i64 r3.1.2.1, .int .i64 r3.1.2.2.1, .int .i64 r3.1.2.2.2.1, .int .i64 r3.1.2.2.2.2.1, .int .i64 r3.1.2.2.2.2.2.1, .int .i64 r3.1.2.2.2.2.2.2.1, .int .i64 r3.1.2.2.2.2.2.2.2.1, .int .i64 r3.1.2.2.2.2.2.2.2.2] w48 := B3_47.drew.kept k48 (by omega)
      have B4_48 : Arr w4.heap.size [.int .i64 r4.1.1, .int .i64 r4.1.2.1, .int .i64 r4.1.2.2.1, .int .i64 r4.1.2.2.2.1, .int .i64 r4.1.2.2.2.2.1, .int .i64 r4.1.2.2.2.2.2.1, .int .i64 r4.1.2.2.2.2.2.2.1, .int .i64 r4.1.2.2.2.2.2.2.2.1, .int .i64 r4.1.2.2.2.2.2.2.2.2] w48 := B4_47.drew.kept k48 (by omega)
      have B5_48 : Arr (w4.heap.size + 1) [.int .i64 r9.1, .int .i64 r15.1, .int .i64 r21.1, .int .i64 r27.1, .int .i64 r33.1, .int .i64 r39.1, .int .i64 r45.1, .int .i64 0, .int .i64 0] w48 := B5_47.drew.kept k48 (by omega)
      have z48 := B5_48.lies
      clear hHeld
      refine hK.out _ _ ⟨B4_48, B3_48⟩ (fun hHeld => ?_)
      clear hK K K47 f47 B0_47 B1_47 B2_47 B3_47 B4_47 B5_47 k48
      refine take_at (i := 10) (v := ?v1346) rfl (by kernel_rfl) (by kernel_rfl) (by kernel_rfl) (fun _ _ _ h => h) (Or.inl ⟨by rfl, ?y1346⟩) hHeld ?t1346
      case y1346 => (intro wx hSw; go_simp <;> with_reducible rfl)
      simp only [Act.put, List.setIfInBounds_toArray, List.set_cons_zero, List.set_cons_succ]
      refine wpAnyH_done (by kernel_rfl) ?_ _
      clear hHeld
      go_wp2_with fail
      refine wp_region_held_drew (S := fun w' => Arr w4.heap.size [.int .i64 r4.1.1, .int .i64 r4.1.2.1, .int .i64 r4.1.2.2.1, .int .i64 r4.1.2.2.2.1, .int .i64 r4.1.2.2.2.2.1, .int .i64 r4.1.2.2.2.2.2.1, .int .i64 r4.1.2.2.2.2.2.2.1, .int .i64 r4.1.2.2.2.2.2.2.2.1, .int .i64 r4.1.2.2.2.2.2.2.2.2] w' ∧ Arr w3.heap.size [.int .i64 r3.1.1, .int .i64 r3.1.2.1, .int .i64 r3.1.2.2.1, .int .i64 r3.1.2.2.2.1, .int .i64 r3.1.2.2.2.2.1, .int .i64 r3.1.2.2.2.2.2.1, .int .i64 r3.1.2.2.2.2.2.2.1, .int .i64 r3.1.2.2.2.2.2.2.2.1, .int .i64 r3.1.2.2.2.2.2.2.2.2] w') (by kernel_rfl) ⟨B4_48.drew, B3_48.drew⟩ (fun hHeld => ?_)
      refine take_at (i := 0) (v := ?v1347) rfl (by kernel_rfl) (by kernel_rfl) (by kernel_rfl) (fun _ _ _ h => h) (Or.inl ⟨by rfl, ?y1347⟩) hHeld ?t1347
      case y1347 => (intro wx hSw; go_simp <;> with_reducible rfl)
      simp only [Act.put, List.setIfInBounds_toArray, List.set_cons_zero, List.set_cons_succ]
      refine take_at (i := 1) (v := ?v1348) rfl (by kernel_rfl) (by kernel_rfl) (by kernel_rfl) (fun _ _ _ h => h) (Or.inl ⟨by rfl, ?y1348⟩) hHeld ?t1348
      case y1348 => (intro wx hSw; go_simp <;> with_reducible rfl)
      simp only [Act.put, List.setIfInBounds_toArray, List.set_cons_zero, List.set_cons_succ]
      refine take_at (i := 2) (v := ?v1349) rfl (by kernel_rfl) (by kernel_rfl) (by kernel_rfl) (fun _ _ _ h => h) (Or.inl ⟨by rfl, ?y1349⟩) hHeld ?t1349
      case y1349 => (intro wx hSw; go_simp <;> with_reducible rfl)
      simp only [Act.put, List.setIfInBounds_toArray, List.set_cons_zero, List.set_cons_succ]
      refine take_at (i := 3) (v := ?v1350) rfl (by kernel_rfl) (by kernel_rfl) (by kernel_rfl) (fun _ _ _ h => h) (Or.inl ⟨by rfl, ?y1350⟩) hHeld ?t1350
      case y1350 => (intro wx hSw; go_simp <;> with_reducible rfl)
      simp only [Act.put, List.setIfInBounds_toArray, List.set_cons_zero, List.set_cons_succ]
      refine take_at (i := 4) (v := ?v1351) rfl (by kernel_rfl) (by kernel_rfl) (by kernel_rfl) (fun _ _ _ h => h) (Or.inl ⟨by rfl, ?y1351⟩) hHeld ?t1351
      case y1351 => (intro wx hSw; have hc8 : wx.cell? ⟨w4.heap.size, 8, none⟩ = some (.int .i64 r4.1.2.2.2.2.2.2.2.2) := hSw.1.c 8 (of_decide_eq_true rfl); go_simp <;> with_reducible rfl)
      simp only [Act.put, List.setIfInBounds_toArray, List.set_cons_zero, List.set_cons_succ]
      refine take_at (i := 5) (v := ?v1352) rfl (by kernel_rfl) (by kernel_rfl) (by kernel_rfl) (fun _ _ _ h => h) (Or.inl ⟨by rfl, ?y1352⟩) hHeld ?t1352
      case y1352 => (intro wx hSw; go_simp <;> with_reducible rfl)
      simp only [Act.put, List.setIfInBounds_toArray, List.set_cons_zero, List.set_cons_succ]
      refine take_at (i := 6) (v := ?v1353) rfl (by kernel_rfl) (by kernel_rfl) (by kernel_rfl) (fun _ _ _ h => h) (Or.inl ⟨by rfl, ?y1353⟩) hHeld ?t1353
      case y1353 => (intro wx hSw; go_simp <;> with_reducible rfl)
      simp only [Act.put, List.setIfInBounds_toArray, List.set_cons_zero, List.set_cons_succ]
      refine take_at (i := 7) (v := ?v1354) rfl (by kernel_rfl) (by kernel_rfl) (by kernel_rfl) (fun _ _ _ h => h) (Or.inl ⟨by rfl, ?y1354⟩) hHeld ?t1354
      case y1354 => (intro wx hSw; go_simp <;> with_reducible rfl)
      simp only [Act.put, List.setIfInBounds_toArray, List.set_cons_zero, List.set_cons_succ]
      refine take_at (i := 8) (v := ?v1355) rfl (by kernel_rfl) (by kernel_rfl) (by kernel_rfl) (fun _ _ _ h => h) (Or.inl ⟨by rfl, ?y1355⟩) hHeld ?t1355
      case y1355 => (intro wx hSw; have hc7 : wx.cell? ⟨w3.heap.size, 7, none⟩ = some (.int .i64 r3.1.2.2.2.2.2.2.2.1) := hSw.2.c 7 (of_decide_eq_true rfl); go_simp <;> with_reducible rfl)
      simp only [Act.put, List.setIfInBounds_toArray, List.set_cons_zero, List.set_cons_succ]
      refine call_at (i := 9) (by kernel_rfl) rfl (fun K hK => ?_)
      go_simp
      refine (rMul_any b r48.2 r4.1.2.2.2.2.2.2.2.2 r3.1.2.2.2.2.2.2.2.1 _ f48.drew).mono ?_
      rintro e w49 ⟨rfl, f49, k49⟩
      generalize e49 : mulS r48.2 r4.1.2.2.2.2.2.2.2.2 r3.1.2.2.2.2.2.2.2.1 = r49 at f49 ⊢
      have E49 : Hid _ := e49
      clear e49
      have K49 : Kept b w w49 := Kept.trans K48.drew k49
      have B0_49 : Arr w.heap.size [.int .i64 p.1, .int .i64 p.2.1, .int .i64 p.2.2.1, .int .i64 p.2.2.2.1, .int .i64 p.2.2.2.2.1, .int .i64 p.2.2.2.2.2] w49 := B0_48.drew.kept k49 (by omega)
      have B1_49 : Arr (w.heap.size + 1) [.int .i64 q.1, .int .i64 q.2.1, .int .i64 q.2.2.1, .int .i64 q.2.2.2.1, .int .i64 q.2.2.2.2.1, .int .i64 q.2.2.2.2.2] w49 := B1_48.drew.kept k49 (by omega)
      have B2_49 : Arr (w.heap.size + 1 + 1) [.int .i64 0, .int .i64 0, .int .i64 0, .int .i64 0] w49 := B2_48.drew.kept k49 (by omega)
      have B3_49 : Arr w3.heap.size [.int .i64 r3.1.1, .int .i64 r3.1.2.1, .int .i64 r3.1.2.2.1, .int .i64 r3.1.2.2.2.1, .int .i64 r3.1.2.2.2.2.1, .int .i64 r3.1.2.2.2.2.2.1, .int .i64 r3.1.2.2.2.2.2.2.1, .int .i64 r3.1.2.2.2.2.2.2.2.1, .int .i64 r3.1.2.2.2.2.2.2.2.2] w49 := B3_48.drew.kept k49 (by omega)
      have B4_49 : Arr w4.heap.size [.int .i64 r4.1.1, .int .i64 r4.1.2.1, .int .i64 r4.1.2.2.1, .int .i64 r4.1.2.2.2.1, .int .i64 r4.1.2.2.2.2.1, .int .i64 r4.1.2.2.2.2.2.1, .int .i64 r4.1.2.2.2.2.2.2.1, .int .i64 r4.1.2.2.2.2.2.2.2.1, .int .i64 r4.1.2.2.2.2.2.2.2.2] w49 := B4_48.drew.kept k49 (by omega)
      have B5_49 : Arr (w4.heap.size + 1) [.int .i64 r9.1, .int .i64 r15.1, .int .i64 r21.1, .int .i64 r27.1, .int .i64 r33.1, .int .i64 r39.1, .int .i64 r45.1, .int .i64 0, .int .i64 0] w49 := B5_48.drew.kept k49 (by omega)
      have z49 := B5_49.lies
      clear hHeld
      refine hK.out _ _ ⟨B4_49, B3_49⟩ (fun hHeld => ?_)
      clear hK K K48 f48 B0_48 B1_48 B2_48 B3_48 B4_48 B5_48 k49
      refine take_at (i := 10) (v := ?v1356) rfl (by kernel_rfl) (by kernel_rfl) (by kernel_rfl) (fun _ _ _ h => h) (Or.inl ⟨by rfl, ?y1356⟩) hHeld ?t1356
      case y1356 => (intro wx hSw; go_simp <;> with_reducible rfl)
      simp only [Act.put, List.setIfInBounds_toArray, List.set_cons_zero, List.set_cons_succ]
      refine wpAnyH_done (by kernel_rfl) ?_ _
      clear hHeld
      go_wp2_with fail
      refine wp_region_held_drew (S := fun _ => True) (by kernel_rfl) trivial (fun hHeld => ?_)
      refine take_at (i := 0) (v := ?v1357) rfl (by kernel_rfl) (by kernel_rfl) (by kernel_rfl) (fun _ _ _ h => h) (Or.inl ⟨by rfl, ?y1357⟩) hHeld ?t1357
      case y1357 => (intro wx hSw; go_simp <;> with_reducible rfl)
      simp only [Act.put, List.setIfInBounds_toArray, List.set_cons_zero, List.set_cons_succ]
      refine take_at (i := 1) (v := ?v1358) rfl (by kernel_rfl) (by kernel_rfl) (by kernel_rfl) (fun _ _ _ h => h) (Or.inl ⟨by rfl, ?y1358⟩) hHeld ?t1358
      case y1358 => (intro wx hSw; go_simp <;> with_reducible rfl)
      simp only [Act.put, List.setIfInBounds_toArray, List.set_cons_zero, List.set_cons_succ]
      refine take_at (i := 2) (v := ?v1359) rfl (by kernel_rfl) (by kernel_rfl) (by kernel_rfl) (fun _ _ _ h => h) (Or.inl ⟨by rfl, ?y1359⟩) hHeld ?t1359
      case y1359 => (intro wx hSw; go_simp <;> with_reducible rfl)
      simp only [Act.put, List.setIfInBounds_toArray, List.set_cons_zero, List.set_cons_succ]
      refine take_at (i := 3) (v := ?v1360) rfl (by kernel_rfl) (by kernel_rfl) (by kernel_rfl) (fun _ _ _ h => h) (Or.inl ⟨by rfl, ?y1360⟩) hHeld ?t1360
      case y1360 => (intro wx hSw; go_simp <;> with_reducible rfl)
      simp only [Act.put, List.setIfInBounds_toArray, List.set_cons_zero, List.set_cons_succ]
      refine take_at (i := 4) (v := ?v1361) rfl (by kernel_rfl) (by kernel_rfl) (by kernel_rfl) (fun _ _ _ h => h) (Or.inl ⟨by rfl, ?y1361⟩) hHeld ?t1361
      case y1361 => (intro wx hSw; go_simp <;> with_reducible rfl)
      simp only [Act.put, List.setIfInBounds_toArray, List.set_cons_zero, List.set_cons_succ]
      refine take_at (i := 5) (v := ?v1362) rfl (by kernel_rfl) (by kernel_rfl) (by kernel_rfl) (fun _ _ _ h => h) (Or.inl ⟨by rfl, ?y1362⟩) hHeld ?t1362
      case y1362 => (intro wx hSw; go_simp <;> with_reducible rfl)
      simp only [Act.put, List.setIfInBounds_toArray, List.set_cons_zero, List.set_cons_succ]
      refine take_at (i := 7) (v := ?v1363) rfl (by kernel_rfl) (by kernel_rfl) (by kernel_rfl) (fun _ _ _ h => h) (Or.inl ⟨by rfl, ?y1363⟩) hHeld ?t1363
      case y1363 => (intro wx hSw; go_simp <;> with_reducible rfl)
      simp only [Act.put, List.setIfInBounds_toArray, List.set_cons_zero, List.set_cons_succ]
      refine take_at (i := 9) (v := ?v1364) rfl (by kernel_rfl) (by kernel_rfl) (by kernel_rfl) (fun _ _ _ h => h) (Or.inl ⟨by rfl, ?y1364⟩) hHeld ?t1364
      case y1364 => (intro wx hSw; go_simp <;> with_reducible rfl)
      simp only [Act.put, List.setIfInBounds_toArray, List.set_cons_zero, List.set_cons_succ]
      refine call_at (i := 6) (by kernel_rfl) rfl (fun K hK => ?_)
      go_simp
      refine (rAdd_any b r49.2 r47.1 r48.1 _ f49.drew).mono ?_
      rintro e w50 ⟨rfl, f50, k50⟩
      generalize e50 : addS r49.2 r47.1 r48.1 = r50 at f50 ⊢
      have E50 : Hid _ := e50
      clear e50
      have K50 : Kept b w w50 := Kept.trans K49.drew k50
      have B0_50 : Arr w.heap.size [.int .i64 p.1, .int .i64 p.2.1, .int .i64 p.2.2.1, .int .i64 p.2.2.2.1, .int .i64 p.2.2.2.2.1, .int .i64 p.2.2.2.2.2] w50 := B0_49.drew.kept k50 (by omega)
      have B1_50 : Arr (w.heap.size + 1) [.int .i64 q.1, .int .i64 q.2.1, .int .i64 q.2.2.1, .int .i64 q.2.2.2.1, .int .i64 q.2.2.2.2.1, .int .i64 q.2.2.2.2.2] w50 := B1_49.drew.kept k50 (by omega)
      have B2_50 : Arr (w.heap.size + 1 + 1) [.int .i64 0, .int .i64 0, .int .i64 0, .int .i64 0] w50 := B2_49.drew.kept k50 (by omega)
      have B3_50 : Arr w3.heap.size [.int .i64 r3.1.1, .int .i64 r3.1.2.1, .int .i64 r3.1.2.2.1, .int .i64 r3.1.2.2.2.1, .int .i64 r3.1.2.2.2.2.1, .int .i64 r3.1.2.2.2.2.2.1, .int .i64 r3.1.2.2.2.2.2.2.1, .int .i64 r3.1.2.2.2.2.2.2.2.1, .int .i64 r3.1.2.2.2.2.2.2.2.2] w50 := B3_49.drew.kept k50 (by omega)
      have B4_50 : Arr w4.heap.size [.int .i64 r4.1.1, .int .i64 r4.1.2.1, .int .i64 r4.1.2.2.1, .int .i64 r4.1.2.2.2.1, .int .i64 r4.1.2.2.2.2.1, .int .i64 r4.1.2.2.2.2.2.1, .int .i64 r4.1.2.2.2.2.2.2.1, .int .i64 r4.1.2.2.2.2.2.2.2.1, .int .i64 r4.1.2.2.2.2.2.2.2.2] w50 := B4_49.drew.kept k50 (by omega)
      have B5_50 : Arr (w4.heap.size + 1) [.int .i64 r9.1, .int .i64 r15.1, .int .i64 r21.1, .int .i64 r27.1, .int .i64 r33.1, .int .i64 r39.1, .int .i64 r45.1, .int .i64 0, .int .i64 0] w50 := B5_49.drew.kept k50 (by omega)
      have z50 := B5_50.lies
      clear hHeld
      refine hK.out _ _ trivial (fun hHeld => ?_)
      clear hK K K49 f49 B0_49 B1_49 B2_49 B3_49 B4_49 B5_49 k50
      refine call_at (i := 8) (by kernel_rfl) rfl (fun K hK => ?_)
      go_simp
      refine (rAdd_any b r50.2 r50.1 r49.1 _ f50).mono ?_
      rintro e w51 ⟨rfl, f51, k51⟩
      generalize e51 : addS r50.2 r50.1 r49.1 = r51 at f51 ⊢
      have E51 : Hid _ := e51
      clear e51
      have K51 : Kept b w w51 := Kept.trans K50 k51
      have B0_51 : Arr w.heap.size [.int .i64 p.1, .int .i64 p.2.1, .int .i64 p.2.2.1, .int .i64 p.2.2.2.1, .int .i64 p.2.2.2.2.1, .int .i64 p.2.2.2.2.2] w51 := B0_50.kept k51 (by omega)
      have B1_51 : Arr (w.heap.size + 1) [.int .i64 q.1, .int .i64 q.2.1, .int .i64 q.2.2.1, .int .i64 q.2.2.2.1, .int .i64 q.2.2.2.2.1, .int .i64 q.2.2.2.2.2] w51 := B1_50.kept k51 (by omega)
      have B2_51 : Arr (w.heap.size + 1 + 1) [.int .i64 0, .int .i64 0, .int .i64 0, .int .i64 0] w51 := B2_50.kept k51 (by omega)
      have B3_51 : Arr w3.heap.size [.int .i64 r3.1.1, .int .i64 r3.1.2.1, .int .i64 r3.1.2.2.1, .int .i64 r3.1.2.2.2.1, .int .i64 r3.1.2.2.2.2.1, .int .i64 r3.1.2.2.2.2.2.1, .int .i64 r3.1.2.2.2.2.2.2.1, .int .i64 r3.1.2.2.2.2.2.2.2.1, .int .i64 r3.1.2.2.2.2.2.2.2.2] w51 := B3_50.kept k51 (by omega)
      have B4_51 : Arr w4.heap.size [.int .i64 r4.1.1, .int .i64 r4.1.2.1, .int .i64 r4.1.2.2.1, .int .i64 r4.1.2.2.2.1, .int .i64 r4.1.2.2.2.2.1, .int .i64 r4.1.2.2.2.2.2.1, .int .i64 r4.1.2.2.2.2.2.2.1, .int .i64 r4.1.2.2.2.2.2.2.2.1, .int .i64 r4.1.2.2.2.2.2.2.2.2] w51 := B4_50.kept k51 (by omega)
      have B5_51 : Arr (w4.heap.size + 1) [.int .i64 r9.1, .int .i64 r15.1, .int .i64 r21.1, .int .i64 r27.1, .int .i64 r33.1, .int .i64 r39.1, .int .i64 r45.1, .int .i64 0, .int .i64 0] w51 := B5_50.kept k51 (by omega)
      have z51 := B5_51.lies
      clear hHeld
      refine hK.out _ _ trivial (fun hHeld => ?_)
      clear hK K K50 f50 B0_50 B1_50 B2_50 B3_50 B4_50 B5_50 k51
      refine take_at (i := 10) (v := ?v1365) rfl (by kernel_rfl) (by kernel_rfl) (by kernel_rfl) (fun _ _ _ h => h) (Or.inl ⟨by rfl, ?y1365⟩) hHeld ?t1365
      case y1365 => (intro wx hSw; go_simp <;> with_reducible rfl)
      simp only [Act.put, List.setIfInBounds_toArray, List.set_cons_zero, List.set_cons_succ]
      refine call_at (i := 11) (by kernel_rfl) rfl (fun K hK => ?_)
      have c57_B5_7 : w51.cell? ⟨w4.heap.size + 1, 7, none⟩ = some (.int .i64 0) := B5_51.c 7 (of_decide_eq_true rfl)
      have g57_B5_7 := B5_51.f 7 (of_decide_eq_true rfl)
      go_simp
      clear hHeld
      refine hK.out _ _ trivial (fun hHeld => ?_)
      clear hK K c57_B5_7 g57_B5_7
      refine wpAnyH_done (by kernel_rfl) ?_ _
      clear hHeld
      have P51 : Hid (zlS r45.2 r4.1.2.2.1 r3.1.2.1 r4.1.2.2.2.2.2.1 r3.1.2.2.2.2.1 r4.1.2.2.2.2.2.2.2.2 r3.1.2.2.2.2.2.2.2.1 = r51) := by show _ = _; unfold zlS; simp only [E47.out, E48.out, E49.out, E50.out, E51.out]
      clear E47 E48 E49 E50 E51
      go_wp2_with fail
      refine rounds_letter (S := fun w' => Kept b w w' ∧ Fl b r51.2 w' ∧ Arr w.heap.size [.int .i64 p.1, .int .i64 p.2.1, .int .i64 p.2.2.1, .int .i64 p.2.2.2.1, .int .i64 p.2.2.2.2.1, .int .i64 p.2.2.2.2.2] w' ∧ Arr (w.heap.size + 1) [.int .i64 q.1, .int .i64 q.2.1, .int .i64 q.2.2.1, .int .i64 q.2.2.2.1, .int .i64 q.2.2.2.2.1, .int .i64 q.2.2.2.2.2] w' ∧ Arr (w.heap.size + 1 + 1) [.int .i64 0, .int .i64 0, .int .i64 0, .int .i64 0] w' ∧ Arr w3.heap.size [.int .i64 r3.1.1, .int .i64 r3.1.2.1, .int .i64 r3.1.2.2.1, .int .i64 r3.1.2.2.2.1, .int .i64 r3.1.2.2.2.2.1, .int .i64 r3.1.2.2.2.2.2.1, .int .i64 r3.1.2.2.2.2.2.2.1, .int .i64 r3.1.2.2.2.2.2.2.2.1, .int .i64 r3.1.2.2.2.2.2.2.2.2] w' ∧ Arr w4.heap.size [.int .i64 r4.1.1, .int .i64 r4.1.2.1, .int .i64 r4.1.2.2.1, .int .i64 r4.1.2.2.2.1, .int .i64 r4.1.2.2.2.2.1, .int .i64 r4.1.2.2.2.2.2.1, .int .i64 r4.1.2.2.2.2.2.2.1, .int .i64 r4.1.2.2.2.2.2.2.2.1, .int .i64 r4.1.2.2.2.2.2.2.2.2] w' ∧ Arr (w4.heap.size + 1) [.int .i64 r9.1, .int .i64 r15.1, .int .i64 r21.1, .int .i64 r27.1, .int .i64 r33.1, .int .i64 r39.1, .int .i64 r45.1, .int .i64 r51.1, .int .i64 0] w') ⟨(K51.new _ _ (by omega) _), (f51.new (w4.heap.size + 1) 7 (by omega) (.int .i64 r51.1)), (B0_51.new (w4.heap.size + 1) 7 (by omega) (.int .i64 r51.1)), (B1_51.new (w4.heap.size + 1) 7 (by omega) (.int .i64 r51.1)), (B2_51.new (w4.heap.size + 1) 7 (by omega) (.int .i64 r51.1)), (B3_51.new (w4.heap.size + 1) 7 (by omega) (.int .i64 r51.1)), (B4_51.new (w4.heap.size + 1) 7 (by omega) (.int .i64 r51.1)), (B5_51.put 7 (of_decide_eq_true rfl) (.int .i64 r51.1) [.int .i64 r9.1, .int .i64 r15.1, .int .i64 r21.1, .int .i64 r27.1, .int .i64 r33.1, .int .i64 r39.1, .int .i64 r45.1, .int .i64 r51.1, .int .i64 0] rfl)⟩ ?_
      rintro w52 ⟨K52, BF_52, B0_52, B1_52, B2_52, B3_52, B4_52, B5_52⟩
      have z52 := B5_52.lies
      clear K51 f51 B0_51 B1_51 B2_51 B3_51 B4_51 B5_51
      rw [rounds_succ]
      go_wp2_with fail
      refine wp_region_held_drew (S := fun w' => Arr w4.heap.size [.int .i64 r4.1.1, .int .i64 r4.1.2.1, .int .i64 r4.1.2.2.1, .int .i64 r4.1.2.2.2.1, .int .i64 r4.1.2.2.2.2.1, .int .i64 r4.1.2.2.2.2.2.1, .int .i64 r4.1.2.2.2.2.2.2.1, .int .i64 r4.1.2.2.2.2.2.2.2.1, .int .i64 r4.1.2.2.2.2.2.2.2.2] w' ∧ Arr w3.heap.size [.int .i64 r3.1.1, .int .i64 r3.1.2.1, .int .i64 r3.1.2.2.1, .int .i64 r3.1.2.2.2.1, .int .i64 r3.1.2.2.2.2.1, .int .i64 r3.1.2.2.2.2.2.1, .int .i64 r3.1.2.2.2.2.2.2.1, .int .i64 r3.1.2.2.2.2.2.2.2.1, .int .i64 r3.1.2.2.2.2.2.2.2.2] w') (by kernel_rfl) ⟨B4_52.drew, B3_52.drew⟩ (fun hHeld => ?_)
      refine take_at (i := 0) (v := ?v1366) rfl (by kernel_rfl) (by kernel_rfl) (by kernel_rfl) (fun _ _ _ h => h) (Or.inl ⟨by rfl, ?y1366⟩) hHeld ?t1366
      case y1366 => (intro wx hSw; go_simp <;> with_reducible rfl)
      simp only [Act.put, List.setIfInBounds_toArray, List.set_cons_zero, List.set_cons_succ]
      refine take_at (i := 1) (v := ?v1367) rfl (by kernel_rfl) (by kernel_rfl) (by kernel_rfl) (fun _ _ _ h => h) (Or.inl ⟨by rfl, ?y1367⟩) hHeld ?t1367
      case y1367 => (intro wx hSw; go_simp <;> with_reducible rfl)
      simp only [Act.put, List.setIfInBounds_toArray, List.set_cons_zero, List.set_cons_succ]
      refine take_at (i := 2) (v := ?v1368) rfl (by kernel_rfl) (by kernel_rfl) (by kernel_rfl) (fun _ _ _ h => h) (Or.inl ⟨by rfl, ?y1368⟩) hHeld ?t1368
      case y1368 => (intro wx hSw; go_simp <;> with_reducible rfl)
      simp only [Act.put, List.setIfInBounds_toArray, List.set_cons_zero, List.set_cons_succ]
      refine take_at (i := 3) (v := ?v1369) rfl (by kernel_rfl) (by kernel_rfl) (by kernel_rfl) (fun _ _ _ h => h) (Or.inl ⟨by rfl, ?y1369⟩) hHeld ?t1369
      case y1369 => (intro wx hSw; go_simp <;> with_reducible rfl)
      simp only [Act.put, List.setIfInBounds_toArray, List.set_cons_zero, List.set_cons_succ]
      refine take_at (i := 4) (v := ?v1370) rfl (by kernel_rfl) (by kernel_rfl) (by kernel_rfl) (fun _ _ _ h => h) (Or.inl ⟨by rfl, ?y1370⟩) hHeld ?t1370
      case y1370 => (intro wx hSw; have hc2 : wx.cell? ⟨w4.heap.size, 2, none⟩ = some (.int .i64 r4.1.2.2.1) := hSw.1.c 2 (of_decide_eq_true rfl); go_simp <;> with_reducible rfl)
      simp only [Act.put, List.setIfInBounds_toArray, List.set_cons_zero, List.set_cons_succ]
      refine take_at (i := 5) (v := ?v1371) rfl (by kernel_rfl) (by kernel_rfl) (by kernel_rfl) (fun _ _ _ h => h) (Or.inl ⟨by rfl, ?y1371⟩) hHeld ?t1371
      case y1371 => (intro wx hSw; go_simp <;> with_reducible rfl)
      simp only [Act.put, List.setIfInBounds_toArray, List.set_cons_zero, List.set_cons_succ]
      refine take_at (i := 6) (v := ?v1372) rfl (by kernel_rfl) (by kernel_rfl) (by kernel_rfl) (fun _ _ _ h => h) (Or.inl ⟨by rfl, ?y1372⟩) hHeld ?t1372
      case y1372 => (intro wx hSw; go_simp <;> with_reducible rfl)
      simp only [Act.put, List.setIfInBounds_toArray, List.set_cons_zero, List.set_cons_succ]
      refine take_at (i := 7) (v := ?v1373) rfl (by kernel_rfl) (by kernel_rfl) (by kernel_rfl) (fun _ _ _ h => h) (Or.inl ⟨by rfl, ?y1373⟩) hHeld ?t1373
      case y1373 => (intro wx hSw; go_simp <;> with_reducible rfl)
      simp only [Act.put, List.setIfInBounds_toArray, List.set_cons_zero, List.set_cons_succ]
      refine take_at (i := 8) (v := ?v1374) rfl (by kernel_rfl) (by kernel_rfl) (by kernel_rfl) (fun _ _ _ h => h) (Or.inl ⟨by rfl, ?y1374⟩) hHeld ?t1374
      case y1374 => (intro wx hSw; have hc2 : wx.cell? ⟨w3.heap.size, 2, none⟩ = some (.int .i64 r3.1.2.2.1) := hSw.2.c 2 (of_decide_eq_true rfl); go_simp <;> with_reducible rfl)
      simp only [Act.put, List.setIfInBounds_toArray, List.set_cons_zero, List.set_cons_succ]
      refine call_at (i := 9) (by kernel_rfl) rfl (fun K hK => ?_)
      go_simp
      refine (rMul_any b r51.2 r4.1.2.2.1 r3.1.2.2.1 _ BF_52.drew).mono ?_
      rintro e w53 ⟨rfl, f53, k53⟩
      generalize e53 : mulS r51.2 r4.1.2.2.1 r3.1.2.2.1 = r53 at f53 ⊢
      have E53 : Hid _ := e53
      clear e53
      have K53 : Kept b w w53 := Kept.trans K52.drew k53
      have B0_53 : Arr w.heap.size [.int .i64 p.1, .int .i64 p.2.1, .int .i64 p.2.2.1, .int .i64 p.2.2.2.1, .int .i64 p.2.2.2.2.1, .int .i64 p.2.2.2.2.2] w53 := B0_52.drew.kept k53 (by omega)
      have B1_53 : Arr (w.heap.size + 1) [.int .i64 q.1, .int .i64 q.2.1, .int .i64 q.2.2.1, .int .i64 q.2.2.2.1, .int .i64 q.2.2.2.2.1, .int .i64 q.2.2.2.2.2] w53 := B1_52.drew.kept k53 (by omega)
      have B2_53 : Arr (w.heap.size + 1 + 1) [.int .i64 0, .int .i64 0, .int .i64 0, .int .i64 0] w53 := B2_52.drew.kept k53 (by omega)
      have B3_53 : Arr w3.heap.size [.int .i64 r3.1.1, .int .i64 r3.1.2.1, .int .i64 r3.1.2.2.1, .int .i64 r3.1.2.2.2.1, .int .i64 r3.1.2.2.2.2.1, .int .i64 r3.1.2.2.2.2.2.1, .int .i64 r3.1.2.2.2.2.2.2.1, .int .i64 r3.1.2.2.2.2.2.2.2.1, .int .i64 r3.1.2.2.2.2.2.2.2.2] w53 := B3_52.drew.kept k53 (by omega)
      have B4_53 : Arr w4.heap.size [.int .i64 r4.1.1, .int .i64 r4.1.2.1, .int .i64 r4.1.2.2.1, .int .i64 r4.1.2.2.2.1, .int .i64 r4.1.2.2.2.2.1, .int .i64 r4.1.2.2.2.2.2.1, .int .i64 r4.1.2.2.2.2.2.2.1, .int .i64 r4.1.2.2.2.2.2.2.2.1, .int .i64 r4.1.2.2.2.2.2.2.2.2] w53 := B4_52.drew.kept k53 (by omega)
      have B5_53 : Arr (w4.heap.size + 1) [.int .i64 r9.1, .int .i64 r15.1, .int .i64 r21.1, .int .i64 r27.1, .int .i64 r33.1, .int .i64 r39.1, .int .i64 r45.1, .int .i64 r51.1, .int .i64 0] w53 := B5_52.drew.kept k53 (by omega)
      have z53 := B5_53.lies
      clear hHeld
      refine hK.out _ _ ⟨B4_53, B3_53⟩ (fun hHeld => ?_)
      clear hK K K52 BF_52 B0_52 B1_52 B2_52 B3_52 B4_52 B5_52 k53
      refine take_at (i := 10) (v := ?v1375) rfl (by kernel_rfl) (by kernel_rfl) (by kernel_rfl) (fun _ _ _ h => h) (Or.inl ⟨by rfl, ?y1375⟩) hHeld ?t1375
      case y1375 => (intro wx hSw; go_simp <;> with_reducible rfl)
      simp only [Act.put, List.setIfInBounds_toArray, List.set_cons_zero, List.set_cons_succ]
      refine wpAnyH_done (by kernel_rfl) ?_ _
      clear hHeld
      go_wp2_with fail
      refine wp_region_held_drew (S := fun w' => Arr w4.heap.size [.int .i64 r4.1.1, .int .i64 r4.1.2.1, .int .i64 r4.1.2.2.1, .int .i64 r4.1.2.2.2.1, .int .i64 r4.1.2.2.2.2.1, .int .i64 r4.1.2.2.2.2.2.1, .int .i64 r4.1.2.2.2.2.2.2.1, .int .i64 r4.1.2.2.2.2.2.2.2.1, .int .i64 r4.1.2.2.2.2.2.2.2.2] w' ∧ Arr w3.heap.size [.int .i64 r3.1.1, .int .i64 r3.1.2.1, .int .i64 r3.1.2.2.1, .int .i64 r3.1.2.2.2.1, .int .i64 r3.1.2.2.2.2.1, .int .i64 r3.1.2.2.2.2.2.1, .int .i64 r3.1.2.2.2.2.2.2.1, .int .i64 r3.1.2.2.2.2.2.2.2.1, .int .i64 r3.1.2.2.2.2.2.2.2.2] w') (by kernel_rfl) ⟨B4_53.drew, B3_53.drew⟩ (fun hHeld => ?_)
      refine take_at (i := 0) (v := ?v1376) rfl (by kernel_rfl) (by kernel_rfl) (by kernel_rfl) (fun _ _ _ h => h) (Or.inl ⟨by rfl, ?y1376⟩) hHeld ?t1376
      case y1376 => (intro wx hSw; go_simp <;> with_reducible rfl)
      simp only [Act.put, List.setIfInBounds_toArray, List.set_cons_zero, List.set_cons_succ]
      refine take_at (i := 1) (v := ?v1377) rfl (by kernel_rfl) (by kernel_rfl) (by kernel_rfl) (fun _ _ _ h => h) (Or.inl ⟨by rfl, ?y1377⟩) hHeld ?t1377
      case y1377 => (intro wx hSw; go_simp <;> with_reducible rfl)
      simp only [Act.put, List.setIfInBounds_toArray, List.set_cons_zero, List.set_cons_succ]
      refine take_at (i := 2) (v := ?v1378) rfl (by kernel_rfl) (by kernel_rfl) (by kernel_rfl) (fun _ _ _ h => h) (Or.inl ⟨by rfl, ?y1378⟩) hHeld ?t1378
      case y1378 => (intro wx hSw; go_simp <;> with_reducible rfl)
      simp only [Act.put, List.setIfInBounds_toArray, List.set_cons_zero, List.set_cons_succ]
      refine take_at (i := 3) (v := ?v1379) rfl (by kernel_rfl) (by kernel_rfl) (by kernel_rfl) (fun _ _ _ h => h) (Or.inl ⟨by rfl, ?y1379⟩) hHeld ?t1379
      case y1379 => (intro wx hSw; go_simp <;> with_reducible rfl)
      simp only [Act.put, List.setIfInBounds_toArray, List.set_cons_zero, List.set_cons_succ]
      refine take_at (i := 4) (v := ?v1380) rfl (by kernel_rfl) (by kernel_rfl) (by kernel_rfl) (fun _ _ _ h => h) (Or.inl ⟨by rfl, ?y1380⟩) hHeld ?t1380
      case y1380 => (intro wx hSw; have hc5 : wx.cell? ⟨w4.heap.size, 5, none⟩ = some (.int .i64 r4.1.2.2.2.2.2.1) := hSw.1.c 5 (of_decide_eq_true rfl); go_simp <;> with_reducible rfl)
      simp only [Act.put, List.setIfInBounds_toArray, List.set_cons_zero, List.set_cons_succ]
      refine take_at (i := 5) (v := ?v1381) rfl (by kernel_rfl) (by kernel_rfl) (by kernel_rfl) (fun _ _ _ h => h) (Or.inl ⟨by rfl, ?y1381⟩) hHeld ?t1381
      case y1381 => (intro wx hSw; go_simp <;> with_reducible rfl)
      simp only [Act.put, List.setIfInBounds_toArray, List.set_cons_zero, List.set_cons_succ]
      refine take_at (i := 6) (v := ?v1382) rfl (by kernel_rfl) (by kernel_rfl) (by kernel_rfl) (fun _ _ _ h => h) (Or.inl ⟨by rfl, ?y1382⟩) hHeld ?t1382
      case y1382 => (intro wx hSw; go_simp <;> with_reducible rfl)
      simp only [Act.put, List.setIfInBounds_toArray, List.set_cons_zero, List.set_cons_succ]
      refine take_at (i := 7) (v := ?v1383) rfl (by kernel_rfl) (by kernel_rfl) (by kernel_rfl) (fun _ _ _ h => h) (Or.inl ⟨by rfl, ?y1383⟩) hHeld ?t1383
      case y1383 => (intro wx hSw; go_simp <;> with_reducible rfl)
      simp only [Act.put, List.setIfInBounds_toArray, List.set_cons_zero, List.set_cons_succ]
      refine take_at (i := 8) (v := ?v1384) rfl (by kernel_rfl) (by kernel_rfl) (by kernel_rfl) (fun _ _ _ h => h) (Or.inl ⟨by rfl, ?y1384⟩) hHeld ?t1384
      case y1384 => (intro wx hSw; have hc5 : wx.cell? ⟨w3.heap.size, 5, none⟩ = some (.int .i64 r3.1.2.2.2.2.2.1) := hSw.2.c 5 (of_decide_eq_true rfl); go_simp <;> with_reducible rfl)
      simp only [Act.put, List.setIfInBounds_toArray, List.set_cons_zero, List.set_cons_succ]
      refine call_at (i := 9) (by kernel_rfl) rfl (fun K hK => ?_)
      go_simp
      refine (rMul_any b r53.2 r4.1.2.2.2.2.2.1 r3.1.2.2.2.2.2.1 _ f53.drew).mono ?_
      rintro e w54 ⟨rfl, f54, k54⟩
      generalize e54 : mulS r53.2 r4.1.2.2.2.2.2.1 r3.1.2.2.2.2.2.1 = r54 at f54 ⊢
      have E54 : Hid _ := e54
      clear e54
      have K54 : Kept b w w54 := Kept.trans K53.drew k54
      have B0_54 : Arr w.heap.size [.int .i64 p.1, .int .i64 p.2.1, .int .i64 p.2.2.1, .int .i64 p.2.2.2.1, .int .i64 p.2.2.2.2.1, .int .i64 p.2.2.2.2.2] w54 := B0_53.drew.kept k54 (by omega)
      have B1_54 : Arr (w.heap.size + 1) [.int .i64 q.1, .int .i64 q.2.1, .int .i64 q.2.2.1, .int .i64 q.2.2.2.1, .int .i64 q.2.2.2.2.1, .int .i64 q.2.2.2.2.2] w54 := B1_53.drew.kept k54 (by omega)
      have B2_54 : Arr (w.heap.size + 1 + 1) [.int .i64 0, .int .i64 0, .int .i64 0, .int .i64 0] w54 := B2_53.drew.kept k54 (by omega)
      have B3_54 : Arr w3.heap.size [.int .i64 r3.1.1, .int .i64 r3.1.2.1, .int .i64 r3.1.2.2.1, .int .i64 r3.1.2.2.2.1, .int .i64 r3.1.2.2.2.2.1, .int .i64 r3.1.2.2.2.2.2.1, .int .i64 r3.1.2.2.2.2.2.2.1, .int .i64 r3.1.2.2.2.2.2.2.2.1, .int .i64 r3.1.2.2.2.2.2.2.2.2] w54 := B3_53.drew.kept k54 (by omega)
      have B4_54 : Arr w4.heap.size [.int .i64 r4.1.1, .int .i64 r4.1.2.1, .int .i64 r4.1.2.2.1, .int .i64 r4.1.2.2.2.1, .int .i64 r4.1.2.2.2.2.1, .int .i64 r4.1.2.2.2.2.2.1, .int .i64 r4.1.2.2.2.2.2.2.1, .int .i64 r4.1.2.2.2.2.2.2.2.1, .int .i64 r4.1.2.2.2.2.2.2.2.2] w54 := B4_53.drew.kept k54 (by omega)
      have B5_54 : Arr (w4.heap.size + 1) [.int .i64 r9.1, .int .i64 r15.1, .int .i64 r21.1, .int .i64 r27.1, .int .i64 r33.1, .int .i64 r39.1, .int .i64 r45.1, .int .i64 r51.1, .int .i64 0] w54 := B5_53.drew.kept k54 (by omega)
      have z54 := B5_54.lies
      clear hHeld
      refine hK.out _ _ ⟨B4_54, B3_54⟩ (fun hHeld => ?_)
      clear hK K K53 f53 B0_53 B1_53 B2_53 B3_53 B4_53 B5_53 k54
      refine take_at (i := 10) (v := ?v1385) rfl (by kernel_rfl) (by kernel_rfl) (by kernel_rfl) (fun _ _ _ h => h) (Or.inl ⟨by rfl, ?y1385⟩) hHeld ?t1385
      case y1385 => (intro wx hSw; go_simp <;> with_reducible rfl)
      simp only [Act.put, List.setIfInBounds_toArray, List.set_cons_zero, List.set_cons_succ]
      refine wpAnyH_done (by kernel_rfl) ?_ _
      clear hHeld
      go_wp2_with fail
      refine wp_region_held_drew (S := fun w' => Arr w4.heap.size [.int .i64 r4.1.1, .int .i64 r4.1.2.1, .int .i64 r4.1.2.2.1, .int .i64 r4.1.2.2.2.1, .int .i64 r4.1.2.2.2.2.1, .int .i64 r4.1.2.2.2.2.2.1, .int .i64 r4.1.2.2.2.2.2.2.1, .int .i64 r4.1.2.2.2.2.2.2.2.1, .int .i64 r4.1.2.2.2.2.2.2.2.2] w' ∧ Arr w3.heap.size [.int .i64 r3.1.1, .int .i64 r3.1.2.1, .int .i64 r3.1.2.2.1, .int .i64 r3.1.2.2.2.1, .int .i64 r3.1.2.2.2.2.1, .int .i64 r3.1.2.2.2.2.2.1, .int .i64 r3.1.2.2.2.2.2.2.1, .int .i64 r3.1.2.2.2.2.2.2.2.1, .int .i64 r3.1.2.2.2.2.2.2.2.2] w') (by kernel_rfl) ⟨B4_54.drew, B3_54.drew⟩ (fun hHeld => ?_)
      refine take_at (i := 0) (v := ?v1386) rfl (by kernel_rfl) (by kernel_rfl) (by kernel_rfl) (fun _ _ _ h => h) (Or.inl ⟨by rfl, ?y1386⟩) hHeld ?t1386
      case y1386 => (intro wx hSw; go_simp <;> with_reducible rfl)
      simp only [Act.put, List.setIfInBounds_toArray, List.set_cons_zero, List.set_cons_succ]
      refine take_at (i := 1) (v := ?v1387) rfl (by kernel_rfl) (by kernel_rfl) (by kernel_rfl) (fun _ _ _ h => h) (Or.inl ⟨by rfl, ?y1387⟩) hHeld ?t1387
      case y1387 => (intro wx hSw; go_simp <;> with_reducible rfl)
      simp only [Act.put, List.setIfInBounds_toArray, List.set_cons_zero, List.set_cons_succ]
      refine take_at (i := 2) (v := ?v1388) rfl (by kernel_rfl) (by kernel_rfl) (by kernel_rfl) (fun _ _ _ h => h) (Or.inl ⟨by rfl, ?y1388⟩) hHeld ?t1388
      case y1388 => (intro wx hSw; go_simp <;> with_reducible rfl)
      simp only [Act.put, List.setIfInBounds_toArray, List.set_cons_zero, List.set_cons_succ]
      refine take_at (i := 3) (v := ?v1389) rfl (by kernel_rfl) (by kernel_rfl) (by kernel_rfl) (fun _ _ _ h => h) (Or.inl ⟨by rfl, ?y1389⟩) hHeld ?t1389
      case y1389 => (intro wx hSw; go_simp <;> with_reducible rfl)
      simp only [Act.put, List.setIfInBounds_toArray, List.set_cons_zero, List.set_cons_succ]
      refine take_at (i := 4) (v := ?v1390) rfl (by kernel_rfl) (by kernel_rfl) (by kernel_rfl) (fun _ _ _ h => h) (Or.inl ⟨by rfl, ?y1390⟩) hHeld ?t1390
      case y1390 => (intro wx hSw; have hc8 : wx.cell? ⟨w4.heap.size, 8, none⟩ = some (.int .i64 r4.1.2.2.2.2.2.2.2.2) := hSw.1.c 8 (of_decide_eq_true rfl); go_simp <;> with_reducible rfl)
      simp only [Act.put, List.setIfInBounds_toArray, List.set_cons_zero, List.set_cons_succ]
      refine take_at (i := 5) (v := ?v1391) rfl (by kernel_rfl) (by kernel_rfl) (by kernel_rfl) (fun _ _ _ h => h) (Or.inl ⟨by rfl, ?y1391⟩) hHeld ?t1391
      case y1391 => (intro wx hSw; go_simp <;> with_reducible rfl)
      simp only [Act.put, List.setIfInBounds_toArray, List.set_cons_zero, List.set_cons_succ]
      refine take_at (i := 6) (v := ?v1392) rfl (by kernel_rfl) (by kernel_rfl) (by kernel_rfl) (fun _ _ _ h => h) (Or.inl ⟨by rfl, ?y1392⟩) hHeld ?t1392
      case y1392 => (intro wx hSw; go_simp <;> with_reducible rfl)
      simp only [Act.put, List.setIfInBounds_toArray, List.set_cons_zero, List.set_cons_succ]
      refine take_at (i := 7) (v := ?v1393) rfl (by kernel_rfl) (by kernel_rfl) (by kernel_rfl) (fun _ _ _ h => h) (Or.inl ⟨by rfl, ?y1393⟩) hHeld ?t1393
      case y1393 => (intro wx hSw; go_simp <;> with_reducible rfl)
      simp only [Act.put, List.setIfInBounds_toArray, List.set_cons_zero, List.set_cons_succ]
      refine take_at (i := 8) (v := ?v1394) rfl (by kernel_rfl) (by kernel_rfl) (by kernel_rfl) (fun _ _ _ h => h) (Or.inl ⟨by rfl, ?y1394⟩) hHeld ?t1394
      case y1394 => (intro wx hSw; have hc8 : wx.cell? ⟨w3.heap.size, 8, none⟩ = some (.int .i64 r3.1.2.2.2.2.2.2.2.2) := hSw.2.c 8 (of_decide_eq_true rfl); go_simp <;> with_reducible rfl)
      simp only [Act.put, List.setIfInBounds_toArray, List.set_cons_zero, List.set_cons_succ]
      refine call_at (i := 9) (by kernel_rfl) rfl (fun K hK => ?_)
      go_simp
      refine (rMul_any b r54.2 r4.1.2.2.2.2.2.2.2.2 r3.1.2.2.2.2.2.2.2.2 _ f54.drew).mono ?_
      rintro e w55 ⟨rfl, f55, k55⟩
      generalize e55 : mulS r54.2 r4.1.2.2.2.2.2.2.2.2 r3.1.2.2.2.2.2.2.2.2 = r55 at f55 ⊢
      have E55 : Hid _ := e55
      clear e55
      have K55 : Kept b w w55 := Kept.trans K54.drew k55
      have B0_55 : Arr w.heap.size [.int .i64 p.1, .int .i64 p.2.1, .int .i64 p.2.2.1, .int .i64 p.2.2.2.1, .int .i64 p.2.2.2.2.1, .int .i64 p.2.2.2.2.2] w55 := B0_54.drew.kept k55 (by omega)
      have B1_55 : Arr (w.heap.size + 1) [.int .i64 q.1, .int .i64 q.2.1, .int .i64 q.2.2.1, .int .i64 q.2.2.2.1, .int .i64 q.2.2.2.2.1, .int .i64 q.2.2.2.2.2] w55 := B1_54.drew.kept k55 (by omega)
      have B2_55 : Arr (w.heap.size + 1 + 1) [.int .i64 0, .int .i64 0, .int .i64 0, .int .i64 0] w55 := B2_54.drew.kept k55 (by omega)
      have B3_55 : Arr w3.heap.size [.int .i64 r3.1.1, .int .i64 r3.1.2.1, .int .i64 r3.1.2.2.1, .int .i64 r3.1.2.2.2.1, .int .i64 r3.1.2.2.2.2.1, .int .i64 r3.1.2.2.2.2.2.1, .int .i64 r3.1.2.2.2.2.2.2.1, .int .i64 r3.1.2.2.2.2.2.2.2.1, .int .i64 r3.1.2.2.2.2.2.2.2.2] w55 := B3_54.drew.kept k55 (by omega)
      have B4_55 : Arr w4.heap.size [.int .i64 r4.1.1, .int .i64 r4.1.2.1, .int .i64 r4.1.2.2.1, .int .i64 r4.1.2.2.2.1, .int .i64 r4.1.2.2.2.2.1, .int .i64 r4.1.2.2.2.2.2.1, .int .i64 r4.1.2.2.2.2.2.2.1, .int .i64 r4.1.2.2.2.2.2.2.2.1, .int .i64 r4.1.2.2.2.2.2.2.2.2] w55 := B4_54.drew.kept k55 (by omega)
      have B5_55 : Arr (w4.heap.size + 1) [.int .i64 r9.1, .int .i64 r15.1, .int .i64 r21.1, .int .i64 r27.1, .int .i64 r33.1, .int .i64 r39.1, .int .i64 r45.1, .int .i64 r51.1, .int .i64 0] w55 := B5_54.drew.kept k55 (by omega)
      have z55 := B5_55.lies
      clear hHeld
      refine hK.out _ _ ⟨B4_55, B3_55⟩ (fun hHeld => ?_)
      clear hK K K54 f54 B0_54 B1_54 B2_54 B3_54 B4_54 B5_54 k55
      refine take_at (i := 10) (v := ?v1395) rfl (by kernel_rfl) (by kernel_rfl) (by kernel_rfl) (fun _ _ _ h => h) (Or.inl ⟨by rfl, ?y1395⟩) hHeld ?t1395
      case y1395 => (intro wx hSw; go_simp <;> with_reducible rfl)
      simp only [Act.put, List.setIfInBounds_toArray, List.set_cons_zero, List.set_cons_succ]
      refine wpAnyH_done (by kernel_rfl) ?_ _
      clear hHeld
      go_wp2_with fail
      refine wp_region_held_drew (S := fun _ => True) (by kernel_rfl) trivial (fun hHeld => ?_)
      refine take_at (i := 0) (v := ?v1396) rfl (by kernel_rfl) (by kernel_rfl) (by kernel_rfl) (fun _ _ _ h => h) (Or.inl ⟨by rfl, ?y1396⟩) hHeld ?t1396
      case y1396 => (intro wx hSw; go_simp <;> with_reducible rfl)
      simp only [Act.put, List.setIfInBounds_toArray, List.set_cons_zero, List.set_cons_succ]
      refine take_at (i := 1) (v := ?v1397) rfl (by kernel_rfl) (by kernel_rfl) (by kernel_rfl) (fun _ _ _ h => h) (Or.inl ⟨by rfl, ?y1397⟩) hHeld ?t1397
      case y1397 => (intro wx hSw; go_simp <;> with_reducible rfl)
      simp only [Act.put, List.setIfInBounds_toArray, List.set_cons_zero, List.set_cons_succ]
      refine take_at (i := 2) (v := ?v1398) rfl (by kernel_rfl) (by kernel_rfl) (by kernel_rfl) (fun _ _ _ h => h) (Or.inl ⟨by rfl, ?y1398⟩) hHeld ?t1398
      case y1398 => (intro wx hSw; go_simp <;> with_reducible rfl)
      simp only [Act.put, List.setIfInBounds_toArray, List.set_cons_zero, List.set_cons_succ]
      refine take_at (i := 3) (v := ?v1399) rfl (by kernel_rfl) (by kernel_rfl) (by kernel_rfl) (fun _ _ _ h => h) (Or.inl ⟨by rfl, ?y1399⟩) hHeld ?t1399
      case y1399 => (intro wx hSw; go_simp <;> with_reducible rfl)
      simp only [Act.put, List.setIfInBounds_toArray, List.set_cons_zero, List.set_cons_succ]
      refine take_at (i := 4) (v := ?v1400) rfl (by kernel_rfl) (by kernel_rfl) (by kernel_rfl) (fun _ _ _ h => h) (Or.inl ⟨by rfl, ?y1400⟩) hHeld ?t1400
      case y1400 => (intro wx hSw; go_simp <;> with_reducible rfl)
      simp only [Act.put, List.setIfInBounds_toArray, List.set_cons_zero, List.set_cons_succ]
      refine take_at (i := 5) (v := ?v1401) rfl (by kernel_rfl) (by kernel_rfl) (by kernel_rfl) (fun _ _ _ h => h) (Or.inl ⟨by rfl, ?y1401⟩) hHeld ?t1401
      case y1401 => (intro wx hSw; go_simp <;> with_reducible rfl)
      simp only [Act.put, List.setIfInBounds_toArray, List.set_cons_zero, List.set_cons_succ]
      refine take_at (i := 7) (v := ?v1402) rfl (by kernel_rfl) (by kernel_rfl) (by kernel_rfl) (fun _ _ _ h => h) (Or.inl ⟨by rfl, ?y1402⟩) hHeld ?t1402
      case y1402 => (intro wx hSw; go_simp <;> with_reducible rfl)
      simp only [Act.put, List.setIfInBounds_toArray, List.set_cons_zero, List.set_cons_succ]
      refine take_at (i := 9) (v := ?v1403) rfl (by kernel_rfl) (by kernel_rfl) (by kernel_rfl) (fun _ _ _ h => h) (Or.inl ⟨by rfl, ?y1403⟩) hHeld ?t1403
      case y1403 => (intro wx hSw; go_simp <;> with_reducible rfl)
      simp only [Act.put, List.setIfInBounds_toArray, List.set_cons_zero, List.set_cons_succ]
      refine call_at (i := 6) (by kernel_rfl) rfl (fun K hK => ?_)
      go_simp
      refine (rAdd_any b r55.2 r53.1 r54.1 _ f55.drew).mono ?_
      rintro e w56 ⟨rfl, f56, k56⟩
      generalize e56 : addS r55.2 r53.1 r54.1 = r56 at f56 ⊢
      have E56 : Hid _ := e56
      clear e56
      have K56 : Kept b w w56 := Kept.trans K55.drew k56
      have B0_56 : Arr w.heap.size [.int .i64 p.1, .int .i64 p.2.1, .int .i64 p.2.2.1, .int .i64 p.2.2.2.1, .int .i64 p.2.2.2.2.1, .int .i64 p.2.2.2.2.2] w56 := B0_55.drew.kept k56 (by omega)
      have B1_56 : Arr (w.heap.size + 1) [.int .i64 q.1, .int .i64 q.2.1, .int .i64 q.2.2.1, .int .i64 q.2.2.2.1, .int .i64 q.2.2.2.2.1, .int .i64 q.2.2.2.2.2] w56 := B1_55.drew.kept k56 (by omega)
      have B2_56 : Arr (w.heap.size + 1 + 1) [.int .i64 0, .int .i64 0, .int .i64 0, .int .i64 0] w56 := B2_55.drew.kept k56 (by omega)
      have B3_56 : Arr w3.heap.size [.int .i64 r3.1.1, .int .i64 r3.1.2.1, .int .i64 r3.1.2.2.1, .int .i64 r3.1.2.2.2.1, .int .i64 r3.1.2.2.2.2.1, .int .i64 r3.1.2.2.2.2.2.1, .int .i64 r3.1.2.2.2.2.2.2.1, .int .i64 r3.1.2.2.2.2.2.2.2.1, .int .i64 r3.1.2.2.2.2.2.2.2.2] w56 := B3_55.drew.kept k56 (by omega)
      have B4_56 : Arr w4.heap.size [.int .i64 r4.1.1, .int .i64 r4.1.2.1, .int .i64 r4.1.2.2.1, .int .i64 r4.1.2.2.2.1, .int .i64 r4.1.2.2.2.2.1, .int .i64 r4.1.2.2.2.2.2.1, .int .i64 r4.1.2.2.2.2.2.2.1, .int .i64 r4.1.2.2.2.2.2.2.2.1, .int .i64 r4.1.2.2.2.2.2.2.2.2] w56 := B4_55.drew.kept k56 (by omega)
      have B5_56 : Arr (w4.heap.size + 1) [.int .i64 r9.1, .int .i64 r15.1, .int .i64 r21.1, .int .i64 r27.1, .int .i64 r33.1, .int .i64 r39.1, .int .i64 r45.1, .int .i64 r51.1, .int .i64 0] w56 := B5_55.drew.kept k56 (by omega)
      have z56 := B5_56.lies
      clear hHeld
      refine hK.out _ _ trivial (fun hHeld => ?_)
      clear hK K K55 f55 B0_55 B1_55 B2_55 B3_55 B4_55 B5_55 k56
      refine call_at (i := 8) (by kernel_rfl) rfl (fun K hK => ?_)
      go_simp
      refine (rAdd_any b r56.2 r56.1 r55.1 _ f56).mono ?_
      rintro e w57 ⟨rfl, f57, k57⟩
      generalize e57 : addS r56.2 r56.1 r55.1 = r57 at f57 ⊢
      have E57 : Hid _ := e57
      clear e57
      have K57 : Kept b w w57 := Kept.trans K56 k57
      have B0_57 : Arr w.heap.size [.int .i64 p.1, .int .i64 p.2.1, .int .i64 p.2.2.1, .int .i64 p.2.2.2.1, .int .i64 p.2.2.2.2.1, .int .i64 p.2.2.2.2.2] w57 := B0_56.kept k57 (by omega)
      have B1_57 : Arr (w.heap.size + 1) [.int .i64 q.1, .int .i64 q.2.1, .int .i64 q.2.2.1, .int .i64 q.2.2.2.1, .int .i64 q.2.2.2.2.1, .int .i64 q.2.2.2.2.2] w57 := B1_56.kept k57 (by omega)
      have B2_57 : Arr (w.heap.size + 1 + 1) [.int .i64 0, .int .i64 0, .int .i64 0, .int .i64 0] w57 := B2_56.kept k57 (by omega)
      have B3_57 : Arr w3.heap.size [.int .i64 r3.1.1, .int .i64 r3.1.2.1, .int .i64 r3.1.2.2.1, .int .i64 r3.1.2.2.2.1, .int .i64 r3.1.2.2.2.2.1, .int .i64 r3.1.2.2.2.2.2.1, .int .i64 r3.1.2.2.2.2.2.2.1, .int .i64 r3.1.2.2.2.2.2.2.2.1, .int .i64 r3.1.2.2.2.2.2.2.2.2] w57 := B3_56.kept k57 (by omega)
      have B4_57 : Arr w4.heap.size [.int .i64 r4.1.1, .int .i64 r4.1.2.1, .int .i64 r4.1.2.2.1, .int .i64 r4.1.2.2.2.1, .int .i64 r4.1.2.2.2.2.1, .int .i64 r4.1.2.2.2.2.2.1, .int .i64 r4.1.2.2.2.2.2.2.1, .int .i64 r4.1.2.2.2.2.2.2.2.1, .int .i64 r4.1.2.2.2.2.2.2.2.2] w57 := B4_56.kept k57 (by omega)
      have B5_57 : Arr (w4.heap.size + 1) [.int .i64 r9.1, .int .i64 r15.1, .int .i64 r21.1, .int .i64 r27.1, .int .i64 r33.1, .int .i64 r39.1, .int .i64 r45.1, .int .i64 r51.1, .int .i64 0] w57 := B5_56.kept k57 (by omega)
      have z57 := B5_57.lies
      clear hHeld
      refine hK.out _ _ trivial (fun hHeld => ?_)
      clear hK K K56 f56 B0_56 B1_56 B2_56 B3_56 B4_56 B5_56 k57
      refine take_at (i := 10) (v := ?v1404) rfl (by kernel_rfl) (by kernel_rfl) (by kernel_rfl) (fun _ _ _ h => h) (Or.inl ⟨by rfl, ?y1404⟩) hHeld ?t1404
      case y1404 => (intro wx hSw; go_simp <;> with_reducible rfl)
      simp only [Act.put, List.setIfInBounds_toArray, List.set_cons_zero, List.set_cons_succ]
      refine call_at (i := 11) (by kernel_rfl) rfl (fun K hK => ?_)
      have c63_B5_8 : w57.cell? ⟨w4.heap.size + 1, 8, none⟩ = some (.int .i64 0) := B5_57.c 8 (of_decide_eq_true rfl)
      have g63_B5_8 := B5_57.f 8 (of_decide_eq_true rfl)
      go_simp
      clear hHeld
      refine hK.out _ _ trivial (fun hHeld => ?_)
      clear hK K c63_B5_8 g63_B5_8
      refine wpAnyH_done (by kernel_rfl) ?_ _
      clear hHeld
      have P57 : Hid (zlS r51.2 r4.1.2.2.1 r3.1.2.2.1 r4.1.2.2.2.2.2.1 r3.1.2.2.2.2.2.1 r4.1.2.2.2.2.2.2.2.2 r3.1.2.2.2.2.2.2.2.2 = r57) := by show _ = _; unfold zlS; simp only [E53.out, E54.out, E55.out, E56.out, E57.out]
      clear E53 E54 E55 E56 E57
      go_wp2_with fail
      refine rounds_letter (S := fun w' => Kept b w w' ∧ Fl b r57.2 w' ∧ Arr w.heap.size [.int .i64 p.1, .int .i64 p.2.1, .int .i64 p.2.2.1, .int .i64 p.2.2.2.1, .int .i64 p.2.2.2.2.1, .int .i64 p.2.2.2.2.2] w' ∧ Arr (w.heap.size + 1) [.int .i64 q.1, .int .i64 q.2.1, .int .i64 q.2.2.1, .int .i64 q.2.2.2.1, .int .i64 q.2.2.2.2.1, .int .i64 q.2.2.2.2.2] w' ∧ Arr (w.heap.size + 1 + 1) [.int .i64 0, .int .i64 0, .int .i64 0, .int .i64 0] w' ∧ Arr w3.heap.size [.int .i64 r3.1.1, .int .i64 r3.1.2.1, .int .i64 r3.1.2.2.1, .int .i64 r3.1.2.2.2.1, .int .i64 r3.1.2.2.2.2.1, .int .i64 r3.1.2.2.2.2.2.1, .int .i64 r3.1.2.2.2.2.2.2.1, .int .i64 r3.1.2.2.2.2.2.2.2.1, .int .i64 r3.1.2.2.2.2.2.2.2.2] w' ∧ Arr w4.heap.size [.int .i64 r4.1.1, .int .i64 r4.1.2.1, .int .i64 r4.1.2.2.1, .int .i64 r4.1.2.2.2.1, .int .i64 r4.1.2.2.2.2.1, .int .i64 r4.1.2.2.2.2.2.1, .int .i64 r4.1.2.2.2.2.2.2.1, .int .i64 r4.1.2.2.2.2.2.2.2.1, .int .i64 r4.1.2.2.2.2.2.2.2.2] w' ∧ Arr (w4.heap.size + 1) [.int .i64 r9.1, .int .i64 r15.1, .int .i64 r21.1, .int .i64 r27.1, .int .i64 r33.1, .int .i64 r39.1, .int .i64 r45.1, .int .i64 r51.1, .int .i64 r57.1] w') ⟨(K57.new _ _ (by omega) _), (f57.new (w4.heap.size + 1) 8 (by omega) (.int .i64 r57.1)), (B0_57.new (w4.heap.size + 1) 8 (by omega) (.int .i64 r57.1)), (B1_57.new (w4.heap.size + 1) 8 (by omega) (.int .i64 r57.1)), (B2_57.new (w4.heap.size + 1) 8 (by omega) (.int .i64 r57.1)), (B3_57.new (w4.heap.size + 1) 8 (by omega) (.int .i64 r57.1)), (B4_57.new (w4.heap.size + 1) 8 (by omega) (.int .i64 r57.1)), (B5_57.put 8 (of_decide_eq_true rfl) (.int .i64 r57.1) [.int .i64 r9.1, .int .i64 r15.1, .int .i64 r21.1, .int .i64 r27.1, .int .i64 r33.1, .int .i64 r39.1, .int .i64 r45.1, .int .i64 r51.1, .int .i64 r57.1] rfl)⟩ ?_
      rintro w58 ⟨K58, BF_58, B0_58, B1_58, B2_58, B3_58, B4_58, B5_58⟩
      have z58 := B5_58.lies
      clear K57 f57 B0_57 B1_57 B2_57 B3_57 B4_57 B5_57
      rw [rounds_succ]
      go_wp2_with fail
      rw [rounds_succ]
      have c66_B5_0 : w58.cell? ⟨w4.heap.size + 1, 0, none⟩ = some (.int .i64 r9.1) := B5_58.c 0 (of_decide_eq_true rfl)
      have c66_B5_1 : w58.cell? ⟨w4.heap.size + 1, 1, none⟩ = some (.int .i64 r15.1) := B5_58.c 1 (of_decide_eq_true rfl)
      have c66_B5_2 : w58.cell? ⟨w4.heap.size + 1, 2, none⟩ = some (.int .i64 r21.1) := B5_58.c 2 (of_decide_eq_true rfl)
      have c66_B5_3 : w58.cell? ⟨w4.heap.size + 1, 3, none⟩ = some (.int .i64 r27.1) := B5_58.c 3 (of_decide_eq_true rfl)
      have c66_B5_4 : w58.cell? ⟨w4.heap.size + 1, 4, none⟩ = some (.int .i64 r33.1) := B5_58.c 4 (of_decide_eq_true rfl)
      have c66_B5_5 : w58.cell? ⟨w4.heap.size + 1, 5, none⟩ = some (.int .i64 r39.1) := B5_58.c 5 (of_decide_eq_true rfl)
      have c66_B5_6 : w58.cell? ⟨w4.heap.size + 1, 6, none⟩ = some (.int .i64 r45.1) := B5_58.c 6 (of_decide_eq_true rfl)
      have c66_B5_7 : w58.cell? ⟨w4.heap.size + 1, 7, none⟩ = some (.int .i64 r51.1) := B5_58.c 7 (of_decide_eq_true rfl)
      have c66_B5_8 : w58.cell? ⟨w4.heap.size + 1, 8, none⟩ = some (.int .i64 r57.1) := B5_58.c 8 (of_decide_eq_true rfl)
      go_wp2_with fail
      refine (xFromMatrix_any b r57.2 (r9.1, r15.1, r21.1, r27.1, r33.1, r39.1, r45.1, r51.1, r57.1) _ BF_58).mono ?_
      rintro e w59 ⟨rfl, f59, k59⟩
      generalize e59 : xFromMatrixS r57.2 (r9.1, r15.1, r21.1, r27.1, r33.1, r39.1, r45.1, r51.1, r57.1) = r59 at f59 ⊢
      have E59 : Hid _ := e59
      clear e59
      have K59 : Kept b w w59 := Kept.trans K58 k59
      have B0_59 : Arr w.heap.size [.int .i64 p.1, .int .i64 p.2.1, .int .i64 p.2.2.1, .int .i64 p.2.2.2.1, .int .i64 p.2.2.2.2.1, .int .i64 p.2.2.2.2.2] w59 := B0_58.kept k59 (by omega)
      have B1_59 : Arr (w.heap.size + 1) [.int .i64 q.1, .int .i64 q.2.1, .int .i64 q.2.2.1, .int .i64 q.2.2.2.1, .int .i64 q.2.2.2.2.1, .int .i64 q.2.2.2.2.2] w59 := B1_58.kept k59 (by omega)
      have B2_59 : Arr (w.heap.size + 1 + 1) [.int .i64 0, .int .i64 0, .int .i64 0, .int .i64 0] w59 := B2_58.kept k59 (by omega)
      have B3_59 : Arr w3.heap.size [.int .i64 r3.1.1, .int .i64 r3.1.2.1, .int .i64 r3.1.2.2.1, .int .i64 r3.1.2.2.2.1, .int .i64 r3.1.2.2.2.2.1, .int .i64 r3.1.2.2.2.2.2.1, .int .i64 r3.1.2.2.2.2.2.2.1, .int .i64 r3.1.2.2.2.2.2.2.2.1, .int .i64 r3.1.2.2.2.2.2.2.2.2] w59 := B3_58.kept k59 (by omega)
      have B4_59 : Arr w4.heap.size [.int .i64 r4.1.1, .int .i64 r4.1.2.1, .int .i64 r4.1.2.2.1, .int .i64 r4.1.2.2.2.1, .int .i64 r4.1.2.2.2.2.1, .int .i64 r4.1.2.2.2.2.2.1, .int .i64 r4.1.2.2.2.2.2.2.1, .int .i64 r4.1.2.2.2.2.2.2.2.1, .int .i64 r4.1.2.2.2.2.2.2.2.2] w59 := B4_58.kept k59 (by omega)
      have B5_59 : Arr (w4.heap.size + 1) [.int .i64 r9.1, .int .i64 r15.1, .int .i64 r21.1, .int .i64 r27.1, .int .i64 r33.1, .int .i64 r39.1, .int .i64 r45.1, .int .i64 r51.1, .int .i64 r57.1] w59 := B5_58.kept k59 (by omega)
      have z59 := B5_59.lies
      clear c66_B5_0 c66_B5_1 c66_B5_2 c66_B5_3 c66_B5_4 c66_B5_5 c66_B5_6 c66_B5_7 c66_B5_8 K58 BF_58 B0_58 B1_58 B2_58 B3_58 B4_58 B5_58 k59
      have c67_B2_0 : w59.cell? ⟨w.heap.size + 1 + 1, 0, none⟩ = some (.int .i64 0) := B2_59.c 0 (of_decide_eq_true rfl)
      have c67_B2_1 : w59.cell? ⟨w.heap.size + 1 + 1, 1, none⟩ = some (.int .i64 0) := B2_59.c 1 (of_decide_eq_true rfl)
      have c67_B2_2 : w59.cell? ⟨w.heap.size + 1 + 1, 2, none⟩ = some (.int .i64 0) := B2_59.c 2 (of_decide_eq_true rfl)
      have c67_B2_3 : w59.cell? ⟨w.heap.size + 1 + 1, 3, none⟩ = some (.int .i64 0) := B2_59.c 3 (of_decide_eq_true rfl)
      have g67_B2_0 := B2_59.f 0 (of_decide_eq_true rfl)
      have g67_B2_1 := B2_59.f 1 (of_decide_eq_true rfl)
      have g67_B2_2 := B2_59.f 2 (of_decide_eq_true rfl)
      have g67_B2_3 := B2_59.f 3 (of_decide_eq_true rfl)
      go_wp2_with (with_reducible refine post_stop ?_)
      refine Stop.mk ?_
      clear c67_B2_0 c67_B2_1 c67_B2_2 c67_B2_3 g67_B2_0 g67_B2_1 g67_B2_2 g67_B2_3
      refine bodyPost_ret (v := .agg #[.int .i64 r59.1.1, .int .i64 r59.1.2.1, .int .i64 r59.1.2.2.1, .int .i64 r59.1.2.2.2]) (results_arr Try.results11 ((((B2_59.put 0 (of_decide_eq_true rfl) (.int .i64 r59.1.1) [.int .i64 r59.1.1, .int .i64 0, .int .i64 0, .int .i64 0] rfl).put 1 (of_decide_eq_true rfl) (.int .i64 r59.1.2.1) [.int .i64 r59.1.1, .int .i64 r59.1.2.1, .int .i64 0, .int .i64 0] rfl).put 2 (of_decide_eq_true rfl) (.int .i64 r59.1.2.2.1) [.int .i64 r59.1.1, .int .i64 r59.1.2.1, .int .i64 r59.1.2.2.1, .int .i64 0] rfl).put 3 (of_decide_eq_true rfl) (.int .i64 r59.1.2.2.2) [.int .i64 r59.1.1, .int .i64 r59.1.2.1, .int .i64 r59.1.2.2.1, .int .i64 r59.1.2.2.2] rfl) rfl (by kernel_rfl) (by kernel_rfl)) rfl ?_
      have hs : zAttitudeS bad p q = (r59.1, r59.2) := by unfold zAttitudeS; simp only [E1.out, E2.out, E3.out, E4.out, P9.out, P15.out, P21.out, P27.out, P33.out, P39.out, P45.out, P51.out, P57.out, E59.out]; rw [if_pos Hhc1.out]; rw [if_pos Hhc2.out]
      rw [hs]
      exact ⟨rfl, ((((f59.new (w.heap.size + 1 + 1) 0 (by omega) (.int .i64 r59.1.1)).new (w.heap.size + 1 + 1) 1 (by omega) (.int .i64 r59.1.2.1)).new (w.heap.size + 1 + 1) 2 (by omega) (.int .i64 r59.1.2.2.1)).new (w.heap.size + 1 + 1) 3 (by omega) (.int .i64 r59.1.2.2.2)), ((((K59.new _ _ (by omega) _).new _ _ (by omega) _).new _ _ (by omega) _).new _ _ (by omega) _)⟩
    · have Hhc2 : Hid (r2.1 = false) := hc2
      go_wp2_with fail
      refine (rFail_any b r2.2  _ f2).mono ?_
      rintro e w3 ⟨rfl, f3, k3⟩
      have K3 : Kept b w w3 := Kept.trans K2 k3
      have B0_3 : Arr w.heap.size [.int .i64 p.1, .int .i64 p.2.1, .int .i64 p.2.2.1, .int .i64 p.2.2.2.1, .int .i64 p.2.2.2.2.1, .int .i64 p.2.2.2.2.2] w3 := B0_2.kept k3 (by omega)
      have B1_3 : Arr (w.heap.size + 1) [.int .i64 q.1, .int .i64 q.2.1, .int .i64 q.2.2.1, .int .i64 q.2.2.2.1, .int .i64 q.2.2.2.2.1, .int .i64 q.2.2.2.2.2] w3 := B1_2.kept k3 (by omega)
      have B2_3 : Arr (w.heap.size + 1 + 1) [.int .i64 0, .int .i64 0, .int .i64 0, .int .i64 0] w3 := B2_2.kept k3 (by omega)
      have z3 := B2_3.lies
      clear K2 f2 B0_2 B1_2 B2_2 k3
      have c4_B2_0 : w3.cell? ⟨w.heap.size + 1 + 1, 0, none⟩ = some (.int .i64 0) := B2_3.c 0 (of_decide_eq_true rfl)
      have c4_B2_1 : w3.cell? ⟨w.heap.size + 1 + 1, 1, none⟩ = some (.int .i64 0) := B2_3.c 1 (of_decide_eq_true rfl)
      have c4_B2_2 : w3.cell? ⟨w.heap.size + 1 + 1, 2, none⟩ = some (.int .i64 0) := B2_3.c 2 (of_decide_eq_true rfl)
      have c4_B2_3 : w3.cell? ⟨w.heap.size + 1 + 1, 3, none⟩ = some (.int .i64 0) := B2_3.c 3 (of_decide_eq_true rfl)
      have g4_B2_0 := B2_3.f 0 (of_decide_eq_true rfl)
      have g4_B2_1 := B2_3.f 1 (of_decide_eq_true rfl)
      have g4_B2_2 := B2_3.f 2 (of_decide_eq_true rfl)
      have g4_B2_3 := B2_3.f 3 (of_decide_eq_true rfl)
      go_wp2_with (with_reducible refine post_stop ?_)
      refine Stop.mk ?_
      clear c4_B2_0 c4_B2_1 c4_B2_2 c4_B2_3 g4_B2_0 g4_B2_1 g4_B2_2 g4_B2_3
      refine bodyPost_ret (v := .agg #[.int .i64 0, .int .i64 0, .int .i64 0, .int .i64 0]) (results_arr Try.results11 ((((B2_3.put 0 (of_decide_eq_true rfl) (.int .i64 0) [.int .i64 0, .int .i64 0, .int .i64 0, .int .i64 0] rfl).put 1 (of_decide_eq_true rfl) (.int .i64 0) [.int .i64 0, .int .i64 0, .int .i64 0, .int .i64 0] rfl).put 2 (of_decide_eq_true rfl) (.int .i64 0) [.int .i64 0, .int .i64 0, .int .i64 0, .int .i64 0] rfl).put 3 (of_decide_eq_true rfl) (.int .i64 0) [.int .i64 0, .int .i64 0, .int .i64 0, .int .i64 0] rfl) rfl (by kernel_rfl) (by kernel_rfl)) rfl ?_
      have hs : zAttitudeS bad p q = ((0, 0, 0, 0), true) := by unfold zAttitudeS; simp only [E1.out, E2.out]; rw [if_pos Hhc1.out]; rw [if_neg (by rw [Hhc2.out]; decide)]
      rw [hs]
      exact ⟨rfl, ((((f3.new (w.heap.size + 1 + 1) 0 (by omega) (.int .i64 0)).new (w.heap.size + 1 + 1) 1 (by omega) (.int .i64 0)).new (w.heap.size + 1 + 1) 2 (by omega) (.int .i64 0)).new (w.heap.size + 1 + 1) 3 (by omega) (.int .i64 0)), ((((K3.new _ _ (by omega) _).new _ _ (by omega) _).new _ _ (by omega) _).new _ _ (by omega) _)⟩
  · have Hhc1 : Hid (r1.1 = false) := hc1
    go_wp2_with fail
    refine (rFail_any b r2.2  _ f2).mono ?_
    rintro e w3 ⟨rfl, f3, k3⟩
    have K3 : Kept b w w3 := Kept.trans K2 k3
    have B0_3 : Arr w.heap.size [.int .i64 p.1, .int .i64 p.2.1, .int .i64 p.2.2.1, .int .i64 p.2.2.2.1, .int .i64 p.2.2.2.2.1, .int .i64 p.2.2.2.2.2] w3 := B0_2.kept k3 (by omega)
    have B1_3 : Arr (w.heap.size + 1) [.int .i64 q.1, .int .i64 q.2.1, .int .i64 q.2.2.1, .int .i64 q.2.2.2.1, .int .i64 q.2.2.2.2.1, .int .i64 q.2.2.2.2.2] w3 := B1_2.kept k3 (by omega)
    have B2_3 : Arr (w.heap.size + 1 + 1) [.int .i64 0, .int .i64 0, .int .i64 0, .int .i64 0] w3 := B2_2.kept k3 (by omega)
    have z3 := B2_3.lies
    clear K2 f2 B0_2 B1_2 B2_2 k3
    have c4_B2_0 : w3.cell? ⟨w.heap.size + 1 + 1, 0, none⟩ = some (.int .i64 0) := B2_3.c 0 (of_decide_eq_true rfl)
    have c4_B2_1 : w3.cell? ⟨w.heap.size + 1 + 1, 1, none⟩ = some (.int .i64 0) := B2_3.c 1 (of_decide_eq_true rfl)
    have c4_B2_2 : w3.cell? ⟨w.heap.size + 1 + 1, 2, none⟩ = some (.int .i64 0) := B2_3.c 2 (of_decide_eq_true rfl)
    have c4_B2_3 : w3.cell? ⟨w.heap.size + 1 + 1, 3, none⟩ = some (.int .i64 0) := B2_3.c 3 (of_decide_eq_true rfl)
    have g4_B2_0 := B2_3.f 0 (of_decide_eq_true rfl)
    have g4_B2_1 := B2_3.f 1 (of_decide_eq_true rfl)
    have g4_B2_2 := B2_3.f 2 (of_decide_eq_true rfl)
    have g4_B2_3 := B2_3.f 3 (of_decide_eq_true rfl)
    go_wp2_with (with_reducible refine post_stop ?_)
    refine Stop.mk ?_
    clear c4_B2_0 c4_B2_1 c4_B2_2 c4_B2_3 g4_B2_0 g4_B2_1 g4_B2_2 g4_B2_3
    refine bodyPost_ret (v := .agg #[.int .i64 0, .int .i64 0, .int .i64 0, .int .i64 0]) (results_arr Try.results11 ((((B2_3.put 0 (of_decide_eq_true rfl) (.int .i64 0) [.int .i64 0, .int .i64 0, .int .i64 0, .int .i64 0] rfl).put 1 (of_decide_eq_true rfl) (.int .i64 0) [.int .i64 0, .int .i64 0, .int .i64 0, .int .i64 0] rfl).put 2 (of_decide_eq_true rfl) (.int .i64 0) [.int .i64 0, .int .i64 0, .int .i64 0, .int .i64 0] rfl).put 3 (of_decide_eq_true rfl) (.int .i64 0) [.int .i64 0, .int .i64 0, .int .i64 0, .int .i64 0] rfl) rfl (by kernel_rfl) (by kernel_rfl)) rfl ?_
    have hs : zAttitudeS bad p q = ((0, 0, 0, 0), true) := by unfold zAttitudeS; simp only [E1.out, E2.out]; rw [if_neg (by rw [Hhc1.out]; decide)]
    rw [hs]
    exact ⟨rfl, ((((f3.new (w.heap.size + 1 + 1) 0 (by omega) (.int .i64 0)).new (w.heap.size + 1 + 1) 1 (by omega) (.int .i64 0)).new (w.heap.size + 1 + 1) 2 (by omega) (.int .i64 0)).new (w.heap.size + 1 + 1) 3 (by omega) (.int .i64 0)), ((((K3.new _ _ (by omega) _).new _ _ (by omega) _).new _ _ (by omega) _).new _ _ (by omega) _)⟩
end Go.Proofs.Ytkeijfbpkdelpaa
