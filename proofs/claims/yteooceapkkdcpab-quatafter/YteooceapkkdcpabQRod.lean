/-
  Walks of package quat, for the seat Yteooceapkkdcpab. (Made by mkquat.py.)
-/
import Derived.Test.YteooceapkkdcpabQUnit
import Derived.Test.YteooceapkkdcpabVCode
import Derived.Handy
import Derived.Deep.RegionHeld3
namespace Go.Proofs.Yteooceapkkdcpab
open Go.RowKit

set_option maxRecDepth 100000 in
set_option maxHeartbeats 2000000 in
theorem qFromRod_any (b : Nat) (bad : Bool) (p : V3) (w : World) (hw : Fl b bad w) :
    Calls Try.prog 15 #[.pointer (some ⟨b, 0, none⟩), .agg #[.int .i64 p.1, .int .i64 p.2.1, .int .i64 p.2.2]] w fun e w' => e = .returned (.agg #[.int .i64 ((qFromRodS bad p).1.1), .int .i64 ((qFromRodS bad p).1.2.1), .int .i64 ((qFromRodS bad p).1.2.2.1), .int .i64 ((qFromRodS bad p).1.2.2.2)]) ∧ Fl b (qFromRodS bad p).2 w' ∧ Kept b w w' := by
  have hl := hw.lies
  go_enter Try.func15, Try.ntmps15
  go_wp2_with fail
  refine (vDot_any b bad p p _ ((hw.alloc _).alloc _)).mono ?_
  rintro e w1 ⟨rfl, f1, k1⟩
  generalize e1 : vDotS bad p p = r1 at f1 ⊢
  have E1 : Hid _ := e1
  clear e1
  have K1 : Kept b w w1 := Kept.trans (((Kept.refl b w).al _).al _) k1
  have B0_1 : Arr w.heap.size [.int .i64 p.1, .int .i64 p.2.1, .int .i64 p.2.2] w1 := ((Arr_at _ _ [.int .i64 p.1, .int .i64 p.2.1, .int .i64 p.2.2] _ (by simp)).alloc _).kept k1 (by omega)
  have B1_1 : Arr (w.heap.size + 1) [.int .i64 0, .int .i64 0, .int .i64 0, .int .i64 0] w1 := (Arr_at _ _ [.int .i64 0, .int .i64 0, .int .i64 0, .int .i64 0] _ (by simp)).kept k1 (by omega)
  have z1 := B1_1.lies
  clear k1
  go_wp2_with fail
  refine (Add_any b r1.2 17592186044416 r1.1 _ f1).mono ?_
  rintro e w2 ⟨rfl, f2, k2⟩
  generalize e2 : addS r1.2 17592186044416 r1.1 = r2 at f2 ⊢
  have E2 : Hid _ := e2
  clear e2
  have K2 : Kept b w w2 := Kept.trans K1 k2
  have B0_2 : Arr w.heap.size [.int .i64 p.1, .int .i64 p.2.1, .int .i64 p.2.2] w2 := B0_1.kept k2 (by omega)
  have B1_2 : Arr (w.heap.size + 1) [.int .i64 0, .int .i64 0, .int .i64 0, .int .i64 0] w2 := B1_1.kept k2 (by omega)
  have z2 := B1_2.lies
  clear K1 f1 B0_1 B1_1 k2
  go_wp2_with fail
  refine wp_region_held_drew (S := fun w' => Arr w.heap.size [.int .i64 p.1, .int .i64 p.2.1, .int .i64 p.2.2] w') (by kernel_rfl) B0_2.drew (fun hHeld => ?_)
  refine take_at (i := 0) (v := ?v74) rfl (by kernel_rfl) (by kernel_rfl) (by kernel_rfl) (fun _ _ _ h => h) (Or.inl ⟨by rfl, ?y74⟩) hHeld ?t74
  case y74 => (intro wx hSw; go_simp <;> with_reducible rfl)
  simp only [Act.put, List.setIfInBounds_toArray, List.set_cons_zero, List.set_cons_succ]
  refine take_at (i := 1) (v := ?v75) rfl (by kernel_rfl) (by kernel_rfl) (by kernel_rfl) (fun _ _ _ h => h) (Or.inl ⟨by rfl, ?y75⟩) hHeld ?t75
  case y75 => (intro wx hSw; go_simp <;> with_reducible rfl)
  simp only [Act.put, List.setIfInBounds_toArray, List.set_cons_zero, List.set_cons_succ]
  refine take_at (i := 2) (v := ?v76) rfl (by kernel_rfl) (by kernel_rfl) (by kernel_rfl) (fun _ _ _ h => h) (Or.inl ⟨by rfl, ?y76⟩) hHeld ?t76
  case y76 => (intro wx hSw; go_simp <;> with_reducible rfl)
  simp only [Act.put, List.setIfInBounds_toArray, List.set_cons_zero, List.set_cons_succ]
  refine take_at (i := 3) (v := ?v77) rfl (by kernel_rfl) (by kernel_rfl) (by kernel_rfl) (fun _ _ _ h => h) (Or.inl ⟨by rfl, ?y77⟩) hHeld ?t77
  case y77 => (intro wx hSw; go_simp <;> with_reducible rfl)
  simp only [Act.put, List.setIfInBounds_toArray, List.set_cons_zero, List.set_cons_succ]
  refine take_at (i := 4) (v := ?v78) rfl (by kernel_rfl) (by kernel_rfl) (by kernel_rfl) (fun _ _ _ h => h) (Or.inl ⟨by rfl, ?y78⟩) hHeld ?t78
  case y78 => (intro wx hSw; have hc0 : wx.cell? ⟨w.heap.size, 0, none⟩ = some (.int .i64 p.1) := hSw.c 0 (of_decide_eq_true rfl); go_simp <;> with_reducible rfl)
  simp only [Act.put, List.setIfInBounds_toArray, List.set_cons_zero, List.set_cons_succ]
  refine take_at (i := 6) (v := ?v79) rfl (by kernel_rfl) (by kernel_rfl) (by kernel_rfl) (fun _ _ _ h => h) (Or.inl ⟨by rfl, ?y79⟩) hHeld ?t79
  case y79 => (intro wx hSw; go_simp <;> with_reducible rfl)
  simp only [Act.put, List.setIfInBounds_toArray, List.set_cons_zero, List.set_cons_succ]
  refine take_at (i := 8) (v := ?v80) rfl (by kernel_rfl) (by kernel_rfl) (by kernel_rfl) (fun _ _ _ h => h) (Or.inl ⟨by rfl, ?y80⟩) hHeld ?t80
  case y80 => (intro wx hSw; go_simp <;> with_reducible rfl)
  simp only [Act.put, List.setIfInBounds_toArray, List.set_cons_zero, List.set_cons_succ]
  refine take_at (i := 9) (v := ?v81) rfl (by kernel_rfl) (by kernel_rfl) (by kernel_rfl) (fun _ _ _ h => h) (Or.inl ⟨by rfl, ?y81⟩) hHeld ?t81
  case y81 => (intro wx hSw; go_simp <;> with_reducible rfl)
  simp only [Act.put, List.setIfInBounds_toArray, List.set_cons_zero, List.set_cons_succ]
  refine take_at (i := 10) (v := ?v82) rfl (by kernel_rfl) (by kernel_rfl) (by kernel_rfl) (fun _ _ _ h => h) (Or.inl ⟨by rfl, ?y82⟩) hHeld ?t82
  case y82 => (intro wx hSw; go_simp <;> with_reducible rfl)
  simp only [Act.put, List.setIfInBounds_toArray, List.set_cons_zero, List.set_cons_succ]
  refine take_at (i := 11) (v := ?v83) rfl (by kernel_rfl) (by kernel_rfl) (by kernel_rfl) (fun _ _ _ h => h) (Or.inl ⟨by rfl, ?y83⟩) hHeld ?t83
  case y83 => (intro wx hSw; have hc1 : wx.cell? ⟨w.heap.size, 1, none⟩ = some (.int .i64 p.2.1) := hSw.c 1 (of_decide_eq_true rfl); go_simp <;> with_reducible rfl)
  simp only [Act.put, List.setIfInBounds_toArray, List.set_cons_zero, List.set_cons_succ]
  refine take_at (i := 13) (v := ?v84) rfl (by kernel_rfl) (by kernel_rfl) (by kernel_rfl) (fun _ _ _ h => h) (Or.inl ⟨by rfl, ?y84⟩) hHeld ?t84
  case y84 => (intro wx hSw; go_simp <;> with_reducible rfl)
  simp only [Act.put, List.setIfInBounds_toArray, List.set_cons_zero, List.set_cons_succ]
  refine take_at (i := 15) (v := ?v85) rfl (by kernel_rfl) (by kernel_rfl) (by kernel_rfl) (fun _ _ _ h => h) (Or.inl ⟨by rfl, ?y85⟩) hHeld ?t85
  case y85 => (intro wx hSw; go_simp <;> with_reducible rfl)
  simp only [Act.put, List.setIfInBounds_toArray, List.set_cons_zero, List.set_cons_succ]
  refine take_at (i := 16) (v := ?v86) rfl (by kernel_rfl) (by kernel_rfl) (by kernel_rfl) (fun _ _ _ h => h) (Or.inl ⟨by rfl, ?y86⟩) hHeld ?t86
  case y86 => (intro wx hSw; go_simp <;> with_reducible rfl)
  simp only [Act.put, List.setIfInBounds_toArray, List.set_cons_zero, List.set_cons_succ]
  refine take_at (i := 17) (v := ?v87) rfl (by kernel_rfl) (by kernel_rfl) (by kernel_rfl) (fun _ _ _ h => h) (Or.inl ⟨by rfl, ?y87⟩) hHeld ?t87
  case y87 => (intro wx hSw; go_simp <;> with_reducible rfl)
  simp only [Act.put, List.setIfInBounds_toArray, List.set_cons_zero, List.set_cons_succ]
  refine take_at (i := 18) (v := ?v88) rfl (by kernel_rfl) (by kernel_rfl) (by kernel_rfl) (fun _ _ _ h => h) (Or.inl ⟨by rfl, ?y88⟩) hHeld ?t88
  case y88 => (intro wx hSw; have hc2 : wx.cell? ⟨w.heap.size, 2, none⟩ = some (.int .i64 p.2.2) := hSw.c 2 (of_decide_eq_true rfl); go_simp <;> with_reducible rfl)
  simp only [Act.put, List.setIfInBounds_toArray, List.set_cons_zero, List.set_cons_succ]
  refine take_at (i := 20) (v := ?v89) rfl (by kernel_rfl) (by kernel_rfl) (by kernel_rfl) (fun _ _ _ h => h) (Or.inl ⟨by rfl, ?y89⟩) hHeld ?t89
  case y89 => (intro wx hSw; go_simp <;> with_reducible rfl)
  simp only [Act.put, List.setIfInBounds_toArray, List.set_cons_zero, List.set_cons_succ]
  refine take_at (i := 22) (v := ?v90) rfl (by kernel_rfl) (by kernel_rfl) (by kernel_rfl) (fun _ _ _ h => h) (Or.inl ⟨by rfl, ?y90⟩) hHeld ?t90
  case y90 => (intro wx hSw; go_simp <;> with_reducible rfl)
  simp only [Act.put, List.setIfInBounds_toArray, List.set_cons_zero, List.set_cons_succ]
  refine take_at (i := 23) (v := ?v91) rfl (by kernel_rfl) (by kernel_rfl) (by kernel_rfl) (fun _ _ _ h => h) (Or.inl ⟨by rfl, ?y91⟩) hHeld ?t91
  case y91 => (intro wx hSw; go_simp <;> with_reducible rfl)
  simp only [Act.put, List.setIfInBounds_toArray, List.set_cons_zero, List.set_cons_succ]
  refine take_at (i := 24) (v := ?v92) rfl (by kernel_rfl) (by kernel_rfl) (by kernel_rfl) (fun _ _ _ h => h) (Or.inl ⟨by rfl, ?y92⟩) hHeld ?t92
  case y92 => (intro wx hSw; go_simp <;> with_reducible rfl)
  simp only [Act.put, List.setIfInBounds_toArray, List.set_cons_zero, List.set_cons_succ]
  refine take_at (i := 26) (v := ?v93) rfl (by kernel_rfl) (by kernel_rfl) (by kernel_rfl) (fun _ _ _ h => h) (Or.inl ⟨by rfl, ?y93⟩) hHeld ?t93
  case y93 => (intro wx hSw; go_simp <;> with_reducible rfl)
  simp only [Act.put, List.setIfInBounds_toArray, List.set_cons_zero, List.set_cons_succ]
  refine call_at (i := 5) (by kernel_rfl) rfl (fun K hK => ?_)
  go_simp
  refine (Mul_any b r2.2 p.1 8796093022208 _ f2.drew).mono ?_
  rintro e w3 ⟨rfl, f3, k3⟩
  generalize e3 : mulS r2.2 p.1 8796093022208 = r3 at f3 ⊢
  have E3 : Hid _ := e3
  clear e3
  have K3 : Kept b w w3 := Kept.trans K2.drew k3
  have B0_3 : Arr w.heap.size [.int .i64 p.1, .int .i64 p.2.1, .int .i64 p.2.2] w3 := B0_2.drew.kept k3 (by omega)
  have B1_3 : Arr (w.heap.size + 1) [.int .i64 0, .int .i64 0, .int .i64 0, .int .i64 0] w3 := B1_2.drew.kept k3 (by omega)
  have z3 := B1_3.lies
  clear hHeld
  refine hK.out _ _ B0_3 (fun hHeld => ?_)
  clear hK K K2 f2 B0_2 B1_2 k3
  refine call_at (i := 7) (by kernel_rfl) rfl (fun K hK => ?_)
  go_simp
  refine (Div_any b r3.2 r3.1 r2.1 _ f3).mono ?_
  rintro e w4 ⟨rfl, f4, k4⟩
  generalize e4 : divS r3.2 r3.1 r2.1 = r4 at f4 ⊢
  have E4 : Hid _ := e4
  clear e4
  have K4 : Kept b w w4 := Kept.trans K3 k4
  have B0_4 : Arr w.heap.size [.int .i64 p.1, .int .i64 p.2.1, .int .i64 p.2.2] w4 := B0_3.kept k4 (by omega)
  have B1_4 : Arr (w.heap.size + 1) [.int .i64 0, .int .i64 0, .int .i64 0, .int .i64 0] w4 := B1_3.kept k4 (by omega)
  have z4 := B1_4.lies
  clear hHeld
  refine hK.out _ _ B0_4 (fun hHeld => ?_)
  clear hK K K3 f3 B0_3 B1_3 k4
  refine call_at (i := 12) (by kernel_rfl) rfl (fun K hK => ?_)
  go_simp
  refine (Mul_any b r4.2 p.2.1 8796093022208 _ f4).mono ?_
  rintro e w5 ⟨rfl, f5, k5⟩
  generalize e5 : mulS r4.2 p.2.1 8796093022208 = r5 at f5 ⊢
  have E5 : Hid _ := e5
  clear e5
  have K5 : Kept b w w5 := Kept.trans K4 k5
  have B0_5 : Arr w.heap.size [.int .i64 p.1, .int .i64 p.2.1, .int .i64 p.2.2] w5 := B0_4.kept k5 (by omega)
  have B1_5 : Arr (w.heap.size + 1) [.int .i64 0, .int .i64 0, .int .i64 0, .int .i64 0] w5 := B1_4.kept k5 (by omega)
  have z5 := B1_5.lies
  clear hHeld
  refine hK.out _ _ B0_5 (fun hHeld => ?_)
  clear hK K K4 f4 B0_4 B1_4 k5
  refine call_at (i := 14) (by kernel_rfl) rfl (fun K hK => ?_)
  go_simp
  refine (Div_any b r5.2 r5.1 r2.1 _ f5).mono ?_
  rintro e w6 ⟨rfl, f6, k6⟩
  generalize e6 : divS r5.2 r5.1 r2.1 = r6 at f6 ⊢
  have E6 : Hid _ := e6
  clear e6
  have K6 : Kept b w w6 := Kept.trans K5 k6
  have B0_6 : Arr w.heap.size [.int .i64 p.1, .int .i64 p.2.1, .int .i64 p.2.2] w6 := B0_5.kept k6 (by omega)
  have B1_6 : Arr (w.heap.size + 1) [.int .i64 0, .int .i64 0, .int .i64 0, .int .i64 0] w6 := B1_5.kept k6 (by omega)
  have z6 := B1_6.lies
  clear hHeld
  refine hK.out _ _ B0_6 (fun hHeld => ?_)
  clear hK K K5 f5 B0_5 B1_5 k6
  refine call_at (i := 19) (by kernel_rfl) rfl (fun K hK => ?_)
  go_simp
  refine (Mul_any b r6.2 p.2.2 8796093022208 _ f6).mono ?_
  rintro e w7 ⟨rfl, f7, k7⟩
  generalize e7 : mulS r6.2 p.2.2 8796093022208 = r7 at f7 ⊢
  have E7 : Hid _ := e7
  clear e7
  have K7 : Kept b w w7 := Kept.trans K6 k7
  have B0_7 : Arr w.heap.size [.int .i64 p.1, .int .i64 p.2.1, .int .i64 p.2.2] w7 := B0_6.kept k7 (by omega)
  have B1_7 : Arr (w.heap.size + 1) [.int .i64 0, .int .i64 0, .int .i64 0, .int .i64 0] w7 := B1_6.kept k7 (by omega)
  have z7 := B1_7.lies
  clear hHeld
  refine hK.out _ _ B0_7 (fun hHeld => ?_)
  clear hK K K6 f6 B0_6 B1_6 k7
  refine call_at (i := 21) (by kernel_rfl) rfl (fun K hK => ?_)
  go_simp
  refine (Div_any b r7.2 r7.1 r2.1 _ f7).mono ?_
  rintro e w8 ⟨rfl, f8, k8⟩
  generalize e8 : divS r7.2 r7.1 r2.1 = r8 at f8 ⊢
  have E8 : Hid _ := e8
  clear e8
  have K8 : Kept b w w8 := Kept.trans K7 k8
  have B0_8 : Arr w.heap.size [.int .i64 p.1, .int .i64 p.2.1, .int .i64 p.2.2] w8 := B0_7.kept k8 (by omega)
  have B1_8 : Arr (w.heap.size + 1) [.int .i64 0, .int .i64 0, .int .i64 0, .int .i64 0] w8 := B1_7.kept k8 (by omega)
  have z8 := B1_8.lies
  clear hHeld
  refine hK.out _ _ B0_8 (fun hHeld => ?_)
  clear hK K K7 f7 B0_7 B1_7 k8
  refine call_at (i := 25) (by kernel_rfl) rfl (fun K hK => ?_)
  go_simp
  refine (Sub_any b r8.2 17592186044416 r1.1 _ f8).mono ?_
  rintro e w9 ⟨rfl, f9, k9⟩
  generalize e9 : subS r8.2 17592186044416 r1.1 = r9 at f9 ⊢
  have E9 : Hid _ := e9
  clear e9
  have K9 : Kept b w w9 := Kept.trans K8 k9
  have B0_9 : Arr w.heap.size [.int .i64 p.1, .int .i64 p.2.1, .int .i64 p.2.2] w9 := B0_8.kept k9 (by omega)
  have B1_9 : Arr (w.heap.size + 1) [.int .i64 0, .int .i64 0, .int .i64 0, .int .i64 0] w9 := B1_8.kept k9 (by omega)
  have z9 := B1_9.lies
  clear hHeld
  refine hK.out _ _ B0_9 (fun hHeld => ?_)
  clear hK K K8 f8 B0_8 B1_8 k9
  refine call_at (i := 27) (by kernel_rfl) rfl (fun K hK => ?_)
  go_simp
  refine (Div_any b r9.2 r9.1 r2.1 _ f9).mono ?_
  rintro e w10 ⟨rfl, f10, k10⟩
  generalize e10 : divS r9.2 r9.1 r2.1 = r10 at f10 ⊢
  have E10 : Hid _ := e10
  clear e10
  have K10 : Kept b w w10 := Kept.trans K9 k10
  have B0_10 : Arr w.heap.size [.int .i64 p.1, .int .i64 p.2.1, .int .i64 p.2.2] w10 := B0_9.kept k10 (by omega)
  have B1_10 : Arr (w.heap.size + 1) [.int .i64 0, .int .i64 0, .int .i64 0, .int .i64 0] w10 := B1_9.kept k10 (by omega)
  have z10 := B1_10.lies
  clear hHeld
  refine hK.out _ _ B0_10 (fun hHeld => ?_)
  clear hK K K9 f9 B0_9 B1_9 k10
  refine take_at (i := 28) (v := ?v94) rfl (by kernel_rfl) (by kernel_rfl) (by kernel_rfl) (fun _ _ _ h => h) (Or.inl ⟨by rfl, ?y94⟩) hHeld ?t94
  case y94 => (intro wx hSw; go_simp <;> with_reducible rfl)
  simp only [Act.put, List.setIfInBounds_toArray, List.set_cons_zero, List.set_cons_succ]
  refine call_at (i := 29) (by kernel_rfl) rfl (fun K hK => ?_)
  go_simp
  refine (qUnit_any b r10.2 (r4.1, r6.1, r8.1, r10.1) _ f10).mono ?_
  rintro e w11 ⟨rfl, f11, k11⟩
  generalize e11 : qUnitS r10.2 (r4.1, r6.1, r8.1, r10.1) = r11 at f11 ⊢
  have E11 : Hid _ := e11
  clear e11
  have K11 : Kept b w w11 := Kept.trans K10 k11
  have B0_11 : Arr w.heap.size [.int .i64 p.1, .int .i64 p.2.1, .int .i64 p.2.2] w11 := B0_10.kept k11 (by omega)
  have B1_11 : Arr (w.heap.size + 1) [.int .i64 0, .int .i64 0, .int .i64 0, .int .i64 0] w11 := B1_10.kept k11 (by omega)
  have z11 := B1_11.lies
  clear hHeld
  refine hK.out _ _ B0_11 (fun hHeld => ?_)
  clear hK K K10 f10 B0_10 B1_10 k11
  refine call_at (i := 30) (by kernel_rfl) rfl (fun K hK => ?_)
  have c4_B1_0 : w11.cell? ⟨w.heap.size + 1, 0, none⟩ = some (.int .i64 0) := B1_11.c 0 (of_decide_eq_true rfl)
  have c4_B1_1 : w11.cell? ⟨w.heap.size + 1, 1, none⟩ = some (.int .i64 0) := B1_11.c 1 (of_decide_eq_true rfl)
  have c4_B1_2 : w11.cell? ⟨w.heap.size + 1, 2, none⟩ = some (.int .i64 0) := B1_11.c 2 (of_decide_eq_true rfl)
  have c4_B1_3 : w11.cell? ⟨w.heap.size + 1, 3, none⟩ = some (.int .i64 0) := B1_11.c 3 (of_decide_eq_true rfl)
  have g4_B1_0 := B1_11.f 0 (of_decide_eq_true rfl)
  have g4_B1_1 := B1_11.f 1 (of_decide_eq_true rfl)
  have g4_B1_2 := B1_11.f 2 (of_decide_eq_true rfl)
  have g4_B1_3 := B1_11.f 3 (of_decide_eq_true rfl)
  go_simp
  clear hHeld
  refine hK.out _ _ ((((B0_11.new _ _ (by omega) _).new _ _ (by omega) _).new _ _ (by omega) _).new _ _ (by omega) _) (fun hHeld => ?_)
  clear hK K c4_B1_0 c4_B1_1 c4_B1_2 c4_B1_3 g4_B1_0 g4_B1_1 g4_B1_2 g4_B1_3
  refine wpAnyH_done (by kernel_rfl) ?_ _
  clear hHeld
  go_wp2
  have d0 := Arr.c (B1_11.put 0 (of_decide_eq_true rfl) (.int .i64 r11.1.1) [.int .i64 r11.1.1, .int .i64 0, .int .i64 0, .int .i64 0] rfl) 0 (of_decide_eq_true rfl)
  have d1 := Arr.c ((B1_11.put 0 (of_decide_eq_true rfl) (.int .i64 r11.1.1) [.int .i64 r11.1.1, .int .i64 0, .int .i64 0, .int .i64 0] rfl).put 1 (of_decide_eq_true rfl) (.int .i64 r11.1.2.1) [.int .i64 r11.1.1, .int .i64 r11.1.2.1, .int .i64 0, .int .i64 0] rfl) 1 (of_decide_eq_true rfl)
  have d2 := Arr.c (((B1_11.put 0 (of_decide_eq_true rfl) (.int .i64 r11.1.1) [.int .i64 r11.1.1, .int .i64 0, .int .i64 0, .int .i64 0] rfl).put 1 (of_decide_eq_true rfl) (.int .i64 r11.1.2.1) [.int .i64 r11.1.1, .int .i64 r11.1.2.1, .int .i64 0, .int .i64 0] rfl).put 2 (of_decide_eq_true rfl) (.int .i64 r11.1.2.2.1) [.int .i64 r11.1.1, .int .i64 r11.1.2.1, .int .i64 r11.1.2.2.1, .int .i64 0] rfl) 2 (of_decide_eq_true rfl)
  have d3 := Arr.c ((((B1_11.put 0 (of_decide_eq_true rfl) (.int .i64 r11.1.1) [.int .i64 r11.1.1, .int .i64 0, .int .i64 0, .int .i64 0] rfl).put 1 (of_decide_eq_true rfl) (.int .i64 r11.1.2.1) [.int .i64 r11.1.1, .int .i64 r11.1.2.1, .int .i64 0, .int .i64 0] rfl).put 2 (of_decide_eq_true rfl) (.int .i64 r11.1.2.2.1) [.int .i64 r11.1.1, .int .i64 r11.1.2.1, .int .i64 r11.1.2.2.1, .int .i64 0] rfl).put 3 (of_decide_eq_true rfl) (.int .i64 r11.1.2.2.2) [.int .i64 r11.1.1, .int .i64 r11.1.2.1, .int .i64 r11.1.2.2.1, .int .i64 r11.1.2.2.2] rfl) 3 (of_decide_eq_true rfl)
  refine bodyPost_ret (v := .agg #[.int .i64 r11.1.1, .int .i64 r11.1.2.1, .int .i64 r11.1.2.2.1, .int .i64 r11.1.2.2.2]) (by simp [results, Try.results15, go_sem, d0, d1, d2, d3]) rfl ?_
  have hs : qFromRodS bad p = (r11.1, r11.2) := by unfold qFromRodS; simp only [E1.out, E2.out, E3.out, E4.out, E5.out, E6.out, E7.out, E8.out, E9.out, E10.out, E11.out]
  rw [hs]
  exact ⟨rfl, ((((f11.new _ _ (by omega) _).new _ _ (by omega) _).new _ _ (by omega) _).new _ _ (by omega) _), ((((K11.new _ _ (by omega) _).new _ _ (by omega) _).new _ _ (by omega) _).new _ _ (by omega) _)⟩
set_option maxRecDepth 100000 in
set_option maxHeartbeats 2000000 in
theorem qToRod_any (b : Nat) (bad : Bool) (q : V4) (w : World) (hw : Fl b bad w) :
    Calls Try.prog 14 #[.pointer (some ⟨b, 0, none⟩), .agg #[.int .i64 q.1, .int .i64 q.2.1, .int .i64 q.2.2.1, .int .i64 q.2.2.2]] w fun e w' => e = .returned (.agg #[.int .i64 ((qToRodS bad q).1.1), .int .i64 ((qToRodS bad q).1.2.1), .int .i64 ((qToRodS bad q).1.2.2)]) ∧ Fl b (qToRodS bad q).2 w' ∧ Kept b w w' := by
  have hl := hw.lies
  go_enter Try.func14, Try.ntmps14
  go_wp2_with fail
  refine (upright_any q _).mono ?_
  rintro e w1 ⟨rfl, k1⟩
  generalize e1 : uprightS q = r1
  have E1 : Hid _ := e1
  clear e1
  have K1 : Kept b w w1 := Kept.trans (((Kept.refl b w).al _).al _) (Kept.of_below k1)
  have BF_1 : Fl b bad w1 := ((hw.alloc _).alloc _).below k1
  have B0_1 : Arr w.heap.size [.int .i64 q.1, .int .i64 q.2.1, .int .i64 q.2.2.1, .int .i64 q.2.2.2] w1 := ((Arr_at _ _ [.int .i64 q.1, .int .i64 q.2.1, .int .i64 q.2.2.1, .int .i64 q.2.2.2] _ (by simp)).alloc _).below k1
  have B1_1 : Arr (w.heap.size + 1) [.int .i64 0, .int .i64 0, .int .i64 0] w1 := (Arr_at _ _ [.int .i64 0, .int .i64 0, .int .i64 0] _ (by simp)).below k1
  have z1 := B1_1.lies
  clear k1
  have c2_B0_0 : w1.cell? ⟨w.heap.size, 0, none⟩ = some (.int .i64 q.1) := B0_1.c 0 (of_decide_eq_true rfl)
  have c2_B0_1 : w1.cell? ⟨w.heap.size, 1, none⟩ = some (.int .i64 q.2.1) := B0_1.c 1 (of_decide_eq_true rfl)
  have c2_B0_2 : w1.cell? ⟨w.heap.size, 2, none⟩ = some (.int .i64 q.2.2.1) := B0_1.c 2 (of_decide_eq_true rfl)
  have c2_B0_3 : w1.cell? ⟨w.heap.size, 3, none⟩ = some (.int .i64 q.2.2.2) := B0_1.c 3 (of_decide_eq_true rfl)
  have g2_B0_0 := B0_1.f 0 (of_decide_eq_true rfl)
  have g2_B0_1 := B0_1.f 1 (of_decide_eq_true rfl)
  have g2_B0_2 := B0_1.f 2 (of_decide_eq_true rfl)
  have g2_B0_3 := B0_1.f 3 (of_decide_eq_true rfl)
  go_wp2_with fail
  refine (Add_any b bad 1099511627776 r1.2.2.2 _ ((((BF_1.new _ _ (by omega) _).new _ _ (by omega) _).new _ _ (by omega) _).new _ _ (by omega) _)).mono ?_
  rintro e w2 ⟨rfl, f2, k2⟩
  generalize e2 : addS bad 1099511627776 r1.2.2.2 = r2 at f2 ⊢
  have E2 : Hid _ := e2
  clear e2
  have K2 : Kept b w w2 := Kept.trans ((((K1.new _ _ (by omega) _).new _ _ (by omega) _).new _ _ (by omega) _).new _ _ (by omega) _) k2
  have B0_2 : Arr w.heap.size [.int .i64 r1.1, .int .i64 r1.2.1, .int .i64 r1.2.2.1, .int .i64 r1.2.2.2] w2 := ((((B0_1.put 0 (of_decide_eq_true rfl) (.int .i64 r1.1) [.int .i64 r1.1, .int .i64 q.2.1, .int .i64 q.2.2.1, .int .i64 q.2.2.2] rfl).put 1 (of_decide_eq_true rfl) (.int .i64 r1.2.1) [.int .i64 r1.1, .int .i64 r1.2.1, .int .i64 q.2.2.1, .int .i64 q.2.2.2] rfl).put 2 (of_decide_eq_true rfl) (.int .i64 r1.2.2.1) [.int .i64 r1.1, .int .i64 r1.2.1, .int .i64 r1.2.2.1, .int .i64 q.2.2.2] rfl).put 3 (of_decide_eq_true rfl) (.int .i64 r1.2.2.2) [.int .i64 r1.1, .int .i64 r1.2.1, .int .i64 r1.2.2.1, .int .i64 r1.2.2.2] rfl).kept k2 (by omega)
  have B1_2 : Arr (w.heap.size + 1) [.int .i64 0, .int .i64 0, .int .i64 0] w2 := ((((B1_1.new _ _ (by omega) _).new _ _ (by omega) _).new _ _ (by omega) _).new _ _ (by omega) _).kept k2 (by omega)
  have z2 := B1_2.lies
  clear c2_B0_0 c2_B0_1 c2_B0_2 c2_B0_3 g2_B0_0 g2_B0_1 g2_B0_2 g2_B0_3 K1 BF_1 B0_1 B1_1 k2
  go_wp2_with fail
  refine wp_region_held_drew (S := fun w' => Arr w.heap.size [.int .i64 r1.1, .int .i64 r1.2.1, .int .i64 r1.2.2.1, .int .i64 r1.2.2.2] w') (by kernel_rfl) B0_2.drew (fun hHeld => ?_)
  refine take_at (i := 0) (v := ?v95) rfl (by kernel_rfl) (by kernel_rfl) (by kernel_rfl) (fun _ _ _ h => h) (Or.inl ⟨by rfl, ?y95⟩) hHeld ?t95
  case y95 => (intro wx hSw; go_simp <;> with_reducible rfl)
  simp only [Act.put, List.setIfInBounds_toArray, List.set_cons_zero, List.set_cons_succ]
  refine take_at (i := 1) (v := ?v96) rfl (by kernel_rfl) (by kernel_rfl) (by kernel_rfl) (fun _ _ _ h => h) (Or.inl ⟨by rfl, ?y96⟩) hHeld ?t96
  case y96 => (intro wx hSw; go_simp <;> with_reducible rfl)
  simp only [Act.put, List.setIfInBounds_toArray, List.set_cons_zero, List.set_cons_succ]
  refine take_at (i := 2) (v := ?v97) rfl (by kernel_rfl) (by kernel_rfl) (by kernel_rfl) (fun _ _ _ h => h) (Or.inl ⟨by rfl, ?y97⟩) hHeld ?t97
  case y97 => (intro wx hSw; go_simp <;> with_reducible rfl)
  simp only [Act.put, List.setIfInBounds_toArray, List.set_cons_zero, List.set_cons_succ]
  refine take_at (i := 3) (v := ?v98) rfl (by kernel_rfl) (by kernel_rfl) (by kernel_rfl) (fun _ _ _ h => h) (Or.inl ⟨by rfl, ?y98⟩) hHeld ?t98
  case y98 => (intro wx hSw; go_simp <;> with_reducible rfl)
  simp only [Act.put, List.setIfInBounds_toArray, List.set_cons_zero, List.set_cons_succ]
  refine take_at (i := 4) (v := ?v99) rfl (by kernel_rfl) (by kernel_rfl) (by kernel_rfl) (fun _ _ _ h => h) (Or.inl ⟨by rfl, ?y99⟩) hHeld ?t99
  case y99 => (intro wx hSw; have hc0 : wx.cell? ⟨w.heap.size, 0, none⟩ = some (.int .i64 r1.1) := hSw.c 0 (of_decide_eq_true rfl); go_simp <;> with_reducible rfl)
  simp only [Act.put, List.setIfInBounds_toArray, List.set_cons_zero, List.set_cons_succ]
  refine take_at (i := 6) (v := ?v100) rfl (by kernel_rfl) (by kernel_rfl) (by kernel_rfl) (fun _ _ _ h => h) (Or.inl ⟨by rfl, ?y100⟩) hHeld ?t100
  case y100 => (intro wx hSw; go_simp <;> with_reducible rfl)
  simp only [Act.put, List.setIfInBounds_toArray, List.set_cons_zero, List.set_cons_succ]
  refine take_at (i := 8) (v := ?v101) rfl (by kernel_rfl) (by kernel_rfl) (by kernel_rfl) (fun _ _ _ h => h) (Or.inl ⟨by rfl, ?y101⟩) hHeld ?t101
  case y101 => (intro wx hSw; go_simp <;> with_reducible rfl)
  simp only [Act.put, List.setIfInBounds_toArray, List.set_cons_zero, List.set_cons_succ]
  refine take_at (i := 9) (v := ?v102) rfl (by kernel_rfl) (by kernel_rfl) (by kernel_rfl) (fun _ _ _ h => h) (Or.inl ⟨by rfl, ?y102⟩) hHeld ?t102
  case y102 => (intro wx hSw; go_simp <;> with_reducible rfl)
  simp only [Act.put, List.setIfInBounds_toArray, List.set_cons_zero, List.set_cons_succ]
  refine take_at (i := 10) (v := ?v103) rfl (by kernel_rfl) (by kernel_rfl) (by kernel_rfl) (fun _ _ _ h => h) (Or.inl ⟨by rfl, ?y103⟩) hHeld ?t103
  case y103 => (intro wx hSw; go_simp <;> with_reducible rfl)
  simp only [Act.put, List.setIfInBounds_toArray, List.set_cons_zero, List.set_cons_succ]
  refine take_at (i := 11) (v := ?v104) rfl (by kernel_rfl) (by kernel_rfl) (by kernel_rfl) (fun _ _ _ h => h) (Or.inl ⟨by rfl, ?y104⟩) hHeld ?t104
  case y104 => (intro wx hSw; have hc1 : wx.cell? ⟨w.heap.size, 1, none⟩ = some (.int .i64 r1.2.1) := hSw.c 1 (of_decide_eq_true rfl); go_simp <;> with_reducible rfl)
  simp only [Act.put, List.setIfInBounds_toArray, List.set_cons_zero, List.set_cons_succ]
  refine take_at (i := 13) (v := ?v105) rfl (by kernel_rfl) (by kernel_rfl) (by kernel_rfl) (fun _ _ _ h => h) (Or.inl ⟨by rfl, ?y105⟩) hHeld ?t105
  case y105 => (intro wx hSw; go_simp <;> with_reducible rfl)
  simp only [Act.put, List.setIfInBounds_toArray, List.set_cons_zero, List.set_cons_succ]
  refine take_at (i := 15) (v := ?v106) rfl (by kernel_rfl) (by kernel_rfl) (by kernel_rfl) (fun _ _ _ h => h) (Or.inl ⟨by rfl, ?y106⟩) hHeld ?t106
  case y106 => (intro wx hSw; go_simp <;> with_reducible rfl)
  simp only [Act.put, List.setIfInBounds_toArray, List.set_cons_zero, List.set_cons_succ]
  refine take_at (i := 16) (v := ?v107) rfl (by kernel_rfl) (by kernel_rfl) (by kernel_rfl) (fun _ _ _ h => h) (Or.inl ⟨by rfl, ?y107⟩) hHeld ?t107
  case y107 => (intro wx hSw; go_simp <;> with_reducible rfl)
  simp only [Act.put, List.setIfInBounds_toArray, List.set_cons_zero, List.set_cons_succ]
  refine take_at (i := 17) (v := ?v108) rfl (by kernel_rfl) (by kernel_rfl) (by kernel_rfl) (fun _ _ _ h => h) (Or.inl ⟨by rfl, ?y108⟩) hHeld ?t108
  case y108 => (intro wx hSw; go_simp <;> with_reducible rfl)
  simp only [Act.put, List.setIfInBounds_toArray, List.set_cons_zero, List.set_cons_succ]
  refine take_at (i := 18) (v := ?v109) rfl (by kernel_rfl) (by kernel_rfl) (by kernel_rfl) (fun _ _ _ h => h) (Or.inl ⟨by rfl, ?y109⟩) hHeld ?t109
  case y109 => (intro wx hSw; have hc2 : wx.cell? ⟨w.heap.size, 2, none⟩ = some (.int .i64 r1.2.2.1) := hSw.c 2 (of_decide_eq_true rfl); go_simp <;> with_reducible rfl)
  simp only [Act.put, List.setIfInBounds_toArray, List.set_cons_zero, List.set_cons_succ]
  refine take_at (i := 20) (v := ?v110) rfl (by kernel_rfl) (by kernel_rfl) (by kernel_rfl) (fun _ _ _ h => h) (Or.inl ⟨by rfl, ?y110⟩) hHeld ?t110
  case y110 => (intro wx hSw; go_simp <;> with_reducible rfl)
  simp only [Act.put, List.setIfInBounds_toArray, List.set_cons_zero, List.set_cons_succ]
  refine call_at (i := 5) (by kernel_rfl) rfl (fun K hK => ?_)
  go_simp
  refine (Mul_any b r2.2 r1.1 4398046511104 _ f2.drew).mono ?_
  rintro e w3 ⟨rfl, f3, k3⟩
  generalize e3 : mulS r2.2 r1.1 4398046511104 = r3 at f3 ⊢
  have E3 : Hid _ := e3
  clear e3
  have K3 : Kept b w w3 := Kept.trans K2.drew k3
  have B0_3 : Arr w.heap.size [.int .i64 r1.1, .int .i64 r1.2.1, .int .i64 r1.2.2.1, .int .i64 r1.2.2.2] w3 := B0_2.drew.kept k3 (by omega)
  have B1_3 : Arr (w.heap.size + 1) [.int .i64 0, .int .i64 0, .int .i64 0] w3 := B1_2.drew.kept k3 (by omega)
  have z3 := B1_3.lies
  clear hHeld
  refine hK.out _ _ B0_3 (fun hHeld => ?_)
  clear hK K K2 f2 B0_2 B1_2 k3
  refine call_at (i := 7) (by kernel_rfl) rfl (fun K hK => ?_)
  go_simp
  refine (Div_any b r3.2 r3.1 r2.1 _ f3).mono ?_
  rintro e w4 ⟨rfl, f4, k4⟩
  generalize e4 : divS r3.2 r3.1 r2.1 = r4 at f4 ⊢
  have E4 : Hid _ := e4
  clear e4
  have K4 : Kept b w w4 := Kept.trans K3 k4
  have B0_4 : Arr w.heap.size [.int .i64 r1.1, .int .i64 r1.2.1, .int .i64 r1.2.2.1, .int .i64 r1.2.2.2] w4 := B0_3.kept k4 (by omega)
  have B1_4 : Arr (w.heap.size + 1) [.int .i64 0, .int .i64 0, .int .i64 0] w4 := B1_3.kept k4 (by omega)
  have z4 := B1_4.lies
  clear hHeld
  refine hK.out _ _ B0_4 (fun hHeld => ?_)
  clear hK K K3 f3 B0_3 B1_3 k4
  refine call_at (i := 12) (by kernel_rfl) rfl (fun K hK => ?_)
  go_simp
  refine (Mul_any b r4.2 r1.2.1 4398046511104 _ f4).mono ?_
  rintro e w5 ⟨rfl, f5, k5⟩
  generalize e5 : mulS r4.2 r1.2.1 4398046511104 = r5 at f5 ⊢
  have E5 : Hid _ := e5
  clear e5
  have K5 : Kept b w w5 := Kept.trans K4 k5
  have B0_5 : Arr w.heap.size [.int .i64 r1.1, .int .i64 r1.2.1, .int .i64 r1.2.2.1, .int .i64 r1.2.2.2] w5 := B0_4.kept k5 (by omega)
  have B1_5 : Arr (w.heap.size + 1) [.int .i64 0, .int .i64 0, .int .i64 0] w5 := B1_4.kept k5 (by omega)
  have z5 := B1_5.lies
  clear hHeld
  refine hK.out _ _ B0_5 (fun hHeld => ?_)
  clear hK K K4 f4 B0_4 B1_4 k5
  refine call_at (i := 14) (by kernel_rfl) rfl (fun K hK => ?_)
  go_simp
  refine (Div_any b r5.2 r5.1 r2.1 _ f5).mono ?_
  rintro e w6 ⟨rfl, f6, k6⟩
  generalize e6 : divS r5.2 r5.1 r2.1 = r6 at f6 ⊢
  have E6 : Hid _ := e6
  clear e6
  have K6 : Kept b w w6 := Kept.trans K5 k6
  have B0_6 : Arr w.heap.size [.int .i64 r1.1, .int .i64 r1.2.1, .int .i64 r1.2.2.1, .int .i64 r1.2.2.2] w6 := B0_5.kept k6 (by omega)
  have B1_6 : Arr (w.heap.size + 1) [.int .i64 0, .int .i64 0, .int .i64 0] w6 := B1_5.kept k6 (by omega)
  have z6 := B1_6.lies
  clear hHeld
  refine hK.out _ _ B0_6 (fun hHeld => ?_)
  clear hK K K5 f5 B0_5 B1_5 k6
  refine call_at (i := 19) (by kernel_rfl) rfl (fun K hK => ?_)
  go_simp
  refine (Mul_any b r6.2 r1.2.2.1 4398046511104 _ f6).mono ?_
  rintro e w7 ⟨rfl, f7, k7⟩
  generalize e7 : mulS r6.2 r1.2.2.1 4398046511104 = r7 at f7 ⊢
  have E7 : Hid _ := e7
  clear e7
  have K7 : Kept b w w7 := Kept.trans K6 k7
  have B0_7 : Arr w.heap.size [.int .i64 r1.1, .int .i64 r1.2.1, .int .i64 r1.2.2.1, .int .i64 r1.2.2.2] w7 := B0_6.kept k7 (by omega)
  have B1_7 : Arr (w.heap.size + 1) [.int .i64 0, .int .i64 0, .int .i64 0] w7 := B1_6.kept k7 (by omega)
  have z7 := B1_7.lies
  clear hHeld
  refine hK.out _ _ B0_7 (fun hHeld => ?_)
  clear hK K K6 f6 B0_6 B1_6 k7
  refine call_at (i := 21) (by kernel_rfl) rfl (fun K hK => ?_)
  go_simp
  refine (Div_any b r7.2 r7.1 r2.1 _ f7).mono ?_
  rintro e w8 ⟨rfl, f8, k8⟩
  generalize e8 : divS r7.2 r7.1 r2.1 = r8 at f8 ⊢
  have E8 : Hid _ := e8
  clear e8
  have K8 : Kept b w w8 := Kept.trans K7 k8
  have B0_8 : Arr w.heap.size [.int .i64 r1.1, .int .i64 r1.2.1, .int .i64 r1.2.2.1, .int .i64 r1.2.2.2] w8 := B0_7.kept k8 (by omega)
  have B1_8 : Arr (w.heap.size + 1) [.int .i64 0, .int .i64 0, .int .i64 0] w8 := B1_7.kept k8 (by omega)
  have z8 := B1_8.lies
  clear hHeld
  refine hK.out _ _ B0_8 (fun hHeld => ?_)
  clear hK K K7 f7 B0_7 B1_7 k8
  refine take_at (i := 22) (v := ?v111) rfl (by kernel_rfl) (by kernel_rfl) (by kernel_rfl) (fun _ _ _ h => h) (Or.inl ⟨by rfl, ?y111⟩) hHeld ?t111
  case y111 => (intro wx hSw; go_simp <;> with_reducible rfl)
  simp only [Act.put, List.setIfInBounds_toArray, List.set_cons_zero, List.set_cons_succ]
  refine call_at (i := 23) (by kernel_rfl) rfl (fun K hK => ?_)
  go_simp
  refine (sound3_any b r8.2 (r4.1, r6.1, r8.1) _ f8).mono ?_
  rintro e w9 ⟨rfl, f9, k9⟩
  generalize e9 : soundS r8.2 (r4.1, r6.1, r8.1) = r9 at f9 ⊢
  have E9 : Hid _ := e9
  clear e9
  have K9 : Kept b w w9 := Kept.trans K8 k9
  have B0_9 : Arr w.heap.size [.int .i64 r1.1, .int .i64 r1.2.1, .int .i64 r1.2.2.1, .int .i64 r1.2.2.2] w9 := B0_8.kept k9 (by omega)
  have B1_9 : Arr (w.heap.size + 1) [.int .i64 0, .int .i64 0, .int .i64 0] w9 := B1_8.kept k9 (by omega)
  have z9 := B1_9.lies
  clear hHeld
  refine hK.out _ _ B0_9 (fun hHeld => ?_)
  clear hK K K8 f8 B0_8 B1_8 k9
  refine call_at (i := 24) (by kernel_rfl) rfl (fun K hK => ?_)
  have c4_B1_0 : w9.cell? ⟨w.heap.size + 1, 0, none⟩ = some (.int .i64 0) := B1_9.c 0 (of_decide_eq_true rfl)
  have c4_B1_1 : w9.cell? ⟨w.heap.size + 1, 1, none⟩ = some (.int .i64 0) := B1_9.c 1 (of_decide_eq_true rfl)
  have c4_B1_2 : w9.cell? ⟨w.heap.size + 1, 2, none⟩ = some (.int .i64 0) := B1_9.c 2 (of_decide_eq_true rfl)
  have g4_B1_0 := B1_9.f 0 (of_decide_eq_true rfl)
  have g4_B1_1 := B1_9.f 1 (of_decide_eq_true rfl)
  have g4_B1_2 := B1_9.f 2 (of_decide_eq_true rfl)
  go_simp
  clear hHeld
  refine hK.out _ _ (((B0_9.new _ _ (by omega) _).new _ _ (by omega) _).new _ _ (by omega) _) (fun hHeld => ?_)
  clear hK K c4_B1_0 c4_B1_1 c4_B1_2 g4_B1_0 g4_B1_1 g4_B1_2
  refine wpAnyH_done (by kernel_rfl) ?_ _
  clear hHeld
  go_wp2
  have d0 := Arr.c (B1_9.put 0 (of_decide_eq_true rfl) (.int .i64 r9.1.1) [.int .i64 r9.1.1, .int .i64 0, .int .i64 0] rfl) 0 (of_decide_eq_true rfl)
  have d1 := Arr.c ((B1_9.put 0 (of_decide_eq_true rfl) (.int .i64 r9.1.1) [.int .i64 r9.1.1, .int .i64 0, .int .i64 0] rfl).put 1 (of_decide_eq_true rfl) (.int .i64 r9.1.2.1) [.int .i64 r9.1.1, .int .i64 r9.1.2.1, .int .i64 0] rfl) 1 (of_decide_eq_true rfl)
  have d2 := Arr.c (((B1_9.put 0 (of_decide_eq_true rfl) (.int .i64 r9.1.1) [.int .i64 r9.1.1, .int .i64 0, .int .i64 0] rfl).put 1 (of_decide_eq_true rfl) (.int .i64 r9.1.2.1) [.int .i64 r9.1.1, .int .i64 r9.1.2.1, .int .i64 0] rfl).put 2 (of_decide_eq_true rfl) (.int .i64 r9.1.2.2) [.int .i64 r9.1.1, .int .i64 r9.1.2.1, .int .i64 r9.1.2.2] rfl) 2 (of_decide_eq_true rfl)
  refine bodyPost_ret (v := .agg #[.int .i64 r9.1.1, .int .i64 r9.1.2.1, .int .i64 r9.1.2.2]) (by simp [results, Try.results14, go_sem, d0, d1, d2]) rfl ?_
  have hs : qToRodS bad q = (r9.1, r9.2) := by unfold qToRodS; simp only [E1.out, E2.out, E3.out, E4.out, E5.out, E6.out, E7.out, E8.out, E9.out]
  rw [hs]
  exact ⟨rfl, (((f9.new _ _ (by omega) _).new _ _ (by omega) _).new _ _ (by omega) _), (((K9.new _ _ (by omega) _).new _ _ (by omega) _).new _ _ (by omega) _)⟩
end Go.Proofs.Yteooceapkkdcpab
