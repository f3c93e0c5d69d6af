/-
  The walk of Sky, for the seat YtmhcfkcpoecokaaDoor. (Made by mkfield.py.)
-/
import Derived.Test.YtmhcfkcpoecokaaDoorJH
import Derived.Test.YtmhcfkcpoecokaaDoorJT
import Derived.Test.YtmhcfkcpoecokaaDoorJF
import Derived.Test.YtmhcfkcpoecokaaDoorJE
import Derived.Handy
import Derived.Deep.RegionHeld3
namespace Go.Proofs.YtmhcfkcpoecokaaDoor
open Go.RowKit

set_option maxRecDepth 100000 in
set_option maxHeartbeats 2000000 in
theorem sky_any (b : Nat) (bad : Bool) (p : V3) (t : Int) (w : World) (hw : Fl b bad w) (hG0 : Arr 0 (row 54 at0) w) (hG1 : Arr 1 (row 10 yr0) w) (hb : 1 < b) :
    Calls Tryd.prog 13 #[.pointer (some ⟨b, 0, none⟩), .agg #[.int .i64 p.1, .int .i64 p.2.1, .int .i64 p.2.2], .int .i64 t] w fun e w' => e = .returned (.agg #[.int .i64 ((skyS bad p t).1.1), .int .i64 ((skyS bad p t).1.2.1), .int .i64 ((skyS bad p t).1.2.2)]) ∧ Fl b (skyS bad p t).2 w' ∧ Kept b w w' := by
  have hl := hw.lies
  have l_0 := hG0.lies
  have l_1 := hG1.lies
  go_enter Tryd.func13, Tryd.ntmps13
  have y1_BF : b < w.heap.size := hw.lies
  have y1_G0 : 0 < w.heap.size := hG0.lies
  have y1_G1 : 1 < w.heap.size := hG1.lies
  have y2_BF : b < w.heap.size + 1 := (Nat.lt_succ_of_lt hw.lies)
  have y2_G0 : 0 < w.heap.size + 1 := (Nat.lt_succ_of_lt hG0.lies)
  have y2_G1 : 1 < w.heap.size + 1 := (Nat.lt_succ_of_lt hG1.lies)
  have y2_B0 : w.heap.size < w.heap.size + 1 := (Nat.lt_succ_self _)
  go_wp2_with fail
  refine (cTurn_any b bad t _ ((hw.alloc _).alloc _)).mono ?_
  rintro e w1 ⟨rfl, f1, k1⟩
  generalize e1 : cTurnS bad t = r1 at f1 ⊢
  have E1 : Hid _ := e1
  clear e1
  have K1 : Kept b w w1 := Kept.trans (((Kept.refl b w).al _).al _) k1
  have G0_1 := ((hG0.alloc _).alloc _).kept k1 (by omega)
  have G1_1 := ((hG1.alloc _).alloc _).kept k1 (by omega)
  have B0_1 := ((Arr_at _ _ [.int .i64 p.1, .int .i64 p.2.1, .int .i64 p.2.2] _ (by simp)).alloc _).kept k1 (Nat.ne_of_gt y1_BF)
  have B1_1 := (Arr_at _ _ [.int .i64 0, .int .i64 0, .int .i64 0] _ (by simp)).kept k1 (Nat.ne_of_gt y2_BF)
  have z1 := B1_1.lies
  clear hG0 hG1 k1
  go_wp2_with fail
  refine (Cos_any b r1.2 r1.1 _ f1).mono ?_
  rintro e w2 ⟨rfl, f2, k2⟩
  generalize e2 : cosA r1.2 r1.1 = r2 at f2 ⊢
  have E2 : Hid _ := e2
  clear e2
  have K2 : Kept b w w2 := Kept.trans K1 k2
  have G0_2 := G0_1.kept k2 (by omega)
  have G1_2 := G1_1.kept k2 (by omega)
  have B0_2 := B0_1.kept k2 (Nat.ne_of_gt y1_BF)
  have B1_2 := B1_1.kept k2 (Nat.ne_of_gt y2_BF)
  have z2 := B1_2.lies
  clear K1 f1 G0_1 G1_1 B0_1 B1_1 k2
  go_wp2_with fail
  refine (Sin_any b r2.2 r1.1 _ f2).mono ?_
  rintro e w3 ⟨rfl, f3, k3⟩
  generalize e3 : sinA r2.2 r1.1 = r3 at f3 ⊢
  have E3 : Hid _ := e3
  clear e3
  have K3 : Kept b w w3 := Kept.trans K2 k3
  have G0_3 := G0_2.kept k3 (by omega)
  have G1_3 := G1_2.kept k3 (by omega)
  have B0_3 := B0_2.kept k3 (Nat.ne_of_gt y1_BF)
  have B1_3 := B1_2.kept k3 (Nat.ne_of_gt y2_BF)
  have z3 := B1_3.lies
  clear K2 f2 G0_2 G1_2 B0_2 B1_2 k3
  go_wp2_with fail
  refine get_cont (fun KK1 hKK1 => ?_)
  have cont1 : ∀ (W1 : World) (t1_11 t1_12 t1_13 t1_14 t1_15 t1_16 t1_17 t1_18 t1_19 t1_20 t1_21 t1_22 t1_23 t1_24 t1_25 t1_26 t1_27 t1_28 t1_29 t1_30 t1_31 t1_32 t1_33 t1_34 t1_35 t1_36 t1_37 t1_38 t1_39 t1_40 t1_41 t1_42 t1_43 t1_44 t1_45 t1_46 t1_47 t1_48 t1_49 : Value) (x1_0 : Nat) (r4 : _) (r5 : _) (r6 : _) (r7 : _) (r8 : _) (r9 : _) (r10 : _) , Hid (mulS r3.2 p.1 r2.1 = r4) → Hid (mulS r4.2 p.2.1 r3.1 = r5) → Hid (addS r5.2 r4.1 r5.1 = r6) → Hid (mulS r6.2 p.2.1 r2.1 = r7) → Hid (mulS r7.2 p.1 r3.1 = r8) → Hid (subS r8.2 r7.1 r8.1 = r9) → Hid (earS r9.2 (r6.1, r9.1, p.2.2) t = r10) → Kept b w W1 → Fl b r10.2 W1 → Arr 0 (row 54 at0) W1 → Arr 1 (row 10 yr0) W1 → Arr w.heap.size [.int .i64 p.1, .int .i64 p.2.1, .int .i64 p.2.2] W1 → Arr (w.heap.size + 1) [.int .i64 0, .int .i64 0, .int .i64 0] W1 → Arr x1_0 [.int .i64 r10.1.1, .int .i64 r10.1.2.1, .int .i64 r10.1.2.2] W1 → w.heap.size ≤ x1_0 → b < x1_0 → 0 < x1_0 → 1 < x1_0 → w.heap.size < x1_0 → w.heap.size + 1 < x1_0 → KK1 { tmps := #[.pointer (some ⟨b, 0, none⟩), .agg #[.int .i64 p.1, .int .i64 p.2.1, .int .i64 p.2.2], .int .i64 t, undef, .pointer (some ⟨w.heap.size, 0, none⟩), undef, .pointer (some ⟨w.heap.size + 1, 0, none⟩), .int .i64 r1.1, .int .i64 r2.1, .int .i64 r3.1, .pointer (some ⟨x1_0, 0, none⟩), t1_11, t1_12, t1_13, t1_14, t1_15, t1_16, t1_17, t1_18, t1_19, t1_20, t1_21, t1_22, t1_23, t1_24, t1_25, t1_26, t1_27, t1_28, t1_29, t1_30, t1_31, t1_32, t1_33, t1_34, t1_35, t1_36, t1_37, t1_38, t1_39, t1_40, t1_41, t1_42, t1_43, t1_44, t1_45, t1_46, t1_47, t1_48, t1_49, undef, undef, undef, undef, undef, undef, undef, undef, undef, undef, undef, undef, undef, undef, undef, undef, undef, undef, undef, undef, undef, undef, undef, undef, undef, undef, undef], defers := [] } W1 := by
    intro W1 t1_11 t1_12 t1_13 t1_14 t1_15 t1_16 t1_17 t1_18 t1_19 t1_20 t1_21 t1_22 t1_23 t1_24 t1_25 t1_26 t1_27 t1_28 t1_29 t1_30 t1_31 t1_32 t1_33 t1_34 t1_35 t1_36 t1_37 t1_38 t1_39 t1_40 t1_41 t1_42 t1_43 t1_44 t1_45 t1_46 t1_47 t1_48 t1_49 x1_0 r4 r5 r6 r7 r8 r9 r10 E4 E5 E6 E7 E8 E9 E10 KC1 BF_c1 G0_c1 G1_c1 B0_c1 B1_c1 B2_c1 s1_0 s1_1 s1_2 s1_3 s1_4 s1_5
    have zc1_BF := BF_c1.lies
    have zc1_G0 := G0_c1.lies
    have zc1_G1 := G1_c1.lies
    have zc1_B0 := B0_c1.lies
    have zc1_B1 := B1_c1.lies
    have zc1_B2 := B2_c1.lies
    rw [hKK1.out]
    dsimp only [Exit.inBlock, Exit.then]
    first | refine use_cont (by assumption) ?_ | skip
    go_wp2_with fail
    refine wp_region_held_drew (S := fun w' => Arr x1_0 [.int .i64 r10.1.1, .int .i64 r10.1.2.1, .int .i64 r10.1.2.2] w') (by kernel_rfl) B2_c1.drew (fun hHeld => ?_)
    refine take_at (i := 0) (v := ?v1) rfl (by kernel_rfl) (by kernel_rfl) (by kernel_rfl) (fun _ _ _ h => h) (Or.inl ⟨by rfl, ?y1⟩) hHeld ?t1
    case y1 => (intro wx hSw; go_simp <;> with_reducible rfl)
    simp only [Act.put, List.setIfInBounds_toArray, List.set_cons_zero, List.set_cons_succ]
    refine take_at (i := 1) (v := ?v2) rfl (by kernel_rfl) (by kernel_rfl) (by kernel_rfl) (fun _ _ _ h => h) (Or.inl ⟨by rfl, ?y2⟩) hHeld ?t2
    case y2 => (intro wx hSw; go_simp <;> with_reducible rfl)
    simp only [Act.put, List.setIfInBounds_toArray, List.set_cons_zero, List.set_cons_succ]
    refine take_at (i := 2) (v := ?v3) rfl (by kernel_rfl) (by kernel_rfl) (by kernel_rfl) (fun _ _ _ h => h) (Or.inl ⟨by rfl, ?y3⟩) hHeld ?t3
    case y3 => (intro wx hSw; go_simp <;> with_reducible rfl)
    simp only [Act.put, List.setIfInBounds_toArray, List.set_cons_zero, List.set_cons_succ]
    refine take_at (i := 3) (v := ?v4) rfl (by kernel_rfl) (by kernel_rfl) (by kernel_rfl) (fun _ _ _ h => h) (Or.inl ⟨by rfl, ?y4⟩) hHeld ?t4
    case y4 => (intro wx hSw; have hc0 : wx.cell? ⟨x1_0, 0, none⟩ = some (.int .i64 r10.1.1) := hSw.c 0 (of_decide_eq_true rfl); go_simp <;> with_reducible rfl)
    simp only [Act.put, List.setIfInBounds_toArray, List.set_cons_zero, List.set_cons_succ]
    refine take_at (i := 4) (v := ?v5) rfl (by kernel_rfl) (by kernel_rfl) (by kernel_rfl) (fun _ _ _ h => h) (Or.inl ⟨by rfl, ?y5⟩) hHeld ?t5
    case y5 => (intro wx hSw; go_simp <;> with_reducible rfl)
    simp only [Act.put, List.setIfInBounds_toArray, List.set_cons_zero, List.set_cons_succ]
    refine take_at (i := 6) (v := ?v6) rfl (by kernel_rfl) (by kernel_rfl) (by kernel_rfl) (fun _ _ _ h => h) (Or.inl ⟨by rfl, ?y6⟩) hHeld ?t6
    case y6 => (intro wx hSw; go_simp <;> with_reducible rfl)
    simp only [Act.put, List.setIfInBounds_toArray, List.set_cons_zero, List.set_cons_succ]
    refine take_at (i := 7) (v := ?v7) rfl (by kernel_rfl) (by kernel_rfl) (by kernel_rfl) (fun _ _ _ h => h) (Or.inl ⟨by rfl, ?y7⟩) hHeld ?t7
    case y7 => (intro wx hSw; go_simp <;> with_reducible rfl)
    simp only [Act.put, List.setIfInBounds_toArray, List.set_cons_zero, List.set_cons_succ]
    refine take_at (i := 8) (v := ?v8) rfl (by kernel_rfl) (by kernel_rfl) (by kernel_rfl) (fun _ _ _ h => h) (Or.inl ⟨by rfl, ?y8⟩) hHeld ?t8
    case y8 => (intro wx hSw; have hc1 : wx.cell? ⟨x1_0, 1, none⟩ = some (.int .i64 r10.1.2.1) := hSw.c 1 (of_decide_eq_true rfl); go_simp <;> with_reducible rfl)
    simp only [Act.put, List.setIfInBounds_toArray, List.set_cons_zero, List.set_cons_succ]
    refine take_at (i := 9) (v := ?v9) rfl (by kernel_rfl) (by kernel_rfl) (by kernel_rfl) (fun _ _ _ h => h) (Or.inl ⟨by rfl, ?y9⟩) hHeld ?t9
    case y9 => (intro wx hSw; go_simp <;> with_reducible rfl)
    simp only [Act.put, List.setIfInBounds_toArray, List.set_cons_zero, List.set_cons_succ]
    refine take_at (i := 12) (v := ?v10) rfl (by kernel_rfl) (by kernel_rfl) (by kernel_rfl) (fun _ _ _ h => h) (Or.inl ⟨by rfl, ?y10⟩) hHeld ?t10
    case y10 => (intro wx hSw; go_simp <;> with_reducible rfl)
    simp only [Act.put, List.setIfInBounds_toArray, List.set_cons_zero, List.set_cons_succ]
    refine take_at (i := 13) (v := ?v11) rfl (by kernel_rfl) (by kernel_rfl) (by kernel_rfl) (fun _ _ _ h => h) (Or.inl ⟨by rfl, ?y11⟩) hHeld ?t11
    case y11 => (intro wx hSw; go_simp <;> with_reducible rfl)
    simp only [Act.put, List.setIfInBounds_toArray, List.set_cons_zero, List.set_cons_succ]
    refine take_at (i := 14) (v := ?v12) rfl (by kernel_rfl) (by kernel_rfl) (by kernel_rfl) (fun _ _ _ h => h) (Or.inl ⟨by rfl, ?y12⟩) hHeld ?t12
    case y12 => (intro wx hSw; go_simp <;> with_reducible rfl)
    simp only [Act.put, List.setIfInBounds_toArray, List.set_cons_zero, List.set_cons_succ]
    refine take_at (i := 15) (v := ?v13) rfl (by kernel_rfl) (by kernel_rfl) (by kernel_rfl) (fun _ _ _ h => h) (Or.inl ⟨by rfl, ?y13⟩) hHeld ?t13
    case y13 => (intro wx hSw; have hc1 : wx.cell? ⟨x1_0, 1, none⟩ = some (.int .i64 r10.1.2.1) := hSw.c 1 (of_decide_eq_true rfl); go_simp <;> with_reducible rfl)
    simp only [Act.put, List.setIfInBounds_toArray, List.set_cons_zero, List.set_cons_succ]
    refine take_at (i := 16) (v := ?v14) rfl (by kernel_rfl) (by kernel_rfl) (by kernel_rfl) (fun _ _ _ h => h) (Or.inl ⟨by rfl, ?y14⟩) hHeld ?t14
    case y14 => (intro wx hSw; go_simp <;> with_reducible rfl)
    simp only [Act.put, List.setIfInBounds_toArray, List.set_cons_zero, List.set_cons_succ]
    refine take_at (i := 18) (v := ?v15) rfl (by kernel_rfl) (by kernel_rfl) (by kernel_rfl) (fun _ _ _ h => h) (Or.inl ⟨by rfl, ?y15⟩) hHeld ?t15
    case y15 => (intro wx hSw; go_simp <;> with_reducible rfl)
    simp only [Act.put, List.setIfInBounds_toArray, List.set_cons_zero, List.set_cons_succ]
    refine take_at (i := 19) (v := ?v16) rfl (by kernel_rfl) (by kernel_rfl) (by kernel_rfl) (fun _ _ _ h => h) (Or.inl ⟨by rfl, ?y16⟩) hHeld ?t16
    case y16 => (intro wx hSw; go_simp <;> with_reducible rfl)
    simp only [Act.put, List.setIfInBounds_toArray, List.set_cons_zero, List.set_cons_succ]
    refine take_at (i := 20) (v := ?v17) rfl (by kernel_rfl) (by kernel_rfl) (by kernel_rfl) (fun _ _ _ h => h) (Or.inl ⟨by rfl, ?y17⟩) hHeld ?t17
    case y17 => (intro wx hSw; have hc0 : wx.cell? ⟨x1_0, 0, none⟩ = some (.int .i64 r10.1.1) := hSw.c 0 (of_decide_eq_true rfl); go_simp <;> with_reducible rfl)
    simp only [Act.put, List.setIfInBounds_toArray, List.set_cons_zero, List.set_cons_succ]
    refine take_at (i := 21) (v := ?v18) rfl (by kernel_rfl) (by kernel_rfl) (by kernel_rfl) (fun _ _ _ h => h) (Or.inl ⟨by rfl, ?y18⟩) hHeld ?t18
    case y18 => (intro wx hSw; go_simp <;> with_reducible rfl)
    simp only [Act.put, List.setIfInBounds_toArray, List.set_cons_zero, List.set_cons_succ]
    refine take_at (i := 24) (v := ?v19) rfl (by kernel_rfl) (by kernel_rfl) (by kernel_rfl) (fun _ _ _ h => h) (Or.inl ⟨by rfl, ?y19⟩) hHeld ?t19
    case y19 => (intro wx hSw; go_simp <;> with_reducible rfl)
    simp only [Act.put, List.setIfInBounds_toArray, List.set_cons_zero, List.set_cons_succ]
    refine take_at (i := 25) (v := ?v20) rfl (by kernel_rfl) (by kernel_rfl) (by kernel_rfl) (fun _ _ _ h => h) (Or.inl ⟨by rfl, ?y20⟩) hHeld ?t20
    case y20 => (intro wx hSw; have hc2 : wx.cell? ⟨x1_0, 2, none⟩ = some (.int .i64 r10.1.2.2) := hSw.c 2 (of_decide_eq_true rfl); go_simp <;> with_reducible rfl)
    simp only [Act.put, List.setIfInBounds_toArray, List.set_cons_zero, List.set_cons_succ]
    refine call_at (i := 5) (by kernel_rfl) rfl (fun K hK => ?_)
    go_simp
    refine (Mul_any b r10.2 r10.1.1 r2.1 _ BF_c1.drew).mono ?_
    rintro e w11 ⟨rfl, f11, k11⟩
    generalize e11 : mulS r10.2 r10.1.1 r2.1 = r11 at f11 ⊢
    have E11 : Hid _ := e11
    clear e11
    have K11 : Kept b w w11 := Kept.trans KC1.drew k11
    have G0_11 := G0_c1.drew.kept k11 (by omega)
    have G1_11 := G1_c1.drew.kept k11 (by omega)
    have B0_11 := B0_c1.drew.kept k11 (Nat.ne_of_gt y1_BF)
    have B1_11 := B1_c1.drew.kept k11 (Nat.ne_of_gt y2_BF)
    have B2_11 := B2_c1.drew.kept k11 (Nat.ne_of_gt s1_1)
    have z11 := B2_11.lies
    clear hHeld
    refine hK.out _ _ B2_11 (fun hHeld => ?_)
    clear hK K BF_c1 G0_c1 G1_c1 B0_c1 B1_c1 B2_c1 k11
    refine call_at (i := 10) (by kernel_rfl) rfl (fun K hK => ?_)
    go_simp
    refine (Mul_any b r11.2 r10.1.2.1 r3.1 _ f11).mono ?_
    rintro e w12 ⟨rfl, f12, k12⟩
    generalize e12 : mulS r11.2 r10.1.2.1 r3.1 = r12 at f12 ⊢
    have E12 : Hid _ := e12
    clear e12
    have K12 : Kept b w w12 := Kept.trans K11 k12
    have G0_12 := G0_11.kept k12 (by omega)
    have G1_12 := G1_11.kept k12 (by omega)
    have B0_12 := B0_11.kept k12 (Nat.ne_of_gt y1_BF)
    have B1_12 := B1_11.kept k12 (Nat.ne_of_gt y2_BF)
    have B2_12 := B2_11.kept k12 (Nat.ne_of_gt s1_1)
    have z12 := B2_12.lies
    clear hHeld
    refine hK.out _ _ B2_12 (fun hHeld => ?_)
    clear hK K K11 f11 G0_11 G1_11 B0_11 B1_11 B2_11 k12
    refine call_at (i := 11) (by kernel_rfl) rfl (fun K hK => ?_)
    go_simp
    refine (Sub_any b r12.2 r11.1 r12.1 _ f12).mono ?_
    rintro e w13 ⟨rfl, f13, k13⟩
    generalize e13 : subS r12.2 r11.1 r12.1 = r13 at f13 ⊢
    have E13 : Hid _ := e13
    clear e13
    have K13 : Kept b w w13 := Kept.trans K12 k13
    have G0_13 := G0_12.kept k13 (by omega)
    have G1_13 := G1_12.kept k13 (by omega)
    have B0_13 := B0_12.kept k13 (Nat.ne_of_gt y1_BF)
    have B1_13 := B1_12.kept k13 (Nat.ne_of_gt y2_BF)
    have B2_13 := B2_12.kept k13 (Nat.ne_of_gt s1_1)
    have z13 := B2_13.lies
    clear hHeld
    refine hK.out _ _ B2_13 (fun hHeld => ?_)
    clear hK K K12 f12 G0_12 G1_12 B0_12 B1_12 B2_12 k13
    refine call_at (i := 17) (by kernel_rfl) rfl (fun K hK => ?_)
    go_simp
    refine (Mul_any b r13.2 r10.1.2.1 r2.1 _ f13).mono ?_
    rintro e w14 ⟨rfl, f14, k14⟩
    generalize e14 : mulS r13.2 r10.1.2.1 r2.1 = r14 at f14 ⊢
    have E14 : Hid _ := e14
    clear e14
    have K14 : Kept b w w14 := Kept.trans K13 k14
    have G0_14 := G0_13.kept k14 (by omega)
    have G1_14 := G1_13.kept k14 (by omega)
    have B0_14 := B0_13.kept k14 (Nat.ne_of_gt y1_BF)
    have B1_14 := B1_13.kept k14 (Nat.ne_of_gt y2_BF)
    have B2_14 := B2_13.kept k14 (Nat.ne_of_gt s1_1)
    have z14 := B2_14.lies
    clear hHeld
    refine hK.out _ _ B2_14 (fun hHeld => ?_)
    clear hK K K13 f13 G0_13 G1_13 B0_13 B1_13 B2_13 k14
    refine call_at (i := 22) (by kernel_rfl) rfl (fun K hK => ?_)
    go_simp
    refine (Mul_any b r14.2 r10.1.1 r3.1 _ f14).mono ?_
    rintro e w15 ⟨rfl, f15, k15⟩
    generalize e15 : mulS r14.2 r10.1.1 r3.1 = r15 at f15 ⊢
    have E15 : Hid _ := e15
    clear e15
    have K15 : Kept b w w15 := Kept.trans K14 k15
    have G0_15 := G0_14.kept k15 (by omega)
    have G1_15 := G1_14.kept k15 (by omega)
    have B0_15 := B0_14.kept k15 (Nat.ne_of_gt y1_BF)
    have B1_15 := B1_14.kept k15 (Nat.ne_of_gt y2_BF)
    have B2_15 := B2_14.kept k15 (Nat.ne_of_gt s1_1)
    have z15 := B2_15.lies
    clear hHeld
    refine hK.out _ _ B2_15 (fun hHeld => ?_)
    clear hK K K14 f14 G0_14 G1_14 B0_14 B1_14 B2_14 k15
    refine call_at (i := 23) (by kernel_rfl) rfl (fun K hK => ?_)
    go_simp
    refine (Add_any b r15.2 r14.1 r15.1 _ f15).mono ?_
    rintro e w16 ⟨rfl, f16, k16⟩
    generalize e16 : addS r15.2 r14.1 r15.1 = r16 at f16 ⊢
    have E16 : Hid _ := e16
    clear e16
    have K16 : Kept b w w16 := Kept.trans K15 k16
    have G0_16 := G0_15.kept k16 (by omega)
    have G1_16 := G1_15.kept k16 (by omega)
    have B0_16 := B0_15.kept k16 (Nat.ne_of_gt y1_BF)
    have B1_16 := B1_15.kept k16 (Nat.ne_of_gt y2_BF)
    have B2_16 := B2_15.kept k16 (Nat.ne_of_gt s1_1)
    have z16 := B2_16.lies
    clear hHeld
    refine hK.out _ _ B2_16 (fun hHeld => ?_)
    clear hK K K15 f15 G0_15 G1_15 B0_15 B1_15 B2_15 k16
    refine take_at (i := 26) (v := ?v21) rfl (by kernel_rfl) (by kernel_rfl) (by kernel_rfl) (fun _ _ _ h => h) (Or.inl ⟨by rfl, ?y21⟩) hHeld ?t21
    case y21 => (intro wx hSw; go_simp <;> with_reducible rfl)
    simp only [Act.put, List.setIfInBounds_toArray, List.set_cons_zero, List.set_cons_succ]
    refine call_at (i := 27) (by kernel_rfl) rfl (fun K hK => ?_)
    have c6_B1_0 : w16.cell? ⟨w.heap.size + 1, 0, none⟩ = some (.int .i64 0) := B1_16.c 0 (of_decide_eq_true rfl)
    have c6_B1_1 : w16.cell? ⟨w.heap.size + 1, 1, none⟩ = some (.int .i64 0) := B1_16.c 1 (of_decide_eq_true rfl)
    have c6_B1_2 : w16.cell? ⟨w.heap.size + 1, 2, none⟩ = some (.int .i64 0) := B1_16.c 2 (of_decide_eq_true rfl)
    have g6_B1_0 := B1_16.f 0 (of_decide_eq_true rfl)
    have g6_B1_1 := B1_16.f 1 (of_decide_eq_true rfl)
    have g6_B1_2 := B1_16.f 2 (of_decide_eq_true rfl)
    go_simp
    clear hHeld
    refine hK.out _ _ (((B2_16.new (w.heap.size + 1) 0 (Nat.ne_of_gt s1_5) (.int .i64 r13.1)).new (w.heap.size + 1) 1 (Nat.ne_of_gt s1_5) (.int .i64 r16.1)).new (w.heap.size + 1) 2 (Nat.ne_of_gt s1_5) (.int .i64 r10.1.2.2)) (fun hHeld => ?_)
    clear hK K c6_B1_0 c6_B1_1 c6_B1_2 g6_B1_0 g6_B1_1 g6_B1_2
    refine wpAnyH_done (by kernel_rfl) ?_ _
    clear hHeld
    go_wp2_with (with_reducible refine post_stop ?_)
    refine Stop.mk ?_
    refine bodyPost_ret (v := .agg #[.int .i64 r13.1, .int .i64 r16.1, .int .i64 r10.1.2.2]) (results_arr Tryd.results13 (((B1_16.put 0 (of_decide_eq_true rfl) (.int .i64 r13.1) [.int .i64 r13.1, .int .i64 0, .int .i64 0] rfl).put 1 (of_decide_eq_true rfl) (.int .i64 r16.1) [.int .i64 r13.1, .int .i64 r16.1, .int .i64 0] rfl).put 2 (of_decide_eq_true rfl) (.int .i64 r10.1.2.2) [.int .i64 r13.1, .int .i64 r16.1, .int .i64 r10.1.2.2] rfl) rfl (by kernel_rfl) (by kernel_rfl)) rfl ?_
    have hs : skyS bad p t = ((r13.1, r16.1, r10.1.2.2), r16.2) := by unfold skyS; simp only [E1.out, E2.out, E3.out, E4.out, E5.out, E6.out, E7.out, E8.out, E9.out, E10.out, E11.out, E12.out, E13.out, E14.out, E15.out, E16.out]
    rw [hs]
    exact ⟨rfl, (((f16.new (w.heap.size + 1) 0 (Nat.ne_of_lt y2_BF) (.int .i64 r13.1)).new (w.heap.size + 1) 1 (Nat.ne_of_lt y2_BF) (.int .i64 r16.1)).new (w.heap.size + 1) 2 (Nat.ne_of_lt y2_BF) (.int .i64 r10.1.2.2)), (((K16.new _ _ (by omega) _).new _ _ (by omega) _).new _ _ (by omega) _)⟩
  refine wp_region_held_drew (S := fun w' => Arr w.heap.size [.int .i64 p.1, .int .i64 p.2.1, .int .i64 p.2.2] w') (by kernel_rfl) B0_3.drew (fun hHeld => ?_)
  refine take_at (i := 0) (v := ?v22) rfl (by kernel_rfl) (by kernel_rfl) (by kernel_rfl) (fun _ _ _ h => h) (Or.inl ⟨by rfl, ?y22⟩) hHeld ?t22
  case y22 => (intro wx hSw; go_simp <;> with_reducible rfl)
  simp only [Act.put, List.setIfInBounds_toArray, List.set_cons_zero, List.set_cons_succ]
  refine take_at (i := 1) (v := ?v23) rfl (by kernel_rfl) (by kernel_rfl) (by kernel_rfl) (fun _ _ _ h => h) (Or.inl ⟨by rfl, ?y23⟩) hHeld ?t23
  case y23 => (intro wx hSw; go_simp <;> with_reducible rfl)
  simp only [Act.put, List.setIfInBounds_toArray, List.set_cons_zero, List.set_cons_succ]
  refine take_at (i := 2) (v := ?v24) rfl (by kernel_rfl) (by kernel_rfl) (by kernel_rfl) (fun _ _ _ h => h) (Or.inl ⟨by rfl, ?y24⟩) hHeld ?t24
  case y24 => (intro wx hSw; go_simp <;> with_reducible rfl)
  simp only [Act.put, List.setIfInBounds_toArray, List.set_cons_zero, List.set_cons_succ]
  refine take_at (i := 3) (v := ?v25) rfl (by kernel_rfl) (by kernel_rfl) (by kernel_rfl) (fun _ _ _ h => h) (Or.inl ⟨by rfl, ?y25⟩) hHeld ?t25
  case y25 => (intro wx hSw; go_simp <;> with_reducible rfl)
  simp only [Act.put, List.setIfInBounds_toArray, List.set_cons_zero, List.set_cons_succ]
  refine take_at (i := 4) (v := ?v26) rfl (by kernel_rfl) (by kernel_rfl) (by kernel_rfl) (fun _ _ _ h => h) (Or.inl ⟨by rfl, ?y26⟩) hHeld ?t26
  case y26 => (intro wx hSw; have hc0 : wx.cell? ⟨w.heap.size, 0, none⟩ = some (.int .i64 p.1) := hSw.c 0 (of_decide_eq_true rfl); go_simp <;> with_reducible rfl)
  simp only [Act.put, List.setIfInBounds_toArray, List.set_cons_zero, List.set_cons_succ]
  refine take_at (i := 5) (v := ?v27) rfl (by kernel_rfl) (by kernel_rfl) (by kernel_rfl) (fun _ _ _ h => h) (Or.inl ⟨by rfl, ?y27⟩) hHeld ?t27
  case y27 => (intro wx hSw; go_simp <;> with_reducible rfl)
  simp only [Act.put, List.setIfInBounds_toArray, List.set_cons_zero, List.set_cons_succ]
  refine take_at (i := 7) (v := ?v28) rfl (by kernel_rfl) (by kernel_rfl) (by kernel_rfl) (fun _ _ _ h => h) (Or.inl ⟨by rfl, ?y28⟩) hHeld ?t28
  case y28 => (intro wx hSw; go_simp <;> with_reducible rfl)
  simp only [Act.put, List.setIfInBounds_toArray, List.set_cons_zero, List.set_cons_succ]
  refine take_at (i := 8) (v := ?v29) rfl (by kernel_rfl) (by kernel_rfl) (by kernel_rfl) (fun _ _ _ h => h) (Or.inl ⟨by rfl, ?y29⟩) hHeld ?t29
  case y29 => (intro wx hSw; go_simp <;> with_reducible rfl)
  simp only [Act.put, List.setIfInBounds_toArray, List.set_cons_zero, List.set_cons_succ]
  refine take_at (i := 9) (v := ?v30) rfl (by kernel_rfl) (by kernel_rfl) (by kernel_rfl) (fun _ _ _ h => h) (Or.inl ⟨by rfl, ?y30⟩) hHeld ?t30
  case y30 => (intro wx hSw; have hc1 : wx.cell? ⟨w.heap.size, 1, none⟩ = some (.int .i64 p.2.1) := hSw.c 1 (of_decide_eq_true rfl); go_simp <;> with_reducible rfl)
  simp only [Act.put, List.setIfInBounds_toArray, List.set_cons_zero, List.set_cons_succ]
  refine take_at (i := 10) (v := ?v31) rfl (by kernel_rfl) (by kernel_rfl) (by kernel_rfl) (fun _ _ _ h => h) (Or.inl ⟨by rfl, ?y31⟩) hHeld ?t31
  case y31 => (intro wx hSw; go_simp <;> with_reducible rfl)
  simp only [Act.put, List.setIfInBounds_toArray, List.set_cons_zero, List.set_cons_succ]
  refine take_at (i := 13) (v := ?v32) rfl (by kernel_rfl) (by kernel_rfl) (by kernel_rfl) (fun _ _ _ h => h) (Or.inl ⟨by rfl, ?y32⟩) hHeld ?t32
  case y32 => (intro wx hSw; go_simp <;> with_reducible rfl)
  simp only [Act.put, List.setIfInBounds_toArray, List.set_cons_zero, List.set_cons_succ]
  refine take_at (i := 14) (v := ?v33) rfl (by kernel_rfl) (by kernel_rfl) (by kernel_rfl) (fun _ _ _ h => h) (Or.inl ⟨by rfl, ?y33⟩) hHeld ?t33
  case y33 => (intro wx hSw; go_simp <;> with_reducible rfl)
  simp only [Act.put, List.setIfInBounds_toArray, List.set_cons_zero, List.set_cons_succ]
  refine take_at (i := 15) (v := ?v34) rfl (by kernel_rfl) (by kernel_rfl) (by kernel_rfl) (fun _ _ _ h => h) (Or.inl ⟨by rfl, ?y34⟩) hHeld ?t34
  case y34 => (intro wx hSw; go_simp <;> with_reducible rfl)
  simp only [Act.put, List.setIfInBounds_toArray, List.set_cons_zero, List.set_cons_succ]
  refine take_at (i := 16) (v := ?v35) rfl (by kernel_rfl) (by kernel_rfl) (by kernel_rfl) (fun _ _ _ h => h) (Or.inl ⟨by rfl, ?y35⟩) hHeld ?t35
  case y35 => (intro wx hSw; have hc1 : wx.cell? ⟨w.heap.size, 1, none⟩ = some (.int .i64 p.2.1) := hSw.c 1 (of_decide_eq_true rfl); go_simp <;> with_reducible rfl)
  simp only [Act.put, List.setIfInBounds_toArray, List.set_cons_zero, List.set_cons_succ]
  refine take_at (i := 17) (v := ?v36) rfl (by kernel_rfl) (by kernel_rfl) (by kernel_rfl) (fun _ _ _ h => h) (Or.inl ⟨by rfl, ?y36⟩) hHeld ?t36
  case y36 => (intro wx hSw; go_simp <;> with_reducible rfl)
  simp only [Act.put, List.setIfInBounds_toArray, List.set_cons_zero, List.set_cons_succ]
  refine take_at (i := 19) (v := ?v37) rfl (by kernel_rfl) (by kernel_rfl) (by kernel_rfl) (fun _ _ _ h => h) (Or.inl ⟨by rfl, ?y37⟩) hHeld ?t37
  case y37 => (intro wx hSw; go_simp <;> with_reducible rfl)
  simp only [Act.put, List.setIfInBounds_toArray, List.set_cons_zero, List.set_cons_succ]
  refine take_at (i := 20) (v := ?v38) rfl (by kernel_rfl) (by kernel_rfl) (by kernel_rfl) (fun _ _ _ h => h) (Or.inl ⟨by rfl, ?y38⟩) hHeld ?t38
  case y38 => (intro wx hSw; go_simp <;> with_reducible rfl)
  simp only [Act.put, List.setIfInBounds_toArray, List.set_cons_zero, List.set_cons_succ]
  refine take_at (i := 21) (v := ?v39) rfl (by kernel_rfl) (by kernel_rfl) (by kernel_rfl) (fun _ _ _ h => h) (Or.inl ⟨by rfl, ?y39⟩) hHeld ?t39
  case y39 => (intro wx hSw; have hc0 : wx.cell? ⟨w.heap.size, 0, none⟩ = some (.int .i64 p.1) := hSw.c 0 (of_decide_eq_true rfl); go_simp <;> with_reducible rfl)
  simp only [Act.put, List.setIfInBounds_toArray, List.set_cons_zero, List.set_cons_succ]
  refine take_at (i := 22) (v := ?v40) rfl (by kernel_rfl) (by kernel_rfl) (by kernel_rfl) (fun _ _ _ h => h) (Or.inl ⟨by rfl, ?y40⟩) hHeld ?t40
  case y40 => (intro wx hSw; go_simp <;> with_reducible rfl)
  simp only [Act.put, List.setIfInBounds_toArray, List.set_cons_zero, List.set_cons_succ]
  refine take_at (i := 25) (v := ?v41) rfl (by kernel_rfl) (by kernel_rfl) (by kernel_rfl) (fun _ _ _ h => h) (Or.inl ⟨by rfl, ?y41⟩) hHeld ?t41
  case y41 => (intro wx hSw; go_simp <;> with_reducible rfl)
  simp only [Act.put, List.setIfInBounds_toArray, List.set_cons_zero, List.set_cons_succ]
  refine take_at (i := 26) (v := ?v42) rfl (by kernel_rfl) (by kernel_rfl) (by kernel_rfl) (fun _ _ _ h => h) (Or.inl ⟨by rfl, ?y42⟩) hHeld ?t42
  case y42 => (intro wx hSw; have hc2 : wx.cell? ⟨w.heap.size, 2, none⟩ = some (.int .i64 p.2.2) := hSw.c 2 (of_decide_eq_true rfl); go_simp <;> with_reducible rfl)
  simp only [Act.put, List.setIfInBounds_toArray, List.set_cons_zero, List.set_cons_succ]
  refine take_at (i := 28) (v := ?v43) rfl (by kernel_rfl) (by kernel_rfl) (by kernel_rfl) (fun _ _ _ h => h) (Or.inl ⟨by rfl, ?y43⟩) hHeld ?t43
  case y43 => (intro wx hSw; go_simp <;> with_reducible rfl)
  simp only [Act.put, List.setIfInBounds_toArray, List.set_cons_zero, List.set_cons_succ]
  refine call_at2 (i0 := 6) (i1 := 30) (by kernel_rfl) rfl rfl (fun K hK => ?_) (fun K hK => ?_)
  · go_simp
    refine (Mul_any b r3.2 p.1 r2.1 _ f3.drew).mono ?_
    rintro e w4 ⟨rfl, f4, k4⟩
    generalize e4 : mulS r3.2 p.1 r2.1 = r4 at f4 ⊢
    have E4 : Hid _ := e4
    clear e4
    have K4 : Kept b w w4 := Kept.trans K3.drew k4
    have G0_4 := G0_3.drew.kept k4 (by omega)
    have G1_4 := G1_3.drew.kept k4 (by omega)
    have B0_4 := B0_3.drew.kept k4 (Nat.ne_of_gt y1_BF)
    have B1_4 := B1_3.drew.kept k4 (Nat.ne_of_gt y2_BF)
    have z4 := B1_4.lies
    clear hHeld
    refine hK.out _ _ B0_4 (fun hHeld => ?_)
    clear hK K K3 f3 G0_3 G1_3 B0_3 B1_3 k4
    refine call_at2 (i0 := 11) (i1 := 30) (by kernel_rfl) rfl rfl (fun K hK => ?_) (fun K hK => ?_)
    · go_simp
      refine (Mul_any b r4.2 p.2.1 r3.1 _ f4).mono ?_
      rintro e w5 ⟨rfl, f5, k5⟩
      generalize e5 : mulS r4.2 p.2.1 r3.1 = r5 at f5 ⊢
      have E5 : Hid _ := e5
      clear e5
      have K5 : Kept b w w5 := Kept.trans K4 k5
      have G0_5 := G0_4.kept k5 (by omega)
      have G1_5 := G1_4.kept k5 (by omega)
      have B0_5 := B0_4.kept k5 (Nat.ne_of_gt y1_BF)
      have B1_5 := B1_4.kept k5 (Nat.ne_of_gt y2_BF)
      have z5 := B1_5.lies
      clear hHeld
      refine hK.out _ _ B0_5 (fun hHeld => ?_)
      clear hK K K4 f4 G0_4 G1_4 B0_4 B1_4 k5
      refine call_at2 (i0 := 12) (i1 := 30) (by kernel_rfl) rfl rfl (fun K hK => ?_) (fun K hK => ?_)
      · go_simp
        refine (Add_any b r5.2 r4.1 r5.1 _ f5).mono ?_
        rintro e w6 ⟨rfl, f6, k6⟩
        generalize e6 : addS r5.2 r4.1 r5.1 = r6 at f6 ⊢
        have E6 : Hid _ := e6
        clear e6
        have K6 : Kept b w w6 := Kept.trans K5 k6
        have G0_6 := G0_5.kept k6 (by omega)
        have G1_6 := G1_5.kept k6 (by omega)
        have B0_6 := B0_5.kept k6 (Nat.ne_of_gt y1_BF)
        have B1_6 := B1_5.kept k6 (Nat.ne_of_gt y2_BF)
        have z6 := B1_6.lies
        clear hHeld
        refine hK.out _ _ B0_6 (fun hHeld => ?_)
        clear hK K K5 f5 G0_5 G1_5 B0_5 B1_5 k6
        refine call_at2 (i0 := 18) (i1 := 30) (by kernel_rfl) rfl rfl (fun K hK => ?_) (fun K hK => ?_)
        · go_simp
          refine (Mul_any b r6.2 p.2.1 r2.1 _ f6).mono ?_
          rintro e w7 ⟨rfl, f7, k7⟩
          generalize e7 : mulS r6.2 p.2.1 r2.1 = r7 at f7 ⊢
          have E7 : Hid _ := e7
          clear e7
          have K7 : Kept b w w7 := Kept.trans K6 k7
          have G0_7 := G0_6.kept k7 (by omega)
          have G1_7 := G1_6.kept k7 (by omega)
          have B0_7 := B0_6.kept k7 (Nat.ne_of_gt y1_BF)
          have B1_7 := B1_6.kept k7 (Nat.ne_of_gt y2_BF)
          have z7 := B1_7.lies
          clear hHeld
          refine hK.out _ _ B0_7 (fun hHeld => ?_)
          clear hK K K6 f6 G0_6 G1_6 B0_6 B1_6 k7
          refine call_at2 (i0 := 23) (i1 := 30) (by kernel_rfl) rfl rfl (fun K hK => ?_) (fun K hK => ?_)
          · go_simp
            refine (Mul_any b r7.2 p.1 r3.1 _ f7).mono ?_
            rintro e w8 ⟨rfl, f8, k8⟩
            generalize e8 : mulS r7.2 p.1 r3.1 = r8 at f8 ⊢
            have E8 : Hid _ := e8
            clear e8
            have K8 : Kept b w w8 := Kept.trans K7 k8
            have G0_8 := G0_7.kept k8 (by omega)
            have G1_8 := G1_7.kept k8 (by omega)
            have B0_8 := B0_7.kept k8 (Nat.ne_of_gt y1_BF)
            have B1_8 := B1_7.kept k8 (Nat.ne_of_gt y2_BF)
            have z8 := B1_8.lies
            clear hHeld
            refine hK.out _ _ B0_8 (fun hHeld => ?_)
            clear hK K K7 f7 G0_7 G1_7 B0_7 B1_7 k8
            refine call_at2 (i0 := 24) (i1 := 30) (by kernel_rfl) rfl rfl (fun K hK => ?_) (fun K hK => ?_)
            · go_simp
              refine (Sub_any b r8.2 r7.1 r8.1 _ f8).mono ?_
              rintro e w9 ⟨rfl, f9, k9⟩
              generalize e9 : subS r8.2 r7.1 r8.1 = r9 at f9 ⊢
              have E9 : Hid _ := e9
              clear e9
              have K9 : Kept b w w9 := Kept.trans K8 k9
              have G0_9 := G0_8.kept k9 (by omega)
              have G1_9 := G1_8.kept k9 (by omega)
              have B0_9 := B0_8.kept k9 (Nat.ne_of_gt y1_BF)
              have B1_9 := B1_8.kept k9 (Nat.ne_of_gt y2_BF)
              have z9 := B1_9.lies
              clear hHeld
              refine hK.out _ _ B0_9 (fun hHeld => ?_)
              clear hK K K8 f8 G0_8 G1_8 B0_8 B1_8 k9
              refine take_at (i := 27) (v := ?v44) rfl (by kernel_rfl) (by kernel_rfl) (by kernel_rfl) (fun _ _ _ h => h) (Or.inl ⟨by rfl, ?y44⟩) hHeld ?t44
              case y44 => (intro wx hSw; go_simp <;> with_reducible rfl)
              simp only [Act.put, List.setIfInBounds_toArray, List.set_cons_zero, List.set_cons_succ]
              refine call_at2 (i0 := 29) (i1 := 30) (by kernel_rfl) rfl rfl (fun K hK => ?_) (fun K hK => ?_)
              · go_simp
                refine (earth_any b r9.2 (r6.1, r9.1, p.2.2) t _ f9 G0_9 G1_9 (by omega)).mono ?_
                rintro e w10 ⟨rfl, f10, k10⟩
                generalize e10 : earS r9.2 (r6.1, r9.1, p.2.2) t = r10 at f10 ⊢
                have E10 : Hid _ := e10
                clear e10
                have K10 : Kept b w w10 := Kept.trans K9 k10
                have G0_10 := G0_9.kept k10 (by omega)
                have G1_10 := G1_9.kept k10 (by omega)
                have B0_10 := B0_9.kept k10 (Nat.ne_of_gt y1_BF)
                have B1_10 := B1_9.kept k10 (Nat.ne_of_gt y2_BF)
                have z10 := B1_10.lies
                clear hHeld
                refine hK.out _ _ B0_10 (fun hHeld => ?_)
                clear hK K K9 f9 G0_9 G1_9 B0_9 B1_9 k10
                refine call_at (i := 30) (by kernel_rfl) rfl (fun K hK => ?_)
                have y3_BF : b < w10.heap.size := f10.lies
                have y3_G0 : 0 < w10.heap.size := G0_10.lies
                have y3_G1 : 1 < w10.heap.size := G1_10.lies
                have y3_B0 : w.heap.size < w10.heap.size := B0_10.lies
                have y3_B1 : w.heap.size + 1 < w10.heap.size := B1_10.lies
                go_simp
                clear hHeld
                refine hK.out _ _ (B0_10.alloc _) (fun hHeld => ?_)
                clear hK K
                refine call_at (i := 31) (by kernel_rfl) rfl (fun K hK => ?_)
                go_simp
                clear hHeld
                refine hK.out _ _ (B0_10.alloc _) (fun hHeld => ?_)
                clear hK K
                refine wpAnyH_done (by kernel_rfl) ?_ _
                clear hHeld
                refine put_cont hKK1 ?_
                exact cont1 _ _ _ _ _ _ _ _ _ _ _ _ _ _ _ _ _ _ _ _ _ _ _ _ _ _ _ _ _ _ _ _ _ _ _ _ _ _ _ _ w10.heap.size r4 r5 r6 r7 r8 r9 r10 E4 E5 E6 E7 E8 E9 E10 (K10.al _) (f10.alloc _) (G0_10.alloc _) (G1_10.alloc _) (B0_10.alloc _) (B1_10.alloc _) (Arr_at _ _ [.int .i64 r10.1.1, .int .i64 r10.1.2.1, .int .i64 r10.1.2.2] _ (by simp)) (by omega) y3_BF y3_G0 y3_G1 y3_B0 y3_B1
              · have y4_BF : b < w9.heap.size := f9.lies
                have y4_G0 : 0 < w9.heap.size := G0_9.lies
                have y4_G1 : 1 < w9.heap.size := G1_9.lies
                have y4_B0 : w.heap.size < w9.heap.size := B0_9.lies
                have y4_B1 : w.heap.size + 1 < w9.heap.size := B1_9.lies
                go_simp
                clear hHeld
                refine hK.out _ _ (B0_9.alloc _) (fun hHeld => ?_)
                clear hK K
                refine call_at (i := 29) (by kernel_rfl) rfl (fun K hK => ?_)
                go_simp
                refine (earth_any b r9.2 (r6.1, r9.1, p.2.2) t _ (f9.alloc _) (G0_9.alloc _) (G1_9.alloc _) (by omega)).mono ?_
                rintro e w10 ⟨rfl, f10, k10⟩
                generalize e10 : earS r9.2 (r6.1, r9.1, p.2.2) t = r10 at f10 ⊢
                have E10 : Hid _ := e10
                clear e10
                have K10 : Kept b w w10 := Kept.trans (K9.al _) k10
                have G0_10 := (G0_9.alloc _).kept k10 (by omega)
                have G1_10 := (G1_9.alloc _).kept k10 (by omega)
                have B0_10 := (B0_9.alloc _).kept k10 (Nat.ne_of_gt y1_BF)
                have B1_10 := (B1_9.alloc _).kept k10 (Nat.ne_of_gt y2_BF)
                have B2_10 := (Arr_at _ _ [.int .i64 0, .int .i64 0, .int .i64 0] _ (by simp)).kept k10 (Nat.ne_of_gt y4_BF)
                have z10 := B2_10.lies
                clear hHeld
                refine hK.out _ _ B0_10 (fun hHeld => ?_)
                clear hK K K9 f9 G0_9 G1_9 B0_9 B1_9 k10
                refine call_at (i := 31) (by kernel_rfl) rfl (fun K hK => ?_)
                have c6_B2_0 : w10.cell? ⟨w9.heap.size, 0, none⟩ = some (.int .i64 0) := B2_10.c 0 (of_decide_eq_true rfl)
                have c6_B2_1 : w10.cell? ⟨w9.heap.size, 1, none⟩ = some (.int .i64 0) := B2_10.c 1 (of_decide_eq_true rfl)
                have c6_B2_2 : w10.cell? ⟨w9.heap.size, 2, none⟩ = some (.int .i64 0) := B2_10.c 2 (of_decide_eq_true rfl)
                have g6_B2_0 := B2_10.f 0 (of_decide_eq_true rfl)
                have g6_B2_1 := B2_10.f 1 (of_decide_eq_true rfl)
                have g6_B2_2 := B2_10.f 2 (of_decide_eq_true rfl)
                go_simp
                clear hHeld
                refine hK.out _ _ (((B0_10.new w9.heap.size 0 (Nat.ne_of_lt y4_B0) (.int .i64 r10.1.1)).new w9.heap.size 1 (Nat.ne_of_lt y4_B0) (.int .i64 r10.1.2.1)).new w9.heap.size 2 (Nat.ne_of_lt y4_B0) (.int .i64 r10.1.2.2)) (fun hHeld => ?_)
                clear hK K c6_B2_0 c6_B2_1 c6_B2_2 g6_B2_0 g6_B2_1 g6_B2_2
                refine wpAnyH_done (by kernel_rfl) ?_ _
                clear hHeld
                refine put_cont hKK1 ?_
                exact cont1 _ _ _ _ _ _ _ _ _ _ _ _ _ _ _ _ _ _ _ _ _ _ _ _ _ _ _ _ _ _ _ _ _ _ _ _ _ _ _ _ w9.heap.size r4 r5 r6 r7 r8 r9 r10 E4 E5 E6 E7 E8 E9 E10 (((K10.new _ _ (by omega) _).new _ _ (by omega) _).new _ _ (by omega) _) (((f10.new w9.heap.size 0 (Nat.ne_of_lt y4_BF) (.int .i64 r10.1.1)).new w9.heap.size 1 (Nat.ne_of_lt y4_BF) (.int .i64 r10.1.2.1)).new w9.heap.size 2 (Nat.ne_of_lt y4_BF) (.int .i64 r10.1.2.2)) (((G0_10.new w9.heap.size 0 (Nat.ne_of_lt y4_G0) (.int .i64 r10.1.1)).new w9.heap.size 1 (Nat.ne_of_lt y4_G0) (.int .i64 r10.1.2.1)).new w9.heap.size 2 (Nat.ne_of_lt y4_G0) (.int .i64 r10.1.2.2)) (((G1_10.new w9.heap.size 0 (Nat.ne_of_lt y4_G1) (.int .i64 r10.1.1)).new w9.heap.size 1 (Nat.ne_of_lt y4_G1) (.int .i64 r10.1.2.1)).new w9.heap.size 2 (Nat.ne_of_lt y4_G1) (.int .i64 r10.1.2.2)) (((B0_10.new w9.heap.size 0 (Nat.ne_of_lt y4_B0) (.int .i64 r10.1.1)).new w9.heap.size 1 (Nat.ne_of_lt y4_B0) (.int .i64 r10.1.2.1)).new w9.heap.size 2 (Nat.ne_of_lt y4_B0) (.int .i64 r10.1.2.2)) (((B1_10.new w9.heap.size 0 (Nat.ne_of_lt y4_B1) (.int .i64 r10.1.1)).new w9.heap.size 1 (Nat.ne_of_lt y4_B1) (.int .i64 r10.1.2.1)).new w9.heap.size 2 (Nat.ne_of_lt y4_B1) (.int .i64 r10.1.2.2)) (((B2_10.put 0 (of_decide_eq_true rfl) (.int .i64 r10.1.1) [.int .i64 r10.1.1, .int .i64 0, .int .i64 0] rfl).put 1 (of_decide_eq_true rfl) (.int .i64 r10.1.2.1) [.int .i64 r10.1.1, .int .i64 r10.1.2.1, .int .i64 0] rfl).put 2 (of_decide_eq_true rfl) (.int .i64 r10.1.2.2) [.int .i64 r10.1.1, .int .i64 r10.1.2.1, .int .i64 r10.1.2.2] rfl) (by omega) y4_BF y4_G0 y4_G1 y4_B0 y4_B1
            · have y5_BF : b < w8.heap.size := f8.lies
              have y5_G0 : 0 < w8.heap.size := G0_8.lies
              have y5_G1 : 1 < w8.heap.size := G1_8.lies
              have y5_B0 : w.heap.size < w8.heap.size := B0_8.lies
              have y5_B1 : w.heap.size + 1 < w8.heap.size := B1_8.lies
              go_simp
              clear hHeld
              refine hK.out _ _ (B0_8.alloc _) (fun hHeld => ?_)
              clear hK K
              refine call_at (i := 24) (by kernel_rfl) rfl (fun K hK => ?_)
              go_simp
              refine (Sub_any b r8.2 r7.1 r8.1 _ (f8.alloc _)).mono ?_
              rintro e w9 ⟨rfl, f9, k9⟩
              generalize e9 : subS r8.2 r7.1 r8.1 = r9 at f9 ⊢
              have E9 : Hid _ := e9
              clear e9
              have K9 : Kept b w w9 := Kept.trans (K8.al _) k9
              have G0_9 := (G0_8.alloc _).kept k9 (by omega)
              have G1_9 := (G1_8.alloc _).kept k9 (by omega)
              have B0_9 := (B0_8.alloc _).kept k9 (Nat.ne_of_gt y1_BF)
              have B1_9 := (B1_8.alloc _).kept k9 (Nat.ne_of_gt y2_BF)
              have B2_9 := (Arr_at _ _ [.int .i64 0, .int .i64 0, .int .i64 0] _ (by simp)).kept k9 (Nat.ne_of_gt y5_BF)
              have z9 := B2_9.lies
              clear hHeld
              refine hK.out _ _ B0_9 (fun hHeld => ?_)
              clear hK K K8 f8 G0_8 G1_8 B0_8 B1_8 k9
              refine take_at (i := 27) (v := ?v45) rfl (by kernel_rfl) (by kernel_rfl) (by kernel_rfl) (fun _ _ _ h => h) (Or.inl ⟨by rfl, ?y45⟩) hHeld ?t45
              case y45 => (intro wx hSw; go_simp <;> with_reducible rfl)
              simp only [Act.put, List.setIfInBounds_toArray, List.set_cons_zero, List.set_cons_succ]
              refine call_at (i := 29) (by kernel_rfl) rfl (fun K hK => ?_)
              go_simp
              refine (earth_any b r9.2 (r6.1, r9.1, p.2.2) t _ f9 G0_9 G1_9 (by omega)).mono ?_
              rintro e w10 ⟨rfl, f10, k10⟩
              generalize e10 : earS r9.2 (r6.1, r9.1, p.2.2) t = r10 at f10 ⊢
              have E10 : Hid _ := e10
              clear e10
              have K10 : Kept b w w10 := Kept.trans K9 k10
              have G0_10 := G0_9.kept k10 (by omega)
              have G1_10 := G1_9.kept k10 (by omega)
              have B0_10 := B0_9.kept k10 (Nat.ne_of_gt y1_BF)
              have B1_10 := B1_9.kept k10 (Nat.ne_of_gt y2_BF)
              have B2_10 := B2_9.kept k10 (Nat.ne_of_gt y5_BF)
              have z10 := B2_10.lies
              clear hHeld
              refine hK.out _ _ B0_10 (fun hHeld => ?_)
              clear hK K K9 f9 G0_9 G1_9 B0_9 B1_9 B2_9 k10
              refine call_at (i := 31) (by kernel_rfl) rfl (fun K hK => ?_)
              have c6_B2_0 : w10.cell? ⟨w8.heap.size, 0, none⟩ = some (.int .i64 0) := B2_10.c 0 (of_decide_eq_true rfl)
              have c6_B2_1 : w10.cell? ⟨w8.heap.size, 1, none⟩ = some (.int .i64 0) := B2_10.c 1 (of_decide_eq_true rfl)
              have c6_B2_2 : w10.cell? ⟨w8.heap.size, 2, none⟩ = some (.int .i64 0) := B2_10.c 2 (of_decide_eq_true rfl)
              have g6_B2_0 := B2_10.f 0 (of_decide_eq_true rfl)
              have g6_B2_1 := B2_10.f 1 (of_decide_eq_true rfl)
              have g6_B2_2 := B2_10.f 2 (of_decide_eq_true rfl)
              go_simp
              clear hHeld
              refine hK.out _ _ (((B0_10.new w8.heap.size 0 (Nat.ne_of_lt y5_B0) (.int .i64 r10.1.1)).new w8.heap.size 1 (Nat.ne_of_lt y5_B0) (.int .i64 r10.1.2.1)).new w8.heap.size 2 (Nat.ne_of_lt y5_B0) (.int .i64 r10.1.2.2)) (fun hHeld => ?_)
              clear hK K c6_B2_0 c6_B2_1 c6_B2_2 g6_B2_0 g6_B2_1 g6_B2_2
              refine wpAnyH_done (by kernel_rfl) ?_ _
              clear hHeld
              refine put_cont hKK1 ?_
              exact cont1 _ _ _ _ _ _ _ _ _ _ _ _ _ _ _ _ _ _ _ _ _ _ _ _ _ _ _ _ _ _ _ _ _ _ _ _ _ _ _ _ w8.heap.size r4 r5 r6 r7 r8 r9 r10 E4 E5 E6 E7 E8 E9 E10 (((K10.new _ _ (by omega) _).new _ _ (by omega) _).new _ _ (by omega) _) (((f10.new w8.heap.size 0 (Nat.ne_of_lt y5_BF) (.int .i64 r10.1.1)).new w8.heap.size 1 (Nat.ne_of_lt y5_BF) (.int .i64 r10.1.2.1)).new w8.heap.size 2 (Nat.ne_of_lt y5_BF) (.int .i64 r10.1.2.2)) (((G0_10.new w8.heap.size 0 (Nat.ne_of_lt y5_G0) (.int .i64 r10.1.1)).new w8.heap.size 1 (Nat.ne_of_lt y5_G0) (.int .i64 r10.1.2.1)).new w8.heap.size 2 (Nat.ne_of_lt y5_G0) (.int .i64 r10.1.2.2)) (((G1_10.new w8.heap.size 0 (Nat.ne_of_lt y5_G1) (.int .i64 r10.1.1)).new w8.heap.size 1 (Nat.ne_of_lt y5_G1) (.int .i64 r10.1.2.1)).new w8.heap.size 2 (Nat.ne_of_lt y5_G1) (.int .i64 r10.1.2.2)) (((B0_10.new w8.heap.size 0 (Nat.ne_of_lt y5_B0) (.int .i64 r10.1.1)).new w8.heap.size 1 (Nat.ne_of_lt y5_B0) (.int .i64 r10.1.2.1)).new w8.heap.size 2 (Nat.ne_of_lt y5_B0) (.int .i64 r10.1.2.2)) (((B1_10.new w8.heap.size 0 (Nat.ne_of_lt y5_B1) (.int .i64 r10.1.1)).new w8.heap.size 1 (Nat.ne_of_lt y5_B1) (.int .i64 r10.1.2.1)).new w8.heap.size 2 (Nat.ne_of_lt y5_B1) (.int .i64 r10.1.2.2)) (((B2_10.put 0 (of_decide_eq_true rfl) (.int .i64 r10.1.1) [.int .i64 r10.1.1, .int .i64 0, .int .i64 0] rfl).put 1 (of_decide_eq_true rfl) (.int .i64 r10.1.2.1) [.int .i64 r10.1.1, .int .i64 r10.1.2.1, .int .i64 0] rfl).put 2 (of_decide_eq_true rfl) (.int .i64 r10.1.2.2) [.int .i64 r10.1.1, .int .i64 r10.1.2.1, .int .i64 r10.1.2.2] rfl) (by omega) y5_BF y5_G0 y5_G1 y5_B0 y5_B1
          · have y6_BF : b < w7.heap.size := f7.lies
            have y6_G0 : 0 < w7.heap.size := G0_7.lies
            have y6_G1 : 1 < w7.heap.size := G1_7.lies
            have y6_B0 : w.heap.size < w7.heap.size := B0_7.lies
            have y6_B1 : w.heap.size + 1 < w7.heap.size := B1_7.lies
            go_simp
            clear hHeld
            refine hK.out _ _ (B0_7.alloc _) (fun hHeld => ?_)
            clear hK K
            refine call_at (i := 23) (by kernel_rfl) rfl (fun K hK => ?_)
            go_simp
            refine (Mul_any b r7.2 p.1 r3.1 _ (f7.alloc _)).mono ?_
            rintro e w8 ⟨rfl, f8, k8⟩
            generalize e8 : mulS r7.2 p.1 r3.1 = r8 at f8 ⊢
            have E8 : Hid _ := e8
            clear e8
            have K8 : Kept b w w8 := Kept.trans (K7.al _) k8
            have G0_8 := (G0_7.alloc _).kept k8 (by omega)
            have G1_8 := (G1_7.alloc _).kept k8 (by omega)
            have B0_8 := (B0_7.alloc _).kept k8 (Nat.ne_of_gt y1_BF)
            have B1_8 := (B1_7.alloc _).kept k8 (Nat.ne_of_gt y2_BF)
            have B2_8 := (Arr_at _ _ [.int .i64 0, .int .i64 0, .int .i64 0] _ (by simp)).kept k8 (Nat.ne_of_gt y6_BF)
            have z8 := B2_8.lies
            clear hHeld
            refine hK.out _ _ B0_8 (fun hHeld => ?_)
            clear hK K K7 f7 G0_7 G1_7 B0_7 B1_7 k8
            refine call_at (i := 24) (by kernel_rfl) rfl (fun K hK => ?_)
            go_simp
            refine (Sub_any b r8.2 r7.1 r8.1 _ f8).mono ?_
            rintro e w9 ⟨rfl, f9, k9⟩
            generalize e9 : subS r8.2 r7.1 r8.1 = r9 at f9 ⊢
            have E9 : Hid _ := e9
            clear e9
            have K9 : Kept b w w9 := Kept.trans K8 k9
            have G0_9 := G0_8.kept k9 (by omega)
            have G1_9 := G1_8.kept k9 (by omega)
            have B0_9 := B0_8.kept k9 (Nat.ne_of_gt y1_BF)
            have B1_9 := B1_8.kept k9 (Nat.ne_of_gt y2_BF)
            have B2_9 := B2_8.kept k9 (Nat.ne_of_gt y6_BF)
            have z9 := B2_9.lies
            clear hHeld
            refine hK.out _ _ B0_9 (fun hHeld => ?_)
            clear hK K K8 f8 G0_8 G1_8 B0_8 B1_8 B2_8 k9
            refine take_at (i := 27) (v := ?v46) rfl (by kernel_rfl) (by kernel_rfl) (by kernel_rfl) (fun _ _ _ h => h) (Or.inl ⟨by rfl, ?y46⟩) hHeld ?t46
            case y46 => (intro wx hSw; go_simp <;> with_reducible rfl)
            simp only [Act.put, List.setIfInBounds_toArray, List.set_cons_zero, List.set_cons_succ]
            refine call_at (i := 29) (by kernel_rfl) rfl (fun K hK => ?_)
            go_simp
            refine (earth_any b r9.2 (r6.1, r9.1, p.2.2) t _ f9 G0_9 G1_9 (by omega)).mono ?_
            rintro e w10 ⟨rfl, f10, k10⟩
            generalize e10 : earS r9.2 (r6.1, r9.1, p.2.2) t = r10 at f10 ⊢
            have E10 : Hid _ := e10
            clear e10
            have K10 : Kept b w w10 := Kept.trans K9 k10
            have G0_10 := G0_9.kept k10 (by omega)
            have G1_10 := G1_9.kept k10 (by omega)
            have B0_10 := B0_9.kept k10 (Nat.ne_of_gt y1_BF)
            have B1_10 := B1_9.kept k10 (Nat.ne_of_gt y2_BF)
            have B2_10 := B2_9.kept k10 (Nat.ne_of_gt y6_BF)
            have z10 := B2_10.lies
            clear hHeld
            refine hK.out _ _ B0_10 (fun hHeld => ?_)
            clear hK K K9 f9 G0_9 G1_9 B0_9 B1_9 B2_9 k10
            refine call_at (i := 31) (by kernel_rfl) rfl (fun K hK => ?_)
            have c6_B2_0 : w10.cell? ⟨w7.heap.size, 0, none⟩ = some (.int .i64 0) := B2_10.c 0 (of_decide_eq_true rfl)
            have c6_B2_1 : w10.cell? ⟨w7.heap.size, 1, none⟩ = some (.int .i64 0) := B2_10.c 1 (of_decide_eq_true rfl)
            have c6_B2_2 : w10.cell? ⟨w7.heap.size, 2, none⟩ = some (.int .i64 0) := B2_10.c 2 (of_decide_eq_true rfl)
            have g6_B2_0 := B2_10.f 0 (of_decide_eq_true rfl)
            have g6_B2_1 := B2_10.f 1 (of_decide_eq_true rfl)
            have g6_B2_2 := B2_10.f 2 (of_decide_eq_true rfl)
            go_simp
            clear hHeld
            refine hK.out _ _ (((B0_10.new w7.heap.size 0 (Nat.ne_of_lt y6_B0) (.int .i64 r10.1.1)).new w7.heap.size 1 (Nat.ne_of_lt y6_B0) (.int .i64 r10.1.2.1)).new w7.heap.size 2 (Nat.ne_of_lt y6_B0) (.int .i64 r10.1.2.2)) (fun hHeld => ?_)
            clear hK K c6_B2_0 c6_B2_1 c6_B2_2 g6_B2_0 g6_B2_1 g6_B2_2
            refine wpAnyH_done (by kernel_rfl) ?_ _
            clear hHeld
            refine put_cont hKK1 ?_
            exact cont1 _ _ _ _ _ _ _ _ _ _ _ _ _ _ _ _ _ _ _ _ _ _ _ _ _ _ _ _ _ _ _ _ _ _ _ _ _ _ _ _ w7.heap.size r4 r5 r6 r7 r8 r9 r10 E4 E5 E6 E7 E8 E9 E10 (((K10.new _ _ (by omega) _).new _ _ (by omega) _).new _ _ (by omega) _) (((f10.new w7.heap.size 0 (Nat.ne_of_lt y6_BF) (.int .i64 r10.1.1)).new w7.heap.size 1 (Nat.ne_of_lt y6_BF) (.int .i64 r10.1.2.1)).new w7.heap.size 2 (Nat.ne_of_lt y6_BF) (.int .i64 r10.1.2.2)) (((G0_10.new w7.heap.size 0 (Nat.ne_of_lt y6_G0) (.int .i64 r10.1.1)).new w7.heap.size 1 (Nat.ne_of_lt y6_G0) (.int .i64 r10.1.2.1)).new w7.heap.size 2 (Nat.ne_of_lt y6_G0) (.int .i64 r10.1.2.2)) (((G1_10.new w7.heap.size 0 (Nat.ne_of_lt y6_G1) (.int .i64 r10.1.1)).new w7.heap.size 1 (Nat.ne_of_lt y6_G1) (.int .i64 r10.1.2.1)).new w7.heap.size 2 (Nat.ne_of_lt y6_G1) (.int .i64 r10.1.2.2)) (((B0_10.new w7.heap.size 0 (Nat.ne_of_lt y6_B0) (.int .i64 r10.1.1)).new w7.heap.size 1 (Nat.ne_of_lt y6_B0) (.int .i64 r10.1.2.1)).new w7.heap.size 2 (Nat.ne_of_lt y6_B0) (.int .i64 r10.1.2.2)) (((B1_10.new w7.heap.size 0 (Nat.ne_of_lt y6_B1) (.int .i64 r10.1.1)).new w7.heap.size 1 (Nat.ne_of_lt y6_B1) (.int .i64 r10.1.2.1)).new w7.heap.size 2 (Nat.ne_of_lt y6_B1) (.int .i64 r10.1.2.2)) (((B2_10.put 0 (of_decide_eq_true rfl) (.int .i64 r10.1.1) [.int .i64 r10.1.1, .int .i64 0, .int .i64 0] rfl).put 1 (of_decide_eq_true rfl) (.int .i64 r10.1.2.1) [.int .i64 r10.1.1, .int .i64 r10.1.2.1, .int .i64 0] rfl).put 2 (of_decide_eq_true rfl) (.int .i64 r10.1.2.2) [.int .i64 r10.1.1, .int .i64 r10.1.2.1, .int .i64 r10.1.2.2] rfl) (by omega) y6_BF y6_G0 y6_G1 y6_B0 y6_B1
        · have y7_BF : b < w6.heap.size := f6.lies
          have y7_G0 : 0 < w6.heap.size := G0_6.lies
          have y7_G1 : 1 < w6.heap.size := G1_6.lies
          have y7_B0 : w.heap.size < w6.heap.size := B0_6.lies
          have y7_B1 : w.heap.size + 1 < w6.heap.size := B1_6.lies
          go_simp
          clear hHeld
          refine hK.out _ _ (B0_6.alloc _) (fun hHeld => ?_)
          clear hK K
          refine call_at (i := 18) (by kernel_rfl) rfl (fun K hK => ?_)
          go_simp
          refine (Mul_any b r6.2 p.2.1 r2.1 _ (f6.alloc _)).mono ?_
          rintro e w7 ⟨rfl, f7, k7⟩
          generalize e7 : mulS r6.2 p.2.1 r2.1 = r7 at f7 ⊢
          have E7 : Hid _ := e7
          clear e7
          have K7 : Kept b w w7 := Kept.trans (K6.al _) k7
          have G0_7 := (G0_6.alloc _).kept k7 (by omega)
          have G1_7 := (G1_6.alloc _).kept k7 (by omega)
          have B0_7 := (B0_6.alloc _).kept k7 (Nat.ne_of_gt y1_BF)
          have B1_7 := (B1_6.alloc _).kept k7 (Nat.ne_of_gt y2_BF)
          have B2_7 := (Arr_at _ _ [.int .i64 0, .int .i64 0, .int .i64 0] _ (by simp)).kept k7 (Nat.ne_of_gt y7_BF)
          have z7 := B2_7.lies
          clear hHeld
          refine hK.out _ _ B0_7 (fun hHeld => ?_)
          clear hK K K6 f6 G0_6 G1_6 B0_6 B1_6 k7
          refine call_at (i := 23) (by kernel_rfl) rfl (fun K hK => ?_)
          go_simp
          refine (Mul_any b r7.2 p.1 r3.1 _ f7).mono ?_
          rintro e w8 ⟨rfl, f8, k8⟩
          generalize e8 : mulS r7.2 p.1 r3.1 = r8 at f8 ⊢
          have E8 : Hid _ := e8
          clear e8
          have K8 : Kept b w w8 := Kept.trans K7 k8
          have G0_8 := G0_7.kept k8 (by omega)
          have G1_8 := G1_7.kept k8 (by omega)
          have B0_8 := B0_7.kept k8 (Nat.ne_of_gt y1_BF)
          have B1_8 := B1_7.kept k8 (Nat.ne_of_gt y2_BF)
          have B2_8 := B2_7.kept k8 (Nat.ne_of_gt y7_BF)
          have z8 := B2_8.lies
          clear hHeld
          refine hK.out _ _ B0_8 (fun hHeld => ?_)
          clear hK K K7 f7 G0_7 G1_7 B0_7 B1_7 B2_7 k8
          refine call_at (i := 24) (by kernel_rfl) rfl (fun K hK => ?_)
          go_simp
          refine (Sub_any b r8.2 r7.1 r8.1 _ f8).mono ?_
          rintro e w9 ⟨rfl, f9, k9⟩
          generalize e9 : subS r8.2 r7.1 r8.1 = r9 at f9 ⊢
          have E9 : Hid _ := e9
          clear e9
          have K9 : Kept b w w9 := Kept.trans K8 k9
          have G0_9 := G0_8.kept k9 (by omega)
          have G1_9 := G1_8.kept k9 (by omega)
          have B0_9 := B0_8.kept k9 (Nat.ne_of_gt y1_BF)
          have B1_9 := B1_8.kept k9 (Nat.ne_of_gt y2_BF)
          have B2_9 := B2_8.kept k9 (Nat.ne_of_gt y7_BF)
          have z9 := B2_9.lies
          clear hHeld
          refine hK.out _ _ B0_9 (fun hHeld => ?_)
          clear hK K K8 f8 G0_8 G1_8 B0_8 B1_8 B2_8 k9
          refine take_at (i := 27) (v := ?v47) rfl (by kernel_rfl) (by kernel_rfl) (by kernel_rfl) (fun _ _ _ h => h) (Or.inl ⟨by rfl, ?y47⟩) hHeld ?t47
          case y47 => (intro wx hSw; go_simp <;> with_reducible rfl)
          simp only [Act.put, List.setIfInBounds_toArray, List.set_cons_zero, List.set_cons_succ]
          refine call_at (i := 29) (by kernel_rfl) rfl (fun K hK => ?_)
          go_simp
          refine (earth_any b r9.2 (r6.1, r9.1, p.2.2) t _ f9 G0_9 G1_9 (by omega)).mono ?_
          rintro e w10 ⟨rfl, f10, k10⟩
          generalize e10 : earS r9.2 (r6.1, r9.1, p.2.2) t = r10 at f10 ⊢
          have E10 : Hid _ := e10
          clear e10
          have K10 : Kept b w w10 := Kept.trans K9 k10
          have G0_10 := G0_9.kept k10 (by omega)
          have G1_10 := G1_9.kept k10 (by omega)
          have B0_10 := B0_9.kept k10 (Nat.ne_of_gt y1_BF)
          have B1_10 := B1_9.kept k10 (Nat.ne_of_gt y2_BF)
          have B2_10 := B2_9.kept k10 (Nat.ne_of_gt y7_BF)
          have z10 := B2_10.lies
          clear hHeld
          refine hK.out _ _ B0_10 (fun hHeld => ?_)
          clear hK K K9 f9 G0_9 G1_9 B0_9 B1_9 B2_9 k10
          refine call_at (i := 31) (by kernel_rfl) rfl (fun K hK => ?_)
          have c6_B2_0 : w10.cell? ⟨w6.heap.size, 0, none⟩ = some (.int .i64 0) := B2_10.c 0 (of_decide_eq_true rfl)
          have c6_B2_1 : w10.cell? ⟨w6.heap.size, 1, none⟩ = some (.int .i64 0) := B2_10.c 1 (of_decide_eq_true rfl)
          have c6_B2_2 : w10.cell? ⟨w6.heap.size, 2, none⟩ = some (.int .i64 0) := B2_10.c 2 (of_decide_eq_true rfl)
          have g6_B2_0 := B2_10.f 0 (of_decide_eq_true rfl)
          have g6_B2_1 := B2_10.f 1 (of_decide_eq_true rfl)
          have g6_B2_2 := B2_10.f 2 (of_decide_eq_true rfl)
          go_simp
          clear hHeld
          refine hK.out _ _ (((B0_10.new w6.heap.size 0 (Nat.ne_of_lt y7_B0) (.int .i64 r10.1.1)).new w6.heap.size 1 (Nat.ne_of_lt y7_B0) (.int .i64 r10.1.2.1)).new w6.heap.size 2 (Nat.ne_of_lt y7_B0) (.int .i64 r10.1.2.2)) (fun hHeld => ?_)
          clear hK K c6_B2_0 c6_B2_1 c6_B2_2 g6_B2_0 g6_B2_1 g6_B2_2
          refine wpAnyH_done (by kernel_rfl) ?_ _
          clear hHeld
          refine put_cont hKK1 ?_
          exact cont1 _ _ _ _ _ _ _ _ _ _ _ _ _ _ _ _ _ _ _ _ _ _ _ _ _ _ _ _ _ _ _ _ _ _ _ _ _ _ _ _ w6.heap.size r4 r5 r6 r7 r8 r9 r10 E4 E5 E6 E7 E8 E9 E10 (((K10.new _ _ (by omega) _).new _ _ (by omega) _).new _ _ (by omega) _) (((f10.new w6.heap.size 0 (Nat.ne_of_lt y7_BF) (.int .i64 r10.1.1)).new w6.heap.size 1 (Nat.ne_of_lt y7_BF) (.int .i64 r10.1.2.1)).new w6.heap.size 2 (Nat.ne_of_lt y7_BF) (.int .i64 r10.1.2.2)) (((G0_10.new w6.heap.size 0 (Nat.ne_of_lt y7_G0) (.int .i64 r10.1.1)).new w6.heap.size 1 (Nat.ne_of_lt y7_G0) (.int .i64 r10.1.2.1)).new w6.heap.size 2 (Nat.ne_of_lt y7_G0) (.int .i64 r10.1.2.2)) (((G1_10.new w6.heap.size 0 (Nat.ne_of_lt y7_G1) (.int .i64 r10.1.1)).new w6.heap.size 1 (Nat.ne_of_lt y7_G1) (.int .i64 r10.1.2.1)).new w6.heap.size 2 (Nat.ne_of_lt y7_G1) (.int .i64 r10.1.2.2)) (((B0_10.new w6.heap.size 0 (Nat.ne_of_lt y7_B0) (.int .i64 r10.1.1)).new w6.heap.size 1 (Nat.ne_of_lt y7_B0) (.int .i64 r10.1.2.1)).new w6.heap.size 2 (Nat.ne_of_lt y7_B0) (.int .i64 r10.1.2.2)) (((B1_10.new w6.heap.size 0 (Nat.ne_of_lt y7_B1) (.int .i64 r10.1.1)).new w6.heap.size 1 (Nat.ne_of_lt y7_B1) (.int .i64 r10.1.2.1)).new w6.heap.size 2 (Nat.ne_of_lt y7_B1) (.int .i64 r10.1.2.2)) (((B2_10.put 0 (of_decide_eq_true rfl) (.int .i64 r10.1.1) [.int .i64 r10.1.1, .int .i64 0, .int .i64 0] rfl).put 1 (of_decide_eq_true rfl) (.int .i64 r10.1.2.1) [.int .i64 r10.1.1, .int .i64 r10.1.2.1, .int .i64 0] rfl).put 2 (of_decide_eq_true rfl) (.int .i64 r10.1.2.2) [.int .i64 r10.1.1, .int .i64 r10.1.2.1, .int .i64 r10.1.2.2] rfl) (by omega) y7_BF y7_G0 y7_G1 y7_B0 y7_B1
      · have y8_BF : b < w5.heap.size := f5.lies
        have y8_G0 : 0 < w5.heap.size := G0_5.lies
        have y8_G1 : 1 < w5.heap.size := G1_5.lies
        have y8_B0 : w.heap.size < w5.heap.size := B0_5.lies
        have y8_B1 : w.heap.size + 1 < w5.heap.size := B1_5.lies
        go_simp
        clear hHeld
        refine hK.out _ _ (B0_5.alloc _) (fun hHeld => ?_)
        clear hK K
        refine call_at (i := 12) (by kernel_rfl) rfl (fun K hK => ?_)
        go_simp
        refine (Add_any b r5.2 r4.1 r5.1 _ (f5.alloc _)).mono ?_
        rintro e w6 ⟨rfl, f6, k6⟩
        generalize e6 : addS r5.2 r4.1 r5.1 = r6 at f6 ⊢
        have E6 : Hid _ := e6
        clear e6
        have K6 : Kept b w w6 := Kept.trans (K5.al _) k6
        have G0_6 := (G0_5.alloc _).kept k6 (by omega)
        have G1_6 := (G1_5.alloc _).kept k6 (by omega)
        have B0_6 := (B0_5.alloc _).kept k6 (Nat.ne_of_gt y1_BF)
        have B1_6 := (B1_5.alloc _).kept k6 (Nat.ne_of_gt y2_BF)
        have B2_6 := (Arr_at _ _ [.int .i64 0, .int .i64 0, .int .i64 0] _ (by simp)).kept k6 (Nat.ne_of_gt y8_BF)
        have z6 := B2_6.lies
        clear hHeld
        refine hK.out _ _ B0_6 (fun hHeld => ?_)
        clear hK K K5 f5 G0_5 G1_5 B0_5 B1_5 k6
        refine call_at (i := 18) (by kernel_rfl) rfl (fun K hK => ?_)
        go_simp
        refine (Mul_any b r6.2 p.2.1 r2.1 _ f6).mono ?_
        rintro e w7 ⟨rfl, f7, k7⟩
        generalize e7 : mulS r6.2 p.2.1 r2.1 = r7 at f7 ⊢
        have E7 : Hid _ := e7
        clear e7
        have K7 : Kept b w w7 := Kept.trans K6 k7
        have G0_7 := G0_6.kept k7 (by omega)
        have G1_7 := G1_6.kept k7 (by omega)
        have B0_7 := B0_6.kept k7 (Nat.ne_of_gt y1_BF)
        have B1_7 := B1_6.kept k7 (Nat.ne_of_gt y2_BF)
        have B2_7 := B2_6.kept k7 (Nat.ne_of_gt y8_BF)
        have z7 := B2_7.lies
        clear hHeld
        refine hK.out _ _ B0_7 (fun hHeld => ?_)
        clear hK K K6 f6 G0_6 G1_6 B0_6 B1_6 B2_6 k7
        refine call_at (i := 23) (by kernel_rfl) rfl (fun K hK => ?_)
        go_simp
        refine (Mul_any b r7.2 p.1 r3.1 _ f7).mono ?_
        rintro e w8 ⟨rfl, f8, k8⟩
        generalize e8 : mulS r7.2 p.1 r3.1 = r8 at f8 ⊢
        have E8 : Hid _ := e8
        clear e8
        have K8 : Kept b w w8 := Kept.trans K7 k8
        have G0_8 := G0_7.kept k8 (by omega)
        have G1_8 := G1_7.kept k8 (by omega)
        have B0_8 := B0_7.kept k8 (Nat.ne_of_gt y1_BF)
        have B1_8 := B1_7.kept k8 (Nat.ne_of_gt y2_BF)
        have B2_8 := B2_7.kept k8 (Nat.ne_of_gt y8_BF)
        have z8 := B2_8.lies
        clear hHeld
        refine hK.out _ _ B0_8 (fun hHeld => ?_)
        clear hK K K7 f7 G0_7 G1_7 B0_7 B1_7 B2_7 k8
        refine call_at (i := 24) (by kernel_rfl) rfl (fun K hK => ?_)
        go_simp
        refine (Sub_any b r8.2 r7.1 r8.1 _ f8).mono ?_
        rintro e w9 ⟨rfl, f9, k9⟩
        generalize e9 : subS r8.2 r7.1 r8.1 = r9 at f9 ⊢
        have E9 : Hid _ := e9
        clear e9
        have K9 : Kept b w w9 := Kept.trans K8 k9
        have G0_9 := G0_8.kept k9 (by omega)
        have G1_9 := G1_8.kept k9 (by omega)
        have B0_9 := B0_8.kept k9 (Nat.ne_of_gt y1_BF)
        have B1_9 := B1_8.kept k9 (Nat.ne_of_gt y2_BF)
        have B2_9 := B2_8.kept k9 (Nat.ne_of_gt y8_BF)
        have z9 := B2_9.lies
        clear hHeld
        refine hK.out _ _ B0_9 (fun hHeld => ?_)
        clear hK K K8 f8 G0_8 G1_8 B0_8 B1_8 B2_8 k9
        refine take_at (i := 27) (v := ?v48) rfl (by kernel_rfl) (by kernel_rfl) (by kernel_rfl) (fun _ _ _ h => h) (Or.inl ⟨by rfl, ?y48⟩) hHeld ?t48
        case y48 => (intro wx hSw; go_simp <;> with_reducible rfl)
        simp only [Act.put, List.setIfInBounds_toArray, List.set_cons_zero, List.set_cons_succ]
        refine call_at (i := 29) (by kernel_rfl) rfl (fun K hK => ?_)
        go_simp
        refine (earth_any b r9.2 (r6.1, r9.1, p.2.2) t _ f9 G0_9 G1_9 (by omega)).mono ?_
        rintro e w10 ⟨rfl, f10, k10⟩
        generalize e10 : earS r9.2 (r6.1, r9.1, p.2.2) t = r10 at f10 ⊢
        have E10 : Hid _ := e10
        clear e10
        have K10 : Kept b w w10 := Kept.trans K9 k10
        have G0_10 := G0_9.kept k10 (by omega)
        have G1_10 := G1_9.kept k10 (by omega)
        have B0_10 := B0_9.kept k10 (Nat.ne_of_gt y1_BF)
        have B1_10 := B1_9.kept k10 (Nat.ne_of_gt y2_BF)
        have B2_10 := B2_9.kept k10 (Nat.ne_of_gt y8_BF)
        have z10 := B2_10.lies
        clear hHeld
        refine hK.out _ _ B0_10 (fun hHeld => ?_)
        clear hK K K9 f9 G0_9 G1_9 B0_9 B1_9 B2_9 k10
        refine call_at (i := 31) (by kernel_rfl) rfl (fun K hK => ?_)
        have c6_B2_0 : w10.cell? ⟨w5.heap.size, 0, none⟩ = some (.int .i64 0) := B2_10.c 0 (of_decide_eq_true rfl)
        have c6_B2_1 : w10.cell? ⟨w5.heap.size, 1, none⟩ = some (.int .i64 0) := B2_10.c 1 (of_decide_eq_true rfl)
        have c6_B2_2 : w10.cell? ⟨w5.heap.size, 2, none⟩ = some (.int .i64 0) := B2_10.c 2 (of_decide_eq_true rfl)
        have g6_B2_0 := B2_10.f 0 (of_decide_eq_true rfl)
        have g6_B2_1 := B2_10.f 1 (of_decide_eq_true rfl)
        have g6_B2_2 := B2_10.f 2 (of_decide_eq_true rfl)
        go_simp
        clear hHeld
        refine hK.out _ _ (((B0_10.new w5.heap.size 0 (Nat.ne_of_lt y8_B0) (.int .i64 r10.1.1)).new w5.heap.size 1 (Nat.ne_of_lt y8_B0) (.int .i64 r10.1.2.1)).new w5.heap.size 2 (Nat.ne_of_lt y8_B0) (.int .i64 r10.1.2.2)) (fun hHeld => ?_)
        clear hK K c6_B2_0 c6_B2_1 c6_B2_2 g6_B2_0 g6_B2_1 g6_B2_2
        refine wpAnyH_done (by kernel_rfl) ?_ _
        clear hHeld
        refine put_cont hKK1 ?_
        exact cont1 _ _ _ _ _ _ _ _ _ _ _ _ _ _ _ _ _ _ _ _ _ _ _ _ _ _ _ _ _ _ _ _ _ _ _ _ _ _ _ _ w5.heap.size r4 r5 r6 r7 r8 r9 r10 E4 E5 E6 E7 E8 E9 E10 (((K10.new _ _ (by omega) _).new _ _ (by omega) _).new _ _ (by omega) _) (((f10.new w5.heap.size 0 (Nat.ne_of_lt y8_BF) (.int .i64 r10.1.1)).new w5.heap.size 1 (Nat.ne_of_lt y8_BF) (.int .i64 r10.1.2.1)).new w5.heap.size 2 (Nat.ne_of_lt y8_BF) (.int .i64 r10.1.2.2)) (((G0_10.new w5.heap.size 0 (Nat.ne_of_lt y8_G0) (.int .i64 r10.1.1)).new w5.heap.size 1 (Nat.ne_of_lt y8_G0) (.int .i64 r10.1.2.1)).new w5.heap.size 2 (Nat.ne_of_lt y8_G0) (.int .i64 r10.1.2.2)) (((G1_10.new w5.heap.size 0 (Nat.ne_of_lt y8_G1) (.int .i64 r10.1.1)).new w5.heap.size 1 (Nat.ne_of_lt y8_G1) (.int .i64 r10.1.2.1)).new w5.heap.size 2 (Nat.ne_of_lt y8_G1) (.int .i64 r10.1.2.2)) (((B0_10.new w5.heap.size 0 (Nat.ne_of_lt y8_B0) (.int .i64 r10.1.1)).new w5.heap.size 1 (Nat.ne_of_lt y8_B0) (.int .i64 r10.1.2.1)).new w5.heap.size 2 (Nat.ne_of_lt y8_B0) (.int .i64 r10.1.2.2)) (((B1_10.new w5.heap.size 0 (Nat.ne_of_lt y8_B1) (.int .i64 r10.1.1)).new w5.heap.size 1 (Nat.ne_of_lt y8_B1) (.int .i64 r10.1.2.1)).new w5.heap.size 2 (Nat.ne_of_lt y8_B1) (.int .i64 r10.1.2.2)) (((B2_10.put 0 (of_decide_eq_true rfl) (.int .i64 r10.1.1) [.int .i64 r10.1.1, .int .i64 0, .int .i64 0] rfl).put 1 (of_decide_eq_true rfl) (.int .i64 r10.1.2.1) [.int .i64 r10.1.1, .int .i64 r10.1.2.1, .int .i64 0] rfl).put 2 (of_decide_eq_true rfl) (.int .i64 r10.1.2.2) [.int .i64 r10.1.1, .int .i64 r10.1.2.1, .int .i64 r10.1.2.2] rfl) (by omega) y8_BF y8_G0 y8_G1 y8_B0 y8_B1
    · have y9_BF : b < w4.heap.size := f4.lies
      have y9_G0 : 0 < w4.heap.size := G0_4.lies
      have y9_G1 : 1 < w4.heap.size := G1_4.lies
      have y9_B0 : w.heap.size < w4.heap.size := B0_4.lies
      have y9_B1 : w.heap.size + 1 < w4.heap.size := B1_4.lies
      go_simp
      clear hHeld
      refine hK.out _ _ (B0_4.alloc _) (fun hHeld => ?_)
      clear hK K
      refine call_at (i := 11) (by kernel_rfl) rfl (fun K hK => ?_)
      go_simp
      refine (Mul_any b r4.2 p.2.1 r3.1 _ (f4.alloc _)).mono ?_
      rintro e w5 ⟨rfl, f5, k5⟩
      generalize e5 : mulS r4.2 p.2.1 r3.1 = r5 at f5 ⊢
      have E5 : Hid _ := e5
      clear e5
      have K5 : Kept b w w5 := Kept.trans (K4.al _) k5
      have G0_5 := (G0_4.alloc _).kept k5 (by omega)
      have G1_5 := (G1_4.alloc _).kept k5 (by omega)
      have B0_5 := (B0_4.alloc _).kept k5 (Nat.ne_of_gt y1_BF)
      have B1_5 := (B1_4.alloc _).kept k5 (Nat.ne_of_gt y2_BF)
      have B2_5 := (Arr_at _ _ [.int .i64 0, .int .i64 0, .int .i64 0] _ (by simp)).kept k5 (Nat.ne_of_gt y9_BF)
      have z5 := B2_5.lies
      clear hHeld
      refine hK.out _ _ B0_5 (fun hHeld => ?_)
      clear hK K K4 f4 G0_4 G1_4 B0_4 B1_4 k5
      refine call_at (i := 12) (by kernel_rfl) rfl (fun K hK => ?_)
      go_simp
      refine (Add_any b r5.2 r4.1 r5.1 _ f5).mono ?_
      rintro e w6 ⟨rfl, f6, k6⟩
      generalize e6 : addS r5.2 r4.1 r5.1 = r6 at f6 ⊢
      have E6 : Hid _ := e6
      clear e6
      have K6 : Kept b w w6 := Kept.trans K5 k6
      have G0_6 := G0_5.kept k6 (by omega)
      have G1_6 := G1_5.kept k6 (by omega)
      have B0_6 := B0_5.kept k6 (Nat.ne_of_gt y1_BF)
      have B1_6 := B1_5.kept k6 (Nat.ne_of_gt y2_BF)
      have B2_6 := B2_5.kept k6 (Nat.ne_of_gt y9_BF)
      have z6 := B2_6.lies
      clear hHeld
      refine hK.out _ _ B0_6 (fun hHeld => ?_)
      clear hK K K5 f5 G0_5 G1_5 B0_5 B1_5 B2_5 k6
      refine call_at (i := 18) (by kernel_rfl) rfl (fun K hK => ?_)
      go_simp
      refine (Mul_any b r6.2 p.2.1 r2.1 _ f6).mono ?_
      rintro e w7 ⟨rfl, f7, k7⟩
      generalize e7 : mulS r6.2 p.2.1 r2.1 = r7 at f7 ⊢
      have E7 : Hid _ := e7
      clear e7
      have K7 : Kept b w w7 := Kept.trans K6 k7
      have G0_7 := G0_6.kept k7 (by omega)
      have G1_7 := G1_6.kept k7 (by omega)
      have B0_7 := B0_6.kept k7 (Nat.ne_of_gt y1_BF)
      have B1_7 := B1_6.kept k7 (Nat.ne_of_gt y2_BF)
      have B2_7 := B2_6.kept k7 (Nat.ne_of_gt y9_BF)
      have z7 := B2_7.lies
      clear hHeld
      refine hK.out _ _ B0_7 (fun hHeld => ?_)
      clear hK K K6 f6 G0_6 G1_6 B0_6 B1_6 B2_6 k7
      refine call_at (i := 23) (by kernel_rfl) rfl (fun K hK => ?_)
      go_simp
      refine (Mul_any b r7.2 p.1 r3.1 _ f7).mono ?_
      rintro e w8 ⟨rfl, f8, k8⟩
      generalize e8 : mulS r7.2 p.1 r3.1 = r8 at f8 ⊢
      have E8 : Hid _ := e8
      clear e8
      have K8 : Kept b w w8 := Kept.trans K7 k8
      have G0_8 := G0_7.kept k8 (by omega)
      have G1_8 := G1_7.kept k8 (by omega)
      have B0_8 := B0_7.kept k8 (Nat.ne_of_gt y1_BF)
      have B1_8 := B1_7.kept k8 (Nat.ne_of_gt y2_BF)
      have B2_8 := B2_7.kept k8 (Nat.ne_of_gt y9_BF)
      have z8 := B2_8.lies
      clear hHeld
      refine hK.out _ _ B0_8 (fun hHeld => ?_)
      clear hK K K7 f7 G0_7 G1_7 B0_7 B1_7 B2_7 k8
      refine call_at (i := 24) (by kernel_rfl) rfl (fun K hK => ?_)
      go_simp
      refine (Sub_any b r8.2 r7.1 r8.1 _ f8).mono ?_
      rintro e w9 ⟨rfl, f9, k9⟩
      generalize e9 : subS r8.2 r7.1 r8.1 = r9 at f9 ⊢
      have E9 : Hid _ := e9
      clear e9
      have K9 : Kept b w w9 := Kept.trans K8 k9
      have G0_9 := G0_8.kept k9 (by omega)
      have G1_9 := G1_8.kept k9 (by omega)
      have B0_9 := B0_8.kept k9 (Nat.ne_of_gt y1_BF)
      have B1_9 := B1_8.kept k9 (Nat.ne_of_gt y2_BF)
      have B2_9 := B2_8.kept k9 (Nat.ne_of_gt y9_BF)
      have z9 := B2_9.lies
      clear hHeld
      refine hK.out _ _ B0_9 (fun hHeld => ?_)
      clear hK K K8 f8 G0_8 G1_8 B0_8 B1_8 B2_8 k9
      refine take_at (i := 27) (v := ?v49) rfl (by kernel_rfl) (by kernel_rfl) (by kernel_rfl) (fun _ _ _ h => h) (Or.inl ⟨by rfl, ?y49⟩) hHeld ?t49
      case y49 => (intro wx hSw; go_simp <;> with_reducible rfl)
      simp only [Act.put, List.setIfInBounds_toArray, List.set_cons_zero, List.set_cons_succ]
      refine call_at (i := 29) (by kernel_rfl) rfl (fun K hK => ?_)
      go_simp
      refine (earth_any b r9.2 (r6.1, r9.1, p.2.2) t _ f9 G0_9 G1_9 (by omega)).mono ?_
      rintro e w10 ⟨rfl, f10, k10⟩
      generalize e10 : earS r9.2 (r6.1, r9.1, p.2.2) t = r10 at f10 ⊢
      have E10 : Hid _ := e10
      clear e10
      have K10 : Kept b w w10 := Kept.trans K9 k10
      have G0_10 := G0_9.kept k10 (by omega)
      have G1_10 := G1_9.kept k10 (by omega)
      have B0_10 := B0_9.kept k10 (Nat.ne_of_gt y1_BF)
      have B1_10 := B1_9.kept k10 (Nat.ne_of_gt y2_BF)
      have B2_10 := B2_9.kept k10 (Nat.ne_of_gt y9_BF)
      have z10 := B2_10.lies
      clear hHeld
      refine hK.out _ _ B0_10 (fun hHeld => ?_)
      clear hK K K9 f9 G0_9 G1_9 B0_9 B1_9 B2_9 k10
      refine call_at (i := 31) (by kernel_rfl) rfl (fun K hK => ?_)
      have c6_B2_0 : w10.cell? ⟨w4.heap.size, 0, none⟩ = some (.int .i64 0) := B2_10.c 0 (of_decide_eq_true rfl)
      have c6_B2_1 : w10.cell? ⟨w4.heap.size, 1, none⟩ = some (.int .i64 0) := B2_10.c 1 (of_decide_eq_true rfl)
      have c6_B2_2 : w10.cell? ⟨w4.heap.size, 2, none⟩ = some (.int .i64 0) := B2_10.c 2 (of_decide_eq_true rfl)
      have g6_B2_0 := B2_10.f 0 (of_decide_eq_true rfl)
      have g6_B2_1 := B2_10.f 1 (of_decide_eq_true rfl)
      have g6_B2_2 := B2_10.f 2 (of_decide_eq_true rfl)
      go_simp
      clear hHeld
      refine hK.out _ _ (((B0_10.new w4.heap.size 0 (Nat.ne_of_lt y9_B0) (.int .i64 r10.1.1)).new w4.heap.size 1 (Nat.ne_of_lt y9_B0) (.int .i64 r10.1.2.1)).new w4.heap.size 2 (Nat.ne_of_lt y9_B0) (.int .i64 r10.1.2.2)) (fun hHeld => ?_)
      clear hK K c6_B2_0 c6_B2_1 c6_B2_2 g6_B2_0 g6_B2_1 g6_B2_2
      refine wpAnyH_done (by kernel_rfl) ?_ _
      clear hHeld
      refine put_cont hKK1 ?_
      exact cont1 _ _ _ _ _ _ _ _ _ _ _ _ _ _ _ _ _ _ _ _ _ _ _ _ _ _ _ _ _ _ _ _ _ _ _ _ _ _ _ _ w4.heap.size r4 r5 r6 r7 r8 r9 r10 E4 E5 E6 E7 E8 E9 E10 (((K10.new _ _ (by omega) _).new _ _ (by omega) _).new _ _ (by omega) _) (((f10.new w4.heap.size 0 (Nat.ne_of_lt y9_BF) (.int .i64 r10.1.1)).new w4.heap.size 1 (Nat.ne_of_lt y9_BF) (.int .i64 r10.1.2.1)).new w4.heap.size 2 (Nat.ne_of_lt y9_BF) (.int .i64 r10.1.2.2)) (((G0_10.new w4.heap.size 0 (Nat.ne_of_lt y9_G0) (.int .i64 r10.1.1)).new w4.heap.size 1 (Nat.ne_of_lt y9_G0) (.int .i64 r10.1.2.1)).new w4.heap.size 2 (Nat.ne_of_lt y9_G0) (.int .i64 r10.1.2.2)) (((G1_10.new w4.heap.size 0 (Nat.ne_of_lt y9_G1) (.int .i64 r10.1.1)).new w4.heap.size 1 (Nat.ne_of_lt y9_G1) (.int .i64 r10.1.2.1)).new w4.heap.size 2 (Nat.ne_of_lt y9_G1) (.int .i64 r10.1.2.2)) (((B0_10.new w4.heap.size 0 (Nat.ne_of_lt y9_B0) (.int .i64 r10.1.1)).new w4.heap.size 1 (Nat.ne_of_lt y9_B0) (.int .i64 r10.1.2.1)).new w4.heap.size 2 (Nat.ne_of_lt y9_B0) (.int .i64 r10.1.2.2)) (((B1_10.new w4.heap.size 0 (Nat.ne_of_lt y9_B1) (.int .i64 r10.1.1)).new w4.heap.size 1 (Nat.ne_of_lt y9_B1) (.int .i64 r10.1.2.1)).new w4.heap.size 2 (Nat.ne_of_lt y9_B1) (.int .i64 r10.1.2.2)) (((B2_10.put 0 (of_decide_eq_true rfl) (.int .i64 r10.1.1) [.int .i64 r10.1.1, .int .i64 0, .int .i64 0] rfl).put 1 (of_decide_eq_true rfl) (.int .i64 r10.1.2.1) [.int .i64 r10.1.1, .int .i64 r10.1.2.1, .int .i64 0] rfl).put 2 (of_decide_eq_true rfl) (.int .i64 r10.1.2.2) [.int .i64 r10.1.1, .int .i64 r10.1.2.1, .int .i64 r10.1.2.2] rfl) (by omega) y9_BF y9_G0 y9_G1 y9_B0 y9_B1
  · have y10_BF : b < w3.heap.size := f3.lies
    have y10_G0 : 0 < w3.heap.size := G0_3.lies
    have y10_G1 : 1 < w3.heap.size := G1_3.lies
    have y10_B0 : w.heap.size < w3.heap.size := B0_3.lies
    have y10_B1 : w.heap.size + 1 < w3.heap.size := B1_3.lies
    go_simp
    clear hHeld
    refine hK.out _ _ (B0_3.alloc _).drew (fun hHeld => ?_)
    clear hK K
    refine call_at (i := 6) (by kernel_rfl) rfl (fun K hK => ?_)
    go_simp
    refine (Mul_any b r3.2 p.1 r2.1 _ (f3.alloc _).drew).mono ?_
    rintro e w4 ⟨rfl, f4, k4⟩
    generalize e4 : mulS r3.2 p.1 r2.1 = r4 at f4 ⊢
    have E4 : Hid _ := e4
    clear e4
    have K4 : Kept b w w4 := Kept.trans (K3.al _).drew k4
    have G0_4 := (G0_3.alloc _).drew.kept k4 (by omega)
    have G1_4 := (G1_3.alloc _).drew.kept k4 (by omega)
    have B0_4 := (B0_3.alloc _).drew.kept k4 (Nat.ne_of_gt y1_BF)
    have B1_4 := (B1_3.alloc _).drew.kept k4 (Nat.ne_of_gt y2_BF)
    have B2_4 := (Arr_at _ _ [.int .i64 0, .int .i64 0, .int .i64 0] _ (by simp)).drew.kept k4 (Nat.ne_of_gt y10_BF)
    have z4 := B2_4.lies
    clear hHeld
    refine hK.out _ _ B0_4 (fun hHeld => ?_)
    clear hK K K3 f3 G0_3 G1_3 B0_3 B1_3 k4
    refine call_at (i := 11) (by kernel_rfl) rfl (fun K hK => ?_)
    go_simp
    refine (Mul_any b r4.2 p.2.1 r3.1 _ f4).mono ?_
    rintro e w5 ⟨rfl, f5, k5⟩
    generalize e5 : mulS r4.2 p.2.1 r3.1 = r5 at f5 ⊢
    have E5 : Hid _ := e5
    clear e5
    have K5 : Kept b w w5 := Kept.trans K4 k5
    have G0_5 := G0_4.kept k5 (by omega)
    have G1_5 := G1_4.kept k5 (by omega)
    have B0_5 := B0_4.kept k5 (Nat.ne_of_gt y1_BF)
    have B1_5 := B1_4.kept k5 (Nat.ne_of_gt y2_BF)
    have B2_5 := B2_4.kept k5 (Nat.ne_of_gt y10_BF)
    have z5 := B2_5.lies
    clear hHeld
    refine hK.out _ _ B0_5 (fun hHeld => ?_)
    clear hK K K4 f4 G0_4 G1_4 B0_4 B1_4 B2_4 k5
    refine call_at (i := 12) (by kernel_rfl) rfl (fun K hK => ?_)
    go_simp
    refine (Add_any b r5.2 r4.1 r5.1 _ f5).mono ?_
    rintro e w6 ⟨rfl, f6, k6⟩
    generalize e6 : addS r5.2 r4.1 r5.1 = r6 at f6 ⊢
    have E6 : Hid _ := e6
    clear e6
    have K6 : Kept b w w6 := Kept.trans K5 k6
    have G0_6 := G0_5.kept k6 (by omega)
    have G1_6 := G1_5.kept k6 (by omega)
    have B0_6 := B0_5.kept k6 (Nat.ne_of_gt y1_BF)
    have B1_6 := B1_5.kept k6 (Nat.ne_of_gt y2_BF)
    have B2_6 := B2_5.kept k6 (Nat.ne_of_gt y10_BF)
    have z6 := B2_6.lies
    clear hHeld
    refine hK.out _ _ B0_6 (fun hHeld => ?_)
    clear hK K K5 f5 G0_5 G1_5 B0_5 B1_5 B2_5 k6
    refine call_at (i := 18) (by kernel_rfl) rfl (fun K hK => ?_)
    go_simp
    refine (Mul_any b r6.2 p.2.1 r2.1 _ f6).mono ?_
    rintro e w7 ⟨rfl, f7, k7⟩
    generalize e7 : mulS r6.2 p.2.1 r2.1 = r7 at f7 ⊢
    have E7 : Hid _ := e7
    clear e7
    have K7 : Kept b w w7 := Kept.trans K6 k7
    have G0_7 := G0_6.kept k7 (by omega)
    have G1_7 := G1_6.kept k7 (by omega)
    have B0_7 := B0_6.kept k7 (Nat.ne_of_gt y1_BF)
    have B1_7 := B1_6.kept k7 (Nat.ne_of_gt y2_BF)
    have B2_7 := B2_6.kept k7 (Nat.ne_of_gt y10_BF)
    have z7 := B2_7.lies
    clear hHeld
    refine hK.out _ _ B0_7 (fun hHeld => ?_)
    clear hK K K6 f6 G0_6 G1_6 B0_6 B1_6 B2_6 k7
    refine call_at (i := 23) (by kernel_rfl) rfl (fun K hK => ?_)
    go_simp
    refine (Mul_any b r7.2 p.1 r3.1 _ f7).mono ?_
    rintro e w8 ⟨rfl, f8, k8⟩
    generalize e8 : mulS r7.2 p.1 r3.1 = r8 at f8 ⊢
    have E8 : Hid _ := e8
    clear e8
    have K8 : Kept b w w8 := Kept.trans K7 k8
    have G0_8 := G0_7.kept k8 (by omega)
    have G1_8 := G1_7.kept k8 (by omega)
    have B0_8 := B0_7.kept k8 (Nat.ne_of_gt y1_BF)
    have B1_8 := B1_7.kept k8 (Nat.ne_of_gt y2_BF)
    have B2_8 := B2_7.kept k8 (Nat.ne_of_gt y10_BF)
    have z8 := B2_8.lies
    clear hHeld
    refine hK.out _ _ B0_8 (fun hHeld => ?_)
    clear hK K K7 f7 G0_7 G1_7 B0_7 B1_7 B2_7 k8
    refine call_at (i := 24) (by kernel_rfl) rfl (fun K hK => ?_)
    go_simp
    refine (Sub_any b r8.2 r7.1 r8.1 _ f8).mono ?_
    rintro e w9 ⟨rfl, f9, k9⟩
    generalize e9 : subS r8.2 r7.1 r8.1 = r9 at f9 ⊢
    have E9 : Hid _ := e9
    clear e9
    have K9 : Kept b w w9 := Kept.trans K8 k9
    have G0_9 := G0_8.kept k9 (by omega)
    have G1_9 := G1_8.kept k9 (by omega)
    have B0_9 := B0_8.kept k9 (Nat.ne_of_gt y1_BF)
    have B1_9 := B1_8.kept k9 (Nat.ne_of_gt y2_BF)
    have B2_9 := B2_8.kept k9 (Nat.ne_of_gt y10_BF)
    have z9 := B2_9.lies
    clear hHeld
    refine hK.out _ _ B0_9 (fun hHeld => ?_)
    clear hK K K8 f8 G0_8 G1_8 B0_8 B1_8 B2_8 k9
    refine take_at (i := 27) (v := ?v50) rfl (by kernel_rfl) (by kernel_rfl) (by kernel_rfl) (fun _ _ _ h => h) (Or.inl ⟨by rfl, ?y50⟩) hHeld ?t50
    case y50 => (intro wx hSw; go_simp <;> with_reducible rfl)
    simp only [Act.put, List.setIfInBounds_toArray, List.set_cons_zero, List.set_cons_succ]
    refine call_at (i := 29) (by kernel_rfl) rfl (fun K hK => ?_)
    go_simp
    refine (earth_any b r9.2 (r6.1, r9.1, p.2.2) t _ f9 G0_9 G1_9 (by omega)).mono ?_
    rintro e w10 ⟨rfl, f10, k10⟩
    generalize e10 : earS r9.2 (r6.1, r9.1, p.2.2) t = r10 at f10 ⊢
    have E10 : Hid _ := e10
    clear e10
    have K10 : Kept b w w10 := Kept.trans K9 k10
    have G0_10 := G0_9.kept k10 (by omega)
    have G1_10 := G1_9.kept k10 (by omega)
    have B0_10 := B0_9.kept k10 (Nat.ne_of_gt y1_BF)
    have B1_10 := B1_9.kept k10 (Nat.ne_of_gt y2_BF)
    have B2_10 := B2_9.kept k10 (Nat.ne_of_gt y10_BF)
    have z10 := B2_10.lies
    clear hHeld
    refine hK.out _ _ B0_10 (fun hHeld => ?_)
    clear hK K K9 f9 G0_9 G1_9 B0_9 B1_9 B2_9 k10
    refine call_at (i := 31) (by kernel_rfl) rfl (fun K hK => ?_)
    have c6_B2_0 : w10.cell? ⟨w3.heap.size, 0, none⟩ = some (.int .i64 0) := B2_10.c 0 (of_decide_eq_true rfl)
    have c6_B2_1 : w10.cell? ⟨w3.heap.size, 1, none⟩ = some (.int .i64 0) := B2_10.c 1 (of_decide_eq_true rfl)
    have c6_B2_2 : w10.cell? ⟨w3.heap.size, 2, none⟩ = some (.int .i64 0) := B2_10.c 2 (of_decide_eq_true rfl)
    have g6_B2_0 := B2_10.f 0 (of_decide_eq_true rfl)
    have g6_B2_1 := B2_10.f 1 (of_decide_eq_true rfl)
    have g6_B2_2 := B2_10.f 2 (of_decide_eq_true rfl)
    go_simp
    clear hHeld
    refine hK.out _ _ (((B0_10.new w3.heap.size 0 (Nat.ne_of_lt y10_B0) (.int .i64 r10.1.1)).new w3.heap.size 1 (Nat.ne_of_lt y10_B0) (.int .i64 r10.1.2.1)).new w3.heap.size 2 (Nat.ne_of_lt y10_B0) (.int .i64 r10.1.2.2)) (fun hHeld => ?_)
    clear hK K c6_B2_0 c6_B2_1 c6_B2_2 g6_B2_0 g6_B2_1 g6_B2_2
    refine wpAnyH_done (by kernel_rfl) ?_ _
    clear hHeld
    refine put_cont hKK1 ?_
    exact cont1 _ _ _ _ _ _ _ _ _ _ _ _ _ _ _ _ _ _ _ _ _ _ _ _ _ _ _ _ _ _ _ _ _ _ _ _ _ _ _ _ w3.heap.size r4 r5 r6 r7 r8 r9 r10 E4 E5 E6 E7 E8 E9 E10 (((K10.new _ _ (by omega) _).new _ _ (by omega) _).new _ _ (by omega) _) (((f10.new w3.heap.size 0 (Nat.ne_of_lt y10_BF) (.int .i64 r10.1.1)).new w3.heap.size 1 (Nat.ne_of_lt y10_BF) (.int .i64 r10.1.2.1)).new w3.heap.size 2 (Nat.ne_of_lt y10_BF) (.int .i64 r10.1.2.2)) (((G0_10.new w3.heap.size 0 (Nat.ne_of_lt y10_G0) (.int .i64 r10.1.1)).new w3.heap.size 1 (Nat.ne_of_lt y10_G0) (.int .i64 r10.1.2.1)).new w3.heap.size 2 (Nat.ne_of_lt y10_G0) (.int .i64 r10.1.2.2)) (((G1_10.new w3.heap.size 0 (Nat.ne_of_lt y10_G1) (.int .i64 r10.1.1)).new w3.heap.size 1 (Nat.ne_of_lt y10_G1) (.int .i64 r10.1.2.1)).new w3.heap.size 2 (Nat.ne_of_lt y10_G1) (.int .i64 r10.1.2.2)) (((B0_10.new w3.heap.size 0 (Nat.ne_of_lt y10_B0) (.int .i64 r10.1.1)).new w3.heap.size 1 (Nat.ne_of_lt y10_B0) (.int .i64 r10.1.2.1)).new w3.heap.size 2 (Nat.ne_of_lt y10_B0) (.int .i64 r10.1.2.2)) (((B1_10.new w3.heap.size 0 (Nat.ne_of_lt y10_B1) (.int .i64 r10.1.1)).new w3.heap.size 1 (Nat.ne_of_lt y10_B1) (.int .i64 r10.1.2.1)).new w3.heap.size 2 (Nat.ne_of_lt y10_B1) (.int .i64 r10.1.2.2)) (((B2_10.put 0 (of_decide_eq_true rfl) (.int .i64 r10.1.1) [.int .i64 r10.1.1, .int .i64 0, .int .i64 0] rfl).put 1 (of_decide_eq_true rfl) (.int .i64 r10.1.2.1) [.int .i64 r10.1.1, .int .i64 r10.1.2.1, .int .i64 0] rfl).put 2 (of_decide_eq_true rfl) (.int .i64 r10.1.2.2) [.int .i64 r10.1.1, .int .i64 r10.1.2.1, .int .i64 r10.1.2.2] rfl) (by omega) y10_BF y10_G0 y10_G1 y10_B0 y10_B1
end Go.Proofs.YtmhcfkcpoecokaaDoor
