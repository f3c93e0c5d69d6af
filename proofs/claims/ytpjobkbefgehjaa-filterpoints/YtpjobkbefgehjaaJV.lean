/-
  Walks of package alidaderef14, for the seat Ytpjobkbefgehjaa. (Made by mkref14.py.)
  Walks of package alidaderef14, for the seat Ytpjobkbefgehjaa. (Made by mkref14.py.)
-/
import Derived.Test.YtpjobkbefgehjaaJS
import Derived.Test.YtpjobkbefgehjaaJC
import Derived.Test.YtpjobkbefgehjaaJT
import Derived.Test.YtpjobkbefgehjaaJU
import Derived.Test.YtpjobkbefgehjaaJA
import Derived.Handy
import Derived.Deep.RegionHeld3
namespace Go.Proofs.Ytpjobkbefgehjaa
open Go.RowKit

set_option maxRecDepth 100000 in
set_option maxHeartbeats 20000000 in
theorem fSpread_any (b : Nat) (bad : Bool) (g : Nat → Int) (w : World) (hw : Fl b bad w) :
    Calls Try.prog 12 #[.pointer (some ⟨b, 0, none⟩), .agg (row 43 g).toArray] w fun e w' => e = .returned (.int .i64 ((fSpreadS bad g).1)) ∧ Fl b (fSpreadS bad g).2 w' ∧ Kept b w w' := by
  have hl := hw.lies
  go_enter Try.func12, Try.ntmps12
  have y1_BF : b < w.heap.size := hw.lies
  go_wp2_with fail
  refine wp_region_held_drew (S := fun w' => Arr w.heap.size (row 43 g) w') (by kernel_rfl) (Arr_at _ _ (row 43 g) _ (by simp)).drew (fun hHeld => ?_)
  refine take_at (i := 0) (v := ?v1) rfl (by kernel_rfl) (by kernel_rfl) (by kernel_rfl) (fun _ _ _ h => h) (Or.inl ⟨by rfl, ?y1⟩) hHeld ?t1
  case y1 => (intro wx hSw; go_simp <;> with_reducible rfl)
  simp only [Act.put, List.setIfInBounds_toArray, List.set_cons_zero, List.set_cons_succ]
  refine take_at (i := 1) (v := ?v2) rfl (by kernel_rfl) (by kernel_rfl) (by kernel_rfl) (fun _ _ _ h => h) (Or.inl ⟨by rfl, ?y2⟩) hHeld ?t2
  case y2 => (intro wx hSw; go_simp <;> with_reducible rfl)
  simp only [Act.put, List.setIfInBounds_toArray, List.set_cons_zero, List.set_cons_succ]
  refine take_at (i := 2) (v := ?v3) rfl (by kernel_rfl) (by kernel_rfl) (by kernel_rfl) (fun _ _ _ h => h) (Or.inl ⟨by rfl, ?y3⟩) hHeld ?t3
  case y3 => (intro wx hSw; go_simp <;> with_reducible rfl)
  simp only [Act.put, List.setIfInBounds_toArray, List.set_cons_zero, List.set_cons_succ]
  refine take_at (i := 3) (v := ?v4) rfl (by kernel_rfl) (by kernel_rfl) (by kernel_rfl) (fun _ _ _ h => h) (Or.inl ⟨by rfl, ?y4⟩) hHeld ?t4
  case y4 => (intro wx hSw; go_simp <;> with_reducible rfl)
  simp only [Act.put, List.setIfInBounds_toArray, List.set_cons_zero, List.set_cons_succ]
  refine take_at (i := 4) (v := ?v5) rfl (by kernel_rfl) (by kernel_rfl) (by kernel_rfl) (fun _ _ _ h => h) (Or.inl ⟨by rfl, ?y5⟩) hHeld ?t5
  case y5 => (intro wx hSw; go_simp <;> with_reducible rfl)
  simp only [Act.put, List.setIfInBounds_toArray, List.set_cons_zero, List.set_cons_succ]
  refine take_at (i := 5) (v := ?v6) rfl (by kernel_rfl) (by kernel_rfl) (by kernel_rfl) (fun _ _ _ h => h) (Or.inl ⟨by rfl, ?y6⟩) hHeld ?t6
  case y6 => (intro wx hSw; have hc0 : wx.cell? ⟨w.heap.size, 7, none⟩ = some (.int .i64 (g 7)) := row_c hSw 7 (by omega); go_simp <;> with_reducible rfl)
  simp only [Act.put, List.setIfInBounds_toArray, List.set_cons_zero, List.set_cons_succ]
  refine take_at (i := 6) (v := ?v7) rfl (by kernel_rfl) (by kernel_rfl) (by kernel_rfl) (fun _ _ _ h => h) (Or.inl ⟨by rfl, ?y7⟩) hHeld ?t7
  case y7 => (intro wx hSw; go_simp <;> with_reducible rfl)
  simp only [Act.put, List.setIfInBounds_toArray, List.set_cons_zero, List.set_cons_succ]
  refine take_at (i := 7) (v := ?v8) rfl (by kernel_rfl) (by kernel_rfl) (by kernel_rfl) (fun _ _ _ h => h) (Or.inl ⟨by rfl, ?y8⟩) hHeld ?t8
  case y8 => (intro wx hSw; go_simp <;> with_reducible rfl)
  simp only [Act.put, List.setIfInBounds_toArray, List.set_cons_zero, List.set_cons_succ]
  refine take_at (i := 8) (v := ?v9) rfl (by kernel_rfl) (by kernel_rfl) (by kernel_rfl) (fun _ _ _ h => h) (Or.inl ⟨by rfl, ?y9⟩) hHeld ?t9
  case y9 => (intro wx hSw; go_simp <;> with_reducible rfl)
  simp only [Act.put, List.setIfInBounds_toArray, List.set_cons_zero, List.set_cons_succ]
  refine take_at (i := 9) (v := ?v10) rfl (by kernel_rfl) (by kernel_rfl) (by kernel_rfl) (fun _ _ _ h => h) (Or.inl ⟨by rfl, ?y10⟩) hHeld ?t10
  case y10 => (intro wx hSw; have hc0 : wx.cell? ⟨w.heap.size, 14, none⟩ = some (.int .i64 (g 14)) := row_c hSw 14 (by omega); go_simp <;> with_reducible rfl)
  simp only [Act.put, List.setIfInBounds_toArray, List.set_cons_zero, List.set_cons_succ]
  refine take_at (i := 11) (v := ?v11) rfl (by kernel_rfl) (by kernel_rfl) (by kernel_rfl) (fun _ _ _ h => h) (Or.inl ⟨by rfl, ?y11⟩) hHeld ?t11
  case y11 => (intro wx hSw; go_simp <;> with_reducible rfl)
  simp only [Act.put, List.setIfInBounds_toArray, List.set_cons_zero, List.set_cons_succ]
  refine take_at (i := 12) (v := ?v12) rfl (by kernel_rfl) (by kernel_rfl) (by kernel_rfl) (fun _ _ _ h => h) (Or.inl ⟨by rfl, ?y12⟩) hHeld ?t12
  case y12 => (intro wx hSw; go_simp <;> with_reducible rfl)
  simp only [Act.put, List.setIfInBounds_toArray, List.set_cons_zero, List.set_cons_succ]
  refine take_at (i := 13) (v := ?v13) rfl (by kernel_rfl) (by kernel_rfl) (by kernel_rfl) (fun _ _ _ h => h) (Or.inl ⟨by rfl, ?y13⟩) hHeld ?t13
  case y13 => (intro wx hSw; go_simp <;> with_reducible rfl)
  simp only [Act.put, List.setIfInBounds_toArray, List.set_cons_zero, List.set_cons_succ]
  refine take_at (i := 14) (v := ?v14) rfl (by kernel_rfl) (by kernel_rfl) (by kernel_rfl) (fun _ _ _ h => h) (Or.inl ⟨by rfl, ?y14⟩) hHeld ?t14
  case y14 => (intro wx hSw; have hc0 : wx.cell? ⟨w.heap.size, 21, none⟩ = some (.int .i64 (g 21)) := row_c hSw 21 (by omega); go_simp <;> with_reducible rfl)
  simp only [Act.put, List.setIfInBounds_toArray, List.set_cons_zero, List.set_cons_succ]
  refine call_at (i := 10) (by kernel_rfl) rfl (fun K hK => ?_)
  go_simp
  refine (rAdd_any b bad (g 7) (g 14) _ (hw.alloc _).drew).mono ?_
  rintro e w1 ⟨rfl, f1, k1⟩
  generalize e1 : addS bad (g 7) (g 14) = r1 at f1 ⊢
  have E1 : Hid _ := e1
  clear e1
  have K1 : Kept b w w1 := Kept.trans ((Kept.refl b w).al _).drew k1
  have B0_1 : Arr w.heap.size (row 43 g) w1 := (Arr_at _ _ (row 43 g) _ (by simp)).drew.kept k1 (Nat.ne_of_gt y1_BF)
  have z1 := B0_1.lies
  clear hHeld
  refine hK.out _ _ B0_1 (fun hHeld => ?_)
  clear hK K k1
  refine call_at (i := 15) (by kernel_rfl) rfl (fun K hK => ?_)
  go_simp
  refine (rAdd_any b r1.2 r1.1 (g 21) _ f1).mono ?_
  rintro e w2 ⟨rfl, f2, k2⟩
  generalize e2 : addS r1.2 r1.1 (g 21) = r2 at f2 ⊢
  have E2 : Hid _ := e2
  clear e2
  have K2 : Kept b w w2 := Kept.trans K1 k2
  have B0_2 : Arr w.heap.size (row 43 g) w2 := B0_1.kept k2 (Nat.ne_of_gt y1_BF)
  have z2 := B0_2.lies
  clear hHeld
  refine hK.out _ _ B0_2 (fun hHeld => ?_)
  clear hK K K1 f1 B0_1 k2
  refine take_at (i := 16) (v := ?v15) rfl (by kernel_rfl) (by kernel_rfl) (by kernel_rfl) (fun _ _ _ h => h) (Or.inl ⟨by rfl, ?y15⟩) hHeld ?t15
  case y15 => (intro wx hSw; go_simp <;> with_reducible rfl)
  simp only [Act.put, List.setIfInBounds_toArray, List.set_cons_zero, List.set_cons_succ]
  refine wpAnyH_done (by kernel_rfl) ?_ _
  clear hHeld
  go_wp2
  go_ret
  have hs : fSpreadS bad g = (r2.1, r2.2) := by unfold fSpreadS; simp only [E1.out, E2.out]
  rw [hs]
  exact ⟨rfl, f2, K2⟩
end Go.Proofs.Ytpjobkbefgehjaa
namespace Go.Proofs.Ytpjobkbefgehjaa
open Go.RowKit

set_option maxRecDepth 100000 in
set_option maxHeartbeats 20000000 in
theorem fPoints_any (b : Nat) (bad : Bool) (g : Nat → Int) (w : World) (hw : Fl b bad w) :
    Calls Try.prog 10 #[.pointer (some ⟨b, 0, none⟩), .agg (row 43 g).toArray] w fun e w' => e = .returned (.agg (row 78 ((fPointsS bad g).1)).toArray) ∧ Fl b (fPointsS bad g).2 w' ∧ Kept b w w' := by
  have hl := hw.lies
  go_enter Try.func10, Try.ntmps10
  have y1_BF : b < w.heap.size := hw.lies
  have y2_BF : b < w.heap.size + 1 := (Nat.lt_succ_of_lt hw.lies)
  have y2_B0 : w.heap.size < w.heap.size + 1 := (Nat.lt_succ_self _)
  go_wp2_with (refine part_load (M := 36) rfl rfl rfl ((Arr_at _ _ (row 43 g) _ (by simp)).alloc _) (by omega) (by kernel_rfl) (by rw [row_len]; kernel_rfl) ?_)
  refine (zRoot6_any b bad (fun x_ => g (7 + x_)) _ ((hw.alloc _).alloc _)).mono ?_
  rintro e w1 ⟨rfl, f1, k1⟩
  generalize e1 : zRoot6 bad (fun x_ => g (7 + x_)) = r1 at f1 ⊢
  have E1 : Hid _ := e1
  clear e1
  try dsimp only
  have K1 : Kept b w w1 := Kept.trans (((Kept.refl b w).al _).al _) k1
  have B0_1 : Arr w.heap.size (row 43 g) w1 := ((Arr_at _ _ (row 43 g) _ (by simp)).alloc _).kept k1 (Nat.ne_of_gt y1_BF)
  have B1_1 : Arr (w.heap.size + 1) (row 78 (fun _ => 0)) w1 := (Arr_at _ _ (row 78 (fun _ => 0)) _ (by simp)).kept k1 (Nat.ne_of_gt y2_BF)
  have z1 := B1_1.lies
  clear k1
  have y3_BF : b < w1.heap.size := f1.lies
  have y3_B0 : w.heap.size < w1.heap.size := B0_1.lies
  have y3_B1 : w.heap.size + 1 < w1.heap.size := B1_1.lies
  go_wp2_with (refine store_stop rfl (by kernel_rfl) ?_)
  refine Stop.mk (store_row (l' := row 36 r1.1) rfl rfl rfl rfl (Arr_at _ _ (row 36 (fun _ => 0)) _ (by simp)) (by simp only [row_len]) (by rw [row_len]; kernel_rfl) (row_one _ _) ?_)
  intro w2 B2_2 o2
  have K2 : Kept b w w2 := Kept.off (K1.al _) o2 (by omega)
  have BF_2 : Fl b r1.2 w2 := (f1.alloc _).off o2 (Nat.ne_of_lt y3_BF)
  have B0_2 : Arr w.heap.size (row 43 g) w2 := (B0_1.alloc _).off o2 (Nat.ne_of_lt y3_B0)
  have B1_2 : Arr (w.heap.size + 1) (row 78 (fun _ => 0)) w2 := (B1_1.alloc _).off o2 (Nat.ne_of_lt y3_B1)
  have z2_B2 := B2_2.lies
  have z2_BF := BF_2.lies
  have z2_B0 := B0_2.lies
  have z2_B1 := B1_2.lies
  clear K1 f1 B0_1 B1_1 o2
  go_wp2_with fail
  refine (rSqrt_any b r1.2 7696581394432 _ BF_2).mono ?_
  rintro e w3 ⟨rfl, f3, k3⟩
  generalize e3 : sqrtS r1.2 7696581394432 = r3 at f3 ⊢
  have E3 : Hid _ := e3
  clear e3
  try dsimp only
  have K3 : Kept b w w3 := Kept.trans K2 k3
  have B0_3 : Arr w.heap.size (row 43 g) w3 := B0_2.kept k3 (Nat.ne_of_gt y1_BF)
  have B1_3 : Arr (w.heap.size + 1) (row 78 (fun _ => 0)) w3 := B1_2.kept k3 (Nat.ne_of_gt y2_BF)
  have B2_3 : Arr w1.heap.size (row 36 r1.1) w3 := B2_2.kept k3 (Nat.ne_of_gt y3_BF)
  have z3 := B2_3.lies
  clear K2 BF_2 B0_2 B1_2 B2_2 k3
  have y4_BF : b < w3.heap.size := f3.lies
  have y4_B0 : w.heap.size < w3.heap.size := B0_3.lies
  have y4_B1 : w.heap.size + 1 < w3.heap.size := B1_3.lies
  have y4_B2 : w1.heap.size < w3.heap.size := B2_3.lies
  go_wp2_with (refine store_stop rfl (by kernel_rfl) ?_)
  refine Stop.mk (store_row (l' := row 78 (fun _ => 0)) rfl rfl rfl rfl (Arr_at _ _ (row 78 (fun _ => 0)) _ (by simp)) (by simp only [row_len]) (by rw [row_len]; kernel_rfl) (row_one _ _) ?_)
  intro w4 B3_4 o4
  have K4 : Kept b w w4 := Kept.off (K3.al _) o4 (by omega)
  have BF_4 : Fl b r3.2 w4 := (f3.alloc _).off o4 (Nat.ne_of_lt y4_BF)
  have B0_4 : Arr w.heap.size (row 43 g) w4 := (B0_3.alloc _).off o4 (Nat.ne_of_lt y4_B0)
  have B1_4 : Arr (w.heap.size + 1) (row 78 (fun _ => 0)) w4 := (B1_3.alloc _).off o4 (Nat.ne_of_lt y4_B1)
  have B2_4 : Arr w1.heap.size (row 36 r1.1) w4 := (B2_3.alloc _).off o4 (Nat.ne_of_lt y4_B2)
  have z4_B3 := B3_4.lies
  have z4_BF := BF_4.lies
  have z4_B0 := B0_4.lies
  have z4_B1 := B1_4.lies
  have z4_B2 := B2_4.lies
  clear K3 f3 B0_3 B1_3 B2_3 o4
  go_wp2_with fail
  obtain ⟨J0, hJ0⟩ : ∃ J : Nat → Act → World → Prop, Hid (J = fun k a Wl0 => ∀ G_ : Prop, (∀ (s0 : (Nat → Int) × Bool) (t0_1 t0_2 t0_3 t0_9 t0_10 t0_11 t0_12 t0_13 t0_14 t0_15 t0_16 t0_17 t0_18 t0_19 t0_20 t0_21 t0_22 t0_23 t0_24 t0_25 t0_26 t0_27 t0_28 t0_29 t0_30 t0_31 t0_32 t0_33 t0_34 t0_35 t0_36 t0_37 t0_38 t0_39 t0_40 t0_41 t0_42 t0_43 t0_44 t0_45 t0_46 t0_47 t0_48 t0_49 t0_50 t0_51 t0_52 : Value), Hid (fPointsS_l0 r1 r3 ((fun _ => 0), r3.2) k = s0) → a = { tmps := #[.pointer (some ⟨b, 0, none⟩), t0_1, t0_2, t0_3, .pointer (some ⟨w.heap.size + 1, 0, none⟩), .pointer (some ⟨w1.heap.size, 0, none⟩), .int .i64 r3.1, .pointer (some ⟨w3.heap.size, 0, none⟩), .int .i64 (k : Int), t0_9, t0_10, t0_11, t0_12, t0_13, t0_14, t0_15, t0_16, t0_17, t0_18, t0_19, t0_20, t0_21, t0_22, t0_23, t0_24, t0_25, t0_26, t0_27, t0_28, t0_29, t0_30, t0_31, t0_32, t0_33, t0_34, t0_35, t0_36, t0_37, t0_38, t0_39, t0_40, t0_41, t0_42, t0_43, t0_44, t0_45, t0_46, t0_47, t0_48, t0_49, t0_50, t0_51, t0_52], defers := [] } → Kept b w Wl0 → Fl b s0.2 Wl0 → Arr w.heap.size (row 43 g) Wl0 → Arr (w.heap.size + 1) (row 78 (fun _ => 0)) Wl0 → Arr w1.heap.size (row 36 r1.1) Wl0 → Arr w3.heap.size (row 78 s0.1) Wl0 → G_) → G_) := ⟨_, rfl⟩
  refine rounds_up J0 6 ?_ ?_ ?_
  · rw [hJ0.out]
    intro G_ hG_
    exact hG_ ((fun _ => 0), r3.2) _ _ _ _ _ _ _ _ _ _ _ _ _ _ _ _ _ _ _ _ _ _ _ _ _ _ _ _ _ _ _ _ _ _ _ _ _ _ _ _ _ _ _ _ _ _ _ rfl rfl K4 BF_4 B0_4 B1_4 B2_4 B3_4
  · intro k a Wl0 hk hI R hR
    rw [hJ0.out] at hI
    refine hI _ ?_
    clear hI
    intro s0 t0_1 t0_2 t0_3 t0_9 t0_10 t0_11 t0_12 t0_13 t0_14 t0_15 t0_16 t0_17 t0_18 t0_19 t0_20 t0_21 t0_22 t0_23 t0_24 t0_25 t0_26 t0_27 t0_28 t0_29 t0_30 t0_31 t0_32 t0_33 t0_34 t0_35 t0_36 t0_37 t0_38 t0_39 t0_40 t0_41 t0_42 t0_43 t0_44 t0_45 t0_46 t0_47 t0_48 t0_49 t0_50 t0_51 t0_52 El0 ea Kl0 BF_l0 B0_l0 B1_l0 B2_l0 B3_l0
    subst ea
    have zl0_BF := BF_l0.lies
    have zl0_B0 := B0_l0.lies
    have zl0_B1 := B1_l0.lies
    have zl0_B2 := B2_l0.lies
    have zl0_B3 := B3_l0.lies
    go_wp2_with fail
    obtain ⟨J1, hJ1⟩ : ∃ J : Nat → Act → World → Prop, Hid (J = fun i a Wl1 => ∀ G_ : Prop, (∀ (s1 : (Nat → Int) × Bool) (t1_1 t1_2 t1_3 t1_10 t1_11 t1_12 t1_13 t1_14 t1_15 t1_16 t1_17 t1_18 t1_19 t1_20 t1_21 t1_22 t1_23 t1_24 t1_25 t1_26 t1_27 t1_28 t1_29 t1_30 t1_31 t1_32 t1_33 t1_34 t1_35 t1_36 t1_37 t1_38 t1_39 t1_40 t1_41 t1_42 t1_43 t1_44 t1_45 t1_46 t1_47 t1_48 t1_49 t1_50 t1_51 t1_52 : Value), Hid (fPointsS_l1 r1 r3 k (s0.1, s0.2) i = s1) → a = { tmps := #[.pointer (some ⟨b, 0, none⟩), t1_1, t1_2, t1_3, .pointer (some ⟨w.heap.size + 1, 0, none⟩), .pointer (some ⟨w1.heap.size, 0, none⟩), .int .i64 r3.1, .pointer (some ⟨w3.heap.size, 0, none⟩), .int .i64 (k : Int), .int .i64 (i : Int), t1_10, t1_11, t1_12, t1_13, t1_14, t1_15, t1_16, t1_17, t1_18, t1_19, t1_20, t1_21, t1_22, t1_23, t1_24, t1_25, t1_26, t1_27, t1_28, t1_29, t1_30, t1_31, t1_32, t1_33, t1_34, t1_35, t1_36, t1_37, t1_38, t1_39, t1_40, t1_41, t1_42, t1_43, t1_44, t1_45, t1_46, t1_47, t1_48, t1_49, t1_50, t1_51, t1_52], defers := [] } → Kept b w Wl1 → Fl b s1.2 Wl1 → Arr w.heap.size (row 43 g) Wl1 → Arr (w.heap.size + 1) (row 78 (fun _ => 0)) Wl1 → Arr w1.heap.size (row 36 r1.1) Wl1 → Arr w3.heap.size (row 78 s1.1) Wl1 → G_) → G_) := ⟨_, rfl⟩
    refine rounds_up J1 6 ?_ ?_ ?_
    · rw [hJ1.out]
      intro G_ hG_
      exact hG_ (s0.1, s0.2) _ _ _ _ _ _ _ _ _ _ _ _ _ _ _ _ _ _ _ _ _ _ _ _ _ _ _ _ _ _ _ _ _ _ _ _ _ _ _ _ _ _ _ _ _ _ rfl rfl Kl0 BF_l0 B0_l0 B1_l0 B2_l0 B3_l0
    · intro i a Wl1 hi hI R hR
      rw [hJ1.out] at hI
      refine hI _ ?_
      clear hI
      intro s1 t1_1 t1_2 t1_3 t1_10 t1_11 t1_12 t1_13 t1_14 t1_15 t1_16 t1_17 t1_18 t1_19 t1_20 t1_21 t1_22 t1_23 t1_24 t1_25 t1_26 t1_27 t1_28 t1_29 t1_30 t1_31 t1_32 t1_33 t1_34 t1_35 t1_36 t1_37 t1_38 t1_39 t1_40 t1_41 t1_42 t1_43 t1_44 t1_45 t1_46 t1_47 t1_48 t1_49 t1_50 t1_51 t1_52 El1 ea Kl1 BF_l1 B0_l1 B1_l1 B2_l1 B3_l1
      subst ea
      have zl1_BF := BF_l1.lies
      have zl1_B0 := B0_l1.lies
      have zl1_B1 := B1_l1.lies
      have zl1_B2 := B2_l1.lies
      have zl1_B3 := B3_l1.lies
      have c7_B2_0 : Wl1.cell? ⟨w1.heap.size, i * 6 + k, none⟩ = some (.int .i64 (r1.1 (i * 6 + k))) := row_c B2_l1 (i * 6 + k) (by omega)
      have i7_1 : (i : Int) < 6 := by omega
      have i7_2 : (k : Int) < 6 := by omega
      go_wp2_with fail
      refine (rMul_any b s1.2 r3.1 (r1.1 (i * 6 + k)) _ BF_l1).mono ?_
      rintro e w5 ⟨rfl, f5, k5⟩
      generalize e5 : mulS s1.2 r3.1 (r1.1 (i * 6 + k)) = r5 at f5 ⊢
      have E5 : Hid _ := e5
      clear e5
      try dsimp only
      have K5 : Kept b w w5 := Kept.trans Kl1 k5
      have B0_5 : Arr w.heap.size (row 43 g) w5 := B0_l1.kept k5 (Nat.ne_of_gt y1_BF)
      have B1_5 : Arr (w.heap.size + 1) (row 78 (fun _ => 0)) w5 := B1_l1.kept k5 (Nat.ne_of_gt y2_BF)
      have B2_5 : Arr w1.heap.size (row 36 r1.1) w5 := B2_l1.kept k5 (Nat.ne_of_gt y3_BF)
      have B3_5 : Arr w3.heap.size (row 78 s1.1) w5 := B3_l1.kept k5 (Nat.ne_of_gt y4_BF)
      have z5 := B3_5.lies
      clear c7_B2_0 i7_1 i7_2 BF_l1 B0_l1 B1_l1 B2_l1 B3_l1 k5
      have c8_B3_0 : w5.cell? ⟨w3.heap.size, (1 + k) * 6 + i, none⟩ = some (.int .i64 (s1.1 ((1 + k) * 6 + i))) := row_c B3_5 ((1 + k) * 6 + i) (by omega)
      have c8_B3_1 : w5.cell? ⟨w3.heap.size, (7 + k) * 6 + i, none⟩ = some (.int .i64 (s1.1 ((7 + k) * 6 + i))) := row_c B3_5 ((7 + k) * 6 + i) (by omega)
      have g8_B3_2 := row_f B3_5 ((1 + k) * 6 + i) (by omega)
      have g8_B3_3 := row_f B3_5 ((7 + k) * 6 + i) (by omega)
      have q8_4 : -4611686018427387904 ≤ r5.1 ∧ r5.1 ≤ 4611686018427387904 := (by rw [← E5.out]; exact partS_rng _ _ _ _)
      obtain ⟨q8_4a, q8_4b⟩ := q8_4
      have i8_6 : (1 + (k : Int)) < 13 := by omega
      have i8_7 : (7 + (k : Int)) < 13 := by omega
      have i8_8 : (i : Int) < 6 := by omega
      go_wp2_with fail
      clear c8_B3_0 c8_B3_1 g8_B3_2 g8_B3_3 q8_4a q8_4b i8_6 i8_7 i8_8
      have hs1 : Hid (fPointsS_l1 r1 r3 k (s0.1, s0.2) (i + 1) = ((updF (updF s1.1 ((1 + k) * 6 + i) r5.1) ((7 + k) * 6 + i) (-r5.1)), r5.2)) := by show _ = _; rw [fPointsS_l1_succ]; unfold fPointsS_l1s; simp only [El1.out, E5.out]
      rw [hJ1.out]
      intro G_ hG_
      exact hG_ ((updF (updF s1.1 ((1 + k) * 6 + i) r5.1) ((7 + k) * 6 + i) (-r5.1)), r5.2) _ _ _ _ _ _ _ _ _ _ _ _ _ _ _ _ _ _ _ _ _ _ _ _ _ _ _ _ _ _ _ _ _ _ _ _ _ _ _ _ _ _ _ _ _ _ hs1 rfl ((K5.new _ _ (by omega) _).new _ _ (by omega) _) ((f5.new w3.heap.size ((1 + k) * 6 + i) (Nat.ne_of_lt y4_BF) (.int .i64 r5.1)).new w3.heap.size ((7 + k) * 6 + i) (Nat.ne_of_lt y4_BF) (.int .i64 (-r5.1))) ((B0_5.new w3.heap.size ((1 + k) * 6 + i) (Nat.ne_of_lt y4_B0) (.int .i64 r5.1)).new w3.heap.size ((7 + k) * 6 + i) (Nat.ne_of_lt y4_B0) (.int .i64 (-r5.1))) ((B1_5.new w3.heap.size ((1 + k) * 6 + i) (Nat.ne_of_lt y4_B1) (.int .i64 r5.1)).new w3.heap.size ((7 + k) * 6 + i) (Nat.ne_of_lt y4_B1) (.int .i64 (-r5.1))) ((B2_5.new w3.heap.size ((1 + k) * 6 + i) (Nat.ne_of_lt y4_B2) (.int .i64 r5.1)).new w3.heap.size ((7 + k) * 6 + i) (Nat.ne_of_lt y4_B2) (.int .i64 (-r5.1))) (row_put (row_put B3_5 ((1 + k) * 6 + i) (by omega) r5.1) ((7 + k) * 6 + i) (by omega) (-r5.1))
    · intro a Wl1 hI R
      rw [hJ1.out] at hI
      refine hI _ ?_
      clear hI hJ1
      intro r6 t1_1 t1_2 t1_3 t1_10 t1_11 t1_12 t1_13 t1_14 t1_15 t1_16 t1_17 t1_18 t1_19 t1_20 t1_21 t1_22 t1_23 t1_24 t1_25 t1_26 t1_27 t1_28 t1_29 t1_30 t1_31 t1_32 t1_33 t1_34 t1_35 t1_36 t1_37 t1_38 t1_39 t1_40 t1_41 t1_42 t1_43 t1_44 t1_45 t1_46 t1_47 t1_48 t1_49 t1_50 t1_51 t1_52 E6 ea Kl1 BF_l1 B0_l1 B1_l1 B2_l1 B3_l1
      subst ea
      have zl1_BF := BF_l1.lies
      have zl1_B0 := B0_l1.lies
      have zl1_B1 := B1_l1.lies
      have zl1_B2 := B2_l1.lies
      have zl1_B3 := B3_l1.lies
      go_wp2_with fail
      have hs0 : Hid (fPointsS_l0 r1 r3 ((fun _ => 0), r3.2) (k + 1) = (r6.1, r6.2)) := by show _ = _; rw [fPointsS_l0_succ]; unfold fPointsS_l0s; simp only [El0.out, E6.out]
      rw [hJ0.out]
      intro G_ hG_
      exact hG_ (r6.1, r6.2) _ _ _ _ _ _ _ _ _ _ _ _ _ _ _ _ _ _ _ _ _ _ _ _ _ _ _ _ _ _ _ _ _ _ _ _ _ _ _ _ _ _ _ _ _ _ _ hs0 rfl Kl1 BF_l1 B0_l1 B1_l1 B2_l1 B3_l1
  · intro a Wl0 hI R
    rw [hJ0.out] at hI
    refine hI _ ?_
    clear hI hJ0
    intro r5 t0_1 t0_2 t0_3 t0_9 t0_10 t0_11 t0_12 t0_13 t0_14 t0_15 t0_16 t0_17 t0_18 t0_19 t0_20 t0_21 t0_22 t0_23 t0_24 t0_25 t0_26 t0_27 t0_28 t0_29 t0_30 t0_31 t0_32 t0_33 t0_34 t0_35 t0_36 t0_37 t0_38 t0_39 t0_40 t0_41 t0_42 t0_43 t0_44 t0_45 t0_46 t0_47 t0_48 t0_49 t0_50 t0_51 t0_52 E5 ea Kl0 BF_l0 B0_l0 B1_l0 B2_l0 B3_l0
    subst ea
    have zl0_BF := BF_l0.lies
    have zl0_B0 := B0_l0.lies
    have zl0_B1 := B1_l0.lies
    have zl0_B2 := B2_l0.lies
    have zl0_B3 := B3_l0.lies
    rcases Bool.eq_false_or_eq_true r5.2 with hc1 | hc1
    · have Hhc1 : Hid (r5.2 = true) := hc1
      have c7_BF := BF_l0.cell
      go_wp2_with (refine store_stop rfl (by kernel_rfl) ?_)
      clear c7_BF
      refine Stop.mk (store_row (l' := row 78 (fun _ => 0)) rfl rfl rfl rfl B1_l0 (by simp only [row_len]) (by rw [row_len]; kernel_rfl) (row_one _ _) ?_)
      intro w6 B1_6 o6
      have K6 : Kept b w w6 := Kept.off Kl0 o6 (by omega)
      have BF_6 : Fl b r5.2 w6 := BF_l0.off o6 (Nat.ne_of_lt y2_BF)
      have B0_6 : Arr w.heap.size (row 43 g) w6 := B0_l0.off o6 (Nat.ne_of_lt y2_B0)
      have B2_6 : Arr w1.heap.size (row 36 r1.1) w6 := B2_l0.off o6 (Nat.ne_of_gt y3_B1)
      have B3_6 : Arr w3.heap.size (row 78 r5.1) w6 := B3_l0.off o6 (Nat.ne_of_gt y4_B1)
      have z6_B1 := B1_6.lies
      have z6_BF := BF_6.lies
      have z6_B0 := B0_6.lies
      have z6_B2 := B2_6.lies
      have z6_B3 := B3_6.lies
      clear B1_l0 BF_l0 B0_l0 B2_l0 B3_l0 o6
      go_wp2_with (with_reducible refine post_stop ?_)
      refine Stop.mk ?_
      refine bodyPost_ret (v := .agg (row 78 (fun _ => 0)).toArray) (results_arr Try.results10 B1_6 rfl (by kernel_rfl) (by rw [row_len]; kernel_rfl)) rfl ?_
      have hs : fPointsS bad g = ((fun _ => 0), r5.2) := by unfold fPointsS; simp only [E1.out, E3.out, E5.out]; rw [if_pos Hhc1.out]
      rw [hs]
      exact ⟨rfl, BF_6, K6⟩
    · have Hhc1 : Hid (r5.2 = false) := hc1
      have c7_BF := BF_l0.cell
      go_wp2_with (first | (refine row_load rfl rfl rfl B3_l0 (by kernel_rfl) (by rw [row_len]; kernel_rfl) ?_) | (refine store_stop rfl (by kernel_rfl) ?_))
      clear c7_BF
      refine Stop.mk (store_row (l' := row 78 r5.1) rfl rfl rfl rfl B1_l0 (by simp only [row_len]) (by rw [row_len]; kernel_rfl) (row_one _ _) ?_)
      intro w6 B1_6 o6
      have K6 : Kept b w w6 := Kept.off Kl0 o6 (by omega)
      have BF_6 : Fl b r5.2 w6 := BF_l0.off o6 (Nat.ne_of_lt y2_BF)
      have B0_6 : Arr w.heap.size (row 43 g) w6 := B0_l0.off o6 (Nat.ne_of_lt y2_B0)
      have B2_6 : Arr w1.heap.size (row 36 r1.1) w6 := B2_l0.off o6 (Nat.ne_of_gt y3_B1)
      have B3_6 : Arr w3.heap.size (row 78 r5.1) w6 := B3_l0.off o6 (Nat.ne_of_gt y4_B1)
      have z6_B1 := B1_6.lies
      have z6_BF := BF_6.lies
      have z6_B0 := B0_6.lies
      have z6_B2 := B2_6.lies
      have z6_B3 := B3_6.lies
      clear B1_l0 BF_l0 B0_l0 B2_l0 B3_l0 o6
      go_wp2_with (with_reducible refine post_stop ?_)
      refine Stop.mk ?_
      refine bodyPost_ret (v := .agg (row 78 r5.1).toArray) (results_arr Try.results10 B1_6 rfl (by kernel_rfl) (by rw [row_len]; kernel_rfl)) rfl ?_
      have hs : fPointsS bad g = (r5.1, r5.2) := by unfold fPointsS; simp only [E1.out, E3.out, E5.out]; rw [if_neg (by rw [Hhc1.out]; decide)]
      rw [hs]
      exact ⟨rfl, BF_6, K6⟩
end Go.Proofs.Ytpjobkbefgehjaa
