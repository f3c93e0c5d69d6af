/-
  even, for the seat Ytpjobkbefgehjaa. (Made by mkeven14.py.)
-/
import Derived.Test.YtpjobkbefgehjaaJB
import Derived.Test.YtpjobkbefgehjaaJH
import Derived.Test.YtpjobkbefgehjaaJD
import Derived.Handy
import Derived.Deep.RegionHeld3
namespace Go.Proofs.Ytpjobkbefgehjaa
open Go.RowKit

def even_xS_l1  (z : Unit) : Nat → Unit
  | 0 => z
  | _ + 1 => ()
def even_xS_l0  (z : Unit) : Nat → Unit
  | 0 => z
  | _ + 1 => ()
set_option maxRecDepth 100000 in
set_option maxHeartbeats 4000000 in
theorem even_x (g : Nat → Int) (w : World) (N n : Int) (hN : normS false (g 0) (g 1) (g 2) = (N, false)) (hn : normS false N (g 3) 0 = (n, false)) (n1 : -16 ≤ n - 1099511627776) (n2 : n - 1099511627776 ≤ 16) (hS : ∀ i, i < 6 → ∀ j, j < i → g (7 + i * 6 + j) = g (7 + j * 6 + i)) :
    Calls Try.prog 14 #[.agg (row 43 g).toArray] w fun e w' => e = .returned (.bool true) ∧ Below w.heap.size w w' := by
  go_enter Try.func14, Try.ntmps14
  have y1_low : w.heap.size ≤ w.heap.size := (Below.refl w.heap.size w).size
  have y2_B0 : w.heap.size < w.heap.size + 1 := (Nat.lt_succ_self _)
  have y2_low : w.heap.size ≤ w.heap.size + 1 := (Nat.le_succ_of_le (Below.refl w.heap.size w).size)
  go_wp2_with fail
  refine wp_region_held_drew (S := fun w' => Arr w.heap.size (row 43 g) w') (by kernel_rfl) ((Arr_at _ _ (row 43 g) _ (by simp)).alloc _).drew (fun hHeld => ?_)
  refine take_at (i := 0) (v := ?v1) rfl (by kernel_rfl) (by kernel_rfl) (by kernel_rfl) (fun _ _ _ h => h) (Or.inl ⟨by rfl, ?y1⟩) hHeld ?t1
  case y1 => (intro wx hSw; go_simp <;> with_reducible rfl)
  simp only [Act.put, List.setIfInBounds_toArray, List.set_cons_zero, List.set_cons_succ]
  refine take_at (i := 1) (v := ?v2) rfl (by kernel_rfl) (by kernel_rfl) (by kernel_rfl) (fun _ _ _ h => h) (Or.inl ⟨by rfl, ?y2⟩) hHeld ?t2
  case y2 => (intro wx hSw; go_simp <;> with_reducible rfl)
  simp only [Act.put, List.setIfInBounds_toArray, List.set_cons_zero, List.set_cons_succ]
  refine take_at (i := 2) (v := ?v3) rfl (by kernel_rfl) (by kernel_rfl) (by kernel_rfl) (fun _ _ _ h => h) (Or.inl ⟨by rfl, ?y3⟩) hHeld ?t3
  case y3 => (intro wx hSw; go_simp <;> with_reducible rfl)
  simp only [Act.put, List.setIfInBounds_toArray, List.set_cons_zero, List.set_cons_succ]
  refine take_at (i := 3) (v := ?v4) rfl (by kernel_rfl) (by kernel_rfl) (by kernel_rfl) (fun _ _ _ h => h) (Or.inl ⟨by rfl, ?y4⟩) hHeld ?t4
  case y4 => (intro wx hSw; go_simp <;> with_reducible rfl)
  simp only [Act.put, List.setIfInBounds_toArray, List.set_cons_zero, List.set_cons_succ]
  refine take_at (i := 4) (v := ?v5) rfl (by kernel_rfl) (by kernel_rfl) (by kernel_rfl) (fun _ _ _ h => h) (Or.inl ⟨by rfl, ?y5⟩) hHeld ?t5
  case y5 => (intro wx hSw; have hc0 : wx.cell? ⟨w.heap.size, 0, none⟩ = some (.int .i64 (g 0)) := row_c hSw 0 (by omega); go_simp <;> with_reducible rfl)
  simp only [Act.put, List.setIfInBounds_toArray, List.set_cons_zero, List.set_cons_succ]
  refine take_at (i := 5) (v := ?v6) rfl (by kernel_rfl) (by kernel_rfl) (by kernel_rfl) (fun _ _ _ h => h) (Or.inl ⟨by rfl, ?y6⟩) hHeld ?t6
  case y6 => (intro wx hSw; go_simp <;> with_reducible rfl)
  simp only [Act.put, List.setIfInBounds_toArray, List.set_cons_zero, List.set_cons_succ]
  refine take_at (i := 6) (v := ?v7) rfl (by kernel_rfl) (by kernel_rfl) (by kernel_rfl) (fun _ _ _ h => h) (Or.inl ⟨by rfl, ?y7⟩) hHeld ?t7
  case y7 => (intro wx hSw; go_simp <;> with_reducible rfl)
  simp only [Act.put, List.setIfInBounds_toArray, List.set_cons_zero, List.set_cons_succ]
  refine take_at (i := 7) (v := ?v8) rfl (by kernel_rfl) (by kernel_rfl) (by kernel_rfl) (fun _ _ _ h => h) (Or.inl ⟨by rfl, ?y8⟩) hHeld ?t8
  case y8 => (intro wx hSw; have hc0 : wx.cell? ⟨w.heap.size, 1, none⟩ = some (.int .i64 (g 1)) := row_c hSw 1 (by omega); go_simp <;> with_reducible rfl)
  simp only [Act.put, List.setIfInBounds_toArray, List.set_cons_zero, List.set_cons_succ]
  refine take_at (i := 8) (v := ?v9) rfl (by kernel_rfl) (by kernel_rfl) (by kernel_rfl) (fun _ _ _ h => h) (Or.inl ⟨by rfl, ?y9⟩) hHeld ?t9
  case y9 => (intro wx hSw; go_simp <;> with_reducible rfl)
  simp only [Act.put, List.setIfInBounds_toArray, List.set_cons_zero, List.set_cons_succ]
  refine take_at (i := 9) (v := ?v10) rfl (by kernel_rfl) (by kernel_rfl) (by kernel_rfl) (fun _ _ _ h => h) (Or.inl ⟨by rfl, ?y10⟩) hHeld ?t10
  case y10 => (intro wx hSw; go_simp <;> with_reducible rfl)
  simp only [Act.put, List.setIfInBounds_toArray, List.set_cons_zero, List.set_cons_succ]
  refine take_at (i := 10) (v := ?v11) rfl (by kernel_rfl) (by kernel_rfl) (by kernel_rfl) (fun _ _ _ h => h) (Or.inl ⟨by rfl, ?y11⟩) hHeld ?t11
  case y11 => (intro wx hSw; have hc0 : wx.cell? ⟨w.heap.size, 2, none⟩ = some (.int .i64 (g 2)) := row_c hSw 2 (by omega); go_simp <;> with_reducible rfl)
  simp only [Act.put, List.setIfInBounds_toArray, List.set_cons_zero, List.set_cons_succ]
  refine take_at (i := 12) (v := ?v12) rfl (by kernel_rfl) (by kernel_rfl) (by kernel_rfl) (fun _ _ _ h => h) (Or.inl ⟨by rfl, ?y12⟩) hHeld ?t12
  case y12 => (intro wx hSw; go_simp <;> with_reducible rfl)
  simp only [Act.put, List.setIfInBounds_toArray, List.set_cons_zero, List.set_cons_succ]
  refine take_at (i := 13) (v := ?v13) rfl (by kernel_rfl) (by kernel_rfl) (by kernel_rfl) (fun _ _ _ h => h) (Or.inl ⟨by rfl, ?y13⟩) hHeld ?t13
  case y13 => (intro wx hSw; go_simp <;> with_reducible rfl)
  simp only [Act.put, List.setIfInBounds_toArray, List.set_cons_zero, List.set_cons_succ]
  refine take_at (i := 14) (v := ?v14) rfl (by kernel_rfl) (by kernel_rfl) (by kernel_rfl) (fun _ _ _ h => h) (Or.inl ⟨by rfl, ?y14⟩) hHeld ?t14
  case y14 => (intro wx hSw; have hc0 : wx.cell? ⟨w.heap.size, 3, none⟩ = some (.int .i64 (g 3)) := row_c hSw 3 (by omega); go_simp <;> with_reducible rfl)
  simp only [Act.put, List.setIfInBounds_toArray, List.set_cons_zero, List.set_cons_succ]
  refine call_at (i := 11) (by kernel_rfl) rfl (fun K hK => ?_)
  go_simp
  refine (Norm_any (w.heap.size + 1) false (g 0) (g 1) (g 2) _ (Fl_at _ _ _ _ (by simp)).drew).mono ?_
  rintro e w1 ⟨rfl, f1, k1⟩
  rw [hN] at f1 ⊢
  dsimp only at f1 ⊢
  have K1 : Below w.heap.size w w1 := k1.on (Below.drew (bel_al (bel_al (Below.refl w.heap.size w) _) _)) (by omega)
  have B0_1 : Arr w.heap.size (row 43 g) w1 := ((Arr_at _ _ (row 43 g) _ (by simp)).alloc _).drew.kept k1 (Nat.ne_of_lt y2_B0)
  have z1 := f1.lies
  clear hHeld
  refine hK.out _ _ B0_1 (fun hHeld => ?_)
  clear hK K k1
  refine call_at (i := 15) (by kernel_rfl) rfl (fun K hK => ?_)
  go_simp
  refine (Norm_any (w.heap.size + 1) false N (g 3) 0 _ f1).mono ?_
  rintro e w2 ⟨rfl, f2, k2⟩
  rw [hn] at f2 ⊢
  dsimp only at f2 ⊢
  have K2 : Below w.heap.size w w2 := k2.on K1 (by omega)
  have B0_2 : Arr w.heap.size (row 43 g) w2 := B0_1.kept k2 (Nat.ne_of_lt y2_B0)
  have z2 := f2.lies
  clear hHeld
  refine hK.out _ _ B0_2 (fun hHeld => ?_)
  clear hK K K1 B0_1 f1 k2
  refine take_at (i := 16) (v := ?v15) rfl (by kernel_rfl) (by kernel_rfl) (by kernel_rfl) (fun _ _ _ h => h) (Or.inl ⟨by rfl, ?y15⟩) hHeld ?t15
  case y15 => (intro wx hSw; go_simp <;> with_reducible rfl)
  simp only [Act.put, List.setIfInBounds_toArray, List.set_cons_zero, List.set_cons_succ]
  rw [IntWalk.i64_in (n - 1099511627776) (by omega)]
  refine take_at (i := 17) (v := ?v16) rfl (by kernel_rfl) (by kernel_rfl) (by kernel_rfl) (fun _ _ _ h => h) (Or.inl ⟨by rfl, ?y16⟩) hHeld ?t16
  case y16 => (intro wx hSw; go_simp <;> with_reducible rfl)
  simp only [Act.put, List.setIfInBounds_toArray, List.set_cons_zero, List.set_cons_succ]
  refine wpAnyH_done (by kernel_rfl) ?_ _
  clear hHeld
  have c2_B1 := f2.cell
  go_wp2_with fail
  clear c2_B1
  obtain ⟨J0, hJ0⟩ : ∃ J : Nat → Act → World → Prop, Hid (J = fun i a Wl0 => ∀ G_ : Prop, (∀ (s0 : Unit) (t0_0 t0_2 t0_3 t0_4 t0_5 t0_6 t0_7 t0_8 t0_9 t0_10 t0_11 t0_12 t0_13 t0_14 t0_15 t0_16 t0_17 t0_18 t0_19 t0_20 t0_21 t0_22 t0_23 t0_24 t0_25 t0_26 t0_27 t0_28 t0_29 t0_30 t0_31 t0_32 t0_33 t0_34 t0_35 t0_36 t0_37 t0_39 t0_40 t0_41 t0_42 t0_43 t0_44 t0_45 t0_46 t0_47 t0_48 t0_49 t0_50 t0_51 t0_52 t0_53 t0_54 t0_55 t0_56 t0_57 t0_58 t0_59 : Value), Hid (even_xS_l0 () i = s0) → a = { tmps := #[t0_0, .pointer (some ⟨w.heap.size, 0, none⟩), t0_2, t0_3, t0_4, t0_5, t0_6, t0_7, t0_8, t0_9, t0_10, t0_11, t0_12, t0_13, t0_14, t0_15, t0_16, t0_17, t0_18, t0_19, t0_20, t0_21, t0_22, t0_23, t0_24, t0_25, t0_26, t0_27, t0_28, t0_29, t0_30, t0_31, t0_32, t0_33, t0_34, t0_35, t0_36, t0_37, .int .i64 (i : Int), t0_39, t0_40, t0_41, t0_42, t0_43, t0_44, t0_45, t0_46, t0_47, t0_48, t0_49, t0_50, t0_51, t0_52, t0_53, t0_54, t0_55, t0_56, t0_57, t0_58, t0_59], defers := [] } → Below w.heap.size w Wl0 → Arr w.heap.size (row 43 g) Wl0 → Fl (w.heap.size + 1) false Wl0 → G_) → G_) := ⟨_, rfl⟩
  refine rounds_up J0 6 ?_ ?_ ?_
  · rw [hJ0.out]
    intro G_ hG_
    exact hG_ () _ _ _ _ _ _ _ _ _ _ _ _ _ _ _ _ _ _ _ _ _ _ _ _ _ _ _ _ _ _ _ _ _ _ _ _ _ _ _ _ _ _ _ _ _ _ _ _ _ _ _ _ _ _ _ _ _ _ rfl rfl K2 B0_2 f2
  · intro i a Wl0 hi hI R hR
    rw [hJ0.out] at hI
    refine hI _ ?_
    clear hI
    intro s0 t0_0 t0_2 t0_3 t0_4 t0_5 t0_6 t0_7 t0_8 t0_9 t0_10 t0_11 t0_12 t0_13 t0_14 t0_15 t0_16 t0_17 t0_18 t0_19 t0_20 t0_21 t0_22 t0_23 t0_24 t0_25 t0_26 t0_27 t0_28 t0_29 t0_30 t0_31 t0_32 t0_33 t0_34 t0_35 t0_36 t0_37 t0_39 t0_40 t0_41 t0_42 t0_43 t0_44 t0_45 t0_46 t0_47 t0_48 t0_49 t0_50 t0_51 t0_52 t0_53 t0_54 t0_55 t0_56 t0_57 t0_58 t0_59 El0 ea Kl0 B0_l0 B1_l0
    subst ea
    have zl0_B0 := B0_l0.lies
    have zl0_B1 := B1_l0.lies
    go_wp2_with fail
    obtain ⟨J1, hJ1⟩ : ∃ J : Nat → Act → World → Prop, Hid (J = fun j a Wl1 => ∀ G_ : Prop, (∀ (s1 : Unit) (t1_0 t1_2 t1_3 t1_4 t1_6 t1_7 t1_8 t1_9 t1_10 t1_11 t1_12 t1_13 t1_14 t1_15 t1_16 t1_17 t1_18 t1_19 t1_20 t1_21 t1_22 t1_23 t1_24 t1_25 t1_26 t1_27 t1_28 t1_29 t1_30 t1_31 t1_32 t1_33 t1_34 t1_35 t1_36 t1_37 t1_39 t1_40 t1_43 t1_44 t1_45 t1_46 t1_47 t1_48 t1_49 t1_50 t1_51 t1_52 t1_53 t1_54 t1_55 t1_56 t1_57 t1_58 t1_59 : Value), Hid (even_xS_l1 () j = s1) → a = { tmps := #[t1_0, .pointer (some ⟨w.heap.size, 0, none⟩), t1_2, t1_3, t1_4, .int .i64 (i : Int), t1_6, t1_7, t1_8, t1_9, t1_10, t1_11, t1_12, t1_13, t1_14, t1_15, t1_16, t1_17, t1_18, t1_19, t1_20, t1_21, t1_22, t1_23, t1_24, t1_25, t1_26, t1_27, t1_28, t1_29, t1_30, t1_31, t1_32, t1_33, t1_34, t1_35, t1_36, t1_37, .int .i64 (i : Int), t1_39, t1_40, .int .i64 (i : Int), .int .i64 (j : Int), t1_43, t1_44, t1_45, t1_46, t1_47, t1_48, t1_49, t1_50, t1_51, t1_52, t1_53, t1_54, t1_55, t1_56, t1_57, t1_58, t1_59], defers := [] } → Below w.heap.size w Wl1 → Arr w.heap.size (row 43 g) Wl1 → Fl (w.heap.size + 1) false Wl1 → G_) → G_) := ⟨_, rfl⟩
    refine rounds_up J1 i ?_ ?_ ?_
    · rw [hJ1.out]
      intro G_ hG_
      exact hG_ () _ _ _ _ _ _ _ _ _ _ _ _ _ _ _ _ _ _ _ _ _ _ _ _ _ _ _ _ _ _ _ _ _ _ _ _ _ _ _ _ _ _ _ _ _ _ _ _ _ _ _ _ _ _ _ rfl rfl Kl0 B0_l0 B1_l0
    · intro j a Wl1 hj hI R hR
      rw [hJ1.out] at hI
      refine hI _ ?_
      clear hI
      intro s1 t1_0 t1_2 t1_3 t1_4 t1_6 t1_7 t1_8 t1_9 t1_10 t1_11 t1_12 t1_13 t1_14 t1_15 t1_16 t1_17 t1_18 t1_19 t1_20 t1_21 t1_22 t1_23 t1_24 t1_25 t1_26 t1_27 t1_28 t1_29 t1_30 t1_31 t1_32 t1_33 t1_34 t1_35 t1_36 t1_37 t1_39 t1_40 t1_43 t1_44 t1_45 t1_46 t1_47 t1_48 t1_49 t1_50 t1_51 t1_52 t1_53 t1_54 t1_55 t1_56 t1_57 t1_58 t1_59 El1 ea Kl1 B0_l1 B1_l1
      subst ea
      have zl1_B0 := B0_l1.lies
      have zl1_B1 := B1_l1.lies
      go_wp2_with fail
      refine wp_region_held_drew (S := fun w' => Arr w.heap.size (row 43 g) w') (by kernel_rfl) B0_l1.drew (fun hHeld => ?_)
      refine take_at (i := 0) (v := ?v121) rfl (by kernel_rfl) (by kernel_rfl) (by kernel_rfl) (fun _ _ _ h => h) (Or.inl ⟨by rfl, ?y121⟩) hHeld ?t121
      case y121 => (intro wx hSw; go_simp <;> with_reducible rfl)
      simp only [Act.put, List.setIfInBounds_toArray, List.set_cons_zero, List.set_cons_succ]
      refine take_at (i := 1) (v := ?v122) rfl (by kernel_rfl) (by kernel_rfl) (by kernel_rfl) (fun _ _ _ h => h) (Or.inl ⟨by rfl, ?y122⟩) hHeld ?t122
      case y122 => (intro wx hSw; go_simp <;> with_reducible rfl)
      simp only [Act.put, List.setIfInBounds_toArray, List.set_cons_zero, List.set_cons_succ]
      refine take_at (i := 2) (v := ?v123) rfl (by kernel_rfl) (by kernel_rfl) (by kernel_rfl) (fun _ _ _ h => h) (Or.inl ⟨by rfl, ?y123⟩) hHeld ?t123
      case y123 => (intro wx hSw; go_simp <;> with_reducible rfl)
      simp only [Act.put, List.setIfInBounds_toArray, List.set_cons_zero, List.set_cons_succ]
      refine take_at (i := 3) (v := ?v124) rfl (by kernel_rfl) (by kernel_rfl) (by kernel_rfl) (fun _ _ _ h => h) (Or.inl ⟨by rfl, ?y124⟩) hHeld ?t124
      case y124 => (intro wx hSw; have hi0 : (i : Int) < 6 := (by omega); go_simp <;> with_reducible rfl)
      simp only [Act.put, List.setIfInBounds_toArray, List.set_cons_zero, List.set_cons_succ]
      refine take_at (i := 4) (v := ?v125) rfl (by kernel_rfl) (by kernel_rfl) (by kernel_rfl) (fun _ _ _ h => h) (Or.inl ⟨by rfl, ?y125⟩) hHeld ?t125
      case y125 => (intro wx hSw; have hi0 : (j : Int) < 6 := (by omega); go_simp <;> with_reducible rfl)
      simp only [Act.put, List.setIfInBounds_toArray, List.set_cons_zero, List.set_cons_succ]
      refine take_at (i := 5) (v := ?v126) rfl (by kernel_rfl) (by kernel_rfl) (by kernel_rfl) (fun _ _ _ h => h) (Or.inl ⟨by rfl, ?y126⟩) hHeld ?t126
      case y126 => (intro wx hSw; have hc0 : wx.cell? ⟨w.heap.size, 7 + i * 6 + j, none⟩ = some (.int .i64 (g (7 + i * 6 + j))) := row_c hSw (7 + i * 6 + j) (by omega); go_simp <;> with_reducible rfl)
      simp only [Act.put, List.setIfInBounds_toArray, List.set_cons_zero, List.set_cons_succ]
      refine take_at (i := 6) (v := ?v127) rfl (by kernel_rfl) (by kernel_rfl) (by kernel_rfl) (fun _ _ _ h => h) (Or.inl ⟨by rfl, ?y127⟩) hHeld ?t127
      case y127 => (intro wx hSw; go_simp <;> with_reducible rfl)
      simp only [Act.put, List.setIfInBounds_toArray, List.set_cons_zero, List.set_cons_succ]
      refine take_at (i := 7) (v := ?v128) rfl (by kernel_rfl) (by kernel_rfl) (by kernel_rfl) (fun _ _ _ h => h) (Or.inl ⟨by rfl, ?y128⟩) hHeld ?t128
      case y128 => (intro wx hSw; go_simp <;> with_reducible rfl)
      simp only [Act.put, List.setIfInBounds_toArray, List.set_cons_zero, List.set_cons_succ]
      refine take_at (i := 8) (v := ?v129) rfl (by kernel_rfl) (by kernel_rfl) (by kernel_rfl) (fun _ _ _ h => h) (Or.inl ⟨by rfl, ?y129⟩) hHeld ?t129
      case y129 => (intro wx hSw; go_simp <;> with_reducible rfl)
      simp only [Act.put, List.setIfInBounds_toArray, List.set_cons_zero, List.set_cons_succ]
      refine take_at (i := 9) (v := ?v130) rfl (by kernel_rfl) (by kernel_rfl) (by kernel_rfl) (fun _ _ _ h => h) (Or.inl ⟨by rfl, ?y130⟩) hHeld ?t130
      case y130 => (intro wx hSw; have hi0 : (j : Int) < 6 := (by omega); go_simp <;> with_reducible rfl)
      simp only [Act.put, List.setIfInBounds_toArray, List.set_cons_zero, List.set_cons_succ]
      refine take_at (i := 10) (v := ?v131) rfl (by kernel_rfl) (by kernel_rfl) (by kernel_rfl) (fun _ _ _ h => h) (Or.inl ⟨by rfl, ?y131⟩) hHeld ?t131
      case y131 => (intro wx hSw; have hi0 : (i : Int) < 6 := (by omega); go_simp <;> with_reducible rfl)
      simp only [Act.put, List.setIfInBounds_toArray, List.set_cons_zero, List.set_cons_succ]
      refine take_at (i := 11) (v := ?v132) rfl (by kernel_rfl) (by kernel_rfl) (by kernel_rfl) (fun _ _ _ h => h) (Or.inl ⟨by rfl, ?y132⟩) hHeld ?t132
      case y132 => (intro wx hSw; have hc0 : wx.cell? ⟨w.heap.size, 7 + j * 6 + i, none⟩ = some (.int .i64 (g (7 + j * 6 + i))) := row_c hSw (7 + j * 6 + i) (by omega); go_simp <;> with_reducible rfl)
      simp only [Act.put, List.setIfInBounds_toArray, List.set_cons_zero, List.set_cons_succ]
      refine take_at (i := 12) (v := ?v133) rfl (by kernel_rfl) (by kernel_rfl) (by kernel_rfl) (fun _ _ _ h => h) (Or.inl ⟨by rfl, ?y133⟩) hHeld ?t133
      case y133 => (intro wx hSw; have hq : (g (7 + i * 6 + j)) = (g (7 + j * 6 + i)) := hS i (by omega) j (by omega); go_simp <;> with_reducible rfl)
      simp only [Act.put, List.setIfInBounds_toArray, List.set_cons_zero, List.set_cons_succ]
      refine wpAnyH_done (by kernel_rfl) ?_ _
      clear hHeld
      go_wp2_with fail
      have hs1 : Hid (even_xS_l1 () (j + 1) = ()) := rfl
      rw [hJ1.out]
      intro G_ hG_
      exact hG_ () _ _ _ _ _ _ _ _ _ _ _ _ _ _ _ _ _ _ _ _ _ _ _ _ _ _ _ _ _ _ _ _ _ _ _ _ _ _ _ _ _ _ _ _ _ _ _ _ _ _ _ _ _ _ _ (by first | exact hs1 | exact (trivial : True)) rfl (Below.drew Kl1) B0_l1.drew B1_l1.drew
    · intro a Wl1 hI R
      rw [hJ1.out] at hI
      refine hI _ ?_
      clear hI hJ1
      intro r3 t1_0 t1_2 t1_3 t1_4 t1_6 t1_7 t1_8 t1_9 t1_10 t1_11 t1_12 t1_13 t1_14 t1_15 t1_16 t1_17 t1_18 t1_19 t1_20 t1_21 t1_22 t1_23 t1_24 t1_25 t1_26 t1_27 t1_28 t1_29 t1_30 t1_31 t1_32 t1_33 t1_34 t1_35 t1_36 t1_37 t1_39 t1_40 t1_43 t1_44 t1_45 t1_46 t1_47 t1_48 t1_49 t1_50 t1_51 t1_52 t1_53 t1_54 t1_55 t1_56 t1_57 t1_58 t1_59 E3 ea Kl1 B0_l1 B1_l1
      subst ea
      have zl1_B0 := B0_l1.lies
      have zl1_B1 := B1_l1.lies
      go_wp2_with fail
      have hs0 : Hid (even_xS_l0 () (i + 1) = ()) := rfl
      rw [hJ0.out]
      intro G_ hG_
      exact hG_ () _ _ _ _ _ _ _ _ _ _ _ _ _ _ _ _ _ _ _ _ _ _ _ _ _ _ _ _ _ _ _ _ _ _ _ _ _ _ _ _ _ _ _ _ _ _ _ _ _ _ _ _ _ _ _ _ _ _ (by first | exact hs0 | exact (trivial : True)) rfl Kl1 B0_l1 B1_l1
  · intro a Wl0 hI R
    rw [hJ0.out] at hI
    refine hI _ ?_
    clear hI hJ0
    intro r3 t0_0 t0_2 t0_3 t0_4 t0_5 t0_6 t0_7 t0_8 t0_9 t0_10 t0_11 t0_12 t0_13 t0_14 t0_15 t0_16 t0_17 t0_18 t0_19 t0_20 t0_21 t0_22 t0_23 t0_24 t0_25 t0_26 t0_27 t0_28 t0_29 t0_30 t0_31 t0_32 t0_33 t0_34 t0_35 t0_36 t0_37 t0_39 t0_40 t0_41 t0_42 t0_43 t0_44 t0_45 t0_46 t0_47 t0_48 t0_49 t0_50 t0_51 t0_52 t0_53 t0_54 t0_55 t0_56 t0_57 t0_58 t0_59 E3 ea Kl0 B0_l0 B1_l0
    subst ea
    have zl0_B0 := B0_l0.lies
    have zl0_B1 := B1_l0.lies
    go_wp2
    go_ret
    exact ⟨rfl, Kl0⟩
theorem even_any (g : Nat → Int) (w : World) (E : EvenG g) :
    Calls Try.prog 14 #[.agg (row 43 g).toArray] w fun e w' => e = .returned (.bool true) ∧ Below w.heap.size w w' := by
  obtain ⟨N, n, h1, h2, h3, h4, _, _⟩ := E.q.out
  exact even_x g w N n h1 h2 h3 h4 E.p
end Go.Proofs.Ytpjobkbefgehjaa
