/-
  Walks of package alidaderef06, for the seat Ytcnbcdnjogopdaa. (Made by mkref06.py.)
-/
import Derived.Test.YtcnbcdnjogopdaaBLeaf
import Derived.Handy
import Derived.Deep.RegionHeld3
namespace Go.Proofs.Ytcnbcdnjogopdaa
open Go.RowKit

set_option maxRecDepth 100000 in
set_option maxHeartbeats 2000000 in
theorem zApply_any (b : Nat) (bad : Bool) (m : Nat → Int) (p : Nat → Int) (n : Nat) (w : World) (hw : Fl b bad w) (hb : Hid (bad = false)) (h1 : 1 ≤ n) (h6 : n ≤ 6) :
    Calls Try.prog 17 #[.pointer (some ⟨b, 0, none⟩), .agg (row 36 m).toArray, .agg (row 6 p).toArray, .int .i64 (n : Int)] w fun e w' => e = .returned (.agg (row 6 ((zApplyS bad m p n).1)).toArray) ∧ Fl b (zApplyS bad m p n).2 w' ∧ Kept b w w' := by
  have hl := hw.lies
  go_enter Try.func17, Try.ntmps17
  have y1_BF : b < w.heap.size := hw.lies
  have y2_BF : b < w.heap.size + 1 := (Nat.lt_succ_of_lt hw.lies)
  have y2_B0 : w.heap.size < w.heap.size + 1 := (Nat.lt_succ_self _)
  have y3_BF : b < w.heap.size + 1 + 1 := (Nat.lt_succ_of_lt (Nat.lt_succ_of_lt hw.lies))
  have y3_B0 : w.heap.size < w.heap.size + 1 + 1 := (Nat.lt_succ_of_lt (Nat.lt_succ_self _))
  have y3_B1 : w.heap.size + 1 < w.heap.size + 1 + 1 := (Nat.lt_succ_self _)
  have y4_BF : b < w.heap.size + 1 + 1 + 1 := (Nat.lt_succ_of_lt (Nat.lt_succ_of_lt (Nat.lt_succ_of_lt hw.lies)))
  have y4_B0 : w.heap.size < w.heap.size + 1 + 1 + 1 := (Nat.lt_succ_of_lt (Nat.lt_succ_of_lt (Nat.lt_succ_self _)))
  have y4_B1 : w.heap.size + 1 < w.heap.size + 1 + 1 + 1 := (Nat.lt_succ_of_lt (Nat.lt_succ_self _))
  have y4_B2 : w.heap.size + 1 + 1 < w.heap.size + 1 + 1 + 1 := (Nat.lt_succ_self _)
  go_wp2_with fail
  refine (zsize_any b bad (n : Int) _ ((((hw.alloc _).alloc _).alloc _).alloc _)).mono ?_
  rintro e w1 ⟨rfl, f1, k1⟩
  rw [(size_in hb h1 h6)] at f1 ⊢
  dsimp only at f1 ⊢
  have K1 : Kept b w w1 := Kept.trans (((((Kept.refl b w).al _).al _).al _).al _) k1
  have B0_1 : Arr w.heap.size (row 36 m) w1 := ((((Arr_at _ _ (row 36 m) _ (by simp)).alloc _).alloc _).alloc _).kept k1 (Nat.ne_of_gt y1_BF)
  have B1_1 : Arr (w.heap.size + 1) (row 6 p) w1 := (((Arr_at _ _ (row 6 p) _ (by simp)).alloc _).alloc _).kept k1 (Nat.ne_of_gt y2_BF)
  have B2_1 : Arr (w.heap.size + 1 + 1) [.int .i64 0, .int .i64 0, .int .i64 0, .int .i64 0, .int .i64 0, .int .i64 0] w1 := ((Arr_at _ _ [.int .i64 0, .int .i64 0, .int .i64 0, .int .i64 0, .int .i64 0, .int .i64 0] _ (by simp)).alloc _).kept k1 (Nat.ne_of_gt y3_BF)
  have B3_1 : Arr (w.heap.size + 1 + 1 + 1) [.int .i64 0, .int .i64 0, .int .i64 0, .int .i64 0, .int .i64 0, .int .i64 0] w1 := (Arr_at _ _ [.int .i64 0, .int .i64 0, .int .i64 0, .int .i64 0, .int .i64 0, .int .i64 0] _ (by simp)).kept k1 (Nat.ne_of_gt y4_BF)
  have z1 := B3_1.lies
  clear k1
  go_wp2_with fail
  obtain ⟨J0, hJ0⟩ : ∃ J : Nat → Act → World → Prop, Hid (J = fun i a Wl0 => ∀ G_ : Prop, (∀ (s0 : (Nat → Int) × Bool) (t0_1 t0_2 t0_4 t0_7 t0_11 t0_12 t0_13 t0_14 t0_15 t0_16 t0_17 t0_18 t0_19 t0_20 t0_21 t0_22 t0_23 t0_24 t0_25 t0_26 t0_27 t0_28 t0_29 t0_30 t0_31 t0_32 t0_33 t0_34 t0_35 t0_36 t0_37 t0_38 t0_39 t0_40 t0_41 t0_42 t0_43 t0_44 t0_45 t0_46 t0_47 t0_48 t0_49 t0_50 : Value), Hid (zApplyS_l0 m p n ((fun _ => 0), bad) i = s0) → a = { tmps := #[.pointer (some ⟨b, 0, none⟩), t0_1, t0_2, .int .i64 (n : Int), t0_4, .pointer (some ⟨w.heap.size, 0, none⟩), .pointer (some ⟨w.heap.size + 1, 0, none⟩), t0_7, .pointer (some ⟨w.heap.size + 1 + 1, 0, none⟩), .pointer (some ⟨w.heap.size + 1 + 1 + 1, 0, none⟩), .int .i64 (i : Int), t0_11, t0_12, t0_13, t0_14, t0_15, t0_16, t0_17, t0_18, t0_19, t0_20, t0_21, t0_22, t0_23, t0_24, t0_25, t0_26, t0_27, t0_28, t0_29, t0_30, t0_31, t0_32, t0_33, t0_34, t0_35, t0_36, t0_37, t0_38, t0_39, t0_40, t0_41, t0_42, t0_43, t0_44, t0_45, t0_46, t0_47, t0_48, t0_49, t0_50], defers := [] } → Kept b w Wl0 → Fl b s0.2 Wl0 → Arr w.heap.size (row 36 m) Wl0 → Arr (w.heap.size + 1) (row 6 p) Wl0 → Arr (w.heap.size + 1 + 1) (row 6 (fun _ => 0)) Wl0 → Arr (w.heap.size + 1 + 1 + 1) (row 6 s0.1) Wl0 → G_) → G_) := ⟨_, rfl⟩
  refine rounds_up J0 n ?_ ?_ ?_
  · rw [hJ0.out]
    intro G_ hG_
    exact hG_ ((fun _ => 0), bad) _ _ _ _ _ _ _ _ _ _ _ _ _ _ _ _ _ _ _ _ _ _ _ _ _ _ _ _ _ _ _ _ _ _ _ _ _ _ _ _ _ _ _ _ rfl rfl K1 f1 B0_1 B1_1 B2_1 B3_1
  · intro i a Wl0 hi hI R hR
    rw [hJ0.out] at hI
    refine hI _ ?_
    clear hI
    intro s0 t0_1 t0_2 t0_4 t0_7 t0_11 t0_12 t0_13 t0_14 t0_15 t0_16 t0_17 t0_18 t0_19 t0_20 t0_21 t0_22 t0_23 t0_24 t0_25 t0_26 t0_27 t0_28 t0_29 t0_30 t0_31 t0_32 t0_33 t0_34 t0_35 t0_36 t0_37 t0_38 t0_39 t0_40 t0_41 t0_42 t0_43 t0_44 t0_45 t0_46 t0_47 t0_48 t0_49 t0_50 El0 ea Kl0 BF_l0 B0_l0 B1_l0 B2_l0 B3_l0
    subst ea
    have zl0_BF := BF_l0.lies
    have zl0_B0 := B0_l0.lies
    have zl0_B1 := B1_l0.lies
    have zl0_B2 := B2_l0.lies
    have zl0_B3 := B3_l0.lies
    go_wp2_with fail
    obtain ⟨J1, hJ1⟩ : ∃ J : Nat → Act → World → Prop, Hid (J = fun k a Wl1 => ∀ G_ : Prop, (∀ (s1 : Int × Bool) (t1_1 t1_2 t1_4 t1_7 t1_13 t1_14 t1_15 t1_16 t1_17 t1_18 t1_19 t1_20 t1_21 t1_22 t1_23 t1_24 t1_25 t1_26 t1_27 t1_28 t1_29 t1_30 t1_31 t1_32 t1_33 t1_34 t1_35 t1_36 t1_37 t1_38 t1_39 t1_40 t1_41 t1_42 t1_43 t1_44 t1_45 t1_46 t1_47 t1_48 t1_49 t1_50 : Value), Hid (zApplyS_l1 m p i (0, s0.2) k = s1) → a = { tmps := #[.pointer (some ⟨b, 0, none⟩), t1_1, t1_2, .int .i64 (n : Int), t1_4, .pointer (some ⟨w.heap.size, 0, none⟩), .pointer (some ⟨w.heap.size + 1, 0, none⟩), t1_7, .pointer (some ⟨w.heap.size + 1 + 1, 0, none⟩), .pointer (some ⟨w.heap.size + 1 + 1 + 1, 0, none⟩), .int .i64 (i : Int), .int .i64 s1.1, .int .i64 (k : Int), t1_13, t1_14, t1_15, t1_16, t1_17, t1_18, t1_19, t1_20, t1_21, t1_22, t1_23, t1_24, t1_25, t1_26, t1_27, t1_28, t1_29, t1_30, t1_31, t1_32, t1_33, t1_34, t1_35, t1_36, t1_37, t1_38, t1_39, t1_40, t1_41, t1_42, t1_43, t1_44, t1_45, t1_46, t1_47, t1_48, t1_49, t1_50], defers := [] } → Kept b w Wl1 → Fl b s1.2 Wl1 → Arr w.heap.size (row 36 m) Wl1 → Arr (w.heap.size + 1) (row 6 p) Wl1 → Arr (w.heap.size + 1 + 1) (row 6 (fun _ => 0)) Wl1 → Arr (w.heap.size + 1 + 1 + 1) (row 6 s0.1) Wl1 → G_) → G_) := ⟨_, rfl⟩
    refine rounds_up J1 n ?_ ?_ ?_
    · rw [hJ1.out]
      intro G_ hG_
      exact hG_ (0, s0.2) _ _ _ _ _ _ _ _ _ _ _ _ _ _ _ _ _ _ _ _ _ _ _ _ _ _ _ _ _ _ _ _ _ _ _ _ _ _ _ _ _ _ rfl rfl Kl0 BF_l0 B0_l0 B1_l0 B2_l0 B3_l0
    · intro k a Wl1 hk hI R hR
      rw [hJ1.out] at hI
      refine hI _ ?_
      clear hI
      intro s1 t1_1 t1_2 t1_4 t1_7 t1_13 t1_14 t1_15 t1_16 t1_17 t1_18 t1_19 t1_20 t1_21 t1_22 t1_23 t1_24 t1_25 t1_26 t1_27 t1_28 t1_29 t1_30 t1_31 t1_32 t1_33 t1_34 t1_35 t1_36 t1_37 t1_38 t1_39 t1_40 t1_41 t1_42 t1_43 t1_44 t1_45 t1_46 t1_47 t1_48 t1_49 t1_50 El1 ea Kl1 BF_l1 B0_l1 B1_l1 B2_l1 B3_l1
      subst ea
      have zl1_BF := BF_l1.lies
      have zl1_B0 := B0_l1.lies
      have zl1_B1 := B1_l1.lies
      have zl1_B2 := B2_l1.lies
      have zl1_B3 := B3_l1.lies
      go_wp2_with fail
      refine wp_region_held_drew (S := fun w' => Arr w.heap.size (row 36 m) w' ∧ Arr (w.heap.size + 1) (row 6 p) w') (by kernel_rfl) ⟨B0_l1.drew, B1_l1.drew⟩ (fun hHeld => ?_)
      refine take_at (i := 0) (v := ?v97) rfl (by kernel_rfl) (by kernel_rfl) (by kernel_rfl) (fun _ _ _ h => h) (Or.inl ⟨by rfl, ?y97⟩) hHeld ?t97
      case y97 => (intro wx hSw; go_simp <;> with_reducible rfl)
      simp only [Act.put, List.setIfInBounds_toArray, List.set_cons_zero, List.set_cons_succ]
      refine take_at (i := 1) (v := ?v98) rfl (by kernel_rfl) (by kernel_rfl) (by kernel_rfl) (fun _ _ _ h => h) (Or.inl ⟨by rfl, ?y98⟩) hHeld ?t98
      case y98 => (intro wx hSw; go_simp <;> with_reducible rfl)
      simp only [Act.put, List.setIfInBounds_toArray, List.set_cons_zero, List.set_cons_succ]
      refine take_at (i := 2) (v := ?v99) rfl (by kernel_rfl) (by kernel_rfl) (by kernel_rfl) (fun _ _ _ h => h) (Or.inl ⟨by rfl, ?y99⟩) hHeld ?t99
      case y99 => (intro wx hSw; go_simp <;> with_reducible rfl)
      simp only [Act.put, List.setIfInBounds_toArray, List.set_cons_zero, List.set_cons_succ]
      refine take_at (i := 3) (v := ?v100) rfl (by kernel_rfl) (by kernel_rfl) (by kernel_rfl) (fun _ _ _ h => h) (Or.inl ⟨by rfl, ?y100⟩) hHeld ?t100
      case y100 => (intro wx hSw; go_simp <;> with_reducible rfl)
      simp only [Act.put, List.setIfInBounds_toArray, List.set_cons_zero, List.set_cons_succ]
      refine take_at (i := 4) (v := ?v101) rfl (by kernel_rfl) (by kernel_rfl) (by kernel_rfl) (fun _ _ _ h => h) (Or.inl ⟨by rfl, ?y101⟩) hHeld ?t101
      case y101 => (intro wx hSw; go_simp <;> with_reducible rfl)
      simp only [Act.put, List.setIfInBounds_toArray, List.set_cons_zero, List.set_cons_succ]
      refine take_at (i := 5) (v := ?v102) rfl (by kernel_rfl) (by kernel_rfl) (by kernel_rfl) (fun _ _ _ h => h) (Or.inl ⟨by rfl, ?y102⟩) hHeld ?t102
      case y102 => (intro wx hSw; have hi0 : (i : Int) < 6 := (by omega); go_simp <;> with_reducible rfl)
      simp only [Act.put, List.setIfInBounds_toArray, List.set_cons_zero, List.set_cons_succ]
      refine take_at (i := 6) (v := ?v103) rfl (by kernel_rfl) (by kernel_rfl) (by kernel_rfl) (fun _ _ _ h => h) (Or.inl ⟨by rfl, ?y103⟩) hHeld ?t103
      case y103 => (intro wx hSw; have hi0 : (k : Int) < 6 := (by omega); go_simp <;> with_reducible rfl)
      simp only [Act.put, List.setIfInBounds_toArray, List.set_cons_zero, List.set_cons_succ]
      refine take_at (i := 7) (v := ?v104) rfl (by kernel_rfl) (by kernel_rfl) (by kernel_rfl) (fun _ _ _ h => h) (Or.inl ⟨by rfl, ?y104⟩) hHeld ?t104
      case y104 => (intro wx hSw; have hc0 : wx.cell? ⟨w.heap.size, i * 6 + k, none⟩ = some (.int .i64 (m (i * 6 + k))) := row_c hSw.1 (i * 6 + k) (by omega); go_simp <;> with_reducible rfl)
      simp only [Act.put, List.setIfInBounds_toArray, List.set_cons_zero, List.set_cons_succ]
      refine take_at (i := 8) (v := ?v105) rfl (by kernel_rfl) (by kernel_rfl) (by kernel_rfl) (fun _ _ _ h => h) (Or.inl ⟨by rfl, ?y105⟩) hHeld ?t105
      case y105 => (intro wx hSw; go_simp <;> with_reducible rfl)
      simp only [Act.put, List.setIfInBounds_toArray, List.set_cons_zero, List.set_cons_succ]
      refine take_at (i := 9) (v := ?v106) rfl (by kernel_rfl) (by kernel_rfl) (by kernel_rfl) (fun _ _ _ h => h) (Or.inl ⟨by rfl, ?y106⟩) hHeld ?t106
      case y106 => (intro wx hSw; have hi0 : (k : Int) < 6 := (by omega); go_simp <;> with_reducible rfl)
      simp only [Act.put, List.setIfInBounds_toArray, List.set_cons_zero, List.set_cons_succ]
      refine take_at (i := 10) (v := ?v107) rfl (by kernel_rfl) (by kernel_rfl) (by kernel_rfl) (fun _ _ _ h => h) (Or.inl ⟨by rfl, ?y107⟩) hHeld ?t107
      case y107 => (intro wx hSw; have hc0 : wx.cell? ⟨w.heap.size + 1, k, none⟩ = some (.int .i64 (p k)) := row_c hSw.2 k (by omega); go_simp <;> with_reducible rfl)
      simp only [Act.put, List.setIfInBounds_toArray, List.set_cons_zero, List.set_cons_succ]
      refine call_at (i := 11) (by kernel_rfl) rfl (fun K hK => ?_)
      go_simp
      refine (rMul_any b s1.2 (m (i * 6 + k)) (p k) _ BF_l1.drew).mono ?_
      rintro e w2 ⟨rfl, f2, k2⟩
      generalize e2 : mulS s1.2 (m (i * 6 + k)) (p k) = r2 at f2 ⊢
      have E2 : Hid _ := e2
      clear e2
      have K2 : Kept b w w2 := Kept.trans Kl1.drew k2
      have B0_2 : Arr w.heap.size (row 36 m) w2 := B0_l1.drew.kept k2 (Nat.ne_of_gt y1_BF)
      have B1_2 : Arr (w.heap.size + 1) (row 6 p) w2 := B1_l1.drew.kept k2 (Nat.ne_of_gt y2_BF)
      have B2_2 : Arr (w.heap.size + 1 + 1) (row 6 (fun _ => 0)) w2 := B2_l1.drew.kept k2 (Nat.ne_of_gt y3_BF)
      have B3_2 : Arr (w.heap.size + 1 + 1 + 1) (row 6 s0.1) w2 := B3_l1.drew.kept k2 (Nat.ne_of_gt y4_BF)
      have z2 := B3_2.lies
      clear hHeld
      refine hK.out _ _ ⟨B0_2, B1_2⟩ (fun hHeld => ?_)
      clear hK K BF_l1 B0_l1 B1_l1 B2_l1 B3_l1 k2
      refine call_at (i := 12) (by kernel_rfl) rfl (fun K hK => ?_)
      go_simp
      refine (rAdd_any b r2.2 s1.1 r2.1 _ f2).mono ?_
      rintro e w3 ⟨rfl, f3, k3⟩
      generalize e3 : addS r2.2 s1.1 r2.1 = r3 at f3 ⊢
      have E3 : Hid _ := e3
      clear e3
      have K3 : Kept b w w3 := Kept.trans K2 k3
      have B0_3 : Arr w.heap.size (row 36 m) w3 := B0_2.kept k3 (Nat.ne_of_gt y1_BF)
      have B1_3 : Arr (w.heap.size + 1) (row 6 p) w3 := B1_2.kept k3 (Nat.ne_of_gt y2_BF)
      have B2_3 : Arr (w.heap.size + 1 + 1) (row 6 (fun _ => 0)) w3 := B2_2.kept k3 (Nat.ne_of_gt y3_BF)
      have B3_3 : Arr (w.heap.size + 1 + 1 + 1) (row 6 s0.1) w3 := B3_2.kept k3 (Nat.ne_of_gt y4_BF)
      have z3 := B3_3.lies
      clear hHeld
      refine hK.out _ _ ⟨B0_3, B1_3⟩ (fun hHeld => ?_)
      clear hK K K2 f2 B0_2 B1_2 B2_2 B3_2 k3
      refine take_at (i := 13) (v := ?v108) rfl (by kernel_rfl) (by kernel_rfl) (by kernel_rfl) (fun _ _ _ h => h) (Or.inl ⟨by rfl, ?y108⟩) hHeld ?t108
      case y108 => (intro wx hSw; go_simp <;> with_reducible rfl)
      simp only [Act.put, List.setIfInBounds_toArray, List.set_cons_zero, List.set_cons_succ]
      refine wpAnyH_done (by kernel_rfl) ?_ _
      clear hHeld
      go_wp2_with fail
      have hs1 : Hid (zApplyS_l1 m p i (0, s0.2) (k + 1) = (r3.1, r3.2)) := by show _ = _; unfold zApplyS_l1; simp only [El1.out, E2.out, E3.out]
      rw [hJ1.out]
      intro G_ hG_
      exact hG_ (r3.1, r3.2) _ _ _ _ _ _ _ _ _ _ _ _ _ _ _ _ _ _ _ _ _ _ _ _ _ _ _ _ _ _ _ _ _ _ _ _ _ _ _ _ _ _ hs1 rfl K3 f3 B0_3 B1_3 B2_3 B3_3
    · intro a Wl1 hI R
      rw [hJ1.out] at hI
      refine hI _ ?_
      clear hI hJ1
      intro r4 t1_1 t1_2 t1_4 t1_7 t1_13 t1_14 t1_15 t1_16 t1_17 t1_18 t1_19 t1_20 t1_21 t1_22 t1_23 t1_24 t1_25 t1_26 t1_27 t1_28 t1_29 t1_30 t1_31 t1_32 t1_33 t1_34 t1_35 t1_36 t1_37 t1_38 t1_39 t1_40 t1_41 t1_42 t1_43 t1_44 t1_45 t1_46 t1_47 t1_48 t1_49 t1_50 E4 ea Kl1 BF_l1 B0_l1 B1_l1 B2_l1 B3_l1
      subst ea
      have zl1_BF := BF_l1.lies
      have zl1_B0 := B0_l1.lies
      have zl1_B1 := B1_l1.lies
      have zl1_B2 := B2_l1.lies
      have zl1_B3 := B3_l1.lies
      have c6_B3_0 : Wl1.cell? ⟨w.heap.size + 1 + 1 + 1, i, none⟩ = some (.int .i64 (s0.1 i)) := row_c B3_l1 i (by omega)
      have g6_B3_1 := row_f B3_l1 i (by omega)
      have i6_2 : (i : Int) < 6 := by omega
      go_wp2_with fail
      clear c6_B3_0 g6_B3_1 i6_2
      have hs0 : Hid (zApplyS_l0 m p n ((fun _ => 0), bad) (i + 1) = ((updF s0.1 i r4.1), r4.2)) := by show _ = _; unfold zApplyS_l0; simp only [El0.out, E4.out]
      rw [hJ0.out]
      intro G_ hG_
      exact hG_ ((updF s0.1 i r4.1), r4.2) _ _ _ _ _ _ _ _ _ _ _ _ _ _ _ _ _ _ _ _ _ _ _ _ _ _ _ _ _ _ _ _ _ _ _ _ _ _ _ _ _ _ _ _ hs0 rfl (Kl1.new _ _ (by omega) _) (BF_l1.new (w.heap.size + 1 + 1 + 1) i (Nat.ne_of_lt y4_BF) (.int .i64 r4.1)) (B0_l1.new (w.heap.size + 1 + 1 + 1) i (Nat.ne_of_lt y4_B0) (.int .i64 r4.1)) (B1_l1.new (w.heap.size + 1 + 1 + 1) i (Nat.ne_of_lt y4_B1) (.int .i64 r4.1)) (B2_l1.new (w.heap.size + 1 + 1 + 1) i (Nat.ne_of_lt y4_B2) (.int .i64 r4.1)) (row_put B3_l1 i (by omega) r4.1)
  · intro a Wl0 hI R
    rw [hJ0.out] at hI
    refine hI _ ?_
    clear hI hJ0
    intro r2 t0_1 t0_2 t0_4 t0_7 t0_11 t0_12 t0_13 t0_14 t0_15 t0_16 t0_17 t0_18 t0_19 t0_20 t0_21 t0_22 t0_23 t0_24 t0_25 t0_26 t0_27 t0_28 t0_29 t0_30 t0_31 t0_32 t0_33 t0_34 t0_35 t0_36 t0_37 t0_38 t0_39 t0_40 t0_41 t0_42 t0_43 t0_44 t0_45 t0_46 t0_47 t0_48 t0_49 t0_50 E2 ea Kl0 BF_l0 B0_l0 B1_l0 B2_l0 B3_l0
    subst ea
    have zl0_BF := BF_l0.lies
    have zl0_B0 := B0_l0.lies
    have zl0_B1 := B1_l0.lies
    have zl0_B2 := B2_l0.lies
    have zl0_B3 := B3_l0.lies
    rcases Bool.eq_false_or_eq_true r2.2 with hc1 | hc1
    · have Hhc1 : Hid (r2.2 = true) := hc1
      have c4_BF := BF_l0.cell
      go_wp2_with (refine store_stop rfl (by kernel_rfl) ?_)
      clear c4_BF
      refine Stop.mk (store_row (l' := row 6 (fun _ => 0)) rfl rfl rfl rfl B2_l0 (by simp only [row_len]) (by rw [row_len]; kernel_rfl) (row_one _ _) ?_)
      intro w3 B2_3 o3
      have K3 : Kept b w w3 := Kept.off Kl0 o3 (by omega)
      have BF_3 : Fl b r2.2 w3 := BF_l0.off o3 (Nat.ne_of_lt y3_BF)
      have B0_3 : Arr w.heap.size (row 36 m) w3 := B0_l0.off o3 (Nat.ne_of_lt y3_B0)
      have B1_3 : Arr (w.heap.size + 1) (row 6 p) w3 := B1_l0.off o3 (Nat.ne_of_lt y3_B1)
      have B3_3 : Arr (w.heap.size + 1 + 1 + 1) (row 6 r2.1) w3 := B3_l0.off o3 (Nat.ne_of_gt y4_B2)
      have z3_B2 := B2_3.lies
      have z3_BF := BF_3.lies
      have z3_B0 := B0_3.lies
      have z3_B1 := B1_3.lies
      have z3_B3 := B3_3.lies
      clear B2_l0 BF_l0 B0_l0 B1_l0 B3_l0 o3
      go_wp2_with (with_reducible refine post_stop ?_)
      refine Stop.mk ?_
      refine bodyPost_ret (v := .agg (row 6 (fun _ => 0)).toArray) (results_arr Try.results17 B2_3 rfl (by kernel_rfl) (by rw [row_len]; kernel_rfl)) rfl ?_
      have hs : zApplyS bad m p n = ((fun _ => 0), r2.2) := by unfold zApplyS; simp only [E2.out]; rw [if_pos Hhc1.out]
      rw [hs]
      exact ⟨rfl, BF_3, K3⟩
    · have Hhc1 : Hid (r2.2 = false) := hc1
      have c4_BF := BF_l0.cell
      go_wp2_with (first | (refine row_load rfl rfl rfl B3_l0 (by kernel_rfl) (by rw [row_len]; kernel_rfl) ?_) | (refine store_stop rfl (by kernel_rfl) ?_))
      clear c4_BF
      refine Stop.mk (store_row (l' := row 6 r2.1) rfl rfl rfl rfl B2_l0 (by simp only [row_len]) (by rw [row_len]; kernel_rfl) (row_one _ _) ?_)
      intro w3 B2_3 o3
      have K3 : Kept b w w3 := Kept.off Kl0 o3 (by omega)
      have BF_3 : Fl b r2.2 w3 := BF_l0.off o3 (Nat.ne_of_lt y3_BF)
      have B0_3 : Arr w.heap.size (row 36 m) w3 := B0_l0.off o3 (Nat.ne_of_lt y3_B0)
      have B1_3 : Arr (w.heap.size + 1) (row 6 p) w3 := B1_l0.off o3 (Nat.ne_of_lt y3_B1)
      have B3_3 : Arr (w.heap.size + 1 + 1 + 1) (row 6 r2.1) w3 := B3_l0.off o3 (Nat.ne_of_gt y4_B2)
      have z3_B2 := B2_3.lies
      have z3_BF := BF_3.lies
      have z3_B0 := B0_3.lies
      have z3_B1 := B1_3.lies
      have z3_B3 := B3_3.lies
      clear B2_l0 BF_l0 B0_l0 B1_l0 B3_l0 o3
      go_wp2_with (with_reducible refine post_stop ?_)
      refine Stop.mk ?_
      refine bodyPost_ret (v := .agg (row 6 r2.1).toArray) (results_arr Try.results17 B2_3 rfl (by kernel_rfl) (by rw [row_len]; kernel_rfl)) rfl ?_
      have hs : zApplyS bad m p n = (r2.1, r2.2) := by unfold zApplyS; simp only [E2.out]; rw [if_neg (by rw [Hhc1.out]; decide)]
      rw [hs]
      exact ⟨rfl, BF_3, K3⟩
end Go.Proofs.Ytcnbcdnjogopdaa
