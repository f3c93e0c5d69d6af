/-
  Walks of package alidaderef14, for the seat YtoadcnhcfodkgaaGreatDoor. (Made by mkref14.py.)
-/
import Derived.Test.YtoadcnhcfodkgaaGreatDoorFRLeaf
import Derived.Handy
import Derived.Deep.RegionHeld3
namespace Go.Proofs.YtoadcnhcfodkgaaGreatDoor
open Go.RowKit

set_option maxRecDepth 100000 in
set_option maxHeartbeats 20000000 in
theorem fmean_any (b : Nat) (bad : Bool) (x : Nat → Int) (i : Nat) (w : World) (hw : Fl b bad w) (hi : i < 6) :
    Calls Tryz.prog 92 #[.pointer (some ⟨b, 0, none⟩), .agg (row 78 x).toArray, .int .i64 (i : Int)] w fun e w' => e = .returned (.int .i64 ((fmeanS bad x i).1)) ∧ Fl b (fmeanS bad x i).2 w' ∧ Kept b w w' := by
  have hl := hw.lies
  go_enter Tryz.func92, Tryz.ntmps92
  have y1_BF : b < w.heap.size := hw.lies
  go_wp2_with fail
  refine wp_region_held_drew (S := fun w' => Arr w.heap.size (row 78 x) w') (by kernel_rfl) (Arr_at _ _ (row 78 x) _ (by simp)).drew (fun hHeld => ?_)
  refine take_at (i := 0) (v := ?v1) rfl (by kernel_rfl) (by kernel_rfl) (by kernel_rfl) (fun _ _ _ h => h) (Or.inl ⟨by rfl, ?y1⟩) hHeld ?t1
  case y1 => (intro wx hSw; go_simp <;> with_reducible rfl)
  simp only [Act.put, List.setIfInBounds_toArray, List.set_cons_zero, List.set_cons_succ]
  refine take_at (i := 1) (v := ?v2) rfl (by kernel_rfl) (by kernel_rfl) (by kernel_rfl) (fun _ _ _ h => h) (Or.inl ⟨by rfl, ?y2⟩) hHeld ?t2
  case y2 => (intro wx hSw; go_simp <;> with_reducible rfl)
  simp only [Act.put, List.setIfInBounds_toArray, List.set_cons_zero, List.set_cons_succ]
  refine take_at (i := 2) (v := ?v3) rfl (by kernel_rfl) (by kernel_rfl) (by kernel_rfl) (fun _ _ _ h => h) (Or.inl ⟨by rfl, ?y3⟩) hHeld ?t3
  case y3 => (intro wx hSw; go_simp <;> with_reducible rfl)
  simp only [Act.put, List.setIfInBounds_toArray, List.set_cons_zero, List.set_cons_succ]
  refine take_at (i := 3) (v := ?v4) rfl (by kernel_rfl) (by kernel_rfl) (by kernel_rfl) (fun _ _ _ h => h) (Or.inl ⟨by rfl, ?y4⟩) hHeld ?t4
  case y4 => (intro wx hSw; go_simp <;> with_reducible rfl)
  simp only [Act.put, List.setIfInBounds_toArray, List.set_cons_zero, List.set_cons_succ]
  refine take_at (i := 4) (v := ?v5) rfl (by kernel_rfl) (by kernel_rfl) (by kernel_rfl) (fun _ _ _ h => h) (Or.inl ⟨by rfl, ?y5⟩) hHeld ?t5
  case y5 => (intro wx hSw; have hi0 : (i : Int) < 6 := (by omega); go_simp <;> with_reducible rfl)
  simp only [Act.put, List.setIfInBounds_toArray, List.set_cons_zero, List.set_cons_succ]
  refine take_at (i := 5) (v := ?v6) rfl (by kernel_rfl) (by kernel_rfl) (by kernel_rfl) (fun _ _ _ h => h) (Or.inl ⟨by rfl, ?y6⟩) hHeld ?t6
  case y6 => (intro wx hSw; have hc0 : wx.cell? ⟨w.heap.size, i, none⟩ = some (.int .i64 (x i)) := row_c hSw i (by omega); go_simp <;> with_reducible rfl)
  simp only [Act.put, List.setIfInBounds_toArray, List.set_cons_zero, List.set_cons_succ]
  refine take_at (i := 7) (v := ?v7) rfl (by kernel_rfl) (by kernel_rfl) (by kernel_rfl) (fun _ _ _ h => h) (Or.inl ⟨by rfl, ?y7⟩) hHeld ?t7
  case y7 => (intro wx hSw; go_simp <;> with_reducible rfl)
  simp only [Act.put, List.setIfInBounds_toArray, List.set_cons_zero, List.set_cons_succ]
  refine take_at (i := 8) (v := ?v8) rfl (by kernel_rfl) (by kernel_rfl) (by kernel_rfl) (fun _ _ _ h => h) (Or.inl ⟨by rfl, ?y8⟩) hHeld ?t8
  case y8 => (intro wx hSw; go_simp <;> with_reducible rfl)
  simp only [Act.put, List.setIfInBounds_toArray, List.set_cons_zero, List.set_cons_succ]
  refine take_at (i := 9) (v := ?v9) rfl (by kernel_rfl) (by kernel_rfl) (by kernel_rfl) (fun _ _ _ h => h) (Or.inl ⟨by rfl, ?y9⟩) hHeld ?t9
  case y9 => (intro wx hSw; have hi0 : (i : Int) < 6 := (by omega); go_simp <;> with_reducible rfl)
  simp only [Act.put, List.setIfInBounds_toArray, List.set_cons_zero, List.set_cons_succ]
  refine take_at (i := 10) (v := ?v10) rfl (by kernel_rfl) (by kernel_rfl) (by kernel_rfl) (fun _ _ _ h => h) (Or.inl ⟨by rfl, ?y10⟩) hHeld ?t10
  case y10 => (intro wx hSw; have hc0 : wx.cell? ⟨w.heap.size, i, none⟩ = some (.int .i64 (x i)) := row_c hSw i (by omega); go_simp <;> with_reducible rfl)
  simp only [Act.put, List.setIfInBounds_toArray, List.set_cons_zero, List.set_cons_succ]
  refine call_at (i := 6) (by kernel_rfl) rfl (fun K hK => ?_)
  go_simp
  refine (rAdd_any b bad 0 (x i) _ (hw.alloc _).drew).mono ?_
  rintro e w1 ⟨rfl, f1, k1⟩
  generalize e1 : addS bad 0 (x i) = r1 at f1 ⊢
  have E1 : Hid _ := e1
  clear e1
  have K1 : Kept b w w1 := Kept.trans ((Kept.refl b w).al _).drew k1
  have B0_1 : Arr w.heap.size (row 78 x) w1 := (Arr_at _ _ (row 78 x) _ (by simp)).drew.kept k1 (Nat.ne_of_gt y1_BF)
  have z1 := B0_1.lies
  clear hHeld
  refine hK.out _ _ B0_1 (fun hHeld => ?_)
  clear hK K k1
  refine call_at (i := 11) (by kernel_rfl) rfl (fun K hK => ?_)
  go_simp
  refine (rAdd_any b r1.2 r1.1 (x i) _ f1).mono ?_
  rintro e w2 ⟨rfl, f2, k2⟩
  generalize e2 : addS r1.2 r1.1 (x i) = r2 at f2 ⊢
  have E2 : Hid _ := e2
  clear e2
  have K2 : Kept b w w2 := Kept.trans K1 k2
  have B0_2 : Arr w.heap.size (row 78 x) w2 := B0_1.kept k2 (Nat.ne_of_gt y1_BF)
  have z2 := B0_2.lies
  clear hHeld
  refine hK.out _ _ B0_2 (fun hHeld => ?_)
  clear hK K K1 f1 B0_1 k2
  refine take_at (i := 12) (v := ?v11) rfl (by kernel_rfl) (by kernel_rfl) (by kernel_rfl) (fun _ _ _ h => h) (Or.inl ⟨by rfl, ?y11⟩) hHeld ?t11
  case y11 => (intro wx hSw; go_simp <;> with_reducible rfl)
  simp only [Act.put, List.setIfInBounds_toArray, List.set_cons_zero, List.set_cons_succ]
  refine wpAnyH_done (by kernel_rfl) ?_ _
  clear hHeld
  go_wp2_with fail
  obtain ⟨J0, hJ0⟩ : ∃ J : Nat → Act → World → Prop, Hid (J = fun k a Wl0 => ∀ G_ : Prop, (∀ (s0 : Int × Bool) (t0_1 t0_3 t0_5 t0_6 t0_9 t0_10 t0_11 t0_12 t0_13 t0_14 t0_15 t0_16 t0_17 t0_18 t0_19 t0_20 t0_21 t0_22 t0_23 t0_24 t0_25 t0_26 t0_27 t0_28 t0_29 t0_30 t0_31 t0_32 t0_33 t0_34 t0_35 : Value), Hid (fmeanS_l0 x i (r2.1, r2.2) k = s0) → a = { tmps := #[.pointer (some ⟨b, 0, none⟩), t0_1, .int .i64 (i : Int), t0_3, .pointer (some ⟨w.heap.size, 0, none⟩), t0_5, t0_6, .int .i64 s0.1, .int .i64 ((k + 1 : Nat) : Int), t0_9, t0_10, t0_11, t0_12, t0_13, t0_14, t0_15, t0_16, t0_17, t0_18, t0_19, t0_20, t0_21, t0_22, t0_23, t0_24, t0_25, t0_26, t0_27, t0_28, t0_29, t0_30, t0_31, t0_32, t0_33, t0_34, t0_35], defers := [] } → Kept b w Wl0 → Fl b s0.2 Wl0 → Arr w.heap.size (row 78 x) Wl0 → G_) → G_) := ⟨_, rfl⟩
  refine rounds_up J0 12 ?_ ?_ ?_
  · rw [hJ0.out]
    intro G_ hG_
    exact hG_ (r2.1, r2.2) _ _ _ _ _ _ _ _ _ _ _ _ _ _ _ _ _ _ _ _ _ _ _ _ _ _ _ _ _ _ _ rfl rfl K2 f2 B0_2
  · intro k a Wl0 hk hI R hR
    rw [hJ0.out] at hI
    refine hI _ ?_
    clear hI
    intro s0 t0_1 t0_3 t0_5 t0_6 t0_9 t0_10 t0_11 t0_12 t0_13 t0_14 t0_15 t0_16 t0_17 t0_18 t0_19 t0_20 t0_21 t0_22 t0_23 t0_24 t0_25 t0_26 t0_27 t0_28 t0_29 t0_30 t0_31 t0_32 t0_33 t0_34 t0_35 El0 ea Kl0 BF_l0 B0_l0
    subst ea
    have zl0_BF := BF_l0.lies
    have zl0_B0 := B0_l0.lies
    have c3_B0_0 : Wl0.cell? ⟨w.heap.size, (k + 1 : Nat) * 6 + i, none⟩ = some (.int .i64 (x ((k + 1 : Nat) * 6 + i))) := row_c B0_l0 ((k + 1 : Nat) * 6 + i) (by omega)
    have i3_1 : ((k + 1 : Nat) : Int) < 13 := by omega
    have i3_2 : (i : Int) < 6 := by omega
    go_wp2_with fail
    refine (rAdd_any b s0.2 s0.1 (x ((k + 1 : Nat) * 6 + i)) _ BF_l0).mono ?_
    rintro e w3 ⟨rfl, f3, k3⟩
    generalize e3 : addS s0.2 s0.1 (x ((k + 1 : Nat) * 6 + i)) = r3 at f3 ⊢
    have E3 : Hid _ := e3
    clear e3
    try dsimp only
    have K3 : Kept b w w3 := Kept.trans Kl0 k3
    have B0_3 : Arr w.heap.size (row 78 x) w3 := B0_l0.kept k3 (Nat.ne_of_gt y1_BF)
    have z3 := B0_3.lies
    clear c3_B0_0 i3_1 i3_2 BF_l0 B0_l0 k3
    go_wp2_with fail
    have hs0 : Hid (fmeanS_l0 x i (r2.1, r2.2) (k + 1) = (r3.1, r3.2)) := by show _ = _; rw [fmeanS_l0_succ]; unfold fmeanS_l0s; simp only [El0.out, E3.out]
    rw [hJ0.out]
    intro G_ hG_
    exact hG_ (r3.1, r3.2) _ _ _ _ _ _ _ _ _ _ _ _ _ _ _ _ _ _ _ _ _ _ _ _ _ _ _ _ _ _ _ hs0 rfl K3 f3 B0_3
  · intro a Wl0 hI R
    rw [hJ0.out] at hI
    refine hI _ ?_
    clear hI hJ0
    intro r4 t0_1 t0_3 t0_5 t0_6 t0_9 t0_10 t0_11 t0_12 t0_13 t0_14 t0_15 t0_16 t0_17 t0_18 t0_19 t0_20 t0_21 t0_22 t0_23 t0_24 t0_25 t0_26 t0_27 t0_28 t0_29 t0_30 t0_31 t0_32 t0_33 t0_34 t0_35 E4 ea Kl0 BF_l0 B0_l0
    subst ea
    have zl0_BF := BF_l0.lies
    have zl0_B0 := B0_l0.lies
    go_wp2_with fail
    refine (rPart_any b r4.2 r4.1 1 14 _ BF_l0).mono ?_
    rintro e w5 ⟨rfl, f5, k5⟩
    generalize e5 : partS r4.2 r4.1 1 14 = r5 at f5 ⊢
    have E5 : Hid _ := e5
    clear e5
    try dsimp only
    have K5 : Kept b w w5 := Kept.trans Kl0 k5
    have B0_5 : Arr w.heap.size (row 78 x) w5 := B0_l0.kept k5 (Nat.ne_of_gt y1_BF)
    have z5 := B0_5.lies
    clear BF_l0 B0_l0 k5
    go_wp2
    go_ret
    have hs : fmeanS bad x i = (r5.1, r5.2) := by unfold fmeanS; simp only [E1.out, E2.out, E4.out, E5.out]
    rw [hs]
    exact ⟨rfl, f5, K5⟩
end Go.Proofs.YtoadcnhcfodkgaaGreatDoor
