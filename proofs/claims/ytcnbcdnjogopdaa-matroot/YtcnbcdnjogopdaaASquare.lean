/-
  Walks of package mat, for the seat Ytcnbcdnjogopdaa. (Made by mkmat.py.)
-/
import Derived.Test.YtcnbcdnjogopdaaALeaf
import Derived.Test.YtcnbcdnjogopdaaASum
import Derived.Test.YtcnbcdnjogopdaaASound
import Derived.Handy
import Derived.Deep.RegionHeld3
namespace Go.Proofs.Ytcnbcdnjogopdaa
open Go.RowKit

set_option maxRecDepth 100000 in
set_option maxHeartbeats 2000000 in
theorem mSquare_any (b : Nat) (bad : Bool) (l : Nat → Int) (n : Nat) (w : World) (hw : Fl b bad w) (h1 : 1 ≤ n) (h6 : n ≤ 6) :
    Calls Try.prog 14 #[.pointer (some ⟨b, 0, none⟩), .agg (row 36 l).toArray, .int .i64 (n : Int)] w fun e w' => e = .returned (.agg (row 36 ((mSquareS bad l n).1)).toArray) ∧ Fl b (mSquareS bad l n).2 w' ∧ Kept b w w' := by
  have hl := hw.lies
  go_enter Try.func14, Try.ntmps14
  have y1_BF : b < w.heap.size := hw.lies
  have y2_BF : b < w.heap.size + 1 := (Nat.lt_succ_of_lt hw.lies)
  have y2_B0 : w.heap.size < w.heap.size + 1 := (Nat.lt_succ_self _)
  have y3_BF : b < w.heap.size + 1 + 1 := (Nat.lt_succ_of_lt (Nat.lt_succ_of_lt hw.lies))
  have y3_B0 : w.heap.size < w.heap.size + 1 + 1 := (Nat.lt_succ_of_lt (Nat.lt_succ_self _))
  have y3_B1 : w.heap.size + 1 < w.heap.size + 1 + 1 := (Nat.lt_succ_self _)
  go_wp2_with fail
  refine (mfits_any b bad (n : Int) _ (((hw.alloc _).alloc _).alloc _)).mono ?_
  rintro e w1 ⟨rfl, f1, k1⟩
  rw [(fits_in bad h1 h6)] at f1 ⊢
  dsimp only at f1 ⊢
  have K1 : Kept b w w1 := Kept.trans ((((Kept.refl b w).al _).al _).al _) k1
  have B0_1 : Arr w.heap.size (row 36 l) w1 := (((Arr_at _ _ (row 36 l) _ (by simp)).alloc _).alloc _).kept k1 (Nat.ne_of_gt y1_BF)
  have B1_1 : Arr (w.heap.size + 1) (row 36 (fun _ => 0)) w1 := ((Arr_at _ _ (row 36 (fun _ => 0)) _ (by simp)).alloc _).kept k1 (Nat.ne_of_gt y2_BF)
  have B2_1 : Arr (w.heap.size + 1 + 1) (row 36 (fun _ => 0)) w1 := (Arr_at _ _ (row 36 (fun _ => 0)) _ (by simp)).kept k1 (Nat.ne_of_gt y3_BF)
  have z1 := B2_1.lies
  clear k1
  go_wp2_with fail
  obtain ⟨J0, hJ0⟩ : ∃ J : Nat → Act → World → Prop, Hid (J = fun i a Wl0 => ∀ G_ : Prop, (∀ (s0 : (Nat → Int) × Bool) (t0_1 t0_3 t0_5 t0_8 t0_9 t0_10 t0_11 t0_12 t0_13 t0_14 t0_17 t0_18 t0_19 t0_20 t0_21 t0_22 t0_23 t0_24 t0_25 t0_26 t0_27 t0_28 t0_29 t0_30 t0_31 t0_32 t0_33 t0_34 t0_35 t0_36 t0_37 t0_38 t0_39 t0_40 : Value), Hid (mSquareS_l0 l n ((fun _ => 0), bad) i = s0) → a = { tmps := #[.pointer (some ⟨b, 0, none⟩), t0_1, .int .i64 (n : Int), t0_3, .pointer (some ⟨w.heap.size, 0, none⟩), t0_5, .pointer (some ⟨w.heap.size + 1, 0, none⟩), .pointer (some ⟨w.heap.size + 1 + 1, 0, none⟩), t0_8, t0_9, t0_10, t0_11, t0_12, t0_13, t0_14, .int .i64 (n : Int), .int .i64 (i : Int), t0_17, t0_18, t0_19, t0_20, t0_21, t0_22, t0_23, t0_24, t0_25, t0_26, t0_27, t0_28, t0_29, t0_30, t0_31, t0_32, t0_33, t0_34, t0_35, t0_36, t0_37, t0_38, t0_39, t0_40], defers := [] } → Kept b w Wl0 → Fl b s0.2 Wl0 → Arr w.heap.size (row 36 l) Wl0 → Arr (w.heap.size + 1) (row 36 (fun _ => 0)) Wl0 → Arr (w.heap.size + 1 + 1) (row 36 s0.1) Wl0 → G_) → G_) := ⟨_, rfl⟩
  refine rounds_up J0 n ?_ ?_ ?_
  · rw [hJ0.out]
    intro G_ hG_
    exact hG_ ((fun _ => 0), bad) _ _ _ _ _ _ _ _ _ _ _ _ _ _ _ _ _ _ _ _ _ _ _ _ _ _ _ _ _ _ _ _ _ _ rfl rfl K1 f1 B0_1 B1_1 B2_1
  · intro i a Wl0 hi hI R hR
    rw [hJ0.out] at hI
    refine hI _ ?_
    clear hI
    intro s0 t0_1 t0_3 t0_5 t0_8 t0_9 t0_10 t0_11 t0_12 t0_13 t0_14 t0_17 t0_18 t0_19 t0_20 t0_21 t0_22 t0_23 t0_24 t0_25 t0_26 t0_27 t0_28 t0_29 t0_30 t0_31 t0_32 t0_33 t0_34 t0_35 t0_36 t0_37 t0_38 t0_39 t0_40 El0 ea Kl0 BF_l0 B0_l0 B1_l0 B2_l0
    subst ea
    have zl0_BF := BF_l0.lies
    have zl0_B0 := B0_l0.lies
    have zl0_B1 := B1_l0.lies
    have zl0_B2 := B2_l0.lies
    go_wp2_with fail
    obtain ⟨J1, hJ1⟩ : ∃ J : Nat → Act → World → Prop, Hid (J = fun j a Wl1 => ∀ G_ : Prop, (∀ (s1 : (Nat → Int) × Bool) (t1_1 t1_3 t1_5 t1_9 t1_10 t1_11 t1_12 t1_13 t1_14 t1_17 t1_18 t1_21 t1_22 t1_23 t1_24 t1_25 t1_26 t1_27 t1_28 t1_29 t1_30 t1_31 t1_32 t1_33 t1_34 t1_35 t1_36 t1_37 t1_38 t1_39 t1_40 : Value), Hid (mSquareS_l1 l n i (s0.1, s0.2) j = s1) → a = { tmps := #[.pointer (some ⟨b, 0, none⟩), t1_1, .int .i64 (n : Int), t1_3, .pointer (some ⟨w.heap.size, 0, none⟩), t1_5, .pointer (some ⟨w.heap.size + 1, 0, none⟩), .pointer (some ⟨w.heap.size + 1 + 1, 0, none⟩), .int .i64 (i : Int), t1_9, t1_10, t1_11, t1_12, t1_13, t1_14, .int .i64 (n : Int), .int .i64 (i : Int), t1_17, t1_18, .int .i64 (n : Int), .int .i64 (j : Int), t1_21, t1_22, t1_23, t1_24, t1_25, t1_26, t1_27, t1_28, t1_29, t1_30, t1_31, t1_32, t1_33, t1_34, t1_35, t1_36, t1_37, t1_38, t1_39, t1_40], defers := [] } → Kept b w Wl1 → Fl b s1.2 Wl1 → Arr w.heap.size (row 36 l) Wl1 → Arr (w.heap.size + 1) (row 36 (fun _ => 0)) Wl1 → Arr (w.heap.size + 1 + 1) (row 36 s1.1) Wl1 → G_) → G_) := ⟨_, rfl⟩
    refine rounds_up J1 n ?_ ?_ ?_
    · rw [hJ1.out]
      intro G_ hG_
      exact hG_ (s0.1, s0.2) _ _ _ _ _ _ _ _ _ _ _ _ _ _ _ _ _ _ _ _ _ _ _ _ _ _ _ _ _ _ _ rfl rfl Kl0 BF_l0 B0_l0 B1_l0 B2_l0
    · intro j a Wl1 hj hI R hR
      rw [hJ1.out] at hI
      refine hI _ ?_
      clear hI
      intro s1 t1_1 t1_3 t1_5 t1_9 t1_10 t1_11 t1_12 t1_13 t1_14 t1_17 t1_18 t1_21 t1_22 t1_23 t1_24 t1_25 t1_26 t1_27 t1_28 t1_29 t1_30 t1_31 t1_32 t1_33 t1_34 t1_35 t1_36 t1_37 t1_38 t1_39 t1_40 El1 ea Kl1 BF_l1 B0_l1 B1_l1 B2_l1
      subst ea
      have zl1_BF := BF_l1.lies
      have zl1_B0 := B0_l1.lies
      have zl1_B1 := B1_l1.lies
      have zl1_B2 := B2_l1.lies
      go_wp2_with fail
      refine wp_region_held_drew (S := fun w' => Arr w.heap.size (row 36 l) w') (by kernel_rfl) B0_l1.drew (fun hHeld => ?_)
      refine take_at (i := 0) (v := ?v81) rfl (by kernel_rfl) (by kernel_rfl) (by kernel_rfl) (fun _ _ _ h => h) (Or.inl ⟨by rfl, ?y81⟩) hHeld ?t81
      case y81 => (intro wx hSw; go_simp <;> with_reducible rfl)
      simp only [Act.put, List.setIfInBounds_toArray, List.set_cons_zero, List.set_cons_succ]
      refine take_at (i := 1) (v := ?v82) rfl (by kernel_rfl) (by kernel_rfl) (by kernel_rfl) (fun _ _ _ h => h) (Or.inl ⟨by rfl, ?y82⟩) hHeld ?t82
      case y82 => (intro wx hSw; go_simp <;> with_reducible rfl)
      simp only [Act.put, List.setIfInBounds_toArray, List.set_cons_zero, List.set_cons_succ]
      refine take_at (i := 2) (v := ?v83) rfl (by kernel_rfl) (by kernel_rfl) (by kernel_rfl) (fun _ _ _ h => h) (Or.inl ⟨by rfl, ?y83⟩) hHeld ?t83
      case y83 => (intro wx hSw; go_simp <;> with_reducible rfl)
      simp only [Act.put, List.setIfInBounds_toArray, List.set_cons_zero, List.set_cons_succ]
      refine take_at (i := 3) (v := ?v84) rfl (by kernel_rfl) (by kernel_rfl) (by kernel_rfl) (fun _ _ _ h => h) (Or.inl ⟨by rfl, ?y84⟩) hHeld ?t84
      case y84 => (intro wx hSw; go_simp <;> with_reducible rfl)
      simp only [Act.put, List.setIfInBounds_toArray, List.set_cons_zero, List.set_cons_succ]
      refine take_at (i := 4) (v := ?v85) rfl (by kernel_rfl) (by kernel_rfl) (by kernel_rfl) (fun _ _ _ h => h) (Or.inl ⟨by rfl, ?y85⟩) hHeld ?t85
      case y85 => (intro wx hSw; have hi0 : (i : Int) < 6 := (by omega); go_simp <;> with_reducible rfl)
      simp only [Act.put, List.setIfInBounds_toArray, List.set_cons_zero, List.set_cons_succ]
      refine take_at (i := 5) rfl (by kernel_rfl) (by kernel_rfl) (by kernel_rfl) (fun _ _ _ h => h) (part_yield (M := 6) (by rfl) rfl rfl (fun _ hSw => hSw) (by omega) (by kernel_rfl) (by rw [row_len]; kernel_rfl)) hHeld ?_
      simp only [Act.put, List.setIfInBounds_toArray, List.set_cons_zero, List.set_cons_succ]
      refine take_at (i := 6) (v := ?v86) rfl (by kernel_rfl) (by kernel_rfl) (by kernel_rfl) (fun _ _ _ h => h) (Or.inl ⟨by rfl, ?y86⟩) hHeld ?t86
      case y86 => (intro wx hSw; go_simp <;> with_reducible rfl)
      simp only [Act.put, List.setIfInBounds_toArray, List.set_cons_zero, List.set_cons_succ]
      refine take_at (i := 7) (v := ?v87) rfl (by kernel_rfl) (by kernel_rfl) (by kernel_rfl) (fun _ _ _ h => h) (Or.inl ⟨by rfl, ?y87⟩) hHeld ?t87
      case y87 => (intro wx hSw; have hi0 : (j : Int) < 6 := (by omega); go_simp <;> with_reducible rfl)
      simp only [Act.put, List.setIfInBounds_toArray, List.set_cons_zero, List.set_cons_succ]
      refine take_at (i := 8) rfl (by kernel_rfl) (by kernel_rfl) (by kernel_rfl) (fun _ _ _ h => h) (part_yield (M := 6) (by rfl) rfl rfl (fun _ hSw => hSw) (by omega) (by kernel_rfl) (by rw [row_len]; kernel_rfl)) hHeld ?_
      simp only [Act.put, List.setIfInBounds_toArray, List.set_cons_zero, List.set_cons_succ]
      refine take_at (i := 9) (v := ?v88) rfl (by kernel_rfl) (by kernel_rfl) (by kernel_rfl) (fun _ _ _ h => h) (Or.inl ⟨by rfl, ?y88⟩) hHeld ?t88
      case y88 => (intro wx hSw; go_simp <;> with_reducible rfl)
      simp only [Act.put, List.setIfInBounds_toArray, List.set_cons_zero, List.set_cons_succ]
      refine take_at (i := 11) (v := ?v89) rfl (by kernel_rfl) (by kernel_rfl) (by kernel_rfl) (fun _ _ _ h => h) (Or.inl ⟨by rfl, ?y89⟩) hHeld ?t89
      case y89 => (intro wx hSw; have hi0 : (i : Int) < 6 := (by omega); go_simp <;> with_reducible rfl)
      simp only [Act.put, List.setIfInBounds_toArray, List.set_cons_zero, List.set_cons_succ]
      refine call_at (i := 10) (by kernel_rfl) rfl (fun K hK => ?_)
      go_simp
      refine (msum_any b s1.2 (fun x_ => l (i * 6 + x_)) (fun x_ => l (j * 6 + x_)) n _ BF_l1.drew (by omega)).mono ?_
      rintro e w2 ⟨rfl, f2, k2⟩
      generalize e2 : msumS s1.2 (fun x_ => l (i * 6 + x_)) (fun x_ => l (j * 6 + x_)) n = r2 at f2 ⊢
      have E2 : Hid _ := e2
      clear e2
      have K2 : Kept b w w2 := Kept.trans Kl1.drew k2
      have B0_2 : Arr w.heap.size (row 36 l) w2 := B0_l1.drew.kept k2 (Nat.ne_of_gt y1_BF)
      have B1_2 : Arr (w.heap.size + 1) (row 36 (fun _ => 0)) w2 := B1_l1.drew.kept k2 (Nat.ne_of_gt y2_BF)
      have B2_2 : Arr (w.heap.size + 1 + 1) (row 36 s1.1) w2 := B2_l1.drew.kept k2 (Nat.ne_of_gt y3_BF)
      have z2 := B2_2.lies
      clear hHeld
      refine hK.out _ _ B0_2 (fun hHeld => ?_)
      clear hK K BF_l1 B0_l1 B1_l1 B2_l1 k2
      refine take_at (i := 12) (v := ?v90) rfl (by kernel_rfl) (by kernel_rfl) (by kernel_rfl) (fun _ _ _ h => h) (Or.inl ⟨by rfl, ?y90⟩) hHeld ?t90
      case y90 => (intro wx hSw; have hi0 : (j : Int) < 6 := (by omega); go_simp <;> with_reducible rfl)
      simp only [Act.put, List.setIfInBounds_toArray, List.set_cons_zero, List.set_cons_succ]
      refine call_at (i := 13) (by kernel_rfl) rfl (fun K hK => ?_)
      have c5_B2_0 : w2.cell? ⟨w.heap.size + 1 + 1, i * 6 + j, none⟩ = some (.int .i64 (s1.1 (i * 6 + j))) := row_c B2_2 (i * 6 + j) (by omega)
      have g5_B2_1 := row_f B2_2 (i * 6 + j) (by omega)
      go_simp
      clear hHeld
      refine hK.out _ _ (B0_2.new (w.heap.size + 1 + 1) (i * 6 + j) (Nat.ne_of_lt y3_B0) (.int .i64 r2.1)) (fun hHeld => ?_)
      clear hK K c5_B2_0 g5_B2_1
      refine wpAnyH_done (by kernel_rfl) ?_ _
      clear hHeld
      go_wp2_with fail
      have hs1 : Hid (mSquareS_l1 l n i (s0.1, s0.2) (j + 1) = ((updF s1.1 (i * 6 + j) r2.1), r2.2)) := by show _ = _; unfold mSquareS_l1; simp only [El1.out, E2.out]
      rw [hJ1.out]
      intro G_ hG_
      exact hG_ ((updF s1.1 (i * 6 + j) r2.1), r2.2) _ _ _ _ _ _ _ _ _ _ _ _ _ _ _ _ _ _ _ _ _ _ _ _ _ _ _ _ _ _ _ hs1 rfl (K2.new _ _ (by omega) _) (f2.new (w.heap.size + 1 + 1) (i * 6 + j) (Nat.ne_of_lt y3_BF) (.int .i64 r2.1)) (B0_2.new (w.heap.size + 1 + 1) (i * 6 + j) (Nat.ne_of_lt y3_B0) (.int .i64 r2.1)) (B1_2.new (w.heap.size + 1 + 1) (i * 6 + j) (Nat.ne_of_lt y3_B1) (.int .i64 r2.1)) (row_put B2_2 (i * 6 + j) (by omega) r2.1)
    · intro a Wl1 hI R
      rw [hJ1.out] at hI
      refine hI _ ?_
      clear hI hJ1
      intro r3 t1_1 t1_3 t1_5 t1_9 t1_10 t1_11 t1_12 t1_13 t1_14 t1_17 t1_18 t1_21 t1_22 t1_23 t1_24 t1_25 t1_26 t1_27 t1_28 t1_29 t1_30 t1_31 t1_32 t1_33 t1_34 t1_35 t1_36 t1_37 t1_38 t1_39 t1_40 E3 ea Kl1 BF_l1 B0_l1 B1_l1 B2_l1
      subst ea
      have zl1_BF := BF_l1.lies
      have zl1_B0 := B0_l1.lies
      have zl1_B1 := B1_l1.lies
      have zl1_B2 := B2_l1.lies
      go_wp2_with fail
      have hs0 : Hid (mSquareS_l0 l n ((fun _ => 0), bad) (i + 1) = (r3.1, r3.2)) := by show _ = _; unfold mSquareS_l0; simp only [El0.out, E3.out]
      rw [hJ0.out]
      intro G_ hG_
      exact hG_ (r3.1, r3.2) _ _ _ _ _ _ _ _ _ _ _ _ _ _ _ _ _ _ _ _ _ _ _ _ _ _ _ _ _ _ _ _ _ _ hs0 rfl Kl1 BF_l1 B0_l1 B1_l1 B2_l1
  · intro a Wl0 hI R
    rw [hJ0.out] at hI
    refine hI _ ?_
    clear hI hJ0
    intro r2 t0_1 t0_3 t0_5 t0_8 t0_9 t0_10 t0_11 t0_12 t0_13 t0_14 t0_17 t0_18 t0_19 t0_20 t0_21 t0_22 t0_23 t0_24 t0_25 t0_26 t0_27 t0_28 t0_29 t0_30 t0_31 t0_32 t0_33 t0_34 t0_35 t0_36 t0_37 t0_38 t0_39 t0_40 E2 ea Kl0 BF_l0 B0_l0 B1_l0 B2_l0
    subst ea
    have zl0_BF := BF_l0.lies
    have zl0_B0 := B0_l0.lies
    have zl0_B1 := B1_l0.lies
    have zl0_B2 := B2_l0.lies
    go_wp2_with (refine row_load rfl rfl rfl B2_l0 (by kernel_rfl) (by rw [row_len]; kernel_rfl) ?_)
    refine (msoundM_any b r2.2 r2.1 _ BF_l0).mono ?_
    rintro e w3 ⟨rfl, f3, k3⟩
    generalize e3 : msoundMS r2.2 r2.1 = r3 at f3 ⊢
    have E3 : Hid _ := e3
    clear e3
    have K3 : Kept b w w3 := Kept.trans Kl0 k3
    have B0_3 : Arr w.heap.size (row 36 l) w3 := B0_l0.kept k3 (Nat.ne_of_gt y1_BF)
    have B1_3 : Arr (w.heap.size + 1) (row 36 (fun _ => 0)) w3 := B1_l0.kept k3 (Nat.ne_of_gt y2_BF)
    have B2_3 : Arr (w.heap.size + 1 + 1) (row 36 r2.1) w3 := B2_l0.kept k3 (Nat.ne_of_gt y3_BF)
    have z3 := B2_3.lies
    clear BF_l0 B0_l0 B1_l0 B2_l0 k3
    go_wp2_with (refine store_stop rfl (by kernel_rfl) ?_)
    refine Stop.mk (store_row (l' := row 36 r3.1) rfl rfl rfl rfl B1_3 (by simp only [row_len]) (by rw [row_len]; kernel_rfl) (row_one _ _) ?_)
    intro w4 B1_4 o4
    have K4 : Kept b w w4 := Kept.off K3 o4 (by omega)
    have BF_4 : Fl b r3.2 w4 := f3.off o4 (Nat.ne_of_lt y2_BF)
    have B0_4 : Arr w.heap.size (row 36 l) w4 := B0_3.off o4 (Nat.ne_of_lt y2_B0)
    have B2_4 : Arr (w.heap.size + 1 + 1) (row 36 r2.1) w4 := B2_3.off o4 (Nat.ne_of_gt y3_B1)
    have z4_B1 := B1_4.lies
    have z4_BF := BF_4.lies
    have z4_B0 := B0_4.lies
    have z4_B2 := B2_4.lies
    clear K3 B1_3 f3 B0_3 B2_3 o4
    go_wp2_with (with_reducible refine post_stop ?_)
    refine Stop.mk ?_
    refine bodyPost_ret (v := .agg (row 36 r3.1).toArray) (results_arr Try.results14 B1_4 rfl (by kernel_rfl) (by rw [row_len]; kernel_rfl)) rfl ?_
    have hs : mSquareS bad l n = (r3.1, r3.2) := by unfold mSquareS; simp only [E2.out, E3.out]
    rw [hs]
    exact ⟨rfl, BF_4, K4⟩
end Go.Proofs.Ytcnbcdnjogopdaa
