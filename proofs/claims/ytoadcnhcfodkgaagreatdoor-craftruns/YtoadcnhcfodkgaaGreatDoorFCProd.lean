/-
  Walks of package filter, for the seat YtoadcnhcfodkgaaGreatDoor. (Made by mkfil14.py.)
-/
import Derived.Test.YtoadcnhcfodkgaaGreatDoorXAct
import Derived.Test.YtoadcnhcfodkgaaGreatDoorFCMid
import Derived.Handy
import Derived.Deep.RegionHeld3
namespace Go.Proofs.YtoadcnhcfodkgaaGreatDoor
open Go.RowKit

set_option maxRecDepth 100000 in
set_option maxHeartbeats 20000000 in
theorem hproducts_any (b : Nat) (bad : Bool) (x : Nat → Int) (y : Nat → Int) (w : World) (hw : Fl b bad w) :
    Calls Tryz.prog 146 #[.pointer (some ⟨b, 0, none⟩), .agg (row 78 x).toArray, .agg (row 78 y).toArray] w fun e w' => e = .returned (.agg (row 36 ((hproductsS bad x y).1)).toArray) ∧ Fl b (hproductsS bad x y).2 w' ∧ Kept b w w' := by
  have hl := hw.lies
  go_enter Tryz.func146, Tryz.ntmps146
  have y1_BF : b < w.heap.size := hw.lies
  have y2_BF : b < w.heap.size + 1 := (Nat.lt_succ_of_lt hw.lies)
  have y2_B0 : w.heap.size < w.heap.size + 1 := (Nat.lt_succ_self _)
  have y3_BF : b < w.heap.size + 1 + 1 := (Nat.lt_succ_of_lt (Nat.lt_succ_of_lt hw.lies))
  have y3_B0 : w.heap.size < w.heap.size + 1 + 1 := (Nat.lt_succ_of_lt (Nat.lt_succ_self _))
  have y3_B1 : w.heap.size + 1 < w.heap.size + 1 + 1 := (Nat.lt_succ_self _)
  have y4_BF : b < w.heap.size + 1 + 1 + 1 := (Nat.lt_succ_of_lt (Nat.lt_succ_of_lt (Nat.lt_succ_of_lt hw.lies)))
  have y4_B0 : w.heap.size < w.heap.size + 1 + 1 + 1 := (Nat.lt_succ_of_lt (Nat.lt_succ_of_lt (Nat.lt_succ_self _)))
  have y4_B1 : w.heap.size + 1 < w.heap.size + 1 + 1 + 1 := (Nat.lt_succ_of_lt (Nat.lt_succ_self _))
  have y4_B2 : w.heap.size + 1 + 1 < w.heap.size + 1 + 1 + 1 := (Nat.lt_succ_self _)
  go_wp2_with fail
  obtain ⟨J0, hJ0⟩ : ∃ J : Nat → Act → World → Prop, Hid (J = fun i a Wl0 => ∀ G_ : Prop, (∀ (s0 : (Nat → Int) × Bool) (A0 C0 D0 : Nat → Value), Hid (hproductsS_l0 x y ((fun _ => 0), bad) i = s0) → a = { tmps := #[.pointer (some ⟨b, 0, none⟩), A0 1, A0 2, A0 3, .pointer (some ⟨w.heap.size, 0, none⟩), .pointer (some ⟨w.heap.size + 1, 0, none⟩), .pointer (some ⟨w.heap.size + 1 + 1, 0, none⟩), .pointer (some ⟨w.heap.size + 1 + 1 + 1, 0, none⟩), A0 8, A0 9, A0 10, A0 11, .int .i64 (i : Int), A0 13, A0 14, A0 15, A0 16, A0 17, A0 18, A0 19, C0 0, C0 1, C0 2, C0 3, C0 4, C0 5, C0 6, C0 7, C0 8, C0 9, C0 10, C0 11, C0 12, C0 13, C0 14, C0 15, C0 16, C0 17, C0 18, C0 19, D0 0, D0 1, D0 2, D0 3, D0 4, D0 5], defers := [] } → Kept b w Wl0 → Fl b s0.2 Wl0 → Arr w.heap.size (row 78 x) Wl0 → Arr (w.heap.size + 1) (row 78 y) Wl0 → Arr (w.heap.size + 1 + 1) (row 36 (fun _ => 0)) Wl0 → Arr (w.heap.size + 1 + 1 + 1) (row 36 s0.1) Wl0 → G_) → G_) := ⟨_, rfl⟩
  refine rounds_up J0 6 ?_ ?_ ?_
  · refine give_act (fun a_ ea_ => ?_)
    rw [hJ0.out]
    intro G_ hG_
    exact hG_ ((fun _ => 0), bad) (zS a_ 0) (zS a_ 20) (zS a_ 40) rfl (by subst ea_; rfl) (((((Kept.refl b w).al _).al _).al _).al _) ((((hw.alloc _).alloc _).alloc _).alloc _) ((((Arr_at _ _ (row 78 x) _ (by simp)).alloc _).alloc _).alloc _) (((Arr_at _ _ (row 78 y) _ (by simp)).alloc _).alloc _) ((Arr_at _ _ (row 36 (fun _ => 0)) _ (by simp)).alloc _) (Arr_at _ _ (row 36 (fun _ => 0)) _ (by simp))
  · intro i a Wl0 hi hI R hR
    rw [hJ0.out] at hI
    refine hI _ ?_
    clear hI
    intro s0 A0 C0 D0 El0 ea Kl0 BF_l0 B0_l0 B1_l0 B2_l0 B3_l0
    subst ea
    have zl0_BF := BF_l0.lies
    have zl0_B0 := B0_l0.lies
    have zl0_B1 := B1_l0.lies
    have zl0_B2 := B2_l0.lies
    have zl0_B3 := B3_l0.lies
    go_wp2_with fail
    obtain ⟨J1, hJ1⟩ : ∃ J : Nat → Act → World → Prop, Hid (J = fun j a Wl1 => ∀ G_ : Prop, (∀ (s1 : (Nat → Int) × Bool) (A1 C1 D1 : Nat → Value), Hid (hproductsS_l1 x y i (s0.1, s0.2) j = s1) → a = { tmps := #[.pointer (some ⟨b, 0, none⟩), A1 1, A1 2, A1 3, .pointer (some ⟨w.heap.size, 0, none⟩), .pointer (some ⟨w.heap.size + 1, 0, none⟩), .pointer (some ⟨w.heap.size + 1 + 1, 0, none⟩), .pointer (some ⟨w.heap.size + 1 + 1 + 1, 0, none⟩), .int .i64 (i : Int), A1 9, A1 10, A1 11, .int .i64 (i : Int), A1 13, A1 14, .int .i64 (j : Int), A1 16, A1 17, A1 18, A1 19, C1 0, C1 1, C1 2, C1 3, C1 4, C1 5, C1 6, C1 7, C1 8, C1 9, C1 10, C1 11, C1 12, C1 13, C1 14, C1 15, C1 16, C1 17, C1 18, C1 19, D1 0, D1 1, D1 2, D1 3, D1 4, D1 5], defers := [] } → Kept b w Wl1 → Fl b s1.2 Wl1 → Arr w.heap.size (row 78 x) Wl1 → Arr (w.heap.size + 1) (row 78 y) Wl1 → Arr (w.heap.size + 1 + 1) (row 36 (fun _ => 0)) Wl1 → Arr (w.heap.size + 1 + 1 + 1) (row 36 s1.1) Wl1 → G_) → G_) := ⟨_, rfl⟩
    refine rounds_up J1 6 ?_ ?_ ?_
    · refine give_act (fun a_ ea_ => ?_)
      rw [hJ1.out]
      intro G_ hG_
      exact hG_ (s0.1, s0.2) (zS a_ 0) (zS a_ 20) (zS a_ 40) rfl (by subst ea_; rfl) Kl0 BF_l0 B0_l0 B1_l0 B2_l0 B3_l0
    · intro j a Wl1 hj hI R hR
      rw [hJ1.out] at hI
      refine hI _ ?_
      clear hI
      intro s1 A1 C1 D1 El1 ea Kl1 BF_l1 B0_l1 B1_l1 B2_l1 B3_l1
      subst ea
      have zl1_BF := BF_l1.lies
      have zl1_B0 := B0_l1.lies
      have zl1_B1 := B1_l1.lies
      have zl1_B2 := B2_l1.lies
      have zl1_B3 := B3_l1.lies
      have y13_BF : b < Wl1.heap.size := BF_l1.lies
      have y13_B0 : w.heap.size < Wl1.heap.size := B0_l1.lies
      have y13_B1 : w.heap.size + 1 < Wl1.heap.size := B1_l1.lies
      have y13_B2 : w.heap.size + 1 + 1 < Wl1.heap.size := B2_l1.lies
      have y13_B3 : w.heap.size + 1 + 1 + 1 < Wl1.heap.size := B3_l1.lies
      go_wp2_with fail
      obtain ⟨J2, hJ2⟩ : ∃ J : Nat → Act → World → Prop, Hid (J = fun k a Wl2 => ∀ G_ : Prop, (∀ (s2 : (Nat → Int) × Bool) (A2 C2 D2 : Nat → Value), Hid (hproductsS_l2 x y i j ((fun _ => 0), s1.2) k = s2) → a = { tmps := #[.pointer (some ⟨b, 0, none⟩), A2 1, A2 2, A2 3, .pointer (some ⟨w.heap.size, 0, none⟩), .pointer (some ⟨w.heap.size + 1, 0, none⟩), .pointer (some ⟨w.heap.size + 1 + 1, 0, none⟩), .pointer (some ⟨w.heap.size + 1 + 1 + 1, 0, none⟩), .int .i64 (i : Int), .int .i64 (j : Int), .pointer (some ⟨Wl1.heap.size, 0, none⟩), A2 11, .int .i64 (i : Int), A2 13, A2 14, .int .i64 (j : Int), A2 16, A2 17, .int .i64 (k : Int), A2 19, C2 0, C2 1, C2 2, C2 3, C2 4, C2 5, C2 6, C2 7, C2 8, C2 9, C2 10, C2 11, C2 12, C2 13, C2 14, C2 15, C2 16, C2 17, C2 18, C2 19, D2 0, D2 1, D2 2, D2 3, D2 4, D2 5], defers := [] } → Kept b w Wl2 → Fl b s2.2 Wl2 → Arr w.heap.size (row 78 x) Wl2 → Arr (w.heap.size + 1) (row 78 y) Wl2 → Arr (w.heap.size + 1 + 1) (row 36 (fun _ => 0)) Wl2 → Arr (w.heap.size + 1 + 1 + 1) (row 36 s1.1) Wl2 → Arr Wl1.heap.size (row 13 s2.1) Wl2 → G_) → G_) := ⟨_, rfl⟩
      refine rounds_up J2 13 ?_ ?_ ?_
      · refine give_act (fun a_ ea_ => ?_)
        rw [hJ2.out]
        intro G_ hG_
        exact hG_ ((fun _ => 0), s1.2) (zS a_ 0) (zS a_ 20) (zS a_ 40) rfl (by subst ea_; rfl) (Kl1.al _) (BF_l1.alloc _) (B0_l1.alloc _) (B1_l1.alloc _) (B2_l1.alloc _) (B3_l1.alloc _) (Arr_at _ _ (row 13 (fun _ => 0)) _ (by simp))
      · intro k a Wl2 hk hI R hR
        rw [hJ2.out] at hI
        refine hI _ ?_
        clear hI
        intro s2 A2 C2 D2 El2 ea Kl2 BF_l2 B0_l2 B1_l2 B2_l2 B3_l2 B4_l2
        subst ea
        have zl2_BF := BF_l2.lies
        have zl2_B0 := B0_l2.lies
        have zl2_B1 := B1_l2.lies
        have zl2_B2 := B2_l2.lies
        have zl2_B3 := B3_l2.lies
        have zl2_B4 := B4_l2.lies
        go_wp2_with fail
        refine wp_region_held_drew (S := fun w' => Arr w.heap.size (row 78 x) w' ∧ Arr (w.heap.size + 1) (row 78 y) w') (by kernel_rfl) ⟨B0_l2.drew, B1_l2.drew⟩ (fun hHeld => ?_)
        refine take_at (i := 0) (v := ?v379) rfl (by kernel_rfl) (by kernel_rfl) (by kernel_rfl) (fun _ _ _ h => h) (Or.inl ⟨by rfl, ?y379⟩) hHeld ?t379
        case y379 => (intro wx hSw; go_simp <;> with_reducible rfl)
        simp only [Act.put, List.setIfInBounds_toArray, List.set_cons_zero, List.set_cons_succ]
        refine take_at (i := 1) (v := ?v380) rfl (by kernel_rfl) (by kernel_rfl) (by kernel_rfl) (fun _ _ _ h => h) (Or.inl ⟨by rfl, ?y380⟩) hHeld ?t380
        case y380 => (intro wx hSw; go_simp <;> with_reducible rfl)
        simp only [Act.put, List.setIfInBounds_toArray, List.set_cons_zero, List.set_cons_succ]
        refine take_at (i := 2) (v := ?v381) rfl (by kernel_rfl) (by kernel_rfl) (by kernel_rfl) (fun _ _ _ h => h) (Or.inl ⟨by rfl, ?y381⟩) hHeld ?t381
        case y381 => (intro wx hSw; go_simp <;> with_reducible rfl)
        simp only [Act.put, List.setIfInBounds_toArray, List.set_cons_zero, List.set_cons_succ]
        refine take_at (i := 3) (v := ?v382) rfl (by kernel_rfl) (by kernel_rfl) (by kernel_rfl) (fun _ _ _ h => h) (Or.inl ⟨by rfl, ?y382⟩) hHeld ?t382
        case y382 => (intro wx hSw; go_simp <;> with_reducible rfl)
        simp only [Act.put, List.setIfInBounds_toArray, List.set_cons_zero, List.set_cons_succ]
        refine take_at (i := 4) (v := ?v383) rfl (by kernel_rfl) (by kernel_rfl) (by kernel_rfl) (fun _ _ _ h => h) (Or.inl ⟨by rfl, ?y383⟩) hHeld ?t383
        case y383 => (intro wx hSw; have hi0 : (k : Int) < 13 := (by omega); go_simp <;> with_reducible rfl)
        simp only [Act.put, List.setIfInBounds_toArray, List.set_cons_zero, List.set_cons_succ]
        refine take_at (i := 5) (v := ?v384) rfl (by kernel_rfl) (by kernel_rfl) (by kernel_rfl) (fun _ _ _ h => h) (Or.inl ⟨by rfl, ?y384⟩) hHeld ?t384
        case y384 => (intro wx hSw; have hi0 : (i : Int) < 6 := (by omega); go_simp <;> with_reducible rfl)
        simp only [Act.put, List.setIfInBounds_toArray, List.set_cons_zero, List.set_cons_succ]
        refine take_at (i := 6) (v := ?v385) rfl (by kernel_rfl) (by kernel_rfl) (by kernel_rfl) (fun _ _ _ h => h) (Or.inl ⟨by rfl, ?y385⟩) hHeld ?t385
        case y385 => (intro wx hSw; have hc0 : wx.cell? ⟨w.heap.size, k * 6 + i, none⟩ = some (.int .i64 (x (k * 6 + i))) := row_c hSw.1 (k * 6 + i) (by omega); go_simp <;> with_reducible rfl)
        simp only [Act.put, List.setIfInBounds_toArray, List.set_cons_zero, List.set_cons_succ]
        refine take_at (i := 7) (v := ?v386) rfl (by kernel_rfl) (by kernel_rfl) (by kernel_rfl) (fun _ _ _ h => h) (Or.inl ⟨by rfl, ?y386⟩) hHeld ?t386
        case y386 => (intro wx hSw; go_simp <;> with_reducible rfl)
        simp only [Act.put, List.setIfInBounds_toArray, List.set_cons_zero, List.set_cons_succ]
        refine take_at (i := 8) (v := ?v387) rfl (by kernel_rfl) (by kernel_rfl) (by kernel_rfl) (fun _ _ _ h => h) (Or.inl ⟨by rfl, ?y387⟩) hHeld ?t387
        case y387 => (intro wx hSw; go_simp <;> with_reducible rfl)
        simp only [Act.put, List.setIfInBounds_toArray, List.set_cons_zero, List.set_cons_succ]
        refine take_at (i := 9) (v := ?v388) rfl (by kernel_rfl) (by kernel_rfl) (by kernel_rfl) (fun _ _ _ h => h) (Or.inl ⟨by rfl, ?y388⟩) hHeld ?t388
        case y388 => (intro wx hSw; have hi0 : (k : Int) < 13 := (by omega); go_simp <;> with_reducible rfl)
        simp only [Act.put, List.setIfInBounds_toArray, List.set_cons_zero, List.set_cons_succ]
        refine take_at (i := 10) (v := ?v389) rfl (by kernel_rfl) (by kernel_rfl) (by kernel_rfl) (fun _ _ _ h => h) (Or.inl ⟨by rfl, ?y389⟩) hHeld ?t389
        case y389 => (intro wx hSw; have hi0 : (j : Int) < 6 := (by omega); go_simp <;> with_reducible rfl)
        simp only [Act.put, List.setIfInBounds_toArray, List.set_cons_zero, List.set_cons_succ]
        refine take_at (i := 11) (v := ?v390) rfl (by kernel_rfl) (by kernel_rfl) (by kernel_rfl) (fun _ _ _ h => h) (Or.inl ⟨by rfl, ?y390⟩) hHeld ?t390
        case y390 => (intro wx hSw; have hc0 : wx.cell? ⟨w.heap.size + 1, k * 6 + j, none⟩ = some (.int .i64 (y (k * 6 + j))) := row_c hSw.2 (k * 6 + j) (by omega); go_simp <;> with_reducible rfl)
        simp only [Act.put, List.setIfInBounds_toArray, List.set_cons_zero, List.set_cons_succ]
        refine call_at (i := 12) (by kernel_rfl) rfl (fun K hK => ?_)
        go_simp
        refine (Mul_any b s2.2 (x (k * 6 + i)) (y (k * 6 + j)) _ BF_l2.drew).mono ?_
        rintro e w1 ⟨rfl, f1, k1⟩
        generalize e1 : mulS s2.2 (x (k * 6 + i)) (y (k * 6 + j)) = r1 at f1 ⊢
        have E1 : Hid _ := e1
        clear e1
        have K1 : Kept b w w1 := Kept.trans Kl2.drew k1
        have B0_1 := B0_l2.drew.kept k1 (Nat.ne_of_gt y1_BF)
        have B1_1 := B1_l2.drew.kept k1 (Nat.ne_of_gt y2_BF)
        have B2_1 := B2_l2.drew.kept k1 (Nat.ne_of_gt y3_BF)
        have B3_1 := B3_l2.drew.kept k1 (Nat.ne_of_gt y4_BF)
        have B4_1 := B4_l2.drew.kept k1 (Nat.ne_of_gt y13_BF)
        have z1 := B4_1.lies
        clear hHeld
        refine hK.out _ _ ⟨B0_1, B1_1⟩ (fun hHeld => ?_)
        clear hK K BF_l2 B0_l2 B1_l2 B2_l2 B3_l2 B4_l2 k1
        refine take_at (i := 13) (v := ?v391) rfl (by kernel_rfl) (by kernel_rfl) (by kernel_rfl) (fun _ _ _ h => h) (Or.inl ⟨by rfl, ?y391⟩) hHeld ?t391
        case y391 => (intro wx hSw; have hi0 : (k : Int) < 13 := (by omega); go_simp <;> with_reducible rfl)
        simp only [Act.put, List.setIfInBounds_toArray, List.set_cons_zero, List.set_cons_succ]
        refine call_at (i := 14) (by kernel_rfl) rfl (fun K hK => ?_)
        have c5_B4_0 : w1.cell? ⟨Wl1.heap.size, k, none⟩ = some (.int .i64 (s2.1 k)) := row_c B4_1 k (by omega)
        have g5_B4_1 := row_f B4_1 k (by omega)
        go_simp
        clear hHeld
        refine hK.out _ _ ⟨(B0_1.new Wl1.heap.size k (Nat.ne_of_lt y13_B0) (.int .i64 r1.1)), (B1_1.new Wl1.heap.size k (Nat.ne_of_lt y13_B1) (.int .i64 r1.1))⟩ (fun hHeld => ?_)
        clear hK K c5_B4_0 g5_B4_1
        refine wpAnyH_done (by kernel_rfl) ?_ _
        clear hHeld
        go_wp2_with fail
        have hs2 : Hid (hproductsS_l2 x y i j ((fun _ => 0), s1.2) (k + 1) = ((updF s2.1 k r1.1), r1.2)) := by show _ = _; rw [hproductsS_l2_succ]; unfold hproductsS_l2s; simp only [El2.out, E1.out]
        refine give_act (fun a_ ea_ => ?_)
        rw [hJ2.out]
        intro G_ hG_
        exact hG_ ((updF s2.1 k r1.1), r1.2) (zS a_ 0) (zS a_ 20) (zS a_ 40) hs2 (by subst ea_; rfl) (K1.new _ _ (by omega) _) (f1.new Wl1.heap.size k (Nat.ne_of_lt y13_BF) (.int .i64 r1.1)) (B0_1.new Wl1.heap.size k (Nat.ne_of_lt y13_B0) (.int .i64 r1.1)) (B1_1.new Wl1.heap.size k (Nat.ne_of_lt y13_B1) (.int .i64 r1.1)) (B2_1.new Wl1.heap.size k (Nat.ne_of_lt y13_B2) (.int .i64 r1.1)) (B3_1.new Wl1.heap.size k (Nat.ne_of_lt y13_B3) (.int .i64 r1.1)) (row_put B4_1 k (by omega) r1.1)
      · intro a Wl2 hI R
        rw [hJ2.out] at hI
        refine hI _ ?_
        clear hI hJ2
        intro r2 A2 C2 D2 E2 ea Kl2 BF_l2 B0_l2 B1_l2 B2_l2 B3_l2 B4_l2
        subst ea
        have zl2_BF := BF_l2.lies
        have zl2_B0 := B0_l2.lies
        have zl2_B1 := B1_l2.lies
        have zl2_B2 := B2_l2.lies
        have zl2_B3 := B3_l2.lies
        have zl2_B4 := B4_l2.lies
        go_wp2_with fail
        refine wp_region_held_drew (S := fun w' => Arr Wl1.heap.size (row 13 r2.1) w') (by kernel_rfl) B4_l2.drew (fun hHeld => ?_)
        refine take_at (i := 0) (v := ?v392) rfl (by kernel_rfl) (by kernel_rfl) (by kernel_rfl) (fun _ _ _ h => h) (Or.inl ⟨by rfl, ?y392⟩) hHeld ?t392
        case y392 => (intro wx hSw; go_simp <;> with_reducible rfl)
        simp only [Act.put, List.setIfInBounds_toArray, List.set_cons_zero, List.set_cons_succ]
        refine take_at (i := 1) (v := ?v393) rfl (by kernel_rfl) (by kernel_rfl) (by kernel_rfl) (fun _ _ _ h => h) (Or.inl ⟨by rfl, ?y393⟩) hHeld ?t393
        case y393 => (intro wx hSw; go_simp <;> with_reducible rfl)
        simp only [Act.put, List.setIfInBounds_toArray, List.set_cons_zero, List.set_cons_succ]
        refine take_at (i := 2) (v := ?v394) rfl (by kernel_rfl) (by kernel_rfl) (by kernel_rfl) (fun _ _ _ h => h) (Or.inl ⟨by rfl, ?y394⟩) hHeld ?t394
        case y394 => (intro wx hSw; go_simp <;> with_reducible rfl)
        simp only [Act.put, List.setIfInBounds_toArray, List.set_cons_zero, List.set_cons_succ]
        refine take_at (i := 3) rfl (by kernel_rfl) (by kernel_rfl) (by kernel_rfl) (fun _ _ _ h => h) (row_yield (by rfl) rfl rfl (fun _ hSw => hSw) (by kernel_rfl) (by rw [row_len]; kernel_rfl)) hHeld ?_
        simp only [Act.put, List.setIfInBounds_toArray, List.set_cons_zero, List.set_cons_succ]
        refine take_at (i := 5) (v := ?v395) rfl (by kernel_rfl) (by kernel_rfl) (by kernel_rfl) (fun _ _ _ h => h) (Or.inl ⟨by rfl, ?y395⟩) hHeld ?t395
        case y395 => (intro wx hSw; have hi0 : (i : Int) < 6 := (by omega); go_simp <;> with_reducible rfl)
        simp only [Act.put, List.setIfInBounds_toArray, List.set_cons_zero, List.set_cons_succ]
        refine call_at (i := 4) (by kernel_rfl) rfl (fun K hK => ?_)
        go_simp
        refine (hmiddle_any b r2.2 r2.1 _ BF_l2.drew).mono ?_
        rintro e w3 ⟨rfl, f3, k3⟩
        generalize e3 : hmiddleS r2.2 r2.1 = r3 at f3 ⊢
        have E3 : Hid _ := e3
        clear e3
        have K3 : Kept b w w3 := Kept.trans Kl2.drew k3
        have B0_3 := B0_l2.drew.kept k3 (Nat.ne_of_gt y1_BF)
        have B1_3 := B1_l2.drew.kept k3 (Nat.ne_of_gt y2_BF)
        have B2_3 := B2_l2.drew.kept k3 (Nat.ne_of_gt y3_BF)
        have B3_3 := B3_l2.drew.kept k3 (Nat.ne_of_gt y4_BF)
        have B4_3 := B4_l2.drew.kept k3 (Nat.ne_of_gt y13_BF)
        have z3 := B4_3.lies
        clear hHeld
        refine hK.out _ _ B4_3 (fun hHeld => ?_)
        clear hK K BF_l2 B0_l2 B1_l2 B2_l2 B3_l2 B4_l2 k3
        refine take_at (i := 6) (v := ?v396) rfl (by kernel_rfl) (by kernel_rfl) (by kernel_rfl) (fun _ _ _ h => h) (Or.inl ⟨by rfl, ?y396⟩) hHeld ?t396
        case y396 => (intro wx hSw; have hi0 : (j : Int) < 6 := (by omega); go_simp <;> with_reducible rfl)
        simp only [Act.put, List.setIfInBounds_toArray, List.set_cons_zero, List.set_cons_succ]
        refine call_at (i := 7) (by kernel_rfl) rfl (fun K hK => ?_)
        have c8_B3_0 : w3.cell? ⟨w.heap.size + 1 + 1 + 1, i * 6 + j, none⟩ = some (.int .i64 (s1.1 (i * 6 + j))) := row_c B3_3 (i * 6 + j) (by omega)
        have g8_B3_1 := row_f B3_3 (i * 6 + j) (by omega)
        go_simp
        clear hHeld
        refine hK.out _ _ (B4_3.new (w.heap.size + 1 + 1 + 1) (i * 6 + j) (Nat.ne_of_gt y13_B3) (.int .i64 r3.1)) (fun hHeld => ?_)
        clear hK K c8_B3_0 g8_B3_1
        refine wpAnyH_done (by kernel_rfl) ?_ _
        clear hHeld
        go_wp2_with fail
        have hs1 : Hid (hproductsS_l1 x y i (s0.1, s0.2) (j + 1) = ((updF s1.1 (i * 6 + j) r3.1), r3.2)) := by show _ = _; rw [hproductsS_l1_succ]; unfold hproductsS_l1s; simp only [El1.out, E2.out, E3.out]
        refine give_act (fun a_ ea_ => ?_)
        rw [hJ1.out]
        intro G_ hG_
        exact hG_ ((updF s1.1 (i * 6 + j) r3.1), r3.2) (zS a_ 0) (zS a_ 20) (zS a_ 40) hs1 (by subst ea_; rfl) (K3.new _ _ (by omega) _) (f3.new (w.heap.size + 1 + 1 + 1) (i * 6 + j) (Nat.ne_of_lt y4_BF) (.int .i64 r3.1)) (B0_3.new (w.heap.size + 1 + 1 + 1) (i * 6 + j) (Nat.ne_of_lt y4_B0) (.int .i64 r3.1)) (B1_3.new (w.heap.size + 1 + 1 + 1) (i * 6 + j) (Nat.ne_of_lt y4_B1) (.int .i64 r3.1)) (B2_3.new (w.heap.size + 1 + 1 + 1) (i * 6 + j) (Nat.ne_of_lt y4_B2) (.int .i64 r3.1)) (row_put B3_3 (i * 6 + j) (by omega) r3.1)
    · intro a Wl1 hI R
      rw [hJ1.out] at hI
      refine hI _ ?_
      clear hI hJ1
      intro r1 A1 C1 D1 E1 ea Kl1 BF_l1 B0_l1 B1_l1 B2_l1 B3_l1
      subst ea
      have zl1_BF := BF_l1.lies
      have zl1_B0 := B0_l1.lies
      have zl1_B1 := B1_l1.lies
      have zl1_B2 := B2_l1.lies
      have zl1_B3 := B3_l1.lies
      go_wp2_with fail
      have hs0 : Hid (hproductsS_l0 x y ((fun _ => 0), bad) (i + 1) = (r1.1, r1.2)) := by show _ = _; rw [hproductsS_l0_succ]; unfold hproductsS_l0s; simp only [El0.out, E1.out]
      refine give_act (fun a_ ea_ => ?_)
      rw [hJ0.out]
      intro G_ hG_
      exact hG_ (r1.1, r1.2) (zS a_ 0) (zS a_ 20) (zS a_ 40) hs0 (by subst ea_; rfl) Kl1 BF_l1 B0_l1 B1_l1 B2_l1 B3_l1
  · intro a Wl0 hI R
    rw [hJ0.out] at hI
    refine hI _ ?_
    clear hI hJ0
    intro r1 A0 C0 D0 E1 ea Kl0 BF_l0 B0_l0 B1_l0 B2_l0 B3_l0
    subst ea
    have zl0_BF := BF_l0.lies
    have zl0_B0 := B0_l0.lies
    have zl0_B1 := B1_l0.lies
    have zl0_B2 := B2_l0.lies
    have zl0_B3 := B3_l0.lies
    go_wp2_with (first | (refine row_load (ty := 38) rfl rfl rfl B3_l0 (by kernel_rfl) (by rw [row_len]; kernel_rfl) ?_) | (refine store_stop rfl (by kernel_rfl) ?_))
    refine Stop.mk (store_row (l' := row 36 r1.1) rfl rfl rfl rfl B2_l0 (by simp only [row_len]) (by rw [row_len]; kernel_rfl) (row_one _ _) ?_)
    intro w2 B2_2 o2
    have K2 : Kept b w w2 := Kept.off Kl0 o2 (by omega)
    have BF_2 := BF_l0.off o2 (Nat.ne_of_lt y3_BF)
    have B3_2 := B3_l0.off o2 (Nat.ne_of_gt y4_B2)
    have z2_B2 := B2_2.lies
    have z2_BF := BF_2.lies
    have z2_B3 := B3_2.lies
    clear B2_l0 BF_l0 B3_l0 o2
    go_wp2_with (with_reducible refine post_stop ?_)
    refine Stop.mk ?_
    refine bodyPost_ret (v := .agg (row 36 r1.1).toArray) (results_arr Tryz.results146 B2_2 rfl (by kernel_rfl) (by rw [row_len]; kernel_rfl)) rfl ?_
    have hs : hproductsS bad x y = (r1.1, r1.2) := by unfold hproductsS; simp only [E1.out]
    rw [hs]
    exact ⟨rfl, BF_2, K2⟩
end Go.Proofs.YtoadcnhcfodkgaaGreatDoor
