/-
  Walks of package filter, for the seat YtoadcnhcfodkgaaGreatDoor. (Made by mkfil14.py.)
-/
import Derived.Test.YtoadcnhcfodkgaaGreatDoorXAct
import Derived.Test.YtoadcnhcfodkgaaGreatDoorFCMid
import Derived.Handy
import Derived.Deep.RegionHeld3
namespace Go.Proofs.YtoadcnhcfodkgaaGreatDoor
open Go.RowKit

set_option maxRecDepth 100000 in
set_option maxHeartbeats 20000000 in
theorem hmean_any (b : Nat) (bad : Bool) (x : Nat → Int) (w : World) (hw : Fl b bad w) :
    Calls Tryz.prog 144 #[.pointer (some ⟨b, 0, none⟩), .agg (row 78 x).toArray] w fun e w' => e = .returned (.agg (row 6 ((hmeanS bad x).1)).toArray) ∧ Fl b (hmeanS bad x).2 w' ∧ Kept b w w' := by
  have hl := hw.lies
  go_enter Tryz.func144, Tryz.ntmps144
  have y1_BF : b < w.heap.size := hw.lies
  have y2_BF : b < w.heap.size + 1 := (Nat.lt_succ_of_lt hw.lies)
  have y2_B0 : w.heap.size < w.heap.size + 1 := (Nat.lt_succ_self _)
  have y3_BF : b < w.heap.size + 1 + 1 := (Nat.lt_succ_of_lt (Nat.lt_succ_of_lt hw.lies))
  have y3_B0 : w.heap.size < w.heap.size + 1 + 1 := (Nat.lt_succ_of_lt (Nat.lt_succ_self _))
  have y3_B1 : w.heap.size + 1 < w.heap.size + 1 + 1 := (Nat.lt_succ_self _)
  go_wp2_with fail
  obtain ⟨J0, hJ0⟩ : ∃ J : Nat → Act → World → Prop, Hid (J = fun i a Wl0 => ∀ G_ : Prop, (∀ (s0 : (Nat → Int) × Bool) (A0 C0 : Nat → Value), Hid (hmeanS_l0 x ((fun _ => 0), bad) i = s0) → a = { tmps := #[.pointer (some ⟨b, 0, none⟩), A0 1, A0 2, .pointer (some ⟨w.heap.size, 0, none⟩), .pointer (some ⟨w.heap.size + 1, 0, none⟩), .pointer (some ⟨w.heap.size + 1 + 1, 0, none⟩), A0 6, A0 7, A0 8, .int .i64 (i : Int), A0 10, A0 11, A0 12, A0 13, A0 14, A0 15, A0 16, A0 17, A0 18, A0 19, C0 0, C0 1, C0 2, C0 3, C0 4, C0 5, C0 6, C0 7, C0 8, C0 9], defers := [] } → Kept b w Wl0 → Fl b s0.2 Wl0 → Arr w.heap.size (row 78 x) Wl0 → Arr (w.heap.size + 1) (row 6 (fun _ => 0)) Wl0 → Arr (w.heap.size + 1 + 1) (row 6 s0.1) Wl0 → G_) → G_) := ⟨_, rfl⟩
  refine rounds_up J0 6 ?_ ?_ ?_
  · refine give_act (fun a_ ea_ => ?_)
    rw [hJ0.out]
    intro G_ hG_
    exact hG_ ((fun _ => 0), bad) (zS a_ 0) (zS a_ 20) rfl (by subst ea_; rfl) ((((Kept.refl b w).al _).al _).al _) (((hw.alloc _).alloc _).alloc _) (((Arr_at _ _ (row 78 x) _ (by simp)).alloc _).alloc _) ((Arr_at _ _ (row 6 (fun _ => 0)) _ (by simp)).alloc _) (Arr_at _ _ (row 6 (fun _ => 0)) _ (by simp))
  · intro i a Wl0 hi hI R hR
    rw [hJ0.out] at hI
    refine hI _ ?_
    clear hI
    intro s0 A0 C0 El0 ea Kl0 BF_l0 B0_l0 B1_l0 B2_l0
    subst ea
    have zl0_BF := BF_l0.lies
    have zl0_B0 := B0_l0.lies
    have zl0_B1 := B1_l0.lies
    have zl0_B2 := B2_l0.lies
    have y6_BF : b < Wl0.heap.size := BF_l0.lies
    have y6_B0 : w.heap.size < Wl0.heap.size := B0_l0.lies
    have y6_B1 : w.heap.size + 1 < Wl0.heap.size := B1_l0.lies
    have y6_B2 : w.heap.size + 1 + 1 < Wl0.heap.size := B2_l0.lies
    go_wp2_with fail
    obtain ⟨J1, hJ1⟩ : ∃ J : Nat → Act → World → Prop, Hid (J = fun k a Wl1 => ∀ G_ : Prop, (∀ (s1 : (Nat → Int)) (A1 C1 : Nat → Value), Hid (hmeanS_l1 x i (fun _ => 0) k = s1) → a = { tmps := #[.pointer (some ⟨b, 0, none⟩), A1 1, A1 2, .pointer (some ⟨w.heap.size, 0, none⟩), .pointer (some ⟨w.heap.size + 1, 0, none⟩), .pointer (some ⟨w.heap.size + 1 + 1, 0, none⟩), .int .i64 (i : Int), .pointer (some ⟨Wl0.heap.size, 0, none⟩), A1 8, .int .i64 (i : Int), A1 10, A1 11, .int .i64 (k : Int), A1 13, A1 14, A1 15, A1 16, A1 17, A1 18, A1 19, C1 0, C1 1, C1 2, C1 3, C1 4, C1 5, C1 6, C1 7, C1 8, C1 9], defers := [] } → Kept b w Wl1 → Fl b s0.2 Wl1 → Arr w.heap.size (row 78 x) Wl1 → Arr (w.heap.size + 1) (row 6 (fun _ => 0)) Wl1 → Arr (w.heap.size + 1 + 1) (row 6 s0.1) Wl1 → Arr Wl0.heap.size (row 13 s1) Wl1 → G_) → G_) := ⟨_, rfl⟩
    refine rounds_up J1 13 ?_ ?_ ?_
    · refine give_act (fun a_ ea_ => ?_)
      rw [hJ1.out]
      intro G_ hG_
      exact hG_ (fun _ => 0) (zS a_ 0) (zS a_ 20) rfl (by subst ea_; rfl) (Kl0.al _) (BF_l0.alloc _) (B0_l0.alloc _) (B1_l0.alloc _) (B2_l0.alloc _) (Arr_at _ _ (row 13 (fun _ => 0)) _ (by simp))
    · intro k a Wl1 hk hI R hR
      rw [hJ1.out] at hI
      refine hI _ ?_
      clear hI
      intro s1 A1 C1 El1 ea Kl1 BF_l1 B0_l1 B1_l1 B2_l1 B3_l1
      subst ea
      have zl1_BF := BF_l1.lies
      have zl1_B0 := B0_l1.lies
      have zl1_B1 := B1_l1.lies
      have zl1_B2 := B2_l1.lies
      have zl1_B3 := B3_l1.lies
      have c3_B0_0 : Wl1.cell? ⟨w.heap.size, k * 6 + i, none⟩ = some (.int .i64 (x (k * 6 + i))) := row_c B0_l1 (k * 6 + i) (by omega)
      have c3_B3_1 : Wl1.cell? ⟨Wl0.heap.size, k, none⟩ = some (.int .i64 (s1 k)) := row_c B3_l1 k (by omega)
      have g3_B3_2 := row_f B3_l1 k (by omega)
      have i3_3 : (i : Int) < 6 := by omega
      have i3_4 : (k : Int) < 13 := by omega
      go_wp2_with fail
      clear c3_B0_0 c3_B3_1 g3_B3_2 i3_3 i3_4
      have hs1 : Hid (hmeanS_l1 x i (fun _ => 0) (k + 1) = (updF s1 k (x (k * 6 + i)))) := by show _ = _; rw [hmeanS_l1_succ]; unfold hmeanS_l1s; simp only [El1.out]
      refine give_act (fun a_ ea_ => ?_)
      rw [hJ1.out]
      intro G_ hG_
      exact hG_ (updF s1 k (x (k * 6 + i))) (zS a_ 0) (zS a_ 20) hs1 (by subst ea_; rfl) (Kl1.new _ _ (by omega) _) (BF_l1.new Wl0.heap.size k (Nat.ne_of_lt y6_BF) (.int .i64 (x (k * 6 + i)))) (B0_l1.new Wl0.heap.size k (Nat.ne_of_lt y6_B0) (.int .i64 (x (k * 6 + i)))) (B1_l1.new Wl0.heap.size k (Nat.ne_of_lt y6_B1) (.int .i64 (x (k * 6 + i)))) (B2_l1.new Wl0.heap.size k (Nat.ne_of_lt y6_B2) (.int .i64 (x (k * 6 + i)))) (row_put B3_l1 k (by omega) (x (k * 6 + i)))
    · intro a Wl1 hI R
      rw [hJ1.out] at hI
      refine hI _ ?_
      clear hI hJ1
      intro r1 A1 C1 E1 ea Kl1 BF_l1 B0_l1 B1_l1 B2_l1 B3_l1
      subst ea
      have zl1_BF := BF_l1.lies
      have zl1_B0 := B0_l1.lies
      have zl1_B1 := B1_l1.lies
      have zl1_B2 := B2_l1.lies
      have zl1_B3 := B3_l1.lies
      go_wp2_with (refine row_load (ty := 272) rfl rfl rfl B3_l1 (by kernel_rfl) (by rw [row_len]; kernel_rfl) ?_)
      refine (hmiddle_any b s0.2 r1 _ BF_l1).mono ?_
      rintro e w2 ⟨rfl, f2, k2⟩
      generalize e2 : hmiddleS s0.2 r1 = r2 at f2 ⊢
      have E2 : Hid _ := e2
      clear e2
      try dsimp only
      have K2 : Kept b w w2 := Kept.trans Kl1 k2
      have B0_2 := B0_l1.kept k2 (Nat.ne_of_gt y1_BF)
      have B1_2 := B1_l1.kept k2 (Nat.ne_of_gt y2_BF)
      have B2_2 := B2_l1.kept k2 (Nat.ne_of_gt y3_BF)
      have B3_2 := B3_l1.kept k2 (Nat.ne_of_gt y6_BF)
      have z2 := B3_2.lies
      clear BF_l1 B0_l1 B1_l1 B2_l1 B3_l1 k2
      have c5_B2_0 : w2.cell? ⟨w.heap.size + 1 + 1, i, none⟩ = some (.int .i64 (s0.1 i)) := row_c B2_2 i (by omega)
      have g5_B2_1 := row_f B2_2 i (by omega)
      have i5_2 : (i : Int) < 6 := by omega
      go_wp2_with fail
      clear c5_B2_0 g5_B2_1 i5_2
      have hs0 : Hid (hmeanS_l0 x ((fun _ => 0), bad) (i + 1) = ((updF s0.1 i r2.1), r2.2)) := by show _ = _; rw [hmeanS_l0_succ]; unfold hmeanS_l0s; simp only [El0.out, E1.out, E2.out]
      refine give_act (fun a_ ea_ => ?_)
      rw [hJ0.out]
      intro G_ hG_
      exact hG_ ((updF s0.1 i r2.1), r2.2) (zS a_ 0) (zS a_ 20) hs0 (by subst ea_; rfl) (K2.new _ _ (by omega) _) (f2.new (w.heap.size + 1 + 1) i (Nat.ne_of_lt y3_BF) (.int .i64 r2.1)) (B0_2.new (w.heap.size + 1 + 1) i (Nat.ne_of_lt y3_B0) (.int .i64 r2.1)) (B1_2.new (w.heap.size + 1 + 1) i (Nat.ne_of_lt y3_B1) (.int .i64 r2.1)) (row_put B2_2 i (by omega) r2.1)
  · intro a Wl0 hI R
    rw [hJ0.out] at hI
    refine hI _ ?_
    clear hI hJ0
    intro r1 A0 C0 E1 ea Kl0 BF_l0 B0_l0 B1_l0 B2_l0
    subst ea
    have zl0_BF := BF_l0.lies
    have zl0_B0 := B0_l0.lies
    have zl0_B1 := B1_l0.lies
    have zl0_B2 := B2_l0.lies
    go_wp2_with (first | (refine row_load (ty := 36) rfl rfl rfl B2_l0 (by kernel_rfl) (by rw [row_len]; kernel_rfl) ?_) | (refine store_stop rfl (by kernel_rfl) ?_))
    refine Stop.mk (store_row (l' := row 6 r1.1) rfl rfl rfl rfl B1_l0 (by simp only [row_len]) (by rw [row_len]; kernel_rfl) (row_one _ _) ?_)
    intro w2 B1_2 o2
    have K2 : Kept b w w2 := Kept.off Kl0 o2 (by omega)
    have BF_2 := BF_l0.off o2 (Nat.ne_of_lt y2_BF)
    have B2_2 := B2_l0.off o2 (Nat.ne_of_gt y3_B1)
    have z2_B1 := B1_2.lies
    have z2_BF := BF_2.lies
    have z2_B2 := B2_2.lies
    clear B1_l0 BF_l0 B2_l0 o2
    go_wp2_with (with_reducible refine post_stop ?_)
    refine Stop.mk ?_
    refine bodyPost_ret (v := .agg (row 6 r1.1).toArray) (results_arr Tryz.results144 B1_2 rfl (by kernel_rfl) (by rw [row_len]; kernel_rfl)) rfl ?_
    have hs : hmeanS bad x = (r1.1, r1.2) := by unfold hmeanS; simp only [E1.out]
    rw [hs]
    exact ⟨rfl, BF_2, K2⟩
end Go.Proofs.YtoadcnhcfodkgaaGreatDoor
