/-
  The walk of shapesOf, for the seat YtoadcnhcfodkgaaGreatDoor. (Made by mkfield.py.)
-/
import Derived.Test.YtoadcnhcfodkgaaGreatDoorGTri
import Derived.Test.YtoadcnhcfodkgaaGreatDoorMapR
import Derived.Handy
import Derived.Deep.RegionHeld3
namespace Go.Proofs.YtoadcnhcfodkgaaGreatDoor
open Go.RowKit

set_option maxRecDepth 100000 in
set_option maxHeartbeats 4000000 in
theorem shapes_any (b : Nat) (c s : Int) (P D Q : Nat → Nat → Int) (Z : Tri c s P D Q) (ic : I64 c) (is : I64 s) (w : World) (hw : Fl b false w) :
    Calls Tryz.prog 223 #[.pointer (some ⟨b, 0, none⟩), .int .i64 c, .int .i64 s] w fun e w' => ∃ kA kB kC : Nat, e = .returned (.agg #[.map (some kA), .map (some kB), .map (some kC)]) ∧ Fl b false w' ∧ Mp kA 50 (triM P 6 0) w' ∧ Mp kB 50 (triM D 6 0) w' ∧ Mp kC 50 (triM Q 6 0) w' ∧ w.heap.size ≤ kA ∧ w.heap.size ≤ kB ∧ w.heap.size ≤ kC ∧ kA ≠ kB ∧ kA ≠ kC ∧ kB ≠ kC ∧ Kept b w w' := by
  have hl := hw.lies
  go_enter Tryz.func223, Tryz.ntmps223
  have y1_BF : b < w.heap.size := hw.lies
  go_wp2_with fail
  refine get_cont (fun KK1 hKK1 => ?_)
  have cont1 : ∀ (W1 : World) (t1_10 t1_11 t1_12 t1_13 t1_14 t1_15 t1_16 t1_17 t1_18 t1_19 t1_20 t1_21 t1_22 t1_23 : Value) (x1_0 : Nat) (x1_1 : Nat) (x1_2 : Nat) (x1_3 : Nat) , Kept b w W1 → Fl b false W1 → Arr w.heap.size [.map none, .map none, .map none] W1 → Mp x1_0 2 (mf2 true 1099511627776 true s) W1 → Mp x1_1 2 (mf2 true 0 true c) W1 → Mp x1_2 1 (mf2 false 0 true 1099511627776) W1 → Arr x1_3 [.map (some x1_0), .map (some x1_1), .map (some x1_2)] W1 → w.heap.size ≤ x1_0 → w.heap.size ≤ x1_1 → w.heap.size ≤ x1_2 → w.heap.size ≤ x1_3 → b < x1_0 → w.heap.size < x1_0 → b < x1_1 → w.heap.size < x1_1 → b < x1_2 → w.heap.size < x1_2 → b < x1_3 → w.heap.size < x1_3 → x1_0 ≠ x1_1 → x1_0 ≠ x1_2 → x1_0 ≠ x1_3 → x1_1 ≠ x1_2 → x1_1 ≠ x1_3 → x1_2 ≠ x1_3 → KK1 { tmps := #[.pointer (some ⟨b, 0, none⟩), .int .i64 c, .int .i64 s, undef, undef, undef, .pointer (some ⟨w.heap.size, 0, none⟩), .pointer (some ⟨x1_3, 0, none⟩), undef, undef, t1_10, t1_11, t1_12, t1_13, t1_14, t1_15, t1_16, t1_17, t1_18, t1_19, t1_20, t1_21, t1_22, t1_23, undef, undef, undef, undef, undef, undef, undef, undef, undef, undef, undef, undef, undef, undef, undef, undef, undef, undef, undef, undef, undef, undef, undef, undef, undef], defers := [] } W1 := by
    intro W1 t1_10 t1_11 t1_12 t1_13 t1_14 t1_15 t1_16 t1_17 t1_18 t1_19 t1_20 t1_21 t1_22 t1_23 x1_0 x1_1 x1_2 x1_3 KC1 BF_c1 B0_c1 B1_c1 B2_c1 B3_c1 B4_c1 s1_0 s1_1 s1_2 s1_3 s1_4 s1_5 s1_6 s1_7 s1_8 s1_9 s1_10 s1_11 s1_12 s1_13 s1_14 s1_15 s1_16 s1_17
    have zc1_BF := BF_c1.lies
    have zc1_B0 := B0_c1.lies
    have zc1_B1 := B1_c1.lies
    have zc1_B2 := B2_c1.lies
    have zc1_B3 := B3_c1.lies
    have zc1_B4 := B4_c1.lies
    rw [hKK1.out]
    dsimp only [Exit.inBlock, Exit.then]
    first | refine use_cont (by assumption) ?_ | skip
    go_wp2_with fail
    obtain ⟨J0, hJ0⟩ : ∃ J : Nat → Act → World → Prop, Hid (J = fun k a Wl0 => ∀ G_ : Prop, (∀ (t0_3 t0_4 t0_5 t0_9 t0_10 t0_11 t0_12 t0_13 t0_14 t0_15 t0_16 t0_17 t0_18 t0_19 t0_20 t0_21 t0_22 t0_23 t0_24 t0_25 t0_26 t0_27 t0_28 t0_29 t0_30 t0_31 t0_32 t0_33 t0_34 t0_35 t0_36 t0_37 t0_38 t0_39 t0_40 t0_41 t0_42 t0_43 t0_44 t0_45 t0_46 t0_47 t0_48 : Value), a = { tmps := #[.pointer (some ⟨b, 0, none⟩), .int .i64 c, .int .i64 s, t0_3, t0_4, t0_5, .pointer (some ⟨w.heap.size, 0, none⟩), .pointer (some ⟨x1_3, 0, none⟩), .int .i64 ((k : Int) + 1), t0_9, t0_10, t0_11, t0_12, t0_13, t0_14, t0_15, t0_16, t0_17, t0_18, t0_19, t0_20, t0_21, t0_22, t0_23, t0_24, t0_25, t0_26, t0_27, t0_28, t0_29, t0_30, t0_31, t0_32, t0_33, t0_34, t0_35, t0_36, t0_37, t0_38, t0_39, t0_40, t0_41, t0_42, t0_43, t0_44, t0_45, t0_46, t0_47, t0_48], defers := [] } → Kept b w Wl0 → Fl b false Wl0 → Arr w.heap.size [.map none, .map none, .map none] Wl0 → Mp x1_0 (8 * k + 2) (triM P k 0) Wl0 → Mp x1_1 (8 * k + 2) (triM D k 0) Wl0 → Mp x1_2 (8 * k + 2) (triM Q k 0) Wl0 → Arr x1_3 [.map (some x1_0), .map (some x1_1), .map (some x1_2)] Wl0 → G_) → G_) := ⟨_, rfl⟩
    refine rounds_up J0 6 ?_ ?_ ?_
    · rw [hJ0.out]
      intro G_ hG_
      exact hG_ _ _ _ _ _ _ _ _ _ _ _ _ _ _ _ _ _ _ _ _ _ _ _ _ _ _ _ _ _ _ _ _ _ _ _ _ _ _ _ _ _ _ _ rfl KC1 BF_c1 B0_c1 (((B1_c1).mono (by decide)).eqv (triM_none P Z.p0 Z.p1)) (((B2_c1).mono (by decide)).eqv (triM_none D Z.d0 Z.d1)) ((((B3_c1).mono (by decide)).eqv (mf2_none _ _)).eqv (triM_none Q Z.q0 Z.q1)) B4_c1
    · intro k a Wl0 hk hI R hR
      rw [hJ0.out] at hI
      refine hI _ ?_
      clear hI
      intro t0_3 t0_4 t0_5 t0_9 t0_10 t0_11 t0_12 t0_13 t0_14 t0_15 t0_16 t0_17 t0_18 t0_19 t0_20 t0_21 t0_22 t0_23 t0_24 t0_25 t0_26 t0_27 t0_28 t0_29 t0_30 t0_31 t0_32 t0_33 t0_34 t0_35 t0_36 t0_37 t0_38 t0_39 t0_40 t0_41 t0_42 t0_43 t0_44 t0_45 t0_46 t0_47 t0_48 ea Kl0 BF_l0 B0_l0 B1_l0 B2_l0 B3_l0 B4_l0
      subst ea
      have zl0_BF := BF_l0.lies
      have zl0_B0 := B0_l0.lies
      have zl0_B1 := B1_l0.lies
      have zl0_B2 := B2_l0.lies
      have zl0_B3 := B3_l0.lies
      have zl0_B4 := B4_l0.lies
      go_wp2_with fail
      obtain ⟨J1, hJ1⟩ : ∃ J : Nat → Act → World → Prop, Hid (J = fun m a Wl1 => ∀ G_ : Prop, (∀ (t1_3 t1_4 t1_5 t1_9 t1_10 t1_11 t1_12 t1_13 t1_14 t1_15 t1_16 t1_17 t1_18 t1_19 t1_20 t1_21 t1_22 t1_23 t1_24 t1_25 t1_26 t1_27 t1_30 t1_31 t1_32 t1_33 t1_34 t1_35 t1_36 t1_37 t1_38 t1_39 t1_40 t1_41 t1_42 t1_43 t1_44 t1_45 t1_46 t1_47 t1_48 : Value), a = { tmps := #[.pointer (some ⟨b, 0, none⟩), .int .i64 c, .int .i64 s, t1_3, t1_4, t1_5, .pointer (some ⟨w.heap.size, 0, none⟩), .pointer (some ⟨x1_3, 0, none⟩), .int .i64 ((k : Int) + 1), t1_9, t1_10, t1_11, t1_12, t1_13, t1_14, t1_15, t1_16, t1_17, t1_18, t1_19, t1_20, t1_21, t1_22, t1_23, t1_24, t1_25, t1_26, t1_27, .int .i64 ((k : Int) + 1), .int .i64 (m : Int), t1_30, t1_31, t1_32, t1_33, t1_34, t1_35, t1_36, t1_37, t1_38, t1_39, t1_40, t1_41, t1_42, t1_43, t1_44, t1_45, t1_46, t1_47, t1_48], defers := [] } → Kept b w Wl1 → Fl b false Wl1 → Arr w.heap.size [.map none, .map none, .map none] Wl1 → Mp x1_0 (8 * k + m + 2) (triM P k m) Wl1 → Mp x1_1 (8 * k + m + 2) (triM D k m) Wl1 → Mp x1_2 (8 * k + m + 2) (triM Q k m) Wl1 → Arr x1_3 [.map (some x1_0), .map (some x1_1), .map (some x1_2)] Wl1 → G_) → G_) := ⟨_, rfl⟩
      refine rounds_up J1 (k + 1) ?_ ?_ ?_
      · rw [hJ1.out]
        intro G_ hG_
        exact hG_ _ _ _ _ _ _ _ _ _ _ _ _ _ _ _ _ _ _ _ _ _ _ _ _ _ _ _ _ _ _ _ _ _ _ _ _ _ _ _ _ _ rfl Kl0 BF_l0 B0_l0 B1_l0 B2_l0 B3_l0 B4_l0
      · intro m a Wl1 hm hI R hR
        rw [hJ1.out] at hI
        refine hI _ ?_
        clear hI
        intro t1_3 t1_4 t1_5 t1_9 t1_10 t1_11 t1_12 t1_13 t1_14 t1_15 t1_16 t1_17 t1_18 t1_19 t1_20 t1_21 t1_22 t1_23 t1_24 t1_25 t1_26 t1_27 t1_30 t1_31 t1_32 t1_33 t1_34 t1_35 t1_36 t1_37 t1_38 t1_39 t1_40 t1_41 t1_42 t1_43 t1_44 t1_45 t1_46 t1_47 t1_48 ea Kl1 BF_l1 B0_l1 B1_l1 B2_l1 B3_l1 B4_l1
        subst ea
        have zl1_BF := BF_l1.lies
        have zl1_B0 := B0_l1.lies
        have zl1_B1 := B1_l1.lies
        have zl1_B2 := B2_l1.lies
        have zl1_B3 := B3_l1.lies
        have zl1_B4 := B4_l1.lies
        have c4_B4_0 : Wl1.cell? ⟨x1_3, 0, none⟩ = some (.map (some x1_0)) := B4_l1.c 0 (of_decide_eq_true rfl)
        have c4_B4_1 : Wl1.cell? ⟨x1_3, 1, none⟩ = some (.map (some x1_1)) := B4_l1.c 1 (of_decide_eq_true rfl)
        have c4_B4_2 : Wl1.cell? ⟨x1_3, 2, none⟩ = some (.map (some x1_2)) := B4_l1.c 2 (of_decide_eq_true rfl)
        go_wp2_with fail
        refine (below_at b x1_0 x1_1 x1_2 k m c s P D Q Z _ BF_l1 B1_l1 B2_l1 B3_l1 (Nat.ne_of_lt s1_4) (Nat.ne_of_lt s1_6) (Nat.ne_of_lt s1_8) s1_12 s1_13 s1_15 hk hm).mono ?_
        rintro e w1 ⟨rfl, f1, B1_1, B2_1, B3_1, k1⟩
        have K1 : Kept b w w1 := Kept.off_list Kl1 k1 (by simp; omega)
        have B0_1 : Arr w.heap.size [.map none, .map none, .map none] w1 := B0_l1.keptL k1 (by simp; omega)
        have B4_1 : Arr x1_3 [.map (some x1_0), .map (some x1_1), .map (some x1_2)] w1 := B4_l1.keptL k1 (by simp; omega)
        have z1_BF := f1.lies
        have z1_B1 := B1_1.lies
        have z1_B2 := B2_1.lies
        have z1_B3 := B3_1.lies
        have z1_B0 := B0_1.lies
        have z1_B4 := B4_1.lies
        clear c4_B4_0 c4_B4_1 c4_B4_2 BF_l1 B1_l1 B2_l1 B3_l1 B0_l1 B4_l1 k1
        go_wp2_with fail
        rw [hJ1.out]
        intro G_ hG_
        exact hG_ _ _ _ _ _ _ _ _ _ _ _ _ _ _ _ _ _ _ _ _ _ _ _ _ _ _ _ _ _ _ _ _ _ _ _ _ _ _ _ _ _ rfl K1 f1 B0_1 B1_1 B2_1 B3_1 B4_1
      · intro a Wl1 hI R
        rw [hJ1.out] at hI
        refine hI _ ?_
        clear hI hJ1
        intro t1_3 t1_4 t1_5 t1_9 t1_10 t1_11 t1_12 t1_13 t1_14 t1_15 t1_16 t1_17 t1_18 t1_19 t1_20 t1_21 t1_22 t1_23 t1_24 t1_25 t1_26 t1_27 t1_30 t1_31 t1_32 t1_33 t1_34 t1_35 t1_36 t1_37 t1_38 t1_39 t1_40 t1_41 t1_42 t1_43 t1_44 t1_45 t1_46 t1_47 t1_48 ea Kl1 BF_l1 B0_l1 B1_l1 B2_l1 B3_l1 B4_l1
        subst ea
        have zl1_BF := BF_l1.lies
        have zl1_B0 := B0_l1.lies
        have zl1_B1 := B1_l1.lies
        have zl1_B2 := B2_l1.lies
        have zl1_B3 := B3_l1.lies
        have zl1_B4 := B4_l1.lies
        by_cases hc1 : ((k : Int) + 1) > 1
        · have Hhc1 : Hid (((k : Int) + 1) > 1) := hc1
          have c7_B4_0 : Wl1.cell? ⟨x1_3, 0, none⟩ = some (.map (some x1_0)) := B4_l1.c 0 (of_decide_eq_true rfl)
          have c7_B4_1 : Wl1.cell? ⟨x1_3, 1, none⟩ = some (.map (some x1_1)) := B4_l1.c 1 (of_decide_eq_true rfl)
          have c7_B4_2 : Wl1.cell? ⟨x1_3, 2, none⟩ = some (.map (some x1_2)) := B4_l1.c 2 (of_decide_eq_true rfl)
          go_wp2_with fail
          refine (even_at b x1_0 x1_1 x1_2 k c s P D Q Z _ BF_l1 B1_l1 B2_l1 B3_l1 (Nat.ne_of_lt s1_4) (Nat.ne_of_lt s1_6) (Nat.ne_of_lt s1_8) s1_12 s1_13 s1_15 hk hc1).mono ?_
          rintro e w2001 ⟨rfl, f2001, B1_2001, B2_2001, B3_2001, k2001⟩
          have K2001 : Kept b w w2001 := Kept.off_list Kl1 k2001 (by simp; omega)
          have B0_2001 : Arr w.heap.size [.map none, .map none, .map none] w2001 := B0_l1.keptL k2001 (by simp; omega)
          have B4_2001 : Arr x1_3 [.map (some x1_0), .map (some x1_1), .map (some x1_2)] w2001 := B4_l1.keptL k2001 (by simp; omega)
          have z2001_BF := f2001.lies
          have z2001_B1 := B1_2001.lies
          have z2001_B2 := B2_2001.lies
          have z2001_B3 := B3_2001.lies
          have z2001_B0 := B0_2001.lies
          have z2001_B4 := B4_2001.lies
          clear c7_B4_0 c7_B4_1 c7_B4_2 BF_l1 B1_l1 B2_l1 B3_l1 B0_l1 B4_l1 k2001
          go_wp2_with fail
          rw [hJ0.out]
          intro G_ hG_
          exact hG_ _ _ _ _ _ _ _ _ _ _ _ _ _ _ _ _ _ _ _ _ _ _ _ _ _ _ _ _ _ _ _ _ _ _ _ _ _ _ _ _ _ _ _ rfl K2001 f2001 B0_2001 B1_2001 B2_2001 B3_2001 B4_2001
        · have Hhc1 : Hid (¬ ((k : Int) + 1) > 1) := hc1
          go_wp2_with fail
          rw [hJ0.out]
          intro G_ hG_
          exact hG_ _ _ _ _ _ _ _ _ _ _ _ _ _ _ _ _ _ _ _ _ _ _ _ _ _ _ _ _ _ _ _ _ _ _ _ _ _ _ _ _ _ _ _ rfl Kl1 BF_l1 B0_l1 (((B1_l1).mono (by omega)).eqv (triM_one P (by omega))) (((B2_l1).mono (by omega)).eqv (triM_one D (by omega))) (((B3_l1).mono (by omega)).eqv (triM_one Q (by omega))) B4_l1
    · intro a Wl0 hI R
      rw [hJ0.out] at hI
      refine hI _ ?_
      clear hI hJ0
      intro t0_3 t0_4 t0_5 t0_9 t0_10 t0_11 t0_12 t0_13 t0_14 t0_15 t0_16 t0_17 t0_18 t0_19 t0_20 t0_21 t0_22 t0_23 t0_24 t0_25 t0_26 t0_27 t0_28 t0_29 t0_30 t0_31 t0_32 t0_33 t0_34 t0_35 t0_36 t0_37 t0_38 t0_39 t0_40 t0_41 t0_42 t0_43 t0_44 t0_45 t0_46 t0_47 t0_48 ea Kl0 BF_l0 B0_l0 B1_l0 B2_l0 B3_l0 B4_l0
      subst ea
      have zl0_BF := BF_l0.lies
      have zl0_B0 := B0_l0.lies
      have zl0_B1 := B1_l0.lies
      have zl0_B2 := B2_l0.lies
      have zl0_B3 := B3_l0.lies
      have zl0_B4 := B4_l0.lies
      have c10_B0_0 : Wl0.cell? ⟨w.heap.size, 0, none⟩ = some (.map none) := B0_l0.c 0 (of_decide_eq_true rfl)
      have c10_B0_1 : Wl0.cell? ⟨w.heap.size, 1, none⟩ = some (.map none) := B0_l0.c 1 (of_decide_eq_true rfl)
      have c10_B0_2 : Wl0.cell? ⟨w.heap.size, 2, none⟩ = some (.map none) := B0_l0.c 2 (of_decide_eq_true rfl)
      have c10_B4_0 : Wl0.cell? ⟨x1_3, 0, none⟩ = some (.map (some x1_0)) := B4_l0.c 0 (of_decide_eq_true rfl)
      have c10_B4_1 : Wl0.cell? ⟨x1_3, 1, none⟩ = some (.map (some x1_1)) := B4_l0.c 1 (of_decide_eq_true rfl)
      have c10_B4_2 : Wl0.cell? ⟨x1_3, 2, none⟩ = some (.map (some x1_2)) := B4_l0.c 2 (of_decide_eq_true rfl)
      have g10_B0_0 := B0_l0.f 0 (of_decide_eq_true rfl)
      have g10_B0_1 := B0_l0.f 1 (of_decide_eq_true rfl)
      have g10_B0_2 := B0_l0.f 2 (of_decide_eq_true rfl)
      go_wp2_with (with_reducible refine post_stop ?_)
      refine Stop.mk ?_
      clear c10_B0_0 c10_B0_1 c10_B0_2 c10_B4_0 c10_B4_1 c10_B4_2 g10_B0_0 g10_B0_1 g10_B0_2
      refine bodyPost_ret (v := .agg #[.map (some x1_0), .map (some x1_1), .map (some x1_2)]) (results_arr Tryz.results223 (((B0_l0.put 0 (of_decide_eq_true rfl) (.map (some x1_0)) [.map (some x1_0), .map none, .map none] rfl).put 1 (of_decide_eq_true rfl) (.map (some x1_1)) [.map (some x1_0), .map (some x1_1), .map none] rfl).put 2 (of_decide_eq_true rfl) (.map (some x1_2)) [.map (some x1_0), .map (some x1_1), .map (some x1_2)] rfl) rfl (by kernel_rfl) (by kernel_rfl)) rfl ?_
      exact ⟨x1_0, x1_1, x1_2, rfl, (((BF_l0.new w.heap.size 0 (Nat.ne_of_lt y1_BF) (.map (some x1_0))).new w.heap.size 1 (Nat.ne_of_lt y1_BF) (.map (some x1_1))).new w.heap.size 2 (Nat.ne_of_lt y1_BF) (.map (some x1_2))), (((B1_l0.new w.heap.size 0 (Nat.ne_of_gt s1_5) (.map (some x1_0))).new w.heap.size 1 (Nat.ne_of_gt s1_5) (.map (some x1_1))).new w.heap.size 2 (Nat.ne_of_gt s1_5) (.map (some x1_2))), (((B2_l0.new w.heap.size 0 (Nat.ne_of_gt s1_7) (.map (some x1_0))).new w.heap.size 1 (Nat.ne_of_gt s1_7) (.map (some x1_1))).new w.heap.size 2 (Nat.ne_of_gt s1_7) (.map (some x1_2))), (((B3_l0.new w.heap.size 0 (Nat.ne_of_gt s1_9) (.map (some x1_0))).new w.heap.size 1 (Nat.ne_of_gt s1_9) (.map (some x1_1))).new w.heap.size 2 (Nat.ne_of_gt s1_9) (.map (some x1_2))), by omega, by omega, by omega, s1_12, s1_13, s1_15, (((Kl0.new _ _ (by omega) _).new _ _ (by omega) _).new _ _ (by omega) _)⟩
  refine wp_region_held_drew (S := fun _ => True) (by kernel_rfl) trivial (fun hHeld => ?_)
  refine take_at (i := 1) (v := ?v1) rfl (by kernel_rfl) (by kernel_rfl) (by kernel_rfl) (fun _ _ _ h => h) (Or.inl ⟨by rfl, ?y1⟩) hHeld ?t1
  case y1 => (intro wx hSw; go_simp <;> with_reducible rfl)
  simp only [Act.put, List.setIfInBounds_toArray, List.set_cons_zero, List.set_cons_succ]
  refine take_at (i := 3) (v := ?v2) rfl (by kernel_rfl) (by kernel_rfl) (by kernel_rfl) (fun _ _ _ h => h) (Or.inl ⟨by rfl, ?y2⟩) hHeld ?t2
  case y2 => (intro wx hSw; go_simp <;> with_reducible rfl)
  simp only [Act.put, List.setIfInBounds_toArray, List.set_cons_zero, List.set_cons_succ]
  refine take_at (i := 4) (v := ?v3) rfl (by kernel_rfl) (by kernel_rfl) (by kernel_rfl) (fun _ _ _ h => h) (Or.inl ⟨by rfl, ?y3⟩) hHeld ?t3
  case y3 => (intro wx hSw; go_simp <;> with_reducible rfl)
  simp only [Act.put, List.setIfInBounds_toArray, List.set_cons_zero, List.set_cons_succ]
  refine take_at (i := 8) (v := ?v4) rfl (by kernel_rfl) (by kernel_rfl) (by kernel_rfl) (fun _ _ _ h => h) (Or.inl ⟨by rfl, ?y4⟩) hHeld ?t4
  case y4 => (intro wx hSw; go_simp <;> with_reducible rfl)
  simp only [Act.put, List.setIfInBounds_toArray, List.set_cons_zero, List.set_cons_succ]
  refine take_at (i := 10) (v := ?v5) rfl (by kernel_rfl) (by kernel_rfl) (by kernel_rfl) (fun _ _ _ h => h) (Or.inl ⟨by rfl, ?y5⟩) hHeld ?t5
  case y5 => (intro wx hSw; go_simp <;> with_reducible rfl)
  simp only [Act.put, List.setIfInBounds_toArray, List.set_cons_zero, List.set_cons_succ]
  refine take_at (i := 11) (v := ?v6) rfl (by kernel_rfl) (by kernel_rfl) (by kernel_rfl) (fun _ _ _ h => h) (Or.inl ⟨by rfl, ?y6⟩) hHeld ?t6
  case y6 => (intro wx hSw; go_simp <;> with_reducible rfl)
  simp only [Act.put, List.setIfInBounds_toArray, List.set_cons_zero, List.set_cons_succ]
  refine take_at (i := 15) (v := ?v7) rfl (by kernel_rfl) (by kernel_rfl) (by kernel_rfl) (fun _ _ _ h => h) (Or.inl ⟨by rfl, ?y7⟩) hHeld ?t7
  case y7 => (intro wx hSw; go_simp <;> with_reducible rfl)
  simp only [Act.put, List.setIfInBounds_toArray, List.set_cons_zero, List.set_cons_succ]
  have F1 : Fl b false (w.alloc (.cells #[.map none, .map none, .map none] 258)).drew := (hw.alloc _).drew
  have A1 : Arr w.heap.size [.map none, .map none, .map none] (w.alloc (.cells #[.map none, .map none, .map none] 258)).drew := (Arr_at _ _ [.map none, .map none, .map none] _ (by simp)).drew
  have K1 : Kept b w (w.alloc (.cells #[.map none, .map none, .map none] 258)).drew := ((Kept.refl b w).al _).drew
  generalize (w.alloc (.cells #[.map none, .map none, .map none] 258)).drew = w1 at F1 A1 K1 ⊢
  have l1 := F1.lies; have l2 := A1.lies; have l3 := K1.size
  clear hHeld
  refine orders_ind (fun L a wi => ∃ (a0 a2 a5 a6 b7 b9 b12 b13 q14 q16 q17 e18 d19 z20 : Bool) (x7 x10 x14 x15 x19 x20 x22 x23 : Value) (kA kB kC kD : Nat), L = #[a0, true, a2, true, true, a5, a6, b7, true, b9, true, true, b12, b13, q14, true, q16, q17, e18, d19, z20] ∧ a = { tmps := #[.pointer (some ⟨b, 0, none⟩), .int .i64 c, .int .i64 s, undef, undef, undef, .pointer (some ⟨w.heap.size, 0, none⟩), x7, undef, undef, x10, .agg #[.int .i64 0, .int .i64 0], .agg #[.int .i64 1, .int .i64 1], .int .i64 s, x14, x15, .agg #[.int .i64 0, .int .i64 0], .agg #[.int .i64 1, .int .i64 1], .int .i64 c, x19, x20, .agg #[.int .i64 1, .int .i64 1], x22, x23, undef, undef, undef, undef, undef, undef, undef, undef, undef, undef, undef, undef, undef, undef, undef, undef, undef, undef, undef, undef, undef, undef, undef, undef, undef], defers := [] } ∧ MI w1 c s a0 a2 a5 a6 b7 b9 b12 b13 q14 q16 q17 e18 d19 z20 x7 x10 x14 x15 x19 x20 x22 x23 kA kB kC kD wi) ?_ ?_ 14 _ _ _ (by decide) ?_
  · intro L a wi i o ho hi hI K hK
    obtain ⟨a0, a2, a5, a6, b7, b9, b12, b13, q14, q16, q17, e18, d19, z20, x7, x10, x14, x15, x19, x20, x22, x23, kA, kB, kC, kD, rfl, rfl, I⟩ := hI
    have hall := (mem_ready.1 hi).2
    have hun := (mem_ready.1 hi).1
    have hlt : i < 21 := (List.getElem?_eq_some_iff.1 ho).1
    match i, hlt with
    | 0, _ =>
      obtain rfl : a0 = false := hun
      clear hall
      cases ho
      obtain rfl : a2 = false := by cases a2 with | false => rfl | true => exact absurd (I.va (.inl rfl)) (by decide)
      obtain rfl : a5 = false := by cases a5 with | false => rfl | true => exact absurd (I.va (.inr rfl)) (by decide)
      go_simp
      refine hK.out _ _ ?_
      have z0 : z20 = false := by cases z20 with | false => rfl | true => exact absurd (I.A6 (I.E (I.Z rfl).1).2.1).2.1 (by decide)
      subst z0
      exact ⟨true, false, false, a6, b7, b9, b12, b13, q14, q16, q17, e18, d19, false, x7, .map (some wi.heap.size), x14, x15, x19, x20, x22, x23, wi.heap.size, kB, kC, kD, rfl, rfl, ⟨bel_al I.bel _, fun _ => ⟨rfl, I.bel.size, (Mp.made wi _ rfl).eqv (mf2_zero _ _)⟩, fun h => ⟨(I.B h).1, (I.B h).2.1, (I.B h).2.2.alloc _⟩, fun h => ⟨(I.C h).1, (I.C h).2.1, (I.C h).2.2.alloc _⟩, fun h => absurd (I.A6 h).2.1 (by decide), I.B13, I.C17, fun h => absurd (I.A6 (I.E h).2.1).2.1 (by decide), fun h => ⟨(I.D h).1, (I.D h).2.1, (I.D h).2.2.alloc _⟩, fun _ => rfl, I.vb, I.vc, fun h => absurd (I.A6 (I.E (I.Z h).1).2.1).2.1 (by decide), fun _ h => by have := (I.B h).2.2.lies; omega, fun _ h => by have := (I.C h).2.2.lies; omega, I.BC, fun _ h => by have := (I.D h).2.2.lies; omega, I.BD, I.CD⟩⟩
    | 1, _ =>
      exact absurd (show true = false from hun) (by decide)
    | 2, _ =>
      obtain rfl : a2 = false := hun
      obtain ⟨o2, ho2, hall⟩ := hall
      cases ho2
      obtain rfl : a0 = true := hall ⟨0, .data⟩ (by simp) rfl
      clear hall
      cases ho
      obtain ⟨e1, g1, M⟩ := I.A rfl
      subst e1
      refine mp_ins (by rfl) rfl rfl rfl rfl M (by cases a5 <;> decide) ⟨by decide, by decide⟩ ⟨by decide, by decide⟩ ⟨by decide, by decide⟩ ?_
      intro w2 M1 k1
      simp only [Act.put]
      refine hK.out _ _ ?_
      exact ⟨true, true, a5, a6, b7, b9, b12, b13, q14, q16, q17, e18, d19, z20, x7, .map (some kA), x14, x15, x19, x20, x22, x23, kA, kB, kC, kD, rfl, rfl, ⟨k1.on I.bel (I.A rfl).2.1, fun _ => ⟨rfl, g1, (M1.mono (by cases a5 <;> decide)).eqv (mf2_p _ _ _)⟩, fun h => ⟨(I.B h).1, (I.B h).2.1, (I.B h).2.2.kept k1 (Ne.symm (I.AB rfl h))⟩, fun h => ⟨(I.C h).1, (I.C h).2.1, (I.C h).2.2.kept k1 (Ne.symm (I.AC rfl h))⟩, fun h => absurd (I.A6 h).2.2.1 (by decide), I.B13, I.C17, fun h => absurd (I.A6 (I.E h).2.1).2.2.1 (by decide), fun h => ⟨(I.D h).1, (I.D h).2.1, (I.D h).2.2.kept k1 (Ne.symm (I.AD rfl h))⟩, fun _ => rfl, I.vb, I.vc, fun h => absurd (I.A6 (I.E (I.Z h).1).2.1).2.2.1 (by decide), I.AB, I.AC, I.BC, I.AD, I.BD, I.CD⟩⟩
    | 3, _ =>
      exact absurd (show true = false from hun) (by decide)
    | 4, _ =>
      exact absurd (show true = false from hun) (by decide)
    | 5, _ =>
      obtain rfl : a5 = false := hun
      obtain ⟨o2, ho2, hall⟩ := hall
      cases ho2
      obtain rfl : a0 = true := hall ⟨0, .data⟩ (by simp) rfl
      clear hall
      cases ho
      obtain ⟨e1, g1, M⟩ := I.A rfl
      subst e1
      refine mp_ins (by rfl) rfl rfl rfl rfl M (by cases a2 <;> decide) ⟨by decide, by decide⟩ ⟨by decide, by decide⟩ is ?_
      intro w2 M1 k1
      simp only [Act.put]
      refine hK.out _ _ ?_
      exact ⟨true, a2, true, a6, b7, b9, b12, b13, q14, q16, q17, e18, d19, z20, x7, .map (some kA), x14, x15, x19, x20, x22, x23, kA, kB, kC, kD, rfl, rfl, ⟨k1.on I.bel (I.A rfl).2.1, fun _ => ⟨rfl, g1, (M1.mono (by cases a2 <;> decide)).eqv (mf2_q _ _ _)⟩, fun h => ⟨(I.B h).1, (I.B h).2.1, (I.B h).2.2.kept k1 (Ne.symm (I.AB rfl h))⟩, fun h => ⟨(I.C h).1, (I.C h).2.1, (I.C h).2.2.kept k1 (Ne.symm (I.AC rfl h))⟩, fun h => absurd (I.A6 h).2.2.2 (by decide), I.B13, I.C17, fun h => absurd (I.A6 (I.E h).2.1).2.2.2 (by decide), fun h => ⟨(I.D h).1, (I.D h).2.1, (I.D h).2.2.kept k1 (Ne.symm (I.AD rfl h))⟩, fun _ => rfl, I.vb, I.vc, fun h => absurd (I.A6 (I.E (I.Z h).1).2.1).2.2.2 (by decide), I.AB, I.AC, I.BC, I.AD, I.BD, I.CD⟩⟩
    | 6, _ =>
      obtain rfl : a6 = false := hun
      obtain ⟨o2, ho2, hall⟩ := hall
      cases ho2
      obtain rfl : a0 = true := hall ⟨0, .data⟩ (by simp) rfl
      obtain rfl : a2 = true := hall ⟨2, .data⟩ (by simp) rfl
      obtain rfl : a5 = true := hall ⟨5, .data⟩ (by simp) rfl
      clear hall
      cases ho
      go_simp
      refine hK.out _ _ ?_
      exact ⟨true, true, true, true, b7, b9, b12, b13, q14, q16, q17, e18, d19, z20, x7, x10, x10, x15, x19, x20, x22, x23, kA, kB, kC, kD, rfl, rfl, ⟨I.bel, I.A, I.B, I.C, fun _ => ⟨(I.A rfl).1, rfl, rfl, rfl⟩, I.B13, I.C17, fun h => absurd (I.E h).2.1 (by decide), I.D, I.va, I.vb, I.vc, fun h => absurd (I.E (I.Z h).1).2.1 (by decide), I.AB, I.AC, I.BC, I.AD, I.BD, I.CD⟩⟩
    | 7, _ =>
      obtain rfl : b7 = false := hun
      clear hall
      cases ho
      obtain rfl : b9 = false := by cases b9 with | false => rfl | true => exact absurd (I.vb (.inl rfl)) (by decide)
      obtain rfl : b12 = false := by cases b12 with | false => rfl | true => exact absurd (I.vb (.inr rfl)) (by decide)
      go_simp
      refine hK.out _ _ ?_
      have z0 : z20 = false := by cases z20 with | false => rfl | true => exact absurd (I.B13 (I.E (I.Z rfl).1).2.2.1).2.1 (by decide)
      subst z0
      exact ⟨a0, a2, a5, a6, true, false, false, b13, q14, q16, q17, e18, d19, false, x7, x10, x14, .map (some wi.heap.size), x19, x20, x22, x23, kA, wi.heap.size, kC, kD, rfl, rfl, ⟨bel_al I.bel _, fun h => ⟨(I.A h).1, (I.A h).2.1, (I.A h).2.2.alloc _⟩, fun _ => ⟨rfl, I.bel.size, (Mp.made wi _ rfl).eqv (mf2_zero _ _)⟩, fun h => ⟨(I.C h).1, (I.C h).2.1, (I.C h).2.2.alloc _⟩, I.A6, fun h => absurd (I.B13 h).2.1 (by decide), I.C17, fun h => absurd (I.B13 (I.E h).2.2.1).2.1 (by decide), fun h => ⟨(I.D h).1, (I.D h).2.1, (I.D h).2.2.alloc _⟩, I.va, fun _ => rfl, I.vc, fun h => absurd (I.B13 (I.E (I.Z h).1).2.2.1).2.1 (by decide), fun h _ => by have := (I.A h).2.2.lies; omega, I.AC, fun _ h => by have := (I.C h).2.2.lies; omega, I.AD, fun _ h => by have := (I.D h).2.2.lies; omega, I.CD⟩⟩
    | 8, _ =>
      exact absurd (show true = false from hun) (by decide)
    | 9, _ =>
      obtain rfl : b9 = false := hun
      obtain ⟨o2, ho2, hall⟩ := hall
      cases ho2
      obtain rfl : b7 = true := hall ⟨7, .data⟩ (by simp) rfl
      clear hall
      cases ho
      obtain ⟨e1, g1, M⟩ := I.B rfl
      subst e1
      refine mp_ins (by rfl) rfl rfl rfl rfl M (by cases b12 <;> decide) ⟨by decide, by decide⟩ ⟨by decide, by decide⟩ ⟨by decide, by decide⟩ ?_
      intro w2 M1 k1
      simp only [Act.put]
      refine hK.out _ _ ?_
      exact ⟨a0, a2, a5, a6, true, true, b12, b13, q14, q16, q17, e18, d19, z20, x7, x10, x14, .map (some kB), x19, x20, x22, x23, kA, kB, kC, kD, rfl, rfl, ⟨k1.on I.bel (I.B rfl).2.1, fun h => ⟨(I.A h).1, (I.A h).2.1, (I.A h).2.2.kept k1 (I.AB h rfl)⟩, fun _ => ⟨rfl, g1, (M1.mono (by cases b12 <;> decide)).eqv (mf2_p _ _ _)⟩, fun h => ⟨(I.C h).1, (I.C h).2.1, (I.C h).2.2.kept k1 (Ne.symm (I.BC rfl h))⟩, I.A6, fun h => absurd (I.B13 h).2.2.1 (by decide), I.C17, fun h => absurd (I.B13 (I.E h).2.2.1).2.2.1 (by decide), fun h => ⟨(I.D h).1, (I.D h).2.1, (I.D h).2.2.kept k1 (Ne.symm (I.BD rfl h))⟩, I.va, fun _ => rfl, I.vc, fun h => absurd (I.B13 (I.E (I.Z h).1).2.2.1).2.2.1 (by decide), I.AB, I.AC, I.BC, I.AD, I.BD, I.CD⟩⟩
    | 10, _ =>
      exact absurd (show true = false from hun) (by decide)
    | 11, _ =>
      exact absurd (show true = false from hun) (by decide)
    | 12, _ =>
      obtain rfl : b12 = false := hun
      obtain ⟨o2, ho2, hall⟩ := hall
      cases ho2
      obtain rfl : b7 = true := hall ⟨7, .data⟩ (by simp) rfl
      clear hall
      cases ho
      obtain ⟨e1, g1, M⟩ := I.B rfl
      subst e1
      refine mp_ins (by rfl) rfl rfl rfl rfl M (by cases b9 <;> decide) ⟨by decide, by decide⟩ ⟨by decide, by decide⟩ ic ?_
      intro w2 M1 k1
      simp only [Act.put]
      refine hK.out _ _ ?_
      exact ⟨a0, a2, a5, a6, true, b9, true, b13, q14, q16, q17, e18, d19, z20, x7, x10, x14, .map (some kB), x19, x20, x22, x23, kA, kB, kC, kD, rfl, rfl, ⟨k1.on I.bel (I.B rfl).2.1, fun h => ⟨(I.A h).1, (I.A h).2.1, (I.A h).2.2.kept k1 (I.AB h rfl)⟩, fun _ => ⟨rfl, g1, (M1.mono (by cases b9 <;> decide)).eqv (mf2_q _ _ _)⟩, fun h => ⟨(I.C h).1, (I.C h).2.1, (I.C h).2.2.kept k1 (Ne.symm (I.BC rfl h))⟩, I.A6, fun h => absurd (I.B13 h).2.2.2 (by decide), I.C17, fun h => absurd (I.B13 (I.E h).2.2.1).2.2.2 (by decide), fun h => ⟨(I.D h).1, (I.D h).2.1, (I.D h).2.2.kept k1 (Ne.symm (I.BD rfl h))⟩, I.va, fun _ => rfl, I.vc, fun h => absurd (I.B13 (I.E (I.Z h).1).2.2.1).2.2.2 (by decide), I.AB, I.AC, I.BC, I.AD, I.BD, I.CD⟩⟩
    | 13, _ =>
      obtain rfl : b13 = false := hun
      obtain ⟨o2, ho2, hall⟩ := hall
      cases ho2
      obtain rfl : b7 = true := hall ⟨7, .data⟩ (by simp) rfl
      obtain rfl : b9 = true := hall ⟨9, .data⟩ (by simp) rfl
      obtain rfl : b12 = true := hall ⟨12, .data⟩ (by simp) rfl
      clear hall
      cases ho
      go_simp
      refine hK.out _ _ ?_
      exact ⟨a0, a2, a5, a6, true, true, true, true, q14, q16, q17, e18, d19, z20, x7, x10, x14, x15, x15, x20, x22, x23, kA, kB, kC, kD, rfl, rfl, ⟨I.bel, I.A, I.B, I.C, I.A6, fun _ => ⟨(I.B rfl).1, rfl, rfl, rfl⟩, I.C17, fun h => absurd (I.E h).2.2.1 (by decide), I.D, I.va, I.vb, I.vc, fun h => absurd (I.E (I.Z h).1).2.2.1 (by decide), I.AB, I.AC, I.BC, I.AD, I.BD, I.CD⟩⟩
    | 14, _ =>
      obtain rfl : q14 = false := hun
      clear hall
      cases ho
      obtain rfl : q16 = false := by cases q16 with | false => rfl | true => exact absurd (I.vc rfl) (by decide)
      go_simp
      refine hK.out _ _ ?_
      have z0 : z20 = false := by cases z20 with | false => rfl | true => exact absurd (I.C17 (I.E (I.Z rfl).1).2.2.2).2.1 (by decide)
      subst z0
      exact ⟨a0, a2, a5, a6, b7, b9, b12, b13, true, false, q17, e18, d19, false, x7, x10, x14, x15, x19, .map (some wi.heap.size), x22, x23, kA, kB, wi.heap.size, kD, rfl, rfl, ⟨bel_al I.bel _, fun h => ⟨(I.A h).1, (I.A h).2.1, (I.A h).2.2.alloc _⟩, fun h => ⟨(I.B h).1, (I.B h).2.1, (I.B h).2.2.alloc _⟩, fun _ => ⟨rfl, I.bel.size, (Mp.made wi _ rfl).eqv (mf2_zero _ _)⟩, I.A6, I.B13, fun h => absurd (I.C17 h).2.1 (by decide), fun h => absurd (I.C17 (I.E h).2.2.2).2.1 (by decide), fun h => ⟨(I.D h).1, (I.D h).2.1, (I.D h).2.2.alloc _⟩, I.va, I.vb, fun _ => rfl, fun h => absurd (I.C17 (I.E (I.Z h).1).2.2.2).2.1 (by decide), I.AB, fun h _ => by have := (I.A h).2.2.lies; omega, fun h _ => by have := (I.B h).2.2.lies; omega, I.AD, I.BD, fun _ h => by have := (I.D h).2.2.lies; omega⟩⟩
    | 15, _ =>
      exact absurd (show true = false from hun) (by decide)
    | 16, _ =>
      obtain rfl : q16 = false := hun
      obtain ⟨o2, ho2, hall⟩ := hall
      cases ho2
      obtain rfl : q14 = true := hall ⟨14, .data⟩ (by simp) rfl
      clear hall
      cases ho
      obtain ⟨e1, g1, M⟩ := I.C rfl
      subst e1
      refine mp_ins (by rfl) rfl rfl rfl rfl M (by decide) ⟨by decide, by decide⟩ ⟨by decide, by decide⟩ ⟨by decide, by decide⟩ ?_
      intro w2 M1 k1
      simp only [Act.put]
      refine hK.out _ _ ?_
      exact ⟨a0, a2, a5, a6, b7, b9, b12, b13, true, true, q17, e18, d19, z20, x7, x10, x14, x15, x19, .map (some kC), x22, x23, kA, kB, kC, kD, rfl, rfl, ⟨k1.on I.bel (I.C rfl).2.1, fun h => ⟨(I.A h).1, (I.A h).2.1, (I.A h).2.2.kept k1 (I.AC h rfl)⟩, fun h => ⟨(I.B h).1, (I.B h).2.1, (I.B h).2.2.kept k1 (I.BC h rfl)⟩, fun _ => ⟨rfl, g1, M1.eqv (mf2_q _ _ _)⟩, I.A6, I.B13, fun h => absurd (I.C17 h).2.2 (by decide), fun h => absurd (I.C17 (I.E h).2.2.2).2.2 (by decide), fun h => ⟨(I.D h).1, (I.D h).2.1, (I.D h).2.2.kept k1 (Ne.symm (I.CD rfl h))⟩, I.va, I.vb, fun _ => rfl, fun h => absurd (I.C17 (I.E (I.Z h).1).2.2.2).2.2 (by decide), I.AB, I.AC, I.BC, I.AD, I.BD, I.CD⟩⟩
    | 17, _ =>
      obtain rfl : q17 = false := hun
      obtain ⟨o2, ho2, hall⟩ := hall
      cases ho2
      obtain rfl : q14 = true := hall ⟨14, .data⟩ (by simp) rfl
      obtain rfl : q16 = true := hall ⟨16, .data⟩ (by simp) rfl
      clear hall
      cases ho
      go_simp
      refine hK.out _ _ ?_
      exact ⟨a0, a2, a5, a6, b7, b9, b12, b13, true, true, true, e18, d19, z20, x7, x10, x14, x15, x19, x20, x20, x23, kA, kB, kC, kD, rfl, rfl, ⟨I.bel, I.A, I.B, I.C, I.A6, I.B13, fun _ => ⟨(I.C rfl).1, rfl, rfl⟩, fun h => absurd (I.E h).2.2.2 (by decide), I.D, I.va, I.vb, I.vc, fun h => absurd (I.E (I.Z h).1).2.2.2 (by decide), I.AB, I.AC, I.BC, I.AD, I.BD, I.CD⟩⟩
    | 18, _ =>
      obtain rfl : e18 = false := hun
      obtain ⟨o2, ho2, hall⟩ := hall
      cases ho2
      obtain rfl : a6 = true := hall ⟨6, .data⟩ (by simp) rfl
      obtain rfl : b13 = true := hall ⟨13, .data⟩ (by simp) rfl
      obtain rfl : q17 = true := hall ⟨17, .data⟩ (by simp) rfl
      clear hall
      cases ho
      have e1 := (I.A6 rfl).1; have e2 := (I.B13 rfl).1; have e3 := (I.C17 rfl).1
      subst e1 e2 e3
      go_simp
      refine hK.out _ _ ?_
      exact ⟨a0, a2, a5, true, b7, b9, b12, true, q14, q16, true, true, d19, z20, x7, x10, .map (some kA), x15, .map (some kB), x20, .map (some kC), .agg #[.map (some kA), .map (some kB), .map (some kC)], kA, kB, kC, kD, rfl, rfl, ⟨I.bel, I.A, I.B, I.C, I.A6, I.B13, I.C17, fun _ => ⟨rfl, rfl, rfl, rfl⟩, I.D, I.va, I.vb, I.vc, fun h => absurd (I.Z h).1 (by decide), I.AB, I.AC, I.BC, I.AD, I.BD, I.CD⟩⟩
    | 19, _ =>
      obtain rfl : d19 = false := hun
      clear hall
      cases ho
      have z0 : z20 = false := by cases z20 with | false => rfl | true => exact absurd (I.Z rfl).2 (by decide)
      subst z0
      go_simp
      refine hK.out _ _ ?_
      exact ⟨a0, a2, a5, a6, b7, b9, b12, b13, q14, q16, q17, e18, true, false, .pointer (some ⟨wi.heap.size, 0, none⟩), x10, x14, x15, x19, x20, x22, x23, kA, kB, kC, wi.heap.size, rfl, rfl, ⟨bel_al I.bel _, fun h => ⟨(I.A h).1, (I.A h).2.1, (I.A h).2.2.alloc _⟩, fun h => ⟨(I.B h).1, (I.B h).2.1, (I.B h).2.2.alloc _⟩, fun h => ⟨(I.C h).1, (I.C h).2.1, (I.C h).2.2.alloc _⟩, I.A6, I.B13, I.C17, I.E, fun _ => ⟨rfl, I.bel.size, Arr_at wi _ [.map none, .map none, .map none] _ rfl⟩, I.va, I.vb, I.vc, fun h => absurd (I.Z h).2 (by decide), I.AB, I.AC, I.BC, fun h _ => by have := (I.A h).2.2.lies; omega, fun h _ => by have := (I.B h).2.2.lies; omega, fun h _ => by have := (I.C h).2.2.lies; omega⟩⟩
    | 20, _ =>
      obtain rfl : z20 = false := hun
      obtain ⟨o2, ho2, hall⟩ := hall
      cases ho2
      obtain rfl : a0 = true := hall ⟨0, .phase⟩ (by simp) rfl
      obtain rfl : a2 = true := hall ⟨2, .phase⟩ (by simp) rfl
      obtain rfl : a5 = true := hall ⟨5, .phase⟩ (by simp) rfl
      obtain rfl : a6 = true := hall ⟨6, .phase⟩ (by simp) rfl
      obtain rfl : b7 = true := hall ⟨7, .phase⟩ (by simp) rfl
      obtain rfl : b9 = true := hall ⟨9, .phase⟩ (by simp) rfl
      obtain rfl : b12 = true := hall ⟨12, .phase⟩ (by simp) rfl
      obtain rfl : b13 = true := hall ⟨13, .phase⟩ (by simp) rfl
      obtain rfl : q14 = true := hall ⟨14, .phase⟩ (by simp) rfl
      obtain rfl : q16 = true := hall ⟨16, .phase⟩ (by simp) rfl
      obtain rfl : q17 = true := hall ⟨17, .phase⟩ (by simp) rfl
      obtain rfl : e18 = true := hall ⟨18, .phase⟩ (by simp) rfl
      obtain rfl : d19 = true := hall ⟨19, .phase⟩ (by simp) rfl
      clear hall
      cases ho
      obtain ⟨e1, -⟩ := I.E rfl
      obtain ⟨e2, g2, D⟩ := I.D rfl
      subst e1 e2
      have D : Arr kD [.map none, .map none, .map none] wi := D
      have c0 : wi.cell? ⟨kD, 0, none⟩ = some (.map none) := D.c 0 (of_decide_eq_true rfl)
      have c1 : wi.cell? ⟨kD, 1, none⟩ = some (.map none) := D.c 1 (of_decide_eq_true rfl)
      have c2 : wi.cell? ⟨kD, 2, none⟩ = some (.map none) := D.c 2 (of_decide_eq_true rfl)
      have f0 := D.f 0 (of_decide_eq_true rfl)
      have f1 := D.f 1 (of_decide_eq_true rfl)
      have f2 := D.f 2 (of_decide_eq_true rfl)
      go_simp
      refine hK.out _ _ ?_
      exact ⟨true, true, true, true, true, true, true, true, true, true, true, true, true, true, .pointer (some ⟨kD, 0, none⟩), x10, x14, x15, x19, x20, x22, .agg #[.map (some kA), .map (some kB), .map (some kC)], kA, kB, kC, kD, rfl, rfl, ⟨(bel_new (bel_new (bel_new I.bel kD 0 g2 _) kD 1 g2 _) kD 2 g2 _), fun h => ⟨(I.A h).1, (I.A h).2.1, (((((I.A h).2.2.new kD 0 (I.AD h rfl) _).new kD 1 (I.AD h rfl) _).new kD 2 (I.AD h rfl) _))⟩, fun h => ⟨(I.B h).1, (I.B h).2.1, (((((I.B h).2.2.new kD 0 (I.BD h rfl) _).new kD 1 (I.BD h rfl) _).new kD 2 (I.BD h rfl) _))⟩, fun h => ⟨(I.C h).1, (I.C h).2.1, (((((I.C h).2.2.new kD 0 (I.CD h rfl) _).new kD 1 (I.CD h rfl) _).new kD 2 (I.CD h rfl) _))⟩, I.A6, I.B13, I.C17, I.E, fun _ => ⟨rfl, g2, ((D.put 0 (of_decide_eq_true rfl) _ [.map (some kA), .map none, .map none] rfl).put 1 (of_decide_eq_true rfl) _ [.map (some kA), .map (some kB), .map none] rfl).put 2 (of_decide_eq_true rfl) _ [.map (some kA), .map (some kB), .map (some kC)] rfl⟩, I.va, I.vb, I.vc, fun _ => ⟨rfl, rfl⟩, I.AB, I.AC, I.BC, I.AD, I.BD, I.CD⟩⟩
  · intro L a wi hr hI
    obtain ⟨a0, a2, a5, a6, b7, b9, b12, b13, q14, q16, q17, e18, d19, z20, x7, x10, x14, x15, x19, x20, x22, x23, kA, kB, kC, kD, rfl, rfl, I⟩ := hI
    obtain rfl : a0 = true := by cases a0 with | true => rfl | false => exact (no_ready hr (i := 0) rfl rfl rfl).elim
    obtain rfl : a2 = true := by cases a2 with | true => rfl | false => exact (no_ready hr (i := 2) rfl rfl rfl).elim
    obtain rfl : a5 = true := by cases a5 with | true => rfl | false => exact (no_ready hr (i := 5) rfl rfl rfl).elim
    obtain rfl : a6 = true := by cases a6 with | true => rfl | false => exact (no_ready hr (i := 6) rfl rfl rfl).elim
    obtain rfl : b7 = true := by cases b7 with | true => rfl | false => exact (no_ready hr (i := 7) rfl rfl rfl).elim
    obtain rfl : b9 = true := by cases b9 with | true => rfl | false => exact (no_ready hr (i := 9) rfl rfl rfl).elim
    obtain rfl : b12 = true := by cases b12 with | true => rfl | false => exact (no_ready hr (i := 12) rfl rfl rfl).elim
    obtain rfl : b13 = true := by cases b13 with | true => rfl | false => exact (no_ready hr (i := 13) rfl rfl rfl).elim
    obtain rfl : q14 = true := by cases q14 with | true => rfl | false => exact (no_ready hr (i := 14) rfl rfl rfl).elim
    obtain rfl : q16 = true := by cases q16 with | true => rfl | false => exact (no_ready hr (i := 16) rfl rfl rfl).elim
    obtain rfl : q17 = true := by cases q17 with | true => rfl | false => exact (no_ready hr (i := 17) rfl rfl rfl).elim
    obtain rfl : e18 = true := by cases e18 with | true => rfl | false => exact (no_ready hr (i := 18) rfl rfl rfl).elim
    obtain rfl : d19 = true := by cases d19 with | true => rfl | false => exact (no_ready hr (i := 19) rfl rfl rfl).elim
    obtain rfl : z20 = true := by cases z20 with | true => rfl | false => exact (no_ready hr (i := 20) rfl rfl rfl).elim
    have gA := (I.A rfl).2.1; have gB := (I.B rfl).2.1; have gC := (I.C rfl).2.1; have gD := (I.D rfl).2.1
    obtain ⟨e10, -⟩ := I.A rfl; obtain ⟨e15, -⟩ := I.B rfl; obtain ⟨e20, -⟩ := I.C rfl; obtain ⟨e14, -⟩ := I.A6 rfl; obtain ⟨e19, -⟩ := I.B13 rfl; obtain ⟨e22, -⟩ := I.C17 rfl; obtain ⟨e23, -⟩ := I.E rfl; obtain ⟨e7, -⟩ := I.D rfl
    subst e10 e15 e20 e14 e19 e22 e23 e7
    refine put_cont hKK1 ?_
    exact cont1 _ _ _ _ _ _ _ _ _ _ _ _ _ _ _ kA kB kC kD (Kept.trans K1 (Kept.of_below I.bel)) (F1.below I.bel) (A1.below I.bel) (I.A rfl).2.2 (I.B rfl).2.2 (I.C rfl).2.2 (I.D rfl).2.2 (by omega) (by omega) (by omega) (by omega) (by omega) (by omega) (by omega) (by omega) (by omega) (by omega) (by omega) (by omega) (I.AB rfl rfl) (I.AC rfl rfl) (I.AD rfl rfl) (I.BC rfl rfl) (I.BD rfl rfl) (I.CD rfl rfl)
  · exact ⟨false, false, false, false, false, false, false, false, false, false, false, false, false, false, undef, undef, undef, undef, undef, undef, undef, undef, 0, 0, 0, 0, rfl, rfl, ⟨Below.refl _ _, (fun h => by cases h), (fun h => by cases h), (fun h => by cases h), (fun h => by cases h), (fun h => by cases h), (fun h => by cases h), (fun h => by cases h), (fun h => by cases h), (fun h => by rcases h with h | h <;> cases h), (fun h => by rcases h with h | h <;> cases h), (fun h => by cases h), (fun h => by cases h), (fun h => by cases h), (fun h => by cases h), (fun h => by cases h), (fun h => by cases h), (fun h => by cases h), (fun h => by cases h)⟩⟩
end Go.Proofs.YtoadcnhcfodkgaaGreatDoor
