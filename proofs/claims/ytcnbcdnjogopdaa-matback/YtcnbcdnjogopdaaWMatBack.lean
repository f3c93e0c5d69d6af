/-
  The walk of the law MatBack, for the seat Ytcnbcdnjogopdaa. (Made by mklaw06.py.)
-/
import Derived.Test.YtcnbcdnjogopdaaLAwake
import Derived.Test.YtcnbcdnjogopdaaLHeavy
import Derived.Test.YtcnbcdnjogopdaaVGuard
import Derived.Test.YtcnbcdnjogopdaaVPart
import Derived.Handy
import Derived.Deep.RegionHeld3
namespace Go.Proofs.Ytcnbcdnjogopdaa
open Go.RowKit

set_option maxRecDepth 100000 in
set_option maxHeartbeats 4000000 in
theorem MatBack_lo (m : Nat → Int) (n : Int) (w : World) (h : n < 1) :
    Calls Try.prog 6 #[.agg (row 36 m).toArray, .int .i64 n] w fun e w' => e = .returned (.bool true) ∧ Below w.heap.size w w' := by
  go_enter Try.func6, Try.ntmps6
  have y1_low : w.heap.size ≤ w.heap.size := (Below.refl w.heap.size w).size
  go_wp2_with fail
  refine (awake_any  _).mono ?_
  rintro e w1 ⟨rfl, k1⟩
  have K1 : Below w.heap.size w w1 := bel_then (bel_al (Below.refl w.heap.size w) _) k1
  have B0_1 : Arr w.heap.size (row 36 m) w1 := (Arr_at _ _ (row 36 m) _ (by simp)).below k1
  have z1 := B0_1.lies
  clear k1
  go_wp2
  go_ret
  exact ⟨rfl, K1⟩
set_option maxRecDepth 100000 in
set_option maxHeartbeats 4000000 in
theorem MatBack_hi (m : Nat → Int) (n : Int) (w : World) (h1 : ¬ n < 1) (h2 : n > 6) :
    Calls Try.prog 6 #[.agg (row 36 m).toArray, .int .i64 n] w fun e w' => e = .returned (.bool true) ∧ Below w.heap.size w w' := by
  go_enter Try.func6, Try.ntmps6
  have y1_low : w.heap.size ≤ w.heap.size := (Below.refl w.heap.size w).size
  go_wp2_with fail
  refine (awake_any  _).mono ?_
  rintro e w1 ⟨rfl, k1⟩
  have K1 : Below w.heap.size w w1 := bel_then (bel_al (Below.refl w.heap.size w) _) k1
  have B0_1 : Arr w.heap.size (row 36 m) w1 := (Arr_at _ _ (row 36 m) _ (by simp)).below k1
  have z1 := B0_1.lies
  clear k1
  go_wp2
  go_ret
  exact ⟨rfl, K1⟩
set_option maxRecDepth 100000 in
set_option maxHeartbeats 4000000 in
theorem MatBack_in (m : Nat → Int) (n : Nat) (w : World) (h1 : 1 ≤ n) (h6 : n ≤ 6) :
    Calls Try.prog 6 #[.agg (row 36 m).toArray, .int .i64 (n : Int)] w fun e w' => e = .returned (.bool true) ∧ Below w.heap.size w w' := by
  have qn1 : ((n : Int) < 1) = False := eq_false (by omega)
  have qn2 : ((6 : Int) < (n : Int)) = False := eq_false (by omega)
  go_enter Try.func6, Try.ntmps6
  have y1_low : w.heap.size ≤ w.heap.size := (Below.refl w.heap.size w).size
  go_wp2_with fail
  refine (awake_any  _).mono ?_
  rintro e w1 ⟨rfl, k1⟩
  have K1 : Below w.heap.size w w1 := bel_then (bel_al (Below.refl w.heap.size w) _) k1
  have B0_1 : Arr w.heap.size (row 36 m) w1 := (Arr_at _ _ (row 36 m) _ (by simp)).below k1
  have z1 := B0_1.lies
  clear k1
  go_wp2_with (refine row_load_g (by rfl) rfl rfl B0_1 (by kernel_rfl) (by rw [row_len]; kernel_rfl) ?_)
  refine (heavy_any m n _ h6).mono ?_
  rintro e w2 ⟨⟨r2, rfl, H2⟩, k2⟩
  have X2 : Hid _ := H2
  clear H2
  have K2 : Below w.heap.size w w2 := bel_then K1 k2
  have B0_2 : Arr w.heap.size (row 36 m) w2 := B0_1.below k2
  have z2 := B0_2.lies
  clear K1 B0_1 k2
  rcases Bool.eq_false_or_eq_true r2 with hc1 | hc1
  · have Hhc1 : Hid (r2 = true) := hc1
    obtain ⟨g, s, er, es, hcl⟩ := back_math (X2.out hc1)
    have e1 : Hid _ := (aRoot_in false m h1 h6).trans er
    have e2 : Hid _ := (aSquare_in false g h1 h6).trans es
    clear er es
    have y2_B0 : w.heap.size < w2.heap.size := B0_2.lies
    have y2_low : w.heap.size ≤ w2.heap.size := K2.size
    go_wp2_with (refine row_load rfl rfl rfl (B0_2.alloc _) (by kernel_rfl) (by rw [row_len]; kernel_rfl) ?_)
    refine (aRoot_any w2.heap.size false m (n : Int) _ (Fl_at _ _ _ _ (by simp))).mono ?_
    rintro e w3 ⟨rfl, f3, k3⟩
    rw [e1.out] at f3 ⊢
    dsimp only at f3 ⊢
    have K3 : Below w.heap.size w w3 := k3.on (bel_al K2 _) (by omega)
    have B0_3 : Arr w.heap.size (row 36 m) w3 := (B0_2.alloc _).kept k3 (Nat.ne_of_lt y2_B0)
    have z3 := f3.lies
    clear K2 B0_2 k3
    go_wp2_with fail
    refine (aSquare_any w2.heap.size false g (n : Int) _ f3).mono ?_
    rintro e w4 ⟨rfl, f4, k4⟩
    rw [e2.out] at f4 ⊢
    dsimp only at f4 ⊢
    have K4 : Below w.heap.size w w4 := k4.on K3 (by omega)
    have B0_4 : Arr w.heap.size (row 36 m) w4 := B0_3.kept k4 (Nat.ne_of_lt y2_B0)
    have z4 := f4.lies
    clear K3 B0_3 f3 k4
    have y3_B0 : w.heap.size < w4.heap.size := B0_4.lies
    have y3_B1 : w2.heap.size < w4.heap.size := f4.lies
    have y3_low : w.heap.size ≤ w4.heap.size := K4.size
    go_wp2_with (refine store_stop rfl (by kernel_rfl) ?_)
    refine Stop.mk (store_row (l' := row 36 s) rfl rfl rfl rfl (Arr_at _ _ (row 36 (fun _ => 0)) _ (by simp)) (by simp only [row_len]) (by rw [row_len]; kernel_rfl) (row_one _ _) ?_)
    intro w5 B2_5 o5
    have K5 : Below w.heap.size w w5 := bel_off (bel_al K4 _) o5 y3_low
    have B0_5 : Arr w.heap.size (row 36 m) w5 := (B0_4.alloc _).off o5 (Nat.ne_of_lt y3_B0)
    have B1_5 : Fl w2.heap.size false w5 := (f4.alloc _).off o5 (Nat.ne_of_lt y3_B1)
    have z5_B2 := B2_5.lies
    have z5_B0 := B0_5.lies
    have z5_B1 := B1_5.lies
    clear K4 B0_4 f4 o5
    go_wp2_with fail
    obtain ⟨J0, hJ0⟩ : ∃ J : Nat → Act → World → Prop, Hid (J = fun i a Wl0 => ∀ G_ : Prop, (∀ (s0 : Unit) (t0_0 t0_3 t0_4 t0_7 t0_8 t0_9 t0_10 t0_11 t0_12 t0_13 t0_14 t0_15 t0_16 t0_17 t0_18 t0_19 t0_20 t0_21 t0_22 t0_23 t0_24 t0_25 t0_26 t0_27 t0_28 t0_29 t0_30 t0_31 t0_32 t0_35 t0_36 t0_37 t0_38 t0_39 t0_40 t0_41 t0_42 t0_43 t0_44 t0_45 t0_46 t0_47 t0_48 t0_49 t0_50 t0_51 t0_52 t0_53 t0_54 t0_55 t0_56 t0_57 t0_58 t0_59 t0_60 t0_61 t0_62 t0_63 t0_64 : Value), Hid (True) → a = { tmps := #[t0_0, .int .i64 (n : Int), .pointer (some ⟨w.heap.size, 0, none⟩), t0_3, t0_4, .pointer (some ⟨w2.heap.size, 0, none⟩), .pointer (some ⟨w4.heap.size, 0, none⟩), t0_7, t0_8, t0_9, t0_10, t0_11, t0_12, t0_13, t0_14, t0_15, t0_16, t0_17, t0_18, t0_19, t0_20, t0_21, t0_22, t0_23, t0_24, t0_25, t0_26, t0_27, t0_28, t0_29, t0_30, t0_31, t0_32, .int .i64 (n : Int), .int .i64 (i : Int), t0_35, t0_36, t0_37, t0_38, t0_39, t0_40, t0_41, t0_42, t0_43, t0_44, t0_45, t0_46, t0_47, t0_48, t0_49, t0_50, t0_51, t0_52, t0_53, t0_54, t0_55, t0_56, t0_57, t0_58, t0_59, t0_60, t0_61, t0_62, t0_63, t0_64], defers := [] } → Below w.heap.size w Wl0 → Arr w.heap.size (row 36 m) Wl0 → Fl w2.heap.size false Wl0 → Arr w4.heap.size (row 36 s) Wl0 → G_) → G_) := ⟨_, rfl⟩
    refine rounds_up J0 n ?_ ?_ ?_
    · rw [hJ0.out]
      intro G_ hG_
      exact hG_ () _ _ _ _ _ _ _ _ _ _ _ _ _ _ _ _ _ _ _ _ _ _ _ _ _ _ _ _ _ _ _ _ _ _ _ _ _ _ _ _ _ _ _ _ _ _ _ _ _ _ _ _ _ _ _ _ _ _ _ trivial rfl K5 B0_5 B1_5 B2_5
    · intro i a Wl0 hi hI R hR
      rw [hJ0.out] at hI
      refine hI _ ?_
      clear hI
      intro s0 t0_0 t0_3 t0_4 t0_7 t0_8 t0_9 t0_10 t0_11 t0_12 t0_13 t0_14 t0_15 t0_16 t0_17 t0_18 t0_19 t0_20 t0_21 t0_22 t0_23 t0_24 t0_25 t0_26 t0_27 t0_28 t0_29 t0_30 t0_31 t0_32 t0_35 t0_36 t0_37 t0_38 t0_39 t0_40 t0_41 t0_42 t0_43 t0_44 t0_45 t0_46 t0_47 t0_48 t0_49 t0_50 t0_51 t0_52 t0_53 t0_54 t0_55 t0_56 t0_57 t0_58 t0_59 t0_60 t0_61 t0_62 t0_63 t0_64 El0 ea Kl0 B0_l0 B1_l0 B2_l0
      subst ea
      have zl0_B0 := B0_l0.lies
      have zl0_B1 := B1_l0.lies
      have zl0_B2 := B2_l0.lies
      go_wp2_with fail
      obtain ⟨J1, hJ1⟩ : ∃ J : Nat → Act → World → Prop, Hid (J = fun j a Wl1 => ∀ G_ : Prop, (∀ (s1 : Unit) (t1_0 t1_3 t1_4 t1_8 t1_9 t1_10 t1_11 t1_12 t1_13 t1_14 t1_15 t1_16 t1_17 t1_18 t1_19 t1_20 t1_21 t1_22 t1_23 t1_24 t1_25 t1_26 t1_27 t1_28 t1_29 t1_30 t1_31 t1_32 t1_35 t1_36 t1_39 t1_40 t1_41 t1_42 t1_43 t1_44 t1_45 t1_46 t1_47 t1_48 t1_49 t1_50 t1_51 t1_52 t1_53 t1_54 t1_55 t1_56 t1_57 t1_58 t1_59 t1_60 t1_61 t1_62 t1_63 t1_64 : Value), Hid (True) → a = { tmps := #[t1_0, .int .i64 (n : Int), .pointer (some ⟨w.heap.size, 0, none⟩), t1_3, t1_4, .pointer (some ⟨w2.heap.size, 0, none⟩), .pointer (some ⟨w4.heap.size, 0, none⟩), .int .i64 (i : Int), t1_8, t1_9, t1_10, t1_11, t1_12, t1_13, t1_14, t1_15, t1_16, t1_17, t1_18, t1_19, t1_20, t1_21, t1_22, t1_23, t1_24, t1_25, t1_26, t1_27, t1_28, t1_29, t1_30, t1_31, t1_32, .int .i64 (n : Int), .int .i64 (i : Int), t1_35, t1_36, .int .i64 (n : Int), .int .i64 (j : Int), t1_39, t1_40, t1_41, t1_42, t1_43, t1_44, t1_45, t1_46, t1_47, t1_48, t1_49, t1_50, t1_51, t1_52, t1_53, t1_54, t1_55, t1_56, t1_57, t1_58, t1_59, t1_60, t1_61, t1_62, t1_63, t1_64], defers := [] } → Below w.heap.size w Wl1 → Arr w.heap.size (row 36 m) Wl1 → Fl w2.heap.size false Wl1 → Arr w4.heap.size (row 36 s) Wl1 → G_) → G_) := ⟨_, rfl⟩
      refine rounds_up J1 n ?_ ?_ ?_
      · rw [hJ1.out]
        intro G_ hG_
        exact hG_ () _ _ _ _ _ _ _ _ _ _ _ _ _ _ _ _ _ _ _ _ _ _ _ _ _ _ _ _ _ _ _ _ _ _ _ _ _ _ _ _ _ _ _ _ _ _ _ _ _ _ _ _ _ _ _ _ trivial rfl Kl0 B0_l0 B1_l0 B2_l0
      · intro j a Wl1 hj hI R hR
        rw [hJ1.out] at hI
        refine hI _ ?_
        clear hI
        intro s1 t1_0 t1_3 t1_4 t1_8 t1_9 t1_10 t1_11 t1_12 t1_13 t1_14 t1_15 t1_16 t1_17 t1_18 t1_19 t1_20 t1_21 t1_22 t1_23 t1_24 t1_25 t1_26 t1_27 t1_28 t1_29 t1_30 t1_31 t1_32 t1_35 t1_36 t1_39 t1_40 t1_41 t1_42 t1_43 t1_44 t1_45 t1_46 t1_47 t1_48 t1_49 t1_50 t1_51 t1_52 t1_53 t1_54 t1_55 t1_56 t1_57 t1_58 t1_59 t1_60 t1_61 t1_62 t1_63 t1_64 El1 ea Kl1 B0_l1 B1_l1 B2_l1
        subst ea
        have zl1_B0 := B0_l1.lies
        have zl1_B1 := B1_l1.lies
        have zl1_B2 := B2_l1.lies
        have hd := hcl i j hi hj
        have hd1 := hd.lo
        have hd2 := hd.hi
        have qd1 : (64 < (s (i * 6 + j) - m (i * 6 + j))) = False := eq_false (by omega)
        have qd2 : ((s (i * 6 + j) - m (i * 6 + j)) < -64) = False := eq_false (by omega)
        go_wp2_with fail
        refine wp_region_held_drew (S := fun w' => Arr w4.heap.size (row 36 s) w' ∧ Arr w.heap.size (row 36 m) w') (by kernel_rfl) ⟨B2_l1.drew, B0_l1.drew⟩ (fun hHeld => ?_)
        refine take_at (i := 0) (v := ?v97) rfl (by kernel_rfl) (by kernel_rfl) (by kernel_rfl) (fun _ _ _ h => h) (Or.inl ⟨by rfl, ?y97⟩) hHeld ?t97
        case y97 => (intro wx hSw; go_simp <;> with_reducible rfl)
        simp only [Act.put, List.setIfInBounds_toArray, List.set_cons_zero, List.set_cons_succ]
        refine take_at (i := 1) (v := ?v98) rfl (by kernel_rfl) (by kernel_rfl) (by kernel_rfl) (fun _ _ _ h => h) (Or.inl ⟨by rfl, ?y98⟩) hHeld ?t98
        case y98 => (intro wx hSw; go_simp <;> with_reducible rfl)
        simp only [Act.put, List.setIfInBounds_toArray, List.set_cons_zero, List.set_cons_succ]
        refine take_at (i := 2) (v := ?v99) rfl (by kernel_rfl) (by kernel_rfl) (by kernel_rfl) (fun _ _ _ h => h) (Or.inl ⟨by rfl, ?y99⟩) hHeld ?t99
        case y99 => (intro wx hSw; have hi0 : (i : Int) < 6 := (by omega); go_simp <;> with_reducible rfl)
        simp only [Act.put, List.setIfInBounds_toArray, List.set_cons_zero, List.set_cons_succ]
        refine take_at (i := 3) (v := ?v100) rfl (by kernel_rfl) (by kernel_rfl) (by kernel_rfl) (fun _ _ _ h => h) (Or.inl ⟨by rfl, ?y100⟩) hHeld ?t100
        case y100 => (intro wx hSw; have hi0 : (j : Int) < 6 := (by omega); go_simp <;> with_reducible rfl)
        simp only [Act.put, List.setIfInBounds_toArray, List.set_cons_zero, List.set_cons_succ]
        refine take_at (i := 4) (v := ?v101) rfl (by kernel_rfl) (by kernel_rfl) (by kernel_rfl) (fun _ _ _ h => h) (Or.inl ⟨by rfl, ?y101⟩) hHeld ?t101
        case y101 => (intro wx hSw; have hc0 : wx.cell? ⟨w4.heap.size, i * 6 + j, none⟩ = some (.int .i64 (s (i * 6 + j))) := row_c hSw.1 (i * 6 + j) (by omega); go_simp <;> with_reducible rfl)
        simp only [Act.put, List.setIfInBounds_toArray, List.set_cons_zero, List.set_cons_succ]
        refine take_at (i := 5) (v := ?v102) rfl (by kernel_rfl) (by kernel_rfl) (by kernel_rfl) (fun _ _ _ h => h) (Or.inl ⟨by rfl, ?y102⟩) hHeld ?t102
        case y102 => (intro wx hSw; go_simp <;> with_reducible rfl)
        simp only [Act.put, List.setIfInBounds_toArray, List.set_cons_zero, List.set_cons_succ]
        refine take_at (i := 6) (v := ?v103) rfl (by kernel_rfl) (by kernel_rfl) (by kernel_rfl) (fun _ _ _ h => h) (Or.inl ⟨by rfl, ?y103⟩) hHeld ?t103
        case y103 => (intro wx hSw; go_simp <;> with_reducible rfl)
        simp only [Act.put, List.setIfInBounds_toArray, List.set_cons_zero, List.set_cons_succ]
        refine take_at (i := 7) (v := ?v104) rfl (by kernel_rfl) (by kernel_rfl) (by kernel_rfl) (fun _ _ _ h => h) (Or.inl ⟨by rfl, ?y104⟩) hHeld ?t104
        case y104 => (intro wx hSw; have hi0 : (i : Int) < 6 := (by omega); go_simp <;> with_reducible rfl)
        simp only [Act.put, List.setIfInBounds_toArray, List.set_cons_zero, List.set_cons_succ]
        refine take_at (i := 8) (v := ?v105) rfl (by kernel_rfl) (by kernel_rfl) (by kernel_rfl) (fun _ _ _ h => h) (Or.inl ⟨by rfl, ?y105⟩) hHeld ?t105
        case y105 => (intro wx hSw; have hi0 : (j : Int) < 6 := (by omega); go_simp <;> with_reducible rfl)
        simp only [Act.put, List.setIfInBounds_toArray, List.set_cons_zero, List.set_cons_succ]
        refine take_at (i := 9) (v := ?v106) rfl (by kernel_rfl) (by kernel_rfl) (by kernel_rfl) (fun _ _ _ h => h) (Or.inl ⟨by rfl, ?y106⟩) hHeld ?t106
        case y106 => (intro wx hSw; have hc0 : wx.cell? ⟨w.heap.size, i * 6 + j, none⟩ = some (.int .i64 (m (i * 6 + j))) := row_c hSw.2 (i * 6 + j) (by omega); go_simp <;> with_reducible rfl)
        simp only [Act.put, List.setIfInBounds_toArray, List.set_cons_zero, List.set_cons_succ]
        refine take_at (i := 10) (v := ?v107) rfl (by kernel_rfl) (by kernel_rfl) (by kernel_rfl) (fun _ _ _ h => h) (Or.inl ⟨by rfl, ?y107⟩) hHeld ?t107
        case y107 => (intro wx hSw; go_simp <;> with_reducible rfl)
        simp only [Act.put, List.setIfInBounds_toArray, List.set_cons_zero, List.set_cons_succ]
        rw [IntWalk.i64_in ((s (i * 6 + j)) - (m (i * 6 + j))) (by omega)]
        refine take_at (i := 11) (v := ?v108) rfl (by kernel_rfl) (by kernel_rfl) (by kernel_rfl) (fun _ _ _ h => h) (Or.inl ⟨by rfl, ?y108⟩) hHeld ?t108
        case y108 => (intro wx hSw; go_simp <;> with_reducible rfl)
        simp only [Act.put, List.setIfInBounds_toArray, List.set_cons_zero, List.set_cons_succ]
        refine wpAnyH_done (by kernel_rfl) ?_ _
        clear hHeld
        go_wp2_with fail
        have hs1 : Hid (True) := trivial
        rw [hJ1.out]
        intro G_ hG_
        exact hG_ () _ _ _ _ _ _ _ _ _ _ _ _ _ _ _ _ _ _ _ _ _ _ _ _ _ _ _ _ _ _ _ _ _ _ _ _ _ _ _ _ _ _ _ _ _ _ _ _ _ _ _ _ _ _ _ _ hs1 rfl (Below.drew Kl1) B0_l1.drew B1_l1.drew B2_l1.drew
      · intro a Wl1 hI R
        rw [hJ1.out] at hI
        refine hI _ ?_
        clear hI hJ1
        intro r6 t1_0 t1_3 t1_4 t1_8 t1_9 t1_10 t1_11 t1_12 t1_13 t1_14 t1_15 t1_16 t1_17 t1_18 t1_19 t1_20 t1_21 t1_22 t1_23 t1_24 t1_25 t1_26 t1_27 t1_28 t1_29 t1_30 t1_31 t1_32 t1_35 t1_36 t1_39 t1_40 t1_41 t1_42 t1_43 t1_44 t1_45 t1_46 t1_47 t1_48 t1_49 t1_50 t1_51 t1_52 t1_53 t1_54 t1_55 t1_56 t1_57 t1_58 t1_59 t1_60 t1_61 t1_62 t1_63 t1_64 I1 ea Kl1 B0_l1 B1_l1 B2_l1
        subst ea
        have zl1_B0 := B0_l1.lies
        have zl1_B1 := B1_l1.lies
        have zl1_B2 := B2_l1.lies
        go_wp2_with fail
        have hs0 : Hid (True) := trivial
        rw [hJ0.out]
        intro G_ hG_
        exact hG_ () _ _ _ _ _ _ _ _ _ _ _ _ _ _ _ _ _ _ _ _ _ _ _ _ _ _ _ _ _ _ _ _ _ _ _ _ _ _ _ _ _ _ _ _ _ _ _ _ _ _ _ _ _ _ _ _ _ _ _ hs0 rfl Kl1 B0_l1 B1_l1 B2_l1
    · intro a Wl0 hI R
      rw [hJ0.out] at hI
      refine hI _ ?_
      clear hI hJ0
      intro r6 t0_0 t0_3 t0_4 t0_7 t0_8 t0_9 t0_10 t0_11 t0_12 t0_13 t0_14 t0_15 t0_16 t0_17 t0_18 t0_19 t0_20 t0_21 t0_22 t0_23 t0_24 t0_25 t0_26 t0_27 t0_28 t0_29 t0_30 t0_31 t0_32 t0_35 t0_36 t0_37 t0_38 t0_39 t0_40 t0_41 t0_42 t0_43 t0_44 t0_45 t0_46 t0_47 t0_48 t0_49 t0_50 t0_51 t0_52 t0_53 t0_54 t0_55 t0_56 t0_57 t0_58 t0_59 t0_60 t0_61 t0_62 t0_63 t0_64 I0 ea Kl0 B0_l0 B1_l0 B2_l0
      subst ea
      have zl0_B0 := B0_l0.lies
      have zl0_B1 := B1_l0.lies
      have zl0_B2 := B2_l0.lies
      have c8_B1 := B1_l0.cell
      go_wp2
      clear c8_B1
      go_ret
      exact ⟨rfl, Kl0⟩
  · have Hhc1 : Hid (r2 = false) := hc1
    go_wp2
    go_ret
    exact ⟨rfl, K2⟩
theorem MatBack_any (m : Nat → Int) (n : Int) (w : World) :
    Calls Try.prog 6 #[.agg (row 36 m).toArray, .int .i64 n] w fun e w' => e = .returned (.bool true) ∧ Below w.heap.size w w' := by
  by_cases h : n < 1
  · exact MatBack_lo m n w h
  by_cases k : n > 6
  · exact MatBack_hi m n w h k
  obtain ⟨c, rfl⟩ := Int.eq_ofNat_of_zero_le (show 0 ≤ n by omega)
  exact MatBack_in m c w (by omega) (by omega)
end Go.Proofs.Ytcnbcdnjogopdaa
