/-
  The walk of the law MatSolved, for the seat Ytcnbcdnjogopdaa. (Made by mklaw06.py.)
-/
import Derived.Test.YtcnbcdnjogopdaaLAwake
import Derived.Test.YtcnbcdnjogopdaaLHeavy
import Derived.Test.YtcnbcdnjogopdaaVGuard
import Derived.Test.YtcnbcdnjogopdaaVPart
import Derived.Handy
import Derived.Deep.RegionHeld3
namespace Go.Proofs.Ytcnbcdnjogopdaa
open Go.RowKit

theorem ab_zero (p : Nat → Int) : ∀ x, x < 0 → Ab (p x) 1099511627776 := fun x hx => by omega
theorem ab_more {p : Nat → Int} {i : Nat} (h : ∀ x, x < i → Ab (p x) 1099511627776) (h1 : p i ≤ 1099511627776) (h2 : -1099511627776 ≤ p i) : ∀ x, x < i + 1 → Ab (p x) 1099511627776 := fun x hx => by
  by_cases c : x < i
  · exact h x c
  · obtain rfl : x = i := by omega
    exact ⟨h2, h1⟩
set_option maxRecDepth 100000 in
set_option maxHeartbeats 4000000 in
theorem MatSolved_lo (m : Nat → Int) (p : Nat → Int) (n : Int) (w : World) (h : n < 1) :
    Calls Try.prog 7 #[.agg (row 36 m).toArray, .agg (row 6 p).toArray, .int .i64 n] w fun e w' => e = .returned (.bool true) ∧ Below w.heap.size w w' := by
  go_enter Try.func7, Try.ntmps7
  have y1_low : w.heap.size ≤ w.heap.size := (Below.refl w.heap.size w).size
  have y2_B0 : w.heap.size < w.heap.size + 1 := (Nat.lt_succ_self _)
  have y2_low : w.heap.size ≤ w.heap.size + 1 := (Nat.le_succ_of_le (Below.refl w.heap.size w).size)
  go_wp2_with fail
  refine (awake_any  _).mono ?_
  rintro e w1 ⟨rfl, k1⟩
  have K1 : Below w.heap.size w w1 := bel_then (bel_al (bel_al (Below.refl w.heap.size w) _) _) k1
  have B0_1 : Arr w.heap.size (row 36 m) w1 := ((Arr_at _ _ (row 36 m) _ (by simp)).alloc _).below k1
  have B1_1 : Arr (w.heap.size + 1) (row 6 p) w1 := (Arr_at _ _ (row 6 p) _ (by simp)).below k1
  have z1 := B1_1.lies
  clear k1
  go_wp2
  go_ret
  exact ⟨rfl, K1⟩
set_option maxRecDepth 100000 in
set_option maxHeartbeats 4000000 in
theorem MatSolved_hi (m : Nat → Int) (p : Nat → Int) (n : Int) (w : World) (h1 : ¬ n < 1) (h2 : n > 6) :
    Calls Try.prog 7 #[.agg (row 36 m).toArray, .agg (row 6 p).toArray, .int .i64 n] w fun e w' => e = .returned (.bool true) ∧ Below w.heap.size w w' := by
  go_enter Try.func7, Try.ntmps7
  have y1_low : w.heap.size ≤ w.heap.size := (Below.refl w.heap.size w).size
  have y2_B0 : w.heap.size < w.heap.size + 1 := (Nat.lt_succ_self _)
  have y2_low : w.heap.size ≤ w.heap.size + 1 := (Nat.le_succ_of_le (Below.refl w.heap.size w).size)
  go_wp2_with fail
  refine (awake_any  _).mono ?_
  rintro e w1 ⟨rfl, k1⟩
  have K1 : Below w.heap.size w w1 := bel_then (bel_al (bel_al (Below.refl w.heap.size w) _) _) k1
  have B0_1 : Arr w.heap.size (row 36 m) w1 := ((Arr_at _ _ (row 36 m) _ (by simp)).alloc _).below k1
  have B1_1 : Arr (w.heap.size + 1) (row 6 p) w1 := (Arr_at _ _ (row 6 p) _ (by simp)).below k1
  have z1 := B1_1.lies
  clear k1
  go_wp2
  go_ret
  exact ⟨rfl, K1⟩
set_option maxRecDepth 100000 in
set_option maxHeartbeats 4000000 in
theorem MatSolved_in (m : Nat → Int) (p : Nat → Int) (n : Nat) (w : World) (h1 : 1 ≤ n) (h6 : n ≤ 6) :
    Calls Try.prog 7 #[.agg (row 36 m).toArray, .agg (row 6 p).toArray, .int .i64 (n : Int)] w fun e w' => e = .returned (.bool true) ∧ Below w.heap.size w w' := by
  have qn1 : ((n : Int) < 1) = False := eq_false (by omega)
  have qn2 : ((6 : Int) < (n : Int)) = False := eq_false (by omega)
  go_enter Try.func7, Try.ntmps7
  have y1_low : w.heap.size ≤ w.heap.size := (Below.refl w.heap.size w).size
  have y2_B0 : w.heap.size < w.heap.size + 1 := (Nat.lt_succ_self _)
  have y2_low : w.heap.size ≤ w.heap.size + 1 := (Nat.le_succ_of_le (Below.refl w.heap.size w).size)
  go_wp2_with fail
  refine (awake_any  _).mono ?_
  rintro e w1 ⟨rfl, k1⟩
  have K1 : Below w.heap.size w w1 := bel_then (bel_al (bel_al (Below.refl w.heap.size w) _) _) k1
  have B0_1 : Arr w.heap.size (row 36 m) w1 := ((Arr_at _ _ (row 36 m) _ (by simp)).alloc _).below k1
  have B1_1 : Arr (w.heap.size + 1) (row 6 p) w1 := (Arr_at _ _ (row 6 p) _ (by simp)).below k1
  have z1 := B1_1.lies
  clear k1
  go_wp2_with (refine row_load_g (by rfl) rfl rfl B0_1 (by kernel_rfl) (by rw [row_len]; kernel_rfl) ?_)
  refine (heavy_any m n _ h6).mono ?_
  rintro e w2 ⟨⟨r2, rfl, H2⟩, k2⟩
  have X2 : Hid _ := H2
  clear H2
  have K2 : Below w.heap.size w w2 := bel_then K1 k2
  have B0_2 : Arr w.heap.size (row 36 m) w2 := B0_1.below k2
  have B1_2 : Arr (w.heap.size + 1) (row 6 p) w2 := B1_1.below k2
  have z2 := B1_2.lies
  clear K1 B0_1 B1_1 k2
  rcases Bool.eq_false_or_eq_true r2 with hc1 | hc1
  · have Hhc1 : Hid (r2 = true) := hc1
    have HV : Hid (Heavy (mt m) n) := X2.out hc1
    go_wp2_with fail
    obtain ⟨J1, hJ1⟩ : ∃ J : Nat → Act → World → Prop, Hid (J = fun i a Wl1 => ∀ G_ : Prop, (∀ (s1 : Unit) (t1_0 t1_1 t1_5 t1_6 t1_7 t1_8 t1_9 t1_10 t1_11 t1_12 t1_13 t1_14 t1_15 t1_16 t1_17 t1_18 t1_19 t1_20 t1_21 t1_22 t1_23 t1_24 t1_25 t1_26 t1_29 t1_30 t1_31 t1_32 t1_33 t1_34 t1_35 t1_36 t1_37 t1_38 t1_39 t1_40 t1_41 t1_42 t1_43 t1_44 t1_45 t1_46 t1_47 t1_48 t1_49 t1_50 t1_51 t1_52 t1_53 t1_54 t1_55 t1_56 t1_57 t1_58 t1_59 t1_60 t1_61 t1_62 t1_63 t1_64 t1_65 t1_66 t1_67 t1_68 t1_69 t1_70 t1_71 t1_72 t1_73 t1_74 t1_75 t1_76 t1_77 t1_78 t1_79 : Value), Hid (∀ x, x < i → Ab (p x) 1099511627776) → a = { tmps := #[t1_0, t1_1, .int .i64 (n : Int), .pointer (some ⟨w.heap.size, 0, none⟩), .pointer (some ⟨w.heap.size + 1, 0, none⟩), t1_5, t1_6, t1_7, t1_8, t1_9, t1_10, t1_11, t1_12, t1_13, t1_14, t1_15, t1_16, t1_17, t1_18, t1_19, t1_20, t1_21, t1_22, t1_23, t1_24, t1_25, t1_26, .int .i64 (n : Int), .int .i64 (i : Int), t1_29, t1_30, t1_31, t1_32, t1_33, t1_34, t1_35, t1_36, t1_37, t1_38, t1_39, t1_40, t1_41, t1_42, t1_43, t1_44, t1_45, t1_46, t1_47, t1_48, t1_49, t1_50, t1_51, t1_52, t1_53, t1_54, t1_55, t1_56, t1_57, t1_58, t1_59, t1_60, t1_61, t1_62, t1_63, t1_64, t1_65, t1_66, t1_67, t1_68, t1_69, t1_70, t1_71, t1_72, t1_73, t1_74, t1_75, t1_76, t1_77, t1_78, t1_79], defers := [] } → Below w.heap.size w Wl1 → Arr w.heap.size (row 36 m) Wl1 → Arr (w.heap.size + 1) (row 6 p) Wl1 → G_) → G_) := ⟨_, rfl⟩
    refine rounds_up J1 n ?_ ?_ ?_
    · rw [hJ1.out]
      intro G_ hG_
      exact hG_ () _ _ _ _ _ _ _ _ _ _ _ _ _ _ _ _ _ _ _ _ _ _ _ _ _ _ _ _ _ _ _ _ _ _ _ _ _ _ _ _ _ _ _ _ _ _ _ _ _ _ _ _ _ _ _ _ _ _ _ _ _ _ _ _ _ _ _ _ _ _ _ _ _ _ _ (ab_zero p) rfl K2 B0_2 B1_2
    · intro i a Wl1 hi hI R hR
      rw [hJ1.out] at hI
      refine hI _ ?_
      clear hI
      intro s1 t1_0 t1_1 t1_5 t1_6 t1_7 t1_8 t1_9 t1_10 t1_11 t1_12 t1_13 t1_14 t1_15 t1_16 t1_17 t1_18 t1_19 t1_20 t1_21 t1_22 t1_23 t1_24 t1_25 t1_26 t1_29 t1_30 t1_31 t1_32 t1_33 t1_34 t1_35 t1_36 t1_37 t1_38 t1_39 t1_40 t1_41 t1_42 t1_43 t1_44 t1_45 t1_46 t1_47 t1_48 t1_49 t1_50 t1_51 t1_52 t1_53 t1_54 t1_55 t1_56 t1_57 t1_58 t1_59 t1_60 t1_61 t1_62 t1_63 t1_64 t1_65 t1_66 t1_67 t1_68 t1_69 t1_70 t1_71 t1_72 t1_73 t1_74 t1_75 t1_76 t1_77 t1_78 t1_79 El1 ea Kl1 B0_l1 B1_l1
      subst ea
      have zl1_B0 := B0_l1.lies
      have zl1_B1 := B1_l1.lies
      by_cases hc2 : (p i) > 1099511627776
      · have Hhc2 : Hid ((p i) > 1099511627776) := hc2
        have c4_B1_0 : Wl1.cell? ⟨w.heap.size + 1, i, none⟩ = some (.int .i64 (p i)) := row_c B1_l1 i (by omega)
        have i4_1 : (i : Int) < 6 := by omega
        go_wp2
        clear c4_B1_0 i4_1
        go_ret
        exact ⟨rfl, Kl1⟩
      · have Hhc2 : Hid (¬ (p i) > 1099511627776) := hc2
        by_cases hc3 : (p i) < (-1099511627776)
        · have Hhc3 : Hid ((p i) < (-1099511627776)) := hc3
          have c4_B1_0 : Wl1.cell? ⟨w.heap.size + 1, i, none⟩ = some (.int .i64 (p i)) := row_c B1_l1 i (by omega)
          have i4_1 : (i : Int) < 6 := by omega
          go_wp2
          clear c4_B1_0 i4_1
          go_ret
          exact ⟨rfl, Kl1⟩
        · have Hhc3 : Hid (¬ (p i) < (-1099511627776)) := hc3
          have c4_B1_0 : Wl1.cell? ⟨w.heap.size + 1, i, none⟩ = some (.int .i64 (p i)) := row_c B1_l1 i (by omega)
          have i4_1 : (i : Int) < 6 := by omega
          go_wp2_with fail
          clear c4_B1_0 i4_1
          have hs1 : Hid (∀ x, x < (i + 1) → Ab (p x) 1099511627776) := ab_more El1.out (by omega) (by omega)
          rw [hJ1.out]
          intro G_ hG_
          exact hG_ () _ _ _ _ _ _ _ _ _ _ _ _ _ _ _ _ _ _ _ _ _ _ _ _ _ _ _ _ _ _ _ _ _ _ _ _ _ _ _ _ _ _ _ _ _ _ _ _ _ _ _ _ _ _ _ _ _ _ _ _ _ _ _ _ _ _ _ _ _ _ _ _ _ _ _ hs1 rfl Kl1 B0_l1 B1_l1
    · intro a Wl1 hI R
      rw [hJ1.out] at hI
      refine hI _ ?_
      clear hI hJ1
      intro r3 t1_0 t1_1 t1_5 t1_6 t1_7 t1_8 t1_9 t1_10 t1_11 t1_12 t1_13 t1_14 t1_15 t1_16 t1_17 t1_18 t1_19 t1_20 t1_21 t1_22 t1_23 t1_24 t1_25 t1_26 t1_29 t1_30 t1_31 t1_32 t1_33 t1_34 t1_35 t1_36 t1_37 t1_38 t1_39 t1_40 t1_41 t1_42 t1_43 t1_44 t1_45 t1_46 t1_47 t1_48 t1_49 t1_50 t1_51 t1_52 t1_53 t1_54 t1_55 t1_56 t1_57 t1_58 t1_59 t1_60 t1_61 t1_62 t1_63 t1_64 t1_65 t1_66 t1_67 t1_68 t1_69 t1_70 t1_71 t1_72 t1_73 t1_74 t1_75 t1_76 t1_77 t1_78 t1_79 I1 ea Kl1 B0_l1 B1_l1
      subst ea
      have zl1_B0 := B0_l1.lies
      have zl1_B1 := B1_l1.lies
      obtain ⟨g, x, y, er, ex, ey, hcl⟩ := solved_math HV.out I1.out
      have e1 : Hid _ := (aRoot_in false m h1 h6).trans er
      have e2 : Hid _ := (aSolve_in false g p h1 h6).trans ex
      have e3 : Hid _ := (aApply_in false m x h1 h6).trans ey
      clear er ex ey
      have y3_B0 : w.heap.size < Wl1.heap.size := B0_l1.lies
      have y3_B1 : w.heap.size + 1 < Wl1.heap.size := B1_l1.lies
      have y3_low : w.heap.size ≤ Wl1.heap.size := Kl1.size
      go_wp2_with fail
      refine get_cont (fun KK1 hKK1 => ?_)
      have cont1 : ∀ (W1 : World) (t1_5 t1_13 t1_14 t1_15 t1_16 t1_17 t1_18 t1_19 t1_20 t1_21 t1_22 t1_23 t1_24 t1_25 t1_26 t1_29 t1_30 t1_31 t1_32 t1_33 t1_34 t1_35 t1_36 t1_37 t1_38 t1_39 t1_40 t1_41 t1_42 t1_43 t1_44 t1_45 t1_46 t1_47 t1_48 t1_49 t1_50 t1_51 t1_52 t1_53 t1_54 t1_55 t1_56 t1_59 t1_60 t1_61 t1_62 t1_63 t1_64 t1_65 t1_66 t1_67 t1_68 t1_69 t1_70 t1_71 t1_72 t1_73 t1_74 t1_75 t1_76 t1_77 t1_78 t1_79 : Value) (x1_0 : Nat) , Below w.heap.size w W1 → Arr w.heap.size (row 36 m) W1 → Arr (w.heap.size + 1) (row 6 p) W1 → Fl Wl1.heap.size false W1 → Arr x1_0 [.int .i64 (x 0), .int .i64 (x 1), .int .i64 (x 2), .int .i64 (x 3), .int .i64 (x 4), .int .i64 (x 5)] W1 → w.heap.size ≤ x1_0 → w.heap.size < x1_0 → w.heap.size + 1 < x1_0 → Wl1.heap.size < x1_0 → KK1 { tmps := #[t1_0, t1_1, .int .i64 (n : Int), .pointer (some ⟨w.heap.size, 0, none⟩), .pointer (some ⟨w.heap.size + 1, 0, none⟩), t1_5, t1_6, t1_7, .pointer (some ⟨Wl1.heap.size, 0, none⟩), .pointer (some ⟨x1_0, 0, none⟩), t1_10, t1_11, t1_12, t1_13, t1_14, t1_15, t1_16, t1_17, t1_18, t1_19, t1_20, t1_21, t1_22, t1_23, t1_24, t1_25, t1_26, .int .i64 (n : Int), .int .i64 (n : Int), t1_29, t1_30, t1_31, t1_32, t1_33, t1_34, t1_35, t1_36, t1_37, t1_38, t1_39, t1_40, t1_41, t1_42, t1_43, t1_44, t1_45, t1_46, t1_47, t1_48, t1_49, t1_50, t1_51, t1_52, t1_53, t1_54, t1_55, t1_56, t1_57, t1_58, t1_59, t1_60, t1_61, t1_62, t1_63, t1_64, t1_65, t1_66, t1_67, t1_68, t1_69, t1_70, t1_71, t1_72, t1_73, t1_74, t1_75, t1_76, t1_77, t1_78, t1_79], defers := [] } W1 := by
        intro W1 t1_5 t1_13 t1_14 t1_15 t1_16 t1_17 t1_18 t1_19 t1_20 t1_21 t1_22 t1_23 t1_24 t1_25 t1_26 t1_29 t1_30 t1_31 t1_32 t1_33 t1_34 t1_35 t1_36 t1_37 t1_38 t1_39 t1_40 t1_41 t1_42 t1_43 t1_44 t1_45 t1_46 t1_47 t1_48 t1_49 t1_50 t1_51 t1_52 t1_53 t1_54 t1_55 t1_56 t1_59 t1_60 t1_61 t1_62 t1_63 t1_64 t1_65 t1_66 t1_67 t1_68 t1_69 t1_70 t1_71 t1_72 t1_73 t1_74 t1_75 t1_76 t1_77 t1_78 t1_79 x1_0 KC1 B0_c1 B1_c1 B2_c1 B3_c1 s1_0 s1_1 s1_2 s1_3
        have zc1_B0 := B0_c1.lies
        have zc1_B1 := B1_c1.lies
        have zc1_B2 := B2_c1.lies
        have zc1_B3 := B3_c1.lies
        rw [hKK1.out]
        dsimp only [Exit.inBlock, Exit.then]
        first | refine use_cont (by assumption) ?_ | skip
        have c5_B3_0 : W1.cell? ⟨x1_0, 0, none⟩ = some (.int .i64 (x 0)) := B3_c1.c 0 (of_decide_eq_true rfl)
        have c5_B3_1 : W1.cell? ⟨x1_0, 1, none⟩ = some (.int .i64 (x 1)) := B3_c1.c 1 (of_decide_eq_true rfl)
        have c5_B3_2 : W1.cell? ⟨x1_0, 2, none⟩ = some (.int .i64 (x 2)) := B3_c1.c 2 (of_decide_eq_true rfl)
        have c5_B3_3 : W1.cell? ⟨x1_0, 3, none⟩ = some (.int .i64 (x 3)) := B3_c1.c 3 (of_decide_eq_true rfl)
        have c5_B3_4 : W1.cell? ⟨x1_0, 4, none⟩ = some (.int .i64 (x 4)) := B3_c1.c 4 (of_decide_eq_true rfl)
        have c5_B3_5 : W1.cell? ⟨x1_0, 5, none⟩ = some (.int .i64 (x 5)) := B3_c1.c 5 (of_decide_eq_true rfl)
        go_wp2_with (refine row_load rfl rfl rfl B0_c1 (by kernel_rfl) (by rw [row_len]; kernel_rfl) ?_)
        refine (aApply_any Wl1.heap.size false m x (n : Int) _ B2_c1).mono ?_
        rintro e w6 ⟨rfl, f6, k6⟩
        rw [e3.out] at f6 ⊢
        dsimp only at f6 ⊢
        have K6 : Below w.heap.size w w6 := k6.on KC1 (by omega)
        have B0_6 : Arr w.heap.size (row 36 m) w6 := B0_c1.kept k6 (Nat.ne_of_lt y3_B0)
        have B1_6 : Arr (w.heap.size + 1) (row 6 p) w6 := B1_c1.kept k6 (Nat.ne_of_lt y3_B1)
        have B3_6 : Arr x1_0 [.int .i64 (x 0), .int .i64 (x 1), .int .i64 (x 2), .int .i64 (x 3), .int .i64 (x 4), .int .i64 (x 5)] w6 := B3_c1.kept k6 (Nat.ne_of_gt s1_3)
        have z6 := B3_6.lies
        clear c5_B3_0 c5_B3_1 c5_B3_2 c5_B3_3 c5_B3_4 c5_B3_5 B0_c1 B1_c1 B2_c1 B3_c1 k6
        have y4_B0 : w.heap.size < w6.heap.size := B0_6.lies
        have y4_B1 : w.heap.size + 1 < w6.heap.size := B1_6.lies
        have y4_B2 : Wl1.heap.size < w6.heap.size := f6.lies
        have y4_B3 : x1_0 < w6.heap.size := B3_6.lies
        have y4_low : w.heap.size ≤ w6.heap.size := K6.size
        go_wp2_with (refine store_stop rfl (by kernel_rfl) ?_)
        refine Stop.mk (store_row (l' := row 6 y) rfl rfl rfl rfl (Arr_at _ _ [.int .i64 0, .int .i64 0, .int .i64 0, .int .i64 0, .int .i64 0, .int .i64 0] _ (by simp)) (by rw [row_len]; rfl) (by rw [row_len]; kernel_rfl) (row_one _ _) ?_)
        intro w7 B4_7 o7
        have K7 : Below w.heap.size w w7 := bel_off (bel_al K6 _) o7 y4_low
        have B0_7 : Arr w.heap.size (row 36 m) w7 := (B0_6.alloc _).off o7 (Nat.ne_of_lt y4_B0)
        have B1_7 : Arr (w.heap.size + 1) (row 6 p) w7 := (B1_6.alloc _).off o7 (Nat.ne_of_lt y4_B1)
        have B2_7 : Fl Wl1.heap.size false w7 := (f6.alloc _).off o7 (Nat.ne_of_lt y4_B2)
        have B3_7 : Arr x1_0 [.int .i64 (x 0), .int .i64 (x 1), .int .i64 (x 2), .int .i64 (x 3), .int .i64 (x 4), .int .i64 (x 5)] w7 := (B3_6.alloc _).off o7 (Nat.ne_of_lt y4_B3)
        have z7_B4 := B4_7.lies
        have z7_B0 := B0_7.lies
        have z7_B1 := B1_7.lies
        have z7_B2 := B2_7.lies
        have z7_B3 := B3_7.lies
        clear K6 B0_6 B1_6 f6 B3_6 o7
        go_wp2_with fail
        obtain ⟨J0, hJ0⟩ : ∃ J : Nat → Act → World → Prop, Hid (J = fun i a Wl0 => ∀ G_ : Prop, (∀ (s0 : Unit) (t0_0 t0_1 t0_2 t0_3 t0_5 t0_6 t0_7 t0_9 t0_11 t0_12 t0_13 t0_14 t0_15 t0_16 t0_17 t0_18 t0_19 t0_20 t0_21 t0_22 t0_23 t0_24 t0_25 t0_26 t0_27 t0_28 t0_29 t0_30 t0_31 t0_32 t0_33 t0_34 t0_35 t0_36 t0_37 t0_38 t0_39 t0_40 t0_41 t0_42 t0_43 t0_44 t0_45 t0_46 t0_47 t0_48 t0_49 t0_50 t0_51 t0_52 t0_53 t0_54 t0_55 t0_56 t0_59 t0_60 t0_61 t0_62 t0_63 t0_64 t0_65 t0_66 t0_67 t0_68 t0_69 t0_70 t0_71 t0_72 t0_73 t0_74 t0_75 t0_76 t0_77 t0_78 t0_79 : Value), Hid (True) → a = { tmps := #[t0_0, t0_1, t0_2, t0_3, .pointer (some ⟨w.heap.size + 1, 0, none⟩), t0_5, t0_6, t0_7, .pointer (some ⟨Wl1.heap.size, 0, none⟩), t0_9, .pointer (some ⟨w6.heap.size, 0, none⟩), t0_11, t0_12, t0_13, t0_14, t0_15, t0_16, t0_17, t0_18, t0_19, t0_20, t0_21, t0_22, t0_23, t0_24, t0_25, t0_26, t0_27, t0_28, t0_29, t0_30, t0_31, t0_32, t0_33, t0_34, t0_35, t0_36, t0_37, t0_38, t0_39, t0_40, t0_41, t0_42, t0_43, t0_44, t0_45, t0_46, t0_47, t0_48, t0_49, t0_50, t0_51, t0_52, t0_53, t0_54, t0_55, t0_56, .int .i64 (n : Int), .int .i64 (i : Int), t0_59, t0_60, t0_61, t0_62, t0_63, t0_64, t0_65, t0_66, t0_67, t0_68, t0_69, t0_70, t0_71, t0_72, t0_73, t0_74, t0_75, t0_76, t0_77, t0_78, t0_79], defers := [] } → Below w.heap.size w Wl0 → Arr w.heap.size (row 36 m) Wl0 → Arr (w.heap.size + 1) (row 6 p) Wl0 → Fl Wl1.heap.size false Wl0 → Arr x1_0 (row 6 x) Wl0 → Arr w6.heap.size (row 6 y) Wl0 → G_) → G_) := ⟨_, rfl⟩
        refine rounds_up J0 n ?_ ?_ ?_
        · rw [hJ0.out]
          intro G_ hG_
          exact hG_ () _ _ _ _ _ _ _ _ _ _ _ _ _ _ _ _ _ _ _ _ _ _ _ _ _ _ _ _ _ _ _ _ _ _ _ _ _ _ _ _ _ _ _ _ _ _ _ _ _ _ _ _ _ _ _ _ _ _ _ _ _ _ _ _ _ _ _ _ _ _ _ _ _ _ _ trivial rfl K7 B0_7 B1_7 B2_7 B3_7 B4_7
        · intro i a Wl0 hi hI R hR
          rw [hJ0.out] at hI
          refine hI _ ?_
          clear hI
          intro s0 t0_0 t0_1 t0_2 t0_3 t0_5 t0_6 t0_7 t0_9 t0_11 t0_12 t0_13 t0_14 t0_15 t0_16 t0_17 t0_18 t0_19 t0_20 t0_21 t0_22 t0_23 t0_24 t0_25 t0_26 t0_27 t0_28 t0_29 t0_30 t0_31 t0_32 t0_33 t0_34 t0_35 t0_36 t0_37 t0_38 t0_39 t0_40 t0_41 t0_42 t0_43 t0_44 t0_45 t0_46 t0_47 t0_48 t0_49 t0_50 t0_51 t0_52 t0_53 t0_54 t0_55 t0_56 t0_59 t0_60 t0_61 t0_62 t0_63 t0_64 t0_65 t0_66 t0_67 t0_68 t0_69 t0_70 t0_71 t0_72 t0_73 t0_74 t0_75 t0_76 t0_77 t0_78 t0_79 El0 ea Kl0 B0_l0 B1_l0 B2_l0 B3_l0 B4_l0
          subst ea
          have zl0_B0 := B0_l0.lies
          have zl0_B1 := B1_l0.lies
          have zl0_B2 := B2_l0.lies
          have zl0_B3 := B3_l0.lies
          have zl0_B4 := B4_l0.lies
          have hd := hcl i hi
          have hd1 := hd.lo
          have hd2 := hd.hi
          have qd1 : (16777216 < (y i - p i)) = False := eq_false (by omega)
          have qd2 : ((y i - p i) < -16777216) = False := eq_false (by omega)
          go_wp2_with fail
          refine wp_region_held_drew (S := fun w' => Arr w6.heap.size (row 6 y) w' ∧ Arr (w.heap.size + 1) (row 6 p) w') (by kernel_rfl) ⟨B4_l0.drew, B1_l0.drew⟩ (fun hHeld => ?_)
          refine take_at (i := 0) (v := ?v17) rfl (by kernel_rfl) (by kernel_rfl) (by kernel_rfl) (fun _ _ _ h => h) (Or.inl ⟨by rfl, ?y17⟩) hHeld ?t17
          case y17 => (intro wx hSw; go_simp <;> with_reducible rfl)
          simp only [Act.put, List.setIfInBounds_toArray, List.set_cons_zero, List.set_cons_succ]
          refine take_at (i := 1) (v := ?v18) rfl (by kernel_rfl) (by kernel_rfl) (by kernel_rfl) (fun _ _ _ h => h) (Or.inl ⟨by rfl, ?y18⟩) hHeld ?t18
          case y18 => (intro wx hSw; have hi0 : (i : Int) < 6 := (by omega); go_simp <;> with_reducible rfl)
          simp only [Act.put, List.setIfInBounds_toArray, List.set_cons_zero, List.set_cons_succ]
          refine take_at (i := 2) (v := ?v19) rfl (by kernel_rfl) (by kernel_rfl) (by kernel_rfl) (fun _ _ _ h => h) (Or.inl ⟨by rfl, ?y19⟩) hHeld ?t19
          case y19 => (intro wx hSw; have hc0 : wx.cell? ⟨w6.heap.size, i, none⟩ = some (.int .i64 (y i)) := row_c hSw.1 i (by omega); go_simp <;> with_reducible rfl)
          simp only [Act.put, List.setIfInBounds_toArray, List.set_cons_zero, List.set_cons_succ]
          refine take_at (i := 3) (v := ?v20) rfl (by kernel_rfl) (by kernel_rfl) (by kernel_rfl) (fun _ _ _ h => h) (Or.inl ⟨by rfl, ?y20⟩) hHeld ?t20
          case y20 => (intro wx hSw; go_simp <;> with_reducible rfl)
          simp only [Act.put, List.setIfInBounds_toArray, List.set_cons_zero, List.set_cons_succ]
          refine take_at (i := 4) (v := ?v21) rfl (by kernel_rfl) (by kernel_rfl) (by kernel_rfl) (fun _ _ _ h => h) (Or.inl ⟨by rfl, ?y21⟩) hHeld ?t21
          case y21 => (intro wx hSw; have hi0 : (i : Int) < 6 := (by omega); go_simp <;> with_reducible rfl)
          simp only [Act.put, List.setIfInBounds_toArray, List.set_cons_zero, List.set_cons_succ]
          refine take_at (i := 5) (v := ?v22) rfl (by kernel_rfl) (by kernel_rfl) (by kernel_rfl) (fun _ _ _ h => h) (Or.inl ⟨by rfl, ?y22⟩) hHeld ?t22
          case y22 => (intro wx hSw; have hc0 : wx.cell? ⟨w.heap.size + 1, i, none⟩ = some (.int .i64 (p i)) := row_c hSw.2 i (by omega); go_simp <;> with_reducible rfl)
          simp only [Act.put, List.setIfInBounds_toArray, List.set_cons_zero, List.set_cons_succ]
          refine take_at (i := 6) (v := ?v23) rfl (by kernel_rfl) (by kernel_rfl) (by kernel_rfl) (fun _ _ _ h => h) (Or.inl ⟨by rfl, ?y23⟩) hHeld ?t23
          case y23 => (intro wx hSw; go_simp <;> with_reducible rfl)
          simp only [Act.put, List.setIfInBounds_toArray, List.set_cons_zero, List.set_cons_succ]
          rw [IntWalk.i64_in ((y i) - (p i)) (by omega)]
          refine take_at (i := 7) (v := ?v24) rfl (by kernel_rfl) (by kernel_rfl) (by kernel_rfl) (fun _ _ _ h => h) (Or.inl ⟨by rfl, ?y24⟩) hHeld ?t24
          case y24 => (intro wx hSw; go_simp <;> with_reducible rfl)
          simp only [Act.put, List.setIfInBounds_toArray, List.set_cons_zero, List.set_cons_succ]
          refine wpAnyH_done (by kernel_rfl) ?_ _
          clear hHeld
          go_wp2_with fail
          have hs0 : Hid (True) := trivial
          rw [hJ0.out]
          intro G_ hG_
          exact hG_ () _ _ _ _ _ _ _ _ _ _ _ _ _ _ _ _ _ _ _ _ _ _ _ _ _ _ _ _ _ _ _ _ _ _ _ _ _ _ _ _ _ _ _ _ _ _ _ _ _ _ _ _ _ _ _ _ _ _ _ _ _ _ _ _ _ _ _ _ _ _ _ _ _ _ _ hs0 rfl (Below.drew Kl0) B0_l0.drew B1_l0.drew B2_l0.drew B3_l0.drew B4_l0.drew
        · intro a Wl0 hI R
          rw [hJ0.out] at hI
          refine hI _ ?_
          clear hI hJ0
          intro r8 t0_0 t0_1 t0_2 t0_3 t0_5 t0_6 t0_7 t0_9 t0_11 t0_12 t0_13 t0_14 t0_15 t0_16 t0_17 t0_18 t0_19 t0_20 t0_21 t0_22 t0_23 t0_24 t0_25 t0_26 t0_27 t0_28 t0_29 t0_30 t0_31 t0_32 t0_33 t0_34 t0_35 t0_36 t0_37 t0_38 t0_39 t0_40 t0_41 t0_42 t0_43 t0_44 t0_45 t0_46 t0_47 t0_48 t0_49 t0_50 t0_51 t0_52 t0_53 t0_54 t0_55 t0_56 t0_59 t0_60 t0_61 t0_62 t0_63 t0_64 t0_65 t0_66 t0_67 t0_68 t0_69 t0_70 t0_71 t0_72 t0_73 t0_74 t0_75 t0_76 t0_77 t0_78 t0_79 I0 ea Kl0 B0_l0 B1_l0 B2_l0 B3_l0 B4_l0
          subst ea
          have zl0_B0 := B0_l0.lies
          have zl0_B1 := B1_l0.lies
          have zl0_B2 := B2_l0.lies
          have zl0_B3 := B3_l0.lies
          have zl0_B4 := B4_l0.lies
          have c10_B2 := B2_l0.cell
          go_wp2
          clear c10_B2
          go_ret
          exact ⟨rfl, Kl0⟩
      refine wp_region_held_drew (S := fun w' => Arr w.heap.size (row 36 m) w' ∧ Arr (w.heap.size + 1) (row 6 p) w') (by kernel_rfl) ⟨(B0_l1.alloc _).drew, (B1_l1.alloc _).drew⟩ (fun hHeld => ?_)
      refine take_at (i := 0) (v := ?v25) rfl (by kernel_rfl) (by kernel_rfl) (by kernel_rfl) (fun _ _ _ h => h) (Or.inl ⟨by rfl, ?y25⟩) hHeld ?t25
      case y25 => (intro wx hSw; go_simp <;> with_reducible rfl)
      simp only [Act.put, List.setIfInBounds_toArray, List.set_cons_zero, List.set_cons_succ]
      refine take_at (i := 1) (v := ?v26) rfl (by kernel_rfl) (by kernel_rfl) (by kernel_rfl) (fun _ _ _ h => h) (Or.inl ⟨by rfl, ?y26⟩) hHeld ?t26
      case y26 => (intro wx hSw; go_simp <;> with_reducible rfl)
      simp only [Act.put, List.setIfInBounds_toArray, List.set_cons_zero, List.set_cons_succ]
      refine take_at (i := 2) rfl (by kernel_rfl) (by kernel_rfl) (by kernel_rfl) (fun _ _ _ h => h) (row_yield (by rfl) rfl rfl (fun _ hSw => hSw.1) (by kernel_rfl) (by rw [row_len]; kernel_rfl)) hHeld ?_
      simp only [Act.put, List.setIfInBounds_toArray, List.set_cons_zero, List.set_cons_succ]
      refine take_at (i := 3) (v := ?v27) rfl (by kernel_rfl) (by kernel_rfl) (by kernel_rfl) (fun _ _ _ h => h) (Or.inl ⟨by rfl, ?y27⟩) hHeld ?t27
      case y27 => (intro wx hSw; go_simp <;> with_reducible rfl)
      simp only [Act.put, List.setIfInBounds_toArray, List.set_cons_zero, List.set_cons_succ]
      refine take_at (i := 5) rfl (by kernel_rfl) (by kernel_rfl) (by kernel_rfl) (fun _ _ _ h => h) (row_yield (by rfl) rfl rfl (fun _ hSw => hSw.2) (by kernel_rfl) (by rw [row_len]; kernel_rfl)) hHeld ?_
      simp only [Act.put, List.setIfInBounds_toArray, List.set_cons_zero, List.set_cons_succ]
      refine take_at (i := 6) (v := ?v28) rfl (by kernel_rfl) (by kernel_rfl) (by kernel_rfl) (fun _ _ _ h => h) (Or.inl ⟨by rfl, ?y28⟩) hHeld ?t28
      case y28 => (intro wx hSw; go_simp <;> with_reducible rfl)
      simp only [Act.put, List.setIfInBounds_toArray, List.set_cons_zero, List.set_cons_succ]
      refine call_at2 (i0 := 4) (i1 := 8) (by kernel_rfl) rfl rfl (fun K hK => ?_) (fun K hK => ?_)
      · go_simp
        refine (aRoot_any Wl1.heap.size false m (n : Int) _ (Fl_at _ _ _ _ (by simp)).drew).mono ?_
        rintro e w4 ⟨rfl, f4, k4⟩
        rw [e1.out] at f4 ⊢
        dsimp only at f4 ⊢
        have K4 : Below w.heap.size w w4 := k4.on (Below.drew (bel_al Kl1 _)) (by omega)
        have B0_4 : Arr w.heap.size (row 36 m) w4 := (B0_l1.alloc _).drew.kept k4 (Nat.ne_of_lt y3_B0)
        have B1_4 : Arr (w.heap.size + 1) (row 6 p) w4 := (B1_l1.alloc _).drew.kept k4 (Nat.ne_of_lt y3_B1)
        have z4 := f4.lies
        clear hHeld
        refine hK.out _ _ ⟨B0_4, B1_4⟩ (fun hHeld => ?_)
        clear hK K B0_l1 B1_l1 k4
        refine call_at2 (i0 := 7) (i1 := 8) (by kernel_rfl) rfl rfl (fun K hK => ?_) (fun K hK => ?_)
        · go_simp
          refine (aSolve_any Wl1.heap.size false g p (n : Int) _ f4).mono ?_
          rintro e w5 ⟨rfl, f5, k5⟩
          rw [e2.out] at f5 ⊢
          dsimp only at f5 ⊢
          have K5 : Below w.heap.size w w5 := k5.on K4 (by omega)
          have B0_5 : Arr w.heap.size (row 36 m) w5 := B0_4.kept k5 (Nat.ne_of_lt y3_B0)
          have B1_5 : Arr (w.heap.size + 1) (row 6 p) w5 := B1_4.kept k5 (Nat.ne_of_lt y3_B1)
          have z5 := f5.lies
          clear hHeld
          refine hK.out _ _ ⟨B0_5, B1_5⟩ (fun hHeld => ?_)
          clear hK K K4 B0_4 B1_4 f4 k5
          refine call_at (i := 8) (by kernel_rfl) rfl (fun K hK => ?_)
          have y5_B0 : w.heap.size < w5.heap.size := B0_5.lies
          have y5_B1 : w.heap.size + 1 < w5.heap.size := B1_5.lies
          have y5_B2 : Wl1.heap.size < w5.heap.size := f5.lies
          have y5_low : w.heap.size ≤ w5.heap.size := K5.size
          go_simp
          clear hHeld
          refine hK.out _ _ ⟨(B0_5.alloc _), (B1_5.alloc _)⟩ (fun hHeld => ?_)
          clear hK K
          refine call_at (i := 9) (by kernel_rfl) rfl (fun K hK => ?_)
          have hrow : (row 6 x).toArray = #[.int .i64 (x 0), .int .i64 (x 1), .int .i64 (x 2), .int .i64 (x 3), .int .i64 (x 4), .int .i64 (x 5)] := rfl
          go_simp
          clear hHeld
          refine hK.out _ _ ⟨(B0_5.alloc _), (B1_5.alloc _)⟩ (fun hHeld => ?_)
          clear hK K hrow
          refine wpAnyH_done (by kernel_rfl) ?_ _
          clear hHeld
          refine put_cont hKK1 ?_
          exact cont1 _ _ _ _ _ _ _ _ _ _ _ _ _ _ _ _ _ _ _ _ _ _ _ _ _ _ _ _ _ _ _ _ _ _ _ _ _ _ _ _ _ _ _ _ _ _ _ _ _ _ _ _ _ _ _ _ _ _ _ _ _ _ _ _ _ w5.heap.size (bel_al K5 _) (B0_5.alloc _) (B1_5.alloc _) (f5.alloc _) (Arr_at _ _ [.int .i64 (x 0), .int .i64 (x 1), .int .i64 (x 2), .int .i64 (x 3), .int .i64 (x 4), .int .i64 (x 5)] _ (by simp)) y5_low y5_B0 y5_B1 y5_B2
        · have y6_B0 : w.heap.size < w4.heap.size := B0_4.lies
          have y6_B1 : w.heap.size + 1 < w4.heap.size := B1_4.lies
          have y6_B2 : Wl1.heap.size < w4.heap.size := f4.lies
          have y6_low : w.heap.size ≤ w4.heap.size := K4.size
          go_simp
          clear hHeld
          refine hK.out _ _ ⟨(B0_4.alloc _), (B1_4.alloc _)⟩ (fun hHeld => ?_)
          clear hK K
          refine call_at (i := 7) (by kernel_rfl) rfl (fun K hK => ?_)
          go_simp
          refine (aSolve_any Wl1.heap.size false g p (n : Int) _ (f4.alloc _)).mono ?_
          rintro e w5 ⟨rfl, f5, k5⟩
          rw [e2.out] at f5 ⊢
          dsimp only at f5 ⊢
          have K5 : Below w.heap.size w w5 := k5.on (bel_al K4 _) (by omega)
          have B0_5 : Arr w.heap.size (row 36 m) w5 := (B0_4.alloc _).kept k5 (Nat.ne_of_lt y3_B0)
          have B1_5 : Arr (w.heap.size + 1) (row 6 p) w5 := (B1_4.alloc _).kept k5 (Nat.ne_of_lt y3_B1)
          have B3_5 : Arr w4.heap.size [.int .i64 0, .int .i64 0, .int .i64 0, .int .i64 0, .int .i64 0, .int .i64 0] w5 := (Arr_at _ _ [.int .i64 0, .int .i64 0, .int .i64 0, .int .i64 0, .int .i64 0, .int .i64 0] _ (by simp)).kept k5 (Nat.ne_of_gt y6_B2)
          have z5 := B3_5.lies
          clear hHeld
          refine hK.out _ _ ⟨B0_5, B1_5⟩ (fun hHeld => ?_)
          clear hK K K4 B0_4 B1_4 f4 k5
          refine call_at (i := 9) (by kernel_rfl) rfl (fun K hK => ?_)
          have c6_B3_0 : w5.cell? ⟨w4.heap.size, 0, none⟩ = some (.int .i64 0) := B3_5.c 0 (of_decide_eq_true rfl)
          have c6_B3_1 : w5.cell? ⟨w4.heap.size, 1, none⟩ = some (.int .i64 0) := B3_5.c 1 (of_decide_eq_true rfl)
          have c6_B3_2 : w5.cell? ⟨w4.heap.size, 2, none⟩ = some (.int .i64 0) := B3_5.c 2 (of_decide_eq_true rfl)
          have c6_B3_3 : w5.cell? ⟨w4.heap.size, 3, none⟩ = some (.int .i64 0) := B3_5.c 3 (of_decide_eq_true rfl)
          have c6_B3_4 : w5.cell? ⟨w4.heap.size, 4, none⟩ = some (.int .i64 0) := B3_5.c 4 (of_decide_eq_true rfl)
          have c6_B3_5 : w5.cell? ⟨w4.heap.size, 5, none⟩ = some (.int .i64 0) := B3_5.c 5 (of_decide_eq_true rfl)
          have g6_B3_0 := B3_5.f 0 (of_decide_eq_true rfl)
          have g6_B3_1 := B3_5.f 1 (of_decide_eq_true rfl)
          have g6_B3_2 := B3_5.f 2 (of_decide_eq_true rfl)
          have g6_B3_3 := B3_5.f 3 (of_decide_eq_true rfl)
          have g6_B3_4 := B3_5.f 4 (of_decide_eq_true rfl)
          have g6_B3_5 := B3_5.f 5 (of_decide_eq_true rfl)
          have hrow : (row 6 x).toArray = #[.int .i64 (x 0), .int .i64 (x 1), .int .i64 (x 2), .int .i64 (x 3), .int .i64 (x 4), .int .i64 (x 5)] := rfl
          go_simp
          clear hHeld
          refine hK.out _ _ ⟨((((((B0_5.new w4.heap.size 0 (Nat.ne_of_lt y6_B0) (.int .i64 (x 0))).new w4.heap.size 1 (Nat.ne_of_lt y6_B0) (.int .i64 (x 1))).new w4.heap.size 2 (Nat.ne_of_lt y6_B0) (.int .i64 (x 2))).new w4.heap.size 3 (Nat.ne_of_lt y6_B0) (.int .i64 (x 3))).new w4.heap.size 4 (Nat.ne_of_lt y6_B0) (.int .i64 (x 4))).new w4.heap.size 5 (Nat.ne_of_lt y6_B0) (.int .i64 (x 5))), ((((((B1_5.new w4.heap.size 0 (Nat.ne_of_lt y6_B1) (.int .i64 (x 0))).new w4.heap.size 1 (Nat.ne_of_lt y6_B1) (.int .i64 (x 1))).new w4.heap.size 2 (Nat.ne_of_lt y6_B1) (.int .i64 (x 2))).new w4.heap.size 3 (Nat.ne_of_lt y6_B1) (.int .i64 (x 3))).new w4.heap.size 4 (Nat.ne_of_lt y6_B1) (.int .i64 (x 4))).new w4.heap.size 5 (Nat.ne_of_lt y6_B1) (.int .i64 (x 5)))⟩ (fun hHeld => ?_)
          clear hK K c6_B3_0 c6_B3_1 c6_B3_2 c6_B3_3 c6_B3_4 c6_B3_5 g6_B3_0 g6_B3_1 g6_B3_2 g6_B3_3 g6_B3_4 g6_B3_5 hrow
          refine wpAnyH_done (by kernel_rfl) ?_ _
          clear hHeld
          refine put_cont hKK1 ?_
          exact cont1 _ _ _ _ _ _ _ _ _ _ _ _ _ _ _ _ _ _ _ _ _ _ _ _ _ _ _ _ _ _ _ _ _ _ _ _ _ _ _ _ _ _ _ _ _ _ _ _ _ _ _ _ _ _ _ _ _ _ _ _ _ _ _ _ _ w4.heap.size (bel_new (bel_new (bel_new (bel_new (bel_new (bel_new K5 _ _ y6_low _) _ _ y6_low _) _ _ y6_low _) _ _ y6_low _) _ _ y6_low _) _ _ y6_low _) ((((((B0_5.new w4.heap.size 0 (Nat.ne_of_lt y6_B0) (.int .i64 (x 0))).new w4.heap.size 1 (Nat.ne_of_lt y6_B0) (.int .i64 (x 1))).new w4.heap.size 2 (Nat.ne_of_lt y6_B0) (.int .i64 (x 2))).new w4.heap.size 3 (Nat.ne_of_lt y6_B0) (.int .i64 (x 3))).new w4.heap.size 4 (Nat.ne_of_lt y6_B0) (.int .i64 (x 4))).new w4.heap.size 5 (Nat.ne_of_lt y6_B0) (.int .i64 (x 5))) ((((((B1_5.new w4.heap.size 0 (Nat.ne_of_lt y6_B1) (.int .i64 (x 0))).new w4.heap.size 1 (Nat.ne_of_lt y6_B1) (.int .i64 (x 1))).new w4.heap.size 2 (Nat.ne_of_lt y6_B1) (.int .i64 (x 2))).new w4.heap.size 3 (Nat.ne_of_lt y6_B1) (.int .i64 (x 3))).new w4.heap.size 4 (Nat.ne_of_lt y6_B1) (.int .i64 (x 4))).new w4.heap.size 5 (Nat.ne_of_lt y6_B1) (.int .i64 (x 5))) ((((((f5.new w4.heap.size 0 (Nat.ne_of_lt y6_B2) (.int .i64 (x 0))).new w4.heap.size 1 (Nat.ne_of_lt y6_B2) (.int .i64 (x 1))).new w4.heap.size 2 (Nat.ne_of_lt y6_B2) (.int .i64 (x 2))).new w4.heap.size 3 (Nat.ne_of_lt y6_B2) (.int .i64 (x 3))).new w4.heap.size 4 (Nat.ne_of_lt y6_B2) (.int .i64 (x 4))).new w4.heap.size 5 (Nat.ne_of_lt y6_B2) (.int .i64 (x 5))) ((((((B3_5.put 0 (of_decide_eq_true rfl) (.int .i64 (x 0)) [.int .i64 (x 0), .int .i64 0, .int .i64 0, .int .i64 0, .int .i64 0, .int .i64 0] rfl).put 1 (of_decide_eq_true rfl) (.int .i64 (x 1)) [.int .i64 (x 0), .int .i64 (x 1), .int .i64 0, .int .i64 0, .int .i64 0, .int .i64 0] rfl).put 2 (of_decide_eq_true rfl) (.int .i64 (x 2)) [.int .i64 (x 0), .int .i64 (x 1), .int .i64 (x 2), .int .i64 0, .int .i64 0, .int .i64 0] rfl).put 3 (of_decide_eq_true rfl) (.int .i64 (x 3)) [.int .i64 (x 0), .int .i64 (x 1), .int .i64 (x 2), .int .i64 (x 3), .int .i64 0, .int .i64 0] rfl).put 4 (of_decide_eq_true rfl) (.int .i64 (x 4)) [.int .i64 (x 0), .int .i64 (x 1), .int .i64 (x 2), .int .i64 (x 3), .int .i64 (x 4), .int .i64 0] rfl).put 5 (of_decide_eq_true rfl) (.int .i64 (x 5)) [.int .i64 (x 0), .int .i64 (x 1), .int .i64 (x 2), .int .i64 (x 3), .int .i64 (x 4), .int .i64 (x 5)] rfl) y6_low y6_B0 y6_B1 y6_B2
      · have y7_B0 : w.heap.size < Wl1.heap.size + 1 := (Nat.lt_succ_of_lt B0_l1.lies)
        have y7_B1 : w.heap.size + 1 < Wl1.heap.size + 1 := (Nat.lt_succ_of_lt B1_l1.lies)
        have y7_B2 : Wl1.heap.size < Wl1.heap.size + 1 := (Nat.lt_succ_self _)
        have y7_low : w.heap.size ≤ Wl1.heap.size + 1 := (Nat.le_succ_of_le Kl1.size)
        go_simp
        clear hHeld
        refine hK.out _ _ ⟨((B0_l1.alloc _).alloc _).drew, ((B1_l1.alloc _).alloc _).drew⟩ (fun hHeld => ?_)
        clear hK K
        refine call_at (i := 4) (by kernel_rfl) rfl (fun K hK => ?_)
        go_simp
        refine (aRoot_any Wl1.heap.size false m (n : Int) _ ((Fl_at _ _ _ _ (by simp)).alloc _).drew).mono ?_
        rintro e w4 ⟨rfl, f4, k4⟩
        rw [e1.out] at f4 ⊢
        dsimp only at f4 ⊢
        have K4 : Below w.heap.size w w4 := k4.on (Below.drew (bel_al (bel_al Kl1 _) _)) (by omega)
        have B0_4 : Arr w.heap.size (row 36 m) w4 := ((B0_l1.alloc _).alloc _).drew.kept k4 (Nat.ne_of_lt y3_B0)
        have B1_4 : Arr (w.heap.size + 1) (row 6 p) w4 := ((B1_l1.alloc _).alloc _).drew.kept k4 (Nat.ne_of_lt y3_B1)
        have B3_4 : Arr (Wl1.heap.size + 1) [.int .i64 0, .int .i64 0, .int .i64 0, .int .i64 0, .int .i64 0, .int .i64 0] w4 := (Arr_at _ _ [.int .i64 0, .int .i64 0, .int .i64 0, .int .i64 0, .int .i64 0, .int .i64 0] _ (by simp)).drew.kept k4 (Nat.ne_of_gt y7_B2)
        have z4 := B3_4.lies
        clear hHeld
        refine hK.out _ _ ⟨B0_4, B1_4⟩ (fun hHeld => ?_)
        clear hK K B0_l1 B1_l1 k4
        refine call_at (i := 7) (by kernel_rfl) rfl (fun K hK => ?_)
        go_simp
        refine (aSolve_any Wl1.heap.size false g p (n : Int) _ f4).mono ?_
        rintro e w5 ⟨rfl, f5, k5⟩
        rw [e2.out] at f5 ⊢
        dsimp only at f5 ⊢
        have K5 : Below w.heap.size w w5 := k5.on K4 (by omega)
        have B0_5 : Arr w.heap.size (row 36 m) w5 := B0_4.kept k5 (Nat.ne_of_lt y3_B0)
        have B1_5 : Arr (w.heap.size + 1) (row 6 p) w5 := B1_4.kept k5 (Nat.ne_of_lt y3_B1)
        have B3_5 : Arr (Wl1.heap.size + 1) [.int .i64 0, .int .i64 0, .int .i64 0, .int .i64 0, .int .i64 0, .int .i64 0] w5 := B3_4.kept k5 (Nat.ne_of_gt y7_B2)
        have z5 := B3_5.lies
        clear hHeld
        refine hK.out _ _ ⟨B0_5, B1_5⟩ (fun hHeld => ?_)
        clear hK K K4 B0_4 B1_4 f4 B3_4 k5
        refine call_at (i := 9) (by kernel_rfl) rfl (fun K hK => ?_)
        have c6_B3_0 : w5.cell? ⟨Wl1.heap.size + 1, 0, none⟩ = some (.int .i64 0) := B3_5.c 0 (of_decide_eq_true rfl)
        have c6_B3_1 : w5.cell? ⟨Wl1.heap.size + 1, 1, none⟩ = some (.int .i64 0) := B3_5.c 1 (of_decide_eq_true rfl)
        have c6_B3_2 : w5.cell? ⟨Wl1.heap.size + 1, 2, none⟩ = some (.int .i64 0) := B3_5.c 2 (of_decide_eq_true rfl)
        have c6_B3_3 : w5.cell? ⟨Wl1.heap.size + 1, 3, none⟩ = some (.int .i64 0) := B3_5.c 3 (of_decide_eq_true rfl)
        have c6_B3_4 : w5.cell? ⟨Wl1.heap.size + 1, 4, none⟩ = some (.int .i64 0) := B3_5.c 4 (of_decide_eq_true rfl)
        have c6_B3_5 : w5.cell? ⟨Wl1.heap.size + 1, 5, none⟩ = some (.int .i64 0) := B3_5.c 5 (of_decide_eq_true rfl)
        have g6_B3_0 := B3_5.f 0 (of_decide_eq_true rfl)
        have g6_B3_1 := B3_5.f 1 (of_decide_eq_true rfl)
        have g6_B3_2 := B3_5.f 2 (of_decide_eq_true rfl)
        have g6_B3_3 := B3_5.f 3 (of_decide_eq_true rfl)
        have g6_B3_4 := B3_5.f 4 (of_decide_eq_true rfl)
        have g6_B3_5 := B3_5.f 5 (of_decide_eq_true rfl)
        have hrow : (row 6 x).toArray = #[.int .i64 (x 0), .int .i64 (x 1), .int .i64 (x 2), .int .i64 (x 3), .int .i64 (x 4), .int .i64 (x 5)] := rfl
        go_simp
        clear hHeld
        refine hK.out _ _ ⟨((((((B0_5.new (Wl1.heap.size + 1) 0 (Nat.ne_of_lt y7_B0) (.int .i64 (x 0))).new (Wl1.heap.size + 1) 1 (Nat.ne_of_lt y7_B0) (.int .i64 (x 1))).new (Wl1.heap.size + 1) 2 (Nat.ne_of_lt y7_B0) (.int .i64 (x 2))).new (Wl1.heap.size + 1) 3 (Nat.ne_of_lt y7_B0) (.int .i64 (x 3))).new (Wl1.heap.size + 1) 4 (Nat.ne_of_lt y7_B0) (.int .i64 (x 4))).new (Wl1.heap.size + 1) 5 (Nat.ne_of_lt y7_B0) (.int .i64 (x 5))), ((((((B1_5.new (Wl1.heap.size + 1) 0 (Nat.ne_of_lt y7_B1) (.int .i64 (x 0))).new (Wl1.heap.size + 1) 1 (Nat.ne_of_lt y7_B1) (.int .i64 (x 1))).new (Wl1.heap.size + 1) 2 (Nat.ne_of_lt y7_B1) (.int .i64 (x 2))).new (Wl1.heap.size + 1) 3 (Nat.ne_of_lt y7_B1) (.int .i64 (x 3))).new (Wl1.heap.size + 1) 4 (Nat.ne_of_lt y7_B1) (.int .i64 (x 4))).new (Wl1.heap.size + 1) 5 (Nat.ne_of_lt y7_B1) (.int .i64 (x 5)))⟩ (fun hHeld => ?_)
        clear hK K c6_B3_0 c6_B3_1 c6_B3_2 c6_B3_3 c6_B3_4 c6_B3_5 g6_B3_0 g6_B3_1 g6_B3_2 g6_B3_3 g6_B3_4 g6_B3_5 hrow
        refine wpAnyH_done (by kernel_rfl) ?_ _
        clear hHeld
        refine put_cont hKK1 ?_
        exact cont1 _ _ _ _ _ _ _ _ _ _ _ _ _ _ _ _ _ _ _ _ _ _ _ _ _ _ _ _ _ _ _ _ _ _ _ _ _ _ _ _ _ _ _ _ _ _ _ _ _ _ _ _ _ _ _ _ _ _ _ _ _ _ _ _ _ (Wl1.heap.size + 1) (bel_new (bel_new (bel_new (bel_new (bel_new (bel_new K5 _ _ y7_low _) _ _ y7_low _) _ _ y7_low _) _ _ y7_low _) _ _ y7_low _) _ _ y7_low _) ((((((B0_5.new (Wl1.heap.size + 1) 0 (Nat.ne_of_lt y7_B0) (.int .i64 (x 0))).new (Wl1.heap.size + 1) 1 (Nat.ne_of_lt y7_B0) (.int .i64 (x 1))).new (Wl1.heap.size + 1) 2 (Nat.ne_of_lt y7_B0) (.int .i64 (x 2))).new (Wl1.heap.size + 1) 3 (Nat.ne_of_lt y7_B0) (.int .i64 (x 3))).new (Wl1.heap.size + 1) 4 (Nat.ne_of_lt y7_B0) (.int .i64 (x 4))).new (Wl1.heap.size + 1) 5 (Nat.ne_of_lt y7_B0) (.int .i64 (x 5))) ((((((B1_5.new (Wl1.heap.size + 1) 0 (Nat.ne_of_lt y7_B1) (.int .i64 (x 0))).new (Wl1.heap.size + 1) 1 (Nat.ne_of_lt y7_B1) (.int .i64 (x 1))).new (Wl1.heap.size + 1) 2 (Nat.ne_of_lt y7_B1) (.int .i64 (x 2))).new (Wl1.heap.size + 1) 3 (Nat.ne_of_lt y7_B1) (.int .i64 (x 3))).new (Wl1.heap.size + 1) 4 (Nat.ne_of_lt y7_B1) (.int .i64 (x 4))).new (Wl1.heap.size + 1) 5 (Nat.ne_of_lt y7_B1) (.int .i64 (x 5))) ((((((f5.new (Wl1.heap.size + 1) 0 (Nat.ne_of_lt y7_B2) (.int .i64 (x 0))).new (Wl1.heap.size + 1) 1 (Nat.ne_of_lt y7_B2) (.int .i64 (x 1))).new (Wl1.heap.size + 1) 2 (Nat.ne_of_lt y7_B2) (.int .i64 (x 2))).new (Wl1.heap.size + 1) 3 (Nat.ne_of_lt y7_B2) (.int .i64 (x 3))).new (Wl1.heap.size + 1) 4 (Nat.ne_of_lt y7_B2) (.int .i64 (x 4))).new (Wl1.heap.size + 1) 5 (Nat.ne_of_lt y7_B2) (.int .i64 (x 5))) ((((((B3_5.put 0 (of_decide_eq_true rfl) (.int .i64 (x 0)) [.int .i64 (x 0), .int .i64 0, .int .i64 0, .int .i64 0, .int .i64 0, .int .i64 0] rfl).put 1 (of_decide_eq_true rfl) (.int .i64 (x 1)) [.int .i64 (x 0), .int .i64 (x 1), .int .i64 0, .int .i64 0, .int .i64 0, .int .i64 0] rfl).put 2 (of_decide_eq_true rfl) (.int .i64 (x 2)) [.int .i64 (x 0), .int .i64 (x 1), .int .i64 (x 2), .int .i64 0, .int .i64 0, .int .i64 0] rfl).put 3 (of_decide_eq_true rfl) (.int .i64 (x 3)) [.int .i64 (x 0), .int .i64 (x 1), .int .i64 (x 2), .int .i64 (x 3), .int .i64 0, .int .i64 0] rfl).put 4 (of_decide_eq_true rfl) (.int .i64 (x 4)) [.int .i64 (x 0), .int .i64 (x 1), .int .i64 (x 2), .int .i64 (x 3), .int .i64 (x 4), .int .i64 0] rfl).put 5 (of_decide_eq_true rfl) (.int .i64 (x 5)) [.int .i64 (x 0), .int .i64 (x 1), .int .i64 (x 2), .int .i64 (x 3), .int .i64 (x 4), .int .i64 (x 5)] rfl) y7_low y7_B0 y7_B1 y7_B2
  · have Hhc1 : Hid (r2 = false) := hc1
    go_wp2
    go_ret
    exact ⟨rfl, K2⟩
theorem MatSolved_any (m p : Nat → Int) (n : Int) (w : World) :
    Calls Try.prog 7 #[.agg (row 36 m).toArray, .agg (row 6 p).toArray, .int .i64 n] w fun e w' => e = .returned (.bool true) ∧ Below w.heap.size w w' := by
  by_cases h : n < 1
  · exact MatSolved_lo m p n w h
  by_cases k : n > 6
  · exact MatSolved_hi m p n w h k
  obtain ⟨c, rfl⟩ := Int.eq_ofNat_of_zero_le (show 0 ≤ n by omega)
  exact MatSolved_in m p c w (by omega) (by omega)
end Go.Proofs.Ytcnbcdnjogopdaa
