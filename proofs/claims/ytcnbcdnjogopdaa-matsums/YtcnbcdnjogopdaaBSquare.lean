/-
  Walks of package alidaderef06, for the seat Ytcnbcdnjogopdaa. (Made by mkref06.py.)
-/
import Derived.Test.YtcnbcdnjogopdaaBLeaf
import Derived.Handy
import Derived.Deep.RegionHeld3
namespace Go.Proofs.Ytcnbcdnjogopdaa
open Go.RowKit

set_option maxRecDepth 100000 in
set_option maxHeartbeats 2000000 in
theorem zSquare_any (b : Nat) (bad : Bool) (l : Nat → Int) (n : Nat) (w : World) (hw : Fl b bad w) (hb : Hid (bad = false)) (h1 : 1 ≤ n) (h6 : n ≤ 6) :
    Calls Try.prog 15 #[.pointer (some ⟨b, 0, none⟩), .agg (row 36 l).toArray, .int .i64 (n : Int)] w fun e w' => e = .returned (.agg (row 36 ((zSquareS bad l n).1)).toArray) ∧ Fl b (zSquareS bad l n).2 w' ∧ Kept b w w' := by
  have hl := hw.lies
  go_enter Try.func15, Try.ntmps15
  have y1_BF : b < w.heap.size := hw.lies
  have y2_BF : b < w.heap.size + 1 := (Nat.lt_succ_of_lt hw.lies)
  have y2_B0 : w.heap.size < w.heap.size + 1 := (Nat.lt_succ_self _)
  have y3_BF : b < w.heap.size + 1 + 1 := (Nat.lt_succ_of_lt (Nat.lt_succ_of_lt hw.lies))
  have y3_B0 : w.heap.size < w.heap.size + 1 + 1 := (Nat.lt_succ_of_lt (Nat.lt_succ_self _))
  have y3_B1 : w.heap.size + 1 < w.heap.size + 1 + 1 := (Nat.lt_succ_self _)
  go_wp2_with (refine store_stop rfl (by kernel_rfl) ?_)
  refine Stop.mk (store_row (l' := row 36 (fun _ => 0)) rfl rfl rfl rfl (Arr_at _ _ (row 36 (fun _ => 0)) _ (by simp)) (by simp only [row_len]) (by rw [row_len]; kernel_rfl) (row_one _ _) ?_)
  intro w1 B2_1 o1
  have K1 : Kept b w w1 := Kept.off ((((Kept.refl b w).al _).al _).al _) o1 (by omega)
  have BF_1 : Fl b bad w1 := (((hw.alloc _).alloc _).alloc _).off o1 (Nat.ne_of_lt y3_BF)
  have B0_1 : Arr w.heap.size (row 36 l) w1 := (((Arr_at _ _ (row 36 l) _ (by simp)).alloc _).alloc _).off o1 (Nat.ne_of_lt y3_B0)
  have B1_1 : Arr (w.heap.size + 1) (row 36 (fun _ => 0)) w1 := ((Arr_at _ _ (row 36 (fun _ => 0)) _ (by simp)).alloc _).off o1 (Nat.ne_of_lt y3_B1)
  have z1_B2 := B2_1.lies
  have z1_BF := BF_1.lies
  have z1_B0 := B0_1.lies
  have z1_B1 := B1_1.lies
  clear o1
  go_wp2_with fail
  refine (zsize_any b bad (n : Int) _ BF_1).mono ?_
  rintro e w2 ⟨rfl, f2, k2⟩
  rw [(size_in hb h1 h6)] at f2 ⊢
  dsimp only at f2 ⊢
  have K2 : Kept b w w2 := Kept.trans K1 k2
  have B0_2 : Arr w.heap.size (row 36 l) w2 := B0_1.kept k2 (Nat.ne_of_gt y1_BF)
  have B1_2 : Arr (w.heap.size + 1) (row 36 (fun _ => 0)) w2 := B1_1.kept k2 (Nat.ne_of_gt y2_BF)
  have B2_2 : Arr (w.heap.size + 1 + 1) (row 36 (fun _ => 0)) w2 := B2_1.kept k2 (Nat.ne_of_gt y3_BF)
  have z2 := B2_2.lies
  clear K1 BF_1 B0_1 B1_1 B2_1 k2
  go_wp2_with fail
  obtain ⟨J0, hJ0⟩ : ∃ J : Nat → Act → World → Prop, Hid (J = fun i a Wl0 => ∃ (s0 : (Nat → Int) × Bool) (t0_1 t0_3 t0_5 t0_9 t0_10 t0_11 t0_12 t0_13 t0_14 t0_15 t0_16 t0_17 t0_18 t0_19 t0_20 t0_21 t0_22 t0_23 t0_24 t0_25 t0_26 t0_27 t0_28 t0_29 t0_30 t0_31 t0_32 t0_33 t0_34 t0_35 t0_36 t0_37 t0_38 t0_39 t0_40 t0_41 t0_42 t0_43 t0_44 t0_45 t0_46 t0_47 t0_48 t0_49 t0_50 t0_51 t0_52 t0_53 t0_54 t0_55 t0_56 t0_57 t0_58 : Value), Hid (zSquareS_l0 l n ((fun _ => 0), bad) i = s0) ∧ a = { tmps := #[.pointer (some ⟨b, 0, none⟩), t0_1, .int .i64 (n : Int), t0_3, .pointer (some ⟨w.heap.size, 0, none⟩), t0_5, .pointer (some ⟨w.heap.size + 1, 0, none⟩), .pointer (some ⟨w.heap.size + 1 + 1, 0, none⟩), .int .i64 (i : Int), t0_9, t0_10, t0_11, t0_12, t0_13, t0_14, t0_15, t0_16, t0_17, t0_18, t0_19, t0_20, t0_21, t0_22, t0_23, t0_24, t0_25, t0_26, t0_27, t0_28, t0_29, t0_30, t0_31, t0_32, t0_33, t0_34, t0_35, t0_36, t0_37, t0_38, t0_39, t0_40, t0_41, t0_42, t0_43, t0_44, t0_45, t0_46, t0_47, t0_48, t0_49, t0_50, t0_51, t0_52, t0_53, t0_54, t0_55, t0_56, t0_57, t0_58], defers := [] } ∧ Kept b w Wl0 ∧ Fl b s0.2 Wl0 ∧ Arr w.heap.size (row 36 l) Wl0 ∧ Arr (w.heap.size + 1) (row 36 (fun _ => 0)) Wl0 ∧ Arr (w.heap.size + 1 + 1) (row 36 s0.1) Wl0) := ⟨_, rfl⟩
  refine rounds_up J0 n ?_ ?_ ?_
  · rw [hJ0.out]
    exact ⟨((fun _ => 0), bad), _, _, _, _, _, _, _, _, _, _, _, _, _, _, _, _, _, _, _, _, _, _, _, _, _, _, _, _, _, _, _, _, _, _, _, _, _, _, _, _, _, _, _, _, _, _, _, _, _, _, _, _, _, rfl, rfl, K2, f2, B0_2, B1_2, B2_2⟩
  · intro i a Wl0 hi hI R hR
    rw [hJ0.out] at hI
    obtain ⟨s0, t0_1, t0_3, t0_5, t0_9, t0_10, t0_11, t0_12, t0_13, t0_14, t0_15, t0_16, t0_17, t0_18, t0_19, t0_20, t0_21, t0_22, t0_23, t0_24, t0_25, t0_26, t0_27, t0_28, t0_29, t0_30, t0_31, t0_32, t0_33, t0_34, t0_35, t0_36, t0_37, t0_38, t0_39, t0_40, t0_41, t0_42, t0_43, t0_44, t0_45, t0_46, t0_47, t0_48, t0_49, t0_50, t0_51, t0_52, t0_53, t0_54, t0_55, t0_56, t0_57, t0_58, El0, rfl, Kl0, BF_l0, B0_l0, B1_l0, B2_l0⟩ := hI
    have zl0_BF := BF_l0.lies
    have zl0_B0 := B0_l0.lies
    have zl0_B1 := B1_l0.lies
    have zl0_B2 := B2_l0.lies
    go_wp2_with fail
    obtain ⟨J1, hJ1⟩ : ∃ J : Nat → Act → World → Prop, Hid (J = fun j a Wl1 => ∃ (s1 : (Nat → Int) × Bool) (t1_1 t1_3 t1_5 t1_10 t1_11 t1_12 t1_13 t1_14 t1_15 t1_16 t1_17 t1_18 t1_19 t1_20 t1_21 t1_22 t1_23 t1_24 t1_25 t1_26 t1_27 t1_28 t1_29 t1_30 t1_31 t1_32 t1_33 t1_34 t1_35 t1_36 t1_37 t1_38 t1_39 t1_40 t1_41 t1_42 t1_43 t1_44 t1_45 t1_46 t1_47 t1_48 t1_49 t1_50 t1_51 t1_52 t1_53 t1_54 t1_55 t1_56 t1_57 t1_58 : Value), Hid (zSquareS_l1 l n i (s0.1, s0.2) j = s1) ∧ a = { tmps := #[.pointer (some ⟨b, 0, none⟩), t1_1, .int .i64 (n : Int), t1_3, .pointer (some ⟨w.heap.size, 0, none⟩), t1_5, .pointer (some ⟨w.heap.size + 1, 0, none⟩), .pointer (some ⟨w.heap.size + 1 + 1, 0, none⟩), .int .i64 (i : Int), .int .i64 (j : Int), t1_10, t1_11, t1_12, t1_13, t1_14, t1_15, t1_16, t1_17, t1_18, t1_19, t1_20, t1_21, t1_22, t1_23, t1_24, t1_25, t1_26, t1_27, t1_28, t1_29, t1_30, t1_31, t1_32, t1_33, t1_34, t1_35, t1_36, t1_37, t1_38, t1_39, t1_40, t1_41, t1_42, t1_43, t1_44, t1_45, t1_46, t1_47, t1_48, t1_49, t1_50, t1_51, t1_52, t1_53, t1_54, t1_55, t1_56, t1_57, t1_58], defers := [] } ∧ Kept b w Wl1 ∧ Fl b s1.2 Wl1 ∧ Arr w.heap.size (row 36 l) Wl1 ∧ Arr (w.heap.size + 1) (row 36 (fun _ => 0)) Wl1 ∧ Arr (w.heap.size + 1 + 1) (row 36 s1.1) Wl1) := ⟨_, rfl⟩
    refine rounds_up J1 n ?_ ?_ ?_
    · rw [hJ1.out]
      exact ⟨(s0.1, s0.2), _, _, _, _, _, _, _, _, _, _, _, _, _, _, _, _, _, _, _, _, _, _, _, _, _, _, _, _, _, _, _, _, _, _, _, _, _, _, _, _, _, _, _, _, _, _, _, _, _, _, _, _, rfl, rfl, Kl0, BF_l0, B0_l0, B1_l0, B2_l0⟩
    · intro j a Wl1 hj hI R hR
      rw [hJ1.out] at hI
      obtain ⟨s1, t1_1, t1_3, t1_5, t1_10, t1_11, t1_12, t1_13, t1_14, t1_15, t1_16, t1_17, t1_18, t1_19, t1_20, t1_21, t1_22, t1_23, t1_24, t1_25, t1_26, t1_27, t1_28, t1_29, t1_30, t1_31, t1_32, t1_33, t1_34, t1_35, t1_36, t1_37, t1_38, t1_39, t1_40, t1_41, t1_42, t1_43, t1_44, t1_45, t1_46, t1_47, t1_48, t1_49, t1_50, t1_51, t1_52, t1_53, t1_54, t1_55, t1_56, t1_57, t1_58, El1, rfl, Kl1, BF_l1, B0_l1, B1_l1, B2_l1⟩ := hI
      have zl1_BF := BF_l1.lies
      have zl1_B0 := B0_l1.lies
      have zl1_B1 := B1_l1.lies
      have zl1_B2 := B2_l1.lies
      go_wp2_with fail
      obtain ⟨J2, hJ2⟩ : ∃ J : Nat → Act → World → Prop, Hid (J = fun k a Wl2 => ∃ (s2 : Int × Bool) (t2_1 t2_3 t2_5 t2_12 t2_13 t2_14 t2_15 t2_16 t2_17 t2_18 t2_19 t2_20 t2_21 t2_22 t2_23 t2_24 t2_25 t2_26 t2_27 t2_28 t2_29 t2_30 t2_31 t2_32 t2_33 t2_34 t2_35 t2_36 t2_37 t2_38 t2_39 t2_40 t2_41 t2_42 t2_43 t2_44 t2_45 t2_46 t2_47 t2_48 t2_49 t2_50 t2_51 t2_52 t2_53 t2_54 t2_55 t2_56 t2_57 t2_58 : Value), Hid (zSquareS_l2 l i j (0, s1.2) k = s2) ∧ a = { tmps := #[.pointer (some ⟨b, 0, none⟩), t2_1, .int .i64 (n : Int), t2_3, .pointer (some ⟨w.heap.size, 0, none⟩), t2_5, .pointer (some ⟨w.heap.size + 1, 0, none⟩), .pointer (some ⟨w.heap.size + 1 + 1, 0, none⟩), .int .i64 (i : Int), .int .i64 (j : Int), .int .i64 s2.1, .int .i64 (k : Int), t2_12, t2_13, t2_14, t2_15, t2_16, t2_17, t2_18, t2_19, t2_20, t2_21, t2_22, t2_23, t2_24, t2_25, t2_26, t2_27, t2_28, t2_29, t2_30, t2_31, t2_32, t2_33, t2_34, t2_35, t2_36, t2_37, t2_38, t2_39, t2_40, t2_41, t2_42, t2_43, t2_44, t2_45, t2_46, t2_47, t2_48, t2_49, t2_50, t2_51, t2_52, t2_53, t2_54, t2_55, t2_56, t2_57, t2_58], defers := [] } ∧ Kept b w Wl2 ∧ Fl b s2.2 Wl2 ∧ Arr w.heap.size (row 36 l) Wl2 ∧ Arr (w.heap.size + 1) (row 36 (fun _ => 0)) Wl2 ∧ Arr (w.heap.size + 1 + 1) (row 36 s1.1) Wl2) := ⟨_, rfl⟩
      refine rounds_up J2 n ?_ ?_ ?_
      · rw [hJ2.out]
        exact ⟨(0, s1.2), _, _, _, _, _, _, _, _, _, _, _, _, _, _, _, _, _, _, _, _, _, _, _, _, _, _, _, _, _, _, _, _, _, _, _, _, _, _, _, _, _, _, _, _, _, _, _, _, _, _, rfl, rfl, Kl1, BF_l1, B0_l1, B1_l1, B2_l1⟩
      · intro k a Wl2 hk hI R hR
        rw [hJ2.out] at hI
        obtain ⟨s2, t2_1, t2_3, t2_5, t2_12, t2_13, t2_14, t2_15, t2_16, t2_17, t2_18, t2_19, t2_20, t2_21, t2_22, t2_23, t2_24, t2_25, t2_26, t2_27, t2_28, t2_29, t2_30, t2_31, t2_32, t2_33, t2_34, t2_35, t2_36, t2_37, t2_38, t2_39, t2_40, t2_41, t2_42, t2_43, t2_44, t2_45, t2_46, t2_47, t2_48, t2_49, t2_50, t2_51, t2_52, t2_53, t2_54, t2_55, t2_56, t2_57, t2_58, El2, rfl, Kl2, BF_l2, B0_l2, B1_l2, B2_l2⟩ := hI
        have zl2_BF := BF_l2.lies
        have zl2_B0 := B0_l2.lies
        have zl2_B1 := B1_l2.lies
        have zl2_B2 := B2_l2.lies
        go_wp2_with fail
        refine wp_region_held_drew (S := fun w' => Arr w.heap.size (row 36 l) w') (by kernel_rfl) B0_l2.drew (fun hHeld => ?_)
        refine take_at (i := 0) (v := ?v365) rfl (by kernel_rfl) (by kernel_rfl) (by kernel_rfl) (fun _ _ _ h => h) (Or.inl ⟨by rfl, ?y365⟩) hHeld ?t365
        case y365 => (intro wx hSw; go_simp <;> with_reducible rfl)
        simp only [Act.put, List.setIfInBounds_toArray, List.set_cons_zero, List.set_cons_succ]
        refine take_at (i := 1) (v := ?v366) rfl (by kernel_rfl) (by kernel_rfl) (by kernel_rfl) (fun _ _ _ h => h) (Or.inl ⟨by rfl, ?y366⟩) hHeld ?t366
        case y366 => (intro wx hSw; go_simp <;> with_reducible rfl)
        simp only [Act.put, List.setIfInBounds_toArray, List.set_cons_zero, List.set_cons_succ]
        refine take_at (i := 2) (v := ?v367) rfl (by kernel_rfl) (by kernel_rfl) (by kernel_rfl) (fun _ _ _ h => h) (Or.inl ⟨by rfl, ?y367⟩) hHeld ?t367
        case y367 => (intro wx hSw; go_simp <;> with_reducible rfl)
        simp only [Act.put, List.setIfInBounds_toArray, List.set_cons_zero, List.set_cons_succ]
        refine take_at (i := 3) (v := ?v368) rfl (by kernel_rfl) (by kernel_rfl) (by kernel_rfl) (fun _ _ _ h => h) (Or.inl ⟨by rfl, ?y368⟩) hHeld ?t368
        case y368 => (intro wx hSw; go_simp <;> with_reducible rfl)
        simp only [Act.put, List.setIfInBounds_toArray, List.set_cons_zero, List.set_cons_succ]
        refine take_at (i := 4) (v := ?v369) rfl (by kernel_rfl) (by kernel_rfl) (by kernel_rfl) (fun _ _ _ h => h) (Or.inl ⟨by rfl, ?y369⟩) hHeld ?t369
        case y369 => (intro wx hSw; go_simp <;> with_reducible rfl)
        simp only [Act.put, List.setIfInBounds_toArray, List.set_cons_zero, List.set_cons_succ]
        refine take_at (i := 5) (v := ?v370) rfl (by kernel_rfl) (by kernel_rfl) (by kernel_rfl) (fun _ _ _ h => h) (Or.inl ⟨by rfl, ?y370⟩) hHeld ?t370
        case y370 => (intro wx hSw; have hi0 : (i : Int) < 6 := (by omega); go_simp <;> with_reducible rfl)
        simp only [Act.put, List.setIfInBounds_toArray, List.set_cons_zero, List.set_cons_succ]
        refine take_at (i := 6) (v := ?v371) rfl (by kernel_rfl) (by kernel_rfl) (by kernel_rfl) (fun _ _ _ h => h) (Or.inl ⟨by rfl, ?y371⟩) hHeld ?t371
        case y371 => (intro wx hSw; have hi0 : (k : Int) < 6 := (by omega); go_simp <;> with_reducible rfl)
        simp only [Act.put, List.setIfInBounds_toArray, List.set_cons_zero, List.set_cons_succ]
        refine take_at (i := 7) (v := ?v372) rfl (by kernel_rfl) (by kernel_rfl) (by kernel_rfl) (fun _ _ _ h => h) (Or.inl ⟨by rfl, ?y372⟩) hHeld ?t372
        case y372 => (intro wx hSw; have hc0 : wx.cell? ⟨w.heap.size, i * 6 + k, none⟩ = some (.int .i64 (l (i * 6 + k))) := row_c hSw (i * 6 + k) (by omega); go_simp <;> with_reducible rfl)
        simp only [Act.put, List.setIfInBounds_toArray, List.set_cons_zero, List.set_cons_succ]
        refine take_at (i := 8) (v := ?v373) rfl (by kernel_rfl) (by kernel_rfl) (by kernel_rfl) (fun _ _ _ h => h) (Or.inl ⟨by rfl, ?y373⟩) hHeld ?t373
        case y373 => (intro wx hSw; go_simp <;> with_reducible rfl)
        simp only [Act.put, List.setIfInBounds_toArray, List.set_cons_zero, List.set_cons_succ]
        refine take_at (i := 9) (v := ?v374) rfl (by kernel_rfl) (by kernel_rfl) (by kernel_rfl) (fun _ _ _ h => h) (Or.inl ⟨by rfl, ?y374⟩) hHeld ?t374
        case y374 => (intro wx hSw; go_simp <;> with_reducible rfl)
        simp only [Act.put, List.setIfInBounds_toArray, List.set_cons_zero, List.set_cons_succ]
        refine take_at (i := 10) (v := ?v375) rfl (by kernel_rfl) (by kernel_rfl) (by kernel_rfl) (fun _ _ _ h => h) (Or.inl ⟨by rfl, ?y375⟩) hHeld ?t375
        case y375 => (intro wx hSw; have hi0 : (j : Int) < 6 := (by omega); go_simp <;> with_reducible rfl)
        simp only [Act.put, List.setIfInBounds_toArray, List.set_cons_zero, List.set_cons_succ]
        refine take_at (i := 11) (v := ?v376) rfl (by kernel_rfl) (by kernel_rfl) (by kernel_rfl) (fun _ _ _ h => h) (Or.inl ⟨by rfl, ?y376⟩) hHeld ?t376
        case y376 => (intro wx hSw; have hi0 : (k : Int) < 6 := (by omega); go_simp <;> with_reducible rfl)
        simp only [Act.put, List.setIfInBounds_toArray, List.set_cons_zero, List.set_cons_succ]
        refine take_at (i := 12) (v := ?v377) rfl (by kernel_rfl) (by kernel_rfl) (by kernel_rfl) (fun _ _ _ h => h) (Or.inl ⟨by rfl, ?y377⟩) hHeld ?t377
        case y377 => (intro wx hSw; have hc0 : wx.cell? ⟨w.heap.size, j * 6 + k, none⟩ = some (.int .i64 (l (j * 6 + k))) := row_c hSw (j * 6 + k) (by omega); go_simp <;> with_reducible rfl)
        simp only [Act.put, List.setIfInBounds_toArray, List.set_cons_zero, List.set_cons_succ]
        refine call_at (i := 13) (by kernel_rfl) rfl (fun K hK => ?_)
        go_simp
        refine (rMul_any b s2.2 (l (i * 6 + k)) (l (j * 6 + k)) _ BF_l2.drew).mono ?_
        rintro e w3 ⟨rfl, f3, k3⟩
        generalize e3 : mulS s2.2 (l (i * 6 + k)) (l (j * 6 + k)) = r3 at f3 ⊢
        have E3 : Hid _ := e3
        clear e3
        have K3 : Kept b w w3 := Kept.trans Kl2.drew k3
        have B0_3 : Arr w.heap.size (row 36 l) w3 := B0_l2.drew.kept k3 (Nat.ne_of_gt y1_BF)
        have B1_3 : Arr (w.heap.size + 1) (row 36 (fun _ => 0)) w3 := B1_l2.drew.kept k3 (Nat.ne_of_gt y2_BF)
        have B2_3 : Arr (w.heap.size + 1 + 1) (row 36 s1.1) w3 := B2_l2.drew.kept k3 (Nat.ne_of_gt y3_BF)
        have z3 := B2_3.lies
        clear hHeld
        refine hK.out _ _ B0_3 (fun hHeld => ?_)
        clear hK K BF_l2 B0_l2 B1_l2 B2_l2 k3
        refine call_at (i := 14) (by kernel_rfl) rfl (fun K hK => ?_)
        go_simp
        refine (rAdd_any b r3.2 s2.1 r3.1 _ f3).mono ?_
        rintro e w4 ⟨rfl, f4, k4⟩
        generalize e4 : addS r3.2 s2.1 r3.1 = r4 at f4 ⊢
        have E4 : Hid _ := e4
        clear e4
        have K4 : Kept b w w4 := Kept.trans K3 k4
        have B0_4 : Arr w.heap.size (row 36 l) w4 := B0_3.kept k4 (Nat.ne_of_gt y1_BF)
        have B1_4 : Arr (w.heap.size + 1) (row 36 (fun _ => 0)) w4 := B1_3.kept k4 (Nat.ne_of_gt y2_BF)
        have B2_4 : Arr (w.heap.size + 1 + 1) (row 36 s1.1) w4 := B2_3.kept k4 (Nat.ne_of_gt y3_BF)
        have z4 := B2_4.lies
        clear hHeld
        refine hK.out _ _ B0_4 (fun hHeld => ?_)
        clear hK K K3 f3 B0_3 B1_3 B2_3 k4
        refine take_at (i := 15) (v := ?v378) rfl (by kernel_rfl) (by kernel_rfl) (by kernel_rfl) (fun _ _ _ h => h) (Or.inl ⟨by rfl, ?y378⟩) hHeld ?t378
        case y378 => (intro wx hSw; go_simp <;> with_reducible rfl)
        simp only [Act.put, List.setIfInBounds_toArray, List.set_cons_zero, List.set_cons_succ]
        refine wpAnyH_done (by kernel_rfl) ?_ _
        clear hHeld
        go_wp2_with fail
        have hs2 : Hid (zSquareS_l2 l i j (0, s1.2) (k + 1) = (r4.1, r4.2)) := by show _ = _; unfold zSquareS_l2; simp only [El2.out, E3.out, E4.out]
        rw [hJ2.out]
        exact ⟨(r4.1, r4.2), _, _, _, _, _, _, _, _, _, _, _, _, _, _, _, _, _, _, _, _, _, _, _, _, _, _, _, _, _, _, _, _, _, _, _, _, _, _, _, _, _, _, _, _, _, _, _, _, _, _, hs2, rfl, K4, f4, B0_4, B1_4, B2_4⟩
      · intro a Wl2 hI R
        rw [hJ2.out] at hI
        obtain ⟨r5, t2_1, t2_3, t2_5, t2_12, t2_13, t2_14, t2_15, t2_16, t2_17, t2_18, t2_19, t2_20, t2_21, t2_22, t2_23, t2_24, t2_25, t2_26, t2_27, t2_28, t2_29, t2_30, t2_31, t2_32, t2_33, t2_34, t2_35, t2_36, t2_37, t2_38, t2_39, t2_40, t2_41, t2_42, t2_43, t2_44, t2_45, t2_46, t2_47, t2_48, t2_49, t2_50, t2_51, t2_52, t2_53, t2_54, t2_55, t2_56, t2_57, t2_58, E5, rfl, Kl2, BF_l2, B0_l2, B1_l2, B2_l2⟩ := hI
        clear hJ2
        have zl2_BF := BF_l2.lies
        have zl2_B0 := B0_l2.lies
        have zl2_B1 := B1_l2.lies
        have zl2_B2 := B2_l2.lies
        have c8_B2_0 : Wl2.cell? ⟨w.heap.size + 1 + 1, i * 6 + j, none⟩ = some (.int .i64 (s1.1 (i * 6 + j))) := row_c B2_l2 (i * 6 + j) (by omega)
        have g8_B2_1 := row_f B2_l2 (i * 6 + j) (by omega)
        have i8_2 : (i : Int) < 6 := by omega
        have i8_3 : (j : Int) < 6 := by omega
        go_wp2_with fail
        clear c8_B2_0 g8_B2_1 i8_2 i8_3
        have hs1 : Hid (zSquareS_l1 l n i (s0.1, s0.2) (j + 1) = ((updF s1.1 (i * 6 + j) r5.1), r5.2)) := by show _ = _; unfold zSquareS_l1; simp only [El1.out, E5.out]
        rw [hJ1.out]
        exact ⟨((updF s1.1 (i * 6 + j) r5.1), r5.2), _, _, _, _, _, _, _, _, _, _, _, _, _, _, _, _, _, _, _, _, _, _, _, _, _, _, _, _, _, _, _, _, _, _, _, _, _, _, _, _, _, _, _, _, _, _, _, _, _, _, _, _, hs1, rfl, (Kl2.new _ _ (by omega) _), (BF_l2.new (w.heap.size + 1 + 1) (i * 6 + j) (Nat.ne_of_lt y3_BF) (.int .i64 r5.1)), (B0_l2.new (w.heap.size + 1 + 1) (i * 6 + j) (Nat.ne_of_lt y3_B0) (.int .i64 r5.1)), (B1_l2.new (w.heap.size + 1 + 1) (i * 6 + j) (Nat.ne_of_lt y3_B1) (.int .i64 r5.1)), (row_put B2_l2 (i * 6 + j) (by omega) r5.1)⟩
    · intro a Wl1 hI R
      rw [hJ1.out] at hI
      obtain ⟨r3, t1_1, t1_3, t1_5, t1_10, t1_11, t1_12, t1_13, t1_14, t1_15, t1_16, t1_17, t1_18, t1_19, t1_20, t1_21, t1_22, t1_23, t1_24, t1_25, t1_26, t1_27, t1_28, t1_29, t1_30, t1_31, t1_32, t1_33, t1_34, t1_35, t1_36, t1_37, t1_38, t1_39, t1_40, t1_41, t1_42, t1_43, t1_44, t1_45, t1_46, t1_47, t1_48, t1_49, t1_50, t1_51, t1_52, t1_53, t1_54, t1_55, t1_56, t1_57, t1_58, E3, rfl, Kl1, BF_l1, B0_l1, B1_l1, B2_l1⟩ := hI
      clear hJ1
      have zl1_BF := BF_l1.lies
      have zl1_B0 := B0_l1.lies
      have zl1_B1 := B1_l1.lies
      have zl1_B2 := B2_l1.lies
      go_wp2_with fail
      have hs0 : Hid (zSquareS_l0 l n ((fun _ => 0), bad) (i + 1) = (r3.1, r3.2)) := by show _ = _; unfold zSquareS_l0; simp only [El0.out, E3.out]
      rw [hJ0.out]
      exact ⟨(r3.1, r3.2), _, _, _, _, _, _, _, _, _, _, _, _, _, _, _, _, _, _, _, _, _, _, _, _, _, _, _, _, _, _, _, _, _, _, _, _, _, _, _, _, _, _, _, _, _, _, _, _, _, _, _, _, _, hs0, rfl, Kl1, BF_l1, B0_l1, B1_l1, B2_l1⟩
  · intro a Wl0 hI R
    rw [hJ0.out] at hI
    obtain ⟨r3, t0_1, t0_3, t0_5, t0_9, t0_10, t0_11, t0_12, t0_13, t0_14, t0_15, t0_16, t0_17, t0_18, t0_19, t0_20, t0_21, t0_22, t0_23, t0_24, t0_25, t0_26, t0_27, t0_28, t0_29, t0_30, t0_31, t0_32, t0_33, t0_34, t0_35, t0_36, t0_37, t0_38, t0_39, t0_40, t0_41, t0_42, t0_43, t0_44, t0_45, t0_46, t0_47, t0_48, t0_49, t0_50, t0_51, t0_52, t0_53, t0_54, t0_55, t0_56, t0_57, t0_58, E3, rfl, Kl0, BF_l0, B0_l0, B1_l0, B2_l0⟩ := hI
    clear hJ0
    have zl0_BF := BF_l0.lies
    have zl0_B0 := B0_l0.lies
    have zl0_B1 := B1_l0.lies
    have zl0_B2 := B2_l0.lies
    rcases Bool.eq_false_or_eq_true r3.2 with hc1 | hc1
    · have Hhc1 : Hid (r3.2 = true) := hc1
      have c5_BF := BF_l0.cell
      go_wp2_with (refine store_stop rfl (by kernel_rfl) ?_)
      clear c5_BF
      refine Stop.mk (store_row (l' := row 36 (fun _ => 0)) rfl rfl rfl rfl B1_l0 (by simp only [row_len]) (by rw [row_len]; kernel_rfl) (row_one _ _) ?_)
      intro w4 B1_4 o4
      have K4 : Kept b w w4 := Kept.off Kl0 o4 (by omega)
      have BF_4 : Fl b r3.2 w4 := BF_l0.off o4 (Nat.ne_of_lt y2_BF)
      have B0_4 : Arr w.heap.size (row 36 l) w4 := B0_l0.off o4 (Nat.ne_of_lt y2_B0)
      have B2_4 : Arr (w.heap.size + 1 + 1) (row 36 r3.1) w4 := B2_l0.off o4 (Nat.ne_of_gt y3_B1)
      have z4_B1 := B1_4.lies
      have z4_BF := BF_4.lies
      have z4_B0 := B0_4.lies
      have z4_B2 := B2_4.lies
      clear B1_l0 BF_l0 B0_l0 B2_l0 o4
      go_wp2_with (with_reducible refine post_stop ?_)
      refine Stop.mk ?_
      refine bodyPost_ret (v := .agg (row 36 (fun _ => 0)).toArray) (results_arr Try.results15 B1_4 rfl (by kernel_rfl) (by rw [row_len]; kernel_rfl)) rfl ?_
      have hs : zSquareS bad l n = ((fun _ => 0), r3.2) := by unfold zSquareS; simp only [E3.out]; rw [if_pos Hhc1.out]
      rw [hs]
      exact ⟨rfl, BF_4, K4⟩
    · have Hhc1 : Hid (r3.2 = false) := hc1
      have c5_BF := BF_l0.cell
      go_wp2_with (first | (refine row_load rfl rfl rfl B2_l0 (by kernel_rfl) (by rw [row_len]; kernel_rfl) ?_) | (refine store_stop rfl (by kernel_rfl) ?_))
      clear c5_BF
      refine Stop.mk (store_row (l' := row 36 r3.1) rfl rfl rfl rfl B1_l0 (by simp only [row_len]) (by rw [row_len]; kernel_rfl) (row_one _ _) ?_)
      intro w4 B1_4 o4
      have K4 : Kept b w w4 := Kept.off Kl0 o4 (by omega)
      have BF_4 : Fl b r3.2 w4 := BF_l0.off o4 (Nat.ne_of_lt y2_BF)
      have B0_4 : Arr w.heap.size (row 36 l) w4 := B0_l0.off o4 (Nat.ne_of_lt y2_B0)
      have B2_4 : Arr (w.heap.size + 1 + 1) (row 36 r3.1) w4 := B2_l0.off o4 (Nat.ne_of_gt y3_B1)
      have z4_B1 := B1_4.lies
      have z4_BF := BF_4.lies
      have z4_B0 := B0_4.lies
      have z4_B2 := B2_4.lies
      clear B1_l0 BF_l0 B0_l0 B2_l0 o4
      go_wp2_with (with_reducible refine post_stop ?_)
      refine Stop.mk ?_
      refine bodyPost_ret (v := .agg (row 36 r3.1).toArray) (results_arr Try.results15 B1_4 rfl (by kernel_rfl) (by rw [row_len]; kernel_rfl)) rfl ?_
      have hs : zSquareS bad l n = (r3.1, r3.2) := by unfold zSquareS; simp only [E3.out]; rw [if_neg (by rw [Hhc1.out]; decide)]
      rw [hs]
      exact ⟨rfl, BF_4, K4⟩
end Go.Proofs.Ytcnbcdnjogopdaa
