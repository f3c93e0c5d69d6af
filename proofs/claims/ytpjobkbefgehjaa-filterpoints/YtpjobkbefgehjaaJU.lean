/-
  Walks of package alidaderef06, for the seat Ytpjobkbefgehjaa. (Made by mkref06.py.)
  Walks of package alidaderef06, for the seat Ytpjobkbefgehjaa. (Made by mkref06.py.)
  Walks of package alidaderef06, for the seat Ytpjobkbefgehjaa. (Made by mkref06.py.)
  Walks of package alidaderef06, for the seat Ytpjobkbefgehjaa. (Made by mkref06.py.)
  Walks of package alidaderef06, for the seat Ytpjobkbefgehjaa. (Made by mkref06.py.)
  Roots, and what is solved by them, of six rows, in flows that are good or bad, for the seat Ytpjobkbefgehjaa.
-/
import Derived.Test.YtpjobkbefgehjaaJS
import Derived.Test.YtpjobkbefgehjaaJT
import Derived.Handy
import Derived.Deep.RegionHeld3
namespace Go.Proofs.Ytpjobkbefgehjaa
open Go.RowKit

set_option maxRecDepth 100000 in
set_option maxHeartbeats 2000000 in
theorem zsize_any (b : Nat) (bad : Bool) (n : Int) (w : World) (hw : Fl b bad w) :
    Calls Try.prog 74 #[.pointer (some ⟨b, 0, none⟩), .int .i64 n] w fun e w' => e = .returned (.bool ((zsizeS bad n).1)) ∧ Fl b (zsizeS bad n).2 w' ∧ Kept b w w' := by
  have hl := hw.lies
  go_enter Try.func74, Try.ntmps74
  by_cases hc1 : n < 1
  · have Hhc1 : Hid (n < 1) := hc1
    go_wp2_with fail
    refine (rFail_any b bad  _ hw).mono ?_
    rintro e w1 ⟨rfl, f1, k1⟩
    have K1 : Kept b w w1 := Kept.trans (Kept.refl b w) k1
    have z1 := K1.size
    clear k1
    have c2_BF := f1.cell
    go_wp2
    clear c2_BF
    go_ret
    have hs : zsizeS bad n = (false, true) := by unfold zsizeS; rw [if_pos (by have := Hhc1.out; omega)]
    rw [hs]
    exact ⟨rfl, f1, K1⟩
  · have Hhc1 : Hid (¬ n < 1) := hc1
    by_cases hc2 : n > 6
    · have Hhc2 : Hid (n > 6) := hc2
      go_wp2_with fail
      refine (rFail_any b bad  _ hw).mono ?_
      rintro e w1 ⟨rfl, f1, k1⟩
      have K1 : Kept b w w1 := Kept.trans (Kept.refl b w) k1
      have z1 := K1.size
      clear k1
      have c2_BF := f1.cell
      go_wp2
      clear c2_BF
      go_ret
      have hs : zsizeS bad n = (false, true) := by unfold zsizeS; rw [if_neg (by have := Hhc1.out; omega)]; rw [if_pos (by have := Hhc2.out; omega)]
      rw [hs]
      exact ⟨rfl, f1, K1⟩
    · have Hhc2 : Hid (¬ n > 6) := hc2
      have c1_BF := hw.cell
      go_wp2
      clear c1_BF
      go_ret
      have hs : zsizeS bad n = (!bad, bad) := by unfold zsizeS; rw [if_neg (by have := Hhc1.out; omega)]; rw [if_neg (by have := Hhc2.out; omega)]
      rw [hs]
      exact ⟨rfl, hw, (Kept.refl b w)⟩
end Go.Proofs.Ytpjobkbefgehjaa
namespace Go.Proofs.Ytpjobkbefgehjaa
open Go.RowKit

set_option maxRecDepth 100000 in
set_option maxHeartbeats 2000000 in
theorem zRootN_any (b : Nat) (bad : Bool) (m : Nat → Int) (n : Int) (w : World) (hw : Fl b bad w) (ho : Hid (zsizeS bad n = (false, true))) :
    Calls Try.prog 26 #[.pointer (some ⟨b, 0, none⟩), .agg (row 36 m).toArray, .int .i64 n] w fun e w' => e = .returned (.agg (row 36 ((zRootNS bad m n).1)).toArray) ∧ Fl b (zRootNS bad m n).2 w' ∧ Kept b w w' := by
  have hl := hw.lies
  go_enter Try.func26, Try.ntmps26
  have y1_BF : b < w.heap.size := hw.lies
  have y2_BF : b < w.heap.size + 1 := (Nat.lt_succ_of_lt hw.lies)
  have y2_B0 : w.heap.size < w.heap.size + 1 := (Nat.lt_succ_self _)
  have y3_BF : b < w.heap.size + 1 + 1 := (Nat.lt_succ_of_lt (Nat.lt_succ_of_lt hw.lies))
  have y3_B0 : w.heap.size < w.heap.size + 1 + 1 := (Nat.lt_succ_of_lt (Nat.lt_succ_self _))
  have y3_B1 : w.heap.size + 1 < w.heap.size + 1 + 1 := (Nat.lt_succ_self _)
  go_wp2_with (refine store_stop rfl (by kernel_rfl) ?_)
  refine Stop.mk (store_row (l' := row 36 (fun _ => 0)) rfl rfl rfl rfl (Arr_at _ _ (row 36 (fun _ => 0)) _ (by simp)) (by simp only [row_len]) (by rw [row_len]; kernel_rfl) (row_one _ _) ?_)
  intro w1 B2_1 o1
  have K1 : Kept b w w1 := Kept.off ((((Kept.refl b w).al _).al _).al _) o1 (by omega)
  have BF_1 : Fl b bad w1 := (((hw.alloc _).alloc _).alloc _).off o1 (Nat.ne_of_lt y3_BF)
  have B0_1 : Arr w.heap.size (row 36 m) w1 := (((Arr_at _ _ (row 36 m) _ (by simp)).alloc _).alloc _).off o1 (Nat.ne_of_lt y3_B0)
  have B1_1 : Arr (w.heap.size + 1) (row 36 (fun _ => 0)) w1 := ((Arr_at _ _ (row 36 (fun _ => 0)) _ (by simp)).alloc _).off o1 (Nat.ne_of_lt y3_B1)
  have z1_B2 := B2_1.lies
  have z1_BF := BF_1.lies
  have z1_B0 := B0_1.lies
  have z1_B1 := B1_1.lies
  clear o1
  go_wp2_with fail
  refine (zsize_any b bad n _ BF_1).mono ?_
  rintro e w2 ⟨rfl, f2, k2⟩
  rw [ho.out] at f2 ⊢
  dsimp only at f2 ⊢
  have K2 : Kept b w w2 := Kept.trans K1 k2
  have B0_2 : Arr w.heap.size (row 36 m) w2 := B0_1.kept k2 (Nat.ne_of_gt y1_BF)
  have B1_2 : Arr (w.heap.size + 1) (row 36 (fun _ => 0)) w2 := B1_1.kept k2 (Nat.ne_of_gt y2_BF)
  have B2_2 : Arr (w.heap.size + 1 + 1) (row 36 (fun _ => 0)) w2 := B2_1.kept k2 (Nat.ne_of_gt y3_BF)
  have z2 := B2_2.lies
  clear K1 BF_1 B0_1 B1_1 B2_1 k2
  go_wp2_with (first | (refine row_load rfl rfl rfl B2_2 (by kernel_rfl) (by rw [row_len]; kernel_rfl) ?_) | (refine store_stop rfl (by kernel_rfl) ?_))
  refine Stop.mk (store_row (l' := row 36 (fun _ => 0)) rfl rfl rfl rfl B1_2 (by simp only [row_len]) (by rw [row_len]; kernel_rfl) (row_one _ _) ?_)
  intro w3 B1_3 o3
  have K3 : Kept b w w3 := Kept.off K2 o3 (by omega)
  have BF_3 : Fl b true w3 := f2.off o3 (Nat.ne_of_lt y2_BF)
  have B0_3 : Arr w.heap.size (row 36 m) w3 := B0_2.off o3 (Nat.ne_of_lt y2_B0)
  have B2_3 : Arr (w.heap.size + 1 + 1) (row 36 (fun _ => 0)) w3 := B2_2.off o3 (Nat.ne_of_gt y3_B1)
  have z3_B1 := B1_3.lies
  have z3_BF := BF_3.lies
  have z3_B0 := B0_3.lies
  have z3_B2 := B2_3.lies
  clear K2 B1_2 f2 B0_2 B2_2 o3
  go_wp2_with (with_reducible refine post_stop ?_)
  refine Stop.mk ?_
  refine bodyPost_ret (v := .agg (row 36 (fun _ => 0)).toArray) (results_arr Try.results26 B1_3 rfl (by kernel_rfl) (by rw [row_len]; kernel_rfl)) rfl ?_
  have hs : zRootNS bad m n = ((fun _ => 0), true) := rfl
  rw [hs]
  exact ⟨rfl, BF_3, K3⟩
end Go.Proofs.Ytpjobkbefgehjaa
namespace Go.Proofs.Ytpjobkbefgehjaa
open Go.RowKit

set_option maxRecDepth 100000 in
set_option maxHeartbeats 2000000 in
theorem zRoot_any (b : Nat) (bad : Bool) (m : Nat → Int) (n : Nat) (w : World) (hw : Fl b bad w) (hb : Hid (bad = false)) (h1 : 1 ≤ n) (h6 : n ≤ 6) :
    Calls Try.prog 26 #[.pointer (some ⟨b, 0, none⟩), .agg (row 36 m).toArray, .int .i64 (n : Int)] w fun e w' => e = .returned (.agg (row 36 ((zRootS bad m n).1)).toArray) ∧ Fl b (zRootS bad m n).2 w' ∧ Kept b w w' := by
  have hl := hw.lies
  go_enter Try.func26, Try.ntmps26
  have y1_BF : b < w.heap.size := hw.lies
  have y2_BF : b < w.heap.size + 1 := (Nat.lt_succ_of_lt hw.lies)
  have y2_B0 : w.heap.size < w.heap.size + 1 := (Nat.lt_succ_self _)
  have y3_BF : b < w.heap.size + 1 + 1 := (Nat.lt_succ_of_lt (Nat.lt_succ_of_lt hw.lies))
  have y3_B0 : w.heap.size < w.heap.size + 1 + 1 := (Nat.lt_succ_of_lt (Nat.lt_succ_self _))
  have y3_B1 : w.heap.size + 1 < w.heap.size + 1 + 1 := (Nat.lt_succ_self _)
  go_wp2_with (refine store_stop rfl (by kernel_rfl) ?_)
  refine Stop.mk (store_row (l' := row 36 (fun _ => 0)) rfl rfl rfl rfl (Arr_at _ _ (row 36 (fun _ => 0)) _ (by simp)) (by simp only [row_len]) (by rw [row_len]; kernel_rfl) (row_one _ _) ?_)
  intro w1 B2_1 o1
  have K1 : Kept b w w1 := Kept.off ((((Kept.refl b w).al _).al _).al _) o1 (by omega)
  have BF_1 : Fl b bad w1 := (((hw.alloc _).alloc _).alloc _).off o1 (Nat.ne_of_lt y3_BF)
  have B0_1 : Arr w.heap.size (row 36 m) w1 := (((Arr_at _ _ (row 36 m) _ (by simp)).alloc _).alloc _).off o1 (Nat.ne_of_lt y3_B0)
  have B1_1 : Arr (w.heap.size + 1) (row 36 (fun _ => 0)) w1 := ((Arr_at _ _ (row 36 (fun _ => 0)) _ (by simp)).alloc _).off o1 (Nat.ne_of_lt y3_B1)
  have z1_B2 := B2_1.lies
  have z1_BF := BF_1.lies
  have z1_B0 := B0_1.lies
  have z1_B1 := B1_1.lies
  clear o1
  go_wp2_with fail
  refine (zsize_any b bad (n : Int) _ BF_1).mono ?_
  rintro e w2 ⟨rfl, f2, k2⟩
  rw [(size_in hb h1 h6)] at f2 ⊢
  dsimp only at f2 ⊢
  have K2 : Kept b w w2 := Kept.trans K1 k2
  have B0_2 : Arr w.heap.size (row 36 m) w2 := B0_1.kept k2 (Nat.ne_of_gt y1_BF)
  have B1_2 : Arr (w.heap.size + 1) (row 36 (fun _ => 0)) w2 := B1_1.kept k2 (Nat.ne_of_gt y2_BF)
  have B2_2 : Arr (w.heap.size + 1 + 1) (row 36 (fun _ => 0)) w2 := B2_1.kept k2 (Nat.ne_of_gt y3_BF)
  have z2 := B2_2.lies
  clear K1 BF_1 B0_1 B1_1 B2_1 k2
  go_wp2_with fail
  obtain ⟨J0, hJ0⟩ : ∃ J : Nat → Act → World → Prop, Hid (J = fun i a Wl0 => ∀ G_ : Prop, (∀ (s0 : (Nat → Int) × Bool) (t0_1 t0_3 t0_5 t0_9 t0_10 t0_11 t0_12 t0_13 t0_14 t0_15 t0_16 t0_17 t0_18 t0_19 t0_20 t0_21 t0_22 t0_23 t0_24 t0_25 t0_26 t0_27 t0_28 t0_29 t0_30 t0_31 t0_32 t0_33 t0_34 t0_35 t0_36 t0_37 t0_38 t0_39 t0_40 t0_41 t0_42 t0_43 t0_44 t0_45 t0_46 t0_47 t0_48 t0_49 t0_50 t0_51 t0_52 t0_53 t0_54 t0_55 t0_56 t0_57 t0_58 t0_59 t0_60 t0_61 t0_62 t0_63 t0_64 t0_65 t0_66 t0_67 t0_68 t0_69 t0_70 t0_71 t0_72 t0_73 t0_74 t0_75 t0_76 t0_77 t0_78 t0_79 t0_80 t0_81 t0_82 t0_83 t0_84 t0_85 t0_86 : Value), Hid (zRootS_l0 m ((fun _ => 0), bad) i = s0) → a = { tmps := #[.pointer (some ⟨b, 0, none⟩), t0_1, .int .i64 (n : Int), t0_3, .pointer (some ⟨w.heap.size, 0, none⟩), t0_5, .pointer (some ⟨w.heap.size + 1, 0, none⟩), .pointer (some ⟨w.heap.size + 1 + 1, 0, none⟩), .int .i64 (i : Int), t0_9, t0_10, t0_11, t0_12, t0_13, t0_14, t0_15, t0_16, t0_17, t0_18, t0_19, t0_20, t0_21, t0_22, t0_23, t0_24, t0_25, t0_26, t0_27, t0_28, t0_29, t0_30, t0_31, t0_32, t0_33, t0_34, t0_35, t0_36, t0_37, t0_38, t0_39, t0_40, t0_41, t0_42, t0_43, t0_44, t0_45, t0_46, t0_47, t0_48, t0_49, t0_50, t0_51, t0_52, t0_53, t0_54, t0_55, t0_56, t0_57, t0_58, t0_59, t0_60, t0_61, t0_62, t0_63, t0_64, t0_65, t0_66, t0_67, t0_68, t0_69, t0_70, t0_71, t0_72, t0_73, t0_74, t0_75, t0_76, t0_77, t0_78, t0_79, t0_80, t0_81, t0_82, t0_83, t0_84, t0_85, t0_86], defers := [] } → Kept b w Wl0 → Fl b s0.2 Wl0 → Arr w.heap.size (row 36 m) Wl0 → Arr (w.heap.size + 1) (row 36 (fun _ => 0)) Wl0 → Arr (w.heap.size + 1 + 1) (row 36 s0.1) Wl0 → G_) → G_) := ⟨_, rfl⟩
  refine rounds_up J0 n ?_ ?_ ?_
  · rw [hJ0.out]
    intro G_ hG_
    exact hG_ ((fun _ => 0), bad) _ _ _ _ _ _ _ _ _ _ _ _ _ _ _ _ _ _ _ _ _ _ _ _ _ _ _ _ _ _ _ _ _ _ _ _ _ _ _ _ _ _ _ _ _ _ _ _ _ _ _ _ _ _ _ _ _ _ _ _ _ _ _ _ _ _ _ _ _ _ _ _ _ _ _ _ _ _ _ _ _ rfl rfl K2 f2 B0_2 B1_2 B2_2
  · intro i a Wl0 hi hI R hR
    rw [hJ0.out] at hI
    refine hI _ ?_
    clear hI
    intro s0 t0_1 t0_3 t0_5 t0_9 t0_10 t0_11 t0_12 t0_13 t0_14 t0_15 t0_16 t0_17 t0_18 t0_19 t0_20 t0_21 t0_22 t0_23 t0_24 t0_25 t0_26 t0_27 t0_28 t0_29 t0_30 t0_31 t0_32 t0_33 t0_34 t0_35 t0_36 t0_37 t0_38 t0_39 t0_40 t0_41 t0_42 t0_43 t0_44 t0_45 t0_46 t0_47 t0_48 t0_49 t0_50 t0_51 t0_52 t0_53 t0_54 t0_55 t0_56 t0_57 t0_58 t0_59 t0_60 t0_61 t0_62 t0_63 t0_64 t0_65 t0_66 t0_67 t0_68 t0_69 t0_70 t0_71 t0_72 t0_73 t0_74 t0_75 t0_76 t0_77 t0_78 t0_79 t0_80 t0_81 t0_82 t0_83 t0_84 t0_85 t0_86 El0 ea Kl0 BF_l0 B0_l0 B1_l0 B2_l0
    subst ea
    have zl0_BF := BF_l0.lies
    have zl0_B0 := B0_l0.lies
    have zl0_B1 := B1_l0.lies
    have zl0_B2 := B2_l0.lies
    go_wp2_with fail
    obtain ⟨J1, hJ1⟩ : ∃ J : Nat → Act → World → Prop, Hid (J = fun j a Wl1 => ∀ G_ : Prop, (∀ (s1 : (Nat → Int) × Bool) (t1_1 t1_3 t1_5 t1_10 t1_11 t1_12 t1_13 t1_14 t1_15 t1_16 t1_17 t1_18 t1_19 t1_20 t1_21 t1_22 t1_23 t1_24 t1_25 t1_26 t1_27 t1_28 t1_29 t1_30 t1_31 t1_32 t1_33 t1_34 t1_35 t1_36 t1_37 t1_38 t1_39 t1_40 t1_41 t1_42 t1_43 t1_44 t1_45 t1_46 t1_47 t1_48 t1_49 t1_50 t1_51 t1_52 t1_53 t1_54 t1_55 t1_56 t1_57 t1_58 t1_59 t1_60 t1_61 t1_62 t1_63 t1_64 t1_65 t1_66 t1_67 t1_68 t1_69 t1_70 t1_71 t1_72 t1_73 t1_74 t1_75 t1_76 t1_77 t1_78 t1_79 t1_80 t1_81 t1_82 t1_83 t1_84 t1_85 t1_86 : Value), Hid (zRootS_l1 m i (s0.1, s0.2) j = s1) → a = { tmps := #[.pointer (some ⟨b, 0, none⟩), t1_1, .int .i64 (n : Int), t1_3, .pointer (some ⟨w.heap.size, 0, none⟩), t1_5, .pointer (some ⟨w.heap.size + 1, 0, none⟩), .pointer (some ⟨w.heap.size + 1 + 1, 0, none⟩), .int .i64 (i : Int), .int .i64 (j : Int), t1_10, t1_11, t1_12, t1_13, t1_14, t1_15, t1_16, t1_17, t1_18, t1_19, t1_20, t1_21, t1_22, t1_23, t1_24, t1_25, t1_26, t1_27, t1_28, t1_29, t1_30, t1_31, t1_32, t1_33, t1_34, t1_35, t1_36, t1_37, t1_38, t1_39, t1_40, t1_41, t1_42, t1_43, t1_44, t1_45, t1_46, t1_47, t1_48, t1_49, t1_50, t1_51, t1_52, t1_53, t1_54, t1_55, t1_56, t1_57, t1_58, t1_59, t1_60, t1_61, t1_62, t1_63, t1_64, t1_65, t1_66, t1_67, t1_68, t1_69, t1_70, t1_71, t1_72, t1_73, t1_74, t1_75, t1_76, t1_77, t1_78, t1_79, t1_80, t1_81, t1_82, t1_83, t1_84, t1_85, t1_86], defers := [] } → Kept b w Wl1 → Fl b s1.2 Wl1 → Arr w.heap.size (row 36 m) Wl1 → Arr (w.heap.size + 1) (row 36 (fun _ => 0)) Wl1 → Arr (w.heap.size + 1 + 1) (row 36 s1.1) Wl1 → G_) → G_) := ⟨_, rfl⟩
    refine rounds_up J1 (i + 1) ?_ ?_ ?_
    · rw [hJ1.out]
      intro G_ hG_
      exact hG_ (s0.1, s0.2) _ _ _ _ _ _ _ _ _ _ _ _ _ _ _ _ _ _ _ _ _ _ _ _ _ _ _ _ _ _ _ _ _ _ _ _ _ _ _ _ _ _ _ _ _ _ _ _ _ _ _ _ _ _ _ _ _ _ _ _ _ _ _ _ _ _ _ _ _ _ _ _ _ _ _ _ _ _ _ _ rfl rfl Kl0 BF_l0 B0_l0 B1_l0 B2_l0
    · intro j a Wl1 hj hI R hR
      rw [hJ1.out] at hI
      refine hI _ ?_
      clear hI
      intro s1 t1_1 t1_3 t1_5 t1_10 t1_11 t1_12 t1_13 t1_14 t1_15 t1_16 t1_17 t1_18 t1_19 t1_20 t1_21 t1_22 t1_23 t1_24 t1_25 t1_26 t1_27 t1_28 t1_29 t1_30 t1_31 t1_32 t1_33 t1_34 t1_35 t1_36 t1_37 t1_38 t1_39 t1_40 t1_41 t1_42 t1_43 t1_44 t1_45 t1_46 t1_47 t1_48 t1_49 t1_50 t1_51 t1_52 t1_53 t1_54 t1_55 t1_56 t1_57 t1_58 t1_59 t1_60 t1_61 t1_62 t1_63 t1_64 t1_65 t1_66 t1_67 t1_68 t1_69 t1_70 t1_71 t1_72 t1_73 t1_74 t1_75 t1_76 t1_77 t1_78 t1_79 t1_80 t1_81 t1_82 t1_83 t1_84 t1_85 t1_86 El1 ea Kl1 BF_l1 B0_l1 B1_l1 B2_l1
      subst ea
      have zl1_BF := BF_l1.lies
      have zl1_B0 := B0_l1.lies
      have zl1_B1 := B1_l1.lies
      have zl1_B2 := B2_l1.lies
      have c5_B0_0 : Wl1.cell? ⟨w.heap.size, i * 6 + j, none⟩ = some (.int .i64 (m (i * 6 + j))) := row_c B0_l1 (i * 6 + j) (by omega)
      have i5_1 : (i : Int) < 6 := by omega
      have i5_2 : (j : Int) < 6 := by omega
      go_wp2_with fail
      refine (rAdd_any b s1.2 (m (i * 6 + j)) 0 _ BF_l1).mono ?_
      rintro e w3 ⟨rfl, f3, k3⟩
      generalize e3 : addS s1.2 (m (i * 6 + j)) 0 = r3 at f3 ⊢
      have E3 : Hid _ := e3
      clear e3
      have K3 : Kept b w w3 := Kept.trans Kl1 k3
      have B0_3 : Arr w.heap.size (row 36 m) w3 := B0_l1.kept k3 (Nat.ne_of_gt y1_BF)
      have B1_3 : Arr (w.heap.size + 1) (row 36 (fun _ => 0)) w3 := B1_l1.kept k3 (Nat.ne_of_gt y2_BF)
      have B2_3 : Arr (w.heap.size + 1 + 1) (row 36 s1.1) w3 := B2_l1.kept k3 (Nat.ne_of_gt y3_BF)
      have z3 := B2_3.lies
      clear c5_B0_0 i5_1 i5_2 BF_l1 B0_l1 B1_l1 B2_l1 k3
      go_wp2_with fail
      obtain ⟨J2, hJ2⟩ : ∃ J : Nat → Act → World → Prop, Hid (J = fun k a Wl2 => ∀ G_ : Prop, (∀ (s2 : Int × Bool) (t2_1 t2_3 t2_5 t2_12 t2_13 t2_14 t2_15 t2_16 t2_17 t2_18 t2_19 t2_20 t2_21 t2_22 t2_23 t2_24 t2_25 t2_26 t2_27 t2_28 t2_29 t2_30 t2_31 t2_32 t2_33 t2_34 t2_35 t2_36 t2_37 t2_38 t2_39 t2_40 t2_41 t2_42 t2_43 t2_44 t2_45 t2_46 t2_47 t2_48 t2_49 t2_50 t2_51 t2_52 t2_53 t2_54 t2_55 t2_56 t2_57 t2_58 t2_59 t2_60 t2_61 t2_62 t2_63 t2_64 t2_65 t2_66 t2_67 t2_68 t2_69 t2_70 t2_71 t2_72 t2_73 t2_74 t2_75 t2_76 t2_77 t2_78 t2_79 t2_80 t2_81 t2_82 t2_83 t2_84 t2_85 t2_86 : Value), Hid (zRootS_l2 i j s1 (r3.1, r3.2) k = s2) → a = { tmps := #[.pointer (some ⟨b, 0, none⟩), t2_1, .int .i64 (n : Int), t2_3, .pointer (some ⟨w.heap.size, 0, none⟩), t2_5, .pointer (some ⟨w.heap.size + 1, 0, none⟩), .pointer (some ⟨w.heap.size + 1 + 1, 0, none⟩), .int .i64 (i : Int), .int .i64 (j : Int), .int .i64 s2.1, .int .i64 (k : Int), t2_12, t2_13, t2_14, t2_15, t2_16, t2_17, t2_18, t2_19, t2_20, t2_21, t2_22, t2_23, t2_24, t2_25, t2_26, t2_27, t2_28, t2_29, t2_30, t2_31, t2_32, t2_33, t2_34, t2_35, t2_36, t2_37, t2_38, t2_39, t2_40, t2_41, t2_42, t2_43, t2_44, t2_45, t2_46, t2_47, t2_48, t2_49, t2_50, t2_51, t2_52, t2_53, t2_54, t2_55, t2_56, t2_57, t2_58, t2_59, t2_60, t2_61, t2_62, t2_63, t2_64, t2_65, t2_66, t2_67, t2_68, t2_69, t2_70, t2_71, t2_72, t2_73, t2_74, t2_75, t2_76, t2_77, t2_78, t2_79, t2_80, t2_81, t2_82, t2_83, t2_84, t2_85, t2_86], defers := [] } → Kept b w Wl2 → Fl b s2.2 Wl2 → Arr w.heap.size (row 36 m) Wl2 → Arr (w.heap.size + 1) (row 36 (fun _ => 0)) Wl2 → Arr (w.heap.size + 1 + 1) (row 36 s1.1) Wl2 → G_) → G_) := ⟨_, rfl⟩
      refine rounds_up J2 j ?_ ?_ ?_
      · rw [hJ2.out]
        intro G_ hG_
        exact hG_ (r3.1, r3.2) _ _ _ _ _ _ _ _ _ _ _ _ _ _ _ _ _ _ _ _ _ _ _ _ _ _ _ _ _ _ _ _ _ _ _ _ _ _ _ _ _ _ _ _ _ _ _ _ _ _ _ _ _ _ _ _ _ _ _ _ _ _ _ _ _ _ _ _ _ _ _ _ _ _ _ _ _ _ rfl rfl K3 f3 B0_3 B1_3 B2_3
      · intro k a Wl2 hk hI R hR
        rw [hJ2.out] at hI
        refine hI _ ?_
        clear hI
        intro s2 t2_1 t2_3 t2_5 t2_12 t2_13 t2_14 t2_15 t2_16 t2_17 t2_18 t2_19 t2_20 t2_21 t2_22 t2_23 t2_24 t2_25 t2_26 t2_27 t2_28 t2_29 t2_30 t2_31 t2_32 t2_33 t2_34 t2_35 t2_36 t2_37 t2_38 t2_39 t2_40 t2_41 t2_42 t2_43 t2_44 t2_45 t2_46 t2_47 t2_48 t2_49 t2_50 t2_51 t2_52 t2_53 t2_54 t2_55 t2_56 t2_57 t2_58 t2_59 t2_60 t2_61 t2_62 t2_63 t2_64 t2_65 t2_66 t2_67 t2_68 t2_69 t2_70 t2_71 t2_72 t2_73 t2_74 t2_75 t2_76 t2_77 t2_78 t2_79 t2_80 t2_81 t2_82 t2_83 t2_84 t2_85 t2_86 El2 ea Kl2 BF_l2 B0_l2 B1_l2 B2_l2
        subst ea
        have zl2_BF := BF_l2.lies
        have zl2_B0 := B0_l2.lies
        have zl2_B1 := B1_l2.lies
        have zl2_B2 := B2_l2.lies
        go_wp2_with fail
        refine wp_region_held_drew (S := fun w' => Arr (w.heap.size + 1 + 1) (row 36 s1.1) w') (by kernel_rfl) B2_l2.drew (fun hHeld => ?_)
        refine take_at (i := 0) (v := ?v549) rfl (by kernel_rfl) (by kernel_rfl) (by kernel_rfl) (fun _ _ _ h => h) (Or.inl ⟨by rfl, ?y549⟩) hHeld ?t549
        case y549 => (intro wx hSw; go_simp <;> with_reducible rfl)
        simp only [Act.put, List.setIfInBounds_toArray, List.set_cons_zero, List.set_cons_succ]
        refine take_at (i := 1) (v := ?v550) rfl (by kernel_rfl) (by kernel_rfl) (by kernel_rfl) (fun _ _ _ h => h) (Or.inl ⟨by rfl, ?y550⟩) hHeld ?t550
        case y550 => (intro wx hSw; go_simp <;> with_reducible rfl)
        simp only [Act.put, List.setIfInBounds_toArray, List.set_cons_zero, List.set_cons_succ]
        refine take_at (i := 2) (v := ?v551) rfl (by kernel_rfl) (by kernel_rfl) (by kernel_rfl) (fun _ _ _ h => h) (Or.inl ⟨by rfl, ?y551⟩) hHeld ?t551
        case y551 => (intro wx hSw; go_simp <;> with_reducible rfl)
        simp only [Act.put, List.setIfInBounds_toArray, List.set_cons_zero, List.set_cons_succ]
        refine take_at (i := 3) (v := ?v552) rfl (by kernel_rfl) (by kernel_rfl) (by kernel_rfl) (fun _ _ _ h => h) (Or.inl ⟨by rfl, ?y552⟩) hHeld ?t552
        case y552 => (intro wx hSw; go_simp <;> with_reducible rfl)
        simp only [Act.put, List.setIfInBounds_toArray, List.set_cons_zero, List.set_cons_succ]
        refine take_at (i := 4) (v := ?v553) rfl (by kernel_rfl) (by kernel_rfl) (by kernel_rfl) (fun _ _ _ h => h) (Or.inl ⟨by rfl, ?y553⟩) hHeld ?t553
        case y553 => (intro wx hSw; go_simp <;> with_reducible rfl)
        simp only [Act.put, List.setIfInBounds_toArray, List.set_cons_zero, List.set_cons_succ]
        refine take_at (i := 5) (v := ?v554) rfl (by kernel_rfl) (by kernel_rfl) (by kernel_rfl) (fun _ _ _ h => h) (Or.inl ⟨by rfl, ?y554⟩) hHeld ?t554
        case y554 => (intro wx hSw; have hi0 : (i : Int) < 6 := (by omega); go_simp <;> with_reducible rfl)
        simp only [Act.put, List.setIfInBounds_toArray, List.set_cons_zero, List.set_cons_succ]
        refine take_at (i := 6) (v := ?v555) rfl (by kernel_rfl) (by kernel_rfl) (by kernel_rfl) (fun _ _ _ h => h) (Or.inl ⟨by rfl, ?y555⟩) hHeld ?t555
        case y555 => (intro wx hSw; have hi0 : (k : Int) < 6 := (by omega); go_simp <;> with_reducible rfl)
        simp only [Act.put, List.setIfInBounds_toArray, List.set_cons_zero, List.set_cons_succ]
        refine take_at (i := 7) (v := ?v556) rfl (by kernel_rfl) (by kernel_rfl) (by kernel_rfl) (fun _ _ _ h => h) (Or.inl ⟨by rfl, ?y556⟩) hHeld ?t556
        case y556 => (intro wx hSw; have hc0 : wx.cell? ⟨w.heap.size + 1 + 1, i * 6 + k, none⟩ = some (.int .i64 (s1.1 (i * 6 + k))) := row_c hSw (i * 6 + k) (by omega); go_simp <;> with_reducible rfl)
        simp only [Act.put, List.setIfInBounds_toArray, List.set_cons_zero, List.set_cons_succ]
        refine take_at (i := 8) (v := ?v557) rfl (by kernel_rfl) (by kernel_rfl) (by kernel_rfl) (fun _ _ _ h => h) (Or.inl ⟨by rfl, ?y557⟩) hHeld ?t557
        case y557 => (intro wx hSw; go_simp <;> with_reducible rfl)
        simp only [Act.put, List.setIfInBounds_toArray, List.set_cons_zero, List.set_cons_succ]
        refine take_at (i := 9) (v := ?v558) rfl (by kernel_rfl) (by kernel_rfl) (by kernel_rfl) (fun _ _ _ h => h) (Or.inl ⟨by rfl, ?y558⟩) hHeld ?t558
        case y558 => (intro wx hSw; go_simp <;> with_reducible rfl)
        simp only [Act.put, List.setIfInBounds_toArray, List.set_cons_zero, List.set_cons_succ]
        refine take_at (i := 10) (v := ?v559) rfl (by kernel_rfl) (by kernel_rfl) (by kernel_rfl) (fun _ _ _ h => h) (Or.inl ⟨by rfl, ?y559⟩) hHeld ?t559
        case y559 => (intro wx hSw; have hi0 : (j : Int) < 6 := (by omega); go_simp <;> with_reducible rfl)
        simp only [Act.put, List.setIfInBounds_toArray, List.set_cons_zero, List.set_cons_succ]
        refine take_at (i := 11) (v := ?v560) rfl (by kernel_rfl) (by kernel_rfl) (by kernel_rfl) (fun _ _ _ h => h) (Or.inl ⟨by rfl, ?y560⟩) hHeld ?t560
        case y560 => (intro wx hSw; have hi0 : (k : Int) < 6 := (by omega); go_simp <;> with_reducible rfl)
        simp only [Act.put, List.setIfInBounds_toArray, List.set_cons_zero, List.set_cons_succ]
        refine take_at (i := 12) (v := ?v561) rfl (by kernel_rfl) (by kernel_rfl) (by kernel_rfl) (fun _ _ _ h => h) (Or.inl ⟨by rfl, ?y561⟩) hHeld ?t561
        case y561 => (intro wx hSw; have hc0 : wx.cell? ⟨w.heap.size + 1 + 1, j * 6 + k, none⟩ = some (.int .i64 (s1.1 (j * 6 + k))) := row_c hSw (j * 6 + k) (by omega); go_simp <;> with_reducible rfl)
        simp only [Act.put, List.setIfInBounds_toArray, List.set_cons_zero, List.set_cons_succ]
        refine call_at (i := 13) (by kernel_rfl) rfl (fun K hK => ?_)
        go_simp
        refine (rMul_any b s2.2 (s1.1 (i * 6 + k)) (s1.1 (j * 6 + k)) _ BF_l2.drew).mono ?_
        rintro e w4 ⟨rfl, f4, k4⟩
        generalize e4 : mulS s2.2 (s1.1 (i * 6 + k)) (s1.1 (j * 6 + k)) = r4 at f4 ⊢
        have E4 : Hid _ := e4
        clear e4
        have K4 : Kept b w w4 := Kept.trans Kl2.drew k4
        have B0_4 : Arr w.heap.size (row 36 m) w4 := B0_l2.drew.kept k4 (Nat.ne_of_gt y1_BF)
        have B1_4 : Arr (w.heap.size + 1) (row 36 (fun _ => 0)) w4 := B1_l2.drew.kept k4 (Nat.ne_of_gt y2_BF)
        have B2_4 : Arr (w.heap.size + 1 + 1) (row 36 s1.1) w4 := B2_l2.drew.kept k4 (Nat.ne_of_gt y3_BF)
        have z4 := B2_4.lies
        clear hHeld
        refine hK.out _ _ B2_4 (fun hHeld => ?_)
        clear hK K BF_l2 B0_l2 B1_l2 B2_l2 k4
        refine call_at (i := 14) (by kernel_rfl) rfl (fun K hK => ?_)
        go_simp
        refine (rSub_any b r4.2 s2.1 r4.1 _ f4).mono ?_
        rintro e w5 ⟨rfl, f5, k5⟩
        generalize e5 : subS r4.2 s2.1 r4.1 = r5 at f5 ⊢
        have E5 : Hid _ := e5
        clear e5
        have K5 : Kept b w w5 := Kept.trans K4 k5
        have B0_5 : Arr w.heap.size (row 36 m) w5 := B0_4.kept k5 (Nat.ne_of_gt y1_BF)
        have B1_5 : Arr (w.heap.size + 1) (row 36 (fun _ => 0)) w5 := B1_4.kept k5 (Nat.ne_of_gt y2_BF)
        have B2_5 : Arr (w.heap.size + 1 + 1) (row 36 s1.1) w5 := B2_4.kept k5 (Nat.ne_of_gt y3_BF)
        have z5 := B2_5.lies
        clear hHeld
        refine hK.out _ _ B2_5 (fun hHeld => ?_)
        clear hK K K4 f4 B0_4 B1_4 B2_4 k5
        refine take_at (i := 15) (v := ?v562) rfl (by kernel_rfl) (by kernel_rfl) (by kernel_rfl) (fun _ _ _ h => h) (Or.inl ⟨by rfl, ?y562⟩) hHeld ?t562
        case y562 => (intro wx hSw; go_simp <;> with_reducible rfl)
        simp only [Act.put, List.setIfInBounds_toArray, List.set_cons_zero, List.set_cons_succ]
        refine wpAnyH_done (by kernel_rfl) ?_ _
        clear hHeld
        go_wp2_with fail
        have hs2 : Hid (zRootS_l2 i j s1 (r3.1, r3.2) (k + 1) = (r5.1, r5.2)) := by show _ = _; unfold zRootS_l2; simp only [El2.out, E4.out, E5.out]
        rw [hJ2.out]
        intro G_ hG_
        exact hG_ (r5.1, r5.2) _ _ _ _ _ _ _ _ _ _ _ _ _ _ _ _ _ _ _ _ _ _ _ _ _ _ _ _ _ _ _ _ _ _ _ _ _ _ _ _ _ _ _ _ _ _ _ _ _ _ _ _ _ _ _ _ _ _ _ _ _ _ _ _ _ _ _ _ _ _ _ _ _ _ _ _ _ _ hs2 rfl K5 f5 B0_5 B1_5 B2_5
      · intro a Wl2 hI R
        rw [hJ2.out] at hI
        refine hI _ ?_
        clear hI hJ2
        intro r6 t2_1 t2_3 t2_5 t2_12 t2_13 t2_14 t2_15 t2_16 t2_17 t2_18 t2_19 t2_20 t2_21 t2_22 t2_23 t2_24 t2_25 t2_26 t2_27 t2_28 t2_29 t2_30 t2_31 t2_32 t2_33 t2_34 t2_35 t2_36 t2_37 t2_38 t2_39 t2_40 t2_41 t2_42 t2_43 t2_44 t2_45 t2_46 t2_47 t2_48 t2_49 t2_50 t2_51 t2_52 t2_53 t2_54 t2_55 t2_56 t2_57 t2_58 t2_59 t2_60 t2_61 t2_62 t2_63 t2_64 t2_65 t2_66 t2_67 t2_68 t2_69 t2_70 t2_71 t2_72 t2_73 t2_74 t2_75 t2_76 t2_77 t2_78 t2_79 t2_80 t2_81 t2_82 t2_83 t2_84 t2_85 t2_86 E6 ea Kl2 BF_l2 B0_l2 B1_l2 B2_l2
        subst ea
        have zl2_BF := BF_l2.lies
        have zl2_B0 := B0_l2.lies
        have zl2_B1 := B1_l2.lies
        have zl2_B2 := B2_l2.lies
        by_cases hc1 : (i : Int) = (j : Int)
        · have Hhc1 : Hid ((i : Int) = (j : Int)) := hc1
          have hc1a : i ≤ j := by omega
          have hc1b : j ≤ i := by omega
          clear hc1
          by_cases hc2 : r6.1 < 1
          · have Hhc2 : Hid (r6.1 < 1) := hc2
            go_wp2_with fail
            refine (rFail_any b r6.2  _ BF_l2).mono ?_
            rintro e w7 ⟨rfl, f7, k7⟩
            have K7 : Kept b w w7 := Kept.trans Kl2 k7
            have B0_7 : Arr w.heap.size (row 36 m) w7 := B0_l2.kept k7 (Nat.ne_of_gt y1_BF)
            have B1_7 : Arr (w.heap.size + 1) (row 36 (fun _ => 0)) w7 := B1_l2.kept k7 (Nat.ne_of_gt y2_BF)
            have B2_7 : Arr (w.heap.size + 1 + 1) (row 36 s1.1) w7 := B2_l2.kept k7 (Nat.ne_of_gt y3_BF)
            have z7 := B2_7.lies
            clear BF_l2 B0_l2 B1_l2 B2_l2 k7
            go_wp2_with fail
            refine wp_region_held_drew (S := fun _ => True) (by kernel_rfl) trivial (fun hHeld => ?_)
            refine take_at (i := 0) (v := ?v563) rfl (by kernel_rfl) (by kernel_rfl) (by kernel_rfl) (fun _ _ _ h => h) (Or.inl ⟨by rfl, ?y563⟩) hHeld ?t563
            case y563 => (intro wx hSw; go_simp <;> with_reducible rfl)
            simp only [Act.put, List.setIfInBounds_toArray, List.set_cons_zero, List.set_cons_succ]
            refine take_at (i := 1) (v := ?v564) rfl (by kernel_rfl) (by kernel_rfl) (by kernel_rfl) (fun _ _ _ h => h) (Or.inl ⟨by rfl, ?y564⟩) hHeld ?t564
            case y564 => (intro wx hSw; go_simp <;> with_reducible rfl)
            simp only [Act.put, List.setIfInBounds_toArray, List.set_cons_zero, List.set_cons_succ]
            refine take_at (i := 2) (v := ?v565) rfl (by kernel_rfl) (by kernel_rfl) (by kernel_rfl) (fun _ _ _ h => h) (Or.inl ⟨by rfl, ?y565⟩) hHeld ?t565
            case y565 => (intro wx hSw; go_simp <;> with_reducible rfl)
            simp only [Act.put, List.setIfInBounds_toArray, List.set_cons_zero, List.set_cons_succ]
            refine take_at (i := 3) (v := ?v566) rfl (by kernel_rfl) (by kernel_rfl) (by kernel_rfl) (fun _ _ _ h => h) (Or.inl ⟨by rfl, ?y566⟩) hHeld ?t566
            case y566 => (intro wx hSw; go_simp <;> with_reducible rfl)
            simp only [Act.put, List.setIfInBounds_toArray, List.set_cons_zero, List.set_cons_succ]
            refine take_at (i := 5) (v := ?v567) rfl (by kernel_rfl) (by kernel_rfl) (by kernel_rfl) (fun _ _ _ h => h) (Or.inl ⟨by rfl, ?y567⟩) hHeld ?t567
            case y567 => (intro wx hSw; have hi0 : (i : Int) < 6 := (by omega); go_simp <;> with_reducible rfl)
            simp only [Act.put, List.setIfInBounds_toArray, List.set_cons_zero, List.set_cons_succ]
            refine call_at (i := 4) (by kernel_rfl) rfl (fun K hK => ?_)
            go_simp
            refine (rSqrt_any b true r6.1 _ f7.drew).mono ?_
            rintro e w8 ⟨rfl, f8, k8⟩
            generalize e8 : sqrtS true r6.1 = r8 at f8 ⊢
            have E8 : Hid _ := e8
            clear e8
            have K8 : Kept b w w8 := Kept.trans K7.drew k8
            have B0_8 : Arr w.heap.size (row 36 m) w8 := B0_7.drew.kept k8 (Nat.ne_of_gt y1_BF)
            have B1_8 : Arr (w.heap.size + 1) (row 36 (fun _ => 0)) w8 := B1_7.drew.kept k8 (Nat.ne_of_gt y2_BF)
            have B2_8 : Arr (w.heap.size + 1 + 1) (row 36 s1.1) w8 := B2_7.drew.kept k8 (Nat.ne_of_gt y3_BF)
            have z8 := B2_8.lies
            clear hHeld
            refine hK.out _ _ trivial (fun hHeld => ?_)
            clear hK K K7 f7 B0_7 B1_7 B2_7 k8
            refine take_at (i := 6) (v := ?v568) rfl (by kernel_rfl) (by kernel_rfl) (by kernel_rfl) (fun _ _ _ h => h) (Or.inl ⟨by rfl, ?y568⟩) hHeld ?t568
            case y568 => (intro wx hSw; have hi0 : (j : Int) < 6 := (by omega); go_simp <;> with_reducible rfl)
            simp only [Act.put, List.setIfInBounds_toArray, List.set_cons_zero, List.set_cons_succ]
            refine call_at (i := 7) (by kernel_rfl) rfl (fun K hK => ?_)
            have c11_B2_0 : w8.cell? ⟨w.heap.size + 1 + 1, i * 6 + j, none⟩ = some (.int .i64 (s1.1 (i * 6 + j))) := row_c B2_8 (i * 6 + j) (by omega)
            have g11_B2_1 := row_f B2_8 (i * 6 + j) (by omega)
            go_simp
            clear hHeld
            refine hK.out _ _ trivial (fun hHeld => ?_)
            clear hK K c11_B2_0 g11_B2_1
            refine wpAnyH_done (by kernel_rfl) ?_ _
            clear hHeld
            go_wp2_with fail
            have hs1 : Hid (zRootS_l1 m i (s0.1, s0.2) (j + 1) = ((updF s1.1 (i * 6 + j) r8.1), r8.2)) := by show _ = _; unfold zRootS_l1; simp only [El1.out, E3.out, E6.out, E8.out]; rw [if_pos (by have := Hhc1.out; omega)]; rw [if_pos (by have := Hhc2.out; omega)]
            rw [hJ1.out]
            intro G_ hG_
            exact hG_ ((updF s1.1 (i * 6 + j) r8.1), r8.2) _ _ _ _ _ _ _ _ _ _ _ _ _ _ _ _ _ _ _ _ _ _ _ _ _ _ _ _ _ _ _ _ _ _ _ _ _ _ _ _ _ _ _ _ _ _ _ _ _ _ _ _ _ _ _ _ _ _ _ _ _ _ _ _ _ _ _ _ _ _ _ _ _ _ _ _ _ _ _ _ hs1 rfl (K8.new _ _ (by omega) _) (f8.new (w.heap.size + 1 + 1) (i * 6 + j) (Nat.ne_of_lt y3_BF) (.int .i64 r8.1)) (B0_8.new (w.heap.size + 1 + 1) (i * 6 + j) (Nat.ne_of_lt y3_B0) (.int .i64 r8.1)) (B1_8.new (w.heap.size + 1 + 1) (i * 6 + j) (Nat.ne_of_lt y3_B1) (.int .i64 r8.1)) (row_put B2_8 (i * 6 + j) (by omega) r8.1)
          · have Hhc2 : Hid (¬ r6.1 < 1) := hc2
            go_wp2_with fail
            refine wp_region_held_drew (S := fun _ => True) (by kernel_rfl) trivial (fun hHeld => ?_)
            refine take_at (i := 0) (v := ?v569) rfl (by kernel_rfl) (by kernel_rfl) (by kernel_rfl) (fun _ _ _ h => h) (Or.inl ⟨by rfl, ?y569⟩) hHeld ?t569
            case y569 => (intro wx hSw; go_simp <;> with_reducible rfl)
            simp only [Act.put, List.setIfInBounds_toArray, List.set_cons_zero, List.set_cons_succ]
            refine take_at (i := 1) (v := ?v570) rfl (by kernel_rfl) (by kernel_rfl) (by kernel_rfl) (fun _ _ _ h => h) (Or.inl ⟨by rfl, ?y570⟩) hHeld ?t570
            case y570 => (intro wx hSw; go_simp <;> with_reducible rfl)
            simp only [Act.put, List.setIfInBounds_toArray, List.set_cons_zero, List.set_cons_succ]
            refine take_at (i := 2) (v := ?v571) rfl (by kernel_rfl) (by kernel_rfl) (by kernel_rfl) (fun _ _ _ h => h) (Or.inl ⟨by rfl, ?y571⟩) hHeld ?t571
            case y571 => (intro wx hSw; go_simp <;> with_reducible rfl)
            simp only [Act.put, List.setIfInBounds_toArray, List.set_cons_zero, List.set_cons_succ]
            refine take_at (i := 3) (v := ?v572) rfl (by kernel_rfl) (by kernel_rfl) (by kernel_rfl) (fun _ _ _ h => h) (Or.inl ⟨by rfl, ?y572⟩) hHeld ?t572
            case y572 => (intro wx hSw; go_simp <;> with_reducible rfl)
            simp only [Act.put, List.setIfInBounds_toArray, List.set_cons_zero, List.set_cons_succ]
            refine take_at (i := 5) (v := ?v573) rfl (by kernel_rfl) (by kernel_rfl) (by kernel_rfl) (fun _ _ _ h => h) (Or.inl ⟨by rfl, ?y573⟩) hHeld ?t573
            case y573 => (intro wx hSw; have hi0 : (i : Int) < 6 := (by omega); go_simp <;> with_reducible rfl)
            simp only [Act.put, List.setIfInBounds_toArray, List.set_cons_zero, List.set_cons_succ]
            refine call_at (i := 4) (by kernel_rfl) rfl (fun K hK => ?_)
            go_simp
            refine (rSqrt_any b r6.2 r6.1 _ BF_l2.drew).mono ?_
            rintro e w7 ⟨rfl, f7, k7⟩
            generalize e7 : sqrtS r6.2 r6.1 = r7 at f7 ⊢
            have E7 : Hid _ := e7
            clear e7
            have K7 : Kept b w w7 := Kept.trans Kl2.drew k7
            have B0_7 : Arr w.heap.size (row 36 m) w7 := B0_l2.drew.kept k7 (Nat.ne_of_gt y1_BF)
            have B1_7 : Arr (w.heap.size + 1) (row 36 (fun _ => 0)) w7 := B1_l2.drew.kept k7 (Nat.ne_of_gt y2_BF)
            have B2_7 : Arr (w.heap.size + 1 + 1) (row 36 s1.1) w7 := B2_l2.drew.kept k7 (Nat.ne_of_gt y3_BF)
            have z7 := B2_7.lies
            clear hHeld
            refine hK.out _ _ trivial (fun hHeld => ?_)
            clear hK K BF_l2 B0_l2 B1_l2 B2_l2 k7
            refine take_at (i := 6) (v := ?v574) rfl (by kernel_rfl) (by kernel_rfl) (by kernel_rfl) (fun _ _ _ h => h) (Or.inl ⟨by rfl, ?y574⟩) hHeld ?t574
            case y574 => (intro wx hSw; have hi0 : (j : Int) < 6 := (by omega); go_simp <;> with_reducible rfl)
            simp only [Act.put, List.setIfInBounds_toArray, List.set_cons_zero, List.set_cons_succ]
            refine call_at (i := 7) (by kernel_rfl) rfl (fun K hK => ?_)
            have c10_B2_0 : w7.cell? ⟨w.heap.size + 1 + 1, i * 6 + j, none⟩ = some (.int .i64 (s1.1 (i * 6 + j))) := row_c B2_7 (i * 6 + j) (by omega)
            have g10_B2_1 := row_f B2_7 (i * 6 + j) (by omega)
            go_simp
            clear hHeld
            refine hK.out _ _ trivial (fun hHeld => ?_)
            clear hK K c10_B2_0 g10_B2_1
            refine wpAnyH_done (by kernel_rfl) ?_ _
            clear hHeld
            go_wp2_with fail
            have hs1 : Hid (zRootS_l1 m i (s0.1, s0.2) (j + 1) = ((updF s1.1 (i * 6 + j) r7.1), r7.2)) := by show _ = _; unfold zRootS_l1; simp only [El1.out, E3.out, E6.out, E7.out]; rw [if_pos (by have := Hhc1.out; omega)]; rw [if_neg (by have := Hhc2.out; omega)]
            rw [hJ1.out]
            intro G_ hG_
            exact hG_ ((updF s1.1 (i * 6 + j) r7.1), r7.2) _ _ _ _ _ _ _ _ _ _ _ _ _ _ _ _ _ _ _ _ _ _ _ _ _ _ _ _ _ _ _ _ _ _ _ _ _ _ _ _ _ _ _ _ _ _ _ _ _ _ _ _ _ _ _ _ _ _ _ _ _ _ _ _ _ _ _ _ _ _ _ _ _ _ _ _ _ _ _ _ hs1 rfl (K7.new _ _ (by omega) _) (f7.new (w.heap.size + 1 + 1) (i * 6 + j) (Nat.ne_of_lt y3_BF) (.int .i64 r7.1)) (B0_7.new (w.heap.size + 1 + 1) (i * 6 + j) (Nat.ne_of_lt y3_B0) (.int .i64 r7.1)) (B1_7.new (w.heap.size + 1 + 1) (i * 6 + j) (Nat.ne_of_lt y3_B1) (.int .i64 r7.1)) (row_put B2_7 (i * 6 + j) (by omega) r7.1)
        · have Hhc1 : Hid (¬ (i : Int) = (j : Int)) := hc1
          go_wp2_with fail
          refine wp_region_held_drew (S := fun w' => NearR (w.heap.size + 1 + 1) 36 s1.1 (i * 6 + j) w') (by kernel_rfl) (NearR.same B2_l2.drew) (fun hHeld => ?_)
          refine take_at (i := 0) (v := ?v575) rfl (by kernel_rfl) (by kernel_rfl) (by kernel_rfl) (fun _ _ _ h => h) (Or.inl ⟨by rfl, ?y575⟩) hHeld ?t575
          case y575 => (intro wx hSw; go_simp <;> with_reducible rfl)
          simp only [Act.put, List.setIfInBounds_toArray, List.set_cons_zero, List.set_cons_succ]
          refine take_at (i := 1) (v := ?v576) rfl (by kernel_rfl) (by kernel_rfl) (by kernel_rfl) (fun _ _ _ h => h) (Or.inl ⟨by rfl, ?y576⟩) hHeld ?t576
          case y576 => (intro wx hSw; go_simp <;> with_reducible rfl)
          simp only [Act.put, List.setIfInBounds_toArray, List.set_cons_zero, List.set_cons_succ]
          refine take_at (i := 2) (v := ?v577) rfl (by kernel_rfl) (by kernel_rfl) (by kernel_rfl) (fun _ _ _ h => h) (Or.inl ⟨by rfl, ?y577⟩) hHeld ?t577
          case y577 => (intro wx hSw; go_simp <;> with_reducible rfl)
          simp only [Act.put, List.setIfInBounds_toArray, List.set_cons_zero, List.set_cons_succ]
          refine take_at (i := 3) (v := ?v578) rfl (by kernel_rfl) (by kernel_rfl) (by kernel_rfl) (fun _ _ _ h => h) (Or.inl ⟨by rfl, ?y578⟩) hHeld ?t578
          case y578 => (intro wx hSw; go_simp <;> with_reducible rfl)
          simp only [Act.put, List.setIfInBounds_toArray, List.set_cons_zero, List.set_cons_succ]
          refine take_at (i := 4) (v := ?v579) rfl (by kernel_rfl) (by kernel_rfl) (by kernel_rfl) (fun _ _ _ h => h) (Or.inl ⟨by rfl, ?y579⟩) hHeld ?t579
          case y579 => (intro wx hSw; go_simp <;> with_reducible rfl)
          simp only [Act.put, List.setIfInBounds_toArray, List.set_cons_zero, List.set_cons_succ]
          refine take_at (i := 5) (v := ?v580) rfl (by kernel_rfl) (by kernel_rfl) (by kernel_rfl) (fun _ _ _ h => h) (Or.inl ⟨by rfl, ?y580⟩) hHeld ?t580
          case y580 => (intro wx hSw; go_simp <;> with_reducible rfl)
          simp only [Act.put, List.setIfInBounds_toArray, List.set_cons_zero, List.set_cons_succ]
          refine take_at (i := 6) (v := ?v581) rfl (by kernel_rfl) (by kernel_rfl) (by kernel_rfl) (fun _ _ _ h => h) (Or.inl ⟨by rfl, ?y581⟩) hHeld ?t581
          case y581 => (intro wx hSw; have hi0 : (j : Int) < 6 := (by omega); go_simp <;> with_reducible rfl)
          simp only [Act.put, List.setIfInBounds_toArray, List.set_cons_zero, List.set_cons_succ]
          refine take_at (i := 7) (v := ?v582) rfl (by kernel_rfl) (by kernel_rfl) (by kernel_rfl) (fun _ _ _ h => h) (Or.inl ⟨by rfl, ?y582⟩) hHeld ?t582
          case y582 => (intro wx hSw; have hi0 : (j : Int) < 6 := (by omega); go_simp <;> with_reducible rfl)
          simp only [Act.put, List.setIfInBounds_toArray, List.set_cons_zero, List.set_cons_succ]
          refine take_at (i := 8) (v := ?v583) rfl (by kernel_rfl) (by kernel_rfl) (by kernel_rfl) (fun _ _ _ h => h) (Or.inl ⟨by rfl, ?y583⟩) hHeld ?t583
          case y583 => (intro wx hSw; have hc0 : wx.cell? ⟨w.heap.size + 1 + 1, j * 6 + j, none⟩ = some (.int .i64 (s1.1 (j * 6 + j))) := near_c hSw (j * 6 + j) (by omega) (by omega); go_simp <;> with_reducible rfl)
          simp only [Act.put, List.setIfInBounds_toArray, List.set_cons_zero, List.set_cons_succ]
          refine take_at (i := 10) (v := ?v584) rfl (by kernel_rfl) (by kernel_rfl) (by kernel_rfl) (fun _ _ _ h => h) (Or.inl ⟨by rfl, ?y584⟩) hHeld ?t584
          case y584 => (intro wx hSw; have hi0 : (i : Int) < 6 := (by omega); go_simp <;> with_reducible rfl)
          simp only [Act.put, List.setIfInBounds_toArray, List.set_cons_zero, List.set_cons_succ]
          refine call_at (i := 9) (by kernel_rfl) rfl (fun K hK => ?_)
          go_simp
          refine (rDiv_any b r6.2 r6.1 (s1.1 (j * 6 + j)) _ BF_l2.drew).mono ?_
          rintro e w7 ⟨rfl, f7, k7⟩
          generalize e7 : divS r6.2 r6.1 (s1.1 (j * 6 + j)) = r7 at f7 ⊢
          have E7 : Hid _ := e7
          clear e7
          have K7 : Kept b w w7 := Kept.trans Kl2.drew k7
          have B0_7 : Arr w.heap.size (row 36 m) w7 := B0_l2.drew.kept k7 (Nat.ne_of_gt y1_BF)
          have B1_7 : Arr (w.heap.size + 1) (row 36 (fun _ => 0)) w7 := B1_l2.drew.kept k7 (Nat.ne_of_gt y2_BF)
          have B2_7 : Arr (w.heap.size + 1 + 1) (row 36 s1.1) w7 := B2_l2.drew.kept k7 (Nat.ne_of_gt y3_BF)
          have z7 := B2_7.lies
          clear hHeld
          refine hK.out _ _ (NearR.same B2_7) (fun hHeld => ?_)
          clear hK K BF_l2 B0_l2 B1_l2 B2_l2 k7
          refine take_at (i := 11) (v := ?v585) rfl (by kernel_rfl) (by kernel_rfl) (by kernel_rfl) (fun _ _ _ h => h) (Or.inl ⟨by rfl, ?y585⟩) hHeld ?t585
          case y585 => (intro wx hSw; have hi0 : (j : Int) < 6 := (by omega); go_simp <;> with_reducible rfl)
          simp only [Act.put, List.setIfInBounds_toArray, List.set_cons_zero, List.set_cons_succ]
          refine call_at (i := 12) (by kernel_rfl) rfl (fun K hK => ?_)
          have c10_B2_0 : w7.cell? ⟨w.heap.size + 1 + 1, i * 6 + j, none⟩ = some (.int .i64 (s1.1 (i * 6 + j))) := row_c B2_7 (i * 6 + j) (by omega)
          have g10_B2_1 := row_f B2_7 (i * 6 + j) (by omega)
          go_simp
          clear hHeld
          refine hK.out _ _ (NearR.upd (row_put B2_7 (i * 6 + j) (by omega) r7.1)) (fun hHeld => ?_)
          clear hK K c10_B2_0 g10_B2_1
          refine wpAnyH_done (by kernel_rfl) ?_ _
          clear hHeld
          go_wp2_with fail
          have hs1 : Hid (zRootS_l1 m i (s0.1, s0.2) (j + 1) = ((updF s1.1 (i * 6 + j) r7.1), r7.2)) := by show _ = _; unfold zRootS_l1; simp only [El1.out, E3.out, E6.out, E7.out]; rw [if_neg (by have := Hhc1.out; omega)]
          rw [hJ1.out]
          intro G_ hG_
          exact hG_ ((updF s1.1 (i * 6 + j) r7.1), r7.2) _ _ _ _ _ _ _ _ _ _ _ _ _ _ _ _ _ _ _ _ _ _ _ _ _ _ _ _ _ _ _ _ _ _ _ _ _ _ _ _ _ _ _ _ _ _ _ _ _ _ _ _ _ _ _ _ _ _ _ _ _ _ _ _ _ _ _ _ _ _ _ _ _ _ _ _ _ _ _ _ hs1 rfl (K7.new _ _ (by omega) _) (f7.new (w.heap.size + 1 + 1) (i * 6 + j) (Nat.ne_of_lt y3_BF) (.int .i64 r7.1)) (B0_7.new (w.heap.size + 1 + 1) (i * 6 + j) (Nat.ne_of_lt y3_B0) (.int .i64 r7.1)) (B1_7.new (w.heap.size + 1 + 1) (i * 6 + j) (Nat.ne_of_lt y3_B1) (.int .i64 r7.1)) (row_put B2_7 (i * 6 + j) (by omega) r7.1)
    · intro a Wl1 hI R
      rw [hJ1.out] at hI
      refine hI _ ?_
      clear hI hJ1
      intro r4 t1_1 t1_3 t1_5 t1_10 t1_11 t1_12 t1_13 t1_14 t1_15 t1_16 t1_17 t1_18 t1_19 t1_20 t1_21 t1_22 t1_23 t1_24 t1_25 t1_26 t1_27 t1_28 t1_29 t1_30 t1_31 t1_32 t1_33 t1_34 t1_35 t1_36 t1_37 t1_38 t1_39 t1_40 t1_41 t1_42 t1_43 t1_44 t1_45 t1_46 t1_47 t1_48 t1_49 t1_50 t1_51 t1_52 t1_53 t1_54 t1_55 t1_56 t1_57 t1_58 t1_59 t1_60 t1_61 t1_62 t1_63 t1_64 t1_65 t1_66 t1_67 t1_68 t1_69 t1_70 t1_71 t1_72 t1_73 t1_74 t1_75 t1_76 t1_77 t1_78 t1_79 t1_80 t1_81 t1_82 t1_83 t1_84 t1_85 t1_86 E4 ea Kl1 BF_l1 B0_l1 B1_l1 B2_l1
      subst ea
      have zl1_BF := BF_l1.lies
      have zl1_B0 := B0_l1.lies
      have zl1_B1 := B1_l1.lies
      have zl1_B2 := B2_l1.lies
      go_wp2_with fail
      have hs0 : Hid (zRootS_l0 m ((fun _ => 0), bad) (i + 1) = (r4.1, r4.2)) := by show _ = _; unfold zRootS_l0; simp only [El0.out, E4.out]
      rw [hJ0.out]
      intro G_ hG_
      exact hG_ (r4.1, r4.2) _ _ _ _ _ _ _ _ _ _ _ _ _ _ _ _ _ _ _ _ _ _ _ _ _ _ _ _ _ _ _ _ _ _ _ _ _ _ _ _ _ _ _ _ _ _ _ _ _ _ _ _ _ _ _ _ _ _ _ _ _ _ _ _ _ _ _ _ _ _ _ _ _ _ _ _ _ _ _ _ _ hs0 rfl Kl1 BF_l1 B0_l1 B1_l1 B2_l1
  · intro a Wl0 hI R
    rw [hJ0.out] at hI
    refine hI _ ?_
    clear hI hJ0
    intro r3 t0_1 t0_3 t0_5 t0_9 t0_10 t0_11 t0_12 t0_13 t0_14 t0_15 t0_16 t0_17 t0_18 t0_19 t0_20 t0_21 t0_22 t0_23 t0_24 t0_25 t0_26 t0_27 t0_28 t0_29 t0_30 t0_31 t0_32 t0_33 t0_34 t0_35 t0_36 t0_37 t0_38 t0_39 t0_40 t0_41 t0_42 t0_43 t0_44 t0_45 t0_46 t0_47 t0_48 t0_49 t0_50 t0_51 t0_52 t0_53 t0_54 t0_55 t0_56 t0_57 t0_58 t0_59 t0_60 t0_61 t0_62 t0_63 t0_64 t0_65 t0_66 t0_67 t0_68 t0_69 t0_70 t0_71 t0_72 t0_73 t0_74 t0_75 t0_76 t0_77 t0_78 t0_79 t0_80 t0_81 t0_82 t0_83 t0_84 t0_85 t0_86 E3 ea Kl0 BF_l0 B0_l0 B1_l0 B2_l0
    subst ea
    have zl0_BF := BF_l0.lies
    have zl0_B0 := B0_l0.lies
    have zl0_B1 := B1_l0.lies
    have zl0_B2 := B2_l0.lies
    rcases Bool.eq_false_or_eq_true r3.2 with hc1 | hc1
    · have Hhc1 : Hid (r3.2 = true) := hc1
      have c5_BF := BF_l0.cell
      go_wp2_with (refine store_stop rfl (by kernel_rfl) ?_)
      clear c5_BF
      refine Stop.mk (store_row (l' := row 36 (fun _ => 0)) rfl rfl rfl rfl B1_l0 (by simp only [row_len]) (by rw [row_len]; kernel_rfl) (row_one _ _) ?_)
      intro w4 B1_4 o4
      have K4 : Kept b w w4 := Kept.off Kl0 o4 (by omega)
      have BF_4 : Fl b r3.2 w4 := BF_l0.off o4 (Nat.ne_of_lt y2_BF)
      have B0_4 : Arr w.heap.size (row 36 m) w4 := B0_l0.off o4 (Nat.ne_of_lt y2_B0)
      have B2_4 : Arr (w.heap.size + 1 + 1) (row 36 r3.1) w4 := B2_l0.off o4 (Nat.ne_of_gt y3_B1)
      have z4_B1 := B1_4.lies
      have z4_BF := BF_4.lies
      have z4_B0 := B0_4.lies
      have z4_B2 := B2_4.lies
      clear B1_l0 BF_l0 B0_l0 B2_l0 o4
      go_wp2_with (with_reducible refine post_stop ?_)
      refine Stop.mk ?_
      refine bodyPost_ret (v := .agg (row 36 (fun _ => 0)).toArray) (results_arr Try.results26 B1_4 rfl (by kernel_rfl) (by rw [row_len]; kernel_rfl)) rfl ?_
      have hs : zRootS bad m n = ((fun _ => 0), r3.2) := by unfold zRootS; simp only [E3.out]; rw [if_pos Hhc1.out]
      rw [hs]
      exact ⟨rfl, BF_4, K4⟩
    · have Hhc1 : Hid (r3.2 = false) := hc1
      have c5_BF := BF_l0.cell
      go_wp2_with (first | (refine row_load rfl rfl rfl B2_l0 (by kernel_rfl) (by rw [row_len]; kernel_rfl) ?_) | (refine store_stop rfl (by kernel_rfl) ?_))
      clear c5_BF
      refine Stop.mk (store_row (l' := row 36 r3.1) rfl rfl rfl rfl B1_l0 (by simp only [row_len]) (by rw [row_len]; kernel_rfl) (row_one _ _) ?_)
      intro w4 B1_4 o4
      have K4 : Kept b w w4 := Kept.off Kl0 o4 (by omega)
      have BF_4 : Fl b r3.2 w4 := BF_l0.off o4 (Nat.ne_of_lt y2_BF)
      have B0_4 : Arr w.heap.size (row 36 m) w4 := B0_l0.off o4 (Nat.ne_of_lt y2_B0)
      have B2_4 : Arr (w.heap.size + 1 + 1) (row 36 r3.1) w4 := B2_l0.off o4 (Nat.ne_of_gt y3_B1)
      have z4_B1 := B1_4.lies
      have z4_BF := BF_4.lies
      have z4_B0 := B0_4.lies
      have z4_B2 := B2_4.lies
      clear B1_l0 BF_l0 B0_l0 B2_l0 o4
      go_wp2_with (with_reducible refine post_stop ?_)
      refine Stop.mk ?_
      refine bodyPost_ret (v := .agg (row 36 r3.1).toArray) (results_arr Try.results26 B1_4 rfl (by kernel_rfl) (by rw [row_len]; kernel_rfl)) rfl ?_
      have hs : zRootS bad m n = (r3.1, r3.2) := by unfold zRootS; simp only [E3.out]; rw [if_neg (by rw [Hhc1.out]; decide)]
      rw [hs]
      exact ⟨rfl, BF_4, K4⟩
end Go.Proofs.Ytpjobkbefgehjaa
namespace Go.Proofs.Ytpjobkbefgehjaa
open Go.RowKit

end Go.Proofs.Ytpjobkbefgehjaa
namespace Go.Proofs.Ytpjobkbefgehjaa
open Go.RowKit

end Go.Proofs.Ytpjobkbefgehjaa
namespace Go.Proofs.Ytpjobkbefgehjaa
open Go.RowKit

theorem zRoot6_any (b : Nat) (bad : Bool) (m : Nat → Int) (w : World) (hw : Fl b bad w) :
    Calls Try.prog 26 #[.pointer (some ⟨b, 0, none⟩), .agg (row 36 m).toArray, .int .i64 6] w fun e w' => e = .returned (.agg (row 36 (zRoot6 bad m).1).toArray) ∧ Fl b (zRoot6 bad m).2 w' ∧ Kept b w w' := by
  cases bad
  · rw [zRoot6_good]
    exact zRoot_any b false m 6 w hw rfl (by omega) (by omega)
  · exact zRootN_any b true m 6 w hw (size_bad 6)
end Go.Proofs.Ytpjobkbefgehjaa
