/-
  Walks of package mat, for the seat Ytcnbcdnjogopdaa. (Made by mkmat.py.)
-/
import Derived.Test.YtcnbcdnjogopdaaALeaf
import Derived.Test.YtcnbcdnjogopdaaALess
import Derived.Test.YtcnbcdnjogopdaaASound
import Derived.Handy
import Derived.Deep.RegionHeld3
namespace Go.Proofs.Ytcnbcdnjogopdaa
open Go.RowKit

set_option maxRecDepth 100000 in
set_option maxHeartbeats 2000000 in
theorem mRoot_any (b : Nat) (bad : Bool) (m : Nat → Int) (n : Nat) (w : World) (hw : Fl b bad w) (h1 : 1 ≤ n) (h6 : n ≤ 6) :
    Calls Try.prog 10 #[.pointer (some ⟨b, 0, none⟩), .agg (row 36 m).toArray, .int .i64 (n : Int)] w fun e w' => e = .returned (.agg (row 36 ((mRootS bad m n).1)).toArray) ∧ Fl b (mRootS bad m n).2 w' ∧ Kept b w w' := by
  have hl := hw.lies
  go_enter Try.func10, Try.ntmps10
  have y1_BF : b < w.heap.size := hw.lies
  have y2_BF : b < w.heap.size + 1 := (Nat.lt_succ_of_lt hw.lies)
  have y2_B0 : w.heap.size < w.heap.size + 1 := (Nat.lt_succ_self _)
  have y3_BF : b < w.heap.size + 1 + 1 := (Nat.lt_succ_of_lt (Nat.lt_succ_of_lt hw.lies))
  have y3_B0 : w.heap.size < w.heap.size + 1 + 1 := (Nat.lt_succ_of_lt (Nat.lt_succ_self _))
  have y3_B1 : w.heap.size + 1 < w.heap.size + 1 + 1 := (Nat.lt_succ_self _)
  go_wp2_with fail
  refine (mfits_any b bad (n : Int) _ (((hw.alloc _).alloc _).alloc _)).mono ?_
  rintro e w1 ⟨rfl, f1, k1⟩
  rw [(fits_in bad h1 h6)] at f1 ⊢
  dsimp only at f1 ⊢
  have K1 : Kept b w w1 := Kept.trans ((((Kept.refl b w).al _).al _).al _) k1
  have B0_1 : Arr w.heap.size (row 36 m) w1 := (((Arr_at _ _ (row 36 m) _ (by simp)).alloc _).alloc _).kept k1 (Nat.ne_of_gt y1_BF)
  have B1_1 : Arr (w.heap.size + 1) (row 36 (fun _ => 0)) w1 := ((Arr_at _ _ (row 36 (fun _ => 0)) _ (by simp)).alloc _).kept k1 (Nat.ne_of_gt y2_BF)
  have B2_1 : Arr (w.heap.size + 1 + 1) (row 36 (fun _ => 0)) w1 := (Arr_at _ _ (row 36 (fun _ => 0)) _ (by simp)).kept k1 (Nat.ne_of_gt y3_BF)
  have z1 := B2_1.lies
  clear k1
  go_wp2_with fail
  obtain ⟨J0, hJ0⟩ : ∃ J : Nat → Act → World → Prop, Hid (J = fun i a Wl0 => ∀ G_ : Prop, (∀ (s0 : (Nat → Int) × Bool) (t0_1 t0_2 t0_3 t0_5 t0_8 t0_9 t0_10 t0_11 t0_12 t0_13 t0_14 t0_17 t0_18 t0_19 t0_20 t0_21 t0_22 t0_23 t0_24 t0_25 t0_26 t0_27 t0_28 t0_29 t0_30 t0_31 t0_32 t0_33 t0_34 t0_35 t0_36 t0_37 t0_38 t0_39 t0_40 t0_41 t0_42 t0_43 t0_44 t0_45 t0_46 t0_47 t0_48 t0_49 t0_50 t0_51 t0_52 t0_53 t0_54 t0_55 t0_56 t0_57 t0_58 t0_59 t0_60 t0_61 t0_62 t0_63 t0_64 t0_65 t0_66 t0_67 t0_68 t0_69 t0_70 t0_71 t0_72 : Value), Hid (mRootS_l0 m ((fun _ => 0), bad) i = s0) → a = { tmps := #[.pointer (some ⟨b, 0, none⟩), t0_1, t0_2, t0_3, .pointer (some ⟨w.heap.size, 0, none⟩), t0_5, .pointer (some ⟨w.heap.size + 1, 0, none⟩), .pointer (some ⟨w.heap.size + 1 + 1, 0, none⟩), t0_8, t0_9, t0_10, t0_11, t0_12, t0_13, t0_14, .int .i64 (n : Int), .int .i64 (i : Int), t0_17, t0_18, t0_19, t0_20, t0_21, t0_22, t0_23, t0_24, t0_25, t0_26, t0_27, t0_28, t0_29, t0_30, t0_31, t0_32, t0_33, t0_34, t0_35, t0_36, t0_37, t0_38, t0_39, t0_40, t0_41, t0_42, t0_43, t0_44, t0_45, t0_46, t0_47, t0_48, t0_49, t0_50, t0_51, t0_52, t0_53, t0_54, t0_55, t0_56, t0_57, t0_58, t0_59, t0_60, t0_61, t0_62, t0_63, t0_64, t0_65, t0_66, t0_67, t0_68, t0_69, t0_70, t0_71, t0_72], defers := [] } → Kept b w Wl0 → Fl b s0.2 Wl0 → Arr w.heap.size (row 36 m) Wl0 → Arr (w.heap.size + 1) (row 36 (fun _ => 0)) Wl0 → Arr (w.heap.size + 1 + 1) (row 36 s0.1) Wl0 → G_) → G_) := ⟨_, rfl⟩
  refine rounds_up J0 n ?_ ?_ ?_
  · rw [hJ0.out]
    intro G_ hG_
    exact hG_ ((fun _ => 0), bad) _ _ _ _ _ _ _ _ _ _ _ _ _ _ _ _ _ _ _ _ _ _ _ _ _ _ _ _ _ _ _ _ _ _ _ _ _ _ _ _ _ _ _ _ _ _ _ _ _ _ _ _ _ _ _ _ _ _ _ _ _ _ _ _ _ _ _ rfl rfl K1 f1 B0_1 B1_1 B2_1
  · intro i a Wl0 hi hI R hR
    rw [hJ0.out] at hI
    refine hI _ ?_
    clear hI
    intro s0 t0_1 t0_2 t0_3 t0_5 t0_8 t0_9 t0_10 t0_11 t0_12 t0_13 t0_14 t0_17 t0_18 t0_19 t0_20 t0_21 t0_22 t0_23 t0_24 t0_25 t0_26 t0_27 t0_28 t0_29 t0_30 t0_31 t0_32 t0_33 t0_34 t0_35 t0_36 t0_37 t0_38 t0_39 t0_40 t0_41 t0_42 t0_43 t0_44 t0_45 t0_46 t0_47 t0_48 t0_49 t0_50 t0_51 t0_52 t0_53 t0_54 t0_55 t0_56 t0_57 t0_58 t0_59 t0_60 t0_61 t0_62 t0_63 t0_64 t0_65 t0_66 t0_67 t0_68 t0_69 t0_70 t0_71 t0_72 El0 ea Kl0 BF_l0 B0_l0 B1_l0 B2_l0
    subst ea
    have zl0_BF := BF_l0.lies
    have zl0_B0 := B0_l0.lies
    have zl0_B1 := B1_l0.lies
    have zl0_B2 := B2_l0.lies
    go_wp2_with fail
    obtain ⟨J1, hJ1⟩ : ∃ J : Nat → Act → World → Prop, Hid (J = fun j a Wl1 => ∀ G_ : Prop, (∀ (s1 : (Nat → Int) × Bool) (t1_1 t1_2 t1_3 t1_5 t1_9 t1_10 t1_11 t1_12 t1_13 t1_14 t1_17 t1_18 t1_21 t1_22 t1_23 t1_24 t1_25 t1_26 t1_27 t1_28 t1_29 t1_30 t1_31 t1_32 t1_33 t1_34 t1_35 t1_36 t1_37 t1_38 t1_39 t1_40 t1_41 t1_42 t1_43 t1_44 t1_45 t1_46 t1_47 t1_48 t1_49 t1_50 t1_51 t1_52 t1_53 t1_54 t1_55 t1_56 t1_57 t1_58 t1_59 t1_60 t1_61 t1_62 t1_63 t1_64 t1_65 t1_66 t1_67 t1_68 t1_69 t1_70 t1_71 t1_72 : Value), Hid (mRootS_l1 m i (s0.1, s0.2) j = s1) → a = { tmps := #[.pointer (some ⟨b, 0, none⟩), t1_1, t1_2, t1_3, .pointer (some ⟨w.heap.size, 0, none⟩), t1_5, .pointer (some ⟨w.heap.size + 1, 0, none⟩), .pointer (some ⟨w.heap.size + 1 + 1, 0, none⟩), .int .i64 (i : Int), t1_9, t1_10, t1_11, t1_12, t1_13, t1_14, .int .i64 (n : Int), .int .i64 (i : Int), t1_17, t1_18, .int .i64 (i : Int), .int .i64 (j : Int), t1_21, t1_22, t1_23, t1_24, t1_25, t1_26, t1_27, t1_28, t1_29, t1_30, t1_31, t1_32, t1_33, t1_34, t1_35, t1_36, t1_37, t1_38, t1_39, t1_40, t1_41, t1_42, t1_43, t1_44, t1_45, t1_46, t1_47, t1_48, t1_49, t1_50, t1_51, t1_52, t1_53, t1_54, t1_55, t1_56, t1_57, t1_58, t1_59, t1_60, t1_61, t1_62, t1_63, t1_64, t1_65, t1_66, t1_67, t1_68, t1_69, t1_70, t1_71, t1_72], defers := [] } → Kept b w Wl1 → Fl b s1.2 Wl1 → Arr w.heap.size (row 36 m) Wl1 → Arr (w.heap.size + 1) (row 36 (fun _ => 0)) Wl1 → Arr (w.heap.size + 1 + 1) (row 36 s1.1) Wl1 → G_) → G_) := ⟨_, rfl⟩
    refine rounds_up J1 i ?_ ?_ ?_
    · rw [hJ1.out]
      intro G_ hG_
      exact hG_ (s0.1, s0.2) _ _ _ _ _ _ _ _ _ _ _ _ _ _ _ _ _ _ _ _ _ _ _ _ _ _ _ _ _ _ _ _ _ _ _ _ _ _ _ _ _ _ _ _ _ _ _ _ _ _ _ _ _ _ _ _ _ _ _ _ _ _ _ _ rfl rfl Kl0 BF_l0 B0_l0 B1_l0 B2_l0
    · intro j a Wl1 hj hI R hR
      rw [hJ1.out] at hI
      refine hI _ ?_
      clear hI
      intro s1 t1_1 t1_2 t1_3 t1_5 t1_9 t1_10 t1_11 t1_12 t1_13 t1_14 t1_17 t1_18 t1_21 t1_22 t1_23 t1_24 t1_25 t1_26 t1_27 t1_28 t1_29 t1_30 t1_31 t1_32 t1_33 t1_34 t1_35 t1_36 t1_37 t1_38 t1_39 t1_40 t1_41 t1_42 t1_43 t1_44 t1_45 t1_46 t1_47 t1_48 t1_49 t1_50 t1_51 t1_52 t1_53 t1_54 t1_55 t1_56 t1_57 t1_58 t1_59 t1_60 t1_61 t1_62 t1_63 t1_64 t1_65 t1_66 t1_67 t1_68 t1_69 t1_70 t1_71 t1_72 El1 ea Kl1 BF_l1 B0_l1 B1_l1 B2_l1
      subst ea
      have zl1_BF := BF_l1.lies
      have zl1_B0 := B0_l1.lies
      have zl1_B1 := B1_l1.lies
      have zl1_B2 := B2_l1.lies
      go_wp2_with fail
      refine wp_region_held_drew (S := fun w' => Arr w.heap.size (row 36 m) w' ∧ NearR (w.heap.size + 1 + 1) 36 s1.1 (i * 6 + j) w') (by kernel_rfl) ⟨B0_l1.drew, (NearR.same B2_l1.drew)⟩ (fun hHeld => ?_)
      refine take_at (i := 0) (v := ?v203) rfl (by kernel_rfl) (by kernel_rfl) (by kernel_rfl) (fun _ _ _ h => h) (Or.inl ⟨by rfl, ?y203⟩) hHeld ?t203
      case y203 => (intro wx hSw; go_simp <;> with_reducible rfl)
      simp only [Act.put, List.setIfInBounds_toArray, List.set_cons_zero, List.set_cons_succ]
      refine take_at (i := 1) (v := ?v204) rfl (by kernel_rfl) (by kernel_rfl) (by kernel_rfl) (fun _ _ _ h => h) (Or.inl ⟨by rfl, ?y204⟩) hHeld ?t204
      case y204 => (intro wx hSw; go_simp <;> with_reducible rfl)
      simp only [Act.put, List.setIfInBounds_toArray, List.set_cons_zero, List.set_cons_succ]
      refine take_at (i := 2) (v := ?v205) rfl (by kernel_rfl) (by kernel_rfl) (by kernel_rfl) (fun _ _ _ h => h) (Or.inl ⟨by rfl, ?y205⟩) hHeld ?t205
      case y205 => (intro wx hSw; go_simp <;> with_reducible rfl)
      simp only [Act.put, List.setIfInBounds_toArray, List.set_cons_zero, List.set_cons_succ]
      refine take_at (i := 3) (v := ?v206) rfl (by kernel_rfl) (by kernel_rfl) (by kernel_rfl) (fun _ _ _ h => h) (Or.inl ⟨by rfl, ?y206⟩) hHeld ?t206
      case y206 => (intro wx hSw; go_simp <;> with_reducible rfl)
      simp only [Act.put, List.setIfInBounds_toArray, List.set_cons_zero, List.set_cons_succ]
      refine take_at (i := 4) (v := ?v207) rfl (by kernel_rfl) (by kernel_rfl) (by kernel_rfl) (fun _ _ _ h => h) (Or.inl ⟨by rfl, ?y207⟩) hHeld ?t207
      case y207 => (intro wx hSw; go_simp <;> with_reducible rfl)
      simp only [Act.put, List.setIfInBounds_toArray, List.set_cons_zero, List.set_cons_succ]
      refine take_at (i := 5) (v := ?v208) rfl (by kernel_rfl) (by kernel_rfl) (by kernel_rfl) (fun _ _ _ h => h) (Or.inl ⟨by rfl, ?y208⟩) hHeld ?t208
      case y208 => (intro wx hSw; go_simp <;> with_reducible rfl)
      simp only [Act.put, List.setIfInBounds_toArray, List.set_cons_zero, List.set_cons_succ]
      refine take_at (i := 6) (v := ?v209) rfl (by kernel_rfl) (by kernel_rfl) (by kernel_rfl) (fun _ _ _ h => h) (Or.inl ⟨by rfl, ?y209⟩) hHeld ?t209
      case y209 => (intro wx hSw; have hi0 : (i : Int) < 6 := (by omega); go_simp <;> with_reducible rfl)
      simp only [Act.put, List.setIfInBounds_toArray, List.set_cons_zero, List.set_cons_succ]
      refine take_at (i := 7) (v := ?v210) rfl (by kernel_rfl) (by kernel_rfl) (by kernel_rfl) (fun _ _ _ h => h) (Or.inl ⟨by rfl, ?y210⟩) hHeld ?t210
      case y210 => (intro wx hSw; have hi0 : (j : Int) < 6 := (by omega); go_simp <;> with_reducible rfl)
      simp only [Act.put, List.setIfInBounds_toArray, List.set_cons_zero, List.set_cons_succ]
      refine take_at (i := 8) (v := ?v211) rfl (by kernel_rfl) (by kernel_rfl) (by kernel_rfl) (fun _ _ _ h => h) (Or.inl ⟨by rfl, ?y211⟩) hHeld ?t211
      case y211 => (intro wx hSw; have hc0 : wx.cell? ⟨w.heap.size, i * 6 + j, none⟩ = some (.int .i64 (m (i * 6 + j))) := row_c hSw.1 (i * 6 + j) (by omega); go_simp <;> with_reducible rfl)
      simp only [Act.put, List.setIfInBounds_toArray, List.set_cons_zero, List.set_cons_succ]
      refine take_at (i := 9) (v := ?v212) rfl (by kernel_rfl) (by kernel_rfl) (by kernel_rfl) (fun _ _ _ h => h) (Or.inl ⟨by rfl, ?y212⟩) hHeld ?t212
      case y212 => (intro wx hSw; go_simp <;> with_reducible rfl)
      simp only [Act.put, List.setIfInBounds_toArray, List.set_cons_zero, List.set_cons_succ]
      refine take_at (i := 10) (v := ?v213) rfl (by kernel_rfl) (by kernel_rfl) (by kernel_rfl) (fun _ _ _ h => h) (Or.inl ⟨by rfl, ?y213⟩) hHeld ?t213
      case y213 => (intro wx hSw; have hi0 : (i : Int) < 6 := (by omega); go_simp <;> with_reducible rfl)
      simp only [Act.put, List.setIfInBounds_toArray, List.set_cons_zero, List.set_cons_succ]
      refine take_at (i := 12) (v := ?v214) rfl (by kernel_rfl) (by kernel_rfl) (by kernel_rfl) (fun _ _ _ h => h) (Or.inl ⟨by rfl, ?y214⟩) hHeld ?t214
      case y214 => (intro wx hSw; go_simp <;> with_reducible rfl)
      simp only [Act.put, List.setIfInBounds_toArray, List.set_cons_zero, List.set_cons_succ]
      refine take_at (i := 13) (v := ?v215) rfl (by kernel_rfl) (by kernel_rfl) (by kernel_rfl) (fun _ _ _ h => h) (Or.inl ⟨by rfl, ?y215⟩) hHeld ?t215
      case y215 => (intro wx hSw; have hi0 : (j : Int) < 6 := (by omega); go_simp <;> with_reducible rfl)
      simp only [Act.put, List.setIfInBounds_toArray, List.set_cons_zero, List.set_cons_succ]
      refine take_at (i := 14) rfl (by kernel_rfl) (by kernel_rfl) (by kernel_rfl) (fun _ _ _ h => h) (near_yield (M := 6) (by rfl) rfl rfl (fun _ hSw => hSw.2) (by omega) (by omega) (by kernel_rfl) (by rw [row_len]; kernel_rfl)) hHeld ?_
      simp only [Act.put, List.setIfInBounds_toArray, List.set_cons_zero, List.set_cons_succ]
      refine take_at (i := 15) (v := ?v216) rfl (by kernel_rfl) (by kernel_rfl) (by kernel_rfl) (fun _ _ _ h => h) (Or.inl ⟨by rfl, ?y216⟩) hHeld ?t216
      case y216 => (intro wx hSw; go_simp <;> with_reducible rfl)
      simp only [Act.put, List.setIfInBounds_toArray, List.set_cons_zero, List.set_cons_succ]
      refine take_at (i := 17) (v := ?v217) rfl (by kernel_rfl) (by kernel_rfl) (by kernel_rfl) (fun _ _ _ h => h) (Or.inl ⟨by rfl, ?y217⟩) hHeld ?t217
      case y217 => (intro wx hSw; go_simp <;> with_reducible rfl)
      simp only [Act.put, List.setIfInBounds_toArray, List.set_cons_zero, List.set_cons_succ]
      refine take_at (i := 18) (v := ?v218) rfl (by kernel_rfl) (by kernel_rfl) (by kernel_rfl) (fun _ _ _ h => h) (Or.inl ⟨by rfl, ?y218⟩) hHeld ?t218
      case y218 => (intro wx hSw; go_simp <;> with_reducible rfl)
      simp only [Act.put, List.setIfInBounds_toArray, List.set_cons_zero, List.set_cons_succ]
      refine take_at (i := 19) (v := ?v219) rfl (by kernel_rfl) (by kernel_rfl) (by kernel_rfl) (fun _ _ _ h => h) (Or.inl ⟨by rfl, ?y219⟩) hHeld ?t219
      case y219 => (intro wx hSw; have hi0 : (j : Int) < 6 := (by omega); go_simp <;> with_reducible rfl)
      simp only [Act.put, List.setIfInBounds_toArray, List.set_cons_zero, List.set_cons_succ]
      refine take_at (i := 20) (v := ?v220) rfl (by kernel_rfl) (by kernel_rfl) (by kernel_rfl) (fun _ _ _ h => h) (Or.inl ⟨by rfl, ?y220⟩) hHeld ?t220
      case y220 => (intro wx hSw; have hi0 : (j : Int) < 6 := (by omega); go_simp <;> with_reducible rfl)
      simp only [Act.put, List.setIfInBounds_toArray, List.set_cons_zero, List.set_cons_succ]
      refine take_at (i := 21) (v := ?v221) rfl (by kernel_rfl) (by kernel_rfl) (by kernel_rfl) (fun _ _ _ h => h) (Or.inl ⟨by rfl, ?y221⟩) hHeld ?t221
      case y221 => (intro wx hSw; have hc0 : wx.cell? ⟨w.heap.size + 1 + 1, j * 6 + j, none⟩ = some (.int .i64 (s1.1 (j * 6 + j))) := near_c hSw.2 (j * 6 + j) (by omega) (by omega); go_simp <;> with_reducible rfl)
      simp only [Act.put, List.setIfInBounds_toArray, List.set_cons_zero, List.set_cons_succ]
      refine take_at (i := 23) (v := ?v222) rfl (by kernel_rfl) (by kernel_rfl) (by kernel_rfl) (fun _ _ _ h => h) (Or.inl ⟨by rfl, ?y222⟩) hHeld ?t222
      case y222 => (intro wx hSw; have hi0 : (i : Int) < 6 := (by omega); go_simp <;> with_reducible rfl)
      simp only [Act.put, List.setIfInBounds_toArray, List.set_cons_zero, List.set_cons_succ]
      refine call_at (i := 11) (by kernel_rfl) rfl (fun K hK => ?_)
      refine late_part (M := 6) (by rfl) rfl rfl B2_l1.drew (by omega) (by kernel_rfl) (by rw [row_len]; kernel_rfl) ?_
      simp only [Act.put, List.setIfInBounds_toArray, List.set_cons_zero, List.set_cons_succ]
      clear hHeld
      refine hK.out _ _ ⟨B0_l1.drew, (NearR.same B2_l1.drew)⟩ (fun hHeld => ?_)
      clear hK K
      refine call_at (i := 16) (by kernel_rfl) rfl (fun K hK => ?_)
      go_simp
      refine (mless_any b s1.2 (m (i * 6 + j)) (fun x_ => s1.1 (i * 6 + x_)) (fun x_ => s1.1 (j * 6 + x_)) j _ BF_l1.drew (by omega)).mono ?_
      rintro e w2 ⟨rfl, f2, k2⟩
      generalize e2 : mlessS s1.2 (m (i * 6 + j)) (fun x_ => s1.1 (i * 6 + x_)) (fun x_ => s1.1 (j * 6 + x_)) j = r2 at f2 ⊢
      have E2 : Hid _ := e2
      clear e2
      have K2 : Kept b w w2 := Kept.trans Kl1.drew k2
      have B0_2 : Arr w.heap.size (row 36 m) w2 := B0_l1.drew.kept k2 (Nat.ne_of_gt y1_BF)
      have B1_2 : Arr (w.heap.size + 1) (row 36 (fun _ => 0)) w2 := B1_l1.drew.kept k2 (Nat.ne_of_gt y2_BF)
      have B2_2 : Arr (w.heap.size + 1 + 1) (row 36 s1.1) w2 := B2_l1.drew.kept k2 (Nat.ne_of_gt y3_BF)
      have z2 := B2_2.lies
      clear hHeld
      refine hK.out _ _ ⟨B0_2, (NearR.same B2_2)⟩ (fun hHeld => ?_)
      clear hK K BF_l1 B0_l1 B1_l1 B2_l1 k2
      refine call_at (i := 22) (by kernel_rfl) rfl (fun K hK => ?_)
      go_simp
      refine (Div_any b r2.2 r2.1 (s1.1 (j * 6 + j)) _ f2).mono ?_
      rintro e w3 ⟨rfl, f3, k3⟩
      generalize e3 : divS r2.2 r2.1 (s1.1 (j * 6 + j)) = r3 at f3 ⊢
      have E3 : Hid _ := e3
      clear e3
      have K3 : Kept b w w3 := Kept.trans K2 k3
      have B0_3 : Arr w.heap.size (row 36 m) w3 := B0_2.kept k3 (Nat.ne_of_gt y1_BF)
      have B1_3 : Arr (w.heap.size + 1) (row 36 (fun _ => 0)) w3 := B1_2.kept k3 (Nat.ne_of_gt y2_BF)
      have B2_3 : Arr (w.heap.size + 1 + 1) (row 36 s1.1) w3 := B2_2.kept k3 (Nat.ne_of_gt y3_BF)
      have z3 := B2_3.lies
      clear hHeld
      refine hK.out _ _ ⟨B0_3, (NearR.same B2_3)⟩ (fun hHeld => ?_)
      clear hK K K2 f2 B0_2 B1_2 B2_2 k3
      refine take_at (i := 24) (v := ?v223) rfl (by kernel_rfl) (by kernel_rfl) (by kernel_rfl) (fun _ _ _ h => h) (Or.inl ⟨by rfl, ?y223⟩) hHeld ?t223
      case y223 => (intro wx hSw; have hi0 : (j : Int) < 6 := (by omega); go_simp <;> with_reducible rfl)
      simp only [Act.put, List.setIfInBounds_toArray, List.set_cons_zero, List.set_cons_succ]
      refine call_at (i := 25) (by kernel_rfl) rfl (fun K hK => ?_)
      have c5_B2_0 : w3.cell? ⟨w.heap.size + 1 + 1, i * 6 + j, none⟩ = some (.int .i64 (s1.1 (i * 6 + j))) := row_c B2_3 (i * 6 + j) (by omega)
      have g5_B2_1 := row_f B2_3 (i * 6 + j) (by omega)
      go_simp
      clear hHeld
      refine hK.out _ _ ⟨(B0_3.new (w.heap.size + 1 + 1) (i * 6 + j) (Nat.ne_of_lt y3_B0) (.int .i64 r3.1)), (NearR.upd (row_put B2_3 (i * 6 + j) (by omega) r3.1))⟩ (fun hHeld => ?_)
      clear hK K c5_B2_0 g5_B2_1
      refine wpAnyH_done (by kernel_rfl) ?_ _
      clear hHeld
      go_wp2_with fail
      have hs1 : Hid (mRootS_l1 m i (s0.1, s0.2) (j + 1) = ((updF s1.1 (i * 6 + j) r3.1), r3.2)) := by show _ = _; unfold mRootS_l1; simp only [El1.out, E2.out, E3.out]
      rw [hJ1.out]
      intro G_ hG_
      exact hG_ ((updF s1.1 (i * 6 + j) r3.1), r3.2) _ _ _ _ _ _ _ _ _ _ _ _ _ _ _ _ _ _ _ _ _ _ _ _ _ _ _ _ _ _ _ _ _ _ _ _ _ _ _ _ _ _ _ _ _ _ _ _ _ _ _ _ _ _ _ _ _ _ _ _ _ _ _ _ hs1 rfl (K3.new _ _ (by omega) _) (f3.new (w.heap.size + 1 + 1) (i * 6 + j) (Nat.ne_of_lt y3_BF) (.int .i64 r3.1)) (B0_3.new (w.heap.size + 1 + 1) (i * 6 + j) (Nat.ne_of_lt y3_B0) (.int .i64 r3.1)) (B1_3.new (w.heap.size + 1 + 1) (i * 6 + j) (Nat.ne_of_lt y3_B1) (.int .i64 r3.1)) (row_put B2_3 (i * 6 + j) (by omega) r3.1)
    · intro a Wl1 hI R
      rw [hJ1.out] at hI
      refine hI _ ?_
      clear hI hJ1
      intro r4 t1_1 t1_2 t1_3 t1_5 t1_9 t1_10 t1_11 t1_12 t1_13 t1_14 t1_17 t1_18 t1_21 t1_22 t1_23 t1_24 t1_25 t1_26 t1_27 t1_28 t1_29 t1_30 t1_31 t1_32 t1_33 t1_34 t1_35 t1_36 t1_37 t1_38 t1_39 t1_40 t1_41 t1_42 t1_43 t1_44 t1_45 t1_46 t1_47 t1_48 t1_49 t1_50 t1_51 t1_52 t1_53 t1_54 t1_55 t1_56 t1_57 t1_58 t1_59 t1_60 t1_61 t1_62 t1_63 t1_64 t1_65 t1_66 t1_67 t1_68 t1_69 t1_70 t1_71 t1_72 E4 ea Kl1 BF_l1 B0_l1 B1_l1 B2_l1
      subst ea
      have zl1_BF := BF_l1.lies
      have zl1_B0 := B0_l1.lies
      have zl1_B1 := B1_l1.lies
      have zl1_B2 := B2_l1.lies
      go_wp2_with fail
      refine get_cont (fun KK3 hKK3 => ?_)
      have cont3 : ∀ (W3 : World) (t3_3 t3_5 t3_10 t3_11 t3_12 t3_13 t3_14 t3_17 t3_18 t3_21 t3_22 t3_23 t3_24 t3_25 t3_26 t3_27 t3_28 t3_29 t3_30 t3_31 t3_32 t3_33 t3_34 t3_35 t3_36 t3_37 t3_38 t3_39 t3_40 t3_41 t3_42 t3_43 t3_44 t3_45 t3_46 t3_47 t3_48 t3_49 t3_50 t3_51 t3_52 t3_53 t3_54 t3_55 t3_56 t3_57 t3_58 t3_59 t3_60 t3_61 t3_62 t3_63 t3_64 t3_65 t3_66 t3_67 t3_68 t3_69 t3_70 t3_71 t3_72 : Value) (r5 : _) (r6 : _) , Hid (mlessS r4.2 (m (i * 6 + i)) (fun x_ => r4.1 (i * 6 + x_)) (fun x_ => r4.1 (i * 6 + x_)) i = r5) → Hid (mpivotS r5.2 r5.1 = r6) → Kept b w W3 → Fl b r6.2 W3 → Arr w.heap.size (row 36 m) W3 → Arr (w.heap.size + 1) (row 36 (fun _ => 0)) W3 → Arr (w.heap.size + 1 + 1) (row 36 (updF r4.1 (i * 6 + i) r6.1)) W3 → KK3 { tmps := #[.pointer (some ⟨b, 0, none⟩), t1_1, t1_2, t3_3, .pointer (some ⟨w.heap.size, 0, none⟩), t3_5, .pointer (some ⟨w.heap.size + 1, 0, none⟩), .pointer (some ⟨w.heap.size + 1 + 1, 0, none⟩), .int .i64 (i : Int), t1_9, t3_10, t3_11, t3_12, t3_13, t3_14, .int .i64 (n : Int), .int .i64 (i : Int), t3_17, t3_18, .int .i64 (i : Int), .int .i64 (i : Int), t3_21, t3_22, t3_23, t3_24, t3_25, t3_26, t3_27, t3_28, t3_29, t3_30, t3_31, t3_32, t3_33, t3_34, t3_35, t3_36, t3_37, t3_38, t3_39, t3_40, t3_41, t3_42, t3_43, t3_44, t3_45, t3_46, t3_47, t3_48, t3_49, t3_50, t3_51, t3_52, t3_53, t3_54, t3_55, t3_56, t3_57, t3_58, t3_59, t3_60, t3_61, t3_62, t3_63, t3_64, t3_65, t3_66, t3_67, t3_68, t3_69, t3_70, t3_71, t3_72], defers := [] } W3 := by
        intro W3 t3_3 t3_5 t3_10 t3_11 t3_12 t3_13 t3_14 t3_17 t3_18 t3_21 t3_22 t3_23 t3_24 t3_25 t3_26 t3_27 t3_28 t3_29 t3_30 t3_31 t3_32 t3_33 t3_34 t3_35 t3_36 t3_37 t3_38 t3_39 t3_40 t3_41 t3_42 t3_43 t3_44 t3_45 t3_46 t3_47 t3_48 t3_49 t3_50 t3_51 t3_52 t3_53 t3_54 t3_55 t3_56 t3_57 t3_58 t3_59 t3_60 t3_61 t3_62 t3_63 t3_64 t3_65 t3_66 t3_67 t3_68 t3_69 t3_70 t3_71 t3_72 r5 r6 E5 E6 KC3 BF_c3 B0_c3 B1_c3 B2_c3
        have zc3_BF := BF_c3.lies
        have zc3_B0 := B0_c3.lies
        have zc3_B1 := B1_c3.lies
        have zc3_B2 := B2_c3.lies
        rw [hKK3.out]
        dsimp only [Exit.inBlock, Exit.then]
        first | refine use_cont (by assumption) ?_ | skip
        have i8_0 : (i : Int) < 6 := by omega
        go_wp2_with fail
        clear i8_0
        have hs0 : Hid (mRootS_l0 m ((fun _ => 0), bad) (i + 1) = ((updF r4.1 (i * 6 + i) r6.1), r6.2)) := by show _ = _; unfold mRootS_l0; simp only [El0.out, E4.out, E5.out, E6.out]
        rw [hJ0.out]
        intro G_ hG_
        exact hG_ ((updF r4.1 (i * 6 + i) r6.1), r6.2) _ _ _ _ _ _ _ _ _ _ _ _ _ _ _ _ _ _ _ _ _ _ _ _ _ _ _ _ _ _ _ _ _ _ _ _ _ _ _ _ _ _ _ _ _ _ _ _ _ _ _ _ _ _ _ _ _ _ _ _ _ _ _ _ _ _ _ hs0 rfl KC3 BF_c3 B0_c3 B1_c3 B2_c3
      refine wp_region_held_drew (S := fun w' => Arr w.heap.size (row 36 m) w' ∧ NearR (w.heap.size + 1 + 1) 36 r4.1 (i * 6 + i) w') (by kernel_rfl) ⟨B0_l1.drew, (NearR.same B2_l1.drew)⟩ (fun hHeld => ?_)
      refine take_at (i := 0) (v := ?v224) rfl (by kernel_rfl) (by kernel_rfl) (by kernel_rfl) (fun _ _ _ h => h) (Or.inl ⟨by rfl, ?y224⟩) hHeld ?t224
      case y224 => (intro wx hSw; go_simp <;> with_reducible rfl)
      simp only [Act.put, List.setIfInBounds_toArray, List.set_cons_zero, List.set_cons_succ]
      refine take_at (i := 1) (v := ?v225) rfl (by kernel_rfl) (by kernel_rfl) (by kernel_rfl) (fun _ _ _ h => h) (Or.inl ⟨by rfl, ?y225⟩) hHeld ?t225
      case y225 => (intro wx hSw; go_simp <;> with_reducible rfl)
      simp only [Act.put, List.setIfInBounds_toArray, List.set_cons_zero, List.set_cons_succ]
      refine take_at (i := 2) (v := ?v226) rfl (by kernel_rfl) (by kernel_rfl) (by kernel_rfl) (fun _ _ _ h => h) (Or.inl ⟨by rfl, ?y226⟩) hHeld ?t226
      case y226 => (intro wx hSw; go_simp <;> with_reducible rfl)
      simp only [Act.put, List.setIfInBounds_toArray, List.set_cons_zero, List.set_cons_succ]
      refine take_at (i := 3) (v := ?v227) rfl (by kernel_rfl) (by kernel_rfl) (by kernel_rfl) (fun _ _ _ h => h) (Or.inl ⟨by rfl, ?y227⟩) hHeld ?t227
      case y227 => (intro wx hSw; go_simp <;> with_reducible rfl)
      simp only [Act.put, List.setIfInBounds_toArray, List.set_cons_zero, List.set_cons_succ]
      refine take_at (i := 4) (v := ?v228) rfl (by kernel_rfl) (by kernel_rfl) (by kernel_rfl) (fun _ _ _ h => h) (Or.inl ⟨by rfl, ?y228⟩) hHeld ?t228
      case y228 => (intro wx hSw; go_simp <;> with_reducible rfl)
      simp only [Act.put, List.setIfInBounds_toArray, List.set_cons_zero, List.set_cons_succ]
      refine take_at (i := 5) (v := ?v229) rfl (by kernel_rfl) (by kernel_rfl) (by kernel_rfl) (fun _ _ _ h => h) (Or.inl ⟨by rfl, ?y229⟩) hHeld ?t229
      case y229 => (intro wx hSw; go_simp <;> with_reducible rfl)
      simp only [Act.put, List.setIfInBounds_toArray, List.set_cons_zero, List.set_cons_succ]
      refine take_at (i := 6) (v := ?v230) rfl (by kernel_rfl) (by kernel_rfl) (by kernel_rfl) (fun _ _ _ h => h) (Or.inl ⟨by rfl, ?y230⟩) hHeld ?t230
      case y230 => (intro wx hSw; have hi0 : (i : Int) < 6 := (by omega); go_simp <;> with_reducible rfl)
      simp only [Act.put, List.setIfInBounds_toArray, List.set_cons_zero, List.set_cons_succ]
      refine take_at (i := 7) (v := ?v231) rfl (by kernel_rfl) (by kernel_rfl) (by kernel_rfl) (fun _ _ _ h => h) (Or.inl ⟨by rfl, ?y231⟩) hHeld ?t231
      case y231 => (intro wx hSw; have hi0 : (i : Int) < 6 := (by omega); go_simp <;> with_reducible rfl)
      simp only [Act.put, List.setIfInBounds_toArray, List.set_cons_zero, List.set_cons_succ]
      refine take_at (i := 8) (v := ?v232) rfl (by kernel_rfl) (by kernel_rfl) (by kernel_rfl) (fun _ _ _ h => h) (Or.inl ⟨by rfl, ?y232⟩) hHeld ?t232
      case y232 => (intro wx hSw; have hc0 : wx.cell? ⟨w.heap.size, i * 6 + i, none⟩ = some (.int .i64 (m (i * 6 + i))) := row_c hSw.1 (i * 6 + i) (by omega); go_simp <;> with_reducible rfl)
      simp only [Act.put, List.setIfInBounds_toArray, List.set_cons_zero, List.set_cons_succ]
      refine take_at (i := 9) (v := ?v233) rfl (by kernel_rfl) (by kernel_rfl) (by kernel_rfl) (fun _ _ _ h => h) (Or.inl ⟨by rfl, ?y233⟩) hHeld ?t233
      case y233 => (intro wx hSw; go_simp <;> with_reducible rfl)
      simp only [Act.put, List.setIfInBounds_toArray, List.set_cons_zero, List.set_cons_succ]
      refine take_at (i := 10) (v := ?v234) rfl (by kernel_rfl) (by kernel_rfl) (by kernel_rfl) (fun _ _ _ h => h) (Or.inl ⟨by rfl, ?y234⟩) hHeld ?t234
      case y234 => (intro wx hSw; have hi0 : (i : Int) < 6 := (by omega); go_simp <;> with_reducible rfl)
      simp only [Act.put, List.setIfInBounds_toArray, List.set_cons_zero, List.set_cons_succ]
      refine take_at (i := 12) (v := ?v235) rfl (by kernel_rfl) (by kernel_rfl) (by kernel_rfl) (fun _ _ _ h => h) (Or.inl ⟨by rfl, ?y235⟩) hHeld ?t235
      case y235 => (intro wx hSw; go_simp <;> with_reducible rfl)
      simp only [Act.put, List.setIfInBounds_toArray, List.set_cons_zero, List.set_cons_succ]
      refine take_at (i := 13) (v := ?v236) rfl (by kernel_rfl) (by kernel_rfl) (by kernel_rfl) (fun _ _ _ h => h) (Or.inl ⟨by rfl, ?y236⟩) hHeld ?t236
      case y236 => (intro wx hSw; have hi0 : (i : Int) < 6 := (by omega); go_simp <;> with_reducible rfl)
      simp only [Act.put, List.setIfInBounds_toArray, List.set_cons_zero, List.set_cons_succ]
      refine take_at (i := 15) (v := ?v237) rfl (by kernel_rfl) (by kernel_rfl) (by kernel_rfl) (fun _ _ _ h => h) (Or.inl ⟨by rfl, ?y237⟩) hHeld ?t237
      case y237 => (intro wx hSw; go_simp <;> with_reducible rfl)
      simp only [Act.put, List.setIfInBounds_toArray, List.set_cons_zero, List.set_cons_succ]
      refine take_at (i := 18) (v := ?v238) rfl (by kernel_rfl) (by kernel_rfl) (by kernel_rfl) (fun _ _ _ h => h) (Or.inl ⟨by rfl, ?y238⟩) hHeld ?t238
      case y238 => (intro wx hSw; have hi0 : (i : Int) < 6 := (by omega); go_simp <;> with_reducible rfl)
      simp only [Act.put, List.setIfInBounds_toArray, List.set_cons_zero, List.set_cons_succ]
      refine call_at2 (i0 := 11) (i1 := 14) (by kernel_rfl) rfl rfl (fun K hK => ?_) (fun K hK => ?_)
      · refine late_part (M := 6) (by rfl) rfl rfl B2_l1.drew (by omega) (by kernel_rfl) (by rw [row_len]; kernel_rfl) ?_
        simp only [Act.put, List.setIfInBounds_toArray, List.set_cons_zero, List.set_cons_succ]
        clear hHeld
        refine hK.out _ _ ⟨B0_l1.drew, (NearR.same B2_l1.drew)⟩ (fun hHeld => ?_)
        clear hK K
        refine call_at (i := 14) (by kernel_rfl) rfl (fun K hK => ?_)
        refine late_part (M := 6) (by rfl) rfl rfl B2_l1.drew (by omega) (by kernel_rfl) (by rw [row_len]; kernel_rfl) ?_
        simp only [Act.put, List.setIfInBounds_toArray, List.set_cons_zero, List.set_cons_succ]
        clear hHeld
        refine hK.out _ _ ⟨B0_l1.drew, (NearR.same B2_l1.drew)⟩ (fun hHeld => ?_)
        clear hK K
        refine call_at (i := 16) (by kernel_rfl) rfl (fun K hK => ?_)
        go_simp
        refine (mless_any b r4.2 (m (i * 6 + i)) (fun x_ => r4.1 (i * 6 + x_)) (fun x_ => r4.1 (i * 6 + x_)) i _ BF_l1.drew (by omega)).mono ?_
        rintro e w5 ⟨rfl, f5, k5⟩
        generalize e5 : mlessS r4.2 (m (i * 6 + i)) (fun x_ => r4.1 (i * 6 + x_)) (fun x_ => r4.1 (i * 6 + x_)) i = r5 at f5 ⊢
        have E5 : Hid _ := e5
        clear e5
        have K5 : Kept b w w5 := Kept.trans Kl1.drew k5
        have B0_5 : Arr w.heap.size (row 36 m) w5 := B0_l1.drew.kept k5 (Nat.ne_of_gt y1_BF)
        have B1_5 : Arr (w.heap.size + 1) (row 36 (fun _ => 0)) w5 := B1_l1.drew.kept k5 (Nat.ne_of_gt y2_BF)
        have B2_5 : Arr (w.heap.size + 1 + 1) (row 36 r4.1) w5 := B2_l1.drew.kept k5 (Nat.ne_of_gt y3_BF)
        have z5 := B2_5.lies
        clear hHeld
        refine hK.out _ _ ⟨B0_5, (NearR.same B2_5)⟩ (fun hHeld => ?_)
        clear hK K BF_l1 B0_l1 B1_l1 B2_l1 k5
        refine call_at (i := 17) (by kernel_rfl) rfl (fun K hK => ?_)
        go_simp
        refine (mpivot_any b r5.2 r5.1 _ f5).mono ?_
        rintro e w6 ⟨rfl, f6, k6⟩
        generalize e6 : mpivotS r5.2 r5.1 = r6 at f6 ⊢
        have E6 : Hid _ := e6
        clear e6
        have K6 : Kept b w w6 := Kept.trans K5 k6
        have B0_6 : Arr w.heap.size (row 36 m) w6 := B0_5.kept k6 (Nat.ne_of_gt y1_BF)
        have B1_6 : Arr (w.heap.size + 1) (row 36 (fun _ => 0)) w6 := B1_5.kept k6 (Nat.ne_of_gt y2_BF)
        have B2_6 : Arr (w.heap.size + 1 + 1) (row 36 r4.1) w6 := B2_5.kept k6 (Nat.ne_of_gt y3_BF)
        have z6 := B2_6.lies
        clear hHeld
        refine hK.out _ _ ⟨B0_6, (NearR.same B2_6)⟩ (fun hHeld => ?_)
        clear hK K K5 f5 B0_5 B1_5 B2_5 k6
        refine take_at (i := 19) (v := ?v239) rfl (by kernel_rfl) (by kernel_rfl) (by kernel_rfl) (fun _ _ _ h => h) (Or.inl ⟨by rfl, ?y239⟩) hHeld ?t239
        case y239 => (intro wx hSw; have hi0 : (i : Int) < 6 := (by omega); go_simp <;> with_reducible rfl)
        simp only [Act.put, List.setIfInBounds_toArray, List.set_cons_zero, List.set_cons_succ]
        refine call_at (i := 20) (by kernel_rfl) rfl (fun K hK => ?_)
        have c8_B2_0 : w6.cell? ⟨w.heap.size + 1 + 1, i * 6 + i, none⟩ = some (.int .i64 (r4.1 (i * 6 + i))) := row_c B2_6 (i * 6 + i) (by omega)
        have g8_B2_1 := row_f B2_6 (i * 6 + i) (by omega)
        go_simp
        clear hHeld
        refine hK.out _ _ ⟨(B0_6.new (w.heap.size + 1 + 1) (i * 6 + i) (Nat.ne_of_lt y3_B0) (.int .i64 r6.1)), (NearR.upd (row_put B2_6 (i * 6 + i) (by omega) r6.1))⟩ (fun hHeld => ?_)
        clear hK K c8_B2_0 g8_B2_1
        refine wpAnyH_done (by kernel_rfl) ?_ _
        clear hHeld
        refine put_cont hKK3 ?_
        exact cont3 _ _ _ _ _ _ _ _ _ _ _ _ _ _ _ _ _ _ _ _ _ _ _ _ _ _ _ _ _ _ _ _ _ _ _ _ _ _ _ _ _ _ _ _ _ _ _ _ _ _ _ _ _ _ _ _ _ _ _ _ _ _ r5 r6 E5 E6 (K6.new _ _ (by omega) _) (f6.new (w.heap.size + 1 + 1) (i * 6 + i) (Nat.ne_of_lt y3_BF) (.int .i64 r6.1)) (B0_6.new (w.heap.size + 1 + 1) (i * 6 + i) (Nat.ne_of_lt y3_B0) (.int .i64 r6.1)) (B1_6.new (w.heap.size + 1 + 1) (i * 6 + i) (Nat.ne_of_lt y3_B1) (.int .i64 r6.1)) (row_put B2_6 (i * 6 + i) (by omega) r6.1)
      · refine late_part (M := 6) (by rfl) rfl rfl B2_l1.drew (by omega) (by kernel_rfl) (by rw [row_len]; kernel_rfl) ?_
        simp only [Act.put, List.setIfInBounds_toArray, List.set_cons_zero, List.set_cons_succ]
        clear hHeld
        refine hK.out _ _ ⟨B0_l1.drew, (NearR.same B2_l1.drew)⟩ (fun hHeld => ?_)
        clear hK K
        refine call_at (i := 11) (by kernel_rfl) rfl (fun K hK => ?_)
        refine late_part (M := 6) (by rfl) rfl rfl B2_l1.drew (by omega) (by kernel_rfl) (by rw [row_len]; kernel_rfl) ?_
        simp only [Act.put, List.setIfInBounds_toArray, List.set_cons_zero, List.set_cons_succ]
        clear hHeld
        refine hK.out _ _ ⟨B0_l1.drew, (NearR.same B2_l1.drew)⟩ (fun hHeld => ?_)
        clear hK K
        refine call_at (i := 16) (by kernel_rfl) rfl (fun K hK => ?_)
        go_simp
        refine (mless_any b r4.2 (m (i * 6 + i)) (fun x_ => r4.1 (i * 6 + x_)) (fun x_ => r4.1 (i * 6 + x_)) i _ BF_l1.drew (by omega)).mono ?_
        rintro e w5 ⟨rfl, f5, k5⟩
        generalize e5 : mlessS r4.2 (m (i * 6 + i)) (fun x_ => r4.1 (i * 6 + x_)) (fun x_ => r4.1 (i * 6 + x_)) i = r5 at f5 ⊢
        have E5 : Hid _ := e5
        clear e5
        have K5 : Kept b w w5 := Kept.trans Kl1.drew k5
        have B0_5 : Arr w.heap.size (row 36 m) w5 := B0_l1.drew.kept k5 (Nat.ne_of_gt y1_BF)
        have B1_5 : Arr (w.heap.size + 1) (row 36 (fun _ => 0)) w5 := B1_l1.drew.kept k5 (Nat.ne_of_gt y2_BF)
        have B2_5 : Arr (w.heap.size + 1 + 1) (row 36 r4.1) w5 := B2_l1.drew.kept k5 (Nat.ne_of_gt y3_BF)
        have z5 := B2_5.lies
        clear hHeld
        refine hK.out _ _ ⟨B0_5, (NearR.same B2_5)⟩ (fun hHeld => ?_)
        clear hK K BF_l1 B0_l1 B1_l1 B2_l1 k5
        refine call_at (i := 17) (by kernel_rfl) rfl (fun K hK => ?_)
        go_simp
        refine (mpivot_any b r5.2 r5.1 _ f5).mono ?_
        rintro e w6 ⟨rfl, f6, k6⟩
        generalize e6 : mpivotS r5.2 r5.1 = r6 at f6 ⊢
        have E6 : Hid _ := e6
        clear e6
        have K6 : Kept b w w6 := Kept.trans K5 k6
        have B0_6 : Arr w.heap.size (row 36 m) w6 := B0_5.kept k6 (Nat.ne_of_gt y1_BF)
        have B1_6 : Arr (w.heap.size + 1) (row 36 (fun _ => 0)) w6 := B1_5.kept k6 (Nat.ne_of_gt y2_BF)
        have B2_6 : Arr (w.heap.size + 1 + 1) (row 36 r4.1) w6 := B2_5.kept k6 (Nat.ne_of_gt y3_BF)
        have z6 := B2_6.lies
        clear hHeld
        refine hK.out _ _ ⟨B0_6, (NearR.same B2_6)⟩ (fun hHeld => ?_)
        clear hK K K5 f5 B0_5 B1_5 B2_5 k6
        refine take_at (i := 19) (v := ?v240) rfl (by kernel_rfl) (by kernel_rfl) (by kernel_rfl) (fun _ _ _ h => h) (Or.inl ⟨by rfl, ?y240⟩) hHeld ?t240
        case y240 => (intro wx hSw; have hi0 : (i : Int) < 6 := (by omega); go_simp <;> with_reducible rfl)
        simp only [Act.put, List.setIfInBounds_toArray, List.set_cons_zero, List.set_cons_succ]
        refine call_at (i := 20) (by kernel_rfl) rfl (fun K hK => ?_)
        have c8_B2_0 : w6.cell? ⟨w.heap.size + 1 + 1, i * 6 + i, none⟩ = some (.int .i64 (r4.1 (i * 6 + i))) := row_c B2_6 (i * 6 + i) (by omega)
        have g8_B2_1 := row_f B2_6 (i * 6 + i) (by omega)
        go_simp
        clear hHeld
        refine hK.out _ _ ⟨(B0_6.new (w.heap.size + 1 + 1) (i * 6 + i) (Nat.ne_of_lt y3_B0) (.int .i64 r6.1)), (NearR.upd (row_put B2_6 (i * 6 + i) (by omega) r6.1))⟩ (fun hHeld => ?_)
        clear hK K c8_B2_0 g8_B2_1
        refine wpAnyH_done (by kernel_rfl) ?_ _
        clear hHeld
        refine put_cont hKK3 ?_
        exact cont3 _ _ _ _ _ _ _ _ _ _ _ _ _ _ _ _ _ _ _ _ _ _ _ _ _ _ _ _ _ _ _ _ _ _ _ _ _ _ _ _ _ _ _ _ _ _ _ _ _ _ _ _ _ _ _ _ _ _ _ _ _ _ r5 r6 E5 E6 (K6.new _ _ (by omega) _) (f6.new (w.heap.size + 1 + 1) (i * 6 + i) (Nat.ne_of_lt y3_BF) (.int .i64 r6.1)) (B0_6.new (w.heap.size + 1 + 1) (i * 6 + i) (Nat.ne_of_lt y3_B0) (.int .i64 r6.1)) (B1_6.new (w.heap.size + 1 + 1) (i * 6 + i) (Nat.ne_of_lt y3_B1) (.int .i64 r6.1)) (row_put B2_6 (i * 6 + i) (by omega) r6.1)
  · intro a Wl0 hI R
    rw [hJ0.out] at hI
    refine hI _ ?_
    clear hI hJ0
    intro r2 t0_1 t0_2 t0_3 t0_5 t0_8 t0_9 t0_10 t0_11 t0_12 t0_13 t0_14 t0_17 t0_18 t0_19 t0_20 t0_21 t0_22 t0_23 t0_24 t0_25 t0_26 t0_27 t0_28 t0_29 t0_30 t0_31 t0_32 t0_33 t0_34 t0_35 t0_36 t0_37 t0_38 t0_39 t0_40 t0_41 t0_42 t0_43 t0_44 t0_45 t0_46 t0_47 t0_48 t0_49 t0_50 t0_51 t0_52 t0_53 t0_54 t0_55 t0_56 t0_57 t0_58 t0_59 t0_60 t0_61 t0_62 t0_63 t0_64 t0_65 t0_66 t0_67 t0_68 t0_69 t0_70 t0_71 t0_72 E2 ea Kl0 BF_l0 B0_l0 B1_l0 B2_l0
    subst ea
    have zl0_BF := BF_l0.lies
    have zl0_B0 := B0_l0.lies
    have zl0_B1 := B1_l0.lies
    have zl0_B2 := B2_l0.lies
    go_wp2_with (refine row_load rfl rfl rfl B2_l0 (by kernel_rfl) (by rw [row_len]; kernel_rfl) ?_)
    refine (msoundM_any b r2.2 r2.1 _ BF_l0).mono ?_
    rintro e w3 ⟨rfl, f3, k3⟩
    generalize e3 : msoundMS r2.2 r2.1 = r3 at f3 ⊢
    have E3 : Hid _ := e3
    clear e3
    have K3 : Kept b w w3 := Kept.trans Kl0 k3
    have B0_3 : Arr w.heap.size (row 36 m) w3 := B0_l0.kept k3 (Nat.ne_of_gt y1_BF)
    have B1_3 : Arr (w.heap.size + 1) (row 36 (fun _ => 0)) w3 := B1_l0.kept k3 (Nat.ne_of_gt y2_BF)
    have B2_3 : Arr (w.heap.size + 1 + 1) (row 36 r2.1) w3 := B2_l0.kept k3 (Nat.ne_of_gt y3_BF)
    have z3 := B2_3.lies
    clear BF_l0 B0_l0 B1_l0 B2_l0 k3
    go_wp2_with (refine store_stop rfl (by kernel_rfl) ?_)
    refine Stop.mk (store_row (l' := row 36 r3.1) rfl rfl rfl rfl B1_3 (by simp only [row_len]) (by rw [row_len]; kernel_rfl) (row_one _ _) ?_)
    intro w4 B1_4 o4
    have K4 : Kept b w w4 := Kept.off K3 o4 (by omega)
    have BF_4 : Fl b r3.2 w4 := f3.off o4 (Nat.ne_of_lt y2_BF)
    have B0_4 : Arr w.heap.size (row 36 m) w4 := B0_3.off o4 (Nat.ne_of_lt y2_B0)
    have B2_4 : Arr (w.heap.size + 1 + 1) (row 36 r2.1) w4 := B2_3.off o4 (Nat.ne_of_gt y3_B1)
    have z4_B1 := B1_4.lies
    have z4_BF := BF_4.lies
    have z4_B0 := B0_4.lies
    have z4_B2 := B2_4.lies
    clear K3 B1_3 f3 B0_3 B2_3 o4
    go_wp2_with (with_reducible refine post_stop ?_)
    refine Stop.mk ?_
    refine bodyPost_ret (v := .agg (row 36 r3.1).toArray) (results_arr Try.results10 B1_4 rfl (by kernel_rfl) (by rw [row_len]; kernel_rfl)) rfl ?_
    have hs : mRootS bad m n = (r3.1, r3.2) := by unfold mRootS; simp only [E2.out, E3.out]
    rw [hs]
    exact ⟨rfl, BF_4, K4⟩
end Go.Proofs.Ytcnbcdnjogopdaa
