/-
  Walks of package mat, for the seat Ytcnbcdnjogopdaa. (Made by mkmat.py.)
-/
import Derived.Test.YtcnbcdnjogopdaaASpec
import Derived.Test.YtcnbcdnjogopdaaMeth
import Derived.Handy
import Derived.Deep.RegionHeld3
namespace Go.Proofs.Ytcnbcdnjogopdaa
open Go.RowKit

set_option maxRecDepth 100000 in
set_option maxHeartbeats 2000000 in
theorem msum_any (b : Nat) (bad : Bool) (p : Nat → Int) (q : Nat → Int) (n : Nat) (w : World) (hw : Fl b bad w) (h6 : n ≤ 6) :
    Calls Try.prog 35 #[.pointer (some ⟨b, 0, none⟩), .agg (row 6 p).toArray, .agg (row 6 q).toArray, .int .i64 (n : Int)] w fun e w' => e = .returned (.int .i64 ((msumS bad p q n).1)) ∧ Fl b (msumS bad p q n).2 w' ∧ Kept b w w' := by
  have hl := hw.lies
  go_enter Try.func35, Try.ntmps35
  have y1_BF : b < w.heap.size := hw.lies
  have y2_BF : b < w.heap.size + 1 := (Nat.lt_succ_of_lt hw.lies)
  have y2_B0 : w.heap.size < w.heap.size + 1 := (Nat.lt_succ_self _)
  go_wp2_with fail
  obtain ⟨J0, hJ0⟩ : ∃ J : Nat → Act → World → Prop, Hid (J = fun k a Wl0 => ∀ G_ : Prop, (∀ (s0 : Int × Bool) (t0_1 t0_2 t0_3 t0_4 t0_7 t0_8 t0_10 t0_13 t0_14 t0_15 t0_16 t0_17 t0_18 t0_19 t0_20 t0_21 t0_22 t0_23 t0_24 t0_25 t0_26 t0_27 : Value), Hid (msumS_l0 p q (0, bad) k = s0) → a = { tmps := #[.pointer (some ⟨b, 0, none⟩), t0_1, t0_2, t0_3, t0_4, .pointer (some ⟨w.heap.size, 0, none⟩), .pointer (some ⟨w.heap.size + 1, 0, none⟩), t0_7, t0_8, .int .i64 s0.1, t0_10, .int .i64 (n : Int), .int .i64 (k : Int), t0_13, t0_14, t0_15, t0_16, t0_17, t0_18, t0_19, t0_20, t0_21, t0_22, t0_23, t0_24, t0_25, t0_26, t0_27], defers := [] } → Kept b w Wl0 → Fl b s0.2 Wl0 → Arr w.heap.size (row 6 p) Wl0 → Arr (w.heap.size + 1) (row 6 q) Wl0 → G_) → G_) := ⟨_, rfl⟩
  refine rounds_up J0 n ?_ ?_ ?_
  · rw [hJ0.out]
    intro G_ hG_
    exact hG_ (0, bad) _ _ _ _ _ _ _ _ _ _ _ _ _ _ _ _ _ _ _ _ _ _ rfl rfl (((Kept.refl b w).al _).al _) ((hw.alloc _).alloc _) ((Arr_at _ _ (row 6 p) _ (by simp)).alloc _) (Arr_at _ _ (row 6 q) _ (by simp))
  · intro k a Wl0 hk hI R hR
    rw [hJ0.out] at hI
    refine hI _ ?_
    clear hI
    intro s0 t0_1 t0_2 t0_3 t0_4 t0_7 t0_8 t0_10 t0_13 t0_14 t0_15 t0_16 t0_17 t0_18 t0_19 t0_20 t0_21 t0_22 t0_23 t0_24 t0_25 t0_26 t0_27 El0 ea Kl0 BF_l0 B0_l0 B1_l0
    subst ea
    have zl0_BF := BF_l0.lies
    have zl0_B0 := B0_l0.lies
    have zl0_B1 := B1_l0.lies
    go_wp2_with fail
    refine wp_region_held_drew (S := fun w' => Arr w.heap.size (row 6 p) w' ∧ Arr (w.heap.size + 1) (row 6 q) w') (by kernel_rfl) ⟨B0_l0.drew, B1_l0.drew⟩ (fun hHeld => ?_)
    refine take_at (i := 0) (v := ?v21) rfl (by kernel_rfl) (by kernel_rfl) (by kernel_rfl) (fun _ _ _ h => h) (Or.inl ⟨by rfl, ?y21⟩) hHeld ?t21
    case y21 => (intro wx hSw; go_simp <;> with_reducible rfl)
    simp only [Act.put, List.setIfInBounds_toArray, List.set_cons_zero, List.set_cons_succ]
    refine take_at (i := 1) (v := ?v22) rfl (by kernel_rfl) (by kernel_rfl) (by kernel_rfl) (fun _ _ _ h => h) (Or.inl ⟨by rfl, ?y22⟩) hHeld ?t22
    case y22 => (intro wx hSw; go_simp <;> with_reducible rfl)
    simp only [Act.put, List.setIfInBounds_toArray, List.set_cons_zero, List.set_cons_succ]
    refine take_at (i := 2) (v := ?v23) rfl (by kernel_rfl) (by kernel_rfl) (by kernel_rfl) (fun _ _ _ h => h) (Or.inl ⟨by rfl, ?y23⟩) hHeld ?t23
    case y23 => (intro wx hSw; go_simp <;> with_reducible rfl)
    simp only [Act.put, List.setIfInBounds_toArray, List.set_cons_zero, List.set_cons_succ]
    refine take_at (i := 3) (v := ?v24) rfl (by kernel_rfl) (by kernel_rfl) (by kernel_rfl) (fun _ _ _ h => h) (Or.inl ⟨by rfl, ?y24⟩) hHeld ?t24
    case y24 => (intro wx hSw; go_simp <;> with_reducible rfl)
    simp only [Act.put, List.setIfInBounds_toArray, List.set_cons_zero, List.set_cons_succ]
    refine take_at (i := 4) (v := ?v25) rfl (by kernel_rfl) (by kernel_rfl) (by kernel_rfl) (fun _ _ _ h => h) (Or.inl ⟨by rfl, ?y25⟩) hHeld ?t25
    case y25 => (intro wx hSw; have hi0 : (k : Int) < 6 := (by omega); go_simp <;> with_reducible rfl)
    simp only [Act.put, List.setIfInBounds_toArray, List.set_cons_zero, List.set_cons_succ]
    refine take_at (i := 5) (v := ?v26) rfl (by kernel_rfl) (by kernel_rfl) (by kernel_rfl) (fun _ _ _ h => h) (Or.inl ⟨by rfl, ?y26⟩) hHeld ?t26
    case y26 => (intro wx hSw; have hc0 : wx.cell? ⟨w.heap.size, k, none⟩ = some (.int .i64 (p k)) := row_c hSw.1 k (by omega); go_simp <;> with_reducible rfl)
    simp only [Act.put, List.setIfInBounds_toArray, List.set_cons_zero, List.set_cons_succ]
    refine take_at (i := 6) (v := ?v27) rfl (by kernel_rfl) (by kernel_rfl) (by kernel_rfl) (fun _ _ _ h => h) (Or.inl ⟨by rfl, ?y27⟩) hHeld ?t27
    case y27 => (intro wx hSw; go_simp <;> with_reducible rfl)
    simp only [Act.put, List.setIfInBounds_toArray, List.set_cons_zero, List.set_cons_succ]
    refine take_at (i := 7) (v := ?v28) rfl (by kernel_rfl) (by kernel_rfl) (by kernel_rfl) (fun _ _ _ h => h) (Or.inl ⟨by rfl, ?y28⟩) hHeld ?t28
    case y28 => (intro wx hSw; have hi0 : (k : Int) < 6 := (by omega); go_simp <;> with_reducible rfl)
    simp only [Act.put, List.setIfInBounds_toArray, List.set_cons_zero, List.set_cons_succ]
    refine take_at (i := 8) (v := ?v29) rfl (by kernel_rfl) (by kernel_rfl) (by kernel_rfl) (fun _ _ _ h => h) (Or.inl ⟨by rfl, ?y29⟩) hHeld ?t29
    case y29 => (intro wx hSw; have hc0 : wx.cell? ⟨w.heap.size + 1, k, none⟩ = some (.int .i64 (q k)) := row_c hSw.2 k (by omega); go_simp <;> with_reducible rfl)
    simp only [Act.put, List.setIfInBounds_toArray, List.set_cons_zero, List.set_cons_succ]
    refine call_at (i := 9) (by kernel_rfl) rfl (fun K hK => ?_)
    go_simp
    refine (Mul_any b s0.2 (p k) (q k) _ BF_l0.drew).mono ?_
    rintro e w1 ⟨rfl, f1, k1⟩
    generalize e1 : mulS s0.2 (p k) (q k) = r1 at f1 ⊢
    have E1 : Hid _ := e1
    clear e1
    have K1 : Kept b w w1 := Kept.trans Kl0.drew k1
    have B0_1 : Arr w.heap.size (row 6 p) w1 := B0_l0.drew.kept k1 (Nat.ne_of_gt y1_BF)
    have B1_1 : Arr (w.heap.size + 1) (row 6 q) w1 := B1_l0.drew.kept k1 (Nat.ne_of_gt y2_BF)
    have z1 := B1_1.lies
    clear hHeld
    refine hK.out _ _ ⟨B0_1, B1_1⟩ (fun hHeld => ?_)
    clear hK K BF_l0 B0_l0 B1_l0 k1
    refine call_at (i := 10) (by kernel_rfl) rfl (fun K hK => ?_)
    go_simp
    refine (Add_any b r1.2 s0.1 r1.1 _ f1).mono ?_
    rintro e w2 ⟨rfl, f2, k2⟩
    generalize e2 : addS r1.2 s0.1 r1.1 = r2 at f2 ⊢
    have E2 : Hid _ := e2
    clear e2
    have K2 : Kept b w w2 := Kept.trans K1 k2
    have B0_2 : Arr w.heap.size (row 6 p) w2 := B0_1.kept k2 (Nat.ne_of_gt y1_BF)
    have B1_2 : Arr (w.heap.size + 1) (row 6 q) w2 := B1_1.kept k2 (Nat.ne_of_gt y2_BF)
    have z2 := B1_2.lies
    clear hHeld
    refine hK.out _ _ ⟨B0_2, B1_2⟩ (fun hHeld => ?_)
    clear hK K K1 f1 B0_1 B1_1 k2
    refine take_at (i := 11) (v := ?v30) rfl (by kernel_rfl) (by kernel_rfl) (by kernel_rfl) (fun _ _ _ h => h) (Or.inl ⟨by rfl, ?y30⟩) hHeld ?t30
    case y30 => (intro wx hSw; go_simp <;> with_reducible rfl)
    simp only [Act.put, List.setIfInBounds_toArray, List.set_cons_zero, List.set_cons_succ]
    refine wpAnyH_done (by kernel_rfl) ?_ _
    clear hHeld
    go_wp2_with fail
    have hs0 : Hid (msumS_l0 p q (0, bad) (k + 1) = (r2.1, r2.2)) := by show _ = _; unfold msumS_l0; simp only [El0.out, E1.out, E2.out]
    rw [hJ0.out]
    intro G_ hG_
    exact hG_ (r2.1, r2.2) _ _ _ _ _ _ _ _ _ _ _ _ _ _ _ _ _ _ _ _ _ _ hs0 rfl K2 f2 B0_2 B1_2
  · intro a Wl0 hI R
    rw [hJ0.out] at hI
    refine hI _ ?_
    clear hI hJ0
    intro r3 t0_1 t0_2 t0_3 t0_4 t0_7 t0_8 t0_10 t0_13 t0_14 t0_15 t0_16 t0_17 t0_18 t0_19 t0_20 t0_21 t0_22 t0_23 t0_24 t0_25 t0_26 t0_27 E3 ea Kl0 BF_l0 B0_l0 B1_l0
    subst ea
    have zl0_BF := BF_l0.lies
    have zl0_B0 := B0_l0.lies
    have zl0_B1 := B1_l0.lies
    go_wp2
    go_ret
    have hs : msumS bad p q n = (r3.1, r3.2) := by unfold msumS; simp only [E3.out]
    rw [hs]
    exact ⟨rfl, BF_l0, Kl0⟩
end Go.Proofs.Ytcnbcdnjogopdaa
