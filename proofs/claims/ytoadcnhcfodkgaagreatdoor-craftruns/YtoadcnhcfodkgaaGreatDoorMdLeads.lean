/-
  The map of where faults lead, made in whatever order, for the seat YtoadcnhcfodkgaaGreatDoor.
-/
import Derived.Test.YtoadcnhcfodkgaaGreatDoorMdMap
import Derived.Handy
import Derived.Deep.RegionHeld3
namespace Go.Proofs.YtoadcnhcfodkgaaGreatDoor
open Go.RowKit Go.Maps Go.WideMaps

/-- 1 at those of the five that are there. -/
def ldF (c2 c4 c6 c8 c10 : Bool) : Int → Int → Int := fun n m => if (c2 = true ∧ n = 1 ∧ m = 1) ∨ (c4 = true ∧ n = 2 ∧ m = 1) ∨ (c6 = true ∧ n = 2 ∧ m = 4) ∨ (c8 = true ∧ n = 2 ∧ m = 2) ∨ (c10 = true ∧ n = 2 ∧ m = 8) then 1 else 0
theorem ldF_zero (n m : Int) : (0 : Int) = ldF false false false false false n m := by unfold ldF; simp
theorem ldF_2 (c4 c6 c8 c10 : Bool) (n m : Int) : putM (ldF false c4 c6 c8 c10) 1 1 1 n m = ldF true c4 c6 c8 c10 n m := by
  unfold putM ldF
  by_cases h : n = 1 ∧ m = 1
  · rw [if_pos h]; simp [h]
  · rw [if_neg h]; simp [h]
theorem ldF_4 (c2 c6 c8 c10 : Bool) (n m : Int) : putM (ldF c2 false c6 c8 c10) 2 1 1 n m = ldF c2 true c6 c8 c10 n m := by
  unfold putM ldF
  by_cases h : n = 2 ∧ m = 1
  · rw [if_pos h]; simp [h]
  · rw [if_neg h]; simp [h]
theorem ldF_6 (c2 c4 c8 c10 : Bool) (n m : Int) : putM (ldF c2 c4 false c8 c10) 2 4 1 n m = ldF c2 c4 true c8 c10 n m := by
  unfold putM ldF
  by_cases h : n = 2 ∧ m = 4
  · rw [if_pos h]; simp [h]
  · rw [if_neg h]; simp [h]
theorem ldF_8 (c2 c4 c6 c10 : Bool) (n m : Int) : putM (ldF c2 c4 c6 false c10) 2 2 1 n m = ldF c2 c4 c6 true c10 n m := by
  unfold putM ldF
  by_cases h : n = 2 ∧ m = 2
  · rw [if_pos h]; simp [h]
  · rw [if_neg h]; simp [h]
theorem ldF_10 (c2 c4 c6 c8 : Bool) (n m : Int) : putM (ldF c2 c4 c6 c8 false) 2 8 1 n m = ldF c2 c4 c6 c8 true n m := by
  unfold putM ldF
  by_cases h : n = 2 ∧ m = 8
  · rw [if_pos h]; simp [h]
  · rw [if_neg h]; simp [h]
/-- What is known while the map comes to be. -/
structure LI (w0 : World) (m0 c2 c4 c6 c8 c10 v11 r12 : Bool) (x0 x1 x7 : Value) (k : Nat) (w : World) : Prop where
  bel : Below w0.heap.size w0 w
  A : m0 = true → x1 = .map (some k) ∧ w0.heap.size ≤ k ∧ Mm k (c2.toNat + c4.toNat + c6.toNat + c8.toNat + c10.toNat) (ldF c2 c4 c6 c8 c10) w
  va : m0 = false → c2 = false ∧ c4 = false ∧ c6 = false ∧ c8 = false ∧ c10 = false ∧ v11 = false
  V : v11 = true → x7 = .map (some k) ∧ c2 = true ∧ c4 = true ∧ c6 = true ∧ c8 = true ∧ c10 = true
  R : r12 = true → x0 = .map (some k) ∧ v11 = true

set_option maxRecDepth 100000 in
set_option maxHeartbeats 4000000 in
theorem leads_any (w : World) : Calls Tryz.prog 250 #[] w fun e w' => ∃ k, e = .returned (.map (some k)) ∧ w.heap.size ≤ k ∧ Mm k 5 (ldF true true true true true) w' ∧ Below w.heap.size w w' := by
  go_enter Tryz.func250, Tryz.ntmps250
  go_wp2_with fail
  refine get_cont (fun KK hKK => ?_)
  have cont : ∀ (W : World) (k : Nat) (y1 y2 y3 y4 y5 y6 y7 : Value), Below w.heap.size w W → w.heap.size ≤ k → Mm k 5 (ldF true true true true true) W → KK { tmps := #[.map (some k), y1, y2, y3, y4, y5, y6, y7], defers := [] } W := by
    intro W k y1 y2 y3 y4 y5 y6 y7 b1 hk M
    rw [hKK.out]
    dsimp only [Exit.inBlock, Exit.then]
    first | refine use_cont (by assumption) ?_ | skip
    go_wp2_with (with_reducible refine post_stop ?_)
    exact ⟨bodyPost_ret (v := .map (some k)) (by simp [results, Tryz.results250, go_sem]) rfl ⟨k, rfl, hk, M, b1⟩⟩
  refine wp_region_held_drew (S := fun _ => True) (by kernel_rfl) trivial (fun hHeld => ?_)
  refine take_at (i := 1) (v := ?v1) rfl (by kernel_rfl) (by kernel_rfl) (by kernel_rfl) (fun _ _ _ h => h) (Or.inl ⟨by rfl, ?y1⟩) hHeld ?t1
  case y1 => (intro wx hSw; go_simp <;> with_reducible rfl)
  simp only [Act.put, List.setIfInBounds_toArray, List.set_cons_zero, List.set_cons_succ]
  refine take_at (i := 3) (v := ?v3) rfl (by kernel_rfl) (by kernel_rfl) (by kernel_rfl) (fun _ _ _ h => h) (Or.inl ⟨by rfl, ?y3⟩) hHeld ?t3
  case y3 => (intro wx hSw; go_simp <;> with_reducible rfl)
  simp only [Act.put, List.setIfInBounds_toArray, List.set_cons_zero, List.set_cons_succ]
  refine take_at (i := 5) (v := ?v5) rfl (by kernel_rfl) (by kernel_rfl) (by kernel_rfl) (fun _ _ _ h => h) (Or.inl ⟨by rfl, ?y5⟩) hHeld ?t5
  case y5 => (intro wx hSw; go_simp <;> with_reducible rfl)
  simp only [Act.put, List.setIfInBounds_toArray, List.set_cons_zero, List.set_cons_succ]
  refine take_at (i := 7) (v := ?v7) rfl (by kernel_rfl) (by kernel_rfl) (by kernel_rfl) (fun _ _ _ h => h) (Or.inl ⟨by rfl, ?y7⟩) hHeld ?t7
  case y7 => (intro wx hSw; go_simp <;> with_reducible rfl)
  simp only [Act.put, List.setIfInBounds_toArray, List.set_cons_zero, List.set_cons_succ]
  refine take_at (i := 9) (v := ?v9) rfl (by kernel_rfl) (by kernel_rfl) (by kernel_rfl) (fun _ _ _ h => h) (Or.inl ⟨by rfl, ?y9⟩) hHeld ?t9
  case y9 => (intro wx hSw; go_simp <;> with_reducible rfl)
  simp only [Act.put, List.setIfInBounds_toArray, List.set_cons_zero, List.set_cons_succ]
  have K1 : Below w.heap.size w w.drew := ⟨rfl, rfl, rfl, Nat.le_refl _, fun _ _ => rfl⟩
  generalize w.drew = w1 at K1 ⊢
  have l1 := K1.size
  clear hHeld
  refine orders_ind (fun L a wi => ∃ (m0 c2 c4 c6 c8 c10 v11 r12 : Bool) (x0 x1 x7 : Value) (k : Nat), L = #[m0, true, c2, true, c4, true, c6, true, c8, true, c10, v11, r12] ∧ a = { tmps := #[x0, x1, .agg #[.int .i64 1, .int .i64 1], .agg #[.int .i64 2, .int .i64 1], .agg #[.int .i64 2, .int .i64 4], .agg #[.int .i64 2, .int .i64 2], .agg #[.int .i64 2, .int .i64 8], x7], defers := [] } ∧ LI w1 m0 c2 c4 c6 c8 c10 v11 r12 x0 x1 x7 k wi) ?_ ?_ 8 _ _ _ (by decide) ?_
  · intro L a wi i o ho hi hI K hK
    obtain ⟨m0, c2, c4, c6, c8, c10, v11, r12, x0, x1, x7, k, rfl, rfl, I⟩ := hI
    have hall := (mem_ready.1 hi).2
    have hun := (mem_ready.1 hi).1
    have hlt : i < 13 := (List.getElem?_eq_some_iff.1 ho).1
    match i, hlt with
    | 0, _ =>
      obtain rfl : m0 = false := hun
      clear hall
      cases ho
      obtain ⟨rfl, rfl, rfl, rfl, rfl, rfl⟩ := I.va rfl
      go_simp
      refine hK.out _ _ ?_
      exact ⟨true, false, false, false, false, false, false, r12, x0, .map (some wi.heap.size), x7, wi.heap.size, rfl, rfl, ⟨bel_al I.bel _, fun _ => ⟨rfl, I.bel.size, (Mm.made wi _ rfl).eqv ldF_zero⟩, (fun h => by cases h), (fun h => by cases h), fun h => absurd (I.R h).2 (by decide)⟩⟩
    | 1, _ =>
      exact absurd (show true = false from hun) (by decide)
    | 2, _ =>
      obtain rfl : c2 = false := hun
      obtain ⟨o2, ho2, hall⟩ := hall
      cases ho2
      obtain rfl : m0 = true := hall ⟨0, .data⟩ (by simp) rfl
      clear hall
      cases ho
      obtain ⟨e1, g1, M⟩ := I.A rfl
      subst e1
      have hv : v11 = false := by cases v11 with | false => rfl | true => (have h := I.V rfl; simp at h)
      subst hv
      refine mm_ins (by rfl) rfl rfl rfl rfl M (by cases c4 <;> cases c6 <;> cases c8 <;> cases c10 <;> decide) ⟨by decide, by decide⟩ ⟨by decide, by decide⟩ ⟨by decide, by decide⟩ ?_
      intro w2 M1 k1
      simp only [Act.put]
      refine hK.out _ _ ?_
      exact ⟨true, true, c4, c6, c8, c10, false, r12, x0, .map (some k), x7, k, rfl, rfl, ⟨k1.on I.bel g1, fun _ => ⟨rfl, g1, (M1.mono (by cases c4 <;> cases c6 <;> cases c8 <;> cases c10 <;> decide)).eqv (ldF_2 _ _ _ _)⟩, (fun h => by cases h), (fun h => by cases h), fun h => absurd (I.R h).2 (by decide)⟩⟩
    | 3, _ =>
      exact absurd (show true = false from hun) (by decide)
    | 4, _ =>
      obtain rfl : c4 = false := hun
      obtain ⟨o2, ho2, hall⟩ := hall
      cases ho2
      obtain rfl : m0 = true := hall ⟨0, .data⟩ (by simp) rfl
      clear hall
      cases ho
      obtain ⟨e1, g1, M⟩ := I.A rfl
      subst e1
      have hv : v11 = false := by cases v11 with | false => rfl | true => (have h := I.V rfl; simp at h)
      subst hv
      refine mm_ins (by rfl) rfl rfl rfl rfl M (by cases c2 <;> cases c6 <;> cases c8 <;> cases c10 <;> decide) ⟨by decide, by decide⟩ ⟨by decide, by decide⟩ ⟨by decide, by decide⟩ ?_
      intro w2 M1 k1
      simp only [Act.put]
      refine hK.out _ _ ?_
      exact ⟨true, c2, true, c6, c8, c10, false, r12, x0, .map (some k), x7, k, rfl, rfl, ⟨k1.on I.bel g1, fun _ => ⟨rfl, g1, (M1.mono (by cases c2 <;> cases c6 <;> cases c8 <;> cases c10 <;> decide)).eqv (ldF_4 _ _ _ _)⟩, (fun h => by cases h), (fun h => by cases h), fun h => absurd (I.R h).2 (by decide)⟩⟩
    | 5, _ =>
      exact absurd (show true = false from hun) (by decide)
    | 6, _ =>
      obtain rfl : c6 = false := hun
      obtain ⟨o2, ho2, hall⟩ := hall
      cases ho2
      obtain rfl : m0 = true := hall ⟨0, .data⟩ (by simp) rfl
      clear hall
      cases ho
      obtain ⟨e1, g1, M⟩ := I.A rfl
      subst e1
      have hv : v11 = false := by cases v11 with | false => rfl | true => (have h := I.V rfl; simp at h)
      subst hv
      refine mm_ins (by rfl) rfl rfl rfl rfl M (by cases c2 <;> cases c4 <;> cases c8 <;> cases c10 <;> decide) ⟨by decide, by decide⟩ ⟨by decide, by decide⟩ ⟨by decide, by decide⟩ ?_
      intro w2 M1 k1
      simp only [Act.put]
      refine hK.out _ _ ?_
      exact ⟨true, c2, c4, true, c8, c10, false, r12, x0, .map (some k), x7, k, rfl, rfl, ⟨k1.on I.bel g1, fun _ => ⟨rfl, g1, (M1.mono (by cases c2 <;> cases c4 <;> cases c8 <;> cases c10 <;> decide)).eqv (ldF_6 _ _ _ _)⟩, (fun h => by cases h), (fun h => by cases h), fun h => absurd (I.R h).2 (by decide)⟩⟩
    | 7, _ =>
      exact absurd (show true = false from hun) (by decide)
    | 8, _ =>
      obtain rfl : c8 = false := hun
      obtain ⟨o2, ho2, hall⟩ := hall
      cases ho2
      obtain rfl : m0 = true := hall ⟨0, .data⟩ (by simp) rfl
      clear hall
      cases ho
      obtain ⟨e1, g1, M⟩ := I.A rfl
      subst e1
      have hv : v11 = false := by cases v11 with | false => rfl | true => (have h := I.V rfl; simp at h)
      subst hv
      refine mm_ins (by rfl) rfl rfl rfl rfl M (by cases c2 <;> cases c4 <;> cases c6 <;> cases c10 <;> decide) ⟨by decide, by decide⟩ ⟨by decide, by decide⟩ ⟨by decide, by decide⟩ ?_
      intro w2 M1 k1
      simp only [Act.put]
      refine hK.out _ _ ?_
      exact ⟨true, c2, c4, c6, true, c10, false, r12, x0, .map (some k), x7, k, rfl, rfl, ⟨k1.on I.bel g1, fun _ => ⟨rfl, g1, (M1.mono (by cases c2 <;> cases c4 <;> cases c6 <;> cases c10 <;> decide)).eqv (ldF_8 _ _ _ _)⟩, (fun h => by cases h), (fun h => by cases h), fun h => absurd (I.R h).2 (by decide)⟩⟩
    | 9, _ =>
      exact absurd (show true = false from hun) (by decide)
    | 10, _ =>
      obtain rfl : c10 = false := hun
      obtain ⟨o2, ho2, hall⟩ := hall
      cases ho2
      obtain rfl : m0 = true := hall ⟨0, .data⟩ (by simp) rfl
      clear hall
      cases ho
      obtain ⟨e1, g1, M⟩ := I.A rfl
      subst e1
      have hv : v11 = false := by cases v11 with | false => rfl | true => (have h := I.V rfl; simp at h)
      subst hv
      refine mm_ins (by rfl) rfl rfl rfl rfl M (by cases c2 <;> cases c4 <;> cases c6 <;> cases c8 <;> decide) ⟨by decide, by decide⟩ ⟨by decide, by decide⟩ ⟨by decide, by decide⟩ ?_
      intro w2 M1 k1
      simp only [Act.put]
      refine hK.out _ _ ?_
      exact ⟨true, c2, c4, c6, c8, true, false, r12, x0, .map (some k), x7, k, rfl, rfl, ⟨k1.on I.bel g1, fun _ => ⟨rfl, g1, (M1.mono (by cases c2 <;> cases c4 <;> cases c6 <;> cases c8 <;> decide)).eqv (ldF_10 _ _ _ _)⟩, (fun h => by cases h), (fun h => by cases h), fun h => absurd (I.R h).2 (by decide)⟩⟩
    | 11, _ =>
      obtain rfl : v11 = false := hun
      obtain ⟨o2, ho2, hall⟩ := hall
      cases ho2
      obtain rfl : m0 = true := hall ⟨0, .data⟩ (by simp) rfl
      obtain rfl : c2 = true := hall ⟨2, .data⟩ (by simp) rfl
      obtain rfl : c4 = true := hall ⟨4, .data⟩ (by simp) rfl
      obtain rfl : c6 = true := hall ⟨6, .data⟩ (by simp) rfl
      obtain rfl : c8 = true := hall ⟨8, .data⟩ (by simp) rfl
      obtain rfl : c10 = true := hall ⟨10, .data⟩ (by simp) rfl
      clear hall
      cases ho
      obtain ⟨e1, g1, M⟩ := I.A rfl
      subst e1
      go_simp
      refine hK.out _ _ ?_
      exact ⟨true, true, true, true, true, true, true, r12, x0, .map (some k), .map (some k), k, rfl, rfl, ⟨I.bel, fun _ => ⟨rfl, g1, M⟩, (fun h => by cases h), fun _ => ⟨rfl, rfl, rfl, rfl, rfl, rfl⟩, fun h => ⟨(I.R h).1, rfl⟩⟩⟩
    | 12, _ =>
      obtain rfl : r12 = false := hun
      obtain ⟨o2, ho2, hall⟩ := hall
      cases ho2
      obtain rfl : v11 = true := hall ⟨11, .data⟩ (by simp) rfl
      clear hall
      cases ho
      obtain ⟨e1, rfl, rfl, rfl, rfl, rfl⟩ := I.V rfl
      subst e1
      go_simp
      refine hK.out _ _ ?_
      exact ⟨m0, true, true, true, true, true, true, true, .map (some k), x1, .map (some k), k, rfl, rfl, ⟨I.bel, I.A, I.va, I.V, fun _ => ⟨rfl, rfl⟩⟩⟩
  · intro L a wi hr hI
    obtain ⟨m0, c2, c4, c6, c8, c10, v11, r12, x0, x1, x7, k, rfl, rfl, I⟩ := hI
    obtain rfl : m0 = true := by cases m0 with | true => rfl | false => exact (no_ready hr (i := 0) rfl rfl rfl).elim
    obtain rfl : c2 = true := by cases c2 with | true => rfl | false => exact (no_ready hr (i := 2) rfl rfl rfl).elim
    obtain rfl : c4 = true := by cases c4 with | true => rfl | false => exact (no_ready hr (i := 4) rfl rfl rfl).elim
    obtain rfl : c6 = true := by cases c6 with | true => rfl | false => exact (no_ready hr (i := 6) rfl rfl rfl).elim
    obtain rfl : c8 = true := by cases c8 with | true => rfl | false => exact (no_ready hr (i := 8) rfl rfl rfl).elim
    obtain rfl : c10 = true := by cases c10 with | true => rfl | false => exact (no_ready hr (i := 10) rfl rfl rfl).elim
    obtain rfl : v11 = true := by cases v11 with | true => rfl | false => exact (no_ready hr (i := 11) rfl rfl rfl).elim
    obtain rfl : r12 = true := by cases r12 with | true => rfl | false => exact (no_ready hr (i := 12) rfl rfl rfl).elim
    obtain ⟨e1, g1, M⟩ := I.A rfl
    obtain ⟨e0, -⟩ := I.R rfl
    subst e0
    refine put_cont hKK ?_
    exact cont _ k _ _ _ _ _ _ _ (bel_then K1 I.bel) (Nat.le_trans l1 g1) M
  · exact ⟨false, false, false, false, false, false, false, false, _, _, _, 0, rfl, rfl, ⟨Below.refl _ _, (fun h => by cases h), fun _ => ⟨rfl, rfl, rfl, rfl, rfl, rfl⟩, (fun h => by cases h), (fun h => by cases h)⟩⟩
end Go.Proofs.YtoadcnhcfodkgaaGreatDoor
