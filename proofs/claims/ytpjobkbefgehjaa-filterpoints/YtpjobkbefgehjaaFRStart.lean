/-
  The document's Start, for the seat Ytpjobkbefgehjaa. (Made by mkpts14.py.)
-/
import Derived.Test.YtpjobkbefgehjaaJH
import Derived.Test.YtpjobkbefgehjaaFRowC
import Derived.Handy
import Derived.Deep.RegionHeld3
namespace Go.Proofs.Ytpjobkbefgehjaa
open Go.RowKit

def fStartP_l0s  (i : Nat) (s0 : (Nat → Int)) : (Nat → Int) := (updF (updF s0 (7 + i * 6 + i) 17179869184) (7 + (i + 3) * 6 + (i + 3)) 16777216)
def fStartP_l0  (z : (Nat → Int)) : Nat → (Nat → Int)
  | 0 => z
  | i + 1 => fStartP_l0s  i (fStartP_l0 z i)
theorem fStartP_l0_succ  (z : (Nat → Int)) (i : Nat) : fStartP_l0 z (i + 1) = fStartP_l0s  i (fStartP_l0 z i) := rfl
def fStartP (q : V4) : Nat → Int := let r2 := fStartP_l0 (guessF q (0, 0, 0) (fun _ => 0)) 3; r2
set_option maxRecDepth 100000 in
set_option maxHeartbeats 2000000 in
theorem fStart_any (q : V4) (w : World) :
    Calls Try.prog 8 #[.agg #[.int .i64 q.1, .int .i64 q.2.1, .int .i64 q.2.2.1, .int .i64 q.2.2.2]] w fun e w' => e = .returned (.agg (row 43 (fStartP q)).toArray) ∧ Below w.heap.size w w' := by
  go_enter Try.func8, Try.ntmps8
  have y2_B0 : w.heap.size < w.heap.size + 1 := (Nat.lt_succ_self _)
  have y3_B0 : w.heap.size < w.heap.size + 1 + 1 := (Nat.lt_succ_of_lt (Nat.lt_succ_self _))
  have y3_B1 : w.heap.size + 1 < w.heap.size + 1 + 1 := (Nat.lt_succ_self _)
  go_wp2_with (refine store_stop rfl (by kernel_rfl) ?_)
  refine Stop.mk (store_row (l' := row 43 (guessF q (0, 0, 0) (fun _ => 0))) rfl rfl rfl rfl (Arr_at _ _ (row 43 (fun _ => 0)) _ (by simp)) (by simp only [row_len]) (by rw [row_len]; kernel_rfl) (row_one _ _) ?_)
  intro w1 B2_1 o1
  have K1 : Below w.heap.size w w1 := bel_off (bel_al (bel_al (bel_al (Below.refl w.heap.size w) _) _) _) o1 (by omega)
  have B0_1 : Arr w.heap.size [.int .i64 q.1, .int .i64 q.2.1, .int .i64 q.2.2.1, .int .i64 q.2.2.2] w1 := (((Arr_at _ _ [.int .i64 q.1, .int .i64 q.2.1, .int .i64 q.2.2.1, .int .i64 q.2.2.2] _ (by simp)).alloc _).alloc _).off o1 (Nat.ne_of_lt y3_B0)
  have B1_1 : Arr (w.heap.size + 1) (row 43 (fun _ => 0)) w1 := ((Arr_at _ _ (row 43 (fun _ => 0)) _ (by simp)).alloc _).off o1 (Nat.ne_of_lt y3_B1)
  have z1_B2 := B2_1.lies
  have z1_B0 := B0_1.lies
  have z1_B1 := B1_1.lies
  clear o1
  go_wp2_with fail
  obtain ⟨J0, hJ0⟩ : ∃ J : Nat → Act → World → Prop, Hid (J = fun i a Wl0 => ∀ G_ : Prop, (∀ (s0 : (Nat → Int)) (t0_0 t0_1 t0_5 t0_6 t0_7 t0_8 t0_9 t0_10 t0_11 t0_12 t0_13 t0_14 t0_15 t0_16 t0_17 t0_18 t0_19 t0_20 t0_21 t0_22 t0_23 : Value), Hid (fStartP_l0 (guessF q (0, 0, 0) (fun _ => 0)) i = s0) → a = { tmps := #[t0_0, t0_1, .pointer (some ⟨w.heap.size + 1, 0, none⟩), .pointer (some ⟨w.heap.size + 1 + 1, 0, none⟩), .int .i64 (i : Int), t0_5, t0_6, t0_7, t0_8, t0_9, t0_10, t0_11, t0_12, t0_13, t0_14, t0_15, t0_16, t0_17, t0_18, t0_19, t0_20, t0_21, t0_22, t0_23], defers := [] } → Below w.heap.size w Wl0 → Arr w.heap.size [.int .i64 q.1, .int .i64 q.2.1, .int .i64 q.2.2.1, .int .i64 q.2.2.2] Wl0 → Arr (w.heap.size + 1) (row 43 (fun _ => 0)) Wl0 → Arr (w.heap.size + 1 + 1) (row 43 s0) Wl0 → G_) → G_) := ⟨_, rfl⟩
  refine rounds_up J0 3 ?_ ?_ ?_
  · rw [hJ0.out]
    intro G_ hG_
    exact hG_ (guessF q (0, 0, 0) (fun _ => 0)) _ _ _ _ _ _ _ _ _ _ _ _ _ _ _ _ _ _ _ _ _ rfl rfl K1 B0_1 B1_1 B2_1
  · intro i a Wl0 hi hI R hR
    rw [hJ0.out] at hI
    refine hI _ ?_
    clear hI
    intro s0 t0_0 t0_1 t0_5 t0_6 t0_7 t0_8 t0_9 t0_10 t0_11 t0_12 t0_13 t0_14 t0_15 t0_16 t0_17 t0_18 t0_19 t0_20 t0_21 t0_22 t0_23 El0 ea Kl0 B0_l0 B1_l0 B2_l0
    subst ea
    have zl0_B0 := B0_l0.lies
    have zl0_B1 := B1_l0.lies
    have zl0_B2 := B2_l0.lies
    have c3_B2_0 : Wl0.cell? ⟨w.heap.size + 1 + 1, 7 + (i + 3) * 6 + (i + 3), none⟩ = some (.int .i64 (s0 (7 + (i + 3) * 6 + (i + 3)))) := row_c B2_l0 (7 + (i + 3) * 6 + (i + 3)) (by omega)
    have c3_B2_1 : Wl0.cell? ⟨w.heap.size + 1 + 1, 7 + i * 6 + i, none⟩ = some (.int .i64 (s0 (7 + i * 6 + i))) := row_c B2_l0 (7 + i * 6 + i) (by omega)
    have g3_B2_2 := row_f B2_l0 (7 + (i + 3) * 6 + (i + 3)) (by omega)
    have g3_B2_3 := row_f B2_l0 (7 + i * 6 + i) (by omega)
    have i3_4 : ((i : Int) + 3) < 6 := by omega
    have i3_5 : (i : Int) < 6 := by omega
    go_wp2_with fail
    clear c3_B2_0 c3_B2_1 g3_B2_2 g3_B2_3 i3_4 i3_5
    have hs0 : Hid (fStartP_l0 (guessF q (0, 0, 0) (fun _ => 0)) (i + 1) = (updF (updF s0 (7 + i * 6 + i) 17179869184) (7 + (i + 3) * 6 + (i + 3)) 16777216)) := by show _ = _; rw [fStartP_l0_succ]; unfold fStartP_l0s; simp only [El0.out]
    rw [hJ0.out]
    intro G_ hG_
    exact hG_ (updF (updF s0 (7 + i * 6 + i) 17179869184) (7 + (i + 3) * 6 + (i + 3)) 16777216) _ _ _ _ _ _ _ _ _ _ _ _ _ _ _ _ _ _ _ _ _ hs0 rfl (bel_new (bel_new Kl0 _ _ (by omega) _) _ _ (by omega) _) ((B0_l0.new (w.heap.size + 1 + 1) (7 + i * 6 + i) (Nat.ne_of_lt y3_B0) (.int .i64 17179869184)).new (w.heap.size + 1 + 1) (7 + (i + 3) * 6 + (i + 3)) (Nat.ne_of_lt y3_B0) (.int .i64 16777216)) ((B1_l0.new (w.heap.size + 1 + 1) (7 + i * 6 + i) (Nat.ne_of_lt y3_B1) (.int .i64 17179869184)).new (w.heap.size + 1 + 1) (7 + (i + 3) * 6 + (i + 3)) (Nat.ne_of_lt y3_B1) (.int .i64 16777216)) (row_put (row_put B2_l0 (7 + i * 6 + i) (by omega) 17179869184) (7 + (i + 3) * 6 + (i + 3)) (by omega) 16777216)
  · intro a Wl0 hI R
    rw [hJ0.out] at hI
    refine hI _ ?_
    clear hI hJ0
    intro r2 t0_0 t0_1 t0_5 t0_6 t0_7 t0_8 t0_9 t0_10 t0_11 t0_12 t0_13 t0_14 t0_15 t0_16 t0_17 t0_18 t0_19 t0_20 t0_21 t0_22 t0_23 E2 ea Kl0 B0_l0 B1_l0 B2_l0
    subst ea
    have zl0_B0 := B0_l0.lies
    have zl0_B1 := B1_l0.lies
    have zl0_B2 := B2_l0.lies
    go_wp2_with (first | (refine row_load (ty := 31) rfl rfl rfl B2_l0 (by kernel_rfl) (by rw [row_len]; kernel_rfl) ?_) | (refine store_stop rfl (by kernel_rfl) ?_))
    refine Stop.mk (store_row (l' := row 43 r2) rfl rfl rfl rfl B1_l0 (by simp only [row_len]) (by rw [row_len]; kernel_rfl) (row_one _ _) ?_)
    intro w3 B1_3 o3
    have K3 : Below w.heap.size w w3 := bel_off Kl0 o3 (by omega)
    have B0_3 : Arr w.heap.size [.int .i64 q.1, .int .i64 q.2.1, .int .i64 q.2.2.1, .int .i64 q.2.2.2] w3 := B0_l0.off o3 (Nat.ne_of_lt y2_B0)
    have B2_3 : Arr (w.heap.size + 1 + 1) (row 43 r2) w3 := B2_l0.off o3 (Nat.ne_of_gt y3_B1)
    have z3_B1 := B1_3.lies
    have z3_B0 := B0_3.lies
    have z3_B2 := B2_3.lies
    clear B1_l0 B0_l0 B2_l0 o3
    go_wp2_with (with_reducible refine post_stop ?_)
    refine Stop.mk ?_
    refine bodyPost_ret (v := .agg (row 43 r2).toArray) (results_arr Try.results8 B1_3 rfl (by kernel_rfl) (by rw [row_len]; kernel_rfl)) rfl ?_
    have hs : fStartP q = r2 := by unfold fStartP; simp only [E2.out]
    rw [hs]
    exact ⟨rfl, K3⟩
theorem start_same (q : V4) : row 43 (fStartP q) = row 43 (hStartP q) := by
  refine row_congr (fun i hi => ?_)
  have hk : i = 0 ∨ i = 1 ∨ i = 2 ∨ i = 3 ∨ i = 4 ∨ i = 5 ∨ i = 6 ∨ i = 7 ∨ i = 8 ∨ i = 9 ∨ i = 10 ∨ i = 11 ∨ i = 12 ∨ i = 13 ∨ i = 14 ∨ i = 15 ∨ i = 16 ∨ i = 17 ∨ i = 18 ∨ i = 19 ∨ i = 20 ∨ i = 21 ∨ i = 22 ∨ i = 23 ∨ i = 24 ∨ i = 25 ∨ i = 26 ∨ i = 27 ∨ i = 28 ∨ i = 29 ∨ i = 30 ∨ i = 31 ∨ i = 32 ∨ i = 33 ∨ i = 34 ∨ i = 35 ∨ i = 36 ∨ i = 37 ∨ i = 38 ∨ i = 39 ∨ i = 40 ∨ i = 41 ∨ i = 42 := by omega
  rcases hk with rfl | rfl | rfl | rfl | rfl | rfl | rfl | rfl | rfl | rfl | rfl | rfl | rfl | rfl | rfl | rfl | rfl | rfl | rfl | rfl | rfl | rfl | rfl | rfl | rfl | rfl | rfl | rfl | rfl | rfl | rfl | rfl | rfl | rfl | rfl | rfl | rfl | rfl | rfl | rfl | rfl | rfl | rfl <;> rfl
theorem fStartC_any (q : V4) (w : World) :
    Calls Try.prog 8 #[.agg #[.int .i64 q.1, .int .i64 q.2.1, .int .i64 q.2.2.1, .int .i64 q.2.2.2]] w fun e w' => e = .returned (.agg (row 43 (hStartP q)).toArray) ∧ Below w.heap.size w w' := by
  rw [← start_same]
  exact fStart_any q w
end Go.Proofs.Ytpjobkbefgehjaa
