/-
  ModeFine, walked, for the seat Ytocnaflhedccpaa. (Made by mkmode.py.)
-/
import Derived.Test.YtocnaflhedccpaaMdAwake
import Derived.Deep.DeepCutAuto
import Derived.Deep.Cut
import Derived.Deep.CutRange
import Derived.Laws.Cover1
namespace Go.Proofs.Ytocnaflhedccpaa
open Go.RowKit

/-- What is known of the plan behind j good steps. -/
structure FInv (f : Int) (j : Nat) (q : Pl) : Prop where
  w : WfPl q
  c0 : 0 ≤ q.calm
  g0 : 0 ≤ q.good
  fl : q.faults = f
  now : q.mode = 2 ∨ (q.mode = 1 ∧ ((1 ≤ q.good ∧ j ≤ 4) ∨ j ≤ 3)) ∨ (q.mode = 0 ∧ ((2 ≤ q.calm ∧ j ≤ 2) ∨ (1 ≤ q.calm ∧ j ≤ 1) ∨ j = 0))
theorem cnt_rng {n : Int} (h : I64 n) : I64 (cntS n true) := by
  have h0 := h.lo; have h1 := h.hi
  unfold cntS
  simp only [cond_true]
  split
  · exact ⟨by decide, by decide⟩
  · exact ⟨by omega, by omega⟩
theorem cnt_up {n : Int} (h : 0 ≤ n) : 1 ≤ cntS n true ∧ (1 ≤ n → 2 ≤ cntS n true) ∧ (2 ≤ n → 3 ≤ cntS n true) := by
  unfold cntS
  simp only [cond_true]
  split <;> omega
theorem FInv.step {f : Int} {j : Nat} {q : Pl} (h : FInv f j q) : FInv f (j + 1) (nextS q goodS) := by
  obtain ⟨hw, c0, g0, fl, now⟩ := h
  obtain ⟨m, c, g, i, l, f'⟩ := q
  dsimp only at c0 g0 fl now
  have z := zero_i
  rcases now with hm | ⟨hm, hr⟩ | ⟨hm, hr⟩
  · subst hm
    exact ⟨⟨hw.m, hw.c, hw.g, z, z, hw.f⟩, c0, g0, fl, Or.inl rfl⟩
  · subst hm
    have u := cnt_up g0
    by_cases t : 2 ≤ cntS g true
    · have e : nextS ⟨1, c, g, i, l, f'⟩ goodS = ⟨2, 0, 0, 0, 0, f'⟩ := if_pos t
      rw [e]
      exact ⟨⟨⟨show (-9223372036854775808 : Int) ≤ 2 by decide, show (2 : Int) ≤ 9223372036854775807 by decide⟩, z, z, z, z, hw.f⟩, Int.le_refl 0, Int.le_refl 0, fl, Or.inl rfl⟩
    · have e : nextS ⟨1, c, g, i, l, f'⟩ goodS = ⟨1, c, cntS g true, i, l, f'⟩ := if_neg t
      rw [e]
      exact ⟨⟨hw.m, hw.c, cnt_rng hw.g, hw.i, hw.l, hw.f⟩, c0, by show 0 ≤ cntS g true; omega, fl, Or.inr (Or.inl ⟨rfl, Or.inl ⟨u.1, by omega⟩⟩)⟩
  · subst hm
    have u := cnt_up c0
    by_cases t : 3 ≤ cntS c true
    · have e : nextS ⟨0, c, g, i, l, f'⟩ goodS = ⟨1, 0, 0, 0, 0, f'⟩ := if_pos t
      rw [e]
      exact ⟨⟨one_i, z, z, z, z, hw.f⟩, Int.le_refl 0, Int.le_refl 0, fl, Or.inr (Or.inl ⟨rfl, Or.inr (by omega)⟩)⟩
    · have e : nextS ⟨0, c, g, i, l, f'⟩ goodS = ⟨0, cntS c true, g, i, l, f'⟩ := if_neg t
      rw [e]
      refine ⟨⟨hw.m, cnt_rng hw.c, hw.g, hw.i, hw.l, hw.f⟩, by show 0 ≤ cntS c true; omega, g0, fl, Or.inr (Or.inr ⟨rfl, ?_⟩)⟩
      show (2 ≤ cntS c true ∧ j + 1 ≤ 2) ∨ (1 ≤ cntS c true ∧ j + 1 ≤ 1) ∨ j + 1 = 0
      omega
set_option maxRecDepth 100000 in
set_option maxHeartbeats 4000000 in
theorem fine_out (m c g i l f n : Int) (w : World) (h : m < 0 ∨ 2 < m ∨ n < 16 ∨ 200 < n ∨ c < 0 ∨ g < 0 ∨ i < 0 ∨ l < 0) : Calls Try.prog 5 #[.agg #[.int .i64 m, .int .i64 c, .int .i64 g, .int .i64 i, .int .i64 l, .int .i64 f], .int .i64 n] w fun e w' => e = .returned (.bool true) ∧ Below w.heap.size w w' := by
  by_cases d0 : m < 0
  · clear h
    go_enter Try.func5, Try.ntmps5
    go_wp2_with fail
    refine (awake_any _).mono ?_
    rintro e w1 ⟨rfl, b1⟩
    have A0_1 : Arr w.heap.size [.int .i64 m, .int .i64 c, .int .i64 g, .int .i64 i, .int .i64 l, .int .i64 f] w1 := (Arr_at w _ [.int .i64 m, .int .i64 c, .int .i64 g, .int .i64 i, .int .i64 l, .int .i64 f] 23 rfl).below b1
    have K1 : Below w.heap.size w w1 := bel_then (bel_al (Below.refl w.heap.size w) _) b1
    have z0 := A0_1.lies
    clear b1
    have cp_0 : w1.cell? ⟨w.heap.size, 0, none⟩ = some (.int .i64 m) := A0_1.c 0 (of_decide_eq_true rfl)
    have gp_0 := A0_1.f 0 (of_decide_eq_true rfl)
    have cp_1 : w1.cell? ⟨w.heap.size, 1, none⟩ = some (.int .i64 c) := A0_1.c 1 (of_decide_eq_true rfl)
    have gp_1 := A0_1.f 1 (of_decide_eq_true rfl)
    have cp_2 : w1.cell? ⟨w.heap.size, 2, none⟩ = some (.int .i64 g) := A0_1.c 2 (of_decide_eq_true rfl)
    have gp_2 := A0_1.f 2 (of_decide_eq_true rfl)
    have cp_3 : w1.cell? ⟨w.heap.size, 3, none⟩ = some (.int .i64 i) := A0_1.c 3 (of_decide_eq_true rfl)
    have gp_3 := A0_1.f 3 (of_decide_eq_true rfl)
    have cp_4 : w1.cell? ⟨w.heap.size, 4, none⟩ = some (.int .i64 l) := A0_1.c 4 (of_decide_eq_true rfl)
    have gp_4 := A0_1.f 4 (of_decide_eq_true rfl)
    have cp_5 : w1.cell? ⟨w.heap.size, 5, none⟩ = some (.int .i64 f) := A0_1.c 5 (of_decide_eq_true rfl)
    have gp_5 := A0_1.f 5 (of_decide_eq_true rfl)
    go_wp2_with (with_reducible refine post_stop ?_)
    exact ⟨bodyPost_ret (v := .bool true) (by simp [results, Try.results5, go_sem]) rfl ⟨rfl, K1⟩⟩
  replace d0 : 0 ≤ m := by omega
  by_cases d1 : 2 < m
  · clear h
    go_enter Try.func5, Try.ntmps5
    go_wp2_with fail
    refine (awake_any _).mono ?_
    rintro e w1 ⟨rfl, b1⟩
    have A0_1 : Arr w.heap.size [.int .i64 m, .int .i64 c, .int .i64 g, .int .i64 i, .int .i64 l, .int .i64 f] w1 := (Arr_at w _ [.int .i64 m, .int .i64 c, .int .i64 g, .int .i64 i, .int .i64 l, .int .i64 f] 23 rfl).below b1
    have K1 : Below w.heap.size w w1 := bel_then (bel_al (Below.refl w.heap.size w) _) b1
    have z0 := A0_1.lies
    clear b1
    have cp_0 : w1.cell? ⟨w.heap.size, 0, none⟩ = some (.int .i64 m) := A0_1.c 0 (of_decide_eq_true rfl)
    have gp_0 := A0_1.f 0 (of_decide_eq_true rfl)
    have cp_1 : w1.cell? ⟨w.heap.size, 1, none⟩ = some (.int .i64 c) := A0_1.c 1 (of_decide_eq_true rfl)
    have gp_1 := A0_1.f 1 (of_decide_eq_true rfl)
    have cp_2 : w1.cell? ⟨w.heap.size, 2, none⟩ = some (.int .i64 g) := A0_1.c 2 (of_decide_eq_true rfl)
    have gp_2 := A0_1.f 2 (of_decide_eq_true rfl)
    have cp_3 : w1.cell? ⟨w.heap.size, 3, none⟩ = some (.int .i64 i) := A0_1.c 3 (of_decide_eq_true rfl)
    have gp_3 := A0_1.f 3 (of_decide_eq_true rfl)
    have cp_4 : w1.cell? ⟨w.heap.size, 4, none⟩ = some (.int .i64 l) := A0_1.c 4 (of_decide_eq_true rfl)
    have gp_4 := A0_1.f 4 (of_decide_eq_true rfl)
    have cp_5 : w1.cell? ⟨w.heap.size, 5, none⟩ = some (.int .i64 f) := A0_1.c 5 (of_decide_eq_true rfl)
    have gp_5 := A0_1.f 5 (of_decide_eq_true rfl)
    go_wp2_with (with_reducible refine post_stop ?_)
    exact ⟨bodyPost_ret (v := .bool true) (by simp [results, Try.results5, go_sem]) rfl ⟨rfl, K1⟩⟩
  replace d1 : m ≤ 2 := by omega
  by_cases d2 : n < 16
  · clear h
    go_enter Try.func5, Try.ntmps5
    go_wp2_with fail
    refine (awake_any _).mono ?_
    rintro e w1 ⟨rfl, b1⟩
    have A0_1 : Arr w.heap.size [.int .i64 m, .int .i64 c, .int .i64 g, .int .i64 i, .int .i64 l, .int .i64 f] w1 := (Arr_at w _ [.int .i64 m, .int .i64 c, .int .i64 g, .int .i64 i, .int .i64 l, .int .i64 f] 23 rfl).below b1
    have K1 : Below w.heap.size w w1 := bel_then (bel_al (Below.refl w.heap.size w) _) b1
    have z0 := A0_1.lies
    clear b1
    have cp_0 : w1.cell? ⟨w.heap.size, 0, none⟩ = some (.int .i64 m) := A0_1.c 0 (of_decide_eq_true rfl)
    have gp_0 := A0_1.f 0 (of_decide_eq_true rfl)
    have cp_1 : w1.cell? ⟨w.heap.size, 1, none⟩ = some (.int .i64 c) := A0_1.c 1 (of_decide_eq_true rfl)
    have gp_1 := A0_1.f 1 (of_decide_eq_true rfl)
    have cp_2 : w1.cell? ⟨w.heap.size, 2, none⟩ = some (.int .i64 g) := A0_1.c 2 (of_decide_eq_true rfl)
    have gp_2 := A0_1.f 2 (of_decide_eq_true rfl)
    have cp_3 : w1.cell? ⟨w.heap.size, 3, none⟩ = some (.int .i64 i) := A0_1.c 3 (of_decide_eq_true rfl)
    have gp_3 := A0_1.f 3 (of_decide_eq_true rfl)
    have cp_4 : w1.cell? ⟨w.heap.size, 4, none⟩ = some (.int .i64 l) := A0_1.c 4 (of_decide_eq_true rfl)
    have gp_4 := A0_1.f 4 (of_decide_eq_true rfl)
    have cp_5 : w1.cell? ⟨w.heap.size, 5, none⟩ = some (.int .i64 f) := A0_1.c 5 (of_decide_eq_true rfl)
    have gp_5 := A0_1.f 5 (of_decide_eq_true rfl)
    go_wp2_with (with_reducible refine post_stop ?_)
    exact ⟨bodyPost_ret (v := .bool true) (by simp [results, Try.results5, go_sem]) rfl ⟨rfl, K1⟩⟩
  replace d2 : 16 ≤ n := by omega
  by_cases d3 : 200 < n
  · clear h
    go_enter Try.func5, Try.ntmps5
    go_wp2_with fail
    refine (awake_any _).mono ?_
    rintro e w1 ⟨rfl, b1⟩
    have A0_1 : Arr w.heap.size [.int .i64 m, .int .i64 c, .int .i64 g, .int .i64 i, .int .i64 l, .int .i64 f] w1 := (Arr_at w _ [.int .i64 m, .int .i64 c, .int .i64 g, .int .i64 i, .int .i64 l, .int .i64 f] 23 rfl).below b1
    have K1 : Below w.heap.size w w1 := bel_then (bel_al (Below.refl w.heap.size w) _) b1
    have z0 := A0_1.lies
    clear b1
    have cp_0 : w1.cell? ⟨w.heap.size, 0, none⟩ = some (.int .i64 m) := A0_1.c 0 (of_decide_eq_true rfl)
    have gp_0 := A0_1.f 0 (of_decide_eq_true rfl)
    have cp_1 : w1.cell? ⟨w.heap.size, 1, none⟩ = some (.int .i64 c) := A0_1.c 1 (of_decide_eq_true rfl)
    have gp_1 := A0_1.f 1 (of_decide_eq_true rfl)
    have cp_2 : w1.cell? ⟨w.heap.size, 2, none⟩ = some (.int .i64 g) := A0_1.c 2 (of_decide_eq_true rfl)
    have gp_2 := A0_1.f 2 (of_decide_eq_true rfl)
    have cp_3 : w1.cell? ⟨w.heap.size, 3, none⟩ = some (.int .i64 i) := A0_1.c 3 (of_decide_eq_true rfl)
    have gp_3 := A0_1.f 3 (of_decide_eq_true rfl)
    have cp_4 : w1.cell? ⟨w.heap.size, 4, none⟩ = some (.int .i64 l) := A0_1.c 4 (of_decide_eq_true rfl)
    have gp_4 := A0_1.f 4 (of_decide_eq_true rfl)
    have cp_5 : w1.cell? ⟨w.heap.size, 5, none⟩ = some (.int .i64 f) := A0_1.c 5 (of_decide_eq_true rfl)
    have gp_5 := A0_1.f 5 (of_decide_eq_true rfl)
    go_wp2_with (with_reducible refine post_stop ?_)
    exact ⟨bodyPost_ret (v := .bool true) (by simp [results, Try.results5, go_sem]) rfl ⟨rfl, K1⟩⟩
  replace d3 : n ≤ 200 := by omega
  by_cases d4 : c < 0
  · clear h
    go_enter Try.func5, Try.ntmps5
    go_wp2_with fail
    refine (awake_any _).mono ?_
    rintro e w1 ⟨rfl, b1⟩
    have A0_1 : Arr w.heap.size [.int .i64 m, .int .i64 c, .int .i64 g, .int .i64 i, .int .i64 l, .int .i64 f] w1 := (Arr_at w _ [.int .i64 m, .int .i64 c, .int .i64 g, .int .i64 i, .int .i64 l, .int .i64 f] 23 rfl).below b1
    have K1 : Below w.heap.size w w1 := bel_then (bel_al (Below.refl w.heap.size w) _) b1
    have z0 := A0_1.lies
    clear b1
    have cp_0 : w1.cell? ⟨w.heap.size, 0, none⟩ = some (.int .i64 m) := A0_1.c 0 (of_decide_eq_true rfl)
    have gp_0 := A0_1.f 0 (of_decide_eq_true rfl)
    have cp_1 : w1.cell? ⟨w.heap.size, 1, none⟩ = some (.int .i64 c) := A0_1.c 1 (of_decide_eq_true rfl)
    have gp_1 := A0_1.f 1 (of_decide_eq_true rfl)
    have cp_2 : w1.cell? ⟨w.heap.size, 2, none⟩ = some (.int .i64 g) := A0_1.c 2 (of_decide_eq_true rfl)
    have gp_2 := A0_1.f 2 (of_decide_eq_true rfl)
    have cp_3 : w1.cell? ⟨w.heap.size, 3, none⟩ = some (.int .i64 i) := A0_1.c 3 (of_decide_eq_true rfl)
    have gp_3 := A0_1.f 3 (of_decide_eq_true rfl)
    have cp_4 : w1.cell? ⟨w.heap.size, 4, none⟩ = some (.int .i64 l) := A0_1.c 4 (of_decide_eq_true rfl)
    have gp_4 := A0_1.f 4 (of_decide_eq_true rfl)
    have cp_5 : w1.cell? ⟨w.heap.size, 5, none⟩ = some (.int .i64 f) := A0_1.c 5 (of_decide_eq_true rfl)
    have gp_5 := A0_1.f 5 (of_decide_eq_true rfl)
    go_wp2_with (with_reducible refine post_stop ?_)
    exact ⟨bodyPost_ret (v := .bool true) (by simp [results, Try.results5, go_sem]) rfl ⟨rfl, K1⟩⟩
  replace d4 : 0 ≤ c := by omega
  by_cases d5 : g < 0
  · clear h
    go_enter Try.func5, Try.ntmps5
    go_wp2_with fail
    refine (awake_any _).mono ?_
    rintro e w1 ⟨rfl, b1⟩
    have A0_1 : Arr w.heap.size [.int .i64 m, .int .i64 c, .int .i64 g, .int .i64 i, .int .i64 l, .int .i64 f] w1 := (Arr_at w _ [.int .i64 m, .int .i64 c, .int .i64 g, .int .i64 i, .int .i64 l, .int .i64 f] 23 rfl).below b1
    have K1 : Below w.heap.size w w1 := bel_then (bel_al (Below.refl w.heap.size w) _) b1
    have z0 := A0_1.lies
    clear b1
    have cp_0 : w1.cell? ⟨w.heap.size, 0, none⟩ = some (.int .i64 m) := A0_1.c 0 (of_decide_eq_true rfl)
    have gp_0 := A0_1.f 0 (of_decide_eq_true rfl)
    have cp_1 : w1.cell? ⟨w.heap.size, 1, none⟩ = some (.int .i64 c) := A0_1.c 1 (of_decide_eq_true rfl)
    have gp_1 := A0_1.f 1 (of_decide_eq_true rfl)
    have cp_2 : w1.cell? ⟨w.heap.size, 2, none⟩ = some (.int .i64 g) := A0_1.c 2 (of_decide_eq_true rfl)
    have gp_2 := A0_1.f 2 (of_decide_eq_true rfl)
    have cp_3 : w1.cell? ⟨w.heap.size, 3, none⟩ = some (.int .i64 i) := A0_1.c 3 (of_decide_eq_true rfl)
    have gp_3 := A0_1.f 3 (of_decide_eq_true rfl)
    have cp_4 : w1.cell? ⟨w.heap.size, 4, none⟩ = some (.int .i64 l) := A0_1.c 4 (of_decide_eq_true rfl)
    have gp_4 := A0_1.f 4 (of_decide_eq_true rfl)
    have cp_5 : w1.cell? ⟨w.heap.size, 5, none⟩ = some (.int .i64 f) := A0_1.c 5 (of_decide_eq_true rfl)
    have gp_5 := A0_1.f 5 (of_decide_eq_true rfl)
    go_wp2_with (with_reducible refine post_stop ?_)
    exact ⟨bodyPost_ret (v := .bool true) (by simp [results, Try.results5, go_sem]) rfl ⟨rfl, K1⟩⟩
  replace d5 : 0 ≤ g := by omega
  by_cases d6 : i < 0
  · clear h
    go_enter Try.func5, Try.ntmps5
    go_wp2_with fail
    refine (awake_any _).mono ?_
    rintro e w1 ⟨rfl, b1⟩
    have A0_1 : Arr w.heap.size [.int .i64 m, .int .i64 c, .int .i64 g, .int .i64 i, .int .i64 l, .int .i64 f] w1 := (Arr_at w _ [.int .i64 m, .int .i64 c, .int .i64 g, .int .i64 i, .int .i64 l, .int .i64 f] 23 rfl).below b1
    have K1 : Below w.heap.size w w1 := bel_then (bel_al (Below.refl w.heap.size w) _) b1
    have z0 := A0_1.lies
    clear b1
    have cp_0 : w1.cell? ⟨w.heap.size, 0, none⟩ = some (.int .i64 m) := A0_1.c 0 (of_decide_eq_true rfl)
    have gp_0 := A0_1.f 0 (of_decide_eq_true rfl)
    have cp_1 : w1.cell? ⟨w.heap.size, 1, none⟩ = some (.int .i64 c) := A0_1.c 1 (of_decide_eq_true rfl)
    have gp_1 := A0_1.f 1 (of_decide_eq_true rfl)
    have cp_2 : w1.cell? ⟨w.heap.size, 2, none⟩ = some (.int .i64 g) := A0_1.c 2 (of_decide_eq_true rfl)
    have gp_2 := A0_1.f 2 (of_decide_eq_true rfl)
    have cp_3 : w1.cell? ⟨w.heap.size, 3, none⟩ = some (.int .i64 i) := A0_1.c 3 (of_decide_eq_true rfl)
    have gp_3 := A0_1.f 3 (of_decide_eq_true rfl)
    have cp_4 : w1.cell? ⟨w.heap.size, 4, none⟩ = some (.int .i64 l) := A0_1.c 4 (of_decide_eq_true rfl)
    have gp_4 := A0_1.f 4 (of_decide_eq_true rfl)
    have cp_5 : w1.cell? ⟨w.heap.size, 5, none⟩ = some (.int .i64 f) := A0_1.c 5 (of_decide_eq_true rfl)
    have gp_5 := A0_1.f 5 (of_decide_eq_true rfl)
    go_wp2_with (with_reducible refine post_stop ?_)
    exact ⟨bodyPost_ret (v := .bool true) (by simp [results, Try.results5, go_sem]) rfl ⟨rfl, K1⟩⟩
  replace d6 : 0 ≤ i := by omega
  by_cases d7 : l < 0
  · clear h
    go_enter Try.func5, Try.ntmps5
    go_wp2_with fail
    refine (awake_any _).mono ?_
    rintro e w1 ⟨rfl, b1⟩
    have A0_1 : Arr w.heap.size [.int .i64 m, .int .i64 c, .int .i64 g, .int .i64 i, .int .i64 l, .int .i64 f] w1 := (Arr_at w _ [.int .i64 m, .int .i64 c, .int .i64 g, .int .i64 i, .int .i64 l, .int .i64 f] 23 rfl).below b1
    have K1 : Below w.heap.size w w1 := bel_then (bel_al (Below.refl w.heap.size w) _) b1
    have z0 := A0_1.lies
    clear b1
    have cp_0 : w1.cell? ⟨w.heap.size, 0, none⟩ = some (.int .i64 m) := A0_1.c 0 (of_decide_eq_true rfl)
    have gp_0 := A0_1.f 0 (of_decide_eq_true rfl)
    have cp_1 : w1.cell? ⟨w.heap.size, 1, none⟩ = some (.int .i64 c) := A0_1.c 1 (of_decide_eq_true rfl)
    have gp_1 := A0_1.f 1 (of_decide_eq_true rfl)
    have cp_2 : w1.cell? ⟨w.heap.size, 2, none⟩ = some (.int .i64 g) := A0_1.c 2 (of_decide_eq_true rfl)
    have gp_2 := A0_1.f 2 (of_decide_eq_true rfl)
    have cp_3 : w1.cell? ⟨w.heap.size, 3, none⟩ = some (.int .i64 i) := A0_1.c 3 (of_decide_eq_true rfl)
    have gp_3 := A0_1.f 3 (of_decide_eq_true rfl)
    have cp_4 : w1.cell? ⟨w.heap.size, 4, none⟩ = some (.int .i64 l) := A0_1.c 4 (of_decide_eq_true rfl)
    have gp_4 := A0_1.f 4 (of_decide_eq_true rfl)
    have cp_5 : w1.cell? ⟨w.heap.size, 5, none⟩ = some (.int .i64 f) := A0_1.c 5 (of_decide_eq_true rfl)
    have gp_5 := A0_1.f 5 (of_decide_eq_true rfl)
    go_wp2_with (with_reducible refine post_stop ?_)
    exact ⟨bodyPost_ret (v := .bool true) (by simp [results, Try.results5, go_sem]) rfl ⟨rfl, K1⟩⟩
  replace d7 : 0 ≤ l := by omega
  omega
set_option maxRecDepth 100000 in
set_option maxHeartbeats 4000000 in
theorem fine_in (m c g i l f : Int) (k : Nat) (w : World) (hp : WfPl ⟨m, c, g, i, l, f⟩) (hk : 16 ≤ k) (hk2 : k ≤ 200) (hm : 0 ≤ m) (hm2 : m ≤ 2) (hc : 0 ≤ c) (hg : 0 ≤ g) (hi : 0 ≤ i) (hl : 0 ≤ l) : Calls Try.prog 5 #[.agg #[.int .i64 m, .int .i64 c, .int .i64 g, .int .i64 i, .int .i64 l, .int .i64 f], .int .i64 k] w fun e w' => e = .returned (.bool true) ∧ Below w.heap.size w w' := by
  have HI : Hid (FInv f 0 ⟨m, c, g, i, l, f⟩) := ⟨hp, hc, hg, rfl, by show m = 2 ∨ (m = 1 ∧ ((1 ≤ g ∧ (0 : Nat) ≤ 4) ∨ (0 : Nat) ≤ 3)) ∨ (m = 0 ∧ ((2 ≤ c ∧ (0 : Nat) ≤ 2) ∨ (1 ≤ c ∧ (0 : Nat) ≤ 1) ∨ (0 : Nat) = 0)); omega⟩
  clear hp
  go_enter Try.func5, Try.ntmps5
  go_wp2_with fail
  refine (awake_any _).mono ?_
  rintro e w1 ⟨rfl, b1⟩
  have A0_1 : Arr w.heap.size [.int .i64 m, .int .i64 c, .int .i64 g, .int .i64 i, .int .i64 l, .int .i64 f] w1 := (Arr_at w _ [.int .i64 m, .int .i64 c, .int .i64 g, .int .i64 i, .int .i64 l, .int .i64 f] 23 rfl).below b1
  have K1 : Below w.heap.size w w1 := bel_then (bel_al (Below.refl w.heap.size w) _) b1
  have z0 := A0_1.lies
  clear b1
  have cp_0 : w1.cell? ⟨w.heap.size, 0, none⟩ = some (.int .i64 m) := A0_1.c 0 (of_decide_eq_true rfl)
  have gp_0 := A0_1.f 0 (of_decide_eq_true rfl)
  have cp_1 : w1.cell? ⟨w.heap.size, 1, none⟩ = some (.int .i64 c) := A0_1.c 1 (of_decide_eq_true rfl)
  have gp_1 := A0_1.f 1 (of_decide_eq_true rfl)
  have cp_2 : w1.cell? ⟨w.heap.size, 2, none⟩ = some (.int .i64 g) := A0_1.c 2 (of_decide_eq_true rfl)
  have gp_2 := A0_1.f 2 (of_decide_eq_true rfl)
  have cp_3 : w1.cell? ⟨w.heap.size, 3, none⟩ = some (.int .i64 i) := A0_1.c 3 (of_decide_eq_true rfl)
  have gp_3 := A0_1.f 3 (of_decide_eq_true rfl)
  have cp_4 : w1.cell? ⟨w.heap.size, 4, none⟩ = some (.int .i64 l) := A0_1.c 4 (of_decide_eq_true rfl)
  have gp_4 := A0_1.f 4 (of_decide_eq_true rfl)
  have cp_5 : w1.cell? ⟨w.heap.size, 5, none⟩ = some (.int .i64 f) := A0_1.c 5 (of_decide_eq_true rfl)
  have gp_5 := A0_1.f 5 (of_decide_eq_true rfl)
  go_wp2_with fail
  go_loopw [48] (fun iv wr => ∃ (j : Nat) (q : Pl), j ≤ k ∧ iv = .int .i64 j ∧ Below w.heap.size w wr ∧ Arr w.heap.size [.int .i64 q.mode, .int .i64 q.calm, .int .i64 q.good, .int .i64 q.miss, .int .i64 q.lost, .int .i64 q.faults] wr ∧ Hid (FInv f j q)) (fun iv _ => k - (intOf iv).toNat)
  case atStart =>
    exact ⟨0, ⟨m, c, g, i, l, f⟩, by omega, rfl, K1, A0_1, HI⟩
  case round =>
    clear cp_0 gp_0 cp_1 gp_1 cp_2 gp_2 cp_3 gp_3 cp_4 gp_4 cp_5 gp_5 A0_1 K1 HI
    obtain ⟨j, q, hj, rfl, L0, A0, HI⟩ := hrel
    obtain ⟨m0, c0, g0, i0, l0, f0⟩ := q
    dsimp only at A0
    have z2 := A0.lies
    by_cases hjk : j < k
    · obtain ⟨q, hq⟩ : ∃ q, q = nextS ⟨m0, c0, g0, i0, l0, f0⟩ goodS := ⟨_, rfl⟩
      have h1 := fun W => next_any m0 c0 g0 i0 l0 f0 false true true true true false true 0 W HI.out.w.c HI.out.w.g HI.out.w.i HI.out.w.l
      replace h1 : ∀ W, Calls Try.prog 9 #[.agg #[.int .i64 m0, .int .i64 c0, .int .i64 g0, .int .i64 i0, .int .i64 l0, .int .i64 f0], .agg #[.bool false, .bool true, .bool true, .bool true, .bool true, .bool false, .bool true, .int .i64 0]] W fun e w' => e = .returned (plV (nextS ⟨m0, c0, g0, i0, l0, f0⟩ goodS)) ∧ Below W.heap.size W w' := h1
      rw [← hq] at h1
      have HJ := HI.out.step
      rw [← hq] at HJ
      clear hq
      obtain ⟨m1, c1, g1, i1, l1, f1⟩ := q
      unfold plV at h1
      dsimp only at h1
      obtain rfl : f1 = f := HJ.fl
      have hfin : 15 ≤ j → m1 = 2 := fun h => by have u : m1 = 2 ∨ (m1 = 1 ∧ ((1 ≤ g1 ∧ j + 1 ≤ 4) ∨ j + 1 ≤ 3)) ∨ (m1 = 0 ∧ ((2 ≤ c1 ∧ j + 1 ≤ 2) ∨ (1 ≤ c1 ∧ j + 1 ≤ 1) ∨ j + 1 = 0)) := HJ.now; omega
      replace HJ : Hid _ := HJ
      go_wp2_with fail
      refine wp_region_held_drew (S := fun _ => True) (by kernel_rfl) trivial (fun hHeld => ?_)
      have A1 := A0.drew
      have K1 := Below.drew L0
      generalize wr.drew = w0 at A1 K1 ⊢
      clear A0 L0 z2 hHeld
      refine call_at2 (i0 := 0) (i1 := 1) (by kernel_rfl) rfl rfl (fun K hK => ?_) (fun K hK => ?_)
      · have cq_0 : w0.cell? ⟨w.heap.size, 0, none⟩ = some (.int .i64 m0) := A1.c 0 (of_decide_eq_true rfl)
        have gq_0 := A1.f 0 (of_decide_eq_true rfl)
        have cq_1 : w0.cell? ⟨w.heap.size, 1, none⟩ = some (.int .i64 c0) := A1.c 1 (of_decide_eq_true rfl)
        have gq_1 := A1.f 1 (of_decide_eq_true rfl)
        have cq_2 : w0.cell? ⟨w.heap.size, 2, none⟩ = some (.int .i64 g0) := A1.c 2 (of_decide_eq_true rfl)
        have gq_2 := A1.f 2 (of_decide_eq_true rfl)
        have cq_3 : w0.cell? ⟨w.heap.size, 3, none⟩ = some (.int .i64 i0) := A1.c 3 (of_decide_eq_true rfl)
        have gq_3 := A1.f 3 (of_decide_eq_true rfl)
        have cq_4 : w0.cell? ⟨w.heap.size, 4, none⟩ = some (.int .i64 l0) := A1.c 4 (of_decide_eq_true rfl)
        have gq_4 := A1.f 4 (of_decide_eq_true rfl)
        have cq_5 : w0.cell? ⟨w.heap.size, 5, none⟩ = some (.int .i64 f0) := A1.c 5 (of_decide_eq_true rfl)
        have gq_5 := A1.f 5 (of_decide_eq_true rfl)
        go_simp
        refine hK.out _ _ trivial (fun _ => ?_)
        clear cq_0 gq_0 cq_1 gq_1 cq_2 gq_2 cq_3 gq_3 cq_4 gq_4 cq_5 gq_5 hK K
        refine call_at (i := 1) (by kernel_rfl) rfl (fun K hK => ?_)
        go_simp
        refine (good_any _).mono ?_
        rintro e w2 ⟨rfl, b2⟩
        have A2 := A1.below b2
        have K2 := bel_then K1 b2
        refine hK.out _ _ trivial (fun _ => ?_)
        clear hK K b2 A1 K1
        refine call_at (i := 2) (by kernel_rfl) rfl (fun K hK => ?_)
        go_simp
        refine (h1 _).mono ?_
        rintro e w3 ⟨rfl, b3⟩
        have A3 := A2.below b3
        have K3 := bel_then K2 b3
        have z3 := A3.lies
        refine hK.out _ _ trivial (fun _ => ?_)
        clear hK K b3 A2 K2
        have cq_0 : w3.cell? ⟨w.heap.size, 0, none⟩ = some (.int .i64 m0) := A3.c 0 (of_decide_eq_true rfl)
        have gq_0 := A3.f 0 (of_decide_eq_true rfl)
        have cq_1 : w3.cell? ⟨w.heap.size, 1, none⟩ = some (.int .i64 c0) := A3.c 1 (of_decide_eq_true rfl)
        have gq_1 := A3.f 1 (of_decide_eq_true rfl)
        have cq_2 : w3.cell? ⟨w.heap.size, 2, none⟩ = some (.int .i64 g0) := A3.c 2 (of_decide_eq_true rfl)
        have gq_2 := A3.f 2 (of_decide_eq_true rfl)
        have cq_3 : w3.cell? ⟨w.heap.size, 3, none⟩ = some (.int .i64 i0) := A3.c 3 (of_decide_eq_true rfl)
        have gq_3 := A3.f 3 (of_decide_eq_true rfl)
        have cq_4 : w3.cell? ⟨w.heap.size, 4, none⟩ = some (.int .i64 l0) := A3.c 4 (of_decide_eq_true rfl)
        have gq_4 := A3.f 4 (of_decide_eq_true rfl)
        have cq_5 : w3.cell? ⟨w.heap.size, 5, none⟩ = some (.int .i64 f0) := A3.c 5 (of_decide_eq_true rfl)
        have gq_5 := A3.f 5 (of_decide_eq_true rfl)
        refine call_at (i := 3) (by kernel_rfl) rfl (fun K hK => ?_)
        go_simp
        refine hK.out _ _ trivial (fun _ => ?_)
        refine wpAnyH_done (by kernel_rfl) ?_ _
        have A4 := ((((((A3.put 0 (of_decide_eq_true rfl) (.int .i64 m1) [.int .i64 m1, .int .i64 c0, .int .i64 g0, .int .i64 i0, .int .i64 l0, .int .i64 f0] rfl).put 1 (of_decide_eq_true rfl) (.int .i64 c1) [.int .i64 m1, .int .i64 c1, .int .i64 g0, .int .i64 i0, .int .i64 l0, .int .i64 f0] rfl).put 2 (of_decide_eq_true rfl) (.int .i64 g1) [.int .i64 m1, .int .i64 c1, .int .i64 g1, .int .i64 i0, .int .i64 l0, .int .i64 f0] rfl).put 3 (of_decide_eq_true rfl) (.int .i64 i1) [.int .i64 m1, .int .i64 c1, .int .i64 g1, .int .i64 i1, .int .i64 l0, .int .i64 f0] rfl).put 4 (of_decide_eq_true rfl) (.int .i64 l1) [.int .i64 m1, .int .i64 c1, .int .i64 g1, .int .i64 i1, .int .i64 l1, .int .i64 f0] rfl).put 5 (of_decide_eq_true rfl) (.int .i64 f1) [.int .i64 m1, .int .i64 c1, .int .i64 g1, .int .i64 i1, .int .i64 l1, .int .i64 f1] rfl)
        have K4 := (bel_new (bel_new (bel_new (bel_new (bel_new (bel_new K3 w.heap.size 0 (by omega) (.int .i64 m1)) w.heap.size 1 (by omega) (.int .i64 c1)) w.heap.size 2 (by omega) (.int .i64 g1)) w.heap.size 3 (by omega) (.int .i64 i1)) w.heap.size 4 (by omega) (.int .i64 l1)) w.heap.size 5 (by omega) (.int .i64 f1))
        clear cq_0 gq_0 cq_1 gq_1 cq_2 gq_2 cq_3 gq_3 cq_4 gq_4 cq_5 gq_5 hK K
        generalize ((((((w3.setCell ⟨w.heap.size, 0, none⟩ (.int .i64 m1)).setCell ⟨w.heap.size, 1, none⟩ (.int .i64 c1)).setCell ⟨w.heap.size, 2, none⟩ (.int .i64 g1)).setCell ⟨w.heap.size, 3, none⟩ (.int .i64 i1)).setCell ⟨w.heap.size, 4, none⟩ (.int .i64 l1)).setCell ⟨w.heap.size, 5, none⟩ (.int .i64 f1)) = w4 at A4 K4 ⊢
        clear A3 K3 z3
        have z4 := A4.lies
        have cq_0 : w4.cell? ⟨w.heap.size, 0, none⟩ = some (.int .i64 m1) := A4.c 0 (of_decide_eq_true rfl)
        have cq_1 : w4.cell? ⟨w.heap.size, 1, none⟩ = some (.int .i64 c1) := A4.c 1 (of_decide_eq_true rfl)
        have cq_2 : w4.cell? ⟨w.heap.size, 2, none⟩ = some (.int .i64 g1) := A4.c 2 (of_decide_eq_true rfl)
        have cq_3 : w4.cell? ⟨w.heap.size, 3, none⟩ = some (.int .i64 i1) := A4.c 3 (of_decide_eq_true rfl)
        have cq_4 : w4.cell? ⟨w.heap.size, 4, none⟩ = some (.int .i64 l1) := A4.c 4 (of_decide_eq_true rfl)
        have cq_5 : w4.cell? ⟨w.heap.size, 5, none⟩ = some (.int .i64 f1) := A4.c 5 (of_decide_eq_true rfl)
        by_cases h15 : 15 ≤ j
        · obtain rfl := hfin h15
          clear hfin
          go_wp2_with fail
          go_roundw
          case rel => exact ⟨j + 1, ⟨2, c1, g1, i1, l1, f1⟩, by omega, by go_num, K4, A4, HJ⟩
          case measure => simp [intOf]; omega
        · clear hfin
          go_wp2_with fail
          go_roundw
          case rel => exact ⟨j + 1, ⟨m1, c1, g1, i1, l1, f1⟩, by omega, by go_num, K4, A4, HJ⟩
          case measure => simp [intOf]; omega
      · go_simp
        refine (good_any _).mono ?_
        rintro e w2 ⟨rfl, b2⟩
        have A2 := A1.below b2
        have K2 := bel_then K1 b2
        refine hK.out _ _ trivial (fun _ => ?_)
        clear hK K b2 A1 K1
        have cq_0 : w2.cell? ⟨w.heap.size, 0, none⟩ = some (.int .i64 m0) := A2.c 0 (of_decide_eq_true rfl)
        have gq_0 := A2.f 0 (of_decide_eq_true rfl)
        have cq_1 : w2.cell? ⟨w.heap.size, 1, none⟩ = some (.int .i64 c0) := A2.c 1 (of_decide_eq_true rfl)
        have gq_1 := A2.f 1 (of_decide_eq_true rfl)
        have cq_2 : w2.cell? ⟨w.heap.size, 2, none⟩ = some (.int .i64 g0) := A2.c 2 (of_decide_eq_true rfl)
        have gq_2 := A2.f 2 (of_decide_eq_true rfl)
        have cq_3 : w2.cell? ⟨w.heap.size, 3, none⟩ = some (.int .i64 i0) := A2.c 3 (of_decide_eq_true rfl)
        have gq_3 := A2.f 3 (of_decide_eq_true rfl)
        have cq_4 : w2.cell? ⟨w.heap.size, 4, none⟩ = some (.int .i64 l0) := A2.c 4 (of_decide_eq_true rfl)
        have gq_4 := A2.f 4 (of_decide_eq_true rfl)
        have cq_5 : w2.cell? ⟨w.heap.size, 5, none⟩ = some (.int .i64 f0) := A2.c 5 (of_decide_eq_true rfl)
        have gq_5 := A2.f 5 (of_decide_eq_true rfl)
        refine call_at (i := 0) (by kernel_rfl) rfl (fun K hK => ?_)
        go_simp
        refine hK.out _ _ trivial (fun _ => ?_)
        clear cq_0 gq_0 cq_1 gq_1 cq_2 gq_2 cq_3 gq_3 cq_4 gq_4 cq_5 gq_5 hK K
        refine call_at (i := 2) (by kernel_rfl) rfl (fun K hK => ?_)
        go_simp
        refine (h1 _).mono ?_
        rintro e w3 ⟨rfl, b3⟩
        have A3 := A2.below b3
        have K3 := bel_then K2 b3
        have z3 := A3.lies
        refine hK.out _ _ trivial (fun _ => ?_)
        clear hK K b3 A2 K2
        have cq_0 : w3.cell? ⟨w.heap.size, 0, none⟩ = some (.int .i64 m0) := A3.c 0 (of_decide_eq_true rfl)
        have gq_0 := A3.f 0 (of_decide_eq_true rfl)
        have cq_1 : w3.cell? ⟨w.heap.size, 1, none⟩ = some (.int .i64 c0) := A3.c 1 (of_decide_eq_true rfl)
        have gq_1 := A3.f 1 (of_decide_eq_true rfl)
        have cq_2 : w3.cell? ⟨w.heap.size, 2, none⟩ = some (.int .i64 g0) := A3.c 2 (of_decide_eq_true rfl)
        have gq_2 := A3.f 2 (of_decide_eq_true rfl)
        have cq_3 : w3.cell? ⟨w.heap.size, 3, none⟩ = some (.int .i64 i0) := A3.c 3 (of_decide_eq_true rfl)
        have gq_3 := A3.f 3 (of_decide_eq_true rfl)
        have cq_4 : w3.cell? ⟨w.heap.size, 4, none⟩ = some (.int .i64 l0) := A3.c 4 (of_decide_eq_true rfl)
        have gq_4 := A3.f 4 (of_decide_eq_true rfl)
        have cq_5 : w3.cell? ⟨w.heap.size, 5, none⟩ = some (.int .i64 f0) := A3.c 5 (of_decide_eq_true rfl)
        have gq_5 := A3.f 5 (of_decide_eq_true rfl)
        refine call_at (i := 3) (by kernel_rfl) rfl (fun K hK => ?_)
        go_simp
        refine hK.out _ _ trivial (fun _ => ?_)
        refine wpAnyH_done (by kernel_rfl) ?_ _
        have A4 := ((((((A3.put 0 (of_decide_eq_true rfl) (.int .i64 m1) [.int .i64 m1, .int .i64 c0, .int .i64 g0, .int .i64 i0, .int .i64 l0, .int .i64 f0] rfl).put 1 (of_decide_eq_true rfl) (.int .i64 c1) [.int .i64 m1, .int .i64 c1, .int .i64 g0, .int .i64 i0, .int .i64 l0, .int .i64 f0] rfl).put 2 (of_decide_eq_true rfl) (.int .i64 g1) [.int .i64 m1, .int .i64 c1, .int .i64 g1, .int .i64 i0, .int .i64 l0, .int .i64 f0] rfl).put 3 (of_decide_eq_true rfl) (.int .i64 i1) [.int .i64 m1, .int .i64 c1, .int .i64 g1, .int .i64 i1, .int .i64 l0, .int .i64 f0] rfl).put 4 (of_decide_eq_true rfl) (.int .i64 l1) [.int .i64 m1, .int .i64 c1, .int .i64 g1, .int .i64 i1, .int .i64 l1, .int .i64 f0] rfl).put 5 (of_decide_eq_true rfl) (.int .i64 f1) [.int .i64 m1, .int .i64 c1, .int .i64 g1, .int .i64 i1, .int .i64 l1, .int .i64 f1] rfl)
        have K4 := (bel_new (bel_new (bel_new (bel_new (bel_new (bel_new K3 w.heap.size 0 (by omega) (.int .i64 m1)) w.heap.size 1 (by omega) (.int .i64 c1)) w.heap.size 2 (by omega) (.int .i64 g1)) w.heap.size 3 (by omega) (.int .i64 i1)) w.heap.size 4 (by omega) (.int .i64 l1)) w.heap.size 5 (by omega) (.int .i64 f1))
        clear cq_0 gq_0 cq_1 gq_1 cq_2 gq_2 cq_3 gq_3 cq_4 gq_4 cq_5 gq_5 hK K
        generalize ((((((w3.setCell ⟨w.heap.size, 0, none⟩ (.int .i64 m1)).setCell ⟨w.heap.size, 1, none⟩ (.int .i64 c1)).setCell ⟨w.heap.size, 2, none⟩ (.int .i64 g1)).setCell ⟨w.heap.size, 3, none⟩ (.int .i64 i1)).setCell ⟨w.heap.size, 4, none⟩ (.int .i64 l1)).setCell ⟨w.heap.size, 5, none⟩ (.int .i64 f1)) = w4 at A4 K4 ⊢
        clear A3 K3 z3
        have z4 := A4.lies
        have cq_0 : w4.cell? ⟨w.heap.size, 0, none⟩ = some (.int .i64 m1) := A4.c 0 (of_decide_eq_true rfl)
        have cq_1 : w4.cell? ⟨w.heap.size, 1, none⟩ = some (.int .i64 c1) := A4.c 1 (of_decide_eq_true rfl)
        have cq_2 : w4.cell? ⟨w.heap.size, 2, none⟩ = some (.int .i64 g1) := A4.c 2 (of_decide_eq_true rfl)
        have cq_3 : w4.cell? ⟨w.heap.size, 3, none⟩ = some (.int .i64 i1) := A4.c 3 (of_decide_eq_true rfl)
        have cq_4 : w4.cell? ⟨w.heap.size, 4, none⟩ = some (.int .i64 l1) := A4.c 4 (of_decide_eq_true rfl)
        have cq_5 : w4.cell? ⟨w.heap.size, 5, none⟩ = some (.int .i64 f1) := A4.c 5 (of_decide_eq_true rfl)
        by_cases h15 : 15 ≤ j
        · obtain rfl := hfin h15
          clear hfin
          go_wp2_with fail
          go_roundw
          case rel => exact ⟨j + 1, ⟨2, c1, g1, i1, l1, f1⟩, by omega, by go_num, K4, A4, HJ⟩
          case measure => simp [intOf]; omega
        · clear hfin
          go_wp2_with fail
          go_roundw
          case rel => exact ⟨j + 1, ⟨m1, c1, g1, i1, l1, f1⟩, by omega, by go_num, K4, A4, HJ⟩
          case measure => simp [intOf]; omega
    · obtain rfl : j = k := by omega
      go_wp2
      go_ret
      exact ⟨rfl, L0⟩
set_option maxRecDepth 100000 in
set_option maxHeartbeats 4000000 in
theorem ModeFine_any (p : Pl) (n : Int) (w : World) (hp : WfPl p) : Calls Try.prog 5 #[.agg #[.int .i64 p.mode, .int .i64 p.calm, .int .i64 p.good, .int .i64 p.miss, .int .i64 p.lost, .int .i64 p.faults], .int .i64 n] w fun e w' => e = .returned (.bool true) ∧ Below w.heap.size w w' := by
  obtain ⟨m, c, g, i, l, f⟩ := p
  dsimp only
  by_cases h : m < 0 ∨ 2 < m ∨ n < 16 ∨ 200 < n ∨ c < 0 ∨ g < 0 ∨ i < 0 ∨ l < 0
  · exact fine_out m c g i l f n w h
  · obtain ⟨k, rfl⟩ : ∃ k : Nat, n = k := ⟨n.toNat, by omega⟩
    exact fine_in m c g i l f k w hp (by omega) (by omega) (by omega) (by omega) (by omega) (by omega) (by omega) (by omega)
end Go.Proofs.Ytocnaflhedccpaa
