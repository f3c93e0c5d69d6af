/-
  ModeSteps, walked, for the seat Ytocnaflhedccpaa. (Made by mkmode.py.)
-/
import Derived.Test.YtocnaflhedccpaaMdAwake
namespace Go.Proofs.Ytocnaflhedccpaa
open Go.RowKit

/-- Where a step leads. -/
theorem next_where (p : Pl) (s : Sn) (h0 : 0 ≤ p.mode) (h3 : p.mode ≤ 3) : (nextS p s).mode = p.mode ∨ ((nextS p s).mode = 3 ∧ s.order = 1) ∨ ((nextS p s).mode = 2 ∧ p.mode = 1 ∧ s.gyro = true ∧ s.pair = true ∧ s.lit = true ∧ s.gap = false) ∨
    ((nextS p s).mode = 0 ∧ ((p.mode = 3 ∧ s.order = 2) ∨ (p.mode = 1 ∧ s.gyro = true ∧ s.slow = false))) ∨ ((nextS p s).mode = 1 ∧ ((p.mode = 0 ∧ s.gyro = true ∧ s.slow = true) ∨ p.mode = 2)) := by
  obtain ⟨m, c, g, i, l, f⟩ := p
  obtain ⟨gap, gyro, slow, pair, lit, bad, pass, o⟩ := s
  have hz : ∀ n, cntS n false = 0 := fun _ => rfl
  dsimp only at *
  unfold nextS
  dsimp only
  by_cases o1 : o = 1
  · rw [if_pos o1]; exact Or.inr (Or.inl ⟨rfl, o1⟩)
  rw [if_neg o1]
  by_cases m3 : m = 3
  · rw [if_pos m3]; unfold safeS; dsimp only
    by_cases o2 : o = 2
    · rw [if_pos o2]; simp [m3, o2]
    · rw [if_neg o2]; simp
  rw [if_neg m3]
  by_cases m0 : m = 0
  · rw [if_pos m0]; unfold detS goS
    cases gyro <;> cases slow <;> simp [hz, m0]
    split <;> simp
  rw [if_neg m0]
  by_cases m1 : m = 1
  · rw [if_pos m1]; unfold coaS failS goS
    cases gap <;> cases gyro <;> cases slow <;> cases pair <;> cases lit <;> simp [hz, m1]
    split <;> simp
  rw [if_neg m1, if_pos (show m = 2 by omega)]
  unfold finS failS
  have m2 : m = 2 := by omega
  cases gap <;> cases bad <;> cases gyro <;> cases pair <;> cases lit <;> cases pass <;> simp [hz, m2] <;> (try (repeat' split)) <;> simp
set_option maxRecDepth 100000 in
set_option maxHeartbeats 4000000 in
theorem ModeSteps_any (p : Pl) (s : Sn) (w : World) (hp : WfPl p) : Calls Try.prog 7 #[.agg #[.int .i64 p.mode, .int .i64 p.calm, .int .i64 p.good, .int .i64 p.miss, .int .i64 p.lost, .int .i64 p.faults], .agg #[.bool s.gap, .bool s.gyro, .bool s.slow, .bool s.pair, .bool s.lit, .bool s.bad, .bool s.pass, .int .i64 s.order]] w fun e w' => e = .returned (.bool true) ∧ Below w.heap.size w w' := by
  obtain ⟨m, c, g, i, l, f⟩ := p
  obtain ⟨gap, gyro, slow, pair, lit, bad, pass, o⟩ := s
  dsimp only
  by_cases lo : m < 0
  · have hm : (nextS ⟨m, c, g, i, l, f⟩ ⟨gap, gyro, slow, pair, lit, bad, pass, o⟩).mode = 3 := by unfold nextS; dsimp only; split; rfl; rw [if_neg (by omega), if_neg (by omega), if_neg (by omega), if_neg (by omega)]; rfl
    obtain ⟨q, hq⟩ : ∃ q, q = nextS ⟨m, c, g, i, l, f⟩ ⟨gap, gyro, slow, pair, lit, bad, pass, o⟩ := ⟨_, rfl⟩
    have h1 := fun W => next_any m c g i l f gap gyro slow pair lit bad pass o W hp.c hp.g hp.i hp.l
    rw [← hq] at h1
    rw [← hq] at hm
    clear hq hp
    obtain ⟨m1, c1, g1, i1, l1, f1⟩ := q
    unfold plV at h1
    dsimp only at hm h1
    subst hm
    go_enter Try.func7, Try.ntmps7
    go_wp2_with fail
    refine (awake_any _).mono ?_
    rintro e w1 ⟨rfl, b1⟩
    have A0_1 : Arr w.heap.size [.int .i64 m, .int .i64 c, .int .i64 g, .int .i64 i, .int .i64 l, .int .i64 f] w1 := ((Arr_at w _ [.int .i64 m, .int .i64 c, .int .i64 g, .int .i64 i, .int .i64 l, .int .i64 f] 23 rfl).alloc _).below b1
    have A1_1 : Arr (w.heap.size + 1) [.bool gap, .bool gyro, .bool slow, .bool pair, .bool lit, .bool bad, .bool pass, .int .i64 o] w1 := (Arr_at _ _ [.bool gap, .bool gyro, .bool slow, .bool pair, .bool lit, .bool bad, .bool pass, .int .i64 o] 25 (by simp)).below b1
    have K1 : Below w.heap.size w w1 := bel_then (bel_al (bel_al (Below.refl w.heap.size w) _) _) b1
    have z1 := A1_1.lies
    have z0 := A0_1.lies
    clear b1
    have cp_0 : w1.cell? ⟨w.heap.size, 0, none⟩ = some (.int .i64 m) := A0_1.c 0 (of_decide_eq_true rfl)
    have cp_1 : w1.cell? ⟨w.heap.size, 1, none⟩ = some (.int .i64 c) := A0_1.c 1 (of_decide_eq_true rfl)
    have cp_2 : w1.cell? ⟨w.heap.size, 2, none⟩ = some (.int .i64 g) := A0_1.c 2 (of_decide_eq_true rfl)
    have cp_3 : w1.cell? ⟨w.heap.size, 3, none⟩ = some (.int .i64 i) := A0_1.c 3 (of_decide_eq_true rfl)
    have cp_4 : w1.cell? ⟨w.heap.size, 4, none⟩ = some (.int .i64 l) := A0_1.c 4 (of_decide_eq_true rfl)
    have cp_5 : w1.cell? ⟨w.heap.size, 5, none⟩ = some (.int .i64 f) := A0_1.c 5 (of_decide_eq_true rfl)
    have cs_0 : w1.cell? ⟨(w.heap.size + 1), 0, none⟩ = some (.bool gap) := A1_1.c 0 (of_decide_eq_true rfl)
    have cs_1 : w1.cell? ⟨(w.heap.size + 1), 1, none⟩ = some (.bool gyro) := A1_1.c 1 (of_decide_eq_true rfl)
    have cs_2 : w1.cell? ⟨(w.heap.size + 1), 2, none⟩ = some (.bool slow) := A1_1.c 2 (of_decide_eq_true rfl)
    have cs_3 : w1.cell? ⟨(w.heap.size + 1), 3, none⟩ = some (.bool pair) := A1_1.c 3 (of_decide_eq_true rfl)
    have cs_4 : w1.cell? ⟨(w.heap.size + 1), 4, none⟩ = some (.bool lit) := A1_1.c 4 (of_decide_eq_true rfl)
    have cs_5 : w1.cell? ⟨(w.heap.size + 1), 5, none⟩ = some (.bool bad) := A1_1.c 5 (of_decide_eq_true rfl)
    have cs_6 : w1.cell? ⟨(w.heap.size + 1), 6, none⟩ = some (.bool pass) := A1_1.c 6 (of_decide_eq_true rfl)
    have cs_7 : w1.cell? ⟨(w.heap.size + 1), 7, none⟩ = some (.int .i64 o) := A1_1.c 7 (of_decide_eq_true rfl)
    go_wp2_with fail
    refine (h1 _).mono ?_
    rintro e w2 ⟨rfl, b2⟩
    have A0_2 := A0_1.below b2
    have A1_2 := A1_1.below b2
    have K2 := bel_then K1 b2
    have z2 := A1_2.lies
    clear cp_0 cp_1 cp_2 cp_3 cp_4 cp_5 cs_0 cs_1 cs_2 cs_3 cs_4 cs_5 cs_6 cs_7 A0_1 A1_1 K1 b2
    have cp_0 : w2.cell? ⟨w.heap.size, 0, none⟩ = some (.int .i64 m) := A0_2.c 0 (of_decide_eq_true rfl)
    have cp_1 : w2.cell? ⟨w.heap.size, 1, none⟩ = some (.int .i64 c) := A0_2.c 1 (of_decide_eq_true rfl)
    have cp_2 : w2.cell? ⟨w.heap.size, 2, none⟩ = some (.int .i64 g) := A0_2.c 2 (of_decide_eq_true rfl)
    have cp_3 : w2.cell? ⟨w.heap.size, 3, none⟩ = some (.int .i64 i) := A0_2.c 3 (of_decide_eq_true rfl)
    have cp_4 : w2.cell? ⟨w.heap.size, 4, none⟩ = some (.int .i64 l) := A0_2.c 4 (of_decide_eq_true rfl)
    have cp_5 : w2.cell? ⟨w.heap.size, 5, none⟩ = some (.int .i64 f) := A0_2.c 5 (of_decide_eq_true rfl)
    have cs_0 : w2.cell? ⟨(w.heap.size + 1), 0, none⟩ = some (.bool gap) := A1_2.c 0 (of_decide_eq_true rfl)
    have cs_1 : w2.cell? ⟨(w.heap.size + 1), 1, none⟩ = some (.bool gyro) := A1_2.c 1 (of_decide_eq_true rfl)
    have cs_2 : w2.cell? ⟨(w.heap.size + 1), 2, none⟩ = some (.bool slow) := A1_2.c 2 (of_decide_eq_true rfl)
    have cs_3 : w2.cell? ⟨(w.heap.size + 1), 3, none⟩ = some (.bool pair) := A1_2.c 3 (of_decide_eq_true rfl)
    have cs_4 : w2.cell? ⟨(w.heap.size + 1), 4, none⟩ = some (.bool lit) := A1_2.c 4 (of_decide_eq_true rfl)
    have cs_5 : w2.cell? ⟨(w.heap.size + 1), 5, none⟩ = some (.bool bad) := A1_2.c 5 (of_decide_eq_true rfl)
    have cs_6 : w2.cell? ⟨(w.heap.size + 1), 6, none⟩ = some (.bool pass) := A1_2.c 6 (of_decide_eq_true rfl)
    have cs_7 : w2.cell? ⟨(w.heap.size + 1), 7, none⟩ = some (.int .i64 o) := A1_2.c 7 (of_decide_eq_true rfl)
    go_wp2_with (with_reducible refine post_stop ?_)
    exact ⟨bodyPost_ret (v := .bool true) (by simp [results, Try.results7, go_sem]) rfl ⟨rfl, K2⟩⟩
  by_cases hi : 3 < m
  · have hm : (nextS ⟨m, c, g, i, l, f⟩ ⟨gap, gyro, slow, pair, lit, bad, pass, o⟩).mode = 3 := by unfold nextS; dsimp only; split; rfl; rw [if_neg (by omega), if_neg (by omega), if_neg (by omega), if_neg (by omega)]; rfl
    obtain ⟨q, hq⟩ : ∃ q, q = nextS ⟨m, c, g, i, l, f⟩ ⟨gap, gyro, slow, pair, lit, bad, pass, o⟩ := ⟨_, rfl⟩
    have h1 := fun W => next_any m c g i l f gap gyro slow pair lit bad pass o W hp.c hp.g hp.i hp.l
    rw [← hq] at h1
    rw [← hq] at hm
    clear hq hp
    obtain ⟨m1, c1, g1, i1, l1, f1⟩ := q
    unfold plV at h1
    dsimp only at hm h1
    subst hm
    go_enter Try.func7, Try.ntmps7
    go_wp2_with fail
    refine (awake_any _).mono ?_
    rintro e w1 ⟨rfl, b1⟩
    have A0_1 : Arr w.heap.size [.int .i64 m, .int .i64 c, .int .i64 g, .int .i64 i, .int .i64 l, .int .i64 f] w1 := ((Arr_at w _ [.int .i64 m, .int .i64 c, .int .i64 g, .int .i64 i, .int .i64 l, .int .i64 f] 23 rfl).alloc _).below b1
    have A1_1 : Arr (w.heap.size + 1) [.bool gap, .bool gyro, .bool slow, .bool pair, .bool lit, .bool bad, .bool pass, .int .i64 o] w1 := (Arr_at _ _ [.bool gap, .bool gyro, .bool slow, .bool pair, .bool lit, .bool bad, .bool pass, .int .i64 o] 25 (by simp)).below b1
    have K1 : Below w.heap.size w w1 := bel_then (bel_al (bel_al (Below.refl w.heap.size w) _) _) b1
    have z1 := A1_1.lies
    have z0 := A0_1.lies
    clear b1
    have cp_0 : w1.cell? ⟨w.heap.size, 0, none⟩ = some (.int .i64 m) := A0_1.c 0 (of_decide_eq_true rfl)
    have cp_1 : w1.cell? ⟨w.heap.size, 1, none⟩ = some (.int .i64 c) := A0_1.c 1 (of_decide_eq_true rfl)
    have cp_2 : w1.cell? ⟨w.heap.size, 2, none⟩ = some (.int .i64 g) := A0_1.c 2 (of_decide_eq_true rfl)
    have cp_3 : w1.cell? ⟨w.heap.size, 3, none⟩ = some (.int .i64 i) := A0_1.c 3 (of_decide_eq_true rfl)
    have cp_4 : w1.cell? ⟨w.heap.size, 4, none⟩ = some (.int .i64 l) := A0_1.c 4 (of_decide_eq_true rfl)
    have cp_5 : w1.cell? ⟨w.heap.size, 5, none⟩ = some (.int .i64 f) := A0_1.c 5 (of_decide_eq_true rfl)
    have cs_0 : w1.cell? ⟨(w.heap.size + 1), 0, none⟩ = some (.bool gap) := A1_1.c 0 (of_decide_eq_true rfl)
    have cs_1 : w1.cell? ⟨(w.heap.size + 1), 1, none⟩ = some (.bool gyro) := A1_1.c 1 (of_decide_eq_true rfl)
    have cs_2 : w1.cell? ⟨(w.heap.size + 1), 2, none⟩ = some (.bool slow) := A1_1.c 2 (of_decide_eq_true rfl)
    have cs_3 : w1.cell? ⟨(w.heap.size + 1), 3, none⟩ = some (.bool pair) := A1_1.c 3 (of_decide_eq_true rfl)
    have cs_4 : w1.cell? ⟨(w.heap.size + 1), 4, none⟩ = some (.bool lit) := A1_1.c 4 (of_decide_eq_true rfl)
    have cs_5 : w1.cell? ⟨(w.heap.size + 1), 5, none⟩ = some (.bool bad) := A1_1.c 5 (of_decide_eq_true rfl)
    have cs_6 : w1.cell? ⟨(w.heap.size + 1), 6, none⟩ = some (.bool pass) := A1_1.c 6 (of_decide_eq_true rfl)
    have cs_7 : w1.cell? ⟨(w.heap.size + 1), 7, none⟩ = some (.int .i64 o) := A1_1.c 7 (of_decide_eq_true rfl)
    go_wp2_with fail
    refine (h1 _).mono ?_
    rintro e w2 ⟨rfl, b2⟩
    have A0_2 := A0_1.below b2
    have A1_2 := A1_1.below b2
    have K2 := bel_then K1 b2
    have z2 := A1_2.lies
    clear cp_0 cp_1 cp_2 cp_3 cp_4 cp_5 cs_0 cs_1 cs_2 cs_3 cs_4 cs_5 cs_6 cs_7 A0_1 A1_1 K1 b2
    have cp_0 : w2.cell? ⟨w.heap.size, 0, none⟩ = some (.int .i64 m) := A0_2.c 0 (of_decide_eq_true rfl)
    have cp_1 : w2.cell? ⟨w.heap.size, 1, none⟩ = some (.int .i64 c) := A0_2.c 1 (of_decide_eq_true rfl)
    have cp_2 : w2.cell? ⟨w.heap.size, 2, none⟩ = some (.int .i64 g) := A0_2.c 2 (of_decide_eq_true rfl)
    have cp_3 : w2.cell? ⟨w.heap.size, 3, none⟩ = some (.int .i64 i) := A0_2.c 3 (of_decide_eq_true rfl)
    have cp_4 : w2.cell? ⟨w.heap.size, 4, none⟩ = some (.int .i64 l) := A0_2.c 4 (of_decide_eq_true rfl)
    have cp_5 : w2.cell? ⟨w.heap.size, 5, none⟩ = some (.int .i64 f) := A0_2.c 5 (of_decide_eq_true rfl)
    have cs_0 : w2.cell? ⟨(w.heap.size + 1), 0, none⟩ = some (.bool gap) := A1_2.c 0 (of_decide_eq_true rfl)
    have cs_1 : w2.cell? ⟨(w.heap.size + 1), 1, none⟩ = some (.bool gyro) := A1_2.c 1 (of_decide_eq_true rfl)
    have cs_2 : w2.cell? ⟨(w.heap.size + 1), 2, none⟩ = some (.bool slow) := A1_2.c 2 (of_decide_eq_true rfl)
    have cs_3 : w2.cell? ⟨(w.heap.size + 1), 3, none⟩ = some (.bool pair) := A1_2.c 3 (of_decide_eq_true rfl)
    have cs_4 : w2.cell? ⟨(w.heap.size + 1), 4, none⟩ = some (.bool lit) := A1_2.c 4 (of_decide_eq_true rfl)
    have cs_5 : w2.cell? ⟨(w.heap.size + 1), 5, none⟩ = some (.bool bad) := A1_2.c 5 (of_decide_eq_true rfl)
    have cs_6 : w2.cell? ⟨(w.heap.size + 1), 6, none⟩ = some (.bool pass) := A1_2.c 6 (of_decide_eq_true rfl)
    have cs_7 : w2.cell? ⟨(w.heap.size + 1), 7, none⟩ = some (.int .i64 o) := A1_2.c 7 (of_decide_eq_true rfl)
    go_wp2_with (with_reducible refine post_stop ?_)
    exact ⟨bodyPost_ret (v := .bool true) (by simp [results, Try.results7, go_sem]) rfl ⟨rfl, K2⟩⟩
  by_cases e : (nextS ⟨m, c, g, i, l, f⟩ ⟨gap, gyro, slow, pair, lit, bad, pass, o⟩).mode = m
  · have hm := e.symm
    clear e
    have a0 : 0 ≤ m := by omega
    have a3 : m ≤ 3 := by omega
    clear lo hi
    obtain ⟨q, hq⟩ : ∃ q, q = nextS ⟨m, c, g, i, l, f⟩ ⟨gap, gyro, slow, pair, lit, bad, pass, o⟩ := ⟨_, rfl⟩
    have h1 := fun W => next_any m c g i l f gap gyro slow pair lit bad pass o W hp.c hp.g hp.i hp.l
    rw [← hq] at h1
    rw [← hq] at hm
    clear hq hp
    obtain ⟨m1, c1, g1, i1, l1, f1⟩ := q
    unfold plV at h1
    dsimp only at hm h1
    subst hm
    go_enter Try.func7, Try.ntmps7
    go_wp2_with fail
    refine (awake_any _).mono ?_
    rintro e w1 ⟨rfl, b1⟩
    have A0_1 : Arr w.heap.size [.int .i64 m, .int .i64 c, .int .i64 g, .int .i64 i, .int .i64 l, .int .i64 f] w1 := ((Arr_at w _ [.int .i64 m, .int .i64 c, .int .i64 g, .int .i64 i, .int .i64 l, .int .i64 f] 23 rfl).alloc _).below b1
    have A1_1 : Arr (w.heap.size + 1) [.bool gap, .bool gyro, .bool slow, .bool pair, .bool lit, .bool bad, .bool pass, .int .i64 o] w1 := (Arr_at _ _ [.bool gap, .bool gyro, .bool slow, .bool pair, .bool lit, .bool bad, .bool pass, .int .i64 o] 25 (by simp)).below b1
    have K1 : Below w.heap.size w w1 := bel_then (bel_al (bel_al (Below.refl w.heap.size w) _) _) b1
    have z1 := A1_1.lies
    have z0 := A0_1.lies
    clear b1
    have cp_0 : w1.cell? ⟨w.heap.size, 0, none⟩ = some (.int .i64 m) := A0_1.c 0 (of_decide_eq_true rfl)
    have cp_1 : w1.cell? ⟨w.heap.size, 1, none⟩ = some (.int .i64 c) := A0_1.c 1 (of_decide_eq_true rfl)
    have cp_2 : w1.cell? ⟨w.heap.size, 2, none⟩ = some (.int .i64 g) := A0_1.c 2 (of_decide_eq_true rfl)
    have cp_3 : w1.cell? ⟨w.heap.size, 3, none⟩ = some (.int .i64 i) := A0_1.c 3 (of_decide_eq_true rfl)
    have cp_4 : w1.cell? ⟨w.heap.size, 4, none⟩ = some (.int .i64 l) := A0_1.c 4 (of_decide_eq_true rfl)
    have cp_5 : w1.cell? ⟨w.heap.size, 5, none⟩ = some (.int .i64 f) := A0_1.c 5 (of_decide_eq_true rfl)
    have cs_0 : w1.cell? ⟨(w.heap.size + 1), 0, none⟩ = some (.bool gap) := A1_1.c 0 (of_decide_eq_true rfl)
    have cs_1 : w1.cell? ⟨(w.heap.size + 1), 1, none⟩ = some (.bool gyro) := A1_1.c 1 (of_decide_eq_true rfl)
    have cs_2 : w1.cell? ⟨(w.heap.size + 1), 2, none⟩ = some (.bool slow) := A1_1.c 2 (of_decide_eq_true rfl)
    have cs_3 : w1.cell? ⟨(w.heap.size + 1), 3, none⟩ = some (.bool pair) := A1_1.c 3 (of_decide_eq_true rfl)
    have cs_4 : w1.cell? ⟨(w.heap.size + 1), 4, none⟩ = some (.bool lit) := A1_1.c 4 (of_decide_eq_true rfl)
    have cs_5 : w1.cell? ⟨(w.heap.size + 1), 5, none⟩ = some (.bool bad) := A1_1.c 5 (of_decide_eq_true rfl)
    have cs_6 : w1.cell? ⟨(w.heap.size + 1), 6, none⟩ = some (.bool pass) := A1_1.c 6 (of_decide_eq_true rfl)
    have cs_7 : w1.cell? ⟨(w.heap.size + 1), 7, none⟩ = some (.int .i64 o) := A1_1.c 7 (of_decide_eq_true rfl)
    go_wp2_with fail
    refine (h1 _).mono ?_
    rintro e w2 ⟨rfl, b2⟩
    have A0_2 := A0_1.below b2
    have A1_2 := A1_1.below b2
    have K2 := bel_then K1 b2
    have z2 := A1_2.lies
    clear cp_0 cp_1 cp_2 cp_3 cp_4 cp_5 cs_0 cs_1 cs_2 cs_3 cs_4 cs_5 cs_6 cs_7 A0_1 A1_1 K1 b2
    have cp_0 : w2.cell? ⟨w.heap.size, 0, none⟩ = some (.int .i64 m) := A0_2.c 0 (of_decide_eq_true rfl)
    have cp_1 : w2.cell? ⟨w.heap.size, 1, none⟩ = some (.int .i64 c) := A0_2.c 1 (of_decide_eq_true rfl)
    have cp_2 : w2.cell? ⟨w.heap.size, 2, none⟩ = some (.int .i64 g) := A0_2.c 2 (of_decide_eq_true rfl)
    have cp_3 : w2.cell? ⟨w.heap.size, 3, none⟩ = some (.int .i64 i) := A0_2.c 3 (of_decide_eq_true rfl)
    have cp_4 : w2.cell? ⟨w.heap.size, 4, none⟩ = some (.int .i64 l) := A0_2.c 4 (of_decide_eq_true rfl)
    have cp_5 : w2.cell? ⟨w.heap.size, 5, none⟩ = some (.int .i64 f) := A0_2.c 5 (of_decide_eq_true rfl)
    have cs_0 : w2.cell? ⟨(w.heap.size + 1), 0, none⟩ = some (.bool gap) := A1_2.c 0 (of_decide_eq_true rfl)
    have cs_1 : w2.cell? ⟨(w.heap.size + 1), 1, none⟩ = some (.bool gyro) := A1_2.c 1 (of_decide_eq_true rfl)
    have cs_2 : w2.cell? ⟨(w.heap.size + 1), 2, none⟩ = some (.bool slow) := A1_2.c 2 (of_decide_eq_true rfl)
    have cs_3 : w2.cell? ⟨(w.heap.size + 1), 3, none⟩ = some (.bool pair) := A1_2.c 3 (of_decide_eq_true rfl)
    have cs_4 : w2.cell? ⟨(w.heap.size + 1), 4, none⟩ = some (.bool lit) := A1_2.c 4 (of_decide_eq_true rfl)
    have cs_5 : w2.cell? ⟨(w.heap.size + 1), 5, none⟩ = some (.bool bad) := A1_2.c 5 (of_decide_eq_true rfl)
    have cs_6 : w2.cell? ⟨(w.heap.size + 1), 6, none⟩ = some (.bool pass) := A1_2.c 6 (of_decide_eq_true rfl)
    have cs_7 : w2.cell? ⟨(w.heap.size + 1), 7, none⟩ = some (.int .i64 o) := A1_2.c 7 (of_decide_eq_true rfl)
    go_wp2_with (with_reducible refine post_stop ?_)
    exact ⟨bodyPost_ret (v := .bool true) (by simp [results, Try.results7, go_sem]) rfl ⟨rfl, K2⟩⟩
  rcases next_where ⟨m, c, g, i, l, f⟩ ⟨gap, gyro, slow, pair, lit, bad, pass, o⟩ (by show 0 ≤ m; omega) (by show m ≤ 3; omega) with hm | ⟨hm, rfl⟩ | ⟨hm, rfl, rfl, rfl, rfl, rfl⟩ | ⟨hm, ⟨rfl, rfl⟩ | ⟨rfl, rfl, rfl⟩⟩ | ⟨hm, ⟨rfl, rfl, rfl⟩ | rfl⟩
  · exact absurd hm e
  · have ne : m ≠ 3 := fun h => e (by rw [hm]; exact h.symm)
    have a0 : 0 ≤ m := by omega
    have a3 : m < 3 := by omega
    clear e lo hi ne
    obtain ⟨q, hq⟩ : ∃ q, q = nextS ⟨m, c, g, i, l, f⟩ ⟨gap, gyro, slow, pair, lit, bad, pass, 1⟩ := ⟨_, rfl⟩
    have h1 := fun W => next_any m c g i l f gap gyro slow pair lit bad pass 1 W hp.c hp.g hp.i hp.l
    rw [← hq] at h1
    rw [← hq] at hm
    clear hq hp
    obtain ⟨m1, c1, g1, i1, l1, f1⟩ := q
    unfold plV at h1
    dsimp only at hm h1
    subst hm
    go_enter Try.func7, Try.ntmps7
    go_wp2_with fail
    refine (awake_any _).mono ?_
    rintro e w1 ⟨rfl, b1⟩
    have A0_1 : Arr w.heap.size [.int .i64 m, .int .i64 c, .int .i64 g, .int .i64 i, .int .i64 l, .int .i64 f] w1 := ((Arr_at w _ [.int .i64 m, .int .i64 c, .int .i64 g, .int .i64 i, .int .i64 l, .int .i64 f] 23 rfl).alloc _).below b1
    have A1_1 : Arr (w.heap.size + 1) [.bool gap, .bool gyro, .bool slow, .bool pair, .bool lit, .bool bad, .bool pass, .int .i64 1] w1 := (Arr_at _ _ [.bool gap, .bool gyro, .bool slow, .bool pair, .bool lit, .bool bad, .bool pass, .int .i64 1] 25 (by simp)).below b1
    have K1 : Below w.heap.size w w1 := bel_then (bel_al (bel_al (Below.refl w.heap.size w) _) _) b1
    have z1 := A1_1.lies
    have z0 := A0_1.lies
    clear b1
    have cp_0 : w1.cell? ⟨w.heap.size, 0, none⟩ = some (.int .i64 m) := A0_1.c 0 (of_decide_eq_true rfl)
    have cp_1 : w1.cell? ⟨w.heap.size, 1, none⟩ = some (.int .i64 c) := A0_1.c 1 (of_decide_eq_true rfl)
    have cp_2 : w1.cell? ⟨w.heap.size, 2, none⟩ = some (.int .i64 g) := A0_1.c 2 (of_decide_eq_true rfl)
    have cp_3 : w1.cell? ⟨w.heap.size, 3, none⟩ = some (.int .i64 i) := A0_1.c 3 (of_decide_eq_true rfl)
    have cp_4 : w1.cell? ⟨w.heap.size, 4, none⟩ = some (.int .i64 l) := A0_1.c 4 (of_decide_eq_true rfl)
    have cp_5 : w1.cell? ⟨w.heap.size, 5, none⟩ = some (.int .i64 f) := A0_1.c 5 (of_decide_eq_true rfl)
    have cs_0 : w1.cell? ⟨(w.heap.size + 1), 0, none⟩ = some (.bool gap) := A1_1.c 0 (of_decide_eq_true rfl)
    have cs_1 : w1.cell? ⟨(w.heap.size + 1), 1, none⟩ = some (.bool gyro) := A1_1.c 1 (of_decide_eq_true rfl)
    have cs_2 : w1.cell? ⟨(w.heap.size + 1), 2, none⟩ = some (.bool slow) := A1_1.c 2 (of_decide_eq_true rfl)
    have cs_3 : w1.cell? ⟨(w.heap.size + 1), 3, none⟩ = some (.bool pair) := A1_1.c 3 (of_decide_eq_true rfl)
    have cs_4 : w1.cell? ⟨(w.heap.size + 1), 4, none⟩ = some (.bool lit) := A1_1.c 4 (of_decide_eq_true rfl)
    have cs_5 : w1.cell? ⟨(w.heap.size + 1), 5, none⟩ = some (.bool bad) := A1_1.c 5 (of_decide_eq_true rfl)
    have cs_6 : w1.cell? ⟨(w.heap.size + 1), 6, none⟩ = some (.bool pass) := A1_1.c 6 (of_decide_eq_true rfl)
    have cs_7 : w1.cell? ⟨(w.heap.size + 1), 7, none⟩ = some (.int .i64 1) := A1_1.c 7 (of_decide_eq_true rfl)
    go_wp2_with fail
    refine (h1 _).mono ?_
    rintro e w2 ⟨rfl, b2⟩
    have A0_2 := A0_1.below b2
    have A1_2 := A1_1.below b2
    have K2 := bel_then K1 b2
    have z2 := A1_2.lies
    clear cp_0 cp_1 cp_2 cp_3 cp_4 cp_5 cs_0 cs_1 cs_2 cs_3 cs_4 cs_5 cs_6 cs_7 A0_1 A1_1 K1 b2
    have cp_0 : w2.cell? ⟨w.heap.size, 0, none⟩ = some (.int .i64 m) := A0_2.c 0 (of_decide_eq_true rfl)
    have cp_1 : w2.cell? ⟨w.heap.size, 1, none⟩ = some (.int .i64 c) := A0_2.c 1 (of_decide_eq_true rfl)
    have cp_2 : w2.cell? ⟨w.heap.size, 2, none⟩ = some (.int .i64 g) := A0_2.c 2 (of_decide_eq_true rfl)
    have cp_3 : w2.cell? ⟨w.heap.size, 3, none⟩ = some (.int .i64 i) := A0_2.c 3 (of_decide_eq_true rfl)
    have cp_4 : w2.cell? ⟨w.heap.size, 4, none⟩ = some (.int .i64 l) := A0_2.c 4 (of_decide_eq_true rfl)
    have cp_5 : w2.cell? ⟨w.heap.size, 5, none⟩ = some (.int .i64 f) := A0_2.c 5 (of_decide_eq_true rfl)
    have cs_0 : w2.cell? ⟨(w.heap.size + 1), 0, none⟩ = some (.bool gap) := A1_2.c 0 (of_decide_eq_true rfl)
    have cs_1 : w2.cell? ⟨(w.heap.size + 1), 1, none⟩ = some (.bool gyro) := A1_2.c 1 (of_decide_eq_true rfl)
    have cs_2 : w2.cell? ⟨(w.heap.size + 1), 2, none⟩ = some (.bool slow) := A1_2.c 2 (of_decide_eq_true rfl)
    have cs_3 : w2.cell? ⟨(w.heap.size + 1), 3, none⟩ = some (.bool pair) := A1_2.c 3 (of_decide_eq_true rfl)
    have cs_4 : w2.cell? ⟨(w.heap.size + 1), 4, none⟩ = some (.bool lit) := A1_2.c 4 (of_decide_eq_true rfl)
    have cs_5 : w2.cell? ⟨(w.heap.size + 1), 5, none⟩ = some (.bool bad) := A1_2.c 5 (of_decide_eq_true rfl)
    have cs_6 : w2.cell? ⟨(w.heap.size + 1), 6, none⟩ = some (.bool pass) := A1_2.c 6 (of_decide_eq_true rfl)
    have cs_7 : w2.cell? ⟨(w.heap.size + 1), 7, none⟩ = some (.int .i64 1) := A1_2.c 7 (of_decide_eq_true rfl)
    go_wp2_with (with_reducible refine post_stop ?_)
    exact ⟨bodyPost_ret (v := .bool true) (by simp [results, Try.results7, go_sem]) rfl ⟨rfl, K2⟩⟩
  · clear e lo hi
    obtain ⟨q, hq⟩ : ∃ q, q = nextS ⟨1, c, g, i, l, f⟩ ⟨false, true, slow, true, true, bad, pass, o⟩ := ⟨_, rfl⟩
    have h1 := fun W => next_any 1 c g i l f false true slow true true bad pass o W hp.c hp.g hp.i hp.l
    rw [← hq] at h1
    rw [← hq] at hm
    clear hq hp
    obtain ⟨m1, c1, g1, i1, l1, f1⟩ := q
    unfold plV at h1
    dsimp only at hm h1
    subst hm
    go_enter Try.func7, Try.ntmps7
    go_wp2_with fail
    refine (awake_any _).mono ?_
    rintro e w1 ⟨rfl, b1⟩
    have A0_1 : Arr w.heap.size [.int .i64 1, .int .i64 c, .int .i64 g, .int .i64 i, .int .i64 l, .int .i64 f] w1 := ((Arr_at w _ [.int .i64 1, .int .i64 c, .int .i64 g, .int .i64 i, .int .i64 l, .int .i64 f] 23 rfl).alloc _).below b1
    have A1_1 : Arr (w.heap.size + 1) [.bool false, .bool true, .bool slow, .bool true, .bool true, .bool bad, .bool pass, .int .i64 o] w1 := (Arr_at _ _ [.bool false, .bool true, .bool slow, .bool true, .bool true, .bool bad, .bool pass, .int .i64 o] 25 (by simp)).below b1
    have K1 : Below w.heap.size w w1 := bel_then (bel_al (bel_al (Below.refl w.heap.size w) _) _) b1
    have z1 := A1_1.lies
    have z0 := A0_1.lies
    clear b1
    have cp_0 : w1.cell? ⟨w.heap.size, 0, none⟩ = some (.int .i64 1) := A0_1.c 0 (of_decide_eq_true rfl)
    have cp_1 : w1.cell? ⟨w.heap.size, 1, none⟩ = some (.int .i64 c) := A0_1.c 1 (of_decide_eq_true rfl)
    have cp_2 : w1.cell? ⟨w.heap.size, 2, none⟩ = some (.int .i64 g) := A0_1.c 2 (of_decide_eq_true rfl)
    have cp_3 : w1.cell? ⟨w.heap.size, 3, none⟩ = some (.int .i64 i) := A0_1.c 3 (of_decide_eq_true rfl)
    have cp_4 : w1.cell? ⟨w.heap.size, 4, none⟩ = some (.int .i64 l) := A0_1.c 4 (of_decide_eq_true rfl)
    have cp_5 : w1.cell? ⟨w.heap.size, 5, none⟩ = some (.int .i64 f) := A0_1.c 5 (of_decide_eq_true rfl)
    have cs_0 : w1.cell? ⟨(w.heap.size + 1), 0, none⟩ = some (.bool false) := A1_1.c 0 (of_decide_eq_true rfl)
    have cs_1 : w1.cell? ⟨(w.heap.size + 1), 1, none⟩ = some (.bool true) := A1_1.c 1 (of_decide_eq_true rfl)
    have cs_2 : w1.cell? ⟨(w.heap.size + 1), 2, none⟩ = some (.bool slow) := A1_1.c 2 (of_decide_eq_true rfl)
    have cs_3 : w1.cell? ⟨(w.heap.size + 1), 3, none⟩ = some (.bool true) := A1_1.c 3 (of_decide_eq_true rfl)
    have cs_4 : w1.cell? ⟨(w.heap.size + 1), 4, none⟩ = some (.bool true) := A1_1.c 4 (of_decide_eq_true rfl)
    have cs_5 : w1.cell? ⟨(w.heap.size + 1), 5, none⟩ = some (.bool bad) := A1_1.c 5 (of_decide_eq_true rfl)
    have cs_6 : w1.cell? ⟨(w.heap.size + 1), 6, none⟩ = some (.bool pass) := A1_1.c 6 (of_decide_eq_true rfl)
    have cs_7 : w1.cell? ⟨(w.heap.size + 1), 7, none⟩ = some (.int .i64 o) := A1_1.c 7 (of_decide_eq_true rfl)
    go_wp2_with fail
    refine (h1 _).mono ?_
    rintro e w2 ⟨rfl, b2⟩
    have A0_2 := A0_1.below b2
    have A1_2 := A1_1.below b2
    have K2 := bel_then K1 b2
    have z2 := A1_2.lies
    clear cp_0 cp_1 cp_2 cp_3 cp_4 cp_5 cs_0 cs_1 cs_2 cs_3 cs_4 cs_5 cs_6 cs_7 A0_1 A1_1 K1 b2
    have cp_0 : w2.cell? ⟨w.heap.size, 0, none⟩ = some (.int .i64 1) := A0_2.c 0 (of_decide_eq_true rfl)
    have cp_1 : w2.cell? ⟨w.heap.size, 1, none⟩ = some (.int .i64 c) := A0_2.c 1 (of_decide_eq_true rfl)
    have cp_2 : w2.cell? ⟨w.heap.size, 2, none⟩ = some (.int .i64 g) := A0_2.c 2 (of_decide_eq_true rfl)
    have cp_3 : w2.cell? ⟨w.heap.size, 3, none⟩ = some (.int .i64 i) := A0_2.c 3 (of_decide_eq_true rfl)
    have cp_4 : w2.cell? ⟨w.heap.size, 4, none⟩ = some (.int .i64 l) := A0_2.c 4 (of_decide_eq_true rfl)
    have cp_5 : w2.cell? ⟨w.heap.size, 5, none⟩ = some (.int .i64 f) := A0_2.c 5 (of_decide_eq_true rfl)
    have cs_0 : w2.cell? ⟨(w.heap.size + 1), 0, none⟩ = some (.bool false) := A1_2.c 0 (of_decide_eq_true rfl)
    have cs_1 : w2.cell? ⟨(w.heap.size + 1), 1, none⟩ = some (.bool true) := A1_2.c 1 (of_decide_eq_true rfl)
    have cs_2 : w2.cell? ⟨(w.heap.size + 1), 2, none⟩ = some (.bool slow) := A1_2.c 2 (of_decide_eq_true rfl)
    have cs_3 : w2.cell? ⟨(w.heap.size + 1), 3, none⟩ = some (.bool true) := A1_2.c 3 (of_decide_eq_true rfl)
    have cs_4 : w2.cell? ⟨(w.heap.size + 1), 4, none⟩ = some (.bool true) := A1_2.c 4 (of_decide_eq_true rfl)
    have cs_5 : w2.cell? ⟨(w.heap.size + 1), 5, none⟩ = some (.bool bad) := A1_2.c 5 (of_decide_eq_true rfl)
    have cs_6 : w2.cell? ⟨(w.heap.size + 1), 6, none⟩ = some (.bool pass) := A1_2.c 6 (of_decide_eq_true rfl)
    have cs_7 : w2.cell? ⟨(w.heap.size + 1), 7, none⟩ = some (.int .i64 o) := A1_2.c 7 (of_decide_eq_true rfl)
    go_wp2_with (with_reducible refine post_stop ?_)
    exact ⟨bodyPost_ret (v := .bool true) (by simp [results, Try.results7, go_sem]) rfl ⟨rfl, K2⟩⟩
  · clear e lo hi
    obtain ⟨q, hq⟩ : ∃ q, q = nextS ⟨3, c, g, i, l, f⟩ ⟨gap, gyro, slow, pair, lit, bad, pass, 2⟩ := ⟨_, rfl⟩
    have h1 := fun W => next_any 3 c g i l f gap gyro slow pair lit bad pass 2 W hp.c hp.g hp.i hp.l
    rw [← hq] at h1
    rw [← hq] at hm
    clear hq hp
    obtain ⟨m1, c1, g1, i1, l1, f1⟩ := q
    unfold plV at h1
    dsimp only at hm h1
    subst hm
    go_enter Try.func7, Try.ntmps7
    go_wp2_with fail
    refine (awake_any _).mono ?_
    rintro e w1 ⟨rfl, b1⟩
    have A0_1 : Arr w.heap.size [.int .i64 3, .int .i64 c, .int .i64 g, .int .i64 i, .int .i64 l, .int .i64 f] w1 := ((Arr_at w _ [.int .i64 3, .int .i64 c, .int .i64 g, .int .i64 i, .int .i64 l, .int .i64 f] 23 rfl).alloc _).below b1
    have A1_1 : Arr (w.heap.size + 1) [.bool gap, .bool gyro, .bool slow, .bool pair, .bool lit, .bool bad, .bool pass, .int .i64 2] w1 := (Arr_at _ _ [.bool gap, .bool gyro, .bool slow, .bool pair, .bool lit, .bool bad, .bool pass, .int .i64 2] 25 (by simp)).below b1
    have K1 : Below w.heap.size w w1 := bel_then (bel_al (bel_al (Below.refl w.heap.size w) _) _) b1
    have z1 := A1_1.lies
    have z0 := A0_1.lies
    clear b1
    have cp_0 : w1.cell? ⟨w.heap.size, 0, none⟩ = some (.int .i64 3) := A0_1.c 0 (of_decide_eq_true rfl)
    have cp_1 : w1.cell? ⟨w.heap.size, 1, none⟩ = some (.int .i64 c) := A0_1.c 1 (of_decide_eq_true rfl)
    have cp_2 : w1.cell? ⟨w.heap.size, 2, none⟩ = some (.int .i64 g) := A0_1.c 2 (of_decide_eq_true rfl)
    have cp_3 : w1.cell? ⟨w.heap.size, 3, none⟩ = some (.int .i64 i) := A0_1.c 3 (of_decide_eq_true rfl)
    have cp_4 : w1.cell? ⟨w.heap.size, 4, none⟩ = some (.int .i64 l) := A0_1.c 4 (of_decide_eq_true rfl)
    have cp_5 : w1.cell? ⟨w.heap.size, 5, none⟩ = some (.int .i64 f) := A0_1.c 5 (of_decide_eq_true rfl)
    have cs_0 : w1.cell? ⟨(w.heap.size + 1), 0, none⟩ = some (.bool gap) := A1_1.c 0 (of_decide_eq_true rfl)
    have cs_1 : w1.cell? ⟨(w.heap.size + 1), 1, none⟩ = some (.bool gyro) := A1_1.c 1 (of_decide_eq_true rfl)
    have cs_2 : w1.cell? ⟨(w.heap.size + 1), 2, none⟩ = some (.bool slow) := A1_1.c 2 (of_decide_eq_true rfl)
    have cs_3 : w1.cell? ⟨(w.heap.size + 1), 3, none⟩ = some (.bool pair) := A1_1.c 3 (of_decide_eq_true rfl)
    have cs_4 : w1.cell? ⟨(w.heap.size + 1), 4, none⟩ = some (.bool lit) := A1_1.c 4 (of_decide_eq_true rfl)
    have cs_5 : w1.cell? ⟨(w.heap.size + 1), 5, none⟩ = some (.bool bad) := A1_1.c 5 (of_decide_eq_true rfl)
    have cs_6 : w1.cell? ⟨(w.heap.size + 1), 6, none⟩ = some (.bool pass) := A1_1.c 6 (of_decide_eq_true rfl)
    have cs_7 : w1.cell? ⟨(w.heap.size + 1), 7, none⟩ = some (.int .i64 2) := A1_1.c 7 (of_decide_eq_true rfl)
    go_wp2_with fail
    refine (h1 _).mono ?_
    rintro e w2 ⟨rfl, b2⟩
    have A0_2 := A0_1.below b2
    have A1_2 := A1_1.below b2
    have K2 := bel_then K1 b2
    have z2 := A1_2.lies
    clear cp_0 cp_1 cp_2 cp_3 cp_4 cp_5 cs_0 cs_1 cs_2 cs_3 cs_4 cs_5 cs_6 cs_7 A0_1 A1_1 K1 b2
    have cp_0 : w2.cell? ⟨w.heap.size, 0, none⟩ = some (.int .i64 3) := A0_2.c 0 (of_decide_eq_true rfl)
    have cp_1 : w2.cell? ⟨w.heap.size, 1, none⟩ = some (.int .i64 c) := A0_2.c 1 (of_decide_eq_true rfl)
    have cp_2 : w2.cell? ⟨w.heap.size, 2, none⟩ = some (.int .i64 g) := A0_2.c 2 (of_decide_eq_true rfl)
    have cp_3 : w2.cell? ⟨w.heap.size, 3, none⟩ = some (.int .i64 i) := A0_2.c 3 (of_decide_eq_true rfl)
    have cp_4 : w2.cell? ⟨w.heap.size, 4, none⟩ = some (.int .i64 l) := A0_2.c 4 (of_decide_eq_true rfl)
    have cp_5 : w2.cell? ⟨w.heap.size, 5, none⟩ = some (.int .i64 f) := A0_2.c 5 (of_decide_eq_true rfl)
    have cs_0 : w2.cell? ⟨(w.heap.size + 1), 0, none⟩ = some (.bool gap) := A1_2.c 0 (of_decide_eq_true rfl)
    have cs_1 : w2.cell? ⟨(w.heap.size + 1), 1, none⟩ = some (.bool gyro) := A1_2.c 1 (of_decide_eq_true rfl)
    have cs_2 : w2.cell? ⟨(w.heap.size + 1), 2, none⟩ = some (.bool slow) := A1_2.c 2 (of_decide_eq_true rfl)
    have cs_3 : w2.cell? ⟨(w.heap.size + 1), 3, none⟩ = some (.bool pair) := A1_2.c 3 (of_decide_eq_true rfl)
    have cs_4 : w2.cell? ⟨(w.heap.size + 1), 4, none⟩ = some (.bool lit) := A1_2.c 4 (of_decide_eq_true rfl)
    have cs_5 : w2.cell? ⟨(w.heap.size + 1), 5, none⟩ = some (.bool bad) := A1_2.c 5 (of_decide_eq_true rfl)
    have cs_6 : w2.cell? ⟨(w.heap.size + 1), 6, none⟩ = some (.bool pass) := A1_2.c 6 (of_decide_eq_true rfl)
    have cs_7 : w2.cell? ⟨(w.heap.size + 1), 7, none⟩ = some (.int .i64 2) := A1_2.c 7 (of_decide_eq_true rfl)
    go_wp2_with (with_reducible refine post_stop ?_)
    exact ⟨bodyPost_ret (v := .bool true) (by simp [results, Try.results7, go_sem]) rfl ⟨rfl, K2⟩⟩
  · clear e lo hi
    obtain ⟨q, hq⟩ : ∃ q, q = nextS ⟨1, c, g, i, l, f⟩ ⟨gap, true, false, pair, lit, bad, pass, o⟩ := ⟨_, rfl⟩
    have h1 := fun W => next_any 1 c g i l f gap true false pair lit bad pass o W hp.c hp.g hp.i hp.l
    rw [← hq] at h1
    rw [← hq] at hm
    clear hq hp
    obtain ⟨m1, c1, g1, i1, l1, f1⟩ := q
    unfold plV at h1
    dsimp only at hm h1
    subst hm
    go_enter Try.func7, Try.ntmps7
    go_wp2_with fail
    refine (awake_any _).mono ?_
    rintro e w1 ⟨rfl, b1⟩
    have A0_1 : Arr w.heap.size [.int .i64 1, .int .i64 c, .int .i64 g, .int .i64 i, .int .i64 l, .int .i64 f] w1 := ((Arr_at w _ [.int .i64 1, .int .i64 c, .int .i64 g, .int .i64 i, .int .i64 l, .int .i64 f] 23 rfl).alloc _).below b1
    have A1_1 : Arr (w.heap.size + 1) [.bool gap, .bool true, .bool false, .bool pair, .bool lit, .bool bad, .bool pass, .int .i64 o] w1 := (Arr_at _ _ [.bool gap, .bool true, .bool false, .bool pair, .bool lit, .bool bad, .bool pass, .int .i64 o] 25 (by simp)).below b1
    have K1 : Below w.heap.size w w1 := bel_then (bel_al (bel_al (Below.refl w.heap.size w) _) _) b1
    have z1 := A1_1.lies
    have z0 := A0_1.lies
    clear b1
    have cp_0 : w1.cell? ⟨w.heap.size, 0, none⟩ = some (.int .i64 1) := A0_1.c 0 (of_decide_eq_true rfl)
    have cp_1 : w1.cell? ⟨w.heap.size, 1, none⟩ = some (.int .i64 c) := A0_1.c 1 (of_decide_eq_true rfl)
    have cp_2 : w1.cell? ⟨w.heap.size, 2, none⟩ = some (.int .i64 g) := A0_1.c 2 (of_decide_eq_true rfl)
    have cp_3 : w1.cell? ⟨w.heap.size, 3, none⟩ = some (.int .i64 i) := A0_1.c 3 (of_decide_eq_true rfl)
    have cp_4 : w1.cell? ⟨w.heap.size, 4, none⟩ = some (.int .i64 l) := A0_1.c 4 (of_decide_eq_true rfl)
    have cp_5 : w1.cell? ⟨w.heap.size, 5, none⟩ = some (.int .i64 f) := A0_1.c 5 (of_decide_eq_true rfl)
    have cs_0 : w1.cell? ⟨(w.heap.size + 1), 0, none⟩ = some (.bool gap) := A1_1.c 0 (of_decide_eq_true rfl)
    have cs_1 : w1.cell? ⟨(w.heap.size + 1), 1, none⟩ = some (.bool true) := A1_1.c 1 (of_decide_eq_true rfl)
    have cs_2 : w1.cell? ⟨(w.heap.size + 1), 2, none⟩ = some (.bool false) := A1_1.c 2 (of_decide_eq_true rfl)
    have cs_3 : w1.cell? ⟨(w.heap.size + 1), 3, none⟩ = some (.bool pair) := A1_1.c 3 (of_decide_eq_true rfl)
    have cs_4 : w1.cell? ⟨(w.heap.size + 1), 4, none⟩ = some (.bool lit) := A1_1.c 4 (of_decide_eq_true rfl)
    have cs_5 : w1.cell? ⟨(w.heap.size + 1), 5, none⟩ = some (.bool bad) := A1_1.c 5 (of_decide_eq_true rfl)
    have cs_6 : w1.cell? ⟨(w.heap.size + 1), 6, none⟩ = some (.bool pass) := A1_1.c 6 (of_decide_eq_true rfl)
    have cs_7 : w1.cell? ⟨(w.heap.size + 1), 7, none⟩ = some (.int .i64 o) := A1_1.c 7 (of_decide_eq_true rfl)
    go_wp2_with fail
    refine (h1 _).mono ?_
    rintro e w2 ⟨rfl, b2⟩
    have A0_2 := A0_1.below b2
    have A1_2 := A1_1.below b2
    have K2 := bel_then K1 b2
    have z2 := A1_2.lies
    clear cp_0 cp_1 cp_2 cp_3 cp_4 cp_5 cs_0 cs_1 cs_2 cs_3 cs_4 cs_5 cs_6 cs_7 A0_1 A1_1 K1 b2
    have cp_0 : w2.cell? ⟨w.heap.size, 0, none⟩ = some (.int .i64 1) := A0_2.c 0 (of_decide_eq_true rfl)
    have cp_1 : w2.cell? ⟨w.heap.size, 1, none⟩ = some (.int .i64 c) := A0_2.c 1 (of_decide_eq_true rfl)
    have cp_2 : w2.cell? ⟨w.heap.size, 2, none⟩ = some (.int .i64 g) := A0_2.c 2 (of_decide_eq_true rfl)
    have cp_3 : w2.cell? ⟨w.heap.size, 3, none⟩ = some (.int .i64 i) := A0_2.c 3 (of_decide_eq_true rfl)
    have cp_4 : w2.cell? ⟨w.heap.size, 4, none⟩ = some (.int .i64 l) := A0_2.c 4 (of_decide_eq_true rfl)
    have cp_5 : w2.cell? ⟨w.heap.size, 5, none⟩ = some (.int .i64 f) := A0_2.c 5 (of_decide_eq_true rfl)
    have cs_0 : w2.cell? ⟨(w.heap.size + 1), 0, none⟩ = some (.bool gap) := A1_2.c 0 (of_decide_eq_true rfl)
    have cs_1 : w2.cell? ⟨(w.heap.size + 1), 1, none⟩ = some (.bool true) := A1_2.c 1 (of_decide_eq_true rfl)
    have cs_2 : w2.cell? ⟨(w.heap.size + 1), 2, none⟩ = some (.bool false) := A1_2.c 2 (of_decide_eq_true rfl)
    have cs_3 : w2.cell? ⟨(w.heap.size + 1), 3, none⟩ = some (.bool pair) := A1_2.c 3 (of_decide_eq_true rfl)
    have cs_4 : w2.cell? ⟨(w.heap.size + 1), 4, none⟩ = some (.bool lit) := A1_2.c 4 (of_decide_eq_true rfl)
    have cs_5 : w2.cell? ⟨(w.heap.size + 1), 5, none⟩ = some (.bool bad) := A1_2.c 5 (of_decide_eq_true rfl)
    have cs_6 : w2.cell? ⟨(w.heap.size + 1), 6, none⟩ = some (.bool pass) := A1_2.c 6 (of_decide_eq_true rfl)
    have cs_7 : w2.cell? ⟨(w.heap.size + 1), 7, none⟩ = some (.int .i64 o) := A1_2.c 7 (of_decide_eq_true rfl)
    go_wp2_with (with_reducible refine post_stop ?_)
    exact ⟨bodyPost_ret (v := .bool true) (by simp [results, Try.results7, go_sem]) rfl ⟨rfl, K2⟩⟩
  · clear e lo hi
    obtain ⟨q, hq⟩ : ∃ q, q = nextS ⟨0, c, g, i, l, f⟩ ⟨gap, true, true, pair, lit, bad, pass, o⟩ := ⟨_, rfl⟩
    have h1 := fun W => next_any 0 c g i l f gap true true pair lit bad pass o W hp.c hp.g hp.i hp.l
    rw [← hq] at h1
    rw [← hq] at hm
    clear hq hp
    obtain ⟨m1, c1, g1, i1, l1, f1⟩ := q
    unfold plV at h1
    dsimp only at hm h1
    subst hm
    go_enter Try.func7, Try.ntmps7
    go_wp2_with fail
    refine (awake_any _).mono ?_
    rintro e w1 ⟨rfl, b1⟩
    have A0_1 : Arr w.heap.size [.int .i64 0, .int .i64 c, .int .i64 g, .int .i64 i, .int .i64 l, .int .i64 f] w1 := ((Arr_at w _ [.int .i64 0, .int .i64 c, .int .i64 g, .int .i64 i, .int .i64 l, .int .i64 f] 23 rfl).alloc _).below b1
    have A1_1 : Arr (w.heap.size + 1) [.bool gap, .bool true, .bool true, .bool pair, .bool lit, .bool bad, .bool pass, .int .i64 o] w1 := (Arr_at _ _ [.bool gap, .bool true, .bool true, .bool pair, .bool lit, .bool bad, .bool pass, .int .i64 o] 25 (by simp)).below b1
    have K1 : Below w.heap.size w w1 := bel_then (bel_al (bel_al (Below.refl w.heap.size w) _) _) b1
    have z1 := A1_1.lies
    have z0 := A0_1.lies
    clear b1
    have cp_0 : w1.cell? ⟨w.heap.size, 0, none⟩ = some (.int .i64 0) := A0_1.c 0 (of_decide_eq_true rfl)
    have cp_1 : w1.cell? ⟨w.heap.size, 1, none⟩ = some (.int .i64 c) := A0_1.c 1 (of_decide_eq_true rfl)
    have cp_2 : w1.cell? ⟨w.heap.size, 2, none⟩ = some (.int .i64 g) := A0_1.c 2 (of_decide_eq_true rfl)
    have cp_3 : w1.cell? ⟨w.heap.size, 3, none⟩ = some (.int .i64 i) := A0_1.c 3 (of_decide_eq_true rfl)
    have cp_4 : w1.cell? ⟨w.heap.size, 4, none⟩ = some (.int .i64 l) := A0_1.c 4 (of_decide_eq_true rfl)
    have cp_5 : w1.cell? ⟨w.heap.size, 5, none⟩ = some (.int .i64 f) := A0_1.c 5 (of_decide_eq_true rfl)
    have cs_0 : w1.cell? ⟨(w.heap.size + 1), 0, none⟩ = some (.bool gap) := A1_1.c 0 (of_decide_eq_true rfl)
    have cs_1 : w1.cell? ⟨(w.heap.size + 1), 1, none⟩ = some (.bool true) := A1_1.c 1 (of_decide_eq_true rfl)
    have cs_2 : w1.cell? ⟨(w.heap.size + 1), 2, none⟩ = some (.bool true) := A1_1.c 2 (of_decide_eq_true rfl)
    have cs_3 : w1.cell? ⟨(w.heap.size + 1), 3, none⟩ = some (.bool pair) := A1_1.c 3 (of_decide_eq_true rfl)
    have cs_4 : w1.cell? ⟨(w.heap.size + 1), 4, none⟩ = some (.bool lit) := A1_1.c 4 (of_decide_eq_true rfl)
    have cs_5 : w1.cell? ⟨(w.heap.size + 1), 5, none⟩ = some (.bool bad) := A1_1.c 5 (of_decide_eq_true rfl)
    have cs_6 : w1.cell? ⟨(w.heap.size + 1), 6, none⟩ = some (.bool pass) := A1_1.c 6 (of_decide_eq_true rfl)
    have cs_7 : w1.cell? ⟨(w.heap.size + 1), 7, none⟩ = some (.int .i64 o) := A1_1.c 7 (of_decide_eq_true rfl)
    go_wp2_with fail
    refine (h1 _).mono ?_
    rintro e w2 ⟨rfl, b2⟩
    have A0_2 := A0_1.below b2
    have A1_2 := A1_1.below b2
    have K2 := bel_then K1 b2
    have z2 := A1_2.lies
    clear cp_0 cp_1 cp_2 cp_3 cp_4 cp_5 cs_0 cs_1 cs_2 cs_3 cs_4 cs_5 cs_6 cs_7 A0_1 A1_1 K1 b2
    have cp_0 : w2.cell? ⟨w.heap.size, 0, none⟩ = some (.int .i64 0) := A0_2.c 0 (of_decide_eq_true rfl)
    have cp_1 : w2.cell? ⟨w.heap.size, 1, none⟩ = some (.int .i64 c) := A0_2.c 1 (of_decide_eq_true rfl)
    have cp_2 : w2.cell? ⟨w.heap.size, 2, none⟩ = some (.int .i64 g) := A0_2.c 2 (of_decide_eq_true rfl)
    have cp_3 : w2.cell? ⟨w.heap.size, 3, none⟩ = some (.int .i64 i) := A0_2.c 3 (of_decide_eq_true rfl)
    have cp_4 : w2.cell? ⟨w.heap.size, 4, none⟩ = some (.int .i64 l) := A0_2.c 4 (of_decide_eq_true rfl)
    have cp_5 : w2.cell? ⟨w.heap.size, 5, none⟩ = some (.int .i64 f) := A0_2.c 5 (of_decide_eq_true rfl)
    have cs_0 : w2.cell? ⟨(w.heap.size + 1), 0, none⟩ = some (.bool gap) := A1_2.c 0 (of_decide_eq_true rfl)
    have cs_1 : w2.cell? ⟨(w.heap.size + 1), 1, none⟩ = some (.bool true) := A1_2.c 1 (of_decide_eq_true rfl)
    have cs_2 : w2.cell? ⟨(w.heap.size + 1), 2, none⟩ = some (.bool true) := A1_2.c 2 (of_decide_eq_true rfl)
    have cs_3 : w2.cell? ⟨(w.heap.size + 1), 3, none⟩ = some (.bool pair) := A1_2.c 3 (of_decide_eq_true rfl)
    have cs_4 : w2.cell? ⟨(w.heap.size + 1), 4, none⟩ = some (.bool lit) := A1_2.c 4 (of_decide_eq_true rfl)
    have cs_5 : w2.cell? ⟨(w.heap.size + 1), 5, none⟩ = some (.bool bad) := A1_2.c 5 (of_decide_eq_true rfl)
    have cs_6 : w2.cell? ⟨(w.heap.size + 1), 6, none⟩ = some (.bool pass) := A1_2.c 6 (of_decide_eq_true rfl)
    have cs_7 : w2.cell? ⟨(w.heap.size + 1), 7, none⟩ = some (.int .i64 o) := A1_2.c 7 (of_decide_eq_true rfl)
    go_wp2_with (with_reducible refine post_stop ?_)
    exact ⟨bodyPost_ret (v := .bool true) (by simp [results, Try.results7, go_sem]) rfl ⟨rfl, K2⟩⟩
  · clear e lo hi
    obtain ⟨q, hq⟩ : ∃ q, q = nextS ⟨2, c, g, i, l, f⟩ ⟨gap, gyro, slow, pair, lit, bad, pass, o⟩ := ⟨_, rfl⟩
    have h1 := fun W => next_any 2 c g i l f gap gyro slow pair lit bad pass o W hp.c hp.g hp.i hp.l
    rw [← hq] at h1
    rw [← hq] at hm
    clear hq hp
    obtain ⟨m1, c1, g1, i1, l1, f1⟩ := q
    unfold plV at h1
    dsimp only at hm h1
    subst hm
    go_enter Try.func7, Try.ntmps7
    go_wp2_with fail
    refine (awake_any _).mono ?_
    rintro e w1 ⟨rfl, b1⟩
    have A0_1 : Arr w.heap.size [.int .i64 2, .int .i64 c, .int .i64 g, .int .i64 i, .int .i64 l, .int .i64 f] w1 := ((Arr_at w _ [.int .i64 2, .int .i64 c, .int .i64 g, .int .i64 i, .int .i64 l, .int .i64 f] 23 rfl).alloc _).below b1
    have A1_1 : Arr (w.heap.size + 1) [.bool gap, .bool gyro, .bool slow, .bool pair, .bool lit, .bool bad, .bool pass, .int .i64 o] w1 := (Arr_at _ _ [.bool gap, .bool gyro, .bool slow, .bool pair, .bool lit, .bool bad, .bool pass, .int .i64 o] 25 (by simp)).below b1
    have K1 : Below w.heap.size w w1 := bel_then (bel_al (bel_al (Below.refl w.heap.size w) _) _) b1
    have z1 := A1_1.lies
    have z0 := A0_1.lies
    clear b1
    have cp_0 : w1.cell? ⟨w.heap.size, 0, none⟩ = some (.int .i64 2) := A0_1.c 0 (of_decide_eq_true rfl)
    have cp_1 : w1.cell? ⟨w.heap.size, 1, none⟩ = some (.int .i64 c) := A0_1.c 1 (of_decide_eq_true rfl)
    have cp_2 : w1.cell? ⟨w.heap.size, 2, none⟩ = some (.int .i64 g) := A0_1.c 2 (of_decide_eq_true rfl)
    have cp_3 : w1.cell? ⟨w.heap.size, 3, none⟩ = some (.int .i64 i) := A0_1.c 3 (of_decide_eq_true rfl)
    have cp_4 : w1.cell? ⟨w.heap.size, 4, none⟩ = some (.int .i64 l) := A0_1.c 4 (of_decide_eq_true rfl)
    have cp_5 : w1.cell? ⟨w.heap.size, 5, none⟩ = some (.int .i64 f) := A0_1.c 5 (of_decide_eq_true rfl)
    have cs_0 : w1.cell? ⟨(w.heap.size + 1), 0, none⟩ = some (.bool gap) := A1_1.c 0 (of_decide_eq_true rfl)
    have cs_1 : w1.cell? ⟨(w.heap.size + 1), 1, none⟩ = some (.bool gyro) := A1_1.c 1 (of_decide_eq_true rfl)
    have cs_2 : w1.cell? ⟨(w.heap.size + 1), 2, none⟩ = some (.bool slow) := A1_1.c 2 (of_decide_eq_true rfl)
    have cs_3 : w1.cell? ⟨(w.heap.size + 1), 3, none⟩ = some (.bool pair) := A1_1.c 3 (of_decide_eq_true rfl)
    have cs_4 : w1.cell? ⟨(w.heap.size + 1), 4, none⟩ = some (.bool lit) := A1_1.c 4 (of_decide_eq_true rfl)
    have cs_5 : w1.cell? ⟨(w.heap.size + 1), 5, none⟩ = some (.bool bad) := A1_1.c 5 (of_decide_eq_true rfl)
    have cs_6 : w1.cell? ⟨(w.heap.size + 1), 6, none⟩ = some (.bool pass) := A1_1.c 6 (of_decide_eq_true rfl)
    have cs_7 : w1.cell? ⟨(w.heap.size + 1), 7, none⟩ = some (.int .i64 o) := A1_1.c 7 (of_decide_eq_true rfl)
    go_wp2_with fail
    refine (h1 _).mono ?_
    rintro e w2 ⟨rfl, b2⟩
    have A0_2 := A0_1.below b2
    have A1_2 := A1_1.below b2
    have K2 := bel_then K1 b2
    have z2 := A1_2.lies
    clear cp_0 cp_1 cp_2 cp_3 cp_4 cp_5 cs_0 cs_1 cs_2 cs_3 cs_4 cs_5 cs_6 cs_7 A0_1 A1_1 K1 b2
    have cp_0 : w2.cell? ⟨w.heap.size, 0, none⟩ = some (.int .i64 2) := A0_2.c 0 (of_decide_eq_true rfl)
    have cp_1 : w2.cell? ⟨w.heap.size, 1, none⟩ = some (.int .i64 c) := A0_2.c 1 (of_decide_eq_true rfl)
    have cp_2 : w2.cell? ⟨w.heap.size, 2, none⟩ = some (.int .i64 g) := A0_2.c 2 (of_decide_eq_true rfl)
    have cp_3 : w2.cell? ⟨w.heap.size, 3, none⟩ = some (.int .i64 i) := A0_2.c 3 (of_decide_eq_true rfl)
    have cp_4 : w2.cell? ⟨w.heap.size, 4, none⟩ = some (.int .i64 l) := A0_2.c 4 (of_decide_eq_true rfl)
    have cp_5 : w2.cell? ⟨w.heap.size, 5, none⟩ = some (.int .i64 f) := A0_2.c 5 (of_decide_eq_true rfl)
    have cs_0 : w2.cell? ⟨(w.heap.size + 1), 0, none⟩ = some (.bool gap) := A1_2.c 0 (of_decide_eq_true rfl)
    have cs_1 : w2.cell? ⟨(w.heap.size + 1), 1, none⟩ = some (.bool gyro) := A1_2.c 1 (of_decide_eq_true rfl)
    have cs_2 : w2.cell? ⟨(w.heap.size + 1), 2, none⟩ = some (.bool slow) := A1_2.c 2 (of_decide_eq_true rfl)
    have cs_3 : w2.cell? ⟨(w.heap.size + 1), 3, none⟩ = some (.bool pair) := A1_2.c 3 (of_decide_eq_true rfl)
    have cs_4 : w2.cell? ⟨(w.heap.size + 1), 4, none⟩ = some (.bool lit) := A1_2.c 4 (of_decide_eq_true rfl)
    have cs_5 : w2.cell? ⟨(w.heap.size + 1), 5, none⟩ = some (.bool bad) := A1_2.c 5 (of_decide_eq_true rfl)
    have cs_6 : w2.cell? ⟨(w.heap.size + 1), 6, none⟩ = some (.bool pass) := A1_2.c 6 (of_decide_eq_true rfl)
    have cs_7 : w2.cell? ⟨(w.heap.size + 1), 7, none⟩ = some (.int .i64 o) := A1_2.c 7 (of_decide_eq_true rfl)
    go_wp2_with (with_reducible refine post_stop ?_)
    exact ⟨bodyPost_ret (v := .bool true) (by simp [results, Try.results7, go_sem]) rfl ⟨rfl, K2⟩⟩
end Go.Proofs.Ytocnaflhedccpaa
