/-
  BdotAgainst, walked, for the seat Ytibjmmlnkgapeaa.
-/
import Derived.Test.YtibjmmlnkgapeaaBdAwake
import Derived.Test.YtibjmmlnkgapeaaBdEq
namespace Go.Proofs.Ytibjmmlnkgapeaa
open Go.RowKit

/-- A dipole's part beside its part of the Rate. -/
def Ag (n r : Int) : Prop := (0 < n ∧ r ≤ 0) ∨ (n < 0 ∧ 0 ≤ r) ∨ n = 0
structure AgT (n r : Int) : Prop where
  lo : -219902325555 ≤ n
  hi : n ≤ 219902325555
  ag : Ag n r
theorem clamp_zero : clampS 0 = 0 := rfl
theorem mul_against {r n : Int} {c : Bool} (h : mulS false r (-274877906944) = (n, c)) : AgT (clampS n) r := by
  have hs : (r < 0 ∧ 0 ≤ n) ∨ (0 ≤ r ∧ n ≤ 0) ∨ n = 0 := by
    cases ht : tk false [r, -274877906944]
    · rw [mulS_no ht] at h
      cases h
      exact .inr (.inr rfl)
    · rw [mulS_yes ht] at h
      have s0 : 0 ≤ (sz r * sz (-274877906944) + 549755813888) / 1099511627776 := by
        have := Int.mul_nonneg (le_sz r).2.2 (le_sz (-274877906944)).2.2
        omega
      generalize (sz r * sz (-274877906944) + 549755813888) / 1099511627776 = z at h s0
      unfold out sgnd at h
      have h1 := congrArg Prod.fst h
      dsimp only at h1
      rw [show decide ((-274877906944 : Int) < 0) = true from rfl] at h1
      by_cases k : r < 0
      · rw [decide_eq_true k] at h1
        simp only [bne_self_eq_false, Bool.false_eq_true, if_false] at h1
        split at h1 <;> omega
      · rw [decide_eq_false k] at h1
        simp only [Bool.false_bne, if_true] at h1
        split at h1 <;> omega
  refine ⟨by unfold clampS; omega, by unfold clampS; omega, ?_⟩
  unfold Ag clampS
  omega
theorem dip_against (d : Dr) : AgT (bDipS false d).1.1 d.2.2.2.2.2.1 ∧ AgT (bDipS false d).1.2.1 d.2.2.2.2.2.2.1 ∧ AgT (bDipS false d).1.2.2 d.2.2.2.2.2.2.2 ∧ ((bDipS false d).2 = true → (bDipS false d).1 = (0, 0, 0)) := by
  obtain ⟨o, d⟩ := d
  have z : ∀ r, AgT 0 r := fun r => ⟨by omega, by omega, .inr (.inr rfl)⟩
  cases o
  · exact ⟨z _, z _, z _, fun h => by cases h⟩
  show AgT (bDip1 false d).1.1 _ ∧ AgT (bDip1 false d).1.2.1 _ ∧ AgT (bDip1 false d).1.2.2 _ ∧ ((bDip1 false d).2 = true → (bDip1 false d).1 = (0, 0, 0))
  unfold bDip1 vScaleS
  obtain ⟨x, c1, e1⟩ : ∃ x c, mulS false d.2.2.2.2.1 (-274877906944) = (x, c) := ⟨_, _, rfl⟩
  obtain ⟨y, c2, e2⟩ : ∃ x c, mulS c1 d.2.2.2.2.2.1 (-274877906944) = (x, c) := ⟨_, _, rfl⟩
  obtain ⟨s, c3, e3⟩ : ∃ x c, mulS c2 d.2.2.2.2.2.2 (-274877906944) = (x, c) := ⟨_, _, rfl⟩
  simp only [e1, e2, e3]
  cases c3
  · obtain ⟨rfl, e3⟩ := mul_in e3
    obtain ⟨rfl, e2⟩ := mul_in e2
    exact ⟨mul_against e1, mul_against e2, mul_against e3, fun h => by cases h⟩
  · rw [soundS_yes]
    dsimp only
    rw [clamp_zero]
    exact ⟨z _, z _, z _, fun _ => rfl⟩
set_option maxHeartbeats 4000000 in
set_option maxRecDepth 100000 in
theorem against_walk (o c : Bool) (T l0 l1 l2 r0 r1 r2 n0 n1 n2 : Int) (w : World)
    (hm : ∀ (b : Nat) (W : World), Fl b false W → Calls Try.prog 10 #[.pointer (some ⟨b, 0, none⟩), .agg #[.bool o, .int .i64 T, .int .i64 l0, .int .i64 l1, .int .i64 l2, .int .i64 r0, .int .i64 r1, .int .i64 r2]] W fun e w' => e = .returned (.agg #[.int .i64 n0, .int .i64 n1, .int .i64 n2]) ∧ Fl b c w' ∧ Kept b W w')
    (a0 : -219902325555 ≤ n0) (b0 : n0 ≤ 219902325555) (a1 : -219902325555 ≤ n1) (b1 : n1 ≤ 219902325555) (a2 : -219902325555 ≤ n2) (b2 : n2 ≤ 219902325555)
    (g0 : Ag n0 r0) (g1 : Ag n1 r1) (g2 : Ag n2 r2) (hc : c = true → n0 = 0 ∧ n1 = 0 ∧ n2 = 0) :
    Calls Try.prog 5 #[.agg #[.bool o, .int .i64 T, .int .i64 l0, .int .i64 l1, .int .i64 l2, .int .i64 r0, .int .i64 r1, .int .i64 r2]] w fun e w' => e = .returned (.bool true) ∧ Below w.heap.size w w' := by
  have HC : Hid (c = true → n0 = 0 ∧ n1 = 0 ∧ n2 = 0) := hc
  clear hc
  go_enter Try.func5, Try.ntmps5
  go_wp2_with fail
  refine (awake_any _).mono ?_
  rintro e w1 ⟨rfl, k1⟩
  have L1 := bel_then (bel_al (Below.refl _ w) _) k1
  have D1 := (Arr_at w w.heap.size [.bool o, .int .i64 T, .int .i64 l0, .int .i64 l1, .int .i64 l2, .int .i64 r0, .int .i64 r1, .int .i64 r2] 25 rfl).below k1
  have z1 := D1.lies
  have q0 : w1.cell? ⟨w.heap.size, 0, none⟩ = some (.bool o) := D1.c 0 (of_decide_eq_true rfl)
  have q1 : w1.cell? ⟨w.heap.size, 1, none⟩ = some (.int .i64 T) := D1.c 1 (of_decide_eq_true rfl)
  have q2 : w1.cell? ⟨w.heap.size, 2, none⟩ = some (.int .i64 l0) := D1.c 2 (of_decide_eq_true rfl)
  have q3 : w1.cell? ⟨w.heap.size, 3, none⟩ = some (.int .i64 l1) := D1.c 3 (of_decide_eq_true rfl)
  have q4 : w1.cell? ⟨w.heap.size, 4, none⟩ = some (.int .i64 l2) := D1.c 4 (of_decide_eq_true rfl)
  have q5 : w1.cell? ⟨w.heap.size, 5, none⟩ = some (.int .i64 r0) := D1.c 5 (of_decide_eq_true rfl)
  have q6 : w1.cell? ⟨w.heap.size, 6, none⟩ = some (.int .i64 r1) := D1.c 6 (of_decide_eq_true rfl)
  have q7 : w1.cell? ⟨w.heap.size, 7, none⟩ = some (.int .i64 r2) := D1.c 7 (of_decide_eq_true rfl)
  go_wp2_with fail
  refine (hm w1.heap.size _ (Fl_at _ _ _ _ (by simp))).mono ?_
  rintro e w2 ⟨rfl, f2, k2⟩
  have L2 : Below w.heap.size w w2 := k2.on (bel_al L1 _) (by omega)
  have D2 := (D1.alloc _).kept k2 (by omega)
  have z2 := f2.lies
  clear q0 q1 q2 q3 q4 q5 q6 q7 k1 L1 D1
  have q5 : w2.cell? ⟨w.heap.size, 5, none⟩ = some (.int .i64 r0) := D2.c 5 (of_decide_eq_true rfl)
  have q6 : w2.cell? ⟨w.heap.size, 6, none⟩ = some (.int .i64 r1) := D2.c 6 (of_decide_eq_true rfl)
  have q7 : w2.cell? ⟨w.heap.size, 7, none⟩ = some (.int .i64 r2) := D2.c 7 (of_decide_eq_true rfl)
  have z3 := D2.lies
  have qf := f2.cell
  go_wp2_with fail
  refine wp_loop_rounds 4 ?_
  rw [rounds_succ]
  unfold Ag at g0 g1 g2
  rcases g0 with ⟨x0, y0⟩ | ⟨x0, y0⟩ | rfl
  all_goals go_wp2_with fail
  all_goals rw [rounds_succ]
  all_goals rcases g1 with ⟨x1, y1⟩ | ⟨x1, y1⟩ | rfl
  all_goals go_wp2_with fail
  all_goals rw [rounds_succ]
  all_goals rcases g2 with ⟨x2, y2⟩ | ⟨x2, y2⟩ | rfl
  all_goals go_wp2_with fail
  all_goals rw [rounds_succ]
  all_goals rcases Bool.eq_false_or_eq_true c with hcc | hcc
  all_goals first
    | (exfalso; have := HC.out hcc; omega)
    | (subst hcc; go_wp2_with (with_reducible refine post_stop ?_); exact ⟨bodyPost_ret (v := .bool true) (by simp [results, Try.results5, go_sem]) rfl ⟨rfl, bel_al L2 _⟩⟩)
theorem BdotAgainst_any (d : Dr) (w : World) : Calls Try.prog 5 #[.agg #[.bool d.1, .int .i64 d.2.1, .int .i64 d.2.2.1, .int .i64 d.2.2.2.1, .int .i64 d.2.2.2.2.1, .int .i64 d.2.2.2.2.2.1, .int .i64 d.2.2.2.2.2.2.1, .int .i64 d.2.2.2.2.2.2.2]] w fun e w' => e = .returned (.bool true) ∧ Below w.heap.size w w' := by
  obtain ⟨h0, h1, h2, h3⟩ := dip_against d
  exact against_walk _ _ _ _ _ _ _ _ _ _ _ _ w (fun b W f => bDip_any b false d W f) h0.lo h0.hi h1.lo h1.hi h2.lo h2.hi h0.ag h1.ag h2.ag (fun h => by rw [h3 h]; exact ⟨rfl, rfl, rfl⟩)
end Go.Proofs.Ytibjmmlnkgapeaa
