/-
  Fields one behind the other: what a Rate is at most, for the seat Ytibjmmlnkgapeaa. No Go text in sight.
-/
import Derived.Test.YtibjmmlnkgapeaaBdEq
import Derived.Test.YtibjmmlnkgapeaaBdM
namespace Go.Proofs.Ytibjmmlnkgapeaa
open Go.RowKit

/-- A vector's parts by their number. -/
def vp (v : V3) : Nat → Int
  | 0 => v.1
  | 1 => v.2.1
  | _ => v.2.2
/-- One part of a Rate behind one field more. -/
theorem hold_part (b l R t M : Int) (hb : -219902325555200 ≤ b ∧ b ≤ 219902325555200) (hl : -219902325555200 ≤ l ∧ l ≤ 219902325555200) (ht : 10 ≤ t ∧ t ≤ 10000) (hM : 0 ≤ M ∧ M ≤ 43980465111044096) (hR : -M ≤ R ∧ R ≤ M)
    (c1 : (b - l).tdiv t * 1000 + 4096 ≤ M) (c2 : -((b - l).tdiv t * 1000) + 4096 ≤ M) : ∃ R', PartG b l R t R' ∧ -M ≤ R' ∧ R' ≤ M := by
  have h1 := subS_good b l (numB_of (by omega)) (numB_of (by omega)) (numB_of (by omega))
  obtain ⟨r, h2, n1, n2, _⟩ := seen_near (b - l) t (by omega) ht
  obtain ⟨m, h3, h4, h5, g1, g2⟩ := rate_next R r t M (by omega) hR (by omega) ht
  exact ⟨R + m, ⟨_, _, _, _, h1, h2, h3, h4, h5⟩, g1, g2⟩
theorem num_v {v : V3} (h0 : -219902325555200 ≤ v.1 ∧ v.1 ≤ 219902325555200) (h1 : -219902325555200 ≤ v.2.1 ∧ v.2.1 ≤ 219902325555200) (h2 : -219902325555200 ≤ v.2.2 ∧ v.2.2 ≤ 219902325555200) : NumV v := by
  have k : ∀ n : Int, (-219902325555200 ≤ n ∧ n ≤ 219902325555200) → addS false n 0 = (n, false) := fun n h => by
    have := addS_good n 0 (numB_of (by omega)) rfl (numB_of (by omega))
    rwa [Int.add_zero] at this
  exact ⟨k _ h0, k _ h1, k _ h2⟩
/-- How great a field's parts are. -/
def Fit (v : V3) : Prop := (-219902325555200 ≤ v.1 ∧ v.1 ≤ 219902325555200) ∧ (-219902325555200 ≤ v.2.1 ∧ v.2.1 ≤ 219902325555200) ∧ (-219902325555200 ≤ v.2.2 ∧ v.2.2 ≤ 219902325555200)
/-- A change in a second, as the law works it. -/
def chg (n l g : Int) : Int := (n - l).tdiv g * 1000
structure Most (v l : V3) (g M : Int) : Prop where
  a0 : chg v.1 l.1 g + 4096 ≤ M
  b0 : -chg v.1 l.1 g + 4096 ≤ M
  a1 : chg v.2.1 l.2.1 g + 4096 ≤ M
  b1 : -chg v.2.1 l.2.1 g + 4096 ≤ M
  a2 : chg v.2.2 l.2.2 g + 4096 ≤ M
  b2 : -chg v.2.2 l.2.2 g + 4096 ≤ M
structure Rated (R : V3) (M : Int) : Prop where
  a0 : -M ≤ R.1
  b0 : R.1 ≤ M
  a1 : -M ≤ R.2.1
  b1 : R.2.1 ≤ M
  a2 : -M ≤ R.2.2
  b2 : R.2.2 ≤ M
theorem Rated.up {R : V3} {M M' : Int} (h : Rated R M) (m : M ≤ M') : Rated R M' := by
  have := h.a0; have := h.a1; have := h.a2; have := h.b0; have := h.b1; have := h.b2
  exact ⟨by omega, by omega, by omega, by omega, by omega, by omega⟩
theorem hold_first (v : V3) (k : Int) (hv : Fit v) : bStepS false zeroD v k = ((true, k, v.1, v.2.1, v.2.2, 0, 0, 0), false) := by
  unfold bStepS
  rw [show goesS zeroD k = false from rfl]
  simp only [Bool.false_eq_true, if_false, num_of (num_v hv.1 hv.2.1 hv.2.2)]
theorem hold_next (v l R : V3) (T g M : Int) (hv : Fit v) (hl : Fit l) (hg : 10 ≤ g ∧ g ≤ 10000) (hM : 0 ≤ M ∧ M ≤ 43980465111044096) (hR : Rated R M) (hm : Most v l g M) :
    ∃ R' : V3, bStepS false (true, T, l.1, l.2.1, l.2.2, R.1, R.2.1, R.2.2) v (T + g) = ((true, T + g, v.1, v.2.1, v.2.2, R'.1, R'.2.1, R'.2.2), false) ∧ Rated R' M := by
  obtain ⟨x, g0, p0, q0⟩ := hold_part v.1 l.1 R.1 g M hv.1 hl.1 hg hM ⟨hR.a0, hR.b0⟩ hm.a0 hm.b0
  obtain ⟨y, g1, p1, q1⟩ := hold_part v.2.1 l.2.1 R.2.1 g M hv.2.1 hl.2.1 hg hM ⟨hR.a1, hR.b1⟩ hm.a1 hm.b1
  obtain ⟨z, g2, p2, q2⟩ := hold_part v.2.2 l.2.2 R.2.2 g M hv.2.2 hl.2.2 hg hM ⟨hR.a2, hR.b2⟩ hm.a2 hm.b2
  refine ⟨(x, y, z), ?_, ⟨p0, q0, p1, q1, p2, q2⟩⟩
  unfold bStepS
  have e : T + g - T = g := by omega
  have hgo : goesS (true, T, l.1, l.2.1, l.2.2, R.1, R.2.1, R.2.2) (T + g) = true := by unfold goesS; simp; omega
  rw [hgo]
  simp only [if_true, e, lean_of (d := (true, T, l.1, l.2.1, l.2.2, R.1, R.2.1, R.2.2)) (v := v) (R := (x, y, z)) g0 g1 g2, num_of (num_v hv.1 hv.2.1 hv.2.2), Bool.false_eq_true, if_false]
theorem chg_rng {n l g : Int} (hn : -219902325555200 ≤ n ∧ n ≤ 219902325555200) (hl : -219902325555200 ≤ l ∧ l ≤ 219902325555200) (hg : 10 ≤ g ∧ g ≤ 10000) :
    -43980465111040 ≤ (n - l).tdiv g ∧ (n - l).tdiv g ≤ 43980465111040 := by
  have hq := Int.mul_tdiv_add_tmod (n - l) g
  have a1 : -g < (n - l).tmod g ∧ (n - l).tmod g < g := by
    have h3 := Int.tmod_lt_of_pos (n - l) (by omega : 0 < g)
    have h5 := Int.tmod_lt_of_pos (-(n - l)) (by omega : 0 < g)
    rw [Int.neg_tmod] at h5
    omega
  generalize (n - l).tdiv g = Q at *
  generalize (n - l).tmod g = T at *
  constructor
  · by_cases k : -43980465111040 ≤ Q
    · exact k
    · have := Int.mul_le_mul_of_nonneg_left (by omega : Q ≤ -43980465111041) (by omega : 0 ≤ g)
      omega
  · by_cases k : Q ≤ 43980465111040
    · exact k
    · have := Int.mul_le_mul_of_nonneg_left (by omega : 43980465111041 ≤ Q) (by omega : 0 ≤ g)
      omega
end Go.Proofs.Ytibjmmlnkgapeaa
