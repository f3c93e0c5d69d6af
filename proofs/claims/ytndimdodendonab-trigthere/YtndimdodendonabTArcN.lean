/-
  The arc's series: how near its tangent is to what it was worked of, for the seat Ytndimdodendonab. No Go text in sight.
-/
import Derived.Test.YtndimdodendonabTArc
import Derived.Test.YtndimdodendonabTTrig
namespace Go.Proofs.Ytndimdodendonab

/-! ### The series itself, times what it is divided by -/
def aD : Nat → Int
  | 0 => 1
  | n + 1 => (2 * (12 - (n : Int)) + 1) * 1208925819614629174706176 * aD n
def aL : Nat → List Int
  | 0 => []
  | n + 1 => 1208925819614629174706176 * aD n :: pscale (-(2 * (12 - (n : Int)) + 1)) (aL n)
theorem aL_step (n : Nat) (y : Int) : evp (aL (n + 1)) y = 1208925819614629174706176 * aD n - (2 * (12 - (n : Int)) + 1) * (y * evp (aL n) y) := by
  simp only [aL, evp]
  rw [evp_scale]
  grind
theorem aD_pos : ∀ n : Nat, n ≤ 13 → 0 < aD n
  | 0, _ => by decide
  | n + 1, h => by
    unfold aD
    exact Int.mul_pos (Int.mul_pos (by omega) (by decide)) (aD_pos n (by omega))
/-- One round. -/
theorem arc_step (t u v n D W : Int) (hu : 0 ≤ u ∧ u ≤ 137438953472) (ht : 0 ≤ t ∧ t ≤ 274877906945) (hu1 : u * 1099511627776 ≤ t * t + 549755813888) (hu2 : t * t ≤ u * 1099511627776 + 549755813888)
    (hn : 0 ≤ n ∧ n ≤ 12) (hv : -2199023255552 ≤ v ∧ v ≤ 2199023255552) (hD : 0 < D) (he : -(3 * D) ≤ v * D - 1099511627776 * W ∧ v * D - 1099511627776 * W ≤ 3 * D) :
    ∃ v1, arcStep u n (v, false) = (v1, false) ∧ -2199023255552 ≤ v1 ∧ v1 ≤ 2199023255552 ∧
      -(3 * ((2 * n + 1) * 1208925819614629174706176 * D)) ≤ v1 * ((2 * n + 1) * 1208925819614629174706176 * D) - 1099511627776 * (1208925819614629174706176 * D - (2 * n + 1) * (t * t * W)) ∧
      v1 * ((2 * n + 1) * 1208925819614629174706176 * D) - 1099511627776 * (1208925819614629174706176 * D - (2 * n + 1) * (t * t * W)) ≤ 3 * ((2 * n + 1) * 1208925819614629174706176 * D) := by
  obtain ⟨p, m, _, _, e, b1, b2, p1, p2, m1, m2⟩ := arcStep_good u n v hu hn hv
  refine ⟨p - m, e, b1, b2, ?_⟩
  have tt0 : 0 ≤ t * t := Int.mul_nonneg ht.1 ht.1
  have tt1 : t * t ≤ 274877906945 * 274877906945 := Int.mul_le_mul ht.2 ht.2 ht.1 (by decide)
  obtain ⟨e1, he1⟩ : ∃ e1, e1 = p * (2 * n + 1) - 1099511627776 := ⟨_, rfl⟩
  obtain ⟨e2, he2⟩ : ∃ e2, e2 = m * 1099511627776 - u * v := ⟨_, rfl⟩
  obtain ⟨e3, he3⟩ : ∃ e3, e3 = u * 1099511627776 - t * t := ⟨_, rfl⟩
  obtain ⟨e4, he4⟩ : ∃ e4, e4 = v * D - 1099511627776 * W := ⟨_, rfl⟩
  have key : (p - m) * ((2 * n + 1) * 1208925819614629174706176 * D) - 1099511627776 * (1208925819614629174706176 * D - (2 * n + 1) * (t * t * W))
      = e1 * (1208925819614629174706176 * D) - (2 * n + 1) * (e2 * (1099511627776 * D) + e3 * v * D + t * t * e4) := by
    rw [he1, he2, he3, he4]
    grind
  rw [key]
  have q4 := mulbd (x := t * t) (y := e4) (a := 274877906945 * 274877906945) (b := 3 * D) (by omega) (by omega)
  have q3a := mulbd (x := e3) (y := v) (a := 549755813888) (b := 2199023255552) (by omega) hv
  have q3 := mulbd (x := e3 * v) (y := D) (a := 549755813888 * 2199023255552) (b := D) q3a (by omega)
  have q2 := mulbd (x := e2) (y := 1099511627776 * D) (a := 549755813888) (b := 1099511627776 * D) (by omega) (by omega)
  have q1 := mulbd (x := 2 * e1) (y := 1208925819614629174706176 * D) (a := 2 * n + 1) (b := 1208925819614629174706176 * D) (by omega) (by omega)
  have r1 : 2 * e1 * (1208925819614629174706176 * D) = 2 * (e1 * (1208925819614629174706176 * D)) := by grind
  rw [r1] at q1
  have q5 := mulbd (x := 2 * n + 1) (y := 2 * (e2 * (1099511627776 * D) + e3 * v * D + t * t * e4)) (a := 2 * n + 1) (b := 5 * (1208925819614629174706176 * D)) (by omega) (by omega)
  have r5 : (2 * n + 1) * (2 * (e2 * (1099511627776 * D) + e3 * v * D + t * t * e4)) = 2 * ((2 * n + 1) * (e2 * (1099511627776 * D) + e3 * v * D + t * t * e4)) := by grind
  have r6 : (2 * n + 1) * (5 * (1208925819614629174706176 * D)) = 5 * ((2 * n + 1) * (1208925819614629174706176 * D)) := by grind
  have r7 : (2 * n + 1) * 1208925819614629174706176 * D = (2 * n + 1) * (1208925819614629174706176 * D) := by grind
  rw [r5, r6] at q5
  rw [r7]
  generalize (2 * n + 1) * (e2 * (1099511627776 * D) + e3 * v * D + t * t * e4) = y1 at *
  generalize e1 * (1208925819614629174706176 * D) = y2 at *
  generalize (2 * n + 1) * (1208925819614629174706176 * D) = y3 at *
  omega
theorem arc_inv (t u : Int) (N : Nat) (hN : N ≤ 13) (hu : 0 ≤ u ∧ u ≤ 137438953472) (ht : 0 ≤ t ∧ t ≤ 274877906945) (hu1 : u * 1099511627776 ≤ t * t + 549755813888) (hu2 : t * t ≤ u * 1099511627776 + 549755813888) (n : Nat) :
    ∀ (k : Nat) (v : Int), n + k = N → N = 13 → (-2199023255552 ≤ v ∧ v ≤ 2199023255552) → (-(3 * aD k) ≤ v * aD k - 1099511627776 * evp (aL k) (t * t) ∧ v * aD k - 1099511627776 * evp (aL k) (t * t) ≤ 3 * aD k) →
      ∃ v', arcSer u n (v, false) = (v', false) ∧ -(3 * aD N) ≤ v' * aD N - 1099511627776 * evp (aL N) (t * t) ∧ v' * aD N - 1099511627776 * evp (aL N) (t * t) ≤ 3 * aD N := by
  induction n with
  | zero =>
    intro k v hk _ _ he
    have hk2 : k = N := by omega
    subst hk2
    exact ⟨v, rfl, he.1, he.2⟩
  | succ n ih =>
    intro k v hk h13 hv he
    obtain ⟨v1, e1, b1, b2, c1, c2⟩ := arc_step t u v n (aD k) (evp (aL k) (t * t)) hu ht hu1 hu2 (by omega) hv (aD_pos k (by omega)) he
    have hn : (12 - (k : Int)) = n := by omega
    have ew := aL_step k (t * t)
    have eD : aD (k + 1) = (2 * (12 - (k : Int)) + 1) * 1208925819614629174706176 * aD k := rfl
    rw [hn] at ew eD
    have := ih (k + 1) v1 (by omega) h13 ⟨b1, b2⟩ (by rw [ew, eD]; exact ⟨c1, c2⟩)
    unfold arcSer
    rw [e1]
    exact this
/-- The whole. -/
def aQ : Int := aD 13
def aW (t : Int) : Int := evp (aL 13) (t * t)
theorem aQ_pos : 0 < aQ := aD_pos 13 (Nat.le_refl _)
theorem arc_ser (t u v : Int) (hu : 0 ≤ u ∧ u ≤ 137438953472) (ht : 0 ≤ t ∧ t ≤ 274877906945) (hu1 : u * 1099511627776 ≤ t * t + 549755813888) (hu2 : t * t ≤ u * 1099511627776 + 549755813888) (ev : arcSer u 13 (0, false) = (v, false)) :
    -(3 * aQ) ≤ v * aQ - 1099511627776 * aW t ∧ v * aQ - 1099511627776 * aW t ≤ 3 * aQ := by
  obtain ⟨v', e', h1, h2⟩ := arc_inv t u 13 (Nat.le_refl _) hu ht hu1 hu2 13 0 0 rfl rfl (by decide) (by simp only [aD, aL, evp]; omega)
  rw [ev] at e'
  obtain rfl : v = v' := congrArg Prod.fst e'
  exact ⟨h1, h2⟩
end Go.Proofs.Ytndimdodendonab
