/-
  Sines and cosines: how near they are to polynomials, and what those of a sum are, for the seat YtoadcnhcfodkgaaGreatDoor. No Go text in sight.
-/
import Derived.Test.YtoadcnhcfodkgaaGreatDoorTSer
namespace Go.Proofs.YtoadcnhcfodkgaaGreatDoor

def dsS : List Int := dsOf (fun m => dSin (m + 1)) 9 []
def dsC : List Int := dsOf (fun m => dCos (m + 1)) 9 []
/-- The sine's and the cosine's polynomials, both times kk. -/
def lS : List Int := 0 :: inter (lw (6 :: dsS))
def lC : List Int := pscale (21 * 1099511627776) (inter (lw (2 :: dsC)))
def kk : Int := 1099511627776 * lwD (6 :: dsS)
def pS (x : Int) : Int := evp lS x
def pC (x : Int) : Int := evp lC x
theorem kk_pos : 0 < kk := by decide +kernel
theorem kk_cos : kk = 21 * 1099511627776 * lwD (2 :: dsC) := by decide +kernel
theorem pS_eq (x : Int) : pS x = x * evp (lw (6 :: dsS)) (x * x) := by
  unfold pS lS
  simp only [evp]
  rw [evp_inter]
  omega
theorem pC_eq (x : Int) : pC x = 21 * 1099511627776 * evp (lw (2 :: dsC)) (x * x) := by
  unfold pC lC
  rw [evp_scale, evp_inter]
theorem pS_neg (x : Int) : pS (-x) = -pS x := by rw [pS_eq, pS_eq, Int.neg_mul_neg, Int.neg_mul]
theorem pC_neg (x : Int) : pC (-x) = pC x := by rw [pC_eq, pC_eq, Int.neg_mul_neg]
theorem pC_zero : pC 0 = kk := by decide +kernel

theorem dSin_up (m : Int) (h : 1 ≤ m) (h2 : m ≤ 9) : 12 ≤ dSin (m + 1) ∧ dSin (m + 1) ≤ 1000 := by
  have : m = 1 ∨ m = 2 ∨ m = 3 ∨ m = 4 ∨ m = 5 ∨ m = 6 ∨ m = 7 ∨ m = 8 ∨ m = 9 := by omega
  rcases this with rfl | rfl | rfl | rfl | rfl | rfl | rfl | rfl | rfl <;> decide
theorem dCos_up (m : Int) (h : 1 ≤ m) (h2 : m ≤ 9) : 12 ≤ dCos (m + 1) ∧ dCos (m + 1) ≤ 1000 := by
  have : m = 1 ∨ m = 2 ∨ m = 3 ∨ m = 4 ∨ m = 5 ∨ m = 6 ∨ m = 7 ∨ m = 8 ∨ m = 9 := by omega
  rcases this with rfl | rfl | rfl | rfl | rfl | rfl | rfl | rfl | rfl <;> decide

/-- A cosine, of 0 up to h: within 3 of its last bits. -/
theorem cos_near (t : Int) (ht : 0 ≤ t ∧ t ≤ 1727108826179) :
    ∃ c, cosS false t = (c, false) ∧ -1099511627776 ≤ c ∧ c ≤ 1099511627776 ∧ -(3 * kk) ≤ c * kk - 1099511627776 * pC t ∧ c * kk - 1099511627776 * pC t ≤ 3 * kk := by
  obtain ⟨u, eu, u1, u2, u3⟩ := mulS_small t t (by omega) (by omega)
  have u0 := u3 (Int.mul_nonneg ht.1 ht.1)
  obtain ⟨v, ev, v0, v1, vp, c1, c2⟩ := ser_inv (fun m => dCos (m + 1)) t u ht u0 u1 u2 9 1099511627776 [] dCos_up (by simp) (by decide) (by simp only [lwD, lw, evp]; omega)
  have hp := lwD_pos _ vp
  obtain ⟨c, ec, b1, _, b2, d1, d2⟩ := ser_step t u v 2 _ _ ht u0 u1 u2 ⟨v0, v1⟩ (by decide) hp ⟨c1, c2⟩
  have ew := lw_step 2 dsC (t * t)
  have eD : lwD (2 :: dsC) = 2 * 1208925819614629174706176 * lwD dsC := rfl
  refine ⟨c, ?_, b2, b1, ?_⟩
  · unfold cosS
    rw [eu]
    show serS dCos u (9 + 1) (1099511627776, false) = _
    rw [serS_last, ev]
    exact ec
  · rw [pC_eq, ew, kk_cos, eD]
    have hp2 : 0 < lwD dsC := hp
    have d1' : -((7 + 2) * (1208925819614629174706176 * lwD dsC)) ≤ 2 * (c * (2 * 1208925819614629174706176 * lwD dsC) - 1099511627776 * (2 * 1208925819614629174706176 * lwD dsC - t * t * evp (lw dsC) (t * t))) := d1
    have d2' : 2 * (c * (2 * 1208925819614629174706176 * lwD dsC) - 1099511627776 * (2 * 1208925819614629174706176 * lwD dsC - t * t * evp (lw dsC) (t * t))) ≤ (7 + 2) * (1208925819614629174706176 * lwD dsC) := d2
    have e : c * (21 * 1099511627776 * (2 * 1208925819614629174706176 * lwD dsC)) - 1099511627776 * (21 * 1099511627776 * (2 * 1208925819614629174706176 * lwD dsC - t * t * evp (lw dsC) (t * t))) = 21 * 1099511627776 * (c * (2 * 1208925819614629174706176 * lwD dsC) - 1099511627776 * (2 * 1208925819614629174706176 * lwD dsC - t * t * evp (lw dsC) (t * t))) := by grind
    rw [e]
    generalize c * (2 * 1208925819614629174706176 * lwD dsC) - 1099511627776 * (2 * 1208925819614629174706176 * lwD dsC - t * t * evp (lw dsC) (t * t)) = z at *
    generalize lwD dsC = D at *
    omega
/-- A sine, of 0 up to h. -/
theorem sin_near (t : Int) (ht : 0 ≤ t ∧ t ≤ 1727108826179) :
    ∃ s, sinS false t = (s, false) ∧ 0 ≤ s ∧ s ≤ 1727108826179 ∧ -(3 * kk) ≤ s * kk - 1099511627776 * pS t ∧ s * kk - 1099511627776 * pS t ≤ 3 * kk := by
  obtain ⟨u, eu, u1, u2, u3⟩ := mulS_small t t (by omega) (by omega)
  have u0 := u3 (Int.mul_nonneg ht.1 ht.1)
  obtain ⟨v, ev, v0, v1, vp, c1, c2⟩ := ser_inv (fun m => dSin (m + 1)) t u ht u0 u1 u2 9 1099511627776 [] dSin_up (by simp) (by decide) (by simp only [lwD, lw, evp]; omega)
  have hp := lwD_pos _ vp
  obtain ⟨c, ec, b1, b0, b2, d1, d2⟩ := ser_step t u v 6 _ _ ht u0 u1 u2 ⟨v0, v1⟩ (by decide) hp ⟨c1, c2⟩
  have c0 := b0 (by decide)
  obtain ⟨s, es, s1, s2, s3⟩ := mulS_small t c (by omega) (by omega)
  have tc0 := Int.mul_nonneg ht.1 c0
  have tc1 : t * c ≤ 1727108826179 * 1099511627776 := Int.mul_le_mul ht.2 b1 c0 (by decide)
  have ew := lw_step 6 dsS (t * t)
  have eD : lwD (6 :: dsS) = 6 * 1208925819614629174706176 * lwD dsS := rfl
  refine ⟨s, ?_, s3 tc0, by omega, ?_⟩
  · have hv : sinV false t = (c, false) := by
      unfold sinV
      rw [eu]
      show serS dSin u (9 + 1) (1099511627776, false) = _
      rw [serS_last, ev]
      exact ec
    unfold sinS
    rw [hv]
    exact es
  · rw [pS_eq, ew, show kk = 1099511627776 * lwD (6 :: dsS) from rfl, eD]
    have hp2 : 0 < lwD dsS := hp
    have d1' : -((7 + 6) * (1208925819614629174706176 * lwD dsS)) ≤ 2 * (c * (6 * 1208925819614629174706176 * lwD dsS) - 1099511627776 * (6 * 1208925819614629174706176 * lwD dsS - t * t * evp (lw dsS) (t * t))) := d1
    have d2' : 2 * (c * (6 * 1208925819614629174706176 * lwD dsS) - 1099511627776 * (6 * 1208925819614629174706176 * lwD dsS - t * t * evp (lw dsS) (t * t))) ≤ (7 + 6) * (1208925819614629174706176 * lwD dsS) := d2
    have e : s * (1099511627776 * (6 * 1208925819614629174706176 * lwD dsS)) - 1099511627776 * (t * (6 * 1208925819614629174706176 * lwD dsS - t * t * evp (lw dsS) (t * t)))
        = (s * 1099511627776 - t * c) * (6 * 1208925819614629174706176 * lwD dsS) + t * (c * (6 * 1208925819614629174706176 * lwD dsS) - 1099511627776 * (6 * 1208925819614629174706176 * lwD dsS - t * t * evp (lw dsS) (t * t))) := by grind
    rw [e]
    generalize c * (6 * 1208925819614629174706176 * lwD dsS) - 1099511627776 * (6 * 1208925819614629174706176 * lwD dsS - t * t * evp (lw dsS) (t * t)) = z at *
    generalize lwD dsS = D at *
    have q1 := mulbd (x := s * 1099511627776 - t * c) (y := 6 * 1208925819614629174706176 * D) (a := 549755813888) (b := 6 * 1208925819614629174706176 * D) (by omega) (by omega)
    have q2 := mulbd (x := t) (y := 2 * z) (a := 1727108826179) (b := 13 * (1208925819614629174706176 * D)) (by omega) (by omega)
    have r : t * (2 * z) = 2 * (t * z) := by grind
    rw [r] at q2
    generalize t * z = tz at *
    generalize (s * 1099511627776 - t * c) * (6 * 1208925819614629174706176 * D) = sd at *
    omega

/-! ### The sine and the cosine of a sum -/
def rS : List (List Int) := padd2 (pscale2 kk (comp lS)) (pscale2 (-1) (padd2 (outer lS lC) (outer lC lS)))
def rC : List (List Int) := padd2 (pscale2 kk (comp lC)) (padd2 (pscale2 (-1) (outer lC lC)) (outer lS lS))
theorem rS_eq (x y : Int) : ev2 rS x y = pS (x + y) * kk - (pS x * pC y + pC x * pS y) := by
  unfold rS
  rw [ev2_padd2, ev2_scale2, ev2_scale2, ev2_padd2, ev2_outer, ev2_outer, ev2_comp]
  unfold pS pC
  grind
theorem rC_eq (x y : Int) : ev2 rC x y = pC (x + y) * kk - (pC x * pC y - pS x * pS y) := by
  unfold rC
  rw [ev2_padd2, ev2_padd2, ev2_scale2, ev2_scale2, ev2_outer, ev2_outer, ev2_comp]
  unfold pS pC
  grind
theorem rS_small : ev2 (absl2 rS) 1727108826179 1727108826179 * 1099511627776 ≤ 12 * (kk * kk) := by decide +kernel
theorem rC_small : ev2 (absl2 rC) 1727108826179 1727108826179 * 1099511627776 ≤ 87 * (kk * kk) := by decide +kernel
theorem pS_h : -kk ≤ (pS 1727108826179 - kk) * 1099511627776 ∧ (pS 1727108826179 - kk) * 1099511627776 ≤ kk := by decide +kernel
theorem pC_h : -kk ≤ pC 1727108826179 * 1099511627776 ∧ pC 1727108826179 * 1099511627776 ≤ kk := by decide +kernel
theorem pS_abs : evp (absl lS) 1727108826179 ≤ 3 * kk := by decide +kernel
theorem pC_abs : evp (absl lC) 1727108826179 ≤ 3 * kk := by decide +kernel
theorem pS_bd (x : Int) (h : -1727108826179 ≤ x ∧ x ≤ 1727108826179) : -(3 * kk) ≤ pS x ∧ pS x ≤ 3 * kk := by
  have := evp_abs lS x 1727108826179 h
  have k := pS_abs
  unfold pS
  omega
theorem pC_bd (x : Int) (h : -1727108826179 ≤ x ∧ x ≤ 1727108826179) : -(3 * kk) ≤ pC x ∧ pC x ≤ 3 * kk := by
  have := evp_abs lC x 1727108826179 h
  have k := pC_abs
  unfold pC
  omega
theorem sum_S (x y : Int) (hx : -1727108826179 ≤ x ∧ x ≤ 1727108826179) (hy : -1727108826179 ≤ y ∧ y ≤ 1727108826179) :
    -(12 * (kk * kk)) ≤ (pS (x + y) * kk - (pS x * pC y + pC x * pS y)) * 1099511627776 ∧ (pS (x + y) * kk - (pS x * pC y + pC x * pS y)) * 1099511627776 ≤ 12 * (kk * kk) := by
  have := ev2_abs rS x y 1727108826179 1727108826179 hx hy
  have k := rS_small
  rw [rS_eq] at this
  omega
theorem sum_C (x y : Int) (hx : -1727108826179 ≤ x ∧ x ≤ 1727108826179) (hy : -1727108826179 ≤ y ∧ y ≤ 1727108826179) :
    -(87 * (kk * kk)) ≤ (pC (x + y) * kk - (pC x * pC y - pS x * pS y)) * 1099511627776 ∧ (pC (x + y) * kk - (pC x * pC y - pS x * pS y)) * 1099511627776 ≤ 87 * (kk * kk) := by
  have := ev2_abs rC x y 1727108826179 1727108826179 hx hy
  have k := rC_small
  rw [rC_eq] at this
  omega
end Go.Proofs.YtoadcnhcfodkgaaGreatDoor
