/-
  Sines and cosines of small angles, as they are worked, for the seat YtoadcnhcfodkgaaGreatDoor. No Go text in sight.
-/
import Derived.Test.YtoadcnhcfodkgaaGreatDoorTSumM
import Derived.Test.YtoadcnhcfodkgaaGreatDoorQNear
namespace Go.Proofs.YtoadcnhcfodkgaaGreatDoor

def lS3 : List Int := lS.drop 3
def lC2 : List Int := lC.drop 2
def kl : Int := lwD (6 :: dsS)
theorem kk_kl : kk = 1099511627776 * kl := rfl
theorem lS_cut : lS = 0 :: kl :: 0 :: lS3 := by decide +kernel
theorem lC_cut : lC = kk :: 0 :: lC2 := by decide +kernel
theorem small_M : 6646139978924579364519035301401722880 * evp (absl lS3) 274877906944 ≤ kk := by decide +kernel
theorem small_N : 120892581961462917470617600 * evp (absl lC2) 274877906944 ≤ 51 * kk := by decide +kernel
theorem pS_cut (x : Int) : pS x = kl * x + x * x * x * evp lS3 x := by
  unfold pS
  rw [lS_cut]
  simp only [evp]
  grind
theorem pC_cut (x : Int) : pC x = kk + x * x * evp lC2 x := by
  unfold pC
  rw [lC_cut]
  simp only [evp]
  grind
theorem small_S {x X : Int} (h : Ab x X) (hX : X ≤ 274877906944) : Ab (6044629098073145873530880 * (1099511627776 * pS x - kk * x)) (kk * (X * X * X)) := by
  have hb := evp_abs lS3 x 274877906944 (by have := h.lo; have := h.hi; omega)
  have hE : Ab (evp lS3 x) (evp (absl lS3) 274877906944) := ⟨hb.1, hb.2⟩
  have h3 := ((h.mul h).mul h).mul hE
  have X0 : 0 ≤ X := by have := h.lo; have := h.hi; omega
  have XX := Int.mul_nonneg (Int.mul_nonneg X0 X0) X0
  have le := Int.mul_le_mul_of_nonneg_left small_M XX
  have e : 6044629098073145873530880 * (1099511627776 * pS x - kk * x) = 6646139978924579364519035301401722880 * (x * x * x * evp lS3 x) := by
    rw [pS_cut, kk_kl]
    grind
  have e2 : X * X * X * (6646139978924579364519035301401722880 * evp (absl lS3) 274877906944) = 6646139978924579364519035301401722880 * (X * X * X * evp (absl lS3) 274877906944) := by grind
  have e3 : X * X * X * kk = kk * (X * X * X) := Int.mul_comm _ _
  rw [e2, e3] at le
  rw [e]
  have l := h3.lo
  have u := h3.hi
  generalize x * x * x * evp lS3 x = A at l u ⊢
  generalize X * X * X * evp (absl lS3) 274877906944 = B at l u le
  generalize kk * (X * X * X) = C at le ⊢
  exact ⟨by omega, by omega⟩
theorem small_C {x X : Int} (h : Ab x X) (hX : X ≤ 274877906944) : Ab (120892581961462917470617600 * (pC x - kk)) (51 * (kk * (X * X))) := by
  have hb := evp_abs lC2 x 274877906944 (by have := h.lo; have := h.hi; omega)
  have hE : Ab (evp lC2 x) (evp (absl lC2) 274877906944) := ⟨hb.1, hb.2⟩
  have h3 := (h.mul h).mul hE
  have X0 : 0 ≤ X := by have := h.lo; have := h.hi; omega
  have XX := Int.mul_nonneg X0 X0
  have le := Int.mul_le_mul_of_nonneg_left small_N XX
  have e : 120892581961462917470617600 * (pC x - kk) = 120892581961462917470617600 * (x * x * evp lC2 x) := by rw [pC_cut]; grind
  have e2 : X * X * (120892581961462917470617600 * evp (absl lC2) 274877906944) = 120892581961462917470617600 * (X * X * evp (absl lC2) 274877906944) := by grind
  have e3 : X * X * (51 * kk) = 51 * (kk * (X * X)) := by grind
  rw [e2, e3] at le
  rw [e]
  have l := h3.lo
  have u := h3.hi
  generalize x * x * evp lC2 x = A at l u ⊢
  generalize X * X * evp (absl lC2) 274877906944 = B at l u le
  generalize kk * (X * X) = C at le ⊢
  exact ⟨by omega, by omega⟩
theorem kk_can {A B : Int} (h : A * kk ≤ B * kk) : A ≤ B := Int.le_of_mul_le_mul_right h kk_pos
/-- By how much pS and pC are off x and 1. -/
theorem small_T {x X T D : Int} (h : Ab x X) (hX : X ≤ 274877906944) (hT : X * X * X ≤ 6044629098073145873530880 * T) (hD : 51 * (X * X) ≤ 109951162777600 * D) :
    Ab (1099511627776 * pS x - kk * x) (kk * T) ∧ Ab (1099511627776 * (pC x - kk)) (kk * D) := by
  have s := small_S h hX
  have c := small_C h hX
  have k0 : 0 ≤ kk := Int.le_of_lt kk_pos
  have t1 := Int.mul_le_mul_of_nonneg_left hT k0
  have d1 := Int.mul_le_mul_of_nonneg_left hD k0
  have e1 : kk * (6044629098073145873530880 * T) = 6044629098073145873530880 * (kk * T) := by grind
  have e2 : kk * (109951162777600 * D) = 109951162777600 * (kk * D) := by grind
  have e3 : kk * (51 * (X * X)) = 51 * (kk * (X * X)) := by grind
  rw [e1] at t1
  rw [e2, e3] at d1
  have s1 := s.lo; have s2 := s.hi; have c1 := c.lo; have c2 := c.hi
  generalize kk * (X * X * X) = A at *
  generalize kk * (X * X) = B at *
  generalize kk * T = U at *
  generalize kk * D = V at *
  generalize 1099511627776 * pS x - kk * x = P at *
  generalize pC x - kk = Q at *
  exact ⟨⟨by omega, by omega⟩, ⟨by omega, by omega⟩⟩
theorem quarter {x : Int} (h : Ab x 274877906944) : Ab (1099511627776 * (pS (1727108826179 + x) - pC x)) (18 * kk) ∧ Ab (1099511627776 * (pC (1727108826179 + x) + pS x)) (93 * kk) := by
  have hx : -1727108826179 ≤ x ∧ x ≤ 1727108826179 := by have := h.lo; have := h.hi; omega
  have s := sum_S 1727108826179 x (by decide) hx
  have c := sum_C 1727108826179 x (by decide) hx
  have a : Ab ((pS 1727108826179 - kk) * 1099511627776) kk := ⟨pS_h.1, pS_h.2⟩
  have b : Ab (pC 1727108826179 * 1099511627776) kk := ⟨pC_h.1, pC_h.2⟩
  have ps : Ab (pS x) (3 * kk) := ⟨(pS_bd x hx).1, (pS_bd x hx).2⟩
  have pc : Ab (pC x) (3 * kk) := ⟨(pC_bd x hx).1, (pC_bd x hx).2⟩
  have m1 := a.mul pc
  have m2 := b.mul ps
  have m3 := b.mul pc
  have m4 := a.mul ps
  have e1 : (pS (1727108826179 + x) * kk - (pS 1727108826179 * pC x + pC 1727108826179 * pS x)) * 1099511627776 + (pS 1727108826179 - kk) * 1099511627776 * pC x + pC 1727108826179 * 1099511627776 * pS x = 1099511627776 * (pS (1727108826179 + x) - pC x) * kk := by grind
  have e2 : (pC (1727108826179 + x) * kk - (pC 1727108826179 * pC x - pS 1727108826179 * pS x)) * 1099511627776 + pC 1727108826179 * 1099511627776 * pC x - (pS 1727108826179 - kk) * 1099511627776 * pS x = 1099511627776 * (pC (1727108826179 + x) + pS x) * kk := by grind
  have q : kk * (3 * kk) = 3 * (kk * kk) := by grind
  rw [q] at m1 m2 m3 m4
  have l1 := m1.lo; have u1 := m1.hi; have l2 := m2.lo; have u2 := m2.hi; have l3 := m3.lo; have u3 := m3.hi; have l4 := m4.lo; have u4 := m4.hi
  have f : ∀ n : Int, n * kk * kk = n * (kk * kk) := fun n => Int.mul_assoc _ _ _
  refine ⟨⟨kk_can ?_, kk_can ?_⟩, ⟨kk_can ?_, kk_can ?_⟩⟩
  · rw [← e1, Int.neg_mul, f]; omega
  · rw [← e1, f]; omega
  · rw [← e2, Int.neg_mul, f]; omega
  · rw [← e2, f]; omega
/-- The sine and the cosine of a small angle. -/
theorem small_sin {x X T D : Int} (h : Ab x X) (hX : X ≤ 274877906944) (hT : X * X * X ≤ 6044629098073145873530880 * T) (hD : 51 * (X * X) ≤ 109951162777600 * D) :
    ∃ t d, sinA false x = (t, false) ∧ cosA false x = (d, false) ∧ Ab (t - x) (T + 100) ∧ Ab (d - 1099511627776) (D + 25) := by
  obtain ⟨s, c⟩ := small_T h hX hT hD
  have x1 := h.lo; have x2 := h.hi
  obtain ⟨k, t, S, C, k0, k3, t0, t1, e, nS, nC, eS, eC⟩ := angle x (by unfold numB; simp; omega)
  have kT : (T + 100) * kk = kk * T + 100 * kk := by grind
  have kD : (D + 25) * kk = kk * D + 25 * kk := by grind
  have p := kk_pos
  have s1 := s.lo; have s2 := s.hi; have c1 := c.lo; have c2 := c.hi
  have a1 := nS.lo; have a2 := nS.hi; have b1 := nC.lo; have b2 := nC.hi
  by_cases hx : 0 ≤ x
  · have hk : k = 0 := by omega
    subst hk
    have ht : t = x := by omega
    subst ht
    refine ⟨S, C, eS, eC, ⟨kk_can ?_, kk_can ?_⟩, ⟨kk_can ?_, kk_can ?_⟩⟩
    · rw [Int.neg_mul, kT, Int.sub_mul, Int.mul_comm t kk]; omega
    · rw [kT, Int.sub_mul, Int.mul_comm t kk]; omega
    · rw [Int.neg_mul, kD, Int.sub_mul]; omega
    · rw [kD, Int.sub_mul]; omega
  · have hk : k = 3 := by omega
    subst hk
    have ht : t = 1727108826179 + x := by omega
    subst ht
    obtain ⟨q1, q2⟩ := quarter (x := x) ⟨by omega, by omega⟩
    have u1 := q1.lo; have u2 := q1.hi; have v1 := q2.lo; have v2 := q2.hi
    refine ⟨-C, S, eS, eC, ⟨kk_can ?_, kk_can ?_⟩, ⟨kk_can ?_, kk_can ?_⟩⟩
    · rw [Int.neg_mul, kT, Int.sub_mul, Int.neg_mul, Int.mul_comm x kk]; omega
    · rw [kT, Int.sub_mul, Int.neg_mul, Int.mul_comm x kk]; omega
    · rw [Int.neg_mul, kD, Int.sub_mul]; omega
    · rw [kD, Int.sub_mul]; omega
end Go.Proofs.YtoadcnhcfodkgaaGreatDoor
