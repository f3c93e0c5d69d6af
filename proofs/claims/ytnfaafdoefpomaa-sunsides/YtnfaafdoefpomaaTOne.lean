/-
  How near the squares of a sine and a cosine are to 1 together: sharper than TrigOne asks, for the seat Ytnfaafdoefpomaa. No Go text in sight.
-/
import Derived.Test.YtnfaafdoefpomaaKepB
namespace Go.Proofs.Ytnfaafdoefpomaa

def pmul : List Int → List Int → List Int
  | [], _ => []
  | a :: l, m => padd (pscale a m) (0 :: pmul l m)
theorem evp_pmul : ∀ (l m : List Int) (x : Int), evp (pmul l m) x = evp l x * evp m x
  | [], m, x => by simp [pmul, evp]
  | a :: l, m, x => by
    unfold pmul
    rw [evp_padd, evp_scale]
    simp only [evp]
    rw [evp_pmul l m x]
    grind
def lOne : List Int := padd [-(kk * kk)] (padd (pmul lS lS) (pmul lC lC))
theorem lOne_eq (x : Int) : evp lOne x = pS x * pS x + pC x * pC x - kk * kk := by
  unfold lOne
  rw [evp_padd, evp_padd, evp_pmul, evp_pmul]
  simp only [evp]
  unfold pS pC
  grind
theorem lOne_small : evp (absl lOne) 1727108826179 * 1099511627776 ≤ kk * kk := by decide +kernel
theorem one_poly (x : Int) (h : -1727108826179 ≤ x ∧ x ≤ 1727108826179) : -(kk * kk) ≤ (pS x * pS x + pC x * pC x - kk * kk) * 1099511627776 ∧ (pS x * pS x + pC x * pC x - kk * kk) * 1099511627776 ≤ kk * kk := by
  have a := evp_abs lOne x 1727108826179 h
  have k := lOne_small
  rw [lOne_eq] at a
  omega
/-- A square, of what is near P / K. -/
theorem Nr.sq {S P B : Int} (h : Nr kk S P) (hb : Ab S B) : Ab (S * S * (kk * kk) - 1208925819614629174706176 * (P * P)) ((6 * B + 9) * (kk * kk)) := by
  have d : Ab (S * kk - 1099511627776 * P) (3 * kk) := ⟨h.lo, h.hi⟩
  have k0 : Ab kk kk := ⟨by have := kk_pos; omega, by omega⟩
  have s2 : Ab (S * kk + 1099511627776 * P) ((2 * B + 3) * kk) := by
    have m := hb.mul k0
    have m1 := m.lo; have m2 := m.hi; have d1 := d.lo; have d2 := d.hi
    have e : (2 * B + 3) * kk = 2 * (B * kk) + 3 * kk := by grind
    rw [e]
    exact ⟨by omega, by omega⟩
  have p := d.mul s2
  have e1 : (S * kk - 1099511627776 * P) * (S * kk + 1099511627776 * P) = S * S * (kk * kk) - 1208925819614629174706176 * (P * P) := by grind
  have e2 : 3 * kk * ((2 * B + 3) * kk) = (6 * B + 9) * (kk * kk) := by grind
  rw [e1, e2] at p
  exact p
theorem one_sharp {t S C : Int} (ht : 0 ≤ t ∧ t ≤ 1727108826179) (hS : Nr kk S (pS t)) (hC : Nr kk C (pC t)) (bS : Ab S 1099511627832) (bC : Ab C 1099511627832) : Ab (C * C + S * S - 1208925819614629174706176) 14293651161829 := by
  have a := hS.sq bS
  have b := hC.sq bC
  have p := one_poly t (by omega)
  have kp : 0 < kk * kk := Int.mul_pos kk_pos kk_pos
  have can : ∀ {X Y : Int}, X * (kk * kk) ≤ Y * (kk * kk) → X ≤ Y := fun h => Int.le_of_mul_le_mul_right h kp
  have a1 := a.lo; have a2 := a.hi; have b1 := b.lo; have b2 := b.hi
  have e : (C * C + S * S - 1208925819614629174706176) * (kk * kk) = S * S * (kk * kk) - 1208925819614629174706176 * (pS t * pS t) + (C * C * (kk * kk) - 1208925819614629174706176 * (pC t * pC t)) + 1099511627776 * ((pS t * pS t + pC t * pC t - kk * kk) * 1099511627776) := by grind
  refine ⟨can ?_, can ?_⟩
  · rw [e]
    generalize kk * kk = Q at *
    generalize (pS t * pS t + pC t * pC t - Q) * 1099511627776 = W at *
    omega
  · rw [e]
    generalize kk * kk = Q at *
    generalize (pS t * pS t + pC t * pC t - Q) * 1099511627776 = W at *
    omega
/-- A sine and a cosine of one angle, sharper. -/
structure Scs (s c : Int) : Prop where
  sb : Ab s 1099511627832
  cb : Ab c 1099511627832
  cs : Ab (c * c + s * s - 1208925819614629174706176) 14293651161829
theorem scs_at (a : Int) (h : numB a = true) : ∃ s c, sinA false a = (s, false) ∧ cosA false a = (c, false) ∧ Scs s c := by
  obtain ⟨s, c, es, ec, sb, cb⟩ := sc_bd a h
  refine ⟨s, c, es, ec, sb, cb, ?_⟩
  obtain ⟨k, t, S, C, k0, k3, t0, t1, _, nS, nC, eS, eC⟩ := angle a h
  rw [es] at eS
  rw [ec] at eC
  simp only [Prod.mk.injEq, and_true] at eS eC
  have q := sel_sq k S C ⟨k0, k3⟩
  have o := (one_near (t := t) ⟨t0, by omega⟩ nS nC).1
  have S0 := sq_nonneg S
  have C0 := sq_nonneg C
  have bs : ∀ {x : Int}, x * x ≤ 1208925819614629174706176 + 111 * 1099511627776 + 18 → Ab x 1099511627832 := fun {x} hx => by
    refine ⟨?_, ?_⟩
    · apply Classical.byContradiction
      intro g
      have := Int.mul_le_mul (show 1099511627833 ≤ -x by omega) (show 1099511627833 ≤ -x by omega) (by decide) (by omega)
      rw [Int.neg_mul_neg] at this
      omega
    · apply Classical.byContradiction
      intro g
      have := Int.mul_le_mul (show 1099511627833 ≤ x by omega) (show 1099511627833 ≤ x by omega) (by decide) (by omega)
      omega
  have z := one_sharp (t := t) ⟨t0, by omega⟩ nS nC (bs (by omega)) (bs (by omega))
  rw [← eS, ← eC] at q
  have z1 := z.lo; have z2 := z.hi
  exact ⟨by omega, by omega⟩
end Go.Proofs.Ytnfaafdoefpomaa
