/-
  How long what is read is, told by parts cut to 20 bits behind the point, for the seat Ytoaghmbaijlklaa. No Go text in sight.
-/
import Derived.Test.YtoaghmbaijlklaaSenM
import Derived.Test.YtoaghmbaijlklaaVOne
namespace Go.Proofs.Ytoaghmbaijlklaa
open Go.RowKit

theorem cut_id (K v r g : Int) (h : v = g + r) : K * (g * g) = (K - 1) * (v * v) - K * (K - 1) * (r * r) + (v - K * r) * (v - K * r) ∧ K * (g * g) = (K + 1) * (v * v) + K * (K + 1) * (r * r) - (v + K * r) * (v + K * r) := by
  subst h
  constructor <;> grind
/-- The square of what is cut, from both sides. -/
theorem cut_sq (v f : Int) (hf : v / 1048576 = f) :
    262143 * (v * v) - 262144 * 262143 * 1099511627776 ≤ 262144 * 1099511627776 * (f * f) ∧ 262144 * 1099511627776 * (f * f) ≤ 262145 * (v * v) + 262144 * 262145 * 1099511627776 ∧ 67108864 * 1099511627776 * (f * f) ≤ 67108865 * (v * v) + 67108864 * 67108865 * 1099511627776 := by
  obtain ⟨r, hr⟩ : ∃ r, r = v - 1048576 * f := ⟨_, rfl⟩
  have hr0 : 0 ≤ r ∧ r ≤ 1048576 := by omega
  have h := cut_id 262144 v r (1048576 * f) (by omega)
  have k := cut_id 67108864 v r (1048576 * f) (by omega)
  have e : 1048576 * f * (1048576 * f) = 1099511627776 * (f * f) := by grind
  rw [e] at h k
  have s1 := sq_nonneg (v - 262144 * r)
  have s2 := sq_nonneg (v + 262144 * r)
  have s3 := sq_nonneg (v + 67108864 * r)
  have r2 : r * r ≤ 1048576 * 1048576 := Int.mul_le_mul hr0.2 hr0.2 hr0.1 (by decide)
  have r0 : 0 ≤ r * r := sq_nonneg r
  have h1 := h.1
  have h2 := h.2
  have k2 := k.2
  clear h k
  generalize (v - 262144 * r) * (v - 262144 * r) = S1 at *
  generalize (v + 262144 * r) * (v + 262144 * r) = S2 at *
  generalize (v + 67108864 * r) * (v + 67108864 * r) = S3 at *
  generalize r * r = R at *
  generalize v * v = V at *
  generalize f * f = F at *
  omega
/-- What is read of a gyro, cells, a magnetometer: how great each part is, and how long it is as it is cut. -/
structure Long (k : Int) (v : V3) : Prop where
  b0 : -131941395333120 ≤ v.1 ∧ v.1 ≤ 131941395333120
  b1 : -131941395333120 ≤ v.2.1 ∧ v.2.1 ≤ 131941395333120
  b2 : -131941395333120 ≤ v.2.2 ∧ v.2.2 ≤ 131941395333120
  sun : k = 2 → ∀ f0 f1 f2, v.1 / 1048576 = f0 → v.2.1 / 1048576 = f1 → v.2.2 / 1048576 = f2 → 1099494850560 < f0 * f0 + f1 * f1 + f2 * f2 ∧ f0 * f0 + f1 * f1 + f2 * f2 < 1099528404992
  mag : k = 3 → ∀ f0 f1 f2, v.1 / 1048576 = f0 → v.2.1 / 1048576 = f1 → v.2.2 / 1048576 = f2 → 1099494850560 < f0 * f0 + f1 * f1 + f2 * f2 ∧ f0 * f0 + f1 * f1 + f2 * f2 < 15832968513716224
theorem gyro_long {a b c : Int} (h : gyroOk a b c = true) : Long 1 (gyroV a b c) := by
  unfold gyroOk gyroIn at h
  simp at h
  unfold gyroV
  exact ⟨by show _ ≤ a * _ ∧ a * _ ≤ _; omega, by show _ ≤ b * _ ∧ b * _ ≤ _; omega, by show _ ≤ c * _ ∧ c * _ ≤ _; omega, fun e => by omega, fun e => by omega⟩
theorem sun_long {a b c d e f : Int} (h : sunOk a b c d e f = true) : Long 2 (sunS a b c d e f).1 := by
  unfold sunOk at h
  simp at h
  have h2 := h.2
  unfold sunS at h2 ⊢
  generalize sunD a b c d e f = p at *
  rcases vUnit_cases false p with ⟨_, e⟩ | ⟨n, u0, u1, u2, _, hv, hm, hn, _, _, _, e, U0, U1, U2⟩
  · rw [e] at h2; cases h2
  · rw [e]
    have g := normS_good hm
    have s := unit_sum p.1 p.2.1 p.2.2 n u0 u1 u2 hn g.2.2.2.2.2.2.1 g.2.2.2.2.2.2.2 U0 U1 U2
    have l0 := U0.lo
    have l1 := U1.lo
    have l2 := U2.lo
    have m0 := U0.hi
    have m1 := U1.hi
    have m2 := U2.hi
    refine ⟨by show _ ≤ u0 ∧ u0 ≤ _; omega, by show _ ≤ u1 ∧ u1 ≤ _; omega, by show _ ≤ u2 ∧ u2 ≤ _; omega, fun _ f0 f1 f2 h0 h1 h2 => ?_, fun e => by omega⟩
    have c0 := cut_sq u0 f0 h0
    have c1 := cut_sq u1 f1 h1
    have c2 := cut_sq u2 f2 h2
    generalize f0 * f0 = F0 at *
    generalize f1 * f1 = F1 at *
    generalize f2 * f2 = F2 at *
    generalize u0 * u0 = W0 at *
    generalize u1 * u1 = W1 at *
    generalize u2 * u2 = W2 at *
    omega
theorem mag_long {a b c : Int} (h : magOk a b c = true) : Long 3 (magS a b c).1 := by
  unfold magOk magN at h
  simp at h
  generalize magS a b c = p at *
  have hN : vNormS p.2 p.1 = normS p.2 p.1.1 p.1.2.1 p.1.2.2 := rfl
  rw [hN] at h
  have hb : (normS p.2 p.1.1 p.1.2.1 p.1.2.2).2 = false := by
    cases hb : (normS p.2 p.1.1 p.1.2.1 p.1.2.2).2
    · rfl
    · have := normS_bad _ _ _ _ hb
      omega
  obtain ⟨n, hn⟩ : ∃ n, normS p.2 p.1.1 p.1.2.1 p.1.2.2 = (n, false) := ⟨_, Prod.ext rfl hb⟩
  have g := normS_good hn
  rw [hn] at h
  have h' : 1099511627776 ≤ n ∧ n ≤ 131941395333120 := h
  have s0 := sq_nonneg p.1.1
  have s1 := sq_nonneg p.1.2.1
  have s2 := sq_nonneg p.1.2.2
  have a0 := abs_le_of_sq g.2.2.2.2.1 (a := p.1.1) (by omega)
  have a1 := abs_le_of_sq g.2.2.2.2.1 (a := p.1.2.1) (by omega)
  have a2 := abs_le_of_sq g.2.2.2.2.1 (a := p.1.2.2) (by omega)
  refine ⟨by omega, by omega, by omega, fun e => by omega, fun _ f0 f1 f2 h0 h1 h2 => ?_⟩
  have c0 := cut_sq p.1.1 f0 h0
  have c1 := cut_sq p.1.2.1 f1 h1
  have c2 := cut_sq p.1.2.2 f2 h2
  have q1 := g.2.2.2.2.2.2.1
  have q2 := g.2.2.2.2.2.2.2
  have n1 : 1099511627776 * 1099511627776 ≤ n * n := Int.mul_le_mul h'.1 h'.1 (by decide) (by omega)
  have n2 : (n + 1) * (n + 1) ≤ 131941395333121 * 131941395333121 := Int.mul_le_mul (by omega) (by omega) (by omega) (by decide)
  generalize (n + 1) * (n + 1) = N1 at *
  generalize n * n = N0 at *
  generalize f0 * f0 = F0 at *
  generalize f1 * f1 = F1 at *
  generalize f2 * f2 = F2 at *
  generalize p.1.1 * p.1.1 = W0 at *
  generalize p.1.2.1 * p.1.2.1 = W1 at *
  generalize p.1.2.2 * p.1.2.2 = W2 at *
  omega
theorem read_long {k : Int} {s : ByteArray} (h : readOk k s = true) : (k = 1 ∨ k = 2 ∨ k = 3) ∧ ∃ v : V3, readR k s = (k, tickS s, v) ∧ Long k v := by
  have e : readR k s = (k, tickS s, saidV k s 6) := by unfold readR; rw [if_pos h]
  unfold readOk at h
  simp at h
  have hf := h.1.1
  have hs := h.2
  unfold formOk at hf
  simp at hf
  have hk : k = 1 ∨ k = 2 ∨ k = 3 := by omega
  refine ⟨hk, _, e, ?_⟩
  unfold saidOk at hs
  unfold saidV
  rcases hk with rfl | rfl | rfl
  · exact gyro_long hs
  · exact sun_long hs
  · exact mag_long hs
end Go.Proofs.Ytoaghmbaijlklaa
