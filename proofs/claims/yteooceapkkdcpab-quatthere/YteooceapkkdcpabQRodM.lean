/-
  A Rodrigues vector's attitude is that vector again, but for some last bits: for the seat Yteooceapkkdcpab. No Go text in sight.
-/
import Derived.Test.YteooceapkkdcpabQThereM
namespace Go.Proofs.Yteooceapkkdcpab
open Go.RowKit

theorem times_near {c K L k : Int} (hc : Ab c K) (hK : K ≤ 1125899906842624) (hk : Ab (1099511627776 * k) L) (hL : L ≤ 1125899906842624) : mulS false c (1099511627776 * k) = (k * c, false) := by
  obtain ⟨m, e, h⟩ := mul_near hc hk hK hL
  have e2 : c * (1099511627776 * k) = 1099511627776 * (k * c) := by grind
  rw [e2] at h
  have := h.lo; have := h.hi
  rw [e, show m = k * c by generalize k * c = kc at *; omega]
theorem div_near {a b K : Int} (ha : Ab a K) (hK : K ≤ 4611686018427387904) (hb : 0 < b) (hb' : b ≤ 4611686018427387904) (hs : K * 1099511627776 ≤ b * 2305843009213693952) : ∃ m, divS false a b = (m, false) ∧ Ab (2 * (m * b - a * 1099511627776)) b := by
  obtain ⟨m, e, h1, h2, _⟩ := partS_near a 1099511627776 b (ha.numB hK) (by rfl) (numB_of (by omega)) hb (by
    rw [show sz 1099511627776 = 1099511627776 by rfl]
    have := sz_le ⟨ha.lo, ha.hi⟩
    omega)
  exact ⟨m, e, by omega, by omega⟩
theorem rod_id (p q qw u u3 s n d : Int) : 2 * (n * ((17592186044416 + d) * (1099511627776 + u3)) * (s - p)) =
    n * (17592186044416 + d) * (2 * (s * (1099511627776 + u3) - 4 * u * 1099511627776)) + 4835703278458516698824704 * (2 * (q * (17592186044416 + d) - 8 * p * 1099511627776)) + 4398046511104 * (2 * (u * n - q * 1099511627776) * (17592186044416 + d))
      - 2199023255552 * ((n - 1099511627776) * (17592186044416 + d) * p) - 1099511627776 * (p * (2 * (qw * (17592186044416 + d) - (17592186044416 - d) * 1099511627776))) - p * (2 * (u3 * n - qw * 1099511627776)) * (17592186044416 + d) := by grind
theorem rod_part {p q qw u u3 s n d : Int} (hp : Ab p 1099511627776) (hn : Ab (n - 1099511627776) 4) (hu : 0 ≤ u3) (he : 16492674416640 ≤ 17592186044416 + d)
    (T : Ab (2 * (s * (1099511627776 + u3) - 4 * u * 1099511627776)) (1099511627776 + u3)) (R : Ab (2 * (q * (17592186044416 + d) - 8 * p * 1099511627776)) (17592186044416 + d)) (S : Ab (2 * (u * n - q * 1099511627776)) n)
    (Rw : Ab (2 * (qw * (17592186044416 + d) - (17592186044416 - d) * 1099511627776)) (17592186044416 + d)) (Sw : Ab (2 * (u3 * n - qw * 1099511627776)) n) : Ab (s - p) 1024 := by
  have id := rod_id p q qw u u3 s n d
  have nl := hn.lo
  have nh := hn.hi
  have An : Ab n n := ⟨by omega, Int.le_refl n⟩
  have Ae : Ab (17592186044416 + d) (17592186044416 + d) := ⟨by omega, Int.le_refl _⟩
  have b := ((((((An.mul Ae).mul T).add ((⟨by decide, by decide⟩ : Ab 4835703278458516698824704 4835703278458516698824704).mul R)).add ((⟨by decide, by decide⟩ : Ab 4398046511104 4398046511104).mul (S.mul Ae))).sub ((⟨by decide, by decide⟩ : Ab 2199023255552 2199023255552).mul ((hn.mul Ae).mul hp))).sub (Ab.one40.mul (hp.mul Rw))).sub ((hp.mul Sw).mul Ae)
  rw [← id] at b
  generalize he1 : 17592186044416 + d = e at *
  generalize he2 : 1099511627776 + u3 = f at *
  have n0 : 0 < n := by omega
  -- everything by n e f
  have x1 : n * (e * f) = n * e * f := (Int.mul_assoc n e f).symm
  rw [x1] at b
  have y1 : 1099511627776 * (n * e) ≤ n * e * f := by
    have := Int.mul_le_mul_of_nonneg_left (by omega : 1099511627776 ≤ f) (Int.mul_nonneg (by omega : 0 ≤ n) (by omega : 0 ≤ e))
    omega
  have y2 : 549755813888 * e ≤ n * e := Int.mul_le_mul_of_nonneg_right (by omega) (by omega)
  have z1 : 1099511627776 * n * e = 1099511627776 * (n * e) := Int.mul_assoc _ _ _
  have z2 : 4 * e * 1099511627776 = 4398046511104 * e := by omega
  rw [z1, z2] at b
  generalize hF : n * e * f = F at *
  generalize n * e = g at *
  have bl := b.lo
  have bh := b.hi
  have F0 : 0 < F := by omega
  constructor
  · by_cases c : -1024 ≤ s - p
    · exact c
    · have := Int.mul_le_mul_of_nonneg_left (by omega : s - p ≤ -1025) (by omega : 0 ≤ F)
      omega
  · by_cases c : s - p ≤ 1024
    · exact c
    · have := Int.mul_le_mul_of_nonneg_left (by omega : 1025 ≤ s - p) (by omega : 0 ≤ F)
      omega
/-- How long the four numbers of a Rodrigues vector are. -/
theorem rod_sum_id (p0 p1 p2 q0 q1 q2 qw d : Int) : 4 * ((17592186044416 + d) * (17592186044416 + d) * (q0 * q0 + q1 * q1 + q2 * q2 + qw * qw - 1208925819614629174706176)) =
    35184372088832 * (p0 * (2 * (q0 * (17592186044416 + d) - 8 * p0 * 1099511627776)) + p1 * (2 * (q1 * (17592186044416 + d) - 8 * p1 * 1099511627776)) + p2 * (2 * (q2 * (17592186044416 + d) - 8 * p2 * 1099511627776)))
      + 4398046511104 * ((17592186044416 - d) * (2 * (qw * (17592186044416 + d) - (17592186044416 - d) * 1099511627776)))
      + (2 * (q0 * (17592186044416 + d) - 8 * p0 * 1099511627776) * (2 * (q0 * (17592186044416 + d) - 8 * p0 * 1099511627776)) + 2 * (q1 * (17592186044416 + d) - 8 * p1 * 1099511627776) * (2 * (q1 * (17592186044416 + d) - 8 * p1 * 1099511627776))
        + 2 * (q2 * (17592186044416 + d) - 8 * p2 * 1099511627776) * (2 * (q2 * (17592186044416 + d) - 8 * p2 * 1099511627776)) + 2 * (qw * (17592186044416 + d) - (17592186044416 - d) * 1099511627776) * (2 * (qw * (17592186044416 + d) - (17592186044416 - d) * 1099511627776)))
      - 309485009821345068724781056 * (d * 1099511627776 - (p0 * p0 + p1 * p1 + p2 * p2)) := by grind
theorem rod_sum {p0 p1 p2 q0 q1 q2 qw d : Int} (h0 : Ab p0 1099511627776) (h1 : Ab p1 1099511627776) (h2 : Ab p2 1099511627776) (dl : -1 ≤ d) (du : d ≤ 3298534883331) (nd : Ab (d * 1099511627776 - (p0 * p0 + p1 * p1 + p2 * p2)) 1649267441664)
    (R0 : Ab (2 * (q0 * (17592186044416 + d) - 8 * p0 * 1099511627776)) (17592186044416 + d)) (R1 : Ab (2 * (q1 * (17592186044416 + d) - 8 * p1 * 1099511627776)) (17592186044416 + d)) (R2 : Ab (2 * (q2 * (17592186044416 + d) - 8 * p2 * 1099511627776)) (17592186044416 + d))
    (Rw : Ab (2 * (qw * (17592186044416 + d) - (17592186044416 - d) * 1099511627776)) (17592186044416 + d)) : Ab (q0 * q0 + q1 * q1 + q2 * q2 + qw * qw - 1208925819614629174706176) 4398046511104 := by
  have id := rod_sum_id p0 p1 p2 q0 q1 q2 qw d
  have D : Ab (17592186044416 - d) 18691697672192 := ⟨by omega, by omega⟩
  have b := (((((⟨by decide, by decide⟩ : Ab 35184372088832 35184372088832).mul (((h0.mul R0).add (h1.mul R1)).add (h2.mul R2))).add ((⟨by decide, by decide⟩ : Ab 4398046511104 4398046511104).mul (D.mul Rw))).add ((((R0.mul R0).add (R1.mul R1)).add (R2.mul R2)).add (Rw.mul Rw))).sub ((⟨by decide, by decide⟩ : Ab 309485009821345068724781056 309485009821345068724781056).mul nd))
  rw [← id] at b
  generalize q0 * q0 + q1 * q1 + q2 * q2 + qw * qw - 1208925819614629174706176 = X at *
  clear id R0 R1 R2 Rw nd D
  generalize he : 17592186044416 + d = e at *
  have e1 : 16492674416640 ≤ e := by omega
  have e2 : 16492674416640 * e ≤ e * e := Int.mul_le_mul_of_nonneg_right e1 (by omega)
  have bl := b.lo
  have bh := b.hi
  generalize e * e = E at *
  constructor
  · by_cases c : -4398046511104 ≤ X
    · exact c
    · have := Int.mul_le_mul_of_nonneg_left (by omega : X ≤ -4398046511105) (by omega : 0 ≤ E)
      omega
  · by_cases c : X ≤ 4398046511104
    · exact c
    · have := Int.mul_le_mul_of_nonneg_left (by omega : 4398046511105 ≤ X) (by omega : 0 ≤ E)
      omega
theorem quot_bd {q a e B : Int} (h : Ab (2 * (q * e - a)) e) (he : 0 < e) (hi : 2 * a + e < 2 * ((B + 1) * e)) (lo : -2 * ((B + 1) * e) < 2 * a - e) : Ab q B := by
  have := h.lo; have := h.hi
  constructor
  · by_cases c : -B ≤ q
    · exact c
    · have := Int.mul_le_mul_of_nonneg_right (by omega : q ≤ -(B + 1)) (by omega : 0 ≤ e)
      have e2 : -(B + 1) * e = -((B + 1) * e) := Int.neg_mul _ _
      rw [e2] at this
      generalize (B + 1) * e = Be at *
      omega
  · by_cases c : q ≤ B
    · exact c
    · have := Int.mul_le_mul_of_nonneg_right (by omega : B + 1 ≤ q) (by omega : 0 ≤ e)
      generalize (B + 1) * e = Be at *
      omega
theorem rod_math {p0 p1 p2 : Int} (h0 : Ab p0 1099511627776) (h1 : Ab p1 1099511627776) (h2 : Ab p2 1099511627776) :
    ∃ u0 u1 u2 u3 s0 s1 s2, qFromRodS false (p0, p1, p2) = ((u0, u1, u2, u3), false) ∧ qToRodS false (u0, u1, u2, u3) = ((s0, s1, s2), false) ∧ Ab (s0 - p0) 1024 ∧ Ab (s1 - p1) 1024 ∧ Ab (s2 - p2) 1024 := by
  obtain ⟨d, ed, bd, nd⟩ := dot_near h0 h1 h2 h0 h1 h2
  have sq0 := sq_nonneg p0
  have sq1 := sq_nonneg p1
  have sq2 := sq_nonneg p2
  have dl : -1 ≤ d := by have := nd.lo; omega
  have du : d ≤ 3298534883331 := bd.hi
  have ee := add_near (⟨by decide, by decide⟩ : Ab 17592186044416 17592186044416) bd (by decide) (by decide) (by decide)
  have es := sub_near (⟨by decide, by decide⟩ : Ab 17592186044416 17592186044416) bd (by decide) (by decide) (by decide)
  have o0 : mulS false p0 8796093022208 = (8 * p0, false) := times_near (k := 8) h0 (by decide) (⟨by decide, by decide⟩ : Ab (1099511627776 * 8) 8796093022208) (by decide)
  have o1 : mulS false p1 8796093022208 = (8 * p1, false) := times_near (k := 8) h1 (by decide) (⟨by decide, by decide⟩ : Ab (1099511627776 * 8) 8796093022208) (by decide)
  have o2 : mulS false p2 8796093022208 = (8 * p2, false) := times_near (k := 8) h2 (by decide) (⟨by decide, by decide⟩ : Ab (1099511627776 * 8) 8796093022208) (by decide)
  have k8 : Ab (8 : Int) 8 := ⟨by decide, by decide⟩
  obtain ⟨q0, f0, R0⟩ := div_near (b := 17592186044416 + d) (k8.mul h0) (by decide) (by omega) (by omega) (by omega)
  obtain ⟨q1, f1, R1⟩ := div_near (b := 17592186044416 + d) (k8.mul h1) (by decide) (by omega) (by omega) (by omega)
  obtain ⟨q2, f2, R2⟩ := div_near (b := 17592186044416 + d) (k8.mul h2) (by decide) (by omega) (by omega) (by omega)
  obtain ⟨qw, fw, Rw⟩ := div_near (a := 17592186044416 - d) (b := 17592186044416 + d) (K := 18691697672192) ⟨by omega, by omega⟩ (by decide) (by omega) (by omega) (by omega)
  have l0 := h0.lo; have u0 := h0.hi; have l1 := h1.lo; have u1 := h1.hi; have l2 := h2.lo; have u2 := h2.hi
  have b0 : Ab q0 1099511627776 := quot_bd R0 (by omega) (by omega) (by omega)
  have b1 : Ab q1 1099511627776 := quot_bd R1 (by omega) (by omega) (by omega)
  have b2 : Ab q2 1099511627776 := quot_bd R2 (by omega) (by omega) (by omega)
  have bw : Ab qw 2199023255552 := quot_bd Rw (by omega) (by omega) (by omega)
  have big : 549755813888 ≤ qw := by
    by_cases c : 549755813888 ≤ qw
    · exact c
    · have := Int.mul_le_mul_of_nonneg_right (by omega : qw ≤ 549755813887) (by omega : 0 ≤ 17592186044416 + d)
      have := Rw.lo
      omega
  have SQ := rod_sum h0 h1 h2 dl du nd R0 R1 R2 Rw
  obtain ⟨n, v0, v1, v2, v3, n0, _, _, _, _, n1, n2, V0, V1, V2, V3, eu⟩ := unit_full (b0.le (by decide)) (b1.le (by decide)) (b2.le (by decide)) (bw.le (by decide)) (Or.inr (Or.inr (Or.inr big)))
  have hn : Ab (n - 1099511627776) 4 := by
    have := SQ.lo; have := SQ.hi
    constructor
    · by_cases c : -4 ≤ n - 1099511627776
      · exact c
      · have := sq_mono (by omega : 0 ≤ n + 2) (by omega : n + 2 ≤ 1099511627773)
        have m : (n + 2) * (n + 2) = n * n + 4 * n + 4 := by grind
        omega
    · by_cases c : n - 1099511627776 ≤ 4
      · exact c
      · have := sq_mono (by omega : (0 : Int) ≤ 1099511627780) (by omega : 1099511627780 ≤ n)
        omega
  have nl := hn.lo
  have nh := hn.hi
  have up : ¬ v3 < 0 := by
    intro c
    have := Int.mul_le_mul_of_nonneg_right (by omega : v3 ≤ -1) n0
    have := V3.dn
    omega
  rw [if_neg up] at eu
  have eF : qFromRodS false (p0, p1, p2) = ((v0, v1, v2, v3), false) := by
    unfold qFromRodS
    simp only [ed, ee, es, o0, o1, o2, f0, f1, f2, fw, eu]
  have a0 : Ab v0 1099511627776 := ⟨V0.lo, V0.hi⟩
  have a1 : Ab v1 1099511627776 := ⟨V1.lo, V1.hi⟩
  have a2 : Ab v2 1099511627776 := ⟨V2.lo, V2.hi⟩
  have a3 : Ab v3 1099511627776 := ⟨V3.lo, V3.hi⟩
  have a3h := a3.hi
  have k4 : Ab (4 : Int) 4 := ⟨by decide, by decide⟩
  have t3 := add_near Ab.one40 a3 (by decide) (by decide) (by decide)
  have t0 : mulS false v0 4398046511104 = (4 * v0, false) := times_near (k := 4) a0 (by decide) (⟨by decide, by decide⟩ : Ab (1099511627776 * 4) 4398046511104) (by decide)
  have t1 : mulS false v1 4398046511104 = (4 * v1, false) := times_near (k := 4) a1 (by decide) (⟨by decide, by decide⟩ : Ab (1099511627776 * 4) 4398046511104) (by decide)
  have t2 : mulS false v2 4398046511104 = (4 * v2, false) := times_near (k := 4) a2 (by decide) (⟨by decide, by decide⟩ : Ab (1099511627776 * 4) 4398046511104) (by decide)
  obtain ⟨s0, g0, T0⟩ := div_near (b := 1099511627776 + v3) (k4.mul a0) (by decide) (by omega) (by omega) (by omega)
  obtain ⟨s1, g1, T1⟩ := div_near (b := 1099511627776 + v3) (k4.mul a1) (by decide) (by omega) (by omega) (by omega)
  obtain ⟨s2, g2, T2⟩ := div_near (b := 1099511627776 + v3) (k4.mul a2) (by decide) (by omega) (by omega) (by omega)
  have eT : qToRodS false (v0, v1, v2, v3) = ((s0, s1, s2), false) := by
    rw [qToRod_rod]
    have e : uprightS (v0, v1, v2, v3) = (v0, v1, v2, v3) := by
      unfold uprightS
      rw [if_pos (show v3 ≥ 0 by omega)]
    rw [e]
    unfold rodS
    simp only [t3, t0, t1, t2, g0, g1, g2, soundS_no]
  exact ⟨v0, v1, v2, v3, s0, s1, s2, eF, eT, rod_part h0 hn (by omega) (by omega) T0 R0 (uof_ab V0) Rw (uof_ab V3), rod_part h1 hn (by omega) (by omega) T1 R1 (uof_ab V1) Rw (uof_ab V3), rod_part h2 hn (by omega) (by omega) T2 R2 (uof_ab V2) Rw (uof_ab V3)⟩
end Go.Proofs.Yteooceapkkdcpab
