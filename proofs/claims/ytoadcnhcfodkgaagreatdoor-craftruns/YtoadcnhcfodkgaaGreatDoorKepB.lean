/-
  Kepler's angle, by six rounds: what it makes of his equation, for the seat YtoadcnhcfodkgaaGreatDoor. No Go text in sight.
-/
import Derived.Test.YtoadcnhcfodkgaaGreatDoorKepA
namespace Go.Proofs.YtoadcnhcfodkgaaGreatDoor

theorem sc_bd (a : Int) (h : numB a = true) : ∃ s c, sinA false a = (s, false) ∧ cosA false a = (c, false) ∧ Ab s 1099511627832 ∧ Ab c 1099511627832 := by
  obtain ⟨k, t, S, C, k0, k3, t0, t1, _, nS, nC, eS, eC⟩ := angle a h
  have o := (one_near (t := t) ⟨t0, by omega⟩ nS nC).1
  have q := sel_sq k S C ⟨k0, k3⟩
  refine ⟨_, _, eS, eC, ?_, ?_⟩
  · generalize selS k S C = s at q
    generalize selC k S C = c at q
    have c0 := sq_nonneg c
    have hb : s * s ≤ 1208925819614629174706176 + 111 * 1099511627776 + 18 := by omega
    refine ⟨?_, ?_⟩
    · apply Classical.byContradiction
      intro g
      have := Int.mul_le_mul (show 1099511627833 ≤ -s by omega) (show 1099511627833 ≤ -s by omega) (by decide) (by omega)
      rw [Int.neg_mul_neg] at this
      omega
    · apply Classical.byContradiction
      intro g
      have := Int.mul_le_mul (show 1099511627833 ≤ s by omega) (show 1099511627833 ≤ s by omega) (by decide) (by omega)
      omega
  · generalize selS k S C = s at q
    generalize selC k S C = c at q
    have c0 := sq_nonneg s
    have hb : c * c ≤ 1208925819614629174706176 + 111 * 1099511627776 + 18 := by omega
    refine ⟨?_, ?_⟩
    · apply Classical.byContradiction
      intro g
      have := Int.mul_le_mul (show 1099511627833 ≤ -c by omega) (show 1099511627833 ≤ -c by omega) (by decide) (by omega)
      rw [Int.neg_mul_neg] at this
      omega
    · apply Classical.byContradiction
      intro g
      have := Int.mul_le_mul (show 1099511627833 ≤ c by omega) (show 1099511627833 ≤ c by omega) (by decide) (by omega)
      omega
/-- x, put into Kepler's equation: g too much. -/
structure Res (m e x s p g : Int) : Prop where
  sn : sinA false x = (s, false)
  mu : mulS false e s = (p, false)
  s1 : subS false x p = (x - p, false)
  s2 : subS false (x - p) m = (g, false)
  eq : g = x - p - m
  sb : Ab s 1099511627832
  pr : Ab (2 * (p * 1099511627776 - e * s)) 1099511627776
  pb : Ab p 109951162790
structure KIn (m e : Int) : Prop where
  m0 : 0 ≤ m
  m1 : m ≤ 6908435304716
  e0 : 0 ≤ e
  e1 : e ≤ 109951162777
theorem res_at {m e x : Int} (K : KIn m e) (hx : Ab (x - m) 1099511627776) : ∃ s p, Res m e x s p (x - p - m) := by
  obtain ⟨m0, m1, e0, e1⟩ := K
  have x1 := hx.lo; have x2 := hx.hi
  obtain ⟨s, _, es, _, sb, _⟩ := sc_bd x (numB_of ⟨by omega, by omega⟩)
  have eb : Ab e 109951162777 := ⟨by omega, e1⟩
  obtain ⟨p, ep, pr⟩ := mul_near eb sb (by decide) (by decide)
  have es' := eb.mul sb
  have l := es'.lo; have u := es'.hi; have pl := pr.lo; have pu := pr.hi
  have pb : Ab p 109951162790 := ⟨by omega, by omega⟩
  have p1 := pb.lo; have p2 := pb.hi
  have xb : Ab x 17592186044416 := ⟨by omega, by omega⟩
  refine ⟨s, p, es, ep, sub_near xb pb (by decide) (by decide) (by decide), ?_, rfl, sb, pr, pb⟩
  exact sub_near (K := 17702137207206) (L := 6908435304716) ⟨by omega, by omega⟩ ⟨by omega, by omega⟩ (by decide) (by decide) (by decide)
/-- A round. -/
structure Rnd (x g c q δ e : Int) : Prop where
  cs : cosA false x = (c, false)
  mu : mulS false e c = (q, false)
  su : subS false 1099511627776 q = (1099511627776 - q, false)
  dv : divS false g (1099511627776 - q) = (δ, false)
  go : subS false x δ = (x - δ, false)
theorem kep_step {m e x s p g G X T D G' : Int} (K : KIn m e) (R : Res m e x s p g) (hg : Ab g G) (hX : X ≤ 274877906944) (hGX : 1112 * G + 1000 ≤ 1000 * X) (hT : X * X * X ≤ 6044629098073145873530880 * T) (hD : 51 * (X * X) ≤ 109951162777600 * D)
    (hDT : D + T ≤ 100000000000) (hG' : D + T + 500 ≤ 10 * G') : ∃ c q δ s' p' g', Rnd x g c q δ e ∧ Res m e (x - δ) s' p' g' ∧ Ab g' G' := by
  have K' := K
  obtain ⟨m0, m1, e0, e1⟩ := K
  have g1 := hg.lo; have g2 := hg.hi
  have p1 := R.pb.lo; have p2 := R.pb.hi
  have xg := R.eq
  have hxn : numB x = true := numB_of ⟨by omega, by omega⟩
  obtain ⟨s0, c, es0, ec, _, cb⟩ := sc_bd x hxn
  have eb : Ab e 109951162777 := ⟨by omega, e1⟩
  obtain ⟨q, eq, qr⟩ := mul_near eb cb (by decide) (by decide)
  have ecb := eb.mul cb
  have cl := ecb.lo; have cu := ecb.hi; have ql := qr.lo; have qu := qr.hi
  have qb : Ab q 109951162790 := ⟨by omega, by omega⟩
  have q1 := qb.lo; have q2 := qb.hi
  obtain ⟨δ, ed, d1, d2, _⟩ := partS_near g 1099511627776 (1099511627776 - q) (numB_of ⟨by omega, by omega⟩) (by rfl) (numB_of ⟨by omega, by omega⟩) (by omega) (by
    rw [show sz 1099511627776 = 1099511627776 by rfl]
    have : sz g ≤ G := sz_le ⟨g1, g2⟩
    omega)
  have δb : Ab δ X := by
    refine ⟨?_, ?_⟩
    · apply Classical.byContradiction
      intro h
      have h1 : X + 1 ≤ -δ := by omega
      have h2 := Int.mul_le_mul h1 (show (989560464986 : Int) ≤ 1099511627776 - q by omega) (by decide) (by omega)
      rw [Int.neg_mul] at h2
      omega
    · apply Classical.byContradiction
      intro h
      have h1 : X + 1 ≤ δ := by omega
      have h2 := Int.mul_le_mul h1 (show (989560464986 : Int) ≤ 1099511627776 - q by omega) (by decide) (by omega)
      omega
  have b1 := δb.lo; have b2 := δb.hi
  have xb : Ab x 17592186044416 := ⟨by omega, by omega⟩
  have hgo : subS false x δ = (x - δ, false) := sub_near xb (δb.le hX) (by decide) (by decide) (by decide)
  obtain ⟨s', p', R'⟩ := res_at K' (x := x - δ) ⟨by omega, by omega⟩
  obtain ⟨t, d, et, ed', τb, κb⟩ := small_sin (x := -δ) (X := X) ⟨by omega, by omega⟩ hX hT hD
  obtain ⟨sa, ca, ta, da, xa, _, f1, f2, f3, f4, f5, _, sm, _⟩ := tsum_any x (-δ) hxn (numB_of ⟨by omega, by omega⟩) (numB_of ⟨by omega, by omega⟩)
  rw [R.sn] at f1
  rw [ec] at f2
  rw [et] at f3
  rw [ed'] at f4
  rw [show x + -δ = x - δ by omega, R'.sn] at f5
  simp only [Prod.mk.injEq, and_true] at f1 f2 f3 f4 f5
  subst f1 f2 f3 f4 f5
  refine ⟨c, q, δ, s', p', _, ⟨ec, eq, sub_near ⟨by decide, by decide⟩ qb (K := 1099511627776) (by decide) (by decide) (by decide), ed, hgo⟩, R', ?_⟩
  -- how much is too much
  have key : 2 * 1208925819614629174706176 * (x - δ - p' - m) = -(1099511627776 * (2 * (δ * (1099511627776 - q)) - 2 * (g * 1099511627776))) - 1099511627776 * (2 * (p' * 1099511627776 - e * s') - 2 * (p * 1099511627776 - e * s)) - 2 * (e * ((1099511627776 * s' - (s * d + c * t)) + s * (d - 1099511627776) + c * (t - -δ))) - 2 * (q * 1099511627776 - e * c) * δ := by
    rw [xg]
    grind
  have Z : Ab ((1099511627776 * s' - (s * d + c * t)) + s * (d - 1099511627776) + c * (t - -δ)) (274877906944000 + 1099511627832 * (D + 25) + 1099511627832 * (T + 100)) := by
    have a : Ab (1099511627776 * s' - (s * d + c * t)) 274877906944000 := ⟨sm.1, sm.2⟩
    exact (a.add (R.sb.mul κb)).add (cb.mul τb)
  have EZ := eb.mul Z
  have ZX := qr.mul δb
  have a1 := R'.pr.lo; have a2 := R'.pr.hi; have a3 := R.pr.lo; have a4 := R.pr.hi
  have z1 := EZ.lo; have z2 := EZ.hi; have y1 := ZX.lo; have y2 := ZX.hi
  generalize e * ((1099511627776 * s' - (s * d + c * t)) + s * (d - 1099511627776) + c * (t - -δ)) = V at key z1 z2
  generalize 2 * (q * 1099511627776 - e * c) * δ = Y at key y1 y2
  generalize 2 * (p' * 1099511627776 - e * s') = A1 at key a1 a2
  generalize 2 * (p * 1099511627776 - e * s) = A2 at key a3 a4
  generalize δ * (1099511627776 - q) = B1 at key d1 d2
  refine ⟨?_, ?_⟩
  · omega
  · omega
/-- What six rounds work, one behind the other. -/
def Six (m e : Int) : Nat → Int → Prop
  | 0, y => y = m
  | n + 1, y => ∃ x s p g c q δ, Six m e n x ∧ Res m e x s p g ∧ Rnd x g c q δ e ∧ y = x - δ
theorem six_zero {m e : Int} : Six m e 0 m := rfl
theorem six_more {m e : Int} {n : Nat} {x s p g c q δ : Int} (h : Six m e n x) (R : Res m e x s p g) (N : Rnd x g c q δ e) : Six m e (n + 1) (x - δ) := ⟨x, s, p, g, c, q, δ, h, R, N, rfl⟩
/-- Kepler's angle: six rounds from m on, and what it makes of his equation. -/
theorem kepler_math {m e : Int} (K : KIn m e) : ∃ x s p g, Six m e 6 x ∧ Res m e x s p g ∧ Ab g 51 := by
  obtain ⟨s0, p0, R0⟩ := res_at K (x := m) ⟨by omega, by omega⟩
  have p1 := R0.pb.lo; have p2 := R0.pb.hi
  have g0 : Ab (m - p0 - m) 109951162800 := ⟨by omega, by omega⟩
  obtain ⟨c1, q1, d1, s1, p1', g1, N1, R1, b1⟩ := kep_step (X := 122300000000) (T := 302700000) (D := 6940000000) (G' := 724300000) K R0 g0 (by decide) (by decide) (by decide) (by decide) (by decide) (by decide)
  obtain ⟨c2, q2, d2, s2, p2', g2, N2, R2, b2⟩ := kep_step (X := 805500000) (T := 87) (D := 301000) (G' := 30160) K R1 b1 (by decide) (by decide) (by decide) (by decide) (by decide) (by decide)
  obtain ⟨c3, q3, d3, s3, p3, g3, N3, R3, b3⟩ := kep_step (X := 33540) (T := 1) (D := 1) (G' := 51) K R2 b2 (by decide) (by decide) (by decide) (by decide) (by decide) (by decide)
  obtain ⟨c4, q4, d4, s4, p4, g4, N4, R4, b4⟩ := kep_step (X := 58) (T := 1) (D := 1) (G' := 51) K R3 b3 (by decide) (by decide) (by decide) (by decide) (by decide) (by decide)
  obtain ⟨c5, q5, d5, s5, p5, g5, N5, R5, b5⟩ := kep_step (X := 58) (T := 1) (D := 1) (G' := 51) K R4 b4 (by decide) (by decide) (by decide) (by decide) (by decide) (by decide)
  obtain ⟨c6, q6, d6, s6, p6, g6, N6, R6, b6⟩ := kep_step (X := 58) (T := 1) (D := 1) (G' := 51) K R5 b5 (by decide) (by decide) (by decide) (by decide) (by decide) (by decide)
  exact ⟨_, s6, p6, g6, six_more (six_more (six_more (six_more (six_more (six_more six_zero R0 N1) R1 N2) R2 N3) R3 N4) R4 N5) R5 N6, R6, b6⟩
end Go.Proofs.YtoadcnhcfodkgaaGreatDoor
