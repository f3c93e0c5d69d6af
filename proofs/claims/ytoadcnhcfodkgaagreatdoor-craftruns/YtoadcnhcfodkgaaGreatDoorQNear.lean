/-
  How near rounded turns are to turns, for the seat YtoadcnhcfodkgaaGreatDoor. No Go text in sight.
-/
import Derived.Test.YtoadcnhcfodkgaaGreatDoorQEqv
namespace Go.Proofs.YtoadcnhcfodkgaaGreatDoor
open Go.RowKit

/-- x is K at most, of either sign. -/
structure Ab (x K : Int) : Prop where
  lo : -K ≤ x
  hi : x ≤ K
theorem Ab.add {x y K L : Int} (h : Ab x K) (k : Ab y L) : Ab (x + y) (K + L) := ⟨by have := h.lo; have := k.lo; omega, by have := h.hi; have := k.hi; omega⟩
theorem Ab.sub {x y K L : Int} (h : Ab x K) (k : Ab y L) : Ab (x - y) (K + L) := ⟨by have := h.lo; have := k.hi; omega, by have := h.hi; have := k.lo; omega⟩
theorem Ab.neg {x K : Int} (h : Ab x K) : Ab (-x) K := ⟨by have := h.hi; omega, by have := h.lo; omega⟩
theorem Ab.mul {x y K L : Int} (h : Ab x K) (k : Ab y L) : Ab (x * y) (K * L) := by
  have := absmul ⟨h.lo, h.hi⟩ ⟨k.lo, k.hi⟩
  exact ⟨this.1, this.2⟩
theorem Ab.le {x K L : Int} (h : Ab x K) (k : K ≤ L) : Ab x L := ⟨by have := h.lo; omega, by have := h.hi; omega⟩
theorem Ab.two : Ab 2 2 := ⟨by decide, by decide⟩
theorem Ab.four : Ab 4 4 := ⟨by decide, by decide⟩
theorem Ab.one40 : Ab 1099511627776 1099511627776 := ⟨by decide, by decide⟩
theorem Ab.one80 : Ab 1208925819614629174706176 1208925819614629174706176 := ⟨by decide, by decide⟩
theorem Ab.zero {K : Int} (h : 0 ≤ K) : Ab 0 K := ⟨by omega, h⟩
theorem Ab.numB {x K : Int} (h : Ab x K) (k : K ≤ 4611686018427387904) : numB x = true := numB_of ⟨by have := h.lo; omega, by have := h.hi; omega⟩

/-- A rounded product. -/
theorem mul_near {a b K L : Int} (ha : Ab a K) (hb : Ab b L) (hK : K ≤ 1125899906842624) (hL : L ≤ 1125899906842624) :
    ∃ m, mulS false a b = (m, false) ∧ Ab (2 * (m * 1099511627776 - a * b)) 1099511627776 := by
  obtain ⟨m, e, h1, h2, _⟩ := mulS_small a b (by have := ha.lo; have := ha.hi; omega) (by have := hb.lo; have := hb.hi; omega)
  exact ⟨m, e, by omega, by omega⟩
theorem prod_bd {a b K L m : Int} (ha : Ab a K) (hb : Ab b L) (h : Ab (2 * (m * 1099511627776 - a * b)) 1099511627776) {B : Int} (hB : K * L + 549755813888 ≤ B * 1099511627776) : Ab m B := by
  have p := ha.mul hb
  have := p.lo; have := p.hi; have := h.lo; have := h.hi
  generalize a * b = ab at *
  generalize K * L = KL at *
  constructor <;> omega
theorem add_near {a b K L : Int} (ha : Ab a K) (hb : Ab b L) (h : K + L ≤ 4611686018427387904) (h1 : K ≤ 4611686018427387904) (h2 : L ≤ 4611686018427387904) : addS false a b = (a + b, false) :=
  addS_good a b (ha.numB h1) (hb.numB h2) ((ha.add hb).numB h)
theorem sub_near {a b K L : Int} (ha : Ab a K) (hb : Ab b L) (h : K + L ≤ 4611686018427387904) (h1 : K ≤ 4611686018427387904) (h2 : L ≤ 4611686018427387904) : subS false a b = (a - b, false) :=
  subS_good a b (ha.numB h1) (hb.numB h2) ((ha.sub hb).numB h)
/-- What is crossed: its parts, and how near they are. K L: how great the parts of both are; B: what the parts of what comes out keep to. -/
theorem cross_near {a0 a1 a2 v0 v1 v2 K L B : Int} (ha0 : Ab a0 K) (ha1 : Ab a1 K) (ha2 : Ab a2 K) (hv0 : Ab v0 L) (hv1 : Ab v1 L) (hv2 : Ab v2 L) (hK : K ≤ 1125899906842624) (hL : L ≤ 1125899906842624) (hB : K * L + 549755813888 ≤ B * 1099511627776) (hB' : B ≤ 1152921504606846976) :
    ∃ c0 c1 c2, vCrossS false (a0, a1, a2) (v0, v1, v2) = ((c0, c1, c2), false) ∧ Ab c0 (2 * B) ∧ Ab c1 (2 * B) ∧ Ab c2 (2 * B) ∧
      Ab (c0 * 1099511627776 - (a1 * v2 - a2 * v1)) 1099511627776 ∧ Ab (c1 * 1099511627776 - (a2 * v0 - a0 * v2)) 1099511627776 ∧ Ab (c2 * 1099511627776 - (a0 * v1 - a1 * v0)) 1099511627776 := by
  obtain ⟨m1, e1, n1⟩ := mul_near ha1 hv2 hK hL
  obtain ⟨m2, e2, n2⟩ := mul_near ha2 hv1 hK hL
  obtain ⟨m3, e3, n3⟩ := mul_near ha2 hv0 hK hL
  obtain ⟨m4, e4, n4⟩ := mul_near ha0 hv2 hK hL
  obtain ⟨m5, e5, n5⟩ := mul_near ha0 hv1 hK hL
  obtain ⟨m6, e6, n6⟩ := mul_near ha1 hv0 hK hL
  have b1 := prod_bd ha1 hv2 n1 hB
  have b2 := prod_bd ha2 hv1 n2 hB
  have b3 := prod_bd ha2 hv0 n3 hB
  have b4 := prod_bd ha0 hv2 n4 hB
  have b5 := prod_bd ha0 hv1 n5 hB
  have b6 := prod_bd ha1 hv0 n6 hB
  have s1 := sub_near b1 b2 (by omega) (by omega) (by omega)
  have s2 := sub_near b3 b4 (by omega) (by omega) (by omega)
  have s3 := sub_near b5 b6 (by omega) (by omega) (by omega)
  refine ⟨m1 - m2, m3 - m4, m5 - m6, ?_, (b1.sub b2).le (by omega), (b3.sub b4).le (by omega), (b5.sub b6).le (by omega), ?_, ?_, ?_⟩
  · unfold vCrossS
    simp only [e1, e2, e3, e4, e5, e6, s1, s2, s3, soundS_no]
  · have := n1.lo; have := n1.hi; have := n2.lo; have := n2.hi; constructor <;> omega
  · have := n3.lo; have := n3.hi; have := n4.lo; have := n4.hi; constructor <;> omega
  · have := n5.lo; have := n5.hi; have := n6.lo; have := n6.hi; constructor <;> omega
theorem double_near {c K : Int} (hc : Ab c K) (hK : K ≤ 1125899906842624) : mulS false c 2199023255552 = (2 * c, false) := by
  obtain ⟨m, e, h⟩ := mul_near hc (⟨by decide, by decide⟩ : Ab 2199023255552 2199023255552) hK (by decide)
  have := h.lo; have := h.hi
  rw [e, show m = 2 * c by omega]
/-- The parts of a turn, worked out with no rounding, 2^80 times as great: the first one (the others go round and round). -/
def qfc (a0 a1 a2 s v0 v1 v2 : Int) : Int := 2 * (a1 * (a0 * v1 - a1 * v0) - a2 * (a2 * v0 - a0 * v2)) - 2 * (s * (a1 * v2 - a2 * v1))
def tnc (a0 a1 a2 s v0 v1 v2 : Int) : Int := 1208925819614629174706176 * v0 + qfc a0 a1 a2 s v0 v1 v2
theorem tnc_add (a0 a1 a2 s v0 v1 v2 u0 u1 u2 : Int) : tnc a0 a1 a2 s (v0 + u0) (v1 + u1) (v2 + u2) = tnc a0 a1 a2 s v0 v1 v2 + tnc a0 a1 a2 s u0 u1 u2 := by unfold tnc qfc; grind
theorem tnc_mul (a0 a1 a2 s v0 v1 v2 k : Int) : tnc a0 a1 a2 s (k * v0) (k * v1) (k * v2) = k * tnc a0 a1 a2 s v0 v1 v2 := by unfold tnc qfc; grind
theorem part_near {a0 a1 a2 s v0 v1 v2 c0 c1 c2 f d H : Int} (h1 : Ab a1 H) (h2 : Ab a2 H) (hs : Ab s H)
    (n0 : Ab (c0 * 1099511627776 - (a1 * v2 - a2 * v1)) 1099511627776) (n1 : Ab (c1 * 1099511627776 - (a2 * v0 - a0 * v2)) 1099511627776) (n2 : Ab (c2 * 1099511627776 - (a0 * v1 - a1 * v0)) 1099511627776)
    (nf : Ab (2 * (f * 1099511627776 - 2 * c0 * s)) 1099511627776) (nd : Ab (d * 1099511627776 - (a1 * (2 * c2) - a2 * (2 * c1))) 1099511627776) :
    Ab (1208925819614629174706176 * (v0 - f + d) - tnc a0 a1 a2 s v0 v1 v2) (2417851639229258349412352 + 6597069766656 * H) := by
  have id : 1208925819614629174706176 * (v0 - f + d) - tnc a0 a1 a2 s v0 v1 v2 =
      1099511627776 * (d * 1099511627776 - (a1 * (2 * c2) - a2 * (2 * c1))) - 1099511627776 * (f * 1099511627776 - 2 * c0 * s) - 2 * (s * (c0 * 1099511627776 - (a1 * v2 - a2 * v1)))
        + 2 * (a1 * (c2 * 1099511627776 - (a0 * v1 - a1 * v0)) - a2 * (c1 * 1099511627776 - (a2 * v0 - a0 * v2))) := by unfold tnc qfc; grind
  rw [id]
  have p0 := hs.mul n0
  have p1 := h1.mul n2
  have p2 := h2.mul n1
  generalize s * (c0 * 1099511627776 - (a1 * v2 - a2 * v1)) = x0 at *
  generalize a1 * (c2 * 1099511627776 - (a0 * v1 - a1 * v0)) = x1 at *
  generalize a2 * (c1 * 1099511627776 - (a2 * v0 - a0 * v2)) = x2 at *
  generalize d * 1099511627776 - (a1 * (2 * c2) - a2 * (2 * c1)) = x3 at *
  generalize f * 1099511627776 - 2 * c0 * s = x4 at *
  have := p0.lo; have := p0.hi; have := p1.lo; have := p1.hi; have := p2.lo; have := p2.hi; have := nf.lo; have := nf.hi; have := nd.lo; have := nd.hi
  constructor <;> omega
/-- A rounded turn. H: how great the attitude's parts are (up to 5); L: those of the vector (up to 16). -/
theorem turn_near {a0 a1 a2 s v0 v1 v2 H : Int} (h0 : Ab a0 H) (h1 : Ab a1 H) (h2 : Ab a2 H) (hs : Ab s H) (hH : H ≤ 5497558138880) (hv0 : Ab v0 17592186044416) (hv1 : Ab v1 17592186044416) (hv2 : Ab v2 17592186044416) :
    ∃ r0 r1 r2, qTurnS false (a0, a1, a2, s) (v0, v1, v2) = ((r0, r1, r2), false) ∧
      Ab (1208925819614629174706176 * r0 - tnc a0 a1 a2 s v0 v1 v2) (2417851639229258349412352 + 6597069766656 * H) ∧
      Ab (1208925819614629174706176 * r1 - tnc a1 a2 a0 s v1 v2 v0) (2417851639229258349412352 + 6597069766656 * H) ∧
      Ab (1208925819614629174706176 * r2 - tnc a2 a0 a1 s v2 v0 v1) (2417851639229258349412352 + 6597069766656 * H) := by
  have w0 := h0.le hH
  have w1 := h1.le hH
  have w2 := h2.le hH
  have ws := hs.le hH
  obtain ⟨c0, c1, c2, ec, bc0, bc1, bc2, n0, n1, n2⟩ := cross_near (B := 89060441849857) w0 w1 w2 hv0 hv1 hv2 (by decide) (by decide) (by decide) (by decide)
  have d0 := double_near bc0 (by decide)
  have d1 := double_near bc1 (by decide)
  have d2 := double_near bc2 (by decide)
  have t0 := Ab.two.mul bc0
  have t1 := Ab.two.mul bc1
  have t2 := Ab.two.mul bc2
  have esc : vScaleS false (c0, c1, c2) 2199023255552 = ((2 * c0, 2 * c1, 2 * c2), false) := by
    unfold vScaleS
    simp only [d0, d1, d2, soundS_no]
  obtain ⟨f0, ef0, nf0⟩ := mul_near t0 ws (by decide) (by decide)
  obtain ⟨f1, ef1, nf1⟩ := mul_near t1 ws (by decide) (by decide)
  obtain ⟨f2, ef2, nf2⟩ := mul_near t2 ws (by decide) (by decide)
  have bf0 := prod_bd t0 ws nf0 (B := 1781208836997141) (by decide)
  have bf1 := prod_bd t1 ws nf1 (B := 1781208836997141) (by decide)
  have bf2 := prod_bd t2 ws nf2 (B := 1781208836997141) (by decide)
  have ef : vScaleS false (2 * c0, 2 * c1, 2 * c2) s = ((f0, f1, f2), false) := by
    unfold vScaleS
    simp only [ef0, ef1, ef2, soundS_no]
  have s0 := sub_near hv0 bf0 (by decide) (by decide) (by decide)
  have s1 := sub_near hv1 bf1 (by decide) (by decide) (by decide)
  have s2 := sub_near hv2 bf2 (by decide) (by decide) (by decide)
  have es : vSubS false (v0, v1, v2) (f0, f1, f2) = ((v0 - f0, v1 - f1, v2 - f2), false) := by
    unfold vSubS
    simp only [s0, s1, s2, soundS_no]
  obtain ⟨g0, g1, g2, eg, bg0, bg1, bg2, k0, k1, k2⟩ := cross_near (B := 1781208836997141) w0 w1 w2 t0 t1 t2 (by decide) (by decide) (by decide) (by decide)
  have a0' := add_near (hv0.sub bf0) bg0 (by decide) (by decide) (by decide)
  have a1' := add_near (hv1.sub bf1) bg1 (by decide) (by decide) (by decide)
  have a2' := add_near (hv2.sub bf2) bg2 (by decide) (by decide) (by decide)
  have ea : vAddS false (v0 - f0, v1 - f1, v2 - f2) (g0, g1, g2) = ((v0 - f0 + g0, v1 - f1 + g1, v2 - f2 + g2), false) := by
    unfold vAddS
    simp only [a0', a1', a2', soundS_no]
  refine ⟨v0 - f0 + g0, v1 - f1 + g1, v2 - f2 + g2, ?_, part_near h1 h2 hs n0 n1 n2 nf0 k0, part_near h2 h0 hs n1 n2 n0 nf1 k1, part_near h0 h1 hs n2 n0 n1 nf2 k2⟩
  unfold qTurnS
  simp only [ec, esc, ef, es, eg, ea]
end Go.Proofs.YtoadcnhcfodkgaaGreatDoor
