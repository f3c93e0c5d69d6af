/-
  Two turns one behind the other are one turn by their product, but for some last bits: for the seat Ytkeijfbpkdelpaa. No Go text in sight.
-/
import Derived.Test.YtkeijfbpkdelpaaQKeepM
namespace Go.Proofs.Ytkeijfbpkdelpaa
open Go.RowKit

/-- A rounded Dot of parts up to 1. -/
theorem dot_near {a0 a1 a2 v0 v1 v2 : Int} (h0 : Ab a0 1099511627776) (h1 : Ab a1 1099511627776) (h2 : Ab a2 1099511627776) (k0 : Ab v0 1099511627776) (k1 : Ab v1 1099511627776) (k2 : Ab v2 1099511627776) :
    ∃ d, vDotS false (a0, a1, a2) (v0, v1, v2) = (d, false) ∧ Ab d 3298534883331 ∧ Ab (d * 1099511627776 - (a0 * v0 + a1 * v1 + a2 * v2)) 1649267441664 := by
  obtain ⟨m1, e1, n1⟩ := mul_near h0 k0 (by decide) (by decide)
  obtain ⟨m2, e2, n2⟩ := mul_near h1 k1 (by decide) (by decide)
  obtain ⟨m3, e3, n3⟩ := mul_near h2 k2 (by decide) (by decide)
  have b1 := prod_bd h0 k0 n1 (B := 1099511627777) (by decide)
  have b2 := prod_bd h1 k1 n2 (B := 1099511627777) (by decide)
  have b3 := prod_bd h2 k2 n3 (B := 1099511627777) (by decide)
  have s1 := add_near b1 b2 (by decide) (by decide) (by decide)
  have s2 := add_near (b1.add b2) b3 (by decide) (by decide) (by decide)
  refine ⟨m1 + m2 + m3, ?_, ((b1.add b2).add b3).le (by decide), ?_⟩
  · unfold vDotS
    simp only [e1, e2, e3, s1, s2]
  · have := n1.lo; have := n1.hi; have := n2.lo; have := n2.hi; have := n3.lo; have := n3.hi
    constructor <;> omega
/-- A rounded product of attitudes. -/
theorem mul4_near {a0 a1 a2 s b0 b1 b2 t : Int} (ha0 : Ab a0 1099511627776) (ha1 : Ab a1 1099511627776) (ha2 : Ab a2 1099511627776) (hs : Ab s 1099511627776) (hb0 : Ab b0 1099511627776) (hb1 : Ab b1 1099511627776) (hb2 : Ab b2 1099511627776) (ht : Ab t 1099511627776) :
    ∃ c0 c1 c2 c3, qMulS false (a0, a1, a2, s) (b0, b1, b2, t) = ((c0, c1, c2, c3), false) ∧ Ab c0 5497558138880 ∧ Ab c1 5497558138880 ∧ Ab c2 5497558138880 ∧ Ab c3 5497558138880 ∧
      Ab (1099511627776 * c0 - (a0 * t + b0 * s + (b1 * a2 - b2 * a1))) 2199023255552 ∧ Ab (1099511627776 * c1 - (a1 * t + b1 * s + (b2 * a0 - b0 * a2))) 2199023255552 ∧
      Ab (1099511627776 * c2 - (a2 * t + b2 * s + (b0 * a1 - b1 * a0))) 2199023255552 ∧ Ab (1099511627776 * c3 - (s * t - (a0 * b0 + a1 * b1 + a2 * b2))) 2199023255552 := by
  obtain ⟨f0, ef0, nf0⟩ := mul_near ha0 ht (by decide) (by decide)
  obtain ⟨f1, ef1, nf1⟩ := mul_near ha1 ht (by decide) (by decide)
  obtain ⟨f2, ef2, nf2⟩ := mul_near ha2 ht (by decide) (by decide)
  have bf0 := prod_bd ha0 ht nf0 (B := 1099511627777) (by decide)
  have bf1 := prod_bd ha1 ht nf1 (B := 1099511627777) (by decide)
  have bf2 := prod_bd ha2 ht nf2 (B := 1099511627777) (by decide)
  have ef : vScaleS false (a0, a1, a2) t = ((f0, f1, f2), false) := by unfold vScaleS; simp only [ef0, ef1, ef2, soundS_no]
  obtain ⟨g0, eg0, ng0⟩ := mul_near hb0 hs (by decide) (by decide)
  obtain ⟨g1, eg1, ng1⟩ := mul_near hb1 hs (by decide) (by decide)
  obtain ⟨g2, eg2, ng2⟩ := mul_near hb2 hs (by decide) (by decide)
  have bg0 := prod_bd hb0 hs ng0 (B := 1099511627777) (by decide)
  have bg1 := prod_bd hb1 hs ng1 (B := 1099511627777) (by decide)
  have bg2 := prod_bd hb2 hs ng2 (B := 1099511627777) (by decide)
  have eg : vScaleS false (b0, b1, b2) s = ((g0, g1, g2), false) := by unfold vScaleS; simp only [eg0, eg1, eg2, soundS_no]
  have x0 := add_near bf0 bg0 (by decide) (by decide) (by decide)
  have x1 := add_near bf1 bg1 (by decide) (by decide) (by decide)
  have x2 := add_near bf2 bg2 (by decide) (by decide) (by decide)
  have ex : vAddS false (f0, f1, f2) (g0, g1, g2) = ((f0 + g0, f1 + g1, f2 + g2), false) := by unfold vAddS; simp only [x0, x1, x2, soundS_no]
  obtain ⟨h0, h1, h2, eh, bh0, bh1, bh2, nh0, nh1, nh2⟩ := cross_near (B := 1099511627777) hb0 hb1 hb2 ha0 ha1 ha2 (by decide) (by decide) (by decide) (by decide)
  have y0 := add_near (bf0.add bg0) bh0 (by decide) (by decide) (by decide)
  have y1 := add_near (bf1.add bg1) bh1 (by decide) (by decide) (by decide)
  have y2 := add_near (bf2.add bg2) bh2 (by decide) (by decide) (by decide)
  have ey : vAddS false (f0 + g0, f1 + g1, f2 + g2) (h0, h1, h2) = ((f0 + g0 + h0, f1 + g1 + h1, f2 + g2 + h2), false) := by unfold vAddS; simp only [y0, y1, y2, soundS_no]
  obtain ⟨m, em, nm⟩ := mul_near hs ht (by decide) (by decide)
  have bm := prod_bd hs ht nm (B := 1099511627777) (by decide)
  obtain ⟨d, ed, bd, nd⟩ := dot_near ha0 ha1 ha2 hb0 hb1 hb2
  have z := sub_near bm bd (by decide) (by decide) (by decide)
  refine ⟨f0 + g0 + h0, f1 + g1 + h1, f2 + g2 + h2, m - d, ?_, ((bf0.add bg0).add bh0).le (by decide), ((bf1.add bg1).add bh1).le (by decide), ((bf2.add bg2).add bh2).le (by decide), (bm.sub bd).le (by decide), ?_, ?_, ?_, ?_⟩
  · unfold qMulS
    simp only [ef, eg, ex, eh, ey, em, ed, z, sound4S_no]
  · have := nf0.lo; have := nf0.hi; have := ng0.lo; have := ng0.hi; have := nh0.lo; have := nh0.hi; constructor <;> omega
  · have := nf1.lo; have := nf1.hi; have := ng1.lo; have := ng1.hi; have := nh1.lo; have := nh1.hi; constructor <;> omega
  · have := nf2.lo; have := nf2.hi; have := ng2.lo; have := ng2.hi; have := nh2.lo; have := nh2.hi; constructor <;> omega
  · have := nm.lo; have := nm.hi; have := nd.lo; have := nd.hi; constructor <;> omega
/-- One turn behind the other, with no rounding. -/
theorem one_behind (a0 a1 a2 s b0 b1 b2 t v0 v1 v2 : Int) :
    tnc a0 a1 a2 s (tnc b0 b1 b2 t v0 v1 v2) (tnc b1 b2 b0 t v1 v2 v0) (tnc b2 b0 b1 t v2 v0 v1) =
      1461501637330902918203684832716283019655932542976 * v0 + qfc (a0 * t + b0 * s + (b1 * a2 - b2 * a1)) (a1 * t + b1 * s + (b2 * a0 - b0 * a2)) (a2 * t + b2 * s + (b0 * a1 - b1 * a0)) (s * t - (a0 * b0 + a1 * b1 + a2 * b2)) v0 v1 v2
      + 1208925819614629174706176 * ((a0 * a0 + a1 * a1 + a2 * a2 + s * s - 1208925819614629174706176 + (b0 * b0 + b1 * b1 + b2 * b2 + t * t - 1208925819614629174706176)) * v0)
      - (a0 * a0 + a1 * a1 + a2 * a2 + s * s - 1208925819614629174706176) * tnc b0 b1 b2 t v0 v1 v2 - (b0 * b0 + b1 * b1 + b2 * b2 + t * t - 1208925819614629174706176) * tnc a0 a1 a2 s v0 v1 v2 := by
  unfold tnc qfc; grind
theorem qfc_add (p0 p1 p2 w g0 g1 g2 h v0 v1 v2 : Int) : qfc (p0 + g0) (p1 + g1) (p2 + g2) (w + h) v0 v1 v2 = qfc p0 p1 p2 w v0 v1 v2 +
    (2 * (p1 * (g0 * v1 - g1 * v0) + g1 * (p0 * v1 - p1 * v0) + g1 * (g0 * v1 - g1 * v0) - p2 * (g2 * v0 - g0 * v2) - g2 * (p2 * v0 - p0 * v2) - g2 * (g2 * v0 - g0 * v2)) - 2 * (w * (g1 * v2 - g2 * v1) + h * (p1 * v2 - p2 * v1) + h * (g1 * v2 - g2 * v1))) := by
  unfold qfc; grind
theorem qfc_mul (p0 p1 p2 w v0 v1 v2 : Int) : qfc (1099511627776 * p0) (1099511627776 * p1) (1099511627776 * p2) (1099511627776 * w) v0 v1 v2 = 1208925819614629174706176 * qfc p0 p1 p2 w v0 v1 v2 := by
  unfold qfc; grind
theorem Ab.of_add {x y r K : Int} (e : x = y + r) (h : Ab r K) : Ab (x - y) K := ⟨by have := h.lo; omega, by have := h.hi; omega⟩
theorem qfc_off {p0 p1 p2 w c0 c1 c2 c3 v0 v1 v2 : Int} (k0 : Ab p0 4835703278458516698824704) (k1 : Ab p1 4835703278458516698824704) (k2 : Ab p2 4835703278458516698824704) (kw : Ab w 4835703278458516698824704)
    (g0 : Ab (1099511627776 * c0 - p0) 2199023255552) (g1 : Ab (1099511627776 * c1 - p1) 2199023255552) (g2 : Ab (1099511627776 * c2 - p2) 2199023255552) (g3 : Ab (1099511627776 * c3 - w) 2199023255552)
    (hv0 : Ab v0 1099511627776) (hv1 : Ab v1 1099511627776) (hv2 : Ab v2 1099511627776) : Ab (1208925819614629174706176 * qfc c0 c1 c2 c3 v0 v1 v2 - qfc p0 p1 p2 w v0 v1 v2) 282069816004864263213311172714242622793594980794368 := by
  have e := qfc_add p0 p1 p2 w (1099511627776 * c0 - p0) (1099511627776 * c1 - p1) (1099511627776 * c2 - p2) (1099511627776 * c3 - w) v0 v1 v2
  rw [show p0 + (1099511627776 * c0 - p0) = 1099511627776 * c0 by omega, show p1 + (1099511627776 * c1 - p1) = 1099511627776 * c1 by omega, show p2 + (1099511627776 * c2 - p2) = 1099511627776 * c2 by omega, show w + (1099511627776 * c3 - w) = 1099511627776 * c3 by omega, qfc_mul] at e
  refine Ab.of_add e ?_
  generalize 1099511627776 * c0 - p0 = x0 at *
  generalize 1099511627776 * c1 - p1 = x1 at *
  generalize 1099511627776 * c2 - p2 = x2 at *
  generalize 1099511627776 * c3 - w = x3 at *
  exact ((Ab.two.mul ((((((k1.mul ((g0.mul hv1).sub (g1.mul hv0))).add (g1.mul ((k0.mul hv1).sub (k1.mul hv0)))).add (g1.mul ((g0.mul hv1).sub (g1.mul hv0)))).sub (k2.mul ((g2.mul hv0).sub (g0.mul hv2)))).sub (g2.mul ((k2.mul hv0).sub (k0.mul hv2)))).sub (g2.mul ((g2.mul hv0).sub (g0.mul hv2))))).sub
    (Ab.two.mul (((kw.mul ((g1.mul hv2).sub (g2.mul hv1))).add (g3.mul ((k1.mul hv2).sub (k2.mul hv1)))).add (g3.mul ((g1.mul hv2).sub (g2.mul hv1)))))).le (by decide)
theorem after_part {a0 a1 a2 s b0 b1 b2 t v0 v1 v2 y0 y1 y2 x0 c0 c1 c2 c3 z0 : Int} (U : U4 a0 a1 a2 s) (V : U4 b0 b1 b2 t) (hv0 : Ab v0 1099511627776) (hv1 : Ab v1 1099511627776) (hv2 : Ab v2 1099511627776)
    (e0 : Ab (1208925819614629174706176 * y0 - tnc b0 b1 b2 t v0 v1 v2) 9671406556917033397649408) (e1 : Ab (1208925819614629174706176 * y1 - tnc b1 b2 b0 t v1 v2 v0) 9671406556917033397649408) (e2 : Ab (1208925819614629174706176 * y2 - tnc b2 b0 b1 t v2 v0 v1) 9671406556917033397649408)
    (f : Ab (1208925819614629174706176 * x0 - tnc a0 a1 a2 s y0 y1 y2) 9671406556917033397649408)
    (g0 : Ab (1099511627776 * c0 - (a0 * t + b0 * s + (b1 * a2 - b2 * a1))) 2199023255552) (g1 : Ab (1099511627776 * c1 - (a1 * t + b1 * s + (b2 * a0 - b0 * a2))) 2199023255552)
    (g2 : Ab (1099511627776 * c2 - (a2 * t + b2 * s + (b0 * a1 - b1 * a0))) 2199023255552) (g3 : Ab (1099511627776 * c3 - (s * t - (a0 * b0 + a1 * b1 + a2 * b2))) 2199023255552)
    (h : Ab (1208925819614629174706176 * z0 - tnc c0 c1 c2 c3 v0 v1 v2) 38685626227668133590597632) : Ab (x0 - z0) 1024 := by
  have id := one_behind a0 a1 a2 s b0 b1 b2 t v0 v1 v2
  have k0 : Ab (a0 * t + b0 * s + (b1 * a2 - b2 * a1)) 4835703278458516698824704 := (((U.a0.mul V.a3).add (V.a0.mul U.a3)).add ((V.a1.mul U.a2).sub (V.a2.mul U.a1))).le (by decide)
  have k1 : Ab (a1 * t + b1 * s + (b2 * a0 - b0 * a2)) 4835703278458516698824704 := (((U.a1.mul V.a3).add (V.a1.mul U.a3)).add ((V.a2.mul U.a0).sub (V.a0.mul U.a2))).le (by decide)
  have k2 : Ab (a2 * t + b2 * s + (b0 * a1 - b1 * a0)) 4835703278458516698824704 := (((U.a2.mul V.a3).add (V.a2.mul U.a3)).add ((V.a0.mul U.a1).sub (V.a1.mul U.a0))).le (by decide)
  have k3 : Ab (s * t - (a0 * b0 + a1 * b1 + a2 * b2)) 4835703278458516698824704 := ((U.a3.mul V.a3).sub (((U.a0.mul V.a0).add (U.a1.mul V.a1)).add (U.a2.mul V.a2))).le (by decide)
  have off := qfc_off k0 k1 k2 k3 g0 g1 g2 g3 hv0 hv1 hv2
  have m := tnc_mul a0 a1 a2 s y0 y1 y2 1208925819614629174706176
  have p := tnc_add a0 a1 a2 s (tnc b0 b1 b2 t v0 v1 v2) (tnc b1 b2 b0 t v1 v2 v0) (tnc b2 b0 b1 t v2 v0 v1) (1208925819614629174706176 * y0 - tnc b0 b1 b2 t v0 v1 v2) (1208925819614629174706176 * y1 - tnc b1 b2 b0 t v1 v2 v0) (1208925819614629174706176 * y2 - tnc b2 b0 b1 t v2 v0 v1)
  rw [show tnc b0 b1 b2 t v0 v1 v2 + (1208925819614629174706176 * y0 - tnc b0 b1 b2 t v0 v1 v2) = 1208925819614629174706176 * y0 by omega, show tnc b1 b2 b0 t v1 v2 v0 + (1208925819614629174706176 * y1 - tnc b1 b2 b0 t v1 v2 v0) = 1208925819614629174706176 * y1 by omega, show tnc b2 b0 b1 t v2 v0 v1 + (1208925819614629174706176 * y2 - tnc b2 b0 b1 t v2 v0 v1) = 1208925819614629174706176 * y2 by omega] at p
  have bE := tnc_bd U.a0 U.a1 U.a2 U.a3 e0 e1 e2
  have bA := tnc_bd U.a0 U.a1 U.a2 U.a3 hv0 hv1 hv2
  have bB := tnc_bd V.a0 V.a1 V.a2 V.a3 hv0 hv1 hv2
  have q1 := U.len.mul bB
  have q2 := V.len.mul bA
  have q3 := (U.len.add V.len).mul hv0
  have hc : tnc c0 c1 c2 c3 v0 v1 v2 = 1208925819614629174706176 * v0 + qfc c0 c1 c2 c3 v0 v1 v2 := rfl
  rw [hc] at h
  generalize (a0 * a0 + a1 * a1 + a2 * a2 + s * s - 1208925819614629174706176) * tnc b0 b1 b2 t v0 v1 v2 = Q1 at *
  generalize (b0 * b0 + b1 * b1 + b2 * b2 + t * t - 1208925819614629174706176) * tnc a0 a1 a2 s v0 v1 v2 = Q2 at *
  generalize (a0 * a0 + a1 * a1 + a2 * a2 + s * s - 1208925819614629174706176 + (b0 * b0 + b1 * b1 + b2 * b2 + t * t - 1208925819614629174706176)) * v0 = Q3 at *
  generalize qfc (a0 * t + b0 * s + (b1 * a2 - b2 * a1)) (a1 * t + b1 * s + (b2 * a0 - b0 * a2)) (a2 * t + b2 * s + (b0 * a1 - b1 * a0)) (s * t - (a0 * b0 + a1 * b1 + a2 * b2)) v0 v1 v2 = QP at *
  generalize qfc c0 c1 c2 c3 v0 v1 v2 = QC at *
  generalize tnc a0 a1 a2 s (tnc b0 b1 b2 t v0 v1 v2) (tnc b1 b2 b0 t v1 v2 v0) (tnc b2 b0 b1 t v2 v0 v1) = Y at *
  generalize tnc a0 a1 a2 s (1208925819614629174706176 * y0 - tnc b0 b1 b2 t v0 v1 v2) (1208925819614629174706176 * y1 - tnc b1 b2 b0 t v1 v2 v0) (1208925819614629174706176 * y2 - tnc b2 b0 b1 t v2 v0 v1) = Z at *
  generalize tnc a0 a1 a2 s (1208925819614629174706176 * y0) (1208925819614629174706176 * y1) (1208925819614629174706176 * y2) = T at *
  generalize tnc a0 a1 a2 s y0 y1 y2 = S at *
  have := q1.lo; have := q1.hi; have := q2.lo; have := q2.hi; have := q3.lo; have := q3.hi; have := bE.lo; have := bE.hi; have := f.lo; have := f.hi; have := h.lo; have := h.hi; have := off.lo; have := off.hi
  clear q1 q2 q3 bE bA bB f h off e0 e1 e2 g0 g1 g2 g3 k0 k1 k2 k3 hc U V
  constructor <;> omega
theorem U4.next {u0 u1 u2 u3 : Int} (U : U4 u0 u1 u2 u3) : U4 u1 u2 u0 u3 := ⟨U.a1, U.a2, U.a0, U.a3, U.up, by have := U.len; rw [show u1 * u1 + u2 * u2 + u0 * u0 + u3 * u3 = u0 * u0 + u1 * u1 + u2 * u2 + u3 * u3 by omega]; exact this⟩
theorem after_math {a0 a1 a2 s b0 b1 b2 t v0 v1 v2 : Int} (U : U4 a0 a1 a2 s) (V : U4 b0 b1 b2 t) (hv0 : Ab v0 1099511627776) (hv1 : Ab v1 1099511627776) (hv2 : Ab v2 1099511627776) :
    ∃ y0 y1 y2 x0 x1 x2 c0 c1 c2 c3 z0 z1 z2, qTurnS false (b0, b1, b2, t) (v0, v1, v2) = ((y0, y1, y2), false) ∧ qTurnS false (a0, a1, a2, s) (y0, y1, y2) = ((x0, x1, x2), false) ∧
      qMulS false (a0, a1, a2, s) (b0, b1, b2, t) = ((c0, c1, c2, c3), false) ∧ qTurnS false (c0, c1, c2, c3) (v0, v1, v2) = ((z0, z1, z2), false) ∧ Ab (x0 - z0) 1024 ∧ Ab (x1 - z1) 1024 ∧ Ab (x2 - z2) 1024 := by
  obtain ⟨y0, y1, y2, ey, n0, n1, n2⟩ := turn_near V.a0 V.a1 V.a2 V.a3 (by decide) (hv0.le (by decide)) (hv1.le (by decide)) (hv2.le (by decide))
  have le8 : 2417851639229258349412352 + 6597069766656 * 1099511627776 ≤ (9671406556917033397649408 : Int) := by decide
  have le32 : 2417851639229258349412352 + 6597069766656 * 5497558138880 ≤ (38685626227668133590597632 : Int) := by decide
  have m0 := n0.le le8
  have m1 := n1.le le8
  have m2 := n2.le le8
  have k0 := turn_bd V.a0 V.a1 V.a2 V.a3 hv0 hv1 hv2 m0
  have k1 := turn_bd V.a1 V.a2 V.a0 V.a3 hv1 hv2 hv0 m1
  have k2 := turn_bd V.a2 V.a0 V.a1 V.a3 hv2 hv0 hv1 m2
  obtain ⟨x0, x1, x2, ex, p0, p1, p2⟩ := turn_near U.a0 U.a1 U.a2 U.a3 (by decide) (k0.le (by decide)) (k1.le (by decide)) (k2.le (by decide))
  obtain ⟨c0, c1, c2, c3, ec, bc0, bc1, bc2, bc3, g0, g1, g2, g3⟩ := mul4_near U.a0 U.a1 U.a2 U.a3 V.a0 V.a1 V.a2 V.a3
  obtain ⟨z0, z1, z2, ez, r0, r1, r2⟩ := turn_near bc0 bc1 bc2 bc3 (by decide) (hv0.le (by decide)) (hv1.le (by decide)) (hv2.le (by decide))
  refine ⟨y0, y1, y2, x0, x1, x2, c0, c1, c2, c3, z0, z1, z2, ey, ex, ec, ez, after_part U V hv0 hv1 hv2 m0 m1 m2 (p0.le le8) g0 g1 g2 g3 (r0.le le32), ?_, ?_⟩
  · exact after_part U.next V.next hv1 hv2 hv0 m1 m2 m0 (p1.le le8) g1 g2 g0 (by rw [show a1 * b1 + a2 * b2 + a0 * b0 = a0 * b0 + a1 * b1 + a2 * b2 by omega]; exact g3) (r1.le le32)
  · exact after_part U.next.next V.next.next hv2 hv0 hv1 m2 m0 m1 (p2.le le8) g2 g0 g1 (by rw [show a2 * b2 + a0 * b0 + a1 * b1 = a0 * b0 + a1 * b1 + a2 * b2 by omega]; exact g3) (r2.le le32)
end Go.Proofs.Ytkeijfbpkdelpaa
