/-
  What a turn does to a frame, for the seat Ytkeijfbpkdelpaa. No Go text in sight.
-/
import Derived.Test.YtkeijfbpkdelpaaTriG
namespace Go.Proofs.Ytkeijfbpkdelpaa
open Go.RowKit

/-- A vector turned by the matrix of four numbers, with no rounding: the first part (the others go round and round). -/
def rvc (x y z s p0 p1 p2 : Int) : Int := r00 x y z s * p0 + r01 x y z s * p1 + r10 z x y s * p2
theorem tnc_rvc (x y z s p0 p1 p2 : Int) : tnc x y z s p0 p1 p2 = rvc x y z s p0 p1 p2 - (x * x + y * y + z * z + s * s - 1208925819614629174706176) * p0 := by unfold tnc qfc rvc r00 r01 r10; grind
theorem rvc_cross (x y z s p0 p1 p2 q0 q1 q2 : Int) : rvc y z x s p1 p2 p0 * rvc z x y s q2 q0 q1 - rvc z x y s p2 p0 p1 * rvc y z x s q1 q2 q0 = (x * x + y * y + z * z + s * s) * rvc x y z s (p1 * q2 - p2 * q1) (p2 * q0 - p0 * q2) (p0 * q1 - p1 * q0) := by unfold rvc r00 r01 r10; grind
theorem rvc_len (x y z s p0 p1 p2 : Int) : rvc x y z s p0 p1 p2 * rvc x y z s p0 p1 p2 + rvc y z x s p1 p2 p0 * rvc y z x s p1 p2 p0 + rvc z x y s p2 p0 p1 * rvc z x y s p2 p0 p1 = (x * x + y * y + z * z + s * s) * (x * x + y * y + z * z + s * s) * (p0 * p0 + p1 * p1 + p2 * p2) := by unfold rvc r00 r01 r10; grind
theorem rvc_sub (x y z s p0 p1 p2 q0 q1 q2 : Int) : rvc x y z s (p0 - q0) (p1 - q1) (p2 - q2) = rvc x y z s p0 p1 p2 - rvc x y z s q0 q1 q2 := by unfold rvc; grind
theorem rvc_mul (x y z s p0 p1 p2 k : Int) : rvc x y z s (k * p0) (k * p1) (k * p2) = k * rvc x y z s p0 p1 p2 := by unfold rvc; grind
/-- The places of an attitude's matrix. -/
theorem r_bd {x y z s : Int} (U : U4 x y z s) : Ab (r00 x y z s) 1208925819628922825867264 ∧ Ab (r01 x y z s) 1208925819628922825867264 ∧ Ab (r10 x y z s) 1208925819628922825867264 := by
  have h := U.len.hi
  have s0 := sq_nonneg x
  have s1 := sq_nonneg y
  have s2 := sq_nonneg z
  have s3 := sq_nonneg s
  have d1 := sq_nonneg (x - y)
  have d2 := sq_nonneg (x + y)
  have d3 := sq_nonneg (s - z)
  have d4 := sq_nonneg (s + z)
  have e1 : (x - y) * (x - y) = x * x - 2 * (x * y) + y * y := by grind
  have e2 : (x + y) * (x + y) = x * x + 2 * (x * y) + y * y := by grind
  have e3 : (s - z) * (s - z) = s * s - 2 * (s * z) + z * z := by grind
  have e4 : (s + z) * (s + z) = s * s + 2 * (s * z) + z * z := by grind
  unfold r00 r01 r10
  exact ⟨⟨by omega, by omega⟩, ⟨by omega, by omega⟩, ⟨by omega, by omega⟩⟩
/-- How great a turned vector's parts are. -/
theorem rvc_bd {x y z s p0 p1 p2 : Int} (U : U4 x y z s) (hp : p0 * p0 + p1 * p1 + p2 * p2 ≤ 1208925819614629174706176 + 38482906972160) : Ab (rvc x y z s p0 p1 p2) 1329227996433337848350140484270882816 := by
  have l := rvc_len x y z s p0 p1 p2
  have s1 := sq_nonneg (rvc y z x s p1 p2 p0)
  have s2 := sq_nonneg (rvc z x y s p2 p0 p1)
  have h := U.len.hi
  have h0 : 0 ≤ x * x + y * y + z * z + s * s := by have := U.len.lo; omega
  have hp0 : 0 ≤ p0 * p0 + p1 * p1 + p2 * p2 := by have := sq_nonneg p0; have := sq_nonneg p1; have := sq_nonneg p2; omega
  have a := Int.mul_le_mul (by omega : x * x + y * y + z * z + s * s ≤ 1208925819628922825867264) (by omega : x * x + y * y + z * z + s * s ≤ 1208925819628922825867264) h0 (by decide)
  have b := Int.mul_le_mul a hp hp0 (by decide)
  refine root_le (by decide) ?_
  have e : (1208925819628922825867264 : Int) * 1208925819628922825867264 * (1208925819614629174706176 + 38482906972160) ≤ 1329227996433337848350140484270882816 * 1329227996433337848350140484270882816 := by decide
  omega
/-- What is as small as rounding, turned. -/
theorem rvc_small {x y z s p0 p1 p2 K : Int} (U : U4 x y z s) (h0 : Ab p0 K) (h1 : Ab p1 K) (h2 : Ab p2 K) : Ab (rvc x y z s p0 p1 p2) (3626777458886768477601792 * K) := by
  have a := (r_bd U).1
  have b := (r_bd U).2.1
  have c := (r_bd U.next.next).2.2
  unfold rvc
  exact (((a.mul h0).add (b.mul h1)).add (c.mul h2)).le (by omega)
/-- Two of which each is near another one, crossed. -/
theorem cross_err {p1 p2 q1 q2 P1 P2 Q1 Q2 B C E F : Int} (hp1 : Ab p1 B) (hp2 : Ab p2 B) (hq1 : Ab q1 C) (hq2 : Ab q2 C) (e1 : Ab (P1 - p1) E) (e2 : Ab (P2 - p2) E) (f1 : Ab (Q1 - q1) F) (f2 : Ab (Q2 - q2) F) :
    Ab (P1 * Q2 - P2 * Q1 - (p1 * q2 - p2 * q1)) (2 * (B * F) + 2 * (E * C) + 2 * (E * F)) := by
  have id : P1 * Q2 - P2 * Q1 - (p1 * q2 - p2 * q1) = p1 * (Q2 - q2) - p2 * (Q1 - q1) + ((P1 - p1) * q2 - (P2 - p2) * q1) + ((P1 - p1) * (Q2 - q2) - (P2 - p2) * (Q1 - q1)) := by grind
  rw [id]
  exact ((((hp1.mul f2).sub (hp2.mul f1)).add ((e1.mul hq2).sub (e2.mul hq1))).add ((e1.mul f2).sub (e2.mul f1))).le (by omega)
/-- A unit that was turned and made 1 long again, by its length. -/
theorem turned_unit {x y z s a0 a1 a2 t X n : Int} (U : U4 x y z s) (ha : Ab a0 1099511627776) (ht : Ab (1208925819614629174706176 * t - tnc x y z s a0 a1 a2) (2417851639229258349412352 + 6597069766656 * 1099511627776)) (hX : Uof X t n) (hn : n ≤ 1099511628808) :
    Ab (1099511627776 * n * X - rvc x y z s a0 a1 a2) 26596368031521841843535872 := by
  rw [tnc_rvc] at ht
  have id : 2 * (1099511627776 * n * X - rvc x y z s a0 a1 a2) = 1099511627776 * (2 * (X * n - t * 1099511627776)) + 2 * (1208925819614629174706176 * t - (rvc x y z s a0 a1 a2 - (x * x + y * y + z * z + s * s - 1208925819614629174706176) * a0)) - 2 * ((x * x + y * y + z * z + s * s - 1208925819614629174706176) * a0) := by grind
  have b := ((Ab.one40.mul (uof_ab hX)).add (Ab.two.mul ht)).sub (Ab.two.mul (U.len.mul ha))
  rw [← id] at b
  have := b.lo; have := b.hi
  constructor <;> omega
/-- How long what two units are crossed to can be. -/
theorem crossed_len {a0 a1 a2 b0 b1 b2 c0 c1 c2 n : Int} (ha0 : Ab a0 1099511627776) (ha1 : Ab a1 1099511627776) (ha2 : Ab a2 1099511627776) (hb0 : Ab b0 1099511627776) (hb1 : Ab b1 1099511627776) (hb2 : Ab b2 1099511627776)
    (aa : Ab (a0 * a0 + a1 * a1 + a2 * a2 - 1208925819614629174706176) 6597069766656) (bb : Ab (b0 * b0 + b1 * b1 + b2 * b2 - 1208925819614629174706176) 6597069766656)
    (e0 : Ab (c0 * 1099511627776 - (a1 * b2 - a2 * b1)) 1099511627776) (e1 : Ab (c1 * 1099511627776 - (a2 * b0 - a0 * b2)) 1099511627776) (e2 : Ab (c2 * 1099511627776 - (a0 * b1 - a1 * b0)) 1099511627776) (hn : n * n ≤ c0 * c0 + c1 * c1 + c2 * c2) : n ≤ 1099511627808 := by
  have C := crossed_le a0 a1 a2 b0 b1 b2
  have s := sq_nonneg (a0 * b0 + a1 * b1 + a2 * b2)
  have id : 1208925819614629174706176 * (c0 * c0 + c1 * c1 + c2 * c2) = ((a1 * b2 - a2 * b1) * (a1 * b2 - a2 * b1) + (a2 * b0 - a0 * b2) * (a2 * b0 - a0 * b2) + (a0 * b1 - a1 * b0) * (a0 * b1 - a1 * b0))
      + (2 * ((a1 * b2 - a2 * b1) * (c0 * 1099511627776 - (a1 * b2 - a2 * b1)) + (a2 * b0 - a0 * b2) * (c1 * 1099511627776 - (a2 * b0 - a0 * b2)) + (a0 * b1 - a1 * b0) * (c2 * 1099511627776 - (a0 * b1 - a1 * b0)))
      + ((c0 * 1099511627776 - (a1 * b2 - a2 * b1)) * (c0 * 1099511627776 - (a1 * b2 - a2 * b1)) + (c1 * 1099511627776 - (a2 * b0 - a0 * b2)) * (c1 * 1099511627776 - (a2 * b0 - a0 * b2)) + (c2 * 1099511627776 - (a0 * b1 - a1 * b0)) * (c2 * 1099511627776 - (a0 * b1 - a1 * b0)))) := by grind
  have b := (Ab.two.mul (((((ha1.mul hb2).sub (ha2.mul hb1)).mul e0).add (((ha2.mul hb0).sub (ha0.mul hb2)).mul e1)).add (((ha0.mul hb1).sub (ha1.mul hb0)).mul e2))).add (((e0.mul e0).add (e1.mul e1)).add (e2.mul e2))
  have bh := b.hi
  have p := Int.mul_le_mul (by have := aa.hi; omega : a0 * a0 + a1 * a1 + a2 * a2 ≤ 1208925819621226244472832) (by have := bb.hi; omega : b0 * b0 + b1 * b1 + b2 * b2 ≤ 1208925819621226244472832) (by have := sq_nonneg b0; have := sq_nonneg b1; have := sq_nonneg b2; omega) (by decide)
  generalize (a0 * a0 + a1 * a1 + a2 * a2) * (b0 * b0 + b1 * b1 + b2 * b2) = PP at *
  generalize (a0 * b0 + a1 * b1 + a2 * b2) * (a0 * b0 + a1 * b1 + a2 * b2) = QQ at *
  generalize (a1 * b2 - a2 * b1) * (a1 * b2 - a2 * b1) + (a2 * b0 - a0 * b2) * (a2 * b0 - a0 * b2) + (a0 * b1 - a1 * b0) * (a0 * b1 - a1 * b0) = RR at *
  by_cases c : n ≤ 1099511627808
  · exact c
  · have := sq_mono (by decide : (0 : Int) ≤ 1099511627808) (by omega : 1099511627808 ≤ n)
    omega
end Go.Proofs.Ytkeijfbpkdelpaa
