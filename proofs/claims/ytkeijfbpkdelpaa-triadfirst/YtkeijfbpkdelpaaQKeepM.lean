/-
  A turn keeps lengths, and a turn back leads back, but for some last bits: for the seat Ytkeijfbpkdelpaa. No Go text in sight.
-/
import Derived.Test.YtkeijfbpkdelpaaQKeep
namespace Go.Proofs.Ytkeijfbpkdelpaa
open Go.RowKit

/-- What is turned there and turned back. -/
theorem back_part {a0 a1 a2 s v0 v1 v2 t0 t1 t2 b0 : Int} (U : U4 a0 a1 a2 s) (hv0 : Ab v0 1099511627776) (hv1 : Ab v1 1099511627776) (hv2 : Ab v2 1099511627776)
    (e0 : Ab (1208925819614629174706176 * t0 - tnc a0 a1 a2 s v0 v1 v2) 9671406556917033397649408) (e1 : Ab (1208925819614629174706176 * t1 - tnc a1 a2 a0 s v1 v2 v0) 9671406556917033397649408) (e2 : Ab (1208925819614629174706176 * t2 - tnc a2 a0 a1 s v2 v0 v1) 9671406556917033397649408)
    (f : Ab (1208925819614629174706176 * b0 - tnc (-a0) (-a1) (-a2) s t0 t1 t2) 9671406556917033397649408) : Ab (b0 - v0) 1024 := by
  have k := there_back a0 a1 a2 s v0 v1 v2
  have m := tnc_mul (-a0) (-a1) (-a2) s t0 t1 t2 1208925819614629174706176
  have p := tnc_add (-a0) (-a1) (-a2) s (tnc a0 a1 a2 s v0 v1 v2) (tnc a1 a2 a0 s v1 v2 v0) (tnc a2 a0 a1 s v2 v0 v1) (1208925819614629174706176 * t0 - tnc a0 a1 a2 s v0 v1 v2) (1208925819614629174706176 * t1 - tnc a1 a2 a0 s v1 v2 v0) (1208925819614629174706176 * t2 - tnc a2 a0 a1 s v2 v0 v1)
  rw [show tnc a0 a1 a2 s v0 v1 v2 + (1208925819614629174706176 * t0 - tnc a0 a1 a2 s v0 v1 v2) = 1208925819614629174706176 * t0 by omega, show tnc a1 a2 a0 s v1 v2 v0 + (1208925819614629174706176 * t1 - tnc a1 a2 a0 s v1 v2 v0) = 1208925819614629174706176 * t1 by omega, show tnc a2 a0 a1 s v2 v0 v1 + (1208925819614629174706176 * t2 - tnc a2 a0 a1 s v2 v0 v1) = 1208925819614629174706176 * t2 by omega] at p
  have bE := tnc_bd U.a0.neg U.a1.neg U.a2.neg U.a3 e0 e1 e2
  have bX := Ab.four.mul (U.len.mul ((U.a1.mul ((U.a0.mul hv1).sub (U.a1.mul hv0))).sub (U.a2.mul ((U.a2.mul hv0).sub (U.a0.mul hv2)))))
  generalize 4 * ((a0 * a0 + a1 * a1 + a2 * a2 + s * s - 1208925819614629174706176) * (a1 * (a0 * v1 - a1 * v0) - a2 * (a2 * v0 - a0 * v2))) = X at *
  generalize tnc (-a0) (-a1) (-a2) s (tnc a0 a1 a2 s v0 v1 v2) (tnc a1 a2 a0 s v1 v2 v0) (tnc a2 a0 a1 s v2 v0 v1) = Y at *
  generalize tnc (-a0) (-a1) (-a2) s (1208925819614629174706176 * t0 - tnc a0 a1 a2 s v0 v1 v2) (1208925819614629174706176 * t1 - tnc a1 a2 a0 s v1 v2 v0) (1208925819614629174706176 * t2 - tnc a2 a0 a1 s v2 v0 v1) = Z at *
  generalize tnc (-a0) (-a1) (-a2) s (1208925819614629174706176 * t0) (1208925819614629174706176 * t1) (1208925819614629174706176 * t2) = T at *
  generalize tnc (-a0) (-a1) (-a2) s t0 t1 t2 = S at *
  have := bX.lo; have := bX.hi; have := bE.lo; have := bE.hi; have := f.lo; have := f.hi
  constructor <;> omega
/-- A sum of products, by what its parts keep to. -/
theorem crossed_le (a0 a1 a2 v0 v1 v2 : Int) : (a1 * v2 - a2 * v1) * (a1 * v2 - a2 * v1) + (a2 * v0 - a0 * v2) * (a2 * v0 - a0 * v2) + (a0 * v1 - a1 * v0) * (a0 * v1 - a1 * v0) + (a0 * v0 + a1 * v1 + a2 * v2) * (a0 * v0 + a1 * v1 + a2 * v2) = (a0 * a0 + a1 * a1 + a2 * a2) * (v0 * v0 + v1 * v1 + v2 * v2) := by grind
theorem root_le {x K : Int} (hK : 0 ≤ K) (h : x * x ≤ K * K) : Ab x K := by
  have := abs_le_of_sq (a := x) hK (by have e : (K + 1) * (K + 1) = K * K + 2 * K + 1 := by grind
                                       omega)
  exact ⟨this.1, this.2⟩
theorem length_part {a0 a1 a2 s v0 v1 v2 t0 t1 t2 N M : Int} (U : U4 a0 a1 a2 s) (hM : 0 ≤ M) (hM' : M + 1 ≤ 2199023255552) (m1 : M * M ≤ v0 * v0 + v1 * v1 + v2 * v2) (m2 : v0 * v0 + v1 * v1 + v2 * v2 < (M + 1) * (M + 1))
    (hN : 0 ≤ N) (n1 : N * N ≤ t0 * t0 + t1 * t1 + t2 * t2) (n2 : t0 * t0 + t1 * t1 + t2 * t2 < (N + 1) * (N + 1))
    (e0 : Ab (1208925819614629174706176 * t0 - tnc a0 a1 a2 s v0 v1 v2) 9671406556917033397649408) (e1 : Ab (1208925819614629174706176 * t1 - tnc a1 a2 a0 s v1 v2 v0) 9671406556917033397649408) (e2 : Ab (1208925819614629174706176 * t2 - tnc a2 a0 a1 s v2 v0 v1) 9671406556917033397649408) : Ab (N - M) 1024 := by
  have L := lengths a0 a1 a2 s v0 v1 v2
  have C := crossed_le a0 a1 a2 v0 v1 v2
  have c0 := sq_nonneg (a1 * v2 - a2 * v1)
  have c1 := sq_nonneg (a2 * v0 - a0 * v2)
  have c2 := sq_nonneg (a0 * v1 - a1 * v0)
  have c3 := sq_nonneg (a0 * v0 + a1 * v1 + a2 * v2)
  have s3 := sq_nonneg s
  have w0 := sq_nonneg v0
  have w1 := sq_nonneg v1
  have w2 := sq_nonneg v2
  have hl := U.len
  generalize hW : (a1 * v2 - a2 * v1) * (a1 * v2 - a2 * v1) + (a2 * v0 - a0 * v2) * (a2 * v0 - a0 * v2) + (a0 * v1 - a1 * v0) * (a0 * v1 - a1 * v0) = W at *
  generalize hV : v0 * v0 + v1 * v1 + v2 * v2 = V at *
  have V0 : 0 ≤ V := by omega
  have W0 : 0 ≤ W := by omega
  -- what is crossed is at most twice as long
  have W1 : W ≤ 2417851639229258349412352 * V := by
    have a := Int.mul_le_mul_of_nonneg_right (by have := hl.hi; omega : a0 * a0 + a1 * a1 + a2 * a2 ≤ 2417851639229258349412352) V0
    omega
  have D := hl.mul (⟨by omega, W1⟩ : Ab W (2417851639229258349412352 * V))
  generalize (a0 * a0 + a1 * a1 + a2 * a2 + s * s - 1208925819614629174706176) * W = DW at *
  have hP : (M + 1) * (M + 1) = (M + 1) * (M + 1) := rfl
  generalize hp : M + 1 = p at *
  have pp : p * p ≤ 2199023255552 * p := Int.mul_le_mul_of_nonneg_right (by omega) (by omega)
  have r0 := sq_nonneg (tnc a0 a1 a2 s v0 v1 v2)
  have r1 := sq_nonneg (tnc a1 a2 a0 s v1 v2 v0)
  have r2 := sq_nonneg (tnc a2 a0 a1 s v2 v0 v1)
  have sq4 : 2417851639229258349412352 * p * (2417851639229258349412352 * p) = 5846006549323611672814739330865132078623730171904 * (p * p) := by grind
  have D1 := D.lo
  have D2 := D.hi
  have D3 : 14293651161088 * (2417851639229258349412352 * V) = 34559927890407812695498983567288958976 * V := by omega
  rw [D3] at D1 D2
  have k0 := root_le (x := tnc a0 a1 a2 s v0 v1 v2) (by omega : 0 ≤ 2417851639229258349412352 * p) (by rw [sq4]; omega)
  have k1 := root_le (x := tnc a1 a2 a0 s v1 v2 v0) (by omega : 0 ≤ 2417851639229258349412352 * p) (by rw [sq4]; omega)
  have k2 := root_le (x := tnc a2 a0 a1 s v2 v0 v1) (by omega : 0 ≤ 2417851639229258349412352 * p) (by rw [sq4]; omega)
  have x0 := k0.mul e0
  have x1 := k1.mul e1
  have x2 := k2.mul e2
  have y0 := e0.mul e0
  have y1 := e1.mul e1
  have y2 := e2.mul e2
  have z0 := sq_nonneg (1208925819614629174706176 * t0 - tnc a0 a1 a2 s v0 v1 v2)
  have z1 := sq_nonneg (1208925819614629174706176 * t1 - tnc a1 a2 a0 s v1 v2 v0)
  have z2 := sq_nonneg (1208925819614629174706176 * t2 - tnc a2 a0 a1 s v2 v0 v1)
  have i0 : 1461501637330902918203684832716283019655932542976 * (t0 * t0) = tnc a0 a1 a2 s v0 v1 v2 * tnc a0 a1 a2 s v0 v1 v2 + 2 * (tnc a0 a1 a2 s v0 v1 v2 * (1208925819614629174706176 * t0 - tnc a0 a1 a2 s v0 v1 v2)) + (1208925819614629174706176 * t0 - tnc a0 a1 a2 s v0 v1 v2) * (1208925819614629174706176 * t0 - tnc a0 a1 a2 s v0 v1 v2) := by
    generalize tnc a0 a1 a2 s v0 v1 v2 = T; grind
  have i1 : 1461501637330902918203684832716283019655932542976 * (t1 * t1) = tnc a1 a2 a0 s v1 v2 v0 * tnc a1 a2 a0 s v1 v2 v0 + 2 * (tnc a1 a2 a0 s v1 v2 v0 * (1208925819614629174706176 * t1 - tnc a1 a2 a0 s v1 v2 v0)) + (1208925819614629174706176 * t1 - tnc a1 a2 a0 s v1 v2 v0) * (1208925819614629174706176 * t1 - tnc a1 a2 a0 s v1 v2 v0) := by
    generalize tnc a1 a2 a0 s v1 v2 v0 = T; grind
  have i2 : 1461501637330902918203684832716283019655932542976 * (t2 * t2) = tnc a2 a0 a1 s v2 v0 v1 * tnc a2 a0 a1 s v2 v0 v1 + 2 * (tnc a2 a0 a1 s v2 v0 v1 * (1208925819614629174706176 * t2 - tnc a2 a0 a1 s v2 v0 v1)) + (1208925819614629174706176 * t2 - tnc a2 a0 a1 s v2 v0 v1) * (1208925819614629174706176 * t2 - tnc a2 a0 a1 s v2 v0 v1) := by
    generalize tnc a2 a0 a1 s v2 v0 v1 = T; grind
  have X0 : 2417851639229258349412352 * p * 9671406556917033397649408 = 23384026197294446691258957323460528314494920687616 * p := by omega
  rw [X0] at x0 x1 x2
  have := x0.lo; have := x0.hi; have := x1.lo; have := x1.hi; have := x2.lo; have := x2.hi
  have := y0.hi; have := y1.hi; have := y2.hi
  generalize tnc a0 a1 a2 s v0 v1 v2 * (1208925819614629174706176 * t0 - tnc a0 a1 a2 s v0 v1 v2) = xx0 at *
  generalize tnc a1 a2 a0 s v1 v2 v0 * (1208925819614629174706176 * t1 - tnc a1 a2 a0 s v1 v2 v0) = xx1 at *
  generalize tnc a2 a0 a1 s v2 v0 v1 * (1208925819614629174706176 * t2 - tnc a2 a0 a1 s v2 v0 v1) = xx2 at *
  generalize (1208925819614629174706176 * t0 - tnc a0 a1 a2 s v0 v1 v2) * (1208925819614629174706176 * t0 - tnc a0 a1 a2 s v0 v1 v2) = yy0 at *
  generalize (1208925819614629174706176 * t1 - tnc a1 a2 a0 s v1 v2 v0) * (1208925819614629174706176 * t1 - tnc a1 a2 a0 s v1 v2 v0) = yy1 at *
  generalize (1208925819614629174706176 * t2 - tnc a2 a0 a1 s v2 v0 v1) * (1208925819614629174706176 * t2 - tnc a2 a0 a1 s v2 v0 v1) = yy2 at *
  generalize tnc a0 a1 a2 s v0 v1 v2 * tnc a0 a1 a2 s v0 v1 v2 = TT0 at *
  generalize tnc a1 a2 a0 s v1 v2 v0 * tnc a1 a2 a0 s v1 v2 v0 = TT1 at *
  generalize tnc a2 a0 a1 s v2 v0 v1 * tnc a2 a0 a1 s v2 v0 v1 = TT2 at *
  have up : t0 * t0 + t1 * t1 + t2 * t2 ≤ p * p + 320 * p + 192 := by omega
  have dn : V - 320 * p ≤ t0 * t0 + t1 * t1 + t2 * t2 := by omega
  have eM : M = p - 1 := by omega
  subst eM
  have em : (p - 1) * (p - 1) = p * p - 2 * p + 1 := by grind
  rw [em] at m1
  constructor
  · by_cases c : p - 1 ≤ N + 1024
    · omega
    · have q := sq_mono (by omega : 0 ≤ N + 1) (by omega : N + 1 ≤ p - 1025)
      have q2 : (p - 1025) * (p - 1025) = p * p - 2050 * p + 1050625 := by grind
      omega
  · by_cases c : N ≤ p - 1 + 1024
    · omega
    · have q := sq_mono (by omega : 0 ≤ p + 1024) (by omega : p + 1024 ≤ N)
      have q2 : (p + 1024) * (p + 1024) = p * p + 2048 * p + 1048576 := by grind
      omega
theorem norm_near {t0 t1 t2 K : Int} (h0 : Ab t0 K) (h1 : Ab t1 K) (h2 : Ab t2 K) (hK : K ≤ 1152921504606846976) :
    ∃ N, vNormS false (t0, t1, t2) = (N, false) ∧ 0 ≤ N ∧ N * N ≤ t0 * t0 + t1 * t1 + t2 * t2 ∧ t0 * t0 + t1 * t1 + t2 * t2 < (N + 1) * (N + 1) := by
  have q0 := (h0.le hK).mul (h0.le hK)
  have q1 := (h1.le hK).mul (h1.le hK)
  have q2 := (h2.le hK).mul (h2.le hK)
  have := q0.hi; have := q1.hi; have := q2.hi
  have s0 := sq_nonneg t0
  have s1 := sq_nonneg t1
  have s2 := sq_nonneg t2
  have s := isq_spec (t0 * t0 + t1 * t1 + t2 * t2) (by omega) (by omega)
  refine ⟨isq (t0 * t0 + t1 * t1 + t2 * t2), normS_make (h0.numB (by omega)) (h1.numB (by omega)) (h2.numB (by omega)) s.1 ?_ s.2.1 s.2.2, s.1, s.2.1, s.2.2⟩
  by_cases k : isq (t0 * t0 + t1 * t1 + t2 * t2) ≤ 4611686018427387904
  · exact k
  · have := sq_mono (by omega : (0 : Int) ≤ 4611686018427387905) (by omega : 4611686018427387905 ≤ isq (t0 * t0 + t1 * t1 + t2 * t2))
    omega
theorem turn_bd {a0 a1 a2 s v0 v1 v2 r : Int} (U0 : Ab a0 1099511627776) (U1 : Ab a1 1099511627776) (U2 : Ab a2 1099511627776) (U3 : Ab s 1099511627776) (hv0 : Ab v0 1099511627776) (hv1 : Ab v1 1099511627776) (hv2 : Ab v2 1099511627776)
    (e : Ab (1208925819614629174706176 * r - tnc a0 a1 a2 s v0 v1 v2) 9671406556917033397649408) : Ab r 15393162788864 := by
  have b := tnc_bd U0 U1 U2 U3 hv0 hv1 hv2
  have := b.lo; have := b.hi; have := e.lo; have := e.hi
  constructor <;> omega
theorem keeps_math {u0 u1 u2 u3 v0 v1 v2 : Int} (U : U4 u0 u1 u2 u3) (hv0 : Ab v0 1099511627776) (hv1 : Ab v1 1099511627776) (hv2 : Ab v2 1099511627776) :
    ∃ t0 t1 t2 N M b0 b1 b2, qTurnS false (u0, u1, u2, u3) (v0, v1, v2) = ((t0, t1, t2), false) ∧ vNormS false (t0, t1, t2) = (N, false) ∧ vNormS false (v0, v1, v2) = (M, false) ∧ qBackS (u0, u1, u2, u3) = (-u0, -u1, -u2, u3) ∧
      qTurnS false (-u0, -u1, -u2, u3) (t0, t1, t2) = ((b0, b1, b2), false) ∧ Ab (N - M) 1024 ∧ Ab (b0 - v0) 1024 ∧ Ab (b1 - v1) 1024 ∧ Ab (b2 - v2) 1024 := by
  obtain ⟨t0, t1, t2, et, n0, n1, n2⟩ := turn_near U.a0 U.a1 U.a2 U.a3 (by decide) (hv0.le (by decide)) (hv1.le (by decide)) (hv2.le (by decide))
  have m0 := n0.le (show 2417851639229258349412352 + 6597069766656 * 1099511627776 ≤ (9671406556917033397649408 : Int) by decide)
  have m1 := n1.le (show 2417851639229258349412352 + 6597069766656 * 1099511627776 ≤ (9671406556917033397649408 : Int) by decide)
  have m2 := n2.le (show 2417851639229258349412352 + 6597069766656 * 1099511627776 ≤ (9671406556917033397649408 : Int) by decide)
  have k0 := turn_bd U.a0 U.a1 U.a2 U.a3 hv0 hv1 hv2 m0
  have k1 := turn_bd U.a1 U.a2 U.a0 U.a3 hv1 hv2 hv0 m1
  have k2 := turn_bd U.a2 U.a0 U.a1 U.a3 hv2 hv0 hv1 m2
  obtain ⟨N, eN, N0, N1, N2⟩ := norm_near k0 k1 k2 (by decide)
  obtain ⟨M, eM, M0, M1, M2⟩ := norm_near hv0 hv1 hv2 (by decide)
  obtain ⟨b0, b1, b2, eb, p0, p1, p2⟩ := turn_near U.a0.neg U.a1.neg U.a2.neg U.a3 (by decide) (k0.le (by decide)) (k1.le (by decide)) (k2.le (by decide))
  have q0 := p0.le (show 2417851639229258349412352 + 6597069766656 * 1099511627776 ≤ (9671406556917033397649408 : Int) by decide)
  have q1 := p1.le (show 2417851639229258349412352 + 6597069766656 * 1099511627776 ≤ (9671406556917033397649408 : Int) by decide)
  have q2 := p2.le (show 2417851639229258349412352 + 6597069766656 * 1099511627776 ≤ (9671406556917033397649408 : Int) by decide)
  have hM : M + 1 ≤ 2199023255552 := by
    have x0 := (hv0.mul hv0).hi
    have x1 := (hv1.mul hv1).hi
    have x2 := (hv2.mul hv2).hi
    by_cases c : M + 1 ≤ 2199023255552
    · exact c
    · have := sq_mono (by omega : (0 : Int) ≤ 2199023255552) (by omega : 2199023255552 ≤ M)
      omega
  have V : U4 u1 u2 u0 u3 := ⟨U.a1, U.a2, U.a0, U.a3, U.up, by have := U.len; rw [show u1 * u1 + u2 * u2 + u0 * u0 + u3 * u3 = u0 * u0 + u1 * u1 + u2 * u2 + u3 * u3 by omega]; exact this⟩
  have V' : U4 u2 u0 u1 u3 := ⟨U.a2, U.a0, U.a1, U.a3, U.up, by have := U.len; rw [show u2 * u2 + u0 * u0 + u1 * u1 + u3 * u3 = u0 * u0 + u1 * u1 + u2 * u2 + u3 * u3 by omega]; exact this⟩
  refine ⟨t0, t1, t2, N, M, b0, b1, b2, et, eN, eM, ?_, eb, length_part U M0 hM M1 M2 N0 N1 N2 m0 m1 m2, back_part U hv0 hv1 hv2 m0 m1 m2 q0, back_part V hv1 hv2 hv0 m1 m2 m0 q1, back_part V' hv2 hv0 hv1 m2 m0 m1 q2⟩
  unfold qBackS
  have := U.a0.lo; have := U.a0.hi; have := U.a1.lo; have := U.a1.hi; have := U.a2.lo; have := U.a2.hi
  dsimp only
  rw [minusS_in (by omega) (by omega), minusS_in (by omega) (by omega), minusS_in (by omega) (by omega)]
end Go.Proofs.Ytkeijfbpkdelpaa
