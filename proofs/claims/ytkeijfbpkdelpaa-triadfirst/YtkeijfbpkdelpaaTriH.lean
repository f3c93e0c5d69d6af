/-
  Of two directions, seen under an attitude, that attitude is found again, but for some last bits: for the seat Ytkeijfbpkdelpaa. No Go text in sight.
-/
import Derived.Test.YtkeijfbpkdelpaaTriE
namespace Go.Proofs.Ytkeijfbpkdelpaa
open Go.RowKit

set_option linter.unusedVariables false
theorem len_next (x y z s : Int) : y * y + z * z + x * x + s * s = x * x + y * y + z * z + s * s := by omega
/-- The unit of a unit. -/
theorem again {a b n : Int} (ha : Ab a 1099511627776) (h : Uof b a n) (hn : Ab (n - 1099511627776) 8) : Ab (b - a) 9 := by
  have id : 2 * (n * (b - a)) = 2 * (b * n - a * 1099511627776) - 2 * ((n - 1099511627776) * a) := by grind
  have k := (uof_ab h).sub (Ab.two.mul (hn.mul ha))
  rw [← id] at k
  have := k.lo; have := k.hi; have := hn.lo; have := hn.hi
  generalize b - a = d at *
  constructor
  · by_cases c : -9 ≤ d
    · exact c
    · have := Int.mul_le_mul_of_nonneg_left (by omega : d ≤ -10) (by omega : 0 ≤ n)
      omega
  · by_cases c : d ≤ 9
    · exact c
    · have := Int.mul_le_mul_of_nonneg_left (by omega : 10 ≤ d) (by omega : 0 ≤ n)
      omega
theorem again_cross {a1 a2 b1 b2 A1 A2 B1 B2 c C : Int} (ha1 : Ab a1 1099511627776) (ha2 : Ab a2 1099511627776) (hb1 : Ab b1 1099511627776) (hb2 : Ab b2 1099511627776) (e1 : Ab (A1 - a1) 9) (e2 : Ab (A2 - a2) 9) (f1 : Ab (B1 - b1) 9) (f2 : Ab (B2 - b2) 9)
    (hc : Ab (c * 1099511627776 - (a1 * b2 - a2 * b1)) 1099511627776) (hC : Ab (C * 1099511627776 - (A1 * B2 - A2 * B1)) 1099511627776) : Ab (C - c) 39 := by
  have k := cross_err ha1 ha2 hb1 hb2 e1 e2 f1 f2
  have := k.lo; have := k.hi; have := hc.lo; have := hc.hi; have := hC.lo; have := hC.hi
  constructor <;> omega
/-- Lengths of what is near one another. -/
theorem near_len {c0 c1 c2 C0 C1 C2 n N : Int} (h0 : Ab (C0 - c0) 39) (h1 : Ab (C1 - c1) 39) (h2 : Ab (C2 - c2) 39) (hn : 0 ≤ n) (n2 : c0 * c0 + c1 * c1 + c2 * c2 < (n + 1) * (n + 1)) (N1 : N * N ≤ C0 * C0 + C1 * C1 + C2 * C2) : N ≤ n + 200 := by
  have s0 := sq_nonneg c0
  have s1 := sq_nonneg c1
  have s2 := sq_nonneg c2
  have k0 := abs_le_of_sq (a := c0) hn (by omega)
  have k1 := abs_le_of_sq (a := c1) hn (by omega)
  have k2 := abs_le_of_sq (a := c2) hn (by omega)
  have m0 := ((⟨k0.1, k0.2⟩ : Ab c0 n).mul h0).hi
  have m1 := ((⟨k1.1, k1.2⟩ : Ab c1 n).mul h1).hi
  have m2 := ((⟨k2.1, k2.2⟩ : Ab c2 n).mul h2).hi
  have q0 := (h0.mul h0).hi
  have q1 := (h1.mul h1).hi
  have q2 := (h2.mul h2).hi
  have id : C0 * C0 + C1 * C1 + C2 * C2 = c0 * c0 + c1 * c1 + c2 * c2 + 2 * (c0 * (C0 - c0)) + 2 * (c1 * (C1 - c1)) + 2 * (c2 * (C2 - c2)) + ((C0 - c0) * (C0 - c0) + (C1 - c1) * (C1 - c1) + (C2 - c2) * (C2 - c2)) := by grind
  have e : (n + 1) * (n + 1) = n * n + 2 * n + 1 := by grind
  by_cases c : N ≤ n + 200
  · exact c
  · have p := sq_mono (by omega : 0 ≤ n + 200) (by omega : n + 200 ≤ N)
    have e2 : (n + 200) * (n + 200) = n * n + 400 * n + 40000 := by grind
    omega
/-- Parts of two units: what they are crossed to is as long as the sine says. -/
theorem parts_low {a0 a1 a2 b0 b1 b2 c0 c1 c2 n p0 p1 p2 m r0 r1 r2 m' s0 s1 : Int} (P : Un p0 p1 p2 m a0 a1 a2) (hm : 1099511627776 ≤ m) (P' : Un r0 r1 r2 m' b0 b1 b2) (hm' : 1099511627776 ≤ m') (C : Cr a0 a1 a2 b0 b1 b2 c0 c1 c2 n) (hs : vPartsS false (a0, a1, a2) (b0, b1, b2) = ((s0, s1), false)) (h : 300000000000 ≤ s0) : 299000000000 ≤ n := by
  obtain ⟨g0, g1, g2, M, e1, e2, _, _, e3⟩ := one_math (p0, p1, p2) m P.norm (by omega)
  rw [P.unit] at e1
  simp only [Prod.mk.injEq] at e1
  obtain ⟨⟨rfl, rfl, rfl⟩, _⟩ := e1
  have e4 := e3 hm
  obtain ⟨h0, h1, h2, M', f1, f2, _, _, f3⟩ := one_math (r0, r1, r2) m' P'.norm (by omega)
  rw [P'.unit] at f1
  simp only [Prod.mk.injEq] at f1
  obtain ⟨⟨rfl, rfl, rfl⟩, _⟩ := f1
  have f4 := f3 hm'
  obtain ⟨A0, A1, A2, Q⟩ := un_of e2 (by omega)
  obtain ⟨B0, B1, B2, Q'⟩ := un_of f2 (by omega)
  obtain ⟨C0, C1, C2, N, K⟩ := cr_of Q.b0 Q.b1 Q.b2 Q'.b0 Q'.b1 Q'.b2 Q.aa Q'.aa
  have hN : N = s0 := by
    unfold vPartsS at hs
    simp only [Q.unit, Q'.unit, K.cross, K.norm] at hs
    have := congrArg (fun t => t.1.1) hs
    exact this
  have w : Ab (M - 1099511627776) 8 := ⟨by omega, by omega⟩
  have w' : Ab (M' - 1099511627776) 8 := ⟨by omega, by omega⟩
  have x0 := again P.b0 Q.u0 w
  have x1 := again P.b1 Q.u1 w
  have x2 := again P.b2 Q.u2 w
  have y0 := again P'.b0 Q'.u0 w'
  have y1 := again P'.b1 Q'.u1 w'
  have y2 := again P'.b2 Q'.u2 w'
  have z0 := again_cross P.b1 P.b2 P'.b1 P'.b2 x1 x2 y1 y2 C.e0 K.e0
  have z1 := again_cross P.b2 P.b0 P'.b2 P'.b0 x2 x0 y2 y0 C.e1 K.e1
  have z2 := again_cross P.b0 P.b1 P'.b0 P'.b1 x0 x1 y0 y1 C.e2 K.e2
  have := near_len z0 z1 z2 C.n0 C.n2 K.n1
  omega
/-- What two turned units are crossed to is as long as ahead of the turn. -/
theorem n_low {x y z s c0 c1 c2 C0 C1 C2 n n' k : Int} (U : U4 x y z s) (g0 : Ab (1208925819614629174706176 * k * C0 - (x * x + y * y + z * z + s * s) * rvc x y z s c0 c1 c2) 138842655546435777229350059108046886867313591582720) (g1 : Ab (1208925819614629174706176 * k * C1 - (x * x + y * y + z * z + s * s) * rvc y z x s c1 c2 c0) 138842655546435777229350059108046886867313591582720) (g2 : Ab (1208925819614629174706176 * k * C2 - (x * x + y * y + z * z + s * s) * rvc z x y s c2 c0 c1) 138842655546435777229350059108046886867313591582720)
    (hk0 : 0 ≤ k) (hk : k ≤ 1208925821884021175500864) (hn : 299000000000 ≤ n) (n1 : n * n ≤ c0 * c0 + c1 * c1 + c2 * c2) (hn0 : 0 ≤ n') (n2 : C0 * C0 + C1 * C1 + C2 * C2 < (n' + 1) * (n' + 1)) : 274877906944 ≤ n' := by
  by_cases q : 274877906944 ≤ n'
  · exact q
  exfalso
  have l := rvc_len x y z s c0 c1 c2
  have sq1 := sq_mono (by omega : 0 ≤ n' + 1) (by omega : n' + 1 ≤ 274877906944)
  have s0 := sq_nonneg C0
  have s1 := sq_nonneg C1
  have s2 := sq_nonneg C2
  have b0 : Ab C0 274877906944 := root_le (by decide) (by omega)
  have b1 : Ab C1 274877906944 := root_le (by decide) (by omega)
  have b2 : Ab C2 274877906944 := root_le (by decide) (by omega)
  have kb : Ab k 1208925821884021175500864 := ⟨by omega, hk⟩
  have m0 := ((Ab.one80.mul kb).mul b0).mul g0
  have m1 := ((Ab.one80.mul kb).mul b1).mul g1
  have m2 := ((Ab.one80.mul kb).mul b2).mul g2
  have p0 := (g0.mul g0).hi
  have p1 := (g1.mul g1).hi
  have p2 := (g2.mul g2).hi
  have Dl : 1208925819600335523545088 ≤ (x * x + y * y + z * z + s * s) := by have := U.len.lo; omega
  have nn := sq_mono (by decide : (0 : Int) ≤ 299000000000) hn
  have d2 := Int.mul_le_mul Dl Dl (by decide) (by omega)
  have cc := Int.mul_le_mul (Int.mul_le_mul d2 d2 (by decide) (by omega)) (by omega : (299000000000 : Int) * 299000000000 ≤ c0 * c0 + c1 * c1 + c2 * c2) (by decide) (by have := Int.mul_nonneg (Int.mul_nonneg (by omega : 0 ≤ (x * x + y * y + z * z + s * s)) (by omega : 0 ≤ (x * x + y * y + z * z + s * s))) (Int.mul_nonneg (by omega : 0 ≤ (x * x + y * y + z * z + s * s)) (by omega : 0 ≤ (x * x + y * y + z * z + s * s))); exact this)
  have kk := Int.mul_le_mul hk hk hk0 (by decide)
  have kc := Int.mul_le_mul kk (by omega : C0 * C0 + C1 * C1 + C2 * C2 ≤ 274877906944 * 274877906944) (by omega) (by decide)
  generalize (x * x + y * y + z * z + s * s) = D at *
  generalize rvc x y z s c0 c1 c2 = R0 at *
  generalize rvc y z x s c1 c2 c0 = R1 at *
  generalize rvc z x y s c2 c0 c1 = R2 at *
  have id : D * D * (D * D) * (c0 * c0 + c1 * c1 + c2 * c2) = 1461501637330902918203684832716283019655932542976 * (k * k * (C0 * C0 + C1 * C1 + C2 * C2)) - 2 * (1208925819614629174706176 * k * C0 * (1208925819614629174706176 * k * C0 - D * R0)) - 2 * (1208925819614629174706176 * k * C1 * (1208925819614629174706176 * k * C1 - D * R1)) - 2 * (1208925819614629174706176 * k * C2 * (1208925819614629174706176 * k * C2 - D * R2))
      + ((1208925819614629174706176 * k * C0 - D * R0) * (1208925819614629174706176 * k * C0 - D * R0) + (1208925819614629174706176 * k * C1 - D * R1) * (1208925819614629174706176 * k * C1 - D * R1) + (1208925819614629174706176 * k * C2 - D * R2) * (1208925819614629174706176 * k * C2 - D * R2)) := by
    have l2 : D * D * (D * D) * (c0 * c0 + c1 * c1 + c2 * c2) = D * D * (R0 * R0 + R1 * R1 + R2 * R2) := by rw [l]; grind
    rw [l2]; grind
  rw [id] at cc
  have := m0.lo; have := m1.lo; have := m2.lo
  generalize 1208925819614629174706176 * k * C0 * (1208925819614629174706176 * k * C0 - D * R0) = z0 at *
  generalize 1208925819614629174706176 * k * C1 * (1208925819614629174706176 * k * C1 - D * R1) = z1 at *
  generalize 1208925819614629174706176 * k * C2 * (1208925819614629174706176 * k * C2 - D * R2) = z2 at *
  generalize (1208925819614629174706176 * k * C0 - D * R0) * (1208925819614629174706176 * k * C0 - D * R0) = y0 at *
  generalize (1208925819614629174706176 * k * C1 - D * R1) * (1208925819614629174706176 * k * C1 - D * R1) = y1 at *
  generalize (1208925819614629174706176 * k * C2 - D * R2) * (1208925819614629174706176 * k * C2 - D * R2) = y2 at *
  generalize k * k * (C0 * C0 + C1 * C1 + C2 * C2) = kkC at *
  clear l id
  omega
theorem dot_low {K L Q RR E c r b : Int} (h : L * RR - 3 * E ≤ K * Q) (hK : 0 < K) (hc : 0 ≤ c) (hL : c ≤ L) (hr : 0 ≤ r) (hR : r ≤ RR) (hb : 0 ≤ b) (hKb : K ≤ b) {q : Int} (hq : 0 ≤ q) (hlow : b * (q - 1) < c * r - 3 * E) (hb2 : 3 * E ≤ c * r) : q ≤ Q := by
  have g := Int.mul_le_mul hL hR hr (by omega)
  by_cases k : q ≤ Q
  · exact k
  · have g2 := Int.mul_le_mul_of_nonneg_left (by omega : Q ≤ q - 1) (by omega : 0 ≤ K)
    by_cases z : q = 0
    · subst z
      have : K * (0 - 1) = -K := by grind
      generalize c * r = cr at *
      generalize L * RR = lr at *
      omega
    · have g3 := Int.mul_le_mul_of_nonneg_right hKb (by omega : 0 ≤ q - 1)
      generalize c * r = cr at *
      generalize L * RR = lr at *
      generalize K * (q - 1) = kq at *
      generalize b * (q - 1) = bq at *
      omega
/-- Of two directions, seen under an attitude, that attitude is found again. -/
theorem both_math {x y z s p0 p1 p2 m a0 a1 a2 r0 r1 r2 m' b0 b1 b2 s0 s1 : Int} (U : U4 x y z s) (P : Un p0 p1 p2 m a0 a1 a2) (hm : 1099511627776 ≤ m) (P' : Un r0 r1 r2 m' b0 b1 b2) (hm' : 1099511627776 ≤ m') (hs : vPartsS false (a0, a1, a2) (b0, b1, b2) = ((s0, s1), false)) (h : 300000000000 ≤ s0) :
    ∃ t0 t1 t2 nx X0 X1 X2 f0 f1 f2 ny Y0 Y1 Y2 c0 c1 c2 n C0 C1 C2 n' v0 v1 v2 w0 w1 w2 V0 V1 V2 W0 W1 W2, Tu x y z s a0 a1 a2 t0 t1 t2 nx X0 X1 X2 ∧ Tu x y z s b0 b1 b2 f0 f1 f2 ny Y0 Y1 Y2 ∧ Cr a0 a1 a2 b0 b1 b2 c0 c1 c2 n ∧ Cr X0 X1 X2 Y0 Y1 Y2 C0 C1 C2 n' ∧ 190928190487 ≤ n ∧ 190928190487 ≤ n' ∧
      Ff a0 a1 a2 c0 c1 c2 n v0 v1 v2 w0 w1 w2 ∧ Ff X0 X1 X2 C0 C1 C2 n' V0 V1 V2 W0 W1 W2 ∧
      ∀ m00 m01 m02 m10 m11 m12 m20 m21 m22 : Int, Pl m00 X0 V0 W0 a0 v0 w0 → Pl m01 X0 V0 W0 a1 v1 w1 → Pl m02 X0 V0 W0 a2 v2 w2 → Pl m10 X1 V1 W1 a0 v0 w0 → Pl m11 X1 V1 W1 a1 v1 w1 → Pl m12 X1 V1 W1 a2 v2 w2 → Pl m20 X2 V2 W2 a0 v0 w0 → Pl m21 X2 V2 W2 a1 v1 w1 → Pl m22 X2 V2 W2 a2 v2 w2 → ∃ q0 q1 q2 q3 d0 d1 d2 d3, qFromMatrixS false (m00, m01, m02, m10, m11, m12, m20, m21, m22) = ((q0, q1, q2, q3), false) ∧ qMulS false (q0, q1, q2, q3) (-x, -y, -z, s) = ((d0, d1, d2, d3), false) ∧ Ab d0 4096 ∧ Ab d1 4096 ∧ Ab d2 4096 := by
  obtain ⟨t0, t1, t2, nx, X0, X1, X2, TX⟩ := tu_of U P hm
  obtain ⟨f0, f1, f2, ny, Y0, Y1, Y2, TY⟩ := tu_of U P' hm'
  obtain ⟨c0, c1, c2, n, C⟩ := cr_of P.b0 P.b1 P.b2 P'.b0 P'.b1 P'.b2 P.aa P'.aa
  obtain ⟨C0, C1, C2, n', C'⟩ := cr_of TX.un.b0 TX.un.b1 TX.un.b2 TY.un.b0 TY.un.b1 TY.un.b2 TX.un.aa TY.un.aa
  have hn := parts_low P hm P' hm' C hs h
  have nx1 := TX.near.lo
  have nx2 := TX.near.hi
  have ny1 := TY.near.lo
  have ny2 := TY.near.hi
  have Bx : Ab nx 1099511628808 := ⟨by omega, by omega⟩
  have By : Ab ny 1099511628808 := ⟨by omega, by omega⟩
  have aa := P.aa.hi
  have bb := P'.aa.hi
  have RA0 := rvc_bd (p0 := a0) (p1 := a1) (p2 := a2) U (by omega)
  have RA1 := rvc_bd (p0 := a1) (p1 := a2) (p2 := a0) U.next (by omega)
  have RA2 := rvc_bd (p0 := a2) (p1 := a0) (p2 := a1) U.next.next (by omega)
  have RB0 := rvc_bd (p0 := b0) (p1 := b1) (p2 := b2) U (by omega)
  have RB1 := rvc_bd (p0 := b1) (p1 := b2) (p2 := b0) U.next (by omega)
  have RB2 := rvc_bd (p0 := b2) (p1 := b0) (p2 := b1) U.next.next (by omega)
  have g0 := c_turn U RA1 RA2 RB1 RB2 TX.h1 TX.h2 TY.h1 TY.h2 Bx By C'.e0 C.e0 C.e1 C.e2
  have g1 := c_turn U.next RA2 RA0 RB2 RB0 TX.h2 TX.h0 TY.h2 TY.h0 Bx By C'.e1 C.e1 C.e2 C.e0
  have g2 := c_turn U.next.next RA0 RA1 RB0 RB1 TX.h0 TX.h1 TY.h0 TY.h1 Bx By C'.e2 C.e2 C.e0 C.e1
  rw [len_next] at g1
  rw [len_next, len_next] at g2
  have kl : 1208925817345237176041536 ≤ nx * ny := Int.mul_le_mul (by omega : 1099511626744 ≤ nx) (by omega : 1099511626744 ≤ ny) (by decide) (by omega)
  have ku : nx * ny ≤ 1208925821884021175500864 := Int.mul_le_mul (by omega : nx ≤ 1099511628808) (by omega : ny ≤ 1099511628808) (by omega) (by decide)
  have hn' := n_low U g0 g1 g2 (by omega) ku hn C.n1 C'.n0 C'.n2
  obtain ⟨v0, v1, v2, w0, w1, w2, G⟩ := ff_of P.b0 P.b1 P.b2 P.aa C (by omega)
  obtain ⟨V0, V1, V2, W0, W1, W2, F⟩ := ff_of TX.un.b0 TX.un.b1 TX.un.b2 TX.un.aa C' (by omega)
  refine ⟨t0, t1, t2, nx, X0, X1, X2, f0, f1, f2, ny, Y0, Y1, Y2, c0, c1, c2, n, C0, C1, C2, n', v0, v1, v2, w0, w1, w2, V0, V1, V2, W0, W1, W2, TX, TY, C, C', by omega, by omega, G, F, ?_⟩
  intro m00 m01 m02 m10 m11 m12 m20 m21 m22 p00 p01 p02 p10 p11 p12 p20 p21 p22
  obtain ⟨q0, q1, q2, q3, eq, Q, S⟩ := near_rot (rot_of F.fr G.fr p00 p01 p02 p10 p11 p12 p20 p21 p22)
  have hk := Bx.mul By
  have h0 := v_turn U g0 hk C.up C.n0 C'.up F.u0 G.u0 G.u1 G.u2
  have h1 := v_turn U.next (by rw [len_next]; exact g1) hk C.up C.n0 C'.up F.u1 G.u1 G.u2 G.u0
  have h2 := v_turn U.next.next (by rw [len_next, len_next]; exact g2) hk C.up C.n0 C'.up F.u2 G.u2 G.u0 G.u1
  rw [len_next] at h1
  rw [len_next, len_next] at h2
  have vv := G.fr.vv.hi
  have RV0 := rvc_bd (p0 := v0) (p1 := v1) (p2 := v2) U (by omega)
  have RV1 := rvc_bd (p0 := v1) (p1 := v2) (p2 := v0) U.next (by omega)
  have RV2 := rvc_bd (p0 := v2) (p1 := v0) (p2 := v1) U.next.next (by omega)
  have ww := (fr_ww G.fr).hi
  have RW0 := rvc_bd (p0 := w0) (p1 := w1) (p2 := w2) U (by omega)
  have RW1 := rvc_bd (p0 := w1) (p1 := w2) (p2 := w0) U.next (by omega)
  have RW2 := rvc_bd (p0 := w2) (p1 := w0) (p2 := w1) U.next.next (by omega)
  have Bn : Ab n 1099511627808 := ⟨by omega, C.up⟩
  have Bn' : Ab n' 1099511627808 := ⟨by omega, C'.up⟩
  have o0 := w_turn U RA1 RA2 RV1 RV2 TX.h1 TX.h2 h1 h2 Bx hk Bn Bn' F.fr.o0 G.fr.o0 G.fr.o1 G.fr.o2
  have o1 := w_turn U.next RA2 RA0 RV2 RV0 TX.h2 TX.h0 (by rw [len_next]; exact h2) (by rw [len_next]; exact h0) Bx hk Bn Bn' F.fr.o1 G.fr.o1 G.fr.o2 G.fr.o0
  have o2 := w_turn U.next.next RA0 RA1 RV0 RV1 TX.h0 TX.h1 (by rw [len_next, len_next]; exact h0) (by rw [len_next, len_next]; exact h1) Bx hk Bn Bn' F.fr.o2 G.fr.o2 G.fr.o0 G.fr.o1
  rw [len_next] at o1
  rw [len_next, len_next] at o2
  have z0 : Ab (1099511627776 * nx * X0 - 1 * rvc x y z s a0 a1 a2) 26596368031521841843535872 := by rw [Int.one_mul]; exact TX.h0
  have z1 : Ab (1099511627776 * nx * X1 - 1 * rvc y z x s a1 a2 a0) 26596368031521841843535872 := by rw [Int.one_mul]; exact TX.h1
  have z2 : Ab (1099511627776 * nx * X2 - 1 * rvc z x y s a2 a0 a1) 26596368031521841843535872 := by rw [Int.one_mul]; exact TX.h2
  have kX : 1208925818479933174841344 ≤ 1099511627776 * nx := by omega
  have kn := Int.mul_le_mul kl hn' (by decide) (by omega)
  have kV : 401734510310612724376659546537897837604824762945240442077184 ≤ 1208925819614629174706176 * (nx * ny) * n' := by
    have e : 1208925819614629174706176 * (nx * ny) * n' = 1208925819614629174706176 * (nx * ny * n') := Int.mul_assoc _ _ _
    rw [e]
    omega
  have kW : 533996757476601799427342021448076690360451065242908756169035045072335996165491872542017187741696 ≤ 1461501637330902918203684832716283019655932542976 * (nx * (nx * ny) * n') := by
    have e : nx * (nx * ny) * n' = nx * (nx * ny * n') := Int.mul_assoc _ _ _
    have := Int.mul_le_mul (by omega : 1099511626744 ≤ nx) kn (by decide) (by omega)
    rw [e]
    omega
  have D0 : 1208925819600335523545088 ≤ (x * x + y * y + z * z + s * s) := by have := U.len.lo; omega
  have D1 : 1461501637296342990313481328484298908419168927744 ≤ (x * x + y * y + z * z + s * s) * (x * x + y * y + z * z + s * s) := Int.mul_le_mul D0 D0 (by decide) (by omega)
  have la := rvc_len x y z s a0 a1 a2
  have lv := rvc_len x y z s v0 v1 v2
  have lw := rvc_len x y z s w0 w1 w2
  have ra : 1461501637296342990313481328484298908419168927744 * 1208925819608032104939520 ≤ rvc x y z s a0 a1 a2 * rvc x y z s a0 a1 a2 + rvc y z x s a1 a2 a0 * rvc y z x s a1 a2 a0 + rvc z x y s a2 a0 a1 * rvc z x y s a2 a0 a1 := by rw [la]; exact Int.mul_le_mul D1 (by have := P.aa.lo; omega) (by decide) (by omega)
  have rv : 1461501637296342990313481328484298908419168927744 * 1208925819598136500289536 ≤ rvc x y z s v0 v1 v2 * rvc x y z s v0 v1 v2 + rvc y z x s v1 v2 v0 * rvc y z x s v1 v2 v0 + rvc z x y s v2 v0 v1 * rvc z x y s v2 v0 v1 := by rw [lv]; exact Int.mul_le_mul D1 (by have := G.fr.vv.lo; omega) (by decide) (by omega)
  have rw' : 1461501637296342990313481328484298908419168927744 * 1208925819576146267734016 ≤ rvc x y z s w0 w1 w2 * rvc x y z s w0 w1 w2 + rvc y z x s w1 w2 w0 * rvc y z x s w1 w2 w0 + rvc z x y s w2 w0 w1 * rvc z x y s w2 w0 w1 := by rw [lw]; exact Int.mul_le_mul D1 (by have := (fr_ww G.fr).lo; omega) (by decide) (by omega)
  have lV : 361468820060500321539981312000000000 ≤ (x * x + y * y + z * z + s * s) * n := Int.mul_le_mul D0 hn (by decide) (by omega)
  have lW : 480474475222076378658503393543747179848576013220812864257785856000000000 ≤ 1099511627776 * (x * x + y * y + z * z + s * s) * ((x * x + y * y + z * z + s * s) * n) := Int.mul_le_mul (by omega : 1099511627776 * 1208925819600335523545088 ≤ 1099511627776 * (x * x + y * y + z * z + s * s)) lV (by decide) (by omega)
  have dX : 1446886620957593889021647984389120189459373217546 ≤ X0 * rvc x y z s a0 a1 a2 + X1 * rvc y z x s a1 a2 a0 + X2 * rvc z x y s a2 a0 a1 := dot_low (c := 1) (b := 1208925820749325174571008) (along_dot z0 z1 z2 RA0 RA1 RA2) (by omega) (by decide) (by decide) (by decide) ra (by decide) (by omega) (by decide) (by decide) (by decide)
  have dV : 0 ≤ V0 * rvc x y z s v0 v1 v2 + V1 * rvc y z x s v1 v2 v0 + V2 * rvc z x y s v2 v0 v1 := dot_low (b := 1208925819614629174706176 * (nx * ny) * n') (along_dot h0 h1 h2 RV0 RV1 RV2) (by omega) (by decide) lV (by decide) rv (by omega) (by omega) (by decide) (by omega) (by decide)
  have dW : 0 ≤ W0 * rvc x y z s w0 w1 w2 + W1 * rvc y z x s w1 w2 w0 + W2 * rvc z x y s w2 w0 w1 := dot_low (b := 1461501637330902918203684832716283019655932542976 * (nx * (nx * ny) * n')) (along_dot o0 o1 o2 RW0 RW1 RW2) (by omega) (by decide) lW (by decide) rw' (by omega) (by omega) (by decide) (by omega) (by decide)
  obtain ⟨d0, d1, d2, d3, ed, k0, k1, k2⟩ := found Q U S p00 p01 p02 p10 p11 p12 p20 p21 p22
    (along_cross z1 z2 RA1 RA2 (by decide) kX (by decide) (by decide)) (along_cross z2 z0 RA2 RA0 (by decide) kX (by decide) (by decide)) (along_cross z0 z1 RA0 RA1 (by decide) kX (by decide) (by decide)) (along_cross h1 h2 RV1 RV2 (by decide) kV (by decide) (by decide)) (along_cross h2 h0 RV2 RV0 (by decide) kV (by decide) (by decide)) (along_cross h0 h1 RV0 RV1 (by decide) kV (by decide) (by decide)) (along_cross o1 o2 RW1 RW2 (by decide) kW (by decide) (by decide)) (along_cross o2 o0 RW2 RW0 (by decide) kW (by decide) (by decide)) (along_cross o0 o1 RW0 RW1 (by decide) kW (by decide) (by decide)) dX dV dW
  exact ⟨q0, q1, q2, q3, d0, d1, d2, d3, eq, ed, k0, k1, k2⟩
end Go.Proofs.Ytkeijfbpkdelpaa
