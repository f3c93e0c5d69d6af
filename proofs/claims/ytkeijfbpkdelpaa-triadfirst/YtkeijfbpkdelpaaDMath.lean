/-
  Attitudes of two directions: what the laws of closeness lean on, for the seat Ytkeijfbpkdelpaa. No Go text in sight.
-/
import Derived.Test.YtkeijfbpkdelpaaDSpec
import Derived.Test.YtkeijfbpkdelpaaTriH
import Derived.Test.YtkeijfbpkdelpaaDHelp
namespace Go.Proofs.Ytkeijfbpkdelpaa
open Go.RowKit

theorem pl_place {X V W a v w : Int} (hX : Ab X 1099511627776) (hV : Ab V 1099511627776) (hW : Ab W 1099511627840) (ha : Ab a 1099511627776) (hv : Ab v 1099511627776) (hw : Ab w 1099511627840) :
    ∃ m, plS false X a V v W w = (m, false) ∧ Pl m X V W a v w := by
  obtain ⟨p1, p2, p3, e1, e2, e3, s1, s2, h⟩ := place_math hX hV hW ha hv hw
  exact ⟨p1 + p2 + p3, by unfold plS; simp only [e1, e2, e3, s1, s2], h⟩
theorem between_good {x0 x1 x2 y0 y1 y2 z0 z1 z2 u0 u1 u2 v0 v1 v2 w0 w1 w2 : Int} (F : Fr x0 x1 x2 y0 y1 y2 z0 z1 z2) (G : Fr u0 u1 u2 v0 v1 v2 w0 w1 w2) :
    ∃ m00 m01 m02 m10 m11 m12 m20 m21 m22, dbetweenS false (u0, u1, u2, v0, v1, v2, w0, w1, w2) (x0, x1, x2, y0, y1, y2, z0, z1, z2) = ((m00, m01, m02, m10, m11, m12, m20, m21, m22), false) ∧
      Pl m00 x0 y0 z0 u0 v0 w0 ∧ Pl m01 x0 y0 z0 u1 v1 w1 ∧ Pl m02 x0 y0 z0 u2 v2 w2 ∧ Pl m10 x1 y1 z1 u0 v0 w0 ∧ Pl m11 x1 y1 z1 u1 v1 w1 ∧ Pl m12 x1 y1 z1 u2 v2 w2 ∧ Pl m20 x2 y2 z2 u0 v0 w0 ∧ Pl m21 x2 y2 z2 u1 v1 w1 ∧ Pl m22 x2 y2 z2 u2 v2 w2 := by
  obtain ⟨m00, e00, h00⟩ := pl_place F.u0' F.v0' F.w0' G.u0' G.v0' G.w0'
  obtain ⟨m01, e01, h01⟩ := pl_place F.u0' F.v0' F.w0' G.u1' G.v1' G.w1'
  obtain ⟨m02, e02, h02⟩ := pl_place F.u0' F.v0' F.w0' G.u2' G.v2' G.w2'
  obtain ⟨m10, e10, h10⟩ := pl_place F.u1' F.v1' F.w1' G.u0' G.v0' G.w0'
  obtain ⟨m11, e11, h11⟩ := pl_place F.u1' F.v1' F.w1' G.u1' G.v1' G.w1'
  obtain ⟨m12, e12, h12⟩ := pl_place F.u1' F.v1' F.w1' G.u2' G.v2' G.w2'
  obtain ⟨m20, e20, h20⟩ := pl_place F.u2' F.v2' F.w2' G.u0' G.v0' G.w0'
  obtain ⟨m21, e21, h21⟩ := pl_place F.u2' F.v2' F.w2' G.u1' G.v1' G.w1'
  obtain ⟨m22, e22, h22⟩ := pl_place F.u2' F.v2' F.w2' G.u2' G.v2' G.w2'
  refine ⟨m00, m01, m02, m10, m11, m12, m20, m21, m22, ?_, h00, h01, h02, h10, h11, h12, h20, h21, h22⟩
  unfold dbetweenS
  simp only [e00, e01, e02, e10, e11, e12, e20, e21, e22]
theorem dot_good {a0 a1 a2 b0 b1 b2 : Int} (ha0 : Ab a0 1099511627776) (ha1 : Ab a1 1099511627776) (ha2 : Ab a2 1099511627776) (hb0 : Ab b0 1099511627776) (hb1 : Ab b1 1099511627776) (hb2 : Ab b2 1099511627776) : ∃ d, vDotS false (a0, a1, a2) (b0, b1, b2) = (d, false) := by
  have w : ∀ {x : Int}, Ab x 1099511627776 → -2199023255554 ≤ x ∧ x ≤ 2199023255554 := fun h => ⟨by have := h.lo; omega, by have := h.hi; omega⟩
  obtain ⟨d, ed⟩ := dot_one (a0, a1, a2) (b0, b1, b2) (w ha0) (w ha1) (w ha2) (w hb0) (w hb1) (w hb2)
  exact ⟨d, ed.1⟩
theorem apart_is {p0 p1 p2 m a0 a1 a2 r0 r1 r2 m' b0 b1 b2 c0 c1 c2 n : Int} (P : Un p0 p1 p2 m a0 a1 a2) (P' : Un r0 r1 r2 m' b0 b1 b2) (C : Cr a0 a1 a2 b0 b1 b2 c0 c1 c2 n) :
    dApartS false (p0, p1, p2) (r0, r1, r2) = (decide (n ≥ 190928190487), false) := by
  obtain ⟨d, ed⟩ := dot_good P.b0 P.b1 P.b2 P'.b0 P'.b1 P'.b2
  unfold dApartS vPartsS
  simp only [P.unit, P'.unit, C.cross, C.norm, ed]
theorem axes_is {p0 p1 p2 m a0 a1 a2 r0 r1 r2 m' b0 b1 b2 c0 c1 c2 n v0 v1 v2 w0 w1 w2 : Int} (P : Un p0 p1 p2 m a0 a1 a2) (P' : Un r0 r1 r2 m' b0 b1 b2) (C : Cr a0 a1 a2 b0 b1 b2 c0 c1 c2 n) (F : Ff a0 a1 a2 c0 c1 c2 n v0 v1 v2 w0 w1 w2) :
    daxesS false (p0, p1, p2, r0, r1, r2) = ((a0, a1, a2, v0, v1, v2, w0, w1, w2), false) := by
  unfold daxesS
  simp only [P.unit, P'.unit, C.cross, F.unit, F.cross]
theorem att_is {p0 p1 p2 p3 p4 p5 q0 q1 q2 q3 q4 q5 : Int} {s t m : V9} {r : V4 × Bool} (hp : dApartS false (p0, p1, p2) (p3, p4, p5) = (true, false)) (hq : dApartS false (q0, q1, q2) (q3, q4, q5) = (true, false)) (hs : daxesS false (p0, p1, p2, p3, p4, p5) = (s, false)) (ht : daxesS false (q0, q1, q2, q3, q4, q5) = (t, false)) (hm : dbetweenS false s t = (m, false)) (hr : qFromMatrixS false m = r) : dAttitudeS false (p0, p1, p2, p3, p4, p5) (q0, q1, q2, q3, q4, q5) = r := by
  unfold dAttitudeS
  simp only [hp, hq, hs, ht, hm, hr, if_true]
theorem att_no1 {p0 p1 p2 p3 p4 p5 : Int} {q : V6} (hp : dApartS false (p0, p1, p2) (p3, p4, p5) = (false, false)) : dAttitudeS false (p0, p1, p2, p3, p4, p5) q = ((0, 0, 0, 0), true) := by
  unfold dAttitudeS
  simp only [hp]
  rw [if_neg (by decide)]
theorem att_no2 {p0 p1 p2 p3 p4 p5 q0 q1 q2 q3 q4 q5 : Int} (hp : dApartS false (p0, p1, p2) (p3, p4, p5) = (true, false)) (hq : dApartS false (q0, q1, q2) (q3, q4, q5) = (false, false)) : dAttitudeS false (p0, p1, p2, p3, p4, p5) (q0, q1, q2, q3, q4, q5) = ((0, 0, 0, 0), true) := by
  unfold dAttitudeS
  simp only [hp, hq, if_true]
  rw [if_neg (by decide)]
set_option maxHeartbeats 1000000 in
theorem first_law {p q : V6} (l0 : longS (p.1, p.2.1, p.2.2.1) = true) (l1 : longS p.2.2.2 = true) (l2 : longS (q.1, q.2.1, q.2.2.1) = true) (l3 : longS q.2.2.2 = true) :
    dAttitudeS false p q = ((0, 0, 0, 0), true) ∨ ∃ a0 a1 a2 a3 u0 u1 u2 t0 t1 t2 x0 x1 x2, dAttitudeS false p q = ((a0, a1, a2, a3), false) ∧ vUnitS false (p.1, p.2.1, p.2.2.1) = ((u0, u1, u2), false) ∧ qTurnS false (a0, a1, a2, a3) (u0, u1, u2) = ((t0, t1, t2), false) ∧ vUnitS false (q.1, q.2.1, q.2.2.1) = ((x0, x1, x2), false) ∧ Ab (t0 - x0) 4096 ∧ Ab (t1 - x1) 4096 ∧ Ab (t2 - x2) 4096 := by
  obtain ⟨p0, p1, p2, p3, p4, p5⟩ := p
  obtain ⟨q0, q1, q2, q3, q4, q5⟩ := q
  dsimp only at l0 l1 l2 l3 ⊢
  obtain ⟨n0, e0, g0⟩ := long_get l0
  obtain ⟨n1, e1, g1⟩ := long_get l1
  obtain ⟨n2, e2, g2⟩ := long_get l2
  obtain ⟨n3, e3, g3⟩ := long_get l3
  obtain ⟨a0, a1, a2, P⟩ := un_of e0 (by omega)
  obtain ⟨b0, b1, b2, P'⟩ := un_of e1 (by omega)
  obtain ⟨x0, x1, x2, Q⟩ := un_of e2 (by omega)
  obtain ⟨y0, y1, y2, Q'⟩ := un_of e3 (by omega)
  obtain ⟨c0, c1, c2, n, C⟩ := cr_of P.b0 P.b1 P.b2 P'.b0 P'.b1 P'.b2 P.aa P'.aa
  obtain ⟨d0, d1, d2, o, D⟩ := cr_of Q.b0 Q.b1 Q.b2 Q'.b0 Q'.b1 Q'.b2 Q.aa Q'.aa
  have hp := apart_is P P' C
  have hq := apart_is Q Q' D
  by_cases fp : n ≥ 190928190487
  · rw [decide_eq_true fp] at hp
    by_cases fq : o ≥ 190928190487
    · rw [decide_eq_true fq] at hq
      right
      obtain ⟨v0, v1, v2, w0, w1, w2, F⟩ := ff_of P.b0 P.b1 P.b2 P.aa C fp
      obtain ⟨V0, V1, V2, W0, W1, W2, G⟩ := ff_of Q.b0 Q.b1 Q.b2 Q.aa D fq
      obtain ⟨m00, m01, m02, m10, m11, m12, m20, m21, m22, hm, h00, h01, h02, h10, h11, h12, h20, h21, h22⟩ := between_good G.fr F.fr
      obtain ⟨k0, k1, k2, k3, t0, t1, t2, ek, _, _, et, j0, j1, j2⟩ := first_math G.fr F.fr h00 h01 h02 h10 h11 h12 h20 h21 h22
      have ha := att_is hp hq (axes_is P P' C F) (axes_is Q Q' D G) hm ek
      exact ⟨k0, k1, k2, k3, a0, a1, a2, t0, t1, t2, x0, x1, x2, ha, P.unit, et, Q.unit, j0, j1, j2⟩
    · rw [decide_eq_false fq] at hq
      exact Or.inl (att_no2 hp hq)
  · rw [decide_eq_false fp] at hp
    exact Or.inl (att_no1 hp)
theorem parts_good {p0 p1 p2 m a0 a1 a2 r0 r1 r2 m' b0 b1 b2 : Int} (P : Un p0 p1 p2 m a0 a1 a2) (P' : Un r0 r1 r2 m' b0 b1 b2) : ∃ s0 s1, vPartsS false (a0, a1, a2) (b0, b1, b2) = ((s0, s1), false) := by
  have again : ∀ {x0 x1 x2 : Int}, Ab x0 1099511627776 → Ab x1 1099511627776 → Ab x2 1099511627776 → Ab (x0 * x0 + x1 * x1 + x2 * x2 - 1208925819614629174706176) 6597069766656 → ∃ n u0 u1 u2, Un x0 x1 x2 n u0 u1 u2 := by
    intro x0 x1 x2 h0 h1 h2 h
    obtain ⟨n, en, n0, n1, n2⟩ := norm_near h0 h1 h2 (by decide)
    have hn : 1000000000000 ≤ n := by
      apply Classical.byContradiction
      intro c
      have c' : n + 1 ≤ 1000000000000 := by omega
      have := Int.mul_le_mul c' c' (by omega) (by decide)
      have := h.lo
      omega
    obtain ⟨u0, u1, u2, U⟩ := un_of en hn
    exact ⟨n, u0, u1, u2, U⟩
  obtain ⟨_, u0, u1, u2, U⟩ := again P.b0 P.b1 P.b2 P.aa
  obtain ⟨_, v0, v1, v2, V⟩ := again P'.b0 P'.b1 P'.b2 P'.aa
  obtain ⟨c0, c1, c2, n, C⟩ := cr_of U.b0 U.b1 U.b2 V.b0 V.b1 V.b2 U.aa V.aa
  obtain ⟨d, ed⟩ := dot_good U.b0 U.b1 U.b2 V.b0 V.b1 V.b2
  exact ⟨n, d, by unfold vPartsS; simp only [U.unit, V.unit, C.cross, C.norm, ed]⟩
set_option maxHeartbeats 1000000 in
theorem both_law {o0 o1 o2 o3 : Int} {p : V6} (U : U4 o0 o1 o2 o3) (l0 : longS (p.1, p.2.1, p.2.2.1) = true) (l1 : longS p.2.2.2 = true) :
    ∃ a0 a1 a2 b0 b1 b2 t0 t1 t2 y0 y1 y2 s0 s1, vUnitS false (p.1, p.2.1, p.2.2.1) = ((a0, a1, a2), false) ∧ vUnitS false p.2.2.2 = ((b0, b1, b2), false) ∧ qTurnS false (o0, o1, o2, o3) (a0, a1, a2) = ((t0, t1, t2), false) ∧ qTurnS false (o0, o1, o2, o3) (b0, b1, b2) = ((y0, y1, y2), false) ∧ vPartsS false (a0, a1, a2) (b0, b1, b2) = ((s0, s1), false) ∧
      (300000000000 ≤ s0 → ∃ u0 u1 u2 u3 x0 x1 x2 x3, dAttitudeS false p (t0, t1, t2, y0, y1, y2) = ((u0, u1, u2, u3), false) ∧ qBackS (o0, o1, o2, o3) = (-o0, -o1, -o2, o3) ∧ qMulS false (u0, u1, u2, u3) (-o0, -o1, -o2, o3) = ((x0, x1, x2, x3), false) ∧ Ab x0 4096 ∧ Ab x1 4096 ∧ Ab x2 4096) := by
  obtain ⟨p0, p1, p2, p3, p4, p5⟩ := p
  dsimp only at l0 l1 ⊢
  obtain ⟨n0, e0, g0⟩ := long_get l0
  obtain ⟨n1, e1, g1⟩ := long_get l1
  obtain ⟨a0, a1, a2, P⟩ := un_of e0 (by omega)
  obtain ⟨b0, b1, b2, P'⟩ := un_of e1 (by omega)
  obtain ⟨t0, t1, t2, _, _, _, _, T⟩ := tu_of U P g0
  obtain ⟨y0, y1, y2, _, _, _, _, Y⟩ := tu_of U P' g1
  obtain ⟨s0, s1, S⟩ := parts_good P P'
  refine ⟨a0, a1, a2, b0, b1, b2, t0, t1, t2, y0, y1, y2, s0, s1, P.unit, P'.unit, T.turn, Y.turn, S, fun h => ?_⟩
  have eT := T.turn
  have eY := Y.turn
  clear T Y
  obtain ⟨t0', t1', t2', nx, X0, X1, X2, f0, f1, f2, ny, Y0, Y1, Y2, c0, c1, c2, n, C0, C1, C2, n', v0, v1, v2, w0, w1, w2, V0, V1, V2, W0, W1, W2, TX, TY, C, D, fp, fq, F, G, H⟩ := both_math U P g0 P' g1 S h
  rw [TX.turn] at eT
  rw [TY.turn] at eY
  simp only [Prod.mk.injEq, and_true] at eT eY
  obtain ⟨rfl, rfl, rfl⟩ := eT
  obtain ⟨rfl, rfl, rfl⟩ := eY
  obtain ⟨m00, m01, m02, m10, m11, m12, m20, m21, m22, hm, h00, h01, h02, h10, h11, h12, h20, h21, h22⟩ := between_good G.fr F.fr
  obtain ⟨k0, k1, k2, k3, d0, d1, d2, d3, ek, ed, j0, j1, j2⟩ := H m00 m01 m02 m10 m11 m12 m20 m21 m22 h00 h01 h02 h10 h11 h12 h20 h21 h22
  have hp := apart_is P P' C
  have hq := apart_is TX.un TY.un D
  rw [decide_eq_true (show n ≥ 190928190487 from fp)] at hp
  rw [decide_eq_true (show n' ≥ 190928190487 from fq)] at hq
  have hb : qBackS (o0, o1, o2, o3) = (-o0, -o1, -o2, o3) := by
    unfold qBackS
    have := U.a0.lo; have := U.a0.hi; have := U.a1.lo; have := U.a1.hi; have := U.a2.lo; have := U.a2.hi
    dsimp only
    rw [minusS_in (by omega) (by omega), minusS_in (by omega) (by omega), minusS_in (by omega) (by omega)]
  have ha := att_is hp hq (axes_is P P' C F) (axes_is TX.un TY.un D G) hm ek
  exact ⟨k0, k1, k2, k3, d0, d1, d2, d3, ha, hb, ed, j0, j1, j2⟩
end Go.Proofs.Ytkeijfbpkdelpaa
