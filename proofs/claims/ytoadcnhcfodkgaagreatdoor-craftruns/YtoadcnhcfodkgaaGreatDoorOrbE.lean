/-
  A place, of its angles: its steps, and how far it is (OrbitFar), for the seat YtoadcnhcfodkgaaGreatDoor. No Go text in sight.
-/
import Derived.Test.YtoadcnhcfodkgaaGreatDoorOrbD
namespace Go.Proofs.YtoadcnhcfodkgaaGreatDoor

/-- A place, of its angles, step by step. -/
structure Plane (A E e2 r s c node peri x : Int) : Type where
  (sx cx u w1 v sq cq m1 m2 m3 m4 sn cn m5 bc m6 m7 m8 z : Int)
  hcx : cosA false x = (cx, false)
  hsx : sinA false x = (sx, false)
  hce : subS false cx E = (cx - E, false)
  hu : mulS false A (cx - E) = (u, false)
  hw1 : mulS false A r = (w1, false)
  hv : mulS false w1 sx = (v, false)
  hcq : cosA false peri = (cq, false)
  hsq : sinA false peri = (sq, false)
  h1 : mulS false u cq = (m1, false)
  h2 : mulS false v sq = (m2, false)
  ha : subS false m1 m2 = (m1 - m2, false)
  h3 : mulS false u sq = (m3, false)
  h4 : mulS false v cq = (m4, false)
  hb : addS false m3 m4 = (m3 + m4, false)
  hcn : cosA false node = (cn, false)
  hsn : sinA false node = (sn, false)
  h5 : mulS false (m1 - m2) cn = (m5, false)
  hbc : mulS false (m3 + m4) c = (bc, false)
  h6 : mulS false bc sn = (m6, false)
  hX : subS false m5 m6 = (m5 - m6, false)
  h7 : mulS false (m1 - m2) sn = (m7, false)
  h8 : mulS false bc cn = (m8, false)
  hY : addS false m7 m8 = (m7 + m8, false)
  hz : mulS false (m3 + m4) s = (z, false)
  flat : Flat A E cx sx e2 r w1 u v
  T1 : Trn u v sq cq m1 m2 m3 m4
  Z1 : Sc sq cq
  T3 : Trn (m1 - m2) bc sn cn m5 m6 m7 m8
  Z3 : Sc sn cn
  qbc : Ab (2 * (bc * 1099511627776 - (m3 + m4) * c)) 1099511627776
  qz : Ab (2 * (z * 1099511627776 - (m3 + m4) * s)) 1099511627776
  ab : Ab (m1 - m2) 19344904008183
  bb : Ab (m3 + m4) 19344904008183
  cb : Ab bc 19344904009169
  Xb : Ab (m5 - m6) 38689808019324
  Yb : Ab (m7 + m8) 38689808019324
  zb : Ab z 19344904009169
theorem plane_at {A E e2 r s c node peri x : Int} (A1 : 7146825580544 ≤ A) (A2 : A ≤ 9211859050600) (E1 : 0 ≤ E) (E2 : E ≤ 109951162777) (ee : Ab (2 * (e2 * 1099511627776 - E * E)) 1099511627776) (r0 : 0 ≤ r) (ro : r ≤ 1099511627776) (r1 : r * r ≤ (1099511627776 - e2) * 1099511627776) (r2 : (1099511627776 - e2) * 1099511627776 < (r + 1) * (r + 1))
    (sc : Sc s c) (hn : numB node = true) (hp : numB peri = true) (hx : numB x = true) : Nonempty (Plane A E e2 r s c node peri x) := by
  have aA : Ab A 9211859050600 := ⟨by omega, A2⟩
  have aE : Ab E 109951162777 := ⟨by omega, E2⟩
  have ar : Ab r 1099511627776 := ⟨by omega, ro⟩
  obtain ⟨sx, cx, hsx, hcx, Zx⟩ := sc_at x hx
  obtain ⟨sq, cq, hsq, hcq, Z1⟩ := sc_at peri hp
  obtain ⟨sn, cn, hsn, hcn, Z3⟩ := sc_at node hn
  obtain ⟨u, hu, qu, ub⟩ := mul_x (B := 10133044956125) aA (Zx.cb.sub aE) (by decide) (by decide) (by decide) (by decide)
  obtain ⟨w1, hw1, qw, wb⟩ := mul_x (B := 9211859050601) aA ar (by decide) (by decide) (by decide) (by decide)
  obtain ⟨v, hv, qv, vb⟩ := mul_x (B := 9211859051071) wb Zx.sb (by decide) (by decide) (by decide) (by decide)
  obtain ⟨m1, h1, p1, b1⟩ := mul_x (B := 10133044956642) ub Z1.cb (by decide) (by decide) (by decide) (by decide)
  obtain ⟨m2, h2, p2, b2⟩ := mul_x (B := 9211859051541) vb Z1.sb (by decide) (by decide) (by decide) (by decide)
  obtain ⟨m3, h3, p3, b3⟩ := mul_x (B := 10133044956642) ub Z1.sb (by decide) (by decide) (by decide) (by decide)
  obtain ⟨m4, h4, p4, b4⟩ := mul_x (B := 9211859051541) vb Z1.cb (by decide) (by decide) (by decide) (by decide)
  have ab : Ab (m1 - m2) 19344904008183 := b1.sub b2
  have bb : Ab (m3 + m4) 19344904008183 := b3.add b4
  obtain ⟨m5, h5, p5, b5⟩ := mul_x (B := 19344904009169) ab Z3.cb (by decide) (by decide) (by decide) (by decide)
  obtain ⟨bc, hbc, pbc, bbc⟩ := mul_x (B := 19344904009169) bb sc.cb (by decide) (by decide) (by decide) (by decide)
  obtain ⟨m6, h6, p6, b6⟩ := mul_x (B := 19344904010155) bbc Z3.sb (by decide) (by decide) (by decide) (by decide)
  obtain ⟨m7, h7, p7, b7⟩ := mul_x (B := 19344904009169) ab Z3.sb (by decide) (by decide) (by decide) (by decide)
  obtain ⟨m8, h8, p8, b8⟩ := mul_x (B := 19344904010155) bbc Z3.cb (by decide) (by decide) (by decide) (by decide)
  obtain ⟨z, hz, pz, bz⟩ := mul_x (B := 19344904009169) bb sc.sb (by decide) (by decide) (by decide) (by decide)
  exact ⟨⟨sx, cx, u, w1, v, sq, cq, m1, m2, m3, m4, sn, cn, m5, bc, m6, m7, m8, z, hcx, hsx, sub_near Zx.cb aE (by decide) (by decide) (by decide), hu, hw1, hv, hcq, hsq, h1, h2, sub_near b1 b2 (by decide) (by decide) (by decide), h3, h4,
    add_near b3 b4 (by decide) (by decide) (by decide), hcn, hsn, h5, hbc, h6, sub_near b5 b6 (by decide) (by decide) (by decide), h7, h8, add_near b7 b8 (by decide) (by decide) (by decide), hz,
    ⟨A1, A2, E1, E2, Zx.cb, Zx.sb, Zx.cs, qu, ee, r0, r1, r2, qw, qv⟩, ⟨p1, p2, p3, p4⟩, Z1, ⟨p5, p6, p7, p8⟩, Z3, pbc, pz, ab, bb, bbc, b5.sub b6, b7.add b8, bz⟩⟩
/-- How far the place is. -/
theorem Plane.far {A E e2 r s c node peri x low high : Int} (P : Plane A E e2 r s c node peri x) (sc : Sc s c) (hl : mulS false A (1099511627776 - E) = (low, false)) (hh : mulS false A (1099511627776 + E) = (high, false)) (l1 : 7232738120604 ≤ low) :
    ∃ N, normS false (P.m5 - P.m6) (P.m7 + P.m8) P.z = (N, false) ∧ 0 ≤ N ∧ N ≤ 96724520047817 ∧ low - 65536 ≤ N ∧ N ≤ high + 65536 := by
  have F := P.flat
  have S := turned_sq (flat_bd F) P.T1 P.Z1 P.qbc P.qz sc P.T3 P.Z3
  have a := mul_get hl
  have b := mul_get hh
  have p0 := Int.mul_nonneg (show 0 ≤ A by have := F.A1; omega) F.E1
  have e1 : A * (1099511627776 - E) = 1099511627776 * A - A * E := by grind
  have e2' : A * (1099511627776 + E) = 1099511627776 * A + A * E := by grind
  have h7 : 7000000000000 ≤ high := by
    have a2 := a.hi; have b1 := b.lo
    rw [e1] at a2
    rw [e2'] at b1
    omega
  have x1 := (P.Xb.mul P.Xb).hi; have y1 := (P.Yb.mul P.Yb).hi; have z1 := (P.zb.mul P.zb).hi
  have x0 := sq_nonneg (P.m5 - P.m6); have y0 := sq_nonneg (P.m7 + P.m8); have z0 := sq_nonneg P.z
  have hs := isq_spec ((P.m5 - P.m6) * (P.m5 - P.m6) + (P.m7 + P.m8) * (P.m7 + P.m8) + P.z * P.z) (by omega) (by omega)
  have nb : isq ((P.m5 - P.m6) * (P.m5 - P.m6) + (P.m7 + P.m8) * (P.m7 + P.m8) + P.z * P.z) ≤ 96724520047817 := by
    apply Classical.byContradiction
    intro g
    have := Int.mul_le_mul (show 96724520047817 ≤ isq ((P.m5 - P.m6) * (P.m5 - P.m6) + (P.m7 + P.m8) * (P.m7 + P.m8) + P.z * P.z) by omega) (show 96724520047817 ≤ isq ((P.m5 - P.m6) * (P.m5 - P.m6) + (P.m7 + P.m8) * (P.m7 + P.m8) + P.z * P.z) by omega) (by decide) (by omega)
    omega
  obtain ⟨f1, f2⟩ := far_near F S hs.1 hs.2.1 hs.2.2 a b l1 h7
  exact ⟨_, normS_make (P.Xb.numB (by decide)) (P.Yb.numB (by decide)) (P.zb.numB (by decide)) hs.1 (by omega) hs.2.1 hs.2.2, hs.1, nb, f1, f2⟩
end Go.Proofs.YtoadcnhcfodkgaaGreatDoor
