/-
  A place stands in its plane (OrbitPlane), for the seat YtoadcnhcfodkgaaGreatDoor. No Go text in sight.
-/
import Derived.Test.YtoadcnhcfodkgaaGreatDoorOrbE
namespace Go.Proofs.YtoadcnhcfodkgaaGreatDoor

/-- The plane's upright, and what a place is along it. -/
structure Up (s c sn cn X Y z : Int) : Type where
  (g0 g1 f0 f1 f2 : Int)
  h0 : mulS false s sn = (g0, false)
  h1 : mulS false s cn = (g1, false)
  k0 : mulS false X g0 = (f0, false)
  k1 : mulS false Y (-g1) = (f1, false)
  k2 : mulS false z c = (f2, false)
  a1 : addS false f0 f1 = (f0 + f1, false)
  a2 : addS false (f0 + f1) f2 = (f0 + f1 + f2, false)
  gb0 : Ab g0 1099511627889
  gb1 : Ab g1 1099511627889
  lo : -65536 ≤ f0 + f1 + f2
  hi : f0 + f1 + f2 ≤ 65536
theorem Plane.up {A E e2 r s c node peri x : Int} (P : Plane A E e2 r s c node peri x) (sc : Sc s c) : Nonempty (Up s c P.sn P.cn (P.m5 - P.m6) (P.m7 + P.m8) P.z) := by
  obtain ⟨g0, h0, q0, gb0⟩ := mul_x (B := 1099511627889) sc.sb P.Z3.sb (by decide) (by decide) (by decide) (by decide)
  obtain ⟨g1, h1, q1, gb1⟩ := mul_x (B := 1099511627889) sc.sb P.Z3.cb (by decide) (by decide) (by decide) (by decide)
  obtain ⟨f0, k0, t0, fb0⟩ := mul_x (B := 38689808023301) P.Xb gb0 (by decide) (by decide) (by decide) (by decide)
  obtain ⟨f1, k1, t1, fb1⟩ := mul_x (B := 38689808023301) P.Yb gb1.neg (by decide) (by decide) (by decide) (by decide)
  obtain ⟨f2, k2, t2, fb2⟩ := mul_x (B := 19344904010155) P.zb sc.cb (by decide) (by decide) (by decide) (by decide)
  have T3 := P.T3
  have Xb := P.Xb; have Yb := P.Yb; have Z3 := P.Z3; have qbc := P.qbc; have qz := P.qz; have cb := P.cb
  have α : Ab (1099511627776 * (P.m5 - P.m6) - ((P.m1 - P.m2) * P.cn - P.bc * P.sn)) 1099511627776 := by
    have := T3.p1.lo; have := T3.p1.hi; have := T3.p2.lo; have := T3.p2.hi
    exact ⟨by omega, by omega⟩
  have β : Ab (1099511627776 * (P.m7 + P.m8) - ((P.m1 - P.m2) * P.sn + P.bc * P.cn)) 1099511627776 := by
    have := T3.p3.lo; have := T3.p3.hi; have := T3.p4.lo; have := T3.p4.hi
    exact ⟨by omega, by omega⟩
  generalize P.m5 - P.m6 = X at *
  generalize P.m7 + P.m8 = Y at *
  generalize P.m1 - P.m2 = a at *
  generalize P.m3 + P.m4 = b at *
  generalize P.bc = bc at *
  generalize P.z = z at *
  generalize P.sn = sn at *
  generalize P.cn = cn at *
  have key : 2 * (1329227995784915872903807060280344576 * (f0 + f1 + f2)) = 1208925819614629174706176 * (2 * (f0 * 1099511627776 - X * g0) + 2 * (f1 * 1099511627776 - Y * -g1) + 2 * (f2 * 1099511627776 - z * c)) + 1099511627776 * (X * (2 * (g0 * 1099511627776 - s * sn)) - Y * (2 * (g1 * 1099511627776 - s * cn)))
      + 1099511627776 * (2 * (z * 1099511627776 - b * s) * c) - 1099511627776 * (s * (2 * (bc * 1099511627776 - b * c))) + 2 * (s * ((1099511627776 * X - (a * cn - bc * sn)) * sn - (1099511627776 * Y - (a * sn + bc * cn)) * cn)) - 2 * (s * bc * (cn * cn + sn * sn - 1208925819614629174706176)) := by grind
  have u1 := Xb.mul q0
  have u2 := Yb.mul q1
  have u3 := qz.mul sc.cb
  have u4 := sc.sb.mul qbc
  have u5 := sc.sb.mul ((α.mul Z3.sb).sub (β.mul Z3.cb))
  have u6 := (sc.sb.mul cb).mul Z3.cs
  have l0 := t0.lo; have m0 := t0.hi; have l1 := t1.lo; have m1 := t1.hi; have l2 := t2.lo; have m2 := t2.hi
  have v1 := u1.lo; have w1 := u1.hi; have v2 := u2.lo; have w2 := u2.hi; have v3 := u3.lo; have w3 := u3.hi; have v4 := u4.lo; have w4 := u4.hi; have v5 := u5.lo; have w5 := u5.hi; have v6 := u6.lo; have w6 := u6.hi
  have fin : -65536 ≤ f0 + f1 + f2 ∧ f0 + f1 + f2 ≤ 65536 := by
    generalize X * (2 * (g0 * 1099511627776 - s * sn)) = U1 at *
    generalize Y * (2 * (g1 * 1099511627776 - s * cn)) = U2 at *
    generalize 2 * (z * 1099511627776 - b * s) * c = U3 at *
    generalize s * (2 * (bc * 1099511627776 - b * c)) = U4 at *
    generalize s * ((1099511627776 * X - (a * cn - bc * sn)) * sn - (1099511627776 * Y - (a * sn + bc * cn)) * cn) = U5 at *
    generalize s * bc * (cn * cn + sn * sn - 1208925819614629174706176) = U6 at *
    generalize 2 * (f0 * 1099511627776 - X * g0) = R0 at *
    generalize 2 * (f1 * 1099511627776 - Y * -g1) = R1 at *
    generalize 2 * (f2 * 1099511627776 - z * c) = R2 at *
    generalize f0 + f1 + f2 = F at *
    exact ⟨by omega, by omega⟩
  exact ⟨⟨g0, g1, f0, f1, f2, h0, h1, k0, k1, k2, add_near fb0 fb1 (by decide) (by decide) (by decide), add_near (fb0.add fb1) fb2 (by decide) (by decide) (by decide), gb0, gb1, fin.1, fin.2⟩⟩
end Go.Proofs.YtoadcnhcfodkgaaGreatDoor
