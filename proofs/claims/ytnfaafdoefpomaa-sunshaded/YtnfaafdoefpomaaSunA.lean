/-
  The sun's direction, step by step: it is there, and 1 long (SunOne), for the seat Ytnfaafdoefpomaa. No Go text in sight.
-/
import Derived.Test.YtnfaafdoefpomaaTOne
import Derived.Test.YtnfaafdoefpomaaOrbC
namespace Go.Proofs.Ytnfaafdoefpomaa

structure SunS (d : Int) : Type where
  (g1 q1 sg s2 a b e1 sl cl se ce Y Z : Int)
  hg1 : mulS false 18913766030 d = (g1, false)
  hg2 : addS false 6870645337657 g1 = (6870645337657 + g1, false)
  hg : modS false (6870645337657 + g1) 6908435304716 = ((6870645337657 + g1) % 6908435304716, false)
  hq1 : mulS false 18914669500 d = (q1, false)
  hq2 : addS false 5399914965875 q1 = (5399914965875 + q1, false)
  hq : modS false (5399914965875 + q1) 6908435304716 = ((5399914965875 + q1) % 6908435304716, false)
  hsg : sinA false ((6870645337657 + g1) % 6908435304716) = (sg, false)
  hs2 : sinA false (2 * ((6870645337657 + g1) % 6908435304716)) = (s2, false)
  ha : mulS false 36749037801 sg = (a, false)
  hb : mulS false 383801961 s2 = (b, false)
  hqa : addS false ((5399914965875 + q1) % 6908435304716) a = ((5399914965875 + q1) % 6908435304716 + a, false)
  hl : addS false ((5399914965875 + q1) % 6908435304716 + a) b = ((5399914965875 + q1) % 6908435304716 + a + b, false)
  he1 : mulS false 6908 d = (e1, false)
  he : subS false 449733620800 e1 = (449733620800 - e1, false)
  hsl : sinA false ((5399914965875 + q1) % 6908435304716 + a + b) = (sl, false)
  hcl : cosA false ((5399914965875 + q1) % 6908435304716 + a + b) = (cl, false)
  hse : sinA false (449733620800 - e1) = (se, false)
  hce : cosA false (449733620800 - e1) = (ce, false)
  hY : mulS false ce sl = (Y, false)
  hZ : mulS false se sl = (Z, false)
  Zl : Scs sl cl
  Ze : Scs se ce
  pY : Ab (2 * (Y * 1099511627776 - ce * sl)) 1099511627776
  pZ : Ab (2 * (Z * 1099511627776 - se * sl)) 1099511627776
  Yb : Ab Y 1099511627889
  Zb : Ab Z 1099511627889
theorem sun_at {d : Int} (h0 : 0 ≤ d) (h1 : d ≤ 2007708232318976) : Nonempty (SunS d) := by
  have hd : Ab d 2007708232318976 := ⟨by omega, h1⟩
  obtain ⟨g1, hg1, pg, gb⟩ := mul_x (a := 18913766030) (K := 18913766030) (B := 34536536770781) ⟨by decide, by decide⟩ hd (by decide) (by decide) (by decide) (by decide)
  obtain ⟨q1, hq1, pq, qb⟩ := mul_x (a := 18914669500) (K := 18914669500) (B := 34538186507001) ⟨by decide, by decide⟩ hd (by decide) (by decide) (by decide) (by decide)
  obtain ⟨e1, he1, pe, eb⟩ := mul_x (a := 6908) (K := 6908) (B := 12614009) ⟨by decide, by decide⟩ hd (by decide) (by decide) (by decide) (by decide)
  have g1l := gb.lo; have g1h := gb.hi; have q1l := qb.lo; have q1h := qb.hi; have e1l := eb.lo; have e1h := eb.hi
  obtain ⟨sg, _, hsg, _, Zg⟩ := scs_at ((6870645337657 + g1) % 6908435304716) (numB_of ⟨by omega, by omega⟩)
  obtain ⟨s2, _, hs2, _, Z2⟩ := scs_at (2 * ((6870645337657 + g1) % 6908435304716)) (numB_of ⟨by omega, by omega⟩)
  obtain ⟨a, ha, _, ab⟩ := mul_x (a := 36749037801) (K := 36749037801) (B := 36749037804) ⟨by decide, by decide⟩ Zg.sb (by decide) (by decide) (by decide) (by decide)
  obtain ⟨b, hb, _, bb⟩ := mul_x (a := 383801961) (K := 383801961) (B := 383801962) ⟨by decide, by decide⟩ Z2.sb (by decide) (by decide) (by decide) (by decide)
  have al := ab.lo; have ah := ab.hi; have bl := bb.lo; have bh := bb.hi
  have qm : Ab ((5399914965875 + q1) % 6908435304716) 6908435304716 := ⟨by omega, by omega⟩
  obtain ⟨sl, cl, hsl, hcl, Zl⟩ := scs_at ((5399914965875 + q1) % 6908435304716 + a + b) (numB_of ⟨by omega, by omega⟩)
  obtain ⟨se, ce, hse, hce, Ze⟩ := scs_at (449733620800 - e1) (numB_of ⟨by omega, by omega⟩)
  obtain ⟨Y, hY, pY, Yb⟩ := mul_x (B := 1099511627889) Ze.cb Zl.sb (by decide) (by decide) (by decide) (by decide)
  obtain ⟨Z, hZ, pZ, Zb⟩ := mul_x (B := 1099511627889) Ze.sb Zl.sb (by decide) (by decide) (by decide) (by decide)
  exact ⟨⟨g1, q1, sg, s2, a, b, e1, sl, cl, se, ce, Y, Z, hg1, add_near (K := 6870645337657) ⟨by decide, by decide⟩ gb (by decide) (by decide) (by decide), mod_up (by omega) (by omega) (by decide) (by decide), hq1,
    add_near (K := 5399914965875) ⟨by decide, by decide⟩ qb (by decide) (by decide) (by decide), mod_up (by omega) (by omega) (by decide) (by decide), hsg, hs2, ha, hb, add_near qm ab (by decide) (by decide) (by decide), add_near (qm.add ab) bb (by decide) (by decide) (by decide), he1,
    sub_near (K := 449733620800) ⟨by decide, by decide⟩ eb (by decide) (by decide) (by decide), hsl, hcl, hse, hce, hY, hZ, Zl, Ze, pY, pZ, Yb, Zb⟩⟩
/-- It is 1 long. -/
theorem SunS.len {d : Int} (S : SunS d) : Ab (S.cl * S.cl + S.Y * S.Y + S.Z * S.Z - 1208925819614629174706176) 34084860461056 := by
  have Zl := S.Zl; have Ze := S.Ze; have pY := S.pY; have pZ := S.pZ
  generalize S.cl = cl at *
  generalize S.sl = sl at *
  generalize S.se = se at *
  generalize S.ce = ce at *
  generalize S.Y = Y at *
  generalize S.Z = Z at *
  have sq := Zl.sb.mul Zl.sb
  have k1 := sq.mul Ze.cs
  have c1 := Ze.cb.mul Zl.sb
  have c2 := Ze.sb.mul Zl.sb
  have y1 : Ab (Y * 1099511627776 + ce * sl) (2 * (1099511627832 * 1099511627832) + 1099511627776) := by
    have := c1.lo; have := c1.hi; have := pY.lo; have := pY.hi
    exact ⟨by omega, by omega⟩
  have z1 : Ab (Z * 1099511627776 + se * sl) (2 * (1099511627832 * 1099511627832) + 1099511627776) := by
    have := c2.lo; have := c2.hi; have := pZ.lo; have := pZ.hi
    exact ⟨by omega, by omega⟩
  have k2 := pY.mul y1
  have k3 := pZ.mul z1
  have key : 2 * (1208925819614629174706176 * (cl * cl + Y * Y + Z * Z - 1208925819614629174706176)) = 2 * (1208925819614629174706176 * (cl * cl + sl * sl - 1208925819614629174706176)) + 2 * (sl * sl * (ce * ce + se * se - 1208925819614629174706176)) + 2 * (Y * 1099511627776 - ce * sl) * (Y * 1099511627776 + ce * sl) + 2 * (Z * 1099511627776 - se * sl) * (Z * 1099511627776 + se * sl) := by grind
  have a1 := Zl.cs.lo; have a2 := Zl.cs.hi
  have l1 := k1.lo; have u1 := k1.hi; have l2 := k2.lo; have u2 := k2.hi; have l3 := k3.lo; have u3 := k3.hi
  generalize sl * sl * (ce * ce + se * se - 1208925819614629174706176) = U1 at *
  generalize 2 * (Y * 1099511627776 - ce * sl) * (Y * 1099511627776 + ce * sl) = U2 at *
  generalize 2 * (Z * 1099511627776 - se * sl) * (Z * 1099511627776 + se * sl) = U3 at *
  generalize cl * cl + sl * sl - 1208925819614629174706176 = V at *
  generalize cl * cl + Y * Y + Z * Z - 1208925819614629174706176 = W at *
  exact ⟨by omega, by omega⟩
theorem near_one {N S : Int} (h : Ab (S - 1208925819614629174706176) 34084860461056) (h0 : 0 ≤ N) (h1 : N * N ≤ S) (h2 : S < (N + 1) * (N + 1)) : -64 ≤ N - 1099511627776 ∧ N - 1099511627776 ≤ 64 := by
  have l := h.lo; have u := h.hi
  refine ⟨?_, ?_⟩
  · apply Classical.byContradiction
    intro g
    have := Int.mul_le_mul (show N + 1 ≤ 1099511627776 - 64 by omega) (show N + 1 ≤ 1099511627776 - 64 by omega) (by omega) (by decide)
    omega
  · apply Classical.byContradiction
    intro g
    have := Int.mul_le_mul (show 1099511627776 + 65 ≤ N by omega) (show 1099511627776 + 65 ≤ N by omega) (by decide) h0
    omega
theorem SunS.one {d : Int} (S : SunS d) : ∃ N, normS false S.cl S.Y S.Z = (N, false) ∧ 0 ≤ N ∧ -64 ≤ N - 1099511627776 ∧ N - 1099511627776 ≤ 64 := by
  have L := S.len
  have l := L.lo; have u := L.hi
  have hs := isq_spec (S.cl * S.cl + S.Y * S.Y + S.Z * S.Z) (by omega) (by omega)
  have n := near_one L hs.1 hs.2.1 hs.2.2
  exact ⟨_, normS_make (S.Zl.cb.numB (by decide)) (S.Yb.numB (by decide)) (S.Zb.numB (by decide)) hs.1 (by omega) hs.2.1 hs.2.2, hs.1, n.1, n.2⟩
end Go.Proofs.Ytnfaafdoefpomaa
