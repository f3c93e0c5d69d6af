/-
  Who is shaded: on the sun's side no one, right behind the Earth's middle all (SunSides), for the seat Ytnfaafdoefpomaa. No Go text in sight.
-/
import Derived.Test.YtnfaafdoefpomaaSunA
namespace Go.Proofs.Ytnfaafdoefpomaa

structure Ab3 (p : V3) (K : Int) : Prop where
  a : Ab p.1 K
  b : Ab p.2.1 K
  c : Ab p.2.2 K
/-- What Shaded works. -/
structure Shade (p s : V3) : Type where
  (c n : Int)
  (t u : V3)
  hc : vDotS false p s = (c, false)
  ht : vScaleS false s c = (t, false)
  hu : vSubS false p t = (u, false)
  hn : vNormS false u = (n, false)
  cb : Ab c 3301833418403523
  qc : Ab (2 * (c * 1099511627776 - (p.1 * s.1 + p.2.1 * s.2.1 + p.2.2 * s.2.2))) (3 * 1099511627776)
  n0 : 0 ≤ n
  n1 : n * n ≤ u.1 * u.1 + u.2.1 * u.2.1 + u.2.2 * u.2.2
  q0 : Ab (2 * ((p.1 - u.1) * 1099511627776 - s.1 * c)) 1099511627776
  q1 : Ab (2 * ((p.2.1 - u.2.1) * 1099511627776 - s.2.1 * c)) 1099511627776
  q2 : Ab (2 * ((p.2.2 - u.2.2) * 1099511627776 - s.2.2 * c)) 1099511627776
theorem shade_at {p s : V3} (hp : Ab3 p 1100611139403776) (hs : Ab3 s 1099511627840) : Nonempty (Shade p s) := by
  obtain ⟨m0, e0, p0, b0⟩ := mul_x (B := 1100611139467841) hp.a hs.a (by decide) (by decide) (by decide) (by decide)
  obtain ⟨m1, e1, p1, b1⟩ := mul_x (B := 1100611139467841) hp.b hs.b (by decide) (by decide) (by decide) (by decide)
  obtain ⟨m2, e2, p2, b2⟩ := mul_x (B := 1100611139467841) hp.c hs.c (by decide) (by decide) (by decide) (by decide)
  have a1 : addS false m0 m1 = (m0 + m1, false) := add_near b0 b1 (by decide) (by decide) (by decide)
  have a2 : addS false (m0 + m1) m2 = (m0 + m1 + m2, false) := add_near (b0.add b1) b2 (by decide) (by decide) (by decide)
  have cb : Ab (m0 + m1 + m2) 3301833418403523 := ((b0.add b1).add b2).le (by decide)
  have hc : vDotS false p s = (m0 + m1 + m2, false) := by unfold vDotS; simp only [e0, e1, e2, a1, a2]
  have qc : Ab (2 * ((m0 + m1 + m2) * 1099511627776 - (p.1 * s.1 + p.2.1 * s.2.1 + p.2.2 * s.2.2))) (3 * 1099511627776) := by
    have := p0.lo; have := p0.hi; have := p1.lo; have := p1.hi; have := p2.lo; have := p2.hi
    exact ⟨by omega, by omega⟩
  generalize m0 + m1 + m2 = c at *
  obtain ⟨t0, f0, r0, d0⟩ := mul_x (B := 3301833418595716) hs.a cb (by decide) (by decide) (by decide) (by decide)
  obtain ⟨t1, f1, r1, d1⟩ := mul_x (B := 3301833418595716) hs.b cb (by decide) (by decide) (by decide) (by decide)
  obtain ⟨t2, f2, r2, d2⟩ := mul_x (B := 3301833418595716) hs.c cb (by decide) (by decide) (by decide) (by decide)
  have g0 : subS false p.1 t0 = (p.1 - t0, false) := sub_near hp.a d0 (by decide) (by decide) (by decide)
  have g1 : subS false p.2.1 t1 = (p.2.1 - t1, false) := sub_near hp.b d1 (by decide) (by decide) (by decide)
  have g2 : subS false p.2.2 t2 = (p.2.2 - t2, false) := sub_near hp.c d2 (by decide) (by decide) (by decide)
  have u0 : Ab (p.1 - t0) 4402444557999492 := hp.a.sub d0
  have u1 : Ab (p.2.1 - t1) 4402444557999492 := hp.b.sub d1
  have u2 : Ab (p.2.2 - t2) 4402444557999492 := hp.c.sub d2
  have x0 := (u0.mul u0).hi; have x1 := (u1.mul u1).hi; have x2 := (u2.mul u2).hi
  have y0 := sq_nonneg (p.1 - t0); have y1 := sq_nonneg (p.2.1 - t1); have y2 := sq_nonneg (p.2.2 - t2)
  have is := isq_spec ((p.1 - t0) * (p.1 - t0) + (p.2.1 - t1) * (p.2.1 - t1) + (p.2.2 - t2) * (p.2.2 - t2)) (by omega) (by omega)
  have nb : isq ((p.1 - t0) * (p.1 - t0) + (p.2.1 - t1) * (p.2.1 - t1) + (p.2.2 - t2) * (p.2.2 - t2)) ≤ 8804889115998984 := by
    apply Classical.byContradiction
    intro g
    have := Int.mul_le_mul (show 8804889115998984 ≤ isq ((p.1 - t0) * (p.1 - t0) + (p.2.1 - t1) * (p.2.1 - t1) + (p.2.2 - t2) * (p.2.2 - t2)) by omega) (show 8804889115998984 ≤ isq ((p.1 - t0) * (p.1 - t0) + (p.2.1 - t1) * (p.2.1 - t1) + (p.2.2 - t2) * (p.2.2 - t2)) by omega) (by decide) (by omega)
    omega
  have nn := normS_make (u0.numB (by decide)) (u1.numB (by decide)) (u2.numB (by decide)) is.1 (by omega) is.2.1 is.2.2
  refine ⟨⟨c, _, (t0, t1, t2), (p.1 - t0, p.2.1 - t1, p.2.2 - t2), hc, ?_, ?_, ?_, cb, qc, is.1, is.2.1, ?_, ?_, ?_⟩⟩
  · unfold vScaleS; simp only [f0, f1, f2]; rfl
  · unfold vSubS; simp only [g0, g1, g2]; rfl
  · unfold vNormS; simp only [nn]
  · have := r0.lo; have := r0.hi; exact ⟨by dsimp only; omega, by dsimp only; omega⟩
  · have := r1.lo; have := r1.hi; exact ⟨by dsimp only; omega, by dsimp only; omega⟩
  · have := r2.lo; have := r2.hi; exact ⟨by dsimp only; omega, by dsimp only; omega⟩
/-- Right behind the Earth's middle. -/
theorem behind {s : V3} {far : Int} (hs : Ab3 s 1099511627840) (L : Ab (s.1 * s.1 + s.2.1 * s.2.1 + s.2.2 * s.2.2 - 1208925819614629174706176) 34084860461056) (f1 : 1099511627776 ≤ far) (f2 : far ≤ 1099511627776000) :
    ∃ p, vScaleS false s (-far) = (p, false) ∧ ∃ S : Shade p s, S.c < 0 ∧ S.n < 7012835795048 := by
  have fb : Ab (-far) 1099511627776000 := ⟨by omega, by omega⟩
  obtain ⟨p0, e0, q0, b0⟩ := mul_x (B := 1100611139403776) hs.a fb (by decide) (by decide) (by decide) (by decide)
  obtain ⟨p1, e1, q1, b1⟩ := mul_x (B := 1100611139403776) hs.b fb (by decide) (by decide) (by decide) (by decide)
  obtain ⟨p2, e2, q2, b2⟩ := mul_x (B := 1100611139403776) hs.c fb (by decide) (by decide) (by decide) (by decide)
  refine ⟨(p0, p1, p2), by unfold vScaleS; simp only [e0, e1, e2]; rfl, ?_⟩
  obtain ⟨S⟩ := shade_at (p := (p0, p1, p2)) ⟨b0, b1, b2⟩ hs
  refine ⟨S, ?_⟩
  obtain ⟨s0, s1, s2⟩ := s
  obtain ⟨c, n, t, u, hc, ht, hu, hn, cb, qc, n0, n1, r0, r1, r2⟩ := S
  obtain ⟨u0, u1, u2⟩ := u
  dsimp only at *
  have ha := hs.a; have hb := hs.b; have hcc := hs.c
  dsimp only at ha hb hcc
  have k0 := q0.mul ha; have k1 := q1.mul hb; have k2 := q2.mul hcc
  have Lb : Ab (far * (s0 * s0 + s1 * s1 + s2 * s2 - 1208925819614629174706176)) (1099511627776000 * 34084860461056) := (show Ab far 1099511627776000 from ⟨by omega, f2⟩).mul L
  have key : 2 * (1208925819614629174706176 * (c + far)) = 1099511627776 * (2 * (c * 1099511627776 - (p0 * s0 + p1 * s1 + p2 * s2))) + 2 * (p0 * 1099511627776 - s0 * -far) * s0 + 2 * (p1 * 1099511627776 - s1 * -far) * s1 + 2 * (p2 * 1099511627776 - s2 * -far) * s2 - 2 * (far * (s0 * s0 + s1 * s1 + s2 * s2 - 1208925819614629174706176)) := by grind
  have near : Ab (c + far) 31010 := by
    have := qc.lo; have := qc.hi; have := k0.lo; have := k0.hi; have := k1.lo; have := k1.hi; have := k2.lo; have := k2.hi; have := Lb.lo; have := Lb.hi
    generalize 2 * (c * 1099511627776 - (p0 * s0 + p1 * s1 + p2 * s2)) = U0 at *
    generalize 2 * (p0 * 1099511627776 - s0 * -far) * s0 = U1 at *
    generalize 2 * (p1 * 1099511627776 - s1 * -far) * s1 = U2 at *
    generalize 2 * (p2 * 1099511627776 - s2 * -far) * s2 = U3 at *
    generalize far * (s0 * s0 + s1 * s1 + s2 * s2 - 1208925819614629174706176) = U4 at *
    exact ⟨by omega, by omega⟩
  have small : ∀ {si pi ui : Int}, Ab si 1099511627840 → Ab (2 * (pi * 1099511627776 - si * -far)) 1099511627776 → Ab (2 * ((pi - ui) * 1099511627776 - si * c)) 1099511627776 → Ab ui 31020 := fun {si pi ui} hsi h1 h2 => by
    have m := hsi.mul near
    have e : si * (c + far) = si * c - si * -far := by grind
    rw [e] at m
    have := m.lo; have := m.hi; have := h1.lo; have := h1.hi; have := h2.lo; have := h2.hi
    generalize si * c = A at *
    generalize si * -far = B at *
    exact ⟨by omega, by omega⟩
  have v0 := small ha q0 r0
  have v1 := small hb q1 r1
  have v2 := small hcc q2 r2
  have w0 := (v0.mul v0).hi; have w1 := (v1.mul v1).hi; have w2 := (v2.mul v2).hi
  refine ⟨by have := near.hi; omega, ?_⟩
  apply Classical.byContradiction
  intro g
  have := Int.mul_le_mul (show 7012835795048 ≤ n by omega) (show 7012835795048 ≤ n by omega) (by decide) n0
  omega
/-- A place that is up to 1000 away. -/
theorem place_bd {p : V3} {n : Int} (h : vNormS false p = (n, false)) (hn : n ≤ 1099511627776000) : Ab3 p 1100611139403776 := by
  unfold vNormS at h
  simp only [Prod.mk.injEq] at h
  obtain ⟨h1, h2⟩ := h
  obtain ⟨p0, p1, p2⟩ := p
  dsimp only at h1 h2
  cases k : tk false [p0, p1, p2]
  · rw [normS_no k] at h2; simp at h2
  · obtain ⟨_, n0, n1, n2⟩ := tk_three k
    have g0 := sq_bd n0; have g1 := sq_bd n1; have g2 := sq_bd n2
    have y0 := sq_nonneg p0; have y1 := sq_nonneg p1; have y2 := sq_nonneg p2
    have is := isq_spec (p0 * p0 + p1 * p1 + p2 * p2) (by omega) (by omega)
    have e : normS false p0 p1 p2 = out (isq (p0 * p0 + p1 * p1 + p2 * p2)) false := by unfold normS; rw [k]; rfl
    rw [e] at h1 h2
    unfold out sgnd at h1 h2
    simp only [decide_eq_false_iff_not] at h2
    rw [if_pos (by omega)] at h1
    simp at h1
    rw [h1] at is
    have m := Int.mul_le_mul (show n + 1 ≤ 1099511627776000 + 1 by omega) (show n + 1 ≤ 1099511627776000 + 1 by omega) (by omega) (by decide)
    exact ⟨ab_of_sq (by decide) (by dsimp only; omega), ab_of_sq (by decide) (by dsimp only; omega), ab_of_sq (by decide) (by dsimp only; omega)⟩
theorem SunS.dir {d : Int} (S : SunS d) : Ab3 (S.cl, S.Y, S.Z) 1099511627840 := by
  have u := S.len.hi
  have a := sq_nonneg S.cl
  have b := sq_nonneg S.Y
  have c := sq_nonneg S.Z
  exact ⟨ab_of_sq (by decide) (by dsimp only; omega), ab_of_sq (by decide) (by dsimp only; omega), ab_of_sq (by decide) (by dsimp only; omega)⟩
end Go.Proofs.Ytnfaafdoefpomaa
