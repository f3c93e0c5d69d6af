/-
  A place is as far as the ellipse lets it be (OrbitFar), for the seat YtoadcnhcfodkgaaGreatDoor. No Go text in sight.
-/
import Derived.Test.YtoadcnhcfodkgaaGreatDoorOrbA
namespace Go.Proofs.YtoadcnhcfodkgaaGreatDoor

theorem lam_lo {A E c s e2 r w1 u v near : Int} (F : Flat A E c s e2 r w1 u v) (hn : Ab (2 * (near * 1099511627776 - A * (1099511627776 - E))) 1099511627776) : 1208925819614629174706176 * (near - 48) ≤ lam A E c := by
  have A1 := F.A1; have A2 := F.A2; have E1 := F.E1; have E2 := F.E2
  have ae : Ab (A * E) (9211859050600 * 109951162777) := (show Ab A 9211859050600 from ⟨by omega, A2⟩).mul ⟨by omega, E2⟩
  have p := Int.mul_nonneg (Int.mul_nonneg (show 0 ≤ A by omega) E1) (show 0 ≤ 1099511627776 - c + 56 by have := F.cb.hi; omega)
  have e : A * E * (1099511627776 - c + 56) = lam A E c - 1099511627776 * (A * (1099511627776 - E)) + 56 * (A * E) := by unfold lam; grind
  rw [e] at p
  have := ae.hi; have := hn.hi
  generalize lam A E c = Λ at p ⊢
  generalize A * (1099511627776 - E) = Y at *
  generalize A * E = Z at *
  omega
theorem lam_hi {A E c s e2 r w1 u v far : Int} (F : Flat A E c s e2 r w1 u v) (hf : Ab (2 * (far * 1099511627776 - A * (1099511627776 + E))) 1099511627776) : lam A E c ≤ 1208925819614629174706176 * (far + 48) := by
  have A1 := F.A1; have A2 := F.A2; have E1 := F.E1; have E2 := F.E2
  have ae : Ab (A * E) (9211859050600 * 109951162777) := (show Ab A 9211859050600 from ⟨by omega, A2⟩).mul ⟨by omega, E2⟩
  have p := Int.mul_nonneg (Int.mul_nonneg (show 0 ≤ A by omega) E1) (show 0 ≤ 1099511627776 + c + 56 by have := F.cb.lo; omega)
  have e : A * E * (1099511627776 + c + 56) = 1099511627776 * (A * (1099511627776 + E)) - lam A E c + 56 * (A * E) := by unfold lam; grind
  rw [e] at p
  have := ae.hi; have := hf.lo
  generalize lam A E c = Λ at p ⊢
  generalize A * (1099511627776 + E) = Y at *
  generalize A * E = Z at *
  omega
theorem far_near {A E c s e2 r w1 u v near far N S : Int} (F : Flat A E c s e2 r w1 u v) (hS : Ab (S - (u * u + v * v)) 37372400228106240) (h0 : 0 ≤ N) (h1 : N * N ≤ S) (h2 : S < (N + 1) * (N + 1))
    (hn : Ab (2 * (near * 1099511627776 - A * (1099511627776 - E))) 1099511627776) (hf : Ab (2 * (far * 1099511627776 - A * (1099511627776 + E))) 1099511627776) (n1 : 7232738120604 ≤ near) (f1 : 7000000000000 ≤ far) : near - 65536 ≤ N ∧ N ≤ far + 65536 := by
  have q := flat_sq F
  have ql := q.lo; have qu := q.hi; have sl := hS.lo; have su := hS.hi
  have ll := lam_lo F hn
  have lh := lam_hi F hf
  refine ⟨?_, ?_⟩
  · apply Classical.byContradiction
    intro g
    have m1 := Int.mul_le_mul (show N + 1 ≤ near - 65536 by omega) (show N + 1 ≤ near - 65536 by omega) (by omega) (by omega)
    have m2 := Int.mul_le_mul ll ll (by omega) (by omega)
    have e1 : (near - 65536) * (near - 65536) = near * near - 131072 * near + 4294967296 := by grind
    have e2 : 1208925819614629174706176 * (near - 48) * (1208925819614629174706176 * (near - 48)) = 1461501637330902918203684832716283019655932542976 * (near * near) - 1461501637330902918203684832716283019655932542976 * (96 * near) + 1461501637330902918203684832716283019655932542976 * 2304 := by grind
    rw [e1] at m1
    rw [e2] at m2
    generalize lam A E c * lam A E c = Λ at *
    generalize near * near = Y at *
    generalize (N + 1) * (N + 1) = M at *
    omega
  · apply Classical.byContradiction
    intro g
    have l0 : 0 ≤ lam A E c := by omega
    have m1 := Int.mul_le_mul (show far + 65537 ≤ N by omega) (show far + 65537 ≤ N by omega) (by omega) (by omega)
    have m2 := Int.mul_le_mul lh lh l0 (by omega)
    have e1 : (far + 65537) * (far + 65537) = far * far + 131074 * far + 4295098369 := by grind
    have e2 : 1208925819614629174706176 * (far + 48) * (1208925819614629174706176 * (far + 48)) = 1461501637330902918203684832716283019655932542976 * (far * far) + 1461501637330902918203684832716283019655932542976 * (96 * far) + 1461501637330902918203684832716283019655932542976 * 2304 := by grind
    rw [e1] at m1
    rw [e2] at m2
    generalize lam A E c * lam A E c = Λ at *
    generalize far * far = Y at *
    generalize N * N = M at *
    omega
/-- A sine and a cosine of one angle. -/
structure Sc (s c : Int) : Prop where
  sb : Ab s 1099511627832
  cb : Ab c 1099511627832
  cs : Ab (c * c + s * s - 1208925819614629174706176) 123145302310912
theorem sc_at (a : Int) (h : numB a = true) : ∃ s c, sinA false a = (s, false) ∧ cosA false a = (c, false) ∧ Sc s c := by
  obtain ⟨s, c, es, ec, sb, cb⟩ := sc_bd a h
  refine ⟨s, c, es, ec, sb, cb, ?_⟩
  obtain ⟨k, t, S, C, k0, k3, t0, t1, _, nS, nC, eS, eC⟩ := angle a h
  have o := one_near (t := t) ⟨t0, by omega⟩ nS nC
  have q := sel_sq k S C ⟨k0, k3⟩
  rw [es] at eS
  rw [ec] at eC
  simp only [Prod.mk.injEq, and_true] at eS eC
  rw [← eS, ← eC] at q
  exact ⟨by omega, by omega⟩
/-- Turned by an angle: a, b of u, v; m1 .. m4 the products. -/
structure Trn (u v s c m1 m2 m3 m4 : Int) : Prop where
  p1 : Ab (2 * (m1 * 1099511627776 - u * c)) 1099511627776
  p2 : Ab (2 * (m2 * 1099511627776 - v * s)) 1099511627776
  p3 : Ab (2 * (m3 * 1099511627776 - u * s)) 1099511627776
  p4 : Ab (2 * (m4 * 1099511627776 - v * c)) 1099511627776
theorem Trn.sq {u v s c m1 m2 m3 m4 : Int} (T : Trn u v s c m1 m2 m3 m4) (Z : Sc s c) (hM : u * u + v * v ≤ 120892581961462917470617600) : Ab ((m1 - m2) * (m1 - m2) + (m3 + m4) * (m3 + m4) - (u * u + v * v)) 12457466742702080 := by
  have a1 := T.p1.lo; have b1 := T.p1.hi; have a2 := T.p2.lo; have b2 := T.p2.hi; have a3 := T.p3.lo; have b3 := T.p3.hi; have a4 := T.p4.lo; have b4 := T.p4.hi
  exact rot_sq hM Z.cb Z.sb Z.cs ⟨by omega, by omega⟩ ⟨by omega, by omega⟩
/-- All three turns: the peri's, the plane's, the node's. -/
theorem turned_sq {u v sq cq si ci sn cn m1 m2 m3 m4 bc z m5 m6 m7 m8 : Int} (hM : u * u + v * v ≤ 114847952863389771597086720) (T1 : Trn u v sq cq m1 m2 m3 m4) (Z1 : Sc sq cq)
    (hbc : Ab (2 * (bc * 1099511627776 - (m3 + m4) * ci)) 1099511627776) (hz : Ab (2 * (z * 1099511627776 - (m3 + m4) * si)) 1099511627776) (Z2 : Sc si ci) (T3 : Trn (m1 - m2) bc sn cn m5 m6 m7 m8) (Z3 : Sc sn cn) :
    Ab ((m5 - m6) * (m5 - m6) + (m7 + m8) * (m7 + m8) + z * z - (u * u + v * v)) 37372400228106240 := by
  have h1 := T1.sq Z1 (by omega)
  have l1 := h1.lo; have u1 := h1.hi
  have a0 := sq_nonneg (m1 - m2)
  have b0 := sq_nonneg (m3 + m4)
  generalize m1 - m2 = a at *
  generalize m3 + m4 = b at *
  have z0 := sq_nonneg z
  have h2 : Ab (bc * bc + z * z - (b * b + 0 * 0)) 12457466742702080 := rot_sq (u := b) (v := 0) (by omega) Z2.cb Z2.sb Z2.cs (by have := hbc.lo; have := hbc.hi; exact ⟨by omega, by omega⟩) (by have := hz.lo; have := hz.hi; exact ⟨by omega, by omega⟩)
  have l2 := h2.lo; have u2 := h2.hi
  have h3 := T3.sq Z3 (by omega)
  have l3 := h3.lo; have u3 := h3.hi
  generalize (m5 - m6) * (m5 - m6) + (m7 + m8) * (m7 + m8) = W at *
  exact ⟨by omega, by omega⟩
end Go.Proofs.YtoadcnhcfodkgaaGreatDoor
