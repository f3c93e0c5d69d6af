/-
  How far a place is, as it is worked (OrbitFar), for the seat YtoadcnhcfodkgaaGreatDoor. No Go text in sight.
-/
import Derived.Test.YtoadcnhcfodkgaaGreatDoorKepB
namespace Go.Proofs.YtoadcnhcfodkgaaGreatDoor

theorem ab_of_sq {a K : Int} (hK : 0 ≤ K) (h : a * a ≤ K * K) : Ab a K := by
  refine ⟨?_, ?_⟩
  · apply Classical.byContradiction
    intro g
    have := Int.mul_le_mul (show K + 1 ≤ -a by omega) (show K + 1 ≤ -a by omega) (by omega) (by omega)
    rw [Int.neg_mul_neg] at this
    have e : (K + 1) * (K + 1) = K * K + 2 * K + 1 := by grind
    omega
  · apply Classical.byContradiction
    intro g
    have := Int.mul_le_mul (show K + 1 ≤ a by omega) (show K + 1 ≤ a by omega) (by omega) (by omega)
    have e : (K + 1) * (K + 1) = K * K + 2 * K + 1 := by grind
    omega
/-- What is turned is as long as it was. -/
theorem rot_sq {u v c s a b : Int} (hM : u * u + v * v ≤ 120892581961462917470617600) (cb : Ab c 1099511627832) (sb : Ab s 1099511627832) (hcs : Ab (c * c + s * s - 1208925819614629174706176) 123145302310912)
    (ha : Ab (1099511627776 * a - (u * c - v * s)) 1099511627776) (hb : Ab (1099511627776 * b - (u * s + v * c)) 1099511627776) : Ab (a * a + b * b - (u * u + v * v)) 12457466742702080 := by
  have u0 := sq_nonneg u
  have v0 := sq_nonneg v
  have ub : Ab u 10995116277760 := ab_of_sq (by decide) (by omega)
  have vb : Ab v 10995116277760 := ab_of_sq (by decide) (by omega)
  have P := (ub.mul cb).sub (vb.mul sb)
  have Q := (ub.mul sb).add (vb.mul cb)
  have PA : Ab (u * c - v * s + 1099511627776 * a) (2 * (10995116277760 * 1099511627832 + 10995116277760 * 1099511627832) + 1099511627776) := by
    have p1 := P.lo; have p2 := P.hi; have h1 := ha.lo; have h2 := ha.hi
    exact ⟨by omega, by omega⟩
  have QB : Ab (u * s + v * c + 1099511627776 * b) (2 * (10995116277760 * 1099511627832 + 10995116277760 * 1099511627832) + 1099511627776) := by
    have p1 := Q.lo; have p2 := Q.hi; have h1 := hb.lo; have h2 := hb.hi
    exact ⟨by omega, by omega⟩
  have t1 := ha.mul PA
  have t2 := hb.mul QB
  have uv : Ab (u * u + v * v) 120892581961462917470617600 := ⟨by omega, hM⟩
  have t3 := uv.mul hcs
  have key : 1208925819614629174706176 * (a * a + b * b - (u * u + v * v)) = (u * u + v * v) * (c * c + s * s - 1208925819614629174706176) + (1099511627776 * a - (u * c - v * s)) * (u * c - v * s + 1099511627776 * a) + (1099511627776 * b - (u * s + v * c)) * (u * s + v * c + 1099511627776 * b) := by grind
  have l1 := t1.lo; have h1 := t1.hi; have l2 := t2.lo; have h2 := t2.hi; have l3 := t3.lo; have h3 := t3.hi
  generalize (u * u + v * v) * (c * c + s * s - 1208925819614629174706176) = X at key l3 h3
  generalize (1099511627776 * a - (u * c - v * s)) * (u * c - v * s + 1099511627776 * a) = Y at key l1 h1
  generalize (1099511627776 * b - (u * s + v * c)) * (u * s + v * c + 1099511627776 * b) = Z at key l2 h2
  generalize a * a + b * b - (u * u + v * v) = W at key
  exact ⟨by omega, by omega⟩
/-- In its plane: what is worked, step by step. -/
structure Flat (A E c s e2 r w1 u v : Int) : Prop where
  A1 : 7146825580544 ≤ A
  A2 : A ≤ 9211859050600
  E1 : 0 ≤ E
  E2 : E ≤ 109951162777
  cb : Ab c 1099511627832
  sb : Ab s 1099511627832
  cs : Ab (c * c + s * s - 1208925819614629174706176) 123145302310912
  eu : Ab (2 * (u * 1099511627776 - A * (c - E))) 1099511627776
  ee : Ab (2 * (e2 * 1099511627776 - E * E)) 1099511627776
  r0 : 0 ≤ r
  r1 : r * r ≤ (1099511627776 - e2) * 1099511627776
  r2 : (1099511627776 - e2) * 1099511627776 < (r + 1) * (r + 1)
  ew : Ab (2 * (w1 * 1099511627776 - A * r)) 1099511627776
  ev : Ab (2 * (v * 1099511627776 - w1 * s)) 1099511627776
/-- How far it is by the ellipse. -/
def lam (A E c : Int) : Int := A * (1208925819614629174706176 - E * c)
theorem Flat.root {A E c s e2 r w1 u v : Int} (F : Flat A E c s e2 r w1 u v) : r ≤ 1099511627776 ∧ Ab (r * r - (1208925819614629174706176 - E * E)) 3298534883328 := by
  have ee := F.ee.lo; have ee' := F.ee.hi
  have EE := sq_nonneg E
  have e0 : 0 ≤ e2 := by omega
  have r0 := F.r0; have r1 := F.r1; have r2 := F.r2
  have rb : Ab r 1099511627776 := ab_of_sq (by decide) (by omega)
  have r3 := rb.hi
  have e : (r + 1) * (r + 1) = r * r + 2 * r + 1 := by grind
  rw [e] at r2
  exact ⟨r3, by omega, by omega⟩
theorem Flat.lamb {A E c s e2 r w1 u v : Int} (F : Flat A E c s e2 r w1 u v) : Ab (lam A E c) 12361820360799717618005405660607204556 := by
  have A1 := F.A1; have A2 := F.A2; have E1 := F.E1; have E2 := F.E2
  have a : Ab A 9211859050600 := ⟨by omega, A2⟩
  have ec := (show Ab E 109951162777 from ⟨by omega, E2⟩).mul F.cb
  have d : Ab (1208925819614629174706176 - E * c) (1208925819614629174706176 + 109951162777 * 1099511627832) := by
    have := ec.lo; have := ec.hi
    exact ⟨by omega, by omega⟩
  exact (a.mul d).le (by decide)
theorem flat_sq {A E c s e2 r w1 u v : Int} (F : Flat A E c s e2 r w1 u v) : Ab (1461501637330902918203684832716283019655932542976 * (u * u + v * v) - lam A E c * lam A E c) 13176891962923720259444089157197533340682064549018901249471283200 := by
  obtain ⟨rh, ρ⟩ := F.root
  have A1 := F.A1; have A2 := F.A2; have E1 := F.E1; have E2 := F.E2
  have a : Ab A 9211859050600 := ⟨by omega, A2⟩
  have e : Ab E 109951162777 := ⟨by omega, E2⟩
  have rb : Ab r 1099511627776 := ⟨by have := F.r0; omega, rh⟩
  have EE := e.mul e
  have oe : Ab (1208925819614629174706176 - E * E) 1208925819614629174706176 := by
    have := EE.hi; have := sq_nonneg E
    exact ⟨by omega, by omega⟩
  have k1 := (a.mul a).mul ((oe.mul F.cs).add (ρ.mul (F.sb.mul F.sb)))
  have ce := a.mul (F.cb.sub e)
  have ou : Ab (u * 1099511627776 + A * (c - E)) (2 * (9211859050600 * (1099511627832 + 109951162777)) + 1099511627776) := by
    have := ce.lo; have := ce.hi; have := F.eu.lo; have := F.eu.hi
    exact ⟨by omega, by omega⟩
  have k2 := F.eu.mul ou
  have η : Ab (2 * (1208925819614629174706176 * v - A * r * s)) 2417851639290831000567808 := by
    have h1 := F.ev; have h2 := F.ew.mul F.sb
    have l1 := h1.lo; have u1 := h1.hi; have l2 := h2.lo; have u2 := h2.hi
    have e1 : 2 * (1208925819614629174706176 * v - A * r * s) = 1099511627776 * (2 * (v * 1099511627776 - w1 * s)) + 2 * (w1 * 1099511627776 - A * r) * s := by grind
    rw [e1]
    exact ⟨by omega, by omega⟩
  have ars := (a.mul rb).mul F.sb
  have ov : Ab (1208925819614629174706176 * v + A * r * s) (2 * (9211859050600 * 1099511627776 * 1099511627832) + 2417851639290831000567808) := by
    have := ars.lo; have := ars.hi; have := η.lo; have := η.hi
    exact ⟨by omega, by omega⟩
  have k3 := η.mul ov
  have key : 2 * (1461501637330902918203684832716283019655932542976 * (u * u + v * v) - lam A E c * lam A E c) = 2 * (A * A * ((1208925819614629174706176 - E * E) * (c * c + s * s - 1208925819614629174706176) + (r * r - (1208925819614629174706176 - E * E)) * (s * s))) + 1208925819614629174706176 * (2 * (u * 1099511627776 - A * (c - E)) * (u * 1099511627776 + A * (c - E))) + 2 * (1208925819614629174706176 * v - A * r * s) * (1208925819614629174706176 * v + A * r * s) := by
    unfold lam
    grind
  have l1 := k1.lo; have u1 := k1.hi; have l2 := k2.lo; have u2 := k2.hi; have l3 := k3.lo; have u3 := k3.hi
  generalize A * A * ((1208925819614629174706176 - E * E) * (c * c + s * s - 1208925819614629174706176) + (r * r - (1208925819614629174706176 - E * E)) * (s * s)) = X at key l1 u1
  generalize 2 * (u * 1099511627776 - A * (c - E)) * (u * 1099511627776 + A * (c - E)) = Y at key l2 u2
  generalize 2 * (1208925819614629174706176 * v - A * r * s) * (1208925819614629174706176 * v + A * r * s) = Z at key l3 u3
  generalize 1461501637330902918203684832716283019655932542976 * (u * u + v * v) - lam A E c * lam A E c = W at key ⊢
  exact ⟨by omega, by omega⟩
theorem flat_bd {A E c s e2 r w1 u v : Int} (F : Flat A E c s e2 r w1 u v) : u * u + v * v ≤ 114847952863389771597086720 := by
  have h := (flat_sq F).hi
  have k := (F.lamb.mul F.lamb).hi
  omega
end Go.Proofs.YtoadcnhcfodkgaaGreatDoor
