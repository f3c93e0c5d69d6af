/-
A part.
A part.
A part.
A part.
A part.
A part.
A part.
A part.
A part.
A part.
A part.
A part.
A part.
-/
import Derived.Handy
import Derived.Test.YtbophanlmkbfeaaGreatDoorHE21
import Derived.Test.YtbophanlmkbfeaaGreatDoorHE02
import Derived.Test.YtbophanlmkbfeaaGreatDoorHE18
import Derived.Test.YtbophanlmkbfeaaGreatDoorHE12
namespace Go.Proofs.YtbophanlmkbfeaaGreatDoor
end Go.Proofs.YtbophanlmkbfeaaGreatDoor
namespace Go.Proofs.YtbophanlmkbfeaaGreatDoor
end Go.Proofs.YtbophanlmkbfeaaGreatDoor
namespace Go.Proofs.YtbophanlmkbfeaaGreatDoor
theorem ab_of_sq {a K : Int} (hK : 0 ≤ K) (h : a * a ≤ K * K) : Ab a K := by
 refine ⟨?_, ?_⟩
 ·apply Classical.byContradiction
  intro g
  have := Int.mul_le_mul (show K + 1 ≤ -a by omega) (show K + 1 ≤ -a by omega) (by omega) (by omega)
  rw [Int.neg_mul_neg] at this
  have e : (K + 1) * (K + 1) = K * K + 2 * K + 1 := by grind
  omega
 ·apply Classical.byContradiction
  intro g
  have := Int.mul_le_mul (show K + 1 ≤ a by omega) (show K + 1 ≤ a by omega) (by omega) (by omega)
  have e : (K + 1) * (K + 1) = K * K + 2 * K + 1 := by grind
  omega
theorem rot_sq {u v c s a b : Int} (hM : u * u + v * v ≤ 120892581961462917470617600) (cb : Ab c 1099511627832) (sb : Ab s 1099511627832) (hcs : Ab (c * c + s * s - 1208925819614629174706176) 123145302310912)
    (ha : Ab (1099511627776 * a - (u * c - v * s)) 1099511627776) (hb : Ab (1099511627776 * b - (u * s + v * c)) 1099511627776) : Ab (a * a + b * b - (u * u + v * v)) 12457466742702080 := by
 have u0 := sq_nonneg u
 have v0 := sq_nonneg v
 have ub : Ab u 10995116277760 := ab_of_sq (by decide) (by omega)
 have vb : Ab v 10995116277760 := ab_of_sq (by decide) (by omega)
 have P := (ub.mul cb).sub (vb.mul sb)
 have Q := (ub.mul sb).add (vb.mul cb)
 have PA : Ab (u * c - v * s + 1099511627776 * a) (2 * (10995116277760 * 1099511627832 + 10995116277760 * 1099511627832) + 1099511627776) := by
  have p1 := P.lo; have p2 := P.hi; have h1 := ha.lo; have h2 := ha.hi
  exact ⟨by omega, by omega⟩
 have QB : Ab (u * s + v * c + 1099511627776 * b) (2 * (10995116277760 * 1099511627832 + 10995116277760 * 1099511627832) + 1099511627776) := by
  have p1 := Q.lo; have p2 := Q.hi; have h1 := hb.lo; have h2 := hb.hi
  exact ⟨by omega, by omega⟩
 have t1 := ha.mul PA
 have t2 := hb.mul QB
 have uv : Ab (u * u + v * v) 120892581961462917470617600 := ⟨by omega, hM⟩
 have t3 := uv.mul hcs
 have key : 1208925819614629174706176 * (a * a + b * b - (u * u + v * v)) = (u * u + v * v) * (c * c + s * s - 1208925819614629174706176) + (1099511627776 * a - (u * c - v * s)) * (u * c - v * s + 1099511627776 * a) + (1099511627776 * b - (u * s + v * c)) * (u * s + v * c + 1099511627776 * b) := by grind
 have l1 := t1.lo; have h1 := t1.hi; have l2 := t2.lo; have h2 := t2.hi; have l3 := t3.lo; have h3 := t3.hi
 generalize (u * u + v * v) * (c * c + s * s - 1208925819614629174706176) = X at key l3 h3
 generalize (1099511627776 * a - (u * c - v * s)) * (u * c - v * s + 1099511627776 * a) = Y at key l1 h1
 generalize (1099511627776 * b - (u * s + v * c)) * (u * s + v * c + 1099511627776 * b) = Z at key l2 h2
 generalize a * a + b * b - (u * u + v * v) = W at key
 exact ⟨by omega, by omega⟩
structure Flat (A E c s e2 r w1 u v : Int) : Prop where
 A1 : 7146825580544 ≤ A
 A2 : A ≤ 9211859050600
 E1 : 0 ≤ E
 E2 : E ≤ 109951162777
 cb : Ab c 1099511627832
 sb : Ab s 1099511627832
 cs : Ab (c * c + s * s - 1208925819614629174706176) 123145302310912
 eu : Ab (2 * (u * 1099511627776 - A * (c - E))) 1099511627776
 ee : Ab (2 * (e2 * 1099511627776 - E * E)) 1099511627776
 r0 : 0 ≤ r
 r1 : r * r ≤ (1099511627776 - e2) * 1099511627776
 r2 : (1099511627776 - e2) * 1099511627776 < (r + 1) * (r + 1)
 ew : Ab (2 * (w1 * 1099511627776 - A * r)) 1099511627776
 ev : Ab (2 * (v * 1099511627776 - w1 * s)) 1099511627776
def lam (A E c : Int) : Int := A * (1208925819614629174706176 - E * c)
theorem Flat.root {A E c s e2 r w1 u v : Int} (F : Flat A E c s e2 r w1 u v) : r ≤ 1099511627776 ∧ Ab (r * r - (1208925819614629174706176 - E * E)) 3298534883328 := by
 have ee := F.ee.lo; have ee' := F.ee.hi
 have EE := sq_nonneg E
 have e0 : 0 ≤ e2 := by omega
 have r0 := F.r0; have r1 := F.r1; have r2 := F.r2
 have rb : Ab r 1099511627776 := ab_of_sq (by decide) (by omega)
 have r3 := rb.hi
 have e : (r + 1) * (r + 1) = r * r + 2 * r + 1 := by grind
 rw [e] at r2
 exact ⟨r3, by omega, by omega⟩
theorem Flat.lamb {A E c s e2 r w1 u v : Int} (F : Flat A E c s e2 r w1 u v) : Ab (lam A E c) 12361820360799717618005405660607204556 := by
 have A1 := F.A1; have A2 := F.A2; have E1 := F.E1; have E2 := F.E2
 have a : Ab A 9211859050600 := ⟨by omega, A2⟩
 have ec := (show Ab E 109951162777 from ⟨by omega, E2⟩).mul F.cb
 have d : Ab (1208925819614629174706176 - E * c) (1208925819614629174706176 + 109951162777 * 1099511627832) := by
  have := ec.lo; have := ec.hi
  exact ⟨by omega, by omega⟩
 exact (a.mul d).le (by decide)
theorem flat_sq {A E c s e2 r w1 u v : Int} (F : Flat A E c s e2 r w1 u v) : Ab (1461501637330902918203684832716283019655932542976 * (u * u + v * v) - lam A E c * lam A E c) 13176891962923720259444089157197533340682064549018901249471283200 := by
 obtain ⟨rh, ρ⟩ := F.root
 have A1 := F.A1; have A2 := F.A2; have E1 := F.E1; have E2 := F.E2
 have a : Ab A 9211859050600 := ⟨by omega, A2⟩
 have e : Ab E 109951162777 := ⟨by omega, E2⟩
 have rb : Ab r 1099511627776 := ⟨by have := F.r0; omega, rh⟩
 have EE := e.mul e
 have oe : Ab (1208925819614629174706176 - E * E) 1208925819614629174706176 := by
  have := EE.hi; have := sq_nonneg E
  exact ⟨by omega, by omega⟩
 have k1 := (a.mul a).mul ((oe.mul F.cs).add (ρ.mul (F.sb.mul F.sb)))
 have ce := a.mul (F.cb.sub e)
 have ou : Ab (u * 1099511627776 + A * (c - E)) (2 * (9211859050600 * (1099511627832 + 109951162777)) + 1099511627776) := by
  have := ce.lo; have := ce.hi; have := F.eu.lo; have := F.eu.hi
  exact ⟨by omega, by omega⟩
 have k2 := F.eu.mul ou
 have η : Ab (2 * (1208925819614629174706176 * v - A * r * s)) 2417851639290831000567808 := by
  have h1 := F.ev; have h2 := F.ew.mul F.sb
  have l1 := h1.lo; have u1 := h1.hi; have l2 := h2.lo; have u2 := h2.hi
  have e1 : 2 * (1208925819614629174706176 * v - A * r * s) = 1099511627776 * (2 * (v * 1099511627776 - w1 * s)) + 2 * (w1 * 1099511627776 - A * r) * s := by grind
  rw [e1]
  exact ⟨by omega, by omega⟩
 have ars := (a.mul rb).mul F.sb
 have ov : Ab (1208925819614629174706176 * v + A * r * s) (2 * (9211859050600 * 1099511627776 * 1099511627832) + 2417851639290831000567808) := by
  have := ars.lo; have := ars.hi; have := η.lo; have := η.hi
  exact ⟨by omega, by omega⟩
 have k3 := η.mul ov
 have key : 2 * (1461501637330902918203684832716283019655932542976 * (u * u + v * v) - lam A E c * lam A E c) = 2 * (A * A * ((1208925819614629174706176 - E * E) * (c * c + s * s - 1208925819614629174706176) + (r * r - (1208925819614629174706176 - E * E)) * (s * s))) + 1208925819614629174706176 * (2 * (u * 1099511627776 - A * (c - E)) * (u * 1099511627776 + A * (c - E))) + 2 * (1208925819614629174706176 * v - A * r * s) * (1208925819614629174706176 * v + A * r * s) := by
  unfold lam
  grind
 have l1 := k1.lo; have u1 := k1.hi; have l2 := k2.lo; have u2 := k2.hi; have l3 := k3.lo; have u3 := k3.hi
 generalize A * A * ((1208925819614629174706176 - E * E) * (c * c + s * s - 1208925819614629174706176) + (r * r - (1208925819614629174706176 - E * E)) * (s * s)) = X at key l1 u1
 generalize 2 * (u * 1099511627776 - A * (c - E)) * (u * 1099511627776 + A * (c - E)) = Y at key l2 u2
 generalize 2 * (1208925819614629174706176 * v - A * r * s) * (1208925819614629174706176 * v + A * r * s) = Z at key l3 u3
 generalize 1461501637330902918203684832716283019655932542976 * (u * u + v * v) - lam A E c * lam A E c = W at key ⊢
 exact ⟨by omega, by omega⟩
theorem flat_bd {A E c s e2 r w1 u v : Int} (F : Flat A E c s e2 r w1 u v) : u * u + v * v ≤ 114847952863389771597086720 := by
 have h := (flat_sq F).hi
 have k := (F.lamb.mul F.lamb).hi
 omega
end Go.Proofs.YtbophanlmkbfeaaGreatDoor
namespace Go.Proofs.YtbophanlmkbfeaaGreatDoor
end Go.Proofs.YtbophanlmkbfeaaGreatDoor
namespace Go.Proofs.YtbophanlmkbfeaaGreatDoor
theorem lam_lo {A E c s e2 r w1 u v near : Int} (F : Flat A E c s e2 r w1 u v) (hn : Ab (2 * (near * 1099511627776 - A * (1099511627776 - E))) 1099511627776) : 1208925819614629174706176 * (near - 48) ≤ lam A E c := by
 have A1 := F.A1; have A2 := F.A2; have E1 := F.E1; have E2 := F.E2
 have ae : Ab (A * E) (9211859050600 * 109951162777) := (show Ab A 9211859050600 from ⟨by omega, A2⟩).mul ⟨by omega, E2⟩
 have p := Int.mul_nonneg (Int.mul_nonneg (show 0 ≤ A by omega) E1) (show 0 ≤ 1099511627776 - c + 56 by have := F.cb.hi; omega)
 have e : A * E * (1099511627776 - c + 56) = lam A E c - 1099511627776 * (A * (1099511627776 - E)) + 56 * (A * E) := by unfold lam; grind
 rw [e] at p
 have := ae.hi; have := hn.hi
 generalize lam A E c = Λ at p ⊢
 generalize A * (1099511627776 - E) = Y at *
 generalize A * E = Z at *
 omega
theorem lam_hi {A E c s e2 r w1 u v far : Int} (F : Flat A E c s e2 r w1 u v) (hf : Ab (2 * (far * 1099511627776 - A * (1099511627776 + E))) 1099511627776) : lam A E c ≤ 1208925819614629174706176 * (far + 48) := by
 have A1 := F.A1; have A2 := F.A2; have E1 := F.E1; have E2 := F.E2
 have ae : Ab (A * E) (9211859050600 * 109951162777) := (show Ab A 9211859050600 from ⟨by omega, A2⟩).mul ⟨by omega, E2⟩
 have p := Int.mul_nonneg (Int.mul_nonneg (show 0 ≤ A by omega) E1) (show 0 ≤ 1099511627776 + c + 56 by have := F.cb.lo; omega)
 have e : A * E * (1099511627776 + c + 56) = 1099511627776 * (A * (1099511627776 + E)) - lam A E c + 56 * (A * E) := by unfold lam; grind
 rw [e] at p
 have := ae.hi; have := hf.lo
 generalize lam A E c = Λ at p ⊢
 generalize A * (1099511627776 + E) = Y at *
 generalize A * E = Z at *
 omega
theorem far_near {A E c s e2 r w1 u v near far N S : Int} (F : Flat A E c s e2 r w1 u v) (hS : Ab (S - (u * u + v * v)) 37372400228106240) (h0 : 0 ≤ N) (h1 : N * N ≤ S) (h2 : S < (N + 1) * (N + 1))
    (hn : Ab (2 * (near * 1099511627776 - A * (1099511627776 - E))) 1099511627776) (hf : Ab (2 * (far * 1099511627776 - A * (1099511627776 + E))) 1099511627776) (n1 : 7232738120604 ≤ near) (f1 : 7000000000000 ≤ far) : near - 65536 ≤ N ∧ N ≤ far + 65536 := by
 have q := flat_sq F
 have ql := q.lo; have qu := q.hi; have sl := hS.lo; have su := hS.hi
 have ll := lam_lo F hn
 have lh := lam_hi F hf
 refine ⟨?_, ?_⟩
 ·apply Classical.byContradiction
  intro g
  have m1 := Int.mul_le_mul (show N + 1 ≤ near - 65536 by omega) (show N + 1 ≤ near - 65536 by omega) (by omega) (by omega)
  have m2 := Int.mul_le_mul ll ll (by omega) (by omega)
  have e1 : (near - 65536) * (near - 65536) = near * near - 131072 * near + 4294967296 := by grind
  have e2 : 1208925819614629174706176 * (near - 48) * (1208925819614629174706176 * (near - 48)) = 1461501637330902918203684832716283019655932542976 * (near * near) - 1461501637330902918203684832716283019655932542976 * (96 * near) + 1461501637330902918203684832716283019655932542976 * 2304 := by grind
  rw [e1] at m1
  rw [e2] at m2
  generalize lam A E c * lam A E c = Λ at *
  generalize near * near = Y at *
  generalize (N + 1) * (N + 1) = M at *
  omega
 ·apply Classical.byContradiction
  intro g
  have l0 : 0 ≤ lam A E c := by omega
  have m1 := Int.mul_le_mul (show far + 65537 ≤ N by omega) (show far + 65537 ≤ N by omega) (by omega) (by omega)
  have m2 := Int.mul_le_mul lh lh l0 (by omega)
  have e1 : (far + 65537) * (far + 65537) = far * far + 131074 * far + 4295098369 := by grind
  have e2 : 1208925819614629174706176 * (far + 48) * (1208925819614629174706176 * (far + 48)) = 1461501637330902918203684832716283019655932542976 * (far * far) + 1461501637330902918203684832716283019655932542976 * (96 * far) + 1461501637330902918203684832716283019655932542976 * 2304 := by grind
  rw [e1] at m1
  rw [e2] at m2
  generalize lam A E c * lam A E c = Λ at *
  generalize far * far = Y at *
  generalize N * N = M at *
  omega
structure Sc (s c : Int) : Prop where
 sb : Ab s 1099511627832
 cb : Ab c 1099511627832
 cs : Ab (c * c + s * s - 1208925819614629174706176) 123145302310912
structure Trn (u v s c m1 m2 m3 m4 : Int) : Prop where
 p1 : Ab (2 * (m1 * 1099511627776 - u * c)) 1099511627776
 p2 : Ab (2 * (m2 * 1099511627776 - v * s)) 1099511627776
 p3 : Ab (2 * (m3 * 1099511627776 - u * s)) 1099511627776
 p4 : Ab (2 * (m4 * 1099511627776 - v * c)) 1099511627776
theorem Trn.sq {u v s c m1 m2 m3 m4 : Int} (T : Trn u v s c m1 m2 m3 m4) (Z : Sc s c) (hM : u * u + v * v ≤ 120892581961462917470617600) : Ab ((m1 - m2) * (m1 - m2) + (m3 + m4) * (m3 + m4) - (u * u + v * v)) 12457466742702080 := by
 have a1 := T.p1.lo; have b1 := T.p1.hi; have a2 := T.p2.lo; have b2 := T.p2.hi; have a3 := T.p3.lo; have b3 := T.p3.hi; have a4 := T.p4.lo; have b4 := T.p4.hi
 exact rot_sq hM Z.cb Z.sb Z.cs ⟨by omega, by omega⟩ ⟨by omega, by omega⟩
theorem turned_sq {u v sq cq si ci sn cn m1 m2 m3 m4 bc z m5 m6 m7 m8 : Int} (hM : u * u + v * v ≤ 114847952863389771597086720) (T1 : Trn u v sq cq m1 m2 m3 m4) (Z1 : Sc sq cq)
    (hbc : Ab (2 * (bc * 1099511627776 - (m3 + m4) * ci)) 1099511627776) (hz : Ab (2 * (z * 1099511627776 - (m3 + m4) * si)) 1099511627776) (Z2 : Sc si ci) (T3 : Trn (m1 - m2) bc sn cn m5 m6 m7 m8) (Z3 : Sc sn cn) :
    Ab ((m5 - m6) * (m5 - m6) + (m7 + m8) * (m7 + m8) + z * z - (u * u + v * v)) 37372400228106240 := by
 have h1 := T1.sq Z1 (by omega)
 have l1 := h1.lo; have u1 := h1.hi
 have a0 := sq_nonneg (m1 - m2)
 have b0 := sq_nonneg (m3 + m4)
 generalize m1 - m2 = a at *
 generalize m3 + m4 = b at *
 have z0 := sq_nonneg z
 have h2 : Ab (bc * bc + z * z - (b * b + 0 * 0)) 12457466742702080 := rot_sq (u := b) (v := 0) (by omega) Z2.cb Z2.sb Z2.cs (by have := hbc.lo; have := hbc.hi; exact ⟨by omega, by omega⟩) (by have := hz.lo; have := hz.hi; exact ⟨by omega, by omega⟩)
 have l2 := h2.lo; have u2 := h2.hi
 have h3 := T3.sq Z3 (by omega)
 have l3 := h3.lo; have u3 := h3.hi
 generalize (m5 - m6) * (m5 - m6) + (m7 + m8) * (m7 + m8) = W at *
 exact ⟨by omega, by omega⟩
end Go.Proofs.YtbophanlmkbfeaaGreatDoor
namespace Go.Proofs.YtbophanlmkbfeaaGreatDoor
theorem mul_x {a b K L B : Int} (ha : Ab a K) (hb : Ab b L) (h : K * L ≤ 2535301200456458802993406410752) (hK : K ≤ 4611686018427387904) (hL : L ≤ 4611686018427387904) (hB : 2 * (K * L) + 1099511627776 ≤ 2 * (B * 1099511627776)) : ∃ m, mulS false a b = (m, false) ∧ Ab (2 * (m * 1099511627776 - a * b)) 1099511627776 ∧ Ab m B := by
 obtain ⟨m, e, h1, h2, _⟩ := mulS_near a b (ha.numB hK) (hb.numB hL) (by
  have s1 := sz_le ⟨ha.lo, ha.hi⟩
  have s2 := sz_le ⟨hb.lo, hb.hi⟩
  have k0 : 0 ≤ K := by have := ha.lo; have := ha.hi; omega
  have := Int.mul_le_mul s1 s2 (le_sz b).2.2 k0
  omega)
 have p := ha.mul hb
 have p1 := p.lo; have p2 := p.hi
 exact ⟨m, e, ⟨by omega, by omega⟩, ⟨by omega, by omega⟩⟩
theorem div_x {a d K lo hi B : Int} (ha : Ab a K) (h1 : lo ≤ d) (h2 : d ≤ hi) (hl : 0 < lo) (hK : K ≤ 4611686018427387904) (hh : hi ≤ 4611686018427387904) (h : K * 1099511627776 ≤ lo * 2305843009213693952) (hB : 2 * (K * 1099511627776) < (2 * B + 1) * lo) (B0 : 0 ≤ B) :
    ∃ m, divS false a d = (m, false) ∧ Ab (2 * (m * d - a * 1099511627776)) d ∧ Ab m B := by
 obtain ⟨m, e, d1, d2, _⟩ := partS_near a 1099511627776 d (ha.numB hK) (by rfl) (numB_of ⟨by omega, by omega⟩) (by omega) (by
  rw [show sz 1099511627776 = 1099511627776 by rfl]
  have := sz_le ⟨ha.lo, ha.hi⟩
  have := Int.mul_le_mul_of_nonneg_right h1 (show (0 : Int) ≤ 2305843009213693952 by decide)
  omega)
 have a1 := ha.lo; have a2 := ha.hi
 refine ⟨m, e, ⟨by omega, by omega⟩, ⟨?_, ?_⟩⟩
 ·apply Classical.byContradiction
  intro g
  have q := Int.mul_le_mul (show 2 * B + 1 ≤ -2 * m - 1 by omega) h1 (by omega) (by omega)
  have e : (-2 * m - 1) * d = -(2 * (m * d)) - d := by grind
  rw [e] at q
  omega
 ·apply Classical.byContradiction
  intro g
  have q := Int.mul_le_mul (show 2 * B + 1 ≤ 2 * m - 1 by omega) h1 (by omega) (by omega)
  have e : (2 * m - 1) * d = 2 * (m * d) - d := by grind
  rw [e] at q
  omega
theorem mul_get {a b m : Int} (h : mulS false a b = (m, false)) : Ab (2 * (m * 1099511627776 - a * b)) 1099511627776 := by
 cases c : tk false [a, b]
 ·rw [mulS_no c] at h; simp at h
 ·rw [mulS_yes c] at h
  unfold out sgnd at h
  simp only [Prod.mk.injEq, decide_eq_false_iff_not] at h
  obtain ⟨h1, h2⟩ := h
  rw [if_pos (by omega)] at h1
  have e : sz a * sz b = a * b ∧ (decide (a < 0) != decide (b < 0)) = false ∨ sz a * sz b = -(a * b) ∧ (decide (a < 0) != decide (b < 0)) = true := by
   unfold sz
   by_cases h3 : a < 0 <;> by_cases h4 : b < 0 <;> simp [h3, h4, Int.neg_mul, Int.mul_neg]
  rcases e with ⟨e1, e2⟩ | ⟨e1, e2⟩
  ·rw [e1] at h1 h2
   rw [e2] at h1
   simp at h1
   subst h1
   exact ⟨by omega, by omega⟩
  ·rw [e1] at h1 h2
   rw [e2] at h1
   simp at h1
   subst h1
   exact ⟨by omega, by omega⟩
end Go.Proofs.YtbophanlmkbfeaaGreatDoor
namespace Go.Proofs.YtbophanlmkbfeaaGreatDoor
end Go.Proofs.YtbophanlmkbfeaaGreatDoor
namespace Go.Proofs.YtbophanlmkbfeaaGreatDoor
structure Plane (A E e2 r s c node peri x : Int) : Type where
 (sx cx u w1 v sq cq m1 m2 m3 m4 sn cn m5 bc m6 m7 m8 z : Int)
 hcx : cosA false x = (cx, false)
 hsx : sinA false x = (sx, false)
 hce : subS false cx E = (cx - E, false)
 hu : mulS false A (cx - E) = (u, false)
 hw1 : mulS false A r = (w1, false)
 hv : mulS false w1 sx = (v, false)
 hcq : cosA false peri = (cq, false)
 hsq : sinA false peri = (sq, false)
 h1 : mulS false u cq = (m1, false)
 h2 : mulS false v sq = (m2, false)
 ha : subS false m1 m2 = (m1 - m2, false)
 h3 : mulS false u sq = (m3, false)
 h4 : mulS false v cq = (m4, false)
 hb : addS false m3 m4 = (m3 + m4, false)
 hcn : cosA false node = (cn, false)
 hsn : sinA false node = (sn, false)
 h5 : mulS false (m1 - m2) cn = (m5, false)
 hbc : mulS false (m3 + m4) c = (bc, false)
 h6 : mulS false bc sn = (m6, false)
 hX : subS false m5 m6 = (m5 - m6, false)
 h7 : mulS false (m1 - m2) sn = (m7, false)
 h8 : mulS false bc cn = (m8, false)
 hY : addS false m7 m8 = (m7 + m8, false)
 hz : mulS false (m3 + m4) s = (z, false)
 flat : Flat A E cx sx e2 r w1 u v
 T1 : Trn u v sq cq m1 m2 m3 m4
 Z1 : Sc sq cq
 T3 : Trn (m1 - m2) bc sn cn m5 m6 m7 m8
 Z3 : Sc sn cn
 qbc : Ab (2 * (bc * 1099511627776 - (m3 + m4) * c)) 1099511627776
 qz : Ab (2 * (z * 1099511627776 - (m3 + m4) * s)) 1099511627776
 ab : Ab (m1 - m2) 19344904008183
 bb : Ab (m3 + m4) 19344904008183
 cb : Ab bc 19344904009169
 Xb : Ab (m5 - m6) 38689808019324
 Yb : Ab (m7 + m8) 38689808019324
 zb : Ab z 19344904009169
theorem Plane.far {A E e2 r s c node peri x low high : Int} (P : Plane A E e2 r s c node peri x) (sc : Sc s c) (hl : mulS false A (1099511627776 - E) = (low, false)) (hh : mulS false A (1099511627776 + E) = (high, false)) (l1 : 7232738120604 ≤ low) :
    ∃ N, normS false (P.m5 - P.m6) (P.m7 + P.m8) P.z = (N, false) ∧ 0 ≤ N ∧ N ≤ 96724520047817 ∧ low - 65536 ≤ N ∧ N ≤ high + 65536 := by
 have F := P.flat
 have S := turned_sq (flat_bd F) P.T1 P.Z1 P.qbc P.qz sc P.T3 P.Z3
 have a := mul_get hl
 have b := mul_get hh
 have p0 := Int.mul_nonneg (show 0 ≤ A by have := F.A1; omega) F.E1
 have e1 : A * (1099511627776 - E) = 1099511627776 * A - A * E := by grind
 have e2' : A * (1099511627776 + E) = 1099511627776 * A + A * E := by grind
 have h7 : 7000000000000 ≤ high := by
  have a2 := a.hi; have b1 := b.lo
  rw [e1] at a2
  rw [e2'] at b1
  omega
 have x1 := (P.Xb.mul P.Xb).hi; have y1 := (P.Yb.mul P.Yb).hi; have z1 := (P.zb.mul P.zb).hi
 have x0 := sq_nonneg (P.m5 - P.m6); have y0 := sq_nonneg (P.m7 + P.m8); have z0 := sq_nonneg P.z
 have hs := isq_spec ((P.m5 - P.m6) * (P.m5 - P.m6) + (P.m7 + P.m8) * (P.m7 + P.m8) + P.z * P.z) (by omega) (by omega)
 have nb : isq ((P.m5 - P.m6) * (P.m5 - P.m6) + (P.m7 + P.m8) * (P.m7 + P.m8) + P.z * P.z) ≤ 96724520047817 := by
  apply Classical.byContradiction
  intro g
  have := Int.mul_le_mul (show 96724520047817 ≤ isq ((P.m5 - P.m6) * (P.m5 - P.m6) + (P.m7 + P.m8) * (P.m7 + P.m8) + P.z * P.z) by omega) (show 96724520047817 ≤ isq ((P.m5 - P.m6) * (P.m5 - P.m6) + (P.m7 + P.m8) * (P.m7 + P.m8) + P.z * P.z) by omega) (by decide) (by omega)
  omega
 obtain ⟨f1, f2⟩ := far_near F S hs.1 hs.2.1 hs.2.2 a b l1 h7
 exact ⟨_, normS_make (P.Xb.numB (by decide)) (P.Yb.numB (by decide)) (P.zb.numB (by decide)) hs.1 (by omega) hs.2.1 hs.2.2, hs.1, nb, f1, f2⟩
end Go.Proofs.YtbophanlmkbfeaaGreatDoor
namespace Go.Proofs.YtbophanlmkbfeaaGreatDoor
structure Up (s c sn cn X Y z : Int) : Type where
 (g0 g1 f0 f1 f2 : Int)
 h0 : mulS false s sn = (g0, false)
 h1 : mulS false s cn = (g1, false)
 k0 : mulS false X g0 = (f0, false)
 k1 : mulS false Y (-g1) = (f1, false)
 k2 : mulS false z c = (f2, false)
 a1 : addS false f0 f1 = (f0 + f1, false)
 a2 : addS false (f0 + f1) f2 = (f0 + f1 + f2, false)
 gb0 : Ab g0 1099511627889
 gb1 : Ab g1 1099511627889
 lo : -65536 ≤ f0 + f1 + f2
 hi : f0 + f1 + f2 ≤ 65536
theorem Plane.up {A E e2 r s c node peri x : Int} (P : Plane A E e2 r s c node peri x) (sc : Sc s c) : Nonempty (Up s c P.sn P.cn (P.m5 - P.m6) (P.m7 + P.m8) P.z) := by
 obtain ⟨g0, h0, q0, gb0⟩ := mul_x (B := 1099511627889) sc.sb P.Z3.sb (by decide) (by decide) (by decide) (by decide)
 obtain ⟨g1, h1, q1, gb1⟩ := mul_x (B := 1099511627889) sc.sb P.Z3.cb (by decide) (by decide) (by decide) (by decide)
 obtain ⟨f0, k0, t0, fb0⟩ := mul_x (B := 38689808023301) P.Xb gb0 (by decide) (by decide) (by decide) (by decide)
 obtain ⟨f1, k1, t1, fb1⟩ := mul_x (B := 38689808023301) P.Yb gb1.neg (by decide) (by decide) (by decide) (by decide)
 obtain ⟨f2, k2, t2, fb2⟩ := mul_x (B := 19344904010155) P.zb sc.cb (by decide) (by decide) (by decide) (by decide)
 have T3 := P.T3
 have Xb := P.Xb; have Yb := P.Yb; have Z3 := P.Z3; have qbc := P.qbc; have qz := P.qz; have cb := P.cb
 have α : Ab (1099511627776 * (P.m5 - P.m6) - ((P.m1 - P.m2) * P.cn - P.bc * P.sn)) 1099511627776 := by
  have := T3.p1.lo; have := T3.p1.hi; have := T3.p2.lo; have := T3.p2.hi
  exact ⟨by omega, by omega⟩
 have β : Ab (1099511627776 * (P.m7 + P.m8) - ((P.m1 - P.m2) * P.sn + P.bc * P.cn)) 1099511627776 := by
  have := T3.p3.lo; have := T3.p3.hi; have := T3.p4.lo; have := T3.p4.hi
  exact ⟨by omega, by omega⟩
 generalize P.m5 - P.m6 = X at *
 generalize P.m7 + P.m8 = Y at *
 generalize P.m1 - P.m2 = a at *
 generalize P.m3 + P.m4 = b at *
 generalize P.bc = bc at *
 generalize P.z = z at *
 generalize P.sn = sn at *
 generalize P.cn = cn at *
 have key : 2 * (1329227995784915872903807060280344576 * (f0 + f1 + f2)) = 1208925819614629174706176 * (2 * (f0 * 1099511627776 - X * g0) + 2 * (f1 * 1099511627776 - Y * -g1) + 2 * (f2 * 1099511627776 - z * c)) + 1099511627776 * (X * (2 * (g0 * 1099511627776 - s * sn)) - Y * (2 * (g1 * 1099511627776 - s * cn)))
     + 1099511627776 * (2 * (z * 1099511627776 - b * s) * c) - 1099511627776 * (s * (2 * (bc * 1099511627776 - b * c))) + 2 * (s * ((1099511627776 * X - (a * cn - bc * sn)) * sn - (1099511627776 * Y - (a * sn + bc * cn)) * cn)) - 2 * (s * bc * (cn * cn + sn * sn - 1208925819614629174706176)) := by grind
 have u1 := Xb.mul q0
 have u2 := Yb.mul q1
 have u3 := qz.mul sc.cb
 have u4 := sc.sb.mul qbc
 have u5 := sc.sb.mul ((α.mul Z3.sb).sub (β.mul Z3.cb))
 have u6 := (sc.sb.mul cb).mul Z3.cs
 have l0 := t0.lo; have m0 := t0.hi; have l1 := t1.lo; have m1 := t1.hi; have l2 := t2.lo; have m2 := t2.hi
 have v1 := u1.lo; have w1 := u1.hi; have v2 := u2.lo; have w2 := u2.hi; have v3 := u3.lo; have w3 := u3.hi; have v4 := u4.lo; have w4 := u4.hi; have v5 := u5.lo; have w5 := u5.hi; have v6 := u6.lo; have w6 := u6.hi
 have fin : -65536 ≤ f0 + f1 + f2 ∧ f0 + f1 + f2 ≤ 65536 := by
  generalize X * (2 * (g0 * 1099511627776 - s * sn)) = U1 at *
  generalize Y * (2 * (g1 * 1099511627776 - s * cn)) = U2 at *
  generalize 2 * (z * 1099511627776 - b * s) * c = U3 at *
  generalize s * (2 * (bc * 1099511627776 - b * c)) = U4 at *
  generalize s * ((1099511627776 * X - (a * cn - bc * sn)) * sn - (1099511627776 * Y - (a * sn + bc * cn)) * cn) = U5 at *
  generalize s * bc * (cn * cn + sn * sn - 1208925819614629174706176) = U6 at *
  generalize 2 * (f0 * 1099511627776 - X * g0) = R0 at *
  generalize 2 * (f1 * 1099511627776 - Y * -g1) = R1 at *
  generalize 2 * (f2 * 1099511627776 - z * c) = R2 at *
  generalize f0 + f1 + f2 = F at *
  exact ⟨by omega, by omega⟩
 exact ⟨⟨g0, g1, f0, f1, f2, h0, h1, k0, k1, k2, add_near fb0 fb1 (by decide) (by decide) (by decide), add_near (fb0.add fb1) fb2 (by decide) (by decide) (by decide), gb0, gb1, fin.1, fin.2⟩⟩
end Go.Proofs.YtbophanlmkbfeaaGreatDoor
namespace Go.Proofs.YtbophanlmkbfeaaGreatDoor
open Go.RowKit
abbrev V7 := Int × Int × Int × Int × Int × Int × Int
def oFarC (a : Int) (k : Int) : Bool := let r1 := mulS false a (1099511627776 - k); let r2 := mulS r1.2 a (1099511627776 + k); if r2.2 then false else if r1.1 ≥ 7232738120604 then (decide (r2.1 ≤ 9211859050600)) else false
def oAngC (a : Int) : Bool := if (-6908435304716) ≤ a then (decide (a ≤ 6908435304716)) else false
def oRightC (o : V7) : Bool := if 0 ≤ o.2.1 then if o.2.1 ≤ 109951162777 then let r1 := oFarC o.1 o.2.1; if r1 then if 0 ≤ o.2.2.1 then if o.2.2.1 ≤ 3454217652358 then let r2 := oAngC o.2.2.2.1; if r2 then let r3 := oAngC o.2.2.2.2.1; if r3 then let r4 := oAngC o.2.2.2.2.2.1; if r4 then let r5 := cRight o.2.2.2.2.2.2; r5 else false else false else false else false else false else false else false else false
end Go.Proofs.YtbophanlmkbfeaaGreatDoor
namespace Go.Proofs.YtbophanlmkbfeaaGreatDoor
open Go.RowKit
def numK (s : ByteArray) (i : Nat) : Nat → Nat
 | 0 => 0
 | k + 1 => numK s i k * 256 + bt s (i + k)
theorem numK_lt (s : ByteArray) (i : Nat) : ∀ k, numK s i k < 256 ^ k
 | 0 => by show 0 < 1; decide
 | k + 1 => by
  have h := numK_lt s i k
  have := bt_lt s (i + k)
  show numK s i k * 256 + bt s (i + k) < 256 ^ k * 256
  omega
theorem numK_tail (s : ByteArray) (n i : Nat) : ∀ k, numK (s.extract n s.size) i k = numK s (n + i) k
 | 0 => rfl
 | k + 1 => by
  show numK _ i k * 256 + bt _ (i + k) = numK s (n + i) k * 256 + bt s (n + i + k)
  rw [numK_tail s n i k, bt_tail, Nat.add_assoc]
def onumS (s : ByteArray) (i : Nat) : Int := IntKind.i64.wrap (numK s i 8 : Nat)
theorem numS_tail (s : ByteArray) (n i : Nat) : onumS (s.extract n s.size) i = onumS s (n + i) := by
 unfold onumS
 rw [numK_tail]
def sizeS (c : Int) : Int := if c = 1 ∨ c = 2 ∨ c = 4 then 2 else if c = 3 then 58 else 0
def z7 : V7 := (0, 0, 0, 0, 0, 0, 0)
def ordE (s : ByteArray) : V7 := (onumS s 2, onumS s 10, onumS s 18, onumS s 26, onumS s 34, onumS s 42, onumS s 50)
def ordR (k : Int) (s : ByteArray) : (Int × Int × V7) × Int :=
 if s.size < 2 then ((0, 0, z7), 1)
 else if k ≠ 16 then (((bt s 0 : Nat), 0, z7), 1)
 else if sizeS (bt s 1 : Nat) = 0 then (((bt s 0 : Nat), 0, z7), 2)
 else if (s.size : Int) ≠ sizeS (bt s 1 : Nat) then (((bt s 0 : Nat), 0, z7), 1)
 else if ((bt s 1 : Nat) : Int) ≠ 3 then (((bt s 0 : Nat), (bt s 1 : Nat), z7), 0)
 else if oRightC (ordE s) then (((bt s 0 : Nat), 3, ordE s), 0)
 else (((bt s 0 : Nat), 0, z7), 3)
end Go.Proofs.YtbophanlmkbfeaaGreatDoor
namespace Go.Proofs.YtbophanlmkbfeaaGreatDoor
open Go.RowKit
set_option maxRecDepth 100000
set_option maxHeartbeats 20000000
theorem sizeOf_any (c : Int) (w : World) : Calls Tryz.prog 149 #[.int .i64 c] w fun e w' => e = .returned (.int .i64 (sizeS c)) ∧ w = w' := by
 by_cases h1 : c = 1
 ·subst h1
  go_enter Tryz.func149, Tryz.ntmps149
  go_wp2
  go_ret
  exact ⟨rfl, rfl⟩
 by_cases h2 : c = 2
 ·subst h2
  go_enter Tryz.func149, Tryz.ntmps149
  go_wp2
  go_ret
  exact ⟨rfl, rfl⟩
 by_cases h4 : c = 4
 ·subst h4
  go_enter Tryz.func149, Tryz.ntmps149
  go_wp2
  go_ret
  exact ⟨rfl, rfl⟩
 by_cases h3 : c = 3
 ·subst h3
  go_enter Tryz.func149, Tryz.ntmps149
  go_wp2
  go_ret
  exact ⟨rfl, rfl⟩
 have e : sizeS c = 0 := by unfold sizeS; rw [if_neg (by omega), if_neg h3]
 rw [e]
 go_enter Tryz.func149, Tryz.ntmps149
 go_wp2
 go_ret
 exact ⟨rfl, rfl⟩
theorem refused_any (q c : Int) (o : V7) (x : Int) (w : World) : Calls Tryz.prog 150 #[.agg #[.int .i64 q, .int .i64 c, .int .i64 o.1, .int .i64 o.2.1, .int .i64 o.2.2.1, .int .i64 o.2.2.2.1, .int .i64 o.2.2.2.2.1, .int .i64 o.2.2.2.2.2.1, .int .i64 o.2.2.2.2.2.2], .int .i64 x] w fun e w' => e = .returned (.tuple #[.agg #[.int .i64 q, .int .i64 0, .int .i64 0, .int .i64 0, .int .i64 0, .int .i64 0, .int .i64 0, .int .i64 0, .int .i64 0], .int .i64 x]) ∧ Below w.heap.size w w' := by
 go_enter Tryz.func150, Tryz.ntmps150
 go_wp2_with (with_reducible refine post_stop ?_)
 refine ⟨bodyPost_ret (v := .tuple #[.agg #[.int .i64 q, .int .i64 0, .int .i64 0, .int .i64 0, .int .i64 0, .int .i64 0, .int .i64 0, .int .i64 0, .int .i64 0], .int .i64 x]) (by simp [results_cell_tmp Tryz.results150, asAddr, go_sem]) rfl ⟨rfl, ?_⟩⟩
 exact bel_al (bel_al (Below.refl _ _) _) _
theorem or64u {a b : Nat} (ha : a < 72057594037927936) (hb : b < 256) : bits .or .u64 ((a : Int) * 256) (b : Int) = ((a * 256 + b : Nat) : Int) := by
 rw [show (a : Int) * 256 = ((a * 256 : Nat) : Int) by omega]
 show IntKind.u64.wrap ((BitVec.ofInt 64 ((a * 256 : Nat) : Int) ||| BitVec.ofInt 64 (b : Int)).toNat : Int) = _
 have e := Nat.two_pow_add_eq_or_of_lt (i := 8) (show b < 2 ^ 8 by omega) a
 rw [BitVec.toNat_or, ofInt_u64 _ (by omega), ofInt_u64 b (by omega), show a * 256 = 2 ^ 8 * a by omega, ← e]
 rw [IntKind.wrap_u64]
 omega
theorem joined_any (s : ByteArray) (w : World) (h : 8 ≤ s.size) :
    Calls Tryz.prog 208 #[.string s] w fun e w' => e = .returned (.int .i64 (onumS s 0)) ∧ w = w' := by
 go_enter Tryz.func208, Tryz.ntmps208
 go_wp2
 go_loop [3, 5] (fun r i => ∃ k : Nat, k ≤ 8 ∧ i = .int .i64 k ∧ r = .int .u64 (numK s 0 k : Nat)) (fun _ i => 8 - (intOf i).toNat)
 case atStart => exact ⟨0, by omega, rfl, rfl⟩
 case round =>
  obtain ⟨k, hk, rfl, rfl⟩ := hrel
  by_cases c : k < 8
  ·have hi := idx_run (s := s) (i := (k : Int)) (n := k) (by omega) rfl
   have hb := bt_lt s k
   have ht : numK s 0 k < 72057594037927936 := Nat.lt_of_lt_of_le (numK_lt s 0 k) (show 256 ^ k ≤ 256 ^ 7 from Nat.pow_le_pow_right (by decide) (by omega))
   have HT : Hid (numK s 0 (k + 1) = numK s 0 k * 256 + bt s k) := by show numK s 0 k * 256 + bt s (0 + k) = _; rw [Nat.zero_add]
   generalize numK s 0 k = t at ht HT ⊢
   generalize bt s k = b at hi hb HT
   have ho := or64u ht hb
   go_wp2
   go_round
   case rel => exact ⟨k + 1, by omega, by go_num, by rw [HT.out]; show _ = Value.int .u64 ((t * 256 + b : Nat) : Int); rw [show ((t * 256 + b : Nat) : Int) = (t : Int) * 256 + b by omega]⟩
   case measure => simp [intOf]; omega
  ·obtain rfl : k = 8 := by omega
   have HT : Hid (onumS s 0 = IntKind.i64.wrap (numK s 0 8 : Nat)) := rfl
   have hl := numK_lt s 0 8
   generalize numK s 0 8 = t at HT hl ⊢
   go_wp2
   go_ret
   exact ⟨by rw [HT.out, IntWalk.i64_left]; rfl, rfl⟩
theorem elAt_any (p : Nat) (hp : p < 7) (s : ByteArray) (k : Nat) (w : World) (hs : s.size = 56) (hc : w.cell? ⟨k, 0, none⟩ = some (.string s)) :
    Calls Tryz.prog 207 #[.int .i64 p, .pointer (some ⟨k, 0, none⟩)] w fun e w' => e = .returned (.int .i64 (onumS s (8 * p))) ∧ w = w' := by
 have hj := fun W => joined_any (s.extract (8 * p) s.size) W (by rw [ByteArray.size_extract]; omega)
 rw [numS_tail, Nat.add_zero] at hj
 have hsl : ∀ W : World, (Instr.slice 9 (.string s) (some (.int .i64 ((p : Int) * 8))) none none).run Tryz.prog W = .ok (.string (s.extract (8 * p) s.size)) W := fun W => by
  rw [run_slice_string_from_if W 9 s .i64 ((p : Int) * 8) Tryz.underlying9, if_pos (by omega), show ((p : Int) * 8).toNat = 8 * p by omega]
 generalize s.extract (8 * p) s.size = y at *
 generalize onumS s (8 * p) = x at *
 go_enter Tryz.func207, Tryz.ntmps207
 go_wp2_with (go_at_call 208; refine (hj _).mono ?_; rintro e X ⟨rfl, rfl⟩)
 go_ret
 exact ⟨rfl, rfl⟩
end Go.Proofs.YtbophanlmkbfeaaGreatDoor
namespace Go.Proofs.YtbophanlmkbfeaaGreatDoor
open Go.RowKit
set_option maxRecDepth 100000
set_option maxHeartbeats 20000000
@[go_sem] theorem idx_seven0 (a b c d e f g : Int) (w : World) : (Instr.index 215 (.agg #[.int .i64 a, .int .i64 b, .int .i64 c, .int .i64 d, .int .i64 e, .int .i64 f, .int .i64 g]) (.int .i64 0)).run Tryz.prog w = .ok (.int .i64 a) w := by kernel_rfl
@[go_sem] theorem idx_seven1 (a b c d e f g : Int) (w : World) : (Instr.index 215 (.agg #[.int .i64 a, .int .i64 b, .int .i64 c, .int .i64 d, .int .i64 e, .int .i64 f, .int .i64 g]) (.int .i64 1)).run Tryz.prog w = .ok (.int .i64 b) w := by kernel_rfl
@[go_sem] theorem idx_seven2 (a b c d e f g : Int) (w : World) : (Instr.index 215 (.agg #[.int .i64 a, .int .i64 b, .int .i64 c, .int .i64 d, .int .i64 e, .int .i64 f, .int .i64 g]) (.int .i64 2)).run Tryz.prog w = .ok (.int .i64 c) w := by kernel_rfl
@[go_sem] theorem idx_seven3 (a b c d e f g : Int) (w : World) : (Instr.index 215 (.agg #[.int .i64 a, .int .i64 b, .int .i64 c, .int .i64 d, .int .i64 e, .int .i64 f, .int .i64 g]) (.int .i64 3)).run Tryz.prog w = .ok (.int .i64 d) w := by kernel_rfl
@[go_sem] theorem idx_seven4 (a b c d e f g : Int) (w : World) : (Instr.index 215 (.agg #[.int .i64 a, .int .i64 b, .int .i64 c, .int .i64 d, .int .i64 e, .int .i64 f, .int .i64 g]) (.int .i64 4)).run Tryz.prog w = .ok (.int .i64 e) w := by kernel_rfl
@[go_sem] theorem idx_seven5 (a b c d e f g : Int) (w : World) : (Instr.index 215 (.agg #[.int .i64 a, .int .i64 b, .int .i64 c, .int .i64 d, .int .i64 e, .int .i64 f, .int .i64 g]) (.int .i64 5)).run Tryz.prog w = .ok (.int .i64 f) w := by kernel_rfl
@[go_sem] theorem idx_seven6 (a b c d e f g : Int) (w : World) : (Instr.index 215 (.agg #[.int .i64 a, .int .i64 b, .int .i64 c, .int .i64 d, .int .i64 e, .int .i64 f, .int .i64 g]) (.int .i64 6)).run Tryz.prog w = .ok (.int .i64 g) w := by kernel_rfl
theorem elements_any (s : ByteArray) (w : World) (hs : s.size = 56) :
    Calls Tryz.prog 151 #[.string s] w fun e w' => e = .returned (.agg #[.int .i64 (onumS s 0), .int .i64 (onumS s 8), .int .i64 (onumS s 16), .int .i64 (onumS s 24), .int .i64 (onumS s 32), .int .i64 (onumS s 40), .int .i64 (onumS s 48)]) ∧ Below w.heap.size w w' := by
 have hmf : ∀ (fn : Fn) (first cap : Array Value) (W : World), (Instr.makeFunc fn first cap).run Tryz.prog W = .ok (.func fn first cap) W := fun _ _ _ _ => rfl
 have A := (Arr_at w w.heap.size [.string s] 9 rfl).alloc (.cells #[.int .i64 0, .int .i64 0, .int .i64 0, .int .i64 0, .int .i64 0, .int .i64 0, .int .i64 0] 28)
 have c0 := A.c 0 (zD rfl)
 have C0 : Hid _ := c0
 clear A c0
 have h0 := fun W c => elAt_any 0 (by decide) s w.heap.size W hs c
 rw [show 8 * 0 = 0 from rfl] at h0
 generalize onumS s 0 = x0 at h0 ⊢
 have h1 := fun W c => elAt_any 1 (by decide) s w.heap.size W hs c
 rw [show 8 * 1 = 8 from rfl] at h1
 generalize onumS s 8 = x1 at h1 ⊢
 have h2 := fun W c => elAt_any 2 (by decide) s w.heap.size W hs c
 rw [show 8 * 2 = 16 from rfl] at h2
 generalize onumS s 16 = x2 at h2 ⊢
 have h3 := fun W c => elAt_any 3 (by decide) s w.heap.size W hs c
 rw [show 8 * 3 = 24 from rfl] at h3
 generalize onumS s 24 = x3 at h3 ⊢
 have h4 := fun W c => elAt_any 4 (by decide) s w.heap.size W hs c
 rw [show 8 * 4 = 32 from rfl] at h4
 generalize onumS s 32 = x4 at h4 ⊢
 have h5 := fun W c => elAt_any 5 (by decide) s w.heap.size W hs c
 rw [show 8 * 5 = 40 from rfl] at h5
 generalize onumS s 40 = x5 at h5 ⊢
 have h6 := fun W c => elAt_any 6 (by decide) s w.heap.size W hs c
 rw [show 8 * 6 = 48 from rfl] at h6
 generalize onumS s 48 = x6 at h6 ⊢
 go_enter Tryz.func151, Tryz.ntmps151
 go_wp2_with fail
 refine (h0 _ C0.out).mono ?_
 rintro e X ⟨rfl, rfl⟩
 go_wp2_with fail
 refine (h1 _ C0.out).mono ?_
 rintro e X ⟨rfl, rfl⟩
 go_wp2_with fail
 refine (h2 _ C0.out).mono ?_
 rintro e X ⟨rfl, rfl⟩
 go_wp2_with fail
 refine (h3 _ C0.out).mono ?_
 rintro e X ⟨rfl, rfl⟩
 go_wp2_with fail
 refine (h4 _ C0.out).mono ?_
 rintro e X ⟨rfl, rfl⟩
 go_wp2_with fail
 refine (h5 _ C0.out).mono ?_
 rintro e X ⟨rfl, rfl⟩
 go_wp2_with fail
 refine (h6 _ C0.out).mono ?_
 rintro e X ⟨rfl, rfl⟩
 go_wp2_with (with_reducible refine post_stop ?_)
 refine ⟨bodyPost_ret (v := .agg #[.int .i64 x0, .int .i64 x1, .int .i64 x2, .int .i64 x3, .int .i64 x4, .int .i64 x5, .int .i64 x6]) (by simp [results, Tryz.results151, asAddr, go_sem]) rfl ⟨rfl, ?_⟩⟩
 exact bel_al (bel_al (Below.refl _ _) _) _
end Go.Proofs.YtbophanlmkbfeaaGreatDoor
