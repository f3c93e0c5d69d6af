/-
A part.
A part.
A part.
A part.
A part.
A part.
A part.
A part.
A part.
A part.
-/
import Derived.Handy
import Derived.Deep.RegionHeld3
import Derived.Test.YtbophanlmkbfeaaGreatDoorHC20
import Derived.Test.YtbophanlmkbfeaaGreatDoorHC16
import Derived.Test.YtbophanlmkbfeaaGreatDoorHC17
import Derived.Test.YtbophanlmkbfeaaGreatDoorHC11
namespace Go.Proofs.YtbophanlmkbfeaaGreatDoor
theorem lam_lo {A E c s e2 r w1 u v near : Int} (F : Flat A E c s e2 r w1 u v) (hn : Ab (2 * (near * 1099511627776 - A * (1099511627776 - E))) 1099511627776) : 1208925819614629174706176 * (near - 48) ≤ lam A E c := by
 have A1 := F.A1; have A2 := F.A2; have E1 := F.E1; have E2 := F.E2
 have ae : Ab (A * E) (9211859050600 * 109951162777) := (show Ab A 9211859050600 from ⟨by omega, A2⟩).mul ⟨by omega, E2⟩
 have p := Int.mul_nonneg (Int.mul_nonneg (show 0 ≤ A by omega) E1) (show 0 ≤ 1099511627776 - c + 56 by have := F.cb.hi; omega)
 have e : A * E * (1099511627776 - c + 56) = lam A E c - 1099511627776 * (A * (1099511627776 - E)) + 56 * (A * E) := by unfold lam; grind
 rw [e] at p
 have := ae.hi; have := hn.hi
 generalize lam A E c = Λ at p ⊢
 generalize A * (1099511627776 - E) = Y at *
 generalize A * E = Z at *
 omega
theorem lam_hi {A E c s e2 r w1 u v far : Int} (F : Flat A E c s e2 r w1 u v) (hf : Ab (2 * (far * 1099511627776 - A * (1099511627776 + E))) 1099511627776) : lam A E c ≤ 1208925819614629174706176 * (far + 48) := by
 have A1 := F.A1; have A2 := F.A2; have E1 := F.E1; have E2 := F.E2
 have ae : Ab (A * E) (9211859050600 * 109951162777) := (show Ab A 9211859050600 from ⟨by omega, A2⟩).mul ⟨by omega, E2⟩
 have p := Int.mul_nonneg (Int.mul_nonneg (show 0 ≤ A by omega) E1) (show 0 ≤ 1099511627776 + c + 56 by have := F.cb.lo; omega)
 have e : A * E * (1099511627776 + c + 56) = 1099511627776 * (A * (1099511627776 + E)) - lam A E c + 56 * (A * E) := by unfold lam; grind
 rw [e] at p
 have := ae.hi; have := hf.lo
 generalize lam A E c = Λ at p ⊢
 generalize A * (1099511627776 + E) = Y at *
 generalize A * E = Z at *
 omega
theorem far_near {A E c s e2 r w1 u v near far N S : Int} (F : Flat A E c s e2 r w1 u v) (hS : Ab (S - (u * u + v * v)) 37372400228106240) (h0 : 0 ≤ N) (h1 : N * N ≤ S) (h2 : S < (N + 1) * (N + 1))
    (hn : Ab (2 * (near * 1099511627776 - A * (1099511627776 - E))) 1099511627776) (hf : Ab (2 * (far * 1099511627776 - A * (1099511627776 + E))) 1099511627776) (n1 : 7232738120604 ≤ near) (f1 : 7000000000000 ≤ far) : near - 65536 ≤ N ∧ N ≤ far + 65536 := by
 have q := flat_sq F
 have ql := q.lo; have qu := q.hi; have sl := hS.lo; have su := hS.hi
 have ll := lam_lo F hn
 have lh := lam_hi F hf
 refine ⟨?_, ?_⟩
 ·apply Classical.byContradiction
  intro g
  have m1 := Int.mul_le_mul (show N + 1 ≤ near - 65536 by omega) (show N + 1 ≤ near - 65536 by omega) (by omega) (by omega)
  have m2 := Int.mul_le_mul ll ll (by omega) (by omega)
  have e1 : (near - 65536) * (near - 65536) = near * near - 131072 * near + 4294967296 := by grind
  have e2 : 1208925819614629174706176 * (near - 48) * (1208925819614629174706176 * (near - 48)) = 1461501637330902918203684832716283019655932542976 * (near * near) - 1461501637330902918203684832716283019655932542976 * (96 * near) + 1461501637330902918203684832716283019655932542976 * 2304 := by grind
  rw [e1] at m1
  rw [e2] at m2
  generalize lam A E c * lam A E c = Λ at *
  generalize near * near = Y at *
  generalize (N + 1) * (N + 1) = M at *
  omega
 ·apply Classical.byContradiction
  intro g
  have l0 : 0 ≤ lam A E c := by omega
  have m1 := Int.mul_le_mul (show far + 65537 ≤ N by omega) (show far + 65537 ≤ N by omega) (by omega) (by omega)
  have m2 := Int.mul_le_mul lh lh l0 (by omega)
  have e1 : (far + 65537) * (far + 65537) = far * far + 131074 * far + 4295098369 := by grind
  have e2 : 1208925819614629174706176 * (far + 48) * (1208925819614629174706176 * (far + 48)) = 1461501637330902918203684832716283019655932542976 * (far * far) + 1461501637330902918203684832716283019655932542976 * (96 * far) + 1461501637330902918203684832716283019655932542976 * 2304 := by grind
  rw [e1] at m1
  rw [e2] at m2
  generalize lam A E c * lam A E c = Λ at *
  generalize far * far = Y at *
  generalize N * N = M at *
  omega
structure Sc (s c : Int) : Prop where
 sb : Ab s 1099511627832
 cb : Ab c 1099511627832
 cs : Ab (c * c + s * s - 1208925819614629174706176) 123145302310912
structure Trn (u v s c m1 m2 m3 m4 : Int) : Prop where
 p1 : Ab (2 * (m1 * 1099511627776 - u * c)) 1099511627776
 p2 : Ab (2 * (m2 * 1099511627776 - v * s)) 1099511627776
 p3 : Ab (2 * (m3 * 1099511627776 - u * s)) 1099511627776
 p4 : Ab (2 * (m4 * 1099511627776 - v * c)) 1099511627776
theorem Trn.sq {u v s c m1 m2 m3 m4 : Int} (T : Trn u v s c m1 m2 m3 m4) (Z : Sc s c) (hM : u * u + v * v ≤ 120892581961462917470617600) : Ab ((m1 - m2) * (m1 - m2) + (m3 + m4) * (m3 + m4) - (u * u + v * v)) 12457466742702080 := by
 have a1 := T.p1.lo; have b1 := T.p1.hi; have a2 := T.p2.lo; have b2 := T.p2.hi; have a3 := T.p3.lo; have b3 := T.p3.hi; have a4 := T.p4.lo; have b4 := T.p4.hi
 exact rot_sq hM Z.cb Z.sb Z.cs ⟨by omega, by omega⟩ ⟨by omega, by omega⟩
theorem turned_sq {u v sq cq si ci sn cn m1 m2 m3 m4 bc z m5 m6 m7 m8 : Int} (hM : u * u + v * v ≤ 114847952863389771597086720) (T1 : Trn u v sq cq m1 m2 m3 m4) (Z1 : Sc sq cq)
    (hbc : Ab (2 * (bc * 1099511627776 - (m3 + m4) * ci)) 1099511627776) (hz : Ab (2 * (z * 1099511627776 - (m3 + m4) * si)) 1099511627776) (Z2 : Sc si ci) (T3 : Trn (m1 - m2) bc sn cn m5 m6 m7 m8) (Z3 : Sc sn cn) :
    Ab ((m5 - m6) * (m5 - m6) + (m7 + m8) * (m7 + m8) + z * z - (u * u + v * v)) 37372400228106240 := by
 have h1 := T1.sq Z1 (by omega)
 have l1 := h1.lo; have u1 := h1.hi
 have a0 := sq_nonneg (m1 - m2)
 have b0 := sq_nonneg (m3 + m4)
 generalize m1 - m2 = a at *
 generalize m3 + m4 = b at *
 have z0 := sq_nonneg z
 have h2 : Ab (bc * bc + z * z - (b * b + 0 * 0)) 12457466742702080 := rot_sq (u := b) (v := 0) (by omega) Z2.cb Z2.sb Z2.cs (by have := hbc.lo; have := hbc.hi; exact ⟨by omega, by omega⟩) (by have := hz.lo; have := hz.hi; exact ⟨by omega, by omega⟩)
 have l2 := h2.lo; have u2 := h2.hi
 have h3 := T3.sq Z3 (by omega)
 have l3 := h3.lo; have u3 := h3.hi
 generalize (m5 - m6) * (m5 - m6) + (m7 + m8) * (m7 + m8) = W at *
 exact ⟨by omega, by omega⟩
end Go.Proofs.YtbophanlmkbfeaaGreatDoor
namespace Go.Proofs.YtbophanlmkbfeaaGreatDoor
theorem mul_x {a b K L B : Int} (ha : Ab a K) (hb : Ab b L) (h : K * L ≤ 2535301200456458802993406410752) (hK : K ≤ 4611686018427387904) (hL : L ≤ 4611686018427387904) (hB : 2 * (K * L) + 1099511627776 ≤ 2 * (B * 1099511627776)) : ∃ m, mulS false a b = (m, false) ∧ Ab (2 * (m * 1099511627776 - a * b)) 1099511627776 ∧ Ab m B := by
 obtain ⟨m, e, h1, h2, _⟩ := mulS_near a b (ha.numB hK) (hb.numB hL) (by
  have s1 := sz_le ⟨ha.lo, ha.hi⟩
  have s2 := sz_le ⟨hb.lo, hb.hi⟩
  have k0 : 0 ≤ K := by have := ha.lo; have := ha.hi; omega
  have := Int.mul_le_mul s1 s2 (le_sz b).2.2 k0
  omega)
 have p := ha.mul hb
 have p1 := p.lo; have p2 := p.hi
 exact ⟨m, e, ⟨by omega, by omega⟩, ⟨by omega, by omega⟩⟩
theorem div_x {a d K lo hi B : Int} (ha : Ab a K) (h1 : lo ≤ d) (h2 : d ≤ hi) (hl : 0 < lo) (hK : K ≤ 4611686018427387904) (hh : hi ≤ 4611686018427387904) (h : K * 1099511627776 ≤ lo * 2305843009213693952) (hB : 2 * (K * 1099511627776) < (2 * B + 1) * lo) (B0 : 0 ≤ B) :
    ∃ m, divS false a d = (m, false) ∧ Ab (2 * (m * d - a * 1099511627776)) d ∧ Ab m B := by
 obtain ⟨m, e, d1, d2, _⟩ := partS_near a 1099511627776 d (ha.numB hK) (by rfl) (numB_of ⟨by omega, by omega⟩) (by omega) (by
  rw [show sz 1099511627776 = 1099511627776 by rfl]
  have := sz_le ⟨ha.lo, ha.hi⟩
  have := Int.mul_le_mul_of_nonneg_right h1 (show (0 : Int) ≤ 2305843009213693952 by decide)
  omega)
 have a1 := ha.lo; have a2 := ha.hi
 refine ⟨m, e, ⟨by omega, by omega⟩, ⟨?_, ?_⟩⟩
 ·apply Classical.byContradiction
  intro g
  have q := Int.mul_le_mul (show 2 * B + 1 ≤ -2 * m - 1 by omega) h1 (by omega) (by omega)
  have e : (-2 * m - 1) * d = -(2 * (m * d)) - d := by grind
  rw [e] at q
  omega
 ·apply Classical.byContradiction
  intro g
  have q := Int.mul_le_mul (show 2 * B + 1 ≤ 2 * m - 1 by omega) h1 (by omega) (by omega)
  have e : (2 * m - 1) * d = 2 * (m * d) - d := by grind
  rw [e] at q
  omega
theorem mul_get {a b m : Int} (h : mulS false a b = (m, false)) : Ab (2 * (m * 1099511627776 - a * b)) 1099511627776 := by
 cases c : tk false [a, b]
 ·rw [mulS_no c] at h; simp at h
 ·rw [mulS_yes c] at h
  unfold out sgnd at h
  simp only [Prod.mk.injEq, decide_eq_false_iff_not] at h
  obtain ⟨h1, h2⟩ := h
  rw [if_pos (by omega)] at h1
  have e : sz a * sz b = a * b ∧ (decide (a < 0) != decide (b < 0)) = false ∨ sz a * sz b = -(a * b) ∧ (decide (a < 0) != decide (b < 0)) = true := by
   unfold sz
   by_cases h3 : a < 0 <;> by_cases h4 : b < 0 <;> simp [h3, h4, Int.neg_mul, Int.mul_neg]
  rcases e with ⟨e1, e2⟩ | ⟨e1, e2⟩
  ·rw [e1] at h1 h2
   rw [e2] at h1
   simp at h1
   subst h1
   exact ⟨by omega, by omega⟩
  ·rw [e1] at h1 h2
   rw [e2] at h1
   simp at h1
   subst h1
   exact ⟨by omega, by omega⟩
end Go.Proofs.YtbophanlmkbfeaaGreatDoor
namespace Go.Proofs.YtbophanlmkbfeaaGreatDoor
end Go.Proofs.YtbophanlmkbfeaaGreatDoor
namespace Go.Proofs.YtbophanlmkbfeaaGreatDoor
structure Plane (A E e2 r s c node peri x : Int) : Type where
 (sx cx u w1 v sq cq m1 m2 m3 m4 sn cn m5 bc m6 m7 m8 z : Int)
 hcx : cosA false x = (cx, false)
 hsx : sinA false x = (sx, false)
 hce : subS false cx E = (cx - E, false)
 hu : mulS false A (cx - E) = (u, false)
 hw1 : mulS false A r = (w1, false)
 hv : mulS false w1 sx = (v, false)
 hcq : cosA false peri = (cq, false)
 hsq : sinA false peri = (sq, false)
 h1 : mulS false u cq = (m1, false)
 h2 : mulS false v sq = (m2, false)
 ha : subS false m1 m2 = (m1 - m2, false)
 h3 : mulS false u sq = (m3, false)
 h4 : mulS false v cq = (m4, false)
 hb : addS false m3 m4 = (m3 + m4, false)
 hcn : cosA false node = (cn, false)
 hsn : sinA false node = (sn, false)
 h5 : mulS false (m1 - m2) cn = (m5, false)
 hbc : mulS false (m3 + m4) c = (bc, false)
 h6 : mulS false bc sn = (m6, false)
 hX : subS false m5 m6 = (m5 - m6, false)
 h7 : mulS false (m1 - m2) sn = (m7, false)
 h8 : mulS false bc cn = (m8, false)
 hY : addS false m7 m8 = (m7 + m8, false)
 hz : mulS false (m3 + m4) s = (z, false)
 flat : Flat A E cx sx e2 r w1 u v
 T1 : Trn u v sq cq m1 m2 m3 m4
 Z1 : Sc sq cq
 T3 : Trn (m1 - m2) bc sn cn m5 m6 m7 m8
 Z3 : Sc sn cn
 qbc : Ab (2 * (bc * 1099511627776 - (m3 + m4) * c)) 1099511627776
 qz : Ab (2 * (z * 1099511627776 - (m3 + m4) * s)) 1099511627776
 ab : Ab (m1 - m2) 19344904008183
 bb : Ab (m3 + m4) 19344904008183
 cb : Ab bc 19344904009169
 Xb : Ab (m5 - m6) 38689808019324
 Yb : Ab (m7 + m8) 38689808019324
 zb : Ab z 19344904009169
theorem Plane.far {A E e2 r s c node peri x low high : Int} (P : Plane A E e2 r s c node peri x) (sc : Sc s c) (hl : mulS false A (1099511627776 - E) = (low, false)) (hh : mulS false A (1099511627776 + E) = (high, false)) (l1 : 7232738120604 ≤ low) :
    ∃ N, normS false (P.m5 - P.m6) (P.m7 + P.m8) P.z = (N, false) ∧ 0 ≤ N ∧ N ≤ 96724520047817 ∧ low - 65536 ≤ N ∧ N ≤ high + 65536 := by
 have F := P.flat
 have S := turned_sq (flat_bd F) P.T1 P.Z1 P.qbc P.qz sc P.T3 P.Z3
 have a := mul_get hl
 have b := mul_get hh
 have p0 := Int.mul_nonneg (show 0 ≤ A by have := F.A1; omega) F.E1
 have e1 : A * (1099511627776 - E) = 1099511627776 * A - A * E := by grind
 have e2' : A * (1099511627776 + E) = 1099511627776 * A + A * E := by grind
 have h7 : 7000000000000 ≤ high := by
  have a2 := a.hi; have b1 := b.lo
  rw [e1] at a2
  rw [e2'] at b1
  omega
 have x1 := (P.Xb.mul P.Xb).hi; have y1 := (P.Yb.mul P.Yb).hi; have z1 := (P.zb.mul P.zb).hi
 have x0 := sq_nonneg (P.m5 - P.m6); have y0 := sq_nonneg (P.m7 + P.m8); have z0 := sq_nonneg P.z
 have hs := isq_spec ((P.m5 - P.m6) * (P.m5 - P.m6) + (P.m7 + P.m8) * (P.m7 + P.m8) + P.z * P.z) (by omega) (by omega)
 have nb : isq ((P.m5 - P.m6) * (P.m5 - P.m6) + (P.m7 + P.m8) * (P.m7 + P.m8) + P.z * P.z) ≤ 96724520047817 := by
  apply Classical.byContradiction
  intro g
  have := Int.mul_le_mul (show 96724520047817 ≤ isq ((P.m5 - P.m6) * (P.m5 - P.m6) + (P.m7 + P.m8) * (P.m7 + P.m8) + P.z * P.z) by omega) (show 96724520047817 ≤ isq ((P.m5 - P.m6) * (P.m5 - P.m6) + (P.m7 + P.m8) * (P.m7 + P.m8) + P.z * P.z) by omega) (by decide) (by omega)
  omega
 obtain ⟨f1, f2⟩ := far_near F S hs.1 hs.2.1 hs.2.2 a b l1 h7
 exact ⟨_, normS_make (P.Xb.numB (by decide)) (P.Yb.numB (by decide)) (P.zb.numB (by decide)) hs.1 (by omega) hs.2.1 hs.2.2, hs.1, nb, f1, f2⟩
end Go.Proofs.YtbophanlmkbfeaaGreatDoor
namespace Go.Proofs.YtbophanlmkbfeaaGreatDoor
structure Up (s c sn cn X Y z : Int) : Type where
 (g0 g1 f0 f1 f2 : Int)
 h0 : mulS false s sn = (g0, false)
 h1 : mulS false s cn = (g1, false)
 k0 : mulS false X g0 = (f0, false)
 k1 : mulS false Y (-g1) = (f1, false)
 k2 : mulS false z c = (f2, false)
 a1 : addS false f0 f1 = (f0 + f1, false)
 a2 : addS false (f0 + f1) f2 = (f0 + f1 + f2, false)
 gb0 : Ab g0 1099511627889
 gb1 : Ab g1 1099511627889
 lo : -65536 ≤ f0 + f1 + f2
 hi : f0 + f1 + f2 ≤ 65536
theorem Plane.up {A E e2 r s c node peri x : Int} (P : Plane A E e2 r s c node peri x) (sc : Sc s c) : Nonempty (Up s c P.sn P.cn (P.m5 - P.m6) (P.m7 + P.m8) P.z) := by
 obtain ⟨g0, h0, q0, gb0⟩ := mul_x (B := 1099511627889) sc.sb P.Z3.sb (by decide) (by decide) (by decide) (by decide)
 obtain ⟨g1, h1, q1, gb1⟩ := mul_x (B := 1099511627889) sc.sb P.Z3.cb (by decide) (by decide) (by decide) (by decide)
 obtain ⟨f0, k0, t0, fb0⟩ := mul_x (B := 38689808023301) P.Xb gb0 (by decide) (by decide) (by decide) (by decide)
 obtain ⟨f1, k1, t1, fb1⟩ := mul_x (B := 38689808023301) P.Yb gb1.neg (by decide) (by decide) (by decide) (by decide)
 obtain ⟨f2, k2, t2, fb2⟩ := mul_x (B := 19344904010155) P.zb sc.cb (by decide) (by decide) (by decide) (by decide)
 have T3 := P.T3
 have Xb := P.Xb; have Yb := P.Yb; have Z3 := P.Z3; have qbc := P.qbc; have qz := P.qz; have cb := P.cb
 have α : Ab (1099511627776 * (P.m5 - P.m6) - ((P.m1 - P.m2) * P.cn - P.bc * P.sn)) 1099511627776 := by
  have := T3.p1.lo; have := T3.p1.hi; have := T3.p2.lo; have := T3.p2.hi
  exact ⟨by omega, by omega⟩
 have β : Ab (1099511627776 * (P.m7 + P.m8) - ((P.m1 - P.m2) * P.sn + P.bc * P.cn)) 1099511627776 := by
  have := T3.p3.lo; have := T3.p3.hi; have := T3.p4.lo; have := T3.p4.hi
  exact ⟨by omega, by omega⟩
 generalize P.m5 - P.m6 = X at *
 generalize P.m7 + P.m8 = Y at *
 generalize P.m1 - P.m2 = a at *
 generalize P.m3 + P.m4 = b at *
 generalize P.bc = bc at *
 generalize P.z = z at *
 generalize P.sn = sn at *
 generalize P.cn = cn at *
 have key : 2 * (1329227995784915872903807060280344576 * (f0 + f1 + f2)) = 1208925819614629174706176 * (2 * (f0 * 1099511627776 - X * g0) + 2 * (f1 * 1099511627776 - Y * -g1) + 2 * (f2 * 1099511627776 - z * c)) + 1099511627776 * (X * (2 * (g0 * 1099511627776 - s * sn)) - Y * (2 * (g1 * 1099511627776 - s * cn)))
     + 1099511627776 * (2 * (z * 1099511627776 - b * s) * c) - 1099511627776 * (s * (2 * (bc * 1099511627776 - b * c))) + 2 * (s * ((1099511627776 * X - (a * cn - bc * sn)) * sn - (1099511627776 * Y - (a * sn + bc * cn)) * cn)) - 2 * (s * bc * (cn * cn + sn * sn - 1208925819614629174706176)) := by grind
 have u1 := Xb.mul q0
 have u2 := Yb.mul q1
 have u3 := qz.mul sc.cb
 have u4 := sc.sb.mul qbc
 have u5 := sc.sb.mul ((α.mul Z3.sb).sub (β.mul Z3.cb))
 have u6 := (sc.sb.mul cb).mul Z3.cs
 have l0 := t0.lo; have m0 := t0.hi; have l1 := t1.lo; have m1 := t1.hi; have l2 := t2.lo; have m2 := t2.hi
 have v1 := u1.lo; have w1 := u1.hi; have v2 := u2.lo; have w2 := u2.hi; have v3 := u3.lo; have w3 := u3.hi; have v4 := u4.lo; have w4 := u4.hi; have v5 := u5.lo; have w5 := u5.hi; have v6 := u6.lo; have w6 := u6.hi
 have fin : -65536 ≤ f0 + f1 + f2 ∧ f0 + f1 + f2 ≤ 65536 := by
  generalize X * (2 * (g0 * 1099511627776 - s * sn)) = U1 at *
  generalize Y * (2 * (g1 * 1099511627776 - s * cn)) = U2 at *
  generalize 2 * (z * 1099511627776 - b * s) * c = U3 at *
  generalize s * (2 * (bc * 1099511627776 - b * c)) = U4 at *
  generalize s * ((1099511627776 * X - (a * cn - bc * sn)) * sn - (1099511627776 * Y - (a * sn + bc * cn)) * cn) = U5 at *
  generalize s * bc * (cn * cn + sn * sn - 1208925819614629174706176) = U6 at *
  generalize 2 * (f0 * 1099511627776 - X * g0) = R0 at *
  generalize 2 * (f1 * 1099511627776 - Y * -g1) = R1 at *
  generalize 2 * (f2 * 1099511627776 - z * c) = R2 at *
  generalize f0 + f1 + f2 = F at *
  exact ⟨by omega, by omega⟩
 exact ⟨⟨g0, g1, f0, f1, f2, h0, h1, k0, k1, k2, add_near fb0 fb1 (by decide) (by decide) (by decide), add_near (fb0.add fb1) fb2 (by decide) (by decide) (by decide), gb0, gb1, fin.1, fin.2⟩⟩
end Go.Proofs.YtbophanlmkbfeaaGreatDoor
namespace Go.Proofs.YtbophanlmkbfeaaGreatDoor
open Go.RowKit
abbrev V7 := Int × Int × Int × Int × Int × Int × Int
def oFarC (a : Int) (k : Int) : Bool := let r1 := mulS false a (1099511627776 - k); let r2 := mulS r1.2 a (1099511627776 + k); if r2.2 then false else if r1.1 ≥ 7232738120604 then (decide (r2.1 ≤ 9211859050600)) else false
def oAngC (a : Int) : Bool := if (-6908435304716) ≤ a then (decide (a ≤ 6908435304716)) else false
def oRightC (o : V7) : Bool := if 0 ≤ o.2.1 then if o.2.1 ≤ 109951162777 then let r1 := oFarC o.1 o.2.1; if r1 then if 0 ≤ o.2.2.1 then if o.2.2.1 ≤ 3454217652358 then let r2 := oAngC o.2.2.2.1; if r2 then let r3 := oAngC o.2.2.2.2.1; if r3 then let r4 := oAngC o.2.2.2.2.2.1; if r4 then let r5 := cRight o.2.2.2.2.2.2; r5 else false else false else false else false else false else false else false else false
end Go.Proofs.YtbophanlmkbfeaaGreatDoor
namespace Go.Proofs.YtbophanlmkbfeaaGreatDoor
open Go.RowKit
def numK (s : ByteArray) (i : Nat) : Nat → Nat
 | 0 => 0
 | k + 1 => numK s i k * 256 + bt s (i + k)
theorem numK_lt (s : ByteArray) (i : Nat) : ∀ k, numK s i k < 256 ^ k
 | 0 => by show 0 < 1; decide
 | k + 1 => by
  have h := numK_lt s i k
  have := bt_lt s (i + k)
  show numK s i k * 256 + bt s (i + k) < 256 ^ k * 256
  omega
theorem numK_tail (s : ByteArray) (n i : Nat) : ∀ k, numK (s.extract n s.size) i k = numK s (n + i) k
 | 0 => rfl
 | k + 1 => by
  show numK _ i k * 256 + bt _ (i + k) = numK s (n + i) k * 256 + bt s (n + i + k)
  rw [numK_tail s n i k, bt_tail, Nat.add_assoc]
def onumS (s : ByteArray) (i : Nat) : Int := IntKind.i64.wrap (numK s i 8 : Nat)
theorem numS_tail (s : ByteArray) (n i : Nat) : onumS (s.extract n s.size) i = onumS s (n + i) := by
 unfold onumS
 rw [numK_tail]
def sizeS (c : Int) : Int := if c = 1 ∨ c = 2 ∨ c = 4 then 2 else if c = 3 then 58 else 0
def z7 : V7 := (0, 0, 0, 0, 0, 0, 0)
def ordE (s : ByteArray) : V7 := (onumS s 2, onumS s 10, onumS s 18, onumS s 26, onumS s 34, onumS s 42, onumS s 50)
def ordR (k : Int) (s : ByteArray) : (Int × Int × V7) × Int :=
 if s.size < 2 then ((0, 0, z7), 1)
 else if k ≠ 16 then (((bt s 0 : Nat), 0, z7), 1)
 else if sizeS (bt s 1 : Nat) = 0 then (((bt s 0 : Nat), 0, z7), 2)
 else if (s.size : Int) ≠ sizeS (bt s 1 : Nat) then (((bt s 0 : Nat), 0, z7), 1)
 else if ((bt s 1 : Nat) : Int) ≠ 3 then (((bt s 0 : Nat), (bt s 1 : Nat), z7), 0)
 else if oRightC (ordE s) then (((bt s 0 : Nat), 3, ordE s), 0)
 else (((bt s 0 : Nat), 0, z7), 3)
end Go.Proofs.YtbophanlmkbfeaaGreatDoor
namespace Go.Proofs.YtbophanlmkbfeaaGreatDoor
open Go.RowKit
set_option maxRecDepth 100000
set_option maxHeartbeats 20000000
theorem sizeOf_any (c : Int) (w : World) : Calls Tryz.prog 149 #[.int .i64 c] w fun e w' => e = .returned (.int .i64 (sizeS c)) ∧ w = w' := by
 by_cases h1 : c = 1
 ·subst h1
  go_enter Tryz.func149, Tryz.ntmps149
  go_wp2
  go_ret
  exact ⟨rfl, rfl⟩
 by_cases h2 : c = 2
 ·subst h2
  go_enter Tryz.func149, Tryz.ntmps149
  go_wp2
  go_ret
  exact ⟨rfl, rfl⟩
 by_cases h4 : c = 4
 ·subst h4
  go_enter Tryz.func149, Tryz.ntmps149
  go_wp2
  go_ret
  exact ⟨rfl, rfl⟩
 by_cases h3 : c = 3
 ·subst h3
  go_enter Tryz.func149, Tryz.ntmps149
  go_wp2
  go_ret
  exact ⟨rfl, rfl⟩
 have e : sizeS c = 0 := by unfold sizeS; rw [if_neg (by omega), if_neg h3]
 rw [e]
 go_enter Tryz.func149, Tryz.ntmps149
 go_wp2
 go_ret
 exact ⟨rfl, rfl⟩
theorem refused_any (q c : Int) (o : V7) (x : Int) (w : World) : Calls Tryz.prog 150 #[.agg #[.int .i64 q, .int .i64 c, .int .i64 o.1, .int .i64 o.2.1, .int .i64 o.2.2.1, .int .i64 o.2.2.2.1, .int .i64 o.2.2.2.2.1, .int .i64 o.2.2.2.2.2.1, .int .i64 o.2.2.2.2.2.2], .int .i64 x] w fun e w' => e = .returned (.tuple #[.agg #[.int .i64 q, .int .i64 0, .int .i64 0, .int .i64 0, .int .i64 0, .int .i64 0, .int .i64 0, .int .i64 0, .int .i64 0], .int .i64 x]) ∧ Below w.heap.size w w' := by
 go_enter Tryz.func150, Tryz.ntmps150
 go_wp2_with (with_reducible refine post_stop ?_)
 refine ⟨bodyPost_ret (v := .tuple #[.agg #[.int .i64 q, .int .i64 0, .int .i64 0, .int .i64 0, .int .i64 0, .int .i64 0, .int .i64 0, .int .i64 0, .int .i64 0], .int .i64 x]) (by simp [results_cell_tmp Tryz.results150, asAddr, go_sem]) rfl ⟨rfl, ?_⟩⟩
 exact bel_al (bel_al (Below.refl _ _) _) _
theorem or64u {a b : Nat} (ha : a < 72057594037927936) (hb : b < 256) : bits .or .u64 ((a : Int) * 256) (b : Int) = ((a * 256 + b : Nat) : Int) := by
 rw [show (a : Int) * 256 = ((a * 256 : Nat) : Int) by omega]
 show IntKind.u64.wrap ((BitVec.ofInt 64 ((a * 256 : Nat) : Int) ||| BitVec.ofInt 64 (b : Int)).toNat : Int) = _
 have e := Nat.two_pow_add_eq_or_of_lt (i := 8) (show b < 2 ^ 8 by omega) a
 rw [BitVec.toNat_or, ofInt_u64 _ (by omega), ofInt_u64 b (by omega), show a * 256 = 2 ^ 8 * a by omega, ← e]
 rw [IntKind.wrap_u64]
 omega
theorem joined_any (s : ByteArray) (w : World) (h : 8 ≤ s.size) :
    Calls Tryz.prog 208 #[.string s] w fun e w' => e = .returned (.int .i64 (onumS s 0)) ∧ w = w' := by
 go_enter Tryz.func208, Tryz.ntmps208
 go_wp2
 go_loop [3, 5] (fun r i => ∃ k : Nat, k ≤ 8 ∧ i = .int .i64 k ∧ r = .int .u64 (numK s 0 k : Nat)) (fun _ i => 8 - (intOf i).toNat)
 case atStart => exact ⟨0, by omega, rfl, rfl⟩
 case round =>
  obtain ⟨k, hk, rfl, rfl⟩ := hrel
  by_cases c : k < 8
  ·have hi := idx_run (s := s) (i := (k : Int)) (n := k) (by omega) rfl
   have hb := bt_lt s k
   have ht : numK s 0 k < 72057594037927936 := Nat.lt_of_lt_of_le (numK_lt s 0 k) (show 256 ^ k ≤ 256 ^ 7 from Nat.pow_le_pow_right (by decide) (by omega))
   have HT : Hid (numK s 0 (k + 1) = numK s 0 k * 256 + bt s k) := by show numK s 0 k * 256 + bt s (0 + k) = _; rw [Nat.zero_add]
   generalize numK s 0 k = t at ht HT ⊢
   generalize bt s k = b at hi hb HT
   have ho := or64u ht hb
   go_wp2
   go_round
   case rel => exact ⟨k + 1, by omega, by go_num, by rw [HT.out]; show _ = Value.int .u64 ((t * 256 + b : Nat) : Int); rw [show ((t * 256 + b : Nat) : Int) = (t : Int) * 256 + b by omega]⟩
   case measure => simp [intOf]; omega
  ·obtain rfl : k = 8 := by omega
   have HT : Hid (onumS s 0 = IntKind.i64.wrap (numK s 0 8 : Nat)) := rfl
   have hl := numK_lt s 0 8
   generalize numK s 0 8 = t at HT hl ⊢
   go_wp2
   go_ret
   exact ⟨by rw [HT.out, IntWalk.i64_left]; rfl, rfl⟩
theorem elAt_any (p : Nat) (hp : p < 7) (s : ByteArray) (k : Nat) (w : World) (hs : s.size = 56) (hc : w.cell? ⟨k, 0, none⟩ = some (.string s)) :
    Calls Tryz.prog 207 #[.int .i64 p, .pointer (some ⟨k, 0, none⟩)] w fun e w' => e = .returned (.int .i64 (onumS s (8 * p))) ∧ w = w' := by
 have hj := fun W => joined_any (s.extract (8 * p) s.size) W (by rw [ByteArray.size_extract]; omega)
 rw [numS_tail, Nat.add_zero] at hj
 have hsl : ∀ W : World, (Instr.slice 9 (.string s) (some (.int .i64 ((p : Int) * 8))) none none).run Tryz.prog W = .ok (.string (s.extract (8 * p) s.size)) W := fun W => by
  rw [run_slice_string_from_if W 9 s .i64 ((p : Int) * 8) Tryz.underlying9, if_pos (by omega), show ((p : Int) * 8).toNat = 8 * p by omega]
 generalize s.extract (8 * p) s.size = y at *
 generalize onumS s (8 * p) = x at *
 go_enter Tryz.func207, Tryz.ntmps207
 go_wp2_with (go_at_call 208; refine (hj _).mono ?_; rintro e X ⟨rfl, rfl⟩)
 go_ret
 exact ⟨rfl, rfl⟩
end Go.Proofs.YtbophanlmkbfeaaGreatDoor
namespace Go.Proofs.YtbophanlmkbfeaaGreatDoor
open Go.RowKit
set_option maxRecDepth 100000
set_option maxHeartbeats 20000000
@[go_sem] theorem idx_seven0 (a b c d e f g : Int) (w : World) : (Instr.index 215 (.agg #[.int .i64 a, .int .i64 b, .int .i64 c, .int .i64 d, .int .i64 e, .int .i64 f, .int .i64 g]) (.int .i64 0)).run Tryz.prog w = .ok (.int .i64 a) w := by kernel_rfl
@[go_sem] theorem idx_seven1 (a b c d e f g : Int) (w : World) : (Instr.index 215 (.agg #[.int .i64 a, .int .i64 b, .int .i64 c, .int .i64 d, .int .i64 e, .int .i64 f, .int .i64 g]) (.int .i64 1)).run Tryz.prog w = .ok (.int .i64 b) w := by kernel_rfl
@[go_sem] theorem idx_seven2 (a b c d e f g : Int) (w : World) : (Instr.index 215 (.agg #[.int .i64 a, .int .i64 b, .int .i64 c, .int .i64 d, .int .i64 e, .int .i64 f, .int .i64 g]) (.int .i64 2)).run Tryz.prog w = .ok (.int .i64 c) w := by kernel_rfl
@[go_sem] theorem idx_seven3 (a b c d e f g : Int) (w : World) : (Instr.index 215 (.agg #[.int .i64 a, .int .i64 b, .int .i64 c, .int .i64 d, .int .i64 e, .int .i64 f, .int .i64 g]) (.int .i64 3)).run Tryz.prog w = .ok (.int .i64 d) w := by kernel_rfl
@[go_sem] theorem idx_seven4 (a b c d e f g : Int) (w : World) : (Instr.index 215 (.agg #[.int .i64 a, .int .i64 b, .int .i64 c, .int .i64 d, .int .i64 e, .int .i64 f, .int .i64 g]) (.int .i64 4)).run Tryz.prog w = .ok (.int .i64 e) w := by kernel_rfl
@[go_sem] theorem idx_seven5 (a b c d e f g : Int) (w : World) : (Instr.index 215 (.agg #[.int .i64 a, .int .i64 b, .int .i64 c, .int .i64 d, .int .i64 e, .int .i64 f, .int .i64 g]) (.int .i64 5)).run Tryz.prog w = .ok (.int .i64 f) w := by kernel_rfl
@[go_sem] theorem idx_seven6 (a b c d e f g : Int) (w : World) : (Instr.index 215 (.agg #[.int .i64 a, .int .i64 b, .int .i64 c, .int .i64 d, .int .i64 e, .int .i64 f, .int .i64 g]) (.int .i64 6)).run Tryz.prog w = .ok (.int .i64 g) w := by kernel_rfl
theorem elements_any (s : ByteArray) (w : World) (hs : s.size = 56) :
    Calls Tryz.prog 151 #[.string s] w fun e w' => e = .returned (.agg #[.int .i64 (onumS s 0), .int .i64 (onumS s 8), .int .i64 (onumS s 16), .int .i64 (onumS s 24), .int .i64 (onumS s 32), .int .i64 (onumS s 40), .int .i64 (onumS s 48)]) ∧ Below w.heap.size w w' := by
 have hmf : ∀ (fn : Fn) (first cap : Array Value) (W : World), (Instr.makeFunc fn first cap).run Tryz.prog W = .ok (.func fn first cap) W := fun _ _ _ _ => rfl
 have A := (Arr_at w w.heap.size [.string s] 9 rfl).alloc (.cells #[.int .i64 0, .int .i64 0, .int .i64 0, .int .i64 0, .int .i64 0, .int .i64 0, .int .i64 0] 28)
 have c0 := A.c 0 (zD rfl)
 have C0 : Hid _ := c0
 clear A c0
 have h0 := fun W c => elAt_any 0 (by decide) s w.heap.size W hs c
 rw [show 8 * 0 = 0 from rfl] at h0
 generalize onumS s 0 = x0 at h0 ⊢
 have h1 := fun W c => elAt_any 1 (by decide) s w.heap.size W hs c
 rw [show 8 * 1 = 8 from rfl] at h1
 generalize onumS s 8 = x1 at h1 ⊢
 have h2 := fun W c => elAt_any 2 (by decide) s w.heap.size W hs c
 rw [show 8 * 2 = 16 from rfl] at h2
 generalize onumS s 16 = x2 at h2 ⊢
 have h3 := fun W c => elAt_any 3 (by decide) s w.heap.size W hs c
 rw [show 8 * 3 = 24 from rfl] at h3
 generalize onumS s 24 = x3 at h3 ⊢
 have h4 := fun W c => elAt_any 4 (by decide) s w.heap.size W hs c
 rw [show 8 * 4 = 32 from rfl] at h4
 generalize onumS s 32 = x4 at h4 ⊢
 have h5 := fun W c => elAt_any 5 (by decide) s w.heap.size W hs c
 rw [show 8 * 5 = 40 from rfl] at h5
 generalize onumS s 40 = x5 at h5 ⊢
 have h6 := fun W c => elAt_any 6 (by decide) s w.heap.size W hs c
 rw [show 8 * 6 = 48 from rfl] at h6
 generalize onumS s 48 = x6 at h6 ⊢
 go_enter Tryz.func151, Tryz.ntmps151
 go_wp2_with fail
 refine (h0 _ C0.out).mono ?_
 rintro e X ⟨rfl, rfl⟩
 go_wp2_with fail
 refine (h1 _ C0.out).mono ?_
 rintro e X ⟨rfl, rfl⟩
 go_wp2_with fail
 refine (h2 _ C0.out).mono ?_
 rintro e X ⟨rfl, rfl⟩
 go_wp2_with fail
 refine (h3 _ C0.out).mono ?_
 rintro e X ⟨rfl, rfl⟩
 go_wp2_with fail
 refine (h4 _ C0.out).mono ?_
 rintro e X ⟨rfl, rfl⟩
 go_wp2_with fail
 refine (h5 _ C0.out).mono ?_
 rintro e X ⟨rfl, rfl⟩
 go_wp2_with fail
 refine (h6 _ C0.out).mono ?_
 rintro e X ⟨rfl, rfl⟩
 go_wp2_with (with_reducible refine post_stop ?_)
 refine ⟨bodyPost_ret (v := .agg #[.int .i64 x0, .int .i64 x1, .int .i64 x2, .int .i64 x3, .int .i64 x4, .int .i64 x5, .int .i64 x6]) (by simp [results, Tryz.results151, asAddr, go_sem]) rfl ⟨rfl, ?_⟩⟩
 exact bel_al (bel_al (Below.refl _ _) _) _
end Go.Proofs.YtbophanlmkbfeaaGreatDoor
namespace Go.Proofs.YtbophanlmkbfeaaGreatDoor
open Go.RowKit
set_option maxRecDepth 100000
set_option maxHeartbeats 20000000
theorem oFar_any (a : Int) (k : Int) (w : World) (he0 : 0 ≤ k) (he1 : k ≤ 109951162777) :
    Calls Tryz.prog 154 #[.int .i64 a, .int .i64 k] w fun e w' => e = .returned (.bool (oFarC a k)) ∧ Below w.heap.size w w' := by
 go_enter Tryz.func154, Tryz.ntmps154
 go_wp2_with fail
 refine (Mul_any w.heap.size false a (1099511627776 - k) _ (Fl_at _ _ _ _ (by simp))).mono ?_
 rintro e w1 ⟨rfl, f1, k1⟩
 generalize e1 : mulS false a (1099511627776 - k) = r1 at f1 ⊢
 have E1 : Hid _ := e1
 clear e1
 have K1 : Below w.heap.size w w1 := k1.on (bel_al (Below.refl w.heap.size w) _) (by omega)
 have z1 := f1.lies
 clear k1
 go_wp2_with fail
 refine (Mul_any w.heap.size r1.2 a (1099511627776 + k) _ f1).mono ?_
 rintro e w2 ⟨rfl, f2, k2⟩
 generalize e2 : mulS r1.2 a (1099511627776 + k) = r2 at f2 ⊢
 have E2 : Hid _ := e2
 clear e2
 have K2 : Below w.heap.size w w2 := k2.on K1 (by omega)
 have z2 := f2.lies
 clear K1 f1 k2
 rcases Bool.eq_false_or_eq_true r2.2 with hc1 | hc1
 ·have Hhc1 : Hid (r2.2 = true) := hc1
  have c3_B0 := f2.cell
  go_wp2
  clear c3_B0
  go_ret
  have hs : oFarC a k = false := by unfold oFarC; simp only [E1.out, E2.out]; rw [if_pos Hhc1.out]
  rw [hs]
  exact ⟨rfl, K2⟩
 ·have Hhc1 : Hid (r2.2 = false) := hc1
  by_cases hc2 : r1.1 ≥ 7232738120604
  ·have Hhc2 : Hid (r1.1 ≥ 7232738120604) := hc2
   have c3_B0 := f2.cell
   go_wp2
   clear c3_B0
   go_ret
   have hs : oFarC a k = (decide (r2.1 ≤ 9211859050600)) := by unfold oFarC; simp only [E1.out, E2.out]; rw [if_neg (by rw [Hhc1.out]; decide)]; rw [if_pos (by have := Hhc2.out; omega)]
   rw [hs]
   exact ⟨rfl, K2⟩
  ·have Hhc2 : Hid (¬ r1.1 ≥ 7232738120604) := hc2
   have c3_B0 := f2.cell
   go_wp2
   clear c3_B0
   go_ret
   have hs : oFarC a k = false := by unfold oFarC; simp only [E1.out, E2.out]; rw [if_neg (by rw [Hhc1.out]; decide)]; rw [if_neg (by have := Hhc2.out; omega)]
   rw [hs]
   exact ⟨rfl, K2⟩
theorem oAng_any (a : Int) (w : World) :
    Calls Tryz.prog 155 #[.int .i64 a] w fun e w' => e = .returned (.bool (oAngC a)) ∧ Below w.heap.size w w' := by
 go_enter Tryz.func155, Tryz.ntmps155
 by_cases hc1 : (-6908435304716) ≤ a
 ·have Hhc1 : Hid ((-6908435304716) ≤ a) := hc1
  go_wp2
  go_ret
  have hs : oAngC a = (decide (a ≤ 6908435304716)) := by unfold oAngC; rw [if_pos (by have := Hhc1.out; omega)]
  rw [hs]
  exact ⟨rfl, (Below.refl w.heap.size w)⟩
 ·have Hhc1 : Hid (¬ (-6908435304716) ≤ a) := hc1
  go_wp2
  go_ret
  have hs : oAngC a = false := by unfold oAngC; rw [if_neg (by have := Hhc1.out; omega)]
  rw [hs]
  exact ⟨rfl, (Below.refl w.heap.size w)⟩
theorem oRightC_any (o : V7) (w : World) :
    Calls Tryz.prog 89 #[.agg #[.int .i64 o.1, .int .i64 o.2.1, .int .i64 o.2.2.1, .int .i64 o.2.2.2.1, .int .i64 o.2.2.2.2.1, .int .i64 o.2.2.2.2.2.1, .int .i64 o.2.2.2.2.2.2]] w fun e w' => e = .returned (.bool (oRightC o)) ∧ Below w.heap.size w w' := by
 go_enter Tryz.func89, Tryz.ntmps89
 by_cases hc1 : 0 ≤ o.2.1
 ·have Hhc1 : Hid (0 ≤ o.2.1) := hc1
  by_cases hc2 : o.2.1 ≤ 109951162777
  ·have Hhc2 : Hid (o.2.1 ≤ 109951162777) := hc2
   go_wp2_with fail
   refine (oFar_any o.1 o.2.1 _ (by omega) (by omega)).mono ?_
   rintro e w1 ⟨rfl, k1⟩
   generalize e1 : oFarC o.1 o.2.1 = r1
   have E1 : Hid _ := e1
   clear e1
   have K1 : Below w.heap.size w w1 := bel_then (bel_al (Below.refl w.heap.size w) _) k1
   have B0_1 := (Arr_at _ w.heap.size [.int .i64 o.1, .int .i64 o.2.1, .int .i64 o.2.2.1, .int .i64 o.2.2.2.1, .int .i64 o.2.2.2.2.1, .int .i64 o.2.2.2.2.2.1, .int .i64 o.2.2.2.2.2.2] _ (by simp)).below k1
   have z1 := B0_1.lies
   clear k1
   rcases Bool.eq_false_or_eq_true r1 with hc3 | hc3
   ·have Hhc3 : Hid (r1 = true) := hc3
    by_cases hc4 : 0 ≤ o.2.2.1
    ·have Hhc4 : Hid (0 ≤ o.2.2.1) := hc4
     by_cases hc5 : o.2.2.1 ≤ 3454217652358
     ·have Hhc5 : Hid (o.2.2.1 ≤ 3454217652358) := hc5
      have c2_B0_2 : w1.cell? ⟨w.heap.size, 2, none⟩ = some (.int .i64 o.2.2.1) := B0_1.c 2 (zD rfl)
      have c2_B0_3 : w1.cell? ⟨w.heap.size, 3, none⟩ = some (.int .i64 o.2.2.2.1) := B0_1.c 3 (zD rfl)
      go_wp2_with fail
      refine (oAng_any o.2.2.2.1 _).mono ?_
      rintro e w2 ⟨rfl, k2⟩
      generalize e2 : oAngC o.2.2.2.1 = r2
      have E2 : Hid _ := e2
      clear e2
      have K2 : Below w.heap.size w w2 := bel_then K1 k2
      have B0_2 := B0_1.below k2
      have z2 := B0_2.lies
      clear c2_B0_2 c2_B0_3 K1 B0_1 k2
      rcases Bool.eq_false_or_eq_true r2 with hc6 | hc6
      ·have Hhc6 : Hid (r2 = true) := hc6
       have c3_B0_4 : w2.cell? ⟨w.heap.size, 4, none⟩ = some (.int .i64 o.2.2.2.2.1) := B0_2.c 4 (zD rfl)
       go_wp2_with fail
       refine (oAng_any o.2.2.2.2.1 _).mono ?_
       rintro e w3 ⟨rfl, k3⟩
       generalize e3 : oAngC o.2.2.2.2.1 = r3
       have E3 : Hid _ := e3
       clear e3
       have K3 : Below w.heap.size w w3 := bel_then K2 k3
       have B0_3 := B0_2.below k3
       have z3 := B0_3.lies
       clear c3_B0_4 K2 B0_2 k3
       rcases Bool.eq_false_or_eq_true r3 with hc7 | hc7
       ·have Hhc7 : Hid (r3 = true) := hc7
        have c4_B0_5 : w3.cell? ⟨w.heap.size, 5, none⟩ = some (.int .i64 o.2.2.2.2.2.1) := B0_3.c 5 (zD rfl)
        go_wp2_with fail
        refine (oAng_any o.2.2.2.2.2.1 _).mono ?_
        rintro e w4 ⟨rfl, k4⟩
        generalize e4 : oAngC o.2.2.2.2.2.1 = r4
        have E4 : Hid _ := e4
        clear e4
        have K4 : Below w.heap.size w w4 := bel_then K3 k4
        have B0_4 := B0_3.below k4
        have z4 := B0_4.lies
        clear c4_B0_5 K3 B0_3 k4
        rcases Bool.eq_false_or_eq_true r4 with hc8 | hc8
        ·have Hhc8 : Hid (r4 = true) := hc8
         have c5_B0_6 : w4.cell? ⟨w.heap.size, 6, none⟩ = some (.int .i64 o.2.2.2.2.2.2) := B0_4.c 6 (zD rfl)
         go_wp2_with fail
         refine (cRight_any o.2.2.2.2.2.2 _).mono ?_
         rintro e w5 ⟨rfl, k5⟩
         generalize e5 : cRight o.2.2.2.2.2.2 = r5
         have E5 : Hid _ := e5
         clear e5
         have K5 : Below w.heap.size w w5 := bel_then K4 k5
         have B0_5 := B0_4.below k5
         have z5 := B0_5.lies
         clear c5_B0_6 K4 B0_4 k5
         go_wp2
         go_ret
         have hs : oRightC o = r5 := by unfold oRightC; simp only [E1.out, E2.out, E3.out, E4.out, E5.out]; rw [if_pos (by have := Hhc1.out; omega)]; rw [if_pos (by have := Hhc2.out; omega)]; rw [if_pos Hhc3.out]; rw [if_pos (by have := Hhc4.out; omega)]; rw [if_pos (by have := Hhc5.out; omega)]; rw [if_pos Hhc6.out]; rw [if_pos Hhc7.out]; rw [if_pos Hhc8.out]
         rw [hs]
         exact ⟨rfl, K5⟩
        ·have Hhc8 : Hid (r4 = false) := hc8
         go_wp2
         go_ret
         have hs : oRightC o = false := by unfold oRightC; simp only [E1.out, E2.out, E3.out, E4.out]; rw [if_pos (by have := Hhc1.out; omega)]; rw [if_pos (by have := Hhc2.out; omega)]; rw [if_pos Hhc3.out]; rw [if_pos (by have := Hhc4.out; omega)]; rw [if_pos (by have := Hhc5.out; omega)]; rw [if_pos Hhc6.out]; rw [if_pos Hhc7.out]; rw [if_neg (by rw [Hhc8.out]; decide)]
         rw [hs]
         exact ⟨rfl, K4⟩
       ·have Hhc7 : Hid (r3 = false) := hc7
        go_wp2
        go_ret
        have hs : oRightC o = false := by unfold oRightC; simp only [E1.out, E2.out, E3.out]; rw [if_pos (by have := Hhc1.out; omega)]; rw [if_pos (by have := Hhc2.out; omega)]; rw [if_pos Hhc3.out]; rw [if_pos (by have := Hhc4.out; omega)]; rw [if_pos (by have := Hhc5.out; omega)]; rw [if_pos Hhc6.out]; rw [if_neg (by rw [Hhc7.out]; decide)]
        rw [hs]
        exact ⟨rfl, K3⟩
      ·have Hhc6 : Hid (r2 = false) := hc6
       go_wp2
       go_ret
       have hs : oRightC o = false := by unfold oRightC; simp only [E1.out, E2.out]; rw [if_pos (by have := Hhc1.out; omega)]; rw [if_pos (by have := Hhc2.out; omega)]; rw [if_pos Hhc3.out]; rw [if_pos (by have := Hhc4.out; omega)]; rw [if_pos (by have := Hhc5.out; omega)]; rw [if_neg (by rw [Hhc6.out]; decide)]
       rw [hs]
       exact ⟨rfl, K2⟩
     ·have Hhc5 : Hid (¬ o.2.2.1 ≤ 3454217652358) := hc5
      have c2_B0_2 : w1.cell? ⟨w.heap.size, 2, none⟩ = some (.int .i64 o.2.2.1) := B0_1.c 2 (zD rfl)
      go_wp2
      clear c2_B0_2
      go_ret
      have hs : oRightC o = false := by unfold oRightC; simp only [E1.out]; rw [if_pos (by have := Hhc1.out; omega)]; rw [if_pos (by have := Hhc2.out; omega)]; rw [if_pos Hhc3.out]; rw [if_pos (by have := Hhc4.out; omega)]; rw [if_neg (by have := Hhc5.out; omega)]
      rw [hs]
      exact ⟨rfl, K1⟩
    ·have Hhc4 : Hid (¬ 0 ≤ o.2.2.1) := hc4
     have c2_B0_2 : w1.cell? ⟨w.heap.size, 2, none⟩ = some (.int .i64 o.2.2.1) := B0_1.c 2 (zD rfl)
     go_wp2
     clear c2_B0_2
     go_ret
     have hs : oRightC o = false := by unfold oRightC; simp only [E1.out]; rw [if_pos (by have := Hhc1.out; omega)]; rw [if_pos (by have := Hhc2.out; omega)]; rw [if_pos Hhc3.out]; rw [if_neg (by have := Hhc4.out; omega)]
     rw [hs]
     exact ⟨rfl, K1⟩
   ·have Hhc3 : Hid (r1 = false) := hc3
    go_wp2
    go_ret
    have hs : oRightC o = false := by unfold oRightC; simp only [E1.out]; rw [if_pos (by have := Hhc1.out; omega)]; rw [if_pos (by have := Hhc2.out; omega)]; rw [if_neg (by rw [Hhc3.out]; decide)]
    rw [hs]
    exact ⟨rfl, K1⟩
  ·have Hhc2 : Hid (¬ o.2.1 ≤ 109951162777) := hc2
   go_wp2
   go_ret
   have hs : oRightC o = false := by unfold oRightC; rw [if_pos (by have := Hhc1.out; omega)]; rw [if_neg (by have := Hhc2.out; omega)]
   rw [hs]
   exact ⟨rfl, (bel_al (Below.refl w.heap.size w) _)⟩
 ·have Hhc1 : Hid (¬ 0 ≤ o.2.1) := hc1
  go_wp2
  go_ret
  have hs : oRightC o = false := by unfold oRightC; rw [if_neg (by have := Hhc1.out; omega)]
  rw [hs]
  exact ⟨rfl, (bel_al (Below.refl w.heap.size w) _)⟩
end Go.Proofs.YtbophanlmkbfeaaGreatDoor
