/-
  The field's sums: all terms of them are good, by crude bounds, for the seat YtoadcnhcfodkgaaGreatDoor. No Go text in sight.
-/
import Derived.Test.YtoadcnhcfodkgaaGreatDoorFcB
import Derived.Test.YtoadcnhcfodkgaaGreatDoorFldG
namespace Go.Proofs.YtoadcnhcfodkgaaGreatDoor

theorem times_c {z k L : Int} (hz : Ab z L) (hL : L ≤ 288230376151711744) (k0 : 0 ≤ k) (k1 : k ≤ 7) : partS false z k 1 = (z * k, false) := by
  have hz := hz.le hL
  obtain ⟨m, e, h1, h2, _⟩ := partS_near z k 1 (hz.numB (by decide)) (numB_of ⟨by omega, by omega⟩) (by rfl) (by decide) (by
    have a := sz_le ⟨hz.lo, hz.hi⟩
    have b : sz k ≤ 7 := sz_le ⟨by omega, k1⟩
    have := Int.mul_le_mul a b (le_sz k).2.2 (by decide)
    omega)
  rw [e]
  have : m = z * k := by omega
  rw [this]
/-- A product of numbers within K and L, within B. -/
def fits (K L B : Int) : Prop := K * L ≤ 2535301200456458802993406410752 ∧ K ≤ 4611686018427387904 ∧ L ≤ 4611686018427387904 ∧ 2 * (K * L) + 1099511627776 ≤ 2 * (B * 1099511627776)
theorem fits.x {a b K L B : Int} (f : fits K L B) (ha : Ab a K) (hb : Ab b L) : ∃ m, mulS false a b = (m, false) ∧ Ab m B := by
  obtain ⟨m, e, _, h⟩ := mul_x (B := B) ha hb f.1 f.2.1 f.2.2.1 f.2.2.2
  exact ⟨m, e, h⟩
/-- W: the wave, G: g and h, A, B: P and D, E: what they come to, M, N: its products, K: the sums so far. -/
structure TermN (n m W G A B E M N K1 K2 K3 : Int) : Prop where
  e : fits G W E
  m1 : fits (E + E) A M
  m2 : fits (E + E) B N
  t1 : fits 2199023255552 M (2 * M + 1)
  t2 : fits 2199023255552 N (2 * N + 1)
  E1 : E ≤ 1152921504606846976
  M1 : 2 * M + 1 ≤ 288230376151711744
  N1 : 2 * N + 1 ≤ 1152921504606846976
  k1 : K1 + (2 * M + 1) * 7 ≤ 4611686018427387904
  k2 : K2 + (2 * N + 1) ≤ 4611686018427387904
  k3 : K3 + (2 * M + 1) * 6 ≤ 4611686018427387904
  k0 : 0 ≤ E ∧ 0 ≤ M ∧ 0 ≤ N ∧ 0 ≤ K1 ∧ 0 ≤ K2 ∧ 0 ≤ K3
theorem term_c {n m t C S g h W G A B E M N K1 K2 K3 : Int} {x st : V3} (n0 : 0 ≤ n) (n1 : n ≤ 6) (m0 : 0 ≤ m) (m1 : m ≤ 6) (t0 : 0 ≤ t) (t1 : t ≤ 2199023255552) (Cb : Ab C W) (Sb' : Ab S W) (gb : Ab g G) (hb : Ab h G) (X : Sb A B x) (s1 : Ab st.1 K1) (s2 : Ab st.2.1 K2) (s3 : Ab st.2.2 K3) (T : TermN n m W G A B E M N K1 K2 K3) :
    ∃ z, termS false n m t C S g h x st = (z, false) ∧ Ab z.1 (K1 + (2 * M + 1) * 7) ∧ Ab z.2.1 (K2 + (2 * N + 1)) ∧ Ab z.2.2 (K3 + (2 * M + 1) * 6) ∧ Nonempty (TermT n m t C S g h x.1 x.2.1 x.2.2 st.1 st.2.1 st.2.2 z.1 z.2.1 z.2.2) := by
  have tb : Ab t 2199023255552 := ⟨by omega, t1⟩
  have z0 := T.k0; have zE := T.E1; have zM := T.M1; have zN := T.N1; have q1 := T.k1; have q2 := T.k2; have q3 := T.k3
  obtain ⟨v1, h1, b1⟩ := T.e.x gb Cb
  obtain ⟨v2, h2, b2⟩ := T.e.x hb Sb'
  have h3 := add_near b1 b2 (by omega) (by omega) (by omega)
  obtain ⟨v4, h4, b4⟩ := T.e.x gb Sb'
  obtain ⟨v5, h5, b5⟩ := T.e.x hb Cb
  have h6 := sub_near b4 b5 (by omega) (by omega) (by omega)
  obtain ⟨y1, i1, c1⟩ := T.m1.x (b1.add b2) X.p
  obtain ⟨z1, j1, d1⟩ := T.t1.x tb c1
  obtain ⟨y2, i2, c2⟩ := T.m2.x (b1.add b2) X.d
  obtain ⟨z2, j2, d2⟩ := T.t2.x tb c2
  obtain ⟨y3, i3, c3⟩ := T.m1.x (b4.sub b5) X.q
  obtain ⟨z3, j3, d3⟩ := T.t1.x tb c3
  have p1 := times_c (k := n + 1) d1 zM (by omega) (by omega)
  have p3 := times_c (k := m) d3 zM (by omega) (by omega)
  have f1 : Ab (z1 * (n + 1)) ((2 * M + 1) * 7) := d1.mul (L := 7) ⟨by omega, by omega⟩
  have f3 : Ab (z3 * m) ((2 * M + 1) * 6) := d3.mul (L := 6) ⟨by omega, by omega⟩
  have a1 := add_near s1 f1 q1 (by omega) (by omega)
  have a2 := sub_near s2 d2 q2 (by omega) (by omega)
  have a3 := add_near s3 f3 q3 (by omega) (by omega)
  refine ⟨(st.1 + z1 * (n + 1), st.2.1 - z2, st.2.2 + z3 * m), ?_, s1.add f1, s2.sub d2, s3.add f3, ⟨⟨v1, v2, v1 + v2, v4, v5, v4 - v5, y1, z1, z1 * (n + 1), y2, z2, y3, z3, z3 * m, h1, h2, h3, h4, h5, h6, i1, j1, p1, a1, i2, j2, a2, i3, j3, p3, a3, fun h => ?_⟩⟩⟩
  · unfold termS
    by_cases hm : 0 < m
    · simp only [h1, h2, h3, h4, h5, h6, i1, j1, p1, a1, i2, j2, a2, if_pos hm, i3, j3, p3, a3]
    · obtain rfl : m = 0 := by omega
      simp only [h1, h2, h3, h4, h5, h6, i1, j1, p1, a1, i2, j2, a2, if_neg hm, Int.mul_zero, Int.add_zero]
  · dsimp only
    rw [h, Int.mul_zero, Int.add_zero]
/-! ### By numbers -/
def fcG (n m : Nat) : Int := if n ≤ 2 then max ((fG n m).natAbs + 5 * (fGy n m).natAbs) ((fH n m).natAbs + 5 * (fHy n m).natAbs) else max (fG n m).natAbs (fH n m).natAbs
theorem fcG_year {y a b : Int} {K : Int} (y0 : 0 ≤ y) (y1 : y ≤ 5497558138880) (hb : Ab b 40000000000) (h : (a.natAbs : Int) + 5 * b.natAbs ≤ K) : Ab (a + (mulS false y b).1) K := by
  obtain ⟨x, e, l, u⟩ := year_at y0 y1 hb
  rw [e]
  dsimp only
  exact ⟨by omega, by omega⟩
theorem gS_c {y : Int} (y0 : 0 ≤ y) (y1 : y ≤ 5497558138880) (n m : Nat) : Ab (gS y n m) (fcG n m) ∧ Ab (hS y n m) (fcG n m) := by
  unfold gS hS fcG
  split
  · exact ⟨fcG_year y0 y1 (fGy_bd n m) (by omega), fcG_year y0 y1 (fHy_bd n m) (by omega)⟩
  · exact ⟨⟨by omega, by omega⟩, ⟨by omega, by omega⟩⟩
def fcE (n m : Nat) : Int := fcG n m * fcW m / 1099511627776 + 2
def fcM (n m : Nat) : Int := (fcE n m + fcE n m) * fcA n / 1099511627776 + 2
def fcN (n m : Nat) : Int := (fcE n m + fcE n m) * fcB n / 1099511627776 + 2
def fcI (n : Nat) (s : V3) : Nat → V3
  | 0 => s
  | m + 1 => ((fcI n s m).1 + (2 * fcM n m + 1) * 7, (fcI n s m).2.1 + (2 * fcN n m + 1), (fcI n s m).2.2 + (2 * fcM n m + 1) * 6)
def fcO : Nat → V3
  | 0 => (0, 0, 0)
  | k + 1 => fcI (k + 1) (fcO k) (k + 2)
def fitB (K L B : Int) : Bool := decide (K * L ≤ 2535301200456458802993406410752) && decide (K ≤ 4611686018427387904) && decide (L ≤ 4611686018427387904) && decide (2 * (K * L) + 1099511627776 ≤ 2 * (B * 1099511627776))
theorem fitB_is {K L B : Int} (h : fitB K L B = true) : fits K L B := by
  unfold fitB at h
  simp only [Bool.and_eq_true, decide_eq_true_eq] at h
  exact ⟨h.1.1.1, h.1.1.2, h.1.2, h.2⟩
def fcOK (n m : Nat) : Bool := fitB (fcG n m) (fcW m) (fcE n m) && (fitB (fcE n m + fcE n m) (fcA n) (fcM n m) && (fitB (fcE n m + fcE n m) (fcB n) (fcN n m) && (fitB 2199023255552 (fcM n m) (2 * fcM n m + 1) && (fitB 2199023255552 (fcN n m) (2 * fcN n m + 1) &&
  (decide (fcE n m ≤ 1152921504606846976) && (decide (2 * fcM n m + 1 ≤ 288230376151711744) && (decide (2 * fcN n m + 1 ≤ 1152921504606846976) && (decide ((fcI n (fcO (n - 1)) m).1 + (2 * fcM n m + 1) * 7 ≤ 4611686018427387904) && (decide ((fcI n (fcO (n - 1)) m).2.1 + (2 * fcN n m + 1) ≤ 4611686018427387904) && (decide ((fcI n (fcO (n - 1)) m).2.2 + (2 * fcM n m + 1) * 6 ≤ 4611686018427387904) &&
  decide (0 ≤ fcE n m ∧ 0 ≤ fcM n m ∧ 0 ≤ fcN n m ∧ 0 ≤ (fcI n (fcO (n - 1)) m).1 ∧ 0 ≤ (fcI n (fcO (n - 1)) m).2.1 ∧ 0 ≤ (fcI n (fcO (n - 1)) m).2.2)))))))))))
theorem fcOK_all : ((List.range 7).all fun n => n == 0 || (List.range (n + 1)).all fun m => fcOK n m) = true := by decide +kernel
theorem term_n {n m : Nat} (h1 : 1 ≤ n) (h6 : n ≤ 6) (hm : m ≤ n) : TermN n m (fcW m) (fcG n m) (fcA n) (fcB n) (fcE n m) (fcM n m) (fcN n m) (fcI n (fcO (n - 1)) m).1 (fcI n (fcO (n - 1)) m).2.1 (fcI n (fcO (n - 1)) m).2.2 := by
  have h := List.all_eq_true.1 fcOK_all n (List.mem_range.2 (by omega))
  have z : (n == 0) = false := by simp; omega
  rw [z, Bool.false_or] at h
  have h := List.all_eq_true.1 h m (List.mem_range.2 (by omega))
  unfold fcOK at h
  simp only [Bool.and_eq_true, decide_eq_true_eq] at h
  obtain ⟨a1, a2, a3, a4, a5, a6, a7, a8, a9, b1, b2, b3⟩ := h
  exact ⟨fitB_is a1, fitB_is a2, fitB_is a3, fitB_is a4, fitB_is a5, a6, a7, a8, a9, b1, b2, b3⟩
/-- Three numbers within three. -/
structure Ab3 (x K : V3) : Prop where
  a : Ab x.1 K.1
  b : Ab x.2.1 K.2.1
  c : Ab x.2.2 K.2.2
section
variable {c s q y u v : Int} (hc : Ab c 1099511627776) (hs : Ab s 1099511627776) (ub : Ab u 1099511627776) (vb : Ab v 1099511627776) (y0 : 0 ≤ y) (y1 : y ≤ 5497558138880) (ht : ∀ k, k ≤ 6 → 0 ≤ tS q k ∧ tS q k ≤ 2199023255552)
include hc hs ub vb y0 y1 ht
theorem term_at_c {n m : Nat} (h1 : 1 ≤ n) (h6 : n ≤ 6) (hm : m ≤ n) {st : V3} (S : Ab3 st (fcI n (fcO (n - 1)) m)) :
    ∃ z, termS false n m (tS q n) (wv u v m).1 (wv u v m).2 (gS y n m) (hS y n m) (tri c s n m) st = (z, false) ∧ Ab3 z (fcI n (fcO (n - 1)) (m + 1)) ∧ Nonempty (TermT (n : Int) (m : Int) (tS q n) (wv u v m).1 (wv u v m).2 (gS y n m) (hS y n m) (tri c s n m).1 (tri c s n m).2.1 (tri c s n m).2.2 st.1 st.2.1 st.2.2 z.1 z.2.1 z.2.2) := by
  obtain ⟨w1, w2⟩ := wv_c ub vb m (by omega)
  obtain ⟨g1, g2⟩ := gS_c y0 y1 n m
  obtain ⟨t0, t1⟩ := ht n h6
  obtain ⟨z, e, a, b, d, T⟩ := term_c (by omega) (by omega) (by omega) (by omega) t0 t1 w1 w2 g1 g2 (tri_sb hc hs n h6 m) S.a S.b S.c (term_n h1 h6 hm)
  exact ⟨z, e, ⟨a, b, d⟩, T⟩
theorem inn_c {n : Nat} (h1 : 1 ≤ n) (h6 : n ≤ 6) {st : V3} (S : Ab3 st (fcO (n - 1))) : ∀ m, m ≤ n + 1 → Ab3 (innS c s q y u v n st m) (fcI n (fcO (n - 1)) m)
  | 0, _ => S
  | m + 1, h => by
    obtain ⟨z, e, R, _⟩ := term_at_c hc hs ub vb y0 y1 ht h1 h6 (by omega) (inn_c h1 h6 S m (by omega))
    rw [innS, e]
    exact R
theorem out_c : ∀ k, k ≤ 6 → Ab3 (outS c s q y u v k) (fcO k)
  | 0, _ => show Ab3 (0, 0, 0) (0, 0, 0) from ⟨⟨by decide, by decide⟩, ⟨by decide, by decide⟩, ⟨by decide, by decide⟩⟩
  | k + 1, h => inn_c hc hs ub vb y0 y1 ht (n := k + 1) (by omega) h (out_c k (by omega)) (k + 2) (by omega)
end
end Go.Proofs.YtoadcnhcfodkgaaGreatDoor
