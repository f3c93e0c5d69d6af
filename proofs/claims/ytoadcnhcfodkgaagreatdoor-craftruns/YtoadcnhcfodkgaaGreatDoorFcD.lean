/-
  All steps of the field, by crude bounds, for the seat YtoadcnhcfodkgaaGreatDoor. No Go text in sight.
-/
import Derived.Test.YtoadcnhcfodkgaaGreatDoorFcC
import Derived.Test.YtoadcnhcfodkgaaGreatDoorFldH
import Derived.Test.YtoadcnhcfodkgaaGreatDoorFNum
namespace Go.Proofs.YtoadcnhcfodkgaaGreatDoor

theorem vec_c {w : V3} {c s u v : Int} (W : Ab3 w (fcO 6)) (cb : Ab c 1099511627776) (sb : Ab s 1099511627776) (ub : Ab u 1099511627776) (vb : Ab v 1099511627776) :
    ∃ b, vecS false w c s u v = (b, false) ∧ Nonempty (VecT c s u v w.1 w.2.1 w.2.2 b.1 b.2.1 b.2.2) := by
  have k1 : 0 ≤ (fcO 6).1 ∧ 0 ≤ (fcO 6).2.1 ∧ 0 ≤ (fcO 6).2.2 ∧ (fcO 6).1 + (fcO 6).2.1 + (fcO 6).2.2 + 10 ≤ 2305843009213693952 := by decide +kernel
  have W1 := W.a; have W2 := W.b; have W3 := W.c
  generalize (fcO 6).1 = K1 at k1 W1
  generalize (fcO 6).2.1 = K2 at k1 W2
  generalize (fcO 6).2.2 = K3 at k1 W3
  have cm {a b L : Int} (ha : Ab a L) (hb : Ab b 1099511627776) (h0 : 0 ≤ L) (hL : L ≤ 2305843009213693952) : ∃ m, mulS false a b = (m, false) ∧ Ab m (L + 1) := by
    obtain ⟨m, e, _, h⟩ := mul_x (B := L + 1) ha hb (by omega) (by omega) (by decide) (by omega)
    exact ⟨m, e, h⟩
  obtain ⟨v1, h1, b1⟩ := cm W1 sb (by omega) (by omega)
  obtain ⟨v2, h2, b2⟩ := cm W2 cb (by omega) (by omega)
  have h3 := add_near b1 b2 (by omega) (by omega) (by omega)
  have b3 := b1.add b2
  obtain ⟨v4, h4, b4⟩ := cm b3 ub (by omega) (by omega)
  obtain ⟨v5, h5, b5⟩ := cm W3 vb (by omega) (by omega)
  have h6 := sub_near b4 b5 (by omega) (by omega) (by omega)
  obtain ⟨v7, h7, b7⟩ := cm b3 vb (by omega) (by omega)
  obtain ⟨v8, h8, b8⟩ := cm W3 ub (by omega) (by omega)
  have h9 := add_near b7 b8 (by omega) (by omega) (by omega)
  obtain ⟨v10, h10, b10⟩ := cm W1 cb (by omega) (by omega)
  obtain ⟨v11, h11, b11⟩ := cm W2 sb (by omega) (by omega)
  have h12 := sub_near b10 b11 (by omega) (by omega) (by omega)
  refine ⟨(v4 - v5, v7 + v8, v10 - v11), ?_, ⟨⟨v1, v2, v1 + v2, v4, v5, v7, v8, v10, v11, h1, h2, h3, h4, h5, h6, h7, h8, h9, h10, h11, h12⟩⟩⟩
  unfold vecS
  simp only [h1, h2, h3, h4, h5, h6, h7, h8, h9, h10, h11, h12]
def fcT : Nat → Int
  | 0 => 1168231104512 * 1168231104512 / 1099511627776 + 2
  | n + 1 => fcT n * 1168231104512 / 1099511627776 + 2
theorem tmul {a b K L B : Int} (f : fits K L B) (a0 : 0 ≤ a) (a1 : a ≤ K) (b0 : 0 ≤ b) (b1 : b ≤ L) : ∃ m, mulS false a b = (m, false) ∧ 0 ≤ m ∧ m ≤ B := by
  obtain ⟨m, e, h, k⟩ := mul_x (B := B) (a := a) (b := b) (K := K) (L := L) ⟨by omega, a1⟩ ⟨by omega, b1⟩ f.1 f.2.1 f.2.2.1 f.2.2.2
  have := Int.mul_nonneg a0 b0
  exact ⟨m, e, by have := h.lo; omega, k.hi⟩
theorem tS_c {q : Int} (q0 : 0 ≤ q) (q1 : q ≤ 1168231104512) : ∀ k, k ≤ 6 → 0 ≤ tS q k ∧ tS q k ≤ fcT k
  | 0, _ => by
    obtain ⟨m, e, h0, h1⟩ := tmul (fitB_is (K := 1168231104512) (L := 1168231104512) (B := fcT 0) (by decide +kernel)) q0 q1 q0 q1
    rw [tS, e]
    exact ⟨h0, h1⟩
  | k + 1, h => by
    obtain ⟨i0, i1⟩ := tS_c q0 q1 k (by omega)
    have f : fitB (fcT k) 1168231104512 (fcT (k + 1)) = true := by
      obtain rfl | rfl | rfl | rfl | rfl | rfl : k = 0 ∨ k = 1 ∨ k = 2 ∨ k = 3 ∨ k = 4 ∨ k = 5 := by omega
      all_goals decide +kernel
    obtain ⟨m, e, h0, h1⟩ := tmul (fitB_is f) i0 i1 q0 q1
    rw [tS, e]
    exact ⟨h0, h1⟩
theorem fcT_le {k : Nat} (h : k ≤ 6) : fcT k ≤ 2199023255552 := by
  obtain rfl | rfl | rfl | rfl | rfl | rfl | rfl : k = 0 ∨ k = 1 ∨ k = 2 ∨ k = 3 ∨ k = 4 ∨ k = 5 ∨ k = 6 := by omega
  all_goals decide +kernel
theorem tS_ok {q : Int} (q0 : 0 ≤ q) (q1 : q ≤ 1168231104512) : mulS false q q = (tS q 0, false) ∧ ∀ k, k < 6 → mulS false (tS q k) q = (tS q (k + 1), false) := by
  constructor
  · obtain ⟨m, e, _⟩ := tmul (fitB_is (K := 1168231104512) (L := 1168231104512) (B := fcT 0) (by decide +kernel)) q0 q1 q0 q1
    rw [tS, e]
  · intro k hk
    obtain ⟨i0, i1⟩ := tS_c q0 q1 k (by omega)
    obtain ⟨m, e, _⟩ := tmul (fitB_is (K := 2199023255552) (L := 1168231104512) (B := 4398046511104) (by decide +kernel)) i0 (Int.le_trans i1 (fcT_le (by omega))) q0 q1
    rw [show tS q (k + 1) = (mulS false (tS q k) q).1 from rfl, e]
/-- What the field is worked of. -/
structure CEa (p : V3) (y r : Int) : Type where
  (w c s u v q : Int)
  (b : V3)
  hw : normS false p.1 p.2.1 0 = (w, false)
  hc : divS false p.2.2 r = (c, false)
  hs : divS false w r = (s, false)
  hq : divS false 7005208482886 r = (q, false)
  lon : (w < 1048576 ∧ u = 1099511627776 ∧ v = 0) ∨ (1048576 ≤ w ∧ divS false p.1 w = (u, false) ∧ divS false p.2.1 w = (v, false))
  cb : Ab c 1099511627776
  sb : Ab s 1099511627776
  ub : Ab u 1099511627776
  vb : Ab v 1099511627776
  q0 : 0 ≤ q
  q1 : q ≤ 1168231104512
  hb : vecS false (outS c s q y u v 6) c s u v = (b, false)
  V : VecT c s u v (outS c s q y u v 6).1 (outS c s q y u v 6).2.1 (outS c s q y u v 6).2.2 b.1 b.2.1 b.2.2
theorem cea_at {p : V3} {y r : Int} (hr : normS false p.1 p.2.1 p.2.2 = (r, false)) (r0 : 6597069766656 ≤ r) (r1 : r ≤ 10995116277760) (y0 : 0 ≤ y) (y1 : y ≤ 5497558138880) : Nonempty (CEa p y r) := by
  obtain ⟨_, nx, ny, nz, _, _, R1, R2⟩ := normS_good hr
  have R : Rt r (p.1 * p.1 + p.2.1 * p.2.1 + p.2.2 * p.2.2) := ⟨by omega, R1, R2⟩
  have x0 := sq_nonneg p.1; have y0' := sq_nonneg p.2.1; have z0 := sq_nonneg p.2.2
  have rr := Int.mul_le_mul (show r + 1 ≤ 10995116277761 by omega) (show r + 1 ≤ 10995116277761 by omega) (by omega) (by decide)
  have hq2 := isq_spec (p.1 * p.1 + p.2.1 * p.2.1) (by omega) (by omega)
  have W : Rt (isq (p.1 * p.1 + p.2.1 * p.2.1)) (p.1 * p.1 + p.2.1 * p.2.1) := ⟨hq2.1, hq2.2.1, hq2.2.2⟩
  have wr : Ab (isq (p.1 * p.1 + p.2.1 * p.2.1)) r := sq_lt R.n0 (by have := R.hi; have := W.lo; omega)
  have hw : normS false p.1 p.2.1 0 = (isq (p.1 * p.1 + p.2.1 * p.2.1), false) := normS_make nx ny (by rfl) W.n0 (by have := wr.hi; omega) (by have := W.lo; omega) (by have := W.hi; omega)
  generalize isq (p.1 * p.1 + p.2.1 * p.2.1) = w at *
  have zr : Ab p.2.2 r := sq_lt R.n0 (by have := R.hi; omega)
  obtain ⟨c, hc, pc, _⟩ := div_x (K := 10995116277760) (B := 2199023255552) (zr.le r1) r0 r1 (by decide) (by decide) (by decide) (by decide) (by decide) (by decide)
  obtain ⟨s, hs, ps, _⟩ := div_x (K := 10995116277760) (B := 2199023255552) (wr.le r1) r0 r1 (by decide) (by decide) (by decide) (by decide) (by decide) (by decide)
  obtain ⟨q, hq, pq, _⟩ := div_x (a := 7005208482886) (K := 7005208482886) (B := 1168231104512) ⟨by decide, by decide⟩ r0 r1 (by decide) (by decide) (by decide) (by decide) (by decide) (by decide)
  have cb := part_one (show 0 < r by omega) zr pc
  have sb := part_one (show 0 < r by omega) wr ps
  have q0 : 0 ≤ q := by
    apply Classical.byContradiction
    intro g
    have := Int.mul_le_mul_of_nonneg_right (show 1 ≤ -q by omega) (show 0 ≤ r by omega)
    rw [Int.neg_mul] at this
    have := pq.lo
    omega
  have q1 : q ≤ 1168231104512 := by
    apply Classical.byContradiction
    intro g
    have := Int.mul_le_mul (show 1168231104513 ≤ q by omega) r0 (by decide) (by omega)
    have := pq.hi
    omega
  have L : ∃ u v, ((w < 1048576 ∧ u = 1099511627776 ∧ v = 0) ∨ (1048576 ≤ w ∧ divS false p.1 w = (u, false) ∧ divS false p.2.1 w = (v, false))) ∧ Ab u 1099511627776 ∧ Ab v 1099511627776 := by
    by_cases h : w < 1048576
    · exact ⟨1099511627776, 0, Or.inl ⟨h, rfl, rfl⟩, ⟨by decide, by decide⟩, ⟨by decide, by decide⟩⟩
    · have xw : Ab p.1 w := sq_lt W.n0 (by have := W.hi; omega)
      have yw : Ab p.2.1 w := sq_lt W.n0 (by have := W.hi; omega)
      have w1 : w ≤ 10995116277760 := by have := wr.hi; omega
      have w0 : 1048576 ≤ w := by omega
      have go (a : Int) (ha : Ab a w) (na : numB a = true) : ∃ m, divS false a w = (m, false) ∧ Ab (2 * (m * w - a * 1099511627776)) w := by
        obtain ⟨m, e, d1, d2, _⟩ := partS_near a 1099511627776 w na (by rfl) (numB_of ⟨by omega, by omega⟩) (by omega) (by
          rw [show sz 1099511627776 = 1099511627776 by rfl]
          have := sz_le ⟨ha.lo, ha.hi⟩
          omega)
        exact ⟨m, e, ⟨by omega, by omega⟩⟩
      obtain ⟨u, hu, pu⟩ := go p.1 xw nx
      obtain ⟨v, hv, pv⟩ := go p.2.1 yw ny
      exact ⟨u, v, Or.inr ⟨w0, hu, hv⟩, part_one (by omega) xw pu, part_one (by omega) yw pv⟩
  obtain ⟨u, v, la, ub, vb⟩ := L
  have ht : ∀ k, k ≤ 6 → 0 ≤ tS q k ∧ tS q k ≤ 2199023255552 := fun k h => ⟨(tS_c q0 q1 k h).1, Int.le_trans (tS_c q0 q1 k h).2 (fcT_le h)⟩
  obtain ⟨b, hb, ⟨V⟩⟩ := vec_c (out_c cb sb ub vb y0 y1 ht 6 (by decide)) cb sb ub vb
  exact ⟨⟨w, c, s, u, v, q, b, hw, hc, hs, hq, la, cb, sb, ub, vb, q0, q1, hb, V⟩⟩
/-- The cosines, and behind them the sines, of the longitude's multiples. -/
def ringC (u v : Int) (m : Nat) : Int := if m < 7 then (wv u v m).1 else (wv u v (m - 7)).2
theorem CEa.steps {p : V3} {t r : Int} (E : CEa p (yearS t) r) (t0 : 0 ≤ t) (t1 : t ≤ 157766400000) : Nonempty (EarthT p t r E.b.1 E.b.2.1 E.b.2.2) := by
  obtain ⟨_, y0, y1⟩ := year_in t0 t1
  obtain ⟨Z⟩ := ctri E.cb E.sb
  obtain ⟨h0, hn⟩ := tS_ok E.q0 E.q1
  have ht : ∀ k, k ≤ 6 → 0 ≤ tS E.q k ∧ tS E.q k ≤ 2199023255552 := fun k h => ⟨(tS_c E.q0 E.q1 k h).1, Int.le_trans (tS_c E.q0 E.q1 k h).2 (fcT_le h)⟩
  have i64 {x : Int} (h : Ab x 1099511627776) : I64 x := ⟨by have := h.lo; omega, by have := h.hi; omega⟩
  refine ⟨⟨E.w, E.c, E.s, E.u, E.v, E.q, ringC E.u E.v, tS E.q, _, _, _, gS (yearS t), hS (yearS t), fun n m => innS E.c E.s E.q (yearS t) E.u E.v n (outS E.c E.s E.q (yearS t) E.u E.v (n - 1)) m, ?_, E.hc, E.hs, ?_, E.hq, rfl, rfl, ?_, Z, i64 E.cb, i64 E.sb, h0, hn, fun n m h1 h6 hm => numS_in h1 h6 hm t0 t1, rfl, ?_, ?_, E.V⟩⟩
  · unfold vNormS
    show ((normS false p.1 p.2.1 0).1, (normS false p.1 p.2.1 0).2) = _
    rw [E.hw]
  · unfold lonS
    rcases E.lon with ⟨h, hu, hv⟩ | ⟨h, hu, hv⟩
    · rw [if_pos h, hu, hv]
    · rw [if_neg (by omega), hu]
      show ((E.u, (divS false p.2.1 E.w).1), (divS false p.2.1 E.w).2) = _
      rw [hv]
  · intro m hm
    have e1 : ringC E.u E.v m = (wv E.u E.v m).1 := if_pos (by omega)
    have e2 : ringC E.u E.v (7 + m) = (wv E.u E.v m).2 := by unfold ringC; rw [if_neg (by omega), show 7 + m - 7 = m by omega]
    have e3 : ringC E.u E.v (m + 1) = (wv E.u E.v (m + 1)).1 := if_pos (by omega)
    have e4 : ringC E.u E.v (8 + m) = (wv E.u E.v (m + 1)).2 := by unfold ringC; rw [if_neg (by omega), show 8 + m - 7 = m + 1 by omega]
    rw [e1, e2, e3, e4]
    exact wave_ct E.ub E.vb hm
  · intro n h1 h6
    obtain ⟨k, rfl⟩ : ∃ k, n = k + 1 := ⟨n - 1, by omega⟩
    show innS _ _ _ _ _ _ (k + 1) (outS _ _ _ _ _ _ (k + 1 - 1)) (k + 1 + 1) = outS _ _ _ _ _ _ (k + 1 + 1 - 1)
    rw [show k + 1 - 1 = k by omega, show k + 1 + 1 - 1 = k + 1 by omega]
    conv => rhs; unfold outS
  · intro n m h1 h6 hm
    have e1 : ringC E.u E.v m = (wv E.u E.v m).1 := if_pos (by omega)
    have e2 : ringC E.u E.v (7 + m) = (wv E.u E.v m).2 := by unfold ringC; rw [if_neg (by omega), show 7 + m - 7 = m by omega]
    rw [e1, e2]
    refine Classical.choice ?_
    obtain ⟨z, e, _, T⟩ := term_at_c E.cb E.sb E.ub E.vb y0 y1 ht h1 h6 hm (inn_c E.cb E.sb E.ub E.vb y0 y1 ht h1 h6 (out_c E.cb E.sb E.ub E.vb y0 y1 ht (n - 1) (by omega)) m (by omega))
    have e3 : innS E.c E.s E.q (yearS t) E.u E.v n (outS E.c E.s E.q (yearS t) E.u E.v (n - 1)) (m + 1) = z := by rw [innS, e]
    rw [e3]
    exact T
end Go.Proofs.YtoadcnhcfodkgaaGreatDoor
