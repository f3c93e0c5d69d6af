/-
  A place's latitude and longitude, as rounded steps work them, for the seat YtoadcnhcfodkgaaGreatDoor. No Go text in sight.
-/
import Derived.Test.YtoadcnhcfodkgaaGreatDoorFldA
namespace Go.Proofs.YtoadcnhcfodkgaaGreatDoor

/-- n is the root of N, from below. -/
structure Rt (n N : Int) : Prop where
  n0 : 0 ≤ n
  lo : n * n ≤ N
  hi : N < (n + 1) * (n + 1)
theorem sq_lt {x n : Int} (n0 : 0 ≤ n) (h : x * x < (n + 1) * (n + 1)) : Ab x n := by
  refine ⟨?_, ?_⟩
  · apply Classical.byContradiction
    intro g
    have := Int.mul_le_mul (show n + 1 ≤ -x by omega) (show n + 1 ≤ -x by omega) (by omega) (by omega)
    rw [Int.neg_mul_neg] at this
    omega
  · apply Classical.byContradiction
    intro g
    have := Int.mul_le_mul (show n + 1 ≤ x by omega) (show n + 1 ≤ x by omega) (by omega) (by omega)
    omega
/-- A part over the whole: at most one. -/
theorem part_one {a d m : Int} (d0 : 0 < d) (ha : Ab a d) (r : Ab (2 * (m * d - a * 1099511627776)) d) : Ab m 1099511627776 := by
  have := r.lo; have := r.hi; have := ha.lo; have := ha.hi
  refine ⟨?_, ?_⟩
  · apply Classical.byContradiction
    intro g
    have := Int.mul_le_mul_of_nonneg_right (show 1099511627777 ≤ -m by omega) (show 0 ≤ d by omega)
    rw [Int.neg_mul] at this
    omega
  · apply Classical.byContradiction
    intro g
    have := Int.mul_le_mul_of_nonneg_right (show 1099511627777 ≤ m by omega) (show 0 ≤ d by omega)
    omega
/-- Two parts over the whole: their squares are one together, as near as the whole is told. -/
theorem parts_one {p q d m n : Int} (hp : Ab p d) (hq : Ab q d) (r : Ab (2 * (m * d - p * 1099511627776)) d) (t : Ab (2 * (n * d - q * 1099511627776)) d) :
    ∃ e, (m * m + n * n) * (d * d) = 1208925819614629174706176 * (p * p + q * q) + e ∧ Ab e (2199023255554 * (d * d)) := by
  refine ⟨(m * m + n * n) * (d * d) - 1208925819614629174706176 * (p * p + q * q), by omega, ?_⟩
  have a := r.mul hp
  have b := t.mul hq
  have c := r.mul r
  have f := t.mul t
  have a1 := a.lo; have a2 := a.hi; have b1 := b.lo; have b2 := b.hi; have c1 := c.lo; have c2 := c.hi; have f1 := f.lo; have f2 := f.hi
  have e : 4 * ((m * m + n * n) * (d * d) - 1208925819614629174706176 * (p * p + q * q)) = 4398046511104 * (2 * (m * d - p * 1099511627776) * p + 2 * (n * d - q * 1099511627776) * q) + 2 * (m * d - p * 1099511627776) * (2 * (m * d - p * 1099511627776)) + 2 * (n * d - q * 1099511627776) * (2 * (n * d - q * 1099511627776)) := by grind
  generalize 2 * (m * d - p * 1099511627776) * p = A at *
  generalize 2 * (n * d - q * 1099511627776) * q = B at *
  generalize 2 * (m * d - p * 1099511627776) * (2 * (m * d - p * 1099511627776)) = X at *
  generalize 2 * (n * d - q * 1099511627776) * (2 * (n * d - q * 1099511627776)) = Y at *
  generalize (m * m + n * n) * (d * d) - 1208925819614629174706176 * (p * p + q * q) = Z at *
  generalize d * d = D at *
  exact ⟨by omega, by omega⟩
/-- The cosine and the sine of the place's latitude. -/
theorem lat_one {x y z r w c s : Int} (R : Rt r (x * x + y * y + z * z)) (W : Rt w (x * x + y * y)) (r1 : 6597069766656 ≤ r) (hc : Ab (2 * (c * r - z * 1099511627776)) r) (hs : Ab (2 * (s * r - w * 1099511627776)) r) :
    Ab c 1099511627776 ∧ Ab s 1099511627776 ∧ 0 ≤ s ∧ Ab (c * c + s * s - 1208925819614629174706176) 4398046511104 ∧ Ab z r ∧ Ab w r := by
  have x0 := sq_nonneg x; have y0 := sq_nonneg y; have z0 := sq_nonneg z; have w0 := sq_nonneg w
  have zr : Ab z r := sq_lt R.n0 (by have := R.hi; omega)
  have wr : Ab w r := sq_lt R.n0 (by have := R.hi; have := W.lo; omega)
  have cb := part_one (by omega) zr hc
  have sb := part_one (by omega) wr hs
  have s0 : 0 ≤ s := by
    apply Classical.byContradiction
    intro g
    have := Int.mul_le_mul_of_nonneg_right (show 1 ≤ -s by omega) (show 0 ≤ r by omega)
    rw [Int.neg_mul] at this
    have := hs.lo; have := W.n0
    omega
  obtain ⟨e, h, eb⟩ := parts_one zr wr hc hs
  refine ⟨cb, sb, s0, ?_, zr, wr⟩
  have e1 : (r + 1) * (r + 1) = r * r + 2 * r + 1 := by grind
  have e2 : (w + 1) * (w + 1) = w * w + 2 * w + 1 := by grind
  have k1 := R.lo; have k2 := R.hi; have k3 := W.lo; have k4 := W.hi
  rw [e1] at k2
  rw [e2] at k4
  have rr := Int.mul_le_mul_of_nonneg_right r1 (show 0 ≤ r by omega)
  have wu := wr.hi
  have l := eb.lo; have u := eb.hi
  refine ⟨?_, ?_⟩
  · apply Classical.byContradiction
    intro g
    have := Int.mul_le_mul_of_nonneg_right (show c * c + s * s + 1 ≤ 1208925819614629174706176 - 4398046511104 by omega) (show 0 ≤ r * r by omega)
    rw [Int.add_mul] at this
    omega
  · apply Classical.byContradiction
    intro g
    have := Int.mul_le_mul_of_nonneg_right (show 1208925819614629174706176 + 4398046511104 + 1 ≤ c * c + s * s by omega) (show 0 ≤ r * r by omega)
    omega
/-- The cosine and the sine of the place's longitude. -/
theorem lon_one {x y w u v : Int} (W : Rt w (x * x + y * y)) (w1 : 1048576 ≤ w) (hu : Ab (2 * (u * w - x * 1099511627776)) w) (hv : Ab (2 * (v * w - y * 1099511627776)) w) :
    Ab u 1099511627776 ∧ Ab v 1099511627776 ∧ u * u + v * v ≤ 1208925819614629174706176 + 4611686018427387904 ∧ 1208925819614629174706176 - 4398046511104 ≤ u * u + v * v ∧ Ab x w ∧ Ab y w := by
  have x0 := sq_nonneg x; have y0 := sq_nonneg y
  have xw : Ab x w := sq_lt W.n0 (by have := W.hi; omega)
  have yw : Ab y w := sq_lt W.n0 (by have := W.hi; omega)
  obtain ⟨e, h, eb⟩ := parts_one xw yw hu hv
  refine ⟨part_one (by omega) xw hu, part_one (by omega) yw hv, ?_, ?_, xw, yw⟩
  · have e2 : (w + 1) * (w + 1) = w * w + 2 * w + 1 := by grind
    have k3 := W.lo; have k4 := W.hi
    rw [e2] at k4
    have ww := Int.mul_le_mul_of_nonneg_right w1 (show 0 ≤ w by omega)
    have ub := eb.hi
    apply Classical.byContradiction
    intro g
    have := Int.mul_le_mul_of_nonneg_right (show 1208925819614629174706176 + 4611686018427387904 + 1 ≤ u * u + v * v by omega) (show 0 ≤ w * w by omega)
    omega
  · have k3 := W.lo
    have ww := Int.mul_le_mul_of_nonneg_right w1 (show 0 ≤ w by omega)
    have l := eb.lo
    apply Classical.byContradiction
    intro g
    have := Int.mul_le_mul_of_nonneg_right (show u * u + v * v + 1 ≤ 1208925819614629174706176 - 4398046511104 by omega) (show 0 ≤ w * w by omega)
    rw [Int.add_mul] at this
    omega
/-- The cosine and the sine of one multiple more of the longitude. -/
def waveS (bad : Bool) (C S u v : Int) : (Int × Int) × Bool :=
  let r1 := mulS bad C u; let r2 := mulS r1.2 S v; let r3 := subS r2.2 r1.1 r2.1
  let r4 := mulS r3.2 S u; let r5 := mulS r4.2 C v; let r6 := addS r5.2 r4.1 r5.1
  ((r3.1, r6.1), r6.2)
def wv (u v : Int) : Nat → Int × Int
  | 0 => (1099511627776, 0)
  | m + 1 => (waveS false (wv u v m).1 (wv u v m).2 u v).1
/-- Cosines and sines of the longitude. -/
structure Lon (u v : Int) : Prop where
  ub : Ab u 1099511627776
  vb : Ab v 1099511627776
  hi : u * u + v * v ≤ 1208925819614629174706176 + 4611686018427387904
theorem wave_at {u v C S : Int} (L : Lon u v) (Cb : Ab C 2199023255552) (Sb : Ab S 2199023255552) :
    ∃ C' S', waveS false C S u v = ((C', S'), false) ∧ 1208925819614629174706176 * (C' * C' + S' * S') ≤ (C * C + S * S) * (u * u + v * v) + 21778071482940061661655974875633165533184 := by
  obtain ⟨m1, h1, q1, b1⟩ := mul_x (B := 2199023255553) Cb L.ub (by decide) (by decide) (by decide) (by decide)
  obtain ⟨m2, h2, q2, b2⟩ := mul_x (B := 2199023255553) Sb L.vb (by decide) (by decide) (by decide) (by decide)
  have h3 := sub_near b1 b2 (by decide) (by decide) (by decide)
  obtain ⟨m4, h4, q4, b4⟩ := mul_x (B := 2199023255553) Sb L.ub (by decide) (by decide) (by decide) (by decide)
  obtain ⟨m5, h5, q5, b5⟩ := mul_x (B := 2199023255553) Cb L.vb (by decide) (by decide) (by decide) (by decide)
  have h6 := add_near b4 b5 (by decide) (by decide) (by decide)
  refine ⟨m1 - m2, m4 + m5, by unfold waveS; simp only [h1, h2, h3, h4, h5, h6], ?_⟩
  have X : Ab (1099511627776 * (m1 - m2) - (C * u - S * v)) 1099511627776 := by
    have := q1.lo; have := q1.hi; have := q2.lo; have := q2.hi
    exact ⟨by omega, by omega⟩
  have Y : Ab (1099511627776 * (m4 + m5) - (S * u + C * v)) 1099511627776 := by
    have := q4.lo; have := q4.hi; have := q5.lo; have := q5.hi
    exact ⟨by omega, by omega⟩
  have e : 1208925819614629174706176 * ((m1 - m2) * (m1 - m2) + (m4 + m5) * (m4 + m5)) = (C * C + S * S) * (u * u + v * v) + (1099511627776 * (m1 - m2) - (C * u - S * v)) * (1099511627776 * (m1 - m2) + (C * u - S * v)) + (1099511627776 * (m4 + m5) - (S * u + C * v)) * (1099511627776 * (m4 + m5) + (S * u + C * v)) := by grind
  have x1 : Ab (1099511627776 * (m1 - m2) + (C * u - S * v)) 9671406556935849488842784768 := by
    have := (Cb.mul L.ub).lo; have := (Cb.mul L.ub).hi; have := (Sb.mul L.vb).lo; have := (Sb.mul L.vb).hi
    have := b1.lo; have := b1.hi; have := b2.lo; have := b2.hi
    exact ⟨by omega, by omega⟩
  have y1 : Ab (1099511627776 * (m4 + m5) + (S * u + C * v)) 9671406556935849488842784768 := by
    have := (Cb.mul L.vb).lo; have := (Cb.mul L.vb).hi; have := (Sb.mul L.ub).lo; have := (Sb.mul L.ub).hi
    have := b4.lo; have := b4.hi; have := b5.lo; have := b5.hi
    exact ⟨by omega, by omega⟩
  have p := (X.mul x1).hi
  have q := (Y.mul y1).hi
  generalize (1099511627776 * (m1 - m2) - (C * u - S * v)) * (1099511627776 * (m1 - m2) + (C * u - S * v)) = A at *
  generalize (1099511627776 * (m4 + m5) - (S * u + C * v)) * (1099511627776 * (m4 + m5) + (S * u + C * v)) = B at *
  omega
theorem wv_at {u v : Int} (L : Lon u v) : ∀ m : Nat, m ≤ 6 → Ab (wv u v m).1 1100000000000 ∧ Ab (wv u v m).2 1100000000000 ∧ (wv u v m).1 * (wv u v m).1 + (wv u v m).2 * (wv u v m).2 ≤ 1208925819614629174706176 + m * 4650000000000000000 ∧ waveS false (wv u v m).1 (wv u v m).2 u v = (wv u v (m + 1), false)
  | 0, _ => by
    obtain ⟨C', S', e, _⟩ := wave_at (C := 1099511627776) (S := 0) L ⟨by decide, by decide⟩ ⟨by decide, by decide⟩
    refine ⟨⟨by show (-1100000000000 : Int) ≤ 1099511627776; decide, by show (1099511627776 : Int) ≤ 1100000000000; decide⟩, ⟨by show (-1100000000000 : Int) ≤ 0; decide, by show (0 : Int) ≤ 1100000000000; decide⟩, by show (1099511627776 : Int) * 1099511627776 + 0 * 0 ≤ _; decide, ?_⟩
    show waveS false 1099511627776 0 u v = ((waveS false 1099511627776 0 u v).1, false)
    rw [e]
  | m + 1, hm => by
    obtain ⟨c, s, h, e⟩ := wv_at L m (by omega)
    obtain ⟨C', S', e', k⟩ := wave_at L (c.le (by decide)) (s.le (by decide))
    rw [e] at e'
    have e1 : wv u v (m + 1) = (C', S') := congrArg Prod.fst e'
    have c0 := sq_nonneg (wv u v m).1; have s0 := sq_nonneg (wv u v m).2
    have bd : C' * C' + S' * S' ≤ 1208925819614629174706176 + ((m : Int) + 1) * 4650000000000000000 := by
      have p := Int.mul_le_mul_of_nonneg_left L.hi (show 0 ≤ (wv u v m).1 * (wv u v m).1 + (wv u v m).2 * (wv u v m).2 by omega)
      generalize (wv u v m).1 * (wv u v m).1 + (wv u v m).2 * (wv u v m).2 = ρ at *
      have m6 : (m : Int) ≤ 5 := by omega
      have m0 : (0 : Int) ≤ m := by omega
      omega
    have sm : Ab C' 1100000000000 ∧ Ab S' 1100000000000 := by
      have a := sq_nonneg C'; have b := sq_nonneg S'
      have m6 : (m : Int) ≤ 5 := by omega
      exact ⟨(sq_lt (n := 1099999999999) (by decide) (by omega)).le (by decide), (sq_lt (n := 1099999999999) (by decide) (by omega)).le (by decide)⟩
    obtain ⟨C2, S2, e2, _⟩ := wave_at L (sm.1.le (by decide)) (sm.2.le (by decide))
    rw [e1]
    refine ⟨sm.1, sm.2, by rw [show ((m + 1 : Nat) : Int) = (m : Int) + 1 by omega]; exact bd, ?_⟩
    show waveS false C' S' u v = ((waveS false (wv u v (m + 1)).1 (wv u v (m + 1)).2 u v).1, false)
    rw [e1, e2]
theorem wv_bd {u v : Int} (L : Lon u v) (m : Nat) (hm : m < 7) : (wv u v m).1 * (wv u v m).1 + (wv u v m).2 * (wv u v m).2 ≤ 1099528404992 * 1099528404992 := by
  have h := (wv_at L m (by omega)).2.2.1
  have m6 : (m : Int) ≤ 6 := by omega
  omega
end Go.Proofs.YtoadcnhcfodkgaaGreatDoor
