/-
A part.
A part.
A part.
A part.
-/
import Derived.Test.YtbophanlmkbfeaaGreatDoorHC22
namespace Go.Proofs.YtbophanlmkbfeaaGreatDoor
structure Rt (n N : Int) : Prop where
 n0 : 0 ≤ n
 lo : n * n ≤ N
 hi : N < (n + 1) * (n + 1)
theorem sq_lt {x n : Int} (n0 : 0 ≤ n) (h : x * x < (n + 1) * (n + 1)) : Ab x n := by
 refine ⟨?_, ?_⟩
 ·apply Classical.byContradiction
  intro g
  have := Int.mul_le_mul (show n + 1 ≤ -x by omega) (show n + 1 ≤ -x by omega) (by omega) (by omega)
  rw [Int.neg_mul_neg] at this
  omega
 ·apply Classical.byContradiction
  intro g
  have := Int.mul_le_mul (show n + 1 ≤ x by omega) (show n + 1 ≤ x by omega) (by omega) (by omega)
  omega
theorem part_one {a d m : Int} (d0 : 0 < d) (ha : Ab a d) (r : Ab (2 * (m * d - a * 1099511627776)) d) : Ab m 1099511627776 := by
 have := r.lo; have := r.hi; have := ha.lo; have := ha.hi
 refine ⟨?_, ?_⟩
 ·apply Classical.byContradiction
  intro g
  have := Int.mul_le_mul_of_nonneg_right (show 1099511627777 ≤ -m by omega) (show 0 ≤ d by omega)
  rw [Int.neg_mul] at this
  omega
 ·apply Classical.byContradiction
  intro g
  have := Int.mul_le_mul_of_nonneg_right (show 1099511627777 ≤ m by omega) (show 0 ≤ d by omega)
  omega
theorem parts_one {p q d m n : Int} (hp : Ab p d) (hq : Ab q d) (r : Ab (2 * (m * d - p * 1099511627776)) d) (t : Ab (2 * (n * d - q * 1099511627776)) d) :
    ∃ e, (m * m + n * n) * (d * d) = 1208925819614629174706176 * (p * p + q * q) + e ∧ Ab e (2199023255554 * (d * d)) := by
 refine ⟨(m * m + n * n) * (d * d) - 1208925819614629174706176 * (p * p + q * q), by omega, ?_⟩
 have a := r.mul hp
 have b := t.mul hq
 have c := r.mul r
 have f := t.mul t
 have a1 := a.lo; have a2 := a.hi; have b1 := b.lo; have b2 := b.hi; have c1 := c.lo; have c2 := c.hi; have f1 := f.lo; have f2 := f.hi
 have e : 4 * ((m * m + n * n) * (d * d) - 1208925819614629174706176 * (p * p + q * q)) = 4398046511104 * (2 * (m * d - p * 1099511627776) * p + 2 * (n * d - q * 1099511627776) * q) + 2 * (m * d - p * 1099511627776) * (2 * (m * d - p * 1099511627776)) + 2 * (n * d - q * 1099511627776) * (2 * (n * d - q * 1099511627776)) := by grind
 generalize 2 * (m * d - p * 1099511627776) * p = A at *
 generalize 2 * (n * d - q * 1099511627776) * q = B at *
 generalize 2 * (m * d - p * 1099511627776) * (2 * (m * d - p * 1099511627776)) = X at *
 generalize 2 * (n * d - q * 1099511627776) * (2 * (n * d - q * 1099511627776)) = Y at *
 generalize (m * m + n * n) * (d * d) - 1208925819614629174706176 * (p * p + q * q) = Z at *
 generalize d * d = D at *
 exact ⟨by omega, by omega⟩
theorem lat_one {x y z r w c s : Int} (R : Rt r (x * x + y * y + z * z)) (W : Rt w (x * x + y * y)) (r1 : 6597069766656 ≤ r) (hc : Ab (2 * (c * r - z * 1099511627776)) r) (hs : Ab (2 * (s * r - w * 1099511627776)) r) :
    Ab c 1099511627776 ∧ Ab s 1099511627776 ∧ 0 ≤ s ∧ Ab (c * c + s * s - 1208925819614629174706176) 4398046511104 ∧ Ab z r ∧ Ab w r := by
 have x0 := sq_nonneg x; have y0 := sq_nonneg y; have z0 := sq_nonneg z; have w0 := sq_nonneg w
 have zr : Ab z r := sq_lt R.n0 (by have := R.hi; omega)
 have wr : Ab w r := sq_lt R.n0 (by have := R.hi; have := W.lo; omega)
 have cb := part_one (by omega) zr hc
 have sb := part_one (by omega) wr hs
 have s0 : 0 ≤ s := by
  apply Classical.byContradiction
  intro g
  have := Int.mul_le_mul_of_nonneg_right (show 1 ≤ -s by omega) (show 0 ≤ r by omega)
  rw [Int.neg_mul] at this
  have := hs.lo; have := W.n0
  omega
 obtain ⟨e, h, eb⟩ := parts_one zr wr hc hs
 refine ⟨cb, sb, s0, ?_, zr, wr⟩
 have e1 : (r + 1) * (r + 1) = r * r + 2 * r + 1 := by grind
 have e2 : (w + 1) * (w + 1) = w * w + 2 * w + 1 := by grind
 have k1 := R.lo; have k2 := R.hi; have k3 := W.lo; have k4 := W.hi
 rw [e1] at k2
 rw [e2] at k4
 have rr := Int.mul_le_mul_of_nonneg_right r1 (show 0 ≤ r by omega)
 have wu := wr.hi
 have l := eb.lo; have u := eb.hi
 refine ⟨?_, ?_⟩
 ·apply Classical.byContradiction
  intro g
  have := Int.mul_le_mul_of_nonneg_right (show c * c + s * s + 1 ≤ 1208925819614629174706176 - 4398046511104 by omega) (show 0 ≤ r * r by omega)
  rw [Int.add_mul] at this
  omega
 ·apply Classical.byContradiction
  intro g
  have := Int.mul_le_mul_of_nonneg_right (show 1208925819614629174706176 + 4398046511104 + 1 ≤ c * c + s * s by omega) (show 0 ≤ r * r by omega)
  omega
theorem lon_one {x y w u v : Int} (W : Rt w (x * x + y * y)) (w1 : 1048576 ≤ w) (hu : Ab (2 * (u * w - x * 1099511627776)) w) (hv : Ab (2 * (v * w - y * 1099511627776)) w) :
    Ab u 1099511627776 ∧ Ab v 1099511627776 ∧ u * u + v * v ≤ 1208925819614629174706176 + 4611686018427387904 ∧ 1208925819614629174706176 - 4398046511104 ≤ u * u + v * v ∧ Ab x w ∧ Ab y w := by
 have x0 := sq_nonneg x; have y0 := sq_nonneg y
 have xw : Ab x w := sq_lt W.n0 (by have := W.hi; omega)
 have yw : Ab y w := sq_lt W.n0 (by have := W.hi; omega)
 obtain ⟨e, h, eb⟩ := parts_one xw yw hu hv
 refine ⟨part_one (by omega) xw hu, part_one (by omega) yw hv, ?_, ?_, xw, yw⟩
 ·have e2 : (w + 1) * (w + 1) = w * w + 2 * w + 1 := by grind
  have k3 := W.lo; have k4 := W.hi
  rw [e2] at k4
  have ww := Int.mul_le_mul_of_nonneg_right w1 (show 0 ≤ w by omega)
  have ub := eb.hi
  apply Classical.byContradiction
  intro g
  have := Int.mul_le_mul_of_nonneg_right (show 1208925819614629174706176 + 4611686018427387904 + 1 ≤ u * u + v * v by omega) (show 0 ≤ w * w by omega)
  omega
 ·have k3 := W.lo
  have ww := Int.mul_le_mul_of_nonneg_right w1 (show 0 ≤ w by omega)
  have l := eb.lo
  apply Classical.byContradiction
  intro g
  have := Int.mul_le_mul_of_nonneg_right (show u * u + v * v + 1 ≤ 1208925819614629174706176 - 4398046511104 by omega) (show 0 ≤ w * w by omega)
  rw [Int.add_mul] at this
  omega
def waveS (bad : Bool) (C S u v : Int) : (Int × Int) × Bool :=
 let r1 := mulS bad C u; let r2 := mulS r1.2 S v; let r3 := subS r2.2 r1.1 r2.1
 let r4 := mulS r3.2 S u; let r5 := mulS r4.2 C v; let r6 := addS r5.2 r4.1 r5.1
 ((r3.1, r6.1), r6.2)
def wv (u v : Int) : Nat → Int × Int
 | 0 => (1099511627776, 0)
 | m + 1 => (waveS false (wv u v m).1 (wv u v m).2 u v).1
structure Lon (u v : Int) : Prop where
 ub : Ab u 1099511627776
 vb : Ab v 1099511627776
 hi : u * u + v * v ≤ 1208925819614629174706176 + 4611686018427387904
theorem wave_at {u v C S : Int} (L : Lon u v) (Cb : Ab C 2199023255552) (Sb : Ab S 2199023255552) :
    ∃ C' S', waveS false C S u v = ((C', S'), false) ∧ 1208925819614629174706176 * (C' * C' + S' * S') ≤ (C * C + S * S) * (u * u + v * v) + 21778071482940061661655974875633165533184 := by
 obtain ⟨m1, h1, q1, b1⟩ := mul_x (B := 2199023255553) Cb L.ub (by decide) (by decide) (by decide) (by decide)
 obtain ⟨m2, h2, q2, b2⟩ := mul_x (B := 2199023255553) Sb L.vb (by decide) (by decide) (by decide) (by decide)
 have h3 := sub_near b1 b2 (by decide) (by decide) (by decide)
 obtain ⟨m4, h4, q4, b4⟩ := mul_x (B := 2199023255553) Sb L.ub (by decide) (by decide) (by decide) (by decide)
 obtain ⟨m5, h5, q5, b5⟩ := mul_x (B := 2199023255553) Cb L.vb (by decide) (by decide) (by decide) (by decide)
 have h6 := add_near b4 b5 (by decide) (by decide) (by decide)
 refine ⟨m1 - m2, m4 + m5, by unfold waveS; simp only [h1, h2, h3, h4, h5, h6], ?_⟩
 have X : Ab (1099511627776 * (m1 - m2) - (C * u - S * v)) 1099511627776 := by
  have := q1.lo; have := q1.hi; have := q2.lo; have := q2.hi
  exact ⟨by omega, by omega⟩
 have Y : Ab (1099511627776 * (m4 + m5) - (S * u + C * v)) 1099511627776 := by
  have := q4.lo; have := q4.hi; have := q5.lo; have := q5.hi
  exact ⟨by omega, by omega⟩
 have e : 1208925819614629174706176 * ((m1 - m2) * (m1 - m2) + (m4 + m5) * (m4 + m5)) = (C * C + S * S) * (u * u + v * v) + (1099511627776 * (m1 - m2) - (C * u - S * v)) * (1099511627776 * (m1 - m2) + (C * u - S * v)) + (1099511627776 * (m4 + m5) - (S * u + C * v)) * (1099511627776 * (m4 + m5) + (S * u + C * v)) := by grind
 have x1 : Ab (1099511627776 * (m1 - m2) + (C * u - S * v)) 9671406556935849488842784768 := by
  have := (Cb.mul L.ub).lo; have := (Cb.mul L.ub).hi; have := (Sb.mul L.vb).lo; have := (Sb.mul L.vb).hi
  have := b1.lo; have := b1.hi; have := b2.lo; have := b2.hi
  exact ⟨by omega, by omega⟩
 have y1 : Ab (1099511627776 * (m4 + m5) + (S * u + C * v)) 9671406556935849488842784768 := by
  have := (Cb.mul L.vb).lo; have := (Cb.mul L.vb).hi; have := (Sb.mul L.ub).lo; have := (Sb.mul L.ub).hi
  have := b4.lo; have := b4.hi; have := b5.lo; have := b5.hi
  exact ⟨by omega, by omega⟩
 have p := (X.mul x1).hi
 have q := (Y.mul y1).hi
 generalize (1099511627776 * (m1 - m2) - (C * u - S * v)) * (1099511627776 * (m1 - m2) + (C * u - S * v)) = A at *
 generalize (1099511627776 * (m4 + m5) - (S * u + C * v)) * (1099511627776 * (m4 + m5) + (S * u + C * v)) = B at *
 omega
theorem wv_at {u v : Int} (L : Lon u v) : ∀ m : Nat, m ≤ 6 → Ab (wv u v m).1 1100000000000 ∧ Ab (wv u v m).2 1100000000000 ∧ (wv u v m).1 * (wv u v m).1 + (wv u v m).2 * (wv u v m).2 ≤ 1208925819614629174706176 + m * 4650000000000000000 ∧ waveS false (wv u v m).1 (wv u v m).2 u v = (wv u v (m + 1), false)
 | 0, _ => by
  obtain ⟨C', S', e, _⟩ := wave_at (C := 1099511627776) (S := 0) L ⟨by decide, by decide⟩ ⟨by decide, by decide⟩
  refine ⟨⟨by show (-1100000000000 : Int) ≤ 1099511627776; decide, by show (1099511627776 : Int) ≤ 1100000000000; decide⟩, ⟨by show (-1100000000000 : Int) ≤ 0; decide, by show (0 : Int) ≤ 1100000000000; decide⟩, by show (1099511627776 : Int) * 1099511627776 + 0 * 0 ≤ _; decide, ?_⟩
  show waveS false 1099511627776 0 u v = ((waveS false 1099511627776 0 u v).1, false)
  rw [e]
 | m + 1, hm => by
  obtain ⟨c, s, h, e⟩ := wv_at L m (by omega)
  obtain ⟨C', S', e', k⟩ := wave_at L (c.le (by decide)) (s.le (by decide))
  rw [e] at e'
  have e1 : wv u v (m + 1) = (C', S') := congrArg Prod.fst e'
  have c0 := sq_nonneg (wv u v m).1; have s0 := sq_nonneg (wv u v m).2
  have bd : C' * C' + S' * S' ≤ 1208925819614629174706176 + ((m : Int) + 1) * 4650000000000000000 := by
   have p := Int.mul_le_mul_of_nonneg_left L.hi (show 0 ≤ (wv u v m).1 * (wv u v m).1 + (wv u v m).2 * (wv u v m).2 by omega)
   generalize (wv u v m).1 * (wv u v m).1 + (wv u v m).2 * (wv u v m).2 = ρ at *
   have m6 : (m : Int) ≤ 5 := by omega
   have m0 : (0 : Int) ≤ m := by omega
   omega
  have sm : Ab C' 1100000000000 ∧ Ab S' 1100000000000 := by
   have a := sq_nonneg C'; have b := sq_nonneg S'
   have m6 : (m : Int) ≤ 5 := by omega
   exact ⟨(sq_lt (n := 1099999999999) (by decide) (by omega)).le (by decide), (sq_lt (n := 1099999999999) (by decide) (by omega)).le (by decide)⟩
  obtain ⟨C2, S2, e2, _⟩ := wave_at L (sm.1.le (by decide)) (sm.2.le (by decide))
  rw [e1]
  refine ⟨sm.1, sm.2, by rw [show ((m + 1 : Nat) : Int) = (m : Int) + 1 by omega]; exact bd, ?_⟩
  show waveS false C' S' u v = ((waveS false (wv u v (m + 1)).1 (wv u v (m + 1)).2 u v).1, false)
  rw [e1, e2]
end Go.Proofs.YtbophanlmkbfeaaGreatDoor
namespace Go.Proofs.YtbophanlmkbfeaaGreatDoor
theorem fG_bd (n m : Nat) : Ab (fG n m) 32400000000000 := by unfold fG; split <;> exact ⟨by decide, by decide⟩
theorem fH_bd (n m : Nat) : Ab (fH n m) 32400000000000 := by unfold fH; split <;> exact ⟨by decide, by decide⟩
theorem fGy_bd (n m : Nat) : Ab (fGy n m) 40000000000 := by unfold fGy; split <;> exact ⟨by decide, by decide⟩
theorem fHy_bd (n m : Nat) : Ab (fHy n m) 40000000000 := by unfold fHy; split <;> exact ⟨by decide, by decide⟩
def gS (y : Int) (n m : Nat) : Int := if n ≤ 2 then fG n m + (mulS false y (fGy n m)).1 else fG n m
def hS (y : Int) (n m : Nat) : Int := if n ≤ 2 then fH n m + (mulS false y (fHy n m)).1 else fH n m
theorem year_at {y a : Int} (y0 : 0 ≤ y) (y1 : y ≤ 5497558138880) (ha : Ab a 40000000000) : ∃ x, mulS false y a = (x, false) ∧ min 0 (5 * a) ≤ x ∧ x ≤ max 0 (5 * a) := by
 obtain ⟨x, e, r, _⟩ := mul_x (B := 200000000001) (show Ab y 5497558138880 from ⟨by omega, y1⟩) ha (by decide) (by decide) (by decide) (by decide)
 refine ⟨x, e, ?_, ?_⟩
 ·by_cases h : 0 ≤ a
  ·have := Int.mul_nonneg y0 h
   have := r.lo
   omega
  ·have := Int.mul_le_mul_of_nonpos_right y1 (show a ≤ 0 by omega)
   have := r.lo
   omega
 ·by_cases h : 0 ≤ a
  ·have := Int.mul_le_mul_of_nonneg_right y1 h
   have := r.hi
   omega
  ·have := Int.mul_nonneg y0 (show 0 ≤ -a by omega)
   rw [Int.mul_neg] at this
   have := r.hi
   omega
theorem gS_bd {y : Int} (y0 : 0 ≤ y) (y1 : y ≤ 5497558138880) (n m : Nat) : Ab (gS y n m) 35184372088832 := by
 obtain ⟨x, e, l, u⟩ := year_at y0 y1 (fGy_bd n m)
 have a := fGy_bd n m; have b := fG_bd n m
 have := a.lo; have := a.hi; have := b.lo; have := b.hi
 unfold gS
 split
 ·rw [e]; exact ⟨by show _ ≤ fG n m + x; omega, by show fG n m + x ≤ _; omega⟩
 ·exact ⟨by omega, by omega⟩
theorem hS_bd {y : Int} (y0 : 0 ≤ y) (y1 : y ≤ 5497558138880) (n m : Nat) : Ab (hS y n m) 35184372088832 := by
 obtain ⟨x, e, l, u⟩ := year_at y0 y1 (fHy_bd n m)
 have a := fHy_bd n m; have b := fH_bd n m
 have := a.lo; have := a.hi; have := b.lo; have := b.hi
 unfold hS
 split
 ·rw [e]; exact ⟨by show _ ≤ fH n m + x; omega, by show fH n m + x ≤ _; omega⟩
 ·exact ⟨by omega, by omega⟩
def termS (bad : Bool) (n m t C S g h : Int) (x st : V3) : V3 × Bool :=
 let r1 := mulS bad g C; let r2 := mulS r1.2 h S; let r3 := addS r2.2 r1.1 r2.1
 let r4 := mulS r3.2 g S; let r5 := mulS r4.2 h C; let r6 := subS r5.2 r4.1 r5.1
 let r7 := mulS r6.2 r3.1 x.1; let r8 := mulS r7.2 t r7.1; let r9 := partS r8.2 r8.1 (n + 1) 1; let r10 := addS r9.2 st.1 r9.1
 let r11 := mulS r10.2 r3.1 x.2.1; let r12 := mulS r11.2 t r11.1; let r13 := subS r12.2 st.2.1 r12.1
 if 0 < m then
  let r14 := mulS r13.2 r6.1 x.2.2; let r15 := mulS r14.2 t r14.1; let r16 := partS r15.2 r15.1 m 1; let r17 := addS r16.2 st.2.2 r16.1
  ((r10.1, r13.1, r17.1), r17.2)
 else ((r10.1, r13.1, st.2.2), r13.2)
theorem three {t e E x : Int} (t0 : 0 ≤ t) (t1 : t ≤ 2199023255552) (xb : Ab x 17592186044416) (eb : Ab e 70400000000002) (he : Ab (e * 1099511627776 - E) 1099511627776) :
    ∃ y z, mulS false e x = (y, false) ∧ mulS false t y = (z, false) ∧ Ab z 2252800000000070 ∧ Ab (z * 1329227995784915872903807060280344576 - t * x * E) 45193751856687139678729440049531715584 := by
 obtain ⟨y, h1, q1, b1⟩ := mul_x (B := 1126400000000033) eb xb (by decide) (by decide) (by decide) (by decide)
 have tb : Ab t 2199023255552 := ⟨by omega, t1⟩
 obtain ⟨z, h2, q2, b2⟩ := mul_x (B := 2252800000000070) tb b1 (by decide) (by decide) (by decide) (by decide)
 refine ⟨y, z, h1, h2, b2, ?_⟩
 have k : 2 * (z * 1329227995784915872903807060280344576 - t * x * E) = 1208925819614629174706176 * (2 * (z * 1099511627776 - t * y)) + 1099511627776 * (t * (2 * (y * 1099511627776 - e * x))) + 2 * (t * (x * (e * 1099511627776 - E))) := by grind
 have a := tb.mul q1
 have b := tb.mul (xb.mul he)
 have := q2.lo; have := q2.hi; have := a.lo; have := a.hi; have := b.lo; have := b.hi
 generalize t * (2 * (y * 1099511627776 - e * x)) = A at *
 generalize t * (x * (e * 1099511627776 - E)) = B at *
 generalize 2 * (z * 1099511627776 - t * y) = D at *
 generalize z * 1329227995784915872903807060280344576 - t * x * E = Z at *
 exact ⟨by omega, by omega⟩
theorem times_near {z k : Int} (hz : Ab z 2252800000000070) (k0 : 0 ≤ k) (k1 : k ≤ 7) : partS false z k 1 = (z * k, false) := by
 obtain ⟨m, e, h1, h2, _⟩ := partS_near z k 1 (hz.numB (by decide)) (numB_of ⟨by omega, by omega⟩) (by rfl) (by decide) (by
  have a := sz_le ⟨hz.lo, hz.hi⟩
  have b : sz k ≤ 7 := sz_le ⟨by omega, k1⟩
  have := Int.mul_le_mul a b (le_sz k).2.2 (by decide)
  omega)
 rw [e]
 have : m = z * k := by omega
 rw [this]
structure St3 (x : V3) (K : Int) : Prop where
 a : Ab x.1 K
 b : Ab x.2.1 K
 c : Ab x.2.2 K
theorem term_at {n m t C S g h K : Int} {x st : V3} (n0 : 0 ≤ n) (n1 : n ≤ 6) (m0 : 0 ≤ m) (m1 : m ≤ 6) (t0 : 0 ≤ t) (t1 : t ≤ 2199023255552) (Cb : Ab C 1100000000000) (Sb : Ab S 1100000000000) (gb : Ab g 35184372088832) (hb : Ab h 35184372088832) (sx : Sm3 x) (ss : St3 st K) (hK : K ≤ 1152921504606846976) (K0 : 0 ≤ K) :
    ∃ s', termS false n m t C S g h x st = (s', false) ∧ St3 s' (K + 15769600000000490) ∧
      Ab (1329227995784915872903807060280344576 * (s'.1 - st.1) - (n + 1) * (t * x.1) * (g * C + h * S)) 340282366920938463463374607431768211456 ∧
      Ab (1329227995784915872903807060280344576 * (st.2.1 - s'.2.1) - t * x.2.1 * (g * C + h * S)) 340282366920938463463374607431768211456 ∧
      Ab (1329227995784915872903807060280344576 * (s'.2.2 - st.2.2) - m * (t * x.2.2) * (g * S - h * C)) 340282366920938463463374607431768211456 := by
 obtain ⟨v1, h1, q1, b1⟩ := mul_x (B := 35200000000001) gb Cb (by decide) (by decide) (by decide) (by decide)
 obtain ⟨v2, h2, q2, b2⟩ := mul_x (B := 35200000000001) hb Sb (by decide) (by decide) (by decide) (by decide)
 have h3 := add_near b1 b2 (by decide) (by decide) (by decide)
 obtain ⟨v4, h4, q4, b4⟩ := mul_x (B := 35200000000001) gb Sb (by decide) (by decide) (by decide) (by decide)
 obtain ⟨v5, h5, q5, b5⟩ := mul_x (B := 35200000000001) hb Cb (by decide) (by decide) (by decide) (by decide)
 have h6 := sub_near b4 b5 (by decide) (by decide) (by decide)
 have eE : Ab ((v1 + v2) * 1099511627776 - (g * C + h * S)) 1099511627776 := by
  have := q1.lo; have := q1.hi; have := q2.lo; have := q2.hi
  exact ⟨by omega, by omega⟩
 have oE : Ab ((v4 - v5) * 1099511627776 - (g * S - h * C)) 1099511627776 := by
  have := q4.lo; have := q4.hi; have := q5.lo; have := q5.hi
  exact ⟨by omega, by omega⟩
 obtain ⟨y1, z1, i1, j1, zb1, w1⟩ := three t0 t1 sx.p (b1.add b2) eE
 obtain ⟨y2, z2, i2, j2, zb2, w2⟩ := three t0 t1 sx.d (b1.add b2) eE
 obtain ⟨y3, z3, i3, j3, zb3, w3⟩ := three t0 t1 sx.q (b4.sub b5) oE
 have p1 := times_near (k := n + 1) zb1 (by omega) (by omega)
 have p3 := times_near (k := m) zb3 (by omega) (by omega)
 have c1 : Ab (z1 * (n + 1)) 15769600000000490 := zb1.mul (L := 7) ⟨by omega, by omega⟩
 have c3 : Ab (z3 * m) 15769600000000490 := zb3.mul (L := 7) ⟨by omega, by omega⟩
 have a1 := add_near ss.a c1 (by omega) (by omega) (by decide)
 have a2 := sub_near ss.b zb2 (by omega) (by omega) (by decide)
 have a3 := add_near ss.c c3 (by omega) (by omega) (by decide)
 have f1 : Ab (1329227995784915872903807060280344576 * (st.1 + z1 * (n + 1) - st.1) - (n + 1) * (t * x.1) * (g * C + h * S)) 340282366920938463463374607431768211456 := by
  have k := w1.mul (y := n + 1) (L := 7) ⟨by omega, by omega⟩
  have e : 1329227995784915872903807060280344576 * (st.1 + z1 * (n + 1) - st.1) - (n + 1) * (t * x.1) * (g * C + h * S) = (z1 * 1329227995784915872903807060280344576 - t * x.1 * (g * C + h * S)) * (n + 1) := by grind
  rw [e]
  exact k.le (by decide)
 have f2 : Ab (1329227995784915872903807060280344576 * (st.2.1 - (st.2.1 - z2)) - t * x.2.1 * (g * C + h * S)) 340282366920938463463374607431768211456 := by
  have e : 1329227995784915872903807060280344576 * (st.2.1 - (st.2.1 - z2)) - t * x.2.1 * (g * C + h * S) = z2 * 1329227995784915872903807060280344576 - t * x.2.1 * (g * C + h * S) := by omega
  rw [e]
  exact w2.le (by decide)
 by_cases hm : 0 < m
 ·refine ⟨(st.1 + z1 * (n + 1), st.2.1 - z2, st.2.2 + z3 * m), ?_, ⟨ss.a.add c1, (ss.b.sub zb2).le (by omega), ss.c.add c3⟩, f1, f2, ?_⟩
  ·unfold termS
   simp only [h1, h2, h3, h4, h5, h6, i1, j1, p1, a1, i2, j2, a2, if_pos hm, i3, j3, p3, a3]
  ·have k := w3.mul (y := m) (L := 7) ⟨by omega, by omega⟩
   have e : 1329227995784915872903807060280344576 * (st.2.2 + z3 * m - st.2.2) - m * (t * x.2.2) * (g * S - h * C) = (z3 * 1329227995784915872903807060280344576 - t * x.2.2 * (g * S - h * C)) * m := by grind
   show Ab (1329227995784915872903807060280344576 * (st.2.2 + z3 * m - st.2.2) - m * (t * x.2.2) * (g * S - h * C)) _
   rw [e]
   exact k.le (by decide)
 ·obtain rfl : m = 0 := by omega
  refine ⟨(st.1 + z1 * (n + 1), st.2.1 - z2, st.2.2), ?_, ⟨ss.a.add c1, (ss.b.sub zb2).le (by omega), ss.c.le (by omega)⟩, f1, f2, ?_⟩
  ·unfold termS
   simp only [h1, h2, h3, h4, h5, h6, i1, j1, p1, a1, i2, j2, a2, if_neg hm]
  ·have e : 1329227995784915872903807060280344576 * (st.2.2 - st.2.2) - 0 * (t * x.2.2) * (g * S - h * C) = 0 := by grind
   show Ab (1329227995784915872903807060280344576 * (st.2.2 - st.2.2) - 0 * (t * x.2.2) * (g * S - h * C)) _
   rw [e]
   exact ⟨by decide, by decide⟩
end Go.Proofs.YtbophanlmkbfeaaGreatDoor
namespace Go.Proofs.YtbophanlmkbfeaaGreatDoor
theorem tri_zero (c s : Int) : ∀ n m, n < m → tri c s n m = (0, 0, 0)
 | 0, m, h => by unfold tri; rw [if_neg (by omega)]
 | 1, m, h => by unfold tri; rw [if_neg (by omega), if_neg (by omega)]
 | n + 2, m, h => by unfold tri; rw [if_neg (by omega), if_neg (by omega)]
theorem sm_cut {f : Nat → Int} {a : Nat} (h : ∀ k, a ≤ k → f k = 0) : ∀ b, sm f (a + b) = sm f a
 | 0 => rfl
 | b + 1 => by show sm f (a + b) + f (a + b) = _; rw [sm_cut h b, h (a + b) (by omega)]; omega
section
variable (c s q y u v : Int)
def innS (n : Nat) (st : V3) : Nat → V3
 | 0 => st
 | m + 1 => (termS false n m (tS q n) (wv u v m).1 (wv u v m).2 (gS y n m) (hS y n m) (tri c s n m) (innS n st m)).1
def outS : Nat → V3
 | 0 => (0, 0, 0)
 | k + 1 => innS c s q y u v (k + 1) (outS k) (k + 2)
end
structure Sums (C S Q : Iv) (c s q y u v : Int) : Prop where
 L : Lies C S Q c s q
 y0 : 0 ≤ y
 y1 : y ≤ 5497558138880
 W : Lon u v
section
variable {C S Q : Iv} {c s q y u v : Int}
theorem inn_at (Z : Sums C S Q c s q y u v) {k : Nat} (hk : k < 6) {st : V3} {K : Int} (ss : St3 st K) (K0 : 0 ≤ K) (hK : K ≤ 900000000000000000) : ∀ m : Nat, m ≤ k + 2 →
    St3 (innS c s q y u v (k + 1) st m) (K + m * 15769600000000490) ∧
    Ab (1329227995784915872903807060280344576 * ((innS c s q y u v (k + 1) st m).1 - st.1) - sm (fun j => wU c s q k j * (gS y (k + 1) j * (wv u v j).1 + hS y (k + 1) j * (wv u v j).2)) m) (m * 340282366920938463463374607431768211456) ∧
    Ab (1329227995784915872903807060280344576 * (st.2.1 - (innS c s q y u v (k + 1) st m).2.1) - sm (fun j => wS c s q k j * (gS y (k + 1) j * (wv u v j).1 + hS y (k + 1) j * (wv u v j).2)) m) (m * 340282366920938463463374607431768211456) ∧
    Ab (1329227995784915872903807060280344576 * ((innS c s q y u v (k + 1) st m).2.2 - st.2.2) - sm (fun j => wE c s q k j * (gS y (k + 1) j * (wv u v j).2 - hS y (k + 1) j * (wv u v j).1)) m) (m * 340282366920938463463374607431768211456)
 | 0, _ => by
  refine ⟨by show St3 st _; simpa using ss, ?_, ?_, ?_⟩
  ·show Ab (1329227995784915872903807060280344576 * (st.1 - st.1) - 0) _
   exact ⟨by omega, by omega⟩
  ·show Ab (1329227995784915872903807060280344576 * (st.2.1 - st.2.1) - 0) _
   exact ⟨by omega, by omega⟩
  ·show Ab (1329227995784915872903807060280344576 * (st.2.2 - st.2.2) - 0) _
   exact ⟨by omega, by omega⟩
 | m + 1, hm => by
  obtain ⟨i1, i2, i3, i4⟩ := inn_at Z hk ss K0 hK m (by omega)
  obtain ⟨_, t0, t1'⟩ := t_at Z.L.q0 Z.L.q1 Z.L.iq (k + 1) (by omega)
  have t1 : tS q (k + 1) ≤ 2199023255552 := Int.le_trans t1' (tB_le _)
  obtain ⟨cb, sb, _, _⟩ := wv_at Z.W m (by omega)
  obtain ⟨s', e, b, f1, f2, f3⟩ := term_at (n := ((k + 1 : Nat) : Int)) (m := (m : Int)) (K := K + m * 15769600000000490) (by omega) (by omega) (by omega) (by omega) t0 t1 cb sb (gS_bd Z.y0 Z.y1 (k + 1) m) (hS_bd Z.y0 Z.y1 (k + 1) m) (Z.L.sm k hk m) i1 (by omega) (by omega)
  have e1 : innS c s q y u v (k + 1) st (m + 1) = s' := by unfold innS; rw [e]
  rw [e1]
  have cst : ((k + 1 : Nat) : Int) + 1 = (k : Int) + 2 := by omega
  rw [cst] at f1
  have mm : ((m + 1 : Nat) : Int) = (m : Int) + 1 := by omega
  rw [mm]
  refine ⟨⟨b.a.le (by omega), b.b.le (by omega), b.c.le (by omega)⟩, ?_, ?_, ?_⟩
  ·show Ab (_ - (sm _ m + wU c s q k m * (gS y (k + 1) m * (wv u v m).1 + hS y (k + 1) m * (wv u v m).2))) _
   unfold wU at *
   have := i2.lo; have := i2.hi; have := f1.lo; have := f1.hi
   exact ⟨by omega, by omega⟩
  ·show Ab (_ - (sm _ m + wS c s q k m * (gS y (k + 1) m * (wv u v m).1 + hS y (k + 1) m * (wv u v m).2))) _
   unfold wS at *
   have := i3.lo; have := i3.hi; have := f2.lo; have := f2.hi
   exact ⟨by omega, by omega⟩
  ·show Ab (_ - (sm _ m + wE c s q k m * (gS y (k + 1) m * (wv u v m).2 - hS y (k + 1) m * (wv u v m).1))) _
   unfold wE at *
   have := i4.lo; have := i4.hi; have := f3.lo; have := f3.hi
   exact ⟨by omega, by omega⟩
theorem out_at (Z : Sums C S Q c s q y u v) : ∀ k : Nat, k ≤ 6 →
    St3 (outS c s q y u v k) (k * 126156800000003920) ∧
    Ab (1329227995784915872903807060280344576 * (outS c s q y u v k).1 - sm (fun n => sm (fun j => wU c s q n j * (gS y (n + 1) j * (wv u v j).1 + hS y (n + 1) j * (wv u v j).2)) 7) k) (k * 2722258935367507707706996859454145691648) ∧
    Ab (1329227995784915872903807060280344576 * -(outS c s q y u v k).2.1 - sm (fun n => sm (fun j => wS c s q n j * (gS y (n + 1) j * (wv u v j).1 + hS y (n + 1) j * (wv u v j).2)) 7) k) (k * 2722258935367507707706996859454145691648) ∧
    Ab (1329227995784915872903807060280344576 * (outS c s q y u v k).2.2 - sm (fun n => sm (fun j => wE c s q n j * (gS y (n + 1) j * (wv u v j).2 - hS y (n + 1) j * (wv u v j).1)) 7) k) (k * 2722258935367507707706996859454145691648)
 | 0, _ => by
  refine ⟨⟨⟨by show (-(0 * 126156800000003920) : Int) ≤ 0; decide, by show (0 : Int) ≤ 0 * 126156800000003920; decide⟩, ⟨by show (-(0 * 126156800000003920) : Int) ≤ 0; decide, by show (0 : Int) ≤ 0 * 126156800000003920; decide⟩, ⟨by show (-(0 * 126156800000003920) : Int) ≤ 0; decide, by show (0 : Int) ≤ 0 * 126156800000003920; decide⟩⟩, ?_, ?_, ?_⟩
  ·show Ab (1329227995784915872903807060280344576 * 0 - 0) _
   exact ⟨by omega, by omega⟩
  ·show Ab (1329227995784915872903807060280344576 * -0 - 0) _
   exact ⟨by omega, by omega⟩
  ·show Ab (1329227995784915872903807060280344576 * 0 - 0) _
   exact ⟨by omega, by omega⟩
 | k + 1, hk => by
  obtain ⟨s0, o1, o2, o3⟩ := out_at Z k (by omega)
  obtain ⟨i1, i2, i3, i4⟩ := inn_at Z (show k < 6 by omega) s0 (by omega) (by omega) (k + 2) (Nat.le_refl _)
  have e1 : outS c s q y u v (k + 1) = innS c s q y u v (k + 1) (outS c s q y u v k) (k + 2) := by rw [outS]
  have z (j : Nat) (h : k + 2 ≤ j) : tri c s (k + 1) j = (0, 0, 0) := tri_zero c s (k + 1) j (by omega)
  have c1 := sm_cut (f := fun j => wU c s q k j * (gS y (k + 1) j * (wv u v j).1 + hS y (k + 1) j * (wv u v j).2)) (a := k + 2) (fun j h => by show wU c s q k j * _ = 0; unfold wU; rw [z j h]; simp) (5 - k)
  have c2 := sm_cut (f := fun j => wS c s q k j * (gS y (k + 1) j * (wv u v j).1 + hS y (k + 1) j * (wv u v j).2)) (a := k + 2) (fun j h => by show wS c s q k j * _ = 0; unfold wS; rw [z j h]; simp) (5 - k)
  have c3 := sm_cut (f := fun j => wE c s q k j * (gS y (k + 1) j * (wv u v j).2 - hS y (k + 1) j * (wv u v j).1)) (a := k + 2) (fun j h => by show wE c s q k j * _ = 0; unfold wE; rw [z j h]; simp) (5 - k)
  rw [show k + 2 + (5 - k) = 7 by omega] at c1 c2 c3
  rw [e1]
  have kk : ((k + 2 : Nat) : Int) ≤ 8 := by omega
  have k1 : ((k + 1 : Nat) : Int) = (k : Int) + 1 := by omega
  have k2 : ((k + 2 : Nat) : Int) = (k : Int) + 2 := by omega
  rw [k2] at i1 i2 i3 i4
  rw [k1]
  refine ⟨⟨i1.a.le (by omega), i1.b.le (by omega), i1.c.le (by omega)⟩, ?_, ?_, ?_⟩
  ·show Ab (_ - (sm _ k + sm (fun j => wU c s q k j * (gS y (k + 1) j * (wv u v j).1 + hS y (k + 1) j * (wv u v j).2)) 7)) _
   rw [c1]
   have := i2.lo; have := i2.hi; have := o1.lo; have := o1.hi
   exact ⟨by omega, by omega⟩
  ·show Ab (_ - (sm _ k + sm (fun j => wS c s q k j * (gS y (k + 1) j * (wv u v j).1 + hS y (k + 1) j * (wv u v j).2)) 7)) _
   rw [c2]
   have := i3.lo; have := i3.hi; have := o2.lo; have := o2.hi
   exact ⟨by omega, by omega⟩
  ·show Ab (_ - (sm _ k + sm (fun j => wE c s q k j * (gS y (k + 1) j * (wv u v j).2 - hS y (k + 1) j * (wv u v j).1)) 7)) _
   rw [c3]
   have := i4.lo; have := i4.hi; have := o3.lo; have := o3.hi
   exact ⟨by omega, by omega⟩
theorem step_good (Z : Sums C S Q c s q y u v) {k m : Nat} (hk : k < 6) (hm : m < k + 2) :
    termS false ((k + 1 : Nat) : Int) m (tS q (k + 1)) (wv u v m).1 (wv u v m).2 (gS y (k + 1) m) (hS y (k + 1) m) (tri c s (k + 1) m) (innS c s q y u v (k + 1) (outS c s q y u v k) m) = (innS c s q y u v (k + 1) (outS c s q y u v k) (m + 1), false) := by
 obtain ⟨s0, _, _, _⟩ := out_at Z k (by omega)
 obtain ⟨i1, _, _, _⟩ := inn_at Z hk s0 (by omega) (by omega) m (by omega)
 obtain ⟨_, t0, t1'⟩ := t_at Z.L.q0 Z.L.q1 Z.L.iq (k + 1) (by omega)
 have t1 : tS q (k + 1) ≤ 2199023255552 := Int.le_trans t1' (tB_le _)
 obtain ⟨cb, sb, _, _⟩ := wv_at Z.W m (by omega)
 obtain ⟨s', e, _, _, _, _⟩ := term_at (n := ((k + 1 : Nat) : Int)) (m := (m : Int)) (by omega) (by omega) (by omega) (by omega) t0 t1 cb sb (gS_bd Z.y0 Z.y1 (k + 1) m) (hS_bd Z.y0 Z.y1 (k + 1) m) (Z.L.sm k hk m) i1 (by omega) (by omega)
 rw [e, show innS c s q y u v (k + 1) (outS c s q y u v k) (m + 1) = s' by (conv => lhs; unfold innS); rw [e]]
end
end Go.Proofs.YtbophanlmkbfeaaGreatDoor
namespace Go.Proofs.YtbophanlmkbfeaaGreatDoor
def vecS (bad : Bool) (w : V3) (c s u v : Int) : V3 × Bool :=
 let r1 := mulS bad w.1 s; let r2 := mulS r1.2 w.2.1 c; let r3 := addS r2.2 r1.1 r2.1
 let r4 := mulS r3.2 r3.1 u; let r5 := mulS r4.2 w.2.2 v; let r6 := subS r5.2 r4.1 r5.1
 let r7 := mulS r6.2 r3.1 v; let r8 := mulS r7.2 w.2.2 u; let r9 := addS r8.2 r7.1 r8.1
 let r10 := mulS r9.2 w.1 c; let r11 := mulS r10.2 w.2.1 s; let r12 := subS r11.2 r10.1 r11.1
 ((r6.1, r9.1, r12.1), r12.2)
end Go.Proofs.YtbophanlmkbfeaaGreatDoor
