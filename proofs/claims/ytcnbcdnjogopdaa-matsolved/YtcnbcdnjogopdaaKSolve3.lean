/-
  What is solved with a root, and put in again, is nearly what was asked, for the seat Ytcnbcdnjogopdaa. No Go text in sight.
-/
import Derived.Test.YtcnbcdnjogopdaaKSolve2
namespace Go.Proofs.Ytcnbcdnjogopdaa
open Go.RowKit

def qb (L : Nat → Nat → Int) (x : Nat → Int) (i k : Nat) : Int := (mulS false (L k i) (x k)).1
def sb (y : Nat → Int) (L : Nat → Nat → Int) (x : Nat → Int) (i c : Nat) : Int := y i - sm (fun t => qb L x i (i + 1 + t)) c
theorem qb_is {L : Nat → Nat → Int} {x : Nat → Int} {i k : Nat} (h : Ab (L k i) 1099511627776) (hx : Ab (x k) 576460752303423488) : mulS false (L k i) (x k) = (qb L x i k, false) ∧ MulR (qb L x i k) (L k i) (x k) := by
  obtain ⟨p, e, r⟩ := mul_big h hx
  unfold qb
  rw [e]
  exact ⟨rfl, r⟩
structure Bw (y : Nat → Int) (L : Nat → Nat → Int) (x : Nat → Int) (n i : Nat) : Prop where
  dv : divS false (sb y L x i (n - 1 - i)) (L i i) = (x i, false)
  R : DivR (x i) (sb y L x i (n - 1 - i)) (L i i)
  ub : Ab (x i) ((n - i : Nat) * 18014398509481984)
theorem sb_same {y : Nat → Int} {L : Nat → Nat → Int} {x x' : Nat → Int} {i c : Nat} (h : ∀ k, i < k → x' k = x k) : sb y L x' i c = sb y L x i c := by
  unfold sb
  rw [sm_eq fun t _ => (by unfold qb; rw [h _ (by omega)] : qb L x' i (i + 1 + t) = qb L x i (i + 1 + t))]
/-- How great what is left at i can be, if all behind it is up to X. -/
theorem sb_bd {m L : Nat → Nat → Int} {n i c : Nat} {y x : Nat → Int} {X : Int} (H : Heavy m n) (W : Whole m L n) (hi : i < n) (hy : Ab (y i) 281474976710656) (X0 : 0 ≤ X) (X1 : X ≤ 576460752303423488) (hx : ∀ k, i < k → k < n → Ab (x k) X) (hc : i + 1 + c ≤ n) :
    Ab (2199023255552 * sb y L x i c) (2199023255552 * 281474976710656 + 2 * (X * L i i) + 6597069766656) := by
  have cm := col_mul H W hi (q := fun k => qb L x i k) (z := x) (Z := X) X0 (fun k h1 h2 => az_le (hx k h1 h2).lo (hx k h1 h2).hi) (fun k h1 h2 => (qb_is (W.ub k i) ((hx k h1 h2).le X1)).2)
  have s1 := sm_az (fun t => qb L x i (i + 1 + t)) c
  have s2 : sm (fun t => az (qb L x i (i + 1 + t))) c ≤ sm (fun k => if i < k then az (qb L x i k) else 0) n := by
    have e : sm (fun t => az (qb L x i (i + 1 + t))) c = sm (fun t => (fun k => if i < k then az (qb L x i k) else 0) (i + 1 + t)) c := sm_eq fun t _ => by
      show az (qb L x i (i + 1 + t)) = if i < i + 1 + t then az (qb L x i (i + 1 + t)) else 0
      rw [if_pos (by omega)]
    rw [e, sm_shift (fun k => if i < k then az (qb L x i k) else 0) (i + 1) c]
    have p : ∀ k, 0 ≤ (fun k => if i < k then az (qb L x i k) else 0) k := fun k => by show 0 ≤ (if i < k then az (qb L x i k) else 0); split; exact az_n _; exact Int.le_refl _
    have a := sm_pos (f := fun k => if i < k then az (qb L x i k) else 0) (n := i + 1) (fun k _ => p k)
    have b := sm_more (f := fun k => if i < k then az (qb L x i k) else 0) (n := i + 1 + c) (d := n - (i + 1 + c)) (fun k _ => p k)
    rw [show i + 1 + c + (n - (i + 1 + c)) = n by omega] at b
    omega
  have l := az_lo (sm (fun t => qb L x i (i + 1 + t)) c); have h := az_hi (sm (fun t => qb L x i (i + 1 + t)) c)
  have := hy.lo; have := hy.hi
  unfold sb
  generalize X * L i i = u at *
  constructor <;> omega
theorem bsubs {m L : Nat → Nat → Int} {n i : Nat} {y x : Nat → Int} {X : Int} (H : Heavy m n) (W : Whole m L n) (hi : i < n) (hy : Ab (y i) 281474976710656) (X0 : 0 ≤ X) (X1 : X ≤ 144115188075855872) (hx : ∀ k, i < k → k < n → Ab (x k) X) : ∀ {c : Nat}, i + 1 + c ≤ n → subsS false (y i) (fun t => L (i + 1 + t) i) (fun t => x (i + 1 + t)) c = (sb y L x i c, false)
  | 0, _ => by
    have e : sb y L x i 0 = y i := by unfold sb; show y i - 0 = _; omega
    rw [e]; rfl
  | c + 1, hc => by
    obtain ⟨d1, d2⟩ := (W.rows i hi).1.root
    have b := sb_bd H W hi (c := c) hy X0 (by omega) hx (by omega)
    have xk := hx (i + 1 + c) (by omega) (by omega)
    obtain ⟨e, r⟩ := qb_is (W.ub (i + 1 + c) i) (xk.le (show X ≤ 576460752303423488 by omega))
    have XL : X * L i i ≤ 144115188075855872 * 1099511627776 := Int.mul_le_mul X1 d2 (by omega) (by decide)
    have b2 : Ab (sb y L x i c) 288230376151711744 := by
      have := b.lo; have := b.hi
      constructor <;> omega
    unfold subsS
    rw [bsubs H W hi hy X0 X1 hx (c := c) (by omega)]
    dsimp only
    rw [e]
    dsimp only
    rw [sub_near b2 (prod_bd (W.ub (i + 1 + c) i) (xk.le X1) r (B := 144115188075855873) (by decide)) (by decide) (by decide) (by decide)]
    congr 1
    unfold sb
    show _ = y i - (sm (fun t => qb L x i (i + 1 + t)) c + qb L x i (i + 1 + c))
    omega
theorem bwd_good {m L : Nat → Nat → Int} {n : Nat} {y : Nat → Int} (H : Heavy m n) (W : Whole m L n) (hy : ∀ i, i < n → Ab (y i) 281474976710656) : ∀ {t : Nat}, t ≤ n → ∃ x, bwdS L y n false t = (x, false) ∧ ∀ k, n - t ≤ k → k < n → Bw y L x n k
  | 0, _ => ⟨fun _ => 0, rfl, fun k h1 h2 => by omega⟩
  | t + 1, ht => by
    have n6 := H.n6
    obtain ⟨x, e, F⟩ := bwd_good H W hy (t := t) (by omega)
    have hi : n - 1 - t < n := by omega
    obtain ⟨d1, d2⟩ := (W.rows (n - 1 - t) hi).1.root
    have X0 : (0 : Int) ≤ (t : Int) * 18014398509481984 := by omega
    have hx : ∀ k, n - 1 - t < k → k < n → Ab (x k) ((t : Int) * 18014398509481984) := fun k h1 h2 => (F k (by omega) h2).ub.le (by omega)
    have X1 : (t : Int) * 18014398509481984 ≤ 144115188075855872 := by omega
    have b := sb_bd H W hi (c := t) (hy _ hi) X0 (by omega) hx (by omega)
    have sc := bsubs H W hi (hy _ hi) X0 X1 hx (c := t) (by omega)
    have XL : (t : Int) * 18014398509481984 * L (n - 1 - t) (n - 1 - t) ≤ 144115188075855872 * 1099511627776 := Int.mul_le_mul X1 d2 (by omega) (by decide)
    have XL0 : 0 ≤ (t : Int) * 18014398509481984 * L (n - 1 - t) (n - 1 - t) := Int.mul_nonneg X0 (by omega)
    have XL2 : (t : Int) * 18014398509481984 * L (n - 1 - t) (n - 1 - t) ≤ 144115188075855872 * L (n - 1 - t) (n - 1 - t) := Int.mul_le_mul_of_nonneg_right X1 (by omega)
    obtain ⟨v, ev, R⟩ := div_big (a := sb y L x (n - 1 - t) t) (d := L (n - 1 - t) (n - 1 - t)) (by have := b.lo; have := b.hi; constructor <;> omega) d1 d2 (by have := b.lo; have := b.hi; constructor <;> omega)
    have vb : Ab v (((t + 1 : Nat) : Int) * 18014398509481984) := by
      have := b.lo; have := b.hi; have := R.lo; have := R.hi
      have e1 : ((t : Int) * 18014398509481984 + 18014398509481985) * L (n - 1 - t) (n - 1 - t) = (t : Int) * 18014398509481984 * L (n - 1 - t) (n - 1 - t) + 18014398509481985 * L (n - 1 - t) (n - 1 - t) := Int.add_mul _ _ _
      constructor
      · apply Classical.byContradiction
        intro c
        have c' : v ≤ -((t : Int) * 18014398509481984 + 18014398509481985) := by omega
        have := Int.mul_le_mul_of_nonneg_right c' (show 0 ≤ L (n - 1 - t) (n - 1 - t) by omega)
        rw [Int.neg_mul, e1] at this
        omega
      · apply Classical.byContradiction
        intro c
        have c' : (t : Int) * 18014398509481984 + 18014398509481985 ≤ v := by omega
        have := Int.mul_le_mul_of_nonneg_right c' (show 0 ≤ L (n - 1 - t) (n - 1 - t) by omega)
        rw [e1] at this
        omega
    have same : ∀ k, n - 1 - t < k → setF x (n - 1 - t) v k = x k := fun k hk => by unfold setF; rw [if_neg (by omega)]
    have here : setF x (n - 1 - t) v (n - 1 - t) = v := by unfold setF; rw [if_pos rfl]
    refine ⟨setF x (n - 1 - t) v, ?_, fun k h1 h2 => ?_⟩
    · unfold bwdS; rw [e]; dsimp only; rw [sc]; dsimp only; rw [ev]
    · by_cases c : n - t ≤ k
      · have e2 := sb_same (y := y) (L := L) (x := x) (x' := setF x (n - 1 - t) v) (i := k) (c := n - 1 - k) (fun j hj => same j (by omega))
        have Fk := F k c h2
        have sk := same k (by omega)
        exact ⟨by rw [e2, sk]; exact Fk.dv, by rw [e2, sk]; exact Fk.R, by rw [sk]; exact Fk.ub⟩
      · have ek : k = n - 1 - t := by omega
        subst ek
        have e2 := sb_same (y := y) (L := L) (x := x) (x' := setF x (n - 1 - t) v) (i := n - 1 - t) (c := n - 1 - (n - 1 - t)) same
        have e3 : n - 1 - (n - 1 - t) = t := by omega
        rw [e3] at e2
        refine ⟨by rw [e3, e2, here]; exact ev, by rw [e3, e2, here]; exact R, ?_⟩
        rw [here, show n - (n - 1 - t) = t + 1 by omega]
        exact vb
theorem sm_two (c : Int) (f : Nat → Int) (n : Nat) : sm (fun k => f k * c) n = sm f n * c := by
  rw [sm_eq (g := fun k => c * f k) fun k _ => Int.mul_comm _ _, sm_mul, Int.mul_comm]
/-- A sum of things that are each near. -/
theorem sm_near {f g : Nat → Int} {K : Int} {n : Nat} (h : ∀ k, k < n → Ab (f k - g k) K) : Ab (sm f n - sm g n) (n * K) := by
  have a := sm_ab (f := fun k => f k + -1 * g k) (n := n) (K := K) (fun k hk => by have := h k hk; rw [show f k + -1 * g k = f k - g k by omega]; exact this)
  rw [sm_add, sm_mul] at a
  rw [show sm f n - sm g n = sm f n + -1 * sm g n by omega]
  exact a
theorem sm_tail {f : Nat → Int} {a n : Nat} (h : a ≤ n) (hz : ∀ k, a ≤ k → k < n → f k = 0) : sm f n = sm f a := by
  have := sm_shift f a (n - a)
  rw [sm_zero (fun k hk => hz _ (by omega) (by omega)), show a + (n - a) = n by omega] at this
  omega
theorem sm_head {f : Nat → Int} {a n : Nat} (h : a < n) (hz : ∀ k, k < a → f k = 0) : sm f n = f a + sm (fun t => f (a + 1 + t)) (n - (a + 1)) := by
  have := sm_shift f (a + 1) (n - (a + 1))
  rw [show a + 1 + (n - (a + 1)) = n by omega] at this
  have e : sm f (a + 1) = f a := by show sm f a + f a = f a; rw [sm_zero hz]; omega
  omega
/-- l y is nearly b. -/
theorem fw_near {m L : Nat → Nat → Int} {n i : Nat} {b y : Nat → Int} (H : Heavy m n) (W : Whole m L n) (hi : i < n) (F : ∀ k, k < n → Fw b L y k) : Ab (2 * (sm (fun k => L i k * y k) n - b i * 1099511627776)) 6597069766656 := by
  have n6 := H.n6
  obtain ⟨d1, d2⟩ := (W.rows i hi).1.root
  rw [sm_tail (a := i + 1) (by omega) (fun k h1 _ => by show L i k * y k = 0; rw [W.zero i k (Or.inr (by omega)), Int.zero_mul])]
  show Ab (2 * (sm (fun k => L i k * y k) i + L i i * y i - b i * 1099511627776)) _
  have nr := sm_near (f := fun k => 2 * (qf L y i k * 1099511627776)) (g := fun k => 2 * (L i k * y k)) (K := 1099511627776) (n := i) (fun k hk => by
    have r := (qf_is (W.ub i k) ((F k (by omega)).ub.le (show (281474976710656 : Int) ≤ 576460752303423488 by decide))).2
    show Ab (2 * (qf L y i k * 1099511627776) - 2 * (L i k * y k)) _
    rw [show 2 * (qf L y i k * 1099511627776) - 2 * (L i k * y k) = 2 * (qf L y i k * 1099511627776 - L i k * y k) by omega]
    exact r)
  rw [sm_mul, sm_mul, sm_two] at nr
  have R := (F i hi).R
  have e : rf b L y i i = b i - sm (qf L y i) i := rfl
  rw [e] at R
  rw [Int.mul_comm (L i i)]
  have : (i : Int) * 1099511627776 ≤ 5 * 1099511627776 := Int.mul_le_mul_of_nonneg_right (by omega) (by decide)
  have := nr.lo; have := nr.hi; have := R.lo; have := R.hi
  have e2 : sm (fun k => qf L y i k) i = sm (qf L y i) i := rfl
  rw [e2] at *
  generalize sm (qf L y i) i = Q at *
  generalize sm (fun k => L i k * y k) i = S at *
  generalize y i * L i i = u at *
  constructor <;> omega
/-- l' x is nearly y. -/
theorem bw_near {m L : Nat → Nat → Int} {n i : Nat} {y x : Nat → Int} (H : Heavy m n) (W : Whole m L n) (hi : i < n) (F : ∀ k, k < n → Bw y L x n k) : Ab (2 * (sm (fun k => L k i * x k) n - y i * 1099511627776)) 6597069766656 := by
  have n6 := H.n6
  obtain ⟨d1, d2⟩ := (W.rows i hi).1.root
  rw [sm_head (a := i) hi (fun k hk => by show L k i * x k = 0; rw [W.zero k i (Or.inr hk), Int.zero_mul])]
  have nr := sm_near (f := fun t => 2 * (qb L x i (i + 1 + t) * 1099511627776)) (g := fun t => 2 * (L (i + 1 + t) i * x (i + 1 + t))) (K := 1099511627776) (n := n - (i + 1)) (fun t ht => by
    have r := (qb_is (W.ub (i + 1 + t) i) ((F (i + 1 + t) (by omega)).ub.le (show ((n - (i + 1 + t) : Nat) : Int) * 18014398509481984 ≤ 576460752303423488 by omega))).2
    show Ab (2 * (qb L x i (i + 1 + t) * 1099511627776) - 2 * (L (i + 1 + t) i * x (i + 1 + t))) _
    rw [show 2 * (qb L x i (i + 1 + t) * 1099511627776) - 2 * (L (i + 1 + t) i * x (i + 1 + t)) = 2 * (qb L x i (i + 1 + t) * 1099511627776 - L (i + 1 + t) i * x (i + 1 + t)) by omega]
    exact r)
  rw [sm_mul, sm_mul, sm_two] at nr
  have R := (F i hi).R
  have e : sb y L x i (n - 1 - i) = y i - sm (fun t => qb L x i (i + 1 + t)) (n - 1 - i) := rfl
  rw [e, show n - 1 - i = n - (i + 1) by omega] at R
  rw [Int.mul_comm (L i i)]
  have : ((n - (i + 1) : Nat) : Int) * 1099511627776 ≤ 5 * 1099511627776 := Int.mul_le_mul_of_nonneg_right (by omega) (by decide)
  have := nr.lo; have := nr.hi; have := R.lo; have := R.hi
  generalize sm (fun t => qb L x i (i + 1 + t)) (n - (i + 1)) = Q at *
  generalize sm (fun t => L (i + 1 + t) i * x (i + 1 + t)) (n - (i + 1)) = S at *
  generalize x i * L i i = u at *
  constructor <;> omega
/-- l l' is nearly the matrix. -/
theorem ll_low {m L : Nat → Nat → Int} {n i j : Nat} (H : Heavy m n) (W : Whole m L n) (hi : i < n) (hj : j ≤ i) : Ab (2 * (m i j * 1099511627776 - sm (fun k => L i k * L j k) n)) 15393162788864 := by
  have n6 := H.n6
  have nr := sm_near (f := fun k => 2 * (pr L i j k * 1099511627776)) (g := fun k => 2 * (L i k * L j k)) (K := 1099511627776) (n := n) (fun k hk => by
    have r := (mul_is (W.ub i k) (W.ub j k)).2
    show Ab (2 * (pr L i j k * 1099511627776) - 2 * (L i k * L j k)) _
    rw [show 2 * (pr L i j k * 1099511627776) - 2 * (L i k * L j k) = 2 * (pr L i j k * 1099511627776 - L i k * L j k) by omega]
    exact r)
  rw [sm_mul, sm_mul, sm_two] at nr
  have t : sm (pr L i j) n = sm (pr L i j) (j + 1) := sm_tail (by omega) (fun k h1 _ => by
    show (mulS false (L i k) (L j k)).1 = 0
    rw [W.zero j k (Or.inr (by omega)), mul_zero_is (W.ub i k)])
  have t2 : sm (pr L i j) (j + 1) = m i j - Am m L (j + 1) i j := by unfold Am; omega
  have l := last_near W hi hj
  rw [Am_succ] at t2
  have e2 : sm (fun k => pr L i j k) n = sm (pr L i j) n := rfl
  rw [e2] at nr
  have : (n : Int) * 1099511627776 ≤ 6 * 1099511627776 := Int.mul_le_mul_of_nonneg_right (by omega) (by decide)
  have := nr.lo; have := nr.hi; have := l.lo; have := l.hi
  generalize sm (pr L i j) n = Q at *
  generalize sm (fun k => L i k * L j k) n = S at *
  constructor <;> omega
theorem ll_near {m L : Nat → Nat → Int} {n i j : Nat} (H : Heavy m n) (W : Whole m L n) (hi : i < n) (hj : j < n) : Ab (2 * (m i j * 1099511627776 - sm (fun k => L i k * L j k) n)) 15393162788864 := by
  by_cases c : j ≤ i
  · exact ll_low H W hi c
  · have := ll_low H W hj (show i ≤ j by omega)
    rw [H.sym i j hi hj, sm_eq (g := fun k => L j k * L i k) fun k _ => Int.mul_comm _ _]
    exact this
theorem apply_good {m : Nat → Nat → Int} {n i : Nat} {x : Nat → Int} (H : Heavy m n) (hi : i < n) (hx : ∀ k, k < n → Ab (x k) 108086391056891904) : ∀ {t : Nat}, t ≤ n → ∃ z, sumS false (m i) x t = (z, false) ∧ Ab z (t * 108086391056891905) ∧ Ab (2 * (z * 1099511627776 - sm (fun k => m i k * x k) t)) (t * 1099511627776)
  | 0, _ => ⟨0, rfl, ⟨by omega, by omega⟩, ⟨by show -((0 : Nat) * 1099511627776 : Int) ≤ 2 * (0 * 1099511627776 - 0); omega, by show 2 * (0 * 1099511627776 - 0) ≤ ((0 : Nat) * 1099511627776 : Int); omega⟩⟩
  | t + 1, ht => by
    have n6 := H.n6
    obtain ⟨z, e, b, r⟩ := apply_good H hi hx (t := t) (by omega)
    obtain ⟨p, ep, rp⟩ := mul_big (H.bd i t hi (by omega)) ((hx t (by omega)).le (show (108086391056891904 : Int) ≤ 576460752303423488 by decide))
    have bp : Ab p 108086391056891905 := prod_bd (H.bd i t hi (by omega)) (hx t (by omega)) rp (by decide)
    refine ⟨z + p, ?_, ?_, ?_⟩
    · unfold sumS; rw [e]; dsimp only; rw [ep]; dsimp only
      exact add_near (b.le (show (t : Int) * 108086391056891905 ≤ 648518346341351430 by omega)) bp (by decide) (by decide) (by decide)
    · exact (b.add bp).le (by omega)
    · show Ab (2 * ((z + p) * 1099511627776 - (sm (fun k => m i k * x k) t + m i t * x t))) _
      have := r.lo; have := r.hi; have := rp.lo; have := rp.hi
      generalize sm (fun k => m i k * x k) t = S at *
      generalize m i t * x t = u at *
      constructor <;> omega
/-- What is solved, put in again, is nearly what was asked. -/
theorem solved_near {m L : Nat → Nat → Int} {n i : Nat} {b y x : Nat → Int} (H : Heavy m n) (W : Whole m L n) (hi : i < n) (F : ∀ k, k < n → Fw b L y k) (B : ∀ k, k < n → Bw y L x n k) : ∃ z, sumS false (m i) x n = (z, false) ∧ Ab (z - b i) 16777216 := by
  have n6 := H.n6
  have hx : ∀ k, k < n → Ab (x k) 108086391056891904 := fun k hk => (B k hk).ub.le (by omega)
  obtain ⟨z, e, _, r⟩ := apply_good H hi hx (Nat.le_refl n)
  refine ⟨z, e, ?_⟩
  -- m x, by l l'
  have s1 := sm_near (f := fun j => 2 * (m i j * 1099511627776) * x j) (g := fun j => 2 * sm (fun k => L i k * L j k) n * x j) (K := 15393162788864 * 108086391056891904) (n := n) (fun j hj => by
    have h := (ll_near H W hi hj).mul (hx j hj)
    show Ab (2 * (m i j * 1099511627776) * x j - 2 * sm (fun k => L i k * L j k) n * x j) _
    rw [show 2 * (m i j * 1099511627776) * x j - 2 * sm (fun k => L i k * L j k) n * x j = 2 * (m i j * 1099511627776 - sm (fun k => L i k * L j k) n) * x j by grind]
    exact h)
  -- l (l' x), by l y
  have s2 := sm_near (f := fun k => L i k * (2 * sm (fun j => L j k * x j) n)) (g := fun k => L i k * (2 * (y k * 1099511627776))) (K := 1099511627776 * 6597069766656) (n := n) (fun k hk => by
    have h := (W.ub i k).mul (bw_near H W hk B)
    show Ab (L i k * (2 * sm (fun j => L j k * x j) n) - L i k * (2 * (y k * 1099511627776))) _
    rw [show L i k * (2 * sm (fun j => L j k * x j) n) - L i k * (2 * (y k * 1099511627776)) = L i k * (2 * (sm (fun j => L j k * x j) n - y k * 1099511627776)) by grind]
    exact h)
  have e1 : sm (fun j => 2 * (m i j * 1099511627776) * x j) n = 2199023255552 * sm (fun j => m i j * x j) n := by
    rw [← sm_mul]; exact sm_eq fun j _ => by grind
  have e2 : sm (fun j => 2 * sm (fun k => L i k * L j k) n * x j) n = sm (fun k => L i k * (2 * sm (fun j => L j k * x j) n)) n := by
    have a : sm (fun j => 2 * sm (fun k => L i k * L j k) n * x j) n = sm (fun j => sm (fun k => 2 * (L i k * (L j k * x j))) n) n := sm_eq fun j _ => by
      rw [show 2 * sm (fun k => L i k * L j k) n * x j = (2 * x j) * sm (fun k => L i k * L j k) n by grind, ← sm_mul]
      exact sm_eq fun k _ => by grind
    rw [a, sm_swap]
    refine sm_eq fun k _ => ?_
    rw [show L i k * (2 * sm (fun j => L j k * x j) n) = (2 * L i k) * sm (fun j => L j k * x j) n by grind, ← sm_mul]
    exact sm_eq fun j _ => by grind
  have e3 : sm (fun k => L i k * (2 * (y k * 1099511627776))) n = 2199023255552 * sm (fun k => L i k * y k) n := by
    rw [← sm_mul]; exact sm_eq fun k _ => by grind
  rw [e1, e2] at s1
  rw [e3] at s2
  have s3 := fw_near H W hi F
  have c1 : (n : Int) * (15393162788864 * 108086391056891904) ≤ 6 * (15393162788864 * 108086391056891904) := Int.mul_le_mul_of_nonneg_right (by omega) (by decide)
  have c2 : (n : Int) * (1099511627776 * 6597069766656) ≤ 6 * (1099511627776 * 6597069766656) := Int.mul_le_mul_of_nonneg_right (by omega) (by decide)
  have c3 : (n : Int) * 1099511627776 ≤ 6 * 1099511627776 := Int.mul_le_mul_of_nonneg_right (by omega) (by decide)
  have := s1.lo; have := s1.hi; have := s2.lo; have := s2.hi; have := s3.lo; have := s3.hi; have := r.lo; have := r.hi
  generalize sm (fun k => L i k * (2 * sm (fun j => L j k * x j) n)) n = T at *
  generalize sm (fun k => L i k * y k) n = S at *
  generalize sm (fun j => m i j * x j) n = M at *
  constructor <;> omega
end Go.Proofs.Ytcnbcdnjogopdaa
