/-
  What is solved with a root, and put in again, for the seat Ytcnbcdnjogopdaa. No Go text in sight.
-/
import Derived.Test.YtcnbcdnjogopdaaKBack
namespace Go.Proofs.Ytcnbcdnjogopdaa
open Go.RowKit

def setF (f : Nat → Int) (j : Nat) (v : Int) : Nat → Int := fun k => if k = j then v else f k
abbrev RB := (Nat → Int) × Bool
/-- From the first row on. -/
def fwdS (l : Nat → Nat → Int) (b : Nat → Int) (bad : Bool) : Nat → RB
  | 0 => (fun _ => 0, bad)
  | i + 1 => let y := fwdS l b bad i; let s := subsS y.2 (b i) (l i) y.1 i; let d := divS s.2 s.1 (l i i); (setF y.1 i d.1, d.2)
/-- From the last row back: t rows of n. -/
def bwdS (l : Nat → Nat → Int) (y : Nat → Int) (n : Nat) (bad : Bool) : Nat → RB
  | 0 => (fun _ => 0, bad)
  | t + 1 => let x := bwdS l y n bad t; let s := subsS x.2 (y (n - 1 - t)) (fun c => l (n - 1 - t + 1 + c) (n - 1 - t)) (fun c => x.1 (n - 1 - t + 1 + c)) t; let d := divS s.2 s.1 (l (n - 1 - t) (n - 1 - t)); (setF x.1 (n - 1 - t) d.1, d.2)

theorem mul_big {a b : Int} (ha : Ab a 1099511627776) (hb : Ab b 576460752303423488) : ∃ m, mulS false a b = (m, false) ∧ MulR m a b := by
  obtain ⟨m, e, h1, h2, _⟩ := mulS_near a b (ha.numB (by decide)) (hb.numB (by decide)) (by
    have h1 := sz_le ⟨ha.lo, ha.hi⟩
    have h2 := sz_le ⟨hb.lo, hb.hi⟩
    have := Int.mul_le_mul h1 h2 (le_sz b).2.2 (by decide)
    omega)
  exact ⟨m, e, by omega, by omega⟩
theorem div_big {a d : Int} (ha : Ab a 1152921504606846976) (hd : 34359000000 ≤ d) (hd' : d ≤ 1099511627776) (hq : Ab (a * 1099511627776) (d * 2305843009213693952)) : ∃ u, divS false a d = (u, false) ∧ DivR u a d := by
  obtain ⟨m, e, h1, h2, _⟩ := partS_near a 1099511627776 d (ha.numB (by decide)) (by rfl) (numB_of ⟨by omega, by omega⟩) (by omega) (by
    rw [show sz 1099511627776 = 1099511627776 by rfl]
    have : sz a * 1099511627776 ≤ d * 2305843009213693952 := by
      have := hq.lo; have := hq.hi
      unfold sz; split <;> omega
    omega)
  exact ⟨m, e, by omega, by omega⟩
theorem sm_shift (f : Nat → Int) (a : Nat) : ∀ c, sm (fun t => f (a + t)) c = sm f (a + c) - sm f a
  | 0 => by show (0 : Int) = sm f a - sm f a; omega
  | c + 1 => by show sm (fun t => f (a + t)) c + f (a + c) = sm f (a + c) + f (a + c) - sm f a; rw [sm_shift f a c]; omega
theorem sm_swap (f : Nat → Nat → Int) (n : Nat) : ∀ m, sm (fun j => sm (fun k => f j k) n) m = sm (fun k => sm (fun j => f j k) m) n
  | 0 => by show (0 : Int) = sm (fun _ => 0) n; rw [sm_const]; simp
  | m + 1 => by show sm (fun j => sm (fun k => f j k) n) m + sm (fun k => f m k) n = sm (fun k => sm (fun j => f j k) m + f m k) n; rw [sm_swap f n m, sm_add]
theorem sm_ab {f : Nat → Int} {K : Int} {n : Nat} (h : ∀ k, k < n → Ab (f k) K) : Ab (sm f n) (n * K) := by
  have a := sm_le (f := fun _ => -K) (g := f) (n := n) (fun k hk => (h k hk).lo)
  have b := sm_le (f := f) (g := fun _ => K) (n := n) (fun k hk => (h k hk).hi)
  rw [sm_const] at a b
  exact ⟨by rw [Int.mul_neg] at a; omega, b⟩
theorem sm_az (f : Nat → Int) : ∀ n, az (sm f n) ≤ sm (fun k => az (f k)) n
  | 0 => by show az 0 ≤ 0; decide
  | n + 1 => by
    show az (sm f n + f n) ≤ sm (fun k => az (f k)) n + az (f n)
    have := sm_az f n
    have h : az (sm f n + f n) ≤ az (sm f n) + az (f n) := by unfold az; split <;> split <;> split <;> omega
    omega
/-- A column of the root, below the diagonal, isn't more than the diagonal. -/
theorem col_sum {m L : Nat → Nat → Int} {n t : Nat} (H : Heavy m n) (W : Whole m L n) (ht : t < n) : sm (fun i => if t < i then az (L i t) else 0) n ≤ L t t := by
  have n6 := H.n6
  have P := (W.rows t ht).1
  obtain ⟨d1, d2⟩ := P.root
  have R : Rows6 m L (n - 1) := fun a ha => W.rows a (by omega)
  have T : RowTo m L (n - 1) t := fun k hk => (W.rows (n - 1) (by omega)).2 k (by omega)
  have D := (dom_to H (by omega) R T (by omega)).1 t (Nat.le_refl _) (by omega)
  rw [show n - 1 + 1 = n by omega] at D
  have e : sm (off (Am m L t) t t) n = sm (fun i => if t < i then az (Am m L t i t) else 0) n := sm_eq fun b hb => by
    unfold off
    by_cases c : t < b
    · rw [if_pos ⟨by omega, by omega⟩, if_pos c, Am_comm (H.sym t b ht hb)]
    · rw [if_neg c, if_neg (by omega)]
  rw [e] at D
  have m1 : sm (fun i => 2 * L t t * (if t < i then az (L i t) else 0)) n ≤ sm (fun i => 2199023255552 * (if t < i then az (Am m L t i t) else 0) + L t t) n := sm_le fun i hi => by
    show 2 * L t t * (if t < i then az (L i t) else 0) ≤ 2199023255552 * (if t < i then az (Am m L t i t) else 0) + L t t
    by_cases c : t < i
    · rw [if_pos c, if_pos c]
      have r := ((W.rows i hi).2 t c).R
      have q : L t t * az (L i t) = az (L i t * L t t) := by
        unfold az
        by_cases z : L i t < 0
        · rw [if_pos z, if_pos (by have := Int.mul_le_mul_of_nonneg_right (show L i t ≤ -1 by omega) (show 0 ≤ L t t by omega); omega)]; grind
        · rw [if_neg z, if_neg (by have := Int.mul_nonneg (show 0 ≤ L i t by omega) (show 0 ≤ L t t by omega); omega)]; grind
      have := r.lo; have := r.hi
      have := az_lo (Am m L t i t); have := az_hi (Am m L t i t)
      rw [Int.mul_assoc, q]
      have := az_le (x := L i t * L t t) (K := (2199023255552 * az (Am m L t i t) + L t t) / 2) (by omega) (by omega)
      omega
    · rw [if_neg c, if_neg c]; omega
  rw [sm_mul, sm_add, sm_mul, sm_const] at m1
  have m3 : (n : Int) * L t t ≤ 6 * L t t := Int.mul_le_mul_of_nonneg_right (by omega) (by omega)
  have sq := P.R.hi
  have e2 : (L t t + 1) * (L t t + 1) = L t t * L t t + 2 * L t t + 1 := by grind
  apply Classical.byContradiction
  intro c
  have m4 : 2 * L t t * (L t t + 1) ≤ 2 * L t t * sm (fun i => if t < i then az (L i t) else 0) n := Int.mul_le_mul_of_nonneg_left (by omega) (by omega)
  have e4 : 2 * L t t * (L t t + 1) = 2 * (L t t * L t t) + 2 * L t t := by grind
  generalize L t t * L t t = dd at *
  generalize sm (fun i => if t < i then az (Am m L t i t) else 0) n = S1 at *
  omega
end Go.Proofs.Ytcnbcdnjogopdaa
