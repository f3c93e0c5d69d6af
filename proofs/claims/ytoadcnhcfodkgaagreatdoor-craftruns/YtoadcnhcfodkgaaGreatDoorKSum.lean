/-
  Sums, and matrices that are heavy on the diagonal: what a pivot takes away leaves them so, for the seat YtoadcnhcfodkgaaGreatDoor. No Go text in sight.
-/
import Derived.Test.YtoadcnhcfodkgaaGreatDoorQNear
namespace Go.Proofs.YtoadcnhcfodkgaaGreatDoor
open Go.RowKit

/-- p is x y, rounded. -/
abbrev MulR (p x y : Int) : Prop := Ab (2 * (p * 1099511627776 - x * y)) 1099511627776
/-- u is a / d, rounded. -/
abbrev DivR (u a d : Int) : Prop := Ab (2 * (u * d - a * 1099511627776)) d
/-- d is the root of P, from below. -/
structure SqrtR (d P : Int) : Prop where
  n0 : 0 ≤ d
  lo : d * d ≤ P * 1099511627776
  hi : P * 1099511627776 < (d + 1) * (d + 1)

/-- How long a pivot's root is. -/
theorem pivot_bd {d P : Int} (h : SqrtR d P) (h1 : 1073741000 ≤ P) (h2 : P ≤ 1099511627776) : 34359000000 ≤ d ∧ d ≤ 1099511627776 := by
  constructor
  · apply Classical.byContradiction
    intro c
    have c' : d + 1 ≤ 34359000000 := by omega
    have := Int.mul_le_mul c' c' (by have := h.n0; omega) (by decide)
    have := h.hi
    omega
  · apply Classical.byContradiction
    intro c
    have c' : 1099511627777 ≤ d := by omega
    have := Int.mul_le_mul c' c' (by decide) (by omega)
    have := h.lo
    omega
/-- A number left of the diagonal. -/
theorem left_bd {u a d P : Int} (h : SqrtR d P) (h1 : 1073741000 ≤ P) (h2 : P ≤ 1099511627776) (ha : Ab a P) (hu : DivR u a d) : Ab u (d + 3) := by
  obtain ⟨d1, d2⟩ := pivot_bd h h1 h2
  have up := hu.hi; have lo := hu.lo; have := ha.lo; have := ha.hi; have := h.hi
  constructor
  · apply Classical.byContradiction
    intro c
    have c' : u ≤ -(d + 4) := by omega
    have m := Int.mul_le_mul_of_nonneg_right c' (show 0 ≤ d by omega)
    grind
  · apply Classical.byContradiction
    intro c
    have c' : d + 4 ≤ u := by omega
    have m := Int.mul_le_mul_of_nonneg_right c' (show 0 ≤ d by omega)
    grind
/-- What a pivot takes away: nearly a b / P. -/
theorem step_near {d P a b x y p : Int} (h : SqrtR d P) (h1 : 1073741000 ≤ P) (h2 : P ≤ 1099511627776) (ha : Ab a P) (hb : Ab b P) (hx : DivR x a d) (hy : DivR y b d) (hp : MulR p x y) : Ab (p * P - a * b) (4 * P) := by
  obtain ⟨d1, d2⟩ := pivot_bd h h1 h2
  have xb := left_bd h h1 h2 ha hx
  have yb := left_bd h h1 h2 hb hy
  have idn : 4 * (1208925819614629174706176 * (p * P - a * b)) = 2199023255552 * (a * (2 * (y * d - b * 1099511627776))) + 2199023255552 * (b * (2 * (x * d - a * 1099511627776))) + (2 * (x * d - a * 1099511627776)) * (2 * (y * d - b * 1099511627776)) + 2 * ((2 * (p * 1099511627776 - x * y)) * (d * d)) + 4 * ((p * 1099511627776) * (P * 1099511627776 - d * d)) := by grind
  have dd : 0 ≤ d * d := Int.mul_nonneg h.n0 h.n0
  have t1 := ha.mul hy
  have t2 := hb.mul hx
  have t3 := hx.mul hy
  have t4 := hp.mul (show Ab (d * d) (d * d) from ⟨by omega, by omega⟩)
  have q1 := (xb.mul yb)
  have hpU : Ab (p * 1099511627776) ((d + 3) * (d + 3) + 1099511627776) := by
    have := hp.lo; have := hp.hi; have := q1.lo; have := q1.hi
    constructor <;> omega
  have eta : Ab (P * 1099511627776 - d * d) (2 * d) := by
    have := h.lo; have := h.hi
    have e : (d + 1) * (d + 1) = d * d + 2 * d + 1 := by grind
    constructor <;> omega
  have t5 := hpU.mul eta
  have e5 : ((d + 3) * (d + 3) + 1099511627776) * (2 * d) = 2 * (d * (d * d)) + 12 * (d * d) + 18 * d + 2199023255552 * d := by grind
  have c1 : P * d ≤ P * 1099511627776 := Int.mul_le_mul_of_nonneg_left d2 (by omega)
  have c2 : d * (d * d) ≤ 1099511627776 * (P * 1099511627776) := by
    have := Int.mul_le_mul d2 h.lo dd (by decide)
    exact this
  rw [e5] at t5
  have := h.lo
  generalize a * (2 * (y * d - b * 1099511627776)) = A1 at *
  generalize b * (2 * (x * d - a * 1099511627776)) = A2 at *
  generalize (2 * (x * d - a * 1099511627776)) * (2 * (y * d - b * 1099511627776)) = A3 at *
  generalize (2 * (p * 1099511627776 - x * y)) * (d * d) = A4 at *
  generalize (p * 1099511627776) * (P * 1099511627776 - d * d) = A5 at *
  have := t1.lo; have := t1.hi; have := t2.lo; have := t2.hi; have := t3.lo; have := t3.hi; have := t4.lo; have := t4.hi; have := t5.lo; have := t5.hi
  generalize d * (d * d) = ddd at *
  generalize d * d = dd2 at *
  generalize p * P - a * b = r at *
  generalize P * d = Pd at *
  constructor <;> omega
/-- What a pivot takes away from the diagonal isn't below 0. -/
theorem sq_pos {p x : Int} (hp : MulR p x x) : 0 ≤ p := by
  have : 0 ≤ x * x := by
    rcases Int.le_total 0 x with h | h
    · exact Int.mul_nonneg h h
    · have := Int.mul_nonneg (show 0 ≤ -x by omega) (show 0 ≤ -x by omega); grind
  have := hp.lo
  omega
/-- The size. -/
def az (x : Int) : Int := if x < 0 then -x else x
theorem az_n (x : Int) : 0 ≤ az x := by unfold az; split <;> omega
theorem az_hi (x : Int) : x ≤ az x := by unfold az; split <;> omega
theorem az_lo (x : Int) : -az x ≤ x := by unfold az; split <;> omega
theorem az_le {x K : Int} (h1 : -K ≤ x) (h2 : x ≤ K) : az x ≤ K := by unfold az; split <;> omega
theorem az_sub (x y : Int) : az (x - y) ≤ az x + az y := by unfold az; split <;> split <;> split <;> omega
theorem az_ab {x K : Int} (h : az x ≤ K) : Ab x K := ⟨by have := az_lo x; omega, by have := az_hi x; omega⟩
theorem az_mul (x y : Int) : Ab (x * y) (az x * az y) := (az_ab (Int.le_refl (az x))).mul (az_ab (Int.le_refl (az y)))
/-- A sum. -/
def sm (f : Nat → Int) : Nat → Int
  | 0 => 0
  | n + 1 => sm f n + f n
theorem sm_le {f g : Nat → Int} : ∀ {n : Nat}, (∀ k, k < n → f k ≤ g k) → sm f n ≤ sm g n
  | 0, _ => Int.le_refl _
  | n + 1, h => Int.add_le_add (sm_le fun k hk => h k (Nat.lt_succ_of_lt hk)) (h n (Nat.lt_succ_self n))
theorem sm_eq {f g : Nat → Int} {n : Nat} (h : ∀ k, k < n → f k = g k) : sm f n = sm g n := Int.le_antisymm (sm_le fun k hk => Int.le_of_eq (h k hk)) (sm_le fun k hk => Int.le_of_eq (h k hk).symm)
theorem sm_add (f g : Nat → Int) : ∀ n, sm (fun k => f k + g k) n = sm f n + sm g n
  | 0 => rfl
  | n + 1 => by show sm (fun k => f k + g k) n + (f n + g n) = sm f n + f n + (sm g n + g n); rw [sm_add f g n]; omega
theorem sm_mul (c : Int) (f : Nat → Int) : ∀ n, sm (fun k => c * f k) n = c * sm f n
  | 0 => by simp [sm]
  | n + 1 => by show sm (fun k => c * f k) n + c * f n = c * (sm f n + f n); rw [sm_mul c f n, Int.mul_add]
theorem sm_const (c : Int) : ∀ n : Nat, sm (fun _ => c) n = n * c
  | 0 => by simp [sm]
  | n + 1 => by show sm (fun _ => c) n + c = _; rw [sm_const c n]; grind
theorem sm_zero {f : Nat → Int} {n : Nat} (h : ∀ k, k < n → f k = 0) : sm f n = 0 := by
  rw [sm_eq h, sm_const]; simp
theorem sm_one (j : Nat) (c : Int) : ∀ {n : Nat}, j < n → sm (fun k => if k = j then c else 0) n = c
  | n + 1, h => by
    show sm (fun k => if k = j then c else 0) n + (if n = j then c else 0) = c
    by_cases e : n = j
    · rw [if_pos e, sm_zero (fun k hk => if_neg (by omega))]; omega
    · rw [if_neg e, sm_one j c (by omega)]; omega
theorem sm_pos {f : Nat → Int} {n : Nat} (h : ∀ k, k < n → 0 ≤ f k) : 0 ≤ sm f n := by
  have := sm_le h
  rw [sm_const] at this
  simpa using this
theorem sm_term {f : Nat → Int} {n j : Nat} (h : ∀ k, k < n → 0 ≤ f k) (hj : j < n) : f j ≤ sm f n := by
  have := sm_le (f := fun k => if k = j then f j else 0) (g := f) (n := n) (fun k hk => by
    show (if k = j then f j else 0) ≤ f k
    split
    · rename_i e; rw [e]; exact Int.le_refl _
    · exact h k hk)
  rwa [sm_one j _ hj] at this
/-- What stands in a row from column j on, but for the diagonal. -/
def off (A : Nat → Nat → Int) (j a : Nat) : Nat → Int := fun b => if j ≤ b ∧ b ≠ a then az (A a b) else 0
theorem off_n (A : Nat → Nat → Int) (j a b : Nat) : 0 ≤ off A j a b := by unfold off; split; exact az_n _; exact Int.le_refl _
/-- Heavy on the diagonal, by G. -/
def Dom (A : Nat → Nat → Int) (j N : Nat) (G : Int) : Prop := ∀ a, j ≤ a → a < N → sm (off A j a) N + G ≤ A a a
theorem Dom.term {A : Nat → Nat → Int} {j N a b : Nat} {G : Int} (D : Dom A j N G) (ha : j ≤ a) (ha' : a < N) (hb : j ≤ b) (hb' : b < N) (hab : b ≠ a) : az (A a b) + G ≤ A a a := by
  have t := sm_term (f := off A j a) (fun k _ => off_n A j a k) hb'
  have d := D a ha ha'
  have e : off A j a b = az (A a b) := if_pos ⟨hb, hab⟩
  omega
theorem Dom.diag {A : Nat → Nat → Int} {j N a : Nat} {G : Int} (D : Dom A j N G) (ha : j ≤ a) (ha' : a < N) : G ≤ A a a := by
  have t := sm_pos (f := off A j a) (n := N) (fun k _ => off_n A j a k)
  have d := D a ha ha'
  omega
/-- A pivot's step leaves what is behind it heavy on the diagonal. -/
theorem Dom.step {A p : Nat → Nat → Int} {j N : Nat} {G : Int} (D : Dom A j N G) (hG : 1 ≤ G) (hN : N ≤ 6) (hj : j < N) (sym : ∀ a, j < a → a < N → A a j = A j a)
    (hp : ∀ a b, j < a → a < N → j < b → b < N → Ab (p a b * A j j - A a j * A b j) (4 * A j j)) : Dom (fun a b => A a b - p a b) (j + 1) N (G - 24) := by
  intro a ha ha'
  have P0 : 1 ≤ A j j := Int.le_trans hG (D.diag (Nat.le_refl _) hj)
  -- the pivot's column
  have col : sm (fun b => if j + 1 ≤ b then az (A b j) else 0) N ≤ A j j := by
    have e : sm (fun b => if j + 1 ≤ b then az (A b j) else 0) N = sm (off A j j) N := sm_eq fun b hb => by
      unfold off
      by_cases c : j + 1 ≤ b
      · rw [if_pos c, if_pos ⟨by omega, by omega⟩, sym b c hb]
      · rw [if_neg c, if_neg (by omega)]
    have := D j (Nat.le_refl _) hj
    omega
  -- what is taken away from the row
  have row : sm (fun b => if j + 1 ≤ b then az (p a b) else 0) N ≤ az (A a j) + 24 := by
    have m : sm (fun b => A j j * (if j + 1 ≤ b then az (p a b) else 0)) N ≤ sm (fun b => az (A a j) * (if j + 1 ≤ b then az (A b j) else 0) + 4 * A j j) N := sm_le fun b hb => by
      show A j j * (if j + 1 ≤ b then az (p a b) else 0) ≤ az (A a j) * (if j + 1 ≤ b then az (A b j) else 0) + 4 * A j j
      by_cases c : j + 1 ≤ b
      · rw [if_pos c, if_pos c]
        have h := hp a b ha ha' c hb
        have k := az_mul (A a j) (A b j)
        have := h.lo; have := h.hi; have := k.lo; have := k.hi
        have q : A j j * az (p a b) = az (p a b * A j j) := by
          unfold az
          by_cases z : p a b < 0
          · rw [if_pos z, if_pos (by have := Int.mul_le_mul_of_nonneg_right (show p a b ≤ -1 by omega) (show 0 ≤ A j j by omega); omega)]; grind
          · rw [if_neg z, if_neg (by have := Int.mul_nonneg (show 0 ≤ p a b by omega) (show 0 ≤ A j j by omega); omega)]; grind
        rw [q]
        exact az_le (by omega) (by omega)
      · rw [if_neg c, if_neg c]; omega
    rw [sm_mul, sm_add, sm_mul, sm_const] at m
    have m2 : az (A a j) * sm (fun b => if j + 1 ≤ b then az (A b j) else 0) N ≤ az (A a j) * A j j := Int.mul_le_mul_of_nonneg_left col (az_n _)
    have m3 : (N : Int) * (4 * A j j) ≤ 6 * (4 * A j j) := Int.mul_le_mul_of_nonneg_right (by omega) (by omega)
    apply Classical.byContradiction
    intro c
    have m4 : A j j * (az (A a j) + 25) ≤ A j j * sm (fun b => if j + 1 ≤ b then az (p a b) else 0) N := Int.mul_le_mul_of_nonneg_left (by omega) (by omega)
    have e4 : A j j * (az (A a j) + 25) = az (A a j) * A j j + 25 * A j j := by grind
    omega
  -- the row, with its pivot's place
  have e1 : sm (off A j a) N = sm (off A (j + 1) a) N + az (A a j) := by
    rw [← sm_one (n := N) j (az (A a j)) hj, ← sm_add]
    refine sm_eq fun b hb => ?_
    unfold off
    by_cases c : b = j
    · subst c; rw [if_pos ⟨Nat.le_refl _, by omega⟩, if_neg (by omega), if_pos rfl]; omega
    · rw [if_neg c]
      by_cases c2 : j ≤ b ∧ b ≠ a
      · rw [if_pos c2, if_pos ⟨by omega, c2.2⟩]; omega
      · rw [if_neg c2, if_neg (by omega)]; omega
  have e2 : sm (fun b => if j + 1 ≤ b then az (p a b) else 0) N = sm (fun b => if j + 1 ≤ b ∧ b ≠ a then az (p a b) else 0) N + az (p a a) := by
    rw [← sm_one (n := N) a (az (p a a)) ha', ← sm_add]
    refine sm_eq fun b hb => ?_
    show (if j + 1 ≤ b then az (p a b) else 0) = (if j + 1 ≤ b ∧ b ≠ a then az (p a b) else 0) + (if b = a then az (p a a) else 0)
    by_cases c : b = a
    · subst c; rw [if_pos ha, if_neg (by omega), if_pos rfl]; omega
    · rw [if_neg c]
      by_cases c2 : j + 1 ≤ b
      · rw [if_pos c2, if_pos ⟨c2, c⟩]; omega
      · rw [if_neg c2, if_neg (by omega)]; omega
  have e3 : sm (off (fun a b => A a b - p a b) (j + 1) a) N ≤ sm (off A (j + 1) a) N + sm (fun b => if j + 1 ≤ b ∧ b ≠ a then az (p a b) else 0) N := by
    rw [← sm_add]
    refine sm_le fun b hb => ?_
    unfold off
    by_cases c : j + 1 ≤ b ∧ b ≠ a
    · rw [if_pos c, if_pos c, if_pos c]; exact az_sub _ _
    · rw [if_neg c, if_neg c, if_neg c]; omega
  have d := D a (by omega) ha'
  have := az_hi (p a a)
  show sm (off (fun a b => A a b - p a b) (j + 1) a) N + (G - 24) ≤ A a a - p a a
  omega
end Go.Proofs.YtoadcnhcfodkgaaGreatDoor
