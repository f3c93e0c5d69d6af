/-
  Intervals of integers, and what rounded steps make of numbers that lie in them, for the seat YtoadcnhcfodkgaaGreatDoor. No Go text in sight.
-/
import Derived.Test.YtoadcnhcfodkgaaGreatDoorKSum
import Derived.Test.YtoadcnhcfodkgaaGreatDoorOrbC
namespace Go.Proofs.YtoadcnhcfodkgaaGreatDoor

/-- From the first to the second. -/
abbrev Iv := Int × Int
/-- x lies in X, of which one is k long. -/
structure InK (k : Int) (X : Iv) (x : Int) : Prop where
  lo : X.1 * k ≤ x
  hi : x ≤ X.2 * k
abbrev In (X : Iv) (x : Int) : Prop := InK 1 X x
theorem in_mk {X : Iv} {x : Int} (h1 : X.1 ≤ x) (h2 : x ≤ X.2) : In X x := ⟨by omega, by omega⟩
def fl (a : Int) : Int := a / 1099511627776
def ce (a : Int) : Int := -((-a) / 1099511627776)
theorem fl_le (a : Int) : fl a * 1099511627776 ≤ a := by unfold fl; omega
theorem le_ce (a : Int) : a ≤ ce a * 1099511627776 := by unfold ce; omega
def min4 (a b c d : Int) : Int := min (min a b) (min c d)
def max4 (a b c d : Int) : Int := max (max a b) (max c d)
def imul (X Y : Iv) : Iv := (fl (min4 (X.1 * Y.1) (X.1 * Y.2) (X.2 * Y.1) (X.2 * Y.2)), ce (max4 (X.1 * Y.1) (X.1 * Y.2) (X.2 * Y.1) (X.2 * Y.2)))
def iadd (X Y : Iv) : Iv := (X.1 + Y.1, X.2 + Y.2)
def isub (X Y : Iv) : Iv := (X.1 - Y.2, X.2 - Y.1)
def pt (a : Int) : Iv := (a, a)
/-- Times an integer. -/
def ims (c : Int) (X : Iv) : Iv := if 0 ≤ c then (c * X.1, c * X.2) else (c * X.2, c * X.1)
def mag (X : Iv) : Int := max (-X.1) X.2
theorem mag_ab {X : Iv} {x : Int} (h : In X x) {K : Int} (hK : mag X ≤ K) : Ab x K := by
  unfold mag at hK
  have := h.lo; have := h.hi
  exact ⟨by omega, by omega⟩
theorem mag_k {k : Int} (k0 : 0 ≤ k) {X : Iv} {x : Int} (h : InK k X x) : Ab x (mag X * k) := by
  have a := Int.mul_le_mul_of_nonneg_right (show X.2 ≤ mag X by unfold mag; omega) k0
  have b := Int.mul_le_mul_of_nonneg_right (show -X.1 ≤ mag X by unfold mag; omega) k0
  rw [Int.neg_mul] at b
  have := h.lo; have := h.hi
  exact ⟨by omega, by omega⟩
theorem pt_in (a : Int) : In (pt a) a := ⟨by show a * 1 ≤ a; omega, by show a ≤ a * 1; omega⟩
theorem InK.add {k : Int} {X Y : Iv} {x y : Int} (h : InK k X x) (g : InK k Y y) : InK k (iadd X Y) (x + y) := by
  have := h.lo; have := h.hi; have := g.lo; have := g.hi
  constructor
  · show (X.1 + Y.1) * k ≤ x + y; rw [Int.add_mul]; omega
  · show x + y ≤ (X.2 + Y.2) * k; rw [Int.add_mul]; omega
theorem InK.sub {k : Int} {X Y : Iv} {x y : Int} (h : InK k X x) (g : InK k Y y) : InK k (isub X Y) (x - y) := by
  have := h.lo; have := h.hi; have := g.lo; have := g.hi
  constructor
  · show (X.1 - Y.2) * k ≤ x - y; rw [Int.sub_mul]; omega
  · show x - y ≤ (X.2 - Y.1) * k; rw [Int.sub_mul]; omega
theorem InK.zero (k : Int) : InK k (pt 0) 0 := ⟨by show 0 * k ≤ 0; omega, by show 0 ≤ 0 * k; omega⟩
theorem InK.ims {k : Int} {X : Iv} {x : Int} (h : InK k X x) (c : Int) : InK k (ims c X) (c * x) := by
  have l := h.lo; have u := h.hi
  unfold Go.Proofs.YtoadcnhcfodkgaaGreatDoor.ims
  by_cases c0 : 0 ≤ c
  · rw [if_pos c0]
    have a := Int.mul_le_mul_of_nonneg_left l c0
    have b := Int.mul_le_mul_of_nonneg_left u c0
    exact ⟨by show c * X.1 * k ≤ c * x; rw [Int.mul_assoc]; exact a, by show c * x ≤ c * X.2 * k; rw [Int.mul_assoc]; exact b⟩
  · rw [if_neg c0]
    have a := Int.mul_le_mul_of_nonpos_left (show c ≤ 0 by omega) l
    have b := Int.mul_le_mul_of_nonpos_left (show c ≤ 0 by omega) u
    exact ⟨by show c * X.2 * k ≤ c * x; rw [Int.mul_assoc]; exact b, by show c * x ≤ c * X.1 * k; rw [Int.mul_assoc]; exact a⟩
/-- A product lies between the least and the greatest of the corners' products. -/
theorem lin_le {a b x y : Int} (h1 : a ≤ x) (h2 : x ≤ b) : x * y ≤ max (a * y) (b * y) ∧ min (a * y) (b * y) ≤ x * y := by
  by_cases h : 0 ≤ y
  · have p := Int.mul_le_mul_of_nonneg_right h1 h
    have q := Int.mul_le_mul_of_nonneg_right h2 h
    exact ⟨by omega, by omega⟩
  · have p := Int.mul_le_mul_of_nonpos_right h1 (show y ≤ 0 by omega)
    have q := Int.mul_le_mul_of_nonpos_right h2 (show y ≤ 0 by omega)
    exact ⟨by omega, by omega⟩
theorem box_mul {a b c d x y : Int} (h1 : a ≤ x) (h2 : x ≤ b) (h3 : c ≤ y) (h4 : y ≤ d) : min4 (a * c) (a * d) (b * c) (b * d) ≤ x * y ∧ x * y ≤ max4 (a * c) (a * d) (b * c) (b * d) := by
  have p := lin_le (y := y) h1 h2
  have q := lin_le (y := a) h3 h4
  have r := lin_le (y := b) h3 h4
  rw [Int.mul_comm y a, Int.mul_comm c a, Int.mul_comm d a] at q
  rw [Int.mul_comm y b, Int.mul_comm c b, Int.mul_comm d b] at r
  unfold min4 max4
  exact ⟨by omega, by omega⟩
theorem min4_mul {k : Int} (k0 : 0 ≤ k) (a b c d : Int) : min4 a b c d * k ≤ min4 (a * k) (b * k) (c * k) (d * k) := by
  have h (x : Int) (hx : min4 a b c d ≤ x) := Int.mul_le_mul_of_nonneg_right hx k0
  have h1 := h a (by unfold min4; omega); have h2 := h b (by unfold min4; omega); have h3 := h c (by unfold min4; omega); have h4 := h d (by unfold min4; omega)
  generalize min4 a b c d * k = m at *
  unfold min4
  omega
theorem max4_mul {k : Int} (k0 : 0 ≤ k) (a b c d : Int) : max4 (a * k) (b * k) (c * k) (d * k) ≤ max4 a b c d * k := by
  have h (x : Int) (hx : x ≤ max4 a b c d) := Int.mul_le_mul_of_nonneg_right hx k0
  have h1 := h a (by unfold max4; omega); have h2 := h b (by unfold max4; omega); have h3 := h c (by unfold max4; omega); have h4 := h d (by unfold max4; omega)
  generalize max4 a b c d * k = m at *
  unfold max4
  omega
theorem InK.mul {k l : Int} (k0 : 0 ≤ k) (l0 : 0 ≤ l) {X Y : Iv} {x y : Int} (h : InK k X x) (g : InK l Y y) : InK (k * l * 1099511627776) (imul X Y) (x * y) := by
  have b := box_mul h.lo h.hi g.lo g.hi
  have e (a c : Int) : a * k * (c * l) = a * c * (k * l) := by grind
  rw [e, e, e, e] at b
  have kl := Int.mul_nonneg k0 l0
  have p := min4_mul kl (X.1 * Y.1) (X.1 * Y.2) (X.2 * Y.1) (X.2 * Y.2)
  have q := max4_mul kl (X.1 * Y.1) (X.1 * Y.2) (X.2 * Y.1) (X.2 * Y.2)
  have f := Int.mul_le_mul_of_nonneg_right (fl_le (min4 (X.1 * Y.1) (X.1 * Y.2) (X.2 * Y.1) (X.2 * Y.2))) kl
  have c := Int.mul_le_mul_of_nonneg_right (le_ce (max4 (X.1 * Y.1) (X.1 * Y.2) (X.2 * Y.1) (X.2 * Y.2))) kl
  constructor
  · show fl _ * (k * l * 1099511627776) ≤ x * y
    rw [show fl (min4 (X.1 * Y.1) (X.1 * Y.2) (X.2 * Y.1) (X.2 * Y.2)) * (k * l * 1099511627776) = fl (min4 (X.1 * Y.1) (X.1 * Y.2) (X.2 * Y.1) (X.2 * Y.2)) * 1099511627776 * (k * l) by grind]
    omega
  · show x * y ≤ ce _ * (k * l * 1099511627776)
    rw [show ce (max4 (X.1 * Y.1) (X.1 * Y.2) (X.2 * Y.1) (X.2 * Y.2)) * (k * l * 1099511627776) = ce (max4 (X.1 * Y.1) (X.1 * Y.2) (X.2 * Y.1) (X.2 * Y.2)) * 1099511627776 * (k * l) by grind]
    omega
/-- A rounded product lies where the product lies. -/
theorem round_in {X Y : Iv} {x y m : Int} (h : In X x) (g : In Y y) (r : Ab (2 * (m * 1099511627776 - x * y)) 1099511627776) : In (imul X Y) m := by
  have p := InK.mul (by decide) (by decide) h g
  have := p.lo; have := p.hi; have := r.lo; have := r.hi
  exact in_mk (by omega) (by omega)
/-- Sums of intervals. -/
def iacc (F : Nat → Iv) : Nat → Iv
  | 0 => pt 0
  | n + 1 => iadd (iacc F n) (F n)
theorem iacc_in {k : Int} {F : Nat → Iv} {f : Nat → Int} : ∀ {n : Nat}, (∀ i, i < n → InK k (F i) (f i)) → InK k (iacc F n) (sm f n)
  | 0, _ => InK.zero k
  | n + 1, h => (iacc_in fun i hi => h i (Nat.lt_succ_of_lt hi)).add (h n (Nat.lt_succ_self n))
theorem sm_trn (f : Nat → Nat → Int) (m : Nat) : ∀ n, sm (fun i => sm (fun j => f i j) m) n = sm (fun j => sm (fun i => f i j) n) m
  | 0 => by rw [sm_zero (f := fun j => sm (fun i => f i j) 0) (fun _ _ => rfl)]; rfl
  | n + 1 => by
    show sm (fun i => sm (fun j => f i j) m) n + sm (fun j => f n j) m = sm (fun j => sm (fun i => f i j) n + f n j) m
    rw [sm_trn f m n, sm_add]
end Go.Proofs.YtoadcnhcfodkgaaGreatDoor
