/-
  Polynomials of one and of two unknowns with integer numbers, and bounds of what they come to, for the seat YtoadcnhcfodkgaaGreatDoor. No Go text in sight.
-/
import Derived.Test.YtoadcnhcfodkgaaGreatDoorMath
namespace Go.Proofs.YtoadcnhcfodkgaaGreatDoor

def evp : List Int → Int → Int
  | [], _ => 0
  | c :: l, x => c + x * evp l x
def ev2 : List (List Int) → Int → Int → Int
  | [], _, _ => 0
  | l :: L, x, y => evp l x + y * ev2 L x y
def padd : List Int → List Int → List Int
  | [], m => m
  | a :: l, [] => a :: l
  | a :: l, b :: m => (a + b) :: padd l m
def padd2 : List (List Int) → List (List Int) → List (List Int)
  | [], m => m
  | a :: l, [] => a :: l
  | a :: l, b :: m => padd a b :: padd2 l m
def pscale (c : Int) (l : List Int) : List Int := l.map (c * ·)
def pscale2 (c : Int) (L : List (List Int)) : List (List Int) := L.map (pscale c)
/-- p (x) q (y). -/
def outer (p q : List Int) : List (List Int) := q.map (fun c => pscale c p)
def mulXY (L : List (List Int)) : List (List Int) := padd2 (L.map (fun l => 0 :: l)) ([] :: L)
/-- l (x + y). -/
def comp : List Int → List (List Int)
  | [] => []
  | c :: l => padd2 [[c]] (mulXY (comp l))
def inter : List Int → List Int
  | [] => []
  | c :: l => c :: 0 :: inter l
def absl (l : List Int) : List Int := l.map sz
def absl2 (L : List (List Int)) : List (List Int) := L.map absl

theorem evp_padd : ∀ (l m : List Int) (x : Int), evp (padd l m) x = evp l x + evp m x
  | [], m, x => by simp [padd, evp]
  | a :: l, [], x => by simp [padd, evp]
  | a :: l, b :: m, x => by
    simp only [padd, evp]
    rw [evp_padd l m x]
    grind
theorem ev2_padd2 : ∀ (l m : List (List Int)) (x y : Int), ev2 (padd2 l m) x y = ev2 l x y + ev2 m x y
  | [], m, x, y => by simp [padd2, ev2]
  | a :: l, [], x, y => by simp [padd2, ev2]
  | a :: l, b :: m, x, y => by
    simp only [padd2, ev2]
    rw [ev2_padd2 l m x y, evp_padd]
    grind
theorem evp_scale (c : Int) : ∀ (l : List Int) (x : Int), evp (pscale c l) x = c * evp l x
  | [], x => by simp [pscale, evp]
  | a :: l, x => by
    have := evp_scale c l x
    unfold pscale at this ⊢
    simp only [List.map_cons, evp]
    rw [this]
    grind
theorem ev2_scale2 (c : Int) : ∀ (L : List (List Int)) (x y : Int), ev2 (pscale2 c L) x y = c * ev2 L x y
  | [], x, y => by simp [pscale2, ev2]
  | a :: l, x, y => by
    have := ev2_scale2 c l x y
    unfold pscale2 at this ⊢
    simp only [List.map_cons, ev2]
    rw [this, evp_scale]
    grind
theorem ev2_outer (p : List Int) : ∀ (q : List Int) (x y : Int), ev2 (outer p q) x y = evp p x * evp q y
  | [], x, y => by simp [outer, ev2, evp]
  | c :: q, x, y => by
    have := ev2_outer p q x y
    unfold outer at this ⊢
    simp only [List.map_cons, ev2, evp]
    rw [this, evp_scale]
    grind
theorem ev2_shift : ∀ (L : List (List Int)) (x y : Int), ev2 (L.map (fun l => 0 :: l)) x y = x * ev2 L x y
  | [], x, y => by simp [ev2]
  | a :: l, x, y => by
    have := ev2_shift l x y
    simp only [List.map_cons, ev2, evp]
    rw [this]
    grind
theorem ev2_mulXY (L : List (List Int)) (x y : Int) : ev2 (mulXY L) x y = (x + y) * ev2 L x y := by
  unfold mulXY
  rw [ev2_padd2, ev2_shift]
  simp only [ev2, evp]
  grind
theorem ev2_comp : ∀ (l : List Int) (x y : Int), ev2 (comp l) x y = evp l (x + y)
  | [], x, y => by simp [comp, ev2, evp]
  | c :: l, x, y => by
    simp only [comp]
    rw [ev2_padd2, ev2_mulXY, ev2_comp l x y]
    simp only [ev2, evp]
    grind
theorem evp_inter : ∀ (l : List Int) (x : Int), evp (inter l) x = evp l (x * x)
  | [], x => by simp [inter, evp]
  | c :: l, x => by
    simp only [inter, evp]
    rw [evp_inter l x]
    grind

/-- A product's bound. -/
theorem mulbd {x y a b : Int} (hx : -a ≤ x ∧ x ≤ a) (hy : -b ≤ y ∧ y ≤ b) : -(a * b) ≤ x * y ∧ x * y ≤ a * b := by
  have hs : sz x * sz y ≤ a * b := Int.mul_le_mul (by unfold sz; split <;> omega) (by unfold sz; split <;> omega) (by unfold sz; split <;> omega) (by omega)
  unfold sz at hs
  split at hs <;> split at hs
  · rw [Int.neg_mul_neg] at hs
    have := Int.mul_nonneg (by omega : 0 ≤ -x) (by omega : 0 ≤ -y)
    rw [Int.neg_mul_neg] at this
    omega
  · rw [Int.neg_mul] at hs
    have := Int.mul_nonneg (by omega : 0 ≤ -x) (by omega : 0 ≤ y)
    rw [Int.neg_mul] at this
    omega
  · rw [Int.mul_neg] at hs
    have := Int.mul_nonneg (by omega : 0 ≤ x) (by omega : 0 ≤ -y)
    rw [Int.mul_neg] at this
    omega
  · have := Int.mul_nonneg (by omega : 0 ≤ x) (by omega : 0 ≤ y)
    omega
theorem evp_abs : ∀ (l : List Int) (x X : Int), (-X ≤ x ∧ x ≤ X) → -(evp (absl l) X) ≤ evp l x ∧ evp l x ≤ evp (absl l) X
  | [], x, X, _ => by simp [absl, evp]
  | c :: l, x, X, h => by
    have ih := evp_abs l x X h
    have m := mulbd h ih
    unfold absl at ih m ⊢
    simp only [List.map_cons, evp]
    have s : -(sz c) ≤ c ∧ c ≤ sz c := by unfold sz; split <;> omega
    omega
theorem ev2_abs : ∀ (L : List (List Int)) (x y X Y : Int), (-X ≤ x ∧ x ≤ X) → (-Y ≤ y ∧ y ≤ Y) → -(ev2 (absl2 L) X Y) ≤ ev2 L x y ∧ ev2 L x y ≤ ev2 (absl2 L) X Y
  | [], x, y, X, Y, _, _ => by simp [absl2, ev2]
  | l :: L, x, y, X, Y, hx, hy => by
    have ih := ev2_abs L x y X Y hx hy
    have m := mulbd hy ih
    have e := evp_abs l x X hx
    unfold absl2 at ih m ⊢
    simp only [List.map_cons, ev2]
    omega
end Go.Proofs.YtoadcnhcfodkgaaGreatDoor
