/-
  What package trig works out, step by step, as plain functions of numbers, for the seat YtmhcfkcpoecokaaDoor. No Go text in sight.
  Rounded products, quotients and roots (Near), beside package trig's steps, for the seat YtmhcfkcpoecokaaDoor. No Go text in sight.
  Polynomials of one and of two unknowns with integer numbers, and bounds of what they come to, for the seat YtmhcfkcpoecokaaDoor. No Go text in sight.
  How near the rounded series are to their polynomials, for the seat YtmhcfkcpoecokaaDoor. No Go text in sight.
  Sines and cosines: how near they are to polynomials, and what those of a sum are, for the seat YtmhcfkcpoecokaaDoor. No Go text in sight.
  The squares of a sine and a cosine together, and the sine and the cosine of a sum, as they are worked, for the seat YtmhcfkcpoecokaaDoor. No Go text in sight.
  Sines and cosines of small angles, as they are worked, for the seat YtmhcfkcpoecokaaDoor. No Go text in sight.
  Kepler's angle, by six rounds: what it makes of his equation, for the seat YtmhcfkcpoecokaaDoor. No Go text in sight.
  How far a place is, as it is worked (OrbitFar), for the seat YtmhcfkcpoecokaaDoor. No Go text in sight.
  A place is as far as the ellipse lets it be (OrbitFar), for the seat YtmhcfkcpoecokaaDoor. No Go text in sight.
  A day later the Earth has turned once, and 18914669620 last bits more, to the bit, for the seat YtmhcfkcpoecokaaDoor. No Go text in sight.
  All that Place works, step by step, of right elements at right ticks: nothing goes bad, for the seat YtmhcfkcpoecokaaDoor. No Go text in sight.
  How near the squares of a sine and a cosine are to 1 together: sharper than TrigOne asks, for the seat YtmhcfkcpoecokaaDoor. No Go text in sight.
  What package clock's functions answer, as plain steps, for the seat YtmhcfkcpoecokaaDoor. No Go text in sight.
  How great what a flow answers can be, for the seat YtmhcfkcpoecokaaDoor. No Go text in sight.
  A flow that is bad answers 0 to these as well, for the seat YtmhcfkcpoecokaaDoor. No Go text in sight.
  The model's numbers as they stand in the program, in tenths of a nanotesla, for the seat YtmhcfkcpoecokaaDoor. No function's Go text in sight.
  The field's steps, one by one, where nothing goes bad, for the seat YtmhcfkcpoecokaaDoor. No Go text in sight.
-/
import Derived.Test.YtmhcfkcpoecokaaDoorJA
namespace Go.Proofs.YtmhcfkcpoecokaaDoor
open Go.RowKit

/-! ### One round of a series, and the series -/
def stepS (u d : Int) (p : Int × Bool) : Int × Bool :=
  subS (partS (mulS p.2 u p.1).2 (mulS p.2 u p.1).1 1 d).2 1099511627776 (partS (mulS p.2 u p.1).2 (mulS p.2 u p.1).1 1 d).1
def serS (dd : Int → Int) (u : Int) : Nat → Int × Bool → Int × Bool
  | 0, p => p
  | n + 1, p => serS dd u n (stepS u (dd (n + 1)) p)
def dSin (n : Int) : Int := 2 * n * (2 * n + 1)
def dCos (n : Int) : Int := (2 * n - 1) * 2 * n
def cosS (bad : Bool) (t : Int) : Int × Bool := serS dCos (mulS bad t t).1 10 (1099511627776, (mulS bad t t).2)
def sinV (bad : Bool) (t : Int) : Int × Bool := serS dSin (mulS bad t t).1 10 (1099511627776, (mulS bad t t).2)
def sinS (bad : Bool) (t : Int) : Int × Bool := mulS (sinV bad t).2 t (sinV bad t).1
theorem dSin_wrap (n : Int) (h : 1 ≤ n ∧ n ≤ 10) : wrap64 (2 * n * (2 * n + 1)) = dSin n := by
  have : n = 1 ∨ n = 2 ∨ n = 3 ∨ n = 4 ∨ n = 5 ∨ n = 6 ∨ n = 7 ∨ n = 8 ∨ n = 9 ∨ n = 10 := by omega
  unfold wrap64 dSin
  rcases this with rfl | rfl | rfl | rfl | rfl | rfl | rfl | rfl | rfl | rfl <;> decide
theorem dCos_wrap (n : Int) (h : 1 ≤ n ∧ n ≤ 10) : wrap64 ((2 * n - 1) * 2 * n) = dCos n := by
  have : n = 1 ∨ n = 2 ∨ n = 3 ∨ n = 4 ∨ n = 5 ∨ n = 6 ∨ n = 7 ∨ n = 8 ∨ n = 9 ∨ n = 10 := by omega
  unfold wrap64 dCos
  rcases this with rfl | rfl | rfl | rfl | rfl | rfl | rfl | rfl | rfl | rfl <;> decide
theorem serS_round (dd : Int → Int) (u n : Int) (p T : Int × Bool) (h : 1 ≤ n) (e : serS dd u n.toNat p = T) : serS dd u (n - 1).toNat (stepS u (dd n) p) = T := by
  have : n.toNat = (n - 1).toNat + 1 := by omega
  rw [this] at e
  have e2 : (((n - 1).toNat : Nat) : Int) + 1 = n := by omega
  simpa only [serS, e2] using e
/-! ### Angles: the quarter in which one ends, and how far in it -/
def rest4 (bad : Bool) (a : Int) : Int := (modS bad a 6908435304716).1
def badM (bad : Bool) (a : Int) : Bool := (modS bad a 6908435304716).2
theorem rest4_bd (bad : Bool) (a : Int) : 0 ≤ rest4 bad a ∧ rest4 bad a < 6908435304716 := by
  unfold rest4 modS
  split
  · exact ⟨Int.emod_nonneg _ (by decide), Int.emod_lt_of_pos _ (by decide)⟩
  · decide
def quart (bad : Bool) (a : Int) : Int := rest4 bad a / 1727108826179
def inq (bad : Bool) (a : Int) : Int := rest4 bad a - quart bad a * 1727108826179
theorem quart_bd (bad : Bool) (a : Int) : 0 ≤ quart bad a ∧ quart bad a ≤ 3 ∧ 0 ≤ inq bad a ∧ inq bad a < 1727108826179 := by
  have := rest4_bd bad a
  unfold inq quart
  omega
def neg1 (p : Int × Bool) : Int × Bool := (-p.1, p.2)
def pick (k : Int) (bad : Bool) (t : Int) : Int × Bool :=
  if k = 0 then sinS bad t else if k = 1 then cosS bad t else if k = 2 then neg1 (sinS bad t) else neg1 (cosS bad t)
theorem pick_0 (bad : Bool) (t : Int) : pick 0 bad t = sinS bad t := if_pos rfl
theorem pick_1 (bad : Bool) (t : Int) : pick 1 bad t = cosS bad t := by unfold pick; rw [if_neg (by decide), if_pos rfl]
theorem pick_2 (bad : Bool) (t : Int) : pick 2 bad t = neg1 (sinS bad t) := by unfold pick; rw [if_neg (by decide), if_neg (by decide), if_pos rfl]
theorem pick_3 (bad : Bool) (t : Int) : pick 3 bad t = neg1 (cosS bad t) := by unfold pick; rw [if_neg (by decide), if_neg (by decide), if_neg (by decide)]
theorem neg1_1 (p : Int × Bool) : (neg1 p).1 = -p.1 := rfl
theorem neg1_2 (p : Int × Bool) : (neg1 p).2 = p.2 := rfl
def sinA (bad : Bool) (a : Int) : Int × Bool := pick (quart bad a) (badM bad a) (inq bad a)
def cosA (bad : Bool) (a : Int) : Int × Bool := pick (if quart bad a = 3 then 0 else quart bad a + 1) (badM bad a) (inq bad a)

/-! ### What any step answers fits, and a bad flow stays so -/
theorem sgnd_fits (n : Int) (m : Bool) (h : 0 ≤ n) : -4611686018427387904 ≤ sgnd n m ∧ sgnd n m ≤ 4611686018427387904 := by
  unfold sgnd
  split
  · split <;> omega
  · decide
theorem partS_fits (bad : Bool) (a p q : Int) : -4611686018427387904 ≤ (partS bad a p q).1 ∧ (partS bad a p q).1 ≤ 4611686018427387904 := by
  unfold partS
  split
  · rename_i c
    have c1 : tk bad [a, p, q] = true ∧ (q != 0) = true := by simpa using c
    have ht := tk_three c1.1
    exact sgnd_fits _ _ (rnd_nonneg (sz_mul_bd ht.2.1 ht.2.2.1).1 (sz_pos c1.2))
  · decide
theorem gv_fits (n : Int) : -4611686018427387904 ≤ (gv n).1 ∧ (gv n).1 ≤ 4611686018427387904 := by
  unfold gv
  cases c : numB n
  · exact ⟨by show -4611686018427387904 ≤ (0 : Int); decide, by show (0 : Int) ≤ 4611686018427387904; decide⟩
  · simpa using numB_bd c
theorem subS_fits (bad : Bool) (a b : Int) : -4611686018427387904 ≤ (subS bad a b).1 ∧ (subS bad a b).1 ≤ 4611686018427387904 := by
  unfold subS
  split
  · exact gv_fits _
  · decide
theorem serS_fits (dd : Int → Int) (u : Int) : ∀ (n : Nat) (p : Int × Bool), (-4611686018427387904 ≤ p.1 ∧ p.1 ≤ 4611686018427387904) → -4611686018427387904 ≤ (serS dd u n p).1 ∧ (serS dd u n p).1 ≤ 4611686018427387904
  | 0, _, h => h
  | n + 1, _, _ => serS_fits dd u n _ (subS_fits _ _ _)
theorem sinS_fits (bad : Bool) (t : Int) : -4611686018427387904 ≤ (sinS bad t).1 ∧ (sinS bad t).1 ≤ 4611686018427387904 := by
  unfold sinS mulS
  exact partS_fits _ _ _ _
theorem cosS_fits (bad : Bool) (t : Int) : -4611686018427387904 ≤ (cosS bad t).1 ∧ (cosS bad t).1 ≤ 4611686018427387904 := by
  unfold cosS
  exact serS_fits _ _ _ _ ⟨by show -4611686018427387904 ≤ (1099511627776 : Int); decide, by show (1099511627776 : Int) ≤ 4611686018427387904; decide⟩
theorem stepS_bad (u d v : Int) : stepS u d (v, true) = (0, true) := rfl
theorem serS_bad (dd : Int → Int) (u : Int) : ∀ (n : Nat) (v : Int), (serS dd u n (v, true)).2 = true
  | 0, _ => rfl
  | n + 1, v => by unfold serS; rw [stepS_bad]; exact serS_bad dd u n 0
theorem sinS_true (t : Int) : sinS true t = (0, true) := by
  have h : (sinV true t).2 = true := serS_bad _ _ _ _
  unfold sinS
  rw [h]
  rfl
theorem sinA_true (a : Int) : sinA true a = (0, true) := by
  have q : quart true a = 0 := rfl
  have i : inq true a = 0 := rfl
  have m : badM true a = true := rfl
  unfold sinA pick
  rw [q, i, m, if_pos rfl, sinS_true]
theorem serS_dbl (dd : Int → Int) (u : Int) : ∀ (n : Nat) (v : Int), 0 < n → serS dd u n (v, true) = (0, true)
  | 1, _, _ => rfl
  | n + 2, v, _ => by
    rw [show serS dd u (n + 2) (v, true) = serS dd u (n + 1) (stepS u (dd ((n + 1 : Nat) + 1)) (v, true)) from rfl, stepS_bad]
    exact serS_dbl dd u (n + 1) 0 (by omega)
theorem cosS_true (t : Int) : cosS true t = (0, true) := serS_dbl _ _ 10 _ (by decide)
theorem cosA_true (a : Int) : cosA true a = (0, true) := by
  have q : quart true a = 0 := rfl
  have m : badM true a = true := rfl
  unfold cosA pick
  rw [q, m, if_neg (by decide), if_pos (by decide), cosS_true]
theorem mod_bad0 {bad : Bool} {a : Int} (h : badM bad a = true) : rest4 bad a = 0 := by
  unfold badM modS at h
  unfold rest4 modS
  split at h
  · cases h
  · rename_i c; rw [if_neg c]
theorem sinA_bad {bad : Bool} {a : Int} (h : badM bad a = true) : sinA bad a = (0, true) := by
  have r := mod_bad0 h
  have q : quart bad a = 0 := by unfold quart; rw [r]; rfl
  unfold sinA pick
  rw [q, h, if_pos rfl, sinS_true]
theorem cosA_bad {bad : Bool} {a : Int} (h : badM bad a = true) : cosA bad a = (0, true) := by
  have r := mod_bad0 h
  have q : quart bad a = 0 := by unfold quart; rw [r]; rfl
  unfold cosA pick
  rw [q, h, if_neg (by decide), if_pos (by decide), cosS_true]
end Go.Proofs.YtmhcfkcpoecokaaDoor

namespace Go.Proofs.YtmhcfkcpoecokaaDoor

def evp : List Int → Int → Int
  | [], _ => 0
  | c :: l, x => c + x * evp l x
def ev2 : List (List Int) → Int → Int → Int
  | [], _, _ => 0
  | l :: L, x, y => evp l x + y * ev2 L x y
def padd : List Int → List Int → List Int
  | [], m => m
  | a :: l, [] => a :: l
  | a :: l, b :: m => (a + b) :: padd l m
def padd2 : List (List Int) → List (List Int) → List (List Int)
  | [], m => m
  | a :: l, [] => a :: l
  | a :: l, b :: m => padd a b :: padd2 l m
def pscale (c : Int) (l : List Int) : List Int := l.map (c * ·)
def pscale2 (c : Int) (L : List (List Int)) : List (List Int) := L.map (pscale c)
/-- p (x) q (y). -/
def outer (p q : List Int) : List (List Int) := q.map (fun c => pscale c p)
def mulXY (L : List (List Int)) : List (List Int) := padd2 (L.map (fun l => 0 :: l)) ([] :: L)
/-- l (x + y). -/
def comp : List Int → List (List Int)
  | [] => []
  | c :: l => padd2 [[c]] (mulXY (comp l))
def inter : List Int → List Int
  | [] => []
  | c :: l => c :: 0 :: inter l
def absl (l : List Int) : List Int := l.map sz
def absl2 (L : List (List Int)) : List (List Int) := L.map absl

theorem evp_padd : ∀ (l m : List Int) (x : Int), evp (padd l m) x = evp l x + evp m x
  | [], m, x => by simp [padd, evp]
  | a :: l, [], x => by simp [padd, evp]
  | a :: l, b :: m, x => by
    simp only [padd, evp]
    rw [evp_padd l m x]
    grind
theorem ev2_padd2 : ∀ (l m : List (List Int)) (x y : Int), ev2 (padd2 l m) x y = ev2 l x y + ev2 m x y
  | [], m, x, y => by simp [padd2, ev2]
  | a :: l, [], x, y => by simp [padd2, ev2]
  | a :: l, b :: m, x, y => by
    simp only [padd2, ev2]
    rw [ev2_padd2 l m x y, evp_padd]
    grind
theorem evp_scale (c : Int) : ∀ (l : List Int) (x : Int), evp (pscale c l) x = c * evp l x
  | [], x => by simp [pscale, evp]
  | a :: l, x => by
    have := evp_scale c l x
    unfold pscale at this ⊢
    simp only [List.map_cons, evp]
    rw [this]
    grind
theorem ev2_scale2 (c : Int) : ∀ (L : List (List Int)) (x y : Int), ev2 (pscale2 c L) x y = c * ev2 L x y
  | [], x, y => by simp [pscale2, ev2]
  | a :: l, x, y => by
    have := ev2_scale2 c l x y
    unfold pscale2 at this ⊢
    simp only [List.map_cons, ev2]
    rw [this, evp_scale]
    grind
theorem ev2_outer (p : List Int) : ∀ (q : List Int) (x y : Int), ev2 (outer p q) x y = evp p x * evp q y
  | [], x, y => by simp [outer, ev2, evp]
  | c :: q, x, y => by
    have := ev2_outer p q x y
    unfold outer at this ⊢
    simp only [List.map_cons, ev2, evp]
    rw [this, evp_scale]
    grind
theorem ev2_shift : ∀ (L : List (List Int)) (x y : Int), ev2 (L.map (fun l => 0 :: l)) x y = x * ev2 L x y
  | [], x, y => by simp [ev2]
  | a :: l, x, y => by
    have := ev2_shift l x y
    simp only [List.map_cons, ev2, evp]
    rw [this]
    grind
theorem ev2_mulXY (L : List (List Int)) (x y : Int) : ev2 (mulXY L) x y = (x + y) * ev2 L x y := by
  unfold mulXY
  rw [ev2_padd2, ev2_shift]
  simp only [ev2, evp]
  grind
theorem ev2_comp : ∀ (l : List Int) (x y : Int), ev2 (comp l) x y = evp l (x + y)
  | [], x, y => by simp [comp, ev2, evp]
  | c :: l, x, y => by
    simp only [comp]
    rw [ev2_padd2, ev2_mulXY, ev2_comp l x y]
    simp only [ev2, evp]
    grind
theorem evp_inter : ∀ (l : List Int) (x : Int), evp (inter l) x = evp l (x * x)
  | [], x => by simp [inter, evp]
  | c :: l, x => by
    simp only [inter, evp]
    rw [evp_inter l x]
    grind

/-- A product's bound. -/
theorem mulbd {x y a b : Int} (hx : -a ≤ x ∧ x ≤ a) (hy : -b ≤ y ∧ y ≤ b) : -(a * b) ≤ x * y ∧ x * y ≤ a * b := by
  have hs : sz x * sz y ≤ a * b := Int.mul_le_mul (by unfold sz; split <;> omega) (by unfold sz; split <;> omega) (by unfold sz; split <;> omega) (by omega)
  unfold sz at hs
  split at hs <;> split at hs
  · rw [Int.neg_mul_neg] at hs
    have := Int.mul_nonneg (by omega : 0 ≤ -x) (by omega : 0 ≤ -y)
    rw [Int.neg_mul_neg] at this
    omega
  · rw [Int.neg_mul] at hs
    have := Int.mul_nonneg (by omega : 0 ≤ -x) (by omega : 0 ≤ y)
    rw [Int.neg_mul] at this
    omega
  · rw [Int.mul_neg] at hs
    have := Int.mul_nonneg (by omega : 0 ≤ x) (by omega : 0 ≤ -y)
    rw [Int.mul_neg] at this
    omega
  · have := Int.mul_nonneg (by omega : 0 ≤ x) (by omega : 0 ≤ y)
    omega
theorem evp_abs : ∀ (l : List Int) (x X : Int), (-X ≤ x ∧ x ≤ X) → -(evp (absl l) X) ≤ evp l x ∧ evp l x ≤ evp (absl l) X
  | [], x, X, _ => by simp [absl, evp]
  | c :: l, x, X, h => by
    have ih := evp_abs l x X h
    have m := mulbd h ih
    unfold absl at ih m ⊢
    simp only [List.map_cons, evp]
    have s : -(sz c) ≤ c ∧ c ≤ sz c := by unfold sz; split <;> omega
    omega
theorem ev2_abs : ∀ (L : List (List Int)) (x y X Y : Int), (-X ≤ x ∧ x ≤ X) → (-Y ≤ y ∧ y ≤ Y) → -(ev2 (absl2 L) X Y) ≤ ev2 L x y ∧ ev2 L x y ≤ ev2 (absl2 L) X Y
  | [], x, y, X, Y, _, _ => by simp [absl2, ev2]
  | l :: L, x, y, X, Y, hx, hy => by
    have ih := ev2_abs L x y X Y hx hy
    have m := mulbd hy ih
    have e := evp_abs l x X hx
    unfold absl2 at ih m ⊢
    simp only [List.map_cons, ev2]
    omega
end Go.Proofs.YtmhcfkcpoecokaaDoor
namespace Go.Proofs.YtmhcfkcpoecokaaDoor

/-- What the first numbers of a series are divided by, together; and the series itself, times that. -/
def lwD : List Int → Int
  | [] => 1
  | d :: ds => d * 1208925819614629174706176 * lwD ds
def lw : List Int → List Int
  | [] => [1]
  | d :: ds => lwD (d :: ds) :: pscale (-1) (lw ds)
theorem lwD_pos : ∀ (ds : List Int), (∀ d ∈ ds, 0 < d) → 0 < lwD ds
  | [], _ => by decide
  | d :: ds, h => by
    have h1 := lwD_pos ds (fun e he => h e (List.mem_cons_of_mem _ he))
    have h2 : 0 < d := h d (List.mem_cons_self ..)
    unfold lwD
    exact Int.mul_pos (Int.mul_pos h2 (by decide)) h1
theorem lw_step (d : Int) (ds : List Int) (y : Int) : evp (lw (d :: ds)) y = d * 1208925819614629174706176 * lwD ds - y * evp (lw ds) y := by
  rw [show lw (d :: ds) = lwD (d :: ds) :: pscale (-1) (lw ds) from rfl]
  simp only [evp, lwD]
  rw [evp_scale]
  grind
/-- One round: what is off grows by little. -/
theorem ser_step (t u v d D W : Int) (ht : 0 ≤ t ∧ t ≤ 1727108826179) (hu0 : 0 ≤ u) (hu1 : u * 1099511627776 ≤ t * t + 549755813888) (hu2 : t * t ≤ u * 1099511627776 + 549755813888)
    (hv : 0 ≤ v ∧ v ≤ 1099511627776) (hd : 2 ≤ d ∧ d ≤ 1000) (hD : 0 < D) (he : -D ≤ v * D - 1099511627776 * W ∧ v * D - 1099511627776 * W ≤ D) :
    ∃ v1, stepS u d (v, false) = (v1, false) ∧ v1 ≤ 1099511627776 ∧ (6 ≤ d → 0 ≤ v1) ∧ -1099511627776 ≤ v1 ∧
      -((7 + d) * (1208925819614629174706176 * D)) ≤ 2 * (v1 * (d * 1208925819614629174706176 * D) - 1099511627776 * (d * 1208925819614629174706176 * D - t * t * W)) ∧
      2 * (v1 * (d * 1208925819614629174706176 * D) - 1099511627776 * (d * 1208925819614629174706176 * D - t * t * W)) ≤ (7 + d) * (1208925819614629174706176 * D) := by
  have tt0 : 0 ≤ t * t := Int.mul_nonneg ht.1 ht.1
  have tt1 : t * t ≤ 1727108826179 * 1727108826179 := Int.mul_le_mul ht.2 ht.2 ht.1 (by decide)
  have u1 : u ≤ 2712936701216 := by omega
  obtain ⟨m, em, m1, m2, m3⟩ := mulS_small u v (by omega) (by omega)
  have uv0 : 0 ≤ u * v := Int.mul_nonneg hu0 hv.1
  have uv1 : u * v ≤ 2712936701216 * 1099511627776 := Int.mul_le_mul u1 hv.2 hv.1 (by decide)
  have m0 := m3 uv0
  have mt : m ≤ 2712936701216 := by omega
  obtain ⟨p, ep, p1, p2, p3⟩ := partS_one m d (numB_of (by omega)) (by omega) (by rw [sz_nonneg m0]; omega)
  have p0 := p3 m0
  have pb : p ≤ 1356468350609 := by
    by_cases c : p ≤ 1356468350609
    · exact c
    · have := Int.mul_le_mul_of_nonneg_left hd.1 p0
      have h2 : (p * 2 - 1) * d ≥ (p * 2 - 1) * 2 := Int.mul_le_mul_of_nonneg_left hd.1 (by omega)
      have h3 : (p * 2 - 1) * d = 2 * (p * d) - d := by grind
      omega
  have pb6 : 6 ≤ d → p ≤ 1099511627776 := fun h6 => by
    by_cases c : p ≤ 1099511627776
    · exact c
    · have h2 : (p * 2 - 1) * d ≥ (p * 2 - 1) * 6 := Int.mul_le_mul_of_nonneg_left h6 (by omega)
      have h3 : (p * 2 - 1) * d = 2 * (p * d) - d := by grind
      omega
  refine ⟨1099511627776 - p, ?_, by omega, fun h6 => by have := pb6 h6; omega, by omega, ?_⟩
  · unfold stepS
    show subS (partS (mulS false u v).2 (mulS false u v).1 1 d).2 1099511627776 (partS (mulS false u v).2 (mulS false u v).1 1 d).1 = _
    rw [em]
    show subS (partS false m 1 d).2 1099511627776 (partS false m 1 d).1 = _
    rw [ep]
    exact subS_good _ _ rfl (numB_of (by omega)) (numB_of (by omega))
  · clear em ep pb pb6 m3 p3
    -- the four parts of what is off
    obtain ⟨e1, he1⟩ : ∃ e1, e1 = p * d - m := ⟨_, rfl⟩
    obtain ⟨e2, he2⟩ : ∃ e2, e2 = m * 1099511627776 - u * v := ⟨_, rfl⟩
    obtain ⟨e3, he3⟩ : ∃ e3, e3 = u * 1099511627776 - t * t := ⟨_, rfl⟩
    obtain ⟨e4, he4⟩ : ∃ e4, e4 = v * D - 1099511627776 * W := ⟨_, rfl⟩
    have key : (1099511627776 - p) * (d * 1208925819614629174706176 * D) - 1099511627776 * (d * 1208925819614629174706176 * D - t * t * W) = -(t * t * e4) - e3 * v * D - e2 * (1099511627776 * D) - e1 * (1208925819614629174706176 * D) := by
      rw [he1, he2, he3, he4]
      grind
    rw [key]
    have q4 := mulbd (x := t * t) (y := e4) (a := 1727108826179 * 1727108826179) (b := D) (by omega) (by omega)
    have q3a := mulbd (x := e3) (y := v) (a := 549755813888) (b := 1099511627776) (by omega) (by omega)
    have q3 := mulbd (x := e3 * v) (y := D) (a := 549755813888 * 1099511627776) (b := D) q3a (by omega)
    have q2 := mulbd (x := e2) (y := 1099511627776 * D) (a := 549755813888) (b := 1099511627776 * D) (by omega) (by omega)
    have q1 := mulbd (x := 2 * e1) (y := 1208925819614629174706176 * D) (a := d) (b := 1208925819614629174706176 * D) (by omega) (by omega)
    have r1 : 2 * e1 * (1208925819614629174706176 * D) = 2 * (e1 * (1208925819614629174706176 * D)) := by grind
    rw [r1] at q1
    have r2 : (7 + d) * (1208925819614629174706176 * D) = 7 * (1208925819614629174706176 * D) + d * (1208925819614629174706176 * D) := by grind
    rw [r2]
    generalize t * t * e4 = z4 at *
    generalize e3 * v * D = z3 at *
    generalize e2 * (1099511627776 * D) = z2 at *
    generalize e1 * (1208925819614629174706176 * D) = z1 at *
    generalize d * (1208925819614629174706176 * D) = z0 at *
    omega

theorem serS_last (dd : Int → Int) (u : Int) : ∀ (n : Nat) (p : Int × Bool), serS dd u (n + 1) p = stepS u (dd 1) (serS (fun m => dd (m + 1)) u n p)
  | 0, p => rfl
  | n + 1, p => by
    rw [show serS dd u (n + 1 + 1) p = serS dd u (n + 1) (stepS u (dd (((n + 1 : Nat) : Int) + 1)) p) from rfl, serS_last dd u n]
    rfl
def dsOf (dd : Int → Int) : Nat → List Int → List Int
  | 0, ds => ds
  | n + 1, ds => dsOf dd n (dd (n + 1) :: ds)
theorem ser_inv (dd : Int → Int) (t u : Int) (ht : 0 ≤ t ∧ t ≤ 1727108826179) (hu0 : 0 ≤ u) (hu1 : u * 1099511627776 ≤ t * t + 549755813888) (hu2 : t * t ≤ u * 1099511627776 + 549755813888) :
    ∀ (n : Nat) (v : Int) (ds : List Int), (∀ m : Int, 1 ≤ m → m ≤ n → 12 ≤ dd m ∧ dd m ≤ 1000) → (∀ d ∈ ds, 0 < d) → (0 ≤ v ∧ v ≤ 1099511627776) →
      (-(lwD ds) ≤ v * lwD ds - 1099511627776 * evp (lw ds) (t * t) ∧ v * lwD ds - 1099511627776 * evp (lw ds) (t * t) ≤ lwD ds) →
      ∃ v', serS dd u n (v, false) = (v', false) ∧ 0 ≤ v' ∧ v' ≤ 1099511627776 ∧ (∀ d ∈ dsOf dd n ds, 0 < d) ∧
        -(lwD (dsOf dd n ds)) ≤ v' * lwD (dsOf dd n ds) - 1099511627776 * evp (lw (dsOf dd n ds)) (t * t) ∧ v' * lwD (dsOf dd n ds) - 1099511627776 * evp (lw (dsOf dd n ds)) (t * t) ≤ lwD (dsOf dd n ds)
  | 0, v, ds, _, hp, hv, he => ⟨v, rfl, hv.1, hv.2, hp, he.1, he.2⟩
  | n + 1, v, ds, hdd, hp, hv, he => by
    have hd := hdd ((n : Int) + 1) (by omega) (by omega)
    obtain ⟨v1, e1, b1, b2, _, c1, c2⟩ := ser_step t u v (dd (n + 1)) (lwD ds) (evp (lw ds) (t * t)) ht hu0 hu1 hu2 hv (by omega) (lwD_pos ds hp) he
    have hp' : ∀ d ∈ dd (n + 1) :: ds, 0 < d := by
      intro d h
      rcases List.mem_cons.1 h with rfl | h
      · omega
      · exact hp d h
    have ew := lw_step (dd (n + 1)) ds (t * t)
    have eD : lwD (dd (n + 1) :: ds) = dd (n + 1) * 1208925819614629174706176 * lwD ds := rfl
    have k : (7 + dd (n + 1)) * (1208925819614629174706176 * lwD ds) ≤ 2 * (dd (n + 1) * 1208925819614629174706176 * lwD ds) := by
      have h0 := Int.mul_pos (by decide : (0 : Int) < 1208925819614629174706176) (lwD_pos ds hp)
      have h1 := Int.mul_le_mul_of_nonneg_right (by omega : 7 + dd (n + 1) ≤ 2 * dd (n + 1)) (Int.le_of_lt h0)
      have h2 : 2 * dd (n + 1) * (1208925819614629174706176 * lwD ds) = 2 * (dd (n + 1) * 1208925819614629174706176 * lwD ds) := by grind
      omega
    have := ser_inv dd t u ht hu0 hu1 hu2 n v1 (dd (n + 1) :: ds) (fun m h1 h2 => hdd m h1 (by omega)) hp' ⟨b2 (by omega), b1⟩ (by rw [ew, eD]; omega)
    rw [show serS dd u (n + 1) (v, false) = serS dd u n (stepS u (dd (n + 1)) (v, false)) from rfl, e1]
    exact this
end Go.Proofs.YtmhcfkcpoecokaaDoor
namespace Go.Proofs.YtmhcfkcpoecokaaDoor

def dsS : List Int := dsOf (fun m => dSin (m + 1)) 9 []
def dsC : List Int := dsOf (fun m => dCos (m + 1)) 9 []
/-- The sine's and the cosine's polynomials, both times kk. -/
def lS : List Int := 0 :: inter (lw (6 :: dsS))
def lC : List Int := pscale (21 * 1099511627776) (inter (lw (2 :: dsC)))
def kk : Int := 1099511627776 * lwD (6 :: dsS)
def pS (x : Int) : Int := evp lS x
def pC (x : Int) : Int := evp lC x
theorem kk_pos : 0 < kk := by decide +kernel
theorem kk_cos : kk = 21 * 1099511627776 * lwD (2 :: dsC) := by decide +kernel
theorem pS_eq (x : Int) : pS x = x * evp (lw (6 :: dsS)) (x * x) := by
  unfold pS lS
  simp only [evp]
  rw [evp_inter]
  omega
theorem pC_eq (x : Int) : pC x = 21 * 1099511627776 * evp (lw (2 :: dsC)) (x * x) := by
  unfold pC lC
  rw [evp_scale, evp_inter]
theorem pS_neg (x : Int) : pS (-x) = -pS x := by rw [pS_eq, pS_eq, Int.neg_mul_neg, Int.neg_mul]
theorem pC_neg (x : Int) : pC (-x) = pC x := by rw [pC_eq, pC_eq, Int.neg_mul_neg]
theorem pC_zero : pC 0 = kk := by decide +kernel

theorem dSin_up (m : Int) (h : 1 ≤ m) (h2 : m ≤ 9) : 12 ≤ dSin (m + 1) ∧ dSin (m + 1) ≤ 1000 := by
  have : m = 1 ∨ m = 2 ∨ m = 3 ∨ m = 4 ∨ m = 5 ∨ m = 6 ∨ m = 7 ∨ m = 8 ∨ m = 9 := by omega
  rcases this with rfl | rfl | rfl | rfl | rfl | rfl | rfl | rfl | rfl <;> decide
theorem dCos_up (m : Int) (h : 1 ≤ m) (h2 : m ≤ 9) : 12 ≤ dCos (m + 1) ∧ dCos (m + 1) ≤ 1000 := by
  have : m = 1 ∨ m = 2 ∨ m = 3 ∨ m = 4 ∨ m = 5 ∨ m = 6 ∨ m = 7 ∨ m = 8 ∨ m = 9 := by omega
  rcases this with rfl | rfl | rfl | rfl | rfl | rfl | rfl | rfl | rfl <;> decide

/-- A cosine, of 0 up to h: within 3 of its last bits. -/
theorem cos_near (t : Int) (ht : 0 ≤ t ∧ t ≤ 1727108826179) :
    ∃ c, cosS false t = (c, false) ∧ -1099511627776 ≤ c ∧ c ≤ 1099511627776 ∧ -(3 * kk) ≤ c * kk - 1099511627776 * pC t ∧ c * kk - 1099511627776 * pC t ≤ 3 * kk := by
  obtain ⟨u, eu, u1, u2, u3⟩ := mulS_small t t (by omega) (by omega)
  have u0 := u3 (Int.mul_nonneg ht.1 ht.1)
  obtain ⟨v, ev, v0, v1, vp, c1, c2⟩ := ser_inv (fun m => dCos (m + 1)) t u ht u0 u1 u2 9 1099511627776 [] dCos_up (by simp) (by decide) (by simp only [lwD, lw, evp]; omega)
  have hp := lwD_pos _ vp
  obtain ⟨c, ec, b1, _, b2, d1, d2⟩ := ser_step t u v 2 _ _ ht u0 u1 u2 ⟨v0, v1⟩ (by decide) hp ⟨c1, c2⟩
  have ew := lw_step 2 dsC (t * t)
  have eD : lwD (2 :: dsC) = 2 * 1208925819614629174706176 * lwD dsC := rfl
  refine ⟨c, ?_, b2, b1, ?_⟩
  · unfold cosS
    rw [eu]
    show serS dCos u (9 + 1) (1099511627776, false) = _
    rw [serS_last, ev]
    exact ec
  · rw [pC_eq, ew, kk_cos, eD]
    have hp2 : 0 < lwD dsC := hp
    have d1' : -((7 + 2) * (1208925819614629174706176 * lwD dsC)) ≤ 2 * (c * (2 * 1208925819614629174706176 * lwD dsC) - 1099511627776 * (2 * 1208925819614629174706176 * lwD dsC - t * t * evp (lw dsC) (t * t))) := d1
    have d2' : 2 * (c * (2 * 1208925819614629174706176 * lwD dsC) - 1099511627776 * (2 * 1208925819614629174706176 * lwD dsC - t * t * evp (lw dsC) (t * t))) ≤ (7 + 2) * (1208925819614629174706176 * lwD dsC) := d2
    have e : c * (21 * 1099511627776 * (2 * 1208925819614629174706176 * lwD dsC)) - 1099511627776 * (21 * 1099511627776 * (2 * 1208925819614629174706176 * lwD dsC - t * t * evp (lw dsC) (t * t))) = 21 * 1099511627776 * (c * (2 * 1208925819614629174706176 * lwD dsC) - 1099511627776 * (2 * 1208925819614629174706176 * lwD dsC - t * t * evp (lw dsC) (t * t))) := by grind
    rw [e]
    generalize c * (2 * 1208925819614629174706176 * lwD dsC) - 1099511627776 * (2 * 1208925819614629174706176 * lwD dsC - t * t * evp (lw dsC) (t * t)) = z at *
    generalize lwD dsC = D at *
    omega
/-- A sine, of 0 up to h. -/
theorem sin_near (t : Int) (ht : 0 ≤ t ∧ t ≤ 1727108826179) :
    ∃ s, sinS false t = (s, false) ∧ 0 ≤ s ∧ s ≤ 1727108826179 ∧ -(3 * kk) ≤ s * kk - 1099511627776 * pS t ∧ s * kk - 1099511627776 * pS t ≤ 3 * kk := by
  obtain ⟨u, eu, u1, u2, u3⟩ := mulS_small t t (by omega) (by omega)
  have u0 := u3 (Int.mul_nonneg ht.1 ht.1)
  obtain ⟨v, ev, v0, v1, vp, c1, c2⟩ := ser_inv (fun m => dSin (m + 1)) t u ht u0 u1 u2 9 1099511627776 [] dSin_up (by simp) (by decide) (by simp only [lwD, lw, evp]; omega)
  have hp := lwD_pos _ vp
  obtain ⟨c, ec, b1, b0, b2, d1, d2⟩ := ser_step t u v 6 _ _ ht u0 u1 u2 ⟨v0, v1⟩ (by decide) hp ⟨c1, c2⟩
  have c0 := b0 (by decide)
  obtain ⟨s, es, s1, s2, s3⟩ := mulS_small t c (by omega) (by omega)
  have tc0 := Int.mul_nonneg ht.1 c0
  have tc1 : t * c ≤ 1727108826179 * 1099511627776 := Int.mul_le_mul ht.2 b1 c0 (by decide)
  have ew := lw_step 6 dsS (t * t)
  have eD : lwD (6 :: dsS) = 6 * 1208925819614629174706176 * lwD dsS := rfl
  refine ⟨s, ?_, s3 tc0, by omega, ?_⟩
  · have hv : sinV false t = (c, false) := by
      unfold sinV
      rw [eu]
      show serS dSin u (9 + 1) (1099511627776, false) = _
      rw [serS_last, ev]
      exact ec
    unfold sinS
    rw [hv]
    exact es
  · rw [pS_eq, ew, show kk = 1099511627776 * lwD (6 :: dsS) from rfl, eD]
    have hp2 : 0 < lwD dsS := hp
    have d1' : -((7 + 6) * (1208925819614629174706176 * lwD dsS)) ≤ 2 * (c * (6 * 1208925819614629174706176 * lwD dsS) - 1099511627776 * (6 * 1208925819614629174706176 * lwD dsS - t * t * evp (lw dsS) (t * t))) := d1
    have d2' : 2 * (c * (6 * 1208925819614629174706176 * lwD dsS) - 1099511627776 * (6 * 1208925819614629174706176 * lwD dsS - t * t * evp (lw dsS) (t * t))) ≤ (7 + 6) * (1208925819614629174706176 * lwD dsS) := d2
    have e : s * (1099511627776 * (6 * 1208925819614629174706176 * lwD dsS)) - 1099511627776 * (t * (6 * 1208925819614629174706176 * lwD dsS - t * t * evp (lw dsS) (t * t)))
        = (s * 1099511627776 - t * c) * (6 * 1208925819614629174706176 * lwD dsS) + t * (c * (6 * 1208925819614629174706176 * lwD dsS) - 1099511627776 * (6 * 1208925819614629174706176 * lwD dsS - t * t * evp (lw dsS) (t * t))) := by grind
    rw [e]
    generalize c * (6 * 1208925819614629174706176 * lwD dsS) - 1099511627776 * (6 * 1208925819614629174706176 * lwD dsS - t * t * evp (lw dsS) (t * t)) = z at *
    generalize lwD dsS = D at *
    have q1 := mulbd (x := s * 1099511627776 - t * c) (y := 6 * 1208925819614629174706176 * D) (a := 549755813888) (b := 6 * 1208925819614629174706176 * D) (by omega) (by omega)
    have q2 := mulbd (x := t) (y := 2 * z) (a := 1727108826179) (b := 13 * (1208925819614629174706176 * D)) (by omega) (by omega)
    have r : t * (2 * z) = 2 * (t * z) := by grind
    rw [r] at q2
    generalize t * z = tz at *
    generalize (s * 1099511627776 - t * c) * (6 * 1208925819614629174706176 * D) = sd at *
    omega

/-! ### The sine and the cosine of a sum -/
def rS : List (List Int) := padd2 (pscale2 kk (comp lS)) (pscale2 (-1) (padd2 (outer lS lC) (outer lC lS)))
def rC : List (List Int) := padd2 (pscale2 kk (comp lC)) (padd2 (pscale2 (-1) (outer lC lC)) (outer lS lS))
theorem rS_eq (x y : Int) : ev2 rS x y = pS (x + y) * kk - (pS x * pC y + pC x * pS y) := by
  unfold rS
  rw [ev2_padd2, ev2_scale2, ev2_scale2, ev2_padd2, ev2_outer, ev2_outer, ev2_comp]
  unfold pS pC
  grind
theorem rC_eq (x y : Int) : ev2 rC x y = pC (x + y) * kk - (pC x * pC y - pS x * pS y) := by
  unfold rC
  rw [ev2_padd2, ev2_padd2, ev2_scale2, ev2_scale2, ev2_outer, ev2_outer, ev2_comp]
  unfold pS pC
  grind
theorem rS_small : ev2 (absl2 rS) 1727108826179 1727108826179 * 1099511627776 ≤ 12 * (kk * kk) := by decide +kernel
theorem rC_small : ev2 (absl2 rC) 1727108826179 1727108826179 * 1099511627776 ≤ 87 * (kk * kk) := by decide +kernel
theorem pS_h : -kk ≤ (pS 1727108826179 - kk) * 1099511627776 ∧ (pS 1727108826179 - kk) * 1099511627776 ≤ kk := by decide +kernel
theorem pC_h : -kk ≤ pC 1727108826179 * 1099511627776 ∧ pC 1727108826179 * 1099511627776 ≤ kk := by decide +kernel
theorem pS_abs : evp (absl lS) 1727108826179 ≤ 3 * kk := by decide +kernel
theorem pC_abs : evp (absl lC) 1727108826179 ≤ 3 * kk := by decide +kernel
theorem pS_bd (x : Int) (h : -1727108826179 ≤ x ∧ x ≤ 1727108826179) : -(3 * kk) ≤ pS x ∧ pS x ≤ 3 * kk := by
  have := evp_abs lS x 1727108826179 h
  have k := pS_abs
  unfold pS
  omega
theorem pC_bd (x : Int) (h : -1727108826179 ≤ x ∧ x ≤ 1727108826179) : -(3 * kk) ≤ pC x ∧ pC x ≤ 3 * kk := by
  have := evp_abs lC x 1727108826179 h
  have k := pC_abs
  unfold pC
  omega
theorem sum_S (x y : Int) (hx : -1727108826179 ≤ x ∧ x ≤ 1727108826179) (hy : -1727108826179 ≤ y ∧ y ≤ 1727108826179) :
    -(12 * (kk * kk)) ≤ (pS (x + y) * kk - (pS x * pC y + pC x * pS y)) * 1099511627776 ∧ (pS (x + y) * kk - (pS x * pC y + pC x * pS y)) * 1099511627776 ≤ 12 * (kk * kk) := by
  have := ev2_abs rS x y 1727108826179 1727108826179 hx hy
  have k := rS_small
  rw [rS_eq] at this
  omega
theorem sum_C (x y : Int) (hx : -1727108826179 ≤ x ∧ x ≤ 1727108826179) (hy : -1727108826179 ≤ y ∧ y ≤ 1727108826179) :
    -(87 * (kk * kk)) ≤ (pC (x + y) * kk - (pC x * pC y - pS x * pS y)) * 1099511627776 ∧ (pC (x + y) * kk - (pC x * pC y - pS x * pS y)) * 1099511627776 ≤ 87 * (kk * kk) := by
  have := ev2_abs rC x y 1727108826179 1727108826179 hx hy
  have k := rC_small
  rw [rC_eq] at this
  omega
end Go.Proofs.YtmhcfkcpoecokaaDoor
namespace Go.Proofs.YtmhcfkcpoecokaaDoor

/-- A number S that is within 3 last bits of P / K. -/
structure Nr (K S P : Int) : Prop where
  lo : -(3 * K) ≤ S * K - 1099511627776 * P
  hi : S * K - 1099511627776 * P ≤ 3 * K
  bl : -2199023255552 ≤ S
  bh : S ≤ 2199023255552
theorem Nr.neg {K S P : Int} (h : Nr K S P) : Nr K (-S) (-P) := by
  have h1 := h.lo
  have h2 := h.hi
  have h3 := h.bl
  have h4 := h.bh
  constructor
  · rw [Int.neg_mul]; omega
  · rw [Int.neg_mul]; omega
  · omega
  · omega
theorem prod_near {K S C P Q : Int} (hK : 0 < K) (hS : Nr K S P) (hC : Nr K C Q) :
    -(13194139533321 * (K * K)) ≤ 1208925819614629174706176 * (P * Q) - K * K * (S * C) ∧ 1208925819614629174706176 * (P * Q) - K * K * (S * C) ≤ 13194139533321 * (K * K) := by
  obtain ⟨a1, a2, a3, a4⟩ := hS
  obtain ⟨b1, b2, b3, b4⟩ := hC
  obtain ⟨e1, h1⟩ : ∃ e1, e1 = S * K - 1099511627776 * P := ⟨_, rfl⟩
  obtain ⟨e2, h2⟩ : ∃ e2, e2 = C * K - 1099511627776 * Q := ⟨_, rfl⟩
  have key : 1208925819614629174706176 * (P * Q) - K * K * (S * C) = e1 * e2 - S * e2 * K - C * e1 * K := by rw [h1, h2]; grind
  rw [key]
  have q0 := mulbd (x := e1) (y := e2) (a := 3 * K) (b := 3 * K) (by omega) (by omega)
  have q1 := mulbd (x := S) (y := e2) (a := 2199023255552) (b := 3 * K) (by omega) (by omega)
  have q2 := mulbd (x := S * e2) (y := K) (a := 2199023255552 * (3 * K)) (b := K) q1 (by omega)
  have q3 := mulbd (x := C) (y := e1) (a := 2199023255552) (b := 3 * K) (by omega) (by omega)
  have q4 := mulbd (x := C * e1) (y := K) (a := 2199023255552 * (3 * K)) (b := K) q3 (by omega)
  have r0 : 3 * K * (3 * K) = 9 * (K * K) := by grind
  have r1 : 2199023255552 * (3 * K) * K = 6597069766656 * (K * K) := by grind
  rw [r0] at q0
  rw [r1] at q2 q4
  omega
theorem le_of_KK {K A B : Int} (hK : 0 < K) (h : A * (K * K) ≤ B * (K * K)) : A ≤ B :=
  Int.le_of_mul_le_mul_right h (Int.mul_pos hK hK)
/-- A sum of two products. -/
theorem sum_near {K S1 C1 S2 C2 S3 P1 Q1 P2 Q2 P3 r : Int} (hK : 0 < K) (h1 : Nr K S1 P1) (k1 : Nr K C1 Q1) (h2 : Nr K S2 P2) (k2 : Nr K C2 Q2) (h3 : Nr K S3 P3)
    (hr : -(r * (K * K)) ≤ (P3 * K - (P1 * Q2 + Q1 * P2)) * 1099511627776 ∧ (P3 * K - (P1 * Q2 + Q1 * P2)) * 1099511627776 ≤ r * (K * K)) :
    -((27 + r) * 1099511627776 + 18) ≤ 1099511627776 * S3 - (S1 * C2 + C1 * S2) ∧ 1099511627776 * S3 - (S1 * C2 + C1 * S2) ≤ (27 + r) * 1099511627776 + 18 := by
  have p1 := prod_near hK h1 k2
  have p2 := prod_near hK k1 h2
  obtain ⟨a1, a2, _, _⟩ := h3
  obtain ⟨e3, he⟩ : ∃ e3, e3 = S3 * K - 1099511627776 * P3 := ⟨_, rfl⟩
  have q := mulbd (x := e3) (y := K) (a := 3 * K) (b := K) (by omega) (by omega)
  have r0 : 3 * K * K = 3 * (K * K) := by grind
  rw [r0] at q
  have key : (1099511627776 * S3 - (S1 * C2 + C1 * S2)) * (K * K) = 1099511627776 * (e3 * K) + 1099511627776 * ((P3 * K - (P1 * Q2 + Q1 * P2)) * 1099511627776) + (1208925819614629174706176 * (P1 * Q2) - K * K * (S1 * C2)) + (1208925819614629174706176 * (Q1 * P2) - K * K * (C1 * S2)) := by rw [he]; grind
  have kb : ((27 + r) * 1099511627776 + 18) * (K * K) = 29686813949970 * (K * K) + 1099511627776 * (r * (K * K)) := by grind
  generalize (P3 * K - (P1 * Q2 + Q1 * P2)) * 1099511627776 = z at *
  generalize e3 * K = z3 at *
  generalize 1208925819614629174706176 * (P1 * Q2) - K * K * (S1 * C2) = z1 at *
  generalize 1208925819614629174706176 * (Q1 * P2) - K * K * (C1 * S2) = z2 at *
  constructor
  · refine le_of_KK hK ?_
    rw [key, Int.neg_mul, kb]
    omega
  · refine le_of_KK hK ?_
    rw [key, kb]
    omega
theorem sin_nr (t : Int) (ht : 0 ≤ t ∧ t ≤ 1727108826179) : ∃ s, sinS false t = (s, false) ∧ Nr kk s (pS t) := by
  obtain ⟨s, e, h1, h2, h3, h4⟩ := sin_near t ht
  exact ⟨s, e, h3, h4, by omega, by omega⟩
theorem cos_nr (t : Int) (ht : 0 ≤ t ∧ t ≤ 1727108826179) : ∃ s, cosS false t = (s, false) ∧ Nr kk s (pC t) := by
  obtain ⟨s, e, h1, h2, h3, h4⟩ := cos_near t ht
  exact ⟨s, e, h3, h4, by omega, by omega⟩
/-- The squares together. -/
theorem one_near {t S C : Int} (ht : 0 ≤ t ∧ t ≤ 1727108826179) (hS : Nr kk S (pS t)) (hC : Nr kk C (pC t)) :
    -(111 * 1099511627776 + 18) ≤ 1208925819614629174706176 - (S * S + C * C) ∧ 1208925819614629174706176 - (S * S + C * C) ≤ 111 * 1099511627776 + 18 := by
  have e := sum_C t (-t) (by omega) (by omega)
  rw [show t + -t = 0 by omega, pC_zero, pC_neg, pS_neg] at e
  have p1 := prod_near kk_pos hS hS
  have p2 := prod_near kk_pos hC hC
  have kp := kk_pos
  generalize pS t = P at *
  generalize pC t = Q at *
  generalize kk = K at *
  have key : (1208925819614629174706176 - (S * S + C * C)) * (K * K) = 1099511627776 * ((K * K - (Q * Q - P * -P)) * 1099511627776) + (1208925819614629174706176 * (P * P) - K * K * (S * S)) + (1208925819614629174706176 * (Q * Q) - K * K * (C * C)) := by grind
  generalize (K * K - (Q * Q - P * -P)) * 1099511627776 = z at *
  generalize 1208925819614629174706176 * (P * P) - K * K * (S * S) = z1 at *
  generalize 1208925819614629174706176 * (Q * Q) - K * K * (C * C) = z2 at *
  constructor
  · refine le_of_KK kp ?_
    rw [key, Int.neg_mul]
    omega
  · refine le_of_KK kp ?_
    rw [key]
    omega

/-! ### A sum of angles within one quarter, and beyond it -/
theorem core1 {x y S1 C1 S2 C2 S3 C3 : Int} (hx : 0 ≤ x ∧ x ≤ 1727108826179) (hy : 0 ≤ y ∧ y ≤ 1727108826179)
    (h1 : Nr kk S1 (pS x)) (k1 : Nr kk C1 (pC x)) (h2 : Nr kk S2 (pS y)) (k2 : Nr kk C2 (pC y)) (h3 : Nr kk S3 (pS (x + y))) (k3 : Nr kk C3 (pC (x + y))) :
    (-274877906944000 ≤ 1099511627776 * S3 - (S1 * C2 + C1 * S2) ∧ 1099511627776 * S3 - (S1 * C2 + C1 * S2) ≤ 274877906944000) ∧
    (-274877906944000 ≤ 1099511627776 * C3 - (C1 * C2 - S1 * S2) ∧ 1099511627776 * C3 - (C1 * C2 - S1 * S2) ≤ 274877906944000) := by
  have a := sum_near (r := 12) kk_pos h1 k1 h2 k2 h3 (sum_S x y (by omega) (by omega))
  have b := sum_near (r := 87) kk_pos k1 h1.neg h2 k2 k3 (by
    have e := sum_C x y (by omega) (by omega)
    rw [show pC x * pC y - pS x * pS y = pC x * pC y + -pS x * pS y by grind] at e
    exact e)
  rw [show C1 * C2 + -S1 * S2 = C1 * C2 - S1 * S2 by grind] at b
  constructor <;> omega
theorem beyond (x y z : Int) (hz : 0 ≤ z ∧ z ≤ 1727108826179) (hx : 0 ≤ x ∧ x ≤ 1727108826179) (hy : 0 ≤ y ∧ y ≤ 1727108826179) (e : x + y = z + 1727108826179) :
    (-(30 * (kk * kk)) ≤ (pC z * kk - (pS x * pC y + pC x * pS y)) * 1099511627776 ∧ (pC z * kk - (pS x * pC y + pC x * pS y)) * 1099511627776 ≤ 30 * (kk * kk)) ∧
    (-(180 * (kk * kk)) ≤ (-pS z * kk - (pC x * pC y + -pS x * pS y)) * 1099511627776 ∧ (-pS z * kk - (pC x * pC y + -pS x * pS y)) * 1099511627776 ≤ 180 * (kk * kk)) := by
  have a1 := sum_S x y (by omega) (by omega)
  have a2 := sum_S z 1727108826179 (by omega) (by omega)
  have b1 := sum_C x y (by omega) (by omega)
  have b2 := sum_C z 1727108826179 (by omega) (by omega)
  rw [e] at a1 b1
  have c1 := pS_bd z (by omega)
  have c2 := pC_bd z (by omega)
  have d1 := pS_h
  have d2 := pC_h
  have f1 := mulbd (x := pS z) (y := pC 1727108826179 * 1099511627776) (a := 3 * kk) (b := kk) c1 d2
  have f2 := mulbd (x := pC z) (y := (pS 1727108826179 - kk) * 1099511627776) (a := 3 * kk) (b := kk) c2 d1
  have f3 := mulbd (x := pC z) (y := pC 1727108826179 * 1099511627776) (a := 3 * kk) (b := kk) c2 d2
  have f4 := mulbd (x := pS z) (y := (pS 1727108826179 - kk) * 1099511627776) (a := 3 * kk) (b := kk) c1 d1
  have r0 : 3 * kk * kk = 3 * (kk * kk) := by grind
  rw [r0] at f1 f2 f3 f4
  clear c1 c2 d1 d2 r0
  generalize pS (z + 1727108826179) = Ph at *
  generalize pC (z + 1727108826179) = Qh at *
  generalize pS 1727108826179 = sh at *
  generalize pC 1727108826179 = ch at *
  generalize pS x = P1 at *
  generalize pC x = Q1 at *
  generalize pS y = P2 at *
  generalize pC y = Q2 at *
  generalize pS z = P3 at *
  generalize pC z = Q3 at *
  generalize kk = K at *
  have g1 : (Q3 * K - (P1 * Q2 + Q1 * P2)) * 1099511627776 = (Ph * K - (P1 * Q2 + Q1 * P2)) * 1099511627776 - (Ph * K - (P3 * ch + Q3 * sh)) * 1099511627776 - P3 * (ch * 1099511627776) - Q3 * ((sh - K) * 1099511627776) := by grind
  have g2 : (-P3 * K - (Q1 * Q2 + -P1 * P2)) * 1099511627776 = (Qh * K - (Q1 * Q2 - P1 * P2)) * 1099511627776 - (Qh * K - (Q3 * ch - P3 * sh)) * 1099511627776 - Q3 * (ch * 1099511627776) + P3 * ((sh - K) * 1099511627776) := by grind
  rw [g1, g2]
  constructor <;> omega
theorem core2 {x y z S1 C1 S2 C2 S3 C3 : Int} (hz : 0 ≤ z ∧ z ≤ 1727108826179) (hx : 0 ≤ x ∧ x ≤ 1727108826179) (hy : 0 ≤ y ∧ y ≤ 1727108826179) (e : x + y = z + 1727108826179)
    (h1 : Nr kk S1 (pS x)) (k1 : Nr kk C1 (pC x)) (h2 : Nr kk S2 (pS y)) (k2 : Nr kk C2 (pC y)) (h3 : Nr kk S3 (pS z)) (k3 : Nr kk C3 (pC z)) :
    (-274877906944000 ≤ 1099511627776 * C3 - (S1 * C2 + C1 * S2) ∧ 1099511627776 * C3 - (S1 * C2 + C1 * S2) ≤ 274877906944000) ∧
    (-274877906944000 ≤ 1099511627776 * -S3 - (C1 * C2 - S1 * S2) ∧ 1099511627776 * -S3 - (C1 * C2 - S1 * S2) ≤ 274877906944000) := by
  have bb := beyond x y z hz hx hy e
  have a := sum_near (r := 30) kk_pos h1 k1 h2 k2 k3 bb.1
  have b := sum_near (r := 180) kk_pos k1 h1.neg h2 k2 h3.neg bb.2
  rw [show C1 * C2 + -S1 * S2 = C1 * C2 - S1 * S2 by grind] at b
  constructor <;> omega

/-! ### Any angle -/
theorem badM_num {a : Int} (h : numB a = true) : badM false a = false := by
  unfold badM
  rw [modS_yes (by unfold tk; simp [h, show numB 6908435304716 = true by rfl]) (by decide)]
theorem rest4_num {a : Int} (h : numB a = true) : rest4 false a = a % 6908435304716 := by
  unfold rest4
  rw [modS_yes (by unfold tk; simp [h, show numB 6908435304716 = true by rfl]) (by decide)]
/-- What Sin and Cos answer in quarter k, of S and C. -/
def selS (k S C : Int) : Int := if k = 0 then S else if k = 1 then C else if k = 2 then -S else -C
def selC (k S C : Int) : Int := if k = 0 then C else if k = 1 then -S else if k = 2 then -C else S
theorem pick_sel {k t S C : Int} (hs : sinS false t = (S, false)) (hc : cosS false t = (C, false)) : pick k false t = (selS k S C, false) := by
  unfold pick selS
  rw [hs, hc]
  split
  · rfl
  · split
    · rfl
    · split <;> rfl
theorem selS_next (k S C : Int) (h : 0 ≤ k ∧ k ≤ 3) : selS (if k = 3 then 0 else k + 1) S C = selC k S C := by
  have : k = 0 ∨ k = 1 ∨ k = 2 ∨ k = 3 := by omega
  rcases this with rfl | rfl | rfl | rfl <;> rfl
/-- An angle's quarter, and what its sine and cosine are. -/
theorem angle (a : Int) (h : numB a = true) : ∃ k t S C, 0 ≤ k ∧ k ≤ 3 ∧ 0 ≤ t ∧ t < 1727108826179 ∧ a % 6908435304716 = k * 1727108826179 + t ∧ Nr kk S (pS t) ∧ Nr kk C (pC t) ∧ sinA false a = (selS k S C, false) ∧ cosA false a = (selC k S C, false) := by
  have q := quart_bd false a
  obtain ⟨S, es, ns⟩ := sin_nr (inq false a) (by omega)
  obtain ⟨C, ec, nc⟩ := cos_nr (inq false a) (by omega)
  refine ⟨quart false a, inq false a, S, C, q.1, q.2.1, q.2.2.1, q.2.2.2, ?_, ns, nc, ?_, ?_⟩
  · rw [← rest4_num h]; unfold inq; omega
  · unfold sinA; rw [badM_num h]; exact pick_sel es ec
  · unfold cosA; rw [badM_num h, pick_sel es ec, selS_next _ _ _ ⟨q.1, q.2.1⟩]
theorem sel_bd {k S C : Int} (s1 : -2199023255552 ≤ S ∧ S ≤ 2199023255552) (c1 : -2199023255552 ≤ C ∧ C ≤ 2199023255552) :
    (-2199023255552 ≤ selS k S C ∧ selS k S C ≤ 2199023255552) ∧ (-2199023255552 ≤ selC k S C ∧ selC k S C ≤ 2199023255552) := by
  unfold selS selC
  constructor
  · split
    · omega
    · split
      · omega
      · split <;> omega
  · split
    · omega
    · split
      · omega
      · split <;> omega
theorem sel_sq (k S C : Int) (h : 0 ≤ k ∧ k ≤ 3) : selS k S C * selS k S C + selC k S C * selC k S C = S * S + C * C := by
  have : k = 0 ∨ k = 1 ∨ k = 2 ∨ k = 3 := by omega
  rcases this with rfl | rfl | rfl | rfl
  · rfl
  · show C * C + -S * -S = _
    grind
  · show -S * -S + -C * -C = _
    grind
  · show -C * -C + S * S = _
    grind
/-- TrigOne, of numbers. -/
theorem one_math (a : Int) (h : numB a = true) : ∃ s c m1 m2, sinA false a = (s, false) ∧ cosA false a = (c, false) ∧ mulS false s s = (m1, false) ∧ mulS false c c = (m2, false) ∧ addS false m1 m2 = (m1 + m2, false) ∧
    m1 + m2 - 1099511627776 ≤ 256 ∧ 1099511627776 - (m1 + m2) ≤ 256 ∧ 0 ≤ m1 + m2 := by
  obtain ⟨k, t, S, C, k0, k1, t0, t1, _, nS, nC, es, ec⟩ := angle a h
  have b := sel_bd (k := k) (S := S) (C := C) ⟨nS.bl, nS.bh⟩ ⟨nC.bl, nC.bh⟩
  obtain ⟨m1, e1, p1, p2, p3⟩ := mulS_small (selS k S C) (selS k S C) (by omega) (by omega)
  obtain ⟨m2, e2, q1, q2, q3⟩ := mulS_small (selC k S C) (selC k S C) (by omega) (by omega)
  have o := one_near ⟨t0, by omega⟩ nS nC
  have sq := sel_sq k S C ⟨k0, k1⟩
  have g1 := p3 (by rw [← sz_sq]; exact Int.mul_nonneg (le_sz _).2.2 (le_sz _).2.2)
  have g2 := q3 (by rw [← sz_sq]; exact Int.mul_nonneg (le_sz _).2.2 (le_sz _).2.2)
  have f1 : m1 + m2 - 1099511627776 ≤ 256 := by omega
  have f2 : 1099511627776 - (m1 + m2) ≤ 256 := by omega
  exact ⟨_, _, m1, m2, es, ec, e1, e2, addS_good _ _ (numB_of (by omega)) (numB_of (by omega)) (numB_of (by omega)), f1, f2, by omega⟩
/-! ### A sum of any two angles -/
def mod4 (k : Int) : Int := if 4 ≤ k then k - 4 else k
theorem rot (ka kb S1 C1 S2 C2 : Int) (ha : 0 ≤ ka ∧ ka ≤ 3) (hb : 0 ≤ kb ∧ kb ≤ 3) :
    selS ka S1 C1 * selC kb S2 C2 + selC ka S1 C1 * selS kb S2 C2 = selS (mod4 (ka + kb)) (S1 * C2 + C1 * S2) (C1 * C2 - S1 * S2) ∧
    selC ka S1 C1 * selC kb S2 C2 - selS ka S1 C1 * selS kb S2 C2 = selC (mod4 (ka + kb)) (S1 * C2 + C1 * S2) (C1 * C2 - S1 * S2) := by
  have h1 : ka = 0 ∨ ka = 1 ∨ ka = 2 ∨ ka = 3 := by omega
  have h2 : kb = 0 ∨ kb = 1 ∨ kb = 2 ∨ kb = 3 := by omega
  rcases h1 with rfl | rfl | rfl | rfl <;> rcases h2 with rfl | rfl | rfl | rfl <;> simp [selS, selC, mod4] <;> grind
theorem sel_near {k S3 C3 A B : Int} (h1 : -274877906944000 ≤ 1099511627776 * S3 - A ∧ 1099511627776 * S3 - A ≤ 274877906944000) (h2 : -274877906944000 ≤ 1099511627776 * C3 - B ∧ 1099511627776 * C3 - B ≤ 274877906944000) :
    (-274877906944000 ≤ 1099511627776 * selS k S3 C3 - selS k A B ∧ 1099511627776 * selS k S3 C3 - selS k A B ≤ 274877906944000) ∧
    (-274877906944000 ≤ 1099511627776 * selC k S3 C3 - selC k A B ∧ 1099511627776 * selC k S3 C3 - selC k A B ≤ 274877906944000) := by
  unfold selS selC
  constructor
  · split
    · omega
    · split
      · omega
      · split <;> omega
  · split
    · omega
    · split
      · omega
      · split <;> omega
theorem sel_turn (k S C : Int) (h : 0 ≤ k ∧ k ≤ 3) : selS (mod4 (k + 1)) S C = selS k C (-S) ∧ selC (mod4 (k + 1)) S C = selC k C (-S) := by
  have h1 : k = 0 ∨ k = 1 ∨ k = 2 ∨ k = 3 := by omega
  rcases h1 with rfl | rfl | rfl | rfl <;> simp [selS, selC, mod4]
theorem sum_quart (a b ka kb k3 ta tb t3 : Int) (_ha : 0 ≤ ka ∧ ka ≤ 3) (_hb : 0 ≤ kb ∧ kb ≤ 3) (h3 : 0 ≤ k3 ∧ k3 ≤ 3) (hta : 0 ≤ ta ∧ ta < 1727108826179) (htb : 0 ≤ tb ∧ tb < 1727108826179) (ht3 : 0 ≤ t3 ∧ t3 < 1727108826179)
    (ea : a % 6908435304716 = ka * 1727108826179 + ta) (eb : b % 6908435304716 = kb * 1727108826179 + tb) (e3 : (a + b) % 6908435304716 = k3 * 1727108826179 + t3) :
    (ta + tb < 1727108826179 → t3 = ta + tb ∧ k3 = mod4 (ka + kb)) ∧ (1727108826179 ≤ ta + tb → ta + tb = t3 + 1727108826179 ∧ k3 = mod4 (mod4 (ka + kb) + 1)) := by
  unfold mod4
  constructor
  · intro h
    split <;> omega
  · intro h
    split <;> split <;> omega
/-- The sine and the cosine of a sum are near what the parts say. -/
theorem sum_any (a b : Int) (ha : numB a = true) (hb : numB b = true) (hab : numB (a + b) = true) : ∃ s c t d x y, sinA false a = (s, false) ∧ cosA false a = (c, false) ∧ sinA false b = (t, false) ∧ cosA false b = (d, false) ∧ sinA false (a + b) = (x, false) ∧ cosA false (a + b) = (y, false) ∧
    (-274877906944000 ≤ 1099511627776 * x - (s * d + c * t) ∧ 1099511627776 * x - (s * d + c * t) ≤ 274877906944000) ∧ (-274877906944000 ≤ 1099511627776 * y - (c * d - s * t) ∧ 1099511627776 * y - (c * d - s * t) ≤ 274877906944000) ∧
    (-2199023255552 ≤ s ∧ s ≤ 2199023255552) ∧ (-2199023255552 ≤ c ∧ c ≤ 2199023255552) ∧ (-2199023255552 ≤ t ∧ t ≤ 2199023255552) ∧ (-2199023255552 ≤ d ∧ d ≤ 2199023255552) ∧ (-2199023255552 ≤ x ∧ x ≤ 2199023255552) ∧ (-2199023255552 ≤ y ∧ y ≤ 2199023255552) := by
  obtain ⟨ka, ta, S1, C1, a1, a2, a3, a4, ea, n1, m1, f1, g1⟩ := angle a ha
  obtain ⟨kb, tb, S2, C2, b1, b2, b3, b4, eb, n2, m2, f2, g2⟩ := angle b hb
  obtain ⟨k3, t3, S3, C3, c1, c2, c3, c4, e3, n3, m3, f3, g3⟩ := angle (a + b) hab
  have sq := sum_quart a b ka kb k3 ta tb t3 ⟨a1, a2⟩ ⟨b1, b2⟩ ⟨c1, c2⟩ ⟨a3, a4⟩ ⟨b3, b4⟩ ⟨c3, c4⟩ ea eb e3
  have ro := rot ka kb S1 C1 S2 C2 ⟨a1, a2⟩ ⟨b1, b2⟩
  have r1 := sel_bd (k := ka) (S := S1) (C := C1) ⟨n1.bl, n1.bh⟩ ⟨m1.bl, m1.bh⟩
  have r2 := sel_bd (k := kb) (S := S2) (C := C2) ⟨n2.bl, n2.bh⟩ ⟨m2.bl, m2.bh⟩
  have r3 := sel_bd (k := k3) (S := S3) (C := C3) ⟨n3.bl, n3.bh⟩ ⟨m3.bl, m3.bh⟩
  refine ⟨_, _, _, _, _, _, f1, g1, f2, g2, f3, g3, ?_, ?_, r1.1, r1.2, r2.1, r2.2, r3.1, r3.2⟩
  · rw [ro.1]
    by_cases h : ta + tb < 1727108826179
    · obtain ⟨rfl, rfl⟩ := sq.1 h
      have cc := core1 ⟨a3, by omega⟩ ⟨b3, by omega⟩ n1 m1 n2 m2 n3 m3
      exact (sel_near cc.1 cc.2).1
    · obtain ⟨e, rfl⟩ := sq.2 (by omega)
      have cc := core2 ⟨c3, by omega⟩ ⟨a3, by omega⟩ ⟨b3, by omega⟩ e n1 m1 n2 m2 n3 m3
      rw [(sel_turn (mod4 (ka + kb)) S3 C3 (by unfold mod4; split <;> omega)).1]
      exact (sel_near cc.1 cc.2).1
  · rw [ro.2]
    by_cases h : ta + tb < 1727108826179
    · obtain ⟨rfl, rfl⟩ := sq.1 h
      have cc := core1 ⟨a3, by omega⟩ ⟨b3, by omega⟩ n1 m1 n2 m2 n3 m3
      exact (sel_near cc.1 cc.2).2
    · obtain ⟨e, rfl⟩ := sq.2 (by omega)
      have cc := core2 ⟨c3, by omega⟩ ⟨a3, by omega⟩ ⟨b3, by omega⟩ e n1 m1 n2 m2 n3 m3
      rw [(sel_turn (mod4 (ka + kb)) S3 C3 (by unfold mod4; split <;> omega)).2]
      exact (sel_near cc.1 cc.2).2
/-- TrigSums, of angles of up to 16. -/
theorem sums_math (a b : Int) (ha : -17592186044416 ≤ a ∧ a ≤ 17592186044416) (hb : -17592186044416 ≤ b ∧ b ≤ 17592186044416) :
    ∃ s c t d x y m1 m2 m3 m4, sinA false a = (s, false) ∧ cosA false a = (c, false) ∧ sinA false b = (t, false) ∧ cosA false b = (d, false) ∧ sinA false (a + b) = (x, false) ∧ cosA false (a + b) = (y, false) ∧
      mulS false s d = (m1, false) ∧ mulS false c t = (m2, false) ∧ addS false m1 m2 = (m1 + m2, false) ∧ mulS false c d = (m3, false) ∧ mulS false s t = (m4, false) ∧ subS false m3 m4 = (m3 - m4, false) ∧
      x - (m1 + m2) ≤ 256 ∧ (m1 + m2) - x ≤ 256 ∧ y - (m3 - m4) ≤ 256 ∧ (m3 - m4) - y ≤ 256 ∧ (-2199023255552 ≤ x ∧ x ≤ 2199023255552) ∧ (-2199023255552 ≤ y ∧ y ≤ 2199023255552) := by
  obtain ⟨s, c, t, d, x, y, e1, e2, e3, e4, e5, e6, h1, h2, bs, bc, bt, bd, bx, bb⟩ := sum_any a b (numB_of (by omega)) (numB_of (by omega)) (numB_of (by omega))
  obtain ⟨m1, f1, p1, p2, _⟩ := mulS_small s d (by omega) (by omega)
  obtain ⟨m2, f2, q1, q2, _⟩ := mulS_small c t (by omega) (by omega)
  obtain ⟨m3, f3, r1, r2, _⟩ := mulS_small c d (by omega) (by omega)
  obtain ⟨m4, f4, u1, u2, _⟩ := mulS_small s t (by omega) (by omega)
  have z1 := mulbd (x := s) (y := d) (a := 2199023255552) (b := 2199023255552) bs bd
  have z2 := mulbd (x := c) (y := t) (a := 2199023255552) (b := 2199023255552) bc bt
  have z3 := mulbd (x := c) (y := d) (a := 2199023255552) (b := 2199023255552) bc bd
  have z4 := mulbd (x := s) (y := t) (a := 2199023255552) (b := 2199023255552) bs bt
  refine ⟨s, c, t, d, x, y, m1, m2, m3, m4, e1, e2, e3, e4, e5, e6, f1, f2, addS_good _ _ (numB_of (by omega)) (numB_of (by omega)) (numB_of (by omega)), f3, f4, subS_good _ _ (numB_of (by omega)) (numB_of (by omega)) (numB_of (by omega)), by omega, by omega, by omega, by omega, bx, bb⟩
end Go.Proofs.YtmhcfkcpoecokaaDoor
namespace Go.Proofs.YtmhcfkcpoecokaaDoor

def lS3 : List Int := lS.drop 3
def lC2 : List Int := lC.drop 2
def kl : Int := lwD (6 :: dsS)
theorem kk_kl : kk = 1099511627776 * kl := rfl
theorem lS_cut : lS = 0 :: kl :: 0 :: lS3 := by decide +kernel
theorem lC_cut : lC = kk :: 0 :: lC2 := by decide +kernel
theorem small_M : 6646139978924579364519035301401722880 * evp (absl lS3) 274877906944 ≤ kk := by decide +kernel
theorem small_N : 120892581961462917470617600 * evp (absl lC2) 274877906944 ≤ 51 * kk := by decide +kernel
theorem pS_cut (x : Int) : pS x = kl * x + x * x * x * evp lS3 x := by
  unfold pS
  rw [lS_cut]
  simp only [evp]
  grind
theorem pC_cut (x : Int) : pC x = kk + x * x * evp lC2 x := by
  unfold pC
  rw [lC_cut]
  simp only [evp]
  grind
theorem small_S {x X : Int} (h : Ab x X) (hX : X ≤ 274877906944) : Ab (6044629098073145873530880 * (1099511627776 * pS x - kk * x)) (kk * (X * X * X)) := by
  have hb := evp_abs lS3 x 274877906944 (by have := h.lo; have := h.hi; omega)
  have hE : Ab (evp lS3 x) (evp (absl lS3) 274877906944) := ⟨hb.1, hb.2⟩
  have h3 := ((h.mul h).mul h).mul hE
  have X0 : 0 ≤ X := by have := h.lo; have := h.hi; omega
  have XX := Int.mul_nonneg (Int.mul_nonneg X0 X0) X0
  have le := Int.mul_le_mul_of_nonneg_left small_M XX
  have e : 6044629098073145873530880 * (1099511627776 * pS x - kk * x) = 6646139978924579364519035301401722880 * (x * x * x * evp lS3 x) := by
    rw [pS_cut, kk_kl]
    grind
  have e2 : X * X * X * (6646139978924579364519035301401722880 * evp (absl lS3) 274877906944) = 6646139978924579364519035301401722880 * (X * X * X * evp (absl lS3) 274877906944) := by grind
  have e3 : X * X * X * kk = kk * (X * X * X) := Int.mul_comm _ _
  rw [e2, e3] at le
  rw [e]
  have l := h3.lo
  have u := h3.hi
  generalize x * x * x * evp lS3 x = A at l u ⊢
  generalize X * X * X * evp (absl lS3) 274877906944 = B at l u le
  generalize kk * (X * X * X) = C at le ⊢
  exact ⟨by omega, by omega⟩
theorem small_C {x X : Int} (h : Ab x X) (hX : X ≤ 274877906944) : Ab (120892581961462917470617600 * (pC x - kk)) (51 * (kk * (X * X))) := by
  have hb := evp_abs lC2 x 274877906944 (by have := h.lo; have := h.hi; omega)
  have hE : Ab (evp lC2 x) (evp (absl lC2) 274877906944) := ⟨hb.1, hb.2⟩
  have h3 := (h.mul h).mul hE
  have X0 : 0 ≤ X := by have := h.lo; have := h.hi; omega
  have XX := Int.mul_nonneg X0 X0
  have le := Int.mul_le_mul_of_nonneg_left small_N XX
  have e : 120892581961462917470617600 * (pC x - kk) = 120892581961462917470617600 * (x * x * evp lC2 x) := by rw [pC_cut]; grind
  have e2 : X * X * (120892581961462917470617600 * evp (absl lC2) 274877906944) = 120892581961462917470617600 * (X * X * evp (absl lC2) 274877906944) := by grind
  have e3 : X * X * (51 * kk) = 51 * (kk * (X * X)) := by grind
  rw [e2, e3] at le
  rw [e]
  have l := h3.lo
  have u := h3.hi
  generalize x * x * evp lC2 x = A at l u ⊢
  generalize X * X * evp (absl lC2) 274877906944 = B at l u le
  generalize kk * (X * X) = C at le ⊢
  exact ⟨by omega, by omega⟩
theorem kk_can {A B : Int} (h : A * kk ≤ B * kk) : A ≤ B := Int.le_of_mul_le_mul_right h kk_pos
/-- By how much pS and pC are off x and 1. -/
theorem small_T {x X T D : Int} (h : Ab x X) (hX : X ≤ 274877906944) (hT : X * X * X ≤ 6044629098073145873530880 * T) (hD : 51 * (X * X) ≤ 109951162777600 * D) :
    Ab (1099511627776 * pS x - kk * x) (kk * T) ∧ Ab (1099511627776 * (pC x - kk)) (kk * D) := by
  have s := small_S h hX
  have c := small_C h hX
  have k0 : 0 ≤ kk := Int.le_of_lt kk_pos
  have t1 := Int.mul_le_mul_of_nonneg_left hT k0
  have d1 := Int.mul_le_mul_of_nonneg_left hD k0
  have e1 : kk * (6044629098073145873530880 * T) = 6044629098073145873530880 * (kk * T) := by grind
  have e2 : kk * (109951162777600 * D) = 109951162777600 * (kk * D) := by grind
  have e3 : kk * (51 * (X * X)) = 51 * (kk * (X * X)) := by grind
  rw [e1] at t1
  rw [e2, e3] at d1
  have s1 := s.lo; have s2 := s.hi; have c1 := c.lo; have c2 := c.hi
  generalize kk * (X * X * X) = A at *
  generalize kk * (X * X) = B at *
  generalize kk * T = U at *
  generalize kk * D = V at *
  generalize 1099511627776 * pS x - kk * x = P at *
  generalize pC x - kk = Q at *
  exact ⟨⟨by omega, by omega⟩, ⟨by omega, by omega⟩⟩
theorem quarter {x : Int} (h : Ab x 274877906944) : Ab (1099511627776 * (pS (1727108826179 + x) - pC x)) (18 * kk) ∧ Ab (1099511627776 * (pC (1727108826179 + x) + pS x)) (93 * kk) := by
  have hx : -1727108826179 ≤ x ∧ x ≤ 1727108826179 := by have := h.lo; have := h.hi; omega
  have s := sum_S 1727108826179 x (by decide) hx
  have c := sum_C 1727108826179 x (by decide) hx
  have a : Ab ((pS 1727108826179 - kk) * 1099511627776) kk := ⟨pS_h.1, pS_h.2⟩
  have b : Ab (pC 1727108826179 * 1099511627776) kk := ⟨pC_h.1, pC_h.2⟩
  have ps : Ab (pS x) (3 * kk) := ⟨(pS_bd x hx).1, (pS_bd x hx).2⟩
  have pc : Ab (pC x) (3 * kk) := ⟨(pC_bd x hx).1, (pC_bd x hx).2⟩
  have m1 := a.mul pc
  have m2 := b.mul ps
  have m3 := b.mul pc
  have m4 := a.mul ps
  have e1 : (pS (1727108826179 + x) * kk - (pS 1727108826179 * pC x + pC 1727108826179 * pS x)) * 1099511627776 + (pS 1727108826179 - kk) * 1099511627776 * pC x + pC 1727108826179 * 1099511627776 * pS x = 1099511627776 * (pS (1727108826179 + x) - pC x) * kk := by grind
  have e2 : (pC (1727108826179 + x) * kk - (pC 1727108826179 * pC x - pS 1727108826179 * pS x)) * 1099511627776 + pC 1727108826179 * 1099511627776 * pC x - (pS 1727108826179 - kk) * 1099511627776 * pS x = 1099511627776 * (pC (1727108826179 + x) + pS x) * kk := by grind
  have q : kk * (3 * kk) = 3 * (kk * kk) := by grind
  rw [q] at m1 m2 m3 m4
  have l1 := m1.lo; have u1 := m1.hi; have l2 := m2.lo; have u2 := m2.hi; have l3 := m3.lo; have u3 := m3.hi; have l4 := m4.lo; have u4 := m4.hi
  have f : ∀ n : Int, n * kk * kk = n * (kk * kk) := fun n => Int.mul_assoc _ _ _
  refine ⟨⟨kk_can ?_, kk_can ?_⟩, ⟨kk_can ?_, kk_can ?_⟩⟩
  · rw [← e1, Int.neg_mul, f]; omega
  · rw [← e1, f]; omega
  · rw [← e2, Int.neg_mul, f]; omega
  · rw [← e2, f]; omega
/-- The sine and the cosine of a small angle. -/
theorem small_sin {x X T D : Int} (h : Ab x X) (hX : X ≤ 274877906944) (hT : X * X * X ≤ 6044629098073145873530880 * T) (hD : 51 * (X * X) ≤ 109951162777600 * D) :
    ∃ t d, sinA false x = (t, false) ∧ cosA false x = (d, false) ∧ Ab (t - x) (T + 100) ∧ Ab (d - 1099511627776) (D + 25) := by
  obtain ⟨s, c⟩ := small_T h hX hT hD
  have x1 := h.lo; have x2 := h.hi
  obtain ⟨k, t, S, C, k0, k3, t0, t1, e, nS, nC, eS, eC⟩ := angle x (by unfold numB; simp; omega)
  have kT : (T + 100) * kk = kk * T + 100 * kk := by grind
  have kD : (D + 25) * kk = kk * D + 25 * kk := by grind
  have p := kk_pos
  have s1 := s.lo; have s2 := s.hi; have c1 := c.lo; have c2 := c.hi
  have a1 := nS.lo; have a2 := nS.hi; have b1 := nC.lo; have b2 := nC.hi
  by_cases hx : 0 ≤ x
  · have hk : k = 0 := by omega
    subst hk
    have ht : t = x := by omega
    subst ht
    refine ⟨S, C, eS, eC, ⟨kk_can ?_, kk_can ?_⟩, ⟨kk_can ?_, kk_can ?_⟩⟩
    · rw [Int.neg_mul, kT, Int.sub_mul, Int.mul_comm t kk]; omega
    · rw [kT, Int.sub_mul, Int.mul_comm t kk]; omega
    · rw [Int.neg_mul, kD, Int.sub_mul]; omega
    · rw [kD, Int.sub_mul]; omega
  · have hk : k = 3 := by omega
    subst hk
    have ht : t = 1727108826179 + x := by omega
    subst ht
    obtain ⟨q1, q2⟩ := quarter (x := x) ⟨by omega, by omega⟩
    have u1 := q1.lo; have u2 := q1.hi; have v1 := q2.lo; have v2 := q2.hi
    refine ⟨-C, S, eS, eC, ⟨kk_can ?_, kk_can ?_⟩, ⟨kk_can ?_, kk_can ?_⟩⟩
    · rw [Int.neg_mul, kT, Int.sub_mul, Int.neg_mul, Int.mul_comm x kk]; omega
    · rw [kT, Int.sub_mul, Int.neg_mul, Int.mul_comm x kk]; omega
    · rw [Int.neg_mul, kD, Int.sub_mul]; omega
    · rw [kD, Int.sub_mul]; omega
end Go.Proofs.YtmhcfkcpoecokaaDoor
namespace Go.Proofs.YtmhcfkcpoecokaaDoor

theorem sc_bd (a : Int) (h : numB a = true) : ∃ s c, sinA false a = (s, false) ∧ cosA false a = (c, false) ∧ Ab s 1099511627832 ∧ Ab c 1099511627832 := by
  obtain ⟨k, t, S, C, k0, k3, t0, t1, _, nS, nC, eS, eC⟩ := angle a h
  have o := (one_near (t := t) ⟨t0, by omega⟩ nS nC).1
  have q := sel_sq k S C ⟨k0, k3⟩
  refine ⟨_, _, eS, eC, ?_, ?_⟩
  · generalize selS k S C = s at q
    generalize selC k S C = c at q
    have c0 := sq_nonneg c
    have hb : s * s ≤ 1208925819614629174706176 + 111 * 1099511627776 + 18 := by omega
    refine ⟨?_, ?_⟩
    · apply Classical.byContradiction
      intro g
      have := Int.mul_le_mul (show 1099511627833 ≤ -s by omega) (show 1099511627833 ≤ -s by omega) (by decide) (by omega)
      rw [Int.neg_mul_neg] at this
      omega
    · apply Classical.byContradiction
      intro g
      have := Int.mul_le_mul (show 1099511627833 ≤ s by omega) (show 1099511627833 ≤ s by omega) (by decide) (by omega)
      omega
  · generalize selS k S C = s at q
    generalize selC k S C = c at q
    have c0 := sq_nonneg s
    have hb : c * c ≤ 1208925819614629174706176 + 111 * 1099511627776 + 18 := by omega
    refine ⟨?_, ?_⟩
    · apply Classical.byContradiction
      intro g
      have := Int.mul_le_mul (show 1099511627833 ≤ -c by omega) (show 1099511627833 ≤ -c by omega) (by decide) (by omega)
      rw [Int.neg_mul_neg] at this
      omega
    · apply Classical.byContradiction
      intro g
      have := Int.mul_le_mul (show 1099511627833 ≤ c by omega) (show 1099511627833 ≤ c by omega) (by decide) (by omega)
      omega
/-- x, put into Kepler's equation: g too much. -/
structure Res (m e x s p g : Int) : Prop where
  sn : sinA false x = (s, false)
  mu : mulS false e s = (p, false)
  s1 : subS false x p = (x - p, false)
  s2 : subS false (x - p) m = (g, false)
  eq : g = x - p - m
  sb : Ab s 1099511627832
  pr : Ab (2 * (p * 1099511627776 - e * s)) 1099511627776
  pb : Ab p 109951162790
structure KIn (m e : Int) : Prop where
  m0 : 0 ≤ m
  m1 : m ≤ 6908435304716
  e0 : 0 ≤ e
  e1 : e ≤ 109951162777
theorem res_at {m e x : Int} (K : KIn m e) (hx : Ab (x - m) 1099511627776) : ∃ s p, Res m e x s p (x - p - m) := by
  obtain ⟨m0, m1, e0, e1⟩ := K
  have x1 := hx.lo; have x2 := hx.hi
  obtain ⟨s, _, es, _, sb, _⟩ := sc_bd x (numB_of ⟨by omega, by omega⟩)
  have eb : Ab e 109951162777 := ⟨by omega, e1⟩
  obtain ⟨p, ep, pr⟩ := mul_near eb sb (by decide) (by decide)
  have es' := eb.mul sb
  have l := es'.lo; have u := es'.hi; have pl := pr.lo; have pu := pr.hi
  have pb : Ab p 109951162790 := ⟨by omega, by omega⟩
  have p1 := pb.lo; have p2 := pb.hi
  have xb : Ab x 17592186044416 := ⟨by omega, by omega⟩
  refine ⟨s, p, es, ep, sub_near xb pb (by decide) (by decide) (by decide), ?_, rfl, sb, pr, pb⟩
  exact sub_near (K := 17702137207206) (L := 6908435304716) ⟨by omega, by omega⟩ ⟨by omega, by omega⟩ (by decide) (by decide) (by decide)
/-- A round. -/
structure Rnd (x g c q δ e : Int) : Prop where
  cs : cosA false x = (c, false)
  mu : mulS false e c = (q, false)
  su : subS false 1099511627776 q = (1099511627776 - q, false)
  dv : divS false g (1099511627776 - q) = (δ, false)
  go : subS false x δ = (x - δ, false)
theorem kep_step {m e x s p g G X T D G' : Int} (K : KIn m e) (R : Res m e x s p g) (hg : Ab g G) (hX : X ≤ 274877906944) (hGX : 1112 * G + 1000 ≤ 1000 * X) (hT : X * X * X ≤ 6044629098073145873530880 * T) (hD : 51 * (X * X) ≤ 109951162777600 * D)
    (hDT : D + T ≤ 100000000000) (hG' : D + T + 500 ≤ 10 * G') : ∃ c q δ s' p' g', Rnd x g c q δ e ∧ Res m e (x - δ) s' p' g' ∧ Ab g' G' := by
  have K' := K
  obtain ⟨m0, m1, e0, e1⟩ := K
  have g1 := hg.lo; have g2 := hg.hi
  have p1 := R.pb.lo; have p2 := R.pb.hi
  have xg := R.eq
  have hxn : numB x = true := numB_of ⟨by omega, by omega⟩
  obtain ⟨s0, c, es0, ec, _, cb⟩ := sc_bd x hxn
  have eb : Ab e 109951162777 := ⟨by omega, e1⟩
  obtain ⟨q, eq, qr⟩ := mul_near eb cb (by decide) (by decide)
  have ecb := eb.mul cb
  have cl := ecb.lo; have cu := ecb.hi; have ql := qr.lo; have qu := qr.hi
  have qb : Ab q 109951162790 := ⟨by omega, by omega⟩
  have q1 := qb.lo; have q2 := qb.hi
  obtain ⟨δ, ed, d1, d2, _⟩ := partS_near g 1099511627776 (1099511627776 - q) (numB_of ⟨by omega, by omega⟩) (by rfl) (numB_of ⟨by omega, by omega⟩) (by omega) (by
    rw [show sz 1099511627776 = 1099511627776 by rfl]
    have : sz g ≤ G := sz_le ⟨g1, g2⟩
    omega)
  have δb : Ab δ X := by
    refine ⟨?_, ?_⟩
    · apply Classical.byContradiction
      intro h
      have h1 : X + 1 ≤ -δ := by omega
      have h2 := Int.mul_le_mul h1 (show (989560464986 : Int) ≤ 1099511627776 - q by omega) (by decide) (by omega)
      rw [Int.neg_mul] at h2
      omega
    · apply Classical.byContradiction
      intro h
      have h1 : X + 1 ≤ δ := by omega
      have h2 := Int.mul_le_mul h1 (show (989560464986 : Int) ≤ 1099511627776 - q by omega) (by decide) (by omega)
      omega
  have b1 := δb.lo; have b2 := δb.hi
  have xb : Ab x 17592186044416 := ⟨by omega, by omega⟩
  have hgo : subS false x δ = (x - δ, false) := sub_near xb (δb.le hX) (by decide) (by decide) (by decide)
  obtain ⟨s', p', R'⟩ := res_at K' (x := x - δ) ⟨by omega, by omega⟩
  obtain ⟨t, d, et, ed', τb, κb⟩ := small_sin (x := -δ) (X := X) ⟨by omega, by omega⟩ hX hT hD
  obtain ⟨sa, ca, ta, da, xa, _, f1, f2, f3, f4, f5, _, sm, _⟩ := sum_any x (-δ) hxn (numB_of ⟨by omega, by omega⟩) (numB_of ⟨by omega, by omega⟩)
  rw [R.sn] at f1
  rw [ec] at f2
  rw [et] at f3
  rw [ed'] at f4
  rw [show x + -δ = x - δ by omega, R'.sn] at f5
  simp only [Prod.mk.injEq, and_true] at f1 f2 f3 f4 f5
  subst f1 f2 f3 f4 f5
  refine ⟨c, q, δ, s', p', _, ⟨ec, eq, sub_near ⟨by decide, by decide⟩ qb (K := 1099511627776) (by decide) (by decide) (by decide), ed, hgo⟩, R', ?_⟩
  -- how much is too much
  have key : 2 * 1208925819614629174706176 * (x - δ - p' - m) = -(1099511627776 * (2 * (δ * (1099511627776 - q)) - 2 * (g * 1099511627776))) - 1099511627776 * (2 * (p' * 1099511627776 - e * s') - 2 * (p * 1099511627776 - e * s)) - 2 * (e * ((1099511627776 * s' - (s * d + c * t)) + s * (d - 1099511627776) + c * (t - -δ))) - 2 * (q * 1099511627776 - e * c) * δ := by
    rw [xg]
    grind
  have Z : Ab ((1099511627776 * s' - (s * d + c * t)) + s * (d - 1099511627776) + c * (t - -δ)) (274877906944000 + 1099511627832 * (D + 25) + 1099511627832 * (T + 100)) := by
    have a : Ab (1099511627776 * s' - (s * d + c * t)) 274877906944000 := ⟨sm.1, sm.2⟩
    exact (a.add (R.sb.mul κb)).add (cb.mul τb)
  have EZ := eb.mul Z
  have ZX := qr.mul δb
  have a1 := R'.pr.lo; have a2 := R'.pr.hi; have a3 := R.pr.lo; have a4 := R.pr.hi
  have z1 := EZ.lo; have z2 := EZ.hi; have y1 := ZX.lo; have y2 := ZX.hi
  generalize e * ((1099511627776 * s' - (s * d + c * t)) + s * (d - 1099511627776) + c * (t - -δ)) = V at key z1 z2
  generalize 2 * (q * 1099511627776 - e * c) * δ = Y at key y1 y2
  generalize 2 * (p' * 1099511627776 - e * s') = A1 at key a1 a2
  generalize 2 * (p * 1099511627776 - e * s) = A2 at key a3 a4
  generalize δ * (1099511627776 - q) = B1 at key d1 d2
  refine ⟨?_, ?_⟩
  · omega
  · omega
/-- What six rounds work, one behind the other. -/
def Six (m e : Int) : Nat → Int → Prop
  | 0, y => y = m
  | n + 1, y => ∃ x s p g c q δ, Six m e n x ∧ Res m e x s p g ∧ Rnd x g c q δ e ∧ y = x - δ
theorem six_zero {m e : Int} : Six m e 0 m := rfl
theorem six_more {m e : Int} {n : Nat} {x s p g c q δ : Int} (h : Six m e n x) (R : Res m e x s p g) (N : Rnd x g c q δ e) : Six m e (n + 1) (x - δ) := ⟨x, s, p, g, c, q, δ, h, R, N, rfl⟩
/-- Kepler's angle: six rounds from m on, and what it makes of his equation. -/
theorem kepler_math {m e : Int} (K : KIn m e) : ∃ x s p g, Six m e 6 x ∧ Res m e x s p g ∧ Ab g 51 := by
  obtain ⟨s0, p0, R0⟩ := res_at K (x := m) ⟨by omega, by omega⟩
  have p1 := R0.pb.lo; have p2 := R0.pb.hi
  have g0 : Ab (m - p0 - m) 109951162800 := ⟨by omega, by omega⟩
  obtain ⟨c1, q1, d1, s1, p1', g1, N1, R1, b1⟩ := kep_step (X := 122300000000) (T := 302700000) (D := 6940000000) (G' := 724300000) K R0 g0 (by decide) (by decide) (by decide) (by decide) (by decide) (by decide)
  obtain ⟨c2, q2, d2, s2, p2', g2, N2, R2, b2⟩ := kep_step (X := 805500000) (T := 87) (D := 301000) (G' := 30160) K R1 b1 (by decide) (by decide) (by decide) (by decide) (by decide) (by decide)
  obtain ⟨c3, q3, d3, s3, p3, g3, N3, R3, b3⟩ := kep_step (X := 33540) (T := 1) (D := 1) (G' := 51) K R2 b2 (by decide) (by decide) (by decide) (by decide) (by decide) (by decide)
  obtain ⟨c4, q4, d4, s4, p4, g4, N4, R4, b4⟩ := kep_step (X := 58) (T := 1) (D := 1) (G' := 51) K R3 b3 (by decide) (by decide) (by decide) (by decide) (by decide) (by decide)
  obtain ⟨c5, q5, d5, s5, p5, g5, N5, R5, b5⟩ := kep_step (X := 58) (T := 1) (D := 1) (G' := 51) K R4 b4 (by decide) (by decide) (by decide) (by decide) (by decide) (by decide)
  obtain ⟨c6, q6, d6, s6, p6, g6, N6, R6, b6⟩ := kep_step (X := 58) (T := 1) (D := 1) (G' := 51) K R5 b5 (by decide) (by decide) (by decide) (by decide) (by decide) (by decide)
  exact ⟨_, s6, p6, g6, six_more (six_more (six_more (six_more (six_more (six_more six_zero R0 N1) R1 N2) R2 N3) R3 N4) R4 N5) R5 N6, R6, b6⟩
end Go.Proofs.YtmhcfkcpoecokaaDoor
namespace Go.Proofs.YtmhcfkcpoecokaaDoor

theorem ab_of_sq {a K : Int} (hK : 0 ≤ K) (h : a * a ≤ K * K) : Ab a K := by
  refine ⟨?_, ?_⟩
  · apply Classical.byContradiction
    intro g
    have := Int.mul_le_mul (show K + 1 ≤ -a by omega) (show K + 1 ≤ -a by omega) (by omega) (by omega)
    rw [Int.neg_mul_neg] at this
    have e : (K + 1) * (K + 1) = K * K + 2 * K + 1 := by grind
    omega
  · apply Classical.byContradiction
    intro g
    have := Int.mul_le_mul (show K + 1 ≤ a by omega) (show K + 1 ≤ a by omega) (by omega) (by omega)
    have e : (K + 1) * (K + 1) = K * K + 2 * K + 1 := by grind
    omega
/-- What is turned is as long as it was. -/
theorem rot_sq {u v c s a b : Int} (hM : u * u + v * v ≤ 120892581961462917470617600) (cb : Ab c 1099511627832) (sb : Ab s 1099511627832) (hcs : Ab (c * c + s * s - 1208925819614629174706176) 123145302310912)
    (ha : Ab (1099511627776 * a - (u * c - v * s)) 1099511627776) (hb : Ab (1099511627776 * b - (u * s + v * c)) 1099511627776) : Ab (a * a + b * b - (u * u + v * v)) 12457466742702080 := by
  have u0 := sq_nonneg u
  have v0 := sq_nonneg v
  have ub : Ab u 10995116277760 := ab_of_sq (by decide) (by omega)
  have vb : Ab v 10995116277760 := ab_of_sq (by decide) (by omega)
  have P := (ub.mul cb).sub (vb.mul sb)
  have Q := (ub.mul sb).add (vb.mul cb)
  have PA : Ab (u * c - v * s + 1099511627776 * a) (2 * (10995116277760 * 1099511627832 + 10995116277760 * 1099511627832) + 1099511627776) := by
    have p1 := P.lo; have p2 := P.hi; have h1 := ha.lo; have h2 := ha.hi
    exact ⟨by omega, by omega⟩
  have QB : Ab (u * s + v * c + 1099511627776 * b) (2 * (10995116277760 * 1099511627832 + 10995116277760 * 1099511627832) + 1099511627776) := by
    have p1 := Q.lo; have p2 := Q.hi; have h1 := hb.lo; have h2 := hb.hi
    exact ⟨by omega, by omega⟩
  have t1 := ha.mul PA
  have t2 := hb.mul QB
  have uv : Ab (u * u + v * v) 120892581961462917470617600 := ⟨by omega, hM⟩
  have t3 := uv.mul hcs
  have key : 1208925819614629174706176 * (a * a + b * b - (u * u + v * v)) = (u * u + v * v) * (c * c + s * s - 1208925819614629174706176) + (1099511627776 * a - (u * c - v * s)) * (u * c - v * s + 1099511627776 * a) + (1099511627776 * b - (u * s + v * c)) * (u * s + v * c + 1099511627776 * b) := by grind
  have l1 := t1.lo; have h1 := t1.hi; have l2 := t2.lo; have h2 := t2.hi; have l3 := t3.lo; have h3 := t3.hi
  generalize (u * u + v * v) * (c * c + s * s - 1208925819614629174706176) = X at key l3 h3
  generalize (1099511627776 * a - (u * c - v * s)) * (u * c - v * s + 1099511627776 * a) = Y at key l1 h1
  generalize (1099511627776 * b - (u * s + v * c)) * (u * s + v * c + 1099511627776 * b) = Z at key l2 h2
  generalize a * a + b * b - (u * u + v * v) = W at key
  exact ⟨by omega, by omega⟩
/-- In its plane: what is worked, step by step. -/
structure Flat (A E c s e2 r w1 u v : Int) : Prop where
  A1 : 7146825580544 ≤ A
  A2 : A ≤ 9211859050600
  E1 : 0 ≤ E
  E2 : E ≤ 109951162777
  cb : Ab c 1099511627832
  sb : Ab s 1099511627832
  cs : Ab (c * c + s * s - 1208925819614629174706176) 123145302310912
  eu : Ab (2 * (u * 1099511627776 - A * (c - E))) 1099511627776
  ee : Ab (2 * (e2 * 1099511627776 - E * E)) 1099511627776
  r0 : 0 ≤ r
  r1 : r * r ≤ (1099511627776 - e2) * 1099511627776
  r2 : (1099511627776 - e2) * 1099511627776 < (r + 1) * (r + 1)
  ew : Ab (2 * (w1 * 1099511627776 - A * r)) 1099511627776
  ev : Ab (2 * (v * 1099511627776 - w1 * s)) 1099511627776
/-- How far it is by the ellipse. -/
def lam (A E c : Int) : Int := A * (1208925819614629174706176 - E * c)
theorem Flat.root {A E c s e2 r w1 u v : Int} (F : Flat A E c s e2 r w1 u v) : r ≤ 1099511627776 ∧ Ab (r * r - (1208925819614629174706176 - E * E)) 3298534883328 := by
  have ee := F.ee.lo; have ee' := F.ee.hi
  have EE := sq_nonneg E
  have e0 : 0 ≤ e2 := by omega
  have r0 := F.r0; have r1 := F.r1; have r2 := F.r2
  have rb : Ab r 1099511627776 := ab_of_sq (by decide) (by omega)
  have r3 := rb.hi
  have e : (r + 1) * (r + 1) = r * r + 2 * r + 1 := by grind
  rw [e] at r2
  exact ⟨r3, by omega, by omega⟩
theorem Flat.lamb {A E c s e2 r w1 u v : Int} (F : Flat A E c s e2 r w1 u v) : Ab (lam A E c) 12361820360799717618005405660607204556 := by
  have A1 := F.A1; have A2 := F.A2; have E1 := F.E1; have E2 := F.E2
  have a : Ab A 9211859050600 := ⟨by omega, A2⟩
  have ec := (show Ab E 109951162777 from ⟨by omega, E2⟩).mul F.cb
  have d : Ab (1208925819614629174706176 - E * c) (1208925819614629174706176 + 109951162777 * 1099511627832) := by
    have := ec.lo; have := ec.hi
    exact ⟨by omega, by omega⟩
  exact (a.mul d).le (by decide)
theorem flat_sq {A E c s e2 r w1 u v : Int} (F : Flat A E c s e2 r w1 u v) : Ab (1461501637330902918203684832716283019655932542976 * (u * u + v * v) - lam A E c * lam A E c) 13176891962923720259444089157197533340682064549018901249471283200 := by
  obtain ⟨rh, ρ⟩ := F.root
  have A1 := F.A1; have A2 := F.A2; have E1 := F.E1; have E2 := F.E2
  have a : Ab A 9211859050600 := ⟨by omega, A2⟩
  have e : Ab E 109951162777 := ⟨by omega, E2⟩
  have rb : Ab r 1099511627776 := ⟨by have := F.r0; omega, rh⟩
  have EE := e.mul e
  have oe : Ab (1208925819614629174706176 - E * E) 1208925819614629174706176 := by
    have := EE.hi; have := sq_nonneg E
    exact ⟨by omega, by omega⟩
  have k1 := (a.mul a).mul ((oe.mul F.cs).add (ρ.mul (F.sb.mul F.sb)))
  have ce := a.mul (F.cb.sub e)
  have ou : Ab (u * 1099511627776 + A * (c - E)) (2 * (9211859050600 * (1099511627832 + 109951162777)) + 1099511627776) := by
    have := ce.lo; have := ce.hi; have := F.eu.lo; have := F.eu.hi
    exact ⟨by omega, by omega⟩
  have k2 := F.eu.mul ou
  have η : Ab (2 * (1208925819614629174706176 * v - A * r * s)) 2417851639290831000567808 := by
    have h1 := F.ev; have h2 := F.ew.mul F.sb
    have l1 := h1.lo; have u1 := h1.hi; have l2 := h2.lo; have u2 := h2.hi
    have e1 : 2 * (1208925819614629174706176 * v - A * r * s) = 1099511627776 * (2 * (v * 1099511627776 - w1 * s)) + 2 * (w1 * 1099511627776 - A * r) * s := by grind
    rw [e1]
    exact ⟨by omega, by omega⟩
  have ars := (a.mul rb).mul F.sb
  have ov : Ab (1208925819614629174706176 * v + A * r * s) (2 * (9211859050600 * 1099511627776 * 1099511627832) + 2417851639290831000567808) := by
    have := ars.lo; have := ars.hi; have := η.lo; have := η.hi
    exact ⟨by omega, by omega⟩
  have k3 := η.mul ov
  have key : 2 * (1461501637330902918203684832716283019655932542976 * (u * u + v * v) - lam A E c * lam A E c) = 2 * (A * A * ((1208925819614629174706176 - E * E) * (c * c + s * s - 1208925819614629174706176) + (r * r - (1208925819614629174706176 - E * E)) * (s * s))) + 1208925819614629174706176 * (2 * (u * 1099511627776 - A * (c - E)) * (u * 1099511627776 + A * (c - E))) + 2 * (1208925819614629174706176 * v - A * r * s) * (1208925819614629174706176 * v + A * r * s) := by
    unfold lam
    grind
  have l1 := k1.lo; have u1 := k1.hi; have l2 := k2.lo; have u2 := k2.hi; have l3 := k3.lo; have u3 := k3.hi
  generalize A * A * ((1208925819614629174706176 - E * E) * (c * c + s * s - 1208925819614629174706176) + (r * r - (1208925819614629174706176 - E * E)) * (s * s)) = X at key l1 u1
  generalize 2 * (u * 1099511627776 - A * (c - E)) * (u * 1099511627776 + A * (c - E)) = Y at key l2 u2
  generalize 2 * (1208925819614629174706176 * v - A * r * s) * (1208925819614629174706176 * v + A * r * s) = Z at key l3 u3
  generalize 1461501637330902918203684832716283019655932542976 * (u * u + v * v) - lam A E c * lam A E c = W at key ⊢
  exact ⟨by omega, by omega⟩
theorem flat_bd {A E c s e2 r w1 u v : Int} (F : Flat A E c s e2 r w1 u v) : u * u + v * v ≤ 114847952863389771597086720 := by
  have h := (flat_sq F).hi
  have k := (F.lamb.mul F.lamb).hi
  omega
end Go.Proofs.YtmhcfkcpoecokaaDoor
namespace Go.Proofs.YtmhcfkcpoecokaaDoor

theorem lam_lo {A E c s e2 r w1 u v near : Int} (F : Flat A E c s e2 r w1 u v) (hn : Ab (2 * (near * 1099511627776 - A * (1099511627776 - E))) 1099511627776) : 1208925819614629174706176 * (near - 48) ≤ lam A E c := by
  have A1 := F.A1; have A2 := F.A2; have E1 := F.E1; have E2 := F.E2
  have ae : Ab (A * E) (9211859050600 * 109951162777) := (show Ab A 9211859050600 from ⟨by omega, A2⟩).mul ⟨by omega, E2⟩
  have p := Int.mul_nonneg (Int.mul_nonneg (show 0 ≤ A by omega) E1) (show 0 ≤ 1099511627776 - c + 56 by have := F.cb.hi; omega)
  have e : A * E * (1099511627776 - c + 56) = lam A E c - 1099511627776 * (A * (1099511627776 - E)) + 56 * (A * E) := by unfold lam; grind
  rw [e] at p
  have := ae.hi; have := hn.hi
  generalize lam A E c = Λ at p ⊢
  generalize A * (1099511627776 - E) = Y at *
  generalize A * E = Z at *
  omega
theorem lam_hi {A E c s e2 r w1 u v far : Int} (F : Flat A E c s e2 r w1 u v) (hf : Ab (2 * (far * 1099511627776 - A * (1099511627776 + E))) 1099511627776) : lam A E c ≤ 1208925819614629174706176 * (far + 48) := by
  have A1 := F.A1; have A2 := F.A2; have E1 := F.E1; have E2 := F.E2
  have ae : Ab (A * E) (9211859050600 * 109951162777) := (show Ab A 9211859050600 from ⟨by omega, A2⟩).mul ⟨by omega, E2⟩
  have p := Int.mul_nonneg (Int.mul_nonneg (show 0 ≤ A by omega) E1) (show 0 ≤ 1099511627776 + c + 56 by have := F.cb.lo; omega)
  have e : A * E * (1099511627776 + c + 56) = 1099511627776 * (A * (1099511627776 + E)) - lam A E c + 56 * (A * E) := by unfold lam; grind
  rw [e] at p
  have := ae.hi; have := hf.lo
  generalize lam A E c = Λ at p ⊢
  generalize A * (1099511627776 + E) = Y at *
  generalize A * E = Z at *
  omega
theorem far_near {A E c s e2 r w1 u v near far N S : Int} (F : Flat A E c s e2 r w1 u v) (hS : Ab (S - (u * u + v * v)) 37372400228106240) (h0 : 0 ≤ N) (h1 : N * N ≤ S) (h2 : S < (N + 1) * (N + 1))
    (hn : Ab (2 * (near * 1099511627776 - A * (1099511627776 - E))) 1099511627776) (hf : Ab (2 * (far * 1099511627776 - A * (1099511627776 + E))) 1099511627776) (n1 : 7232738120604 ≤ near) (f1 : 7000000000000 ≤ far) : near - 65536 ≤ N ∧ N ≤ far + 65536 := by
  have q := flat_sq F
  have ql := q.lo; have qu := q.hi; have sl := hS.lo; have su := hS.hi
  have ll := lam_lo F hn
  have lh := lam_hi F hf
  refine ⟨?_, ?_⟩
  · apply Classical.byContradiction
    intro g
    have m1 := Int.mul_le_mul (show N + 1 ≤ near - 65536 by omega) (show N + 1 ≤ near - 65536 by omega) (by omega) (by omega)
    have m2 := Int.mul_le_mul ll ll (by omega) (by omega)
    have e1 : (near - 65536) * (near - 65536) = near * near - 131072 * near + 4294967296 := by grind
    have e2 : 1208925819614629174706176 * (near - 48) * (1208925819614629174706176 * (near - 48)) = 1461501637330902918203684832716283019655932542976 * (near * near) - 1461501637330902918203684832716283019655932542976 * (96 * near) + 1461501637330902918203684832716283019655932542976 * 2304 := by grind
    rw [e1] at m1
    rw [e2] at m2
    generalize lam A E c * lam A E c = Λ at *
    generalize near * near = Y at *
    generalize (N + 1) * (N + 1) = M at *
    omega
  · apply Classical.byContradiction
    intro g
    have l0 : 0 ≤ lam A E c := by omega
    have m1 := Int.mul_le_mul (show far + 65537 ≤ N by omega) (show far + 65537 ≤ N by omega) (by omega) (by omega)
    have m2 := Int.mul_le_mul lh lh l0 (by omega)
    have e1 : (far + 65537) * (far + 65537) = far * far + 131074 * far + 4295098369 := by grind
    have e2 : 1208925819614629174706176 * (far + 48) * (1208925819614629174706176 * (far + 48)) = 1461501637330902918203684832716283019655932542976 * (far * far) + 1461501637330902918203684832716283019655932542976 * (96 * far) + 1461501637330902918203684832716283019655932542976 * 2304 := by grind
    rw [e1] at m1
    rw [e2] at m2
    generalize lam A E c * lam A E c = Λ at *
    generalize far * far = Y at *
    generalize N * N = M at *
    omega
/-- A sine and a cosine of one angle. -/
structure Sc (s c : Int) : Prop where
  sb : Ab s 1099511627832
  cb : Ab c 1099511627832
  cs : Ab (c * c + s * s - 1208925819614629174706176) 123145302310912
theorem sc_at (a : Int) (h : numB a = true) : ∃ s c, sinA false a = (s, false) ∧ cosA false a = (c, false) ∧ Sc s c := by
  obtain ⟨s, c, es, ec, sb, cb⟩ := sc_bd a h
  refine ⟨s, c, es, ec, sb, cb, ?_⟩
  obtain ⟨k, t, S, C, k0, k3, t0, t1, _, nS, nC, eS, eC⟩ := angle a h
  have o := one_near (t := t) ⟨t0, by omega⟩ nS nC
  have q := sel_sq k S C ⟨k0, k3⟩
  rw [es] at eS
  rw [ec] at eC
  simp only [Prod.mk.injEq, and_true] at eS eC
  rw [← eS, ← eC] at q
  exact ⟨by omega, by omega⟩
/-- Turned by an angle: a, b of u, v; m1 .. m4 the products. -/
structure Trn (u v s c m1 m2 m3 m4 : Int) : Prop where
  p1 : Ab (2 * (m1 * 1099511627776 - u * c)) 1099511627776
  p2 : Ab (2 * (m2 * 1099511627776 - v * s)) 1099511627776
  p3 : Ab (2 * (m3 * 1099511627776 - u * s)) 1099511627776
  p4 : Ab (2 * (m4 * 1099511627776 - v * c)) 1099511627776
theorem Trn.sq {u v s c m1 m2 m3 m4 : Int} (T : Trn u v s c m1 m2 m3 m4) (Z : Sc s c) (hM : u * u + v * v ≤ 120892581961462917470617600) : Ab ((m1 - m2) * (m1 - m2) + (m3 + m4) * (m3 + m4) - (u * u + v * v)) 12457466742702080 := by
  have a1 := T.p1.lo; have b1 := T.p1.hi; have a2 := T.p2.lo; have b2 := T.p2.hi; have a3 := T.p3.lo; have b3 := T.p3.hi; have a4 := T.p4.lo; have b4 := T.p4.hi
  exact rot_sq hM Z.cb Z.sb Z.cs ⟨by omega, by omega⟩ ⟨by omega, by omega⟩
/-- All three turns: the peri's, the plane's, the node's. -/
theorem turned_sq {u v sq cq si ci sn cn m1 m2 m3 m4 bc z m5 m6 m7 m8 : Int} (hM : u * u + v * v ≤ 114847952863389771597086720) (T1 : Trn u v sq cq m1 m2 m3 m4) (Z1 : Sc sq cq)
    (hbc : Ab (2 * (bc * 1099511627776 - (m3 + m4) * ci)) 1099511627776) (hz : Ab (2 * (z * 1099511627776 - (m3 + m4) * si)) 1099511627776) (Z2 : Sc si ci) (T3 : Trn (m1 - m2) bc sn cn m5 m6 m7 m8) (Z3 : Sc sn cn) :
    Ab ((m5 - m6) * (m5 - m6) + (m7 + m8) * (m7 + m8) + z * z - (u * u + v * v)) 37372400228106240 := by
  have h1 := T1.sq Z1 (by omega)
  have l1 := h1.lo; have u1 := h1.hi
  have a0 := sq_nonneg (m1 - m2)
  have b0 := sq_nonneg (m3 + m4)
  generalize m1 - m2 = a at *
  generalize m3 + m4 = b at *
  have z0 := sq_nonneg z
  have h2 : Ab (bc * bc + z * z - (b * b + 0 * 0)) 12457466742702080 := rot_sq (u := b) (v := 0) (by omega) Z2.cb Z2.sb Z2.cs (by have := hbc.lo; have := hbc.hi; exact ⟨by omega, by omega⟩) (by have := hz.lo; have := hz.hi; exact ⟨by omega, by omega⟩)
  have l2 := h2.lo; have u2 := h2.hi
  have h3 := T3.sq Z3 (by omega)
  have l3 := h3.lo; have u3 := h3.hi
  generalize (m5 - m6) * (m5 - m6) + (m7 + m8) * (m7 + m8) = W at *
  exact ⟨by omega, by omega⟩
end Go.Proofs.YtmhcfkcpoecokaaDoor
namespace Go.Proofs.YtmhcfkcpoecokaaDoor
open Go.RowKit

theorem rnd_more (n k : Int) {d : Int} (hd : 0 < d) : rnd (n + k * d) d = rnd n d + k := by
  unfold rnd
  rw [show n + k * d + d / 2 = n + d / 2 + k * d by omega, Int.add_mul_ediv_right _ _ (by omega)]
theorem part_up {a p q : Int} (ha : 0 ≤ a) (ha' : a ≤ 4611686018427387904) (hp : 0 ≤ p) (hp' : p ≤ 4611686018427387904) (hq : 0 < q) (hq' : q ≤ 4611686018427387904) (h : rnd (a * p) q ≤ 4611686018427387904) : partS false a p q = (rnd (a * p) q, false) := by
  have n1 : numB a = true := by unfold numB; simp; omega
  have n2 : numB p = true := by unfold numB; simp; omega
  have n3 : numB q = true := by unfold numB; simp; omega
  rw [partS_yes (by unfold tk; simp [n1, n2, n3]) (by simp; omega)]
  have e1 : sz a = a := by unfold sz; rw [if_neg (by omega)]
  have e2 : sz p = p := by unfold sz; rw [if_neg (by omega)]
  have e3 : sz q = q := by unfold sz; rw [if_neg (by omega)]
  rw [e1, e2, e3, decide_eq_false (by omega), decide_eq_false (by omega), decide_eq_false (by omega)]
  unfold out sgnd
  rw [if_pos h, decide_eq_false (by omega)]
  rfl
theorem add_up {a b : Int} (ha : 0 ≤ a) (hb : 0 ≤ b) (h : a + b ≤ 4611686018427387904) : addS false a b = (a + b, false) := by
  have n1 : numB a = true := by unfold numB; simp; omega
  have n2 : numB b = true := by unfold numB; simp; omega
  have n3 : numB (a + b) = true := by unfold numB; simp; omega
  rw [addS_yes (by unfold tk; simp [n1, n2])]
  unfold gv
  rw [n3]
  rfl
theorem mod_up {a m : Int} (ha : -4611686018427387904 ≤ a) (ha' : a ≤ 4611686018427387904) (hm : 0 < m) (hm' : m ≤ 4611686018427387904) : modS false a m = (a % m, false) := by
  have n1 : numB a = true := by unfold numB; simp; omega
  have n2 : numB m = true := by unfold numB; simp; omega
  exact modS_yes (by unfold tk; simp [n1, n2]) hm
/-- What Days and Turn work, at a tick and a day later. -/
structure Daily (t d p q x : Int) : Prop where
  day : partS false 1099511627776 t 86400000 = (d, false)
  day' : partS false 1099511627776 (t + 86400000) 86400000 = (d + 1099511627776, false)
  rem : (t + 86400000) % 86400000 = t % 86400000
  part : partS false 6908435304716 (t % 86400000) 86400000 = (p, false)
  add : addS false 5399947124839 p = (5399947124839 + p, false)
  mul : mulS false 18914669620 d = (q, false)
  mul' : mulS false 18914669620 (d + 1099511627776) = (q + 18914669620, false)
  sum : addS false (5399947124839 + p) q = (x, false)
  sum' : addS false (5399947124839 + p) (q + 18914669620) = (x + 18914669620, false)
  mod : modS false x 6908435304716 = (x % 6908435304716, false)
  mod' : modS false (x + 18914669620) 6908435304716 = ((x + 18914669620) % 6908435304716, false)
  gap : modS false ((x + 18914669620) % 6908435304716 - x % 6908435304716) 6908435304716 = (18914669620, false)
theorem daily {t : Int} (h0 : 0 ≤ t) (h1 : t ≤ 157680000000) : ∃ d p q x, Daily t d p q x := by
  have d0 : 0 ≤ rnd (1099511627776 * t) 86400000 ∧ rnd (1099511627776 * t) 86400000 ≤ 2007708232318976 := by unfold rnd; omega
  have r0 : 0 ≤ t % 86400000 ∧ t % 86400000 < 86400000 := by omega
  have p0 : 0 ≤ rnd (6908435304716 * (t % 86400000)) 86400000 ∧ rnd (6908435304716 * (t % 86400000)) 86400000 ≤ 6908435304716 := by unfold rnd; omega
  have e1 : rnd (1099511627776 * (t + 86400000)) 86400000 = rnd (1099511627776 * t) 86400000 + 1099511627776 := by
    rw [show 1099511627776 * (t + 86400000) = 1099511627776 * t + 1099511627776 * 86400000 by omega]
    exact rnd_more _ _ (by decide)
  generalize hd : rnd (1099511627776 * t) 86400000 = d at d0 e1
  generalize hp : rnd (6908435304716 * (t % 86400000)) 86400000 = p at p0
  have q0 : 0 ≤ rnd (18914669620 * d) 1099511627776 ∧ rnd (18914669620 * d) 1099511627776 ≤ 35000000000000 := by unfold rnd; omega
  have e2 : rnd (18914669620 * (d + 1099511627776)) 1099511627776 = rnd (18914669620 * d) 1099511627776 + 18914669620 := by
    rw [show 18914669620 * (d + 1099511627776) = 18914669620 * d + 18914669620 * 1099511627776 by omega]
    exact rnd_more _ _ (by decide)
  generalize hq : rnd (18914669620 * d) 1099511627776 = q at q0 e2
  refine ⟨d, p, q, 5399947124839 + p + q, ?_⟩
  constructor
  · rw [part_up (by decide) (by decide) h0 (by omega) (by decide) (by decide) (by omega), hd]
  · rw [part_up (by decide) (by decide) (by omega) (by omega) (by decide) (by decide) (by omega), e1]
  · omega
  · rw [part_up (by decide) (by decide) (by omega) (by omega) (by decide) (by decide) (by omega), hp]
  · exact add_up (by decide) (by omega) (by omega)
  · unfold mulS; rw [part_up (by decide) (by decide) (by omega) (by omega) (by decide) (by decide) (by omega), hq]
  · unfold mulS; rw [part_up (by decide) (by decide) (by omega) (by omega) (by decide) (by decide) (by omega), e2]
  · exact add_up (by omega) (by omega) (by omega)
  · rw [add_up (by omega) (by omega) (by omega)]; exact Prod.ext (by show (_ : Int) = _; omega) rfl
  · exact mod_up (by omega) (by omega) (by decide) (by decide)
  · exact mod_up (by omega) (by omega) (by decide) (by decide)
  · rw [mod_up (by omega) (by omega) (by decide) (by decide)]; exact Prod.ext (by show (_ : Int) = _; omega) rfl
end Go.Proofs.YtmhcfkcpoecokaaDoor
namespace Go.Proofs.YtmhcfkcpoecokaaDoor

theorem mul_x {a b K L B : Int} (ha : Ab a K) (hb : Ab b L) (h : K * L ≤ 2535301200456458802993406410752) (hK : K ≤ 4611686018427387904) (hL : L ≤ 4611686018427387904) (hB : 2 * (K * L) + 1099511627776 ≤ 2 * (B * 1099511627776)) : ∃ m, mulS false a b = (m, false) ∧ Ab (2 * (m * 1099511627776 - a * b)) 1099511627776 ∧ Ab m B := by
  obtain ⟨m, e, h1, h2, _⟩ := mulS_near a b (ha.numB hK) (hb.numB hL) (by
    have s1 := sz_le ⟨ha.lo, ha.hi⟩
    have s2 := sz_le ⟨hb.lo, hb.hi⟩
    have k0 : 0 ≤ K := by have := ha.lo; have := ha.hi; omega
    have := Int.mul_le_mul s1 s2 (le_sz b).2.2 k0
    omega)
  have p := ha.mul hb
  have p1 := p.lo; have p2 := p.hi
  exact ⟨m, e, ⟨by omega, by omega⟩, ⟨by omega, by omega⟩⟩
theorem div_x {a d K lo hi B : Int} (ha : Ab a K) (h1 : lo ≤ d) (h2 : d ≤ hi) (hl : 0 < lo) (hK : K ≤ 4611686018427387904) (hh : hi ≤ 4611686018427387904) (h : K * 1099511627776 ≤ lo * 2305843009213693952) (hB : 2 * (K * 1099511627776) < (2 * B + 1) * lo) (B0 : 0 ≤ B) :
    ∃ m, divS false a d = (m, false) ∧ Ab (2 * (m * d - a * 1099511627776)) d ∧ Ab m B := by
  obtain ⟨m, e, d1, d2, _⟩ := partS_near a 1099511627776 d (ha.numB hK) (by rfl) (numB_of ⟨by omega, by omega⟩) (by omega) (by
    rw [show sz 1099511627776 = 1099511627776 by rfl]
    have := sz_le ⟨ha.lo, ha.hi⟩
    have := Int.mul_le_mul_of_nonneg_right h1 (show (0 : Int) ≤ 2305843009213693952 by decide)
    omega)
  have a1 := ha.lo; have a2 := ha.hi
  refine ⟨m, e, ⟨by omega, by omega⟩, ⟨?_, ?_⟩⟩
  · apply Classical.byContradiction
    intro g
    have q := Int.mul_le_mul (show 2 * B + 1 ≤ -2 * m - 1 by omega) h1 (by omega) (by omega)
    have e : (-2 * m - 1) * d = -(2 * (m * d)) - d := by grind
    rw [e] at q
    omega
  · apply Classical.byContradiction
    intro g
    have q := Int.mul_le_mul (show 2 * B + 1 ≤ 2 * m - 1 by omega) h1 (by omega) (by omega)
    have e : (2 * m - 1) * d = 2 * (m * d) - d := by grind
    rw [e] at q
    omega
theorem sqrt_x {a K B : Int} (h0 : 0 ≤ a) (hK : a ≤ K) (h : K ≤ 4611686018427387904) (hB : K * 1099511627776 < (B + 1) * (B + 1)) (B0 : 0 ≤ B) (hB' : B ≤ 4611686018427387904) :
    ∃ r, sqrtS false a = (r, false) ∧ 0 ≤ r ∧ r ≤ B ∧ r * r ≤ a * 1099511627776 ∧ a * 1099511627776 < (r + 1) * (r + 1) := by
  have hs := isq_spec (a * 1099511627776) (by omega) (by omega)
  have hb : isq (a * 1099511627776) ≤ B := by
    apply Classical.byContradiction
    intro g
    have := Int.mul_le_mul (show B + 1 ≤ isq (a * 1099511627776) by omega) (show B + 1 ≤ isq (a * 1099511627776) by omega) (by omega) (by omega)
    omega
  refine ⟨isq (a * 1099511627776), ?_, hs.1, hb, hs.2.1, hs.2.2⟩
  rw [sqrtS_yes (by simp [tk, show numB a = true from numB_of ⟨by omega, by omega⟩]) h0]
  unfold out sgnd
  rw [decide_eq_false (by omega), if_pos (by omega)]
  simp only [Bool.false_eq_true, if_false]
theorem mul_get {a b m : Int} (h : mulS false a b = (m, false)) : Ab (2 * (m * 1099511627776 - a * b)) 1099511627776 := by
  cases c : tk false [a, b]
  · rw [mulS_no c] at h; simp at h
  · rw [mulS_yes c] at h
    unfold out sgnd at h
    simp only [Prod.mk.injEq, decide_eq_false_iff_not] at h
    obtain ⟨h1, h2⟩ := h
    rw [if_pos (by omega)] at h1
    have e : sz a * sz b = a * b ∧ (decide (a < 0) != decide (b < 0)) = false ∨ sz a * sz b = -(a * b) ∧ (decide (a < 0) != decide (b < 0)) = true := by
      unfold sz
      by_cases h3 : a < 0 <;> by_cases h4 : b < 0 <;> simp [h3, h4, Int.neg_mul, Int.mul_neg]
    rcases e with ⟨e1, e2⟩ | ⟨e1, e2⟩
    · rw [e1] at h1 h2
      rw [e2] at h1
      simp at h1
      subst h1
      exact ⟨by omega, by omega⟩
    · rw [e1] at h1 h2
      rw [e2] at h1
      simp at h1
      subst h1
      exact ⟨by omega, by omega⟩
end Go.Proofs.YtmhcfkcpoecokaaDoor
namespace Go.Proofs.YtmhcfkcpoecokaaDoor

def pmul : List Int → List Int → List Int
  | [], _ => []
  | a :: l, m => padd (pscale a m) (0 :: pmul l m)
theorem evp_pmul : ∀ (l m : List Int) (x : Int), evp (pmul l m) x = evp l x * evp m x
  | [], m, x => by simp [pmul, evp]
  | a :: l, m, x => by
    unfold pmul
    rw [evp_padd, evp_scale]
    simp only [evp]
    rw [evp_pmul l m x]
    grind
def lOne : List Int := padd [-(kk * kk)] (padd (pmul lS lS) (pmul lC lC))
theorem lOne_eq (x : Int) : evp lOne x = pS x * pS x + pC x * pC x - kk * kk := by
  unfold lOne
  rw [evp_padd, evp_padd, evp_pmul, evp_pmul]
  simp only [evp]
  unfold pS pC
  grind
theorem lOne_small : evp (absl lOne) 1727108826179 * 1099511627776 ≤ kk * kk := by decide +kernel
theorem one_poly (x : Int) (h : -1727108826179 ≤ x ∧ x ≤ 1727108826179) : -(kk * kk) ≤ (pS x * pS x + pC x * pC x - kk * kk) * 1099511627776 ∧ (pS x * pS x + pC x * pC x - kk * kk) * 1099511627776 ≤ kk * kk := by
  have a := evp_abs lOne x 1727108826179 h
  have k := lOne_small
  rw [lOne_eq] at a
  omega
/-- A square, of what is near P / K. -/
theorem Nr.sq {S P B : Int} (h : Nr kk S P) (hb : Ab S B) : Ab (S * S * (kk * kk) - 1208925819614629174706176 * (P * P)) ((6 * B + 9) * (kk * kk)) := by
  have d : Ab (S * kk - 1099511627776 * P) (3 * kk) := ⟨h.lo, h.hi⟩
  have k0 : Ab kk kk := ⟨by have := kk_pos; omega, by omega⟩
  have s2 : Ab (S * kk + 1099511627776 * P) ((2 * B + 3) * kk) := by
    have m := hb.mul k0
    have m1 := m.lo; have m2 := m.hi; have d1 := d.lo; have d2 := d.hi
    have e : (2 * B + 3) * kk = 2 * (B * kk) + 3 * kk := by grind
    rw [e]
    exact ⟨by omega, by omega⟩
  have p := d.mul s2
  have e1 : (S * kk - 1099511627776 * P) * (S * kk + 1099511627776 * P) = S * S * (kk * kk) - 1208925819614629174706176 * (P * P) := by grind
  have e2 : 3 * kk * ((2 * B + 3) * kk) = (6 * B + 9) * (kk * kk) := by grind
  rw [e1, e2] at p
  exact p
theorem one_sharp {t S C : Int} (ht : 0 ≤ t ∧ t ≤ 1727108826179) (hS : Nr kk S (pS t)) (hC : Nr kk C (pC t)) (bS : Ab S 1099511627832) (bC : Ab C 1099511627832) : Ab (C * C + S * S - 1208925819614629174706176) 14293651161829 := by
  have a := hS.sq bS
  have b := hC.sq bC
  have p := one_poly t (by omega)
  have kp : 0 < kk * kk := Int.mul_pos kk_pos kk_pos
  have can : ∀ {X Y : Int}, X * (kk * kk) ≤ Y * (kk * kk) → X ≤ Y := fun h => Int.le_of_mul_le_mul_right h kp
  have a1 := a.lo; have a2 := a.hi; have b1 := b.lo; have b2 := b.hi
  have e : (C * C + S * S - 1208925819614629174706176) * (kk * kk) = S * S * (kk * kk) - 1208925819614629174706176 * (pS t * pS t) + (C * C * (kk * kk) - 1208925819614629174706176 * (pC t * pC t)) + 1099511627776 * ((pS t * pS t + pC t * pC t - kk * kk) * 1099511627776) := by grind
  refine ⟨can ?_, can ?_⟩
  · rw [e]
    generalize kk * kk = Q at *
    generalize (pS t * pS t + pC t * pC t - Q) * 1099511627776 = W at *
    omega
  · rw [e]
    generalize kk * kk = Q at *
    generalize (pS t * pS t + pC t * pC t - Q) * 1099511627776 = W at *
    omega
/-- A sine and a cosine of one angle, sharper. -/
structure Scs (s c : Int) : Prop where
  sb : Ab s 1099511627832
  cb : Ab c 1099511627832
  cs : Ab (c * c + s * s - 1208925819614629174706176) 14293651161829
theorem scs_at (a : Int) (h : numB a = true) : ∃ s c, sinA false a = (s, false) ∧ cosA false a = (c, false) ∧ Scs s c := by
  obtain ⟨s, c, es, ec, sb, cb⟩ := sc_bd a h
  refine ⟨s, c, es, ec, sb, cb, ?_⟩
  obtain ⟨k, t, S, C, k0, k3, t0, t1, _, nS, nC, eS, eC⟩ := angle a h
  rw [es] at eS
  rw [ec] at eC
  simp only [Prod.mk.injEq, and_true] at eS eC
  have q := sel_sq k S C ⟨k0, k3⟩
  have o := (one_near (t := t) ⟨t0, by omega⟩ nS nC).1
  have S0 := sq_nonneg S
  have C0 := sq_nonneg C
  have bs : ∀ {x : Int}, x * x ≤ 1208925819614629174706176 + 111 * 1099511627776 + 18 → Ab x 1099511627832 := fun {x} hx => by
    refine ⟨?_, ?_⟩
    · apply Classical.byContradiction
      intro g
      have := Int.mul_le_mul (show 1099511627833 ≤ -x by omega) (show 1099511627833 ≤ -x by omega) (by decide) (by omega)
      rw [Int.neg_mul_neg] at this
      omega
    · apply Classical.byContradiction
      intro g
      have := Int.mul_le_mul (show 1099511627833 ≤ x by omega) (show 1099511627833 ≤ x by omega) (by decide) (by omega)
      omega
  have z := one_sharp (t := t) ⟨t0, by omega⟩ nS nC (bs (by omega)) (bs (by omega))
  rw [← eS, ← eC] at q
  have z1 := z.lo; have z2 := z.hi
  exact ⟨by omega, by omega⟩
end Go.Proofs.YtmhcfkcpoecokaaDoor
namespace Go.Proofs.YtmhcfkcpoecokaaDoor
open Go.RowKit

def cRight (t : Int) : Bool := decide (0 ≤ t) && decide (t ≤ 157766400000)
def cDaysS (bad : Bool) (t : Int) : Int × Bool := if cRight t then partS bad 1099511627776 t 86400000 else (0, true)
/-- A tick in days, of a right one. -/
def cDay (t : Int) : Int := rnd (1099511627776 * t) 86400000
def cSince (t : Int) : Int := rnd (6908435304716 * (t % 86400000)) 86400000
def cBeyond (t : Int) : Int := rnd (18914669620 * cDay t) 1099511627776
def cTurnS (bad : Bool) (t : Int) : Int × Bool := if cRight t && !bad then ((5399947124839 + cSince t + cBeyond t) % 6908435304716, false) else (0, true)
theorem cRight_in {t : Int} (h0 : 0 ≤ t) (h1 : t ≤ 157766400000) : cRight t = true := by unfold cRight; rw [decide_eq_true h0, decide_eq_true h1]; rfl
theorem cRight_out {t : Int} (h : ¬ (0 ≤ t ∧ t ≤ 157766400000)) : cRight t = false := by
  unfold cRight
  by_cases a : 0 ≤ t
  · rw [decide_eq_false (p := t ≤ 157766400000) (by omega), Bool.and_false]
  · rw [decide_eq_false a]; rfl
theorem cRight_cases (t : Int) : (0 ≤ t ∧ t ≤ 157766400000) ∨ ¬ (0 ≤ t ∧ t ≤ 157766400000) := Classical.em _
/-- All steps of Turn, at a right tick. -/
structure CSteps (t : Int) : Prop where
  day : partS false 1099511627776 t 86400000 = (cDay t, false)
  part : partS false 6908435304716 (t % 86400000) 86400000 = (cSince t, false)
  mul : mulS false 18914669620 (cDay t) = (cBeyond t, false)
  add : addS false 5399947124839 (cSince t) = (5399947124839 + cSince t, false)
  sum : addS false (5399947124839 + cSince t) (cBeyond t) = (5399947124839 + cSince t + cBeyond t, false)
  mod : modS false (5399947124839 + cSince t + cBeyond t) 6908435304716 = ((5399947124839 + cSince t + cBeyond t) % 6908435304716, false)
theorem cSteps {t : Int} (h0 : 0 ≤ t) (h1 : t ≤ 157766400000) : CSteps t := by
  have d0 : 0 ≤ cDay t ∧ cDay t ≤ 2007708232318976 := by unfold cDay rnd; omega
  have p0 : 0 ≤ cSince t ∧ cSince t ≤ 6908435304716 := by unfold cSince rnd; omega
  have q0 : 0 ≤ cBeyond t ∧ cBeyond t ≤ 35000000000000 := by unfold cBeyond rnd; omega
  constructor
  · exact part_up (by decide) (by decide) h0 (by omega) (by decide) (by decide) (show cDay t ≤ _ by omega)
  · exact part_up (by decide) (by decide) (by omega) (by omega) (by decide) (by decide) (show cSince t ≤ _ by omega)
  · exact part_up (by decide) (by decide) (by omega) (by omega) (by decide) (by decide) (show cBeyond t ≤ _ by omega)
  · exact add_up (by decide) (by omega) (by omega)
  · exact add_up (by omega) (by omega) (by omega)
  · exact mod_up (by omega) (by omega) (by decide) (by decide)
theorem cDaysS_in {t : Int} (h0 : 0 ≤ t) (h1 : t ≤ 157766400000) : cDaysS false t = (cDay t, false) := by unfold cDaysS; rw [cRight_in h0 h1, if_pos rfl, (cSteps h0 h1).day]
theorem cDaysS_out (bad : Bool) {t : Int} (h : ¬ (0 ≤ t ∧ t ≤ 157766400000)) : cDaysS bad t = (0, true) := by unfold cDaysS; rw [cRight_out h]; rfl
theorem cTurnS_in {t : Int} (h0 : 0 ≤ t) (h1 : t ≤ 157766400000) : cTurnS false t = ((5399947124839 + cSince t + cBeyond t) % 6908435304716, false) := by unfold cTurnS; rw [cRight_in h0 h1]; rfl
theorem cTurnS_out (bad : Bool) {t : Int} (h : ¬ (0 ≤ t ∧ t ≤ 157766400000)) : cTurnS bad t = (0, true) := by unfold cTurnS; rw [cRight_out h]; rfl
theorem cTurnS_bad (t : Int) : cTurnS true t = (0, true) := by unfold cTurnS; rw [show (!true) = false from rfl, Bool.and_false]; rfl
/-- A day later. -/
theorem cDaily {t : Int} (h0 : 0 ≤ t) (h1 : t ≤ 157680000000) : ∃ A B, cTurnS false t = (A, false) ∧ cTurnS false (t + 86400000) = (B, false) ∧ 0 ≤ A ∧ A < 6908435304716 ∧ 0 ≤ B ∧ B < 6908435304716 ∧ modS false (B - A) 6908435304716 = (18914669620, false) := by
  refine ⟨_, _, cTurnS_in h0 (by omega), cTurnS_in (by omega) (by omega), by omega, by omega, by omega, by omega, ?_⟩
  have e1 : cDay (t + 86400000) = cDay t + 1099511627776 := by
    unfold cDay
    rw [show 1099511627776 * (t + 86400000) = 1099511627776 * t + 1099511627776 * 86400000 by omega]
    exact rnd_more _ _ (by decide)
  have e2 : cBeyond (t + 86400000) = cBeyond t + 18914669620 := by
    unfold cBeyond
    rw [e1, show 18914669620 * (cDay t + 1099511627776) = 18914669620 * cDay t + 18914669620 * 1099511627776 by omega]
    exact rnd_more _ _ (by decide)
  have e3 : cSince (t + 86400000) = cSince t := by unfold cSince; rw [show (t + 86400000) % 86400000 = t % 86400000 by omega]
  rw [e2, e3, mod_up (by omega) (by omega) (by decide) (by decide)]
  exact Prod.ext (by show (_ : Int) = _; omega) rfl
end Go.Proofs.YtmhcfkcpoecokaaDoor
namespace Go.Proofs.YtmhcfkcpoecokaaDoor
open Go.RowKit

theorem partS_rng (bad : Bool) (a p q : Int) : -4611686018427387904 ≤ (partS bad a p q).1 ∧ (partS bad a p q).1 ≤ 4611686018427387904 := by
  cases h : (partS bad a p q).2
  · unfold partS at h ⊢
    split
    · rename_i c
      rw [if_pos c] at h
      have hq : q ≠ 0 := by intro e; subst e; simp at c
      have hp : 0 ≤ rnd (sz a * sz p) (sz q) := rnd_nonneg (Int.mul_nonneg (by unfold sz; split <;> omega) (by unfold sz; split <;> omega)) (by unfold sz; split <;> omega)
      have g := out_good _ _ h
      rw [g.2]
      split <;> omega
    · exact ⟨by decide, by decide⟩
  · rw [partS_bad bad a p q h]
    exact ⟨by decide, by decide⟩
theorem divS_rng (bad : Bool) (a b : Int) : -4611686018427387904 ≤ (divS bad a b).1 ∧ (divS bad a b).1 ≤ 4611686018427387904 := partS_rng _ _ _ _
theorem addS_step {bad : Bool} {a b : Int} {r : Int × Bool} (e : addS bad a b = r) (h : r.2 = false) : bad = false ∧ numB a = true ∧ numB b = true := by
  subst e
  cases ht : tk bad [a, b]
  · rw [addS_no ht] at h; cases h
  · exact tk_two ht
theorem rod_rng {bad : Bool} {q : V4} {r1 r2 r3 r4 : Int × Bool} (e1 : addS bad q.1 0 = r1) (e2 : addS r1.2 q.2.1 0 = r2) (e3 : addS r2.2 q.2.2.1 0 = r3) (e4 : addS r3.2 q.2.2.2 0 = r4) (h : r4.2 = false) :
    (-4611686018427387904 ≤ q.1 ∧ q.1 ≤ 4611686018427387904) ∧ (-4611686018427387904 ≤ q.2.1 ∧ q.2.1 ≤ 4611686018427387904) ∧ (-4611686018427387904 ≤ q.2.2.1 ∧ q.2.2.1 ≤ 4611686018427387904) ∧ (-4611686018427387904 ≤ q.2.2.2 ∧ q.2.2.2 ≤ 4611686018427387904) := by
  have s4 := addS_step e4 h
  have s3 := addS_step e3 s4.1
  have s2 := addS_step e2 s3.1
  have s1 := addS_step e1 s2.1
  exact ⟨numB_bd s1.2.1, numB_bd s2.2.1, numB_bd s3.2.1, numB_bd s4.2.1⟩
end Go.Proofs.YtmhcfkcpoecokaaDoor
namespace Go.Proofs.YtmhcfkcpoecokaaDoor

theorem partS_true (a p q : Int) : partS true a p q = (0, true) := partS_no (tk_true _)
theorem sqrtS_true (a : Int) : sqrtS true a = (0, true) := sqrtS_no (tk_true _)
theorem modS_true (a m : Int) : modS true a m = (0, true) := modS_no (tk_true _)
theorem cDaysS_true (t : Int) : cDaysS true t = (0, true) := by
  unfold cDaysS
  split
  · exact partS_true _ _ _
  · rfl
end Go.Proofs.YtmhcfkcpoecokaaDoor
namespace Go.Proofs.YtmhcfkcpoecokaaDoor

def at0L : List Int := [-293500, 0, -14103, 45455, -25562, 0, 29509, -31336, 16487, -8142, 13609, 0, -24042, -569, 12438, 2376, 4534, -5496, 8947, 0, 7996, 2786, 558, -1340, -2811, 2120, 120, -3754, -2329, 0, 3690, 453, 1872, 2200, -1387, -1229, -1419, 429, 209, 1062, 643, 0, 638, -184, 767, 168, -1157, 489, -409, -598, 149, 109, -608, 728]
def yr0L : List Int := [126, 0, 100, -215, -112, 0, -53, -273, -83, -111]
def at0 (i : Nat) : Int := at0L.getD i 0
def yr0 (i : Nat) : Int := yr0L.getD i 0
/-- Where a degree and an order stand in the tables. -/
def nIdx (n m : Nat) : Nat := n * (n + 1) / 2 - 1 + m
end Go.Proofs.YtmhcfkcpoecokaaDoor
namespace Go.Proofs.YtmhcfkcpoecokaaDoor

/-- The root of n n - m m. -/
def rootS (bad : Bool) (n m : Int) : Int × Bool := sqrtS bad ((n * n - m * m) * 1099511627776)
/-- How a degree and an order come to a and b. -/
structure RootT (n m a b : Int) : Type where
  (k1 k2 p : Int)
  h1 : rootS false n m = (k1, false)
  h2 : rootS false (n - 1) m = (k2, false)
  h3 : divS false k2 k1 = (a, false)
  h4 : partS false 1099511627776 (2 * n - 1) 1 = (p, false)
  h5 : divS false p k1 = (b, false)
/-- P and D of one degree more. -/
structure EntT (c s b a x1 x2 y1 y2 z1 z2 : Int) : Type where
  (v1 v2 v3 v5 v6 v7 v8 v9 : Int)
  h1 : mulS false c x1 = (v1, false)
  h2 : mulS false b v1 = (v2, false)
  h3 : mulS false a y1 = (v3, false)
  h4 : subS false v2 v3 = (z1, false)
  h5 : mulS false c x2 = (v5, false)
  h6 : mulS false s x1 = (v6, false)
  h7 : subS false v5 v6 = (v7, false)
  h8 : mulS false b v7 = (v8, false)
  h9 : mulS false a y2 = (v9, false)
  h10 : subS false v8 v9 = (z2, false)
/-- Q of one degree more. -/
structure EntQ (c b a x3 y3 z3 : Int) : Type where
  (v1 v2 v3 : Int)
  h1 : mulS false c x3 = (v1, false)
  h2 : mulS false b v1 = (v2, false)
  h3 : mulS false a y3 = (v3, false)
  h4 : subS false v2 v3 = (z3, false)
/-- Those of order n. -/
structure DiaT (n c s x1 x2 x3 z1 z2 z3 : Int) : Type where
  (p j v1 v3 v4 v5 v7 : Int)
  hp : partS false 1099511627776 (2 * n - 1) (2 * n) = (p, false)
  hj : sqrtS false p = (j, false)
  h1 : mulS false s x1 = (v1, false)
  h2 : mulS false j v1 = (z1, false)
  h3 : mulS false s x2 = (v3, false)
  h4 : mulS false c x1 = (v4, false)
  h5 : addS false v3 v4 = (v5, false)
  h6 : mulS false j v5 = (z2, false)
  h7 : mulS false s x3 = (v7, false)
  h8 : mulS false j v7 = (z3, false)
/-- The cosine and the sine of one multiple more of the longitude. -/
structure WaveT (C S u v C' S' : Int) : Type where
  (v1 v2 v4 v5 : Int)
  h1 : mulS false C u = (v1, false)
  h2 : mulS false S v = (v2, false)
  h3 : subS false v1 v2 = (C', false)
  h4 : mulS false S u = (v4, false)
  h5 : mulS false C v = (v5, false)
  h6 : addS false v4 v5 = (S', false)
/-- What one degree and order add. -/
structure TermT (n m t C S g h P D Q up so ea up' so' ea' : Int) : Type where
  (v1 v2 e v4 v5 o y1 z1 p1 y2 z2 y3 z3 p3 : Int)
  h1 : mulS false g C = (v1, false)
  h2 : mulS false h S = (v2, false)
  h3 : addS false v1 v2 = (e, false)
  h4 : mulS false g S = (v4, false)
  h5 : mulS false h C = (v5, false)
  h6 : subS false v4 v5 = (o, false)
  i1 : mulS false e P = (y1, false)
  j1 : mulS false t y1 = (z1, false)
  q1 : partS false z1 (n + 1) 1 = (p1, false)
  a1 : addS false up p1 = (up', false)
  i2 : mulS false e D = (y2, false)
  j2 : mulS false t y2 = (z2, false)
  a2 : subS false so z2 = (so', false)
  i3 : mulS false o Q = (y3, false)
  j3 : mulS false t y3 = (z3, false)
  q3 : partS false z3 m 1 = (p3, false)
  a3 : addS false ea p3 = (ea', false)
  a0 : m = 0 → ea' = ea
/-- Up, south and east as x, y and z. -/
structure VecT (c s u v up so ea x y z : Int) : Type where
  (v1 v2 a v4 v5 v7 v8 v10 v11 : Int)
  h1 : mulS false up s = (v1, false)
  h2 : mulS false so c = (v2, false)
  h3 : addS false v1 v2 = (a, false)
  h4 : mulS false a u = (v4, false)
  h5 : mulS false ea v = (v5, false)
  h6 : subS false v4 v5 = (x, false)
  h7 : mulS false a v = (v7, false)
  h8 : mulS false ea u = (v8, false)
  h9 : addS false v7 v8 = (y, false)
  h10 : mulS false up c = (v10, false)
  h11 : mulS false so s = (v11, false)
  h12 : subS false v10 v11 = (z, false)
end Go.Proofs.YtmhcfkcpoecokaaDoor
