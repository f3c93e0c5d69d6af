/-
  What package trig works out, step by step, as plain functions of numbers, for the seat YtoadcnhcfodkgaaGreatDoor. No Go text in sight.
-/
import Derived.Test.YtoadcnhcfodkgaaGreatDoorMath
namespace Go.Proofs.YtoadcnhcfodkgaaGreatDoor
open Go.RowKit

/-! ### One round of a series, and the series -/
def stepS (u d : Int) (p : Int × Bool) : Int × Bool :=
  subS (partS (mulS p.2 u p.1).2 (mulS p.2 u p.1).1 1 d).2 1099511627776 (partS (mulS p.2 u p.1).2 (mulS p.2 u p.1).1 1 d).1
def serS (dd : Int → Int) (u : Int) : Nat → Int × Bool → Int × Bool
  | 0, p => p
  | n + 1, p => serS dd u n (stepS u (dd (n + 1)) p)
def dSin (n : Int) : Int := 2 * n * (2 * n + 1)
def dCos (n : Int) : Int := (2 * n - 1) * 2 * n
def cosS (bad : Bool) (t : Int) : Int × Bool := serS dCos (mulS bad t t).1 10 (1099511627776, (mulS bad t t).2)
def sinV (bad : Bool) (t : Int) : Int × Bool := serS dSin (mulS bad t t).1 10 (1099511627776, (mulS bad t t).2)
def sinS (bad : Bool) (t : Int) : Int × Bool := mulS (sinV bad t).2 t (sinV bad t).1
theorem dSin_wrap (n : Int) (h : 1 ≤ n ∧ n ≤ 10) : wrap64 (2 * n * (2 * n + 1)) = dSin n := by
  have : n = 1 ∨ n = 2 ∨ n = 3 ∨ n = 4 ∨ n = 5 ∨ n = 6 ∨ n = 7 ∨ n = 8 ∨ n = 9 ∨ n = 10 := by omega
  unfold wrap64 dSin
  rcases this with rfl | rfl | rfl | rfl | rfl | rfl | rfl | rfl | rfl | rfl <;> decide
theorem dCos_wrap (n : Int) (h : 1 ≤ n ∧ n ≤ 10) : wrap64 ((2 * n - 1) * 2 * n) = dCos n := by
  have : n = 1 ∨ n = 2 ∨ n = 3 ∨ n = 4 ∨ n = 5 ∨ n = 6 ∨ n = 7 ∨ n = 8 ∨ n = 9 ∨ n = 10 := by omega
  unfold wrap64 dCos
  rcases this with rfl | rfl | rfl | rfl | rfl | rfl | rfl | rfl | rfl | rfl <;> decide
theorem serS_round (dd : Int → Int) (u n : Int) (p T : Int × Bool) (h : 1 ≤ n) (e : serS dd u n.toNat p = T) : serS dd u (n - 1).toNat (stepS u (dd n) p) = T := by
  have : n.toNat = (n - 1).toNat + 1 := by omega
  rw [this] at e
  have e2 : (((n - 1).toNat : Nat) : Int) + 1 = n := by omega
  simpa only [serS, e2] using e
/-! ### Angles: the quarter in which one ends, and how far in it -/
def rest4 (bad : Bool) (a : Int) : Int := (modS bad a 6908435304716).1
def badM (bad : Bool) (a : Int) : Bool := (modS bad a 6908435304716).2
theorem rest4_bd (bad : Bool) (a : Int) : 0 ≤ rest4 bad a ∧ rest4 bad a < 6908435304716 := by
  unfold rest4 modS
  split
  · exact ⟨Int.emod_nonneg _ (by decide), Int.emod_lt_of_pos _ (by decide)⟩
  · decide
def quart (bad : Bool) (a : Int) : Int := rest4 bad a / 1727108826179
def inq (bad : Bool) (a : Int) : Int := rest4 bad a - quart bad a * 1727108826179
theorem quart_bd (bad : Bool) (a : Int) : 0 ≤ quart bad a ∧ quart bad a ≤ 3 ∧ 0 ≤ inq bad a ∧ inq bad a < 1727108826179 := by
  have := rest4_bd bad a
  unfold inq quart
  omega
def neg1 (p : Int × Bool) : Int × Bool := (-p.1, p.2)
def pick (k : Int) (bad : Bool) (t : Int) : Int × Bool :=
  if k = 0 then sinS bad t else if k = 1 then cosS bad t else if k = 2 then neg1 (sinS bad t) else neg1 (cosS bad t)
theorem pick_0 (bad : Bool) (t : Int) : pick 0 bad t = sinS bad t := if_pos rfl
theorem pick_1 (bad : Bool) (t : Int) : pick 1 bad t = cosS bad t := by unfold pick; rw [if_neg (by decide), if_pos rfl]
theorem pick_2 (bad : Bool) (t : Int) : pick 2 bad t = neg1 (sinS bad t) := by unfold pick; rw [if_neg (by decide), if_neg (by decide), if_pos rfl]
theorem pick_3 (bad : Bool) (t : Int) : pick 3 bad t = neg1 (cosS bad t) := by unfold pick; rw [if_neg (by decide), if_neg (by decide), if_neg (by decide)]
theorem neg1_1 (p : Int × Bool) : (neg1 p).1 = -p.1 := rfl
theorem neg1_2 (p : Int × Bool) : (neg1 p).2 = p.2 := rfl
def sinA (bad : Bool) (a : Int) : Int × Bool := pick (quart bad a) (badM bad a) (inq bad a)
def cosA (bad : Bool) (a : Int) : Int × Bool := pick (if quart bad a = 3 then 0 else quart bad a + 1) (badM bad a) (inq bad a)

/-! ### What any step answers fits, and a bad flow stays so -/
theorem sgnd_fits (n : Int) (m : Bool) (h : 0 ≤ n) : -4611686018427387904 ≤ sgnd n m ∧ sgnd n m ≤ 4611686018427387904 := by
  unfold sgnd
  split
  · split <;> omega
  · decide
theorem partS_fits (bad : Bool) (a p q : Int) : -4611686018427387904 ≤ (partS bad a p q).1 ∧ (partS bad a p q).1 ≤ 4611686018427387904 := by
  unfold partS
  split
  · rename_i c
    have c1 : tk bad [a, p, q] = true ∧ (q != 0) = true := by simpa using c
    have ht := tk_three c1.1
    exact sgnd_fits _ _ (rnd_nonneg (sz_mul_bd ht.2.1 ht.2.2.1).1 (sz_pos c1.2))
  · decide
theorem gv_fits (n : Int) : -4611686018427387904 ≤ (gv n).1 ∧ (gv n).1 ≤ 4611686018427387904 := by
  unfold gv
  cases c : numB n
  · exact ⟨by show -4611686018427387904 ≤ (0 : Int); decide, by show (0 : Int) ≤ 4611686018427387904; decide⟩
  · simpa using numB_bd c
theorem subS_fits (bad : Bool) (a b : Int) : -4611686018427387904 ≤ (subS bad a b).1 ∧ (subS bad a b).1 ≤ 4611686018427387904 := by
  unfold subS
  split
  · exact gv_fits _
  · decide
theorem serS_fits (dd : Int → Int) (u : Int) : ∀ (n : Nat) (p : Int × Bool), (-4611686018427387904 ≤ p.1 ∧ p.1 ≤ 4611686018427387904) → -4611686018427387904 ≤ (serS dd u n p).1 ∧ (serS dd u n p).1 ≤ 4611686018427387904
  | 0, _, h => h
  | n + 1, _, _ => serS_fits dd u n _ (subS_fits _ _ _)
theorem sinS_fits (bad : Bool) (t : Int) : -4611686018427387904 ≤ (sinS bad t).1 ∧ (sinS bad t).1 ≤ 4611686018427387904 := by
  unfold sinS mulS
  exact partS_fits _ _ _ _
theorem cosS_fits (bad : Bool) (t : Int) : -4611686018427387904 ≤ (cosS bad t).1 ∧ (cosS bad t).1 ≤ 4611686018427387904 := by
  unfold cosS
  exact serS_fits _ _ _ _ ⟨by show -4611686018427387904 ≤ (1099511627776 : Int); decide, by show (1099511627776 : Int) ≤ 4611686018427387904; decide⟩
theorem stepS_bad (u d v : Int) : stepS u d (v, true) = (0, true) := rfl
theorem serS_bad (dd : Int → Int) (u : Int) : ∀ (n : Nat) (v : Int), (serS dd u n (v, true)).2 = true
  | 0, _ => rfl
  | n + 1, v => by unfold serS; rw [stepS_bad]; exact serS_bad dd u n 0
theorem sinS_true (t : Int) : sinS true t = (0, true) := by
  have h : (sinV true t).2 = true := serS_bad _ _ _ _
  unfold sinS
  rw [h]
  rfl
theorem sinA_true (a : Int) : sinA true a = (0, true) := by
  have q : quart true a = 0 := rfl
  have i : inq true a = 0 := rfl
  have m : badM true a = true := rfl
  unfold sinA pick
  rw [q, i, m, if_pos rfl, sinS_true]
theorem serS_dbl (dd : Int → Int) (u : Int) : ∀ (n : Nat) (v : Int), 0 < n → serS dd u n (v, true) = (0, true)
  | 1, _, _ => rfl
  | n + 2, v, _ => by
    rw [show serS dd u (n + 2) (v, true) = serS dd u (n + 1) (stepS u (dd ((n + 1 : Nat) + 1)) (v, true)) from rfl, stepS_bad]
    exact serS_dbl dd u (n + 1) 0 (by omega)
theorem cosS_true (t : Int) : cosS true t = (0, true) := serS_dbl _ _ 10 _ (by decide)
theorem cosA_true (a : Int) : cosA true a = (0, true) := by
  have q : quart true a = 0 := rfl
  have m : badM true a = true := rfl
  unfold cosA pick
  rw [q, m, if_neg (by decide), if_pos (by decide), cosS_true]
theorem mod_bad0 {bad : Bool} {a : Int} (h : badM bad a = true) : rest4 bad a = 0 := by
  unfold badM modS at h
  unfold rest4 modS
  split at h
  · cases h
  · rename_i c; rw [if_neg c]
theorem sinA_bad {bad : Bool} {a : Int} (h : badM bad a = true) : sinA bad a = (0, true) := by
  have r := mod_bad0 h
  have q : quart bad a = 0 := by unfold quart; rw [r]; rfl
  unfold sinA pick
  rw [q, h, if_pos rfl, sinS_true]
theorem cosA_bad {bad : Bool} {a : Int} (h : badM bad a = true) : cosA bad a = (0, true) := by
  have r := mod_bad0 h
  have q : quart bad a = 0 := by unfold quart; rw [r]; rfl
  unfold cosA pick
  rw [q, h, if_neg (by decide), if_pos (by decide), cosS_true]
end Go.Proofs.YtoadcnhcfodkgaaGreatDoor
