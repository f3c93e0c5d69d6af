/-
  Plain arithmetic and plain facts on memory for the seat Ytpceomcnknjiiaa: numbers, rounding, roots, words of 64 bits, and what a call that writes one flow alone keeps. No Go text in sight.
  A day later the Earth has turned once, and 18914669620 last bits more, to the bit, for the seat Ytpceomcnknjiiaa. No Go text in sight.
  What package clock's functions answer, as plain steps, for the seat Ytpceomcnknjiiaa. No Go text in sight.
  What package trig works out, step by step, as plain functions of numbers, for the seat Ytpceomcnknjiiaa. No Go text in sight.
  How near rounded products, quotients and roots are to what they stand for, for the seat Ytpceomcnknjiiaa. No Go text in sight.
  Rounded products, quotients and roots (Near), beside package trig's steps, for the seat Ytpceomcnknjiiaa. No Go text in sight.
  Polynomials of one and of two unknowns with integer numbers, and bounds of what they come to, for the seat Ytpceomcnknjiiaa. No Go text in sight.
  How near the rounded series are to their polynomials, for the seat Ytpceomcnknjiiaa. No Go text in sight.
  Sines and cosines: how near they are to polynomials, and what those of a sum are, for the seat Ytpceomcnknjiiaa. No Go text in sight.
  The squares of a sine and a cosine together, and the sine and the cosine of a sum, as they are worked, for the seat Ytpceomcnknjiiaa. No Go text in sight.
  What package vec's functions answer, as plain steps, for the seat Ytpceomcnknjiiaa. No Go text in sight. (Made by mkvec.py.)
  What package alidaderef03's functions answer, as plain steps, for the seat Ytpceomcnknjiiaa. No Go text in sight. (Made by mkref03.py.)
  What package quat's functions answer, as plain steps, for the seat Ytpceomcnknjiiaa. No Go text in sight. (Made by mkquat.py.)
  What package alidaderef04's functions answer, as plain steps, for the seat Ytpceomcnknjiiaa. No Go text in sight. (Made by mkref04.py.)
  Package vec's steps and the reference's are the same; units, and how near they are, for the seat Ytpceomcnknjiiaa. No Go text in sight.
  Package quat's steps and the reference's are the same; units, for the seat Ytpceomcnknjiiaa. No Go text in sight.
  How near rounded turns are to turns, for the seat Ytpceomcnknjiiaa. No Go text in sight.
  Sines and cosines of small angles, as they are worked, for the seat Ytpceomcnknjiiaa. No Go text in sight.
  Kepler's angle, by six rounds: what it makes of his equation, for the seat Ytpceomcnknjiiaa. No Go text in sight.
  How far a place is, as it is worked (OrbitFar), for the seat Ytpceomcnknjiiaa. No Go text in sight.
  A flow that is bad answers 0 to these as well, for the seat Ytpceomcnknjiiaa. No Go text in sight.
  A place is as far as the ellipse lets it be (OrbitFar), for the seat Ytpceomcnknjiiaa. No Go text in sight.
  All that Place works, step by step, of right elements at right ticks: nothing goes bad, for the seat Ytpceomcnknjiiaa. No Go text in sight.
  The angles that Place works, of right elements: nothing goes bad, for the seat Ytpceomcnknjiiaa. No Go text in sight.
  A place, of its angles: its steps, and how far it is (OrbitFar), for the seat Ytpceomcnknjiiaa. No Go text in sight.
  A place stands in its plane (OrbitPlane), for the seat Ytpceomcnknjiiaa. No Go text in sight.
  What package orbit's functions answer, as plain steps, for the seat Ytpceomcnknjiiaa. No Go text in sight. (Made by mkorbit.py.)
-/
import Derived.WalkKit
import Derived.WalkSpells
import Derived.WalkLawsBesides
import Derived.Laws.BitsAllLaws
namespace Go.Proofs.Ytpceomcnknjiiaa
open Go.RowKit

/-! ### Words of 64 bits -/
/-- The high word, the low word. -/
def hi64 (n : Int) : Int := n / 18446744073709551616
def lo64 (n : Int) : Int := n % 18446744073709551616
theorem hi64_bd (n : Int) (h0 : 0 ≤ n) (h : n < 340282366920938463463374607431768211456) : 0 ≤ hi64 n ∧ hi64 n ≤ 18446744073709551615 := by unfold hi64; omega
theorem lo64_bd (n : Int) : 0 ≤ lo64 n ∧ lo64 n ≤ 18446744073709551615 := by unfold lo64; omega
theorem hilo (n : Int) : hi64 n * 18446744073709551616 + lo64 n = n := by unfold hi64 lo64; omega

/-! ### Numbers -/
def numB (n : Int) : Bool := decide (-4611686018427387904 ≤ n) && decide (n ≤ 4611686018427387904)

theorem numB_bd {n : Int} (h : numB n = true) : -4611686018427387904 ≤ n ∧ n ≤ 4611686018427387904 := by unfold numB at h; simpa using h
/-- A number's size. -/
def sz (n : Int) : Int := if n < 0 then -n else n
/-- What fits no word is the greatest one. -/
def sat64 (n : Int) : Int := if n ≤ 18446744073709551615 then n else 18446744073709551615

/-- A size and a sign as a number; 0 where the size is too great. -/
def sgnd (n : Int) (minus : Bool) : Int := if n ≤ 4611686018427387904 then (if minus then -n else n) else 0
theorem sgnd_in (n : Int) (minus : Bool) (c : n ≤ 4611686018427387904) : (if minus then -n else n) = sgnd n minus := by unfold sgnd; rw [if_pos c]
theorem sgnd_out (n : Int) (minus : Bool) (c : ¬ n ≤ 4611686018427387904) : 0 = sgnd n minus := by unfold sgnd; rw [if_neg c]

/-- Is all well so far, and are these numbers? -/
def tk (bad : Bool) (zs : List Int) : Bool := !bad && zs.all numB
theorem tk_not (bad : Bool) (zs : List Int) : (bad || !zs.all numB) = !tk bad zs := by unfold tk; cases bad <;> simp
theorem tk_two {bad : Bool} {a b : Int} (h : tk bad [a, b] = true) : bad = false ∧ numB a = true ∧ numB b = true := by unfold tk at h; simp at h; exact ⟨h.1, h.2.1, h.2.2⟩
theorem tk_one {bad : Bool} {a : Int} (h : tk bad [a] = true) : bad = false ∧ numB a = true := by unfold tk at h; simp at h; exact ⟨h.1, h.2⟩
theorem tk_three {bad : Bool} {a b c : Int} (h : tk bad [a, b, c] = true) : bad = false ∧ numB a = true ∧ numB b = true ∧ numB c = true := by unfold tk at h; simp at h; exact ⟨h.1, h.2.1, h.2.2.1, h.2.2.2⟩
/-! ### What each method answers, and whether the flow is bad behind it -/
def gv (n : Int) : Int × Bool := (if numB n then n else 0, !numB n)
def out (n : Int) (minus : Bool) : Int × Bool := (sgnd n minus, decide (4611686018427387904 < n))
def addS (bad : Bool) (a b : Int) : Int × Bool := if tk bad [a, b] then gv (a + b) else (0, true)
def subS (bad : Bool) (a b : Int) : Int × Bool := if tk bad [a, b] then gv (a - b) else (0, true)
/-- A quotient, rounded: halves up. -/
def rnd (n d : Int) : Int := (n + d / 2) / d
def partS (bad : Bool) (a p q : Int) : Int × Bool := if tk bad [a, p, q] && q != 0 then out (rnd (sz a * sz p) (sz q)) ((decide (a < 0) != decide (p < 0)) != decide (q < 0)) else (0, true)
def mulS (bad : Bool) (a b : Int) : Int × Bool := partS bad a b 1099511627776
def divS (bad : Bool) (a b : Int) : Int × Bool := partS bad a 1099511627776 b
def modS (bad : Bool) (a m : Int) : Int × Bool := if tk bad [a, m] && decide (0 < m) then (a % m, false) else (0, true)

theorem addS_no {bad : Bool} {a b : Int} (c : tk bad [a, b] = false) : addS bad a b = (0, true) := by unfold addS; rw [c]; rfl
theorem addS_yes {bad : Bool} {a b : Int} (c : tk bad [a, b] = true) : addS bad a b = gv (a + b) := by unfold addS; rw [c]; rfl
theorem subS_no {bad : Bool} {a b : Int} (c : tk bad [a, b] = false) : subS bad a b = (0, true) := by unfold subS; rw [c]; rfl
theorem subS_yes {bad : Bool} {a b : Int} (c : tk bad [a, b] = true) : subS bad a b = gv (a - b) := by unfold subS; rw [c]; rfl
theorem gv_wrap (n : Int) (h : -9223372036854775808 ≤ n ∧ n ≤ 9223372036854775808) : gv (wrap64 n) = gv n := by
  by_cases c : n = 9223372036854775808
  · subst c; rw [show wrap64 9223372036854775808 = -9223372036854775808 by unfold wrap64; decide]; rfl
  · rw [IntWalk.wrap64_in n ⟨by omega, by omega⟩]
theorem partS_no {bad : Bool} {a p q : Int} (c : tk bad [a, p, q] = false) : partS bad a p q = (0, true) := by unfold partS; rw [c]; rfl
theorem partS_zero {bad : Bool} {a p : Int} : partS bad a p 0 = (0, true) := by unfold partS; rw [show ((0 : Int) != 0) = false by rfl, Bool.and_false]; rfl
theorem partS_yes {bad : Bool} {a p q : Int} (c : tk bad [a, p, q] = true) (h : (q != 0) = true) : partS bad a p q = out (rnd (sz a * sz p) (sz q)) ((decide (a < 0) != decide (p < 0)) != decide (q < 0)) := by unfold partS; rw [c, h]; rfl
theorem modS_no {bad : Bool} {a m : Int} (c : tk bad [a, m] = false) : modS bad a m = (0, true) := by unfold modS; rw [c]; rfl
theorem modS_low {bad : Bool} {a m : Int} (h : ¬ 0 < m) : modS bad a m = (0, true) := by unfold modS; rw [decide_eq_false h, Bool.and_false]; rfl
theorem modS_yes {bad : Bool} {a m : Int} (c : tk bad [a, m] = true) (h : 0 < m) : modS bad a m = (a % m, false) := by unfold modS; rw [c, decide_eq_true h]; rfl

theorem sz_bd {a : Int} (h : numB a = true) : 0 ≤ sz a ∧ sz a ≤ 4611686018427387904 := by
  have := numB_bd h
  unfold sz
  split <;> omega
theorem sz_pos {a : Int} (h : (a != 0) = true) : 1 ≤ sz a := by
  have h1 : a ≠ 0 := by simpa using h
  unfold sz
  split <;> omega
theorem sz_mul_bd {a b : Int} (h : numB a = true) (k : numB b = true) : 0 ≤ sz a * sz b ∧ sz a * sz b ≤ 21267647932558653966460912964485513216 := by
  have h1 := sz_bd h
  have h2 := sz_bd k
  refine ⟨Int.mul_nonneg h1.1 h2.1, ?_⟩
  have := Int.mul_le_mul h1.2 h2.2 h2.1 (by omega : (0 : Int) ≤ 4611686018427387904)
  omega
theorem tk_one3 (bad : Bool) (a b : Int) : tk bad [a, b, 1099511627776] = tk bad [a, b] := by unfold tk; simp [show numB 1099511627776 = true by rfl]
theorem tk_one2 (bad : Bool) (a b : Int) : tk bad [a, 1099511627776, b] = tk bad [a, b] := by unfold tk; simp [show numB 1099511627776 = true by rfl]
theorem mulS_no {bad : Bool} {a b : Int} (c : tk bad [a, b] = false) : mulS bad a b = (0, true) := partS_no ((tk_one3 bad a b).trans c)
theorem mulS_yes {bad : Bool} {a b : Int} (c : tk bad [a, b] = true) : mulS bad a b = out ((sz a * sz b + 549755813888) / 1099511627776) (decide (a < 0) != decide (b < 0)) := by
  unfold mulS
  rw [partS_yes ((tk_one3 bad a b).trans c) rfl]
  simp [rnd, show sz 1099511627776 = 1099511627776 by rfl]
theorem sat_out (n : Int) (minus : Bool) : out (sat64 n) minus = out n minus := by
  unfold sat64
  split
  · rfl
  · unfold out sgnd
    rw [if_neg (by decide), if_neg (by omega), decide_eq_true (by decide), decide_eq_true (by omega)]
theorem sat_bd (n : Int) (h : 0 ≤ n) : 0 ≤ sat64 n ∧ sat64 n ≤ 18446744073709551615 := by unfold sat64; split <;> omega

theorem rnd_nonneg {n d : Int} (h : 0 ≤ n) (hd : 1 ≤ d) : 0 ≤ rnd n d := Int.ediv_nonneg (by omega) (by omega)
theorem sz_nonneg {a : Int} (h : 0 ≤ a) : sz a = a := by unfold sz; rw [if_neg (by omega)]
theorem tmod_bd (x y : Int) (h : 0 < y) : -y < x.tmod y ∧ x.tmod y < y := by
  refine ⟨?_, Int.tmod_lt_of_pos x h⟩
  have h1 := Int.tmod_lt_of_pos (-x) h
  rw [Int.neg_tmod] at h1
  omega
theorem tmod_low (x y : Int) (h : 0 < y) : (x.tmod y < 0 → x.tmod y + y = x % y) ∧ (0 ≤ x.tmod y → x.tmod y = x % y) := by
  have b := tmod_bd x y h
  have e1 := Int.tmod_add_mul_tdiv x y
  refine ⟨fun c => ?_, fun c => ?_⟩
  · have e2 : x = (x.tmod y + y) + y * (x.tdiv y - 1) := by grind
    rw [e2, Int.add_mul_emod_self_left, Int.emod_eq_of_lt (by omega) (by omega), ← e2]
  · have e2 : x = x.tmod y + y * x.tdiv y := by omega
    have e3 : x % y = (x.tmod y + y * x.tdiv y) % y := by rw [← e2]
    rw [e3, Int.add_mul_emod_self_left, Int.emod_eq_of_lt (by omega) (by omega)]

theorem mul_split (ah al bh bl : Int) : (ah * 4294967296 + al) * (bh * 4294967296 + bl) = (ah * bh) * 18446744073709551616 + (ah * bl + al * bh) * 4294967296 + al * bl := by grind
theorem mul_bd (x y : Int) (h0 : 0 ≤ x) (h1 : x ≤ 4294967295) (k0 : 0 ≤ y) (k1 : y ≤ 4294967295) : 0 ≤ x * y ∧ x * y ≤ 18446744065119617025 := by
  refine ⟨Int.mul_nonneg h0 k0, ?_⟩
  have := Int.mul_le_mul h1 k1 k0 (by omega : (0:Int) ≤ 4294967295)
  omega

theorem or_join32 (x y : Int) (h0 : 0 ≤ x) (h1 : x ≤ 4294967295) (k0 : 0 ≤ y) (k1 : y ≤ 4294967295) : bits .or .u64 (x * 4294967296) y = x * 4294967296 + y := by
  rw [u64_or _ _ (by omega) (by omega) (by omega) (by omega), nat_join 32 _ _ (by omega) (by omega)]
  omega
theorem or_join24 (x y : Int) (h0 : 0 ≤ x) (h1 : x ≤ 1099511627775) (k0 : 0 ≤ y) (k1 : y ≤ 16777215) : bits .or .u64 (x * 16777216) y = x * 16777216 + y := by
  rw [u64_or _ _ (by omega) (by omega) (by omega) (by omega), nat_join 24 _ _ (by omega) (by omega)]
  omega
theorem shifted_words (n x y : Int) (h : x * 18446744073709551616 + y = n + 549755813888) (b1 : 0 ≤ x ∧ x ≤ 18446744073709551615) (b2 : 0 ≤ y ∧ y ≤ 18446744073709551615) (c : x / 1099511627776 = 0) :
    bits .or .u64 (IntKind.u64.wrap (x * 16777216)) (y / 1099511627776) = sat64 ((n + 549755813888) / 1099511627776) := by
  rw [← h, IntKind.wrap_u64, show x * 16777216 % 18446744073709551616 = x * 16777216 by omega, or_join24 _ _ (by omega) (by omega) (by omega) (by omega)]
  unfold sat64
  rw [if_pos (by omega)]
  omega
theorem shifted_much (n x y : Int) (h : x * 18446744073709551616 + y = n + 549755813888) (b1 : 0 ≤ x ∧ x ≤ 18446744073709551615) (b2 : 0 ≤ y ∧ y ≤ 18446744073709551615) (c : ¬ x / 1099511627776 = 0) :
    18446744073709551615 = sat64 ((n + 549755813888) / 1099511627776) := by
  rw [← h]
  unfold sat64
  rw [if_neg (by omega)]
theorem prod_words (a b : Int) (h0 : 0 ≤ a) (h1 : a ≤ 18446744073709551615) (k0 : 0 ≤ b) (k1 : b ≤ 18446744073709551615) :
    IntKind.u64.wrap (IntKind.u64.wrap (IntKind.u64.wrap (a / 4294967296 * (b / 4294967296)) + IntKind.u64.wrap (IntKind.u64.wrap (a / 4294967296 * (b % 4294967296)) + IntKind.u64.wrap (a % 4294967296 * (b % 4294967296)) / 4294967296) / 4294967296) + IntKind.u64.wrap (IntKind.u64.wrap (a % 4294967296 * (b / 4294967296)) + IntKind.u64.wrap (IntKind.u64.wrap (a / 4294967296 * (b % 4294967296)) + IntKind.u64.wrap (a % 4294967296 * (b % 4294967296)) / 4294967296) % 4294967296) / 4294967296) = hi64 (a * b) ∧
    bits BinOp.or IntKind.u64 (IntKind.u64.wrap (IntKind.u64.wrap (IntKind.u64.wrap (a % 4294967296 * (b / 4294967296)) + IntKind.u64.wrap (IntKind.u64.wrap (a / 4294967296 * (b % 4294967296)) + IntKind.u64.wrap (a % 4294967296 * (b % 4294967296)) / 4294967296) % 4294967296) * 4294967296)) (IntKind.u64.wrap (a % 4294967296 * (b % 4294967296)) % 4294967296) = lo64 (a * b) := by
  have e := mul_split (a / 4294967296) (a % 4294967296) (b / 4294967296) (b % 4294967296)
  rw [show a / 4294967296 * 4294967296 + a % 4294967296 = a by omega, show b / 4294967296 * 4294967296 + b % 4294967296 = b by omega] at e
  have p1 := mul_bd (a / 4294967296) (b / 4294967296) (by omega) (by omega) (by omega) (by omega)
  have p2 := mul_bd (a / 4294967296) (b % 4294967296) (by omega) (by omega) (by omega) (by omega)
  have p3 := mul_bd (a % 4294967296) (b / 4294967296) (by omega) (by omega) (by omega) (by omega)
  have p4 := mul_bd (a % 4294967296) (b % 4294967296) (by omega) (by omega) (by omega) (by omega)
  generalize a / 4294967296 * (b / 4294967296) = p at *
  generalize a / 4294967296 * (b % 4294967296) = q at *
  generalize a % 4294967296 * (b / 4294967296) = r at *
  generalize a % 4294967296 * (b % 4294967296) = t at *
  generalize a * b = n at *
  simp only [IntKind.wrap_u64]
  rw [show p % 18446744073709551616 = p by omega, show q % 18446744073709551616 = q by omega, show r % 18446744073709551616 = r by omega, show t % 18446744073709551616 = t by omega]
  rw [show (q + t / 4294967296) % 18446744073709551616 = q + t / 4294967296 by omega]
  rw [show (r + (q + t / 4294967296) % 4294967296) % 18446744073709551616 = r + (q + t / 4294967296) % 4294967296 by omega]
  rw [show (r + (q + t / 4294967296) % 4294967296) * 4294967296 % 18446744073709551616 = ((r + (q + t / 4294967296) % 4294967296) % 4294967296) * 4294967296 by omega]
  rw [or_join32 _ _ (by omega) (by omega) (by omega) (by omega)]
  unfold hi64 lo64
  constructor <;> omega

/-! ### Long division: what is worked out of a number's upper bits -/
def ldq (n d : Int) (m : Nat) : Int := n / 2 ^ m / d
def ldr (n d : Int) (m : Nat) : Int := n / 2 ^ m % d
theorem two_pow_pos (m : Nat) : (0 : Int) < 2 ^ m := Int.pow_pos (by decide)
theorem half_step (n : Int) (m : Nat) : n / 2 ^ m = 2 * (n / 2 ^ (m + 1)) + n / 2 ^ m % 2 := by
  have e : n / 2 ^ (m + 1) = n / 2 ^ m / 2 := by rw [Int.pow_succ, Int.ediv_ediv_of_nonneg (Int.le_of_lt (two_pow_pos m))]
  rw [e]; omega
theorem low_bit (n : Int) (m : Nat) (h : m < 64) : lo64 n / 2 ^ m % 2 = n / 2 ^ m % 2 := by
  obtain ⟨k, hk⟩ : ∃ k, 64 = m + (k + 1) := ⟨63 - m, by omega⟩
  have e : (18446744073709551616 : Int) = 2 ^ m * (2 ^ k * 2) := by rw [← Int.pow_succ, ← Int.pow_add, ← hk]; decide
  have h1 := hilo n
  have h2 : n / 2 ^ m = lo64 n / 2 ^ m + hi64 n * (2 ^ k * 2) := by
    have h3 : n = lo64 n + 2 ^ m * (hi64 n * (2 ^ k * 2)) := by rw [e] at h1; grind
    generalize lo64 n = l at *
    generalize hi64 n * (2 ^ k * 2) = x at *
    rw [h3, Int.add_mul_ediv_left _ _ (Int.ne_of_gt (two_pow_pos m))]
  rw [h2, ← Int.mul_assoc]
  omega
theorem ldq_step (n d : Int) (m : Nat) (hd : 0 < d) :
    (d ≤ 2 * ldr n d (m + 1) + n / 2 ^ m % 2 → ldq n d m = 2 * ldq n d (m + 1) + 1 ∧ ldr n d m = 2 * ldr n d (m + 1) + n / 2 ^ m % 2 - d) ∧
    (2 * ldr n d (m + 1) + n / 2 ^ m % 2 < d → ldq n d m = 2 * ldq n d (m + 1) ∧ ldr n d m = 2 * ldr n d (m + 1) + n / 2 ^ m % 2) := by
  unfold ldq ldr
  have e := half_step n m
  have hb : 0 ≤ n / 2 ^ m % 2 ∧ n / 2 ^ m % 2 < 2 := by omega
  generalize n / 2 ^ m % 2 = t at *
  generalize n / 2 ^ (m + 1) = y at *
  generalize n / 2 ^ m = x at *
  have e2 := Int.mul_ediv_add_emod y d
  have h1 := Int.emod_nonneg y (Int.ne_of_gt hd)
  have h2 := Int.emod_lt_of_pos y hd
  generalize y / d = q at *
  generalize y % d = r at *
  refine ⟨fun c => ?_, fun c => ?_⟩
  · have : x = (2 * r + t - d) + d * (2 * q + 1) := by grind
    rw [this, Int.add_mul_ediv_left _ _ (Int.ne_of_gt hd), Int.add_mul_emod_self_left, Int.ediv_eq_zero_of_lt (by omega) (by omega), Int.emod_eq_of_lt (by omega) (by omega)]
    omega
  · have : x = (2 * r + t) + d * (2 * q) := by grind
    rw [this, Int.add_mul_ediv_left _ _ (Int.ne_of_gt hd), Int.add_mul_emod_self_left, Int.ediv_eq_zero_of_lt (by omega) (by omega), Int.emod_eq_of_lt (by omega) (by omega)]
    omega
theorem ldr_bd (n d : Int) (m : Nat) (hd : 0 < d) : 0 ≤ ldr n d m ∧ ldr n d m < d := ⟨Int.emod_nonneg _ (Int.ne_of_gt hd), Int.emod_lt_of_pos _ hd⟩
theorem ldq_bd (n d : Int) (m : Nat) (hd : 0 < d) (h0 : 0 ≤ n) (hq : hi64 n < d) : 0 ≤ ldq n d m ∧ ldq n d m ≤ 18446744073709551615 := by
  unfold ldq
  have h1 : 0 ≤ n / 2 ^ m := Int.ediv_nonneg h0 (Int.le_of_lt (two_pow_pos m))
  have h2 : n / 2 ^ m ≤ n := Int.ediv_le_self _ h0
  refine ⟨Int.ediv_nonneg h1 (Int.le_of_lt hd), ?_⟩
  have h3 : n < d * 18446744073709551616 := by have := hilo n; have := lo64_bd n; omega
  have h4 : n / 2 ^ m / d < 18446744073709551616 := Int.ediv_lt_of_lt_mul hd (by rw [Int.mul_comm]; omega)
  omega
theorem ldq_64 (n d : Int) (h0 : 0 ≤ n) (hq : hi64 n < d) : ldq n d 64 = 0 ∧ ldr n d 64 = hi64 n := by
  have h : 0 ≤ hi64 n := Int.ediv_nonneg h0 (by decide)
  have e : n / 2 ^ 64 = hi64 n := rfl
  unfold ldq ldr
  rw [e]
  exact ⟨Int.ediv_eq_zero_of_lt h hq, Int.emod_eq_of_lt h hq⟩
theorem ldq_0 (n d : Int) : ldq n d 0 = n / d ∧ ldr n d 0 = n % d := by unfold ldq ldr; simp
theorem or_bit (x y : Int) (h0 : 0 ≤ x) (h1 : x ≤ 9223372036854775807) (k0 : 0 ≤ y) (k1 : y ≤ 1) : bits .or .u64 (x * 2) y = x * 2 + y := by
  rw [u64_or _ _ (by omega) (by omega) (by omega) (by omega), nat_join 1 _ _ (by omega) (by omega)]
  omega
theorem and_one (x : Int) (h0 : 0 ≤ x) (h1 : x ≤ 18446744073709551615) : bits .and .u64 x 1 = x % 2 := by
  rw [u64_and _ _ (by omega) (by omega) (by omega) (by omega), show (1 : Int).toNat = 1 by rfl, nat_mask1]
  omega
theorem ld_join (n r : Int) (m : Nat) (hm : m < 64) (h0 : 0 ≤ r) (h1 : r ≤ 9223372036854775807) : bits .or .u64 (r * 2) (bits .and .u64 (lo64 n / 2 ^ m) 1) = 2 * r + n / 2 ^ m % 2 := by
  have b := lo64_bd n
  have h2 : 0 ≤ lo64 n / 2 ^ m := Int.ediv_nonneg b.1 (Int.le_of_lt (two_pow_pos m))
  have h3 : lo64 n / 2 ^ m ≤ lo64 n := Int.ediv_le_self _ b.1
  rw [and_one _ h2 (by omega), low_bit n m hm, or_bit _ _ h0 h1 (by omega) (by omega)]
  omega
theorem or_one (q : Int) (h0 : 0 ≤ q) (h1 : 2 * q + 1 ≤ 18446744073709551615) : bits .or .u64 (IntKind.u64.wrap (q * 2)) 1 = 2 * q + 1 := by
  rw [IntKind.wrap_u64, show q * 2 % 18446744073709551616 = q * 2 by omega, or_bit _ _ h0 (by omega) (by decide) (by decide)]
  omega
theorem rnd_much (n d : Int) (hd : 1 ≤ d) (c : d ≤ hi64 (n + d / 2)) : 18446744073709551615 = sat64 (rnd n d) := by
  unfold sat64 rnd
  have h1 := hilo (n + d / 2)
  have h2 := lo64_bd (n + d / 2)
  rw [if_neg]
  have : 18446744073709551616 ≤ (n + d / 2) / d := Int.le_ediv_of_mul_le (by omega) (by omega)
  omega
theorem rnd_in (n d : Int) (hd : 1 ≤ d) (c : hi64 (n + d / 2) < d) : (n + d / 2) / d = sat64 (rnd n d) := by
  unfold sat64 rnd
  have h1 := hilo (n + d / 2)
  have h2 := lo64_bd (n + d / 2)
  rw [if_pos]
  have : (n + d / 2) / d < 18446744073709551616 := Int.ediv_lt_of_lt_mul (by omega) (by omega)
  omega

/-! ### Roots, bit by bit -/
def isqf (n : Int) : Nat → Int → Int
  | 0, r => r
  | j + 1, r => isqf n j (if (r + 2 ^ j) * (r + 2 ^ j) ≤ n then r + 2 ^ j else r)
/-- The greatest integer whose square isn't above n. -/
def isq (n : Int) : Int := isqf n 63 0
def sqrtS (bad : Bool) (a : Int) : Int × Bool := if tk bad [a] && decide (0 ≤ a) then out (isq (a * 1099511627776)) false else (0, true)
def normS (bad : Bool) (a b c : Int) : Int × Bool := if tk bad [a, b, c] then out (isq (a * a + b * b + c * c)) false else (0, true)
theorem sq_mono {x y : Int} (h0 : 0 ≤ x) (h : x ≤ y) : x * x ≤ y * y := Int.mul_le_mul h h h0 (by omega)
theorem sqrtS_no {bad : Bool} {a : Int} (c : tk bad [a] = false) : sqrtS bad a = (0, true) := by unfold sqrtS; rw [c]; rfl
theorem sqrtS_low {bad : Bool} {a : Int} (h : ¬ 0 ≤ a) : sqrtS bad a = (0, true) := by unfold sqrtS; rw [decide_eq_false h, Bool.and_false]; rfl
theorem sqrtS_yes {bad : Bool} {a : Int} (c : tk bad [a] = true) (h : 0 ≤ a) : sqrtS bad a = out (isq (a * 1099511627776)) false := by unfold sqrtS; rw [c, decide_eq_true h]; rfl
theorem normS_no {bad : Bool} {a b c : Int} (h : tk bad [a, b, c] = false) : normS bad a b c = (0, true) := by unfold normS; rw [h]; rfl
theorem normS_yes {bad : Bool} {a b c : Int} (h : tk bad [a, b, c] = true) : normS bad a b c = out (isq (a * a + b * b + c * c)) false := by unfold normS; rw [h]; rfl
theorem isqf_spec (n : Int) : ∀ (m : Nat) (r : Int), 0 ≤ r → r * r ≤ n → n < (r + 2 ^ m) * (r + 2 ^ m) → 0 ≤ isqf n m r ∧ isqf n m r * isqf n m r ≤ n ∧ n < (isqf n m r + 1) * (isqf n m r + 1)
  | 0, r, h0, h1, h2 => ⟨h0, h1, by show n < (r + 1) * (r + 1); simpa using h2⟩
  | j + 1, r, h0, h1, h2 => by
    have hp := two_pow_pos j
    have e : r + (2 : Int) ^ (j + 1) = r + 2 ^ j + 2 ^ j := by rw [Int.pow_succ]; omega
    rw [e] at h2
    unfold isqf
    by_cases c : (r + 2 ^ j) * (r + 2 ^ j) ≤ n
    · rw [if_pos c]
      exact isqf_spec n j (r + 2 ^ j) (by omega) c h2
    · rw [if_neg c]
      exact isqf_spec n j r h0 h1 (by omega)
theorem isq_unique (x y n : Int) (hx : 0 ≤ x) (hy : 0 ≤ y) (h1 : x * x ≤ n) (h2 : n < (x + 1) * (x + 1)) (h3 : y * y ≤ n) (h4 : n < (y + 1) * (y + 1)) : x = y := by
  rcases Int.lt_trichotomy x y with h | h | h
  · have := sq_mono (by omega : (0 : Int) ≤ x + 1) (by omega : x + 1 ≤ y); omega
  · exact h
  · have := sq_mono (by omega : (0 : Int) ≤ y + 1) (by omega : y + 1 ≤ x); omega
theorem isq_spec (n : Int) (h0 : 0 ≤ n) (h : n < 85070591730234615865843651857942052864) : 0 ≤ isq n ∧ isq n * isq n ≤ n ∧ n < (isq n + 1) * (isq n + 1) :=
  isqf_spec n 63 0 (by omega) (by omega) (by show n < (0 + 9223372036854775808) * (0 + 9223372036854775808); omega)
theorem isq_bd (n : Int) (h0 : 0 ≤ n) (h : n < 85070591730234615865843651857942052864) : 0 ≤ isq n ∧ isq n ≤ 18446744073709551615 := by
  have := isq_spec n h0 h
  refine ⟨this.1, ?_⟩
  by_cases c : isq n ≤ 18446744073709551615
  · exact c
  · have h2 := sq_mono (by decide : (0 : Int) ≤ 18446744073709551616) (by omega : 18446744073709551616 ≤ isq n)
    omega
theorem isqf_eq (n : Int) (m : Nat) (h0 : 0 ≤ n) (h : n < 85070591730234615865843651857942052864) (hm : n < 2 ^ m * 2 ^ m) : isqf n m 0 = isq n := by
  have a := isqf_spec n m 0 (by omega) (by omega) (by simpa using hm)
  have b := isq_spec n h0 h
  exact isq_unique _ _ n a.1 b.1 a.2.1 a.2.2 b.2.1 b.2.2
theorem or_pow (r : Int) (j : Nat) (h0 : 0 ≤ r) (h : r % 2 ^ (j + 1) = 0) (hr : r ≤ 9223372036854775807) (hj : j < 63) : bits .or .u64 r (2 ^ j) = r + 2 ^ j := by
  obtain ⟨x, rfl⟩ := Int.eq_ofNat_of_zero_le h0
  have e : (2 : Int) ^ j = ((2 ^ j : Nat) : Int) := by simp
  have hb : 2 ^ j < 2 ^ 63 := Nat.pow_lt_pow_right (by decide) hj
  have hx : x % 2 ^ (j + 1) = 0 := by
    have e2 : (2 : Int) ^ (j + 1) = ((2 ^ (j + 1) : Nat) : Int) := by simp
    rw [e2] at h
    exact_mod_cast h
  rw [e, u64_or _ _ (by omega) (by omega) (by omega) (by omega)]
  simp only [Int.toNat_natCast]
  rw [nat_join (j + 1) _ _ hx (Nat.pow_lt_pow_right (by decide) (by omega))]
  omega
theorem mod_pow_half (r : Int) (j : Nat) (h : r % 2 ^ (j + 1) = 0) : r % 2 ^ j = 0 ∧ (r + 2 ^ j) % 2 ^ j = 0 := by
  have h1 : (2 : Int) ^ j ∣ 2 ^ (j + 1) := ⟨2, by rw [Int.pow_succ]⟩
  have h2 : (2 : Int) ^ j ∣ r := Int.dvd_trans h1 (Int.dvd_of_emod_eq_zero h)
  exact ⟨Int.emod_eq_zero_of_dvd h2, Int.emod_eq_zero_of_dvd (Int.dvd_add h2 (Int.dvd_refl _))⟩
/-- Bit j - 1: 0 of j 0. -/
def bitAt (j : Nat) : Int := match j with | 0 => 0 | j + 1 => 2 ^ j
theorem bitAt_half (j : Nat) : bitAt (j + 1) / 2 = bitAt j := by
  cases j with
  | zero => rfl
  | succ k => show (2 : Int) ^ (k + 1) / 2 = 2 ^ k; rw [Int.pow_succ]; omega
theorem bitAt_bd (j : Nat) (h : j ≤ 63) : 0 ≤ bitAt j ∧ bitAt j ≤ 4611686018427387904 := by
  cases j with
  | zero => exact ⟨by decide, by decide⟩
  | succ k =>
    have h3 : (2 : Nat) ^ k ≤ 2 ^ 62 := Nat.pow_le_pow_right (by decide) (by omega)
    have h4 : (2 : Int) ^ k ≤ 2 ^ 62 := by exact_mod_cast h3
    exact ⟨Int.le_of_lt (two_pow_pos k), h4⟩
theorem root_bd (r : Int) (j : Nat) (h : r + 2 ^ (j + 1) ≤ 9223372036854775808) : r + 2 ^ j + 2 ^ j ≤ 9223372036854775808 := by
  rw [Int.pow_succ] at h; omega

/-! ### A number of two words in memory -/
structure Wd (c : Nat) (n : Int) (w : World) : Prop where
  hi : w.cell? ⟨c, 0, none⟩ = some (.int .u64 (hi64 n))
  lo : w.cell? ⟨c, 1, none⟩ = some (.int .u64 (lo64 n))
  fh : w.frozen? ⟨c, 0, none⟩ = false
  fl : w.frozen? ⟨c, 1, none⟩ = false
  lies : c < w.heap.size
theorem Wd.below {c : Nat} {n : Int} {w w' : World} (h : Wd c n w) (hb : Below w.heap.size w w') : Wd c n w' :=
  ⟨(hb.cell (p := ⟨c, 0, none⟩) h.lies).trans h.hi, (hb.cell (p := ⟨c, 1, none⟩) h.lies).trans h.lo, (hb.frozen (p := ⟨c, 0, none⟩) h.lies).trans h.fh, (hb.frozen (p := ⟨c, 1, none⟩) h.lies).trans h.fl, Nat.lt_of_lt_of_le h.lies hb.size⟩
theorem Wd.put {c : Nat} {n : Int} {w : World} (h : Wd c n w) (m : Int) : Wd c m ((w.setCell ⟨c, 0, none⟩ (.int .u64 (hi64 m))).setCell ⟨c, 1, none⟩ (.int .u64 (lo64 m))) := by
  have h1 := World.cell?_setCell_same w ⟨c, 0, none⟩ (.int .u64 (hi64 m)) h.hi
  have h2 : (w.setCell ⟨c, 0, none⟩ (.int .u64 (hi64 m))).cell? ⟨c, 1, none⟩ = some (.int .u64 (lo64 n)) := by rw [World.cell?_setCell_other _ _ _ _ (by simp)]; exact h.lo
  refine ⟨?_, World.cell?_setCell_same _ _ _ h2, ?_, ?_, ?_⟩
  · rw [World.cell?_setCell_other _ _ _ _ (by simp)]; exact h1
  · simp only [World.frozen?_setCell]; exact h.fh
  · simp only [World.frozen?_setCell]; exact h.fl
  · simp only [World.size_setCell]; exact h.lies
theorem Wd.far {c d : Nat} {n : Int} {w : World} (h : Wd c n w) (hd : d ≠ c) (u v : Value) : Wd c n ((w.setCell ⟨d, 0, none⟩ u).setCell ⟨d, 1, none⟩ v) := by
  refine ⟨?_, ?_, ?_, ?_, ?_⟩
  · rw [World.cell?_setCell_other _ _ _ _ (fun e => hd (congrArg Addr.block e)), World.cell?_setCell_other _ _ _ _ (fun e => hd (congrArg Addr.block e))]; exact h.hi
  · rw [World.cell?_setCell_other _ _ _ _ (fun e => hd (congrArg Addr.block e)), World.cell?_setCell_other _ _ _ _ (fun e => hd (congrArg Addr.block e))]; exact h.lo
  · simp only [World.frozen?_setCell]; exact h.fh
  · simp only [World.frozen?_setCell]; exact h.fl
  · simp only [World.size_setCell]; exact h.lies
theorem hi64_small (x : Int) (h0 : 0 ≤ x) (h1 : x ≤ 18446744073709551615) : hi64 x = 0 ∧ lo64 x = x := by unfold hi64 lo64; omega
/-- Of a product that is worked bit by bit. -/
theorem times_bd (s t y p : Int) (e : s + t * y = p) (hs : 0 ≤ s) (ht : 0 ≤ t) (hy : 1 ≤ y) : t ≤ p ∧ s + t ≤ p := by
  have h := Int.mul_le_mul_of_nonneg_left hy ht
  omega
theorem times_odd (s t y p : Int) (e : s + t * y = p) (h : y % 2 = 1) : s + t + (t + t) * (y / 2) = p := by
  have : y = 2 * (y / 2) + 1 := by omega
  rw [this] at e
  have e2 : y / 2 = (2 * (y / 2) + 1) / 2 := by omega
  generalize y / 2 = k at *
  grind
theorem times_even (s t y p : Int) (e : s + t * y = p) (h : y % 2 = 0) : s + (t + t) * (y / 2) = p := by
  have : y = 2 * (y / 2) := by omega
  rw [this] at e
  have e2 : y / 2 = 2 * (y / 2) / 2 := by omega
  generalize y / 2 = k at *
  grind
theorem mul_bd63 (x y : Int) (hx : 0 ≤ x ∧ x ≤ 9223372036854775808) (hy : 0 ≤ y ∧ y ≤ 9223372036854775808) : 0 ≤ x * y ∧ x * y ≤ 85070591730234615865843651857942052864 := by
  refine ⟨Int.mul_nonneg hx.1 hy.1, ?_⟩
  have := Int.mul_le_mul hx.2 hy.2 hy.1 (by omega : (0 : Int) ≤ 9223372036854775808)
  omega

theorem hi_of_quot (n d : Int) (hd : 1 ≤ d) (h : n / d ≤ 4611686018427387904) : hi64 n < d := by
  have e := hilo n
  have b := lo64_bd n
  have h2 : n < (n / d + 1) * d := Int.lt_ediv_add_one_mul_self n (by omega)
  have h3 : (n / d + 1) * d ≤ 4611686018427387905 * d := Int.mul_le_mul_of_nonneg_right (by omega) (by omega)
  omega
/-- Rounding, as the reference says it. -/
theorem rnd_ways (n d : Int) (hd : 1 ≤ d) : (d - n % d ≤ n % d → rnd n d = n / d + 1) ∧ (n % d < d - n % d → rnd n d = n / d) := by
  have e := Int.mul_ediv_add_emod n d
  have r0 : 0 ≤ n % d := Int.emod_nonneg n (by omega)
  have r1 : n % d < d := Int.emod_lt_of_pos n (by omega)
  unfold rnd
  generalize n / d = q at *
  generalize n % d = r at *
  refine ⟨fun c => ?_, fun c => ?_⟩
  · have e2 : n + d / 2 = (r + d / 2 - d) + d * (q + 1) := by grind
    rw [e2, Int.add_mul_ediv_left _ _ (by omega), Int.ediv_eq_zero_of_lt (by omega) (by omega)]
    omega
  · have e2 : n + d / 2 = (r + d / 2) + d * q := by grind
    rw [e2, Int.add_mul_ediv_left _ _ (by omega), Int.ediv_eq_zero_of_lt (by omega) (by omega)]
    omega

theorem sz_zero {q : Int} (h : q = 0) : sz q = 0 := by rw [h]; rfl
theorem rnd_top {n d : Int} (hd : 1 ≤ d) (h : n / d ≤ 4611686018427387904) : rnd n d ≤ 18446744073709551615 := by
  have := rnd_ways n d hd
  by_cases c : d - n % d ≤ n % d
  · rw [this.1 c]; omega
  · rw [this.2 (by omega)]; omega
theorem out_much {n d : Int} (minus : Bool) (hd : 1 ≤ d) (h : 4611686018427387904 < n / d) : out (rnd n d) minus = (0, true) := by
  have := rnd_ways n d hd
  have h2 : 4611686018427387904 < rnd n d := by
    by_cases c : d - n % d ≤ n % d
    · rw [this.1 c]; omega
    · rw [this.2 (by omega)]; omega
  unfold out
  rw [← sgnd_out _ _ (by omega), decide_eq_true h2]
def ratS (a p q : Int) : Int × Bool := if q = 0 then (0, true) else out (rnd (sz a * sz p) (sz q)) ((decide (a < 0) != decide (p < 0)) != decide (q < 0))
theorem ratS_no {a p q : Int} (c : q = 0 ∨ 4611686018427387904 < sz a * sz p / sz q) : ratS a p q = (0, true) := by
  unfold ratS
  by_cases q0 : q = 0
  · rw [if_pos q0]
  · rw [if_neg q0]
    exact out_much _ (sz_pos (by simpa using q0)) (by rcases c with c | c; exact absurd c q0; exact c)
theorem ratS_yes (a p q : Int) (h : (q != 0) = true) : ratS a p q = out (rnd (sz a * sz p) (sz q)) ((decide (a < 0) != decide (p < 0)) != decide (q < 0)) := by
  unfold ratS
  rw [if_neg (by simpa using h)]
theorem partS_rat {bad : Bool} {a p q : Int} (c : tk bad [a, p, q] = true) : partS bad a p q = ratS a p q := by
  by_cases q0 : q = 0
  · subst q0; rw [partS_zero]; rfl
  · rw [partS_yes c (by simpa using q0), ratS_yes a p q (by simpa using q0)]

theorem half_bd (x : Int) (h : -4611686018427387904 ≤ x ∧ x ≤ 4611686018427387904) : -2305843009213693952 ≤ x.tdiv 2 ∧ x.tdiv 2 ≤ 2305843009213693952 ∧ -1 ≤ x.tmod 2 ∧ x.tmod 2 ≤ 1 := by
  have e := Int.mul_tdiv_add_tmod x 2
  have b := tmod_bd x 2 (by decide)
  omega
theorem half_rest (x y : Int) : -1 ≤ (x.tmod 2 + y.tmod 2).tdiv 2 ∧ (x.tmod 2 + y.tmod 2).tdiv 2 ≤ 1 := by
  have b1 := tmod_bd x 2 (by decide)
  have b2 := tmod_bd y 2 (by decide)
  generalize x.tmod 2 = p at *
  generalize y.tmod 2 = q at *
  have e := Int.mul_tdiv_add_tmod (p + q) 2
  have b := tmod_bd (p + q) 2 (by decide)
  omega
theorem half_sum (x y : Int) : 2 * (x.tdiv 2 + y.tdiv 2 + (x.tmod 2 + y.tmod 2).tdiv 2) ≤ x + y + 1 ∧ x + y ≤ 2 * (x.tdiv 2 + y.tdiv 2 + (x.tmod 2 + y.tmod 2).tdiv 2) + 1 := by
  have e1 := Int.mul_tdiv_add_tmod x 2
  have e2 := Int.mul_tdiv_add_tmod y 2
  generalize x.tmod 2 = p at *
  generalize y.tmod 2 = q at *
  have e := Int.mul_tdiv_add_tmod (p + q) 2
  have b := tmod_bd (p + q) 2 (by decide)
  omega
theorem num_wrap (n : Int) (h : -9223372036854775808 ≤ n ∧ n ≤ 9223372036854775808) : numB (wrap64 n) = numB n := by
  have := congrArg Prod.snd (gv_wrap n h)
  unfold gv at this
  simpa using this
theorem gv_no {n : Int} (h : numB n = false) : gv n = (0, true) := by unfold gv; rw [h]; rfl
theorem gv_yes {n : Int} (h : numB n = true) : gv n = (n, false) := by unfold gv; rw [h]; rfl
theorem numB_neg (n : Int) : numB (-n) = numB n := by unfold numB; rw [Bool.eq_iff_iff]; simp; omega
theorem subS_neg {bad : Bool} {a b : Int} (c : tk bad [a, b] = true) : subS bad a b = addS false a (-b) := by
  have h := tk_two c
  rw [subS_yes c, addS_yes (by unfold tk; simp [h.2.1, numB_neg, h.2.2]), Int.sub_eq_add_neg]
theorem wrap_bit (m : Nat) (h : m ≤ 62) : IntKind.u64.wrap (2 ^ m) = bitAt (m + 1) := by
  have := bitAt_bd (m + 1) (by omega)
  exact IntWalk.u64_in (bitAt (m + 1)) ⟨this.1, by omega⟩
theorem sz_sq (x : Int) : sz x * sz x = x * x := by
  unfold sz
  split
  · rw [Int.neg_mul_neg]
  · rfl
theorem sq_bd {x : Int} (h : numB x = true) : 0 ≤ x * x ∧ x * x ≤ 21267647932558653966460912964485513216 := by
  rw [← sz_sq x]; exact sz_mul_bd h h
theorem Wd_new (w : World) (t : TypeId) : Wd w.heap.size 0 (w.alloc (.cells #[.int .u64 0, .int .u64 0] t)) :=
  ⟨by simp [show hi64 0 = 0 by rfl], by simp [show lo64 0 = 0 by rfl], by simp, by simp, by simp⟩

/-! ### A quotient times its divisor -/
theorem out_bad (n : Int) (m : Bool) (h : (out n m).2 = true) : (out n m).1 = 0 := by
  have h2 : 4611686018427387904 < n := of_decide_eq_true h
  exact (sgnd_out n m (by omega)).symm
theorem out_good (n : Int) (m : Bool) (h : (out n m).2 = false) : n ≤ 4611686018427387904 ∧ (out n m).1 = if m then -n else n := by
  have h2 : ¬ 4611686018427387904 < n := of_decide_eq_false h
  exact ⟨by omega, (sgnd_in n m (by omega)).symm⟩
theorem partS_bad (bad : Bool) (a p q : Int) (h : (partS bad a p q).2 = true) : (partS bad a p q).1 = 0 := by
  unfold partS at h ⊢
  split
  · rename_i c; rw [if_pos c] at h; exact out_bad _ _ h
  · rfl
theorem numB_of {n : Int} (h : -4611686018427387904 ≤ n ∧ n ≤ 4611686018427387904) : numB n = true := by unfold numB; simp; exact h
theorem rnd_near (n d : Int) (hd : 1 ≤ d) : rnd n d * d ≤ n + d / 2 ∧ n ≤ rnd n d * d + d / 2 := by
  unfold rnd
  have e := Int.mul_ediv_add_emod (n + d / 2) d
  have r0 : 0 ≤ (n + d / 2) % d := Int.emod_nonneg _ (by omega)
  have r1 : (n + d / 2) % d < d := Int.emod_lt_of_pos _ (by omega)
  rw [Int.mul_comm d] at e
  omega
theorem back_near (a b : Int) (ha : -1125899906842624 ≤ a ∧ a ≤ 1125899906842624) (hb : -1125899906842624 ≤ b ∧ b ≤ 1125899906842624) (b0 : b ≠ 0)
    (h1 : (divS false a b).2 = false) (h2 : (mulS false (divS false a b).1 b).2 = false) :
    -4611686018427387904 ≤ (mulS false (divS false a b).1 b).1 ∧ (mulS false (divS false a b).1 b).1 ≤ 4611686018427387904 ∧
    (mulS false (divS false a b).1 b).1 - a ≤ sz b / 2199023255552 + 1 ∧ a - (mulS false (divS false a b).1 b).1 ≤ sz b / 2199023255552 + 1 := by
  have na : numB a = true := numB_of (by omega)
  have nb : numB b = true := numB_of (by omega)
  have bz : (b != 0) = true := by simpa using b0
  have ed : divS false a b = out (rnd (sz a * 1099511627776) (sz b)) (decide (a < 0) != decide (b < 0)) := by
    unfold divS
    rw [partS_yes (by unfold tk; simp [na, nb, show numB 1099511627776 = true by rfl]) bz]
    simp [show sz 1099511627776 = 1099511627776 by rfl]
  have sb := sz_pos bz
  rw [ed] at h1 h2 ⊢
  have g1 := out_good _ _ h1
  have nr := rnd_near (sz a * 1099511627776) (sz b) sb
  have r0 : 0 ≤ rnd (sz a * 1099511627776) (sz b) := rnd_nonneg (by have := sz_bd na; omega) sb
  generalize rnd (sz a * 1099511627776) (sz b) = r at *
  rw [g1.2] at h2 ⊢
  generalize hq : (if (decide (a < 0) != decide (b < 0)) = true then -r else r) = q at *
  have nq : numB q = true := numB_of (by rw [← hq]; split <;> omega)
  have sq : sz q = r := by rw [← hq]; unfold sz; split <;> split <;> omega
  rw [mulS_yes (by unfold tk; simp [nq, nb])] at h2 ⊢
  have g2 := out_good _ _ h2
  rw [g2.2, sq]
  have g3 := g2.1
  rw [sq] at g3
  have p0 : 0 ≤ r * sz b := Int.mul_nonneg r0 (by omega)
  have qb : (decide (q < 0) != decide (b < 0)) = true → 0 < r → a < 0 := by
    intro h3 h4
    rw [← hq] at h3
    by_cases x : a < 0
    · exact x
    · by_cases y : b < 0
      · simp [x, y] at h3; omega
      · simp [x, y] at h3; omega
  have qb2 : (decide (q < 0) != decide (b < 0)) = false → 0 < r → 0 ≤ a := by
    intro h3 h4
    rw [← hq] at h3
    by_cases x : a < 0
    · by_cases y : b < 0
      · simp [x, y] at h3; omega
      · simp [x, y] at h3; omega
    · omega
  have rz : r = 0 → r * sz b = 0 := fun h => by rw [h, Int.zero_mul]
  have sa : sz a = if a < 0 then -a else a := rfl
  generalize r * sz b = p at *
  generalize sz b = s at *
  generalize sz a = t at *
  cases hc : (decide (q < 0) != decide (b < 0))
  · have q2 := qb2 hc
    simp only [Bool.false_eq_true, if_false]
    by_cases rp : 0 < r
    · have := q2 rp
      rw [if_neg (by omega)] at sa
      omega
    · have := rz (by omega)
      split at sa <;> omega
  · have q2 := qb hc
    simp only [if_true]
    by_cases rp : 0 < r
    · have := q2 rp
      rw [if_pos (by omega)] at sa
      omega
    · have := rz (by omega)
      split at sa <;> omega
theorem neg_tdiv_eq (b : Int) (h : b ≤ 0) : -(b.tdiv 2199023255552) = -b / 2199023255552 := by
  rw [← Int.neg_tdiv, Int.tdiv_eq_ediv_of_nonneg (by omega)]
theorem back_tdiv (b : Int) (hb : -1125899906842624 ≤ b ∧ b ≤ 1125899906842624) : -1000 ≤ b.tdiv 2199023255552 ∧ b.tdiv 2199023255552 ≤ 1000 := by
  by_cases h : b ≤ 0
  · have := neg_tdiv_eq b h; omega
  · rw [Int.tdiv_eq_ediv_of_nonneg (by omega)]; omega
end Go.Proofs.Ytpceomcnknjiiaa
namespace Go.Proofs.Ytpceomcnknjiiaa
open Go.RowKit

theorem rnd_more (n k : Int) {d : Int} (hd : 0 < d) : rnd (n + k * d) d = rnd n d + k := by
  unfold rnd
  rw [show n + k * d + d / 2 = n + d / 2 + k * d by omega, Int.add_mul_ediv_right _ _ (by omega)]
theorem part_up {a p q : Int} (ha : 0 ≤ a) (ha' : a ≤ 4611686018427387904) (hp : 0 ≤ p) (hp' : p ≤ 4611686018427387904) (hq : 0 < q) (hq' : q ≤ 4611686018427387904) (h : rnd (a * p) q ≤ 4611686018427387904) : partS false a p q = (rnd (a * p) q, false) := by
  have n1 : numB a = true := by unfold numB; simp; omega
  have n2 : numB p = true := by unfold numB; simp; omega
  have n3 : numB q = true := by unfold numB; simp; omega
  rw [partS_yes (by unfold tk; simp [n1, n2, n3]) (by simp; omega)]
  have e1 : sz a = a := by unfold sz; rw [if_neg (by omega)]
  have e2 : sz p = p := by unfold sz; rw [if_neg (by omega)]
  have e3 : sz q = q := by unfold sz; rw [if_neg (by omega)]
  rw [e1, e2, e3, decide_eq_false (by omega), decide_eq_false (by omega), decide_eq_false (by omega)]
  unfold out sgnd
  rw [if_pos h, decide_eq_false (by omega)]
  rfl
theorem add_up {a b : Int} (ha : 0 ≤ a) (hb : 0 ≤ b) (h : a + b ≤ 4611686018427387904) : addS false a b = (a + b, false) := by
  have n1 : numB a = true := by unfold numB; simp; omega
  have n2 : numB b = true := by unfold numB; simp; omega
  have n3 : numB (a + b) = true := by unfold numB; simp; omega
  rw [addS_yes (by unfold tk; simp [n1, n2])]
  unfold gv
  rw [n3]
  rfl
theorem mod_up {a m : Int} (ha : -4611686018427387904 ≤ a) (ha' : a ≤ 4611686018427387904) (hm : 0 < m) (hm' : m ≤ 4611686018427387904) : modS false a m = (a % m, false) := by
  have n1 : numB a = true := by unfold numB; simp; omega
  have n2 : numB m = true := by unfold numB; simp; omega
  exact modS_yes (by unfold tk; simp [n1, n2]) hm
/-- What Days and Turn work, at a tick and a day later. -/
structure Daily (t d p q x : Int) : Prop where
  day : partS false 1099511627776 t 86400000 = (d, false)
  day' : partS false 1099511627776 (t + 86400000) 86400000 = (d + 1099511627776, false)
  rem : (t + 86400000) % 86400000 = t % 86400000
  part : partS false 6908435304716 (t % 86400000) 86400000 = (p, false)
  add : addS false 5399947124839 p = (5399947124839 + p, false)
  mul : mulS false 18914669620 d = (q, false)
  mul' : mulS false 18914669620 (d + 1099511627776) = (q + 18914669620, false)
  sum : addS false (5399947124839 + p) q = (x, false)
  sum' : addS false (5399947124839 + p) (q + 18914669620) = (x + 18914669620, false)
  mod : modS false x 6908435304716 = (x % 6908435304716, false)
  mod' : modS false (x + 18914669620) 6908435304716 = ((x + 18914669620) % 6908435304716, false)
  gap : modS false ((x + 18914669620) % 6908435304716 - x % 6908435304716) 6908435304716 = (18914669620, false)
theorem daily {t : Int} (h0 : 0 ≤ t) (h1 : t ≤ 157680000000) : ∃ d p q x, Daily t d p q x := by
  have d0 : 0 ≤ rnd (1099511627776 * t) 86400000 ∧ rnd (1099511627776 * t) 86400000 ≤ 2007708232318976 := by unfold rnd; omega
  have r0 : 0 ≤ t % 86400000 ∧ t % 86400000 < 86400000 := by omega
  have p0 : 0 ≤ rnd (6908435304716 * (t % 86400000)) 86400000 ∧ rnd (6908435304716 * (t % 86400000)) 86400000 ≤ 6908435304716 := by unfold rnd; omega
  have e1 : rnd (1099511627776 * (t + 86400000)) 86400000 = rnd (1099511627776 * t) 86400000 + 1099511627776 := by
    rw [show 1099511627776 * (t + 86400000) = 1099511627776 * t + 1099511627776 * 86400000 by omega]
    exact rnd_more _ _ (by decide)
  generalize hd : rnd (1099511627776 * t) 86400000 = d at d0 e1
  generalize hp : rnd (6908435304716 * (t % 86400000)) 86400000 = p at p0
  have q0 : 0 ≤ rnd (18914669620 * d) 1099511627776 ∧ rnd (18914669620 * d) 1099511627776 ≤ 35000000000000 := by unfold rnd; omega
  have e2 : rnd (18914669620 * (d + 1099511627776)) 1099511627776 = rnd (18914669620 * d) 1099511627776 + 18914669620 := by
    rw [show 18914669620 * (d + 1099511627776) = 18914669620 * d + 18914669620 * 1099511627776 by omega]
    exact rnd_more _ _ (by decide)
  generalize hq : rnd (18914669620 * d) 1099511627776 = q at q0 e2
  refine ⟨d, p, q, 5399947124839 + p + q, ?_⟩
  constructor
  · rw [part_up (by decide) (by decide) h0 (by omega) (by decide) (by decide) (by omega), hd]
  · rw [part_up (by decide) (by decide) (by omega) (by omega) (by decide) (by decide) (by omega), e1]
  · omega
  · rw [part_up (by decide) (by decide) (by omega) (by omega) (by decide) (by decide) (by omega), hp]
  · exact add_up (by decide) (by omega) (by omega)
  · unfold mulS; rw [part_up (by decide) (by decide) (by omega) (by omega) (by decide) (by decide) (by omega), hq]
  · unfold mulS; rw [part_up (by decide) (by decide) (by omega) (by omega) (by decide) (by decide) (by omega), e2]
  · exact add_up (by omega) (by omega) (by omega)
  · rw [add_up (by omega) (by omega) (by omega)]; exact Prod.ext (by show (_ : Int) = _; omega) rfl
  · exact mod_up (by omega) (by omega) (by decide) (by decide)
  · exact mod_up (by omega) (by omega) (by decide) (by decide)
  · rw [mod_up (by omega) (by omega) (by decide) (by decide)]; exact Prod.ext (by show (_ : Int) = _; omega) rfl
end Go.Proofs.Ytpceomcnknjiiaa
namespace Go.Proofs.Ytpceomcnknjiiaa
open Go.RowKit

def cRight (t : Int) : Bool := decide (0 ≤ t) && decide (t ≤ 157766400000)
def cDaysS (bad : Bool) (t : Int) : Int × Bool := if cRight t then partS bad 1099511627776 t 86400000 else (0, true)
/-- A tick in days, of a right one. -/
def cDay (t : Int) : Int := rnd (1099511627776 * t) 86400000
def cSince (t : Int) : Int := rnd (6908435304716 * (t % 86400000)) 86400000
def cBeyond (t : Int) : Int := rnd (18914669620 * cDay t) 1099511627776
def cTurnS (bad : Bool) (t : Int) : Int × Bool := if cRight t && !bad then ((5399947124839 + cSince t + cBeyond t) % 6908435304716, false) else (0, true)
theorem cRight_in {t : Int} (h0 : 0 ≤ t) (h1 : t ≤ 157766400000) : cRight t = true := by unfold cRight; rw [decide_eq_true h0, decide_eq_true h1]; rfl
theorem cRight_out {t : Int} (h : ¬ (0 ≤ t ∧ t ≤ 157766400000)) : cRight t = false := by
  unfold cRight
  by_cases a : 0 ≤ t
  · rw [decide_eq_false (p := t ≤ 157766400000) (by omega), Bool.and_false]
  · rw [decide_eq_false a]; rfl
theorem cRight_cases (t : Int) : (0 ≤ t ∧ t ≤ 157766400000) ∨ ¬ (0 ≤ t ∧ t ≤ 157766400000) := Classical.em _
/-- All steps of Turn, at a right tick. -/
structure CSteps (t : Int) : Prop where
  day : partS false 1099511627776 t 86400000 = (cDay t, false)
  part : partS false 6908435304716 (t % 86400000) 86400000 = (cSince t, false)
  mul : mulS false 18914669620 (cDay t) = (cBeyond t, false)
  add : addS false 5399947124839 (cSince t) = (5399947124839 + cSince t, false)
  sum : addS false (5399947124839 + cSince t) (cBeyond t) = (5399947124839 + cSince t + cBeyond t, false)
  mod : modS false (5399947124839 + cSince t + cBeyond t) 6908435304716 = ((5399947124839 + cSince t + cBeyond t) % 6908435304716, false)
theorem cSteps {t : Int} (h0 : 0 ≤ t) (h1 : t ≤ 157766400000) : CSteps t := by
  have d0 : 0 ≤ cDay t ∧ cDay t ≤ 2007708232318976 := by unfold cDay rnd; omega
  have p0 : 0 ≤ cSince t ∧ cSince t ≤ 6908435304716 := by unfold cSince rnd; omega
  have q0 : 0 ≤ cBeyond t ∧ cBeyond t ≤ 35000000000000 := by unfold cBeyond rnd; omega
  constructor
  · exact part_up (by decide) (by decide) h0 (by omega) (by decide) (by decide) (show cDay t ≤ _ by omega)
  · exact part_up (by decide) (by decide) (by omega) (by omega) (by decide) (by decide) (show cSince t ≤ _ by omega)
  · exact part_up (by decide) (by decide) (by omega) (by omega) (by decide) (by decide) (show cBeyond t ≤ _ by omega)
  · exact add_up (by decide) (by omega) (by omega)
  · exact add_up (by omega) (by omega) (by omega)
  · exact mod_up (by omega) (by omega) (by decide) (by decide)
theorem cDaysS_in {t : Int} (h0 : 0 ≤ t) (h1 : t ≤ 157766400000) : cDaysS false t = (cDay t, false) := by unfold cDaysS; rw [cRight_in h0 h1, if_pos rfl, (cSteps h0 h1).day]
theorem cDaysS_out (bad : Bool) {t : Int} (h : ¬ (0 ≤ t ∧ t ≤ 157766400000)) : cDaysS bad t = (0, true) := by unfold cDaysS; rw [cRight_out h]; rfl
theorem cTurnS_in {t : Int} (h0 : 0 ≤ t) (h1 : t ≤ 157766400000) : cTurnS false t = ((5399947124839 + cSince t + cBeyond t) % 6908435304716, false) := by unfold cTurnS; rw [cRight_in h0 h1]; rfl
theorem cTurnS_out (bad : Bool) {t : Int} (h : ¬ (0 ≤ t ∧ t ≤ 157766400000)) : cTurnS bad t = (0, true) := by unfold cTurnS; rw [cRight_out h]; rfl
theorem cTurnS_bad (t : Int) : cTurnS true t = (0, true) := by unfold cTurnS; rw [show (!true) = false from rfl, Bool.and_false]; rfl
/-- A day later. -/
theorem cDaily {t : Int} (h0 : 0 ≤ t) (h1 : t ≤ 157680000000) : ∃ A B, cTurnS false t = (A, false) ∧ cTurnS false (t + 86400000) = (B, false) ∧ 0 ≤ A ∧ A < 6908435304716 ∧ 0 ≤ B ∧ B < 6908435304716 ∧ modS false (B - A) 6908435304716 = (18914669620, false) := by
  refine ⟨_, _, cTurnS_in h0 (by omega), cTurnS_in (by omega) (by omega), by omega, by omega, by omega, by omega, ?_⟩
  have e1 : cDay (t + 86400000) = cDay t + 1099511627776 := by
    unfold cDay
    rw [show 1099511627776 * (t + 86400000) = 1099511627776 * t + 1099511627776 * 86400000 by omega]
    exact rnd_more _ _ (by decide)
  have e2 : cBeyond (t + 86400000) = cBeyond t + 18914669620 := by
    unfold cBeyond
    rw [e1, show 18914669620 * (cDay t + 1099511627776) = 18914669620 * cDay t + 18914669620 * 1099511627776 by omega]
    exact rnd_more _ _ (by decide)
  have e3 : cSince (t + 86400000) = cSince t := by unfold cSince; rw [show (t + 86400000) % 86400000 = t % 86400000 by omega]
  rw [e2, e3, mod_up (by omega) (by omega) (by decide) (by decide)]
  exact Prod.ext (by show (_ : Int) = _; omega) rfl
end Go.Proofs.Ytpceomcnknjiiaa
namespace Go.Proofs.Ytpceomcnknjiiaa
open Go.RowKit

/-! ### One round of a series, and the series -/
def stepS (u d : Int) (p : Int × Bool) : Int × Bool :=
  subS (partS (mulS p.2 u p.1).2 (mulS p.2 u p.1).1 1 d).2 1099511627776 (partS (mulS p.2 u p.1).2 (mulS p.2 u p.1).1 1 d).1
def serS (dd : Int → Int) (u : Int) : Nat → Int × Bool → Int × Bool
  | 0, p => p
  | n + 1, p => serS dd u n (stepS u (dd (n + 1)) p)
def dSin (n : Int) : Int := 2 * n * (2 * n + 1)
def dCos (n : Int) : Int := (2 * n - 1) * 2 * n
def cosS (bad : Bool) (t : Int) : Int × Bool := serS dCos (mulS bad t t).1 10 (1099511627776, (mulS bad t t).2)
def sinV (bad : Bool) (t : Int) : Int × Bool := serS dSin (mulS bad t t).1 10 (1099511627776, (mulS bad t t).2)
def sinS (bad : Bool) (t : Int) : Int × Bool := mulS (sinV bad t).2 t (sinV bad t).1
theorem dSin_wrap (n : Int) (h : 1 ≤ n ∧ n ≤ 10) : wrap64 (2 * n * (2 * n + 1)) = dSin n := by
  have : n = 1 ∨ n = 2 ∨ n = 3 ∨ n = 4 ∨ n = 5 ∨ n = 6 ∨ n = 7 ∨ n = 8 ∨ n = 9 ∨ n = 10 := by omega
  unfold wrap64 dSin
  rcases this with rfl | rfl | rfl | rfl | rfl | rfl | rfl | rfl | rfl | rfl <;> decide
theorem dCos_wrap (n : Int) (h : 1 ≤ n ∧ n ≤ 10) : wrap64 ((2 * n - 1) * 2 * n) = dCos n := by
  have : n = 1 ∨ n = 2 ∨ n = 3 ∨ n = 4 ∨ n = 5 ∨ n = 6 ∨ n = 7 ∨ n = 8 ∨ n = 9 ∨ n = 10 := by omega
  unfold wrap64 dCos
  rcases this with rfl | rfl | rfl | rfl | rfl | rfl | rfl | rfl | rfl | rfl <;> decide
theorem serS_round (dd : Int → Int) (u n : Int) (p T : Int × Bool) (h : 1 ≤ n) (e : serS dd u n.toNat p = T) : serS dd u (n - 1).toNat (stepS u (dd n) p) = T := by
  have : n.toNat = (n - 1).toNat + 1 := by omega
  rw [this] at e
  have e2 : (((n - 1).toNat : Nat) : Int) + 1 = n := by omega
  simpa only [serS, e2] using e
/-! ### Angles: the quarter in which one ends, and how far in it -/
def rest4 (bad : Bool) (a : Int) : Int := (modS bad a 6908435304716).1
def badM (bad : Bool) (a : Int) : Bool := (modS bad a 6908435304716).2
theorem rest4_bd (bad : Bool) (a : Int) : 0 ≤ rest4 bad a ∧ rest4 bad a < 6908435304716 := by
  unfold rest4 modS
  split
  · exact ⟨Int.emod_nonneg _ (by decide), Int.emod_lt_of_pos _ (by decide)⟩
  · decide
def quart (bad : Bool) (a : Int) : Int := rest4 bad a / 1727108826179
def inq (bad : Bool) (a : Int) : Int := rest4 bad a - quart bad a * 1727108826179
theorem quart_bd (bad : Bool) (a : Int) : 0 ≤ quart bad a ∧ quart bad a ≤ 3 ∧ 0 ≤ inq bad a ∧ inq bad a < 1727108826179 := by
  have := rest4_bd bad a
  unfold inq quart
  omega
def neg1 (p : Int × Bool) : Int × Bool := (-p.1, p.2)
def pick (k : Int) (bad : Bool) (t : Int) : Int × Bool :=
  if k = 0 then sinS bad t else if k = 1 then cosS bad t else if k = 2 then neg1 (sinS bad t) else neg1 (cosS bad t)
theorem pick_0 (bad : Bool) (t : Int) : pick 0 bad t = sinS bad t := if_pos rfl
theorem pick_1 (bad : Bool) (t : Int) : pick 1 bad t = cosS bad t := by unfold pick; rw [if_neg (by decide), if_pos rfl]
theorem pick_2 (bad : Bool) (t : Int) : pick 2 bad t = neg1 (sinS bad t) := by unfold pick; rw [if_neg (by decide), if_neg (by decide), if_pos rfl]
theorem pick_3 (bad : Bool) (t : Int) : pick 3 bad t = neg1 (cosS bad t) := by unfold pick; rw [if_neg (by decide), if_neg (by decide), if_neg (by decide)]
theorem neg1_1 (p : Int × Bool) : (neg1 p).1 = -p.1 := rfl
theorem neg1_2 (p : Int × Bool) : (neg1 p).2 = p.2 := rfl
def sinA (bad : Bool) (a : Int) : Int × Bool := pick (quart bad a) (badM bad a) (inq bad a)
def cosA (bad : Bool) (a : Int) : Int × Bool := pick (if quart bad a = 3 then 0 else quart bad a + 1) (badM bad a) (inq bad a)

/-! ### What any step answers fits, and a bad flow stays so -/
theorem sgnd_fits (n : Int) (m : Bool) (h : 0 ≤ n) : -4611686018427387904 ≤ sgnd n m ∧ sgnd n m ≤ 4611686018427387904 := by
  unfold sgnd
  split
  · split <;> omega
  · decide
theorem partS_fits (bad : Bool) (a p q : Int) : -4611686018427387904 ≤ (partS bad a p q).1 ∧ (partS bad a p q).1 ≤ 4611686018427387904 := by
  unfold partS
  split
  · rename_i c
    have c1 : tk bad [a, p, q] = true ∧ (q != 0) = true := by simpa using c
    have ht := tk_three c1.1
    exact sgnd_fits _ _ (rnd_nonneg (sz_mul_bd ht.2.1 ht.2.2.1).1 (sz_pos c1.2))
  · decide
theorem gv_fits (n : Int) : -4611686018427387904 ≤ (gv n).1 ∧ (gv n).1 ≤ 4611686018427387904 := by
  unfold gv
  cases c : numB n
  · exact ⟨by show -4611686018427387904 ≤ (0 : Int); decide, by show (0 : Int) ≤ 4611686018427387904; decide⟩
  · simpa using numB_bd c
theorem subS_fits (bad : Bool) (a b : Int) : -4611686018427387904 ≤ (subS bad a b).1 ∧ (subS bad a b).1 ≤ 4611686018427387904 := by
  unfold subS
  split
  · exact gv_fits _
  · decide
theorem serS_fits (dd : Int → Int) (u : Int) : ∀ (n : Nat) (p : Int × Bool), (-4611686018427387904 ≤ p.1 ∧ p.1 ≤ 4611686018427387904) → -4611686018427387904 ≤ (serS dd u n p).1 ∧ (serS dd u n p).1 ≤ 4611686018427387904
  | 0, _, h => h
  | n + 1, _, _ => serS_fits dd u n _ (subS_fits _ _ _)
theorem sinS_fits (bad : Bool) (t : Int) : -4611686018427387904 ≤ (sinS bad t).1 ∧ (sinS bad t).1 ≤ 4611686018427387904 := by
  unfold sinS mulS
  exact partS_fits _ _ _ _
theorem cosS_fits (bad : Bool) (t : Int) : -4611686018427387904 ≤ (cosS bad t).1 ∧ (cosS bad t).1 ≤ 4611686018427387904 := by
  unfold cosS
  exact serS_fits _ _ _ _ ⟨by show -4611686018427387904 ≤ (1099511627776 : Int); decide, by show (1099511627776 : Int) ≤ 4611686018427387904; decide⟩
theorem stepS_bad (u d v : Int) : stepS u d (v, true) = (0, true) := rfl
theorem serS_bad (dd : Int → Int) (u : Int) : ∀ (n : Nat) (v : Int), (serS dd u n (v, true)).2 = true
  | 0, _ => rfl
  | n + 1, v => by unfold serS; rw [stepS_bad]; exact serS_bad dd u n 0
theorem sinS_true (t : Int) : sinS true t = (0, true) := by
  have h : (sinV true t).2 = true := serS_bad _ _ _ _
  unfold sinS
  rw [h]
  rfl
theorem sinA_true (a : Int) : sinA true a = (0, true) := by
  have q : quart true a = 0 := rfl
  have i : inq true a = 0 := rfl
  have m : badM true a = true := rfl
  unfold sinA pick
  rw [q, i, m, if_pos rfl, sinS_true]
theorem serS_dbl (dd : Int → Int) (u : Int) : ∀ (n : Nat) (v : Int), 0 < n → serS dd u n (v, true) = (0, true)
  | 1, _, _ => rfl
  | n + 2, v, _ => by
    rw [show serS dd u (n + 2) (v, true) = serS dd u (n + 1) (stepS u (dd ((n + 1 : Nat) + 1)) (v, true)) from rfl, stepS_bad]
    exact serS_dbl dd u (n + 1) 0 (by omega)
theorem cosS_true (t : Int) : cosS true t = (0, true) := serS_dbl _ _ 10 _ (by decide)
theorem cosA_true (a : Int) : cosA true a = (0, true) := by
  have q : quart true a = 0 := rfl
  have m : badM true a = true := rfl
  unfold cosA pick
  rw [q, m, if_neg (by decide), if_pos (by decide), cosS_true]
theorem mod_bad0 {bad : Bool} {a : Int} (h : badM bad a = true) : rest4 bad a = 0 := by
  unfold badM modS at h
  unfold rest4 modS
  split at h
  · cases h
  · rename_i c; rw [if_neg c]
theorem sinA_bad {bad : Bool} {a : Int} (h : badM bad a = true) : sinA bad a = (0, true) := by
  have r := mod_bad0 h
  have q : quart bad a = 0 := by unfold quart; rw [r]; rfl
  unfold sinA pick
  rw [q, h, if_pos rfl, sinS_true]
theorem cosA_bad {bad : Bool} {a : Int} (h : badM bad a = true) : cosA bad a = (0, true) := by
  have r := mod_bad0 h
  have q : quart bad a = 0 := by unfold quart; rw [r]; rfl
  unfold cosA pick
  rw [q, h, if_neg (by decide), if_pos (by decide), cosS_true]
end Go.Proofs.Ytpceomcnknjiiaa
namespace Go.Proofs.Ytpceomcnknjiiaa
open Go.RowKit

theorem sz_signs (a p : Int) : (sz a * sz p = if (decide (a < 0) != decide (p < 0)) = true then -(a * p) else a * p) := by
  unfold sz
  by_cases x : a < 0 <;> by_cases y : p < 0 <;> simp [x, y] <;> grind
/-- A rounded quotient a p / q, of a q above 0: within half of q. -/
theorem partS_near (a p q : Int) (na : numB a = true) (np : numB p = true) (nq : numB q = true) (hq : 0 < q) (hb : sz a * sz p ≤ q * 2305843009213693952) :
    ∃ m, partS false a p q = (m, false) ∧ 2 * (m * q) ≤ 2 * (a * p) + q ∧ 2 * (a * p) ≤ 2 * (m * q) + q ∧ (0 ≤ a * p → 0 ≤ m) := by
  have e := partS_yes (bad := false) (a := a) (p := p) (q := q) (by unfold tk; simp [na, np, nq]) (by simp; omega)
  have sq : sz q = q := sz_nonneg (by omega)
  have nr := rnd_near (sz a * sz p) q (by omega)
  have n0 : 0 ≤ sz a * sz p := (sz_mul_bd na np).1
  have r0 : 0 ≤ rnd (sz a * sz p) q := rnd_nonneg n0 (by omega)
  have sg := sz_signs a p
  rw [sq, decide_eq_false (by omega : ¬ q < 0)] at e
  generalize rnd (sz a * sz p) q = r at *
  generalize sz a * sz p = n at *
  have r1 : r ≤ 4611686018427387904 := by
    by_cases c : r ≤ 4611686018427387904
    · exact c
    · have := Int.mul_le_mul_of_nonneg_right (by omega : (4611686018427387905 : Int) ≤ r) (by omega : 0 ≤ q)
      omega
  rw [show ((decide (a < 0) != decide (p < 0)) != false) = (decide (a < 0) != decide (p < 0)) by simp] at e
  generalize (decide (a < 0) != decide (p < 0)) = s at *
  have e2 : out r s = (if s = true then -r else r, false) := by
    unfold out
    rw [← sgnd_in r s r1, decide_eq_false (by omega)]
  rw [e2] at e
  refine ⟨_, e, ?_⟩
  have rz : r = 0 → r * q = 0 := fun h => by rw [h, Int.zero_mul]
  cases s
  · simp only [Bool.false_eq_true, if_false] at sg ⊢
    refine ⟨by omega, by omega, fun _ => r0⟩
  · simp only [if_true] at sg ⊢
    rw [Int.neg_mul]
    refine ⟨by omega, by omega, fun h => ?_⟩
    have n1 : n = 0 := by omega
    have h2 : r * q ≤ q / 2 := by omega
    by_cases c : r ≤ 0
    · omega
    · have := Int.mul_le_mul_of_nonneg_right (by omega : (1 : Int) ≤ r) (by omega : 0 ≤ q)
      omega
/-- A rounded product. -/
theorem mulS_near (a b : Int) (na : numB a = true) (nb : numB b = true) (hb : sz a * sz b ≤ 2535301200456458802993406410752) :
    ∃ m, mulS false a b = (m, false) ∧ m * 1099511627776 ≤ a * b + 549755813888 ∧ a * b ≤ m * 1099511627776 + 549755813888 ∧ (0 ≤ a * b → 0 ≤ m) := by
  obtain ⟨m, e, h1, h2, h3⟩ := partS_near a b 1099511627776 na nb (by rfl) (by decide) (by omega)
  exact ⟨m, e, by omega, by omega, h3⟩
theorem le_sz (a : Int) : a ≤ sz a ∧ -a ≤ sz a ∧ 0 ≤ sz a := by unfold sz; split <;> omega
theorem sz_le {a A : Int} (h : -A ≤ a ∧ a ≤ A) : sz a ≤ A := by unfold sz; split <;> omega
/-- A rounded product of numbers of up to 2^50. -/
theorem mulS_small (a b : Int) (ha : -1125899906842624 ≤ a ∧ a ≤ 1125899906842624) (hb : -1125899906842624 ≤ b ∧ b ≤ 1125899906842624) :
    ∃ m, mulS false a b = (m, false) ∧ m * 1099511627776 ≤ a * b + 549755813888 ∧ a * b ≤ m * 1099511627776 + 549755813888 ∧ (0 ≤ a * b → 0 ≤ m) := by
  refine mulS_near a b (numB_of (by omega)) (numB_of (by omega)) ?_
  have h1 := sz_le ha
  have h2 := sz_le hb
  have := Int.mul_le_mul h1 h2 (le_sz b).2.2 (by decide)
  omega
/-- A rounded part a / d. -/
theorem partS_one (a d : Int) (na : numB a = true) (hd : 0 < d ∧ d ≤ 4611686018427387904) (hb : sz a ≤ 2305843009213693952) :
    ∃ m, partS false a 1 d = (m, false) ∧ 2 * (m * d) ≤ 2 * a + d ∧ 2 * a ≤ 2 * (m * d) + d ∧ (0 ≤ a → 0 ≤ m) := by
  obtain ⟨m, e, h1, h2, h3⟩ := partS_near a 1 d na (by rfl) (numB_of (by omega)) hd.1 (by
    rw [show sz 1 = 1 by rfl]
    have := Int.mul_le_mul_of_nonneg_right (by omega : (1 : Int) ≤ d) (by decide : (0 : Int) ≤ 2305843009213693952)
    omega)
  rw [Int.mul_one] at h1 h2 h3
  exact ⟨m, e, h1, h2, h3⟩
/-- A rounded quotient a / b, of 0 to 1. -/
theorem divS_near (a b : Int) (ha : 0 ≤ a) (hab : a ≤ b) (hb : 0 < b ∧ b ≤ 4611686018427387904) :
    ∃ m, divS false a b = (m, false) ∧ 2 * (m * b) ≤ 2 * (a * 1099511627776) + b ∧ 2 * (a * 1099511627776) ≤ 2 * (m * b) + b ∧ 0 ≤ m ∧ m ≤ 1099511627776 := by
  obtain ⟨m, e, h1, h2, h3⟩ := partS_near a 1099511627776 b (numB_of (by omega)) (by rfl) (numB_of (by omega)) hb.1 (by
    rw [sz_nonneg ha, show sz 1099511627776 = 1099511627776 by rfl]
    omega)
  refine ⟨m, e, h1, h2, h3 (by omega), ?_⟩
  by_cases c : m ≤ 1099511627776
  · exact c
  · have := Int.mul_le_mul_of_nonneg_right (by omega : (1099511627777 : Int) ≤ m) (by omega : 0 ≤ b)
    omega
theorem sqrtS_near (a : Int) (h : 0 ≤ a ∧ a ≤ 4611686018427387904) :
    ∃ m, sqrtS false a = (m, false) ∧ 0 ≤ m ∧ m * m ≤ a * 1099511627776 ∧ a * 1099511627776 < (m + 1) * (m + 1) ∧ m ≤ 4611686018427387904 := by
  have s := isq_spec (a * 1099511627776) (by omega) (by omega)
  have e := sqrtS_yes (bad := false) (a := a) (by unfold tk; simp [numB_of (n := a) (by omega)]) h.1
  generalize isq (a * 1099511627776) = r at *
  have r1 : r ≤ 4611686018427387904 := by
    by_cases c : r ≤ 4611686018427387904
    · exact c
    · have := sq_mono (by omega : (0 : Int) ≤ 4611686018427387905) (by omega : 4611686018427387905 ≤ r)
      omega
  refine ⟨r, ?_, s.1, s.2.1, s.2.2, r1⟩
  rw [e]
  unfold out
  rw [← sgnd_in r false r1, decide_eq_false (by omega)]
  simp
theorem addS_good (a b : Int) (ha : numB a = true) (hb : numB b = true) (h : numB (a + b) = true) : addS false a b = (a + b, false) := by
  rw [addS_yes (by unfold tk; simp [ha, hb]), gv_yes h]
theorem subS_good (a b : Int) (ha : numB a = true) (hb : numB b = true) (h : numB (a - b) = true) : subS false a b = (a - b, false) := by
  rw [subS_yes (by unfold tk; simp [ha, hb]), gv_yes h]
end Go.Proofs.Ytpceomcnknjiiaa

namespace Go.Proofs.Ytpceomcnknjiiaa

def evp : List Int → Int → Int
  | [], _ => 0
  | c :: l, x => c + x * evp l x
def ev2 : List (List Int) → Int → Int → Int
  | [], _, _ => 0
  | l :: L, x, y => evp l x + y * ev2 L x y
def padd : List Int → List Int → List Int
  | [], m => m
  | a :: l, [] => a :: l
  | a :: l, b :: m => (a + b) :: padd l m
def padd2 : List (List Int) → List (List Int) → List (List Int)
  | [], m => m
  | a :: l, [] => a :: l
  | a :: l, b :: m => padd a b :: padd2 l m
def pscale (c : Int) (l : List Int) : List Int := l.map (c * ·)
def pscale2 (c : Int) (L : List (List Int)) : List (List Int) := L.map (pscale c)
/-- p (x) q (y). -/
def outer (p q : List Int) : List (List Int) := q.map (fun c => pscale c p)
def mulXY (L : List (List Int)) : List (List Int) := padd2 (L.map (fun l => 0 :: l)) ([] :: L)
/-- l (x + y). -/
def comp : List Int → List (List Int)
  | [] => []
  | c :: l => padd2 [[c]] (mulXY (comp l))
def inter : List Int → List Int
  | [] => []
  | c :: l => c :: 0 :: inter l
def absl (l : List Int) : List Int := l.map sz
def absl2 (L : List (List Int)) : List (List Int) := L.map absl

theorem evp_padd : ∀ (l m : List Int) (x : Int), evp (padd l m) x = evp l x + evp m x
  | [], m, x => by simp [padd, evp]
  | a :: l, [], x => by simp [padd, evp]
  | a :: l, b :: m, x => by
    simp only [padd, evp]
    rw [evp_padd l m x]
    grind
theorem ev2_padd2 : ∀ (l m : List (List Int)) (x y : Int), ev2 (padd2 l m) x y = ev2 l x y + ev2 m x y
  | [], m, x, y => by simp [padd2, ev2]
  | a :: l, [], x, y => by simp [padd2, ev2]
  | a :: l, b :: m, x, y => by
    simp only [padd2, ev2]
    rw [ev2_padd2 l m x y, evp_padd]
    grind
theorem evp_scale (c : Int) : ∀ (l : List Int) (x : Int), evp (pscale c l) x = c * evp l x
  | [], x => by simp [pscale, evp]
  | a :: l, x => by
    have := evp_scale c l x
    unfold pscale at this ⊢
    simp only [List.map_cons, evp]
    rw [this]
    grind
theorem ev2_scale2 (c : Int) : ∀ (L : List (List Int)) (x y : Int), ev2 (pscale2 c L) x y = c * ev2 L x y
  | [], x, y => by simp [pscale2, ev2]
  | a :: l, x, y => by
    have := ev2_scale2 c l x y
    unfold pscale2 at this ⊢
    simp only [List.map_cons, ev2]
    rw [this, evp_scale]
    grind
theorem ev2_outer (p : List Int) : ∀ (q : List Int) (x y : Int), ev2 (outer p q) x y = evp p x * evp q y
  | [], x, y => by simp [outer, ev2, evp]
  | c :: q, x, y => by
    have := ev2_outer p q x y
    unfold outer at this ⊢
    simp only [List.map_cons, ev2, evp]
    rw [this, evp_scale]
    grind
theorem ev2_shift : ∀ (L : List (List Int)) (x y : Int), ev2 (L.map (fun l => 0 :: l)) x y = x * ev2 L x y
  | [], x, y => by simp [ev2]
  | a :: l, x, y => by
    have := ev2_shift l x y
    simp only [List.map_cons, ev2, evp]
    rw [this]
    grind
theorem ev2_mulXY (L : List (List Int)) (x y : Int) : ev2 (mulXY L) x y = (x + y) * ev2 L x y := by
  unfold mulXY
  rw [ev2_padd2, ev2_shift]
  simp only [ev2, evp]
  grind
theorem ev2_comp : ∀ (l : List Int) (x y : Int), ev2 (comp l) x y = evp l (x + y)
  | [], x, y => by simp [comp, ev2, evp]
  | c :: l, x, y => by
    simp only [comp]
    rw [ev2_padd2, ev2_mulXY, ev2_comp l x y]
    simp only [ev2, evp]
    grind
theorem evp_inter : ∀ (l : List Int) (x : Int), evp (inter l) x = evp l (x * x)
  | [], x => by simp [inter, evp]
  | c :: l, x => by
    simp only [inter, evp]
    rw [evp_inter l x]
    grind

/-- A product's bound. -/
theorem mulbd {x y a b : Int} (hx : -a ≤ x ∧ x ≤ a) (hy : -b ≤ y ∧ y ≤ b) : -(a * b) ≤ x * y ∧ x * y ≤ a * b := by
  have hs : sz x * sz y ≤ a * b := Int.mul_le_mul (by unfold sz; split <;> omega) (by unfold sz; split <;> omega) (by unfold sz; split <;> omega) (by omega)
  unfold sz at hs
  split at hs <;> split at hs
  · rw [Int.neg_mul_neg] at hs
    have := Int.mul_nonneg (by omega : 0 ≤ -x) (by omega : 0 ≤ -y)
    rw [Int.neg_mul_neg] at this
    omega
  · rw [Int.neg_mul] at hs
    have := Int.mul_nonneg (by omega : 0 ≤ -x) (by omega : 0 ≤ y)
    rw [Int.neg_mul] at this
    omega
  · rw [Int.mul_neg] at hs
    have := Int.mul_nonneg (by omega : 0 ≤ x) (by omega : 0 ≤ -y)
    rw [Int.mul_neg] at this
    omega
  · have := Int.mul_nonneg (by omega : 0 ≤ x) (by omega : 0 ≤ y)
    omega
theorem evp_abs : ∀ (l : List Int) (x X : Int), (-X ≤ x ∧ x ≤ X) → -(evp (absl l) X) ≤ evp l x ∧ evp l x ≤ evp (absl l) X
  | [], x, X, _ => by simp [absl, evp]
  | c :: l, x, X, h => by
    have ih := evp_abs l x X h
    have m := mulbd h ih
    unfold absl at ih m ⊢
    simp only [List.map_cons, evp]
    have s : -(sz c) ≤ c ∧ c ≤ sz c := by unfold sz; split <;> omega
    omega
theorem ev2_abs : ∀ (L : List (List Int)) (x y X Y : Int), (-X ≤ x ∧ x ≤ X) → (-Y ≤ y ∧ y ≤ Y) → -(ev2 (absl2 L) X Y) ≤ ev2 L x y ∧ ev2 L x y ≤ ev2 (absl2 L) X Y
  | [], x, y, X, Y, _, _ => by simp [absl2, ev2]
  | l :: L, x, y, X, Y, hx, hy => by
    have ih := ev2_abs L x y X Y hx hy
    have m := mulbd hy ih
    have e := evp_abs l x X hx
    unfold absl2 at ih m ⊢
    simp only [List.map_cons, ev2]
    omega
end Go.Proofs.Ytpceomcnknjiiaa
namespace Go.Proofs.Ytpceomcnknjiiaa

/-- What the first numbers of a series are divided by, together; and the series itself, times that. -/
def lwD : List Int → Int
  | [] => 1
  | d :: ds => d * 1208925819614629174706176 * lwD ds
def lw : List Int → List Int
  | [] => [1]
  | d :: ds => lwD (d :: ds) :: pscale (-1) (lw ds)
theorem lwD_pos : ∀ (ds : List Int), (∀ d ∈ ds, 0 < d) → 0 < lwD ds
  | [], _ => by decide
  | d :: ds, h => by
    have h1 := lwD_pos ds (fun e he => h e (List.mem_cons_of_mem _ he))
    have h2 : 0 < d := h d (List.mem_cons_self ..)
    unfold lwD
    exact Int.mul_pos (Int.mul_pos h2 (by decide)) h1
theorem lw_step (d : Int) (ds : List Int) (y : Int) : evp (lw (d :: ds)) y = d * 1208925819614629174706176 * lwD ds - y * evp (lw ds) y := by
  rw [show lw (d :: ds) = lwD (d :: ds) :: pscale (-1) (lw ds) from rfl]
  simp only [evp, lwD]
  rw [evp_scale]
  grind
/-- One round: what is off grows by little. -/
theorem ser_step (t u v d D W : Int) (ht : 0 ≤ t ∧ t ≤ 1727108826179) (hu0 : 0 ≤ u) (hu1 : u * 1099511627776 ≤ t * t + 549755813888) (hu2 : t * t ≤ u * 1099511627776 + 549755813888)
    (hv : 0 ≤ v ∧ v ≤ 1099511627776) (hd : 2 ≤ d ∧ d ≤ 1000) (hD : 0 < D) (he : -D ≤ v * D - 1099511627776 * W ∧ v * D - 1099511627776 * W ≤ D) :
    ∃ v1, stepS u d (v, false) = (v1, false) ∧ v1 ≤ 1099511627776 ∧ (6 ≤ d → 0 ≤ v1) ∧ -1099511627776 ≤ v1 ∧
      -((7 + d) * (1208925819614629174706176 * D)) ≤ 2 * (v1 * (d * 1208925819614629174706176 * D) - 1099511627776 * (d * 1208925819614629174706176 * D - t * t * W)) ∧
      2 * (v1 * (d * 1208925819614629174706176 * D) - 1099511627776 * (d * 1208925819614629174706176 * D - t * t * W)) ≤ (7 + d) * (1208925819614629174706176 * D) := by
  have tt0 : 0 ≤ t * t := Int.mul_nonneg ht.1 ht.1
  have tt1 : t * t ≤ 1727108826179 * 1727108826179 := Int.mul_le_mul ht.2 ht.2 ht.1 (by decide)
  have u1 : u ≤ 2712936701216 := by omega
  obtain ⟨m, em, m1, m2, m3⟩ := mulS_small u v (by omega) (by omega)
  have uv0 : 0 ≤ u * v := Int.mul_nonneg hu0 hv.1
  have uv1 : u * v ≤ 2712936701216 * 1099511627776 := Int.mul_le_mul u1 hv.2 hv.1 (by decide)
  have m0 := m3 uv0
  have mt : m ≤ 2712936701216 := by omega
  obtain ⟨p, ep, p1, p2, p3⟩ := partS_one m d (numB_of (by omega)) (by omega) (by rw [sz_nonneg m0]; omega)
  have p0 := p3 m0
  have pb : p ≤ 1356468350609 := by
    by_cases c : p ≤ 1356468350609
    · exact c
    · have := Int.mul_le_mul_of_nonneg_left hd.1 p0
      have h2 : (p * 2 - 1) * d ≥ (p * 2 - 1) * 2 := Int.mul_le_mul_of_nonneg_left hd.1 (by omega)
      have h3 : (p * 2 - 1) * d = 2 * (p * d) - d := by grind
      omega
  have pb6 : 6 ≤ d → p ≤ 1099511627776 := fun h6 => by
    by_cases c : p ≤ 1099511627776
    · exact c
    · have h2 : (p * 2 - 1) * d ≥ (p * 2 - 1) * 6 := Int.mul_le_mul_of_nonneg_left h6 (by omega)
      have h3 : (p * 2 - 1) * d = 2 * (p * d) - d := by grind
      omega
  refine ⟨1099511627776 - p, ?_, by omega, fun h6 => by have := pb6 h6; omega, by omega, ?_⟩
  · unfold stepS
    show subS (partS (mulS false u v).2 (mulS false u v).1 1 d).2 1099511627776 (partS (mulS false u v).2 (mulS false u v).1 1 d).1 = _
    rw [em]
    show subS (partS false m 1 d).2 1099511627776 (partS false m 1 d).1 = _
    rw [ep]
    exact subS_good _ _ rfl (numB_of (by omega)) (numB_of (by omega))
  · clear em ep pb pb6 m3 p3
    -- the four parts of what is off
    obtain ⟨e1, he1⟩ : ∃ e1, e1 = p * d - m := ⟨_, rfl⟩
    obtain ⟨e2, he2⟩ : ∃ e2, e2 = m * 1099511627776 - u * v := ⟨_, rfl⟩
    obtain ⟨e3, he3⟩ : ∃ e3, e3 = u * 1099511627776 - t * t := ⟨_, rfl⟩
    obtain ⟨e4, he4⟩ : ∃ e4, e4 = v * D - 1099511627776 * W := ⟨_, rfl⟩
    have key : (1099511627776 - p) * (d * 1208925819614629174706176 * D) - 1099511627776 * (d * 1208925819614629174706176 * D - t * t * W) = -(t * t * e4) - e3 * v * D - e2 * (1099511627776 * D) - e1 * (1208925819614629174706176 * D) := by
      rw [he1, he2, he3, he4]
      grind
    rw [key]
    have q4 := mulbd (x := t * t) (y := e4) (a := 1727108826179 * 1727108826179) (b := D) (by omega) (by omega)
    have q3a := mulbd (x := e3) (y := v) (a := 549755813888) (b := 1099511627776) (by omega) (by omega)
    have q3 := mulbd (x := e3 * v) (y := D) (a := 549755813888 * 1099511627776) (b := D) q3a (by omega)
    have q2 := mulbd (x := e2) (y := 1099511627776 * D) (a := 549755813888) (b := 1099511627776 * D) (by omega) (by omega)
    have q1 := mulbd (x := 2 * e1) (y := 1208925819614629174706176 * D) (a := d) (b := 1208925819614629174706176 * D) (by omega) (by omega)
    have r1 : 2 * e1 * (1208925819614629174706176 * D) = 2 * (e1 * (1208925819614629174706176 * D)) := by grind
    rw [r1] at q1
    have r2 : (7 + d) * (1208925819614629174706176 * D) = 7 * (1208925819614629174706176 * D) + d * (1208925819614629174706176 * D) := by grind
    rw [r2]
    generalize t * t * e4 = z4 at *
    generalize e3 * v * D = z3 at *
    generalize e2 * (1099511627776 * D) = z2 at *
    generalize e1 * (1208925819614629174706176 * D) = z1 at *
    generalize d * (1208925819614629174706176 * D) = z0 at *
    omega

theorem serS_last (dd : Int → Int) (u : Int) : ∀ (n : Nat) (p : Int × Bool), serS dd u (n + 1) p = stepS u (dd 1) (serS (fun m => dd (m + 1)) u n p)
  | 0, p => rfl
  | n + 1, p => by
    rw [show serS dd u (n + 1 + 1) p = serS dd u (n + 1) (stepS u (dd (((n + 1 : Nat) : Int) + 1)) p) from rfl, serS_last dd u n]
    rfl
def dsOf (dd : Int → Int) : Nat → List Int → List Int
  | 0, ds => ds
  | n + 1, ds => dsOf dd n (dd (n + 1) :: ds)
theorem ser_inv (dd : Int → Int) (t u : Int) (ht : 0 ≤ t ∧ t ≤ 1727108826179) (hu0 : 0 ≤ u) (hu1 : u * 1099511627776 ≤ t * t + 549755813888) (hu2 : t * t ≤ u * 1099511627776 + 549755813888) :
    ∀ (n : Nat) (v : Int) (ds : List Int), (∀ m : Int, 1 ≤ m → m ≤ n → 12 ≤ dd m ∧ dd m ≤ 1000) → (∀ d ∈ ds, 0 < d) → (0 ≤ v ∧ v ≤ 1099511627776) →
      (-(lwD ds) ≤ v * lwD ds - 1099511627776 * evp (lw ds) (t * t) ∧ v * lwD ds - 1099511627776 * evp (lw ds) (t * t) ≤ lwD ds) →
      ∃ v', serS dd u n (v, false) = (v', false) ∧ 0 ≤ v' ∧ v' ≤ 1099511627776 ∧ (∀ d ∈ dsOf dd n ds, 0 < d) ∧
        -(lwD (dsOf dd n ds)) ≤ v' * lwD (dsOf dd n ds) - 1099511627776 * evp (lw (dsOf dd n ds)) (t * t) ∧ v' * lwD (dsOf dd n ds) - 1099511627776 * evp (lw (dsOf dd n ds)) (t * t) ≤ lwD (dsOf dd n ds)
  | 0, v, ds, _, hp, hv, he => ⟨v, rfl, hv.1, hv.2, hp, he.1, he.2⟩
  | n + 1, v, ds, hdd, hp, hv, he => by
    have hd := hdd ((n : Int) + 1) (by omega) (by omega)
    obtain ⟨v1, e1, b1, b2, _, c1, c2⟩ := ser_step t u v (dd (n + 1)) (lwD ds) (evp (lw ds) (t * t)) ht hu0 hu1 hu2 hv (by omega) (lwD_pos ds hp) he
    have hp' : ∀ d ∈ dd (n + 1) :: ds, 0 < d := by
      intro d h
      rcases List.mem_cons.1 h with rfl | h
      · omega
      · exact hp d h
    have ew := lw_step (dd (n + 1)) ds (t * t)
    have eD : lwD (dd (n + 1) :: ds) = dd (n + 1) * 1208925819614629174706176 * lwD ds := rfl
    have k : (7 + dd (n + 1)) * (1208925819614629174706176 * lwD ds) ≤ 2 * (dd (n + 1) * 1208925819614629174706176 * lwD ds) := by
      have h0 := Int.mul_pos (by decide : (0 : Int) < 1208925819614629174706176) (lwD_pos ds hp)
      have h1 := Int.mul_le_mul_of_nonneg_right (by omega : 7 + dd (n + 1) ≤ 2 * dd (n + 1)) (Int.le_of_lt h0)
      have h2 : 2 * dd (n + 1) * (1208925819614629174706176 * lwD ds) = 2 * (dd (n + 1) * 1208925819614629174706176 * lwD ds) := by grind
      omega
    have := ser_inv dd t u ht hu0 hu1 hu2 n v1 (dd (n + 1) :: ds) (fun m h1 h2 => hdd m h1 (by omega)) hp' ⟨b2 (by omega), b1⟩ (by rw [ew, eD]; omega)
    rw [show serS dd u (n + 1) (v, false) = serS dd u n (stepS u (dd (n + 1)) (v, false)) from rfl, e1]
    exact this
end Go.Proofs.Ytpceomcnknjiiaa
namespace Go.Proofs.Ytpceomcnknjiiaa

def dsS : List Int := dsOf (fun m => dSin (m + 1)) 9 []
def dsC : List Int := dsOf (fun m => dCos (m + 1)) 9 []
/-- The sine's and the cosine's polynomials, both times kk. -/
def lS : List Int := 0 :: inter (lw (6 :: dsS))
def lC : List Int := pscale (21 * 1099511627776) (inter (lw (2 :: dsC)))
def kk : Int := 1099511627776 * lwD (6 :: dsS)
def pS (x : Int) : Int := evp lS x
def pC (x : Int) : Int := evp lC x
theorem kk_pos : 0 < kk := by decide +kernel
theorem kk_cos : kk = 21 * 1099511627776 * lwD (2 :: dsC) := by decide +kernel
theorem pS_eq (x : Int) : pS x = x * evp (lw (6 :: dsS)) (x * x) := by
  unfold pS lS
  simp only [evp]
  rw [evp_inter]
  omega
theorem pC_eq (x : Int) : pC x = 21 * 1099511627776 * evp (lw (2 :: dsC)) (x * x) := by
  unfold pC lC
  rw [evp_scale, evp_inter]
theorem pS_neg (x : Int) : pS (-x) = -pS x := by rw [pS_eq, pS_eq, Int.neg_mul_neg, Int.neg_mul]
theorem pC_neg (x : Int) : pC (-x) = pC x := by rw [pC_eq, pC_eq, Int.neg_mul_neg]
theorem pC_zero : pC 0 = kk := by decide +kernel

theorem dSin_up (m : Int) (h : 1 ≤ m) (h2 : m ≤ 9) : 12 ≤ dSin (m + 1) ∧ dSin (m + 1) ≤ 1000 := by
  have : m = 1 ∨ m = 2 ∨ m = 3 ∨ m = 4 ∨ m = 5 ∨ m = 6 ∨ m = 7 ∨ m = 8 ∨ m = 9 := by omega
  rcases this with rfl | rfl | rfl | rfl | rfl | rfl | rfl | rfl | rfl <;> decide
theorem dCos_up (m : Int) (h : 1 ≤ m) (h2 : m ≤ 9) : 12 ≤ dCos (m + 1) ∧ dCos (m + 1) ≤ 1000 := by
  have : m = 1 ∨ m = 2 ∨ m = 3 ∨ m = 4 ∨ m = 5 ∨ m = 6 ∨ m = 7 ∨ m = 8 ∨ m = 9 := by omega
  rcases this with rfl | rfl | rfl | rfl | rfl | rfl | rfl | rfl | rfl <;> decide

/-- A cosine, of 0 up to h: within 3 of its last bits. -/
theorem cos_near (t : Int) (ht : 0 ≤ t ∧ t ≤ 1727108826179) :
    ∃ c, cosS false t = (c, false) ∧ -1099511627776 ≤ c ∧ c ≤ 1099511627776 ∧ -(3 * kk) ≤ c * kk - 1099511627776 * pC t ∧ c * kk - 1099511627776 * pC t ≤ 3 * kk := by
  obtain ⟨u, eu, u1, u2, u3⟩ := mulS_small t t (by omega) (by omega)
  have u0 := u3 (Int.mul_nonneg ht.1 ht.1)
  obtain ⟨v, ev, v0, v1, vp, c1, c2⟩ := ser_inv (fun m => dCos (m + 1)) t u ht u0 u1 u2 9 1099511627776 [] dCos_up (by simp) (by decide) (by simp only [lwD, lw, evp]; omega)
  have hp := lwD_pos _ vp
  obtain ⟨c, ec, b1, _, b2, d1, d2⟩ := ser_step t u v 2 _ _ ht u0 u1 u2 ⟨v0, v1⟩ (by decide) hp ⟨c1, c2⟩
  have ew := lw_step 2 dsC (t * t)
  have eD : lwD (2 :: dsC) = 2 * 1208925819614629174706176 * lwD dsC := rfl
  refine ⟨c, ?_, b2, b1, ?_⟩
  · unfold cosS
    rw [eu]
    show serS dCos u (9 + 1) (1099511627776, false) = _
    rw [serS_last, ev]
    exact ec
  · rw [pC_eq, ew, kk_cos, eD]
    have hp2 : 0 < lwD dsC := hp
    have d1' : -((7 + 2) * (1208925819614629174706176 * lwD dsC)) ≤ 2 * (c * (2 * 1208925819614629174706176 * lwD dsC) - 1099511627776 * (2 * 1208925819614629174706176 * lwD dsC - t * t * evp (lw dsC) (t * t))) := d1
    have d2' : 2 * (c * (2 * 1208925819614629174706176 * lwD dsC) - 1099511627776 * (2 * 1208925819614629174706176 * lwD dsC - t * t * evp (lw dsC) (t * t))) ≤ (7 + 2) * (1208925819614629174706176 * lwD dsC) := d2
    have e : c * (21 * 1099511627776 * (2 * 1208925819614629174706176 * lwD dsC)) - 1099511627776 * (21 * 1099511627776 * (2 * 1208925819614629174706176 * lwD dsC - t * t * evp (lw dsC) (t * t))) = 21 * 1099511627776 * (c * (2 * 1208925819614629174706176 * lwD dsC) - 1099511627776 * (2 * 1208925819614629174706176 * lwD dsC - t * t * evp (lw dsC) (t * t))) := by grind
    rw [e]
    generalize c * (2 * 1208925819614629174706176 * lwD dsC) - 1099511627776 * (2 * 1208925819614629174706176 * lwD dsC - t * t * evp (lw dsC) (t * t)) = z at *
    generalize lwD dsC = D at *
    omega
/-- A sine, of 0 up to h. -/
theorem sin_near (t : Int) (ht : 0 ≤ t ∧ t ≤ 1727108826179) :
    ∃ s, sinS false t = (s, false) ∧ 0 ≤ s ∧ s ≤ 1727108826179 ∧ -(3 * kk) ≤ s * kk - 1099511627776 * pS t ∧ s * kk - 1099511627776 * pS t ≤ 3 * kk := by
  obtain ⟨u, eu, u1, u2, u3⟩ := mulS_small t t (by omega) (by omega)
  have u0 := u3 (Int.mul_nonneg ht.1 ht.1)
  obtain ⟨v, ev, v0, v1, vp, c1, c2⟩ := ser_inv (fun m => dSin (m + 1)) t u ht u0 u1 u2 9 1099511627776 [] dSin_up (by simp) (by decide) (by simp only [lwD, lw, evp]; omega)
  have hp := lwD_pos _ vp
  obtain ⟨c, ec, b1, b0, b2, d1, d2⟩ := ser_step t u v 6 _ _ ht u0 u1 u2 ⟨v0, v1⟩ (by decide) hp ⟨c1, c2⟩
  have c0 := b0 (by decide)
  obtain ⟨s, es, s1, s2, s3⟩ := mulS_small t c (by omega) (by omega)
  have tc0 := Int.mul_nonneg ht.1 c0
  have tc1 : t * c ≤ 1727108826179 * 1099511627776 := Int.mul_le_mul ht.2 b1 c0 (by decide)
  have ew := lw_step 6 dsS (t * t)
  have eD : lwD (6 :: dsS) = 6 * 1208925819614629174706176 * lwD dsS := rfl
  refine ⟨s, ?_, s3 tc0, by omega, ?_⟩
  · have hv : sinV false t = (c, false) := by
      unfold sinV
      rw [eu]
      show serS dSin u (9 + 1) (1099511627776, false) = _
      rw [serS_last, ev]
      exact ec
    unfold sinS
    rw [hv]
    exact es
  · rw [pS_eq, ew, show kk = 1099511627776 * lwD (6 :: dsS) from rfl, eD]
    have hp2 : 0 < lwD dsS := hp
    have d1' : -((7 + 6) * (1208925819614629174706176 * lwD dsS)) ≤ 2 * (c * (6 * 1208925819614629174706176 * lwD dsS) - 1099511627776 * (6 * 1208925819614629174706176 * lwD dsS - t * t * evp (lw dsS) (t * t))) := d1
    have d2' : 2 * (c * (6 * 1208925819614629174706176 * lwD dsS) - 1099511627776 * (6 * 1208925819614629174706176 * lwD dsS - t * t * evp (lw dsS) (t * t))) ≤ (7 + 6) * (1208925819614629174706176 * lwD dsS) := d2
    have e : s * (1099511627776 * (6 * 1208925819614629174706176 * lwD dsS)) - 1099511627776 * (t * (6 * 1208925819614629174706176 * lwD dsS - t * t * evp (lw dsS) (t * t)))
        = (s * 1099511627776 - t * c) * (6 * 1208925819614629174706176 * lwD dsS) + t * (c * (6 * 1208925819614629174706176 * lwD dsS) - 1099511627776 * (6 * 1208925819614629174706176 * lwD dsS - t * t * evp (lw dsS) (t * t))) := by grind
    rw [e]
    generalize c * (6 * 1208925819614629174706176 * lwD dsS) - 1099511627776 * (6 * 1208925819614629174706176 * lwD dsS - t * t * evp (lw dsS) (t * t)) = z at *
    generalize lwD dsS = D at *
    have q1 := mulbd (x := s * 1099511627776 - t * c) (y := 6 * 1208925819614629174706176 * D) (a := 549755813888) (b := 6 * 1208925819614629174706176 * D) (by omega) (by omega)
    have q2 := mulbd (x := t) (y := 2 * z) (a := 1727108826179) (b := 13 * (1208925819614629174706176 * D)) (by omega) (by omega)
    have r : t * (2 * z) = 2 * (t * z) := by grind
    rw [r] at q2
    generalize t * z = tz at *
    generalize (s * 1099511627776 - t * c) * (6 * 1208925819614629174706176 * D) = sd at *
    omega

/-! ### The sine and the cosine of a sum -/
def rS : List (List Int) := padd2 (pscale2 kk (comp lS)) (pscale2 (-1) (padd2 (outer lS lC) (outer lC lS)))
def rC : List (List Int) := padd2 (pscale2 kk (comp lC)) (padd2 (pscale2 (-1) (outer lC lC)) (outer lS lS))
theorem rS_eq (x y : Int) : ev2 rS x y = pS (x + y) * kk - (pS x * pC y + pC x * pS y) := by
  unfold rS
  rw [ev2_padd2, ev2_scale2, ev2_scale2, ev2_padd2, ev2_outer, ev2_outer, ev2_comp]
  unfold pS pC
  grind
theorem rC_eq (x y : Int) : ev2 rC x y = pC (x + y) * kk - (pC x * pC y - pS x * pS y) := by
  unfold rC
  rw [ev2_padd2, ev2_padd2, ev2_scale2, ev2_scale2, ev2_outer, ev2_outer, ev2_comp]
  unfold pS pC
  grind
theorem rS_small : ev2 (absl2 rS) 1727108826179 1727108826179 * 1099511627776 ≤ 12 * (kk * kk) := by decide +kernel
theorem rC_small : ev2 (absl2 rC) 1727108826179 1727108826179 * 1099511627776 ≤ 87 * (kk * kk) := by decide +kernel
theorem pS_h : -kk ≤ (pS 1727108826179 - kk) * 1099511627776 ∧ (pS 1727108826179 - kk) * 1099511627776 ≤ kk := by decide +kernel
theorem pC_h : -kk ≤ pC 1727108826179 * 1099511627776 ∧ pC 1727108826179 * 1099511627776 ≤ kk := by decide +kernel
theorem pS_abs : evp (absl lS) 1727108826179 ≤ 3 * kk := by decide +kernel
theorem pC_abs : evp (absl lC) 1727108826179 ≤ 3 * kk := by decide +kernel
theorem pS_bd (x : Int) (h : -1727108826179 ≤ x ∧ x ≤ 1727108826179) : -(3 * kk) ≤ pS x ∧ pS x ≤ 3 * kk := by
  have := evp_abs lS x 1727108826179 h
  have k := pS_abs
  unfold pS
  omega
theorem pC_bd (x : Int) (h : -1727108826179 ≤ x ∧ x ≤ 1727108826179) : -(3 * kk) ≤ pC x ∧ pC x ≤ 3 * kk := by
  have := evp_abs lC x 1727108826179 h
  have k := pC_abs
  unfold pC
  omega
theorem sum_S (x y : Int) (hx : -1727108826179 ≤ x ∧ x ≤ 1727108826179) (hy : -1727108826179 ≤ y ∧ y ≤ 1727108826179) :
    -(12 * (kk * kk)) ≤ (pS (x + y) * kk - (pS x * pC y + pC x * pS y)) * 1099511627776 ∧ (pS (x + y) * kk - (pS x * pC y + pC x * pS y)) * 1099511627776 ≤ 12 * (kk * kk) := by
  have := ev2_abs rS x y 1727108826179 1727108826179 hx hy
  have k := rS_small
  rw [rS_eq] at this
  omega
theorem sum_C (x y : Int) (hx : -1727108826179 ≤ x ∧ x ≤ 1727108826179) (hy : -1727108826179 ≤ y ∧ y ≤ 1727108826179) :
    -(87 * (kk * kk)) ≤ (pC (x + y) * kk - (pC x * pC y - pS x * pS y)) * 1099511627776 ∧ (pC (x + y) * kk - (pC x * pC y - pS x * pS y)) * 1099511627776 ≤ 87 * (kk * kk) := by
  have := ev2_abs rC x y 1727108826179 1727108826179 hx hy
  have k := rC_small
  rw [rC_eq] at this
  omega
end Go.Proofs.Ytpceomcnknjiiaa
namespace Go.Proofs.Ytpceomcnknjiiaa

/-- A number S that is within 3 last bits of P / K. -/
structure Nr (K S P : Int) : Prop where
  lo : -(3 * K) ≤ S * K - 1099511627776 * P
  hi : S * K - 1099511627776 * P ≤ 3 * K
  bl : -2199023255552 ≤ S
  bh : S ≤ 2199023255552
theorem Nr.neg {K S P : Int} (h : Nr K S P) : Nr K (-S) (-P) := by
  have h1 := h.lo
  have h2 := h.hi
  have h3 := h.bl
  have h4 := h.bh
  constructor
  · rw [Int.neg_mul]; omega
  · rw [Int.neg_mul]; omega
  · omega
  · omega
theorem prod_near {K S C P Q : Int} (hK : 0 < K) (hS : Nr K S P) (hC : Nr K C Q) :
    -(13194139533321 * (K * K)) ≤ 1208925819614629174706176 * (P * Q) - K * K * (S * C) ∧ 1208925819614629174706176 * (P * Q) - K * K * (S * C) ≤ 13194139533321 * (K * K) := by
  obtain ⟨a1, a2, a3, a4⟩ := hS
  obtain ⟨b1, b2, b3, b4⟩ := hC
  obtain ⟨e1, h1⟩ : ∃ e1, e1 = S * K - 1099511627776 * P := ⟨_, rfl⟩
  obtain ⟨e2, h2⟩ : ∃ e2, e2 = C * K - 1099511627776 * Q := ⟨_, rfl⟩
  have key : 1208925819614629174706176 * (P * Q) - K * K * (S * C) = e1 * e2 - S * e2 * K - C * e1 * K := by rw [h1, h2]; grind
  rw [key]
  have q0 := mulbd (x := e1) (y := e2) (a := 3 * K) (b := 3 * K) (by omega) (by omega)
  have q1 := mulbd (x := S) (y := e2) (a := 2199023255552) (b := 3 * K) (by omega) (by omega)
  have q2 := mulbd (x := S * e2) (y := K) (a := 2199023255552 * (3 * K)) (b := K) q1 (by omega)
  have q3 := mulbd (x := C) (y := e1) (a := 2199023255552) (b := 3 * K) (by omega) (by omega)
  have q4 := mulbd (x := C * e1) (y := K) (a := 2199023255552 * (3 * K)) (b := K) q3 (by omega)
  have r0 : 3 * K * (3 * K) = 9 * (K * K) := by grind
  have r1 : 2199023255552 * (3 * K) * K = 6597069766656 * (K * K) := by grind
  rw [r0] at q0
  rw [r1] at q2 q4
  omega
theorem le_of_KK {K A B : Int} (hK : 0 < K) (h : A * (K * K) ≤ B * (K * K)) : A ≤ B :=
  Int.le_of_mul_le_mul_right h (Int.mul_pos hK hK)
/-- A sum of two products. -/
theorem sum_near {K S1 C1 S2 C2 S3 P1 Q1 P2 Q2 P3 r : Int} (hK : 0 < K) (h1 : Nr K S1 P1) (k1 : Nr K C1 Q1) (h2 : Nr K S2 P2) (k2 : Nr K C2 Q2) (h3 : Nr K S3 P3)
    (hr : -(r * (K * K)) ≤ (P3 * K - (P1 * Q2 + Q1 * P2)) * 1099511627776 ∧ (P3 * K - (P1 * Q2 + Q1 * P2)) * 1099511627776 ≤ r * (K * K)) :
    -((27 + r) * 1099511627776 + 18) ≤ 1099511627776 * S3 - (S1 * C2 + C1 * S2) ∧ 1099511627776 * S3 - (S1 * C2 + C1 * S2) ≤ (27 + r) * 1099511627776 + 18 := by
  have p1 := prod_near hK h1 k2
  have p2 := prod_near hK k1 h2
  obtain ⟨a1, a2, _, _⟩ := h3
  obtain ⟨e3, he⟩ : ∃ e3, e3 = S3 * K - 1099511627776 * P3 := ⟨_, rfl⟩
  have q := mulbd (x := e3) (y := K) (a := 3 * K) (b := K) (by omega) (by omega)
  have r0 : 3 * K * K = 3 * (K * K) := by grind
  rw [r0] at q
  have key : (1099511627776 * S3 - (S1 * C2 + C1 * S2)) * (K * K) = 1099511627776 * (e3 * K) + 1099511627776 * ((P3 * K - (P1 * Q2 + Q1 * P2)) * 1099511627776) + (1208925819614629174706176 * (P1 * Q2) - K * K * (S1 * C2)) + (1208925819614629174706176 * (Q1 * P2) - K * K * (C1 * S2)) := by rw [he]; grind
  have kb : ((27 + r) * 1099511627776 + 18) * (K * K) = 29686813949970 * (K * K) + 1099511627776 * (r * (K * K)) := by grind
  generalize (P3 * K - (P1 * Q2 + Q1 * P2)) * 1099511627776 = z at *
  generalize e3 * K = z3 at *
  generalize 1208925819614629174706176 * (P1 * Q2) - K * K * (S1 * C2) = z1 at *
  generalize 1208925819614629174706176 * (Q1 * P2) - K * K * (C1 * S2) = z2 at *
  constructor
  · refine le_of_KK hK ?_
    rw [key, Int.neg_mul, kb]
    omega
  · refine le_of_KK hK ?_
    rw [key, kb]
    omega
theorem sin_nr (t : Int) (ht : 0 ≤ t ∧ t ≤ 1727108826179) : ∃ s, sinS false t = (s, false) ∧ Nr kk s (pS t) := by
  obtain ⟨s, e, h1, h2, h3, h4⟩ := sin_near t ht
  exact ⟨s, e, h3, h4, by omega, by omega⟩
theorem cos_nr (t : Int) (ht : 0 ≤ t ∧ t ≤ 1727108826179) : ∃ s, cosS false t = (s, false) ∧ Nr kk s (pC t) := by
  obtain ⟨s, e, h1, h2, h3, h4⟩ := cos_near t ht
  exact ⟨s, e, h3, h4, by omega, by omega⟩
/-- The squares together. -/
theorem one_near {t S C : Int} (ht : 0 ≤ t ∧ t ≤ 1727108826179) (hS : Nr kk S (pS t)) (hC : Nr kk C (pC t)) :
    -(111 * 1099511627776 + 18) ≤ 1208925819614629174706176 - (S * S + C * C) ∧ 1208925819614629174706176 - (S * S + C * C) ≤ 111 * 1099511627776 + 18 := by
  have e := sum_C t (-t) (by omega) (by omega)
  rw [show t + -t = 0 by omega, pC_zero, pC_neg, pS_neg] at e
  have p1 := prod_near kk_pos hS hS
  have p2 := prod_near kk_pos hC hC
  have kp := kk_pos
  generalize pS t = P at *
  generalize pC t = Q at *
  generalize kk = K at *
  have key : (1208925819614629174706176 - (S * S + C * C)) * (K * K) = 1099511627776 * ((K * K - (Q * Q - P * -P)) * 1099511627776) + (1208925819614629174706176 * (P * P) - K * K * (S * S)) + (1208925819614629174706176 * (Q * Q) - K * K * (C * C)) := by grind
  generalize (K * K - (Q * Q - P * -P)) * 1099511627776 = z at *
  generalize 1208925819614629174706176 * (P * P) - K * K * (S * S) = z1 at *
  generalize 1208925819614629174706176 * (Q * Q) - K * K * (C * C) = z2 at *
  constructor
  · refine le_of_KK kp ?_
    rw [key, Int.neg_mul]
    omega
  · refine le_of_KK kp ?_
    rw [key]
    omega

/-! ### A sum of angles within one quarter, and beyond it -/
theorem core1 {x y S1 C1 S2 C2 S3 C3 : Int} (hx : 0 ≤ x ∧ x ≤ 1727108826179) (hy : 0 ≤ y ∧ y ≤ 1727108826179)
    (h1 : Nr kk S1 (pS x)) (k1 : Nr kk C1 (pC x)) (h2 : Nr kk S2 (pS y)) (k2 : Nr kk C2 (pC y)) (h3 : Nr kk S3 (pS (x + y))) (k3 : Nr kk C3 (pC (x + y))) :
    (-274877906944000 ≤ 1099511627776 * S3 - (S1 * C2 + C1 * S2) ∧ 1099511627776 * S3 - (S1 * C2 + C1 * S2) ≤ 274877906944000) ∧
    (-274877906944000 ≤ 1099511627776 * C3 - (C1 * C2 - S1 * S2) ∧ 1099511627776 * C3 - (C1 * C2 - S1 * S2) ≤ 274877906944000) := by
  have a := sum_near (r := 12) kk_pos h1 k1 h2 k2 h3 (sum_S x y (by omega) (by omega))
  have b := sum_near (r := 87) kk_pos k1 h1.neg h2 k2 k3 (by
    have e := sum_C x y (by omega) (by omega)
    rw [show pC x * pC y - pS x * pS y = pC x * pC y + -pS x * pS y by grind] at e
    exact e)
  rw [show C1 * C2 + -S1 * S2 = C1 * C2 - S1 * S2 by grind] at b
  constructor <;> omega
theorem beyond (x y z : Int) (hz : 0 ≤ z ∧ z ≤ 1727108826179) (hx : 0 ≤ x ∧ x ≤ 1727108826179) (hy : 0 ≤ y ∧ y ≤ 1727108826179) (e : x + y = z + 1727108826179) :
    (-(30 * (kk * kk)) ≤ (pC z * kk - (pS x * pC y + pC x * pS y)) * 1099511627776 ∧ (pC z * kk - (pS x * pC y + pC x * pS y)) * 1099511627776 ≤ 30 * (kk * kk)) ∧
    (-(180 * (kk * kk)) ≤ (-pS z * kk - (pC x * pC y + -pS x * pS y)) * 1099511627776 ∧ (-pS z * kk - (pC x * pC y + -pS x * pS y)) * 1099511627776 ≤ 180 * (kk * kk)) := by
  have a1 := sum_S x y (by omega) (by omega)
  have a2 := sum_S z 1727108826179 (by omega) (by omega)
  have b1 := sum_C x y (by omega) (by omega)
  have b2 := sum_C z 1727108826179 (by omega) (by omega)
  rw [e] at a1 b1
  have c1 := pS_bd z (by omega)
  have c2 := pC_bd z (by omega)
  have d1 := pS_h
  have d2 := pC_h
  have f1 := mulbd (x := pS z) (y := pC 1727108826179 * 1099511627776) (a := 3 * kk) (b := kk) c1 d2
  have f2 := mulbd (x := pC z) (y := (pS 1727108826179 - kk) * 1099511627776) (a := 3 * kk) (b := kk) c2 d1
  have f3 := mulbd (x := pC z) (y := pC 1727108826179 * 1099511627776) (a := 3 * kk) (b := kk) c2 d2
  have f4 := mulbd (x := pS z) (y := (pS 1727108826179 - kk) * 1099511627776) (a := 3 * kk) (b := kk) c1 d1
  have r0 : 3 * kk * kk = 3 * (kk * kk) := by grind
  rw [r0] at f1 f2 f3 f4
  clear c1 c2 d1 d2 r0
  generalize pS (z + 1727108826179) = Ph at *
  generalize pC (z + 1727108826179) = Qh at *
  generalize pS 1727108826179 = sh at *
  generalize pC 1727108826179 = ch at *
  generalize pS x = P1 at *
  generalize pC x = Q1 at *
  generalize pS y = P2 at *
  generalize pC y = Q2 at *
  generalize pS z = P3 at *
  generalize pC z = Q3 at *
  generalize kk = K at *
  have g1 : (Q3 * K - (P1 * Q2 + Q1 * P2)) * 1099511627776 = (Ph * K - (P1 * Q2 + Q1 * P2)) * 1099511627776 - (Ph * K - (P3 * ch + Q3 * sh)) * 1099511627776 - P3 * (ch * 1099511627776) - Q3 * ((sh - K) * 1099511627776) := by grind
  have g2 : (-P3 * K - (Q1 * Q2 + -P1 * P2)) * 1099511627776 = (Qh * K - (Q1 * Q2 - P1 * P2)) * 1099511627776 - (Qh * K - (Q3 * ch - P3 * sh)) * 1099511627776 - Q3 * (ch * 1099511627776) + P3 * ((sh - K) * 1099511627776) := by grind
  rw [g1, g2]
  constructor <;> omega
theorem core2 {x y z S1 C1 S2 C2 S3 C3 : Int} (hz : 0 ≤ z ∧ z ≤ 1727108826179) (hx : 0 ≤ x ∧ x ≤ 1727108826179) (hy : 0 ≤ y ∧ y ≤ 1727108826179) (e : x + y = z + 1727108826179)
    (h1 : Nr kk S1 (pS x)) (k1 : Nr kk C1 (pC x)) (h2 : Nr kk S2 (pS y)) (k2 : Nr kk C2 (pC y)) (h3 : Nr kk S3 (pS z)) (k3 : Nr kk C3 (pC z)) :
    (-274877906944000 ≤ 1099511627776 * C3 - (S1 * C2 + C1 * S2) ∧ 1099511627776 * C3 - (S1 * C2 + C1 * S2) ≤ 274877906944000) ∧
    (-274877906944000 ≤ 1099511627776 * -S3 - (C1 * C2 - S1 * S2) ∧ 1099511627776 * -S3 - (C1 * C2 - S1 * S2) ≤ 274877906944000) := by
  have bb := beyond x y z hz hx hy e
  have a := sum_near (r := 30) kk_pos h1 k1 h2 k2 k3 bb.1
  have b := sum_near (r := 180) kk_pos k1 h1.neg h2 k2 h3.neg bb.2
  rw [show C1 * C2 + -S1 * S2 = C1 * C2 - S1 * S2 by grind] at b
  constructor <;> omega

/-! ### Any angle -/
theorem badM_num {a : Int} (h : numB a = true) : badM false a = false := by
  unfold badM
  rw [modS_yes (by unfold tk; simp [h, show numB 6908435304716 = true by rfl]) (by decide)]
theorem rest4_num {a : Int} (h : numB a = true) : rest4 false a = a % 6908435304716 := by
  unfold rest4
  rw [modS_yes (by unfold tk; simp [h, show numB 6908435304716 = true by rfl]) (by decide)]
/-- What Sin and Cos answer in quarter k, of S and C. -/
def selS (k S C : Int) : Int := if k = 0 then S else if k = 1 then C else if k = 2 then -S else -C
def selC (k S C : Int) : Int := if k = 0 then C else if k = 1 then -S else if k = 2 then -C else S
theorem pick_sel {k t S C : Int} (hs : sinS false t = (S, false)) (hc : cosS false t = (C, false)) : pick k false t = (selS k S C, false) := by
  unfold pick selS
  rw [hs, hc]
  split
  · rfl
  · split
    · rfl
    · split <;> rfl
theorem selS_next (k S C : Int) (h : 0 ≤ k ∧ k ≤ 3) : selS (if k = 3 then 0 else k + 1) S C = selC k S C := by
  have : k = 0 ∨ k = 1 ∨ k = 2 ∨ k = 3 := by omega
  rcases this with rfl | rfl | rfl | rfl <;> rfl
/-- An angle's quarter, and what its sine and cosine are. -/
theorem angle (a : Int) (h : numB a = true) : ∃ k t S C, 0 ≤ k ∧ k ≤ 3 ∧ 0 ≤ t ∧ t < 1727108826179 ∧ a % 6908435304716 = k * 1727108826179 + t ∧ Nr kk S (pS t) ∧ Nr kk C (pC t) ∧ sinA false a = (selS k S C, false) ∧ cosA false a = (selC k S C, false) := by
  have q := quart_bd false a
  obtain ⟨S, es, ns⟩ := sin_nr (inq false a) (by omega)
  obtain ⟨C, ec, nc⟩ := cos_nr (inq false a) (by omega)
  refine ⟨quart false a, inq false a, S, C, q.1, q.2.1, q.2.2.1, q.2.2.2, ?_, ns, nc, ?_, ?_⟩
  · rw [← rest4_num h]; unfold inq; omega
  · unfold sinA; rw [badM_num h]; exact pick_sel es ec
  · unfold cosA; rw [badM_num h, pick_sel es ec, selS_next _ _ _ ⟨q.1, q.2.1⟩]
theorem sel_bd {k S C : Int} (s1 : -2199023255552 ≤ S ∧ S ≤ 2199023255552) (c1 : -2199023255552 ≤ C ∧ C ≤ 2199023255552) :
    (-2199023255552 ≤ selS k S C ∧ selS k S C ≤ 2199023255552) ∧ (-2199023255552 ≤ selC k S C ∧ selC k S C ≤ 2199023255552) := by
  unfold selS selC
  constructor
  · split
    · omega
    · split
      · omega
      · split <;> omega
  · split
    · omega
    · split
      · omega
      · split <;> omega
theorem sel_sq (k S C : Int) (h : 0 ≤ k ∧ k ≤ 3) : selS k S C * selS k S C + selC k S C * selC k S C = S * S + C * C := by
  have : k = 0 ∨ k = 1 ∨ k = 2 ∨ k = 3 := by omega
  rcases this with rfl | rfl | rfl | rfl
  · rfl
  · show C * C + -S * -S = _
    grind
  · show -S * -S + -C * -C = _
    grind
  · show -C * -C + S * S = _
    grind
/-- TrigOne, of numbers. -/
theorem one_math (a : Int) (h : numB a = true) : ∃ s c m1 m2, sinA false a = (s, false) ∧ cosA false a = (c, false) ∧ mulS false s s = (m1, false) ∧ mulS false c c = (m2, false) ∧ addS false m1 m2 = (m1 + m2, false) ∧
    m1 + m2 - 1099511627776 ≤ 256 ∧ 1099511627776 - (m1 + m2) ≤ 256 ∧ 0 ≤ m1 + m2 := by
  obtain ⟨k, t, S, C, k0, k1, t0, t1, _, nS, nC, es, ec⟩ := angle a h
  have b := sel_bd (k := k) (S := S) (C := C) ⟨nS.bl, nS.bh⟩ ⟨nC.bl, nC.bh⟩
  obtain ⟨m1, e1, p1, p2, p3⟩ := mulS_small (selS k S C) (selS k S C) (by omega) (by omega)
  obtain ⟨m2, e2, q1, q2, q3⟩ := mulS_small (selC k S C) (selC k S C) (by omega) (by omega)
  have o := one_near ⟨t0, by omega⟩ nS nC
  have sq := sel_sq k S C ⟨k0, k1⟩
  have g1 := p3 (by rw [← sz_sq]; exact Int.mul_nonneg (le_sz _).2.2 (le_sz _).2.2)
  have g2 := q3 (by rw [← sz_sq]; exact Int.mul_nonneg (le_sz _).2.2 (le_sz _).2.2)
  have f1 : m1 + m2 - 1099511627776 ≤ 256 := by omega
  have f2 : 1099511627776 - (m1 + m2) ≤ 256 := by omega
  exact ⟨_, _, m1, m2, es, ec, e1, e2, addS_good _ _ (numB_of (by omega)) (numB_of (by omega)) (numB_of (by omega)), f1, f2, by omega⟩
/-! ### A sum of any two angles -/
def mod4 (k : Int) : Int := if 4 ≤ k then k - 4 else k
theorem rot (ka kb S1 C1 S2 C2 : Int) (ha : 0 ≤ ka ∧ ka ≤ 3) (hb : 0 ≤ kb ∧ kb ≤ 3) :
    selS ka S1 C1 * selC kb S2 C2 + selC ka S1 C1 * selS kb S2 C2 = selS (mod4 (ka + kb)) (S1 * C2 + C1 * S2) (C1 * C2 - S1 * S2) ∧
    selC ka S1 C1 * selC kb S2 C2 - selS ka S1 C1 * selS kb S2 C2 = selC (mod4 (ka + kb)) (S1 * C2 + C1 * S2) (C1 * C2 - S1 * S2) := by
  have h1 : ka = 0 ∨ ka = 1 ∨ ka = 2 ∨ ka = 3 := by omega
  have h2 : kb = 0 ∨ kb = 1 ∨ kb = 2 ∨ kb = 3 := by omega
  rcases h1 with rfl | rfl | rfl | rfl <;> rcases h2 with rfl | rfl | rfl | rfl <;> simp [selS, selC, mod4] <;> grind
theorem sel_near {k S3 C3 A B : Int} (h1 : -274877906944000 ≤ 1099511627776 * S3 - A ∧ 1099511627776 * S3 - A ≤ 274877906944000) (h2 : -274877906944000 ≤ 1099511627776 * C3 - B ∧ 1099511627776 * C3 - B ≤ 274877906944000) :
    (-274877906944000 ≤ 1099511627776 * selS k S3 C3 - selS k A B ∧ 1099511627776 * selS k S3 C3 - selS k A B ≤ 274877906944000) ∧
    (-274877906944000 ≤ 1099511627776 * selC k S3 C3 - selC k A B ∧ 1099511627776 * selC k S3 C3 - selC k A B ≤ 274877906944000) := by
  unfold selS selC
  constructor
  · split
    · omega
    · split
      · omega
      · split <;> omega
  · split
    · omega
    · split
      · omega
      · split <;> omega
theorem sel_turn (k S C : Int) (h : 0 ≤ k ∧ k ≤ 3) : selS (mod4 (k + 1)) S C = selS k C (-S) ∧ selC (mod4 (k + 1)) S C = selC k C (-S) := by
  have h1 : k = 0 ∨ k = 1 ∨ k = 2 ∨ k = 3 := by omega
  rcases h1 with rfl | rfl | rfl | rfl <;> simp [selS, selC, mod4]
theorem sum_quart (a b ka kb k3 ta tb t3 : Int) (_ha : 0 ≤ ka ∧ ka ≤ 3) (_hb : 0 ≤ kb ∧ kb ≤ 3) (h3 : 0 ≤ k3 ∧ k3 ≤ 3) (hta : 0 ≤ ta ∧ ta < 1727108826179) (htb : 0 ≤ tb ∧ tb < 1727108826179) (ht3 : 0 ≤ t3 ∧ t3 < 1727108826179)
    (ea : a % 6908435304716 = ka * 1727108826179 + ta) (eb : b % 6908435304716 = kb * 1727108826179 + tb) (e3 : (a + b) % 6908435304716 = k3 * 1727108826179 + t3) :
    (ta + tb < 1727108826179 → t3 = ta + tb ∧ k3 = mod4 (ka + kb)) ∧ (1727108826179 ≤ ta + tb → ta + tb = t3 + 1727108826179 ∧ k3 = mod4 (mod4 (ka + kb) + 1)) := by
  unfold mod4
  constructor
  · intro h
    split <;> omega
  · intro h
    split <;> split <;> omega
/-- The sine and the cosine of a sum are near what the parts say. -/
theorem sum_any (a b : Int) (ha : numB a = true) (hb : numB b = true) (hab : numB (a + b) = true) : ∃ s c t d x y, sinA false a = (s, false) ∧ cosA false a = (c, false) ∧ sinA false b = (t, false) ∧ cosA false b = (d, false) ∧ sinA false (a + b) = (x, false) ∧ cosA false (a + b) = (y, false) ∧
    (-274877906944000 ≤ 1099511627776 * x - (s * d + c * t) ∧ 1099511627776 * x - (s * d + c * t) ≤ 274877906944000) ∧ (-274877906944000 ≤ 1099511627776 * y - (c * d - s * t) ∧ 1099511627776 * y - (c * d - s * t) ≤ 274877906944000) ∧
    (-2199023255552 ≤ s ∧ s ≤ 2199023255552) ∧ (-2199023255552 ≤ c ∧ c ≤ 2199023255552) ∧ (-2199023255552 ≤ t ∧ t ≤ 2199023255552) ∧ (-2199023255552 ≤ d ∧ d ≤ 2199023255552) ∧ (-2199023255552 ≤ x ∧ x ≤ 2199023255552) ∧ (-2199023255552 ≤ y ∧ y ≤ 2199023255552) := by
  obtain ⟨ka, ta, S1, C1, a1, a2, a3, a4, ea, n1, m1, f1, g1⟩ := angle a ha
  obtain ⟨kb, tb, S2, C2, b1, b2, b3, b4, eb, n2, m2, f2, g2⟩ := angle b hb
  obtain ⟨k3, t3, S3, C3, c1, c2, c3, c4, e3, n3, m3, f3, g3⟩ := angle (a + b) hab
  have sq := sum_quart a b ka kb k3 ta tb t3 ⟨a1, a2⟩ ⟨b1, b2⟩ ⟨c1, c2⟩ ⟨a3, a4⟩ ⟨b3, b4⟩ ⟨c3, c4⟩ ea eb e3
  have ro := rot ka kb S1 C1 S2 C2 ⟨a1, a2⟩ ⟨b1, b2⟩
  have r1 := sel_bd (k := ka) (S := S1) (C := C1) ⟨n1.bl, n1.bh⟩ ⟨m1.bl, m1.bh⟩
  have r2 := sel_bd (k := kb) (S := S2) (C := C2) ⟨n2.bl, n2.bh⟩ ⟨m2.bl, m2.bh⟩
  have r3 := sel_bd (k := k3) (S := S3) (C := C3) ⟨n3.bl, n3.bh⟩ ⟨m3.bl, m3.bh⟩
  refine ⟨_, _, _, _, _, _, f1, g1, f2, g2, f3, g3, ?_, ?_, r1.1, r1.2, r2.1, r2.2, r3.1, r3.2⟩
  · rw [ro.1]
    by_cases h : ta + tb < 1727108826179
    · obtain ⟨rfl, rfl⟩ := sq.1 h
      have cc := core1 ⟨a3, by omega⟩ ⟨b3, by omega⟩ n1 m1 n2 m2 n3 m3
      exact (sel_near cc.1 cc.2).1
    · obtain ⟨e, rfl⟩ := sq.2 (by omega)
      have cc := core2 ⟨c3, by omega⟩ ⟨a3, by omega⟩ ⟨b3, by omega⟩ e n1 m1 n2 m2 n3 m3
      rw [(sel_turn (mod4 (ka + kb)) S3 C3 (by unfold mod4; split <;> omega)).1]
      exact (sel_near cc.1 cc.2).1
  · rw [ro.2]
    by_cases h : ta + tb < 1727108826179
    · obtain ⟨rfl, rfl⟩ := sq.1 h
      have cc := core1 ⟨a3, by omega⟩ ⟨b3, by omega⟩ n1 m1 n2 m2 n3 m3
      exact (sel_near cc.1 cc.2).2
    · obtain ⟨e, rfl⟩ := sq.2 (by omega)
      have cc := core2 ⟨c3, by omega⟩ ⟨a3, by omega⟩ ⟨b3, by omega⟩ e n1 m1 n2 m2 n3 m3
      rw [(sel_turn (mod4 (ka + kb)) S3 C3 (by unfold mod4; split <;> omega)).2]
      exact (sel_near cc.1 cc.2).2
/-- TrigSums, of angles of up to 16. -/
theorem sums_math (a b : Int) (ha : -17592186044416 ≤ a ∧ a ≤ 17592186044416) (hb : -17592186044416 ≤ b ∧ b ≤ 17592186044416) :
    ∃ s c t d x y m1 m2 m3 m4, sinA false a = (s, false) ∧ cosA false a = (c, false) ∧ sinA false b = (t, false) ∧ cosA false b = (d, false) ∧ sinA false (a + b) = (x, false) ∧ cosA false (a + b) = (y, false) ∧
      mulS false s d = (m1, false) ∧ mulS false c t = (m2, false) ∧ addS false m1 m2 = (m1 + m2, false) ∧ mulS false c d = (m3, false) ∧ mulS false s t = (m4, false) ∧ subS false m3 m4 = (m3 - m4, false) ∧
      x - (m1 + m2) ≤ 256 ∧ (m1 + m2) - x ≤ 256 ∧ y - (m3 - m4) ≤ 256 ∧ (m3 - m4) - y ≤ 256 ∧ (-2199023255552 ≤ x ∧ x ≤ 2199023255552) ∧ (-2199023255552 ≤ y ∧ y ≤ 2199023255552) := by
  obtain ⟨s, c, t, d, x, y, e1, e2, e3, e4, e5, e6, h1, h2, bs, bc, bt, bd, bx, bb⟩ := sum_any a b (numB_of (by omega)) (numB_of (by omega)) (numB_of (by omega))
  obtain ⟨m1, f1, p1, p2, _⟩ := mulS_small s d (by omega) (by omega)
  obtain ⟨m2, f2, q1, q2, _⟩ := mulS_small c t (by omega) (by omega)
  obtain ⟨m3, f3, r1, r2, _⟩ := mulS_small c d (by omega) (by omega)
  obtain ⟨m4, f4, u1, u2, _⟩ := mulS_small s t (by omega) (by omega)
  have z1 := mulbd (x := s) (y := d) (a := 2199023255552) (b := 2199023255552) bs bd
  have z2 := mulbd (x := c) (y := t) (a := 2199023255552) (b := 2199023255552) bc bt
  have z3 := mulbd (x := c) (y := d) (a := 2199023255552) (b := 2199023255552) bc bd
  have z4 := mulbd (x := s) (y := t) (a := 2199023255552) (b := 2199023255552) bs bt
  refine ⟨s, c, t, d, x, y, m1, m2, m3, m4, e1, e2, e3, e4, e5, e6, f1, f2, addS_good _ _ (numB_of (by omega)) (numB_of (by omega)) (numB_of (by omega)), f3, f4, subS_good _ _ (numB_of (by omega)) (numB_of (by omega)) (numB_of (by omega)), by omega, by omega, by omega, by omega, bx, bb⟩
end Go.Proofs.Ytpceomcnknjiiaa
namespace Go.Proofs.Ytpceomcnknjiiaa
open Go.RowKit

abbrev V3 := Int × Int × Int
/-- What is worked out, or 0 where the flow is bad in the end. -/
def soundS (bad : Bool) (v : V3) : V3 × Bool := if bad then ((0, 0, 0), true) else (v, false)
theorem soundS_yes (v : V3) : soundS true v = ((0, 0, 0), true) := rfl
theorem soundS_no (v : V3) : soundS false v = (v, false) := rfl
def vAddS (bad : Bool) (p : V3) (q : V3) : (V3) × Bool := let r1 := addS bad p.1 q.1; let r2 := addS r1.2 p.2.1 q.2.1; let r3 := addS r2.2 p.2.2 q.2.2; let r4 := soundS r3.2 (r1.1, r2.1, r3.1); (r4.1, r4.2)
def vSubS (bad : Bool) (p : V3) (q : V3) : (V3) × Bool := let r1 := subS bad p.1 q.1; let r2 := subS r1.2 p.2.1 q.2.1; let r3 := subS r2.2 p.2.2 q.2.2; let r4 := soundS r3.2 (r1.1, r2.1, r3.1); (r4.1, r4.2)
def vScaleS (bad : Bool) (p : V3) (k : Int) : (V3) × Bool := let r1 := mulS bad p.1 k; let r2 := mulS r1.2 p.2.1 k; let r3 := mulS r2.2 p.2.2 k; let r4 := soundS r3.2 (r1.1, r2.1, r3.1); (r4.1, r4.2)
def vDotS (bad : Bool) (p : V3) (q : V3) : (Int) × Bool := let r1 := mulS bad p.1 q.1; let r2 := mulS r1.2 p.2.1 q.2.1; let r3 := addS r2.2 r1.1 r2.1; let r4 := mulS r3.2 p.2.2 q.2.2; let r5 := addS r4.2 r3.1 r4.1; (r5.1, r5.2)
def vCrossS (bad : Bool) (p : V3) (q : V3) : (V3) × Bool := let r1 := mulS bad p.2.1 q.2.2; let r2 := mulS r1.2 p.2.2 q.2.1; let r3 := subS r2.2 r1.1 r2.1; let r4 := mulS r3.2 p.2.2 q.1; let r5 := mulS r4.2 p.1 q.2.2; let r6 := subS r5.2 r4.1 r5.1; let r7 := mulS r6.2 p.1 q.2.1; let r8 := mulS r7.2 p.2.1 q.1; let r9 := subS r8.2 r7.1 r8.1; let r10 := soundS r9.2 (r3.1, r6.1, r9.1); (r10.1, r10.2)
def vNormS (bad : Bool) (p : V3) : (Int) × Bool := let r1 := normS bad p.1 p.2.1 p.2.2; (r1.1, r1.2)
def vUnitS (bad : Bool) (p : V3) : (V3) × Bool := let r1 := vNormS bad p; if r1.1 < 1048576 then ((0, 0, 0), true) else let r2 := divS r1.2 p.1 r1.1; let r3 := divS r2.2 p.2.1 r1.1; let r4 := divS r3.2 p.2.2 r1.1; ((r2.1, r3.1, r4.1), r4.2)
def vPartsS (bad : Bool) (p : V3) (q : V3) : (Int × Int) × Bool := let r1 := vUnitS bad p; let r2 := vUnitS r1.2 q; let r3 := vCrossS r2.2 r1.1 r2.1; let r4 := vNormS r3.2 r3.1; let r5 := vDotS r4.2 r1.1 r2.1; ((r4.1, r5.1), r5.2)
end Go.Proofs.Ytpceomcnknjiiaa
namespace Go.Proofs.Ytpceomcnknjiiaa
open Go.RowKit

def uAddS (bad : Bool) (p : V3) (q : V3) : (V3) × Bool := let r1 := addS bad p.1 q.1; let r2 := addS r1.2 p.2.1 q.2.1; let r3 := addS r2.2 p.2.2 q.2.2; let r4 := soundS r3.2 (r1.1, r2.1, r3.1); (r4.1, r4.2)
def uSubS (bad : Bool) (p : V3) (q : V3) : (V3) × Bool := let r1 := subS bad p.1 q.1; let r2 := subS r1.2 p.2.1 q.2.1; let r3 := subS r2.2 p.2.2 q.2.2; let r4 := soundS r3.2 (r1.1, r2.1, r3.1); (r4.1, r4.2)
def uScaleS (bad : Bool) (p : V3) (k : Int) : (V3) × Bool := let r1 := mulS bad p.1 k; let r2 := mulS r1.2 p.2.1 k; let r3 := mulS r2.2 p.2.2 k; let r4 := soundS r3.2 (r1.1, r2.1, r3.1); (r4.1, r4.2)
def uDotS (bad : Bool) (p : V3) (q : V3) : (Int) × Bool := let r1 := mulS bad p.1 q.1; let r2 := mulS r1.2 p.2.1 q.2.1; let r3 := mulS r2.2 p.2.2 q.2.2; let r4 := addS r3.2 r1.1 r2.1; let r5 := addS r4.2 r4.1 r3.1; (r5.1, r5.2)
def uCrossS (bad : Bool) (p : V3) (q : V3) : (V3) × Bool := let r1 := mulS bad p.2.1 q.2.2; let r2 := mulS r1.2 p.2.2 q.2.1; let r3 := subS r2.2 r1.1 r2.1; let r4 := mulS r3.2 p.2.2 q.1; let r5 := mulS r4.2 p.1 q.2.2; let r6 := subS r5.2 r4.1 r5.1; let r7 := mulS r6.2 p.1 q.2.1; let r8 := mulS r7.2 p.2.1 q.1; let r9 := subS r8.2 r7.1 r8.1; let r10 := soundS r9.2 (r3.1, r6.1, r9.1); (r10.1, r10.2)
def uNormS (bad : Bool) (p : V3) : (Int) × Bool := let r1 := normS bad p.1 p.2.1 p.2.2; (r1.1, r1.2)
def uUnitS (bad : Bool) (p : V3) : (V3) × Bool := let r1 := uNormS bad p; if r1.1 < 1048576 then let r3 := divS true p.1 r1.1; let r4 := divS r3.2 p.2.1 r1.1; let r5 := divS r4.2 p.2.2 r1.1; let r6 := soundS r5.2 (r3.1, r4.1, r5.1); (r6.1, r6.2) else let r2 := divS r1.2 p.1 r1.1; let r3 := divS r2.2 p.2.1 r1.1; let r4 := divS r3.2 p.2.2 r1.1; let r5 := soundS r4.2 (r2.1, r3.1, r4.1); (r5.1, r5.2)
def uPartsS (bad : Bool) (p : V3) (q : V3) : (Int × Int) × Bool := let r1 := uUnitS bad p; let r2 := uUnitS r1.2 q; let r3 := uCrossS r2.2 r1.1 r2.1; let r4 := uNormS r3.2 r3.1; let r5 := uDotS r4.2 r1.1 r2.1; if r5.2 then ((0, 0), r5.2) else ((r4.1, r5.1), r5.2)
end Go.Proofs.Ytpceomcnknjiiaa
namespace Go.Proofs.Ytpceomcnknjiiaa
open Go.RowKit

abbrev V4 := Int × Int × Int × Int
/-- What is worked out, or 0 where the flow is bad in the end. -/
def sound4S (bad : Bool) (v : V4) : V4 × Bool := if bad then ((0, 0, 0, 0), true) else (v, false)
theorem sound4S_yes (v : V4) : sound4S true v = ((0, 0, 0, 0), true) := rfl
theorem sound4S_no (v : V4) : sound4S false v = (v, false) := rfl
/-- The other sign; what is no number stays. -/
def minusS (a : Int) : Int := if a < -4611686018427387904 then a else if 4611686018427387904 < a then a else -a
theorem minusS_lo {a : Int} (h : a < -4611686018427387904) : minusS a = a := by unfold minusS; rw [if_pos h]
theorem minusS_hi {a : Int} (h : 4611686018427387904 < a) : minusS a = a := by unfold minusS; rw [if_neg (by omega), if_pos h]
theorem minusS_in {a : Int} (h : -4611686018427387904 ≤ a) (k : a ≤ 4611686018427387904) : minusS a = -a := by unfold minusS; rw [if_neg (by omega), if_neg (by omega)]
def partedS (q : V4) : V3 × Int := ((q.1, q.2.1, q.2.2.1), q.2.2.2)
def joinedS (p : V3) (k : Int) : V4 := (p.1, p.2.1, p.2.2, k)
def uprightS (q : V4) : V4 := if q.2.2.2 ≥ 0 then q else let r1 := minusS q.1; let r2 := minusS q.2.1; let r3 := minusS q.2.2.1; let r4 := minusS q.2.2.2; (r1, r2, r3, r4)
def qBackS (q : V4) : V4 := let r1 := minusS q.1; let r2 := minusS q.2.1; let r3 := minusS q.2.2.1; (r1, r2, r3, q.2.2.2)
def qMulS (bad : Bool) (p : V4) (q : V4) : (V4) × Bool := let r3 := vScaleS bad (p.1, p.2.1, p.2.2.1) q.2.2.2; let r4 := vScaleS r3.2 (q.1, q.2.1, q.2.2.1) p.2.2.2; let r5 := vAddS r4.2 r3.1 r4.1; let r6 := vCrossS r5.2 (q.1, q.2.1, q.2.2.1) (p.1, p.2.1, p.2.2.1); let r7 := vAddS r6.2 r5.1 r6.1; let r8 := mulS r7.2 p.2.2.2 q.2.2.2; let r9 := vDotS r8.2 (p.1, p.2.1, p.2.2.1) (q.1, q.2.1, q.2.2.1); let r10 := subS r9.2 r8.1 r9.1; let r12 := sound4S r10.2 (r7.1.1, r7.1.2.1, r7.1.2.2, r10.1); (r12.1, r12.2)
def qUnitS (bad : Bool) (q : V4) : (V4) × Bool := let r2 := vNormS bad (q.1, q.2.1, q.2.2.1); let r3 := normS r2.2 r2.1 q.2.2.2 0; if r3.1 < 549755813888 then ((0, 0, 0, 0), true) else let r4 := divS r3.2 q.1 r3.1; let r5 := divS r4.2 q.2.1 r3.1; let r6 := divS r5.2 q.2.2.1 r3.1; let r7 := divS r6.2 q.2.2.2 r3.1; let r8 := uprightS (r4.1, r5.1, r6.1, r7.1); (r8, r7.2)
def qTurnS (bad : Bool) (q : V4) (v : V3) : (V3) × Bool := let r2 := vCrossS bad (q.1, q.2.1, q.2.2.1) v; let r3 := vScaleS r2.2 r2.1 2199023255552; let r4 := vScaleS r3.2 r3.1 q.2.2.2; let r5 := vSubS r4.2 v r4.1; let r6 := vCrossS r5.2 (q.1, q.2.1, q.2.2.1) r3.1; let r7 := vAddS r6.2 r5.1 r6.1; (r7.1, r7.2)
def qFromRodS (bad : Bool) (p : V3) : (V4) × Bool := let r1 := vDotS bad p p; let r2 := addS r1.2 17592186044416 r1.1; let r3 := mulS r2.2 p.1 8796093022208; let r4 := divS r3.2 r3.1 r2.1; let r5 := mulS r4.2 p.2.1 8796093022208; let r6 := divS r5.2 r5.1 r2.1; let r7 := mulS r6.2 p.2.2 8796093022208; let r8 := divS r7.2 r7.1 r2.1; let r9 := subS r8.2 17592186044416 r1.1; let r10 := divS r9.2 r9.1 r2.1; let r11 := qUnitS r10.2 (r4.1, r6.1, r8.1, r10.1); (r11.1, r11.2)
def qToRodS (bad : Bool) (q : V4) : (V3) × Bool := let r1 := uprightS q; let r2 := addS bad 1099511627776 r1.2.2.2; let r3 := mulS r2.2 r1.1 4398046511104; let r4 := divS r3.2 r3.1 r2.1; let r5 := mulS r4.2 r1.2.1 4398046511104; let r6 := divS r5.2 r5.1 r2.1; let r7 := mulS r6.2 r1.2.2.1 4398046511104; let r8 := divS r7.2 r7.1 r2.1; let r9 := soundS r8.2 (r4.1, r6.1, r8.1); (r9.1, r9.2)
end Go.Proofs.Ytpceomcnknjiiaa
namespace Go.Proofs.Ytpceomcnknjiiaa
open Go.RowKit

def splitS (q : V4) : V3 × Int := ((q.1, q.2.1, q.2.2.1), q.2.2.2)
def xBackS (q : V4) : V4 := if q.1 ≥ (-4611686018427387904) then if q.1 ≤ 4611686018427387904 then if q.2.1 ≥ (-4611686018427387904) then if q.2.1 ≤ 4611686018427387904 then if q.2.2.1 ≥ (-4611686018427387904) then if q.2.2.1 ≤ 4611686018427387904 then ((-q.1), (-q.2.1), (-q.2.2.1), q.2.2.2) else ((-q.1), (-q.2.1), q.2.2.1, q.2.2.2) else ((-q.1), (-q.2.1), q.2.2.1, q.2.2.2) else if q.2.2.1 ≥ (-4611686018427387904) then if q.2.2.1 ≤ 4611686018427387904 then ((-q.1), q.2.1, (-q.2.2.1), q.2.2.2) else ((-q.1), q.2.1, q.2.2.1, q.2.2.2) else ((-q.1), q.2.1, q.2.2.1, q.2.2.2) else if q.2.2.1 ≥ (-4611686018427387904) then if q.2.2.1 ≤ 4611686018427387904 then ((-q.1), q.2.1, (-q.2.2.1), q.2.2.2) else ((-q.1), q.2.1, q.2.2.1, q.2.2.2) else ((-q.1), q.2.1, q.2.2.1, q.2.2.2) else if q.2.1 ≥ (-4611686018427387904) then if q.2.1 ≤ 4611686018427387904 then if q.2.2.1 ≥ (-4611686018427387904) then if q.2.2.1 ≤ 4611686018427387904 then (q.1, (-q.2.1), (-q.2.2.1), q.2.2.2) else (q.1, (-q.2.1), q.2.2.1, q.2.2.2) else (q.1, (-q.2.1), q.2.2.1, q.2.2.2) else if q.2.2.1 ≥ (-4611686018427387904) then if q.2.2.1 ≤ 4611686018427387904 then (q.1, q.2.1, (-q.2.2.1), q.2.2.2) else q else q else if q.2.2.1 ≥ (-4611686018427387904) then if q.2.2.1 ≤ 4611686018427387904 then (q.1, q.2.1, (-q.2.2.1), q.2.2.2) else q else q else if q.2.1 ≥ (-4611686018427387904) then if q.2.1 ≤ 4611686018427387904 then if q.2.2.1 ≥ (-4611686018427387904) then if q.2.2.1 ≤ 4611686018427387904 then (q.1, (-q.2.1), (-q.2.2.1), q.2.2.2) else (q.1, (-q.2.1), q.2.2.1, q.2.2.2) else (q.1, (-q.2.1), q.2.2.1, q.2.2.2) else if q.2.2.1 ≥ (-4611686018427387904) then if q.2.2.1 ≤ 4611686018427387904 then (q.1, q.2.1, (-q.2.2.1), q.2.2.2) else q else q else if q.2.2.1 ≥ (-4611686018427387904) then if q.2.2.1 ≤ 4611686018427387904 then (q.1, q.2.1, (-q.2.2.1), q.2.2.2) else q else q
def xjoinS (bad : Bool) (p : V3) (k : Int) : (V4) × Bool := if bad then ((0, 0, 0, 0), bad) else ((p.1, p.2.1, p.2.2, k), bad)
def xMulS (bad : Bool) (p : V4) (q : V4) : (V4) × Bool := let r3 := uScaleS bad (p.1, p.2.1, p.2.2.1) q.2.2.2; let r4 := uScaleS r3.2 (q.1, q.2.1, q.2.2.1) p.2.2.2; let r5 := uCrossS r4.2 (q.1, q.2.1, q.2.2.1) (p.1, p.2.1, p.2.2.1); let r6 := uAddS r5.2 r3.1 r4.1; let r7 := uAddS r6.2 r6.1 r5.1; let r8 := mulS r7.2 p.2.2.2 q.2.2.2; let r9 := uDotS r8.2 (p.1, p.2.1, p.2.2.1) (q.1, q.2.1, q.2.2.1); let r10 := subS r9.2 r8.1 r9.1; let r11 := xjoinS r10.2 r7.1 r10.1; (r11.1, r11.2)
def xUnitS (bad : Bool) (q : V4) : (V4) × Bool := let r1 := normS bad q.1 q.2.1 q.2.2.1; let r2 := normS r1.2 r1.1 q.2.2.2 0; if r2.1 < 549755813888 then ((0, 0, 0, 0), true) else let r3 := divS r2.2 q.1 r2.1; let r5 := divS r3.2 q.2.1 r2.1; let r7 := divS r5.2 q.2.2.1 r2.1; let r9 := divS r7.2 q.2.2.2 r2.1; if r9.2 then ((0, 0, 0, 0), r9.2) else if r9.1 < 0 then (((-r3.1), (-r5.1), (-r7.1), (-r9.1)), r9.2) else ((r3.1, r5.1, r7.1, r9.1), r9.2)
def xTurnS (bad : Bool) (q : V4) (v : V3) : (V3) × Bool := let r2 := uCrossS bad (q.1, q.2.1, q.2.2.1) v; let r3 := uScaleS r2.2 r2.1 2199023255552; let r4 := uScaleS r3.2 r3.1 q.2.2.2; let r5 := uSubS r4.2 v r4.1; let r6 := uCrossS r5.2 (q.1, q.2.1, q.2.2.1) r3.1; let r7 := uAddS r6.2 r5.1 r6.1; (r7.1, r7.2)
def xFromRodS (bad : Bool) (p : V3) : (V4) × Bool := let r1 := uDotS bad p p; let r2 := addS r1.2 17592186044416 r1.1; let r3 := mulS r2.2 p.1 8796093022208; let r4 := divS r3.2 r3.1 r2.1; let r6 := mulS r4.2 p.2.1 8796093022208; let r7 := divS r6.2 r6.1 r2.1; let r9 := mulS r7.2 p.2.2 8796093022208; let r10 := divS r9.2 r9.1 r2.1; let r12 := subS r10.2 17592186044416 r1.1; let r13 := divS r12.2 r12.1 r2.1; let r14 := xUnitS r13.2 (r4.1, r7.1, r10.1, r13.1); (r14.1, r14.2)
def xToRodS (bad : Bool) (q : V4) : (V3) × Bool := let r1 := addS bad q.1 0; let r2 := addS r1.2 q.2.1 0; let r3 := addS r2.2 q.2.2.1 0; let r4 := addS r3.2 q.2.2.2 0; if r4.2 then ((0, 0, 0), r4.2) else if q.2.2.2 < 0 then let r9 := addS r4.2 1099511627776 (-q.2.2.2); let r10 := mulS r9.2 (-q.1) 4398046511104; let r11 := divS r10.2 r10.1 r9.1; let r13 := mulS r11.2 (-q.2.1) 4398046511104; let r14 := divS r13.2 r13.1 r9.1; let r16 := mulS r14.2 (-q.2.2.1) 4398046511104; let r17 := divS r16.2 r16.1 r9.1; if r17.2 then ((0, 0, 0), r17.2) else ((r11.1, r14.1, r17.1), r17.2) else let r5 := addS r4.2 1099511627776 q.2.2.2; let r6 := mulS r5.2 q.1 4398046511104; let r7 := divS r6.2 r6.1 r5.1; let r9 := mulS r7.2 q.2.1 4398046511104; let r10 := divS r9.2 r9.1 r5.1; let r12 := mulS r10.2 q.2.2.1 4398046511104; let r13 := divS r12.2 r12.1 r5.1; if r13.2 then ((0, 0, 0), r13.2) else ((r7.1, r10.1, r13.1), r13.2)
end Go.Proofs.Ytpceomcnknjiiaa
namespace Go.Proofs.Ytpceomcnknjiiaa
open Go.RowKit

theorem tk_true (zs : List Int) : tk true zs = false := rfl
theorem addS_true (a b : Int) : addS true a b = (0, true) := addS_no (tk_true _)
theorem subS_true (a b : Int) : subS true a b = (0, true) := subS_no (tk_true _)
theorem mulS_true (a b : Int) : mulS true a b = (0, true) := mulS_no (tk_true _)
theorem divS_true (a b : Int) : divS true a b = (0, true) := partS_no (tk_true _)
theorem normS_true (a b c : Int) : normS true a b c = (0, true) := normS_no (tk_true _)

theorem uAdd_eq : uAddS = vAddS := rfl
theorem uSub_eq : uSubS = vSubS := rfl
theorem uScale_eq : uScaleS = vScaleS := rfl
theorem uCross_eq : uCrossS = vCrossS := rfl
theorem uNorm_eq : uNormS = vNormS := rfl
theorem uDot_eq : uDotS = vDotS := by
  funext bad p q
  unfold uDotS vDotS
  dsimp only
  generalize mulS bad p.1 q.1 = r1
  generalize mulS r1.2 p.2.1 q.2.1 = r2
  cases h2 : r2.2
  · cases hA : addS false r1.1 r2.1 with
    | mk A1 A2 =>
      cases hM : mulS false p.2.2 q.2.2 with
      | mk M1 M2 => cases A2 <;> cases M2 <;> simp [hA, hM, addS_true, mulS_true]
  · simp [addS_true, mulS_true]
theorem vCross_true (p q : V3) : vCrossS true p q = ((0, 0, 0), true) := by simp [vCrossS, mulS_true, subS_true, soundS_yes]
theorem vNorm_true (p : V3) : vNormS true p = (0, true) := by simp [vNormS, normS_true]
theorem vDot_true (p q : V3) : vDotS true p q = (0, true) := by simp [vDotS, mulS_true, addS_true]
theorem vUnit_true (p : V3) : vUnitS true p = ((0, 0, 0), true) := by
  unfold vUnitS
  rw [vNorm_true]
  exact if_pos (show (0 : Int) < 1048576 by omega)

/-! ### Lengths -/
theorem normS_good {bad : Bool} {a b c n : Int} (h : normS bad a b c = (n, false)) :
    bad = false ∧ numB a = true ∧ numB b = true ∧ numB c = true ∧ 0 ≤ n ∧ n ≤ 4611686018427387904 ∧ n * n ≤ a * a + b * b + c * c ∧ a * a + b * b + c * c < (n + 1) * (n + 1) := by
  cases ht : tk bad [a, b, c]
  · rw [normS_no ht] at h; cases h
  · have t := tk_three ht
    rw [normS_yes ht] at h
    have ha := sq_bd t.2.1
    have hb := sq_bd t.2.2.1
    have hc := sq_bd t.2.2.2
    have s := isq_spec (a * a + b * b + c * c) (by omega) (by omega)
    have g : isq (a * a + b * b + c * c) ≤ 4611686018427387904 ∧ (out (isq (a * a + b * b + c * c)) false).1 = if false = true then -isq (a * a + b * b + c * c) else isq (a * a + b * b + c * c) := out_good _ _ (by rw [h])
    have e : isq (a * a + b * b + c * c) = n := by have h3 := congrArg Prod.fst h; rw [g.2, if_neg (by decide)] at h3; exact h3
    rw [e] at s g
    exact ⟨t.1, t.2.1, t.2.2.1, t.2.2.2, s.1, g.1, s.2.1, s.2.2⟩
theorem normS_bad (bad : Bool) (a b c : Int) (h : (normS bad a b c).2 = true) : (normS bad a b c).1 = 0 := by
  unfold normS at h ⊢
  split
  · rename_i t; rw [if_pos t] at h; exact out_bad _ _ h
  · rfl
theorem normS_make {a b c n : Int} (ha : numB a = true) (hb : numB b = true) (hc : numB c = true) (n0 : 0 ≤ n) (n1 : n ≤ 4611686018427387904)
    (h1 : n * n ≤ a * a + b * b + c * c) (h2 : a * a + b * b + c * c < (n + 1) * (n + 1)) : normS false a b c = (n, false) := by
  have ha' := sq_bd ha
  have hb' := sq_bd hb
  have hc' := sq_bd hc
  have s := isq_spec (a * a + b * b + c * c) (by omega) (by omega)
  have e : isq (a * a + b * b + c * c) = n := isq_unique _ _ _ s.1 n0 s.2.1 s.2.2 h1 h2
  rw [normS_yes (by unfold tk; simp [ha, hb, hc]), e]
  unfold out
  rw [← sgnd_in n false n1, decide_eq_false (by omega)]
  rfl
theorem abs_le_of_sq {a n : Int} (h0 : 0 ≤ n) (h : a * a < (n + 1) * (n + 1)) : -n ≤ a ∧ a ≤ n := by
  constructor
  · by_cases c : -n ≤ a
    · exact c
    · have := sq_mono (by omega : (0 : Int) ≤ n + 1) (by omega : n + 1 ≤ -a)
      rw [Int.neg_mul_neg] at this
      omega
  · by_cases c : a ≤ n
    · exact c
    · have := sq_mono (by omega : (0 : Int) ≤ n + 1) (by omega : n + 1 ≤ a)
      omega
theorem sq_nonneg (a : Int) : 0 ≤ a * a := by rw [← sz_sq a]; exact Int.mul_nonneg (le_sz a).2.2 (le_sz a).2.2
/-- u is a / n, rounded, and a isn't longer than n. -/
structure Uof (u a n : Int) : Prop where
  lo : -1099511627776 ≤ u
  hi : u ≤ 1099511627776
  up : 2 * (u * n) ≤ 2 * (a * 1099511627776) + n
  dn : 2 * (a * 1099511627776) ≤ 2 * (u * n) + n
theorem div_unit (a n : Int) (hn : 0 < n ∧ n ≤ 4611686018427387904) (ha : -n ≤ a ∧ a ≤ n) : ∃ u, divS false a n = (u, false) ∧ Uof u a n := by
  obtain ⟨m, e, h1, h2, _⟩ := partS_near a 1099511627776 n (numB_of (by omega)) (by rfl) (numB_of (by omega)) hn.1 (by
    rw [show sz 1099511627776 = 1099511627776 by rfl]
    have := sz_le (A := n) ha
    omega)
  refine ⟨m, e, ?_, ?_, h1, h2⟩
  · by_cases c : -1099511627776 ≤ m
    · exact c
    · have := Int.mul_le_mul_of_nonneg_right (by omega : m ≤ -1099511627777) (by omega : 0 ≤ n)
      omega
  · by_cases c : m ≤ 1099511627776
    · exact c
    · have := Int.mul_le_mul_of_nonneg_right (by omega : (1099511627777 : Int) ≤ m) (by omega : 0 ≤ n)
      omega
theorem vUnit_cases (bad : Bool) (p : V3) :
    ((vNormS bad p).1 < 1048576 ∧ vUnitS bad p = ((0, 0, 0), true)) ∨
    (∃ n u0 u1 u2, bad = false ∧ vNormS bad p = (n, false) ∧ normS false p.1 p.2.1 p.2.2 = (n, false) ∧ 1048576 ≤ n ∧ divS false p.1 n = (u0, false) ∧ divS false p.2.1 n = (u1, false) ∧ divS false p.2.2 n = (u2, false) ∧
      vUnitS bad p = ((u0, u1, u2), false) ∧ Uof u0 p.1 n ∧ Uof u1 p.2.1 n ∧ Uof u2 p.2.2 n) := by
  have hN : vNormS bad p = normS bad p.1 p.2.1 p.2.2 := rfl
  by_cases c : (vNormS bad p).1 < 1048576
  · exact Or.inl ⟨c, by unfold vUnitS; simp [c]⟩
  · refine Or.inr ?_
    have hb : (normS bad p.1 p.2.1 p.2.2).2 = false := by
      cases hb : (normS bad p.1 p.2.1 p.2.2).2
      · rfl
      · have := normS_bad _ _ _ _ hb
        rw [hN] at c
        omega
    rw [hN] at c
    obtain ⟨n, hn⟩ : ∃ n, normS bad p.1 p.2.1 p.2.2 = (n, false) := ⟨_, Prod.ext rfl hb⟩
    have g := normS_good hn
    rw [hn] at c
    have c' : ¬ n < 1048576 := c
    have s0 := sq_nonneg p.1
    have s1 := sq_nonneg p.2.1
    have s2 := sq_nonneg p.2.2
    obtain ⟨u0, e0, U0⟩ := div_unit p.1 n (by omega) (abs_le_of_sq g.2.2.2.2.1 (by omega))
    obtain ⟨u1, e1, U1⟩ := div_unit p.2.1 n (by omega) (abs_le_of_sq g.2.2.2.2.1 (by omega))
    obtain ⟨u2, e2, U2⟩ := div_unit p.2.2 n (by omega) (abs_le_of_sq g.2.2.2.2.1 (by omega))
    have hbad := g.1
    subst hbad
    refine ⟨n, u0, u1, u2, rfl, hN.trans hn, hn, by omega, e0, e1, e2, ?_, U0, U1, U2⟩
    unfold vUnitS
    simp [hN, hn, c', e0, e1, e2]
theorem uUnit_eq : uUnitS = vUnitS := by
  funext bad p
  rcases vUnit_cases bad p with ⟨c, e⟩ | ⟨n, u0, u1, u2, rfl, hv, hn, c, e0, e1, e2, e, _⟩
  · rw [e]
    unfold uUnitS
    rw [uNorm_eq]
    simp [c, divS_true, soundS_yes]
  · rw [e]
    unfold uUnitS
    rw [uNorm_eq]
    simp [hv, show ¬ n < 1048576 by omega, e0, e1, e2, soundS_no]

/-! ### Products of what is up to 1, and some more -/
theorem absmul {a b A B : Int} (ha : -A ≤ a ∧ a ≤ A) (hb : -B ≤ b ∧ b ≤ B) : -(A * B) ≤ a * b ∧ a * b ≤ A * B := by
  have h1 := Int.mul_le_mul (sz_le ha) (sz_le hb) (le_sz b).2.2 (by omega : (0 : Int) ≤ A)
  have h2 := sz_signs a b
  have h3 := Int.mul_nonneg (le_sz a).2.2 (le_sz b).2.2
  split at h2
  · rw [h2] at h1 h3; omega
  · rw [h2] at h1 h3; omega
/-- A rounded product: its bound, and how near it is. -/
theorem mul_one (a b : Int) (ha : -4398046511104 ≤ a ∧ a ≤ 4398046511104) (hb : -4398046511104 ≤ b ∧ b ≤ 4398046511104) :
    ∃ m, mulS false a b = (m, false) ∧ m * 1099511627776 ≤ a * b + 549755813888 ∧ a * b ≤ m * 1099511627776 + 549755813888 := by
  obtain ⟨m, e, h1, h2, _⟩ := mulS_small a b (by omega) (by omega)
  exact ⟨m, e, h1, h2⟩
/-- What two of parts up to 1 are crossed to: bounds, and how near. -/
theorem cross_one (u v : V3) (hu0 : -1099511627776 ≤ u.1 ∧ u.1 ≤ 1099511627776) (hu1 : -1099511627776 ≤ u.2.1 ∧ u.2.1 ≤ 1099511627776) (hu2 : -1099511627776 ≤ u.2.2 ∧ u.2.2 ≤ 1099511627776)
    (hv0 : -1099511627776 ≤ v.1 ∧ v.1 ≤ 1099511627776) (hv1 : -1099511627776 ≤ v.2.1 ∧ v.2.1 ≤ 1099511627776) (hv2 : -1099511627776 ≤ v.2.2 ∧ v.2.2 ≤ 1099511627776) :
    ∃ c0 c1 c2, vCrossS false u v = ((c0, c1, c2), false) ∧
      (-2199023255554 ≤ c0 ∧ c0 ≤ 2199023255554) ∧ (-2199023255554 ≤ c1 ∧ c1 ≤ 2199023255554) ∧ (-2199023255554 ≤ c2 ∧ c2 ≤ 2199023255554) ∧
      (-1099511627776 ≤ c0 * 1099511627776 - (u.2.1 * v.2.2 - u.2.2 * v.2.1) ∧ c0 * 1099511627776 - (u.2.1 * v.2.2 - u.2.2 * v.2.1) ≤ 1099511627776) ∧
      (-1099511627776 ≤ c1 * 1099511627776 - (u.2.2 * v.1 - u.1 * v.2.2) ∧ c1 * 1099511627776 - (u.2.2 * v.1 - u.1 * v.2.2) ≤ 1099511627776) ∧
      (-1099511627776 ≤ c2 * 1099511627776 - (u.1 * v.2.1 - u.2.1 * v.1) ∧ c2 * 1099511627776 - (u.1 * v.2.1 - u.2.1 * v.1) ≤ 1099511627776) := by
  obtain ⟨m1, e1, a1, b1⟩ := mul_one u.2.1 v.2.2 (by omega) (by omega)
  obtain ⟨m2, e2, a2, b2⟩ := mul_one u.2.2 v.2.1 (by omega) (by omega)
  obtain ⟨m3, e3, a3, b3⟩ := mul_one u.2.2 v.1 (by omega) (by omega)
  obtain ⟨m4, e4, a4, b4⟩ := mul_one u.1 v.2.2 (by omega) (by omega)
  obtain ⟨m5, e5, a5, b5⟩ := mul_one u.1 v.2.1 (by omega) (by omega)
  obtain ⟨m6, e6, a6, b6⟩ := mul_one u.2.1 v.1 (by omega) (by omega)
  have p1 := absmul hu1 hv2
  have p2 := absmul hu2 hv1
  have p3 := absmul hu2 hv0
  have p4 := absmul hu0 hv2
  have p5 := absmul hu0 hv1
  have p6 := absmul hu1 hv0
  generalize u.2.1 * v.2.2 = q1 at *
  generalize u.2.2 * v.2.1 = q2 at *
  generalize u.2.2 * v.1 = q3 at *
  generalize u.1 * v.2.2 = q4 at *
  generalize u.1 * v.2.1 = q5 at *
  generalize u.2.1 * v.1 = q6 at *
  have g1 := subS_good m1 m2 (numB_of (by omega)) (numB_of (by omega)) (numB_of (by omega))
  have g2 := subS_good m3 m4 (numB_of (by omega)) (numB_of (by omega)) (numB_of (by omega))
  have g3 := subS_good m5 m6 (numB_of (by omega)) (numB_of (by omega)) (numB_of (by omega))
  refine ⟨m1 - m2, m3 - m4, m5 - m6, ?_, by omega, by omega, by omega, by omega, by omega, by omega⟩
  unfold vCrossS
  simp [e1, e2, e3, e4, e5, e6, g1, g2, g3, soundS_no]
/-- The Dot of parts of up to 4. -/
theorem dot_one (u v : V3) (hu0 : -2199023255554 ≤ u.1 ∧ u.1 ≤ 2199023255554) (hu1 : -2199023255554 ≤ u.2.1 ∧ u.2.1 ≤ 2199023255554) (hu2 : -2199023255554 ≤ u.2.2 ∧ u.2.2 ≤ 2199023255554)
    (hv0 : -2199023255554 ≤ v.1 ∧ v.1 ≤ 2199023255554) (hv1 : -2199023255554 ≤ v.2.1 ∧ v.2.1 ≤ 2199023255554) (hv2 : -2199023255554 ≤ v.2.2 ∧ v.2.2 ≤ 2199023255554) :
    ∃ d, vDotS false u v = (d, false) ∧ -1649267441664 ≤ d * 1099511627776 - (u.1 * v.1 + u.2.1 * v.2.1 + u.2.2 * v.2.2) ∧ d * 1099511627776 - (u.1 * v.1 + u.2.1 * v.2.1 + u.2.2 * v.2.2) ≤ 1649267441664 := by
  obtain ⟨m1, e1, a1, b1⟩ := mul_one u.1 v.1 (by omega) (by omega)
  obtain ⟨m2, e2, a2, b2⟩ := mul_one u.2.1 v.2.1 (by omega) (by omega)
  obtain ⟨m3, e3, a3, b3⟩ := mul_one u.2.2 v.2.2 (by omega) (by omega)
  have p1 := absmul hu0 hv0
  have p2 := absmul hu1 hv1
  have p3 := absmul hu2 hv2
  generalize u.1 * v.1 = q1 at *
  generalize u.2.1 * v.2.1 = q2 at *
  generalize u.2.2 * v.2.2 = q3 at *
  have g1 := addS_good m1 m2 (numB_of (by omega)) (numB_of (by omega)) (numB_of (by omega))
  have g2 := addS_good (m1 + m2) m3 (numB_of (by omega)) (numB_of (by omega)) (numB_of (by omega))
  refine ⟨m1 + m2 + m3, ?_, by omega, by omega⟩
  unfold vDotS
  simp [e1, e2, e3, g1, g2]
theorem norm_some (c : V3) (h0 : -2199023255554 ≤ c.1 ∧ c.1 ≤ 2199023255554) (h1 : -2199023255554 ≤ c.2.1 ∧ c.2.1 ≤ 2199023255554) (h2 : -2199023255554 ≤ c.2.2 ∧ c.2.2 ≤ 2199023255554) :
    ∃ n, vNormS false c = (n, false) := by
  have a0 := absmul h0 h0
  have a1 := absmul h1 h1
  have a2 := absmul h2 h2
  have s0 := sq_nonneg c.1
  have s1 := sq_nonneg c.2.1
  have s2 := sq_nonneg c.2.2
  have s := isq_spec (c.1 * c.1 + c.2.1 * c.2.1 + c.2.2 * c.2.2) (by omega) (by omega)
  refine ⟨isq (c.1 * c.1 + c.2.1 * c.2.1 + c.2.2 * c.2.2), normS_make (numB_of (by omega)) (numB_of (by omega)) (numB_of (by omega)) s.1 ?_ s.2.1 s.2.2⟩
  by_cases k : isq (c.1 * c.1 + c.2.1 * c.2.1 + c.2.2 * c.2.2) ≤ 4611686018427387904
  · exact k
  · have := sq_mono (by omega : (0 : Int) ≤ 4611686018427387905) (by omega : 4611686018427387905 ≤ isq (c.1 * c.1 + c.2.1 * c.2.1 + c.2.2 * c.2.2))
    omega
theorem uParts_eq : uPartsS = vPartsS := by
  funext bad p q
  unfold uPartsS vPartsS
  rw [uUnit_eq, uCross_eq, uNorm_eq, uDot_eq]
  rcases vUnit_cases bad p with ⟨_, e⟩ | ⟨n, u0, u1, u2, rfl, _, _, _, _, _, _, e, U0, U1, U2⟩
  · simp [e, vUnit_true, vCross_true, vNorm_true, vDot_true]
  · rcases vUnit_cases false q with ⟨_, e'⟩ | ⟨n', v0, v1, v2, _, _, _, _, _, _, _, e', V0, V1, V2⟩
    · simp [e, e', vCross_true, vNorm_true, vDot_true]
    · obtain ⟨c0, c1, c2, ec, h0, h1, h2, _⟩ := cross_one (u0, u1, u2) (v0, v1, v2) ⟨U0.lo, U0.hi⟩ ⟨U1.lo, U1.hi⟩ ⟨U2.lo, U2.hi⟩ ⟨V0.lo, V0.hi⟩ ⟨V1.lo, V1.hi⟩ ⟨V2.lo, V2.hi⟩
      obtain ⟨m, em⟩ := norm_some (c0, c1, c2) h0 h1 h2
      obtain ⟨d, ed, _⟩ := dot_one (u0, u1, u2) (v0, v1, v2) (by have := U0.lo; have := U0.hi; simp; omega) (by have := U1.lo; have := U1.hi; simp; omega) (by have := U2.lo; have := U2.hi; simp; omega) (by have := V0.lo; have := V0.hi; simp; omega) (by have := V1.lo; have := V1.hi; simp; omega) (by have := V2.lo; have := V2.hi; simp; omega)
      simp [e, e', ec, em, ed]
end Go.Proofs.Ytpceomcnknjiiaa
namespace Go.Proofs.Ytpceomcnknjiiaa
open Go.RowKit
set_option linter.unusedSimpArgs false

theorem vAdd_true (p q : V3) : vAddS true p q = ((0, 0, 0), true) := by simp [vAddS, addS_true, soundS_yes]
theorem vSub_true (p q : V3) : vSubS true p q = ((0, 0, 0), true) := by simp [vSubS, subS_true, soundS_yes]
theorem vScale_true (p : V3) (k : Int) : vScaleS true p k = ((0, 0, 0), true) := by simp [vScaleS, mulS_true, soundS_yes]
theorem xjoin_yes (p : V3) (k : Int) : xjoinS true p k = ((0, 0, 0, 0), true) := rfl
theorem xjoin_no (p : V3) (k : Int) : xjoinS false p k = ((p.1, p.2.1, p.2.2, k), false) := rfl
theorem xMul_eq : xMulS = qMulS := by
  funext bad p q
  unfold xMulS qMulS
  rw [uScale_eq, uCross_eq, uAdd_eq, uDot_eq]
  dsimp only
  generalize vScaleS bad (p.1, p.2.1, p.2.2.1) q.2.2.2 = r1
  generalize vScaleS r1.2 (q.1, q.2.1, q.2.2.1) p.2.2.2 = r2
  cases h2 : r2.2
  · cases hA : vAddS false r1.1 r2.1 with
    | mk A1 A2 =>
      cases hC : vCrossS false (q.1, q.2.1, q.2.2.1) (p.1, p.2.1, p.2.2.1) with
      | mk C1 C2 =>
        cases A2 <;> cases C2
        · simp only [hA, hC]
          generalize vAddS false A1 C1 = r3
          generalize mulS r3.2 p.2.2.2 q.2.2.2 = r4
          generalize vDotS r4.2 (p.1, p.2.1, p.2.2.1) (q.1, q.2.1, q.2.2.1) = r5
          generalize subS r5.2 r4.1 r5.1 = r6
          cases h6 : r6.2
          · simp [xjoin_no, sound4S_no]
          · simp [xjoin_yes, sound4S_yes]
        · simp [hA, hC, vAdd_true, vCross_true, vDot_true, mulS_true, subS_true, xjoin_yes, sound4S_yes]
        · simp [hA, hC, vAdd_true, vCross_true, vDot_true, mulS_true, subS_true, xjoin_yes, sound4S_yes]
        · simp [hA, hC, vAdd_true, vCross_true, vDot_true, mulS_true, subS_true, xjoin_yes, sound4S_yes]
  · simp [vAdd_true, vCross_true, vDot_true, mulS_true, subS_true, xjoin_yes, sound4S_yes]
theorem xTurn_eq : xTurnS = qTurnS := by
  funext bad q v
  unfold xTurnS qTurnS
  rw [uScale_eq, uCross_eq, uAdd_eq, uSub_eq]
theorem minus_ways (a : Int) : (a ≥ -4611686018427387904 ∧ a ≤ 4611686018427387904 ∧ minusS a = -a) ∨ (¬ a ≥ -4611686018427387904 ∧ minusS a = a) ∨ (a ≥ -4611686018427387904 ∧ ¬ a ≤ 4611686018427387904 ∧ minusS a = a) := by
  by_cases h : a < -4611686018427387904
  · exact Or.inr (Or.inl ⟨by omega, minusS_lo h⟩)
  · by_cases k : 4611686018427387904 < a
    · exact Or.inr (Or.inr ⟨by omega, by omega, minusS_hi k⟩)
    · exact Or.inl ⟨by omega, by omega, minusS_in (by omega) (by omega)⟩
theorem xBack_eq : xBackS = qBackS := by
  funext q
  obtain ⟨a, b, c, d⟩ := q
  unfold xBackS qBackS
  dsimp only
  rcases minus_ways a with ⟨a1, a2, a3⟩ | ⟨a1, a3⟩ | ⟨a1, a2, a3⟩ <;> rcases minus_ways b with ⟨b1, b2, b3⟩ | ⟨b1, b3⟩ | ⟨b1, b2, b3⟩ <;> rcases minus_ways c with ⟨c1, c2, c3⟩ | ⟨c1, c3⟩ | ⟨c1, c2, c3⟩ <;> simp only [*, if_true, if_false]
/-- A unit: of what is too short, or none; or of four numbers, with their length and their quotients. -/
theorem qUnit_cases (bad : Bool) (q : V4) :
    ((normS (vNormS bad (q.1, q.2.1, q.2.2.1)).2 (vNormS bad (q.1, q.2.1, q.2.2.1)).1 q.2.2.2 0).1 < 549755813888 ∧ qUnitS bad q = ((0, 0, 0, 0), true)) ∨
    (∃ N n d0 d1 d2 d3, bad = false ∧ normS false q.1 q.2.1 q.2.2.1 = (N, false) ∧ normS false N q.2.2.2 0 = (n, false) ∧ 549755813888 ≤ n ∧ divS false q.1 n = (d0, false) ∧ divS false q.2.1 n = (d1, false) ∧ divS false q.2.2.1 n = (d2, false) ∧ divS false q.2.2.2 n = (d3, false) ∧
      Uof d0 q.1 n ∧ Uof d1 q.2.1 n ∧ Uof d2 q.2.2.1 n ∧ Uof d3 q.2.2.2 n ∧ qUnitS bad q = (if d3 < 0 then (-d0, -d1, -d2, -d3) else (d0, d1, d2, d3), false)) := by
  have hN : vNormS bad (q.1, q.2.1, q.2.2.1) = normS bad q.1 q.2.1 q.2.2.1 := rfl
  by_cases c : (normS (vNormS bad (q.1, q.2.1, q.2.2.1)).2 (vNormS bad (q.1, q.2.1, q.2.2.1)).1 q.2.2.2 0).1 < 549755813888
  · exact Or.inl ⟨c, by unfold qUnitS; dsimp only; rw [if_pos c]⟩
  · refine Or.inr ?_
    rw [hN] at c
    cases h1 : normS bad q.1 q.2.1 q.2.2.1 with
    | mk N b1 =>
      rw [h1] at c
      dsimp only at c
      cases h2 : normS b1 N q.2.2.2 0 with
      | mk n b2 =>
        rw [h2] at c
        dsimp only at c
        have hb2 : b2 = false := by
          cases b2
          · rfl
          · have := normS_bad b1 N q.2.2.2 0 (by rw [h2])
            rw [h2] at this
            have : n = 0 := this
            omega
        subst hb2
        have g2 := normS_good h2
        have hb1 := g2.1
        subst hb1
        have g1 := normS_good h1
        have hb := g1.1
        subst hb
        have s0 := sq_nonneg q.1
        have s1 := sq_nonneg q.2.1
        have s2 := sq_nonneg q.2.2.1
        have s3 := sq_nonneg q.2.2.2
        have sN := sq_nonneg N
        have k0 := abs_le_of_sq (a := q.1) g1.2.2.2.2.1 (by omega)
        have k1 := abs_le_of_sq (a := q.2.1) g1.2.2.2.2.1 (by omega)
        have k2 := abs_le_of_sq (a := q.2.2.1) g1.2.2.2.2.1 (by omega)
        have kN := abs_le_of_sq (a := N) g2.2.2.2.2.1 (by omega)
        have k3 := abs_le_of_sq (a := q.2.2.2) g2.2.2.2.2.1 (by omega)
        obtain ⟨d0, e0, U0⟩ := div_unit q.1 n (by omega) (by omega)
        obtain ⟨d1, e1, U1⟩ := div_unit q.2.1 n (by omega) (by omega)
        obtain ⟨d2, e2, U2⟩ := div_unit q.2.2.1 n (by omega) (by omega)
        obtain ⟨d3, e3, U3⟩ := div_unit q.2.2.2 n (by omega) (by omega)
        refine ⟨N, n, d0, d1, d2, d3, rfl, h1, h2, by omega, e0, e1, e2, e3, U0, U1, U2, U3, ?_⟩
        have ew : uprightS (d0, d1, d2, d3) = if d3 < 0 then (-d0, -d1, -d2, -d3) else (d0, d1, d2, d3) := by
          have := U0.lo; have := U0.hi; have := U1.lo; have := U1.hi; have := U2.lo; have := U2.hi; have := U3.lo; have := U3.hi
          unfold uprightS
          dsimp only
          by_cases k : d3 < 0
          · rw [if_neg (by omega), if_pos k, minusS_in (by omega) (by omega), minusS_in (by omega) (by omega), minusS_in (by omega) (by omega), minusS_in (by omega) (by omega)]
          · rw [if_pos (by omega), if_neg k]
        unfold qUnitS
        simp only [hN, h1, h2, e0, e1, e2, e3, if_neg c, ew]
theorem qUnit_true (q : V4) : qUnitS true q = ((0, 0, 0, 0), true) := by
  unfold qUnitS
  simp only [vNorm_true, normS_true]
  rw [if_pos (by decide)]
theorem xUnit_eq : xUnitS = qUnitS := by
  funext bad q
  rcases qUnit_cases bad q with ⟨c, e⟩ | ⟨N, n, d0, d1, d2, d3, rfl, h1, h2, c, e0, e1, e2, e3, _, _, _, _, e⟩
  · rw [e]
    unfold xUnitS
    have c' : (normS (normS bad q.1 q.2.1 q.2.2.1).2 (normS bad q.1 q.2.1 q.2.2.1).1 q.2.2.2 0).1 < 549755813888 := c
    dsimp only
    rw [if_pos c']
  · rw [e]
    unfold xUnitS
    have c' : ¬ n < 549755813888 := by omega
    simp only [h1, h2, e0, e1, e2, e3, if_neg c']
    by_cases k : d3 < 0
    · simp [k]
    · simp [k]
theorem xFromRod_eq : xFromRodS = qFromRodS := by
  funext bad p
  unfold xFromRodS qFromRodS
  rw [uDot_eq, xUnit_eq]
/-- What ToRod works, of an attitude that stands upright. -/
def rodS (bad : Bool) (q : V4) : V3 × Bool := let r2 := addS bad 1099511627776 q.2.2.2; let r3 := mulS r2.2 q.1 4398046511104; let r4 := divS r3.2 r3.1 r2.1; let r5 := mulS r4.2 q.2.1 4398046511104; let r6 := divS r5.2 r5.1 r2.1; let r7 := mulS r6.2 q.2.2.1 4398046511104; let r8 := divS r7.2 r7.1 r2.1; let r9 := soundS r8.2 (r4.1, r6.1, r8.1); (r9.1, r9.2)
theorem qToRod_rod (bad : Bool) (q : V4) : qToRodS bad q = rodS bad (uprightS q) := rfl
theorem addS_nonl {bad : Bool} {a b : Int} (h : numB a = false) : addS bad a b = (0, true) := addS_no (by unfold tk; simp [h])
theorem addS_nonr {bad : Bool} {a b : Int} (h : numB b = false) : addS bad a b = (0, true) := addS_no (by unfold tk; simp [h])
theorem mulS_nonl {bad : Bool} {a b : Int} (h : numB a = false) : mulS bad a b = (0, true) := mulS_no (by unfold tk; simp [h])
theorem rodS_bad (bad : Bool) (q : V4) (h : bad = true ∨ numB q.1 = false ∨ numB q.2.1 = false ∨ numB q.2.2.1 = false ∨ numB q.2.2.2 = false) : rodS bad q = ((0, 0, 0), true) := by
  unfold rodS
  rcases h with h | h | h | h | h
  · subst h; simp [addS_true, mulS_true, divS_true, soundS_yes]
  · simp [mulS_nonl h, mulS_true, divS_true, soundS_yes]
  · simp [mulS_nonl h, mulS_true, divS_true, soundS_yes]
  · simp [mulS_nonl h, mulS_true, divS_true, soundS_yes]
  · simp [addS_nonr h, mulS_true, divS_true, soundS_yes]
theorem numB_minus (a : Int) : numB (minusS a) = numB a := by
  rcases minus_ways a with ⟨_, _, e⟩ | ⟨_, e⟩ | ⟨_, _, e⟩ <;> rw [e]
  exact numB_neg a
theorem addS_zero {a : Int} (h : numB a = true) : addS false a 0 = (a, false) := by
  have := addS_good a 0 h (by rfl) (by rw [Int.add_zero]; exact h)
  rw [Int.add_zero] at this
  exact this
theorem xToRod_eq : xToRodS = qToRodS := by
  funext bad q
  rw [qToRod_rod]
  by_cases g : bad = false ∧ numB q.1 = true ∧ numB q.2.1 = true ∧ numB q.2.2.1 = true ∧ numB q.2.2.2 = true
  · obtain ⟨rfl, h0, h1, h2, h3⟩ := g
    have b0 := numB_bd h0
    have b1 := numB_bd h1
    have b2 := numB_bd h2
    have b3 := numB_bd h3
    have key : ∀ (x y z t : Int) , rodS false (x, y, z, t) = (let r5 := addS false 1099511627776 t; let r6 := mulS r5.2 x 4398046511104; let r7 := divS r6.2 r6.1 r5.1; let r8 := mulS r7.2 y 4398046511104; let r9 := divS r8.2 r8.1 r5.1; let r10 := mulS r9.2 z 4398046511104; let r11 := divS r10.2 r10.1 r5.1; if r11.2 then ((0, 0, 0), r11.2) else ((r7.1, r9.1, r11.1), r11.2)) := by
      intro x y z t
      unfold rodS
      dsimp only
      generalize addS false 1099511627776 t = s2
      generalize mulS s2.2 x 4398046511104 = s3
      generalize divS s3.2 s3.1 s2.1 = s4
      generalize mulS s4.2 y 4398046511104 = s5
      generalize divS s5.2 s5.1 s2.1 = s6
      generalize mulS s6.2 z 4398046511104 = s7
      generalize divS s7.2 s7.1 s2.1 = s8
      cases h : s8.2
      · simp [soundS_no]
      · simp [soundS_yes]
    unfold xToRodS
    simp only [addS_zero h0, addS_zero h1, addS_zero h2, addS_zero h3]
    by_cases k : q.2.2.2 < 0
    · have e : uprightS q = (-q.1, -q.2.1, -q.2.2.1, -q.2.2.2) := by
        unfold uprightS
        rw [if_neg (by omega), minusS_in b0.1 b0.2, minusS_in b1.1 b1.2, minusS_in b2.1 b2.2, minusS_in b3.1 b3.2]
      rw [e, key, if_neg (by decide), if_pos k]
    · have e : uprightS q = (q.1, q.2.1, q.2.2.1, q.2.2.2) := by
        unfold uprightS
        rw [if_pos (by omega)]
      rw [e, key, if_neg (by decide), if_neg k]
  · have hR : rodS bad (uprightS q) = ((0, 0, 0), true) := by
      apply rodS_bad
      have : numB (uprightS q).1 = numB q.1 ∧ numB (uprightS q).2.1 = numB q.2.1 ∧ numB (uprightS q).2.2.1 = numB q.2.2.1 ∧ numB (uprightS q).2.2.2 = numB q.2.2.2 := by
        unfold uprightS
        split
        · exact ⟨rfl, rfl, rfl, rfl⟩
        · exact ⟨numB_minus _, numB_minus _, numB_minus _, numB_minus _⟩
      rw [this.1, this.2.1, this.2.2.1, this.2.2.2]
      cases bad
      · cases h0 : numB q.1 <;> cases h1 : numB q.2.1 <;> cases h2 : numB q.2.2.1 <;> cases h3 : numB q.2.2.2 <;> simp_all
      · exact Or.inl rfl
    rw [hR]
    unfold xToRodS
    cases bad
    · cases h0 : numB q.1
      · simp [addS_nonl h0, addS_true]
      · cases h1 : numB q.2.1
        · simp [addS_nonl h1, addS_true]
        · cases h2 : numB q.2.2.1
          · simp [addS_nonl h2, addS_true]
          · cases h3 : numB q.2.2.2
            · simp [addS_nonl h3]
            · exact absurd ⟨rfl, h0, h1, h2, h3⟩ g
    · simp [addS_true]
end Go.Proofs.Ytpceomcnknjiiaa
namespace Go.Proofs.Ytpceomcnknjiiaa
open Go.RowKit

/-- x is K at most, of either sign. -/
structure Ab (x K : Int) : Prop where
  lo : -K ≤ x
  hi : x ≤ K
theorem Ab.add {x y K L : Int} (h : Ab x K) (k : Ab y L) : Ab (x + y) (K + L) := ⟨by have := h.lo; have := k.lo; omega, by have := h.hi; have := k.hi; omega⟩
theorem Ab.sub {x y K L : Int} (h : Ab x K) (k : Ab y L) : Ab (x - y) (K + L) := ⟨by have := h.lo; have := k.hi; omega, by have := h.hi; have := k.lo; omega⟩
theorem Ab.neg {x K : Int} (h : Ab x K) : Ab (-x) K := ⟨by have := h.hi; omega, by have := h.lo; omega⟩
theorem Ab.mul {x y K L : Int} (h : Ab x K) (k : Ab y L) : Ab (x * y) (K * L) := by
  have := absmul ⟨h.lo, h.hi⟩ ⟨k.lo, k.hi⟩
  exact ⟨this.1, this.2⟩
theorem Ab.le {x K L : Int} (h : Ab x K) (k : K ≤ L) : Ab x L := ⟨by have := h.lo; omega, by have := h.hi; omega⟩
theorem Ab.two : Ab 2 2 := ⟨by decide, by decide⟩
theorem Ab.four : Ab 4 4 := ⟨by decide, by decide⟩
theorem Ab.one40 : Ab 1099511627776 1099511627776 := ⟨by decide, by decide⟩
theorem Ab.one80 : Ab 1208925819614629174706176 1208925819614629174706176 := ⟨by decide, by decide⟩
theorem Ab.zero {K : Int} (h : 0 ≤ K) : Ab 0 K := ⟨by omega, h⟩
theorem Ab.numB {x K : Int} (h : Ab x K) (k : K ≤ 4611686018427387904) : numB x = true := numB_of ⟨by have := h.lo; omega, by have := h.hi; omega⟩

/-- A rounded product. -/
theorem mul_near {a b K L : Int} (ha : Ab a K) (hb : Ab b L) (hK : K ≤ 1125899906842624) (hL : L ≤ 1125899906842624) :
    ∃ m, mulS false a b = (m, false) ∧ Ab (2 * (m * 1099511627776 - a * b)) 1099511627776 := by
  obtain ⟨m, e, h1, h2, _⟩ := mulS_small a b (by have := ha.lo; have := ha.hi; omega) (by have := hb.lo; have := hb.hi; omega)
  exact ⟨m, e, by omega, by omega⟩
theorem prod_bd {a b K L m : Int} (ha : Ab a K) (hb : Ab b L) (h : Ab (2 * (m * 1099511627776 - a * b)) 1099511627776) {B : Int} (hB : K * L + 549755813888 ≤ B * 1099511627776) : Ab m B := by
  have p := ha.mul hb
  have := p.lo; have := p.hi; have := h.lo; have := h.hi
  generalize a * b = ab at *
  generalize K * L = KL at *
  constructor <;> omega
theorem add_near {a b K L : Int} (ha : Ab a K) (hb : Ab b L) (h : K + L ≤ 4611686018427387904) (h1 : K ≤ 4611686018427387904) (h2 : L ≤ 4611686018427387904) : addS false a b = (a + b, false) :=
  addS_good a b (ha.numB h1) (hb.numB h2) ((ha.add hb).numB h)
theorem sub_near {a b K L : Int} (ha : Ab a K) (hb : Ab b L) (h : K + L ≤ 4611686018427387904) (h1 : K ≤ 4611686018427387904) (h2 : L ≤ 4611686018427387904) : subS false a b = (a - b, false) :=
  subS_good a b (ha.numB h1) (hb.numB h2) ((ha.sub hb).numB h)
/-- What is crossed: its parts, and how near they are. K L: how great the parts of both are; B: what the parts of what comes out keep to. -/
theorem cross_near {a0 a1 a2 v0 v1 v2 K L B : Int} (ha0 : Ab a0 K) (ha1 : Ab a1 K) (ha2 : Ab a2 K) (hv0 : Ab v0 L) (hv1 : Ab v1 L) (hv2 : Ab v2 L) (hK : K ≤ 1125899906842624) (hL : L ≤ 1125899906842624) (hB : K * L + 549755813888 ≤ B * 1099511627776) (hB' : B ≤ 1152921504606846976) :
    ∃ c0 c1 c2, vCrossS false (a0, a1, a2) (v0, v1, v2) = ((c0, c1, c2), false) ∧ Ab c0 (2 * B) ∧ Ab c1 (2 * B) ∧ Ab c2 (2 * B) ∧
      Ab (c0 * 1099511627776 - (a1 * v2 - a2 * v1)) 1099511627776 ∧ Ab (c1 * 1099511627776 - (a2 * v0 - a0 * v2)) 1099511627776 ∧ Ab (c2 * 1099511627776 - (a0 * v1 - a1 * v0)) 1099511627776 := by
  obtain ⟨m1, e1, n1⟩ := mul_near ha1 hv2 hK hL
  obtain ⟨m2, e2, n2⟩ := mul_near ha2 hv1 hK hL
  obtain ⟨m3, e3, n3⟩ := mul_near ha2 hv0 hK hL
  obtain ⟨m4, e4, n4⟩ := mul_near ha0 hv2 hK hL
  obtain ⟨m5, e5, n5⟩ := mul_near ha0 hv1 hK hL
  obtain ⟨m6, e6, n6⟩ := mul_near ha1 hv0 hK hL
  have b1 := prod_bd ha1 hv2 n1 hB
  have b2 := prod_bd ha2 hv1 n2 hB
  have b3 := prod_bd ha2 hv0 n3 hB
  have b4 := prod_bd ha0 hv2 n4 hB
  have b5 := prod_bd ha0 hv1 n5 hB
  have b6 := prod_bd ha1 hv0 n6 hB
  have s1 := sub_near b1 b2 (by omega) (by omega) (by omega)
  have s2 := sub_near b3 b4 (by omega) (by omega) (by omega)
  have s3 := sub_near b5 b6 (by omega) (by omega) (by omega)
  refine ⟨m1 - m2, m3 - m4, m5 - m6, ?_, (b1.sub b2).le (by omega), (b3.sub b4).le (by omega), (b5.sub b6).le (by omega), ?_, ?_, ?_⟩
  · unfold vCrossS
    simp only [e1, e2, e3, e4, e5, e6, s1, s2, s3, soundS_no]
  · have := n1.lo; have := n1.hi; have := n2.lo; have := n2.hi; constructor <;> omega
  · have := n3.lo; have := n3.hi; have := n4.lo; have := n4.hi; constructor <;> omega
  · have := n5.lo; have := n5.hi; have := n6.lo; have := n6.hi; constructor <;> omega
theorem double_near {c K : Int} (hc : Ab c K) (hK : K ≤ 1125899906842624) : mulS false c 2199023255552 = (2 * c, false) := by
  obtain ⟨m, e, h⟩ := mul_near hc (⟨by decide, by decide⟩ : Ab 2199023255552 2199023255552) hK (by decide)
  have := h.lo; have := h.hi
  rw [e, show m = 2 * c by omega]
/-- The parts of a turn, worked out with no rounding, 2^80 times as great: the first one (the others go round and round). -/
def qfc (a0 a1 a2 s v0 v1 v2 : Int) : Int := 2 * (a1 * (a0 * v1 - a1 * v0) - a2 * (a2 * v0 - a0 * v2)) - 2 * (s * (a1 * v2 - a2 * v1))
def tnc (a0 a1 a2 s v0 v1 v2 : Int) : Int := 1208925819614629174706176 * v0 + qfc a0 a1 a2 s v0 v1 v2
theorem tnc_add (a0 a1 a2 s v0 v1 v2 u0 u1 u2 : Int) : tnc a0 a1 a2 s (v0 + u0) (v1 + u1) (v2 + u2) = tnc a0 a1 a2 s v0 v1 v2 + tnc a0 a1 a2 s u0 u1 u2 := by unfold tnc qfc; grind
theorem tnc_mul (a0 a1 a2 s v0 v1 v2 k : Int) : tnc a0 a1 a2 s (k * v0) (k * v1) (k * v2) = k * tnc a0 a1 a2 s v0 v1 v2 := by unfold tnc qfc; grind
theorem part_near {a0 a1 a2 s v0 v1 v2 c0 c1 c2 f d H : Int} (h1 : Ab a1 H) (h2 : Ab a2 H) (hs : Ab s H)
    (n0 : Ab (c0 * 1099511627776 - (a1 * v2 - a2 * v1)) 1099511627776) (n1 : Ab (c1 * 1099511627776 - (a2 * v0 - a0 * v2)) 1099511627776) (n2 : Ab (c2 * 1099511627776 - (a0 * v1 - a1 * v0)) 1099511627776)
    (nf : Ab (2 * (f * 1099511627776 - 2 * c0 * s)) 1099511627776) (nd : Ab (d * 1099511627776 - (a1 * (2 * c2) - a2 * (2 * c1))) 1099511627776) :
    Ab (1208925819614629174706176 * (v0 - f + d) - tnc a0 a1 a2 s v0 v1 v2) (2417851639229258349412352 + 6597069766656 * H) := by
  have id : 1208925819614629174706176 * (v0 - f + d) - tnc a0 a1 a2 s v0 v1 v2 =
      1099511627776 * (d * 1099511627776 - (a1 * (2 * c2) - a2 * (2 * c1))) - 1099511627776 * (f * 1099511627776 - 2 * c0 * s) - 2 * (s * (c0 * 1099511627776 - (a1 * v2 - a2 * v1)))
        + 2 * (a1 * (c2 * 1099511627776 - (a0 * v1 - a1 * v0)) - a2 * (c1 * 1099511627776 - (a2 * v0 - a0 * v2))) := by unfold tnc qfc; grind
  rw [id]
  have p0 := hs.mul n0
  have p1 := h1.mul n2
  have p2 := h2.mul n1
  generalize s * (c0 * 1099511627776 - (a1 * v2 - a2 * v1)) = x0 at *
  generalize a1 * (c2 * 1099511627776 - (a0 * v1 - a1 * v0)) = x1 at *
  generalize a2 * (c1 * 1099511627776 - (a2 * v0 - a0 * v2)) = x2 at *
  generalize d * 1099511627776 - (a1 * (2 * c2) - a2 * (2 * c1)) = x3 at *
  generalize f * 1099511627776 - 2 * c0 * s = x4 at *
  have := p0.lo; have := p0.hi; have := p1.lo; have := p1.hi; have := p2.lo; have := p2.hi; have := nf.lo; have := nf.hi; have := nd.lo; have := nd.hi
  constructor <;> omega
/-- A rounded turn. H: how great the attitude's parts are (up to 5); L: those of the vector (up to 16). -/
theorem turn_near {a0 a1 a2 s v0 v1 v2 H : Int} (h0 : Ab a0 H) (h1 : Ab a1 H) (h2 : Ab a2 H) (hs : Ab s H) (hH : H ≤ 5497558138880) (hv0 : Ab v0 17592186044416) (hv1 : Ab v1 17592186044416) (hv2 : Ab v2 17592186044416) :
    ∃ r0 r1 r2, qTurnS false (a0, a1, a2, s) (v0, v1, v2) = ((r0, r1, r2), false) ∧
      Ab (1208925819614629174706176 * r0 - tnc a0 a1 a2 s v0 v1 v2) (2417851639229258349412352 + 6597069766656 * H) ∧
      Ab (1208925819614629174706176 * r1 - tnc a1 a2 a0 s v1 v2 v0) (2417851639229258349412352 + 6597069766656 * H) ∧
      Ab (1208925819614629174706176 * r2 - tnc a2 a0 a1 s v2 v0 v1) (2417851639229258349412352 + 6597069766656 * H) := by
  have w0 := h0.le hH
  have w1 := h1.le hH
  have w2 := h2.le hH
  have ws := hs.le hH
  obtain ⟨c0, c1, c2, ec, bc0, bc1, bc2, n0, n1, n2⟩ := cross_near (B := 89060441849857) w0 w1 w2 hv0 hv1 hv2 (by decide) (by decide) (by decide) (by decide)
  have d0 := double_near bc0 (by decide)
  have d1 := double_near bc1 (by decide)
  have d2 := double_near bc2 (by decide)
  have t0 := Ab.two.mul bc0
  have t1 := Ab.two.mul bc1
  have t2 := Ab.two.mul bc2
  have esc : vScaleS false (c0, c1, c2) 2199023255552 = ((2 * c0, 2 * c1, 2 * c2), false) := by
    unfold vScaleS
    simp only [d0, d1, d2, soundS_no]
  obtain ⟨f0, ef0, nf0⟩ := mul_near t0 ws (by decide) (by decide)
  obtain ⟨f1, ef1, nf1⟩ := mul_near t1 ws (by decide) (by decide)
  obtain ⟨f2, ef2, nf2⟩ := mul_near t2 ws (by decide) (by decide)
  have bf0 := prod_bd t0 ws nf0 (B := 1781208836997141) (by decide)
  have bf1 := prod_bd t1 ws nf1 (B := 1781208836997141) (by decide)
  have bf2 := prod_bd t2 ws nf2 (B := 1781208836997141) (by decide)
  have ef : vScaleS false (2 * c0, 2 * c1, 2 * c2) s = ((f0, f1, f2), false) := by
    unfold vScaleS
    simp only [ef0, ef1, ef2, soundS_no]
  have s0 := sub_near hv0 bf0 (by decide) (by decide) (by decide)
  have s1 := sub_near hv1 bf1 (by decide) (by decide) (by decide)
  have s2 := sub_near hv2 bf2 (by decide) (by decide) (by decide)
  have es : vSubS false (v0, v1, v2) (f0, f1, f2) = ((v0 - f0, v1 - f1, v2 - f2), false) := by
    unfold vSubS
    simp only [s0, s1, s2, soundS_no]
  obtain ⟨g0, g1, g2, eg, bg0, bg1, bg2, k0, k1, k2⟩ := cross_near (B := 1781208836997141) w0 w1 w2 t0 t1 t2 (by decide) (by decide) (by decide) (by decide)
  have a0' := add_near (hv0.sub bf0) bg0 (by decide) (by decide) (by decide)
  have a1' := add_near (hv1.sub bf1) bg1 (by decide) (by decide) (by decide)
  have a2' := add_near (hv2.sub bf2) bg2 (by decide) (by decide) (by decide)
  have ea : vAddS false (v0 - f0, v1 - f1, v2 - f2) (g0, g1, g2) = ((v0 - f0 + g0, v1 - f1 + g1, v2 - f2 + g2), false) := by
    unfold vAddS
    simp only [a0', a1', a2', soundS_no]
  refine ⟨v0 - f0 + g0, v1 - f1 + g1, v2 - f2 + g2, ?_, part_near h1 h2 hs n0 n1 n2 nf0 k0, part_near h2 h0 hs n1 n2 n0 nf1 k1, part_near h0 h1 hs n2 n0 n1 nf2 k2⟩
  unfold qTurnS
  simp only [ec, esc, ef, es, eg, ea]
end Go.Proofs.Ytpceomcnknjiiaa
namespace Go.Proofs.Ytpceomcnknjiiaa

def lS3 : List Int := lS.drop 3
def lC2 : List Int := lC.drop 2
def kl : Int := lwD (6 :: dsS)
theorem kk_kl : kk = 1099511627776 * kl := rfl
theorem lS_cut : lS = 0 :: kl :: 0 :: lS3 := by decide +kernel
theorem lC_cut : lC = kk :: 0 :: lC2 := by decide +kernel
theorem small_M : 6646139978924579364519035301401722880 * evp (absl lS3) 274877906944 ≤ kk := by decide +kernel
theorem small_N : 120892581961462917470617600 * evp (absl lC2) 274877906944 ≤ 51 * kk := by decide +kernel
theorem pS_cut (x : Int) : pS x = kl * x + x * x * x * evp lS3 x := by
  unfold pS
  rw [lS_cut]
  simp only [evp]
  grind
theorem pC_cut (x : Int) : pC x = kk + x * x * evp lC2 x := by
  unfold pC
  rw [lC_cut]
  simp only [evp]
  grind
theorem small_S {x X : Int} (h : Ab x X) (hX : X ≤ 274877906944) : Ab (6044629098073145873530880 * (1099511627776 * pS x - kk * x)) (kk * (X * X * X)) := by
  have hb := evp_abs lS3 x 274877906944 (by have := h.lo; have := h.hi; omega)
  have hE : Ab (evp lS3 x) (evp (absl lS3) 274877906944) := ⟨hb.1, hb.2⟩
  have h3 := ((h.mul h).mul h).mul hE
  have X0 : 0 ≤ X := by have := h.lo; have := h.hi; omega
  have XX := Int.mul_nonneg (Int.mul_nonneg X0 X0) X0
  have le := Int.mul_le_mul_of_nonneg_left small_M XX
  have e : 6044629098073145873530880 * (1099511627776 * pS x - kk * x) = 6646139978924579364519035301401722880 * (x * x * x * evp lS3 x) := by
    rw [pS_cut, kk_kl]
    grind
  have e2 : X * X * X * (6646139978924579364519035301401722880 * evp (absl lS3) 274877906944) = 6646139978924579364519035301401722880 * (X * X * X * evp (absl lS3) 274877906944) := by grind
  have e3 : X * X * X * kk = kk * (X * X * X) := Int.mul_comm _ _
  rw [e2, e3] at le
  rw [e]
  have l := h3.lo
  have u := h3.hi
  generalize x * x * x * evp lS3 x = A at l u ⊢
  generalize X * X * X * evp (absl lS3) 274877906944 = B at l u le
  generalize kk * (X * X * X) = C at le ⊢
  exact ⟨by omega, by omega⟩
theorem small_C {x X : Int} (h : Ab x X) (hX : X ≤ 274877906944) : Ab (120892581961462917470617600 * (pC x - kk)) (51 * (kk * (X * X))) := by
  have hb := evp_abs lC2 x 274877906944 (by have := h.lo; have := h.hi; omega)
  have hE : Ab (evp lC2 x) (evp (absl lC2) 274877906944) := ⟨hb.1, hb.2⟩
  have h3 := (h.mul h).mul hE
  have X0 : 0 ≤ X := by have := h.lo; have := h.hi; omega
  have XX := Int.mul_nonneg X0 X0
  have le := Int.mul_le_mul_of_nonneg_left small_N XX
  have e : 120892581961462917470617600 * (pC x - kk) = 120892581961462917470617600 * (x * x * evp lC2 x) := by rw [pC_cut]; grind
  have e2 : X * X * (120892581961462917470617600 * evp (absl lC2) 274877906944) = 120892581961462917470617600 * (X * X * evp (absl lC2) 274877906944) := by grind
  have e3 : X * X * (51 * kk) = 51 * (kk * (X * X)) := by grind
  rw [e2, e3] at le
  rw [e]
  have l := h3.lo
  have u := h3.hi
  generalize x * x * evp lC2 x = A at l u ⊢
  generalize X * X * evp (absl lC2) 274877906944 = B at l u le
  generalize kk * (X * X) = C at le ⊢
  exact ⟨by omega, by omega⟩
theorem kk_can {A B : Int} (h : A * kk ≤ B * kk) : A ≤ B := Int.le_of_mul_le_mul_right h kk_pos
/-- By how much pS and pC are off x and 1. -/
theorem small_T {x X T D : Int} (h : Ab x X) (hX : X ≤ 274877906944) (hT : X * X * X ≤ 6044629098073145873530880 * T) (hD : 51 * (X * X) ≤ 109951162777600 * D) :
    Ab (1099511627776 * pS x - kk * x) (kk * T) ∧ Ab (1099511627776 * (pC x - kk)) (kk * D) := by
  have s := small_S h hX
  have c := small_C h hX
  have k0 : 0 ≤ kk := Int.le_of_lt kk_pos
  have t1 := Int.mul_le_mul_of_nonneg_left hT k0
  have d1 := Int.mul_le_mul_of_nonneg_left hD k0
  have e1 : kk * (6044629098073145873530880 * T) = 6044629098073145873530880 * (kk * T) := by grind
  have e2 : kk * (109951162777600 * D) = 109951162777600 * (kk * D) := by grind
  have e3 : kk * (51 * (X * X)) = 51 * (kk * (X * X)) := by grind
  rw [e1] at t1
  rw [e2, e3] at d1
  have s1 := s.lo; have s2 := s.hi; have c1 := c.lo; have c2 := c.hi
  generalize kk * (X * X * X) = A at *
  generalize kk * (X * X) = B at *
  generalize kk * T = U at *
  generalize kk * D = V at *
  generalize 1099511627776 * pS x - kk * x = P at *
  generalize pC x - kk = Q at *
  exact ⟨⟨by omega, by omega⟩, ⟨by omega, by omega⟩⟩
theorem quarter {x : Int} (h : Ab x 274877906944) : Ab (1099511627776 * (pS (1727108826179 + x) - pC x)) (18 * kk) ∧ Ab (1099511627776 * (pC (1727108826179 + x) + pS x)) (93 * kk) := by
  have hx : -1727108826179 ≤ x ∧ x ≤ 1727108826179 := by have := h.lo; have := h.hi; omega
  have s := sum_S 1727108826179 x (by decide) hx
  have c := sum_C 1727108826179 x (by decide) hx
  have a : Ab ((pS 1727108826179 - kk) * 1099511627776) kk := ⟨pS_h.1, pS_h.2⟩
  have b : Ab (pC 1727108826179 * 1099511627776) kk := ⟨pC_h.1, pC_h.2⟩
  have ps : Ab (pS x) (3 * kk) := ⟨(pS_bd x hx).1, (pS_bd x hx).2⟩
  have pc : Ab (pC x) (3 * kk) := ⟨(pC_bd x hx).1, (pC_bd x hx).2⟩
  have m1 := a.mul pc
  have m2 := b.mul ps
  have m3 := b.mul pc
  have m4 := a.mul ps
  have e1 : (pS (1727108826179 + x) * kk - (pS 1727108826179 * pC x + pC 1727108826179 * pS x)) * 1099511627776 + (pS 1727108826179 - kk) * 1099511627776 * pC x + pC 1727108826179 * 1099511627776 * pS x = 1099511627776 * (pS (1727108826179 + x) - pC x) * kk := by grind
  have e2 : (pC (1727108826179 + x) * kk - (pC 1727108826179 * pC x - pS 1727108826179 * pS x)) * 1099511627776 + pC 1727108826179 * 1099511627776 * pC x - (pS 1727108826179 - kk) * 1099511627776 * pS x = 1099511627776 * (pC (1727108826179 + x) + pS x) * kk := by grind
  have q : kk * (3 * kk) = 3 * (kk * kk) := by grind
  rw [q] at m1 m2 m3 m4
  have l1 := m1.lo; have u1 := m1.hi; have l2 := m2.lo; have u2 := m2.hi; have l3 := m3.lo; have u3 := m3.hi; have l4 := m4.lo; have u4 := m4.hi
  have f : ∀ n : Int, n * kk * kk = n * (kk * kk) := fun n => Int.mul_assoc _ _ _
  refine ⟨⟨kk_can ?_, kk_can ?_⟩, ⟨kk_can ?_, kk_can ?_⟩⟩
  · rw [← e1, Int.neg_mul, f]; omega
  · rw [← e1, f]; omega
  · rw [← e2, Int.neg_mul, f]; omega
  · rw [← e2, f]; omega
/-- The sine and the cosine of a small angle. -/
theorem small_sin {x X T D : Int} (h : Ab x X) (hX : X ≤ 274877906944) (hT : X * X * X ≤ 6044629098073145873530880 * T) (hD : 51 * (X * X) ≤ 109951162777600 * D) :
    ∃ t d, sinA false x = (t, false) ∧ cosA false x = (d, false) ∧ Ab (t - x) (T + 100) ∧ Ab (d - 1099511627776) (D + 25) := by
  obtain ⟨s, c⟩ := small_T h hX hT hD
  have x1 := h.lo; have x2 := h.hi
  obtain ⟨k, t, S, C, k0, k3, t0, t1, e, nS, nC, eS, eC⟩ := angle x (by unfold numB; simp; omega)
  have kT : (T + 100) * kk = kk * T + 100 * kk := by grind
  have kD : (D + 25) * kk = kk * D + 25 * kk := by grind
  have p := kk_pos
  have s1 := s.lo; have s2 := s.hi; have c1 := c.lo; have c2 := c.hi
  have a1 := nS.lo; have a2 := nS.hi; have b1 := nC.lo; have b2 := nC.hi
  by_cases hx : 0 ≤ x
  · have hk : k = 0 := by omega
    subst hk
    have ht : t = x := by omega
    subst ht
    refine ⟨S, C, eS, eC, ⟨kk_can ?_, kk_can ?_⟩, ⟨kk_can ?_, kk_can ?_⟩⟩
    · rw [Int.neg_mul, kT, Int.sub_mul, Int.mul_comm t kk]; omega
    · rw [kT, Int.sub_mul, Int.mul_comm t kk]; omega
    · rw [Int.neg_mul, kD, Int.sub_mul]; omega
    · rw [kD, Int.sub_mul]; omega
  · have hk : k = 3 := by omega
    subst hk
    have ht : t = 1727108826179 + x := by omega
    subst ht
    obtain ⟨q1, q2⟩ := quarter (x := x) ⟨by omega, by omega⟩
    have u1 := q1.lo; have u2 := q1.hi; have v1 := q2.lo; have v2 := q2.hi
    refine ⟨-C, S, eS, eC, ⟨kk_can ?_, kk_can ?_⟩, ⟨kk_can ?_, kk_can ?_⟩⟩
    · rw [Int.neg_mul, kT, Int.sub_mul, Int.neg_mul, Int.mul_comm x kk]; omega
    · rw [kT, Int.sub_mul, Int.neg_mul, Int.mul_comm x kk]; omega
    · rw [Int.neg_mul, kD, Int.sub_mul]; omega
    · rw [kD, Int.sub_mul]; omega
end Go.Proofs.Ytpceomcnknjiiaa
namespace Go.Proofs.Ytpceomcnknjiiaa

theorem sc_bd (a : Int) (h : numB a = true) : ∃ s c, sinA false a = (s, false) ∧ cosA false a = (c, false) ∧ Ab s 1099511627832 ∧ Ab c 1099511627832 := by
  obtain ⟨k, t, S, C, k0, k3, t0, t1, _, nS, nC, eS, eC⟩ := angle a h
  have o := (one_near (t := t) ⟨t0, by omega⟩ nS nC).1
  have q := sel_sq k S C ⟨k0, k3⟩
  refine ⟨_, _, eS, eC, ?_, ?_⟩
  · generalize selS k S C = s at q
    generalize selC k S C = c at q
    have c0 := sq_nonneg c
    have hb : s * s ≤ 1208925819614629174706176 + 111 * 1099511627776 + 18 := by omega
    refine ⟨?_, ?_⟩
    · apply Classical.byContradiction
      intro g
      have := Int.mul_le_mul (show 1099511627833 ≤ -s by omega) (show 1099511627833 ≤ -s by omega) (by decide) (by omega)
      rw [Int.neg_mul_neg] at this
      omega
    · apply Classical.byContradiction
      intro g
      have := Int.mul_le_mul (show 1099511627833 ≤ s by omega) (show 1099511627833 ≤ s by omega) (by decide) (by omega)
      omega
  · generalize selS k S C = s at q
    generalize selC k S C = c at q
    have c0 := sq_nonneg s
    have hb : c * c ≤ 1208925819614629174706176 + 111 * 1099511627776 + 18 := by omega
    refine ⟨?_, ?_⟩
    · apply Classical.byContradiction
      intro g
      have := Int.mul_le_mul (show 1099511627833 ≤ -c by omega) (show 1099511627833 ≤ -c by omega) (by decide) (by omega)
      rw [Int.neg_mul_neg] at this
      omega
    · apply Classical.byContradiction
      intro g
      have := Int.mul_le_mul (show 1099511627833 ≤ c by omega) (show 1099511627833 ≤ c by omega) (by decide) (by omega)
      omega
/-- x, put into Kepler's equation: g too much. -/
structure Res (m e x s p g : Int) : Prop where
  sn : sinA false x = (s, false)
  mu : mulS false e s = (p, false)
  s1 : subS false x p = (x - p, false)
  s2 : subS false (x - p) m = (g, false)
  eq : g = x - p - m
  sb : Ab s 1099511627832
  pr : Ab (2 * (p * 1099511627776 - e * s)) 1099511627776
  pb : Ab p 109951162790
structure KIn (m e : Int) : Prop where
  m0 : 0 ≤ m
  m1 : m ≤ 6908435304716
  e0 : 0 ≤ e
  e1 : e ≤ 109951162777
theorem res_at {m e x : Int} (K : KIn m e) (hx : Ab (x - m) 1099511627776) : ∃ s p, Res m e x s p (x - p - m) := by
  obtain ⟨m0, m1, e0, e1⟩ := K
  have x1 := hx.lo; have x2 := hx.hi
  obtain ⟨s, _, es, _, sb, _⟩ := sc_bd x (numB_of ⟨by omega, by omega⟩)
  have eb : Ab e 109951162777 := ⟨by omega, e1⟩
  obtain ⟨p, ep, pr⟩ := mul_near eb sb (by decide) (by decide)
  have es' := eb.mul sb
  have l := es'.lo; have u := es'.hi; have pl := pr.lo; have pu := pr.hi
  have pb : Ab p 109951162790 := ⟨by omega, by omega⟩
  have p1 := pb.lo; have p2 := pb.hi
  have xb : Ab x 17592186044416 := ⟨by omega, by omega⟩
  refine ⟨s, p, es, ep, sub_near xb pb (by decide) (by decide) (by decide), ?_, rfl, sb, pr, pb⟩
  exact sub_near (K := 17702137207206) (L := 6908435304716) ⟨by omega, by omega⟩ ⟨by omega, by omega⟩ (by decide) (by decide) (by decide)
/-- A round. -/
structure Rnd (x g c q δ e : Int) : Prop where
  cs : cosA false x = (c, false)
  mu : mulS false e c = (q, false)
  su : subS false 1099511627776 q = (1099511627776 - q, false)
  dv : divS false g (1099511627776 - q) = (δ, false)
  go : subS false x δ = (x - δ, false)
theorem kep_step {m e x s p g G X T D G' : Int} (K : KIn m e) (R : Res m e x s p g) (hg : Ab g G) (hX : X ≤ 274877906944) (hGX : 1112 * G + 1000 ≤ 1000 * X) (hT : X * X * X ≤ 6044629098073145873530880 * T) (hD : 51 * (X * X) ≤ 109951162777600 * D)
    (hDT : D + T ≤ 100000000000) (hG' : D + T + 500 ≤ 10 * G') : ∃ c q δ s' p' g', Rnd x g c q δ e ∧ Res m e (x - δ) s' p' g' ∧ Ab g' G' := by
  have K' := K
  obtain ⟨m0, m1, e0, e1⟩ := K
  have g1 := hg.lo; have g2 := hg.hi
  have p1 := R.pb.lo; have p2 := R.pb.hi
  have xg := R.eq
  have hxn : numB x = true := numB_of ⟨by omega, by omega⟩
  obtain ⟨s0, c, es0, ec, _, cb⟩ := sc_bd x hxn
  have eb : Ab e 109951162777 := ⟨by omega, e1⟩
  obtain ⟨q, eq, qr⟩ := mul_near eb cb (by decide) (by decide)
  have ecb := eb.mul cb
  have cl := ecb.lo; have cu := ecb.hi; have ql := qr.lo; have qu := qr.hi
  have qb : Ab q 109951162790 := ⟨by omega, by omega⟩
  have q1 := qb.lo; have q2 := qb.hi
  obtain ⟨δ, ed, d1, d2, _⟩ := partS_near g 1099511627776 (1099511627776 - q) (numB_of ⟨by omega, by omega⟩) (by rfl) (numB_of ⟨by omega, by omega⟩) (by omega) (by
    rw [show sz 1099511627776 = 1099511627776 by rfl]
    have : sz g ≤ G := sz_le ⟨g1, g2⟩
    omega)
  have δb : Ab δ X := by
    refine ⟨?_, ?_⟩
    · apply Classical.byContradiction
      intro h
      have h1 : X + 1 ≤ -δ := by omega
      have h2 := Int.mul_le_mul h1 (show (989560464986 : Int) ≤ 1099511627776 - q by omega) (by decide) (by omega)
      rw [Int.neg_mul] at h2
      omega
    · apply Classical.byContradiction
      intro h
      have h1 : X + 1 ≤ δ := by omega
      have h2 := Int.mul_le_mul h1 (show (989560464986 : Int) ≤ 1099511627776 - q by omega) (by decide) (by omega)
      omega
  have b1 := δb.lo; have b2 := δb.hi
  have xb : Ab x 17592186044416 := ⟨by omega, by omega⟩
  have hgo : subS false x δ = (x - δ, false) := sub_near xb (δb.le hX) (by decide) (by decide) (by decide)
  obtain ⟨s', p', R'⟩ := res_at K' (x := x - δ) ⟨by omega, by omega⟩
  obtain ⟨t, d, et, ed', τb, κb⟩ := small_sin (x := -δ) (X := X) ⟨by omega, by omega⟩ hX hT hD
  obtain ⟨sa, ca, ta, da, xa, _, f1, f2, f3, f4, f5, _, sm, _⟩ := sum_any x (-δ) hxn (numB_of ⟨by omega, by omega⟩) (numB_of ⟨by omega, by omega⟩)
  rw [R.sn] at f1
  rw [ec] at f2
  rw [et] at f3
  rw [ed'] at f4
  rw [show x + -δ = x - δ by omega, R'.sn] at f5
  simp only [Prod.mk.injEq, and_true] at f1 f2 f3 f4 f5
  subst f1 f2 f3 f4 f5
  refine ⟨c, q, δ, s', p', _, ⟨ec, eq, sub_near ⟨by decide, by decide⟩ qb (K := 1099511627776) (by decide) (by decide) (by decide), ed, hgo⟩, R', ?_⟩
  -- how much is too much
  have key : 2 * 1208925819614629174706176 * (x - δ - p' - m) = -(1099511627776 * (2 * (δ * (1099511627776 - q)) - 2 * (g * 1099511627776))) - 1099511627776 * (2 * (p' * 1099511627776 - e * s') - 2 * (p * 1099511627776 - e * s)) - 2 * (e * ((1099511627776 * s' - (s * d + c * t)) + s * (d - 1099511627776) + c * (t - -δ))) - 2 * (q * 1099511627776 - e * c) * δ := by
    rw [xg]
    grind
  have Z : Ab ((1099511627776 * s' - (s * d + c * t)) + s * (d - 1099511627776) + c * (t - -δ)) (274877906944000 + 1099511627832 * (D + 25) + 1099511627832 * (T + 100)) := by
    have a : Ab (1099511627776 * s' - (s * d + c * t)) 274877906944000 := ⟨sm.1, sm.2⟩
    exact (a.add (R.sb.mul κb)).add (cb.mul τb)
  have EZ := eb.mul Z
  have ZX := qr.mul δb
  have a1 := R'.pr.lo; have a2 := R'.pr.hi; have a3 := R.pr.lo; have a4 := R.pr.hi
  have z1 := EZ.lo; have z2 := EZ.hi; have y1 := ZX.lo; have y2 := ZX.hi
  generalize e * ((1099511627776 * s' - (s * d + c * t)) + s * (d - 1099511627776) + c * (t - -δ)) = V at key z1 z2
  generalize 2 * (q * 1099511627776 - e * c) * δ = Y at key y1 y2
  generalize 2 * (p' * 1099511627776 - e * s') = A1 at key a1 a2
  generalize 2 * (p * 1099511627776 - e * s) = A2 at key a3 a4
  generalize δ * (1099511627776 - q) = B1 at key d1 d2
  refine ⟨?_, ?_⟩
  · omega
  · omega
/-- What six rounds work, one behind the other. -/
def Six (m e : Int) : Nat → Int → Prop
  | 0, y => y = m
  | n + 1, y => ∃ x s p g c q δ, Six m e n x ∧ Res m e x s p g ∧ Rnd x g c q δ e ∧ y = x - δ
theorem six_zero {m e : Int} : Six m e 0 m := rfl
theorem six_more {m e : Int} {n : Nat} {x s p g c q δ : Int} (h : Six m e n x) (R : Res m e x s p g) (N : Rnd x g c q δ e) : Six m e (n + 1) (x - δ) := ⟨x, s, p, g, c, q, δ, h, R, N, rfl⟩
/-- Kepler's angle: six rounds from m on, and what it makes of his equation. -/
theorem kepler_math {m e : Int} (K : KIn m e) : ∃ x s p g, Six m e 6 x ∧ Res m e x s p g ∧ Ab g 51 := by
  obtain ⟨s0, p0, R0⟩ := res_at K (x := m) ⟨by omega, by omega⟩
  have p1 := R0.pb.lo; have p2 := R0.pb.hi
  have g0 : Ab (m - p0 - m) 109951162800 := ⟨by omega, by omega⟩
  obtain ⟨c1, q1, d1, s1, p1', g1, N1, R1, b1⟩ := kep_step (X := 122300000000) (T := 302700000) (D := 6940000000) (G' := 724300000) K R0 g0 (by decide) (by decide) (by decide) (by decide) (by decide) (by decide)
  obtain ⟨c2, q2, d2, s2, p2', g2, N2, R2, b2⟩ := kep_step (X := 805500000) (T := 87) (D := 301000) (G' := 30160) K R1 b1 (by decide) (by decide) (by decide) (by decide) (by decide) (by decide)
  obtain ⟨c3, q3, d3, s3, p3, g3, N3, R3, b3⟩ := kep_step (X := 33540) (T := 1) (D := 1) (G' := 51) K R2 b2 (by decide) (by decide) (by decide) (by decide) (by decide) (by decide)
  obtain ⟨c4, q4, d4, s4, p4, g4, N4, R4, b4⟩ := kep_step (X := 58) (T := 1) (D := 1) (G' := 51) K R3 b3 (by decide) (by decide) (by decide) (by decide) (by decide) (by decide)
  obtain ⟨c5, q5, d5, s5, p5, g5, N5, R5, b5⟩ := kep_step (X := 58) (T := 1) (D := 1) (G' := 51) K R4 b4 (by decide) (by decide) (by decide) (by decide) (by decide) (by decide)
  obtain ⟨c6, q6, d6, s6, p6, g6, N6, R6, b6⟩ := kep_step (X := 58) (T := 1) (D := 1) (G' := 51) K R5 b5 (by decide) (by decide) (by decide) (by decide) (by decide) (by decide)
  exact ⟨_, s6, p6, g6, six_more (six_more (six_more (six_more (six_more (six_more six_zero R0 N1) R1 N2) R2 N3) R3 N4) R4 N5) R5 N6, R6, b6⟩
end Go.Proofs.Ytpceomcnknjiiaa
namespace Go.Proofs.Ytpceomcnknjiiaa

theorem ab_of_sq {a K : Int} (hK : 0 ≤ K) (h : a * a ≤ K * K) : Ab a K := by
  refine ⟨?_, ?_⟩
  · apply Classical.byContradiction
    intro g
    have := Int.mul_le_mul (show K + 1 ≤ -a by omega) (show K + 1 ≤ -a by omega) (by omega) (by omega)
    rw [Int.neg_mul_neg] at this
    have e : (K + 1) * (K + 1) = K * K + 2 * K + 1 := by grind
    omega
  · apply Classical.byContradiction
    intro g
    have := Int.mul_le_mul (show K + 1 ≤ a by omega) (show K + 1 ≤ a by omega) (by omega) (by omega)
    have e : (K + 1) * (K + 1) = K * K + 2 * K + 1 := by grind
    omega
/-- What is turned is as long as it was. -/
theorem rot_sq {u v c s a b : Int} (hM : u * u + v * v ≤ 120892581961462917470617600) (cb : Ab c 1099511627832) (sb : Ab s 1099511627832) (hcs : Ab (c * c + s * s - 1208925819614629174706176) 123145302310912)
    (ha : Ab (1099511627776 * a - (u * c - v * s)) 1099511627776) (hb : Ab (1099511627776 * b - (u * s + v * c)) 1099511627776) : Ab (a * a + b * b - (u * u + v * v)) 12457466742702080 := by
  have u0 := sq_nonneg u
  have v0 := sq_nonneg v
  have ub : Ab u 10995116277760 := ab_of_sq (by decide) (by omega)
  have vb : Ab v 10995116277760 := ab_of_sq (by decide) (by omega)
  have P := (ub.mul cb).sub (vb.mul sb)
  have Q := (ub.mul sb).add (vb.mul cb)
  have PA : Ab (u * c - v * s + 1099511627776 * a) (2 * (10995116277760 * 1099511627832 + 10995116277760 * 1099511627832) + 1099511627776) := by
    have p1 := P.lo; have p2 := P.hi; have h1 := ha.lo; have h2 := ha.hi
    exact ⟨by omega, by omega⟩
  have QB : Ab (u * s + v * c + 1099511627776 * b) (2 * (10995116277760 * 1099511627832 + 10995116277760 * 1099511627832) + 1099511627776) := by
    have p1 := Q.lo; have p2 := Q.hi; have h1 := hb.lo; have h2 := hb.hi
    exact ⟨by omega, by omega⟩
  have t1 := ha.mul PA
  have t2 := hb.mul QB
  have uv : Ab (u * u + v * v) 120892581961462917470617600 := ⟨by omega, hM⟩
  have t3 := uv.mul hcs
  have key : 1208925819614629174706176 * (a * a + b * b - (u * u + v * v)) = (u * u + v * v) * (c * c + s * s - 1208925819614629174706176) + (1099511627776 * a - (u * c - v * s)) * (u * c - v * s + 1099511627776 * a) + (1099511627776 * b - (u * s + v * c)) * (u * s + v * c + 1099511627776 * b) := by grind
  have l1 := t1.lo; have h1 := t1.hi; have l2 := t2.lo; have h2 := t2.hi; have l3 := t3.lo; have h3 := t3.hi
  generalize (u * u + v * v) * (c * c + s * s - 1208925819614629174706176) = X at key l3 h3
  generalize (1099511627776 * a - (u * c - v * s)) * (u * c - v * s + 1099511627776 * a) = Y at key l1 h1
  generalize (1099511627776 * b - (u * s + v * c)) * (u * s + v * c + 1099511627776 * b) = Z at key l2 h2
  generalize a * a + b * b - (u * u + v * v) = W at key
  exact ⟨by omega, by omega⟩
/-- In its plane: what is worked, step by step. -/
structure Flat (A E c s e2 r w1 u v : Int) : Prop where
  A1 : 7146825580544 ≤ A
  A2 : A ≤ 9211859050600
  E1 : 0 ≤ E
  E2 : E ≤ 109951162777
  cb : Ab c 1099511627832
  sb : Ab s 1099511627832
  cs : Ab (c * c + s * s - 1208925819614629174706176) 123145302310912
  eu : Ab (2 * (u * 1099511627776 - A * (c - E))) 1099511627776
  ee : Ab (2 * (e2 * 1099511627776 - E * E)) 1099511627776
  r0 : 0 ≤ r
  r1 : r * r ≤ (1099511627776 - e2) * 1099511627776
  r2 : (1099511627776 - e2) * 1099511627776 < (r + 1) * (r + 1)
  ew : Ab (2 * (w1 * 1099511627776 - A * r)) 1099511627776
  ev : Ab (2 * (v * 1099511627776 - w1 * s)) 1099511627776
/-- How far it is by the ellipse. -/
def lam (A E c : Int) : Int := A * (1208925819614629174706176 - E * c)
theorem Flat.root {A E c s e2 r w1 u v : Int} (F : Flat A E c s e2 r w1 u v) : r ≤ 1099511627776 ∧ Ab (r * r - (1208925819614629174706176 - E * E)) 3298534883328 := by
  have ee := F.ee.lo; have ee' := F.ee.hi
  have EE := sq_nonneg E
  have e0 : 0 ≤ e2 := by omega
  have r0 := F.r0; have r1 := F.r1; have r2 := F.r2
  have rb : Ab r 1099511627776 := ab_of_sq (by decide) (by omega)
  have r3 := rb.hi
  have e : (r + 1) * (r + 1) = r * r + 2 * r + 1 := by grind
  rw [e] at r2
  exact ⟨r3, by omega, by omega⟩
theorem Flat.lamb {A E c s e2 r w1 u v : Int} (F : Flat A E c s e2 r w1 u v) : Ab (lam A E c) 12361820360799717618005405660607204556 := by
  have A1 := F.A1; have A2 := F.A2; have E1 := F.E1; have E2 := F.E2
  have a : Ab A 9211859050600 := ⟨by omega, A2⟩
  have ec := (show Ab E 109951162777 from ⟨by omega, E2⟩).mul F.cb
  have d : Ab (1208925819614629174706176 - E * c) (1208925819614629174706176 + 109951162777 * 1099511627832) := by
    have := ec.lo; have := ec.hi
    exact ⟨by omega, by omega⟩
  exact (a.mul d).le (by decide)
theorem flat_sq {A E c s e2 r w1 u v : Int} (F : Flat A E c s e2 r w1 u v) : Ab (1461501637330902918203684832716283019655932542976 * (u * u + v * v) - lam A E c * lam A E c) 13176891962923720259444089157197533340682064549018901249471283200 := by
  obtain ⟨rh, ρ⟩ := F.root
  have A1 := F.A1; have A2 := F.A2; have E1 := F.E1; have E2 := F.E2
  have a : Ab A 9211859050600 := ⟨by omega, A2⟩
  have e : Ab E 109951162777 := ⟨by omega, E2⟩
  have rb : Ab r 1099511627776 := ⟨by have := F.r0; omega, rh⟩
  have EE := e.mul e
  have oe : Ab (1208925819614629174706176 - E * E) 1208925819614629174706176 := by
    have := EE.hi; have := sq_nonneg E
    exact ⟨by omega, by omega⟩
  have k1 := (a.mul a).mul ((oe.mul F.cs).add (ρ.mul (F.sb.mul F.sb)))
  have ce := a.mul (F.cb.sub e)
  have ou : Ab (u * 1099511627776 + A * (c - E)) (2 * (9211859050600 * (1099511627832 + 109951162777)) + 1099511627776) := by
    have := ce.lo; have := ce.hi; have := F.eu.lo; have := F.eu.hi
    exact ⟨by omega, by omega⟩
  have k2 := F.eu.mul ou
  have η : Ab (2 * (1208925819614629174706176 * v - A * r * s)) 2417851639290831000567808 := by
    have h1 := F.ev; have h2 := F.ew.mul F.sb
    have l1 := h1.lo; have u1 := h1.hi; have l2 := h2.lo; have u2 := h2.hi
    have e1 : 2 * (1208925819614629174706176 * v - A * r * s) = 1099511627776 * (2 * (v * 1099511627776 - w1 * s)) + 2 * (w1 * 1099511627776 - A * r) * s := by grind
    rw [e1]
    exact ⟨by omega, by omega⟩
  have ars := (a.mul rb).mul F.sb
  have ov : Ab (1208925819614629174706176 * v + A * r * s) (2 * (9211859050600 * 1099511627776 * 1099511627832) + 2417851639290831000567808) := by
    have := ars.lo; have := ars.hi; have := η.lo; have := η.hi
    exact ⟨by omega, by omega⟩
  have k3 := η.mul ov
  have key : 2 * (1461501637330902918203684832716283019655932542976 * (u * u + v * v) - lam A E c * lam A E c) = 2 * (A * A * ((1208925819614629174706176 - E * E) * (c * c + s * s - 1208925819614629174706176) + (r * r - (1208925819614629174706176 - E * E)) * (s * s))) + 1208925819614629174706176 * (2 * (u * 1099511627776 - A * (c - E)) * (u * 1099511627776 + A * (c - E))) + 2 * (1208925819614629174706176 * v - A * r * s) * (1208925819614629174706176 * v + A * r * s) := by
    unfold lam
    grind
  have l1 := k1.lo; have u1 := k1.hi; have l2 := k2.lo; have u2 := k2.hi; have l3 := k3.lo; have u3 := k3.hi
  generalize A * A * ((1208925819614629174706176 - E * E) * (c * c + s * s - 1208925819614629174706176) + (r * r - (1208925819614629174706176 - E * E)) * (s * s)) = X at key l1 u1
  generalize 2 * (u * 1099511627776 - A * (c - E)) * (u * 1099511627776 + A * (c - E)) = Y at key l2 u2
  generalize 2 * (1208925819614629174706176 * v - A * r * s) * (1208925819614629174706176 * v + A * r * s) = Z at key l3 u3
  generalize 1461501637330902918203684832716283019655932542976 * (u * u + v * v) - lam A E c * lam A E c = W at key ⊢
  exact ⟨by omega, by omega⟩
theorem flat_bd {A E c s e2 r w1 u v : Int} (F : Flat A E c s e2 r w1 u v) : u * u + v * v ≤ 114847952863389771597086720 := by
  have h := (flat_sq F).hi
  have k := (F.lamb.mul F.lamb).hi
  omega
end Go.Proofs.Ytpceomcnknjiiaa
namespace Go.Proofs.Ytpceomcnknjiiaa

theorem partS_true (a p q : Int) : partS true a p q = (0, true) := partS_no (tk_true _)
theorem sqrtS_true (a : Int) : sqrtS true a = (0, true) := sqrtS_no (tk_true _)
theorem modS_true (a m : Int) : modS true a m = (0, true) := modS_no (tk_true _)
theorem cDaysS_true (t : Int) : cDaysS true t = (0, true) := by
  unfold cDaysS
  split
  · exact partS_true _ _ _
  · rfl
end Go.Proofs.Ytpceomcnknjiiaa
namespace Go.Proofs.Ytpceomcnknjiiaa

theorem lam_lo {A E c s e2 r w1 u v near : Int} (F : Flat A E c s e2 r w1 u v) (hn : Ab (2 * (near * 1099511627776 - A * (1099511627776 - E))) 1099511627776) : 1208925819614629174706176 * (near - 48) ≤ lam A E c := by
  have A1 := F.A1; have A2 := F.A2; have E1 := F.E1; have E2 := F.E2
  have ae : Ab (A * E) (9211859050600 * 109951162777) := (show Ab A 9211859050600 from ⟨by omega, A2⟩).mul ⟨by omega, E2⟩
  have p := Int.mul_nonneg (Int.mul_nonneg (show 0 ≤ A by omega) E1) (show 0 ≤ 1099511627776 - c + 56 by have := F.cb.hi; omega)
  have e : A * E * (1099511627776 - c + 56) = lam A E c - 1099511627776 * (A * (1099511627776 - E)) + 56 * (A * E) := by unfold lam; grind
  rw [e] at p
  have := ae.hi; have := hn.hi
  generalize lam A E c = Λ at p ⊢
  generalize A * (1099511627776 - E) = Y at *
  generalize A * E = Z at *
  omega
theorem lam_hi {A E c s e2 r w1 u v far : Int} (F : Flat A E c s e2 r w1 u v) (hf : Ab (2 * (far * 1099511627776 - A * (1099511627776 + E))) 1099511627776) : lam A E c ≤ 1208925819614629174706176 * (far + 48) := by
  have A1 := F.A1; have A2 := F.A2; have E1 := F.E1; have E2 := F.E2
  have ae : Ab (A * E) (9211859050600 * 109951162777) := (show Ab A 9211859050600 from ⟨by omega, A2⟩).mul ⟨by omega, E2⟩
  have p := Int.mul_nonneg (Int.mul_nonneg (show 0 ≤ A by omega) E1) (show 0 ≤ 1099511627776 + c + 56 by have := F.cb.lo; omega)
  have e : A * E * (1099511627776 + c + 56) = 1099511627776 * (A * (1099511627776 + E)) - lam A E c + 56 * (A * E) := by unfold lam; grind
  rw [e] at p
  have := ae.hi; have := hf.lo
  generalize lam A E c = Λ at p ⊢
  generalize A * (1099511627776 + E) = Y at *
  generalize A * E = Z at *
  omega
theorem far_near {A E c s e2 r w1 u v near far N S : Int} (F : Flat A E c s e2 r w1 u v) (hS : Ab (S - (u * u + v * v)) 37372400228106240) (h0 : 0 ≤ N) (h1 : N * N ≤ S) (h2 : S < (N + 1) * (N + 1))
    (hn : Ab (2 * (near * 1099511627776 - A * (1099511627776 - E))) 1099511627776) (hf : Ab (2 * (far * 1099511627776 - A * (1099511627776 + E))) 1099511627776) (n1 : 7232738120604 ≤ near) (f1 : 7000000000000 ≤ far) : near - 65536 ≤ N ∧ N ≤ far + 65536 := by
  have q := flat_sq F
  have ql := q.lo; have qu := q.hi; have sl := hS.lo; have su := hS.hi
  have ll := lam_lo F hn
  have lh := lam_hi F hf
  refine ⟨?_, ?_⟩
  · apply Classical.byContradiction
    intro g
    have m1 := Int.mul_le_mul (show N + 1 ≤ near - 65536 by omega) (show N + 1 ≤ near - 65536 by omega) (by omega) (by omega)
    have m2 := Int.mul_le_mul ll ll (by omega) (by omega)
    have e1 : (near - 65536) * (near - 65536) = near * near - 131072 * near + 4294967296 := by grind
    have e2 : 1208925819614629174706176 * (near - 48) * (1208925819614629174706176 * (near - 48)) = 1461501637330902918203684832716283019655932542976 * (near * near) - 1461501637330902918203684832716283019655932542976 * (96 * near) + 1461501637330902918203684832716283019655932542976 * 2304 := by grind
    rw [e1] at m1
    rw [e2] at m2
    generalize lam A E c * lam A E c = Λ at *
    generalize near * near = Y at *
    generalize (N + 1) * (N + 1) = M at *
    omega
  · apply Classical.byContradiction
    intro g
    have l0 : 0 ≤ lam A E c := by omega
    have m1 := Int.mul_le_mul (show far + 65537 ≤ N by omega) (show far + 65537 ≤ N by omega) (by omega) (by omega)
    have m2 := Int.mul_le_mul lh lh l0 (by omega)
    have e1 : (far + 65537) * (far + 65537) = far * far + 131074 * far + 4295098369 := by grind
    have e2 : 1208925819614629174706176 * (far + 48) * (1208925819614629174706176 * (far + 48)) = 1461501637330902918203684832716283019655932542976 * (far * far) + 1461501637330902918203684832716283019655932542976 * (96 * far) + 1461501637330902918203684832716283019655932542976 * 2304 := by grind
    rw [e1] at m1
    rw [e2] at m2
    generalize lam A E c * lam A E c = Λ at *
    generalize far * far = Y at *
    generalize N * N = M at *
    omega
/-- A sine and a cosine of one angle. -/
structure Sc (s c : Int) : Prop where
  sb : Ab s 1099511627832
  cb : Ab c 1099511627832
  cs : Ab (c * c + s * s - 1208925819614629174706176) 123145302310912
theorem sc_at (a : Int) (h : numB a = true) : ∃ s c, sinA false a = (s, false) ∧ cosA false a = (c, false) ∧ Sc s c := by
  obtain ⟨s, c, es, ec, sb, cb⟩ := sc_bd a h
  refine ⟨s, c, es, ec, sb, cb, ?_⟩
  obtain ⟨k, t, S, C, k0, k3, t0, t1, _, nS, nC, eS, eC⟩ := angle a h
  have o := one_near (t := t) ⟨t0, by omega⟩ nS nC
  have q := sel_sq k S C ⟨k0, k3⟩
  rw [es] at eS
  rw [ec] at eC
  simp only [Prod.mk.injEq, and_true] at eS eC
  rw [← eS, ← eC] at q
  exact ⟨by omega, by omega⟩
/-- Turned by an angle: a, b of u, v; m1 .. m4 the products. -/
structure Trn (u v s c m1 m2 m3 m4 : Int) : Prop where
  p1 : Ab (2 * (m1 * 1099511627776 - u * c)) 1099511627776
  p2 : Ab (2 * (m2 * 1099511627776 - v * s)) 1099511627776
  p3 : Ab (2 * (m3 * 1099511627776 - u * s)) 1099511627776
  p4 : Ab (2 * (m4 * 1099511627776 - v * c)) 1099511627776
theorem Trn.sq {u v s c m1 m2 m3 m4 : Int} (T : Trn u v s c m1 m2 m3 m4) (Z : Sc s c) (hM : u * u + v * v ≤ 120892581961462917470617600) : Ab ((m1 - m2) * (m1 - m2) + (m3 + m4) * (m3 + m4) - (u * u + v * v)) 12457466742702080 := by
  have a1 := T.p1.lo; have b1 := T.p1.hi; have a2 := T.p2.lo; have b2 := T.p2.hi; have a3 := T.p3.lo; have b3 := T.p3.hi; have a4 := T.p4.lo; have b4 := T.p4.hi
  exact rot_sq hM Z.cb Z.sb Z.cs ⟨by omega, by omega⟩ ⟨by omega, by omega⟩
/-- All three turns: the peri's, the plane's, the node's. -/
theorem turned_sq {u v sq cq si ci sn cn m1 m2 m3 m4 bc z m5 m6 m7 m8 : Int} (hM : u * u + v * v ≤ 114847952863389771597086720) (T1 : Trn u v sq cq m1 m2 m3 m4) (Z1 : Sc sq cq)
    (hbc : Ab (2 * (bc * 1099511627776 - (m3 + m4) * ci)) 1099511627776) (hz : Ab (2 * (z * 1099511627776 - (m3 + m4) * si)) 1099511627776) (Z2 : Sc si ci) (T3 : Trn (m1 - m2) bc sn cn m5 m6 m7 m8) (Z3 : Sc sn cn) :
    Ab ((m5 - m6) * (m5 - m6) + (m7 + m8) * (m7 + m8) + z * z - (u * u + v * v)) 37372400228106240 := by
  have h1 := T1.sq Z1 (by omega)
  have l1 := h1.lo; have u1 := h1.hi
  have a0 := sq_nonneg (m1 - m2)
  have b0 := sq_nonneg (m3 + m4)
  generalize m1 - m2 = a at *
  generalize m3 + m4 = b at *
  have z0 := sq_nonneg z
  have h2 : Ab (bc * bc + z * z - (b * b + 0 * 0)) 12457466742702080 := rot_sq (u := b) (v := 0) (by omega) Z2.cb Z2.sb Z2.cs (by have := hbc.lo; have := hbc.hi; exact ⟨by omega, by omega⟩) (by have := hz.lo; have := hz.hi; exact ⟨by omega, by omega⟩)
  have l2 := h2.lo; have u2 := h2.hi
  have h3 := T3.sq Z3 (by omega)
  have l3 := h3.lo; have u3 := h3.hi
  generalize (m5 - m6) * (m5 - m6) + (m7 + m8) * (m7 + m8) = W at *
  exact ⟨by omega, by omega⟩
end Go.Proofs.Ytpceomcnknjiiaa
namespace Go.Proofs.Ytpceomcnknjiiaa

theorem mul_x {a b K L B : Int} (ha : Ab a K) (hb : Ab b L) (h : K * L ≤ 2535301200456458802993406410752) (hK : K ≤ 4611686018427387904) (hL : L ≤ 4611686018427387904) (hB : 2 * (K * L) + 1099511627776 ≤ 2 * (B * 1099511627776)) : ∃ m, mulS false a b = (m, false) ∧ Ab (2 * (m * 1099511627776 - a * b)) 1099511627776 ∧ Ab m B := by
  obtain ⟨m, e, h1, h2, _⟩ := mulS_near a b (ha.numB hK) (hb.numB hL) (by
    have s1 := sz_le ⟨ha.lo, ha.hi⟩
    have s2 := sz_le ⟨hb.lo, hb.hi⟩
    have k0 : 0 ≤ K := by have := ha.lo; have := ha.hi; omega
    have := Int.mul_le_mul s1 s2 (le_sz b).2.2 k0
    omega)
  have p := ha.mul hb
  have p1 := p.lo; have p2 := p.hi
  exact ⟨m, e, ⟨by omega, by omega⟩, ⟨by omega, by omega⟩⟩
theorem div_x {a d K lo hi B : Int} (ha : Ab a K) (h1 : lo ≤ d) (h2 : d ≤ hi) (hl : 0 < lo) (hK : K ≤ 4611686018427387904) (hh : hi ≤ 4611686018427387904) (h : K * 1099511627776 ≤ lo * 2305843009213693952) (hB : 2 * (K * 1099511627776) < (2 * B + 1) * lo) (B0 : 0 ≤ B) :
    ∃ m, divS false a d = (m, false) ∧ Ab (2 * (m * d - a * 1099511627776)) d ∧ Ab m B := by
  obtain ⟨m, e, d1, d2, _⟩ := partS_near a 1099511627776 d (ha.numB hK) (by rfl) (numB_of ⟨by omega, by omega⟩) (by omega) (by
    rw [show sz 1099511627776 = 1099511627776 by rfl]
    have := sz_le ⟨ha.lo, ha.hi⟩
    have := Int.mul_le_mul_of_nonneg_right h1 (show (0 : Int) ≤ 2305843009213693952 by decide)
    omega)
  have a1 := ha.lo; have a2 := ha.hi
  refine ⟨m, e, ⟨by omega, by omega⟩, ⟨?_, ?_⟩⟩
  · apply Classical.byContradiction
    intro g
    have q := Int.mul_le_mul (show 2 * B + 1 ≤ -2 * m - 1 by omega) h1 (by omega) (by omega)
    have e : (-2 * m - 1) * d = -(2 * (m * d)) - d := by grind
    rw [e] at q
    omega
  · apply Classical.byContradiction
    intro g
    have q := Int.mul_le_mul (show 2 * B + 1 ≤ 2 * m - 1 by omega) h1 (by omega) (by omega)
    have e : (2 * m - 1) * d = 2 * (m * d) - d := by grind
    rw [e] at q
    omega
theorem sqrt_x {a K B : Int} (h0 : 0 ≤ a) (hK : a ≤ K) (h : K ≤ 4611686018427387904) (hB : K * 1099511627776 < (B + 1) * (B + 1)) (B0 : 0 ≤ B) (hB' : B ≤ 4611686018427387904) :
    ∃ r, sqrtS false a = (r, false) ∧ 0 ≤ r ∧ r ≤ B ∧ r * r ≤ a * 1099511627776 ∧ a * 1099511627776 < (r + 1) * (r + 1) := by
  have hs := isq_spec (a * 1099511627776) (by omega) (by omega)
  have hb : isq (a * 1099511627776) ≤ B := by
    apply Classical.byContradiction
    intro g
    have := Int.mul_le_mul (show B + 1 ≤ isq (a * 1099511627776) by omega) (show B + 1 ≤ isq (a * 1099511627776) by omega) (by omega) (by omega)
    omega
  refine ⟨isq (a * 1099511627776), ?_, hs.1, hb, hs.2.1, hs.2.2⟩
  rw [sqrtS_yes (by simp [tk, show numB a = true from numB_of ⟨by omega, by omega⟩]) h0]
  unfold out sgnd
  rw [decide_eq_false (by omega), if_pos (by omega)]
  simp only [Bool.false_eq_true, if_false]
theorem mul_get {a b m : Int} (h : mulS false a b = (m, false)) : Ab (2 * (m * 1099511627776 - a * b)) 1099511627776 := by
  cases c : tk false [a, b]
  · rw [mulS_no c] at h; simp at h
  · rw [mulS_yes c] at h
    unfold out sgnd at h
    simp only [Prod.mk.injEq, decide_eq_false_iff_not] at h
    obtain ⟨h1, h2⟩ := h
    rw [if_pos (by omega)] at h1
    have e : sz a * sz b = a * b ∧ (decide (a < 0) != decide (b < 0)) = false ∨ sz a * sz b = -(a * b) ∧ (decide (a < 0) != decide (b < 0)) = true := by
      unfold sz
      by_cases h3 : a < 0 <;> by_cases h4 : b < 0 <;> simp [h3, h4, Int.neg_mul, Int.mul_neg]
    rcases e with ⟨e1, e2⟩ | ⟨e1, e2⟩
    · rw [e1] at h1 h2
      rw [e2] at h1
      simp at h1
      subst h1
      exact ⟨by omega, by omega⟩
    · rw [e1] at h1 h2
      rw [e2] at h1
      simp at h1
      subst h1
      exact ⟨by omega, by omega⟩
end Go.Proofs.Ytpceomcnknjiiaa
namespace Go.Proofs.Ytpceomcnknjiiaa

theorem right_A {A E low high : Int} (E1 : 0 ≤ E) (E2 : E ≤ 109951162777) (hl : mulS false A (1099511627776 - E) = (low, false)) (hh : mulS false A (1099511627776 + E) = (high, false)) (l1 : 7232738120604 ≤ low) (h1 : high ≤ 9211859050600) : 7146825580544 ≤ A ∧ A ≤ 9211859050600 := by
  have a := mul_get hl
  have b := mul_get hh
  have a2 := a.hi; have b1 := b.lo
  have A0 : 0 ≤ A := by
    apply Classical.byContradiction
    intro g
    have := Int.mul_nonneg (show 0 ≤ -A by omega) (show 0 ≤ 1099511627776 - E by omega)
    rw [Int.neg_mul] at this
    omega
  have p1 := Int.mul_nonneg A0 E1
  have e1 : A * (1099511627776 - E) = 1099511627776 * A - A * E := by grind
  have e2 : A * (1099511627776 + E) = 1099511627776 * A + A * E := by grind
  rw [e1] at a2
  rw [e2] at b1
  exact ⟨by omega, by omega⟩
/-- The angles of a place, step by step. -/
structure Angles (A E I Node Peri M d : Int) : Type where
  (n1 n2 n e2 r rr p k1 k2 k3 k s c t kc kcd t5 ky kyd kr t3 w mm : Int)
  hn1 : divS false 3271636820114455529 A = (n1, false)
  hn2 : sqrtS false n1 = (n2, false)
  hn : divS false n2 A = (n, false)
  he2 : mulS false E E = (e2, false)
  hoe : subS false 1099511627776 e2 = (1099511627776 - e2, false)
  hr : sqrtS false (1099511627776 - e2) = (r, false)
  hrr : mulS false r r = (rr, false)
  hp : mulS false A rr = (p, false)
  hk1 : divS false 7012835795048 p = (k1, false)
  hk2 : mulS false k1 k1 = (k2, false)
  hk3 : mulS false 1785540935 k2 = (k3, false)
  hk : mulS false k3 n = (k, false)
  hs : sinA false I = (s, false)
  hc : cosA false I = (c, false)
  sc : Sc s c
  ht : mulS false s s = (t, false)
  hkc : mulS false k c = (kc, false)
  hkcd : mulS false kc d = (kcd, false)
  hnode : subS false Node kcd = (Node - kcd, false)
  nnode : numB (Node - kcd) = true
  ht5 : partS false t 5 2 = (t5, false)
  hy5 : subS false 2199023255552 t5 = (2199023255552 - t5, false)
  hky : mulS false k (2199023255552 - t5) = (ky, false)
  hkyd : mulS false ky d = (kyd, false)
  hperi : addS false Peri kyd = (Peri + kyd, false)
  nperi : numB (Peri + kyd) = true
  hkr : mulS false k r = (kr, false)
  ht3 : partS false t 3 2 = (t3, false)
  hy3 : subS false 1099511627776 t3 = (1099511627776 - t3, false)
  hw : mulS false kr (1099511627776 - t3) = (w, false)
  hnw : addS false n w = (n + w, false)
  hmm : mulS false (n + w) d = (mm, false)
  hMm : addS false M mm = (M + mm, false)
  hm : modS false (M + mm) 6908435304716 = ((M + mm) % 6908435304716, false)
  ee : Ab (2 * (e2 * 1099511627776 - E * E)) 1099511627776
  r0 : 0 ≤ r
  ro : r ≤ 1099511627776
  r1 : r * r ≤ (1099511627776 - e2) * 1099511627776
  r2 : (1099511627776 - e2) * 1099511627776 < (r + 1) * (r + 1)
theorem angles_at {A E I Node Peri M d : Int} (A1 : 7146825580544 ≤ A) (A2 : A ≤ 9211859050600) (E1 : 0 ≤ E) (E2 : E ≤ 109951162777) (hI : Ab I 6908435304716) (hN : Ab Node 6908435304716) (hP : Ab Peri 6908435304716) (hM : Ab M 6908435304716) (hd : Ab d 2007708232318976) : Nonempty (Angles A E I Node Peri M d) := by
  have aA : Ab A 9211859050600 := ⟨by omega, A2⟩
  have aE : Ab E 109951162777 := ⟨by omega, E2⟩
  obtain ⟨n1, hn1, q1, b1⟩ := div_x (a := 3271636820114455529) (K := 3271636820114455529) (B := 503328741556070082) ⟨by decide, by decide⟩ A1 A2 (by decide) (by decide) (by decide) (by decide) (by decide) (by decide)
  have n10 : 0 ≤ n1 := by
    apply Classical.byContradiction
    intro g
    have := Int.mul_nonneg (show 0 ≤ -n1 by omega) (show 0 ≤ A by omega)
    rw [Int.neg_mul] at this
    have := q1.lo
    omega
  obtain ⟨n2, hn2, n20, n2b, _, _⟩ := sqrt_x (B := 743919218688939) n10 b1.hi (by decide) (by decide) (by decide) (by decide)
  have an2 : Ab n2 743919218688939 := ⟨by omega, n2b⟩
  obtain ⟨n, hn, _, nb⟩ := div_x (B := 114449110567530) an2 A1 A2 (by decide) (by decide) (by decide) (by decide) (by decide) (by decide)
  obtain ⟨e2, he2, ee, e2b⟩ := mul_x (B := 10995116279) aE aE (by decide) (by decide) (by decide) (by decide)
  have e2l : 0 ≤ e2 := by have := ee.lo; have := sq_nonneg E; omega
  have e2u := e2b.hi
  have hoe : subS false 1099511627776 e2 = (1099511627776 - e2, false) := sub_near (K := 1099511627776) ⟨by decide, by decide⟩ e2b (by decide) (by decide) (by decide)
  obtain ⟨r, hr, r0, ro, r1, r2⟩ := sqrt_x (a := 1099511627776 - e2) (K := 1099511627776) (B := 1099511627776) (by omega) (by omega) (by decide) (by decide) (by decide) (by decide)
  have rl : 1094000256588 ≤ r := by
    apply Classical.byContradiction
    intro g
    have := Int.mul_le_mul (show r + 1 ≤ 1094000256588 by omega) (show r + 1 ≤ 1094000256588 by omega) (by omega) (by decide)
    omega
  have ar : Ab r 1099511627776 := ⟨by omega, ro⟩
  obtain ⟨rr, hrr, qrr, rrb⟩ := mul_x (B := 1099511627776 + 1) ar ar (by decide) (by decide) (by decide) (by decide)
  have rrl : 1088516511493 ≤ rr := by
    have := Int.mul_le_mul rl rl (by decide) r0
    have := qrr.lo
    omega
  obtain ⟨p, hp, qp, pb⟩ := mul_x (B := 9211859050601 + 100) aA rrb (by decide) (by decide) (by decide) (by decide)
  have pl : 7075357324703 ≤ p := by
    have := Int.mul_le_mul A1 rrl (by decide) (by omega)
    have := qp.lo
    omega
  obtain ⟨k1, hk1, _, k1b⟩ := div_x (a := 7012835795048) (K := 7012835795048) (B := 1089795772352) ⟨by decide, by decide⟩ pl pb.hi (by decide) (by decide) (by decide) (by decide) (by decide) (by decide)
  obtain ⟨k2, hk2, _, k2b⟩ := mul_x (B := 1080165771270) k1b k1b (by decide) (by decide) (by decide) (by decide)
  obtain ⟨k3, hk3, _, k3b⟩ := mul_x (a := 1785540935) (K := 1785540935) (B := 1754124425) ⟨by decide, by decide⟩ k2b (by decide) (by decide) (by decide) (by decide)
  obtain ⟨k, hk, _, kb⟩ := mul_x (B := 182588319392) k3b nb (by decide) (by decide) (by decide) (by decide)
  obtain ⟨s, c, hs, hc, sc⟩ := sc_at I (hI.numB (by decide))
  obtain ⟨t, ht, _, tb⟩ := mul_x (B := 1099511627889) sc.sb sc.sb (by decide) (by decide) (by decide) (by decide)
  obtain ⟨kc, hkc, _, kcb⟩ := mul_x (B := 182588319402) kb sc.cb (by decide) (by decide) (by decide) (by decide)
  obtain ⟨kcd, hkcd, _, kcdb⟩ := mul_x (B := 333406271228053) kcb hd (by decide) (by decide) (by decide) (by decide)
  obtain ⟨t5, ht5, u1, u2, _⟩ := partS_near t 5 2 (tb.numB (by decide)) (by rfl) (by rfl) (by decide) (by have := sz_le ⟨tb.lo, tb.hi⟩; rw [show sz 5 = 5 by rfl]; omega)
  have t5b : Ab t5 2748779069723 := by have := tb.lo; have := tb.hi; exact ⟨by omega, by omega⟩
  have y5b : Ab (2199023255552 - t5) 4947802325275 := by have := t5b.lo; have := t5b.hi; exact ⟨by omega, by omega⟩
  obtain ⟨ky, hky, _, kyb⟩ := mul_x (B := 821647437312) kb y5b (by decide) (by decide) (by decide) (by decide)
  obtain ⟨kyd, hkyd, _, kydb⟩ := mul_x (B := 1500328220531713) kyb hd (by decide) (by decide) (by decide) (by decide)
  obtain ⟨kr, hkr, _, krb⟩ := mul_x (B := 182588319393) kb ar (by decide) (by decide) (by decide) (by decide)
  obtain ⟨t3, ht3, v1, v2, _⟩ := partS_near t 3 2 (tb.numB (by decide)) (by rfl) (by rfl) (by decide) (by have := sz_le ⟨tb.lo, tb.hi⟩; rw [show sz 3 = 3 by rfl]; omega)
  have t3b : Ab t3 1649267441834 := by have := tb.lo; have := tb.hi; exact ⟨by omega, by omega⟩
  have y3b : Ab (1099511627776 - t3) 2748779069610 := by have := t3b.lo; have := t3b.hi; exact ⟨by omega, by omega⟩
  obtain ⟨w, hw, _, wb⟩ := mul_x (B := 456470798512) krb y3b (by decide) (by decide) (by decide) (by decide)
  have nw := nb.add wb
  obtain ⟨mm, hmm, _, mmb⟩ := mul_x (B := 209817591574392693) nw hd (by decide) (by decide) (by decide) (by decide)
  have Mm := hM.add mmb
  exact ⟨⟨n1, n2, n, e2, r, rr, p, k1, k2, k3, k, s, c, t, kc, kcd, t5, ky, kyd, kr, t3, w, mm, hn1, hn2, hn, he2, hoe, hr, hrr, hp, hk1, hk2, hk3, hk, hs, hc, sc, ht, hkc, hkcd,
    sub_near hN kcdb (by decide) (by decide) (by decide), (hN.sub kcdb).numB (by decide), ht5, sub_near (K := 2199023255552) ⟨by decide, by decide⟩ t5b (by decide) (by decide) (by decide), hky, hkyd,
    add_near hP kydb (by decide) (by decide) (by decide), (hP.add kydb).numB (by decide), hkr, ht3, sub_near (K := 1099511627776) ⟨by decide, by decide⟩ t3b (by decide) (by decide) (by decide), hw,
    add_near nb wb (by decide) (by decide) (by decide), hmm, add_near hM mmb (by decide) (by decide) (by decide), mod_up (by have := Mm.lo; omega) (by have := Mm.hi; omega) (by decide) (by decide), ee, r0, ro, r1, r2⟩⟩
end Go.Proofs.Ytpceomcnknjiiaa
namespace Go.Proofs.Ytpceomcnknjiiaa

/-- A place, of its angles, step by step. -/
structure Plane (A E e2 r s c node peri x : Int) : Type where
  (sx cx u w1 v sq cq m1 m2 m3 m4 sn cn m5 bc m6 m7 m8 z : Int)
  hcx : cosA false x = (cx, false)
  hsx : sinA false x = (sx, false)
  hce : subS false cx E = (cx - E, false)
  hu : mulS false A (cx - E) = (u, false)
  hw1 : mulS false A r = (w1, false)
  hv : mulS false w1 sx = (v, false)
  hcq : cosA false peri = (cq, false)
  hsq : sinA false peri = (sq, false)
  h1 : mulS false u cq = (m1, false)
  h2 : mulS false v sq = (m2, false)
  ha : subS false m1 m2 = (m1 - m2, false)
  h3 : mulS false u sq = (m3, false)
  h4 : mulS false v cq = (m4, false)
  hb : addS false m3 m4 = (m3 + m4, false)
  hcn : cosA false node = (cn, false)
  hsn : sinA false node = (sn, false)
  h5 : mulS false (m1 - m2) cn = (m5, false)
  hbc : mulS false (m3 + m4) c = (bc, false)
  h6 : mulS false bc sn = (m6, false)
  hX : subS false m5 m6 = (m5 - m6, false)
  h7 : mulS false (m1 - m2) sn = (m7, false)
  h8 : mulS false bc cn = (m8, false)
  hY : addS false m7 m8 = (m7 + m8, false)
  hz : mulS false (m3 + m4) s = (z, false)
  flat : Flat A E cx sx e2 r w1 u v
  T1 : Trn u v sq cq m1 m2 m3 m4
  Z1 : Sc sq cq
  T3 : Trn (m1 - m2) bc sn cn m5 m6 m7 m8
  Z3 : Sc sn cn
  qbc : Ab (2 * (bc * 1099511627776 - (m3 + m4) * c)) 1099511627776
  qz : Ab (2 * (z * 1099511627776 - (m3 + m4) * s)) 1099511627776
  ab : Ab (m1 - m2) 19344904008183
  bb : Ab (m3 + m4) 19344904008183
  cb : Ab bc 19344904009169
  Xb : Ab (m5 - m6) 38689808019324
  Yb : Ab (m7 + m8) 38689808019324
  zb : Ab z 19344904009169
theorem plane_at {A E e2 r s c node peri x : Int} (A1 : 7146825580544 ≤ A) (A2 : A ≤ 9211859050600) (E1 : 0 ≤ E) (E2 : E ≤ 109951162777) (ee : Ab (2 * (e2 * 1099511627776 - E * E)) 1099511627776) (r0 : 0 ≤ r) (ro : r ≤ 1099511627776) (r1 : r * r ≤ (1099511627776 - e2) * 1099511627776) (r2 : (1099511627776 - e2) * 1099511627776 < (r + 1) * (r + 1))
    (sc : Sc s c) (hn : numB node = true) (hp : numB peri = true) (hx : numB x = true) : Nonempty (Plane A E e2 r s c node peri x) := by
  have aA : Ab A 9211859050600 := ⟨by omega, A2⟩
  have aE : Ab E 109951162777 := ⟨by omega, E2⟩
  have ar : Ab r 1099511627776 := ⟨by omega, ro⟩
  obtain ⟨sx, cx, hsx, hcx, Zx⟩ := sc_at x hx
  obtain ⟨sq, cq, hsq, hcq, Z1⟩ := sc_at peri hp
  obtain ⟨sn, cn, hsn, hcn, Z3⟩ := sc_at node hn
  obtain ⟨u, hu, qu, ub⟩ := mul_x (B := 10133044956125) aA (Zx.cb.sub aE) (by decide) (by decide) (by decide) (by decide)
  obtain ⟨w1, hw1, qw, wb⟩ := mul_x (B := 9211859050601) aA ar (by decide) (by decide) (by decide) (by decide)
  obtain ⟨v, hv, qv, vb⟩ := mul_x (B := 9211859051071) wb Zx.sb (by decide) (by decide) (by decide) (by decide)
  obtain ⟨m1, h1, p1, b1⟩ := mul_x (B := 10133044956642) ub Z1.cb (by decide) (by decide) (by decide) (by decide)
  obtain ⟨m2, h2, p2, b2⟩ := mul_x (B := 9211859051541) vb Z1.sb (by decide) (by decide) (by decide) (by decide)
  obtain ⟨m3, h3, p3, b3⟩ := mul_x (B := 10133044956642) ub Z1.sb (by decide) (by decide) (by decide) (by decide)
  obtain ⟨m4, h4, p4, b4⟩ := mul_x (B := 9211859051541) vb Z1.cb (by decide) (by decide) (by decide) (by decide)
  have ab : Ab (m1 - m2) 19344904008183 := b1.sub b2
  have bb : Ab (m3 + m4) 19344904008183 := b3.add b4
  obtain ⟨m5, h5, p5, b5⟩ := mul_x (B := 19344904009169) ab Z3.cb (by decide) (by decide) (by decide) (by decide)
  obtain ⟨bc, hbc, pbc, bbc⟩ := mul_x (B := 19344904009169) bb sc.cb (by decide) (by decide) (by decide) (by decide)
  obtain ⟨m6, h6, p6, b6⟩ := mul_x (B := 19344904010155) bbc Z3.sb (by decide) (by decide) (by decide) (by decide)
  obtain ⟨m7, h7, p7, b7⟩ := mul_x (B := 19344904009169) ab Z3.sb (by decide) (by decide) (by decide) (by decide)
  obtain ⟨m8, h8, p8, b8⟩ := mul_x (B := 19344904010155) bbc Z3.cb (by decide) (by decide) (by decide) (by decide)
  obtain ⟨z, hz, pz, bz⟩ := mul_x (B := 19344904009169) bb sc.sb (by decide) (by decide) (by decide) (by decide)
  exact ⟨⟨sx, cx, u, w1, v, sq, cq, m1, m2, m3, m4, sn, cn, m5, bc, m6, m7, m8, z, hcx, hsx, sub_near Zx.cb aE (by decide) (by decide) (by decide), hu, hw1, hv, hcq, hsq, h1, h2, sub_near b1 b2 (by decide) (by decide) (by decide), h3, h4,
    add_near b3 b4 (by decide) (by decide) (by decide), hcn, hsn, h5, hbc, h6, sub_near b5 b6 (by decide) (by decide) (by decide), h7, h8, add_near b7 b8 (by decide) (by decide) (by decide), hz,
    ⟨A1, A2, E1, E2, Zx.cb, Zx.sb, Zx.cs, qu, ee, r0, r1, r2, qw, qv⟩, ⟨p1, p2, p3, p4⟩, Z1, ⟨p5, p6, p7, p8⟩, Z3, pbc, pz, ab, bb, bbc, b5.sub b6, b7.add b8, bz⟩⟩
/-- How far the place is. -/
theorem Plane.far {A E e2 r s c node peri x low high : Int} (P : Plane A E e2 r s c node peri x) (sc : Sc s c) (hl : mulS false A (1099511627776 - E) = (low, false)) (hh : mulS false A (1099511627776 + E) = (high, false)) (l1 : 7232738120604 ≤ low) :
    ∃ N, normS false (P.m5 - P.m6) (P.m7 + P.m8) P.z = (N, false) ∧ 0 ≤ N ∧ N ≤ 96724520047817 ∧ low - 65536 ≤ N ∧ N ≤ high + 65536 := by
  have F := P.flat
  have S := turned_sq (flat_bd F) P.T1 P.Z1 P.qbc P.qz sc P.T3 P.Z3
  have a := mul_get hl
  have b := mul_get hh
  have p0 := Int.mul_nonneg (show 0 ≤ A by have := F.A1; omega) F.E1
  have e1 : A * (1099511627776 - E) = 1099511627776 * A - A * E := by grind
  have e2' : A * (1099511627776 + E) = 1099511627776 * A + A * E := by grind
  have h7 : 7000000000000 ≤ high := by
    have a2 := a.hi; have b1 := b.lo
    rw [e1] at a2
    rw [e2'] at b1
    omega
  have x1 := (P.Xb.mul P.Xb).hi; have y1 := (P.Yb.mul P.Yb).hi; have z1 := (P.zb.mul P.zb).hi
  have x0 := sq_nonneg (P.m5 - P.m6); have y0 := sq_nonneg (P.m7 + P.m8); have z0 := sq_nonneg P.z
  have hs := isq_spec ((P.m5 - P.m6) * (P.m5 - P.m6) + (P.m7 + P.m8) * (P.m7 + P.m8) + P.z * P.z) (by omega) (by omega)
  have nb : isq ((P.m5 - P.m6) * (P.m5 - P.m6) + (P.m7 + P.m8) * (P.m7 + P.m8) + P.z * P.z) ≤ 96724520047817 := by
    apply Classical.byContradiction
    intro g
    have := Int.mul_le_mul (show 96724520047817 ≤ isq ((P.m5 - P.m6) * (P.m5 - P.m6) + (P.m7 + P.m8) * (P.m7 + P.m8) + P.z * P.z) by omega) (show 96724520047817 ≤ isq ((P.m5 - P.m6) * (P.m5 - P.m6) + (P.m7 + P.m8) * (P.m7 + P.m8) + P.z * P.z) by omega) (by decide) (by omega)
    omega
  obtain ⟨f1, f2⟩ := far_near F S hs.1 hs.2.1 hs.2.2 a b l1 h7
  exact ⟨_, normS_make (P.Xb.numB (by decide)) (P.Yb.numB (by decide)) (P.zb.numB (by decide)) hs.1 (by omega) hs.2.1 hs.2.2, hs.1, nb, f1, f2⟩
end Go.Proofs.Ytpceomcnknjiiaa
namespace Go.Proofs.Ytpceomcnknjiiaa

/-- The plane's upright, and what a place is along it. -/
structure Up (s c sn cn X Y z : Int) : Type where
  (g0 g1 f0 f1 f2 : Int)
  h0 : mulS false s sn = (g0, false)
  h1 : mulS false s cn = (g1, false)
  k0 : mulS false X g0 = (f0, false)
  k1 : mulS false Y (-g1) = (f1, false)
  k2 : mulS false z c = (f2, false)
  a1 : addS false f0 f1 = (f0 + f1, false)
  a2 : addS false (f0 + f1) f2 = (f0 + f1 + f2, false)
  gb0 : Ab g0 1099511627889
  gb1 : Ab g1 1099511627889
  lo : -65536 ≤ f0 + f1 + f2
  hi : f0 + f1 + f2 ≤ 65536
theorem Plane.up {A E e2 r s c node peri x : Int} (P : Plane A E e2 r s c node peri x) (sc : Sc s c) : Nonempty (Up s c P.sn P.cn (P.m5 - P.m6) (P.m7 + P.m8) P.z) := by
  obtain ⟨g0, h0, q0, gb0⟩ := mul_x (B := 1099511627889) sc.sb P.Z3.sb (by decide) (by decide) (by decide) (by decide)
  obtain ⟨g1, h1, q1, gb1⟩ := mul_x (B := 1099511627889) sc.sb P.Z3.cb (by decide) (by decide) (by decide) (by decide)
  obtain ⟨f0, k0, t0, fb0⟩ := mul_x (B := 38689808023301) P.Xb gb0 (by decide) (by decide) (by decide) (by decide)
  obtain ⟨f1, k1, t1, fb1⟩ := mul_x (B := 38689808023301) P.Yb gb1.neg (by decide) (by decide) (by decide) (by decide)
  obtain ⟨f2, k2, t2, fb2⟩ := mul_x (B := 19344904010155) P.zb sc.cb (by decide) (by decide) (by decide) (by decide)
  have T3 := P.T3
  have Xb := P.Xb; have Yb := P.Yb; have Z3 := P.Z3; have qbc := P.qbc; have qz := P.qz; have cb := P.cb
  have α : Ab (1099511627776 * (P.m5 - P.m6) - ((P.m1 - P.m2) * P.cn - P.bc * P.sn)) 1099511627776 := by
    have := T3.p1.lo; have := T3.p1.hi; have := T3.p2.lo; have := T3.p2.hi
    exact ⟨by omega, by omega⟩
  have β : Ab (1099511627776 * (P.m7 + P.m8) - ((P.m1 - P.m2) * P.sn + P.bc * P.cn)) 1099511627776 := by
    have := T3.p3.lo; have := T3.p3.hi; have := T3.p4.lo; have := T3.p4.hi
    exact ⟨by omega, by omega⟩
  generalize P.m5 - P.m6 = X at *
  generalize P.m7 + P.m8 = Y at *
  generalize P.m1 - P.m2 = a at *
  generalize P.m3 + P.m4 = b at *
  generalize P.bc = bc at *
  generalize P.z = z at *
  generalize P.sn = sn at *
  generalize P.cn = cn at *
  have key : 2 * (1329227995784915872903807060280344576 * (f0 + f1 + f2)) = 1208925819614629174706176 * (2 * (f0 * 1099511627776 - X * g0) + 2 * (f1 * 1099511627776 - Y * -g1) + 2 * (f2 * 1099511627776 - z * c)) + 1099511627776 * (X * (2 * (g0 * 1099511627776 - s * sn)) - Y * (2 * (g1 * 1099511627776 - s * cn)))
      + 1099511627776 * (2 * (z * 1099511627776 - b * s) * c) - 1099511627776 * (s * (2 * (bc * 1099511627776 - b * c))) + 2 * (s * ((1099511627776 * X - (a * cn - bc * sn)) * sn - (1099511627776 * Y - (a * sn + bc * cn)) * cn)) - 2 * (s * bc * (cn * cn + sn * sn - 1208925819614629174706176)) := by grind
  have u1 := Xb.mul q0
  have u2 := Yb.mul q1
  have u3 := qz.mul sc.cb
  have u4 := sc.sb.mul qbc
  have u5 := sc.sb.mul ((α.mul Z3.sb).sub (β.mul Z3.cb))
  have u6 := (sc.sb.mul cb).mul Z3.cs
  have l0 := t0.lo; have m0 := t0.hi; have l1 := t1.lo; have m1 := t1.hi; have l2 := t2.lo; have m2 := t2.hi
  have v1 := u1.lo; have w1 := u1.hi; have v2 := u2.lo; have w2 := u2.hi; have v3 := u3.lo; have w3 := u3.hi; have v4 := u4.lo; have w4 := u4.hi; have v5 := u5.lo; have w5 := u5.hi; have v6 := u6.lo; have w6 := u6.hi
  have fin : -65536 ≤ f0 + f1 + f2 ∧ f0 + f1 + f2 ≤ 65536 := by
    generalize X * (2 * (g0 * 1099511627776 - s * sn)) = U1 at *
    generalize Y * (2 * (g1 * 1099511627776 - s * cn)) = U2 at *
    generalize 2 * (z * 1099511627776 - b * s) * c = U3 at *
    generalize s * (2 * (bc * 1099511627776 - b * c)) = U4 at *
    generalize s * ((1099511627776 * X - (a * cn - bc * sn)) * sn - (1099511627776 * Y - (a * sn + bc * cn)) * cn) = U5 at *
    generalize s * bc * (cn * cn + sn * sn - 1208925819614629174706176) = U6 at *
    generalize 2 * (f0 * 1099511627776 - X * g0) = R0 at *
    generalize 2 * (f1 * 1099511627776 - Y * -g1) = R1 at *
    generalize 2 * (f2 * 1099511627776 - z * c) = R2 at *
    generalize f0 + f1 + f2 = F at *
    exact ⟨by omega, by omega⟩
  exact ⟨⟨g0, g1, f0, f1, f2, h0, h1, k0, k1, k2, add_near fb0 fb1 (by decide) (by decide) (by decide), add_near (fb0.add fb1) fb2 (by decide) (by decide) (by decide), gb0, gb1, fin.1, fin.2⟩⟩
end Go.Proofs.Ytpceomcnknjiiaa
namespace Go.Proofs.Ytpceomcnknjiiaa
open Go.RowKit

abbrev V7 := Int × Int × Int × Int × Int × Int × Int
/-- One of Newton's steps for Kepler's angle. -/
def kStep (bad : Bool) (m e x : Int) : Int × Bool := let r1 := sinA bad x; let r2 := mulS r1.2 e r1.1; let r3 := subS r2.2 x r2.1; let r4 := subS r3.2 r3.1 m; let r5 := cosA r4.2 x; let r6 := mulS r5.2 e r5.1; let r7 := subS r6.2 1099511627776 r6.1; let r8 := divS r7.2 r4.1 r7.1; subS r8.2 x r8.1
theorem kStep_true (m e x : Int) : kStep true m e x = (0, true) := by simp [kStep, sinA_true, mulS_true, subS_true, cosA_true, divS_true]
def oFarC (a : Int) (k : Int) : Bool := let r1 := mulS false a (1099511627776 - k); let r2 := mulS r1.2 a (1099511627776 + k); if r2.2 then false else if r1.1 ≥ 7232738120604 then (decide (r2.1 ≤ 9211859050600)) else false
def oAngC (a : Int) : Bool := if (-6908435304716) ≤ a then (decide (a ≤ 6908435304716)) else false
def oRightC (o : V7) : Bool := if 0 ≤ o.2.1 then if o.2.1 ≤ 109951162777 then let r1 := oFarC o.1 o.2.1; if r1 then if 0 ≤ o.2.2.1 then if o.2.2.1 ≤ 3454217652358 then let r2 := oAngC o.2.2.2.1; if r2 then let r3 := oAngC o.2.2.2.2.1; if r3 then let r4 := oAngC o.2.2.2.2.2.1; if r4 then let r5 := cRight o.2.2.2.2.2.2; r5 else false else false else false else false else false else false else false else false
def oKepC (bad : Bool) (m : Int) (k : Int) : (Int) × Bool := if k < 0 then (0, true) else if k > 109951162777 then (0, true) else let r9 := kStep bad m k m; let r18 := kStep r9.2 m k r9.1; let r27 := kStep r18.2 m k r18.1; let r36 := kStep r27.2 m k r27.1; let r45 := kStep r36.2 m k r36.1; let r54 := kStep r45.2 m k r45.1; (r54.1, r54.2)
def pAngC (a : Int) : Bool := if a ≥ (-6908435304716) then (decide (a ≤ 6908435304716)) else false
def pRightC (o : V7) : Bool := if o.2.1 < 0 then false else if o.2.1 > 109951162777 then false else if o.2.2.1 < 0 then false else if o.2.2.1 > 3454217652358 then false else let r1 := pAngC o.2.2.2.1; if r1 then let r2 := pAngC o.2.2.2.2.1; if r2 then let r3 := pAngC o.2.2.2.2.2.1; if r3 then let r4 := cRight o.2.2.2.2.2.2; if r4 then let r5 := mulS false o.1 (1099511627776 - o.2.1); let r6 := mulS r5.2 o.1 (1099511627776 + o.2.1); if r6.2 then false else if r5.1 ≥ 7232738120604 then (decide (r6.1 ≤ 9211859050600)) else false else false else false else false else false
def pKepC (bad : Bool) (m : Int) (k : Int) : (Int) × Bool := if k < 0 then (0, true) else if k > 109951162777 then (0, true) else let r1 := addS bad m 0; let r10 := kStep r1.2 m k r1.1; let r19 := kStep r10.2 m k r10.1; let r28 := kStep r19.2 m k r19.1; let r37 := kStep r28.2 m k r28.1; let r46 := kStep r37.2 m k r37.1; let r55 := kStep r46.2 m k r46.1; (r55.1, r55.2)
def shapeS (bad : Bool) (o : V7) : (V3) × Bool := let r1 := mulS bad o.2.1 o.2.1; let r2 := subS r1.2 1099511627776 r1.1; let r3 := sqrtS r2.2 r2.1; let r4 := sinA r3.2 o.2.2.1; let r5 := cosA r4.2 o.2.2.1; ((r3.1, r4.1, r5.1), r5.2)
def driftS (bad : Bool) (o : V7) (s : V3) (d : Int) : (V3) × Bool := let r1 := divS bad 3271636820114455529 o.1; let r2 := sqrtS r1.2 r1.1; let r3 := divS r2.2 r2.1 o.1; let r4 := mulS r3.2 s.1 s.1; let r5 := mulS r4.2 o.1 r4.1; let r6 := divS r5.2 7012835795048 r5.1; let r7 := mulS r6.2 r6.1 r6.1; let r8 := mulS r7.2 1785540935 r7.1; let r9 := mulS r8.2 r8.1 r3.1; let r10 := mulS r9.2 s.2.1 s.2.1; let r11 := partS r10.2 r10.1 5 2; let r12 := subS r11.2 2199023255552 r11.1; let r13 := mulS r12.2 r9.1 r12.1; let r14 := mulS r13.2 r9.1 s.1; let r15 := partS r14.2 r10.1 3 2; let r16 := subS r15.2 1099511627776 r15.1; let r17 := mulS r16.2 r14.1 r16.1; let r18 := mulS r17.2 r9.1 s.2.2; let r19 := mulS r18.2 r18.1 d; let r20 := subS r19.2 o.2.2.2.1 r19.1; let r21 := mulS r20.2 r13.1 d; let r22 := addS r21.2 o.2.2.2.2.1 r21.1; let r23 := addS r22.2 r3.1 r17.1; let r24 := mulS r23.2 r23.1 d; let r25 := addS r24.2 o.2.2.2.2.2.1 r24.1; let r26 := modS r25.2 r25.1 6908435304716; ((r20.1, r22.1, r26.1), r26.2)
def turnedS (bad : Bool) (u : Int) (v : Int) (a : Int) : (Int × Int) × Bool := let r1 := sinA bad a; let r2 := cosA r1.2 a; let r3 := mulS r2.2 u r2.1; let r4 := mulS r3.2 v r1.1; let r5 := subS r4.2 r3.1 r4.1; let r6 := mulS r5.2 u r1.1; let r7 := mulS r6.2 v r2.1; let r8 := addS r7.2 r6.1 r7.1; ((r5.1, r8.1), r8.2)
theorem shapeS_true (o : V7) : shapeS true o = ((0, 0, 0), true) := by simp [shapeS, sinA_true, mulS_true, subS_true, cosA_true, sqrtS_true]
theorem driftS_true (o : V7) (s : V3) (d : Int) : driftS true o s d = ((0, 0, 0), true) := by simp [driftS, mulS_true, subS_true, addS_true, divS_true, sqrtS_true, partS_true, modS_true]
theorem turnedS_true (u v a : Int) : turnedS true u v a = ((0, 0), true) := by simp [turnedS, sinA_true, mulS_true, subS_true, cosA_true, addS_true]
theorem oKepC_true (m e : Int) : oKepC true m e = (0, true) := by
  unfold oKepC
  split
  · rfl
  split
  · rfl
  simp only [kStep_true]
theorem pKepC_eq (bad : Bool) (m e : Int) : pKepC bad m e = oKepC bad m e := by
  unfold pKepC oKepC
  by_cases c : e < 0
  · rw [if_pos c, if_pos c]
  rw [if_neg c, if_neg c]
  by_cases d : e > 109951162777
  · rw [if_pos d, if_pos d]
  rw [if_neg d, if_neg d]
  cases bad
  · cases h : numB m
    · have s : sinA false m = (0, true) := by
        apply sinA_bad
        unfold badM
        rw [modS_no (by unfold tk; simp [h])]
      have k : kStep false m e m = (0, true) := by simp [kStep, s, mulS_true, subS_true, cosA_true, divS_true]
      simp only [addS_nonl h, k, kStep_true]
    · have a : addS false m 0 = (m, false) := by
        rw [addS_yes (by unfold tk; simp [h]; rfl)]
        unfold gv
        rw [Int.add_zero, h]
        rfl
      simp only [a]
  · simp only [addS_true, kStep_true]
theorem pAngC_eq (a : Int) : pAngC a = oAngC a := rfl
theorem pRightC_eq (o : V7) : pRightC o = oRightC o := by
  unfold pRightC oRightC oFarC
  simp only [pAngC_eq]
  by_cases c1 : o.2.1 < 0
  · rw [if_pos c1, if_neg (by omega)]
  rw [if_neg c1, if_pos (show 0 ≤ o.2.1 by omega)]
  by_cases c2 : o.2.1 > 109951162777
  · rw [if_pos c2, if_neg (by omega)]
  rw [if_neg c2, if_pos (show o.2.1 ≤ 109951162777 by omega)]
  by_cases c3 : o.2.2.1 < 0
  · rw [if_pos c3, if_neg (show ¬ 0 ≤ o.2.2.1 by omega), ite_self]
  rw [if_neg c3, if_pos (show 0 ≤ o.2.2.1 by omega)]
  by_cases c4 : o.2.2.1 > 3454217652358
  · rw [if_pos c4, if_neg (show ¬ o.2.2.1 ≤ 3454217652358 by omega), ite_self]
  rw [if_neg c4, if_pos (show o.2.2.1 ≤ 3454217652358 by omega)]
  generalize oAngC o.2.2.2.1 = x1
  generalize oAngC o.2.2.2.2.1 = x2
  generalize oAngC o.2.2.2.2.2.1 = x3
  generalize cRight o.2.2.2.2.2.2 = x4
  generalize mulS false o.1 (1099511627776 - o.2.1) = y1
  generalize mulS y1.2 o.1 (1099511627776 + o.2.1) = y2
  by_cases d : y1.1 ≥ 7232738120604
  · simp only [if_pos d]
    generalize decide (y2.1 ≤ 9211859050600) = x5
    cases x1 <;> cases x2 <;> cases x3 <;> cases x4 <;> cases x5 <;> cases y2.2 <;> rfl
  · simp only [if_neg d]
    cases x1 <;> cases x2 <;> cases x3 <;> cases x4 <;> cases y2.2 <;> rfl
theorem oAngC_get {a : Int} (h : oAngC a = true) : Ab a 6908435304716 := by
  unfold oAngC at h
  split at h
  · exact ⟨by omega, of_decide_eq_true h⟩
  · cases h
theorem oFarC_get {a e : Int} (h : oFarC a e = true) : ∃ low high, mulS false a (1099511627776 - e) = (low, false) ∧ mulS false a (1099511627776 + e) = (high, false) ∧ 7232738120604 ≤ low ∧ high ≤ 9211859050600 := by
  unfold oFarC at h
  dsimp only at h
  generalize e1 : mulS false a (1099511627776 - e) = y1 at h
  obtain ⟨low, b1⟩ := y1
  cases b1
  · dsimp only at h
    generalize e2 : mulS false a (1099511627776 + e) = y2 at h
    obtain ⟨high, b2⟩ := y2
    cases b2
    · simp only [Bool.false_eq_true, if_false] at h
      split at h
      · exact ⟨low, high, rfl, rfl, by omega, of_decide_eq_true h⟩
      · cases h
    · simp at h
  · dsimp only at h
    rw [mulS_true] at h
    simp at h
/-- Right elements. -/
structure OIn (o : V7) : Prop where
  e0 : 0 ≤ o.2.1
  e1 : o.2.1 ≤ 109951162777
  far : ∃ low high, mulS false o.1 (1099511627776 - o.2.1) = (low, false) ∧ mulS false o.1 (1099511627776 + o.2.1) = (high, false) ∧ 7232738120604 ≤ low ∧ high ≤ 9211859050600
  i0 : 0 ≤ o.2.2.1
  i1 : o.2.2.1 ≤ 3454217652358
  nd : Ab o.2.2.2.1 6908435304716
  pe : Ab o.2.2.2.2.1 6908435304716
  mm : Ab o.2.2.2.2.2.1 6908435304716
  at_ : cRight o.2.2.2.2.2.2 = true
theorem oRightC_get {o : V7} (h : oRightC o = true) : OIn o := by
  unfold oRightC at h
  dsimp only at h
  split at h
  · split at h
    · split at h
      · split at h
        · split at h
          · split at h
            · split at h
              · split at h
                · rename_i c1 c2 c3 c4 c5 c6 c7 c8
                  exact ⟨c1, c2, oFarC_get c3, c4, c5, oAngC_get c6, oAngC_get c7, oAngC_get c8, h⟩
                · cases h
              · cases h
            · cases h
          · cases h
        · cases h
      · cases h
    · cases h
  · cases h
theorem cRight_get {t : Int} (h : cRight t = true) : 0 ≤ t ∧ t ≤ 157766400000 := by
  rcases cRight_cases t with c | c
  · exact c
  · rw [cRight_out c] at h; cases h
theorem kStep_res {m e x s p g c q δ : Int} (R : Res m e x s p g) (N : Rnd x g c q δ e) : kStep false m e x = (x - δ, false) := by
  unfold kStep
  simp only [R.sn, R.mu, R.s1, R.s2, N.cs, N.mu, N.su, N.dv, N.go]
theorem six_kep {m e x : Int} (e0 : 0 ≤ e) (e1 : e ≤ 109951162777) (h : Six m e 6 x) : oKepC false m e = (x, false) := by
  unfold oKepC
  rw [if_neg (by omega), if_neg (by omega)]
  obtain ⟨x5, _, _, _, _, _, _, h, R6, N6, rfl⟩ := h
  obtain ⟨x4, _, _, _, _, _, _, h, R5, N5, rfl⟩ := h
  obtain ⟨x3, _, _, _, _, _, _, h, R4, N4, rfl⟩ := h
  obtain ⟨x2, _, _, _, _, _, _, h, R3, N3, rfl⟩ := h
  obtain ⟨x1, _, _, _, _, _, _, h, R2, N2, rfl⟩ := h
  obtain ⟨x0, _, _, _, _, _, _, h, R1, N1, rfl⟩ := h
  have e : x0 = m := h
  subst e
  simp only [kStep_res R1 N1, kStep_res R2 N2, kStep_res R3 N3, kStep_res R4 N4, kStep_res R5 N5, kStep_res R6 N6]
theorem shape_good {o : V7} {d : Int} (G : Angles o.1 o.2.1 o.2.2.1 o.2.2.2.1 o.2.2.2.2.1 o.2.2.2.2.2.1 d) : shapeS false o = ((G.r, G.s, G.c), false) := by
  unfold shapeS
  simp only [G.he2, G.hoe, G.hr, G.hs, G.hc]
theorem drift_good {o : V7} {d : Int} (G : Angles o.1 o.2.1 o.2.2.1 o.2.2.2.1 o.2.2.2.2.1 o.2.2.2.2.2.1 d) : driftS false o (G.r, G.s, G.c) d = ((o.2.2.2.1 - G.kcd, o.2.2.2.2.1 + G.kyd, (o.2.2.2.2.2.1 + G.mm) % 6908435304716), false) := by
  unfold driftS
  simp only [G.hn1, G.hn2, G.hn, G.hrr, G.hp, G.hk1, G.hk2, G.hk3, G.hk, G.ht, G.ht5, G.hy5, G.hky, G.hkr, G.ht3, G.hy3, G.hw, G.hkc, G.hkcd, G.hnode, G.hkyd, G.hperi, G.hnw, G.hmm, G.hMm, G.hm]
theorem turn1_good {A E e2 r s c node peri x : Int} (Q : Plane A E e2 r s c node peri x) : turnedS false Q.u Q.v peri = ((Q.m1 - Q.m2, Q.m3 + Q.m4), false) := by
  unfold turnedS
  simp only [Q.hsq, Q.hcq, Q.h1, Q.h2, Q.ha, Q.h3, Q.h4, Q.hb]
theorem turn2_good {A E e2 r s c node peri x : Int} (Q : Plane A E e2 r s c node peri x) : turnedS false (Q.m1 - Q.m2) Q.bc node = ((Q.m5 - Q.m6, Q.m7 + Q.m8), false) := by
  unfold turnedS
  simp only [Q.hsn, Q.hcn, Q.h5, Q.h6, Q.hX, Q.h7, Q.h8, Q.hY]
/-- The place, of right elements at a right tick. -/
def placeV (o : V7) (t : Int) : V3 :=
  let d := (subS false (cDaysS false t).1 (cDaysS false o.2.2.2.2.2.2).1).1
  let s := (shapeS false o).1
  let a := (driftS false o s d).1
  let x := (oKepC false a.2.2 o.2.1).1
  let u := (mulS false o.1 (subS false (cosA false x).1 o.2.1).1).1
  let v := (mulS false (mulS false o.1 s.1).1 (sinA false x).1).1
  let p := (turnedS false u v a.2.1).1
  let q := (turnedS false p.1 (mulS false p.2 s.2.2).1 a.1).1
  (q.1, q.2, (mulS false p.2 s.2.1).1)
def placeS (bad : Bool) (o : V7) (t : Int) : V3 × Bool := if oRightC o && cRight t && !bad then (placeV o t, false) else ((0, 0, 0), true)
/-- All steps of Place, of right elements at a right tick. -/
structure Steps (o : V7) (t : Int) : Type where
  (dt da : Int)
  hdt : cDaysS false t = (dt, false)
  hda : cDaysS false o.2.2.2.2.2.2 = (da, false)
  hd : subS false dt da = (dt - da, false)
  G : Angles o.1 o.2.1 o.2.2.1 o.2.2.2.1 o.2.2.2.2.1 o.2.2.2.2.2.1 (dt - da)
  x : Int
  hx : oKepC false ((o.2.2.2.2.2.1 + G.mm) % 6908435304716) o.2.1 = (x, false)
  Q : Plane o.1 o.2.1 G.e2 G.r G.s G.c (o.2.2.2.1 - G.kcd) (o.2.2.2.2.1 + G.kyd) x
  e : placeS false o t = ((Q.m5 - Q.m6, Q.m7 + Q.m8, Q.z), false)
theorem steps_at {o : V7} {t : Int} (hr : oRightC o = true) (ht : cRight t = true) : Nonempty (Steps o t) := by
  have O := oRightC_get hr
  obtain ⟨low, high, hl, hh, l1, h1⟩ := O.far
  obtain ⟨A1, A2⟩ := right_A O.e0 O.e1 hl hh l1 h1
  obtain ⟨t0, t1⟩ := cRight_get ht
  obtain ⟨a0, a1⟩ := cRight_get O.at_
  have ed := cDaysS_in t0 t1
  have ea := cDaysS_in a0 a1
  have d1 : 0 ≤ cDay t ∧ cDay t ≤ 2007708232318976 := by unfold cDay rnd; omega
  have d2 : 0 ≤ cDay o.2.2.2.2.2.2 ∧ cDay o.2.2.2.2.2.2 ≤ 2007708232318976 := by unfold cDay rnd; omega
  have b1 : Ab (cDay t) 2007708232318976 := ⟨by omega, by omega⟩
  have b2 : Ab (cDay o.2.2.2.2.2.2) 2007708232318976 := ⟨by omega, by omega⟩
  obtain ⟨G⟩ := angles_at (I := o.2.2.1) A1 A2 O.e0 O.e1 (show Ab o.2.2.1 6908435304716 from ⟨by have := O.i0; omega, by have := O.i1; omega⟩) O.nd O.pe O.mm (show Ab (cDay t - cDay o.2.2.2.2.2.2) 2007708232318976 from ⟨by omega, by omega⟩)
  obtain ⟨x, s, p, g, X, R, gb⟩ := kepler_math (m := (o.2.2.2.2.2.1 + G.mm) % 6908435304716) (e := o.2.1) ⟨by omega, by omega, O.e0, O.e1⟩
  have xn : numB x = true := by
    have := R.eq; have := R.pb.lo; have := R.pb.hi; have := gb.lo; have := gb.hi
    exact numB_of ⟨by omega, by omega⟩
  obtain ⟨Q⟩ := plane_at A1 A2 O.e0 O.e1 G.ee G.r0 G.ro G.r1 G.r2 G.sc G.nnode G.nperi xn
  have hx := six_kep O.e0 O.e1 X
  have hd : subS false (cDay t) (cDay o.2.2.2.2.2.2) = (cDay t - cDay o.2.2.2.2.2.2, false) := sub_near b1 b2 (by decide) (by decide) (by decide)
  refine ⟨⟨_, _, ed, ea, hd, G, x, hx, Q, ?_⟩⟩
  unfold placeS placeV
  rw [hr, ht]
  simp only [ed, ea, hd, shape_good G, drift_good G, hx, Q.hcx, Q.hce, Q.hu, Q.hw1, Q.hsx, Q.hv, turn1_good Q, Q.hbc, turn2_good Q, Q.hz]
  rfl
theorem placeS_cases (bad : Bool) (o : V7) (t : Int) : (oRightC o = false ∧ placeS bad o t = ((0, 0, 0), true)) ∨ (oRightC o = true ∧ cRight t = false ∧ placeS bad o t = ((0, 0, 0), true)) ∨ (oRightC o = true ∧ cRight t = true ∧ bad = true ∧ placeS bad o t = ((0, 0, 0), true)) ∨ (oRightC o = true ∧ cRight t = true ∧ bad = false ∧ Nonempty (Steps o t)) := by
  cases hr : oRightC o
  · exact .inl ⟨rfl, by unfold placeS; rw [hr]; rfl⟩
  cases ht : cRight t
  · exact .inr (.inl ⟨rfl, rfl, by unfold placeS; rw [hr, ht]; rfl⟩)
  cases bad
  · exact .inr (.inr (.inr ⟨rfl, rfl, rfl, steps_at hr ht⟩))
  · exact .inr (.inr (.inl ⟨rfl, rfl, rfl, by unfold placeS; rw [hr, ht]; rfl⟩))
end Go.Proofs.Ytpceomcnknjiiaa
