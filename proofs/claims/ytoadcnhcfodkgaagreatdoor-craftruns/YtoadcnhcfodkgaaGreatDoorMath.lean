/-
  Plain arithmetic and plain facts on memory for the seat YtoadcnhcfodkgaaGreatDoor: numbers, rounding, roots, words of 64 bits, and what a call that writes one flow alone keeps. No Go text in sight.
-/
import Derived.WalkKit
import Derived.WalkSpells
import Derived.WalkLawsBesides
import Derived.Laws.BitsAllLaws
namespace Go.Proofs.YtoadcnhcfodkgaaGreatDoor
open Go.RowKit

/-! ### Words of 64 bits -/
/-- The high word, the low word. -/
def hi64 (n : Int) : Int := n / 18446744073709551616
def lo64 (n : Int) : Int := n % 18446744073709551616
theorem hi64_bd (n : Int) (h0 : 0 ≤ n) (h : n < 340282366920938463463374607431768211456) : 0 ≤ hi64 n ∧ hi64 n ≤ 18446744073709551615 := by unfold hi64; omega
theorem lo64_bd (n : Int) : 0 ≤ lo64 n ∧ lo64 n ≤ 18446744073709551615 := by unfold lo64; omega
theorem hilo (n : Int) : hi64 n * 18446744073709551616 + lo64 n = n := by unfold hi64 lo64; omega

/-! ### Numbers -/
def numB (n : Int) : Bool := decide (-4611686018427387904 ≤ n) && decide (n ≤ 4611686018427387904)

theorem numB_bd {n : Int} (h : numB n = true) : -4611686018427387904 ≤ n ∧ n ≤ 4611686018427387904 := by unfold numB at h; simpa using h
/-- A number's size. -/
def sz (n : Int) : Int := if n < 0 then -n else n
/-- What fits no word is the greatest one. -/
def sat64 (n : Int) : Int := if n ≤ 18446744073709551615 then n else 18446744073709551615

/-- A size and a sign as a number; 0 where the size is too great. -/
def sgnd (n : Int) (minus : Bool) : Int := if n ≤ 4611686018427387904 then (if minus then -n else n) else 0
theorem sgnd_in (n : Int) (minus : Bool) (c : n ≤ 4611686018427387904) : (if minus then -n else n) = sgnd n minus := by unfold sgnd; rw [if_pos c]
theorem sgnd_out (n : Int) (minus : Bool) (c : ¬ n ≤ 4611686018427387904) : 0 = sgnd n minus := by unfold sgnd; rw [if_neg c]

/-- Is all well so far, and are these numbers? -/
def tk (bad : Bool) (zs : List Int) : Bool := !bad && zs.all numB
theorem tk_not (bad : Bool) (zs : List Int) : (bad || !zs.all numB) = !tk bad zs := by unfold tk; cases bad <;> simp
theorem tk_two {bad : Bool} {a b : Int} (h : tk bad [a, b] = true) : bad = false ∧ numB a = true ∧ numB b = true := by unfold tk at h; simp at h; exact ⟨h.1, h.2.1, h.2.2⟩
theorem tk_one {bad : Bool} {a : Int} (h : tk bad [a] = true) : bad = false ∧ numB a = true := by unfold tk at h; simp at h; exact ⟨h.1, h.2⟩
theorem tk_three {bad : Bool} {a b c : Int} (h : tk bad [a, b, c] = true) : bad = false ∧ numB a = true ∧ numB b = true ∧ numB c = true := by unfold tk at h; simp at h; exact ⟨h.1, h.2.1, h.2.2.1, h.2.2.2⟩
/-! ### What each method answers, and whether the flow is bad behind it -/
def gv (n : Int) : Int × Bool := (if numB n then n else 0, !numB n)
def out (n : Int) (minus : Bool) : Int × Bool := (sgnd n minus, decide (4611686018427387904 < n))
def addS (bad : Bool) (a b : Int) : Int × Bool := if tk bad [a, b] then gv (a + b) else (0, true)
def subS (bad : Bool) (a b : Int) : Int × Bool := if tk bad [a, b] then gv (a - b) else (0, true)
/-- A quotient, rounded: halves up. -/
def rnd (n d : Int) : Int := (n + d / 2) / d
def partS (bad : Bool) (a p q : Int) : Int × Bool := if tk bad [a, p, q] && q != 0 then out (rnd (sz a * sz p) (sz q)) ((decide (a < 0) != decide (p < 0)) != decide (q < 0)) else (0, true)
def mulS (bad : Bool) (a b : Int) : Int × Bool := partS bad a b 1099511627776
def divS (bad : Bool) (a b : Int) : Int × Bool := partS bad a 1099511627776 b
def modS (bad : Bool) (a m : Int) : Int × Bool := if tk bad [a, m] && decide (0 < m) then (a % m, false) else (0, true)

theorem addS_no {bad : Bool} {a b : Int} (c : tk bad [a, b] = false) : addS bad a b = (0, true) := by unfold addS; rw [c]; rfl
theorem addS_yes {bad : Bool} {a b : Int} (c : tk bad [a, b] = true) : addS bad a b = gv (a + b) := by unfold addS; rw [c]; rfl
theorem subS_no {bad : Bool} {a b : Int} (c : tk bad [a, b] = false) : subS bad a b = (0, true) := by unfold subS; rw [c]; rfl
theorem subS_yes {bad : Bool} {a b : Int} (c : tk bad [a, b] = true) : subS bad a b = gv (a - b) := by unfold subS; rw [c]; rfl
theorem gv_wrap (n : Int) (h : -9223372036854775808 ≤ n ∧ n ≤ 9223372036854775808) : gv (wrap64 n) = gv n := by
  by_cases c : n = 9223372036854775808
  · subst c; rw [show wrap64 9223372036854775808 = -9223372036854775808 by unfold wrap64; decide]; rfl
  · rw [IntWalk.wrap64_in n ⟨by omega, by omega⟩]
theorem partS_no {bad : Bool} {a p q : Int} (c : tk bad [a, p, q] = false) : partS bad a p q = (0, true) := by unfold partS; rw [c]; rfl
theorem partS_zero {bad : Bool} {a p : Int} : partS bad a p 0 = (0, true) := by unfold partS; rw [show ((0 : Int) != 0) = false by rfl, Bool.and_false]; rfl
theorem partS_yes {bad : Bool} {a p q : Int} (c : tk bad [a, p, q] = true) (h : (q != 0) = true) : partS bad a p q = out (rnd (sz a * sz p) (sz q)) ((decide (a < 0) != decide (p < 0)) != decide (q < 0)) := by unfold partS; rw [c, h]; rfl
theorem modS_no {bad : Bool} {a m : Int} (c : tk bad [a, m] = false) : modS bad a m = (0, true) := by unfold modS; rw [c]; rfl
theorem modS_low {bad : Bool} {a m : Int} (h : ¬ 0 < m) : modS bad a m = (0, true) := by unfold modS; rw [decide_eq_false h, Bool.and_false]; rfl
theorem modS_yes {bad : Bool} {a m : Int} (c : tk bad [a, m] = true) (h : 0 < m) : modS bad a m = (a % m, false) := by unfold modS; rw [c, decide_eq_true h]; rfl

theorem sz_bd {a : Int} (h : numB a = true) : 0 ≤ sz a ∧ sz a ≤ 4611686018427387904 := by
  have := numB_bd h
  unfold sz
  split <;> omega
theorem sz_pos {a : Int} (h : (a != 0) = true) : 1 ≤ sz a := by
  have h1 : a ≠ 0 := by simpa using h
  unfold sz
  split <;> omega
theorem sz_mul_bd {a b : Int} (h : numB a = true) (k : numB b = true) : 0 ≤ sz a * sz b ∧ sz a * sz b ≤ 21267647932558653966460912964485513216 := by
  have h1 := sz_bd h
  have h2 := sz_bd k
  refine ⟨Int.mul_nonneg h1.1 h2.1, ?_⟩
  have := Int.mul_le_mul h1.2 h2.2 h2.1 (by omega : (0 : Int) ≤ 4611686018427387904)
  omega
theorem tk_one3 (bad : Bool) (a b : Int) : tk bad [a, b, 1099511627776] = tk bad [a, b] := by unfold tk; simp [show numB 1099511627776 = true by rfl]
theorem tk_one2 (bad : Bool) (a b : Int) : tk bad [a, 1099511627776, b] = tk bad [a, b] := by unfold tk; simp [show numB 1099511627776 = true by rfl]
theorem mulS_no {bad : Bool} {a b : Int} (c : tk bad [a, b] = false) : mulS bad a b = (0, true) := partS_no ((tk_one3 bad a b).trans c)
theorem mulS_yes {bad : Bool} {a b : Int} (c : tk bad [a, b] = true) : mulS bad a b = out ((sz a * sz b + 549755813888) / 1099511627776) (decide (a < 0) != decide (b < 0)) := by
  unfold mulS
  rw [partS_yes ((tk_one3 bad a b).trans c) rfl]
  simp [rnd, show sz 1099511627776 = 1099511627776 by rfl]
theorem sat_out (n : Int) (minus : Bool) : out (sat64 n) minus = out n minus := by
  unfold sat64
  split
  · rfl
  · unfold out sgnd
    rw [if_neg (by decide), if_neg (by omega), decide_eq_true (by decide), decide_eq_true (by omega)]
theorem sat_bd (n : Int) (h : 0 ≤ n) : 0 ≤ sat64 n ∧ sat64 n ≤ 18446744073709551615 := by unfold sat64; split <;> omega

theorem rnd_nonneg {n d : Int} (h : 0 ≤ n) (hd : 1 ≤ d) : 0 ≤ rnd n d := Int.ediv_nonneg (by omega) (by omega)
theorem sz_nonneg {a : Int} (h : 0 ≤ a) : sz a = a := by unfold sz; rw [if_neg (by omega)]
theorem tmod_bd (x y : Int) (h : 0 < y) : -y < x.tmod y ∧ x.tmod y < y := by
  refine ⟨?_, Int.tmod_lt_of_pos x h⟩
  have h1 := Int.tmod_lt_of_pos (-x) h
  rw [Int.neg_tmod] at h1
  omega
theorem tmod_low (x y : Int) (h : 0 < y) : (x.tmod y < 0 → x.tmod y + y = x % y) ∧ (0 ≤ x.tmod y → x.tmod y = x % y) := by
  have b := tmod_bd x y h
  have e1 := Int.tmod_add_mul_tdiv x y
  refine ⟨fun c => ?_, fun c => ?_⟩
  · have e2 : x = (x.tmod y + y) + y * (x.tdiv y - 1) := by grind
    rw [e2, Int.add_mul_emod_self_left, Int.emod_eq_of_lt (by omega) (by omega), ← e2]
  · have e2 : x = x.tmod y + y * x.tdiv y := by omega
    have e3 : x % y = (x.tmod y + y * x.tdiv y) % y := by rw [← e2]
    rw [e3, Int.add_mul_emod_self_left, Int.emod_eq_of_lt (by omega) (by omega)]

theorem mul_split (ah al bh bl : Int) : (ah * 4294967296 + al) * (bh * 4294967296 + bl) = (ah * bh) * 18446744073709551616 + (ah * bl + al * bh) * 4294967296 + al * bl := by grind
theorem mul_bd (x y : Int) (h0 : 0 ≤ x) (h1 : x ≤ 4294967295) (k0 : 0 ≤ y) (k1 : y ≤ 4294967295) : 0 ≤ x * y ∧ x * y ≤ 18446744065119617025 := by
  refine ⟨Int.mul_nonneg h0 k0, ?_⟩
  have := Int.mul_le_mul h1 k1 k0 (by omega : (0:Int) ≤ 4294967295)
  omega

theorem or_join32 (x y : Int) (h0 : 0 ≤ x) (h1 : x ≤ 4294967295) (k0 : 0 ≤ y) (k1 : y ≤ 4294967295) : bits .or .u64 (x * 4294967296) y = x * 4294967296 + y := by
  rw [u64_or _ _ (by omega) (by omega) (by omega) (by omega), nat_join 32 _ _ (by omega) (by omega)]
  omega
theorem or_join24 (x y : Int) (h0 : 0 ≤ x) (h1 : x ≤ 1099511627775) (k0 : 0 ≤ y) (k1 : y ≤ 16777215) : bits .or .u64 (x * 16777216) y = x * 16777216 + y := by
  rw [u64_or _ _ (by omega) (by omega) (by omega) (by omega), nat_join 24 _ _ (by omega) (by omega)]
  omega
theorem shifted_words (n x y : Int) (h : x * 18446744073709551616 + y = n + 549755813888) (b1 : 0 ≤ x ∧ x ≤ 18446744073709551615) (b2 : 0 ≤ y ∧ y ≤ 18446744073709551615) (c : x / 1099511627776 = 0) :
    bits .or .u64 (IntKind.u64.wrap (x * 16777216)) (y / 1099511627776) = sat64 ((n + 549755813888) / 1099511627776) := by
  rw [← h, IntKind.wrap_u64, show x * 16777216 % 18446744073709551616 = x * 16777216 by omega, or_join24 _ _ (by omega) (by omega) (by omega) (by omega)]
  unfold sat64
  rw [if_pos (by omega)]
  omega
theorem shifted_much (n x y : Int) (h : x * 18446744073709551616 + y = n + 549755813888) (b1 : 0 ≤ x ∧ x ≤ 18446744073709551615) (b2 : 0 ≤ y ∧ y ≤ 18446744073709551615) (c : ¬ x / 1099511627776 = 0) :
    18446744073709551615 = sat64 ((n + 549755813888) / 1099511627776) := by
  rw [← h]
  unfold sat64
  rw [if_neg (by omega)]
theorem prod_words (a b : Int) (h0 : 0 ≤ a) (h1 : a ≤ 18446744073709551615) (k0 : 0 ≤ b) (k1 : b ≤ 18446744073709551615) :
    IntKind.u64.wrap (IntKind.u64.wrap (IntKind.u64.wrap (a / 4294967296 * (b / 4294967296)) + IntKind.u64.wrap (IntKind.u64.wrap (a / 4294967296 * (b % 4294967296)) + IntKind.u64.wrap (a % 4294967296 * (b % 4294967296)) / 4294967296) / 4294967296) + IntKind.u64.wrap (IntKind.u64.wrap (a % 4294967296 * (b / 4294967296)) + IntKind.u64.wrap (IntKind.u64.wrap (a / 4294967296 * (b % 4294967296)) + IntKind.u64.wrap (a % 4294967296 * (b % 4294967296)) / 4294967296) % 4294967296) / 4294967296) = hi64 (a * b) ∧
    bits BinOp.or IntKind.u64 (IntKind.u64.wrap (IntKind.u64.wrap (IntKind.u64.wrap (a % 4294967296 * (b / 4294967296)) + IntKind.u64.wrap (IntKind.u64.wrap (a / 4294967296 * (b % 4294967296)) + IntKind.u64.wrap (a % 4294967296 * (b % 4294967296)) / 4294967296) % 4294967296) * 4294967296)) (IntKind.u64.wrap (a % 4294967296 * (b % 4294967296)) % 4294967296) = lo64 (a * b) := by
  have e := mul_split (a / 4294967296) (a % 4294967296) (b / 4294967296) (b % 4294967296)
  rw [show a / 4294967296 * 4294967296 + a % 4294967296 = a by omega, show b / 4294967296 * 4294967296 + b % 4294967296 = b by omega] at e
  have p1 := mul_bd (a / 4294967296) (b / 4294967296) (by omega) (by omega) (by omega) (by omega)
  have p2 := mul_bd (a / 4294967296) (b % 4294967296) (by omega) (by omega) (by omega) (by omega)
  have p3 := mul_bd (a % 4294967296) (b / 4294967296) (by omega) (by omega) (by omega) (by omega)
  have p4 := mul_bd (a % 4294967296) (b % 4294967296) (by omega) (by omega) (by omega) (by omega)
  generalize a / 4294967296 * (b / 4294967296) = p at *
  generalize a / 4294967296 * (b % 4294967296) = q at *
  generalize a % 4294967296 * (b / 4294967296) = r at *
  generalize a % 4294967296 * (b % 4294967296) = t at *
  generalize a * b = n at *
  simp only [IntKind.wrap_u64]
  rw [show p % 18446744073709551616 = p by omega, show q % 18446744073709551616 = q by omega, show r % 18446744073709551616 = r by omega, show t % 18446744073709551616 = t by omega]
  rw [show (q + t / 4294967296) % 18446744073709551616 = q + t / 4294967296 by omega]
  rw [show (r + (q + t / 4294967296) % 4294967296) % 18446744073709551616 = r + (q + t / 4294967296) % 4294967296 by omega]
  rw [show (r + (q + t / 4294967296) % 4294967296) * 4294967296 % 18446744073709551616 = ((r + (q + t / 4294967296) % 4294967296) % 4294967296) * 4294967296 by omega]
  rw [or_join32 _ _ (by omega) (by omega) (by omega) (by omega)]
  unfold hi64 lo64
  constructor <;> omega

/-! ### Long division: what is worked out of a number's upper bits -/
def ldq (n d : Int) (m : Nat) : Int := n / 2 ^ m / d
def ldr (n d : Int) (m : Nat) : Int := n / 2 ^ m % d
theorem two_pow_pos (m : Nat) : (0 : Int) < 2 ^ m := Int.pow_pos (by decide)
theorem half_step (n : Int) (m : Nat) : n / 2 ^ m = 2 * (n / 2 ^ (m + 1)) + n / 2 ^ m % 2 := by
  have e : n / 2 ^ (m + 1) = n / 2 ^ m / 2 := by rw [Int.pow_succ, Int.ediv_ediv_of_nonneg (Int.le_of_lt (two_pow_pos m))]
  rw [e]; omega
theorem low_bit (n : Int) (m : Nat) (h : m < 64) : lo64 n / 2 ^ m % 2 = n / 2 ^ m % 2 := by
  obtain ⟨k, hk⟩ : ∃ k, 64 = m + (k + 1) := ⟨63 - m, by omega⟩
  have e : (18446744073709551616 : Int) = 2 ^ m * (2 ^ k * 2) := by rw [← Int.pow_succ, ← Int.pow_add, ← hk]; decide
  have h1 := hilo n
  have h2 : n / 2 ^ m = lo64 n / 2 ^ m + hi64 n * (2 ^ k * 2) := by
    have h3 : n = lo64 n + 2 ^ m * (hi64 n * (2 ^ k * 2)) := by rw [e] at h1; grind
    generalize lo64 n = l at *
    generalize hi64 n * (2 ^ k * 2) = x at *
    rw [h3, Int.add_mul_ediv_left _ _ (Int.ne_of_gt (two_pow_pos m))]
  rw [h2, ← Int.mul_assoc]
  omega
theorem ldq_step (n d : Int) (m : Nat) (hd : 0 < d) :
    (d ≤ 2 * ldr n d (m + 1) + n / 2 ^ m % 2 → ldq n d m = 2 * ldq n d (m + 1) + 1 ∧ ldr n d m = 2 * ldr n d (m + 1) + n / 2 ^ m % 2 - d) ∧
    (2 * ldr n d (m + 1) + n / 2 ^ m % 2 < d → ldq n d m = 2 * ldq n d (m + 1) ∧ ldr n d m = 2 * ldr n d (m + 1) + n / 2 ^ m % 2) := by
  unfold ldq ldr
  have e := half_step n m
  have hb : 0 ≤ n / 2 ^ m % 2 ∧ n / 2 ^ m % 2 < 2 := by omega
  generalize n / 2 ^ m % 2 = t at *
  generalize n / 2 ^ (m + 1) = y at *
  generalize n / 2 ^ m = x at *
  have e2 := Int.mul_ediv_add_emod y d
  have h1 := Int.emod_nonneg y (Int.ne_of_gt hd)
  have h2 := Int.emod_lt_of_pos y hd
  generalize y / d = q at *
  generalize y % d = r at *
  refine ⟨fun c => ?_, fun c => ?_⟩
  · have : x = (2 * r + t - d) + d * (2 * q + 1) := by grind
    rw [this, Int.add_mul_ediv_left _ _ (Int.ne_of_gt hd), Int.add_mul_emod_self_left, Int.ediv_eq_zero_of_lt (by omega) (by omega), Int.emod_eq_of_lt (by omega) (by omega)]
    omega
  · have : x = (2 * r + t) + d * (2 * q) := by grind
    rw [this, Int.add_mul_ediv_left _ _ (Int.ne_of_gt hd), Int.add_mul_emod_self_left, Int.ediv_eq_zero_of_lt (by omega) (by omega), Int.emod_eq_of_lt (by omega) (by omega)]
    omega
theorem ldr_bd (n d : Int) (m : Nat) (hd : 0 < d) : 0 ≤ ldr n d m ∧ ldr n d m < d := ⟨Int.emod_nonneg _ (Int.ne_of_gt hd), Int.emod_lt_of_pos _ hd⟩
theorem ldq_bd (n d : Int) (m : Nat) (hd : 0 < d) (h0 : 0 ≤ n) (hq : hi64 n < d) : 0 ≤ ldq n d m ∧ ldq n d m ≤ 18446744073709551615 := by
  unfold ldq
  have h1 : 0 ≤ n / 2 ^ m := Int.ediv_nonneg h0 (Int.le_of_lt (two_pow_pos m))
  have h2 : n / 2 ^ m ≤ n := Int.ediv_le_self _ h0
  refine ⟨Int.ediv_nonneg h1 (Int.le_of_lt hd), ?_⟩
  have h3 : n < d * 18446744073709551616 := by have := hilo n; have := lo64_bd n; omega
  have h4 : n / 2 ^ m / d < 18446744073709551616 := Int.ediv_lt_of_lt_mul hd (by rw [Int.mul_comm]; omega)
  omega
theorem ldq_64 (n d : Int) (h0 : 0 ≤ n) (hq : hi64 n < d) : ldq n d 64 = 0 ∧ ldr n d 64 = hi64 n := by
  have h : 0 ≤ hi64 n := Int.ediv_nonneg h0 (by decide)
  have e : n / 2 ^ 64 = hi64 n := rfl
  unfold ldq ldr
  rw [e]
  exact ⟨Int.ediv_eq_zero_of_lt h hq, Int.emod_eq_of_lt h hq⟩
theorem ldq_0 (n d : Int) : ldq n d 0 = n / d ∧ ldr n d 0 = n % d := by unfold ldq ldr; simp
theorem or_bit (x y : Int) (h0 : 0 ≤ x) (h1 : x ≤ 9223372036854775807) (k0 : 0 ≤ y) (k1 : y ≤ 1) : bits .or .u64 (x * 2) y = x * 2 + y := by
  rw [u64_or _ _ (by omega) (by omega) (by omega) (by omega), nat_join 1 _ _ (by omega) (by omega)]
  omega
theorem and_one (x : Int) (h0 : 0 ≤ x) (h1 : x ≤ 18446744073709551615) : bits .and .u64 x 1 = x % 2 := by
  rw [u64_and _ _ (by omega) (by omega) (by omega) (by omega), show (1 : Int).toNat = 1 by rfl, nat_mask1]
  omega
theorem ld_join (n r : Int) (m : Nat) (hm : m < 64) (h0 : 0 ≤ r) (h1 : r ≤ 9223372036854775807) : bits .or .u64 (r * 2) (bits .and .u64 (lo64 n / 2 ^ m) 1) = 2 * r + n / 2 ^ m % 2 := by
  have b := lo64_bd n
  have h2 : 0 ≤ lo64 n / 2 ^ m := Int.ediv_nonneg b.1 (Int.le_of_lt (two_pow_pos m))
  have h3 : lo64 n / 2 ^ m ≤ lo64 n := Int.ediv_le_self _ b.1
  rw [and_one _ h2 (by omega), low_bit n m hm, or_bit _ _ h0 h1 (by omega) (by omega)]
  omega
theorem or_one (q : Int) (h0 : 0 ≤ q) (h1 : 2 * q + 1 ≤ 18446744073709551615) : bits .or .u64 (IntKind.u64.wrap (q * 2)) 1 = 2 * q + 1 := by
  rw [IntKind.wrap_u64, show q * 2 % 18446744073709551616 = q * 2 by omega, or_bit _ _ h0 (by omega) (by decide) (by decide)]
  omega
theorem rnd_much (n d : Int) (hd : 1 ≤ d) (c : d ≤ hi64 (n + d / 2)) : 18446744073709551615 = sat64 (rnd n d) := by
  unfold sat64 rnd
  have h1 := hilo (n + d / 2)
  have h2 := lo64_bd (n + d / 2)
  rw [if_neg]
  have : 18446744073709551616 ≤ (n + d / 2) / d := Int.le_ediv_of_mul_le (by omega) (by omega)
  omega
theorem rnd_in (n d : Int) (hd : 1 ≤ d) (c : hi64 (n + d / 2) < d) : (n + d / 2) / d = sat64 (rnd n d) := by
  unfold sat64 rnd
  have h1 := hilo (n + d / 2)
  have h2 := lo64_bd (n + d / 2)
  rw [if_pos]
  have : (n + d / 2) / d < 18446744073709551616 := Int.ediv_lt_of_lt_mul (by omega) (by omega)
  omega

/-! ### Roots, bit by bit -/
def isqf (n : Int) : Nat → Int → Int
  | 0, r => r
  | j + 1, r => isqf n j (if (r + 2 ^ j) * (r + 2 ^ j) ≤ n then r + 2 ^ j else r)
/-- The greatest integer whose square isn't above n. -/
def isq (n : Int) : Int := isqf n 63 0
def sqrtS (bad : Bool) (a : Int) : Int × Bool := if tk bad [a] && decide (0 ≤ a) then out (isq (a * 1099511627776)) false else (0, true)
def normS (bad : Bool) (a b c : Int) : Int × Bool := if tk bad [a, b, c] then out (isq (a * a + b * b + c * c)) false else (0, true)
theorem sq_mono {x y : Int} (h0 : 0 ≤ x) (h : x ≤ y) : x * x ≤ y * y := Int.mul_le_mul h h h0 (by omega)
theorem sqrtS_no {bad : Bool} {a : Int} (c : tk bad [a] = false) : sqrtS bad a = (0, true) := by unfold sqrtS; rw [c]; rfl
theorem sqrtS_low {bad : Bool} {a : Int} (h : ¬ 0 ≤ a) : sqrtS bad a = (0, true) := by unfold sqrtS; rw [decide_eq_false h, Bool.and_false]; rfl
theorem sqrtS_yes {bad : Bool} {a : Int} (c : tk bad [a] = true) (h : 0 ≤ a) : sqrtS bad a = out (isq (a * 1099511627776)) false := by unfold sqrtS; rw [c, decide_eq_true h]; rfl
theorem normS_no {bad : Bool} {a b c : Int} (h : tk bad [a, b, c] = false) : normS bad a b c = (0, true) := by unfold normS; rw [h]; rfl
theorem normS_yes {bad : Bool} {a b c : Int} (h : tk bad [a, b, c] = true) : normS bad a b c = out (isq (a * a + b * b + c * c)) false := by unfold normS; rw [h]; rfl
theorem isqf_spec (n : Int) : ∀ (m : Nat) (r : Int), 0 ≤ r → r * r ≤ n → n < (r + 2 ^ m) * (r + 2 ^ m) → 0 ≤ isqf n m r ∧ isqf n m r * isqf n m r ≤ n ∧ n < (isqf n m r + 1) * (isqf n m r + 1)
  | 0, r, h0, h1, h2 => ⟨h0, h1, by show n < (r + 1) * (r + 1); simpa using h2⟩
  | j + 1, r, h0, h1, h2 => by
    have hp := two_pow_pos j
    have e : r + (2 : Int) ^ (j + 1) = r + 2 ^ j + 2 ^ j := by rw [Int.pow_succ]; omega
    rw [e] at h2
    unfold isqf
    by_cases c : (r + 2 ^ j) * (r + 2 ^ j) ≤ n
    · rw [if_pos c]
      exact isqf_spec n j (r + 2 ^ j) (by omega) c h2
    · rw [if_neg c]
      exact isqf_spec n j r h0 h1 (by omega)
theorem isq_unique (x y n : Int) (hx : 0 ≤ x) (hy : 0 ≤ y) (h1 : x * x ≤ n) (h2 : n < (x + 1) * (x + 1)) (h3 : y * y ≤ n) (h4 : n < (y + 1) * (y + 1)) : x = y := by
  rcases Int.lt_trichotomy x y with h | h | h
  · have := sq_mono (by omega : (0 : Int) ≤ x + 1) (by omega : x + 1 ≤ y); omega
  · exact h
  · have := sq_mono (by omega : (0 : Int) ≤ y + 1) (by omega : y + 1 ≤ x); omega
theorem isq_spec (n : Int) (h0 : 0 ≤ n) (h : n < 85070591730234615865843651857942052864) : 0 ≤ isq n ∧ isq n * isq n ≤ n ∧ n < (isq n + 1) * (isq n + 1) :=
  isqf_spec n 63 0 (by omega) (by omega) (by show n < (0 + 9223372036854775808) * (0 + 9223372036854775808); omega)
theorem isq_bd (n : Int) (h0 : 0 ≤ n) (h : n < 85070591730234615865843651857942052864) : 0 ≤ isq n ∧ isq n ≤ 18446744073709551615 := by
  have := isq_spec n h0 h
  refine ⟨this.1, ?_⟩
  by_cases c : isq n ≤ 18446744073709551615
  · exact c
  · have h2 := sq_mono (by decide : (0 : Int) ≤ 18446744073709551616) (by omega : 18446744073709551616 ≤ isq n)
    omega
theorem isqf_eq (n : Int) (m : Nat) (h0 : 0 ≤ n) (h : n < 85070591730234615865843651857942052864) (hm : n < 2 ^ m * 2 ^ m) : isqf n m 0 = isq n := by
  have a := isqf_spec n m 0 (by omega) (by omega) (by simpa using hm)
  have b := isq_spec n h0 h
  exact isq_unique _ _ n a.1 b.1 a.2.1 a.2.2 b.2.1 b.2.2
theorem or_pow (r : Int) (j : Nat) (h0 : 0 ≤ r) (h : r % 2 ^ (j + 1) = 0) (hr : r ≤ 9223372036854775807) (hj : j < 63) : bits .or .u64 r (2 ^ j) = r + 2 ^ j := by
  obtain ⟨x, rfl⟩ := Int.eq_ofNat_of_zero_le h0
  have e : (2 : Int) ^ j = ((2 ^ j : Nat) : Int) := by simp
  have hb : 2 ^ j < 2 ^ 63 := Nat.pow_lt_pow_right (by decide) hj
  have hx : x % 2 ^ (j + 1) = 0 := by
    have e2 : (2 : Int) ^ (j + 1) = ((2 ^ (j + 1) : Nat) : Int) := by simp
    rw [e2] at h
    exact_mod_cast h
  rw [e, u64_or _ _ (by omega) (by omega) (by omega) (by omega)]
  simp only [Int.toNat_natCast]
  rw [nat_join (j + 1) _ _ hx (Nat.pow_lt_pow_right (by decide) (by omega))]
  omega
theorem mod_pow_half (r : Int) (j : Nat) (h : r % 2 ^ (j + 1) = 0) : r % 2 ^ j = 0 ∧ (r + 2 ^ j) % 2 ^ j = 0 := by
  have h1 : (2 : Int) ^ j ∣ 2 ^ (j + 1) := ⟨2, by rw [Int.pow_succ]⟩
  have h2 : (2 : Int) ^ j ∣ r := Int.dvd_trans h1 (Int.dvd_of_emod_eq_zero h)
  exact ⟨Int.emod_eq_zero_of_dvd h2, Int.emod_eq_zero_of_dvd (Int.dvd_add h2 (Int.dvd_refl _))⟩
/-- Bit j - 1: 0 of j 0. -/
def bitAt (j : Nat) : Int := match j with | 0 => 0 | j + 1 => 2 ^ j
theorem bitAt_half (j : Nat) : bitAt (j + 1) / 2 = bitAt j := by
  cases j with
  | zero => rfl
  | succ k => show (2 : Int) ^ (k + 1) / 2 = 2 ^ k; rw [Int.pow_succ]; omega
theorem bitAt_bd (j : Nat) (h : j ≤ 63) : 0 ≤ bitAt j ∧ bitAt j ≤ 4611686018427387904 := by
  cases j with
  | zero => exact ⟨by decide, by decide⟩
  | succ k =>
    have h3 : (2 : Nat) ^ k ≤ 2 ^ 62 := Nat.pow_le_pow_right (by decide) (by omega)
    have h4 : (2 : Int) ^ k ≤ 2 ^ 62 := by exact_mod_cast h3
    exact ⟨Int.le_of_lt (two_pow_pos k), h4⟩
theorem root_bd (r : Int) (j : Nat) (h : r + 2 ^ (j + 1) ≤ 9223372036854775808) : r + 2 ^ j + 2 ^ j ≤ 9223372036854775808 := by
  rw [Int.pow_succ] at h; omega

/-! ### A number of two words in memory -/
structure Wd (c : Nat) (n : Int) (w : World) : Prop where
  hi : w.cell? ⟨c, 0, none⟩ = some (.int .u64 (hi64 n))
  lo : w.cell? ⟨c, 1, none⟩ = some (.int .u64 (lo64 n))
  fh : w.frozen? ⟨c, 0, none⟩ = false
  fl : w.frozen? ⟨c, 1, none⟩ = false
  lies : c < w.heap.size
theorem Wd.below {c : Nat} {n : Int} {w w' : World} (h : Wd c n w) (hb : Below w.heap.size w w') : Wd c n w' :=
  ⟨(hb.cell (p := ⟨c, 0, none⟩) h.lies).trans h.hi, (hb.cell (p := ⟨c, 1, none⟩) h.lies).trans h.lo, (hb.frozen (p := ⟨c, 0, none⟩) h.lies).trans h.fh, (hb.frozen (p := ⟨c, 1, none⟩) h.lies).trans h.fl, Nat.lt_of_lt_of_le h.lies hb.size⟩
theorem Wd.put {c : Nat} {n : Int} {w : World} (h : Wd c n w) (m : Int) : Wd c m ((w.setCell ⟨c, 0, none⟩ (.int .u64 (hi64 m))).setCell ⟨c, 1, none⟩ (.int .u64 (lo64 m))) := by
  have h1 := World.cell?_setCell_same w ⟨c, 0, none⟩ (.int .u64 (hi64 m)) h.hi
  have h2 : (w.setCell ⟨c, 0, none⟩ (.int .u64 (hi64 m))).cell? ⟨c, 1, none⟩ = some (.int .u64 (lo64 n)) := by rw [World.cell?_setCell_other _ _ _ _ (by simp)]; exact h.lo
  refine ⟨?_, World.cell?_setCell_same _ _ _ h2, ?_, ?_, ?_⟩
  · rw [World.cell?_setCell_other _ _ _ _ (by simp)]; exact h1
  · simp only [World.frozen?_setCell]; exact h.fh
  · simp only [World.frozen?_setCell]; exact h.fl
  · simp only [World.size_setCell]; exact h.lies
theorem Wd.far {c d : Nat} {n : Int} {w : World} (h : Wd c n w) (hd : d ≠ c) (u v : Value) : Wd c n ((w.setCell ⟨d, 0, none⟩ u).setCell ⟨d, 1, none⟩ v) := by
  refine ⟨?_, ?_, ?_, ?_, ?_⟩
  · rw [World.cell?_setCell_other _ _ _ _ (fun e => hd (congrArg Addr.block e)), World.cell?_setCell_other _ _ _ _ (fun e => hd (congrArg Addr.block e))]; exact h.hi
  · rw [World.cell?_setCell_other _ _ _ _ (fun e => hd (congrArg Addr.block e)), World.cell?_setCell_other _ _ _ _ (fun e => hd (congrArg Addr.block e))]; exact h.lo
  · simp only [World.frozen?_setCell]; exact h.fh
  · simp only [World.frozen?_setCell]; exact h.fl
  · simp only [World.size_setCell]; exact h.lies
theorem hi64_small (x : Int) (h0 : 0 ≤ x) (h1 : x ≤ 18446744073709551615) : hi64 x = 0 ∧ lo64 x = x := by unfold hi64 lo64; omega
/-- Of a product that is worked bit by bit. -/
theorem times_bd (s t y p : Int) (e : s + t * y = p) (hs : 0 ≤ s) (ht : 0 ≤ t) (hy : 1 ≤ y) : t ≤ p ∧ s + t ≤ p := by
  have h := Int.mul_le_mul_of_nonneg_left hy ht
  omega
theorem times_odd (s t y p : Int) (e : s + t * y = p) (h : y % 2 = 1) : s + t + (t + t) * (y / 2) = p := by
  have : y = 2 * (y / 2) + 1 := by omega
  rw [this] at e
  have e2 : y / 2 = (2 * (y / 2) + 1) / 2 := by omega
  generalize y / 2 = k at *
  grind
theorem times_even (s t y p : Int) (e : s + t * y = p) (h : y % 2 = 0) : s + (t + t) * (y / 2) = p := by
  have : y = 2 * (y / 2) := by omega
  rw [this] at e
  have e2 : y / 2 = 2 * (y / 2) / 2 := by omega
  generalize y / 2 = k at *
  grind
theorem mul_bd63 (x y : Int) (hx : 0 ≤ x ∧ x ≤ 9223372036854775808) (hy : 0 ≤ y ∧ y ≤ 9223372036854775808) : 0 ≤ x * y ∧ x * y ≤ 85070591730234615865843651857942052864 := by
  refine ⟨Int.mul_nonneg hx.1 hy.1, ?_⟩
  have := Int.mul_le_mul hx.2 hy.2 hy.1 (by omega : (0 : Int) ≤ 9223372036854775808)
  omega

theorem hi_of_quot (n d : Int) (hd : 1 ≤ d) (h : n / d ≤ 4611686018427387904) : hi64 n < d := by
  have e := hilo n
  have b := lo64_bd n
  have h2 : n < (n / d + 1) * d := Int.lt_ediv_add_one_mul_self n (by omega)
  have h3 : (n / d + 1) * d ≤ 4611686018427387905 * d := Int.mul_le_mul_of_nonneg_right (by omega) (by omega)
  omega
/-- Rounding, as the reference says it. -/
theorem rnd_ways (n d : Int) (hd : 1 ≤ d) : (d - n % d ≤ n % d → rnd n d = n / d + 1) ∧ (n % d < d - n % d → rnd n d = n / d) := by
  have e := Int.mul_ediv_add_emod n d
  have r0 : 0 ≤ n % d := Int.emod_nonneg n (by omega)
  have r1 : n % d < d := Int.emod_lt_of_pos n (by omega)
  unfold rnd
  generalize n / d = q at *
  generalize n % d = r at *
  refine ⟨fun c => ?_, fun c => ?_⟩
  · have e2 : n + d / 2 = (r + d / 2 - d) + d * (q + 1) := by grind
    rw [e2, Int.add_mul_ediv_left _ _ (by omega), Int.ediv_eq_zero_of_lt (by omega) (by omega)]
    omega
  · have e2 : n + d / 2 = (r + d / 2) + d * q := by grind
    rw [e2, Int.add_mul_ediv_left _ _ (by omega), Int.ediv_eq_zero_of_lt (by omega) (by omega)]
    omega

theorem sz_zero {q : Int} (h : q = 0) : sz q = 0 := by rw [h]; rfl
theorem rnd_top {n d : Int} (hd : 1 ≤ d) (h : n / d ≤ 4611686018427387904) : rnd n d ≤ 18446744073709551615 := by
  have := rnd_ways n d hd
  by_cases c : d - n % d ≤ n % d
  · rw [this.1 c]; omega
  · rw [this.2 (by omega)]; omega
theorem out_much {n d : Int} (minus : Bool) (hd : 1 ≤ d) (h : 4611686018427387904 < n / d) : out (rnd n d) minus = (0, true) := by
  have := rnd_ways n d hd
  have h2 : 4611686018427387904 < rnd n d := by
    by_cases c : d - n % d ≤ n % d
    · rw [this.1 c]; omega
    · rw [this.2 (by omega)]; omega
  unfold out
  rw [← sgnd_out _ _ (by omega), decide_eq_true h2]
def ratS (a p q : Int) : Int × Bool := if q = 0 then (0, true) else out (rnd (sz a * sz p) (sz q)) ((decide (a < 0) != decide (p < 0)) != decide (q < 0))
theorem ratS_no {a p q : Int} (c : q = 0 ∨ 4611686018427387904 < sz a * sz p / sz q) : ratS a p q = (0, true) := by
  unfold ratS
  by_cases q0 : q = 0
  · rw [if_pos q0]
  · rw [if_neg q0]
    exact out_much _ (sz_pos (by simpa using q0)) (by rcases c with c | c; exact absurd c q0; exact c)
theorem ratS_yes (a p q : Int) (h : (q != 0) = true) : ratS a p q = out (rnd (sz a * sz p) (sz q)) ((decide (a < 0) != decide (p < 0)) != decide (q < 0)) := by
  unfold ratS
  rw [if_neg (by simpa using h)]
theorem partS_rat {bad : Bool} {a p q : Int} (c : tk bad [a, p, q] = true) : partS bad a p q = ratS a p q := by
  by_cases q0 : q = 0
  · subst q0; rw [partS_zero]; rfl
  · rw [partS_yes c (by simpa using q0), ratS_yes a p q (by simpa using q0)]

theorem half_bd (x : Int) (h : -4611686018427387904 ≤ x ∧ x ≤ 4611686018427387904) : -2305843009213693952 ≤ x.tdiv 2 ∧ x.tdiv 2 ≤ 2305843009213693952 ∧ -1 ≤ x.tmod 2 ∧ x.tmod 2 ≤ 1 := by
  have e := Int.mul_tdiv_add_tmod x 2
  have b := tmod_bd x 2 (by decide)
  omega
theorem half_rest (x y : Int) : -1 ≤ (x.tmod 2 + y.tmod 2).tdiv 2 ∧ (x.tmod 2 + y.tmod 2).tdiv 2 ≤ 1 := by
  have b1 := tmod_bd x 2 (by decide)
  have b2 := tmod_bd y 2 (by decide)
  generalize x.tmod 2 = p at *
  generalize y.tmod 2 = q at *
  have e := Int.mul_tdiv_add_tmod (p + q) 2
  have b := tmod_bd (p + q) 2 (by decide)
  omega
theorem half_sum (x y : Int) : 2 * (x.tdiv 2 + y.tdiv 2 + (x.tmod 2 + y.tmod 2).tdiv 2) ≤ x + y + 1 ∧ x + y ≤ 2 * (x.tdiv 2 + y.tdiv 2 + (x.tmod 2 + y.tmod 2).tdiv 2) + 1 := by
  have e1 := Int.mul_tdiv_add_tmod x 2
  have e2 := Int.mul_tdiv_add_tmod y 2
  generalize x.tmod 2 = p at *
  generalize y.tmod 2 = q at *
  have e := Int.mul_tdiv_add_tmod (p + q) 2
  have b := tmod_bd (p + q) 2 (by decide)
  omega
theorem num_wrap (n : Int) (h : -9223372036854775808 ≤ n ∧ n ≤ 9223372036854775808) : numB (wrap64 n) = numB n := by
  have := congrArg Prod.snd (gv_wrap n h)
  unfold gv at this
  simpa using this
theorem gv_no {n : Int} (h : numB n = false) : gv n = (0, true) := by unfold gv; rw [h]; rfl
theorem gv_yes {n : Int} (h : numB n = true) : gv n = (n, false) := by unfold gv; rw [h]; rfl
theorem numB_neg (n : Int) : numB (-n) = numB n := by unfold numB; rw [Bool.eq_iff_iff]; simp; omega
theorem subS_neg {bad : Bool} {a b : Int} (c : tk bad [a, b] = true) : subS bad a b = addS false a (-b) := by
  have h := tk_two c
  rw [subS_yes c, addS_yes (by unfold tk; simp [h.2.1, numB_neg, h.2.2]), Int.sub_eq_add_neg]
theorem wrap_bit (m : Nat) (h : m ≤ 62) : IntKind.u64.wrap (2 ^ m) = bitAt (m + 1) := by
  have := bitAt_bd (m + 1) (by omega)
  exact IntWalk.u64_in (bitAt (m + 1)) ⟨this.1, by omega⟩
theorem sz_sq (x : Int) : sz x * sz x = x * x := by
  unfold sz
  split
  · rw [Int.neg_mul_neg]
  · rfl
theorem sq_bd {x : Int} (h : numB x = true) : 0 ≤ x * x ∧ x * x ≤ 21267647932558653966460912964485513216 := by
  rw [← sz_sq x]; exact sz_mul_bd h h
theorem Wd_new (w : World) (t : TypeId) : Wd w.heap.size 0 (w.alloc (.cells #[.int .u64 0, .int .u64 0] t)) :=
  ⟨by simp [show hi64 0 = 0 by rfl], by simp [show lo64 0 = 0 by rfl], by simp, by simp, by simp⟩

/-! ### A quotient times its divisor -/
theorem out_bad (n : Int) (m : Bool) (h : (out n m).2 = true) : (out n m).1 = 0 := by
  have h2 : 4611686018427387904 < n := of_decide_eq_true h
  exact (sgnd_out n m (by omega)).symm
theorem out_good (n : Int) (m : Bool) (h : (out n m).2 = false) : n ≤ 4611686018427387904 ∧ (out n m).1 = if m then -n else n := by
  have h2 : ¬ 4611686018427387904 < n := of_decide_eq_false h
  exact ⟨by omega, (sgnd_in n m (by omega)).symm⟩
theorem partS_bad (bad : Bool) (a p q : Int) (h : (partS bad a p q).2 = true) : (partS bad a p q).1 = 0 := by
  unfold partS at h ⊢
  split
  · rename_i c; rw [if_pos c] at h; exact out_bad _ _ h
  · rfl
theorem numB_of {n : Int} (h : -4611686018427387904 ≤ n ∧ n ≤ 4611686018427387904) : numB n = true := by unfold numB; simp; exact h
theorem rnd_near (n d : Int) (hd : 1 ≤ d) : rnd n d * d ≤ n + d / 2 ∧ n ≤ rnd n d * d + d / 2 := by
  unfold rnd
  have e := Int.mul_ediv_add_emod (n + d / 2) d
  have r0 : 0 ≤ (n + d / 2) % d := Int.emod_nonneg _ (by omega)
  have r1 : (n + d / 2) % d < d := Int.emod_lt_of_pos _ (by omega)
  rw [Int.mul_comm d] at e
  omega
theorem back_near (a b : Int) (ha : -1125899906842624 ≤ a ∧ a ≤ 1125899906842624) (hb : -1125899906842624 ≤ b ∧ b ≤ 1125899906842624) (b0 : b ≠ 0)
    (h1 : (divS false a b).2 = false) (h2 : (mulS false (divS false a b).1 b).2 = false) :
    -4611686018427387904 ≤ (mulS false (divS false a b).1 b).1 ∧ (mulS false (divS false a b).1 b).1 ≤ 4611686018427387904 ∧
    (mulS false (divS false a b).1 b).1 - a ≤ sz b / 2199023255552 + 1 ∧ a - (mulS false (divS false a b).1 b).1 ≤ sz b / 2199023255552 + 1 := by
  have na : numB a = true := numB_of (by omega)
  have nb : numB b = true := numB_of (by omega)
  have bz : (b != 0) = true := by simpa using b0
  have ed : divS false a b = out (rnd (sz a * 1099511627776) (sz b)) (decide (a < 0) != decide (b < 0)) := by
    unfold divS
    rw [partS_yes (by unfold tk; simp [na, nb, show numB 1099511627776 = true by rfl]) bz]
    simp [show sz 1099511627776 = 1099511627776 by rfl]
  have sb := sz_pos bz
  rw [ed] at h1 h2 ⊢
  have g1 := out_good _ _ h1
  have nr := rnd_near (sz a * 1099511627776) (sz b) sb
  have r0 : 0 ≤ rnd (sz a * 1099511627776) (sz b) := rnd_nonneg (by have := sz_bd na; omega) sb
  generalize rnd (sz a * 1099511627776) (sz b) = r at *
  rw [g1.2] at h2 ⊢
  generalize hq : (if (decide (a < 0) != decide (b < 0)) = true then -r else r) = q at *
  have nq : numB q = true := numB_of (by rw [← hq]; split <;> omega)
  have sq : sz q = r := by rw [← hq]; unfold sz; split <;> split <;> omega
  rw [mulS_yes (by unfold tk; simp [nq, nb])] at h2 ⊢
  have g2 := out_good _ _ h2
  rw [g2.2, sq]
  have g3 := g2.1
  rw [sq] at g3
  have p0 : 0 ≤ r * sz b := Int.mul_nonneg r0 (by omega)
  have qb : (decide (q < 0) != decide (b < 0)) = true → 0 < r → a < 0 := by
    intro h3 h4
    rw [← hq] at h3
    by_cases x : a < 0
    · exact x
    · by_cases y : b < 0
      · simp [x, y] at h3; omega
      · simp [x, y] at h3; omega
  have qb2 : (decide (q < 0) != decide (b < 0)) = false → 0 < r → 0 ≤ a := by
    intro h3 h4
    rw [← hq] at h3
    by_cases x : a < 0
    · by_cases y : b < 0
      · simp [x, y] at h3; omega
      · simp [x, y] at h3; omega
    · omega
  have rz : r = 0 → r * sz b = 0 := fun h => by rw [h, Int.zero_mul]
  have sa : sz a = if a < 0 then -a else a := rfl
  generalize r * sz b = p at *
  generalize sz b = s at *
  generalize sz a = t at *
  cases hc : (decide (q < 0) != decide (b < 0))
  · have q2 := qb2 hc
    simp only [Bool.false_eq_true, if_false]
    by_cases rp : 0 < r
    · have := q2 rp
      rw [if_neg (by omega)] at sa
      omega
    · have := rz (by omega)
      split at sa <;> omega
  · have q2 := qb hc
    simp only [if_true]
    by_cases rp : 0 < r
    · have := q2 rp
      rw [if_pos (by omega)] at sa
      omega
    · have := rz (by omega)
      split at sa <;> omega
theorem neg_tdiv_eq (b : Int) (h : b ≤ 0) : -(b.tdiv 2199023255552) = -b / 2199023255552 := by
  rw [← Int.neg_tdiv, Int.tdiv_eq_ediv_of_nonneg (by omega)]
theorem back_tdiv (b : Int) (hb : -1125899906842624 ≤ b ∧ b ≤ 1125899906842624) : -1000 ≤ b.tdiv 2199023255552 ∧ b.tdiv 2199023255552 ≤ 1000 := by
  by_cases h : b ≤ 0
  · have := neg_tdiv_eq b h; omega
  · rw [Int.tdiv_eq_ediv_of_nonneg (by omega)]; omega
end Go.Proofs.YtoadcnhcfodkgaaGreatDoor
