/- A part. -/
import Derived.WalkKit
import Derived.WalkSpells
import Derived.WalkLawsBesides
import Derived.Laws.BitsAllLaws
namespace Go.Proofs.Ytooehgijllihdaa
open Go.RowKit
def hi64 (n : Int) : Int := n / 18446744073709551616
def lo64 (n : Int) : Int := n % 18446744073709551616
theorem hi64_bd (n : Int) (h0 : 0 ≤ n) (h : n < 340282366920938463463374607431768211456) : 0 ≤ hi64 n ∧ hi64 n ≤ 18446744073709551615 := by unfold hi64; omega
theorem lo64_bd (n : Int) : 0 ≤ lo64 n ∧ lo64 n ≤ 18446744073709551615 := by unfold lo64; omega
theorem hilo (n : Int) : hi64 n * 18446744073709551616 + lo64 n = n := by unfold hi64 lo64; omega
def numB (n : Int) : Bool := decide (-4611686018427387904 ≤ n) && decide (n ≤ 4611686018427387904)
theorem numB_bd {n : Int} (h : numB n = true) : -4611686018427387904 ≤ n ∧ n ≤ 4611686018427387904 := by unfold numB at h; simpa using h
def sz (n : Int) : Int := if n < 0 then -n else n
def sat64 (n : Int) : Int := if n ≤ 18446744073709551615 then n else 18446744073709551615
def sgnd (n : Int) (minus : Bool) : Int := if n ≤ 4611686018427387904 then (if minus then -n else n) else 0
theorem sgnd_in (n : Int) (minus : Bool) (c : n ≤ 4611686018427387904) : (if minus then -n else n) = sgnd n minus := by unfold sgnd; rw [if_pos c]
theorem sgnd_out (n : Int) (minus : Bool) (c : ¬ n ≤ 4611686018427387904) : 0 = sgnd n minus := by unfold sgnd; rw [if_neg c]
def tk (bad : Bool) (zs : List Int) : Bool := !bad && zs.all numB
theorem tk_not (bad : Bool) (zs : List Int) : (bad || !zs.all numB) = !tk bad zs := by unfold tk; cases bad <;> simp
theorem tk_two {bad : Bool} {a b : Int} (h : tk bad [a, b] = true) : bad = false ∧ numB a = true ∧ numB b = true := by unfold tk at h; simp at h; exact ⟨h.1, h.2.1, h.2.2⟩
theorem tk_one {bad : Bool} {a : Int} (h : tk bad [a] = true) : bad = false ∧ numB a = true := by unfold tk at h; simp at h; exact ⟨h.1, h.2⟩
theorem tk_three {bad : Bool} {a b c : Int} (h : tk bad [a, b, c] = true) : bad = false ∧ numB a = true ∧ numB b = true ∧ numB c = true := by unfold tk at h; simp at h; exact ⟨h.1, h.2.1, h.2.2.1, h.2.2.2⟩
def gv (n : Int) : Int × Bool := (if numB n then n else 0, !numB n)
def out (n : Int) (minus : Bool) : Int × Bool := (sgnd n minus, decide (4611686018427387904 < n))
def addS (bad : Bool) (a b : Int) : Int × Bool := if tk bad [a, b] then gv (a + b) else (0, true)
def subS (bad : Bool) (a b : Int) : Int × Bool := if tk bad [a, b] then gv (a - b) else (0, true)
def rnd (n d : Int) : Int := (n + d / 2) / d
def partS (bad : Bool) (a p q : Int) : Int × Bool := if tk bad [a, p, q] && q != 0 then out (rnd (sz a * sz p) (sz q)) ((decide (a < 0) != decide (p < 0)) != decide (q < 0)) else (0, true)
def mulS (bad : Bool) (a b : Int) : Int × Bool := partS bad a b 1099511627776
def divS (bad : Bool) (a b : Int) : Int × Bool := partS bad a 1099511627776 b
theorem addS_no {bad : Bool} {a b : Int} (c : tk bad [a, b] = false) : addS bad a b = (0, true) := by unfold addS; rw [c]; rfl
theorem addS_yes {bad : Bool} {a b : Int} (c : tk bad [a, b] = true) : addS bad a b = gv (a + b) := by unfold addS; rw [c]; rfl
theorem subS_no {bad : Bool} {a b : Int} (c : tk bad [a, b] = false) : subS bad a b = (0, true) := by unfold subS; rw [c]; rfl
theorem subS_yes {bad : Bool} {a b : Int} (c : tk bad [a, b] = true) : subS bad a b = gv (a - b) := by unfold subS; rw [c]; rfl
theorem gv_wrap (n : Int) (h : -9223372036854775808 ≤ n ∧ n ≤ 9223372036854775808) : gv (wrap64 n) = gv n := by
 by_cases c : n = 9223372036854775808
 ·subst c; rw [show wrap64 9223372036854775808 = -9223372036854775808 by unfold wrap64; decide]; rfl
 ·rw [IntWalk.wrap64_in n ⟨by omega, by omega⟩]
theorem partS_no {bad : Bool} {a p q : Int} (c : tk bad [a, p, q] = false) : partS bad a p q = (0, true) := by unfold partS; rw [c]; rfl
theorem partS_zero {bad : Bool} {a p : Int} : partS bad a p 0 = (0, true) := by unfold partS; rw [show ((0 : Int) != 0) = false by rfl, Bool.and_false]; rfl
theorem partS_yes {bad : Bool} {a p q : Int} (c : tk bad [a, p, q] = true) (h : (q != 0) = true) : partS bad a p q = out (rnd (sz a * sz p) (sz q)) ((decide (a < 0) != decide (p < 0)) != decide (q < 0)) := by unfold partS; rw [c, h]; rfl
theorem sz_bd {a : Int} (h : numB a = true) : 0 ≤ sz a ∧ sz a ≤ 4611686018427387904 := by
 have := numB_bd h
 unfold sz
 split <;> omega
theorem sz_pos {a : Int} (h : (a != 0) = true) : 1 ≤ sz a := by
 have h1 : a ≠ 0 := by simpa using h
 unfold sz
 split <;> omega
theorem sz_mul_bd {a b : Int} (h : numB a = true) (k : numB b = true) : 0 ≤ sz a * sz b ∧ sz a * sz b ≤ 21267647932558653966460912964485513216 := by
 have h1 := sz_bd h
 have h2 := sz_bd k
 refine ⟨Int.mul_nonneg h1.1 h2.1, ?_⟩
 have := Int.mul_le_mul h1.2 h2.2 h2.1 (by omega : (0 : Int) ≤ 4611686018427387904)
 omega
theorem tk_one3 (bad : Bool) (a b : Int) : tk bad [a, b, 1099511627776] = tk bad [a, b] := by unfold tk; simp [show numB 1099511627776 = true by rfl]
theorem mulS_no {bad : Bool} {a b : Int} (c : tk bad [a, b] = false) : mulS bad a b = (0, true) := partS_no ((tk_one3 bad a b).trans c)
theorem mulS_yes {bad : Bool} {a b : Int} (c : tk bad [a, b] = true) : mulS bad a b = out ((sz a * sz b + 549755813888) / 1099511627776) (decide (a < 0) != decide (b < 0)) := by
 unfold mulS
 rw [partS_yes ((tk_one3 bad a b).trans c) rfl]
 simp [rnd, show sz 1099511627776 = 1099511627776 by rfl]
theorem sat_out (n : Int) (minus : Bool) : out (sat64 n) minus = out n minus := by
 unfold sat64
 split
 ·rfl
 ·unfold out sgnd
  rw [if_neg (by decide), if_neg (by omega), decide_eq_true (by decide), decide_eq_true (by omega)]
theorem sat_bd (n : Int) (h : 0 ≤ n) : 0 ≤ sat64 n ∧ sat64 n ≤ 18446744073709551615 := by unfold sat64; split <;> omega
theorem rnd_nonneg {n d : Int} (h : 0 ≤ n) (hd : 1 ≤ d) : 0 ≤ rnd n d := Int.ediv_nonneg (by omega) (by omega)
theorem sz_nonneg {a : Int} (h : 0 ≤ a) : sz a = a := by unfold sz; rw [if_neg (by omega)]
theorem mul_split (ah al bh bl : Int) : (ah * 4294967296 + al) * (bh * 4294967296 + bl) = (ah * bh) * 18446744073709551616 + (ah * bl + al * bh) * 4294967296 + al * bl := by grind
theorem mul_bd (x y : Int) (h0 : 0 ≤ x) (h1 : x ≤ 4294967295) (k0 : 0 ≤ y) (k1 : y ≤ 4294967295) : 0 ≤ x * y ∧ x * y ≤ 18446744065119617025 := by
 refine ⟨Int.mul_nonneg h0 k0, ?_⟩
 have := Int.mul_le_mul h1 k1 k0 (by omega : (0:Int) ≤ 4294967295)
 omega
theorem or_join32 (x y : Int) (h0 : 0 ≤ x) (h1 : x ≤ 4294967295) (k0 : 0 ≤ y) (k1 : y ≤ 4294967295) : bits .or .u64 (x * 4294967296) y = x * 4294967296 + y := by
 rw [u64_or _ _ (by omega) (by omega) (by omega) (by omega), nat_join 32 _ _ (by omega) (by omega)]
 omega
theorem or_join24 (x y : Int) (h0 : 0 ≤ x) (h1 : x ≤ 1099511627775) (k0 : 0 ≤ y) (k1 : y ≤ 16777215) : bits .or .u64 (x * 16777216) y = x * 16777216 + y := by
 rw [u64_or _ _ (by omega) (by omega) (by omega) (by omega), nat_join 24 _ _ (by omega) (by omega)]
 omega
theorem shifted_words (n x y : Int) (h : x * 18446744073709551616 + y = n + 549755813888) (b1 : 0 ≤ x ∧ x ≤ 18446744073709551615) (b2 : 0 ≤ y ∧ y ≤ 18446744073709551615) (c : x / 1099511627776 = 0) :
  bits .or .u64 (IntKind.u64.wrap (x * 16777216)) (y / 1099511627776) = sat64 ((n + 549755813888) / 1099511627776) := by
 rw [← h, IntKind.wrap_u64, show x * 16777216 % 18446744073709551616 = x * 16777216 by omega, or_join24 _ _ (by omega) (by omega) (by omega) (by omega)]
 unfold sat64
 rw [if_pos (by omega)]
 omega
theorem shifted_much (n x y : Int) (h : x * 18446744073709551616 + y = n + 549755813888) (b1 : 0 ≤ x ∧ x ≤ 18446744073709551615) (b2 : 0 ≤ y ∧ y ≤ 18446744073709551615) (c : ¬ x / 1099511627776 = 0) :
  18446744073709551615 = sat64 ((n + 549755813888) / 1099511627776) := by
 rw [← h]
 unfold sat64
 rw [if_neg (by omega)]
theorem prod_words (a b : Int) (h0 : 0 ≤ a) (h1 : a ≤ 18446744073709551615) (k0 : 0 ≤ b) (k1 : b ≤ 18446744073709551615) :
  IntKind.u64.wrap (IntKind.u64.wrap (IntKind.u64.wrap (a / 4294967296 * (b / 4294967296)) + IntKind.u64.wrap (IntKind.u64.wrap (a / 4294967296 * (b % 4294967296)) + IntKind.u64.wrap (a % 4294967296 * (b % 4294967296)) / 4294967296) / 4294967296) + IntKind.u64.wrap (IntKind.u64.wrap (a % 4294967296 * (b / 4294967296)) + IntKind.u64.wrap (IntKind.u64.wrap (a / 4294967296 * (b % 4294967296)) + IntKind.u64.wrap (a % 4294967296 * (b % 4294967296)) / 4294967296) % 4294967296) / 4294967296) = hi64 (a * b) ∧
  bits BinOp.or IntKind.u64 (IntKind.u64.wrap (IntKind.u64.wrap (IntKind.u64.wrap (a % 4294967296 * (b / 4294967296)) + IntKind.u64.wrap (IntKind.u64.wrap (a / 4294967296 * (b % 4294967296)) + IntKind.u64.wrap (a % 4294967296 * (b % 4294967296)) / 4294967296) % 4294967296) * 4294967296)) (IntKind.u64.wrap (a % 4294967296 * (b % 4294967296)) % 4294967296) = lo64 (a * b) := by
 have e := mul_split (a / 4294967296) (a % 4294967296) (b / 4294967296) (b % 4294967296)
 rw [show a / 4294967296 * 4294967296 + a % 4294967296 = a by omega, show b / 4294967296 * 4294967296 + b % 4294967296 = b by omega] at e
 have p1 := mul_bd (a / 4294967296) (b / 4294967296) (by omega) (by omega) (by omega) (by omega)
 have p2 := mul_bd (a / 4294967296) (b % 4294967296) (by omega) (by omega) (by omega) (by omega)
 have p3 := mul_bd (a % 4294967296) (b / 4294967296) (by omega) (by omega) (by omega) (by omega)
 have p4 := mul_bd (a % 4294967296) (b % 4294967296) (by omega) (by omega) (by omega) (by omega)
 generalize a / 4294967296 * (b / 4294967296) = p at *
 generalize a / 4294967296 * (b % 4294967296) = q at *
 generalize a % 4294967296 * (b / 4294967296) = r at *
 generalize a % 4294967296 * (b % 4294967296) = t at *
 generalize a * b = n at *
 simp only [IntKind.wrap_u64]
 rw [show p % 18446744073709551616 = p by omega, show q % 18446744073709551616 = q by omega, show r % 18446744073709551616 = r by omega, show t % 18446744073709551616 = t by omega]
 rw [show (q + t / 4294967296) % 18446744073709551616 = q + t / 4294967296 by omega]
 rw [show (r + (q + t / 4294967296) % 4294967296) % 18446744073709551616 = r + (q + t / 4294967296) % 4294967296 by omega]
 rw [show (r + (q + t / 4294967296) % 4294967296) * 4294967296 % 18446744073709551616 = ((r + (q + t / 4294967296) % 4294967296) % 4294967296) * 4294967296 by omega]
 rw [or_join32 _ _ (by omega) (by omega) (by omega) (by omega)]
 unfold hi64 lo64
 constructor <;> omega
def ldq (n d : Int) (m : Nat) : Int := n / 2 ^ m / d
def ldr (n d : Int) (m : Nat) : Int := n / 2 ^ m % d
theorem two_pow_pos (m : Nat) : (0 : Int) < 2 ^ m := Int.pow_pos (by decide)
theorem half_step (n : Int) (m : Nat) : n / 2 ^ m = 2 * (n / 2 ^ (m + 1)) + n / 2 ^ m % 2 := by
 have e : n / 2 ^ (m + 1) = n / 2 ^ m / 2 := by rw [Int.pow_succ, Int.ediv_ediv_of_nonneg (Int.le_of_lt (two_pow_pos m))]
 rw [e]; omega
theorem low_bit (n : Int) (m : Nat) (h : m < 64) : lo64 n / 2 ^ m % 2 = n / 2 ^ m % 2 := by
 obtain ⟨k, hk⟩ : ∃ k, 64 = m + (k + 1) := ⟨63 - m, by omega⟩
 have e : (18446744073709551616 : Int) = 2 ^ m * (2 ^ k * 2) := by rw [← Int.pow_succ, ← Int.pow_add, ← hk]; decide
 have h1 := hilo n
 have h2 : n / 2 ^ m = lo64 n / 2 ^ m + hi64 n * (2 ^ k * 2) := by
  have h3 : n = lo64 n + 2 ^ m * (hi64 n * (2 ^ k * 2)) := by rw [e] at h1; grind
  generalize lo64 n = l at *
  generalize hi64 n * (2 ^ k * 2) = x at *
  rw [h3, Int.add_mul_ediv_left _ _ (Int.ne_of_gt (two_pow_pos m))]
 rw [h2, ← Int.mul_assoc]
 omega
theorem ldq_step (n d : Int) (m : Nat) (hd : 0 < d) :
  (d ≤ 2 * ldr n d (m + 1) + n / 2 ^ m % 2 → ldq n d m = 2 * ldq n d (m + 1) + 1 ∧ ldr n d m = 2 * ldr n d (m + 1) + n / 2 ^ m % 2 - d) ∧
  (2 * ldr n d (m + 1) + n / 2 ^ m % 2 < d → ldq n d m = 2 * ldq n d (m + 1) ∧ ldr n d m = 2 * ldr n d (m + 1) + n / 2 ^ m % 2) := by
 unfold ldq ldr
 have e := half_step n m
 have hb : 0 ≤ n / 2 ^ m % 2 ∧ n / 2 ^ m % 2 < 2 := by omega
 generalize n / 2 ^ m % 2 = t at *
 generalize n / 2 ^ (m + 1) = y at *
 generalize n / 2 ^ m = x at *
 have e2 := Int.mul_ediv_add_emod y d
 have h1 := Int.emod_nonneg y (Int.ne_of_gt hd)
 have h2 := Int.emod_lt_of_pos y hd
 generalize y / d = q at *
 generalize y % d = r at *
 refine ⟨fun c => ?_, fun c => ?_⟩
 ·have : x = (2 * r + t - d) + d * (2 * q + 1) := by grind
  rw [this, Int.add_mul_ediv_left _ _ (Int.ne_of_gt hd), Int.add_mul_emod_self_left, Int.ediv_eq_zero_of_lt (by omega) (by omega), Int.emod_eq_of_lt (by omega) (by omega)]
  omega
 ·have : x = (2 * r + t) + d * (2 * q) := by grind
  rw [this, Int.add_mul_ediv_left _ _ (Int.ne_of_gt hd), Int.add_mul_emod_self_left, Int.ediv_eq_zero_of_lt (by omega) (by omega), Int.emod_eq_of_lt (by omega) (by omega)]
  omega
theorem ldr_bd (n d : Int) (m : Nat) (hd : 0 < d) : 0 ≤ ldr n d m ∧ ldr n d m < d := ⟨Int.emod_nonneg _ (Int.ne_of_gt hd), Int.emod_lt_of_pos _ hd⟩
theorem ldq_bd (n d : Int) (m : Nat) (hd : 0 < d) (h0 : 0 ≤ n) (hq : hi64 n < d) : 0 ≤ ldq n d m ∧ ldq n d m ≤ 18446744073709551615 := by
 unfold ldq
 have h1 : 0 ≤ n / 2 ^ m := Int.ediv_nonneg h0 (Int.le_of_lt (two_pow_pos m))
 have h2 : n / 2 ^ m ≤ n := Int.ediv_le_self _ h0
 refine ⟨Int.ediv_nonneg h1 (Int.le_of_lt hd), ?_⟩
 have h3 : n < d * 18446744073709551616 := by have := hilo n; have := lo64_bd n; omega
 have h4 : n / 2 ^ m / d < 18446744073709551616 := Int.ediv_lt_of_lt_mul hd (by rw [Int.mul_comm]; omega)
 omega
theorem ldq_64 (n d : Int) (h0 : 0 ≤ n) (hq : hi64 n < d) : ldq n d 64 = 0 ∧ ldr n d 64 = hi64 n := by
 have h : 0 ≤ hi64 n := Int.ediv_nonneg h0 (by decide)
 have e : n / 2 ^ 64 = hi64 n := rfl
 unfold ldq ldr
 rw [e]
 exact ⟨Int.ediv_eq_zero_of_lt h hq, Int.emod_eq_of_lt h hq⟩
theorem ldq_0 (n d : Int) : ldq n d 0 = n / d ∧ ldr n d 0 = n % d := by unfold ldq ldr; simp
theorem or_bit (x y : Int) (h0 : 0 ≤ x) (h1 : x ≤ 9223372036854775807) (k0 : 0 ≤ y) (k1 : y ≤ 1) : bits .or .u64 (x * 2) y = x * 2 + y := by
 rw [u64_or _ _ (by omega) (by omega) (by omega) (by omega), nat_join 1 _ _ (by omega) (by omega)]
 omega
theorem and_one (x : Int) (h0 : 0 ≤ x) (h1 : x ≤ 18446744073709551615) : bits .and .u64 x 1 = x % 2 := by
 rw [u64_and _ _ (by omega) (by omega) (by omega) (by omega), show (1 : Int).toNat = 1 by rfl, nat_mask1]
 omega
theorem ld_join (n r : Int) (m : Nat) (hm : m < 64) (h0 : 0 ≤ r) (h1 : r ≤ 9223372036854775807) : bits .or .u64 (r * 2) (bits .and .u64 (lo64 n / 2 ^ m) 1) = 2 * r + n / 2 ^ m % 2 := by
 have b := lo64_bd n
 have h2 : 0 ≤ lo64 n / 2 ^ m := Int.ediv_nonneg b.1 (Int.le_of_lt (two_pow_pos m))
 have h3 : lo64 n / 2 ^ m ≤ lo64 n := Int.ediv_le_self _ b.1
 rw [and_one _ h2 (by omega), low_bit n m hm, or_bit _ _ h0 h1 (by omega) (by omega)]
 omega
theorem or_one (q : Int) (h0 : 0 ≤ q) (h1 : 2 * q + 1 ≤ 18446744073709551615) : bits .or .u64 (IntKind.u64.wrap (q * 2)) 1 = 2 * q + 1 := by
 rw [IntKind.wrap_u64, show q * 2 % 18446744073709551616 = q * 2 by omega, or_bit _ _ h0 (by omega) (by decide) (by decide)]
 omega
theorem rnd_much (n d : Int) (hd : 1 ≤ d) (c : d ≤ hi64 (n + d / 2)) : 18446744073709551615 = sat64 (rnd n d) := by
 unfold sat64 rnd
 have h1 := hilo (n + d / 2)
 have h2 := lo64_bd (n + d / 2)
 rw [if_neg]
 have : 18446744073709551616 ≤ (n + d / 2) / d := Int.le_ediv_of_mul_le (by omega) (by omega)
 omega
theorem rnd_in (n d : Int) (hd : 1 ≤ d) (c : hi64 (n + d / 2) < d) : (n + d / 2) / d = sat64 (rnd n d) := by
 unfold sat64 rnd
 have h1 := hilo (n + d / 2)
 have h2 := lo64_bd (n + d / 2)
 rw [if_pos]
 have : (n + d / 2) / d < 18446744073709551616 := Int.ediv_lt_of_lt_mul (by omega) (by omega)
 omega
def isqf (n : Int) : Nat → Int → Int
 | 0, r => r
 | j + 1, r => isqf n j (if (r + 2 ^ j) * (r + 2 ^ j) ≤ n then r + 2 ^ j else r)
def isq (n : Int) : Int := isqf n 63 0
def sqrtS (bad : Bool) (a : Int) : Int × Bool := if tk bad [a] && decide (0 ≤ a) then out (isq (a * 1099511627776)) false else (0, true)
def normS (bad : Bool) (a b c : Int) : Int × Bool := if tk bad [a, b, c] then out (isq (a * a + b * b + c * c)) false else (0, true)
theorem sq_mono {x y : Int} (h0 : 0 ≤ x) (h : x ≤ y) : x * x ≤ y * y := Int.mul_le_mul h h h0 (by omega)
theorem sqrtS_no {bad : Bool} {a : Int} (c : tk bad [a] = false) : sqrtS bad a = (0, true) := by unfold sqrtS; rw [c]; rfl
theorem sqrtS_low {bad : Bool} {a : Int} (h : ¬ 0 ≤ a) : sqrtS bad a = (0, true) := by unfold sqrtS; rw [decide_eq_false h, Bool.and_false]; rfl
theorem sqrtS_yes {bad : Bool} {a : Int} (c : tk bad [a] = true) (h : 0 ≤ a) : sqrtS bad a = out (isq (a * 1099511627776)) false := by unfold sqrtS; rw [c, decide_eq_true h]; rfl
theorem normS_no {bad : Bool} {a b c : Int} (h : tk bad [a, b, c] = false) : normS bad a b c = (0, true) := by unfold normS; rw [h]; rfl
theorem normS_yes {bad : Bool} {a b c : Int} (h : tk bad [a, b, c] = true) : normS bad a b c = out (isq (a * a + b * b + c * c)) false := by unfold normS; rw [h]; rfl
theorem isqf_spec (n : Int) : ∀ (m : Nat) (r : Int), 0 ≤ r → r * r ≤ n → n < (r + 2 ^ m) * (r + 2 ^ m) → 0 ≤ isqf n m r ∧ isqf n m r * isqf n m r ≤ n ∧ n < (isqf n m r + 1) * (isqf n m r + 1)
 | 0, r, h0, h1, h2 => ⟨h0, h1, by show n < (r + 1) * (r + 1); simpa using h2⟩
 | j + 1, r, h0, h1, h2 => by
  have hp := two_pow_pos j
  have e : r + (2 : Int) ^ (j + 1) = r + 2 ^ j + 2 ^ j := by rw [Int.pow_succ]; omega
  rw [e] at h2
  unfold isqf
  by_cases c : (r + 2 ^ j) * (r + 2 ^ j) ≤ n
  ·rw [if_pos c]
   exact isqf_spec n j (r + 2 ^ j) (by omega) c h2
  ·rw [if_neg c]
   exact isqf_spec n j r h0 h1 (by omega)
theorem isq_unique (x y n : Int) (hx : 0 ≤ x) (hy : 0 ≤ y) (h1 : x * x ≤ n) (h2 : n < (x + 1) * (x + 1)) (h3 : y * y ≤ n) (h4 : n < (y + 1) * (y + 1)) : x = y := by
 rcases Int.lt_trichotomy x y with h | h | h
 ·have := sq_mono (by omega : (0 : Int) ≤ x + 1) (by omega : x + 1 ≤ y); omega
 ·exact h
 ·have := sq_mono (by omega : (0 : Int) ≤ y + 1) (by omega : y + 1 ≤ x); omega
theorem isq_spec (n : Int) (h0 : 0 ≤ n) (h : n < 85070591730234615865843651857942052864) : 0 ≤ isq n ∧ isq n * isq n ≤ n ∧ n < (isq n + 1) * (isq n + 1) :=
 isqf_spec n 63 0 (by omega) (by omega) (by show n < (0 + 9223372036854775808) * (0 + 9223372036854775808); omega)
theorem isq_bd (n : Int) (h0 : 0 ≤ n) (h : n < 85070591730234615865843651857942052864) : 0 ≤ isq n ∧ isq n ≤ 18446744073709551615 := by
 have := isq_spec n h0 h
 refine ⟨this.1, ?_⟩
 by_cases c : isq n ≤ 18446744073709551615
 ·exact c
 ·have h2 := sq_mono (by decide : (0 : Int) ≤ 18446744073709551616) (by omega : 18446744073709551616 ≤ isq n)
  omega
theorem or_pow (r : Int) (j : Nat) (h0 : 0 ≤ r) (h : r % 2 ^ (j + 1) = 0) (hr : r ≤ 9223372036854775807) (hj : j < 63) : bits .or .u64 r (2 ^ j) = r + 2 ^ j := by
 obtain ⟨x, rfl⟩ := Int.eq_ofNat_of_zero_le h0
 have e : (2 : Int) ^ j = ((2 ^ j : Nat) : Int) := by simp
 have hb : 2 ^ j < 2 ^ 63 := Nat.pow_lt_pow_right (by decide) hj
 have hx : x % 2 ^ (j + 1) = 0 := by
  have e2 : (2 : Int) ^ (j + 1) = ((2 ^ (j + 1) : Nat) : Int) := by simp
  rw [e2] at h
  exact_mod_cast h
 rw [e, u64_or _ _ (by omega) (by omega) (by omega) (by omega)]
 simp only [Int.toNat_natCast]
 rw [nat_join (j + 1) _ _ hx (Nat.pow_lt_pow_right (by decide) (by omega))]
 omega
theorem mod_pow_half (r : Int) (j : Nat) (h : r % 2 ^ (j + 1) = 0) : r % 2 ^ j = 0 ∧ (r + 2 ^ j) % 2 ^ j = 0 := by
 have h1 : (2 : Int) ^ j ∣ 2 ^ (j + 1) := ⟨2, by rw [Int.pow_succ]⟩
 have h2 : (2 : Int) ^ j ∣ r := Int.dvd_trans h1 (Int.dvd_of_emod_eq_zero h)
 exact ⟨Int.emod_eq_zero_of_dvd h2, Int.emod_eq_zero_of_dvd (Int.dvd_add h2 (Int.dvd_refl _))⟩
def bitAt (j : Nat) : Int := match j with | 0 => 0 | j + 1 => 2 ^ j
theorem bitAt_half (j : Nat) : bitAt (j + 1) / 2 = bitAt j := by
 cases j with
 | zero => rfl
 | succ k => show (2 : Int) ^ (k + 1) / 2 = 2 ^ k; rw [Int.pow_succ]; omega
theorem bitAt_bd (j : Nat) (h : j ≤ 63) : 0 ≤ bitAt j ∧ bitAt j ≤ 4611686018427387904 := by
 cases j with
 | zero => exact ⟨by decide, by decide⟩
 | succ k =>
  have h3 : (2 : Nat) ^ k ≤ 2 ^ 62 := Nat.pow_le_pow_right (by decide) (by omega)
  have h4 : (2 : Int) ^ k ≤ 2 ^ 62 := by exact_mod_cast h3
  exact ⟨Int.le_of_lt (two_pow_pos k), h4⟩
theorem root_bd (r : Int) (j : Nat) (h : r + 2 ^ (j + 1) ≤ 9223372036854775808) : r + 2 ^ j + 2 ^ j ≤ 9223372036854775808 := by
 rw [Int.pow_succ] at h; omega
structure Wd (c : Nat) (n : Int) (w : World) : Prop where
 hi : w.cell? ⟨c, 0, none⟩ = some (.int .u64 (hi64 n))
 lo : w.cell? ⟨c, 1, none⟩ = some (.int .u64 (lo64 n))
 fh : w.frozen? ⟨c, 0, none⟩ = false
 fl : w.frozen? ⟨c, 1, none⟩ = false
 lies : c < w.heap.size
theorem Wd.below {c : Nat} {n : Int} {w w' : World} (h : Wd c n w) (hb : Below w.heap.size w w') : Wd c n w' :=
 ⟨(hb.cell (p := ⟨c, 0, none⟩) h.lies).trans h.hi, (hb.cell (p := ⟨c, 1, none⟩) h.lies).trans h.lo, (hb.frozen (p := ⟨c, 0, none⟩) h.lies).trans h.fh, (hb.frozen (p := ⟨c, 1, none⟩) h.lies).trans h.fl, Nat.lt_of_lt_of_le h.lies hb.size⟩
theorem Wd.put {c : Nat} {n : Int} {w : World} (h : Wd c n w) (m : Int) : Wd c m ((w.setCell ⟨c, 0, none⟩ (.int .u64 (hi64 m))).setCell ⟨c, 1, none⟩ (.int .u64 (lo64 m))) := by
 have h1 := World.cell?_setCell_same w ⟨c, 0, none⟩ (.int .u64 (hi64 m)) h.hi
 have h2 : (w.setCell ⟨c, 0, none⟩ (.int .u64 (hi64 m))).cell? ⟨c, 1, none⟩ = some (.int .u64 (lo64 n)) := by rw [World.cell?_setCell_other _ _ _ _ (by simp)]; exact h.lo
 refine ⟨?_, World.cell?_setCell_same _ _ _ h2, ?_, ?_, ?_⟩
 ·rw [World.cell?_setCell_other _ _ _ _ (by simp)]; exact h1
 ·simp only [World.frozen?_setCell]; exact h.fh
 ·simp only [World.frozen?_setCell]; exact h.fl
 ·simp only [World.size_setCell]; exact h.lies
theorem Wd.far {c d : Nat} {n : Int} {w : World} (h : Wd c n w) (hd : d ≠ c) (u v : Value) : Wd c n ((w.setCell ⟨d, 0, none⟩ u).setCell ⟨d, 1, none⟩ v) := by
 refine ⟨?_, ?_, ?_, ?_, ?_⟩
 ·rw [World.cell?_setCell_other _ _ _ _ (fun e => hd (congrArg Addr.block e)), World.cell?_setCell_other _ _ _ _ (fun e => hd (congrArg Addr.block e))]; exact h.hi
 ·rw [World.cell?_setCell_other _ _ _ _ (fun e => hd (congrArg Addr.block e)), World.cell?_setCell_other _ _ _ _ (fun e => hd (congrArg Addr.block e))]; exact h.lo
 ·simp only [World.frozen?_setCell]; exact h.fh
 ·simp only [World.frozen?_setCell]; exact h.fl
 ·simp only [World.size_setCell]; exact h.lies
theorem gv_yes {n : Int} (h : numB n = true) : gv n = (n, false) := by unfold gv; rw [h]; rfl
theorem sz_sq (x : Int) : sz x * sz x = x * x := by
 unfold sz
 split
 ·rw [Int.neg_mul_neg]
 ·rfl
theorem sq_bd {x : Int} (h : numB x = true) : 0 ≤ x * x ∧ x * x ≤ 21267647932558653966460912964485513216 := by
 rw [← sz_sq x]; exact sz_mul_bd h h
theorem Wd_new (w : World) (t : TypeId) : Wd w.heap.size 0 (w.alloc (.cells #[.int .u64 0, .int .u64 0] t)) :=
 ⟨by simp [show hi64 0 = 0 by rfl], by simp [show lo64 0 = 0 by rfl], by simp, by simp, by simp⟩
theorem out_bad (n : Int) (m : Bool) (h : (out n m).2 = true) : (out n m).1 = 0 := by
 have h2 : 4611686018427387904 < n := of_decide_eq_true h
 exact (sgnd_out n m (by omega)).symm
theorem out_good (n : Int) (m : Bool) (h : (out n m).2 = false) : n ≤ 4611686018427387904 ∧ (out n m).1 = if m then -n else n := by
 have h2 : ¬ 4611686018427387904 < n := of_decide_eq_false h
 exact ⟨by omega, (sgnd_in n m (by omega)).symm⟩
theorem partS_bad (bad : Bool) (a p q : Int) (h : (partS bad a p q).2 = true) : (partS bad a p q).1 = 0 := by
 unfold partS at h ⊢
 split
 ·rename_i c; rw [if_pos c] at h; exact out_bad _ _ h
 ·rfl
theorem numB_of {n : Int} (h : -4611686018427387904 ≤ n ∧ n ≤ 4611686018427387904) : numB n = true := by unfold numB; simp; exact h
theorem rnd_near (n d : Int) (hd : 1 ≤ d) : rnd n d * d ≤ n + d / 2 ∧ n ≤ rnd n d * d + d / 2 := by
 unfold rnd
 have e := Int.mul_ediv_add_emod (n + d / 2) d
 have r0 : 0 ≤ (n + d / 2) % d := Int.emod_nonneg _ (by omega)
 have r1 : (n + d / 2) % d < d := Int.emod_lt_of_pos _ (by omega)
 rw [Int.mul_comm d] at e
 omega
end Go.Proofs.Ytooehgijllihdaa
namespace Go.Proofs.Ytooehgijllihdaa
open Go.RowKit
abbrev V3 := Int × Int × Int
def soundS (bad : Bool) (v : V3) : V3 × Bool := if bad then ((0, 0, 0), true) else (v, false)
theorem soundS_yes (v : V3) : soundS true v = ((0, 0, 0), true) := rfl
theorem soundS_no (v : V3) : soundS false v = (v, false) := rfl
def vAddS (bad : Bool) (p : V3) (q : V3) : (V3) × Bool := let r1 := addS bad p.1 q.1; let r2 := addS r1.2 p.2.1 q.2.1; let r3 := addS r2.2 p.2.2 q.2.2; let r4 := soundS r3.2 (r1.1, r2.1, r3.1); (r4.1, r4.2)
def vSubS (bad : Bool) (p : V3) (q : V3) : (V3) × Bool := let r1 := subS bad p.1 q.1; let r2 := subS r1.2 p.2.1 q.2.1; let r3 := subS r2.2 p.2.2 q.2.2; let r4 := soundS r3.2 (r1.1, r2.1, r3.1); (r4.1, r4.2)
def vScaleS (bad : Bool) (p : V3) (k : Int) : (V3) × Bool := let r1 := mulS bad p.1 k; let r2 := mulS r1.2 p.2.1 k; let r3 := mulS r2.2 p.2.2 k; let r4 := soundS r3.2 (r1.1, r2.1, r3.1); (r4.1, r4.2)
def vDotS (bad : Bool) (p : V3) (q : V3) : (Int) × Bool := let r1 := mulS bad p.1 q.1; let r2 := mulS r1.2 p.2.1 q.2.1; let r3 := addS r2.2 r1.1 r2.1; let r4 := mulS r3.2 p.2.2 q.2.2; let r5 := addS r4.2 r3.1 r4.1; (r5.1, r5.2)
def vCrossS (bad : Bool) (p : V3) (q : V3) : (V3) × Bool := let r1 := mulS bad p.2.1 q.2.2; let r2 := mulS r1.2 p.2.2 q.2.1; let r3 := subS r2.2 r1.1 r2.1; let r4 := mulS r3.2 p.2.2 q.1; let r5 := mulS r4.2 p.1 q.2.2; let r6 := subS r5.2 r4.1 r5.1; let r7 := mulS r6.2 p.1 q.2.1; let r8 := mulS r7.2 p.2.1 q.1; let r9 := subS r8.2 r7.1 r8.1; let r10 := soundS r9.2 (r3.1, r6.1, r9.1); (r10.1, r10.2)
def vNormS (bad : Bool) (p : V3) : (Int) × Bool := let r1 := normS bad p.1 p.2.1 p.2.2; (r1.1, r1.2)
def vUnitS (bad : Bool) (p : V3) : (V3) × Bool := let r1 := vNormS bad p; if r1.1 < 1048576 then ((0, 0, 0), true) else let r2 := divS r1.2 p.1 r1.1; let r3 := divS r2.2 p.2.1 r1.1; let r4 := divS r3.2 p.2.2 r1.1; ((r2.1, r3.1, r4.1), r4.2)
end Go.Proofs.Ytooehgijllihdaa
namespace Go.Proofs.Ytooehgijllihdaa
open Go.RowKit
end Go.Proofs.Ytooehgijllihdaa
namespace Go.Proofs.Ytooehgijllihdaa
open Go.RowKit
abbrev V4 := Int × Int × Int × Int
def sound4S (bad : Bool) (v : V4) : V4 × Bool := if bad then ((0, 0, 0, 0), true) else (v, false)
theorem sound4S_yes (v : V4) : sound4S true v = ((0, 0, 0, 0), true) := rfl
theorem sound4S_no (v : V4) : sound4S false v = (v, false) := rfl
def minusS (a : Int) : Int := if a < -4611686018427387904 then a else if 4611686018427387904 < a then a else -a
theorem minusS_lo {a : Int} (h : a < -4611686018427387904) : minusS a = a := by unfold minusS; rw [if_pos h]
theorem minusS_hi {a : Int} (h : 4611686018427387904 < a) : minusS a = a := by unfold minusS; rw [if_neg (by omega), if_pos h]
theorem minusS_in {a : Int} (h : -4611686018427387904 ≤ a) (k : a ≤ 4611686018427387904) : minusS a = -a := by unfold minusS; rw [if_neg (by omega), if_neg (by omega)]
def partedS (q : V4) : V3 × Int := ((q.1, q.2.1, q.2.2.1), q.2.2.2)
def joinedS (p : V3) (k : Int) : V4 := (p.1, p.2.1, p.2.2, k)
def uprightS (q : V4) : V4 := if q.2.2.2 ≥ 0 then q else let r1 := minusS q.1; let r2 := minusS q.2.1; let r3 := minusS q.2.2.1; let r4 := minusS q.2.2.2; (r1, r2, r3, r4)
def qBackS (q : V4) : V4 := let r1 := minusS q.1; let r2 := minusS q.2.1; let r3 := minusS q.2.2.1; (r1, r2, r3, q.2.2.2)
def qMulS (bad : Bool) (p : V4) (q : V4) : (V4) × Bool := let r3 := vScaleS bad (p.1, p.2.1, p.2.2.1) q.2.2.2; let r4 := vScaleS r3.2 (q.1, q.2.1, q.2.2.1) p.2.2.2; let r5 := vAddS r4.2 r3.1 r4.1; let r6 := vCrossS r5.2 (q.1, q.2.1, q.2.2.1) (p.1, p.2.1, p.2.2.1); let r7 := vAddS r6.2 r5.1 r6.1; let r8 := mulS r7.2 p.2.2.2 q.2.2.2; let r9 := vDotS r8.2 (p.1, p.2.1, p.2.2.1) (q.1, q.2.1, q.2.2.1); let r10 := subS r9.2 r8.1 r9.1; let r12 := sound4S r10.2 (r7.1.1, r7.1.2.1, r7.1.2.2, r10.1); (r12.1, r12.2)
def qUnitS (bad : Bool) (q : V4) : (V4) × Bool := let r2 := vNormS bad (q.1, q.2.1, q.2.2.1); let r3 := normS r2.2 r2.1 q.2.2.2 0; if r3.1 < 549755813888 then ((0, 0, 0, 0), true) else let r4 := divS r3.2 q.1 r3.1; let r5 := divS r4.2 q.2.1 r3.1; let r6 := divS r5.2 q.2.2.1 r3.1; let r7 := divS r6.2 q.2.2.2 r3.1; let r8 := uprightS (r4.1, r5.1, r6.1, r7.1); (r8, r7.2)
def qTurnS (bad : Bool) (q : V4) (v : V3) : (V3) × Bool := let r2 := vCrossS bad (q.1, q.2.1, q.2.2.1) v; let r3 := vScaleS r2.2 r2.1 2199023255552; let r4 := vScaleS r3.2 r3.1 q.2.2.2; let r5 := vSubS r4.2 v r4.1; let r6 := vCrossS r5.2 (q.1, q.2.1, q.2.2.1) r3.1; let r7 := vAddS r6.2 r5.1 r6.1; (r7.1, r7.2)
def qFromRodS (bad : Bool) (p : V3) : (V4) × Bool := let r1 := vDotS bad p p; let r2 := addS r1.2 17592186044416 r1.1; let r3 := mulS r2.2 p.1 8796093022208; let r4 := divS r3.2 r3.1 r2.1; let r5 := mulS r4.2 p.2.1 8796093022208; let r6 := divS r5.2 r5.1 r2.1; let r7 := mulS r6.2 p.2.2 8796093022208; let r8 := divS r7.2 r7.1 r2.1; let r9 := subS r8.2 17592186044416 r1.1; let r10 := divS r9.2 r9.1 r2.1; let r11 := qUnitS r10.2 (r4.1, r6.1, r8.1, r10.1); (r11.1, r11.2)
def qToRodS (bad : Bool) (q : V4) : (V3) × Bool := let r1 := uprightS q; let r2 := addS bad 1099511627776 r1.2.2.2; let r3 := mulS r2.2 r1.1 4398046511104; let r4 := divS r3.2 r3.1 r2.1; let r5 := mulS r4.2 r1.2.1 4398046511104; let r6 := divS r5.2 r5.1 r2.1; let r7 := mulS r6.2 r1.2.2.1 4398046511104; let r8 := divS r7.2 r7.1 r2.1; let r9 := soundS r8.2 (r4.1, r6.1, r8.1); (r9.1, r9.2)
end Go.Proofs.Ytooehgijllihdaa
namespace Go.Proofs.Ytooehgijllihdaa
open Go.RowKit
end Go.Proofs.Ytooehgijllihdaa
namespace Go.Proofs.Ytooehgijllihdaa
open Go.RowKit
theorem sz_signs (a p : Int) : (sz a * sz p = if (decide (a < 0) != decide (p < 0)) = true then -(a * p) else a * p) := by
 unfold sz
 by_cases x : a < 0 <;> by_cases y : p < 0 <;> simp [x, y] <;> grind
theorem partS_near (a p q : Int) (na : numB a = true) (np : numB p = true) (nq : numB q = true) (hq : 0 < q) (hb : sz a * sz p ≤ q * 2305843009213693952) :
  ∃ m, partS false a p q = (m, false) ∧ 2 * (m * q) ≤ 2 * (a * p) + q ∧ 2 * (a * p) ≤ 2 * (m * q) + q ∧ (0 ≤ a * p → 0 ≤ m) := by
 have e := partS_yes (bad := false) (a := a) (p := p) (q := q) (by unfold tk; simp [na, np, nq]) (by simp; omega)
 have sq : sz q = q := sz_nonneg (by omega)
 have nr := rnd_near (sz a * sz p) q (by omega)
 have n0 : 0 ≤ sz a * sz p := (sz_mul_bd na np).1
 have r0 : 0 ≤ rnd (sz a * sz p) q := rnd_nonneg n0 (by omega)
 have sg := sz_signs a p
 rw [sq, decide_eq_false (by omega : ¬ q < 0)] at e
 generalize rnd (sz a * sz p) q = r at *
 generalize sz a * sz p = n at *
 have r1 : r ≤ 4611686018427387904 := by
  by_cases c : r ≤ 4611686018427387904
  ·exact c
  ·have := Int.mul_le_mul_of_nonneg_right (by omega : (4611686018427387905 : Int) ≤ r) (by omega : 0 ≤ q)
   omega
 rw [show ((decide (a < 0) != decide (p < 0)) != false) = (decide (a < 0) != decide (p < 0)) by simp] at e
 generalize (decide (a < 0) != decide (p < 0)) = s at *
 have e2 : out r s = (if s = true then -r else r, false) := by
  unfold out
  rw [← sgnd_in r s r1, decide_eq_false (by omega)]
 rw [e2] at e
 refine ⟨_, e, ?_⟩
 have rz : r = 0 → r * q = 0 := fun h => by rw [h, Int.zero_mul]
 cases s
 ·simp only [Bool.false_eq_true, if_false] at sg ⊢
  refine ⟨by omega, by omega, fun _ => r0⟩
 ·simp only [if_true] at sg ⊢
  rw [Int.neg_mul]
  refine ⟨by omega, by omega, fun h => ?_⟩
  have n1 : n = 0 := by omega
  have h2 : r * q ≤ q / 2 := by omega
  by_cases c : r ≤ 0
  ·omega
  ·have := Int.mul_le_mul_of_nonneg_right (by omega : (1 : Int) ≤ r) (by omega : 0 ≤ q)
   omega
theorem mulS_near (a b : Int) (na : numB a = true) (nb : numB b = true) (hb : sz a * sz b ≤ 2535301200456458802993406410752) :
  ∃ m, mulS false a b = (m, false) ∧ m * 1099511627776 ≤ a * b + 549755813888 ∧ a * b ≤ m * 1099511627776 + 549755813888 ∧ (0 ≤ a * b → 0 ≤ m) := by
 obtain ⟨m, e, h1, h2, h3⟩ := partS_near a b 1099511627776 na nb (by rfl) (by decide) (by omega)
 exact ⟨m, e, by omega, by omega, h3⟩
theorem le_sz (a : Int) : a ≤ sz a ∧ -a ≤ sz a ∧ 0 ≤ sz a := by unfold sz; split <;> omega
theorem sz_le {a A : Int} (h : -A ≤ a ∧ a ≤ A) : sz a ≤ A := by unfold sz; split <;> omega
theorem mulS_small (a b : Int) (ha : -1125899906842624 ≤ a ∧ a ≤ 1125899906842624) (hb : -1125899906842624 ≤ b ∧ b ≤ 1125899906842624) :
  ∃ m, mulS false a b = (m, false) ∧ m * 1099511627776 ≤ a * b + 549755813888 ∧ a * b ≤ m * 1099511627776 + 549755813888 ∧ (0 ≤ a * b → 0 ≤ m) := by
 refine mulS_near a b (numB_of (by omega)) (numB_of (by omega)) ?_
 have h1 := sz_le ha
 have h2 := sz_le hb
 have := Int.mul_le_mul h1 h2 (le_sz b).2.2 (by decide)
 omega
theorem addS_good (a b : Int) (ha : numB a = true) (hb : numB b = true) (h : numB (a + b) = true) : addS false a b = (a + b, false) := by
 rw [addS_yes (by unfold tk; simp [ha, hb]), gv_yes h]
theorem subS_good (a b : Int) (ha : numB a = true) (hb : numB b = true) (h : numB (a - b) = true) : subS false a b = (a - b, false) := by
 rw [subS_yes (by unfold tk; simp [ha, hb]), gv_yes h]
end Go.Proofs.Ytooehgijllihdaa
namespace Go.Proofs.Ytooehgijllihdaa
open Go.RowKit
theorem tk_true (zs : List Int) : tk true zs = false := rfl
theorem addS_true (a b : Int) : addS true a b = (0, true) := addS_no (tk_true _)
theorem subS_true (a b : Int) : subS true a b = (0, true) := subS_no (tk_true _)
theorem mulS_true (a b : Int) : mulS true a b = (0, true) := mulS_no (tk_true _)
theorem divS_true (a b : Int) : divS true a b = (0, true) := partS_no (tk_true _)
theorem normS_true (a b c : Int) : normS true a b c = (0, true) := normS_no (tk_true _)
theorem vCross_true (p q : V3) : vCrossS true p q = ((0, 0, 0), true) := by simp [vCrossS, mulS_true, subS_true, soundS_yes]
theorem vNorm_true (p : V3) : vNormS true p = (0, true) := by simp [vNormS, normS_true]
theorem vDot_true (p q : V3) : vDotS true p q = (0, true) := by simp [vDotS, mulS_true, addS_true]
theorem normS_good {bad : Bool} {a b c n : Int} (h : normS bad a b c = (n, false)) :
  bad = false ∧ numB a = true ∧ numB b = true ∧ numB c = true ∧ 0 ≤ n ∧ n ≤ 4611686018427387904 ∧ n * n ≤ a * a + b * b + c * c ∧ a * a + b * b + c * c < (n + 1) * (n + 1) := by
 cases ht : tk bad [a, b, c]
 ·rw [normS_no ht] at h; cases h
 ·have t := tk_three ht
  rw [normS_yes ht] at h
  have ha := sq_bd t.2.1
  have hb := sq_bd t.2.2.1
  have hc := sq_bd t.2.2.2
  have s := isq_spec (a * a + b * b + c * c) (by omega) (by omega)
  have g : isq (a * a + b * b + c * c) ≤ 4611686018427387904 ∧ (out (isq (a * a + b * b + c * c)) false).1 = if false = true then -isq (a * a + b * b + c * c) else isq (a * a + b * b + c * c) := out_good _ _ (by rw [h])
  have e : isq (a * a + b * b + c * c) = n := by have h3 := congrArg Prod.fst h; rw [g.2, if_neg (by decide)] at h3; exact h3
  rw [e] at s g
  exact ⟨t.1, t.2.1, t.2.2.1, t.2.2.2, s.1, g.1, s.2.1, s.2.2⟩
theorem normS_bad (bad : Bool) (a b c : Int) (h : (normS bad a b c).2 = true) : (normS bad a b c).1 = 0 := by
 unfold normS at h ⊢
 split
 ·rename_i t; rw [if_pos t] at h; exact out_bad _ _ h
 ·rfl
theorem normS_make {a b c n : Int} (ha : numB a = true) (hb : numB b = true) (hc : numB c = true) (n0 : 0 ≤ n) (n1 : n ≤ 4611686018427387904)
  (h1 : n * n ≤ a * a + b * b + c * c) (h2 : a * a + b * b + c * c < (n + 1) * (n + 1)) : normS false a b c = (n, false) := by
 have ha' := sq_bd ha
 have hb' := sq_bd hb
 have hc' := sq_bd hc
 have s := isq_spec (a * a + b * b + c * c) (by omega) (by omega)
 have e : isq (a * a + b * b + c * c) = n := isq_unique _ _ _ s.1 n0 s.2.1 s.2.2 h1 h2
 rw [normS_yes (by unfold tk; simp [ha, hb, hc]), e]
 unfold out
 rw [← sgnd_in n false n1, decide_eq_false (by omega)]
 rfl
theorem abs_le_of_sq {a n : Int} (h0 : 0 ≤ n) (h : a * a < (n + 1) * (n + 1)) : -n ≤ a ∧ a ≤ n := by
 constructor
 ·by_cases c : -n ≤ a
  ·exact c
  ·have := sq_mono (by omega : (0 : Int) ≤ n + 1) (by omega : n + 1 ≤ -a)
   rw [Int.neg_mul_neg] at this
   omega
 ·by_cases c : a ≤ n
  ·exact c
  ·have := sq_mono (by omega : (0 : Int) ≤ n + 1) (by omega : n + 1 ≤ a)
   omega
theorem sq_nonneg (a : Int) : 0 ≤ a * a := by rw [← sz_sq a]; exact Int.mul_nonneg (le_sz a).2.2 (le_sz a).2.2
structure Uof (u a n : Int) : Prop where
 lo : -1099511627776 ≤ u
 hi : u ≤ 1099511627776
 up : 2 * (u * n) ≤ 2 * (a * 1099511627776) + n
 dn : 2 * (a * 1099511627776) ≤ 2 * (u * n) + n
theorem div_unit (a n : Int) (hn : 0 < n ∧ n ≤ 4611686018427387904) (ha : -n ≤ a ∧ a ≤ n) : ∃ u, divS false a n = (u, false) ∧ Uof u a n := by
 obtain ⟨m, e, h1, h2, _⟩ := partS_near a 1099511627776 n (numB_of (by omega)) (by rfl) (numB_of (by omega)) hn.1 (by
  rw [show sz 1099511627776 = 1099511627776 by rfl]
  have := sz_le (A := n) ha
  omega)
 refine ⟨m, e, ?_, ?_, h1, h2⟩
 ·by_cases c : -1099511627776 ≤ m
  ·exact c
  ·have := Int.mul_le_mul_of_nonneg_right (by omega : m ≤ -1099511627777) (by omega : 0 ≤ n)
   omega
 ·by_cases c : m ≤ 1099511627776
  ·exact c
  ·have := Int.mul_le_mul_of_nonneg_right (by omega : (1099511627777 : Int) ≤ m) (by omega : 0 ≤ n)
   omega
theorem vUnit_cases (bad : Bool) (p : V3) :
  ((vNormS bad p).1 < 1048576 ∧ vUnitS bad p = ((0, 0, 0), true)) ∨
  (∃ n u0 u1 u2, bad = false ∧ vNormS bad p = (n, false) ∧ normS false p.1 p.2.1 p.2.2 = (n, false) ∧ 1048576 ≤ n ∧ divS false p.1 n = (u0, false) ∧ divS false p.2.1 n = (u1, false) ∧ divS false p.2.2 n = (u2, false) ∧
   vUnitS bad p = ((u0, u1, u2), false) ∧ Uof u0 p.1 n ∧ Uof u1 p.2.1 n ∧ Uof u2 p.2.2 n) := by
 have hN : vNormS bad p = normS bad p.1 p.2.1 p.2.2 := rfl
 by_cases c : (vNormS bad p).1 < 1048576
 ·exact Or.inl ⟨c, by unfold vUnitS; simp [c]⟩
 ·refine Or.inr ?_
  have hb : (normS bad p.1 p.2.1 p.2.2).2 = false := by
   cases hb : (normS bad p.1 p.2.1 p.2.2).2
   ·rfl
   ·have := normS_bad _ _ _ _ hb
    rw [hN] at c
    omega
  rw [hN] at c
  obtain ⟨n, hn⟩ : ∃ n, normS bad p.1 p.2.1 p.2.2 = (n, false) := ⟨_, Prod.ext rfl hb⟩
  have g := normS_good hn
  rw [hn] at c
  have c' : ¬ n < 1048576 := c
  have s0 := sq_nonneg p.1
  have s1 := sq_nonneg p.2.1
  have s2 := sq_nonneg p.2.2
  obtain ⟨u0, e0, U0⟩ := div_unit p.1 n (by omega) (abs_le_of_sq g.2.2.2.2.1 (by omega))
  obtain ⟨u1, e1, U1⟩ := div_unit p.2.1 n (by omega) (abs_le_of_sq g.2.2.2.2.1 (by omega))
  obtain ⟨u2, e2, U2⟩ := div_unit p.2.2 n (by omega) (abs_le_of_sq g.2.2.2.2.1 (by omega))
  have hbad := g.1
  subst hbad
  refine ⟨n, u0, u1, u2, rfl, hN.trans hn, hn, by omega, e0, e1, e2, ?_, U0, U1, U2⟩
  unfold vUnitS
  simp [hN, hn, c', e0, e1, e2]
theorem absmul {a b A B : Int} (ha : -A ≤ a ∧ a ≤ A) (hb : -B ≤ b ∧ b ≤ B) : -(A * B) ≤ a * b ∧ a * b ≤ A * B := by
 have h1 := Int.mul_le_mul (sz_le ha) (sz_le hb) (le_sz b).2.2 (by omega : (0 : Int) ≤ A)
 have h2 := sz_signs a b
 have h3 := Int.mul_nonneg (le_sz a).2.2 (le_sz b).2.2
 split at h2
 ·rw [h2] at h1 h3; omega
 ·rw [h2] at h1 h3; omega
theorem mul_one (a b : Int) (ha : -4398046511104 ≤ a ∧ a ≤ 4398046511104) (hb : -4398046511104 ≤ b ∧ b ≤ 4398046511104) :
  ∃ m, mulS false a b = (m, false) ∧ m * 1099511627776 ≤ a * b + 549755813888 ∧ a * b ≤ m * 1099511627776 + 549755813888 := by
 obtain ⟨m, e, h1, h2, _⟩ := mulS_small a b (by omega) (by omega)
 exact ⟨m, e, h1, h2⟩
end Go.Proofs.Ytooehgijllihdaa
namespace Go.Proofs.Ytooehgijllihdaa
open Go.RowKit
theorem partS_rng (bad : Bool) (a p q : Int) : -4611686018427387904 ≤ (partS bad a p q).1 ∧ (partS bad a p q).1 ≤ 4611686018427387904 := by
 cases h : (partS bad a p q).2
 ·unfold partS at h ⊢
  split
  ·rename_i c
   rw [if_pos c] at h
   have hq : q ≠ 0 := by intro e; subst e; simp at c
   have hp : 0 ≤ rnd (sz a * sz p) (sz q) := rnd_nonneg (Int.mul_nonneg (by unfold sz; split <;> omega) (by unfold sz; split <;> omega)) (by unfold sz; split <;> omega)
   have g := out_good _ _ h
   rw [g.2]
   split <;> omega
  ·exact ⟨by decide, by decide⟩
 ·rw [partS_bad bad a p q h]
  exact ⟨by decide, by decide⟩
end Go.Proofs.Ytooehgijllihdaa
namespace Go.Proofs.Ytooehgijllihdaa
open Go.RowKit
set_option linter.unusedSimpArgs false
theorem vAdd_true (p q : V3) : vAddS true p q = ((0, 0, 0), true) := by simp [vAddS, addS_true, soundS_yes]
theorem vSub_true (p q : V3) : vSubS true p q = ((0, 0, 0), true) := by simp [vSubS, subS_true, soundS_yes]
theorem vScale_true (p : V3) (k : Int) : vScaleS true p k = ((0, 0, 0), true) := by simp [vScaleS, mulS_true, soundS_yes]
theorem qUnit_cases (bad : Bool) (q : V4) :
  ((normS (vNormS bad (q.1, q.2.1, q.2.2.1)).2 (vNormS bad (q.1, q.2.1, q.2.2.1)).1 q.2.2.2 0).1 < 549755813888 ∧ qUnitS bad q = ((0, 0, 0, 0), true)) ∨
  (∃ N n d0 d1 d2 d3, bad = false ∧ normS false q.1 q.2.1 q.2.2.1 = (N, false) ∧ normS false N q.2.2.2 0 = (n, false) ∧ 549755813888 ≤ n ∧ divS false q.1 n = (d0, false) ∧ divS false q.2.1 n = (d1, false) ∧ divS false q.2.2.1 n = (d2, false) ∧ divS false q.2.2.2 n = (d3, false) ∧
   Uof d0 q.1 n ∧ Uof d1 q.2.1 n ∧ Uof d2 q.2.2.1 n ∧ Uof d3 q.2.2.2 n ∧ qUnitS bad q = (if d3 < 0 then (-d0, -d1, -d2, -d3) else (d0, d1, d2, d3), false)) := by
 have hN : vNormS bad (q.1, q.2.1, q.2.2.1) = normS bad q.1 q.2.1 q.2.2.1 := rfl
 by_cases c : (normS (vNormS bad (q.1, q.2.1, q.2.2.1)).2 (vNormS bad (q.1, q.2.1, q.2.2.1)).1 q.2.2.2 0).1 < 549755813888
 ·exact Or.inl ⟨c, by unfold qUnitS; dsimp only; rw [if_pos c]⟩
 ·refine Or.inr ?_
  rw [hN] at c
  cases h1 : normS bad q.1 q.2.1 q.2.2.1 with
  | mk N b1 =>
   rw [h1] at c
   dsimp only at c
   cases h2 : normS b1 N q.2.2.2 0 with
   | mk n b2 =>
    rw [h2] at c
    dsimp only at c
    have hb2 : b2 = false := by
     cases b2
     ·rfl
     ·have := normS_bad b1 N q.2.2.2 0 (by rw [h2])
      rw [h2] at this
      have : n = 0 := this
      omega
    subst hb2
    have g2 := normS_good h2
    have hb1 := g2.1
    subst hb1
    have g1 := normS_good h1
    have hb := g1.1
    subst hb
    have s0 := sq_nonneg q.1
    have s1 := sq_nonneg q.2.1
    have s2 := sq_nonneg q.2.2.1
    have s3 := sq_nonneg q.2.2.2
    have sN := sq_nonneg N
    have k0 := abs_le_of_sq (a := q.1) g1.2.2.2.2.1 (by omega)
    have k1 := abs_le_of_sq (a := q.2.1) g1.2.2.2.2.1 (by omega)
    have k2 := abs_le_of_sq (a := q.2.2.1) g1.2.2.2.2.1 (by omega)
    have kN := abs_le_of_sq (a := N) g2.2.2.2.2.1 (by omega)
    have k3 := abs_le_of_sq (a := q.2.2.2) g2.2.2.2.2.1 (by omega)
    obtain ⟨d0, e0, U0⟩ := div_unit q.1 n (by omega) (by omega)
    obtain ⟨d1, e1, U1⟩ := div_unit q.2.1 n (by omega) (by omega)
    obtain ⟨d2, e2, U2⟩ := div_unit q.2.2.1 n (by omega) (by omega)
    obtain ⟨d3, e3, U3⟩ := div_unit q.2.2.2 n (by omega) (by omega)
    refine ⟨N, n, d0, d1, d2, d3, rfl, h1, h2, by omega, e0, e1, e2, e3, U0, U1, U2, U3, ?_⟩
    have ew : uprightS (d0, d1, d2, d3) = if d3 < 0 then (-d0, -d1, -d2, -d3) else (d0, d1, d2, d3) := by
     have := U0.lo; have := U0.hi; have := U1.lo; have := U1.hi; have := U2.lo; have := U2.hi; have := U3.lo; have := U3.hi
     unfold uprightS
     dsimp only
     by_cases k : d3 < 0
     ·rw [if_neg (by omega), if_pos k, minusS_in (by omega) (by omega), minusS_in (by omega) (by omega), minusS_in (by omega) (by omega), minusS_in (by omega) (by omega)]
     ·rw [if_pos (by omega), if_neg k]
    unfold qUnitS
    simp only [hN, h1, h2, e0, e1, e2, e3, if_neg c, ew]
theorem qUnit_true (q : V4) : qUnitS true q = ((0, 0, 0, 0), true) := by
 unfold qUnitS
 simp only [vNorm_true, normS_true]
 rw [if_pos (by decide)]
end Go.Proofs.Ytooehgijllihdaa
namespace Go.Proofs.Ytooehgijllihdaa
open Go.RowKit
structure Ab (x K : Int) : Prop where
 lo : -K ≤ x
 hi : x ≤ K
theorem Ab.add {x y K L : Int} (h : Ab x K) (k : Ab y L) : Ab (x + y) (K + L) := ⟨by have := h.lo; have := k.lo; omega, by have := h.hi; have := k.hi; omega⟩
theorem Ab.sub {x y K L : Int} (h : Ab x K) (k : Ab y L) : Ab (x - y) (K + L) := ⟨by have := h.lo; have := k.hi; omega, by have := h.hi; have := k.lo; omega⟩
theorem Ab.neg {x K : Int} (h : Ab x K) : Ab (-x) K := ⟨by have := h.hi; omega, by have := h.lo; omega⟩
theorem Ab.mul {x y K L : Int} (h : Ab x K) (k : Ab y L) : Ab (x * y) (K * L) := by
 have := absmul ⟨h.lo, h.hi⟩ ⟨k.lo, k.hi⟩
 exact ⟨this.1, this.2⟩
theorem Ab.le {x K L : Int} (h : Ab x K) (k : K ≤ L) : Ab x L := ⟨by have := h.lo; omega, by have := h.hi; omega⟩
theorem Ab.two : Ab 2 2 := ⟨by decide, by decide⟩
theorem Ab.four : Ab 4 4 := ⟨by decide, by decide⟩
theorem Ab.one40 : Ab 1099511627776 1099511627776 := ⟨by decide, by decide⟩
theorem Ab.one80 : Ab 1208925819614629174706176 1208925819614629174706176 := ⟨by decide, by decide⟩
theorem Ab.zero {K : Int} (h : 0 ≤ K) : Ab 0 K := ⟨by omega, h⟩
theorem Ab.numB {x K : Int} (h : Ab x K) (k : K ≤ 4611686018427387904) : numB x = true := numB_of ⟨by have := h.lo; omega, by have := h.hi; omega⟩
theorem mul_near {a b K L : Int} (ha : Ab a K) (hb : Ab b L) (hK : K ≤ 1125899906842624) (hL : L ≤ 1125899906842624) :
  ∃ m, mulS false a b = (m, false) ∧ Ab (2 * (m * 1099511627776 - a * b)) 1099511627776 := by
 obtain ⟨m, e, h1, h2, _⟩ := mulS_small a b (by have := ha.lo; have := ha.hi; omega) (by have := hb.lo; have := hb.hi; omega)
 exact ⟨m, e, by omega, by omega⟩
theorem prod_bd {a b K L m : Int} (ha : Ab a K) (hb : Ab b L) (h : Ab (2 * (m * 1099511627776 - a * b)) 1099511627776) {B : Int} (hB : K * L + 549755813888 ≤ B * 1099511627776) : Ab m B := by
 have p := ha.mul hb
 have := p.lo; have := p.hi; have := h.lo; have := h.hi
 generalize a * b = ab at *
 generalize K * L = KL at *
 constructor <;> omega
theorem add_near {a b K L : Int} (ha : Ab a K) (hb : Ab b L) (h : K + L ≤ 4611686018427387904) (h1 : K ≤ 4611686018427387904) (h2 : L ≤ 4611686018427387904) : addS false a b = (a + b, false) :=
 addS_good a b (ha.numB h1) (hb.numB h2) ((ha.add hb).numB h)
theorem sub_near {a b K L : Int} (ha : Ab a K) (hb : Ab b L) (h : K + L ≤ 4611686018427387904) (h1 : K ≤ 4611686018427387904) (h2 : L ≤ 4611686018427387904) : subS false a b = (a - b, false) :=
 subS_good a b (ha.numB h1) (hb.numB h2) ((ha.sub hb).numB h)
theorem cross_near {a0 a1 a2 v0 v1 v2 K L B : Int} (ha0 : Ab a0 K) (ha1 : Ab a1 K) (ha2 : Ab a2 K) (hv0 : Ab v0 L) (hv1 : Ab v1 L) (hv2 : Ab v2 L) (hK : K ≤ 1125899906842624) (hL : L ≤ 1125899906842624) (hB : K * L + 549755813888 ≤ B * 1099511627776) (hB' : B ≤ 1152921504606846976) :
  ∃ c0 c1 c2, vCrossS false (a0, a1, a2) (v0, v1, v2) = ((c0, c1, c2), false) ∧ Ab c0 (2 * B) ∧ Ab c1 (2 * B) ∧ Ab c2 (2 * B) ∧
   Ab (c0 * 1099511627776 - (a1 * v2 - a2 * v1)) 1099511627776 ∧ Ab (c1 * 1099511627776 - (a2 * v0 - a0 * v2)) 1099511627776 ∧ Ab (c2 * 1099511627776 - (a0 * v1 - a1 * v0)) 1099511627776 := by
 obtain ⟨m1, e1, n1⟩ := mul_near ha1 hv2 hK hL
 obtain ⟨m2, e2, n2⟩ := mul_near ha2 hv1 hK hL
 obtain ⟨m3, e3, n3⟩ := mul_near ha2 hv0 hK hL
 obtain ⟨m4, e4, n4⟩ := mul_near ha0 hv2 hK hL
 obtain ⟨m5, e5, n5⟩ := mul_near ha0 hv1 hK hL
 obtain ⟨m6, e6, n6⟩ := mul_near ha1 hv0 hK hL
 have b1 := prod_bd ha1 hv2 n1 hB
 have b2 := prod_bd ha2 hv1 n2 hB
 have b3 := prod_bd ha2 hv0 n3 hB
 have b4 := prod_bd ha0 hv2 n4 hB
 have b5 := prod_bd ha0 hv1 n5 hB
 have b6 := prod_bd ha1 hv0 n6 hB
 have s1 := sub_near b1 b2 (by omega) (by omega) (by omega)
 have s2 := sub_near b3 b4 (by omega) (by omega) (by omega)
 have s3 := sub_near b5 b6 (by omega) (by omega) (by omega)
 refine ⟨m1 - m2, m3 - m4, m5 - m6, ?_, (b1.sub b2).le (by omega), (b3.sub b4).le (by omega), (b5.sub b6).le (by omega), ?_, ?_, ?_⟩
 ·unfold vCrossS
  simp only [e1, e2, e3, e4, e5, e6, s1, s2, s3, soundS_no]
 ·have := n1.lo; have := n1.hi; have := n2.lo; have := n2.hi; constructor <;> omega
 ·have := n3.lo; have := n3.hi; have := n4.lo; have := n4.hi; constructor <;> omega
 ·have := n5.lo; have := n5.hi; have := n6.lo; have := n6.hi; constructor <;> omega
theorem double_near {c K : Int} (hc : Ab c K) (hK : K ≤ 1125899906842624) : mulS false c 2199023255552 = (2 * c, false) := by
 obtain ⟨m, e, h⟩ := mul_near hc (⟨by decide, by decide⟩ : Ab 2199023255552 2199023255552) hK (by decide)
 have := h.lo; have := h.hi
 rw [e, show m = 2 * c by omega]
def qfc (a0 a1 a2 s v0 v1 v2 : Int) : Int := 2 * (a1 * (a0 * v1 - a1 * v0) - a2 * (a2 * v0 - a0 * v2)) - 2 * (s * (a1 * v2 - a2 * v1))
def tnc (a0 a1 a2 s v0 v1 v2 : Int) : Int := 1208925819614629174706176 * v0 + qfc a0 a1 a2 s v0 v1 v2
theorem tnc_add (a0 a1 a2 s v0 v1 v2 u0 u1 u2 : Int) : tnc a0 a1 a2 s (v0 + u0) (v1 + u1) (v2 + u2) = tnc a0 a1 a2 s v0 v1 v2 + tnc a0 a1 a2 s u0 u1 u2 := by unfold tnc qfc; grind
theorem tnc_mul (a0 a1 a2 s v0 v1 v2 k : Int) : tnc a0 a1 a2 s (k * v0) (k * v1) (k * v2) = k * tnc a0 a1 a2 s v0 v1 v2 := by unfold tnc qfc; grind
theorem part_near {a0 a1 a2 s v0 v1 v2 c0 c1 c2 f d H : Int} (h1 : Ab a1 H) (h2 : Ab a2 H) (hs : Ab s H)
  (n0 : Ab (c0 * 1099511627776 - (a1 * v2 - a2 * v1)) 1099511627776) (n1 : Ab (c1 * 1099511627776 - (a2 * v0 - a0 * v2)) 1099511627776) (n2 : Ab (c2 * 1099511627776 - (a0 * v1 - a1 * v0)) 1099511627776)
  (nf : Ab (2 * (f * 1099511627776 - 2 * c0 * s)) 1099511627776) (nd : Ab (d * 1099511627776 - (a1 * (2 * c2) - a2 * (2 * c1))) 1099511627776) :
  Ab (1208925819614629174706176 * (v0 - f + d) - tnc a0 a1 a2 s v0 v1 v2) (2417851639229258349412352 + 6597069766656 * H) := by
 have id : 1208925819614629174706176 * (v0 - f + d) - tnc a0 a1 a2 s v0 v1 v2 =
   1099511627776 * (d * 1099511627776 - (a1 * (2 * c2) - a2 * (2 * c1))) - 1099511627776 * (f * 1099511627776 - 2 * c0 * s) - 2 * (s * (c0 * 1099511627776 - (a1 * v2 - a2 * v1)))
    + 2 * (a1 * (c2 * 1099511627776 - (a0 * v1 - a1 * v0)) - a2 * (c1 * 1099511627776 - (a2 * v0 - a0 * v2))) := by unfold tnc qfc; grind
 rw [id]
 have p0 := hs.mul n0
 have p1 := h1.mul n2
 have p2 := h2.mul n1
 generalize s * (c0 * 1099511627776 - (a1 * v2 - a2 * v1)) = x0 at *
 generalize a1 * (c2 * 1099511627776 - (a0 * v1 - a1 * v0)) = x1 at *
 generalize a2 * (c1 * 1099511627776 - (a2 * v0 - a0 * v2)) = x2 at *
 generalize d * 1099511627776 - (a1 * (2 * c2) - a2 * (2 * c1)) = x3 at *
 generalize f * 1099511627776 - 2 * c0 * s = x4 at *
 have := p0.lo; have := p0.hi; have := p1.lo; have := p1.hi; have := p2.lo; have := p2.hi; have := nf.lo; have := nf.hi; have := nd.lo; have := nd.hi
 constructor <;> omega
theorem turn_near {a0 a1 a2 s v0 v1 v2 H : Int} (h0 : Ab a0 H) (h1 : Ab a1 H) (h2 : Ab a2 H) (hs : Ab s H) (hH : H ≤ 5497558138880) (hv0 : Ab v0 17592186044416) (hv1 : Ab v1 17592186044416) (hv2 : Ab v2 17592186044416) :
  ∃ r0 r1 r2, qTurnS false (a0, a1, a2, s) (v0, v1, v2) = ((r0, r1, r2), false) ∧
   Ab (1208925819614629174706176 * r0 - tnc a0 a1 a2 s v0 v1 v2) (2417851639229258349412352 + 6597069766656 * H) ∧
   Ab (1208925819614629174706176 * r1 - tnc a1 a2 a0 s v1 v2 v0) (2417851639229258349412352 + 6597069766656 * H) ∧
   Ab (1208925819614629174706176 * r2 - tnc a2 a0 a1 s v2 v0 v1) (2417851639229258349412352 + 6597069766656 * H) := by
 have w0 := h0.le hH
 have w1 := h1.le hH
 have w2 := h2.le hH
 have ws := hs.le hH
 obtain ⟨c0, c1, c2, ec, bc0, bc1, bc2, n0, n1, n2⟩ := cross_near (B := 89060441849857) w0 w1 w2 hv0 hv1 hv2 (by decide) (by decide) (by decide) (by decide)
 have d0 := double_near bc0 (by decide)
 have d1 := double_near bc1 (by decide)
 have d2 := double_near bc2 (by decide)
 have t0 := Ab.two.mul bc0
 have t1 := Ab.two.mul bc1
 have t2 := Ab.two.mul bc2
 have esc : vScaleS false (c0, c1, c2) 2199023255552 = ((2 * c0, 2 * c1, 2 * c2), false) := by
  unfold vScaleS
  simp only [d0, d1, d2, soundS_no]
 obtain ⟨f0, ef0, nf0⟩ := mul_near t0 ws (by decide) (by decide)
 obtain ⟨f1, ef1, nf1⟩ := mul_near t1 ws (by decide) (by decide)
 obtain ⟨f2, ef2, nf2⟩ := mul_near t2 ws (by decide) (by decide)
 have bf0 := prod_bd t0 ws nf0 (B := 1781208836997141) (by decide)
 have bf1 := prod_bd t1 ws nf1 (B := 1781208836997141) (by decide)
 have bf2 := prod_bd t2 ws nf2 (B := 1781208836997141) (by decide)
 have ef : vScaleS false (2 * c0, 2 * c1, 2 * c2) s = ((f0, f1, f2), false) := by
  unfold vScaleS
  simp only [ef0, ef1, ef2, soundS_no]
 have s0 := sub_near hv0 bf0 (by decide) (by decide) (by decide)
 have s1 := sub_near hv1 bf1 (by decide) (by decide) (by decide)
 have s2 := sub_near hv2 bf2 (by decide) (by decide) (by decide)
 have es : vSubS false (v0, v1, v2) (f0, f1, f2) = ((v0 - f0, v1 - f1, v2 - f2), false) := by
  unfold vSubS
  simp only [s0, s1, s2, soundS_no]
 obtain ⟨g0, g1, g2, eg, bg0, bg1, bg2, k0, k1, k2⟩ := cross_near (B := 1781208836997141) w0 w1 w2 t0 t1 t2 (by decide) (by decide) (by decide) (by decide)
 have a0' := add_near (hv0.sub bf0) bg0 (by decide) (by decide) (by decide)
 have a1' := add_near (hv1.sub bf1) bg1 (by decide) (by decide) (by decide)
 have a2' := add_near (hv2.sub bf2) bg2 (by decide) (by decide) (by decide)
 have ea : vAddS false (v0 - f0, v1 - f1, v2 - f2) (g0, g1, g2) = ((v0 - f0 + g0, v1 - f1 + g1, v2 - f2 + g2), false) := by
  unfold vAddS
  simp only [a0', a1', a2', soundS_no]
 refine ⟨v0 - f0 + g0, v1 - f1 + g1, v2 - f2 + g2, ?_, part_near h1 h2 hs n0 n1 n2 nf0 k0, part_near h2 h0 hs n1 n2 n0 nf1 k1, part_near h0 h1 hs n2 n0 n1 nf2 k2⟩
 unfold qTurnS
 simp only [ec, esc, ef, es, eg, ea]
end Go.Proofs.Ytooehgijllihdaa
namespace Go.Proofs.Ytooehgijllihdaa
open Go.RowKit
abbrev MulR (p x y : Int) : Prop := Ab (2 * (p * 1099511627776 - x * y)) 1099511627776
abbrev DivR (u a d : Int) : Prop := Ab (2 * (u * d - a * 1099511627776)) d
structure SqrtR (d P : Int) : Prop where
 n0 : 0 ≤ d
 lo : d * d ≤ P * 1099511627776
 hi : P * 1099511627776 < (d + 1) * (d + 1)
theorem pivot_bd {d P : Int} (h : SqrtR d P) (h1 : 1073741000 ≤ P) (h2 : P ≤ 1099511627776) : 34359000000 ≤ d ∧ d ≤ 1099511627776 := by
 constructor
 ·apply Classical.byContradiction
  intro c
  have c' : d + 1 ≤ 34359000000 := by omega
  have := Int.mul_le_mul c' c' (by have := h.n0; omega) (by decide)
  have := h.hi
  omega
 ·apply Classical.byContradiction
  intro c
  have c' : 1099511627777 ≤ d := by omega
  have := Int.mul_le_mul c' c' (by decide) (by omega)
  have := h.lo
  omega
def az (x : Int) : Int := if x < 0 then -x else x
theorem az_n (x : Int) : 0 ≤ az x := by unfold az; split <;> omega
theorem az_hi (x : Int) : x ≤ az x := by unfold az; split <;> omega
theorem az_lo (x : Int) : -az x ≤ x := by unfold az; split <;> omega
theorem az_le {x K : Int} (h1 : -K ≤ x) (h2 : x ≤ K) : az x ≤ K := by unfold az; split <;> omega
theorem az_sub (x y : Int) : az (x - y) ≤ az x + az y := by unfold az; split <;> split <;> split <;> omega
theorem az_ab {x K : Int} (h : az x ≤ K) : Ab x K := ⟨by have := az_lo x; omega, by have := az_hi x; omega⟩
theorem az_mul (x y : Int) : Ab (x * y) (az x * az y) := (az_ab (Int.le_refl (az x))).mul (az_ab (Int.le_refl (az y)))
def sm (f : Nat → Int) : Nat → Int
 | 0 => 0
 | n + 1 => sm f n + f n
theorem sm_le {f g : Nat → Int} : ∀ {n : Nat}, (∀ k, k < n → f k ≤ g k) → sm f n ≤ sm g n
 | 0, _ => Int.le_refl _
 | n + 1, h => Int.add_le_add (sm_le fun k hk => h k (Nat.lt_succ_of_lt hk)) (h n (Nat.lt_succ_self n))
theorem sm_eq {f g : Nat → Int} {n : Nat} (h : ∀ k, k < n → f k = g k) : sm f n = sm g n := Int.le_antisymm (sm_le fun k hk => Int.le_of_eq (h k hk)) (sm_le fun k hk => Int.le_of_eq (h k hk).symm)
theorem sm_add (f g : Nat → Int) : ∀ n, sm (fun k => f k + g k) n = sm f n + sm g n
 | 0 => rfl
 | n + 1 => by show sm (fun k => f k + g k) n + (f n + g n) = sm f n + f n + (sm g n + g n); rw [sm_add f g n]; omega
theorem sm_mul (c : Int) (f : Nat → Int) : ∀ n, sm (fun k => c * f k) n = c * sm f n
 | 0 => by simp [sm]
 | n + 1 => by show sm (fun k => c * f k) n + c * f n = c * (sm f n + f n); rw [sm_mul c f n, Int.mul_add]
theorem sm_const (c : Int) : ∀ n : Nat, sm (fun _ => c) n = n * c
 | 0 => by simp [sm]
 | n + 1 => by show sm (fun _ => c) n + c = _; rw [sm_const c n]; grind
theorem sm_zero {f : Nat → Int} {n : Nat} (h : ∀ k, k < n → f k = 0) : sm f n = 0 := by
 rw [sm_eq h, sm_const]; simp
theorem sm_one (j : Nat) (c : Int) : ∀ {n : Nat}, j < n → sm (fun k => if k = j then c else 0) n = c
 | n + 1, h => by
  show sm (fun k => if k = j then c else 0) n + (if n = j then c else 0) = c
  by_cases e : n = j
  ·rw [if_pos e, sm_zero (fun k hk => if_neg (by omega))]; omega
  ·rw [if_neg e, sm_one j c (by omega)]; omega
theorem sm_pos {f : Nat → Int} {n : Nat} (h : ∀ k, k < n → 0 ≤ f k) : 0 ≤ sm f n := by
 have := sm_le h
 rw [sm_const] at this
 simpa using this
def off (A : Nat → Nat → Int) (j a : Nat) : Nat → Int := fun b => if j ≤ b ∧ b ≠ a then az (A a b) else 0
theorem off_n (A : Nat → Nat → Int) (j a b : Nat) : 0 ≤ off A j a b := by unfold off; split; exact az_n _; exact Int.le_refl _
def Dom (A : Nat → Nat → Int) (j N : Nat) (G : Int) : Prop := ∀ a, j ≤ a → a < N → sm (off A j a) N + G ≤ A a a
theorem Dom.diag {A : Nat → Nat → Int} {j N a : Nat} {G : Int} (D : Dom A j N G) (ha : j ≤ a) (ha' : a < N) : G ≤ A a a := by
 have t := sm_pos (f := off A j a) (n := N) (fun k _ => off_n A j a k)
 have d := D a ha ha'
 omega
theorem Dom.step {A p : Nat → Nat → Int} {j N : Nat} {G : Int} (D : Dom A j N G) (hG : 1 ≤ G) (hN : N ≤ 6) (hj : j < N) (sym : ∀ a, j < a → a < N → A a j = A j a)
  (hp : ∀ a b, j < a → a < N → j < b → b < N → Ab (p a b * A j j - A a j * A b j) (4 * A j j)) : Dom (fun a b => A a b - p a b) (j + 1) N (G - 24) := by
 intro a ha ha'
 have P0 : 1 ≤ A j j := Int.le_trans hG (D.diag (Nat.le_refl _) hj)
 -- the pivot's column
 have col : sm (fun b => if j + 1 ≤ b then az (A b j) else 0) N ≤ A j j := by
  have e : sm (fun b => if j + 1 ≤ b then az (A b j) else 0) N = sm (off A j j) N := sm_eq fun b hb => by
   unfold off
   by_cases c : j + 1 ≤ b
   ·rw [if_pos c, if_pos ⟨by omega, by omega⟩, sym b c hb]
   ·rw [if_neg c, if_neg (by omega)]
  have := D j (Nat.le_refl _) hj
  omega
 -- what is taken away from the row
 have row : sm (fun b => if j + 1 ≤ b then az (p a b) else 0) N ≤ az (A a j) + 24 := by
  have m : sm (fun b => A j j * (if j + 1 ≤ b then az (p a b) else 0)) N ≤ sm (fun b => az (A a j) * (if j + 1 ≤ b then az (A b j) else 0) + 4 * A j j) N := sm_le fun b hb => by
   show A j j * (if j + 1 ≤ b then az (p a b) else 0) ≤ az (A a j) * (if j + 1 ≤ b then az (A b j) else 0) + 4 * A j j
   by_cases c : j + 1 ≤ b
   ·rw [if_pos c, if_pos c]
    have h := hp a b ha ha' c hb
    have k := az_mul (A a j) (A b j)
    have := h.lo; have := h.hi; have := k.lo; have := k.hi
    have q : A j j * az (p a b) = az (p a b * A j j) := by
     unfold az
     by_cases z : p a b < 0
     ·rw [if_pos z, if_pos (by have := Int.mul_le_mul_of_nonneg_right (show p a b ≤ -1 by omega) (show 0 ≤ A j j by omega); omega)]; grind
     ·rw [if_neg z, if_neg (by have := Int.mul_nonneg (show 0 ≤ p a b by omega) (show 0 ≤ A j j by omega); omega)]; grind
    rw [q]
    exact az_le (by omega) (by omega)
   ·rw [if_neg c, if_neg c]; omega
  rw [sm_mul, sm_add, sm_mul, sm_const] at m
  have m2 : az (A a j) * sm (fun b => if j + 1 ≤ b then az (A b j) else 0) N ≤ az (A a j) * A j j := Int.mul_le_mul_of_nonneg_left col (az_n _)
  have m3 : (N : Int) * (4 * A j j) ≤ 6 * (4 * A j j) := Int.mul_le_mul_of_nonneg_right (by omega) (by omega)
  apply Classical.byContradiction
  intro c
  have m4 : A j j * (az (A a j) + 25) ≤ A j j * sm (fun b => if j + 1 ≤ b then az (p a b) else 0) N := Int.mul_le_mul_of_nonneg_left (by omega) (by omega)
  have e4 : A j j * (az (A a j) + 25) = az (A a j) * A j j + 25 * A j j := by grind
  omega
 -- the row, with its pivot's place
 have e1 : sm (off A j a) N = sm (off A (j + 1) a) N + az (A a j) := by
  rw [← sm_one (n := N) j (az (A a j)) hj, ← sm_add]
  refine sm_eq fun b hb => ?_
  unfold off
  by_cases c : b = j
  ·subst c; rw [if_pos ⟨Nat.le_refl _, by omega⟩, if_neg (by omega), if_pos rfl]; omega
  ·rw [if_neg c]
   by_cases c2 : j ≤ b ∧ b ≠ a
   ·rw [if_pos c2, if_pos ⟨by omega, c2.2⟩]; omega
   ·rw [if_neg c2, if_neg (by omega)]; omega
 have e2 : sm (fun b => if j + 1 ≤ b then az (p a b) else 0) N = sm (fun b => if j + 1 ≤ b ∧ b ≠ a then az (p a b) else 0) N + az (p a a) := by
  rw [← sm_one (n := N) a (az (p a a)) ha', ← sm_add]
  refine sm_eq fun b hb => ?_
  show (if j + 1 ≤ b then az (p a b) else 0) = (if j + 1 ≤ b ∧ b ≠ a then az (p a b) else 0) + (if b = a then az (p a a) else 0)
  by_cases c : b = a
  ·subst c; rw [if_pos ha, if_neg (by omega), if_pos rfl]; omega
  ·rw [if_neg c]
   by_cases c2 : j + 1 ≤ b
   ·rw [if_pos c2, if_pos ⟨c2, c⟩]; omega
   ·rw [if_neg c2, if_neg (by omega)]; omega
 have e3 : sm (off (fun a b => A a b - p a b) (j + 1) a) N ≤ sm (off A (j + 1) a) N + sm (fun b => if j + 1 ≤ b ∧ b ≠ a then az (p a b) else 0) N := by
  rw [← sm_add]
  refine sm_le fun b hb => ?_
  unfold off
  by_cases c : j + 1 ≤ b ∧ b ≠ a
  ·rw [if_pos c, if_pos c, if_pos c]; exact az_sub _ _
  ·rw [if_neg c, if_neg c, if_neg c]; omega
 have d := D a (by omega) ha'
 have := az_hi (p a a)
 show sm (off (fun a b => A a b - p a b) (j + 1) a) N + (G - 24) ≤ A a a - p a a
 omega
end Go.Proofs.Ytooehgijllihdaa
namespace Go.Proofs.Ytooehgijllihdaa
open Go.RowKit
def subsS (bad : Bool) (s : Int) (a b : Nat → Int) : Nat → Int × Bool
 | 0 => (s, bad)
 | k + 1 => let r := subsS bad s a b k; let p := mulS r.2 (a k) (b k); subS p.2 r.1 p.1
def entS (bad : Bool) (s : Int) (li lj : Nat → Int) (i j : Nat) : Int × Bool :=
 let r := subsS bad s li lj j
 if i = j then sqrtS (if r.1 < 1 then true else r.2) r.1 else divS r.2 r.1 (lj j)
def setM (l : Nat → Nat → Int) (i j : Nat) (v : Int) : Nat → Nat → Int := fun a b => if a = i ∧ b = j then v else l a b
abbrev LB := (Nat → Nat → Int) × Bool
def rowS (m : Nat → Nat → Int) (i : Nat) (x : LB) : Nat → LB
 | 0 => x
 | j + 1 => let y := rowS m i x j; let e := entS y.2 (m i j) (y.1 i) (y.1 j) i j; (setM y.1 i j e.1, e.2)
def rowsS (m : Nat → Nat → Int) (x : LB) : Nat → LB
 | 0 => x
 | i + 1 => rowS m i (rowsS m x i) (i + 1)
theorem mulS_comm (bad : Bool) (a b : Int) : mulS bad a b = mulS bad b a := by
 cases h : tk bad [a, b]
 ·rw [mulS_no h, mulS_no (by rw [← h]; cases bad <;> simp [tk, Bool.and_comm])]
 ·rw [mulS_yes h, mulS_yes (by rw [← h]; cases bad <;> simp [tk, Bool.and_comm]), Int.mul_comm (sz a)]
  cases decide (a < 0) <;> cases decide (b < 0) <;> rfl
theorem sqrt_near {a : Int} (h0 : 0 ≤ a) (h1 : a ≤ 1099511627776) : ∃ d, sqrtS false a = (d, false) ∧ SqrtR d a := by
 have hs := isq_spec (a * 1099511627776) (by omega) (by omega)
 have hd : isq (a * 1099511627776) ≤ 1099511627776 := by
  apply Classical.byContradiction
  intro c
  have c' : 1099511627777 ≤ isq (a * 1099511627776) := by omega
  have := Int.mul_le_mul c' c' (by decide) (by omega)
  omega
 refine ⟨isq (a * 1099511627776), ?_, ⟨hs.1, hs.2.1, hs.2.2⟩⟩
 rw [sqrtS_yes (by simp [tk, show numB a = true from numB_of ⟨by omega, by omega⟩]) h0]
 unfold out sgnd
 rw [decide_eq_false (by omega), if_pos (by omega)]
 simp only [Bool.false_eq_true, if_false]
def pr (L : Nat → Nat → Int) (a b k : Nat) : Int := (mulS false (L a k) (L b k)).1
def Am (m L : Nat → Nat → Int) (k a b : Nat) : Int := m a b - sm (pr L a b) k
theorem Am_succ (m L : Nat → Nat → Int) (k a b : Nat) : Am m L (k + 1) a b = Am m L k a b - pr L a b k := by
 unfold Am; show m a b - (sm (pr L a b) k + pr L a b k) = _; omega
theorem Am_zero (m L : Nat → Nat → Int) (a b : Nat) : Am m L 0 a b = m a b := by unfold Am; show m a b - 0 = _; omega
structure Piv (m L : Nat → Nat → Int) (a : Nat) : Prop where
 sq : sqrtS false (Am m L a a a) = (L a a, false)
 R : SqrtR (L a a) (Am m L a a a)
 lo : 1073741000 ≤ Am m L a a a
 hi : Am m L a a a ≤ 1099511627776
structure Lft (m L : Nat → Nat → Int) (a k : Nat) : Prop where
 dv : divS false (Am m L k a k) (L k k) = (L a k, false)
 R : DivR (L a k) (Am m L k a k) (L k k)
 bd : Ab (Am m L k a k) (Am m L k k k)
 ub : Ab (L a k) 1099511627776
def Rows6 (m L : Nat → Nat → Int) (i : Nat) : Prop := ∀ a, a < i → Piv m L a ∧ ∀ k, k < a → Lft m L a k
theorem sm_more {f : Nat → Int} {n : Nat} : ∀ {d : Nat}, (∀ k, k < n + d → 0 ≤ f k) → sm f n ≤ sm f (n + d)
 | 0, _ => Int.le_refl _
 | d + 1, h => by
  have := sm_more (f := f) (n := n) (d := d) (fun k hk => h k (by omega))
  have := h (n + d) (by omega)
  show sm f n ≤ sm f (n + d) + f (n + d)
  omega
theorem Dom.sub {A : Nat → Nat → Int} {j N N' : Nat} {G : Int} (D : Dom A j N' G) (h : N ≤ N') : Dom A j N G := fun a ha ha' => by
 have := D a ha (by omega)
 have := sm_more (f := off A j a) (n := N) (d := N' - N) (fun k _ => off_n A j a k)
 rw [show N + (N' - N) = N' by omega] at this
 omega
theorem Piv.root {m L : Nat → Nat → Int} {a : Nat} (h : Piv m L a) : 34359000000 ≤ L a a ∧ L a a ≤ 1099511627776 := pivot_bd h.R h.lo h.hi
theorem mul_is {L : Nat → Nat → Int} {a b k : Nat} (ha : Ab (L a k) 1099511627776) (hb : Ab (L b k) 1099511627776) : mulS false (L a k) (L b k) = (pr L a b k, false) ∧ MulR (pr L a b k) (L a k) (L b k) := by
 obtain ⟨p, e, h⟩ := mul_near ha hb (by decide) (by decide)
 unfold pr
 rw [e]
 exact ⟨rfl, h⟩
end Go.Proofs.Ytooehgijllihdaa
namespace Go.Proofs.Ytooehgijllihdaa
open Go.RowKit
theorem unit_sq (u a n : Int) : n * n * (u * u) = 1208925819614629174706176 * (a * a) + 1099511627776 * (a * (2 * (u * n - a * 1099511627776))) + (u * n - a * 1099511627776) * (u * n - a * 1099511627776) := by grind
theorem unit_sq_bd (u a n : Int) (U : Uof u a n) (ha : -n ≤ a ∧ a ≤ n) : 1208925819614629174706176 * (a * a) - 1099511627776 * (n * n) ≤ n * n * (u * u) ∧ 4 * (n * n * (u * u)) ≤ 4 * (1208925819614629174706176 * (a * a) + 1099511627776 * (n * n)) + n * n := by
 rw [unit_sq]
 have h := U.up
 have k := U.dn
 have e : -n ≤ 2 * (u * n - a * 1099511627776) ∧ 2 * (u * n - a * 1099511627776) ≤ n := by omega
 have p := absmul ha e
 have q := absmul e e
 have s := sq_nonneg (u * n - a * 1099511627776)
 have r : 2 * (u * n - a * 1099511627776) * (2 * (u * n - a * 1099511627776)) = 4 * ((u * n - a * 1099511627776) * (u * n - a * 1099511627776)) := by grind
 rw [r] at q
 generalize a * (2 * (u * n - a * 1099511627776)) = P at *
 generalize (u * n - a * 1099511627776) * (u * n - a * 1099511627776) = E at *
 omega
end Go.Proofs.Ytooehgijllihdaa
namespace Go.Proofs.Ytooehgijllihdaa
open Go.RowKit
theorem unit_sum4 (a b c d N n x y z t : Int) (hN : 0 ≤ N) (hn : 549755813888 ≤ n) (h1 : N * N ≤ a * a + b * b + c * c) (h2 : a * a + b * b + c * c < (N + 1) * (N + 1)) (h3 : n * n ≤ N * N + d * d + 0 * 0) (h4 : N * N + d * d + 0 * 0 < (n + 1) * (n + 1))
  (X : Uof x a n) (Y : Uof y b n) (Z : Uof z c n) (T : Uof t d n) : Ab (x * x + y * y + z * z + t * t - 1208925819614629174706176) 14293651161088 := by
 have sa := sq_nonneg a
 have sb := sq_nonneg b
 have sc := sq_nonneg c
 have sd := sq_nonneg d
 have sN := sq_nonneg N
 have kN := abs_le_of_sq (a := N) (by omega : 0 ≤ n) (by omega)
 have ka := abs_le_of_sq (a := a) hN (by omega)
 have kb := abs_le_of_sq (a := b) hN (by omega)
 have kc := abs_le_of_sq (a := c) hN (by omega)
 have kd := abs_le_of_sq (a := d) (by omega : 0 ≤ n) (by omega)
 have ba := unit_sq_bd x a n X (by omega)
 have bb := unit_sq_bd y b n Y (by omega)
 have bc := unit_sq_bd z c n Z (by omega)
 have bd := unit_sq_bd t d n T kd
 have e : n * n * (x * x + y * y + z * z + t * t) = n * n * (x * x) + n * n * (y * y) + n * n * (z * z) + n * n * (t * t) := by grind
 have n2 : (n + 1) * (n + 1) = n * n + 2 * n + 1 := by grind
 have m2 : (N + 1) * (N + 1) = N * N + 2 * N + 1 := by grind
 rw [n2] at h4
 rw [m2] at h2
 have nn : 549755813888 * n ≤ n * n := Int.mul_le_mul_of_nonneg_right hn (by omega)
 generalize n * n * (x * x) = x' at *
 generalize n * n * (y * y) = y' at *
 generalize n * n * (z * z) = z' at *
 generalize n * n * (t * t) = t' at *
 generalize x * x + y * y + z * z + t * t = W at *
 generalize a * a = aa at *
 generalize b * b = bb' at *
 generalize c * c = cc at *
 generalize d * d = dd at *
 generalize N * N = NN at *
 constructor
 ·by_cases k : 1208925819614629174706176 - 14293651161088 ≤ W
  ·omega
  ·have := Int.mul_le_mul_of_nonneg_left (by omega : W ≤ 1208925819614629174706176 - 14293651161088 - 1) (by omega : 0 ≤ n * n)
   generalize n * n = q at *
   omega
 ·by_cases k : W ≤ 1208925819614629174706176 + 14293651161088
  ·omega
  ·have h3 := Int.mul_le_mul_of_nonneg_left (by omega : 1208925819614629174706176 + 14293651161088 + 1 ≤ W) (by omega : 0 ≤ n * n)
   generalize n * n = q at *
   omega
structure U4 (u0 u1 u2 u3 : Int) : Prop where
 a0 : Ab u0 1099511627776
 a1 : Ab u1 1099511627776
 a2 : Ab u2 1099511627776
 a3 : Ab u3 1099511627776
 up : 0 ≤ u3
 len : Ab (u0 * u0 + u1 * u1 + u2 * u2 + u3 * u3 - 1208925819614629174706176) 14293651161088
theorem unit_math (q : V4) : (qUnitS false q = ((0, 0, 0, 0), true)) ∨ ∃ u0 u1 u2 u3, qUnitS false q = ((u0, u1, u2, u3), false) ∧ U4 u0 u1 u2 u3 := by
 rcases qUnit_cases false q with ⟨_, e⟩ | ⟨N, n, d0, d1, d2, d3, _, h1, h2, c, _, _, _, _, U0, U1, U2, U3, e⟩
 ·exact Or.inl e
 ·refine Or.inr ?_
  have g1 := normS_good h1
  have g2 := normS_good h2
  have s := unit_sum4 q.1 q.2.1 q.2.2.1 q.2.2.2 N n d0 d1 d2 d3 g1.2.2.2.2.1 c g1.2.2.2.2.2.2.1 g1.2.2.2.2.2.2.2 g2.2.2.2.2.2.2.1 g2.2.2.2.2.2.2.2 U0 U1 U2 U3
  by_cases k : d3 < 0
  ·rw [if_pos k] at e
   refine ⟨-d0, -d1, -d2, -d3, e, ⟨⟨by have := U0.hi; omega, by have := U0.lo; omega⟩, ⟨by have := U1.hi; omega, by have := U1.lo; omega⟩, ⟨by have := U2.hi; omega, by have := U2.lo; omega⟩, ⟨by have := U3.hi; omega, by have := U3.lo; omega⟩, by omega, ?_⟩⟩
   rw [Int.neg_mul_neg, Int.neg_mul_neg, Int.neg_mul_neg, Int.neg_mul_neg]
   exact s
  ·rw [if_neg k] at e
   exact ⟨d0, d1, d2, d3, e, ⟨⟨U0.lo, U0.hi⟩, ⟨U1.lo, U1.hi⟩, ⟨U2.lo, U2.hi⟩, ⟨U3.lo, U3.hi⟩, by omega, s⟩⟩
theorem tnc_bd {a0 a1 a2 s v0 v1 v2 K : Int} (h0 : Ab a0 1099511627776) (h1 : Ab a1 1099511627776) (h2 : Ab a2 1099511627776) (hs : Ab s 1099511627776) (k0 : Ab v0 K) (k1 : Ab v1 K) (k2 : Ab v2 K) : Ab (tnc a0 a1 a2 s v0 v1 v2) (15716035654990179271180288 * K) := by
 unfold tnc qfc
 exact ((Ab.one80.mul k0).add ((Ab.two.mul ((h1.mul ((h0.mul k1).sub (h1.mul k0))).sub (h2.mul ((h2.mul k0).sub (h0.mul k2))))).sub (Ab.two.mul (hs.mul ((h1.mul k2).sub (h2.mul k1)))))).le (by omega)
end Go.Proofs.Ytooehgijllihdaa
