/-
  What sensors' frames say, as plain steps, for the seat YtoadcnhcfodkgaaGreatDoor. No Go text in sight.
-/
import Derived.Test.YtoadcnhcfodkgaaGreatDoorVNear
import Derived.Test.YtoadcnhcfodkgaaGreatDoorCSpec
import Derived.Below
import Derived.Laws.BitsAllLaws
import Derived.Lib.Strings
namespace Go.Proofs.YtoadcnhcfodkgaaGreatDoor
open Go.RowKit

/-- The byte at a place. -/
def bt (s : ByteArray) (i : Nat) : Nat := (s.data.toList.getD i 0).toNat
theorem bt_lt (s : ByteArray) (i : Nat) : bt s i < 256 := UInt8.toNat_lt _
theorem bt_of {s : ByteArray} {i : Nat} (h : i < s.size) : (s[i]'h).toNat = bt s i := by
  have hl : i < s.data.toList.length := h
  unfold bt
  rw [List.getD_eq_getElem?_getD, List.getElem?_eq_getElem hl]
  rfl
/-- Two bytes. -/
def cnt (s : ByteArray) (i : Nat) : Nat := bt s i * 256 + bt s (i + 1)
theorem cnt_lt (s : ByteArray) (i : Nat) : cnt s i < 65536 := by
  have := bt_lt s i
  have := bt_lt s (i + 1)
  unfold cnt
  omega
/-- By two's complement. -/
def sg (n : Nat) : Int := if 32768 ≤ n then (n : Int) - 65536 else n
theorem sg_rng {n : Nat} (h : n < 65536) : -32768 ≤ sg n ∧ sg n ≤ 32767 := by
  unfold sg
  split <;> omega
/-- A tick of k bytes. -/
def tickK (s : ByteArray) : Nat → Nat
  | 0 => 0
  | k + 1 => tickK s k * 256 + bt s k
theorem tickK_lt (s : ByteArray) : ∀ k, tickK s k < 256 ^ k
  | 0 => by show 0 < 1; decide
  | k + 1 => by
    have h := tickK_lt s k
    have := bt_lt s k
    show tickK s k * 256 + bt s k < 256 ^ k * 256
    omega
theorem tickK_le (s : ByteArray) {k : Nat} (h : k ≤ 6) : tickK s k < 281474976710656 :=
  Nat.lt_of_lt_of_le (tickK_lt s k) (show 256 ^ k ≤ 256 ^ 6 from Nat.pow_le_pow_right (by decide) h)
def tickS (s : ByteArray) : Int := (tickK s 6 : Nat)
theorem tickS_rng (s : ByteArray) : 0 ≤ tickS s ∧ tickS s < 281474976710656 := by
  have := tickK_le s (k := 6) (by omega)
  unfold tickS
  omega
theorem bt_head {s : ByteArray} {i n : Nat} (h : i < n) : bt (s.extract 0 n) i = bt s i := by
  unfold bt
  rw [Lib.extract_data]
  simp [List.getD_eq_getElem?_getD, h]
theorem bt_tail {s : ByteArray} {i n : Nat} : bt (s.extract n s.size) i = bt s (n + i) := by
  unfold bt
  rw [Lib.extract_data, List.take_of_length_le (by rw [List.length_drop]; exact Nat.le_refl _)]
  simp [List.getD_eq_getElem?_getD]
theorem tick_head (s : ByteArray) : tickS (s.extract 0 6) = tickS s := by
  unfold tickS
  simp only [tickK]
  rw [bt_head (by decide), bt_head (by decide), bt_head (by decide), bt_head (by decide), bt_head (by decide), bt_head (by decide)]
theorem cnt_tail {s : ByteArray} {i : Nat} : cnt (s.extract 6 s.size) i = cnt s (6 + i) := by
  unfold cnt
  rw [bt_tail, bt_tail, Nat.add_assoc]
theorem or64 {a b : Nat} (ha : a < 1099511627776) (hb : b < 256) : bits .or .i64 ((a : Int) * 256) (b : Int) = ((a * 256 + b : Nat) : Int) := by
  rw [show (a : Int) * 256 = ((a * 256 : Nat) : Int) by omega]
  show IntKind.i64.wrap ((BitVec.ofInt 64 ((a * 256 : Nat) : Int) ||| BitVec.ofInt 64 (b : Int)).toNat : Int) = _
  have e := Nat.two_pow_add_eq_or_of_lt (i := 8) (show b < 2 ^ 8 by omega) a
  rw [BitVec.toNat_or, ofInt_u64 _ (by omega), ofInt_u64 b (by omega), show a * 256 = 2 ^ 8 * a by omega, ← e]
  rw [IntKind.wrap_i64]
  omega
theorem or16 {a b : Nat} (ha : a < 256) (hb : b < 256) : bits .or .u16 ((a : Int) * 256) (b : Int) = ((a * 256 + b : Nat) : Int) := by
  rw [show (a : Int) * 256 = ((a * 256 : Nat) : Int) by omega, u16_or_nat (a * 256) b (by omega) (by omega)]
  have := Nat.two_pow_add_eq_or_of_lt (i := 8) (show b < 2 ^ 8 by omega) a
  rw [show a * 256 = 2 ^ 8 * a by omega, ← this]

/-! ### What may be said -/
def gyroIn (a : Int) : Bool := decide (-30000 ≤ a ∧ a ≤ 30000)
def gyroOk (a b c : Int) : Bool := gyroIn a && gyroIn b && gyroIn c
def gyroV (a b c : Int) : V3 := (a * 33554432, b * 33554432, c * 33554432)
def magS (a b c : Int) : V3 × Bool :=
  let r0 := partS false 1099511627776 a 100
  let r1 := partS r0.2 1099511627776 b 100
  let r2 := partS r1.2 1099511627776 c 100
  ((r0.1, r1.1, r2.1), r2.2)
def magN (a b c : Int) : Int := (vNormS (magS a b c).2 (magS a b c).1).1
def magOk (a b c : Int) : Bool := decide (1099511627776 ≤ magN a b c) && decide (magN a b c ≤ 131941395333120)
def sunD (a b c d e f : Int) : V3 := ((a - b) * 16777216, (c - d) * 16777216, (e - f) * 16777216)
def sunS (a b c d e f : Int) : V3 × Bool := vUnitS false (sunD a b c d e f)
def lit (a b c d e f : Int) : Bool := decide (2000 ≤ a) || decide (2000 ≤ b) || decide (2000 ≤ c) || decide (2000 ≤ d) || decide (2000 ≤ e) || decide (2000 ≤ f)
def sunOk (a b c d e f : Int) : Bool := lit a b c d e f && !(sunS a b c d e f).2
/-- A reading's V and whether there is one, of the counts behind the tick (o: where they begin). -/
def saidV (k : Int) (s : ByteArray) (o : Nat) : V3 :=
  if k = 1 then gyroV (sg (cnt s o)) (sg (cnt s (o + 2))) (sg (cnt s (o + 4)))
  else if k = 3 then (magS (sg (cnt s o)) (sg (cnt s (o + 2))) (sg (cnt s (o + 4)))).1
  else (sunS (cnt s o) (cnt s (o + 2)) (cnt s (o + 4)) (cnt s (o + 6)) (cnt s (o + 8)) (cnt s (o + 10))).1
def saidOk (k : Int) (s : ByteArray) (o : Nat) : Bool :=
  if k = 1 then gyroOk (sg (cnt s o)) (sg (cnt s (o + 2))) (sg (cnt s (o + 4)))
  else if k = 3 then magOk (sg (cnt s o)) (sg (cnt s (o + 2))) (sg (cnt s (o + 4)))
  else sunOk (cnt s o) (cnt s (o + 2)) (cnt s (o + 4)) (cnt s (o + 6)) (cnt s (o + 8)) (cnt s (o + 10))
def formOk (k : Int) (s : ByteArray) : Bool := (decide (k = 1) && decide (s.size = 12)) || (decide (k = 3) && decide (s.size = 12)) || (decide (k = 2) && decide (s.size = 18))
def readOk (k : Int) (s : ByteArray) : Bool := formOk k s && cRight (tickS s) && saidOk k s 6
/-- Kind, tick and V of what is read. -/
def readR (k : Int) (s : ByteArray) : Int × Int × V3 := if readOk k s then (k, tickS s, saidV k s 6) else (0, 0, 0, 0, 0)
end Go.Proofs.YtoadcnhcfodkgaaGreatDoor
