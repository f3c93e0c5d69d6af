/-
  Orders: numbers of eight bytes, in both ways, as plain steps, for the seat YtoadcnhcfodkgaaGreatDoor. No Go text in sight.
-/
import Derived.Test.YtoadcnhcfodkgaaGreatDoorByM
import Derived.Test.YtoadcnhcfodkgaaGreatDoorOSpec
namespace Go.Proofs.YtoadcnhcfodkgaaGreatDoor
open Go.RowKit

/-- The number of k bytes from i on. -/
def numK (s : ByteArray) (i : Nat) : Nat → Nat
  | 0 => 0
  | k + 1 => numK s i k * 256 + bt s (i + k)
theorem numK_lt (s : ByteArray) (i : Nat) : ∀ k, numK s i k < 256 ^ k
  | 0 => by show 0 < 1; decide
  | k + 1 => by
    have h := numK_lt s i k
    have := bt_lt s (i + k)
    show numK s i k * 256 + bt s (i + k) < 256 ^ k * 256
    omega
theorem numK_tail (s : ByteArray) (n i : Nat) : ∀ k, numK (s.extract n s.size) i k = numK s (n + i) k
  | 0 => rfl
  | k + 1 => by
    show numK _ i k * 256 + bt _ (i + k) = numK s (n + i) k * 256 + bt s (n + i + k)
    rw [numK_tail s n i k, bt_tail, Nat.add_assoc]
/-- Eight bytes by two's complement. -/
def onumS (s : ByteArray) (i : Nat) : Int := IntKind.i64.wrap (numK s i 8 : Nat)
theorem numS_tail (s : ByteArray) (n i : Nat) : onumS (s.extract n s.size) i = onumS s (n + i) := by
  unfold onumS
  rw [numK_tail]
theorem numS_rng (s : ByteArray) (i : Nat) : -9223372036854775808 ≤ onumS s i ∧ onumS s i ≤ 9223372036854775807 := by
  unfold onumS
  rw [IntKind.wrap_i64]
  omega
/-- The eight bytes of a number, the highest first. -/
def numL (n : Int) : List Int := [IntKind.u8.wrap (IntKind.u64.wrap n / 72057594037927936), IntKind.u8.wrap (IntKind.u64.wrap n / 281474976710656), IntKind.u8.wrap (IntKind.u64.wrap n / 1099511627776), IntKind.u8.wrap (IntKind.u64.wrap n / 4294967296), IntKind.u8.wrap (IntKind.u64.wrap n / 16777216), IntKind.u8.wrap (IntKind.u64.wrap n / 65536), IntKind.u8.wrap (IntKind.u64.wrap n / 256), IntKind.u8.wrap (IntKind.u64.wrap n)]
theorem numL_len (n : Int) : (numL n).length = 8 := rfl
theorem numL_rng (n : Int) : ∀ b ∈ numL n, 0 ≤ b ∧ b < 256 := by
  intro b hb
  simp only [numL, List.mem_cons, List.not_mem_nil, or_false] at hb
  rcases hb with rfl | rfl | rfl | rfl | rfl | rfl | rfl | rfl <;> exact wrap8_in _
/-- A number's bytes, joined again. -/
theorem num_back {b0 b1 b2 b3 b4 b5 b6 b7 : Nat} {n : Int} (hn : -9223372036854775808 ≤ n ∧ n ≤ 9223372036854775807)
    (e0 : (b0 : Int) = IntKind.u8.wrap (IntKind.u64.wrap n / 72057594037927936)) (e1 : (b1 : Int) = IntKind.u8.wrap (IntKind.u64.wrap n / 281474976710656)) (e2 : (b2 : Int) = IntKind.u8.wrap (IntKind.u64.wrap n / 1099511627776)) (e3 : (b3 : Int) = IntKind.u8.wrap (IntKind.u64.wrap n / 4294967296))
    (e4 : (b4 : Int) = IntKind.u8.wrap (IntKind.u64.wrap n / 16777216)) (e5 : (b5 : Int) = IntKind.u8.wrap (IntKind.u64.wrap n / 65536)) (e6 : (b6 : Int) = IntKind.u8.wrap (IntKind.u64.wrap n / 256)) (e7 : (b7 : Int) = IntKind.u8.wrap (IntKind.u64.wrap n)) :
    IntKind.i64.wrap (((((((((0 * 256 + b0) * 256 + b1) * 256 + b2) * 256 + b3) * 256 + b4) * 256 + b5) * 256 + b6) * 256 + b7 : Nat) : Int) = n := by
  have hu : 0 ≤ IntKind.u64.wrap n ∧ IntKind.u64.wrap n < 18446744073709551616 ∧ (IntKind.u64.wrap n = n ∨ IntKind.u64.wrap n = n + 18446744073709551616) := by
    rw [IntKind.wrap_u64]
    omega
  generalize IntKind.u64.wrap n = u at *
  rw [IntKind.wrap_u8] at e0 e1 e2 e3 e4 e5 e6 e7
  have hs : ((((((((((0 * 256 + b0) * 256 + b1) * 256 + b2) * 256 + b3) * 256 + b4) * 256 + b5) * 256 + b6) * 256 + b7 : Nat)) : Int) = u := by omega
  rw [hs, IntKind.wrap_i64]
  omega
/-- What eight bytes are joined to has these bytes. -/
theorem num_there (s : ByteArray) (i : Nat) : numL (onumS s i) = [(bt s i : Int), (bt s (i + 1) : Int), (bt s (i + 2) : Int), (bt s (i + 3) : Int), (bt s (i + 4) : Int), (bt s (i + 5) : Int), (bt s (i + 6) : Int), (bt s (i + 7) : Int)] := by
  have hlt := numK_lt s i 8
  have hu : IntKind.u64.wrap (onumS s i) = (numK s i 8 : Nat) := by
    unfold onumS
    rw [IntKind.wrap_u64, IntKind.wrap_i64]
    have : (256 : Nat) ^ 8 = 18446744073709551616 := rfl
    omega
  unfold numL
  rw [hu]
  have hk : numK s i 8 = (((((((0 * 256 + bt s i) * 256 + bt s (i + 1)) * 256 + bt s (i + 2)) * 256 + bt s (i + 3)) * 256 + bt s (i + 4)) * 256 + bt s (i + 5)) * 256 + bt s (i + 6)) * 256 + bt s (i + 7) := rfl
  have h0 := bt_lt s i
  have h1 := bt_lt s (i + 1)
  have h2 := bt_lt s (i + 2)
  have h3 := bt_lt s (i + 3)
  have h4 := bt_lt s (i + 4)
  have h5 := bt_lt s (i + 5)
  have h6 := bt_lt s (i + 6)
  have h7 := bt_lt s (i + 7)
  rw [hk]
  generalize bt s i = b0 at *
  generalize bt s (i + 1) = b1 at *
  generalize bt s (i + 2) = b2 at *
  generalize bt s (i + 3) = b3 at *
  generalize bt s (i + 4) = b4 at *
  generalize bt s (i + 5) = b5 at *
  generalize bt s (i + 6) = b6 at *
  generalize bt s (i + 7) = b7 at *
  simp only [IntKind.wrap_u8]
  refine congr (congrArg _ (by omega)) (congr (congrArg _ (by omega)) (congr (congrArg _ (by omega)) (congr (congrArg _ (by omega)) (congr (congrArg _ (by omega)) (congr (congrArg _ (by omega)) (congr (congrArg _ (by omega)) (congr (congrArg _ (by omega)) rfl)))))))
/-! ### Orders as bytes -/
def v7F (o : V7) : Nat → Int := fun i => [o.1, o.2.1, o.2.2.1, o.2.2.2.1, o.2.2.2.2.1, o.2.2.2.2.2.1, o.2.2.2.2.2.2].getD i 0
def elsL (l : List Int) (ef : Nat → Int) : Nat → List Int
  | 0 => l
  | j + 1 => elsL l ef j ++ numL (ef j)
theorem elsL_len (l : List Int) (ef : Nat → Int) : ∀ j, (elsL l ef j).length = l.length + 8 * j
  | 0 => rfl
  | j + 1 => by
    show (elsL l ef j ++ numL (ef j)).length = _
    rw [List.length_append, elsL_len l ef j, numL_len]
    omega
theorem elsL_rng {l : List Int} (h : ∀ b ∈ l, 0 ≤ b ∧ b < 256) (ef : Nat → Int) : ∀ j, ∀ b ∈ elsL l ef j, 0 ≤ b ∧ b < 256
  | 0 => h
  | j + 1 => fun b hb => (List.mem_append.1 hb).elim (elsL_rng h ef j b) (numL_rng _ b)
def sizeS (c : Int) : Int := if c = 1 ∨ c = 2 ∨ c = 4 then 2 else if c = 3 then 58 else 0
/-- An order may be written. -/
def ordOk (q c : Int) (o : V7) : Bool := decide (0 ≤ q) && decide (q ≤ 255) && decide (1 ≤ c) && decide (c ≤ 4) && (!decide (c = 3) || oRightC o)
def ordL (q c : Int) (o : V7) : List Int := if c = 3 then elsL [q, c] (v7F o) 7 else [q, c]
def ordW (q c : Int) (o : V7) : Int × ByteArray := if ordOk q c o then (16, strOf (ordL q c o)) else (0, ⟨#[]⟩)
def z7 : V7 := (0, 0, 0, 0, 0, 0, 0)
/-- The elements in an order's bytes. -/
def ordE (s : ByteArray) : V7 := (onumS s 2, onumS s 10, onumS s 18, onumS s 26, onumS s 34, onumS s 42, onumS s 50)
/-- Number, code, elements of what is read; what is wrong. -/
def ordR (k : Int) (s : ByteArray) : (Int × Int × V7) × Int :=
  if s.size < 2 then ((0, 0, z7), 1)
  else if k ≠ 16 then (((bt s 0 : Nat), 0, z7), 1)
  else if sizeS (bt s 1 : Nat) = 0 then (((bt s 0 : Nat), 0, z7), 2)
  else if (s.size : Int) ≠ sizeS (bt s 1 : Nat) then (((bt s 0 : Nat), 0, z7), 1)
  else if ((bt s 1 : Nat) : Int) ≠ 3 then (((bt s 0 : Nat), (bt s 1 : Nat), z7), 0)
  else if oRightC (ordE s) then (((bt s 0 : Nat), 3, ordE s), 0)
  else (((bt s 0 : Nat), 0, z7), 3)
end Go.Proofs.YtoadcnhcfodkgaaGreatDoor
