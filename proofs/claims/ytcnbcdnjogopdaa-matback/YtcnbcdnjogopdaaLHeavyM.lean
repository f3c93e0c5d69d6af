/-
  alidadelaw06.heavy: what it looks at, for the seat Ytcnbcdnjogopdaa. (Made by mklaw06.py.)
-/
import Derived.Test.YtcnbcdnjogopdaaMK
import Derived.Test.YtcnbcdnjogopdaaVPart
import Derived.Handy
import Derived.Deep.RegionHeld3
namespace Go.Proofs.Ytcnbcdnjogopdaa
open Go.RowKit

/-- The greater one. -/
def max2 (x y : Int) : Int := if y > x then y else x
@[go_sem high] theorem run_max2 {P : Program} {w : World} (ts : Array TypeId) (t : TypeId) (k k' : IntKind) (x y : Int) : (Builtin.max_ ts t #[.int k x, .int k' y]).run P w = .ok (.int k (max2 x y)) w := by
  simp [Builtin.max_, Builtin.max2, max2]
theorem max2_or (x : Int) : max2 x (-x) = x ∨ max2 x (-x) = -x := by unfold max2; split <;> omega
theorem max2_az (x : Int) : max2 x (-x) = az x := by unfold max2 az; split <;> split <;> omega
/-- A row is looked at, up to j. -/
structure HIn (m : Nat → Int) (i j : Nat) (s : Int) : Prop where
  ok : ∀ b, b < j → Ab (mt m i b) 1099511627776 ∧ mt m i b = mt m b i
  sum : s = sm (off (mt m) 0 i) j
structure HRow (m : Nat → Int) (n i : Nat) : Prop where
  ok : ∀ b, b < n → Ab (mt m i b) 1099511627776 ∧ mt m i b = mt m b i
  big : sm (off (mt m) 0 i) n + 1073741824 ≤ mt m i i
def HOut (m : Nat → Int) (n i : Nat) : Prop := ∀ a, a < i → HRow m n a
theorem HIn.zero (m : Nat → Int) (i : Nat) : HIn m i 0 0 := ⟨fun b hb => by omega, rfl⟩
theorem HIn.bd {m : Nat → Int} {i : Nat} : ∀ {j : Nat} {s : Int}, HIn m i j s → 0 ≤ s ∧ s ≤ (j : Int) * 1099511627776
  | 0, s, h => by rw [h.sum]; show (0 : Int) ≤ 0 ∧ (0 : Int) ≤ _; omega
  | j + 1, s, h => by
    have p := HIn.bd (m := m) (i := i) (j := j) (s := sm (off (mt m) 0 i) j) ⟨fun b hb => h.ok b (by omega), rfl⟩
    have e : s = sm (off (mt m) 0 i) j + off (mt m) 0 i j := h.sum
    have o1 := off_n (mt m) 0 i j
    have o2 : off (mt m) 0 i j ≤ 1099511627776 := by
      unfold off
      split
      · have := (h.ok j (by omega)).1; exact az_le this.lo this.hi
      · decide
    omega
theorem HIn.same {m : Nat → Int} {i j : Nat} {s : Int} (h : HIn m i j s) (hi : i ≤ j) (hj : j ≤ i) (h1 : m (i * 6 + j) ≤ 1099511627776) (h2 : -1099511627776 ≤ m (i * 6 + j)) : HIn m i (j + 1) s := by
  obtain rfl : i = j := by omega
  refine ⟨fun b hb => ?_, ?_⟩
  · by_cases c : b < i
    · exact h.ok b c
    · obtain rfl : b = i := by omega
      exact ⟨⟨h2, h1⟩, rfl⟩
  · show s = sm (off (mt m) 0 i) i + off (mt m) 0 i i
    rw [show off (mt m) 0 i i = 0 from if_neg (by omega), ← h.sum]
    omega
theorem HIn.more {m : Nat → Int} {i j : Nat} {s : Int} (h : HIn m i j s) (hn : ¬ i = j) (h1 : m (i * 6 + j) ≤ 1099511627776) (h2 : -1099511627776 ≤ m (i * 6 + j)) (hs : m (i * 6 + j) = m (j * 6 + i)) : HIn m i (j + 1) (s + max2 (m (i * 6 + j)) (-m (i * 6 + j))) := by
  refine ⟨fun b hb => ?_, ?_⟩
  · by_cases c : b < j
    · exact h.ok b c
    · obtain rfl : b = j := by omega
      exact ⟨⟨h2, h1⟩, hs⟩
  · show _ = sm (off (mt m) 0 i) j + off (mt m) 0 i j
    rw [show off (mt m) 0 i j = az (mt m i j) from if_pos (by omega), ← h.sum, max2_az]
    rfl
theorem HOut.zero (m : Nat → Int) (n : Nat) : HOut m n 0 := fun a h => by omega
theorem HOut.more {m : Nat → Int} {n i : Nat} {s : Int} (h : HOut m n i) (k : HIn m i n s) (hb : s + 1073741824 ≤ m (i * 6 + i)) : HOut m n (i + 1) := fun a ha => by
  by_cases c : a < i
  · exact h a c
  · obtain rfl : a = i := by omega
    exact ⟨k.ok, by rw [← k.sum]; exact hb⟩
theorem HOut.heavy {m : Nat → Int} {n : Nat} (h6 : n ≤ 6) (h : HOut m n n) : Heavy (mt m) n := ⟨h6, fun a b ha hb => ((h a ha).ok b hb).1, fun a b ha hb => ((h a ha).ok b hb).2, fun a _ ha => (h a ha).big⟩
end Go.Proofs.Ytcnbcdnjogopdaa
