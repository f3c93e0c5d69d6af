/-
  The sum of bytes, bit by bit: a step is one-to-one, in the register and in the byte: two registers that differ stay so, for the seat YtoadcnhcfodkgaaGreatDoor. No Go text in sight.
-/
import Derived.WalkKit
namespace Go.Proofs.YtoadcnhcfodkgaaGreatDoor

/-- One shift. -/
def crcBit (r : Nat) : Nat := if 32768 ≤ r then (2 * r - 65536) ^^^ 4129 else 2 * r
/-- One byte. -/
def crcByte (r b : Nat) : Nat := crcBit (crcBit (crcBit (crcBit (crcBit (crcBit (crcBit (crcBit (r ^^^ b * 256))))))))
def crcOf (r : Nat) (l : List Nat) : Nat := l.foldl crcByte r
theorem crcOf_cons (r b : Nat) (l : List Nat) : crcOf r (b :: l) = crcOf (crcByte r b) l := by unfold crcOf; rw [List.foldl_cons]
theorem xor_cancel {a b c : Nat} (h : a ^^^ c = b ^^^ c) : a = b := by
  have := congrArg (· ^^^ c) h
  simpa [Nat.xor_assoc, Nat.xor_self] using this
theorem xor_cancel_left {a b c : Nat} (h : c ^^^ a = c ^^^ b) : a = b := xor_cancel (c := c) (by rw [Nat.xor_comm a, Nat.xor_comm b]; exact h)
theorem xor_16 {a b : Nat} (ha : a < 65536) (hb : b < 65536) : a ^^^ b < 65536 := Nat.xor_lt_two_pow (n := 16) ha hb
theorem xor_odd {a : Nat} (h : a % 2 = 0) : (a ^^^ 4129) % 2 = 1 := by
  have := Nat.xor_mod_two_pow (a := a) (b := 4129) (n := 1)
  simp at this
  rw [this, h]
  rfl
theorem crcBit_lt {r : Nat} (h : r < 65536) : crcBit r < 65536 := by
  unfold crcBit
  split
  · exact xor_16 (by omega) (by decide)
  · omega
theorem crcBit_inj {r s : Nat} (hr : r < 65536) (hs : s < 65536) (h : crcBit r = crcBit s) : r = s := by
  unfold crcBit at h
  by_cases a : 32768 ≤ r
  · by_cases b : 32768 ≤ s
    · rw [if_pos a, if_pos b] at h
      have := xor_cancel h
      omega
    · rw [if_pos a, if_neg b] at h
      have := xor_odd (a := 2 * r - 65536) (by omega)
      omega
  · by_cases b : 32768 ≤ s
    · rw [if_neg a, if_pos b] at h
      have := xor_odd (a := 2 * s - 65536) (by omega)
      omega
    · rw [if_neg a, if_neg b] at h
      omega
theorem crcByte_lt {r b : Nat} (hr : r < 65536) (hb : b < 256) : crcByte r b < 65536 :=
  crcBit_lt (crcBit_lt (crcBit_lt (crcBit_lt (crcBit_lt (crcBit_lt (crcBit_lt (crcBit_lt (xor_16 hr (by omega)))))))))
theorem crcByte_inj {r s b c : Nat} (hr : r < 65536) (hs : s < 65536) (hb : b < 256) (hc : c < 256) (h : crcByte r b = crcByte s c) : r ^^^ b * 256 = s ^^^ c * 256 := by
  have x := xor_16 hr (show b * 256 < 65536 by omega)
  have y := xor_16 hs (show c * 256 < 65536 by omega)
  unfold crcByte at h
  generalize r ^^^ b * 256 = u at *
  generalize s ^^^ c * 256 = v at *
  have l (z : Nat) (hz : z < 65536) := crcBit_lt hz
  have h := crcBit_inj (l _ (l _ (l _ (l _ (l _ (l _ (l _ x))))))) (l _ (l _ (l _ (l _ (l _ (l _ (l _ y))))))) h
  have h := crcBit_inj (l _ (l _ (l _ (l _ (l _ (l _ x)))))) (l _ (l _ (l _ (l _ (l _ (l _ y)))))) h
  have h := crcBit_inj (l _ (l _ (l _ (l _ (l _ x))))) (l _ (l _ (l _ (l _ (l _ y))))) h
  have h := crcBit_inj (l _ (l _ (l _ (l _ x)))) (l _ (l _ (l _ (l _ y)))) h
  have h := crcBit_inj (l _ (l _ (l _ x))) (l _ (l _ (l _ y))) h
  have h := crcBit_inj (l _ (l _ x)) (l _ (l _ y)) h
  have h := crcBit_inj (l _ x) (l _ y) h
  exact crcBit_inj x y h
theorem crcOf_lt {l : List Nat} (hl : ∀ b ∈ l, b < 256) : ∀ {r : Nat}, r < 65536 → crcOf r l < 65536 := by
  induction l with
  | nil => intro r h; exact h
  | cons b l ih => intro r h; rw [crcOf_cons]; exact ih (fun c hc => hl c (List.mem_cons_of_mem _ hc)) (crcByte_lt h (hl b List.mem_cons_self))
/-- Two registers that differ stay so. -/
theorem crcOf_inj {l : List Nat} (hl : ∀ b ∈ l, b < 256) : ∀ {r s : Nat}, r < 65536 → s < 65536 → crcOf r l = crcOf s l → r = s := by
  induction l with
  | nil => intro r s _ _ h; exact h
  | cons b l ih =>
    intro r s hr hs h
    have hb := hl b List.mem_cons_self
    rw [crcOf_cons, crcOf_cons] at h
    have h := ih (fun c hc => hl c (List.mem_cons_of_mem _ hc)) (crcByte_lt hr hb) (crcByte_lt hs hb) h
    exact xor_cancel (crcByte_inj hr hs hb hb h)
/-- A byte that was turned to another one turns the sum. -/
theorem crcOf_turned {l m : List Nat} {b c r : Nat} (hl : ∀ x ∈ l, x < 256) (hm : ∀ x ∈ m, x < 256) (hb : b < 256) (hc : c < 256) (hr : r < 65536) (ne : b ≠ c) : crcOf r (l ++ b :: m) ≠ crcOf r (l ++ c :: m) := by
  intro h
  unfold crcOf at h
  rw [List.foldl_append, List.foldl_append, List.foldl_cons, List.foldl_cons] at h
  have hr' : List.foldl crcByte r l < 65536 := crcOf_lt hl hr
  have h := crcOf_inj hm (crcByte_lt hr' hb) (crcByte_lt hr' hc) h
  have := xor_cancel_left (crcByte_inj hr' hr' hb hc h)
  omega
end Go.Proofs.YtoadcnhcfodkgaaGreatDoor
