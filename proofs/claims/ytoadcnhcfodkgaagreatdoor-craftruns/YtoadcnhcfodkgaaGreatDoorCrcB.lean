/-
  Frames in a stream of bytes: what is found, left and passed over; however the stream is cut in two, for the seat YtoadcnhcfodkgaaGreatDoor. No Go text in sight.
-/
import Derived.Test.YtoadcnhcfodkgaaGreatDoorCrcA
namespace Go.Proofs.YtoadcnhcfodkgaaGreatDoor

/-- The sum of bytes. -/
def sumU (l : List UInt8) : Nat := crcOf 65535 (l.map UInt8.toNat)
theorem sumU_lt (l : List UInt8) : sumU l < 65536 := crcOf_lt (by intro b hb; obtain ⟨x, _, rfl⟩ := List.mem_map.1 hb; exact x.toNat_lt) (by decide)
/-- What stands at a stream's head: nothing to tell of yet; one byte to pass over (0); a frame of n bytes of data (n + 1). -/
def look (s : List UInt8) : Option Nat :=
  if s.length = 0 then none
  else if s.getD 0 0 ≠ 165 then some 0
  else if s.length < 3 then none
  else if 64 < (s.getD 2 0).toNat then some 0
  else if s.length < (s.getD 2 0).toNat + 5 then none
  else if sumU ((s.drop 1).take ((s.getD 2 0).toNat + 2)) = (s.getD ((s.getD 2 0).toNat + 3) 0).toNat * 256 + (s.getD ((s.getD 2 0).toNat + 4) 0).toNat then some ((s.getD 2 0).toNat + 1)
  else some 0
theorem getD_append {a b : List UInt8} {i : Nat} (h : i < a.length) : (a ++ b).getD i 0 = a.getD i 0 := by
  simp [List.getD, List.getElem?_append_left h]
theorem look_some {a b : List UInt8} {k : Nat} (h : look a = some k) : look (a ++ b) = some k := by
  unfold look at h ⊢
  by_cases l0 : a.length = 0
  · rw [if_pos l0] at h; cases h
  rw [if_neg l0] at h
  rw [if_neg (by rw [List.length_append]; omega), getD_append (by omega)]
  by_cases c : a.getD 0 0 ≠ 165
  · rw [if_pos c] at h ⊢; exact h
  rw [if_neg c] at h ⊢
  by_cases l3 : a.length < 3
  · rw [if_pos l3] at h; cases h
  rw [if_neg l3] at h
  rw [if_neg (by rw [List.length_append]; omega), getD_append (by omega)]
  by_cases n64 : 64 < (a.getD 2 0).toNat
  · rw [if_pos n64] at h ⊢; exact h
  rw [if_neg n64] at h ⊢
  by_cases l5 : a.length < (a.getD 2 0).toNat + 5
  · rw [if_pos l5] at h; cases h
  rw [if_neg l5] at h
  rw [if_neg (by rw [List.length_append]; omega), getD_append (by omega), getD_append (by omega)]
  have e : ((a ++ b).drop 1).take ((a.getD 2 0).toNat + 2) = (a.drop 1).take ((a.getD 2 0).toNat + 2) := by
    rw [List.drop_append_of_le_length (by omega), List.take_append_of_le_length (by rw [List.length_drop]; omega)]
  rw [e]
  exact h
theorem look_len {s : List UInt8} {k : Nat} (h : look s = some k) : 1 ≤ s.length ∧ (∀ n, k = n + 1 → n + 5 ≤ s.length ∧ n = (s.getD 2 0).toNat ∧ n ≤ 64) := by
  unfold look at h
  by_cases l0 : s.length = 0
  · rw [if_pos l0] at h; cases h
  refine ⟨by omega, fun n hn => ?_⟩
  subst hn
  rw [if_neg l0] at h
  by_cases c : s.getD 0 0 ≠ 165
  · rw [if_pos c] at h; cases h
  rw [if_neg c] at h
  by_cases l3 : s.length < 3
  · rw [if_pos l3] at h; cases h
  rw [if_neg l3] at h
  by_cases n64 : 64 < (s.getD 2 0).toNat
  · rw [if_pos n64] at h; cases h
  rw [if_neg n64] at h
  by_cases l5 : s.length < (s.getD 2 0).toNat + 5
  · rw [if_pos l5] at h; cases h
  rw [if_neg l5] at h
  by_cases q : sumU ((s.drop 1).take ((s.getD 2 0).toNat + 2)) = (s.getD ((s.getD 2 0).toNat + 3) 0).toNat * 256 + (s.getD ((s.getD 2 0).toNat + 4) 0).toNat
  · rw [if_pos q] at h
    have : (s.getD 2 0).toNat + 1 = n + 1 := Option.some.inj h
    exact ⟨by omega, by omega, by omega⟩
  · rw [if_neg q] at h; cases h
/-- The frames in a stream (kind and data), what is left, and how many bytes were passed over; the first number: so many steps at most. -/
def scanU : Nat → List UInt8 → List (UInt8 × List UInt8) × List UInt8 × Nat
  | 0, s => ([], s, 0)
  | f + 1, s => match look s with
    | none => ([], s, 0)
    | some 0 => ((scanU f (s.drop 1)).1, (scanU f (s.drop 1)).2.1, (scanU f (s.drop 1)).2.2 + 1)
    | some (n + 1) => ((s.getD 1 0, (s.drop 3).take n) :: (scanU f (s.drop (n + 5))).1, (scanU f (s.drop (n + 5))).2.1, (scanU f (s.drop (n + 5))).2.2)
theorem look_nil : look [] = none := rfl
theorem scanU_nil : ∀ f, scanU f [] = ([], [], 0)
  | 0 => rfl
  | _ + 1 => rfl
theorem scanU_none {f : Nat} {s : List UInt8} (h : look s = none) : scanU f s = ([], s, 0) := by
  cases f with
  | zero => rfl
  | succ f => unfold scanU; rw [h]
theorem scanU_skip {f : Nat} {s : List UInt8} (h : look s = some 0) : scanU (f + 1) s = ((scanU f (s.drop 1)).1, (scanU f (s.drop 1)).2.1, (scanU f (s.drop 1)).2.2 + 1) := by
  conv => lhs; unfold scanU
  rw [h]
theorem scanU_frame {f n : Nat} {s : List UInt8} (h : look s = some (n + 1)) : scanU (f + 1) s = ((s.getD 1 0, (s.drop 3).take n) :: (scanU f (s.drop (n + 5))).1, (scanU f (s.drop (n + 5))).2.1, (scanU f (s.drop (n + 5))).2.2) := by
  conv => lhs; unfold scanU
  rw [h]
/-- More steps than bytes tell nothing more. -/
theorem scanU_more : ∀ (f g : Nat) (s : List UInt8), s.length ≤ f → s.length ≤ g → scanU f s = scanU g s
  | 0, g, s, h, _ => by
    obtain rfl : s = [] := List.length_eq_zero_iff.1 (by omega)
    rw [scanU_nil, scanU_nil]
  | f + 1, 0, s, _, h => by
    obtain rfl : s = [] := List.length_eq_zero_iff.1 (by omega)
    rw [scanU_nil, scanU_nil]
  | f + 1, g + 1, s, hf, hg => by
    cases e : look s with
    | none => rw [scanU_none e, scanU_none e]
    | some k =>
      have l := look_len e
      cases k with
      | zero => rw [scanU_skip e, scanU_skip e, scanU_more f g (s.drop 1) (by rw [List.length_drop]; omega) (by rw [List.length_drop]; omega)]
      | succ n => rw [scanU_frame e, scanU_frame e, scanU_more f g (s.drop (n + 5)) (by rw [List.length_drop]; omega) (by rw [List.length_drop]; omega)]
def scanL (s : List UInt8) : List (UInt8 × List UInt8) × List UInt8 × Nat := scanU s.length s
theorem scanL_eq (s : List UInt8) (f : Nat) (h : s.length ≤ f) : scanL s = scanU f s := scanU_more _ _ s (Nat.le_refl _) h
/-- However a stream is cut in two, both parts give what the whole gives. -/
theorem scan_cut : ∀ (k : Nat) (a b : List UInt8), a.length ≤ k →
    scanL (a ++ b) = ((scanL a).1 ++ (scanL ((scanL a).2.1 ++ b)).1, (scanL ((scanL a).2.1 ++ b)).2.1, (scanL a).2.2 + (scanL ((scanL a).2.1 ++ b)).2.2)
  | 0, a, b, h => by
    obtain rfl : a = [] := List.length_eq_zero_iff.1 (by omega)
    rw [show scanL ([] : List UInt8) = ([], [], 0) from rfl]
    simp
  | k + 1, a, b, h => by
    cases e : look a with
    | none =>
      rw [show scanL a = ([], a, 0) from scanU_none e]
      simp
    | some j =>
      have l := look_len e
      have e' := look_some (b := b) e
      have la : scanL a = scanU (a.length - 1 + 1) a := scanL_eq a _ (by omega)
      have lab : scanL (a ++ b) = scanU (a.length + b.length - 1 + 1) (a ++ b) := scanL_eq _ _ (by rw [List.length_append]; omega)
      cases j with
      | zero =>
        have ih := scan_cut k (a.drop 1) b (by rw [List.length_drop]; omega)
        have d : (a ++ b).drop 1 = a.drop 1 ++ b := List.drop_append_of_le_length (by omega)
        rw [scanU_skip e, ← scanL_eq (a.drop 1) _ (by rw [List.length_drop]; omega)] at la
        rw [scanU_skip e', d, ← scanL_eq (a.drop 1 ++ b) _ (by rw [List.length_append, List.length_drop]; omega), ih] at lab
        rw [lab, la]
        simp
        omega
      | succ n =>
        obtain ⟨l5, _, _⟩ := l.2 n rfl
        have ih := scan_cut k (a.drop (n + 5)) b (by rw [List.length_drop]; omega)
        have d : (a ++ b).drop (n + 5) = a.drop (n + 5) ++ b := List.drop_append_of_le_length (by omega)
        have d3 : ((a ++ b).drop 3).take n = (a.drop 3).take n := by
          rw [List.drop_append_of_le_length (by omega), List.take_append_of_le_length (by rw [List.length_drop]; omega)]
        rw [scanU_frame e, ← scanL_eq (a.drop (n + 5)) _ (by rw [List.length_drop]; omega)] at la
        rw [scanU_frame e', d, d3, getD_append (by omega), ← scanL_eq (a.drop (n + 5) ++ b) _ (by rw [List.length_append, List.length_drop]; omega), ih] at lab
        rw [lab, la]
        simp
end Go.Proofs.YtoadcnhcfodkgaaGreatDoor
