/-
  What stands at a stream's head: frame.look, walked, for the seat YtoadcnhcfodkgaaGreatDoor.
-/
import Derived.Test.YtoadcnhcfodkgaaGreatDoorNSum
import Derived.Test.YtoadcnhcfodkgaaGreatDoorNMath
import Derived.Deep.QuietTactic
import Derived.BigQuiet
import Derived.WalkSpells
import Derived.Lib.Strings
namespace Go.Proofs.YtoadcnhcfodkgaaGreatDoor
open Go.RowKit

theorem getD_of {s : ByteArray} {i : Nat} (h : i < s.size) : s.data.toList.getD i 0 = s[i]'h := by
  have hl : i < s.data.toList.length := h
  rw [List.getD_eq_getElem?_getD, List.getElem?_eq_getElem hl]
  rfl
theorem join16 {a b : Nat} (ha : a < 256) (hb : b < 256) : bits .or .u16 ((a : Int) * 256) (b : Int) = ((a * 256 + b : Nat) : Int) := by
  rw [show (a : Int) * 256 = ((a * 256 : Nat) : Int) by omega, u16_or_nat (a * 256) b (by omega) (by omega)]
  have := Nat.two_pow_add_eq_or_of_lt (i := 8) (show b < 2 ^ 8 by omega) a
  rw [show a * 256 = 2 ^ 8 * a by omega, ← this]
theorem extract_list (s : ByteArray) (a b : Nat) : (s.extract a b).data.toList = (s.data.toList.drop a).take (b - a) := Lib.extract_data s a b
theorem not_empty {s : ByteArray} (h : s.size ≠ 0) : s.toList.isEmpty = false := by
  rw [Lib.toList_data]
  cases e : s.data.toList with
  | nil => exact absurd (by rw [Lib.size_eq, e]; rfl) h
  | cons a l => rfl
def lookP : Option Nat → Int × Int
  | none => (1, 0)
  | some 0 => (0, 0)
  | some (n + 1) => (2, (n : Int) + 5)
def lookC (l : List UInt8) : Int × Int := if l.length = 0 then (0, 0) else lookP (look l)
theorem lookC_of {l : List UInt8} {r : Option Nat} (h : 0 < l.length) (hr : look l = r) : lookC l = lookP r := by
  unfold lookC
  rw [if_neg (by omega), hr]
theorem below_alike {w : World} {n : Nat} : Below w.heap.size w (w.drewN n) := below_drewN (Below.refl _ _) n
theorem cell_kept0 {w w1 : World} (hb1 : Below (w.alloc (.cells #[.int .i64 0, .string ⟨#[]⟩] 99)).heap.size (w.alloc (.cells #[.int .i64 0, .string ⟨#[]⟩] 99)) w1) : w1.cell? ⟨w.heap.size, 0, none⟩ = some (.int .i64 0) := (hb1.cell (by simp)).trans (by simp)
theorem cell_kept1 {w w1 : World} (hb1 : Below (w.alloc (.cells #[.int .i64 0, .string ⟨#[]⟩] 99)).heap.size (w.alloc (.cells #[.int .i64 0, .string ⟨#[]⟩] 99)) w1) : w1.cell? ⟨w.heap.size, 1, none⟩ = some (.string ⟨#[]⟩) := (hb1.cell (by simp)).trans (by simp)
theorem free_kept0 {w w1 : World} (hb1 : Below (w.alloc (.cells #[.int .i64 0, .string ⟨#[]⟩] 99)).heap.size (w.alloc (.cells #[.int .i64 0, .string ⟨#[]⟩] 99)) w1) : w1.frozen? ⟨w.heap.size, 0, none⟩ = false := (hb1.frozen (by simp)).trans (by simp)
theorem free_kept1 {w w1 : World} (hb1 : Below (w.alloc (.cells #[.int .i64 0, .string ⟨#[]⟩] 99)).heap.size (w.alloc (.cells #[.int .i64 0, .string ⟨#[]⟩] 99)) w1) : w1.frozen? ⟨w.heap.size, 1, none⟩ = false := (hb1.frozen (by simp)).trans (by simp)
theorem below_kept {w w1 : World} (hb1 : Below (w.alloc (.cells #[.int .i64 0, .string ⟨#[]⟩] 99)).heap.size (w.alloc (.cells #[.int .i64 0, .string ⟨#[]⟩] 99)) w1) : Below w.heap.size w w1 := ((Below.refl _ w).alloc (Nat.le_refl _) _).trans (hb1.mono (by simp))
theorem sum_quiet (s : ByteArray) (w : World) (n : Nat) (hs : s.size ≤ 5000) :
    Calls Tryz.prog 173 #[.string s] (w.drewN n) fun e w' => e = .returned (.int .u16 (sumU s.data.toList : Nat)) ∧ ∃ m, w' = w.drewN m :=
  (sum_any s _ hs).mono fun _ _ ⟨he, hw⟩ => ⟨he, n, hw.symm⟩
set_option maxHeartbeats 1000000 in
set_option maxRecDepth 100000 in
theorem look_any (s : ByteArray) (w : World) :
    Calls Tryz.prog 111 #[.string s] w fun e w' => e = .returned (.tuple #[.int .i64 (lookC s.data.toList).1, .int .i64 (lookC s.data.toList).2]) ∧ Below w.heap.size w w' := by
  have hlen : s.data.toList.length = s.size := rfl
  by_cases h0 : s.size = 0
  · have e : lookC s.data.toList = (0, 0) := by unfold lookC; rw [if_pos (by omega)]
    rw [e]
    obtain rfl : s = ⟨#[]⟩ := by apply ByteArray.ext; exact Array.eq_empty_of_size_eq_zero h0
    go_enter Tryz.func111, Tryz.ntmps111
    go_wp2
    go_ret2
    exact ⟨rfl, Below.refl _ _⟩
  have l0 : 0 < s.size := by omega
  obtain ⟨b0, hb0⟩ : ∃ b, (s[0]'l0).toNat = b := ⟨_, rfl⟩
  have g0 : (s.data.toList.getD 0 0).toNat = b0 := by rw [getD_of l0, hb0]
  have hne : s.toList.isEmpty = false := not_empty h0
  have G0 : Hid ((s.data.toList.getD 0 0).toNat = b0) := g0
  clear g0
  by_cases c0 : b0 = 165
  case neg =>
    rw [lookC_of (by omega) (look0 (by omega) (by rw [G0.out]; exact c0))]
    have c0' : ((b0 : Int) != 165) = true := by simp; omega
    go_enter Tryz.func111, Tryz.ntmps111
    go_wp2
    go_ret2
    exact ⟨rfl, Below.refl _ _⟩
  rw [c0] at G0 hb0
  clear c0 b0
  by_cases h3 : s.size < 3
  case pos =>
    rw [lookC_of (by omega) (look1 (by omega) G0.out (by omega))]
    go_enter Tryz.func111, Tryz.ntmps111
    go_wp2
    go_ret2
    exact ⟨rfl, Below.refl _ _⟩
  have l2 : 2 < s.size := by omega
  obtain ⟨n, hn⟩ : ∃ b, (s[2]'l2).toNat = b := ⟨_, rfl⟩
  have hn8 : n < 256 := by rw [← hn]; exact (s[2]'l2).toNat_lt
  have G2 : Hid ((s.data.toList.getD 2 0).toNat = n) := by show _ = _; rw [getD_of l2, hn]
  by_cases h64 : 64 < n
  case pos =>
    rw [lookC_of (by omega) (look2 G0.out (by omega) G2.out h64)]
    go_enter Tryz.func111, Tryz.ntmps111
    go_wp2
    go_ret2
    exact ⟨rfl, Below.refl _ _⟩
  by_cases h5 : s.size < n + 5
  case pos =>
    rw [lookC_of (by omega) (look3 G0.out (by omega) G2.out (by omega) (by omega))]
    go_enter Tryz.func111, Tryz.ntmps111
    go_wp2
    go_ret2
    exact ⟨rfl, Below.refl _ _⟩
  have l3 : 3 + n < s.size := by omega
  have l4 : 3 + n + 1 < s.size := by omega
  obtain ⟨p, hp⟩ : ∃ b, (s[3 + n]'l3).toNat = b := ⟨_, rfl⟩
  obtain ⟨q, hq⟩ : ∃ b, (s[3 + n + 1]'l4).toNat = b := ⟨_, rfl⟩
  have hp8 : p < 256 := by rw [← hp]; exact (s[3 + n]'l3).toNat_lt
  have hq8 : q < 256 := by rw [← hq]; exact (s[3 + n + 1]'l4).toNat_lt
  have G3 : Hid ((s.data.toList.getD (n + 3) 0).toNat = p) := by show _ = _; rw [show n + 3 = 3 + n by omega, getD_of l3, hp]
  have G4 : Hid ((s.data.toList.getD (n + 4) 0).toNat = q) := by show _ = _; rw [show n + 4 = 3 + n + 1 by omega, getD_of l4, hq]
  have HS : Hid ((s.extract 1 (3 + n)).data.toList = (s.data.toList.drop 1).take (n + 2)) := by show _ = _; rw [extract_list, show 3 + n - 1 = n + 2 by omega]
  have hsz : (s.extract 1 (3 + n)).size ≤ 5000 := by rw [ByteArray.size_extract]; omega
  have hj := join16 hp8 hq8
  obtain ⟨j, hje⟩ : ∃ j, j = p * 256 + q := ⟨_, rfl⟩
  rw [← hje] at hj
  have HJ : Hid (j = p * 256 + q) := hje
  clear hje
  obtain ⟨S, hS⟩ : ∃ S, S = sumU (s.extract 1 (3 + n)).data.toList := ⟨_, rfl⟩
  have hsum : ∀ m, Calls Tryz.prog 173 #[.string (s.extract 1 (3 + n))] (w.drewN m) fun e w' => e = .returned (.int .u16 (S : Nat)) ∧ ∃ m, w' = w.drewN m := fun m => by
    rw [hS]
    exact sum_quiet _ _ _ hsz
  have hsl : ∀ W : World, (Instr.slice 9 (.string s) (some (.int .i64 1)) (some (.int .i64 (3 + (n : Int)))) none).run Tryz.prog W = .ok (.string (s.extract 1 (3 + n))) W := fun W => by
    rw [run_slice_string W 9 s .i64 .i64 1 (3 + (n : Int)) Tryz.underlying9 (by omega) (by omega) (by omega), show (3 + (n : Int)).toNat = 3 + n by omega]
    rfl
  have hi3 : ∀ W : World, (Instr.index 9 (.string s) (.int .i64 (3 + (n : Int)))).run Tryz.prog W = .ok (.int .u8 (p : Nat)) W := fun W => by
    rw [run_index_string W 9 s .i64 (3 + (n : Int)) Tryz.underlying9, dif_pos (by omega)]
    have : (3 + (n : Int)).toNat = 3 + n := by omega
    simp only [this, hp]
  have hi4 : ∀ W : World, (Instr.index 9 (.string s) (.int .i64 (3 + (n : Int) + 1))).run Tryz.prog W = .ok (.int .u8 (q : Nat)) W := fun W => by
    rw [run_index_string W 9 s .i64 (3 + (n : Int) + 1) Tryz.underlying9, dif_pos (by omega)]
    have : (3 + (n : Int) + 1).toNat = 3 + n + 1 := by omega
    simp only [this, hq]
  have HS' : Hid (S = sumU ((s.data.toList.drop 1).take (n + 2))) := by show _ = _; rw [hS, HS.out]
  clear hS hsz HS hp hq
  by_cases hs : S = j
  · rw [lookC_of (by omega) (look5 G0.out G2.out (by omega) (by omega) (by rw [G3.out, G4.out, ← HJ.out, ← HS'.out]; exact hs))]
    have ht : ((S : Int) != (j : Int)) = false := by simp; omega
    have HH : Hid (S = j) := hs
    clear hs
    go_enter Tryz.func111, Tryz.ntmps111
    go_wp2
    go_quiet ((go_at_call 173; exact hsum _))
    go_wp2
    go_ret2
    refine ⟨?_, below_alike⟩
    show _ = Ending.returned (.tuple #[.int .i64 2, .int .i64 ((n : Int) + 5)])
    rw [show (n : Int) + 5 = 3 + n + 2 by omega]
    rfl
  · rw [lookC_of (by omega) (look4 G0.out G2.out (by omega) (by omega) (by rw [G3.out, G4.out, ← HJ.out, ← HS'.out]; exact hs))]
    have ht : ((S : Int) != (j : Int)) = true := by simp; omega
    go_enter Tryz.func111, Tryz.ntmps111
    go_wp2
    go_quiet ((go_at_call 173; exact hsum _))
    go_wp2
    go_ret2
    exact ⟨rfl, below_alike⟩
end Go.Proofs.YtoadcnhcfodkgaaGreatDoor
