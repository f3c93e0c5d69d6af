/-
  Frames out of bytes: frame.unwrap, frame.Open, walked, for the seat Ytgklpebdfpfdeaa.
-/
import Derived.Test.YtgklpebdfpfdeaaNLook
import Derived.Test.YtgklpebdfpfdeaaNClone
import Derived.Laws.ResultCell
import Derived.RegionTactic
import Derived.Deep.RegionWith
namespace Go.Proofs.Ytgklpebdfpfdeaa
open Go.RowKit

set_option maxHeartbeats 1000000 in
set_option maxRecDepth 100000 in
theorem unwrap_any (s : ByteArray) (k : Nat) (w : World) (h5 : 5 ≤ s.size) (hm : s.size ≤ 5000) (hk : (s[1]'(by omega)).toNat = k) :
    Calls Try.prog 20 #[.string s] w fun e w' => e = .returned (.agg #[.int .i64 (k : Nat), .string (s.extract 3 (s.size - 2))]) ∧ Below w.heap.size w w' := by
  have hk8 : k < 256 := by rw [← hk]; exact (s[1]'(by omega)).toNat_lt
  have hsz : (s.extract 3 (s.size - 2)).size ≤ 281474976710656 := by rw [ByteArray.size_extract]; omega
  have hsl : ∀ W : World, (Instr.slice 9 (.string s) (some (.int .i64 3)) (some (.int .i64 ((s.size : Int) - 2))) none).run Try.prog W = .ok (.string (s.extract 3 (s.size - 2))) W := fun W => by
    rw [run_slice_string W 9 s .i64 .i64 3 ((s.size : Int) - 2) Try.underlying9 (by omega) (by omega) (by omega), show ((s.size : Int) - 2).toNat = s.size - 2 by omega]
    rfl
  have hcl := fun W => clone_any (s.extract 3 (s.size - 2)) W hsz
  have hw : IntKind.i64.wrap ((s.size : Int) - 2) = (s.size : Int) - 2 := by rw [IntKind.wrap_i64]; omega
  have hv : IntKind.i64.wrap (k : Int) = (k : Int) := by rw [IntKind.wrap_i64]; omega
  go_enter Try.func20, Try.ntmps20
  go_wp2
  go_region_with (go_at_call 21; refine (hcl _).mono ?_; rintro e w1 ⟨rfl, hb1⟩; have k0 : w1.cell? ⟨w.heap.size, 0, none⟩ = some (.int .i64 0) := (hb1.cell (by simp)).trans (by simp); have k1 : w1.cell? ⟨w.heap.size, 1, none⟩ = some (.string ⟨#[]⟩) := (hb1.cell (by simp)).trans (by simp); have f0 : w1.frozen? ⟨w.heap.size, 0, none⟩ = false := (hb1.frozen (by simp)).trans (by simp); have f1 : w1.frozen? ⟨w.heap.size, 1, none⟩ = false := (hb1.frozen (by simp)).trans (by simp))
  all_goals
    go_wp2
    have hb0 : Below w.heap.size w (w.alloc (.cells #[.int .i64 0, .string ⟨#[]⟩] 26)).drew := ((Below.refl _ w).alloc (Nat.le_refl _) _).drew
    have hb2 : Below w.heap.size w w1 := hb0.trans (hb1.mono (by simp))
    refine bodyPost_ret (v := .agg #[.int .i64 (k : Nat), .string (s.extract 3 (s.size - 2))]) (by simp [results, Try.results20, go_sem, k0, k1]) rfl ⟨rfl, ?_⟩
    exact (hb2.setCell (Nat.le_refl _) _).setCell (Nat.le_refl _) _
/-- What bytes are opened as: kind, data, and whether they are a frame. -/
def openS (s : ByteArray) : Int × ByteArray × Bool := if lookC s.data.toList = (2, (s.size : Int)) then (((s.data.toList.getD 1 0).toNat : Int), s.extract 3 (s.size - 2), true) else (0, ⟨#[]⟩, false)
theorem lookC_two {l : List UInt8} {b : Int} (h : lookC l = (2, b)) : ∃ n : Nat, look l = some (n + 1) ∧ b = (n : Int) + 5 := by
  unfold lookC at h
  split at h
  · cases h
  · cases e : look l with
    | none => rw [e] at h; cases h
    | some k =>
      cases k with
      | zero => rw [e] at h; cases h
      | succ n =>
        rw [e] at h
        exact ⟨n, rfl, by have := congrArg Prod.snd h; simpa [lookP] using this.symm⟩
theorem two_size {s : ByteArray} (h : lookC s.data.toList = (2, (s.size : Int))) : 5 ≤ s.size ∧ s.size ≤ 5000 := by
  obtain ⟨n, hn, hb⟩ := lookC_two h
  have := (look_len hn).2 n rfl
  omega
set_option maxHeartbeats 1000000 in
set_option maxRecDepth 100000 in
theorem open_any (s : ByteArray) (w : World) :
    Calls Try.prog 14 #[.string s] w fun e w' => e = .returned (.tuple #[.agg #[.int .i64 (openS s).1, .string (openS s).2.1], .bool (openS s).2.2]) ∧ Below w.heap.size w w' := by
  have hlk := look_any s
  by_cases h : lookC s.data.toList = (2, (s.size : Int))
  · have e : openS s = (((s.data.toList.getD 1 0).toNat : Int), s.extract 3 (s.size - 2), true) := by unfold openS; rw [if_pos h]
    obtain ⟨h5, hm⟩ := two_size h
    obtain ⟨k, hk⟩ : ∃ k, (s[1]'(by omega)).toNat = k := ⟨_, rfl⟩
    rw [getD_of (show 1 < s.size by omega), hk] at e
    rw [h] at hlk
    have hun := fun W => unwrap_any s k W h5 hm hk
    rw [e]
    clear h e
    generalize s.extract 3 (s.size - 2) = d at *
    have ht : ((s.size : Int) != (s.size : Int)) = false := by simp
    go_enter Try.func14, Try.ntmps14
    go_wp2_with (first
      | (go_at_call 19; refine (hlk _).mono ?_; rintro e w1 ⟨rfl, hb1⟩)
      | (go_at_call 20; refine (hun _).mono ?_; rintro e w2 ⟨rfl, hb2⟩; have hb3 := hb1.trans (hb2.mono hb1.size); have k0 := cell_kept0 hb3; have k1 := cell_kept1 hb3; have f0 := free_kept0 hb3; have f1 := free_kept1 hb3))
    refine bodyPost_ret (v := .tuple #[.agg #[.int .i64 (k : Nat), .string d], .bool true]) (by simp [results_cell_tmp Try.results14, asAddr, go_sem, k0, k1]) rfl ⟨rfl, ?_⟩
    exact ((below_kept hb3).setCell (Nat.le_refl _) _).setCell (Nat.le_refl _) _
  · have e : openS s = (0, ⟨#[]⟩, false) := by unfold openS; rw [if_neg h]
    rw [e]
    obtain ⟨a, ha⟩ : ∃ a, a = (lookC s.data.toList).1 := ⟨_, rfl⟩
    obtain ⟨b, hb⟩ : ∃ b, b = (lookC s.data.toList).2 := ⟨_, rfl⟩
    have hab : ¬ (a = 2 ∧ b = (s.size : Int)) := fun ⟨x, y⟩ => h (by rw [ha] at x; rw [hb] at y; exact Prod.ext x y)
    rw [← ha, ← hb] at hlk
    clear ha hb h e
    by_cases c : a = 2
    · have c1 : (b != (s.size : Int)) = true := by simp; exact fun y => hab ⟨c, y⟩
      subst c
      clear hab
      go_enter Try.func14, Try.ntmps14
      go_wp2_with (go_at_call 19; refine (hlk _).mono ?_; rintro e w1 ⟨rfl, hb1⟩; have k0 := cell_kept0 hb1; have k1 := cell_kept1 hb1; have f0 := free_kept0 hb1; have f1 := free_kept1 hb1)
      refine bodyPost_ret (v := .tuple #[.agg #[.int .i64 0, .string ⟨#[]⟩], .bool false]) (by simp [results_cell_tmp Try.results14, asAddr, go_sem, k0, k1]) rfl ⟨rfl, ?_⟩
      exact ((below_kept hb1).setCell (Nat.le_refl _) _).setCell (Nat.le_refl _) _
    · have c1 : (a != 2) = true := by simp; exact c
      clear hab c
      go_enter Try.func14, Try.ntmps14
      go_wp2_with (go_at_call 19; refine (hlk _).mono ?_; rintro e w1 ⟨rfl, hb1⟩; have k0 := cell_kept0 hb1; have k1 := cell_kept1 hb1; have f0 := free_kept0 hb1; have f1 := free_kept1 hb1)
      refine bodyPost_ret (v := .tuple #[.agg #[.int .i64 0, .string ⟨#[]⟩], .bool false]) (by simp [results_cell_tmp Try.results14, asAddr, go_sem, k0, k1]) rfl ⟨rfl, ?_⟩
      exact ((below_kept hb1).setCell (Nat.le_refl _) _).setCell (Nat.le_refl _) _
end Go.Proofs.Ytgklpebdfpfdeaa
