/-
  Frames as bytes: Wrap, the code's and the reference's, walked, for the seat YtoadcnhcfodkgaaGreatDoor.
-/
import Derived.Test.YtoadcnhcfodkgaaGreatDoorNLook
import Derived.WalkSpells
import Derived.Laws.IdiomStrings
import Derived.Laws.Concat
namespace Go.Proofs.YtoadcnhcfodkgaaGreatDoor
open Go.RowKit

theorem conv3 (W : World) (g : Nat) (a b c : UInt8) (h0 : W.cell? ⟨g, 0, none⟩ = some (.int .u8 (a.toNat : Nat))) (h1 : W.cell? ⟨g, 1, none⟩ = some (.int .u8 (b.toNat : Nat))) (h2 : W.cell? ⟨g, 2, none⟩ = some (.int .u8 (c.toNat : Nat))) :
    (convert 167 9 (.slice (some ⟨g, 0, none⟩) 3 3)).run Tryz.prog W = .ok (.string ⟨#[a, b, c]⟩) W :=
  run_convert_bytes_back W 167 9 5 ⟨g, 0, none⟩ 3 [a, b, c] Tryz.underlying167 Tryz.underlying5 Tryz.underlying9 (fun j hj => by
    match j, hj with
    | 0, _ => exact h0
    | 1, _ => exact h1
    | 2, _ => exact h2)
theorem conv2 (W : World) (g : Nat) (a b : UInt8) (h0 : W.cell? ⟨g, 0, none⟩ = some (.int .u8 (a.toNat : Nat))) (h1 : W.cell? ⟨g, 1, none⟩ = some (.int .u8 (b.toNat : Nat))) :
    (convert 167 9 (.slice (some ⟨g, 0, none⟩) 2 2)).run Tryz.prog W = .ok (.string ⟨#[a, b]⟩) W :=
  run_convert_bytes_back W 167 9 5 ⟨g, 0, none⟩ 2 [a, b] Tryz.underlying167 Tryz.underlying5 Tryz.underlying9 (fun j hj => by
    match j, hj with
    | 0, _ => exact h0
    | 1, _ => exact h1)
theorem cell_top (U : World) (g : Nat) (C : Array Value) (t : TypeId) (j : Nat) (hg : g = U.heap.size) : (U.alloc (.cells C t)).cell? ⟨g, j, none⟩ = C[j]? := by
  subst hg
  exact World.cell?_alloc_mark U C t (0, 0) j
theorem add_list (a b : ByteArray) : (a ++ b).data.toList = a.data.toList ++ b.data.toList := by
  rw [ByteArray.data_append, Array.toList_append]
theorem add_run (W : World) (a b : ByteArray) (h : a.size + b.size ≤ 5000) : (Op.stringOp .add a b).run Tryz.prog W = .ok (.string (a ++ b)) W := run_string_add_sum W a b (by omega)
set_option maxHeartbeats 1000000 in
set_option maxRecDepth 100000 in
theorem wrap_yes (k : UInt8) (d : ByteArray) (w : World) (hd : d.size ≤ 64) :
    Calls Tryz.prog 58 #[.agg #[.int .i64 (k.toNat : Nat), .string d]] w fun e w' => ∃ s : ByteArray, e = .returned (.tuple #[.string s, .bool true]) ∧ s.data.toList = wrapL k d.data.toList ∧ Below w.heap.size w w' := by
  obtain ⟨n, hn⟩ : ∃ n, k.toNat = n := ⟨_, rfl⟩
  have hk : n < 256 := by rw [← hn]; exact k.toNat_lt
  have e3 : (convert 167 9 (.slice (some ⟨w.heap.size + 1, 0, none⟩) 3 3)).run Tryz.prog ((w.alloc (.cells #[.int .i64 (n : Int), .string d] 99)).alloc (.cells #[.int .u8 165, .int .u8 (n : Int), .int .u8 (d.size : Int)] 5)) = .ok (.string ⟨#[165, k, UInt8.ofNat d.size]⟩) ((w.alloc (.cells #[.int .i64 (n : Int), .string d] 99)).alloc (.cells #[.int .u8 165, .int .u8 (n : Int), .int .u8 (d.size : Int)] 5)) :=
    conv3 _ _ 165 k (UInt8.ofNat d.size) (by simp) (by simp [hn]) (by rw [ofNat_toNat (by omega)]; simp)
  obtain ⟨S1, hS1⟩ : ∃ S : ByteArray, S = ⟨#[165, k, UInt8.ofNat d.size]⟩ := ⟨_, rfl⟩
  rw [← hS1] at e3
  have z1 : S1.size = 3 := by rw [hS1]; rfl
  have a1 := fun W => add_run W S1 d (by omega)
  obtain ⟨S2, hS2⟩ : ∃ S : ByteArray, S = S1 ++ d := ⟨_, rfl⟩
  rw [← hS2] at a1
  have z2 : S2.size = 3 + d.size := by rw [hS2, ByteArray.size_append, z1]
  have L2 : Hid (S2.data.toList = [165] ++ wrapHead k d.data.toList) := by
    show _ = _
    rw [hS2, add_list, hS1]
    rfl
  have s3 : ∀ W : World, (Instr.slice 9 (.string S2) (some (.int .i64 1)) none none).run Tryz.prog W = .ok (.string (S2.extract 1 S2.size)) W := fun W => by
    rw [run_slice_string_from_if W 9 S2 .i64 1 Tryz.underlying9, if_pos (by omega)]
    rfl
  obtain ⟨S3, hS3⟩ : ∃ S : ByteArray, S = S2.extract 1 S2.size := ⟨_, rfl⟩
  rw [← hS3] at s3
  have z3 : S3.size = 2 + d.size := by rw [hS3, ByteArray.size_extract]; omega
  have L3 : S3.data.toList = wrapHead k d.data.toList := by
    rw [hS3, extract_list, L2.out, List.take_of_length_le (by rw [← L2.out, List.length_drop]; exact Nat.le_refl _)]
    rfl
  have hsum := fun W => sum_any S3 W (by omega)
  rw [L3] at hsum
  have hq := sumU_lt (wrapHead k d.data.toList)
  obtain ⟨q, hqe⟩ : ∃ q, q = sumU (wrapHead k d.data.toList) := ⟨_, rfl⟩
  rw [← hqe] at hsum hq
  have e4 : (convert 167 9 (.slice (some ⟨w.heap.size + 1 + 1, 0, none⟩) 2 2)).run Tryz.prog (((w.alloc (.cells #[.int .i64 (n : Int), .string d] 99)).alloc (.cells #[.int .u8 165, .int .u8 (n : Int), .int .u8 (d.size : Int)] 5)).alloc (.cells #[.int .u8 ((q : Int) / 256), .int .u8 ((q : Int) % 256)] 5)) = .ok (.string ⟨#[UInt8.ofNat (q / 256), UInt8.ofNat (q % 256)]⟩) (((w.alloc (.cells #[.int .i64 (n : Int), .string d] 99)).alloc (.cells #[.int .u8 165, .int .u8 (n : Int), .int .u8 (d.size : Int)] 5)).alloc (.cells #[.int .u8 ((q : Int) / 256), .int .u8 ((q : Int) % 256)] 5)) :=
    conv2 _ _ (UInt8.ofNat (q / 256)) (UInt8.ofNat (q % 256)) (by rw [ofNat_toNat (by omega)]; exact cell_top _ _ _ _ 0 (by simp)) (by rw [ofNat_toNat (by omega)]; exact cell_top _ _ _ _ 1 (by simp))
  obtain ⟨S4, hS4⟩ : ∃ S : ByteArray, S = ⟨#[UInt8.ofNat (q / 256), UInt8.ofNat (q % 256)]⟩ := ⟨_, rfl⟩
  rw [← hS4] at e4
  have z4 : S4.size = 2 := by rw [hS4]; rfl
  have a5 := fun W => add_run W S2 S4 (by omega)
  obtain ⟨S5, hS5⟩ : ∃ S : ByteArray, S = S2 ++ S4 := ⟨_, rfl⟩
  rw [← hS5] at a5
  have L5 : Hid (S5.data.toList = wrapL k d.data.toList) := by
    show _ = _
    rw [hS5, add_list, L2.out, hS4, hqe]
    rfl
  clear hqe L3 hS3 hS2 hS1 hS4 hS5
  go_enter Tryz.func58, Tryz.ntmps58
  go_wp2_with (go_at_call 173; refine (hsum _).mono ?_; rintro e w1 ⟨rfl, rfl⟩)
  go_ret2
  exact ⟨S5, rfl, L5.out, (((Below.refl _ w).alloc (Nat.le_refl _) _).alloc (by simp) _).alloc (by simp; omega) _⟩
set_option maxHeartbeats 1000000 in
set_option maxRecDepth 100000 in
theorem wrap_no (k : Int) (d : ByteArray) (w : World) (h : ¬ (0 ≤ k ∧ k ≤ 255 ∧ d.size ≤ 64)) :
    Calls Tryz.prog 58 #[.agg #[.int .i64 k, .string d]] w fun e w' => e = .returned (.tuple #[.string ⟨#[]⟩, .bool false]) ∧ Below w.heap.size w w' := by
  have h' : decide (k < 0) || decide (255 < k) || decide (64 < (d.size : Int)) := by simp; omega
  go_enter Tryz.func58, Tryz.ntmps58
  go_wp2
  all_goals (go_ret2; exact ⟨rfl, (Below.refl _ w).alloc (Nat.le_refl _) _⟩)
set_option maxHeartbeats 1000000 in
set_option maxRecDepth 100000 in
theorem rwrap_yes (k : UInt8) (d : ByteArray) (w : World) (hd : d.size ≤ 64) :
    Calls Tryz.prog 35 #[.agg #[.int .i64 (k.toNat : Nat), .string d]] w fun e w' => ∃ s : ByteArray, e = .returned (.tuple #[.string s, .bool true]) ∧ s.data.toList = wrapL k d.data.toList ∧ Below w.heap.size w w' := by
  obtain ⟨n, hn⟩ : ∃ n, k.toNat = n := ⟨_, rfl⟩
  have hk : n < 256 := by rw [← hn]; exact k.toNat_lt
  have e3 : (convert 167 9 (.slice (some ⟨w.heap.size + 1, 0, none⟩) 2 2)).run Tryz.prog ((w.alloc (.cells #[.int .i64 (n : Int), .string d] 99)).alloc (.cells #[.int .u8 (n : Int), .int .u8 (d.size : Int)] 5)) = .ok (.string ⟨#[k, UInt8.ofNat d.size]⟩) ((w.alloc (.cells #[.int .i64 (n : Int), .string d] 99)).alloc (.cells #[.int .u8 (n : Int), .int .u8 (d.size : Int)] 5)) :=
    conv2 _ _ k (UInt8.ofNat d.size) (by simp [hn]) (by rw [ofNat_toNat (by omega)]; simp)
  obtain ⟨S1, hS1⟩ : ∃ S : ByteArray, S = ⟨#[k, UInt8.ofNat d.size]⟩ := ⟨_, rfl⟩
  rw [← hS1] at e3
  have z1 : S1.size = 2 := by rw [hS1]; rfl
  have a1 := fun W => add_run W S1 d (by omega)
  obtain ⟨S2, hS2⟩ : ∃ S : ByteArray, S = S1 ++ d := ⟨_, rfl⟩
  rw [← hS2] at a1
  have z2 : S2.size = 2 + d.size := by rw [hS2, ByteArray.size_append, z1]
  have L3 : S2.data.toList = wrapHead k d.data.toList := by
    rw [hS2, add_list, hS1]
    rfl
  have a2 := fun W => add_run W ⟨#[165]⟩ S2 (by have : (⟨#[165]⟩ : ByteArray).size = 1 := rfl; omega)
  obtain ⟨S3, hS3⟩ : ∃ S : ByteArray, S = ⟨#[165]⟩ ++ S2 := ⟨_, rfl⟩
  rw [← hS3] at a2
  have z3 : S3.size = 1 + S2.size := by rw [hS3, ByteArray.size_append]; rfl
  have L2 : Hid (S3.data.toList = [165] ++ wrapHead k d.data.toList) := by
    show _ = _
    rw [hS3, add_list, L3]
  have hsum := fun W => rsum_any S2 W (by omega)
  rw [L3] at hsum
  have hq := sumU_lt (wrapHead k d.data.toList)
  obtain ⟨q, hqe⟩ : ∃ q, q = sumU (wrapHead k d.data.toList) := ⟨_, rfl⟩
  rw [← hqe] at hsum hq
  have e4 : (convert 167 9 (.slice (some ⟨w.heap.size + 1 + 1, 0, none⟩) 2 2)).run Tryz.prog (((w.alloc (.cells #[.int .i64 (n : Int), .string d] 99)).alloc (.cells #[.int .u8 (n : Int), .int .u8 (d.size : Int)] 5)).alloc (.cells #[.int .u8 ((q : Int) / 256), .int .u8 ((q : Int) % 256)] 5)) = .ok (.string ⟨#[UInt8.ofNat (q / 256), UInt8.ofNat (q % 256)]⟩) (((w.alloc (.cells #[.int .i64 (n : Int), .string d] 99)).alloc (.cells #[.int .u8 (n : Int), .int .u8 (d.size : Int)] 5)).alloc (.cells #[.int .u8 ((q : Int) / 256), .int .u8 ((q : Int) % 256)] 5)) :=
    conv2 _ _ (UInt8.ofNat (q / 256)) (UInt8.ofNat (q % 256)) (by rw [ofNat_toNat (by omega)]; exact cell_top _ _ _ _ 0 (by simp)) (by rw [ofNat_toNat (by omega)]; exact cell_top _ _ _ _ 1 (by simp))
  obtain ⟨S4, hS4⟩ : ∃ S : ByteArray, S = ⟨#[UInt8.ofNat (q / 256), UInt8.ofNat (q % 256)]⟩ := ⟨_, rfl⟩
  rw [← hS4] at e4
  have z4 : S4.size = 2 := by rw [hS4]; rfl
  have a5 := fun W => add_run W S3 S4 (by omega)
  obtain ⟨S5, hS5⟩ : ∃ S : ByteArray, S = S3 ++ S4 := ⟨_, rfl⟩
  rw [← hS5] at a5
  have L5 : Hid (S5.data.toList = wrapL k d.data.toList) := by
    show _ = _
    rw [hS5, add_list, L2.out, hS4, hqe]
    rfl
  clear hqe L3 hS3 hS2 hS1 hS4 hS5
  go_enter Tryz.func35, Tryz.ntmps35
  go_wp2_with (go_at_call 110; refine (hsum _).mono ?_; rintro e w1 ⟨rfl, rfl⟩)
  go_ret2
  exact ⟨S5, rfl, L5.out, (((Below.refl _ w).alloc (Nat.le_refl _) _).alloc (by simp) _).alloc (by simp; omega) _⟩
set_option maxHeartbeats 1000000 in
set_option maxRecDepth 100000 in
theorem rwrap_no (k : Int) (d : ByteArray) (w : World) (h : ¬ (0 ≤ k ∧ k ≤ 255 ∧ d.size ≤ 64)) :
    Calls Tryz.prog 35 #[.agg #[.int .i64 k, .string d]] w fun e w' => e = .returned (.tuple #[.string ⟨#[]⟩, .bool false]) ∧ Below w.heap.size w w' := by
  have h' : decide (k < 0) || decide (255 < k) || decide (64 < (d.size : Int)) := by simp; omega
  go_enter Tryz.func35, Tryz.ntmps35
  go_wp2
  all_goals (go_ret2; exact ⟨rfl, (Below.refl _ w).alloc (Nat.le_refl _) _⟩)
end Go.Proofs.YtoadcnhcfodkgaaGreatDoor
