/-
A part.
A part.
A part.
A part.
-/
import Derived.WalkSpells
import Derived.Laws.IdiomStrings
import Derived.Laws.Concat
import Derived.Laws.ResultCell
import Derived.RegionTactic
import Derived.BigRegion
import Derived.Lib.IndexBytes
import Derived.Test.YtbophanlmkbfeaaGreatDoorHO11
import Derived.Test.YtbophanlmkbfeaaGreatDoorHO12
namespace Go.Proofs.YtbophanlmkbfeaaGreatDoor
open Go.RowKit
set_option maxRecDepth 100000
set_option maxHeartbeats 20000000
theorem conv3 (W : World) (g : Nat) (a b c : UInt8) (h0 : W.cell? ⟨g, 0, none⟩ = some (.int .u8 (a.toNat : Nat))) (h1 : W.cell? ⟨g, 1, none⟩ = some (.int .u8 (b.toNat : Nat))) (h2 : W.cell? ⟨g, 2, none⟩ = some (.int .u8 (c.toNat : Nat))) :
    (convert 135 9 (.slice (some ⟨g, 0, none⟩) 3 3)).run Tryz.prog W = .ok (.string ⟨#[a, b, c]⟩) W :=
 run_convert_bytes_back W 135 9 5 ⟨g, 0, none⟩ 3 [a, b, c] Tryz.underlying135 Tryz.underlying5 Tryz.underlying9 (fun j hj => by
  match j, hj with
  | 0, _ => exact h0
  | 1, _ => exact h1
  | 2, _ => exact h2)
theorem conv2 (W : World) (g : Nat) (a b : UInt8) (h0 : W.cell? ⟨g, 0, none⟩ = some (.int .u8 (a.toNat : Nat))) (h1 : W.cell? ⟨g, 1, none⟩ = some (.int .u8 (b.toNat : Nat))) :
    (convert 135 9 (.slice (some ⟨g, 0, none⟩) 2 2)).run Tryz.prog W = .ok (.string ⟨#[a, b]⟩) W :=
 run_convert_bytes_back W 135 9 5 ⟨g, 0, none⟩ 2 [a, b] Tryz.underlying135 Tryz.underlying5 Tryz.underlying9 (fun j hj => by
  match j, hj with
  | 0, _ => exact h0
  | 1, _ => exact h1)
theorem cell_top (U : World) (g : Nat) (C : Array Value) (t : TypeId) (j : Nat) (hg : g = U.heap.size) : (U.alloc (.cells C t)).cell? ⟨g, j, none⟩ = C[j]? := by
 subst hg
 exact World.cell?_alloc_mark U C t (0, 0) j
theorem add_list (a b : ByteArray) : (a ++ b).data.toList = a.data.toList ++ b.data.toList := by
 rw [ByteArray.data_append, Array.toList_append]
theorem add_run (W : World) (a b : ByteArray) (h : a.size + b.size ≤ 5000) : (Op.stringOp .add a b).run Tryz.prog W = .ok (.string (a ++ b)) W := run_string_add_sum W a b (by omega)
theorem wrap_yes (k : UInt8) (d : ByteArray) (w : World) (hd : d.size ≤ 64) :
    Calls Tryz.prog 65 #[.agg #[.int .i64 (k.toNat : Nat), .string d]] w fun e w' => ∃ s : ByteArray, e = .returned (.tuple #[.string s, .bool true]) ∧ s.data.toList = wrapL k d.data.toList ∧ Below w.heap.size w w' := by
 obtain ⟨n, hn⟩ : ∃ n, k.toNat = n := ⟨_, rfl⟩
 have hk : n < 256 := by rw [← hn]; exact k.toNat_lt
 have e3 : (convert 135 9 (.slice (some ⟨w.heap.size + 1, 0, none⟩) 3 3)).run Tryz.prog ((w.alloc (.cells #[.int .i64 (n : Int), .string d] 49)).alloc (.cells #[.int .u8 165, .int .u8 (n : Int), .int .u8 (d.size : Int)] 5)) = .ok (.string ⟨#[165, k, UInt8.ofNat d.size]⟩) ((w.alloc (.cells #[.int .i64 (n : Int), .string d] 49)).alloc (.cells #[.int .u8 165, .int .u8 (n : Int), .int .u8 (d.size : Int)] 5)) :=
  conv3 _ _ 165 k (UInt8.ofNat d.size) (by simp) (by simp [hn]) (by rw [ofNat_toNat (by omega)]; simp)
 obtain ⟨S1, hS1⟩ : ∃ S : ByteArray, S = ⟨#[165, k, UInt8.ofNat d.size]⟩ := ⟨_, rfl⟩
 rw [← hS1] at e3
 have z1 : S1.size = 3 := by rw [hS1]; rfl
 have a1 := fun W => add_run W S1 d (by omega)
 obtain ⟨S2, hS2⟩ : ∃ S : ByteArray, S = S1 ++ d := ⟨_, rfl⟩
 rw [← hS2] at a1
 have z2 : S2.size = 3 + d.size := by rw [hS2, ByteArray.size_append, z1]
 have L2 : Hid (S2.data.toList = [165] ++ wrapHead k d.data.toList) := by
  show _ = _
  rw [hS2, add_list, hS1]
  rfl
 have s3 : ∀ W : World, (Instr.slice 9 (.string S2) (some (.int .i64 1)) none none).run Tryz.prog W = .ok (.string (S2.extract 1 S2.size)) W := fun W => by
  rw [run_slice_string_from_if W 9 S2 .i64 1 Tryz.underlying9, if_pos (by omega)]
  rfl
 obtain ⟨S3, hS3⟩ : ∃ S : ByteArray, S = S2.extract 1 S2.size := ⟨_, rfl⟩
 rw [← hS3] at s3
 have z3 : S3.size = 2 + d.size := by rw [hS3, ByteArray.size_extract]; omega
 have L3 : S3.data.toList = wrapHead k d.data.toList := by
  rw [hS3, extract_list, L2.out, List.take_of_length_le (by rw [← L2.out, List.length_drop]; exact Nat.le_refl _)]
  rfl
 have hsum := fun W => sum_any S3 W (by omega)
 rw [L3] at hsum
 have hq := sumU_lt (wrapHead k d.data.toList)
 obtain ⟨q, hqe⟩ : ∃ q, q = sumU (wrapHead k d.data.toList) := ⟨_, rfl⟩
 rw [← hqe] at hsum hq
 have e4 : (convert 135 9 (.slice (some ⟨w.heap.size + 1 + 1, 0, none⟩) 2 2)).run Tryz.prog (((w.alloc (.cells #[.int .i64 (n : Int), .string d] 49)).alloc (.cells #[.int .u8 165, .int .u8 (n : Int), .int .u8 (d.size : Int)] 5)).alloc (.cells #[.int .u8 ((q : Int) / 256), .int .u8 ((q : Int) % 256)] 5)) = .ok (.string ⟨#[UInt8.ofNat (q / 256), UInt8.ofNat (q % 256)]⟩) (((w.alloc (.cells #[.int .i64 (n : Int), .string d] 49)).alloc (.cells #[.int .u8 165, .int .u8 (n : Int), .int .u8 (d.size : Int)] 5)).alloc (.cells #[.int .u8 ((q : Int) / 256), .int .u8 ((q : Int) % 256)] 5)) :=
  conv2 _ _ (UInt8.ofNat (q / 256)) (UInt8.ofNat (q % 256)) (by rw [ofNat_toNat (by omega)]; exact cell_top _ _ _ _ 0 (by simp)) (by rw [ofNat_toNat (by omega)]; exact cell_top _ _ _ _ 1 (by simp))
 obtain ⟨S4, hS4⟩ : ∃ S : ByteArray, S = ⟨#[UInt8.ofNat (q / 256), UInt8.ofNat (q % 256)]⟩ := ⟨_, rfl⟩
 rw [← hS4] at e4
 have z4 : S4.size = 2 := by rw [hS4]; rfl
 have a5 := fun W => add_run W S2 S4 (by omega)
 obtain ⟨S5, hS5⟩ : ∃ S : ByteArray, S = S2 ++ S4 := ⟨_, rfl⟩
 rw [← hS5] at a5
 have L5 : Hid (S5.data.toList = wrapL k d.data.toList) := by
  show _ = _
  rw [hS5, add_list, L2.out, hS4, hqe]
  rfl
 clear hqe L3 hS3 hS2 hS1 hS4 hS5
 go_enter Tryz.func65, Tryz.ntmps65
 go_wp2_with (go_at_call 142; refine (hsum _).mono ?_; rintro e w1 ⟨rfl, rfl⟩)
 go_ret2
 exact ⟨S5, rfl, L5.out, (((Below.refl _ w).alloc (Nat.le_refl _) _).alloc (by simp) _).alloc (by simp; omega) _⟩
theorem wrap_no (k : Int) (d : ByteArray) (w : World) (h : ¬ (0 ≤ k ∧ k ≤ 255 ∧ d.size ≤ 64)) :
    Calls Tryz.prog 65 #[.agg #[.int .i64 k, .string d]] w fun e w' => e = .returned (.tuple #[.string ⟨#[]⟩, .bool false]) ∧ Below w.heap.size w w' := by
 have h' : decide (k < 0) || decide (255 < k) || decide (64 < (d.size : Int)) := by simp; omega
 go_enter Tryz.func65, Tryz.ntmps65
 go_wp2
 all_goals (go_ret2; exact ⟨rfl, (Below.refl _ w).alloc (Nat.le_refl _) _⟩)
theorem rwrap_yes (k : UInt8) (d : ByteArray) (w : World) (hd : d.size ≤ 64) :
    Calls Tryz.prog 30 #[.agg #[.int .i64 (k.toNat : Nat), .string d]] w fun e w' => ∃ s : ByteArray, e = .returned (.tuple #[.string s, .bool true]) ∧ s.data.toList = wrapL k d.data.toList ∧ Below w.heap.size w w' := by
 obtain ⟨n, hn⟩ : ∃ n, k.toNat = n := ⟨_, rfl⟩
 have hk : n < 256 := by rw [← hn]; exact k.toNat_lt
 have e3 : (convert 135 9 (.slice (some ⟨w.heap.size + 1, 0, none⟩) 2 2)).run Tryz.prog ((w.alloc (.cells #[.int .i64 (n : Int), .string d] 49)).alloc (.cells #[.int .u8 (n : Int), .int .u8 (d.size : Int)] 5)) = .ok (.string ⟨#[k, UInt8.ofNat d.size]⟩) ((w.alloc (.cells #[.int .i64 (n : Int), .string d] 49)).alloc (.cells #[.int .u8 (n : Int), .int .u8 (d.size : Int)] 5)) :=
  conv2 _ _ k (UInt8.ofNat d.size) (by simp [hn]) (by rw [ofNat_toNat (by omega)]; simp)
 obtain ⟨S1, hS1⟩ : ∃ S : ByteArray, S = ⟨#[k, UInt8.ofNat d.size]⟩ := ⟨_, rfl⟩
 rw [← hS1] at e3
 have z1 : S1.size = 2 := by rw [hS1]; rfl
 have a1 := fun W => add_run W S1 d (by omega)
 obtain ⟨S2, hS2⟩ : ∃ S : ByteArray, S = S1 ++ d := ⟨_, rfl⟩
 rw [← hS2] at a1
 have z2 : S2.size = 2 + d.size := by rw [hS2, ByteArray.size_append, z1]
 have L3 : S2.data.toList = wrapHead k d.data.toList := by
  rw [hS2, add_list, hS1]
  rfl
 have a2 := fun W => add_run W ⟨#[165]⟩ S2 (by have : (⟨#[165]⟩ : ByteArray).size = 1 := rfl; omega)
 obtain ⟨S3, hS3⟩ : ∃ S : ByteArray, S = ⟨#[165]⟩ ++ S2 := ⟨_, rfl⟩
 rw [← hS3] at a2
 have z3 : S3.size = 1 + S2.size := by rw [hS3, ByteArray.size_append]; rfl
 have L2 : Hid (S3.data.toList = [165] ++ wrapHead k d.data.toList) := by
  show _ = _
  rw [hS3, add_list, L3]
 have hsum := fun W => rsum_any S2 W (by omega)
 rw [L3] at hsum
 have hq := sumU_lt (wrapHead k d.data.toList)
 obtain ⟨q, hqe⟩ : ∃ q, q = sumU (wrapHead k d.data.toList) := ⟨_, rfl⟩
 rw [← hqe] at hsum hq
 have e4 : (convert 135 9 (.slice (some ⟨w.heap.size + 1 + 1, 0, none⟩) 2 2)).run Tryz.prog (((w.alloc (.cells #[.int .i64 (n : Int), .string d] 49)).alloc (.cells #[.int .u8 (n : Int), .int .u8 (d.size : Int)] 5)).alloc (.cells #[.int .u8 ((q : Int) / 256), .int .u8 ((q : Int) % 256)] 5)) = .ok (.string ⟨#[UInt8.ofNat (q / 256), UInt8.ofNat (q % 256)]⟩) (((w.alloc (.cells #[.int .i64 (n : Int), .string d] 49)).alloc (.cells #[.int .u8 (n : Int), .int .u8 (d.size : Int)] 5)).alloc (.cells #[.int .u8 ((q : Int) / 256), .int .u8 ((q : Int) % 256)] 5)) :=
  conv2 _ _ (UInt8.ofNat (q / 256)) (UInt8.ofNat (q % 256)) (by rw [ofNat_toNat (by omega)]; exact cell_top _ _ _ _ 0 (by simp)) (by rw [ofNat_toNat (by omega)]; exact cell_top _ _ _ _ 1 (by simp))
 obtain ⟨S4, hS4⟩ : ∃ S : ByteArray, S = ⟨#[UInt8.ofNat (q / 256), UInt8.ofNat (q % 256)]⟩ := ⟨_, rfl⟩
 rw [← hS4] at e4
 have z4 : S4.size = 2 := by rw [hS4]; rfl
 have a5 := fun W => add_run W S3 S4 (by omega)
 obtain ⟨S5, hS5⟩ : ∃ S : ByteArray, S = S3 ++ S4 := ⟨_, rfl⟩
 rw [← hS5] at a5
 have L5 : Hid (S5.data.toList = wrapL k d.data.toList) := by
  show _ = _
  rw [hS5, add_list, L2.out, hS4, hqe]
  rfl
 clear hqe L3 hS3 hS2 hS1 hS4 hS5
 go_enter Tryz.func30, Tryz.ntmps30
 go_wp2_with (go_at_call 66; refine (hsum _).mono ?_; rintro e w1 ⟨rfl, rfl⟩)
 go_ret2
 exact ⟨S5, rfl, L5.out, (((Below.refl _ w).alloc (Nat.le_refl _) _).alloc (by simp) _).alloc (by simp; omega) _⟩
theorem rwrap_no (k : Int) (d : ByteArray) (w : World) (h : ¬ (0 ≤ k ∧ k ≤ 255 ∧ d.size ≤ 64)) :
    Calls Tryz.prog 30 #[.agg #[.int .i64 k, .string d]] w fun e w' => e = .returned (.tuple #[.string ⟨#[]⟩, .bool false]) ∧ Below w.heap.size w w' := by
 have h' : decide (k < 0) || decide (255 < k) || decide (64 < (d.size : Int)) := by simp; omega
 go_enter Tryz.func30, Tryz.ntmps30
 go_wp2
 all_goals (go_ret2; exact ⟨rfl, (Below.refl _ w).alloc (Nat.le_refl _) _⟩)
end Go.Proofs.YtbophanlmkbfeaaGreatDoor
namespace Go.Proofs.YtbophanlmkbfeaaGreatDoor
open Go.RowKit
theorem kept_two {w w1 : World} {A B : Array Value} {t u : TypeId} (h : Below ((w.alloc (.cells A t)).alloc (.cells B u)).drew.heap.size ((w.alloc (.cells A t)).alloc (.cells B u)).drew w1) :
    Below (w.alloc (.cells A t)).heap.size (w.alloc (.cells A t)) w1 ∧ ∀ j, w1.cell? ⟨w.heap.size + 1, j, none⟩ = B[j]? := by
 have h' : Below ((w.alloc (.cells A t)).alloc (.cells B u)).heap.size ((w.alloc (.cells A t)).alloc (.cells B u)) w1 := ⟨h.os, h.tape, h.output, h.size, h.block⟩
 refine ⟨((Below.refl _ _).alloc (Nat.le_refl _) _).trans (h'.mono (by simp)), fun j => ?_⟩
 rw [h'.cell (p := ⟨w.heap.size + 1, j, none⟩) (by simp)]
 exact cell_top _ _ _ _ j (by simp)
theorem str_ne {s t : ByteArray} (h : t.data.toList ≠ s.data.toList) : (t.toList == s.toList) = false := by
 rw [Lib.toList_data, Lib.toList_data]
 simpa using h
def ropenS (s : ByteArray) : Int × ByteArray × Bool :=
 if 5 ≤ s.size ∧ s.size ≤ 69 ∧ wrapL (s.data.toList.getD 1 0) (s.extract 3 (s.size - 2)).data.toList = s.data.toList then (((s.data.toList.getD 1 0).toNat : Int), s.extract 3 (s.size - 2), true) else (0, ⟨#[]⟩, false)
theorem ropenS_yes {t : List UInt8} {x d : ByteArray} {k n : Nat} (h : look t = some (n + 1)) (hx : x.data.toList = t.take (n + 5)) (hd : d.data.toList = (t.drop 3).take n) (hk : (t.getD 1 0).toNat = k) : ropenS x = ((k : Int), d, true) := by
 obtain ⟨_, _, h64, h5, _⟩ := look_parts h
 have hs : x.size = n + 5 := by
  rw [Lib.size_eq, hx, List.length_take]
  omega
 have e1 : x.data.toList.getD 1 0 = t.getD 1 0 := by
  rw [hx]
  simp [List.getD_eq_getElem?_getD]
 have e2 : (x.extract 3 (x.size - 2)).data.toList = (t.drop 3).take n := by
  rw [extract_list, hx, List.drop_take, List.take_take, hs]
  congr 1
  omega
 unfold ropenS
 rw [if_pos ⟨by omega, by omega, by rw [e1, e2, hx, wrap_look h]⟩, e1, hk]
 have e3 : x.extract 3 (x.size - 2) = d := ByteArray.ext (Array.toList_inj.1 (by rw [e2, hd]))
 rw [e3]
theorem ropenS_no {t : List UInt8} {x : ByteArray} {n : Nat} (h : look t = some 0) (hx : x.data.toList = t.take (n + 5)) (h5 : n + 5 ≤ t.length) : ropenS x = (0, ⟨#[]⟩, false) := by
 have hs : x.size = n + 5 := by
  rw [Lib.size_eq, hx, List.length_take]
  omega
 unfold ropenS
 rw [if_neg]
 rintro ⟨_, h69, hw⟩
 have e : t = wrapL (x.data.toList.getD 1 0) (x.extract 3 (x.size - 2)).data.toList ++ t.drop (n + 5) := by rw [hw, hx, List.take_append_drop]
 have hl := look_wrap (x.data.toList.getD 1 0) (x.extract 3 (x.size - 2)).data.toList (t.drop (n + 5)) (by rw [← Lib.size_eq, ByteArray.size_extract]; omega)
 rw [← e, h] at hl
 cases hl
set_option maxHeartbeats 1000000 in
set_option maxRecDepth 100000 in
theorem ropen_any (s : ByteArray) (w : World) (hmax : s.size ≤ 5000) :
    Calls Tryz.prog 10 #[.string s] w fun e w' => e = .returned (.tuple #[.agg #[.int .i64 (ropenS s).1, .string (ropenS s).2.1], .bool (ropenS s).2.2]) ∧ Below w.heap.size w w' := by
 by_cases h5 : s.size < 5
 ·have e : ropenS s = (0, ⟨#[]⟩, false) := by unfold ropenS; rw [if_neg (by omega)]
  rw [e]
  go_enter Tryz.func10, Tryz.ntmps10
  go_wp2
  refine bodyPost_ret (v := .tuple #[.agg #[.int .i64 0, .string ⟨#[]⟩], .bool false]) (by simp [results_cell_tmp Tryz.results10, asAddr, go_sem]) rfl ⟨rfl, ?_⟩
  exact (Below.refl _ w).alloc (Nat.le_refl _) _
 have l1 : 1 < s.size := by omega
 obtain ⟨k, hk⟩ : ∃ k, (s[1]'l1) = k := ⟨_, rfl⟩
 have hsl : ∀ W : World, (Instr.slice 9 (.string s) (some (.int .i64 3)) (some (.int .i64 ((s.size : Int) - 2))) none).run Tryz.prog W = .ok (.string (s.extract 3 (s.size - 2))) W := fun W => by
  rw [run_slice_string W 9 s .i64 .i64 3 ((s.size : Int) - 2) Tryz.underlying9 (by omega) (by omega) (by omega), show ((s.size : Int) - 2).toNat = s.size - 2 by omega]
  rfl
 obtain ⟨d, hd⟩ : ∃ d : ByteArray, d = s.extract 3 (s.size - 2) := ⟨_, rfl⟩
 rw [← hd] at hsl
 have hds : d.size = s.size - 5 := by rw [hd, ByteArray.size_extract]; omega
 have HD : Hid (d = s.extract 3 (s.size - 2)) := hd
 have hw2 : IntKind.i64.wrap ((s.size : Int) - 2) = (s.size : Int) - 2 := by rw [IntKind.wrap_i64]; omega
 obtain ⟨n, hn⟩ : ∃ n, k.toNat = n := ⟨_, rfl⟩
 have hk8 : n < 256 := by rw [← hn]; exact k.toNat_lt
 have hv : IntKind.i64.wrap (n : Int) = (n : Int) := by rw [IntKind.wrap_i64]; omega
 have HO : Hid (ropenS s = if s.size ≤ 69 ∧ wrapL k d.data.toList = s.data.toList then ((n : Int), d, true) else (0, ⟨#[]⟩, false)) := by
  show _ = _
  unfold ropenS
  rw [getD_of l1, hk, ← hd, hn]
  by_cases c : s.size ≤ 69 ∧ wrapL k d.data.toList = s.data.toList
  ·rw [if_pos c, if_pos ⟨by omega, c⟩]
  ·rw [if_neg c, if_neg (fun h => c h.2)]
 clear hd
 by_cases h69 : s.size ≤ 69
 ·have hw := fun W => rwrap_yes k d W (by omega)
  rw [hn] at hw
  by_cases c : wrapL k d.data.toList = s.data.toList
  ·rw [HO.out, if_pos ⟨h69, c⟩]
   have HC : Hid (wrapL k d.data.toList = s.data.toList) := c
   clear c
   go_enter Tryz.func10, Tryz.ntmps10
   go_wp2
   go_region
   go_wp2_with (go_at_call 30; refine (hw _).mono ?_; rintro e w1 ⟨t, rfl, ht, hb1⟩; obtain rfl : t = s := ByteArray.ext (Array.toList_inj.1 (ht.trans HC.out)); obtain ⟨hb2, kc⟩ := kept_two hb1; have k0 := cell_kept0 hb2; have k1 := cell_kept1 hb2; have f0 := free_kept0 hb2; have f1 := free_kept1 hb2; have k2 : w1.cell? ⟨w.heap.size + 1, 0, none⟩ = some (.int .i64 (n : Int)) := kc 0; have k3 : w1.cell? ⟨w.heap.size + 1, 1, none⟩ = some (.string d) := kc 1; clear kc ht)
   refine bodyPost_ret (v := .tuple #[.agg #[.int .i64 (n : Int), .string d], .bool true]) (by simp [results_cell_tmp Tryz.results10, asAddr, go_sem, k0, k1]) rfl ⟨rfl, ?_⟩
   exact ((below_kept hb2).setCell (Nat.le_refl _) _).setCell (Nat.le_refl _) _
  ·rw [HO.out, if_neg (fun h => c h.2)]
   have HC : Hid (wrapL k d.data.toList ≠ s.data.toList) := c
   clear c
   go_enter Tryz.func10, Tryz.ntmps10
   go_wp2
   go_region
   go_wp2_with (go_at_call 30; refine (hw _).mono ?_; rintro e w1 ⟨t, rfl, ht, hb1⟩; have hne := str_ne (t := t) (s := s) (by rw [ht]; exact HC.out); obtain ⟨hb2, kc⟩ := kept_two hb1; have k0 := cell_kept0 hb2; have k1 := cell_kept1 hb2; have f0 := free_kept0 hb2; have f1 := free_kept1 hb2; clear kc ht)
   refine bodyPost_ret (v := .tuple #[.agg #[.int .i64 0, .string ⟨#[]⟩], .bool false]) (by simp [results_cell_tmp Tryz.results10, asAddr, go_sem, k0, k1]) rfl ⟨rfl, ?_⟩
   exact ((below_kept hb2).setCell (Nat.le_refl _) _).setCell (Nat.le_refl _) _
 ·rw [HO.out, if_neg (fun h => h69 h.1)]
  have hw := fun W => rwrap_no n d W (by omega)
  go_enter Tryz.func10, Tryz.ntmps10
  go_wp2
  go_region
  go_wp2_with (go_at_call 30; refine (hw _).mono ?_; rintro e w1 ⟨rfl, hb1⟩; obtain ⟨hb2, kc⟩ := kept_two hb1; have k0 := cell_kept0 hb2; have k1 := cell_kept1 hb2; have f0 := free_kept0 hb2; have f1 := free_kept1 hb2; clear kc)
  refine bodyPost_ret (v := .tuple #[.agg #[.int .i64 0, .string ⟨#[]⟩], .bool false]) (by simp [results_cell_tmp Tryz.results10, asAddr, go_sem, k0, k1]) rfl ⟨rfl, ?_⟩
  exact ((below_kept hb2).setCell (Nat.le_refl _) _).setCell (Nat.le_refl _) _
end Go.Proofs.YtbophanlmkbfeaaGreatDoor
namespace Go.Proofs.YtbophanlmkbfeaaGreatDoor
open Go.RowKit
set_option maxHeartbeats 4000000 in
set_option maxRecDepth 100000 in
theorem rscan_any (s : ByteArray) (w : World) (hs : s.size ≤ 5000) :
    Calls Tryz.prog 17 #[.string s] w fun e w' => ScanEnd s.data.toList w e w' := by
 obtain ⟨i0, hi, hz0, hz1, hz2⟩ := info_parts frame_info
 obtain ⟨L, hLe⟩ : ∃ L, s.data.toList = L := ⟨_, rfl⟩
 have hL : L.length = s.size := by rw [← hLe]; rfl
 rw [hLe]
 have HS : Hid (s.data.toList = L) := hLe
 clear hLe
 go_enter Tryz.func17, Tryz.ntmps17
 go_wp2
 go_loopw [5, 6, 7] (fun v ov iv wr => ∃ (i : Nat) (acc : List (UInt8 × List UInt8)) (o : Nat), i ≤ s.size ∧ iv = .int .i64 i ∧ ov = .int .i64 o ∧ SoFar L acc (L.drop i) o ∧ Frames w.heap.size wr v acc ∧ Below w.heap.size w wr)
  (fun _ _ iv _ => s.size - (intOf iv).toNat)
 case atStart => exact ⟨0, [], 0, by omega, rfl, rfl, SoFar.start L, World.ownsRow_nil _ _ _ _, Below.refl _ _⟩
 case round =>
  obtain ⟨i, acc, o, his, rfl, rfl, hf, hown, hnx⟩ := hrel
  have hbd := hf.2
  have hdl : (L.drop i).length = s.size - i := by rw [List.length_drop, hL]
  have HF : Hid (SoFar L acc (L.drop i) o) := hf
  have HO : Hid (Frames w.heap.size wr u5 acc) := hown
  clear hf hown
  by_cases hlt : i < s.size
  case neg =>
   obtain rfl : i = s.size := by omega
   have HE : Hid (scanL L = (acc, [], o)) := by
    have := HF.out.stop (t := L.drop s.size) (by rw [List.drop_of_length_le (by omega)]; exact look_nil)
    rwa [List.drop_of_length_le (by omega)] at this
   go_wp2
   go_ret3
   exact ⟨_, ⟨#[]⟩, by rw [HE.out]; rfl, by rw [HE.out], by rw [HE.out]; exact HO.out, hnx⟩
  obtain ⟨b0, hb0⟩ : ∃ b, (s[i]'hlt).toNat = b := ⟨_, rfl⟩
  have G0 : Hid (((L.drop i).getD 0 0).toNat = b0) := by
   show _ = _
   rw [← hb0, ← getD_of hlt, HS.out]
   simp [List.getD_eq_getElem?_getD]
  by_cases c0 : b0 = 165
  case neg =>
   have HE : Hid (SoFar L acc (L.drop (i + 1)) (o + 1)) := by
    have := HF.out.skip (look0 (by omega) (by rw [G0.out]; exact c0))
    rwa [List.drop_drop] at this
   have c0' : ((b0 : Int) != 165) = true := by simp; omega
   go_wp2
   go_roundw
   case rel => exact ⟨i + 1, acc, o + 1, by omega, by go_num, by go_num, HE.out, HO.out, hnx⟩
   case measure => simp [intOf]; omega
  rw [c0] at G0 hb0
  clear c0 b0
  have hsl : ∀ W : World, (Instr.slice 9 (.string s) (some (.int .i64 (i : Int))) none none).run Tryz.prog W = .ok (.string (s.extract i s.size)) W := fun W => by
   rw [run_slice_string_from_if W 9 s .i64 (i : Int) Tryz.underlying9, if_pos (by omega)]
   rfl
  obtain ⟨z, hz⟩ : ∃ z : ByteArray, z = s.extract i s.size := ⟨_, rfl⟩
  rw [← hz] at hsl
  have HZ : Hid (z.data.toList = L.drop i) := by show _ = _; rw [hz, ← HS.out]; exact Lib.extract_to_end s i
  clear hz
  have c165 : ((165 : Int) != 165) = false := rfl
  by_cases h3 : s.size - i < 3
  case pos =>
   have HE : Hid (scanL L = (acc, L.drop i, o)) := HF.out.stop (look1 (by omega) G0.out (by omega))
   go_wp2
   go_quiet (fail)
   go_wp2
   go_ret3
   exact ⟨_, z, by rw [HE.out]; rfl, by rw [HE.out]; exact HZ.out, by rw [HE.out]; exact HO.out.below below_alike, below_drewN hnx _⟩
  have l2 : i + 2 < s.size := by omega
  obtain ⟨n, hn⟩ : ∃ b, (s[i + 2]'l2).toNat = b := ⟨_, rfl⟩
  have hn8 : n < 256 := by rw [← hn]; exact (s[i + 2]'l2).toNat_lt
  have G2 : Hid (((L.drop i).getD 2 0).toNat = n) := by
   show _ = _
   rw [← hn, ← getD_of l2, HS.out]
   simp [List.getD_eq_getElem?_getD]
  have hi2 : ∀ W : World, (Instr.index 9 (.string s) (.int .i64 ((i : Int) + 2))).run Tryz.prog W = .ok (.int .u8 (n : Nat)) W := fun W => by
   rw [run_index_string W 9 s .i64 ((i : Int) + 2) Tryz.underlying9, dif_pos (by omega)]
   have : ((i : Int) + 2).toNat = i + 2 := by omega
   simp only [this, hn]
  clear hn
  by_cases h64 : 64 < n
  case pos =>
   have HE : Hid (SoFar L acc (L.drop (i + 1)) (o + 1)) := by
    have := HF.out.skip (look2 G0.out (by omega) G2.out h64)
    rwa [List.drop_drop] at this
   go_wp2
   go_roundw
   case rel => exact ⟨i + 1, acc, o + 1, by omega, by go_num, by go_num, HE.out, HO.out, hnx⟩
   case measure => simp [intOf]; omega
  by_cases h5 : s.size - i < n + 5
  case pos =>
   have HE : Hid (scanL L = (acc, L.drop i, o)) := HF.out.stop (look3 G0.out (by omega) G2.out (by omega) (by omega))
   go_wp2
   go_quiet (fail)
   go_wp2
   go_ret3
   exact ⟨_, z, by rw [HE.out]; rfl, by rw [HE.out]; exact HZ.out, by rw [HE.out]; exact HO.out.below below_alike, below_drewN hnx _⟩
  have hsx : ∀ W : World, (Instr.slice 9 (.string s) (some (.int .i64 (i : Int))) (some (.int .i64 ((i : Int) + (n : Int) + 5))) none).run Tryz.prog W = .ok (.string (s.extract i (i + n + 5))) W := fun W => by
   rw [run_slice_string W 9 s .i64 .i64 (i : Int) ((i : Int) + (n : Int) + 5) Tryz.underlying9 (by omega) (by omega) (by omega), show ((i : Int) + (n : Int) + 5).toNat = i + n + 5 by omega]
   rfl
  obtain ⟨x, hx⟩ : ∃ z : ByteArray, z = s.extract i (i + n + 5) := ⟨_, rfl⟩
  rw [← hx] at hsx
  have HX : Hid (x.data.toList = (L.drop i).take (n + 5)) := by show _ = _; rw [hx, extract_list, HS.out]; congr 1; omega
  have hxs : x.size = n + 5 := by rw [hx, ByteArray.size_extract]; omega
  clear hx
  have hop := fun W => ropen_any x W (by omega)
  by_cases hq : sumU (((L.drop i).drop 1).take (n + 2)) = ((L.drop i).getD (n + 3) 0).toNat * 256 + ((L.drop i).getD (n + 4) 0).toNat
  case neg =>
   have hlo := look4 G0.out G2.out (by omega) (by omega) hq
   have HE : Hid (SoFar L acc (L.drop (i + 1)) (o + 1)) := by
    have := HF.out.skip hlo
    rwa [List.drop_drop] at this
   rw [ropenS_no hlo HX.out (by omega)] at hop
   clear hlo hq
   go_wp2_with (go_at_call 10; refine (hop _).mono ?_; rintro e w1 ⟨rfl, hb1⟩)
   have hbw := (hnx.trans (hb1.mono hnx.size)).alloc (Nat.le_trans hnx.size hb1.size) (.cells #[.int .i64 0, .string ⟨#[]⟩] 49)
   go_roundw
   case rel => exact ⟨i + 1, acc, o + 1, by omega, by go_num, by go_num, HE.out, (HO.out.below hb1).alloc _, hbw⟩
   case measure => simp [intOf]; omega
  have hlo := look5 G0.out G2.out (by omega) (by omega) hq
  obtain ⟨k, hk⟩ : ∃ k, ((L.drop i).getD 1 0).toNat = k := ⟨_, rfl⟩
  obtain ⟨d, hd⟩ : ∃ d : ByteArray, d = ⟨(((L.drop i).drop 3).take n).toArray⟩ := ⟨_, rfl⟩
  rw [ropenS_yes hlo HX.out (d := d) (by rw [hd]) hk] at hop
  have HE : Hid (SoFar L (acc ++ [((L.drop i).getD 1 0, ((L.drop i).drop 3).take n)]) (L.drop (i + n + 5)) o) := by
   have := HF.out.frame hlo
   rwa [show (L.drop i).drop (n + 5) = L.drop (i + n + 5) by rw [List.drop_drop, Nat.add_assoc]] at this
  have HN : Hid (cellsOf (acc ++ [((L.drop i).getD 1 0, ((L.drop i).drop 3).take n)]) = cellsOf acc ++ [.int .i64 (k : Nat), .string d]) := by
   show _ = _
   rw [cellsOf_append, ← hk, hd]
   rfl
  have HLen : Hid ((acc ++ [((L.drop i).getD 1 0, ((L.drop i).drop 3).take n)]).length = acc.length + 1) := by show _ = _; simp
  clear hlo hq hd hk
  generalize acc ++ [((L.drop i).getD 1 0, ((L.drop i).drop 3).take n)] = acc' at HE HN HLen
  go_wp2_with (first
   | (go_at_call 10; refine (hop _).mono ?_; rintro e w2 ⟨rfl, hb2⟩)
   | (at_builtin; refine wpList_append_own _ rfl (.tmp 73) (.tmp 75) 64 rfl w.heap.size 49 i0 (.agg #[.int .i64 0, .string ⟨#[]⟩]) 2 24 Tryz.underlying64 hi hz0 hz1 hz2 rfl (by decide) _ _ _ rfl (((HO.out.below hb2).alloc _).alloc _) ⟨w2.heap.size + 1, 0, none⟩ 1 1 [.int .i64 (k : Nat), .string d] rfl rfl (cell_two_top _ _ _ _ _ (by simp)) (by intro u hu; simp at hu; rcases hu with rfl | rfl <;> rfl) (by unfold maxLen; omega) (by omega) (by have := hb2.size; have := hnx.size; simp; omega) ?_; intro v3 w3 hown3 hgrow3 hnil3))
  have hF := HO.out.below hb2
  have hbw := hnx.trans (hb2.mono hnx.size)
  have hby := hbw.alloc hbw.size (.cells #[.int .i64 (k : Nat), .string d] 49)
  have hbz := (hby.alloc hby.size (.cells #[.int .i64 (k : Nat), .string d] 49)).grown hgrow3 (by have := hbw.size; simp; omega) (fun j hj => (World.ownsRow.lt hF j hj).1)
  clear hnil3 hgrow3
  go_roundw
  case rel => exact ⟨i + n + 5, acc', o, by omega, by go_num, rfl, HE.out, by unfold Frames; rw [HLen.out, HN.out]; exact hown3, hbz⟩
  case measure => simp [intOf]; omega
end Go.Proofs.YtbophanlmkbfeaaGreatDoor
namespace Go.Proofs.YtbophanlmkbfeaaGreatDoor
open Go.RowKit
def SlAt (k : Nat) (sl : Value) (l : List (UInt8 × List UInt8)) : Prop := (sl = .slice none 0 0 ∧ l = []) ∨ ∃ cap, sl = .slice (some ⟨k, 0, none⟩) l.length cap
theorem SlAt.real {k : Nat} {sl v : Value} {l : List (UInt8 × List UInt8)} {bl : Bl} (h : SlAt k sl l) (r : RV bl sl v) : ∃ A cap, v = .slice A l.length cap ∧ (l ≠ [] → ∃ B, bl[k]? = some (some B) ∧ A = some ⟨B, 0, none⟩) := by
 rcases h with ⟨rfl, rfl⟩ | ⟨cap, rfl⟩
 ·exact ⟨none, 0, r, fun e => absurd rfl e⟩
 ·obtain ⟨B, h1, e⟩ := r
  exact ⟨_, cap, e, fun _ => ⟨B, h1, rfl⟩⟩
theorem SlAt.ptr {k k2 : Nat} {sl : Value} {l : List (UInt8 × List UInt8)} (h : SlAt k sl l) (hk : k < k2) : ptrOk k2 sl = true := by
 rcases h with ⟨rfl, _⟩ | ⟨cap, rfl⟩
 ·rfl
 ·exact decide_eq_true hk
theorem RW.framesAt {bs : List Nat} {w0 : World} {bl : Bl} {m : Xm} {w w' : World} {k : Nat} (h : RW bs w0 bl m w) (hl : bl.length = k) (hm : m.length = k) (hb : Below w.heap.size w w') {v : Value} {l : List (UInt8 × List UInt8)} (hf : Frames w.heap.size w' v l) :
    ∃ x sl, SlAt k sl l ∧ RV (bl ++ [x]) sl v ∧ RW bs w0 (bl ++ [x]) (m ++ [cellsOf l]) w' := by
 have h' := h.pure hb
 rcases hf.2 with ⟨rfl, h0⟩ | ⟨g, cap, cur, rfl, hg, hgg, _, _, _, hx⟩
 ·exact ⟨none, .slice none 0 0, .inl ⟨rfl, List.length_eq_zero_iff.1 h0⟩, rfl, h'.wide 1 _⟩
 ·have h3 : (bl ++ [some g])[k]? = some (some g) := by rw [List.getElem?_append_right (by omega), hl, Nat.sub_self]; rfl
  refine ⟨some g, .slice (some ⟨k, 0, none⟩) l.length cap, .inr ⟨cap, rfl⟩, ⟨g, h3, rfl⟩, h'.add (hl.trans hm.symm) (arr_cells hgg hx) (Nat.le_trans h.size hg) (fun k hk => ?_)⟩
  obtain ⟨_, _, A⟩ := h.arr k g hk
  have := A.lies
  omega
theorem frame_load {P : Program} {tF : TypeId} {l : List (UInt8 × List UInt8)} {i : Int} (ha : qrun P (isAgg tF) = some true) (hz : qrun P (sizeOf tF) = some 2) (hil : i.toNat < l.length) (_ : 0 ≤ i) : loadV P tF (cellsOf l) (i.toNat * 2) = some (.agg #[.int .i64 (frL l i).1, .string (frL l i).2]) := by
 have hc := cellsOf_at l i.toNat hil
 have hcl := cellsOf_length l
 have hf : frL l i = (((l[i.toNat].1.toNat : Nat) : Int), (⟨l[i.toNat].2.toArray⟩ : ByteArray)) := by unfold frL; rw [List.getElem?_eq_getElem hil]
 unfold loadV
 rw [ha, hz]
 dsimp only
 rw [if_pos (by omega), hf]
 have hd : ((cellsOf l).drop (i.toNat * 2)).take 2 = [.int .i64 (l[i.toNat].1.toNat : Nat), .string ⟨l[i.toNat].2.toArray⟩] := by
  obtain ⟨q1, q2⟩ := List.getElem?_eq_some_iff.1 hc.1
  obtain ⟨q3, q4⟩ := List.getElem?_eq_some_iff.1 hc.2
  rw [List.drop_eq_getElem_cons q1, List.drop_eq_getElem_cons q3, q2, q4]
  rfl
 rw [hd]
end Go.Proofs.YtbophanlmkbfeaaGreatDoor
