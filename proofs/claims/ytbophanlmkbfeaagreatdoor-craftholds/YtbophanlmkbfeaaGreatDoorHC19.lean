/-
A part.
A part.
A part.
-/
import Derived.WalkSpells
import Derived.Laws.IdiomStrings
import Derived.Laws.Concat
import Derived.Handy
import Derived.Deep.RegionHeld3
import Derived.Test.YtbophanlmkbfeaaGreatDoorHC13
import Derived.Test.YtbophanlmkbfeaaGreatDoorHC11
import Derived.Test.YtbophanlmkbfeaaGreatDoorHC02
import Derived.Test.YtbophanlmkbfeaaGreatDoorHC10
import Derived.Test.YtbophanlmkbfeaaGreatDoorHC09
import Derived.Test.YtbophanlmkbfeaaGreatDoorHC17
namespace Go.Proofs.YtbophanlmkbfeaaGreatDoor
open Go.RowKit
set_option maxRecDepth 100000
set_option maxHeartbeats 20000000
theorem conv3 (W : World) (g : Nat) (a b c : UInt8) (h0 : W.cell? ⟨g, 0, none⟩ = some (.int .u8 (a.toNat : Nat))) (h1 : W.cell? ⟨g, 1, none⟩ = some (.int .u8 (b.toNat : Nat))) (h2 : W.cell? ⟨g, 2, none⟩ = some (.int .u8 (c.toNat : Nat))) :
    (convert 135 9 (.slice (some ⟨g, 0, none⟩) 3 3)).run Tryz.prog W = .ok (.string ⟨#[a, b, c]⟩) W :=
 run_convert_bytes_back W 135 9 5 ⟨g, 0, none⟩ 3 [a, b, c] Tryz.underlying135 Tryz.underlying5 Tryz.underlying9 (fun j hj => by
  match j, hj with
  | 0, _ => exact h0
  | 1, _ => exact h1
  | 2, _ => exact h2)
theorem conv2 (W : World) (g : Nat) (a b : UInt8) (h0 : W.cell? ⟨g, 0, none⟩ = some (.int .u8 (a.toNat : Nat))) (h1 : W.cell? ⟨g, 1, none⟩ = some (.int .u8 (b.toNat : Nat))) :
    (convert 135 9 (.slice (some ⟨g, 0, none⟩) 2 2)).run Tryz.prog W = .ok (.string ⟨#[a, b]⟩) W :=
 run_convert_bytes_back W 135 9 5 ⟨g, 0, none⟩ 2 [a, b] Tryz.underlying135 Tryz.underlying5 Tryz.underlying9 (fun j hj => by
  match j, hj with
  | 0, _ => exact h0
  | 1, _ => exact h1)
theorem cell_top (U : World) (g : Nat) (C : Array Value) (t : TypeId) (j : Nat) (hg : g = U.heap.size) : (U.alloc (.cells C t)).cell? ⟨g, j, none⟩ = C[j]? := by
 subst hg
 exact World.cell?_alloc_mark U C t (0, 0) j
theorem add_list (a b : ByteArray) : (a ++ b).data.toList = a.data.toList ++ b.data.toList := by
 rw [ByteArray.data_append, Array.toList_append]
theorem add_run (W : World) (a b : ByteArray) (h : a.size + b.size ≤ 5000) : (Op.stringOp .add a b).run Tryz.prog W = .ok (.string (a ++ b)) W := run_string_add_sum W a b (by omega)
theorem wrap_yes (k : UInt8) (d : ByteArray) (w : World) (hd : d.size ≤ 64) :
    Calls Tryz.prog 65 #[.agg #[.int .i64 (k.toNat : Nat), .string d]] w fun e w' => ∃ s : ByteArray, e = .returned (.tuple #[.string s, .bool true]) ∧ s.data.toList = wrapL k d.data.toList ∧ Below w.heap.size w w' := by
 obtain ⟨n, hn⟩ : ∃ n, k.toNat = n := ⟨_, rfl⟩
 have hk : n < 256 := by rw [← hn]; exact k.toNat_lt
 have e3 : (convert 135 9 (.slice (some ⟨w.heap.size + 1, 0, none⟩) 3 3)).run Tryz.prog ((w.alloc (.cells #[.int .i64 (n : Int), .string d] 49)).alloc (.cells #[.int .u8 165, .int .u8 (n : Int), .int .u8 (d.size : Int)] 5)) = .ok (.string ⟨#[165, k, UInt8.ofNat d.size]⟩) ((w.alloc (.cells #[.int .i64 (n : Int), .string d] 49)).alloc (.cells #[.int .u8 165, .int .u8 (n : Int), .int .u8 (d.size : Int)] 5)) :=
  conv3 _ _ 165 k (UInt8.ofNat d.size) (by simp) (by simp [hn]) (by rw [ofNat_toNat (by omega)]; simp)
 obtain ⟨S1, hS1⟩ : ∃ S : ByteArray, S = ⟨#[165, k, UInt8.ofNat d.size]⟩ := ⟨_, rfl⟩
 rw [← hS1] at e3
 have z1 : S1.size = 3 := by rw [hS1]; rfl
 have a1 := fun W => add_run W S1 d (by omega)
 obtain ⟨S2, hS2⟩ : ∃ S : ByteArray, S = S1 ++ d := ⟨_, rfl⟩
 rw [← hS2] at a1
 have z2 : S2.size = 3 + d.size := by rw [hS2, ByteArray.size_append, z1]
 have L2 : Hid (S2.data.toList = [165] ++ wrapHead k d.data.toList) := by
  show _ = _
  rw [hS2, add_list, hS1]
  rfl
 have s3 : ∀ W : World, (Instr.slice 9 (.string S2) (some (.int .i64 1)) none none).run Tryz.prog W = .ok (.string (S2.extract 1 S2.size)) W := fun W => by
  rw [run_slice_string_from_if W 9 S2 .i64 1 Tryz.underlying9, if_pos (by omega)]
  rfl
 obtain ⟨S3, hS3⟩ : ∃ S : ByteArray, S = S2.extract 1 S2.size := ⟨_, rfl⟩
 rw [← hS3] at s3
 have z3 : S3.size = 2 + d.size := by rw [hS3, ByteArray.size_extract]; omega
 have L3 : S3.data.toList = wrapHead k d.data.toList := by
  rw [hS3, extract_list, L2.out, List.take_of_length_le (by rw [← L2.out, List.length_drop]; exact Nat.le_refl _)]
  rfl
 have hsum := fun W => sum_any S3 W (by omega)
 rw [L3] at hsum
 have hq := sumU_lt (wrapHead k d.data.toList)
 obtain ⟨q, hqe⟩ : ∃ q, q = sumU (wrapHead k d.data.toList) := ⟨_, rfl⟩
 rw [← hqe] at hsum hq
 have e4 : (convert 135 9 (.slice (some ⟨w.heap.size + 1 + 1, 0, none⟩) 2 2)).run Tryz.prog (((w.alloc (.cells #[.int .i64 (n : Int), .string d] 49)).alloc (.cells #[.int .u8 165, .int .u8 (n : Int), .int .u8 (d.size : Int)] 5)).alloc (.cells #[.int .u8 ((q : Int) / 256), .int .u8 ((q : Int) % 256)] 5)) = .ok (.string ⟨#[UInt8.ofNat (q / 256), UInt8.ofNat (q % 256)]⟩) (((w.alloc (.cells #[.int .i64 (n : Int), .string d] 49)).alloc (.cells #[.int .u8 165, .int .u8 (n : Int), .int .u8 (d.size : Int)] 5)).alloc (.cells #[.int .u8 ((q : Int) / 256), .int .u8 ((q : Int) % 256)] 5)) :=
  conv2 _ _ (UInt8.ofNat (q / 256)) (UInt8.ofNat (q % 256)) (by rw [ofNat_toNat (by omega)]; exact cell_top _ _ _ _ 0 (by simp)) (by rw [ofNat_toNat (by omega)]; exact cell_top _ _ _ _ 1 (by simp))
 obtain ⟨S4, hS4⟩ : ∃ S : ByteArray, S = ⟨#[UInt8.ofNat (q / 256), UInt8.ofNat (q % 256)]⟩ := ⟨_, rfl⟩
 rw [← hS4] at e4
 have z4 : S4.size = 2 := by rw [hS4]; rfl
 have a5 := fun W => add_run W S2 S4 (by omega)
 obtain ⟨S5, hS5⟩ : ∃ S : ByteArray, S = S2 ++ S4 := ⟨_, rfl⟩
 rw [← hS5] at a5
 have L5 : Hid (S5.data.toList = wrapL k d.data.toList) := by
  show _ = _
  rw [hS5, add_list, L2.out, hS4, hqe]
  rfl
 clear hqe L3 hS3 hS2 hS1 hS4 hS5
 go_enter Tryz.func65, Tryz.ntmps65
 go_wp2_with (go_at_call 142; refine (hsum _).mono ?_; rintro e w1 ⟨rfl, rfl⟩)
 go_ret2
 exact ⟨S5, rfl, L5.out, (((Below.refl _ w).alloc (Nat.le_refl _) _).alloc (by simp) _).alloc (by simp; omega) _⟩
theorem wrap_no (k : Int) (d : ByteArray) (w : World) (h : ¬ (0 ≤ k ∧ k ≤ 255 ∧ d.size ≤ 64)) :
    Calls Tryz.prog 65 #[.agg #[.int .i64 k, .string d]] w fun e w' => e = .returned (.tuple #[.string ⟨#[]⟩, .bool false]) ∧ Below w.heap.size w w' := by
 have h' : decide (k < 0) || decide (255 < k) || decide (64 < (d.size : Int)) := by simp; omega
 go_enter Tryz.func65, Tryz.ntmps65
 go_wp2
 all_goals (go_ret2; exact ⟨rfl, (Below.refl _ w).alloc (Nat.le_refl _) _⟩)
theorem rwrap_yes (k : UInt8) (d : ByteArray) (w : World) (hd : d.size ≤ 64) :
    Calls Tryz.prog 30 #[.agg #[.int .i64 (k.toNat : Nat), .string d]] w fun e w' => ∃ s : ByteArray, e = .returned (.tuple #[.string s, .bool true]) ∧ s.data.toList = wrapL k d.data.toList ∧ Below w.heap.size w w' := by
 obtain ⟨n, hn⟩ : ∃ n, k.toNat = n := ⟨_, rfl⟩
 have hk : n < 256 := by rw [← hn]; exact k.toNat_lt
 have e3 : (convert 135 9 (.slice (some ⟨w.heap.size + 1, 0, none⟩) 2 2)).run Tryz.prog ((w.alloc (.cells #[.int .i64 (n : Int), .string d] 49)).alloc (.cells #[.int .u8 (n : Int), .int .u8 (d.size : Int)] 5)) = .ok (.string ⟨#[k, UInt8.ofNat d.size]⟩) ((w.alloc (.cells #[.int .i64 (n : Int), .string d] 49)).alloc (.cells #[.int .u8 (n : Int), .int .u8 (d.size : Int)] 5)) :=
  conv2 _ _ k (UInt8.ofNat d.size) (by simp [hn]) (by rw [ofNat_toNat (by omega)]; simp)
 obtain ⟨S1, hS1⟩ : ∃ S : ByteArray, S = ⟨#[k, UInt8.ofNat d.size]⟩ := ⟨_, rfl⟩
 rw [← hS1] at e3
 have z1 : S1.size = 2 := by rw [hS1]; rfl
 have a1 := fun W => add_run W S1 d (by omega)
 obtain ⟨S2, hS2⟩ : ∃ S : ByteArray, S = S1 ++ d := ⟨_, rfl⟩
 rw [← hS2] at a1
 have z2 : S2.size = 2 + d.size := by rw [hS2, ByteArray.size_append, z1]
 have L3 : S2.data.toList = wrapHead k d.data.toList := by
  rw [hS2, add_list, hS1]
  rfl
 have a2 := fun W => add_run W ⟨#[165]⟩ S2 (by have : (⟨#[165]⟩ : ByteArray).size = 1 := rfl; omega)
 obtain ⟨S3, hS3⟩ : ∃ S : ByteArray, S = ⟨#[165]⟩ ++ S2 := ⟨_, rfl⟩
 rw [← hS3] at a2
 have z3 : S3.size = 1 + S2.size := by rw [hS3, ByteArray.size_append]; rfl
 have L2 : Hid (S3.data.toList = [165] ++ wrapHead k d.data.toList) := by
  show _ = _
  rw [hS3, add_list, L3]
 have hsum := fun W => rsum_any S2 W (by omega)
 rw [L3] at hsum
 have hq := sumU_lt (wrapHead k d.data.toList)
 obtain ⟨q, hqe⟩ : ∃ q, q = sumU (wrapHead k d.data.toList) := ⟨_, rfl⟩
 rw [← hqe] at hsum hq
 have e4 : (convert 135 9 (.slice (some ⟨w.heap.size + 1 + 1, 0, none⟩) 2 2)).run Tryz.prog (((w.alloc (.cells #[.int .i64 (n : Int), .string d] 49)).alloc (.cells #[.int .u8 (n : Int), .int .u8 (d.size : Int)] 5)).alloc (.cells #[.int .u8 ((q : Int) / 256), .int .u8 ((q : Int) % 256)] 5)) = .ok (.string ⟨#[UInt8.ofNat (q / 256), UInt8.ofNat (q % 256)]⟩) (((w.alloc (.cells #[.int .i64 (n : Int), .string d] 49)).alloc (.cells #[.int .u8 (n : Int), .int .u8 (d.size : Int)] 5)).alloc (.cells #[.int .u8 ((q : Int) / 256), .int .u8 ((q : Int) % 256)] 5)) :=
  conv2 _ _ (UInt8.ofNat (q / 256)) (UInt8.ofNat (q % 256)) (by rw [ofNat_toNat (by omega)]; exact cell_top _ _ _ _ 0 (by simp)) (by rw [ofNat_toNat (by omega)]; exact cell_top _ _ _ _ 1 (by simp))
 obtain ⟨S4, hS4⟩ : ∃ S : ByteArray, S = ⟨#[UInt8.ofNat (q / 256), UInt8.ofNat (q % 256)]⟩ := ⟨_, rfl⟩
 rw [← hS4] at e4
 have z4 : S4.size = 2 := by rw [hS4]; rfl
 have a5 := fun W => add_run W S3 S4 (by omega)
 obtain ⟨S5, hS5⟩ : ∃ S : ByteArray, S = S3 ++ S4 := ⟨_, rfl⟩
 rw [← hS5] at a5
 have L5 : Hid (S5.data.toList = wrapL k d.data.toList) := by
  show _ = _
  rw [hS5, add_list, L2.out, hS4, hqe]
  rfl
 clear hqe L3 hS3 hS2 hS1 hS4 hS5
 go_enter Tryz.func30, Tryz.ntmps30
 go_wp2_with (go_at_call 66; refine (hsum _).mono ?_; rintro e w1 ⟨rfl, rfl⟩)
 go_ret2
 exact ⟨S5, rfl, L5.out, (((Below.refl _ w).alloc (Nat.le_refl _) _).alloc (by simp) _).alloc (by simp; omega) _⟩
theorem rwrap_no (k : Int) (d : ByteArray) (w : World) (h : ¬ (0 ≤ k ∧ k ≤ 255 ∧ d.size ≤ 64)) :
    Calls Tryz.prog 30 #[.agg #[.int .i64 k, .string d]] w fun e w' => e = .returned (.tuple #[.string ⟨#[]⟩, .bool false]) ∧ Below w.heap.size w w' := by
 have h' : decide (k < 0) || decide (255 < k) || decide (64 < (d.size : Int)) := by simp; omega
 go_enter Tryz.func30, Tryz.ntmps30
 go_wp2
 all_goals (go_ret2; exact ⟨rfl, (Below.refl _ w).alloc (Nat.le_refl _) _⟩)
end Go.Proofs.YtbophanlmkbfeaaGreatDoor
namespace Go.Proofs.YtbophanlmkbfeaaGreatDoor
open Go.RowKit
set_option maxRecDepth 100000
set_option maxHeartbeats 20000000
theorem sound_any (b : Nat) (bad : Bool) (v : V3) (w : World) (hw : Fl b bad w) :
    Calls Tryz.prog 153 #[.pointer (some ⟨b, 0, none⟩), .agg #[.int .i64 v.1, .int .i64 v.2.1, .int .i64 v.2.2]] w fun e w' => e = .returned (.agg #[.int .i64 (soundS bad v).1.1, .int .i64 (soundS bad v).1.2.1, .int .i64 (soundS bad v).1.2.2]) ∧ Fl b (soundS bad v).2 w' ∧ Kept b w w' := by
 have hc := hw.cell
 have hl := hw.lies
 have HW : Hid _ := hw
 clear hw
 cases bad
 ·go_enter Tryz.func153, Tryz.ntmps153
  go_wp2
  refine bodyPost_ret (v := .agg #[.int .i64 v.1, .int .i64 v.2.1, .int .i64 v.2.2]) (by simp [results, Tryz.results153, go_sem]) rfl ?_
  exact ⟨rfl, (HW.out.alloc _).alloc _, ((Kept.refl _ _).al _).al _⟩
 ·go_enter Tryz.func153, Tryz.ntmps153
  go_wp2
  refine bodyPost_ret (v := .agg #[.int .i64 0, .int .i64 0, .int .i64 0]) (by simp [results, Tryz.results153, go_sem]) rfl ?_
  exact ⟨rfl, (HW.out.alloc _).alloc _, ((Kept.refl _ _).al _).al _⟩
theorem vScale_any (b : Nat) (bad : Bool) (p : V3) (k : Int) (w : World) (hw : Fl b bad w) :
    Calls Tryz.prog 108 #[.pointer (some ⟨b, 0, none⟩), .agg #[.int .i64 p.1, .int .i64 p.2.1, .int .i64 p.2.2], .int .i64 k] w fun e w' => e = .returned (.agg #[.int .i64 ((vScaleS bad p k).1.1), .int .i64 ((vScaleS bad p k).1.2.1), .int .i64 ((vScaleS bad p k).1.2.2)]) ∧ Fl b (vScaleS bad p k).2 w' ∧ Kept b w w' := by
 have hl := hw.lies
 go_enter Tryz.func108, Tryz.ntmps108
 go_wp2_with fail
 refine wp_region_held_drew (S := fun w' => Arr w.heap.size [.int .i64 p.1, .int .i64 p.2.1, .int .i64 p.2.2] w') (by kernel_rfl) ((Arr_at _ _ [.int .i64 p.1, .int .i64 p.2.1, .int .i64 p.2.2] _ (by simp)).alloc _).drew (fun zH => ?_)
 refine zT 0 rfl (by kernel_rfl) (fun _ _ _ => id) rfl (fun _ _ => by go_simp <;> with_reducible rfl) zH ?_
 simp only [Act.put, zA, zB, zC]
 refine zT 1 rfl (by kernel_rfl) (fun _ _ _ => id) rfl (fun _ _ => by go_simp <;> with_reducible rfl) zH ?_
 simp only [Act.put, zA, zB, zC]
 refine zT 2 rfl (by kernel_rfl) (fun _ _ _ => id) rfl (fun _ _ => by go_simp <;> with_reducible rfl) zH ?_
 simp only [Act.put, zA, zB, zC]
 refine zT 3 rfl (by kernel_rfl) (fun _ _ _ => id) rfl (fun wx hS => by have hc0 : wx.cell? ⟨w.heap.size, 0, none⟩ = some (.int .i64 p.1) := hS.c 0 (zD rfl); go_simp <;> with_reducible rfl) zH ?_
 simp only [Act.put, zA, zB, zC]
 refine zT 4 rfl (by kernel_rfl) (fun _ _ _ => id) rfl (fun _ _ => by go_simp <;> with_reducible rfl) zH ?_
 simp only [Act.put, zA, zB, zC]
 refine zT 6 rfl (by kernel_rfl) (fun _ _ _ => id) rfl (fun _ _ => by go_simp <;> with_reducible rfl) zH ?_
 simp only [Act.put, zA, zB, zC]
 refine zT 7 rfl (by kernel_rfl) (fun _ _ _ => id) rfl (fun _ _ => by go_simp <;> with_reducible rfl) zH ?_
 simp only [Act.put, zA, zB, zC]
 refine zT 8 rfl (by kernel_rfl) (fun _ _ _ => id) rfl (fun wx hS => by have hc1 : wx.cell? ⟨w.heap.size, 1, none⟩ = some (.int .i64 p.2.1) := hS.c 1 (zD rfl); go_simp <;> with_reducible rfl) zH ?_
 simp only [Act.put, zA, zB, zC]
 refine zT 9 rfl (by kernel_rfl) (fun _ _ _ => id) rfl (fun _ _ => by go_simp <;> with_reducible rfl) zH ?_
 simp only [Act.put, zA, zB, zC]
 refine zT 11 rfl (by kernel_rfl) (fun _ _ _ => id) rfl (fun _ _ => by go_simp <;> with_reducible rfl) zH ?_
 simp only [Act.put, zA, zB, zC]
 refine zT 12 rfl (by kernel_rfl) (fun _ _ _ => id) rfl (fun _ _ => by go_simp <;> with_reducible rfl) zH ?_
 simp only [Act.put, zA, zB, zC]
 refine zT 13 rfl (by kernel_rfl) (fun _ _ _ => id) rfl (fun wx hS => by have hc2 : wx.cell? ⟨w.heap.size, 2, none⟩ = some (.int .i64 p.2.2) := hS.c 2 (zD rfl); go_simp <;> with_reducible rfl) zH ?_
 simp only [Act.put, zA, zB, zC]
 refine zT 14 rfl (by kernel_rfl) (fun _ _ _ => id) rfl (fun _ _ => by go_simp <;> with_reducible rfl) zH ?_
 simp only [Act.put, zA, zB, zC]
 refine zK 5 (by kernel_rfl) rfl (fun K hK => ?_)
 go_simp
 refine (Mul_any b bad p.1 k _ ((hw.alloc _).alloc _).drew).mono ?_
 rintro e w1 ⟨rfl, f1, k1⟩
 generalize e1 : mulS bad p.1 k = r1 at f1 ⊢
 have E1 : Hid _ := e1
 clear e1
 have K1 : Kept b w w1 := Kept.trans (((Kept.refl b w).al _).al _).drew k1
 have B0_1 : Arr w.heap.size [.int .i64 p.1, .int .i64 p.2.1, .int .i64 p.2.2] w1 := ((Arr_at _ _ [.int .i64 p.1, .int .i64 p.2.1, .int .i64 p.2.2] _ (by simp)).alloc _).drew.kept k1 (by omega)
 have B1_1 : Arr (w.heap.size + 1) [.int .i64 0, .int .i64 0, .int .i64 0] w1 := (Arr_at _ _ [.int .i64 0, .int .i64 0, .int .i64 0] _ (by simp)).drew.kept k1 (by omega)
 have z1 := B1_1.lies
 clear zH
 refine hK.out _ _ B0_1 (fun zH => ?_)
 clear hK K k1
 refine zK 10 (by kernel_rfl) rfl (fun K hK => ?_)
 go_simp
 refine (Mul_any b r1.2 p.2.1 k _ f1).mono ?_
 rintro e w2 ⟨rfl, f2, k2⟩
 generalize e2 : mulS r1.2 p.2.1 k = r2 at f2 ⊢
 have E2 : Hid _ := e2
 clear e2
 have K2 := Kept.trans K1 k2
 have B0_2 := B0_1.kept k2 (by omega)
 have B1_2 := B1_1.kept k2 (by omega)
 have z2 := B1_2.lies
 clear zH
 refine hK.out _ _ B0_2 (fun zH => ?_)
 clear hK K K1 f1 B0_1 B1_1 k2
 refine zK 15 (by kernel_rfl) rfl (fun K hK => ?_)
 go_simp
 refine (Mul_any b r2.2 p.2.2 k _ f2).mono ?_
 rintro e w3 ⟨rfl, f3, k3⟩
 generalize e3 : mulS r2.2 p.2.2 k = r3 at f3 ⊢
 have E3 : Hid _ := e3
 clear e3
 have K3 := Kept.trans K2 k3
 have B0_3 := B0_2.kept k3 (by omega)
 have B1_3 := B1_2.kept k3 (by omega)
 have z3 := B1_3.lies
 clear zH
 refine hK.out _ _ B0_3 (fun zH => ?_)
 clear hK K K2 f2 B0_2 B1_2 k3
 refine zT 16 rfl (by kernel_rfl) (fun _ _ _ => id) rfl (fun _ _ => by go_simp <;> with_reducible rfl) zH ?_
 simp only [Act.put, zA, zB, zC]
 refine zK 17 (by kernel_rfl) rfl (fun K hK => ?_)
 go_simp
 refine (sound_any b r3.2 (r1.1, r2.1, r3.1) _ f3).mono ?_
 rintro e w4 ⟨rfl, f4, k4⟩
 generalize e4 : soundS r3.2 (r1.1, r2.1, r3.1) = r4 at f4 ⊢
 have E4 : Hid _ := e4
 clear e4
 have K4 := Kept.trans K3 k4
 have B0_4 := B0_3.kept k4 (by omega)
 have B1_4 := B1_3.kept k4 (by omega)
 have z4 := B1_4.lies
 clear zH
 refine hK.out _ _ B0_4 (fun zH => ?_)
 clear hK K K3 f3 B0_3 B1_3 k4
 refine zK 18 (by kernel_rfl) rfl (fun K hK => ?_)
 have c2_B1_0 : w4.cell? ⟨w.heap.size + 1, 0, none⟩ = some (.int .i64 0) := B1_4.c 0 (zD rfl)
 have c2_B1_1 : w4.cell? ⟨w.heap.size + 1, 1, none⟩ = some (.int .i64 0) := B1_4.c 1 (zD rfl)
 have c2_B1_2 : w4.cell? ⟨w.heap.size + 1, 2, none⟩ = some (.int .i64 0) := B1_4.c 2 (zD rfl)
 have g2_B1_0 := B1_4.f 0 (zD rfl)
 have g2_B1_1 := B1_4.f 1 (zD rfl)
 have g2_B1_2 := B1_4.f 2 (zD rfl)
 go_simp
 clear zH
 refine hK.out _ _ (((B0_4.new _ _ (by omega) _).new _ _ (by omega) _).new _ _ (by omega) _) (fun zH => ?_)
 clear hK K c2_B1_0 c2_B1_1 c2_B1_2 g2_B1_0 g2_B1_1 g2_B1_2
 refine wpAnyH_done (by kernel_rfl) ?_ _
 clear zH
 go_wp2
 have d0 := Arr.c (B1_4.put 0 (zD rfl) (.int .i64 r4.1.1) [.int .i64 r4.1.1, .int .i64 0, .int .i64 0] rfl) 0 (zD rfl)
 have d1 := Arr.c ((B1_4.put 0 (zD rfl) (.int .i64 r4.1.1) [.int .i64 r4.1.1, .int .i64 0, .int .i64 0] rfl).put 1 (zD rfl) (.int .i64 r4.1.2.1) [.int .i64 r4.1.1, .int .i64 r4.1.2.1, .int .i64 0] rfl) 1 (zD rfl)
 have d2 := Arr.c (((B1_4.put 0 (zD rfl) (.int .i64 r4.1.1) [.int .i64 r4.1.1, .int .i64 0, .int .i64 0] rfl).put 1 (zD rfl) (.int .i64 r4.1.2.1) [.int .i64 r4.1.1, .int .i64 r4.1.2.1, .int .i64 0] rfl).put 2 (zD rfl) (.int .i64 r4.1.2.2) [.int .i64 r4.1.1, .int .i64 r4.1.2.1, .int .i64 r4.1.2.2] rfl) 2 (zD rfl)
 refine bodyPost_ret (v := .agg #[.int .i64 r4.1.1, .int .i64 r4.1.2.1, .int .i64 r4.1.2.2]) (by simp [results, Tryz.results108, go_sem, d0, d1, d2]) rfl ?_
 have hs : vScaleS bad p k = (r4.1, r4.2) := by unfold vScaleS; simp only [E1.out, E2.out, E3.out, E4.out]
 rw [hs]
 exact ⟨rfl, (((f4.new _ _ (by omega) _).new _ _ (by omega) _).new _ _ (by omega) _), (((K4.new _ _ (by omega) _).new _ _ (by omega) _).new _ _ (by omega) _)⟩
theorem vNorm_any (b : Nat) (bad : Bool) (p : V3) (w : World) (hw : Fl b bad w) :
    Calls Tryz.prog 53 #[.pointer (some ⟨b, 0, none⟩), .agg #[.int .i64 p.1, .int .i64 p.2.1, .int .i64 p.2.2]] w fun e w' => e = .returned (.int .i64 ((vNormS bad p).1)) ∧ Fl b (vNormS bad p).2 w' ∧ Kept b w w' := by
 have hl := hw.lies
 go_enter Tryz.func53, Tryz.ntmps53
 go_wp2_with fail
 refine (Norm_any b bad p.1 p.2.1 p.2.2 _ (hw.alloc _)).mono ?_
 rintro e w1 ⟨rfl, f1, k1⟩
 generalize e1 : normS bad p.1 p.2.1 p.2.2 = r1 at f1 ⊢
 have E1 : Hid _ := e1
 clear e1
 have K1 : Kept b w w1 := Kept.trans ((Kept.refl b w).al _) k1
 have B0_1 : Arr w.heap.size [.int .i64 p.1, .int .i64 p.2.1, .int .i64 p.2.2] w1 := (Arr_at _ _ [.int .i64 p.1, .int .i64 p.2.1, .int .i64 p.2.2] _ (by simp)).kept k1 (by omega)
 have z1 := B0_1.lies
 clear k1
 go_wp2
 go_ret
 have hs : vNormS bad p = (r1.1, r1.2) := by unfold vNormS; simp only [E1.out]
 rw [hs]
 exact ⟨rfl, f1, K1⟩
theorem vUnit_any (b : Nat) (bad : Bool) (p : V3) (w : World) (hw : Fl b bad w) :
    Calls Tryz.prog 188 #[.pointer (some ⟨b, 0, none⟩), .agg #[.int .i64 p.1, .int .i64 p.2.1, .int .i64 p.2.2]] w fun e w' => e = .returned (.agg #[.int .i64 ((vUnitS bad p).1.1), .int .i64 ((vUnitS bad p).1.2.1), .int .i64 ((vUnitS bad p).1.2.2)]) ∧ Fl b (vUnitS bad p).2 w' ∧ Kept b w w' := by
 have hl := hw.lies
 go_enter Tryz.func188, Tryz.ntmps188
 go_wp2_with fail
 refine (vNorm_any b bad p _ ((hw.alloc _).alloc _)).mono ?_
 rintro e w1 ⟨rfl, f1, k1⟩
 generalize e1 : vNormS bad p = r1 at f1 ⊢
 have E1 : Hid _ := e1
 clear e1
 have K1 : Kept b w w1 := Kept.trans (((Kept.refl b w).al _).al _) k1
 have B0_1 : Arr w.heap.size [.int .i64 p.1, .int .i64 p.2.1, .int .i64 p.2.2] w1 := ((Arr_at _ _ [.int .i64 p.1, .int .i64 p.2.1, .int .i64 p.2.2] _ (by simp)).alloc _).kept k1 (by omega)
 have B1_1 : Arr (w.heap.size + 1) [.int .i64 0, .int .i64 0, .int .i64 0] w1 := (Arr_at _ _ [.int .i64 0, .int .i64 0, .int .i64 0] _ (by simp)).kept k1 (by omega)
 have z1 := B1_1.lies
 clear k1
 by_cases hc1 : r1.1 < 1048576
 ·have Hhc1 : Hid (r1.1 < 1048576) := hc1
  go_wp2_with fail
  refine (Fail_any b r1.2  _ f1).mono ?_
  rintro e w2 ⟨rfl, f2, k2⟩
  have K2 := Kept.trans K1 k2
  have B0_2 := B0_1.kept k2 (by omega)
  have B1_2 := B1_1.kept k2 (by omega)
  have z2 := B1_2.lies
  clear K1 f1 B0_1 B1_1 k2
  have c3_B1_0 : w2.cell? ⟨w.heap.size + 1, 0, none⟩ = some (.int .i64 0) := B1_2.c 0 (zD rfl)
  have c3_B1_1 : w2.cell? ⟨w.heap.size + 1, 1, none⟩ = some (.int .i64 0) := B1_2.c 1 (zD rfl)
  have c3_B1_2 : w2.cell? ⟨w.heap.size + 1, 2, none⟩ = some (.int .i64 0) := B1_2.c 2 (zD rfl)
  have g3_B1_0 := B1_2.f 0 (zD rfl)
  have g3_B1_1 := B1_2.f 1 (zD rfl)
  have g3_B1_2 := B1_2.f 2 (zD rfl)
  go_wp2
  clear c3_B1_0 c3_B1_1 c3_B1_2 g3_B1_0 g3_B1_1 g3_B1_2
  have d0 := Arr.c (B1_2.put 0 (zD rfl) (.int .i64 0) [.int .i64 0, .int .i64 0, .int .i64 0] rfl) 0 (zD rfl)
  have d1 := Arr.c ((B1_2.put 0 (zD rfl) (.int .i64 0) [.int .i64 0, .int .i64 0, .int .i64 0] rfl).put 1 (zD rfl) (.int .i64 0) [.int .i64 0, .int .i64 0, .int .i64 0] rfl) 1 (zD rfl)
  have d2 := Arr.c (((B1_2.put 0 (zD rfl) (.int .i64 0) [.int .i64 0, .int .i64 0, .int .i64 0] rfl).put 1 (zD rfl) (.int .i64 0) [.int .i64 0, .int .i64 0, .int .i64 0] rfl).put 2 (zD rfl) (.int .i64 0) [.int .i64 0, .int .i64 0, .int .i64 0] rfl) 2 (zD rfl)
  refine bodyPost_ret (v := .agg #[.int .i64 0, .int .i64 0, .int .i64 0]) (by simp [results, Tryz.results188, go_sem, d0, d1, d2]) rfl ?_
  have hs : vUnitS bad p = ((0, 0, 0), true) := by unfold vUnitS; simp only [E1.out]; rw [if_pos (by have := Hhc1.out; omega)]
  rw [hs]
  exact ⟨rfl, (((f2.new _ _ (by omega) _).new _ _ (by omega) _).new _ _ (by omega) _), (((K2.new _ _ (by omega) _).new _ _ (by omega) _).new _ _ (by omega) _)⟩
 ·have Hhc1 : Hid (¬ r1.1 < 1048576) := hc1
  go_wp2_with fail
  refine wp_region_held_drew (S := fun w' => Arr w.heap.size [.int .i64 p.1, .int .i64 p.2.1, .int .i64 p.2.2] w') (by kernel_rfl) B0_1.drew (fun zH => ?_)
  refine zT 0 rfl (by kernel_rfl) (fun _ _ _ => id) rfl (fun _ _ => by go_simp <;> with_reducible rfl) zH ?_
  simp only [Act.put, zA, zB, zC]
  refine zT 1 rfl (by kernel_rfl) (fun _ _ _ => id) rfl (fun _ _ => by go_simp <;> with_reducible rfl) zH ?_
  simp only [Act.put, zA, zB, zC]
  refine zT 2 rfl (by kernel_rfl) (fun _ _ _ => id) rfl (fun wx hS => by have hc0 : wx.cell? ⟨w.heap.size, 0, none⟩ = some (.int .i64 p.1) := hS.c 0 (zD rfl); go_simp <;> with_reducible rfl) zH ?_
  simp only [Act.put, zA, zB, zC]
  refine zT 3 rfl (by kernel_rfl) (fun _ _ _ => id) rfl (fun _ _ => by go_simp <;> with_reducible rfl) zH ?_
  simp only [Act.put, zA, zB, zC]
  refine zT 5 rfl (by kernel_rfl) (fun _ _ _ => id) rfl (fun _ _ => by go_simp <;> with_reducible rfl) zH ?_
  simp only [Act.put, zA, zB, zC]
  refine zT 6 rfl (by kernel_rfl) (fun _ _ _ => id) rfl (fun _ _ => by go_simp <;> with_reducible rfl) zH ?_
  simp only [Act.put, zA, zB, zC]
  refine zT 7 rfl (by kernel_rfl) (fun _ _ _ => id) rfl (fun wx hS => by have hc1 : wx.cell? ⟨w.heap.size, 1, none⟩ = some (.int .i64 p.2.1) := hS.c 1 (zD rfl); go_simp <;> with_reducible rfl) zH ?_
  simp only [Act.put, zA, zB, zC]
  refine zT 8 rfl (by kernel_rfl) (fun _ _ _ => id) rfl (fun _ _ => by go_simp <;> with_reducible rfl) zH ?_
  simp only [Act.put, zA, zB, zC]
  refine zT 10 rfl (by kernel_rfl) (fun _ _ _ => id) rfl (fun _ _ => by go_simp <;> with_reducible rfl) zH ?_
  simp only [Act.put, zA, zB, zC]
  refine zT 11 rfl (by kernel_rfl) (fun _ _ _ => id) rfl (fun _ _ => by go_simp <;> with_reducible rfl) zH ?_
  simp only [Act.put, zA, zB, zC]
  refine zT 12 rfl (by kernel_rfl) (fun _ _ _ => id) rfl (fun wx hS => by have hc2 : wx.cell? ⟨w.heap.size, 2, none⟩ = some (.int .i64 p.2.2) := hS.c 2 (zD rfl); go_simp <;> with_reducible rfl) zH ?_
  simp only [Act.put, zA, zB, zC]
  refine zT 13 rfl (by kernel_rfl) (fun _ _ _ => id) rfl (fun _ _ => by go_simp <;> with_reducible rfl) zH ?_
  simp only [Act.put, zA, zB, zC]
  refine zK 4 (by kernel_rfl) rfl (fun K hK => ?_)
  go_simp
  refine (Div_any b r1.2 p.1 r1.1 _ f1.drew).mono ?_
  rintro e w2 ⟨rfl, f2, k2⟩
  generalize e2 : divS r1.2 p.1 r1.1 = r2 at f2 ⊢
  have E2 : Hid _ := e2
  clear e2
  have K2 : Kept b w w2 := Kept.trans K1.drew k2
  have B0_2 := B0_1.drew.kept k2 (by omega)
  have B1_2 := B1_1.drew.kept k2 (by omega)
  have z2 := B1_2.lies
  clear zH
  refine hK.out _ _ B0_2 (fun zH => ?_)
  clear hK K K1 f1 B0_1 B1_1 k2
  refine zK 9 (by kernel_rfl) rfl (fun K hK => ?_)
  go_simp
  refine (Div_any b r2.2 p.2.1 r1.1 _ f2).mono ?_
  rintro e w3 ⟨rfl, f3, k3⟩
  generalize e3 : divS r2.2 p.2.1 r1.1 = r3 at f3 ⊢
  have E3 : Hid _ := e3
  clear e3
  have K3 := Kept.trans K2 k3
  have B0_3 := B0_2.kept k3 (by omega)
  have B1_3 := B1_2.kept k3 (by omega)
  have z3 := B1_3.lies
  clear zH
  refine hK.out _ _ B0_3 (fun zH => ?_)
  clear hK K K2 f2 B0_2 B1_2 k3
  refine zK 14 (by kernel_rfl) rfl (fun K hK => ?_)
  go_simp
  refine (Div_any b r3.2 p.2.2 r1.1 _ f3).mono ?_
  rintro e w4 ⟨rfl, f4, k4⟩
  generalize e4 : divS r3.2 p.2.2 r1.1 = r4 at f4 ⊢
  have E4 : Hid _ := e4
  clear e4
  have K4 := Kept.trans K3 k4
  have B0_4 := B0_3.kept k4 (by omega)
  have B1_4 := B1_3.kept k4 (by omega)
  have z4 := B1_4.lies
  clear zH
  refine hK.out _ _ B0_4 (fun zH => ?_)
  clear hK K K3 f3 B0_3 B1_3 k4
  refine zT 15 rfl (by kernel_rfl) (fun _ _ _ => id) rfl (fun _ _ => by go_simp <;> with_reducible rfl) zH ?_
  simp only [Act.put, zA, zB, zC]
  refine zK 16 (by kernel_rfl) rfl (fun K hK => ?_)
  have c3_B1_0 : w4.cell? ⟨w.heap.size + 1, 0, none⟩ = some (.int .i64 0) := B1_4.c 0 (zD rfl)
  have c3_B1_1 : w4.cell? ⟨w.heap.size + 1, 1, none⟩ = some (.int .i64 0) := B1_4.c 1 (zD rfl)
  have c3_B1_2 : w4.cell? ⟨w.heap.size + 1, 2, none⟩ = some (.int .i64 0) := B1_4.c 2 (zD rfl)
  have g3_B1_0 := B1_4.f 0 (zD rfl)
  have g3_B1_1 := B1_4.f 1 (zD rfl)
  have g3_B1_2 := B1_4.f 2 (zD rfl)
  go_simp
  clear zH
  refine hK.out _ _ (((B0_4.new _ _ (by omega) _).new _ _ (by omega) _).new _ _ (by omega) _) (fun zH => ?_)
  clear hK K c3_B1_0 c3_B1_1 c3_B1_2 g3_B1_0 g3_B1_1 g3_B1_2
  refine wpAnyH_done (by kernel_rfl) ?_ _
  clear zH
  go_wp2
  have d0 := Arr.c (B1_4.put 0 (zD rfl) (.int .i64 r2.1) [.int .i64 r2.1, .int .i64 0, .int .i64 0] rfl) 0 (zD rfl)
  have d1 := Arr.c ((B1_4.put 0 (zD rfl) (.int .i64 r2.1) [.int .i64 r2.1, .int .i64 0, .int .i64 0] rfl).put 1 (zD rfl) (.int .i64 r3.1) [.int .i64 r2.1, .int .i64 r3.1, .int .i64 0] rfl) 1 (zD rfl)
  have d2 := Arr.c (((B1_4.put 0 (zD rfl) (.int .i64 r2.1) [.int .i64 r2.1, .int .i64 0, .int .i64 0] rfl).put 1 (zD rfl) (.int .i64 r3.1) [.int .i64 r2.1, .int .i64 r3.1, .int .i64 0] rfl).put 2 (zD rfl) (.int .i64 r4.1) [.int .i64 r2.1, .int .i64 r3.1, .int .i64 r4.1] rfl) 2 (zD rfl)
  refine bodyPost_ret (v := .agg #[.int .i64 r2.1, .int .i64 r3.1, .int .i64 r4.1]) (by simp [results, Tryz.results188, go_sem, d0, d1, d2]) rfl ?_
  have hs : vUnitS bad p = ((r2.1, r3.1, r4.1), r4.2) := by unfold vUnitS; simp only [E1.out, E2.out, E3.out, E4.out]; rw [if_neg (by have := Hhc1.out; omega)]
  rw [hs]
  exact ⟨rfl, (((f4.new _ _ (by omega) _).new _ _ (by omega) _).new _ _ (by omega) _), (((K4.new _ _ (by omega) _).new _ _ (by omega) _).new _ _ (by omega) _)⟩
end Go.Proofs.YtbophanlmkbfeaaGreatDoor
namespace Go.Proofs.YtbophanlmkbfeaaGreatDoor
open Go.RowKit
def predCt (P : Program) (fn : Nat) {A : Type} (d : Dl A) (S : A → (Value → Prop) → Prop) (mono : ∀ x K K', (∀ v, K v → K' v) → S x K → S x K') (go : ∀ (args : Array Value) (w : World), (callFunc fn args).run P w = .ok (.enter fn args) w)
    (h : ∀ x w, GW w → ∀ K, S x K → Calls P fn (d.enc x).toArray w fun e w' => ∃ v, e = .returned v ∧ isP v = false ∧ K v ∧ Below w.heap.size w w') : Ct P where
 fn := fn
 sp := fun args m K => match d.dec args with
  | some x => S x (fun v => K v m)
  | none => False
 go := go
 mono := fun hK hs => by
  split at hs
  ·exact mono _ _ _ (fun v hv => hK v _ hv) hs
  ·exact hs
 keep := fun {args m K} hs => by
  split at hs
  ·exact mono _ _ _ (fun v hv => ⟨hv, rfl, fun _ _ => rfl⟩) hs
  ·exact hs
 ok := fun {bs w0 bl m w args args' K} R hlen hv hs => by
  split at hs
  ·rename_i x hd
   have hl := d.law _ _ hd
   rw [args_same hlen hv (by rw [hl]; exact d.np x), hl]
   refine Calls.mono (h x w R.gwAt _ hs) ?_
   rintro e w' ⟨v, rfl, hp, hk, Kp⟩
   exact ⟨_, _, _, rfl, .same hp, hk, R.pure Kp⟩
  ·exact hs.elim
def Pla (s : ByteArray) (i : Int) : Prop := 0 ≤ i ∧ i < 100 ∧ 2 * i.toNat + 1 < s.size
def sgnCt : Ct Tryz.prog := predCt Tryz.prog 225 (then' cS (lone' cI)) (fun x K => Pla x.1 x.2 ∧ K (.int .i64 (sg (cnt x.1 (2 * x.2.toNat))))) (fun _ _ _ hK hs => ⟨hs.1, hK _ hs.2⟩) (go_of Tryz.func225 (by kernel_rfl) (by kernel_rfl))
 (fun x w _ K hs => Calls.mono (ssigned_any x.1 x.2 x.2.toNat w (by have := hs.1.1; omega) hs.1.2.2 (by have := hs.1.2.1; omega)) (by rintro e w' ⟨rfl, hb⟩; exact ⟨_, rfl, rfl, hs.2, hb⟩))
def plnCt : Ct Tryz.prog := predCt Tryz.prog 226 (then' cS (lone' cI)) (fun x K => Pla x.1 x.2 ∧ K (.int .i64 (cnt x.1 (2 * x.2.toNat) : Nat))) (fun _ _ _ hK hs => ⟨hs.1, hK _ hs.2⟩) (go_of Tryz.func226 (by kernel_rfl) (by kernel_rfl))
 (fun x w _ K hs => Calls.mono (splain_any x.1 x.2 x.2.toNat w (by have := hs.1.1; omega) hs.1.2.2 (by have := hs.1.2.1; omega)) (by rintro e w' ⟨rfl, hb⟩; exact ⟨_, rfl, rfl, hs.2, hb⟩))
def normCt : Ct Tryz.prog := flowCt Tryz.prog 53 (lone' (cT 3)) (fun bad x => vNormS bad (x.1, x.2.1, x.2.2.1)) cI (go_of Tryz.func53 (by kernel_rfl) (by kernel_rfl)) (fun b bad x w _ _ hw => vNorm_any b bad (x.1, x.2.1, x.2.2.1) w hw)
def unitCt : Ct Tryz.prog := flowCt Tryz.prog 188 (lone' (cT 3)) (fun bad x => (((vUnitS bad (x.1, x.2.1, x.2.2.1)).1.1, (vUnitS bad (x.1, x.2.1, x.2.2.1)).1.2.1, (vUnitS bad (x.1, x.2.1, x.2.2.1)).1.2.2, ()), (vUnitS bad (x.1, x.2.1, x.2.2.1)).2)) (cT 3) (go_of Tryz.func188 (by kernel_rfl) (by kernel_rfl)) (fun b bad x w _ _ hw => vUnit_any b bad (x.1, x.2.1, x.2.2.1) w hw)
def v3T (v : V3) : Tup 3 := (v.1, v.2.1, v.2.2, ())
abbrev kSaid : Dc (Tup 3 × Bool) := two' (cT 3) cB
def ratT (s : ByteArray) (i : Int) (A C : Prop) : Prop := Pla s i ∧ vif (decide (sg (cnt s (2 * i.toNat)) > 30000)) A (vif (decide (sg (cnt s (2 * i.toNat)) < -30000)) A C)
theorem ratT_of {s : ByteArray} {i : Int} {A C : Prop} (hp : Pla s i) (hA : ¬ (-30000 ≤ sg (cnt s (2 * i.toNat)) ∧ sg (cnt s (2 * i.toNat)) ≤ 30000) → A) (hC : -30000 ≤ sg (cnt s (2 * i.toNat)) ∧ sg (cnt s (2 * i.toNat)) ≤ 30000 → C) : ratT s i A C := by
 refine ⟨hp, ?_⟩
 by_cases h1 : sg (cnt s (2 * i.toNat)) > 30000
 ·rw [decide_eq_true h1]; exact hA (by omega)
 ·rw [decide_eq_false h1]
  by_cases h2 : sg (cnt s (2 * i.toNat)) < -30000
  ·rw [decide_eq_true h2]; exact hA (by omega)
  ·rw [decide_eq_false h2]; exact hC ⟨by omega, by omega⟩
set_option maxRecDepth 100000 in
theorem rates_at (s : ByteArray) (h : 6 ≤ s.size) (w : World) (hw : GW w) : Calls Tryz.prog 204 ((lone' cS).enc s).toArray w fun e w' => e = .returned (kSaid.enc (v3T (if gyroOk (sg (cnt s 0)) (sg (cnt s 2)) (sg (cnt s 4)) then gyroV (sg (cnt s 0)) (sg (cnt s 2)) (sg (cnt s 4)) else (0, 0, 0)), gyroOk (sg (cnt s 0)) (sg (cnt s 2)) (sg (cnt s 4)))) ∧ Below w.heap.size w w' := by
 refine pure_at (d := lone' cS) (k := kSaid) (x := s) (y := (v3T (if gyroOk (sg (cnt s 0)) (sg (cnt s 2)) (sg (cnt s 4)) then gyroV (sg (cnt s 0)) (sg (cnt s 2)) (sg (cnt s 4)) else (0, 0, 0)), gyroOk (sg (cnt s 0)) (sg (cnt s 2)) (sg (cnt s 4)))) (tbl := [sgnCt]) (dirty := fun _ => []) (n := 5) xmixA Tryz.func204 rfl (fun Post hP => ?_) w hw
 refine Eq.mpr (β := ratT s 0 (PJ kSaid Post ((0, 0, 0, ()), false)) (ratT s 1 (PJ kSaid Post ((0, 0, 0, ()), false)) (ratT s 2 (PJ kSaid Post ((0, 0, 0, ()), false)) (PJ kSaid Post ((IntKind.i64.wrap (sg (cnt s (2 * (0 : Int).toNat)) * 33554432), IntKind.i64.wrap (sg (cnt s (2 * (1 : Int).toNat)) * 33554432), IntKind.i64.wrap (sg (cnt s (2 * (2 : Int).toNat)) * 33554432), ()), true))))) (by kernel_rfl) ?_
 have key : ∀ a b c : Int, ¬ (gyroOk a b c = true) → PJ kSaid Post (v3T (if gyroOk a b c then gyroV a b c else (0, 0, 0)), gyroOk a b c) → PJ kSaid Post ((0, 0, 0, ()), false) := by
  intro a b c hn hq
  rw [if_neg hn, Bool.eq_false_iff.2 hn] at hq
  exact hq
 have hok : ∀ a b c : Int, gyroOk a b c = true ↔ ((-30000 ≤ a ∧ a ≤ 30000) ∧ (-30000 ≤ b ∧ b ≤ 30000)) ∧ (-30000 ≤ c ∧ c ≤ 30000) := by
  intro a b c
  unfold gyroOk gyroIn
  simp
 refine ratT_of ⟨by decide, by decide, by show 2 * 0 + 1 < s.size; omega⟩ (fun hn => key _ _ _ (fun k => hn ((hok _ _ _).1 k).1.1) hP) (fun h0 => ?_)
 refine ratT_of ⟨by decide, by decide, by show 2 * 1 + 1 < s.size; omega⟩ (fun hn => key _ _ _ (fun k => hn ((hok _ _ _).1 k).1.2) hP) (fun h1 => ?_)
 refine ratT_of ⟨by decide, by decide, by show 2 * 2 + 1 < s.size; omega⟩ (fun hn => key _ _ _ (fun k => hn ((hok _ _ _).1 k).2) hP) (fun h2 => ?_)
 have hg : gyroOk (sg (cnt s 0)) (sg (cnt s 2)) (sg (cnt s 4)) = true := (hok _ _ _).2 ⟨⟨h0, h1⟩, h2⟩
 rw [if_pos hg, hg] at hP
 have e : ∀ x : Int, -30000 ≤ x ∧ x ≤ 30000 → IntKind.i64.wrap (x * 33554432) = x * 33554432 := fun x hx => by
  rw [IntKind.wrap_i64]
  omega
 rw [e _ h0, e _ h1, e _ h2]
 exact hP
set_option maxRecDepth 100000 in
theorem strength_at (s : ByteArray) (h : 6 ≤ s.size) (w : World) (hw : GW w) : Calls Tryz.prog 205 ((lone' cS).enc s).toArray w fun e w' => e = .returned (kSaid.enc (v3T (magS (sg (cnt s 0)) (sg (cnt s 2)) (sg (cnt s 4))).1, magOk (sg (cnt s 0)) (sg (cnt s 2)) (sg (cnt s 4)))) ∧ Below w.heap.size w w' := by
 refine pure_at (d := lone' cS) (k := kSaid) (x := s) (y := (v3T (magS (sg (cnt s 0)) (sg (cnt s 2)) (sg (cnt s 4))).1, magOk (sg (cnt s 0)) (sg (cnt s 2)) (sg (cnt s 4)))) (tbl := [sgnCt, tlPart, normCt]) (dirty := fun _ => []) (n := 5) xmixA Tryz.func205 rfl (fun Post hP => ?_) w hw
 refine Eq.mpr (β := Pla s 0 ∧ Pla s 1 ∧ Pla s 2 ∧ vif (decide (1099511627776 ≤ magN (sg (cnt s 0)) (sg (cnt s 2)) (sg (cnt s 4)))) (PJ kSaid Post (v3T (magS (sg (cnt s 0)) (sg (cnt s 2)) (sg (cnt s 4))).1, decide (magN (sg (cnt s 0)) (sg (cnt s 2)) (sg (cnt s 4)) ≤ 131941395333120))) (PJ kSaid Post (v3T (magS (sg (cnt s 0)) (sg (cnt s 2)) (sg (cnt s 4))).1, false))) (by kernel_rfl) ?_
 refine ⟨⟨by decide, by decide, by show 2 * 0 + 1 < s.size; omega⟩, ⟨by decide, by decide, by show 2 * 1 + 1 < s.size; omega⟩, ⟨by decide, by decide, by show 2 * 2 + 1 < s.size; omega⟩, ?_⟩
 unfold magOk at hP
 cases k : decide (1099511627776 ≤ magN (sg (cnt s 0)) (sg (cnt s 2)) (sg (cnt s 4)))
 ·rw [k] at hP
  exact hP
 ·rw [k] at hP
  exact hP
def dirR (s : ByteArray) (i j : Int) (seen : Bool) (C : Bool → Prop) : Prop := Pla s i ∧ Pla s j ∧ vif seen (C true) (vif (decide (((cnt s (2 * i.toNat) : Nat) : Int) ≥ 2000)) (C true) (C (decide (((cnt s (2 * j.toNat) : Nat) : Int) ≥ 2000))))
theorem dirR_of {s : ByteArray} {i j : Int} {seen : Bool} {C : Bool → Prop} (hi : Pla s i) (hj : Pla s j) (h : C (seen || decide (((cnt s (2 * i.toNat) : Nat) : Int) ≥ 2000) || decide (((cnt s (2 * j.toNat) : Nat) : Int) ≥ 2000))) : dirR s i j seen C := by
 refine ⟨hi, hj, ?_⟩
 cases seen
 ·cases k : decide (((cnt s (2 * i.toNat) : Nat) : Int) ≥ 2000)
  ·rw [k] at h
   exact h
  ·rw [k] at h
   exact h
 ·exact h
def dirV (s : ByteArray) : V3 := (IntKind.i64.wrap (IntKind.i64.wrap (((cnt s (2 * (0 : Int).toNat) : Nat) : Int) - ((cnt s (2 * (1 : Int).toNat) : Nat) : Int)) * 16777216), IntKind.i64.wrap (IntKind.i64.wrap (((cnt s (2 * (2 : Int).toNat) : Nat) : Int) - ((cnt s (2 * (3 : Int).toNat) : Nat) : Int)) * 16777216), IntKind.i64.wrap (IntKind.i64.wrap (((cnt s (2 * (4 : Int).toNat) : Nat) : Int) - ((cnt s (2 * (5 : Int).toNat) : Nat) : Int)) * 16777216))
def dirE (s : ByteArray) (Post : Value → Prop) (b : Bool) : Prop := vif (!b) (PJ kSaid Post ((0, 0, 0, ()), false)) (PJ kSaid Post (v3T (vUnitS false (dirV s)).1, !(vUnitS false (dirV s)).2))
set_option maxRecDepth 100000 in
theorem direction_at (s : ByteArray) (h : 12 ≤ s.size) (w : World) (hw : GW w) : Calls Tryz.prog 206 ((lone' cS).enc s).toArray w fun e w' => e = .returned (kSaid.enc (v3T (if lit (cnt s 0 : Nat) (cnt s 2 : Nat) (cnt s 4 : Nat) (cnt s 6 : Nat) (cnt s 8 : Nat) (cnt s 10 : Nat) then (sunS (cnt s 0 : Nat) (cnt s 2 : Nat) (cnt s 4 : Nat) (cnt s 6 : Nat) (cnt s 8 : Nat) (cnt s 10 : Nat)).1 else (0, 0, 0)), sunOk (cnt s 0 : Nat) (cnt s 2 : Nat) (cnt s 4 : Nat) (cnt s 6 : Nat) (cnt s 8 : Nat) (cnt s 10 : Nat))) ∧ Below w.heap.size w w' := by
 refine pure_at (d := lone' cS) (k := kSaid) (x := s) (y := (v3T (if lit (cnt s 0 : Nat) (cnt s 2 : Nat) (cnt s 4 : Nat) (cnt s 6 : Nat) (cnt s 8 : Nat) (cnt s 10 : Nat) then (sunS (cnt s 0 : Nat) (cnt s 2 : Nat) (cnt s 4 : Nat) (cnt s 6 : Nat) (cnt s 8 : Nat) (cnt s 10 : Nat)).1 else (0, 0, 0)), sunOk (cnt s 0 : Nat) (cnt s 2 : Nat) (cnt s 4 : Nat) (cnt s 6 : Nat) (cnt s 8 : Nat) (cnt s 10 : Nat))) (tbl := [plnCt, unitCt]) (dirty := fun i => if i = 14 then [1002] else []) (n := 5) xmixA Tryz.func206 rfl (fun Post hP => ?_) w hw
 refine Eq.mpr (β := dirR s 0 1 false fun b => dirR s 2 3 b fun b => dirR s 4 5 b fun b => dirE s Post b) (by kernel_rfl) ?_
 have pl : ∀ i : Nat, i < 6 → Pla s i := fun i hi => ⟨by omega, by omega, by rw [Int.toNat_natCast]; omega⟩
 refine dirR_of (pl 0 (by decide)) (pl 1 (by decide)) (dirR_of (pl 2 (by decide)) (pl 3 (by decide)) (dirR_of (pl 4 (by decide)) (pl 5 (by decide)) ?_))
 have hv : dirV s = sunD (cnt s 0 : Nat) (cnt s 2 : Nat) (cnt s 4 : Nat) (cnt s 6 : Nat) (cnt s 8 : Nat) (cnt s 10 : Nat) := by
  have e : ∀ a b : Nat, a < 65536 → b < 65536 → IntKind.i64.wrap (IntKind.i64.wrap ((a : Int) - (b : Int)) * 16777216) = ((a : Int) - b) * 16777216 := fun a b ha hb => by
   rw [IntKind.wrap_i64, IntKind.wrap_i64]
   omega
  unfold dirV sunD
  rw [e _ _ (cnt_lt _ _) (cnt_lt _ _), e _ _ (cnt_lt _ _) (cnt_lt _ _), e _ _ (cnt_lt _ _) (cnt_lt _ _)]
  rfl
 have hb : (false || decide (((cnt s (2 * (0 : Int).toNat) : Nat) : Int) ≥ 2000) || decide (((cnt s (2 * (1 : Int).toNat) : Nat) : Int) ≥ 2000) || decide (((cnt s (2 * (2 : Int).toNat) : Nat) : Int) ≥ 2000) || decide (((cnt s (2 * (3 : Int).toNat) : Nat) : Int) ≥ 2000) || decide (((cnt s (2 * (4 : Int).toNat) : Nat) : Int) ≥ 2000) || decide (((cnt s (2 * (5 : Int).toNat) : Nat) : Int) ≥ 2000)) = lit (cnt s 0 : Nat) (cnt s 2 : Nat) (cnt s 4 : Nat) (cnt s 6 : Nat) (cnt s 8 : Nat) (cnt s 10 : Nat) := rfl
 rw [hb]
 unfold dirE
 rw [hv]
 unfold sunOk at hP
 cases k : lit (cnt s 0 : Nat) (cnt s 2 : Nat) (cnt s 4 : Nat) (cnt s 6 : Nat) (cnt s 8 : Nat) (cnt s 10 : Nat)
 ·rw [k] at hP
  exact hP
 ·rw [k] at hP
  exact hP
set_option maxRecDepth 100000 in
theorem said_by {k : Int} {s : ByteArray} {y : Tup 3 × Bool} (w : World) (hw : GW w)
    (h : (k = 1 ∧ ∀ w, GW w → Calls Tryz.prog 204 ((lone' cS).enc s).toArray w fun e w' => e = .returned (kSaid.enc y) ∧ Below w.heap.size w w') ∨ (k = 3 ∧ ∀ w, GW w → Calls Tryz.prog 205 ((lone' cS).enc s).toArray w fun e w' => e = .returned (kSaid.enc y) ∧ Below w.heap.size w w') ∨ ((k ≠ 1 ∧ k ≠ 3) ∧ ∀ w, GW w → Calls Tryz.prog 206 ((lone' cS).enc s).toArray w fun e w' => e = .returned (kSaid.enc y) ∧ Below w.heap.size w w')) :
    Calls Tryz.prog 148 ((then' cI (lone' cS)).enc (k, s)).toArray w fun e w' => e = .returned (kSaid.enc y) ∧ Below w.heap.size w w' := by
 rcases h with ⟨rfl, h⟩ | ⟨rfl, h⟩ | ⟨⟨n1, n3⟩, h⟩
 ·refine pure_at (d := then' cI (lone' cS)) (k := kSaid) (x := (1, s)) (y := y) (tbl := [ctAt Tryz.prog 204 (lone' cS) kSaid s y (go_of Tryz.func204 (by kernel_rfl) (by kernel_rfl)) h]) (dirty := fun _ => []) (n := 4) xmixA Tryz.func148 rfl (fun Post hP => ?_) w hw
  exact Eq.mpr (β := (lone' cS).enc s = (lone' cS).enc s ∧ PJ kSaid Post y) (by kernel_rfl) ⟨rfl, hP⟩
 ·refine pure_at (d := then' cI (lone' cS)) (k := kSaid) (x := (3, s)) (y := y) (tbl := [ctAt Tryz.prog 205 (lone' cS) kSaid s y (go_of Tryz.func205 (by kernel_rfl) (by kernel_rfl)) h]) (dirty := fun _ => []) (n := 4) xmixA Tryz.func148 rfl (fun Post hP => ?_) w hw
  exact Eq.mpr (β := (lone' cS).enc s = (lone' cS).enc s ∧ PJ kSaid Post y) (by kernel_rfl) ⟨rfl, hP⟩
 ·refine pure_at (d := then' cI (lone' cS)) (k := kSaid) (x := (k, s)) (y := y) (tbl := [ctAt Tryz.prog 206 (lone' cS) kSaid s y (go_of Tryz.func206 (by kernel_rfl) (by kernel_rfl)) h]) (dirty := fun _ => []) (n := 4) xmixA Tryz.func148 rfl (fun Post hP => ?_) w hw
  refine Eq.mpr (β := vif (decide (k = 1)) False (vif (decide (k = 3)) False ((lone' cS).enc s = (lone' cS).enc s ∧ PJ kSaid Post y))) (by kernel_rfl) ?_
  rw [decide_eq_false n1, decide_eq_false n3]
  exact ⟨rfl, hP⟩
def vecV (v : V3) : Value := .agg #[.int .i64 v.1, .int .i64 v.2.1, .int .i64 v.2.2]
def gyroS (a b c : Int) : V3 := if gyroOk a b c then gyroV a b c else (0, 0, 0)
def sunR (a b c d e f : Int) : V3 := if lit a b c d e f then (sunS a b c d e f).1 else (0, 0, 0)
def saidR (k : Int) (s : ByteArray) : V3 :=
 if k = 1 then gyroS (sg (cnt s 0)) (sg (cnt s 2)) (sg (cnt s 4))
 else if k = 3 then (magS (sg (cnt s 0)) (sg (cnt s 2)) (sg (cnt s 4))).1
 else sunR (cnt s 0 : Nat) (cnt s 2 : Nat) (cnt s 4 : Nat) (cnt s 6 : Nat) (cnt s 8 : Nat) (cnt s 10 : Nat)
theorem ssaid_any (k : Int) (s : ByteArray) (w : World) (hw : GW w) (h : 6 ≤ s.size) (h2 : k ≠ 1 → k ≠ 3 → 12 ≤ s.size) :
    Calls Tryz.prog 148 #[.int .i64 k, .string s] w fun e w' => e = .returned (.tuple #[vecV (saidR k s), .bool (saidOk k s 0)]) ∧ Below w.heap.size w w' := by
 refine said_by (k := k) (s := s) (y := (v3T (saidR k s), saidOk k s 0)) w hw ?_
 unfold saidR saidOk
 by_cases c1 : k = 1
 ·rw [if_pos c1, if_pos c1]
  exact .inl ⟨c1, rates_at s h⟩
 rw [if_neg c1, if_neg c1]
 by_cases c3 : k = 3
 ·rw [if_pos c3, if_pos c3]
  exact .inr (.inl ⟨c3, strength_at s h⟩)
 rw [if_neg c3, if_neg c3]
 exact .inr (.inr ⟨⟨c1, c3⟩, direction_at s (h2 c1 c3)⟩)
end Go.Proofs.YtbophanlmkbfeaaGreatDoor
