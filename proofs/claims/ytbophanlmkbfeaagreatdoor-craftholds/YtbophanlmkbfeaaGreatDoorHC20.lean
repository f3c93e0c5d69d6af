/-
A part.
A part.
A part.
A part.
A part.
A part.
A part.
A part.
A part.
A part.
A part.
A part.
A part.
A part.
-/
import Derived.Deep.RegionWith
import Derived.Test.YtbophanlmkbfeaaGreatDoorHC19
import Derived.Test.YtbophanlmkbfeaaGreatDoorHC17
import Derived.Test.YtbophanlmkbfeaaGreatDoorHC14
import Derived.Test.YtbophanlmkbfeaaGreatDoorHC01
import Derived.Test.YtbophanlmkbfeaaGreatDoorHC16
import Derived.Test.YtbophanlmkbfeaaGreatDoorHC11
namespace Go.Proofs.YtbophanlmkbfeaaGreatDoor
open Go.RowKit
set_option maxRecDepth 100000
set_option maxHeartbeats 20000000
theorem saidR_ok {k : Int} {s : ByteArray} (h : saidOk k s 0 = true) : saidR k s = saidV k s 0 := by
 unfold saidOk at h
 unfold saidR saidV
 by_cases c1 : k = 1
 ·rw [if_pos c1] at h ⊢
  rw [if_pos c1]
  unfold gyroS
  rw [if_pos h]
 rw [if_neg c1] at h ⊢
 rw [if_neg c1]
 by_cases c3 : k = 3
 ·rw [if_pos c3, if_pos c3]
 rw [if_neg c3] at h ⊢
 rw [if_neg c3]
 unfold sunOk at h
 unfold sunR
 rw [if_pos (by simp at h; exact h.1)]
theorem saidV_tail (k : Int) (s : ByteArray) : saidV k (s.extract 6 s.size) 0 = saidV k s 6 := by
 unfold saidV
 simp only [cnt_tail]
theorem saidOk_tail (k : Int) (s : ByteArray) : saidOk k (s.extract 6 s.size) 0 = saidOk k s 6 := by
 unfold saidOk
 simp only [cnt_tail]
theorem kc {W x : World} (h : Below W.heap.size W x) (b j : Nat) (hb : b < W.heap.size) : x.cell? ⟨b, j, none⟩ = W.cell? ⟨b, j, none⟩ := h.cell hb
theorem kf {W x : World} (h : Below W.heap.size W x) (b j : Nat) (hb : b < W.heap.size) : x.frozen? ⟨b, j, none⟩ = W.frozen? ⟨b, j, none⟩ := h.frozen hb
def rdV (r : Int × Int × V3) : Value := .agg #[.int .i64 r.1, .int .i64 r.2.1, .int .i64 r.2.2.1, .int .i64 r.2.2.2.1, .int .i64 r.2.2.2.2]
theorem sread_not (k : Int) (s : ByteArray) (w : World) (hm : s.size ≤ maxLen) (hf : formOk k s = false) :
    Calls Tryz.prog 83 #[.agg #[.int .i64 k, .string s]] w fun e w' => e = .returned (.tuple #[rdV (0, 0, 0, 0, 0), .bool false]) ∧ Below w.heap.size w w' := by
 have hc := scounts_any k
 by_cases c0 : nCounts k = 0
 ·rw [c0] at hc
  go_enter Tryz.func83, Tryz.ntmps83
  go_wp2_with fail
  refine (hc _).mono ?_
  rintro e X ⟨rfl, rfl⟩
  go_wp2_with (with_reducible refine post_stop ?_)
  exact ⟨bodyPost_ret (v := .tuple #[rdV (0, 0, 0, 0, 0), .bool false]) (by unfold rdV; simp [results_cell_tmp Tryz.results83, asAddr, go_sem]) rfl ⟨rfl, bel_al (bel_al (Below.refl _ _) _) _⟩⟩
 ·have hs : ((s.size : Int) != 6 + nCounts k * 2) = true := by
   unfold formOk at hf
   unfold nCounts at c0 ⊢
   simp at hf
   simp
   split
   ·omega
   ·split
    ·omega
    ·omega
  have hn : 0 ≤ nCounts k ∧ nCounts k ≤ 6 := by unfold nCounts; split <;> (try split) <;> omega
  have hm' : (s.size : Int) ≤ 9223372036854775807 := by unfold maxLen at hm; omega
  have c1 : (nCounts k == 0) = false := by simpa using c0
  clear hf c0 hm
  generalize nCounts k = n at *
  go_enter Tryz.func83, Tryz.ntmps83
  go_wp2_with fail
  refine (hc _).mono ?_
  rintro e X ⟨rfl, rfl⟩
  go_wp2_with (with_reducible refine post_stop ?_)
  exact ⟨bodyPost_ret (v := .tuple #[rdV (0, 0, 0, 0, 0), .bool false]) (by unfold rdV; simp [results_cell_tmp Tryz.results83, asAddr, go_sem]) rfl ⟨rfl, bel_al (bel_al (Below.refl _ _) _) _⟩⟩
theorem sread_form (k : Int) (s : ByteArray) (w : World) (hw : GW w) (hf : formOk k s = true) :
    Calls Tryz.prog 83 #[.agg #[.int .i64 k, .string s]] w fun e w' => e = .returned (.tuple #[rdV (readR k s), .bool (readOk k s)]) ∧ Below w.heap.size w w' := by
 have hc := scounts_any k
 have hz : s.size = 12 ∧ nCounts k = 3 ∧ (k = 1 ∨ k = 3) ∨ s.size = 18 ∧ nCounts k = 6 ∧ k = 2 := by
  unfold formOk at hf
  simp at hf
  rcases hf with (⟨rfl, h⟩ | ⟨rfl, h⟩) | ⟨rfl, h⟩
  ·exact Or.inl ⟨h, rfl, Or.inl rfl⟩
  ·exact Or.inl ⟨h, rfl, Or.inr rfl⟩
  ·exact Or.inr ⟨h, rfl, rfl⟩
 have hsl : ∀ W : World, (Instr.slice 9 (.string s) none (some (.int .i64 6)) none).run Tryz.prog W = .ok (.string (s.extract 0 6)) W := fun W => by
  rw [run_slice_string_h W 9 s Tryz.underlying9 .i64 6 (by omega) (by omega)]
  rfl
 have hsr : ∀ W : World, (Instr.slice 9 (.string s) (some (.int .i64 6)) none none).run Tryz.prog W = .ok (.string (s.extract 6 s.size)) W := fun W => by
  rw [run_slice_string_from_if W 9 s .i64 6 Tryz.underlying9, if_pos (by omega)]
  rfl
 have z6 : (s.extract 0 6).size = 6 := by rw [ByteArray.size_extract]; omega
 have zr : (s.extract 6 s.size).size = s.size - 6 := by rw [ByteArray.size_extract]; omega
 have hj := fun W => sjoined_any (s.extract 0 6) W z6
 rw [tick_head] at hj
 have hd := fun W hW => ssaid_any k (s.extract 6 s.size) W hW (by omega) (by omega)
 rw [saidOk_tail] at hd
 have HV : Hid (saidOk k s 6 = true → saidR k (s.extract 6 s.size) = saidV k s 6) := fun h => by
  rw [← saidOk_tail] at h
  rw [saidR_ok h, saidV_tail]
 have HO : Hid (readOk k s = (cRight (tickS s) && saidOk k s 6)) := by show _ = _; unfold readOk; rw [hf, Bool.true_and]
 have HR : Hid (readR k s = if readOk k s then (k, tickS s, saidV k s 6) else (0, 0, 0, 0, 0)) := rfl
 have ht := cRight_any (tickS s)
 have htr := tickS_rng s
 generalize tickS s = t at *
 generalize saidOk k s 6 = o at *
 generalize saidR k (s.extract 6 s.size) = v at *
 generalize s.extract 0 6 = s0 at *
 generalize s.extract 6 s.size = s1 at *
 obtain ⟨n, hn⟩ : ∃ n, nCounts k = n := ⟨_, rfl⟩
 rw [hn] at hc hz
 have hs12 : (s.size : Int) = 6 + n * 2 := by omega
 have hn6 : n = 3 ∨ n = 6 := by omega
 clear hn hf z6 zr
 unfold rdV vecV at *
 go_enter Tryz.func83, Tryz.ntmps83
 go_wp2_with fail
 refine (hc _).mono ?_
 rintro e X ⟨rfl, rfl⟩
 go_wp2_with fail
 refine (hj _).mono ?_
 rintro e X1 ⟨rfl, k1⟩
 have L1 := bel_then (bel_al (bel_al (Below.refl _ w) _) _) k1
 have B1 := ((Arr_at w w.heap.size [.int .i64 k, .string s] 49 rfl).alloc _).below k1
 have R1 := (Arr_at (w.alloc (.cells #[.int .i64 k, .string s] 49)) (w.heap.size + 1) [.int .i64 0, .int .i64 0, .int .i64 0, .int .i64 0, .int .i64 0] 68 (by simp)).below k1
 have Rz := R1.lies
 have Bz := B1.lies
 have cB0 : X1.cell? ⟨w.heap.size, 0, none⟩ = some (.int .i64 k) := B1.c 0 (zD rfl)
 have cB1 : X1.cell? ⟨w.heap.size, 1, none⟩ = some (.string s) := B1.c 1 (zD rfl)
 clear k1
 go_wp2_with fail
 go_region_with (go_at_call 148; refine (hd _ (by first | exact hw.below (bel_drew L1) | exact hw.below (bel_drew (bel_al L1 _)))).mono ?_; rintro e X2 ⟨rfl, k2⟩; have q0 := kc k2 X1.heap.size 0; have q1 := kc k2 X1.heap.size 1; have q2 := kc k2 X1.heap.size 2; have p0 := kf k2 X1.heap.size 0; have p1 := kf k2 X1.heap.size 1; have p2 := kf k2 X1.heap.size 2)
 all_goals first
  | (have L2 := bel_then (bel_drew L1) k2
     have B2 := (B1.drew).below k2
     have R2 := (R1.drew).below k2
     have z2 := k2.size
     have LY := bel_al L2 (.cells #[.int .i64 v.1, .int .i64 v.2.1, .int .i64 v.2.2] 30)
     have BY := B2.alloc (.cells #[.int .i64 v.1, .int .i64 v.2.1, .int .i64 v.2.2] 30)
     have RY := R2.alloc (.cells #[.int .i64 v.1, .int .i64 v.2.1, .int .i64 v.2.2] 30)
     have VY := Arr_at X2 X2.heap.size [.int .i64 v.1, .int .i64 v.2.1, .int .i64 v.2.2] 30 rfl
     have hbw := R2.lies
     obtain ⟨Y, hY⟩ : ∃ Y, Y = X2.alloc (.cells #[.int .i64 v.1, .int .i64 v.2.1, .int .i64 v.2.2] 30) := ⟨_, rfl⟩
     rw [← hY] at LY BY RY ⊢
     rw [show X2.alloc (.cells [.int .i64 v.1, .int .i64 v.2.1, .int .i64 v.2.2].toArray 30) = Y from hY.symm] at VY
     obtain ⟨b, hb⟩ : ∃ b, b = X2.heap.size := ⟨_, rfl⟩
     rw [← hb] at VY hbw ⊢
     clear hY hb k2 L2 B2 R2 z2 q0 q1 q2 p0 p1 p2)
  | (have L2 := bel_then (bel_drew (bel_al L1 _)) k2
     have B2 := ((B1.alloc _).drew).below k2
     have R2 := ((R1.alloc _).drew).below k2
     have V2 := ((Arr_at X1 X1.heap.size [.int .i64 0, .int .i64 0, .int .i64 0] 30 rfl).drew).below k2
     have LY := bel_new (bel_new (bel_new L2 X1.heap.size 0 (by omega) (.int .i64 v.1)) X1.heap.size 1 (by omega) (.int .i64 v.2.1)) X1.heap.size 2 (by omega) (.int .i64 v.2.2)
     have BY := ((B2.new X1.heap.size 0 (by omega) (.int .i64 v.1)).new X1.heap.size 1 (by omega) (.int .i64 v.2.1)).new X1.heap.size 2 (by omega) (.int .i64 v.2.2)
     have RY := ((R2.new X1.heap.size 0 (by omega) (.int .i64 v.1)).new X1.heap.size 1 (by omega) (.int .i64 v.2.1)).new X1.heap.size 2 (by omega) (.int .i64 v.2.2)
     have VY := ((V2.put 0 (zD rfl) (.int .i64 v.1) [.int .i64 v.1, .int .i64 0, .int .i64 0] rfl).put 1 (zD rfl) (.int .i64 v.2.1) [.int .i64 v.1, .int .i64 v.2.1, .int .i64 0] rfl).put 2 (zD rfl) (.int .i64 v.2.2) [.int .i64 v.1, .int .i64 v.2.1, .int .i64 v.2.2] rfl
     have hbw : w.heap.size + 1 < X1.heap.size := Rz
     obtain ⟨Y, hY⟩ : ∃ Y, Y = ((X2.setCell ⟨X1.heap.size, 0, none⟩ (.int .i64 v.1)).setCell ⟨X1.heap.size, 1, none⟩ (.int .i64 v.2.1)).setCell ⟨X1.heap.size, 2, none⟩ (.int .i64 v.2.2) := ⟨_, rfl⟩
     rw [← hY] at LY BY RY VY ⊢
     obtain ⟨b, hb⟩ : ∃ b, b = X1.heap.size := ⟨_, rfl⟩
     rw [← hb] at VY hbw ⊢
     clear hY hb k2 L2 B2 R2 V2 q0 q1 q2 p0 p1 p2)
 all_goals
  have Vz := VY.lies
  have Ry := RY.lies
  clear L1 B1 R1 Rz Bz cB0 cB1 X2
  cases o
  ·have cR_0 : Y.cell? ⟨w.heap.size + 1, 0, none⟩ = some (.int .i64 0) := RY.c 0 (zD rfl)
   have gR_0 := RY.f 0 (zD rfl)
   have cR_1 : Y.cell? ⟨w.heap.size + 1, 1, none⟩ = some (.int .i64 0) := RY.c 1 (zD rfl)
   have gR_1 := RY.f 1 (zD rfl)
   have cR_2 : Y.cell? ⟨w.heap.size + 1, 2, none⟩ = some (.int .i64 0) := RY.c 2 (zD rfl)
   have gR_2 := RY.f 2 (zD rfl)
   have cR_3 : Y.cell? ⟨w.heap.size + 1, 3, none⟩ = some (.int .i64 0) := RY.c 3 (zD rfl)
   have gR_3 := RY.f 3 (zD rfl)
   have cR_4 : Y.cell? ⟨w.heap.size + 1, 4, none⟩ = some (.int .i64 0) := RY.c 4 (zD rfl)
   have gR_4 := RY.f 4 (zD rfl)
   go_wp2_with (with_reducible refine post_stop ?_)
   have d0 := Arr.c (((((RY.put 0 (zD rfl) (.int .i64 0) [.int .i64 0, .int .i64 0, .int .i64 0, .int .i64 0, .int .i64 0] rfl).put 1 (zD rfl) (.int .i64 0) [.int .i64 0, .int .i64 0, .int .i64 0, .int .i64 0, .int .i64 0] rfl).put 2 (zD rfl) (.int .i64 0) [.int .i64 0, .int .i64 0, .int .i64 0, .int .i64 0, .int .i64 0] rfl).put 3 (zD rfl) (.int .i64 0) [.int .i64 0, .int .i64 0, .int .i64 0, .int .i64 0, .int .i64 0] rfl).put 4 (zD rfl) (.int .i64 0) [.int .i64 0, .int .i64 0, .int .i64 0, .int .i64 0, .int .i64 0] rfl) 0 (zD rfl)
   have d1 := Arr.c (((((RY.put 0 (zD rfl) (.int .i64 0) [.int .i64 0, .int .i64 0, .int .i64 0, .int .i64 0, .int .i64 0] rfl).put 1 (zD rfl) (.int .i64 0) [.int .i64 0, .int .i64 0, .int .i64 0, .int .i64 0, .int .i64 0] rfl).put 2 (zD rfl) (.int .i64 0) [.int .i64 0, .int .i64 0, .int .i64 0, .int .i64 0, .int .i64 0] rfl).put 3 (zD rfl) (.int .i64 0) [.int .i64 0, .int .i64 0, .int .i64 0, .int .i64 0, .int .i64 0] rfl).put 4 (zD rfl) (.int .i64 0) [.int .i64 0, .int .i64 0, .int .i64 0, .int .i64 0, .int .i64 0] rfl) 1 (zD rfl)
   have d2 := Arr.c (((((RY.put 0 (zD rfl) (.int .i64 0) [.int .i64 0, .int .i64 0, .int .i64 0, .int .i64 0, .int .i64 0] rfl).put 1 (zD rfl) (.int .i64 0) [.int .i64 0, .int .i64 0, .int .i64 0, .int .i64 0, .int .i64 0] rfl).put 2 (zD rfl) (.int .i64 0) [.int .i64 0, .int .i64 0, .int .i64 0, .int .i64 0, .int .i64 0] rfl).put 3 (zD rfl) (.int .i64 0) [.int .i64 0, .int .i64 0, .int .i64 0, .int .i64 0, .int .i64 0] rfl).put 4 (zD rfl) (.int .i64 0) [.int .i64 0, .int .i64 0, .int .i64 0, .int .i64 0, .int .i64 0] rfl) 2 (zD rfl)
   have d3 := Arr.c (((((RY.put 0 (zD rfl) (.int .i64 0) [.int .i64 0, .int .i64 0, .int .i64 0, .int .i64 0, .int .i64 0] rfl).put 1 (zD rfl) (.int .i64 0) [.int .i64 0, .int .i64 0, .int .i64 0, .int .i64 0, .int .i64 0] rfl).put 2 (zD rfl) (.int .i64 0) [.int .i64 0, .int .i64 0, .int .i64 0, .int .i64 0, .int .i64 0] rfl).put 3 (zD rfl) (.int .i64 0) [.int .i64 0, .int .i64 0, .int .i64 0, .int .i64 0, .int .i64 0] rfl).put 4 (zD rfl) (.int .i64 0) [.int .i64 0, .int .i64 0, .int .i64 0, .int .i64 0, .int .i64 0] rfl) 3 (zD rfl)
   have d4 := Arr.c (((((RY.put 0 (zD rfl) (.int .i64 0) [.int .i64 0, .int .i64 0, .int .i64 0, .int .i64 0, .int .i64 0] rfl).put 1 (zD rfl) (.int .i64 0) [.int .i64 0, .int .i64 0, .int .i64 0, .int .i64 0, .int .i64 0] rfl).put 2 (zD rfl) (.int .i64 0) [.int .i64 0, .int .i64 0, .int .i64 0, .int .i64 0, .int .i64 0] rfl).put 3 (zD rfl) (.int .i64 0) [.int .i64 0, .int .i64 0, .int .i64 0, .int .i64 0, .int .i64 0] rfl).put 4 (zD rfl) (.int .i64 0) [.int .i64 0, .int .i64 0, .int .i64 0, .int .i64 0, .int .i64 0] rfl) 4 (zD rfl)
   simp only [List.getElem_cons_zero, List.getElem_cons_succ] at d0 d1 d2 d3 d4
   exact ⟨bodyPost_ret (v := .tuple #[.agg #[.int .i64 0, .int .i64 0, .int .i64 0, .int .i64 0, .int .i64 0], .bool false]) (by simp [results_cell_tmp Tryz.results83, asAddr, go_sem, d0, d1, d2, d3, d4]) rfl ⟨by rw [HR.out, HO.out, Bool.and_false]; rfl, (bel_new (bel_new (bel_new (bel_new (bel_new LY _ _ (by omega) _) _ _ (by omega) _) _ _ (by omega) _) _ _ (by omega) _) _ _ (by omega) _)⟩⟩
  ·go_wp2_with fail
   refine (ht _).mono ?_
   rintro e U ⟨rfl, ku⟩
   have LU := bel_then LY ku
   have BU := BY.below ku
   have RU := RY.below ku
   have VU := VY.below ku
   have Vu := VU.lies
   have Ru := RU.lies
   clear ku LY BY RY VY Vz Ry ht
   cases hcr : cRight t
   ·have HC : Hid (cRight t = false) := hcr
    clear hcr
    have cR_0 : U.cell? ⟨w.heap.size + 1, 0, none⟩ = some (.int .i64 0) := RU.c 0 (zD rfl)
    have gR_0 := RU.f 0 (zD rfl)
    have cR_1 : U.cell? ⟨w.heap.size + 1, 1, none⟩ = some (.int .i64 0) := RU.c 1 (zD rfl)
    have gR_1 := RU.f 1 (zD rfl)
    have cR_2 : U.cell? ⟨w.heap.size + 1, 2, none⟩ = some (.int .i64 0) := RU.c 2 (zD rfl)
    have gR_2 := RU.f 2 (zD rfl)
    have cR_3 : U.cell? ⟨w.heap.size + 1, 3, none⟩ = some (.int .i64 0) := RU.c 3 (zD rfl)
    have gR_3 := RU.f 3 (zD rfl)
    have cR_4 : U.cell? ⟨w.heap.size + 1, 4, none⟩ = some (.int .i64 0) := RU.c 4 (zD rfl)
    have gR_4 := RU.f 4 (zD rfl)
    go_wp2_with (with_reducible refine post_stop ?_)
    have d0 := Arr.c (((((RU.put 0 (zD rfl) (.int .i64 0) [.int .i64 0, .int .i64 0, .int .i64 0, .int .i64 0, .int .i64 0] rfl).put 1 (zD rfl) (.int .i64 0) [.int .i64 0, .int .i64 0, .int .i64 0, .int .i64 0, .int .i64 0] rfl).put 2 (zD rfl) (.int .i64 0) [.int .i64 0, .int .i64 0, .int .i64 0, .int .i64 0, .int .i64 0] rfl).put 3 (zD rfl) (.int .i64 0) [.int .i64 0, .int .i64 0, .int .i64 0, .int .i64 0, .int .i64 0] rfl).put 4 (zD rfl) (.int .i64 0) [.int .i64 0, .int .i64 0, .int .i64 0, .int .i64 0, .int .i64 0] rfl) 0 (zD rfl)
    have d1 := Arr.c (((((RU.put 0 (zD rfl) (.int .i64 0) [.int .i64 0, .int .i64 0, .int .i64 0, .int .i64 0, .int .i64 0] rfl).put 1 (zD rfl) (.int .i64 0) [.int .i64 0, .int .i64 0, .int .i64 0, .int .i64 0, .int .i64 0] rfl).put 2 (zD rfl) (.int .i64 0) [.int .i64 0, .int .i64 0, .int .i64 0, .int .i64 0, .int .i64 0] rfl).put 3 (zD rfl) (.int .i64 0) [.int .i64 0, .int .i64 0, .int .i64 0, .int .i64 0, .int .i64 0] rfl).put 4 (zD rfl) (.int .i64 0) [.int .i64 0, .int .i64 0, .int .i64 0, .int .i64 0, .int .i64 0] rfl) 1 (zD rfl)
    have d2 := Arr.c (((((RU.put 0 (zD rfl) (.int .i64 0) [.int .i64 0, .int .i64 0, .int .i64 0, .int .i64 0, .int .i64 0] rfl).put 1 (zD rfl) (.int .i64 0) [.int .i64 0, .int .i64 0, .int .i64 0, .int .i64 0, .int .i64 0] rfl).put 2 (zD rfl) (.int .i64 0) [.int .i64 0, .int .i64 0, .int .i64 0, .int .i64 0, .int .i64 0] rfl).put 3 (zD rfl) (.int .i64 0) [.int .i64 0, .int .i64 0, .int .i64 0, .int .i64 0, .int .i64 0] rfl).put 4 (zD rfl) (.int .i64 0) [.int .i64 0, .int .i64 0, .int .i64 0, .int .i64 0, .int .i64 0] rfl) 2 (zD rfl)
    have d3 := Arr.c (((((RU.put 0 (zD rfl) (.int .i64 0) [.int .i64 0, .int .i64 0, .int .i64 0, .int .i64 0, .int .i64 0] rfl).put 1 (zD rfl) (.int .i64 0) [.int .i64 0, .int .i64 0, .int .i64 0, .int .i64 0, .int .i64 0] rfl).put 2 (zD rfl) (.int .i64 0) [.int .i64 0, .int .i64 0, .int .i64 0, .int .i64 0, .int .i64 0] rfl).put 3 (zD rfl) (.int .i64 0) [.int .i64 0, .int .i64 0, .int .i64 0, .int .i64 0, .int .i64 0] rfl).put 4 (zD rfl) (.int .i64 0) [.int .i64 0, .int .i64 0, .int .i64 0, .int .i64 0, .int .i64 0] rfl) 3 (zD rfl)
    have d4 := Arr.c (((((RU.put 0 (zD rfl) (.int .i64 0) [.int .i64 0, .int .i64 0, .int .i64 0, .int .i64 0, .int .i64 0] rfl).put 1 (zD rfl) (.int .i64 0) [.int .i64 0, .int .i64 0, .int .i64 0, .int .i64 0, .int .i64 0] rfl).put 2 (zD rfl) (.int .i64 0) [.int .i64 0, .int .i64 0, .int .i64 0, .int .i64 0, .int .i64 0] rfl).put 3 (zD rfl) (.int .i64 0) [.int .i64 0, .int .i64 0, .int .i64 0, .int .i64 0, .int .i64 0] rfl).put 4 (zD rfl) (.int .i64 0) [.int .i64 0, .int .i64 0, .int .i64 0, .int .i64 0, .int .i64 0] rfl) 4 (zD rfl)
    simp only [List.getElem_cons_zero, List.getElem_cons_succ] at d0 d1 d2 d3 d4
    exact ⟨bodyPost_ret (v := .tuple #[.agg #[.int .i64 0, .int .i64 0, .int .i64 0, .int .i64 0, .int .i64 0], .bool false]) (by simp [results_cell_tmp Tryz.results83, asAddr, go_sem, d0, d1, d2, d3, d4]) rfl ⟨by rw [HR.out, HO.out, HC.out]; rfl, (bel_new (bel_new (bel_new (bel_new (bel_new LU _ _ (by omega) _) _ _ (by omega) _) _ _ (by omega) _) _ _ (by omega) _) _ _ (by omega) _)⟩⟩
   ·have HC : Hid (cRight t = true) := hcr
    have hv := HV.out (by trivial)
    have HW : Hid (v = saidV k s 6) := hv
    clear hcr hv
    have cB0 : U.cell? ⟨w.heap.size, 0, none⟩ = some (.int .i64 k) := BU.c 0 (zD rfl)
    have cV0 : U.cell? ⟨b, 0, none⟩ = some (.int .i64 v.1) := VU.c 0 (zD rfl)
    have cV1 : U.cell? ⟨b, 1, none⟩ = some (.int .i64 v.2.1) := VU.c 1 (zD rfl)
    have cV2 : U.cell? ⟨b, 2, none⟩ = some (.int .i64 v.2.2) := VU.c 2 (zD rfl)
    have cR_0 : U.cell? ⟨w.heap.size + 1, 0, none⟩ = some (.int .i64 0) := RU.c 0 (zD rfl)
    have gR_0 := RU.f 0 (zD rfl)
    have cR_1 : U.cell? ⟨w.heap.size + 1, 1, none⟩ = some (.int .i64 0) := RU.c 1 (zD rfl)
    have gR_1 := RU.f 1 (zD rfl)
    have cR_2 : U.cell? ⟨w.heap.size + 1, 2, none⟩ = some (.int .i64 0) := RU.c 2 (zD rfl)
    have gR_2 := RU.f 2 (zD rfl)
    have cR_3 : U.cell? ⟨w.heap.size + 1, 3, none⟩ = some (.int .i64 0) := RU.c 3 (zD rfl)
    have gR_3 := RU.f 3 (zD rfl)
    have cR_4 : U.cell? ⟨w.heap.size + 1, 4, none⟩ = some (.int .i64 0) := RU.c 4 (zD rfl)
    have gR_4 := RU.f 4 (zD rfl)
    go_wp2_with (with_reducible refine post_stop ?_)
    have d0 := Arr.c (((((RU.put 0 (zD rfl) (.int .i64 k) [.int .i64 k, .int .i64 0, .int .i64 0, .int .i64 0, .int .i64 0] rfl).put 1 (zD rfl) (.int .i64 t) [.int .i64 k, .int .i64 t, .int .i64 0, .int .i64 0, .int .i64 0] rfl).put 2 (zD rfl) (.int .i64 v.1) [.int .i64 k, .int .i64 t, .int .i64 v.1, .int .i64 0, .int .i64 0] rfl).put 3 (zD rfl) (.int .i64 v.2.1) [.int .i64 k, .int .i64 t, .int .i64 v.1, .int .i64 v.2.1, .int .i64 0] rfl).put 4 (zD rfl) (.int .i64 v.2.2) [.int .i64 k, .int .i64 t, .int .i64 v.1, .int .i64 v.2.1, .int .i64 v.2.2] rfl) 0 (zD rfl)
    have d1 := Arr.c (((((RU.put 0 (zD rfl) (.int .i64 k) [.int .i64 k, .int .i64 0, .int .i64 0, .int .i64 0, .int .i64 0] rfl).put 1 (zD rfl) (.int .i64 t) [.int .i64 k, .int .i64 t, .int .i64 0, .int .i64 0, .int .i64 0] rfl).put 2 (zD rfl) (.int .i64 v.1) [.int .i64 k, .int .i64 t, .int .i64 v.1, .int .i64 0, .int .i64 0] rfl).put 3 (zD rfl) (.int .i64 v.2.1) [.int .i64 k, .int .i64 t, .int .i64 v.1, .int .i64 v.2.1, .int .i64 0] rfl).put 4 (zD rfl) (.int .i64 v.2.2) [.int .i64 k, .int .i64 t, .int .i64 v.1, .int .i64 v.2.1, .int .i64 v.2.2] rfl) 1 (zD rfl)
    have d2 := Arr.c (((((RU.put 0 (zD rfl) (.int .i64 k) [.int .i64 k, .int .i64 0, .int .i64 0, .int .i64 0, .int .i64 0] rfl).put 1 (zD rfl) (.int .i64 t) [.int .i64 k, .int .i64 t, .int .i64 0, .int .i64 0, .int .i64 0] rfl).put 2 (zD rfl) (.int .i64 v.1) [.int .i64 k, .int .i64 t, .int .i64 v.1, .int .i64 0, .int .i64 0] rfl).put 3 (zD rfl) (.int .i64 v.2.1) [.int .i64 k, .int .i64 t, .int .i64 v.1, .int .i64 v.2.1, .int .i64 0] rfl).put 4 (zD rfl) (.int .i64 v.2.2) [.int .i64 k, .int .i64 t, .int .i64 v.1, .int .i64 v.2.1, .int .i64 v.2.2] rfl) 2 (zD rfl)
    have d3 := Arr.c (((((RU.put 0 (zD rfl) (.int .i64 k) [.int .i64 k, .int .i64 0, .int .i64 0, .int .i64 0, .int .i64 0] rfl).put 1 (zD rfl) (.int .i64 t) [.int .i64 k, .int .i64 t, .int .i64 0, .int .i64 0, .int .i64 0] rfl).put 2 (zD rfl) (.int .i64 v.1) [.int .i64 k, .int .i64 t, .int .i64 v.1, .int .i64 0, .int .i64 0] rfl).put 3 (zD rfl) (.int .i64 v.2.1) [.int .i64 k, .int .i64 t, .int .i64 v.1, .int .i64 v.2.1, .int .i64 0] rfl).put 4 (zD rfl) (.int .i64 v.2.2) [.int .i64 k, .int .i64 t, .int .i64 v.1, .int .i64 v.2.1, .int .i64 v.2.2] rfl) 3 (zD rfl)
    have d4 := Arr.c (((((RU.put 0 (zD rfl) (.int .i64 k) [.int .i64 k, .int .i64 0, .int .i64 0, .int .i64 0, .int .i64 0] rfl).put 1 (zD rfl) (.int .i64 t) [.int .i64 k, .int .i64 t, .int .i64 0, .int .i64 0, .int .i64 0] rfl).put 2 (zD rfl) (.int .i64 v.1) [.int .i64 k, .int .i64 t, .int .i64 v.1, .int .i64 0, .int .i64 0] rfl).put 3 (zD rfl) (.int .i64 v.2.1) [.int .i64 k, .int .i64 t, .int .i64 v.1, .int .i64 v.2.1, .int .i64 0] rfl).put 4 (zD rfl) (.int .i64 v.2.2) [.int .i64 k, .int .i64 t, .int .i64 v.1, .int .i64 v.2.1, .int .i64 v.2.2] rfl) 4 (zD rfl)
    simp only [List.getElem_cons_zero, List.getElem_cons_succ] at d0 d1 d2 d3 d4
    exact ⟨bodyPost_ret (v := .tuple #[.agg #[.int .i64 k, .int .i64 t, .int .i64 v.1, .int .i64 v.2.1, .int .i64 v.2.2], .bool true]) (by simp [results_cell_tmp Tryz.results83, asAddr, go_sem, d0, d1, d2, d3, d4]) rfl ⟨by rw [HR.out, HO.out, HC.out, HW.out]; rfl, (bel_new (bel_new (bel_new (bel_new (bel_new LU _ _ (by omega) _) _ _ (by omega) _) _ _ (by omega) _) _ _ (by omega) _) _ _ (by omega) _)⟩⟩
end Go.Proofs.YtbophanlmkbfeaaGreatDoor
namespace Go.Proofs.YtbophanlmkbfeaaGreatDoor
open Go.RowKit
def vopS (P : Program) (tbl : List (Ct P)) (id : Nat) (o : Oper) (vt : List Value) (m : Xm) (K : List Value → Xm → Prop) : Prop :=
 match o.op with
 | .slice t x (some y) none none => guardB (okX x && okX y) (match P.underlying t, VE vt x, VE vt y with
  | some .string, .string s, .int .i64 i => (0 ≤ i ∧ i ≤ (s.size : Int)) ∧ K (vput vt o.dst (.string (s.extract i.toNat s.size))) m
  | _, _, _ => False)
 | _ => vop P tbl id o vt m K
def vseqS (P : Program) (tbl : List (Ct P)) (ops : Array Oper) (ids : Nat → Nat) (K : List Value → Xm → Prop) : List Nat → List Value → Xm → Prop
 | [], vt, m => K vt m
 | i :: rest, vt, m =>
  match ops[i]? with
  | none => False
  | some o =>
   match o.guard with
   | none => vopS P tbl (ids i) o vt m (vseqS P tbl ops ids K rest)
   | some _ => False
section
variable {P : Program} {tbl : List (Ct P)} {bs : List Nat} {w0 : World} {rs : Xm} {Q : Exit → Act → World → Prop} {ops : Array Oper} {base : Nat} {K : List Value → Xm → Prop} {ds : List Deferred} {ln : Nat} {bl0 : Bl}
theorem vseqS_sound (hK : ∀ bl vt m a w, K vt m → FR bl vt a.tmps → RW bs w0 bl m w → Le bl0 bl → bl.length = ln → m.length = ln → a.defers = ds → Q .normal a w) :
    ∀ (is : List Nat) (bl : Bl) (vt : List Value) (m : Xm) (a : Act) (w : World), is.Nodup → vseqS P tbl ops (nid base ops) K is vt m → FR bl vt a.tmps → RW bs w0 bl m w → Nw rs bl m →
      (∀ i ∈ is, Fresh P rs ops (nid base ops) bl i) → Le bl0 bl → bl.length = ln → m.length = ln → a.defers = ds → wpOps P ops Q is a w
 | [], bl, vt, m, a, w, _, h, F, R, _, _, hle, hl, hml, hd => hK bl vt m a w h F R hle hl hml hd
 | i :: rest, bl, vt, m, a, w, hnd, h, F, R, N, hf, hle, hl, hml, hd => by
  rw [List.nodup_cons] at hnd
  unfold vseqS at h
  cases ho : ops[i]? with
  | none =>
   rw [ho] at h
   exact h.elim
  | some o =>
   rw [ho] at h
   dsimp only at h
   cases hg : o.guard with
   | some _ => rw [hg] at h; exact h.elim
   | none =>
    rw [hg] at h
    dsimp only at h
    unfold vopS at h
    split at h
    ·rename_i t x y hop
     rw [guardB_iff] at h
     obtain ⟨hx, h⟩ := h
     rw [Bool.and_eq_true] at hx
     split at h
     case h_2 => exact h.elim
     rename_i s n hu hs hn
     have h1 := F.eval hx.1
     rw [hs] at h1
     have h1 : a.eval x = .string s := h1
     have h2 := F.eval hx.2
     rw [hn] at h2
     have h2 : a.eval y = .int .i64 n := h2
     have hr := run_slice_string_from_if (P := P) w t s .i64 n hu
     rw [if_pos h.1] at hr
     refine ops_val ho hg (v := .string (s.extract n.toNat s.size)) (w' := w) (by simp [execOp, hop, h1, h2, Instr.sliceAt, run_under hu w, hr]) ?_
     exact vseqS_sound hK rest bl _ m _ w hnd.2 h.2 (F.put (.same rfl) _) R N (fun j hj => hf j (List.mem_cons_of_mem _ hj)) hle hl hml ((put_defers _ _ _).trans hd)
    ·rw [wpOps_cons]
     unfold wpOp
     rw [ho]
     dsimp only
     rw [show Region.wanted o (yielded ops a.tmps) = true by unfold Region.wanted; rw [hg], if_pos rfl]
     refine .inl (Oper.wp_mono ?_ (vop_wp (Q := Q) h F R N (hf i List.mem_cons_self o ho)))
     rintro a' w' ⟨bl', v, m', hbl, hmm, hle', h1, h3, hdef, F', R', N', hK'⟩
     exact vseqS_sound hK rest bl' _ m' a' w' hnd.2 hK' F' R' N' (fun j hj => (hf j (List.mem_cons_of_mem _ hj)).next ho (by rintro rfl; exact hnd.1 hj) h1 h3) (hle.trans hle') (hbl.trans hl) (hmm.trans hml) (hdef.trans hd)
def strBy (P : Program) (tbl : List (Ct P)) (ops : Array Oper) (draw : Bool) (K : List Value → Xm → Prop) (vt : List Value) (m : Xm) : Prop :=
 guardB (resOk P ops && !draw) (vseqS P tbl ops (nid m.length ops) K (List.range ops.size) vt (m ++ newCells P ops))
theorem strBy_sound {id : Nat} {draw : Bool} {bl : Bl} {vt : List Value} {m : Xm} {a : Act} {w : World} (h : strBy P tbl ops draw K vt m) (r : Rl bs w0 ds bl0 bl vt m a w) (hK : ∀ bl vt m a w, K vt m → Rl bs w0 ds bl0 bl vt m a w → Q .normal a w) : (Code.region id ops draw).wp P Q a w := by
 unfold strBy at h
 rw [guardB_iff, Bool.and_eq_true] at h
 obtain ⟨⟨hr, hd⟩, h⟩ := h
 cases draw
 ·refine wp_region (vseqS_sound (ds := ds) (rs := m ++ newCells P ops) (ln := m.length + (newCells P ops).length) (fun bl vt m a w hk F R hle h1 h2 h3 => hK bl vt m a w hk ⟨F, R, hle, h1.trans h2.symm, h3⟩) _ _ vt _ a w List.nodup_range h (r.F.mono (Le.wide bl (newCells P ops).length)) (r.R.wide _ _) (fun _ _ => rfl) (fun i _ => fresh_start r.len hr i) (r.le.trans (Le.wide bl _)) ?_ ?_ r.defers)
  ·rw [List.length_append, List.length_replicate, r.len]
  ·rw [List.length_append]
 ·cases hd
end
end Go.Proofs.YtbophanlmkbfeaaGreatDoor
namespace Go.Proofs.YtbophanlmkbfeaaGreatDoor
open Go.RowKit
def stepS (u d : Int) (p : Int × Bool) : Int × Bool :=
 subS (partS (mulS p.2 u p.1).2 (mulS p.2 u p.1).1 1 d).2 1099511627776 (partS (mulS p.2 u p.1).2 (mulS p.2 u p.1).1 1 d).1
def serS (dd : Int → Int) (u : Int) : Nat → Int × Bool → Int × Bool
 | 0, p => p
 | n + 1, p => serS dd u n (stepS u (dd (n + 1)) p)
def dSin (n : Int) : Int := 2 * n * (2 * n + 1)
def dCos (n : Int) : Int := (2 * n - 1) * 2 * n
def cosS (bad : Bool) (t : Int) : Int × Bool := serS dCos (mulS bad t t).1 10 (1099511627776, (mulS bad t t).2)
def sinV (bad : Bool) (t : Int) : Int × Bool := serS dSin (mulS bad t t).1 10 (1099511627776, (mulS bad t t).2)
def sinS (bad : Bool) (t : Int) : Int × Bool := mulS (sinV bad t).2 t (sinV bad t).1
def rest4 (bad : Bool) (a : Int) : Int := (modS bad a 6908435304716).1
def badM (bad : Bool) (a : Int) : Bool := (modS bad a 6908435304716).2
def quart (bad : Bool) (a : Int) : Int := rest4 bad a / 1727108826179
def inq (bad : Bool) (a : Int) : Int := rest4 bad a - quart bad a * 1727108826179
def neg1 (p : Int × Bool) : Int × Bool := (-p.1, p.2)
def pick (k : Int) (bad : Bool) (t : Int) : Int × Bool :=
 if k = 0 then sinS bad t else if k = 1 then cosS bad t else if k = 2 then neg1 (sinS bad t) else neg1 (cosS bad t)
def sinA (bad : Bool) (a : Int) : Int × Bool := pick (quart bad a) (badM bad a) (inq bad a)
def cosA (bad : Bool) (a : Int) : Int × Bool := pick (if quart bad a = 3 then 0 else quart bad a + 1) (badM bad a) (inq bad a)
end Go.Proofs.YtbophanlmkbfeaaGreatDoor

namespace Go.Proofs.YtbophanlmkbfeaaGreatDoor
end Go.Proofs.YtbophanlmkbfeaaGreatDoor
namespace Go.Proofs.YtbophanlmkbfeaaGreatDoor
end Go.Proofs.YtbophanlmkbfeaaGreatDoor
namespace Go.Proofs.YtbophanlmkbfeaaGreatDoor
end Go.Proofs.YtbophanlmkbfeaaGreatDoor
namespace Go.Proofs.YtbophanlmkbfeaaGreatDoor
structure Nr (K S P : Int) : Prop where
 lo : -(3 * K) ≤ S * K - 1099511627776 * P
 hi : S * K - 1099511627776 * P ≤ 3 * K
 bl : -2199023255552 ≤ S
 bh : S ≤ 2199023255552
theorem Nr.neg {K S P : Int} (h : Nr K S P) : Nr K (-S) (-P) := by
 have h1 := h.lo
 have h2 := h.hi
 have h3 := h.bl
 have h4 := h.bh
 constructor
 ·rw [Int.neg_mul]; omega
 ·rw [Int.neg_mul]; omega
 ·omega
 ·omega
end Go.Proofs.YtbophanlmkbfeaaGreatDoor
namespace Go.Proofs.YtbophanlmkbfeaaGreatDoor
open Go.RowKit
set_option linter.unusedSimpArgs false
theorem qUnit_cases (bad : Bool) (q : V4) :
    ((normS (vNormS bad (q.1, q.2.1, q.2.2.1)).2 (vNormS bad (q.1, q.2.1, q.2.2.1)).1 q.2.2.2 0).1 < 549755813888 ∧ qUnitS bad q = ((0, 0, 0, 0), true)) ∨
    (∃ N n d0 d1 d2 d3, bad = false ∧ normS false q.1 q.2.1 q.2.2.1 = (N, false) ∧ normS false N q.2.2.2 0 = (n, false) ∧ 549755813888 ≤ n ∧ divS false q.1 n = (d0, false) ∧ divS false q.2.1 n = (d1, false) ∧ divS false q.2.2.1 n = (d2, false) ∧ divS false q.2.2.2 n = (d3, false) ∧
      Uof d0 q.1 n ∧ Uof d1 q.2.1 n ∧ Uof d2 q.2.2.1 n ∧ Uof d3 q.2.2.2 n ∧ qUnitS bad q = (if d3 < 0 then (-d0, -d1, -d2, -d3) else (d0, d1, d2, d3), false)) := by
 have hN : vNormS bad (q.1, q.2.1, q.2.2.1) = normS bad q.1 q.2.1 q.2.2.1 := rfl
 by_cases c : (normS (vNormS bad (q.1, q.2.1, q.2.2.1)).2 (vNormS bad (q.1, q.2.1, q.2.2.1)).1 q.2.2.2 0).1 < 549755813888
 ·exact Or.inl ⟨c, by unfold qUnitS; dsimp only; rw [if_pos c]⟩
 ·refine Or.inr ?_
  rw [hN] at c
  cases h1 : normS bad q.1 q.2.1 q.2.2.1 with
  | mk N b1 =>
   rw [h1] at c
   dsimp only at c
   cases h2 : normS b1 N q.2.2.2 0 with
   | mk n b2 =>
    rw [h2] at c
    dsimp only at c
    have hb2 : b2 = false := by
     cases b2
     ·rfl
     ·have := normS_bad b1 N q.2.2.2 0 (by rw [h2])
      rw [h2] at this
      have : n = 0 := this
      omega
    subst hb2
    have g2 := normS_good h2
    have hb1 := g2.1
    subst hb1
    have g1 := normS_good h1
    have hb := g1.1
    subst hb
    have s0 := sq_nonneg q.1
    have s1 := sq_nonneg q.2.1
    have s2 := sq_nonneg q.2.2.1
    have s3 := sq_nonneg q.2.2.2
    have sN := sq_nonneg N
    have k0 := abs_le_of_sq (a := q.1) g1.2.2.2.2.1 (by omega)
    have k1 := abs_le_of_sq (a := q.2.1) g1.2.2.2.2.1 (by omega)
    have k2 := abs_le_of_sq (a := q.2.2.1) g1.2.2.2.2.1 (by omega)
    have kN := abs_le_of_sq (a := N) g2.2.2.2.2.1 (by omega)
    have k3 := abs_le_of_sq (a := q.2.2.2) g2.2.2.2.2.1 (by omega)
    obtain ⟨d0, e0, U0⟩ := div_unit q.1 n (by omega) (by omega)
    obtain ⟨d1, e1, U1⟩ := div_unit q.2.1 n (by omega) (by omega)
    obtain ⟨d2, e2, U2⟩ := div_unit q.2.2.1 n (by omega) (by omega)
    obtain ⟨d3, e3, U3⟩ := div_unit q.2.2.2 n (by omega) (by omega)
    refine ⟨N, n, d0, d1, d2, d3, rfl, h1, h2, by omega, e0, e1, e2, e3, U0, U1, U2, U3, ?_⟩
    have ew : uprightS (d0, d1, d2, d3) = if d3 < 0 then (-d0, -d1, -d2, -d3) else (d0, d1, d2, d3) := by
     have := U0.lo; have := U0.hi; have := U1.lo; have := U1.hi; have := U2.lo; have := U2.hi; have := U3.lo; have := U3.hi
     unfold uprightS
     dsimp only
     by_cases k : d3 < 0
     ·rw [if_neg (by omega), if_pos k, minusS_in (by omega) (by omega), minusS_in (by omega) (by omega), minusS_in (by omega) (by omega), minusS_in (by omega) (by omega)]
     ·rw [if_pos (by omega), if_neg k]
    unfold qUnitS
    simp only [hN, h1, h2, e0, e1, e2, e3, if_neg c, ew]
theorem qUnit_true (q : V4) : qUnitS true q = ((0, 0, 0, 0), true) := by
 unfold qUnitS
 simp only [vNorm_true, normS_true]
 rw [if_pos (by decide)]
end Go.Proofs.YtbophanlmkbfeaaGreatDoor
namespace Go.Proofs.YtbophanlmkbfeaaGreatDoor
open Go.RowKit
structure Ab (x K : Int) : Prop where
 lo : -K ≤ x
 hi : x ≤ K
theorem Ab.add {x y K L : Int} (h : Ab x K) (k : Ab y L) : Ab (x + y) (K + L) := ⟨by have := h.lo; have := k.lo; omega, by have := h.hi; have := k.hi; omega⟩
theorem Ab.sub {x y K L : Int} (h : Ab x K) (k : Ab y L) : Ab (x - y) (K + L) := ⟨by have := h.lo; have := k.hi; omega, by have := h.hi; have := k.lo; omega⟩
theorem Ab.neg {x K : Int} (h : Ab x K) : Ab (-x) K := ⟨by have := h.hi; omega, by have := h.lo; omega⟩
theorem Ab.mul {x y K L : Int} (h : Ab x K) (k : Ab y L) : Ab (x * y) (K * L) := by
 have := absmul ⟨h.lo, h.hi⟩ ⟨k.lo, k.hi⟩
 exact ⟨this.1, this.2⟩
theorem Ab.le {x K L : Int} (h : Ab x K) (k : K ≤ L) : Ab x L := ⟨by have := h.lo; omega, by have := h.hi; omega⟩
theorem Ab.two : Ab 2 2 := ⟨by decide, by decide⟩
theorem Ab.zero {K : Int} (h : 0 ≤ K) : Ab 0 K := ⟨by omega, h⟩
theorem Ab.numB {x K : Int} (h : Ab x K) (k : K ≤ 4611686018427387904) : numB x = true := numB_of ⟨by have := h.lo; omega, by have := h.hi; omega⟩
theorem add_near {a b K L : Int} (ha : Ab a K) (hb : Ab b L) (h : K + L ≤ 4611686018427387904) (h1 : K ≤ 4611686018427387904) (h2 : L ≤ 4611686018427387904) : addS false a b = (a + b, false) :=
 addS_good a b (ha.numB h1) (hb.numB h2) ((ha.add hb).numB h)
theorem sub_near {a b K L : Int} (ha : Ab a K) (hb : Ab b L) (h : K + L ≤ 4611686018427387904) (h1 : K ≤ 4611686018427387904) (h2 : L ≤ 4611686018427387904) : subS false a b = (a - b, false) :=
 subS_good a b (ha.numB h1) (hb.numB h2) ((ha.sub hb).numB h)
end Go.Proofs.YtbophanlmkbfeaaGreatDoor
namespace Go.Proofs.YtbophanlmkbfeaaGreatDoor
end Go.Proofs.YtbophanlmkbfeaaGreatDoor
namespace Go.Proofs.YtbophanlmkbfeaaGreatDoor
end Go.Proofs.YtbophanlmkbfeaaGreatDoor
namespace Go.Proofs.YtbophanlmkbfeaaGreatDoor
theorem ab_of_sq {a K : Int} (hK : 0 ≤ K) (h : a * a ≤ K * K) : Ab a K := by
 refine ⟨?_, ?_⟩
 ·apply Classical.byContradiction
  intro g
  have := Int.mul_le_mul (show K + 1 ≤ -a by omega) (show K + 1 ≤ -a by omega) (by omega) (by omega)
  rw [Int.neg_mul_neg] at this
  have e : (K + 1) * (K + 1) = K * K + 2 * K + 1 := by grind
  omega
 ·apply Classical.byContradiction
  intro g
  have := Int.mul_le_mul (show K + 1 ≤ a by omega) (show K + 1 ≤ a by omega) (by omega) (by omega)
  have e : (K + 1) * (K + 1) = K * K + 2 * K + 1 := by grind
  omega
theorem rot_sq {u v c s a b : Int} (hM : u * u + v * v ≤ 120892581961462917470617600) (cb : Ab c 1099511627832) (sb : Ab s 1099511627832) (hcs : Ab (c * c + s * s - 1208925819614629174706176) 123145302310912)
    (ha : Ab (1099511627776 * a - (u * c - v * s)) 1099511627776) (hb : Ab (1099511627776 * b - (u * s + v * c)) 1099511627776) : Ab (a * a + b * b - (u * u + v * v)) 12457466742702080 := by
 have u0 := sq_nonneg u
 have v0 := sq_nonneg v
 have ub : Ab u 10995116277760 := ab_of_sq (by decide) (by omega)
 have vb : Ab v 10995116277760 := ab_of_sq (by decide) (by omega)
 have P := (ub.mul cb).sub (vb.mul sb)
 have Q := (ub.mul sb).add (vb.mul cb)
 have PA : Ab (u * c - v * s + 1099511627776 * a) (2 * (10995116277760 * 1099511627832 + 10995116277760 * 1099511627832) + 1099511627776) := by
  have p1 := P.lo; have p2 := P.hi; have h1 := ha.lo; have h2 := ha.hi
  exact ⟨by omega, by omega⟩
 have QB : Ab (u * s + v * c + 1099511627776 * b) (2 * (10995116277760 * 1099511627832 + 10995116277760 * 1099511627832) + 1099511627776) := by
  have p1 := Q.lo; have p2 := Q.hi; have h1 := hb.lo; have h2 := hb.hi
  exact ⟨by omega, by omega⟩
 have t1 := ha.mul PA
 have t2 := hb.mul QB
 have uv : Ab (u * u + v * v) 120892581961462917470617600 := ⟨by omega, hM⟩
 have t3 := uv.mul hcs
 have key : 1208925819614629174706176 * (a * a + b * b - (u * u + v * v)) = (u * u + v * v) * (c * c + s * s - 1208925819614629174706176) + (1099511627776 * a - (u * c - v * s)) * (u * c - v * s + 1099511627776 * a) + (1099511627776 * b - (u * s + v * c)) * (u * s + v * c + 1099511627776 * b) := by grind
 have l1 := t1.lo; have h1 := t1.hi; have l2 := t2.lo; have h2 := t2.hi; have l3 := t3.lo; have h3 := t3.hi
 generalize (u * u + v * v) * (c * c + s * s - 1208925819614629174706176) = X at key l3 h3
 generalize (1099511627776 * a - (u * c - v * s)) * (u * c - v * s + 1099511627776 * a) = Y at key l1 h1
 generalize (1099511627776 * b - (u * s + v * c)) * (u * s + v * c + 1099511627776 * b) = Z at key l2 h2
 generalize a * a + b * b - (u * u + v * v) = W at key
 exact ⟨by omega, by omega⟩
structure Flat (A E c s e2 r w1 u v : Int) : Prop where
 A1 : 7146825580544 ≤ A
 A2 : A ≤ 9211859050600
 E1 : 0 ≤ E
 E2 : E ≤ 109951162777
 cb : Ab c 1099511627832
 sb : Ab s 1099511627832
 cs : Ab (c * c + s * s - 1208925819614629174706176) 123145302310912
 eu : Ab (2 * (u * 1099511627776 - A * (c - E))) 1099511627776
 ee : Ab (2 * (e2 * 1099511627776 - E * E)) 1099511627776
 r0 : 0 ≤ r
 r1 : r * r ≤ (1099511627776 - e2) * 1099511627776
 r2 : (1099511627776 - e2) * 1099511627776 < (r + 1) * (r + 1)
 ew : Ab (2 * (w1 * 1099511627776 - A * r)) 1099511627776
 ev : Ab (2 * (v * 1099511627776 - w1 * s)) 1099511627776
def lam (A E c : Int) : Int := A * (1208925819614629174706176 - E * c)
theorem Flat.root {A E c s e2 r w1 u v : Int} (F : Flat A E c s e2 r w1 u v) : r ≤ 1099511627776 ∧ Ab (r * r - (1208925819614629174706176 - E * E)) 3298534883328 := by
 have ee := F.ee.lo; have ee' := F.ee.hi
 have EE := sq_nonneg E
 have e0 : 0 ≤ e2 := by omega
 have r0 := F.r0; have r1 := F.r1; have r2 := F.r2
 have rb : Ab r 1099511627776 := ab_of_sq (by decide) (by omega)
 have r3 := rb.hi
 have e : (r + 1) * (r + 1) = r * r + 2 * r + 1 := by grind
 rw [e] at r2
 exact ⟨r3, by omega, by omega⟩
theorem Flat.lamb {A E c s e2 r w1 u v : Int} (F : Flat A E c s e2 r w1 u v) : Ab (lam A E c) 12361820360799717618005405660607204556 := by
 have A1 := F.A1; have A2 := F.A2; have E1 := F.E1; have E2 := F.E2
 have a : Ab A 9211859050600 := ⟨by omega, A2⟩
 have ec := (show Ab E 109951162777 from ⟨by omega, E2⟩).mul F.cb
 have d : Ab (1208925819614629174706176 - E * c) (1208925819614629174706176 + 109951162777 * 1099511627832) := by
  have := ec.lo; have := ec.hi
  exact ⟨by omega, by omega⟩
 exact (a.mul d).le (by decide)
theorem flat_sq {A E c s e2 r w1 u v : Int} (F : Flat A E c s e2 r w1 u v) : Ab (1461501637330902918203684832716283019655932542976 * (u * u + v * v) - lam A E c * lam A E c) 13176891962923720259444089157197533340682064549018901249471283200 := by
 obtain ⟨rh, ρ⟩ := F.root
 have A1 := F.A1; have A2 := F.A2; have E1 := F.E1; have E2 := F.E2
 have a : Ab A 9211859050600 := ⟨by omega, A2⟩
 have e : Ab E 109951162777 := ⟨by omega, E2⟩
 have rb : Ab r 1099511627776 := ⟨by have := F.r0; omega, rh⟩
 have EE := e.mul e
 have oe : Ab (1208925819614629174706176 - E * E) 1208925819614629174706176 := by
  have := EE.hi; have := sq_nonneg E
  exact ⟨by omega, by omega⟩
 have k1 := (a.mul a).mul ((oe.mul F.cs).add (ρ.mul (F.sb.mul F.sb)))
 have ce := a.mul (F.cb.sub e)
 have ou : Ab (u * 1099511627776 + A * (c - E)) (2 * (9211859050600 * (1099511627832 + 109951162777)) + 1099511627776) := by
  have := ce.lo; have := ce.hi; have := F.eu.lo; have := F.eu.hi
  exact ⟨by omega, by omega⟩
 have k2 := F.eu.mul ou
 have η : Ab (2 * (1208925819614629174706176 * v - A * r * s)) 2417851639290831000567808 := by
  have h1 := F.ev; have h2 := F.ew.mul F.sb
  have l1 := h1.lo; have u1 := h1.hi; have l2 := h2.lo; have u2 := h2.hi
  have e1 : 2 * (1208925819614629174706176 * v - A * r * s) = 1099511627776 * (2 * (v * 1099511627776 - w1 * s)) + 2 * (w1 * 1099511627776 - A * r) * s := by grind
  rw [e1]
  exact ⟨by omega, by omega⟩
 have ars := (a.mul rb).mul F.sb
 have ov : Ab (1208925819614629174706176 * v + A * r * s) (2 * (9211859050600 * 1099511627776 * 1099511627832) + 2417851639290831000567808) := by
  have := ars.lo; have := ars.hi; have := η.lo; have := η.hi
  exact ⟨by omega, by omega⟩
 have k3 := η.mul ov
 have key : 2 * (1461501637330902918203684832716283019655932542976 * (u * u + v * v) - lam A E c * lam A E c) = 2 * (A * A * ((1208925819614629174706176 - E * E) * (c * c + s * s - 1208925819614629174706176) + (r * r - (1208925819614629174706176 - E * E)) * (s * s))) + 1208925819614629174706176 * (2 * (u * 1099511627776 - A * (c - E)) * (u * 1099511627776 + A * (c - E))) + 2 * (1208925819614629174706176 * v - A * r * s) * (1208925819614629174706176 * v + A * r * s) := by
  unfold lam
  grind
 have l1 := k1.lo; have u1 := k1.hi; have l2 := k2.lo; have u2 := k2.hi; have l3 := k3.lo; have u3 := k3.hi
 generalize A * A * ((1208925819614629174706176 - E * E) * (c * c + s * s - 1208925819614629174706176) + (r * r - (1208925819614629174706176 - E * E)) * (s * s)) = X at key l1 u1
 generalize 2 * (u * 1099511627776 - A * (c - E)) * (u * 1099511627776 + A * (c - E)) = Y at key l2 u2
 generalize 2 * (1208925819614629174706176 * v - A * r * s) * (1208925819614629174706176 * v + A * r * s) = Z at key l3 u3
 generalize 1461501637330902918203684832716283019655932542976 * (u * u + v * v) - lam A E c * lam A E c = W at key ⊢
 exact ⟨by omega, by omega⟩
theorem flat_bd {A E c s e2 r w1 u v : Int} (F : Flat A E c s e2 r w1 u v) : u * u + v * v ≤ 114847952863389771597086720 := by
 have h := (flat_sq F).hi
 have k := (F.lamb.mul F.lamb).hi
 omega
end Go.Proofs.YtbophanlmkbfeaaGreatDoor
namespace Go.Proofs.YtbophanlmkbfeaaGreatDoor
end Go.Proofs.YtbophanlmkbfeaaGreatDoor
