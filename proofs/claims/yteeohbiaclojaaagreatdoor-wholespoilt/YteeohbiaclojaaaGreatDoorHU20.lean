/-
A part.
A part.
A part.
A part.
A part.
A part.
A part.
A part.
A part.
A part.
A part.
A part.
A part.
A part.
A part.
A part.
A part.
A part.
A part.
A part.
-/
import Derived.Deep.RegionWith
import Derived.Test.YteeohbiaclojaaaGreatDoorHU19
import Derived.Test.YteeohbiaclojaaaGreatDoorHU17
import Derived.Test.YteeohbiaclojaaaGreatDoorHU01
import Derived.Test.YteeohbiaclojaaaGreatDoorHU11
namespace Go.Proofs.YteeohbiaclojaaaGreatDoor
open Go.RowKit
set_option maxRecDepth 100000
set_option maxHeartbeats 20000000
theorem saidR_ok {k : Int} {s : ByteArray} (h : saidOk k s 0 = true) : saidR k s = saidV k s 0 := by
 unfold saidOk at h
 unfold saidR saidV
 by_cases c1 : k = 1
 ·rw [if_pos c1] at h ⊢
  rw [if_pos c1]
  unfold gyroS
  rw [if_pos h]
 rw [if_neg c1] at h ⊢
 rw [if_neg c1]
 by_cases c3 : k = 3
 ·rw [if_pos c3, if_pos c3]
 rw [if_neg c3] at h ⊢
 rw [if_neg c3]
 unfold sunOk at h
 unfold sunR
 rw [if_pos (by simp at h; exact h.1)]
theorem saidV_tail (k : Int) (s : ByteArray) : saidV k (s.extract 6 s.size) 0 = saidV k s 6 := by
 unfold saidV
 simp only [cnt_tail]
theorem saidOk_tail (k : Int) (s : ByteArray) : saidOk k (s.extract 6 s.size) 0 = saidOk k s 6 := by
 unfold saidOk
 simp only [cnt_tail]
theorem kc {W x : World} (h : Below W.heap.size W x) (b j : Nat) (hb : b < W.heap.size) : x.cell? ⟨b, j, none⟩ = W.cell? ⟨b, j, none⟩ := h.cell hb
theorem kf {W x : World} (h : Below W.heap.size W x) (b j : Nat) (hb : b < W.heap.size) : x.frozen? ⟨b, j, none⟩ = W.frozen? ⟨b, j, none⟩ := h.frozen hb
def rdV (r : Int × Int × V3) : Value := .agg #[.int .i64 r.1, .int .i64 r.2.1, .int .i64 r.2.2.1, .int .i64 r.2.2.2.1, .int .i64 r.2.2.2.2]
theorem sread_not (k : Int) (s : ByteArray) (w : World) (hm : s.size ≤ maxLen) (hf : formOk k s = false) :
    Calls Tryz.prog 48 #[.agg #[.int .i64 k, .string s]] w fun e w' => e = .returned (.tuple #[rdV (0, 0, 0, 0, 0), .bool false]) ∧ Below w.heap.size w w' := by
 have hc := scounts_any k
 by_cases c0 : nCounts k = 0
 ·rw [c0] at hc
  go_enter Tryz.func48, Tryz.ntmps48
  go_wp2_with fail
  refine (hc _).mono ?_
  rintro e X ⟨rfl, rfl⟩
  go_wp2_with (with_reducible refine post_stop ?_)
  exact ⟨bodyPost_ret (v := .tuple #[rdV (0, 0, 0, 0, 0), .bool false]) (by unfold rdV; simp [results_cell_tmp Tryz.results48, asAddr, go_sem]) rfl ⟨rfl, bel_al (bel_al (Below.refl _ _) _) _⟩⟩
 ·have hs : ((s.size : Int) != 6 + nCounts k * 2) = true := by
   unfold formOk at hf
   unfold nCounts at c0 ⊢
   simp at hf
   simp
   split
   ·omega
   ·split
    ·omega
    ·omega
  have hn : 0 ≤ nCounts k ∧ nCounts k ≤ 6 := by unfold nCounts; split <;> (try split) <;> omega
  have hm' : (s.size : Int) ≤ 9223372036854775807 := by unfold maxLen at hm; omega
  have c1 : (nCounts k == 0) = false := by simpa using c0
  clear hf c0 hm
  generalize nCounts k = n at *
  go_enter Tryz.func48, Tryz.ntmps48
  go_wp2_with fail
  refine (hc _).mono ?_
  rintro e X ⟨rfl, rfl⟩
  go_wp2_with (with_reducible refine post_stop ?_)
  exact ⟨bodyPost_ret (v := .tuple #[rdV (0, 0, 0, 0, 0), .bool false]) (by unfold rdV; simp [results_cell_tmp Tryz.results48, asAddr, go_sem]) rfl ⟨rfl, bel_al (bel_al (Below.refl _ _) _) _⟩⟩
theorem sread_form (k : Int) (s : ByteArray) (w : World) (hw : GW w) (hf : formOk k s = true) :
    Calls Tryz.prog 48 #[.agg #[.int .i64 k, .string s]] w fun e w' => e = .returned (.tuple #[rdV (readR k s), .bool (readOk k s)]) ∧ Below w.heap.size w w' := by
 have hc := scounts_any k
 have hz : s.size = 12 ∧ nCounts k = 3 ∧ (k = 1 ∨ k = 3) ∨ s.size = 18 ∧ nCounts k = 6 ∧ k = 2 := by
  unfold formOk at hf
  simp at hf
  rcases hf with (⟨rfl, h⟩ | ⟨rfl, h⟩) | ⟨rfl, h⟩
  ·exact Or.inl ⟨h, rfl, Or.inl rfl⟩
  ·exact Or.inl ⟨h, rfl, Or.inr rfl⟩
  ·exact Or.inr ⟨h, rfl, rfl⟩
 have hsl : ∀ W : World, (Instr.slice 9 (.string s) none (some (.int .i64 6)) none).run Tryz.prog W = .ok (.string (s.extract 0 6)) W := fun W => by
  rw [run_slice_string_h W 9 s Tryz.underlying9 .i64 6 (by omega) (by omega)]
  rfl
 have hsr : ∀ W : World, (Instr.slice 9 (.string s) (some (.int .i64 6)) none none).run Tryz.prog W = .ok (.string (s.extract 6 s.size)) W := fun W => by
  rw [run_slice_string_from_if W 9 s .i64 6 Tryz.underlying9, if_pos (by omega)]
  rfl
 have z6 : (s.extract 0 6).size = 6 := by rw [ByteArray.size_extract]; omega
 have zr : (s.extract 6 s.size).size = s.size - 6 := by rw [ByteArray.size_extract]; omega
 have hj := fun W => sjoined_any (s.extract 0 6) W z6
 rw [tick_head] at hj
 have hd := fun W hW => ssaid_any k (s.extract 6 s.size) W hW (by omega) (by omega)
 rw [saidOk_tail] at hd
 have HV : Hid (saidOk k s 6 = true → saidR k (s.extract 6 s.size) = saidV k s 6) := fun h => by
  rw [← saidOk_tail] at h
  rw [saidR_ok h, saidV_tail]
 have HO : Hid (readOk k s = (cRight (tickS s) && saidOk k s 6)) := by show _ = _; unfold readOk; rw [hf, Bool.true_and]
 have HR : Hid (readR k s = if readOk k s then (k, tickS s, saidV k s 6) else (0, 0, 0, 0, 0)) := rfl
 have ht := cRight_any (tickS s)
 have htr := tickS_rng s
 generalize tickS s = t at *
 generalize saidOk k s 6 = o at *
 generalize saidR k (s.extract 6 s.size) = v at *
 generalize s.extract 0 6 = s0 at *
 generalize s.extract 6 s.size = s1 at *
 obtain ⟨n, hn⟩ : ∃ n, nCounts k = n := ⟨_, rfl⟩
 rw [hn] at hc hz
 have hs12 : (s.size : Int) = 6 + n * 2 := by omega
 have hn6 : n = 3 ∨ n = 6 := by omega
 clear hn hf z6 zr
 unfold rdV vecV at *
 go_enter Tryz.func48, Tryz.ntmps48
 go_wp2_with fail
 refine (hc _).mono ?_
 rintro e X ⟨rfl, rfl⟩
 go_wp2_with fail
 refine (hj _).mono ?_
 rintro e X1 ⟨rfl, k1⟩
 have L1 := bel_then (bel_al (bel_al (Below.refl _ w) _) _) k1
 have B1 := ((Arr_at w w.heap.size [.int .i64 k, .string s] 26 rfl).alloc _).below k1
 have R1 := (Arr_at (w.alloc (.cells #[.int .i64 k, .string s] 26)) (w.heap.size + 1) [.int .i64 0, .int .i64 0, .int .i64 0, .int .i64 0, .int .i64 0] 66 (by simp)).below k1
 have Rz := R1.lies
 have Bz := B1.lies
 have cB0 : X1.cell? ⟨w.heap.size, 0, none⟩ = some (.int .i64 k) := B1.c 0 (zD rfl)
 have cB1 : X1.cell? ⟨w.heap.size, 1, none⟩ = some (.string s) := B1.c 1 (zD rfl)
 clear k1
 go_wp2_with fail
 go_region_with (go_at_call 113; refine (hd _ (by first | exact hw.below (bel_drew L1) | exact hw.below (bel_drew (bel_al L1 _)))).mono ?_; rintro e X2 ⟨rfl, k2⟩; have q0 := kc k2 X1.heap.size 0; have q1 := kc k2 X1.heap.size 1; have q2 := kc k2 X1.heap.size 2; have p0 := kf k2 X1.heap.size 0; have p1 := kf k2 X1.heap.size 1; have p2 := kf k2 X1.heap.size 2)
 all_goals first
  | (have L2 := bel_then (bel_drew L1) k2
     have B2 := (B1.drew).below k2
     have R2 := (R1.drew).below k2
     have z2 := k2.size
     have LY := bel_al L2 (.cells #[.int .i64 v.1, .int .i64 v.2.1, .int .i64 v.2.2] 38)
     have BY := B2.alloc (.cells #[.int .i64 v.1, .int .i64 v.2.1, .int .i64 v.2.2] 38)
     have RY := R2.alloc (.cells #[.int .i64 v.1, .int .i64 v.2.1, .int .i64 v.2.2] 38)
     have VY := Arr_at X2 X2.heap.size [.int .i64 v.1, .int .i64 v.2.1, .int .i64 v.2.2] 38 rfl
     have hbw := R2.lies
     obtain ⟨Y, hY⟩ : ∃ Y, Y = X2.alloc (.cells #[.int .i64 v.1, .int .i64 v.2.1, .int .i64 v.2.2] 38) := ⟨_, rfl⟩
     rw [← hY] at LY BY RY ⊢
     rw [show X2.alloc (.cells [.int .i64 v.1, .int .i64 v.2.1, .int .i64 v.2.2].toArray 38) = Y from hY.symm] at VY
     obtain ⟨b, hb⟩ : ∃ b, b = X2.heap.size := ⟨_, rfl⟩
     rw [← hb] at VY hbw ⊢
     clear hY hb k2 L2 B2 R2 z2 q0 q1 q2 p0 p1 p2)
  | (have L2 := bel_then (bel_drew (bel_al L1 _)) k2
     have B2 := ((B1.alloc _).drew).below k2
     have R2 := ((R1.alloc _).drew).below k2
     have V2 := ((Arr_at X1 X1.heap.size [.int .i64 0, .int .i64 0, .int .i64 0] 38 rfl).drew).below k2
     have LY := bel_new (bel_new (bel_new L2 X1.heap.size 0 (by omega) (.int .i64 v.1)) X1.heap.size 1 (by omega) (.int .i64 v.2.1)) X1.heap.size 2 (by omega) (.int .i64 v.2.2)
     have BY := ((B2.new X1.heap.size 0 (by omega) (.int .i64 v.1)).new X1.heap.size 1 (by omega) (.int .i64 v.2.1)).new X1.heap.size 2 (by omega) (.int .i64 v.2.2)
     have RY := ((R2.new X1.heap.size 0 (by omega) (.int .i64 v.1)).new X1.heap.size 1 (by omega) (.int .i64 v.2.1)).new X1.heap.size 2 (by omega) (.int .i64 v.2.2)
     have VY := ((V2.put 0 (zD rfl) (.int .i64 v.1) [.int .i64 v.1, .int .i64 0, .int .i64 0] rfl).put 1 (zD rfl) (.int .i64 v.2.1) [.int .i64 v.1, .int .i64 v.2.1, .int .i64 0] rfl).put 2 (zD rfl) (.int .i64 v.2.2) [.int .i64 v.1, .int .i64 v.2.1, .int .i64 v.2.2] rfl
     have hbw : w.heap.size + 1 < X1.heap.size := Rz
     obtain ⟨Y, hY⟩ : ∃ Y, Y = ((X2.setCell ⟨X1.heap.size, 0, none⟩ (.int .i64 v.1)).setCell ⟨X1.heap.size, 1, none⟩ (.int .i64 v.2.1)).setCell ⟨X1.heap.size, 2, none⟩ (.int .i64 v.2.2) := ⟨_, rfl⟩
     rw [← hY] at LY BY RY VY ⊢
     obtain ⟨b, hb⟩ : ∃ b, b = X1.heap.size := ⟨_, rfl⟩
     rw [← hb] at VY hbw ⊢
     clear hY hb k2 L2 B2 R2 V2 q0 q1 q2 p0 p1 p2)
 all_goals
  have Vz := VY.lies
  have Ry := RY.lies
  clear L1 B1 R1 Rz Bz cB0 cB1 X2
  cases o
  ·have cR_0 : Y.cell? ⟨w.heap.size + 1, 0, none⟩ = some (.int .i64 0) := RY.c 0 (zD rfl)
   have gR_0 := RY.f 0 (zD rfl)
   have cR_1 : Y.cell? ⟨w.heap.size + 1, 1, none⟩ = some (.int .i64 0) := RY.c 1 (zD rfl)
   have gR_1 := RY.f 1 (zD rfl)
   have cR_2 : Y.cell? ⟨w.heap.size + 1, 2, none⟩ = some (.int .i64 0) := RY.c 2 (zD rfl)
   have gR_2 := RY.f 2 (zD rfl)
   have cR_3 : Y.cell? ⟨w.heap.size + 1, 3, none⟩ = some (.int .i64 0) := RY.c 3 (zD rfl)
   have gR_3 := RY.f 3 (zD rfl)
   have cR_4 : Y.cell? ⟨w.heap.size + 1, 4, none⟩ = some (.int .i64 0) := RY.c 4 (zD rfl)
   have gR_4 := RY.f 4 (zD rfl)
   go_wp2_with (with_reducible refine post_stop ?_)
   have d0 := Arr.c (((((RY.put 0 (zD rfl) (.int .i64 0) [.int .i64 0, .int .i64 0, .int .i64 0, .int .i64 0, .int .i64 0] rfl).put 1 (zD rfl) (.int .i64 0) [.int .i64 0, .int .i64 0, .int .i64 0, .int .i64 0, .int .i64 0] rfl).put 2 (zD rfl) (.int .i64 0) [.int .i64 0, .int .i64 0, .int .i64 0, .int .i64 0, .int .i64 0] rfl).put 3 (zD rfl) (.int .i64 0) [.int .i64 0, .int .i64 0, .int .i64 0, .int .i64 0, .int .i64 0] rfl).put 4 (zD rfl) (.int .i64 0) [.int .i64 0, .int .i64 0, .int .i64 0, .int .i64 0, .int .i64 0] rfl) 0 (zD rfl)
   have d1 := Arr.c (((((RY.put 0 (zD rfl) (.int .i64 0) [.int .i64 0, .int .i64 0, .int .i64 0, .int .i64 0, .int .i64 0] rfl).put 1 (zD rfl) (.int .i64 0) [.int .i64 0, .int .i64 0, .int .i64 0, .int .i64 0, .int .i64 0] rfl).put 2 (zD rfl) (.int .i64 0) [.int .i64 0, .int .i64 0, .int .i64 0, .int .i64 0, .int .i64 0] rfl).put 3 (zD rfl) (.int .i64 0) [.int .i64 0, .int .i64 0, .int .i64 0, .int .i64 0, .int .i64 0] rfl).put 4 (zD rfl) (.int .i64 0) [.int .i64 0, .int .i64 0, .int .i64 0, .int .i64 0, .int .i64 0] rfl) 1 (zD rfl)
   have d2 := Arr.c (((((RY.put 0 (zD rfl) (.int .i64 0) [.int .i64 0, .int .i64 0, .int .i64 0, .int .i64 0, .int .i64 0] rfl).put 1 (zD rfl) (.int .i64 0) [.int .i64 0, .int .i64 0, .int .i64 0, .int .i64 0, .int .i64 0] rfl).put 2 (zD rfl) (.int .i64 0) [.int .i64 0, .int .i64 0, .int .i64 0, .int .i64 0, .int .i64 0] rfl).put 3 (zD rfl) (.int .i64 0) [.int .i64 0, .int .i64 0, .int .i64 0, .int .i64 0, .int .i64 0] rfl).put 4 (zD rfl) (.int .i64 0) [.int .i64 0, .int .i64 0, .int .i64 0, .int .i64 0, .int .i64 0] rfl) 2 (zD rfl)
   have d3 := Arr.c (((((RY.put 0 (zD rfl) (.int .i64 0) [.int .i64 0, .int .i64 0, .int .i64 0, .int .i64 0, .int .i64 0] rfl).put 1 (zD rfl) (.int .i64 0) [.int .i64 0, .int .i64 0, .int .i64 0, .int .i64 0, .int .i64 0] rfl).put 2 (zD rfl) (.int .i64 0) [.int .i64 0, .int .i64 0, .int .i64 0, .int .i64 0, .int .i64 0] rfl).put 3 (zD rfl) (.int .i64 0) [.int .i64 0, .int .i64 0, .int .i64 0, .int .i64 0, .int .i64 0] rfl).put 4 (zD rfl) (.int .i64 0) [.int .i64 0, .int .i64 0, .int .i64 0, .int .i64 0, .int .i64 0] rfl) 3 (zD rfl)
   have d4 := Arr.c (((((RY.put 0 (zD rfl) (.int .i64 0) [.int .i64 0, .int .i64 0, .int .i64 0, .int .i64 0, .int .i64 0] rfl).put 1 (zD rfl) (.int .i64 0) [.int .i64 0, .int .i64 0, .int .i64 0, .int .i64 0, .int .i64 0] rfl).put 2 (zD rfl) (.int .i64 0) [.int .i64 0, .int .i64 0, .int .i64 0, .int .i64 0, .int .i64 0] rfl).put 3 (zD rfl) (.int .i64 0) [.int .i64 0, .int .i64 0, .int .i64 0, .int .i64 0, .int .i64 0] rfl).put 4 (zD rfl) (.int .i64 0) [.int .i64 0, .int .i64 0, .int .i64 0, .int .i64 0, .int .i64 0] rfl) 4 (zD rfl)
   simp only [List.getElem_cons_zero, List.getElem_cons_succ] at d0 d1 d2 d3 d4
   exact ⟨bodyPost_ret (v := .tuple #[.agg #[.int .i64 0, .int .i64 0, .int .i64 0, .int .i64 0, .int .i64 0], .bool false]) (by simp [results_cell_tmp Tryz.results48, asAddr, go_sem, d0, d1, d2, d3, d4]) rfl ⟨by rw [HR.out, HO.out, Bool.and_false]; rfl, (bel_new (bel_new (bel_new (bel_new (bel_new LY _ _ (by omega) _) _ _ (by omega) _) _ _ (by omega) _) _ _ (by omega) _) _ _ (by omega) _)⟩⟩
  ·go_wp2_with fail
   refine (ht _).mono ?_
   rintro e U ⟨rfl, ku⟩
   have LU := bel_then LY ku
   have BU := BY.below ku
   have RU := RY.below ku
   have VU := VY.below ku
   have Vu := VU.lies
   have Ru := RU.lies
   clear ku LY BY RY VY Vz Ry ht
   cases hcr : cRight t
   ·have HC : Hid (cRight t = false) := hcr
    clear hcr
    have cR_0 : U.cell? ⟨w.heap.size + 1, 0, none⟩ = some (.int .i64 0) := RU.c 0 (zD rfl)
    have gR_0 := RU.f 0 (zD rfl)
    have cR_1 : U.cell? ⟨w.heap.size + 1, 1, none⟩ = some (.int .i64 0) := RU.c 1 (zD rfl)
    have gR_1 := RU.f 1 (zD rfl)
    have cR_2 : U.cell? ⟨w.heap.size + 1, 2, none⟩ = some (.int .i64 0) := RU.c 2 (zD rfl)
    have gR_2 := RU.f 2 (zD rfl)
    have cR_3 : U.cell? ⟨w.heap.size + 1, 3, none⟩ = some (.int .i64 0) := RU.c 3 (zD rfl)
    have gR_3 := RU.f 3 (zD rfl)
    have cR_4 : U.cell? ⟨w.heap.size + 1, 4, none⟩ = some (.int .i64 0) := RU.c 4 (zD rfl)
    have gR_4 := RU.f 4 (zD rfl)
    go_wp2_with (with_reducible refine post_stop ?_)
    have d0 := Arr.c (((((RU.put 0 (zD rfl) (.int .i64 0) [.int .i64 0, .int .i64 0, .int .i64 0, .int .i64 0, .int .i64 0] rfl).put 1 (zD rfl) (.int .i64 0) [.int .i64 0, .int .i64 0, .int .i64 0, .int .i64 0, .int .i64 0] rfl).put 2 (zD rfl) (.int .i64 0) [.int .i64 0, .int .i64 0, .int .i64 0, .int .i64 0, .int .i64 0] rfl).put 3 (zD rfl) (.int .i64 0) [.int .i64 0, .int .i64 0, .int .i64 0, .int .i64 0, .int .i64 0] rfl).put 4 (zD rfl) (.int .i64 0) [.int .i64 0, .int .i64 0, .int .i64 0, .int .i64 0, .int .i64 0] rfl) 0 (zD rfl)
    have d1 := Arr.c (((((RU.put 0 (zD rfl) (.int .i64 0) [.int .i64 0, .int .i64 0, .int .i64 0, .int .i64 0, .int .i64 0] rfl).put 1 (zD rfl) (.int .i64 0) [.int .i64 0, .int .i64 0, .int .i64 0, .int .i64 0, .int .i64 0] rfl).put 2 (zD rfl) (.int .i64 0) [.int .i64 0, .int .i64 0, .int .i64 0, .int .i64 0, .int .i64 0] rfl).put 3 (zD rfl) (.int .i64 0) [.int .i64 0, .int .i64 0, .int .i64 0, .int .i64 0, .int .i64 0] rfl).put 4 (zD rfl) (.int .i64 0) [.int .i64 0, .int .i64 0, .int .i64 0, .int .i64 0, .int .i64 0] rfl) 1 (zD rfl)
    have d2 := Arr.c (((((RU.put 0 (zD rfl) (.int .i64 0) [.int .i64 0, .int .i64 0, .int .i64 0, .int .i64 0, .int .i64 0] rfl).put 1 (zD rfl) (.int .i64 0) [.int .i64 0, .int .i64 0, .int .i64 0, .int .i64 0, .int .i64 0] rfl).put 2 (zD rfl) (.int .i64 0) [.int .i64 0, .int .i64 0, .int .i64 0, .int .i64 0, .int .i64 0] rfl).put 3 (zD rfl) (.int .i64 0) [.int .i64 0, .int .i64 0, .int .i64 0, .int .i64 0, .int .i64 0] rfl).put 4 (zD rfl) (.int .i64 0) [.int .i64 0, .int .i64 0, .int .i64 0, .int .i64 0, .int .i64 0] rfl) 2 (zD rfl)
    have d3 := Arr.c (((((RU.put 0 (zD rfl) (.int .i64 0) [.int .i64 0, .int .i64 0, .int .i64 0, .int .i64 0, .int .i64 0] rfl).put 1 (zD rfl) (.int .i64 0) [.int .i64 0, .int .i64 0, .int .i64 0, .int .i64 0, .int .i64 0] rfl).put 2 (zD rfl) (.int .i64 0) [.int .i64 0, .int .i64 0, .int .i64 0, .int .i64 0, .int .i64 0] rfl).put 3 (zD rfl) (.int .i64 0) [.int .i64 0, .int .i64 0, .int .i64 0, .int .i64 0, .int .i64 0] rfl).put 4 (zD rfl) (.int .i64 0) [.int .i64 0, .int .i64 0, .int .i64 0, .int .i64 0, .int .i64 0] rfl) 3 (zD rfl)
    have d4 := Arr.c (((((RU.put 0 (zD rfl) (.int .i64 0) [.int .i64 0, .int .i64 0, .int .i64 0, .int .i64 0, .int .i64 0] rfl).put 1 (zD rfl) (.int .i64 0) [.int .i64 0, .int .i64 0, .int .i64 0, .int .i64 0, .int .i64 0] rfl).put 2 (zD rfl) (.int .i64 0) [.int .i64 0, .int .i64 0, .int .i64 0, .int .i64 0, .int .i64 0] rfl).put 3 (zD rfl) (.int .i64 0) [.int .i64 0, .int .i64 0, .int .i64 0, .int .i64 0, .int .i64 0] rfl).put 4 (zD rfl) (.int .i64 0) [.int .i64 0, .int .i64 0, .int .i64 0, .int .i64 0, .int .i64 0] rfl) 4 (zD rfl)
    simp only [List.getElem_cons_zero, List.getElem_cons_succ] at d0 d1 d2 d3 d4
    exact ⟨bodyPost_ret (v := .tuple #[.agg #[.int .i64 0, .int .i64 0, .int .i64 0, .int .i64 0, .int .i64 0], .bool false]) (by simp [results_cell_tmp Tryz.results48, asAddr, go_sem, d0, d1, d2, d3, d4]) rfl ⟨by rw [HR.out, HO.out, HC.out]; rfl, (bel_new (bel_new (bel_new (bel_new (bel_new LU _ _ (by omega) _) _ _ (by omega) _) _ _ (by omega) _) _ _ (by omega) _) _ _ (by omega) _)⟩⟩
   ·have HC : Hid (cRight t = true) := hcr
    have hv := HV.out (by trivial)
    have HW : Hid (v = saidV k s 6) := hv
    clear hcr hv
    have cB0 : U.cell? ⟨w.heap.size, 0, none⟩ = some (.int .i64 k) := BU.c 0 (zD rfl)
    have cV0 : U.cell? ⟨b, 0, none⟩ = some (.int .i64 v.1) := VU.c 0 (zD rfl)
    have cV1 : U.cell? ⟨b, 1, none⟩ = some (.int .i64 v.2.1) := VU.c 1 (zD rfl)
    have cV2 : U.cell? ⟨b, 2, none⟩ = some (.int .i64 v.2.2) := VU.c 2 (zD rfl)
    have cR_0 : U.cell? ⟨w.heap.size + 1, 0, none⟩ = some (.int .i64 0) := RU.c 0 (zD rfl)
    have gR_0 := RU.f 0 (zD rfl)
    have cR_1 : U.cell? ⟨w.heap.size + 1, 1, none⟩ = some (.int .i64 0) := RU.c 1 (zD rfl)
    have gR_1 := RU.f 1 (zD rfl)
    have cR_2 : U.cell? ⟨w.heap.size + 1, 2, none⟩ = some (.int .i64 0) := RU.c 2 (zD rfl)
    have gR_2 := RU.f 2 (zD rfl)
    have cR_3 : U.cell? ⟨w.heap.size + 1, 3, none⟩ = some (.int .i64 0) := RU.c 3 (zD rfl)
    have gR_3 := RU.f 3 (zD rfl)
    have cR_4 : U.cell? ⟨w.heap.size + 1, 4, none⟩ = some (.int .i64 0) := RU.c 4 (zD rfl)
    have gR_4 := RU.f 4 (zD rfl)
    go_wp2_with (with_reducible refine post_stop ?_)
    have d0 := Arr.c (((((RU.put 0 (zD rfl) (.int .i64 k) [.int .i64 k, .int .i64 0, .int .i64 0, .int .i64 0, .int .i64 0] rfl).put 1 (zD rfl) (.int .i64 t) [.int .i64 k, .int .i64 t, .int .i64 0, .int .i64 0, .int .i64 0] rfl).put 2 (zD rfl) (.int .i64 v.1) [.int .i64 k, .int .i64 t, .int .i64 v.1, .int .i64 0, .int .i64 0] rfl).put 3 (zD rfl) (.int .i64 v.2.1) [.int .i64 k, .int .i64 t, .int .i64 v.1, .int .i64 v.2.1, .int .i64 0] rfl).put 4 (zD rfl) (.int .i64 v.2.2) [.int .i64 k, .int .i64 t, .int .i64 v.1, .int .i64 v.2.1, .int .i64 v.2.2] rfl) 0 (zD rfl)
    have d1 := Arr.c (((((RU.put 0 (zD rfl) (.int .i64 k) [.int .i64 k, .int .i64 0, .int .i64 0, .int .i64 0, .int .i64 0] rfl).put 1 (zD rfl) (.int .i64 t) [.int .i64 k, .int .i64 t, .int .i64 0, .int .i64 0, .int .i64 0] rfl).put 2 (zD rfl) (.int .i64 v.1) [.int .i64 k, .int .i64 t, .int .i64 v.1, .int .i64 0, .int .i64 0] rfl).put 3 (zD rfl) (.int .i64 v.2.1) [.int .i64 k, .int .i64 t, .int .i64 v.1, .int .i64 v.2.1, .int .i64 0] rfl).put 4 (zD rfl) (.int .i64 v.2.2) [.int .i64 k, .int .i64 t, .int .i64 v.1, .int .i64 v.2.1, .int .i64 v.2.2] rfl) 1 (zD rfl)
    have d2 := Arr.c (((((RU.put 0 (zD rfl) (.int .i64 k) [.int .i64 k, .int .i64 0, .int .i64 0, .int .i64 0, .int .i64 0] rfl).put 1 (zD rfl) (.int .i64 t) [.int .i64 k, .int .i64 t, .int .i64 0, .int .i64 0, .int .i64 0] rfl).put 2 (zD rfl) (.int .i64 v.1) [.int .i64 k, .int .i64 t, .int .i64 v.1, .int .i64 0, .int .i64 0] rfl).put 3 (zD rfl) (.int .i64 v.2.1) [.int .i64 k, .int .i64 t, .int .i64 v.1, .int .i64 v.2.1, .int .i64 0] rfl).put 4 (zD rfl) (.int .i64 v.2.2) [.int .i64 k, .int .i64 t, .int .i64 v.1, .int .i64 v.2.1, .int .i64 v.2.2] rfl) 2 (zD rfl)
    have d3 := Arr.c (((((RU.put 0 (zD rfl) (.int .i64 k) [.int .i64 k, .int .i64 0, .int .i64 0, .int .i64 0, .int .i64 0] rfl).put 1 (zD rfl) (.int .i64 t) [.int .i64 k, .int .i64 t, .int .i64 0, .int .i64 0, .int .i64 0] rfl).put 2 (zD rfl) (.int .i64 v.1) [.int .i64 k, .int .i64 t, .int .i64 v.1, .int .i64 0, .int .i64 0] rfl).put 3 (zD rfl) (.int .i64 v.2.1) [.int .i64 k, .int .i64 t, .int .i64 v.1, .int .i64 v.2.1, .int .i64 0] rfl).put 4 (zD rfl) (.int .i64 v.2.2) [.int .i64 k, .int .i64 t, .int .i64 v.1, .int .i64 v.2.1, .int .i64 v.2.2] rfl) 3 (zD rfl)
    have d4 := Arr.c (((((RU.put 0 (zD rfl) (.int .i64 k) [.int .i64 k, .int .i64 0, .int .i64 0, .int .i64 0, .int .i64 0] rfl).put 1 (zD rfl) (.int .i64 t) [.int .i64 k, .int .i64 t, .int .i64 0, .int .i64 0, .int .i64 0] rfl).put 2 (zD rfl) (.int .i64 v.1) [.int .i64 k, .int .i64 t, .int .i64 v.1, .int .i64 0, .int .i64 0] rfl).put 3 (zD rfl) (.int .i64 v.2.1) [.int .i64 k, .int .i64 t, .int .i64 v.1, .int .i64 v.2.1, .int .i64 0] rfl).put 4 (zD rfl) (.int .i64 v.2.2) [.int .i64 k, .int .i64 t, .int .i64 v.1, .int .i64 v.2.1, .int .i64 v.2.2] rfl) 4 (zD rfl)
    simp only [List.getElem_cons_zero, List.getElem_cons_succ] at d0 d1 d2 d3 d4
    exact ⟨bodyPost_ret (v := .tuple #[.agg #[.int .i64 k, .int .i64 t, .int .i64 v.1, .int .i64 v.2.1, .int .i64 v.2.2], .bool true]) (by simp [results_cell_tmp Tryz.results48, asAddr, go_sem, d0, d1, d2, d3, d4]) rfl ⟨by rw [HR.out, HO.out, HC.out, HW.out]; rfl, (bel_new (bel_new (bel_new (bel_new (bel_new LU _ _ (by omega) _) _ _ (by omega) _) _ _ (by omega) _) _ _ (by omega) _) _ _ (by omega) _)⟩⟩
end Go.Proofs.YteeohbiaclojaaaGreatDoor
namespace Go.Proofs.YteeohbiaclojaaaGreatDoor
open Go.RowKit
def stepS (u d : Int) (p : Int × Bool) : Int × Bool :=
 subS (partS (mulS p.2 u p.1).2 (mulS p.2 u p.1).1 1 d).2 1099511627776 (partS (mulS p.2 u p.1).2 (mulS p.2 u p.1).1 1 d).1
def serS (dd : Int → Int) (u : Int) : Nat → Int × Bool → Int × Bool
 | 0, p => p
 | n + 1, p => serS dd u n (stepS u (dd (n + 1)) p)
def dSin (n : Int) : Int := 2 * n * (2 * n + 1)
def dCos (n : Int) : Int := (2 * n - 1) * 2 * n
def cosS (bad : Bool) (t : Int) : Int × Bool := serS dCos (mulS bad t t).1 10 (1099511627776, (mulS bad t t).2)
def sinV (bad : Bool) (t : Int) : Int × Bool := serS dSin (mulS bad t t).1 10 (1099511627776, (mulS bad t t).2)
def sinS (bad : Bool) (t : Int) : Int × Bool := mulS (sinV bad t).2 t (sinV bad t).1
def rest4 (bad : Bool) (a : Int) : Int := (modS bad a 6908435304716).1
def badM (bad : Bool) (a : Int) : Bool := (modS bad a 6908435304716).2
def quart (bad : Bool) (a : Int) : Int := rest4 bad a / 1727108826179
def inq (bad : Bool) (a : Int) : Int := rest4 bad a - quart bad a * 1727108826179
def neg1 (p : Int × Bool) : Int × Bool := (-p.1, p.2)
def pick (k : Int) (bad : Bool) (t : Int) : Int × Bool :=
 if k = 0 then sinS bad t else if k = 1 then cosS bad t else if k = 2 then neg1 (sinS bad t) else neg1 (cosS bad t)
def sinA (bad : Bool) (a : Int) : Int × Bool := pick (quart bad a) (badM bad a) (inq bad a)
def cosA (bad : Bool) (a : Int) : Int × Bool := pick (if quart bad a = 3 then 0 else quart bad a + 1) (badM bad a) (inq bad a)
end Go.Proofs.YteeohbiaclojaaaGreatDoor

namespace Go.Proofs.YteeohbiaclojaaaGreatDoor
end Go.Proofs.YteeohbiaclojaaaGreatDoor
namespace Go.Proofs.YteeohbiaclojaaaGreatDoor
end Go.Proofs.YteeohbiaclojaaaGreatDoor
namespace Go.Proofs.YteeohbiaclojaaaGreatDoor
end Go.Proofs.YteeohbiaclojaaaGreatDoor
namespace Go.Proofs.YteeohbiaclojaaaGreatDoor
structure Nr (K S P : Int) : Prop where
 lo : -(3 * K) ≤ S * K - 1099511627776 * P
 hi : S * K - 1099511627776 * P ≤ 3 * K
 bl : -2199023255552 ≤ S
 bh : S ≤ 2199023255552
theorem Nr.neg {K S P : Int} (h : Nr K S P) : Nr K (-S) (-P) := by
 have h1 := h.lo
 have h2 := h.hi
 have h3 := h.bl
 have h4 := h.bh
 constructor
 ·rw [Int.neg_mul]; omega
 ·rw [Int.neg_mul]; omega
 ·omega
 ·omega
end Go.Proofs.YteeohbiaclojaaaGreatDoor
namespace Go.Proofs.YteeohbiaclojaaaGreatDoor
open Go.RowKit
set_option linter.unusedSimpArgs false
end Go.Proofs.YteeohbiaclojaaaGreatDoor
namespace Go.Proofs.YteeohbiaclojaaaGreatDoor
open Go.RowKit
structure Ab (x K : Int) : Prop where
 lo : -K ≤ x
 hi : x ≤ K
theorem Ab.add {x y K L : Int} (h : Ab x K) (k : Ab y L) : Ab (x + y) (K + L) := ⟨by have := h.lo; have := k.lo; omega, by have := h.hi; have := k.hi; omega⟩
theorem Ab.sub {x y K L : Int} (h : Ab x K) (k : Ab y L) : Ab (x - y) (K + L) := ⟨by have := h.lo; have := k.hi; omega, by have := h.hi; have := k.lo; omega⟩
theorem Ab.neg {x K : Int} (h : Ab x K) : Ab (-x) K := ⟨by have := h.hi; omega, by have := h.lo; omega⟩
theorem Ab.mul {x y K L : Int} (h : Ab x K) (k : Ab y L) : Ab (x * y) (K * L) := by
 have := absmul ⟨h.lo, h.hi⟩ ⟨k.lo, k.hi⟩
 exact ⟨this.1, this.2⟩
theorem Ab.le {x K L : Int} (h : Ab x K) (k : K ≤ L) : Ab x L := ⟨by have := h.lo; omega, by have := h.hi; omega⟩
theorem Ab.two : Ab 2 2 := ⟨by decide, by decide⟩
theorem Ab.zero {K : Int} (h : 0 ≤ K) : Ab 0 K := ⟨by omega, h⟩
theorem Ab.numB {x K : Int} (h : Ab x K) (k : K ≤ 4611686018427387904) : numB x = true := numB_of ⟨by have := h.lo; omega, by have := h.hi; omega⟩
theorem add_near {a b K L : Int} (ha : Ab a K) (hb : Ab b L) (h : K + L ≤ 4611686018427387904) (h1 : K ≤ 4611686018427387904) (h2 : L ≤ 4611686018427387904) : addS false a b = (a + b, false) :=
 addS_good a b (ha.numB h1) (hb.numB h2) ((ha.add hb).numB h)
theorem sub_near {a b K L : Int} (ha : Ab a K) (hb : Ab b L) (h : K + L ≤ 4611686018427387904) (h1 : K ≤ 4611686018427387904) (h2 : L ≤ 4611686018427387904) : subS false a b = (a - b, false) :=
 subS_good a b (ha.numB h1) (hb.numB h2) ((ha.sub hb).numB h)
end Go.Proofs.YteeohbiaclojaaaGreatDoor
namespace Go.Proofs.YteeohbiaclojaaaGreatDoor
end Go.Proofs.YteeohbiaclojaaaGreatDoor
namespace Go.Proofs.YteeohbiaclojaaaGreatDoor
end Go.Proofs.YteeohbiaclojaaaGreatDoor
namespace Go.Proofs.YteeohbiaclojaaaGreatDoor
theorem ab_of_sq {a K : Int} (hK : 0 ≤ K) (h : a * a ≤ K * K) : Ab a K := by
 refine ⟨?_, ?_⟩
 ·apply Classical.byContradiction
  intro g
  have := Int.mul_le_mul (show K + 1 ≤ -a by omega) (show K + 1 ≤ -a by omega) (by omega) (by omega)
  rw [Int.neg_mul_neg] at this
  have e : (K + 1) * (K + 1) = K * K + 2 * K + 1 := by grind
  omega
 ·apply Classical.byContradiction
  intro g
  have := Int.mul_le_mul (show K + 1 ≤ a by omega) (show K + 1 ≤ a by omega) (by omega) (by omega)
  have e : (K + 1) * (K + 1) = K * K + 2 * K + 1 := by grind
  omega
theorem rot_sq {u v c s a b : Int} (hM : u * u + v * v ≤ 120892581961462917470617600) (cb : Ab c 1099511627832) (sb : Ab s 1099511627832) (hcs : Ab (c * c + s * s - 1208925819614629174706176) 123145302310912)
    (ha : Ab (1099511627776 * a - (u * c - v * s)) 1099511627776) (hb : Ab (1099511627776 * b - (u * s + v * c)) 1099511627776) : Ab (a * a + b * b - (u * u + v * v)) 12457466742702080 := by
 have u0 := sq_nonneg u
 have v0 := sq_nonneg v
 have ub : Ab u 10995116277760 := ab_of_sq (by decide) (by omega)
 have vb : Ab v 10995116277760 := ab_of_sq (by decide) (by omega)
 have P := (ub.mul cb).sub (vb.mul sb)
 have Q := (ub.mul sb).add (vb.mul cb)
 have PA : Ab (u * c - v * s + 1099511627776 * a) (2 * (10995116277760 * 1099511627832 + 10995116277760 * 1099511627832) + 1099511627776) := by
  have p1 := P.lo; have p2 := P.hi; have h1 := ha.lo; have h2 := ha.hi
  exact ⟨by omega, by omega⟩
 have QB : Ab (u * s + v * c + 1099511627776 * b) (2 * (10995116277760 * 1099511627832 + 10995116277760 * 1099511627832) + 1099511627776) := by
  have p1 := Q.lo; have p2 := Q.hi; have h1 := hb.lo; have h2 := hb.hi
  exact ⟨by omega, by omega⟩
 have t1 := ha.mul PA
 have t2 := hb.mul QB
 have uv : Ab (u * u + v * v) 120892581961462917470617600 := ⟨by omega, hM⟩
 have t3 := uv.mul hcs
 have key : 1208925819614629174706176 * (a * a + b * b - (u * u + v * v)) = (u * u + v * v) * (c * c + s * s - 1208925819614629174706176) + (1099511627776 * a - (u * c - v * s)) * (u * c - v * s + 1099511627776 * a) + (1099511627776 * b - (u * s + v * c)) * (u * s + v * c + 1099511627776 * b) := by grind
 have l1 := t1.lo; have h1 := t1.hi; have l2 := t2.lo; have h2 := t2.hi; have l3 := t3.lo; have h3 := t3.hi
 generalize (u * u + v * v) * (c * c + s * s - 1208925819614629174706176) = X at key l3 h3
 generalize (1099511627776 * a - (u * c - v * s)) * (u * c - v * s + 1099511627776 * a) = Y at key l1 h1
 generalize (1099511627776 * b - (u * s + v * c)) * (u * s + v * c + 1099511627776 * b) = Z at key l2 h2
 generalize a * a + b * b - (u * u + v * v) = W at key
 exact ⟨by omega, by omega⟩
structure Flat (A E c s e2 r w1 u v : Int) : Prop where
 A1 : 7146825580544 ≤ A
 A2 : A ≤ 9211859050600
 E1 : 0 ≤ E
 E2 : E ≤ 109951162777
 cb : Ab c 1099511627832
 sb : Ab s 1099511627832
 cs : Ab (c * c + s * s - 1208925819614629174706176) 123145302310912
 eu : Ab (2 * (u * 1099511627776 - A * (c - E))) 1099511627776
 ee : Ab (2 * (e2 * 1099511627776 - E * E)) 1099511627776
 r0 : 0 ≤ r
 r1 : r * r ≤ (1099511627776 - e2) * 1099511627776
 r2 : (1099511627776 - e2) * 1099511627776 < (r + 1) * (r + 1)
 ew : Ab (2 * (w1 * 1099511627776 - A * r)) 1099511627776
 ev : Ab (2 * (v * 1099511627776 - w1 * s)) 1099511627776
end Go.Proofs.YteeohbiaclojaaaGreatDoor
namespace Go.Proofs.YteeohbiaclojaaaGreatDoor
end Go.Proofs.YteeohbiaclojaaaGreatDoor
namespace Go.Proofs.YteeohbiaclojaaaGreatDoor
structure Sc (s c : Int) : Prop where
 sb : Ab s 1099511627832
 cb : Ab c 1099511627832
 cs : Ab (c * c + s * s - 1208925819614629174706176) 123145302310912
structure Trn (u v s c m1 m2 m3 m4 : Int) : Prop where
 p1 : Ab (2 * (m1 * 1099511627776 - u * c)) 1099511627776
 p2 : Ab (2 * (m2 * 1099511627776 - v * s)) 1099511627776
 p3 : Ab (2 * (m3 * 1099511627776 - u * s)) 1099511627776
 p4 : Ab (2 * (m4 * 1099511627776 - v * c)) 1099511627776
theorem Trn.sq {u v s c m1 m2 m3 m4 : Int} (T : Trn u v s c m1 m2 m3 m4) (Z : Sc s c) (hM : u * u + v * v ≤ 120892581961462917470617600) : Ab ((m1 - m2) * (m1 - m2) + (m3 + m4) * (m3 + m4) - (u * u + v * v)) 12457466742702080 := by
 have a1 := T.p1.lo; have b1 := T.p1.hi; have a2 := T.p2.lo; have b2 := T.p2.hi; have a3 := T.p3.lo; have b3 := T.p3.hi; have a4 := T.p4.lo; have b4 := T.p4.hi
 exact rot_sq hM Z.cb Z.sb Z.cs ⟨by omega, by omega⟩ ⟨by omega, by omega⟩
end Go.Proofs.YteeohbiaclojaaaGreatDoor
namespace Go.Proofs.YteeohbiaclojaaaGreatDoor
theorem mul_x {a b K L B : Int} (ha : Ab a K) (hb : Ab b L) (h : K * L ≤ 2535301200456458802993406410752) (hK : K ≤ 4611686018427387904) (hL : L ≤ 4611686018427387904) (hB : 2 * (K * L) + 1099511627776 ≤ 2 * (B * 1099511627776)) : ∃ m, mulS false a b = (m, false) ∧ Ab (2 * (m * 1099511627776 - a * b)) 1099511627776 ∧ Ab m B := by
 obtain ⟨m, e, h1, h2, _⟩ := mulS_near a b (ha.numB hK) (hb.numB hL) (by
  have s1 := sz_le ⟨ha.lo, ha.hi⟩
  have s2 := sz_le ⟨hb.lo, hb.hi⟩
  have k0 : 0 ≤ K := by have := ha.lo; have := ha.hi; omega
  have := Int.mul_le_mul s1 s2 (le_sz b).2.2 k0
  omega)
 have p := ha.mul hb
 have p1 := p.lo; have p2 := p.hi
 exact ⟨m, e, ⟨by omega, by omega⟩, ⟨by omega, by omega⟩⟩
theorem div_x {a d K lo hi B : Int} (ha : Ab a K) (h1 : lo ≤ d) (h2 : d ≤ hi) (hl : 0 < lo) (hK : K ≤ 4611686018427387904) (hh : hi ≤ 4611686018427387904) (h : K * 1099511627776 ≤ lo * 2305843009213693952) (hB : 2 * (K * 1099511627776) < (2 * B + 1) * lo) (B0 : 0 ≤ B) :
    ∃ m, divS false a d = (m, false) ∧ Ab (2 * (m * d - a * 1099511627776)) d ∧ Ab m B := by
 obtain ⟨m, e, d1, d2, _⟩ := partS_near a 1099511627776 d (ha.numB hK) (by rfl) (numB_of ⟨by omega, by omega⟩) (by omega) (by
  rw [show sz 1099511627776 = 1099511627776 by rfl]
  have := sz_le ⟨ha.lo, ha.hi⟩
  have := Int.mul_le_mul_of_nonneg_right h1 (show (0 : Int) ≤ 2305843009213693952 by decide)
  omega)
 have a1 := ha.lo; have a2 := ha.hi
 refine ⟨m, e, ⟨by omega, by omega⟩, ⟨?_, ?_⟩⟩
 ·apply Classical.byContradiction
  intro g
  have q := Int.mul_le_mul (show 2 * B + 1 ≤ -2 * m - 1 by omega) h1 (by omega) (by omega)
  have e : (-2 * m - 1) * d = -(2 * (m * d)) - d := by grind
  rw [e] at q
  omega
 ·apply Classical.byContradiction
  intro g
  have q := Int.mul_le_mul (show 2 * B + 1 ≤ 2 * m - 1 by omega) h1 (by omega) (by omega)
  have e : (2 * m - 1) * d = 2 * (m * d) - d := by grind
  rw [e] at q
  omega
end Go.Proofs.YteeohbiaclojaaaGreatDoor
namespace Go.Proofs.YteeohbiaclojaaaGreatDoor
end Go.Proofs.YteeohbiaclojaaaGreatDoor
namespace Go.Proofs.YteeohbiaclojaaaGreatDoor
structure Plane (A E e2 r s c node peri x : Int) : Type where
 (sx cx u w1 v sq cq m1 m2 m3 m4 sn cn m5 bc m6 m7 m8 z : Int)
 hcx : cosA false x = (cx, false)
 hsx : sinA false x = (sx, false)
 hce : subS false cx E = (cx - E, false)
 hu : mulS false A (cx - E) = (u, false)
 hw1 : mulS false A r = (w1, false)
 hv : mulS false w1 sx = (v, false)
 hcq : cosA false peri = (cq, false)
 hsq : sinA false peri = (sq, false)
 h1 : mulS false u cq = (m1, false)
 h2 : mulS false v sq = (m2, false)
 ha : subS false m1 m2 = (m1 - m2, false)
 h3 : mulS false u sq = (m3, false)
 h4 : mulS false v cq = (m4, false)
 hb : addS false m3 m4 = (m3 + m4, false)
 hcn : cosA false node = (cn, false)
 hsn : sinA false node = (sn, false)
 h5 : mulS false (m1 - m2) cn = (m5, false)
 hbc : mulS false (m3 + m4) c = (bc, false)
 h6 : mulS false bc sn = (m6, false)
 hX : subS false m5 m6 = (m5 - m6, false)
 h7 : mulS false (m1 - m2) sn = (m7, false)
 h8 : mulS false bc cn = (m8, false)
 hY : addS false m7 m8 = (m7 + m8, false)
 hz : mulS false (m3 + m4) s = (z, false)
 flat : Flat A E cx sx e2 r w1 u v
 T1 : Trn u v sq cq m1 m2 m3 m4
 Z1 : Sc sq cq
 T3 : Trn (m1 - m2) bc sn cn m5 m6 m7 m8
 Z3 : Sc sn cn
 qbc : Ab (2 * (bc * 1099511627776 - (m3 + m4) * c)) 1099511627776
 qz : Ab (2 * (z * 1099511627776 - (m3 + m4) * s)) 1099511627776
 ab : Ab (m1 - m2) 19344904008183
 bb : Ab (m3 + m4) 19344904008183
 cb : Ab bc 19344904009169
 Xb : Ab (m5 - m6) 38689808019324
 Yb : Ab (m7 + m8) 38689808019324
 zb : Ab z 19344904009169
end Go.Proofs.YteeohbiaclojaaaGreatDoor
namespace Go.Proofs.YteeohbiaclojaaaGreatDoor
structure Up (s c sn cn X Y z : Int) : Type where
 (g0 g1 f0 f1 f2 : Int)
 h0 : mulS false s sn = (g0, false)
 h1 : mulS false s cn = (g1, false)
 k0 : mulS false X g0 = (f0, false)
 k1 : mulS false Y (-g1) = (f1, false)
 k2 : mulS false z c = (f2, false)
 a1 : addS false f0 f1 = (f0 + f1, false)
 a2 : addS false (f0 + f1) f2 = (f0 + f1 + f2, false)
 gb0 : Ab g0 1099511627889
 gb1 : Ab g1 1099511627889
 lo : -65536 ≤ f0 + f1 + f2
 hi : f0 + f1 + f2 ≤ 65536
theorem Plane.up {A E e2 r s c node peri x : Int} (P : Plane A E e2 r s c node peri x) (sc : Sc s c) : Nonempty (Up s c P.sn P.cn (P.m5 - P.m6) (P.m7 + P.m8) P.z) := by
 obtain ⟨g0, h0, q0, gb0⟩ := mul_x (B := 1099511627889) sc.sb P.Z3.sb (by decide) (by decide) (by decide) (by decide)
 obtain ⟨g1, h1, q1, gb1⟩ := mul_x (B := 1099511627889) sc.sb P.Z3.cb (by decide) (by decide) (by decide) (by decide)
 obtain ⟨f0, k0, t0, fb0⟩ := mul_x (B := 38689808023301) P.Xb gb0 (by decide) (by decide) (by decide) (by decide)
 obtain ⟨f1, k1, t1, fb1⟩ := mul_x (B := 38689808023301) P.Yb gb1.neg (by decide) (by decide) (by decide) (by decide)
 obtain ⟨f2, k2, t2, fb2⟩ := mul_x (B := 19344904010155) P.zb sc.cb (by decide) (by decide) (by decide) (by decide)
 have T3 := P.T3
 have Xb := P.Xb; have Yb := P.Yb; have Z3 := P.Z3; have qbc := P.qbc; have qz := P.qz; have cb := P.cb
 have α : Ab (1099511627776 * (P.m5 - P.m6) - ((P.m1 - P.m2) * P.cn - P.bc * P.sn)) 1099511627776 := by
  have := T3.p1.lo; have := T3.p1.hi; have := T3.p2.lo; have := T3.p2.hi
  exact ⟨by omega, by omega⟩
 have β : Ab (1099511627776 * (P.m7 + P.m8) - ((P.m1 - P.m2) * P.sn + P.bc * P.cn)) 1099511627776 := by
  have := T3.p3.lo; have := T3.p3.hi; have := T3.p4.lo; have := T3.p4.hi
  exact ⟨by omega, by omega⟩
 generalize P.m5 - P.m6 = X at *
 generalize P.m7 + P.m8 = Y at *
 generalize P.m1 - P.m2 = a at *
 generalize P.m3 + P.m4 = b at *
 generalize P.bc = bc at *
 generalize P.z = z at *
 generalize P.sn = sn at *
 generalize P.cn = cn at *
 have key : 2 * (1329227995784915872903807060280344576 * (f0 + f1 + f2)) = 1208925819614629174706176 * (2 * (f0 * 1099511627776 - X * g0) + 2 * (f1 * 1099511627776 - Y * -g1) + 2 * (f2 * 1099511627776 - z * c)) + 1099511627776 * (X * (2 * (g0 * 1099511627776 - s * sn)) - Y * (2 * (g1 * 1099511627776 - s * cn)))
     + 1099511627776 * (2 * (z * 1099511627776 - b * s) * c) - 1099511627776 * (s * (2 * (bc * 1099511627776 - b * c))) + 2 * (s * ((1099511627776 * X - (a * cn - bc * sn)) * sn - (1099511627776 * Y - (a * sn + bc * cn)) * cn)) - 2 * (s * bc * (cn * cn + sn * sn - 1208925819614629174706176)) := by grind
 have u1 := Xb.mul q0
 have u2 := Yb.mul q1
 have u3 := qz.mul sc.cb
 have u4 := sc.sb.mul qbc
 have u5 := sc.sb.mul ((α.mul Z3.sb).sub (β.mul Z3.cb))
 have u6 := (sc.sb.mul cb).mul Z3.cs
 have l0 := t0.lo; have m0 := t0.hi; have l1 := t1.lo; have m1 := t1.hi; have l2 := t2.lo; have m2 := t2.hi
 have v1 := u1.lo; have w1 := u1.hi; have v2 := u2.lo; have w2 := u2.hi; have v3 := u3.lo; have w3 := u3.hi; have v4 := u4.lo; have w4 := u4.hi; have v5 := u5.lo; have w5 := u5.hi; have v6 := u6.lo; have w6 := u6.hi
 have fin : -65536 ≤ f0 + f1 + f2 ∧ f0 + f1 + f2 ≤ 65536 := by
  generalize X * (2 * (g0 * 1099511627776 - s * sn)) = U1 at *
  generalize Y * (2 * (g1 * 1099511627776 - s * cn)) = U2 at *
  generalize 2 * (z * 1099511627776 - b * s) * c = U3 at *
  generalize s * (2 * (bc * 1099511627776 - b * c)) = U4 at *
  generalize s * ((1099511627776 * X - (a * cn - bc * sn)) * sn - (1099511627776 * Y - (a * sn + bc * cn)) * cn) = U5 at *
  generalize s * bc * (cn * cn + sn * sn - 1208925819614629174706176) = U6 at *
  generalize 2 * (f0 * 1099511627776 - X * g0) = R0 at *
  generalize 2 * (f1 * 1099511627776 - Y * -g1) = R1 at *
  generalize 2 * (f2 * 1099511627776 - z * c) = R2 at *
  generalize f0 + f1 + f2 = F at *
  exact ⟨by omega, by omega⟩
 exact ⟨⟨g0, g1, f0, f1, f2, h0, h1, k0, k1, k2, add_near fb0 fb1 (by decide) (by decide) (by decide), add_near (fb0.add fb1) fb2 (by decide) (by decide) (by decide), gb0, gb1, fin.1, fin.2⟩⟩
end Go.Proofs.YteeohbiaclojaaaGreatDoor
namespace Go.Proofs.YteeohbiaclojaaaGreatDoor
open Go.RowKit
abbrev V7 := Int × Int × Int × Int × Int × Int × Int
def oFarC (a : Int) (k : Int) : Bool := let r1 := mulS false a (1099511627776 - k); let r2 := mulS r1.2 a (1099511627776 + k); if r2.2 then false else if r1.1 ≥ 7232738120604 then (decide (r2.1 ≤ 9211859050600)) else false
def oAngC (a : Int) : Bool := if (-6908435304716) ≤ a then (decide (a ≤ 6908435304716)) else false
def oRightC (o : V7) : Bool := if 0 ≤ o.2.1 then if o.2.1 ≤ 109951162777 then let r1 := oFarC o.1 o.2.1; if r1 then if 0 ≤ o.2.2.1 then if o.2.2.1 ≤ 3454217652358 then let r2 := oAngC o.2.2.2.1; if r2 then let r3 := oAngC o.2.2.2.2.1; if r3 then let r4 := oAngC o.2.2.2.2.2.1; if r4 then let r5 := cRight o.2.2.2.2.2.2; r5 else false else false else false else false else false else false else false else false
end Go.Proofs.YteeohbiaclojaaaGreatDoor
namespace Go.Proofs.YteeohbiaclojaaaGreatDoor
open Go.RowKit
def numK (s : ByteArray) (i : Nat) : Nat → Nat
 | 0 => 0
 | k + 1 => numK s i k * 256 + bt s (i + k)
theorem numK_lt (s : ByteArray) (i : Nat) : ∀ k, numK s i k < 256 ^ k
 | 0 => by show 0 < 1; decide
 | k + 1 => by
  have h := numK_lt s i k
  have := bt_lt s (i + k)
  show numK s i k * 256 + bt s (i + k) < 256 ^ k * 256
  omega
theorem numK_tail (s : ByteArray) (n i : Nat) : ∀ k, numK (s.extract n s.size) i k = numK s (n + i) k
 | 0 => rfl
 | k + 1 => by
  show numK _ i k * 256 + bt _ (i + k) = numK s (n + i) k * 256 + bt s (n + i + k)
  rw [numK_tail s n i k, bt_tail, Nat.add_assoc]
def onumS (s : ByteArray) (i : Nat) : Int := IntKind.i64.wrap (numK s i 8 : Nat)
theorem numS_tail (s : ByteArray) (n i : Nat) : onumS (s.extract n s.size) i = onumS s (n + i) := by
 unfold onumS
 rw [numK_tail]
def sizeS (c : Int) : Int := if c = 1 ∨ c = 2 ∨ c = 4 then 2 else if c = 3 then 58 else 0
def z7 : V7 := (0, 0, 0, 0, 0, 0, 0)
def ordE (s : ByteArray) : V7 := (onumS s 2, onumS s 10, onumS s 18, onumS s 26, onumS s 34, onumS s 42, onumS s 50)
def ordR (k : Int) (s : ByteArray) : (Int × Int × V7) × Int :=
 if s.size < 2 then ((0, 0, z7), 1)
 else if k ≠ 16 then (((bt s 0 : Nat), 0, z7), 1)
 else if sizeS (bt s 1 : Nat) = 0 then (((bt s 0 : Nat), 0, z7), 2)
 else if (s.size : Int) ≠ sizeS (bt s 1 : Nat) then (((bt s 0 : Nat), 0, z7), 1)
 else if ((bt s 1 : Nat) : Int) ≠ 3 then (((bt s 0 : Nat), (bt s 1 : Nat), z7), 0)
 else if oRightC (ordE s) then (((bt s 0 : Nat), 3, ordE s), 0)
 else (((bt s 0 : Nat), 0, z7), 3)
end Go.Proofs.YteeohbiaclojaaaGreatDoor
