/-
A part.
A part.
A part.
A part.
A part.
-/
import Derived.RegionTactic
import Derived.BigRegion
import Derived.Test.YteeohbiaclojaaaGreatDoorHU21
import Derived.Test.YteeohbiaclojaaaGreatDoorHU20
namespace Go.Proofs.YteeohbiaclojaaaGreatDoor
open Go.RowKit
set_option maxRecDepth 100000
set_option maxHeartbeats 20000000
theorem oread_long (s : ByteArray) (w : World) (h : s.size = 58) (h3 : bt s 1 = 3) (hR : oRightC (ordE s) = true) :
    Calls Tryz.prog 50 #[.agg #[.int .i64 16, .string s]] w fun e w' => e = .returned (.tuple #[.agg #[.int .i64 (bt s 0 : Nat), .int .i64 3, .int .i64 (onumS s 2), .int .i64 (onumS s 10), .int .i64 (onumS s 18), .int .i64 (onumS s 26), .int .i64 (onumS s 34), .int .i64 (onumS s 42), .int .i64 (onumS s 50)], .int .i64 0]) ∧ Below w.heap.size w w' := by
 have i0 := idx_run (s := s) (i := 0) (n := 0) (by omega) rfl
 have i1 : ∀ W : World, (Instr.index 9 (.string s) (.int .i64 1)).run Tryz.prog W = .ok (.int .u8 3) W := fun W => by have := idx_run (s := s) (i := 1) (n := 1) (by omega) rfl W; rw [h3] at this; exact this
 have r0 := bt_lt s 0
 have hs := sizeOf_any 3
 rw [show sizeS 3 = 58 from rfl] at hs
 have hl' : ((s.size : Int) != 58) = false := by simp; omega
 have he := fun W => elements_any (s.extract 2 s.size) W (by rw [ByteArray.size_extract]; omega)
 simp only [numS_tail, Nat.reduceAdd] at he
 have hr := oRightC_any (ordE s)
 rw [hR] at hr
 unfold ordE at hr
 dsimp only at hr
 have hsl : ∀ W : World, (Instr.slice 9 (.string s) (some (.int .i64 2)) none none).run Tryz.prog W = .ok (.string (s.extract 2 s.size)) W := fun W => by
  rw [run_slice_string_from_if W 9 s .i64 2 Tryz.underlying9, if_pos (by omega)]
  rfl
 generalize s.extract 2 s.size = y at *
 clear h3 hR
 generalize onumS s 2 = e0 at *
 generalize onumS s 10 = e1 at *
 generalize onumS s 18 = e2 at *
 generalize onumS s 26 = e3 at *
 generalize onumS s 34 = e4 at *
 generalize onumS s 42 = e5 at *
 generalize onumS s 50 = e6 at *
 generalize bt s 0 = b0 at *
 go_enter Tryz.func50, Tryz.ntmps50
 go_wp2
 go_region
 go_wp2_with fail
 refine (hs _).mono ?_
 rintro e X ⟨rfl, rfl⟩
 go_wp2_with fail
 refine (he _).mono ?_
 rintro e W1 ⟨rfl, k1⟩
 have L1 := bel_then (bel_drew (bel_al (bel_al (bel_al (Below.refl _ w) (.cells #[.int .i64 16, .string s] 26)) (.cells #[.int .i64 0, .int .i64 0, .int .i64 0, .int .i64 0, .int .i64 0, .int .i64 0, .int .i64 0, .int .i64 0, .int .i64 0] 127)) (.cells #[.int .i64 b0, .int .i64 3, .int .i64 0, .int .i64 0, .int .i64 0, .int .i64 0, .int .i64 0, .int .i64 0, .int .i64 0] 127))) k1
 have R1 := (((Arr_at (w.alloc (.cells #[.int .i64 16, .string s] 26)) (w.heap.size + 1) [.int .i64 0, .int .i64 0, .int .i64 0, .int .i64 0, .int .i64 0, .int .i64 0, .int .i64 0, .int .i64 0, .int .i64 0] 127 (by simp)).alloc (.cells #[.int .i64 b0, .int .i64 3, .int .i64 0, .int .i64 0, .int .i64 0, .int .i64 0, .int .i64 0, .int .i64 0, .int .i64 0] 127)).drew).below k1
 have O1 := (((Arr_at ((w.alloc (.cells #[.int .i64 16, .string s] 26)).alloc (.cells #[.int .i64 0, .int .i64 0, .int .i64 0, .int .i64 0, .int .i64 0, .int .i64 0, .int .i64 0, .int .i64 0, .int .i64 0] 127)) (w.heap.size + 1 + 1) [.int .i64 b0, .int .i64 3, .int .i64 0, .int .i64 0, .int .i64 0, .int .i64 0, .int .i64 0, .int .i64 0, .int .i64 0] 127 (by simp))).drew).below k1
 clear k1
 have z1 := O1.lies
 have g0 := O1.f 0 (zD rfl)
 have a0 : W1.cell? ⟨w.heap.size + 1 + 1, 0, none⟩ = some (.int .i64 b0) := O1.c 0 (zD rfl)
 have g1 := O1.f 1 (zD rfl)
 have a1 : W1.cell? ⟨w.heap.size + 1 + 1, 1, none⟩ = some (.int .i64 3) := O1.c 1 (zD rfl)
 have g2 := O1.f 2 (zD rfl)
 have a2 : W1.cell? ⟨w.heap.size + 1 + 1, 2, none⟩ = some (.int .i64 0) := O1.c 2 (zD rfl)
 have g3 := O1.f 3 (zD rfl)
 have a3 : W1.cell? ⟨w.heap.size + 1 + 1, 3, none⟩ = some (.int .i64 0) := O1.c 3 (zD rfl)
 have g4 := O1.f 4 (zD rfl)
 have a4 : W1.cell? ⟨w.heap.size + 1 + 1, 4, none⟩ = some (.int .i64 0) := O1.c 4 (zD rfl)
 have g5 := O1.f 5 (zD rfl)
 have a5 : W1.cell? ⟨w.heap.size + 1 + 1, 5, none⟩ = some (.int .i64 0) := O1.c 5 (zD rfl)
 have g6 := O1.f 6 (zD rfl)
 have a6 : W1.cell? ⟨w.heap.size + 1 + 1, 6, none⟩ = some (.int .i64 0) := O1.c 6 (zD rfl)
 have g7 := O1.f 7 (zD rfl)
 have a7 : W1.cell? ⟨w.heap.size + 1 + 1, 7, none⟩ = some (.int .i64 0) := O1.c 7 (zD rfl)
 have g8 := O1.f 8 (zD rfl)
 have a8 : W1.cell? ⟨w.heap.size + 1 + 1, 8, none⟩ = some (.int .i64 0) := O1.c 8 (zD rfl)
 go_wp2_with fail
 refine (hr _).mono ?_
 rintro e W2 ⟨rfl, k2⟩
 have O2 := (((((((O1.put 2 (zD rfl) (.int .i64 e0) [(.int .i64 b0), (.int .i64 3), (.int .i64 e0), (.int .i64 0), (.int .i64 0), (.int .i64 0), (.int .i64 0), (.int .i64 0), (.int .i64 0)] rfl).put 3 (zD rfl) (.int .i64 e1) [(.int .i64 b0), (.int .i64 3), (.int .i64 e0), (.int .i64 e1), (.int .i64 0), (.int .i64 0), (.int .i64 0), (.int .i64 0), (.int .i64 0)] rfl).put 4 (zD rfl) (.int .i64 e2) [(.int .i64 b0), (.int .i64 3), (.int .i64 e0), (.int .i64 e1), (.int .i64 e2), (.int .i64 0), (.int .i64 0), (.int .i64 0), (.int .i64 0)] rfl).put 5 (zD rfl) (.int .i64 e3) [(.int .i64 b0), (.int .i64 3), (.int .i64 e0), (.int .i64 e1), (.int .i64 e2), (.int .i64 e3), (.int .i64 0), (.int .i64 0), (.int .i64 0)] rfl).put 6 (zD rfl) (.int .i64 e4) [(.int .i64 b0), (.int .i64 3), (.int .i64 e0), (.int .i64 e1), (.int .i64 e2), (.int .i64 e3), (.int .i64 e4), (.int .i64 0), (.int .i64 0)] rfl).put 7 (zD rfl) (.int .i64 e5) [(.int .i64 b0), (.int .i64 3), (.int .i64 e0), (.int .i64 e1), (.int .i64 e2), (.int .i64 e3), (.int .i64 e4), (.int .i64 e5), (.int .i64 0)] rfl).put 8 (zD rfl) (.int .i64 e6) [(.int .i64 b0), (.int .i64 3), (.int .i64 e0), (.int .i64 e1), (.int .i64 e2), (.int .i64 e3), (.int .i64 e4), (.int .i64 e5), (.int .i64 e6)] rfl).below k2
 have R2 := (((((((R1.new (w.heap.size + 1 + 1) 2 (by omega) (.int .i64 e0)).new (w.heap.size + 1 + 1) 3 (by omega) (.int .i64 e1)).new (w.heap.size + 1 + 1) 4 (by omega) (.int .i64 e2)).new (w.heap.size + 1 + 1) 5 (by omega) (.int .i64 e3)).new (w.heap.size + 1 + 1) 6 (by omega) (.int .i64 e4)).new (w.heap.size + 1 + 1) 7 (by omega) (.int .i64 e5)).new (w.heap.size + 1 + 1) 8 (by omega) (.int .i64 e6)).below k2
 have L2 := bel_then (bel_new (bel_new (bel_new (bel_new (bel_new (bel_new (bel_new L1 (w.heap.size + 1 + 1) 2 (by omega) (.int .i64 e0)) (w.heap.size + 1 + 1) 3 (by omega) (.int .i64 e1)) (w.heap.size + 1 + 1) 4 (by omega) (.int .i64 e2)) (w.heap.size + 1 + 1) 5 (by omega) (.int .i64 e3)) (w.heap.size + 1 + 1) 6 (by omega) (.int .i64 e4)) (w.heap.size + 1 + 1) 7 (by omega) (.int .i64 e5)) (w.heap.size + 1 + 1) 8 (by omega) (.int .i64 e6)) k2
 clear k2 a0 g0 a1 g1 a2 g2 a3 g3 a4 g4 a5 g5 a6 g6 a7 g7 a8 g8 O1 R1 L1 z1
 have z2 := O2.lies
 have a0 : W2.cell? ⟨w.heap.size + 1 + 1, 0, none⟩ = some (.int .i64 b0) := O2.c 0 (zD rfl)
 have a1 : W2.cell? ⟨w.heap.size + 1 + 1, 1, none⟩ = some (.int .i64 3) := O2.c 1 (zD rfl)
 have a2 : W2.cell? ⟨w.heap.size + 1 + 1, 2, none⟩ = some (.int .i64 e0) := O2.c 2 (zD rfl)
 have a3 : W2.cell? ⟨w.heap.size + 1 + 1, 3, none⟩ = some (.int .i64 e1) := O2.c 3 (zD rfl)
 have a4 : W2.cell? ⟨w.heap.size + 1 + 1, 4, none⟩ = some (.int .i64 e2) := O2.c 4 (zD rfl)
 have a5 : W2.cell? ⟨w.heap.size + 1 + 1, 5, none⟩ = some (.int .i64 e3) := O2.c 5 (zD rfl)
 have a6 : W2.cell? ⟨w.heap.size + 1 + 1, 6, none⟩ = some (.int .i64 e4) := O2.c 6 (zD rfl)
 have a7 : W2.cell? ⟨w.heap.size + 1 + 1, 7, none⟩ = some (.int .i64 e5) := O2.c 7 (zD rfl)
 have a8 : W2.cell? ⟨w.heap.size + 1 + 1, 8, none⟩ = some (.int .i64 e6) := O2.c 8 (zD rfl)
 have c0 : W2.cell? ⟨w.heap.size + 1, 0, none⟩ = some (.int .i64 0) := R2.c 0 (zD rfl)
 have f0 := R2.f 0 (zD rfl)
 have c1 : W2.cell? ⟨w.heap.size + 1, 1, none⟩ = some (.int .i64 0) := R2.c 1 (zD rfl)
 have f1 := R2.f 1 (zD rfl)
 have c2 : W2.cell? ⟨w.heap.size + 1, 2, none⟩ = some (.int .i64 0) := R2.c 2 (zD rfl)
 have f2 := R2.f 2 (zD rfl)
 have c3 : W2.cell? ⟨w.heap.size + 1, 3, none⟩ = some (.int .i64 0) := R2.c 3 (zD rfl)
 have f3 := R2.f 3 (zD rfl)
 have c4 : W2.cell? ⟨w.heap.size + 1, 4, none⟩ = some (.int .i64 0) := R2.c 4 (zD rfl)
 have f4 := R2.f 4 (zD rfl)
 have c5 : W2.cell? ⟨w.heap.size + 1, 5, none⟩ = some (.int .i64 0) := R2.c 5 (zD rfl)
 have f5 := R2.f 5 (zD rfl)
 have c6 : W2.cell? ⟨w.heap.size + 1, 6, none⟩ = some (.int .i64 0) := R2.c 6 (zD rfl)
 have f6 := R2.f 6 (zD rfl)
 have c7 : W2.cell? ⟨w.heap.size + 1, 7, none⟩ = some (.int .i64 0) := R2.c 7 (zD rfl)
 have f7 := R2.f 7 (zD rfl)
 have c8 : W2.cell? ⟨w.heap.size + 1, 8, none⟩ = some (.int .i64 0) := R2.c 8 (zD rfl)
 have f8 := R2.f 8 (zD rfl)
 go_wp2_with (with_reducible refine post_stop ?_)
 have D := (((((((((R2.put 0 (zD rfl) (.int .i64 b0) [(.int .i64 b0), (.int .i64 0), (.int .i64 0), (.int .i64 0), (.int .i64 0), (.int .i64 0), (.int .i64 0), (.int .i64 0), (.int .i64 0)] rfl).put 1 (zD rfl) (.int .i64 3) [(.int .i64 b0), (.int .i64 3), (.int .i64 0), (.int .i64 0), (.int .i64 0), (.int .i64 0), (.int .i64 0), (.int .i64 0), (.int .i64 0)] rfl).put 2 (zD rfl) (.int .i64 e0) [(.int .i64 b0), (.int .i64 3), (.int .i64 e0), (.int .i64 0), (.int .i64 0), (.int .i64 0), (.int .i64 0), (.int .i64 0), (.int .i64 0)] rfl).put 3 (zD rfl) (.int .i64 e1) [(.int .i64 b0), (.int .i64 3), (.int .i64 e0), (.int .i64 e1), (.int .i64 0), (.int .i64 0), (.int .i64 0), (.int .i64 0), (.int .i64 0)] rfl).put 4 (zD rfl) (.int .i64 e2) [(.int .i64 b0), (.int .i64 3), (.int .i64 e0), (.int .i64 e1), (.int .i64 e2), (.int .i64 0), (.int .i64 0), (.int .i64 0), (.int .i64 0)] rfl).put 5 (zD rfl) (.int .i64 e3) [(.int .i64 b0), (.int .i64 3), (.int .i64 e0), (.int .i64 e1), (.int .i64 e2), (.int .i64 e3), (.int .i64 0), (.int .i64 0), (.int .i64 0)] rfl).put 6 (zD rfl) (.int .i64 e4) [(.int .i64 b0), (.int .i64 3), (.int .i64 e0), (.int .i64 e1), (.int .i64 e2), (.int .i64 e3), (.int .i64 e4), (.int .i64 0), (.int .i64 0)] rfl).put 7 (zD rfl) (.int .i64 e5) [(.int .i64 b0), (.int .i64 3), (.int .i64 e0), (.int .i64 e1), (.int .i64 e2), (.int .i64 e3), (.int .i64 e4), (.int .i64 e5), (.int .i64 0)] rfl).put 8 (zD rfl) (.int .i64 e6) [(.int .i64 b0), (.int .i64 3), (.int .i64 e0), (.int .i64 e1), (.int .i64 e2), (.int .i64 e3), (.int .i64 e4), (.int .i64 e5), (.int .i64 e6)] rfl)
 have d0 := D.c 0 (zD rfl)
 have d1 := D.c 1 (zD rfl)
 have d2 := D.c 2 (zD rfl)
 have d3 := D.c 3 (zD rfl)
 have d4 := D.c 4 (zD rfl)
 have d5 := D.c 5 (zD rfl)
 have d6 := D.c 6 (zD rfl)
 have d7 := D.c 7 (zD rfl)
 have d8 := D.c 8 (zD rfl)
 simp only [List.getElem_cons_zero, List.getElem_cons_succ] at d0 d1 d2 d3 d4 d5 d6 d7 d8
 exact ⟨bodyPost_ret (v := .tuple #[.agg #[.int .i64 b0, .int .i64 3, .int .i64 e0, .int .i64 e1, .int .i64 e2, .int .i64 e3, .int .i64 e4, .int .i64 e5, .int .i64 e6], .int .i64 0]) (by simp [results_cell_tmp Tryz.results50, asAddr, go_sem, d0, d1, d2, d3, d4, d5, d6, d7, d8]) rfl ⟨rfl, (bel_new (bel_new (bel_new (bel_new (bel_new (bel_new (bel_new (bel_new (bel_new L2 _ _ (by omega) _) _ _ (by omega) _) _ _ (by omega) _) _ _ (by omega) _) _ _ (by omega) _) _ _ (by omega) _) _ _ (by omega) _) _ _ (by omega) _) _ _ (by omega) _)⟩⟩
end Go.Proofs.YteeohbiaclojaaaGreatDoor
namespace Go.Proofs.YteeohbiaclojaaaGreatDoor
open Go.RowKit
set_option maxRecDepth 100000
set_option maxHeartbeats 20000000
theorem oread_not (s : ByteArray) (w : World) (h : s.size = 58) (h3 : bt s 1 = 3) (hR : oRightC (ordE s) = false) :
    Calls Tryz.prog 50 #[.agg #[.int .i64 16, .string s]] w fun e w' => e = .returned (.tuple #[.agg #[.int .i64 (bt s 0 : Nat), .int .i64 0, .int .i64 0, .int .i64 0, .int .i64 0, .int .i64 0, .int .i64 0, .int .i64 0, .int .i64 0], .int .i64 3]) ∧ Below w.heap.size w w' := by
 have i0 := idx_run (s := s) (i := 0) (n := 0) (by omega) rfl
 have i1 : ∀ W : World, (Instr.index 9 (.string s) (.int .i64 1)).run Tryz.prog W = .ok (.int .u8 3) W := fun W => by have := idx_run (s := s) (i := 1) (n := 1) (by omega) rfl W; rw [h3] at this; exact this
 have r0 := bt_lt s 0
 have hs := sizeOf_any 3
 rw [show sizeS 3 = 58 from rfl] at hs
 have hl' : ((s.size : Int) != 58) = false := by simp; omega
 have he := fun W => elements_any (s.extract 2 s.size) W (by rw [ByteArray.size_extract]; omega)
 simp only [numS_tail, Nat.reduceAdd] at he
 have hr := oRightC_any (ordE s)
 rw [hR] at hr
 unfold ordE at hr
 dsimp only at hr
 have hsl : ∀ W : World, (Instr.slice 9 (.string s) (some (.int .i64 2)) none none).run Tryz.prog W = .ok (.string (s.extract 2 s.size)) W := fun W => by
  rw [run_slice_string_from_if W 9 s .i64 2 Tryz.underlying9, if_pos (by omega)]
  rfl
 generalize s.extract 2 s.size = y at *
 clear h3 hR
 generalize onumS s 2 = e0 at *
 generalize onumS s 10 = e1 at *
 generalize onumS s 18 = e2 at *
 generalize onumS s 26 = e3 at *
 generalize onumS s 34 = e4 at *
 generalize onumS s 42 = e5 at *
 generalize onumS s 50 = e6 at *
 generalize bt s 0 = b0 at *
 go_enter Tryz.func50, Tryz.ntmps50
 go_wp2
 go_region
 go_wp2_with fail
 refine (hs _).mono ?_
 rintro e X ⟨rfl, rfl⟩
 go_wp2_with fail
 refine (he _).mono ?_
 rintro e W1 ⟨rfl, k1⟩
 have L1 := bel_then (bel_drew (bel_al (bel_al (bel_al (Below.refl _ w) (.cells #[.int .i64 16, .string s] 26)) (.cells #[.int .i64 0, .int .i64 0, .int .i64 0, .int .i64 0, .int .i64 0, .int .i64 0, .int .i64 0, .int .i64 0, .int .i64 0] 127)) (.cells #[.int .i64 b0, .int .i64 3, .int .i64 0, .int .i64 0, .int .i64 0, .int .i64 0, .int .i64 0, .int .i64 0, .int .i64 0] 127))) k1
 have R1 := (((Arr_at (w.alloc (.cells #[.int .i64 16, .string s] 26)) (w.heap.size + 1) [.int .i64 0, .int .i64 0, .int .i64 0, .int .i64 0, .int .i64 0, .int .i64 0, .int .i64 0, .int .i64 0, .int .i64 0] 127 (by simp)).alloc (.cells #[.int .i64 b0, .int .i64 3, .int .i64 0, .int .i64 0, .int .i64 0, .int .i64 0, .int .i64 0, .int .i64 0, .int .i64 0] 127)).drew).below k1
 have O1 := (((Arr_at ((w.alloc (.cells #[.int .i64 16, .string s] 26)).alloc (.cells #[.int .i64 0, .int .i64 0, .int .i64 0, .int .i64 0, .int .i64 0, .int .i64 0, .int .i64 0, .int .i64 0, .int .i64 0] 127)) (w.heap.size + 1 + 1) [.int .i64 b0, .int .i64 3, .int .i64 0, .int .i64 0, .int .i64 0, .int .i64 0, .int .i64 0, .int .i64 0, .int .i64 0] 127 (by simp))).drew).below k1
 clear k1
 have z1 := O1.lies
 have g0 := O1.f 0 (zD rfl)
 have a0 : W1.cell? ⟨w.heap.size + 1 + 1, 0, none⟩ = some (.int .i64 b0) := O1.c 0 (zD rfl)
 have g1 := O1.f 1 (zD rfl)
 have a1 : W1.cell? ⟨w.heap.size + 1 + 1, 1, none⟩ = some (.int .i64 3) := O1.c 1 (zD rfl)
 have g2 := O1.f 2 (zD rfl)
 have a2 : W1.cell? ⟨w.heap.size + 1 + 1, 2, none⟩ = some (.int .i64 0) := O1.c 2 (zD rfl)
 have g3 := O1.f 3 (zD rfl)
 have a3 : W1.cell? ⟨w.heap.size + 1 + 1, 3, none⟩ = some (.int .i64 0) := O1.c 3 (zD rfl)
 have g4 := O1.f 4 (zD rfl)
 have a4 : W1.cell? ⟨w.heap.size + 1 + 1, 4, none⟩ = some (.int .i64 0) := O1.c 4 (zD rfl)
 have g5 := O1.f 5 (zD rfl)
 have a5 : W1.cell? ⟨w.heap.size + 1 + 1, 5, none⟩ = some (.int .i64 0) := O1.c 5 (zD rfl)
 have g6 := O1.f 6 (zD rfl)
 have a6 : W1.cell? ⟨w.heap.size + 1 + 1, 6, none⟩ = some (.int .i64 0) := O1.c 6 (zD rfl)
 have g7 := O1.f 7 (zD rfl)
 have a7 : W1.cell? ⟨w.heap.size + 1 + 1, 7, none⟩ = some (.int .i64 0) := O1.c 7 (zD rfl)
 have g8 := O1.f 8 (zD rfl)
 have a8 : W1.cell? ⟨w.heap.size + 1 + 1, 8, none⟩ = some (.int .i64 0) := O1.c 8 (zD rfl)
 go_wp2_with fail
 refine (hr _).mono ?_
 rintro e W2 ⟨rfl, k2⟩
 have O2 := (((((((O1.put 2 (zD rfl) (.int .i64 e0) [(.int .i64 b0), (.int .i64 3), (.int .i64 e0), (.int .i64 0), (.int .i64 0), (.int .i64 0), (.int .i64 0), (.int .i64 0), (.int .i64 0)] rfl).put 3 (zD rfl) (.int .i64 e1) [(.int .i64 b0), (.int .i64 3), (.int .i64 e0), (.int .i64 e1), (.int .i64 0), (.int .i64 0), (.int .i64 0), (.int .i64 0), (.int .i64 0)] rfl).put 4 (zD rfl) (.int .i64 e2) [(.int .i64 b0), (.int .i64 3), (.int .i64 e0), (.int .i64 e1), (.int .i64 e2), (.int .i64 0), (.int .i64 0), (.int .i64 0), (.int .i64 0)] rfl).put 5 (zD rfl) (.int .i64 e3) [(.int .i64 b0), (.int .i64 3), (.int .i64 e0), (.int .i64 e1), (.int .i64 e2), (.int .i64 e3), (.int .i64 0), (.int .i64 0), (.int .i64 0)] rfl).put 6 (zD rfl) (.int .i64 e4) [(.int .i64 b0), (.int .i64 3), (.int .i64 e0), (.int .i64 e1), (.int .i64 e2), (.int .i64 e3), (.int .i64 e4), (.int .i64 0), (.int .i64 0)] rfl).put 7 (zD rfl) (.int .i64 e5) [(.int .i64 b0), (.int .i64 3), (.int .i64 e0), (.int .i64 e1), (.int .i64 e2), (.int .i64 e3), (.int .i64 e4), (.int .i64 e5), (.int .i64 0)] rfl).put 8 (zD rfl) (.int .i64 e6) [(.int .i64 b0), (.int .i64 3), (.int .i64 e0), (.int .i64 e1), (.int .i64 e2), (.int .i64 e3), (.int .i64 e4), (.int .i64 e5), (.int .i64 e6)] rfl).below k2
 have R2 := (((((((R1.new (w.heap.size + 1 + 1) 2 (by omega) (.int .i64 e0)).new (w.heap.size + 1 + 1) 3 (by omega) (.int .i64 e1)).new (w.heap.size + 1 + 1) 4 (by omega) (.int .i64 e2)).new (w.heap.size + 1 + 1) 5 (by omega) (.int .i64 e3)).new (w.heap.size + 1 + 1) 6 (by omega) (.int .i64 e4)).new (w.heap.size + 1 + 1) 7 (by omega) (.int .i64 e5)).new (w.heap.size + 1 + 1) 8 (by omega) (.int .i64 e6)).below k2
 have L2 := bel_then (bel_new (bel_new (bel_new (bel_new (bel_new (bel_new (bel_new L1 (w.heap.size + 1 + 1) 2 (by omega) (.int .i64 e0)) (w.heap.size + 1 + 1) 3 (by omega) (.int .i64 e1)) (w.heap.size + 1 + 1) 4 (by omega) (.int .i64 e2)) (w.heap.size + 1 + 1) 5 (by omega) (.int .i64 e3)) (w.heap.size + 1 + 1) 6 (by omega) (.int .i64 e4)) (w.heap.size + 1 + 1) 7 (by omega) (.int .i64 e5)) (w.heap.size + 1 + 1) 8 (by omega) (.int .i64 e6)) k2
 clear k2 a0 g0 a1 g1 a2 g2 a3 g3 a4 g4 a5 g5 a6 g6 a7 g7 a8 g8 O1 R1 L1 z1
 have z2 := O2.lies
 have a0 : W2.cell? ⟨w.heap.size + 1 + 1, 0, none⟩ = some (.int .i64 b0) := O2.c 0 (zD rfl)
 have a1 : W2.cell? ⟨w.heap.size + 1 + 1, 1, none⟩ = some (.int .i64 3) := O2.c 1 (zD rfl)
 have a2 : W2.cell? ⟨w.heap.size + 1 + 1, 2, none⟩ = some (.int .i64 e0) := O2.c 2 (zD rfl)
 have a3 : W2.cell? ⟨w.heap.size + 1 + 1, 3, none⟩ = some (.int .i64 e1) := O2.c 3 (zD rfl)
 have a4 : W2.cell? ⟨w.heap.size + 1 + 1, 4, none⟩ = some (.int .i64 e2) := O2.c 4 (zD rfl)
 have a5 : W2.cell? ⟨w.heap.size + 1 + 1, 5, none⟩ = some (.int .i64 e3) := O2.c 5 (zD rfl)
 have a6 : W2.cell? ⟨w.heap.size + 1 + 1, 6, none⟩ = some (.int .i64 e4) := O2.c 6 (zD rfl)
 have a7 : W2.cell? ⟨w.heap.size + 1 + 1, 7, none⟩ = some (.int .i64 e5) := O2.c 7 (zD rfl)
 have a8 : W2.cell? ⟨w.heap.size + 1 + 1, 8, none⟩ = some (.int .i64 e6) := O2.c 8 (zD rfl)
 go_wp2_with fail
 refine (refused_any b0 3 (e0, e1, e2, e3, e4, e5, e6) 3 _).mono ?_
 rintro e W3 ⟨rfl, k3⟩
 have L3 := bel_then L2 k3
 have R3 := R2.below k3
 clear k3 a0 a1 a2 a3 a4 a5 a6 a7 a8 L2 R2 O2
 have c0 : W3.cell? ⟨w.heap.size + 1, 0, none⟩ = some (.int .i64 0) := R3.c 0 (zD rfl)
 have f0 := R3.f 0 (zD rfl)
 have c1 : W3.cell? ⟨w.heap.size + 1, 1, none⟩ = some (.int .i64 0) := R3.c 1 (zD rfl)
 have f1 := R3.f 1 (zD rfl)
 have c2 : W3.cell? ⟨w.heap.size + 1, 2, none⟩ = some (.int .i64 0) := R3.c 2 (zD rfl)
 have f2 := R3.f 2 (zD rfl)
 have c3 : W3.cell? ⟨w.heap.size + 1, 3, none⟩ = some (.int .i64 0) := R3.c 3 (zD rfl)
 have f3 := R3.f 3 (zD rfl)
 have c4 : W3.cell? ⟨w.heap.size + 1, 4, none⟩ = some (.int .i64 0) := R3.c 4 (zD rfl)
 have f4 := R3.f 4 (zD rfl)
 have c5 : W3.cell? ⟨w.heap.size + 1, 5, none⟩ = some (.int .i64 0) := R3.c 5 (zD rfl)
 have f5 := R3.f 5 (zD rfl)
 have c6 : W3.cell? ⟨w.heap.size + 1, 6, none⟩ = some (.int .i64 0) := R3.c 6 (zD rfl)
 have f6 := R3.f 6 (zD rfl)
 have c7 : W3.cell? ⟨w.heap.size + 1, 7, none⟩ = some (.int .i64 0) := R3.c 7 (zD rfl)
 have f7 := R3.f 7 (zD rfl)
 have c8 : W3.cell? ⟨w.heap.size + 1, 8, none⟩ = some (.int .i64 0) := R3.c 8 (zD rfl)
 have f8 := R3.f 8 (zD rfl)
 go_wp2_with (with_reducible refine post_stop ?_)
 have D := (((((((((R3.put 0 (zD rfl) (.int .i64 b0) [(.int .i64 b0), (.int .i64 0), (.int .i64 0), (.int .i64 0), (.int .i64 0), (.int .i64 0), (.int .i64 0), (.int .i64 0), (.int .i64 0)] rfl).put 1 (zD rfl) (.int .i64 0) [(.int .i64 b0), (.int .i64 0), (.int .i64 0), (.int .i64 0), (.int .i64 0), (.int .i64 0), (.int .i64 0), (.int .i64 0), (.int .i64 0)] rfl).put 2 (zD rfl) (.int .i64 0) [(.int .i64 b0), (.int .i64 0), (.int .i64 0), (.int .i64 0), (.int .i64 0), (.int .i64 0), (.int .i64 0), (.int .i64 0), (.int .i64 0)] rfl).put 3 (zD rfl) (.int .i64 0) [(.int .i64 b0), (.int .i64 0), (.int .i64 0), (.int .i64 0), (.int .i64 0), (.int .i64 0), (.int .i64 0), (.int .i64 0), (.int .i64 0)] rfl).put 4 (zD rfl) (.int .i64 0) [(.int .i64 b0), (.int .i64 0), (.int .i64 0), (.int .i64 0), (.int .i64 0), (.int .i64 0), (.int .i64 0), (.int .i64 0), (.int .i64 0)] rfl).put 5 (zD rfl) (.int .i64 0) [(.int .i64 b0), (.int .i64 0), (.int .i64 0), (.int .i64 0), (.int .i64 0), (.int .i64 0), (.int .i64 0), (.int .i64 0), (.int .i64 0)] rfl).put 6 (zD rfl) (.int .i64 0) [(.int .i64 b0), (.int .i64 0), (.int .i64 0), (.int .i64 0), (.int .i64 0), (.int .i64 0), (.int .i64 0), (.int .i64 0), (.int .i64 0)] rfl).put 7 (zD rfl) (.int .i64 0) [(.int .i64 b0), (.int .i64 0), (.int .i64 0), (.int .i64 0), (.int .i64 0), (.int .i64 0), (.int .i64 0), (.int .i64 0), (.int .i64 0)] rfl).put 8 (zD rfl) (.int .i64 0) [(.int .i64 b0), (.int .i64 0), (.int .i64 0), (.int .i64 0), (.int .i64 0), (.int .i64 0), (.int .i64 0), (.int .i64 0), (.int .i64 0)] rfl)
 have d0 := D.c 0 (zD rfl)
 have d1 := D.c 1 (zD rfl)
 have d2 := D.c 2 (zD rfl)
 have d3 := D.c 3 (zD rfl)
 have d4 := D.c 4 (zD rfl)
 have d5 := D.c 5 (zD rfl)
 have d6 := D.c 6 (zD rfl)
 have d7 := D.c 7 (zD rfl)
 have d8 := D.c 8 (zD rfl)
 simp only [List.getElem_cons_zero, List.getElem_cons_succ] at d0 d1 d2 d3 d4 d5 d6 d7 d8
 exact ⟨bodyPost_ret (v := .tuple #[.agg #[.int .i64 b0, .int .i64 0, .int .i64 0, .int .i64 0, .int .i64 0, .int .i64 0, .int .i64 0, .int .i64 0, .int .i64 0], .int .i64 3]) (by simp [results_cell_tmp Tryz.results50, asAddr, go_sem, d0, d1, d2, d3, d4, d5, d6, d7, d8]) rfl ⟨rfl, (bel_new (bel_new (bel_new (bel_new (bel_new (bel_new (bel_new (bel_new (bel_new L3 _ _ (by omega) _) _ _ (by omega) _) _ _ (by omega) _) _ _ (by omega) _) _ _ (by omega) _) _ _ (by omega) _) _ _ (by omega) _) _ _ (by omega) _) _ _ (by omega) _)⟩⟩
end Go.Proofs.YteeohbiaclojaaaGreatDoor
namespace Go.Proofs.YteeohbiaclojaaaGreatDoor
open Go.RowKit
theorem size_one {x : Int} (h : sizeS x ≠ 0) : x = 1 ∨ x = 2 ∨ x = 3 ∨ x = 4 := by
 unfold sizeS at h
 split at h
 ·omega
 ·split at h <;> omega
theorem oread_any (k : Int) (s : ByteArray) (w : World) :
    Calls Tryz.prog 50 #[.agg #[.int .i64 k, .string s]] w fun e w' => e = .returned (.tuple #[.agg #[.int .i64 (ordR k s).1.1, .int .i64 (ordR k s).1.2.1, .int .i64 (ordR k s).1.2.2.1, .int .i64 (ordR k s).1.2.2.2.1, .int .i64 (ordR k s).1.2.2.2.2.1, .int .i64 (ordR k s).1.2.2.2.2.2.1, .int .i64 (ordR k s).1.2.2.2.2.2.2.1, .int .i64 (ordR k s).1.2.2.2.2.2.2.2.1, .int .i64 (ordR k s).1.2.2.2.2.2.2.2.2], .int .i64 (ordR k s).2]) ∧ Below w.heap.size w w' := by
 unfold ordR
 by_cases h : s.size < 2
 ·rw [if_pos h]
  exact oread_none k s w h
 rw [if_neg h]
 by_cases hk : k ≠ 16
 ·rw [if_pos hk]
  exact oread_kind k s w (by omega) hk
 rw [if_neg hk]
 obtain rfl : k = 16 := by omega
 by_cases hz : sizeS (bt s 1 : Nat) = 0
 ·rw [if_pos hz]
  exact oread_code s w (by omega) hz
 rw [if_neg hz]
 by_cases hl : (s.size : Int) ≠ sizeS (bt s 1 : Nat)
 ·rw [if_pos hl]
  exact oread_len s w (by omega) hz hl
 rw [if_neg hl]
 have hl : (s.size : Int) = sizeS (bt s 1 : Nat) := by omega
 by_cases h3 : ((bt s 1 : Nat) : Int) ≠ 3
 ·rw [if_pos h3]
  have h2 : sizeS (bt s 1 : Nat) = 2 := by have := size_one hz; unfold sizeS; rw [if_pos (by omega)]
  exact oread_short s w (by omega) h2 (by omega)
 rw [if_neg h3]
 have h3 : bt s 1 = 3 := by omega
 have hs : s.size = 58 := by rw [h3] at hl; have : sizeS ((3 : Nat) : Int) = 58 := rfl; omega
 cases hR : oRightC (ordE s)
 ·rw [if_neg (by decide)]
  exact oread_not s w hs h3 hR
 ·rw [if_pos rfl]
  exact oread_long s w hs h3 hR
end Go.Proofs.YteeohbiaclojaaaGreatDoor
namespace Go.Proofs.YteeohbiaclojaaaGreatDoor
open Go.RowKit
def az (x : Int) : Int := if x < 0 then -x else x
theorem az_n (x : Int) : 0 ≤ az x := by unfold az; split <;> omega
theorem az_hi (x : Int) : x ≤ az x := by unfold az; split <;> omega
theorem az_lo (x : Int) : -az x ≤ x := by unfold az; split <;> omega
theorem az_le {x K : Int} (h1 : -K ≤ x) (h2 : x ≤ K) : az x ≤ K := by unfold az; split <;> omega
theorem az_sub (x y : Int) : az (x - y) ≤ az x + az y := by unfold az; split <;> split <;> split <;> omega
theorem az_ab {x K : Int} (h : az x ≤ K) : Ab x K := ⟨by have := az_lo x; omega, by have := az_hi x; omega⟩
theorem az_mul (x y : Int) : Ab (x * y) (az x * az y) := (az_ab (Int.le_refl (az x))).mul (az_ab (Int.le_refl (az y)))
def sm (f : Nat → Int) : Nat → Int
 | 0 => 0
 | n + 1 => sm f n + f n
theorem sm_le {f g : Nat → Int} : ∀ {n : Nat}, (∀ k, k < n → f k ≤ g k) → sm f n ≤ sm g n
 | 0, _ => Int.le_refl _
 | n + 1, h => Int.add_le_add (sm_le fun k hk => h k (Nat.lt_succ_of_lt hk)) (h n (Nat.lt_succ_self n))
theorem sm_eq {f g : Nat → Int} {n : Nat} (h : ∀ k, k < n → f k = g k) : sm f n = sm g n := Int.le_antisymm (sm_le fun k hk => Int.le_of_eq (h k hk)) (sm_le fun k hk => Int.le_of_eq (h k hk).symm)
theorem sm_add (f g : Nat → Int) : ∀ n, sm (fun k => f k + g k) n = sm f n + sm g n
 | 0 => rfl
 | n + 1 => by show sm (fun k => f k + g k) n + (f n + g n) = sm f n + f n + (sm g n + g n); rw [sm_add f g n]; omega
theorem sm_mul (c : Int) (f : Nat → Int) : ∀ n, sm (fun k => c * f k) n = c * sm f n
 | 0 => by simp [sm]
 | n + 1 => by show sm (fun k => c * f k) n + c * f n = c * (sm f n + f n); rw [sm_mul c f n, Int.mul_add]
theorem sm_const (c : Int) : ∀ n : Nat, sm (fun _ => c) n = n * c
 | 0 => by simp [sm]
 | n + 1 => by show sm (fun _ => c) n + c = _; rw [sm_const c n]; grind
theorem sm_zero {f : Nat → Int} {n : Nat} (h : ∀ k, k < n → f k = 0) : sm f n = 0 := by
 rw [sm_eq h, sm_const]; simp
theorem sm_one (j : Nat) (c : Int) : ∀ {n : Nat}, j < n → sm (fun k => if k = j then c else 0) n = c
 | n + 1, h => by
  show sm (fun k => if k = j then c else 0) n + (if n = j then c else 0) = c
  by_cases e : n = j
  ·rw [if_pos e, sm_zero (fun k hk => if_neg (by omega))]; omega
  ·rw [if_neg e, sm_one j c (by omega)]; omega
theorem sm_pos {f : Nat → Int} {n : Nat} (h : ∀ k, k < n → 0 ≤ f k) : 0 ≤ sm f n := by
 have := sm_le h
 rw [sm_const] at this
 simpa using this
def off (A : Nat → Nat → Int) (j a : Nat) : Nat → Int := fun b => if j ≤ b ∧ b ≠ a then az (A a b) else 0
theorem off_n (A : Nat → Nat → Int) (j a b : Nat) : 0 ≤ off A j a b := by unfold off; split; exact az_n _; exact Int.le_refl _
def Dom (A : Nat → Nat → Int) (j N : Nat) (G : Int) : Prop := ∀ a, j ≤ a → a < N → sm (off A j a) N + G ≤ A a a
theorem Dom.diag {A : Nat → Nat → Int} {j N a : Nat} {G : Int} (D : Dom A j N G) (ha : j ≤ a) (ha' : a < N) : G ≤ A a a := by
 have t := sm_pos (f := off A j a) (n := N) (fun k _ => off_n A j a k)
 have d := D a ha ha'
 omega
theorem Dom.step {A p : Nat → Nat → Int} {j N : Nat} {G : Int} (D : Dom A j N G) (hG : 1 ≤ G) (hN : N ≤ 6) (hj : j < N) (sym : ∀ a, j < a → a < N → A a j = A j a)
    (hp : ∀ a b, j < a → a < N → j < b → b < N → Ab (p a b * A j j - A a j * A b j) (4 * A j j)) : Dom (fun a b => A a b - p a b) (j + 1) N (G - 24) := by
 intro a ha ha'
 have P0 : 1 ≤ A j j := Int.le_trans hG (D.diag (Nat.le_refl _) hj)
 -- the pivot's column
 have col : sm (fun b => if j + 1 ≤ b then az (A b j) else 0) N ≤ A j j := by
  have e : sm (fun b => if j + 1 ≤ b then az (A b j) else 0) N = sm (off A j j) N := sm_eq fun b hb => by
   unfold off
   by_cases c : j + 1 ≤ b
   ·rw [if_pos c, if_pos ⟨by omega, by omega⟩, sym b c hb]
   ·rw [if_neg c, if_neg (by omega)]
  have := D j (Nat.le_refl _) hj
  omega
 -- what is taken away from the row
 have row : sm (fun b => if j + 1 ≤ b then az (p a b) else 0) N ≤ az (A a j) + 24 := by
  have m : sm (fun b => A j j * (if j + 1 ≤ b then az (p a b) else 0)) N ≤ sm (fun b => az (A a j) * (if j + 1 ≤ b then az (A b j) else 0) + 4 * A j j) N := sm_le fun b hb => by
   show A j j * (if j + 1 ≤ b then az (p a b) else 0) ≤ az (A a j) * (if j + 1 ≤ b then az (A b j) else 0) + 4 * A j j
   by_cases c : j + 1 ≤ b
   ·rw [if_pos c, if_pos c]
    have h := hp a b ha ha' c hb
    have k := az_mul (A a j) (A b j)
    have := h.lo; have := h.hi; have := k.lo; have := k.hi
    have q : A j j * az (p a b) = az (p a b * A j j) := by
     unfold az
     by_cases z : p a b < 0
     ·rw [if_pos z, if_pos (by have := Int.mul_le_mul_of_nonneg_right (show p a b ≤ -1 by omega) (show 0 ≤ A j j by omega); omega)]; grind
     ·rw [if_neg z, if_neg (by have := Int.mul_nonneg (show 0 ≤ p a b by omega) (show 0 ≤ A j j by omega); omega)]; grind
    rw [q]
    exact az_le (by omega) (by omega)
   ·rw [if_neg c, if_neg c]; omega
  rw [sm_mul, sm_add, sm_mul, sm_const] at m
  have m2 : az (A a j) * sm (fun b => if j + 1 ≤ b then az (A b j) else 0) N ≤ az (A a j) * A j j := Int.mul_le_mul_of_nonneg_left col (az_n _)
  have m3 : (N : Int) * (4 * A j j) ≤ 6 * (4 * A j j) := Int.mul_le_mul_of_nonneg_right (by omega) (by omega)
  apply Classical.byContradiction
  intro c
  have m4 : A j j * (az (A a j) + 25) ≤ A j j * sm (fun b => if j + 1 ≤ b then az (p a b) else 0) N := Int.mul_le_mul_of_nonneg_left (by omega) (by omega)
  have e4 : A j j * (az (A a j) + 25) = az (A a j) * A j j + 25 * A j j := by grind
  omega
 -- the row, with its pivot's place
 have e1 : sm (off A j a) N = sm (off A (j + 1) a) N + az (A a j) := by
  rw [← sm_one (n := N) j (az (A a j)) hj, ← sm_add]
  refine sm_eq fun b hb => ?_
  unfold off
  by_cases c : b = j
  ·subst c; rw [if_pos ⟨Nat.le_refl _, by omega⟩, if_neg (by omega), if_pos rfl]; omega
  ·rw [if_neg c]
   by_cases c2 : j ≤ b ∧ b ≠ a
   ·rw [if_pos c2, if_pos ⟨by omega, c2.2⟩]; omega
   ·rw [if_neg c2, if_neg (by omega)]; omega
 have e2 : sm (fun b => if j + 1 ≤ b then az (p a b) else 0) N = sm (fun b => if j + 1 ≤ b ∧ b ≠ a then az (p a b) else 0) N + az (p a a) := by
  rw [← sm_one (n := N) a (az (p a a)) ha', ← sm_add]
  refine sm_eq fun b hb => ?_
  show (if j + 1 ≤ b then az (p a b) else 0) = (if j + 1 ≤ b ∧ b ≠ a then az (p a b) else 0) + (if b = a then az (p a a) else 0)
  by_cases c : b = a
  ·subst c; rw [if_pos ha, if_neg (by omega), if_pos rfl]; omega
  ·rw [if_neg c]
   by_cases c2 : j + 1 ≤ b
   ·rw [if_pos c2, if_pos ⟨c2, c⟩]; omega
   ·rw [if_neg c2, if_neg (by omega)]; omega
 have e3 : sm (off (fun a b => A a b - p a b) (j + 1) a) N ≤ sm (off A (j + 1) a) N + sm (fun b => if j + 1 ≤ b ∧ b ≠ a then az (p a b) else 0) N := by
  rw [← sm_add]
  refine sm_le fun b hb => ?_
  unfold off
  by_cases c : j + 1 ≤ b ∧ b ≠ a
  ·rw [if_pos c, if_pos c, if_pos c]; exact az_sub _ _
  ·rw [if_neg c, if_neg c, if_neg c]; omega
 have d := D a (by omega) ha'
 have := az_hi (p a a)
 show sm (off (fun a b => A a b - p a b) (j + 1) a) N + (G - 24) ≤ A a a - p a a
 omega
end Go.Proofs.YteeohbiaclojaaaGreatDoor
namespace Go.Proofs.YteeohbiaclojaaaGreatDoor
abbrev Iv := Int × Int
structure InK (k : Int) (X : Iv) (x : Int) : Prop where
 lo : X.1 * k ≤ x
 hi : x ≤ X.2 * k
abbrev In (X : Iv) (x : Int) : Prop := InK 1 X x
theorem in_mk {X : Iv} {x : Int} (h1 : X.1 ≤ x) (h2 : x ≤ X.2) : In X x := ⟨by omega, by omega⟩
def fl (a : Int) : Int := a / 1099511627776
def ce (a : Int) : Int := -((-a) / 1099511627776)
theorem fl_le (a : Int) : fl a * 1099511627776 ≤ a := by unfold fl; omega
theorem le_ce (a : Int) : a ≤ ce a * 1099511627776 := by unfold ce; omega
def min4 (a b c d : Int) : Int := min (min a b) (min c d)
def max4 (a b c d : Int) : Int := max (max a b) (max c d)
def imul (X Y : Iv) : Iv := (fl (min4 (X.1 * Y.1) (X.1 * Y.2) (X.2 * Y.1) (X.2 * Y.2)), ce (max4 (X.1 * Y.1) (X.1 * Y.2) (X.2 * Y.1) (X.2 * Y.2)))
def iadd (X Y : Iv) : Iv := (X.1 + Y.1, X.2 + Y.2)
def isub (X Y : Iv) : Iv := (X.1 - Y.2, X.2 - Y.1)
def pt (a : Int) : Iv := (a, a)
def ims (c : Int) (X : Iv) : Iv := if 0 ≤ c then (c * X.1, c * X.2) else (c * X.2, c * X.1)
def mag (X : Iv) : Int := max (-X.1) X.2
theorem mag_ab {X : Iv} {x : Int} (h : In X x) {K : Int} (hK : mag X ≤ K) : Ab x K := by
 unfold mag at hK
 have := h.lo; have := h.hi
 exact ⟨by omega, by omega⟩
theorem pt_in (a : Int) : In (pt a) a := ⟨by show a * 1 ≤ a; omega, by show a ≤ a * 1; omega⟩
theorem InK.add {k : Int} {X Y : Iv} {x y : Int} (h : InK k X x) (g : InK k Y y) : InK k (iadd X Y) (x + y) := by
 have := h.lo; have := h.hi; have := g.lo; have := g.hi
 constructor
 ·show (X.1 + Y.1) * k ≤ x + y; rw [Int.add_mul]; omega
 ·show x + y ≤ (X.2 + Y.2) * k; rw [Int.add_mul]; omega
theorem InK.sub {k : Int} {X Y : Iv} {x y : Int} (h : InK k X x) (g : InK k Y y) : InK k (isub X Y) (x - y) := by
 have := h.lo; have := h.hi; have := g.lo; have := g.hi
 constructor
 ·show (X.1 - Y.2) * k ≤ x - y; rw [Int.sub_mul]; omega
 ·show x - y ≤ (X.2 - Y.1) * k; rw [Int.sub_mul]; omega
theorem InK.zero (k : Int) : InK k (pt 0) 0 := ⟨by show 0 * k ≤ 0; omega, by show 0 ≤ 0 * k; omega⟩
theorem InK.ims {k : Int} {X : Iv} {x : Int} (h : InK k X x) (c : Int) : InK k (ims c X) (c * x) := by
 have l := h.lo; have u := h.hi
 unfold Go.Proofs.YteeohbiaclojaaaGreatDoor.ims
 by_cases c0 : 0 ≤ c
 ·rw [if_pos c0]
  have a := Int.mul_le_mul_of_nonneg_left l c0
  have b := Int.mul_le_mul_of_nonneg_left u c0
  exact ⟨by show c * X.1 * k ≤ c * x; rw [Int.mul_assoc]; exact a, by show c * x ≤ c * X.2 * k; rw [Int.mul_assoc]; exact b⟩
 ·rw [if_neg c0]
  have a := Int.mul_le_mul_of_nonpos_left (show c ≤ 0 by omega) l
  have b := Int.mul_le_mul_of_nonpos_left (show c ≤ 0 by omega) u
  exact ⟨by show c * X.2 * k ≤ c * x; rw [Int.mul_assoc]; exact b, by show c * x ≤ c * X.1 * k; rw [Int.mul_assoc]; exact a⟩
theorem lin_le {a b x y : Int} (h1 : a ≤ x) (h2 : x ≤ b) : x * y ≤ max (a * y) (b * y) ∧ min (a * y) (b * y) ≤ x * y := by
 by_cases h : 0 ≤ y
 ·have p := Int.mul_le_mul_of_nonneg_right h1 h
  have q := Int.mul_le_mul_of_nonneg_right h2 h
  exact ⟨by omega, by omega⟩
 ·have p := Int.mul_le_mul_of_nonpos_right h1 (show y ≤ 0 by omega)
  have q := Int.mul_le_mul_of_nonpos_right h2 (show y ≤ 0 by omega)
  exact ⟨by omega, by omega⟩
theorem box_mul {a b c d x y : Int} (h1 : a ≤ x) (h2 : x ≤ b) (h3 : c ≤ y) (h4 : y ≤ d) : min4 (a * c) (a * d) (b * c) (b * d) ≤ x * y ∧ x * y ≤ max4 (a * c) (a * d) (b * c) (b * d) := by
 have p := lin_le (y := y) h1 h2
 have q := lin_le (y := a) h3 h4
 have r := lin_le (y := b) h3 h4
 rw [Int.mul_comm y a, Int.mul_comm c a, Int.mul_comm d a] at q
 rw [Int.mul_comm y b, Int.mul_comm c b, Int.mul_comm d b] at r
 unfold min4 max4
 exact ⟨by omega, by omega⟩
theorem min4_mul {k : Int} (k0 : 0 ≤ k) (a b c d : Int) : min4 a b c d * k ≤ min4 (a * k) (b * k) (c * k) (d * k) := by
 have h (x : Int) (hx : min4 a b c d ≤ x) := Int.mul_le_mul_of_nonneg_right hx k0
 have h1 := h a (by unfold min4; omega); have h2 := h b (by unfold min4; omega); have h3 := h c (by unfold min4; omega); have h4 := h d (by unfold min4; omega)
 generalize min4 a b c d * k = m at *
 unfold min4
 omega
theorem max4_mul {k : Int} (k0 : 0 ≤ k) (a b c d : Int) : max4 (a * k) (b * k) (c * k) (d * k) ≤ max4 a b c d * k := by
 have h (x : Int) (hx : x ≤ max4 a b c d) := Int.mul_le_mul_of_nonneg_right hx k0
 have h1 := h a (by unfold max4; omega); have h2 := h b (by unfold max4; omega); have h3 := h c (by unfold max4; omega); have h4 := h d (by unfold max4; omega)
 generalize max4 a b c d * k = m at *
 unfold max4
 omega
theorem InK.mul {k l : Int} (k0 : 0 ≤ k) (l0 : 0 ≤ l) {X Y : Iv} {x y : Int} (h : InK k X x) (g : InK l Y y) : InK (k * l * 1099511627776) (imul X Y) (x * y) := by
 have b := box_mul h.lo h.hi g.lo g.hi
 have e (a c : Int) : a * k * (c * l) = a * c * (k * l) := by grind
 rw [e, e, e, e] at b
 have kl := Int.mul_nonneg k0 l0
 have p := min4_mul kl (X.1 * Y.1) (X.1 * Y.2) (X.2 * Y.1) (X.2 * Y.2)
 have q := max4_mul kl (X.1 * Y.1) (X.1 * Y.2) (X.2 * Y.1) (X.2 * Y.2)
 have f := Int.mul_le_mul_of_nonneg_right (fl_le (min4 (X.1 * Y.1) (X.1 * Y.2) (X.2 * Y.1) (X.2 * Y.2))) kl
 have c := Int.mul_le_mul_of_nonneg_right (le_ce (max4 (X.1 * Y.1) (X.1 * Y.2) (X.2 * Y.1) (X.2 * Y.2))) kl
 constructor
 ·show fl _ * (k * l * 1099511627776) ≤ x * y
  rw [show fl (min4 (X.1 * Y.1) (X.1 * Y.2) (X.2 * Y.1) (X.2 * Y.2)) * (k * l * 1099511627776) = fl (min4 (X.1 * Y.1) (X.1 * Y.2) (X.2 * Y.1) (X.2 * Y.2)) * 1099511627776 * (k * l) by grind]
  omega
 ·show x * y ≤ ce _ * (k * l * 1099511627776)
  rw [show ce (max4 (X.1 * Y.1) (X.1 * Y.2) (X.2 * Y.1) (X.2 * Y.2)) * (k * l * 1099511627776) = ce (max4 (X.1 * Y.1) (X.1 * Y.2) (X.2 * Y.1) (X.2 * Y.2)) * 1099511627776 * (k * l) by grind]
  omega
theorem round_in {X Y : Iv} {x y m : Int} (h : In X x) (g : In Y y) (r : Ab (2 * (m * 1099511627776 - x * y)) 1099511627776) : In (imul X Y) m := by
 have p := InK.mul (by decide) (by decide) h g
 have := p.lo; have := p.hi; have := r.lo; have := r.hi
 exact in_mk (by omega) (by omega)
def iacc (F : Nat → Iv) : Nat → Iv
 | 0 => pt 0
 | n + 1 => iadd (iacc F n) (F n)
end Go.Proofs.YteeohbiaclojaaaGreatDoor
