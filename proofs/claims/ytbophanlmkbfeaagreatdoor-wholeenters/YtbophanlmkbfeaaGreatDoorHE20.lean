/-
A part.
A part.
A part.
-/
import Derived.WalkSpells
import Derived.Laws.IdiomStrings
import Derived.Laws.Concat
import Derived.Handy
import Derived.Deep.RegionHeld3
import Derived.Test.YtbophanlmkbfeaaGreatDoorHE19
import Derived.Test.YtbophanlmkbfeaaGreatDoorHE15
import Derived.Test.YtbophanlmkbfeaaGreatDoorHE01
import Derived.Test.YtbophanlmkbfeaaGreatDoorHE02
import Derived.Test.YtbophanlmkbfeaaGreatDoorHE11
namespace Go.Proofs.YtbophanlmkbfeaaGreatDoor
open Go.RowKit
set_option maxRecDepth 100000
set_option maxHeartbeats 20000000
theorem twrite_no (T : Tl) (w : World) (h : tlOk T = false) :
    Calls Tryz.prog 64 #[.agg #[.int .i64 T.t, .int .i64 T.m, .int .i64 T.fa, .int .i64 T.ak, .int .i64 T.er, .int .i64 T.rj, .int .i64 T.q0, .int .i64 T.q1, .int .i64 T.q2, .int .i64 T.q3, .int .i64 T.d0, .int .i64 T.d1, .int .i64 T.d2]] w fun e w' => e = .returned (.tuple #[.agg #[.int .i64 0, .string ⟨#[]⟩], .bool false]) ∧ Below w.heap.size w w' := by
 have hm := mayTell_any T
 rw [h] at hm
 go_enter Tryz.func64, Tryz.ntmps64
 have A0 := (Arr_at w w.heap.size [.int .i64 T.t, .int .i64 T.m, .int .i64 T.fa, .int .i64 T.ak, .int .i64 T.er, .int .i64 T.rj, .int .i64 T.q0, .int .i64 T.q1, .int .i64 T.q2, .int .i64 T.q3, .int .i64 T.d0, .int .i64 T.d1, .int .i64 T.d2] 55 rfl).alloc (.cells #[.int .i64 0, .string ⟨#[]⟩] 49)
 have R0 := Arr_at (w.alloc (.cells #[.int .i64 T.t, .int .i64 T.m, .int .i64 T.fa, .int .i64 T.ak, .int .i64 T.er, .int .i64 T.rj, .int .i64 T.q0, .int .i64 T.q1, .int .i64 T.q2, .int .i64 T.q3, .int .i64 T.d0, .int .i64 T.d1, .int .i64 T.d2] 55)) (w.heap.size + 1) [.int .i64 0, .string ⟨#[]⟩] 49 (by simp)
 have L0 := bel_al (bel_al (Below.refl w.heap.size w) (.cells #[.int .i64 T.t, .int .i64 T.m, .int .i64 T.fa, .int .i64 T.ak, .int .i64 T.er, .int .i64 T.rj, .int .i64 T.q0, .int .i64 T.q1, .int .i64 T.q2, .int .i64 T.q3, .int .i64 T.d0, .int .i64 T.d1, .int .i64 T.d2] 55)) (.cells #[.int .i64 0, .string ⟨#[]⟩] 49)
 go_wp2_with fail
 refine (hm _).mono ?_
 rintro e X1 ⟨rfl, k⟩
 have A1 := A0.below k
 have R1 := R0.below k
 have L1 := bel_then L0 k
 have Az1 := A1.lies
 have Rz1 := R1.lies
 clear k A0 R0 L0
 have c0 : X1.cell? ⟨w.heap.size + 1, 0, none⟩ = some (.int .i64 0) := R1.c 0 (zD rfl)
 have c1 : X1.cell? ⟨w.heap.size + 1, 1, none⟩ = some (.string ⟨#[]⟩) := R1.c 1 (zD rfl)
 have f0 := R1.f 0 (zD rfl)
 have f1 := R1.f 1 (zD rfl)
 go_wp2_with (with_reducible refine post_stop ?_)
 have d0 := Arr.c ((R1.put 0 (zD rfl) (.int .i64 0) [.int .i64 0, .string ⟨#[]⟩] rfl).put 1 (zD rfl) (.string ⟨#[]⟩) [.int .i64 0, .string ⟨#[]⟩] rfl) 0 (zD rfl)
 have d1 := Arr.c ((R1.put 0 (zD rfl) (.int .i64 0) [.int .i64 0, .string ⟨#[]⟩] rfl).put 1 (zD rfl) (.string ⟨#[]⟩) [.int .i64 0, .string ⟨#[]⟩] rfl) 1 (zD rfl)
 simp only [List.getElem_cons_zero, List.getElem_cons_succ] at d0 d1
 exact ⟨bodyPost_ret (v := .tuple #[.agg #[.int .i64 0, .string ⟨#[]⟩], .bool false]) (by simp [results_cell_tmp Tryz.results64, asAddr, go_sem, d0, d1]) rfl ⟨rfl, bel_new (bel_new L1 _ _ (by omega) _) _ _ (by omega) _⟩⟩
theorem twrite_yes (T : Tl) (w : World) (h : tlOk T = true) :
    Calls Tryz.prog 64 #[.agg #[.int .i64 T.t, .int .i64 T.m, .int .i64 T.fa, .int .i64 T.ak, .int .i64 T.er, .int .i64 T.rj, .int .i64 T.q0, .int .i64 T.q1, .int .i64 T.q2, .int .i64 T.q3, .int .i64 T.d0, .int .i64 T.d1, .int .i64 T.d2]] w fun e w' => e = .returned (.tuple #[.agg #[.int .i64 32, .string (strOf (tlL T))], .bool true]) ∧ Below w.heap.size w w' := by
 have hm := mayTell_any T
 rw [h] at hm
 have H := tl_in h
 clear h
 have HL : Hid (tickL T.t ++ [T.m, T.fa, T.ak, T.er] ++ twoL T.rj ++ twoL T.q0 ++ twoL T.q1 ++ twoL T.q2 ++ twoL T.q3 ++ twoL T.d0 ++ twoL T.d1 ++ twoL T.d2 = tlL T) := rfl
 have hrg := tlL_rng H
 have wm : IntKind.u8.wrap T.m = T.m := by have := H.m; rw [IntKind.wrap_u8]; omega
 have wfa : IntKind.u8.wrap T.fa = T.fa := by have := H.fa; rw [IntKind.wrap_u8]; omega
 have wak : IntKind.u8.wrap T.ak = T.ak := by have := H.ak; rw [IntKind.wrap_u8]; omega
 have wer : IntKind.u8.wrap T.er = T.er := by have := H.er; rw [IntKind.wrap_u8]; omega
 generalize hS : strOf (tlL T) = S
 have HS : Hid (strOf (tlL T) = S) := hS
 clear hS
 have ht := H.t
 have htk := fun W => wtick_any T.t W ht.1 ht.2
 clear ht
 go_enter Tryz.func64, Tryz.ntmps64
 have A0 := (Arr_at w w.heap.size [.int .i64 T.t, .int .i64 T.m, .int .i64 T.fa, .int .i64 T.ak, .int .i64 T.er, .int .i64 T.rj, .int .i64 T.q0, .int .i64 T.q1, .int .i64 T.q2, .int .i64 T.q3, .int .i64 T.d0, .int .i64 T.d1, .int .i64 T.d2] 55 rfl).alloc (.cells #[.int .i64 0, .string ⟨#[]⟩] 49)
 have R0 := Arr_at (w.alloc (.cells #[.int .i64 T.t, .int .i64 T.m, .int .i64 T.fa, .int .i64 T.ak, .int .i64 T.er, .int .i64 T.rj, .int .i64 T.q0, .int .i64 T.q1, .int .i64 T.q2, .int .i64 T.q3, .int .i64 T.d0, .int .i64 T.d1, .int .i64 T.d2] 55)) (w.heap.size + 1) [.int .i64 0, .string ⟨#[]⟩] 49 (by simp)
 have L0 := bel_al (bel_al (Below.refl w.heap.size w) (.cells #[.int .i64 T.t, .int .i64 T.m, .int .i64 T.fa, .int .i64 T.ak, .int .i64 T.er, .int .i64 T.rj, .int .i64 T.q0, .int .i64 T.q1, .int .i64 T.q2, .int .i64 T.q3, .int .i64 T.d0, .int .i64 T.d1, .int .i64 T.d2] 55)) (.cells #[.int .i64 0, .string ⟨#[]⟩] 49)
 go_wp2_with fail
 refine (hm _).mono ?_
 rintro e X1 ⟨rfl, k⟩
 have A1 := A0.below k
 have R1 := R0.below k
 have L1 := bel_then L0 k
 have Az1 := A1.lies
 have Rz1 := R1.lies
 clear k A0 R0 L0
 have a0 : X1.cell? ⟨w.heap.size, 0, none⟩ = some (.int .i64 T.t) := A1.c 0 (zD rfl)
 go_wp2_with fail
 refine (htk _).mono ?_
 rintro e X2 ⟨v2, rfl, o2, k⟩
 have o2 := o2.base (show w.heap.size + 2 ≤ X1.heap.size by omega)
 have A2 := A1.below k
 have R2 := R1.below k
 have L2 := bel_then L1 k
 have Az2 := A2.lies
 have Rz2 := R2.lies
 clear k A1 R1 L1 Az1 Rz1
 clear a0
 have z2 : w.heap.size + 2 ≤ X2.heap.size := by omega
 have a1 : X2.cell? ⟨w.heap.size, 1, none⟩ = some (.int .i64 T.m) := A2.c 1 (zD rfl)
 have a2 : X2.cell? ⟨w.heap.size, 2, none⟩ = some (.int .i64 T.fa) := A2.c 2 (zD rfl)
 have a3 : X2.cell? ⟨w.heap.size, 3, none⟩ = some (.int .i64 T.ak) := A2.c 3 (zD rfl)
 have a4 : X2.cell? ⟨w.heap.size, 4, none⟩ = some (.int .i64 T.er) := A2.c 4 (zD rfl)
 go_wp2_with (at_builtin; refine app_any rfl (.tmp 16) (.tmp 29) rfl (w.heap.size + 2) v2 (tickL T.t) [T.m, T.fa, T.ak, T.er] X2 rfl o2 rfl (Nat.le_of_ble_eq_true rfl) z2 ?_; intro v3 X3 o3 k s; have A3 := A2.under k (by omega) s; have R3 := R2.under k (by omega) s; have L3 := L2.trans (k.mono (by omega)); have Az3 := A3.lies; have Rz3 := R3.lies; clear k A2 R2 L2 s Az2 Rz2; clear a1 a2 a3 a4; have z3 : w.heap.size + 2 ≤ X3.heap.size := (by omega); clear o2 z2; have a5 : X3.cell? ⟨w.heap.size, 5, none⟩ = some (.int .i64 T.rj) := A3.c 5 (zD rfl))
 skip
 refine (wcount_any (w.heap.size + 2) v3 (tickL T.t ++ [T.m, T.fa, T.ak, T.er]) T.rj _ o3 z3 (Nat.le_of_ble_eq_true rfl)).mono ?_
 rintro e X4 ⟨v4, rfl, o4, k, s⟩
 have A4 := A3.under k (by omega) s
 have R4 := R3.under k (by omega) s
 have L4 := L3.trans (k.mono (by omega))
 have Az4 := A4.lies
 have Rz4 := R4.lies
 clear k A3 R3 L3 s Az3 Rz3
 clear a5
 have z4 : w.heap.size + 2 ≤ X4.heap.size := by omega
 clear o3 z3
 have a6 : X4.cell? ⟨w.heap.size, 6, none⟩ = some (.int .i64 T.q0) := A4.c 6 (zD rfl)
 have a7 : X4.cell? ⟨w.heap.size, 7, none⟩ = some (.int .i64 T.q1) := A4.c 7 (zD rfl)
 have a8 : X4.cell? ⟨w.heap.size, 8, none⟩ = some (.int .i64 T.q2) := A4.c 8 (zD rfl)
 have a9 : X4.cell? ⟨w.heap.size, 9, none⟩ = some (.int .i64 T.q3) := A4.c 9 (zD rfl)
 go_wp2_with fail
 refine wp_loop_rounds 5 ?_
 clear a6 a7 a8 a9
 rw [rounds_succ]
 go_wp2_with fail
 refine (wcount_any (w.heap.size + 2) v4 (tickL T.t ++ [T.m, T.fa, T.ak, T.er] ++ twoL T.rj) T.q0 _ o4 z4 (Nat.le_of_ble_eq_true rfl)).mono ?_
 rintro e X5 ⟨v5, rfl, o5, k, s⟩
 have A5 := A4.under k (by omega) s
 have R5 := R4.under k (by omega) s
 have L5 := L4.trans (k.mono (by omega))
 have Az5 := A5.lies
 have Rz5 := R5.lies
 clear k A4 R4 L4 s Az4 Rz4
 have z5 : w.heap.size + 2 ≤ X5.heap.size := by omega
 clear o4 z4
 go_wp2_with fail
 rw [rounds_succ]
 go_wp2_with fail
 refine (wcount_any (w.heap.size + 2) v5 (tickL T.t ++ [T.m, T.fa, T.ak, T.er] ++ twoL T.rj ++ twoL T.q0) T.q1 _ o5 z5 (Nat.le_of_ble_eq_true rfl)).mono ?_
 rintro e X6 ⟨v6, rfl, o6, k, s⟩
 have A6 := A5.under k (by omega) s
 have R6 := R5.under k (by omega) s
 have L6 := L5.trans (k.mono (by omega))
 have Az6 := A6.lies
 have Rz6 := R6.lies
 clear k A5 R5 L5 s Az5 Rz5
 have z6 : w.heap.size + 2 ≤ X6.heap.size := by omega
 clear o5 z5
 go_wp2_with fail
 rw [rounds_succ]
 go_wp2_with fail
 refine (wcount_any (w.heap.size + 2) v6 (tickL T.t ++ [T.m, T.fa, T.ak, T.er] ++ twoL T.rj ++ twoL T.q0 ++ twoL T.q1) T.q2 _ o6 z6 (Nat.le_of_ble_eq_true rfl)).mono ?_
 rintro e X7 ⟨v7, rfl, o7, k, s⟩
 have A7 := A6.under k (by omega) s
 have R7 := R6.under k (by omega) s
 have L7 := L6.trans (k.mono (by omega))
 have Az7 := A7.lies
 have Rz7 := R7.lies
 clear k A6 R6 L6 s Az6 Rz6
 have z7 : w.heap.size + 2 ≤ X7.heap.size := by omega
 clear o6 z6
 go_wp2_with fail
 rw [rounds_succ]
 go_wp2_with fail
 refine (wcount_any (w.heap.size + 2) v7 (tickL T.t ++ [T.m, T.fa, T.ak, T.er] ++ twoL T.rj ++ twoL T.q0 ++ twoL T.q1 ++ twoL T.q2) T.q3 _ o7 z7 (Nat.le_of_ble_eq_true rfl)).mono ?_
 rintro e X8 ⟨v8, rfl, o8, k, s⟩
 have A8 := A7.under k (by omega) s
 have R8 := R7.under k (by omega) s
 have L8 := L7.trans (k.mono (by omega))
 have Az8 := A8.lies
 have Rz8 := R8.lies
 clear k A7 R7 L7 s Az7 Rz7
 have z8 : w.heap.size + 2 ≤ X8.heap.size := by omega
 clear o7 z7
 go_wp2_with fail
 have a10 : X8.cell? ⟨w.heap.size, 10, none⟩ = some (.int .i64 T.d0) := A8.c 10 (zD rfl)
 have a11 : X8.cell? ⟨w.heap.size, 11, none⟩ = some (.int .i64 T.d1) := A8.c 11 (zD rfl)
 have a12 : X8.cell? ⟨w.heap.size, 12, none⟩ = some (.int .i64 T.d2) := A8.c 12 (zD rfl)
 rw [rounds_succ]
 go_wp2_with fail
 refine wp_loop_rounds 4 ?_
 clear a10 a11 a12
 rw [rounds_succ]
 go_wp2_with fail
 refine (wcount_any (w.heap.size + 2) v8 (tickL T.t ++ [T.m, T.fa, T.ak, T.er] ++ twoL T.rj ++ twoL T.q0 ++ twoL T.q1 ++ twoL T.q2 ++ twoL T.q3) T.d0 _ o8 z8 (Nat.le_of_ble_eq_true rfl)).mono ?_
 rintro e X9 ⟨v9, rfl, o9, k, s⟩
 have A9 := A8.under k (by omega) s
 have R9 := R8.under k (by omega) s
 have L9 := L8.trans (k.mono (by omega))
 have Az9 := A9.lies
 have Rz9 := R9.lies
 clear k A8 R8 L8 s Az8 Rz8
 have z9 : w.heap.size + 2 ≤ X9.heap.size := by omega
 clear o8 z8
 go_wp2_with fail
 rw [rounds_succ]
 go_wp2_with fail
 refine (wcount_any (w.heap.size + 2) v9 (tickL T.t ++ [T.m, T.fa, T.ak, T.er] ++ twoL T.rj ++ twoL T.q0 ++ twoL T.q1 ++ twoL T.q2 ++ twoL T.q3 ++ twoL T.d0) T.d1 _ o9 z9 (Nat.le_of_ble_eq_true rfl)).mono ?_
 rintro e X10 ⟨v10, rfl, o10, k, s⟩
 have A10 := A9.under k (by omega) s
 have R10 := R9.under k (by omega) s
 have L10 := L9.trans (k.mono (by omega))
 have Az10 := A10.lies
 have Rz10 := R10.lies
 clear k A9 R9 L9 s Az9 Rz9
 have z10 : w.heap.size + 2 ≤ X10.heap.size := by omega
 clear o9 z9
 go_wp2_with fail
 rw [rounds_succ]
 go_wp2_with fail
 refine (wcount_any (w.heap.size + 2) v10 (tickL T.t ++ [T.m, T.fa, T.ak, T.er] ++ twoL T.rj ++ twoL T.q0 ++ twoL T.q1 ++ twoL T.q2 ++ twoL T.q3 ++ twoL T.d0 ++ twoL T.d1) T.d2 _ o10 z10 (Nat.le_of_ble_eq_true rfl)).mono ?_
 rintro e X11 ⟨v11, rfl, o11, k, s⟩
 have A11 := A10.under k (by omega) s
 have R11 := R10.under k (by omega) s
 have L11 := L10.trans (k.mono (by omega))
 have Az11 := A11.lies
 have Rz11 := R11.lies
 clear k A10 R10 L10 s Az10 Rz10
 have z11 : w.heap.size + 2 ≤ X11.heap.size := by omega
 clear o10 z10
 go_wp2_with fail
 rw [rounds_succ]
 rw [HL.out] at o11
 have hcv := conv_any o11 (by unfold tlL; simp) hrg
 rw [HS.out] at hcv
 clear o11
 have c0 : X11.cell? ⟨w.heap.size + 1, 0, none⟩ = some (.int .i64 0) := R11.c 0 (zD rfl)
 have c1 : X11.cell? ⟨w.heap.size + 1, 1, none⟩ = some (.string ⟨#[]⟩) := R11.c 1 (zD rfl)
 have f0 := R11.f 0 (zD rfl)
 have f1 := R11.f 1 (zD rfl)
 go_wp2_with (with_reducible refine post_stop ?_)
 have d0 := Arr.c ((R11.put 0 (zD rfl) (.int .i64 32) [.int .i64 32, .string ⟨#[]⟩] rfl).put 1 (zD rfl) (.string S) [.int .i64 32, .string S] rfl) 0 (zD rfl)
 have d1 := Arr.c ((R11.put 0 (zD rfl) (.int .i64 32) [.int .i64 32, .string ⟨#[]⟩] rfl).put 1 (zD rfl) (.string S) [.int .i64 32, .string S] rfl) 1 (zD rfl)
 simp only [List.getElem_cons_zero, List.getElem_cons_succ] at d0 d1
 exact ⟨bodyPost_ret (v := .tuple #[.agg #[.int .i64 32, .string S], .bool true]) (by simp [results_cell_tmp Tryz.results64, asAddr, go_sem, d0, d1]) rfl ⟨rfl, bel_new (bel_new L11 _ _ (by omega) _) _ _ (by omega) _⟩⟩
theorem twrite_any (T : Tl) (w : World) :
    Calls Tryz.prog 64 #[.agg #[.int .i64 T.t, .int .i64 T.m, .int .i64 T.fa, .int .i64 T.ak, .int .i64 T.er, .int .i64 T.rj, .int .i64 T.q0, .int .i64 T.q1, .int .i64 T.q2, .int .i64 T.q3, .int .i64 T.d0, .int .i64 T.d1, .int .i64 T.d2]] w fun e w' => e = .returned (.tuple #[.agg #[.int .i64 (tlW T).1, .string (tlW T).2], .bool (tlOk T)]) ∧ Below w.heap.size w w' := by
 unfold tlW
 cases h : tlOk T
 ·exact twrite_no T w h
 ·exact twrite_yes T w h
end Go.Proofs.YtbophanlmkbfeaaGreatDoor
namespace Go.Proofs.YtbophanlmkbfeaaGreatDoor
open Go.RowKit
set_option maxRecDepth 100000
set_option maxHeartbeats 20000000
theorem conv3 (W : World) (g : Nat) (a b c : UInt8) (h0 : W.cell? ⟨g, 0, none⟩ = some (.int .u8 (a.toNat : Nat))) (h1 : W.cell? ⟨g, 1, none⟩ = some (.int .u8 (b.toNat : Nat))) (h2 : W.cell? ⟨g, 2, none⟩ = some (.int .u8 (c.toNat : Nat))) :
    (convert 135 9 (.slice (some ⟨g, 0, none⟩) 3 3)).run Tryz.prog W = .ok (.string ⟨#[a, b, c]⟩) W :=
 run_convert_bytes_back W 135 9 5 ⟨g, 0, none⟩ 3 [a, b, c] Tryz.underlying135 Tryz.underlying5 Tryz.underlying9 (fun j hj => by
  match j, hj with
  | 0, _ => exact h0
  | 1, _ => exact h1
  | 2, _ => exact h2)
theorem conv2 (W : World) (g : Nat) (a b : UInt8) (h0 : W.cell? ⟨g, 0, none⟩ = some (.int .u8 (a.toNat : Nat))) (h1 : W.cell? ⟨g, 1, none⟩ = some (.int .u8 (b.toNat : Nat))) :
    (convert 135 9 (.slice (some ⟨g, 0, none⟩) 2 2)).run Tryz.prog W = .ok (.string ⟨#[a, b]⟩) W :=
 run_convert_bytes_back W 135 9 5 ⟨g, 0, none⟩ 2 [a, b] Tryz.underlying135 Tryz.underlying5 Tryz.underlying9 (fun j hj => by
  match j, hj with
  | 0, _ => exact h0
  | 1, _ => exact h1)
theorem cell_top (U : World) (g : Nat) (C : Array Value) (t : TypeId) (j : Nat) (hg : g = U.heap.size) : (U.alloc (.cells C t)).cell? ⟨g, j, none⟩ = C[j]? := by
 subst hg
 exact World.cell?_alloc_mark U C t (0, 0) j
theorem add_list (a b : ByteArray) : (a ++ b).data.toList = a.data.toList ++ b.data.toList := by
 rw [ByteArray.data_append, Array.toList_append]
theorem add_run (W : World) (a b : ByteArray) (h : a.size + b.size ≤ 5000) : (Op.stringOp .add a b).run Tryz.prog W = .ok (.string (a ++ b)) W := run_string_add_sum W a b (by omega)
theorem wrap_yes (k : UInt8) (d : ByteArray) (w : World) (hd : d.size ≤ 64) :
    Calls Tryz.prog 65 #[.agg #[.int .i64 (k.toNat : Nat), .string d]] w fun e w' => ∃ s : ByteArray, e = .returned (.tuple #[.string s, .bool true]) ∧ s.data.toList = wrapL k d.data.toList ∧ Below w.heap.size w w' := by
 obtain ⟨n, hn⟩ : ∃ n, k.toNat = n := ⟨_, rfl⟩
 have hk : n < 256 := by rw [← hn]; exact k.toNat_lt
 have e3 : (convert 135 9 (.slice (some ⟨w.heap.size + 1, 0, none⟩) 3 3)).run Tryz.prog ((w.alloc (.cells #[.int .i64 (n : Int), .string d] 49)).alloc (.cells #[.int .u8 165, .int .u8 (n : Int), .int .u8 (d.size : Int)] 5)) = .ok (.string ⟨#[165, k, UInt8.ofNat d.size]⟩) ((w.alloc (.cells #[.int .i64 (n : Int), .string d] 49)).alloc (.cells #[.int .u8 165, .int .u8 (n : Int), .int .u8 (d.size : Int)] 5)) :=
  conv3 _ _ 165 k (UInt8.ofNat d.size) (by simp) (by simp [hn]) (by rw [ofNat_toNat (by omega)]; simp)
 obtain ⟨S1, hS1⟩ : ∃ S : ByteArray, S = ⟨#[165, k, UInt8.ofNat d.size]⟩ := ⟨_, rfl⟩
 rw [← hS1] at e3
 have z1 : S1.size = 3 := by rw [hS1]; rfl
 have a1 := fun W => add_run W S1 d (by omega)
 obtain ⟨S2, hS2⟩ : ∃ S : ByteArray, S = S1 ++ d := ⟨_, rfl⟩
 rw [← hS2] at a1
 have z2 : S2.size = 3 + d.size := by rw [hS2, ByteArray.size_append, z1]
 have L2 : Hid (S2.data.toList = [165] ++ wrapHead k d.data.toList) := by
  show _ = _
  rw [hS2, add_list, hS1]
  rfl
 have s3 : ∀ W : World, (Instr.slice 9 (.string S2) (some (.int .i64 1)) none none).run Tryz.prog W = .ok (.string (S2.extract 1 S2.size)) W := fun W => by
  rw [run_slice_string_from_if W 9 S2 .i64 1 Tryz.underlying9, if_pos (by omega)]
  rfl
 obtain ⟨S3, hS3⟩ : ∃ S : ByteArray, S = S2.extract 1 S2.size := ⟨_, rfl⟩
 rw [← hS3] at s3
 have z3 : S3.size = 2 + d.size := by rw [hS3, ByteArray.size_extract]; omega
 have L3 : S3.data.toList = wrapHead k d.data.toList := by
  rw [hS3, extract_list, L2.out, List.take_of_length_le (by rw [← L2.out, List.length_drop]; exact Nat.le_refl _)]
  rfl
 have hsum := fun W => sum_any S3 W (by omega)
 rw [L3] at hsum
 have hq := sumU_lt (wrapHead k d.data.toList)
 obtain ⟨q, hqe⟩ : ∃ q, q = sumU (wrapHead k d.data.toList) := ⟨_, rfl⟩
 rw [← hqe] at hsum hq
 have e4 : (convert 135 9 (.slice (some ⟨w.heap.size + 1 + 1, 0, none⟩) 2 2)).run Tryz.prog (((w.alloc (.cells #[.int .i64 (n : Int), .string d] 49)).alloc (.cells #[.int .u8 165, .int .u8 (n : Int), .int .u8 (d.size : Int)] 5)).alloc (.cells #[.int .u8 ((q : Int) / 256), .int .u8 ((q : Int) % 256)] 5)) = .ok (.string ⟨#[UInt8.ofNat (q / 256), UInt8.ofNat (q % 256)]⟩) (((w.alloc (.cells #[.int .i64 (n : Int), .string d] 49)).alloc (.cells #[.int .u8 165, .int .u8 (n : Int), .int .u8 (d.size : Int)] 5)).alloc (.cells #[.int .u8 ((q : Int) / 256), .int .u8 ((q : Int) % 256)] 5)) :=
  conv2 _ _ (UInt8.ofNat (q / 256)) (UInt8.ofNat (q % 256)) (by rw [ofNat_toNat (by omega)]; exact cell_top _ _ _ _ 0 (by simp)) (by rw [ofNat_toNat (by omega)]; exact cell_top _ _ _ _ 1 (by simp))
 obtain ⟨S4, hS4⟩ : ∃ S : ByteArray, S = ⟨#[UInt8.ofNat (q / 256), UInt8.ofNat (q % 256)]⟩ := ⟨_, rfl⟩
 rw [← hS4] at e4
 have z4 : S4.size = 2 := by rw [hS4]; rfl
 have a5 := fun W => add_run W S2 S4 (by omega)
 obtain ⟨S5, hS5⟩ : ∃ S : ByteArray, S = S2 ++ S4 := ⟨_, rfl⟩
 rw [← hS5] at a5
 have L5 : Hid (S5.data.toList = wrapL k d.data.toList) := by
  show _ = _
  rw [hS5, add_list, L2.out, hS4, hqe]
  rfl
 clear hqe L3 hS3 hS2 hS1 hS4 hS5
 go_enter Tryz.func65, Tryz.ntmps65
 go_wp2_with (go_at_call 142; refine (hsum _).mono ?_; rintro e w1 ⟨rfl, rfl⟩)
 go_ret2
 exact ⟨S5, rfl, L5.out, (((Below.refl _ w).alloc (Nat.le_refl _) _).alloc (by simp) _).alloc (by simp; omega) _⟩
theorem wrap_no (k : Int) (d : ByteArray) (w : World) (h : ¬ (0 ≤ k ∧ k ≤ 255 ∧ d.size ≤ 64)) :
    Calls Tryz.prog 65 #[.agg #[.int .i64 k, .string d]] w fun e w' => e = .returned (.tuple #[.string ⟨#[]⟩, .bool false]) ∧ Below w.heap.size w w' := by
 have h' : decide (k < 0) || decide (255 < k) || decide (64 < (d.size : Int)) := by simp; omega
 go_enter Tryz.func65, Tryz.ntmps65
 go_wp2
 all_goals (go_ret2; exact ⟨rfl, (Below.refl _ w).alloc (Nat.le_refl _) _⟩)
theorem rwrap_yes (k : UInt8) (d : ByteArray) (w : World) (hd : d.size ≤ 64) :
    Calls Tryz.prog 30 #[.agg #[.int .i64 (k.toNat : Nat), .string d]] w fun e w' => ∃ s : ByteArray, e = .returned (.tuple #[.string s, .bool true]) ∧ s.data.toList = wrapL k d.data.toList ∧ Below w.heap.size w w' := by
 obtain ⟨n, hn⟩ : ∃ n, k.toNat = n := ⟨_, rfl⟩
 have hk : n < 256 := by rw [← hn]; exact k.toNat_lt
 have e3 : (convert 135 9 (.slice (some ⟨w.heap.size + 1, 0, none⟩) 2 2)).run Tryz.prog ((w.alloc (.cells #[.int .i64 (n : Int), .string d] 49)).alloc (.cells #[.int .u8 (n : Int), .int .u8 (d.size : Int)] 5)) = .ok (.string ⟨#[k, UInt8.ofNat d.size]⟩) ((w.alloc (.cells #[.int .i64 (n : Int), .string d] 49)).alloc (.cells #[.int .u8 (n : Int), .int .u8 (d.size : Int)] 5)) :=
  conv2 _ _ k (UInt8.ofNat d.size) (by simp [hn]) (by rw [ofNat_toNat (by omega)]; simp)
 obtain ⟨S1, hS1⟩ : ∃ S : ByteArray, S = ⟨#[k, UInt8.ofNat d.size]⟩ := ⟨_, rfl⟩
 rw [← hS1] at e3
 have z1 : S1.size = 2 := by rw [hS1]; rfl
 have a1 := fun W => add_run W S1 d (by omega)
 obtain ⟨S2, hS2⟩ : ∃ S : ByteArray, S = S1 ++ d := ⟨_, rfl⟩
 rw [← hS2] at a1
 have z2 : S2.size = 2 + d.size := by rw [hS2, ByteArray.size_append, z1]
 have L3 : S2.data.toList = wrapHead k d.data.toList := by
  rw [hS2, add_list, hS1]
  rfl
 have a2 := fun W => add_run W ⟨#[165]⟩ S2 (by have : (⟨#[165]⟩ : ByteArray).size = 1 := rfl; omega)
 obtain ⟨S3, hS3⟩ : ∃ S : ByteArray, S = ⟨#[165]⟩ ++ S2 := ⟨_, rfl⟩
 rw [← hS3] at a2
 have z3 : S3.size = 1 + S2.size := by rw [hS3, ByteArray.size_append]; rfl
 have L2 : Hid (S3.data.toList = [165] ++ wrapHead k d.data.toList) := by
  show _ = _
  rw [hS3, add_list, L3]
 have hsum := fun W => rsum_any S2 W (by omega)
 rw [L3] at hsum
 have hq := sumU_lt (wrapHead k d.data.toList)
 obtain ⟨q, hqe⟩ : ∃ q, q = sumU (wrapHead k d.data.toList) := ⟨_, rfl⟩
 rw [← hqe] at hsum hq
 have e4 : (convert 135 9 (.slice (some ⟨w.heap.size + 1 + 1, 0, none⟩) 2 2)).run Tryz.prog (((w.alloc (.cells #[.int .i64 (n : Int), .string d] 49)).alloc (.cells #[.int .u8 (n : Int), .int .u8 (d.size : Int)] 5)).alloc (.cells #[.int .u8 ((q : Int) / 256), .int .u8 ((q : Int) % 256)] 5)) = .ok (.string ⟨#[UInt8.ofNat (q / 256), UInt8.ofNat (q % 256)]⟩) (((w.alloc (.cells #[.int .i64 (n : Int), .string d] 49)).alloc (.cells #[.int .u8 (n : Int), .int .u8 (d.size : Int)] 5)).alloc (.cells #[.int .u8 ((q : Int) / 256), .int .u8 ((q : Int) % 256)] 5)) :=
  conv2 _ _ (UInt8.ofNat (q / 256)) (UInt8.ofNat (q % 256)) (by rw [ofNat_toNat (by omega)]; exact cell_top _ _ _ _ 0 (by simp)) (by rw [ofNat_toNat (by omega)]; exact cell_top _ _ _ _ 1 (by simp))
 obtain ⟨S4, hS4⟩ : ∃ S : ByteArray, S = ⟨#[UInt8.ofNat (q / 256), UInt8.ofNat (q % 256)]⟩ := ⟨_, rfl⟩
 rw [← hS4] at e4
 have z4 : S4.size = 2 := by rw [hS4]; rfl
 have a5 := fun W => add_run W S3 S4 (by omega)
 obtain ⟨S5, hS5⟩ : ∃ S : ByteArray, S = S3 ++ S4 := ⟨_, rfl⟩
 rw [← hS5] at a5
 have L5 : Hid (S5.data.toList = wrapL k d.data.toList) := by
  show _ = _
  rw [hS5, add_list, L2.out, hS4, hqe]
  rfl
 clear hqe L3 hS3 hS2 hS1 hS4 hS5
 go_enter Tryz.func30, Tryz.ntmps30
 go_wp2_with (go_at_call 66; refine (hsum _).mono ?_; rintro e w1 ⟨rfl, rfl⟩)
 go_ret2
 exact ⟨S5, rfl, L5.out, (((Below.refl _ w).alloc (Nat.le_refl _) _).alloc (by simp) _).alloc (by simp; omega) _⟩
theorem rwrap_no (k : Int) (d : ByteArray) (w : World) (h : ¬ (0 ≤ k ∧ k ≤ 255 ∧ d.size ≤ 64)) :
    Calls Tryz.prog 30 #[.agg #[.int .i64 k, .string d]] w fun e w' => e = .returned (.tuple #[.string ⟨#[]⟩, .bool false]) ∧ Below w.heap.size w w' := by
 have h' : decide (k < 0) || decide (255 < k) || decide (64 < (d.size : Int)) := by simp; omega
 go_enter Tryz.func30, Tryz.ntmps30
 go_wp2
 all_goals (go_ret2; exact ⟨rfl, (Below.refl _ w).alloc (Nat.le_refl _) _⟩)
end Go.Proofs.YtbophanlmkbfeaaGreatDoor
namespace Go.Proofs.YtbophanlmkbfeaaGreatDoor
open Go.RowKit
set_option maxRecDepth 100000
set_option maxHeartbeats 20000000
theorem sound_any (b : Nat) (bad : Bool) (v : V3) (w : World) (hw : Fl b bad w) :
    Calls Tryz.prog 153 #[.pointer (some ⟨b, 0, none⟩), .agg #[.int .i64 v.1, .int .i64 v.2.1, .int .i64 v.2.2]] w fun e w' => e = .returned (.agg #[.int .i64 (soundS bad v).1.1, .int .i64 (soundS bad v).1.2.1, .int .i64 (soundS bad v).1.2.2]) ∧ Fl b (soundS bad v).2 w' ∧ Kept b w w' := by
 have hc := hw.cell
 have hl := hw.lies
 have HW : Hid _ := hw
 clear hw
 cases bad
 ·go_enter Tryz.func153, Tryz.ntmps153
  go_wp2
  refine bodyPost_ret (v := .agg #[.int .i64 v.1, .int .i64 v.2.1, .int .i64 v.2.2]) (by simp [results, Tryz.results153, go_sem]) rfl ?_
  exact ⟨rfl, (HW.out.alloc _).alloc _, ((Kept.refl _ _).al _).al _⟩
 ·go_enter Tryz.func153, Tryz.ntmps153
  go_wp2
  refine bodyPost_ret (v := .agg #[.int .i64 0, .int .i64 0, .int .i64 0]) (by simp [results, Tryz.results153, go_sem]) rfl ?_
  exact ⟨rfl, (HW.out.alloc _).alloc _, ((Kept.refl _ _).al _).al _⟩
theorem vScale_any (b : Nat) (bad : Bool) (p : V3) (k : Int) (w : World) (hw : Fl b bad w) :
    Calls Tryz.prog 108 #[.pointer (some ⟨b, 0, none⟩), .agg #[.int .i64 p.1, .int .i64 p.2.1, .int .i64 p.2.2], .int .i64 k] w fun e w' => e = .returned (.agg #[.int .i64 ((vScaleS bad p k).1.1), .int .i64 ((vScaleS bad p k).1.2.1), .int .i64 ((vScaleS bad p k).1.2.2)]) ∧ Fl b (vScaleS bad p k).2 w' ∧ Kept b w w' := by
 have hl := hw.lies
 go_enter Tryz.func108, Tryz.ntmps108
 go_wp2_with fail
 refine wp_region_held_drew (S := fun w' => Arr w.heap.size [.int .i64 p.1, .int .i64 p.2.1, .int .i64 p.2.2] w') (by kernel_rfl) ((Arr_at _ _ [.int .i64 p.1, .int .i64 p.2.1, .int .i64 p.2.2] _ (by simp)).alloc _).drew (fun zH => ?_)
 refine zT 0 rfl (by kernel_rfl) (fun _ _ _ => id) rfl (fun _ _ => by go_simp <;> with_reducible rfl) zH ?_
 simp only [Act.put, zA, zB, zC]
 refine zT 1 rfl (by kernel_rfl) (fun _ _ _ => id) rfl (fun _ _ => by go_simp <;> with_reducible rfl) zH ?_
 simp only [Act.put, zA, zB, zC]
 refine zT 2 rfl (by kernel_rfl) (fun _ _ _ => id) rfl (fun _ _ => by go_simp <;> with_reducible rfl) zH ?_
 simp only [Act.put, zA, zB, zC]
 refine zT 3 rfl (by kernel_rfl) (fun _ _ _ => id) rfl (fun wx hS => by have hc0 : wx.cell? ⟨w.heap.size, 0, none⟩ = some (.int .i64 p.1) := hS.c 0 (zD rfl); go_simp <;> with_reducible rfl) zH ?_
 simp only [Act.put, zA, zB, zC]
 refine zT 4 rfl (by kernel_rfl) (fun _ _ _ => id) rfl (fun _ _ => by go_simp <;> with_reducible rfl) zH ?_
 simp only [Act.put, zA, zB, zC]
 refine zT 6 rfl (by kernel_rfl) (fun _ _ _ => id) rfl (fun _ _ => by go_simp <;> with_reducible rfl) zH ?_
 simp only [Act.put, zA, zB, zC]
 refine zT 7 rfl (by kernel_rfl) (fun _ _ _ => id) rfl (fun _ _ => by go_simp <;> with_reducible rfl) zH ?_
 simp only [Act.put, zA, zB, zC]
 refine zT 8 rfl (by kernel_rfl) (fun _ _ _ => id) rfl (fun wx hS => by have hc1 : wx.cell? ⟨w.heap.size, 1, none⟩ = some (.int .i64 p.2.1) := hS.c 1 (zD rfl); go_simp <;> with_reducible rfl) zH ?_
 simp only [Act.put, zA, zB, zC]
 refine zT 9 rfl (by kernel_rfl) (fun _ _ _ => id) rfl (fun _ _ => by go_simp <;> with_reducible rfl) zH ?_
 simp only [Act.put, zA, zB, zC]
 refine zT 11 rfl (by kernel_rfl) (fun _ _ _ => id) rfl (fun _ _ => by go_simp <;> with_reducible rfl) zH ?_
 simp only [Act.put, zA, zB, zC]
 refine zT 12 rfl (by kernel_rfl) (fun _ _ _ => id) rfl (fun _ _ => by go_simp <;> with_reducible rfl) zH ?_
 simp only [Act.put, zA, zB, zC]
 refine zT 13 rfl (by kernel_rfl) (fun _ _ _ => id) rfl (fun wx hS => by have hc2 : wx.cell? ⟨w.heap.size, 2, none⟩ = some (.int .i64 p.2.2) := hS.c 2 (zD rfl); go_simp <;> with_reducible rfl) zH ?_
 simp only [Act.put, zA, zB, zC]
 refine zT 14 rfl (by kernel_rfl) (fun _ _ _ => id) rfl (fun _ _ => by go_simp <;> with_reducible rfl) zH ?_
 simp only [Act.put, zA, zB, zC]
 refine zK 5 (by kernel_rfl) rfl (fun K hK => ?_)
 go_simp
 refine (Mul_any b bad p.1 k _ ((hw.alloc _).alloc _).drew).mono ?_
 rintro e w1 ⟨rfl, f1, k1⟩
 generalize e1 : mulS bad p.1 k = r1 at f1 ⊢
 have E1 : Hid _ := e1
 clear e1
 have K1 : Kept b w w1 := Kept.trans (((Kept.refl b w).al _).al _).drew k1
 have B0_1 : Arr w.heap.size [.int .i64 p.1, .int .i64 p.2.1, .int .i64 p.2.2] w1 := ((Arr_at _ _ [.int .i64 p.1, .int .i64 p.2.1, .int .i64 p.2.2] _ (by simp)).alloc _).drew.kept k1 (by omega)
 have B1_1 : Arr (w.heap.size + 1) [.int .i64 0, .int .i64 0, .int .i64 0] w1 := (Arr_at _ _ [.int .i64 0, .int .i64 0, .int .i64 0] _ (by simp)).drew.kept k1 (by omega)
 have z1 := B1_1.lies
 clear zH
 refine hK.out _ _ B0_1 (fun zH => ?_)
 clear hK K k1
 refine zK 10 (by kernel_rfl) rfl (fun K hK => ?_)
 go_simp
 refine (Mul_any b r1.2 p.2.1 k _ f1).mono ?_
 rintro e w2 ⟨rfl, f2, k2⟩
 generalize e2 : mulS r1.2 p.2.1 k = r2 at f2 ⊢
 have E2 : Hid _ := e2
 clear e2
 have K2 := Kept.trans K1 k2
 have B0_2 := B0_1.kept k2 (by omega)
 have B1_2 := B1_1.kept k2 (by omega)
 have z2 := B1_2.lies
 clear zH
 refine hK.out _ _ B0_2 (fun zH => ?_)
 clear hK K K1 f1 B0_1 B1_1 k2
 refine zK 15 (by kernel_rfl) rfl (fun K hK => ?_)
 go_simp
 refine (Mul_any b r2.2 p.2.2 k _ f2).mono ?_
 rintro e w3 ⟨rfl, f3, k3⟩
 generalize e3 : mulS r2.2 p.2.2 k = r3 at f3 ⊢
 have E3 : Hid _ := e3
 clear e3
 have K3 := Kept.trans K2 k3
 have B0_3 := B0_2.kept k3 (by omega)
 have B1_3 := B1_2.kept k3 (by omega)
 have z3 := B1_3.lies
 clear zH
 refine hK.out _ _ B0_3 (fun zH => ?_)
 clear hK K K2 f2 B0_2 B1_2 k3
 refine zT 16 rfl (by kernel_rfl) (fun _ _ _ => id) rfl (fun _ _ => by go_simp <;> with_reducible rfl) zH ?_
 simp only [Act.put, zA, zB, zC]
 refine zK 17 (by kernel_rfl) rfl (fun K hK => ?_)
 go_simp
 refine (sound_any b r3.2 (r1.1, r2.1, r3.1) _ f3).mono ?_
 rintro e w4 ⟨rfl, f4, k4⟩
 generalize e4 : soundS r3.2 (r1.1, r2.1, r3.1) = r4 at f4 ⊢
 have E4 : Hid _ := e4
 clear e4
 have K4 := Kept.trans K3 k4
 have B0_4 := B0_3.kept k4 (by omega)
 have B1_4 := B1_3.kept k4 (by omega)
 have z4 := B1_4.lies
 clear zH
 refine hK.out _ _ B0_4 (fun zH => ?_)
 clear hK K K3 f3 B0_3 B1_3 k4
 refine zK 18 (by kernel_rfl) rfl (fun K hK => ?_)
 have c2_B1_0 : w4.cell? ⟨w.heap.size + 1, 0, none⟩ = some (.int .i64 0) := B1_4.c 0 (zD rfl)
 have c2_B1_1 : w4.cell? ⟨w.heap.size + 1, 1, none⟩ = some (.int .i64 0) := B1_4.c 1 (zD rfl)
 have c2_B1_2 : w4.cell? ⟨w.heap.size + 1, 2, none⟩ = some (.int .i64 0) := B1_4.c 2 (zD rfl)
 have g2_B1_0 := B1_4.f 0 (zD rfl)
 have g2_B1_1 := B1_4.f 1 (zD rfl)
 have g2_B1_2 := B1_4.f 2 (zD rfl)
 go_simp
 clear zH
 refine hK.out _ _ (((B0_4.new _ _ (by omega) _).new _ _ (by omega) _).new _ _ (by omega) _) (fun zH => ?_)
 clear hK K c2_B1_0 c2_B1_1 c2_B1_2 g2_B1_0 g2_B1_1 g2_B1_2
 refine wpAnyH_done (by kernel_rfl) ?_ _
 clear zH
 go_wp2
 have d0 := Arr.c (B1_4.put 0 (zD rfl) (.int .i64 r4.1.1) [.int .i64 r4.1.1, .int .i64 0, .int .i64 0] rfl) 0 (zD rfl)
 have d1 := Arr.c ((B1_4.put 0 (zD rfl) (.int .i64 r4.1.1) [.int .i64 r4.1.1, .int .i64 0, .int .i64 0] rfl).put 1 (zD rfl) (.int .i64 r4.1.2.1) [.int .i64 r4.1.1, .int .i64 r4.1.2.1, .int .i64 0] rfl) 1 (zD rfl)
 have d2 := Arr.c (((B1_4.put 0 (zD rfl) (.int .i64 r4.1.1) [.int .i64 r4.1.1, .int .i64 0, .int .i64 0] rfl).put 1 (zD rfl) (.int .i64 r4.1.2.1) [.int .i64 r4.1.1, .int .i64 r4.1.2.1, .int .i64 0] rfl).put 2 (zD rfl) (.int .i64 r4.1.2.2) [.int .i64 r4.1.1, .int .i64 r4.1.2.1, .int .i64 r4.1.2.2] rfl) 2 (zD rfl)
 refine bodyPost_ret (v := .agg #[.int .i64 r4.1.1, .int .i64 r4.1.2.1, .int .i64 r4.1.2.2]) (by simp [results, Tryz.results108, go_sem, d0, d1, d2]) rfl ?_
 have hs : vScaleS bad p k = (r4.1, r4.2) := by unfold vScaleS; simp only [E1.out, E2.out, E3.out, E4.out]
 rw [hs]
 exact ⟨rfl, (((f4.new _ _ (by omega) _).new _ _ (by omega) _).new _ _ (by omega) _), (((K4.new _ _ (by omega) _).new _ _ (by omega) _).new _ _ (by omega) _)⟩
theorem vNorm_any (b : Nat) (bad : Bool) (p : V3) (w : World) (hw : Fl b bad w) :
    Calls Tryz.prog 53 #[.pointer (some ⟨b, 0, none⟩), .agg #[.int .i64 p.1, .int .i64 p.2.1, .int .i64 p.2.2]] w fun e w' => e = .returned (.int .i64 ((vNormS bad p).1)) ∧ Fl b (vNormS bad p).2 w' ∧ Kept b w w' := by
 have hl := hw.lies
 go_enter Tryz.func53, Tryz.ntmps53
 go_wp2_with fail
 refine (Norm_any b bad p.1 p.2.1 p.2.2 _ (hw.alloc _)).mono ?_
 rintro e w1 ⟨rfl, f1, k1⟩
 generalize e1 : normS bad p.1 p.2.1 p.2.2 = r1 at f1 ⊢
 have E1 : Hid _ := e1
 clear e1
 have K1 : Kept b w w1 := Kept.trans ((Kept.refl b w).al _) k1
 have B0_1 : Arr w.heap.size [.int .i64 p.1, .int .i64 p.2.1, .int .i64 p.2.2] w1 := (Arr_at _ _ [.int .i64 p.1, .int .i64 p.2.1, .int .i64 p.2.2] _ (by simp)).kept k1 (by omega)
 have z1 := B0_1.lies
 clear k1
 go_wp2
 go_ret
 have hs : vNormS bad p = (r1.1, r1.2) := by unfold vNormS; simp only [E1.out]
 rw [hs]
 exact ⟨rfl, f1, K1⟩
theorem vUnit_any (b : Nat) (bad : Bool) (p : V3) (w : World) (hw : Fl b bad w) :
    Calls Tryz.prog 188 #[.pointer (some ⟨b, 0, none⟩), .agg #[.int .i64 p.1, .int .i64 p.2.1, .int .i64 p.2.2]] w fun e w' => e = .returned (.agg #[.int .i64 ((vUnitS bad p).1.1), .int .i64 ((vUnitS bad p).1.2.1), .int .i64 ((vUnitS bad p).1.2.2)]) ∧ Fl b (vUnitS bad p).2 w' ∧ Kept b w w' := by
 have hl := hw.lies
 go_enter Tryz.func188, Tryz.ntmps188
 go_wp2_with fail
 refine (vNorm_any b bad p _ ((hw.alloc _).alloc _)).mono ?_
 rintro e w1 ⟨rfl, f1, k1⟩
 generalize e1 : vNormS bad p = r1 at f1 ⊢
 have E1 : Hid _ := e1
 clear e1
 have K1 : Kept b w w1 := Kept.trans (((Kept.refl b w).al _).al _) k1
 have B0_1 : Arr w.heap.size [.int .i64 p.1, .int .i64 p.2.1, .int .i64 p.2.2] w1 := ((Arr_at _ _ [.int .i64 p.1, .int .i64 p.2.1, .int .i64 p.2.2] _ (by simp)).alloc _).kept k1 (by omega)
 have B1_1 : Arr (w.heap.size + 1) [.int .i64 0, .int .i64 0, .int .i64 0] w1 := (Arr_at _ _ [.int .i64 0, .int .i64 0, .int .i64 0] _ (by simp)).kept k1 (by omega)
 have z1 := B1_1.lies
 clear k1
 by_cases hc1 : r1.1 < 1048576
 ·have Hhc1 : Hid (r1.1 < 1048576) := hc1
  go_wp2_with fail
  refine (Fail_any b r1.2  _ f1).mono ?_
  rintro e w2 ⟨rfl, f2, k2⟩
  have K2 := Kept.trans K1 k2
  have B0_2 := B0_1.kept k2 (by omega)
  have B1_2 := B1_1.kept k2 (by omega)
  have z2 := B1_2.lies
  clear K1 f1 B0_1 B1_1 k2
  have c3_B1_0 : w2.cell? ⟨w.heap.size + 1, 0, none⟩ = some (.int .i64 0) := B1_2.c 0 (zD rfl)
  have c3_B1_1 : w2.cell? ⟨w.heap.size + 1, 1, none⟩ = some (.int .i64 0) := B1_2.c 1 (zD rfl)
  have c3_B1_2 : w2.cell? ⟨w.heap.size + 1, 2, none⟩ = some (.int .i64 0) := B1_2.c 2 (zD rfl)
  have g3_B1_0 := B1_2.f 0 (zD rfl)
  have g3_B1_1 := B1_2.f 1 (zD rfl)
  have g3_B1_2 := B1_2.f 2 (zD rfl)
  go_wp2
  clear c3_B1_0 c3_B1_1 c3_B1_2 g3_B1_0 g3_B1_1 g3_B1_2
  have d0 := Arr.c (B1_2.put 0 (zD rfl) (.int .i64 0) [.int .i64 0, .int .i64 0, .int .i64 0] rfl) 0 (zD rfl)
  have d1 := Arr.c ((B1_2.put 0 (zD rfl) (.int .i64 0) [.int .i64 0, .int .i64 0, .int .i64 0] rfl).put 1 (zD rfl) (.int .i64 0) [.int .i64 0, .int .i64 0, .int .i64 0] rfl) 1 (zD rfl)
  have d2 := Arr.c (((B1_2.put 0 (zD rfl) (.int .i64 0) [.int .i64 0, .int .i64 0, .int .i64 0] rfl).put 1 (zD rfl) (.int .i64 0) [.int .i64 0, .int .i64 0, .int .i64 0] rfl).put 2 (zD rfl) (.int .i64 0) [.int .i64 0, .int .i64 0, .int .i64 0] rfl) 2 (zD rfl)
  refine bodyPost_ret (v := .agg #[.int .i64 0, .int .i64 0, .int .i64 0]) (by simp [results, Tryz.results188, go_sem, d0, d1, d2]) rfl ?_
  have hs : vUnitS bad p = ((0, 0, 0), true) := by unfold vUnitS; simp only [E1.out]; rw [if_pos (by have := Hhc1.out; omega)]
  rw [hs]
  exact ⟨rfl, (((f2.new _ _ (by omega) _).new _ _ (by omega) _).new _ _ (by omega) _), (((K2.new _ _ (by omega) _).new _ _ (by omega) _).new _ _ (by omega) _)⟩
 ·have Hhc1 : Hid (¬ r1.1 < 1048576) := hc1
  go_wp2_with fail
  refine wp_region_held_drew (S := fun w' => Arr w.heap.size [.int .i64 p.1, .int .i64 p.2.1, .int .i64 p.2.2] w') (by kernel_rfl) B0_1.drew (fun zH => ?_)
  refine zT 0 rfl (by kernel_rfl) (fun _ _ _ => id) rfl (fun _ _ => by go_simp <;> with_reducible rfl) zH ?_
  simp only [Act.put, zA, zB, zC]
  refine zT 1 rfl (by kernel_rfl) (fun _ _ _ => id) rfl (fun _ _ => by go_simp <;> with_reducible rfl) zH ?_
  simp only [Act.put, zA, zB, zC]
  refine zT 2 rfl (by kernel_rfl) (fun _ _ _ => id) rfl (fun wx hS => by have hc0 : wx.cell? ⟨w.heap.size, 0, none⟩ = some (.int .i64 p.1) := hS.c 0 (zD rfl); go_simp <;> with_reducible rfl) zH ?_
  simp only [Act.put, zA, zB, zC]
  refine zT 3 rfl (by kernel_rfl) (fun _ _ _ => id) rfl (fun _ _ => by go_simp <;> with_reducible rfl) zH ?_
  simp only [Act.put, zA, zB, zC]
  refine zT 5 rfl (by kernel_rfl) (fun _ _ _ => id) rfl (fun _ _ => by go_simp <;> with_reducible rfl) zH ?_
  simp only [Act.put, zA, zB, zC]
  refine zT 6 rfl (by kernel_rfl) (fun _ _ _ => id) rfl (fun _ _ => by go_simp <;> with_reducible rfl) zH ?_
  simp only [Act.put, zA, zB, zC]
  refine zT 7 rfl (by kernel_rfl) (fun _ _ _ => id) rfl (fun wx hS => by have hc1 : wx.cell? ⟨w.heap.size, 1, none⟩ = some (.int .i64 p.2.1) := hS.c 1 (zD rfl); go_simp <;> with_reducible rfl) zH ?_
  simp only [Act.put, zA, zB, zC]
  refine zT 8 rfl (by kernel_rfl) (fun _ _ _ => id) rfl (fun _ _ => by go_simp <;> with_reducible rfl) zH ?_
  simp only [Act.put, zA, zB, zC]
  refine zT 10 rfl (by kernel_rfl) (fun _ _ _ => id) rfl (fun _ _ => by go_simp <;> with_reducible rfl) zH ?_
  simp only [Act.put, zA, zB, zC]
  refine zT 11 rfl (by kernel_rfl) (fun _ _ _ => id) rfl (fun _ _ => by go_simp <;> with_reducible rfl) zH ?_
  simp only [Act.put, zA, zB, zC]
  refine zT 12 rfl (by kernel_rfl) (fun _ _ _ => id) rfl (fun wx hS => by have hc2 : wx.cell? ⟨w.heap.size, 2, none⟩ = some (.int .i64 p.2.2) := hS.c 2 (zD rfl); go_simp <;> with_reducible rfl) zH ?_
  simp only [Act.put, zA, zB, zC]
  refine zT 13 rfl (by kernel_rfl) (fun _ _ _ => id) rfl (fun _ _ => by go_simp <;> with_reducible rfl) zH ?_
  simp only [Act.put, zA, zB, zC]
  refine zK 4 (by kernel_rfl) rfl (fun K hK => ?_)
  go_simp
  refine (Div_any b r1.2 p.1 r1.1 _ f1.drew).mono ?_
  rintro e w2 ⟨rfl, f2, k2⟩
  generalize e2 : divS r1.2 p.1 r1.1 = r2 at f2 ⊢
  have E2 : Hid _ := e2
  clear e2
  have K2 : Kept b w w2 := Kept.trans K1.drew k2
  have B0_2 := B0_1.drew.kept k2 (by omega)
  have B1_2 := B1_1.drew.kept k2 (by omega)
  have z2 := B1_2.lies
  clear zH
  refine hK.out _ _ B0_2 (fun zH => ?_)
  clear hK K K1 f1 B0_1 B1_1 k2
  refine zK 9 (by kernel_rfl) rfl (fun K hK => ?_)
  go_simp
  refine (Div_any b r2.2 p.2.1 r1.1 _ f2).mono ?_
  rintro e w3 ⟨rfl, f3, k3⟩
  generalize e3 : divS r2.2 p.2.1 r1.1 = r3 at f3 ⊢
  have E3 : Hid _ := e3
  clear e3
  have K3 := Kept.trans K2 k3
  have B0_3 := B0_2.kept k3 (by omega)
  have B1_3 := B1_2.kept k3 (by omega)
  have z3 := B1_3.lies
  clear zH
  refine hK.out _ _ B0_3 (fun zH => ?_)
  clear hK K K2 f2 B0_2 B1_2 k3
  refine zK 14 (by kernel_rfl) rfl (fun K hK => ?_)
  go_simp
  refine (Div_any b r3.2 p.2.2 r1.1 _ f3).mono ?_
  rintro e w4 ⟨rfl, f4, k4⟩
  generalize e4 : divS r3.2 p.2.2 r1.1 = r4 at f4 ⊢
  have E4 : Hid _ := e4
  clear e4
  have K4 := Kept.trans K3 k4
  have B0_4 := B0_3.kept k4 (by omega)
  have B1_4 := B1_3.kept k4 (by omega)
  have z4 := B1_4.lies
  clear zH
  refine hK.out _ _ B0_4 (fun zH => ?_)
  clear hK K K3 f3 B0_3 B1_3 k4
  refine zT 15 rfl (by kernel_rfl) (fun _ _ _ => id) rfl (fun _ _ => by go_simp <;> with_reducible rfl) zH ?_
  simp only [Act.put, zA, zB, zC]
  refine zK 16 (by kernel_rfl) rfl (fun K hK => ?_)
  have c3_B1_0 : w4.cell? ⟨w.heap.size + 1, 0, none⟩ = some (.int .i64 0) := B1_4.c 0 (zD rfl)
  have c3_B1_1 : w4.cell? ⟨w.heap.size + 1, 1, none⟩ = some (.int .i64 0) := B1_4.c 1 (zD rfl)
  have c3_B1_2 : w4.cell? ⟨w.heap.size + 1, 2, none⟩ = some (.int .i64 0) := B1_4.c 2 (zD rfl)
  have g3_B1_0 := B1_4.f 0 (zD rfl)
  have g3_B1_1 := B1_4.f 1 (zD rfl)
  have g3_B1_2 := B1_4.f 2 (zD rfl)
  go_simp
  clear zH
  refine hK.out _ _ (((B0_4.new _ _ (by omega) _).new _ _ (by omega) _).new _ _ (by omega) _) (fun zH => ?_)
  clear hK K c3_B1_0 c3_B1_1 c3_B1_2 g3_B1_0 g3_B1_1 g3_B1_2
  refine wpAnyH_done (by kernel_rfl) ?_ _
  clear zH
  go_wp2
  have d0 := Arr.c (B1_4.put 0 (zD rfl) (.int .i64 r2.1) [.int .i64 r2.1, .int .i64 0, .int .i64 0] rfl) 0 (zD rfl)
  have d1 := Arr.c ((B1_4.put 0 (zD rfl) (.int .i64 r2.1) [.int .i64 r2.1, .int .i64 0, .int .i64 0] rfl).put 1 (zD rfl) (.int .i64 r3.1) [.int .i64 r2.1, .int .i64 r3.1, .int .i64 0] rfl) 1 (zD rfl)
  have d2 := Arr.c (((B1_4.put 0 (zD rfl) (.int .i64 r2.1) [.int .i64 r2.1, .int .i64 0, .int .i64 0] rfl).put 1 (zD rfl) (.int .i64 r3.1) [.int .i64 r2.1, .int .i64 r3.1, .int .i64 0] rfl).put 2 (zD rfl) (.int .i64 r4.1) [.int .i64 r2.1, .int .i64 r3.1, .int .i64 r4.1] rfl) 2 (zD rfl)
  refine bodyPost_ret (v := .agg #[.int .i64 r2.1, .int .i64 r3.1, .int .i64 r4.1]) (by simp [results, Tryz.results188, go_sem, d0, d1, d2]) rfl ?_
  have hs : vUnitS bad p = ((r2.1, r3.1, r4.1), r4.2) := by unfold vUnitS; simp only [E1.out, E2.out, E3.out, E4.out]; rw [if_neg (by have := Hhc1.out; omega)]
  rw [hs]
  exact ⟨rfl, (((f4.new _ _ (by omega) _).new _ _ (by omega) _).new _ _ (by omega) _), (((K4.new _ _ (by omega) _).new _ _ (by omega) _).new _ _ (by omega) _)⟩
end Go.Proofs.YtbophanlmkbfeaaGreatDoor
