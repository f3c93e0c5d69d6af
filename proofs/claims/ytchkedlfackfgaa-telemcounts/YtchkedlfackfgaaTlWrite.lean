/-
  Telem: Write, walked, for the seat Ytchkedlfackfgaa. (Made by mktl.py.)
-/
import Derived.Test.YtchkedlfackfgaaTlOk
namespace Go.Proofs.Ytchkedlfackfgaa
open Go.RowKit

set_option maxHeartbeats 4000000 in
set_option maxRecDepth 100000 in
theorem twrite_no (T : Tl) (w : World) (h : tlOk T = false) :
    Calls Try.prog 7 #[.agg #[.int .i64 T.t, .int .i64 T.m, .int .i64 T.fa, .int .i64 T.ak, .int .i64 T.er, .int .i64 T.rj, .int .i64 T.q0, .int .i64 T.q1, .int .i64 T.q2, .int .i64 T.q3, .int .i64 T.d0, .int .i64 T.d1, .int .i64 T.d2]] w fun e w' => e = .returned (.tuple #[.agg #[.int .i64 0, .string ⟨#[]⟩], .bool false]) ∧ Below w.heap.size w w' := by
  have hm := mayTell_any T
  rw [h] at hm
  go_enter Try.func7, Try.ntmps7
  have A0 := (Arr_at w w.heap.size [.int .i64 T.t, .int .i64 T.m, .int .i64 T.fa, .int .i64 T.ak, .int .i64 T.er, .int .i64 T.rj, .int .i64 T.q0, .int .i64 T.q1, .int .i64 T.q2, .int .i64 T.q3, .int .i64 T.d0, .int .i64 T.d1, .int .i64 T.d2] 25 rfl).alloc (.cells #[.int .i64 0, .string ⟨#[]⟩] 28)
  have R0 := Arr_at (w.alloc (.cells #[.int .i64 T.t, .int .i64 T.m, .int .i64 T.fa, .int .i64 T.ak, .int .i64 T.er, .int .i64 T.rj, .int .i64 T.q0, .int .i64 T.q1, .int .i64 T.q2, .int .i64 T.q3, .int .i64 T.d0, .int .i64 T.d1, .int .i64 T.d2] 25)) (w.heap.size + 1) [.int .i64 0, .string ⟨#[]⟩] 28 (by simp)
  have L0 := bel_al (bel_al (Below.refl w.heap.size w) (.cells #[.int .i64 T.t, .int .i64 T.m, .int .i64 T.fa, .int .i64 T.ak, .int .i64 T.er, .int .i64 T.rj, .int .i64 T.q0, .int .i64 T.q1, .int .i64 T.q2, .int .i64 T.q3, .int .i64 T.d0, .int .i64 T.d1, .int .i64 T.d2] 25)) (.cells #[.int .i64 0, .string ⟨#[]⟩] 28)
  go_wp2_with fail
  refine (hm _).mono ?_
  rintro e X1 ⟨rfl, k⟩
  have A1 := A0.below k
  have R1 := R0.below k
  have L1 := bel_then L0 k
  have Az1 := A1.lies
  have Rz1 := R1.lies
  clear k A0 R0 L0
  have c0 : X1.cell? ⟨w.heap.size + 1, 0, none⟩ = some (.int .i64 0) := R1.c 0 (of_decide_eq_true rfl)
  have c1 : X1.cell? ⟨w.heap.size + 1, 1, none⟩ = some (.string ⟨#[]⟩) := R1.c 1 (of_decide_eq_true rfl)
  have f0 := R1.f 0 (of_decide_eq_true rfl)
  have f1 := R1.f 1 (of_decide_eq_true rfl)
  go_wp2_with (with_reducible refine post_stop ?_)
  have d0 := Arr.c ((R1.put 0 (of_decide_eq_true rfl) (.int .i64 0) [.int .i64 0, .string ⟨#[]⟩] rfl).put 1 (of_decide_eq_true rfl) (.string ⟨#[]⟩) [.int .i64 0, .string ⟨#[]⟩] rfl) 0 (of_decide_eq_true rfl)
  have d1 := Arr.c ((R1.put 0 (of_decide_eq_true rfl) (.int .i64 0) [.int .i64 0, .string ⟨#[]⟩] rfl).put 1 (of_decide_eq_true rfl) (.string ⟨#[]⟩) [.int .i64 0, .string ⟨#[]⟩] rfl) 1 (of_decide_eq_true rfl)
  simp only [List.getElem_cons_zero, List.getElem_cons_succ] at d0 d1
  exact ⟨bodyPost_ret (v := .tuple #[.agg #[.int .i64 0, .string ⟨#[]⟩], .bool false]) (by simp [results_cell_tmp Try.results7, asAddr, go_sem, d0, d1]) rfl ⟨rfl, bel_new (bel_new L1 _ _ (by omega) _) _ _ (by omega) _⟩⟩
set_option maxHeartbeats 4000000 in
set_option maxRecDepth 100000 in
theorem twrite_yes (T : Tl) (w : World) (h : tlOk T = true) :
    Calls Try.prog 7 #[.agg #[.int .i64 T.t, .int .i64 T.m, .int .i64 T.fa, .int .i64 T.ak, .int .i64 T.er, .int .i64 T.rj, .int .i64 T.q0, .int .i64 T.q1, .int .i64 T.q2, .int .i64 T.q3, .int .i64 T.d0, .int .i64 T.d1, .int .i64 T.d2]] w fun e w' => e = .returned (.tuple #[.agg #[.int .i64 32, .string (strOf (tlL T))], .bool true]) ∧ Below w.heap.size w w' := by
  have hm := mayTell_any T
  rw [h] at hm
  have H := tl_in h
  clear h
  have HL : Hid (tickL T.t ++ [T.m, T.fa, T.ak, T.er] ++ twoL T.rj ++ twoL T.q0 ++ twoL T.q1 ++ twoL T.q2 ++ twoL T.q3 ++ twoL T.d0 ++ twoL T.d1 ++ twoL T.d2 = tlL T) := rfl
  have hrg := tlL_rng H
  have wm : IntKind.u8.wrap T.m = T.m := by have := H.m; rw [IntKind.wrap_u8]; omega
  have wfa : IntKind.u8.wrap T.fa = T.fa := by have := H.fa; rw [IntKind.wrap_u8]; omega
  have wak : IntKind.u8.wrap T.ak = T.ak := by have := H.ak; rw [IntKind.wrap_u8]; omega
  have wer : IntKind.u8.wrap T.er = T.er := by have := H.er; rw [IntKind.wrap_u8]; omega
  generalize hS : strOf (tlL T) = S
  have HS : Hid (strOf (tlL T) = S) := hS
  clear hS
  have ht := H.t
  have htk := fun W => wtick_any T.t W ht.1 ht.2
  clear ht
  go_enter Try.func7, Try.ntmps7
  have A0 := (Arr_at w w.heap.size [.int .i64 T.t, .int .i64 T.m, .int .i64 T.fa, .int .i64 T.ak, .int .i64 T.er, .int .i64 T.rj, .int .i64 T.q0, .int .i64 T.q1, .int .i64 T.q2, .int .i64 T.q3, .int .i64 T.d0, .int .i64 T.d1, .int .i64 T.d2] 25 rfl).alloc (.cells #[.int .i64 0, .string ⟨#[]⟩] 28)
  have R0 := Arr_at (w.alloc (.cells #[.int .i64 T.t, .int .i64 T.m, .int .i64 T.fa, .int .i64 T.ak, .int .i64 T.er, .int .i64 T.rj, .int .i64 T.q0, .int .i64 T.q1, .int .i64 T.q2, .int .i64 T.q3, .int .i64 T.d0, .int .i64 T.d1, .int .i64 T.d2] 25)) (w.heap.size + 1) [.int .i64 0, .string ⟨#[]⟩] 28 (by simp)
  have L0 := bel_al (bel_al (Below.refl w.heap.size w) (.cells #[.int .i64 T.t, .int .i64 T.m, .int .i64 T.fa, .int .i64 T.ak, .int .i64 T.er, .int .i64 T.rj, .int .i64 T.q0, .int .i64 T.q1, .int .i64 T.q2, .int .i64 T.q3, .int .i64 T.d0, .int .i64 T.d1, .int .i64 T.d2] 25)) (.cells #[.int .i64 0, .string ⟨#[]⟩] 28)
  go_wp2_with fail
  refine (hm _).mono ?_
  rintro e X1 ⟨rfl, k⟩
  have A1 := A0.below k
  have R1 := R0.below k
  have L1 := bel_then L0 k
  have Az1 := A1.lies
  have Rz1 := R1.lies
  clear k A0 R0 L0
  have a0 : X1.cell? ⟨w.heap.size, 0, none⟩ = some (.int .i64 T.t) := A1.c 0 (of_decide_eq_true rfl)
  go_wp2_with fail
  refine (htk _).mono ?_
  rintro e X2 ⟨v2, rfl, o2, k⟩
  have o2 := o2.base (show w.heap.size + 2 ≤ X1.heap.size by omega)
  have A2 := A1.below k
  have R2 := R1.below k
  have L2 := bel_then L1 k
  have Az2 := A2.lies
  have Rz2 := R2.lies
  clear k A1 R1 L1 Az1 Rz1
  clear a0
  have z2 : w.heap.size + 2 ≤ X2.heap.size := by omega
  have a1 : X2.cell? ⟨w.heap.size, 1, none⟩ = some (.int .i64 T.m) := A2.c 1 (of_decide_eq_true rfl)
  have a2 : X2.cell? ⟨w.heap.size, 2, none⟩ = some (.int .i64 T.fa) := A2.c 2 (of_decide_eq_true rfl)
  have a3 : X2.cell? ⟨w.heap.size, 3, none⟩ = some (.int .i64 T.ak) := A2.c 3 (of_decide_eq_true rfl)
  have a4 : X2.cell? ⟨w.heap.size, 4, none⟩ = some (.int .i64 T.er) := A2.c 4 (of_decide_eq_true rfl)
  go_wp2_with (at_builtin; refine app_any rfl (.tmp 16) (.tmp 29) rfl (w.heap.size + 2) v2 (tickL T.t) [T.m, T.fa, T.ak, T.er] X2 rfl o2 rfl (Nat.le_of_ble_eq_true rfl) z2 ?_; intro v3 X3 o3 k s; have A3 := A2.under k (by omega) s; have R3 := R2.under k (by omega) s; have L3 := L2.trans (k.mono (by omega)); have Az3 := A3.lies; have Rz3 := R3.lies; clear k A2 R2 L2 s Az2 Rz2; clear a1 a2 a3 a4; have z3 : w.heap.size + 2 ≤ X3.heap.size := (by omega); clear o2 z2; have a5 : X3.cell? ⟨w.heap.size, 5, none⟩ = some (.int .i64 T.rj) := A3.c 5 (of_decide_eq_true rfl))
  skip
  refine (wcount_any (w.heap.size + 2) v3 (tickL T.t ++ [T.m, T.fa, T.ak, T.er]) T.rj _ o3 z3 (Nat.le_of_ble_eq_true rfl)).mono ?_
  rintro e X4 ⟨v4, rfl, o4, k, s⟩
  have A4 := A3.under k (by omega) s
  have R4 := R3.under k (by omega) s
  have L4 := L3.trans (k.mono (by omega))
  have Az4 := A4.lies
  have Rz4 := R4.lies
  clear k A3 R3 L3 s Az3 Rz3
  clear a5
  have z4 : w.heap.size + 2 ≤ X4.heap.size := by omega
  clear o3 z3
  have a6 : X4.cell? ⟨w.heap.size, 6, none⟩ = some (.int .i64 T.q0) := A4.c 6 (of_decide_eq_true rfl)
  have a7 : X4.cell? ⟨w.heap.size, 7, none⟩ = some (.int .i64 T.q1) := A4.c 7 (of_decide_eq_true rfl)
  have a8 : X4.cell? ⟨w.heap.size, 8, none⟩ = some (.int .i64 T.q2) := A4.c 8 (of_decide_eq_true rfl)
  have a9 : X4.cell? ⟨w.heap.size, 9, none⟩ = some (.int .i64 T.q3) := A4.c 9 (of_decide_eq_true rfl)
  go_wp2_with fail
  refine wp_loop_rounds 5 ?_
  clear a6 a7 a8 a9
  rw [rounds_succ]
  go_wp2_with fail
  refine (wcount_any (w.heap.size + 2) v4 (tickL T.t ++ [T.m, T.fa, T.ak, T.er] ++ twoL T.rj) T.q0 _ o4 z4 (Nat.le_of_ble_eq_true rfl)).mono ?_
  rintro e X5 ⟨v5, rfl, o5, k, s⟩
  have A5 := A4.under k (by omega) s
  have R5 := R4.under k (by omega) s
  have L5 := L4.trans (k.mono (by omega))
  have Az5 := A5.lies
  have Rz5 := R5.lies
  clear k A4 R4 L4 s Az4 Rz4
  have z5 : w.heap.size + 2 ≤ X5.heap.size := by omega
  clear o4 z4
  go_wp2_with fail
  rw [rounds_succ]
  go_wp2_with fail
  refine (wcount_any (w.heap.size + 2) v5 (tickL T.t ++ [T.m, T.fa, T.ak, T.er] ++ twoL T.rj ++ twoL T.q0) T.q1 _ o5 z5 (Nat.le_of_ble_eq_true rfl)).mono ?_
  rintro e X6 ⟨v6, rfl, o6, k, s⟩
  have A6 := A5.under k (by omega) s
  have R6 := R5.under k (by omega) s
  have L6 := L5.trans (k.mono (by omega))
  have Az6 := A6.lies
  have Rz6 := R6.lies
  clear k A5 R5 L5 s Az5 Rz5
  have z6 : w.heap.size + 2 ≤ X6.heap.size := by omega
  clear o5 z5
  go_wp2_with fail
  rw [rounds_succ]
  go_wp2_with fail
  refine (wcount_any (w.heap.size + 2) v6 (tickL T.t ++ [T.m, T.fa, T.ak, T.er] ++ twoL T.rj ++ twoL T.q0 ++ twoL T.q1) T.q2 _ o6 z6 (Nat.le_of_ble_eq_true rfl)).mono ?_
  rintro e X7 ⟨v7, rfl, o7, k, s⟩
  have A7 := A6.under k (by omega) s
  have R7 := R6.under k (by omega) s
  have L7 := L6.trans (k.mono (by omega))
  have Az7 := A7.lies
  have Rz7 := R7.lies
  clear k A6 R6 L6 s Az6 Rz6
  have z7 : w.heap.size + 2 ≤ X7.heap.size := by omega
  clear o6 z6
  go_wp2_with fail
  rw [rounds_succ]
  go_wp2_with fail
  refine (wcount_any (w.heap.size + 2) v7 (tickL T.t ++ [T.m, T.fa, T.ak, T.er] ++ twoL T.rj ++ twoL T.q0 ++ twoL T.q1 ++ twoL T.q2) T.q3 _ o7 z7 (Nat.le_of_ble_eq_true rfl)).mono ?_
  rintro e X8 ⟨v8, rfl, o8, k, s⟩
  have A8 := A7.under k (by omega) s
  have R8 := R7.under k (by omega) s
  have L8 := L7.trans (k.mono (by omega))
  have Az8 := A8.lies
  have Rz8 := R8.lies
  clear k A7 R7 L7 s Az7 Rz7
  have z8 : w.heap.size + 2 ≤ X8.heap.size := by omega
  clear o7 z7
  go_wp2_with fail
  have a10 : X8.cell? ⟨w.heap.size, 10, none⟩ = some (.int .i64 T.d0) := A8.c 10 (of_decide_eq_true rfl)
  have a11 : X8.cell? ⟨w.heap.size, 11, none⟩ = some (.int .i64 T.d1) := A8.c 11 (of_decide_eq_true rfl)
  have a12 : X8.cell? ⟨w.heap.size, 12, none⟩ = some (.int .i64 T.d2) := A8.c 12 (of_decide_eq_true rfl)
  rw [rounds_succ]
  go_wp2_with fail
  refine wp_loop_rounds 4 ?_
  clear a10 a11 a12
  rw [rounds_succ]
  go_wp2_with fail
  refine (wcount_any (w.heap.size + 2) v8 (tickL T.t ++ [T.m, T.fa, T.ak, T.er] ++ twoL T.rj ++ twoL T.q0 ++ twoL T.q1 ++ twoL T.q2 ++ twoL T.q3) T.d0 _ o8 z8 (Nat.le_of_ble_eq_true rfl)).mono ?_
  rintro e X9 ⟨v9, rfl, o9, k, s⟩
  have A9 := A8.under k (by omega) s
  have R9 := R8.under k (by omega) s
  have L9 := L8.trans (k.mono (by omega))
  have Az9 := A9.lies
  have Rz9 := R9.lies
  clear k A8 R8 L8 s Az8 Rz8
  have z9 : w.heap.size + 2 ≤ X9.heap.size := by omega
  clear o8 z8
  go_wp2_with fail
  rw [rounds_succ]
  go_wp2_with fail
  refine (wcount_any (w.heap.size + 2) v9 (tickL T.t ++ [T.m, T.fa, T.ak, T.er] ++ twoL T.rj ++ twoL T.q0 ++ twoL T.q1 ++ twoL T.q2 ++ twoL T.q3 ++ twoL T.d0) T.d1 _ o9 z9 (Nat.le_of_ble_eq_true rfl)).mono ?_
  rintro e X10 ⟨v10, rfl, o10, k, s⟩
  have A10 := A9.under k (by omega) s
  have R10 := R9.under k (by omega) s
  have L10 := L9.trans (k.mono (by omega))
  have Az10 := A10.lies
  have Rz10 := R10.lies
  clear k A9 R9 L9 s Az9 Rz9
  have z10 : w.heap.size + 2 ≤ X10.heap.size := by omega
  clear o9 z9
  go_wp2_with fail
  rw [rounds_succ]
  go_wp2_with fail
  refine (wcount_any (w.heap.size + 2) v10 (tickL T.t ++ [T.m, T.fa, T.ak, T.er] ++ twoL T.rj ++ twoL T.q0 ++ twoL T.q1 ++ twoL T.q2 ++ twoL T.q3 ++ twoL T.d0 ++ twoL T.d1) T.d2 _ o10 z10 (Nat.le_of_ble_eq_true rfl)).mono ?_
  rintro e X11 ⟨v11, rfl, o11, k, s⟩
  have A11 := A10.under k (by omega) s
  have R11 := R10.under k (by omega) s
  have L11 := L10.trans (k.mono (by omega))
  have Az11 := A11.lies
  have Rz11 := R11.lies
  clear k A10 R10 L10 s Az10 Rz10
  have z11 : w.heap.size + 2 ≤ X11.heap.size := by omega
  clear o10 z10
  go_wp2_with fail
  rw [rounds_succ]
  rw [HL.out] at o11
  have hcv := conv_any o11 (by unfold tlL; simp) hrg
  rw [HS.out] at hcv
  clear o11
  have c0 : X11.cell? ⟨w.heap.size + 1, 0, none⟩ = some (.int .i64 0) := R11.c 0 (of_decide_eq_true rfl)
  have c1 : X11.cell? ⟨w.heap.size + 1, 1, none⟩ = some (.string ⟨#[]⟩) := R11.c 1 (of_decide_eq_true rfl)
  have f0 := R11.f 0 (of_decide_eq_true rfl)
  have f1 := R11.f 1 (of_decide_eq_true rfl)
  go_wp2_with (with_reducible refine post_stop ?_)
  have d0 := Arr.c ((R11.put 0 (of_decide_eq_true rfl) (.int .i64 32) [.int .i64 32, .string ⟨#[]⟩] rfl).put 1 (of_decide_eq_true rfl) (.string S) [.int .i64 32, .string S] rfl) 0 (of_decide_eq_true rfl)
  have d1 := Arr.c ((R11.put 0 (of_decide_eq_true rfl) (.int .i64 32) [.int .i64 32, .string ⟨#[]⟩] rfl).put 1 (of_decide_eq_true rfl) (.string S) [.int .i64 32, .string S] rfl) 1 (of_decide_eq_true rfl)
  simp only [List.getElem_cons_zero, List.getElem_cons_succ] at d0 d1
  exact ⟨bodyPost_ret (v := .tuple #[.agg #[.int .i64 32, .string S], .bool true]) (by simp [results_cell_tmp Try.results7, asAddr, go_sem, d0, d1]) rfl ⟨rfl, bel_new (bel_new L11 _ _ (by omega) _) _ _ (by omega) _⟩⟩
theorem twrite_any (T : Tl) (w : World) :
    Calls Try.prog 7 #[.agg #[.int .i64 T.t, .int .i64 T.m, .int .i64 T.fa, .int .i64 T.ak, .int .i64 T.er, .int .i64 T.rj, .int .i64 T.q0, .int .i64 T.q1, .int .i64 T.q2, .int .i64 T.q3, .int .i64 T.d0, .int .i64 T.d1, .int .i64 T.d2]] w fun e w' => e = .returned (.tuple #[.agg #[.int .i64 (tlW T).1, .string (tlW T).2], .bool (tlOk T)]) ∧ Below w.heap.size w w' := by
  unfold tlW
  cases h : tlOk T
  · exact twrite_no T w h
  · exact twrite_yes T w h
end Go.Proofs.Ytchkedlfackfgaa
