/-
  Telem: Write, the code's and the document's, for the seat YtoadcnhcfodkgaaGreatDoor.
-/
import Derived.Test.YtoadcnhcfodkgaaGreatDoorTlOX
import Derived.Test.YtoadcnhcfodkgaaGreatDoorSenX
import Derived.Test.YtoadcnhcfodkgaaGreatDoorCwB
import Derived.Test.YtoadcnhcfodkgaaGreatDoorBdD
namespace Go.Proofs.YtoadcnhcfodkgaaGreatDoor
open Go.RowKit

@[go_sem] theorem idw_tq0 (a b c d : Int) (w : World) : (Instr.index 92 (.agg #[.int .i64 a, .int .i64 b, .int .i64 c, .int .i64 d]) (.int .i64 0)).run Tryz.prog w = .ok (.int .i64 a) w := by kernel_rfl
@[go_sem] theorem idw_tq1 (a b c d : Int) (w : World) : (Instr.index 92 (.agg #[.int .i64 a, .int .i64 b, .int .i64 c, .int .i64 d]) (.int .i64 1)).run Tryz.prog w = .ok (.int .i64 b) w := by kernel_rfl
@[go_sem] theorem idw_tq2 (a b c d : Int) (w : World) : (Instr.index 92 (.agg #[.int .i64 a, .int .i64 b, .int .i64 c, .int .i64 d]) (.int .i64 2)).run Tryz.prog w = .ok (.int .i64 c) w := by kernel_rfl
@[go_sem] theorem idw_tq3 (a b c d : Int) (w : World) : (Instr.index 92 (.agg #[.int .i64 a, .int .i64 b, .int .i64 c, .int .i64 d]) (.int .i64 3)).run Tryz.prog w = .ok (.int .i64 d) w := by kernel_rfl
@[go_sem] theorem idw_td0 (a b c : Int) (w : World) : (Instr.index 93 (.agg #[.int .i64 a, .int .i64 b, .int .i64 c]) (.int .i64 0)).run Tryz.prog w = .ok (.int .i64 a) w := by kernel_rfl
@[go_sem] theorem idw_td1 (a b c : Int) (w : World) : (Instr.index 93 (.agg #[.int .i64 a, .int .i64 b, .int .i64 c]) (.int .i64 1)).run Tryz.prog w = .ok (.int .i64 b) w := by kernel_rfl
@[go_sem] theorem idw_td2 (a b c : Int) (w : World) : (Instr.index 93 (.agg #[.int .i64 a, .int .i64 b, .int .i64 c]) (.int .i64 2)).run Tryz.prog w = .ok (.int .i64 c) w := by kernel_rfl
def txNo : Ct Tryz.prog := predCt Tryz.prog 170 (lone' (cT 13)) (fun x K => tlOk (txO x) = false ∧ K (.bool false)) (fun _ _ _ hK hs => ⟨hs.1, hK _ hs.2⟩) (go_of Tryz.func170 (by kernel_rfl) (by kernel_rfl)) (fun x w hw K hs => Calls.mono (mayTell_fx x w hw) (by rintro e w' ⟨rfl, hb⟩; exact ⟨_, rfl, rfl, by show K (cB.enc (tlOk (txO x))); rw [hs.1]; exact hs.2, hb⟩))
def txRo : Ct Tryz.prog := predCt Tryz.prog 108 (lone' (cT 13)) (fun x K => tlOk (txO x) = false ∧ K (.bool false)) (fun _ _ _ hK hs => ⟨hs.1, hK _ hs.2⟩) (go_of Tryz.func108 (by kernel_rfl) (by kernel_rfl)) (fun x w hw K hs => Calls.mono (rtRightO_fx x w hw) (by rintro e w' ⟨rfl, hb⟩; exact ⟨_, rfl, rfl, by show K (cB.enc (tlOk (txO x))); rw [hs.1]; exact hs.2, hb⟩))
def tx0 : (Int × ByteArray) × Bool := ((0, ⟨#[]⟩), false)
set_option maxRecDepth 100000 in
theorem txNo_w (x : Tup 13) (Post : Value → Prop) : swp Tryz.prog [txNo] (fun _ => []) 4 (bodyOf Tryz.prog 57) (retQ Tryz.prog (fnOf Tryz.prog 57) (fun v _ => Post v)) ((lone' (cT 13)).enc x ++ List.replicate ((fnOf Tryz.prog 57).ntmps - 1) undef) [] = (tlOk (txO x) = false ∧ PJ (two' cFra cB) Post tx0) := by kernel_rfl
set_option maxRecDepth 100000 in
theorem txNo_r (x : Tup 13) (Post : Value → Prop) : swp Tryz.prog [txRo] (fun _ => []) 4 (bodyOf Tryz.prog 34) (retQ Tryz.prog (fnOf Tryz.prog 34) (fun v _ => Post v)) ((lone' (cT 13)).enc x ++ List.replicate ((fnOf Tryz.prog 34).ntmps - 1) undef) [] = (tlOk (txO x) = false ∧ PJ (two' cFra cB) Post tx0) := by kernel_rfl
set_option maxRecDepth 100000 in
theorem twrite_none {x : Tup 13} (h : tlOk (txO x) = false) (w : World) (hw : GW w) : Calls Tryz.prog 57 ((lone' (cT 13)).enc x).toArray w fun e w' => e = .returned ((two' cFra cB).enc tx0) ∧ Below w.heap.size w w' :=
  pure_at (d := lone' (cT 13)) (k := two' cFra cB) (x := x) (y := tx0) (tbl := [txNo]) (dirty := fun _ => []) (n := 4) xmixA (f := 57) (fn := fnOf Tryz.prog 57) (c := bodyOf Tryz.prog 57) (by kernel_rfl) (by kernel_rfl) (fun Post hP => Eq.mpr (txNo_w x Post) ⟨h, hP⟩) w hw
set_option maxRecDepth 100000 in
theorem rtwrite_none {x : Tup 13} (h : tlOk (txO x) = false) (w : World) (hw : GW w) : Calls Tryz.prog 34 ((lone' (cT 13)).enc x).toArray w fun e w' => e = .returned ((two' cFra cB).enc tx0) ∧ Below w.heap.size w w' :=
  pure_at (d := lone' (cT 13)) (k := two' cFra cB) (x := x) (y := tx0) (tbl := [txRo]) (dirty := fun _ => []) (n := 4) xmixA (f := 34) (fn := fnOf Tryz.prog 34) (c := bodyOf Tryz.prog 34) (by kernel_rfl) (by kernel_rfl) (fun Post hP => Eq.mpr (txNo_r x Post) ⟨h, hP⟩) w hw
set_option maxHeartbeats 4000000 in
set_option maxRecDepth 100000 in
theorem twrite_all (T : Tl) (w : World) (hg : GW w) (h : tlOk T = true) :
    Calls Tryz.prog 57 #[.agg #[.int .i64 T.t, .int .i64 T.m, .int .i64 T.fa, .int .i64 T.ak, .int .i64 T.er, .int .i64 T.rj, .int .i64 T.q0, .int .i64 T.q1, .int .i64 T.q2, .int .i64 T.q3, .int .i64 T.d0, .int .i64 T.d1, .int .i64 T.d2]] w fun e w' => e = .returned (.tuple #[.agg #[.int .i64 32, .string (strOf (tlL T))], .bool true]) ∧ Below w.heap.size w w' := by
  have hm := mayTellG T
  rw [h] at hm
  have H := tl_in h
  clear h
  have HL : Hid (tickL T.t ++ [T.m, T.fa, T.ak, T.er] ++ twoL T.rj ++ twoL T.q0 ++ twoL T.q1 ++ twoL T.q2 ++ twoL T.q3 ++ twoL T.d0 ++ twoL T.d1 ++ twoL T.d2 = tlL T) := rfl
  have hrg := tlL_rng H
  have wm : IntKind.u8.wrap T.m = T.m := by have := H.m; rw [IntKind.wrap_u8]; omega
  have wfa : IntKind.u8.wrap T.fa = T.fa := by have := H.fa; rw [IntKind.wrap_u8]; omega
  have wak : IntKind.u8.wrap T.ak = T.ak := by have := H.ak; rw [IntKind.wrap_u8]; omega
  have wer : IntKind.u8.wrap T.er = T.er := by have := H.er; rw [IntKind.wrap_u8]; omega
  generalize hS : strOf (tlL T) = S
  have HS : Hid (strOf (tlL T) = S) := hS
  clear hS
  have ht := H.t
  have htk := fun W => wtick_any T.t W ht.1 ht.2
  clear ht
  go_enter Tryz.func57, Tryz.ntmps57
  have A0 := (Arr_at w w.heap.size [.int .i64 T.t, .int .i64 T.m, .int .i64 T.fa, .int .i64 T.ak, .int .i64 T.er, .int .i64 T.rj, .int .i64 T.q0, .int .i64 T.q1, .int .i64 T.q2, .int .i64 T.q3, .int .i64 T.d0, .int .i64 T.d1, .int .i64 T.d2] 95 rfl).alloc (.cells #[.int .i64 0, .string ⟨#[]⟩] 99)
  have R0 := Arr_at (w.alloc (.cells #[.int .i64 T.t, .int .i64 T.m, .int .i64 T.fa, .int .i64 T.ak, .int .i64 T.er, .int .i64 T.rj, .int .i64 T.q0, .int .i64 T.q1, .int .i64 T.q2, .int .i64 T.q3, .int .i64 T.d0, .int .i64 T.d1, .int .i64 T.d2] 95)) (w.heap.size + 1) [.int .i64 0, .string ⟨#[]⟩] 99 (by simp)
  have L0 := bel_al (bel_al (Below.refl w.heap.size w) (.cells #[.int .i64 T.t, .int .i64 T.m, .int .i64 T.fa, .int .i64 T.ak, .int .i64 T.er, .int .i64 T.rj, .int .i64 T.q0, .int .i64 T.q1, .int .i64 T.q2, .int .i64 T.q3, .int .i64 T.d0, .int .i64 T.d1, .int .i64 T.d2] 95)) (.cells #[.int .i64 0, .string ⟨#[]⟩] 99)
  go_wp2_with fail
  refine (hm _ ⟨(hg.1.alloc _).alloc _, (hg.2.alloc _).alloc _⟩).mono ?_
  rintro e X1 ⟨rfl, k⟩
  have A1 := A0.below k
  have R1 := R0.below k
  have L1 := bel_then L0 k
  have Az1 := A1.lies
  have Rz1 := R1.lies
  clear k A0 R0 L0
  have a0 : X1.cell? ⟨w.heap.size, 0, none⟩ = some (.int .i64 T.t) := A1.c 0 (of_decide_eq_true rfl)
  go_wp2_with fail
  refine (htk _).mono ?_
  rintro e X2 ⟨v2, rfl, o2, k⟩
  have o2 := o2.base (show w.heap.size + 2 ≤ X1.heap.size by omega)
  have A2 := A1.below k
  have R2 := R1.below k
  have L2 := bel_then L1 k
  have Az2 := A2.lies
  have Rz2 := R2.lies
  clear k A1 R1 L1 Az1 Rz1
  clear a0
  have z2 : w.heap.size + 2 ≤ X2.heap.size := by omega
  have a1 : X2.cell? ⟨w.heap.size, 1, none⟩ = some (.int .i64 T.m) := A2.c 1 (of_decide_eq_true rfl)
  have a2 : X2.cell? ⟨w.heap.size, 2, none⟩ = some (.int .i64 T.fa) := A2.c 2 (of_decide_eq_true rfl)
  have a3 : X2.cell? ⟨w.heap.size, 3, none⟩ = some (.int .i64 T.ak) := A2.c 3 (of_decide_eq_true rfl)
  have a4 : X2.cell? ⟨w.heap.size, 4, none⟩ = some (.int .i64 T.er) := A2.c 4 (of_decide_eq_true rfl)
  go_wp2_with (at_builtin; refine app_any rfl (.tmp 16) (.tmp 29) rfl (w.heap.size + 2) v2 (tickL T.t) [T.m, T.fa, T.ak, T.er] X2 rfl o2 rfl (Nat.le_of_ble_eq_true rfl) z2 ?_; intro v3 X3 o3 k s; have A3 := A2.under k (by omega) s; have R3 := R2.under k (by omega) s; have L3 := L2.trans (k.mono (by omega)); have Az3 := A3.lies; have Rz3 := R3.lies; clear k A2 R2 L2 s Az2 Rz2; clear a1 a2 a3 a4; have z3 : w.heap.size + 2 ≤ X3.heap.size := (by omega); clear o2 z2; have a5 : X3.cell? ⟨w.heap.size, 5, none⟩ = some (.int .i64 T.rj) := A3.c 5 (of_decide_eq_true rfl))
  skip
  refine (wcount_any (w.heap.size + 2) v3 (tickL T.t ++ [T.m, T.fa, T.ak, T.er]) T.rj _ o3 z3 (Nat.le_of_ble_eq_true rfl)).mono ?_
  rintro e X4 ⟨v4, rfl, o4, k, s⟩
  have A4 := A3.under k (by omega) s
  have R4 := R3.under k (by omega) s
  have L4 := L3.trans (k.mono (by omega))
  have Az4 := A4.lies
  have Rz4 := R4.lies
  clear k A3 R3 L3 s Az3 Rz3
  clear a5
  have z4 : w.heap.size + 2 ≤ X4.heap.size := by omega
  clear o3 z3
  have a6 : X4.cell? ⟨w.heap.size, 6, none⟩ = some (.int .i64 T.q0) := A4.c 6 (of_decide_eq_true rfl)
  have a7 : X4.cell? ⟨w.heap.size, 7, none⟩ = some (.int .i64 T.q1) := A4.c 7 (of_decide_eq_true rfl)
  have a8 : X4.cell? ⟨w.heap.size, 8, none⟩ = some (.int .i64 T.q2) := A4.c 8 (of_decide_eq_true rfl)
  have a9 : X4.cell? ⟨w.heap.size, 9, none⟩ = some (.int .i64 T.q3) := A4.c 9 (of_decide_eq_true rfl)
  go_wp2_with fail
  refine wp_loop_rounds 5 ?_
  clear a6 a7 a8 a9
  rw [rounds_succ]
  go_wp2_with fail
  refine (wcount_any (w.heap.size + 2) v4 (tickL T.t ++ [T.m, T.fa, T.ak, T.er] ++ twoL T.rj) T.q0 _ o4 z4 (Nat.le_of_ble_eq_true rfl)).mono ?_
  rintro e X5 ⟨v5, rfl, o5, k, s⟩
  have A5 := A4.under k (by omega) s
  have R5 := R4.under k (by omega) s
  have L5 := L4.trans (k.mono (by omega))
  have Az5 := A5.lies
  have Rz5 := R5.lies
  clear k A4 R4 L4 s Az4 Rz4
  have z5 : w.heap.size + 2 ≤ X5.heap.size := by omega
  clear o4 z4
  go_wp2_with fail
  rw [rounds_succ]
  go_wp2_with fail
  refine (wcount_any (w.heap.size + 2) v5 (tickL T.t ++ [T.m, T.fa, T.ak, T.er] ++ twoL T.rj ++ twoL T.q0) T.q1 _ o5 z5 (Nat.le_of_ble_eq_true rfl)).mono ?_
  rintro e X6 ⟨v6, rfl, o6, k, s⟩
  have A6 := A5.under k (by omega) s
  have R6 := R5.under k (by omega) s
  have L6 := L5.trans (k.mono (by omega))
  have Az6 := A6.lies
  have Rz6 := R6.lies
  clear k A5 R5 L5 s Az5 Rz5
  have z6 : w.heap.size + 2 ≤ X6.heap.size := by omega
  clear o5 z5
  go_wp2_with fail
  rw [rounds_succ]
  go_wp2_with fail
  refine (wcount_any (w.heap.size + 2) v6 (tickL T.t ++ [T.m, T.fa, T.ak, T.er] ++ twoL T.rj ++ twoL T.q0 ++ twoL T.q1) T.q2 _ o6 z6 (Nat.le_of_ble_eq_true rfl)).mono ?_
  rintro e X7 ⟨v7, rfl, o7, k, s⟩
  have A7 := A6.under k (by omega) s
  have R7 := R6.under k (by omega) s
  have L7 := L6.trans (k.mono (by omega))
  have Az7 := A7.lies
  have Rz7 := R7.lies
  clear k A6 R6 L6 s Az6 Rz6
  have z7 : w.heap.size + 2 ≤ X7.heap.size := by omega
  clear o6 z6
  go_wp2_with fail
  rw [rounds_succ]
  go_wp2_with fail
  refine (wcount_any (w.heap.size + 2) v7 (tickL T.t ++ [T.m, T.fa, T.ak, T.er] ++ twoL T.rj ++ twoL T.q0 ++ twoL T.q1 ++ twoL T.q2) T.q3 _ o7 z7 (Nat.le_of_ble_eq_true rfl)).mono ?_
  rintro e X8 ⟨v8, rfl, o8, k, s⟩
  have A8 := A7.under k (by omega) s
  have R8 := R7.under k (by omega) s
  have L8 := L7.trans (k.mono (by omega))
  have Az8 := A8.lies
  have Rz8 := R8.lies
  clear k A7 R7 L7 s Az7 Rz7
  have z8 : w.heap.size + 2 ≤ X8.heap.size := by omega
  clear o7 z7
  go_wp2_with fail
  have a10 : X8.cell? ⟨w.heap.size, 10, none⟩ = some (.int .i64 T.d0) := A8.c 10 (of_decide_eq_true rfl)
  have a11 : X8.cell? ⟨w.heap.size, 11, none⟩ = some (.int .i64 T.d1) := A8.c 11 (of_decide_eq_true rfl)
  have a12 : X8.cell? ⟨w.heap.size, 12, none⟩ = some (.int .i64 T.d2) := A8.c 12 (of_decide_eq_true rfl)
  rw [rounds_succ]
  go_wp2_with fail
  refine wp_loop_rounds 4 ?_
  clear a10 a11 a12
  rw [rounds_succ]
  go_wp2_with fail
  refine (wcount_any (w.heap.size + 2) v8 (tickL T.t ++ [T.m, T.fa, T.ak, T.er] ++ twoL T.rj ++ twoL T.q0 ++ twoL T.q1 ++ twoL T.q2 ++ twoL T.q3) T.d0 _ o8 z8 (Nat.le_of_ble_eq_true rfl)).mono ?_
  rintro e X9 ⟨v9, rfl, o9, k, s⟩
  have A9 := A8.under k (by omega) s
  have R9 := R8.under k (by omega) s
  have L9 := L8.trans (k.mono (by omega))
  have Az9 := A9.lies
  have Rz9 := R9.lies
  clear k A8 R8 L8 s Az8 Rz8
  have z9 : w.heap.size + 2 ≤ X9.heap.size := by omega
  clear o8 z8
  go_wp2_with fail
  rw [rounds_succ]
  go_wp2_with fail
  refine (wcount_any (w.heap.size + 2) v9 (tickL T.t ++ [T.m, T.fa, T.ak, T.er] ++ twoL T.rj ++ twoL T.q0 ++ twoL T.q1 ++ twoL T.q2 ++ twoL T.q3 ++ twoL T.d0) T.d1 _ o9 z9 (Nat.le_of_ble_eq_true rfl)).mono ?_
  rintro e X10 ⟨v10, rfl, o10, k, s⟩
  have A10 := A9.under k (by omega) s
  have R10 := R9.under k (by omega) s
  have L10 := L9.trans (k.mono (by omega))
  have Az10 := A10.lies
  have Rz10 := R10.lies
  clear k A9 R9 L9 s Az9 Rz9
  have z10 : w.heap.size + 2 ≤ X10.heap.size := by omega
  clear o9 z9
  go_wp2_with fail
  rw [rounds_succ]
  go_wp2_with fail
  refine (wcount_any (w.heap.size + 2) v10 (tickL T.t ++ [T.m, T.fa, T.ak, T.er] ++ twoL T.rj ++ twoL T.q0 ++ twoL T.q1 ++ twoL T.q2 ++ twoL T.q3 ++ twoL T.d0 ++ twoL T.d1) T.d2 _ o10 z10 (Nat.le_of_ble_eq_true rfl)).mono ?_
  rintro e X11 ⟨v11, rfl, o11, k, s⟩
  have A11 := A10.under k (by omega) s
  have R11 := R10.under k (by omega) s
  have L11 := L10.trans (k.mono (by omega))
  have Az11 := A11.lies
  have Rz11 := R11.lies
  clear k A10 R10 L10 s Az10 Rz10
  have z11 : w.heap.size + 2 ≤ X11.heap.size := by omega
  clear o10 z10
  go_wp2_with fail
  rw [rounds_succ]
  rw [HL.out] at o11
  have hcv := conv_any o11 (by unfold tlL; simp) hrg
  rw [HS.out] at hcv
  clear o11
  have c0 : X11.cell? ⟨w.heap.size + 1, 0, none⟩ = some (.int .i64 0) := R11.c 0 (of_decide_eq_true rfl)
  have c1 : X11.cell? ⟨w.heap.size + 1, 1, none⟩ = some (.string ⟨#[]⟩) := R11.c 1 (of_decide_eq_true rfl)
  have f0 := R11.f 0 (of_decide_eq_true rfl)
  have f1 := R11.f 1 (of_decide_eq_true rfl)
  go_wp2_with (with_reducible refine post_stop ?_)
  have d0 := Arr.c ((R11.put 0 (of_decide_eq_true rfl) (.int .i64 32) [.int .i64 32, .string ⟨#[]⟩] rfl).put 1 (of_decide_eq_true rfl) (.string S) [.int .i64 32, .string S] rfl) 0 (of_decide_eq_true rfl)
  have d1 := Arr.c ((R11.put 0 (of_decide_eq_true rfl) (.int .i64 32) [.int .i64 32, .string ⟨#[]⟩] rfl).put 1 (of_decide_eq_true rfl) (.string S) [.int .i64 32, .string S] rfl) 1 (of_decide_eq_true rfl)
  simp only [List.getElem_cons_zero, List.getElem_cons_succ] at d0 d1
  exact ⟨bodyPost_ret (v := .tuple #[.agg #[.int .i64 32, .string S], .bool true]) (by simp [results_cell_tmp Tryz.results57, asAddr, go_sem, d0, d1]) rfl ⟨rfl, bel_new (bel_new L11 _ _ (by omega) _) _ _ (by omega) _⟩⟩
set_option maxHeartbeats 4000000 in
set_option maxRecDepth 100000 in
theorem rtwrite_all (T : Tl) (w : World) (hg : GW w) (h : tlOk T = true) :
    Calls Tryz.prog 34 #[.agg #[.int .i64 T.t, .int .i64 T.m, .int .i64 T.fa, .int .i64 T.ak, .int .i64 T.er, .int .i64 T.rj, .int .i64 T.q0, .int .i64 T.q1, .int .i64 T.q2, .int .i64 T.q3, .int .i64 T.d0, .int .i64 T.d1, .int .i64 T.d2]] w fun e w' => e = .returned (.tuple #[.agg #[.int .i64 32, .string (strOf (tlL T))], .bool true]) ∧ Below w.heap.size w w' := by
  have hm := rtRightG T
  rw [h] at hm
  have H := tl_in h
  clear h
  have HL : Hid (tickL T.t ++ [T.m, T.fa, T.ak, T.er] ++ twoL T.rj ++ twoL T.q0 ++ twoL T.q1 ++ twoL T.q2 ++ twoL T.q3 ++ twoL T.d0 ++ twoL T.d1 ++ twoL T.d2 = tlL T) := rfl
  have hrg := tlL_rng H
  have wm : IntKind.u8.wrap T.m = T.m := by have := H.m; rw [IntKind.wrap_u8]; omega
  have wfa : IntKind.u8.wrap T.fa = T.fa := by have := H.fa; rw [IntKind.wrap_u8]; omega
  have wak : IntKind.u8.wrap T.ak = T.ak := by have := H.ak; rw [IntKind.wrap_u8]; omega
  have wer : IntKind.u8.wrap T.er = T.er := by have := H.er; rw [IntKind.wrap_u8]; omega
  generalize hS : strOf (tlL T) = S
  have HS : Hid (strOf (tlL T) = S) := hS
  clear hS
  have hrj := fun W => rtwo_any T.rj W (by have := H.rj; omega)
  have hq0 := fun W => rtwo_any T.q0 W (by have := H.q0; omega)
  have hq1 := fun W => rtwo_any T.q1 W (by have := H.q1; omega)
  have hq2 := fun W => rtwo_any T.q2 W (by have := H.q2; omega)
  have hq3 := fun W => rtwo_any T.q3 W (by have := H.q3; omega)
  have hd0 := fun W => rtwo_any T.d0 W (by have := H.d0; omega)
  have hd1 := fun W => rtwo_any T.d1 W (by have := H.d1; omega)
  have hd2 := fun W => rtwo_any T.d2 W (by have := H.d2; omega)
  clear H
  go_enter Tryz.func34, Tryz.ntmps34
  have A0 := (Arr_at w w.heap.size [.int .i64 T.t, .int .i64 T.m, .int .i64 T.fa, .int .i64 T.ak, .int .i64 T.er, .int .i64 T.rj, .int .i64 T.q0, .int .i64 T.q1, .int .i64 T.q2, .int .i64 T.q3, .int .i64 T.d0, .int .i64 T.d1, .int .i64 T.d2] 95 rfl).alloc (.cells #[.int .i64 0, .string ⟨#[]⟩] 99)
  have R0 := Arr_at (w.alloc (.cells #[.int .i64 T.t, .int .i64 T.m, .int .i64 T.fa, .int .i64 T.ak, .int .i64 T.er, .int .i64 T.rj, .int .i64 T.q0, .int .i64 T.q1, .int .i64 T.q2, .int .i64 T.q3, .int .i64 T.d0, .int .i64 T.d1, .int .i64 T.d2] 95)) (w.heap.size + 1) [.int .i64 0, .string ⟨#[]⟩] 99 (by simp)
  have L0 := bel_al (bel_al (Below.refl w.heap.size w) (.cells #[.int .i64 T.t, .int .i64 T.m, .int .i64 T.fa, .int .i64 T.ak, .int .i64 T.er, .int .i64 T.rj, .int .i64 T.q0, .int .i64 T.q1, .int .i64 T.q2, .int .i64 T.q3, .int .i64 T.d0, .int .i64 T.d1, .int .i64 T.d2] 95)) (.cells #[.int .i64 0, .string ⟨#[]⟩] 99)
  go_wp2_with fail
  refine (hm _ ⟨(hg.1.alloc _).alloc _, (hg.2.alloc _).alloc _⟩).mono ?_
  rintro e X1 ⟨rfl, k⟩
  have A1 := A0.below k
  have R1 := R0.below k
  have L1 := bel_then L0 k
  have Az1 := A1.lies
  have Rz1 := R1.lies
  clear k A0 R0 L0
  have z1 : w.heap.size + 2 ≤ X1.heap.size := by omega
  have o1 : Bytes (w.heap.size + 2) X1 (.slice none 0 0) [] := World.ownsRow_nil _ _ _ _
  go_wp2_with fail
  refine wp_loop_rounds 7 ?_
  have a0 : X1.cell? ⟨w.heap.size, 0, none⟩ = some (.int .i64 T.t) := A1.c 0 (of_decide_eq_true rfl)
  rw [rounds_succ]
  go_wp2_with (at_builtin; refine app_any rfl (.tmp 16) (.tmp 23) rfl (w.heap.size + 2) (.slice none 0 0) ([]) ([IntKind.u8.wrap (T.t / 1099511627776)]) X1 rfl o1 rfl (Nat.le_of_ble_eq_true rfl) z1 ?_; intro v2 X2 o2 k s; have A2 := A1.under k (by omega) s; have R2 := R1.under k (by omega) s; have L2 := L1.trans (k.mono (by omega)); have Az2 := A2.lies; have Rz2 := R2.lies; clear k A1 R1 L1 s Az1 Rz1; clear a0; have z2 : w.heap.size + 2 ≤ X2.heap.size := (by omega); clear o1 z1; rw [List.nil_append] at o2; have a0 : X2.cell? ⟨w.heap.size, 0, none⟩ = some (.int .i64 T.t) := A2.c 0 (of_decide_eq_true rfl))
  rw [rounds_succ]
  go_wp2_with (at_builtin; refine app_any rfl (.tmp 16) (.tmp 23) rfl (w.heap.size + 2) v2 ([IntKind.u8.wrap (T.t / 1099511627776)]) ([IntKind.u8.wrap (T.t / 4294967296)]) X2 rfl o2 rfl (Nat.le_of_ble_eq_true rfl) z2 ?_; intro v3 X3 o3 k s; have A3 := A2.under k (by omega) s; have R3 := R2.under k (by omega) s; have L3 := L2.trans (k.mono (by omega)); have Az3 := A3.lies; have Rz3 := R3.lies; clear k A2 R2 L2 s Az2 Rz2; clear a0; have z3 : w.heap.size + 2 ≤ X3.heap.size := (by omega); clear o2 z2; simp only [List.cons_append, List.nil_append] at o3; have a0 : X3.cell? ⟨w.heap.size, 0, none⟩ = some (.int .i64 T.t) := A3.c 0 (of_decide_eq_true rfl))
  rw [rounds_succ]
  go_wp2_with (at_builtin; refine app_any rfl (.tmp 16) (.tmp 23) rfl (w.heap.size + 2) v3 ([IntKind.u8.wrap (T.t / 1099511627776), IntKind.u8.wrap (T.t / 4294967296)]) ([IntKind.u8.wrap (T.t / 16777216)]) X3 rfl o3 rfl (Nat.le_of_ble_eq_true rfl) z3 ?_; intro v4 X4 o4 k s; have A4 := A3.under k (by omega) s; have R4 := R3.under k (by omega) s; have L4 := L3.trans (k.mono (by omega)); have Az4 := A4.lies; have Rz4 := R4.lies; clear k A3 R3 L3 s Az3 Rz3; clear a0; have z4 : w.heap.size + 2 ≤ X4.heap.size := (by omega); clear o3 z3; simp only [List.cons_append, List.nil_append] at o4; have a0 : X4.cell? ⟨w.heap.size, 0, none⟩ = some (.int .i64 T.t) := A4.c 0 (of_decide_eq_true rfl))
  rw [rounds_succ]
  go_wp2_with (at_builtin; refine app_any rfl (.tmp 16) (.tmp 23) rfl (w.heap.size + 2) v4 ([IntKind.u8.wrap (T.t / 1099511627776), IntKind.u8.wrap (T.t / 4294967296), IntKind.u8.wrap (T.t / 16777216)]) ([IntKind.u8.wrap (T.t / 65536)]) X4 rfl o4 rfl (Nat.le_of_ble_eq_true rfl) z4 ?_; intro v5 X5 o5 k s; have A5 := A4.under k (by omega) s; have R5 := R4.under k (by omega) s; have L5 := L4.trans (k.mono (by omega)); have Az5 := A5.lies; have Rz5 := R5.lies; clear k A4 R4 L4 s Az4 Rz4; clear a0; have z5 : w.heap.size + 2 ≤ X5.heap.size := (by omega); clear o4 z4; simp only [List.cons_append, List.nil_append] at o5; have a0 : X5.cell? ⟨w.heap.size, 0, none⟩ = some (.int .i64 T.t) := A5.c 0 (of_decide_eq_true rfl))
  rw [rounds_succ]
  go_wp2_with (at_builtin; refine app_any rfl (.tmp 16) (.tmp 23) rfl (w.heap.size + 2) v5 ([IntKind.u8.wrap (T.t / 1099511627776), IntKind.u8.wrap (T.t / 4294967296), IntKind.u8.wrap (T.t / 16777216), IntKind.u8.wrap (T.t / 65536)]) ([IntKind.u8.wrap (T.t / 256)]) X5 rfl o5 rfl (Nat.le_of_ble_eq_true rfl) z5 ?_; intro v6 X6 o6 k s; have A6 := A5.under k (by omega) s; have R6 := R5.under k (by omega) s; have L6 := L5.trans (k.mono (by omega)); have Az6 := A6.lies; have Rz6 := R6.lies; clear k A5 R5 L5 s Az5 Rz5; clear a0; have z6 : w.heap.size + 2 ≤ X6.heap.size := (by omega); clear o5 z5; simp only [List.cons_append, List.nil_append] at o6; have a0 : X6.cell? ⟨w.heap.size, 0, none⟩ = some (.int .i64 T.t) := A6.c 0 (of_decide_eq_true rfl))
  rw [rounds_succ]
  go_wp2_with (at_builtin; refine app_any rfl (.tmp 16) (.tmp 23) rfl (w.heap.size + 2) v6 ([IntKind.u8.wrap (T.t / 1099511627776), IntKind.u8.wrap (T.t / 4294967296), IntKind.u8.wrap (T.t / 16777216), IntKind.u8.wrap (T.t / 65536), IntKind.u8.wrap (T.t / 256)]) ([IntKind.u8.wrap T.t]) X6 rfl o6 rfl (Nat.le_of_ble_eq_true rfl) z6 ?_; intro v7 X7 o7 k s; have A7 := A6.under k (by omega) s; have R7 := R6.under k (by omega) s; have L7 := L6.trans (k.mono (by omega)); have Az7 := A7.lies; have Rz7 := R7.lies; clear k A6 R6 L6 s Az6 Rz6; clear a0; have z7 : w.heap.size + 2 ≤ X7.heap.size := (by omega); clear o6 z6; simp only [List.cons_append, List.nil_append] at o7; have a1 : X7.cell? ⟨w.heap.size, 1, none⟩ = some (.int .i64 T.m) := A7.c 1 (of_decide_eq_true rfl); have a2 : X7.cell? ⟨w.heap.size, 2, none⟩ = some (.int .i64 T.fa) := A7.c 2 (of_decide_eq_true rfl); have a3 : X7.cell? ⟨w.heap.size, 3, none⟩ = some (.int .i64 T.ak) := A7.c 3 (of_decide_eq_true rfl); have a4 : X7.cell? ⟨w.heap.size, 4, none⟩ = some (.int .i64 T.er) := A7.c 4 (of_decide_eq_true rfl))
  have o7 : Bytes (w.heap.size + 2) X7 v7 (tickL T.t) := o7
  rw [rounds_succ]
  go_wp2_with (at_builtin; refine app_any rfl (.tmp 25) (.tmp 38) rfl (w.heap.size + 2) v7 (tickL T.t) [T.m, T.fa, T.ak, T.er] X7 rfl o7 rfl (Nat.le_of_ble_eq_true rfl) z7 ?_; intro v8 X8 o8 k s; have A8 := A7.under k (by omega) s; have R8 := R7.under k (by omega) s; have L8 := L7.trans (k.mono (by omega)); have Az8 := A8.lies; have Rz8 := R8.lies; clear k A7 R7 L7 s Az7 Rz7; clear a1 a2 a3 a4; have z8 : w.heap.size + 2 ≤ X8.heap.size := (by omega); clear o7 z7; have a5 : X8.cell? ⟨w.heap.size, 5, none⟩ = some (.int .i64 T.rj) := A8.c 5 (of_decide_eq_true rfl))
  refine (hrj _).mono ?_
  rintro e Y ⟨rfl, rfl⟩
  go_wp2_with (at_builtin; refine app_any rfl (.tmp 40) (.tmp 43) rfl (w.heap.size + 2) v8 (tickL T.t ++ [T.m, T.fa, T.ak, T.er]) (twoL T.rj) X8 rfl o8 rfl (Nat.le_of_ble_eq_true rfl) z8 ?_; intro v9 X9 o9 k s; have A9 := A8.under k (by omega) s; have R9 := R8.under k (by omega) s; have L9 := L8.trans (k.mono (by omega)); have Az9 := A9.lies; have Rz9 := R9.lies; clear k A8 R8 L8 s Az8 Rz8; clear a5; have z9 : w.heap.size + 2 ≤ X9.heap.size := (by omega); clear o8 z8; have a6 : X9.cell? ⟨w.heap.size, 6, none⟩ = some (.int .i64 T.q0) := A9.c 6 (of_decide_eq_true rfl))
  refine wp_loop_rounds 5 ?_
  rw [rounds_succ]
  go_wp2_with (first | (go_at_call 109; refine (hq0 _).mono ?_; rintro e Y ⟨rfl, rfl⟩) | (at_builtin; refine app_any rfl (.tmp 49) (.tmp 54) rfl (w.heap.size + 2) v9 (tickL T.t ++ [T.m, T.fa, T.ak, T.er] ++ twoL T.rj) (twoL T.q0) X9 rfl o9 rfl (Nat.le_of_ble_eq_true rfl) z9 ?_; intro v10 X10 o10 k s; have A10 := A9.under k (by omega) s; have R10 := R9.under k (by omega) s; have L10 := L9.trans (k.mono (by omega)); have Az10 := A10.lies; have Rz10 := R10.lies; clear k A9 R9 L9 s Az9 Rz9; clear a6; have z10 : w.heap.size + 2 ≤ X10.heap.size := (by omega); clear o9 z9; have a7 : X10.cell? ⟨w.heap.size, 7, none⟩ = some (.int .i64 T.q1) := A10.c 7 (of_decide_eq_true rfl)))
  rw [rounds_succ]
  go_wp2_with (first | (go_at_call 109; refine (hq1 _).mono ?_; rintro e Y ⟨rfl, rfl⟩) | (at_builtin; refine app_any rfl (.tmp 49) (.tmp 54) rfl (w.heap.size + 2) v10 (tickL T.t ++ [T.m, T.fa, T.ak, T.er] ++ twoL T.rj ++ twoL T.q0) (twoL T.q1) X10 rfl o10 rfl (Nat.le_of_ble_eq_true rfl) z10 ?_; intro v11 X11 o11 k s; have A11 := A10.under k (by omega) s; have R11 := R10.under k (by omega) s; have L11 := L10.trans (k.mono (by omega)); have Az11 := A11.lies; have Rz11 := R11.lies; clear k A10 R10 L10 s Az10 Rz10; clear a7; have z11 : w.heap.size + 2 ≤ X11.heap.size := (by omega); clear o10 z10; have a8 : X11.cell? ⟨w.heap.size, 8, none⟩ = some (.int .i64 T.q2) := A11.c 8 (of_decide_eq_true rfl)))
  rw [rounds_succ]
  go_wp2_with (first | (go_at_call 109; refine (hq2 _).mono ?_; rintro e Y ⟨rfl, rfl⟩) | (at_builtin; refine app_any rfl (.tmp 49) (.tmp 54) rfl (w.heap.size + 2) v11 (tickL T.t ++ [T.m, T.fa, T.ak, T.er] ++ twoL T.rj ++ twoL T.q0 ++ twoL T.q1) (twoL T.q2) X11 rfl o11 rfl (Nat.le_of_ble_eq_true rfl) z11 ?_; intro v12 X12 o12 k s; have A12 := A11.under k (by omega) s; have R12 := R11.under k (by omega) s; have L12 := L11.trans (k.mono (by omega)); have Az12 := A12.lies; have Rz12 := R12.lies; clear k A11 R11 L11 s Az11 Rz11; clear a8; have z12 : w.heap.size + 2 ≤ X12.heap.size := (by omega); clear o11 z11; have a9 : X12.cell? ⟨w.heap.size, 9, none⟩ = some (.int .i64 T.q3) := A12.c 9 (of_decide_eq_true rfl)))
  rw [rounds_succ]
  go_wp2_with (first | (go_at_call 109; refine (hq3 _).mono ?_; rintro e Y ⟨rfl, rfl⟩) | (at_builtin; refine app_any rfl (.tmp 49) (.tmp 54) rfl (w.heap.size + 2) v12 (tickL T.t ++ [T.m, T.fa, T.ak, T.er] ++ twoL T.rj ++ twoL T.q0 ++ twoL T.q1 ++ twoL T.q2) (twoL T.q3) X12 rfl o12 rfl (Nat.le_of_ble_eq_true rfl) z12 ?_; intro v13 X13 o13 k s; have A13 := A12.under k (by omega) s; have R13 := R12.under k (by omega) s; have L13 := L12.trans (k.mono (by omega)); have Az13 := A13.lies; have Rz13 := R13.lies; clear k A12 R12 L12 s Az12 Rz12; clear a9; have z13 : w.heap.size + 2 ≤ X13.heap.size := (by omega); clear o12 z12; have a10 : X13.cell? ⟨w.heap.size, 10, none⟩ = some (.int .i64 T.d0) := A13.c 10 (of_decide_eq_true rfl)))
  rw [rounds_succ]
  go_wp2_with fail
  refine wp_loop_rounds 4 ?_
  rw [rounds_succ]
  go_wp2_with (first | (go_at_call 109; refine (hd0 _).mono ?_; rintro e Y ⟨rfl, rfl⟩) | (at_builtin; refine app_any rfl (.tmp 60) (.tmp 65) rfl (w.heap.size + 2) v13 (tickL T.t ++ [T.m, T.fa, T.ak, T.er] ++ twoL T.rj ++ twoL T.q0 ++ twoL T.q1 ++ twoL T.q2 ++ twoL T.q3) (twoL T.d0) X13 rfl o13 rfl (Nat.le_of_ble_eq_true rfl) z13 ?_; intro v14 X14 o14 k s; have A14 := A13.under k (by omega) s; have R14 := R13.under k (by omega) s; have L14 := L13.trans (k.mono (by omega)); have Az14 := A14.lies; have Rz14 := R14.lies; clear k A13 R13 L13 s Az13 Rz13; clear a10; have z14 : w.heap.size + 2 ≤ X14.heap.size := (by omega); clear o13 z13; have a11 : X14.cell? ⟨w.heap.size, 11, none⟩ = some (.int .i64 T.d1) := A14.c 11 (of_decide_eq_true rfl)))
  rw [rounds_succ]
  go_wp2_with (first | (go_at_call 109; refine (hd1 _).mono ?_; rintro e Y ⟨rfl, rfl⟩) | (at_builtin; refine app_any rfl (.tmp 60) (.tmp 65) rfl (w.heap.size + 2) v14 (tickL T.t ++ [T.m, T.fa, T.ak, T.er] ++ twoL T.rj ++ twoL T.q0 ++ twoL T.q1 ++ twoL T.q2 ++ twoL T.q3 ++ twoL T.d0) (twoL T.d1) X14 rfl o14 rfl (Nat.le_of_ble_eq_true rfl) z14 ?_; intro v15 X15 o15 k s; have A15 := A14.under k (by omega) s; have R15 := R14.under k (by omega) s; have L15 := L14.trans (k.mono (by omega)); have Az15 := A15.lies; have Rz15 := R15.lies; clear k A14 R14 L14 s Az14 Rz14; clear a11; have z15 : w.heap.size + 2 ≤ X15.heap.size := (by omega); clear o14 z14; have a12 : X15.cell? ⟨w.heap.size, 12, none⟩ = some (.int .i64 T.d2) := A15.c 12 (of_decide_eq_true rfl)))
  rw [rounds_succ]
  go_wp2_with (first | (go_at_call 109; refine (hd2 _).mono ?_; rintro e Y ⟨rfl, rfl⟩) | (at_builtin; refine app_any rfl (.tmp 60) (.tmp 65) rfl (w.heap.size + 2) v15 (tickL T.t ++ [T.m, T.fa, T.ak, T.er] ++ twoL T.rj ++ twoL T.q0 ++ twoL T.q1 ++ twoL T.q2 ++ twoL T.q3 ++ twoL T.d0 ++ twoL T.d1) (twoL T.d2) X15 rfl o15 rfl (Nat.le_of_ble_eq_true rfl) z15 ?_; intro v16 X16 o16 k s; have A16 := A15.under k (by omega) s; have R16 := R15.under k (by omega) s; have L16 := L15.trans (k.mono (by omega)); have Az16 := A16.lies; have Rz16 := R16.lies; clear k A15 R15 L15 s Az15 Rz15; clear a12; have z16 : w.heap.size + 2 ≤ X16.heap.size := (by omega); clear o15 z15))
  rw [rounds_succ]
  rw [HL.out] at o16
  have hcv := conv_any o16 (by unfold tlL; simp) hrg
  rw [HS.out] at hcv
  clear o16
  have c0 : X16.cell? ⟨w.heap.size + 1, 0, none⟩ = some (.int .i64 0) := R16.c 0 (of_decide_eq_true rfl)
  have c1 : X16.cell? ⟨w.heap.size + 1, 1, none⟩ = some (.string ⟨#[]⟩) := R16.c 1 (of_decide_eq_true rfl)
  have f0 := R16.f 0 (of_decide_eq_true rfl)
  have f1 := R16.f 1 (of_decide_eq_true rfl)
  go_wp2_with (with_reducible refine post_stop ?_)
  have d0 := Arr.c ((R16.put 0 (of_decide_eq_true rfl) (.int .i64 32) [.int .i64 32, .string ⟨#[]⟩] rfl).put 1 (of_decide_eq_true rfl) (.string S) [.int .i64 32, .string S] rfl) 0 (of_decide_eq_true rfl)
  have d1 := Arr.c ((R16.put 0 (of_decide_eq_true rfl) (.int .i64 32) [.int .i64 32, .string ⟨#[]⟩] rfl).put 1 (of_decide_eq_true rfl) (.string S) [.int .i64 32, .string S] rfl) 1 (of_decide_eq_true rfl)
  simp only [List.getElem_cons_zero, List.getElem_cons_succ] at d0 d1
  exact ⟨bodyPost_ret (v := .tuple #[.agg #[.int .i64 32, .string S], .bool true]) (by simp [results_cell_tmp Tryz.results34, asAddr, go_sem, d0, d1]) rfl ⟨rfl, bel_new (bel_new L16 _ _ (by omega) _) _ _ (by omega) _⟩⟩
theorem twriteG (T : Tl) (w : World) (hg : GW w) :
    Calls Tryz.prog 57 #[.agg #[.int .i64 T.t, .int .i64 T.m, .int .i64 T.fa, .int .i64 T.ak, .int .i64 T.er, .int .i64 T.rj, .int .i64 T.q0, .int .i64 T.q1, .int .i64 T.q2, .int .i64 T.q3, .int .i64 T.d0, .int .i64 T.d1, .int .i64 T.d2]] w fun e w' => e = .returned (.tuple #[.agg #[.int .i64 (tlW T).1, .string (tlW T).2], .bool (tlOk T)]) ∧ Below w.heap.size w w' := by
  unfold tlW
  cases h : tlOk T
  · exact twrite_none (x := txT T) h w hg
  · exact twrite_all T w hg h
theorem rtwriteG (T : Tl) (w : World) (hg : GW w) :
    Calls Tryz.prog 34 #[.agg #[.int .i64 T.t, .int .i64 T.m, .int .i64 T.fa, .int .i64 T.ak, .int .i64 T.er, .int .i64 T.rj, .int .i64 T.q0, .int .i64 T.q1, .int .i64 T.q2, .int .i64 T.q3, .int .i64 T.d0, .int .i64 T.d1, .int .i64 T.d2]] w fun e w' => e = .returned (.tuple #[.agg #[.int .i64 (tlW T).1, .string (tlW T).2], .bool (tlOk T)]) ∧ Below w.heap.size w w' := by
  unfold tlW
  cases h : tlOk T
  · exact rtwrite_none (x := txT T) h w hg
  · exact rtwrite_all T w hg h
end Go.Proofs.YtoadcnhcfodkgaaGreatDoor
