/-
  Readings out of frames: the reference's Read, gyros, walked, for the seat Ytoaghmbaijlklaa. (Made by mksen3.py.)
-/
import Derived.Test.YtoaghmbaijlklaaSenSaid
import Derived.Test.YtoaghmbaijlklaaCDDays
namespace Go.Proofs.Ytoaghmbaijlklaa
open Go.RowKit

set_option maxHeartbeats 4000000 in
set_option maxRecDepth 100000 in
theorem rread_1 (s : ByteArray) (w : World) (hz : s.size = 12) (hf : formOk 1 s = true) :
    Calls Try.prog 10 #[.agg #[.int .i64 1, .string s]] w fun e w' => e = .returned (.tuple #[.agg #[.int .i64 (readR 1 s).1, .int .i64 (readR 1 s).2.1, .int .i64 (readR 1 s).2.2.1, .int .i64 (readR 1 s).2.2.2.1, .int .i64 (readR 1 s).2.2.2.2], .bool (readOk 1 s)]) ∧ Below w.heap.size w w' := by
  go_enter Try.func10, Try.ntmps10
  go_wp2_with fail
  go_loopw [7] (fun iv wr => ∃ j : Nat, j ≤ 6 ∧ iv = .int .i64 j ∧ Below w.heap.size w wr ∧ Arr (w.heap.size) [.int .i64 1, .string s] wr ∧ Arr (w.heap.size + 1) [.int .i64 0, .int .i64 0, .int .i64 0, .int .i64 0, .int .i64 0] wr ∧ Arr (w.heap.size + 2) [.int .i64 0, .int .i64 0, .int .i64 0, .int .i64 0, .int .i64 0] wr ∧ Arr (w.heap.size + 3) [.int .i64 1, .int .i64 (tickK s j : Nat), .int .i64 0, .int .i64 0, .int .i64 0] wr) (fun iv _ => 6 - (intOf iv).toNat)
  case atStart =>
    exact ⟨0, by omega, rfl, bel_al (bel_al (bel_al (bel_al (Below.refl _ _) _) _) _) _, (((Arr_at w w.heap.size [.int .i64 1, .string s] _ rfl).alloc _).alloc _).alloc _, ((Arr_at _ (w.heap.size + 1) [.int .i64 0, .int .i64 0, .int .i64 0, .int .i64 0, .int .i64 0] _ (by simp)).alloc _).alloc _, (Arr_at _ (w.heap.size + 2) [.int .i64 0, .int .i64 0, .int .i64 0, .int .i64 0, .int .i64 0] _ (by simp)).alloc _, Arr_at _ (w.heap.size + 3) [.int .i64 1, .int .i64 0, .int .i64 0, .int .i64 0, .int .i64 0] _ (by simp)⟩
  case round =>
    obtain ⟨j, hj, rfl, L1, B1, R1, N1, r1⟩ := hrel
    have Bz1 := B1.lies
    have Rz1 := R1.lies
    have Nz1 := N1.lies
    have rz1 := r1.lies
    by_cases hj6 : j < 6
    · have hi := idx_run (s := s) (i := (j : Int)) (n := j) (by omega) rfl
      have hb := bt_lt s j
      have ht : tickK s j < 1099511627776 := Nat.lt_of_lt_of_le (tickK_lt s j) (show 256 ^ j ≤ 256 ^ 5 from Nat.pow_le_pow_right (by decide) (by omega))
      have HT : Hid (tickK s (j + 1) = tickK s j * 256 + bt s j) := rfl
      generalize tickK s j = t at ht HT r1
      generalize bt s j = b at hi hb HT
      have w1 : IntKind.i64.wrap ((t : Int) * 256) = (t : Int) * 256 := by rw [IntKind.wrap_i64]; omega
      have w2 : IntKind.i64.wrap ((t : Int) * 256 + b) = (t : Int) * 256 + b := by rw [IntKind.wrap_i64]; omega
      have cr_1 : wr.cell? ⟨w.heap.size + 3, 1, none⟩ = some (.int .i64 (t : Nat)) := r1.c 1 (of_decide_eq_true rfl)
      have gr_1 := r1.f 1 (of_decide_eq_true rfl)
      have cB_1 : wr.cell? ⟨w.heap.size, 1, none⟩ = some (.string s) := B1.c 1 (of_decide_eq_true rfl)
      go_wp2_with fail
      go_region
      go_wp2_with fail
      go_roundw
      case rel => exact ⟨j + 1, by omega, by go_num, bel_drew (bel_new L1 _ _ (by omega) _), (B1.new _ _ (by omega) _).drew, (R1.new _ _ (by omega) _).drew, (N1.new _ _ (by omega) _).drew, (r1.put 1 (of_decide_eq_true rfl) (.int .i64 ((t : Int) * 256 + b)) [.int .i64 1, .int .i64 (tickK s (j + 1) : Nat), .int .i64 0, .int .i64 0, .int .i64 0] (by rw [HT.out, show ((t * 256 + b : Nat) : Int) = (t : Int) * 256 + b by omega]; rfl)).drew⟩
      case measure => simp [intOf]; omega
    · obtain rfl : j = 6 := by omega
      have HT : Hid ((tickK s 6 : Nat) = tickS s) := rfl
      have hw : wr = wr := rfl
      generalize ((tickK s 6 : Nat) : Int) = t at HT r1
      clear hw
      obtain ⟨W1, hW⟩ : ∃ W1, W1 = wr := ⟨_, rfl⟩
      rw [← hW] at L1 B1 R1 N1 r1 Bz1 Rz1 Nz1 rz1 ⊢
      clear hW
      have cr_1 : W1.cell? ⟨w.heap.size + 3, 1, none⟩ = some (.int .i64 t) := r1.c 1 (of_decide_eq_true rfl)
      go_wp2_with fail
      refine (dRight_any t _).mono ?_
      rintro e W2 ⟨rfl, k⟩
      have L2 := bel_then L1 k
      have B2 := B1.below k
      have R2 := R1.below k
      have N2 := N1.below k
      have r2 := r1.below k
      have Bz2 := B2.lies
      have Rz2 := R2.lies
      have Nz2 := N2.lies
      have rz2 := r2.lies
      clear k
      clear L1 B1 R1 N1 r1 Bz1 Rz1 Nz1 rz1
      clear cr_1
      have HO : Hid (readOk 1 s = (cRight t && saidOk 1 s 6)) := by show _ = _; unfold readOk; rw [hf, Bool.true_and, ← HT.out]
      cases hcr : cRight t
      · have HC : Hid (cRight t = false) := hcr
        clear hcr
        have cN_0 : W2.cell? ⟨w.heap.size + 2, 0, none⟩ = some (.int .i64 0) := N2.c 0 (of_decide_eq_true rfl)
        have cN_1 : W2.cell? ⟨w.heap.size + 2, 1, none⟩ = some (.int .i64 0) := N2.c 1 (of_decide_eq_true rfl)
        have cN_2 : W2.cell? ⟨w.heap.size + 2, 2, none⟩ = some (.int .i64 0) := N2.c 2 (of_decide_eq_true rfl)
        have cN_3 : W2.cell? ⟨w.heap.size + 2, 3, none⟩ = some (.int .i64 0) := N2.c 3 (of_decide_eq_true rfl)
        have cN_4 : W2.cell? ⟨w.heap.size + 2, 4, none⟩ = some (.int .i64 0) := N2.c 4 (of_decide_eq_true rfl)
        have cR_0 : W2.cell? ⟨w.heap.size + 1, 0, none⟩ = some (.int .i64 0) := R2.c 0 (of_decide_eq_true rfl)
        have gR_0 := R2.f 0 (of_decide_eq_true rfl)
        have cR_1 : W2.cell? ⟨w.heap.size + 1, 1, none⟩ = some (.int .i64 0) := R2.c 1 (of_decide_eq_true rfl)
        have gR_1 := R2.f 1 (of_decide_eq_true rfl)
        have cR_2 : W2.cell? ⟨w.heap.size + 1, 2, none⟩ = some (.int .i64 0) := R2.c 2 (of_decide_eq_true rfl)
        have gR_2 := R2.f 2 (of_decide_eq_true rfl)
        have cR_3 : W2.cell? ⟨w.heap.size + 1, 3, none⟩ = some (.int .i64 0) := R2.c 3 (of_decide_eq_true rfl)
        have gR_3 := R2.f 3 (of_decide_eq_true rfl)
        have cR_4 : W2.cell? ⟨w.heap.size + 1, 4, none⟩ = some (.int .i64 0) := R2.c 4 (of_decide_eq_true rfl)
        have gR_4 := R2.f 4 (of_decide_eq_true rfl)
        go_wp2_with (with_reducible refine post_stop ?_)
        have d0 := Arr.c (((((R2.put 0 (of_decide_eq_true rfl) (.int .i64 0) [.int .i64 0, .int .i64 0, .int .i64 0, .int .i64 0, .int .i64 0] rfl).put 1 (of_decide_eq_true rfl) (.int .i64 0) [.int .i64 0, .int .i64 0, .int .i64 0, .int .i64 0, .int .i64 0] rfl).put 2 (of_decide_eq_true rfl) (.int .i64 0) [.int .i64 0, .int .i64 0, .int .i64 0, .int .i64 0, .int .i64 0] rfl).put 3 (of_decide_eq_true rfl) (.int .i64 0) [.int .i64 0, .int .i64 0, .int .i64 0, .int .i64 0, .int .i64 0] rfl).put 4 (of_decide_eq_true rfl) (.int .i64 0) [.int .i64 0, .int .i64 0, .int .i64 0, .int .i64 0, .int .i64 0] rfl) 0 (of_decide_eq_true rfl)
        have d1 := Arr.c (((((R2.put 0 (of_decide_eq_true rfl) (.int .i64 0) [.int .i64 0, .int .i64 0, .int .i64 0, .int .i64 0, .int .i64 0] rfl).put 1 (of_decide_eq_true rfl) (.int .i64 0) [.int .i64 0, .int .i64 0, .int .i64 0, .int .i64 0, .int .i64 0] rfl).put 2 (of_decide_eq_true rfl) (.int .i64 0) [.int .i64 0, .int .i64 0, .int .i64 0, .int .i64 0, .int .i64 0] rfl).put 3 (of_decide_eq_true rfl) (.int .i64 0) [.int .i64 0, .int .i64 0, .int .i64 0, .int .i64 0, .int .i64 0] rfl).put 4 (of_decide_eq_true rfl) (.int .i64 0) [.int .i64 0, .int .i64 0, .int .i64 0, .int .i64 0, .int .i64 0] rfl) 1 (of_decide_eq_true rfl)
        have d2 := Arr.c (((((R2.put 0 (of_decide_eq_true rfl) (.int .i64 0) [.int .i64 0, .int .i64 0, .int .i64 0, .int .i64 0, .int .i64 0] rfl).put 1 (of_decide_eq_true rfl) (.int .i64 0) [.int .i64 0, .int .i64 0, .int .i64 0, .int .i64 0, .int .i64 0] rfl).put 2 (of_decide_eq_true rfl) (.int .i64 0) [.int .i64 0, .int .i64 0, .int .i64 0, .int .i64 0, .int .i64 0] rfl).put 3 (of_decide_eq_true rfl) (.int .i64 0) [.int .i64 0, .int .i64 0, .int .i64 0, .int .i64 0, .int .i64 0] rfl).put 4 (of_decide_eq_true rfl) (.int .i64 0) [.int .i64 0, .int .i64 0, .int .i64 0, .int .i64 0, .int .i64 0] rfl) 2 (of_decide_eq_true rfl)
        have d3 := Arr.c (((((R2.put 0 (of_decide_eq_true rfl) (.int .i64 0) [.int .i64 0, .int .i64 0, .int .i64 0, .int .i64 0, .int .i64 0] rfl).put 1 (of_decide_eq_true rfl) (.int .i64 0) [.int .i64 0, .int .i64 0, .int .i64 0, .int .i64 0, .int .i64 0] rfl).put 2 (of_decide_eq_true rfl) (.int .i64 0) [.int .i64 0, .int .i64 0, .int .i64 0, .int .i64 0, .int .i64 0] rfl).put 3 (of_decide_eq_true rfl) (.int .i64 0) [.int .i64 0, .int .i64 0, .int .i64 0, .int .i64 0, .int .i64 0] rfl).put 4 (of_decide_eq_true rfl) (.int .i64 0) [.int .i64 0, .int .i64 0, .int .i64 0, .int .i64 0, .int .i64 0] rfl) 3 (of_decide_eq_true rfl)
        have d4 := Arr.c (((((R2.put 0 (of_decide_eq_true rfl) (.int .i64 0) [.int .i64 0, .int .i64 0, .int .i64 0, .int .i64 0, .int .i64 0] rfl).put 1 (of_decide_eq_true rfl) (.int .i64 0) [.int .i64 0, .int .i64 0, .int .i64 0, .int .i64 0, .int .i64 0] rfl).put 2 (of_decide_eq_true rfl) (.int .i64 0) [.int .i64 0, .int .i64 0, .int .i64 0, .int .i64 0, .int .i64 0] rfl).put 3 (of_decide_eq_true rfl) (.int .i64 0) [.int .i64 0, .int .i64 0, .int .i64 0, .int .i64 0, .int .i64 0] rfl).put 4 (of_decide_eq_true rfl) (.int .i64 0) [.int .i64 0, .int .i64 0, .int .i64 0, .int .i64 0, .int .i64 0] rfl) 4 (of_decide_eq_true rfl)
        simp only [List.getElem_cons_zero, List.getElem_cons_succ] at d0 d1 d2 d3 d4
        exact ⟨bodyPost_ret (v := .tuple #[.agg #[.int .i64 0, .int .i64 0, .int .i64 0, .int .i64 0, .int .i64 0], .bool false]) (by simp [results_cell_tmp Try.results10, asAddr, go_sem, d0, d1, d2, d3, d4]) rfl ⟨by unfold readR; rw [HO.out, HC.out]; rfl, (bel_new (bel_new (bel_new (bel_new (bel_new L2 _ _ (by omega) _) _ _ (by omega) _) _ _ (by omega) _) _ _ (by omega) _) _ _ (by omega) _)⟩⟩
      · have HC : Hid (cRight t = true) := hcr
        clear hcr
        have HR : Hid (readR 1 s = if saidOk 1 s 6 then (1, t, saidV 1 s 6) else (0, 0, 0, 0, 0)) := by show _ = _; unfold readR; rw [HO.out, HC.out, Bool.true_and, HT.out]
        have HP : Hid (readOk 1 s = saidOk 1 s 6) := by show _ = _; rw [HO.out, HC.out, Bool.true_and]
        have cB_0 : W2.cell? ⟨w.heap.size, 0, none⟩ = some (.int .i64 1) := B2.c 0 (of_decide_eq_true rfl)
        go_wp2_with fail
        refine wp_loop_rounds 4 ?_
        refine rounds_letter (S := fun W => Below w.heap.size w W ∧ Arr (w.heap.size) [.int .i64 1, .string s] W ∧ Arr (w.heap.size + 1) [.int .i64 0, .int .i64 0, .int .i64 0, .int .i64 0, .int .i64 0] W ∧ Arr (w.heap.size + 2) [.int .i64 0, .int .i64 0, .int .i64 0, .int .i64 0, .int .i64 0] W ∧ Arr (w.heap.size + 3) [.int .i64 1, .int .i64 t, .int .i64 0, .int .i64 0, .int .i64 0] W ∧ Fl (W2.heap.size) false W) ⟨bel_al L2 _, B2.alloc _, R2.alloc _, N2.alloc _, r2.alloc _, Fl_at _ _ false _ rfl⟩ ?_
        rintro W3 ⟨L3, B3, R3, N3, r3, F3⟩
        have Bz3 := B3.lies
        have Rz3 := R3.lies
        have Nz3 := N3.lies
        have rz3 := r3.lies
        have Fz3 := F3.lies
        clear cB_0
        have hq : w.heap.size + 3 < W2.heap.size := rz2
        generalize W2.heap.size = q at F3 Fz3 hq ⊢
        clear L2 B2 R2 N2 r2 Bz2 Rz2 Nz2 rz2
        have h0 := fun W => rsigned_any s 6 6 W rfl (by omega) (by omega)
        have h1 := fun W => rsigned_any s 8 8 W rfl (by omega) (by omega)
        have h2 := fun W => rsigned_any s 10 10 W rfl (by omega) (by omega)
        have HV : Hid (saidV 1 s 6 = gyroV (sg (cnt s 6)) (sg (cnt s 8)) (sg (cnt s 10))) := rfl
        have HK : Hid (saidOk 1 s 6 = gyroOk (sg (cnt s 6)) (sg (cnt s 8)) (sg (cnt s 10))) := rfl
        have ra := sg_rng (cnt_lt s 6)
        generalize sg (cnt s 6) = a at h0 ra HV HK
        have rb := sg_rng (cnt_lt s 8)
        generalize sg (cnt s 8) = b at h1 rb HV HK
        have rc := sg_rng (cnt_lt s 10)
        generalize sg (cnt s 10) = c at h2 rc HV HK
        rw [rounds_succ]
        have cB_1 : W3.cell? ⟨w.heap.size, 1, none⟩ = some (.string s) := B3.c 1 (of_decide_eq_true rfl)
        go_wp2_with fail
        refine (h0 _).mono ?_
        rintro e W4 ⟨rfl, k⟩
        have L4 := bel_then L3 k
        have B4 := B3.below k
        have R4 := R3.below k
        have N4 := N3.below k
        have r4 := r3.below k
        have F4 := F3.below k
        have Bz4 := B4.lies
        have Rz4 := R4.lies
        have Nz4 := N4.lies
        have rz4 := r4.lies
        have Fz4 := F4.lies
        clear k
        clear L3 B3 R3 N3 r3 F3 Bz3 Rz3 Nz3 rz3 Fz3
        clear cB_1
        by_cases ha : -30000 ≤ a ∧ a ≤ 30000
        case neg =>
          have HG : Hid (gyroOk a b c = false) := (gyroS_no (by omega)).1
          by_cases ha2 : 30000 < a
          · clear ha
            have cN_0 : W4.cell? ⟨w.heap.size + 2, 0, none⟩ = some (.int .i64 0) := N4.c 0 (of_decide_eq_true rfl)
            have cN_1 : W4.cell? ⟨w.heap.size + 2, 1, none⟩ = some (.int .i64 0) := N4.c 1 (of_decide_eq_true rfl)
            have cN_2 : W4.cell? ⟨w.heap.size + 2, 2, none⟩ = some (.int .i64 0) := N4.c 2 (of_decide_eq_true rfl)
            have cN_3 : W4.cell? ⟨w.heap.size + 2, 3, none⟩ = some (.int .i64 0) := N4.c 3 (of_decide_eq_true rfl)
            have cN_4 : W4.cell? ⟨w.heap.size + 2, 4, none⟩ = some (.int .i64 0) := N4.c 4 (of_decide_eq_true rfl)
            have cR_0 : W4.cell? ⟨w.heap.size + 1, 0, none⟩ = some (.int .i64 0) := R4.c 0 (of_decide_eq_true rfl)
            have gR_0 := R4.f 0 (of_decide_eq_true rfl)
            have cR_1 : W4.cell? ⟨w.heap.size + 1, 1, none⟩ = some (.int .i64 0) := R4.c 1 (of_decide_eq_true rfl)
            have gR_1 := R4.f 1 (of_decide_eq_true rfl)
            have cR_2 : W4.cell? ⟨w.heap.size + 1, 2, none⟩ = some (.int .i64 0) := R4.c 2 (of_decide_eq_true rfl)
            have gR_2 := R4.f 2 (of_decide_eq_true rfl)
            have cR_3 : W4.cell? ⟨w.heap.size + 1, 3, none⟩ = some (.int .i64 0) := R4.c 3 (of_decide_eq_true rfl)
            have gR_3 := R4.f 3 (of_decide_eq_true rfl)
            have cR_4 : W4.cell? ⟨w.heap.size + 1, 4, none⟩ = some (.int .i64 0) := R4.c 4 (of_decide_eq_true rfl)
            have gR_4 := R4.f 4 (of_decide_eq_true rfl)
            go_wp2_with (with_reducible refine post_stop ?_)
            have d0 := Arr.c (((((R4.put 0 (of_decide_eq_true rfl) (.int .i64 0) [.int .i64 0, .int .i64 0, .int .i64 0, .int .i64 0, .int .i64 0] rfl).put 1 (of_decide_eq_true rfl) (.int .i64 0) [.int .i64 0, .int .i64 0, .int .i64 0, .int .i64 0, .int .i64 0] rfl).put 2 (of_decide_eq_true rfl) (.int .i64 0) [.int .i64 0, .int .i64 0, .int .i64 0, .int .i64 0, .int .i64 0] rfl).put 3 (of_decide_eq_true rfl) (.int .i64 0) [.int .i64 0, .int .i64 0, .int .i64 0, .int .i64 0, .int .i64 0] rfl).put 4 (of_decide_eq_true rfl) (.int .i64 0) [.int .i64 0, .int .i64 0, .int .i64 0, .int .i64 0, .int .i64 0] rfl) 0 (of_decide_eq_true rfl)
            have d1 := Arr.c (((((R4.put 0 (of_decide_eq_true rfl) (.int .i64 0) [.int .i64 0, .int .i64 0, .int .i64 0, .int .i64 0, .int .i64 0] rfl).put 1 (of_decide_eq_true rfl) (.int .i64 0) [.int .i64 0, .int .i64 0, .int .i64 0, .int .i64 0, .int .i64 0] rfl).put 2 (of_decide_eq_true rfl) (.int .i64 0) [.int .i64 0, .int .i64 0, .int .i64 0, .int .i64 0, .int .i64 0] rfl).put 3 (of_decide_eq_true rfl) (.int .i64 0) [.int .i64 0, .int .i64 0, .int .i64 0, .int .i64 0, .int .i64 0] rfl).put 4 (of_decide_eq_true rfl) (.int .i64 0) [.int .i64 0, .int .i64 0, .int .i64 0, .int .i64 0, .int .i64 0] rfl) 1 (of_decide_eq_true rfl)
            have d2 := Arr.c (((((R4.put 0 (of_decide_eq_true rfl) (.int .i64 0) [.int .i64 0, .int .i64 0, .int .i64 0, .int .i64 0, .int .i64 0] rfl).put 1 (of_decide_eq_true rfl) (.int .i64 0) [.int .i64 0, .int .i64 0, .int .i64 0, .int .i64 0, .int .i64 0] rfl).put 2 (of_decide_eq_true rfl) (.int .i64 0) [.int .i64 0, .int .i64 0, .int .i64 0, .int .i64 0, .int .i64 0] rfl).put 3 (of_decide_eq_true rfl) (.int .i64 0) [.int .i64 0, .int .i64 0, .int .i64 0, .int .i64 0, .int .i64 0] rfl).put 4 (of_decide_eq_true rfl) (.int .i64 0) [.int .i64 0, .int .i64 0, .int .i64 0, .int .i64 0, .int .i64 0] rfl) 2 (of_decide_eq_true rfl)
            have d3 := Arr.c (((((R4.put 0 (of_decide_eq_true rfl) (.int .i64 0) [.int .i64 0, .int .i64 0, .int .i64 0, .int .i64 0, .int .i64 0] rfl).put 1 (of_decide_eq_true rfl) (.int .i64 0) [.int .i64 0, .int .i64 0, .int .i64 0, .int .i64 0, .int .i64 0] rfl).put 2 (of_decide_eq_true rfl) (.int .i64 0) [.int .i64 0, .int .i64 0, .int .i64 0, .int .i64 0, .int .i64 0] rfl).put 3 (of_decide_eq_true rfl) (.int .i64 0) [.int .i64 0, .int .i64 0, .int .i64 0, .int .i64 0, .int .i64 0] rfl).put 4 (of_decide_eq_true rfl) (.int .i64 0) [.int .i64 0, .int .i64 0, .int .i64 0, .int .i64 0, .int .i64 0] rfl) 3 (of_decide_eq_true rfl)
            have d4 := Arr.c (((((R4.put 0 (of_decide_eq_true rfl) (.int .i64 0) [.int .i64 0, .int .i64 0, .int .i64 0, .int .i64 0, .int .i64 0] rfl).put 1 (of_decide_eq_true rfl) (.int .i64 0) [.int .i64 0, .int .i64 0, .int .i64 0, .int .i64 0, .int .i64 0] rfl).put 2 (of_decide_eq_true rfl) (.int .i64 0) [.int .i64 0, .int .i64 0, .int .i64 0, .int .i64 0, .int .i64 0] rfl).put 3 (of_decide_eq_true rfl) (.int .i64 0) [.int .i64 0, .int .i64 0, .int .i64 0, .int .i64 0, .int .i64 0] rfl).put 4 (of_decide_eq_true rfl) (.int .i64 0) [.int .i64 0, .int .i64 0, .int .i64 0, .int .i64 0, .int .i64 0] rfl) 4 (of_decide_eq_true rfl)
            simp only [List.getElem_cons_zero, List.getElem_cons_succ] at d0 d1 d2 d3 d4
            exact ⟨bodyPost_ret (v := .tuple #[.agg #[.int .i64 0, .int .i64 0, .int .i64 0, .int .i64 0, .int .i64 0], .bool false]) (by simp [results_cell_tmp Try.results10, asAddr, go_sem, d0, d1, d2, d3, d4]) rfl ⟨by rw [HR.out, HP.out, HK.out, HG.out]; rfl, (bel_new (bel_new (bel_new (bel_new (bel_new L4 _ _ (by omega) _) _ _ (by omega) _) _ _ (by omega) _) _ _ (by omega) _) _ _ (by omega) _)⟩⟩
          · have ha3 : a < -30000 := by omega
            clear ha ha2
            have cN_0 : W4.cell? ⟨w.heap.size + 2, 0, none⟩ = some (.int .i64 0) := N4.c 0 (of_decide_eq_true rfl)
            have cN_1 : W4.cell? ⟨w.heap.size + 2, 1, none⟩ = some (.int .i64 0) := N4.c 1 (of_decide_eq_true rfl)
            have cN_2 : W4.cell? ⟨w.heap.size + 2, 2, none⟩ = some (.int .i64 0) := N4.c 2 (of_decide_eq_true rfl)
            have cN_3 : W4.cell? ⟨w.heap.size + 2, 3, none⟩ = some (.int .i64 0) := N4.c 3 (of_decide_eq_true rfl)
            have cN_4 : W4.cell? ⟨w.heap.size + 2, 4, none⟩ = some (.int .i64 0) := N4.c 4 (of_decide_eq_true rfl)
            have cR_0 : W4.cell? ⟨w.heap.size + 1, 0, none⟩ = some (.int .i64 0) := R4.c 0 (of_decide_eq_true rfl)
            have gR_0 := R4.f 0 (of_decide_eq_true rfl)
            have cR_1 : W4.cell? ⟨w.heap.size + 1, 1, none⟩ = some (.int .i64 0) := R4.c 1 (of_decide_eq_true rfl)
            have gR_1 := R4.f 1 (of_decide_eq_true rfl)
            have cR_2 : W4.cell? ⟨w.heap.size + 1, 2, none⟩ = some (.int .i64 0) := R4.c 2 (of_decide_eq_true rfl)
            have gR_2 := R4.f 2 (of_decide_eq_true rfl)
            have cR_3 : W4.cell? ⟨w.heap.size + 1, 3, none⟩ = some (.int .i64 0) := R4.c 3 (of_decide_eq_true rfl)
            have gR_3 := R4.f 3 (of_decide_eq_true rfl)
            have cR_4 : W4.cell? ⟨w.heap.size + 1, 4, none⟩ = some (.int .i64 0) := R4.c 4 (of_decide_eq_true rfl)
            have gR_4 := R4.f 4 (of_decide_eq_true rfl)
            go_wp2_with (with_reducible refine post_stop ?_)
            have d0 := Arr.c (((((R4.put 0 (of_decide_eq_true rfl) (.int .i64 0) [.int .i64 0, .int .i64 0, .int .i64 0, .int .i64 0, .int .i64 0] rfl).put 1 (of_decide_eq_true rfl) (.int .i64 0) [.int .i64 0, .int .i64 0, .int .i64 0, .int .i64 0, .int .i64 0] rfl).put 2 (of_decide_eq_true rfl) (.int .i64 0) [.int .i64 0, .int .i64 0, .int .i64 0, .int .i64 0, .int .i64 0] rfl).put 3 (of_decide_eq_true rfl) (.int .i64 0) [.int .i64 0, .int .i64 0, .int .i64 0, .int .i64 0, .int .i64 0] rfl).put 4 (of_decide_eq_true rfl) (.int .i64 0) [.int .i64 0, .int .i64 0, .int .i64 0, .int .i64 0, .int .i64 0] rfl) 0 (of_decide_eq_true rfl)
            have d1 := Arr.c (((((R4.put 0 (of_decide_eq_true rfl) (.int .i64 0) [.int .i64 0, .int .i64 0, .int .i64 0, .int .i64 0, .int .i64 0] rfl).put 1 (of_decide_eq_true rfl) (.int .i64 0) [.int .i64 0, .int .i64 0, .int .i64 0, .int .i64 0, .int .i64 0] rfl).put 2 (of_decide_eq_true rfl) (.int .i64 0) [.int .i64 0, .int .i64 0, .int .i64 0, .int .i64 0, .int .i64 0] rfl).put 3 (of_decide_eq_true rfl) (.int .i64 0) [.int .i64 0, .int .i64 0, .int .i64 0, .int .i64 0, .int .i64 0] rfl).put 4 (of_decide_eq_true rfl) (.int .i64 0) [.int .i64 0, .int .i64 0, .int .i64 0, .int .i64 0, .int .i64 0] rfl) 1 (of_decide_eq_true rfl)
            have d2 := Arr.c (((((R4.put 0 (of_decide_eq_true rfl) (.int .i64 0) [.int .i64 0, .int .i64 0, .int .i64 0, .int .i64 0, .int .i64 0] rfl).put 1 (of_decide_eq_true rfl) (.int .i64 0) [.int .i64 0, .int .i64 0, .int .i64 0, .int .i64 0, .int .i64 0] rfl).put 2 (of_decide_eq_true rfl) (.int .i64 0) [.int .i64 0, .int .i64 0, .int .i64 0, .int .i64 0, .int .i64 0] rfl).put 3 (of_decide_eq_true rfl) (.int .i64 0) [.int .i64 0, .int .i64 0, .int .i64 0, .int .i64 0, .int .i64 0] rfl).put 4 (of_decide_eq_true rfl) (.int .i64 0) [.int .i64 0, .int .i64 0, .int .i64 0, .int .i64 0, .int .i64 0] rfl) 2 (of_decide_eq_true rfl)
            have d3 := Arr.c (((((R4.put 0 (of_decide_eq_true rfl) (.int .i64 0) [.int .i64 0, .int .i64 0, .int .i64 0, .int .i64 0, .int .i64 0] rfl).put 1 (of_decide_eq_true rfl) (.int .i64 0) [.int .i64 0, .int .i64 0, .int .i64 0, .int .i64 0, .int .i64 0] rfl).put 2 (of_decide_eq_true rfl) (.int .i64 0) [.int .i64 0, .int .i64 0, .int .i64 0, .int .i64 0, .int .i64 0] rfl).put 3 (of_decide_eq_true rfl) (.int .i64 0) [.int .i64 0, .int .i64 0, .int .i64 0, .int .i64 0, .int .i64 0] rfl).put 4 (of_decide_eq_true rfl) (.int .i64 0) [.int .i64 0, .int .i64 0, .int .i64 0, .int .i64 0, .int .i64 0] rfl) 3 (of_decide_eq_true rfl)
            have d4 := Arr.c (((((R4.put 0 (of_decide_eq_true rfl) (.int .i64 0) [.int .i64 0, .int .i64 0, .int .i64 0, .int .i64 0, .int .i64 0] rfl).put 1 (of_decide_eq_true rfl) (.int .i64 0) [.int .i64 0, .int .i64 0, .int .i64 0, .int .i64 0, .int .i64 0] rfl).put 2 (of_decide_eq_true rfl) (.int .i64 0) [.int .i64 0, .int .i64 0, .int .i64 0, .int .i64 0, .int .i64 0] rfl).put 3 (of_decide_eq_true rfl) (.int .i64 0) [.int .i64 0, .int .i64 0, .int .i64 0, .int .i64 0, .int .i64 0] rfl).put 4 (of_decide_eq_true rfl) (.int .i64 0) [.int .i64 0, .int .i64 0, .int .i64 0, .int .i64 0, .int .i64 0] rfl) 4 (of_decide_eq_true rfl)
            simp only [List.getElem_cons_zero, List.getElem_cons_succ] at d0 d1 d2 d3 d4
            exact ⟨bodyPost_ret (v := .tuple #[.agg #[.int .i64 0, .int .i64 0, .int .i64 0, .int .i64 0, .int .i64 0], .bool false]) (by simp [results_cell_tmp Try.results10, asAddr, go_sem, d0, d1, d2, d3, d4]) rfl ⟨by rw [HR.out, HP.out, HK.out, HG.out]; rfl, (bel_new (bel_new (bel_new (bel_new (bel_new L4 _ _ (by omega) _) _ _ (by omega) _) _ _ (by omega) _) _ _ (by omega) _) _ _ (by omega) _)⟩⟩
        have cr_2 : W4.cell? ⟨w.heap.size + 3, 2, none⟩ = some (.int .i64 0) := r4.c 2 (of_decide_eq_true rfl)
        have gr_2 := r4.f 2 (of_decide_eq_true rfl)
        go_wp2_with fail
        clear cr_2 gr_2
        refine rounds_letter (S := fun W => Below w.heap.size w W ∧ Arr (w.heap.size) [.int .i64 1, .string s] W ∧ Arr (w.heap.size + 1) [.int .i64 0, .int .i64 0, .int .i64 0, .int .i64 0, .int .i64 0] W ∧ Arr (w.heap.size + 2) [.int .i64 0, .int .i64 0, .int .i64 0, .int .i64 0, .int .i64 0] W ∧ Arr (w.heap.size + 3) [.int .i64 1, .int .i64 t, .int .i64 (a * 33554432), .int .i64 0, .int .i64 0] W ∧ Fl (q) false W) ⟨bel_new (L4) _ _ (by omega) _, Arr.new (B4) _ _ (by omega) _, Arr.new (R4) _ _ (by omega) _, Arr.new (N4) _ _ (by omega) _, Arr.put (r4) 2 (of_decide_eq_true rfl) (.int .i64 (a * 33554432)) [.int .i64 1, .int .i64 t, .int .i64 (a * 33554432), .int .i64 0, .int .i64 0] rfl, Fl.new (F4) _ _ (by omega) _⟩ ?_
        rintro W5 ⟨L5, B5, R5, N5, r5, F5⟩
        have Bz5 := B5.lies
        have Rz5 := R5.lies
        have Nz5 := N5.lies
        have rz5 := r5.lies
        have Fz5 := F5.lies
        clear L4 B4 R4 N4 r4 F4 Bz4 Rz4 Nz4 rz4 Fz4
        rw [rounds_succ]
        have cB_1 : W5.cell? ⟨w.heap.size, 1, none⟩ = some (.string s) := B5.c 1 (of_decide_eq_true rfl)
        go_wp2_with fail
        refine (h1 _).mono ?_
        rintro e W6 ⟨rfl, k⟩
        have L6 := bel_then L5 k
        have B6 := B5.below k
        have R6 := R5.below k
        have N6 := N5.below k
        have r6 := r5.below k
        have F6 := F5.below k
        have Bz6 := B6.lies
        have Rz6 := R6.lies
        have Nz6 := N6.lies
        have rz6 := r6.lies
        have Fz6 := F6.lies
        clear k
        clear L5 B5 R5 N5 r5 F5 Bz5 Rz5 Nz5 rz5 Fz5
        clear cB_1
        by_cases hb : -30000 ≤ b ∧ b ≤ 30000
        case neg =>
          have HG : Hid (gyroOk a b c = false) := (gyroS_no (by omega)).1
          by_cases hb2 : 30000 < b
          · clear hb
            have cN_0 : W6.cell? ⟨w.heap.size + 2, 0, none⟩ = some (.int .i64 0) := N6.c 0 (of_decide_eq_true rfl)
            have cN_1 : W6.cell? ⟨w.heap.size + 2, 1, none⟩ = some (.int .i64 0) := N6.c 1 (of_decide_eq_true rfl)
            have cN_2 : W6.cell? ⟨w.heap.size + 2, 2, none⟩ = some (.int .i64 0) := N6.c 2 (of_decide_eq_true rfl)
            have cN_3 : W6.cell? ⟨w.heap.size + 2, 3, none⟩ = some (.int .i64 0) := N6.c 3 (of_decide_eq_true rfl)
            have cN_4 : W6.cell? ⟨w.heap.size + 2, 4, none⟩ = some (.int .i64 0) := N6.c 4 (of_decide_eq_true rfl)
            have cR_0 : W6.cell? ⟨w.heap.size + 1, 0, none⟩ = some (.int .i64 0) := R6.c 0 (of_decide_eq_true rfl)
            have gR_0 := R6.f 0 (of_decide_eq_true rfl)
            have cR_1 : W6.cell? ⟨w.heap.size + 1, 1, none⟩ = some (.int .i64 0) := R6.c 1 (of_decide_eq_true rfl)
            have gR_1 := R6.f 1 (of_decide_eq_true rfl)
            have cR_2 : W6.cell? ⟨w.heap.size + 1, 2, none⟩ = some (.int .i64 0) := R6.c 2 (of_decide_eq_true rfl)
            have gR_2 := R6.f 2 (of_decide_eq_true rfl)
            have cR_3 : W6.cell? ⟨w.heap.size + 1, 3, none⟩ = some (.int .i64 0) := R6.c 3 (of_decide_eq_true rfl)
            have gR_3 := R6.f 3 (of_decide_eq_true rfl)
            have cR_4 : W6.cell? ⟨w.heap.size + 1, 4, none⟩ = some (.int .i64 0) := R6.c 4 (of_decide_eq_true rfl)
            have gR_4 := R6.f 4 (of_decide_eq_true rfl)
            go_wp2_with (with_reducible refine post_stop ?_)
            have d0 := Arr.c (((((R6.put 0 (of_decide_eq_true rfl) (.int .i64 0) [.int .i64 0, .int .i64 0, .int .i64 0, .int .i64 0, .int .i64 0] rfl).put 1 (of_decide_eq_true rfl) (.int .i64 0) [.int .i64 0, .int .i64 0, .int .i64 0, .int .i64 0, .int .i64 0] rfl).put 2 (of_decide_eq_true rfl) (.int .i64 0) [.int .i64 0, .int .i64 0, .int .i64 0, .int .i64 0, .int .i64 0] rfl).put 3 (of_decide_eq_true rfl) (.int .i64 0) [.int .i64 0, .int .i64 0, .int .i64 0, .int .i64 0, .int .i64 0] rfl).put 4 (of_decide_eq_true rfl) (.int .i64 0) [.int .i64 0, .int .i64 0, .int .i64 0, .int .i64 0, .int .i64 0] rfl) 0 (of_decide_eq_true rfl)
            have d1 := Arr.c (((((R6.put 0 (of_decide_eq_true rfl) (.int .i64 0) [.int .i64 0, .int .i64 0, .int .i64 0, .int .i64 0, .int .i64 0] rfl).put 1 (of_decide_eq_true rfl) (.int .i64 0) [.int .i64 0, .int .i64 0, .int .i64 0, .int .i64 0, .int .i64 0] rfl).put 2 (of_decide_eq_true rfl) (.int .i64 0) [.int .i64 0, .int .i64 0, .int .i64 0, .int .i64 0, .int .i64 0] rfl).put 3 (of_decide_eq_true rfl) (.int .i64 0) [.int .i64 0, .int .i64 0, .int .i64 0, .int .i64 0, .int .i64 0] rfl).put 4 (of_decide_eq_true rfl) (.int .i64 0) [.int .i64 0, .int .i64 0, .int .i64 0, .int .i64 0, .int .i64 0] rfl) 1 (of_decide_eq_true rfl)
            have d2 := Arr.c (((((R6.put 0 (of_decide_eq_true rfl) (.int .i64 0) [.int .i64 0, .int .i64 0, .int .i64 0, .int .i64 0, .int .i64 0] rfl).put 1 (of_decide_eq_true rfl) (.int .i64 0) [.int .i64 0, .int .i64 0, .int .i64 0, .int .i64 0, .int .i64 0] rfl).put 2 (of_decide_eq_true rfl) (.int .i64 0) [.int .i64 0, .int .i64 0, .int .i64 0, .int .i64 0, .int .i64 0] rfl).put 3 (of_decide_eq_true rfl) (.int .i64 0) [.int .i64 0, .int .i64 0, .int .i64 0, .int .i64 0, .int .i64 0] rfl).put 4 (of_decide_eq_true rfl) (.int .i64 0) [.int .i64 0, .int .i64 0, .int .i64 0, .int .i64 0, .int .i64 0] rfl) 2 (of_decide_eq_true rfl)
            have d3 := Arr.c (((((R6.put 0 (of_decide_eq_true rfl) (.int .i64 0) [.int .i64 0, .int .i64 0, .int .i64 0, .int .i64 0, .int .i64 0] rfl).put 1 (of_decide_eq_true rfl) (.int .i64 0) [.int .i64 0, .int .i64 0, .int .i64 0, .int .i64 0, .int .i64 0] rfl).put 2 (of_decide_eq_true rfl) (.int .i64 0) [.int .i64 0, .int .i64 0, .int .i64 0, .int .i64 0, .int .i64 0] rfl).put 3 (of_decide_eq_true rfl) (.int .i64 0) [.int .i64 0, .int .i64 0, .int .i64 0, .int .i64 0, .int .i64 0] rfl).put 4 (of_decide_eq_true rfl) (.int .i64 0) [.int .i64 0, .int .i64 0, .int .i64 0, .int .i64 0, .int .i64 0] rfl) 3 (of_decide_eq_true rfl)
            have d4 := Arr.c (((((R6.put 0 (of_decide_eq_true rfl) (.int .i64 0) [.int .i64 0, .int .i64 0, .int .i64 0, .int .i64 0, .int .i64 0] rfl).put 1 (of_decide_eq_true rfl) (.int .i64 0) [.int .i64 0, .int .i64 0, .int .i64 0, .int .i64 0, .int .i64 0] rfl).put 2 (of_decide_eq_true rfl) (.int .i64 0) [.int .i64 0, .int .i64 0, .int .i64 0, .int .i64 0, .int .i64 0] rfl).put 3 (of_decide_eq_true rfl) (.int .i64 0) [.int .i64 0, .int .i64 0, .int .i64 0, .int .i64 0, .int .i64 0] rfl).put 4 (of_decide_eq_true rfl) (.int .i64 0) [.int .i64 0, .int .i64 0, .int .i64 0, .int .i64 0, .int .i64 0] rfl) 4 (of_decide_eq_true rfl)
            simp only [List.getElem_cons_zero, List.getElem_cons_succ] at d0 d1 d2 d3 d4
            exact ⟨bodyPost_ret (v := .tuple #[.agg #[.int .i64 0, .int .i64 0, .int .i64 0, .int .i64 0, .int .i64 0], .bool false]) (by simp [results_cell_tmp Try.results10, asAddr, go_sem, d0, d1, d2, d3, d4]) rfl ⟨by rw [HR.out, HP.out, HK.out, HG.out]; rfl, (bel_new (bel_new (bel_new (bel_new (bel_new L6 _ _ (by omega) _) _ _ (by omega) _) _ _ (by omega) _) _ _ (by omega) _) _ _ (by omega) _)⟩⟩
          · have hb3 : b < -30000 := by omega
            clear hb hb2
            have cN_0 : W6.cell? ⟨w.heap.size + 2, 0, none⟩ = some (.int .i64 0) := N6.c 0 (of_decide_eq_true rfl)
            have cN_1 : W6.cell? ⟨w.heap.size + 2, 1, none⟩ = some (.int .i64 0) := N6.c 1 (of_decide_eq_true rfl)
            have cN_2 : W6.cell? ⟨w.heap.size + 2, 2, none⟩ = some (.int .i64 0) := N6.c 2 (of_decide_eq_true rfl)
            have cN_3 : W6.cell? ⟨w.heap.size + 2, 3, none⟩ = some (.int .i64 0) := N6.c 3 (of_decide_eq_true rfl)
            have cN_4 : W6.cell? ⟨w.heap.size + 2, 4, none⟩ = some (.int .i64 0) := N6.c 4 (of_decide_eq_true rfl)
            have cR_0 : W6.cell? ⟨w.heap.size + 1, 0, none⟩ = some (.int .i64 0) := R6.c 0 (of_decide_eq_true rfl)
            have gR_0 := R6.f 0 (of_decide_eq_true rfl)
            have cR_1 : W6.cell? ⟨w.heap.size + 1, 1, none⟩ = some (.int .i64 0) := R6.c 1 (of_decide_eq_true rfl)
            have gR_1 := R6.f 1 (of_decide_eq_true rfl)
            have cR_2 : W6.cell? ⟨w.heap.size + 1, 2, none⟩ = some (.int .i64 0) := R6.c 2 (of_decide_eq_true rfl)
            have gR_2 := R6.f 2 (of_decide_eq_true rfl)
            have cR_3 : W6.cell? ⟨w.heap.size + 1, 3, none⟩ = some (.int .i64 0) := R6.c 3 (of_decide_eq_true rfl)
            have gR_3 := R6.f 3 (of_decide_eq_true rfl)
            have cR_4 : W6.cell? ⟨w.heap.size + 1, 4, none⟩ = some (.int .i64 0) := R6.c 4 (of_decide_eq_true rfl)
            have gR_4 := R6.f 4 (of_decide_eq_true rfl)
            go_wp2_with (with_reducible refine post_stop ?_)
            have d0 := Arr.c (((((R6.put 0 (of_decide_eq_true rfl) (.int .i64 0) [.int .i64 0, .int .i64 0, .int .i64 0, .int .i64 0, .int .i64 0] rfl).put 1 (of_decide_eq_true rfl) (.int .i64 0) [.int .i64 0, .int .i64 0, .int .i64 0, .int .i64 0, .int .i64 0] rfl).put 2 (of_decide_eq_true rfl) (.int .i64 0) [.int .i64 0, .int .i64 0, .int .i64 0, .int .i64 0, .int .i64 0] rfl).put 3 (of_decide_eq_true rfl) (.int .i64 0) [.int .i64 0, .int .i64 0, .int .i64 0, .int .i64 0, .int .i64 0] rfl).put 4 (of_decide_eq_true rfl) (.int .i64 0) [.int .i64 0, .int .i64 0, .int .i64 0, .int .i64 0, .int .i64 0] rfl) 0 (of_decide_eq_true rfl)
            have d1 := Arr.c (((((R6.put 0 (of_decide_eq_true rfl) (.int .i64 0) [.int .i64 0, .int .i64 0, .int .i64 0, .int .i64 0, .int .i64 0] rfl).put 1 (of_decide_eq_true rfl) (.int .i64 0) [.int .i64 0, .int .i64 0, .int .i64 0, .int .i64 0, .int .i64 0] rfl).put 2 (of_decide_eq_true rfl) (.int .i64 0) [.int .i64 0, .int .i64 0, .int .i64 0, .int .i64 0, .int .i64 0] rfl).put 3 (of_decide_eq_true rfl) (.int .i64 0) [.int .i64 0, .int .i64 0, .int .i64 0, .int .i64 0, .int .i64 0] rfl).put 4 (of_decide_eq_true rfl) (.int .i64 0) [.int .i64 0, .int .i64 0, .int .i64 0, .int .i64 0, .int .i64 0] rfl) 1 (of_decide_eq_true rfl)
            have d2 := Arr.c (((((R6.put 0 (of_decide_eq_true rfl) (.int .i64 0) [.int .i64 0, .int .i64 0, .int .i64 0, .int .i64 0, .int .i64 0] rfl).put 1 (of_decide_eq_true rfl) (.int .i64 0) [.int .i64 0, .int .i64 0, .int .i64 0, .int .i64 0, .int .i64 0] rfl).put 2 (of_decide_eq_true rfl) (.int .i64 0) [.int .i64 0, .int .i64 0, .int .i64 0, .int .i64 0, .int .i64 0] rfl).put 3 (of_decide_eq_true rfl) (.int .i64 0) [.int .i64 0, .int .i64 0, .int .i64 0, .int .i64 0, .int .i64 0] rfl).put 4 (of_decide_eq_true rfl) (.int .i64 0) [.int .i64 0, .int .i64 0, .int .i64 0, .int .i64 0, .int .i64 0] rfl) 2 (of_decide_eq_true rfl)
            have d3 := Arr.c (((((R6.put 0 (of_decide_eq_true rfl) (.int .i64 0) [.int .i64 0, .int .i64 0, .int .i64 0, .int .i64 0, .int .i64 0] rfl).put 1 (of_decide_eq_true rfl) (.int .i64 0) [.int .i64 0, .int .i64 0, .int .i64 0, .int .i64 0, .int .i64 0] rfl).put 2 (of_decide_eq_true rfl) (.int .i64 0) [.int .i64 0, .int .i64 0, .int .i64 0, .int .i64 0, .int .i64 0] rfl).put 3 (of_decide_eq_true rfl) (.int .i64 0) [.int .i64 0, .int .i64 0, .int .i64 0, .int .i64 0, .int .i64 0] rfl).put 4 (of_decide_eq_true rfl) (.int .i64 0) [.int .i64 0, .int .i64 0, .int .i64 0, .int .i64 0, .int .i64 0] rfl) 3 (of_decide_eq_true rfl)
            have d4 := Arr.c (((((R6.put 0 (of_decide_eq_true rfl) (.int .i64 0) [.int .i64 0, .int .i64 0, .int .i64 0, .int .i64 0, .int .i64 0] rfl).put 1 (of_decide_eq_true rfl) (.int .i64 0) [.int .i64 0, .int .i64 0, .int .i64 0, .int .i64 0, .int .i64 0] rfl).put 2 (of_decide_eq_true rfl) (.int .i64 0) [.int .i64 0, .int .i64 0, .int .i64 0, .int .i64 0, .int .i64 0] rfl).put 3 (of_decide_eq_true rfl) (.int .i64 0) [.int .i64 0, .int .i64 0, .int .i64 0, .int .i64 0, .int .i64 0] rfl).put 4 (of_decide_eq_true rfl) (.int .i64 0) [.int .i64 0, .int .i64 0, .int .i64 0, .int .i64 0, .int .i64 0] rfl) 4 (of_decide_eq_true rfl)
            simp only [List.getElem_cons_zero, List.getElem_cons_succ] at d0 d1 d2 d3 d4
            exact ⟨bodyPost_ret (v := .tuple #[.agg #[.int .i64 0, .int .i64 0, .int .i64 0, .int .i64 0, .int .i64 0], .bool false]) (by simp [results_cell_tmp Try.results10, asAddr, go_sem, d0, d1, d2, d3, d4]) rfl ⟨by rw [HR.out, HP.out, HK.out, HG.out]; rfl, (bel_new (bel_new (bel_new (bel_new (bel_new L6 _ _ (by omega) _) _ _ (by omega) _) _ _ (by omega) _) _ _ (by omega) _) _ _ (by omega) _)⟩⟩
        have cr_3 : W6.cell? ⟨w.heap.size + 3, 3, none⟩ = some (.int .i64 0) := r6.c 3 (of_decide_eq_true rfl)
        have gr_3 := r6.f 3 (of_decide_eq_true rfl)
        go_wp2_with fail
        clear cr_3 gr_3
        refine rounds_letter (S := fun W => Below w.heap.size w W ∧ Arr (w.heap.size) [.int .i64 1, .string s] W ∧ Arr (w.heap.size + 1) [.int .i64 0, .int .i64 0, .int .i64 0, .int .i64 0, .int .i64 0] W ∧ Arr (w.heap.size + 2) [.int .i64 0, .int .i64 0, .int .i64 0, .int .i64 0, .int .i64 0] W ∧ Arr (w.heap.size + 3) [.int .i64 1, .int .i64 t, .int .i64 (a * 33554432), .int .i64 (b * 33554432), .int .i64 0] W ∧ Fl (q) false W) ⟨bel_new (L6) _ _ (by omega) _, Arr.new (B6) _ _ (by omega) _, Arr.new (R6) _ _ (by omega) _, Arr.new (N6) _ _ (by omega) _, Arr.put (r6) 3 (of_decide_eq_true rfl) (.int .i64 (b * 33554432)) [.int .i64 1, .int .i64 t, .int .i64 (a * 33554432), .int .i64 (b * 33554432), .int .i64 0] rfl, Fl.new (F6) _ _ (by omega) _⟩ ?_
        rintro W7 ⟨L7, B7, R7, N7, r7, F7⟩
        have Bz7 := B7.lies
        have Rz7 := R7.lies
        have Nz7 := N7.lies
        have rz7 := r7.lies
        have Fz7 := F7.lies
        clear L6 B6 R6 N6 r6 F6 Bz6 Rz6 Nz6 rz6 Fz6
        rw [rounds_succ]
        have cB_1 : W7.cell? ⟨w.heap.size, 1, none⟩ = some (.string s) := B7.c 1 (of_decide_eq_true rfl)
        go_wp2_with fail
        refine (h2 _).mono ?_
        rintro e W8 ⟨rfl, k⟩
        have L8 := bel_then L7 k
        have B8 := B7.below k
        have R8 := R7.below k
        have N8 := N7.below k
        have r8 := r7.below k
        have F8 := F7.below k
        have Bz8 := B8.lies
        have Rz8 := R8.lies
        have Nz8 := N8.lies
        have rz8 := r8.lies
        have Fz8 := F8.lies
        clear k
        clear L7 B7 R7 N7 r7 F7 Bz7 Rz7 Nz7 rz7 Fz7
        clear cB_1
        by_cases hc : -30000 ≤ c ∧ c ≤ 30000
        case neg =>
          have HG : Hid (gyroOk a b c = false) := (gyroS_no (by omega)).1
          by_cases hc2 : 30000 < c
          · clear hc
            have cN_0 : W8.cell? ⟨w.heap.size + 2, 0, none⟩ = some (.int .i64 0) := N8.c 0 (of_decide_eq_true rfl)
            have cN_1 : W8.cell? ⟨w.heap.size + 2, 1, none⟩ = some (.int .i64 0) := N8.c 1 (of_decide_eq_true rfl)
            have cN_2 : W8.cell? ⟨w.heap.size + 2, 2, none⟩ = some (.int .i64 0) := N8.c 2 (of_decide_eq_true rfl)
            have cN_3 : W8.cell? ⟨w.heap.size + 2, 3, none⟩ = some (.int .i64 0) := N8.c 3 (of_decide_eq_true rfl)
            have cN_4 : W8.cell? ⟨w.heap.size + 2, 4, none⟩ = some (.int .i64 0) := N8.c 4 (of_decide_eq_true rfl)
            have cR_0 : W8.cell? ⟨w.heap.size + 1, 0, none⟩ = some (.int .i64 0) := R8.c 0 (of_decide_eq_true rfl)
            have gR_0 := R8.f 0 (of_decide_eq_true rfl)
            have cR_1 : W8.cell? ⟨w.heap.size + 1, 1, none⟩ = some (.int .i64 0) := R8.c 1 (of_decide_eq_true rfl)
            have gR_1 := R8.f 1 (of_decide_eq_true rfl)
            have cR_2 : W8.cell? ⟨w.heap.size + 1, 2, none⟩ = some (.int .i64 0) := R8.c 2 (of_decide_eq_true rfl)
            have gR_2 := R8.f 2 (of_decide_eq_true rfl)
            have cR_3 : W8.cell? ⟨w.heap.size + 1, 3, none⟩ = some (.int .i64 0) := R8.c 3 (of_decide_eq_true rfl)
            have gR_3 := R8.f 3 (of_decide_eq_true rfl)
            have cR_4 : W8.cell? ⟨w.heap.size + 1, 4, none⟩ = some (.int .i64 0) := R8.c 4 (of_decide_eq_true rfl)
            have gR_4 := R8.f 4 (of_decide_eq_true rfl)
            go_wp2_with (with_reducible refine post_stop ?_)
            have d0 := Arr.c (((((R8.put 0 (of_decide_eq_true rfl) (.int .i64 0) [.int .i64 0, .int .i64 0, .int .i64 0, .int .i64 0, .int .i64 0] rfl).put 1 (of_decide_eq_true rfl) (.int .i64 0) [.int .i64 0, .int .i64 0, .int .i64 0, .int .i64 0, .int .i64 0] rfl).put 2 (of_decide_eq_true rfl) (.int .i64 0) [.int .i64 0, .int .i64 0, .int .i64 0, .int .i64 0, .int .i64 0] rfl).put 3 (of_decide_eq_true rfl) (.int .i64 0) [.int .i64 0, .int .i64 0, .int .i64 0, .int .i64 0, .int .i64 0] rfl).put 4 (of_decide_eq_true rfl) (.int .i64 0) [.int .i64 0, .int .i64 0, .int .i64 0, .int .i64 0, .int .i64 0] rfl) 0 (of_decide_eq_true rfl)
            have d1 := Arr.c (((((R8.put 0 (of_decide_eq_true rfl) (.int .i64 0) [.int .i64 0, .int .i64 0, .int .i64 0, .int .i64 0, .int .i64 0] rfl).put 1 (of_decide_eq_true rfl) (.int .i64 0) [.int .i64 0, .int .i64 0, .int .i64 0, .int .i64 0, .int .i64 0] rfl).put 2 (of_decide_eq_true rfl) (.int .i64 0) [.int .i64 0, .int .i64 0, .int .i64 0, .int .i64 0, .int .i64 0] rfl).put 3 (of_decide_eq_true rfl) (.int .i64 0) [.int .i64 0, .int .i64 0, .int .i64 0, .int .i64 0, .int .i64 0] rfl).put 4 (of_decide_eq_true rfl) (.int .i64 0) [.int .i64 0, .int .i64 0, .int .i64 0, .int .i64 0, .int .i64 0] rfl) 1 (of_decide_eq_true rfl)
            have d2 := Arr.c (((((R8.put 0 (of_decide_eq_true rfl) (.int .i64 0) [.int .i64 0, .int .i64 0, .int .i64 0, .int .i64 0, .int .i64 0] rfl).put 1 (of_decide_eq_true rfl) (.int .i64 0) [.int .i64 0, .int .i64 0, .int .i64 0, .int .i64 0, .int .i64 0] rfl).put 2 (of_decide_eq_true rfl) (.int .i64 0) [.int .i64 0, .int .i64 0, .int .i64 0, .int .i64 0, .int .i64 0] rfl).put 3 (of_decide_eq_true rfl) (.int .i64 0) [.int .i64 0, .int .i64 0, .int .i64 0, .int .i64 0, .int .i64 0] rfl).put 4 (of_decide_eq_true rfl) (.int .i64 0) [.int .i64 0, .int .i64 0, .int .i64 0, .int .i64 0, .int .i64 0] rfl) 2 (of_decide_eq_true rfl)
            have d3 := Arr.c (((((R8.put 0 (of_decide_eq_true rfl) (.int .i64 0) [.int .i64 0, .int .i64 0, .int .i64 0, .int .i64 0, .int .i64 0] rfl).put 1 (of_decide_eq_true rfl) (.int .i64 0) [.int .i64 0, .int .i64 0, .int .i64 0, .int .i64 0, .int .i64 0] rfl).put 2 (of_decide_eq_true rfl) (.int .i64 0) [.int .i64 0, .int .i64 0, .int .i64 0, .int .i64 0, .int .i64 0] rfl).put 3 (of_decide_eq_true rfl) (.int .i64 0) [.int .i64 0, .int .i64 0, .int .i64 0, .int .i64 0, .int .i64 0] rfl).put 4 (of_decide_eq_true rfl) (.int .i64 0) [.int .i64 0, .int .i64 0, .int .i64 0, .int .i64 0, .int .i64 0] rfl) 3 (of_decide_eq_true rfl)
            have d4 := Arr.c (((((R8.put 0 (of_decide_eq_true rfl) (.int .i64 0) [.int .i64 0, .int .i64 0, .int .i64 0, .int .i64 0, .int .i64 0] rfl).put 1 (of_decide_eq_true rfl) (.int .i64 0) [.int .i64 0, .int .i64 0, .int .i64 0, .int .i64 0, .int .i64 0] rfl).put 2 (of_decide_eq_true rfl) (.int .i64 0) [.int .i64 0, .int .i64 0, .int .i64 0, .int .i64 0, .int .i64 0] rfl).put 3 (of_decide_eq_true rfl) (.int .i64 0) [.int .i64 0, .int .i64 0, .int .i64 0, .int .i64 0, .int .i64 0] rfl).put 4 (of_decide_eq_true rfl) (.int .i64 0) [.int .i64 0, .int .i64 0, .int .i64 0, .int .i64 0, .int .i64 0] rfl) 4 (of_decide_eq_true rfl)
            simp only [List.getElem_cons_zero, List.getElem_cons_succ] at d0 d1 d2 d3 d4
            exact ⟨bodyPost_ret (v := .tuple #[.agg #[.int .i64 0, .int .i64 0, .int .i64 0, .int .i64 0, .int .i64 0], .bool false]) (by simp [results_cell_tmp Try.results10, asAddr, go_sem, d0, d1, d2, d3, d4]) rfl ⟨by rw [HR.out, HP.out, HK.out, HG.out]; rfl, (bel_new (bel_new (bel_new (bel_new (bel_new L8 _ _ (by omega) _) _ _ (by omega) _) _ _ (by omega) _) _ _ (by omega) _) _ _ (by omega) _)⟩⟩
          · have hc3 : c < -30000 := by omega
            clear hc hc2
            have cN_0 : W8.cell? ⟨w.heap.size + 2, 0, none⟩ = some (.int .i64 0) := N8.c 0 (of_decide_eq_true rfl)
            have cN_1 : W8.cell? ⟨w.heap.size + 2, 1, none⟩ = some (.int .i64 0) := N8.c 1 (of_decide_eq_true rfl)
            have cN_2 : W8.cell? ⟨w.heap.size + 2, 2, none⟩ = some (.int .i64 0) := N8.c 2 (of_decide_eq_true rfl)
            have cN_3 : W8.cell? ⟨w.heap.size + 2, 3, none⟩ = some (.int .i64 0) := N8.c 3 (of_decide_eq_true rfl)
            have cN_4 : W8.cell? ⟨w.heap.size + 2, 4, none⟩ = some (.int .i64 0) := N8.c 4 (of_decide_eq_true rfl)
            have cR_0 : W8.cell? ⟨w.heap.size + 1, 0, none⟩ = some (.int .i64 0) := R8.c 0 (of_decide_eq_true rfl)
            have gR_0 := R8.f 0 (of_decide_eq_true rfl)
            have cR_1 : W8.cell? ⟨w.heap.size + 1, 1, none⟩ = some (.int .i64 0) := R8.c 1 (of_decide_eq_true rfl)
            have gR_1 := R8.f 1 (of_decide_eq_true rfl)
            have cR_2 : W8.cell? ⟨w.heap.size + 1, 2, none⟩ = some (.int .i64 0) := R8.c 2 (of_decide_eq_true rfl)
            have gR_2 := R8.f 2 (of_decide_eq_true rfl)
            have cR_3 : W8.cell? ⟨w.heap.size + 1, 3, none⟩ = some (.int .i64 0) := R8.c 3 (of_decide_eq_true rfl)
            have gR_3 := R8.f 3 (of_decide_eq_true rfl)
            have cR_4 : W8.cell? ⟨w.heap.size + 1, 4, none⟩ = some (.int .i64 0) := R8.c 4 (of_decide_eq_true rfl)
            have gR_4 := R8.f 4 (of_decide_eq_true rfl)
            go_wp2_with (with_reducible refine post_stop ?_)
            have d0 := Arr.c (((((R8.put 0 (of_decide_eq_true rfl) (.int .i64 0) [.int .i64 0, .int .i64 0, .int .i64 0, .int .i64 0, .int .i64 0] rfl).put 1 (of_decide_eq_true rfl) (.int .i64 0) [.int .i64 0, .int .i64 0, .int .i64 0, .int .i64 0, .int .i64 0] rfl).put 2 (of_decide_eq_true rfl) (.int .i64 0) [.int .i64 0, .int .i64 0, .int .i64 0, .int .i64 0, .int .i64 0] rfl).put 3 (of_decide_eq_true rfl) (.int .i64 0) [.int .i64 0, .int .i64 0, .int .i64 0, .int .i64 0, .int .i64 0] rfl).put 4 (of_decide_eq_true rfl) (.int .i64 0) [.int .i64 0, .int .i64 0, .int .i64 0, .int .i64 0, .int .i64 0] rfl) 0 (of_decide_eq_true rfl)
            have d1 := Arr.c (((((R8.put 0 (of_decide_eq_true rfl) (.int .i64 0) [.int .i64 0, .int .i64 0, .int .i64 0, .int .i64 0, .int .i64 0] rfl).put 1 (of_decide_eq_true rfl) (.int .i64 0) [.int .i64 0, .int .i64 0, .int .i64 0, .int .i64 0, .int .i64 0] rfl).put 2 (of_decide_eq_true rfl) (.int .i64 0) [.int .i64 0, .int .i64 0, .int .i64 0, .int .i64 0, .int .i64 0] rfl).put 3 (of_decide_eq_true rfl) (.int .i64 0) [.int .i64 0, .int .i64 0, .int .i64 0, .int .i64 0, .int .i64 0] rfl).put 4 (of_decide_eq_true rfl) (.int .i64 0) [.int .i64 0, .int .i64 0, .int .i64 0, .int .i64 0, .int .i64 0] rfl) 1 (of_decide_eq_true rfl)
            have d2 := Arr.c (((((R8.put 0 (of_decide_eq_true rfl) (.int .i64 0) [.int .i64 0, .int .i64 0, .int .i64 0, .int .i64 0, .int .i64 0] rfl).put 1 (of_decide_eq_true rfl) (.int .i64 0) [.int .i64 0, .int .i64 0, .int .i64 0, .int .i64 0, .int .i64 0] rfl).put 2 (of_decide_eq_true rfl) (.int .i64 0) [.int .i64 0, .int .i64 0, .int .i64 0, .int .i64 0, .int .i64 0] rfl).put 3 (of_decide_eq_true rfl) (.int .i64 0) [.int .i64 0, .int .i64 0, .int .i64 0, .int .i64 0, .int .i64 0] rfl).put 4 (of_decide_eq_true rfl) (.int .i64 0) [.int .i64 0, .int .i64 0, .int .i64 0, .int .i64 0, .int .i64 0] rfl) 2 (of_decide_eq_true rfl)
            have d3 := Arr.c (((((R8.put 0 (of_decide_eq_true rfl) (.int .i64 0) [.int .i64 0, .int .i64 0, .int .i64 0, .int .i64 0, .int .i64 0] rfl).put 1 (of_decide_eq_true rfl) (.int .i64 0) [.int .i64 0, .int .i64 0, .int .i64 0, .int .i64 0, .int .i64 0] rfl).put 2 (of_decide_eq_true rfl) (.int .i64 0) [.int .i64 0, .int .i64 0, .int .i64 0, .int .i64 0, .int .i64 0] rfl).put 3 (of_decide_eq_true rfl) (.int .i64 0) [.int .i64 0, .int .i64 0, .int .i64 0, .int .i64 0, .int .i64 0] rfl).put 4 (of_decide_eq_true rfl) (.int .i64 0) [.int .i64 0, .int .i64 0, .int .i64 0, .int .i64 0, .int .i64 0] rfl) 3 (of_decide_eq_true rfl)
            have d4 := Arr.c (((((R8.put 0 (of_decide_eq_true rfl) (.int .i64 0) [.int .i64 0, .int .i64 0, .int .i64 0, .int .i64 0, .int .i64 0] rfl).put 1 (of_decide_eq_true rfl) (.int .i64 0) [.int .i64 0, .int .i64 0, .int .i64 0, .int .i64 0, .int .i64 0] rfl).put 2 (of_decide_eq_true rfl) (.int .i64 0) [.int .i64 0, .int .i64 0, .int .i64 0, .int .i64 0, .int .i64 0] rfl).put 3 (of_decide_eq_true rfl) (.int .i64 0) [.int .i64 0, .int .i64 0, .int .i64 0, .int .i64 0, .int .i64 0] rfl).put 4 (of_decide_eq_true rfl) (.int .i64 0) [.int .i64 0, .int .i64 0, .int .i64 0, .int .i64 0, .int .i64 0] rfl) 4 (of_decide_eq_true rfl)
            simp only [List.getElem_cons_zero, List.getElem_cons_succ] at d0 d1 d2 d3 d4
            exact ⟨bodyPost_ret (v := .tuple #[.agg #[.int .i64 0, .int .i64 0, .int .i64 0, .int .i64 0, .int .i64 0], .bool false]) (by simp [results_cell_tmp Try.results10, asAddr, go_sem, d0, d1, d2, d3, d4]) rfl ⟨by rw [HR.out, HP.out, HK.out, HG.out]; rfl, (bel_new (bel_new (bel_new (bel_new (bel_new L8 _ _ (by omega) _) _ _ (by omega) _) _ _ (by omega) _) _ _ (by omega) _) _ _ (by omega) _)⟩⟩
        have cr_4 : W8.cell? ⟨w.heap.size + 3, 4, none⟩ = some (.int .i64 0) := r8.c 4 (of_decide_eq_true rfl)
        have gr_4 := r8.f 4 (of_decide_eq_true rfl)
        go_wp2_with fail
        clear cr_4 gr_4
        refine rounds_letter (S := fun W => Below w.heap.size w W ∧ Arr (w.heap.size) [.int .i64 1, .string s] W ∧ Arr (w.heap.size + 1) [.int .i64 0, .int .i64 0, .int .i64 0, .int .i64 0, .int .i64 0] W ∧ Arr (w.heap.size + 2) [.int .i64 0, .int .i64 0, .int .i64 0, .int .i64 0, .int .i64 0] W ∧ Arr (w.heap.size + 3) [.int .i64 1, .int .i64 t, .int .i64 (a * 33554432), .int .i64 (b * 33554432), .int .i64 (c * 33554432)] W ∧ Fl (q) false W) ⟨bel_new (L8) _ _ (by omega) _, Arr.new (B8) _ _ (by omega) _, Arr.new (R8) _ _ (by omega) _, Arr.new (N8) _ _ (by omega) _, Arr.put (r8) 4 (of_decide_eq_true rfl) (.int .i64 (c * 33554432)) [.int .i64 1, .int .i64 t, .int .i64 (a * 33554432), .int .i64 (b * 33554432), .int .i64 (c * 33554432)] rfl, Fl.new (F8) _ _ (by omega) _⟩ ?_
        rintro W9 ⟨L9, B9, R9, N9, r9, F9⟩
        have Bz9 := B9.lies
        have Rz9 := R9.lies
        have Nz9 := N9.lies
        have rz9 := r9.lies
        have Fz9 := F9.lies
        clear L8 B8 R8 N8 r8 F8 Bz8 Rz8 Nz8 rz8 Fz8
        rw [rounds_succ]
        have HG : Hid (gyroOk a b c = true) := (gyroS_yes ha hb hc).1
        have cr_0 : W9.cell? ⟨w.heap.size + 3, 0, none⟩ = some (.int .i64 1) := r9.c 0 (of_decide_eq_true rfl)
        have cr_1 : W9.cell? ⟨w.heap.size + 3, 1, none⟩ = some (.int .i64 t) := r9.c 1 (of_decide_eq_true rfl)
        have cr_2 : W9.cell? ⟨w.heap.size + 3, 2, none⟩ = some (.int .i64 (a * 33554432)) := r9.c 2 (of_decide_eq_true rfl)
        have cr_3 : W9.cell? ⟨w.heap.size + 3, 3, none⟩ = some (.int .i64 (b * 33554432)) := r9.c 3 (of_decide_eq_true rfl)
        have cr_4 : W9.cell? ⟨w.heap.size + 3, 4, none⟩ = some (.int .i64 (c * 33554432)) := r9.c 4 (of_decide_eq_true rfl)
        have cR_0 : W9.cell? ⟨w.heap.size + 1, 0, none⟩ = some (.int .i64 0) := R9.c 0 (of_decide_eq_true rfl)
        have gR_0 := R9.f 0 (of_decide_eq_true rfl)
        have cR_1 : W9.cell? ⟨w.heap.size + 1, 1, none⟩ = some (.int .i64 0) := R9.c 1 (of_decide_eq_true rfl)
        have gR_1 := R9.f 1 (of_decide_eq_true rfl)
        have cR_2 : W9.cell? ⟨w.heap.size + 1, 2, none⟩ = some (.int .i64 0) := R9.c 2 (of_decide_eq_true rfl)
        have gR_2 := R9.f 2 (of_decide_eq_true rfl)
        have cR_3 : W9.cell? ⟨w.heap.size + 1, 3, none⟩ = some (.int .i64 0) := R9.c 3 (of_decide_eq_true rfl)
        have gR_3 := R9.f 3 (of_decide_eq_true rfl)
        have cR_4 : W9.cell? ⟨w.heap.size + 1, 4, none⟩ = some (.int .i64 0) := R9.c 4 (of_decide_eq_true rfl)
        have gR_4 := R9.f 4 (of_decide_eq_true rfl)
        go_wp2_with (with_reducible refine post_stop ?_)
        have d0 := Arr.c (((((R9.put 0 (of_decide_eq_true rfl) (.int .i64 1) [.int .i64 1, .int .i64 0, .int .i64 0, .int .i64 0, .int .i64 0] rfl).put 1 (of_decide_eq_true rfl) (.int .i64 t) [.int .i64 1, .int .i64 t, .int .i64 0, .int .i64 0, .int .i64 0] rfl).put 2 (of_decide_eq_true rfl) (.int .i64 (a * 33554432)) [.int .i64 1, .int .i64 t, .int .i64 (a * 33554432), .int .i64 0, .int .i64 0] rfl).put 3 (of_decide_eq_true rfl) (.int .i64 (b * 33554432)) [.int .i64 1, .int .i64 t, .int .i64 (a * 33554432), .int .i64 (b * 33554432), .int .i64 0] rfl).put 4 (of_decide_eq_true rfl) (.int .i64 (c * 33554432)) [.int .i64 1, .int .i64 t, .int .i64 (a * 33554432), .int .i64 (b * 33554432), .int .i64 (c * 33554432)] rfl) 0 (of_decide_eq_true rfl)
        have d1 := Arr.c (((((R9.put 0 (of_decide_eq_true rfl) (.int .i64 1) [.int .i64 1, .int .i64 0, .int .i64 0, .int .i64 0, .int .i64 0] rfl).put 1 (of_decide_eq_true rfl) (.int .i64 t) [.int .i64 1, .int .i64 t, .int .i64 0, .int .i64 0, .int .i64 0] rfl).put 2 (of_decide_eq_true rfl) (.int .i64 (a * 33554432)) [.int .i64 1, .int .i64 t, .int .i64 (a * 33554432), .int .i64 0, .int .i64 0] rfl).put 3 (of_decide_eq_true rfl) (.int .i64 (b * 33554432)) [.int .i64 1, .int .i64 t, .int .i64 (a * 33554432), .int .i64 (b * 33554432), .int .i64 0] rfl).put 4 (of_decide_eq_true rfl) (.int .i64 (c * 33554432)) [.int .i64 1, .int .i64 t, .int .i64 (a * 33554432), .int .i64 (b * 33554432), .int .i64 (c * 33554432)] rfl) 1 (of_decide_eq_true rfl)
        have d2 := Arr.c (((((R9.put 0 (of_decide_eq_true rfl) (.int .i64 1) [.int .i64 1, .int .i64 0, .int .i64 0, .int .i64 0, .int .i64 0] rfl).put 1 (of_decide_eq_true rfl) (.int .i64 t) [.int .i64 1, .int .i64 t, .int .i64 0, .int .i64 0, .int .i64 0] rfl).put 2 (of_decide_eq_true rfl) (.int .i64 (a * 33554432)) [.int .i64 1, .int .i64 t, .int .i64 (a * 33554432), .int .i64 0, .int .i64 0] rfl).put 3 (of_decide_eq_true rfl) (.int .i64 (b * 33554432)) [.int .i64 1, .int .i64 t, .int .i64 (a * 33554432), .int .i64 (b * 33554432), .int .i64 0] rfl).put 4 (of_decide_eq_true rfl) (.int .i64 (c * 33554432)) [.int .i64 1, .int .i64 t, .int .i64 (a * 33554432), .int .i64 (b * 33554432), .int .i64 (c * 33554432)] rfl) 2 (of_decide_eq_true rfl)
        have d3 := Arr.c (((((R9.put 0 (of_decide_eq_true rfl) (.int .i64 1) [.int .i64 1, .int .i64 0, .int .i64 0, .int .i64 0, .int .i64 0] rfl).put 1 (of_decide_eq_true rfl) (.int .i64 t) [.int .i64 1, .int .i64 t, .int .i64 0, .int .i64 0, .int .i64 0] rfl).put 2 (of_decide_eq_true rfl) (.int .i64 (a * 33554432)) [.int .i64 1, .int .i64 t, .int .i64 (a * 33554432), .int .i64 0, .int .i64 0] rfl).put 3 (of_decide_eq_true rfl) (.int .i64 (b * 33554432)) [.int .i64 1, .int .i64 t, .int .i64 (a * 33554432), .int .i64 (b * 33554432), .int .i64 0] rfl).put 4 (of_decide_eq_true rfl) (.int .i64 (c * 33554432)) [.int .i64 1, .int .i64 t, .int .i64 (a * 33554432), .int .i64 (b * 33554432), .int .i64 (c * 33554432)] rfl) 3 (of_decide_eq_true rfl)
        have d4 := Arr.c (((((R9.put 0 (of_decide_eq_true rfl) (.int .i64 1) [.int .i64 1, .int .i64 0, .int .i64 0, .int .i64 0, .int .i64 0] rfl).put 1 (of_decide_eq_true rfl) (.int .i64 t) [.int .i64 1, .int .i64 t, .int .i64 0, .int .i64 0, .int .i64 0] rfl).put 2 (of_decide_eq_true rfl) (.int .i64 (a * 33554432)) [.int .i64 1, .int .i64 t, .int .i64 (a * 33554432), .int .i64 0, .int .i64 0] rfl).put 3 (of_decide_eq_true rfl) (.int .i64 (b * 33554432)) [.int .i64 1, .int .i64 t, .int .i64 (a * 33554432), .int .i64 (b * 33554432), .int .i64 0] rfl).put 4 (of_decide_eq_true rfl) (.int .i64 (c * 33554432)) [.int .i64 1, .int .i64 t, .int .i64 (a * 33554432), .int .i64 (b * 33554432), .int .i64 (c * 33554432)] rfl) 4 (of_decide_eq_true rfl)
        simp only [List.getElem_cons_zero, List.getElem_cons_succ] at d0 d1 d2 d3 d4
        exact ⟨bodyPost_ret (v := .tuple #[.agg #[.int .i64 1, .int .i64 t, .int .i64 (a * 33554432), .int .i64 (b * 33554432), .int .i64 (c * 33554432)], .bool true]) (by simp [results_cell_tmp Try.results10, asAddr, go_sem, d0, d1, d2, d3, d4]) rfl ⟨by rw [HR.out, HP.out, HK.out, HG.out, HV.out]; rfl, (bel_new (bel_new (bel_new (bel_new (bel_new L9 _ _ (by omega) _) _ _ (by omega) _) _ _ (by omega) _) _ _ (by omega) _) _ _ (by omega) _)⟩⟩
end Go.Proofs.Ytoaghmbaijlklaa
