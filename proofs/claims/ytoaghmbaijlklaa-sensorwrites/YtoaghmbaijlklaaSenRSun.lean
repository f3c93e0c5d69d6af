/-
  Readings out of frames: the reference's Read, cells, walked, for the seat Ytoaghmbaijlklaa. (Made by mksen3.py.)
-/
import Derived.Test.YtoaghmbaijlklaaSenSaid
import Derived.Test.YtoaghmbaijlklaaCDDays
import Derived.Test.YtoaghmbaijlklaaVRef
import Derived.Test.YtoaghmbaijlklaaUUnit
namespace Go.Proofs.Ytoaghmbaijlklaa
open Go.RowKit

theorem xUnit_any (b : Nat) (bad : Bool) (p : V3) (w : World) (hw : Fl b bad w) :
    Calls Try.prog 24 #[.pointer (some ⟨b, 0, none⟩), .agg #[.int .i64 p.1, .int .i64 p.2.1, .int .i64 p.2.2]] w fun e w' => e = .returned (.agg #[.int .i64 ((vUnitS bad p).1.1), .int .i64 ((vUnitS bad p).1.2.1), .int .i64 ((vUnitS bad p).1.2.2)]) ∧ Fl b (vUnitS bad p).2 w' ∧ Kept b w w' := by
  have h := uUnit_any b bad p w hw
  rw [uUnit_eq] at h
  exact h
set_option maxHeartbeats 4000000 in
set_option maxRecDepth 100000 in
theorem rread_2 (s : ByteArray) (w : World) (hz : s.size = 18) (hf : formOk 2 s = true) :
    Calls Try.prog 10 #[.agg #[.int .i64 2, .string s]] w fun e w' => e = .returned (.tuple #[.agg #[.int .i64 (readR 2 s).1, .int .i64 (readR 2 s).2.1, .int .i64 (readR 2 s).2.2.1, .int .i64 (readR 2 s).2.2.2.1, .int .i64 (readR 2 s).2.2.2.2], .bool (readOk 2 s)]) ∧ Below w.heap.size w w' := by
  go_enter Try.func10, Try.ntmps10
  go_wp2_with fail
  go_loopw [7] (fun iv wr => ∃ j : Nat, j ≤ 6 ∧ iv = .int .i64 j ∧ Below w.heap.size w wr ∧ Arr (w.heap.size) [.int .i64 2, .string s] wr ∧ Arr (w.heap.size + 1) [.int .i64 0, .int .i64 0, .int .i64 0, .int .i64 0, .int .i64 0] wr ∧ Arr (w.heap.size + 2) [.int .i64 0, .int .i64 0, .int .i64 0, .int .i64 0, .int .i64 0] wr ∧ Arr (w.heap.size + 3) [.int .i64 2, .int .i64 (tickK s j : Nat), .int .i64 0, .int .i64 0, .int .i64 0] wr) (fun iv _ => 6 - (intOf iv).toNat)
  case atStart =>
    exact ⟨0, by omega, rfl, bel_al (bel_al (bel_al (bel_al (Below.refl _ _) _) _) _) _, (((Arr_at w w.heap.size [.int .i64 2, .string s] _ rfl).alloc _).alloc _).alloc _, ((Arr_at _ (w.heap.size + 1) [.int .i64 0, .int .i64 0, .int .i64 0, .int .i64 0, .int .i64 0] _ (by simp)).alloc _).alloc _, (Arr_at _ (w.heap.size + 2) [.int .i64 0, .int .i64 0, .int .i64 0, .int .i64 0, .int .i64 0] _ (by simp)).alloc _, Arr_at _ (w.heap.size + 3) [.int .i64 2, .int .i64 0, .int .i64 0, .int .i64 0, .int .i64 0] _ (by simp)⟩
  case round =>
    obtain ⟨j, hj, rfl, L1, B1, R1, N1, r1⟩ := hrel
    have Bz1 := B1.lies
    have Rz1 := R1.lies
    have Nz1 := N1.lies
    have rz1 := r1.lies
    by_cases hj6 : j < 6
    · have hi := idx_run (s := s) (i := (j : Int)) (n := j) (by omega) rfl
      have hb := bt_lt s j
      have ht : tickK s j < 1099511627776 := Nat.lt_of_lt_of_le (tickK_lt s j) (show 256 ^ j ≤ 256 ^ 5 from Nat.pow_le_pow_right (by decide) (by omega))
      have HT : Hid (tickK s (j + 1) = tickK s j * 256 + bt s j) := rfl
      generalize tickK s j = t at ht HT r1
      generalize bt s j = b at hi hb HT
      have w1 : IntKind.i64.wrap ((t : Int) * 256) = (t : Int) * 256 := by rw [IntKind.wrap_i64]; omega
      have w2 : IntKind.i64.wrap ((t : Int) * 256 + b) = (t : Int) * 256 + b := by rw [IntKind.wrap_i64]; omega
      have cr_1 : wr.cell? ⟨w.heap.size + 3, 1, none⟩ = some (.int .i64 (t : Nat)) := r1.c 1 (of_decide_eq_true rfl)
      have gr_1 := r1.f 1 (of_decide_eq_true rfl)
      have cB_1 : wr.cell? ⟨w.heap.size, 1, none⟩ = some (.string s) := B1.c 1 (of_decide_eq_true rfl)
      go_wp2_with fail
      go_region
      go_wp2_with fail
      go_roundw
      case rel => exact ⟨j + 1, by omega, by go_num, bel_drew (bel_new L1 _ _ (by omega) _), (B1.new _ _ (by omega) _).drew, (R1.new _ _ (by omega) _).drew, (N1.new _ _ (by omega) _).drew, (r1.put 1 (of_decide_eq_true rfl) (.int .i64 ((t : Int) * 256 + b)) [.int .i64 2, .int .i64 (tickK s (j + 1) : Nat), .int .i64 0, .int .i64 0, .int .i64 0] (by rw [HT.out, show ((t * 256 + b : Nat) : Int) = (t : Int) * 256 + b by omega]; rfl)).drew⟩
      case measure => simp [intOf]; omega
    · obtain rfl : j = 6 := by omega
      have HT : Hid ((tickK s 6 : Nat) = tickS s) := rfl
      have hw : wr = wr := rfl
      generalize ((tickK s 6 : Nat) : Int) = t at HT r1
      clear hw
      obtain ⟨W1, hW⟩ : ∃ W1, W1 = wr := ⟨_, rfl⟩
      rw [← hW] at L1 B1 R1 N1 r1 Bz1 Rz1 Nz1 rz1 ⊢
      clear hW
      have cr_1 : W1.cell? ⟨w.heap.size + 3, 1, none⟩ = some (.int .i64 t) := r1.c 1 (of_decide_eq_true rfl)
      go_wp2_with fail
      refine (dRight_any t _).mono ?_
      rintro e W2 ⟨rfl, k⟩
      have L2 := bel_then L1 k
      have B2 := B1.below k
      have R2 := R1.below k
      have N2 := N1.below k
      have r2 := r1.below k
      have Bz2 := B2.lies
      have Rz2 := R2.lies
      have Nz2 := N2.lies
      have rz2 := r2.lies
      clear k
      clear L1 B1 R1 N1 r1 Bz1 Rz1 Nz1 rz1
      clear cr_1
      have HO : Hid (readOk 2 s = (cRight t && saidOk 2 s 6)) := by show _ = _; unfold readOk; rw [hf, Bool.true_and, ← HT.out]
      cases hcr : cRight t
      · have HC : Hid (cRight t = false) := hcr
        clear hcr
        have cN_0 : W2.cell? ⟨w.heap.size + 2, 0, none⟩ = some (.int .i64 0) := N2.c 0 (of_decide_eq_true rfl)
        have cN_1 : W2.cell? ⟨w.heap.size + 2, 1, none⟩ = some (.int .i64 0) := N2.c 1 (of_decide_eq_true rfl)
        have cN_2 : W2.cell? ⟨w.heap.size + 2, 2, none⟩ = some (.int .i64 0) := N2.c 2 (of_decide_eq_true rfl)
        have cN_3 : W2.cell? ⟨w.heap.size + 2, 3, none⟩ = some (.int .i64 0) := N2.c 3 (of_decide_eq_true rfl)
        have cN_4 : W2.cell? ⟨w.heap.size + 2, 4, none⟩ = some (.int .i64 0) := N2.c 4 (of_decide_eq_true rfl)
        have cR_0 : W2.cell? ⟨w.heap.size + 1, 0, none⟩ = some (.int .i64 0) := R2.c 0 (of_decide_eq_true rfl)
        have gR_0 := R2.f 0 (of_decide_eq_true rfl)
        have cR_1 : W2.cell? ⟨w.heap.size + 1, 1, none⟩ = some (.int .i64 0) := R2.c 1 (of_decide_eq_true rfl)
        have gR_1 := R2.f 1 (of_decide_eq_true rfl)
        have cR_2 : W2.cell? ⟨w.heap.size + 1, 2, none⟩ = some (.int .i64 0) := R2.c 2 (of_decide_eq_true rfl)
        have gR_2 := R2.f 2 (of_decide_eq_true rfl)
        have cR_3 : W2.cell? ⟨w.heap.size + 1, 3, none⟩ = some (.int .i64 0) := R2.c 3 (of_decide_eq_true rfl)
        have gR_3 := R2.f 3 (of_decide_eq_true rfl)
        have cR_4 : W2.cell? ⟨w.heap.size + 1, 4, none⟩ = some (.int .i64 0) := R2.c 4 (of_decide_eq_true rfl)
        have gR_4 := R2.f 4 (of_decide_eq_true rfl)
        go_wp2_with (with_reducible refine post_stop ?_)
        have d0 := Arr.c (((((R2.put 0 (of_decide_eq_true rfl) (.int .i64 0) [.int .i64 0, .int .i64 0, .int .i64 0, .int .i64 0, .int .i64 0] rfl).put 1 (of_decide_eq_true rfl) (.int .i64 0) [.int .i64 0, .int .i64 0, .int .i64 0, .int .i64 0, .int .i64 0] rfl).put 2 (of_decide_eq_true rfl) (.int .i64 0) [.int .i64 0, .int .i64 0, .int .i64 0, .int .i64 0, .int .i64 0] rfl).put 3 (of_decide_eq_true rfl) (.int .i64 0) [.int .i64 0, .int .i64 0, .int .i64 0, .int .i64 0, .int .i64 0] rfl).put 4 (of_decide_eq_true rfl) (.int .i64 0) [.int .i64 0, .int .i64 0, .int .i64 0, .int .i64 0, .int .i64 0] rfl) 0 (of_decide_eq_true rfl)
        have d1 := Arr.c (((((R2.put 0 (of_decide_eq_true rfl) (.int .i64 0) [.int .i64 0, .int .i64 0, .int .i64 0, .int .i64 0, .int .i64 0] rfl).put 1 (of_decide_eq_true rfl) (.int .i64 0) [.int .i64 0, .int .i64 0, .int .i64 0, .int .i64 0, .int .i64 0] rfl).put 2 (of_decide_eq_true rfl) (.int .i64 0) [.int .i64 0, .int .i64 0, .int .i64 0, .int .i64 0, .int .i64 0] rfl).put 3 (of_decide_eq_true rfl) (.int .i64 0) [.int .i64 0, .int .i64 0, .int .i64 0, .int .i64 0, .int .i64 0] rfl).put 4 (of_decide_eq_true rfl) (.int .i64 0) [.int .i64 0, .int .i64 0, .int .i64 0, .int .i64 0, .int .i64 0] rfl) 1 (of_decide_eq_true rfl)
        have d2 := Arr.c (((((R2.put 0 (of_decide_eq_true rfl) (.int .i64 0) [.int .i64 0, .int .i64 0, .int .i64 0, .int .i64 0, .int .i64 0] rfl).put 1 (of_decide_eq_true rfl) (.int .i64 0) [.int .i64 0, .int .i64 0, .int .i64 0, .int .i64 0, .int .i64 0] rfl).put 2 (of_decide_eq_true rfl) (.int .i64 0) [.int .i64 0, .int .i64 0, .int .i64 0, .int .i64 0, .int .i64 0] rfl).put 3 (of_decide_eq_true rfl) (.int .i64 0) [.int .i64 0, .int .i64 0, .int .i64 0, .int .i64 0, .int .i64 0] rfl).put 4 (of_decide_eq_true rfl) (.int .i64 0) [.int .i64 0, .int .i64 0, .int .i64 0, .int .i64 0, .int .i64 0] rfl) 2 (of_decide_eq_true rfl)
        have d3 := Arr.c (((((R2.put 0 (of_decide_eq_true rfl) (.int .i64 0) [.int .i64 0, .int .i64 0, .int .i64 0, .int .i64 0, .int .i64 0] rfl).put 1 (of_decide_eq_true rfl) (.int .i64 0) [.int .i64 0, .int .i64 0, .int .i64 0, .int .i64 0, .int .i64 0] rfl).put 2 (of_decide_eq_true rfl) (.int .i64 0) [.int .i64 0, .int .i64 0, .int .i64 0, .int .i64 0, .int .i64 0] rfl).put 3 (of_decide_eq_true rfl) (.int .i64 0) [.int .i64 0, .int .i64 0, .int .i64 0, .int .i64 0, .int .i64 0] rfl).put 4 (of_decide_eq_true rfl) (.int .i64 0) [.int .i64 0, .int .i64 0, .int .i64 0, .int .i64 0, .int .i64 0] rfl) 3 (of_decide_eq_true rfl)
        have d4 := Arr.c (((((R2.put 0 (of_decide_eq_true rfl) (.int .i64 0) [.int .i64 0, .int .i64 0, .int .i64 0, .int .i64 0, .int .i64 0] rfl).put 1 (of_decide_eq_true rfl) (.int .i64 0) [.int .i64 0, .int .i64 0, .int .i64 0, .int .i64 0, .int .i64 0] rfl).put 2 (of_decide_eq_true rfl) (.int .i64 0) [.int .i64 0, .int .i64 0, .int .i64 0, .int .i64 0, .int .i64 0] rfl).put 3 (of_decide_eq_true rfl) (.int .i64 0) [.int .i64 0, .int .i64 0, .int .i64 0, .int .i64 0, .int .i64 0] rfl).put 4 (of_decide_eq_true rfl) (.int .i64 0) [.int .i64 0, .int .i64 0, .int .i64 0, .int .i64 0, .int .i64 0] rfl) 4 (of_decide_eq_true rfl)
        simp only [List.getElem_cons_zero, List.getElem_cons_succ] at d0 d1 d2 d3 d4
        exact ⟨bodyPost_ret (v := .tuple #[.agg #[.int .i64 0, .int .i64 0, .int .i64 0, .int .i64 0, .int .i64 0], .bool false]) (by simp [results_cell_tmp Try.results10, asAddr, go_sem, d0, d1, d2, d3, d4]) rfl ⟨by unfold readR; rw [HO.out, HC.out]; rfl, (bel_new (bel_new (bel_new (bel_new (bel_new L2 _ _ (by omega) _) _ _ (by omega) _) _ _ (by omega) _) _ _ (by omega) _) _ _ (by omega) _)⟩⟩
      · have HC : Hid (cRight t = true) := hcr
        clear hcr
        have HR : Hid (readR 2 s = if saidOk 2 s 6 then (2, t, saidV 2 s 6) else (0, 0, 0, 0, 0)) := by show _ = _; unfold readR; rw [HO.out, HC.out, Bool.true_and, HT.out]
        have HP : Hid (readOk 2 s = saidOk 2 s 6) := by show _ = _; rw [HO.out, HC.out, Bool.true_and]
        have cB_0 : W2.cell? ⟨w.heap.size, 0, none⟩ = some (.int .i64 2) := B2.c 0 (of_decide_eq_true rfl)
        go_wp2_with fail
        refine wp_loop_rounds 4 ?_
        refine rounds_letter (S := fun W => Below w.heap.size w W ∧ Arr (w.heap.size) [.int .i64 2, .string s] W ∧ Arr (w.heap.size + 1) [.int .i64 0, .int .i64 0, .int .i64 0, .int .i64 0, .int .i64 0] W ∧ Arr (w.heap.size + 2) [.int .i64 0, .int .i64 0, .int .i64 0, .int .i64 0, .int .i64 0] W ∧ Arr (w.heap.size + 3) [.int .i64 2, .int .i64 t, .int .i64 0, .int .i64 0, .int .i64 0] W ∧ Fl (W2.heap.size) false W) ⟨bel_al L2 _, B2.alloc _, R2.alloc _, N2.alloc _, r2.alloc _, Fl_at _ _ false _ rfl⟩ ?_
        rintro W3 ⟨L3, B3, R3, N3, r3, F3⟩
        have Bz3 := B3.lies
        have Rz3 := R3.lies
        have Nz3 := N3.lies
        have rz3 := r3.lies
        have Fz3 := F3.lies
        clear cB_0
        have hq : w.heap.size + 3 < W2.heap.size := rz2
        generalize W2.heap.size = q at F3 Fz3 hq ⊢
        clear L2 B2 R2 N2 r2 Bz2 Rz2 Nz2 rz2
        have h0 := fun W => rcount_any s 6 6 W rfl (by omega) (by omega)
        have h1 := fun W => rcount_any s 8 8 W rfl (by omega) (by omega)
        have h2 := fun W => rcount_any s 10 10 W rfl (by omega) (by omega)
        have h3 := fun W => rcount_any s 12 12 W rfl (by omega) (by omega)
        have h4 := fun W => rcount_any s 14 14 W rfl (by omega) (by omega)
        have h5 := fun W => rcount_any s 16 16 W rfl (by omega) (by omega)
        have HV : Hid (saidV 2 s 6 = (sunS (cnt s 6 : Nat) (cnt s 8 : Nat) (cnt s 10 : Nat) (cnt s 12 : Nat) (cnt s 14 : Nat) (cnt s 16 : Nat)).1) := rfl
        have HK : Hid (saidOk 2 s 6 = sunOk (cnt s 6 : Nat) (cnt s 8 : Nat) (cnt s 10 : Nat) (cnt s 12 : Nat) (cnt s 14 : Nat) (cnt s 16 : Nat)) := rfl
        have ra : 0 ≤ ((cnt s 6 : Nat) : Int) ∧ ((cnt s 6 : Nat) : Int) < 65536 := by have := cnt_lt s 6; omega
        generalize ((cnt s 6 : Nat) : Int) = a at h0 ra HV HK
        have rb : 0 ≤ ((cnt s 8 : Nat) : Int) ∧ ((cnt s 8 : Nat) : Int) < 65536 := by have := cnt_lt s 8; omega
        generalize ((cnt s 8 : Nat) : Int) = b at h1 rb HV HK
        have rc : 0 ≤ ((cnt s 10 : Nat) : Int) ∧ ((cnt s 10 : Nat) : Int) < 65536 := by have := cnt_lt s 10; omega
        generalize ((cnt s 10 : Nat) : Int) = c at h2 rc HV HK
        have rd : 0 ≤ ((cnt s 12 : Nat) : Int) ∧ ((cnt s 12 : Nat) : Int) < 65536 := by have := cnt_lt s 12; omega
        generalize ((cnt s 12 : Nat) : Int) = d at h3 rd HV HK
        have rg : 0 ≤ ((cnt s 14 : Nat) : Int) ∧ ((cnt s 14 : Nat) : Int) < 65536 := by have := cnt_lt s 14; omega
        generalize ((cnt s 14 : Nat) : Int) = g at h4 rg HV HK
        have rf : 0 ≤ ((cnt s 16 : Nat) : Int) ∧ ((cnt s 16 : Nat) : Int) < 65536 := by have := cnt_lt s 16; omega
        generalize ((cnt s 16 : Nat) : Int) = f at h5 rf HV HK
        by_cases xa : 2000 ≤ a
        · have Hl : Hid (lit a b c d g f = true) := by show _ = _; unfold lit; simp; omega
          rw [rounds_succ]
          have cB_1 : W3.cell? ⟨w.heap.size, 1, none⟩ = some (.string s) := B3.c 1 (of_decide_eq_true rfl)
          go_wp2_with fail
          refine (h0 _).mono ?_
          rintro e W4 ⟨rfl, k⟩
          have L4 := bel_then L3 k
          have B4 := B3.below k
          have R4 := R3.below k
          have N4 := N3.below k
          have r4 := r3.below k
          have F4 := F3.below k
          have Bz4 := B4.lies
          have Rz4 := R4.lies
          have Nz4 := N4.lies
          have rz4 := r4.lies
          have Fz4 := F4.lies
          clear k
          clear L3 B3 R3 N3 r3 F3 Bz3 Rz3 Nz3 rz3 Fz3
          clear cB_1
          have cB_1 : W4.cell? ⟨w.heap.size, 1, none⟩ = some (.string s) := B4.c 1 (of_decide_eq_true rfl)
          go_wp2_with fail
          refine (h1 _).mono ?_
          rintro e W5 ⟨rfl, k⟩
          have L5 := bel_then L4 k
          have B5 := B4.below k
          have R5 := R4.below k
          have N5 := N4.below k
          have r5 := r4.below k
          have F5 := F4.below k
          have Bz5 := B5.lies
          have Rz5 := R5.lies
          have Nz5 := N5.lies
          have rz5 := r5.lies
          have Fz5 := F5.lies
          clear k
          clear L4 B4 R4 N4 r4 F4 Bz4 Rz4 Nz4 rz4 Fz4
          clear cB_1
          have cr_2 : W5.cell? ⟨w.heap.size + 3, 2, none⟩ = some (.int .i64 0) := r5.c 2 (of_decide_eq_true rfl)
          have gr_2 := r5.f 2 (of_decide_eq_true rfl)
          go_wp2_with fail
          clear cr_2 gr_2
          refine rounds_letter (S := fun W => Below w.heap.size w W ∧ Arr (w.heap.size) [.int .i64 2, .string s] W ∧ Arr (w.heap.size + 1) [.int .i64 0, .int .i64 0, .int .i64 0, .int .i64 0, .int .i64 0] W ∧ Arr (w.heap.size + 2) [.int .i64 0, .int .i64 0, .int .i64 0, .int .i64 0, .int .i64 0] W ∧ Arr (w.heap.size + 3) [.int .i64 2, .int .i64 t, .int .i64 ((a - b) * 16777216), .int .i64 0, .int .i64 0] W ∧ Fl (q) false W) ⟨bel_new (L5) _ _ (by omega) _, Arr.new (B5) _ _ (by omega) _, Arr.new (R5) _ _ (by omega) _, Arr.new (N5) _ _ (by omega) _, Arr.put (r5) 2 (of_decide_eq_true rfl) (.int .i64 ((a - b) * 16777216)) [.int .i64 2, .int .i64 t, .int .i64 ((a - b) * 16777216), .int .i64 0, .int .i64 0] rfl, Fl.new (F5) _ _ (by omega) _⟩ ?_
          rintro W6 ⟨L6, B6, R6, N6, r6, F6⟩
          have Bz6 := B6.lies
          have Rz6 := R6.lies
          have Nz6 := N6.lies
          have rz6 := r6.lies
          have Fz6 := F6.lies
          clear L5 B5 R5 N5 r5 F5 Bz5 Rz5 Nz5 rz5 Fz5
          rw [rounds_succ]
          have cB_1 : W6.cell? ⟨w.heap.size, 1, none⟩ = some (.string s) := B6.c 1 (of_decide_eq_true rfl)
          go_wp2_with fail
          refine (h2 _).mono ?_
          rintro e W7 ⟨rfl, k⟩
          have L7 := bel_then L6 k
          have B7 := B6.below k
          have R7 := R6.below k
          have N7 := N6.below k
          have r7 := r6.below k
          have F7 := F6.below k
          have Bz7 := B7.lies
          have Rz7 := R7.lies
          have Nz7 := N7.lies
          have rz7 := r7.lies
          have Fz7 := F7.lies
          clear k
          clear L6 B6 R6 N6 r6 F6 Bz6 Rz6 Nz6 rz6 Fz6
          clear cB_1
          have cB_1 : W7.cell? ⟨w.heap.size, 1, none⟩ = some (.string s) := B7.c 1 (of_decide_eq_true rfl)
          go_wp2_with fail
          refine (h3 _).mono ?_
          rintro e W8 ⟨rfl, k⟩
          have L8 := bel_then L7 k
          have B8 := B7.below k
          have R8 := R7.below k
          have N8 := N7.below k
          have r8 := r7.below k
          have F8 := F7.below k
          have Bz8 := B8.lies
          have Rz8 := R8.lies
          have Nz8 := N8.lies
          have rz8 := r8.lies
          have Fz8 := F8.lies
          clear k
          clear L7 B7 R7 N7 r7 F7 Bz7 Rz7 Nz7 rz7 Fz7
          clear cB_1
          have cr_3 : W8.cell? ⟨w.heap.size + 3, 3, none⟩ = some (.int .i64 0) := r8.c 3 (of_decide_eq_true rfl)
          have gr_3 := r8.f 3 (of_decide_eq_true rfl)
          go_wp2_with fail
          clear cr_3 gr_3
          refine rounds_letter (S := fun W => Below w.heap.size w W ∧ Arr (w.heap.size) [.int .i64 2, .string s] W ∧ Arr (w.heap.size + 1) [.int .i64 0, .int .i64 0, .int .i64 0, .int .i64 0, .int .i64 0] W ∧ Arr (w.heap.size + 2) [.int .i64 0, .int .i64 0, .int .i64 0, .int .i64 0, .int .i64 0] W ∧ Arr (w.heap.size + 3) [.int .i64 2, .int .i64 t, .int .i64 ((a - b) * 16777216), .int .i64 ((c - d) * 16777216), .int .i64 0] W ∧ Fl (q) false W) ⟨bel_new (L8) _ _ (by omega) _, Arr.new (B8) _ _ (by omega) _, Arr.new (R8) _ _ (by omega) _, Arr.new (N8) _ _ (by omega) _, Arr.put (r8) 3 (of_decide_eq_true rfl) (.int .i64 ((c - d) * 16777216)) [.int .i64 2, .int .i64 t, .int .i64 ((a - b) * 16777216), .int .i64 ((c - d) * 16777216), .int .i64 0] rfl, Fl.new (F8) _ _ (by omega) _⟩ ?_
          rintro W9 ⟨L9, B9, R9, N9, r9, F9⟩
          have Bz9 := B9.lies
          have Rz9 := R9.lies
          have Nz9 := N9.lies
          have rz9 := r9.lies
          have Fz9 := F9.lies
          clear L8 B8 R8 N8 r8 F8 Bz8 Rz8 Nz8 rz8 Fz8
          rw [rounds_succ]
          have cB_1 : W9.cell? ⟨w.heap.size, 1, none⟩ = some (.string s) := B9.c 1 (of_decide_eq_true rfl)
          go_wp2_with fail
          refine (h4 _).mono ?_
          rintro e W10 ⟨rfl, k⟩
          have L10 := bel_then L9 k
          have B10 := B9.below k
          have R10 := R9.below k
          have N10 := N9.below k
          have r10 := r9.below k
          have F10 := F9.below k
          have Bz10 := B10.lies
          have Rz10 := R10.lies
          have Nz10 := N10.lies
          have rz10 := r10.lies
          have Fz10 := F10.lies
          clear k
          clear L9 B9 R9 N9 r9 F9 Bz9 Rz9 Nz9 rz9 Fz9
          clear cB_1
          have cB_1 : W10.cell? ⟨w.heap.size, 1, none⟩ = some (.string s) := B10.c 1 (of_decide_eq_true rfl)
          go_wp2_with fail
          refine (h5 _).mono ?_
          rintro e W11 ⟨rfl, k⟩
          have L11 := bel_then L10 k
          have B11 := B10.below k
          have R11 := R10.below k
          have N11 := N10.below k
          have r11 := r10.below k
          have F11 := F10.below k
          have Bz11 := B11.lies
          have Rz11 := R11.lies
          have Nz11 := N11.lies
          have rz11 := r11.lies
          have Fz11 := F11.lies
          clear k
          clear L10 B10 R10 N10 r10 F10 Bz10 Rz10 Nz10 rz10 Fz10
          clear cB_1
          have cr_4 : W11.cell? ⟨w.heap.size + 3, 4, none⟩ = some (.int .i64 0) := r11.c 4 (of_decide_eq_true rfl)
          have gr_4 := r11.f 4 (of_decide_eq_true rfl)
          go_wp2_with fail
          clear cr_4 gr_4
          refine rounds_letter (S := fun W => Below w.heap.size w W ∧ Arr (w.heap.size) [.int .i64 2, .string s] W ∧ Arr (w.heap.size + 1) [.int .i64 0, .int .i64 0, .int .i64 0, .int .i64 0, .int .i64 0] W ∧ Arr (w.heap.size + 2) [.int .i64 0, .int .i64 0, .int .i64 0, .int .i64 0, .int .i64 0] W ∧ Arr (w.heap.size + 3) [.int .i64 2, .int .i64 t, .int .i64 ((a - b) * 16777216), .int .i64 ((c - d) * 16777216), .int .i64 ((g - f) * 16777216)] W ∧ Fl (q) false W) ⟨bel_new (L11) _ _ (by omega) _, Arr.new (B11) _ _ (by omega) _, Arr.new (R11) _ _ (by omega) _, Arr.new (N11) _ _ (by omega) _, Arr.put (r11) 4 (of_decide_eq_true rfl) (.int .i64 ((g - f) * 16777216)) [.int .i64 2, .int .i64 t, .int .i64 ((a - b) * 16777216), .int .i64 ((c - d) * 16777216), .int .i64 ((g - f) * 16777216)] rfl, Fl.new (F11) _ _ (by omega) _⟩ ?_
          rintro W12 ⟨L12, B12, R12, N12, r12, F12⟩
          have Bz12 := B12.lies
          have Rz12 := R12.lies
          have Nz12 := N12.lies
          have rz12 := r12.lies
          have Fz12 := F12.lies
          clear L11 B11 R11 N11 r11 F11 Bz11 Rz11 Nz11 rz11 Fz11
          rw [rounds_succ]
          have cr_2 : W12.cell? ⟨w.heap.size + 3, 2, none⟩ = some (.int .i64 ((a - b) * 16777216)) := r12.c 2 (of_decide_eq_true rfl)
          have gr_2 := r12.f 2 (of_decide_eq_true rfl)
          have cr_3 : W12.cell? ⟨w.heap.size + 3, 3, none⟩ = some (.int .i64 ((c - d) * 16777216)) := r12.c 3 (of_decide_eq_true rfl)
          have gr_3 := r12.f 3 (of_decide_eq_true rfl)
          have cr_4 : W12.cell? ⟨w.heap.size + 3, 4, none⟩ = some (.int .i64 ((g - f) * 16777216)) := r12.c 4 (of_decide_eq_true rfl)
          have gr_4 := r12.f 4 (of_decide_eq_true rfl)
          go_wp2_with fail
          refine (xUnit_any q false ((a - b) * 16777216, (c - d) * 16777216, (g - f) * 16777216) _ F12).mono ?_
          rintro e W13 ⟨rfl, F13, k⟩
          have L13 := k.on L12 (by omega)
          have B13 := B12.kept k (by omega)
          have R13 := R12.kept k (by omega)
          have N13 := N12.kept k (by omega)
          have r13 := r12.kept k (by omega)
          have Bz13 := B13.lies
          have Rz13 := R13.lies
          have Nz13 := N13.lies
          have rz13 := r13.lies
          have Fz13 := F13.lies
          clear k
          clear L12 B12 R12 N12 r12 F12 Bz12 Rz12 Nz12 rz12 Fz12
          have Eu : Hid (sunS a b c d g f = vUnitS false ((a - b) * 16777216, (c - d) * 16777216, (g - f) * 16777216)) := rfl
          generalize vUnitS false ((a - b) * 16777216, (c - d) * 16777216, (g - f) * 16777216) = u at F13 Eu ⊢
          clear cr_2 gr_2 cr_3 gr_3 cr_4 gr_4
          have cr_2 : W13.cell? ⟨w.heap.size + 3, 2, none⟩ = some (.int .i64 ((a - b) * 16777216)) := r13.c 2 (of_decide_eq_true rfl)
          have gr_2 := r13.f 2 (of_decide_eq_true rfl)
          have cr_3 : W13.cell? ⟨w.heap.size + 3, 3, none⟩ = some (.int .i64 ((c - d) * 16777216)) := r13.c 3 (of_decide_eq_true rfl)
          have gr_3 := r13.f 3 (of_decide_eq_true rfl)
          have cr_4 : W13.cell? ⟨w.heap.size + 3, 4, none⟩ = some (.int .i64 ((g - f) * 16777216)) := r13.c 4 (of_decide_eq_true rfl)
          have gr_4 := r13.f 4 (of_decide_eq_true rfl)
          have cF := F13.cell
          cases hu : u.2
          · have Hu : Hid (u.2 = false) := hu
            rw [hu] at cF
            clear hu
            have cR_0 : W13.cell? ⟨w.heap.size + 1, 0, none⟩ = some (.int .i64 0) := R13.c 0 (of_decide_eq_true rfl)
            have gR_0 := R13.f 0 (of_decide_eq_true rfl)
            have cR_1 : W13.cell? ⟨w.heap.size + 1, 1, none⟩ = some (.int .i64 0) := R13.c 1 (of_decide_eq_true rfl)
            have gR_1 := R13.f 1 (of_decide_eq_true rfl)
            have cR_2 : W13.cell? ⟨w.heap.size + 1, 2, none⟩ = some (.int .i64 0) := R13.c 2 (of_decide_eq_true rfl)
            have gR_2 := R13.f 2 (of_decide_eq_true rfl)
            have cR_3 : W13.cell? ⟨w.heap.size + 1, 3, none⟩ = some (.int .i64 0) := R13.c 3 (of_decide_eq_true rfl)
            have gR_3 := R13.f 3 (of_decide_eq_true rfl)
            have cR_4 : W13.cell? ⟨w.heap.size + 1, 4, none⟩ = some (.int .i64 0) := R13.c 4 (of_decide_eq_true rfl)
            have gR_4 := R13.f 4 (of_decide_eq_true rfl)
            have cr_0 : W13.cell? ⟨w.heap.size + 3, 0, none⟩ = some (.int .i64 2) := r13.c 0 (of_decide_eq_true rfl)
            have cr_1 : W13.cell? ⟨w.heap.size + 3, 1, none⟩ = some (.int .i64 t) := r13.c 1 (of_decide_eq_true rfl)
            go_wp2_with (with_reducible refine post_stop ?_)
            have d0 := Arr.c ((((((((R13.new (w.heap.size + 3) 2 (by omega) (.int .i64 u.1.1)).new (w.heap.size + 3) 3 (by omega) (.int .i64 u.1.2.1)).new (w.heap.size + 3) 4 (by omega) (.int .i64 u.1.2.2)).put 0 (of_decide_eq_true rfl) (.int .i64 2) [.int .i64 2, .int .i64 0, .int .i64 0, .int .i64 0, .int .i64 0] rfl).put 1 (of_decide_eq_true rfl) (.int .i64 t) [.int .i64 2, .int .i64 t, .int .i64 0, .int .i64 0, .int .i64 0] rfl).put 2 (of_decide_eq_true rfl) (.int .i64 u.1.1) [.int .i64 2, .int .i64 t, .int .i64 u.1.1, .int .i64 0, .int .i64 0] rfl).put 3 (of_decide_eq_true rfl) (.int .i64 u.1.2.1) [.int .i64 2, .int .i64 t, .int .i64 u.1.1, .int .i64 u.1.2.1, .int .i64 0] rfl).put 4 (of_decide_eq_true rfl) (.int .i64 u.1.2.2) [.int .i64 2, .int .i64 t, .int .i64 u.1.1, .int .i64 u.1.2.1, .int .i64 u.1.2.2] rfl) 0 (of_decide_eq_true rfl)
            have d1 := Arr.c ((((((((R13.new (w.heap.size + 3) 2 (by omega) (.int .i64 u.1.1)).new (w.heap.size + 3) 3 (by omega) (.int .i64 u.1.2.1)).new (w.heap.size + 3) 4 (by omega) (.int .i64 u.1.2.2)).put 0 (of_decide_eq_true rfl) (.int .i64 2) [.int .i64 2, .int .i64 0, .int .i64 0, .int .i64 0, .int .i64 0] rfl).put 1 (of_decide_eq_true rfl) (.int .i64 t) [.int .i64 2, .int .i64 t, .int .i64 0, .int .i64 0, .int .i64 0] rfl).put 2 (of_decide_eq_true rfl) (.int .i64 u.1.1) [.int .i64 2, .int .i64 t, .int .i64 u.1.1, .int .i64 0, .int .i64 0] rfl).put 3 (of_decide_eq_true rfl) (.int .i64 u.1.2.1) [.int .i64 2, .int .i64 t, .int .i64 u.1.1, .int .i64 u.1.2.1, .int .i64 0] rfl).put 4 (of_decide_eq_true rfl) (.int .i64 u.1.2.2) [.int .i64 2, .int .i64 t, .int .i64 u.1.1, .int .i64 u.1.2.1, .int .i64 u.1.2.2] rfl) 1 (of_decide_eq_true rfl)
            have d2 := Arr.c ((((((((R13.new (w.heap.size + 3) 2 (by omega) (.int .i64 u.1.1)).new (w.heap.size + 3) 3 (by omega) (.int .i64 u.1.2.1)).new (w.heap.size + 3) 4 (by omega) (.int .i64 u.1.2.2)).put 0 (of_decide_eq_true rfl) (.int .i64 2) [.int .i64 2, .int .i64 0, .int .i64 0, .int .i64 0, .int .i64 0] rfl).put 1 (of_decide_eq_true rfl) (.int .i64 t) [.int .i64 2, .int .i64 t, .int .i64 0, .int .i64 0, .int .i64 0] rfl).put 2 (of_decide_eq_true rfl) (.int .i64 u.1.1) [.int .i64 2, .int .i64 t, .int .i64 u.1.1, .int .i64 0, .int .i64 0] rfl).put 3 (of_decide_eq_true rfl) (.int .i64 u.1.2.1) [.int .i64 2, .int .i64 t, .int .i64 u.1.1, .int .i64 u.1.2.1, .int .i64 0] rfl).put 4 (of_decide_eq_true rfl) (.int .i64 u.1.2.2) [.int .i64 2, .int .i64 t, .int .i64 u.1.1, .int .i64 u.1.2.1, .int .i64 u.1.2.2] rfl) 2 (of_decide_eq_true rfl)
            have d3 := Arr.c ((((((((R13.new (w.heap.size + 3) 2 (by omega) (.int .i64 u.1.1)).new (w.heap.size + 3) 3 (by omega) (.int .i64 u.1.2.1)).new (w.heap.size + 3) 4 (by omega) (.int .i64 u.1.2.2)).put 0 (of_decide_eq_true rfl) (.int .i64 2) [.int .i64 2, .int .i64 0, .int .i64 0, .int .i64 0, .int .i64 0] rfl).put 1 (of_decide_eq_true rfl) (.int .i64 t) [.int .i64 2, .int .i64 t, .int .i64 0, .int .i64 0, .int .i64 0] rfl).put 2 (of_decide_eq_true rfl) (.int .i64 u.1.1) [.int .i64 2, .int .i64 t, .int .i64 u.1.1, .int .i64 0, .int .i64 0] rfl).put 3 (of_decide_eq_true rfl) (.int .i64 u.1.2.1) [.int .i64 2, .int .i64 t, .int .i64 u.1.1, .int .i64 u.1.2.1, .int .i64 0] rfl).put 4 (of_decide_eq_true rfl) (.int .i64 u.1.2.2) [.int .i64 2, .int .i64 t, .int .i64 u.1.1, .int .i64 u.1.2.1, .int .i64 u.1.2.2] rfl) 3 (of_decide_eq_true rfl)
            have d4 := Arr.c ((((((((R13.new (w.heap.size + 3) 2 (by omega) (.int .i64 u.1.1)).new (w.heap.size + 3) 3 (by omega) (.int .i64 u.1.2.1)).new (w.heap.size + 3) 4 (by omega) (.int .i64 u.1.2.2)).put 0 (of_decide_eq_true rfl) (.int .i64 2) [.int .i64 2, .int .i64 0, .int .i64 0, .int .i64 0, .int .i64 0] rfl).put 1 (of_decide_eq_true rfl) (.int .i64 t) [.int .i64 2, .int .i64 t, .int .i64 0, .int .i64 0, .int .i64 0] rfl).put 2 (of_decide_eq_true rfl) (.int .i64 u.1.1) [.int .i64 2, .int .i64 t, .int .i64 u.1.1, .int .i64 0, .int .i64 0] rfl).put 3 (of_decide_eq_true rfl) (.int .i64 u.1.2.1) [.int .i64 2, .int .i64 t, .int .i64 u.1.1, .int .i64 u.1.2.1, .int .i64 0] rfl).put 4 (of_decide_eq_true rfl) (.int .i64 u.1.2.2) [.int .i64 2, .int .i64 t, .int .i64 u.1.1, .int .i64 u.1.2.1, .int .i64 u.1.2.2] rfl) 4 (of_decide_eq_true rfl)
            simp only [List.getElem_cons_zero, List.getElem_cons_succ] at d0 d1 d2 d3 d4
            exact ⟨bodyPost_ret (v := .tuple #[.agg #[.int .i64 2, .int .i64 t, .int .i64 u.1.1, .int .i64 u.1.2.1, .int .i64 u.1.2.2], .bool true]) (by simp [results_cell_tmp Try.results10, asAddr, go_sem, d0, d1, d2, d3, d4]) rfl ⟨by rw [HR.out, HP.out, HK.out, HV.out]; unfold sunOk; rw [Hl.out, Eu.out, Hu.out]; rfl, (bel_new (bel_new (bel_new (bel_new (bel_new (bel_new (bel_new (bel_new L13 _ _ (by omega) _) _ _ (by omega) _) _ _ (by omega) _) _ _ (by omega) _) _ _ (by omega) _) _ _ (by omega) _) _ _ (by omega) _) _ _ (by omega) _)⟩⟩
          · have Hu : Hid (u.2 = true) := hu
            rw [hu] at cF
            clear hu
            have cR_0 : W13.cell? ⟨w.heap.size + 1, 0, none⟩ = some (.int .i64 0) := R13.c 0 (of_decide_eq_true rfl)
            have gR_0 := R13.f 0 (of_decide_eq_true rfl)
            have cR_1 : W13.cell? ⟨w.heap.size + 1, 1, none⟩ = some (.int .i64 0) := R13.c 1 (of_decide_eq_true rfl)
            have gR_1 := R13.f 1 (of_decide_eq_true rfl)
            have cR_2 : W13.cell? ⟨w.heap.size + 1, 2, none⟩ = some (.int .i64 0) := R13.c 2 (of_decide_eq_true rfl)
            have gR_2 := R13.f 2 (of_decide_eq_true rfl)
            have cR_3 : W13.cell? ⟨w.heap.size + 1, 3, none⟩ = some (.int .i64 0) := R13.c 3 (of_decide_eq_true rfl)
            have gR_3 := R13.f 3 (of_decide_eq_true rfl)
            have cR_4 : W13.cell? ⟨w.heap.size + 1, 4, none⟩ = some (.int .i64 0) := R13.c 4 (of_decide_eq_true rfl)
            have gR_4 := R13.f 4 (of_decide_eq_true rfl)
            have cN_0 : W13.cell? ⟨w.heap.size + 2, 0, none⟩ = some (.int .i64 0) := N13.c 0 (of_decide_eq_true rfl)
            have cN_1 : W13.cell? ⟨w.heap.size + 2, 1, none⟩ = some (.int .i64 0) := N13.c 1 (of_decide_eq_true rfl)
            have cN_2 : W13.cell? ⟨w.heap.size + 2, 2, none⟩ = some (.int .i64 0) := N13.c 2 (of_decide_eq_true rfl)
            have cN_3 : W13.cell? ⟨w.heap.size + 2, 3, none⟩ = some (.int .i64 0) := N13.c 3 (of_decide_eq_true rfl)
            have cN_4 : W13.cell? ⟨w.heap.size + 2, 4, none⟩ = some (.int .i64 0) := N13.c 4 (of_decide_eq_true rfl)
            go_wp2_with (with_reducible refine post_stop ?_)
            have d0 := Arr.c ((((((((R13.new (w.heap.size + 3) 2 (by omega) (.int .i64 u.1.1)).new (w.heap.size + 3) 3 (by omega) (.int .i64 u.1.2.1)).new (w.heap.size + 3) 4 (by omega) (.int .i64 u.1.2.2)).put 0 (of_decide_eq_true rfl) (.int .i64 0) [.int .i64 0, .int .i64 0, .int .i64 0, .int .i64 0, .int .i64 0] rfl).put 1 (of_decide_eq_true rfl) (.int .i64 0) [.int .i64 0, .int .i64 0, .int .i64 0, .int .i64 0, .int .i64 0] rfl).put 2 (of_decide_eq_true rfl) (.int .i64 0) [.int .i64 0, .int .i64 0, .int .i64 0, .int .i64 0, .int .i64 0] rfl).put 3 (of_decide_eq_true rfl) (.int .i64 0) [.int .i64 0, .int .i64 0, .int .i64 0, .int .i64 0, .int .i64 0] rfl).put 4 (of_decide_eq_true rfl) (.int .i64 0) [.int .i64 0, .int .i64 0, .int .i64 0, .int .i64 0, .int .i64 0] rfl) 0 (of_decide_eq_true rfl)
            have d1 := Arr.c ((((((((R13.new (w.heap.size + 3) 2 (by omega) (.int .i64 u.1.1)).new (w.heap.size + 3) 3 (by omega) (.int .i64 u.1.2.1)).new (w.heap.size + 3) 4 (by omega) (.int .i64 u.1.2.2)).put 0 (of_decide_eq_true rfl) (.int .i64 0) [.int .i64 0, .int .i64 0, .int .i64 0, .int .i64 0, .int .i64 0] rfl).put 1 (of_decide_eq_true rfl) (.int .i64 0) [.int .i64 0, .int .i64 0, .int .i64 0, .int .i64 0, .int .i64 0] rfl).put 2 (of_decide_eq_true rfl) (.int .i64 0) [.int .i64 0, .int .i64 0, .int .i64 0, .int .i64 0, .int .i64 0] rfl).put 3 (of_decide_eq_true rfl) (.int .i64 0) [.int .i64 0, .int .i64 0, .int .i64 0, .int .i64 0, .int .i64 0] rfl).put 4 (of_decide_eq_true rfl) (.int .i64 0) [.int .i64 0, .int .i64 0, .int .i64 0, .int .i64 0, .int .i64 0] rfl) 1 (of_decide_eq_true rfl)
            have d2 := Arr.c ((((((((R13.new (w.heap.size + 3) 2 (by omega) (.int .i64 u.1.1)).new (w.heap.size + 3) 3 (by omega) (.int .i64 u.1.2.1)).new (w.heap.size + 3) 4 (by omega) (.int .i64 u.1.2.2)).put 0 (of_decide_eq_true rfl) (.int .i64 0) [.int .i64 0, .int .i64 0, .int .i64 0, .int .i64 0, .int .i64 0] rfl).put 1 (of_decide_eq_true rfl) (.int .i64 0) [.int .i64 0, .int .i64 0, .int .i64 0, .int .i64 0, .int .i64 0] rfl).put 2 (of_decide_eq_true rfl) (.int .i64 0) [.int .i64 0, .int .i64 0, .int .i64 0, .int .i64 0, .int .i64 0] rfl).put 3 (of_decide_eq_true rfl) (.int .i64 0) [.int .i64 0, .int .i64 0, .int .i64 0, .int .i64 0, .int .i64 0] rfl).put 4 (of_decide_eq_true rfl) (.int .i64 0) [.int .i64 0, .int .i64 0, .int .i64 0, .int .i64 0, .int .i64 0] rfl) 2 (of_decide_eq_true rfl)
            have d3 := Arr.c ((((((((R13.new (w.heap.size + 3) 2 (by omega) (.int .i64 u.1.1)).new (w.heap.size + 3) 3 (by omega) (.int .i64 u.1.2.1)).new (w.heap.size + 3) 4 (by omega) (.int .i64 u.1.2.2)).put 0 (of_decide_eq_true rfl) (.int .i64 0) [.int .i64 0, .int .i64 0, .int .i64 0, .int .i64 0, .int .i64 0] rfl).put 1 (of_decide_eq_true rfl) (.int .i64 0) [.int .i64 0, .int .i64 0, .int .i64 0, .int .i64 0, .int .i64 0] rfl).put 2 (of_decide_eq_true rfl) (.int .i64 0) [.int .i64 0, .int .i64 0, .int .i64 0, .int .i64 0, .int .i64 0] rfl).put 3 (of_decide_eq_true rfl) (.int .i64 0) [.int .i64 0, .int .i64 0, .int .i64 0, .int .i64 0, .int .i64 0] rfl).put 4 (of_decide_eq_true rfl) (.int .i64 0) [.int .i64 0, .int .i64 0, .int .i64 0, .int .i64 0, .int .i64 0] rfl) 3 (of_decide_eq_true rfl)
            have d4 := Arr.c ((((((((R13.new (w.heap.size + 3) 2 (by omega) (.int .i64 u.1.1)).new (w.heap.size + 3) 3 (by omega) (.int .i64 u.1.2.1)).new (w.heap.size + 3) 4 (by omega) (.int .i64 u.1.2.2)).put 0 (of_decide_eq_true rfl) (.int .i64 0) [.int .i64 0, .int .i64 0, .int .i64 0, .int .i64 0, .int .i64 0] rfl).put 1 (of_decide_eq_true rfl) (.int .i64 0) [.int .i64 0, .int .i64 0, .int .i64 0, .int .i64 0, .int .i64 0] rfl).put 2 (of_decide_eq_true rfl) (.int .i64 0) [.int .i64 0, .int .i64 0, .int .i64 0, .int .i64 0, .int .i64 0] rfl).put 3 (of_decide_eq_true rfl) (.int .i64 0) [.int .i64 0, .int .i64 0, .int .i64 0, .int .i64 0, .int .i64 0] rfl).put 4 (of_decide_eq_true rfl) (.int .i64 0) [.int .i64 0, .int .i64 0, .int .i64 0, .int .i64 0, .int .i64 0] rfl) 4 (of_decide_eq_true rfl)
            simp only [List.getElem_cons_zero, List.getElem_cons_succ] at d0 d1 d2 d3 d4
            exact ⟨bodyPost_ret (v := .tuple #[.agg #[.int .i64 0, .int .i64 0, .int .i64 0, .int .i64 0, .int .i64 0], .bool false]) (by simp [results_cell_tmp Try.results10, asAddr, go_sem, d0, d1, d2, d3, d4]) rfl ⟨by rw [HR.out, HP.out, HK.out]; unfold sunOk; rw [Hl.out, Eu.out, Hu.out]; rfl, (bel_new (bel_new (bel_new (bel_new (bel_new (bel_new (bel_new (bel_new L13 _ _ (by omega) _) _ _ (by omega) _) _ _ (by omega) _) _ _ (by omega) _) _ _ (by omega) _) _ _ (by omega) _) _ _ (by omega) _) _ _ (by omega) _)⟩⟩
        by_cases xb : 2000 ≤ b
        · have Hl : Hid (lit a b c d g f = true) := by show _ = _; unfold lit; simp; omega
          rw [rounds_succ]
          have cB_1 : W3.cell? ⟨w.heap.size, 1, none⟩ = some (.string s) := B3.c 1 (of_decide_eq_true rfl)
          go_wp2_with fail
          refine (h0 _).mono ?_
          rintro e W4 ⟨rfl, k⟩
          have L4 := bel_then L3 k
          have B4 := B3.below k
          have R4 := R3.below k
          have N4 := N3.below k
          have r4 := r3.below k
          have F4 := F3.below k
          have Bz4 := B4.lies
          have Rz4 := R4.lies
          have Nz4 := N4.lies
          have rz4 := r4.lies
          have Fz4 := F4.lies
          clear k
          clear L3 B3 R3 N3 r3 F3 Bz3 Rz3 Nz3 rz3 Fz3
          clear cB_1
          have cB_1 : W4.cell? ⟨w.heap.size, 1, none⟩ = some (.string s) := B4.c 1 (of_decide_eq_true rfl)
          go_wp2_with fail
          refine (h1 _).mono ?_
          rintro e W5 ⟨rfl, k⟩
          have L5 := bel_then L4 k
          have B5 := B4.below k
          have R5 := R4.below k
          have N5 := N4.below k
          have r5 := r4.below k
          have F5 := F4.below k
          have Bz5 := B5.lies
          have Rz5 := R5.lies
          have Nz5 := N5.lies
          have rz5 := r5.lies
          have Fz5 := F5.lies
          clear k
          clear L4 B4 R4 N4 r4 F4 Bz4 Rz4 Nz4 rz4 Fz4
          clear cB_1
          have cr_2 : W5.cell? ⟨w.heap.size + 3, 2, none⟩ = some (.int .i64 0) := r5.c 2 (of_decide_eq_true rfl)
          have gr_2 := r5.f 2 (of_decide_eq_true rfl)
          go_wp2_with fail
          clear cr_2 gr_2
          refine rounds_letter (S := fun W => Below w.heap.size w W ∧ Arr (w.heap.size) [.int .i64 2, .string s] W ∧ Arr (w.heap.size + 1) [.int .i64 0, .int .i64 0, .int .i64 0, .int .i64 0, .int .i64 0] W ∧ Arr (w.heap.size + 2) [.int .i64 0, .int .i64 0, .int .i64 0, .int .i64 0, .int .i64 0] W ∧ Arr (w.heap.size + 3) [.int .i64 2, .int .i64 t, .int .i64 ((a - b) * 16777216), .int .i64 0, .int .i64 0] W ∧ Fl (q) false W) ⟨bel_new (L5) _ _ (by omega) _, Arr.new (B5) _ _ (by omega) _, Arr.new (R5) _ _ (by omega) _, Arr.new (N5) _ _ (by omega) _, Arr.put (r5) 2 (of_decide_eq_true rfl) (.int .i64 ((a - b) * 16777216)) [.int .i64 2, .int .i64 t, .int .i64 ((a - b) * 16777216), .int .i64 0, .int .i64 0] rfl, Fl.new (F5) _ _ (by omega) _⟩ ?_
          rintro W6 ⟨L6, B6, R6, N6, r6, F6⟩
          have Bz6 := B6.lies
          have Rz6 := R6.lies
          have Nz6 := N6.lies
          have rz6 := r6.lies
          have Fz6 := F6.lies
          clear L5 B5 R5 N5 r5 F5 Bz5 Rz5 Nz5 rz5 Fz5
          rw [rounds_succ]
          have cB_1 : W6.cell? ⟨w.heap.size, 1, none⟩ = some (.string s) := B6.c 1 (of_decide_eq_true rfl)
          go_wp2_with fail
          refine (h2 _).mono ?_
          rintro e W7 ⟨rfl, k⟩
          have L7 := bel_then L6 k
          have B7 := B6.below k
          have R7 := R6.below k
          have N7 := N6.below k
          have r7 := r6.below k
          have F7 := F6.below k
          have Bz7 := B7.lies
          have Rz7 := R7.lies
          have Nz7 := N7.lies
          have rz7 := r7.lies
          have Fz7 := F7.lies
          clear k
          clear L6 B6 R6 N6 r6 F6 Bz6 Rz6 Nz6 rz6 Fz6
          clear cB_1
          have cB_1 : W7.cell? ⟨w.heap.size, 1, none⟩ = some (.string s) := B7.c 1 (of_decide_eq_true rfl)
          go_wp2_with fail
          refine (h3 _).mono ?_
          rintro e W8 ⟨rfl, k⟩
          have L8 := bel_then L7 k
          have B8 := B7.below k
          have R8 := R7.below k
          have N8 := N7.below k
          have r8 := r7.below k
          have F8 := F7.below k
          have Bz8 := B8.lies
          have Rz8 := R8.lies
          have Nz8 := N8.lies
          have rz8 := r8.lies
          have Fz8 := F8.lies
          clear k
          clear L7 B7 R7 N7 r7 F7 Bz7 Rz7 Nz7 rz7 Fz7
          clear cB_1
          have cr_3 : W8.cell? ⟨w.heap.size + 3, 3, none⟩ = some (.int .i64 0) := r8.c 3 (of_decide_eq_true rfl)
          have gr_3 := r8.f 3 (of_decide_eq_true rfl)
          go_wp2_with fail
          clear cr_3 gr_3
          refine rounds_letter (S := fun W => Below w.heap.size w W ∧ Arr (w.heap.size) [.int .i64 2, .string s] W ∧ Arr (w.heap.size + 1) [.int .i64 0, .int .i64 0, .int .i64 0, .int .i64 0, .int .i64 0] W ∧ Arr (w.heap.size + 2) [.int .i64 0, .int .i64 0, .int .i64 0, .int .i64 0, .int .i64 0] W ∧ Arr (w.heap.size + 3) [.int .i64 2, .int .i64 t, .int .i64 ((a - b) * 16777216), .int .i64 ((c - d) * 16777216), .int .i64 0] W ∧ Fl (q) false W) ⟨bel_new (L8) _ _ (by omega) _, Arr.new (B8) _ _ (by omega) _, Arr.new (R8) _ _ (by omega) _, Arr.new (N8) _ _ (by omega) _, Arr.put (r8) 3 (of_decide_eq_true rfl) (.int .i64 ((c - d) * 16777216)) [.int .i64 2, .int .i64 t, .int .i64 ((a - b) * 16777216), .int .i64 ((c - d) * 16777216), .int .i64 0] rfl, Fl.new (F8) _ _ (by omega) _⟩ ?_
          rintro W9 ⟨L9, B9, R9, N9, r9, F9⟩
          have Bz9 := B9.lies
          have Rz9 := R9.lies
          have Nz9 := N9.lies
          have rz9 := r9.lies
          have Fz9 := F9.lies
          clear L8 B8 R8 N8 r8 F8 Bz8 Rz8 Nz8 rz8 Fz8
          rw [rounds_succ]
          have cB_1 : W9.cell? ⟨w.heap.size, 1, none⟩ = some (.string s) := B9.c 1 (of_decide_eq_true rfl)
          go_wp2_with fail
          refine (h4 _).mono ?_
          rintro e W10 ⟨rfl, k⟩
          have L10 := bel_then L9 k
          have B10 := B9.below k
          have R10 := R9.below k
          have N10 := N9.below k
          have r10 := r9.below k
          have F10 := F9.below k
          have Bz10 := B10.lies
          have Rz10 := R10.lies
          have Nz10 := N10.lies
          have rz10 := r10.lies
          have Fz10 := F10.lies
          clear k
          clear L9 B9 R9 N9 r9 F9 Bz9 Rz9 Nz9 rz9 Fz9
          clear cB_1
          have cB_1 : W10.cell? ⟨w.heap.size, 1, none⟩ = some (.string s) := B10.c 1 (of_decide_eq_true rfl)
          go_wp2_with fail
          refine (h5 _).mono ?_
          rintro e W11 ⟨rfl, k⟩
          have L11 := bel_then L10 k
          have B11 := B10.below k
          have R11 := R10.below k
          have N11 := N10.below k
          have r11 := r10.below k
          have F11 := F10.below k
          have Bz11 := B11.lies
          have Rz11 := R11.lies
          have Nz11 := N11.lies
          have rz11 := r11.lies
          have Fz11 := F11.lies
          clear k
          clear L10 B10 R10 N10 r10 F10 Bz10 Rz10 Nz10 rz10 Fz10
          clear cB_1
          have cr_4 : W11.cell? ⟨w.heap.size + 3, 4, none⟩ = some (.int .i64 0) := r11.c 4 (of_decide_eq_true rfl)
          have gr_4 := r11.f 4 (of_decide_eq_true rfl)
          go_wp2_with fail
          clear cr_4 gr_4
          refine rounds_letter (S := fun W => Below w.heap.size w W ∧ Arr (w.heap.size) [.int .i64 2, .string s] W ∧ Arr (w.heap.size + 1) [.int .i64 0, .int .i64 0, .int .i64 0, .int .i64 0, .int .i64 0] W ∧ Arr (w.heap.size + 2) [.int .i64 0, .int .i64 0, .int .i64 0, .int .i64 0, .int .i64 0] W ∧ Arr (w.heap.size + 3) [.int .i64 2, .int .i64 t, .int .i64 ((a - b) * 16777216), .int .i64 ((c - d) * 16777216), .int .i64 ((g - f) * 16777216)] W ∧ Fl (q) false W) ⟨bel_new (L11) _ _ (by omega) _, Arr.new (B11) _ _ (by omega) _, Arr.new (R11) _ _ (by omega) _, Arr.new (N11) _ _ (by omega) _, Arr.put (r11) 4 (of_decide_eq_true rfl) (.int .i64 ((g - f) * 16777216)) [.int .i64 2, .int .i64 t, .int .i64 ((a - b) * 16777216), .int .i64 ((c - d) * 16777216), .int .i64 ((g - f) * 16777216)] rfl, Fl.new (F11) _ _ (by omega) _⟩ ?_
          rintro W12 ⟨L12, B12, R12, N12, r12, F12⟩
          have Bz12 := B12.lies
          have Rz12 := R12.lies
          have Nz12 := N12.lies
          have rz12 := r12.lies
          have Fz12 := F12.lies
          clear L11 B11 R11 N11 r11 F11 Bz11 Rz11 Nz11 rz11 Fz11
          rw [rounds_succ]
          have cr_2 : W12.cell? ⟨w.heap.size + 3, 2, none⟩ = some (.int .i64 ((a - b) * 16777216)) := r12.c 2 (of_decide_eq_true rfl)
          have gr_2 := r12.f 2 (of_decide_eq_true rfl)
          have cr_3 : W12.cell? ⟨w.heap.size + 3, 3, none⟩ = some (.int .i64 ((c - d) * 16777216)) := r12.c 3 (of_decide_eq_true rfl)
          have gr_3 := r12.f 3 (of_decide_eq_true rfl)
          have cr_4 : W12.cell? ⟨w.heap.size + 3, 4, none⟩ = some (.int .i64 ((g - f) * 16777216)) := r12.c 4 (of_decide_eq_true rfl)
          have gr_4 := r12.f 4 (of_decide_eq_true rfl)
          go_wp2_with fail
          refine (xUnit_any q false ((a - b) * 16777216, (c - d) * 16777216, (g - f) * 16777216) _ F12).mono ?_
          rintro e W13 ⟨rfl, F13, k⟩
          have L13 := k.on L12 (by omega)
          have B13 := B12.kept k (by omega)
          have R13 := R12.kept k (by omega)
          have N13 := N12.kept k (by omega)
          have r13 := r12.kept k (by omega)
          have Bz13 := B13.lies
          have Rz13 := R13.lies
          have Nz13 := N13.lies
          have rz13 := r13.lies
          have Fz13 := F13.lies
          clear k
          clear L12 B12 R12 N12 r12 F12 Bz12 Rz12 Nz12 rz12 Fz12
          have Eu : Hid (sunS a b c d g f = vUnitS false ((a - b) * 16777216, (c - d) * 16777216, (g - f) * 16777216)) := rfl
          generalize vUnitS false ((a - b) * 16777216, (c - d) * 16777216, (g - f) * 16777216) = u at F13 Eu ⊢
          clear cr_2 gr_2 cr_3 gr_3 cr_4 gr_4
          have cr_2 : W13.cell? ⟨w.heap.size + 3, 2, none⟩ = some (.int .i64 ((a - b) * 16777216)) := r13.c 2 (of_decide_eq_true rfl)
          have gr_2 := r13.f 2 (of_decide_eq_true rfl)
          have cr_3 : W13.cell? ⟨w.heap.size + 3, 3, none⟩ = some (.int .i64 ((c - d) * 16777216)) := r13.c 3 (of_decide_eq_true rfl)
          have gr_3 := r13.f 3 (of_decide_eq_true rfl)
          have cr_4 : W13.cell? ⟨w.heap.size + 3, 4, none⟩ = some (.int .i64 ((g - f) * 16777216)) := r13.c 4 (of_decide_eq_true rfl)
          have gr_4 := r13.f 4 (of_decide_eq_true rfl)
          have cF := F13.cell
          cases hu : u.2
          · have Hu : Hid (u.2 = false) := hu
            rw [hu] at cF
            clear hu
            have cR_0 : W13.cell? ⟨w.heap.size + 1, 0, none⟩ = some (.int .i64 0) := R13.c 0 (of_decide_eq_true rfl)
            have gR_0 := R13.f 0 (of_decide_eq_true rfl)
            have cR_1 : W13.cell? ⟨w.heap.size + 1, 1, none⟩ = some (.int .i64 0) := R13.c 1 (of_decide_eq_true rfl)
            have gR_1 := R13.f 1 (of_decide_eq_true rfl)
            have cR_2 : W13.cell? ⟨w.heap.size + 1, 2, none⟩ = some (.int .i64 0) := R13.c 2 (of_decide_eq_true rfl)
            have gR_2 := R13.f 2 (of_decide_eq_true rfl)
            have cR_3 : W13.cell? ⟨w.heap.size + 1, 3, none⟩ = some (.int .i64 0) := R13.c 3 (of_decide_eq_true rfl)
            have gR_3 := R13.f 3 (of_decide_eq_true rfl)
            have cR_4 : W13.cell? ⟨w.heap.size + 1, 4, none⟩ = some (.int .i64 0) := R13.c 4 (of_decide_eq_true rfl)
            have gR_4 := R13.f 4 (of_decide_eq_true rfl)
            have cr_0 : W13.cell? ⟨w.heap.size + 3, 0, none⟩ = some (.int .i64 2) := r13.c 0 (of_decide_eq_true rfl)
            have cr_1 : W13.cell? ⟨w.heap.size + 3, 1, none⟩ = some (.int .i64 t) := r13.c 1 (of_decide_eq_true rfl)
            go_wp2_with (with_reducible refine post_stop ?_)
            have d0 := Arr.c ((((((((R13.new (w.heap.size + 3) 2 (by omega) (.int .i64 u.1.1)).new (w.heap.size + 3) 3 (by omega) (.int .i64 u.1.2.1)).new (w.heap.size + 3) 4 (by omega) (.int .i64 u.1.2.2)).put 0 (of_decide_eq_true rfl) (.int .i64 2) [.int .i64 2, .int .i64 0, .int .i64 0, .int .i64 0, .int .i64 0] rfl).put 1 (of_decide_eq_true rfl) (.int .i64 t) [.int .i64 2, .int .i64 t, .int .i64 0, .int .i64 0, .int .i64 0] rfl).put 2 (of_decide_eq_true rfl) (.int .i64 u.1.1) [.int .i64 2, .int .i64 t, .int .i64 u.1.1, .int .i64 0, .int .i64 0] rfl).put 3 (of_decide_eq_true rfl) (.int .i64 u.1.2.1) [.int .i64 2, .int .i64 t, .int .i64 u.1.1, .int .i64 u.1.2.1, .int .i64 0] rfl).put 4 (of_decide_eq_true rfl) (.int .i64 u.1.2.2) [.int .i64 2, .int .i64 t, .int .i64 u.1.1, .int .i64 u.1.2.1, .int .i64 u.1.2.2] rfl) 0 (of_decide_eq_true rfl)
            have d1 := Arr.c ((((((((R13.new (w.heap.size + 3) 2 (by omega) (.int .i64 u.1.1)).new (w.heap.size + 3) 3 (by omega) (.int .i64 u.1.2.1)).new (w.heap.size + 3) 4 (by omega) (.int .i64 u.1.2.2)).put 0 (of_decide_eq_true rfl) (.int .i64 2) [.int .i64 2, .int .i64 0, .int .i64 0, .int .i64 0, .int .i64 0] rfl).put 1 (of_decide_eq_true rfl) (.int .i64 t) [.int .i64 2, .int .i64 t, .int .i64 0, .int .i64 0, .int .i64 0] rfl).put 2 (of_decide_eq_true rfl) (.int .i64 u.1.1) [.int .i64 2, .int .i64 t, .int .i64 u.1.1, .int .i64 0, .int .i64 0] rfl).put 3 (of_decide_eq_true rfl) (.int .i64 u.1.2.1) [.int .i64 2, .int .i64 t, .int .i64 u.1.1, .int .i64 u.1.2.1, .int .i64 0] rfl).put 4 (of_decide_eq_true rfl) (.int .i64 u.1.2.2) [.int .i64 2, .int .i64 t, .int .i64 u.1.1, .int .i64 u.1.2.1, .int .i64 u.1.2.2] rfl) 1 (of_decide_eq_true rfl)
            have d2 := Arr.c ((((((((R13.new (w.heap.size + 3) 2 (by omega) (.int .i64 u.1.1)).new (w.heap.size + 3) 3 (by omega) (.int .i64 u.1.2.1)).new (w.heap.size + 3) 4 (by omega) (.int .i64 u.1.2.2)).put 0 (of_decide_eq_true rfl) (.int .i64 2) [.int .i64 2, .int .i64 0, .int .i64 0, .int .i64 0, .int .i64 0] rfl).put 1 (of_decide_eq_true rfl) (.int .i64 t) [.int .i64 2, .int .i64 t, .int .i64 0, .int .i64 0, .int .i64 0] rfl).put 2 (of_decide_eq_true rfl) (.int .i64 u.1.1) [.int .i64 2, .int .i64 t, .int .i64 u.1.1, .int .i64 0, .int .i64 0] rfl).put 3 (of_decide_eq_true rfl) (.int .i64 u.1.2.1) [.int .i64 2, .int .i64 t, .int .i64 u.1.1, .int .i64 u.1.2.1, .int .i64 0] rfl).put 4 (of_decide_eq_true rfl) (.int .i64 u.1.2.2) [.int .i64 2, .int .i64 t, .int .i64 u.1.1, .int .i64 u.1.2.1, .int .i64 u.1.2.2] rfl) 2 (of_decide_eq_true rfl)
            have d3 := Arr.c ((((((((R13.new (w.heap.size + 3) 2 (by omega) (.int .i64 u.1.1)).new (w.heap.size + 3) 3 (by omega) (.int .i64 u.1.2.1)).new (w.heap.size + 3) 4 (by omega) (.int .i64 u.1.2.2)).put 0 (of_decide_eq_true rfl) (.int .i64 2) [.int .i64 2, .int .i64 0, .int .i64 0, .int .i64 0, .int .i64 0] rfl).put 1 (of_decide_eq_true rfl) (.int .i64 t) [.int .i64 2, .int .i64 t, .int .i64 0, .int .i64 0, .int .i64 0] rfl).put 2 (of_decide_eq_true rfl) (.int .i64 u.1.1) [.int .i64 2, .int .i64 t, .int .i64 u.1.1, .int .i64 0, .int .i64 0] rfl).put 3 (of_decide_eq_true rfl) (.int .i64 u.1.2.1) [.int .i64 2, .int .i64 t, .int .i64 u.1.1, .int .i64 u.1.2.1, .int .i64 0] rfl).put 4 (of_decide_eq_true rfl) (.int .i64 u.1.2.2) [.int .i64 2, .int .i64 t, .int .i64 u.1.1, .int .i64 u.1.2.1, .int .i64 u.1.2.2] rfl) 3 (of_decide_eq_true rfl)
            have d4 := Arr.c ((((((((R13.new (w.heap.size + 3) 2 (by omega) (.int .i64 u.1.1)).new (w.heap.size + 3) 3 (by omega) (.int .i64 u.1.2.1)).new (w.heap.size + 3) 4 (by omega) (.int .i64 u.1.2.2)).put 0 (of_decide_eq_true rfl) (.int .i64 2) [.int .i64 2, .int .i64 0, .int .i64 0, .int .i64 0, .int .i64 0] rfl).put 1 (of_decide_eq_true rfl) (.int .i64 t) [.int .i64 2, .int .i64 t, .int .i64 0, .int .i64 0, .int .i64 0] rfl).put 2 (of_decide_eq_true rfl) (.int .i64 u.1.1) [.int .i64 2, .int .i64 t, .int .i64 u.1.1, .int .i64 0, .int .i64 0] rfl).put 3 (of_decide_eq_true rfl) (.int .i64 u.1.2.1) [.int .i64 2, .int .i64 t, .int .i64 u.1.1, .int .i64 u.1.2.1, .int .i64 0] rfl).put 4 (of_decide_eq_true rfl) (.int .i64 u.1.2.2) [.int .i64 2, .int .i64 t, .int .i64 u.1.1, .int .i64 u.1.2.1, .int .i64 u.1.2.2] rfl) 4 (of_decide_eq_true rfl)
            simp only [List.getElem_cons_zero, List.getElem_cons_succ] at d0 d1 d2 d3 d4
            exact ⟨bodyPost_ret (v := .tuple #[.agg #[.int .i64 2, .int .i64 t, .int .i64 u.1.1, .int .i64 u.1.2.1, .int .i64 u.1.2.2], .bool true]) (by simp [results_cell_tmp Try.results10, asAddr, go_sem, d0, d1, d2, d3, d4]) rfl ⟨by rw [HR.out, HP.out, HK.out, HV.out]; unfold sunOk; rw [Hl.out, Eu.out, Hu.out]; rfl, (bel_new (bel_new (bel_new (bel_new (bel_new (bel_new (bel_new (bel_new L13 _ _ (by omega) _) _ _ (by omega) _) _ _ (by omega) _) _ _ (by omega) _) _ _ (by omega) _) _ _ (by omega) _) _ _ (by omega) _) _ _ (by omega) _)⟩⟩
          · have Hu : Hid (u.2 = true) := hu
            rw [hu] at cF
            clear hu
            have cR_0 : W13.cell? ⟨w.heap.size + 1, 0, none⟩ = some (.int .i64 0) := R13.c 0 (of_decide_eq_true rfl)
            have gR_0 := R13.f 0 (of_decide_eq_true rfl)
            have cR_1 : W13.cell? ⟨w.heap.size + 1, 1, none⟩ = some (.int .i64 0) := R13.c 1 (of_decide_eq_true rfl)
            have gR_1 := R13.f 1 (of_decide_eq_true rfl)
            have cR_2 : W13.cell? ⟨w.heap.size + 1, 2, none⟩ = some (.int .i64 0) := R13.c 2 (of_decide_eq_true rfl)
            have gR_2 := R13.f 2 (of_decide_eq_true rfl)
            have cR_3 : W13.cell? ⟨w.heap.size + 1, 3, none⟩ = some (.int .i64 0) := R13.c 3 (of_decide_eq_true rfl)
            have gR_3 := R13.f 3 (of_decide_eq_true rfl)
            have cR_4 : W13.cell? ⟨w.heap.size + 1, 4, none⟩ = some (.int .i64 0) := R13.c 4 (of_decide_eq_true rfl)
            have gR_4 := R13.f 4 (of_decide_eq_true rfl)
            have cN_0 : W13.cell? ⟨w.heap.size + 2, 0, none⟩ = some (.int .i64 0) := N13.c 0 (of_decide_eq_true rfl)
            have cN_1 : W13.cell? ⟨w.heap.size + 2, 1, none⟩ = some (.int .i64 0) := N13.c 1 (of_decide_eq_true rfl)
            have cN_2 : W13.cell? ⟨w.heap.size + 2, 2, none⟩ = some (.int .i64 0) := N13.c 2 (of_decide_eq_true rfl)
            have cN_3 : W13.cell? ⟨w.heap.size + 2, 3, none⟩ = some (.int .i64 0) := N13.c 3 (of_decide_eq_true rfl)
            have cN_4 : W13.cell? ⟨w.heap.size + 2, 4, none⟩ = some (.int .i64 0) := N13.c 4 (of_decide_eq_true rfl)
            go_wp2_with (with_reducible refine post_stop ?_)
            have d0 := Arr.c ((((((((R13.new (w.heap.size + 3) 2 (by omega) (.int .i64 u.1.1)).new (w.heap.size + 3) 3 (by omega) (.int .i64 u.1.2.1)).new (w.heap.size + 3) 4 (by omega) (.int .i64 u.1.2.2)).put 0 (of_decide_eq_true rfl) (.int .i64 0) [.int .i64 0, .int .i64 0, .int .i64 0, .int .i64 0, .int .i64 0] rfl).put 1 (of_decide_eq_true rfl) (.int .i64 0) [.int .i64 0, .int .i64 0, .int .i64 0, .int .i64 0, .int .i64 0] rfl).put 2 (of_decide_eq_true rfl) (.int .i64 0) [.int .i64 0, .int .i64 0, .int .i64 0, .int .i64 0, .int .i64 0] rfl).put 3 (of_decide_eq_true rfl) (.int .i64 0) [.int .i64 0, .int .i64 0, .int .i64 0, .int .i64 0, .int .i64 0] rfl).put 4 (of_decide_eq_true rfl) (.int .i64 0) [.int .i64 0, .int .i64 0, .int .i64 0, .int .i64 0, .int .i64 0] rfl) 0 (of_decide_eq_true rfl)
            have d1 := Arr.c ((((((((R13.new (w.heap.size + 3) 2 (by omega) (.int .i64 u.1.1)).new (w.heap.size + 3) 3 (by omega) (.int .i64 u.1.2.1)).new (w.heap.size + 3) 4 (by omega) (.int .i64 u.1.2.2)).put 0 (of_decide_eq_true rfl) (.int .i64 0) [.int .i64 0, .int .i64 0, .int .i64 0, .int .i64 0, .int .i64 0] rfl).put 1 (of_decide_eq_true rfl) (.int .i64 0) [.int .i64 0, .int .i64 0, .int .i64 0, .int .i64 0, .int .i64 0] rfl).put 2 (of_decide_eq_true rfl) (.int .i64 0) [.int .i64 0, .int .i64 0, .int .i64 0, .int .i64 0, .int .i64 0] rfl).put 3 (of_decide_eq_true rfl) (.int .i64 0) [.int .i64 0, .int .i64 0, .int .i64 0, .int .i64 0, .int .i64 0] rfl).put 4 (of_decide_eq_true rfl) (.int .i64 0) [.int .i64 0, .int .i64 0, .int .i64 0, .int .i64 0, .int .i64 0] rfl) 1 (of_decide_eq_true rfl)
            have d2 := Arr.c ((((((((R13.new (w.heap.size + 3) 2 (by omega) (.int .i64 u.1.1)).new (w.heap.size + 3) 3 (by omega) (.int .i64 u.1.2.1)).new (w.heap.size + 3) 4 (by omega) (.int .i64 u.1.2.2)).put 0 (of_decide_eq_true rfl) (.int .i64 0) [.int .i64 0, .int .i64 0, .int .i64 0, .int .i64 0, .int .i64 0] rfl).put 1 (of_decide_eq_true rfl) (.int .i64 0) [.int .i64 0, .int .i64 0, .int .i64 0, .int .i64 0, .int .i64 0] rfl).put 2 (of_decide_eq_true rfl) (.int .i64 0) [.int .i64 0, .int .i64 0, .int .i64 0, .int .i64 0, .int .i64 0] rfl).put 3 (of_decide_eq_true rfl) (.int .i64 0) [.int .i64 0, .int .i64 0, .int .i64 0, .int .i64 0, .int .i64 0] rfl).put 4 (of_decide_eq_true rfl) (.int .i64 0) [.int .i64 0, .int .i64 0, .int .i64 0, .int .i64 0, .int .i64 0] rfl) 2 (of_decide_eq_true rfl)
            have d3 := Arr.c ((((((((R13.new (w.heap.size + 3) 2 (by omega) (.int .i64 u.1.1)).new (w.heap.size + 3) 3 (by omega) (.int .i64 u.1.2.1)).new (w.heap.size + 3) 4 (by omega) (.int .i64 u.1.2.2)).put 0 (of_decide_eq_true rfl) (.int .i64 0) [.int .i64 0, .int .i64 0, .int .i64 0, .int .i64 0, .int .i64 0] rfl).put 1 (of_decide_eq_true rfl) (.int .i64 0) [.int .i64 0, .int .i64 0, .int .i64 0, .int .i64 0, .int .i64 0] rfl).put 2 (of_decide_eq_true rfl) (.int .i64 0) [.int .i64 0, .int .i64 0, .int .i64 0, .int .i64 0, .int .i64 0] rfl).put 3 (of_decide_eq_true rfl) (.int .i64 0) [.int .i64 0, .int .i64 0, .int .i64 0, .int .i64 0, .int .i64 0] rfl).put 4 (of_decide_eq_true rfl) (.int .i64 0) [.int .i64 0, .int .i64 0, .int .i64 0, .int .i64 0, .int .i64 0] rfl) 3 (of_decide_eq_true rfl)
            have d4 := Arr.c ((((((((R13.new (w.heap.size + 3) 2 (by omega) (.int .i64 u.1.1)).new (w.heap.size + 3) 3 (by omega) (.int .i64 u.1.2.1)).new (w.heap.size + 3) 4 (by omega) (.int .i64 u.1.2.2)).put 0 (of_decide_eq_true rfl) (.int .i64 0) [.int .i64 0, .int .i64 0, .int .i64 0, .int .i64 0, .int .i64 0] rfl).put 1 (of_decide_eq_true rfl) (.int .i64 0) [.int .i64 0, .int .i64 0, .int .i64 0, .int .i64 0, .int .i64 0] rfl).put 2 (of_decide_eq_true rfl) (.int .i64 0) [.int .i64 0, .int .i64 0, .int .i64 0, .int .i64 0, .int .i64 0] rfl).put 3 (of_decide_eq_true rfl) (.int .i64 0) [.int .i64 0, .int .i64 0, .int .i64 0, .int .i64 0, .int .i64 0] rfl).put 4 (of_decide_eq_true rfl) (.int .i64 0) [.int .i64 0, .int .i64 0, .int .i64 0, .int .i64 0, .int .i64 0] rfl) 4 (of_decide_eq_true rfl)
            simp only [List.getElem_cons_zero, List.getElem_cons_succ] at d0 d1 d2 d3 d4
            exact ⟨bodyPost_ret (v := .tuple #[.agg #[.int .i64 0, .int .i64 0, .int .i64 0, .int .i64 0, .int .i64 0], .bool false]) (by simp [results_cell_tmp Try.results10, asAddr, go_sem, d0, d1, d2, d3, d4]) rfl ⟨by rw [HR.out, HP.out, HK.out]; unfold sunOk; rw [Hl.out, Eu.out, Hu.out]; rfl, (bel_new (bel_new (bel_new (bel_new (bel_new (bel_new (bel_new (bel_new L13 _ _ (by omega) _) _ _ (by omega) _) _ _ (by omega) _) _ _ (by omega) _) _ _ (by omega) _) _ _ (by omega) _) _ _ (by omega) _) _ _ (by omega) _)⟩⟩
        by_cases xc : 2000 ≤ c
        · have Hl : Hid (lit a b c d g f = true) := by show _ = _; unfold lit; simp; omega
          rw [rounds_succ]
          have cB_1 : W3.cell? ⟨w.heap.size, 1, none⟩ = some (.string s) := B3.c 1 (of_decide_eq_true rfl)
          go_wp2_with fail
          refine (h0 _).mono ?_
          rintro e W4 ⟨rfl, k⟩
          have L4 := bel_then L3 k
          have B4 := B3.below k
          have R4 := R3.below k
          have N4 := N3.below k
          have r4 := r3.below k
          have F4 := F3.below k
          have Bz4 := B4.lies
          have Rz4 := R4.lies
          have Nz4 := N4.lies
          have rz4 := r4.lies
          have Fz4 := F4.lies
          clear k
          clear L3 B3 R3 N3 r3 F3 Bz3 Rz3 Nz3 rz3 Fz3
          clear cB_1
          have cB_1 : W4.cell? ⟨w.heap.size, 1, none⟩ = some (.string s) := B4.c 1 (of_decide_eq_true rfl)
          go_wp2_with fail
          refine (h1 _).mono ?_
          rintro e W5 ⟨rfl, k⟩
          have L5 := bel_then L4 k
          have B5 := B4.below k
          have R5 := R4.below k
          have N5 := N4.below k
          have r5 := r4.below k
          have F5 := F4.below k
          have Bz5 := B5.lies
          have Rz5 := R5.lies
          have Nz5 := N5.lies
          have rz5 := r5.lies
          have Fz5 := F5.lies
          clear k
          clear L4 B4 R4 N4 r4 F4 Bz4 Rz4 Nz4 rz4 Fz4
          clear cB_1
          have cr_2 : W5.cell? ⟨w.heap.size + 3, 2, none⟩ = some (.int .i64 0) := r5.c 2 (of_decide_eq_true rfl)
          have gr_2 := r5.f 2 (of_decide_eq_true rfl)
          go_wp2_with fail
          clear cr_2 gr_2
          refine rounds_letter (S := fun W => Below w.heap.size w W ∧ Arr (w.heap.size) [.int .i64 2, .string s] W ∧ Arr (w.heap.size + 1) [.int .i64 0, .int .i64 0, .int .i64 0, .int .i64 0, .int .i64 0] W ∧ Arr (w.heap.size + 2) [.int .i64 0, .int .i64 0, .int .i64 0, .int .i64 0, .int .i64 0] W ∧ Arr (w.heap.size + 3) [.int .i64 2, .int .i64 t, .int .i64 ((a - b) * 16777216), .int .i64 0, .int .i64 0] W ∧ Fl (q) false W) ⟨bel_new (L5) _ _ (by omega) _, Arr.new (B5) _ _ (by omega) _, Arr.new (R5) _ _ (by omega) _, Arr.new (N5) _ _ (by omega) _, Arr.put (r5) 2 (of_decide_eq_true rfl) (.int .i64 ((a - b) * 16777216)) [.int .i64 2, .int .i64 t, .int .i64 ((a - b) * 16777216), .int .i64 0, .int .i64 0] rfl, Fl.new (F5) _ _ (by omega) _⟩ ?_
          rintro W6 ⟨L6, B6, R6, N6, r6, F6⟩
          have Bz6 := B6.lies
          have Rz6 := R6.lies
          have Nz6 := N6.lies
          have rz6 := r6.lies
          have Fz6 := F6.lies
          clear L5 B5 R5 N5 r5 F5 Bz5 Rz5 Nz5 rz5 Fz5
          rw [rounds_succ]
          have cB_1 : W6.cell? ⟨w.heap.size, 1, none⟩ = some (.string s) := B6.c 1 (of_decide_eq_true rfl)
          go_wp2_with fail
          refine (h2 _).mono ?_
          rintro e W7 ⟨rfl, k⟩
          have L7 := bel_then L6 k
          have B7 := B6.below k
          have R7 := R6.below k
          have N7 := N6.below k
          have r7 := r6.below k
          have F7 := F6.below k
          have Bz7 := B7.lies
          have Rz7 := R7.lies
          have Nz7 := N7.lies
          have rz7 := r7.lies
          have Fz7 := F7.lies
          clear k
          clear L6 B6 R6 N6 r6 F6 Bz6 Rz6 Nz6 rz6 Fz6
          clear cB_1
          have cB_1 : W7.cell? ⟨w.heap.size, 1, none⟩ = some (.string s) := B7.c 1 (of_decide_eq_true rfl)
          go_wp2_with fail
          refine (h3 _).mono ?_
          rintro e W8 ⟨rfl, k⟩
          have L8 := bel_then L7 k
          have B8 := B7.below k
          have R8 := R7.below k
          have N8 := N7.below k
          have r8 := r7.below k
          have F8 := F7.below k
          have Bz8 := B8.lies
          have Rz8 := R8.lies
          have Nz8 := N8.lies
          have rz8 := r8.lies
          have Fz8 := F8.lies
          clear k
          clear L7 B7 R7 N7 r7 F7 Bz7 Rz7 Nz7 rz7 Fz7
          clear cB_1
          have cr_3 : W8.cell? ⟨w.heap.size + 3, 3, none⟩ = some (.int .i64 0) := r8.c 3 (of_decide_eq_true rfl)
          have gr_3 := r8.f 3 (of_decide_eq_true rfl)
          go_wp2_with fail
          clear cr_3 gr_3
          refine rounds_letter (S := fun W => Below w.heap.size w W ∧ Arr (w.heap.size) [.int .i64 2, .string s] W ∧ Arr (w.heap.size + 1) [.int .i64 0, .int .i64 0, .int .i64 0, .int .i64 0, .int .i64 0] W ∧ Arr (w.heap.size + 2) [.int .i64 0, .int .i64 0, .int .i64 0, .int .i64 0, .int .i64 0] W ∧ Arr (w.heap.size + 3) [.int .i64 2, .int .i64 t, .int .i64 ((a - b) * 16777216), .int .i64 ((c - d) * 16777216), .int .i64 0] W ∧ Fl (q) false W) ⟨bel_new (L8) _ _ (by omega) _, Arr.new (B8) _ _ (by omega) _, Arr.new (R8) _ _ (by omega) _, Arr.new (N8) _ _ (by omega) _, Arr.put (r8) 3 (of_decide_eq_true rfl) (.int .i64 ((c - d) * 16777216)) [.int .i64 2, .int .i64 t, .int .i64 ((a - b) * 16777216), .int .i64 ((c - d) * 16777216), .int .i64 0] rfl, Fl.new (F8) _ _ (by omega) _⟩ ?_
          rintro W9 ⟨L9, B9, R9, N9, r9, F9⟩
          have Bz9 := B9.lies
          have Rz9 := R9.lies
          have Nz9 := N9.lies
          have rz9 := r9.lies
          have Fz9 := F9.lies
          clear L8 B8 R8 N8 r8 F8 Bz8 Rz8 Nz8 rz8 Fz8
          rw [rounds_succ]
          have cB_1 : W9.cell? ⟨w.heap.size, 1, none⟩ = some (.string s) := B9.c 1 (of_decide_eq_true rfl)
          go_wp2_with fail
          refine (h4 _).mono ?_
          rintro e W10 ⟨rfl, k⟩
          have L10 := bel_then L9 k
          have B10 := B9.below k
          have R10 := R9.below k
          have N10 := N9.below k
          have r10 := r9.below k
          have F10 := F9.below k
          have Bz10 := B10.lies
          have Rz10 := R10.lies
          have Nz10 := N10.lies
          have rz10 := r10.lies
          have Fz10 := F10.lies
          clear k
          clear L9 B9 R9 N9 r9 F9 Bz9 Rz9 Nz9 rz9 Fz9
          clear cB_1
          have cB_1 : W10.cell? ⟨w.heap.size, 1, none⟩ = some (.string s) := B10.c 1 (of_decide_eq_true rfl)
          go_wp2_with fail
          refine (h5 _).mono ?_
          rintro e W11 ⟨rfl, k⟩
          have L11 := bel_then L10 k
          have B11 := B10.below k
          have R11 := R10.below k
          have N11 := N10.below k
          have r11 := r10.below k
          have F11 := F10.below k
          have Bz11 := B11.lies
          have Rz11 := R11.lies
          have Nz11 := N11.lies
          have rz11 := r11.lies
          have Fz11 := F11.lies
          clear k
          clear L10 B10 R10 N10 r10 F10 Bz10 Rz10 Nz10 rz10 Fz10
          clear cB_1
          have cr_4 : W11.cell? ⟨w.heap.size + 3, 4, none⟩ = some (.int .i64 0) := r11.c 4 (of_decide_eq_true rfl)
          have gr_4 := r11.f 4 (of_decide_eq_true rfl)
          go_wp2_with fail
          clear cr_4 gr_4
          refine rounds_letter (S := fun W => Below w.heap.size w W ∧ Arr (w.heap.size) [.int .i64 2, .string s] W ∧ Arr (w.heap.size + 1) [.int .i64 0, .int .i64 0, .int .i64 0, .int .i64 0, .int .i64 0] W ∧ Arr (w.heap.size + 2) [.int .i64 0, .int .i64 0, .int .i64 0, .int .i64 0, .int .i64 0] W ∧ Arr (w.heap.size + 3) [.int .i64 2, .int .i64 t, .int .i64 ((a - b) * 16777216), .int .i64 ((c - d) * 16777216), .int .i64 ((g - f) * 16777216)] W ∧ Fl (q) false W) ⟨bel_new (L11) _ _ (by omega) _, Arr.new (B11) _ _ (by omega) _, Arr.new (R11) _ _ (by omega) _, Arr.new (N11) _ _ (by omega) _, Arr.put (r11) 4 (of_decide_eq_true rfl) (.int .i64 ((g - f) * 16777216)) [.int .i64 2, .int .i64 t, .int .i64 ((a - b) * 16777216), .int .i64 ((c - d) * 16777216), .int .i64 ((g - f) * 16777216)] rfl, Fl.new (F11) _ _ (by omega) _⟩ ?_
          rintro W12 ⟨L12, B12, R12, N12, r12, F12⟩
          have Bz12 := B12.lies
          have Rz12 := R12.lies
          have Nz12 := N12.lies
          have rz12 := r12.lies
          have Fz12 := F12.lies
          clear L11 B11 R11 N11 r11 F11 Bz11 Rz11 Nz11 rz11 Fz11
          rw [rounds_succ]
          have cr_2 : W12.cell? ⟨w.heap.size + 3, 2, none⟩ = some (.int .i64 ((a - b) * 16777216)) := r12.c 2 (of_decide_eq_true rfl)
          have gr_2 := r12.f 2 (of_decide_eq_true rfl)
          have cr_3 : W12.cell? ⟨w.heap.size + 3, 3, none⟩ = some (.int .i64 ((c - d) * 16777216)) := r12.c 3 (of_decide_eq_true rfl)
          have gr_3 := r12.f 3 (of_decide_eq_true rfl)
          have cr_4 : W12.cell? ⟨w.heap.size + 3, 4, none⟩ = some (.int .i64 ((g - f) * 16777216)) := r12.c 4 (of_decide_eq_true rfl)
          have gr_4 := r12.f 4 (of_decide_eq_true rfl)
          go_wp2_with fail
          refine (xUnit_any q false ((a - b) * 16777216, (c - d) * 16777216, (g - f) * 16777216) _ F12).mono ?_
          rintro e W13 ⟨rfl, F13, k⟩
          have L13 := k.on L12 (by omega)
          have B13 := B12.kept k (by omega)
          have R13 := R12.kept k (by omega)
          have N13 := N12.kept k (by omega)
          have r13 := r12.kept k (by omega)
          have Bz13 := B13.lies
          have Rz13 := R13.lies
          have Nz13 := N13.lies
          have rz13 := r13.lies
          have Fz13 := F13.lies
          clear k
          clear L12 B12 R12 N12 r12 F12 Bz12 Rz12 Nz12 rz12 Fz12
          have Eu : Hid (sunS a b c d g f = vUnitS false ((a - b) * 16777216, (c - d) * 16777216, (g - f) * 16777216)) := rfl
          generalize vUnitS false ((a - b) * 16777216, (c - d) * 16777216, (g - f) * 16777216) = u at F13 Eu ⊢
          clear cr_2 gr_2 cr_3 gr_3 cr_4 gr_4
          have cr_2 : W13.cell? ⟨w.heap.size + 3, 2, none⟩ = some (.int .i64 ((a - b) * 16777216)) := r13.c 2 (of_decide_eq_true rfl)
          have gr_2 := r13.f 2 (of_decide_eq_true rfl)
          have cr_3 : W13.cell? ⟨w.heap.size + 3, 3, none⟩ = some (.int .i64 ((c - d) * 16777216)) := r13.c 3 (of_decide_eq_true rfl)
          have gr_3 := r13.f 3 (of_decide_eq_true rfl)
          have cr_4 : W13.cell? ⟨w.heap.size + 3, 4, none⟩ = some (.int .i64 ((g - f) * 16777216)) := r13.c 4 (of_decide_eq_true rfl)
          have gr_4 := r13.f 4 (of_decide_eq_true rfl)
          have cF := F13.cell
          cases hu : u.2
          · have Hu : Hid (u.2 = false) := hu
            rw [hu] at cF
            clear hu
            have cR_0 : W13.cell? ⟨w.heap.size + 1, 0, none⟩ = some (.int .i64 0) := R13.c 0 (of_decide_eq_true rfl)
            have gR_0 := R13.f 0 (of_decide_eq_true rfl)
            have cR_1 : W13.cell? ⟨w.heap.size + 1, 1, none⟩ = some (.int .i64 0) := R13.c 1 (of_decide_eq_true rfl)
            have gR_1 := R13.f 1 (of_decide_eq_true rfl)
            have cR_2 : W13.cell? ⟨w.heap.size + 1, 2, none⟩ = some (.int .i64 0) := R13.c 2 (of_decide_eq_true rfl)
            have gR_2 := R13.f 2 (of_decide_eq_true rfl)
            have cR_3 : W13.cell? ⟨w.heap.size + 1, 3, none⟩ = some (.int .i64 0) := R13.c 3 (of_decide_eq_true rfl)
            have gR_3 := R13.f 3 (of_decide_eq_true rfl)
            have cR_4 : W13.cell? ⟨w.heap.size + 1, 4, none⟩ = some (.int .i64 0) := R13.c 4 (of_decide_eq_true rfl)
            have gR_4 := R13.f 4 (of_decide_eq_true rfl)
            have cr_0 : W13.cell? ⟨w.heap.size + 3, 0, none⟩ = some (.int .i64 2) := r13.c 0 (of_decide_eq_true rfl)
            have cr_1 : W13.cell? ⟨w.heap.size + 3, 1, none⟩ = some (.int .i64 t) := r13.c 1 (of_decide_eq_true rfl)
            go_wp2_with (with_reducible refine post_stop ?_)
            have d0 := Arr.c ((((((((R13.new (w.heap.size + 3) 2 (by omega) (.int .i64 u.1.1)).new (w.heap.size + 3) 3 (by omega) (.int .i64 u.1.2.1)).new (w.heap.size + 3) 4 (by omega) (.int .i64 u.1.2.2)).put 0 (of_decide_eq_true rfl) (.int .i64 2) [.int .i64 2, .int .i64 0, .int .i64 0, .int .i64 0, .int .i64 0] rfl).put 1 (of_decide_eq_true rfl) (.int .i64 t) [.int .i64 2, .int .i64 t, .int .i64 0, .int .i64 0, .int .i64 0] rfl).put 2 (of_decide_eq_true rfl) (.int .i64 u.1.1) [.int .i64 2, .int .i64 t, .int .i64 u.1.1, .int .i64 0, .int .i64 0] rfl).put 3 (of_decide_eq_true rfl) (.int .i64 u.1.2.1) [.int .i64 2, .int .i64 t, .int .i64 u.1.1, .int .i64 u.1.2.1, .int .i64 0] rfl).put 4 (of_decide_eq_true rfl) (.int .i64 u.1.2.2) [.int .i64 2, .int .i64 t, .int .i64 u.1.1, .int .i64 u.1.2.1, .int .i64 u.1.2.2] rfl) 0 (of_decide_eq_true rfl)
            have d1 := Arr.c ((((((((R13.new (w.heap.size + 3) 2 (by omega) (.int .i64 u.1.1)).new (w.heap.size + 3) 3 (by omega) (.int .i64 u.1.2.1)).new (w.heap.size + 3) 4 (by omega) (.int .i64 u.1.2.2)).put 0 (of_decide_eq_true rfl) (.int .i64 2) [.int .i64 2, .int .i64 0, .int .i64 0, .int .i64 0, .int .i64 0] rfl).put 1 (of_decide_eq_true rfl) (.int .i64 t) [.int .i64 2, .int .i64 t, .int .i64 0, .int .i64 0, .int .i64 0] rfl).put 2 (of_decide_eq_true rfl) (.int .i64 u.1.1) [.int .i64 2, .int .i64 t, .int .i64 u.1.1, .int .i64 0, .int .i64 0] rfl).put 3 (of_decide_eq_true rfl) (.int .i64 u.1.2.1) [.int .i64 2, .int .i64 t, .int .i64 u.1.1, .int .i64 u.1.2.1, .int .i64 0] rfl).put 4 (of_decide_eq_true rfl) (.int .i64 u.1.2.2) [.int .i64 2, .int .i64 t, .int .i64 u.1.1, .int .i64 u.1.2.1, .int .i64 u.1.2.2] rfl) 1 (of_decide_eq_true rfl)
            have d2 := Arr.c ((((((((R13.new (w.heap.size + 3) 2 (by omega) (.int .i64 u.1.1)).new (w.heap.size + 3) 3 (by omega) (.int .i64 u.1.2.1)).new (w.heap.size + 3) 4 (by omega) (.int .i64 u.1.2.2)).put 0 (of_decide_eq_true rfl) (.int .i64 2) [.int .i64 2, .int .i64 0, .int .i64 0, .int .i64 0, .int .i64 0] rfl).put 1 (of_decide_eq_true rfl) (.int .i64 t) [.int .i64 2, .int .i64 t, .int .i64 0, .int .i64 0, .int .i64 0] rfl).put 2 (of_decide_eq_true rfl) (.int .i64 u.1.1) [.int .i64 2, .int .i64 t, .int .i64 u.1.1, .int .i64 0, .int .i64 0] rfl).put 3 (of_decide_eq_true rfl) (.int .i64 u.1.2.1) [.int .i64 2, .int .i64 t, .int .i64 u.1.1, .int .i64 u.1.2.1, .int .i64 0] rfl).put 4 (of_decide_eq_true rfl) (.int .i64 u.1.2.2) [.int .i64 2, .int .i64 t, .int .i64 u.1.1, .int .i64 u.1.2.1, .int .i64 u.1.2.2] rfl) 2 (of_decide_eq_true rfl)
            have d3 := Arr.c ((((((((R13.new (w.heap.size + 3) 2 (by omega) (.int .i64 u.1.1)).new (w.heap.size + 3) 3 (by omega) (.int .i64 u.1.2.1)).new (w.heap.size + 3) 4 (by omega) (.int .i64 u.1.2.2)).put 0 (of_decide_eq_true rfl) (.int .i64 2) [.int .i64 2, .int .i64 0, .int .i64 0, .int .i64 0, .int .i64 0] rfl).put 1 (of_decide_eq_true rfl) (.int .i64 t) [.int .i64 2, .int .i64 t, .int .i64 0, .int .i64 0, .int .i64 0] rfl).put 2 (of_decide_eq_true rfl) (.int .i64 u.1.1) [.int .i64 2, .int .i64 t, .int .i64 u.1.1, .int .i64 0, .int .i64 0] rfl).put 3 (of_decide_eq_true rfl) (.int .i64 u.1.2.1) [.int .i64 2, .int .i64 t, .int .i64 u.1.1, .int .i64 u.1.2.1, .int .i64 0] rfl).put 4 (of_decide_eq_true rfl) (.int .i64 u.1.2.2) [.int .i64 2, .int .i64 t, .int .i64 u.1.1, .int .i64 u.1.2.1, .int .i64 u.1.2.2] rfl) 3 (of_decide_eq_true rfl)
            have d4 := Arr.c ((((((((R13.new (w.heap.size + 3) 2 (by omega) (.int .i64 u.1.1)).new (w.heap.size + 3) 3 (by omega) (.int .i64 u.1.2.1)).new (w.heap.size + 3) 4 (by omega) (.int .i64 u.1.2.2)).put 0 (of_decide_eq_true rfl) (.int .i64 2) [.int .i64 2, .int .i64 0, .int .i64 0, .int .i64 0, .int .i64 0] rfl).put 1 (of_decide_eq_true rfl) (.int .i64 t) [.int .i64 2, .int .i64 t, .int .i64 0, .int .i64 0, .int .i64 0] rfl).put 2 (of_decide_eq_true rfl) (.int .i64 u.1.1) [.int .i64 2, .int .i64 t, .int .i64 u.1.1, .int .i64 0, .int .i64 0] rfl).put 3 (of_decide_eq_true rfl) (.int .i64 u.1.2.1) [.int .i64 2, .int .i64 t, .int .i64 u.1.1, .int .i64 u.1.2.1, .int .i64 0] rfl).put 4 (of_decide_eq_true rfl) (.int .i64 u.1.2.2) [.int .i64 2, .int .i64 t, .int .i64 u.1.1, .int .i64 u.1.2.1, .int .i64 u.1.2.2] rfl) 4 (of_decide_eq_true rfl)
            simp only [List.getElem_cons_zero, List.getElem_cons_succ] at d0 d1 d2 d3 d4
            exact ⟨bodyPost_ret (v := .tuple #[.agg #[.int .i64 2, .int .i64 t, .int .i64 u.1.1, .int .i64 u.1.2.1, .int .i64 u.1.2.2], .bool true]) (by simp [results_cell_tmp Try.results10, asAddr, go_sem, d0, d1, d2, d3, d4]) rfl ⟨by rw [HR.out, HP.out, HK.out, HV.out]; unfold sunOk; rw [Hl.out, Eu.out, Hu.out]; rfl, (bel_new (bel_new (bel_new (bel_new (bel_new (bel_new (bel_new (bel_new L13 _ _ (by omega) _) _ _ (by omega) _) _ _ (by omega) _) _ _ (by omega) _) _ _ (by omega) _) _ _ (by omega) _) _ _ (by omega) _) _ _ (by omega) _)⟩⟩
          · have Hu : Hid (u.2 = true) := hu
            rw [hu] at cF
            clear hu
            have cR_0 : W13.cell? ⟨w.heap.size + 1, 0, none⟩ = some (.int .i64 0) := R13.c 0 (of_decide_eq_true rfl)
            have gR_0 := R13.f 0 (of_decide_eq_true rfl)
            have cR_1 : W13.cell? ⟨w.heap.size + 1, 1, none⟩ = some (.int .i64 0) := R13.c 1 (of_decide_eq_true rfl)
            have gR_1 := R13.f 1 (of_decide_eq_true rfl)
            have cR_2 : W13.cell? ⟨w.heap.size + 1, 2, none⟩ = some (.int .i64 0) := R13.c 2 (of_decide_eq_true rfl)
            have gR_2 := R13.f 2 (of_decide_eq_true rfl)
            have cR_3 : W13.cell? ⟨w.heap.size + 1, 3, none⟩ = some (.int .i64 0) := R13.c 3 (of_decide_eq_true rfl)
            have gR_3 := R13.f 3 (of_decide_eq_true rfl)
            have cR_4 : W13.cell? ⟨w.heap.size + 1, 4, none⟩ = some (.int .i64 0) := R13.c 4 (of_decide_eq_true rfl)
            have gR_4 := R13.f 4 (of_decide_eq_true rfl)
            have cN_0 : W13.cell? ⟨w.heap.size + 2, 0, none⟩ = some (.int .i64 0) := N13.c 0 (of_decide_eq_true rfl)
            have cN_1 : W13.cell? ⟨w.heap.size + 2, 1, none⟩ = some (.int .i64 0) := N13.c 1 (of_decide_eq_true rfl)
            have cN_2 : W13.cell? ⟨w.heap.size + 2, 2, none⟩ = some (.int .i64 0) := N13.c 2 (of_decide_eq_true rfl)
            have cN_3 : W13.cell? ⟨w.heap.size + 2, 3, none⟩ = some (.int .i64 0) := N13.c 3 (of_decide_eq_true rfl)
            have cN_4 : W13.cell? ⟨w.heap.size + 2, 4, none⟩ = some (.int .i64 0) := N13.c 4 (of_decide_eq_true rfl)
            go_wp2_with (with_reducible refine post_stop ?_)
            have d0 := Arr.c ((((((((R13.new (w.heap.size + 3) 2 (by omega) (.int .i64 u.1.1)).new (w.heap.size + 3) 3 (by omega) (.int .i64 u.1.2.1)).new (w.heap.size + 3) 4 (by omega) (.int .i64 u.1.2.2)).put 0 (of_decide_eq_true rfl) (.int .i64 0) [.int .i64 0, .int .i64 0, .int .i64 0, .int .i64 0, .int .i64 0] rfl).put 1 (of_decide_eq_true rfl) (.int .i64 0) [.int .i64 0, .int .i64 0, .int .i64 0, .int .i64 0, .int .i64 0] rfl).put 2 (of_decide_eq_true rfl) (.int .i64 0) [.int .i64 0, .int .i64 0, .int .i64 0, .int .i64 0, .int .i64 0] rfl).put 3 (of_decide_eq_true rfl) (.int .i64 0) [.int .i64 0, .int .i64 0, .int .i64 0, .int .i64 0, .int .i64 0] rfl).put 4 (of_decide_eq_true rfl) (.int .i64 0) [.int .i64 0, .int .i64 0, .int .i64 0, .int .i64 0, .int .i64 0] rfl) 0 (of_decide_eq_true rfl)
            have d1 := Arr.c ((((((((R13.new (w.heap.size + 3) 2 (by omega) (.int .i64 u.1.1)).new (w.heap.size + 3) 3 (by omega) (.int .i64 u.1.2.1)).new (w.heap.size + 3) 4 (by omega) (.int .i64 u.1.2.2)).put 0 (of_decide_eq_true rfl) (.int .i64 0) [.int .i64 0, .int .i64 0, .int .i64 0, .int .i64 0, .int .i64 0] rfl).put 1 (of_decide_eq_true rfl) (.int .i64 0) [.int .i64 0, .int .i64 0, .int .i64 0, .int .i64 0, .int .i64 0] rfl).put 2 (of_decide_eq_true rfl) (.int .i64 0) [.int .i64 0, .int .i64 0, .int .i64 0, .int .i64 0, .int .i64 0] rfl).put 3 (of_decide_eq_true rfl) (.int .i64 0) [.int .i64 0, .int .i64 0, .int .i64 0, .int .i64 0, .int .i64 0] rfl).put 4 (of_decide_eq_true rfl) (.int .i64 0) [.int .i64 0, .int .i64 0, .int .i64 0, .int .i64 0, .int .i64 0] rfl) 1 (of_decide_eq_true rfl)
            have d2 := Arr.c ((((((((R13.new (w.heap.size + 3) 2 (by omega) (.int .i64 u.1.1)).new (w.heap.size + 3) 3 (by omega) (.int .i64 u.1.2.1)).new (w.heap.size + 3) 4 (by omega) (.int .i64 u.1.2.2)).put 0 (of_decide_eq_true rfl) (.int .i64 0) [.int .i64 0, .int .i64 0, .int .i64 0, .int .i64 0, .int .i64 0] rfl).put 1 (of_decide_eq_true rfl) (.int .i64 0) [.int .i64 0, .int .i64 0, .int .i64 0, .int .i64 0, .int .i64 0] rfl).put 2 (of_decide_eq_true rfl) (.int .i64 0) [.int .i64 0, .int .i64 0, .int .i64 0, .int .i64 0, .int .i64 0] rfl).put 3 (of_decide_eq_true rfl) (.int .i64 0) [.int .i64 0, .int .i64 0, .int .i64 0, .int .i64 0, .int .i64 0] rfl).put 4 (of_decide_eq_true rfl) (.int .i64 0) [.int .i64 0, .int .i64 0, .int .i64 0, .int .i64 0, .int .i64 0] rfl) 2 (of_decide_eq_true rfl)
            have d3 := Arr.c ((((((((R13.new (w.heap.size + 3) 2 (by omega) (.int .i64 u.1.1)).new (w.heap.size + 3) 3 (by omega) (.int .i64 u.1.2.1)).new (w.heap.size + 3) 4 (by omega) (.int .i64 u.1.2.2)).put 0 (of_decide_eq_true rfl) (.int .i64 0) [.int .i64 0, .int .i64 0, .int .i64 0, .int .i64 0, .int .i64 0] rfl).put 1 (of_decide_eq_true rfl) (.int .i64 0) [.int .i64 0, .int .i64 0, .int .i64 0, .int .i64 0, .int .i64 0] rfl).put 2 (of_decide_eq_true rfl) (.int .i64 0) [.int .i64 0, .int .i64 0, .int .i64 0, .int .i64 0, .int .i64 0] rfl).put 3 (of_decide_eq_true rfl) (.int .i64 0) [.int .i64 0, .int .i64 0, .int .i64 0, .int .i64 0, .int .i64 0] rfl).put 4 (of_decide_eq_true rfl) (.int .i64 0) [.int .i64 0, .int .i64 0, .int .i64 0, .int .i64 0, .int .i64 0] rfl) 3 (of_decide_eq_true rfl)
            have d4 := Arr.c ((((((((R13.new (w.heap.size + 3) 2 (by omega) (.int .i64 u.1.1)).new (w.heap.size + 3) 3 (by omega) (.int .i64 u.1.2.1)).new (w.heap.size + 3) 4 (by omega) (.int .i64 u.1.2.2)).put 0 (of_decide_eq_true rfl) (.int .i64 0) [.int .i64 0, .int .i64 0, .int .i64 0, .int .i64 0, .int .i64 0] rfl).put 1 (of_decide_eq_true rfl) (.int .i64 0) [.int .i64 0, .int .i64 0, .int .i64 0, .int .i64 0, .int .i64 0] rfl).put 2 (of_decide_eq_true rfl) (.int .i64 0) [.int .i64 0, .int .i64 0, .int .i64 0, .int .i64 0, .int .i64 0] rfl).put 3 (of_decide_eq_true rfl) (.int .i64 0) [.int .i64 0, .int .i64 0, .int .i64 0, .int .i64 0, .int .i64 0] rfl).put 4 (of_decide_eq_true rfl) (.int .i64 0) [.int .i64 0, .int .i64 0, .int .i64 0, .int .i64 0, .int .i64 0] rfl) 4 (of_decide_eq_true rfl)
            simp only [List.getElem_cons_zero, List.getElem_cons_succ] at d0 d1 d2 d3 d4
            exact ⟨bodyPost_ret (v := .tuple #[.agg #[.int .i64 0, .int .i64 0, .int .i64 0, .int .i64 0, .int .i64 0], .bool false]) (by simp [results_cell_tmp Try.results10, asAddr, go_sem, d0, d1, d2, d3, d4]) rfl ⟨by rw [HR.out, HP.out, HK.out]; unfold sunOk; rw [Hl.out, Eu.out, Hu.out]; rfl, (bel_new (bel_new (bel_new (bel_new (bel_new (bel_new (bel_new (bel_new L13 _ _ (by omega) _) _ _ (by omega) _) _ _ (by omega) _) _ _ (by omega) _) _ _ (by omega) _) _ _ (by omega) _) _ _ (by omega) _) _ _ (by omega) _)⟩⟩
        by_cases xd : 2000 ≤ d
        · have Hl : Hid (lit a b c d g f = true) := by show _ = _; unfold lit; simp; omega
          rw [rounds_succ]
          have cB_1 : W3.cell? ⟨w.heap.size, 1, none⟩ = some (.string s) := B3.c 1 (of_decide_eq_true rfl)
          go_wp2_with fail
          refine (h0 _).mono ?_
          rintro e W4 ⟨rfl, k⟩
          have L4 := bel_then L3 k
          have B4 := B3.below k
          have R4 := R3.below k
          have N4 := N3.below k
          have r4 := r3.below k
          have F4 := F3.below k
          have Bz4 := B4.lies
          have Rz4 := R4.lies
          have Nz4 := N4.lies
          have rz4 := r4.lies
          have Fz4 := F4.lies
          clear k
          clear L3 B3 R3 N3 r3 F3 Bz3 Rz3 Nz3 rz3 Fz3
          clear cB_1
          have cB_1 : W4.cell? ⟨w.heap.size, 1, none⟩ = some (.string s) := B4.c 1 (of_decide_eq_true rfl)
          go_wp2_with fail
          refine (h1 _).mono ?_
          rintro e W5 ⟨rfl, k⟩
          have L5 := bel_then L4 k
          have B5 := B4.below k
          have R5 := R4.below k
          have N5 := N4.below k
          have r5 := r4.below k
          have F5 := F4.below k
          have Bz5 := B5.lies
          have Rz5 := R5.lies
          have Nz5 := N5.lies
          have rz5 := r5.lies
          have Fz5 := F5.lies
          clear k
          clear L4 B4 R4 N4 r4 F4 Bz4 Rz4 Nz4 rz4 Fz4
          clear cB_1
          have cr_2 : W5.cell? ⟨w.heap.size + 3, 2, none⟩ = some (.int .i64 0) := r5.c 2 (of_decide_eq_true rfl)
          have gr_2 := r5.f 2 (of_decide_eq_true rfl)
          go_wp2_with fail
          clear cr_2 gr_2
          refine rounds_letter (S := fun W => Below w.heap.size w W ∧ Arr (w.heap.size) [.int .i64 2, .string s] W ∧ Arr (w.heap.size + 1) [.int .i64 0, .int .i64 0, .int .i64 0, .int .i64 0, .int .i64 0] W ∧ Arr (w.heap.size + 2) [.int .i64 0, .int .i64 0, .int .i64 0, .int .i64 0, .int .i64 0] W ∧ Arr (w.heap.size + 3) [.int .i64 2, .int .i64 t, .int .i64 ((a - b) * 16777216), .int .i64 0, .int .i64 0] W ∧ Fl (q) false W) ⟨bel_new (L5) _ _ (by omega) _, Arr.new (B5) _ _ (by omega) _, Arr.new (R5) _ _ (by omega) _, Arr.new (N5) _ _ (by omega) _, Arr.put (r5) 2 (of_decide_eq_true rfl) (.int .i64 ((a - b) * 16777216)) [.int .i64 2, .int .i64 t, .int .i64 ((a - b) * 16777216), .int .i64 0, .int .i64 0] rfl, Fl.new (F5) _ _ (by omega) _⟩ ?_
          rintro W6 ⟨L6, B6, R6, N6, r6, F6⟩
          have Bz6 := B6.lies
          have Rz6 := R6.lies
          have Nz6 := N6.lies
          have rz6 := r6.lies
          have Fz6 := F6.lies
          clear L5 B5 R5 N5 r5 F5 Bz5 Rz5 Nz5 rz5 Fz5
          rw [rounds_succ]
          have cB_1 : W6.cell? ⟨w.heap.size, 1, none⟩ = some (.string s) := B6.c 1 (of_decide_eq_true rfl)
          go_wp2_with fail
          refine (h2 _).mono ?_
          rintro e W7 ⟨rfl, k⟩
          have L7 := bel_then L6 k
          have B7 := B6.below k
          have R7 := R6.below k
          have N7 := N6.below k
          have r7 := r6.below k
          have F7 := F6.below k
          have Bz7 := B7.lies
          have Rz7 := R7.lies
          have Nz7 := N7.lies
          have rz7 := r7.lies
          have Fz7 := F7.lies
          clear k
          clear L6 B6 R6 N6 r6 F6 Bz6 Rz6 Nz6 rz6 Fz6
          clear cB_1
          have cB_1 : W7.cell? ⟨w.heap.size, 1, none⟩ = some (.string s) := B7.c 1 (of_decide_eq_true rfl)
          go_wp2_with fail
          refine (h3 _).mono ?_
          rintro e W8 ⟨rfl, k⟩
          have L8 := bel_then L7 k
          have B8 := B7.below k
          have R8 := R7.below k
          have N8 := N7.below k
          have r8 := r7.below k
          have F8 := F7.below k
          have Bz8 := B8.lies
          have Rz8 := R8.lies
          have Nz8 := N8.lies
          have rz8 := r8.lies
          have Fz8 := F8.lies
          clear k
          clear L7 B7 R7 N7 r7 F7 Bz7 Rz7 Nz7 rz7 Fz7
          clear cB_1
          have cr_3 : W8.cell? ⟨w.heap.size + 3, 3, none⟩ = some (.int .i64 0) := r8.c 3 (of_decide_eq_true rfl)
          have gr_3 := r8.f 3 (of_decide_eq_true rfl)
          go_wp2_with fail
          clear cr_3 gr_3
          refine rounds_letter (S := fun W => Below w.heap.size w W ∧ Arr (w.heap.size) [.int .i64 2, .string s] W ∧ Arr (w.heap.size + 1) [.int .i64 0, .int .i64 0, .int .i64 0, .int .i64 0, .int .i64 0] W ∧ Arr (w.heap.size + 2) [.int .i64 0, .int .i64 0, .int .i64 0, .int .i64 0, .int .i64 0] W ∧ Arr (w.heap.size + 3) [.int .i64 2, .int .i64 t, .int .i64 ((a - b) * 16777216), .int .i64 ((c - d) * 16777216), .int .i64 0] W ∧ Fl (q) false W) ⟨bel_new (L8) _ _ (by omega) _, Arr.new (B8) _ _ (by omega) _, Arr.new (R8) _ _ (by omega) _, Arr.new (N8) _ _ (by omega) _, Arr.put (r8) 3 (of_decide_eq_true rfl) (.int .i64 ((c - d) * 16777216)) [.int .i64 2, .int .i64 t, .int .i64 ((a - b) * 16777216), .int .i64 ((c - d) * 16777216), .int .i64 0] rfl, Fl.new (F8) _ _ (by omega) _⟩ ?_
          rintro W9 ⟨L9, B9, R9, N9, r9, F9⟩
          have Bz9 := B9.lies
          have Rz9 := R9.lies
          have Nz9 := N9.lies
          have rz9 := r9.lies
          have Fz9 := F9.lies
          clear L8 B8 R8 N8 r8 F8 Bz8 Rz8 Nz8 rz8 Fz8
          rw [rounds_succ]
          have cB_1 : W9.cell? ⟨w.heap.size, 1, none⟩ = some (.string s) := B9.c 1 (of_decide_eq_true rfl)
          go_wp2_with fail
          refine (h4 _).mono ?_
          rintro e W10 ⟨rfl, k⟩
          have L10 := bel_then L9 k
          have B10 := B9.below k
          have R10 := R9.below k
          have N10 := N9.below k
          have r10 := r9.below k
          have F10 := F9.below k
          have Bz10 := B10.lies
          have Rz10 := R10.lies
          have Nz10 := N10.lies
          have rz10 := r10.lies
          have Fz10 := F10.lies
          clear k
          clear L9 B9 R9 N9 r9 F9 Bz9 Rz9 Nz9 rz9 Fz9
          clear cB_1
          have cB_1 : W10.cell? ⟨w.heap.size, 1, none⟩ = some (.string s) := B10.c 1 (of_decide_eq_true rfl)
          go_wp2_with fail
          refine (h5 _).mono ?_
          rintro e W11 ⟨rfl, k⟩
          have L11 := bel_then L10 k
          have B11 := B10.below k
          have R11 := R10.below k
          have N11 := N10.below k
          have r11 := r10.below k
          have F11 := F10.below k
          have Bz11 := B11.lies
          have Rz11 := R11.lies
          have Nz11 := N11.lies
          have rz11 := r11.lies
          have Fz11 := F11.lies
          clear k
          clear L10 B10 R10 N10 r10 F10 Bz10 Rz10 Nz10 rz10 Fz10
          clear cB_1
          have cr_4 : W11.cell? ⟨w.heap.size + 3, 4, none⟩ = some (.int .i64 0) := r11.c 4 (of_decide_eq_true rfl)
          have gr_4 := r11.f 4 (of_decide_eq_true rfl)
          go_wp2_with fail
          clear cr_4 gr_4
          refine rounds_letter (S := fun W => Below w.heap.size w W ∧ Arr (w.heap.size) [.int .i64 2, .string s] W ∧ Arr (w.heap.size + 1) [.int .i64 0, .int .i64 0, .int .i64 0, .int .i64 0, .int .i64 0] W ∧ Arr (w.heap.size + 2) [.int .i64 0, .int .i64 0, .int .i64 0, .int .i64 0, .int .i64 0] W ∧ Arr (w.heap.size + 3) [.int .i64 2, .int .i64 t, .int .i64 ((a - b) * 16777216), .int .i64 ((c - d) * 16777216), .int .i64 ((g - f) * 16777216)] W ∧ Fl (q) false W) ⟨bel_new (L11) _ _ (by omega) _, Arr.new (B11) _ _ (by omega) _, Arr.new (R11) _ _ (by omega) _, Arr.new (N11) _ _ (by omega) _, Arr.put (r11) 4 (of_decide_eq_true rfl) (.int .i64 ((g - f) * 16777216)) [.int .i64 2, .int .i64 t, .int .i64 ((a - b) * 16777216), .int .i64 ((c - d) * 16777216), .int .i64 ((g - f) * 16777216)] rfl, Fl.new (F11) _ _ (by omega) _⟩ ?_
          rintro W12 ⟨L12, B12, R12, N12, r12, F12⟩
          have Bz12 := B12.lies
          have Rz12 := R12.lies
          have Nz12 := N12.lies
          have rz12 := r12.lies
          have Fz12 := F12.lies
          clear L11 B11 R11 N11 r11 F11 Bz11 Rz11 Nz11 rz11 Fz11
          rw [rounds_succ]
          have cr_2 : W12.cell? ⟨w.heap.size + 3, 2, none⟩ = some (.int .i64 ((a - b) * 16777216)) := r12.c 2 (of_decide_eq_true rfl)
          have gr_2 := r12.f 2 (of_decide_eq_true rfl)
          have cr_3 : W12.cell? ⟨w.heap.size + 3, 3, none⟩ = some (.int .i64 ((c - d) * 16777216)) := r12.c 3 (of_decide_eq_true rfl)
          have gr_3 := r12.f 3 (of_decide_eq_true rfl)
          have cr_4 : W12.cell? ⟨w.heap.size + 3, 4, none⟩ = some (.int .i64 ((g - f) * 16777216)) := r12.c 4 (of_decide_eq_true rfl)
          have gr_4 := r12.f 4 (of_decide_eq_true rfl)
          go_wp2_with fail
          refine (xUnit_any q false ((a - b) * 16777216, (c - d) * 16777216, (g - f) * 16777216) _ F12).mono ?_
          rintro e W13 ⟨rfl, F13, k⟩
          have L13 := k.on L12 (by omega)
          have B13 := B12.kept k (by omega)
          have R13 := R12.kept k (by omega)
          have N13 := N12.kept k (by omega)
          have r13 := r12.kept k (by omega)
          have Bz13 := B13.lies
          have Rz13 := R13.lies
          have Nz13 := N13.lies
          have rz13 := r13.lies
          have Fz13 := F13.lies
          clear k
          clear L12 B12 R12 N12 r12 F12 Bz12 Rz12 Nz12 rz12 Fz12
          have Eu : Hid (sunS a b c d g f = vUnitS false ((a - b) * 16777216, (c - d) * 16777216, (g - f) * 16777216)) := rfl
          generalize vUnitS false ((a - b) * 16777216, (c - d) * 16777216, (g - f) * 16777216) = u at F13 Eu ⊢
          clear cr_2 gr_2 cr_3 gr_3 cr_4 gr_4
          have cr_2 : W13.cell? ⟨w.heap.size + 3, 2, none⟩ = some (.int .i64 ((a - b) * 16777216)) := r13.c 2 (of_decide_eq_true rfl)
          have gr_2 := r13.f 2 (of_decide_eq_true rfl)
          have cr_3 : W13.cell? ⟨w.heap.size + 3, 3, none⟩ = some (.int .i64 ((c - d) * 16777216)) := r13.c 3 (of_decide_eq_true rfl)
          have gr_3 := r13.f 3 (of_decide_eq_true rfl)
          have cr_4 : W13.cell? ⟨w.heap.size + 3, 4, none⟩ = some (.int .i64 ((g - f) * 16777216)) := r13.c 4 (of_decide_eq_true rfl)
          have gr_4 := r13.f 4 (of_decide_eq_true rfl)
          have cF := F13.cell
          cases hu : u.2
          · have Hu : Hid (u.2 = false) := hu
            rw [hu] at cF
            clear hu
            have cR_0 : W13.cell? ⟨w.heap.size + 1, 0, none⟩ = some (.int .i64 0) := R13.c 0 (of_decide_eq_true rfl)
            have gR_0 := R13.f 0 (of_decide_eq_true rfl)
            have cR_1 : W13.cell? ⟨w.heap.size + 1, 1, none⟩ = some (.int .i64 0) := R13.c 1 (of_decide_eq_true rfl)
            have gR_1 := R13.f 1 (of_decide_eq_true rfl)
            have cR_2 : W13.cell? ⟨w.heap.size + 1, 2, none⟩ = some (.int .i64 0) := R13.c 2 (of_decide_eq_true rfl)
            have gR_2 := R13.f 2 (of_decide_eq_true rfl)
            have cR_3 : W13.cell? ⟨w.heap.size + 1, 3, none⟩ = some (.int .i64 0) := R13.c 3 (of_decide_eq_true rfl)
            have gR_3 := R13.f 3 (of_decide_eq_true rfl)
            have cR_4 : W13.cell? ⟨w.heap.size + 1, 4, none⟩ = some (.int .i64 0) := R13.c 4 (of_decide_eq_true rfl)
            have gR_4 := R13.f 4 (of_decide_eq_true rfl)
            have cr_0 : W13.cell? ⟨w.heap.size + 3, 0, none⟩ = some (.int .i64 2) := r13.c 0 (of_decide_eq_true rfl)
            have cr_1 : W13.cell? ⟨w.heap.size + 3, 1, none⟩ = some (.int .i64 t) := r13.c 1 (of_decide_eq_true rfl)
            go_wp2_with (with_reducible refine post_stop ?_)
            have d0 := Arr.c ((((((((R13.new (w.heap.size + 3) 2 (by omega) (.int .i64 u.1.1)).new (w.heap.size + 3) 3 (by omega) (.int .i64 u.1.2.1)).new (w.heap.size + 3) 4 (by omega) (.int .i64 u.1.2.2)).put 0 (of_decide_eq_true rfl) (.int .i64 2) [.int .i64 2, .int .i64 0, .int .i64 0, .int .i64 0, .int .i64 0] rfl).put 1 (of_decide_eq_true rfl) (.int .i64 t) [.int .i64 2, .int .i64 t, .int .i64 0, .int .i64 0, .int .i64 0] rfl).put 2 (of_decide_eq_true rfl) (.int .i64 u.1.1) [.int .i64 2, .int .i64 t, .int .i64 u.1.1, .int .i64 0, .int .i64 0] rfl).put 3 (of_decide_eq_true rfl) (.int .i64 u.1.2.1) [.int .i64 2, .int .i64 t, .int .i64 u.1.1, .int .i64 u.1.2.1, .int .i64 0] rfl).put 4 (of_decide_eq_true rfl) (.int .i64 u.1.2.2) [.int .i64 2, .int .i64 t, .int .i64 u.1.1, .int .i64 u.1.2.1, .int .i64 u.1.2.2] rfl) 0 (of_decide_eq_true rfl)
            have d1 := Arr.c ((((((((R13.new (w.heap.size + 3) 2 (by omega) (.int .i64 u.1.1)).new (w.heap.size + 3) 3 (by omega) (.int .i64 u.1.2.1)).new (w.heap.size + 3) 4 (by omega) (.int .i64 u.1.2.2)).put 0 (of_decide_eq_true rfl) (.int .i64 2) [.int .i64 2, .int .i64 0, .int .i64 0, .int .i64 0, .int .i64 0] rfl).put 1 (of_decide_eq_true rfl) (.int .i64 t) [.int .i64 2, .int .i64 t, .int .i64 0, .int .i64 0, .int .i64 0] rfl).put 2 (of_decide_eq_true rfl) (.int .i64 u.1.1) [.int .i64 2, .int .i64 t, .int .i64 u.1.1, .int .i64 0, .int .i64 0] rfl).put 3 (of_decide_eq_true rfl) (.int .i64 u.1.2.1) [.int .i64 2, .int .i64 t, .int .i64 u.1.1, .int .i64 u.1.2.1, .int .i64 0] rfl).put 4 (of_decide_eq_true rfl) (.int .i64 u.1.2.2) [.int .i64 2, .int .i64 t, .int .i64 u.1.1, .int .i64 u.1.2.1, .int .i64 u.1.2.2] rfl) 1 (of_decide_eq_true rfl)
            have d2 := Arr.c ((((((((R13.new (w.heap.size + 3) 2 (by omega) (.int .i64 u.1.1)).new (w.heap.size + 3) 3 (by omega) (.int .i64 u.1.2.1)).new (w.heap.size + 3) 4 (by omega) (.int .i64 u.1.2.2)).put 0 (of_decide_eq_true rfl) (.int .i64 2) [.int .i64 2, .int .i64 0, .int .i64 0, .int .i64 0, .int .i64 0] rfl).put 1 (of_decide_eq_true rfl) (.int .i64 t) [.int .i64 2, .int .i64 t, .int .i64 0, .int .i64 0, .int .i64 0] rfl).put 2 (of_decide_eq_true rfl) (.int .i64 u.1.1) [.int .i64 2, .int .i64 t, .int .i64 u.1.1, .int .i64 0, .int .i64 0] rfl).put 3 (of_decide_eq_true rfl) (.int .i64 u.1.2.1) [.int .i64 2, .int .i64 t, .int .i64 u.1.1, .int .i64 u.1.2.1, .int .i64 0] rfl).put 4 (of_decide_eq_true rfl) (.int .i64 u.1.2.2) [.int .i64 2, .int .i64 t, .int .i64 u.1.1, .int .i64 u.1.2.1, .int .i64 u.1.2.2] rfl) 2 (of_decide_eq_true rfl)
            have d3 := Arr.c ((((((((R13.new (w.heap.size + 3) 2 (by omega) (.int .i64 u.1.1)).new (w.heap.size + 3) 3 (by omega) (.int .i64 u.1.2.1)).new (w.heap.size + 3) 4 (by omega) (.int .i64 u.1.2.2)).put 0 (of_decide_eq_true rfl) (.int .i64 2) [.int .i64 2, .int .i64 0, .int .i64 0, .int .i64 0, .int .i64 0] rfl).put 1 (of_decide_eq_true rfl) (.int .i64 t) [.int .i64 2, .int .i64 t, .int .i64 0, .int .i64 0, .int .i64 0] rfl).put 2 (of_decide_eq_true rfl) (.int .i64 u.1.1) [.int .i64 2, .int .i64 t, .int .i64 u.1.1, .int .i64 0, .int .i64 0] rfl).put 3 (of_decide_eq_true rfl) (.int .i64 u.1.2.1) [.int .i64 2, .int .i64 t, .int .i64 u.1.1, .int .i64 u.1.2.1, .int .i64 0] rfl).put 4 (of_decide_eq_true rfl) (.int .i64 u.1.2.2) [.int .i64 2, .int .i64 t, .int .i64 u.1.1, .int .i64 u.1.2.1, .int .i64 u.1.2.2] rfl) 3 (of_decide_eq_true rfl)
            have d4 := Arr.c ((((((((R13.new (w.heap.size + 3) 2 (by omega) (.int .i64 u.1.1)).new (w.heap.size + 3) 3 (by omega) (.int .i64 u.1.2.1)).new (w.heap.size + 3) 4 (by omega) (.int .i64 u.1.2.2)).put 0 (of_decide_eq_true rfl) (.int .i64 2) [.int .i64 2, .int .i64 0, .int .i64 0, .int .i64 0, .int .i64 0] rfl).put 1 (of_decide_eq_true rfl) (.int .i64 t) [.int .i64 2, .int .i64 t, .int .i64 0, .int .i64 0, .int .i64 0] rfl).put 2 (of_decide_eq_true rfl) (.int .i64 u.1.1) [.int .i64 2, .int .i64 t, .int .i64 u.1.1, .int .i64 0, .int .i64 0] rfl).put 3 (of_decide_eq_true rfl) (.int .i64 u.1.2.1) [.int .i64 2, .int .i64 t, .int .i64 u.1.1, .int .i64 u.1.2.1, .int .i64 0] rfl).put 4 (of_decide_eq_true rfl) (.int .i64 u.1.2.2) [.int .i64 2, .int .i64 t, .int .i64 u.1.1, .int .i64 u.1.2.1, .int .i64 u.1.2.2] rfl) 4 (of_decide_eq_true rfl)
            simp only [List.getElem_cons_zero, List.getElem_cons_succ] at d0 d1 d2 d3 d4
            exact ⟨bodyPost_ret (v := .tuple #[.agg #[.int .i64 2, .int .i64 t, .int .i64 u.1.1, .int .i64 u.1.2.1, .int .i64 u.1.2.2], .bool true]) (by simp [results_cell_tmp Try.results10, asAddr, go_sem, d0, d1, d2, d3, d4]) rfl ⟨by rw [HR.out, HP.out, HK.out, HV.out]; unfold sunOk; rw [Hl.out, Eu.out, Hu.out]; rfl, (bel_new (bel_new (bel_new (bel_new (bel_new (bel_new (bel_new (bel_new L13 _ _ (by omega) _) _ _ (by omega) _) _ _ (by omega) _) _ _ (by omega) _) _ _ (by omega) _) _ _ (by omega) _) _ _ (by omega) _) _ _ (by omega) _)⟩⟩
          · have Hu : Hid (u.2 = true) := hu
            rw [hu] at cF
            clear hu
            have cR_0 : W13.cell? ⟨w.heap.size + 1, 0, none⟩ = some (.int .i64 0) := R13.c 0 (of_decide_eq_true rfl)
            have gR_0 := R13.f 0 (of_decide_eq_true rfl)
            have cR_1 : W13.cell? ⟨w.heap.size + 1, 1, none⟩ = some (.int .i64 0) := R13.c 1 (of_decide_eq_true rfl)
            have gR_1 := R13.f 1 (of_decide_eq_true rfl)
            have cR_2 : W13.cell? ⟨w.heap.size + 1, 2, none⟩ = some (.int .i64 0) := R13.c 2 (of_decide_eq_true rfl)
            have gR_2 := R13.f 2 (of_decide_eq_true rfl)
            have cR_3 : W13.cell? ⟨w.heap.size + 1, 3, none⟩ = some (.int .i64 0) := R13.c 3 (of_decide_eq_true rfl)
            have gR_3 := R13.f 3 (of_decide_eq_true rfl)
            have cR_4 : W13.cell? ⟨w.heap.size + 1, 4, none⟩ = some (.int .i64 0) := R13.c 4 (of_decide_eq_true rfl)
            have gR_4 := R13.f 4 (of_decide_eq_true rfl)
            have cN_0 : W13.cell? ⟨w.heap.size + 2, 0, none⟩ = some (.int .i64 0) := N13.c 0 (of_decide_eq_true rfl)
            have cN_1 : W13.cell? ⟨w.heap.size + 2, 1, none⟩ = some (.int .i64 0) := N13.c 1 (of_decide_eq_true rfl)
            have cN_2 : W13.cell? ⟨w.heap.size + 2, 2, none⟩ = some (.int .i64 0) := N13.c 2 (of_decide_eq_true rfl)
            have cN_3 : W13.cell? ⟨w.heap.size + 2, 3, none⟩ = some (.int .i64 0) := N13.c 3 (of_decide_eq_true rfl)
            have cN_4 : W13.cell? ⟨w.heap.size + 2, 4, none⟩ = some (.int .i64 0) := N13.c 4 (of_decide_eq_true rfl)
            go_wp2_with (with_reducible refine post_stop ?_)
            have d0 := Arr.c ((((((((R13.new (w.heap.size + 3) 2 (by omega) (.int .i64 u.1.1)).new (w.heap.size + 3) 3 (by omega) (.int .i64 u.1.2.1)).new (w.heap.size + 3) 4 (by omega) (.int .i64 u.1.2.2)).put 0 (of_decide_eq_true rfl) (.int .i64 0) [.int .i64 0, .int .i64 0, .int .i64 0, .int .i64 0, .int .i64 0] rfl).put 1 (of_decide_eq_true rfl) (.int .i64 0) [.int .i64 0, .int .i64 0, .int .i64 0, .int .i64 0, .int .i64 0] rfl).put 2 (of_decide_eq_true rfl) (.int .i64 0) [.int .i64 0, .int .i64 0, .int .i64 0, .int .i64 0, .int .i64 0] rfl).put 3 (of_decide_eq_true rfl) (.int .i64 0) [.int .i64 0, .int .i64 0, .int .i64 0, .int .i64 0, .int .i64 0] rfl).put 4 (of_decide_eq_true rfl) (.int .i64 0) [.int .i64 0, .int .i64 0, .int .i64 0, .int .i64 0, .int .i64 0] rfl) 0 (of_decide_eq_true rfl)
            have d1 := Arr.c ((((((((R13.new (w.heap.size + 3) 2 (by omega) (.int .i64 u.1.1)).new (w.heap.size + 3) 3 (by omega) (.int .i64 u.1.2.1)).new (w.heap.size + 3) 4 (by omega) (.int .i64 u.1.2.2)).put 0 (of_decide_eq_true rfl) (.int .i64 0) [.int .i64 0, .int .i64 0, .int .i64 0, .int .i64 0, .int .i64 0] rfl).put 1 (of_decide_eq_true rfl) (.int .i64 0) [.int .i64 0, .int .i64 0, .int .i64 0, .int .i64 0, .int .i64 0] rfl).put 2 (of_decide_eq_true rfl) (.int .i64 0) [.int .i64 0, .int .i64 0, .int .i64 0, .int .i64 0, .int .i64 0] rfl).put 3 (of_decide_eq_true rfl) (.int .i64 0) [.int .i64 0, .int .i64 0, .int .i64 0, .int .i64 0, .int .i64 0] rfl).put 4 (of_decide_eq_true rfl) (.int .i64 0) [.int .i64 0, .int .i64 0, .int .i64 0, .int .i64 0, .int .i64 0] rfl) 1 (of_decide_eq_true rfl)
            have d2 := Arr.c ((((((((R13.new (w.heap.size + 3) 2 (by omega) (.int .i64 u.1.1)).new (w.heap.size + 3) 3 (by omega) (.int .i64 u.1.2.1)).new (w.heap.size + 3) 4 (by omega) (.int .i64 u.1.2.2)).put 0 (of_decide_eq_true rfl) (.int .i64 0) [.int .i64 0, .int .i64 0, .int .i64 0, .int .i64 0, .int .i64 0] rfl).put 1 (of_decide_eq_true rfl) (.int .i64 0) [.int .i64 0, .int .i64 0, .int .i64 0, .int .i64 0, .int .i64 0] rfl).put 2 (of_decide_eq_true rfl) (.int .i64 0) [.int .i64 0, .int .i64 0, .int .i64 0, .int .i64 0, .int .i64 0] rfl).put 3 (of_decide_eq_true rfl) (.int .i64 0) [.int .i64 0, .int .i64 0, .int .i64 0, .int .i64 0, .int .i64 0] rfl).put 4 (of_decide_eq_true rfl) (.int .i64 0) [.int .i64 0, .int .i64 0, .int .i64 0, .int .i64 0, .int .i64 0] rfl) 2 (of_decide_eq_true rfl)
            have d3 := Arr.c ((((((((R13.new (w.heap.size + 3) 2 (by omega) (.int .i64 u.1.1)).new (w.heap.size + 3) 3 (by omega) (.int .i64 u.1.2.1)).new (w.heap.size + 3) 4 (by omega) (.int .i64 u.1.2.2)).put 0 (of_decide_eq_true rfl) (.int .i64 0) [.int .i64 0, .int .i64 0, .int .i64 0, .int .i64 0, .int .i64 0] rfl).put 1 (of_decide_eq_true rfl) (.int .i64 0) [.int .i64 0, .int .i64 0, .int .i64 0, .int .i64 0, .int .i64 0] rfl).put 2 (of_decide_eq_true rfl) (.int .i64 0) [.int .i64 0, .int .i64 0, .int .i64 0, .int .i64 0, .int .i64 0] rfl).put 3 (of_decide_eq_true rfl) (.int .i64 0) [.int .i64 0, .int .i64 0, .int .i64 0, .int .i64 0, .int .i64 0] rfl).put 4 (of_decide_eq_true rfl) (.int .i64 0) [.int .i64 0, .int .i64 0, .int .i64 0, .int .i64 0, .int .i64 0] rfl) 3 (of_decide_eq_true rfl)
            have d4 := Arr.c ((((((((R13.new (w.heap.size + 3) 2 (by omega) (.int .i64 u.1.1)).new (w.heap.size + 3) 3 (by omega) (.int .i64 u.1.2.1)).new (w.heap.size + 3) 4 (by omega) (.int .i64 u.1.2.2)).put 0 (of_decide_eq_true rfl) (.int .i64 0) [.int .i64 0, .int .i64 0, .int .i64 0, .int .i64 0, .int .i64 0] rfl).put 1 (of_decide_eq_true rfl) (.int .i64 0) [.int .i64 0, .int .i64 0, .int .i64 0, .int .i64 0, .int .i64 0] rfl).put 2 (of_decide_eq_true rfl) (.int .i64 0) [.int .i64 0, .int .i64 0, .int .i64 0, .int .i64 0, .int .i64 0] rfl).put 3 (of_decide_eq_true rfl) (.int .i64 0) [.int .i64 0, .int .i64 0, .int .i64 0, .int .i64 0, .int .i64 0] rfl).put 4 (of_decide_eq_true rfl) (.int .i64 0) [.int .i64 0, .int .i64 0, .int .i64 0, .int .i64 0, .int .i64 0] rfl) 4 (of_decide_eq_true rfl)
            simp only [List.getElem_cons_zero, List.getElem_cons_succ] at d0 d1 d2 d3 d4
            exact ⟨bodyPost_ret (v := .tuple #[.agg #[.int .i64 0, .int .i64 0, .int .i64 0, .int .i64 0, .int .i64 0], .bool false]) (by simp [results_cell_tmp Try.results10, asAddr, go_sem, d0, d1, d2, d3, d4]) rfl ⟨by rw [HR.out, HP.out, HK.out]; unfold sunOk; rw [Hl.out, Eu.out, Hu.out]; rfl, (bel_new (bel_new (bel_new (bel_new (bel_new (bel_new (bel_new (bel_new L13 _ _ (by omega) _) _ _ (by omega) _) _ _ (by omega) _) _ _ (by omega) _) _ _ (by omega) _) _ _ (by omega) _) _ _ (by omega) _) _ _ (by omega) _)⟩⟩
        by_cases xg : 2000 ≤ g
        · have Hl : Hid (lit a b c d g f = true) := by show _ = _; unfold lit; simp; omega
          rw [rounds_succ]
          have cB_1 : W3.cell? ⟨w.heap.size, 1, none⟩ = some (.string s) := B3.c 1 (of_decide_eq_true rfl)
          go_wp2_with fail
          refine (h0 _).mono ?_
          rintro e W4 ⟨rfl, k⟩
          have L4 := bel_then L3 k
          have B4 := B3.below k
          have R4 := R3.below k
          have N4 := N3.below k
          have r4 := r3.below k
          have F4 := F3.below k
          have Bz4 := B4.lies
          have Rz4 := R4.lies
          have Nz4 := N4.lies
          have rz4 := r4.lies
          have Fz4 := F4.lies
          clear k
          clear L3 B3 R3 N3 r3 F3 Bz3 Rz3 Nz3 rz3 Fz3
          clear cB_1
          have cB_1 : W4.cell? ⟨w.heap.size, 1, none⟩ = some (.string s) := B4.c 1 (of_decide_eq_true rfl)
          go_wp2_with fail
          refine (h1 _).mono ?_
          rintro e W5 ⟨rfl, k⟩
          have L5 := bel_then L4 k
          have B5 := B4.below k
          have R5 := R4.below k
          have N5 := N4.below k
          have r5 := r4.below k
          have F5 := F4.below k
          have Bz5 := B5.lies
          have Rz5 := R5.lies
          have Nz5 := N5.lies
          have rz5 := r5.lies
          have Fz5 := F5.lies
          clear k
          clear L4 B4 R4 N4 r4 F4 Bz4 Rz4 Nz4 rz4 Fz4
          clear cB_1
          have cr_2 : W5.cell? ⟨w.heap.size + 3, 2, none⟩ = some (.int .i64 0) := r5.c 2 (of_decide_eq_true rfl)
          have gr_2 := r5.f 2 (of_decide_eq_true rfl)
          go_wp2_with fail
          clear cr_2 gr_2
          refine rounds_letter (S := fun W => Below w.heap.size w W ∧ Arr (w.heap.size) [.int .i64 2, .string s] W ∧ Arr (w.heap.size + 1) [.int .i64 0, .int .i64 0, .int .i64 0, .int .i64 0, .int .i64 0] W ∧ Arr (w.heap.size + 2) [.int .i64 0, .int .i64 0, .int .i64 0, .int .i64 0, .int .i64 0] W ∧ Arr (w.heap.size + 3) [.int .i64 2, .int .i64 t, .int .i64 ((a - b) * 16777216), .int .i64 0, .int .i64 0] W ∧ Fl (q) false W) ⟨bel_new (L5) _ _ (by omega) _, Arr.new (B5) _ _ (by omega) _, Arr.new (R5) _ _ (by omega) _, Arr.new (N5) _ _ (by omega) _, Arr.put (r5) 2 (of_decide_eq_true rfl) (.int .i64 ((a - b) * 16777216)) [.int .i64 2, .int .i64 t, .int .i64 ((a - b) * 16777216), .int .i64 0, .int .i64 0] rfl, Fl.new (F5) _ _ (by omega) _⟩ ?_
          rintro W6 ⟨L6, B6, R6, N6, r6, F6⟩
          have Bz6 := B6.lies
          have Rz6 := R6.lies
          have Nz6 := N6.lies
          have rz6 := r6.lies
          have Fz6 := F6.lies
          clear L5 B5 R5 N5 r5 F5 Bz5 Rz5 Nz5 rz5 Fz5
          rw [rounds_succ]
          have cB_1 : W6.cell? ⟨w.heap.size, 1, none⟩ = some (.string s) := B6.c 1 (of_decide_eq_true rfl)
          go_wp2_with fail
          refine (h2 _).mono ?_
          rintro e W7 ⟨rfl, k⟩
          have L7 := bel_then L6 k
          have B7 := B6.below k
          have R7 := R6.below k
          have N7 := N6.below k
          have r7 := r6.below k
          have F7 := F6.below k
          have Bz7 := B7.lies
          have Rz7 := R7.lies
          have Nz7 := N7.lies
          have rz7 := r7.lies
          have Fz7 := F7.lies
          clear k
          clear L6 B6 R6 N6 r6 F6 Bz6 Rz6 Nz6 rz6 Fz6
          clear cB_1
          have cB_1 : W7.cell? ⟨w.heap.size, 1, none⟩ = some (.string s) := B7.c 1 (of_decide_eq_true rfl)
          go_wp2_with fail
          refine (h3 _).mono ?_
          rintro e W8 ⟨rfl, k⟩
          have L8 := bel_then L7 k
          have B8 := B7.below k
          have R8 := R7.below k
          have N8 := N7.below k
          have r8 := r7.below k
          have F8 := F7.below k
          have Bz8 := B8.lies
          have Rz8 := R8.lies
          have Nz8 := N8.lies
          have rz8 := r8.lies
          have Fz8 := F8.lies
          clear k
          clear L7 B7 R7 N7 r7 F7 Bz7 Rz7 Nz7 rz7 Fz7
          clear cB_1
          have cr_3 : W8.cell? ⟨w.heap.size + 3, 3, none⟩ = some (.int .i64 0) := r8.c 3 (of_decide_eq_true rfl)
          have gr_3 := r8.f 3 (of_decide_eq_true rfl)
          go_wp2_with fail
          clear cr_3 gr_3
          refine rounds_letter (S := fun W => Below w.heap.size w W ∧ Arr (w.heap.size) [.int .i64 2, .string s] W ∧ Arr (w.heap.size + 1) [.int .i64 0, .int .i64 0, .int .i64 0, .int .i64 0, .int .i64 0] W ∧ Arr (w.heap.size + 2) [.int .i64 0, .int .i64 0, .int .i64 0, .int .i64 0, .int .i64 0] W ∧ Arr (w.heap.size + 3) [.int .i64 2, .int .i64 t, .int .i64 ((a - b) * 16777216), .int .i64 ((c - d) * 16777216), .int .i64 0] W ∧ Fl (q) false W) ⟨bel_new (L8) _ _ (by omega) _, Arr.new (B8) _ _ (by omega) _, Arr.new (R8) _ _ (by omega) _, Arr.new (N8) _ _ (by omega) _, Arr.put (r8) 3 (of_decide_eq_true rfl) (.int .i64 ((c - d) * 16777216)) [.int .i64 2, .int .i64 t, .int .i64 ((a - b) * 16777216), .int .i64 ((c - d) * 16777216), .int .i64 0] rfl, Fl.new (F8) _ _ (by omega) _⟩ ?_
          rintro W9 ⟨L9, B9, R9, N9, r9, F9⟩
          have Bz9 := B9.lies
          have Rz9 := R9.lies
          have Nz9 := N9.lies
          have rz9 := r9.lies
          have Fz9 := F9.lies
          clear L8 B8 R8 N8 r8 F8 Bz8 Rz8 Nz8 rz8 Fz8
          rw [rounds_succ]
          have cB_1 : W9.cell? ⟨w.heap.size, 1, none⟩ = some (.string s) := B9.c 1 (of_decide_eq_true rfl)
          go_wp2_with fail
          refine (h4 _).mono ?_
          rintro e W10 ⟨rfl, k⟩
          have L10 := bel_then L9 k
          have B10 := B9.below k
          have R10 := R9.below k
          have N10 := N9.below k
          have r10 := r9.below k
          have F10 := F9.below k
          have Bz10 := B10.lies
          have Rz10 := R10.lies
          have Nz10 := N10.lies
          have rz10 := r10.lies
          have Fz10 := F10.lies
          clear k
          clear L9 B9 R9 N9 r9 F9 Bz9 Rz9 Nz9 rz9 Fz9
          clear cB_1
          have cB_1 : W10.cell? ⟨w.heap.size, 1, none⟩ = some (.string s) := B10.c 1 (of_decide_eq_true rfl)
          go_wp2_with fail
          refine (h5 _).mono ?_
          rintro e W11 ⟨rfl, k⟩
          have L11 := bel_then L10 k
          have B11 := B10.below k
          have R11 := R10.below k
          have N11 := N10.below k
          have r11 := r10.below k
          have F11 := F10.below k
          have Bz11 := B11.lies
          have Rz11 := R11.lies
          have Nz11 := N11.lies
          have rz11 := r11.lies
          have Fz11 := F11.lies
          clear k
          clear L10 B10 R10 N10 r10 F10 Bz10 Rz10 Nz10 rz10 Fz10
          clear cB_1
          have cr_4 : W11.cell? ⟨w.heap.size + 3, 4, none⟩ = some (.int .i64 0) := r11.c 4 (of_decide_eq_true rfl)
          have gr_4 := r11.f 4 (of_decide_eq_true rfl)
          go_wp2_with fail
          clear cr_4 gr_4
          refine rounds_letter (S := fun W => Below w.heap.size w W ∧ Arr (w.heap.size) [.int .i64 2, .string s] W ∧ Arr (w.heap.size + 1) [.int .i64 0, .int .i64 0, .int .i64 0, .int .i64 0, .int .i64 0] W ∧ Arr (w.heap.size + 2) [.int .i64 0, .int .i64 0, .int .i64 0, .int .i64 0, .int .i64 0] W ∧ Arr (w.heap.size + 3) [.int .i64 2, .int .i64 t, .int .i64 ((a - b) * 16777216), .int .i64 ((c - d) * 16777216), .int .i64 ((g - f) * 16777216)] W ∧ Fl (q) false W) ⟨bel_new (L11) _ _ (by omega) _, Arr.new (B11) _ _ (by omega) _, Arr.new (R11) _ _ (by omega) _, Arr.new (N11) _ _ (by omega) _, Arr.put (r11) 4 (of_decide_eq_true rfl) (.int .i64 ((g - f) * 16777216)) [.int .i64 2, .int .i64 t, .int .i64 ((a - b) * 16777216), .int .i64 ((c - d) * 16777216), .int .i64 ((g - f) * 16777216)] rfl, Fl.new (F11) _ _ (by omega) _⟩ ?_
          rintro W12 ⟨L12, B12, R12, N12, r12, F12⟩
          have Bz12 := B12.lies
          have Rz12 := R12.lies
          have Nz12 := N12.lies
          have rz12 := r12.lies
          have Fz12 := F12.lies
          clear L11 B11 R11 N11 r11 F11 Bz11 Rz11 Nz11 rz11 Fz11
          rw [rounds_succ]
          have cr_2 : W12.cell? ⟨w.heap.size + 3, 2, none⟩ = some (.int .i64 ((a - b) * 16777216)) := r12.c 2 (of_decide_eq_true rfl)
          have gr_2 := r12.f 2 (of_decide_eq_true rfl)
          have cr_3 : W12.cell? ⟨w.heap.size + 3, 3, none⟩ = some (.int .i64 ((c - d) * 16777216)) := r12.c 3 (of_decide_eq_true rfl)
          have gr_3 := r12.f 3 (of_decide_eq_true rfl)
          have cr_4 : W12.cell? ⟨w.heap.size + 3, 4, none⟩ = some (.int .i64 ((g - f) * 16777216)) := r12.c 4 (of_decide_eq_true rfl)
          have gr_4 := r12.f 4 (of_decide_eq_true rfl)
          go_wp2_with fail
          refine (xUnit_any q false ((a - b) * 16777216, (c - d) * 16777216, (g - f) * 16777216) _ F12).mono ?_
          rintro e W13 ⟨rfl, F13, k⟩
          have L13 := k.on L12 (by omega)
          have B13 := B12.kept k (by omega)
          have R13 := R12.kept k (by omega)
          have N13 := N12.kept k (by omega)
          have r13 := r12.kept k (by omega)
          have Bz13 := B13.lies
          have Rz13 := R13.lies
          have Nz13 := N13.lies
          have rz13 := r13.lies
          have Fz13 := F13.lies
          clear k
          clear L12 B12 R12 N12 r12 F12 Bz12 Rz12 Nz12 rz12 Fz12
          have Eu : Hid (sunS a b c d g f = vUnitS false ((a - b) * 16777216, (c - d) * 16777216, (g - f) * 16777216)) := rfl
          generalize vUnitS false ((a - b) * 16777216, (c - d) * 16777216, (g - f) * 16777216) = u at F13 Eu ⊢
          clear cr_2 gr_2 cr_3 gr_3 cr_4 gr_4
          have cr_2 : W13.cell? ⟨w.heap.size + 3, 2, none⟩ = some (.int .i64 ((a - b) * 16777216)) := r13.c 2 (of_decide_eq_true rfl)
          have gr_2 := r13.f 2 (of_decide_eq_true rfl)
          have cr_3 : W13.cell? ⟨w.heap.size + 3, 3, none⟩ = some (.int .i64 ((c - d) * 16777216)) := r13.c 3 (of_decide_eq_true rfl)
          have gr_3 := r13.f 3 (of_decide_eq_true rfl)
          have cr_4 : W13.cell? ⟨w.heap.size + 3, 4, none⟩ = some (.int .i64 ((g - f) * 16777216)) := r13.c 4 (of_decide_eq_true rfl)
          have gr_4 := r13.f 4 (of_decide_eq_true rfl)
          have cF := F13.cell
          cases hu : u.2
          · have Hu : Hid (u.2 = false) := hu
            rw [hu] at cF
            clear hu
            have cR_0 : W13.cell? ⟨w.heap.size + 1, 0, none⟩ = some (.int .i64 0) := R13.c 0 (of_decide_eq_true rfl)
            have gR_0 := R13.f 0 (of_decide_eq_true rfl)
            have cR_1 : W13.cell? ⟨w.heap.size + 1, 1, none⟩ = some (.int .i64 0) := R13.c 1 (of_decide_eq_true rfl)
            have gR_1 := R13.f 1 (of_decide_eq_true rfl)
            have cR_2 : W13.cell? ⟨w.heap.size + 1, 2, none⟩ = some (.int .i64 0) := R13.c 2 (of_decide_eq_true rfl)
            have gR_2 := R13.f 2 (of_decide_eq_true rfl)
            have cR_3 : W13.cell? ⟨w.heap.size + 1, 3, none⟩ = some (.int .i64 0) := R13.c 3 (of_decide_eq_true rfl)
            have gR_3 := R13.f 3 (of_decide_eq_true rfl)
            have cR_4 : W13.cell? ⟨w.heap.size + 1, 4, none⟩ = some (.int .i64 0) := R13.c 4 (of_decide_eq_true rfl)
            have gR_4 := R13.f 4 (of_decide_eq_true rfl)
            have cr_0 : W13.cell? ⟨w.heap.size + 3, 0, none⟩ = some (.int .i64 2) := r13.c 0 (of_decide_eq_true rfl)
            have cr_1 : W13.cell? ⟨w.heap.size + 3, 1, none⟩ = some (.int .i64 t) := r13.c 1 (of_decide_eq_true rfl)
            go_wp2_with (with_reducible refine post_stop ?_)
            have d0 := Arr.c ((((((((R13.new (w.heap.size + 3) 2 (by omega) (.int .i64 u.1.1)).new (w.heap.size + 3) 3 (by omega) (.int .i64 u.1.2.1)).new (w.heap.size + 3) 4 (by omega) (.int .i64 u.1.2.2)).put 0 (of_decide_eq_true rfl) (.int .i64 2) [.int .i64 2, .int .i64 0, .int .i64 0, .int .i64 0, .int .i64 0] rfl).put 1 (of_decide_eq_true rfl) (.int .i64 t) [.int .i64 2, .int .i64 t, .int .i64 0, .int .i64 0, .int .i64 0] rfl).put 2 (of_decide_eq_true rfl) (.int .i64 u.1.1) [.int .i64 2, .int .i64 t, .int .i64 u.1.1, .int .i64 0, .int .i64 0] rfl).put 3 (of_decide_eq_true rfl) (.int .i64 u.1.2.1) [.int .i64 2, .int .i64 t, .int .i64 u.1.1, .int .i64 u.1.2.1, .int .i64 0] rfl).put 4 (of_decide_eq_true rfl) (.int .i64 u.1.2.2) [.int .i64 2, .int .i64 t, .int .i64 u.1.1, .int .i64 u.1.2.1, .int .i64 u.1.2.2] rfl) 0 (of_decide_eq_true rfl)
            have d1 := Arr.c ((((((((R13.new (w.heap.size + 3) 2 (by omega) (.int .i64 u.1.1)).new (w.heap.size + 3) 3 (by omega) (.int .i64 u.1.2.1)).new (w.heap.size + 3) 4 (by omega) (.int .i64 u.1.2.2)).put 0 (of_decide_eq_true rfl) (.int .i64 2) [.int .i64 2, .int .i64 0, .int .i64 0, .int .i64 0, .int .i64 0] rfl).put 1 (of_decide_eq_true rfl) (.int .i64 t) [.int .i64 2, .int .i64 t, .int .i64 0, .int .i64 0, .int .i64 0] rfl).put 2 (of_decide_eq_true rfl) (.int .i64 u.1.1) [.int .i64 2, .int .i64 t, .int .i64 u.1.1, .int .i64 0, .int .i64 0] rfl).put 3 (of_decide_eq_true rfl) (.int .i64 u.1.2.1) [.int .i64 2, .int .i64 t, .int .i64 u.1.1, .int .i64 u.1.2.1, .int .i64 0] rfl).put 4 (of_decide_eq_true rfl) (.int .i64 u.1.2.2) [.int .i64 2, .int .i64 t, .int .i64 u.1.1, .int .i64 u.1.2.1, .int .i64 u.1.2.2] rfl) 1 (of_decide_eq_true rfl)
            have d2 := Arr.c ((((((((R13.new (w.heap.size + 3) 2 (by omega) (.int .i64 u.1.1)).new (w.heap.size + 3) 3 (by omega) (.int .i64 u.1.2.1)).new (w.heap.size + 3) 4 (by omega) (.int .i64 u.1.2.2)).put 0 (of_decide_eq_true rfl) (.int .i64 2) [.int .i64 2, .int .i64 0, .int .i64 0, .int .i64 0, .int .i64 0] rfl).put 1 (of_decide_eq_true rfl) (.int .i64 t) [.int .i64 2, .int .i64 t, .int .i64 0, .int .i64 0, .int .i64 0] rfl).put 2 (of_decide_eq_true rfl) (.int .i64 u.1.1) [.int .i64 2, .int .i64 t, .int .i64 u.1.1, .int .i64 0, .int .i64 0] rfl).put 3 (of_decide_eq_true rfl) (.int .i64 u.1.2.1) [.int .i64 2, .int .i64 t, .int .i64 u.1.1, .int .i64 u.1.2.1, .int .i64 0] rfl).put 4 (of_decide_eq_true rfl) (.int .i64 u.1.2.2) [.int .i64 2, .int .i64 t, .int .i64 u.1.1, .int .i64 u.1.2.1, .int .i64 u.1.2.2] rfl) 2 (of_decide_eq_true rfl)
            have d3 := Arr.c ((((((((R13.new (w.heap.size + 3) 2 (by omega) (.int .i64 u.1.1)).new (w.heap.size + 3) 3 (by omega) (.int .i64 u.1.2.1)).new (w.heap.size + 3) 4 (by omega) (.int .i64 u.1.2.2)).put 0 (of_decide_eq_true rfl) (.int .i64 2) [.int .i64 2, .int .i64 0, .int .i64 0, .int .i64 0, .int .i64 0] rfl).put 1 (of_decide_eq_true rfl) (.int .i64 t) [.int .i64 2, .int .i64 t, .int .i64 0, .int .i64 0, .int .i64 0] rfl).put 2 (of_decide_eq_true rfl) (.int .i64 u.1.1) [.int .i64 2, .int .i64 t, .int .i64 u.1.1, .int .i64 0, .int .i64 0] rfl).put 3 (of_decide_eq_true rfl) (.int .i64 u.1.2.1) [.int .i64 2, .int .i64 t, .int .i64 u.1.1, .int .i64 u.1.2.1, .int .i64 0] rfl).put 4 (of_decide_eq_true rfl) (.int .i64 u.1.2.2) [.int .i64 2, .int .i64 t, .int .i64 u.1.1, .int .i64 u.1.2.1, .int .i64 u.1.2.2] rfl) 3 (of_decide_eq_true rfl)
            have d4 := Arr.c ((((((((R13.new (w.heap.size + 3) 2 (by omega) (.int .i64 u.1.1)).new (w.heap.size + 3) 3 (by omega) (.int .i64 u.1.2.1)).new (w.heap.size + 3) 4 (by omega) (.int .i64 u.1.2.2)).put 0 (of_decide_eq_true rfl) (.int .i64 2) [.int .i64 2, .int .i64 0, .int .i64 0, .int .i64 0, .int .i64 0] rfl).put 1 (of_decide_eq_true rfl) (.int .i64 t) [.int .i64 2, .int .i64 t, .int .i64 0, .int .i64 0, .int .i64 0] rfl).put 2 (of_decide_eq_true rfl) (.int .i64 u.1.1) [.int .i64 2, .int .i64 t, .int .i64 u.1.1, .int .i64 0, .int .i64 0] rfl).put 3 (of_decide_eq_true rfl) (.int .i64 u.1.2.1) [.int .i64 2, .int .i64 t, .int .i64 u.1.1, .int .i64 u.1.2.1, .int .i64 0] rfl).put 4 (of_decide_eq_true rfl) (.int .i64 u.1.2.2) [.int .i64 2, .int .i64 t, .int .i64 u.1.1, .int .i64 u.1.2.1, .int .i64 u.1.2.2] rfl) 4 (of_decide_eq_true rfl)
            simp only [List.getElem_cons_zero, List.getElem_cons_succ] at d0 d1 d2 d3 d4
            exact ⟨bodyPost_ret (v := .tuple #[.agg #[.int .i64 2, .int .i64 t, .int .i64 u.1.1, .int .i64 u.1.2.1, .int .i64 u.1.2.2], .bool true]) (by simp [results_cell_tmp Try.results10, asAddr, go_sem, d0, d1, d2, d3, d4]) rfl ⟨by rw [HR.out, HP.out, HK.out, HV.out]; unfold sunOk; rw [Hl.out, Eu.out, Hu.out]; rfl, (bel_new (bel_new (bel_new (bel_new (bel_new (bel_new (bel_new (bel_new L13 _ _ (by omega) _) _ _ (by omega) _) _ _ (by omega) _) _ _ (by omega) _) _ _ (by omega) _) _ _ (by omega) _) _ _ (by omega) _) _ _ (by omega) _)⟩⟩
          · have Hu : Hid (u.2 = true) := hu
            rw [hu] at cF
            clear hu
            have cR_0 : W13.cell? ⟨w.heap.size + 1, 0, none⟩ = some (.int .i64 0) := R13.c 0 (of_decide_eq_true rfl)
            have gR_0 := R13.f 0 (of_decide_eq_true rfl)
            have cR_1 : W13.cell? ⟨w.heap.size + 1, 1, none⟩ = some (.int .i64 0) := R13.c 1 (of_decide_eq_true rfl)
            have gR_1 := R13.f 1 (of_decide_eq_true rfl)
            have cR_2 : W13.cell? ⟨w.heap.size + 1, 2, none⟩ = some (.int .i64 0) := R13.c 2 (of_decide_eq_true rfl)
            have gR_2 := R13.f 2 (of_decide_eq_true rfl)
            have cR_3 : W13.cell? ⟨w.heap.size + 1, 3, none⟩ = some (.int .i64 0) := R13.c 3 (of_decide_eq_true rfl)
            have gR_3 := R13.f 3 (of_decide_eq_true rfl)
            have cR_4 : W13.cell? ⟨w.heap.size + 1, 4, none⟩ = some (.int .i64 0) := R13.c 4 (of_decide_eq_true rfl)
            have gR_4 := R13.f 4 (of_decide_eq_true rfl)
            have cN_0 : W13.cell? ⟨w.heap.size + 2, 0, none⟩ = some (.int .i64 0) := N13.c 0 (of_decide_eq_true rfl)
            have cN_1 : W13.cell? ⟨w.heap.size + 2, 1, none⟩ = some (.int .i64 0) := N13.c 1 (of_decide_eq_true rfl)
            have cN_2 : W13.cell? ⟨w.heap.size + 2, 2, none⟩ = some (.int .i64 0) := N13.c 2 (of_decide_eq_true rfl)
            have cN_3 : W13.cell? ⟨w.heap.size + 2, 3, none⟩ = some (.int .i64 0) := N13.c 3 (of_decide_eq_true rfl)
            have cN_4 : W13.cell? ⟨w.heap.size + 2, 4, none⟩ = some (.int .i64 0) := N13.c 4 (of_decide_eq_true rfl)
            go_wp2_with (with_reducible refine post_stop ?_)
            have d0 := Arr.c ((((((((R13.new (w.heap.size + 3) 2 (by omega) (.int .i64 u.1.1)).new (w.heap.size + 3) 3 (by omega) (.int .i64 u.1.2.1)).new (w.heap.size + 3) 4 (by omega) (.int .i64 u.1.2.2)).put 0 (of_decide_eq_true rfl) (.int .i64 0) [.int .i64 0, .int .i64 0, .int .i64 0, .int .i64 0, .int .i64 0] rfl).put 1 (of_decide_eq_true rfl) (.int .i64 0) [.int .i64 0, .int .i64 0, .int .i64 0, .int .i64 0, .int .i64 0] rfl).put 2 (of_decide_eq_true rfl) (.int .i64 0) [.int .i64 0, .int .i64 0, .int .i64 0, .int .i64 0, .int .i64 0] rfl).put 3 (of_decide_eq_true rfl) (.int .i64 0) [.int .i64 0, .int .i64 0, .int .i64 0, .int .i64 0, .int .i64 0] rfl).put 4 (of_decide_eq_true rfl) (.int .i64 0) [.int .i64 0, .int .i64 0, .int .i64 0, .int .i64 0, .int .i64 0] rfl) 0 (of_decide_eq_true rfl)
            have d1 := Arr.c ((((((((R13.new (w.heap.size + 3) 2 (by omega) (.int .i64 u.1.1)).new (w.heap.size + 3) 3 (by omega) (.int .i64 u.1.2.1)).new (w.heap.size + 3) 4 (by omega) (.int .i64 u.1.2.2)).put 0 (of_decide_eq_true rfl) (.int .i64 0) [.int .i64 0, .int .i64 0, .int .i64 0, .int .i64 0, .int .i64 0] rfl).put 1 (of_decide_eq_true rfl) (.int .i64 0) [.int .i64 0, .int .i64 0, .int .i64 0, .int .i64 0, .int .i64 0] rfl).put 2 (of_decide_eq_true rfl) (.int .i64 0) [.int .i64 0, .int .i64 0, .int .i64 0, .int .i64 0, .int .i64 0] rfl).put 3 (of_decide_eq_true rfl) (.int .i64 0) [.int .i64 0, .int .i64 0, .int .i64 0, .int .i64 0, .int .i64 0] rfl).put 4 (of_decide_eq_true rfl) (.int .i64 0) [.int .i64 0, .int .i64 0, .int .i64 0, .int .i64 0, .int .i64 0] rfl) 1 (of_decide_eq_true rfl)
            have d2 := Arr.c ((((((((R13.new (w.heap.size + 3) 2 (by omega) (.int .i64 u.1.1)).new (w.heap.size + 3) 3 (by omega) (.int .i64 u.1.2.1)).new (w.heap.size + 3) 4 (by omega) (.int .i64 u.1.2.2)).put 0 (of_decide_eq_true rfl) (.int .i64 0) [.int .i64 0, .int .i64 0, .int .i64 0, .int .i64 0, .int .i64 0] rfl).put 1 (of_decide_eq_true rfl) (.int .i64 0) [.int .i64 0, .int .i64 0, .int .i64 0, .int .i64 0, .int .i64 0] rfl).put 2 (of_decide_eq_true rfl) (.int .i64 0) [.int .i64 0, .int .i64 0, .int .i64 0, .int .i64 0, .int .i64 0] rfl).put 3 (of_decide_eq_true rfl) (.int .i64 0) [.int .i64 0, .int .i64 0, .int .i64 0, .int .i64 0, .int .i64 0] rfl).put 4 (of_decide_eq_true rfl) (.int .i64 0) [.int .i64 0, .int .i64 0, .int .i64 0, .int .i64 0, .int .i64 0] rfl) 2 (of_decide_eq_true rfl)
            have d3 := Arr.c ((((((((R13.new (w.heap.size + 3) 2 (by omega) (.int .i64 u.1.1)).new (w.heap.size + 3) 3 (by omega) (.int .i64 u.1.2.1)).new (w.heap.size + 3) 4 (by omega) (.int .i64 u.1.2.2)).put 0 (of_decide_eq_true rfl) (.int .i64 0) [.int .i64 0, .int .i64 0, .int .i64 0, .int .i64 0, .int .i64 0] rfl).put 1 (of_decide_eq_true rfl) (.int .i64 0) [.int .i64 0, .int .i64 0, .int .i64 0, .int .i64 0, .int .i64 0] rfl).put 2 (of_decide_eq_true rfl) (.int .i64 0) [.int .i64 0, .int .i64 0, .int .i64 0, .int .i64 0, .int .i64 0] rfl).put 3 (of_decide_eq_true rfl) (.int .i64 0) [.int .i64 0, .int .i64 0, .int .i64 0, .int .i64 0, .int .i64 0] rfl).put 4 (of_decide_eq_true rfl) (.int .i64 0) [.int .i64 0, .int .i64 0, .int .i64 0, .int .i64 0, .int .i64 0] rfl) 3 (of_decide_eq_true rfl)
            have d4 := Arr.c ((((((((R13.new (w.heap.size + 3) 2 (by omega) (.int .i64 u.1.1)).new (w.heap.size + 3) 3 (by omega) (.int .i64 u.1.2.1)).new (w.heap.size + 3) 4 (by omega) (.int .i64 u.1.2.2)).put 0 (of_decide_eq_true rfl) (.int .i64 0) [.int .i64 0, .int .i64 0, .int .i64 0, .int .i64 0, .int .i64 0] rfl).put 1 (of_decide_eq_true rfl) (.int .i64 0) [.int .i64 0, .int .i64 0, .int .i64 0, .int .i64 0, .int .i64 0] rfl).put 2 (of_decide_eq_true rfl) (.int .i64 0) [.int .i64 0, .int .i64 0, .int .i64 0, .int .i64 0, .int .i64 0] rfl).put 3 (of_decide_eq_true rfl) (.int .i64 0) [.int .i64 0, .int .i64 0, .int .i64 0, .int .i64 0, .int .i64 0] rfl).put 4 (of_decide_eq_true rfl) (.int .i64 0) [.int .i64 0, .int .i64 0, .int .i64 0, .int .i64 0, .int .i64 0] rfl) 4 (of_decide_eq_true rfl)
            simp only [List.getElem_cons_zero, List.getElem_cons_succ] at d0 d1 d2 d3 d4
            exact ⟨bodyPost_ret (v := .tuple #[.agg #[.int .i64 0, .int .i64 0, .int .i64 0, .int .i64 0, .int .i64 0], .bool false]) (by simp [results_cell_tmp Try.results10, asAddr, go_sem, d0, d1, d2, d3, d4]) rfl ⟨by rw [HR.out, HP.out, HK.out]; unfold sunOk; rw [Hl.out, Eu.out, Hu.out]; rfl, (bel_new (bel_new (bel_new (bel_new (bel_new (bel_new (bel_new (bel_new L13 _ _ (by omega) _) _ _ (by omega) _) _ _ (by omega) _) _ _ (by omega) _) _ _ (by omega) _) _ _ (by omega) _) _ _ (by omega) _) _ _ (by omega) _)⟩⟩
        by_cases xf : 2000 ≤ f
        · have Hl : Hid (lit a b c d g f = true) := by show _ = _; unfold lit; simp; omega
          rw [rounds_succ]
          have cB_1 : W3.cell? ⟨w.heap.size, 1, none⟩ = some (.string s) := B3.c 1 (of_decide_eq_true rfl)
          go_wp2_with fail
          refine (h0 _).mono ?_
          rintro e W4 ⟨rfl, k⟩
          have L4 := bel_then L3 k
          have B4 := B3.below k
          have R4 := R3.below k
          have N4 := N3.below k
          have r4 := r3.below k
          have F4 := F3.below k
          have Bz4 := B4.lies
          have Rz4 := R4.lies
          have Nz4 := N4.lies
          have rz4 := r4.lies
          have Fz4 := F4.lies
          clear k
          clear L3 B3 R3 N3 r3 F3 Bz3 Rz3 Nz3 rz3 Fz3
          clear cB_1
          have cB_1 : W4.cell? ⟨w.heap.size, 1, none⟩ = some (.string s) := B4.c 1 (of_decide_eq_true rfl)
          go_wp2_with fail
          refine (h1 _).mono ?_
          rintro e W5 ⟨rfl, k⟩
          have L5 := bel_then L4 k
          have B5 := B4.below k
          have R5 := R4.below k
          have N5 := N4.below k
          have r5 := r4.below k
          have F5 := F4.below k
          have Bz5 := B5.lies
          have Rz5 := R5.lies
          have Nz5 := N5.lies
          have rz5 := r5.lies
          have Fz5 := F5.lies
          clear k
          clear L4 B4 R4 N4 r4 F4 Bz4 Rz4 Nz4 rz4 Fz4
          clear cB_1
          have cr_2 : W5.cell? ⟨w.heap.size + 3, 2, none⟩ = some (.int .i64 0) := r5.c 2 (of_decide_eq_true rfl)
          have gr_2 := r5.f 2 (of_decide_eq_true rfl)
          go_wp2_with fail
          clear cr_2 gr_2
          refine rounds_letter (S := fun W => Below w.heap.size w W ∧ Arr (w.heap.size) [.int .i64 2, .string s] W ∧ Arr (w.heap.size + 1) [.int .i64 0, .int .i64 0, .int .i64 0, .int .i64 0, .int .i64 0] W ∧ Arr (w.heap.size + 2) [.int .i64 0, .int .i64 0, .int .i64 0, .int .i64 0, .int .i64 0] W ∧ Arr (w.heap.size + 3) [.int .i64 2, .int .i64 t, .int .i64 ((a - b) * 16777216), .int .i64 0, .int .i64 0] W ∧ Fl (q) false W) ⟨bel_new (L5) _ _ (by omega) _, Arr.new (B5) _ _ (by omega) _, Arr.new (R5) _ _ (by omega) _, Arr.new (N5) _ _ (by omega) _, Arr.put (r5) 2 (of_decide_eq_true rfl) (.int .i64 ((a - b) * 16777216)) [.int .i64 2, .int .i64 t, .int .i64 ((a - b) * 16777216), .int .i64 0, .int .i64 0] rfl, Fl.new (F5) _ _ (by omega) _⟩ ?_
          rintro W6 ⟨L6, B6, R6, N6, r6, F6⟩
          have Bz6 := B6.lies
          have Rz6 := R6.lies
          have Nz6 := N6.lies
          have rz6 := r6.lies
          have Fz6 := F6.lies
          clear L5 B5 R5 N5 r5 F5 Bz5 Rz5 Nz5 rz5 Fz5
          rw [rounds_succ]
          have cB_1 : W6.cell? ⟨w.heap.size, 1, none⟩ = some (.string s) := B6.c 1 (of_decide_eq_true rfl)
          go_wp2_with fail
          refine (h2 _).mono ?_
          rintro e W7 ⟨rfl, k⟩
          have L7 := bel_then L6 k
          have B7 := B6.below k
          have R7 := R6.below k
          have N7 := N6.below k
          have r7 := r6.below k
          have F7 := F6.below k
          have Bz7 := B7.lies
          have Rz7 := R7.lies
          have Nz7 := N7.lies
          have rz7 := r7.lies
          have Fz7 := F7.lies
          clear k
          clear L6 B6 R6 N6 r6 F6 Bz6 Rz6 Nz6 rz6 Fz6
          clear cB_1
          have cB_1 : W7.cell? ⟨w.heap.size, 1, none⟩ = some (.string s) := B7.c 1 (of_decide_eq_true rfl)
          go_wp2_with fail
          refine (h3 _).mono ?_
          rintro e W8 ⟨rfl, k⟩
          have L8 := bel_then L7 k
          have B8 := B7.below k
          have R8 := R7.below k
          have N8 := N7.below k
          have r8 := r7.below k
          have F8 := F7.below k
          have Bz8 := B8.lies
          have Rz8 := R8.lies
          have Nz8 := N8.lies
          have rz8 := r8.lies
          have Fz8 := F8.lies
          clear k
          clear L7 B7 R7 N7 r7 F7 Bz7 Rz7 Nz7 rz7 Fz7
          clear cB_1
          have cr_3 : W8.cell? ⟨w.heap.size + 3, 3, none⟩ = some (.int .i64 0) := r8.c 3 (of_decide_eq_true rfl)
          have gr_3 := r8.f 3 (of_decide_eq_true rfl)
          go_wp2_with fail
          clear cr_3 gr_3
          refine rounds_letter (S := fun W => Below w.heap.size w W ∧ Arr (w.heap.size) [.int .i64 2, .string s] W ∧ Arr (w.heap.size + 1) [.int .i64 0, .int .i64 0, .int .i64 0, .int .i64 0, .int .i64 0] W ∧ Arr (w.heap.size + 2) [.int .i64 0, .int .i64 0, .int .i64 0, .int .i64 0, .int .i64 0] W ∧ Arr (w.heap.size + 3) [.int .i64 2, .int .i64 t, .int .i64 ((a - b) * 16777216), .int .i64 ((c - d) * 16777216), .int .i64 0] W ∧ Fl (q) false W) ⟨bel_new (L8) _ _ (by omega) _, Arr.new (B8) _ _ (by omega) _, Arr.new (R8) _ _ (by omega) _, Arr.new (N8) _ _ (by omega) _, Arr.put (r8) 3 (of_decide_eq_true rfl) (.int .i64 ((c - d) * 16777216)) [.int .i64 2, .int .i64 t, .int .i64 ((a - b) * 16777216), .int .i64 ((c - d) * 16777216), .int .i64 0] rfl, Fl.new (F8) _ _ (by omega) _⟩ ?_
          rintro W9 ⟨L9, B9, R9, N9, r9, F9⟩
          have Bz9 := B9.lies
          have Rz9 := R9.lies
          have Nz9 := N9.lies
          have rz9 := r9.lies
          have Fz9 := F9.lies
          clear L8 B8 R8 N8 r8 F8 Bz8 Rz8 Nz8 rz8 Fz8
          rw [rounds_succ]
          have cB_1 : W9.cell? ⟨w.heap.size, 1, none⟩ = some (.string s) := B9.c 1 (of_decide_eq_true rfl)
          go_wp2_with fail
          refine (h4 _).mono ?_
          rintro e W10 ⟨rfl, k⟩
          have L10 := bel_then L9 k
          have B10 := B9.below k
          have R10 := R9.below k
          have N10 := N9.below k
          have r10 := r9.below k
          have F10 := F9.below k
          have Bz10 := B10.lies
          have Rz10 := R10.lies
          have Nz10 := N10.lies
          have rz10 := r10.lies
          have Fz10 := F10.lies
          clear k
          clear L9 B9 R9 N9 r9 F9 Bz9 Rz9 Nz9 rz9 Fz9
          clear cB_1
          have cB_1 : W10.cell? ⟨w.heap.size, 1, none⟩ = some (.string s) := B10.c 1 (of_decide_eq_true rfl)
          go_wp2_with fail
          refine (h5 _).mono ?_
          rintro e W11 ⟨rfl, k⟩
          have L11 := bel_then L10 k
          have B11 := B10.below k
          have R11 := R10.below k
          have N11 := N10.below k
          have r11 := r10.below k
          have F11 := F10.below k
          have Bz11 := B11.lies
          have Rz11 := R11.lies
          have Nz11 := N11.lies
          have rz11 := r11.lies
          have Fz11 := F11.lies
          clear k
          clear L10 B10 R10 N10 r10 F10 Bz10 Rz10 Nz10 rz10 Fz10
          clear cB_1
          have cr_4 : W11.cell? ⟨w.heap.size + 3, 4, none⟩ = some (.int .i64 0) := r11.c 4 (of_decide_eq_true rfl)
          have gr_4 := r11.f 4 (of_decide_eq_true rfl)
          go_wp2_with fail
          clear cr_4 gr_4
          refine rounds_letter (S := fun W => Below w.heap.size w W ∧ Arr (w.heap.size) [.int .i64 2, .string s] W ∧ Arr (w.heap.size + 1) [.int .i64 0, .int .i64 0, .int .i64 0, .int .i64 0, .int .i64 0] W ∧ Arr (w.heap.size + 2) [.int .i64 0, .int .i64 0, .int .i64 0, .int .i64 0, .int .i64 0] W ∧ Arr (w.heap.size + 3) [.int .i64 2, .int .i64 t, .int .i64 ((a - b) * 16777216), .int .i64 ((c - d) * 16777216), .int .i64 ((g - f) * 16777216)] W ∧ Fl (q) false W) ⟨bel_new (L11) _ _ (by omega) _, Arr.new (B11) _ _ (by omega) _, Arr.new (R11) _ _ (by omega) _, Arr.new (N11) _ _ (by omega) _, Arr.put (r11) 4 (of_decide_eq_true rfl) (.int .i64 ((g - f) * 16777216)) [.int .i64 2, .int .i64 t, .int .i64 ((a - b) * 16777216), .int .i64 ((c - d) * 16777216), .int .i64 ((g - f) * 16777216)] rfl, Fl.new (F11) _ _ (by omega) _⟩ ?_
          rintro W12 ⟨L12, B12, R12, N12, r12, F12⟩
          have Bz12 := B12.lies
          have Rz12 := R12.lies
          have Nz12 := N12.lies
          have rz12 := r12.lies
          have Fz12 := F12.lies
          clear L11 B11 R11 N11 r11 F11 Bz11 Rz11 Nz11 rz11 Fz11
          rw [rounds_succ]
          have cr_2 : W12.cell? ⟨w.heap.size + 3, 2, none⟩ = some (.int .i64 ((a - b) * 16777216)) := r12.c 2 (of_decide_eq_true rfl)
          have gr_2 := r12.f 2 (of_decide_eq_true rfl)
          have cr_3 : W12.cell? ⟨w.heap.size + 3, 3, none⟩ = some (.int .i64 ((c - d) * 16777216)) := r12.c 3 (of_decide_eq_true rfl)
          have gr_3 := r12.f 3 (of_decide_eq_true rfl)
          have cr_4 : W12.cell? ⟨w.heap.size + 3, 4, none⟩ = some (.int .i64 ((g - f) * 16777216)) := r12.c 4 (of_decide_eq_true rfl)
          have gr_4 := r12.f 4 (of_decide_eq_true rfl)
          go_wp2_with fail
          refine (xUnit_any q false ((a - b) * 16777216, (c - d) * 16777216, (g - f) * 16777216) _ F12).mono ?_
          rintro e W13 ⟨rfl, F13, k⟩
          have L13 := k.on L12 (by omega)
          have B13 := B12.kept k (by omega)
          have R13 := R12.kept k (by omega)
          have N13 := N12.kept k (by omega)
          have r13 := r12.kept k (by omega)
          have Bz13 := B13.lies
          have Rz13 := R13.lies
          have Nz13 := N13.lies
          have rz13 := r13.lies
          have Fz13 := F13.lies
          clear k
          clear L12 B12 R12 N12 r12 F12 Bz12 Rz12 Nz12 rz12 Fz12
          have Eu : Hid (sunS a b c d g f = vUnitS false ((a - b) * 16777216, (c - d) * 16777216, (g - f) * 16777216)) := rfl
          generalize vUnitS false ((a - b) * 16777216, (c - d) * 16777216, (g - f) * 16777216) = u at F13 Eu ⊢
          clear cr_2 gr_2 cr_3 gr_3 cr_4 gr_4
          have cr_2 : W13.cell? ⟨w.heap.size + 3, 2, none⟩ = some (.int .i64 ((a - b) * 16777216)) := r13.c 2 (of_decide_eq_true rfl)
          have gr_2 := r13.f 2 (of_decide_eq_true rfl)
          have cr_3 : W13.cell? ⟨w.heap.size + 3, 3, none⟩ = some (.int .i64 ((c - d) * 16777216)) := r13.c 3 (of_decide_eq_true rfl)
          have gr_3 := r13.f 3 (of_decide_eq_true rfl)
          have cr_4 : W13.cell? ⟨w.heap.size + 3, 4, none⟩ = some (.int .i64 ((g - f) * 16777216)) := r13.c 4 (of_decide_eq_true rfl)
          have gr_4 := r13.f 4 (of_decide_eq_true rfl)
          have cF := F13.cell
          cases hu : u.2
          · have Hu : Hid (u.2 = false) := hu
            rw [hu] at cF
            clear hu
            have cR_0 : W13.cell? ⟨w.heap.size + 1, 0, none⟩ = some (.int .i64 0) := R13.c 0 (of_decide_eq_true rfl)
            have gR_0 := R13.f 0 (of_decide_eq_true rfl)
            have cR_1 : W13.cell? ⟨w.heap.size + 1, 1, none⟩ = some (.int .i64 0) := R13.c 1 (of_decide_eq_true rfl)
            have gR_1 := R13.f 1 (of_decide_eq_true rfl)
            have cR_2 : W13.cell? ⟨w.heap.size + 1, 2, none⟩ = some (.int .i64 0) := R13.c 2 (of_decide_eq_true rfl)
            have gR_2 := R13.f 2 (of_decide_eq_true rfl)
            have cR_3 : W13.cell? ⟨w.heap.size + 1, 3, none⟩ = some (.int .i64 0) := R13.c 3 (of_decide_eq_true rfl)
            have gR_3 := R13.f 3 (of_decide_eq_true rfl)
            have cR_4 : W13.cell? ⟨w.heap.size + 1, 4, none⟩ = some (.int .i64 0) := R13.c 4 (of_decide_eq_true rfl)
            have gR_4 := R13.f 4 (of_decide_eq_true rfl)
            have cr_0 : W13.cell? ⟨w.heap.size + 3, 0, none⟩ = some (.int .i64 2) := r13.c 0 (of_decide_eq_true rfl)
            have cr_1 : W13.cell? ⟨w.heap.size + 3, 1, none⟩ = some (.int .i64 t) := r13.c 1 (of_decide_eq_true rfl)
            go_wp2_with (with_reducible refine post_stop ?_)
            have d0 := Arr.c ((((((((R13.new (w.heap.size + 3) 2 (by omega) (.int .i64 u.1.1)).new (w.heap.size + 3) 3 (by omega) (.int .i64 u.1.2.1)).new (w.heap.size + 3) 4 (by omega) (.int .i64 u.1.2.2)).put 0 (of_decide_eq_true rfl) (.int .i64 2) [.int .i64 2, .int .i64 0, .int .i64 0, .int .i64 0, .int .i64 0] rfl).put 1 (of_decide_eq_true rfl) (.int .i64 t) [.int .i64 2, .int .i64 t, .int .i64 0, .int .i64 0, .int .i64 0] rfl).put 2 (of_decide_eq_true rfl) (.int .i64 u.1.1) [.int .i64 2, .int .i64 t, .int .i64 u.1.1, .int .i64 0, .int .i64 0] rfl).put 3 (of_decide_eq_true rfl) (.int .i64 u.1.2.1) [.int .i64 2, .int .i64 t, .int .i64 u.1.1, .int .i64 u.1.2.1, .int .i64 0] rfl).put 4 (of_decide_eq_true rfl) (.int .i64 u.1.2.2) [.int .i64 2, .int .i64 t, .int .i64 u.1.1, .int .i64 u.1.2.1, .int .i64 u.1.2.2] rfl) 0 (of_decide_eq_true rfl)
            have d1 := Arr.c ((((((((R13.new (w.heap.size + 3) 2 (by omega) (.int .i64 u.1.1)).new (w.heap.size + 3) 3 (by omega) (.int .i64 u.1.2.1)).new (w.heap.size + 3) 4 (by omega) (.int .i64 u.1.2.2)).put 0 (of_decide_eq_true rfl) (.int .i64 2) [.int .i64 2, .int .i64 0, .int .i64 0, .int .i64 0, .int .i64 0] rfl).put 1 (of_decide_eq_true rfl) (.int .i64 t) [.int .i64 2, .int .i64 t, .int .i64 0, .int .i64 0, .int .i64 0] rfl).put 2 (of_decide_eq_true rfl) (.int .i64 u.1.1) [.int .i64 2, .int .i64 t, .int .i64 u.1.1, .int .i64 0, .int .i64 0] rfl).put 3 (of_decide_eq_true rfl) (.int .i64 u.1.2.1) [.int .i64 2, .int .i64 t, .int .i64 u.1.1, .int .i64 u.1.2.1, .int .i64 0] rfl).put 4 (of_decide_eq_true rfl) (.int .i64 u.1.2.2) [.int .i64 2, .int .i64 t, .int .i64 u.1.1, .int .i64 u.1.2.1, .int .i64 u.1.2.2] rfl) 1 (of_decide_eq_true rfl)
            have d2 := Arr.c ((((((((R13.new (w.heap.size + 3) 2 (by omega) (.int .i64 u.1.1)).new (w.heap.size + 3) 3 (by omega) (.int .i64 u.1.2.1)).new (w.heap.size + 3) 4 (by omega) (.int .i64 u.1.2.2)).put 0 (of_decide_eq_true rfl) (.int .i64 2) [.int .i64 2, .int .i64 0, .int .i64 0, .int .i64 0, .int .i64 0] rfl).put 1 (of_decide_eq_true rfl) (.int .i64 t) [.int .i64 2, .int .i64 t, .int .i64 0, .int .i64 0, .int .i64 0] rfl).put 2 (of_decide_eq_true rfl) (.int .i64 u.1.1) [.int .i64 2, .int .i64 t, .int .i64 u.1.1, .int .i64 0, .int .i64 0] rfl).put 3 (of_decide_eq_true rfl) (.int .i64 u.1.2.1) [.int .i64 2, .int .i64 t, .int .i64 u.1.1, .int .i64 u.1.2.1, .int .i64 0] rfl).put 4 (of_decide_eq_true rfl) (.int .i64 u.1.2.2) [.int .i64 2, .int .i64 t, .int .i64 u.1.1, .int .i64 u.1.2.1, .int .i64 u.1.2.2] rfl) 2 (of_decide_eq_true rfl)
            have d3 := Arr.c ((((((((R13.new (w.heap.size + 3) 2 (by omega) (.int .i64 u.1.1)).new (w.heap.size + 3) 3 (by omega) (.int .i64 u.1.2.1)).new (w.heap.size + 3) 4 (by omega) (.int .i64 u.1.2.2)).put 0 (of_decide_eq_true rfl) (.int .i64 2) [.int .i64 2, .int .i64 0, .int .i64 0, .int .i64 0, .int .i64 0] rfl).put 1 (of_decide_eq_true rfl) (.int .i64 t) [.int .i64 2, .int .i64 t, .int .i64 0, .int .i64 0, .int .i64 0] rfl).put 2 (of_decide_eq_true rfl) (.int .i64 u.1.1) [.int .i64 2, .int .i64 t, .int .i64 u.1.1, .int .i64 0, .int .i64 0] rfl).put 3 (of_decide_eq_true rfl) (.int .i64 u.1.2.1) [.int .i64 2, .int .i64 t, .int .i64 u.1.1, .int .i64 u.1.2.1, .int .i64 0] rfl).put 4 (of_decide_eq_true rfl) (.int .i64 u.1.2.2) [.int .i64 2, .int .i64 t, .int .i64 u.1.1, .int .i64 u.1.2.1, .int .i64 u.1.2.2] rfl) 3 (of_decide_eq_true rfl)
            have d4 := Arr.c ((((((((R13.new (w.heap.size + 3) 2 (by omega) (.int .i64 u.1.1)).new (w.heap.size + 3) 3 (by omega) (.int .i64 u.1.2.1)).new (w.heap.size + 3) 4 (by omega) (.int .i64 u.1.2.2)).put 0 (of_decide_eq_true rfl) (.int .i64 2) [.int .i64 2, .int .i64 0, .int .i64 0, .int .i64 0, .int .i64 0] rfl).put 1 (of_decide_eq_true rfl) (.int .i64 t) [.int .i64 2, .int .i64 t, .int .i64 0, .int .i64 0, .int .i64 0] rfl).put 2 (of_decide_eq_true rfl) (.int .i64 u.1.1) [.int .i64 2, .int .i64 t, .int .i64 u.1.1, .int .i64 0, .int .i64 0] rfl).put 3 (of_decide_eq_true rfl) (.int .i64 u.1.2.1) [.int .i64 2, .int .i64 t, .int .i64 u.1.1, .int .i64 u.1.2.1, .int .i64 0] rfl).put 4 (of_decide_eq_true rfl) (.int .i64 u.1.2.2) [.int .i64 2, .int .i64 t, .int .i64 u.1.1, .int .i64 u.1.2.1, .int .i64 u.1.2.2] rfl) 4 (of_decide_eq_true rfl)
            simp only [List.getElem_cons_zero, List.getElem_cons_succ] at d0 d1 d2 d3 d4
            exact ⟨bodyPost_ret (v := .tuple #[.agg #[.int .i64 2, .int .i64 t, .int .i64 u.1.1, .int .i64 u.1.2.1, .int .i64 u.1.2.2], .bool true]) (by simp [results_cell_tmp Try.results10, asAddr, go_sem, d0, d1, d2, d3, d4]) rfl ⟨by rw [HR.out, HP.out, HK.out, HV.out]; unfold sunOk; rw [Hl.out, Eu.out, Hu.out]; rfl, (bel_new (bel_new (bel_new (bel_new (bel_new (bel_new (bel_new (bel_new L13 _ _ (by omega) _) _ _ (by omega) _) _ _ (by omega) _) _ _ (by omega) _) _ _ (by omega) _) _ _ (by omega) _) _ _ (by omega) _) _ _ (by omega) _)⟩⟩
          · have Hu : Hid (u.2 = true) := hu
            rw [hu] at cF
            clear hu
            have cR_0 : W13.cell? ⟨w.heap.size + 1, 0, none⟩ = some (.int .i64 0) := R13.c 0 (of_decide_eq_true rfl)
            have gR_0 := R13.f 0 (of_decide_eq_true rfl)
            have cR_1 : W13.cell? ⟨w.heap.size + 1, 1, none⟩ = some (.int .i64 0) := R13.c 1 (of_decide_eq_true rfl)
            have gR_1 := R13.f 1 (of_decide_eq_true rfl)
            have cR_2 : W13.cell? ⟨w.heap.size + 1, 2, none⟩ = some (.int .i64 0) := R13.c 2 (of_decide_eq_true rfl)
            have gR_2 := R13.f 2 (of_decide_eq_true rfl)
            have cR_3 : W13.cell? ⟨w.heap.size + 1, 3, none⟩ = some (.int .i64 0) := R13.c 3 (of_decide_eq_true rfl)
            have gR_3 := R13.f 3 (of_decide_eq_true rfl)
            have cR_4 : W13.cell? ⟨w.heap.size + 1, 4, none⟩ = some (.int .i64 0) := R13.c 4 (of_decide_eq_true rfl)
            have gR_4 := R13.f 4 (of_decide_eq_true rfl)
            have cN_0 : W13.cell? ⟨w.heap.size + 2, 0, none⟩ = some (.int .i64 0) := N13.c 0 (of_decide_eq_true rfl)
            have cN_1 : W13.cell? ⟨w.heap.size + 2, 1, none⟩ = some (.int .i64 0) := N13.c 1 (of_decide_eq_true rfl)
            have cN_2 : W13.cell? ⟨w.heap.size + 2, 2, none⟩ = some (.int .i64 0) := N13.c 2 (of_decide_eq_true rfl)
            have cN_3 : W13.cell? ⟨w.heap.size + 2, 3, none⟩ = some (.int .i64 0) := N13.c 3 (of_decide_eq_true rfl)
            have cN_4 : W13.cell? ⟨w.heap.size + 2, 4, none⟩ = some (.int .i64 0) := N13.c 4 (of_decide_eq_true rfl)
            go_wp2_with (with_reducible refine post_stop ?_)
            have d0 := Arr.c ((((((((R13.new (w.heap.size + 3) 2 (by omega) (.int .i64 u.1.1)).new (w.heap.size + 3) 3 (by omega) (.int .i64 u.1.2.1)).new (w.heap.size + 3) 4 (by omega) (.int .i64 u.1.2.2)).put 0 (of_decide_eq_true rfl) (.int .i64 0) [.int .i64 0, .int .i64 0, .int .i64 0, .int .i64 0, .int .i64 0] rfl).put 1 (of_decide_eq_true rfl) (.int .i64 0) [.int .i64 0, .int .i64 0, .int .i64 0, .int .i64 0, .int .i64 0] rfl).put 2 (of_decide_eq_true rfl) (.int .i64 0) [.int .i64 0, .int .i64 0, .int .i64 0, .int .i64 0, .int .i64 0] rfl).put 3 (of_decide_eq_true rfl) (.int .i64 0) [.int .i64 0, .int .i64 0, .int .i64 0, .int .i64 0, .int .i64 0] rfl).put 4 (of_decide_eq_true rfl) (.int .i64 0) [.int .i64 0, .int .i64 0, .int .i64 0, .int .i64 0, .int .i64 0] rfl) 0 (of_decide_eq_true rfl)
            have d1 := Arr.c ((((((((R13.new (w.heap.size + 3) 2 (by omega) (.int .i64 u.1.1)).new (w.heap.size + 3) 3 (by omega) (.int .i64 u.1.2.1)).new (w.heap.size + 3) 4 (by omega) (.int .i64 u.1.2.2)).put 0 (of_decide_eq_true rfl) (.int .i64 0) [.int .i64 0, .int .i64 0, .int .i64 0, .int .i64 0, .int .i64 0] rfl).put 1 (of_decide_eq_true rfl) (.int .i64 0) [.int .i64 0, .int .i64 0, .int .i64 0, .int .i64 0, .int .i64 0] rfl).put 2 (of_decide_eq_true rfl) (.int .i64 0) [.int .i64 0, .int .i64 0, .int .i64 0, .int .i64 0, .int .i64 0] rfl).put 3 (of_decide_eq_true rfl) (.int .i64 0) [.int .i64 0, .int .i64 0, .int .i64 0, .int .i64 0, .int .i64 0] rfl).put 4 (of_decide_eq_true rfl) (.int .i64 0) [.int .i64 0, .int .i64 0, .int .i64 0, .int .i64 0, .int .i64 0] rfl) 1 (of_decide_eq_true rfl)
            have d2 := Arr.c ((((((((R13.new (w.heap.size + 3) 2 (by omega) (.int .i64 u.1.1)).new (w.heap.size + 3) 3 (by omega) (.int .i64 u.1.2.1)).new (w.heap.size + 3) 4 (by omega) (.int .i64 u.1.2.2)).put 0 (of_decide_eq_true rfl) (.int .i64 0) [.int .i64 0, .int .i64 0, .int .i64 0, .int .i64 0, .int .i64 0] rfl).put 1 (of_decide_eq_true rfl) (.int .i64 0) [.int .i64 0, .int .i64 0, .int .i64 0, .int .i64 0, .int .i64 0] rfl).put 2 (of_decide_eq_true rfl) (.int .i64 0) [.int .i64 0, .int .i64 0, .int .i64 0, .int .i64 0, .int .i64 0] rfl).put 3 (of_decide_eq_true rfl) (.int .i64 0) [.int .i64 0, .int .i64 0, .int .i64 0, .int .i64 0, .int .i64 0] rfl).put 4 (of_decide_eq_true rfl) (.int .i64 0) [.int .i64 0, .int .i64 0, .int .i64 0, .int .i64 0, .int .i64 0] rfl) 2 (of_decide_eq_true rfl)
            have d3 := Arr.c ((((((((R13.new (w.heap.size + 3) 2 (by omega) (.int .i64 u.1.1)).new (w.heap.size + 3) 3 (by omega) (.int .i64 u.1.2.1)).new (w.heap.size + 3) 4 (by omega) (.int .i64 u.1.2.2)).put 0 (of_decide_eq_true rfl) (.int .i64 0) [.int .i64 0, .int .i64 0, .int .i64 0, .int .i64 0, .int .i64 0] rfl).put 1 (of_decide_eq_true rfl) (.int .i64 0) [.int .i64 0, .int .i64 0, .int .i64 0, .int .i64 0, .int .i64 0] rfl).put 2 (of_decide_eq_true rfl) (.int .i64 0) [.int .i64 0, .int .i64 0, .int .i64 0, .int .i64 0, .int .i64 0] rfl).put 3 (of_decide_eq_true rfl) (.int .i64 0) [.int .i64 0, .int .i64 0, .int .i64 0, .int .i64 0, .int .i64 0] rfl).put 4 (of_decide_eq_true rfl) (.int .i64 0) [.int .i64 0, .int .i64 0, .int .i64 0, .int .i64 0, .int .i64 0] rfl) 3 (of_decide_eq_true rfl)
            have d4 := Arr.c ((((((((R13.new (w.heap.size + 3) 2 (by omega) (.int .i64 u.1.1)).new (w.heap.size + 3) 3 (by omega) (.int .i64 u.1.2.1)).new (w.heap.size + 3) 4 (by omega) (.int .i64 u.1.2.2)).put 0 (of_decide_eq_true rfl) (.int .i64 0) [.int .i64 0, .int .i64 0, .int .i64 0, .int .i64 0, .int .i64 0] rfl).put 1 (of_decide_eq_true rfl) (.int .i64 0) [.int .i64 0, .int .i64 0, .int .i64 0, .int .i64 0, .int .i64 0] rfl).put 2 (of_decide_eq_true rfl) (.int .i64 0) [.int .i64 0, .int .i64 0, .int .i64 0, .int .i64 0, .int .i64 0] rfl).put 3 (of_decide_eq_true rfl) (.int .i64 0) [.int .i64 0, .int .i64 0, .int .i64 0, .int .i64 0, .int .i64 0] rfl).put 4 (of_decide_eq_true rfl) (.int .i64 0) [.int .i64 0, .int .i64 0, .int .i64 0, .int .i64 0, .int .i64 0] rfl) 4 (of_decide_eq_true rfl)
            simp only [List.getElem_cons_zero, List.getElem_cons_succ] at d0 d1 d2 d3 d4
            exact ⟨bodyPost_ret (v := .tuple #[.agg #[.int .i64 0, .int .i64 0, .int .i64 0, .int .i64 0, .int .i64 0], .bool false]) (by simp [results_cell_tmp Try.results10, asAddr, go_sem, d0, d1, d2, d3, d4]) rfl ⟨by rw [HR.out, HP.out, HK.out]; unfold sunOk; rw [Hl.out, Eu.out, Hu.out]; rfl, (bel_new (bel_new (bel_new (bel_new (bel_new (bel_new (bel_new (bel_new L13 _ _ (by omega) _) _ _ (by omega) _) _ _ (by omega) _) _ _ (by omega) _) _ _ (by omega) _) _ _ (by omega) _) _ _ (by omega) _) _ _ (by omega) _)⟩⟩
        have Hl : Hid (lit a b c d g f = false) := by show _ = _; unfold lit; simp; omega
        rw [rounds_succ]
        have cB_1 : W3.cell? ⟨w.heap.size, 1, none⟩ = some (.string s) := B3.c 1 (of_decide_eq_true rfl)
        go_wp2_with fail
        refine (h0 _).mono ?_
        rintro e W4 ⟨rfl, k⟩
        have L4 := bel_then L3 k
        have B4 := B3.below k
        have R4 := R3.below k
        have N4 := N3.below k
        have r4 := r3.below k
        have F4 := F3.below k
        have Bz4 := B4.lies
        have Rz4 := R4.lies
        have Nz4 := N4.lies
        have rz4 := r4.lies
        have Fz4 := F4.lies
        clear k
        clear L3 B3 R3 N3 r3 F3 Bz3 Rz3 Nz3 rz3 Fz3
        clear cB_1
        have cB_1 : W4.cell? ⟨w.heap.size, 1, none⟩ = some (.string s) := B4.c 1 (of_decide_eq_true rfl)
        go_wp2_with fail
        refine (h1 _).mono ?_
        rintro e W5 ⟨rfl, k⟩
        have L5 := bel_then L4 k
        have B5 := B4.below k
        have R5 := R4.below k
        have N5 := N4.below k
        have r5 := r4.below k
        have F5 := F4.below k
        have Bz5 := B5.lies
        have Rz5 := R5.lies
        have Nz5 := N5.lies
        have rz5 := r5.lies
        have Fz5 := F5.lies
        clear k
        clear L4 B4 R4 N4 r4 F4 Bz4 Rz4 Nz4 rz4 Fz4
        clear cB_1
        have cr_2 : W5.cell? ⟨w.heap.size + 3, 2, none⟩ = some (.int .i64 0) := r5.c 2 (of_decide_eq_true rfl)
        have gr_2 := r5.f 2 (of_decide_eq_true rfl)
        go_wp2_with fail
        clear cr_2 gr_2
        refine rounds_letter (S := fun W => Below w.heap.size w W ∧ Arr (w.heap.size) [.int .i64 2, .string s] W ∧ Arr (w.heap.size + 1) [.int .i64 0, .int .i64 0, .int .i64 0, .int .i64 0, .int .i64 0] W ∧ Arr (w.heap.size + 2) [.int .i64 0, .int .i64 0, .int .i64 0, .int .i64 0, .int .i64 0] W ∧ Arr (w.heap.size + 3) [.int .i64 2, .int .i64 t, .int .i64 ((a - b) * 16777216), .int .i64 0, .int .i64 0] W ∧ Fl (q) false W) ⟨bel_new (L5) _ _ (by omega) _, Arr.new (B5) _ _ (by omega) _, Arr.new (R5) _ _ (by omega) _, Arr.new (N5) _ _ (by omega) _, Arr.put (r5) 2 (of_decide_eq_true rfl) (.int .i64 ((a - b) * 16777216)) [.int .i64 2, .int .i64 t, .int .i64 ((a - b) * 16777216), .int .i64 0, .int .i64 0] rfl, Fl.new (F5) _ _ (by omega) _⟩ ?_
        rintro W6 ⟨L6, B6, R6, N6, r6, F6⟩
        have Bz6 := B6.lies
        have Rz6 := R6.lies
        have Nz6 := N6.lies
        have rz6 := r6.lies
        have Fz6 := F6.lies
        clear L5 B5 R5 N5 r5 F5 Bz5 Rz5 Nz5 rz5 Fz5
        rw [rounds_succ]
        have cB_1 : W6.cell? ⟨w.heap.size, 1, none⟩ = some (.string s) := B6.c 1 (of_decide_eq_true rfl)
        go_wp2_with fail
        refine (h2 _).mono ?_
        rintro e W7 ⟨rfl, k⟩
        have L7 := bel_then L6 k
        have B7 := B6.below k
        have R7 := R6.below k
        have N7 := N6.below k
        have r7 := r6.below k
        have F7 := F6.below k
        have Bz7 := B7.lies
        have Rz7 := R7.lies
        have Nz7 := N7.lies
        have rz7 := r7.lies
        have Fz7 := F7.lies
        clear k
        clear L6 B6 R6 N6 r6 F6 Bz6 Rz6 Nz6 rz6 Fz6
        clear cB_1
        have cB_1 : W7.cell? ⟨w.heap.size, 1, none⟩ = some (.string s) := B7.c 1 (of_decide_eq_true rfl)
        go_wp2_with fail
        refine (h3 _).mono ?_
        rintro e W8 ⟨rfl, k⟩
        have L8 := bel_then L7 k
        have B8 := B7.below k
        have R8 := R7.below k
        have N8 := N7.below k
        have r8 := r7.below k
        have F8 := F7.below k
        have Bz8 := B8.lies
        have Rz8 := R8.lies
        have Nz8 := N8.lies
        have rz8 := r8.lies
        have Fz8 := F8.lies
        clear k
        clear L7 B7 R7 N7 r7 F7 Bz7 Rz7 Nz7 rz7 Fz7
        clear cB_1
        have cr_3 : W8.cell? ⟨w.heap.size + 3, 3, none⟩ = some (.int .i64 0) := r8.c 3 (of_decide_eq_true rfl)
        have gr_3 := r8.f 3 (of_decide_eq_true rfl)
        go_wp2_with fail
        clear cr_3 gr_3
        refine rounds_letter (S := fun W => Below w.heap.size w W ∧ Arr (w.heap.size) [.int .i64 2, .string s] W ∧ Arr (w.heap.size + 1) [.int .i64 0, .int .i64 0, .int .i64 0, .int .i64 0, .int .i64 0] W ∧ Arr (w.heap.size + 2) [.int .i64 0, .int .i64 0, .int .i64 0, .int .i64 0, .int .i64 0] W ∧ Arr (w.heap.size + 3) [.int .i64 2, .int .i64 t, .int .i64 ((a - b) * 16777216), .int .i64 ((c - d) * 16777216), .int .i64 0] W ∧ Fl (q) false W) ⟨bel_new (L8) _ _ (by omega) _, Arr.new (B8) _ _ (by omega) _, Arr.new (R8) _ _ (by omega) _, Arr.new (N8) _ _ (by omega) _, Arr.put (r8) 3 (of_decide_eq_true rfl) (.int .i64 ((c - d) * 16777216)) [.int .i64 2, .int .i64 t, .int .i64 ((a - b) * 16777216), .int .i64 ((c - d) * 16777216), .int .i64 0] rfl, Fl.new (F8) _ _ (by omega) _⟩ ?_
        rintro W9 ⟨L9, B9, R9, N9, r9, F9⟩
        have Bz9 := B9.lies
        have Rz9 := R9.lies
        have Nz9 := N9.lies
        have rz9 := r9.lies
        have Fz9 := F9.lies
        clear L8 B8 R8 N8 r8 F8 Bz8 Rz8 Nz8 rz8 Fz8
        rw [rounds_succ]
        have cB_1 : W9.cell? ⟨w.heap.size, 1, none⟩ = some (.string s) := B9.c 1 (of_decide_eq_true rfl)
        go_wp2_with fail
        refine (h4 _).mono ?_
        rintro e W10 ⟨rfl, k⟩
        have L10 := bel_then L9 k
        have B10 := B9.below k
        have R10 := R9.below k
        have N10 := N9.below k
        have r10 := r9.below k
        have F10 := F9.below k
        have Bz10 := B10.lies
        have Rz10 := R10.lies
        have Nz10 := N10.lies
        have rz10 := r10.lies
        have Fz10 := F10.lies
        clear k
        clear L9 B9 R9 N9 r9 F9 Bz9 Rz9 Nz9 rz9 Fz9
        clear cB_1
        have cB_1 : W10.cell? ⟨w.heap.size, 1, none⟩ = some (.string s) := B10.c 1 (of_decide_eq_true rfl)
        go_wp2_with fail
        refine (h5 _).mono ?_
        rintro e W11 ⟨rfl, k⟩
        have L11 := bel_then L10 k
        have B11 := B10.below k
        have R11 := R10.below k
        have N11 := N10.below k
        have r11 := r10.below k
        have F11 := F10.below k
        have Bz11 := B11.lies
        have Rz11 := R11.lies
        have Nz11 := N11.lies
        have rz11 := r11.lies
        have Fz11 := F11.lies
        clear k
        clear L10 B10 R10 N10 r10 F10 Bz10 Rz10 Nz10 rz10 Fz10
        clear cB_1
        have cr_4 : W11.cell? ⟨w.heap.size + 3, 4, none⟩ = some (.int .i64 0) := r11.c 4 (of_decide_eq_true rfl)
        have gr_4 := r11.f 4 (of_decide_eq_true rfl)
        go_wp2_with fail
        clear cr_4 gr_4
        refine rounds_letter (S := fun W => Below w.heap.size w W ∧ Arr (w.heap.size) [.int .i64 2, .string s] W ∧ Arr (w.heap.size + 1) [.int .i64 0, .int .i64 0, .int .i64 0, .int .i64 0, .int .i64 0] W ∧ Arr (w.heap.size + 2) [.int .i64 0, .int .i64 0, .int .i64 0, .int .i64 0, .int .i64 0] W ∧ Arr (w.heap.size + 3) [.int .i64 2, .int .i64 t, .int .i64 ((a - b) * 16777216), .int .i64 ((c - d) * 16777216), .int .i64 ((g - f) * 16777216)] W ∧ Fl (q) false W) ⟨bel_new (L11) _ _ (by omega) _, Arr.new (B11) _ _ (by omega) _, Arr.new (R11) _ _ (by omega) _, Arr.new (N11) _ _ (by omega) _, Arr.put (r11) 4 (of_decide_eq_true rfl) (.int .i64 ((g - f) * 16777216)) [.int .i64 2, .int .i64 t, .int .i64 ((a - b) * 16777216), .int .i64 ((c - d) * 16777216), .int .i64 ((g - f) * 16777216)] rfl, Fl.new (F11) _ _ (by omega) _⟩ ?_
        rintro W12 ⟨L12, B12, R12, N12, r12, F12⟩
        have Bz12 := B12.lies
        have Rz12 := R12.lies
        have Nz12 := N12.lies
        have rz12 := r12.lies
        have Fz12 := F12.lies
        clear L11 B11 R11 N11 r11 F11 Bz11 Rz11 Nz11 rz11 Fz11
        generalize hl0 : (decide (2000 ≤ a) || decide (2000 ≤ b) || decide (2000 ≤ c) || decide (2000 ≤ d) || decide (2000 ≤ g) || decide (2000 ≤ f)) = u
        obtain rfl : u = false := hl0.symm.trans Hl.out
        clear hl0
        rw [rounds_succ]
        have cr_2 : W12.cell? ⟨w.heap.size + 3, 2, none⟩ = some (.int .i64 ((a - b) * 16777216)) := r12.c 2 (of_decide_eq_true rfl)
        have gr_2 := r12.f 2 (of_decide_eq_true rfl)
        have cr_3 : W12.cell? ⟨w.heap.size + 3, 3, none⟩ = some (.int .i64 ((c - d) * 16777216)) := r12.c 3 (of_decide_eq_true rfl)
        have gr_3 := r12.f 3 (of_decide_eq_true rfl)
        have cr_4 : W12.cell? ⟨w.heap.size + 3, 4, none⟩ = some (.int .i64 ((g - f) * 16777216)) := r12.c 4 (of_decide_eq_true rfl)
        have gr_4 := r12.f 4 (of_decide_eq_true rfl)
        go_wp2_with fail
        refine (xUnit_any q false ((a - b) * 16777216, (c - d) * 16777216, (g - f) * 16777216) _ F12).mono ?_
        rintro e W13 ⟨rfl, F13, k⟩
        have L13 := k.on L12 (by omega)
        have B13 := B12.kept k (by omega)
        have R13 := R12.kept k (by omega)
        have N13 := N12.kept k (by omega)
        have r13 := r12.kept k (by omega)
        have Bz13 := B13.lies
        have Rz13 := R13.lies
        have Nz13 := N13.lies
        have rz13 := r13.lies
        have Fz13 := F13.lies
        clear k
        clear L12 B12 R12 N12 r12 F12 Bz12 Rz12 Nz12 rz12 Fz12
        have Eu : Hid (sunS a b c d g f = vUnitS false ((a - b) * 16777216, (c - d) * 16777216, (g - f) * 16777216)) := rfl
        generalize vUnitS false ((a - b) * 16777216, (c - d) * 16777216, (g - f) * 16777216) = u at F13 Eu ⊢
        clear cr_2 gr_2 cr_3 gr_3 cr_4 gr_4
        have cr_2 : W13.cell? ⟨w.heap.size + 3, 2, none⟩ = some (.int .i64 ((a - b) * 16777216)) := r13.c 2 (of_decide_eq_true rfl)
        have gr_2 := r13.f 2 (of_decide_eq_true rfl)
        have cr_3 : W13.cell? ⟨w.heap.size + 3, 3, none⟩ = some (.int .i64 ((c - d) * 16777216)) := r13.c 3 (of_decide_eq_true rfl)
        have gr_3 := r13.f 3 (of_decide_eq_true rfl)
        have cr_4 : W13.cell? ⟨w.heap.size + 3, 4, none⟩ = some (.int .i64 ((g - f) * 16777216)) := r13.c 4 (of_decide_eq_true rfl)
        have gr_4 := r13.f 4 (of_decide_eq_true rfl)
        have cF := F13.cell
        have cr_2 : W13.cell? ⟨w.heap.size + 3, 2, none⟩ = some (.int .i64 ((a - b) * 16777216)) := r13.c 2 (of_decide_eq_true rfl)
        have gr_2 := r13.f 2 (of_decide_eq_true rfl)
        have cr_3 : W13.cell? ⟨w.heap.size + 3, 3, none⟩ = some (.int .i64 ((c - d) * 16777216)) := r13.c 3 (of_decide_eq_true rfl)
        have gr_3 := r13.f 3 (of_decide_eq_true rfl)
        have cr_4 : W13.cell? ⟨w.heap.size + 3, 4, none⟩ = some (.int .i64 ((g - f) * 16777216)) := r13.c 4 (of_decide_eq_true rfl)
        have gr_4 := r13.f 4 (of_decide_eq_true rfl)
        
        have cN_0 : W13.cell? ⟨w.heap.size + 2, 0, none⟩ = some (.int .i64 0) := N13.c 0 (of_decide_eq_true rfl)
        have cN_1 : W13.cell? ⟨w.heap.size + 2, 1, none⟩ = some (.int .i64 0) := N13.c 1 (of_decide_eq_true rfl)
        have cN_2 : W13.cell? ⟨w.heap.size + 2, 2, none⟩ = some (.int .i64 0) := N13.c 2 (of_decide_eq_true rfl)
        have cN_3 : W13.cell? ⟨w.heap.size + 2, 3, none⟩ = some (.int .i64 0) := N13.c 3 (of_decide_eq_true rfl)
        have cN_4 : W13.cell? ⟨w.heap.size + 2, 4, none⟩ = some (.int .i64 0) := N13.c 4 (of_decide_eq_true rfl)
        have cR_0 : W13.cell? ⟨w.heap.size + 1, 0, none⟩ = some (.int .i64 0) := R13.c 0 (of_decide_eq_true rfl)
        have gR_0 := R13.f 0 (of_decide_eq_true rfl)
        have cR_1 : W13.cell? ⟨w.heap.size + 1, 1, none⟩ = some (.int .i64 0) := R13.c 1 (of_decide_eq_true rfl)
        have gR_1 := R13.f 1 (of_decide_eq_true rfl)
        have cR_2 : W13.cell? ⟨w.heap.size + 1, 2, none⟩ = some (.int .i64 0) := R13.c 2 (of_decide_eq_true rfl)
        have gR_2 := R13.f 2 (of_decide_eq_true rfl)
        have cR_3 : W13.cell? ⟨w.heap.size + 1, 3, none⟩ = some (.int .i64 0) := R13.c 3 (of_decide_eq_true rfl)
        have gR_3 := R13.f 3 (of_decide_eq_true rfl)
        have cR_4 : W13.cell? ⟨w.heap.size + 1, 4, none⟩ = some (.int .i64 0) := R13.c 4 (of_decide_eq_true rfl)
        have gR_4 := R13.f 4 (of_decide_eq_true rfl)
        go_wp2_with (with_reducible refine post_stop ?_)
        have d0 := Arr.c ((((((((R13.new (w.heap.size + 3) 2 (by omega) (.int .i64 u.1.1)).new (w.heap.size + 3) 3 (by omega) (.int .i64 u.1.2.1)).new (w.heap.size + 3) 4 (by omega) (.int .i64 u.1.2.2)).put 0 (of_decide_eq_true rfl) (.int .i64 0) [.int .i64 0, .int .i64 0, .int .i64 0, .int .i64 0, .int .i64 0] rfl).put 1 (of_decide_eq_true rfl) (.int .i64 0) [.int .i64 0, .int .i64 0, .int .i64 0, .int .i64 0, .int .i64 0] rfl).put 2 (of_decide_eq_true rfl) (.int .i64 0) [.int .i64 0, .int .i64 0, .int .i64 0, .int .i64 0, .int .i64 0] rfl).put 3 (of_decide_eq_true rfl) (.int .i64 0) [.int .i64 0, .int .i64 0, .int .i64 0, .int .i64 0, .int .i64 0] rfl).put 4 (of_decide_eq_true rfl) (.int .i64 0) [.int .i64 0, .int .i64 0, .int .i64 0, .int .i64 0, .int .i64 0] rfl) 0 (of_decide_eq_true rfl)
        have d1 := Arr.c ((((((((R13.new (w.heap.size + 3) 2 (by omega) (.int .i64 u.1.1)).new (w.heap.size + 3) 3 (by omega) (.int .i64 u.1.2.1)).new (w.heap.size + 3) 4 (by omega) (.int .i64 u.1.2.2)).put 0 (of_decide_eq_true rfl) (.int .i64 0) [.int .i64 0, .int .i64 0, .int .i64 0, .int .i64 0, .int .i64 0] rfl).put 1 (of_decide_eq_true rfl) (.int .i64 0) [.int .i64 0, .int .i64 0, .int .i64 0, .int .i64 0, .int .i64 0] rfl).put 2 (of_decide_eq_true rfl) (.int .i64 0) [.int .i64 0, .int .i64 0, .int .i64 0, .int .i64 0, .int .i64 0] rfl).put 3 (of_decide_eq_true rfl) (.int .i64 0) [.int .i64 0, .int .i64 0, .int .i64 0, .int .i64 0, .int .i64 0] rfl).put 4 (of_decide_eq_true rfl) (.int .i64 0) [.int .i64 0, .int .i64 0, .int .i64 0, .int .i64 0, .int .i64 0] rfl) 1 (of_decide_eq_true rfl)
        have d2 := Arr.c ((((((((R13.new (w.heap.size + 3) 2 (by omega) (.int .i64 u.1.1)).new (w.heap.size + 3) 3 (by omega) (.int .i64 u.1.2.1)).new (w.heap.size + 3) 4 (by omega) (.int .i64 u.1.2.2)).put 0 (of_decide_eq_true rfl) (.int .i64 0) [.int .i64 0, .int .i64 0, .int .i64 0, .int .i64 0, .int .i64 0] rfl).put 1 (of_decide_eq_true rfl) (.int .i64 0) [.int .i64 0, .int .i64 0, .int .i64 0, .int .i64 0, .int .i64 0] rfl).put 2 (of_decide_eq_true rfl) (.int .i64 0) [.int .i64 0, .int .i64 0, .int .i64 0, .int .i64 0, .int .i64 0] rfl).put 3 (of_decide_eq_true rfl) (.int .i64 0) [.int .i64 0, .int .i64 0, .int .i64 0, .int .i64 0, .int .i64 0] rfl).put 4 (of_decide_eq_true rfl) (.int .i64 0) [.int .i64 0, .int .i64 0, .int .i64 0, .int .i64 0, .int .i64 0] rfl) 2 (of_decide_eq_true rfl)
        have d3 := Arr.c ((((((((R13.new (w.heap.size + 3) 2 (by omega) (.int .i64 u.1.1)).new (w.heap.size + 3) 3 (by omega) (.int .i64 u.1.2.1)).new (w.heap.size + 3) 4 (by omega) (.int .i64 u.1.2.2)).put 0 (of_decide_eq_true rfl) (.int .i64 0) [.int .i64 0, .int .i64 0, .int .i64 0, .int .i64 0, .int .i64 0] rfl).put 1 (of_decide_eq_true rfl) (.int .i64 0) [.int .i64 0, .int .i64 0, .int .i64 0, .int .i64 0, .int .i64 0] rfl).put 2 (of_decide_eq_true rfl) (.int .i64 0) [.int .i64 0, .int .i64 0, .int .i64 0, .int .i64 0, .int .i64 0] rfl).put 3 (of_decide_eq_true rfl) (.int .i64 0) [.int .i64 0, .int .i64 0, .int .i64 0, .int .i64 0, .int .i64 0] rfl).put 4 (of_decide_eq_true rfl) (.int .i64 0) [.int .i64 0, .int .i64 0, .int .i64 0, .int .i64 0, .int .i64 0] rfl) 3 (of_decide_eq_true rfl)
        have d4 := Arr.c ((((((((R13.new (w.heap.size + 3) 2 (by omega) (.int .i64 u.1.1)).new (w.heap.size + 3) 3 (by omega) (.int .i64 u.1.2.1)).new (w.heap.size + 3) 4 (by omega) (.int .i64 u.1.2.2)).put 0 (of_decide_eq_true rfl) (.int .i64 0) [.int .i64 0, .int .i64 0, .int .i64 0, .int .i64 0, .int .i64 0] rfl).put 1 (of_decide_eq_true rfl) (.int .i64 0) [.int .i64 0, .int .i64 0, .int .i64 0, .int .i64 0, .int .i64 0] rfl).put 2 (of_decide_eq_true rfl) (.int .i64 0) [.int .i64 0, .int .i64 0, .int .i64 0, .int .i64 0, .int .i64 0] rfl).put 3 (of_decide_eq_true rfl) (.int .i64 0) [.int .i64 0, .int .i64 0, .int .i64 0, .int .i64 0, .int .i64 0] rfl).put 4 (of_decide_eq_true rfl) (.int .i64 0) [.int .i64 0, .int .i64 0, .int .i64 0, .int .i64 0, .int .i64 0] rfl) 4 (of_decide_eq_true rfl)
        simp only [List.getElem_cons_zero, List.getElem_cons_succ] at d0 d1 d2 d3 d4
        exact ⟨bodyPost_ret (v := .tuple #[.agg #[.int .i64 0, .int .i64 0, .int .i64 0, .int .i64 0, .int .i64 0], .bool false]) (by simp [results_cell_tmp Try.results10, asAddr, go_sem, d0, d1, d2, d3, d4]) rfl ⟨by rw [HR.out, HP.out, HK.out]; unfold sunOk; rw [Hl.out]; rfl, (bel_new (bel_new (bel_new (bel_new (bel_new (bel_new (bel_new (bel_new L13 _ _ (by omega) _) _ _ (by omega) _) _ _ (by omega) _) _ _ (by omega) _) _ _ (by omega) _) _ _ (by omega) _) _ _ (by omega) _) _ _ (by omega) _)⟩⟩
end Go.Proofs.Ytoaghmbaijlklaa
