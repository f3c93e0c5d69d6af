/-
  Sensors' frames: the reference's Write, walked, for the seat Ytoaghmbaijlklaa.
-/
import Derived.Test.YtoaghmbaijlklaaSenWrite
import Derived.Test.YtoaghmbaijlklaaCDDays
namespace Go.Proofs.Ytoaghmbaijlklaa
open Go.RowKit

set_option maxHeartbeats 4000000 in
set_option maxRecDepth 100000 in
theorem rwrite_in (k t : Int) (cf : Nat → Int) (w : World) (h0 : ¬ nCounts k = 0) (ht : cRight t = true) :
    Calls Try.prog 12 #[.int .i64 k, .int .i64 t, .agg (row 6 cf).toArray] w fun e w' => e = .returned (.tuple #[.agg #[.int .i64 (writeS k t cf).1, .string (writeS k t cf).2], .bool (writeOk k t cf)]) ∧ Below w.heap.size w w' := by
  have hr := dRight_any t
  rw [ht] at hr
  have hn : nCounts k = 3 ∨ nCounts k = 6 := by unfold nCounts at h0 ⊢; split at h0 <;> (try split at h0) <;> simp_all
  obtain ⟨n, hne⟩ : ∃ n : Nat, nCounts k = (n : Int) := ⟨(nCounts k).toNat, by omega⟩
  have hk : 1 ≤ k ∧ k ≤ 3 := by unfold nCounts at h0; split at h0 <;> (try split at h0) <;> omega
  have HW : Hid (writeOk k t cf = fitsK k cf n) := by show _ = _; unfold writeOk; rw [ht, hne]; simp; omega
  have HL : Hid (writeL k t cf = tickL t ++ cntsL cf n) := by show _ = _; unfold writeL; rw [hne]; rfl
  have HF : Hid (∀ c, fits k c = (decide ((nBounds k).1 ≤ c) && decide (c ≤ (nBounds k).2))) := fun c => rfl
  rw [show (row 6 cf).toArray = #[.int .i64 (cf 0), .int .i64 (cf 1), .int .i64 (cf 2), .int .i64 (cf 3), .int .i64 (cf 4), .int .i64 (cf 5)] from rfl]
  go_enter Try.func12, Try.ntmps12
  go_wp2_with fail
  refine (hr _).mono ?_
  rintro e W0 ⟨rfl, k1⟩
  have L0 := bel_then (bel_al (bel_al (Below.refl _ w) _) _) k1
  have C0 : Arr w.heap.size (row 6 cf) W0 := ((Arr_at w w.heap.size (row 6 cf) 32 rfl).alloc _).below k1
  have R0 := (Arr_at _ (w.heap.size + 1) [.int .i64 0, .string ⟨#[]⟩] 23 (by simp)).below k1
  have z0 : w.heap.size + 2 ≤ W0.heap.size := R0.lies
  clear k1
  go_wp2_with fail
  refine wp_loop_rounds 7 ?_
  rw [rounds_succ]
  go_wp2_with (at_builtin; refine app_any rfl (.tmp 31) (.tmp 37) rfl (w.heap.size + 2) (.slice none 0 0) [] [IntKind.u8.wrap (t / 1099511627776)] W0 rfl (World.ownsRow_nil _ _ _ _) rfl (Nat.le_of_ble_eq_true rfl) z0 ?_; intro v1 W1 o1 b1 s1)
  have z1 : w.heap.size + 2 ≤ W1.heap.size := Nat.le_trans z0 s1
  have L1 := L0.trans (b1.mono (by omega))
  have C1 := C0.under b1 (by omega) s1
  have R1 := R0.under b1 (by omega) s1
  clear b1 s1 L0 C0 R0 z0
  rw [List.nil_append] at o1
  rw [rounds_succ]
  go_wp2_with (at_builtin; refine app_any rfl (.tmp 31) (.tmp 37) rfl (w.heap.size + 2) v1 [IntKind.u8.wrap (t / 1099511627776)] [IntKind.u8.wrap (t / 4294967296)] W1 rfl o1 rfl (Nat.le_of_ble_eq_true rfl) z1 ?_; intro v2 W2 o2 b2 s2)
  have z2 : w.heap.size + 2 ≤ W2.heap.size := Nat.le_trans z1 s2
  have L2 := L1.trans (b2.mono (by omega))
  have C2 := C1.under b2 (by omega) s2
  have R2 := R1.under b2 (by omega) s2
  clear b2 s2 L1 C1 R1 z1
  clear o1
  simp only [List.cons_append, List.nil_append] at o2
  rw [rounds_succ]
  go_wp2_with (at_builtin; refine app_any rfl (.tmp 31) (.tmp 37) rfl (w.heap.size + 2) v2 [IntKind.u8.wrap (t / 1099511627776), IntKind.u8.wrap (t / 4294967296)] [IntKind.u8.wrap (t / 16777216)] W2 rfl o2 rfl (Nat.le_of_ble_eq_true rfl) z2 ?_; intro v3 W3 o3 b3 s3)
  have z3 : w.heap.size + 2 ≤ W3.heap.size := Nat.le_trans z2 s3
  have L3 := L2.trans (b3.mono (by omega))
  have C3 := C2.under b3 (by omega) s3
  have R3 := R2.under b3 (by omega) s3
  clear b3 s3 L2 C2 R2 z2
  clear o2
  simp only [List.cons_append, List.nil_append] at o3
  rw [rounds_succ]
  go_wp2_with (at_builtin; refine app_any rfl (.tmp 31) (.tmp 37) rfl (w.heap.size + 2) v3 [IntKind.u8.wrap (t / 1099511627776), IntKind.u8.wrap (t / 4294967296), IntKind.u8.wrap (t / 16777216)] [IntKind.u8.wrap (t / 65536)] W3 rfl o3 rfl (Nat.le_of_ble_eq_true rfl) z3 ?_; intro v4 W4 o4 b4 s4)
  have z4 : w.heap.size + 2 ≤ W4.heap.size := Nat.le_trans z3 s4
  have L4 := L3.trans (b4.mono (by omega))
  have C4 := C3.under b4 (by omega) s4
  have R4 := R3.under b4 (by omega) s4
  clear b4 s4 L3 C3 R3 z3
  clear o3
  simp only [List.cons_append, List.nil_append] at o4
  rw [rounds_succ]
  go_wp2_with (at_builtin; refine app_any rfl (.tmp 31) (.tmp 37) rfl (w.heap.size + 2) v4 [IntKind.u8.wrap (t / 1099511627776), IntKind.u8.wrap (t / 4294967296), IntKind.u8.wrap (t / 16777216), IntKind.u8.wrap (t / 65536)] [IntKind.u8.wrap (t / 256)] W4 rfl o4 rfl (Nat.le_of_ble_eq_true rfl) z4 ?_; intro v5 W5 o5 b5 s5)
  have z5 : w.heap.size + 2 ≤ W5.heap.size := Nat.le_trans z4 s5
  have L5 := L4.trans (b5.mono (by omega))
  have C5 := C4.under b5 (by omega) s5
  have R5 := R4.under b5 (by omega) s5
  clear b5 s5 L4 C4 R4 z4
  clear o4
  simp only [List.cons_append, List.nil_append] at o5
  rw [rounds_succ]
  go_wp2_with (at_builtin; refine app_any rfl (.tmp 31) (.tmp 37) rfl (w.heap.size + 2) v5 [IntKind.u8.wrap (t / 1099511627776), IntKind.u8.wrap (t / 4294967296), IntKind.u8.wrap (t / 16777216), IntKind.u8.wrap (t / 65536), IntKind.u8.wrap (t / 256)] [IntKind.u8.wrap t] W5 rfl o5 rfl (Nat.le_of_ble_eq_true rfl) z5 ?_; intro v6 W6 o6 b6 s6)
  have z6 : w.heap.size + 2 ≤ W6.heap.size := Nat.le_trans z5 s6
  have L6 := L5.trans (b6.mono (by omega))
  have C6 := C5.under b6 (by omega) s6
  have R6 := R5.under b6 (by omega) s6
  clear b6 s6 L5 C5 R5 z5
  clear o5
  simp only [List.cons_append, List.nil_append] at o6
  by_cases c2 : k = 2
  · have hb12 : nBounds k = (0, 65535) := by rw [c2]; rfl
    obtain rfl : n = 6 := by rw [c2] at hne; have : nCounts 2 = 6 := rfl; omega
    have d2 : (k == 2) = true := by simpa using c2
    clear h0 ht hn hne c2
    have HO : Hid (∀ c, fits k c = (decide (0 ≤ c) && decide (c ≤ 65535))) := fun c => by rw [HF.out c, hb12]
    clear HF hb12
    rw [rounds_succ]
    go_wp2_with fail
    go_loopw [8, 13] (fun dv iv wr => ∃ j : Nat, j ≤ 6 ∧ iv = .int .i64 j ∧ fitsK k cf j = true ∧ Bytes (w.heap.size + 2) wr dv (tickL t ++ cntsL cf j) ∧ Below w.heap.size w wr ∧ Arr w.heap.size (row 6 cf) wr ∧ Arr (w.heap.size + 1) [.int .i64 0, .string ⟨#[]⟩] wr) (fun _ iv _ => 6 - (intOf iv).toNat)
    case atStart => exact ⟨0, by omega, rfl, rfl, by unfold cntsL; rw [List.append_nil]; exact o6, L6, C6, R6⟩
    case round =>
      obtain ⟨j, hj, rfl, hfit, O3, L3, C3, R3⟩ := hrel
      have Cz3 := C3.lies
      have Rz3 := R3.lies
      have HJ : Hid (fitsK k cf j = true) := hfit
      clear hfit L6 C6 R6 o6 z6
      by_cases hjn : j < 6
      · have cC := row_c C3 j (by omega)
        have HN : Hid (fitsK k cf (j + 1) = fits k (cf j)) := by show (fitsK k cf j && fits k (cf j)) = _; rw [HJ.out]; rfl
        have HC : Hid (cntsL cf (j + 1) = cntsL cf j ++ [IntKind.u8.wrap (cf j / 256), IntKind.u8.wrap (cf j)]) := rfl
        have hlen := cntsL_len cf j
        have hlt : (tickL t ++ cntsL cf j).length = 6 + 2 * j := by rw [List.length_append, hlen]; rfl
        have HG' : Hid _ := HO.out (cf j)
        generalize cf j = c at cC HN HC HG'
        by_cases hfits : 0 ≤ c ∧ c ≤ 65535
        · have hft : Hid (fits k c = true) := by show _ = _; rw [HG'.out]; simp; omega
          have HD : Hid (cntsL cf (j + 1) = cntsL cf j ++ [c / 256, c % 256]) := by
            show _ = _
            rw [HC.out, IntKind.wrap_u8, IntKind.wrap_u8, show c / 256 % 256 = c / 256 by omega, show c % 256 = c % 256 by omega]
          have hl2 : (tickL t ++ cntsL cf j).length + [c / 256, c % 256].length ≤ 100 := by rw [hlt]; simp; omega
          go_wp2_with (at_builtin; refine app_any rfl (.tmp 62) (.tmp 69) rfl (w.heap.size + 2) u8 (tickL t ++ cntsL cf j) [c / 256, c % 256] wr rfl O3 rfl hl2 Rz3 ?_; intro v4 w4 O4 b4 z4)
          go_roundw
          case rel => exact ⟨j + 1, by omega, by go_num, by rw [HN.out, hft.out], by rw [HD.out, ← List.append_assoc]; exact O4, L3.trans (b4.mono (by omega)), C3.under b4 (by omega) z4, R3.under b4 (by omega) z4⟩
          case measure => simp [intOf]; omega
        · have hft : Hid (fits k c = false) := by show _ = _; rw [HG'.out]; simp; omega
          have HX : Hid (fitsK k cf 6 = false) := fitsK_le (by rw [HN.out, hft.out]) (show j + 1 ≤ 6 by omega)
          by_cases h2 : c < 0
          · clear hfits
            have cR0 : wr.cell? ⟨w.heap.size + 1, 0, none⟩ = some (.int .i64 0) := R3.c 0 (of_decide_eq_true rfl)
            have cR1 : wr.cell? ⟨w.heap.size + 1, 1, none⟩ = some (.string ⟨#[]⟩) := R3.c 1 (of_decide_eq_true rfl)
            have gR0 := R3.f 0 (of_decide_eq_true rfl)
            have gR1 := R3.f 1 (of_decide_eq_true rfl)
            go_wp2_with (with_reducible refine post_stop ?_)
            have d0 := Arr.c ((R3.put 0 (of_decide_eq_true rfl) (.int .i64 0) [.int .i64 0, .string ⟨#[]⟩] rfl).put 1 (of_decide_eq_true rfl) (.string ⟨#[]⟩) [.int .i64 0, .string ⟨#[]⟩] rfl) 0 (of_decide_eq_true rfl)
            have d1 := Arr.c ((R3.put 0 (of_decide_eq_true rfl) (.int .i64 0) [.int .i64 0, .string ⟨#[]⟩] rfl).put 1 (of_decide_eq_true rfl) (.string ⟨#[]⟩) [.int .i64 0, .string ⟨#[]⟩] rfl) 1 (of_decide_eq_true rfl)
            simp only [List.getElem_cons_zero, List.getElem_cons_succ] at d0 d1
            exact ⟨bodyPost_ret (v := .tuple #[.agg #[.int .i64 0, .string ⟨#[]⟩], .bool false]) (by simp [results_cell_tmp Try.results12, asAddr, go_sem, d0, d1]) rfl ⟨by unfold writeS; rw [HW.out, HX.out]; rfl, bel_new (bel_new L3 _ _ (by omega) _) _ _ (by omega) _⟩⟩
          · have h3 : 65535 < c := by omega
            clear hfits
            have cR0 : wr.cell? ⟨w.heap.size + 1, 0, none⟩ = some (.int .i64 0) := R3.c 0 (of_decide_eq_true rfl)
            have cR1 : wr.cell? ⟨w.heap.size + 1, 1, none⟩ = some (.string ⟨#[]⟩) := R3.c 1 (of_decide_eq_true rfl)
            have gR0 := R3.f 0 (of_decide_eq_true rfl)
            have gR1 := R3.f 1 (of_decide_eq_true rfl)
            go_wp2_with (with_reducible refine post_stop ?_)
            have d0 := Arr.c ((R3.put 0 (of_decide_eq_true rfl) (.int .i64 0) [.int .i64 0, .string ⟨#[]⟩] rfl).put 1 (of_decide_eq_true rfl) (.string ⟨#[]⟩) [.int .i64 0, .string ⟨#[]⟩] rfl) 0 (of_decide_eq_true rfl)
            have d1 := Arr.c ((R3.put 0 (of_decide_eq_true rfl) (.int .i64 0) [.int .i64 0, .string ⟨#[]⟩] rfl).put 1 (of_decide_eq_true rfl) (.string ⟨#[]⟩) [.int .i64 0, .string ⟨#[]⟩] rfl) 1 (of_decide_eq_true rfl)
            simp only [List.getElem_cons_zero, List.getElem_cons_succ] at d0 d1
            exact ⟨bodyPost_ret (v := .tuple #[.agg #[.int .i64 0, .string ⟨#[]⟩], .bool false]) (by simp [results_cell_tmp Try.results12, asAddr, go_sem, d0, d1]) rfl ⟨by unfold writeS; rw [HW.out, HX.out]; rfl, bel_new (bel_new L3 _ _ (by omega) _) _ _ (by omega) _⟩⟩
      · obtain rfl : j = 6 := by omega
        have hcv := conv_any O3 (by unfold tickL; simp) (fun b hb => (List.mem_append.1 hb).elim (tickL_rng t b) (cntsL_rng cf 6 b))
        rw [← HL.out] at hcv
        generalize hS : strOf (writeL k t cf) = S at hcv
        have HT : Hid (strOf (writeL k t cf) = S) := hS
        clear hS O3
        have cR0 : wr.cell? ⟨w.heap.size + 1, 0, none⟩ = some (.int .i64 0) := R3.c 0 (of_decide_eq_true rfl)
        have cR1 : wr.cell? ⟨w.heap.size + 1, 1, none⟩ = some (.string ⟨#[]⟩) := R3.c 1 (of_decide_eq_true rfl)
        have gR0 := R3.f 0 (of_decide_eq_true rfl)
        have gR1 := R3.f 1 (of_decide_eq_true rfl)
        go_wp2_with (with_reducible refine post_stop ?_)
        have d0 := Arr.c ((R3.put 0 (of_decide_eq_true rfl) (.int .i64 k) [.int .i64 k, .string ⟨#[]⟩] rfl).put 1 (of_decide_eq_true rfl) (.string S) [.int .i64 k, .string S] rfl) 0 (of_decide_eq_true rfl)
        have d1 := Arr.c ((R3.put 0 (of_decide_eq_true rfl) (.int .i64 k) [.int .i64 k, .string ⟨#[]⟩] rfl).put 1 (of_decide_eq_true rfl) (.string S) [.int .i64 k, .string S] rfl) 1 (of_decide_eq_true rfl)
        simp only [List.getElem_cons_zero, List.getElem_cons_succ] at d0 d1
        exact ⟨bodyPost_ret (v := .tuple #[.agg #[.int .i64 k, .string S], .bool true]) (by simp [results_cell_tmp Try.results12, asAddr, go_sem, d0, d1]) rfl ⟨by unfold writeS; rw [HW.out, HJ.out, if_pos rfl, HT.out], bel_new (bel_new L3 _ _ (by omega) _) _ _ (by omega) _⟩⟩
  · have hb12 : nBounds k = (-32768, 32767) := by unfold nBounds; rw [if_neg c2]
    obtain rfl : n = 3 := by unfold nCounts at hne; split at hne <;> (try split at hne) <;> omega
    have d2 : (k == 2) = false := by simpa using c2
    clear h0 ht hn hne c2
    have HO : Hid (∀ c, fits k c = (decide (-32768 ≤ c) && decide (c ≤ 32767))) := fun c => by rw [HF.out c, hb12]
    clear HF hb12
    rw [rounds_succ]
    go_wp2_with fail
    go_loopw [8, 13] (fun dv iv wr => ∃ j : Nat, j ≤ 3 ∧ iv = .int .i64 j ∧ fitsK k cf j = true ∧ Bytes (w.heap.size + 2) wr dv (tickL t ++ cntsL cf j) ∧ Below w.heap.size w wr ∧ Arr w.heap.size (row 6 cf) wr ∧ Arr (w.heap.size + 1) [.int .i64 0, .string ⟨#[]⟩] wr) (fun _ iv _ => 3 - (intOf iv).toNat)
    case atStart => exact ⟨0, by omega, rfl, rfl, by unfold cntsL; rw [List.append_nil]; exact o6, L6, C6, R6⟩
    case round =>
      obtain ⟨j, hj, rfl, hfit, O3, L3, C3, R3⟩ := hrel
      have Cz3 := C3.lies
      have Rz3 := R3.lies
      have HJ : Hid (fitsK k cf j = true) := hfit
      clear hfit L6 C6 R6 o6 z6
      by_cases hjn : j < 3
      · have cC := row_c C3 j (by omega)
        have HN : Hid (fitsK k cf (j + 1) = fits k (cf j)) := by show (fitsK k cf j && fits k (cf j)) = _; rw [HJ.out]; rfl
        have HC : Hid (cntsL cf (j + 1) = cntsL cf j ++ [IntKind.u8.wrap (cf j / 256), IntKind.u8.wrap (cf j)]) := rfl
        have hlen := cntsL_len cf j
        have hlt : (tickL t ++ cntsL cf j).length = 6 + 2 * j := by rw [List.length_append, hlen]; rfl
        have HG' : Hid _ := HO.out (cf j)
        generalize cf j = c at cC HN HC HG'
        by_cases hfits : -32768 ≤ c ∧ c ≤ 32767
        · have hft : Hid (fits k c = true) := by show _ = _; rw [HG'.out]; simp; omega
          by_cases c0 : c < 0
          · have HD : Hid (cntsL cf (j + 1) = cntsL cf j ++ [(c + 65536) / 256, (c + 65536) % 256]) := by
              show _ = _
              rw [HC.out, IntKind.wrap_u8, IntKind.wrap_u8, show c / 256 % 256 = (c + 65536) / 256 by omega, show c % 256 = (c + 65536) % 256 by omega]
            have hl2 : (tickL t ++ cntsL cf j).length + [(c + 65536) / 256, (c + 65536) % 256].length ≤ 100 := by rw [hlt]; simp; omega
            go_wp2_with (at_builtin; refine app_any rfl (.tmp 62) (.tmp 69) rfl (w.heap.size + 2) u8 (tickL t ++ cntsL cf j) [(c + 65536) / 256, (c + 65536) % 256] wr rfl O3 rfl hl2 Rz3 ?_; intro v4 w4 O4 b4 z4)
            go_roundw
            case rel => exact ⟨j + 1, by omega, by go_num, by rw [HN.out, hft.out], by rw [HD.out, ← List.append_assoc]; exact O4, L3.trans (b4.mono (by omega)), C3.under b4 (by omega) z4, R3.under b4 (by omega) z4⟩
            case measure => simp [intOf]; omega
          · have HD : Hid (cntsL cf (j + 1) = cntsL cf j ++ [c / 256, c % 256]) := by
              show _ = _
              rw [HC.out, IntKind.wrap_u8, IntKind.wrap_u8, show c / 256 % 256 = c / 256 by omega, show c % 256 = c % 256 by omega]
            have hl2 : (tickL t ++ cntsL cf j).length + [c / 256, c % 256].length ≤ 100 := by rw [hlt]; simp; omega
            go_wp2_with (at_builtin; refine app_any rfl (.tmp 62) (.tmp 69) rfl (w.heap.size + 2) u8 (tickL t ++ cntsL cf j) [c / 256, c % 256] wr rfl O3 rfl hl2 Rz3 ?_; intro v4 w4 O4 b4 z4)
            go_roundw
            case rel => exact ⟨j + 1, by omega, by go_num, by rw [HN.out, hft.out], by rw [HD.out, ← List.append_assoc]; exact O4, L3.trans (b4.mono (by omega)), C3.under b4 (by omega) z4, R3.under b4 (by omega) z4⟩
            case measure => simp [intOf]; omega
        · have hft : Hid (fits k c = false) := by show _ = _; rw [HG'.out]; simp; omega
          have HX : Hid (fitsK k cf 3 = false) := fitsK_le (by rw [HN.out, hft.out]) (show j + 1 ≤ 3 by omega)
          by_cases h2 : c < -32768
          · clear hfits
            have cR0 : wr.cell? ⟨w.heap.size + 1, 0, none⟩ = some (.int .i64 0) := R3.c 0 (of_decide_eq_true rfl)
            have cR1 : wr.cell? ⟨w.heap.size + 1, 1, none⟩ = some (.string ⟨#[]⟩) := R3.c 1 (of_decide_eq_true rfl)
            have gR0 := R3.f 0 (of_decide_eq_true rfl)
            have gR1 := R3.f 1 (of_decide_eq_true rfl)
            go_wp2_with (with_reducible refine post_stop ?_)
            have d0 := Arr.c ((R3.put 0 (of_decide_eq_true rfl) (.int .i64 0) [.int .i64 0, .string ⟨#[]⟩] rfl).put 1 (of_decide_eq_true rfl) (.string ⟨#[]⟩) [.int .i64 0, .string ⟨#[]⟩] rfl) 0 (of_decide_eq_true rfl)
            have d1 := Arr.c ((R3.put 0 (of_decide_eq_true rfl) (.int .i64 0) [.int .i64 0, .string ⟨#[]⟩] rfl).put 1 (of_decide_eq_true rfl) (.string ⟨#[]⟩) [.int .i64 0, .string ⟨#[]⟩] rfl) 1 (of_decide_eq_true rfl)
            simp only [List.getElem_cons_zero, List.getElem_cons_succ] at d0 d1
            exact ⟨bodyPost_ret (v := .tuple #[.agg #[.int .i64 0, .string ⟨#[]⟩], .bool false]) (by simp [results_cell_tmp Try.results12, asAddr, go_sem, d0, d1]) rfl ⟨by unfold writeS; rw [HW.out, HX.out]; rfl, bel_new (bel_new L3 _ _ (by omega) _) _ _ (by omega) _⟩⟩
          · have h3 : 32767 < c := by omega
            clear hfits
            have cR0 : wr.cell? ⟨w.heap.size + 1, 0, none⟩ = some (.int .i64 0) := R3.c 0 (of_decide_eq_true rfl)
            have cR1 : wr.cell? ⟨w.heap.size + 1, 1, none⟩ = some (.string ⟨#[]⟩) := R3.c 1 (of_decide_eq_true rfl)
            have gR0 := R3.f 0 (of_decide_eq_true rfl)
            have gR1 := R3.f 1 (of_decide_eq_true rfl)
            go_wp2_with (with_reducible refine post_stop ?_)
            have d0 := Arr.c ((R3.put 0 (of_decide_eq_true rfl) (.int .i64 0) [.int .i64 0, .string ⟨#[]⟩] rfl).put 1 (of_decide_eq_true rfl) (.string ⟨#[]⟩) [.int .i64 0, .string ⟨#[]⟩] rfl) 0 (of_decide_eq_true rfl)
            have d1 := Arr.c ((R3.put 0 (of_decide_eq_true rfl) (.int .i64 0) [.int .i64 0, .string ⟨#[]⟩] rfl).put 1 (of_decide_eq_true rfl) (.string ⟨#[]⟩) [.int .i64 0, .string ⟨#[]⟩] rfl) 1 (of_decide_eq_true rfl)
            simp only [List.getElem_cons_zero, List.getElem_cons_succ] at d0 d1
            exact ⟨bodyPost_ret (v := .tuple #[.agg #[.int .i64 0, .string ⟨#[]⟩], .bool false]) (by simp [results_cell_tmp Try.results12, asAddr, go_sem, d0, d1]) rfl ⟨by unfold writeS; rw [HW.out, HX.out]; rfl, bel_new (bel_new L3 _ _ (by omega) _) _ _ (by omega) _⟩⟩
      · obtain rfl : j = 3 := by omega
        have hcv := conv_any O3 (by unfold tickL; simp) (fun b hb => (List.mem_append.1 hb).elim (tickL_rng t b) (cntsL_rng cf 3 b))
        rw [← HL.out] at hcv
        generalize hS : strOf (writeL k t cf) = S at hcv
        have HT : Hid (strOf (writeL k t cf) = S) := hS
        clear hS O3
        have cR0 : wr.cell? ⟨w.heap.size + 1, 0, none⟩ = some (.int .i64 0) := R3.c 0 (of_decide_eq_true rfl)
        have cR1 : wr.cell? ⟨w.heap.size + 1, 1, none⟩ = some (.string ⟨#[]⟩) := R3.c 1 (of_decide_eq_true rfl)
        have gR0 := R3.f 0 (of_decide_eq_true rfl)
        have gR1 := R3.f 1 (of_decide_eq_true rfl)
        go_wp2_with (with_reducible refine post_stop ?_)
        have d0 := Arr.c ((R3.put 0 (of_decide_eq_true rfl) (.int .i64 k) [.int .i64 k, .string ⟨#[]⟩] rfl).put 1 (of_decide_eq_true rfl) (.string S) [.int .i64 k, .string S] rfl) 0 (of_decide_eq_true rfl)
        have d1 := Arr.c ((R3.put 0 (of_decide_eq_true rfl) (.int .i64 k) [.int .i64 k, .string ⟨#[]⟩] rfl).put 1 (of_decide_eq_true rfl) (.string S) [.int .i64 k, .string S] rfl) 1 (of_decide_eq_true rfl)
        simp only [List.getElem_cons_zero, List.getElem_cons_succ] at d0 d1
        exact ⟨bodyPost_ret (v := .tuple #[.agg #[.int .i64 k, .string S], .bool true]) (by simp [results_cell_tmp Try.results12, asAddr, go_sem, d0, d1]) rfl ⟨by unfold writeS; rw [HW.out, HJ.out, if_pos rfl, HT.out], bel_new (bel_new L3 _ _ (by omega) _) _ _ (by omega) _⟩⟩
set_option maxHeartbeats 4000000 in
set_option maxRecDepth 100000 in
theorem rwrite_out (k t : Int) (cf : Nat → Int) (w : World) (h : nCounts k = 0 ∨ cRight t = false) :
    Calls Try.prog 12 #[.int .i64 k, .int .i64 t, .agg (row 6 cf).toArray] w fun e w' => e = .returned (.tuple #[.agg #[.int .i64 0, .string ⟨#[]⟩], .bool false]) ∧ Below w.heap.size w w' := by
  have hr := dRight_any t
  rw [show (row 6 cf).toArray = #[.int .i64 (cf 0), .int .i64 (cf 1), .int .i64 (cf 2), .int .i64 (cf 3), .int .i64 (cf 4), .int .i64 (cf 5)] from rfl]
  by_cases h1 : k < 1
  · clear h hr
    go_enter Try.func12, Try.ntmps12
    go_wp2_with (with_reducible refine post_stop ?_)
    exact ⟨bodyPost_ret (v := .tuple #[.agg #[.int .i64 0, .string ⟨#[]⟩], .bool false]) (by simp [results_cell_tmp Try.results12, asAddr, go_sem]) rfl ⟨rfl, bel_al (bel_al (Below.refl _ _) _) _⟩⟩
  by_cases h3 : 3 < k
  · clear h hr
    go_enter Try.func12, Try.ntmps12
    go_wp2_with (with_reducible refine post_stop ?_)
    exact ⟨bodyPost_ret (v := .tuple #[.agg #[.int .i64 0, .string ⟨#[]⟩], .bool false]) (by simp [results_cell_tmp Try.results12, asAddr, go_sem]) rfl ⟨rfl, bel_al (bel_al (Below.refl _ _) _) _⟩⟩
  have ht : cRight t = false := h.resolve_left (by unfold nCounts; split <;> (try split) <;> omega)
  rw [ht] at hr
  clear h ht
  go_enter Try.func12, Try.ntmps12
  go_wp2_with fail
  refine (hr _).mono ?_
  rintro e W1 ⟨rfl, k1⟩
  have L1 := bel_then (bel_al (bel_al (Below.refl _ w) _) _) k1
  have R1 := (Arr_at _ (w.heap.size + 1) [.int .i64 0, .string ⟨#[]⟩] 23 (by simp)).below k1
  have cR0 : W1.cell? ⟨w.heap.size + 1, 0, none⟩ = some (.int .i64 0) := R1.c 0 (of_decide_eq_true rfl)
  have cR1 : W1.cell? ⟨w.heap.size + 1, 1, none⟩ = some (.string ⟨#[]⟩) := R1.c 1 (of_decide_eq_true rfl)
  have gR0 := R1.f 0 (of_decide_eq_true rfl)
  have gR1 := R1.f 1 (of_decide_eq_true rfl)
  clear k1
  go_wp2_with (with_reducible refine post_stop ?_)
  have d0 := Arr.c ((R1.put 0 (of_decide_eq_true rfl) (.int .i64 0) [.int .i64 0, .string ⟨#[]⟩] rfl).put 1 (of_decide_eq_true rfl) (.string ⟨#[]⟩) [.int .i64 0, .string ⟨#[]⟩] rfl) 0 (of_decide_eq_true rfl)
  have d1 := Arr.c ((R1.put 0 (of_decide_eq_true rfl) (.int .i64 0) [.int .i64 0, .string ⟨#[]⟩] rfl).put 1 (of_decide_eq_true rfl) (.string ⟨#[]⟩) [.int .i64 0, .string ⟨#[]⟩] rfl) 1 (of_decide_eq_true rfl)
  simp only [List.getElem_cons_zero, List.getElem_cons_succ] at d0 d1
  exact ⟨bodyPost_ret (v := .tuple #[.agg #[.int .i64 0, .string ⟨#[]⟩], .bool false]) (by simp [results_cell_tmp Try.results12, asAddr, go_sem, d0, d1]) rfl ⟨rfl, bel_new (bel_new L1 _ _ (by omega) _) _ _ (by omega) _⟩⟩
/-- alidaderef12.Write. -/
theorem rwrite_any (k t : Int) (cf : Nat → Int) (w : World) :
    Calls Try.prog 12 #[.int .i64 k, .int .i64 t, .agg (row 6 cf).toArray] w fun e w' => e = .returned (.tuple #[.agg #[.int .i64 (writeS k t cf).1, .string (writeS k t cf).2], .bool (writeOk k t cf)]) ∧ Below w.heap.size w w' := by
  by_cases h : nCounts k = 0 ∨ cRight t = false
  · have e := writeOk_out (cf := cf) h
    unfold writeS
    rw [e]
    exact rwrite_out k t cf w h
  · exact rwrite_in k t cf w (fun h' => h (Or.inl h')) (by cases h' : cRight t; exact absurd (Or.inr h') h; rfl)
end Go.Proofs.Ytoaghmbaijlklaa
