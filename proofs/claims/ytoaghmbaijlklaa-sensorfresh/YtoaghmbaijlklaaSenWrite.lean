/-
  Sensors' frames: Write, walked, for the seat Ytoaghmbaijlklaa.
-/
import Derived.Test.YtoaghmbaijlklaaSenByte
import Derived.Test.YtoaghmbaijlklaaVLoop
import Derived.Test.YtoaghmbaijlklaaCCDays
namespace Go.Proofs.Ytoaghmbaijlklaa
open Go.RowKit

def fits (k c : Int) : Bool := decide ((nBounds k).1 ≤ c) && decide (c ≤ (nBounds k).2)
/-- The first j counts fit. -/
def fitsK (k : Int) (cf : Nat → Int) : Nat → Bool
  | 0 => true
  | j + 1 => fitsK k cf j && fits k (cf j)
def cntsL (cf : Nat → Int) : Nat → List Int
  | 0 => []
  | j + 1 => cntsL cf j ++ [IntKind.u8.wrap (cf j / 256), IntKind.u8.wrap (cf j)]
theorem cntsL_len (cf : Nat → Int) : ∀ j, (cntsL cf j).length = 2 * j
  | 0 => rfl
  | j + 1 => by
    have := cntsL_len cf j
    simp only [cntsL, List.length_append, List.length_cons, List.length_nil]
    omega
theorem wrap8_rng (x : Int) : 0 ≤ IntKind.u8.wrap x ∧ IntKind.u8.wrap x < 256 := by
  rw [IntKind.wrap_u8]
  omega
theorem cntsL_rng (cf : Nat → Int) : ∀ j, ∀ b ∈ cntsL cf j, 0 ≤ b ∧ b < 256
  | 0 => by intro b hb; cases hb
  | j + 1 => by
    intro b hb
    simp only [cntsL, List.mem_append, List.mem_cons, List.not_mem_nil, or_false] at hb
    rcases hb with hb | rfl | rfl
    · exact cntsL_rng cf j b hb
    · exact wrap8_rng _
    · exact wrap8_rng _
theorem tickL_rng (t : Int) : ∀ b ∈ tickL t, 0 ≤ b ∧ b < 256 := by
  intro b hb
  simp only [tickL, List.mem_cons, List.not_mem_nil, or_false] at hb
  rcases hb with rfl | rfl | rfl | rfl | rfl | rfl <;> exact wrap8_rng _
def writeOk (k t : Int) (cf : Nat → Int) : Bool := !decide (nCounts k = 0) && cRight t && fitsK k cf (nCounts k).toNat
/-- A frame's bytes. -/
def writeL (k t : Int) (cf : Nat → Int) : List Int := tickL t ++ cntsL cf (nCounts k).toNat
def writeS (k t : Int) (cf : Nat → Int) : Int × ByteArray := if writeOk k t cf then (k, strOf (writeL k t cf)) else (0, ⟨#[]⟩)
theorem fitsK_le {k : Int} {cf : Nat → Int} {i j : Nat} (h : fitsK k cf j = false) (hij : j ≤ i) : fitsK k cf i = false := by
  induction i with
  | zero => obtain rfl : j = 0 := by omega
            exact h
  | succ i ih =>
    by_cases c : j = i + 1
    · rw [← c]; exact h
    · show (fitsK k cf i && fits k (cf i)) = false
      rw [ih (by omega)]
      rfl
theorem slice6 (W : World) (b n : Nat) (h : n ≤ 6) : (Instr.sliceAt 32 (.pointer (some ⟨b, 0, none⟩)) none (some (.int .i64 (n : Int))) none).run Try.prog W = .ok (.slice (some ⟨b, 0, none⟩) n 6) W := by
  have e : Try.prog.arrayLen 32 = 6 := by kernel_rfl
  have hs : (sizeOf (Try.prog.elem 32)).run Try.prog W = .ok 1 W := by kernel_rfl
  rw [run_sliceAt_array_h W 32 ⟨b, 0, none⟩ (by kernel_rfl) .i64 (n : Int) (by omega) (by rw [e]; omega), hs, e]
  simp [Result.andThen, slicedAt, Addr.add]
set_option maxHeartbeats 4000000 in
set_option maxRecDepth 100000 in
theorem swrite_in (k t : Int) (cf : Nat → Int) (w : World) (h0 : ¬ nCounts k = 0) (ht : cRight t = true) :
    Calls Try.prog 11 #[.int .i64 k, .int .i64 t, .agg (row 6 cf).toArray] w fun e w' => e = .returned (.tuple #[.agg #[.int .i64 (writeS k t cf).1, .string (writeS k t cf).2], .bool (writeOk k t cf)]) ∧ Below w.heap.size w w' := by
  have hc := scounts_any k
  have hr := cRight_any t
  rw [ht] at hr
  have hb := sbounds_any k
  have hp := sparted_any t
  have hn : nCounts k = 3 ∨ nCounts k = 6 := by unfold nCounts at h0 ⊢; split at h0 <;> (try split at h0) <;> simp_all
  obtain ⟨n, hne⟩ : ∃ n : Nat, nCounts k = (n : Int) := ⟨(nCounts k).toNat, by omega⟩
  have hbr : -32768 ≤ (nBounds k).1 ∧ (nBounds k).1 ≤ 65535 ∧ -32768 ≤ (nBounds k).2 ∧ (nBounds k).2 ≤ 65535 := by unfold nBounds; split <;> omega
  have HW : Hid (writeOk k t cf = fitsK k cf n) := by show _ = _; unfold writeOk; rw [ht, hne]; simp; omega
  have HL : Hid (writeL k t cf = tickL t ++ cntsL cf n) := by show _ = _; unfold writeL; rw [hne]; rfl
  have HF : Hid (∀ c, fits k c = (decide ((nBounds k).1 ≤ c) && decide (c ≤ (nBounds k).2))) := fun c => rfl
  rw [hne] at hc hn
  clear h0 hne ht
  have n7 : n = 3 ∨ n = 6 := by omega
  clear hn
  generalize (nBounds k).1 = lo at *
  generalize (nBounds k).2 = hi at *
  rw [show (row 6 cf).toArray = #[.int .i64 (cf 0), .int .i64 (cf 1), .int .i64 (cf 2), .int .i64 (cf 3), .int .i64 (cf 4), .int .i64 (cf 5)] from rfl]
  go_enter Try.func11, Try.ntmps11
  go_wp2_with fail
  refine (hc _).mono ?_
  rintro e X ⟨rfl, rfl⟩
  go_wp2_with fail
  refine (hr _).mono ?_
  rintro e W1 ⟨rfl, k1⟩
  have L1 := bel_then (bel_al (bel_al (Below.refl _ w) _) _) k1
  have C1 : Arr w.heap.size (row 6 cf) W1 := ((Arr_at w w.heap.size (row 6 cf) 32 rfl).alloc _).below k1
  have R1 := (Arr_at _ (w.heap.size + 1) [.int .i64 0, .string ⟨#[]⟩] 23 (by simp)).below k1
  have Rz1 := R1.lies
  clear k1
  go_wp2_with fail
  refine (hb _).mono ?_
  rintro e X ⟨rfl, rfl⟩
  go_wp2_with fail
  refine (hp _).mono ?_
  rintro e W2 ⟨v2, rfl, O2, k2⟩
  have L2 := bel_then L1 k2
  have C2 := C1.below k2
  have R2 := R1.below k2
  have O2 := O2.base (B := w.heap.size + 2) (by omega)
  have Rz2 := R2.lies
  clear k2 L1 C1 R1 Rz1
  have hsl := fun W => slice6 W w.heap.size n (by omega)
  go_wp2_with fail
  go_loopw [11, 34] (fun dv iv wr => ∃ j : Nat, j ≤ n ∧ iv = .int .i64 j ∧ fitsK k cf j = true ∧ Bytes (w.heap.size + 2) wr dv (tickL t ++ cntsL cf j) ∧ Below w.heap.size w wr ∧ Arr w.heap.size (row 6 cf) wr ∧ Arr (w.heap.size + 1) [.int .i64 0, .string ⟨#[]⟩] wr) (fun _ iv _ => n - (intOf iv).toNat)
  case atStart => exact ⟨0, by omega, rfl, rfl, by unfold cntsL; rw [List.append_nil]; exact O2, L2, C2, R2⟩
  case round =>
    obtain ⟨j, hj, rfl, hfit, O3, L3, C3, R3⟩ := hrel
    have Cz3 := C3.lies
    have Rz3 := R3.lies
    have HJ : Hid (fitsK k cf j = true) := hfit
    clear hfit L2 C2 R2 O2 Rz2
    by_cases hjn : j < n
    · have cC := row_c C3 j (by omega)
      have HN : Hid (fitsK k cf (j + 1) = fits k (cf j)) := by show (fitsK k cf j && fits k (cf j)) = _; rw [HJ.out]; rfl
      have HC : Hid (cntsL cf (j + 1) = cntsL cf j ++ [IntKind.u8.wrap (cf j / 256), IntKind.u8.wrap (cf j)]) := rfl
      have hlen := cntsL_len cf j
      have hlt : (tickL t ++ cntsL cf j).length = 6 + 2 * j := by rw [List.length_append, hlen]; rfl
      have HG := HF.out (cf j)
      have HG' : Hid _ := HG
      clear HG
      generalize cf j = c at cC HN HC HG'
      by_cases hfits : lo ≤ c ∧ c ≤ hi
      · have hft : Hid (fits k c = true) := by show _ = _; rw [HG'.out]; simp; omega
        have hl2 : (tickL t ++ cntsL cf j).length + [IntKind.u8.wrap (c / 256), IntKind.u8.wrap c].length ≤ 100 := by rw [hlt]; simp; omega
        go_wp2_with (at_builtin; refine app_any rfl (.tmp 47) (.tmp 53) rfl (w.heap.size + 2) u11 (tickL t ++ cntsL cf j) [IntKind.u8.wrap (c / 256), IntKind.u8.wrap c] wr rfl O3 rfl hl2 Rz3 ?_; intro v4 w4 O4 b4 z4)
        go_roundw
        case rel => exact ⟨j + 1, by omega, by go_num, by rw [HN.out, hft.out], by rw [HC.out, ← List.append_assoc]; exact O4, L3.trans (b4.mono (by omega)), C3.under b4 (by omega) z4, R3.under b4 (by omega) z4⟩
        case measure => simp [intOf]; omega
      · have hft : Hid (fits k c = false) := by show _ = _; rw [HG'.out]; simp; omega
        have HX : Hid (fitsK k cf n = false) := fitsK_le (by rw [HN.out, hft.out]) (show j + 1 ≤ n by omega)
        by_cases h2 : c < lo
        · clear hfits
          have cR0 : wr.cell? ⟨w.heap.size + 1, 0, none⟩ = some (.int .i64 0) := R3.c 0 (of_decide_eq_true rfl)
          have cR1 : wr.cell? ⟨w.heap.size + 1, 1, none⟩ = some (.string ⟨#[]⟩) := R3.c 1 (of_decide_eq_true rfl)
          have gR0 := R3.f 0 (of_decide_eq_true rfl)
          have gR1 := R3.f 1 (of_decide_eq_true rfl)
          go_wp2_with (with_reducible refine post_stop ?_)
          have d0 := Arr.c ((R3.put 0 (of_decide_eq_true rfl) (.int .i64 0) [.int .i64 0, .string ⟨#[]⟩] rfl).put 1 (of_decide_eq_true rfl) (.string ⟨#[]⟩) [.int .i64 0, .string ⟨#[]⟩] rfl) 0 (of_decide_eq_true rfl)
          have d1 := Arr.c ((R3.put 0 (of_decide_eq_true rfl) (.int .i64 0) [.int .i64 0, .string ⟨#[]⟩] rfl).put 1 (of_decide_eq_true rfl) (.string ⟨#[]⟩) [.int .i64 0, .string ⟨#[]⟩] rfl) 1 (of_decide_eq_true rfl)
          simp only [List.getElem_cons_zero, List.getElem_cons_succ] at d0 d1
          exact ⟨bodyPost_ret (v := .tuple #[.agg #[.int .i64 0, .string ⟨#[]⟩], .bool false]) (by simp [results_cell_tmp Try.results11, asAddr, go_sem, d0, d1]) rfl ⟨by unfold writeS; rw [HW.out, HX.out]; rfl, bel_new (bel_new L3 _ _ (by omega) _) _ _ (by omega) _⟩⟩
        · have h3 : hi < c := by omega
          clear hfits
          have cR0 : wr.cell? ⟨w.heap.size + 1, 0, none⟩ = some (.int .i64 0) := R3.c 0 (of_decide_eq_true rfl)
          have cR1 : wr.cell? ⟨w.heap.size + 1, 1, none⟩ = some (.string ⟨#[]⟩) := R3.c 1 (of_decide_eq_true rfl)
          have gR0 := R3.f 0 (of_decide_eq_true rfl)
          have gR1 := R3.f 1 (of_decide_eq_true rfl)
          go_wp2_with (with_reducible refine post_stop ?_)
          have d0 := Arr.c ((R3.put 0 (of_decide_eq_true rfl) (.int .i64 0) [.int .i64 0, .string ⟨#[]⟩] rfl).put 1 (of_decide_eq_true rfl) (.string ⟨#[]⟩) [.int .i64 0, .string ⟨#[]⟩] rfl) 0 (of_decide_eq_true rfl)
          have d1 := Arr.c ((R3.put 0 (of_decide_eq_true rfl) (.int .i64 0) [.int .i64 0, .string ⟨#[]⟩] rfl).put 1 (of_decide_eq_true rfl) (.string ⟨#[]⟩) [.int .i64 0, .string ⟨#[]⟩] rfl) 1 (of_decide_eq_true rfl)
          simp only [List.getElem_cons_zero, List.getElem_cons_succ] at d0 d1
          exact ⟨bodyPost_ret (v := .tuple #[.agg #[.int .i64 0, .string ⟨#[]⟩], .bool false]) (by simp [results_cell_tmp Try.results11, asAddr, go_sem, d0, d1]) rfl ⟨by unfold writeS; rw [HW.out, HX.out]; rfl, bel_new (bel_new L3 _ _ (by omega) _) _ _ (by omega) _⟩⟩
    · obtain rfl : j = n := by omega
      have hcv := conv_any O3 (by unfold tickL; simp) (fun b hb => (List.mem_append.1 hb).elim (tickL_rng t b) (cntsL_rng cf j b))
      have HS : Hid (writeL k t cf = tickL t ++ cntsL cf j) := HL
      rw [← HL.out] at hcv
      generalize hS : strOf (writeL k t cf) = S at hcv
      have HT : Hid (strOf (writeL k t cf) = S) := hS
      clear hS O3 HS
      have cR0 : wr.cell? ⟨w.heap.size + 1, 0, none⟩ = some (.int .i64 0) := R3.c 0 (of_decide_eq_true rfl)
      have cR1 : wr.cell? ⟨w.heap.size + 1, 1, none⟩ = some (.string ⟨#[]⟩) := R3.c 1 (of_decide_eq_true rfl)
      have gR0 := R3.f 0 (of_decide_eq_true rfl)
      have gR1 := R3.f 1 (of_decide_eq_true rfl)
      go_wp2_with (with_reducible refine post_stop ?_)
      have d0 := Arr.c ((R3.put 0 (of_decide_eq_true rfl) (.int .i64 k) [.int .i64 k, .string ⟨#[]⟩] rfl).put 1 (of_decide_eq_true rfl) (.string S) [.int .i64 k, .string S] rfl) 0 (of_decide_eq_true rfl)
      have d1 := Arr.c ((R3.put 0 (of_decide_eq_true rfl) (.int .i64 k) [.int .i64 k, .string ⟨#[]⟩] rfl).put 1 (of_decide_eq_true rfl) (.string S) [.int .i64 k, .string S] rfl) 1 (of_decide_eq_true rfl)
      simp only [List.getElem_cons_zero, List.getElem_cons_succ] at d0 d1
      exact ⟨bodyPost_ret (v := .tuple #[.agg #[.int .i64 k, .string S], .bool true]) (by simp [results_cell_tmp Try.results11, asAddr, go_sem, d0, d1]) rfl ⟨by unfold writeS; rw [HW.out, HJ.out, if_pos rfl, HT.out], bel_new (bel_new L3 _ _ (by omega) _) _ _ (by omega) _⟩⟩
theorem writeOk_out {k t : Int} {cf : Nat → Int} (h : nCounts k = 0 ∨ cRight t = false) : writeOk k t cf = false := by
  unfold writeOk
  rcases h with h | h
  · rw [h]; rfl
  · rw [h, Bool.and_false]; rfl
set_option maxHeartbeats 4000000 in
set_option maxRecDepth 100000 in
theorem swrite_out (k t : Int) (cf : Nat → Int) (w : World) (h : nCounts k = 0 ∨ cRight t = false) :
    Calls Try.prog 11 #[.int .i64 k, .int .i64 t, .agg (row 6 cf).toArray] w fun e w' => e = .returned (.tuple #[.agg #[.int .i64 0, .string ⟨#[]⟩], .bool false]) ∧ Below w.heap.size w w' := by
  have hc := scounts_any k
  have hr := cRight_any t
  rw [show (row 6 cf).toArray = #[.int .i64 (cf 0), .int .i64 (cf 1), .int .i64 (cf 2), .int .i64 (cf 3), .int .i64 (cf 4), .int .i64 (cf 5)] from rfl]
  by_cases h0 : nCounts k = 0
  · rw [h0] at hc
    clear h h0 hr
    go_enter Try.func11, Try.ntmps11
    go_wp2_with fail
    refine (hc _).mono ?_
    rintro e X ⟨rfl, rfl⟩
    go_wp2_with (with_reducible refine post_stop ?_)
    exact ⟨bodyPost_ret (v := .tuple #[.agg #[.int .i64 0, .string ⟨#[]⟩], .bool false]) (by simp [results_cell_tmp Try.results11, asAddr, go_sem]) rfl ⟨rfl, bel_al (bel_al (Below.refl _ _) _) _⟩⟩
  · have h1 : cRight t = false := h.resolve_left h0
    have d0 : (nCounts k == 0) = false := by simpa using h0
    rw [h1] at hr
    clear h h0 h1
    generalize nCounts k = n at hc d0
    go_enter Try.func11, Try.ntmps11
    go_wp2_with fail
    refine (hc _).mono ?_
    rintro e X ⟨rfl, rfl⟩
    go_wp2_with fail
    refine (hr _).mono ?_
    rintro e W1 ⟨rfl, k1⟩
    have L1 := bel_then (bel_al (bel_al (Below.refl _ w) _) _) k1
    have R1 := (Arr_at _ (w.heap.size + 1) [.int .i64 0, .string ⟨#[]⟩] 23 (by simp)).below k1
    have cR0 : W1.cell? ⟨w.heap.size + 1, 0, none⟩ = some (.int .i64 0) := R1.c 0 (of_decide_eq_true rfl)
    have cR1 : W1.cell? ⟨w.heap.size + 1, 1, none⟩ = some (.string ⟨#[]⟩) := R1.c 1 (of_decide_eq_true rfl)
    have gR0 := R1.f 0 (of_decide_eq_true rfl)
    have gR1 := R1.f 1 (of_decide_eq_true rfl)
    clear k1
    go_wp2_with (with_reducible refine post_stop ?_)
    have d0 := Arr.c ((R1.put 0 (of_decide_eq_true rfl) (.int .i64 0) [.int .i64 0, .string ⟨#[]⟩] rfl).put 1 (of_decide_eq_true rfl) (.string ⟨#[]⟩) [.int .i64 0, .string ⟨#[]⟩] rfl) 0 (of_decide_eq_true rfl)
    have d1 := Arr.c ((R1.put 0 (of_decide_eq_true rfl) (.int .i64 0) [.int .i64 0, .string ⟨#[]⟩] rfl).put 1 (of_decide_eq_true rfl) (.string ⟨#[]⟩) [.int .i64 0, .string ⟨#[]⟩] rfl) 1 (of_decide_eq_true rfl)
    simp only [List.getElem_cons_zero, List.getElem_cons_succ] at d0 d1
    exact ⟨bodyPost_ret (v := .tuple #[.agg #[.int .i64 0, .string ⟨#[]⟩], .bool false]) (by simp [results_cell_tmp Try.results11, asAddr, go_sem, d0, d1]) rfl ⟨rfl, bel_new (bel_new L1 _ _ (by omega) _) _ _ (by omega) _⟩⟩
/-- sensor.Write. -/
theorem swrite_any (k t : Int) (cf : Nat → Int) (w : World) :
    Calls Try.prog 11 #[.int .i64 k, .int .i64 t, .agg (row 6 cf).toArray] w fun e w' => e = .returned (.tuple #[.agg #[.int .i64 (writeS k t cf).1, .string (writeS k t cf).2], .bool (writeOk k t cf)]) ∧ Below w.heap.size w w' := by
  by_cases h : nCounts k = 0 ∨ cRight t = false
  · have e := writeOk_out (cf := cf) h
    unfold writeS
    rw [e]
    exact swrite_out k t cf w h
  · exact swrite_in k t cf w (fun h' => h (Or.inl h')) (by cases h' : cRight t; exact absurd (Or.inr h') h; rfl)
end Go.Proofs.Ytoaghmbaijlklaa
