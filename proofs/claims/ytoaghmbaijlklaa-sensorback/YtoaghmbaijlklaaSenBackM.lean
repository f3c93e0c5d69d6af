/-
  What is written and read says the tick and the counts, for the seat Ytoaghmbaijlklaa.
-/
import Derived.Test.YtoaghmbaijlklaaSenWrite
namespace Go.Proofs.Ytoaghmbaijlklaa
open Go.RowKit

theorem bt_str {l : List Int} (h : ∀ b ∈ l, 0 ≤ b ∧ b < 256) (i : Nat) (hi : i < l.length) : ((bt (strOf l) i : Nat) : Int) = l[i] := by
  have hb := h l[i] (List.getElem_mem hi)
  have e : (strOf l).data.toList = l.map fun b => UInt8.ofNat b.toNat := rfl
  unfold bt
  rw [e, List.getD_eq_getElem?_getD, List.getElem?_map, List.getElem?_eq_getElem hi]
  simp
  omega
theorem write_rng (k t : Int) (cf : Nat → Int) : ∀ b ∈ writeL k t cf, 0 ≤ b ∧ b < 256 := by
  intro b hb
  unfold writeL at hb
  exact (List.mem_append.1 hb).elim (tickL_rng t b) (cntsL_rng cf _ b)
theorem write_len (k t : Int) (cf : Nat → Int) : (writeL k t cf).length = 6 + 2 * (nCounts k).toNat := by
  unfold writeL
  rw [List.length_append, cntsL_len]
  rfl
theorem cRight_rng {t : Int} (h : cRight t = true) : 0 ≤ t ∧ t ≤ 157766400000 := by
  rcases cRight_cases t with h' | h'
  · exact h'
  · rw [cRight_out h'] at h; cases h
theorem write_size (k t : Int) (cf : Nat → Int) : (strOf (writeL k t cf)).size = 6 + 2 * (nCounts k).toNat := by
  show ((writeL k t cf).map _).length = _
  rw [List.length_map, write_len]
theorem back_tick {k t : Int} {cf : Nat → Int} (h : writeOk k t cf = true) : tickS (strOf (writeL k t cf)) = t := by
  have ht : cRight t = true := by unfold writeOk at h; simp at h; exact h.1.2
  have hr := cRight_rng ht
  have hl := write_len k t cf
  have B := fun i hi => bt_str (write_rng k t cf) i hi
  have b0 := B 0 (by omega)
  have b1 := B 1 (by omega)
  have b2 := B 2 (by omega)
  have b3 := B 3 (by omega)
  have b4 := B 4 (by omega)
  have b5 := B 5 (by omega)
  have e0 : (writeL k t cf)[0]'(by omega) = t / 1099511627776 % 256 := by rw [← IntKind.wrap_u8]; rfl
  have e1 : (writeL k t cf)[1]'(by omega) = t / 4294967296 % 256 := by rw [← IntKind.wrap_u8]; rfl
  have e2 : (writeL k t cf)[2]'(by omega) = t / 16777216 % 256 := by rw [← IntKind.wrap_u8]; rfl
  have e3 : (writeL k t cf)[3]'(by omega) = t / 65536 % 256 := by rw [← IntKind.wrap_u8]; rfl
  have e4 : (writeL k t cf)[4]'(by omega) = t / 256 % 256 := by rw [← IntKind.wrap_u8]; rfl
  have e5 : (writeL k t cf)[5]'(by omega) = t % 256 := by rw [← IntKind.wrap_u8]; rfl
  rw [e0] at b0
  rw [e1] at b1
  rw [e2] at b2
  rw [e3] at b3
  rw [e4] at b4
  rw [e5] at b5
  unfold tickS
  simp only [tickK]
  omega
theorem back_cnt {t : Int} {cf : Nat → Int} (h : writeOk 1 t cf = true) (i : Nat) (hi : i < 3) : sg (cnt (strOf (writeL 1 t cf)) (6 + 2 * i)) = cf i := by
  have hf : fitsK 1 cf 3 = true := by unfold writeOk at h; simp at h; exact h.2
  have hfi : -32768 ≤ cf i ∧ cf i ≤ 32767 := by
    have f0 : fits 1 (cf 0) = true ∧ fits 1 (cf 1) = true ∧ fits 1 (cf 2) = true := by
      simp only [fitsK, Bool.true_and, Bool.and_eq_true] at hf
      exact ⟨hf.1.1, hf.1.2, hf.2⟩
    have nb : nBounds 1 = (-32768, 32767) := rfl
    unfold fits at f0
    rw [nb] at f0
    simp at f0
    match i, hi with
    | 0, _ => exact f0.1
    | 1, _ => exact f0.2.1
    | 2, _ => exact f0.2.2
  have hl : (writeL 1 t cf).length = 12 := write_len 1 t cf
  have b0 := bt_str (write_rng 1 t cf) (6 + 2 * i) (by omega)
  have b1 := bt_str (write_rng 1 t cf) (6 + 2 * i + 1) (by omega)
  have e0 : (writeL 1 t cf)[6 + 2 * i]'(by omega) = cf i / 256 % 256 := by
    rw [← IntKind.wrap_u8]
    match i, hi with
    | 0, _ => rfl
    | 1, _ => rfl
    | 2, _ => rfl
  have e1 : (writeL 1 t cf)[6 + 2 * i + 1]'(by omega) = cf i % 256 := by
    rw [← IntKind.wrap_u8]
    match i, hi with
    | 0, _ => rfl
    | 1, _ => rfl
    | 2, _ => rfl
  rw [e0] at b0
  rw [e1] at b1
  unfold cnt sg
  split <;> omega
/-- What is written, if it may be read, says kind, tick and, of a gyro, the counts. -/
theorem back_read {k t : Int} {cf : Nat → Int} (h : writeOk k t cf = true) (hr : readOk k (strOf (writeL k t cf)) = true) : ∃ v : V3, readR k (strOf (writeL k t cf)) = (k, t, v) ∧ (k = 1 → v = (cf 0 * 33554432, cf 1 * 33554432, cf 2 * 33554432)) := by
  have e : readR k (strOf (writeL k t cf)) = (k, t, saidV k (strOf (writeL k t cf)) 6) := by unfold readR; rw [if_pos hr, back_tick h]
  refine ⟨_, e, fun h1 => ?_⟩
  subst h1
  have c0 := back_cnt h 0 (by decide)
  have c1 := back_cnt h 1 (by decide)
  have c2 := back_cnt h 2 (by decide)
  show gyroV _ _ _ = _
  rw [show 6 + 2 = 6 + 2 * 1 from rfl, show 6 + 4 = 6 + 2 * 2 from rfl, show cnt (strOf (writeL 1 t cf)) 6 = cnt (strOf (writeL 1 t cf)) (6 + 2 * 0) from rfl, c0, c1, c2]
  rfl
end Go.Proofs.Ytoaghmbaijlklaa
