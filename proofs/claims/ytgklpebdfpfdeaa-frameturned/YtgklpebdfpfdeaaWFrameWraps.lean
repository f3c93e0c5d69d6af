/-
  FrameWraps, walked, for the seat Ytgklpebdfpfdeaa.
-/
import Derived.Test.YtgklpebdfpfdeaaWFrameOpens
namespace Go.Proofs.Ytgklpebdfpfdeaa
open Go.RowKit

/-- What is wrapped is opened as what it was. -/
theorem open_wrap (b : UInt8) (d s : ByteArray) (hd : d.size ≤ 64) (hs : s.data.toList = wrapL b d.data.toList) : openS s = ((b.toNat : Int), d, true) := by
  have hl := look_wrap b d.data.toList [] (by rw [← Lib.size_eq]; exact hd)
  rw [List.append_nil, ← hs] at hl
  have hz : s.size = d.size + 5 := by rw [Lib.size_eq, hs, wrapL_length, ← Lib.size_eq]
  have hc : lookC s.data.toList = (2, (s.size : Int)) := by
    rw [lookC_of (by show 0 < s.size; omega) hl]
    show ((2 : Int), ((d.data.toList.length : Nat) : Int) + 5) = _
    rw [← Lib.size_eq, hz]
    rfl
  unfold openS
  rw [if_pos hc]
  have e1 : s.data.toList.getD 1 0 = b := by rw [hs, wrapL_parts]; rfl
  have e2 : s.extract 3 (s.size - 2) = d := ByteArray.ext (Array.toList_inj.1 (by
    rw [extract_list, hs, wrapL_parts, hz, show d.size + 5 - 2 - 3 = d.data.toList.length by rw [← Lib.size_eq]; omega]
    simp))
  rw [e1, e2]
theorem box_below {w w1 : World} {o : Array Value} {t : TypeId} (hb : Below (w.alloc (.cells o t)).heap.size (w.alloc (.cells o t)) w1) : Below w.heap.size w w1 :=
  ((Below.refl _ w).alloc (Nat.le_refl _) _).trans (hb.mono (by simp))
theorem open_none : openS ⟨#[]⟩ = (0, ⟨#[]⟩, false) := by decide +kernel
set_option maxHeartbeats 1000000 in
set_option maxRecDepth 100000 in
theorem FrameWraps_any (k : Int) (d : ByteArray) (w : World) : Calls Try.prog 4 #[.agg #[.int .i64 k, .string d]] w fun e w' => e = .returned (.bool true) ∧ Below w.heap.size w w' := by
  by_cases h : 0 ≤ k ∧ k ≤ 255 ∧ d.size ≤ 64
  · obtain ⟨b, rfl⟩ : ∃ b : UInt8, k = (b.toNat : Nat) := ⟨UInt8.ofNat k.toNat, by rw [ofNat_toNat (by omega)]; omega⟩
    have hd := h.2.2
    have ha := fun W => wrap_yes b d W hd
    have hb := fun W => rwrap_yes b d W hd
    clear h
    go_enter Try.func4, Try.ntmps4
    go_wp2_with (first
      | (go_at_call 11; refine (awake_any _).mono ?_; rintro e w1 ⟨rfl, hb1⟩; obtain ⟨k0, k1⟩ := box_kept hb1)
      | (go_at_call 12; refine (ha _).mono ?_; rintro e w2 ⟨s, rfl, hs, hb2⟩; have hb12 := hb1.trans (hb2.mono hb1.size); obtain ⟨k2, k3⟩ := box_kept hb12; have hop := open_any s; rw [open_wrap b d s hd hs] at hop)
      | (go_at_call 13; refine (hb _).mono ?_; rintro e w3 ⟨t, rfl, ht, hb3⟩; obtain rfl : t = s := ByteArray.ext (Array.toList_inj.1 (ht.trans hs.symm)); have hb13 := hb12.trans (hb3.mono hb12.size); clear k0 k1 k2 k3)
      | (go_at_call 14; refine (hop _).mono ?_; rintro e w4 ⟨rfl, hb4⟩; have hb14 := hb13.trans (hb4.mono hb13.size); obtain ⟨k4, k5⟩ := box_kept hb14; have hlt := box_lt hb14))
    go_ret
    have hbw := box_below hb14
    exact ⟨rfl, hbw.alloc hbw.size _⟩
  · have ha := fun W => wrap_no k d W h
    have hb := fun W => rwrap_no k d W h
    have hop := open_any ⟨#[]⟩
    rw [open_none] at hop
    go_enter Try.func4, Try.ntmps4
    go_wp2_with (first
      | (go_at_call 11; refine (awake_any _).mono ?_; rintro e w1 ⟨rfl, hb1⟩; obtain ⟨k0, k1⟩ := box_kept hb1)
      | (go_at_call 12; refine (ha _).mono ?_; rintro e w2 ⟨rfl, hb2⟩; have hb12 := hb1.trans (hb2.mono hb1.size); obtain ⟨k2, k3⟩ := box_kept hb12)
      | (go_at_call 13; refine (hb _).mono ?_; rintro e w3 ⟨rfl, hb3⟩; have hb13 := hb12.trans (hb3.mono hb12.size); clear k0 k1 k2 k3)
      | (go_at_call 14; refine (hop _).mono ?_; rintro e w4 ⟨rfl, hb4⟩; have hb14 := hb13.trans (hb4.mono hb13.size); obtain ⟨k4, k5⟩ := box_kept hb14; have hlt := box_lt hb14))
    go_ret
    have hbw := box_below hb14
    exact ⟨rfl, hbw.alloc hbw.size _⟩
end Go.Proofs.Ytgklpebdfpfdeaa
