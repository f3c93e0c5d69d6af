/-
  FrameOpens, walked, for the seat Ytgklpebdfpfdeaa.
-/
import Derived.Test.YtgklpebdfpfdeaaNAwake
import Derived.Test.YtgklpebdfpfdeaaNROpen
namespace Go.Proofs.Ytgklpebdfpfdeaa
open Go.RowKit

/-- Both open the same bytes as the same; what is opened is wrapped as just these bytes. -/
theorem opens (s : ByteArray) : ropenS s = openS s ∧ (∀ (k : Int) (d : ByteArray), openS s = (k, d, true) → ∃ b : UInt8, k = (b.toNat : Nat) ∧ d.size ≤ 64 ∧ wrapL b d.data.toList = s.data.toList) := by
  by_cases h : lookC s.data.toList = (2, (s.size : Int))
  · obtain ⟨n, hn, hb⟩ := lookC_two h
    have hl : s.data.toList.length = s.size := rfl
    have e : openS s = (((s.data.toList.getD 1 0).toNat : Int), s.extract 3 (s.size - 2), true) := by unfold openS; rw [if_pos h]
    have hp := look_parts hn
    have et : s.data.toList = s.data.toList.take (n + 5) := by rw [List.take_of_length_le (by omega)]
    have ed : (s.extract 3 (s.size - 2)).data.toList = (s.data.toList.drop 3).take n := by rw [extract_list]; congr 1; omega
    refine ⟨by rw [e]; exact ropenS_yes hn et ed rfl, fun k d hkd => ?_⟩
    rw [e] at hkd
    obtain ⟨rfl, rfl, _⟩ := hkd
    refine ⟨s.data.toList.getD 1 0, rfl, by rw [ByteArray.size_extract]; omega, ?_⟩
    rw [ed, ← wrap_look hn, ← et]
  · have e : openS s = (0, ⟨#[]⟩, false) := by unfold openS; rw [if_neg h]
    refine ⟨?_, fun k d hkd => by rw [e] at hkd; cases hkd⟩
    rw [e]
    unfold ropenS
    rw [if_neg]
    rintro ⟨h5, h69, hw⟩
    have hl := look_wrap (s.data.toList.getD 1 0) (s.extract 3 (s.size - 2)).data.toList [] (by rw [← Lib.size_eq, ByteArray.size_extract]; omega)
    rw [List.append_nil, hw] at hl
    apply h
    rw [lookC_of (by show 0 < s.size; omega) hl]
    show ((2 : Int), (((s.extract 3 (s.size - 2)).data.toList.length : Nat) : Int) + 5) = _
    rw [← Lib.size_eq, ByteArray.size_extract]
    congr 1
    omega
theorem box_kept {w w1 : World} {x y : Value} {t : TypeId} (hb : Below (w.alloc (.cells #[x, y] t)).heap.size (w.alloc (.cells #[x, y] t)) w1) : w1.cell? ⟨w.heap.size, 0, none⟩ = some x ∧ w1.cell? ⟨w.heap.size, 1, none⟩ = some y :=
  ⟨(hb.cell (p := ⟨w.heap.size, 0, none⟩) (by simp)).trans (cell_top _ _ _ _ 0 rfl), (hb.cell (p := ⟨w.heap.size, 1, none⟩) (by simp)).trans (cell_top _ _ _ _ 1 rfl)⟩
theorem box_lt {w w1 : World} {o : Obj} (hb : Below (w.alloc o).heap.size (w.alloc o) w1) : w.heap.size < w1.heap.size := by
  have := hb.size
  simp at this
  omega
set_option maxHeartbeats 1000000 in
set_option maxRecDepth 100000 in
theorem FrameOpens_any (s : ByteArray) (w : World) : Calls Try.prog 5 #[.string s] w fun e w' => e = .returned (.bool true) ∧ Below w.heap.size w w' := by
  by_cases h : 5000 < s.size
  · go_enter Try.func5, Try.ntmps5
    go_wp2_with (go_at_call 11; refine (awake_any _).mono ?_; rintro e w1 ⟨rfl, hb1⟩)
    go_ret
    exact ⟨rfl, hb1⟩
  · have ha := open_any s
    have hb := fun W => ropen_any s W (by omega)
    obtain ⟨he, hw⟩ := opens s
    rw [he] at hb
    obtain ⟨k, d, c, hkd⟩ : ∃ k d c, openS s = (k, d, c) := ⟨_, _, _, rfl⟩
    rw [hkd] at ha hb hw
    clear he hkd
    cases c with
    | false =>
      clear hw
      go_enter Try.func5, Try.ntmps5
      go_wp2_with (first
        | (go_at_call 11; refine (awake_any _).mono ?_; rintro e w1 ⟨rfl, hb1⟩)
        | (go_at_call 14; refine (ha _).mono ?_; rintro e w2 ⟨rfl, hb2⟩)
        | (go_at_call 15; refine (hb _).mono ?_; rintro e w3 ⟨rfl, hb3⟩; obtain ⟨k0, k1⟩ := box_kept hb3; have hlt := box_lt hb3))
      go_ret
      have h12 := hb1.trans (hb2.mono hb1.size)
      have h1a := h12.alloc h12.size (.cells #[.int .i64 k, .string d] 26)
      have h13 := h1a.trans (hb3.mono h1a.size)
      exact ⟨rfl, h13.alloc h13.size _⟩
    | true =>
      obtain ⟨b, rfl, hd, hwl⟩ := hw k d rfl
      have hwr := fun W => wrap_yes b d W hd
      clear hw
      go_enter Try.func5, Try.ntmps5
      go_wp2_with (first
        | (go_at_call 11; refine (awake_any _).mono ?_; rintro e w1 ⟨rfl, hb1⟩)
        | (go_at_call 14; refine (ha _).mono ?_; rintro e w2 ⟨rfl, hb2⟩)
        | (go_at_call 15; refine (hb _).mono ?_; rintro e w3 ⟨rfl, hb3⟩; obtain ⟨k0, k1⟩ := box_kept hb3; have hlt := box_lt hb3)
        | (go_at_call 12; refine (hwr _).mono ?_; rintro e w4 ⟨t, rfl, ht, hb4⟩; obtain rfl : t = s := ByteArray.ext (Array.toList_inj.1 (ht.trans hwl))))
      go_ret
      have h12 := hb1.trans (hb2.mono hb1.size)
      have h1a := h12.alloc h12.size (.cells #[.int .i64 (b.toNat : Nat), .string d] 26)
      have h13 := h1a.trans (hb3.mono h1a.size)
      have h3a := h13.alloc h13.size (.cells #[.int .i64 (b.toNat : Nat), .string d] 26)
      exact ⟨rfl, h3a.trans (hb4.mono h3a.size)⟩
end Go.Proofs.Ytgklpebdfpfdeaa
