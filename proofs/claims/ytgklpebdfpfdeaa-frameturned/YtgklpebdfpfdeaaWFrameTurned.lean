/-
  FrameTurned, walked, for the seat Ytgklpebdfpfdeaa.
-/
import Derived.Test.YtgklpebdfpfdeaaWFrameWraps
import Derived.Test.YtgklpebdfpfdeaaNTurn
import Derived.Lib.ConvBytes
namespace Go.Proofs.Ytgklpebdfpfdeaa
open Go.RowKit

/-- Bytes out of a string, in a row of their own. -/
theorem to_bytes (w : World) (s : ByteArray) : ∃ (V : World) (c : Nat), s.size ≤ c ∧ (convert 9 38 (.string s)).run Try.prog w = .ok (.slice (some ⟨w.heap.size, 0, none⟩) s.size c) V ∧
    (∀ j (h : j < s.size), V.cell? ⟨w.heap.size, j, none⟩ = some (.int .u8 ((s[j]'h).toNat : Nat)) ∧ V.frozen? ⟨w.heap.size, j, none⟩ = false) ∧ Below w.heap.size w V ∧ w.heap.size < V.heap.size := by
  refine ⟨Lib.bytesWorld w 5 s, grownCap w s.size 0 5, grownCap_ge _ _ _ _, Lib.run_convert_string_bytes w 9 38 5 s Try.underlying9 Try.underlying38 Try.underlying5, fun j h => ⟨?_, ?_⟩, ⟨rfl, rfl, rfl, ?_, fun k hk => Lib.bytesWorld_at_old w _ s k hk⟩, ?_⟩
  · rw [Lib.bytesWorld_cell w _ s j h, getD_of h]
  · have hs : (Lib.bytesCells w 5 s).size = grownCap w s.size 0 5 := by
      have := grownCap_ge w s.size 0 5
      simp [Lib.bytesCells]
      omega
    have := grownCap_ge w s.size 0 5
    simp [World.frozen?, Lib.bytesWorld_at_new, hs]
    omega
  · rw [Lib.bytesWorld_size]; omega
  · rw [Lib.bytesWorld_size]; omega
/-- The bytes again, one of them turned. -/
theorem from_bytes (V : World) (B : Nat) (s : ByteArray) (c j : Nat) (y : UInt8) (hj : j < s.size) (hV : ∀ i (h : i < s.size), V.cell? ⟨B, i, none⟩ = some (.int .u8 ((s[i]'h).toNat : Nat)) ∧ V.frozen? ⟨B, i, none⟩ = false) :
    ∃ t : ByteArray, t.data.toList = s.data.toList.set j y ∧ (convert 38 9 (.slice (some ⟨B, 0, none⟩) s.size c)).run Try.prog (V.setCell ⟨B, j, none⟩ (.int .u8 (y.toNat : Nat))) = .ok (.string t) (V.setCell ⟨B, j, none⟩ (.int .u8 (y.toNat : Nat))) := by
  have hl : (s.data.toList.set j y).length = s.size := by rw [List.length_set]; rfl
  refine ⟨⟨(s.data.toList.set j y).toArray⟩, by simp, ?_⟩
  have := run_convert_bytes_back (P := Try.prog) (V.setCell ⟨B, j, none⟩ (.int .u8 (y.toNat : Nat))) 38 9 5 ⟨B, 0, none⟩ c (s.data.toList.set j y) Try.underlying38 Try.underlying5 Try.underlying9 (fun i hi => by
    have hi' : i < s.size := by rw [← hl]; exact hi
    rw [show (⟨B, 0, none⟩ : Addr).add i = ⟨B, i, none⟩ by unfold Addr.add; split <;> simp_all]
    by_cases c : i = j
    · subst c
      rw [List.getElem_set_self]
      exact World.cell?_setCell_same _ _ _ (hV i hi').1
    · rw [List.getElem_set_ne (by omega), World.cell?_setCell_other _ _ _ _ (fun e => c (congrArg Addr.off e).symm)]
      exact (hV i hi').1)
  rw [hl] at this
  exact this
theorem open_turned {b y : UInt8} {d s t : ByteArray} {j : Nat} (hs : s.data.toList = wrapL b d.data.toList) (hj : j < s.size) (hy : y ≠ s[j]) (ht : t.data.toList = s.data.toList.set j y) : openS t = (0, ⟨#[]⟩, false) := by
  unfold openS
  rw [if_neg]
  intro h
  obtain ⟨n, hn, hb⟩ := lookC_two h
  have hts : t.size = s.size := by rw [Lib.size_eq, ht, List.length_set]; rfl
  have hl : (wrapL b d.data.toList).length = s.size := by rw [← hs]; rfl
  rw [ht, hs] at hn
  refine look_turned (by omega) ?_ hn (by omega)
  have : (wrapL b d.data.toList)[j]'(by omega) = s[j] := by
    have : s[j] = s.data.toList[j]'hj := rfl
    rw [this]
    simp only [hs]
  rw [this]
  exact hy
theorem turn_all (w2 : World) (b : UInt8) (d s : ByteArray) (a : Int) (q : Nat) (hd : d.size ≤ 64) (hs : s.data.toList = wrapL b d.data.toList) (hq : q < 256) (hq0 : q ≠ 0) : ∃ (T : ByteArray) (V : World) (c : Nat) (m : Int) (J x y : Nat), Below w2.heap.size w2 V ∧ w2.heap.size < V.heap.size ∧ 5 ≤ s.size ∧ s.size ≤ 69 ∧
    (convert 9 38 (.string s)).run Try.prog w2 = .ok (.slice (some ⟨w2.heap.size, 0, none⟩) s.size c) V ∧ a.tmod (s.size : Int) = m ∧ -(s.size : Int) < m ∧ m < (s.size : Int) ∧ (m + (s.size : Int)).tmod (s.size : Int) = (J : Int) ∧ J < s.size ∧
    V.cell? ⟨w2.heap.size, J, none⟩ = some (.int .u8 (x : Nat)) ∧ V.frozen? ⟨w2.heap.size, J, none⟩ = false ∧ bits .xor .u8 (x : Int) (q : Int) = (y : Int) ∧
    (convert 38 9 (.slice (some ⟨w2.heap.size, 0, none⟩) s.size c)).run Try.prog (V.setCell ⟨w2.heap.size, J, none⟩ (.int .u8 (y : Int))) = .ok (.string T) (V.setCell ⟨w2.heap.size, J, none⟩ (.int .u8 (y : Int))) ∧
    (∀ W, Calls Try.prog 14 #[.string T] W fun e w' => e = .returned (.tuple #[.agg #[.int .i64 0, .string ⟨#[]⟩], .bool false]) ∧ Below W.heap.size W w') := by
  have hz : s.size = d.size + 5 := by rw [Lib.size_eq, hs, wrapL_length, ← Lib.size_eq]
  obtain ⟨V, c, hc, hcv, hV, hbV, hltV⟩ := to_bytes w2 s
  have hn : (0 : Int) < (s.size : Int) := by omega
  have m1 : (a.tmod (s.size : Int)).natAbs < s.size := by
    have := Int.natAbs_tmod a (s.size : Int)
    have := Nat.mod_lt a.natAbs (show 0 < (s.size : Int).natAbs by omega)
    omega
  have j0 : 0 ≤ (a.tmod (s.size : Int) + (s.size : Int)).tmod (s.size : Int) := Int.tmod_nonneg _ (by omega)
  have j1 : (a.tmod (s.size : Int) + (s.size : Int)).tmod (s.size : Int) < (s.size : Int) := Int.tmod_lt_of_pos _ hn
  have hJl : ((a.tmod (s.size : Int) + (s.size : Int)).tmod (s.size : Int)).toNat < s.size := by omega
  obtain ⟨J, hJ⟩ : ∃ J, J = ((a.tmod (s.size : Int) + (s.size : Int)).tmod (s.size : Int)).toNat := ⟨_, rfl⟩
  rw [← hJ] at hJl
  have hx8 := (s[J]'hJl).toNat_lt
  have hxq : (s[J]'hJl).toNat ^^^ q < 256 := Nat.xor_lt_two_pow (n := 8) hx8 hq
  have hy : (UInt8.ofNat ((s[J]'hJl).toNat ^^^ q)).toNat = (s[J]'hJl).toNat ^^^ q := ofNat_toNat hxq
  obtain ⟨T, hT, hcT⟩ := from_bytes V w2.heap.size s c J (UInt8.ofNat ((s[J]'hJl).toNat ^^^ q)) hJl hV
  rw [hy] at hcT
  have hop := open_any T
  rw [open_turned hs hJl (fun e => by
    have e := congrArg UInt8.toNat e
    rw [hy] at e
    have e' : (s[J]'hJl).toNat ^^^ q = (s[J]'hJl).toNat ^^^ 0 := by rw [e, Nat.xor_zero]
    exact hq0 (xor_cancel_left e')) hT] at hop
  exact ⟨T, V, c, _, J, (s[J]'hJl).toNat, _, hbV, hltV, by omega, by omega, hcv, rfl, by omega, by omega, by omega, hJl, (hV J hJl).1, (hV J hJl).2, u8_xor_nat _ q hx8 hq, hcT, hop⟩
set_option maxHeartbeats 1000000 in
set_option maxRecDepth 100000 in
theorem FrameTurned_any (k : Int) (d : ByteArray) (at_ by_ : Int) (w : World) (ha : 0 ≤ by_ ∧ by_ ≤ 255) : Calls Try.prog 8 #[.agg #[.int .i64 k, .string d], .int .i64 at_, .int .u8 by_] w fun e w' => e = .returned (.bool true) ∧ Below w.heap.size w w' := by
  by_cases h : 0 ≤ k ∧ k ≤ 255 ∧ d.size ≤ 64
  · obtain ⟨b, rfl⟩ : ∃ b : UInt8, k = (b.toNat : Nat) := ⟨UInt8.ofNat k.toNat, by rw [ofNat_toNat (by omega)]; omega⟩
    have hd := h.2.2
    have hw := fun W => wrap_yes b d W hd
    clear h
    by_cases h0 : by_ = 0
    · subst h0
      go_enter Try.func8, Try.ntmps8
      go_wp2_with (first
        | (go_at_call 11; refine (awake_any _).mono ?_; rintro e w1 ⟨rfl, hb1⟩; obtain ⟨k0, k1⟩ := box_kept hb1)
        | (go_at_call 12; refine (hw _).mono ?_; rintro e w2 ⟨s, rfl, hs, hb2⟩))
      go_ret
      exact ⟨rfl, box_below (hb1.trans (hb2.mono hb1.size))⟩
    have hne : (by_ == 0) = false := by simpa using h0
    obtain ⟨q, rfl⟩ : ∃ q : Nat, by_ = q := ⟨by_.toNat, by omega⟩
    go_enter Try.func8, Try.ntmps8
    go_wp2_with (first
      | (go_at_call 11; refine (awake_any _).mono ?_; rintro e w1 ⟨rfl, hb1⟩; obtain ⟨k0, k1⟩ := box_kept hb1)
      | (go_at_call 12; refine (hw _).mono ?_; rintro e w2 ⟨s, rfl, hs, hb2⟩; obtain ⟨T, V, c, m, J, x, y, hbV, hltV, h5, h69, hcv, hm, hm1, hm2, hJ, hJl, kJ, fJ, hx, hT, hop⟩ := turn_all w2 b d s at_ q hd hs (by omega) (by omega); clear k0 k1 hs hd)
      | (go_at_call 14; refine (hop _).mono ?_; rintro e w4 ⟨rfl, hb4⟩))
    go_ret
    have c12 := box_below (hb1.trans (hb2.mono hb1.size))
    have c1V := (c12.trans (hbV.mono c12.size)).setCell (p := ⟨w2.heap.size, J, none⟩) c12.size (.int .u8 (y : Int))
    have c14 := c1V.trans (hb4.mono c1V.size)
    exact ⟨rfl, c14.alloc c14.size _⟩
  · have hw := fun W => wrap_no k d W h
    go_enter Try.func8, Try.ntmps8
    go_wp2_with (first
      | (go_at_call 11; refine (awake_any _).mono ?_; rintro e w1 ⟨rfl, hb1⟩; obtain ⟨k0, k1⟩ := box_kept hb1)
      | (go_at_call 12; refine (hw _).mono ?_; rintro e w2 ⟨rfl, hb2⟩))
    go_ret
    exact ⟨rfl, box_below (hb1.trans (hb2.mono hb1.size))⟩
end Go.Proofs.Ytgklpebdfpfdeaa
