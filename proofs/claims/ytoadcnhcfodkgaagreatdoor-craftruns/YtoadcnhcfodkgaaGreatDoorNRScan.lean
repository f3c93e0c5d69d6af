/-
  Frames in a stream: the reference's Scan, walked, for the seat YtoadcnhcfodkgaaGreatDoor.
-/
import Derived.Test.YtoadcnhcfodkgaaGreatDoorNFar
import Derived.Test.YtoadcnhcfodkgaaGreatDoorNROpen
import Derived.Lib.IndexBytes
namespace Go.Proofs.YtoadcnhcfodkgaaGreatDoor
open Go.RowKit

set_option maxHeartbeats 4000000 in
set_option maxRecDepth 100000 in
theorem rscan_any (s : ByteArray) (w : World) (hs : s.size ≤ 5000) :
    Calls Tryz.prog 59 #[.string s] w fun e w' => ScanEnd s.data.toList w e w' := by
  obtain ⟨i0, hi, hz0, hz1, hz2⟩ := info_parts frame_info
  obtain ⟨L, hLe⟩ : ∃ L, s.data.toList = L := ⟨_, rfl⟩
  have hL : L.length = s.size := by rw [← hLe]; rfl
  rw [hLe]
  have HS : Hid (s.data.toList = L) := hLe
  clear hLe
  go_enter Tryz.func59, Tryz.ntmps59
  go_wp2
  go_loopw [5, 6, 7] (fun v ov iv wr => ∃ (i : Nat) (acc : List (UInt8 × List UInt8)) (o : Nat), i ≤ s.size ∧ iv = .int .i64 i ∧ ov = .int .i64 o ∧ SoFar L acc (L.drop i) o ∧ Frames w.heap.size wr v acc ∧ Below w.heap.size w wr)
    (fun _ _ iv _ => s.size - (intOf iv).toNat)
  case atStart => exact ⟨0, [], 0, by omega, rfl, rfl, SoFar.start L, World.ownsRow_nil _ _ _ _, Below.refl _ _⟩
  case round =>
    obtain ⟨i, acc, o, his, rfl, rfl, hf, hown, hnx⟩ := hrel
    have hbd := hf.2
    have hdl : (L.drop i).length = s.size - i := by rw [List.length_drop, hL]
    have HF : Hid (SoFar L acc (L.drop i) o) := hf
    have HO : Hid (Frames w.heap.size wr u5 acc) := hown
    clear hf hown
    by_cases hlt : i < s.size
    case neg =>
      obtain rfl : i = s.size := by omega
      have HE : Hid (scanL L = (acc, [], o)) := by
        have := HF.out.stop (t := L.drop s.size) (by rw [List.drop_of_length_le (by omega)]; exact look_nil)
        rwa [List.drop_of_length_le (by omega)] at this
      go_wp2
      go_ret3
      exact ⟨_, ⟨#[]⟩, by rw [HE.out]; rfl, by rw [HE.out], by rw [HE.out]; exact HO.out, hnx⟩
    obtain ⟨b0, hb0⟩ : ∃ b, (s[i]'hlt).toNat = b := ⟨_, rfl⟩
    have G0 : Hid (((L.drop i).getD 0 0).toNat = b0) := by
      show _ = _
      rw [← hb0, ← getD_of hlt, HS.out]
      simp [List.getD_eq_getElem?_getD]
    by_cases c0 : b0 = 165
    case neg =>
      have HE : Hid (SoFar L acc (L.drop (i + 1)) (o + 1)) := by
        have := HF.out.skip (look0 (by omega) (by rw [G0.out]; exact c0))
        rwa [List.drop_drop] at this
      have c0' : ((b0 : Int) != 165) = true := by simp; omega
      go_wp2
      go_roundw
      case rel => exact ⟨i + 1, acc, o + 1, by omega, by go_num, by go_num, HE.out, HO.out, hnx⟩
      case measure => simp [intOf]; omega
    rw [c0] at G0 hb0
    clear c0 b0
    have hsl : ∀ W : World, (Instr.slice 9 (.string s) (some (.int .i64 (i : Int))) none none).run Tryz.prog W = .ok (.string (s.extract i s.size)) W := fun W => by
      rw [run_slice_string_from_if W 9 s .i64 (i : Int) Tryz.underlying9, if_pos (by omega)]
      rfl
    obtain ⟨z, hz⟩ : ∃ z : ByteArray, z = s.extract i s.size := ⟨_, rfl⟩
    rw [← hz] at hsl
    have HZ : Hid (z.data.toList = L.drop i) := by show _ = _; rw [hz, ← HS.out]; exact Lib.extract_to_end s i
    clear hz
    have c165 : ((165 : Int) != 165) = false := rfl
    by_cases h3 : s.size - i < 3
    case pos =>
      have HE : Hid (scanL L = (acc, L.drop i, o)) := HF.out.stop (look1 (by omega) G0.out (by omega))
      go_wp2
      go_quiet (fail)
      go_wp2
      go_ret3
      exact ⟨_, z, by rw [HE.out]; rfl, by rw [HE.out]; exact HZ.out, by rw [HE.out]; exact HO.out.below below_alike, below_drewN hnx _⟩
    have l2 : i + 2 < s.size := by omega
    obtain ⟨n, hn⟩ : ∃ b, (s[i + 2]'l2).toNat = b := ⟨_, rfl⟩
    have hn8 : n < 256 := by rw [← hn]; exact (s[i + 2]'l2).toNat_lt
    have G2 : Hid (((L.drop i).getD 2 0).toNat = n) := by
      show _ = _
      rw [← hn, ← getD_of l2, HS.out]
      simp [List.getD_eq_getElem?_getD]
    have hi2 : ∀ W : World, (Instr.index 9 (.string s) (.int .i64 ((i : Int) + 2))).run Tryz.prog W = .ok (.int .u8 (n : Nat)) W := fun W => by
      rw [run_index_string W 9 s .i64 ((i : Int) + 2) Tryz.underlying9, dif_pos (by omega)]
      have : ((i : Int) + 2).toNat = i + 2 := by omega
      simp only [this, hn]
    clear hn
    by_cases h64 : 64 < n
    case pos =>
      have HE : Hid (SoFar L acc (L.drop (i + 1)) (o + 1)) := by
        have := HF.out.skip (look2 G0.out (by omega) G2.out h64)
        rwa [List.drop_drop] at this
      go_wp2
      go_roundw
      case rel => exact ⟨i + 1, acc, o + 1, by omega, by go_num, by go_num, HE.out, HO.out, hnx⟩
      case measure => simp [intOf]; omega
    by_cases h5 : s.size - i < n + 5
    case pos =>
      have HE : Hid (scanL L = (acc, L.drop i, o)) := HF.out.stop (look3 G0.out (by omega) G2.out (by omega) (by omega))
      go_wp2
      go_quiet (fail)
      go_wp2
      go_ret3
      exact ⟨_, z, by rw [HE.out]; rfl, by rw [HE.out]; exact HZ.out, by rw [HE.out]; exact HO.out.below below_alike, below_drewN hnx _⟩
    have hsx : ∀ W : World, (Instr.slice 9 (.string s) (some (.int .i64 (i : Int))) (some (.int .i64 ((i : Int) + (n : Int) + 5))) none).run Tryz.prog W = .ok (.string (s.extract i (i + n + 5))) W := fun W => by
      rw [run_slice_string W 9 s .i64 .i64 (i : Int) ((i : Int) + (n : Int) + 5) Tryz.underlying9 (by omega) (by omega) (by omega), show ((i : Int) + (n : Int) + 5).toNat = i + n + 5 by omega]
      rfl
    obtain ⟨x, hx⟩ : ∃ z : ByteArray, z = s.extract i (i + n + 5) := ⟨_, rfl⟩
    rw [← hx] at hsx
    have HX : Hid (x.data.toList = (L.drop i).take (n + 5)) := by show _ = _; rw [hx, extract_list, HS.out]; congr 1; omega
    have hxs : x.size = n + 5 := by rw [hx, ByteArray.size_extract]; omega
    clear hx
    have hop := fun W => ropen_any x W (by omega)
    by_cases hq : sumU (((L.drop i).drop 1).take (n + 2)) = ((L.drop i).getD (n + 3) 0).toNat * 256 + ((L.drop i).getD (n + 4) 0).toNat
    case neg =>
      have hlo := look4 G0.out G2.out (by omega) (by omega) hq
      have HE : Hid (SoFar L acc (L.drop (i + 1)) (o + 1)) := by
        have := HF.out.skip hlo
        rwa [List.drop_drop] at this
      rw [ropenS_no hlo HX.out (by omega)] at hop
      clear hlo hq
      go_wp2_with (go_at_call 174; refine (hop _).mono ?_; rintro e w1 ⟨rfl, hb1⟩)
      have hbw := (hnx.trans (hb1.mono hnx.size)).alloc (Nat.le_trans hnx.size hb1.size) (.cells #[.int .i64 0, .string ⟨#[]⟩] 99)
      go_roundw
      case rel => exact ⟨i + 1, acc, o + 1, by omega, by go_num, by go_num, HE.out, (HO.out.below hb1).alloc _, hbw⟩
      case measure => simp [intOf]; omega
    have hlo := look5 G0.out G2.out (by omega) (by omega) hq
    obtain ⟨k, hk⟩ : ∃ k, ((L.drop i).getD 1 0).toNat = k := ⟨_, rfl⟩
    obtain ⟨d, hd⟩ : ∃ d : ByteArray, d = ⟨(((L.drop i).drop 3).take n).toArray⟩ := ⟨_, rfl⟩
    rw [ropenS_yes hlo HX.out (d := d) (by rw [hd]) hk] at hop
    have HE : Hid (SoFar L (acc ++ [((L.drop i).getD 1 0, ((L.drop i).drop 3).take n)]) (L.drop (i + n + 5)) o) := by
      have := HF.out.frame hlo
      rwa [show (L.drop i).drop (n + 5) = L.drop (i + n + 5) by rw [List.drop_drop, Nat.add_assoc]] at this
    have HN : Hid (cellsOf (acc ++ [((L.drop i).getD 1 0, ((L.drop i).drop 3).take n)]) = cellsOf acc ++ [.int .i64 (k : Nat), .string d]) := by
      show _ = _
      rw [cellsOf_append, ← hk, hd]
      rfl
    have HLen : Hid ((acc ++ [((L.drop i).getD 1 0, ((L.drop i).drop 3).take n)]).length = acc.length + 1) := by show _ = _; simp
    clear hlo hq hd hk
    generalize acc ++ [((L.drop i).getD 1 0, ((L.drop i).drop 3).take n)] = acc' at HE HN HLen
    go_wp2_with (first
      | (go_at_call 174; refine (hop _).mono ?_; rintro e w2 ⟨rfl, hb2⟩)
      | (at_builtin; refine wpList_append_own _ rfl (.tmp 73) (.tmp 75) 104 rfl w.heap.size 99 i0 (.agg #[.int .i64 0, .string ⟨#[]⟩]) 2 24 Tryz.underlying104 hi hz0 hz1 hz2 rfl (by decide) _ _ _ rfl (((HO.out.below hb2).alloc _).alloc _) ⟨w2.heap.size + 1, 0, none⟩ 1 1 [.int .i64 (k : Nat), .string d] rfl rfl (cell_two_top _ _ _ _ _ (by simp)) (by intro u hu; simp at hu; rcases hu with rfl | rfl <;> rfl) (by unfold maxLen; omega) (by omega) (by have := hb2.size; have := hnx.size; simp; omega) ?_; intro v3 w3 hown3 hgrow3 hnil3))
    have hF := HO.out.below hb2
    have hbw := hnx.trans (hb2.mono hnx.size)
    have hby := hbw.alloc hbw.size (.cells #[.int .i64 (k : Nat), .string d] 99)
    have hbz := (hby.alloc hby.size (.cells #[.int .i64 (k : Nat), .string d] 99)).grown hgrow3 (by have := hbw.size; simp; omega) (fun j hj => (World.ownsRow.lt hF j hj).1)
    clear hnil3 hgrow3
    go_roundw
    case rel => exact ⟨i + n + 5, acc', o, by omega, by go_num, rfl, HE.out, by unfold Frames; rw [HLen.out, HN.out]; exact hown3, hbz⟩
    case measure => simp [intOf]; omega
end Go.Proofs.YtoadcnhcfodkgaaGreatDoor
