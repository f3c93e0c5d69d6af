/-
  Frames in a stream: the code's Scan, walked, for the seat YtoadcnhcfodkgaaGreatDoor.
-/
import Derived.Test.YtoadcnhcfodkgaaGreatDoorNFar
import Derived.Test.YtoadcnhcfodkgaaGreatDoorNOpen
import Derived.Lib.IndexBytes
namespace Go.Proofs.YtoadcnhcfodkgaaGreatDoor
open Go.RowKit

set_option maxHeartbeats 4000000 in
set_option maxRecDepth 100000 in
theorem scan_any (s : ByteArray) (w : World) (hs : s.size ≤ 5000) :
    Calls Tryz.prog 36 #[.string s] w fun e w' => ScanEnd s.data.toList w e w' := by
  obtain ⟨i0, hi, hz0, hz1, hz2⟩ := info_parts frame_info
  have hL : s.data.toList.length ≤ 5000 := hs
  generalize hLe : s.data.toList = L at hL ⊢
  have HS : Hid (s.data.toList = L) := hLe
  clear hLe
  go_enter Tryz.func36, Tryz.ntmps36
  go_wp2
  go_loopw [0, 5, 6] (fun sv v ov wr => ∃ (t : ByteArray) (acc : List (UInt8 × List UInt8)) (o : Nat), sv = .string t ∧ ov = .int .i64 o ∧ SoFar L acc t.data.toList o ∧ Frames w.heap.size wr v acc ∧ Below w.heap.size w wr)
    (fun sv _ _ _ => lenS sv)
  case atStart => exact ⟨s, [], 0, rfl, rfl, by rw [HS.out]; exact SoFar.start L, World.ownsRow_nil _ _ _ _, Below.refl _ _⟩
  case round =>
    obtain ⟨t, acc, o, rfl, rfl, hf, hown, hnx⟩ := hrel
    have htl : t.data.toList.length = t.size := rfl
    have hbd := hf.2
    have HF : Hid (SoFar L acc t.data.toList o) := hf
    have HO : Hid (Frames w.heap.size wr u5 acc) := hown
    clear hf hown
    by_cases h0 : t.size = 0
    · obtain rfl : t = ⟨#[]⟩ := ByteArray.ext (Array.eq_empty_of_size_eq_zero h0)
      have HE : Hid (scanL L = (acc, [], o)) := HF.out.stop look_nil
      go_wp2
      go_ret3
      exact ⟨_, ⟨#[]⟩, by rw [HE.out]; rfl, by rw [HE.out], by rw [HE.out]; exact HO.out, hnx⟩
    have hne : t.toList.isEmpty = false := not_empty h0
    have hlk := look_any t
    cases hlo : look t.data.toList with
    | none =>
      rw [lookC_of (by omega) hlo, show lookP none = (1, 0) from rfl] at hlk
      have HE : Hid (scanL L = (acc, t.data.toList, o)) := HF.out.stop hlo
      clear hlo
      go_wp2_with (first | (go_at_call 111; refine (hlk _).mono ?_; rintro e w1 ⟨rfl, hb1⟩) | (go_at_call 112; refine (clone_any t _ (by omega)).mono ?_; rintro e w2 ⟨rfl, hb2⟩))
      go_ret3
      have hb3 := hb1.trans (hb2.mono hb1.size)
      exact ⟨_, t, by rw [HE.out]; rfl, by rw [HE.out], by rw [HE.out]; exact HO.out.below hb3, hnx.trans (hb3.mono hnx.size)⟩
    | some j =>
      cases j with
      | zero =>
        rw [lookC_of (by omega) hlo, show lookP (some 0) = (0, 0) from rfl] at hlk
        have HE : Hid (SoFar L acc (t.data.toList.drop 1) (o + 1)) := HF.out.skip hlo
        have hsl : ∀ W : World, (Instr.slice 9 (.string t) (some (.int .i64 1)) none none).run Tryz.prog W = .ok (.string (t.extract 1 t.size)) W := fun W => by
          rw [run_slice_string_from_if W 9 t .i64 1 Tryz.underlying9, if_pos (by omega)]
          rfl
        obtain ⟨u, hu⟩ : ∃ u : ByteArray, u = t.extract 1 t.size := ⟨_, rfl⟩
        rw [← hu] at hsl
        have hul : Hid (u.data.toList = t.data.toList.drop 1) := by show _ = _; rw [hu]; exact Lib.extract_to_end t 1
        have hus : u.size = t.size - 1 := by rw [hu, ByteArray.size_extract]; omega
        clear hlo hu
        go_wp2_with (go_at_call 111; refine (hlk _).mono ?_; rintro e w1 ⟨rfl, hb1⟩)
        go_roundw
        case rel => exact ⟨u, acc, o + 1, rfl, by go_num, by rw [hul.out]; exact HE.out, HO.out.below hb1, hnx.trans (hb1.mono hnx.size)⟩
        case measure => simp [lenS]; omega
      | succ n =>
        rw [lookC_of (by omega) hlo, show lookP (some (n + 1)) = (2, (n : Int) + 5) from rfl] at hlk
        have HE : Hid (SoFar L (acc ++ [(t.data.toList.getD 1 0, (t.data.toList.drop 3).take n)]) (t.data.toList.drop (n + 5)) o) := HF.out.frame hlo
        have h5 := ((look_len hlo).2 n rfl).1
        have hn64 := ((look_len hlo).2 n rfl).2.2
        have l1 : 1 < t.size := by omega
        obtain ⟨k, hk⟩ : ∃ k : Nat, k = (t.data.toList.getD 1 0).toNat := ⟨_, rfl⟩
        have hsl : ∀ W : World, (Instr.slice 9 (.string t) none (some (.int .i64 ((n : Int) + 5))) none).run Tryz.prog W = .ok (.string (t.extract 0 (n + 5))) W := fun W => by
          rw [run_slice_string_h W 9 t Tryz.underlying9 .i64 ((n : Int) + 5) (by omega) (by omega), show ((n : Int) + 5).toNat = n + 5 by omega]
        have hsr : ∀ W : World, (Instr.slice 9 (.string t) (some (.int .i64 ((n : Int) + 5))) none none).run Tryz.prog W = .ok (.string (t.extract (n + 5) t.size)) W := fun W => by
          rw [run_slice_string_from_if W 9 t .i64 ((n : Int) + 5) Tryz.underlying9, if_pos (by omega), show ((n : Int) + 5).toNat = n + 5 by omega]
        obtain ⟨x, hx⟩ : ∃ u : ByteArray, u = t.extract 0 (n + 5) := ⟨_, rfl⟩
        obtain ⟨y, hy⟩ : ∃ u : ByteArray, u = t.extract (n + 5) t.size := ⟨_, rfl⟩
        rw [← hx] at hsl
        rw [← hy] at hsr
        have hxs : x.size = n + 5 := by rw [hx, ByteArray.size_extract]; omega
        have hys : y.size = t.size - (n + 5) := by rw [hy, ByteArray.size_extract]; omega
        have hxl : x.data.toList = t.data.toList.take (n + 5) := by rw [hx, extract_list]; rfl
        have hyl : Hid (y.data.toList = t.data.toList.drop (n + 5)) := by show _ = _; rw [hy]; exact Lib.extract_to_end t (n + 5)
        have x1 : 1 < x.size := by omega
        have hxk : (x[1]'x1).toNat = k := by
          rw [← getD_of x1, hxl, hk]
          simp [List.getD_eq_getElem?_getD]
        have hun := fun W => unwrap_any x k W (by omega) (by omega) hxk
        obtain ⟨d, hd⟩ : ∃ d : ByteArray, d = x.extract 3 (x.size - 2) := ⟨_, rfl⟩
        rw [← hd] at hun
        have hdl : d = ⟨((t.data.toList.drop 3).take n).toArray⟩ := mkBytes (by
          rw [hd, extract_list, hxl, List.drop_take, List.take_take]
          congr 1
          omega)
        have HN : Hid (cellsOf (acc ++ [(t.data.toList.getD 1 0, (t.data.toList.drop 3).take n)]) = cellsOf acc ++ [.int .i64 (k : Nat), .string d]) := by
          show _ = _
          rw [cellsOf_append, hk, hdl]
          rfl
        have HLen : Hid ((acc ++ [(t.data.toList.getD 1 0, (t.data.toList.drop 3).take n)]).length = acc.length + 1) := by show _ = _; simp
        clear hlo hx hy hxl hd hdl hk
        generalize acc ++ [(t.data.toList.getD 1 0, (t.data.toList.drop 3).take n)] = acc' at HE HN HLen
        go_wp2_with (first
          | (go_at_call 111; refine (hlk _).mono ?_; rintro e w1 ⟨rfl, hb1⟩)
          | (go_at_call 113; refine (hun _).mono ?_; rintro e w2 ⟨rfl, hb2⟩)
          | (at_builtin; refine wpList_append_own _ rfl (.tmp 29) (.tmp 34) 104 rfl w.heap.size 99 i0 (.agg #[.int .i64 0, .string ⟨#[]⟩]) 2 24 Tryz.underlying104 hi hz0 hz1 hz2 rfl (by decide) _ _ _ rfl (((HO.out.below hb1).below hb2).alloc _) ⟨w2.heap.size, 0, none⟩ 1 1 [.int .i64 (k : Nat), .string d] rfl rfl (cell_two_new _ _ _ _) (by intro u hu; simp at hu; rcases hu with rfl | rfl <;> rfl) (by unfold maxLen; omega) (by omega) (by have := hb2.size; have := hb1.size; have := hnx.size; simp; omega) ?_; intro v3 w3 hown3 hgrow3 hnil3))
        have hF := (HO.out.below hb1).below hb2
        have hb3 := hb1.trans (hb2.mono hb1.size)
        have hbw := hnx.trans (hb3.mono hnx.size)
        have hbz := (hbw.alloc hbw.size (.cells #[.int .i64 (k : Nat), .string d] 99)).grown hgrow3 (by have := hbw.size; simp; omega) (fun j hj => (World.ownsRow.lt hF j hj).1)
        clear hnil3 hgrow3
        go_roundw
        case rel => exact ⟨y, acc', o, rfl, rfl, by rw [hyl.out]; exact HE.out, by unfold Frames; rw [HLen.out, HN.out]; exact hown3, hbz⟩
        case measure => simp [lenS]; omega
end Go.Proofs.YtoadcnhcfodkgaaGreatDoor
