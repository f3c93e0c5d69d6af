/-
  Frames out of bytes: the reference's Open, walked, for the seat YtoadcnhcfodkgaaGreatDoor.
-/
import Derived.Test.YtoadcnhcfodkgaaGreatDoorNWrap
import Derived.Laws.ResultCell
import Derived.RegionTactic
import Derived.BigRegion
namespace Go.Proofs.YtoadcnhcfodkgaaGreatDoor
open Go.RowKit

theorem kept_two {w w1 : World} {A B : Array Value} {t u : TypeId} (h : Below ((w.alloc (.cells A t)).alloc (.cells B u)).drew.heap.size ((w.alloc (.cells A t)).alloc (.cells B u)).drew w1) :
    Below (w.alloc (.cells A t)).heap.size (w.alloc (.cells A t)) w1 ∧ ∀ j, w1.cell? ⟨w.heap.size + 1, j, none⟩ = B[j]? := by
  have h' : Below ((w.alloc (.cells A t)).alloc (.cells B u)).heap.size ((w.alloc (.cells A t)).alloc (.cells B u)) w1 := ⟨h.os, h.tape, h.output, h.size, h.block⟩
  refine ⟨((Below.refl _ _).alloc (Nat.le_refl _) _).trans (h'.mono (by simp)), fun j => ?_⟩
  rw [h'.cell (p := ⟨w.heap.size + 1, j, none⟩) (by simp)]
  exact cell_top _ _ _ _ j (by simp)
theorem str_ne {s t : ByteArray} (h : t.data.toList ≠ s.data.toList) : (t.toList == s.toList) = false := by
  rw [Lib.toList_data, Lib.toList_data]
  simpa using h
/-- What the reference opens bytes as. -/
def ropenS (s : ByteArray) : Int × ByteArray × Bool :=
  if 5 ≤ s.size ∧ s.size ≤ 69 ∧ wrapL (s.data.toList.getD 1 0) (s.extract 3 (s.size - 2)).data.toList = s.data.toList then (((s.data.toList.getD 1 0).toNat : Int), s.extract 3 (s.size - 2), true) else (0, ⟨#[]⟩, false)
theorem ropenS_yes {t : List UInt8} {x d : ByteArray} {k n : Nat} (h : look t = some (n + 1)) (hx : x.data.toList = t.take (n + 5)) (hd : d.data.toList = (t.drop 3).take n) (hk : (t.getD 1 0).toNat = k) : ropenS x = ((k : Int), d, true) := by
  obtain ⟨_, _, h64, h5, _⟩ := look_parts h
  have hs : x.size = n + 5 := by
    rw [Lib.size_eq, hx, List.length_take]
    omega
  have e1 : x.data.toList.getD 1 0 = t.getD 1 0 := by
    rw [hx]
    simp [List.getD_eq_getElem?_getD]
  have e2 : (x.extract 3 (x.size - 2)).data.toList = (t.drop 3).take n := by
    rw [extract_list, hx, List.drop_take, List.take_take, hs]
    congr 1
    omega
  unfold ropenS
  rw [if_pos ⟨by omega, by omega, by rw [e1, e2, hx, wrap_look h]⟩, e1, hk]
  have e3 : x.extract 3 (x.size - 2) = d := ByteArray.ext (Array.toList_inj.1 (by rw [e2, hd]))
  rw [e3]
theorem ropenS_no {t : List UInt8} {x : ByteArray} {n : Nat} (h : look t = some 0) (hx : x.data.toList = t.take (n + 5)) (h5 : n + 5 ≤ t.length) : ropenS x = (0, ⟨#[]⟩, false) := by
  have hs : x.size = n + 5 := by
    rw [Lib.size_eq, hx, List.length_take]
    omega
  unfold ropenS
  rw [if_neg]
  rintro ⟨_, h69, hw⟩
  have e : t = wrapL (x.data.toList.getD 1 0) (x.extract 3 (x.size - 2)).data.toList ++ t.drop (n + 5) := by rw [hw, hx, List.take_append_drop]
  have hl := look_wrap (x.data.toList.getD 1 0) (x.extract 3 (x.size - 2)).data.toList (t.drop (n + 5)) (by rw [← Lib.size_eq, ByteArray.size_extract]; omega)
  rw [← e, h] at hl
  cases hl
set_option maxHeartbeats 1000000 in
set_option maxRecDepth 100000 in
theorem ropen_any (s : ByteArray) (w : World) (hmax : s.size ≤ 5000) :
    Calls Tryz.prog 174 #[.string s] w fun e w' => e = .returned (.tuple #[.agg #[.int .i64 (ropenS s).1, .string (ropenS s).2.1], .bool (ropenS s).2.2]) ∧ Below w.heap.size w w' := by
  by_cases h5 : s.size < 5
  · have e : ropenS s = (0, ⟨#[]⟩, false) := by unfold ropenS; rw [if_neg (by omega)]
    rw [e]
    go_enter Tryz.func174, Tryz.ntmps174
    go_wp2
    refine bodyPost_ret (v := .tuple #[.agg #[.int .i64 0, .string ⟨#[]⟩], .bool false]) (by simp [results_cell_tmp Tryz.results174, asAddr, go_sem]) rfl ⟨rfl, ?_⟩
    exact (Below.refl _ w).alloc (Nat.le_refl _) _
  have l1 : 1 < s.size := by omega
  obtain ⟨k, hk⟩ : ∃ k, (s[1]'l1) = k := ⟨_, rfl⟩
  have hsl : ∀ W : World, (Instr.slice 9 (.string s) (some (.int .i64 3)) (some (.int .i64 ((s.size : Int) - 2))) none).run Tryz.prog W = .ok (.string (s.extract 3 (s.size - 2))) W := fun W => by
    rw [run_slice_string W 9 s .i64 .i64 3 ((s.size : Int) - 2) Tryz.underlying9 (by omega) (by omega) (by omega), show ((s.size : Int) - 2).toNat = s.size - 2 by omega]
    rfl
  obtain ⟨d, hd⟩ : ∃ d : ByteArray, d = s.extract 3 (s.size - 2) := ⟨_, rfl⟩
  rw [← hd] at hsl
  have hds : d.size = s.size - 5 := by rw [hd, ByteArray.size_extract]; omega
  have HD : Hid (d = s.extract 3 (s.size - 2)) := hd
  have hw2 : IntKind.i64.wrap ((s.size : Int) - 2) = (s.size : Int) - 2 := by rw [IntKind.wrap_i64]; omega
  obtain ⟨n, hn⟩ : ∃ n, k.toNat = n := ⟨_, rfl⟩
  have hk8 : n < 256 := by rw [← hn]; exact k.toNat_lt
  have hv : IntKind.i64.wrap (n : Int) = (n : Int) := by rw [IntKind.wrap_i64]; omega
  have HO : Hid (ropenS s = if s.size ≤ 69 ∧ wrapL k d.data.toList = s.data.toList then ((n : Int), d, true) else (0, ⟨#[]⟩, false)) := by
    show _ = _
    unfold ropenS
    rw [getD_of l1, hk, ← hd, hn]
    by_cases c : s.size ≤ 69 ∧ wrapL k d.data.toList = s.data.toList
    · rw [if_pos c, if_pos ⟨by omega, c⟩]
    · rw [if_neg c, if_neg (fun h => c h.2)]
  clear hd
  by_cases h69 : s.size ≤ 69
  · have hw := fun W => rwrap_yes k d W (by omega)
    rw [hn] at hw
    by_cases c : wrapL k d.data.toList = s.data.toList
    · rw [HO.out, if_pos ⟨h69, c⟩]
      have HC : Hid (wrapL k d.data.toList = s.data.toList) := c
      clear c
      go_enter Tryz.func174, Tryz.ntmps174
      go_wp2
      go_region
      go_wp2_with (go_at_call 35; refine (hw _).mono ?_; rintro e w1 ⟨t, rfl, ht, hb1⟩; obtain rfl : t = s := ByteArray.ext (Array.toList_inj.1 (ht.trans HC.out)); obtain ⟨hb2, kc⟩ := kept_two hb1; have k0 := cell_kept0 hb2; have k1 := cell_kept1 hb2; have f0 := free_kept0 hb2; have f1 := free_kept1 hb2; have k2 : w1.cell? ⟨w.heap.size + 1, 0, none⟩ = some (.int .i64 (n : Int)) := kc 0; have k3 : w1.cell? ⟨w.heap.size + 1, 1, none⟩ = some (.string d) := kc 1; clear kc ht)
      refine bodyPost_ret (v := .tuple #[.agg #[.int .i64 (n : Int), .string d], .bool true]) (by simp [results_cell_tmp Tryz.results174, asAddr, go_sem, k0, k1]) rfl ⟨rfl, ?_⟩
      exact ((below_kept hb2).setCell (Nat.le_refl _) _).setCell (Nat.le_refl _) _
    · rw [HO.out, if_neg (fun h => c h.2)]
      have HC : Hid (wrapL k d.data.toList ≠ s.data.toList) := c
      clear c
      go_enter Tryz.func174, Tryz.ntmps174
      go_wp2
      go_region
      go_wp2_with (go_at_call 35; refine (hw _).mono ?_; rintro e w1 ⟨t, rfl, ht, hb1⟩; have hne := str_ne (t := t) (s := s) (by rw [ht]; exact HC.out); obtain ⟨hb2, kc⟩ := kept_two hb1; have k0 := cell_kept0 hb2; have k1 := cell_kept1 hb2; have f0 := free_kept0 hb2; have f1 := free_kept1 hb2; clear kc ht)
      refine bodyPost_ret (v := .tuple #[.agg #[.int .i64 0, .string ⟨#[]⟩], .bool false]) (by simp [results_cell_tmp Tryz.results174, asAddr, go_sem, k0, k1]) rfl ⟨rfl, ?_⟩
      exact ((below_kept hb2).setCell (Nat.le_refl _) _).setCell (Nat.le_refl _) _
  · rw [HO.out, if_neg (fun h => h69 h.1)]
    have hw := fun W => rwrap_no n d W (by omega)
    go_enter Tryz.func174, Tryz.ntmps174
    go_wp2
    go_region
    go_wp2_with (go_at_call 35; refine (hw _).mono ?_; rintro e w1 ⟨rfl, hb1⟩; obtain ⟨hb2, kc⟩ := kept_two hb1; have k0 := cell_kept0 hb2; have k1 := cell_kept1 hb2; have f0 := free_kept0 hb2; have f1 := free_kept1 hb2; clear kc)
    refine bodyPost_ret (v := .tuple #[.agg #[.int .i64 0, .string ⟨#[]⟩], .bool false]) (by simp [results_cell_tmp Tryz.results174, asAddr, go_sem, k0, k1]) rfl ⟨rfl, ?_⟩
    exact ((below_kept hb2).setCell (Nat.le_refl _) _).setCell (Nat.le_refl _) _
end Go.Proofs.YtoadcnhcfodkgaaGreatDoor
