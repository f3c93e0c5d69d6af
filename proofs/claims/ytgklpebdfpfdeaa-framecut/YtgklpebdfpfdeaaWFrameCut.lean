/-
  FrameCut, walked, for the seat Ytgklpebdfpfdeaa.
-/
import Derived.Test.YtgklpebdfpfdeaaNAwake
import Derived.Laws.AppendOwnNone
namespace Go.Proofs.Ytgklpebdfpfdeaa
open Go.RowKit

theorem cells_one (l : List (UInt8 × List UInt8)) : ∀ u ∈ cellsOf l, u.oneCell' = true := by
  intro u hu
  simp only [cellsOf, List.mem_flatMap, List.mem_cons, List.not_mem_nil, or_false] at hu
  obtain ⟨x, _, rfl | rfl⟩ := hu <;> rfl
/-- A row that was there ahead of another's blocks is kept where the other is written. -/
theorem Frames.kept {B C : Nat} {w w' : World} {v u : Value} {l m : List (UInt8 × List UInt8)} (h : Frames B w v l) (hu : Frames C w u m) (hv : ∀ k, v.ownBlock = some k → k < C) (hg : w.grownBy w' u.ownBlock) : Frames B w' v l := by
  refine World.ownsRow.kept h hg ?_
  cases e : v.ownBlock with
  | none => exact .inl rfl
  | some k =>
    refine .inr fun h' => ?_
    have := (World.ownsRow.lt hu k h'.symm).1
    have := hv k e
    omega
set_option maxHeartbeats 2000000 in
set_option maxRecDepth 100000 in
theorem FrameCut_any (s : ByteArray) (cut : Int) (w : World) : Calls Try.prog 7 #[.string s, .int .i64 cut] w fun e w' => e = .returned (.bool true) ∧ Below w.heap.size w w' := by
  by_cases h : 3000 < s.size ∨ cut < 0 ∨ (s.size : Int) < cut
  · have h' : (decide (3000 < (s.size : Int)) || decide (cut < 0) || decide ((s.size : Int) < cut)) = true := by simp; omega
    go_enter Try.func7, Try.ntmps7
    go_wp2_with (go_at_call 11; refine (awake_any _).mono ?_; rintro e w1 ⟨rfl, hb1⟩)
    all_goals (go_ret; exact ⟨rfl, hb1⟩)
  obtain ⟨i, rfl⟩ : ∃ i : Nat, cut = i := ⟨cut.toNat, by omega⟩
  have hs : s.size ≤ 3000 := by omega
  have hi : i ≤ s.size := by omega
  clear h
  obtain ⟨L, hL⟩ : ∃ L, s.data.toList = L := ⟨_, rfl⟩
  have hLs : L.length = s.size := by rw [← hL]; rfl
  have s1 : ∀ W : World, (Instr.slice 9 (.string s) none (some (.int .i64 (i : Int))) none).run Try.prog W = .ok (.string (s.extract 0 i)) W := fun W => by
    rw [run_slice_string_h W 9 s Try.underlying9 .i64 (i : Int) (by omega) (by omega)]
    rfl
  have s2 : ∀ W : World, (Instr.slice 9 (.string s) (some (.int .i64 (i : Int))) none none).run Try.prog W = .ok (.string (s.extract i s.size)) W := fun W => by
    rw [run_slice_string_from_if W 9 s .i64 (i : Int) Try.underlying9, if_pos (by omega)]
    rfl
  obtain ⟨x, hx⟩ : ∃ x : ByteArray, x = s.extract 0 i := ⟨_, rfl⟩
  obtain ⟨y, hy⟩ : ∃ x : ByteArray, x = s.extract i s.size := ⟨_, rfl⟩
  rw [← hx] at s1
  rw [← hy] at s2
  have hxl : x.data.toList = L.take i := by rw [hx, extract_list, hL]; rfl
  have hyl : y.data.toList = L.drop i := by rw [hy, ← hL]; exact Lib.extract_to_end s i
  have hxs : x.size = i := by rw [hx, ByteArray.size_extract]; omega
  have hys : y.size = s.size - i := by rw [hy, ByteArray.size_extract]; omega
  clear hx hy
  have ha := fun W => scan_any s W (by omega)
  have hb := fun W => scan_any x W (by omega)
  rw [hL] at ha
  rw [hxl] at hb
  have hcut := scan_cut _ (L.take i) (L.drop i) (Nat.le_refl _)
  rw [List.take_append_drop] at hcut
  have hbd := scanL_bound _ L (Nat.le_refl _)
  have hbx := scanL_bound _ (L.take i) (Nat.le_refl _)
  rw [List.length_take] at hbx
  have hbr := scanL_bound _ ((scanL (L.take i)).2.1 ++ L.drop i) (Nat.le_refl _)
  rw [List.length_append, List.length_drop] at hbr
  obtain ⟨q, hq⟩ : ∃ q, (scanL L).2.2 = q := ⟨_, rfl⟩
  obtain ⟨o, ho⟩ : ∃ q, (scanL (L.take i)).2.2 = q := ⟨_, rfl⟩
  obtain ⟨p, hp⟩ : ∃ q, (scanL ((scanL (L.take i)).2.1 ++ L.drop i)).2.2 = q := ⟨_, rfl⟩
  obtain ⟨fl, hfl⟩ : ∃ q, (scanL L).1 = q := ⟨_, rfl⟩
  obtain ⟨fa, hfa⟩ : ∃ q, (scanL (L.take i)).1 = q := ⟨_, rfl⟩
  obtain ⟨fb, hfb⟩ : ∃ q, (scanL ((scanL (L.take i)).2.1 ++ L.drop i)).1 = q := ⟨_, rfl⟩
  obtain ⟨lf, hlf⟩ : ∃ q, (scanL ((scanL (L.take i)).2.1 ++ L.drop i)).2.1 = q := ⟨_, rfl⟩
  have eq : q = o + p := by rw [← hq, hcut, ← ho, ← hp]
  have el : fl = fa ++ fb := by rw [← hfl, hcut, ← hfa, ← hfb]
  have er : (scanL L).2.1 = lf := by rw [hcut, ← hlf]
  have hA : ∀ W, Calls Try.prog 16 #[.string s] W fun e w' => ∃ v r, e = .returned (.tuple #[v, .string r, .int .i64 (q : Nat)]) ∧ r.data.toList = lf ∧ Frames W.heap.size w' v fl ∧ Below W.heap.size W w' := fun W => by
    refine (ha W).mono ?_
    rintro e w' ⟨v, r, h1, h2, h3, h4⟩
    exact ⟨v, r, by rw [h1, hq], by rw [h2, er], by rw [← hfl]; exact h3, h4⟩
  have hB : ∀ W, Calls Try.prog 16 #[.string x] W fun e w' => ∃ v r z, e = .returned (.tuple #[v, .string r, .int .i64 (o : Nat)]) ∧ (∀ X : World, (Op.stringOp .add r y).run Try.prog X = .ok (.string z) X) ∧ z.data.toList = (scanL (L.take i)).2.1 ++ L.drop i ∧ z.size ≤ 5000 ∧ Frames W.heap.size w' v fa ∧ Below W.heap.size W w' := fun W => by
    refine (hb W).mono ?_
    rintro e w' ⟨v, r, h1, h2, h3, h4⟩
    have hrs : r.size ≤ i := by rw [Lib.size_eq, h2]; omega
    exact ⟨v, r, r ++ y, by rw [h1, ho], fun X => add_run X r y (by omega), by rw [add_list, h2, hyl], by rw [ByteArray.size_append]; omega, by rw [← hfa]; exact h3, h4⟩
  have hC : ∀ (z : ByteArray), z.size ≤ 5000 → z.data.toList = (scanL (L.take i)).2.1 ++ L.drop i → ∀ W, Calls Try.prog 16 #[.string z] W fun e w' => ∃ v r, e = .returned (.tuple #[v, .string r, .int .i64 (p : Nat)]) ∧ r.data.toList = lf ∧ Frames W.heap.size w' v fb ∧ Below W.heap.size W w' := fun z hz1 hz2 W => by
    have hc := scan_any z W hz1
    rw [hz2] at hc
    refine hc.mono ?_
    rintro e w' ⟨v, r, h1, h2, h3, h4⟩
    exact ⟨v, r, by rw [h1, hp], by rw [h2, hlf], by rw [← hfb]; exact h3, h4⟩
  have ho3 : o ≤ 3000 := by omega
  have hp3 : p ≤ 3000 := by omega
  have hf3 : fa.length + fb.length ≤ 3000 := by rw [← List.length_append, ← el, ← hfl]; omega
  have ht : ((o : Int) + (p : Int) == (q : Int)) = true := by simp; omega
  have EL : Hid (fl = fa ++ fb) := el
  clear hbd hbx hbr hcut ha hb hq ho hp hfl hfa hfb hlf er eq el hxl hyl hL hLs
  obtain ⟨i0, hi0, hz0, hz1, hz2⟩ := info_parts frame_info
  go_enter Try.func7, Try.ntmps7
  go_wp2_with (go_at_call 11; refine (awake_any _).mono ?_; rintro e w1 ⟨rfl, hb1⟩)
  refine (hA _).mono ?_
  rintro e w2 ⟨v1, r1, rfl, hr1, hv1, hb2⟩
  go_wp2_with fail
  refine (hB _).mono ?_
  rintro e w3 ⟨v2, r2, z, rfl, hadd, hzl, hzs, hv2, hb3⟩
  have hc := hC z hzs hzl
  clear hzl hzs hC hA hB
  go_wp2_with fail
  refine (hc _).mono ?_
  rintro e w4 ⟨v3, r3, rfl, hr3, hv3, hb4⟩
  obtain rfl : r3 = r1 := ByteArray.ext (Array.toList_inj.1 (hr3.trans hr1.symm))
  have g2 := hv2.below hb4
  have g1 := (hv1.below hb3).below hb4
  have hlt : ∀ k, v1.ownBlock = some k → k < w2.heap.size := fun k hk => (World.ownsRow.lt hv1 k hk).2
  have b12 := hb1.trans (hb2.mono hb1.size)
  have b13 := b12.trans (hb3.mono b12.size)
  have b14 := b13.trans (hb4.mono b13.size)
  have h42 : w2.heap.size ≤ w4.heap.size := Nat.le_trans hb3.size hb4.size
  rcases hv3.2 with ⟨rfl, h0⟩ | ⟨g, c, cur, rfl, _⟩
  · obtain rfl : fb = [] := List.length_eq_zero_iff.1 h0
    rw [EL.out, List.append_nil] at g1
    go_wp2_with (first
      | (at_builtin; refine wpList_append_own_none rfl (.tmp 53) (.tmp 54) 33 rfl w2.heap.size 26 i0 2 Try.underlying33 hi0 _ _ _ rfl g2 rfl ?_)
      | (go_at_call 18; refine (same_any _ _ _ _ _ _ g2 g1 (by omega)).mono ?_; rintro e w5 ⟨rfl, hb5⟩))
    go_ret
    exact ⟨rfl, b14.trans (hb5.mono b14.size)⟩
  · go_wp2_with (first
      | (at_builtin; refine wpList_append_own _ rfl (.tmp 53) (.tmp 54) 33 rfl w2.heap.size 26 i0 (.agg #[.int .i64 0, .string ⟨#[]⟩]) 2 24 Try.underlying33 hi0 hz0 hz1 hz2 rfl (by decide) _ _ _ rfl g2 ⟨g, 0, none⟩ fb.length c (cellsOf fb) rfl (cellsOf_length fb) (World.ownsRow.cells hv3 rfl) (cells_one fb) (by unfold maxLen; omega) (by omega) h42 ?_; intro v4 w5 hown hgrow _; have g4 : Frames w2.heap.size w5 v4 (fa ++ fb) := (by unfold Frames; rw [List.length_append, cellsOf_append]; exact hown); have g5 := Frames.kept g1 g2 hlt hgrow; rw [EL.out] at g5; have b15 := b14.grown hgrow b14.size (fun j hj => Nat.le_trans b12.size (World.ownsRow.lt g2 j hj).1); clear hown hgrow)
      | (go_at_call 18; refine (same_any _ _ _ _ _ _ g4 g5 (by rw [List.length_append]; omega)).mono ?_; rintro e w6 ⟨rfl, hb6⟩))
    go_ret
    exact ⟨rfl, b15.trans (hb6.mono b15.size)⟩
end Go.Proofs.Ytgklpebdfpfdeaa
