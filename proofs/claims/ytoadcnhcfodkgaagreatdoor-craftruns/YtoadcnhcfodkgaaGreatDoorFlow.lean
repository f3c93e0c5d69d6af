/-
  The walks of package fixed's small methods on flows, for the seat YtoadcnhcfodkgaaGreatDoor: Fail, gives, signed, takes.
-/
import Derived.Test.YtoadcnhcfodkgaaGreatDoorLeaf
import Derived.Handy
namespace Go.Proofs.YtoadcnhcfodkgaaGreatDoor
open Go.RowKit

/-- A flow lies at block b: its one cell says whether it is bad. -/
structure Fl (b : Nat) (bad : Bool) (w : World) : Prop where
  cell : w.cell? ⟨b, 0, none⟩ = some (.bool bad)
  free : w.frozen? ⟨b, 0, none⟩ = false
  lies : b < w.heap.size

/-- All blocks that were there are as they were, but for block b; the streams are as they were. -/
structure Kept (b : Nat) (w w' : World) : Prop where
  os : w'.os = w.os
  tape : w'.tape = w.tape
  output : w'.output = w.output
  size : w.heap.size ≤ w'.heap.size
  block : ∀ k, k < w.heap.size → k ≠ b → w'.heap[k]? = w.heap[k]?

theorem Kept.refl (b : Nat) (w : World) : Kept b w w := ⟨rfl, rfl, rfl, Nat.le_refl _, fun _ _ _ => rfl⟩
theorem Kept.trans {b : Nat} {x y z : World} (h : Kept b x y) (k : Kept b y z) : Kept b x z :=
  ⟨k.os.trans h.os, k.tape.trans h.tape, k.output.trans h.output, Nat.le_trans h.size k.size, fun i hi hb => (k.block i (Nat.lt_of_lt_of_le hi h.size) hb).trans (h.block i hi hb)⟩
theorem Kept.of_below {b : Nat} {w w' : World} (h : Below w.heap.size w w') : Kept b w w' := ⟨h.os, h.tape, h.output, h.size, fun k hk _ => h.block k hk⟩
theorem Kept.setCell {b : Nat} {x w : World} (h : Kept b x w) (u : Value) : Kept b x (w.setCell ⟨b, 0, none⟩ u) :=
  h.trans ⟨rfl, rfl, rfl, by simp [World.setCell], fun k _ hb => Below.heap_setCell _ _ _ _ hb⟩
theorem Kept.below {b B : Nat} {x w w' : World} (h : Kept b w w') (hx : Below B x w) (hb : B ≤ b) (hB : B ≤ w.heap.size) : Below B x w' :=
  hx.trans ⟨h.os, h.tape, h.output, h.size, fun k hk => h.block k (by omega) (by omega)⟩
theorem Kept.cell {b : Nat} {w w' : World} (h : Kept b w w') {p : Addr} (hp : p.block < w.heap.size) (hb : p.block ≠ b) : w'.cell? p = w.cell? p := World.cell?_of_block (w := w) (h.block p.block hp hb)
theorem Kept.frozen {b : Nat} {w w' : World} (h : Kept b w w') {p : Addr} (hp : p.block < w.heap.size) (hb : p.block ≠ b) : w'.frozen? p = w.frozen? p := World.frozen?_of_block (w := w) (h.block p.block hp hb)
theorem Fl.below {b : Nat} {bad : Bool} {w w' : World} (h : Fl b bad w) (hb : Below w.heap.size w w') : Fl b bad w' :=
  ⟨(hb.cell (p := ⟨b, 0, none⟩) h.lies).trans h.cell, (hb.frozen (p := ⟨b, 0, none⟩) h.lies).trans h.free, Nat.lt_of_lt_of_le h.lies hb.size⟩
theorem Fl.kept {b c : Nat} {bad : Bool} {w w' : World} (h : Fl b bad w) (hb : Kept c w w') (hc : b ≠ c) : Fl b bad w' :=
  ⟨(hb.cell (p := ⟨b, 0, none⟩) h.lies hc).trans h.cell, (hb.frozen (p := ⟨b, 0, none⟩) h.lies hc).trans h.free, Nat.lt_of_lt_of_le h.lies hb.size⟩
theorem Fl.set {b : Nat} {bad : Bool} {w : World} (h : Fl b bad w) (v : Bool) : Fl b v (w.setCell ⟨b, 0, none⟩ (.bool v)) := by
  refine ⟨World.cell?_setCell_same _ _ _ h.cell, ?_, ?_⟩
  · rw [World.frozen?_setCell]; exact h.free
  · rw [World.size_setCell]; exact h.lies

set_option maxHeartbeats 400000 in
theorem Fail_any (b : Nat) (bad : Bool) (w : World) (hw : Fl b bad w) :
    Calls Tryz.prog 121 #[.pointer (some ⟨b, 0, none⟩)] w fun e w' => e = .returned (.tuple #[]) ∧ Fl b true w' ∧ Kept b w w' := by
  have HW : Hid _ := hw
  obtain ⟨hc, hf, hl⟩ := hw
  go_enter Tryz.func121, Tryz.ntmps121
  go_wp2
  go_end0
  exact ⟨rfl, HW.out.set true, (Kept.refl _ _).setCell _⟩

set_option maxHeartbeats 400000 in
theorem signed_any (b : Nat) (n : Int) (minus : Bool) (w : World) (hw : Fl b false w) (h0 : 0 ≤ n) (h1 : n ≤ 18446744073709551615) :
    Calls Tryz.prog 215 #[.pointer (some ⟨b, 0, none⟩), .int .u64 n, .bool minus] w fun e w' => e = .returned (.int .i64 (out n minus).1) ∧ Fl b (out n minus).2 w' ∧ Kept b w w' := by
  show Calls Tryz.prog 215 _ _ fun e w' => e = .returned (.int .i64 (sgnd n minus)) ∧ Fl b (decide (4611686018427387904 < n)) w' ∧ Kept b w w'
  by_cases c : n ≤ 4611686018427387904
  · have HS : Hid _ := sgnd_in n minus c
    have HC : Hid (decide (4611686018427387904 < n) = false) := by show _ = _; simp; omega
    cases minus
    all_goals
      go_enter Tryz.func215, Tryz.ntmps215
      go_wp2
      go_ret
      rw [HC.out]
      exact ⟨ret_int HS.out, hw, Kept.refl _ _⟩
  · have HS : Hid _ := sgnd_out n minus c
    have HC : Hid (decide (4611686018427387904 < n) = true) := by show _ = _; simp; omega
    go_enter Tryz.func215, Tryz.ntmps215
    go_wp2_with fail
    refine (Fail_any b false _ hw).mono ?_
    rintro e w1 ⟨rfl, h2, h3⟩
    go_wp2
    go_ret
    rw [HC.out]
    exact ⟨ret_int HS.out, h2, h3⟩

set_option maxHeartbeats 400000 in
theorem gives_any (b : Nat) (n : Int) (w : World) (hw : Fl b false w) :
    Calls Tryz.prog 209 #[.pointer (some ⟨b, 0, none⟩), .int .i64 n] w fun e w' => e = .returned (.int .i64 (gv n).1) ∧ Fl b (gv n).2 w' ∧ Kept b w w' := by
  show Calls Tryz.prog 209 _ _ fun e w' => e = .returned (.int .i64 (if numB n then n else 0)) ∧ Fl b (!numB n) w' ∧ Kept b w w'
  cases c : numB n
  · go_enter Tryz.func209, Tryz.ntmps209
    go_wp2_with fail
    refine (isNumber_any _ _).mono ?_
    rintro e w1 ⟨rfl, rfl⟩
    rw [c]
    clear c
    go_wp2_with fail
    refine (Fail_any b false _ hw).mono ?_
    rintro e w1 ⟨rfl, h2, h3⟩
    go_wp2
    go_ret
    exact ⟨rfl, h2, h3⟩
  · go_enter Tryz.func209, Tryz.ntmps209
    go_wp2_with fail
    refine (isNumber_any _ _).mono ?_
    rintro e w1 ⟨rfl, rfl⟩
    rw [c]
    clear c
    go_wp2
    go_ret
    exact ⟨rfl, hw, Kept.refl _ _⟩

/-- Cells of integers that lie behind one another at block s. -/
def Ints (s : Nat) (zs : List Int) (w : World) : Prop := ∀ i, (h : i < zs.length) → w.cell? ⟨s, i, none⟩ = some (.int .i64 zs[i])

theorem all_take_succ {zs : List Int} {k : Nat} (h : k < zs.length) : (zs.take (k + 1)).all numB = ((zs.take k).all numB && numB zs[k]) := by
  rw [List.take_succ_eq_append_getElem h, List.all_append]; simp only [List.all_cons, List.all_nil, Bool.and_true]
theorem all_of_not {zs : List Int} {k : Nat} (h : k < zs.length) (c : numB zs[k] = false) : zs.all numB = false := by
  rw [Bool.eq_false_iff]
  intro ha
  rw [List.all_eq_true] at ha
  have := ha _ (List.getElem_mem h)
  rw [c] at this
  cases this

set_option maxHeartbeats 400000 in
theorem takes_any (b s : Nat) (bad : Bool) (zs : List Int) (w : World) (hw : Fl b bad w) (hz : Ints s zs w) (hlen : zs.length ≤ 3) :
    Calls Tryz.prog 208 #[.pointer (some ⟨b, 0, none⟩), .slice (some ⟨s, 0, none⟩) zs.length zs.length] w fun e w' => e = .returned (.bool (tk bad zs)) ∧ Fl b (!tk bad zs) w' ∧ Kept b w w' := by
  rw [← tk_not bad zs]
  unfold tk
  have HW : Hid _ := hw
  have HZ : Hid _ := hz
  obtain ⟨hc, hf, hl⟩ := hw
  clear hz
  cases bad
  · go_enter Tryz.func208, Tryz.ntmps208
    go_wp2
    go_loop [17] (fun v => ∃ k : Nat, k ≤ zs.length ∧ v = .int .i64 k ∧ Hid ((zs.take k).all numB = true)) (fun v => zs.length - (intOf v).toNat)
    case atStart => exact ⟨0, Nat.zero_le _, rfl, by show _ = _; simp⟩
    case round =>
      obtain ⟨k, hk, rfl, HA⟩ := hrel
      by_cases hlt : k < zs.length
      · have hcell := HZ.out k hlt
        have HS : Hid _ := all_take_succ hlt
        have HN : numB zs[k] = false → zs.all numB = false := all_of_not hlt
        have HN' : Hid _ := HN
        clear HN
        generalize zs[k] = z at *
        cases c : numB z
        · have HC : Hid _ := HN'.out c
          have HC2 : Hid _ := c
          clear c
          go_wp2_with fail
          refine (isNumber_any _ _).mono ?_
          rintro e w1 ⟨rfl, rfl⟩
          rw [HC2.out]
          go_wp2_with fail
          refine (Fail_any b false _ HW.out).mono ?_
          rintro e w1 ⟨rfl, h2, h3⟩
          go_wp2
          go_ret
          rw [HC.out]
          exact ⟨rfl, h2, h3⟩
        · have HC2 : Hid _ := c
          clear c
          go_wp2_with fail
          refine (isNumber_any _ _).mono ?_
          rintro e w1 ⟨rfl, rfl⟩
          rw [HC2.out]
          go_wp2
          go_round
          case rel => exact ⟨k + 1, by omega, by go_num, by show _ = _; rw [HS.out, HA.out, HC2.out]; rfl⟩
          case measure => simp [intOf]; omega
      · go_wp2
        go_ret
        have ha : zs.all numB = true := by have := HA.out; rwa [List.take_of_length_le (by omega)] at this
        rw [ha]
        exact ⟨rfl, HW.out, Kept.refl _ _⟩
  · go_enter Tryz.func208, Tryz.ntmps208
    go_wp2
    go_ret
    exact ⟨rfl, HW.out, Kept.refl _ _⟩

set_option maxHeartbeats 400000 in
theorem takes_nil (v : Value) (w : World) : Calls Tryz.prog 208 #[.pointer none, v] w fun e w' => e = .returned (.bool false) ∧ w' = w := by
  go_enter Tryz.func208, Tryz.ntmps208
  go_wp2
  go_ret
  exact ⟨rfl, rfl⟩

theorem Ints_two (x y : Int) (w : World) : Ints w.heap.size [x, y] (w.alloc (.cells #[.int .i64 x, .int .i64 y] 2)) := by
  intro i h
  rw [World.cell?_alloc_new]
  match i, h with
  | 0, _ => rfl
  | 1, _ => rfl
theorem Ints_one (x : Int) (w : World) : Ints w.heap.size [x] (w.alloc (.cells #[.int .i64 x] 2)) := by
  intro i h
  rw [World.cell?_alloc_new]
  match i, h with
  | 0, _ => rfl
theorem Ints_three (x y z : Int) (w : World) : Ints w.heap.size [x, y, z] (w.alloc (.cells #[.int .i64 x, .int .i64 y, .int .i64 z] 2)) := by
  intro i h
  rw [World.cell?_alloc_new]
  match i, h with
  | 0, _ => rfl
  | 1, _ => rfl
  | 2, _ => rfl
theorem Kept.alloc (b : Nat) (w : World) (o : Obj) : Kept b w (w.alloc o) := Kept.of_below ((Below.refl _ _).alloc (Nat.le_refl _) o)
theorem Fl.alloc {b : Nat} {bad : Bool} {w : World} (h : Fl b bad w) (o : Obj) : Fl b bad (w.alloc o) := h.below ((Below.refl _ _).alloc (Nat.le_refl _) o)

theorem takes1 (b : Nat) (bad : Bool) (x : Int) (w : World) (hw : Fl b bad w) :
    Calls Tryz.prog 208 #[.pointer (some ⟨b, 0, none⟩), .slice (some ⟨w.heap.size, 0, none⟩) 1 1] (w.alloc (.cells #[.int .i64 x] 2)) fun e w' => e = .returned (.bool (tk bad [x])) ∧ Fl b (!tk bad [x]) w' ∧ Kept b w w' :=
  (takes_any b w.heap.size bad [x] _ (hw.alloc _) (Ints_one x w) (by simp)).mono fun _ _ h => ⟨h.1, h.2.1, (Kept.alloc b w _).trans h.2.2⟩
theorem takes2 (b : Nat) (bad : Bool) (x y : Int) (w : World) (hw : Fl b bad w) :
    Calls Tryz.prog 208 #[.pointer (some ⟨b, 0, none⟩), .slice (some ⟨w.heap.size, 0, none⟩) 2 2] (w.alloc (.cells #[.int .i64 x, .int .i64 y] 2)) fun e w' => e = .returned (.bool (tk bad [x, y])) ∧ Fl b (!tk bad [x, y]) w' ∧ Kept b w w' :=
  (takes_any b w.heap.size bad [x, y] _ (hw.alloc _) (Ints_two x y w) (by simp)).mono fun _ _ h => ⟨h.1, h.2.1, (Kept.alloc b w _).trans h.2.2⟩
theorem takes3 (b : Nat) (bad : Bool) (x y z : Int) (w : World) (hw : Fl b bad w) :
    Calls Tryz.prog 208 #[.pointer (some ⟨b, 0, none⟩), .slice (some ⟨w.heap.size, 0, none⟩) 3 3] (w.alloc (.cells #[.int .i64 x, .int .i64 y, .int .i64 z] 2)) fun e w' => e = .returned (.bool (tk bad [x, y, z])) ∧ Fl b (!tk bad [x, y, z]) w' ∧ Kept b w w' :=
  (takes_any b w.heap.size bad [x, y, z] _ (hw.alloc _) (Ints_three x y z w) (by simp)).mono fun _ _ h => ⟨h.1, h.2.1, (Kept.alloc b w _).trans h.2.2⟩
end Go.Proofs.YtoadcnhcfodkgaaGreatDoor
