/-
  The walks of package fixed's small methods on flows, for the seat Ytocnaflhedccpaa: Fail, gives, signed, takes.
-/
import Derived.Test.YtocnaflhedccpaaLeaf
import Derived.Handy
namespace Go.Proofs.Ytocnaflhedccpaa
open Go.RowKit

/-- A flow lies at block b: its one cell says whether it is bad. -/
structure Fl (b : Nat) (bad : Bool) (w : World) : Prop where
  cell : w.cell? ⟨b, 0, none⟩ = some (.bool bad)
  free : w.frozen? ⟨b, 0, none⟩ = false
  lies : b < w.heap.size

/-- All blocks that were there are as they were, but for block b; the streams are as they were. -/
structure Kept (b : Nat) (w w' : World) : Prop where
  os : w'.os = w.os
  tape : w'.tape = w.tape
  output : w'.output = w.output
  size : w.heap.size ≤ w'.heap.size
  block : ∀ k, k < w.heap.size → k ≠ b → w'.heap[k]? = w.heap[k]?

theorem Kept.refl (b : Nat) (w : World) : Kept b w w := ⟨rfl, rfl, rfl, Nat.le_refl _, fun _ _ _ => rfl⟩
theorem Kept.trans {b : Nat} {x y z : World} (h : Kept b x y) (k : Kept b y z) : Kept b x z :=
  ⟨k.os.trans h.os, k.tape.trans h.tape, k.output.trans h.output, Nat.le_trans h.size k.size, fun i hi hb => (k.block i (Nat.lt_of_lt_of_le hi h.size) hb).trans (h.block i hi hb)⟩
theorem Kept.of_below {b : Nat} {w w' : World} (h : Below w.heap.size w w') : Kept b w w' := ⟨h.os, h.tape, h.output, h.size, fun k hk _ => h.block k hk⟩
theorem Kept.setCell {b : Nat} {x w : World} (h : Kept b x w) (u : Value) : Kept b x (w.setCell ⟨b, 0, none⟩ u) :=
  h.trans ⟨rfl, rfl, rfl, by simp [World.setCell], fun k _ hb => Below.heap_setCell _ _ _ _ hb⟩
theorem Kept.below {b B : Nat} {x w w' : World} (h : Kept b w w') (hx : Below B x w) (hb : B ≤ b) (hB : B ≤ w.heap.size) : Below B x w' :=
  hx.trans ⟨h.os, h.tape, h.output, h.size, fun k hk => h.block k (by omega) (by omega)⟩
theorem Kept.cell {b : Nat} {w w' : World} (h : Kept b w w') {p : Addr} (hp : p.block < w.heap.size) (hb : p.block ≠ b) : w'.cell? p = w.cell? p := World.cell?_of_block (w := w) (h.block p.block hp hb)
theorem Kept.frozen {b : Nat} {w w' : World} (h : Kept b w w') {p : Addr} (hp : p.block < w.heap.size) (hb : p.block ≠ b) : w'.frozen? p = w.frozen? p := World.frozen?_of_block (w := w) (h.block p.block hp hb)
theorem Fl.below {b : Nat} {bad : Bool} {w w' : World} (h : Fl b bad w) (hb : Below w.heap.size w w') : Fl b bad w' :=
  ⟨(hb.cell (p := ⟨b, 0, none⟩) h.lies).trans h.cell, (hb.frozen (p := ⟨b, 0, none⟩) h.lies).trans h.free, Nat.lt_of_lt_of_le h.lies hb.size⟩
theorem Fl.kept {b c : Nat} {bad : Bool} {w w' : World} (h : Fl b bad w) (hb : Kept c w w') (hc : b ≠ c) : Fl b bad w' :=
  ⟨(hb.cell (p := ⟨b, 0, none⟩) h.lies hc).trans h.cell, (hb.frozen (p := ⟨b, 0, none⟩) h.lies hc).trans h.free, Nat.lt_of_lt_of_le h.lies hb.size⟩
theorem Fl.set {b : Nat} {bad : Bool} {w : World} (h : Fl b bad w) (v : Bool) : Fl b v (w.setCell ⟨b, 0, none⟩ (.bool v)) := by
  refine ⟨World.cell?_setCell_same _ _ _ h.cell, ?_, ?_⟩
  · rw [World.frozen?_setCell]; exact h.free
  · rw [World.size_setCell]; exact h.lies

/-- Cells of integers that lie behind one another at block s. -/
def Ints (s : Nat) (zs : List Int) (w : World) : Prop := ∀ i, (h : i < zs.length) → w.cell? ⟨s, i, none⟩ = some (.int .i64 zs[i])

theorem all_take_succ {zs : List Int} {k : Nat} (h : k < zs.length) : (zs.take (k + 1)).all numB = ((zs.take k).all numB && numB zs[k]) := by
  rw [List.take_succ_eq_append_getElem h, List.all_append]; simp only [List.all_cons, List.all_nil, Bool.and_true]
theorem all_of_not {zs : List Int} {k : Nat} (h : k < zs.length) (c : numB zs[k] = false) : zs.all numB = false := by
  rw [Bool.eq_false_iff]
  intro ha
  rw [List.all_eq_true] at ha
  have := ha _ (List.getElem_mem h)
  rw [c] at this
  cases this

theorem Ints_two (x y : Int) (w : World) : Ints w.heap.size [x, y] (w.alloc (.cells #[.int .i64 x, .int .i64 y] 2)) := by
  intro i h
  rw [World.cell?_alloc_new]
  match i, h with
  | 0, _ => rfl
  | 1, _ => rfl
theorem Ints_one (x : Int) (w : World) : Ints w.heap.size [x] (w.alloc (.cells #[.int .i64 x] 2)) := by
  intro i h
  rw [World.cell?_alloc_new]
  match i, h with
  | 0, _ => rfl
theorem Ints_three (x y z : Int) (w : World) : Ints w.heap.size [x, y, z] (w.alloc (.cells #[.int .i64 x, .int .i64 y, .int .i64 z] 2)) := by
  intro i h
  rw [World.cell?_alloc_new]
  match i, h with
  | 0, _ => rfl
  | 1, _ => rfl
  | 2, _ => rfl
theorem Kept.alloc (b : Nat) (w : World) (o : Obj) : Kept b w (w.alloc o) := Kept.of_below ((Below.refl _ _).alloc (Nat.le_refl _) o)
theorem Fl.alloc {b : Nat} {bad : Bool} {w : World} (h : Fl b bad w) (o : Obj) : Fl b bad (w.alloc o) := h.below ((Below.refl _ _).alloc (Nat.le_refl _) o)

end Go.Proofs.Ytocnaflhedccpaa
