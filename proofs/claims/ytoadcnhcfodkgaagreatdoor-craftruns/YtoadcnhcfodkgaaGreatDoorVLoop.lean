/-
  Loops whose number of rounds is a letter; rows of cells as functions, for the seat YtoadcnhcfodkgaaGreatDoor.
-/
import Derived.Test.YtoadcnhcfodkgaaGreatDoorStop
import Derived.LoopN
import Derived.Handy
namespace Go.Proofs.YtoadcnhcfodkgaaGreatDoor
open Go.RowKit

/-- A loop of N rounds: what holds at the head of each round. -/
theorem rounds_up {P : Program} {c : Code} {Q : Exit → Act → World → Prop} {a : Act} {w : World} (J : Nat → Act → World → Prop) (N : Nat) (h0 : J 0 a w)
    (step : ∀ k a w, k < N → J k a w → ∀ R : Act → World → Prop, (∀ a' w', J (k + 1) a' w' → R a' w') → c.wp P (Exit.then R Q) a w)
    (last : ∀ a w, J N a w → ∀ R : Act → World → Prop, c.wp P (Exit.then R Q) a w) : (Code.loop c).wp P Q a w := by
  have key : ∀ d k a w, k + d = N → J k a w → Code.rounds P c Q (d + 1) a w := by
    intro d
    induction d with
    | zero => intro k a w hk hJ; rw [rounds_succ]; exact last a w (by rw [← hk]; exact hJ) _
    | succ d ih => intro k a w hk hJ; rw [rounds_succ]; exact step k a w (by omega) hJ _ fun a' w' h => ih (k + 1) a' w' (by omega) h
  exact wp_loop_rounds (N + 1) (key N 0 a w (by omega) h0)
/-- A whole row is read. -/
theorem row_load {ops : Array Oper} {rest : List Oper} {op : Oper} {a : Act} {w : World} {Q : Exit → Act → World → Prop} {ty : TypeId} {x : Operand} {k : Nat} {l : List Value} (hgd : op.guard = none) (ho : op.op = .load ty x)
    (hx : a.eval x = .pointer (some ⟨k, 0, none⟩)) (A : Arr k l w) (hd : (Tryz.prog.underlying ty).any TypeDesc.isRow = true) (hi : (Tryz.prog.info? ty).map (·.size) = some l.length)
    (h : wpList Tryz.prog ops Q rest (a.put op.dst (.agg l.toArray)) w) : wpList Tryz.prog ops Q (op :: rest) a w := by
  cases hu : Tryz.prog.underlying ty with
  | none => rw [hu] at hd; cases hd
  | some d => rw [hu] at hd; exact wpList_load_mid hgd ty x ho k 0 hx l d A.range hu hd hi h
/-- The walk halts ahead of a store of a whole row. -/
theorem store_stop {ops : Array Oper} {rest : List Oper} {op : Oper} {a : Act} {w : World} {Q : Exit → Act → World → Prop} {ty : TypeId} {x y : Operand} (_ : op.op = .store ty x y) (_ : (Tryz.prog.underlying ty).any TypeDesc.isRow = true)
    (h : Stop (wpList Tryz.prog ops Q (op :: rest) a w)) : wpList Tryz.prog ops Q (op :: rest) a w := h.out
/-- All but block k is as it was. -/
structure Off (k : Nat) (w w' : World) : Prop where
  os : w'.os = w.os
  tape : w'.tape = w.tape
  output : w'.output = w.output
  size : w'.heap.size = w.heap.size
  block : ∀ j, j ≠ k → w'.heap[j]? = w.heap[j]?
theorem off_set (k o : Nat) (v : Value) (w : World) : Off k w (w.setCell ⟨k, o, none⟩ v) :=
  ⟨rfl, rfl, rfl, World.size_setCell _ _ _, fun _ hj => Below.heap_setCell _ _ _ _ hj⟩
theorem Off.trans {k : Nat} {w w' w'' : World} (h : Off k w w') (h' : Off k w' w'') : Off k w w'' :=
  ⟨h'.os.trans h.os, h'.tape.trans h.tape, h'.output.trans h.output, h'.size.trans h.size, fun j hj => (h'.block j hj).trans (h.block j hj)⟩
theorem off_cells (k : Nat) : ∀ (vs : List Value) (o : Nat) (w : World), Off k w (w.setCells k o vs)
  | [], _, _ => ⟨rfl, rfl, rfl, rfl, fun _ _ => rfl⟩
  | v :: r, o, w => (off_set k o v w).trans (off_cells k r (o + 1) _)
theorem Arr.off {k k' : Nat} {l : List Value} {w w' : World} (A : Arr k' l w) (h : Off k w w') (hk : k' ≠ k) : Arr k' l w' := A.same (h.block k' hk) (Nat.le_of_eq h.size.symm)
theorem Fl.off {k b : Nat} {bad : Bool} {w w' : World} (A : Fl b bad w) (h : Off k w w') (hk : b ≠ k) : Fl b bad w' :=
  ⟨(World.cell?_of_block (w := w) (a := ⟨b, 0, none⟩) (h.block b hk)).trans A.cell, (World.frozen?_of_block (w := w) (a := ⟨b, 0, none⟩) (h.block b hk)).trans A.free, by rw [h.size]; exact A.lies⟩
theorem Kept.off {b k : Nat} {x w w' : World} (K : Kept b x w) (h : Off k w w') (hk : x.heap.size ≤ k) : Kept b x w' :=
  ⟨h.os.trans K.os, h.tape.trans K.tape, h.output.trans K.output, by rw [h.size]; exact K.size, fun j hj hb => (h.block j (by omega)).trans (K.block j hj hb)⟩
theorem bel_off {k : Nat} {x w w' : World} (K : Below x.heap.size x w) (h : Off k w w') (hk : x.heap.size ≤ k) : Below x.heap.size x w' :=
  ⟨h.os.trans K.os, h.tape.trans K.tape, h.output.trans K.output, by rw [h.size]; exact K.size, fun j hj => (h.block j (by omega)).trans (K.block j hj)⟩
/-- A whole row is stored: the world behind it is a letter. -/
theorem store_row {ops : Array Oper} {rest : List Oper} {op : Oper} {a : Act} {w : World} {Q : Exit → Act → World → Prop} {ty : TypeId} {x y : Operand} {k : Nat} {l l' : List Value} (hgd : op.guard = none) (ho : op.op = .store ty x y)
    (hx : a.eval x = .pointer (some ⟨k, 0, none⟩)) (hy : a.eval y = .agg l'.toArray) (A : Arr k l w) (hl : l'.length = l.length) (hi : (Tryz.prog.info? ty).map (·.size) = some l'.length) (h1 : l'.all (·.oneCell') = true)
    (h : ∀ w', Arr k l' w' → Off k w w' → wpList Tryz.prog ops Q rest (a.put op.dst undef) w') : wpList Tryz.prog ops Q (op :: rest) a w := by
  have th : w.there k 0 l'.length := fun j hj => by
    rw [Nat.zero_add]
    exact ⟨by rw [A.c j (by omega)]; rfl, A.f j (by omega)⟩
  have of := off_cells k l' 0 w
  refine wpList_store_mid hgd ty x y ho k 0 l'.toArray hx hy (by simpa using th) (by simpa using hi) (by simpa using h1) ?_
  refine h _ ⟨fun i hi' => ?_, fun i hi' => ?_, by simp only [of.size]; exact A.lies⟩ of
  · have := World.cell?_setCells_in k l' 0 w (fun j hj => (th j hj).1) i hi'
    rw [Nat.zero_add] at this
    exact this
  · show (w.setCells k 0 l').frozen? _ = false
    rw [World.frozen?_setCells]
    exact A.f i (by omega)
theorem row_one (N : Nat) (g : Nat → Int) : (row N g).all (·.oneCell') = true := by
  rw [List.all_eq_true]
  intro v hv
  unfold row at hv
  obtain ⟨i, _, rfl⟩ := List.mem_map.1 hv
  rfl
end Go.Proofs.YtoadcnhcfodkgaaGreatDoor
