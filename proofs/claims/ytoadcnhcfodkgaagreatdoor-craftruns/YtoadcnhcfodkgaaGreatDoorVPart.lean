/-
  A part of a row of cells is read, for the seat YtoadcnhcfodkgaaGreatDoor. No Go text in sight.
-/
import Derived.Test.YtoadcnhcfodkgaaGreatDoorVLoop
namespace Go.Proofs.YtoadcnhcfodkgaaGreatDoor
open Go.RowKit

theorem row_range {k N M o : Nat} {g : Nat → Int} {w : World} (A : Arr k (row N g) w) (h : o + M ≤ N) : w.rangeAt k o (row M fun i => g (o + i)) := fun j v hv => by
  obtain ⟨hj, rfl⟩ := List.getElem?_eq_some_iff.1 hv
  have hj' : j < M := by rw [row_len] at hj; exact hj
  rw [row_get, row_c A (o + j) (by omega)]
theorem part_load {ops : Array Oper} {rest : List Oper} {op : Oper} {a : Act} {w : World} {Q : Exit → Act → World → Prop} {ty : TypeId} {x : Operand} {k N M o : Nat} {g : Nat → Int} (hgd : op.guard = none) (ho : op.op = .load ty x)
    (hx : a.eval x = .pointer (some ⟨k, o, none⟩)) (A : Arr k (row N g) w) (hM : o + M ≤ N) (hd : (Tryz.prog.underlying ty).any TypeDesc.isRow = true) (hi : (Tryz.prog.info? ty).map (·.size) = some (row M fun i => g (o + i)).length)
    (h : wpList Tryz.prog ops Q rest (a.put op.dst (.agg (row M fun i => g (o + i)).toArray)) w) : wpList Tryz.prog ops Q (op :: rest) a w := by
  cases hu : Tryz.prog.underlying ty with
  | none => rw [hu] at hd; cases hd
  | some d => rw [hu] at hd; exact wpList_load_mid hgd ty x ho k o hx _ d (row_range A hM) hu hd hi h
theorem part_yield {ops : Array Oper} {S : World → Prop} {op : Oper} {a : Act} {ty : TypeId} {x : Operand} {k N M o : Nat} {g : Nat → Int} (hw : Region.wanted op (yielded ops a.tmps) = true) (ho : op.op = .load ty x)
    (hx : a.eval x = .pointer (some ⟨k, o, none⟩)) (hS : ∀ w, S w → Arr k (row N g) w) (hM : o + M ≤ N) (hd : (Tryz.prog.underlying ty).any TypeDesc.isRow = true) (hi : (Tryz.prog.info? ty).map (·.size) = some (row M fun i => g (o + i)).length) :
    YieldsIf Tryz.prog ops S op (.agg (row M fun i => g (o + i)).toArray) a := by
  cases hu : Tryz.prog.underlying ty with
  | none => rw [hu] at hd; cases hd
  | some d => rw [hu] at hd; exact yieldsIf_load_mid hw ty x ho k o hx _ d (fun w h => row_range (hS w h) hM) hu hd hi
theorem row_yield {ops : Array Oper} {S : World → Prop} {op : Oper} {a : Act} {ty : TypeId} {x : Operand} {k : Nat} {l : List Value} (hw : Region.wanted op (yielded ops a.tmps) = true) (ho : op.op = .load ty x)
    (hx : a.eval x = .pointer (some ⟨k, 0, none⟩)) (hS : ∀ w, S w → Arr k l w) (hd : (Tryz.prog.underlying ty).any TypeDesc.isRow = true) (hi : (Tryz.prog.info? ty).map (·.size) = some l.length) :
    YieldsIf Tryz.prog ops S op (.agg l.toArray) a := by
  cases hu : Tryz.prog.underlying ty with
  | none => rw [hu] at hd; cases hd
  | some d => rw [hu] at hd; exact yieldsIf_load_mid hw ty x ho k 0 hx _ d (fun w h => (hS w h).range) hu hd hi
/-- A row of cells, as g tells them, but for the cell o. -/
def NearR (k N : Nat) (g : Nat → Int) (o : Nat) (w : World) : Prop := ∃ g' : Nat → Int, Arr k (row N g') w ∧ ∀ x, x ≠ o → g' x = g x
theorem NearR.same {k N o : Nat} {g : Nat → Int} {w : World} (A : Arr k (row N g) w) : NearR k N g o w := ⟨g, A, fun _ _ => rfl⟩
theorem NearR.upd {k N o : Nat} {g : Nat → Int} {v : Int} {w : World} (A : Arr k (row N (updF g o v)) w) : NearR k N g o w := ⟨_, A, fun _ hx => if_neg hx⟩
theorem near_c {k N o : Nat} {g : Nat → Int} {w : World} (A : NearR k N g o w) (i : Nat) (h : i < N) (ho : i ≠ o) : w.cell? ⟨k, i, none⟩ = some (.int .i64 (g i)) := by
  obtain ⟨g', A, e⟩ := A
  rw [row_c A i h, e i ho]
theorem near_yield {ops : Array Oper} {S : World → Prop} {op : Oper} {a : Act} {ty : TypeId} {x : Operand} {k N M o o' : Nat} {g : Nat → Int} (hw : Region.wanted op (yielded ops a.tmps) = true) (ho : op.op = .load ty x)
    (hx : a.eval x = .pointer (some ⟨k, o, none⟩)) (hS : ∀ w, S w → NearR k N g o' w) (hM : o + M ≤ N) (hn : o' < o ∨ o + M ≤ o') (hd : (Tryz.prog.underlying ty).any TypeDesc.isRow = true) (hi : (Tryz.prog.info? ty).map (·.size) = some (row M fun i => g (o + i)).length) :
    YieldsIf Tryz.prog ops S op (.agg (row M fun i => g (o + i)).toArray) a := by
  cases hu : Tryz.prog.underlying ty with
  | none => rw [hu] at hd; cases hd
  | some d =>
    rw [hu] at hd
    refine yieldsIf_load_mid hw ty x ho k o hx _ d (fun w h j v hv => ?_) hu hd hi
    obtain ⟨hj, rfl⟩ := List.getElem?_eq_some_iff.1 hv
    have hj' : j < M := by rw [row_len] at hj; exact hj
    rw [row_get, near_c (hS w h) (o + j) (by omega) (by omega)]
theorem late_row {ops : Array Oper} {op : Oper} {a : Act} {w : World} {K : Act → World → Prop} {Q : Exit → Act → World → Prop} {ty : TypeId} {x : Operand} {k : Nat} {l : List Value} (hw : Region.wanted op (yielded ops a.tmps) = true) (ho : op.op = .load ty x)
    (hx : a.eval x = .pointer (some ⟨k, 0, none⟩)) (A : Arr k l w) (hd : (Tryz.prog.underlying ty).any TypeDesc.isRow = true) (hi : (Tryz.prog.info? ty).map (·.size) = some l.length)
    (h : K (a.put op.dst (.agg l.toArray)) w) : if Region.wanted op (yielded ops a.tmps) = true then Oper.wp Tryz.prog op a w K Q else K (a.put op.dst undef) w := by
  rw [if_pos hw]
  cases hu : Tryz.prog.underlying ty with
  | none => rw [hu] at hd; cases hd
  | some d => rw [hu] at hd; exact wp_load_mid ty x ho k 0 hx _ d A.range hu hd hi h
theorem late_part {ops : Array Oper} {op : Oper} {a : Act} {w : World} {K : Act → World → Prop} {Q : Exit → Act → World → Prop} {ty : TypeId} {x : Operand} {k N M o : Nat} {g : Nat → Int} (hw : Region.wanted op (yielded ops a.tmps) = true) (ho : op.op = .load ty x)
    (hx : a.eval x = .pointer (some ⟨k, o, none⟩)) (A : Arr k (row N g) w) (hM : o + M ≤ N) (hd : (Tryz.prog.underlying ty).any TypeDesc.isRow = true) (hi : (Tryz.prog.info? ty).map (·.size) = some (row M fun i => g (o + i)).length)
    (h : K (a.put op.dst (.agg (row M fun i => g (o + i)).toArray)) w) : if Region.wanted op (yielded ops a.tmps) = true then Oper.wp Tryz.prog op a w K Q else K (a.put op.dst undef) w := by
  rw [if_pos hw]
  cases hu : Tryz.prog.underlying ty with
  | none => rw [hu] at hd; cases hd
  | some d => rw [hu] at hd; exact wp_load_mid ty x ho k o hx _ d (row_range A hM) hu hd hi h
/-- What comes behind, by a name. -/
theorem get_cont {P : Program} {c : Code} {Q : Exit → Act → World → Prop} {a : Act} {w : World} (h : ∀ K : Act → World → Prop, Hid (K = fun a w => Q .normal a w) → Code.wp P c Q a w) : Code.wp P c Q a w := h _ rfl
theorem put_cont {K : Act → World → Prop} {Q : Exit → Act → World → Prop} {a : Act} {w : World} (e : Hid (K = fun a w => Q .normal a w)) (h : K a w) : Q .normal a w := by rw [e.out] at h; exact h
theorem use_cont {K p : Act → World → Prop} {a : Act} {w : World} (h : ∀ a w, p a w → K a w) (hp : p a w) : K a w := h a w hp
end Go.Proofs.YtoadcnhcfodkgaaGreatDoor
