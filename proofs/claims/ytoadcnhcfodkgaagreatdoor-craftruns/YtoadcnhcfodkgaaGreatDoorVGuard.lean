/-
  A whole row is read by an operation that has a guard, for the seat YtoadcnhcfodkgaaGreatDoor. No Go text in sight.
-/
import Derived.Test.YtoadcnhcfodkgaaGreatDoorVPart
namespace Go.Proofs.YtoadcnhcfodkgaaGreatDoor
open Go.RowKit

theorem row_load_g {ops : Array Oper} {rest : List Oper} {op : Oper} {a : Act} {w : World} {Q : Exit → Act → World → Prop} {ty : TypeId} {x : Operand} {k : Nat} {l : List Value} (hw : Region.wanted op (yielded ops a.tmps) = true) (ho : op.op = .load ty x)
    (hx : a.eval x = .pointer (some ⟨k, 0, none⟩)) (A : Arr k l w) (hd : (Tryz.prog.underlying ty).any TypeDesc.isRow = true) (hi : (Tryz.prog.info? ty).map (·.size) = some l.length)
    (h : wpList Tryz.prog ops Q rest (a.put op.dst (.agg l.toArray)) w) : wpList Tryz.prog ops Q (op :: rest) a w := by
  unfold wpList
  rw [if_pos hw]
  left
  cases hu : Tryz.prog.underlying ty with
  | none => rw [hu] at hd; cases hd
  | some d => rw [hu] at hd; exact wp_load_mid ty x ho k 0 hx _ d A.range hu hd hi h
end Go.Proofs.YtoadcnhcfodkgaaGreatDoor
