/-
  A symbolic run begun anew: slots and blocks that play no part any more are forgotten, for the seat YtoadcnhcfodkgaaGreatDoor. No Go text in sight.
-/
import Derived.Test.YtoadcnhcfodkgaaGreatDoorSxO
namespace Go.Proofs.YtoadcnhcfodkgaaGreatDoor
open Go.RowKit

/-- Of a value no more than whether it is a bool, and which. -/
def dimv : Value → Value
  | .bool b => .bool b
  | _ => .nilIface
theorem RV.dim {bl bl' : Bl} {v v' : Value} (h : RV bl v v') : RV bl' (dimv v) v' := by
  cases hp : isP v
  · rw [h.plain hp]
    cases v <;> rfl
  · match v, h, hp with
    | .pointer (some a), ⟨B, _, e⟩, _ => rw [e]; rfl
    | .nilIface, h, _ => exact h
    | .slice (some a) _ _, ⟨B, _, e⟩, _ => rw [e]; rfl
/-- A frame of which these slots are known. -/
def frm (ks : List (Nat × Value)) (d : Nat → Value) (n : Nat) : List Value := (List.range n).map fun j => match ks.lookup j with
  | some v => v
  | none => dimv (d j)
/-- Leads to no block from number k on. -/
def ptrOk (k : Nat) : Value → Bool
  | .pointer (some a) => decide (a.block < k)
  | .slice (some a) _ _ => decide (a.block < k)
  | _ => true
theorem RV.cut {bl : Bl} {k : Nat} {v v' : Value} (h : RV bl v v') (hp : ptrOk k v = true) : RV (bl.take k) v v' := by
  cases hi : isP v
  · rw [h.plain hi]
    exact .same hi
  · match v, h, hi, hp with
    | .pointer (some a), ⟨B, h1, e⟩, _, hp =>
      have hp : a.block < k := of_decide_eq_true hp
      exact ⟨B, by rw [List.getElem?_take_of_lt hp]; exact h1, e⟩
    | .nilIface, h, _, _ => exact h
    | .slice (some a) _ _, ⟨B, h1, e⟩, _, hp =>
      have hp : a.block < k := of_decide_eq_true hp
      exact ⟨B, by rw [List.getElem?_take_of_lt hp]; exact h1, e⟩
theorem take_at' {bl : Bl} {k i B : Nat} (h : (bl.take k)[i]? = some (some B)) : i < k ∧ bl[i]? = some (some B) := by
  have hl := (List.getElem?_eq_some_iff.1 h).1
  rw [List.length_take] at hl
  have hk : i < k := by omega
  rw [List.getElem?_take_of_lt hk] at h
  exact ⟨hk, h⟩
theorem RW.cut {bs : List Nat} {w0 : World} {bl : Bl} {m : Xm} {w : World} (h : RW bs w0 bl m w) (k : Nat) : RW bs w0 (bl.take k) (m.take k) w := by
  refine ⟨fun i B hi => ?_, fun i j B hi hj => h.inj i j B (take_at' hi).2 (take_at' hj).2, fun i B hi => (h.own i B (take_at' hi).2).imp id (Or.imp id fun e => by rw [List.getElem?_take_of_lt (take_at' hi).1]; exact e), h.os, h.tape, h.output, h.size, h.block, h.gw⟩
  obtain ⟨hk, hi⟩ := take_at' hi
  obtain ⟨l, h1, A⟩ := h.arr i B hi
  exact ⟨l, by rw [List.getElem?_take_of_lt hk]; exact h1, A⟩
theorem lookup_of (f : Nat → Value) (j : Nat) : ∀ ks : List Nat, (ks.map fun i => (i, f i)).lookup j = if j ∈ ks then some (f j) else none
  | [] => rfl
  | k :: ks => by
    by_cases e : j = k
    · subst e
      simp
    · have e' : (j == k) = false := by simpa using e
      have ih := lookup_of f j ks
      simp only [List.map_cons, List.lookup, e', ih, List.mem_cons, e, false_or]
theorem FR.cut {bl : Bl} {vt : List Value} {tm : Array Value} (h : FR bl vt tm) {n k : Nat} {ks : List Nat} (hn : vt.length = n) (hp : (ks.all fun j => ptrOk k (vt.getD j undef)) = true) :
    FR (bl.take k) (frm (ks.map fun j => (j, vt.getD j undef)) (fun j => vt.getD j undef) n) tm := by
  refine ⟨by unfold frm; simp [h.len, hn], fun t => ?_⟩
  have h1 := h.rv t
  unfold frm
  by_cases ht : t < n
  · rw [List.getD_eq_getElem?_getD, List.getElem?_map, List.getElem?_range ht]
    simp only [Option.map_some, Option.getD_some, lookup_of]
    by_cases e : t ∈ ks
    · rw [if_pos e]
      exact h1.cut (List.all_eq_true.1 hp t e)
    · rw [if_neg e]
      exact h1.dim
  · rw [List.getD_eq_getElem?_getD, List.getElem?_eq_none (by simp; omega)]
    rw [List.getD_eq_getElem?_getD, List.getElem?_eq_none (by omega)] at h1
    exact h1.cut rfl
/-- Of the frame the slots ks, of memory the first k blocks. -/
def forget (ks : List Nat) (n k : Nat) (K : List Value → Xm → Prop) : List Value → Xm → Prop := fun vt m =>
  vt.length = n ∧ (ks.all fun j => ptrOk k (vt.getD j undef)) = true ∧ ∀ d, K (frm (ks.map fun j => (j, vt.getD j undef)) d n) (m.take k)
section
variable {P : Program} {tbl : List (Ct P)} {bs : List Nat} {w0 : World} {ds : List Deferred} {dirty : Nat → List Nat} {bl0 : Bl}
theorem Rl.cut {bl : Bl} {vt : List Value} {m : Xm} {a : Act} {w : World} (r : Rl bs w0 ds bl0 bl vt m a w) {ks : List Nat} {n k : Nat} (hb : bl0.length ≤ k) {K : List Value → Xm → Prop} (h : forget ks n k K vt m) :
    ∃ bl' vt' m', K vt' m' ∧ Rl bs w0 ds bl0 bl' vt' m' a w := by
  refine ⟨bl.take k, _, m.take k, h.2.2 (fun j => vt.getD j undef), r.F.cut h.1 h.2.1, r.R.cut k, fun i B hi => ?_, by rw [List.length_take, List.length_take, r.len], r.defers⟩
  have hl := (List.getElem?_eq_some_iff.1 hi).1
  rw [List.getElem?_take_of_lt (by omega)]
  exact r.le i B hi
/-- A statement by the run, and what plays no part behind it is forgotten. -/
def cutBy (P : Program) (tbl : List (Ct P)) (dirty : Nat → List Nat) (id : Nat) (ks : List Nat) (n k : Nat) (ops : Array Oper) (draw : Bool) (K : List Value → Xm → Prop) (vt : List Value) (m : Xm) : Prop :=
  vregion P tbl dirty id ops draw (forget ks n k K) vt m
theorem cutBy_sound (hm : P.follows .mixedOrders = true) {id : Nat} {ks : List Nat} {n k : Nat} (hb : bl0.length ≤ k) {ops : Array Oper} {draw : Bool} {K : List Value → Xm → Prop} {Q : Exit → Act → World → Prop} {bl : Bl} {vt : List Value} {m : Xm} {a : Act} {w : World}
    (h : cutBy P tbl dirty id ks n k ops draw K vt m) (r : Rl bs w0 ds bl0 bl vt m a w) (hK : ∀ bl vt m a w, K vt m → Rl bs w0 ds bl0 bl vt m a w → Q .normal a w) : (Code.region id ops draw).wp P Q a w := by
  refine vregion_sound hm (fun bl vt m a w hk hr => ?_) h r
  obtain ⟨bl', vt', m', h1, h2⟩ := hr.cut hb hk
  exact hK bl' vt' m' a w h1 h2
/-! ### One operation -/
theorem ops_val {ops : Array Oper} {Q : Exit → Act → World → Prop} {i : Nat} {rest : List Nat} {a : Act} {w w' : World} {o : Oper} {v : Value} (ho : ops[i]? = some o) (hg : o.guard = none) (hr : (execOp a.eval o).run P w = .ok (.value v) w')
    (h : wpOps P ops Q rest (a.put o.dst v) w') : wpOps P ops Q (i :: rest) a w := by
  rw [wpOps_cons]
  unfold wpOp
  rw [ho]
  dsimp only
  rw [show Region.wanted o (yielded ops a.tmps) = true by unfold Region.wanted; rw [hg], if_pos rfl]
  refine .inl ?_
  unfold Oper.wp
  rw [hr]
  exact h
theorem ops_skip {ops : Array Oper} {Q : Exit → Act → World → Prop} {i : Nat} {rest : List Nat} {a : Act} {w w' : World} {o : Oper} (ho : ops[i]? = some o) (hg : o.guard = none) (hr : (execOp a.eval o).run P w = .ok .skip w')
    (h : wpOps P ops Q rest (a.put o.dst undef) w') : wpOps P ops Q (i :: rest) a w := by
  rw [wpOps_cons]
  unfold wpOp
  rw [ho]
  dsimp only
  rw [show Region.wanted o (yielded ops a.tmps) = true by unfold Region.wanted; rw [hg], if_pos rfl]
  refine .inl ?_
  unfold Oper.wp
  rw [hr]
  exact h
end
end Go.Proofs.YtoadcnhcfodkgaaGreatDoor
