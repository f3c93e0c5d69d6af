/-
  A symbolic run begun anew with some of its blocks, in a new order, for the seat YtoadcnhcfodkgaaGreatDoor. No Go text in sight.
-/
import Derived.Test.YtoadcnhcfodkgaaGreatDoorSxQ
namespace Go.Proofs.YtoadcnhcfodkgaaGreatDoor
open Go.RowKit

/-- A value that points, by blocks in their new order. -/
def ren (rs : List Nat) : Value → Value
  | .pointer (some a) => .pointer (some { a with block := rs.idxOf a.block })
  | .slice (some a) n c => .slice (some { a with block := rs.idxOf a.block }) n c
  | v => v
/-- Leads to none but these blocks. -/
def ptrIn (rs : List Nat) : Value → Bool
  | .pointer (some a) => decide (a.block ∈ rs)
  | .slice (some a) _ _ => decide (a.block ∈ rs)
  | _ => true
def blSel (rs : List Nat) (bl : Bl) : Bl := rs.map fun i => (bl[i]?).join
theorem idx_get {i : Nat} : ∀ {rs : List Nat}, i ∈ rs → rs[rs.idxOf i]? = some i
  | [], h => by cases h
  | r :: rs, h => by
    by_cases e : r = i
    · subst e
      simp
    · have hi : i ∈ rs := by
        rcases List.mem_cons.1 h with h | h
        · exact absurd h.symm e
        · exact h
      have e' : (r == i) = false := by simpa using e
      rw [List.idxOf_cons, e']
      simpa using idx_get hi
theorem blSel_idx {rs : List Nat} {bl : Bl} {i B : Nat} (h : bl[i]? = some (some B)) (hi : i ∈ rs) : (blSel rs bl)[rs.idxOf i]? = some (some B) := by
  have h1 : rs[rs.idxOf i]? = some i := idx_get hi
  unfold blSel
  rw [List.getElem?_map, h1]
  simp [h]
theorem blSel_at {rs : List Nat} {bl : Bl} {k B : Nat} (h : (blSel rs bl)[k]? = some (some B)) : ∃ i, rs[k]? = some i ∧ bl[i]? = some (some B) := by
  unfold blSel at h
  rw [List.getElem?_map] at h
  cases e : rs[k]? with
  | none => rw [e] at h; cases h
  | some i =>
    rw [e] at h
    refine ⟨i, rfl, ?_⟩
    simp only [Option.map_some, Option.some.injEq] at h
    cases e2 : bl[i]? with
    | none => rw [e2] at h; cases h
    | some x => rw [e2] at h; simp only [Option.join_some] at h; rw [h]
theorem RV.ren {bl : Bl} {rs : List Nat} {v v' : Value} (h : RV bl v v') (hp : ptrIn rs v = true) : RV (blSel rs bl) (ren rs v) v' := by
  cases hi : isP v
  · rw [h.plain hi]
    have e : Go.Proofs.YtoadcnhcfodkgaaGreatDoor.ren rs v = v := by
      cases v <;> first
        | rfl
        | (rename_i a; cases a <;> first
          | rfl
          | cases hi)
        | (rename_i a n c; cases a <;> first
          | rfl
          | cases hi)
    rw [e]
    exact .same hi
  · match v, h, hi, hp with
    | .pointer (some a), ⟨B, h1, e⟩, _, hp => exact ⟨B, blSel_idx h1 (of_decide_eq_true hp), e⟩
    | .nilIface, h, _, _ => exact h
    | .slice (some a) _ _, ⟨B, h1, e⟩, _, hp => exact ⟨B, blSel_idx h1 (of_decide_eq_true hp), e⟩
theorem RW.sel {bs : List Nat} {w0 : World} {bl : Bl} {m : Xm} {w : World} (h : RW bs w0 bl m w) {rs : List Nat} (hn : rs.Nodup) : RW bs w0 (blSel rs bl) (rs.map fun i => m.getD i []) w := by
  have row : ∀ {k i : Nat} {l : List Value}, rs[k]? = some i → m[i]? = some l → (rs.map fun i => m.getD i [])[k]? = some l := by
    intro k i l h1 h2
    rw [List.getElem?_map, h1, Option.map_some, List.getD_eq_getElem?_getD, h2]
    rfl
  refine ⟨fun k B hk => ?_, fun i j B hi hj => ?_, fun k B hk => ?_, h.os, h.tape, h.output, h.size, h.block, h.gw⟩
  · obtain ⟨i, h1, h2⟩ := blSel_at hk
    obtain ⟨l, h3, A⟩ := h.arr i B h2
    exact ⟨l, row h1 h3, A⟩
  · obtain ⟨i', h1, h2⟩ := blSel_at hi
    obtain ⟨j', h3, h4⟩ := blSel_at hj
    have e := h.inj i' j' B h2 h4
    subst e
    have li := (List.getElem?_eq_some_iff.1 h1).1
    exact (List.getElem?_inj li hn).1 (h1.trans h3.symm)
  · obtain ⟨i, h1, h2⟩ := blSel_at hk
    exact (h.own i B h2).imp id (Or.imp id fun e => row h1 e)
theorem FR.sel {bl : Bl} {vt : List Value} {tm : Array Value} (h : FR bl vt tm) {n : Nat} {ks rs : List Nat} (hn : vt.length = n) (hp : (ks.all fun j => ptrIn rs (vt.getD j undef)) = true) :
    FR (blSel rs bl) (frm (ks.map fun j => (j, Go.Proofs.YtoadcnhcfodkgaaGreatDoor.ren rs (vt.getD j undef))) (fun j => vt.getD j undef) n) tm := by
  refine ⟨by unfold frm; simp [h.len, hn], fun t => ?_⟩
  have h1 := h.rv t
  unfold frm
  by_cases ht : t < n
  · rw [List.getD_eq_getElem?_getD, List.getElem?_map, List.getElem?_range ht]
    simp only [Option.map_some, Option.getD_some, lookup_of (fun j => Go.Proofs.YtoadcnhcfodkgaaGreatDoor.ren rs (vt.getD j undef))]
    by_cases e : t ∈ ks
    · rw [if_pos e]
      exact h1.ren (List.all_eq_true.1 hp t e)
    · rw [if_neg e]
      exact h1.dim
  · rw [List.getD_eq_getElem?_getD, List.getElem?_eq_none (by simp; omega)]
    rw [List.getD_eq_getElem?_getD, List.getElem?_eq_none (by omega)] at h1
    exact h1.ren rfl
/-- The blocks that these slots lead to. -/
def rsOf (vt : List Value) : List Nat → List Nat
  | [] => []
  | j :: ks => match vt.getD j undef with
    | .pointer (some a) => a.block :: rsOf vt ks
    | _ => rsOf vt ks
def nodB : List Nat → Bool
  | [] => true
  | x :: xs => !xs.elem x && nodB xs
theorem nodB_at : ∀ {l : List Nat}, nodB l = true → l.Nodup
  | [], _ => List.nodup_nil
  | x :: xs, h => by
    unfold nodB at h
    rw [Bool.and_eq_true, Bool.not_eq_true'] at h
    refine List.nodup_cons.2 ⟨fun e => ?_, nodB_at h.2⟩
    rw [List.elem_eq_true_of_mem e] at h
    cases h.1
/-- Of the frame the slots ks, of memory the blocks that they lead to. -/
def dpick (ks : List Nat) (n : Nat) (K : List Value → Xm → Prop) : List Value → Xm → Prop := fun vt m =>
  vt.length = n ∧ nodB (rsOf vt ks) = true ∧ (ks.all fun j => ptrIn (rsOf vt ks) (vt.getD j undef)) = true ∧ ∀ d, K (frm (ks.map fun j => (j, ren (rsOf vt ks) (vt.getD j undef))) d n) ((rsOf vt ks).map fun i => m.getD i [])
/-- A statement by the run, and what plays no part behind it is left. -/
def pickBy (P : Program) (tbl : List (Ct P)) (dirty : Nat → List Nat) (id : Nat) (ks : List Nat) (n : Nat) (ops : Array Oper) (draw : Bool) (K : List Value → Xm → Prop) (vt : List Value) (m : Xm) : Prop :=
  vregion P tbl dirty id ops draw (dpick ks n K) vt m
section
variable {P : Program} {tbl : List (Ct P)} {bs : List Nat} {w0 : World} {ds : List Deferred} {dirty : Nat → List Nat}
theorem pickBy_sound (hm : P.follows .mixedOrders = true) {id : Nat} {ks : List Nat} {n : Nat} {ops : Array Oper} {draw : Bool} {K : List Value → Xm → Prop} {Q : Exit → Act → World → Prop} {bl : Bl} {vt : List Value} {m : Xm} {a : Act} {w : World}
    (h : pickBy P tbl dirty id ks n ops draw K vt m) (r : Rl bs w0 ds [] bl vt m a w) (hK : ∀ bl vt m a w, K vt m → Rl bs w0 ds [] bl vt m a w → Q .normal a w) : (Code.region id ops draw).wp P Q a w := by
  refine vregion_sound hm (fun bl vt m a w hk hr => ?_) h r
  exact hK _ _ _ _ _ (hk.2.2.2 (fun j => vt.getD j undef)) ⟨hr.F.sel hk.1 hk.2.2.1, hr.R.sel (nodB_at hk.2.1), (fun k B hk => by cases hk), by unfold blSel; rw [List.length_map, List.length_map], hr.defers⟩
end
end Go.Proofs.YtoadcnhcfodkgaaGreatDoor
