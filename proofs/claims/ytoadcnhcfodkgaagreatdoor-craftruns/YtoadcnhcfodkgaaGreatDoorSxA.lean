/-
  A symbolic run of Go code inside the kernel: values with blocks that are numbered by themselves, what a frame and memory have to do with them, and what reads no more than that, for the seat YtoadcnhcfodkgaaGreatDoor. No Go text in sight.
-/
import Derived.Test.YtoadcnhcfodkgaaGreatDoorVMem
import Derived.Test.YtoadcnhcfodkgaaGreatDoorFTab
import Derived.Orders
import Derived.LoopN
namespace Go.Proofs.YtoadcnhcfodkgaaGreatDoor
open Go.RowKit

/-- Which block of the heap a numbered block is (none: it isn't made yet). -/
abbrev Bl := List (Option Nat)
/-- What numbered blocks hold. -/
abbrev Xm := List (List Value)
def isP : Value → Bool
  | .pointer (some _) => true
  | .nilIface => true
  | .slice (some _) _ _ => true
  | _ => false
def asB : Value → Option Bool
  | .bool b => some b
  | _ => none
/-- v, of numbered blocks, stands for v' (a nil of an interface type: for whatever is no bool). -/
def RV (bl : Bl) (v v' : Value) : Prop :=
  match v with
  | .pointer (some a) => ∃ B, bl[a.block]? = some (some B) ∧ v' = .pointer (some { a with block := B })
  | .nilIface => asB v' = none
  | .slice (some a) n c => ∃ B, bl[a.block]? = some (some B) ∧ v' = .slice (some { a with block := B }) n c
  | v => v' = v
theorem RV.plain {bl : Bl} {v v' : Value} (h : RV bl v v') (hp : isP v = false) : v' = v := by
  match v, h, hp with
  | .pointer none, h, _ => exact h
  | .bool _, h, _ => exact h
  | .int _ _, h, _ => exact h
  | .float _ _, h, _ => exact h
  | .complex _ _ _, h, _ => exact h
  | .string _, h, _ => exact h
  | .slice none _ _, h, _ => exact h
  | .map _, h, _ => exact h
  | .chan _, h, _ => exact h
  | .func _ _ _, h, _ => exact h
  | .nilFunc, h, _ => exact h
  | .iface _ _, h, _ => exact h
  | .agg _, h, _ => exact h
  | .tuple _, h, _ => exact h
theorem RV.same {bl : Bl} {v : Value} (hp : isP v = false) : RV bl v v := by
  match v, hp with
  | .pointer none, _ => rfl
  | .bool _, _ => rfl
  | .int _ _, _ => rfl
  | .float _ _, _ => rfl
  | .complex _ _ _, _ => rfl
  | .string _, _ => rfl
  | .slice none _ _, _ => rfl
  | .map _, _ => rfl
  | .chan _, _ => rfl
  | .func _ _ _, _ => rfl
  | .nilFunc, _ => rfl
  | .iface _ _, _ => rfl
  | .agg _, _ => rfl
  | .tuple _, _ => rfl
def Le (bl bl' : Bl) : Prop := ∀ (k B : Nat), bl[k]? = some (some B) → bl'[k]? = some (some B)
theorem Le.refl (bl : Bl) : Le bl bl := fun _ _ h => h
theorem Le.trans {a b c : Bl} (h : Le a b) (k : Le b c) : Le a c := fun i B e => k i B (h i B e)
theorem RV.mono {bl bl' : Bl} {v v' : Value} (h : RV bl v v') (hl : Le bl bl') : RV bl' v v' := by
  cases hp : isP v
  · rw [h.plain hp]; exact .same hp
  · match v, h, hp with
    | .pointer (some a), ⟨B, h1, h2⟩, _ => exact ⟨B, hl _ _ h1, h2⟩
    | .nilIface, h, _ => exact h
    | .slice (some a) _ _, ⟨B, h1, h2⟩, _ => exact ⟨B, hl _ _ h1, h2⟩
structure FR (bl : Bl) (vt : List Value) (tm : Array Value) : Prop where
  len : tm.size = vt.length
  rv : ∀ t, RV bl (vt.getD t undef) (tm.getD t undef)
theorem FR.mono {bl bl' : Bl} {vt : List Value} {tm : Array Value} (h : FR bl vt tm) (hl : Le bl bl') : FR bl' vt tm := ⟨h.len, fun t => (h.rv t).mono hl⟩
/-- What an operand is. -/
def VE (vt : List Value) : Operand → Value
  | .tmp t => vt.getD t undef
  | .const v => v
  | .global _ => undef
  | .func f => .func (.func f) #[] #[]
def okX : Operand → Bool
  | .const v => !isP v
  | .global _ => false
  | _ => true
theorem FR.eval {bl : Bl} {vt : List Value} {a : Act} (h : FR bl vt a.tmps) {x : Operand} (hx : okX x = true) : RV bl (VE vt x) (a.eval x) := by
  match x, hx with
  | .tmp t, _ => exact h.rv t
  | .const v, hx =>
    simp only [okX, Bool.not_eq_true'] at hx
    exact .same hx
  | .global g, hx => cases hx
  | .func f, _ => rfl
def vput (vt : List Value) (dst : Option Tmp) (v : Value) : List Value :=
  match dst with
  | some d => vt.set d v
  | none => vt
theorem FR.set {bl : Bl} {vt : List Value} {tm : Array Value} (h : FR bl vt tm) {v v' : Value} (hv : RV bl v v') (d : Nat) : FR bl (vt.set d v) (tm.setIfInBounds d v') := by
  refine ⟨by simp [h.len], fun t => ?_⟩
  have hl := h.len
  by_cases e : d = t
  · subst e
    by_cases hd : d < vt.length
    · simp only [List.getD_eq_getElem?_getD, Array.getD_eq_getD_getElem?]
      rw [List.getElem?_set_self hd, Array.getElem?_setIfInBounds_self_of_lt (by omega)]
      exact hv
    · simp only [List.getD_eq_getElem?_getD, Array.getD_eq_getD_getElem?]
      rw [List.getElem?_eq_none (by rw [List.length_set]; omega), Array.getElem?_eq_none (by rw [Array.size_setIfInBounds]; omega)]
      rfl
  · have h1 := h.rv t
    simp only [List.getD_eq_getElem?_getD, Array.getD_eq_getD_getElem?] at h1 ⊢
    rw [List.getElem?_set_ne e, Array.getElem?_setIfInBounds_ne e]
    exact h1
theorem FR.put {bl : Bl} {vt : List Value} {a : Act} (h : FR bl vt a.tmps) {v v' : Value} (hv : RV bl v v') (dst : Option Tmp) : FR bl (vput vt dst v) (a.put dst v').tmps := by
  cases dst with
  | none => exact h
  | some d => exact h.set hv d
/-- The package-level tables are laid. -/
def GW (w : World) : Prop := Arr 0 (row 54 at0) w ∧ Arr 1 (row 10 yr0) w
theorem GW.same {w w' : World} (h : GW w) (h0 : w'.heap[0]? = w.heap[0]?) (h1 : w'.heap[1]? = w.heap[1]?) (hs : w.heap.size ≤ w'.heap.size) : GW w' := ⟨h.1.same h0 hs, h.2.same h1 hs⟩
theorem GW.kept {w w' : World} (h : GW w) {b : Nat} (hb : 1 < b) (k : Kept b w w') : GW w' := h.same (k.block 0 h.1.lies (by omega)) (k.block 1 h.2.lies (by omega)) k.size
theorem GW.below {w w' : World} (h : GW w) (k : Below w.heap.size w w') : GW w' := h.same (k.block 0 h.1.lies) (k.block 1 h.2.lies) k.size
/-- Memory as it is numbered, and all else as it was but for the blocks of bs. -/
structure RW (bs : List Nat) (w0 : World) (bl : Bl) (m : Xm) (w : World) : Prop where
  arr : ∀ (k B : Nat), bl[k]? = some (some B) → ∃ l, m[k]? = some l ∧ Arr B l w
  inj : ∀ (i j B : Nat), bl[i]? = some (some B) → bl[j]? = some (some B) → i = j
  own : ∀ (k B : Nat), bl[k]? = some (some B) → B ∈ bs ∨ w0.heap.size ≤ B ∨ m[k]? = some []
  os : w.os = w0.os
  tape : w.tape = w0.tape
  output : w.output = w0.output
  size : w0.heap.size ≤ w.heap.size
  block : ∀ i : Nat, i < w0.heap.size → i ∉ bs → w.heap[i]? = w0.heap[i]?
  gw : GW w0 ∧ ∀ b ∈ bs, 1 < b
theorem RW.gt {bs : List Nat} {w0 : World} {bl : Bl} {m : Xm} {w : World} (h : RW bs w0 bl m w) {k B : Nat} (hk : bl[k]? = some (some B)) {l : List Value} (hm : m[k]? = some l) (hl : l ≠ []) : 1 < B := by
  rcases h.own k B hk with h1 | h1 | h1
  · exact h.gw.2 B h1
  · have := h.gw.1.2.lies
    omega
  · rw [hm] at h1
    exact absurd (Option.some.inj h1) hl
/-- A block of which nothing is told stays one. -/
theorem none_set {m : Xm} {k k' : Nat} {l : List Value} (h : m[k']? = some []) (hl : k = k' → l = []) : (m.set k l)[k']? = some [] := by
  by_cases e : k = k'
  · subst e
    rw [List.getElem?_set_self (List.getElem?_eq_some_iff.1 h).1, hl rfl]
  · rw [List.getElem?_set_ne e]
    exact h
theorem RW.gwAt {bs : List Nat} {w0 : World} {bl : Bl} {m : Xm} {w : World} (h : RW bs w0 bl m w) : GW w :=
  h.gw.1.same (h.block 0 h.gw.1.1.lies (fun e => by have := h.gw.2 0 e; omega)) (h.block 1 h.gw.1.2.lies (fun e => by have := h.gw.2 1 e; omega)) h.size
theorem RW.drew {bs : List Nat} {w0 : World} {bl : Bl} {m : Xm} {w : World} (h : RW bs w0 bl m w) : RW bs w0 bl m { w with drawn := w.drawn + 1 } :=
  ⟨fun k B hk => let ⟨l, h1, h2⟩ := h.arr k B hk; ⟨l, h1, h2.drew⟩, h.inj, h.own, h.os, h.tape, h.output, h.size, h.block, h.gw⟩
/-! ### What hangs on no world -/
def qrun (P : Program) {α : Type} : Sem α → Option α
  | .pure a => some a
  | .program k => qrun P (k P)
  | .mark _ k => qrun P k
  | _ => none
theorem qrun_run {P : Program} {α : Type} {a : α} (s : Sem α) (h : qrun P s = some a) (w : World) : s.run P w = .ok a w := by
  induction s with
  | pure x => simp only [qrun, Option.some.injEq] at h; rw [h]; rfl
  | program k ih => exact ih P h
  | mark m k ih => exact ih h
  | _ => cases h
theorem add_is (B o n : Nat) : ((⟨B, o, none⟩ : Addr).add n) = ⟨B, o + n, none⟩ := by
  unfold Addr.add
  split
  · rename_i h; subst h; rfl
  · rfl
theorem loadCells_run {P : Program} {B : Nat} {l : List Value} {w : World} (A : Arr B l w) (o : Nat) : ∀ (n i : Nat) (acc : Array Value), o + i + n ≤ l.length →
    (loadCellsFrom ⟨B, o, none⟩ i n acc).run P w = .ok (acc ++ ((l.drop (o + i)).take n).toArray) w
  | 0, i, acc, _ => by simp [loadCellsFrom]
  | n + 1, i, acc, h => by
    have hc := A.c (o + i) (by omega)
    have hd : l.drop (o + i) = l[o + i]'(by omega) :: l.drop (o + i + 1) := List.drop_eq_getElem_cons (by omega)
    simp only [loadCellsFrom, Sem.run_bind, load, Sem.run, add_is, hc, Result.andThen_ok]
    rw [loadCells_run A o n (i + 1) _ (by omega), hd, List.take_succ_cons]
    simp [Nat.add_assoc]
def loadV (P : Program) (t : TypeId) (l : List Value) (off : Nat) : Option Value :=
  match qrun P (isAgg t) with
  | some true =>
    match qrun P (sizeOf t) with
    | some n => if off + n ≤ l.length then some (.agg ((l.drop off).take n).toArray) else none
    | none => none
  | some false => l[off]?
  | none => none
theorem loadV_run {P : Program} {t : TypeId} {l : List Value} {off : Nat} {v : Value} {B : Nat} {w : World} (h : loadV P t l off = some v) (A : Arr B l w) : (loadVar t ⟨B, off, none⟩).run P w = .ok v w := by
  unfold loadV at h
  unfold loadVar
  cases h1 : qrun P (isAgg t) with
  | none => rw [h1] at h; cases h
  | some b =>
    rw [h1] at h
    have r1 := qrun_run _ h1 w
    cases b with
    | true =>
      cases h2 : qrun P (sizeOf t) with
      | none => rw [h2] at h; cases h
      | some n =>
        rw [h2] at h
        have r2 := qrun_run _ h2 w
        dsimp only at h
        split at h
        · rename_i hl
          have r3 := loadCells_run (P := P) A off n 0 #[] hl
          simp only [Sem.run_bind, r1, Result.andThen_ok, if_true, r2, loadCells, r3]
          rw [← Option.some.inj h]
          simp
        · cases h
    | false =>
      simp only [Sem.run_bind, r1, Result.andThen_ok]
      dsimp only at h
      obtain ⟨hl, rfl⟩ := List.getElem?_eq_some_iff.1 h
      simp [load, Sem.run, A.c off hl]
end Go.Proofs.YtoadcnhcfodkgaaGreatDoor
