/-
  A symbolic run: stores, new blocks, addresses, and what an operation yields, for the seat YtoadcnhcfodkgaaGreatDoor. No Go text in sight.
-/
import Derived.Test.YtoadcnhcfodkgaaGreatDoorSxA
namespace Go.Proofs.YtoadcnhcfodkgaaGreatDoor
open Go.RowKit

/-- May stand in one cell, and is no address. -/
def cellOk : Value → Bool
  | .agg _ => false
  | .tuple _ => false
  | .pointer (some _) => false
  | _ => true
def setAt : List Value → Nat → List Value → List Value
  | l, _, [] => l
  | l, o, x :: xs => setAt (l.set o x) (o + 1) xs
def wset : World → Nat → Nat → List Value → World
  | w, _, _, [] => w
  | w, B, o, x :: xs => wset (w.setCell ⟨B, o, none⟩ x) B (o + 1) xs
theorem wset_arr {B : Nat} : ∀ (vs : List Value) (l : List Value) (o : Nat) (w : World), Arr B l w → o + vs.length ≤ l.length → Arr B (setAt l o vs) (wset w B o vs)
  | [], _, _, _, A, _ => A
  | x :: xs, l, o, w, A, h => by
    have h : o + (xs.length + 1) ≤ l.length := h
    exact wset_arr xs (l.set o x) (o + 1) _ (A.put o (by omega) x _ rfl) (by rw [List.length_set]; omega)
theorem wset_block {B i : Nat} (hi : i ≠ B) : ∀ (vs : List Value) (o : Nat) (w : World), (wset w B o vs).heap[i]? = w.heap[i]?
  | [], _, _ => rfl
  | _ :: xs, o, _ => (wset_block hi xs (o + 1) _).trans (Below.heap_setCell _ _ _ _ hi)
theorem wset_size {B : Nat} : ∀ (vs : List Value) (o : Nat) (w : World), (wset w B o vs).heap.size = w.heap.size
  | [], _, _ => rfl
  | _ :: xs, o, _ => (wset_size xs (o + 1) _).trans (World.size_setCell _ _ _)
theorem wset_os {B : Nat} : ∀ (vs : List Value) (o : Nat) (w : World), (wset w B o vs).os = w.os ∧ (wset w B o vs).tape = w.tape ∧ (wset w B o vs).output = w.output
  | [], _, _ => ⟨rfl, rfl, rfl⟩
  | x :: xs, o, w => wset_os xs (o + 1) (w.setCell ⟨B, o, none⟩ x)
theorem storeCells_run {P : Program} {B o : Nat} : ∀ (vs : List Value) (l : List Value) (i : Nat) (w : World), Arr B l w → vs.all cellOk = true → o + i + vs.length ≤ l.length →
    (storeCells ⟨B, o, none⟩ vs i).run P w = .ok () (wset w B (o + i) vs)
  | [], _, i, w, _, _, _ => rfl
  | x :: xs, l, i, w, A, hx, h => by
    have h : o + i + (xs.length + 1) ≤ l.length := h
    simp only [List.all_cons, Bool.and_eq_true] at hx
    have hc := A.c (o + i) (by omega)
    have hf := A.f (o + i) (by omega)
    have ih := storeCells_run (P := P) (o := o) xs (l.set (o + i) x) (i + 1) (w.setCell ⟨B, o + i, none⟩ x) (A.put (o + i) (by omega) x _ rfl) hx.2 (by rw [List.length_set]; omega)
    have hs : (store ((⟨B, o, none⟩ : Addr).add i) x).run P w = .ok () (w.setCell ⟨B, o + i, none⟩ x) := by
      rw [add_is]
      have hx1 := hx.1
      unfold store
      cases x <;> first | (simp [cellOk] at hx1; done) | simp [Sem.run, hc, hf]
    simp only [storeCells, Sem.run_bind, hs, Result.andThen_ok]
    rw [ih]
    rfl
def storeV (P : Program) (t : TypeId) (l : List Value) (off : Nat) (v : Value) : Option (List Value) :=
  match qrun P (sizeOf t) with
  | some n => if v.cells.size == n && decide (off + v.cells.toList.length ≤ l.length) && v.cells.toList.all cellOk then some (setAt l off v.cells.toList) else none
  | none => none
theorem storeV_run {P : Program} {t : TypeId} {l l' : List Value} {off : Nat} {v : Value} {B : Nat} {w : World} (h : storeV P t l off v = some l') (A : Arr B l w) :
    (storeVar t ⟨B, off, none⟩ v).run P w = .ok () (wset w B off v.cells.toList) ∧ l' = setAt l off v.cells.toList ∧ off + v.cells.toList.length ≤ l.length := by
  unfold storeV at h
  cases h1 : qrun P (sizeOf t) with
  | none => rw [h1] at h; cases h
  | some n =>
    rw [h1] at h
    dsimp only at h
    split at h
    · rename_i hc
      simp only [Bool.and_eq_true, beq_iff_eq, decide_eq_true_eq] at hc
      have r1 := qrun_run _ h1 w
      have r2 := storeCells_run (P := P) (o := off) v.cells.toList l 0 w A hc.2 hc.1.2
      refine ⟨?_, (Option.some.inj h).symm, hc.1.2⟩
      unfold storeVar
      simp only [Sem.run_bind, r1, Result.andThen_ok]
      rw [if_neg (by rw [hc.1.1]; simp)]
      simpa using r2
    · cases h
theorem RW.store {bs : List Nat} {w0 : World} {bl : Bl} {m : Xm} {w : World} (h : RW bs w0 bl m w) {k B : Nat} {l : List Value} (hk : bl[k]? = some (some B)) (hm : m[k]? = some l) (o : Nat) (vs : List Value) (ho : o + vs.length ≤ l.length) :
    RW bs w0 bl (m.set k (setAt l o vs)) (wset w B o vs) := by
  have hA : Arr B l w := by
    obtain ⟨l2, e, A⟩ := h.arr k B hk
    rw [hm] at e
    cases e
    exact A
  have hkl : k < m.length := (List.getElem?_eq_some_iff.1 hm).1
  have hos := wset_os (B := B) vs o w
  have hvs : l = [] → vs = [] := fun e => by
    subst e
    have ho : o + vs.length ≤ 0 := ho
    exact List.length_eq_zero_iff.1 (by omega)
  refine ⟨fun k' B' hk' => ?_, h.inj, fun k' B' hk' => (h.own k' B' hk').imp id (Or.imp id fun e => none_set e (fun e2 => ?_)), hos.1.trans h.os, hos.2.1.trans h.tape, hos.2.2.trans h.output, by rw [wset_size]; exact h.size, fun i hi hb => ?_, h.gw⟩
  · by_cases e : k = k'
    · subst e
      rw [hk] at hk'
      cases hk'
      exact ⟨_, List.getElem?_set_self hkl, wset_arr vs l o w hA ho⟩
    · obtain ⟨l2, e2, A2⟩ := h.arr k' B' hk'
      have hB : B' ≠ B := fun e3 => e (h.inj k k' B hk (e3 ▸ hk'))
      exact ⟨l2, by rw [List.getElem?_set_ne e]; exact e2, A2.same (wset_block hB vs o w) (by rw [wset_size]; exact Nat.le_refl _)⟩
  · subst e2
    rw [hm] at e
    cases e
    rw [hvs rfl]
    rfl
  · by_cases hv : vs = []
    · subst hv
      exact h.block i hi hb
    have hB : i ≠ B := by
      rintro rfl
      rcases h.own k i hk with hb' | hb' | hb'
      · exact hb hb'
      · omega
      · rw [hm] at hb'
        exact hv (hvs (Option.some.inj hb'))
    rw [wset_block hB]
    exact h.block i hi hb
/-- A block is made. -/
theorem RW.new {bs : List Nat} {w0 : World} {bl : Bl} {m : Xm} {w : World} (h : RW bs w0 bl m w) {k : Nat} (hk : bl[k]? = some none) (hm : k < m.length) (l : List Value) (t : TypeId) :
    RW bs w0 (bl.set k (some w.heap.size)) (m.set k l) (w.alloc (.cells l.toArray t)) ∧ Le bl (bl.set k (some w.heap.size)) := by
  have hkl : k < bl.length := (List.getElem?_eq_some_iff.1 hk).1
  have hB : Below w.heap.size w (w.alloc (.cells l.toArray t)) := (Below.refl _ _).alloc (Nat.le_refl _) _
  have get : ∀ (i B : Nat), (bl.set k (some w.heap.size))[i]? = some (some B) → (i = k ∧ B = w.heap.size) ∨ (i ≠ k ∧ bl[i]? = some (some B) ∧ B < w.heap.size) := by
    intro i B hi
    by_cases e : k = i
    · subst e
      rw [List.getElem?_set_self hkl] at hi
      exact .inl ⟨rfl, (Option.some.inj (Option.some.inj hi)).symm⟩
    · rw [List.getElem?_set_ne e] at hi
      obtain ⟨_, _, A⟩ := h.arr i B hi
      exact .inr ⟨fun x => e x.symm, hi, A.lies⟩
  refine ⟨⟨fun i B hi => ?_, fun i j B hi hj => ?_, fun i B hi => ?_, h.os, h.tape, h.output, ?_, fun i hi hb => ?_, h.gw⟩, fun i B hi => ?_⟩
  · rcases get i B hi with ⟨rfl, rfl⟩ | ⟨hne, hi', _⟩
    · exact ⟨l, List.getElem?_set_self hm, Arr_at w w.heap.size l t rfl⟩
    · obtain ⟨l2, e2, A2⟩ := h.arr i B hi'
      exact ⟨l2, by rw [List.getElem?_set_ne (fun x => hne x.symm)]; exact e2, A2.below hB⟩
  · rcases get i B hi with ⟨rfl, rfl⟩ | ⟨hne, hi', hlt⟩ <;> rcases get j _ hj with ⟨rfl, e⟩ | ⟨hne', hj', hlt'⟩
    · rfl
    · omega
    · omega
    · exact h.inj i j B hi' hj'
  · rcases get i B hi with ⟨rfl, rfl⟩ | ⟨hne, hi', _⟩
    · exact .inr (.inl h.size)
    · exact (h.own i B hi').imp id (Or.imp id fun e => none_set e (fun e2 => absurd e2.symm hne))
  · have := h.size
    have := hB.size
    omega
  · rw [hB.block i (by have := h.size; omega)]
    exact h.block i hi hb
  · have e : k ≠ i := by
      rintro rfl
      rw [hk] at hi
      cases hi
    rw [List.getElem?_set_ne e]
    exact hi
/-! ### Addresses -/
def fieldV (P : Program) (s : TypeId) (f : Nat) : Option Nat :=
  match P.underlying s with
  | some (.struct fields) =>
    match fields[f]? with
    | some fd =>
      match qrun P (sizeOf fd.type) with
      | some (_ + 1) => some fd.offset
      | _ => none
    | none => none
  | _ => none
theorem run_under {P : Program} {t : TypeId} {d : TypeDesc} (h : P.underlying t = some d) (w : World) : (underlying t).run P w = .ok d w := by
  simp [underlying, program, Sem.run, h]
theorem fieldV_run {P : Program} {s : TypeId} {f d : Nat} (h : fieldV P s f = some d) (B o : Nat) (w : World) : (Instr.fieldAt s (.pointer (some ⟨B, o, none⟩)) f).run P w = .ok (.pointer (some ⟨B, o + d, none⟩)) w := by
  unfold fieldV at h
  split at h
  · rename_i fields hu
    split at h
    · rename_i fd hf
      split at h
      · rename_i n hz
        have r1 := qrun_run _ hz w
        have r0 := run_under hu w
        cases h
        unfold Instr.fieldAt
        simp only [Sem.run_bind, r0, Result.andThen_ok, hf, Instr.sureAddr, fieldPlace]
        simp [add_is, r1]
      · cases h
    · cases h
  · cases h
def indexV (P : Program) (t : TypeId) (ix : Value) : Option Nat :=
  match P.underlying t, ix with
  | some (.array len elem), .int _ i =>
    if 0 ≤ i ∧ i < len then
      match qrun P (sizeOf elem) with
      | some n => some (i.toNat * n)
      | none => none
    else none
  | _, _ => none
theorem indexV_run {P : Program} {t : TypeId} {ix : Value} {d : Nat} (h : indexV P t ix = some d) (B o : Nat) (w : World) : (Instr.indexAt t (.pointer (some ⟨B, o, none⟩)) ix).run P w = .ok (.pointer (some ⟨B, o + d, none⟩)) w := by
  unfold indexV at h
  split at h
  · rename_i len elem k i hu
    split at h
    · rename_i hi
      split at h
      · rename_i n hz
        have r1 := qrun_run _ hz w
        have r0 := run_under hu w
        cases h
        unfold Instr.indexAt
        simp only [Sem.run_bind, asIntOf, r0, Result.andThen_ok, Instr.sureAddr, Sem.run_pure]
        rw [if_pos hi]
        simp [r1, add_is]
      · cases h
    · cases h
  · cases h
/-- The same of a slice. -/
def sliceV (P : Program) (t : TypeId) (ix : Value) (len : Nat) : Option Nat :=
  match P.underlying t, ix with
  | some (.slice elem), .int _ i =>
    if 0 ≤ i ∧ i < (len : Int) then
      match qrun P (sizeOf elem) with
      | some n => some (i.toNat * n)
      | none => none
    else none
  | _, _ => none
theorem sliceV_run {P : Program} {t : TypeId} {ix : Value} {d len : Nat} (h : sliceV P t ix len = some d) (B o c : Nat) (w : World) : (Instr.indexAt t (.slice (some ⟨B, o, none⟩) len c) ix).run P w = .ok (.pointer (some ⟨B, o + d, none⟩)) w := by
  unfold sliceV at h
  split at h
  · rename_i elem k i hu
    split at h
    · rename_i hi
      split at h
      · rename_i n hz
        have r1 := qrun_run _ hz w
        have r0 := run_under hu w
        cases h
        unfold Instr.indexAt
        simp only [Sem.run_bind, asIntOf, r0, Result.andThen_ok, Sem.run_pure]
        rw [if_pos hi]
        simp [r1, add_is]
      · cases h
    · cases h
  · cases h
end Go.Proofs.YtoadcnhcfodkgaaGreatDoor
