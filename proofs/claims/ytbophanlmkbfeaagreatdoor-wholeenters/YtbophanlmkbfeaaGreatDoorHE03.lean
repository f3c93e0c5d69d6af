/-
A part.
A part.
A part.
-/
import Derived.Orders
import Derived.LoopN
import Derived.Laws.StructEq
import Derived.ChangeKeysEq
import Derived.Test.YtbophanlmkbfeaaGreatDoorHE02
namespace Go.Proofs.YtbophanlmkbfeaaGreatDoor
open Go.RowKit
abbrev Bl := List (Option Nat)
abbrev Xm := List (List Value)
def isP : Value → Bool
 | .pointer (some _) => true
 | .nilIface => true
 | .slice (some _) _ _ => true
 | _ => false
def asB : Value → Option Bool
 | .bool b => some b
 | _ => none
def RV (bl : Bl) (v v' : Value) : Prop :=
 match v with
 | .pointer (some a) => ∃ B, bl[a.block]? = some (some B) ∧ v' = .pointer (some { a with block := B })
 | .nilIface => asB v' = none
 | .slice (some a) n c => ∃ B, bl[a.block]? = some (some B) ∧ v' = .slice (some { a with block := B }) n c
 | v => v' = v
theorem RV.plain {bl : Bl} {v v' : Value} (h : RV bl v v') (hp : isP v = false) : v' = v := by
 match v, h, hp with
 | .pointer none, h, _ => exact h
 | .bool _, h, _ => exact h
 | .int _ _, h, _ => exact h
 | .float _ _, h, _ => exact h
 | .complex _ _ _, h, _ => exact h
 | .string _, h, _ => exact h
 | .slice none _ _, h, _ => exact h
 | .map _, h, _ => exact h
 | .chan _, h, _ => exact h
 | .func _ _ _, h, _ => exact h
 | .nilFunc, h, _ => exact h
 | .iface _ _, h, _ => exact h
 | .agg _, h, _ => exact h
 | .tuple _, h, _ => exact h
theorem RV.same {bl : Bl} {v : Value} (hp : isP v = false) : RV bl v v := by
 match v, hp with
 | .pointer none, _ => rfl
 | .bool _, _ => rfl
 | .int _ _, _ => rfl
 | .float _ _, _ => rfl
 | .complex _ _ _, _ => rfl
 | .string _, _ => rfl
 | .slice none _ _, _ => rfl
 | .map _, _ => rfl
 | .chan _, _ => rfl
 | .func _ _ _, _ => rfl
 | .nilFunc, _ => rfl
 | .iface _ _, _ => rfl
 | .agg _, _ => rfl
 | .tuple _, _ => rfl
def Le (bl bl' : Bl) : Prop := ∀ (k B : Nat), bl[k]? = some (some B) → bl'[k]? = some (some B)
theorem Le.refl (bl : Bl) : Le bl bl := fun _ _ h => h
theorem Le.trans {a b c : Bl} (h : Le a b) (k : Le b c) : Le a c := fun i B e => k i B (h i B e)
theorem RV.mono {bl bl' : Bl} {v v' : Value} (h : RV bl v v') (hl : Le bl bl') : RV bl' v v' := by
 cases hp : isP v
 ·rw [h.plain hp]; exact .same hp
 ·match v, h, hp with
  | .pointer (some a), ⟨B, h1, h2⟩, _ => exact ⟨B, hl _ _ h1, h2⟩
  | .nilIface, h, _ => exact h
  | .slice (some a) _ _, ⟨B, h1, h2⟩, _ => exact ⟨B, hl _ _ h1, h2⟩
structure FR (bl : Bl) (vt : List Value) (tm : Array Value) : Prop where
 len : tm.size = vt.length
 rv : ∀ t, RV bl (vt.getD t undef) (tm.getD t undef)
theorem FR.mono {bl bl' : Bl} {vt : List Value} {tm : Array Value} (h : FR bl vt tm) (hl : Le bl bl') : FR bl' vt tm := ⟨h.len, fun t => (h.rv t).mono hl⟩
def VE (vt : List Value) : Operand → Value
 | .tmp t => vt.getD t undef
 | .const v => v
 | .global _ => undef
 | .func f => .func (.func f) #[] #[]
def okX : Operand → Bool
 | .const v => !isP v
 | .global _ => false
 | _ => true
theorem FR.eval {bl : Bl} {vt : List Value} {a : Act} (h : FR bl vt a.tmps) {x : Operand} (hx : okX x = true) : RV bl (VE vt x) (a.eval x) := by
 match x, hx with
 | .tmp t, _ => exact h.rv t
 | .const v, hx =>
  simp only [okX, Bool.not_eq_true'] at hx
  exact .same hx
 | .global g, hx => cases hx
 | .func f, _ => rfl
def vput (vt : List Value) (dst : Option Tmp) (v : Value) : List Value :=
 match dst with
 | some d => vt.set d v
 | none => vt
theorem FR.set {bl : Bl} {vt : List Value} {tm : Array Value} (h : FR bl vt tm) {v v' : Value} (hv : RV bl v v') (d : Nat) : FR bl (vt.set d v) (tm.setIfInBounds d v') := by
 refine ⟨by simp [h.len], fun t => ?_⟩
 have hl := h.len
 by_cases e : d = t
 ·subst e
  by_cases hd : d < vt.length
  ·simp only [List.getD_eq_getElem?_getD, Array.getD_eq_getD_getElem?]
   rw [List.getElem?_set_self hd, Array.getElem?_setIfInBounds_self_of_lt (by omega)]
   exact hv
  ·simp only [List.getD_eq_getElem?_getD, Array.getD_eq_getD_getElem?]
   rw [List.getElem?_eq_none (by rw [List.length_set]; omega), Array.getElem?_eq_none (by rw [Array.size_setIfInBounds]; omega)]
   rfl
 ·have h1 := h.rv t
  simp only [List.getD_eq_getElem?_getD, Array.getD_eq_getD_getElem?] at h1 ⊢
  rw [List.getElem?_set_ne e, Array.getElem?_setIfInBounds_ne e]
  exact h1
theorem FR.put {bl : Bl} {vt : List Value} {a : Act} (h : FR bl vt a.tmps) {v v' : Value} (hv : RV bl v v') (dst : Option Tmp) : FR bl (vput vt dst v) (a.put dst v').tmps := by
 cases dst with
 | none => exact h
 | some d => exact h.set hv d
def GW (w : World) : Prop := Arr 0 (row 54 at0) w ∧ Arr 1 (row 10 yr0) w
theorem GW.same {w w' : World} (h : GW w) (h0 : w'.heap[0]? = w.heap[0]?) (h1 : w'.heap[1]? = w.heap[1]?) (hs : w.heap.size ≤ w'.heap.size) : GW w' := ⟨h.1.same h0 hs, h.2.same h1 hs⟩
theorem GW.kept {w w' : World} (h : GW w) {b : Nat} (hb : 1 < b) (k : Kept b w w') : GW w' := h.same (k.block 0 h.1.lies (by omega)) (k.block 1 h.2.lies (by omega)) k.size
theorem GW.below {w w' : World} (h : GW w) (k : Below w.heap.size w w') : GW w' := h.same (k.block 0 h.1.lies) (k.block 1 h.2.lies) k.size
structure RW (bs : List Nat) (w0 : World) (bl : Bl) (m : Xm) (w : World) : Prop where
 arr : ∀ (k B : Nat), bl[k]? = some (some B) → ∃ l, m[k]? = some l ∧ Arr B l w
 inj : ∀ (i j B : Nat), bl[i]? = some (some B) → bl[j]? = some (some B) → i = j
 own : ∀ (k B : Nat), bl[k]? = some (some B) → B ∈ bs ∨ w0.heap.size ≤ B ∨ m[k]? = some []
 os : w.os = w0.os
 tape : w.tape = w0.tape
 output : w.output = w0.output
 size : w0.heap.size ≤ w.heap.size
 block : ∀ i : Nat, i < w0.heap.size → i ∉ bs → w.heap[i]? = w0.heap[i]?
 gw : GW w0 ∧ ∀ b ∈ bs, 1 < b
theorem RW.gt {bs : List Nat} {w0 : World} {bl : Bl} {m : Xm} {w : World} (h : RW bs w0 bl m w) {k B : Nat} (hk : bl[k]? = some (some B)) {l : List Value} (hm : m[k]? = some l) (hl : l ≠ []) : 1 < B := by
 rcases h.own k B hk with h1 | h1 | h1
 ·exact h.gw.2 B h1
 ·have := h.gw.1.2.lies
  omega
 ·rw [hm] at h1
  exact absurd (Option.some.inj h1) hl
theorem none_set {m : Xm} {k k' : Nat} {l : List Value} (h : m[k']? = some []) (hl : k = k' → l = []) : (m.set k l)[k']? = some [] := by
 by_cases e : k = k'
 ·subst e
  rw [List.getElem?_set_self (List.getElem?_eq_some_iff.1 h).1, hl rfl]
 ·rw [List.getElem?_set_ne e]
  exact h
theorem RW.gwAt {bs : List Nat} {w0 : World} {bl : Bl} {m : Xm} {w : World} (h : RW bs w0 bl m w) : GW w :=
 h.gw.1.same (h.block 0 h.gw.1.1.lies (fun e => by have := h.gw.2 0 e; omega)) (h.block 1 h.gw.1.2.lies (fun e => by have := h.gw.2 1 e; omega)) h.size
theorem RW.drew {bs : List Nat} {w0 : World} {bl : Bl} {m : Xm} {w : World} (h : RW bs w0 bl m w) : RW bs w0 bl m { w with drawn := w.drawn + 1 } :=
 ⟨fun k B hk => let ⟨l, h1, h2⟩ := h.arr k B hk; ⟨l, h1, h2.drew⟩, h.inj, h.own, h.os, h.tape, h.output, h.size, h.block, h.gw⟩
def qrun (P : Program) {α : Type} : Sem α → Option α
 | .pure a => some a
 | .program k => qrun P (k P)
 | .mark _ k => qrun P k
 | _ => none
theorem qrun_run {P : Program} {α : Type} {a : α} (s : Sem α) (h : qrun P s = some a) (w : World) : s.run P w = .ok a w := by
 induction s with
 | pure x => simp only [qrun, Option.some.injEq] at h; rw [h]; rfl
 | program k ih => exact ih P h
 | mark m k ih => exact ih h
 | _ => cases h
theorem add_is (B o n : Nat) : ((⟨B, o, none⟩ : Addr).add n) = ⟨B, o + n, none⟩ := by
 unfold Addr.add
 split
 ·rename_i h; subst h; rfl
 ·rfl
theorem loadCells_run {P : Program} {B : Nat} {l : List Value} {w : World} (A : Arr B l w) (o : Nat) : ∀ (n i : Nat) (acc : Array Value), o + i + n ≤ l.length →
    (loadCellsFrom ⟨B, o, none⟩ i n acc).run P w = .ok (acc ++ ((l.drop (o + i)).take n).toArray) w
 | 0, i, acc, _ => by simp [loadCellsFrom]
 | n + 1, i, acc, h => by
  have hc := A.c (o + i) (by omega)
  have hd : l.drop (o + i) = l[o + i]'(by omega) :: l.drop (o + i + 1) := List.drop_eq_getElem_cons (by omega)
  simp only [loadCellsFrom, Sem.run_bind, load, Sem.run, add_is, hc, Result.andThen_ok]
  rw [loadCells_run A o n (i + 1) _ (by omega), hd, List.take_succ_cons]
  simp [Nat.add_assoc]
def loadV (P : Program) (t : TypeId) (l : List Value) (off : Nat) : Option Value :=
 match qrun P (isAgg t) with
 | some true =>
  match qrun P (sizeOf t) with
  | some n => if off + n ≤ l.length then some (.agg ((l.drop off).take n).toArray) else none
  | none => none
 | some false => l[off]?
 | none => none
theorem loadV_run {P : Program} {t : TypeId} {l : List Value} {off : Nat} {v : Value} {B : Nat} {w : World} (h : loadV P t l off = some v) (A : Arr B l w) : (loadVar t ⟨B, off, none⟩).run P w = .ok v w := by
 unfold loadV at h
 unfold loadVar
 cases h1 : qrun P (isAgg t) with
 | none => rw [h1] at h; cases h
 | some b =>
  rw [h1] at h
  have r1 := qrun_run _ h1 w
  cases b with
  | true =>
   cases h2 : qrun P (sizeOf t) with
   | none => rw [h2] at h; cases h
   | some n =>
    rw [h2] at h
    have r2 := qrun_run _ h2 w
    dsimp only at h
    split at h
    ·rename_i hl
     have r3 := loadCells_run (P := P) A off n 0 #[] hl
     simp only [Sem.run_bind, r1, Result.andThen_ok, if_true, r2, loadCells, r3]
     rw [← Option.some.inj h]
     simp
    ·cases h
  | false =>
   simp only [Sem.run_bind, r1, Result.andThen_ok]
   dsimp only at h
   obtain ⟨hl, rfl⟩ := List.getElem?_eq_some_iff.1 h
   simp [load, Sem.run, A.c off hl]
end Go.Proofs.YtbophanlmkbfeaaGreatDoor
namespace Go.Proofs.YtbophanlmkbfeaaGreatDoor
open Go.RowKit
def cellOk : Value → Bool
 | .agg _ => false
 | .tuple _ => false
 | .pointer (some _) => false
 | _ => true
def setAt : List Value → Nat → List Value → List Value
 | l, _, [] => l
 | l, o, x :: xs => setAt (l.set o x) (o + 1) xs
def wset : World → Nat → Nat → List Value → World
 | w, _, _, [] => w
 | w, B, o, x :: xs => wset (w.setCell ⟨B, o, none⟩ x) B (o + 1) xs
theorem wset_arr {B : Nat} : ∀ (vs : List Value) (l : List Value) (o : Nat) (w : World), Arr B l w → o + vs.length ≤ l.length → Arr B (setAt l o vs) (wset w B o vs)
 | [], _, _, _, A, _ => A
 | x :: xs, l, o, w, A, h => by
  have h : o + (xs.length + 1) ≤ l.length := h
  exact wset_arr xs (l.set o x) (o + 1) _ (A.put o (by omega) x _ rfl) (by rw [List.length_set]; omega)
theorem wset_block {B i : Nat} (hi : i ≠ B) : ∀ (vs : List Value) (o : Nat) (w : World), (wset w B o vs).heap[i]? = w.heap[i]?
 | [], _, _ => rfl
 | _ :: xs, o, _ => (wset_block hi xs (o + 1) _).trans (Below.heap_setCell _ _ _ _ hi)
theorem wset_size {B : Nat} : ∀ (vs : List Value) (o : Nat) (w : World), (wset w B o vs).heap.size = w.heap.size
 | [], _, _ => rfl
 | _ :: xs, o, _ => (wset_size xs (o + 1) _).trans (World.size_setCell _ _ _)
theorem wset_os {B : Nat} : ∀ (vs : List Value) (o : Nat) (w : World), (wset w B o vs).os = w.os ∧ (wset w B o vs).tape = w.tape ∧ (wset w B o vs).output = w.output
 | [], _, _ => ⟨rfl, rfl, rfl⟩
 | x :: xs, o, w => wset_os xs (o + 1) (w.setCell ⟨B, o, none⟩ x)
theorem storeCells_run {P : Program} {B o : Nat} : ∀ (vs : List Value) (l : List Value) (i : Nat) (w : World), Arr B l w → vs.all cellOk = true → o + i + vs.length ≤ l.length →
    (storeCells ⟨B, o, none⟩ vs i).run P w = .ok () (wset w B (o + i) vs)
 | [], _, i, w, _, _, _ => rfl
 | x :: xs, l, i, w, A, hx, h => by
  have h : o + i + (xs.length + 1) ≤ l.length := h
  simp only [List.all_cons, Bool.and_eq_true] at hx
  have hc := A.c (o + i) (by omega)
  have hf := A.f (o + i) (by omega)
  have ih := storeCells_run (P := P) (o := o) xs (l.set (o + i) x) (i + 1) (w.setCell ⟨B, o + i, none⟩ x) (A.put (o + i) (by omega) x _ rfl) hx.2 (by rw [List.length_set]; omega)
  have hs : (store ((⟨B, o, none⟩ : Addr).add i) x).run P w = .ok () (w.setCell ⟨B, o + i, none⟩ x) := by
   rw [add_is]
   have hx1 := hx.1
   unfold store
   cases x <;> first | (simp [cellOk] at hx1; done) | simp [Sem.run, hc, hf]
  simp only [storeCells, Sem.run_bind, hs, Result.andThen_ok]
  rw [ih]
  rfl
def storeV (P : Program) (t : TypeId) (l : List Value) (off : Nat) (v : Value) : Option (List Value) :=
 match qrun P (sizeOf t) with
 | some n => if v.cells.size == n && decide (off + v.cells.toList.length ≤ l.length) && v.cells.toList.all cellOk then some (setAt l off v.cells.toList) else none
 | none => none
theorem storeV_run {P : Program} {t : TypeId} {l l' : List Value} {off : Nat} {v : Value} {B : Nat} {w : World} (h : storeV P t l off v = some l') (A : Arr B l w) :
    (storeVar t ⟨B, off, none⟩ v).run P w = .ok () (wset w B off v.cells.toList) ∧ l' = setAt l off v.cells.toList ∧ off + v.cells.toList.length ≤ l.length := by
 unfold storeV at h
 cases h1 : qrun P (sizeOf t) with
 | none => rw [h1] at h; cases h
 | some n =>
  rw [h1] at h
  dsimp only at h
  split at h
  ·rename_i hc
   simp only [Bool.and_eq_true, beq_iff_eq, decide_eq_true_eq] at hc
   have r1 := qrun_run _ h1 w
   have r2 := storeCells_run (P := P) (o := off) v.cells.toList l 0 w A hc.2 hc.1.2
   refine ⟨?_, (Option.some.inj h).symm, hc.1.2⟩
   unfold storeVar
   simp only [Sem.run_bind, r1, Result.andThen_ok]
   rw [if_neg (by rw [hc.1.1]; simp)]
   simpa using r2
  ·cases h
theorem RW.store {bs : List Nat} {w0 : World} {bl : Bl} {m : Xm} {w : World} (h : RW bs w0 bl m w) {k B : Nat} {l : List Value} (hk : bl[k]? = some (some B)) (hm : m[k]? = some l) (o : Nat) (vs : List Value) (ho : o + vs.length ≤ l.length) :
    RW bs w0 bl (m.set k (setAt l o vs)) (wset w B o vs) := by
 have hA : Arr B l w := by
  obtain ⟨l2, e, A⟩ := h.arr k B hk
  rw [hm] at e
  cases e
  exact A
 have hkl : k < m.length := (List.getElem?_eq_some_iff.1 hm).1
 have hos := wset_os (B := B) vs o w
 have hvs : l = [] → vs = [] := fun e => by
  subst e
  have ho : o + vs.length ≤ 0 := ho
  exact List.length_eq_zero_iff.1 (by omega)
 refine ⟨fun k' B' hk' => ?_, h.inj, fun k' B' hk' => (h.own k' B' hk').imp id (Or.imp id fun e => none_set e (fun e2 => ?_)), hos.1.trans h.os, hos.2.1.trans h.tape, hos.2.2.trans h.output, by rw [wset_size]; exact h.size, fun i hi hb => ?_, h.gw⟩
 ·by_cases e : k = k'
  ·subst e
   rw [hk] at hk'
   cases hk'
   exact ⟨_, List.getElem?_set_self hkl, wset_arr vs l o w hA ho⟩
  ·obtain ⟨l2, e2, A2⟩ := h.arr k' B' hk'
   have hB : B' ≠ B := fun e3 => e (h.inj k k' B hk (e3 ▸ hk'))
   exact ⟨l2, by rw [List.getElem?_set_ne e]; exact e2, A2.same (wset_block hB vs o w) (by rw [wset_size]; exact Nat.le_refl _)⟩
 ·subst e2
  rw [hm] at e
  cases e
  rw [hvs rfl]
  rfl
 ·by_cases hv : vs = []
  ·subst hv
   exact h.block i hi hb
  have hB : i ≠ B := by
   rintro rfl
   rcases h.own k i hk with hb' | hb' | hb'
   ·exact hb hb'
   ·omega
   ·rw [hm] at hb'
    exact hv (hvs (Option.some.inj hb'))
  rw [wset_block hB]
  exact h.block i hi hb
theorem RW.new {bs : List Nat} {w0 : World} {bl : Bl} {m : Xm} {w : World} (h : RW bs w0 bl m w) {k : Nat} (hk : bl[k]? = some none) (hm : k < m.length) (l : List Value) (t : TypeId) :
    RW bs w0 (bl.set k (some w.heap.size)) (m.set k l) (w.alloc (.cells l.toArray t)) ∧ Le bl (bl.set k (some w.heap.size)) := by
 have hkl : k < bl.length := (List.getElem?_eq_some_iff.1 hk).1
 have hB : Below w.heap.size w (w.alloc (.cells l.toArray t)) := (Below.refl _ _).alloc (Nat.le_refl _) _
 have get : ∀ (i B : Nat), (bl.set k (some w.heap.size))[i]? = some (some B) → (i = k ∧ B = w.heap.size) ∨ (i ≠ k ∧ bl[i]? = some (some B) ∧ B < w.heap.size) := by
  intro i B hi
  by_cases e : k = i
  ·subst e
   rw [List.getElem?_set_self hkl] at hi
   exact .inl ⟨rfl, (Option.some.inj (Option.some.inj hi)).symm⟩
  ·rw [List.getElem?_set_ne e] at hi
   obtain ⟨_, _, A⟩ := h.arr i B hi
   exact .inr ⟨fun x => e x.symm, hi, A.lies⟩
 refine ⟨⟨fun i B hi => ?_, fun i j B hi hj => ?_, fun i B hi => ?_, h.os, h.tape, h.output, ?_, fun i hi hb => ?_, h.gw⟩, fun i B hi => ?_⟩
 ·rcases get i B hi with ⟨rfl, rfl⟩ | ⟨hne, hi', _⟩
  ·exact ⟨l, List.getElem?_set_self hm, Arr_at w w.heap.size l t rfl⟩
  ·obtain ⟨l2, e2, A2⟩ := h.arr i B hi'
   exact ⟨l2, by rw [List.getElem?_set_ne (fun x => hne x.symm)]; exact e2, A2.below hB⟩
 ·rcases get i B hi with ⟨rfl, rfl⟩ | ⟨hne, hi', hlt⟩ <;> rcases get j _ hj with ⟨rfl, e⟩ | ⟨hne', hj', hlt'⟩
  ·rfl
  ·omega
  ·omega
  ·exact h.inj i j B hi' hj'
 ·rcases get i B hi with ⟨rfl, rfl⟩ | ⟨hne, hi', _⟩
  ·exact .inr (.inl h.size)
  ·exact (h.own i B hi').imp id (Or.imp id fun e => none_set e (fun e2 => absurd e2.symm hne))
 ·have := h.size
  have := hB.size
  omega
 ·rw [hB.block i (by have := h.size; omega)]
  exact h.block i hi hb
 ·have e : k ≠ i := by
   rintro rfl
   rw [hk] at hi
   cases hi
  rw [List.getElem?_set_ne e]
  exact hi
def fieldV (P : Program) (s : TypeId) (f : Nat) : Option Nat :=
 match P.underlying s with
 | some (.struct fields) =>
  match fields[f]? with
  | some fd =>
   match qrun P (sizeOf fd.type) with
   | some (_ + 1) => some fd.offset
   | _ => none
  | none => none
 | _ => none
theorem run_under {P : Program} {t : TypeId} {d : TypeDesc} (h : P.underlying t = some d) (w : World) : (underlying t).run P w = .ok d w := by
 simp [underlying, program, Sem.run, h]
theorem fieldV_run {P : Program} {s : TypeId} {f d : Nat} (h : fieldV P s f = some d) (B o : Nat) (w : World) : (Instr.fieldAt s (.pointer (some ⟨B, o, none⟩)) f).run P w = .ok (.pointer (some ⟨B, o + d, none⟩)) w := by
 unfold fieldV at h
 split at h
 ·rename_i fields hu
  split at h
  ·rename_i fd hf
   split at h
   ·rename_i n hz
    have r1 := qrun_run _ hz w
    have r0 := run_under hu w
    cases h
    unfold Instr.fieldAt
    simp only [Sem.run_bind, r0, Result.andThen_ok, hf, Instr.sureAddr, fieldPlace]
    simp [add_is, r1]
   ·cases h
  ·cases h
 ·cases h
def indexV (P : Program) (t : TypeId) (ix : Value) : Option Nat :=
 match P.underlying t, ix with
 | some (.array len elem), .int _ i =>
  if 0 ≤ i ∧ i < len then
   match qrun P (sizeOf elem) with
   | some n => some (i.toNat * n)
   | none => none
  else none
 | _, _ => none
theorem indexV_run {P : Program} {t : TypeId} {ix : Value} {d : Nat} (h : indexV P t ix = some d) (B o : Nat) (w : World) : (Instr.indexAt t (.pointer (some ⟨B, o, none⟩)) ix).run P w = .ok (.pointer (some ⟨B, o + d, none⟩)) w := by
 unfold indexV at h
 split at h
 ·rename_i len elem k i hu
  split at h
  ·rename_i hi
   split at h
   ·rename_i n hz
    have r1 := qrun_run _ hz w
    have r0 := run_under hu w
    cases h
    unfold Instr.indexAt
    simp only [Sem.run_bind, asIntOf, r0, Result.andThen_ok, Instr.sureAddr, Sem.run_pure]
    rw [if_pos hi]
    simp [r1, add_is]
   ·cases h
  ·cases h
 ·cases h
end Go.Proofs.YtbophanlmkbfeaaGreatDoor
namespace Go.Proofs.YtbophanlmkbfeaaGreatDoor
open Go.RowKit
def pureV (P : Program) (o : Oper) (ρ : Operand → Value) : Option Value :=
 if o.op.operands.all (fun x => !isP (ρ x)) then
  match qrun P (execOp ρ o) with
  | some (.value v) => if isP v then none else some v
  | _ => none
 else none
theorem pureV_run {P : Program} {o : Oper} {vt : List Value} {v : Value} {bl : Bl} {a : Act} (h : pureV P o (VE vt) = some v) (hok : o.op.operands.all okX = true) (hs : ∀ cs b, o.op ≠ .select cs b) (F : FR bl vt a.tmps) (w : World) :
    ∃ v', RV bl v v' ∧ (execOp a.eval o).run P w = .ok (.value v') w := by
 unfold pureV at h
 split at h
 ·rename_i hp
  have agree : ∀ x ∈ o.op.operands, VE vt x = a.eval x := fun x hx => by
   have h1 := Array.all_eq_true_iff_forall_mem.1 hok x hx
   have h2 := Array.all_eq_true_iff_forall_mem.1 hp x hx
   exact ((F.eval h1).plain (by simpa using h2)).symm
  rw [execOp_congr o hs agree] at h
  split at h
  ·rename_i u hq
   split at h
   ·cases h
   ·rename_i hu
    cases h
    exact ⟨v, .same (by simpa using hu), qrun_run _ hq w⟩
  ·cases h
 ·cases h
def pickV (c a b : Value) : Option Value :=
 match c with
 | .bool x =>
  match a, b with
  | .bool p, .bool q => some (.bool (cond x p q))
  | a, b => match x with
   | true => some a
   | false => some b
 | _ => none
def nilV (P : Program) (op : BinOp) (t : TypeId) (a b : Value) : Option Value :=
 match a, b with
 | .pointer (some _), .pointer none =>
  (match P.underlying t, op with
  | some (.pointer _), .eql => some (.bool false)
  | some (.pointer _), .neq => some (.bool true)
  | _, _ => none)
 | _, _ => none
theorem eqnil_run {P : Program} {t e : TypeId} (hu : P.underlying t = some (.pointer e)) (a : Addr) (w : World) : (Op.equal t (.pointer (some a)) (.pointer none)).run P w = .ok false w := by
 show (Op.equalIn (9999 + 1) t (.pointer (some a)) (.pointer none)).run P w = .ok false w
 rw [Op.equalIn]
 simp only [Sem.run_bind, run_under hu w, Result.andThen_ok]
 rfl
theorem guard_nil {P : Program} {op : BinOp} {t : TypeId} (x y : Operand) (a : Addr) (w : World) : (eqGuard op t x y (.pointer (some a)) (.pointer none)).run P w = .ok () w := by
 unfold eqGuard
 cases op <;> rfl
theorem nilV_run {P : Program} {op : BinOp} {t : TypeId} {a b v : Value} (h : nilV P op t a b = some v) (x y : Operand) (a' : Addr) (w : World) :
    b = .pointer none ∧ isP a = true ∧ isP v = false ∧ (do eqGuard op t x y (.pointer (some a')) (.pointer none); binOp op t (.pointer (some a')) (.pointer none) : Sem Value).run P w = .ok v w := by
 unfold nilV at h
 split at h
 ·split at h
  ·rename_i hu
   cases h
   refine ⟨rfl, rfl, rfl, ?_⟩
   have e : binOp .eql t (.pointer (some a')) (.pointer none) = (do pure (.bool (← Op.equal t (.pointer (some a')) (.pointer none)))) := rfl
   simp only [Sem.run_bind, guard_nil, Result.andThen_ok, e, eqnil_run hu]
   rfl
  ·rename_i hu
   cases h
   refine ⟨rfl, rfl, rfl, ?_⟩
   have e : binOp .neq t (.pointer (some a')) (.pointer none) = (do pure (.bool (!(← Op.equal t (.pointer (some a')) (.pointer none))))) := rfl
   simp only [Sem.run_bind, guard_nil, Result.andThen_ok, e, eqnil_run hu]
   rfl
  ·cases h
 ·cases h
def cmpFs (f : TypeId → Value → Value → Option Bool) (P : Program) (xs ys : Array Value) : List Field → Option Bool
 | [] => some true
 | d :: ds => if d.name == "_" then none else match qrun P (part d.type xs d.offset), qrun P (part d.type ys d.offset) with
  | some u, some v => (match f d.type u v, cmpFs f P xs ys ds with
   | some r, some r' => some (r && r')
   | _, _ => none)
  | _, _ => none
def cmpIs (f : Value → Value → Option Bool) (P : Program) (e : TypeId) (xs ys : Array Value) : List Nat → Option Bool
 | [] => some true
 | i :: is => match qrun P (part e xs (i * P.cellsOf e)), qrun P (part e ys (i * P.cellsOf e)) with
  | some u, some v => (match f u v, cmpIs f P e xs ys is with
   | some r, some r' => some (r && r')
   | _, _ => none)
  | _, _ => none
def cmpV (P : Program) : Nat → TypeId → Value → Value → Option Bool
 | 0, _, _, _ => none
 | d + 1, t, a, b => match P.underlying t, a, b with
  | some .bool, .bool x, .bool y => some (x == y)
  | some (.int _), .int k x, .int k' y => if k = k' then some (x == y) else none
  | some .string, .string x, .string y => some (x.toList == y.toList)
  | some (.struct fs), .agg xs, .agg ys => if P.stoodInHeld t then none else cmpFs (cmpV P d) P xs ys fs.toList
  | some (.array n e), .agg xs, .agg ys => (match P.info? e with
   | some _ => cmpIs (cmpV P d e) P e xs ys (List.range n)
   | none => none)
  | _, _, _ => none
def CmpAt (P : Program) (d : Nat) : Prop := ∀ t a b r, cmpV P d t a b = some r → ∀ (k : Nat) (w : World), (Op.equalIn (k + d) t a b).run P w = .ok r w
theorem cmpFs_run {P : Program} {d k : Nat} (ih : CmpAt P d) (xs ys : Array Value) (w : World) : ∀ (fs : List Field) (r : Bool), cmpFs (cmpV P d) P xs ys fs = some r → (Op.eqFields (k + d) xs ys fs).run P w = .ok r w
 | [], r, h => by cases h; simp [Op.eqFields]
 | f :: fs, r, h => by
  unfold cmpFs at h
  split at h
  ·cases h
  rename_i hn
  split at h
  ·rename_i u v hu hv
   split at h
   ·rename_i r1 r2 e1 e2
    cases h
    have p1 := qrun_run _ hu w
    have p2 := qrun_run _ hv w
    have p3 := ih _ _ _ _ e1 k w
    have p4 := cmpFs_run (k := k) ih xs ys w fs r2 e2
    unfold Op.eqFields
    rw [if_pos (by simpa using hn)]
    cases r1
    ·simp only [Sem.run_bind, p1, p2, p3, Result.andThen_ok, Bool.not_false, if_true, Sem.run_pure, Bool.false_and]
    ·simp only [Sem.run_bind, p1, p2, p3, Result.andThen_ok, Bool.not_true, Bool.false_eq_true, if_false, Bool.true_and, p4]
   ·cases h
  ·cases h
theorem cmpIs_run {P : Program} {d k : Nat} (ih : CmpAt P d) (e : TypeId) (xs ys : Array Value) (w : World) : ∀ (is : List Nat) (r : Bool), cmpIs (cmpV P d e) P e xs ys is = some r → (Op.eqItems (k + d) e (P.cellsOf e) xs ys is).run P w = .ok r w
 | [], r, h => by cases h; simp [Op.eqItems]
 | i :: is, r, h => by
  unfold cmpIs at h
  split at h
  ·rename_i u v hu hv
   split at h
   ·rename_i r1 r2 e1 e2
    cases h
    have p1 := qrun_run _ hu w
    have p2 := qrun_run _ hv w
    have p3 := ih _ _ _ _ e1 k w
    have p4 := cmpIs_run (k := k) ih e xs ys w is r2 e2
    unfold Op.eqItems
    cases r1
    ·simp only [Sem.run_bind, p1, p2, p3, Result.andThen_ok, Bool.not_false, if_true, Sem.run_pure, Bool.false_and]
    ·simp only [Sem.run_bind, p1, p2, p3, Result.andThen_ok, Bool.not_true, Bool.false_eq_true, if_false, Bool.true_and, p4]
   ·cases h
  ·cases h
theorem cmp_at {P : Program} : ∀ d, CmpAt P d
 | 0 => fun t a b r h => by cases h
 | d + 1 => fun t a b r h k w => by
  have ih := cmp_at (P := P) d
  unfold cmpV at h
  split at h
  ·rename_i hu
   cases h
   rw [← Nat.add_assoc, run_equalIn_bool' w _ _ _ _ hu]
  ·rename_i hu
   split at h
   ·rename_i hk
    subst hk
    cases h
    rw [← Nat.add_assoc, run_equalIn_int w _ _ _ _ _ _ hu]
   ·cases h
  ·rename_i hu
   cases h
   rw [← Nat.add_assoc, run_equalIn_string w _ _ _ _ hu]
  ·rename_i fs xs ys hu
   split at h
   ·cases h
   rename_i hs
   have hf : P.fieldsOf t = fs := by unfold Program.fieldsOf; rw [hu]
   rw [← Nat.add_assoc, run_equalIn_struct w _ _ _ _ (by rw [hf]; exact hu) (by simpa using hs), hf]
   exact cmpFs_run ih xs ys w _ _ h
  ·rename_i n e xs ys hu
   split at h
   ·rename_i i hi
    rw [← Nat.add_assoc, run_equalIn_array w _ _ _ hu hi]
    exact cmpIs_run ih e xs ys w _ _ h
   ·cases h
  ·cases h
def cmpO (P : Program) (op : BinOp) (t : TypeId) (a b : Value) : Option Value :=
 match a, b with
 | .agg xs, .agg ys => if P.eqGuardType P.depth t then none else (match op with
  | .eql => (match cmpV P 8 t (.agg xs) (.agg ys) with
   | some r => some (.bool r)
   | none => none)
  | .neq => (match cmpV P 8 t (.agg xs) (.agg ys) with
   | some r => some (.bool (!r))
   | none => none)
  | _ => none)
 | _, _ => none
theorem cmpO_run {P : Program} {op : BinOp} {t : TypeId} {a b v : Value} (h : cmpO P op t a b = some v) (x y : Operand) (w : World) : isP a = false ∧ isP b = false ∧ isP v = false ∧ (do eqGuard op t x y a b; binOp op t a b : Sem Value).run P w = .ok v w := by
 unfold cmpO at h
 split at h
 ·rename_i xs ys
  split at h
  ·cases h
  rename_i hg
  have hg : P.eqGuardType P.depth t = false := by simpa using hg
  split at h
  ·split at h
   ·rename_i r hr
    cases h
    have e := cmp_at 8 _ _ _ _ hr 9992 w
    refine ⟨rfl, rfl, rfl, ?_⟩
    simp [eqGuard, hg, run_eql_struct, e]
   ·cases h
  ·split at h
   ·rename_i r hr
    cases h
    have e := cmp_at 8 _ _ _ _ hr 9992 w
    refine ⟨rfl, rfl, rfl, ?_⟩
    simp [eqGuard, hg, run_neq_struct, e]
   ·cases h
  ·cases h
 ·cases h
def pureW (P : Program) (op : BinOp) (t : TypeId) (a b : Value) (z : Option Value) : Option Value :=
 match cmpO P op t a b with
 | some v => some v
 | none => z
theorem pureV_q {P : Program} {o : Oper} {ρ : Operand → Value} {v : Value} (h : pureV P o ρ = some v) : qrun P (execOp ρ o) = some (.value v) := by
 unfold pureV at h
 split at h
 ·split at h
  ·rename_i u hu
   split at h
   ·cases h
   ·cases h
    exact hu
  ·cases h
 ·cases h
theorem pureW_of {P : Program} {o : Oper} {op : BinOp} {t t' : TypeId} {x y : Operand} {ρ : Operand → Value} {v : Value} (hop : o.op = .binOp op t x y t') (h : pureV P o ρ = some v) : pureW P op t (ρ x) (ρ y) (pureV P o ρ) = some v := by
 unfold pureW
 split
 ·rename_i u hu
  have w : World := World.holding P default ⟨#[], #[], []⟩
  have r1 := (cmpO_run hu x y w).2.2.2
  have r2 := qrun_run _ (pureV_q h) w
  simp only [execOp, hop, Sem.run_bind] at r1 r2
  rw [r1] at r2
  simp at r2
  rw [r2]
 ·exact h
def vq (P : Program) (cl : Nat → Bool) (id : Nat) (o : Oper) (ρ : Operand → Value) (m : Xm) : Option Value :=
 if o.op.operands.all okX then
  match o.op with
  | .move x => some (ρ x)
  | .assign x => some (ρ x)
  | .pick c a b => pickV (ρ c) (ρ a) (ρ b)
  | .load t x =>
   match ρ x with
   | .pointer (some ⟨k, off, none⟩) => if cl k then (match m[k]? with
    | some l => (match loadV P t l off with
     | some v => if isP v then none else some v
     | none => none)
    | none => none) else none
   | _ => none
  | .fieldAddr s x f =>
   match ρ x with
   | .pointer (some ⟨k, off, none⟩) => (match fieldV P s f with
    | some d => some (.pointer (some ⟨k, off + d, none⟩))
    | none => none)
   | _ => none
  | .indexAddr t x ix =>
   match ρ x with
   | .pointer (some ⟨k, off, none⟩) => (match indexV P t (ρ ix) with
    | some d => some (.pointer (some ⟨k, off + d, none⟩))
    | none => none)
   | _ => none
  | .nilCheck x =>
   match ρ x with
   | .pointer (some a) => some (.pointer (some a))
   | _ => none
  | .alloc _ => some (.pointer (some ⟨id, 0, none⟩))
  | .store _ _ _ => none
  | .box _ _ => none
  | .select _ _ => none
  | .call c =>
   match c.callee with
   | .builtin _ => pureV P o ρ
   | _ => none
  | .binOp op t x y _ =>
   match nilV P op t (ρ x) (ρ y) with
   | some v => some v
   | none => pureW P op t (ρ x) (ρ y) (pureV P o ρ)
  | _ => pureV P o ρ
 else none
theorem vq_run {P : Program} {cl : Nat → Bool} {id : Nat} {o : Oper} {vt : List Value} {m : Xm} {v : Value} (h : vq P cl id o (VE vt) m = some v) (hna : ∀ t, o.op ≠ .alloc t)
    {bs : List Nat} {w0 : World} {bl : Bl} {a : Act} {w : World} (F : FR bl vt a.tmps) (R : RW bs w0 bl m w) : ∃ v', RV bl v v' ∧ (execOp a.eval o).run P w = .ok (.value v') w := by
 unfold vq at h
 split at h
 case isFalse => cases h
 rename_i hok
 have hev : ∀ x ∈ o.op.operands, RV bl (VE vt x) (a.eval x) := fun x hx => F.eval (Array.all_eq_true_iff_forall_mem.1 hok x hx)
 have hpu : (∀ cs b, o.op ≠ .select cs b) → pureV P o (VE vt) = some v → ∃ v', RV bl v v' ∧ (execOp a.eval o).run P w = .ok (.value v') w := fun hs hp => pureV_run hp hok hs F w
 cases hop : o.op <;> rw [hop] at h <;> dsimp only at h
 case move x =>
  cases h
  exact ⟨_, hev x (by simp [hop, Op.operands]), by simp [execOp, hop]⟩
 case assign x =>
  cases h
  exact ⟨_, hev x (by simp [hop, Op.operands]), by simp [execOp, hop]⟩
 case pick c p q =>
  have h1 := hev c (by simp [hop, Op.operands])
  have h2 := hev p (by simp [hop, Op.operands])
  have h3 := hev q (by simp [hop, Op.operands])
  unfold pickV at h
  split at h
  ·rename_i x hx
   rw [hx] at h1
   have h1 : a.eval c = .bool x := h1
   split at h
   ·rename_i y z hy hz
    rw [hy] at h2
    rw [hz] at h3
    have h2 : a.eval p = .bool y := h2
    have h3 : a.eval q = .bool z := h3
    cases h
    refine ⟨_, .same rfl, ?_⟩
    cases x <;> simp [execOp, hop, h1, h2, h3, asBool]
   ·split at h
    ·cases h
     exact ⟨_, h2, by simp [execOp, hop, h1, asBool]⟩
    ·cases h
     exact ⟨_, h3, by simp [execOp, hop, h1, asBool]⟩
  ·cases h
 case load t x =>
  have h1 := hev x (by simp [hop, Op.operands])
  split at h
  ·rename_i k off hx
   rw [hx] at h1
   obtain ⟨B, hB, he⟩ := h1
   split at h
   ·split at h
    ·rename_i l hl
     obtain ⟨l2, e2, A⟩ := R.arr k B hB
     rw [hl] at e2
     cases e2
     split at h
     ·rename_i u hu
      split at h
      ·cases h
      ·rename_i hp
       cases h
       have r := loadV_run hu A
       exact ⟨v, .same (by simpa using hp), by simp [execOp, hop, he, Instr.loadAt, Instr.sureAddr, r]⟩
     ·cases h
    ·cases h
   ·cases h
  ·cases h
 case fieldAddr s x f =>
  have h1 := hev x (by simp [hop, Op.operands])
  split at h
  ·rename_i k off hx
   rw [hx] at h1
   obtain ⟨B, hB, he⟩ := h1
   split at h
   ·rename_i d hd
    cases h
    have he : a.eval x = .pointer (some ⟨B, off, none⟩) := he
    exact ⟨.pointer (some ⟨B, off + d, none⟩), ⟨B, hB, rfl⟩, by simp [execOp, hop, he, fieldV_run hd B off w]⟩
   ·cases h
  ·cases h
 case indexAddr t x ix =>
  have h1 := hev x (by simp [hop, Op.operands])
  have h2 := hev ix (by simp [hop, Op.operands])
  split at h
  ·rename_i k off hx
   rw [hx] at h1
   obtain ⟨B, hB, he⟩ := h1
   split at h
   ·rename_i d hd
    cases h
    have he : a.eval x = .pointer (some ⟨B, off, none⟩) := he
    have hix : isP (VE vt ix) = false := by
     unfold indexV at hd
     split at hd
     ·rename_i e; rw [e]; rfl
     ·cases hd
    rw [← h2.plain hix] at hd
    exact ⟨.pointer (some ⟨B, off + d, none⟩), ⟨B, hB, rfl⟩, by simp [execOp, hop, he, indexV_run hd B off w]⟩
   ·cases h
  ·cases h
 case nilCheck x =>
  have h1 := hev x (by simp [hop, Op.operands])
  split at h
  ·rename_i b hx
   rw [hx] at h1
   cases h
   obtain ⟨B, hB, he⟩ := h1
   exact ⟨_, ⟨B, hB, rfl⟩, by simp [execOp, hop, he]⟩
  ·cases h
 case alloc t => exact absurd hop (hna t)
 case call c =>
  split at h
  ·exact hpu (by rw [hop]; simp) h
  ·cases h
 case store => cases h
 case box => cases h
 case select => cases h
 case binOp op t x y t2 =>
  split at h
  ·rename_i u hn
   cases h
   have h1 := hev x (by simp [hop, Op.operands])
   have h2 := hev y (by simp [hop, Op.operands])
   obtain ⟨e1, e2, e3, _⟩ := nilV_run hn x y ⟨0, 0, none⟩ w
   rw [e1] at h2
   have h2 : a.eval y = .pointer none := h2
   generalize VE vt x = vx at *
   match vx, h1, e2 with
   | .nilIface, _, _ =>
    unfold nilV at hn
    cases hn
   | .slice (some _) _ _, _, _ =>
    unfold nilV at hn
    cases hn
   | .pointer (some b), ⟨B, _, he⟩, _ =>
    obtain ⟨_, _, _, r⟩ := nilV_run hn x y { b with block := B } w
    refine ⟨_, .same e3, ?_⟩
    simp only [execOp, hop, he, h2]
    simp only [Sem.run_bind] at r ⊢
    rw [r]
    rfl
  ·unfold pureW at h
   split at h
   ·rename_i u hc
    cases h
    obtain ⟨p1, p2, p3, _⟩ := cmpO_run hc x y w
    have e1 := (hev x (by simp [hop, Op.operands])).plain p1
    have e2 := (hev y (by simp [hop, Op.operands])).plain p2
    rw [← e1, ← e2] at hc
    obtain ⟨_, _, _, r⟩ := cmpO_run hc x y w
    refine ⟨_, .same p3, ?_⟩
    simp only [execOp, hop, Sem.run_bind] at r ⊢
    rw [r]
    rfl
   ·exact hpu (by rw [hop]; simp) h
 all_goals exact hpu (by rw [hop]; simp) h
end Go.Proofs.YtbophanlmkbfeaaGreatDoor
