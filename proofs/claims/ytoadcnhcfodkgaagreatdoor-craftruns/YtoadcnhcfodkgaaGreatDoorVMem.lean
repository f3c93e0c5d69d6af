/-
  Regions that draw their order, flows anew, and rows of cells in memory, for the seat YtoadcnhcfodkgaaGreatDoor. No Go text in sight.
-/
import Derived.Test.YtoadcnhcfodkgaaGreatDoorFlow
import Derived.Handy
import Derived.Deep.RegionHeld3
import Derived.LoopN
namespace Go.Proofs.YtoadcnhcfodkgaaGreatDoor
open Go.RowKit

/-- A stronger condition may be held from any point of a region on. -/
theorem wpAnyH_swap {P : Program} {md : Region.Mode} {ops : Array Oper} {Q : Exit → Act → World → Prop} {S T : World → Prop} (h : ∀ w, S w → T w) :
    ∀ {fuel : Nat} {listed : Array Bool} {a : Act} {w : World}, wpAnyH P md ops Q S fuel listed a w → wpAnyH P md ops Q T fuel listed a w
  | 0, _, _, _, k => k
  | _ + 1, _, _, _, k => ⟨k.1, fun i hi => wpOp_mono (fun _ _ k2 => ⟨h _ k2.1, wpAnyH_swap h k2.2⟩) (k.2 i hi)⟩
theorem take_at {P : Program} {md : Region.Mode} {l : List Oper} {Q : Exit → Act → World → Prop} {S : World → Prop} {i : Nat} {oi : Oper} {v : Value} {fuel : Nat} {listed : Array Bool} {a : Act} {w : World} (hi : l[i]? = some oi)
    (hs : Region.noSelect l.toArray = true) (hf : Region.free md l.toArray listed i = true) (hr : (Region.ready md l.toArray listed).contains i = true)
    (hQ : ∀ c a w, Q (.panic c) (a.put oi.dst v) w → Q (.panic c) a w) (hy : YieldsIf P l.toArray S oi v a) (hS : S w)
    (h : wpAnyH P md l.toArray Q S fuel (listed.setIfInBounds i true) (a.put oi.dst v) w) : wpAnyH P md l.toArray Q S (fuel + 1) listed a w :=
  wpAnyH_take (ops := l.toArray) (by simpa using hi) hs hf hr hQ hy hS h
theorem zT {P : Program} {md : Region.Mode} {l : List Oper} {Q : Exit → Act → World → Prop} {S : World → Prop} (i : Nat) {oi : Oper} {v : Value} {fuel : Nat} {listed : Array Bool} {a : Act} {w : World} (hi : l[i]? = some oi)
    (hb : (Region.noSelect l.toArray && (Region.free md l.toArray listed i && (Region.ready md l.toArray listed).contains i)) = true)
    (hQ : ∀ c a w, Q (.panic c) (a.put oi.dst v) w → Q (.panic c) a w) (hw : Region.wanted oi (yielded l.toArray a.tmps) = true) (hy : ∀ w, S w → (execOp a.eval oi).run P w = .ok (.value v) w) (hS : S w)
    (h : wpAnyH P md l.toArray Q S fuel (listed.setIfInBounds i true) (a.put oi.dst v) w) : wpAnyH P md l.toArray Q S (fuel + 1) listed a w := by
  rw [Bool.and_eq_true, Bool.and_eq_true] at hb
  exact take_at hi hb.1 hb.2.1 hb.2.2 hQ (Or.inl ⟨hw, hy⟩) hS h
theorem call_at {P : Program} {md : Region.Mode} {l : List Oper} {Q : Exit → Act → World → Prop} {S : World → Prop} {i : Nat} {o : Oper} {fuel : Nat} {listed : Array Bool} {a : Act} {w : World} (hr : Region.ready md l.toArray listed = [i]) (hi : l[i]? = some o)
    (h : ∀ K' : Act → World → Prop, Shut (∀ a w, S w → (S w → wpAnyH P md l.toArray Q S fuel (listed.setIfInBounds i true) a w) → K' a w) → if Region.wanted o (yielded l.toArray a.tmps) = true then Oper.wp P o a w K' Q else K' (a.put o.dst undef) w) :
    wpAnyH P md l.toArray Q S (fuel + 1) listed a w :=
  wpAnyH_ready hr (by simp) (AllReadyH.cons (by simpa using hi) h AllReadyH.nil)
theorem zK {P : Program} {md : Region.Mode} {l : List Oper} {Q : Exit → Act → World → Prop} {S : World → Prop} (i : Nat) {o : Oper} {fuel : Nat} {listed : Array Bool} {a : Act} {w : World} (hr : Region.ready md l.toArray listed = [i]) (hi : l[i]? = some o)
    (h : ∀ K' : Act → World → Prop, Shut (∀ a w, S w → (S w → wpAnyH P md l.toArray Q S fuel (listed.setIfInBounds i true) a w) → K' a w) → if Region.wanted o (yielded l.toArray a.tmps) = true then Oper.wp P o a w K' Q else K' (a.put o.dst undef) w) :
    wpAnyH P md l.toArray Q S (fuel + 1) listed a w := call_at hr hi h
theorem call_at2 {P : Program} {md : Region.Mode} {l : List Oper} {Q : Exit → Act → World → Prop} {S : World → Prop} {i0 i1 : Nat} {o0 o1 : Oper} {fuel : Nat} {listed : Array Bool} {a : Act} {w : World} (hr : Region.ready md l.toArray listed = [i0, i1]) (hi0 : l[i0]? = some o0) (hi1 : l[i1]? = some o1)
    (h0 : ∀ K' : Act → World → Prop, Shut (∀ a w, S w → (S w → wpAnyH P md l.toArray Q S fuel (listed.setIfInBounds i0 true) a w) → K' a w) → if Region.wanted o0 (yielded l.toArray a.tmps) = true then Oper.wp P o0 a w K' Q else K' (a.put o0.dst undef) w)
    (h1 : ∀ K' : Act → World → Prop, Shut (∀ a w, S w → (S w → wpAnyH P md l.toArray Q S fuel (listed.setIfInBounds i1 true) a w) → K' a w) → if Region.wanted o1 (yielded l.toArray a.tmps) = true then Oper.wp P o1 a w K' Q else K' (a.put o1.dst undef) w) :
    wpAnyH P md l.toArray Q S (fuel + 1) listed a w :=
  wpAnyH_ready hr (by simp) (AllReadyH.cons (by simpa using hi0) h0 (AllReadyH.cons (by simpa using hi1) h1 AllReadyH.nil))
theorem call_at3 {P : Program} {md : Region.Mode} {l : List Oper} {Q : Exit → Act → World → Prop} {S : World → Prop} {i0 i1 i2 : Nat} {o0 o1 o2 : Oper} {fuel : Nat} {listed : Array Bool} {a : Act} {w : World} (hr : Region.ready md l.toArray listed = [i0, i1, i2]) (hi0 : l[i0]? = some o0) (hi1 : l[i1]? = some o1) (hi2 : l[i2]? = some o2)
    (h0 : ∀ K' : Act → World → Prop, Shut (∀ a w, S w → (S w → wpAnyH P md l.toArray Q S fuel (listed.setIfInBounds i0 true) a w) → K' a w) → if Region.wanted o0 (yielded l.toArray a.tmps) = true then Oper.wp P o0 a w K' Q else K' (a.put o0.dst undef) w)
    (h1 : ∀ K' : Act → World → Prop, Shut (∀ a w, S w → (S w → wpAnyH P md l.toArray Q S fuel (listed.setIfInBounds i1 true) a w) → K' a w) → if Region.wanted o1 (yielded l.toArray a.tmps) = true then Oper.wp P o1 a w K' Q else K' (a.put o1.dst undef) w)
    (h2 : ∀ K' : Act → World → Prop, Shut (∀ a w, S w → (S w → wpAnyH P md l.toArray Q S fuel (listed.setIfInBounds i2 true) a w) → K' a w) → if Region.wanted o2 (yielded l.toArray a.tmps) = true then Oper.wp P o2 a w K' Q else K' (a.put o2.dst undef) w) :
    wpAnyH P md l.toArray Q S (fuel + 1) listed a w :=
  wpAnyH_ready hr (by simp) (AllReadyH.cons (by simpa using hi0) h0 (AllReadyH.cons (by simpa using hi1) h1 (AllReadyH.cons (by simpa using hi2) h2 AllReadyH.nil)))
theorem i64_of_wf {n : Int} (h : (Lit.int .i64 n).wf = true) : -9223372036854775808 ≤ n ∧ n ≤ 9223372036854775807 := by
  simp only [Lit.wf, IntKind.min, IntKind.max, IntKind.signed, IntKind.bits, Bool.and_eq_true, decide_eq_true_eq, if_true] at h
  omega
theorem Fl_new (w : World) (bad : Bool) (t : TypeId) : Fl w.heap.size bad (w.alloc (.cells #[.bool bad] t)) :=
  ⟨by simp, by simp, by simp⟩
theorem Fl_at (w : World) (n : Nat) (bad : Bool) (t : TypeId) (hn : n = w.heap.size) : Fl n bad (w.alloc (.cells #[.bool bad] t)) := by
  subst hn; exact Fl_new w bad t
theorem Kept.on {b : Nat} {x w w' : World} (h : Kept b w w') (hx : Below x.heap.size x w) (hb : x.heap.size ≤ b) : Below x.heap.size x w' := h.below hx hb hx.size
theorem Fl.drew {b : Nat} {bad : Bool} {w : World} (h : Fl b bad w) : Fl b bad w.drew := ⟨h.cell, h.free, h.lies⟩
theorem Kept.drew {b : Nat} {x w : World} (h : Kept b x w) : Kept b x w.drew := ⟨h.os, h.tape, h.output, h.size, h.block⟩
theorem Kept.al {b : Nat} {x w : World} (h : Kept b x w) (o : Obj) : Kept b x (w.alloc o) := h.trans (Kept.alloc b w o)
theorem Kept.new {b : Nat} {x w : World} (h : Kept b x w) (q o : Nat) (hp : x.heap.size ≤ q) (u : Value) : Kept b x (w.setCell ⟨q, o, none⟩ u) :=
  ⟨h.os, h.tape, h.output, by rw [World.size_setCell]; exact h.size, fun k hk hb => (Below.heap_setCell _ _ _ _ (by show k ≠ q; omega)).trans (h.block k hk hb)⟩
theorem Fl.new {b : Nat} {bad : Bool} {w : World} (h : Fl b bad w) (q o : Nat) (hp : b ≠ q) (u : Value) : Fl b bad (w.setCell ⟨q, o, none⟩ u) :=
  ⟨(World.cell?_of_block (w := w) (Below.heap_setCell _ _ _ _ hp)).trans h.cell, by rw [World.frozen?_setCell]; exact h.free, by rw [World.size_setCell]; exact h.lies⟩
theorem bel_new {x w : World} (h : Below x.heap.size x w) (q o : Nat) (hp : x.heap.size ≤ q) (u : Value) : Below x.heap.size x (w.setCell ⟨q, o, none⟩ u) :=
  ⟨h.os, h.tape, h.output, by rw [World.size_setCell]; exact h.size, fun k hk => (Below.heap_setCell _ _ _ _ (by show k ≠ q; omega)).trans (h.block k hk)⟩
theorem bel_al {x w : World} (h : Below x.heap.size x w) (o : Obj) : Below x.heap.size x (w.alloc o) := h.trans ((Below.refl _ _).alloc h.size o)
theorem bel_then {x w w' : World} (h : Below x.heap.size x w) (k : Below w.heap.size w w') : Below x.heap.size x w' := h.trans (k.mono h.size)

/-! ### Rows of cells -/
/-- A row of cells lies at block k. -/
structure Arr (k : Nat) (l : List Value) (w : World) : Prop where
  c : ∀ i, (h : i < l.length) → w.cell? ⟨k, i, none⟩ = some l[i]
  f : ∀ i, i < l.length → w.frozen? ⟨k, i, none⟩ = false
  lies : k < w.heap.size
theorem Arr_at (w : World) (n : Nat) (l : List Value) (t : TypeId) (hn : n = w.heap.size) : Arr n l (w.alloc (.cells l.toArray t)) := by
  subst hn
  refine ⟨fun i h => ?_, fun i h => by simp, by simp⟩
  rw [World.cell?_alloc_new]
  simp [h]
theorem Arr.same {k : Nat} {l : List Value} {w w' : World} (h : Arr k l w) (e : w'.heap[k]? = w.heap[k]?) (hs : w.heap.size ≤ w'.heap.size) : Arr k l w' :=
  ⟨fun i hi => (World.cell?_of_block (w := w) (a := ⟨k, i, none⟩) e).trans (h.c i hi), fun i hi => (World.frozen?_of_block (w := w) (a := ⟨k, i, none⟩) e).trans (h.f i hi), Nat.lt_of_lt_of_le h.lies hs⟩
theorem Arr.kept {k b : Nat} {l : List Value} {w w' : World} (h : Arr k l w) (hb : Kept b w w') (hk : k ≠ b) : Arr k l w' := h.same (hb.block k h.lies hk) hb.size
theorem Arr.below {k : Nat} {l : List Value} {w w' : World} (h : Arr k l w) (hb : Below w.heap.size w w') : Arr k l w' := h.same (hb.block k h.lies) hb.size
theorem Arr.alloc {k : Nat} {l : List Value} {w : World} (h : Arr k l w) (o : Obj) : Arr k l (w.alloc o) := h.below ((Below.refl _ _).alloc (Nat.le_refl _) o)
theorem Arr.drew {k : Nat} {l : List Value} {w : World} (h : Arr k l w) : Arr k l w.drew := ⟨h.c, h.f, h.lies⟩
theorem Arr.new {k : Nat} {l : List Value} {w : World} (h : Arr k l w) (q o : Nat) (hp : k ≠ q) (u : Value) : Arr k l (w.setCell ⟨q, o, none⟩ u) :=
  h.same (Below.heap_setCell _ _ _ _ hp) (by rw [World.size_setCell]; exact Nat.le_refl _)
theorem Arr.put {k : Nat} {l : List Value} {w : World} (h : Arr k l w) (i : Nat) (hi : i < l.length) (u : Value) (l' : List Value) (hl : l' = l.set i u) : Arr k l' (w.setCell ⟨k, i, none⟩ u) := by
  subst hl
  refine ⟨fun j hj => ?_, fun j hj => ?_, by rw [World.size_setCell]; exact h.lies⟩
  · by_cases e : i = j
    · subst e
      rw [World.cell?_setCell_same _ _ _ (h.c i hi)]
      simp
    · rw [World.cell?_setCell_other _ _ _ _ (by intro h; injection h; omega)]
      rw [List.getElem_set_ne e]
      exact h.c j (by simpa using hj)
  · rw [World.frozen?_setCell]; exact h.f j (by simpa using hj)
/-- N cells, by a function. -/
def row (N : Nat) (g : Nat → Int) : List Value := (List.range N).map fun i => .int .i64 (g i)
theorem row_len (N : Nat) (g : Nat → Int) : (row N g).length = N := by unfold row; simp
theorem row_get {N i : Nat} {g : Nat → Int} (h : i < (row N g).length) : (row N g)[i] = .int .i64 (g i) := by
  have h' : i < N := by rw [row_len] at h; exact h
  show ((List.range N).map fun i => Value.int .i64 (g i))[i]'(by simpa using h') = _
  simp
theorem row_c {k N : Nat} {g : Nat → Int} {w : World} (A : Arr k (row N g) w) (i : Nat) (h : i < N) : w.cell? ⟨k, i, none⟩ = some (.int .i64 (g i)) := by
  have := A.c i (by rw [row_len]; exact h)
  rw [row_get] at this
  exact this
theorem row_f {k N : Nat} {g : Nat → Int} {w : World} (A : Arr k (row N g) w) (i : Nat) (h : i < N) : w.frozen? ⟨k, i, none⟩ = false := A.f i (by rw [row_len]; exact h)
def updF (g : Nat → Int) (i : Nat) (v : Int) : Nat → Int := fun j => if j = i then v else g j
theorem row_set {N i : Nat} {g : Nat → Int} {v : Int} : (row N g).set i (.int .i64 v) = row N (updF g i v) := by
  apply List.ext_getElem
  · simp [row_len]
  · intro j h1 h2
    rw [List.getElem_set, show (row N (updF g i v))[j] = .int .i64 (updF g i v j) from row_get h2]
    by_cases c : i = j
    · rw [if_pos c, show updF g i v j = v from if_pos c.symm]
    · rw [if_neg c, show updF g i v j = g j from if_neg (fun h => c h.symm), row_get]
theorem row_put {k N : Nat} {g : Nat → Int} {w : World} (A : Arr k (row N g) w) (i : Nat) (h : i < N) (v : Int) : Arr k (row N (updF g i v)) (w.setCell ⟨k, i, none⟩ (.int .i64 v)) :=
  A.put i (by rw [row_len]; exact h) (.int .i64 v) _ row_set.symm
end Go.Proofs.YtoadcnhcfodkgaaGreatDoor
