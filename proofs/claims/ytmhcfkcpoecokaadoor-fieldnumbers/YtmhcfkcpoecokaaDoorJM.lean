/-
  Maps keyed by two numbers, in memory: what a look-up answers, what a store leaves, for the seat YtmhcfkcpoecokaaDoor. No function's Go text in sight.
  What stays as it was where maps are written; look-ups beside the key that is written, for the seat YtmhcfkcpoecokaaDoor. No function's Go text in sight.
  A region in which three maps and a struct are made in whatever order: what is known at each point of it, for the seat YtmhcfkcpoecokaaDoor. No function's Go text in sight.
-/
import Derived.Test.YtmhcfkcpoecokaaDoorJE
import Derived.Maps.OwnOps
import Derived.Maps.Views
import Derived.WideKeyPair
namespace Go.Proofs.YtmhcfkcpoecokaaDoor
open Go.RowKit Go.Maps Go.WideMaps

theorem key_arr : ArrKey Tryd.prog 77 3 2 := ⟨Tryd.underlying77, by kernel_rfl, by kernel_rfl, by kernel_rfl⟩
theorem key_law : Keyed Tryd.prog 77 := Keyed.of_law key_arr.law
theorem el_zero (w : World) : (zeroValue 2).run Tryd.prog w = .ok (.int .i64 0) w := by kernel_rfl
theorem types_some : ∃ m, Tryd.prog.types.size = m + 1 := ⟨Tryd.prog.types.size - 1, by have h : 0 < Tryd.prog.types.size := of_decide_eq_true (by kernel_rfl); omega⟩
/-- Numbers of 64 bits. -/
structure I64 (n : Int) : Prop where
  lo : -9223372036854775808 ≤ n
  hi : n ≤ 9223372036854775807
theorem I64.wf {n : Int} (h : I64 n) : (Lit.int .i64 n).wf = true := by
  have := h.lo; have := h.hi
  simp only [Lit.wf, IntKind.min, IntKind.max, IntKind.signed, IntKind.bits, Bool.and_eq_true, decide_eq_true_eq, if_true]
  omega
def kyl (n m : Int) : Lit := .string (keyBytes [.int .i64 n, .int .i64 m])
theorem key_at {n m : Int} (hn : I64 n) (hm : I64 m) : keyOf Tryd.prog 77 (.agg #[.int .i64 n, .int .i64 m]) = some (kyl n m) :=
  keyOf_pair key_arr Tryd.underlying3 types_some hn.wf hm.wf
theorem kyl_inj {n m n' m' : Int} (hn : I64 n) (hm : I64 m) (hn' : I64 n') (hm' : I64 m') (h : kyl n m = kyl n' m') : n = n' ∧ m = m' := by
  have a := key_at hn hm
  rw [h] at a
  have e := key_law.inj a (key_at hn' hm')
  simp at e
  exact e
theorem kyl_key {n m : Int} (hn : I64 n) (hm : I64 m) : WideAt.IsKeyLit (kyl n m) := key_law.key (key_at hn hm)
/-- Block k is a map of at most c entries; at (n, m) it answers f n m. -/
structure Mp (k c : Nat) (f : Int → Int → Int) (w : World) : Prop where
  own : ∃ D : DataW Unit, w.ownsMap Tryd.prog 77 (plainElem Tryd.prog 2) k c D ∧ ∀ n m, I64 n → I64 m → D.atKey (kyl n m) (.lit (.int .i64 0)) = .lit (.int .i64 (f n m))
  lies : k < w.heap.size
def putM (f : Int → Int → Int) (n m v : Int) : Int → Int → Int := fun a b => if a = n ∧ b = m then v else f a b
theorem Mp.same {k c : Nat} {f : Int → Int → Int} {w w' : World} (h : Mp k c f w) (e : w'.heap[k]? = w.heap[k]?) (hs : w.heap.size ≤ w'.heap.size) : Mp k c f w' := by
  obtain ⟨D, ⟨es, clock, hb, F, hn, hD⟩, at_⟩ := h.own
  exact ⟨⟨D, ⟨es, clock, e.trans hb, F, hn, hD⟩, at_⟩, Nat.lt_of_lt_of_le h.lies hs⟩
theorem Mp.mono {k c c' : Nat} {f : Int → Int → Int} {w : World} (h : Mp k c f w) (hc : c ≤ c') : Mp k c' f w := by
  obtain ⟨D, o, at_⟩ := h.own
  exact ⟨⟨D, o.mono hc, at_⟩, h.lies⟩
theorem Mp.eqv {k c : Nat} {f g : Int → Int → Int} {w : World} (h : Mp k c f w) (e : ∀ n m, f n m = g n m) : Mp k c g w := by
  obtain rfl : f = g := by funext n m; exact e n m
  exact h
theorem Mp.kept {k b c : Nat} {f : Int → Int → Int} {w w' : World} (h : Mp k c f w) (hb : Kept b w w') (hk : k ≠ b) : Mp k c f w' := h.same (hb.block k h.lies hk) hb.size
theorem Mp.below {k c : Nat} {f : Int → Int → Int} {w w' : World} (h : Mp k c f w) (hb : Below w.heap.size w w') : Mp k c f w' := h.same (hb.block k h.lies) hb.size
theorem Mp.alloc {k c : Nat} {f : Int → Int → Int} {w : World} (h : Mp k c f w) (o : Obj) : Mp k c f (w.alloc o) := h.below ((Below.refl _ _).alloc (Nat.le_refl _) o)
theorem Mp.drew {k c : Nat} {f : Int → Int → Int} {w : World} (h : Mp k c f w) : Mp k c f w.drew := ⟨h.own, h.lies⟩
theorem Mp.new {k c : Nat} {f : Int → Int → Int} {w : World} (h : Mp k c f w) (q o : Nat) (hp : k ≠ q) (u : Value) : Mp k c f (w.setCell ⟨q, o, none⟩ u) :=
  h.same (Below.heap_setCell _ _ _ _ hp) (by rw [World.size_setCell]; exact Nat.le_refl _)
theorem Mp.off {k k' c : Nat} {f : Int → Int → Int} {w w' : World} (h : Mp k' c f w) (o : Off k w w') (hk : k' ≠ k) : Mp k' c f w' := h.same (o.block k' hk) (Nat.le_of_eq o.size.symm)
theorem Mp.look {k c : Nat} {f : Int → Int → Int} {w : World} (h : Mp k c f w) {n m : Int} (hn : I64 n) (hm : I64 m) : (Instr.lookup 55 (.map (some k)) (.agg #[.int .i64 n, .int .i64 m]) false).run Tryd.prog w = .ok (.int .i64 (f n m)) w := by
  obtain ⟨D, o, at_⟩ := h.own
  obtain ⟨c, hr, hat, _⟩ := o.lookup_int key_law Tryd.underlying55 Tryd.underlying2 (el_zero w) (key_at hn hm)
  rw [at_ n m hn hm] at hat
  injection hat with hat
  injection hat with _ hat
  rw [hr, hat]
theorem Mp.store {k c : Nat} {f : Int → Int → Int} {w : World} (h : Mp k c f w) (hc : c < 1000) {n m v : Int} (hn : I64 n) (hm : I64 m) (hv : I64 v) :
    ∃ w', (Instr.mapUpdate 55 (.map (some k)) (.agg #[.int .i64 n, .int .i64 m]) (.int .i64 v)).run Tryd.prog w = .ok () w' ∧ Mp k (c + 1) (putM f n m v) w' ∧ Kept k w w' := by
  obtain ⟨D, o, at_⟩ := h.own
  have hmap : IsMap D := by obtain ⟨_, _, _, _, _, rfl⟩ := o; exact ⟨_, rfl⟩
  obtain ⟨w', hr, o', g⟩ := o.update key_law Tryd.underlying55 (by unfold maxLen; omega) (key_at hn hm) (plainElem_int Tryd.underlying2 hv.wf)
  refine ⟨w', hr, ⟨⟨_, o', fun n' m' hn' hm' => ?_⟩, Nat.lt_of_lt_of_le h.lies g.size⟩, ⟨g.os, g.tape, g.output, g.size, fun i hi hb => g.block i hi (fun e => hb (Option.some.inj e))⟩⟩
  unfold putM
  by_cases e : n' = n ∧ m' = m
  · rw [if_pos e, e.1, e.2, atKey_put_same hmap (kyl_key hn hm)]
  · rw [if_neg e, atKey_put_other (fun h => e (kyl_inj hn' hm' hn hm h)), at_ n' m' hn' hm']
theorem Mp.made (w : World) (n : Nat) (hn : n = w.heap.size) : Mp n 0 (fun _ _ => 0) (w.alloc (.map #[] 0)) := by
  subst hn
  exact ⟨⟨_, World.ownsMap_made w _ _ _, fun _ _ _ _ => rfl⟩, by simp⟩
/-- A look-up, in its turn. -/
theorem mp_look {ops : Array Oper} {rest : List Oper} {op : Oper} {a : Act} {w : World} {Q : Exit → Act → World → Prop} {x y : Operand} {k c : Nat} {f : Int → Int → Int} {n m : Int} (hgd : op.guard = none) (ho : op.op = .lookup 55 x y false)
    (hx : a.eval x = .map (some k)) (hy : a.eval y = .agg #[.int .i64 n, .int .i64 m]) (M : Mp k c f w) (hn : I64 n) (hm : I64 m) (h : wpList Tryd.prog ops Q rest (a.put op.dst (.int .i64 (f n m))) w) : wpList Tryd.prog ops Q (op :: rest) a w := by
  refine wpList_plain hgd fun K' hK' => ?_
  unfold Oper.wp
  simp [execOp, ho, hx, hy, M.look hn hm, Result.andThen]
  exact hK' _ _ h
/-- A look-up that is taken ahead of what comes in whatever order. -/
theorem mp_yield {ops : Array Oper} {S : World → Prop} {op : Oper} {a : Act} {x y : Operand} {k c : Nat} {f : Int → Int → Int} {n m : Int} (hw : Region.wanted op (yielded ops a.tmps) = true) (ho : op.op = .lookup 55 x y false)
    (hx : a.eval x = .map (some k)) (hy : a.eval y = .agg #[.int .i64 n, .int .i64 m]) (hS : ∀ w, S w → Mp k c f w) (hn : I64 n) (hm : I64 m) : YieldsIf Tryd.prog ops S op (.int .i64 (f n m)) a := by
  refine Or.inl ⟨hw, fun w h => ?_⟩
  simp [execOp, ho, hx, hy, (hS w h).look hn hm, Result.andThen]
/-- A store, the last of its region. -/
theorem mp_put {ops : Array Oper} {op : Oper} {a : Act} {w : World} {K : Act → World → Prop} {Q : Exit → Act → World → Prop} {x y z : Operand} {k c : Nat} {f : Int → Int → Int} {n m v : Int} (hw : Region.wanted op (yielded ops a.tmps) = true)
    (ho : op.op = .mapUpdate 55 x y z) (hx : a.eval x = .map (some k)) (hy : a.eval y = .agg #[.int .i64 n, .int .i64 m]) (hz : a.eval z = .int .i64 v) (M : Mp k c f w) (hc : c < 1000) (hn : I64 n) (hm : I64 m) (hv : I64 v)
    (h : ∀ w', Mp k (c + 1) (putM f n m v) w' → Kept k w w' → K (a.put op.dst undef) w') : if Region.wanted op (yielded ops a.tmps) = true then Oper.wp Tryd.prog op a w K Q else K (a.put op.dst undef) w := by
  rw [if_pos hw]
  obtain ⟨w', hr, M', k'⟩ := M.store hc hn hm hv
  unfold Oper.wp
  simp [execOp, ho, hx, hy, hz, hr, Result.andThen]
  exact h w' M' k'
end Go.Proofs.YtmhcfkcpoecokaaDoor
namespace Go.Proofs.YtmhcfkcpoecokaaDoor
open Go.RowKit Go.Maps Go.WideMaps

/-- All blocks that were there are as they were, but for those listed; the streams are as they were. -/
structure KeptL (L : List Nat) (w w' : World) : Prop where
  os : w'.os = w.os
  tape : w'.tape = w.tape
  output : w'.output = w.output
  size : w.heap.size ≤ w'.heap.size
  block : ∀ k, k < w.heap.size → k ∉ L → w'.heap[k]? = w.heap[k]?
theorem KeptL.refl (L : List Nat) (w : World) : KeptL L w w := ⟨rfl, rfl, rfl, Nat.le_refl _, fun _ _ _ => rfl⟩
theorem KeptL.trans {L : List Nat} {x y z : World} (h : KeptL L x y) (k : KeptL L y z) : KeptL L x z :=
  ⟨k.os.trans h.os, k.tape.trans h.tape, k.output.trans h.output, Nat.le_trans h.size k.size, fun i hi hb => (k.block i (Nat.lt_of_lt_of_le hi h.size) hb).trans (h.block i hi hb)⟩
theorem KeptL.of {L : List Nat} {b : Nat} {w w' : World} (h : Kept b w w') (hb : b ∈ L) : KeptL L w w' := ⟨h.os, h.tape, h.output, h.size, fun k hk hn => h.block k hk (fun e => hn (e ▸ hb))⟩
theorem KeptL.on {L : List Nat} {b : Nat} {x w w' : World} (h : KeptL L x w) (k : Kept b w w') (hb : b ∈ L) : KeptL L x w' := h.trans (KeptL.of k hb)
theorem KeptL.low {L : List Nat} {x w w' : World} (h : KeptL L x w) (k : Below w.heap.size w w') : KeptL L x w' := h.trans ⟨k.os, k.tape, k.output, k.size, fun i hi _ => k.block i hi⟩
theorem KeptL.al {L : List Nat} {x w : World} (h : KeptL L x w) (o : Obj) : KeptL L x (w.alloc o) := h.low ((Below.refl _ _).alloc (Nat.le_refl _) o)
theorem KeptL.drew {L : List Nat} {x w : World} (h : KeptL L x w) : KeptL L x w.drew := ⟨h.os, h.tape, h.output, h.size, h.block⟩
theorem KeptL.new {L : List Nat} {x w : World} (h : KeptL L x w) (q o : Nat) (hp : x.heap.size ≤ q) (u : Value) : KeptL L x (w.setCell ⟨q, o, none⟩ u) :=
  ⟨h.os, h.tape, h.output, by rw [World.size_setCell]; exact h.size, fun k hk hb => (Below.heap_setCell _ _ _ _ (by show k ≠ q; omega)).trans (h.block k hk hb)⟩
theorem Kept.off_map {b k : Nat} {x w w' : World} (K : Kept b x w) (h : Kept k w w') (hk : x.heap.size ≤ k) : Kept b x w' :=
  ⟨h.os.trans K.os, h.tape.trans K.tape, h.output.trans K.output, Nat.le_trans K.size h.size, fun j hj hb => (h.block j (Nat.lt_of_lt_of_le hj K.size) (by omega)).trans (K.block j hj hb)⟩
theorem Kept.off_list {b : Nat} {L : List Nat} {x w w' : World} (K : Kept b x w) (h : KeptL L w w') (hL : ∀ k ∈ L, k = b ∨ x.heap.size ≤ k) : Kept b x w' :=
  ⟨h.os.trans K.os, h.tape.trans K.tape, h.output.trans K.output, Nat.le_trans K.size h.size, fun j hj hb => (h.block j (Nat.lt_of_lt_of_le hj K.size) (fun m => by rcases hL j m with e | e <;> omega)).trans (K.block j hj hb)⟩
theorem Arr.keptL {k : Nat} {L : List Nat} {l : List Value} {w w' : World} (h : Arr k l w) (hb : KeptL L w w') (hk : k ∉ L) : Arr k l w' := h.same (hb.block k h.lies hk) hb.size
theorem Mp.keptL {k c : Nat} {L : List Nat} {f : Int → Int → Int} {w w' : World} (h : Mp k c f w) (hb : KeptL L w w') (hk : k ∉ L) : Mp k c f w' := h.same (hb.block k h.lies hk) hb.size
/-- A map that answers as f tells, but for the key (n, m). -/
def NearM (k : Nat) (f : Int → Int → Int) (n m : Int) (w : World) : Prop := ∃ c g, Mp k c g w ∧ ∀ a b, ¬ (a = n ∧ b = m) → g a b = f a b
theorem NearM.same {k c : Nat} {f : Int → Int → Int} {n m : Int} {w : World} (M : Mp k c f w) : NearM k f n m w := ⟨c, f, M, fun _ _ _ => rfl⟩
theorem NearM.upd {k c : Nat} {f : Int → Int → Int} {n m v : Int} {w : World} (M : Mp k c (putM f n m v) w) : NearM k f n m w := ⟨c, _, M, fun _ _ h => if_neg h⟩
theorem mp_yield_near {ops : Array Oper} {S : World → Prop} {op : Oper} {a : Act} {x y : Operand} {k : Nat} {f : Int → Int → Int} {n m n0 m0 : Int} (hw : Region.wanted op (yielded ops a.tmps) = true) (ho : op.op = .lookup 55 x y false)
    (hx : a.eval x = .map (some k)) (hy : a.eval y = .agg #[.int .i64 n, .int .i64 m]) (hS : ∀ w, S w → NearM k f n0 m0 w) (hn : I64 n) (hm : I64 m) (hne : ¬ (n = n0 ∧ m = m0)) : YieldsIf Tryd.prog ops S op (.int .i64 (f n m)) a := by
  refine Or.inl ⟨hw, fun w h => ?_⟩
  obtain ⟨c, g, M, e⟩ := hS w h
  simp [execOp, ho, hx, hy, M.look hn hm, Result.andThen, e n m hne]
end Go.Proofs.YtmhcfkcpoecokaaDoor
namespace Go.Proofs.YtmhcfkcpoecokaaDoor
open Go.RowKit Go.Maps Go.WideMaps

/-- So many operations haven't come up yet. -/
def undone (L : Array Bool) : Nat := (L.toList.filter (fun b => !b)).length
theorem undone_set {L : Array Bool} {i : Nat} (h : L.getD i true = false) : undone (L.setIfInBounds i true) + 1 = undone L := by
  obtain ⟨l⟩ := L
  have h' : l[i]?.getD true = false := by simpa using h
  unfold undone
  simp only [List.setIfInBounds_toArray]
  clear h
  induction l generalizing i with
  | nil => simp at h'
  | cons b r ih =>
    cases i with
    | zero => simp at h'; simp [h']
    | succ i =>
      have := ih (i := i) (by simpa using h')
      cases b <;> simp [List.set_cons_succ] <;> omega
/-- What holds at each point of a region, whatever its order. -/
theorem orders_ind {P : Program} {md : Region.Mode} {l : List Oper} {Q : Exit → Act → World → Prop} (Inv : Array Bool → Act → World → Prop)
    (step : ∀ listed a w i o, l[i]? = some o → i ∈ Region.ready md l.toArray listed → Inv listed a w → ∀ K' : Act → World → Prop, Shut (∀ a w, Inv (listed.setIfInBounds i true) a w → K' a w) → if Region.wanted o (yielded l.toArray a.tmps) = true then Oper.wp P o a w K' Q else K' (a.put o.dst undef) w)
    (fin : ∀ listed a w, Region.ready md l.toArray listed = [] → Inv listed a w → Q .normal a w) :
    ∀ (fuel : Nat) (listed : Array Bool) (a : Act) (w : World), undone listed ≤ fuel → Inv listed a w → wpAnyH P md l.toArray Q (fun _ => True) fuel listed a w := by
  intro fuel
  induction fuel with
  | zero =>
    intro listed a w hu hI
    have hr : Region.ready md l.toArray listed = [] := by
      apply List.eq_nil_iff_forall_not_mem.2
      intro i hi
      have := undone_set (mem_ready.1 hi).1
      omega
    exact ⟨hr, fin listed a w hr hI⟩
  | succ fuel ih =>
    intro listed a w hu hI
    refine ⟨fun hr => fin listed a w hr hI, fun i hi => ?_⟩
    obtain ⟨hun, o, ho, _⟩ := mem_ready.1 hi
    have ho' : l[i]? = some o := by simpa using ho
    have hs := undone_set hun
    have h := step listed a w i o ho' hi hI (fun a' w' => True ∧ wpAnyH P md l.toArray Q (fun _ => True) fuel (listed.setIfInBounds i true) a' w') (fun a' w' k => ⟨trivial, ih _ a' w' (by omega) k⟩)
    unfold wpOp
    rw [ho]
    show if _ then _ else _
    split
    · rename_i hw
      rw [if_pos hw] at h
      exact Or.inl h
    · rename_i hw
      rw [if_neg hw] at h
      exact h
theorem no_ready {md : Region.Mode} {l : List Oper} {L : Array Bool} (hr : Region.ready md l.toArray L = []) {i : Nat} {o : Oper} (hi : l[i]? = some o) (hu : L.getD i true = false) (h : o.after.toList.all (fun e => !Region.binds md e || L.getD e.on false) = true) : False := by
  have m : i ∈ Region.ready md l.toArray L := mem_ready.2 ⟨hu, o, by simpa using hi, fun e he hb => by
    have := (List.all_eq_true.1 h) e (by simpa using he)
    rw [hb] at this
    simpa using this⟩
  rw [hr] at m
  exact absurd m List.not_mem_nil
/-- A store into a map, in its turn. -/
theorem mp_ins {ops : Array Oper} {op : Oper} {a : Act} {w : World} {K : Act → World → Prop} {Q : Exit → Act → World → Prop} {x y z : Operand} {k c : Nat} {f : Int → Int → Int} {n m v : Int} (hw : Region.wanted op (yielded ops a.tmps) = true)
    (ho : op.op = .insert 55 x y z) (hx : a.eval x = .map (some k)) (hy : a.eval y = .agg #[.int .i64 n, .int .i64 m]) (hz : a.eval z = .int .i64 v) (M : Mp k c f w) (hc : c < 1000) (hn : I64 n) (hm : I64 m) (hv : I64 v)
    (h : ∀ w', Mp k (c + 1) (putM f n m v) w' → Kept k w w' → K (a.put op.dst undef) w') : if Region.wanted op (yielded ops a.tmps) = true then Oper.wp Tryd.prog op a w K Q else K (a.put op.dst undef) w := by
  rw [if_pos hw]
  obtain ⟨w', hr, M', k'⟩ := M.store hc hn hm hv
  unfold Oper.wp
  simp [execOp, ho, hx, hy, hz, hr, Result.andThen]
  exact h w' M' k'
/-- One at (0, 0), one at (1, 1), if they are there. -/
def mf2 (p : Bool) (x : Int) (q : Bool) (y : Int) : Int → Int → Int := fun n m => if q = true ∧ n = 1 ∧ m = 1 then y else if p = true ∧ n = 0 ∧ m = 0 then x else 0
theorem mf2_zero (x y : Int) (n m : Int) : (0 : Int) = mf2 false x false y n m := by unfold mf2; simp
theorem mf2_p (x : Int) (q : Bool) (y : Int) (n m : Int) : putM (mf2 false x q y) 0 0 x n m = mf2 true x q y n m := by
  unfold putM mf2
  by_cases h : n = 0 ∧ m = 0
  · obtain ⟨rfl, rfl⟩ := h; simp
  · rw [if_neg h]; simp [h]
theorem mf2_q (p : Bool) (x y : Int) (n m : Int) : putM (mf2 p x false y) 1 1 y n m = mf2 p x true y n m := by
  unfold putM mf2
  by_cases h : n = 1 ∧ m = 1
  · obtain ⟨rfl, rfl⟩ := h; simp
  · rw [if_neg h]; simp [h]
/-- What is known while three maps (kA: at a0, kB, kC) and a struct (kD) come to be. -/
structure MI (w0 : World) (c s : Int) (a0 a2 a5 a6 b7 b9 b12 b13 q14 q16 q17 e18 d19 z20 : Bool) (x7 x10 x14 x15 x19 x20 x22 x23 : Value) (kA kB kC kD : Nat) (w : World) : Prop where
  bel : Below w0.heap.size w0 w
  A : a0 = true → x10 = .map (some kA) ∧ w0.heap.size ≤ kA ∧ Mp kA (a2.toNat + a5.toNat) (mf2 a2 1099511627776 a5 s) w
  B : b7 = true → x15 = .map (some kB) ∧ w0.heap.size ≤ kB ∧ Mp kB (b9.toNat + b12.toNat) (mf2 b9 0 b12 c) w
  C : q14 = true → x20 = .map (some kC) ∧ w0.heap.size ≤ kC ∧ Mp kC q16.toNat (mf2 false 0 q16 1099511627776) w
  A6 : a6 = true → x14 = .map (some kA) ∧ a0 = true ∧ a2 = true ∧ a5 = true
  B13 : b13 = true → x19 = .map (some kB) ∧ b7 = true ∧ b9 = true ∧ b12 = true
  C17 : q17 = true → x22 = .map (some kC) ∧ q14 = true ∧ q16 = true
  E : e18 = true → x23 = .agg #[.map (some kA), .map (some kB), .map (some kC)] ∧ a6 = true ∧ b13 = true ∧ q17 = true
  D : d19 = true → x7 = .pointer (some ⟨kD, 0, none⟩) ∧ w0.heap.size ≤ kD ∧ Arr kD (bif z20 then [.map (some kA), .map (some kB), .map (some kC)] else [.map none, .map none, .map none]) w
  va : a2 = true ∨ a5 = true → a0 = true
  vb : b9 = true ∨ b12 = true → b7 = true
  vc : q16 = true → q14 = true
  Z : z20 = true → e18 = true ∧ d19 = true
  AB : a0 = true → b7 = true → kA ≠ kB
  AC : a0 = true → q14 = true → kA ≠ kC
  BC : b7 = true → q14 = true → kB ≠ kC
  AD : a0 = true → d19 = true → kA ≠ kD
  BD : b7 = true → d19 = true → kB ≠ kD
  CD : q14 = true → d19 = true → kC ≠ kD
end Go.Proofs.YtmhcfkcpoecokaaDoor
