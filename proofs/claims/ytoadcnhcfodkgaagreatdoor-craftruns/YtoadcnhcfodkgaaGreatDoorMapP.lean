/-
  Maps keyed by two numbers, in memory: what a look-up answers, what a store leaves, for the seat YtoadcnhcfodkgaaGreatDoor. No function's Go text in sight.
-/
import Derived.Test.YtoadcnhcfodkgaaGreatDoorVPart
import Derived.Maps.OwnOps
import Derived.Maps.Views
import Derived.WideKeyPair
namespace Go.Proofs.YtoadcnhcfodkgaaGreatDoor
open Go.RowKit Go.Maps Go.WideMaps

theorem key_arr : ArrKey Tryz.prog 299 3 2 := ⟨Tryz.underlying299, by kernel_rfl, by kernel_rfl, by kernel_rfl⟩
theorem key_law : Keyed Tryz.prog 299 := Keyed.of_law key_arr.law
theorem el_zero (w : World) : (zeroValue 2).run Tryz.prog w = .ok (.int .i64 0) w := by kernel_rfl
theorem types_some : ∃ m, Tryz.prog.types.size = m + 1 := ⟨Tryz.prog.types.size - 1, by have h : 0 < Tryz.prog.types.size := of_decide_eq_true (by kernel_rfl); omega⟩
/-- Numbers of 64 bits. -/
structure I64 (n : Int) : Prop where
  lo : -9223372036854775808 ≤ n
  hi : n ≤ 9223372036854775807
theorem I64.wf {n : Int} (h : I64 n) : (Lit.int .i64 n).wf = true := by
  have := h.lo; have := h.hi
  simp only [Lit.wf, IntKind.min, IntKind.max, IntKind.signed, IntKind.bits, Bool.and_eq_true, decide_eq_true_eq, if_true]
  omega
def kyl (n m : Int) : Lit := .string (keyBytes [.int .i64 n, .int .i64 m])
theorem key_at {n m : Int} (hn : I64 n) (hm : I64 m) : keyOf Tryz.prog 299 (.agg #[.int .i64 n, .int .i64 m]) = some (kyl n m) :=
  keyOf_pair key_arr Tryz.underlying3 types_some hn.wf hm.wf
theorem kyl_inj {n m n' m' : Int} (hn : I64 n) (hm : I64 m) (hn' : I64 n') (hm' : I64 m') (h : kyl n m = kyl n' m') : n = n' ∧ m = m' := by
  have a := key_at hn hm
  rw [h] at a
  have e := key_law.inj a (key_at hn' hm')
  simp at e
  exact e
theorem kyl_key {n m : Int} (hn : I64 n) (hm : I64 m) : WideAt.IsKeyLit (kyl n m) := key_law.key (key_at hn hm)
/-- Block k is a map of at most c entries; at (n, m) it answers f n m. -/
structure Mp (k c : Nat) (f : Int → Int → Int) (w : World) : Prop where
  own : ∃ D : DataW Unit, w.ownsMap Tryz.prog 299 (plainElem Tryz.prog 2) k c D ∧ ∀ n m, I64 n → I64 m → D.atKey (kyl n m) (.lit (.int .i64 0)) = .lit (.int .i64 (f n m))
  lies : k < w.heap.size
def putM (f : Int → Int → Int) (n m v : Int) : Int → Int → Int := fun a b => if a = n ∧ b = m then v else f a b
theorem Mp.same {k c : Nat} {f : Int → Int → Int} {w w' : World} (h : Mp k c f w) (e : w'.heap[k]? = w.heap[k]?) (hs : w.heap.size ≤ w'.heap.size) : Mp k c f w' := by
  obtain ⟨D, ⟨es, clock, hb, F, hn, hD⟩, at_⟩ := h.own
  exact ⟨⟨D, ⟨es, clock, e.trans hb, F, hn, hD⟩, at_⟩, Nat.lt_of_lt_of_le h.lies hs⟩
theorem Mp.mono {k c c' : Nat} {f : Int → Int → Int} {w : World} (h : Mp k c f w) (hc : c ≤ c') : Mp k c' f w := by
  obtain ⟨D, o, at_⟩ := h.own
  exact ⟨⟨D, o.mono hc, at_⟩, h.lies⟩
theorem Mp.eqv {k c : Nat} {f g : Int → Int → Int} {w : World} (h : Mp k c f w) (e : ∀ n m, f n m = g n m) : Mp k c g w := by
  obtain rfl : f = g := by funext n m; exact e n m
  exact h
theorem Mp.kept {k b c : Nat} {f : Int → Int → Int} {w w' : World} (h : Mp k c f w) (hb : Kept b w w') (hk : k ≠ b) : Mp k c f w' := h.same (hb.block k h.lies hk) hb.size
theorem Mp.below {k c : Nat} {f : Int → Int → Int} {w w' : World} (h : Mp k c f w) (hb : Below w.heap.size w w') : Mp k c f w' := h.same (hb.block k h.lies) hb.size
theorem Mp.alloc {k c : Nat} {f : Int → Int → Int} {w : World} (h : Mp k c f w) (o : Obj) : Mp k c f (w.alloc o) := h.below ((Below.refl _ _).alloc (Nat.le_refl _) o)
theorem Mp.drew {k c : Nat} {f : Int → Int → Int} {w : World} (h : Mp k c f w) : Mp k c f w.drew := ⟨h.own, h.lies⟩
theorem Mp.new {k c : Nat} {f : Int → Int → Int} {w : World} (h : Mp k c f w) (q o : Nat) (hp : k ≠ q) (u : Value) : Mp k c f (w.setCell ⟨q, o, none⟩ u) :=
  h.same (Below.heap_setCell _ _ _ _ hp) (by rw [World.size_setCell]; exact Nat.le_refl _)
theorem Mp.off {k k' c : Nat} {f : Int → Int → Int} {w w' : World} (h : Mp k' c f w) (o : Off k w w') (hk : k' ≠ k) : Mp k' c f w' := h.same (o.block k' hk) (Nat.le_of_eq o.size.symm)
set_option maxRecDepth 100000 in
theorem Mp.look {k c : Nat} {f : Int → Int → Int} {w : World} (h : Mp k c f w) {n m : Int} (hn : I64 n) (hm : I64 m) : (Instr.lookup 256 (.map (some k)) (.agg #[.int .i64 n, .int .i64 m]) false).run Tryz.prog w = .ok (.int .i64 (f n m)) w := by
  obtain ⟨D, o, at_⟩ := h.own
  obtain ⟨c, hr, hat, _⟩ := o.lookup_int key_law Tryz.underlying256 Tryz.underlying2 (el_zero w) (key_at hn hm)
  rw [at_ n m hn hm] at hat
  injection hat with hat
  injection hat with _ hat
  rw [hr, hat]
set_option maxRecDepth 100000 in
theorem Mp.store {k c : Nat} {f : Int → Int → Int} {w : World} (h : Mp k c f w) (hc : c < 1000) {n m v : Int} (hn : I64 n) (hm : I64 m) (hv : I64 v) :
    ∃ w', (Instr.mapUpdate 256 (.map (some k)) (.agg #[.int .i64 n, .int .i64 m]) (.int .i64 v)).run Tryz.prog w = .ok () w' ∧ Mp k (c + 1) (putM f n m v) w' ∧ Kept k w w' := by
  obtain ⟨D, o, at_⟩ := h.own
  have hmap : IsMap D := by obtain ⟨_, _, _, _, _, rfl⟩ := o; exact ⟨_, rfl⟩
  obtain ⟨w', hr, o', g⟩ := o.update key_law Tryz.underlying256 (by unfold maxLen; omega) (key_at hn hm) (plainElem_int Tryz.underlying2 hv.wf)
  refine ⟨w', hr, ⟨⟨_, o', fun n' m' hn' hm' => ?_⟩, Nat.lt_of_lt_of_le h.lies g.size⟩, ⟨g.os, g.tape, g.output, g.size, fun i hi hb => g.block i hi (fun e => hb (Option.some.inj e))⟩⟩
  unfold putM
  by_cases e : n' = n ∧ m' = m
  · rw [if_pos e, e.1, e.2, atKey_put_same hmap (kyl_key hn hm)]
  · rw [if_neg e, atKey_put_other (fun h => e (kyl_inj hn' hm' hn hm h)), at_ n' m' hn' hm']
theorem Mp.made (w : World) (n : Nat) (hn : n = w.heap.size) : Mp n 0 (fun _ _ => 0) (w.alloc (.map #[] 0)) := by
  subst hn
  exact ⟨⟨_, World.ownsMap_made w _ _ _, fun _ _ _ _ => rfl⟩, by simp⟩
/-- A look-up, in its turn. -/
theorem mp_look {ops : Array Oper} {rest : List Oper} {op : Oper} {a : Act} {w : World} {Q : Exit → Act → World → Prop} {x y : Operand} {k c : Nat} {f : Int → Int → Int} {n m : Int} (hgd : op.guard = none) (ho : op.op = .lookup 256 x y false)
    (hx : a.eval x = .map (some k)) (hy : a.eval y = .agg #[.int .i64 n, .int .i64 m]) (M : Mp k c f w) (hn : I64 n) (hm : I64 m) (h : wpList Tryz.prog ops Q rest (a.put op.dst (.int .i64 (f n m))) w) : wpList Tryz.prog ops Q (op :: rest) a w := by
  refine wpList_plain hgd fun K' hK' => ?_
  unfold Oper.wp
  simp [execOp, ho, hx, hy, M.look hn hm, Result.andThen]
  exact hK' _ _ h
/-- A look-up that is taken ahead of what comes in whatever order. -/
theorem mp_yield {ops : Array Oper} {S : World → Prop} {op : Oper} {a : Act} {x y : Operand} {k c : Nat} {f : Int → Int → Int} {n m : Int} (hw : Region.wanted op (yielded ops a.tmps) = true) (ho : op.op = .lookup 256 x y false)
    (hx : a.eval x = .map (some k)) (hy : a.eval y = .agg #[.int .i64 n, .int .i64 m]) (hS : ∀ w, S w → Mp k c f w) (hn : I64 n) (hm : I64 m) : YieldsIf Tryz.prog ops S op (.int .i64 (f n m)) a := by
  refine Or.inl ⟨hw, fun w h => ?_⟩
  simp [execOp, ho, hx, hy, (hS w h).look hn hm, Result.andThen]
/-- A store, the last of its region. -/
theorem mp_put {ops : Array Oper} {op : Oper} {a : Act} {w : World} {K : Act → World → Prop} {Q : Exit → Act → World → Prop} {x y z : Operand} {k c : Nat} {f : Int → Int → Int} {n m v : Int} (hw : Region.wanted op (yielded ops a.tmps) = true)
    (ho : op.op = .mapUpdate 256 x y z) (hx : a.eval x = .map (some k)) (hy : a.eval y = .agg #[.int .i64 n, .int .i64 m]) (hz : a.eval z = .int .i64 v) (M : Mp k c f w) (hc : c < 1000) (hn : I64 n) (hm : I64 m) (hv : I64 v)
    (h : ∀ w', Mp k (c + 1) (putM f n m v) w' → Kept k w w' → K (a.put op.dst undef) w') : if Region.wanted op (yielded ops a.tmps) = true then Oper.wp Tryz.prog op a w K Q else K (a.put op.dst undef) w := by
  rw [if_pos hw]
  obtain ⟨w', hr, M', k'⟩ := M.store hc hn hm hv
  unfold Oper.wp
  simp [execOp, ho, hx, hy, hz, hr, Result.andThen]
  exact h w' M' k'
end Go.Proofs.YtoadcnhcfodkgaaGreatDoor
