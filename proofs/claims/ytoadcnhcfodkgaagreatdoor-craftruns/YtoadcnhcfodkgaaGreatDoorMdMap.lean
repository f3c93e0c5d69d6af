/-
  Maps keyed by two numbers of a struct, in memory: what a look-up answers, what a store leaves, for the seat YtoadcnhcfodkgaaGreatDoor. No function's Go text in sight.
-/
import Derived.Test.YtoadcnhcfodkgaaGreatDoorMapR
import Derived.DeepKeys4
namespace Go.Proofs.YtoadcnhcfodkgaaGreatDoor
open Go.RowKit Go.Maps Go.WideMaps

theorem met_law : Keyed Tryz.prog 286 := Keyed.of_law (deep_law (m := 2) (by omega) (by kernel_rfl) (by kernel_rfl) (by kernel_rfl))
theorem met_zero (w : World) : (zeroValue 3).run Tryz.prog w = .ok (.int .i64 0) w := by kernel_rfl
theorem met_types : ∃ m, Tryz.prog.types.size = m + 1 := ⟨Tryz.prog.types.size - 1, by have h : 0 < Tryz.prog.types.size := of_decide_eq_true (by kernel_rfl); omega⟩
theorem met_at {n m : Int} (hn : I64 n) (hm : I64 m) : keyOf Tryz.prog 286 (.agg #[.int .i64 n, .int .i64 m]) = some (kyl n m) := by
  have hkt : Tryz.prog.keyType 286 = true := by kernel_rfl
  have hsz : Tryz.prog.cellsOf 286 = 2 := by kernel_rfl
  have h1 : Tryz.prog.cellsOf 3 = 1 := by kernel_rfl
  obtain ⟨k, hk⟩ := met_types
  unfold keyOf kyl
  simp only [Tryz.underlying286]
  rw [if_pos (by simp [hkt, Value.formed, Tryz.underlying286, hsz]), hk]
  unfold Program.keyLits
  simp only [Tryz.underlying286, Value.cells]
  simp [h1, hsz, Program.keyLits, Tryz.underlying3, hn.wf, hm.wf]
/-- Block k is a map of at most c entries; at the struct (n, m) it answers f n m. -/
structure Mm (k c : Nat) (f : Int → Int → Int) (w : World) : Prop where
  own : ∃ D : DataW Unit, w.ownsMap Tryz.prog 286 (plainElem Tryz.prog 3) k c D ∧ ∀ n m, I64 n → I64 m → D.atKey (kyl n m) (.lit (.int .i64 0)) = .lit (.int .i64 (f n m))
  lies : k < w.heap.size
theorem met_inj {n m n' m' : Int} (hn : I64 n) (hm : I64 m) (hn' : I64 n') (hm' : I64 m') (h : kyl n m = kyl n' m') : n = n' ∧ m = m' := by
  have a := met_at hn hm
  rw [h] at a
  have e := met_law.inj a (met_at hn' hm')
  simp at e
  exact e
theorem met_key {n m : Int} (hn : I64 n) (hm : I64 m) : WideAt.IsKeyLit (kyl n m) := met_law.key (met_at hn hm)
theorem Mm.same {k c : Nat} {f : Int → Int → Int} {w w' : World} (h : Mm k c f w) (e : w'.heap[k]? = w.heap[k]?) (hs : w.heap.size ≤ w'.heap.size) : Mm k c f w' := by
  obtain ⟨D, ⟨es, clock, hb, F, hn, hD⟩, at_⟩ := h.own
  exact ⟨⟨D, ⟨es, clock, e.trans hb, F, hn, hD⟩, at_⟩, Nat.lt_of_lt_of_le h.lies hs⟩
theorem Mm.mono {k c c' : Nat} {f : Int → Int → Int} {w : World} (h : Mm k c f w) (hc : c ≤ c') : Mm k c' f w := by
  obtain ⟨D, o, at_⟩ := h.own
  exact ⟨⟨D, o.mono hc, at_⟩, h.lies⟩
theorem Mm.eqv {k c : Nat} {f g : Int → Int → Int} {w : World} (h : Mm k c f w) (e : ∀ n m, f n m = g n m) : Mm k c g w := by
  obtain rfl : f = g := by funext n m; exact e n m
  exact h
theorem Mm.below {k c : Nat} {f : Int → Int → Int} {w w' : World} (h : Mm k c f w) (hb : Below w.heap.size w w') : Mm k c f w' := h.same (hb.block k h.lies) hb.size
set_option maxRecDepth 100000 in
theorem Mm.look {k c : Nat} {f : Int → Int → Int} {w : World} (h : Mm k c f w) {n m : Int} (hn : I64 n) (hm : I64 m) : (Instr.lookup 283 (.map (some k)) (.agg #[.int .i64 n, .int .i64 m]) false).run Tryz.prog w = .ok (.int .i64 (f n m)) w := by
  obtain ⟨D, o, at_⟩ := h.own
  obtain ⟨c, hr, hat, _⟩ := o.lookup_int met_law Tryz.underlying283 Tryz.underlying3 (met_zero w) (met_at hn hm)
  rw [at_ n m hn hm] at hat
  injection hat with hat
  injection hat with _ hat
  rw [hr, hat]
theorem Mm.store {k c : Nat} {f : Int → Int → Int} {w : World} (h : Mm k c f w) (hc : c < 1000) {n m v : Int} (hn : I64 n) (hm : I64 m) (hv : I64 v) :
    ∃ w', (Instr.mapUpdate 283 (.map (some k)) (.agg #[.int .i64 n, .int .i64 m]) (.int .i64 v)).run Tryz.prog w = .ok () w' ∧ Mm k (c + 1) (putM f n m v) w' ∧ Kept k w w' := by
  obtain ⟨D, o, at_⟩ := h.own
  have hmap : IsMap D := by obtain ⟨_, _, _, _, _, rfl⟩ := o; exact ⟨_, rfl⟩
  obtain ⟨w', hr, o', g⟩ := o.update met_law Tryz.underlying283 (by unfold maxLen; omega) (met_at hn hm) (plainElem_int Tryz.underlying3 hv.wf)
  refine ⟨w', hr, ⟨⟨_, o', fun n' m' hn' hm' => ?_⟩, Nat.lt_of_lt_of_le h.lies g.size⟩, ⟨g.os, g.tape, g.output, g.size, fun i hi hb => g.block i hi (fun e => hb (Option.some.inj e))⟩⟩
  unfold putM
  by_cases e : n' = n ∧ m' = m
  · rw [if_pos e, e.1, e.2, atKey_put_same hmap (met_key hn hm)]
  · rw [if_neg e, atKey_put_other (fun h => e (met_inj hn' hm' hn hm h)), at_ n' m' hn' hm']
theorem Mm.made (w : World) (n : Nat) (hn : n = w.heap.size) : Mm n 0 (fun _ _ => 0) (w.alloc (.map #[] 0)) := by
  subst hn
  exact ⟨⟨_, World.ownsMap_made w _ _ _, fun _ _ _ _ => rfl⟩, by simp⟩
/-- A store into a map, in its turn. -/
theorem mm_ins {ops : Array Oper} {op : Oper} {a : Act} {w : World} {K : Act → World → Prop} {Q : Exit → Act → World → Prop} {x y z : Operand} {k c : Nat} {f : Int → Int → Int} {n m v : Int} (hw : Region.wanted op (yielded ops a.tmps) = true)
    (ho : op.op = .insert 283 x y z) (hx : a.eval x = .map (some k)) (hy : a.eval y = .agg #[.int .i64 n, .int .i64 m]) (hz : a.eval z = .int .i64 v) (M : Mm k c f w) (hc : c < 1000) (hn : I64 n) (hm : I64 m) (hv : I64 v)
    (h : ∀ w', Mm k (c + 1) (putM f n m v) w' → Kept k w w' → K (a.put op.dst undef) w') : if Region.wanted op (yielded ops a.tmps) = true then Oper.wp Tryz.prog op a w K Q else K (a.put op.dst undef) w := by
  rw [if_pos hw]
  obtain ⟨w', hr, M', k'⟩ := M.store hc hn hm hv
  unfold Oper.wp
  simp [execOp, ho, hx, hy, hz, hr, Result.andThen]
  exact h w' M' k'
end Go.Proofs.YtoadcnhcfodkgaaGreatDoor
