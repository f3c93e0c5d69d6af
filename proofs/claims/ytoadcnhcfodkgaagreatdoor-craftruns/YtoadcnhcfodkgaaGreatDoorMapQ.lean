/-
  What stays as it was where maps are written; look-ups beside the key that is written, for the seat YtoadcnhcfodkgaaGreatDoor. No function's Go text in sight.
-/
import Derived.Test.YtoadcnhcfodkgaaGreatDoorMapP
namespace Go.Proofs.YtoadcnhcfodkgaaGreatDoor
open Go.RowKit Go.Maps Go.WideMaps

/-- All blocks that were there are as they were, but for those listed; the streams are as they were. -/
structure KeptL (L : List Nat) (w w' : World) : Prop where
  os : w'.os = w.os
  tape : w'.tape = w.tape
  output : w'.output = w.output
  size : w.heap.size ≤ w'.heap.size
  block : ∀ k, k < w.heap.size → k ∉ L → w'.heap[k]? = w.heap[k]?
theorem KeptL.refl (L : List Nat) (w : World) : KeptL L w w := ⟨rfl, rfl, rfl, Nat.le_refl _, fun _ _ _ => rfl⟩
theorem KeptL.trans {L : List Nat} {x y z : World} (h : KeptL L x y) (k : KeptL L y z) : KeptL L x z :=
  ⟨k.os.trans h.os, k.tape.trans h.tape, k.output.trans h.output, Nat.le_trans h.size k.size, fun i hi hb => (k.block i (Nat.lt_of_lt_of_le hi h.size) hb).trans (h.block i hi hb)⟩
theorem KeptL.of {L : List Nat} {b : Nat} {w w' : World} (h : Kept b w w') (hb : b ∈ L) : KeptL L w w' := ⟨h.os, h.tape, h.output, h.size, fun k hk hn => h.block k hk (fun e => hn (e ▸ hb))⟩
theorem KeptL.on {L : List Nat} {b : Nat} {x w w' : World} (h : KeptL L x w) (k : Kept b w w') (hb : b ∈ L) : KeptL L x w' := h.trans (KeptL.of k hb)
theorem KeptL.low {L : List Nat} {x w w' : World} (h : KeptL L x w) (k : Below w.heap.size w w') : KeptL L x w' := h.trans ⟨k.os, k.tape, k.output, k.size, fun i hi _ => k.block i hi⟩
theorem KeptL.al {L : List Nat} {x w : World} (h : KeptL L x w) (o : Obj) : KeptL L x (w.alloc o) := h.low ((Below.refl _ _).alloc (Nat.le_refl _) o)
theorem KeptL.drew {L : List Nat} {x w : World} (h : KeptL L x w) : KeptL L x w.drew := ⟨h.os, h.tape, h.output, h.size, h.block⟩
theorem KeptL.new {L : List Nat} {x w : World} (h : KeptL L x w) (q o : Nat) (hp : x.heap.size ≤ q) (u : Value) : KeptL L x (w.setCell ⟨q, o, none⟩ u) :=
  ⟨h.os, h.tape, h.output, by rw [World.size_setCell]; exact h.size, fun k hk hb => (Below.heap_setCell _ _ _ _ (by show k ≠ q; omega)).trans (h.block k hk hb)⟩
theorem Kept.off_map {b k : Nat} {x w w' : World} (K : Kept b x w) (h : Kept k w w') (hk : x.heap.size ≤ k) : Kept b x w' :=
  ⟨h.os.trans K.os, h.tape.trans K.tape, h.output.trans K.output, Nat.le_trans K.size h.size, fun j hj hb => (h.block j (Nat.lt_of_lt_of_le hj K.size) (by omega)).trans (K.block j hj hb)⟩
theorem Kept.off_list {b : Nat} {L : List Nat} {x w w' : World} (K : Kept b x w) (h : KeptL L w w') (hL : ∀ k ∈ L, k = b ∨ x.heap.size ≤ k) : Kept b x w' :=
  ⟨h.os.trans K.os, h.tape.trans K.tape, h.output.trans K.output, Nat.le_trans K.size h.size, fun j hj hb => (h.block j (Nat.lt_of_lt_of_le hj K.size) (fun m => by rcases hL j m with e | e <;> omega)).trans (K.block j hj hb)⟩
theorem Arr.keptL {k : Nat} {L : List Nat} {l : List Value} {w w' : World} (h : Arr k l w) (hb : KeptL L w w') (hk : k ∉ L) : Arr k l w' := h.same (hb.block k h.lies hk) hb.size
theorem Mp.keptL {k c : Nat} {L : List Nat} {f : Int → Int → Int} {w w' : World} (h : Mp k c f w) (hb : KeptL L w w') (hk : k ∉ L) : Mp k c f w' := h.same (hb.block k h.lies hk) hb.size
/-- A map that answers as f tells, but for the key (n, m). -/
def NearM (k : Nat) (f : Int → Int → Int) (n m : Int) (w : World) : Prop := ∃ c g, Mp k c g w ∧ ∀ a b, ¬ (a = n ∧ b = m) → g a b = f a b
theorem NearM.same {k c : Nat} {f : Int → Int → Int} {n m : Int} {w : World} (M : Mp k c f w) : NearM k f n m w := ⟨c, f, M, fun _ _ _ => rfl⟩
theorem NearM.upd {k c : Nat} {f : Int → Int → Int} {n m v : Int} {w : World} (M : Mp k c (putM f n m v) w) : NearM k f n m w := ⟨c, _, M, fun _ _ h => if_neg h⟩
theorem mp_yield_near {ops : Array Oper} {S : World → Prop} {op : Oper} {a : Act} {x y : Operand} {k : Nat} {f : Int → Int → Int} {n m n0 m0 : Int} (hw : Region.wanted op (yielded ops a.tmps) = true) (ho : op.op = .lookup 256 x y false)
    (hx : a.eval x = .map (some k)) (hy : a.eval y = .agg #[.int .i64 n, .int .i64 m]) (hS : ∀ w, S w → NearM k f n0 m0 w) (hn : I64 n) (hm : I64 m) (hne : ¬ (n = n0 ∧ m = m0)) : YieldsIf Tryz.prog ops S op (.int .i64 (f n m)) a := by
  refine Or.inl ⟨hw, fun w h => ?_⟩
  obtain ⟨c, g, M, e⟩ := hS w h
  simp [execOp, ho, hx, hy, M.look hn hm, Result.andThen, e n m hne]
end Go.Proofs.YtoadcnhcfodkgaaGreatDoor
