/-
  Statements of craft's take that the symbolic run doesn't take: a slice of frames, its length, and its places, for the seat YtoadcnhcfodkgaaGreatDoor.
-/
import Derived.Test.YtoadcnhcfodkgaaGreatDoorSxP
import Derived.Test.YtoadcnhcfodkgaaGreatDoorCwC
import Derived.Test.YtoadcnhcfodkgaaGreatDoorNScan
namespace Go.Proofs.YtoadcnhcfodkgaaGreatDoor
open Go.RowKit

/-- A slice of these frames, at block 3. -/
def SlOk (sl : Value) (l : List (UInt8 × List UInt8)) : Prop := (sl = .slice none 0 0 ∧ l = []) ∨ ∃ cap, sl = .slice (some ⟨3, 0, none⟩) l.length cap
theorem SlOk.real {sl v : Value} {l : List (UInt8 × List UInt8)} {bl : Bl} (h : SlOk sl l) (r : RV bl sl v) : ∃ A cap, v = .slice A l.length cap ∧ (l ≠ [] → ∃ B, bl[3]? = some (some B) ∧ A = some ⟨B, 0, none⟩) := by
  rcases h with ⟨rfl, rfl⟩ | ⟨cap, rfl⟩
  · exact ⟨none, 0, r, fun e => absurd rfl e⟩
  · obtain ⟨B, h1, e⟩ := r
    exact ⟨_, cap, e, fun _ => ⟨B, h1, rfl⟩⟩
/-- The frame at a place. -/
def frL (l : List (UInt8 × List UInt8)) (i : Int) : Fra := match l[i.toNat]? with
  | some f => ((f.1.toNat : Nat), ⟨f.2.toArray⟩)
  | none => (0, ⟨#[]⟩)
def r6 (ks : List Nat) (l : List (UInt8 × List UInt8)) (K : List Value → Xm → Prop) (vt : List Value) (m : Xm) : Prop :=
  SlOk (vt.getD 8 undef) l ∧ 33 < vt.length ∧ forget ks 67 5 K (((vt.set 31 (vt.getD 8 undef)).set 32 (.int .i64 (l.length : Nat))).set 33 (.int .i64 0)) m
def r8 (l : List (UInt8 × List UInt8)) (K : List Value → Xm → Prop) (vt : List Value) (m : Xm) : Prop :=
  match vt.getD 33 undef with
  | .int .i64 i => (0 ≤ i ∧ i.toNat < l.length) ∧ SlOk (vt.getD 31 undef) l ∧ m[3]? = some (cellsOf l) ∧ m.length = 5 ∧ 36 < vt.length ∧ K (((vt.set 35 .nilIface).set 36 .nilIface).set 13 (.pointer (some ⟨5, 0, none⟩))) (m ++ [[.int .i64 (frL l i).1, .string (frL l i).2]])
  | _ => False
section
variable {P : Program} {bs : List Nat} {w0 : World} {ds : List Deferred} {bl0 : Bl} {l : List (UInt8 × List UInt8)} {K : List Value → Xm → Prop} {Q : Exit → Act → World → Prop} {bl : Bl} {vt : List Value} {m : Xm} {a : Act} {w : World}
theorem put_get {a : Act} {d : Nat} {v : Value} (h : d < a.tmps.size) : (a.put (some d) v).eval (.tmp d) = v := by
  simp [Act.put, Act.eval, h]
theorem put_other {a : Act} {d e : Nat} {v : Value} (h : d ≠ e) : (a.put (some d) v).eval (.tmp e) = a.eval (.tmp e) := by
  simp [Act.put, Act.eval, Array.getElem?_setIfInBounds_ne h]
theorem put_size {a : Act} {d : Option Tmp} {v : Value} : (a.put d v).tmps.size = a.tmps.size := by
  cases d <;> simp [Act.put]
theorem r6_sound {ks : List Nat} {ops : Array Oper} {tS e : TypeId} {o0 o1 o2 : Oper} (hb : bl0.length ≤ 5) (hu : P.underlying tS = some (.slice e)) (ho : ops = #[o0, o1, o2])
    (h0 : o0.dst = some 31 ∧ o0.op = .move (.tmp 8) ∧ o0.guard = none) (h1 : o1.dst = some 32 ∧ o1.op = .call { callee := .builtin .len, args := #[.tmp 31], argTypes := #[tS] } ∧ o1.guard = none) (h2 : o2.dst = some 33 ∧ o2.op = .move (.const (.int .i64 0)) ∧ o2.guard = none)
    (h : r6 ks l K vt m) (r : Rl bs w0 ds bl0 bl vt m a w) (hK : ∀ bl vt m a w, K vt m → Rl bs w0 ds bl0 bl vt m a w → Q .normal a w) : (Code.region 6 ops false).wp P Q a w := by
  subst ho
  have hlen := r.F.len
  have hlt := h.2.1
  have hv := r.F.rv 8
  obtain ⟨A, cap, hs, _⟩ := h.1.real hv
  have hs' : a.eval (.tmp 8) = .slice A l.length cap := hs
  rw [hs] at hv
  refine wp_region ?_
  refine ops_val (o := o0) (v := .slice A l.length cap) (w' := w) rfl h0.2.2 (by simp [execOp, h0.2.1, hs']) ?_
  rw [h0.1]
  refine ops_val (o := o1) (v := .int .i64 (l.length : Nat)) (w' := w) rfl h1.2.2 ?_ ?_
  · have e1 : (a.put (some 31) (.slice A l.length cap)).eval (.tmp 31) = .slice A l.length cap := put_get (by omega)
    generalize a.put (some 31) (.slice A l.length cap) = a1 at e1 ⊢
    have r0 := run_under hu w
    simp [execOp, h1.2.1, resolve, invoke, builtin, e1, Builtin.len_, r0, goInt]
  rw [h1.1]
  refine ops_val (o := o2) (v := .int .i64 0) (w' := w) rfl h2.2.2 (by simp [execOp, h2.2.1, Act.eval]) ?_
  rw [h2.1]
  have F : FR bl _ (((a.put (some 31) (.slice A l.length cap)).put (some 32) (.int .i64 (l.length : Nat))).put (some 33) (.int .i64 0)).tmps := ((r.F.put hv (some 31)).put (show RV bl (.int .i64 (l.length : Nat)) (.int .i64 (l.length : Nat)) from rfl) (some 32)).put (show RV bl (.int .i64 0) (.int .i64 0) from rfl) (some 33)
  have r' : Rl bs w0 ds bl0 bl _ m (((a.put (some 31) (.slice A l.length cap)).put (some 32) (.int .i64 (l.length : Nat))).put (some 33) (.int .i64 0)) w := ⟨F, r.R, r.le, r.len, by rw [put_defers, put_defers, put_defers]; exact r.defers⟩
  obtain ⟨bl', vt', m', k1, k2⟩ := r'.cut hb h.2.2
  exact hK bl' vt' m' _ w k1 k2
theorem r8_sound {ops : Array Oper} {tS tF : TypeId} {o0 o1 o2 o3 : Oper} (hu : P.underlying tS = some (.slice tF)) (hz : qrun P (sizeOf tF) = some 2) (ha : qrun P (isAgg tF) = some true) {z : Value} (hzv : qrun P (zeroValue tF) = some z) (hzl : z.cells.toList.length = 2) (ho : ops = #[o0, o1, o2, o3])
    (h0 : o0.dst = some 35 ∧ o0.op = .indexAddr tS (.tmp 31) (.tmp 33) ∧ o0.guard = none) (h1 : o1.dst = some 36 ∧ o1.op = .load tF (.tmp 35) ∧ o1.guard = none) (h2 : o2.dst = some 13 ∧ o2.op = .alloc tF ∧ o2.guard = none) (h3 : o3.dst = none ∧ o3.op = .store tF (.tmp 13) (.tmp 36) ∧ o3.guard = none)
    (h : r8 l K vt m) (r : Rl bs w0 ds bl0 bl vt m a w) (hK : ∀ bl vt m a w, K vt m → Rl bs w0 ds bl0 bl vt m a w → Q .normal a w) : (Code.region 8 ops false).wp P Q a w := by
  subst ho
  have hlen := r.F.len
  unfold r8 at h
  split at h
  case h_2 => exact h.elim
  rename_i i hi
  obtain ⟨⟨hi0, hil⟩, hsl, hm3, hm5, hlt, hk⟩ := h
  have hiv := r.F.rv 33
  rw [hi] at hiv
  have hi' : a.eval (.tmp 33) = .int .i64 i := hiv
  obtain ⟨A, cap, hs, hB⟩ := hsl.real (r.F.rv 31)
  have hs' : a.eval (.tmp 31) = .slice A l.length cap := hs
  obtain ⟨B, hb3, rfl⟩ := hB (by rintro rfl; simp at hil)
  obtain ⟨row, e3, A3⟩ := r.R.arr 3 B hb3
  rw [hm3] at e3
  cases e3
  have hrow : loadV P tF (cellsOf l) (i.toNat * 2) = some (.agg #[.int .i64 (frL l i).1, .string (frL l i).2]) := by
    have hc := cellsOf_at l i.toNat hil
    have hcl := cellsOf_length l
    have hf : frL l i = (((l[i.toNat].1.toNat : Nat) : Int), (⟨l[i.toNat].2.toArray⟩ : ByteArray)) := by unfold frL; rw [List.getElem?_eq_getElem hil]
    unfold loadV
    rw [ha, hz]
    dsimp only
    rw [if_pos (by omega), hf]
    have hd : ((cellsOf l).drop (i.toNat * 2)).take 2 = [.int .i64 (l[i.toNat].1.toNat : Nat), .string ⟨l[i.toNat].2.toArray⟩] := by
      have d1 := (List.getElem?_eq_some_iff.1 hc.1)
      have d2 := (List.getElem?_eq_some_iff.1 hc.2)
      obtain ⟨q1, q2⟩ := d1
      obtain ⟨q3, q4⟩ := d2
      rw [List.drop_eq_getElem_cons q1, List.drop_eq_getElem_cons q3, q2, q4]
      rfl
    rw [hd]
  refine wp_region ?_
  refine ops_val (o := o0) (v := .pointer (some ⟨B, i.toNat * 2, none⟩)) (w' := w) rfl h0.2.2 ?_ ?_
  · have r0 := run_under hu w
    have r1 := qrun_run _ hz w
    have hil' : i < (l.length : Int) := by omega
    simp [execOp, h0.2.1, hs', hi', Instr.indexAt, asIntOf, r0, r1, hi0, hil', add_is, Sem.run_bind]
  rw [h0.1]
  refine ops_val (o := o1) (v := .agg #[.int .i64 (frL l i).1, .string (frL l i).2]) (w' := w) rfl h1.2.2 ?_ ?_
  · have e1 : (a.put (some 35) (.pointer (some ⟨B, i.toNat * 2, none⟩))).eval (.tmp 35) = .pointer (some ⟨B, i.toNat * 2, none⟩) := put_get (by omega)
    generalize a.put (some 35) (.pointer (some ⟨B, i.toNat * 2, none⟩)) = a1 at e1 ⊢
    have r1 := loadV_run hrow A3
    simp [execOp, h1.2.1, e1, Instr.loadAt, Instr.sureAddr, r1]
  rw [h1.1]
  have hw3 : (execOp ((a.put (some 35) (.pointer (some ⟨B, i.toNat * 2, none⟩))).put (some 36) (.agg #[.int .i64 (frL l i).1, .string (frL l i).2])).eval o2).run P w = .ok (.value (.pointer (some ⟨w.heap.size, 0, none⟩))) (w.alloc (.cells z.cells.toList.toArray tF)) := by
    have r := qrun_run _ hzv w
    simp [execOp, h2.2.1, Instr.alloc, newVar, newRow, newObj, r, Sem.run]
  refine ops_val (o := o2) rfl h2.2.2 hw3 ?_
  rw [h2.1]
  have hbl : bl.length = 5 := r.len.trans hm5
  have W := r.R.wide 1 [[.int .i64 (frL l i).1, .string (frL l i).2]]
  obtain ⟨N, hle⟩ := W.new (k := 5) (by rw [List.getElem?_append_right (by omega), hbl]; rfl) (by rw [List.length_append, hm5]; exact Nat.lt_succ_self 5) z.cells.toList tF
  have hg5 : ((bl ++ List.replicate 1 none).set 5 (some w.heap.size))[5]? = some (some w.heap.size) := List.getElem?_set_self (by rw [List.length_append, hbl]; exact Nat.lt_succ_self 5)
  have hm6 : ((m ++ [[Value.int .i64 (frL l i).1, Value.string (frL l i).2]]).set 5 z.cells.toList)[5]? = some z.cells.toList := List.getElem?_set_self (by rw [List.length_append, hm5]; exact Nat.lt_succ_self 5)
  obtain ⟨row, e5, A5⟩ := N.arr 5 _ hg5
  rw [hm6] at e5
  cases e5
  have hst : storeV P tF z.cells.toList 0 (.agg #[.int .i64 (frL l i).1, .string (frL l i).2]) = some (setAt z.cells.toList 0 [.int .i64 (frL l i).1, .string (frL l i).2]) := by
    unfold storeV
    rw [hz]
    dsimp only
    rw [if_pos (by rw [hzl]; rfl)]
    rfl
  obtain ⟨r3, _, hl3⟩ := storeV_run hst A5
  refine ops_skip (o := o3) (w' := wset (w.alloc (.cells z.cells.toList.toArray tF)) w.heap.size 0 [.int .i64 (frL l i).1, .string (frL l i).2]) rfl h3.2.2 ?_ ?_
  · have e1 : (((a.put (some 35) (.pointer (some ⟨B, i.toNat * 2, none⟩))).put (some 36) (.agg #[.int .i64 (frL l i).1, .string (frL l i).2])).put (some 13) (.pointer (some ⟨w.heap.size, 0, none⟩))).eval (.tmp 13) = .pointer (some ⟨w.heap.size, 0, none⟩) := put_get (by rw [put_size, put_size]; omega)
    have e2 : (((a.put (some 35) (.pointer (some ⟨B, i.toNat * 2, none⟩))).put (some 36) (.agg #[.int .i64 (frL l i).1, .string (frL l i).2])).put (some 13) (.pointer (some ⟨w.heap.size, 0, none⟩))).eval (.tmp 36) = .agg #[.int .i64 (frL l i).1, .string (frL l i).2] := (put_other (by decide)).trans (put_get (by rw [put_size]; omega))
    generalize ((a.put (some 35) (.pointer (some ⟨B, i.toNat * 2, none⟩))).put (some 36) (.agg #[.int .i64 (frL l i).1, .string (frL l i).2])).put (some 13) (.pointer (some ⟨w.heap.size, 0, none⟩)) = a3 at e1 e2 ⊢
    simp [execOp, h3.2.1, e1, e2, Instr.storeAt, Instr.sureAddr, r3]
    rfl
  rw [h3.1]
  have hrow5 : setAt z.cells.toList 0 [.int .i64 (frL l i).1, .string (frL l i).2] = [.int .i64 (frL l i).1, .string (frL l i).2] := by
    match z.cells.toList, hzl with
    | [_, _], _ => rfl
  have R5 := N.store hg5 hm6 0 [.int .i64 (frL l i).1, .string (frL l i).2] hl3
  rw [hrow5] at R5
  have hmm : ((m ++ [[Value.int .i64 (frL l i).1, Value.string (frL l i).2]]).set 5 z.cells.toList).set 5 [Value.int .i64 (frL l i).1, Value.string (frL l i).2] = m ++ [[Value.int .i64 (frL l i).1, Value.string (frL l i).2]] := by
    rw [List.set_set, List.set_append_right _ _ (by omega), hm5]
    rfl
  rw [hmm] at R5
  have hL : Le bl ((bl ++ List.replicate 1 none).set 5 (some w.heap.size)) := (Le.wide bl 1).trans hle
  exact hK _ _ _ _ _ hk ⟨(((r.F.mono hL).put (v := .nilIface) (v' := .pointer (some ⟨B, i.toNat * 2, none⟩)) rfl (some 35)).put (v := .nilIface) (v' := .agg #[.int .i64 (frL l i).1, .string (frL l i).2]) rfl (some 36)).put (RV.at hg5 0) (some 13), R5, r.le.trans hL, by rw [List.length_set, List.length_append, List.length_append, hbl, hm5]; rfl, by rw [put_defers, put_defers, put_defers, put_defers]; exact r.defers⟩
end
end Go.Proofs.YtoadcnhcfodkgaaGreatDoor
