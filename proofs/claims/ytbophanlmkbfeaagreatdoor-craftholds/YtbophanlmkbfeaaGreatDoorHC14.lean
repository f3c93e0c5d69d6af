/-
A part.
A part.
A part.
A part.
-/
import Derived.Lib.IndexBytes
import Derived.Test.YtbophanlmkbfeaaGreatDoorHC13
import Derived.Test.YtbophanlmkbfeaaGreatDoorHC10
namespace Go.Proofs.YtbophanlmkbfeaaGreatDoor
open Go.RowKit
set_option maxHeartbeats 4000000 in
set_option maxRecDepth 100000 in
theorem scan_any (s : ByteArray) (w : World) (hs : s.size ≤ 5000) :
    Calls Tryz.prog 43 #[.string s] w fun e w' => ScanEnd s.data.toList w e w' := by
 obtain ⟨i0, hi, hz0, hz1, hz2⟩ := info_parts frame_info
 have hL : s.data.toList.length ≤ 5000 := hs
 generalize hLe : s.data.toList = L at hL ⊢
 have HS : Hid (s.data.toList = L) := hLe
 clear hLe
 go_enter Tryz.func43, Tryz.ntmps43
 go_wp2
 go_loopw [0, 5, 6] (fun sv v ov wr => ∃ (t : ByteArray) (acc : List (UInt8 × List UInt8)) (o : Nat), sv = .string t ∧ ov = .int .i64 o ∧ SoFar L acc t.data.toList o ∧ Frames w.heap.size wr v acc ∧ Below w.heap.size w wr)
  (fun sv _ _ _ => lenS sv)
 case atStart => exact ⟨s, [], 0, rfl, rfl, by rw [HS.out]; exact SoFar.start L, World.ownsRow_nil _ _ _ _, Below.refl _ _⟩
 case round =>
  obtain ⟨t, acc, o, rfl, rfl, hf, hown, hnx⟩ := hrel
  have htl : t.data.toList.length = t.size := rfl
  have hbd := hf.2
  have HF : Hid (SoFar L acc t.data.toList o) := hf
  have HO : Hid (Frames w.heap.size wr u5 acc) := hown
  clear hf hown
  by_cases h0 : t.size = 0
  ·obtain rfl : t = ⟨#[]⟩ := ByteArray.ext (Array.eq_empty_of_size_eq_zero h0)
   have HE : Hid (scanL L = (acc, [], o)) := HF.out.stop look_nil
   go_wp2
   go_ret3
   exact ⟨_, ⟨#[]⟩, by rw [HE.out]; rfl, by rw [HE.out], by rw [HE.out]; exact HO.out, hnx⟩
  have hne : t.toList.isEmpty = false := not_empty h0
  have hlk := look_any t
  cases hlo : look t.data.toList with
  | none =>
   rw [lookC_of (by omega) hlo, show lookP none = (1, 0) from rfl] at hlk
   have HE : Hid (scanL L = (acc, t.data.toList, o)) := HF.out.stop hlo
   clear hlo
   go_wp2_with (first | (go_at_call 80; refine (hlk _).mono ?_; rintro e w1 ⟨rfl, hb1⟩) | (go_at_call 81; refine (clone_any t _ (by omega)).mono ?_; rintro e w2 ⟨rfl, hb2⟩))
   go_ret3
   have hb3 := hb1.trans (hb2.mono hb1.size)
   exact ⟨_, t, by rw [HE.out]; rfl, by rw [HE.out], by rw [HE.out]; exact HO.out.below hb3, hnx.trans (hb3.mono hnx.size)⟩
  | some j =>
   cases j with
   | zero =>
    rw [lookC_of (by omega) hlo, show lookP (some 0) = (0, 0) from rfl] at hlk
    have HE : Hid (SoFar L acc (t.data.toList.drop 1) (o + 1)) := HF.out.skip hlo
    have hsl : ∀ W : World, (Instr.slice 9 (.string t) (some (.int .i64 1)) none none).run Tryz.prog W = .ok (.string (t.extract 1 t.size)) W := fun W => by
     rw [run_slice_string_from_if W 9 t .i64 1 Tryz.underlying9, if_pos (by omega)]
     rfl
    obtain ⟨u, hu⟩ : ∃ u : ByteArray, u = t.extract 1 t.size := ⟨_, rfl⟩
    rw [← hu] at hsl
    have hul : Hid (u.data.toList = t.data.toList.drop 1) := by show _ = _; rw [hu]; exact Lib.extract_to_end t 1
    have hus : u.size = t.size - 1 := by rw [hu, ByteArray.size_extract]; omega
    clear hlo hu
    go_wp2_with (go_at_call 80; refine (hlk _).mono ?_; rintro e w1 ⟨rfl, hb1⟩)
    go_roundw
    case rel => exact ⟨u, acc, o + 1, rfl, by go_num, by rw [hul.out]; exact HE.out, HO.out.below hb1, hnx.trans (hb1.mono hnx.size)⟩
    case measure => simp [lenS]; omega
   | succ n =>
    rw [lookC_of (by omega) hlo, show lookP (some (n + 1)) = (2, (n : Int) + 5) from rfl] at hlk
    have HE : Hid (SoFar L (acc ++ [(t.data.toList.getD 1 0, (t.data.toList.drop 3).take n)]) (t.data.toList.drop (n + 5)) o) := HF.out.frame hlo
    have h5 := ((look_len hlo).2 n rfl).1
    have hn64 := ((look_len hlo).2 n rfl).2.2
    have l1 : 1 < t.size := by omega
    obtain ⟨k, hk⟩ : ∃ k : Nat, k = (t.data.toList.getD 1 0).toNat := ⟨_, rfl⟩
    have hsl : ∀ W : World, (Instr.slice 9 (.string t) none (some (.int .i64 ((n : Int) + 5))) none).run Tryz.prog W = .ok (.string (t.extract 0 (n + 5))) W := fun W => by
     rw [run_slice_string_h W 9 t Tryz.underlying9 .i64 ((n : Int) + 5) (by omega) (by omega), show ((n : Int) + 5).toNat = n + 5 by omega]
    have hsr : ∀ W : World, (Instr.slice 9 (.string t) (some (.int .i64 ((n : Int) + 5))) none none).run Tryz.prog W = .ok (.string (t.extract (n + 5) t.size)) W := fun W => by
     rw [run_slice_string_from_if W 9 t .i64 ((n : Int) + 5) Tryz.underlying9, if_pos (by omega), show ((n : Int) + 5).toNat = n + 5 by omega]
    obtain ⟨x, hx⟩ : ∃ u : ByteArray, u = t.extract 0 (n + 5) := ⟨_, rfl⟩
    obtain ⟨y, hy⟩ : ∃ u : ByteArray, u = t.extract (n + 5) t.size := ⟨_, rfl⟩
    rw [← hx] at hsl
    rw [← hy] at hsr
    have hxs : x.size = n + 5 := by rw [hx, ByteArray.size_extract]; omega
    have hys : y.size = t.size - (n + 5) := by rw [hy, ByteArray.size_extract]; omega
    have hxl : x.data.toList = t.data.toList.take (n + 5) := by rw [hx, extract_list]; rfl
    have hyl : Hid (y.data.toList = t.data.toList.drop (n + 5)) := by show _ = _; rw [hy]; exact Lib.extract_to_end t (n + 5)
    have x1 : 1 < x.size := by omega
    have hxk : (x[1]'x1).toNat = k := by
     rw [← getD_of x1, hxl, hk]
     simp [List.getD_eq_getElem?_getD]
    have hun := fun W => unwrap_any x k W (by omega) (by omega) hxk
    obtain ⟨d, hd⟩ : ∃ d : ByteArray, d = x.extract 3 (x.size - 2) := ⟨_, rfl⟩
    rw [← hd] at hun
    have hdl : d = ⟨((t.data.toList.drop 3).take n).toArray⟩ := mkBytes (by
     rw [hd, extract_list, hxl, List.drop_take, List.take_take]
     congr 1
     omega)
    have HN : Hid (cellsOf (acc ++ [(t.data.toList.getD 1 0, (t.data.toList.drop 3).take n)]) = cellsOf acc ++ [.int .i64 (k : Nat), .string d]) := by
     show _ = _
     rw [cellsOf_append, hk, hdl]
     rfl
    have HLen : Hid ((acc ++ [(t.data.toList.getD 1 0, (t.data.toList.drop 3).take n)]).length = acc.length + 1) := by show _ = _; simp
    clear hlo hx hy hxl hd hdl hk
    generalize acc ++ [(t.data.toList.getD 1 0, (t.data.toList.drop 3).take n)] = acc' at HE HN HLen
    go_wp2_with (first
     | (go_at_call 80; refine (hlk _).mono ?_; rintro e w1 ⟨rfl, hb1⟩)
     | (go_at_call 82; refine (hun _).mono ?_; rintro e w2 ⟨rfl, hb2⟩)
     | (at_builtin; refine wpList_append_own _ rfl (.tmp 29) (.tmp 34) 64 rfl w.heap.size 49 i0 (.agg #[.int .i64 0, .string ⟨#[]⟩]) 2 24 Tryz.underlying64 hi hz0 hz1 hz2 rfl (by decide) _ _ _ rfl (((HO.out.below hb1).below hb2).alloc _) ⟨w2.heap.size, 0, none⟩ 1 1 [.int .i64 (k : Nat), .string d] rfl rfl (cell_two_new _ _ _ _) (by intro u hu; simp at hu; rcases hu with rfl | rfl <;> rfl) (by unfold maxLen; omega) (by omega) (by have := hb2.size; have := hb1.size; have := hnx.size; simp; omega) ?_; intro v3 w3 hown3 hgrow3 hnil3))
    have hF := (HO.out.below hb1).below hb2
    have hb3 := hb1.trans (hb2.mono hb1.size)
    have hbw := hnx.trans (hb3.mono hnx.size)
    have hbz := (hbw.alloc hbw.size (.cells #[.int .i64 (k : Nat), .string d] 49)).grown hgrow3 (by have := hbw.size; simp; omega) (fun j hj => (World.ownsRow.lt hF j hj).1)
    clear hnil3 hgrow3
    go_roundw
    case rel => exact ⟨y, acc', o, rfl, rfl, by rw [hyl.out]; exact HE.out, by unfold Frames; rw [HLen.out, HN.out]; exact hown3, hbz⟩
    case measure => simp [lenS]; omega
end Go.Proofs.YtbophanlmkbfeaaGreatDoor
namespace Go.Proofs.YtbophanlmkbfeaaGreatDoor
open Go.RowKit
def SlOk (sl : Value) (l : List (UInt8 × List UInt8)) : Prop := (sl = .slice none 0 0 ∧ l = []) ∨ ∃ cap, sl = .slice (some ⟨3, 0, none⟩) l.length cap
theorem SlOk.real {sl v : Value} {l : List (UInt8 × List UInt8)} {bl : Bl} (h : SlOk sl l) (r : RV bl sl v) : ∃ A cap, v = .slice A l.length cap ∧ (l ≠ [] → ∃ B, bl[3]? = some (some B) ∧ A = some ⟨B, 0, none⟩) := by
 rcases h with ⟨rfl, rfl⟩ | ⟨cap, rfl⟩
 ·exact ⟨none, 0, r, fun e => absurd rfl e⟩
 ·obtain ⟨B, h1, e⟩ := r
  exact ⟨_, cap, e, fun _ => ⟨B, h1, rfl⟩⟩
def frL (l : List (UInt8 × List UInt8)) (i : Int) : Fra := match l[i.toNat]? with
 | some f => ((f.1.toNat : Nat), ⟨f.2.toArray⟩)
 | none => (0, ⟨#[]⟩)
def r6 (ks : List Nat) (l : List (UInt8 × List UInt8)) (K : List Value → Xm → Prop) (vt : List Value) (m : Xm) : Prop :=
 SlOk (vt.getD 8 undef) l ∧ 33 < vt.length ∧ forget ks 67 5 K (((vt.set 31 (vt.getD 8 undef)).set 32 (.int .i64 (l.length : Nat))).set 33 (.int .i64 0)) m
def r8 (l : List (UInt8 × List UInt8)) (K : List Value → Xm → Prop) (vt : List Value) (m : Xm) : Prop :=
 match vt.getD 33 undef with
 | .int .i64 i => (0 ≤ i ∧ i.toNat < l.length) ∧ SlOk (vt.getD 31 undef) l ∧ m[3]? = some (cellsOf l) ∧ m.length = 5 ∧ 36 < vt.length ∧ K (((vt.set 35 .nilIface).set 36 .nilIface).set 13 (.pointer (some ⟨5, 0, none⟩))) (m ++ [[.int .i64 (frL l i).1, .string (frL l i).2]])
 | _ => False
section
variable {P : Program} {bs : List Nat} {w0 : World} {ds : List Deferred} {bl0 : Bl} {l : List (UInt8 × List UInt8)} {K : List Value → Xm → Prop} {Q : Exit → Act → World → Prop} {bl : Bl} {vt : List Value} {m : Xm} {a : Act} {w : World}
theorem put_get {a : Act} {d : Nat} {v : Value} (h : d < a.tmps.size) : (a.put (some d) v).eval (.tmp d) = v := by
 simp [Act.put, Act.eval, h]
theorem put_other {a : Act} {d e : Nat} {v : Value} (h : d ≠ e) : (a.put (some d) v).eval (.tmp e) = a.eval (.tmp e) := by
 simp [Act.put, Act.eval, Array.getElem?_setIfInBounds_ne h]
theorem put_size {a : Act} {d : Option Tmp} {v : Value} : (a.put d v).tmps.size = a.tmps.size := by
 cases d <;> simp [Act.put]
theorem r6_sound {ks : List Nat} {ops : Array Oper} {tS e : TypeId} {o0 o1 o2 : Oper} (hb : bl0.length ≤ 5) (hu : P.underlying tS = some (.slice e)) (ho : ops = #[o0, o1, o2])
    (h0 : o0.dst = some 31 ∧ o0.op = .move (.tmp 8) ∧ o0.guard = none) (h1 : o1.dst = some 32 ∧ o1.op = .call { callee := .builtin .len, args := #[.tmp 31], argTypes := #[tS] } ∧ o1.guard = none) (h2 : o2.dst = some 33 ∧ o2.op = .move (.const (.int .i64 0)) ∧ o2.guard = none)
    (h : r6 ks l K vt m) (r : Rl bs w0 ds bl0 bl vt m a w) (hK : ∀ bl vt m a w, K vt m → Rl bs w0 ds bl0 bl vt m a w → Q .normal a w) : (Code.region 6 ops false).wp P Q a w := by
 subst ho
 have hlen := r.F.len
 have hlt := h.2.1
 have hv := r.F.rv 8
 obtain ⟨A, cap, hs, _⟩ := h.1.real hv
 have hs' : a.eval (.tmp 8) = .slice A l.length cap := hs
 rw [hs] at hv
 refine wp_region ?_
 refine ops_val (o := o0) (v := .slice A l.length cap) (w' := w) rfl h0.2.2 (by simp [execOp, h0.2.1, hs']) ?_
 rw [h0.1]
 refine ops_val (o := o1) (v := .int .i64 (l.length : Nat)) (w' := w) rfl h1.2.2 ?_ ?_
 ·have e1 : (a.put (some 31) (.slice A l.length cap)).eval (.tmp 31) = .slice A l.length cap := put_get (by omega)
  generalize a.put (some 31) (.slice A l.length cap) = a1 at e1 ⊢
  have r0 := run_under hu w
  simp [execOp, h1.2.1, resolve, invoke, builtin, e1, Builtin.len_, r0, goInt]
 rw [h1.1]
 refine ops_val (o := o2) (v := .int .i64 0) (w' := w) rfl h2.2.2 (by simp [execOp, h2.2.1, Act.eval]) ?_
 rw [h2.1]
 have F : FR bl _ (((a.put (some 31) (.slice A l.length cap)).put (some 32) (.int .i64 (l.length : Nat))).put (some 33) (.int .i64 0)).tmps := ((r.F.put hv (some 31)).put (show RV bl (.int .i64 (l.length : Nat)) (.int .i64 (l.length : Nat)) from rfl) (some 32)).put (show RV bl (.int .i64 0) (.int .i64 0) from rfl) (some 33)
 have r' : Rl bs w0 ds bl0 bl _ m (((a.put (some 31) (.slice A l.length cap)).put (some 32) (.int .i64 (l.length : Nat))).put (some 33) (.int .i64 0)) w := ⟨F, r.R, r.le, r.len, by rw [put_defers, put_defers, put_defers]; exact r.defers⟩
 obtain ⟨bl', vt', m', k1, k2⟩ := r'.cut hb h.2.2
 exact hK bl' vt' m' _ w k1 k2
theorem r8_sound {ops : Array Oper} {tS tF : TypeId} {o0 o1 o2 o3 : Oper} (hu : P.underlying tS = some (.slice tF)) (hz : qrun P (sizeOf tF) = some 2) (ha : qrun P (isAgg tF) = some true) {z : Value} (hzv : qrun P (zeroValue tF) = some z) (hzl : z.cells.toList.length = 2) (ho : ops = #[o0, o1, o2, o3])
    (h0 : o0.dst = some 35 ∧ o0.op = .indexAddr tS (.tmp 31) (.tmp 33) ∧ o0.guard = none) (h1 : o1.dst = some 36 ∧ o1.op = .load tF (.tmp 35) ∧ o1.guard = none) (h2 : o2.dst = some 13 ∧ o2.op = .alloc tF ∧ o2.guard = none) (h3 : o3.dst = none ∧ o3.op = .store tF (.tmp 13) (.tmp 36) ∧ o3.guard = none)
    (h : r8 l K vt m) (r : Rl bs w0 ds bl0 bl vt m a w) (hK : ∀ bl vt m a w, K vt m → Rl bs w0 ds bl0 bl vt m a w → Q .normal a w) : (Code.region 8 ops false).wp P Q a w := by
 subst ho
 have hlen := r.F.len
 unfold r8 at h
 split at h
 case h_2 => exact h.elim
 rename_i i hi
 obtain ⟨⟨hi0, hil⟩, hsl, hm3, hm5, hlt, hk⟩ := h
 have hiv := r.F.rv 33
 rw [hi] at hiv
 have hi' : a.eval (.tmp 33) = .int .i64 i := hiv
 obtain ⟨A, cap, hs, hB⟩ := hsl.real (r.F.rv 31)
 have hs' : a.eval (.tmp 31) = .slice A l.length cap := hs
 obtain ⟨B, hb3, rfl⟩ := hB (by rintro rfl; simp at hil)
 obtain ⟨row, e3, A3⟩ := r.R.arr 3 B hb3
 rw [hm3] at e3
 cases e3
 have hrow : loadV P tF (cellsOf l) (i.toNat * 2) = some (.agg #[.int .i64 (frL l i).1, .string (frL l i).2]) := by
  have hc := cellsOf_at l i.toNat hil
  have hcl := cellsOf_length l
  have hf : frL l i = (((l[i.toNat].1.toNat : Nat) : Int), (⟨l[i.toNat].2.toArray⟩ : ByteArray)) := by unfold frL; rw [List.getElem?_eq_getElem hil]
  unfold loadV
  rw [ha, hz]
  dsimp only
  rw [if_pos (by omega), hf]
  have hd : ((cellsOf l).drop (i.toNat * 2)).take 2 = [.int .i64 (l[i.toNat].1.toNat : Nat), .string ⟨l[i.toNat].2.toArray⟩] := by
   have d1 := (List.getElem?_eq_some_iff.1 hc.1)
   have d2 := (List.getElem?_eq_some_iff.1 hc.2)
   obtain ⟨q1, q2⟩ := d1
   obtain ⟨q3, q4⟩ := d2
   rw [List.drop_eq_getElem_cons q1, List.drop_eq_getElem_cons q3, q2, q4]
   rfl
  rw [hd]
 refine wp_region ?_
 refine ops_val (o := o0) (v := .pointer (some ⟨B, i.toNat * 2, none⟩)) (w' := w) rfl h0.2.2 ?_ ?_
 ·have r0 := run_under hu w
  have r1 := qrun_run _ hz w
  have hil' : i < (l.length : Int) := by omega
  simp [execOp, h0.2.1, hs', hi', Instr.indexAt, asIntOf, r0, r1, hi0, hil', add_is, Sem.run_bind]
 rw [h0.1]
 refine ops_val (o := o1) (v := .agg #[.int .i64 (frL l i).1, .string (frL l i).2]) (w' := w) rfl h1.2.2 ?_ ?_
 ·have e1 : (a.put (some 35) (.pointer (some ⟨B, i.toNat * 2, none⟩))).eval (.tmp 35) = .pointer (some ⟨B, i.toNat * 2, none⟩) := put_get (by omega)
  generalize a.put (some 35) (.pointer (some ⟨B, i.toNat * 2, none⟩)) = a1 at e1 ⊢
  have r1 := loadV_run hrow A3
  simp [execOp, h1.2.1, e1, Instr.loadAt, Instr.sureAddr, r1]
 rw [h1.1]
 have hw3 : (execOp ((a.put (some 35) (.pointer (some ⟨B, i.toNat * 2, none⟩))).put (some 36) (.agg #[.int .i64 (frL l i).1, .string (frL l i).2])).eval o2).run P w = .ok (.value (.pointer (some ⟨w.heap.size, 0, none⟩))) (w.alloc (.cells z.cells.toList.toArray tF)) := by
  have r := qrun_run _ hzv w
  simp [execOp, h2.2.1, Instr.alloc, newVar, newRow, newObj, r, Sem.run]
 refine ops_val (o := o2) rfl h2.2.2 hw3 ?_
 rw [h2.1]
 have hbl : bl.length = 5 := r.len.trans hm5
 have W := r.R.wide 1 [[.int .i64 (frL l i).1, .string (frL l i).2]]
 obtain ⟨N, hle⟩ := W.new (k := 5) (by rw [List.getElem?_append_right (by omega), hbl]; rfl) (by rw [List.length_append, hm5]; exact Nat.lt_succ_self 5) z.cells.toList tF
 have hg5 : ((bl ++ List.replicate 1 none).set 5 (some w.heap.size))[5]? = some (some w.heap.size) := List.getElem?_set_self (by rw [List.length_append, hbl]; exact Nat.lt_succ_self 5)
 have hm6 : ((m ++ [[Value.int .i64 (frL l i).1, Value.string (frL l i).2]]).set 5 z.cells.toList)[5]? = some z.cells.toList := List.getElem?_set_self (by rw [List.length_append, hm5]; exact Nat.lt_succ_self 5)
 obtain ⟨row, e5, A5⟩ := N.arr 5 _ hg5
 rw [hm6] at e5
 cases e5
 have hst : storeV P tF z.cells.toList 0 (.agg #[.int .i64 (frL l i).1, .string (frL l i).2]) = some (setAt z.cells.toList 0 [.int .i64 (frL l i).1, .string (frL l i).2]) := by
  unfold storeV
  rw [hz]
  dsimp only
  rw [if_pos (by rw [hzl]; rfl)]
  rfl
 obtain ⟨r3, _, hl3⟩ := storeV_run hst A5
 refine ops_skip (o := o3) (w' := wset (w.alloc (.cells z.cells.toList.toArray tF)) w.heap.size 0 [.int .i64 (frL l i).1, .string (frL l i).2]) rfl h3.2.2 ?_ ?_
 ·have e1 : (((a.put (some 35) (.pointer (some ⟨B, i.toNat * 2, none⟩))).put (some 36) (.agg #[.int .i64 (frL l i).1, .string (frL l i).2])).put (some 13) (.pointer (some ⟨w.heap.size, 0, none⟩))).eval (.tmp 13) = .pointer (some ⟨w.heap.size, 0, none⟩) := put_get (by rw [put_size, put_size]; omega)
  have e2 : (((a.put (some 35) (.pointer (some ⟨B, i.toNat * 2, none⟩))).put (some 36) (.agg #[.int .i64 (frL l i).1, .string (frL l i).2])).put (some 13) (.pointer (some ⟨w.heap.size, 0, none⟩))).eval (.tmp 36) = .agg #[.int .i64 (frL l i).1, .string (frL l i).2] := (put_other (by decide)).trans (put_get (by rw [put_size]; omega))
  generalize ((a.put (some 35) (.pointer (some ⟨B, i.toNat * 2, none⟩))).put (some 36) (.agg #[.int .i64 (frL l i).1, .string (frL l i).2])).put (some 13) (.pointer (some ⟨w.heap.size, 0, none⟩)) = a3 at e1 e2 ⊢
  simp [execOp, h3.2.1, e1, e2, Instr.storeAt, Instr.sureAddr, r3]
  rfl
 rw [h3.1]
 have hrow5 : setAt z.cells.toList 0 [.int .i64 (frL l i).1, .string (frL l i).2] = [.int .i64 (frL l i).1, .string (frL l i).2] := by
  match z.cells.toList, hzl with
  | [_, _], _ => rfl
 have R5 := N.store hg5 hm6 0 [.int .i64 (frL l i).1, .string (frL l i).2] hl3
 rw [hrow5] at R5
 have hmm : ((m ++ [[Value.int .i64 (frL l i).1, Value.string (frL l i).2]]).set 5 z.cells.toList).set 5 [Value.int .i64 (frL l i).1, Value.string (frL l i).2] = m ++ [[Value.int .i64 (frL l i).1, Value.string (frL l i).2]] := by
  rw [List.set_set, List.set_append_right _ _ (by omega), hm5]
  rfl
 rw [hmm] at R5
 have hL : Le bl ((bl ++ List.replicate 1 none).set 5 (some w.heap.size)) := (Le.wide bl 1).trans hle
 exact hK _ _ _ _ _ hk ⟨(((r.F.mono hL).put (v := .nilIface) (v' := .pointer (some ⟨B, i.toNat * 2, none⟩)) rfl (some 35)).put (v := .nilIface) (v' := .agg #[.int .i64 (frL l i).1, .string (frL l i).2]) rfl (some 36)).put (RV.at hg5 0) (some 13), R5, r.le.trans hL, by rw [List.length_set, List.length_append, List.length_append, hbl, hm5]; rfl, by rw [put_defers, put_defers, put_defers, put_defers]; exact r.defers⟩
end
end Go.Proofs.YtbophanlmkbfeaaGreatDoor
namespace Go.Proofs.YtbophanlmkbfeaaGreatDoor
open Go.RowKit
theorem last_at {bl : Bl} {x : Option Nat} {i B : Nat} (h : (bl ++ [x])[i]? = some (some B)) : bl[i]? = some (some B) ∨ (i = bl.length ∧ x = some B) := by
 by_cases e : i < bl.length
 ·rw [List.getElem?_append_left e] at h
  exact .inl h
 ·rw [List.getElem?_append_right (by omega)] at h
  have hi := (List.getElem?_eq_some_iff.1 h).1
  simp only [List.length_cons, List.length_nil] at hi
  have e2 : i = bl.length := by omega
  subst e2
  rw [Nat.sub_self] at h
  exact .inr ⟨rfl, Option.some.inj h⟩
theorem RW.add {bs : List Nat} {w0 : World} {bl : Bl} {m : Xm} {w : World} (h : RW bs w0 bl m w) (hl : bl.length = m.length) {g : Nat} {row : List Value} (A : Arr g row w) (hg : w0.heap.size ≤ g) (hn : ∀ k : Nat, bl[k]? ≠ some (some g)) : RW bs w0 (bl ++ [some g]) (m ++ [row]) w := by
 refine ⟨fun i B hi => ?_, fun i j B hi hj => ?_, fun i B hi => ?_, h.os, h.tape, h.output, h.size, h.block, h.gw⟩
 ·rcases last_at hi with h1 | ⟨rfl, e⟩
  ·obtain ⟨l, h2, A2⟩ := h.arr i B h1
   exact ⟨l, by rw [List.getElem?_append_left (List.getElem?_eq_some_iff.1 h2).1]; exact h2, A2⟩
  ·cases e
   exact ⟨row, by rw [hl, List.getElem?_append_right (Nat.le_refl _), Nat.sub_self]; rfl, A⟩
 ·rcases last_at hi with h1 | ⟨rfl, e⟩ <;> rcases last_at hj with h2 | ⟨rfl, e2⟩
  ·exact h.inj i j B h1 h2
  ·cases e2; exact absurd h1 (hn i)
  ·cases e; exact absurd h2 (hn j)
  ·rfl
 ·rcases last_at hi with h1 | ⟨rfl, e⟩
  ·exact (h.own i B h1).imp id (Or.imp id fun e => by rw [List.getElem?_append_left (List.getElem?_eq_some_iff.1 e).1]; exact e)
  ·cases e; exact .inr (.inl hg)
theorem Le.last (bl : Bl) (x : Option Nat) : Le bl (bl ++ [x]) := fun k B hk => by
 rw [List.getElem?_append_left (List.getElem?_eq_some_iff.1 hk).1]
 exact hk
theorem arr_cells {w : World} {g : Nat} {cur : Array Value} {e : TypeId} {xs : List Value} {n : Nat} (h : w.heap[g]? = some (.cells cur e (0, 0))) (hx : cur.toList.take n = xs) : Arr g xs w := by
 refine ⟨fun i hi => ?_, fun i hi => ?_, (Array.getElem?_eq_some_iff.1 h).1⟩
 ·have h1 : xs[i]? = cur[i]? := by
   subst hx
   rw [List.length_take] at hi
   rw [List.getElem?_take_of_lt (by omega), Array.getElem?_toList]
  rw [List.getElem?_eq_getElem hi] at h1
  simp [World.cell?, h, ← h1]
 ·simp [World.frozen?, h]
theorem RW.frames {bs : List Nat} {w0 : World} {bl : Bl} {m : Xm} {w w' : World} (h : RW bs w0 bl m w) (hl : bl.length = 3) (hm : m.length = 3) (hb : Below w.heap.size w w') {v : Value} {l : List (UInt8 × List UInt8)} (hf : Frames w.heap.size w' v l) :
    ∃ x sl, SlOk sl l ∧ RV (bl ++ [x]) sl v ∧ RW bs w0 (bl ++ [x]) (m ++ [cellsOf l]) w' := by
 have h' := h.pure hb
 rcases hf.2 with ⟨rfl, h0⟩ | ⟨g, cap, cur, rfl, hg, hgg, _, _, _, hx⟩
 ·exact ⟨none, .slice none 0 0, .inl ⟨rfl, List.length_eq_zero_iff.1 h0⟩, rfl, h'.wide 1 _⟩
 ·have h3 : (bl ++ [some g])[3]? = some (some g) := by rw [List.getElem?_append_right (by omega), hl]; rfl
  refine ⟨some g, .slice (some ⟨3, 0, none⟩) l.length cap, .inr ⟨cap, rfl⟩, ⟨g, h3, rfl⟩, h'.add (hl.trans hm.symm) (arr_cells hgg hx) (Nat.le_trans h.size hg) (fun k hk => ?_)⟩
  obtain ⟨_, _, A⟩ := h.arr k g hk
  have := A.lies
  omega
def restOf (L : List UInt8) : ByteArray := ⟨(scanL L).2.1.toArray⟩
def r1 (K : List Value → Xm → Prop) (vt : List Value) (m : Xm) : Prop :=
 match vt.getD 3 undef, vt.getD 2 undef, m.headD [] with
 | .pointer (some ⟨0, 0, none⟩), .string s1, _ :: _ :: .string s0 :: _ =>
  s0.size + s1.size ≤ 5000 ∧ m.length = 3 ∧ vt.length = 67 ∧ ∀ sl, SlOk sl (scanL (s0 ++ s1).data.toList).1 →
   K ((((((((((((vt.set 15 .nilIface).set 16 .nilIface).set 17 .nilIface).set 18 .nilIface).set 19 .nilIface).set 14 .nilIface).set 20 sl).set 21 (.string (restOf (s0 ++ s1).data.toList))).set 22 (.int .i64 ((scanL (s0 ++ s1).data.toList).2.2 : Nat))).set 8 sl).set 9 (.string (restOf (s0 ++ s1).data.toList))).set 10 (.int .i64 ((scanL (s0 ++ s1).data.toList).2.2 : Nat))) (m ++ [cellsOf (scanL (s0 ++ s1).data.toList).1])
 | _, _, _ => False
theorem ops_call {P : Program} {ops : Array Oper} {Q : Exit → Act → World → Prop} {i : Nat} {rest : List Nat} {a : Act} {w : World} {o : Oper} {f : Nat} {args : Array Value} {R : Ending → World → Prop} (ho : ops[i]? = some o) (hg : o.guard = none) (hr : (execOp a.eval o).run P w = .ok (.enter f args) w)
    (hc : Calls P f args w R) (h : ∀ e w', R e w' → ∃ v, e = .returned v ∧ wpOps P ops Q rest (a.put o.dst v) w') : wpOps P ops Q (i :: rest) a w := by
 rw [wpOps_cons]
 unfold wpOp
 rw [ho]
 dsimp only
 rw [show Region.wanted o (yielded ops a.tmps) = true by unfold Region.wanted; rw [hg], if_pos rfl]
 refine .inl ?_
 unfold Oper.wp
 rw [hr]
 refine Calls.mono hc ?_
 intro e w' he
 obtain ⟨v, rfl, hv⟩ := h e w' he
 exact hv
theorem ops_valG {P : Program} {ops : Array Oper} {Q : Exit → Act → World → Prop} {i : Nat} {rest : List Nat} {a : Act} {w w' : World} {o : Oper} {v : Value} (ho : ops[i]? = some o) (hg : Region.wanted o (yielded ops a.tmps) = true) (hr : (execOp a.eval o).run P w = .ok (.value v) w')
    (h : wpOps P ops Q rest (a.put o.dst v) w') : wpOps P ops Q (i :: rest) a w := by
 rw [wpOps_cons]
 unfold wpOp
 rw [ho]
 dsimp only
 rw [hg, if_pos rfl]
 refine .inl ?_
 unfold Oper.wp
 rw [hr]
 exact h
theorem unguarded {o : Oper} {y : Nat → Option Bool} (h : o.guard = none) : Region.wanted o y = true := by unfold Region.wanted; rw [h]
theorem ops_valS {P : Program} {ops : Array Oper} {Q : Exit → Act → World → Prop} {i : Nat} {rest : List Nat} {a : Act} {w w' : World} {o : Oper} {v v' : Value} {d N : Nat} {bl : Bl} {vt : List Value} {ds : List Deferred} (ho : ops[i]? = some o) (hd : o.dst = some d) (hg : Region.wanted o (yielded ops a.tmps) = true) (hr : (execOp a.eval o).run P w = .ok (.value v') w') (F : FR bl vt a.tmps) (D : a.defers = ds) (hl : a.tmps.size = N) (hN : d < N) (hv : RV bl v v')
    (h : ∀ a' : Act, FR bl (vt.set d v) a'.tmps → a'.defers = ds → a'.tmps.size = N → a'.eval (.tmp d) = v' → (∀ e, d ≠ e → a'.eval (.tmp e) = a.eval (.tmp e)) → wpOps P ops Q rest a' w') : wpOps P ops Q (i :: rest) a w := by
 refine ops_valG ho hg hr ?_
 rw [hd]
 exact h _ (F.put hv (some d)) ((put_defers a (some d) v').trans D) (put_size.trans hl) (put_get (by omega)) (fun e he => put_other he)
set_option maxHeartbeats 1000000 in
theorem r1_sound {bs : List Nat} {w0 : World} {ds : List Deferred} {bl0 : Bl} {K : List Value → Xm → Prop} {Q : Exit → Act → World → Prop} {bl : Bl} {vt : List Value} {m : Xm} {a : Act} {w : World} {ops : Array Oper} {tC tT : TypeId} {fn : Nat} {o0 o1 o2 o3 o4 o5 o6 o7 o8 o9 o10 o11 : Oper} (hfn : fn = 43)
    (hfl : fieldV Tryz.prog tC 2 = some 2) (hag : qrun Tryz.prog (isAgg tT) = some false) (ho : ops = #[o0, o1, o2, o3, o4, o5, o6, o7, o8, o9, o10, o11])
    (h0 : o0.dst = some 15 ∧ o0.op = .fieldAddr tC (.tmp 3) 2 ∧ o0.guard = none) (h1 : o1.dst = some 16 ∧ o1.op = .load tT (.tmp 15) ∧ o1.guard = none) (h2 : o2.dst = some 17 ∧ o2.op = .move (.tmp 2) ∧ o2.guard = none) (h3 : o3.dst = some 18 ∧ o3.op = .binOp .add tT (.tmp 16) (.tmp 17) tT ∧ o3.guard = none) (h4 : o4.dst = some 19 ∧ o4.op = .call { callee := .value (.func fn), args := #[.tmp 18], argTypes := #[tT] } ∧ o4.guard = none) (h5 : o5.dst = some 14 ∧ o5.op = .move (.tmp 19) ∧ o5.guard = none) (h6 : o6.dst = some 20 ∧ o6.op = .extract (.tmp 14) 0 ∧ o6.guard = none) (h7 : o7.dst = some 21 ∧ o7.op = .extract (.tmp 14) 1 ∧ o7.guard = none) (h8 : o8.dst = some 22 ∧ o8.op = .extract (.tmp 14) 2 ∧ o8.guard = none) (h9 : o9.dst = some 8 ∧ o9.op = .assign (.tmp 20) ∧ o9.guard = none) (h10 : o10.dst = some 9 ∧ o10.op = .assign (.tmp 21) ∧ o10.guard = none) (h11 : o11.dst = some 10 ∧ o11.op = .assign (.tmp 22) ∧ o11.guard = none)
    (h : r1 K vt m) (r : Rl bs w0 ds bl0 bl vt m a w) (hK : ∀ bl vt m a w, K vt m → Rl bs w0 ds bl0 bl vt m a w → Q .normal a w) : (Code.region 1 ops false).wp Tryz.prog Q a w := by
 subst ho hfn
 have hlen := r.F.len
 unfold r1 at h
 split at h
 case h_2 => exact h.elim
 rename_i s1 x0 x1 s0 xs hp h2v hrow
 obtain ⟨hsz, hm3, hlt, hk⟩ := h
 rw [hlt] at hlen
 have hbl : bl.length = 3 := r.len.trans hm3
 have hp' := r.F.rv 3
 rw [hp] at hp'
 obtain ⟨B, hB, hpe⟩ := hp'
 have hpe : a.eval (.tmp 3) = .pointer (some ⟨B, 0, none⟩) := hpe
 have h2' := r.F.rv 2
 rw [h2v] at h2'
 have h2' : a.eval (.tmp 2) = .string s1 := h2'
 obtain ⟨row, e0, A0⟩ := r.R.arr 0 B hB
 have erow : row = x0 :: x1 :: .string s0 :: xs := by
  match m, e0, hrow with
  | _ :: _, e0, hrow => cases e0; exact hrow
 subst erow
 have hld : loadV Tryz.prog tT (x0 :: x1 :: .string s0 :: xs) 2 = some (.string s0) := by unfold loadV; rw [hag]; rfl
 have rld := loadV_run hld A0
 have rfl1 := fieldV_run hfl B 0 w
 have F := r.F
 have D := r.defers
 refine wp_region ?_
 have E2 := h2'
 refine ops_valS (v := .nilIface) (v' := (.pointer (some ⟨B, 2, none⟩))) (w' := w) rfl h0.1 (unguarded h0.2.2) (by simp [execOp, h0.2.1, hpe, rfl1]) F D hlen (by decide) (rfl) fun a F D hlen E15 X => ?_
 have E2 := (X 2 (by decide)).trans E2
 refine ops_valS (v := .nilIface) (v' := (.string s0)) (w' := w) rfl h1.1 (unguarded h1.2.2) (by simp [execOp, h1.2.1, E15, Instr.loadAt, Instr.sureAddr, rld]) F D hlen (by decide) (rfl) fun a F D hlen E16 X => ?_
 have E2 := (X 2 (by decide)).trans E2
 refine ops_valS (v := .nilIface) (v' := (.string s1)) (w' := w) rfl h2.1 (unguarded h2.2.2) (by simp [execOp, h2.2.1, E2]) F D hlen (by decide) (rfl) fun a F D hlen E17 X => ?_
 have E16 := (X 16 (by decide)).trans E16
 refine ops_valS (v := .nilIface) (v' := (.string (s0 ++ s1))) (w' := w) rfl h3.1 (unguarded h3.2.2) (by simp [execOp, h3.2.1, E16, E17, eqGuard, binOp, Op.stringOp]; omega) F D hlen (by decide) (rfl) fun a F D hlen E18 X => ?_
 have hss : (s0 ++ s1).size ≤ 5000 := by rw [ByteArray.size_append]; exact hsz
 refine ops_call (o := o4) (args := #[.string (s0 ++ s1)]) rfl h4.2.2 ?_ (scan_any (s0 ++ s1) w hss) ?_
 ·have := go_of Tryz.func43 (by kernel_rfl) (by kernel_rfl) #[.string (s0 ++ s1)] w
  have hf : a.eval (.func 43) = .func (.func 43) #[] #[] := rfl
  simp [execOp, h4.2.1, resolve, hf, E18, Deferred.ofValue, invoke, this]
 rintro e w' ⟨v, rr, rfl, hrr, hfr, hbel⟩
 refine ⟨_, rfl, ?_⟩
 obtain ⟨x, sl, hsl, hrv, R'⟩ := r.R.frames hbl hm3 hbel hfr
 have hrr' : rr = restOf (s0 ++ s1).data.toList := by
  unfold restOf
  rw [← hrr]
 subst hrr'
 have hL := Le.last bl x
 have F := F.mono hL
 have hk := hk sl hsl
 rw [h4.1]
 have F := F.put (v := .nilIface) (v' := (.tuple #[v, .string (restOf (s0 ++ s1).data.toList), .int .i64 ((scanL (s0 ++ s1).data.toList).2.2 : Nat)])) rfl (some 19)
 have D := (put_defers a (some 19) (.tuple #[v, .string (restOf (s0 ++ s1).data.toList), .int .i64 ((scanL (s0 ++ s1).data.toList).2.2 : Nat)])).trans D
 have E19 : (a.put (some 19) (.tuple #[v, .string (restOf (s0 ++ s1).data.toList), .int .i64 ((scanL (s0 ++ s1).data.toList).2.2 : Nat)])).eval (.tmp 19) = (.tuple #[v, .string (restOf (s0 ++ s1).data.toList), .int .i64 ((scanL (s0 ++ s1).data.toList).2.2 : Nat)]) := put_get (by rw [hlen]; decide)
 have hlen := (put_size (a := a) (d := some 19) (v := (.tuple #[v, .string (restOf (s0 ++ s1).data.toList), .int .i64 ((scanL (s0 ++ s1).data.toList).2.2 : Nat)]))).trans hlen
 generalize a.put (some 19) (.tuple #[v, .string (restOf (s0 ++ s1).data.toList), .int .i64 ((scanL (s0 ++ s1).data.toList).2.2 : Nat)]) = a at F D E19 hlen ⊢
 refine ops_valS (v := .nilIface) (v' := (.tuple #[v, .string (restOf (s0 ++ s1).data.toList), .int .i64 ((scanL (s0 ++ s1).data.toList).2.2 : Nat)])) (w' := w') rfl h5.1 (unguarded h5.2.2) (by simp [execOp, h5.2.1, E19]) F D hlen (by decide) (rfl) fun a F D hlen E14 X => ?_
 refine ops_valS (v := sl) (v' := v) (w' := w') rfl h6.1 (unguarded h6.2.2) (by simp [execOp, h6.2.1, E14, Instr.extract]) F D hlen (by decide) (hrv) fun a F D hlen E20 X => ?_
 have E14 := (X 14 (by decide)).trans E14
 refine ops_valS (v := (.string (restOf (s0 ++ s1).data.toList))) (v' := (.string (restOf (s0 ++ s1).data.toList))) (w' := w') rfl h7.1 (unguarded h7.2.2) (by simp [execOp, h7.2.1, E14, Instr.extract]) F D hlen (by decide) (rfl) fun a F D hlen E21 X => ?_
 have E14 := (X 14 (by decide)).trans E14
 have E20 := (X 20 (by decide)).trans E20
 refine ops_valS (v := (.int .i64 ((scanL (s0 ++ s1).data.toList).2.2 : Nat))) (v' := (.int .i64 ((scanL (s0 ++ s1).data.toList).2.2 : Nat))) (w' := w') rfl h8.1 (unguarded h8.2.2) (by simp [execOp, h8.2.1, E14, Instr.extract]) F D hlen (by decide) (rfl) fun a F D hlen E22 X => ?_
 have E20 := (X 20 (by decide)).trans E20
 have E21 := (X 21 (by decide)).trans E21
 refine ops_valS (v := sl) (v' := v) (w' := w') rfl h9.1 (unguarded h9.2.2) (by simp [execOp, h9.2.1, E20]) F D hlen (by decide) (hrv) fun a F D hlen E8 X => ?_
 have E21 := (X 21 (by decide)).trans E21
 have E22 := (X 22 (by decide)).trans E22
 refine ops_valS (v := (.string (restOf (s0 ++ s1).data.toList))) (v' := (.string (restOf (s0 ++ s1).data.toList))) (w' := w') rfl h10.1 (unguarded h10.2.2) (by simp [execOp, h10.2.1, E21]) F D hlen (by decide) (rfl) fun a F D hlen E9 X => ?_
 have E22 := (X 22 (by decide)).trans E22
 refine ops_valS (v := (.int .i64 ((scanL (s0 ++ s1).data.toList).2.2 : Nat))) (v' := (.int .i64 ((scanL (s0 ++ s1).data.toList).2.2 : Nat))) (w' := w') rfl h11.1 (unguarded h11.2.2) (by simp [execOp, h11.2.1, E22]) F D hlen (by decide) (rfl) fun a F D hlen E10 X => ?_
 exact hK _ _ _ _ _ hk ⟨F, R', r.le.trans hL, by rw [List.length_append, List.length_append, hbl, hm3]; rfl, D⟩
end Go.Proofs.YtbophanlmkbfeaaGreatDoor
namespace Go.Proofs.YtbophanlmkbfeaaGreatDoor
open Go.RowKit
def cpart : List Bool → Code → Code
 | [], c => c
 | false :: p, .seq x _ => cpart p x
 | true :: p, .seq _ y => cpart p y
 | false :: p, .block _ c => cpart p c
 | false :: p, .loop c => cpart p c
 | _, c => c
def bodyOf (P : Program) (f : Nat) : Code := match P.funcs[f]? with
 | some fn => (match fn.body with
  | some c => c
  | none => .skip)
 | none => .skip
def fnOf (P : Program) (f : Nat) : Func := (P.funcs[f]?).getD default
def regs : Code → List (Nat × Array Oper × Bool)
 | .region id ops draw => [(id, ops, draw)]
 | .seq x y => regs x ++ regs y
 | .cond _ x y => regs x ++ regs y
 | .block _ c => regs c
 | .loop c => regs c
 | _ => []
def opsOf (P : Program) (f id : Nat) : Array Oper := match (regs (bodyOf P f)).lookup id with
 | some x => x.1
 | none => #[]
def opOf (P : Program) (f id i : Nat) : Oper := (opsOf P f id).toList.getD i default
section
variable {P : Program} {bs : List Nat} {w0 : World} {ds : List Deferred} {bl0 : Bl} {ov : Ov}
def RegOk (P : Program) (ov : Ov) (bs : List Nat) (w0 : World) (ds : List Deferred) (bl0 : Bl) (r : Nat × Array Oper × Bool) : Prop :=
 ∀ R, ov r.1 = some R → ∀ (K : List Value → Xm → Prop) (Q : Exit → Act → World → Prop) (bl : Bl) (vt : List Value) (m : Xm) (a : Act) (w : World), R r.2.1 r.2.2 K vt m → Rl bs w0 ds bl0 bl vt m a w → (∀ bl vt m a w, K vt m → Rl bs w0 ds bl0 bl vt m a w → Q .normal a w) → (Code.region r.1 r.2.1 r.2.2).wp P Q a w
theorem ovOk_of : ∀ c : Code, (∀ r ∈ regs c, RegOk P ov bs w0 ds bl0 r) → OvOk P ov bs w0 ds bl0 c := by
 intro c
 induction c with
 | region id ops draw => intro h; exact h (id, ops, draw) List.mem_cons_self
 | seq x y ihx ihy => intro h; exact ⟨ihx fun r hr => h r (List.mem_append_left _ hr), ihy fun r hr => h r (List.mem_append_right _ hr)⟩
 | cond c x y ihx ihy => intro h; exact ⟨ihx fun r hr => h r (List.mem_append_left _ hr), ihy fun r hr => h r (List.mem_append_right _ hr)⟩
 | block id c ih => intro h; exact ih h
 | loop c ih => intro h; exact ih h
 | skip => intro _; exact trivial
 | exit id => intro _; exact trivial
 | label l => intro _; exact trivial
 | ret => intro _; exact trivial
 | goto l => intro _; exact trivial
 | scope c _ => intro _; exact trivial
 | refuse s => intro _; exact trivial
 | rangeFunc f ps x y _ _ => intro _; exact trivial
theorem ovOk_by {c : Code} {ns : List (Nat × Array Oper × Bool)} (hn : (regs c).filter (fun r => (ov r.1).isSome) = ns) (h : ∀ r ∈ ns, RegOk P ov bs w0 ds bl0 r) : OvOk P ov bs w0 ds bl0 c := by
 refine ovOk_of c fun r hr => ?_
 intro R hR
 exact h r (by rw [← hn]; exact List.mem_filter.2 ⟨hr, by rw [hR]; rfl⟩) R hR
end
section
variable {P : Program} {tbl : List (Ct P)} {dirty : Nat → List Nat} {n : Nat} {ov : Ov}
theorem pure_atO (hm : P.follows .mixedOrders = true) {f : Nat} (hf : P.funcs[f]? = some (fnOf P f)) (hb : (fnOf P f).body = some (bodyOf P f)) {A R : Type} {d : Dl A} {k : Dc R} {x : A} {y : R}
    (ho : ∀ w, OvOk P ov [] w [] [] (bodyOf P f)) (h : swpO P tbl dirty n ov (bodyOf P f) (retQ P (fnOf P f) (fun v _ => v = k.enc y)) (d.enc x ++ List.replicate ((fnOf P f).ntmps - (d.enc x).length) undef) []) (w : World) (hg : GW w) :
    Calls P f (d.enc x).toArray w fun e w' => e = .returned (k.enc y) ∧ Below w.heap.size w w' := by
 have R : RW [] w [] [] w := ⟨fun i B hi => (by cases hi), fun i j B hi => (by cases hi), fun i B hi => (by cases hi), rfl, rfl, rfl, Nat.le_refl _, fun _ _ _ => rfl, hg, fun b hb => by cases hb⟩
 refine Calls.mono (calls_sxO hm hf hb (vargs := d.enc x) R rfl (by simp) (fun i => ?_) (ho w) h) ?_
 ·by_cases hi : i < (d.enc x).length
  ·have := d.np x _ (List.getElem_mem hi)
   simp only [List.getD_eq_getElem?_getD, Array.getD_eq_getD_getElem?]
   simp [hi]
   exact .same this
  ·simp only [List.getD_eq_getElem?_getD, Array.getD_eq_getD_getElem?]
   simp [hi]
   rfl
 ·rintro e w' ⟨v, bl', m2, rfl, rfl, R', _⟩
  exact ⟨rfl, R'.os, R'.tape, R'.output, R'.size, fun i hi => R'.block i hi (by simp)⟩
end
end Go.Proofs.YtbophanlmkbfeaaGreatDoor
