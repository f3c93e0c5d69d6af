/-
A part.
A part.
A part.
A part.
A part.
A part.
A part.
A part.
-/
import Derived.Deep.MidRow
import Derived.Handy
import Derived.Test.YtbophanlmkbfeaaGreatDoorHO13
import Derived.Test.YtbophanlmkbfeaaGreatDoorHO10
import Derived.Test.YtbophanlmkbfeaaGreatDoorHO02
namespace Go.Proofs.YtbophanlmkbfeaaGreatDoor
open Go.RowKit
def wScan (K : List Value → Xm → Prop) (vt : List Value) (m : Xm) : Prop :=
 match vt.getD 4 undef, vt.getD 3 undef, m.headD [] with
 | .pointer (some ⟨0, 0, none⟩), .string s1, _ :: _ :: .string s0 :: _ =>
  s0.size + s1.size ≤ 5000 ∧ m.length = 4 ∧ vt.length = 103 ∧ ∀ sl, SlAt 4 sl (scanL (s0 ++ s1).data.toList).1 → K ((((((((((((vt.set 30 .nilIface).set 31 .nilIface).set 32 .nilIface).set 33 .nilIface).set 34 .nilIface).set 29 .nilIface).set 35 sl).set 36 (.string (restOf (s0 ++ s1).data.toList))).set 37 (.int .i64 ((scanL (s0 ++ s1).data.toList).2.2 : Nat))).set 14 sl).set 15 (.string (restOf (s0 ++ s1).data.toList))).set 16 (.int .i64 ((scanL (s0 ++ s1).data.toList).2.2 : Nat))) (m ++ [cellsOf (scanL (s0 ++ s1).data.toList).1])
 | _, _, _ => False
set_option maxHeartbeats 1000000 in
theorem wScan_sound {bs : List Nat} {w0 : World} {ds : List Deferred} {bl0 : Bl} {K : List Value → Xm → Prop} {Q : Exit → Act → World → Prop} {bl : Bl} {vt : List Value} {m : Xm} {a : Act} {w : World} {ops : Array Oper} {tC tT : TypeId} {fn : Nat} {o0 o1 o2 o3 o4 o5 o6 o7 o8 o9 o10 o11 : Oper} (hfn : fn = 17)
    (hfl : fieldV Tryz.prog tC 2 = some 2) (hag : qrun Tryz.prog (isAgg tT) = some false) (ho : ops = #[o0, o1, o2, o3, o4, o5, o6, o7, o8, o9, o10, o11])
    (h0 : o0.dst = some 30 ∧ o0.op = .fieldAddr tC (.tmp 4) 2 ∧ o0.guard = none) (h1 : o1.dst = some 31 ∧ o1.op = .load tT (.tmp 30) ∧ o1.guard = none) (h2 : o2.dst = some 32 ∧ o2.op = .move (.tmp 3) ∧ o2.guard = none) (h3 : o3.dst = some 33 ∧ o3.op = .binOp .add tT (.tmp 31) (.tmp 32) tT ∧ o3.guard = none) (h4 : o4.dst = some 34 ∧ o4.op = .call { callee := .value (.func fn), args := #[.tmp 33], argTypes := #[tT] } ∧ o4.guard = none) (h5 : o5.dst = some 29 ∧ o5.op = .move (.tmp 34) ∧ o5.guard = none) (h6 : o6.dst = some 35 ∧ o6.op = .extract (.tmp 29) 0 ∧ o6.guard = none) (h7 : o7.dst = some 36 ∧ o7.op = .extract (.tmp 29) 1 ∧ o7.guard = none) (h8 : o8.dst = some 37 ∧ o8.op = .extract (.tmp 29) 2 ∧ o8.guard = none) (h9 : o9.dst = some 14 ∧ o9.op = .assign (.tmp 35) ∧ o9.guard = none) (h10 : o10.dst = some 15 ∧ o10.op = .assign (.tmp 36) ∧ o10.guard = none) (h11 : o11.dst = some 16 ∧ o11.op = .assign (.tmp 37) ∧ o11.guard = none)
    (h : wScan K vt m) (r : Rl bs w0 ds bl0 bl vt m a w) (hK : ∀ bl vt m a w, K vt m → Rl bs w0 ds bl0 bl vt m a w → Q .normal a w) : (Code.region 2 ops false).wp Tryz.prog Q a w := by
 subst ho hfn
 have hlen := r.F.len
 unfold wScan at h
 split at h
 case h_2 => exact h.elim
 rename_i s1 x0 x1 s0 xs hp h2v hrow
 obtain ⟨hsz, hm3, hlt, hk⟩ := h
 rw [hlt] at hlen
 have hbl : bl.length = 4 := r.len.trans hm3
 have hp' := r.F.rv 4
 rw [hp] at hp'
 obtain ⟨B, hB, hpe⟩ := hp'
 have hpe : a.eval (.tmp 4) = .pointer (some ⟨B, 0, none⟩) := hpe
 have h2' := r.F.rv 3
 rw [h2v] at h2'
 have h2' : a.eval (.tmp 3) = .string s1 := h2'
 obtain ⟨row, e0, A0⟩ := r.R.arr 0 B hB
 have erow : row = x0 :: x1 :: .string s0 :: xs := by
  match m, e0, hrow with
  | _ :: _, e0, hrow => cases e0; exact hrow
 subst erow
 have hld : loadV Tryz.prog tT (x0 :: x1 :: .string s0 :: xs) 2 = some (.string s0) := by unfold loadV; rw [hag]; rfl
 have rld := loadV_run hld A0
 have rfl1 := fieldV_run hfl B 0 w
 have F := r.F
 have D := r.defers
 refine wp_region ?_
 have E3 := h2'
 refine ops_valS (v := .nilIface) (v' := (.pointer (some ⟨B, 2, none⟩))) (w' := w) rfl h0.1 (unguarded h0.2.2) (by simp [execOp, h0.2.1, hpe, rfl1]) F D hlen (by decide) (rfl) fun a F D hlen E30 X => ?_
 have E3 := (X 3 (by decide)).trans E3
 refine ops_valS (v := .nilIface) (v' := (.string s0)) (w' := w) rfl h1.1 (unguarded h1.2.2) (by simp [execOp, h1.2.1, E30, Instr.loadAt, Instr.sureAddr, rld]) F D hlen (by decide) (rfl) fun a F D hlen E31 X => ?_
 have E3 := (X 3 (by decide)).trans E3
 refine ops_valS (v := .nilIface) (v' := (.string s1)) (w' := w) rfl h2.1 (unguarded h2.2.2) (by simp [execOp, h2.2.1, E3]) F D hlen (by decide) (rfl) fun a F D hlen E32 X => ?_
 have E31 := (X 31 (by decide)).trans E31
 refine ops_valS (v := .nilIface) (v' := (.string (s0 ++ s1))) (w' := w) rfl h3.1 (unguarded h3.2.2) (by simp [execOp, h3.2.1, E31, E32, eqGuard, binOp, Op.stringOp]; omega) F D hlen (by decide) (rfl) fun a F D hlen E33 X => ?_
 have hss : (s0 ++ s1).size ≤ 5000 := by rw [ByteArray.size_append]; exact hsz
 refine ops_call (o := o4) (args := #[.string (s0 ++ s1)]) rfl h4.2.2 ?_ (rscan_any (s0 ++ s1) w hss) ?_
 ·have := go_of Tryz.func17 (by kernel_rfl) (by kernel_rfl) #[.string (s0 ++ s1)] w
  have hf : a.eval (.func 17) = .func (.func 17) #[] #[] := rfl
  simp [execOp, h4.2.1, resolve, hf, E33, Deferred.ofValue, invoke, this]
 rintro e w' ⟨v, rr, rfl, hrr, hfr, hbel⟩
 refine ⟨_, rfl, ?_⟩
 obtain ⟨x, sl, hsl, hrv, R'⟩ := r.R.framesAt hbl hm3 hbel hfr
 have hrr' : rr = restOf (s0 ++ s1).data.toList := by
  unfold restOf
  rw [← hrr]
 subst hrr'
 have hL := Le.last bl x
 have F := F.mono hL
 have hk := hk sl hsl
 rw [h4.1]
 have F := F.put (v := .nilIface) (v' := (.tuple #[v, .string (restOf (s0 ++ s1).data.toList), .int .i64 ((scanL (s0 ++ s1).data.toList).2.2 : Nat)])) rfl (some 34)
 have D := (put_defers a (some 34) (.tuple #[v, .string (restOf (s0 ++ s1).data.toList), .int .i64 ((scanL (s0 ++ s1).data.toList).2.2 : Nat)])).trans D
 have E34 : (a.put (some 34) (.tuple #[v, .string (restOf (s0 ++ s1).data.toList), .int .i64 ((scanL (s0 ++ s1).data.toList).2.2 : Nat)])).eval (.tmp 34) = (.tuple #[v, .string (restOf (s0 ++ s1).data.toList), .int .i64 ((scanL (s0 ++ s1).data.toList).2.2 : Nat)]) := put_get (by rw [hlen]; decide)
 have hlen := (put_size (a := a) (d := some 34) (v := (.tuple #[v, .string (restOf (s0 ++ s1).data.toList), .int .i64 ((scanL (s0 ++ s1).data.toList).2.2 : Nat)]))).trans hlen
 generalize a.put (some 34) (.tuple #[v, .string (restOf (s0 ++ s1).data.toList), .int .i64 ((scanL (s0 ++ s1).data.toList).2.2 : Nat)]) = a at F D E34 hlen ⊢
 refine ops_valS (v := .nilIface) (v' := (.tuple #[v, .string (restOf (s0 ++ s1).data.toList), .int .i64 ((scanL (s0 ++ s1).data.toList).2.2 : Nat)])) (w' := w') rfl h5.1 (unguarded h5.2.2) (by simp [execOp, h5.2.1, E34]) F D hlen (by decide) (rfl) fun a F D hlen E29 X => ?_
 refine ops_valS (v := sl) (v' := v) (w' := w') rfl h6.1 (unguarded h6.2.2) (by simp [execOp, h6.2.1, E29, Instr.extract]) F D hlen (by decide) (hrv) fun a F D hlen E35 X => ?_
 have E29 := (X 29 (by decide)).trans E29
 refine ops_valS (v := (.string (restOf (s0 ++ s1).data.toList))) (v' := (.string (restOf (s0 ++ s1).data.toList))) (w' := w') rfl h7.1 (unguarded h7.2.2) (by simp [execOp, h7.2.1, E29, Instr.extract]) F D hlen (by decide) (rfl) fun a F D hlen E36 X => ?_
 have E29 := (X 29 (by decide)).trans E29
 have E35 := (X 35 (by decide)).trans E35
 refine ops_valS (v := (.int .i64 ((scanL (s0 ++ s1).data.toList).2.2 : Nat))) (v' := (.int .i64 ((scanL (s0 ++ s1).data.toList).2.2 : Nat))) (w' := w') rfl h8.1 (unguarded h8.2.2) (by simp [execOp, h8.2.1, E29, Instr.extract]) F D hlen (by decide) (rfl) fun a F D hlen E37 X => ?_
 have E35 := (X 35 (by decide)).trans E35
 have E36 := (X 36 (by decide)).trans E36
 refine ops_valS (v := sl) (v' := v) (w' := w') rfl h9.1 (unguarded h9.2.2) (by simp [execOp, h9.2.1, E35]) F D hlen (by decide) (hrv) fun a F D hlen E14 X => ?_
 have E36 := (X 36 (by decide)).trans E36
 have E37 := (X 37 (by decide)).trans E37
 refine ops_valS (v := (.string (restOf (s0 ++ s1).data.toList))) (v' := (.string (restOf (s0 ++ s1).data.toList))) (w' := w') rfl h10.1 (unguarded h10.2.2) (by simp [execOp, h10.2.1, E36]) F D hlen (by decide) (rfl) fun a F D hlen E15 X => ?_
 have E37 := (X 37 (by decide)).trans E37
 refine ops_valS (v := (.int .i64 ((scanL (s0 ++ s1).data.toList).2.2 : Nat))) (v' := (.int .i64 ((scanL (s0 ++ s1).data.toList).2.2 : Nat))) (w' := w') rfl h11.1 (unguarded h11.2.2) (by simp [execOp, h11.2.1, E37]) F D hlen (by decide) (rfl) fun a F D hlen E16 X => ?_
 exact hK _ _ _ _ _ hk ⟨F, R', r.le.trans hL, by rw [List.length_append, List.length_append, hbl, hm3]; rfl, D⟩
def wMany (ks : List Nat) (l : List (UInt8 × List UInt8)) (K : List Value → Xm → Prop) (vt : List Value) (m : Xm) : Prop :=
 SlAt 4 (vt.getD 14 undef) l ∧ vt.length = 103 ∧ forget ks 103 5 K (((vt.set 38 (vt.getD 14 undef)).set 39 (.int .i64 (l.length : Nat))).set 40 (.int .i64 0)) m
theorem wMany_sound {bs : List Nat} {w0 : World} {ds : List Deferred} {bl0 : Bl} {K : List Value → Xm → Prop} {Q : Exit → Act → World → Prop} {bl : Bl} {vt : List Value} {m : Xm} {a : Act} {w : World} {l : List (UInt8 × List UInt8)} {ks : List Nat} {ops : Array Oper} {tS e : TypeId} {o0 o1 o2 : Oper} (hb : bl0.length ≤ 5) (hu : Tryz.prog.underlying tS = some (.slice e)) (ho : ops = #[o0, o1, o2])
    (h0 : o0.dst = some 38 ∧ o0.op = .move (.tmp 14) ∧ o0.guard = none) (h1 : o1.dst = some 39 ∧ o1.op = .call { callee := .builtin .len, args := #[.tmp 38], argTypes := #[tS] } ∧ o1.guard = none) (h2 : o2.dst = some 40 ∧ o2.op = .move (.const (.int .i64 0)) ∧ o2.guard = none)
    (h : wMany ks l K vt m) (r : Rl bs w0 ds bl0 bl vt m a w) (hK : ∀ bl vt m a w, K vt m → Rl bs w0 ds bl0 bl vt m a w → Q .normal a w) : (Code.region 3 ops false).wp Tryz.prog Q a w := by
 subst ho
 have hlen := r.F.len
 obtain ⟨hsl, hlt, hk⟩ := h
 rw [hlt] at hlen
 have hv := r.F.rv 14
 obtain ⟨A, cap, hs, _⟩ := hsl.real hv
 have E14 : a.eval (.tmp 14) = .slice A l.length cap := hs
 rw [hs] at hv
 have r0 := run_under hu w
 have F := r.F
 have D := r.defers
 refine wp_region ?_
 refine ops_valS (v := (vt.getD 14 undef)) (v' := (.slice A l.length cap)) (w' := w) rfl h0.1 (unguarded h0.2.2) (by simp [execOp, h0.2.1, E14]) F D hlen (by decide) (hv) fun a F D hlen E38 X => ?_
 refine ops_valS (v := (.int .i64 (l.length : Nat))) (v' := (.int .i64 (l.length : Nat))) (w' := w) rfl h1.1 (unguarded h1.2.2) (by simp [execOp, h1.2.1, resolve, invoke, builtin, E38, Builtin.len_, r0, goInt]) F D hlen (by decide) (rfl) fun a F D hlen E39 X => ?_
 refine ops_valS (v := (.int .i64 0)) (v' := (.int .i64 0)) (w' := w) rfl h2.1 (unguarded h2.2.2) (by simp [execOp, h2.2.1, Act.eval]) F D hlen (by decide) (rfl) fun a F D hlen E40 X => ?_
 have r' : Rl bs w0 ds bl0 bl _ m a w := ⟨F, r.R, r.le, r.len, D⟩
 obtain ⟨bl', vt', m', k1, k2⟩ := r'.cut hb hk
 exact hK bl' vt' m' _ w k1 k2
def wOne (l : List (UInt8 × List UInt8)) (K : List Value → Xm → Prop) (vt : List Value) (m : Xm) : Prop :=
 match vt.getD 40 undef with
 | .int .i64 i => (0 ≤ i ∧ i.toNat < l.length) ∧ SlAt 4 (vt.getD 38 undef) l ∧ m[4]? = some (cellsOf l) ∧ m.length = 5 ∧ vt.length = 103 ∧ K (((vt.set 42 .nilIface).set 43 .nilIface).set 18 (.pointer (some ⟨5, 0, none⟩))) (m ++ [[Value.int .i64 (frL l i).1, Value.string (frL l i).2]])
 | _ => False
theorem wOne_sound {bs : List Nat} {w0 : World} {ds : List Deferred} {bl0 : Bl} {K : List Value → Xm → Prop} {Q : Exit → Act → World → Prop} {bl : Bl} {vt : List Value} {m : Xm} {a : Act} {w : World} {l : List (UInt8 × List UInt8)} {ops : Array Oper} {tS tF : TypeId} {o0 o1 o2 o3 : Oper} (hu : Tryz.prog.underlying tS = some (.slice tF)) (hz : qrun Tryz.prog (sizeOf tF) = some 2) (ha : qrun Tryz.prog (isAgg tF) = some true) {z : Value} (hzv : qrun Tryz.prog (zeroValue tF) = some z) (hzl : z.cells.toList.length = 2) (ho : ops = #[o0, o1, o2, o3])
    (h0 : o0.dst = some 42 ∧ o0.op = .indexAddr tS (.tmp 38) (.tmp 40) ∧ o0.guard = none) (h1 : o1.dst = some 43 ∧ o1.op = .load tF (.tmp 42) ∧ o1.guard = none) (h2 : o2.dst = some 18 ∧ o2.op = .alloc tF ∧ o2.guard = none) (h3 : o3.dst = none ∧ o3.op = .store tF (.tmp 18) (.tmp 43) ∧ o3.guard = none)
    (h : wOne l K vt m) (r : Rl bs w0 ds bl0 bl vt m a w) (hK : ∀ bl vt m a w, K vt m → Rl bs w0 ds bl0 bl vt m a w → Q .normal a w) : (Code.region 5 ops false).wp Tryz.prog Q a w := by
 subst ho
 have hlen := r.F.len
 unfold wOne at h
 split at h
 case h_2 => exact h.elim
 rename_i i hi
 obtain ⟨⟨hi0, hil⟩, hsl, hm3, hm5, hlt, hk⟩ := h
 rw [hlt] at hlen
 have hiv := r.F.rv 40
 rw [hi] at hiv
 have E40 : a.eval (.tmp 40) = .int .i64 i := hiv
 obtain ⟨A, cap, hs, hB⟩ := hsl.real (r.F.rv 38)
 have E38 : a.eval (.tmp 38) = .slice A l.length cap := hs
 obtain ⟨B, hb3, rfl⟩ := hB (by rintro rfl; simp at hil)
 obtain ⟨row, e3, A3⟩ := r.R.arr 4 B hb3
 rw [hm3] at e3
 cases e3
 have hrow := frame_load ha hz hil hi0
 have rld := loadV_run hrow A3
 have F := r.F
 have D := r.defers
 refine wp_region ?_
 have hil' : i < (l.length : Int) := by omega
 have r0 := run_under hu w
 have r1 := qrun_run _ hz w
 refine ops_valS (v := .nilIface) (v' := (.pointer (some ⟨B, i.toNat * 2, none⟩))) (w' := w) rfl h0.1 (unguarded h0.2.2) (by simp [execOp, h0.2.1, E38, E40, Instr.indexAt, asIntOf, r0, r1, hi0, hil', add_is, Sem.run_bind]) F D hlen (by decide) (rfl) fun a F D hlen E42 X => ?_
 refine ops_valS (v := .nilIface) (v' := (.agg #[Value.int .i64 (frL l i).1, Value.string (frL l i).2])) (w' := w) rfl h1.1 (unguarded h1.2.2) (by simp [execOp, h1.2.1, E42, Instr.loadAt, Instr.sureAddr, rld]) F D hlen (by decide) (rfl) fun a F D hlen E43 X => ?_
 have hw3 : (execOp a.eval o2).run Tryz.prog w = .ok (.value (.pointer (some ⟨w.heap.size, 0, none⟩))) (w.alloc (.cells z.cells.toList.toArray tF)) := by
  have r := qrun_run _ hzv w
  simp [execOp, h2.2.1, Instr.alloc, newVar, newRow, newObj, r, Sem.run]
 have hbl : bl.length = 5 := r.len.trans hm5
 have WW := r.R.wide 1 [[Value.int .i64 (frL l i).1, Value.string (frL l i).2]]
 obtain ⟨N, hle⟩ := WW.new (k := 5) (by rw [List.getElem?_append_right (by omega), hbl, Nat.sub_self]; rfl) (by rw [List.length_append, hm5]; exact Nat.lt_succ_self 5) z.cells.toList tF
 have hg5 : ((bl ++ List.replicate 1 none).set 5 (some w.heap.size))[5]? = some (some w.heap.size) := List.getElem?_set_self (by rw [List.length_append, hbl]; exact Nat.lt_succ_self 5)
 have hm6 : ((m ++ [[Value.int .i64 (frL l i).1, Value.string (frL l i).2]]).set 5 z.cells.toList)[5]? = some z.cells.toList := List.getElem?_set_self (by rw [List.length_append, hm5]; exact Nat.lt_succ_self 5)
 obtain ⟨row, e5, A5⟩ := N.arr 5 _ hg5
 rw [hm6] at e5
 cases e5
 have hst : storeV Tryz.prog tF z.cells.toList 0 (.agg #[Value.int .i64 (frL l i).1, Value.string (frL l i).2]) = some (setAt z.cells.toList 0 [Value.int .i64 (frL l i).1, Value.string (frL l i).2]) := by
  unfold storeV
  rw [hz]
  dsimp only
  rw [if_pos (by rw [hzl]; rfl)]
  rfl
 obtain ⟨r3, _, hl3⟩ := storeV_run hst A5
 have hL : Le bl ((bl ++ List.replicate 1 none).set 5 (some w.heap.size)) := (Le.wide bl 1).trans hle
 have F := F.mono hL
 refine ops_valS (v := .pointer (some ⟨5, 0, none⟩)) rfl h2.1 (unguarded h2.2.2) hw3 F D hlen (by decide) (RV.at hg5 0) fun a F D hlen E18 X => ?_
 have E43 := (X 43 (by decide)).trans E43
 refine ops_skip (o := o3) (w' := wset (w.alloc (.cells z.cells.toList.toArray tF)) w.heap.size 0 [Value.int .i64 (frL l i).1, Value.string (frL l i).2]) rfl h3.2.2 ?_ ?_
 ·simp [execOp, h3.2.1, E18, E43, Instr.storeAt, Instr.sureAddr, r3]
  rfl
 rw [h3.1]
 have hrow5 : setAt z.cells.toList 0 [Value.int .i64 (frL l i).1, Value.string (frL l i).2] = [Value.int .i64 (frL l i).1, Value.string (frL l i).2] := by
  match z.cells.toList, hzl with
  | [_, _], _ => rfl
 have R5 := N.store hg5 hm6 0 [Value.int .i64 (frL l i).1, Value.string (frL l i).2] hl3
 rw [hrow5] at R5
 have hmm : ((m ++ [[Value.int .i64 (frL l i).1, Value.string (frL l i).2]]).set 5 z.cells.toList).set 5 [Value.int .i64 (frL l i).1, Value.string (frL l i).2] = m ++ [[Value.int .i64 (frL l i).1, Value.string (frL l i).2]] := by
  rw [List.set_set, List.set_append_right _ _ (by omega), hm5, Nat.sub_self]
  rfl
 rw [hmm] at R5
 exact hK _ _ _ _ _ hk ⟨F, R5, r.le.trans hL, by rw [List.length_set, List.length_append, List.length_append, hbl, hm5]; rfl, by rw [put_defers]; exact D⟩
end Go.Proofs.YtbophanlmkbfeaaGreatDoor
namespace Go.Proofs.YtbophanlmkbfeaaGreatDoor
open Go.RowKit
section
variable (F : Fs) (T : Cra × Int × ByteArray → Cra × Hea)
def setDri (c : Cra) (d : Dri) : Cra := (c.1, c.2.1, c.2.2.1, c.2.2.2.1, c.2.2.2.2.1, c.2.2.2.2.2.1, d, c.2.2.2.2.2.2.2)
def setGue (c : Cra) (g : Tup 43) : Cra := (c.1, c.2.1, c.2.2.1, c.2.2.2.1, c.2.2.2.2.1, c.2.2.2.2.2.1, c.2.2.2.2.2.2.1, g, c.2.2.2.2.2.2.2.2)
def setEnd (c : Cra) (t : Int) (p : Tup 6) (g : Tup 43) : Cra := (true, t, c.2.2.1, p, c.2.2.2.2.1, c.2.2.2.2.2.1, c.2.2.2.2.2.2.1, g, c.2.2.2.2.2.2.2.2)
def endW (c : Cra) (s : See) (x : Hea) (y : Sky) (t : Int) : Cra × ByteArray := (setEnd c t (planW F c s x y).1 (planW F c s x y).2, toldW F (setEnd c t (planW F c s x y).1 (planW F c s x y).2))
def goW (c : Cra) (x : Hea) (t : Int) : Cra × ByteArray :=
 if decide (c.2.2.2.1.1 = 2) then
  (if !(decW F c t x (skyW F c t)).1 then endW F (setGue c (filW F c.2.2.2.2.2.2.2.1 (decW F c t x (skyW F c t)) (IntKind.i64.wrap (t - c.2.1)) x (skyW F c t)).1) (filW F c.2.2.2.2.2.2.2.1 (decW F c t x (skyW F c t)) (IntKind.i64.wrap (t - c.2.1)) x (skyW F c t)).2 x (skyW F c t) t
  else endW F c (decW F c t x (skyW F c t)) x (skyW F c t) t)
 else endW F c (decW F c t x (skyW F c t)) x (skyW F c t) t
def stepR (c : Cra) (t : Int) (b : ByteArray) : Cra × ByteArray := goW F (setDri (T (c, t, b)).1 (driftW F (T (c, t, b)).1.2.2.2.2.2.2.1 (T (c, t, b)).2)) (T (c, t, b)).2 t
def stepW (c : Cra) (t : Int) (b : ByteArray) : Cra × ByteArray :=
 if !F.right t then (c, noBytes) else if c.1 then (if decide (t ≤ c.2.1) then (c, noBytes) else stepR F T c t b) else stepR F T c t b
def goV (c : Cra) (x : Hea) (t : Int) (Post : Value → Prop) : Prop :=
 vif (decide (c.2.2.2.1.1 = 2))
  (vif (!(decW F c t x (skyW F c t)).1) (PJ (two' cCra cS) Post (endW F (setGue c (filW F c.2.2.2.2.2.2.2.1 (decW F c t x (skyW F c t)) (IntKind.i64.wrap (t - c.2.1)) x (skyW F c t)).1) (filW F c.2.2.2.2.2.2.2.1 (decW F c t x (skyW F c t)) (IntKind.i64.wrap (t - c.2.1)) x (skyW F c t)).2 x (skyW F c t) t))
  (PJ (two' cCra cS) Post (endW F c (decW F c t x (skyW F c t)) x (skyW F c t) t)))
 (PJ (two' cCra cS) Post (endW F c (decW F c t x (skyW F c t)) x (skyW F c t) t))
theorem goV_is (c : Cra) (x : Hea) (t : Int) (Post : Value → Prop) : goV F c x t Post = PJ (two' cCra cS) Post (goW F c x t) := by
 unfold goV goW
 rw [vif_b (K := PJ (two' cCra cS) Post), vif_b (K := PJ (two' cCra cS) Post)]
set_option maxRecDepth 100000 in
theorem step_at (h : FsOk F) (x : Cra × Int × ByteArray) (y : Cra × Hea) (hT : ∀ w, GW w → Calls Tryz.prog 23 ((then' cCra (then' cI (lone' cS))).enc x).toArray w fun e w' => e = .returned ((two' cCra cHea).enc y) ∧ Below w.heap.size w w') (w : World) (hw : GW w) :
    Calls Tryz.prog 9 ((then' cCra (then' cI (lone' cS))).enc x).toArray w fun e w' => e = .returned ((two' cCra cS).enc (stepW F (fun _ => y) x.1 x.2.1 x.2.2)) ∧ Below w.heap.size w w' := by
 refine pure_at (d := then' cCra (then' cI (lone' cS))) (k := two' cCra cS) (x := x) (y := stepW F (fun _ => y) x.1 x.2.1 x.2.2) (tbl := [ctright F h, ctAt Tryz.prog 23 (then' cCra (then' cI (lone' cS))) (two' cCra cHea) x y (go_of Tryz.func23 (by kernel_rfl) (by kernel_rfl)) hT, ctdrifted F h, ctskyAt F h, ctdecided F h, ctfiltered F h, ctplanned F h, cttold F h]) (dirty := fun _ => []) (n := 4) xmixA Tryz.func9 rfl (fun Post hP => ?_) w hw
 refine Eq.mpr (β := vif (!F.right x.2.1) (PJ (two' cCra cS) Post (x.1, noBytes)) (vif x.1.1 (vif (decide (x.2.1 ≤ x.1.2.1)) (PJ (two' cCra cS) Post (x.1, noBytes)) ((then' cCra (then' cI (lone' cS))).enc x = (then' cCra (then' cI (lone' cS))).enc x ∧ goV F (setDri y.1 (driftW F y.1.2.2.2.2.2.2.1 y.2)) y.2 x.2.1 Post)) ((then' cCra (then' cI (lone' cS))).enc x = (then' cCra (then' cI (lone' cS))).enc x ∧ goV F (setDri y.1 (driftW F y.1.2.2.2.2.2.2.1 y.2)) y.2 x.2.1 Post))) (by kernel_rfl) ?_
 simp only [true_and, goV_is]
 rw [vif_b (K := PJ (two' cCra cS) Post), vif_b (K := PJ (two' cCra cS) Post), vif_b (K := PJ (two' cCra cS) Post)]
 exact hP
end
end Go.Proofs.YtbophanlmkbfeaaGreatDoor
namespace Go.Proofs.YtbophanlmkbfeaaGreatDoor
open Go.RowKit
theorem vsound_op : ∃ g, FOp Tryz.prog nq 153 [rI 3] (rI 3) unkB g := flow_ax (tbl := []) (dirty := fun _ => []) (n := 8) nq_one xmixA Tryz.func153 rfl (by decide +kernel)
def tvsound : ACt Tryz.prog nq := rowF false (go_of Tryz.func153 (by kernel_rfl) (by kernel_rfl)) vsound_op (by decide +kernel)
theorem vAdd_op : ∃ g, FOp Tryz.prog nq 88 [rI 3, rI 3] (rI 3) unkB g := flow_ax (tbl := [tAdd, tvsound]) (dirty := fun _ => []) (n := 8) nq_one xmixA Tryz.func88 rfl (by decide +kernel)
def tvAdd : ACt Tryz.prog nq := rowF false (go_of Tryz.func88 (by kernel_rfl) (by kernel_rfl)) vAdd_op (by decide +kernel)
theorem vSub_op : ∃ g, FOp Tryz.prog nq 107 [rI 3, rI 3] (rI 3) unkB g := flow_ax (tbl := [tSub, tvsound]) (dirty := fun _ => []) (n := 8) nq_one xmixA Tryz.func107 rfl (by decide +kernel)
def tvSub : ACt Tryz.prog nq := rowF false (go_of Tryz.func107 (by kernel_rfl) (by kernel_rfl)) vSub_op (by decide +kernel)
theorem vScale_op : ∃ g, FOp Tryz.prog nq 108 [rI 3, uI] (rI 3) unkB g := flow_ax (tbl := [tMul, tvsound]) (dirty := fun _ => []) (n := 8) nq_one xmixA Tryz.func108 rfl (by decide +kernel)
def tvScale : ACt Tryz.prog nq := rowF false (go_of Tryz.func108 (by kernel_rfl) (by kernel_rfl)) vScale_op (by decide +kernel)
theorem vDot_op : ∃ g, FOp Tryz.prog nq 106 [rI 3, rI 3] (uI) unkB g := flow_ax (tbl := [tMul, tAdd]) (dirty := fun _ => []) (n := 8) nq_one xmixA Tryz.func106 rfl (by decide +kernel)
def tvDot : ACt Tryz.prog nq := rowF false (go_of Tryz.func106 (by kernel_rfl) (by kernel_rfl)) vDot_op (by decide +kernel)
theorem vCross_op : ∃ g, FOp Tryz.prog nq 215 [rI 3, rI 3] (rI 3) unkB g := flow_ax (tbl := [tMul, tSub, tvsound]) (dirty := fun _ => []) (n := 8) nq_one xmixA Tryz.func215 rfl (by decide +kernel)
def tvCross : ACt Tryz.prog nq := rowF false (go_of Tryz.func215 (by kernel_rfl) (by kernel_rfl)) vCross_op (by decide +kernel)
theorem vNorm_op : ∃ g, FOp Tryz.prog nq 53 [rI 3] (uI) unkB g := flow_ax (tbl := [tNorm]) (dirty := fun _ => []) (n := 8) nq_one xmixA Tryz.func53 rfl (by decide +kernel)
def tvNorm : ACt Tryz.prog nq := rowF false (go_of Tryz.func53 (by kernel_rfl) (by kernel_rfl)) vNorm_op (by decide +kernel)
theorem vUnit_op : ∃ g, FOp Tryz.prog nq 188 [rI 3] (rI 3) unkB g := flow_ax (tbl := [tvNorm, tFail, tDiv]) (dirty := fun _ => []) (n := 8) nq_one xmixA Tryz.func188 rfl (by decide +kernel)
def tvUnit : ACt Tryz.prog nq := rowF false (go_of Tryz.func188 (by kernel_rfl) (by kernel_rfl)) vUnit_op (by decide +kernel)
theorem vParts_op : ∃ g, FOp Tryz.prog nq 175 [rI 3, rI 3] (.tuple ⟨[uI, uI]⟩) unkB g := flow_ax (tbl := [tvUnit, tvNorm, tvCross, tvDot]) (dirty := fun _ => []) (n := 8) nq_one xmixA Tryz.func175 rfl (by decide +kernel)
def tvParts : ACt Tryz.prog nq := rowF false (go_of Tryz.func175 (by kernel_rfl) (by kernel_rfl)) vParts_op (by decide +kernel)
end Go.Proofs.YtbophanlmkbfeaaGreatDoor
namespace Go.Proofs.YtbophanlmkbfeaaGreatDoor
open Go.RowKit
theorem qminus_op : ∃ g, POp Tryz.prog 218 [uI] (uI) g := pure_ax (nq := nq) (tbl := []) (dirty := fun _ => []) (n := 8) xmixA Tryz.func218 rfl (by decide +kernel)
def tqminus : ACt Tryz.prog nq := rowP (go_of Tryz.func218 (by kernel_rfl) (by kernel_rfl)) qminus_op (by decide +kernel)
theorem qparted_op : ∃ g, POp Tryz.prog 180 [rI 4] (.tuple ⟨[rI 3, uI]⟩) g := pure_ax (nq := nq) (tbl := []) (dirty := fun _ => []) (n := 8) xmixA Tryz.func180 rfl (by decide +kernel)
def tqparted : ACt Tryz.prog nq := rowP (go_of Tryz.func180 (by kernel_rfl) (by kernel_rfl)) qparted_op (by decide +kernel)
theorem qjoined_op : ∃ g, POp Tryz.prog 217 [rI 3, uI] (rI 4) g := pure_ax (nq := nq) (tbl := []) (dirty := fun _ => []) (n := 8) xmixA Tryz.func217 rfl (by decide +kernel)
def tqjoined : ACt Tryz.prog nq := rowP (go_of Tryz.func217 (by kernel_rfl) (by kernel_rfl)) qjoined_op (by decide +kernel)
theorem qBack_op : ∃ g, POp Tryz.prog 183 [rI 4] (rI 4) g := pure_ax (nq := nq) (tbl := [tqminus]) (dirty := fun _ => []) (n := 8) xmixA Tryz.func183 rfl (by decide +kernel)
def tqBack : ACt Tryz.prog nq := rowP (go_of Tryz.func183 (by kernel_rfl) (by kernel_rfl)) qBack_op (by decide +kernel)
theorem qupright_op : ∃ g, POp Tryz.prog 181 [rI 4] (rI 4) g := pure_ax (nq := nq) (tbl := [tqminus]) (dirty := fun _ => []) (n := 8) xmixA Tryz.func181 rfl (by decide +kernel)
def tqupright : ACt Tryz.prog nq := rowP (go_of Tryz.func181 (by kernel_rfl) (by kernel_rfl)) qupright_op (by decide +kernel)
theorem qsoundq_op : ∃ g, FOp Tryz.prog nq 216 [rI 4] (rI 4) unkB g := flow_ax (tbl := []) (dirty := fun _ => []) (n := 8) nq_one xmixA Tryz.func216 rfl (by decide +kernel)
def tqsoundq : ACt Tryz.prog nq := rowF false (go_of Tryz.func216 (by kernel_rfl) (by kernel_rfl)) qsoundq_op (by decide +kernel)
theorem qsoundv_op : ∃ g, FOp Tryz.prog nq 219 [rI 3] (rI 3) unkB g := flow_ax (tbl := []) (dirty := fun _ => []) (n := 8) nq_one xmixA Tryz.func219 rfl (by decide +kernel)
def tqsoundv : ACt Tryz.prog nq := rowF false (go_of Tryz.func219 (by kernel_rfl) (by kernel_rfl)) qsoundv_op (by decide +kernel)
theorem qMul_op : ∃ g, FOp Tryz.prog nq 178 [rI 4, rI 4] (rI 4) unkB g := flow_ax (tbl := [tqparted, tvScale, tvAdd, tvCross, tvDot, tSub, tMul, tqjoined, tqsoundq]) (dirty := fun _ => []) (n := 8) nq_one xmixA Tryz.func178 rfl (by decide +kernel)
def tqMul : ACt Tryz.prog nq := rowF false (go_of Tryz.func178 (by kernel_rfl) (by kernel_rfl)) qMul_op (by decide +kernel)
theorem qUnit_op : ∃ g, FOp Tryz.prog nq 111 [rI 4] (rI 4) unkB g := flow_ax (tbl := [tqparted, tvNorm, tNorm, tFail, tDiv, tqupright]) (dirty := fun _ => []) (n := 8) nq_one xmixA Tryz.func111 rfl (by decide +kernel)
def tqUnit : ACt Tryz.prog nq := rowF false (go_of Tryz.func111 (by kernel_rfl) (by kernel_rfl)) qUnit_op (by decide +kernel)
theorem qFromRod_op : ∃ g, FOp Tryz.prog nq 179 [rI 3] (rI 4) unkB g := flow_ax (tbl := [tvDot, tAdd, tMul, tSub, tDiv, tqUnit]) (dirty := fun _ => []) (n := 8) nq_one xmixA Tryz.func179 rfl (by decide +kernel)
def tqFromRod : ACt Tryz.prog nq := rowF false (go_of Tryz.func179 (by kernel_rfl) (by kernel_rfl)) qFromRod_op (by decide +kernel)
theorem qTurn_op : ∃ g, FOp Tryz.prog nq 187 [rI 4, rI 3] (rI 3) unkB g := flow_ax (tbl := [tqparted, tvScale, tvCross, tvAdd, tvSub]) (dirty := fun _ => []) (n := 8) nq_one xmixA Tryz.func187 rfl (by decide +kernel)
def tqTurn : ACt Tryz.prog nq := rowF false (go_of Tryz.func187 (by kernel_rfl) (by kernel_rfl)) qTurn_op (by decide +kernel)
theorem qToRod_op : ∃ g, FOp Tryz.prog nq 182 [rI 4] (rI 3) unkB g := flow_ax (tbl := [tqupright, tAdd, tMul, tDiv, tqsoundv]) (dirty := fun _ => []) (n := 8) nq_one xmixA Tryz.func182 rfl (by decide +kernel)
def tqToRod : ACt Tryz.prog nq := rowF false (go_of Tryz.func182 (by kernel_rfl) (by kernel_rfl)) qToRod_op (by decide +kernel)
end Go.Proofs.YtbophanlmkbfeaaGreatDoor
namespace Go.Proofs.YtbophanlmkbfeaaGreatDoor
open Go.RowKit
theorem qbyW_op : ∃ g, FOp Tryz.prog nq 221 [rI 9, uI] (rI 4) unkB g := flow_ax (tbl := [tSub, tAdd]) (dirty := fun _ => []) (n := 8) nq_one xmixA Tryz.func221 rfl (by decide +kernel)
def tqbyW : ACt Tryz.prog nq := rowF false (go_of Tryz.func221 (by kernel_rfl) (by kernel_rfl)) qbyW_op (by decide +kernel)
theorem qbyX_op : ∃ g, FOp Tryz.prog nq 222 [rI 9] (rI 4) unkB g := flow_ax (tbl := [tSub, tAdd]) (dirty := fun _ => []) (n := 8) nq_one xmixA Tryz.func222 rfl (by decide +kernel)
def tqbyX : ACt Tryz.prog nq := rowF false (go_of Tryz.func222 (by kernel_rfl) (by kernel_rfl)) qbyX_op (by decide +kernel)
theorem qbyY_op : ∃ g, FOp Tryz.prog nq 223 [rI 9] (rI 4) unkB g := flow_ax (tbl := [tSub, tAdd]) (dirty := fun _ => []) (n := 8) nq_one xmixA Tryz.func223 rfl (by decide +kernel)
def tqbyY : ACt Tryz.prog nq := rowF false (go_of Tryz.func223 (by kernel_rfl) (by kernel_rfl)) qbyY_op (by decide +kernel)
theorem qbyZ_op : ∃ g, FOp Tryz.prog nq 224 [rI 9] (rI 4) unkB g := flow_ax (tbl := [tSub, tAdd]) (dirty := fun _ => []) (n := 8) nq_one xmixA Tryz.func224 rfl (by decide +kernel)
def tqbyZ : ACt Tryz.prog nq := rowF false (go_of Tryz.func224 (by kernel_rfl) (by kernel_rfl)) qbyZ_op (by decide +kernel)
theorem qFromMatrix_op : ∃ g, FOp Tryz.prog nq 199 [rI 9] (rI 4) unkB g := flow_ax (tbl := [tAdd, tqUnit, tqbyW, tqbyX, tqbyY, tqbyZ]) (dirty := fun _ => []) (n := 8) nq_one xmixA Tryz.func199 rfl (by decide +kernel)
def tqFromMatrix : ACt Tryz.prog nq := rowF false (go_of Tryz.func199 (by kernel_rfl) (by kernel_rfl)) qFromMatrix_op (by decide +kernel)
theorem dApart_op : ∃ g, FOp Tryz.prog nq 105 [rI 3, rI 3] (unkB) unkB g := flow_ax (tbl := [tvParts]) (dirty := fun _ => []) (n := 8) nq_one xmixA Tryz.func105 rfl (by decide +kernel)
def tdApart : ACt Tryz.prog nq := rowF false (go_of Tryz.func105 (by kernel_rfl) (by kernel_rfl)) dApart_op (by decide +kernel)
theorem daxes_op : ∃ g, FOp Tryz.prog nq 201 [rI 6] (rI 9) unkB g := flow_ax (tbl := [tvUnit, tvCross]) (dirty := fun _ => []) (n := 8) nq_one xmixA Tryz.func201 rfl (by decide +kernel)
def tdaxes : ACt Tryz.prog nq := rowF false (go_of Tryz.func201 (by kernel_rfl) (by kernel_rfl)) daxes_op (by decide +kernel)
theorem dbetween_op : ∃ g, FOp Tryz.prog nq 200 [rI 9, rI 9] (rI 9) unkB g := flow_ax (tbl := [tMul, tAdd]) (dirty := fun _ => []) (n := 8) nq_one xmixA Tryz.func200 rfl (by decide +kernel)
def tdbetween : ACt Tryz.prog nq := rowF false (go_of Tryz.func200 (by kernel_rfl) (by kernel_rfl)) dbetween_op (by decide +kernel)
theorem dAttitude_op : ∃ g, FOp Tryz.prog nq 136 [rI 6, rI 6] (rI 4) unkB g := flow_ax (tbl := [tdApart, tFail, tdaxes, tdbetween, tqFromMatrix]) (dirty := fun _ => []) (n := 8) nq_one xmixA Tryz.func136 rfl (by decide +kernel)
end Go.Proofs.YtbophanlmkbfeaaGreatDoor
namespace Go.Proofs.YtbophanlmkbfeaaGreatDoor
open Go.RowKit
theorem aless_op : ∃ g, FOp Tryz.prog nq 190 [uI, rI 6, rI 6, upto .i64 6] (uI) unkB g := flow_ax (tbl := [tMul, tSub]) (dirty := fun _ => []) (n := 8) nq_one xmixA Tryz.func190 rfl (by decide +kernel)
def taless : ACt Tryz.prog nq := rowF false (go_of Tryz.func190 (by kernel_rfl) (by kernel_rfl)) aless_op (by decide +kernel)
theorem asum_op : ∃ g, FOp Tryz.prog nq 193 [rI 6, rI 6, (.int .i64 6)] (uI) unkB g := flow_ax (tbl := [tMul, tAdd]) (dirty := fun _ => []) (n := 8) nq_one xmixA Tryz.func193 rfl (by decide +kernel)
def tasum : ACt Tryz.prog nq := rowF false (go_of Tryz.func193 (by kernel_rfl) (by kernel_rfl)) asum_op (by decide +kernel)
theorem afits_op : ∃ g, FOp Tryz.prog nq 189 [(.int .i64 6)] ((.bool true)) unkB g := flow_ax (tbl := [tFail]) (dirty := fun _ => []) (n := 8) nq_one xmixA Tryz.func189 rfl (by decide +kernel)
def tafits : ACt Tryz.prog nq := rowF false (go_of Tryz.func189 (by kernel_rfl) (by kernel_rfl)) afits_op (by decide +kernel)
theorem apivot_op : ∃ g, FOp Tryz.prog nq 191 [uI] (uI) unkB g := flow_ax (tbl := [tFail, tSqrt]) (dirty := fun _ => []) (n := 8) nq_one xmixA Tryz.func191 rfl (by decide +kernel)
def tapivot : ACt Tryz.prog nq := rowF false (go_of Tryz.func191 (by kernel_rfl) (by kernel_rfl)) apivot_op (by decide +kernel)
theorem asoundM_op : ∃ g, FOp Tryz.prog nq 192 [rI 36] (rI 36) unkB g := flow_ax (tbl := []) (dirty := fun _ => []) (n := 8) nq_one xmixA Tryz.func192 rfl (by decide +kernel)
def tasoundM : ACt Tryz.prog nq := rowF false (go_of Tryz.func192 (by kernel_rfl) (by kernel_rfl)) asoundM_op (by decide +kernel)
theorem asoundR_op : ∃ g, FOp Tryz.prog nq 194 [rI 6] (rI 6) unkB g := flow_ax (tbl := []) (dirty := fun _ => []) (n := 8) nq_one xmixA Tryz.func194 rfl (by decide +kernel)
def tasoundR : ACt Tryz.prog nq := rowF false (go_of Tryz.func194 (by kernel_rfl) (by kernel_rfl)) asoundR_op (by decide +kernel)
theorem aforward_op : ∃ g, FOp Tryz.prog nq 195 [rI 36, rI 6, (.int .i64 6)] (rI 6) unkB g := flow_ax (tbl := [taless, tDiv]) (dirty := fun _ => []) (n := 8) nq_one xmixA Tryz.func195 rfl (by decide +kernel)
def taforward : ACt Tryz.prog nq := rowF false (go_of Tryz.func195 (by kernel_rfl) (by kernel_rfl)) aforward_op (by decide +kernel)
theorem aRoot_op : ∃ g, FOp Tryz.prog nq 125 [rI 36, (.int .i64 6)] (rI 36) unkB g := flow_ax (tbl := [tafits, taless, tDiv, tapivot, tasoundM]) (dirty := fun _ => []) (n := 8) nq_one xmixA Tryz.func125 rfl (by decide +kernel)
def taRoot : ACt Tryz.prog nq := rowF false (go_of Tryz.func125 (by kernel_rfl) (by kernel_rfl)) aRoot_op (by decide +kernel)
theorem aSolve_op : ∃ g, FOp Tryz.prog nq 127 [rI 36, rI 6, (.int .i64 6)] (rI 6) unkB g := flow_ax (tbl := [tafits, taforward, tMul, tSub, tDiv, tasoundR]) (dirty := fun _ => []) (n := 8) nq_one xmixA Tryz.func127 rfl (by decide +kernel)
def taSolve : ACt Tryz.prog nq := rowF false (go_of Tryz.func127 (by kernel_rfl) (by kernel_rfl)) aSolve_op (by decide +kernel)
theorem aApply_op : ∃ g, FOp Tryz.prog nq 126 [rI 36, rI 6, (.int .i64 6)] (rI 6) unkB g := flow_ax (tbl := [tafits, tasum, tasoundR]) (dirty := fun _ => []) (n := 8) nq_one xmixA Tryz.func126 rfl (by decide +kernel)
def taApply : ACt Tryz.prog nq := rowF false (go_of Tryz.func126 (by kernel_rfl) (by kernel_rfl)) aApply_op (by decide +kernel)
end Go.Proofs.YtbophanlmkbfeaaGreatDoor
namespace Go.Proofs.YtbophanlmkbfeaaGreatDoor
open Go.RowKit
theorem fparted_op : ∃ g, POp Tryz.prog 177 [rI 6] (.tuple ⟨[rI 3, rI 3]⟩) g := pure_ax (nq := nq) (tbl := []) (dirty := fun _ => []) (n := 8) xmixA Tryz.func177 rfl (by decide +kernel)
def tfparted : ACt Tryz.prog nq := rowP (go_of Tryz.func177 (by kernel_rfl) (by kernel_rfl)) fparted_op (by decide +kernel)
theorem fjoined_op : ∃ g, POp Tryz.prog 124 [rI 6] (rI 6) g := pure_ax (nq := nq) (tbl := []) (dirty := fun _ => []) (n := 8) xmixA Tryz.func124 rfl (by decide +kernel)
def tfjoined : ACt Tryz.prog nq := rowP (go_of Tryz.func124 (by kernel_rfl) (by kernel_rfl)) fjoined_op (by decide +kernel)
theorem feither_op : ∃ g, POp Tryz.prog 185 [uI, uI, uI] (uI) g := pure_ax (nq := nq) (tbl := []) (dirty := fun _ => []) (n := 8) xmixA Tryz.func185 rfl (by decide +kernel)
def tfeither : ACt Tryz.prog nq := rowP (go_of Tryz.func185 (by kernel_rfl) (by kernel_rfl)) feither_op (by decide +kernel)
theorem fmiddle_op : ∃ g, FOp Tryz.prog nq 184 [rI 13] (uI) unkB g := flow_ax (tbl := [tAdd, tPart]) (dirty := fun _ => []) (n := 16) nq_one xmixA Tryz.func184 rfl (by decide +kernel)
def tfmiddle : ACt Tryz.prog nq := rowF false (go_of Tryz.func184 (by kernel_rfl) (by kernel_rfl)) fmiddle_op (by decide +kernel)
theorem fmean_op : ∃ g, FOp Tryz.prog nq 113 [rI 78] (rI 6) unkB g := flow_ax (tbl := [tfmiddle]) (dirty := fun _ => []) (n := 16) nq_one xmixA Tryz.func113 rfl (by decide +kernel)
def tfmean : ACt Tryz.prog nq := rowF false (go_of Tryz.func113 (by kernel_rfl) (by kernel_rfl)) fmean_op (by decide +kernel)
theorem fless_op : ∃ g, FOp Tryz.prog nq 123 [rI 6, rI 6] (rI 6) unkB g := flow_ax (tbl := [tSub]) (dirty := fun _ => []) (n := 8) nq_one xmixA Tryz.func123 rfl (by decide +kernel)
def tfless : ACt Tryz.prog nq := rowF false (go_of Tryz.func123 (by kernel_rfl) (by kernel_rfl)) fless_op (by decide +kernel)
theorem fbeside_op : ∃ g, FOp Tryz.prog nq 114 [rI 78, rI 6] (rI 78) unkB g := flow_ax (tbl := [tfless]) (dirty := fun _ => []) (n := 16) nq_one xmixA Tryz.func114 rfl (by decide +kernel)
def tfbeside : ACt Tryz.prog nq := rowF false (go_of Tryz.func114 (by kernel_rfl) (by kernel_rfl)) fbeside_op (by decide +kernel)
theorem fraised_op : ∃ g, FOp Tryz.prog nq 119 [rI 36, uI, uI] (rI 36) unkB g := flow_ax (tbl := [tfeither, tAdd]) (dirty := fun _ => []) (n := 8) nq_one xmixA Tryz.func119 rfl (by decide +kernel)
def tfraised : ACt Tryz.prog nq := rowF false (go_of Tryz.func119 (by kernel_rfl) (by kernel_rfl)) fraised_op (by decide +kernel)
theorem fevened_op : ∃ g, FOp Tryz.prog nq 196 [rI 36] (rI 36) unkB g := flow_ax (tbl := [tAdd, tPart]) (dirty := fun _ => []) (n := 8) nq_one xmixA Tryz.func196 rfl (by decide +kernel)
def tfevened : ACt Tryz.prog nq := rowF false (go_of Tryz.func196 (by kernel_rfl) (by kernel_rfl)) fevened_op (by decide +kernel)
theorem funits_op : ∃ g, FOp Tryz.prog nq 122 [rI 6] (rI 6) unkB g := flow_ax (tbl := [tvUnit]) (dirty := fun _ => []) (n := 8) nq_one xmixA Tryz.func122 rfl (by decide +kernel)
def tfunits : ACt Tryz.prog nq := rowF false (go_of Tryz.func122 (by kernel_rfl) (by kernel_rfl)) funits_op (by decide +kernel)
theorem fattitudes_op : ∃ g, FOp Tryz.prog nq 176 [rI 43, rI 78] (rI 52) unkB g := flow_ax (tbl := [tfparted, tqFromRod, tqMul]) (dirty := fun _ => []) (n := 16) nq_one xmixA Tryz.func176 rfl (by decide +kernel)
def tfattitudes : ACt Tryz.prog nq := rowF false (go_of Tryz.func176 (by kernel_rfl) (by kernel_rfl)) fattitudes_op (by decide +kernel)
theorem fmoved_op : ∃ g, FOp Tryz.prog nq 110 [rI 43, rI 78, rI 3, uI] (rI 52) unkB g := flow_ax (tbl := [tfattitudes, tvSub, tfparted, tPart, tqFromRod, tqMul]) (dirty := fun _ => []) (n := 16) nq_one xmixA Tryz.func110 rfl (by decide +kernel)
def tfmoved : ACt Tryz.prog nq := rowF false (go_of Tryz.func110 (by kernel_rfl) (by kernel_rfl)) fmoved_op (by decide +kernel)
theorem faround_op : ∃ g, FOp Tryz.prog nq 112 [rI 4, rI 52, rI 78] (rI 78) unkB g := flow_ax (tbl := [tfparted, tqToRod, tqMul, tqBack, tfjoined]) (dirty := fun _ => []) (n := 16) nq_one xmixA Tryz.func112 rfl (by decide +kernel)
def tfaround : ACt Tryz.prog nq := rowF false (go_of Tryz.func112 (by kernel_rfl) (by kernel_rfl)) faround_op (by decide +kernel)
theorem fviewed_op : ∃ g, FOp Tryz.prog nq 121 [rI 43, rI 78, rI 6] (rI 78) unkB g := flow_ax (tbl := [tfattitudes, tqTurn, tfjoined]) (dirty := fun _ => []) (n := 16) nq_one xmixA Tryz.func121 rfl (by decide +kernel)
def tfviewed : ACt Tryz.prog nq := rowF false (go_of Tryz.func121 (by kernel_rfl) (by kernel_rfl)) fviewed_op (by decide +kernel)
theorem fturned_op : ∃ g, FOp Tryz.prog nq 117 [rI 4, rI 6] (rI 4) unkB g := flow_ax (tbl := [tfparted, tqFromRod, tqMul, tqUnit]) (dirty := fun _ => []) (n := 8) nq_one xmixA Tryz.func117 rfl (by decide +kernel)
def tfturned : ACt Tryz.prog nq := rowF false (go_of Tryz.func117 (by kernel_rfl) (by kernel_rfl)) fturned_op (by decide +kernel)
theorem fbiased_op : ∃ g, FOp Tryz.prog nq 118 [rI 3, rI 6] (rI 3) unkB g := flow_ax (tbl := [tfparted, tvAdd]) (dirty := fun _ => []) (n := 8) nq_one xmixA Tryz.func118 rfl (by decide +kernel)
def tfbiased : ACt Tryz.prog nq := rowF false (go_of Tryz.func118 (by kernel_rfl) (by kernel_rfl)) fbiased_op (by decide +kernel)
theorem fsound_op : ∃ g, FOp Tryz.prog nq 116 [rI 43] (rI 43) unkB g := flow_ax (tbl := []) (dirty := fun _ => []) (n := 8) nq_one xmixA Tryz.func116 rfl (by decide +kernel)
def tfsound : ACt Tryz.prog nq := rowF false (go_of Tryz.func116 (by kernel_rfl) (by kernel_rfl)) fsound_op (by decide +kernel)
end Go.Proofs.YtbophanlmkbfeaaGreatDoor
namespace Go.Proofs.YtbophanlmkbfeaaGreatDoor
open Go.RowKit
structure Stop (p : Prop) : Prop where
 out : p
theorem post_stop {P : Program} {fn : Func} {R : Ending → World → Prop} {e : Exit} {a : Act} {w : World} (h : Stop (bodyPost P fn R e a w)) : bodyPost P fn R e a w := h.out
theorem Arr.range {k : Nat} {l : List Value} {w : World} (A : Arr k l w) : w.rangeAt k 0 l := fun j v hv => by
 obtain ⟨hj, rfl⟩ := List.getElem?_eq_some_iff.1 hv
 rw [Nat.zero_add]
 exact A.c j hj
theorem results_arr {fn : Func} {p : Tmp} {ty : TypeId} (h : fn.results = #[.cell p ty]) {tmps : Array Value} {w : World} {k : Nat} {l : List Value} (A : Arr k l w)
    (hp : tmps.getD p undef = .pointer (some ⟨k, 0, none⟩)) (hd : (Tryz.prog.underlying ty).any TypeDesc.isRow = true) (hi : (Tryz.prog.info? ty).map (·.size) = some l.length) :
    (results fn tmps).run Tryz.prog w = .ok (.agg l.toArray) w := by
 cases hu : Tryz.prog.underlying ty with
 | none => rw [hu] at hd; cases hd
 | some d =>
  rw [hu] at hd
  have hp' : tmps[p]?.getD undef = .pointer (some ⟨k, 0, none⟩) := by simpa using hp
  simp [results, h, hp', asAddr, run_loadVar_mid w k 0 ty l d A.range hu hd hi]
end Go.Proofs.YtbophanlmkbfeaaGreatDoor
