/-
A part.
A part.
A part.
A part.
-/
import Derived.Handy
import Derived.Deep.RegionHeld3
import Derived.Deep.DrawnRows
import Derived.Test.YtbophanlmkbfeaaGreatDoorHE33
import Derived.Test.YtbophanlmkbfeaaGreatDoorHE32
import Derived.Test.YtbophanlmkbfeaaGreatDoorHE19
namespace Go.Proofs.YtbophanlmkbfeaaGreatDoor
open Go.RowKit
def nScan (K : List Value → Xm → Prop) (vt : List Value) (m : Xm) : Prop :=
 match vt.getD 4 undef, vt.getD 3 undef, m.headD [] with
 | .pointer (some ⟨0, 0, none⟩), .string s1, _ :: _ :: .string s0 :: _ =>
  s0.size + s1.size ≤ 5000 ∧ m.length = 4 ∧ vt.length = 98 ∧ ∀ sl, SlAt 4 sl (scanL (s0 ++ s1).data.toList).1 → K ((((((((((((vt.set 48 .nilIface).set 49 .nilIface).set 50 .nilIface).set 51 .nilIface).set 52 .nilIface).set 47 .nilIface).set 53 sl).set 54 (.string (restOf (s0 ++ s1).data.toList))).set 55 (.int .i64 ((scanL (s0 ++ s1).data.toList).2.2 : Nat))).set 13 sl).set 14 (.string (restOf (s0 ++ s1).data.toList))).set 15 (.int .i64 ((scanL (s0 ++ s1).data.toList).2.2 : Nat))) (m ++ [cellsOf (scanL (s0 ++ s1).data.toList).1])
 | _, _, _ => False
set_option maxHeartbeats 1000000 in
theorem nScan_sound {bs : List Nat} {w0 : World} {ds : List Deferred} {bl0 : Bl} {K : List Value → Xm → Prop} {Q : Exit → Act → World → Prop} {bl : Bl} {vt : List Value} {m : Xm} {a : Act} {w : World} {ops : Array Oper} {tC tT : TypeId} {fn : Nat} {o0 o1 o2 o3 o4 o5 o6 o7 o8 o9 o10 o11 : Oper} (hfn : fn = 17)
    (hfl : fieldV Tryz.prog tC 2 = some 2) (hag : qrun Tryz.prog (isAgg tT) = some false) (ho : ops = #[o0, o1, o2, o3, o4, o5, o6, o7, o8, o9, o10, o11])
    (h0 : o0.dst = some 48 ∧ o0.op = .fieldAddr tC (.tmp 4) 2 ∧ o0.guard = none) (h1 : o1.dst = some 49 ∧ o1.op = .load tT (.tmp 48) ∧ o1.guard = none) (h2 : o2.dst = some 50 ∧ o2.op = .move (.tmp 3) ∧ o2.guard = none) (h3 : o3.dst = some 51 ∧ o3.op = .binOp .add tT (.tmp 49) (.tmp 50) tT ∧ o3.guard = none) (h4 : o4.dst = some 52 ∧ o4.op = .call { callee := .value (.func fn), args := #[.tmp 51], argTypes := #[tT] } ∧ o4.guard = none) (h5 : o5.dst = some 47 ∧ o5.op = .move (.tmp 52) ∧ o5.guard = none) (h6 : o6.dst = some 53 ∧ o6.op = .extract (.tmp 47) 0 ∧ o6.guard = none) (h7 : o7.dst = some 54 ∧ o7.op = .extract (.tmp 47) 1 ∧ o7.guard = none) (h8 : o8.dst = some 55 ∧ o8.op = .extract (.tmp 47) 2 ∧ o8.guard = none) (h9 : o9.dst = some 13 ∧ o9.op = .assign (.tmp 53) ∧ o9.guard = none) (h10 : o10.dst = some 14 ∧ o10.op = .assign (.tmp 54) ∧ o10.guard = none) (h11 : o11.dst = some 15 ∧ o11.op = .assign (.tmp 55) ∧ o11.guard = none)
    (h : nScan K vt m) (r : Rl bs w0 ds bl0 bl vt m a w) (hK : ∀ bl vt m a w, K vt m → Rl bs w0 ds bl0 bl vt m a w → Q .normal a w) : (Code.region 14 ops false).wp Tryz.prog Q a w := by
 subst ho hfn
 have hlen := r.F.len
 unfold nScan at h
 split at h
 case h_2 => exact h.elim
 rename_i s1 x0 x1 s0 xs hp h2v hrow
 obtain ⟨hsz, hm3, hlt, hk⟩ := h
 rw [hlt] at hlen
 have hbl : bl.length = 4 := r.len.trans hm3
 have hp' := r.F.rv 4
 rw [hp] at hp'
 obtain ⟨B, hB, hpe⟩ := hp'
 have hpe : a.eval (.tmp 4) = .pointer (some ⟨B, 0, none⟩) := hpe
 have h2' := r.F.rv 3
 rw [h2v] at h2'
 have h2' : a.eval (.tmp 3) = .string s1 := h2'
 obtain ⟨row, e0, A0⟩ := r.R.arr 0 B hB
 have erow : row = x0 :: x1 :: .string s0 :: xs := by
  match m, e0, hrow with
  | _ :: _, e0, hrow => cases e0; exact hrow
 subst erow
 have hld : loadV Tryz.prog tT (x0 :: x1 :: .string s0 :: xs) 2 = some (.string s0) := by unfold loadV; rw [hag]; rfl
 have rld := loadV_run hld A0
 have rfl1 := fieldV_run hfl B 0 w
 have F := r.F
 have D := r.defers
 refine wp_region ?_
 have E3 := h2'
 refine ops_valS (v := .nilIface) (v' := (.pointer (some ⟨B, 2, none⟩))) (w' := w) rfl h0.1 (unguarded h0.2.2) (by simp [execOp, h0.2.1, hpe, rfl1]) F D hlen (by decide) (rfl) fun a F D hlen E48 X => ?_
 have E3 := (X 3 (by decide)).trans E3
 refine ops_valS (v := .nilIface) (v' := (.string s0)) (w' := w) rfl h1.1 (unguarded h1.2.2) (by simp [execOp, h1.2.1, E48, Instr.loadAt, Instr.sureAddr, rld]) F D hlen (by decide) (rfl) fun a F D hlen E49 X => ?_
 have E3 := (X 3 (by decide)).trans E3
 refine ops_valS (v := .nilIface) (v' := (.string s1)) (w' := w) rfl h2.1 (unguarded h2.2.2) (by simp [execOp, h2.2.1, E3]) F D hlen (by decide) (rfl) fun a F D hlen E50 X => ?_
 have E49 := (X 49 (by decide)).trans E49
 refine ops_valS (v := .nilIface) (v' := (.string (s0 ++ s1))) (w' := w) rfl h3.1 (unguarded h3.2.2) (by simp [execOp, h3.2.1, E49, E50, eqGuard, binOp, Op.stringOp]; omega) F D hlen (by decide) (rfl) fun a F D hlen E51 X => ?_
 have hss : (s0 ++ s1).size ≤ 5000 := by rw [ByteArray.size_append]; exact hsz
 refine ops_call (o := o4) (args := #[.string (s0 ++ s1)]) rfl h4.2.2 ?_ (rscan_any (s0 ++ s1) w hss) ?_
 ·have := go_of Tryz.func17 (by kernel_rfl) (by kernel_rfl) #[.string (s0 ++ s1)] w
  have hf : a.eval (.func 17) = .func (.func 17) #[] #[] := rfl
  simp [execOp, h4.2.1, resolve, hf, E51, Deferred.ofValue, invoke, this]
 rintro e w' ⟨v, rr, rfl, hrr, hfr, hbel⟩
 refine ⟨_, rfl, ?_⟩
 obtain ⟨x, sl, hsl, hrv, R'⟩ := r.R.framesAt hbl hm3 hbel hfr
 have hrr' : rr = restOf (s0 ++ s1).data.toList := by
  unfold restOf
  rw [← hrr]
 subst hrr'
 have hL := Le.last bl x
 have F := F.mono hL
 have hk := hk sl hsl
 rw [h4.1]
 have F := F.put (v := .nilIface) (v' := (.tuple #[v, .string (restOf (s0 ++ s1).data.toList), .int .i64 ((scanL (s0 ++ s1).data.toList).2.2 : Nat)])) rfl (some 52)
 have D := (put_defers a (some 52) (.tuple #[v, .string (restOf (s0 ++ s1).data.toList), .int .i64 ((scanL (s0 ++ s1).data.toList).2.2 : Nat)])).trans D
 have E52 : (a.put (some 52) (.tuple #[v, .string (restOf (s0 ++ s1).data.toList), .int .i64 ((scanL (s0 ++ s1).data.toList).2.2 : Nat)])).eval (.tmp 52) = (.tuple #[v, .string (restOf (s0 ++ s1).data.toList), .int .i64 ((scanL (s0 ++ s1).data.toList).2.2 : Nat)]) := put_get (by rw [hlen]; decide)
 have hlen := (put_size (a := a) (d := some 52) (v := (.tuple #[v, .string (restOf (s0 ++ s1).data.toList), .int .i64 ((scanL (s0 ++ s1).data.toList).2.2 : Nat)]))).trans hlen
 generalize a.put (some 52) (.tuple #[v, .string (restOf (s0 ++ s1).data.toList), .int .i64 ((scanL (s0 ++ s1).data.toList).2.2 : Nat)]) = a at F D E52 hlen ⊢
 refine ops_valS (v := .nilIface) (v' := (.tuple #[v, .string (restOf (s0 ++ s1).data.toList), .int .i64 ((scanL (s0 ++ s1).data.toList).2.2 : Nat)])) (w' := w') rfl h5.1 (unguarded h5.2.2) (by simp [execOp, h5.2.1, E52]) F D hlen (by decide) (rfl) fun a F D hlen E47 X => ?_
 refine ops_valS (v := sl) (v' := v) (w' := w') rfl h6.1 (unguarded h6.2.2) (by simp [execOp, h6.2.1, E47, Instr.extract]) F D hlen (by decide) (hrv) fun a F D hlen E53 X => ?_
 have E47 := (X 47 (by decide)).trans E47
 refine ops_valS (v := (.string (restOf (s0 ++ s1).data.toList))) (v' := (.string (restOf (s0 ++ s1).data.toList))) (w' := w') rfl h7.1 (unguarded h7.2.2) (by simp [execOp, h7.2.1, E47, Instr.extract]) F D hlen (by decide) (rfl) fun a F D hlen E54 X => ?_
 have E47 := (X 47 (by decide)).trans E47
 have E53 := (X 53 (by decide)).trans E53
 refine ops_valS (v := (.int .i64 ((scanL (s0 ++ s1).data.toList).2.2 : Nat))) (v' := (.int .i64 ((scanL (s0 ++ s1).data.toList).2.2 : Nat))) (w' := w') rfl h8.1 (unguarded h8.2.2) (by simp [execOp, h8.2.1, E47, Instr.extract]) F D hlen (by decide) (rfl) fun a F D hlen E55 X => ?_
 have E53 := (X 53 (by decide)).trans E53
 have E54 := (X 54 (by decide)).trans E54
 refine ops_valS (v := sl) (v' := v) (w' := w') rfl h9.1 (unguarded h9.2.2) (by simp [execOp, h9.2.1, E53]) F D hlen (by decide) (hrv) fun a F D hlen E13 X => ?_
 have E54 := (X 54 (by decide)).trans E54
 have E55 := (X 55 (by decide)).trans E55
 refine ops_valS (v := (.string (restOf (s0 ++ s1).data.toList))) (v' := (.string (restOf (s0 ++ s1).data.toList))) (w' := w') rfl h10.1 (unguarded h10.2.2) (by simp [execOp, h10.2.1, E54]) F D hlen (by decide) (rfl) fun a F D hlen E14 X => ?_
 have E55 := (X 55 (by decide)).trans E55
 refine ops_valS (v := (.int .i64 ((scanL (s0 ++ s1).data.toList).2.2 : Nat))) (v' := (.int .i64 ((scanL (s0 ++ s1).data.toList).2.2 : Nat))) (w' := w') rfl h11.1 (unguarded h11.2.2) (by simp [execOp, h11.2.1, E55]) F D hlen (by decide) (rfl) fun a F D hlen E15 X => ?_
 exact hK _ _ _ _ _ hk ⟨F, R', r.le.trans hL, by rw [List.length_append, List.length_append, hbl, hm3]; rfl, D⟩
def nMany (ks : List Nat) (l : List (UInt8 × List UInt8)) (K : List Value → Xm → Prop) (vt : List Value) (m : Xm) : Prop :=
 SlAt 4 (vt.getD 13 undef) l ∧ vt.length = 98 ∧ forget ks 98 5 K (((vt.set 56 (vt.getD 13 undef)).set 57 (.int .i64 (l.length : Nat))).set 58 (.int .i64 0)) m
theorem nMany_sound {bs : List Nat} {w0 : World} {ds : List Deferred} {bl0 : Bl} {K : List Value → Xm → Prop} {Q : Exit → Act → World → Prop} {bl : Bl} {vt : List Value} {m : Xm} {a : Act} {w : World} {l : List (UInt8 × List UInt8)} {ks : List Nat} {ops : Array Oper} {tS e : TypeId} {o0 o1 o2 : Oper} (hb : bl0.length ≤ 5) (hu : Tryz.prog.underlying tS = some (.slice e)) (ho : ops = #[o0, o1, o2])
    (h0 : o0.dst = some 56 ∧ o0.op = .move (.tmp 13) ∧ o0.guard = none) (h1 : o1.dst = some 57 ∧ o1.op = .call { callee := .builtin .len, args := #[.tmp 56], argTypes := #[tS] } ∧ o1.guard = none) (h2 : o2.dst = some 58 ∧ o2.op = .move (.const (.int .i64 0)) ∧ o2.guard = none)
    (h : nMany ks l K vt m) (r : Rl bs w0 ds bl0 bl vt m a w) (hK : ∀ bl vt m a w, K vt m → Rl bs w0 ds bl0 bl vt m a w → Q .normal a w) : (Code.region 15 ops false).wp Tryz.prog Q a w := by
 subst ho
 have hlen := r.F.len
 obtain ⟨hsl, hlt, hk⟩ := h
 rw [hlt] at hlen
 have hv := r.F.rv 13
 obtain ⟨A, cap, hs, _⟩ := hsl.real hv
 have E13 : a.eval (.tmp 13) = .slice A l.length cap := hs
 rw [hs] at hv
 have r0 := run_under hu w
 have F := r.F
 have D := r.defers
 refine wp_region ?_
 refine ops_valS (v := (vt.getD 13 undef)) (v' := (.slice A l.length cap)) (w' := w) rfl h0.1 (unguarded h0.2.2) (by simp [execOp, h0.2.1, E13]) F D hlen (by decide) (hv) fun a F D hlen E56 X => ?_
 refine ops_valS (v := (.int .i64 (l.length : Nat))) (v' := (.int .i64 (l.length : Nat))) (w' := w) rfl h1.1 (unguarded h1.2.2) (by simp [execOp, h1.2.1, resolve, invoke, builtin, E56, Builtin.len_, r0, goInt]) F D hlen (by decide) (rfl) fun a F D hlen E57 X => ?_
 refine ops_valS (v := (.int .i64 0)) (v' := (.int .i64 0)) (w' := w) rfl h2.1 (unguarded h2.2.2) (by simp [execOp, h2.2.1, Act.eval]) F D hlen (by decide) (rfl) fun a F D hlen E58 X => ?_
 have r' : Rl bs w0 ds bl0 bl _ m a w := ⟨F, r.R, r.le, r.len, D⟩
 obtain ⟨bl', vt', m', k1, k2⟩ := r'.cut hb hk
 exact hK bl' vt' m' _ w k1 k2
def nOne (l : List (UInt8 × List UInt8)) (K : List Value → Xm → Prop) (vt : List Value) (m : Xm) : Prop :=
 match vt.getD 58 undef with
 | .int .i64 i => (0 ≤ i ∧ i.toNat < l.length) ∧ SlAt 4 (vt.getD 56 undef) l ∧ m[4]? = some (cellsOf l) ∧ m.length = 5 ∧ vt.length = 98 ∧ K (((vt.set 60 .nilIface).set 61 .nilIface).set 17 (.pointer (some ⟨5, 0, none⟩))) (m ++ [[Value.int .i64 (frL l i).1, Value.string (frL l i).2]])
 | _ => False
theorem nOne_sound {bs : List Nat} {w0 : World} {ds : List Deferred} {bl0 : Bl} {K : List Value → Xm → Prop} {Q : Exit → Act → World → Prop} {bl : Bl} {vt : List Value} {m : Xm} {a : Act} {w : World} {l : List (UInt8 × List UInt8)} {ops : Array Oper} {tS tF : TypeId} {o0 o1 o2 o3 : Oper} (hu : Tryz.prog.underlying tS = some (.slice tF)) (hz : qrun Tryz.prog (sizeOf tF) = some 2) (ha : qrun Tryz.prog (isAgg tF) = some true) {z : Value} (hzv : qrun Tryz.prog (zeroValue tF) = some z) (hzl : z.cells.toList.length = 2) (ho : ops = #[o0, o1, o2, o3])
    (h0 : o0.dst = some 60 ∧ o0.op = .indexAddr tS (.tmp 56) (.tmp 58) ∧ o0.guard = none) (h1 : o1.dst = some 61 ∧ o1.op = .load tF (.tmp 60) ∧ o1.guard = none) (h2 : o2.dst = some 17 ∧ o2.op = .alloc tF ∧ o2.guard = none) (h3 : o3.dst = none ∧ o3.op = .store tF (.tmp 17) (.tmp 61) ∧ o3.guard = none)
    (h : nOne l K vt m) (r : Rl bs w0 ds bl0 bl vt m a w) (hK : ∀ bl vt m a w, K vt m → Rl bs w0 ds bl0 bl vt m a w → Q .normal a w) : (Code.region 17 ops false).wp Tryz.prog Q a w := by
 subst ho
 have hlen := r.F.len
 unfold nOne at h
 split at h
 case h_2 => exact h.elim
 rename_i i hi
 obtain ⟨⟨hi0, hil⟩, hsl, hm3, hm5, hlt, hk⟩ := h
 rw [hlt] at hlen
 have hiv := r.F.rv 58
 rw [hi] at hiv
 have E58 : a.eval (.tmp 58) = .int .i64 i := hiv
 obtain ⟨A, cap, hs, hB⟩ := hsl.real (r.F.rv 56)
 have E56 : a.eval (.tmp 56) = .slice A l.length cap := hs
 obtain ⟨B, hb3, rfl⟩ := hB (by rintro rfl; simp at hil)
 obtain ⟨row, e3, A3⟩ := r.R.arr 4 B hb3
 rw [hm3] at e3
 cases e3
 have hrow := frame_load ha hz hil hi0
 have rld := loadV_run hrow A3
 have F := r.F
 have D := r.defers
 refine wp_region ?_
 have hil' : i < (l.length : Int) := by omega
 have r0 := run_under hu w
 have r1 := qrun_run _ hz w
 refine ops_valS (v := .nilIface) (v' := (.pointer (some ⟨B, i.toNat * 2, none⟩))) (w' := w) rfl h0.1 (unguarded h0.2.2) (by simp [execOp, h0.2.1, E56, E58, Instr.indexAt, asIntOf, r0, r1, hi0, hil', add_is, Sem.run_bind]) F D hlen (by decide) (rfl) fun a F D hlen E60 X => ?_
 refine ops_valS (v := .nilIface) (v' := (.agg #[Value.int .i64 (frL l i).1, Value.string (frL l i).2])) (w' := w) rfl h1.1 (unguarded h1.2.2) (by simp [execOp, h1.2.1, E60, Instr.loadAt, Instr.sureAddr, rld]) F D hlen (by decide) (rfl) fun a F D hlen E61 X => ?_
 have hw3 : (execOp a.eval o2).run Tryz.prog w = .ok (.value (.pointer (some ⟨w.heap.size, 0, none⟩))) (w.alloc (.cells z.cells.toList.toArray tF)) := by
  have r := qrun_run _ hzv w
  simp [execOp, h2.2.1, Instr.alloc, newVar, newRow, newObj, r, Sem.run]
 have hbl : bl.length = 5 := r.len.trans hm5
 have WW := r.R.wide 1 [[Value.int .i64 (frL l i).1, Value.string (frL l i).2]]
 obtain ⟨N, hle⟩ := WW.new (k := 5) (by rw [List.getElem?_append_right (by omega), hbl, Nat.sub_self]; rfl) (by rw [List.length_append, hm5]; exact Nat.lt_succ_self 5) z.cells.toList tF
 have hg5 : ((bl ++ List.replicate 1 none).set 5 (some w.heap.size))[5]? = some (some w.heap.size) := List.getElem?_set_self (by rw [List.length_append, hbl]; exact Nat.lt_succ_self 5)
 have hm6 : ((m ++ [[Value.int .i64 (frL l i).1, Value.string (frL l i).2]]).set 5 z.cells.toList)[5]? = some z.cells.toList := List.getElem?_set_self (by rw [List.length_append, hm5]; exact Nat.lt_succ_self 5)
 obtain ⟨row, e5, A5⟩ := N.arr 5 _ hg5
 rw [hm6] at e5
 cases e5
 have hst : storeV Tryz.prog tF z.cells.toList 0 (.agg #[Value.int .i64 (frL l i).1, Value.string (frL l i).2]) = some (setAt z.cells.toList 0 [Value.int .i64 (frL l i).1, Value.string (frL l i).2]) := by
  unfold storeV
  rw [hz]
  dsimp only
  rw [if_pos (by rw [hzl]; rfl)]
  rfl
 obtain ⟨r3, _, hl3⟩ := storeV_run hst A5
 have hL : Le bl ((bl ++ List.replicate 1 none).set 5 (some w.heap.size)) := (Le.wide bl 1).trans hle
 have F := F.mono hL
 refine ops_valS (v := .pointer (some ⟨5, 0, none⟩)) rfl h2.1 (unguarded h2.2.2) hw3 F D hlen (by decide) (RV.at hg5 0) fun a F D hlen E17 X => ?_
 have E61 := (X 61 (by decide)).trans E61
 refine ops_skip (o := o3) (w' := wset (w.alloc (.cells z.cells.toList.toArray tF)) w.heap.size 0 [Value.int .i64 (frL l i).1, Value.string (frL l i).2]) rfl h3.2.2 ?_ ?_
 ·simp [execOp, h3.2.1, E17, E61, Instr.storeAt, Instr.sureAddr, r3]
  rfl
 rw [h3.1]
 have hrow5 : setAt z.cells.toList 0 [Value.int .i64 (frL l i).1, Value.string (frL l i).2] = [Value.int .i64 (frL l i).1, Value.string (frL l i).2] := by
  match z.cells.toList, hzl with
  | [_, _], _ => rfl
 have R5 := N.store hg5 hm6 0 [Value.int .i64 (frL l i).1, Value.string (frL l i).2] hl3
 rw [hrow5] at R5
 have hmm : ((m ++ [[Value.int .i64 (frL l i).1, Value.string (frL l i).2]]).set 5 z.cells.toList).set 5 [Value.int .i64 (frL l i).1, Value.string (frL l i).2] = m ++ [[Value.int .i64 (frL l i).1, Value.string (frL l i).2]] := by
  rw [List.set_set, List.set_append_right _ _ (by omega), hm5, Nat.sub_self]
  rfl
 rw [hmm] at R5
 exact hK _ _ _ _ _ hk ⟨F, R5, r.le.trans hL, by rw [List.length_set, List.length_append, List.length_append, hbl, hm5]; rfl, by rw [put_defers]; exact D⟩
end Go.Proofs.YtbophanlmkbfeaaGreatDoor
namespace Go.Proofs.YtbophanlmkbfeaaGreatDoor
open Go.RowKit
def andV (Post : Value → Prop) : List Bool → Prop
 | [] => Post (.bool true)
 | [c] => Post (.bool c)
 | c :: d :: cs => vif c (andV Post (d :: cs)) (Post (.bool false))
theorem andV_of {Post : Value → Prop} : ∀ {cs : List Bool}, Post (.bool (cs.all id)) → andV Post cs
 | [], h => h
 | [c], h => by
  have e : ([c].all id) = c := by cases c <;> rfl
  rw [e] at h
  exact h
 | c :: d :: cs, h => by
  cases c
  ·exact h
  ·exact andV_of (cs := d :: cs) h
def yInn : Ct Tryz.prog := pureCt Tryz.prog 67 (then' cI (then' cI (lone' cI))) (fun x => inR x.1 x.2.1 x.2.2) cB (go_of Tryz.func67 (by kernel_rfl) (by kernel_rfl)) (fun x w _ => Calls.mono (rin_any x.1 x.2.1 x.2.2 w) (by rintro e w' ⟨rfl, rfl⟩; exact ⟨rfl, Below.refl _ _⟩))
def yRit : Ct Tryz.prog := pureCt Tryz.prog 35 (lone' cI) cRight cB (go_of Tryz.func35 (by kernel_rfl) (by kernel_rfl)) (fun x w _ => dRight_any x w)
def tlCs (x : Tel) : List Bool := [cRight x.1, inR x.2.1 0 3, inR x.2.2.1 0 15, inR x.2.2.2.1 0 255, inR x.2.2.2.2.1 0 255, inR x.2.2.2.2.2.1 0 65535, inR x.2.2.2.2.2.2.1 (-32768) 32767, inR x.2.2.2.2.2.2.2.1 (-32768) 32767, inR x.2.2.2.2.2.2.2.2.1 (-32768) 32767, inR x.2.2.2.2.2.2.2.2.2.1 (-32768) 32767, inR x.2.2.2.2.2.2.2.2.2.2.1 (-32768) 32767, inR x.2.2.2.2.2.2.2.2.2.2.2.1 (-32768) 32767, inR x.2.2.2.2.2.2.2.2.2.2.2.2.1 (-32768) 32767]
theorem tlCs_all (x : Tel) : (tlCs x).all id = tlOk (tlOf x) := by
 unfold tlCs tlOk
 simp only [List.all_cons, List.all_nil, id, Bool.and_true, ← Bool.and_assoc]
 rfl
set_option maxRecDepth 100000 in
theorem rtRight_fx : PureOk Tryz.prog 32 (lone' (cT 13)) (fun x => tlOk (tlOf x)) cB := fun x w hw => by
 refine pure_at (d := lone' (cT 13)) (k := cB) (x := x) (y := tlOk (tlOf x)) (tbl := [yInn, yRit]) (dirty := fun _ => []) (n := 6) xmixA Tryz.func32 rfl (fun Post hP => ?_) w hw
 refine Eq.mpr (β := andV Post (tlCs x)) (by kernel_rfl) (andV_of ?_)
 rw [tlCs_all]
 exact hP
def yRgt : Ct Tryz.prog := pureCt Tryz.prog 32 (lone' (cT 13)) (fun x => tlOk (tlOf x)) cB (go_of Tryz.func32 (by kernel_rfl) (by kernel_rfl)) rtRight_fx
def Two (s : ByteArray) (i : Int) : Prop := 0 ≤ i ∧ i < 100 ∧ i.toNat + 1 < s.size
def yCnt : Ct Tryz.prog := predCt Tryz.prog 31 (then' cS (lone' cI)) (fun x K => Two x.1 x.2 ∧ K (.int .i64 (sg (cnt x.1 x.2.toNat)))) (fun _ _ _ hK hs => ⟨hs.1, hK _ hs.2⟩) (go_of Tryz.func31 (by kernel_rfl) (by kernel_rfl))
 (fun x w _ K hs => Calls.mono (rtcount_any x.1 x.2 x.2.toNat w (by have := hs.1.1; omega) hs.1.2.2 (by have := hs.1.2.1; omega)) (by rintro e w' ⟨rfl, rfl⟩; exact ⟨_, rfl, rfl, hs.2, bel_drew (Below.refl _ _)⟩))
def bsOf (n : Nat) (f : Nat → UInt8) : ByteArray := ⟨⟨(List.range n).map f⟩⟩
theorem bsOf_is (s : ByteArray) : s = bsOf s.size (fun i => s.data.toList.getD i 0) := by
 obtain ⟨⟨l⟩⟩ := s
 unfold bsOf
 congr 2
 refine List.ext_getElem (by simp; rfl) (fun i h1 h2 => ?_)
 simp [h1]
theorem bt_bs {n : Nat} {f : Nat → UInt8} {i : Nat} (h : i < n) : bt (bsOf n f) i = (f i).toNat := by
 unfold bt bsOf
 simp [h]
def tckE (f : Nat → UInt8) : Nat → Int
 | 0 => 0
 | k + 1 => IntKind.i64.wrap (IntKind.i64.wrap (tckE f k * 256) + bI (f k))
theorem tckE_is {n : Nat} {f : Nat → UInt8} (hn : 6 ≤ n) : ∀ k, k ≤ 6 → tckE f k = (tickK (bsOf n f) k : Nat)
 | 0, _ => rfl
 | k + 1, hk => by
  have ih := tckE_is (f := f) hn k (by omega)
  have hl := tickK_le (bsOf n f) (k := k) (by omega)
  have hb : bI (f k) = (bt (bsOf n f) k : Nat) := by rw [bI_is, bt_bs (by omega)]
  have hb2 := bt_lt (bsOf n f) k
  have e : tickK (bsOf n f) (k + 1) = tickK (bsOf n f) k * 256 + bt (bsOf n f) k := rfl
  show IntKind.i64.wrap (IntKind.i64.wrap (tckE f k * 256) + bI (f k)) = _
  rw [ih, hb, e, IntKind.wrap_i64, IntKind.wrap_i64]
  omega
def tlF (f : Nat → UInt8) : Tel := (tckE f 6, bI (f 6), bI (f 7), bI (f 8), bI (f 9), IntKind.i64.wrap (IntKind.i64.wrap (bI (f 10) * 256) + bI (f 11)), sg (cnt (bsOf 26 f) (12 : Int).toNat), sg (cnt (bsOf 26 f) (14 : Int).toNat), sg (cnt (bsOf 26 f) (16 : Int).toNat), sg (cnt (bsOf 26 f) (18 : Int).toNat), sg (cnt (bsOf 26 f) (20 : Int).toNat), sg (cnt (bsOf 26 f) (22 : Int).toNat), sg (cnt (bsOf 26 f) (24 : Int).toNat), ())
theorem tlF_is (f : Nat → UInt8) : tlOf (tlF f) = tlE (bsOf 26 f) := by
 have h : ∀ i, i < 26 → bI (f i) = (bt (bsOf 26 f) i : Nat) := fun i hi => by rw [bI_is, bt_bs hi]
 have hr : IntKind.i64.wrap (IntKind.i64.wrap (bI (f 10) * 256) + bI (f 11)) = (cnt (bsOf 26 f) 10 : Nat) := by
  have b0 := bt_lt (bsOf 26 f) 10
  have b1 := bt_lt (bsOf 26 f) 11
  have e : cnt (bsOf 26 f) 10 = bt (bsOf 26 f) 10 * 256 + bt (bsOf 26 f) 11 := rfl
  rw [h 10 (by decide), h 11 (by decide), e, IntKind.wrap_i64, IntKind.wrap_i64]
  omega
 unfold tlOf tlF tlE
 dsimp only
 rw [tckE_is (n := 26) (by decide) 6 (by decide), h 6 (by decide), h 7 (by decide), h 8 (by decide), h 9 (by decide), hr]
 rfl
abbrev kTel : Dc (Tel × Bool) := two' (cT 13) cB
def zeroT : Tel := (0, 0, 0, 0, 0, 0, 0, 0, 0, 0, 0, 0, 0, ())
set_option maxRecDepth 100000 in
theorem rtread_yes (s : ByteArray) (w : World) (hw : GW w) (hs : s.size = 26) (h : tlOk (tlE s) = true) {T : Tel} (hT : tlOf T = tlE s) : Calls Tryz.prog 11 ((lone' cFra).enc (32, s)).toArray w fun e w' => e = .returned (kTel.enc (T, true)) ∧ Below w.heap.size w w' := by
 have e := bsOf_is s
 rw [hs] at e
 generalize (fun i => s.data.toList.getD i 0) = f at e
 subst e
 obtain rfl : T = tlF f := by
  have := hT.trans (tlF_is f).symm
  exact congrArg (fun z : Tl => ((z.t, z.m, z.fa, z.ak, z.er, z.rj, z.q0, z.q1, z.q2, z.q3, z.d0, z.d1, z.d2, ()) : Tel)) this
 rw [← tlF_is] at h
 refine pure_at (d := lone' cFra) (k := kTel) (x := (32, bsOf 26 f)) (y := (tlF f, true)) (tbl := [yCnt, yRgt]) (dirty := fun _ => []) (n := 8) xmixA Tryz.func11 rfl (fun Post hP => ?_) w hw
 refine Eq.mpr (β := Two (bsOf 26 f) 12 ∧ Two (bsOf 26 f) 14 ∧ Two (bsOf 26 f) 16 ∧ Two (bsOf 26 f) 18 ∧ Two (bsOf 26 f) 20 ∧ Two (bsOf 26 f) 22 ∧ Two (bsOf 26 f) 24 ∧ vif (!tlOk (tlOf (tlF f))) (PJ kTel Post (zeroT, false)) (PJ kTel Post (tlF f, true))) (by kernel_rfl) ?_
 have g : ∀ i : Int, 0 ≤ i → i ≤ 24 → Two (bsOf 26 f) i := fun i h0 h1 => ⟨h0, by omega, by rw [hs]; omega⟩
 rw [h]
 exact ⟨g _ (by decide) (by decide), g _ (by decide) (by decide), g _ (by decide) (by decide), g _ (by decide) (by decide), g _ (by decide) (by decide), g _ (by decide) (by decide), g _ (by decide) (by decide), hP⟩
end Go.Proofs.YtbophanlmkbfeaaGreatDoor
namespace Go.Proofs.YtbophanlmkbfeaaGreatDoor
open Go.RowKit
set_option maxHeartbeats 400000 in
theorem rabove_any (n m : Int) (w : World) :
    Calls Tryz.prog 72 #[.agg #[.int .u64 (hi64 n), .int .u64 (lo64 n)], .agg #[.int .u64 (hi64 m), .int .u64 (lo64 m)]] w fun e w' => e = .returned (.bool (decide (m < n))) ∧ Below w.heap.size w w' := by
 have b2 := lo64_bd n
 have b4 := lo64_bd m
 have e1 := hilo n
 have e2 := hilo m
 by_cases c1 : hi64 m < hi64 n
 ·have HF : Hid (true = decide (m < n)) := by show _ = _; simp; omega
  clear b2 b4 e1 e2
  go_enter Tryz.func72, Tryz.ntmps72
  go_wp2
  go_ret
  exact ⟨ret_bool (by simpa using HF.out), by go_grown⟩
 ·by_cases c2 : hi64 n = hi64 m
  ·have HF : Hid (decide (lo64 m < lo64 n) = decide (m < n)) := by show _ = _; simp; omega
   have c3 : (hi64 n == hi64 m) = true := by simpa using c2
   clear b2 b4 e1 e2 c2
   go_enter Tryz.func72, Tryz.ntmps72
   go_wp2
   go_ret
   exact ⟨ret_bool HF.out, by go_grown⟩
  ·have HF : Hid (false = decide (m < n)) := by show _ = _; simp; omega
   have c3 : (hi64 n == hi64 m) = false := by simpa using c2
   clear b2 b4 e1 e2 c2
   go_enter Tryz.func72, Tryz.ntmps72
   go_wp2
   go_ret
   exact ⟨ret_bool HF.out, by go_grown⟩
end Go.Proofs.YtbophanlmkbfeaaGreatDoor
namespace Go.Proofs.YtbophanlmkbfeaaGreatDoor
open Go.RowKit
attribute [local go_sem ↓] Go.wp_at_zero Go.wp_at_succ
set_option maxHeartbeats 800000 in
theorem rNorm_any (b : Nat) (bad : Bool) (x y z : Int) (w : World) (hw : Fl b bad w) :
    Calls Tryz.prog 33 #[.pointer (some ⟨b, 0, none⟩), .int .i64 x, .int .i64 y, .int .i64 z] w fun e w' => e = .returned (.int .i64 (normS bad x y z).1) ∧ Fl b (normS bad x y z).2 w' ∧ Kept b w w' := by
 go_enter Tryz.func33, Tryz.ntmps33
 go_wp2_with fail
 refine (rtake3 b bad x y z w hw).mono ?_
 rintro e w1 ⟨rfl, h2, h3⟩
 cases c : tk bad [x, y, z]
 ·rw [c] at h2
  have HS : Hid _ := normS_no c
  have H2 : Hid _ := h2
  have H3 : Hid _ := h3
  clear c h2 h3 hw
  go_wp2
  go_ret
  rw [HS.out]
  exact ⟨rfl, H2.out, H3.out⟩
 ·rw [c] at h2
  have H2 : Hid _ := h2
  have H3 : Hid _ := h3
  have HS : Hid _ := normS_yes c
  have ht := tk_three c
  have HX : Hid _ := ht.2.1
  have HY : Hid _ := ht.2.2.1
  have HZ : Hid _ := ht.2.2.2
  have sx := sz_bd ht.2.1
  have sy := sz_bd ht.2.2.1
  have sz' := sz_bd ht.2.2.2
  clear hw h2 h3 c ht
  go_wp2_with fail
  refine (rsize_any x _ HX.out).mono ?_
  rintro e w2 ⟨rfl, rfl⟩
  go_wp2_with fail
  refine (rsize_any x _ HX.out).mono ?_
  rintro e w2 ⟨rfl, rfl⟩
  go_wp2_with fail
  refine (rTimes_any (sz x) (sz x) _ ⟨sx.1, by omega⟩ ⟨sx.1, by omega⟩).mono ?_
  rintro e w3 ⟨rfl, h4⟩
  rw [sz_sq]
  have F3 : Hid _ := H2.out.below h4
  have K3 : Hid _ := H3.out.trans (Kept.of_below h4)
  clear h4 H2 H3
  go_wp2_with fail
  refine (rsize_any y _ HY.out).mono ?_
  rintro e w2 ⟨rfl, rfl⟩
  go_wp2_with fail
  refine (rsize_any y _ HY.out).mono ?_
  rintro e w2 ⟨rfl, rfl⟩
  go_wp2_with fail
  refine (rTimes_any (sz y) (sz y) _ ⟨sy.1, by omega⟩ ⟨sy.1, by omega⟩).mono ?_
  rintro e w4 ⟨rfl, h4⟩
  rw [sz_sq]
  have F4 : Hid _ := F3.out.below h4
  have K4 : Hid _ := K3.out.trans (Kept.of_below h4)
  clear h4 F3 K3
  go_wp2_with fail
  refine (radd_any (x * x) (y * y) _ (sq_bd HX.out).1 (sq_bd HY.out).1 (by have := sq_bd HX.out; have := sq_bd HY.out; omega)).mono ?_
  rintro e w5 ⟨rfl, h4⟩
  have F5 : Hid _ := F4.out.below h4
  have K5 : Hid _ := K4.out.trans (Kept.of_below h4)
  clear h4 F4 K4
  go_wp2_with fail
  refine (rsize_any z _ HZ.out).mono ?_
  rintro e w2 ⟨rfl, rfl⟩
  go_wp2_with fail
  refine (rsize_any z _ HZ.out).mono ?_
  rintro e w2 ⟨rfl, rfl⟩
  go_wp2_with fail
  refine (rTimes_any (sz z) (sz z) _ ⟨sz'.1, by omega⟩ ⟨sz'.1, by omega⟩).mono ?_
  rintro e w6 ⟨rfl, h4⟩
  rw [sz_sq]
  have F6 : Hid _ := F5.out.below h4
  have K6 : Hid _ := K5.out.trans (Kept.of_below h4)
  clear h4 F5 K5 sx sy sz'
  go_wp2_with fail
  refine (radd_any (x * x + y * y) (z * z) _ (by have := sq_bd HX.out; have := sq_bd HY.out; omega) (sq_bd HZ.out).1 (by have := sq_bd HX.out; have := sq_bd HY.out; have := sq_bd HZ.out; omega)).mono ?_
  rintro e w2 ⟨rfl, h4⟩
  have HF : Hid _ := F6.out.below h4
  have HK : Hid _ := K6.out.trans (Kept.of_below h4)
  have HN : Hid (0 ≤ x * x + y * y + z * z ∧ x * x + y * y + z * z < 85070591730234615865843651857942052864) := by show _ ∧ _; have := sq_bd HX.out; have := sq_bd HY.out; have := sq_bd HZ.out; omega
  clear h4 F6 K6 HX HY HZ
  generalize x * x + y * y + z * z = n at *
  have n0 := HN.out.1
  go_wp2
  have HB0 : Hid (Below (w2.heap.size + 1) (w2.alloc (.cells #[.int .u64 (hi64 n), .int .u64 (lo64 n)] 142)) (w2.alloc (.cells #[.int .u64 (hi64 n), .int .u64 (lo64 n)] 142))) := Below.refl _ _
  go_loopw [10, 11] (fun v6 v7 wr => ∃ j r : Int, -1 ≤ j ∧ j ≤ 62 ∧ v6 = .int .u64 r ∧ v7 = .int .i64 j ∧ 0 ≤ r ∧ r ≤ 9223372036854775807 ∧ Hid (isqf n (j + 1).toNat r = isqf n 63 0 ∧ r + 2 ^ (j + 1).toNat ≤ 2 ^ 63) ∧ Hid (Below (w2.heap.size + 1) (w2.alloc (.cells #[.int .u64 (hi64 n), .int .u64 (lo64 n)] 142)) wr)) (fun _ v7 _ => (intOf v7 + 1).toNat)
  case atStart => exact ⟨62, 0, by omega, by omega, rfl, rfl, Int.le_refl _, by omega, ⟨rfl, by decide⟩, HB0⟩
  case round =>
   obtain ⟨j, r, hj0, hj1, rfl, rfl, hr0, hr1, HR, HB⟩ := hrel
   by_cases hj : 0 ≤ j
   ·obtain ⟨m, rfl⟩ := Int.eq_ofNat_of_zero_le hj
    have c0 := HB.out.cell (p := ⟨w2.heap.size, 0, none⟩) (by simp)
    have c1 := HB.out.cell (p := ⟨w2.heap.size, 1, none⟩) (by simp)
    simp at c0 c1
    have hzs : w2.heap.size < wr.heap.size := by have := HB.out.size; simp at this; omega
    have HE : Hid (bitAt (m + 1) = 2 ^ m) := rfl
    have HP0 : Hid (0 < bitAt (m + 1)) := two_pow_pos m
    have hwp : IntKind.u64.wrap (2 ^ m) = bitAt (m + 1) := wrap_bit m (by omega)
    have hbd := bitAt_bd (m + 1) (by omega)
    have HR2 : Hid _ := HR.out.2
    rw [show ((m : Int) + 1).toNat = m + 1 by omega] at HR HR2
    have HL : Hid (r + 2 ^ m + 2 ^ m ≤ 2 ^ 63) := by show _ ≤ _; have := HR2.out; rw [Int.pow_succ] at this; omega
    have HF : Hid (isqf n (m + 1) r = isqf n m (if (r + 2 ^ m) * (r + 2 ^ m) ≤ n then r + 2 ^ m else r)) := rfl
    rw [← HE.out] at HL HF
    have hle : r + bitAt (m + 1) ≤ 9223372036854775807 := by have := HL.out; simp at this; have := HP0.out; omega
    generalize bitAt (m + 1) = t at *
    have hbd2 : 0 ≤ r + t := by omega
    go_wp2
    go_region_held3 (fun w' => w'.cell? ⟨w2.heap.size, 0, none⟩ = some (.int .u64 (hi64 n)) ∧ w'.cell? ⟨w2.heap.size, 1, none⟩ = some (.int .u64 (lo64 n))) ((first | exact ⟨c0, c1⟩ | exact ⟨cell_later hb1 c0, cell_later hb1 c1⟩ | exact ⟨cell_later hb2 (cell_later hb1 c0), cell_later hb2 (cell_later hb1 c1)⟩))
     (first
      | (go_at_call 70; refine (rTimes_any (r + t) (r + t) _ ⟨hbd2, by omega⟩ ⟨hbd2, by omega⟩).mono ?_; rintro e w3 ⟨rfl, hb1⟩)
      | (go_at_call 72; refine (rabove_any _ _ _).mono ?_; rintro e w4 ⟨rfl, hb2⟩))
    have HW : Hid (Below (w2.heap.size + 1) (w2.alloc (.cells #[.int .u64 (hi64 n), .int .u64 (lo64 n)] 142)) w4) := (HB.out.drew.trans (hb1.mono (B' := w2.heap.size + 1) (by simp; omega))).trans (hb2.mono (B' := w2.heap.size + 1) (by have := hb1.size; simp at this; omega))
    clear hb1 hb2 c0 c1
    cases c : decide (n < (r + t) * (r + t))
    ·have hc := Int.not_lt.mp (of_decide_eq_false c)
     have HC : Hid _ := hc
     clear hc c
     go_wp2
     refine ⟨⟨(m : Int) - 1, r + t, by omega, by omega, rfl, rfl, hbd2, by omega, ⟨?_, ?_⟩, HW.out⟩, by simp [intOf]⟩
     ·rw [show ((m : Int) - 1 + 1).toNat = m by omega, ← HR.out.1, HF.out, if_pos HC.out]
     ·rw [show ((m : Int) - 1 + 1).toNat = m by omega, ← HE.out]; exact HL.out
    ·have hc := of_decide_eq_true c
     have HC : Hid _ := hc
     clear hc c
     go_wp2
     refine ⟨⟨(m : Int) - 1, r, by omega, by omega, rfl, rfl, hr0, hr1, ⟨?_, ?_⟩, HW.out⟩, by simp [intOf]⟩
     ·rw [show ((m : Int) - 1 + 1).toNat = m by omega, ← HR.out.1, HF.out, if_neg (Int.not_le.mpr HC.out)]
     ·rw [show ((m : Int) - 1 + 1).toNat = m by omega, ← HE.out]; have := HL.out; omega
   ·have HJ : Hid (j = -1) := by show _ = _; omega
    have hf := (HF.out.alloc (.cells #[.int .u64 (hi64 n), .int .u64 (lo64 n)] 142)).below (HB.out.mono (by simp))
    have HQ : Hid (r = isq n) := by
     have e := HR.out.1
     rw [HJ.out] at e
     exact e
    go_wp2_with fail
    refine (rgive_any b _ _ _ hf hr0 (by omega)).mono ?_
    rintro e w5 ⟨rfl, h6, h7⟩
    go_wp2
    go_ret
    rw [HS.out, ← HQ.out]
    exact ⟨rfl, h6, ((HK.out.trans (Kept.alloc b _ _)).trans (Kept.of_below (HB.out.mono (by simp)))).trans h7⟩
end Go.Proofs.YtbophanlmkbfeaaGreatDoor
