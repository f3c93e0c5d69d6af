/-
  Statements of the document's frames that the symbolic run doesn't take: frames that the document's Scan finds, for the seat YtoadcnhcfodkgaaGreatDoor. (Made by mkov.py.)
-/
import Derived.Test.YtoadcnhcfodkgaaGreatDoorOwG
namespace Go.Proofs.YtoadcnhcfodkgaaGreatDoor
open Go.RowKit

/-- A frame's two cells, its kind told where it is a sensor's, or below. -/
def byKind (x : Fra) (G : List Value → Prop) : Prop := (x.1 = 0 → G [.int .i64 0, .string x.2]) ∧ (x.1 = 1 → G [.int .i64 1, .string x.2]) ∧ (x.1 = 2 → G [.int .i64 2, .string x.2]) ∧ (x.1 = 3 → G [.int .i64 3, .string x.2]) ∧ (∀ n : Nat, x.1 = ((n + 4 : Nat) : Int) → G [.int .i64 ((n + 4 : Nat) : Int), .string x.2])
theorem byKind_at {x : Fra} {G : List Value → Prop} (hx : 0 ≤ x.1) (h : byKind x G) : G [.int .i64 x.1, .string x.2] := by
  by_cases h0 : x.1 = 0
  · rw [h0]; exact h.1 h0
  by_cases h1 : x.1 = 1
  · rw [h1]; exact h.2.1 h1
  by_cases h2 : x.1 = 2
  · rw [h2]; exact h.2.2.1 h2
  by_cases h3 : x.1 = 3
  · rw [h3]; exact h.2.2.2.1 h3
  have e : x.1 = (((x.1.toNat - 4) + 4 : Nat) : Int) := by omega
  rw [e]
  exact h.2.2.2.2 _ e
theorem frL_pos (l : List (UInt8 × List UInt8)) (i : Int) : 0 ≤ (frL l i).1 := by
  unfold frL
  split
  · exact Int.natCast_nonneg _
  · exact Int.le_refl 0
/-- Frames are found. -/
def fScan (K : List Value → Xm → Prop) (vt : List Value) (m : Xm) : Prop :=
  match vt.getD 3 undef, vt.getD 2 undef, m.headD [] with
  | .pointer (some ⟨0, 0, none⟩), .string s1, _ :: _ :: .string s0 :: _ =>
    s0.size + s1.size ≤ 5000 ∧ m.length = 4 ∧ vt.length = 116 ∧ ∀ sl, SlAt 4 sl (scanL (s0 ++ s1).data.toList).1 → K ((((((((((((vt.set 20 .nilIface).set 21 .nilIface).set 22 .nilIface).set 23 .nilIface).set 24 .nilIface).set 19 .nilIface).set 25 sl).set 26 (.string (restOf (s0 ++ s1).data.toList))).set 27 (.int .i64 ((scanL (s0 ++ s1).data.toList).2.2 : Nat))).set 9 sl).set 10 (.string (restOf (s0 ++ s1).data.toList))).set 11 (.int .i64 ((scanL (s0 ++ s1).data.toList).2.2 : Nat))) (m ++ [cellsOf (scanL (s0 ++ s1).data.toList).1])
  | _, _, _ => False
set_option maxHeartbeats 1000000 in
theorem fScan_sound {bs : List Nat} {w0 : World} {ds : List Deferred} {bl0 : Bl} {K : List Value → Xm → Prop} {Q : Exit → Act → World → Prop} {bl : Bl} {vt : List Value} {m : Xm} {a : Act} {w : World} {ops : Array Oper} {tC tT : TypeId} {fn : Nat} {o0 o1 o2 o3 o4 o5 o6 o7 o8 o9 o10 o11 : Oper} (hfn : fn = 59)
    (hfl : fieldV Tryz.prog tC 2 = some 2) (hag : qrun Tryz.prog (isAgg tT) = some false) (ho : ops = #[o0, o1, o2, o3, o4, o5, o6, o7, o8, o9, o10, o11])
    (h0 : o0.dst = some 20 ∧ o0.op = .fieldAddr tC (.tmp 3) 2 ∧ o0.guard = none) (h1 : o1.dst = some 21 ∧ o1.op = .load tT (.tmp 20) ∧ o1.guard = none) (h2 : o2.dst = some 22 ∧ o2.op = .move (.tmp 2) ∧ o2.guard = none) (h3 : o3.dst = some 23 ∧ o3.op = .binOp .add tT (.tmp 21) (.tmp 22) tT ∧ o3.guard = none) (h4 : o4.dst = some 24 ∧ o4.op = .call { callee := .value (.func fn), args := #[.tmp 23], argTypes := #[tT] } ∧ o4.guard = none) (h5 : o5.dst = some 19 ∧ o5.op = .move (.tmp 24) ∧ o5.guard = none) (h6 : o6.dst = some 25 ∧ o6.op = .extract (.tmp 19) 0 ∧ o6.guard = none) (h7 : o7.dst = some 26 ∧ o7.op = .extract (.tmp 19) 1 ∧ o7.guard = none) (h8 : o8.dst = some 27 ∧ o8.op = .extract (.tmp 19) 2 ∧ o8.guard = none) (h9 : o9.dst = some 9 ∧ o9.op = .assign (.tmp 25) ∧ o9.guard = none) (h10 : o10.dst = some 10 ∧ o10.op = .assign (.tmp 26) ∧ o10.guard = none) (h11 : o11.dst = some 11 ∧ o11.op = .assign (.tmp 27) ∧ o11.guard = none)
    (h : fScan K vt m) (r : Rl bs w0 ds bl0 bl vt m a w) (hK : ∀ bl vt m a w, K vt m → Rl bs w0 ds bl0 bl vt m a w → Q .normal a w) : (Code.region 2 ops false).wp Tryz.prog Q a w := by
  subst ho hfn
  have hlen := r.F.len
  unfold fScan at h
  split at h
  case h_2 => exact h.elim
  rename_i s1 x0 x1 s0 xs hp h2v hrow
  obtain ⟨hsz, hm3, hlt, hk⟩ := h
  rw [hlt] at hlen
  have hbl : bl.length = 4 := r.len.trans hm3
  have hp' := r.F.rv 3
  rw [hp] at hp'
  obtain ⟨B, hB, hpe⟩ := hp'
  have hpe : a.eval (.tmp 3) = .pointer (some ⟨B, 0, none⟩) := hpe
  have h2' := r.F.rv 2
  rw [h2v] at h2'
  have h2' : a.eval (.tmp 2) = .string s1 := h2'
  obtain ⟨row, e0, A0⟩ := r.R.arr 0 B hB
  have erow : row = x0 :: x1 :: .string s0 :: xs := by
    match m, e0, hrow with
    | _ :: _, e0, hrow => cases e0; exact hrow
  subst erow
  have hld : loadV Tryz.prog tT (x0 :: x1 :: .string s0 :: xs) 2 = some (.string s0) := by unfold loadV; rw [hag]; rfl
  have rld := loadV_run hld A0
  have rfl1 := fieldV_run hfl B 0 w
  have F := r.F
  have D := r.defers
  refine wp_region ?_
  have E2 := h2'
  refine ops_valS (v := .nilIface) (v' := (.pointer (some ⟨B, 2, none⟩))) (w' := w) rfl h0.1 (unguarded h0.2.2) (by simp [execOp, h0.2.1, hpe, rfl1]) F D hlen (by decide) (rfl) fun a F D hlen E20 X => ?_
  have E2 := (X 2 (by decide)).trans E2
  refine ops_valS (v := .nilIface) (v' := (.string s0)) (w' := w) rfl h1.1 (unguarded h1.2.2) (by simp [execOp, h1.2.1, E20, Instr.loadAt, Instr.sureAddr, rld]) F D hlen (by decide) (rfl) fun a F D hlen E21 X => ?_
  have E2 := (X 2 (by decide)).trans E2
  refine ops_valS (v := .nilIface) (v' := (.string s1)) (w' := w) rfl h2.1 (unguarded h2.2.2) (by simp [execOp, h2.2.1, E2]) F D hlen (by decide) (rfl) fun a F D hlen E22 X => ?_
  have E21 := (X 21 (by decide)).trans E21
  refine ops_valS (v := .nilIface) (v' := (.string (s0 ++ s1))) (w' := w) rfl h3.1 (unguarded h3.2.2) (by simp [execOp, h3.2.1, E21, E22, eqGuard, binOp, Op.stringOp]; omega) F D hlen (by decide) (rfl) fun a F D hlen E23 X => ?_
  have hss : (s0 ++ s1).size ≤ 5000 := by rw [ByteArray.size_append]; exact hsz
  refine ops_call (o := o4) (args := #[.string (s0 ++ s1)]) rfl h4.2.2 ?_ (rscan_any (s0 ++ s1) w hss) ?_
  · have := go_of Tryz.func59 (by kernel_rfl) (by kernel_rfl) #[.string (s0 ++ s1)] w
    have hf : a.eval (.func 59) = .func (.func 59) #[] #[] := rfl
    simp [execOp, h4.2.1, resolve, hf, E23, Deferred.ofValue, invoke, this]
  rintro e w' ⟨v, rr, rfl, hrr, hfr, hbel⟩
  refine ⟨_, rfl, ?_⟩
  obtain ⟨x, sl, hsl, hrv, R'⟩ := r.R.framesAt hbl hm3 hbel hfr
  have hrr' : rr = restOf (s0 ++ s1).data.toList := by
    unfold restOf
    rw [← hrr]
  subst hrr'
  have hL := Le.last bl x
  have F := F.mono hL
  have hk := hk sl hsl
  rw [h4.1]
  have F := F.put (v := .nilIface) (v' := (.tuple #[v, .string (restOf (s0 ++ s1).data.toList), .int .i64 ((scanL (s0 ++ s1).data.toList).2.2 : Nat)])) rfl (some 24)
  have D := (put_defers a (some 24) (.tuple #[v, .string (restOf (s0 ++ s1).data.toList), .int .i64 ((scanL (s0 ++ s1).data.toList).2.2 : Nat)])).trans D
  have E24 : (a.put (some 24) (.tuple #[v, .string (restOf (s0 ++ s1).data.toList), .int .i64 ((scanL (s0 ++ s1).data.toList).2.2 : Nat)])).eval (.tmp 24) = (.tuple #[v, .string (restOf (s0 ++ s1).data.toList), .int .i64 ((scanL (s0 ++ s1).data.toList).2.2 : Nat)]) := put_get (by rw [hlen]; decide)
  have hlen := (put_size (a := a) (d := some 24) (v := (.tuple #[v, .string (restOf (s0 ++ s1).data.toList), .int .i64 ((scanL (s0 ++ s1).data.toList).2.2 : Nat)]))).trans hlen
  generalize a.put (some 24) (.tuple #[v, .string (restOf (s0 ++ s1).data.toList), .int .i64 ((scanL (s0 ++ s1).data.toList).2.2 : Nat)]) = a at F D E24 hlen ⊢
  refine ops_valS (v := .nilIface) (v' := (.tuple #[v, .string (restOf (s0 ++ s1).data.toList), .int .i64 ((scanL (s0 ++ s1).data.toList).2.2 : Nat)])) (w' := w') rfl h5.1 (unguarded h5.2.2) (by simp [execOp, h5.2.1, E24]) F D hlen (by decide) (rfl) fun a F D hlen E19 X => ?_
  refine ops_valS (v := sl) (v' := v) (w' := w') rfl h6.1 (unguarded h6.2.2) (by simp [execOp, h6.2.1, E19, Instr.extract]) F D hlen (by decide) (hrv) fun a F D hlen E25 X => ?_
  have E19 := (X 19 (by decide)).trans E19
  refine ops_valS (v := (.string (restOf (s0 ++ s1).data.toList))) (v' := (.string (restOf (s0 ++ s1).data.toList))) (w' := w') rfl h7.1 (unguarded h7.2.2) (by simp [execOp, h7.2.1, E19, Instr.extract]) F D hlen (by decide) (rfl) fun a F D hlen E26 X => ?_
  have E19 := (X 19 (by decide)).trans E19
  have E25 := (X 25 (by decide)).trans E25
  refine ops_valS (v := (.int .i64 ((scanL (s0 ++ s1).data.toList).2.2 : Nat))) (v' := (.int .i64 ((scanL (s0 ++ s1).data.toList).2.2 : Nat))) (w' := w') rfl h8.1 (unguarded h8.2.2) (by simp [execOp, h8.2.1, E19, Instr.extract]) F D hlen (by decide) (rfl) fun a F D hlen E27 X => ?_
  have E25 := (X 25 (by decide)).trans E25
  have E26 := (X 26 (by decide)).trans E26
  refine ops_valS (v := sl) (v' := v) (w' := w') rfl h9.1 (unguarded h9.2.2) (by simp [execOp, h9.2.1, E25]) F D hlen (by decide) (hrv) fun a F D hlen E9 X => ?_
  have E26 := (X 26 (by decide)).trans E26
  have E27 := (X 27 (by decide)).trans E27
  refine ops_valS (v := (.string (restOf (s0 ++ s1).data.toList))) (v' := (.string (restOf (s0 ++ s1).data.toList))) (w' := w') rfl h10.1 (unguarded h10.2.2) (by simp [execOp, h10.2.1, E26]) F D hlen (by decide) (rfl) fun a F D hlen E10 X => ?_
  have E27 := (X 27 (by decide)).trans E27
  refine ops_valS (v := (.int .i64 ((scanL (s0 ++ s1).data.toList).2.2 : Nat))) (v' := (.int .i64 ((scanL (s0 ++ s1).data.toList).2.2 : Nat))) (w' := w') rfl h11.1 (unguarded h11.2.2) (by simp [execOp, h11.2.1, E27]) F D hlen (by decide) (rfl) fun a F D hlen E11 X => ?_
  exact hK _ _ _ _ _ hk ⟨F, R', r.le.trans hL, by rw [List.length_append, List.length_append, hbl, hm3]; rfl, D⟩
/-- Whether there is one more. -/
def fLen (l : List (UInt8 × List UInt8)) (K : List Value → Xm → Prop) (vt : List Value) (m : Xm) : Prop :=
  match vt.getD 12 undef with
  | .int .i64 i => SlAt 4 (vt.getD 9 undef) l ∧ vt.length = 116 ∧ K ((((vt.set 34 (.int .i64 i)).set 35 (vt.getD 9 undef)).set 36 (.int .i64 (l.length : Nat))).set 37 (.bool (decide (i < (l.length : Nat))))) m
  | _ => False
theorem fLen_sound {bs : List Nat} {w0 : World} {ds : List Deferred} {bl0 : Bl} {K : List Value → Xm → Prop} {Q : Exit → Act → World → Prop} {bl : Bl} {vt : List Value} {m : Xm} {a : Act} {w : World} {l : List (UInt8 × List UInt8)} {ops : Array Oper} {tS e tI : TypeId} {o0 o1 o2 o3 : Oper} (hu : Tryz.prog.underlying tS = some (.slice e)) (ho : ops = #[o0, o1, o2, o3])
    (h0 : o0.dst = some 34 ∧ o0.op = .move (.tmp 12) ∧ o0.guard = none) (h1 : o1.dst = some 35 ∧ o1.op = .move (.tmp 9) ∧ o1.guard = none) (h2 : o2.dst = some 36 ∧ o2.op = .call { callee := .builtin .len, args := #[.tmp 35], argTypes := #[tS] } ∧ o2.guard = none) (h3 : o3.dst = some 37 ∧ o3.op = .binOp .lss tI (.tmp 34) (.tmp 36) tI ∧ o3.guard = none)
    (h : fLen l K vt m) (r : Rl bs w0 ds bl0 bl vt m a w) (hK : ∀ bl vt m a w, K vt m → Rl bs w0 ds bl0 bl vt m a w → Q .normal a w) : (Code.region 7 ops false).wp Tryz.prog Q a w := by
  subst ho
  have hlen := r.F.len
  unfold fLen at h
  split at h
  case h_2 => exact h.elim
  rename_i i hi
  obtain ⟨hsl, hlt, hk⟩ := h
  rw [hlt] at hlen
  have hiv := r.F.rv 12
  rw [hi] at hiv
  have E12 : a.eval (.tmp 12) = .int .i64 i := hiv
  have hv := r.F.rv 9
  obtain ⟨A, cap, hs, _⟩ := hsl.real hv
  have E9 : a.eval (.tmp 9) = .slice A l.length cap := hs
  rw [hs] at hv
  have r0 := run_under hu w
  have F := r.F
  have D := r.defers
  refine wp_region ?_
  refine ops_valS (v := (.int .i64 i)) (v' := (.int .i64 i)) (w' := w) rfl h0.1 (unguarded h0.2.2) (by simp [execOp, h0.2.1, E12]) F D hlen (by decide) (rfl) fun a F D hlen E34 X => ?_
  have E9 := (X 9 (by decide)).trans E9
  refine ops_valS (v := (vt.getD 9 undef)) (v' := (.slice A l.length cap)) (w' := w) rfl h1.1 (unguarded h1.2.2) (by simp [execOp, h1.2.1, E9]) F D hlen (by decide) (hv) fun a F D hlen E35 X => ?_
  have E34 := (X 34 (by decide)).trans E34
  refine ops_valS (v := (.int .i64 (l.length : Nat))) (v' := (.int .i64 (l.length : Nat))) (w' := w) rfl h2.1 (unguarded h2.2.2) (by simp [execOp, h2.2.1, resolve, invoke, builtin, E35, Builtin.len_, r0, goInt]) F D hlen (by decide) (rfl) fun a F D hlen E36 X => ?_
  have E34 := (X 34 (by decide)).trans E34
  refine ops_valS (v := (.bool (decide (i < (l.length : Nat))))) (v' := (.bool (decide (i < (l.length : Nat))))) (w' := w) rfl h3.1 (unguarded h3.2.2) (by simp [execOp, h3.2.1, E34, E36, eqGuard, binOp, Op.intCmp]) F D hlen (by decide) (rfl) fun a F D hlen E37 X => ?_
  exact hK _ _ _ _ _ hk ⟨F, r.R, r.le, r.len, D⟩
/-- One of them. -/
def fOne (l : List (UInt8 × List UInt8)) (K : List Value → Xm → Prop) (vt : List Value) (m : Xm) : Prop :=
  match vt.getD 12 undef with
  | .int .i64 i => (0 ≤ i ∧ i.toNat < l.length) ∧ SlAt 4 (vt.getD 9 undef) l ∧ m[4]? = some (cellsOf l) ∧ m.length = 5 ∧ vt.length = 116 ∧ byKind (frL l i) fun row => K (((((vt.set 40 (vt.getD 9 undef)).set 41 (.int .i64 i)).set 42 .nilIface).set 43 .nilIface).set 13 (.pointer (some ⟨5, 0, none⟩))) (m ++ [row])
  | _ => False
theorem fOne_sound {bs : List Nat} {w0 : World} {ds : List Deferred} {bl0 : Bl} {K : List Value → Xm → Prop} {Q : Exit → Act → World → Prop} {bl : Bl} {vt : List Value} {m : Xm} {a : Act} {w : World} {l : List (UInt8 × List UInt8)} {ops : Array Oper} {tS tF : TypeId} {om1 om2 o0 o1 o2 o3 : Oper} (hu : Tryz.prog.underlying tS = some (.slice tF)) (hz : qrun Tryz.prog (sizeOf tF) = some 2) (ha : qrun Tryz.prog (isAgg tF) = some true) {z : Value} (hzv : qrun Tryz.prog (zeroValue tF) = some z) (hzl : z.cells.toList.length = 2) (ho : ops = #[om1, om2, o0, o1, o2, o3])
    (hm1 : om1.dst = some 40 ∧ om1.op = .move (.tmp 9) ∧ om1.guard = none) (hm2 : om2.dst = some 41 ∧ om2.op = .move (.tmp 12) ∧ om2.guard = none)
    (h0 : o0.dst = some 42 ∧ o0.op = .indexAddr tS (.tmp 40) (.tmp 41) ∧ o0.guard = none) (h1 : o1.dst = some 43 ∧ o1.op = .load tF (.tmp 42) ∧ o1.guard = none) (h2 : o2.dst = some 13 ∧ o2.op = .alloc tF ∧ o2.guard = none) (h3 : o3.dst = none ∧ o3.op = .store tF (.tmp 13) (.tmp 43) ∧ o3.guard = none)
    (h : fOne l K vt m) (r : Rl bs w0 ds bl0 bl vt m a w) (hK : ∀ bl vt m a w, K vt m → Rl bs w0 ds bl0 bl vt m a w → Q .normal a w) : (Code.region 9 ops false).wp Tryz.prog Q a w := by
  subst ho
  have hlen := r.F.len
  unfold fOne at h
  split at h
  case h_2 => exact h.elim
  rename_i i hi
  obtain ⟨⟨hi0, hil⟩, hsl, hm3, hm5, hlt, hk⟩ := h
  rw [hlt] at hlen
  have hiv := r.F.rv 12
  rw [hi] at hiv
  have E12 : a.eval (.tmp 12) = .int .i64 i := hiv
  obtain ⟨A, cap, hs, hB⟩ := hsl.real (r.F.rv 9)
  have E9 : a.eval (.tmp 9) = .slice A l.length cap := hs
  have hv := r.F.rv 9
  rw [show a.tmps.getD 9 undef = .slice A l.length cap from hs] at hv
  obtain ⟨B, hb3, rfl⟩ := hB (by rintro rfl; simp at hil)
  obtain ⟨row, e3, A3⟩ := r.R.arr 4 B hb3
  rw [hm3] at e3
  cases e3
  have hrow := frame_load ha hz hil hi0
  have rld := loadV_run hrow A3
  have F := r.F
  have D := r.defers
  refine wp_region ?_
  have hil' : i < (l.length : Int) := by omega
  have r0 := run_under hu w
  have r1 := qrun_run _ hz w
  refine ops_valS (v := (vt.getD 9 undef)) (v' := (.slice (some ⟨B, 0, none⟩) l.length cap)) (w' := w) rfl hm1.1 (unguarded hm1.2.2) (by simp [execOp, hm1.2.1, E9]) F D hlen (by decide) (hv) fun a F D hlen E40 X => ?_
  have E12 := (X 12 (by decide)).trans E12
  refine ops_valS (v := (.int .i64 i)) (v' := (.int .i64 i)) (w' := w) rfl hm2.1 (unguarded hm2.2.2) (by simp [execOp, hm2.2.1, E12]) F D hlen (by decide) (rfl) fun a F D hlen E41 X => ?_
  have E40 := (X 40 (by decide)).trans E40
  refine ops_valS (v := .nilIface) (v' := (.pointer (some ⟨B, i.toNat * 2, none⟩))) (w' := w) rfl h0.1 (unguarded h0.2.2) (by simp [execOp, h0.2.1, E40, E41, Instr.indexAt, asIntOf, r0, r1, hi0, hil', add_is, Sem.run_bind]) F D hlen (by decide) (rfl) fun a F D hlen E42 X => ?_
  refine ops_valS (v := .nilIface) (v' := (.agg #[Value.int .i64 (frL l i).1, Value.string (frL l i).2])) (w' := w) rfl h1.1 (unguarded h1.2.2) (by simp [execOp, h1.2.1, E42, Instr.loadAt, Instr.sureAddr, rld]) F D hlen (by decide) (rfl) fun a F D hlen E43 X => ?_
  have hw3 : (execOp a.eval o2).run Tryz.prog w = .ok (.value (.pointer (some ⟨w.heap.size, 0, none⟩))) (w.alloc (.cells z.cells.toList.toArray tF)) := by
    have r := qrun_run _ hzv w
    simp [execOp, h2.2.1, Instr.alloc, newVar, newRow, newObj, r, Sem.run]
  have hbl : bl.length = 5 := r.len.trans hm5
  have WW := r.R.wide 1 [[Value.int .i64 (frL l i).1, Value.string (frL l i).2]]
  obtain ⟨N, hle⟩ := WW.new (k := 5) (by rw [List.getElem?_append_right (by omega), hbl, Nat.sub_self]; rfl) (by rw [List.length_append, hm5]; exact Nat.lt_succ_self 5) z.cells.toList tF
  have hg5 : ((bl ++ List.replicate 1 none).set 5 (some w.heap.size))[5]? = some (some w.heap.size) := List.getElem?_set_self (by rw [List.length_append, hbl]; exact Nat.lt_succ_self 5)
  have hm6 : ((m ++ [[Value.int .i64 (frL l i).1, Value.string (frL l i).2]]).set 5 z.cells.toList)[5]? = some z.cells.toList := List.getElem?_set_self (by rw [List.length_append, hm5]; exact Nat.lt_succ_self 5)
  obtain ⟨row, e5, A5⟩ := N.arr 5 _ hg5
  rw [hm6] at e5
  cases e5
  have hst : storeV Tryz.prog tF z.cells.toList 0 (.agg #[Value.int .i64 (frL l i).1, Value.string (frL l i).2]) = some (setAt z.cells.toList 0 [Value.int .i64 (frL l i).1, Value.string (frL l i).2]) := by
    unfold storeV
    rw [hz]
    dsimp only
    rw [if_pos (by rw [hzl]; rfl)]
    rfl
  obtain ⟨r3, _, hl3⟩ := storeV_run hst A5
  have hL : Le bl ((bl ++ List.replicate 1 none).set 5 (some w.heap.size)) := (Le.wide bl 1).trans hle
  have F := F.mono hL
  refine ops_valS (v := .pointer (some ⟨5, 0, none⟩)) rfl h2.1 (unguarded h2.2.2) hw3 F D hlen (by decide) (RV.at hg5 0) fun a F D hlen E13 X => ?_
  have E43 := (X 43 (by decide)).trans E43
  refine ops_skip (o := o3) (w' := wset (w.alloc (.cells z.cells.toList.toArray tF)) w.heap.size 0 [Value.int .i64 (frL l i).1, Value.string (frL l i).2]) rfl h3.2.2 ?_ ?_
  · simp [execOp, h3.2.1, E13, E43, Instr.storeAt, Instr.sureAddr, r3]
    rfl
  rw [h3.1]
  have hrow5 : setAt z.cells.toList 0 [Value.int .i64 (frL l i).1, Value.string (frL l i).2] = [Value.int .i64 (frL l i).1, Value.string (frL l i).2] := by
    match z.cells.toList, hzl with
    | [_, _], _ => rfl
  have R5 := N.store hg5 hm6 0 [Value.int .i64 (frL l i).1, Value.string (frL l i).2] hl3
  rw [hrow5] at R5
  have hmm : ((m ++ [[Value.int .i64 (frL l i).1, Value.string (frL l i).2]]).set 5 z.cells.toList).set 5 [Value.int .i64 (frL l i).1, Value.string (frL l i).2] = m ++ [[Value.int .i64 (frL l i).1, Value.string (frL l i).2]] := by
    rw [List.set_set, List.set_append_right _ _ (by omega), hm5, Nat.sub_self]
    rfl
  rw [hmm] at R5
  exact hK _ _ _ _ _ (byKind_at (frL_pos l i) hk) ⟨F, R5, r.le.trans hL, by rw [List.length_set, List.length_append, List.length_append, hbl, hm5]; rfl, by rw [put_defers]; exact D⟩
end Go.Proofs.YtoadcnhcfodkgaaGreatDoor
