/-
  Statements of CraftHolds that the symbolic run doesn't take: records of a slice that is handed in, for the seat YtoadcnhcfodkgaaGreatDoor.
-/
import Derived.Test.YtoadcnhcfodkgaaGreatDoorTpD
namespace Go.Proofs.YtoadcnhcfodkgaaGreatDoor
open Go.RowKit

/-- The records' slice, and its length. -/
def rLen (sS d0 d1 d2 N : Nat) (n : Nat) (sl : Value) (K : List Value → Xm → Prop) (vt : List Value) (m : Xm) : Prop :=
  vt.getD sS undef = sl ∧ vt.length = N ∧ K (((vt.set d0 sl).set d1 (.int .i64 (n : Nat))).set d2 (.int .i64 0)) m
section
variable {bs : List Nat} {w0 : World} {ds : List Deferred} {bl0 : Bl} {K : List Value → Xm → Prop} {Q : Exit → Act → World → Prop} {bl : Bl} {vt : List Value} {m : Xm} {a : Act} {w : World} {B : Nat} {ao : Option Addr} {n cap : Nat} {L : Nat → Int × ByteArray} {sl : Value}
/-- A slot that holds the slice. -/
theorem slot_sl {s : Nat} (hb0 : bl0[0]? = some (some B)) (hr : Recs w0 B ao n cap L sl) (hn : sl ≠ .nilIface) (hs : vt.getD s undef = sl) (r : Rl bs w0 ds bl0 bl vt m a w) : a.eval (.tmp s) = .slice ao n cap := by
  have hsv := r.F.rv s
  rw [hs] at hsv
  have h1 := hr.rv bl (r.le 0 B hb0)
  match sl, h1, hsv with
  | .slice (some b) _ _, ⟨B1, hB1, e1⟩, ⟨B2, hB2, e2⟩ =>
    rw [hB1] at hB2
    cases hB2
    exact e2.trans e1.symm
  | .slice none _ _, h1, h2 => exact h2.trans h1.symm
  | .nilIface, _, _ => exact absurd rfl hn
  | .pointer (some _), ⟨_, _, e1⟩, _ => cases e1
  | .pointer none, h1, _ => cases h1
  | .bool _, h1, _ => cases h1
  | .int _ _, h1, _ => cases h1
  | .float _ _, h1, _ => cases h1
  | .complex _ _ _, h1, _ => cases h1
  | .string _, h1, _ => cases h1
  | .map _, h1, _ => cases h1
  | .chan _, h1, _ => cases h1
  | .func _ _ _, h1, _ => cases h1
  | .nilFunc, h1, _ => cases h1
  | .iface _ _, h1, _ => cases h1
  | .agg _, h1, _ => cases h1
  | .tuple _, h1, _ => cases h1
theorem rLen_sound {ops : Array Oper} {id : Nat} {o0 o1 o2 : Oper} {tS tE : TypeId} {sS d0 d1 d2 N : Nat} (n0 : d0 < N) (n1 : d1 < N) (n2 : d2 < N) (hb0 : bl0[0]? = some (some B)) (hr : Recs w0 B ao n cap L sl) (hn : sl ≠ .nilIface) (hu : Tryz.prog.underlying tS = some (.slice tE)) (ho : ops = #[o0, o1, o2])
    (h0 : o0.dst = some d0 ∧ o0.op = .move (.tmp sS) ∧ o0.guard = none) (h1 : o1.dst = some d1 ∧ o1.op = .call { callee := .builtin .len, args := #[.tmp d0], argTypes := #[tS] } ∧ o1.guard = none) (h2 : o2.dst = some d2 ∧ o2.op = .move (.const (.int .i64 0)) ∧ o2.guard = none)
    (h : rLen sS d0 d1 d2 N n sl K vt m) (r : Rl bs w0 ds bl0 bl vt m a w) (hK : ∀ bl vt m a w, K vt m → Rl bs w0 ds bl0 bl vt m a w → Q .normal a w) : (Code.region id ops false).wp Tryz.prog Q a w := by
  subst ho
  have hlen := r.F.len
  obtain ⟨hp, hlt, hk⟩ := h
  rw [hlt] at hlen
  have EsS := slot_sl hb0 hr hn hp r
  have hrv := hr.rv bl (r.le 0 B hb0)
  have r0 := run_under hu w
  have F := r.F
  have D := r.defers
  refine wp_region ?_
  refine ops_valS (v := sl) (v' := (.slice ao n cap)) (w' := w) rfl h0.1 (unguarded h0.2.2) (by simp [execOp, h0.2.1, EsS]) F D hlen n0 (hrv) fun a F D hlen Ed0 X => ?_
  refine ops_valS (v := .int .i64 (n : Nat)) (v' := (.int .i64 (n : Nat))) (w' := w) rfl h1.1 (unguarded h1.2.2) (by simp [execOp, h1.2.1, resolve, invoke, builtin, Ed0, Builtin.len_, r0, goInt]) F D hlen n1 (rfl) fun a F D hlen Ed1 X => ?_
  refine ops_valS (v := .int .i64 0) (v' := (.int .i64 0)) (w' := w) rfl h2.1 (unguarded h2.2.2) (by simp [execOp, h2.2.1, Act.eval]) F D hlen n2 (rfl) fun a F D hlen Ed2 X => ?_
  exact hK _ _ _ _ _ hk ⟨F, r.R, r.le, r.len, D⟩
/-- What comes behind some operations of a statement, in the order of its text. -/
theorem seq_rest {ops : Array Oper} {rest : List Nat} {tbl : List (Ct Tryz.prog)} (hnew : ops.all (fun o => !isNew o) = true) (hnd : rest.Nodup) (hk : vseq Tryz.prog tbl ops (nid 0 ops) K rest vt m) (r : Rl bs w0 ds bl0 bl vt m a w) (hK : ∀ bl vt m a w, K vt m → Rl bs w0 ds bl0 bl vt m a w → Q .normal a w) : wpOps Tryz.prog ops Q rest a w := by
  refine vseq_sound (base := 0) (rs := m) (ln := m.length) (bl0 := bl0) (tbl := tbl) (fun bl' vt' m' a' w' hk F R hle hl hml hd => hK bl' vt' m' a' w' hk ⟨F, R, hle, hl.trans hml.symm, hd⟩) rest bl _ m _ w hnd hk r.F r.R (fun _ _ => rfl) ?_ r.le r.len rfl r.defers
  intro i _ o ho hn
  have := Array.all_eq_true_iff_forall_mem.1 hnew o (Array.mem_of_getElem? ho)
  rw [hn] at this
  cases this
end
/-! ### few -/
def fwK : List Nat := [3, 7, 8, 0, 6]
def fwF (s n i : Int) (sl : Value) (d : Nat → Value) : List Value := frm [(3, .int .i64 s), (7, .int .i64 n), (8, .int .i64 i), (0, sl), (6, sl)] d 23
def fwE (s n i : Int) (sl : Value) (d : Nat → Value) : List Value := vset ((fwF s n i sl d).set 9 (.bool (decide (i < n)))) (.tmp 9) false
def fwG (n : Nat) (sl : Value) (ops : Array Oper) (K : List Value → Xm → Prop) (vt : List Value) (m : Xm) : Prop :=
  vt.getD 0 undef = sl ∧ vt.length = 23 ∧ vseq Tryz.prog [] ops (nid 0 ops) K [2, 3] ((vt.set 20 sl).set 21 (.int .i64 (n : Nat))) m
def fwO (n : Nat) (L : Nat → Int × ByteArray) (sl : Value) : Ov := fun id => match id with
  | 2 => some fun _ _ K => rLen 0 6 7 8 23 n sl (forget fwK 23 1 K)
  | 4 => some fun _ _ => eRec 6 8 10 11 5 1 23 n L sl
  | 8 => some (cutBy Tryz.prog [] (fun _ => []) 8 fwK 23 1)
  | 9 => some fun ops _ => fwG n sl ops
  | _ => none
def fwB (P : Program) : Code := cpart [true, true, false, true] (bodyOf P 5)
def fwL (P : Program) : Code := cpart [false, false] (fwB P)
def fwZ (P : Program) : Code := cpart [true, true, true] (bodyOf P 5)
section
variable (nn : Nat) (L : Nat → Int × ByteArray) (sl : Value)
abbrev fwS (k : Nat) (c : Code) : VQ → List Value → Xm → Prop := swpO Tryz.prog [] (fun _ => []) k (fwO nn L sl) c
def fwX : Prop := 23 = 23 ∧ (ptrOk 1 sl && (ptrOk 1 sl && true)) = true
set_option maxRecDepth 100000 in
theorem fw_round (k : Nat) (s n i : Int) (d : Nat → Value) (Post : Value → Prop) (Q : VQ) :
    fwS nn L sl k (fwL Tryz.prog) (retOf Tryz.prog (fnOf Tryz.prog 5) Post Q) (fwF s n i sl d) [[]] =
      vif (decide (i < n)) ((0 ≤ i ∧ i.toNat < nn) ∧ sl = sl ∧ 1 = 1 ∧ 23 = 23 ∧ vif (decide (IntKind.i64.wrap (s + ((L i.toNat).2.size : Nat)) > 3000)) (Post (.bool false)) (23 = 23 ∧ (ptrOk 1 sl && (ptrOk 1 sl && true)) = true ∧ ∀ d, Q .normal (fwF (IntKind.i64.wrap (s + ((L i.toNat).2.size : Nat))) n (IntKind.i64.wrap (i + 1)) sl d) [[]]))
      (Q (.exit 0) (fwE s n i sl d) [[]]) := by kernel_rfl
set_option maxRecDepth 100000 in
theorem fw_end (k : Nat) (s n i : Int) (d : Nat → Value) (Post : Value → Prop) :
    fwS nn L sl k (fwZ Tryz.prog) (retQ Tryz.prog (fnOf Tryz.prog 5) (fun v _ => Post v)) (fwE s n i sl d) [[]] = (sl = sl ∧ 23 = 23 ∧ Post (.bool (decide (((nn : Nat) : Int) ≤ 30)))) := by kernel_rfl
def fwQ (k : Nat) (Q : VQ) : VQ := fun e vt m => match e with
  | .normal => fwS nn L sl k (fwZ Tryz.prog) Q vt m
  | e => Q e vt m
set_option maxRecDepth 100000 in
theorem fw_start (k : Nat) (Q : VQ) :
    fwS nn L sl k (bodyOf Tryz.prog 5) Q ([sl] ++ List.replicate ((fnOf Tryz.prog 5).ntmps - 1) undef) [[]] =
      (sl = sl ∧ 23 = 23 ∧ 23 = 23 ∧ (ptrOk 1 sl && (ptrOk 1 sl && true)) = true ∧ ∀ d, fwS nn L sl k (fwB Tryz.prog) (fwQ nn L sl k Q) (fwF 0 nn 0 sl d) [[]]) := by kernel_rfl
end
end Go.Proofs.YtoadcnhcfodkgaaGreatDoor
