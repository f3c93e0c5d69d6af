/-
  Statements in the order of their text that take bytes or parts of strings, for the seat YtoadcnhcfodkgaaGreatDoor. No Go text in sight.
-/
import Derived.Test.YtoadcnhcfodkgaaGreatDoorSxQ
namespace Go.Proofs.YtoadcnhcfodkgaaGreatDoor
open Go.RowKit

/-- One operation, parts of strings too. -/
def vopS (P : Program) (tbl : List (Ct P)) (id : Nat) (o : Oper) (vt : List Value) (m : Xm) (K : List Value → Xm → Prop) : Prop :=
  match o.op with
  | .slice t x (some y) none none => guardB (okX x && okX y) (match P.underlying t, VE vt x, VE vt y with
    | some .string, .string s, .int .i64 i => (0 ≤ i ∧ i ≤ (s.size : Int)) ∧ K (vput vt o.dst (.string (s.extract i.toNat s.size))) m
    | _, _, _ => False)
  | _ => vop P tbl id o vt m K
def vseqS (P : Program) (tbl : List (Ct P)) (ops : Array Oper) (ids : Nat → Nat) (K : List Value → Xm → Prop) : List Nat → List Value → Xm → Prop
  | [], vt, m => K vt m
  | i :: rest, vt, m =>
    match ops[i]? with
    | none => False
    | some o =>
      match o.guard with
      | none => vopS P tbl (ids i) o vt m (vseqS P tbl ops ids K rest)
      | some _ => False
section
variable {P : Program} {tbl : List (Ct P)} {bs : List Nat} {w0 : World} {rs : Xm} {Q : Exit → Act → World → Prop} {ops : Array Oper} {base : Nat} {K : List Value → Xm → Prop} {ds : List Deferred} {ln : Nat} {bl0 : Bl}
theorem vseqS_sound (hK : ∀ bl vt m a w, K vt m → FR bl vt a.tmps → RW bs w0 bl m w → Le bl0 bl → bl.length = ln → m.length = ln → a.defers = ds → Q .normal a w) :
    ∀ (is : List Nat) (bl : Bl) (vt : List Value) (m : Xm) (a : Act) (w : World), is.Nodup → vseqS P tbl ops (nid base ops) K is vt m → FR bl vt a.tmps → RW bs w0 bl m w → Nw rs bl m →
      (∀ i ∈ is, Fresh P rs ops (nid base ops) bl i) → Le bl0 bl → bl.length = ln → m.length = ln → a.defers = ds → wpOps P ops Q is a w
  | [], bl, vt, m, a, w, _, h, F, R, _, _, hle, hl, hml, hd => hK bl vt m a w h F R hle hl hml hd
  | i :: rest, bl, vt, m, a, w, hnd, h, F, R, N, hf, hle, hl, hml, hd => by
    rw [List.nodup_cons] at hnd
    unfold vseqS at h
    cases ho : ops[i]? with
    | none =>
      rw [ho] at h
      exact h.elim
    | some o =>
      rw [ho] at h
      dsimp only at h
      cases hg : o.guard with
      | some _ => rw [hg] at h; exact h.elim
      | none =>
        rw [hg] at h
        dsimp only at h
        unfold vopS at h
        split at h
        · rename_i t x y hop
          rw [guardB_iff] at h
          obtain ⟨hx, h⟩ := h
          rw [Bool.and_eq_true] at hx
          split at h
          case h_2 => exact h.elim
          rename_i s n hu hs hn
          have h1 := F.eval hx.1
          rw [hs] at h1
          have h1 : a.eval x = .string s := h1
          have h2 := F.eval hx.2
          rw [hn] at h2
          have h2 : a.eval y = .int .i64 n := h2
          have hr := run_slice_string_from_if (P := P) w t s .i64 n hu
          rw [if_pos h.1] at hr
          refine ops_val ho hg (v := .string (s.extract n.toNat s.size)) (w' := w) (by simp [execOp, hop, h1, h2, Instr.sliceAt, run_under hu w, hr]) ?_
          exact vseqS_sound hK rest bl _ m _ w hnd.2 h.2 (F.put (.same rfl) _) R N (fun j hj => hf j (List.mem_cons_of_mem _ hj)) hle hl hml ((put_defers _ _ _).trans hd)
        · rw [wpOps_cons]
          unfold wpOp
          rw [ho]
          dsimp only
          rw [show Region.wanted o (yielded ops a.tmps) = true by unfold Region.wanted; rw [hg], if_pos rfl]
          refine .inl (Oper.wp_mono ?_ (vop_wp (Q := Q) h F R N (hf i List.mem_cons_self o ho)))
          rintro a' w' ⟨bl', v, m', hbl, hmm, hle', h1, h3, hdef, F', R', N', hK'⟩
          exact vseqS_sound hK rest bl' _ m' a' w' hnd.2 hK' F' R' N' (fun j hj => (hf j (List.mem_cons_of_mem _ hj)).next ho (by rintro rfl; exact hnd.1 hj) h1 h3) (hle.trans hle') (hbl.trans hl) (hmm.trans hml) (hdef.trans hd)
/-- A statement by it. -/
def strBy (P : Program) (tbl : List (Ct P)) (ops : Array Oper) (draw : Bool) (K : List Value → Xm → Prop) (vt : List Value) (m : Xm) : Prop :=
  guardB (resOk P ops && !draw) (vseqS P tbl ops (nid m.length ops) K (List.range ops.size) vt (m ++ newCells P ops))
theorem strBy_sound {id : Nat} {draw : Bool} {bl : Bl} {vt : List Value} {m : Xm} {a : Act} {w : World} (h : strBy P tbl ops draw K vt m) (r : Rl bs w0 ds bl0 bl vt m a w) (hK : ∀ bl vt m a w, K vt m → Rl bs w0 ds bl0 bl vt m a w → Q .normal a w) : (Code.region id ops draw).wp P Q a w := by
  unfold strBy at h
  rw [guardB_iff, Bool.and_eq_true] at h
  obtain ⟨⟨hr, hd⟩, h⟩ := h
  cases draw
  · refine wp_region (vseqS_sound (ds := ds) (rs := m ++ newCells P ops) (ln := m.length + (newCells P ops).length) (fun bl vt m a w hk F R hle h1 h2 h3 => hK bl vt m a w hk ⟨F, R, hle, h1.trans h2.symm, h3⟩) _ _ vt _ a w List.nodup_range h (r.F.mono (Le.wide bl (newCells P ops).length)) (r.R.wide _ _) (fun _ _ => rfl) (fun i _ => fresh_start r.len hr i) (r.le.trans (Le.wide bl _)) ?_ ?_ r.defers)
    · rw [List.length_append, List.length_replicate, r.len]
    · rw [List.length_append]
  · cases hd
/-- A statement by the run whose test is known. -/
def sureBy (P : Program) (tbl : List (Ct P)) (dirty : Nat → List Nat) (id d : Nat) (v : Bool) (ops : Array Oper) (draw : Bool) (K : List Value → Xm → Prop) (vt : List Value) (m : Xm) : Prop :=
  vregion P tbl dirty id ops draw (fun vt m => vt.getD d undef = .bool v ∧ K (vt.set d (.bool v)) m) vt m
theorem sureBy_sound (hm : P.follows .mixedOrders = true) {dirty : Nat → List Nat} {id d : Nat} {v draw : Bool} {bl : Bl} {vt : List Value} {m : Xm} {a : Act} {w : World} (h : sureBy P tbl dirty id d v ops draw K vt m) (r : Rl bs w0 ds bl0 bl vt m a w) (hK : ∀ bl vt m a w, K vt m → Rl bs w0 ds bl0 bl vt m a w → Q .normal a w) : (Code.region id ops draw).wp P Q a w :=
  vregion_sound hm (fun bl _ m a w hk hr => hK bl _ m a w hk.2 ⟨hr.F.setSame hk.1, hr.R, hr.le, hr.len, hr.defers⟩) h r
end
end Go.Proofs.YtoadcnhcfodkgaaGreatDoor
