/-
  A symbolic run: code whole, for the seat YtoadcnhcfodkgaaGreatDoor. No Go text in sight.
-/
import Derived.Test.YtoadcnhcfodkgaaGreatDoorSxF
namespace Go.Proofs.YtoadcnhcfodkgaaGreatDoor
open Go.RowKit

section
variable {P : Program} {tbl : List (Ct P)} {bs : List Nat} {w0 : World} {rs : Xm} {Q : Exit → Act → World → Prop} {ops : Array Oper} {base : Nat} {K : List Value → Xm → Prop} {ds : List Deferred} {ln : Nat} {bl0 : Bl} {cl dd : Nat → Bool} {two : Bool} {m0 : Xm}
theorem vAny_sound (hK : ∀ bl vt m a w, K vt m → FR bl vt a.tmps → RW bs w0 bl m w → Le bl0 bl → bl.length = ln → m.length = ln → a.defers = ds → Q .normal a w) :
    ∀ (fuel : Nat) (listed : Array Bool) (bl : Bl) (vt : List Value) (m : Xm) (a : Act) (w : World), vAny P tbl ops (nid base ops) cl dd two m0 K fuel listed vt m → FR bl vt a.tmps → RW bs w0 bl m w → Nw rs bl m →
      (∀ i, listed.getD i true = false → Fresh P rs ops (nid base ops) bl i) → Le bl0 bl → bl.length = ln → m.length = ln → a.defers = ds → wpAny P .any ops Q fuel listed a w
  | 0, _, bl, vt, m, a, w, h, F, R, _, _, hle, hl, hml, hd => ⟨h.1, hK bl vt m a w h.2 F R hle hl hml hd⟩
  | fuel + 1, listed, bl, vt, m, a, w, h, F, R, N, hf, hle, hl, hml, hd => by
    refine ⟨fun e => hK bl vt m a w (h.1 e) F R hle hl hml hd, fun i hi => ?_⟩
    have h1 := h.2 i hi
    obtain ⟨hun, o, ho, _⟩ := mem_ready.1 hi
    have hfi := hf i hun o ho
    have later : ∀ j, (listed.setIfInBounds i true).getD j true = false → j ≠ i ∧ listed.getD j true = false := by
      intro j hj
      by_cases e : i = j
      · subst e
        exfalso
        by_cases hs : i < listed.size
        · simp [hs] at hj
        · simp [Array.getElem?_eq_none (show listed.size ≤ i by omega)] at hun
      · rw [getD_set_ne true e] at hj
        exact ⟨fun x => e x.symm, hj⟩
    have next : ∀ a' w', Behind bs w0 rs bl m vt a (nid base ops i) o (fun v m' => SS ops cl dd two (listed.setIfInBounds i true) m0 m' ∧ vAny P tbl ops (nid base ops) cl dd two m0 K fuel (listed.setIfInBounds i true) (vput vt o.dst v) m') a' w' → wpAny P .any ops Q fuel (listed.setIfInBounds i true) a' w' := by
      rintro a' w' ⟨bl', v, m', hbl, hmm, hle', h2, h3, hdef, F', R', N', _, hK'⟩
      exact vAny_sound hK fuel _ bl' _ m' a' w' hK' F' R' N' (fun j hj => (hf j (later j hj).2).next ho (fun e => (later j hj).1 e.symm) h2 h3) (hle.trans hle') (hbl.trans hl) (hmm.trans hml) (hdef.trans hd)
    unfold vopR at h1
    unfold wpOp
    rw [ho] at h1 ⊢
    dsimp only at h1 ⊢
    rw [wanted_eq F]
    cases hw : Region.wanted o (yieldedV ops vt) with
    | true =>
      rw [if_pos rfl]
      refine .inl (Oper.wp_mono next ?_)
      split at h1
      · rename_i v hv
        unfold vqG at hv
        rw [hw] at hv
        exact vq_wp hv F R N hfi h1
      · rw [guardB_iff] at h1
        exact va_wp h1.2 F R N hfi
    | false =>
      rw [if_neg (by decide)]
      have hv : vqG P ops (nid base ops) cl dd two i o vt m = some undef := by unfold vqG; rw [hw]
      rw [hv] at h1
      exact vAny_sound hK fuel _ bl _ m _ w h1.2 (F.put (.same rfl) _) R N (fun j hj => hf j (later j hj).2) hle hl hml ((put_defers _ _ _).trans hd)
end
/-! ### Blocks that a statement makes -/
def newCells (P : Program) (ops : Array Oper) : List (List Value) := (ops.toList.filter isNew).map fun o => match o.op with
  | .alloc t => (match qrun P (zeroValue t) with
    | some z => z.cells.toList
    | none => [])
  | _ => []
def resOk (P : Program) (ops : Array Oper) : Bool := ops.toList.all fun o => match o.op with
  | .alloc t => (qrun P (zeroValue t)).isSome
  | _ => true
theorem filter_at {α : Type} (p : α → Bool) : ∀ (l : List α) (i : Nat) (x : α), l[i]? = some x → p x = true → (l.filter p)[((l.take i).filter p).length]? = some x
  | [], i, x, h, _ => by simp at h
  | y :: ys, 0, x, h, hp => by
    simp at h
    subst h
    simp [hp]
  | y :: ys, i + 1, x, h, hp => by
    have ih := filter_at p ys i x (by simpa using h) hp
    rw [List.take_succ_cons, List.filter_cons, List.filter_cons]
    split
    · simpa using ih
    · exact ih
theorem rep_at {bl : Bl} {n k B : Nat} (h : (bl ++ List.replicate n none)[k]? = some (some B)) : bl[k]? = some (some B) := by
  by_cases hk : k < bl.length
  · rwa [List.getElem?_append_left hk] at h
  · rw [List.getElem?_append_right (by omega)] at h
    have := (List.getElem?_eq_some_iff.1 h).2
    rw [List.getElem_replicate] at this
    cases this
theorem RW.wide {bs : List Nat} {w0 : World} {bl : Bl} {m : Xm} {w : World} (h : RW bs w0 bl m w) (n : Nat) (ns : Xm) : RW bs w0 (bl ++ List.replicate n none) (m ++ ns) w := by
  refine ⟨fun k B hk => ?_, fun i j B hi hj => h.inj i j B (rep_at hi) (rep_at hj), fun k B hk => (h.own k B (rep_at hk)).imp id (Or.imp id fun e => by rw [List.getElem?_append_left (List.getElem?_eq_some_iff.1 e).1]; exact e), h.os, h.tape, h.output, h.size, h.block, h.gw⟩
  obtain ⟨l, h1, A⟩ := h.arr k B (rep_at hk)
  exact ⟨l, by rw [List.getElem?_append_left (List.getElem?_eq_some_iff.1 h1).1]; exact h1, A⟩
theorem Le.wide (bl : Bl) (n : Nat) : Le bl (bl ++ List.replicate n none) := fun k B hk => by
  rw [List.getElem?_append_left (List.getElem?_eq_some_iff.1 hk).1]
  exact hk
theorem fresh_start {P : Program} {ops : Array Oper} {bl : Bl} {m : Xm} (hl : bl.length = m.length) (hr : resOk P ops = true) (i : Nat) :
    Fresh P (m ++ newCells P ops) ops (nid m.length ops) (bl ++ List.replicate (newCells P ops).length none) i := by
  intro o ho hn
  have hfil := filter_at isNew ops.toList i o (by simpa using ho) hn
  have hlen : (newCells P ops).length = (ops.toList.filter isNew).length := by unfold newCells; rw [List.length_map]
  have hlt := (List.getElem?_eq_some_iff.1 hfil).1
  refine ⟨?_, ?_⟩
  · unfold nid
    rw [List.getElem?_append_right (by omega), ← hl, Nat.add_sub_cancel_left]
    rw [List.getElem?_eq_getElem (by rw [List.length_replicate]; omega), List.getElem_replicate]
  · have e : (m ++ newCells P ops)[nid m.length ops i]? = (newCells P ops)[((ops.toList.take i).filter isNew).length]? := by
      unfold nid
      rw [List.getElem?_append_right (by omega), Nat.add_sub_cancel_left]
    rw [e]
    unfold newCells
    rw [List.getElem?_map, hfil]
    refine ⟨_, rfl, fun t ht => ?_⟩
    have h2 := List.all_eq_true.1 hr o (by
      have := Array.mem_of_getElem? ho
      simpa using this)
    dsimp only
    rw [ht] at h2 ⊢
    dsimp only at h2 ⊢
    cases hz : qrun P (zeroValue t) with
    | none => rw [hz] at h2; cases h2
    | some z => exact ⟨z, rfl, rfl⟩
/-- A flow is clean where the hint says so (its number and 1000). -/
def cleanB (dirty : List Nat) (base : Nat) (m0 : Xm) (k : Nat) : Bool :=
  match m0[k]? with
  | some [.bool _] => Nat.blt k base && dirty.contains (k + 1000)
  | _ => Nat.blt k base && !dirty.contains k
def ddB (dirty : List Nat) (base : Nat) (m0 : Xm) (k : Nat) : Bool :=
  match m0[k]? with
  | some [.bool _] => false
  | _ => Nat.blt k base && dirty.contains k
/-- Which block an address that a statement makes leads into (a guess: nothing hangs on it). -/
def baseOf (ops : List Oper) (vt : List Value) : Nat → Operand → Option Nat
  | 0, _ => none
  | n + 1, .tmp d =>
    match ops.find? (fun o => o.dst == some d) with
    | some o => (match o.op with
      | .fieldAddr _ x _ => baseOf ops vt n x
      | .indexAddr _ x _ => baseOf ops vt n x
      | .nilCheck x => baseOf ops vt n x
      | .move x => baseOf ops vt n x
      | _ => none)
    | none => (match vt.getD d undef with
      | .pointer (some a) => some a.block
      | _ => none)
  | _, _ => none
def autoDirty (ops : List Oper) (vt : List Value) : List Nat := ops.filterMap fun o => match o.op with
  | .store _ x _ => baseOf ops vt 6 x
  | _ => none
def vregion (P : Program) (tbl : List (Ct P)) (dirty : Nat → List Nat) (id : Nat) (ops : Array Oper) (draw : Bool) (K : List Value → Xm → Prop) (vt : List Value) (m : Xm) : Prop :=
  match resOk P ops, draw with
  | true, false => vseq P tbl ops (nid m.length ops) K (List.range ops.size) vt (m ++ newCells P ops)
  | true, true =>
    match Region.noSelect ops, sch ops with
    | true, some js => guardB (Nat.beq js.length ops.size) (vdraw P tbl ops (nid m.length ops) (cleanB (dirty id ++ autoDirty ops.toList vt) m.length (m ++ newCells P ops)) (ddB (dirty id ++ autoDirty ops.toList vt) m.length (m ++ newCells P ops)) (twoPh ops) K js vt (m ++ newCells P ops))
    | _, _ => False
  | false, _ => False
section
variable {P : Program} {tbl : List (Ct P)} {bs : List Nat} {w0 : World} {ds : List Deferred} {dirty : Nat → List Nat} {bl0 : Bl}
/-- A frame and a world that stand for what is run. -/
structure Rl (bs : List Nat) (w0 : World) (ds : List Deferred) (bl0 bl : Bl) (vt : List Value) (m : Xm) (a : Act) (w : World) : Prop where
  F : FR bl vt a.tmps
  R : RW bs w0 bl m w
  le : Le bl0 bl
  len : bl.length = m.length
  defers : a.defers = ds
theorem vregion_sound (hm : P.follows .mixedOrders = true) {id : Nat} {ops : Array Oper} {draw : Bool} {K : List Value → Xm → Prop} {Q : Exit → Act → World → Prop} (hK : ∀ bl vt m a w, K vt m → Rl bs w0 ds bl0 bl vt m a w → Q .normal a w)
    {bl : Bl} {vt : List Value} {m : Xm} {a : Act} {w : World} (h : vregion P tbl dirty id ops draw K vt m) (r : Rl bs w0 ds bl0 bl vt m a w) : (Code.region id ops draw).wp P Q a w := by
  unfold vregion at h
  cases hr : resOk P ops
  · rw [hr] at h
    exact h.elim
  rw [hr] at h
  cases draw
  · dsimp only at h
    refine wp_region (vseq_sound (ds := ds) (rs := m ++ newCells P ops) (ln := m.length + (newCells P ops).length) (fun bl vt m a w hk F R hle h1 h2 h3 => hK bl vt m a w hk ⟨F, R, hle, h1.trans h2.symm, h3⟩) _ _ vt _ a w List.nodup_range h (r.F.mono (Le.wide bl (newCells P ops).length)) (r.R.wide _ _) (fun _ _ => rfl) (fun i _ => fresh_start r.len hr i) (r.le.trans (Le.wide bl _)) ?_ ?_ r.defers)
    · rw [List.length_append, List.length_replicate, r.len]
    · rw [List.length_append]
  · dsimp only at h
    split at h
    · rename_i js hs hsch
      rw [guardB_iff] at h
      have hn : Dn ops (Array.replicate ops.size false) := fun j hj => by
        exfalso
        by_cases hl : j < ops.size
        · simp [hl] at hj
        · simp [Array.getElem?_eq_none (show (Array.replicate ops.size false).size ≤ j by simp; omega)] at hj
      have h2 := vdraw_any (m0 := m ++ newCells P ops) (fun e => e) hs _ _ _ _ (sch_ok hsch) hn (fun _ _ => rfl) h.2
      rw [Nat.eq_of_beq_eq_true h.1] at h2
      refine wp_region_any hm (vAny_sound (ds := ds) (rs := m ++ newCells P ops) (ln := m.length + (newCells P ops).length) (fun bl vt m a w hk F R hle h1 h2 h3 => hK bl vt m a w hk ⟨F, R, hle, h1.trans h2.symm, h3⟩) _ _ _ vt _ a _ h2 (r.F.mono (Le.wide bl (newCells P ops).length)) (r.R.wide _ _).drew (fun _ _ => rfl) (fun i _ => fresh_start r.len hr i) (r.le.trans (Le.wide bl _)) ?_ ?_ r.defers)
      · rw [List.length_append, List.length_replicate, r.len]
      · rw [List.length_append]
    · exact h.elim
end
end Go.Proofs.YtoadcnhcfodkgaaGreatDoor
