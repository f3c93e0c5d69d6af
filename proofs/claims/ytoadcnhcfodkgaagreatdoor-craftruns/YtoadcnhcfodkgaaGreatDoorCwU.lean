/-
  The frames that craft's take finds: the statement that calls Scan, for the seat YtoadcnhcfodkgaaGreatDoor.
-/
import Derived.Test.YtoadcnhcfodkgaaGreatDoorCwT
namespace Go.Proofs.YtoadcnhcfodkgaaGreatDoor
open Go.RowKit

theorem last_at {bl : Bl} {x : Option Nat} {i B : Nat} (h : (bl ++ [x])[i]? = some (some B)) : bl[i]? = some (some B) ∨ (i = bl.length ∧ x = some B) := by
  by_cases e : i < bl.length
  · rw [List.getElem?_append_left e] at h
    exact .inl h
  · rw [List.getElem?_append_right (by omega)] at h
    have hi := (List.getElem?_eq_some_iff.1 h).1
    simp only [List.length_cons, List.length_nil] at hi
    have e2 : i = bl.length := by omega
    subst e2
    rw [Nat.sub_self] at h
    exact .inr ⟨rfl, Option.some.inj h⟩
/-- One more block is numbered. -/
theorem RW.add {bs : List Nat} {w0 : World} {bl : Bl} {m : Xm} {w : World} (h : RW bs w0 bl m w) (hl : bl.length = m.length) {g : Nat} {row : List Value} (A : Arr g row w) (hg : w0.heap.size ≤ g) (hn : ∀ k : Nat, bl[k]? ≠ some (some g)) : RW bs w0 (bl ++ [some g]) (m ++ [row]) w := by
  refine ⟨fun i B hi => ?_, fun i j B hi hj => ?_, fun i B hi => ?_, h.os, h.tape, h.output, h.size, h.block, h.gw⟩
  · rcases last_at hi with h1 | ⟨rfl, e⟩
    · obtain ⟨l, h2, A2⟩ := h.arr i B h1
      exact ⟨l, by rw [List.getElem?_append_left (List.getElem?_eq_some_iff.1 h2).1]; exact h2, A2⟩
    · cases e
      exact ⟨row, by rw [hl, List.getElem?_append_right (Nat.le_refl _), Nat.sub_self]; rfl, A⟩
  · rcases last_at hi with h1 | ⟨rfl, e⟩ <;> rcases last_at hj with h2 | ⟨rfl, e2⟩
    · exact h.inj i j B h1 h2
    · cases e2; exact absurd h1 (hn i)
    · cases e; exact absurd h2 (hn j)
    · rfl
  · rcases last_at hi with h1 | ⟨rfl, e⟩
    · exact (h.own i B h1).imp id (Or.imp id fun e => by rw [List.getElem?_append_left (List.getElem?_eq_some_iff.1 e).1]; exact e)
    · cases e; exact .inr (.inl hg)
theorem Le.last (bl : Bl) (x : Option Nat) : Le bl (bl ++ [x]) := fun k B hk => by
  rw [List.getElem?_append_left (List.getElem?_eq_some_iff.1 hk).1]
  exact hk
theorem arr_cells {w : World} {g : Nat} {cur : Array Value} {e : TypeId} {xs : List Value} {n : Nat} (h : w.heap[g]? = some (.cells cur e (0, 0))) (hx : cur.toList.take n = xs) : Arr g xs w := by
  refine ⟨fun i hi => ?_, fun i hi => ?_, (Array.getElem?_eq_some_iff.1 h).1⟩
  · have h1 : xs[i]? = cur[i]? := by
      subst hx
      rw [List.length_take] at hi
      rw [List.getElem?_take_of_lt (by omega), Array.getElem?_toList]
    rw [List.getElem?_eq_getElem hi] at h1
    simp [World.cell?, h, ← h1]
  · simp [World.frozen?, h]
/-- Frames of a new slice are numbered 3. -/
theorem RW.frames {bs : List Nat} {w0 : World} {bl : Bl} {m : Xm} {w w' : World} (h : RW bs w0 bl m w) (hl : bl.length = 3) (hm : m.length = 3) (hb : Below w.heap.size w w') {v : Value} {l : List (UInt8 × List UInt8)} (hf : Frames w.heap.size w' v l) :
    ∃ x sl, SlOk sl l ∧ RV (bl ++ [x]) sl v ∧ RW bs w0 (bl ++ [x]) (m ++ [cellsOf l]) w' := by
  have h' := h.pure hb
  rcases hf.2 with ⟨rfl, h0⟩ | ⟨g, cap, cur, rfl, hg, hgg, _, _, _, hx⟩
  · exact ⟨none, .slice none 0 0, .inl ⟨rfl, List.length_eq_zero_iff.1 h0⟩, rfl, h'.wide 1 _⟩
  · have h3 : (bl ++ [some g])[3]? = some (some g) := by rw [List.getElem?_append_right (by omega), hl]; rfl
    refine ⟨some g, .slice (some ⟨3, 0, none⟩) l.length cap, .inr ⟨cap, rfl⟩, ⟨g, h3, rfl⟩, h'.add (hl.trans hm.symm) (arr_cells hgg hx) (Nat.le_trans h.size hg) (fun k hk => ?_)⟩
    obtain ⟨_, _, A⟩ := h.arr k g hk
    have := A.lies
    omega
def restOf (L : List UInt8) : ByteArray := ⟨(scanL L).2.1.toArray⟩
def r1 (K : List Value → Xm → Prop) (vt : List Value) (m : Xm) : Prop :=
  match vt.getD 3 undef, vt.getD 2 undef, m.headD [] with
  | .pointer (some ⟨0, 0, none⟩), .string s1, _ :: _ :: .string s0 :: _ =>
    s0.size + s1.size ≤ 5000 ∧ m.length = 3 ∧ vt.length = 67 ∧ ∀ sl, SlOk sl (scanL (s0 ++ s1).data.toList).1 →
      K ((((((((((((vt.set 15 .nilIface).set 16 .nilIface).set 17 .nilIface).set 18 .nilIface).set 19 .nilIface).set 14 .nilIface).set 20 sl).set 21 (.string (restOf (s0 ++ s1).data.toList))).set 22 (.int .i64 ((scanL (s0 ++ s1).data.toList).2.2 : Nat))).set 8 sl).set 9 (.string (restOf (s0 ++ s1).data.toList))).set 10 (.int .i64 ((scanL (s0 ++ s1).data.toList).2.2 : Nat))) (m ++ [cellsOf (scanL (s0 ++ s1).data.toList).1])
  | _, _, _ => False
theorem ops_call {P : Program} {ops : Array Oper} {Q : Exit → Act → World → Prop} {i : Nat} {rest : List Nat} {a : Act} {w : World} {o : Oper} {f : Nat} {args : Array Value} {R : Ending → World → Prop} (ho : ops[i]? = some o) (hg : o.guard = none) (hr : (execOp a.eval o).run P w = .ok (.enter f args) w)
    (hc : Calls P f args w R) (h : ∀ e w', R e w' → ∃ v, e = .returned v ∧ wpOps P ops Q rest (a.put o.dst v) w') : wpOps P ops Q (i :: rest) a w := by
  rw [wpOps_cons]
  unfold wpOp
  rw [ho]
  dsimp only
  rw [show Region.wanted o (yielded ops a.tmps) = true by unfold Region.wanted; rw [hg], if_pos rfl]
  refine .inl ?_
  unfold Oper.wp
  rw [hr]
  refine Calls.mono hc ?_
  intro e w' he
  obtain ⟨v, rfl, hv⟩ := h e w' he
  exact hv
theorem ops_valG {P : Program} {ops : Array Oper} {Q : Exit → Act → World → Prop} {i : Nat} {rest : List Nat} {a : Act} {w w' : World} {o : Oper} {v : Value} (ho : ops[i]? = some o) (hg : Region.wanted o (yielded ops a.tmps) = true) (hr : (execOp a.eval o).run P w = .ok (.value v) w')
    (h : wpOps P ops Q rest (a.put o.dst v) w') : wpOps P ops Q (i :: rest) a w := by
  rw [wpOps_cons]
  unfold wpOp
  rw [ho]
  dsimp only
  rw [hg, if_pos rfl]
  refine .inl ?_
  unfold Oper.wp
  rw [hr]
  exact h
theorem ops_callG {P : Program} {ops : Array Oper} {Q : Exit → Act → World → Prop} {i : Nat} {rest : List Nat} {a : Act} {w : World} {o : Oper} {f : Nat} {args : Array Value} {R : Ending → World → Prop} (ho : ops[i]? = some o) (hg : Region.wanted o (yielded ops a.tmps) = true) (hr : (execOp a.eval o).run P w = .ok (.enter f args) w)
    (hc : Calls P f args w R) (h : ∀ e w', R e w' → ∃ v, e = .returned v ∧ wpOps P ops Q rest (a.put o.dst v) w') : wpOps P ops Q (i :: rest) a w := by
  rw [wpOps_cons]
  unfold wpOp
  rw [ho]
  dsimp only
  rw [hg, if_pos rfl]
  refine .inl ?_
  unfold Oper.wp
  rw [hr]
  refine Calls.mono hc ?_
  intro e w' he
  obtain ⟨v, rfl, hv⟩ := h e w' he
  exact hv
theorem unguarded {o : Oper} {y : Nat → Option Bool} (h : o.guard = none) : Region.wanted o y = true := by unfold Region.wanted; rw [h]
/-- An operation that yields a value: what is known behind it. -/
theorem ops_valS {P : Program} {ops : Array Oper} {Q : Exit → Act → World → Prop} {i : Nat} {rest : List Nat} {a : Act} {w w' : World} {o : Oper} {v v' : Value} {d N : Nat} {bl : Bl} {vt : List Value} {ds : List Deferred} (ho : ops[i]? = some o) (hd : o.dst = some d) (hg : Region.wanted o (yielded ops a.tmps) = true) (hr : (execOp a.eval o).run P w = .ok (.value v') w') (F : FR bl vt a.tmps) (D : a.defers = ds) (hl : a.tmps.size = N) (hN : d < N) (hv : RV bl v v')
    (h : ∀ a' : Act, FR bl (vt.set d v) a'.tmps → a'.defers = ds → a'.tmps.size = N → a'.eval (.tmp d) = v' → (∀ e, d ≠ e → a'.eval (.tmp e) = a.eval (.tmp e)) → wpOps P ops Q rest a' w') : wpOps P ops Q (i :: rest) a w := by
  refine ops_valG ho hg hr ?_
  rw [hd]
  exact h _ (F.put hv (some d)) ((put_defers a (some d) v').trans D) (put_size.trans hl) (put_get (by omega)) (fun e he => put_other he)
theorem wanted_by {ops : Array Oper} {a : Act} {o oj : Oper} {j d : Nat} {b : Bool} (hg : o.guard = some (j, b)) (hj : ops[j]? = some oj) (hd : oj.dst = some d) (he : a.eval (.tmp d) = .bool b) : Region.wanted o (yielded ops a.tmps) = true := by
  unfold Region.wanted yielded
  rw [hg]
  dsimp only
  rw [hj]
  simp only [Option.bind_some, hd]
  have he : a.tmps.getD d undef = .bool b := he
  rw [Array.getD_eq_getD_getElem?] at he
  cases h : a.tmps[d]? with
  | none => rw [h] at he; cases he
  | some v =>
    rw [h] at he
    have he : v = .bool b := he
    rw [he]
    simp
set_option maxHeartbeats 1000000 in
theorem r1_sound {bs : List Nat} {w0 : World} {ds : List Deferred} {bl0 : Bl} {K : List Value → Xm → Prop} {Q : Exit → Act → World → Prop} {bl : Bl} {vt : List Value} {m : Xm} {a : Act} {w : World} {ops : Array Oper} {tC tT : TypeId} {fn : Nat} {o0 o1 o2 o3 o4 o5 o6 o7 o8 o9 o10 o11 : Oper} (hfn : fn = 36)
    (hfl : fieldV Tryz.prog tC 2 = some 2) (hag : qrun Tryz.prog (isAgg tT) = some false) (ho : ops = #[o0, o1, o2, o3, o4, o5, o6, o7, o8, o9, o10, o11])
    (h0 : o0.dst = some 15 ∧ o0.op = .fieldAddr tC (.tmp 3) 2 ∧ o0.guard = none) (h1 : o1.dst = some 16 ∧ o1.op = .load tT (.tmp 15) ∧ o1.guard = none) (h2 : o2.dst = some 17 ∧ o2.op = .move (.tmp 2) ∧ o2.guard = none) (h3 : o3.dst = some 18 ∧ o3.op = .binOp .add tT (.tmp 16) (.tmp 17) tT ∧ o3.guard = none) (h4 : o4.dst = some 19 ∧ o4.op = .call { callee := .value (.func fn), args := #[.tmp 18], argTypes := #[tT] } ∧ o4.guard = none) (h5 : o5.dst = some 14 ∧ o5.op = .move (.tmp 19) ∧ o5.guard = none) (h6 : o6.dst = some 20 ∧ o6.op = .extract (.tmp 14) 0 ∧ o6.guard = none) (h7 : o7.dst = some 21 ∧ o7.op = .extract (.tmp 14) 1 ∧ o7.guard = none) (h8 : o8.dst = some 22 ∧ o8.op = .extract (.tmp 14) 2 ∧ o8.guard = none) (h9 : o9.dst = some 8 ∧ o9.op = .assign (.tmp 20) ∧ o9.guard = none) (h10 : o10.dst = some 9 ∧ o10.op = .assign (.tmp 21) ∧ o10.guard = none) (h11 : o11.dst = some 10 ∧ o11.op = .assign (.tmp 22) ∧ o11.guard = none)
    (h : r1 K vt m) (r : Rl bs w0 ds bl0 bl vt m a w) (hK : ∀ bl vt m a w, K vt m → Rl bs w0 ds bl0 bl vt m a w → Q .normal a w) : (Code.region 1 ops false).wp Tryz.prog Q a w := by
  subst ho hfn
  have hlen := r.F.len
  unfold r1 at h
  split at h
  case h_2 => exact h.elim
  rename_i s1 x0 x1 s0 xs hp h2v hrow
  obtain ⟨hsz, hm3, hlt, hk⟩ := h
  rw [hlt] at hlen
  have hbl : bl.length = 3 := r.len.trans hm3
  have hp' := r.F.rv 3
  rw [hp] at hp'
  obtain ⟨B, hB, hpe⟩ := hp'
  have hpe : a.eval (.tmp 3) = .pointer (some ⟨B, 0, none⟩) := hpe
  have h2' := r.F.rv 2
  rw [h2v] at h2'
  have h2' : a.eval (.tmp 2) = .string s1 := h2'
  obtain ⟨row, e0, A0⟩ := r.R.arr 0 B hB
  have erow : row = x0 :: x1 :: .string s0 :: xs := by
    match m, e0, hrow with
    | _ :: _, e0, hrow => cases e0; exact hrow
  subst erow
  have hld : loadV Tryz.prog tT (x0 :: x1 :: .string s0 :: xs) 2 = some (.string s0) := by unfold loadV; rw [hag]; rfl
  have rld := loadV_run hld A0
  have rfl1 := fieldV_run hfl B 0 w
  have F := r.F
  have D := r.defers
  refine wp_region ?_
  have E2 := h2'
  refine ops_valS (v := .nilIface) (v' := (.pointer (some ⟨B, 2, none⟩))) (w' := w) rfl h0.1 (unguarded h0.2.2) (by simp [execOp, h0.2.1, hpe, rfl1]) F D hlen (by decide) (rfl) fun a F D hlen E15 X => ?_
  have E2 := (X 2 (by decide)).trans E2
  refine ops_valS (v := .nilIface) (v' := (.string s0)) (w' := w) rfl h1.1 (unguarded h1.2.2) (by simp [execOp, h1.2.1, E15, Instr.loadAt, Instr.sureAddr, rld]) F D hlen (by decide) (rfl) fun a F D hlen E16 X => ?_
  have E2 := (X 2 (by decide)).trans E2
  refine ops_valS (v := .nilIface) (v' := (.string s1)) (w' := w) rfl h2.1 (unguarded h2.2.2) (by simp [execOp, h2.2.1, E2]) F D hlen (by decide) (rfl) fun a F D hlen E17 X => ?_
  have E16 := (X 16 (by decide)).trans E16
  refine ops_valS (v := .nilIface) (v' := (.string (s0 ++ s1))) (w' := w) rfl h3.1 (unguarded h3.2.2) (by simp [execOp, h3.2.1, E16, E17, eqGuard, binOp, Op.stringOp]; omega) F D hlen (by decide) (rfl) fun a F D hlen E18 X => ?_
  have hss : (s0 ++ s1).size ≤ 5000 := by rw [ByteArray.size_append]; exact hsz
  refine ops_call (o := o4) (args := #[.string (s0 ++ s1)]) rfl h4.2.2 ?_ (scan_any (s0 ++ s1) w hss) ?_
  · have := go_of Tryz.func36 (by kernel_rfl) (by kernel_rfl) #[.string (s0 ++ s1)] w
    have hf : a.eval (.func 36) = .func (.func 36) #[] #[] := rfl
    simp [execOp, h4.2.1, resolve, hf, E18, Deferred.ofValue, invoke, this]
  rintro e w' ⟨v, rr, rfl, hrr, hfr, hbel⟩
  refine ⟨_, rfl, ?_⟩
  obtain ⟨x, sl, hsl, hrv, R'⟩ := r.R.frames hbl hm3 hbel hfr
  have hrr' : rr = restOf (s0 ++ s1).data.toList := by
    unfold restOf
    rw [← hrr]
  subst hrr'
  have hL := Le.last bl x
  have F := F.mono hL
  have hk := hk sl hsl
  rw [h4.1]
  have F := F.put (v := .nilIface) (v' := (.tuple #[v, .string (restOf (s0 ++ s1).data.toList), .int .i64 ((scanL (s0 ++ s1).data.toList).2.2 : Nat)])) rfl (some 19)
  have D := (put_defers a (some 19) (.tuple #[v, .string (restOf (s0 ++ s1).data.toList), .int .i64 ((scanL (s0 ++ s1).data.toList).2.2 : Nat)])).trans D
  have E19 : (a.put (some 19) (.tuple #[v, .string (restOf (s0 ++ s1).data.toList), .int .i64 ((scanL (s0 ++ s1).data.toList).2.2 : Nat)])).eval (.tmp 19) = (.tuple #[v, .string (restOf (s0 ++ s1).data.toList), .int .i64 ((scanL (s0 ++ s1).data.toList).2.2 : Nat)]) := put_get (by rw [hlen]; decide)
  have hlen := (put_size (a := a) (d := some 19) (v := (.tuple #[v, .string (restOf (s0 ++ s1).data.toList), .int .i64 ((scanL (s0 ++ s1).data.toList).2.2 : Nat)]))).trans hlen
  generalize a.put (some 19) (.tuple #[v, .string (restOf (s0 ++ s1).data.toList), .int .i64 ((scanL (s0 ++ s1).data.toList).2.2 : Nat)]) = a at F D E19 hlen ⊢
  refine ops_valS (v := .nilIface) (v' := (.tuple #[v, .string (restOf (s0 ++ s1).data.toList), .int .i64 ((scanL (s0 ++ s1).data.toList).2.2 : Nat)])) (w' := w') rfl h5.1 (unguarded h5.2.2) (by simp [execOp, h5.2.1, E19]) F D hlen (by decide) (rfl) fun a F D hlen E14 X => ?_
  refine ops_valS (v := sl) (v' := v) (w' := w') rfl h6.1 (unguarded h6.2.2) (by simp [execOp, h6.2.1, E14, Instr.extract]) F D hlen (by decide) (hrv) fun a F D hlen E20 X => ?_
  have E14 := (X 14 (by decide)).trans E14
  refine ops_valS (v := (.string (restOf (s0 ++ s1).data.toList))) (v' := (.string (restOf (s0 ++ s1).data.toList))) (w' := w') rfl h7.1 (unguarded h7.2.2) (by simp [execOp, h7.2.1, E14, Instr.extract]) F D hlen (by decide) (rfl) fun a F D hlen E21 X => ?_
  have E14 := (X 14 (by decide)).trans E14
  have E20 := (X 20 (by decide)).trans E20
  refine ops_valS (v := (.int .i64 ((scanL (s0 ++ s1).data.toList).2.2 : Nat))) (v' := (.int .i64 ((scanL (s0 ++ s1).data.toList).2.2 : Nat))) (w' := w') rfl h8.1 (unguarded h8.2.2) (by simp [execOp, h8.2.1, E14, Instr.extract]) F D hlen (by decide) (rfl) fun a F D hlen E22 X => ?_
  have E20 := (X 20 (by decide)).trans E20
  have E21 := (X 21 (by decide)).trans E21
  refine ops_valS (v := sl) (v' := v) (w' := w') rfl h9.1 (unguarded h9.2.2) (by simp [execOp, h9.2.1, E20]) F D hlen (by decide) (hrv) fun a F D hlen E8 X => ?_
  have E21 := (X 21 (by decide)).trans E21
  have E22 := (X 22 (by decide)).trans E22
  refine ops_valS (v := (.string (restOf (s0 ++ s1).data.toList))) (v' := (.string (restOf (s0 ++ s1).data.toList))) (w' := w') rfl h10.1 (unguarded h10.2.2) (by simp [execOp, h10.2.1, E21]) F D hlen (by decide) (rfl) fun a F D hlen E9 X => ?_
  have E22 := (X 22 (by decide)).trans E22
  refine ops_valS (v := (.int .i64 ((scanL (s0 ++ s1).data.toList).2.2 : Nat))) (v' := (.int .i64 ((scanL (s0 ++ s1).data.toList).2.2 : Nat))) (w' := w') rfl h11.1 (unguarded h11.2.2) (by simp [execOp, h11.2.1, E22]) F D hlen (by decide) (rfl) fun a F D hlen E10 X => ?_
  exact hK _ _ _ _ _ hk ⟨F, R', r.le.trans hL, by rw [List.length_append, List.length_append, hbl, hm3]; rfl, D⟩
end Go.Proofs.YtoadcnhcfodkgaaGreatDoor
