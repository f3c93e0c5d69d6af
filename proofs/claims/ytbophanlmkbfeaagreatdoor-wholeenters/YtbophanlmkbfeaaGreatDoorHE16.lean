/-
A part.
A part.
A part.
A part.
A part.
-/
import Derived.Maps.OwnOps
import Derived.Maps.Views
import Derived.WideKeyPair
import Derived.Test.YtbophanlmkbfeaaGreatDoorHE15
import Derived.Test.YtbophanlmkbfeaaGreatDoorHE14
import Derived.Test.YtbophanlmkbfeaaGreatDoorHE12
namespace Go.Proofs.YtbophanlmkbfeaaGreatDoor
open Go.RowKit
theorem last_at {bl : Bl} {x : Option Nat} {i B : Nat} (h : (bl ++ [x])[i]? = some (some B)) : bl[i]? = some (some B) ∨ (i = bl.length ∧ x = some B) := by
 by_cases e : i < bl.length
 ·rw [List.getElem?_append_left e] at h
  exact .inl h
 ·rw [List.getElem?_append_right (by omega)] at h
  have hi := (List.getElem?_eq_some_iff.1 h).1
  simp only [List.length_cons, List.length_nil] at hi
  have e2 : i = bl.length := by omega
  subst e2
  rw [Nat.sub_self] at h
  exact .inr ⟨rfl, Option.some.inj h⟩
theorem RW.add {bs : List Nat} {w0 : World} {bl : Bl} {m : Xm} {w : World} (h : RW bs w0 bl m w) (hl : bl.length = m.length) {g : Nat} {row : List Value} (A : Arr g row w) (hg : w0.heap.size ≤ g) (hn : ∀ k : Nat, bl[k]? ≠ some (some g)) : RW bs w0 (bl ++ [some g]) (m ++ [row]) w := by
 refine ⟨fun i B hi => ?_, fun i j B hi hj => ?_, fun i B hi => ?_, h.os, h.tape, h.output, h.size, h.block, h.gw⟩
 ·rcases last_at hi with h1 | ⟨rfl, e⟩
  ·obtain ⟨l, h2, A2⟩ := h.arr i B h1
   exact ⟨l, by rw [List.getElem?_append_left (List.getElem?_eq_some_iff.1 h2).1]; exact h2, A2⟩
  ·cases e
   exact ⟨row, by rw [hl, List.getElem?_append_right (Nat.le_refl _), Nat.sub_self]; rfl, A⟩
 ·rcases last_at hi with h1 | ⟨rfl, e⟩ <;> rcases last_at hj with h2 | ⟨rfl, e2⟩
  ·exact h.inj i j B h1 h2
  ·cases e2; exact absurd h1 (hn i)
  ·cases e; exact absurd h2 (hn j)
  ·rfl
 ·rcases last_at hi with h1 | ⟨rfl, e⟩
  ·exact (h.own i B h1).imp id (Or.imp id fun e => by rw [List.getElem?_append_left (List.getElem?_eq_some_iff.1 e).1]; exact e)
  ·cases e; exact .inr (.inl hg)
theorem Le.last (bl : Bl) (x : Option Nat) : Le bl (bl ++ [x]) := fun k B hk => by
 rw [List.getElem?_append_left (List.getElem?_eq_some_iff.1 hk).1]
 exact hk
theorem arr_cells {w : World} {g : Nat} {cur : Array Value} {e : TypeId} {xs : List Value} {n : Nat} (h : w.heap[g]? = some (.cells cur e (0, 0))) (hx : cur.toList.take n = xs) : Arr g xs w := by
 refine ⟨fun i hi => ?_, fun i hi => ?_, (Array.getElem?_eq_some_iff.1 h).1⟩
 ·have h1 : xs[i]? = cur[i]? := by
   subst hx
   rw [List.length_take] at hi
   rw [List.getElem?_take_of_lt (by omega), Array.getElem?_toList]
  rw [List.getElem?_eq_getElem hi] at h1
  simp [World.cell?, h, ← h1]
 ·simp [World.frozen?, h]
theorem RW.frames {bs : List Nat} {w0 : World} {bl : Bl} {m : Xm} {w w' : World} (h : RW bs w0 bl m w) (hl : bl.length = 3) (hm : m.length = 3) (hb : Below w.heap.size w w') {v : Value} {l : List (UInt8 × List UInt8)} (hf : Frames w.heap.size w' v l) :
    ∃ x sl, SlOk sl l ∧ RV (bl ++ [x]) sl v ∧ RW bs w0 (bl ++ [x]) (m ++ [cellsOf l]) w' := by
 have h' := h.pure hb
 rcases hf.2 with ⟨rfl, h0⟩ | ⟨g, cap, cur, rfl, hg, hgg, _, _, _, hx⟩
 ·exact ⟨none, .slice none 0 0, .inl ⟨rfl, List.length_eq_zero_iff.1 h0⟩, rfl, h'.wide 1 _⟩
 ·have h3 : (bl ++ [some g])[3]? = some (some g) := by rw [List.getElem?_append_right (by omega), hl]; rfl
  refine ⟨some g, .slice (some ⟨3, 0, none⟩) l.length cap, .inr ⟨cap, rfl⟩, ⟨g, h3, rfl⟩, h'.add (hl.trans hm.symm) (arr_cells hgg hx) (Nat.le_trans h.size hg) (fun k hk => ?_)⟩
  obtain ⟨_, _, A⟩ := h.arr k g hk
  have := A.lies
  omega
def restOf (L : List UInt8) : ByteArray := ⟨(scanL L).2.1.toArray⟩
def r1 (K : List Value → Xm → Prop) (vt : List Value) (m : Xm) : Prop :=
 match vt.getD 3 undef, vt.getD 2 undef, m.headD [] with
 | .pointer (some ⟨0, 0, none⟩), .string s1, _ :: _ :: .string s0 :: _ =>
  s0.size + s1.size ≤ 5000 ∧ m.length = 3 ∧ vt.length = 67 ∧ ∀ sl, SlOk sl (scanL (s0 ++ s1).data.toList).1 →
   K ((((((((((((vt.set 15 .nilIface).set 16 .nilIface).set 17 .nilIface).set 18 .nilIface).set 19 .nilIface).set 14 .nilIface).set 20 sl).set 21 (.string (restOf (s0 ++ s1).data.toList))).set 22 (.int .i64 ((scanL (s0 ++ s1).data.toList).2.2 : Nat))).set 8 sl).set 9 (.string (restOf (s0 ++ s1).data.toList))).set 10 (.int .i64 ((scanL (s0 ++ s1).data.toList).2.2 : Nat))) (m ++ [cellsOf (scanL (s0 ++ s1).data.toList).1])
 | _, _, _ => False
theorem ops_call {P : Program} {ops : Array Oper} {Q : Exit → Act → World → Prop} {i : Nat} {rest : List Nat} {a : Act} {w : World} {o : Oper} {f : Nat} {args : Array Value} {R : Ending → World → Prop} (ho : ops[i]? = some o) (hg : o.guard = none) (hr : (execOp a.eval o).run P w = .ok (.enter f args) w)
    (hc : Calls P f args w R) (h : ∀ e w', R e w' → ∃ v, e = .returned v ∧ wpOps P ops Q rest (a.put o.dst v) w') : wpOps P ops Q (i :: rest) a w := by
 rw [wpOps_cons]
 unfold wpOp
 rw [ho]
 dsimp only
 rw [show Region.wanted o (yielded ops a.tmps) = true by unfold Region.wanted; rw [hg], if_pos rfl]
 refine .inl ?_
 unfold Oper.wp
 rw [hr]
 refine Calls.mono hc ?_
 intro e w' he
 obtain ⟨v, rfl, hv⟩ := h e w' he
 exact hv
theorem ops_valG {P : Program} {ops : Array Oper} {Q : Exit → Act → World → Prop} {i : Nat} {rest : List Nat} {a : Act} {w w' : World} {o : Oper} {v : Value} (ho : ops[i]? = some o) (hg : Region.wanted o (yielded ops a.tmps) = true) (hr : (execOp a.eval o).run P w = .ok (.value v) w')
    (h : wpOps P ops Q rest (a.put o.dst v) w') : wpOps P ops Q (i :: rest) a w := by
 rw [wpOps_cons]
 unfold wpOp
 rw [ho]
 dsimp only
 rw [hg, if_pos rfl]
 refine .inl ?_
 unfold Oper.wp
 rw [hr]
 exact h
theorem ops_callG {P : Program} {ops : Array Oper} {Q : Exit → Act → World → Prop} {i : Nat} {rest : List Nat} {a : Act} {w : World} {o : Oper} {f : Nat} {args : Array Value} {R : Ending → World → Prop} (ho : ops[i]? = some o) (hg : Region.wanted o (yielded ops a.tmps) = true) (hr : (execOp a.eval o).run P w = .ok (.enter f args) w)
    (hc : Calls P f args w R) (h : ∀ e w', R e w' → ∃ v, e = .returned v ∧ wpOps P ops Q rest (a.put o.dst v) w') : wpOps P ops Q (i :: rest) a w := by
 rw [wpOps_cons]
 unfold wpOp
 rw [ho]
 dsimp only
 rw [hg, if_pos rfl]
 refine .inl ?_
 unfold Oper.wp
 rw [hr]
 refine Calls.mono hc ?_
 intro e w' he
 obtain ⟨v, rfl, hv⟩ := h e w' he
 exact hv
theorem unguarded {o : Oper} {y : Nat → Option Bool} (h : o.guard = none) : Region.wanted o y = true := by unfold Region.wanted; rw [h]
theorem ops_valS {P : Program} {ops : Array Oper} {Q : Exit → Act → World → Prop} {i : Nat} {rest : List Nat} {a : Act} {w w' : World} {o : Oper} {v v' : Value} {d N : Nat} {bl : Bl} {vt : List Value} {ds : List Deferred} (ho : ops[i]? = some o) (hd : o.dst = some d) (hg : Region.wanted o (yielded ops a.tmps) = true) (hr : (execOp a.eval o).run P w = .ok (.value v') w') (F : FR bl vt a.tmps) (D : a.defers = ds) (hl : a.tmps.size = N) (hN : d < N) (hv : RV bl v v')
    (h : ∀ a' : Act, FR bl (vt.set d v) a'.tmps → a'.defers = ds → a'.tmps.size = N → a'.eval (.tmp d) = v' → (∀ e, d ≠ e → a'.eval (.tmp e) = a.eval (.tmp e)) → wpOps P ops Q rest a' w') : wpOps P ops Q (i :: rest) a w := by
 refine ops_valG ho hg hr ?_
 rw [hd]
 exact h _ (F.put hv (some d)) ((put_defers a (some d) v').trans D) (put_size.trans hl) (put_get (by omega)) (fun e he => put_other he)
theorem wanted_by {ops : Array Oper} {a : Act} {o oj : Oper} {j d : Nat} {b : Bool} (hg : o.guard = some (j, b)) (hj : ops[j]? = some oj) (hd : oj.dst = some d) (he : a.eval (.tmp d) = .bool b) : Region.wanted o (yielded ops a.tmps) = true := by
 unfold Region.wanted yielded
 rw [hg]
 dsimp only
 rw [hj]
 simp only [Option.bind_some, hd]
 have he : a.tmps.getD d undef = .bool b := he
 rw [Array.getD_eq_getD_getElem?] at he
 cases h : a.tmps[d]? with
 | none => rw [h] at he; cases he
 | some v =>
  rw [h] at he
  have he : v = .bool b := he
  rw [he]
  simp
set_option maxHeartbeats 1000000 in
theorem r1_sound {bs : List Nat} {w0 : World} {ds : List Deferred} {bl0 : Bl} {K : List Value → Xm → Prop} {Q : Exit → Act → World → Prop} {bl : Bl} {vt : List Value} {m : Xm} {a : Act} {w : World} {ops : Array Oper} {tC tT : TypeId} {fn : Nat} {o0 o1 o2 o3 o4 o5 o6 o7 o8 o9 o10 o11 : Oper} (hfn : fn = 43)
    (hfl : fieldV Tryz.prog tC 2 = some 2) (hag : qrun Tryz.prog (isAgg tT) = some false) (ho : ops = #[o0, o1, o2, o3, o4, o5, o6, o7, o8, o9, o10, o11])
    (h0 : o0.dst = some 15 ∧ o0.op = .fieldAddr tC (.tmp 3) 2 ∧ o0.guard = none) (h1 : o1.dst = some 16 ∧ o1.op = .load tT (.tmp 15) ∧ o1.guard = none) (h2 : o2.dst = some 17 ∧ o2.op = .move (.tmp 2) ∧ o2.guard = none) (h3 : o3.dst = some 18 ∧ o3.op = .binOp .add tT (.tmp 16) (.tmp 17) tT ∧ o3.guard = none) (h4 : o4.dst = some 19 ∧ o4.op = .call { callee := .value (.func fn), args := #[.tmp 18], argTypes := #[tT] } ∧ o4.guard = none) (h5 : o5.dst = some 14 ∧ o5.op = .move (.tmp 19) ∧ o5.guard = none) (h6 : o6.dst = some 20 ∧ o6.op = .extract (.tmp 14) 0 ∧ o6.guard = none) (h7 : o7.dst = some 21 ∧ o7.op = .extract (.tmp 14) 1 ∧ o7.guard = none) (h8 : o8.dst = some 22 ∧ o8.op = .extract (.tmp 14) 2 ∧ o8.guard = none) (h9 : o9.dst = some 8 ∧ o9.op = .assign (.tmp 20) ∧ o9.guard = none) (h10 : o10.dst = some 9 ∧ o10.op = .assign (.tmp 21) ∧ o10.guard = none) (h11 : o11.dst = some 10 ∧ o11.op = .assign (.tmp 22) ∧ o11.guard = none)
    (h : r1 K vt m) (r : Rl bs w0 ds bl0 bl vt m a w) (hK : ∀ bl vt m a w, K vt m → Rl bs w0 ds bl0 bl vt m a w → Q .normal a w) : (Code.region 1 ops false).wp Tryz.prog Q a w := by
 subst ho hfn
 have hlen := r.F.len
 unfold r1 at h
 split at h
 case h_2 => exact h.elim
 rename_i s1 x0 x1 s0 xs hp h2v hrow
 obtain ⟨hsz, hm3, hlt, hk⟩ := h
 rw [hlt] at hlen
 have hbl : bl.length = 3 := r.len.trans hm3
 have hp' := r.F.rv 3
 rw [hp] at hp'
 obtain ⟨B, hB, hpe⟩ := hp'
 have hpe : a.eval (.tmp 3) = .pointer (some ⟨B, 0, none⟩) := hpe
 have h2' := r.F.rv 2
 rw [h2v] at h2'
 have h2' : a.eval (.tmp 2) = .string s1 := h2'
 obtain ⟨row, e0, A0⟩ := r.R.arr 0 B hB
 have erow : row = x0 :: x1 :: .string s0 :: xs := by
  match m, e0, hrow with
  | _ :: _, e0, hrow => cases e0; exact hrow
 subst erow
 have hld : loadV Tryz.prog tT (x0 :: x1 :: .string s0 :: xs) 2 = some (.string s0) := by unfold loadV; rw [hag]; rfl
 have rld := loadV_run hld A0
 have rfl1 := fieldV_run hfl B 0 w
 have F := r.F
 have D := r.defers
 refine wp_region ?_
 have E2 := h2'
 refine ops_valS (v := .nilIface) (v' := (.pointer (some ⟨B, 2, none⟩))) (w' := w) rfl h0.1 (unguarded h0.2.2) (by simp [execOp, h0.2.1, hpe, rfl1]) F D hlen (by decide) (rfl) fun a F D hlen E15 X => ?_
 have E2 := (X 2 (by decide)).trans E2
 refine ops_valS (v := .nilIface) (v' := (.string s0)) (w' := w) rfl h1.1 (unguarded h1.2.2) (by simp [execOp, h1.2.1, E15, Instr.loadAt, Instr.sureAddr, rld]) F D hlen (by decide) (rfl) fun a F D hlen E16 X => ?_
 have E2 := (X 2 (by decide)).trans E2
 refine ops_valS (v := .nilIface) (v' := (.string s1)) (w' := w) rfl h2.1 (unguarded h2.2.2) (by simp [execOp, h2.2.1, E2]) F D hlen (by decide) (rfl) fun a F D hlen E17 X => ?_
 have E16 := (X 16 (by decide)).trans E16
 refine ops_valS (v := .nilIface) (v' := (.string (s0 ++ s1))) (w' := w) rfl h3.1 (unguarded h3.2.2) (by simp [execOp, h3.2.1, E16, E17, eqGuard, binOp, Op.stringOp]; omega) F D hlen (by decide) (rfl) fun a F D hlen E18 X => ?_
 have hss : (s0 ++ s1).size ≤ 5000 := by rw [ByteArray.size_append]; exact hsz
 refine ops_call (o := o4) (args := #[.string (s0 ++ s1)]) rfl h4.2.2 ?_ (scan_any (s0 ++ s1) w hss) ?_
 ·have := go_of Tryz.func43 (by kernel_rfl) (by kernel_rfl) #[.string (s0 ++ s1)] w
  have hf : a.eval (.func 43) = .func (.func 43) #[] #[] := rfl
  simp [execOp, h4.2.1, resolve, hf, E18, Deferred.ofValue, invoke, this]
 rintro e w' ⟨v, rr, rfl, hrr, hfr, hbel⟩
 refine ⟨_, rfl, ?_⟩
 obtain ⟨x, sl, hsl, hrv, R'⟩ := r.R.frames hbl hm3 hbel hfr
 have hrr' : rr = restOf (s0 ++ s1).data.toList := by
  unfold restOf
  rw [← hrr]
 subst hrr'
 have hL := Le.last bl x
 have F := F.mono hL
 have hk := hk sl hsl
 rw [h4.1]
 have F := F.put (v := .nilIface) (v' := (.tuple #[v, .string (restOf (s0 ++ s1).data.toList), .int .i64 ((scanL (s0 ++ s1).data.toList).2.2 : Nat)])) rfl (some 19)
 have D := (put_defers a (some 19) (.tuple #[v, .string (restOf (s0 ++ s1).data.toList), .int .i64 ((scanL (s0 ++ s1).data.toList).2.2 : Nat)])).trans D
 have E19 : (a.put (some 19) (.tuple #[v, .string (restOf (s0 ++ s1).data.toList), .int .i64 ((scanL (s0 ++ s1).data.toList).2.2 : Nat)])).eval (.tmp 19) = (.tuple #[v, .string (restOf (s0 ++ s1).data.toList), .int .i64 ((scanL (s0 ++ s1).data.toList).2.2 : Nat)]) := put_get (by rw [hlen]; decide)
 have hlen := (put_size (a := a) (d := some 19) (v := (.tuple #[v, .string (restOf (s0 ++ s1).data.toList), .int .i64 ((scanL (s0 ++ s1).data.toList).2.2 : Nat)]))).trans hlen
 generalize a.put (some 19) (.tuple #[v, .string (restOf (s0 ++ s1).data.toList), .int .i64 ((scanL (s0 ++ s1).data.toList).2.2 : Nat)]) = a at F D E19 hlen ⊢
 refine ops_valS (v := .nilIface) (v' := (.tuple #[v, .string (restOf (s0 ++ s1).data.toList), .int .i64 ((scanL (s0 ++ s1).data.toList).2.2 : Nat)])) (w' := w') rfl h5.1 (unguarded h5.2.2) (by simp [execOp, h5.2.1, E19]) F D hlen (by decide) (rfl) fun a F D hlen E14 X => ?_
 refine ops_valS (v := sl) (v' := v) (w' := w') rfl h6.1 (unguarded h6.2.2) (by simp [execOp, h6.2.1, E14, Instr.extract]) F D hlen (by decide) (hrv) fun a F D hlen E20 X => ?_
 have E14 := (X 14 (by decide)).trans E14
 refine ops_valS (v := (.string (restOf (s0 ++ s1).data.toList))) (v' := (.string (restOf (s0 ++ s1).data.toList))) (w' := w') rfl h7.1 (unguarded h7.2.2) (by simp [execOp, h7.2.1, E14, Instr.extract]) F D hlen (by decide) (rfl) fun a F D hlen E21 X => ?_
 have E14 := (X 14 (by decide)).trans E14
 have E20 := (X 20 (by decide)).trans E20
 refine ops_valS (v := (.int .i64 ((scanL (s0 ++ s1).data.toList).2.2 : Nat))) (v' := (.int .i64 ((scanL (s0 ++ s1).data.toList).2.2 : Nat))) (w' := w') rfl h8.1 (unguarded h8.2.2) (by simp [execOp, h8.2.1, E14, Instr.extract]) F D hlen (by decide) (rfl) fun a F D hlen E22 X => ?_
 have E20 := (X 20 (by decide)).trans E20
 have E21 := (X 21 (by decide)).trans E21
 refine ops_valS (v := sl) (v' := v) (w' := w') rfl h9.1 (unguarded h9.2.2) (by simp [execOp, h9.2.1, E20]) F D hlen (by decide) (hrv) fun a F D hlen E8 X => ?_
 have E21 := (X 21 (by decide)).trans E21
 have E22 := (X 22 (by decide)).trans E22
 refine ops_valS (v := (.string (restOf (s0 ++ s1).data.toList))) (v' := (.string (restOf (s0 ++ s1).data.toList))) (w' := w') rfl h10.1 (unguarded h10.2.2) (by simp [execOp, h10.2.1, E21]) F D hlen (by decide) (rfl) fun a F D hlen E9 X => ?_
 have E22 := (X 22 (by decide)).trans E22
 refine ops_valS (v := (.int .i64 ((scanL (s0 ++ s1).data.toList).2.2 : Nat))) (v' := (.int .i64 ((scanL (s0 ++ s1).data.toList).2.2 : Nat))) (w' := w') rfl h11.1 (unguarded h11.2.2) (by simp [execOp, h11.2.1, E22]) F D hlen (by decide) (rfl) fun a F D hlen E10 X => ?_
 exact hK _ _ _ _ _ hk ⟨F, R', r.le.trans hL, by rw [List.length_append, List.length_append, hbl, hm3]; rfl, D⟩
end Go.Proofs.YtbophanlmkbfeaaGreatDoor
namespace Go.Proofs.YtbophanlmkbfeaaGreatDoor
open Go.RowKit
def cpart : List Bool → Code → Code
 | [], c => c
 | false :: p, .seq x _ => cpart p x
 | true :: p, .seq _ y => cpart p y
 | false :: p, .block _ c => cpart p c
 | false :: p, .loop c => cpart p c
 | _, c => c
def bodyOf (P : Program) (f : Nat) : Code := match P.funcs[f]? with
 | some fn => (match fn.body with
  | some c => c
  | none => .skip)
 | none => .skip
def fnOf (P : Program) (f : Nat) : Func := (P.funcs[f]?).getD default
def regs : Code → List (Nat × Array Oper × Bool)
 | .region id ops draw => [(id, ops, draw)]
 | .seq x y => regs x ++ regs y
 | .cond _ x y => regs x ++ regs y
 | .block _ c => regs c
 | .loop c => regs c
 | _ => []
def opsOf (P : Program) (f id : Nat) : Array Oper := match (regs (bodyOf P f)).lookup id with
 | some x => x.1
 | none => #[]
def opOf (P : Program) (f id i : Nat) : Oper := (opsOf P f id).toList.getD i default
section
variable {P : Program} {bs : List Nat} {w0 : World} {ds : List Deferred} {bl0 : Bl} {ov : Ov}
def RegOk (P : Program) (ov : Ov) (bs : List Nat) (w0 : World) (ds : List Deferred) (bl0 : Bl) (r : Nat × Array Oper × Bool) : Prop :=
 ∀ R, ov r.1 = some R → ∀ (K : List Value → Xm → Prop) (Q : Exit → Act → World → Prop) (bl : Bl) (vt : List Value) (m : Xm) (a : Act) (w : World), R r.2.1 r.2.2 K vt m → Rl bs w0 ds bl0 bl vt m a w → (∀ bl vt m a w, K vt m → Rl bs w0 ds bl0 bl vt m a w → Q .normal a w) → (Code.region r.1 r.2.1 r.2.2).wp P Q a w
theorem ovOk_of : ∀ c : Code, (∀ r ∈ regs c, RegOk P ov bs w0 ds bl0 r) → OvOk P ov bs w0 ds bl0 c := by
 intro c
 induction c with
 | region id ops draw => intro h; exact h (id, ops, draw) List.mem_cons_self
 | seq x y ihx ihy => intro h; exact ⟨ihx fun r hr => h r (List.mem_append_left _ hr), ihy fun r hr => h r (List.mem_append_right _ hr)⟩
 | cond c x y ihx ihy => intro h; exact ⟨ihx fun r hr => h r (List.mem_append_left _ hr), ihy fun r hr => h r (List.mem_append_right _ hr)⟩
 | block id c ih => intro h; exact ih h
 | loop c ih => intro h; exact ih h
 | skip => intro _; exact trivial
 | exit id => intro _; exact trivial
 | label l => intro _; exact trivial
 | ret => intro _; exact trivial
 | goto l => intro _; exact trivial
 | scope c _ => intro _; exact trivial
 | refuse s => intro _; exact trivial
 | rangeFunc f ps x y _ _ => intro _; exact trivial
theorem ovOk_by {c : Code} {ns : List (Nat × Array Oper × Bool)} (hn : (regs c).filter (fun r => (ov r.1).isSome) = ns) (h : ∀ r ∈ ns, RegOk P ov bs w0 ds bl0 r) : OvOk P ov bs w0 ds bl0 c := by
 refine ovOk_of c fun r hr => ?_
 intro R hR
 exact h r (by rw [← hn]; exact List.mem_filter.2 ⟨hr, by rw [hR]; rfl⟩) R hR
end
section
variable {P : Program} {tbl : List (Ct P)} {dirty : Nat → List Nat} {n : Nat} {ov : Ov}
theorem pure_atO (hm : P.follows .mixedOrders = true) {f : Nat} (hf : P.funcs[f]? = some (fnOf P f)) (hb : (fnOf P f).body = some (bodyOf P f)) {A R : Type} {d : Dl A} {k : Dc R} {x : A} {y : R}
    (ho : ∀ w, OvOk P ov [] w [] [] (bodyOf P f)) (h : swpO P tbl dirty n ov (bodyOf P f) (retQ P (fnOf P f) (fun v _ => v = k.enc y)) (d.enc x ++ List.replicate ((fnOf P f).ntmps - (d.enc x).length) undef) []) (w : World) (hg : GW w) :
    Calls P f (d.enc x).toArray w fun e w' => e = .returned (k.enc y) ∧ Below w.heap.size w w' := by
 have R : RW [] w [] [] w := ⟨fun i B hi => (by cases hi), fun i j B hi => (by cases hi), fun i B hi => (by cases hi), rfl, rfl, rfl, Nat.le_refl _, fun _ _ _ => rfl, hg, fun b hb => by cases hb⟩
 refine Calls.mono (calls_sxO hm hf hb (vargs := d.enc x) R rfl (by simp) (fun i => ?_) (ho w) h) ?_
 ·by_cases hi : i < (d.enc x).length
  ·have := d.np x _ (List.getElem_mem hi)
   simp only [List.getD_eq_getElem?_getD, Array.getD_eq_getD_getElem?]
   simp [hi]
   exact .same this
  ·simp only [List.getD_eq_getElem?_getD, Array.getD_eq_getD_getElem?]
   simp [hi]
   rfl
 ·rintro e w' ⟨v, bl', m2, rfl, rfl, R', _⟩
  exact ⟨rfl, R'.os, R'.tape, R'.output, R'.size, fun i hi => R'.block i hi (by simp)⟩
end
end Go.Proofs.YtbophanlmkbfeaaGreatDoor
namespace Go.Proofs.YtbophanlmkbfeaaGreatDoor
open Go.RowKit
abbrev dHea : Dl Hea := dcat 5 (dT 5) (dcat 5 (dT 5) (dcat 5 (dT 5) (lone' cI)))
def zeroHea : Hea := ((0, 0, 0, 0, 0, ()), (0, 0, 0, 0, 0, ()), (0, 0, 0, 0, 0, ()), 0)
def zeroCra : Cra := (false, 0, noBytes, (0, 0, 0, 0, 0, 0, ()), false, (0, 0, 0, 0, 0, 0, 0, ()), (false, (0, 0, 0, 0, 0, 0, 0, ())), zeroG, (0, 0, 0, ()))
def leftC (c : Cra) (l : ByteArray) : Cra := (c.1, c.2.1, l, c.2.2.2)
def hearW (F : Fs) (t : Int) (s : Cra × Hea) (f : Fra) : Cra × Hea :=
 if f.1 = 1 then senW F s.1 s.2 f t else if f.1 = 2 then senW F s.1 s.2 f t else if f.1 = 3 then senW F s.1 s.2 f t else if f.1 = 16 then ordC s.1 s.2 (F.oread f) else (rejC s.1, s.2)
def fraOf (f : UInt8 × List UInt8) : Fra := ((f.1.toNat : Nat), ⟨f.2.toArray⟩)
def begW (c : Cra) (L : List UInt8) : Cra := if ((scanL L).2.2 : Nat) > (0 : Int) then rejC (leftC c (restOf L)) else leftC c (restOf L)
def takeW (F : Fs) (c : Cra) (t : Int) (b : ByteArray) : Cra × Hea :=
 ((scanL (c.2.2.1 ++ b).data.toList).1.map fraOf).foldl (hearW F t) (begW c (c.2.2.1 ++ b).data.toList, zeroHea)
def tks : List Nat := [1, 3, 6, 7, 11, 32, 33, 31]
def tkF (t n i : Int) (sl : Value) (d : Nat → Value) : List Value := frm [(1, .int .i64 t), (3, ptr 0), (6, ptr 1), (7, ptr 2), (11, ptr 4), (32, .int .i64 n), (33, .int .i64 i), (31, sl)] d 67
def tkE (t n i : Int) (sl : Value) (d : Nat → Value) : List Value := vset ((tkF t n i sl d).set 34 (.bool (decide (i < n)))) (.tmp 34) false
def tkM (c : Cra) (h : Hea) (l : List (UInt8 × List UInt8)) : Xm := [dCra.enc c, dCra.enc zeroCra, dHea.enc zeroHea, cellsOf l, dHea.enc h]
def tkT (F : Fs) (h : FsOk F) : List (Ct Tryz.prog) := [ctrejected, cthearSensor F h, cthearGround F h]
def tkO (F : Fs) (h : FsOk F) (l : List (UInt8 × List UInt8)) : Ov := fun id => match id with
 | 1 => some fun _ _ => r1
 | 6 => some fun _ _ => r6 tks l
 | 8 => some fun _ _ => r8 l
 | 17 => some (cutBy Tryz.prog (tkT F h) (fun _ => []) 17 tks 67 5)
 | _ => none
def tkB (P : Program) : Code := cpart [true, true, true, true, true, false, true] (bodyOf P 23)
def tkL (P : Program) : Code := cpart [false, false] (tkB P)
def tkZ (P : Program) : Code := cpart [true, true, true, true, true, true] (bodyOf P 23)
section
variable (F : Fs) (h : FsOk F)
def nx (t nn i : Int) (sl : Value) (l : List (UInt8 × List UInt8)) (Q : VQ) (s : Cra × Hea) : Prop :=
 67 = 67 ∧ (ptrOk 5 sl && true) = true ∧ ∀ d, Q .normal (tkF t nn (IntKind.i64.wrap (i + 1)) sl d) (tkM s.1 s.2 l)
set_option maxRecDepth 100000 in
theorem tk_round (n : Nat) (t nn i : Int) (sl : Value) (d : Nat → Value) (l : List (UInt8 × List UInt8)) (c : Cra) (x : Hea) (Q : VQ) :
    swpO Tryz.prog (tkT F h) (fun _ => []) n (tkO F h l) (tkL Tryz.prog) Q (tkF t nn i sl d) (tkM c x l) =
      vif (decide (i < nn)) ((0 ≤ i ∧ i.toNat < l.length) ∧ SlOk sl l ∧ some (cellsOf l) = some (cellsOf l) ∧ 5 = 5 ∧ 36 < 67 ∧
        vif (decide ((frL l i).1 = 1)) (nx t nn i sl l Q (senW F c x (frL l i) t)) (vif (decide ((frL l i).1 = 2)) (nx t nn i sl l Q (senW F c x (frL l i) t)) (vif (decide ((frL l i).1 = 3)) (nx t nn i sl l Q (senW F c x (frL l i) t))
          (vif (decide ((frL l i).1 = 16)) (nx t nn i sl l Q (ordC c x (F.oread (frL l i)))) (nx t nn i sl l Q (rejC c, x))))))
      (Q (.exit 0) (tkE t nn i sl d) (tkM c x l)) := by kernel_rfl
theorem hear_vif (t nn i : Int) (sl : Value) (l : List (UInt8 × List UInt8)) (c : Cra) (x : Hea) (Q : VQ) :
    vif (decide ((frL l i).1 = 1)) (nx t nn i sl l Q (senW F c x (frL l i) t)) (vif (decide ((frL l i).1 = 2)) (nx t nn i sl l Q (senW F c x (frL l i) t)) (vif (decide ((frL l i).1 = 3)) (nx t nn i sl l Q (senW F c x (frL l i) t))
          (vif (decide ((frL l i).1 = 16)) (nx t nn i sl l Q (ordC c x (F.oread (frL l i)))) (nx t nn i sl l Q (rejC c, x))))) = nx t nn i sl l Q (hearW F t (c, x) (frL l i)) := by
 generalize hE : nx t nn i sl l Q = E
 generalize frL l i = f
 unfold hearW
 dsimp only
 generalize senW F c x f t = A
 generalize ordC c x (F.oread f) = B
 generalize (rejC c, x) = C
 by_cases h1 : f.1 = 1
 ·rw [decide_eq_true h1, if_pos h1]; rfl
 rw [decide_eq_false h1, if_neg h1]
 by_cases h2 : f.1 = 2
 ·rw [decide_eq_true h2, if_pos h2]; rfl
 rw [decide_eq_false h2, if_neg h2]
 by_cases h3 : f.1 = 3
 ·rw [decide_eq_true h3, if_pos h3]; rfl
 rw [decide_eq_false h3, if_neg h3]
 by_cases h4 : f.1 = 16
 ·rw [decide_eq_true h4, if_pos h4]; rfl
 ·rw [decide_eq_false h4, if_neg h4]; rfl
theorem frL_at (pre rest : List (UInt8 × List UInt8)) (f : UInt8 × List UInt8) : frL (pre ++ f :: rest) (pre.length : Nat) = fraOf f := by
 unfold frL fraOf
 rw [Int.toNat_natCast, List.getElem?_append_right (Nat.le_refl _), Nat.sub_self]
 rfl
def TkR (F : Fs) (t : Int) (sl : Value) (l : List (UInt8 × List UInt8)) (G : VQ → List Value → Xm → Prop) : Prop := ∀ (nn i : Int) (d : Nat → Value) (c : Cra) (x : Hea) (Q : VQ), G Q (tkF t nn i sl d) (tkM c x l) =
      vif (decide (i < nn)) ((0 ≤ i ∧ i.toNat < l.length) ∧ SlOk sl l ∧ some (cellsOf l) = some (cellsOf l) ∧ 5 = 5 ∧ 36 < 67 ∧ nx t nn i sl l Q (hearW F t (c, x) (frL l i)))
      (Q (.exit 0) (tkE t nn i sl d) (tkM c x l))
theorem tk_loop {t : Int} {sl : Value} {l : List (UInt8 × List UInt8)} {G : VQ → List Value → Xm → Prop} (hG : TkR F t sl l G) (hl : l.length ≤ 5000) (hs : SlOk sl l) (hp : ptrOk 5 sl = true) (Q : VQ) (rest : List (UInt8 × List UInt8)) : ∀ (pre : List (UInt8 × List UInt8)), l = pre ++ rest → ∀ (d : Nat → Value) (s : Cra × Hea),
    (∀ i d, Q (.exit 0) (tkE t l.length i sl d) (tkM ((rest.map fraOf).foldl (hearW F t) s).1 ((rest.map fraOf).foldl (hearW F t) s).2 l)) →
    loopN (rest.length + 1) G Q (tkF t l.length pre.length sl d) (tkM s.1 s.2 l) := by
 induction rest with
 | nil =>
  intro pre e d s hQ
  have e1 : l.length = pre.length := by rw [e]; simp
  rw [List.length_nil, loopN, hG, decide_eq_false (by omega)]
  exact hQ _ d
 | cons f rest ih =>
  intro pre e d s hQ
  have e1 : l.length = pre.length + (rest.length + 1) := by rw [e]; simp
  rw [List.length_cons, loopN, hG, decide_eq_true (by omega)]
  refine ⟨⟨by omega, by rw [Int.toNat_natCast]; omega⟩, hs, rfl, rfl, by decide, rfl, by rw [hp]; rfl, fun d => ?_⟩
  have hw : IntKind.i64.wrap ((pre.length : Int) + 1) = ((pre ++ [f]).length : Nat) := by
   rw [IntKind.wrap_i64, List.length_append, List.length_singleton]
   omega
  have hf : frL l (pre.length : Nat) = fraOf f := by rw [e]; exact frL_at pre rest f
  rw [hw, hf]
  exact ih (pre ++ [f]) (by rw [e]; simp) d (hearW F t s (fraOf f)) hQ
theorem tk_row (n : Nat) (t : Int) (sl : Value) (l : List (UInt8 × List UInt8)) : TkR F t sl l (swpO Tryz.prog (tkT F h) (fun _ => []) n (tkO F h l) (tkL Tryz.prog)) := by
 intro nn i d c x Q
 rw [tk_round, hear_vif]
def tkQ (F : Fs) (h : FsOk F) (l : List (UInt8 × List UInt8)) (n : Nat) (Q : VQ) : VQ := fun e vt m => match e with
 | .normal => swpO Tryz.prog (tkT F h) (fun _ => []) n (tkO F h l) (tkZ Tryz.prog) Q vt m
 | e => Q e vt m
def tkX (F : Fs) (h : FsOk F) (l : List (UInt8 × List UInt8)) (n : Nat) (t : Int) (Q : VQ) (sl : Value) (c : Cra) : Prop :=
 SlOk sl l ∧ 33 < 67 ∧ 67 = 67 ∧ (ptrOk 5 sl && true) = true ∧ ∀ d, swpO Tryz.prog (tkT F h) (fun _ => []) n (tkO F h l) (tkB Tryz.prog) (tkQ F h l n Q) (tkF t l.length 0 sl d) (tkM c zeroHea l)
set_option maxRecDepth 100000 in
theorem tk_start (n : Nat) (t : Int) (c : Cra) (b : ByteArray) (Q : VQ) :
    swpO Tryz.prog (tkT F h) (fun _ => []) n (tkO F h (scanL (c.2.2.1 ++ b).data.toList).1) (bodyOf Tryz.prog 23) Q ((then' cCra (then' cI (lone' cS))).enc (c, t, b) ++ List.replicate ((fnOf Tryz.prog 23).ntmps - ((then' cCra (then' cI (lone' cS))).enc (c, t, b)).length) undef) [] =
      (c.2.2.1.size + b.size ≤ 5000 ∧ 3 = 3 ∧ 67 = 67 ∧ ∀ sl, SlOk sl (scanL (c.2.2.1 ++ b).data.toList).1 → vif (decide (((scanL (c.2.2.1 ++ b).data.toList).2.2 : Nat) > (0 : Int)))
        (tkX F h (scanL (c.2.2.1 ++ b).data.toList).1 n t Q sl (rejC (leftC c (restOf (c.2.2.1 ++ b).data.toList)))) (tkX F h (scanL (c.2.2.1 ++ b).data.toList).1 n t Q sl (leftC c (restOf (c.2.2.1 ++ b).data.toList)))) := by kernel_rfl
set_option maxRecDepth 100000 in
theorem tk_end (n : Nat) (t i nn : Int) (sl : Value) (d : Nat → Value) (l : List (UInt8 × List UInt8)) (c : Cra) (x : Hea) (Post : Value → Prop) :
    swpO Tryz.prog (tkT F h) (fun _ => []) n (tkO F h l) (tkZ Tryz.prog) (retQ Tryz.prog (fnOf Tryz.prog 23) (fun v _ => Post v)) (tkE t nn i sl d) (tkM c x l) = Post ((two' cCra cHea).enc (c, x)) := by kernel_rfl
set_option maxRecDepth 100000 in
theorem tk_ov (l : List (UInt8 × List UInt8)) (w : World) : OvOk Tryz.prog (tkO F h l) [] w [] [] (bodyOf Tryz.prog 23) := by
 refine ovOk_by (ns := [(1, #[(opOf Tryz.prog 23 1 0), (opOf Tryz.prog 23 1 1), (opOf Tryz.prog 23 1 2), (opOf Tryz.prog 23 1 3), (opOf Tryz.prog 23 1 4), (opOf Tryz.prog 23 1 5), (opOf Tryz.prog 23 1 6), (opOf Tryz.prog 23 1 7), (opOf Tryz.prog 23 1 8), (opOf Tryz.prog 23 1 9), (opOf Tryz.prog 23 1 10), (opOf Tryz.prog 23 1 11)], false), (6, #[(opOf Tryz.prog 23 6 0), (opOf Tryz.prog 23 6 1), (opOf Tryz.prog 23 6 2)], false), (8, #[(opOf Tryz.prog 23 8 0), (opOf Tryz.prog 23 8 1), (opOf Tryz.prog 23 8 2), (opOf Tryz.prog 23 8 3)], false), (17, opsOf Tryz.prog 23 17, false)]) (by kernel_rfl) ?_
 intro r hr
 rcases List.mem_cons.1 hr with rfl | hr
 ·intro R hR K Q bl vt m a w h r hK
  cases hR
  exact r1_sound (tC := 42) (tT := 9) (fn := 43) rfl (by kernel_rfl) (by kernel_rfl) rfl ⟨by kernel_rfl, by kernel_rfl, by kernel_rfl⟩ ⟨by kernel_rfl, by kernel_rfl, by kernel_rfl⟩ ⟨by kernel_rfl, by kernel_rfl, by kernel_rfl⟩ ⟨by kernel_rfl, by kernel_rfl, by kernel_rfl⟩ ⟨by kernel_rfl, by kernel_rfl, by kernel_rfl⟩ ⟨by kernel_rfl, by kernel_rfl, by kernel_rfl⟩ ⟨by kernel_rfl, by kernel_rfl, by kernel_rfl⟩ ⟨by kernel_rfl, by kernel_rfl, by kernel_rfl⟩ ⟨by kernel_rfl, by kernel_rfl, by kernel_rfl⟩ ⟨by kernel_rfl, by kernel_rfl, by kernel_rfl⟩ ⟨by kernel_rfl, by kernel_rfl, by kernel_rfl⟩ ⟨by kernel_rfl, by kernel_rfl, by kernel_rfl⟩ h r hK
 rcases List.mem_cons.1 hr with rfl | hr
 ·intro R hR K Q bl vt m a w h r hK
  cases hR
  exact r6_sound (tS := 64) (e := 49) (by decide) (by kernel_rfl) rfl ⟨by kernel_rfl, by kernel_rfl, by kernel_rfl⟩ ⟨by kernel_rfl, by kernel_rfl, by kernel_rfl⟩ ⟨by kernel_rfl, by kernel_rfl, by kernel_rfl⟩ h r hK
 rcases List.mem_cons.1 hr with rfl | hr
 ·intro R hR K Q bl vt m a w h r hK
  cases hR
  exact r8_sound (tS := 64) (tF := 49) (z := .agg #[.int .i64 0, .string ⟨#[]⟩]) (by kernel_rfl) (by kernel_rfl) (by kernel_rfl) (by kernel_rfl) rfl rfl ⟨by kernel_rfl, by kernel_rfl, by kernel_rfl⟩ ⟨by kernel_rfl, by kernel_rfl, by kernel_rfl⟩ ⟨by kernel_rfl, by kernel_rfl, by kernel_rfl⟩ ⟨by kernel_rfl, by kernel_rfl, by kernel_rfl⟩ h r hK
 rcases List.mem_cons.1 hr with rfl | hr
 ·intro R hR K Q bl vt m a w h r hK
  cases hR
  exact cutBy_sound xmixA (by decide) h r hK
 ·cases hr
theorem scanU_len : ∀ (f : Nat) (s : List UInt8), (scanU f s).1.length ≤ f
 | 0, _ => Nat.le_refl _
 | f + 1, s => by
  unfold scanU
  split
  ·exact Nat.zero_le _
  ·have := scanU_len f (s.drop 1)
   dsimp only
   omega
  ·rename_i n _
   have := scanU_len f (s.drop (n + 5))
   simp only [List.length_cons]
   omega
theorem scan_len (L : List UInt8) : (scanL L).1.length ≤ L.length := scanU_len _ L
set_option maxRecDepth 100000 in
theorem takes_at (h : FsOk F) (x : Cra × Int × ByteArray) (hs : x.1.2.2.1.size + x.2.2.size ≤ 5000) (w : World) (hw : GW w) :
    Calls Tryz.prog 23 ((then' cCra (then' cI (lone' cS))).enc x).toArray w fun e w' => e = .returned ((two' cCra cHea).enc (takeW F x.1 x.2.1 x.2.2)) ∧ Below w.heap.size w w' := by
 obtain ⟨c, t, b⟩ := x
 dsimp only at hs ⊢
 refine pure_atO (tbl := tkT F h) (dirty := fun _ => []) (n := (scanL (c.2.2.1 ++ b).data.toList).1.length + 1) (ov := tkO F h (scanL (c.2.2.1 ++ b).data.toList).1) xmixA (by kernel_rfl) (by kernel_rfl) (tk_ov F h _) ?_ w hw
 rw [tk_start]
 have hL : (scanL (c.2.2.1 ++ b).data.toList).1.length ≤ 5000 := Nat.le_trans (scan_len _) (by simpa [ByteArray.size_append] using hs)
 refine ⟨hs, rfl, rfl, fun sl hsl => ?_⟩
 have hp : ptrOk 5 sl = true := by
  rcases hsl with ⟨rfl, _⟩ | ⟨cap, rfl⟩ <;> rfl
 have key : ∀ c' : Cra, c' = begW c (c.2.2.1 ++ b).data.toList → tkX F h (scanL (c.2.2.1 ++ b).data.toList).1 ((scanL (c.2.2.1 ++ b).data.toList).1.length + 1) t (retQ Tryz.prog (fnOf Tryz.prog 23) (fun v _ => v = (two' cCra cHea).enc (takeW F c t b))) sl c' := by
  intro c' hc
  refine ⟨hsl, by decide, rfl, by rw [hp]; rfl, fun d => ?_⟩
  refine tk_loop F (tk_row F h _ t sl _) hL hsl hp _ _ [] rfl d (c', zeroHea) (fun i d => ?_)
  refine Eq.mpr (tk_end F h _ t i _ sl d _ _ _ (fun v => v = (two' cCra cHea).enc (takeW F c t b))) ?_
  rw [hc]
  rfl
 unfold begW at key
 by_cases ho : ((scanL (c.2.2.1 ++ b).data.toList).2.2 : Nat) > (0 : Int)
 ·rw [decide_eq_true ho]
  exact key _ (if_pos ho).symm
 ·rw [decide_eq_false ho]
  exact key _ (if_neg ho).symm
end
end Go.Proofs.YtbophanlmkbfeaaGreatDoor
namespace Go.Proofs.YtbophanlmkbfeaaGreatDoor
open Go.RowKit Go.Maps Go.WideMaps
theorem key_arr : ArrKey Tryz.prog 264 3 2 := ⟨Tryz.underlying264, by kernel_rfl, by kernel_rfl, by kernel_rfl⟩
theorem key_law : Keyed Tryz.prog 264 := Keyed.of_law key_arr.law
theorem el_zero (w : World) : (zeroValue 2).run Tryz.prog w = .ok (.int .i64 0) w := by kernel_rfl
theorem types_some : ∃ m, Tryz.prog.types.size = m + 1 := ⟨Tryz.prog.types.size - 1, by have h : 0 < Tryz.prog.types.size := of_decide_eq_true (by kernel_rfl); omega⟩
structure I64 (n : Int) : Prop where
 lo : -9223372036854775808 ≤ n
 hi : n ≤ 9223372036854775807
theorem I64.wf {n : Int} (h : I64 n) : (Lit.int .i64 n).wf = true := by
 have := h.lo; have := h.hi
 simp only [Lit.wf, IntKind.min, IntKind.max, IntKind.signed, IntKind.bits, Bool.and_eq_true, decide_eq_true_eq, if_true]
 omega
def kyl (n m : Int) : Lit := .string (keyBytes [.int .i64 n, .int .i64 m])
theorem key_at {n m : Int} (hn : I64 n) (hm : I64 m) : keyOf Tryz.prog 264 (.agg #[.int .i64 n, .int .i64 m]) = some (kyl n m) :=
 keyOf_pair key_arr Tryz.underlying3 types_some hn.wf hm.wf
theorem kyl_inj {n m n' m' : Int} (hn : I64 n) (hm : I64 m) (hn' : I64 n') (hm' : I64 m') (h : kyl n m = kyl n' m') : n = n' ∧ m = m' := by
 have a := key_at hn hm
 rw [h] at a
 have e := key_law.inj a (key_at hn' hm')
 simp at e
 exact e
theorem kyl_key {n m : Int} (hn : I64 n) (hm : I64 m) : WideAt.IsKeyLit (kyl n m) := key_law.key (key_at hn hm)
structure Mp (k c : Nat) (f : Int → Int → Int) (w : World) : Prop where
 own : ∃ D : DataW Unit, w.ownsMap Tryz.prog 264 (plainElem Tryz.prog 2) k c D ∧ ∀ n m, I64 n → I64 m → D.atKey (kyl n m) (.lit (.int .i64 0)) = .lit (.int .i64 (f n m))
 lies : k < w.heap.size
def putM (f : Int → Int → Int) (n m v : Int) : Int → Int → Int := fun a b => if a = n ∧ b = m then v else f a b
theorem Mp.same {k c : Nat} {f : Int → Int → Int} {w w' : World} (h : Mp k c f w) (e : w'.heap[k]? = w.heap[k]?) (hs : w.heap.size ≤ w'.heap.size) : Mp k c f w' := by
 obtain ⟨D, ⟨es, clock, hb, F, hn, hD⟩, at_⟩ := h.own
 exact ⟨⟨D, ⟨es, clock, e.trans hb, F, hn, hD⟩, at_⟩, Nat.lt_of_lt_of_le h.lies hs⟩
theorem Mp.mono {k c c' : Nat} {f : Int → Int → Int} {w : World} (h : Mp k c f w) (hc : c ≤ c') : Mp k c' f w := by
 obtain ⟨D, o, at_⟩ := h.own
 exact ⟨⟨D, o.mono hc, at_⟩, h.lies⟩
theorem Mp.eqv {k c : Nat} {f g : Int → Int → Int} {w : World} (h : Mp k c f w) (e : ∀ n m, f n m = g n m) : Mp k c g w := by
 obtain rfl : f = g := by funext n m; exact e n m
 exact h
theorem Mp.kept {k b c : Nat} {f : Int → Int → Int} {w w' : World} (h : Mp k c f w) (hb : Kept b w w') (hk : k ≠ b) : Mp k c f w' := h.same (hb.block k h.lies hk) hb.size
theorem Mp.below {k c : Nat} {f : Int → Int → Int} {w w' : World} (h : Mp k c f w) (hb : Below w.heap.size w w') : Mp k c f w' := h.same (hb.block k h.lies) hb.size
theorem Mp.alloc {k c : Nat} {f : Int → Int → Int} {w : World} (h : Mp k c f w) (o : Obj) : Mp k c f (w.alloc o) := h.below ((Below.refl _ _).alloc (Nat.le_refl _) o)
theorem Mp.drew {k c : Nat} {f : Int → Int → Int} {w : World} (h : Mp k c f w) : Mp k c f w.drew := ⟨h.own, h.lies⟩
theorem Mp.new {k c : Nat} {f : Int → Int → Int} {w : World} (h : Mp k c f w) (q o : Nat) (hp : k ≠ q) (u : Value) : Mp k c f (w.setCell ⟨q, o, none⟩ u) :=
 h.same (Below.heap_setCell _ _ _ _ hp) (by rw [World.size_setCell]; exact Nat.le_refl _)
theorem Mp.off {k k' c : Nat} {f : Int → Int → Int} {w w' : World} (h : Mp k' c f w) (o : Off k w w') (hk : k' ≠ k) : Mp k' c f w' := h.same (o.block k' hk) (Nat.le_of_eq o.size.symm)
set_option maxRecDepth 100000 in
theorem Mp.look {k c : Nat} {f : Int → Int → Int} {w : World} (h : Mp k c f w) {n m : Int} (hn : I64 n) (hm : I64 m) : (Instr.lookup 219 (.map (some k)) (.agg #[.int .i64 n, .int .i64 m]) false).run Tryz.prog w = .ok (.int .i64 (f n m)) w := by
 obtain ⟨D, o, at_⟩ := h.own
 obtain ⟨c, hr, hat, _⟩ := o.lookup_int key_law Tryz.underlying219 Tryz.underlying2 (el_zero w) (key_at hn hm)
 rw [at_ n m hn hm] at hat
 injection hat with hat
 injection hat with _ hat
 rw [hr, hat]
set_option maxRecDepth 100000 in
theorem Mp.store {k c : Nat} {f : Int → Int → Int} {w : World} (h : Mp k c f w) (hc : c < 1000) {n m v : Int} (hn : I64 n) (hm : I64 m) (hv : I64 v) :
    ∃ w', (Instr.mapUpdate 219 (.map (some k)) (.agg #[.int .i64 n, .int .i64 m]) (.int .i64 v)).run Tryz.prog w = .ok () w' ∧ Mp k (c + 1) (putM f n m v) w' ∧ Kept k w w' := by
 obtain ⟨D, o, at_⟩ := h.own
 have hmap : IsMap D := by obtain ⟨_, _, _, _, _, rfl⟩ := o; exact ⟨_, rfl⟩
 obtain ⟨w', hr, o', g⟩ := o.update key_law Tryz.underlying219 (by unfold maxLen; omega) (key_at hn hm) (plainElem_int Tryz.underlying2 hv.wf)
 refine ⟨w', hr, ⟨⟨_, o', fun n' m' hn' hm' => ?_⟩, Nat.lt_of_lt_of_le h.lies g.size⟩, ⟨g.os, g.tape, g.output, g.size, fun i hi hb => g.block i hi (fun e => hb (Option.some.inj e))⟩⟩
 unfold putM
 by_cases e : n' = n ∧ m' = m
 ·rw [if_pos e, e.1, e.2, atKey_put_same hmap (kyl_key hn hm)]
 ·rw [if_neg e, atKey_put_other (fun h => e (kyl_inj hn' hm' hn hm h)), at_ n' m' hn' hm']
theorem Mp.made (w : World) (n : Nat) (hn : n = w.heap.size) : Mp n 0 (fun _ _ => 0) (w.alloc (.map #[] 0)) := by
 subst hn
 exact ⟨⟨_, World.ownsMap_made w _ _ _, fun _ _ _ _ => rfl⟩, by simp⟩
theorem mp_look {ops : Array Oper} {rest : List Oper} {op : Oper} {a : Act} {w : World} {Q : Exit → Act → World → Prop} {x y : Operand} {k c : Nat} {f : Int → Int → Int} {n m : Int} (hgd : op.guard = none) (ho : op.op = .lookup 219 x y false)
    (hx : a.eval x = .map (some k)) (hy : a.eval y = .agg #[.int .i64 n, .int .i64 m]) (M : Mp k c f w) (hn : I64 n) (hm : I64 m) (h : wpList Tryz.prog ops Q rest (a.put op.dst (.int .i64 (f n m))) w) : wpList Tryz.prog ops Q (op :: rest) a w := by
 refine wpList_plain hgd fun K' hK' => ?_
 unfold Oper.wp
 simp [execOp, ho, hx, hy, M.look hn hm, Result.andThen]
 exact hK' _ _ h
theorem mp_yield {ops : Array Oper} {S : World → Prop} {op : Oper} {a : Act} {x y : Operand} {k c : Nat} {f : Int → Int → Int} {n m : Int} (hw : Region.wanted op (yielded ops a.tmps) = true) (ho : op.op = .lookup 219 x y false)
    (hx : a.eval x = .map (some k)) (hy : a.eval y = .agg #[.int .i64 n, .int .i64 m]) (hS : ∀ w, S w → Mp k c f w) (hn : I64 n) (hm : I64 m) : YieldsIf Tryz.prog ops S op (.int .i64 (f n m)) a := by
 refine Or.inl ⟨hw, fun w h => ?_⟩
 simp [execOp, ho, hx, hy, (hS w h).look hn hm, Result.andThen]
theorem mp_put {ops : Array Oper} {op : Oper} {a : Act} {w : World} {K : Act → World → Prop} {Q : Exit → Act → World → Prop} {x y z : Operand} {k c : Nat} {f : Int → Int → Int} {n m v : Int} (hw : Region.wanted op (yielded ops a.tmps) = true)
    (ho : op.op = .mapUpdate 219 x y z) (hx : a.eval x = .map (some k)) (hy : a.eval y = .agg #[.int .i64 n, .int .i64 m]) (hz : a.eval z = .int .i64 v) (M : Mp k c f w) (hc : c < 1000) (hn : I64 n) (hm : I64 m) (hv : I64 v)
    (h : ∀ w', Mp k (c + 1) (putM f n m v) w' → Kept k w w' → K (a.put op.dst undef) w') : if Region.wanted op (yielded ops a.tmps) = true then Oper.wp Tryz.prog op a w K Q else K (a.put op.dst undef) w := by
 rw [if_pos hw]
 obtain ⟨w', hr, M', k'⟩ := M.store hc hn hm hv
 unfold Oper.wp
 simp [execOp, ho, hx, hy, hz, hr, Result.andThen]
 exact h w' M' k'
end Go.Proofs.YtbophanlmkbfeaaGreatDoor
namespace Go.Proofs.YtbophanlmkbfeaaGreatDoor
open Go.RowKit Go.Maps Go.WideMaps
structure KeptL (L : List Nat) (w w' : World) : Prop where
 os : w'.os = w.os
 tape : w'.tape = w.tape
 output : w'.output = w.output
 size : w.heap.size ≤ w'.heap.size
 block : ∀ k, k < w.heap.size → k ∉ L → w'.heap[k]? = w.heap[k]?
theorem KeptL.refl (L : List Nat) (w : World) : KeptL L w w := ⟨rfl, rfl, rfl, Nat.le_refl _, fun _ _ _ => rfl⟩
theorem KeptL.trans {L : List Nat} {x y z : World} (h : KeptL L x y) (k : KeptL L y z) : KeptL L x z :=
 ⟨k.os.trans h.os, k.tape.trans h.tape, k.output.trans h.output, Nat.le_trans h.size k.size, fun i hi hb => (k.block i (Nat.lt_of_lt_of_le hi h.size) hb).trans (h.block i hi hb)⟩
theorem KeptL.of {L : List Nat} {b : Nat} {w w' : World} (h : Kept b w w') (hb : b ∈ L) : KeptL L w w' := ⟨h.os, h.tape, h.output, h.size, fun k hk hn => h.block k hk (fun e => hn (e ▸ hb))⟩
theorem KeptL.on {L : List Nat} {b : Nat} {x w w' : World} (h : KeptL L x w) (k : Kept b w w') (hb : b ∈ L) : KeptL L x w' := h.trans (KeptL.of k hb)
theorem KeptL.low {L : List Nat} {x w w' : World} (h : KeptL L x w) (k : Below w.heap.size w w') : KeptL L x w' := h.trans ⟨k.os, k.tape, k.output, k.size, fun i hi _ => k.block i hi⟩
theorem KeptL.al {L : List Nat} {x w : World} (h : KeptL L x w) (o : Obj) : KeptL L x (w.alloc o) := h.low ((Below.refl _ _).alloc (Nat.le_refl _) o)
theorem KeptL.drew {L : List Nat} {x w : World} (h : KeptL L x w) : KeptL L x w.drew := ⟨h.os, h.tape, h.output, h.size, h.block⟩
theorem KeptL.new {L : List Nat} {x w : World} (h : KeptL L x w) (q o : Nat) (hp : x.heap.size ≤ q) (u : Value) : KeptL L x (w.setCell ⟨q, o, none⟩ u) :=
 ⟨h.os, h.tape, h.output, by rw [World.size_setCell]; exact h.size, fun k hk hb => (Below.heap_setCell _ _ _ _ (by show k ≠ q; omega)).trans (h.block k hk hb)⟩
theorem Kept.off_list {b : Nat} {L : List Nat} {x w w' : World} (K : Kept b x w) (h : KeptL L w w') (hL : ∀ k ∈ L, k = b ∨ x.heap.size ≤ k) : Kept b x w' :=
 ⟨h.os.trans K.os, h.tape.trans K.tape, h.output.trans K.output, Nat.le_trans K.size h.size, fun j hj hb => (h.block j (Nat.lt_of_lt_of_le hj K.size) (fun m => by rcases hL j m with e | e <;> omega)).trans (K.block j hj hb)⟩
theorem Arr.keptL {k : Nat} {L : List Nat} {l : List Value} {w w' : World} (h : Arr k l w) (hb : KeptL L w w') (hk : k ∉ L) : Arr k l w' := h.same (hb.block k h.lies hk) hb.size
theorem Mp.keptL {k c : Nat} {L : List Nat} {f : Int → Int → Int} {w w' : World} (h : Mp k c f w) (hb : KeptL L w w') (hk : k ∉ L) : Mp k c f w' := h.same (hb.block k h.lies hk) hb.size
def NearM (k : Nat) (f : Int → Int → Int) (n m : Int) (w : World) : Prop := ∃ c g, Mp k c g w ∧ ∀ a b, ¬ (a = n ∧ b = m) → g a b = f a b
theorem NearM.same {k c : Nat} {f : Int → Int → Int} {n m : Int} {w : World} (M : Mp k c f w) : NearM k f n m w := ⟨c, f, M, fun _ _ _ => rfl⟩
theorem NearM.upd {k c : Nat} {f : Int → Int → Int} {n m v : Int} {w : World} (M : Mp k c (putM f n m v) w) : NearM k f n m w := ⟨c, _, M, fun _ _ h => if_neg h⟩
theorem mp_yield_near {ops : Array Oper} {S : World → Prop} {op : Oper} {a : Act} {x y : Operand} {k : Nat} {f : Int → Int → Int} {n m n0 m0 : Int} (hw : Region.wanted op (yielded ops a.tmps) = true) (ho : op.op = .lookup 219 x y false)
    (hx : a.eval x = .map (some k)) (hy : a.eval y = .agg #[.int .i64 n, .int .i64 m]) (hS : ∀ w, S w → NearM k f n0 m0 w) (hn : I64 n) (hm : I64 m) (hne : ¬ (n = n0 ∧ m = m0)) : YieldsIf Tryz.prog ops S op (.int .i64 (f n m)) a := by
 refine Or.inl ⟨hw, fun w h => ?_⟩
 obtain ⟨c, g, M, e⟩ := hS w h
 simp [execOp, ho, hx, hy, M.look hn hm, Result.andThen, e n m hne]
end Go.Proofs.YtbophanlmkbfeaaGreatDoor
