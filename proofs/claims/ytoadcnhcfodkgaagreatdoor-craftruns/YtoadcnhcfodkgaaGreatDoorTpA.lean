/-
  Statements of the laws' each and light that the symbolic run doesn't take: records of a slice, crafts held against one another, a function that is handed in, for the seat YtoadcnhcfodkgaaGreatDoor. (Made by mktop.py, then bs by hand.)
-/
import Derived.Test.YtoadcnhcfodkgaaGreatDoorCwK
import Derived.Test.YtoadcnhcfodkgaaGreatDoorSxS
namespace Go.Proofs.YtoadcnhcfodkgaaGreatDoor
open Go.RowKit

/-- Records that came with the call. -/
structure Recs (w0 : World) (B : Nat) (ao : Option Addr) (n cap : Nat) (L : Nat → Int × ByteArray) (sl : Value) : Prop where
  rv : ∀ bl : Bl, bl[0]? = some (some B) → RV bl sl (.slice ao n cap)
  ok : ptrOk 1 sl = true
  lies : B < w0.heap.size
  idx : ∀ {i}, i < n → sl ≠ .nilIface
  at_ : ∀ i, i < n → ∃ o, ao = some ⟨B, o, none⟩ ∧ w0.cell? ⟨B, o + i * 2, none⟩ = some (.int .i64 (L i).1) ∧ w0.cell? ⟨B, o + i * 2 + 1, none⟩ = some (.string (L i).2)
theorem cell_old {w0 w : World} {B : Nat} (h : w.heap[B]? = w0.heap[B]?) (o : Nat) : w.cell? ⟨B, o, none⟩ = w0.cell? ⟨B, o, none⟩ := by
  unfold World.cell?
  rw [h]
theorem load_two {P : Program} {t : TypeId} {B o : Nat} {w : World} {x y : Value} (ha : qrun P (isAgg t) = some true) (hz : qrun P (sizeOf t) = some 2) (h0 : w.cell? ⟨B, o, none⟩ = some x) (h1 : w.cell? ⟨B, o + 1, none⟩ = some y) : (loadVar t ⟨B, o, none⟩).run P w = .ok (.agg #[x, y]) w := by
  have r1 := qrun_run _ ha w
  have r2 := qrun_run _ hz w
  unfold loadVar
  simp [Sem.run_bind, r1, r2, loadCells, loadCellsFrom, load, Sem.run, add_is, h0, h1]

/-- The records' slice, and its length. -/
def eSl (sP d0 d1 d2 d3 N : Nat) (ao : Option Addr) (n cap : Nat) (sl : Value) (K : List Value → Xm → Prop) (vt : List Value) (m : Xm) : Prop :=
  vt.getD sP undef = .pointer (some ⟨1, 0, none⟩) ∧ (∃ x, m[1]? = some [x, .slice ao n cap]) ∧ vt.length = N ∧ K ((((vt.set d0 .nilIface).set d1 sl).set d2 (.int .i64 (n : Nat))).set d3 (.int .i64 0)) m
theorem eSl_sound {bs : List Nat} {w0 : World} {ds : List Deferred} {bl0 : Bl} {K : List Value → Xm → Prop} {Q : Exit → Act → World → Prop} {bl : Bl} {vt : List Value} {m : Xm} {a : Act} {w : World} {B : Nat} {ao : Option Addr} {n cap : Nat} {L : Nat → Int × ByteArray} {sl : Value} {ops : Array Oper} {id : Nat} {o0 o1 o2 o3 : Oper} {tP tS tE : TypeId} {sP d0 d1 d2 d3 N : Nat} (n0 : d0 < N) (n1 : d1 < N) (n2 : d2 < N) (n3 : d3 < N) (hb0 : bl0[0]? = some (some B)) (hr : Recs w0 B ao n cap L sl) (hfl : fieldV Tryz.prog tP 1 = some 1) (hag : qrun Tryz.prog (isAgg tS) = some false) (hu : Tryz.prog.underlying tS = some (.slice tE)) (ho : ops = #[o0, o1, o2, o3])
    (h0 : o0.dst = some d0 ∧ o0.op = .fieldAddr tP (.tmp sP) 1 ∧ o0.guard = none) (h1 : o1.dst = some d1 ∧ o1.op = .load tS (.tmp d0) ∧ o1.guard = none) (h2 : o2.dst = some d2 ∧ o2.op = .call { callee := .builtin .len, args := #[.tmp d1], argTypes := #[tS] } ∧ o2.guard = none) (h3 : o3.dst = some d3 ∧ o3.op = .move (.const (.int .i64 0)) ∧ o3.guard = none)
    (h : eSl sP d0 d1 d2 d3 N ao n cap sl K vt m) (r : Rl bs w0 ds bl0 bl vt m a w) (hK : ∀ bl vt m a w, K vt m → Rl bs w0 ds bl0 bl vt m a w → Q .normal a w) : (Code.region id ops false).wp Tryz.prog Q a w := by
  subst ho
  have hlen := r.F.len
  obtain ⟨hp, ⟨x0, hm⟩, hlt, hk⟩ := h
  rw [hlt] at hlen
  have hp' := r.F.rv sP
  rw [hp] at hp'
  obtain ⟨C, hC, EsP⟩ := hp'
  have EsP : a.eval (.tmp sP) = .pointer (some ⟨C, 0, none⟩) := EsP
  obtain ⟨row, e0, A0⟩ := r.R.arr 1 C hC
  have e0 : m[1]? = some row := e0
  rw [hm] at e0
  cases e0
  have hld : loadV Tryz.prog tS [x0, .slice ao n cap] 1 = some (.slice ao n cap) := by unfold loadV; rw [hag]; rfl
  have rld := loadV_run hld A0
  have rfl1 := fieldV_run hfl C 0 w
  have hrv := hr.rv bl (r.le 0 B hb0)
  have r0 := run_under hu w
  have F := r.F
  have D := r.defers
  refine wp_region ?_
  refine ops_valS (v := .nilIface) (v' := (.pointer (some ⟨C, 1, none⟩))) (w' := w) rfl h0.1 (unguarded h0.2.2) (by simp [execOp, h0.2.1, EsP, rfl1]) F D hlen n0 (rfl) fun a F D hlen Ed0 X => ?_
  refine ops_valS (v := sl) (v' := (.slice ao n cap)) (w' := w) rfl h1.1 (unguarded h1.2.2) (by simp [execOp, h1.2.1, Ed0, Instr.loadAt, Instr.sureAddr, rld]) F D hlen n1 (hrv) fun a F D hlen Ed1 X => ?_
  refine ops_valS (v := .int .i64 (n : Nat)) (v' := (.int .i64 (n : Nat))) (w' := w) rfl h2.1 (unguarded h2.2.2) (by simp [execOp, h2.2.1, resolve, invoke, builtin, Ed1, Builtin.len_, r0, goInt]) F D hlen n2 (rfl) fun a F D hlen Ed2 X => ?_
  refine ops_valS (v := .int .i64 0) (v' := (.int .i64 0)) (w' := w) rfl h3.1 (unguarded h3.2.2) (by simp [execOp, h3.2.1, Act.eval]) F D hlen n3 (rfl) fun a F D hlen Ed3 X => ?_
  exact hK _ _ _ _ _ hk ⟨F, r.R, r.le, r.len, D⟩
/-- The record at a place. -/
def eRec (sS sI d0 d1 d2 kN N : Nat) (n : Nat) (L : Nat → Int × ByteArray) (sl : Value) (K : List Value → Xm → Prop) (vt : List Value) (m : Xm) : Prop :=
  match vt.getD sI undef with
  | .int .i64 i => (0 ≤ i ∧ i.toNat < n) ∧ vt.getD sS undef = sl ∧ m.length = kN ∧ vt.length = N ∧ K (((vt.set d0 .nilIface).set d1 .nilIface).set d2 (.pointer (some ⟨kN, 0, none⟩))) (m ++ [[.int .i64 (L i.toNat).1, .string (L i.toNat).2]])
  | _ => False
theorem eRec_sound {bs : List Nat} {w0 : World} {ds : List Deferred} {bl0 : Bl} {K : List Value → Xm → Prop} {Q : Exit → Act → World → Prop} {bl : Bl} {vt : List Value} {m : Xm} {a : Act} {w : World} {B : Nat} {ao : Option Addr} {n cap : Nat} {L : Nat → Int × ByteArray} {sl : Value} {ops : Array Oper} {id : Nat} {o0 o1 o2 o3 : Oper} {tS tR : TypeId} {sS sI d0 d1 d2 kN N : Nat} (n0 : d0 < N) (n1 : d1 < N) (n2 : d2 < N) (n3 : d2 ≠ d1) (hb0 : bl0[0]? = some (some B)) (hr : Recs w0 B ao n cap L sl) (hu : Tryz.prog.underlying tS = some (.slice tR)) (hz : qrun Tryz.prog (sizeOf tR) = some 2) (ha : qrun Tryz.prog (isAgg tR) = some true) {z : Value} (hzv : qrun Tryz.prog (zeroValue tR) = some z) (hzl : z.cells.toList.length = 2) (ho : ops = #[o0, o1, o2, o3])
    (h0 : o0.dst = some d0 ∧ o0.op = .indexAddr tS (.tmp sS) (.tmp sI) ∧ o0.guard = none) (h1 : o1.dst = some d1 ∧ o1.op = .load tR (.tmp d0) ∧ o1.guard = none) (h2 : o2.dst = some d2 ∧ o2.op = .alloc tR ∧ o2.guard = none) (h3 : o3.dst = none ∧ o3.op = .store tR (.tmp d2) (.tmp d1) ∧ o3.guard = none)
    (h : eRec sS sI d0 d1 d2 kN N n L sl K vt m) (r : Rl bs w0 ds bl0 bl vt m a w) (hK : ∀ bl vt m a w, K vt m → Rl bs w0 ds bl0 bl vt m a w → Q .normal a w) (hbs : B ∉ bs := by simp) : (Code.region id ops false).wp Tryz.prog Q a w := by
  subst ho
  have hlen := r.F.len
  unfold eRec at h
  split at h
  case h_2 => exact h.elim
  rename_i i hi
  obtain ⟨⟨hi0, hil⟩, hsl, hm5, hlt, hk⟩ := h
  rw [hlt] at hlen
  have hiv := r.F.rv sI
  rw [hi] at hiv
  have EsI : a.eval (.tmp sI) = .int .i64 i := hiv
  have hsv := r.F.rv sS
  rw [hsl] at hsv
  obtain ⟨o, rfl, c0, c1⟩ := hr.at_ i.toNat hil
  have EsS : a.eval (.tmp sS) = .slice (some ⟨B, o, none⟩) n cap := by
    have h1 := hr.rv bl (r.le 0 B hb0)
    match sl, h1, hsv with
    | .slice (some b) _ _, ⟨B1, hB1, e1⟩, ⟨B2, hB2, e2⟩ =>
      rw [hB1] at hB2
      cases hB2
      exact e2.trans e1.symm
    | .slice none _ _, h1, _ => cases h1
    | .nilIface, h1, _ => exact absurd (hr.idx hil) (by simp)
    | .pointer (some _), ⟨_, _, e1⟩, _ => cases e1
    | .pointer none, h1, _ => cases h1
    | .bool _, h1, _ => cases h1
    | .int _ _, h1, _ => cases h1
    | .float _ _, h1, _ => cases h1
    | .complex _ _ _, h1, _ => cases h1
    | .string _, h1, _ => cases h1
    | .map _, h1, _ => cases h1
    | .chan _, h1, _ => cases h1
    | .func _ _ _, h1, _ => cases h1
    | .nilFunc, h1, _ => cases h1
    | .iface _ _, h1, _ => cases h1
    | .agg _, h1, _ => cases h1
    | .tuple _, h1, _ => cases h1
  have hB : w.heap[B]? = w0.heap[B]? := r.R.block B hr.lies hbs
  rw [← cell_old hB] at c0 c1
  have rld := load_two (P := Tryz.prog) ha hz c0 c1
  have F := r.F
  have D := r.defers
  refine wp_region ?_
  have hil' : i < (n : Int) := by omega
  have r0 := run_under hu w
  have r1 := qrun_run _ hz w
  refine ops_valS (v := .nilIface) (v' := (.pointer (some ⟨B, o + i.toNat * 2, none⟩))) (w' := w) rfl h0.1 (unguarded h0.2.2) (by simp [execOp, h0.2.1, EsS, EsI, Instr.indexAt, asIntOf, r0, r1, hi0, hil', add_is, Sem.run_bind]) F D hlen n0 (rfl) fun a F D hlen Ed0 X => ?_
  refine ops_valS (v := .nilIface) (v' := (.agg #[.int .i64 (L i.toNat).1, .string (L i.toNat).2])) (w' := w) rfl h1.1 (unguarded h1.2.2) (by simp [execOp, h1.2.1, Ed0, Instr.loadAt, Instr.sureAddr, rld]) F D hlen n1 (rfl) fun a F D hlen Ed1 X => ?_
  have hw3 : (execOp a.eval o2).run Tryz.prog w = .ok (.value (.pointer (some ⟨w.heap.size, 0, none⟩))) (w.alloc (.cells z.cells.toList.toArray tR)) := by
    have r := qrun_run _ hzv w
    simp [execOp, h2.2.1, Instr.alloc, newVar, newRow, newObj, r, Sem.run]
  have hbl : bl.length = kN := r.len.trans hm5
  have WW := r.R.wide 1 [[.int .i64 (L i.toNat).1, .string (L i.toNat).2]]
  obtain ⟨N, hle⟩ := WW.new (k := kN) (by rw [List.getElem?_append_right (by omega), hbl, Nat.sub_self]; rfl) (by rw [List.length_append, hm5]; exact Nat.lt_succ_self kN) z.cells.toList tR
  have hg5 : ((bl ++ List.replicate 1 none).set kN (some w.heap.size))[kN]? = some (some w.heap.size) := List.getElem?_set_self (by rw [List.length_append, hbl]; exact Nat.lt_succ_self kN)
  have hm6 : ((m ++ [[Value.int .i64 (L i.toNat).1, Value.string (L i.toNat).2]]).set kN z.cells.toList)[kN]? = some z.cells.toList := List.getElem?_set_self (by rw [List.length_append, hm5]; exact Nat.lt_succ_self kN)
  obtain ⟨row, e5, A5⟩ := N.arr kN _ hg5
  rw [hm6] at e5
  cases e5
  have hst : storeV Tryz.prog tR z.cells.toList 0 (.agg #[.int .i64 (L i.toNat).1, .string (L i.toNat).2]) = some (setAt z.cells.toList 0 [.int .i64 (L i.toNat).1, .string (L i.toNat).2]) := by
    unfold storeV
    rw [hz]
    dsimp only
    rw [if_pos (by rw [hzl]; rfl)]
    rfl
  obtain ⟨r3, _, hl3⟩ := storeV_run hst A5
  have hL : Le bl ((bl ++ List.replicate 1 none).set kN (some w.heap.size)) := (Le.wide bl 1).trans hle
  have F := F.mono hL
  refine ops_valS (v := .pointer (some ⟨kN, 0, none⟩)) rfl h2.1 (unguarded h2.2.2) hw3 F D hlen n2 (RV.at hg5 0) fun a F D hlen Ed2 X => ?_
  have Ed1 := (X d1 n3).trans Ed1
  refine ops_skip (o := o3) (w' := wset (w.alloc (.cells z.cells.toList.toArray tR)) w.heap.size 0 [.int .i64 (L i.toNat).1, .string (L i.toNat).2]) rfl h3.2.2 ?_ ?_
  · simp [execOp, h3.2.1, Ed2, Ed1, Instr.storeAt, Instr.sureAddr, r3]
    rfl
  rw [h3.1]
  have hrow5 : setAt z.cells.toList 0 [.int .i64 (L i.toNat).1, .string (L i.toNat).2] = [.int .i64 (L i.toNat).1, .string (L i.toNat).2] := by
    match z.cells.toList, hzl with
    | [_, _], _ => rfl
  have R5 := N.store hg5 hm6 0 [.int .i64 (L i.toNat).1, .string (L i.toNat).2] hl3
  rw [hrow5] at R5
  have hmm : ((m ++ [[Value.int .i64 (L i.toNat).1, Value.string (L i.toNat).2]]).set kN z.cells.toList).set kN [Value.int .i64 (L i.toNat).1, Value.string (L i.toNat).2] = m ++ [[Value.int .i64 (L i.toNat).1, Value.string (L i.toNat).2]] := by
    rw [List.set_set, List.set_append_right _ _ (by omega), hm5, Nat.sub_self]
    rfl
  rw [hmm] at R5
  exact hK _ _ _ _ _ hk ⟨F, R5, r.le.trans hL, by rw [List.length_set, List.length_append, List.length_append, hbl, hm5]; rfl, by rw [put_defers]; exact D⟩
/-- A craft is not another than itself. -/
def eN (K : List Value → Xm → Prop) (vt : List Value) (m : Xm) : Prop :=
  vt.getD 9 undef = .pointer (some ⟨4, 0, none⟩) ∧ vt.getD 5 undef = .pointer (some ⟨2, 0, none⟩) ∧ vt.length = 60 ∧ (∃ c : Cra, m[4]? = some (dCra.enc c) ∧ m[2]? = some (dCra.enc c)) ∧ K (((vt.set 38 .nilIface).set 39 .nilIface).set 40 (.bool false)) m
theorem craft_self (c : Cra) (w : World) : (Op.equalIn 10000 42 (.agg (dCra.enc c).toArray) (.agg (dCra.enc c).toArray)).run Tryz.prog w = .ok true w := self_at 6 42 _ (by kernel_rfl) 9994 w
theorem craft_load (c : Cra) : loadV Tryz.prog 42 (dCra.enc c) 0 = some (.agg (dCra.enc c).toArray) := by kernel_rfl
theorem craft_plain : Tryz.prog.eqGuardType Tryz.prog.depth 42 = false := by kernel_rfl
theorem eN_sound {w0 : World} {ds : List Deferred} {bl0 : Bl} {K : List Value → Xm → Prop} {Q : Exit → Act → World → Prop} {bl : Bl} {vt : List Value} {m : Xm} {a : Act} {w : World} {ops : Array Oper} {id : Nat} {o0 o1 o2 : Oper} {tC : TypeId} (hC : tC = 42) (ho : ops = #[o0, o1, o2])
    (h0 : o0.dst = some 38 ∧ o0.op = .load tC (.tmp 9) ∧ o0.guard = none) (h1 : o1.dst = some 39 ∧ o1.op = .load tC (.tmp 5) ∧ o1.guard = none) (h2 : o2.dst = some 40 ∧ o2.op = .binOp .neq tC (.tmp 38) (.tmp 39) tC ∧ o2.guard = none)
    (h : eN K vt m) (r : Rl [] w0 ds bl0 bl vt m a w) (hK : ∀ bl vt m a w, K vt m → Rl [] w0 ds bl0 bl vt m a w → Q .normal a w) : (Code.region id ops false).wp Tryz.prog Q a w := by
  subst ho hC
  have hlen := r.F.len
  obtain ⟨h9, h5, hlt, ⟨c, hm4, hm2⟩, hk⟩ := h
  rw [hlt] at hlen
  have hp9 := r.F.rv 9
  rw [h9] at hp9
  obtain ⟨B9, hB9, E9⟩ := hp9
  have E9 : a.eval (.tmp 9) = .pointer (some ⟨B9, 0, none⟩) := E9
  have hp5 := r.F.rv 5
  rw [h5] at hp5
  obtain ⟨B5, hB5, E5⟩ := hp5
  have E5 : a.eval (.tmp 5) = .pointer (some ⟨B5, 0, none⟩) := E5
  obtain ⟨row, e4, A4⟩ := r.R.arr 4 B9 hB9
  have e4 : m[4]? = some row := e4
  rw [hm4] at e4
  cases e4
  obtain ⟨row, e2, A2⟩ := r.R.arr 2 B5 hB5
  have e2 : m[2]? = some row := e2
  rw [hm2] at e2
  cases e2
  have rl9 := loadV_run (craft_load c) A4
  have rl5 := loadV_run (craft_load c) A2
  have req := craft_self c w
  have hpl := craft_plain
  generalize (dCra.enc c).toArray = C at rl9 rl5 req
  have F := r.F
  have D := r.defers
  refine wp_region ?_
  refine ops_valS (v := .nilIface) (v' := (.agg C)) (w' := w) rfl h0.1 (unguarded h0.2.2) (by simp [execOp, h0.2.1, E9, Instr.loadAt, Instr.sureAddr, rl9]) F D hlen (by decide) (rfl) fun a F D hlen E38 X => ?_
  have E5 := (X 5 (by decide)).trans E5
  refine ops_valS (v := .nilIface) (v' := (.agg C)) (w' := w) rfl h1.1 (unguarded h1.2.2) (by simp [execOp, h1.2.1, E5, Instr.loadAt, Instr.sureAddr, rl5]) F D hlen (by decide) (rfl) fun a F D hlen E39 X => ?_
  have E38 := (X 38 (by decide)).trans E38
  refine ops_valS (v := .bool false) (v' := (.bool false)) (w' := w) rfl h2.1 (unguarded h2.2.2) (by simp [execOp, h2.2.1, E38, E39, eqGuard, hpl, run_neq_struct, req]) F D hlen (by decide) (rfl) fun a F D hlen E40 X => ?_
  exact hK _ _ _ _ _ hk ⟨F, r.R, r.le, r.len, D⟩
/-- What is held of a step. -/
def eH (f : Nat) (Held : Cra → Cra → Tel → ByteArray → Prop) (K : List Value → Xm → Prop) (vt : List Value) (m : Xm) : Prop :=
  vt.getD 12 undef = .bool true ∧ vt.getD 1 undef = .func (.func f) #[] #[] ∧ vt.getD 5 undef = .pointer (some ⟨2, 0, none⟩) ∧ vt.getD 9 undef = .pointer (some ⟨4, 0, none⟩) ∧ vt.getD 11 undef = .pointer (some ⟨5, 0, none⟩) ∧ vt.getD 8 undef = .pointer (some ⟨3, 0, none⟩) ∧ vt.length = 60 ∧
  ∃ (c d : Cra) (T : Tel) (x : Value) (b : ByteArray), (m[2]? = some (dCra.enc c) ∧ m[4]? = some (dCra.enc d) ∧ m[5]? = some (tEnc 13 T) ∧ m[3]? = some [x, .string b]) ∧ Held c d T b ∧
  K ((((((((((((vt.set 46 (.bool true)).set 47 (.bool false)).set 48 (.bool false)).set 49 .nilIface).set 50 .nilIface).set 51 .nilIface).set 52 .nilIface).set 53 .nilIface).set 54 .nilIface).set 55 (.bool true)).set 56 (.bool false)).set 57 (.bool false)) m
theorem tell_load (T : Tel) : loadV Tryz.prog 95 (tEnc 13 T) 0 = some (.agg (tEnc 13 T).toArray) := by kernel_rfl
def HeldOk (f : Nat) (Held : Cra → Cra → Tel → ByteArray → Prop) : Prop := ∀ c d T b, Held c d T b → ∀ w, GW w → Calls Tryz.prog f #[.agg (dCra.enc c).toArray, .agg (dCra.enc d).toArray, .agg (tEnc 13 T).toArray, .string b] w fun e w' => e = .returned (.bool true) ∧ Below w.heap.size w w'
set_option maxHeartbeats 1000000 in
theorem eH_sound {w0 : World} {ds : List Deferred} {bl0 : Bl} {K : List Value → Xm → Prop} {Q : Exit → Act → World → Prop} {bl : Bl} {vt : List Value} {m : Xm} {a : Act} {w : World} {f : Nat} {Held : Cra → Cra → Tel → ByteArray → Prop} {ops : Array Oper} {id : Nat} {o0 o1 o2 o3 o4 o5 o6 o7 o8 o9 o10 o11 : Oper} {tC tT tR tS tB : TypeId} (hC : tC = 42) (hT : tT = 95) (hfl : fieldV Tryz.prog tR 1 = some 1) (hag : qrun Tryz.prog (isAgg tS) = some false) (go : ∀ (args : Array Value) (w : World), (callFunc f args).run Tryz.prog w = .ok (.enter f args) w) (hc : HeldOk f Held) (ho : ops = #[o0, o1, o2, o3, o4, o5, o6, o7, o8, o9, o10, o11])
    (h0 : o0.dst = some 46 ∧ o0.op = .move (.tmp 12) ∧ o0.guard = none) (h1 : o1.dst = some 47 ∧ o1.op = .unOp .not tB (.tmp 46) ∧ o1.guard = none) (h2 : o2.dst = some 48 ∧ o2.op = .move (.tmp 47) ∧ o2.guard = none) (h3 : o3.dst = some 49 ∧ o3.op = .move (.tmp 1) ∧ o3.guard = some (2, false)) (h4 : o4.dst = some 50 ∧ o4.op = .load tC (.tmp 5) ∧ o4.guard = some (2, false)) (h5 : o5.dst = some 51 ∧ o5.op = .load tC (.tmp 9) ∧ o5.guard = some (2, false)) (h6 : o6.dst = some 52 ∧ o6.op = .load tT (.tmp 11) ∧ o6.guard = some (2, false)) (h7 : o7.dst = some 53 ∧ o7.op = .fieldAddr tR (.tmp 8) 1 ∧ o7.guard = some (2, false)) (h8 : o8.dst = some 54 ∧ o8.op = .load tS (.tmp 53) ∧ o8.guard = some (2, false)) (h9 : o9.dst = some 55 ∧ o9.op = .call { callee := .value (.tmp 49), args := #[.tmp 50, .tmp 51, .tmp 52, .tmp 54], argTypes := #[tC, tC, tT, tS] } ∧ o9.guard = some (2, false)) (h10 : o10.dst = some 56 ∧ o10.op = .unOp .not tB (.tmp 55) ∧ o10.guard = some (2, false)) (h11 : o11.dst = some 57 ∧ o11.op = .pick (.tmp 48) (.const (.bool true)) (.tmp 56) ∧ o11.guard = none)
    (h : eH f Held K vt m) (r : Rl [] w0 ds bl0 bl vt m a w) (hK : ∀ bl vt m a w, K vt m → Rl [] w0 ds bl0 bl vt m a w → Q .normal a w) : (Code.region id ops false).wp Tryz.prog Q a w := by
  subst ho hC hT
  have hlen := r.F.len
  obtain ⟨q12, q1, q5, q9, q11, q8, hlt, c, d, T, x, b, ⟨hm2, hm4, hm5, hm3⟩, hH, hk⟩ := h
  rw [hlt] at hlen
  have E12 : a.eval (.tmp 12) = .bool true := by
    have := r.F.rv 12
    rw [q12] at this
    exact this
  have E1 : a.eval (.tmp 1) = .func (.func f) #[] #[] := by
    have := r.F.rv 1
    rw [q1] at this
    exact this
  have hp5 := r.F.rv 5
  rw [q5] at hp5
  obtain ⟨B5, hB5, E5⟩ := hp5
  have E5 : a.eval (.tmp 5) = .pointer (some ⟨B5, 0, none⟩) := E5
  obtain ⟨row5, e5, A5⟩ := r.R.arr 2 B5 hB5
  have e5 : m[2]? = some row5 := e5
  rw [hm2] at e5
  cases e5
  have hp9 := r.F.rv 9
  rw [q9] at hp9
  obtain ⟨B9, hB9, E9⟩ := hp9
  have E9 : a.eval (.tmp 9) = .pointer (some ⟨B9, 0, none⟩) := E9
  obtain ⟨row9, e9, A9⟩ := r.R.arr 4 B9 hB9
  have e9 : m[4]? = some row9 := e9
  rw [hm4] at e9
  cases e9
  have hp11 := r.F.rv 11
  rw [q11] at hp11
  obtain ⟨B11, hB11, E11⟩ := hp11
  have E11 : a.eval (.tmp 11) = .pointer (some ⟨B11, 0, none⟩) := E11
  obtain ⟨row11, e11, A11⟩ := r.R.arr 5 B11 hB11
  have e11 : m[5]? = some row11 := e11
  rw [hm5] at e11
  cases e11
  have hp8 := r.F.rv 8
  rw [q8] at hp8
  obtain ⟨B8, hB8, E8⟩ := hp8
  have E8 : a.eval (.tmp 8) = .pointer (some ⟨B8, 0, none⟩) := E8
  obtain ⟨row8, e8, A8⟩ := r.R.arr 3 B8 hB8
  have e8 : m[3]? = some row8 := e8
  rw [hm3] at e8
  cases e8
  have rl5 := loadV_run (craft_load c) A5
  have rl9 := loadV_run (craft_load d) A9
  have rl11 := loadV_run (tell_load T) A11
  have hld : loadV Tryz.prog tS [x, .string b] 1 = some (.string b) := by unfold loadV; rw [hag]; rfl
  have rl8 := loadV_run hld A8
  have rfl1 := fieldV_run hfl B8 0 w
  have hcall := hc c d T b hH w r.R.gwAt
  generalize (dCra.enc c).toArray = C at rl5 hcall
  generalize (dCra.enc d).toArray = C' at rl9 hcall
  generalize (tEnc 13 T).toArray = T' at rl11 hcall
  have F := r.F
  have D := r.defers
  refine wp_region ?_
  refine ops_valS (v := .bool true) (v' := (.bool true)) (w' := w) rfl h0.1 (unguarded h0.2.2) (by simp [execOp, h0.2.1, E12]) F D hlen (by decide) (rfl) fun a F D hlen E46 X => ?_
  have E1 := (X 1 (by decide)).trans E1
  have E5 := (X 5 (by decide)).trans E5
  have E9 := (X 9 (by decide)).trans E9
  have E11 := (X 11 (by decide)).trans E11
  have E8 := (X 8 (by decide)).trans E8
  refine ops_valS (v := .bool false) (v' := (.bool false)) (w' := w) rfl h1.1 (unguarded h1.2.2) (by simp [execOp, h1.2.1, E46, Op.unary]) F D hlen (by decide) (rfl) fun a F D hlen E47 X => ?_
  have E1 := (X 1 (by decide)).trans E1
  have E5 := (X 5 (by decide)).trans E5
  have E9 := (X 9 (by decide)).trans E9
  have E11 := (X 11 (by decide)).trans E11
  have E8 := (X 8 (by decide)).trans E8
  refine ops_valS (v := .bool false) (v' := (.bool false)) (w' := w) rfl h2.1 (unguarded h2.2.2) (by simp [execOp, h2.2.1, E47]) F D hlen (by decide) (rfl) fun a F D hlen E48 X => ?_
  have E1 := (X 1 (by decide)).trans E1
  have E5 := (X 5 (by decide)).trans E5
  have E9 := (X 9 (by decide)).trans E9
  have E11 := (X 11 (by decide)).trans E11
  have E8 := (X 8 (by decide)).trans E8
  refine ops_valS (v := .nilIface) (v' := (.func (.func f) #[] #[])) (w' := w) rfl h3.1 (wanted_by h3.2.2 (show _ = some o2 from rfl) h2.1 E48) (by simp [execOp, h3.2.1, E1]) F D hlen (by decide) (rfl) fun a F D hlen E49 X => ?_
  have E5 := (X 5 (by decide)).trans E5
  have E9 := (X 9 (by decide)).trans E9
  have E11 := (X 11 (by decide)).trans E11
  have E8 := (X 8 (by decide)).trans E8
  have E48 := (X 48 (by decide)).trans E48
  refine ops_valS (v := .nilIface) (v' := (.agg C)) (w' := w) rfl h4.1 (wanted_by h4.2.2 (show _ = some o2 from rfl) h2.1 E48) (by simp [execOp, h4.2.1, E5, Instr.loadAt, Instr.sureAddr, rl5]) F D hlen (by decide) (rfl) fun a F D hlen E50 X => ?_
  have E9 := (X 9 (by decide)).trans E9
  have E11 := (X 11 (by decide)).trans E11
  have E8 := (X 8 (by decide)).trans E8
  have E48 := (X 48 (by decide)).trans E48
  have E49 := (X 49 (by decide)).trans E49
  refine ops_valS (v := .nilIface) (v' := (.agg C')) (w' := w) rfl h5.1 (wanted_by h5.2.2 (show _ = some o2 from rfl) h2.1 E48) (by simp [execOp, h5.2.1, E9, Instr.loadAt, Instr.sureAddr, rl9]) F D hlen (by decide) (rfl) fun a F D hlen E51 X => ?_
  have E11 := (X 11 (by decide)).trans E11
  have E8 := (X 8 (by decide)).trans E8
  have E48 := (X 48 (by decide)).trans E48
  have E49 := (X 49 (by decide)).trans E49
  have E50 := (X 50 (by decide)).trans E50
  refine ops_valS (v := .nilIface) (v' := (.agg T')) (w' := w) rfl h6.1 (wanted_by h6.2.2 (show _ = some o2 from rfl) h2.1 E48) (by simp [execOp, h6.2.1, E11, Instr.loadAt, Instr.sureAddr, rl11]) F D hlen (by decide) (rfl) fun a F D hlen E52 X => ?_
  have E8 := (X 8 (by decide)).trans E8
  have E48 := (X 48 (by decide)).trans E48
  have E49 := (X 49 (by decide)).trans E49
  have E50 := (X 50 (by decide)).trans E50
  have E51 := (X 51 (by decide)).trans E51
  refine ops_valS (v := .nilIface) (v' := (.pointer (some ⟨B8, 1, none⟩))) (w' := w) rfl h7.1 (wanted_by h7.2.2 (show _ = some o2 from rfl) h2.1 E48) (by simp [execOp, h7.2.1, E8, rfl1]) F D hlen (by decide) (rfl) fun a F D hlen E53 X => ?_
  have E48 := (X 48 (by decide)).trans E48
  have E49 := (X 49 (by decide)).trans E49
  have E50 := (X 50 (by decide)).trans E50
  have E51 := (X 51 (by decide)).trans E51
  have E52 := (X 52 (by decide)).trans E52
  refine ops_valS (v := .nilIface) (v' := (.string b)) (w' := w) rfl h8.1 (wanted_by h8.2.2 (show _ = some o2 from rfl) h2.1 E48) (by simp [execOp, h8.2.1, E53, Instr.loadAt, Instr.sureAddr, rl8]) F D hlen (by decide) (rfl) fun a F D hlen E54 X => ?_
  have E48 := (X 48 (by decide)).trans E48
  have E49 := (X 49 (by decide)).trans E49
  have E50 := (X 50 (by decide)).trans E50
  have E51 := (X 51 (by decide)).trans E51
  have E52 := (X 52 (by decide)).trans E52
  refine ops_callG (o := o9) (f := f) (args := #[.agg C, .agg C', .agg T', .string b]) rfl (wanted_by h9.2.2 (show _ = some o2 from rfl) h2.1 E48) ?_ hcall ?_
  · have := go #[.agg C, .agg C', .agg T', .string b] w
    simp [execOp, h9.2.1, resolve, E49, E50, E51, E52, E54, Deferred.ofValue, invoke, this]
  rintro e w' ⟨rfl, hbel⟩
  refine ⟨_, rfl, ?_⟩
  have R' := r.R.pure hbel
  rw [h9.1]
  have F := F.put (v := .bool true) (v' := .bool true) rfl (some 55)
  have D := (put_defers a (some 55) (.bool true)).trans D
  have E55 : (a.put (some 55) (.bool true)).eval (.tmp 55) = .bool true := put_get (by rw [hlen]; decide)
  have E48 := (put_other (a := a) (d := 55) (v := .bool true) (by decide)).trans E48
  have hlen := (put_size (a := a) (d := some 55) (v := .bool true)).trans hlen
  generalize a.put (some 55) (.bool true) = a at F D E55 E48 hlen ⊢
  refine ops_valS (v := .bool false) (v' := (.bool false)) (w' := w') rfl h10.1 (wanted_by h10.2.2 (show _ = some o2 from rfl) h2.1 E48) (by simp [execOp, h10.2.1, E55, Op.unary]) F D hlen (by decide) (rfl) fun a F D hlen E56 X => ?_
  have E48 := (X 48 (by decide)).trans E48
  refine ops_valS (v := .bool false) (v' := (.bool false)) (w' := w') rfl h11.1 (unguarded h11.2.2) (by simp [execOp, h11.2.1, E48, E56, asBool]) F D hlen (by decide) (rfl) fun a F D hlen E57 X => ?_
  exact hK _ _ _ _ _ hk ⟨F, R', r.le, r.len, D⟩
end Go.Proofs.YtoadcnhcfodkgaaGreatDoor
