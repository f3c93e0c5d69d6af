/-
A part.
A part.
-/
import Derived.Test.YtbophanlmkbfeaaGreatDoorHE03
namespace Go.Proofs.YtbophanlmkbfeaaGreatDoor
open Go.RowKit
def ptrs (l : List Value) : List Nat := l.filterMap fun v => match v with
 | .pointer (some a) => some a.block
 | _ => none
structure Ct (P : Program) where
 fn : Nat
 sp : List Value → Xm → (Value → Xm → Prop) → Prop
 go : ∀ (args : Array Value) (w : World), (callFunc fn args).run P w = .ok (.enter fn args) w
 mono : ∀ {args : List Value} {m : Xm} {K K' : Value → Xm → Prop}, (∀ v m', K v m' → K' v m') → sp args m K → sp args m K'
 keep : ∀ {args : List Value} {m : Xm} {K : Value → Xm → Prop}, sp args m K → sp args m (fun v m' => K v m' ∧ m'.length = m.length ∧ ∀ k, k ∉ ptrs args → m'[k]? = m[k]?)
 ok : ∀ {bs : List Nat} {w0 : World} {bl : Bl} {m : Xm} {w : World} {args : List Value} {args' : Array Value} {K : Value → Xm → Prop}, RW bs w0 bl m w → args'.size = args.length →
  (∀ i, RV bl (args.getD i undef) (args'.getD i undef)) → sp args m K → Calls P fn args' w fun e w' => ∃ v v' m', e = .returned v' ∧ RV bl v v' ∧ K v m' ∧ RW bs w0 bl m' w'
def va (P : Program) (tbl : List (Ct P)) (id : Nat) (o : Oper) (ρ : Operand → Value) (m : Xm) (K : Value → Xm → Prop) : Prop :=
 match o.op.operands.all okX, o.op with
 | true, .store t x y =>
  match ρ x with
  | .pointer (some ⟨k, off, none⟩) => (match m[k]? with
   | some l => (match isP (ρ y), storeV P t l off (ρ y) with
    | false, some l' => K undef (m.set k l')
    | _, _ => False)
   | none => False)
  | _ => False
 | true, .box _ x => (match isP (ρ x), (ρ x).cells.toList.all cellOk with
     | false, true => K (.pointer (some ⟨id, 0, none⟩)) (m.set id (ρ x).cells.toList)
     | _, _ => False)
 | true, .load _ _ =>
  match vq P (fun _ => true) id o ρ m with
  | some v => K v m
  | none => False
 | true, .call c =>
  match c.callee with
  | .value (.func n) => (match tbl.find? (fun ct => ct.fn == n) with
   | some ct => ct.sp (c.args.toList.map ρ) m K
   | none => False)
  | _ => False
 | _, _ => False
def vw (id : Nat) (o : Oper) (ρ : Operand → Value) : List Nat :=
 match o.op with
 | .store _ x _ => ptrs [ρ x]
 | .box _ _ => [id]
 | .call c => ptrs (c.args.toList.map ρ)
 | _ => []
def isNew (o : Oper) : Bool :=
 match o.op with
 | .alloc _ => true
 | .box _ _ => true
 | _ => false
def Nw (rs : Xm) (bl : Bl) (m : Xm) : Prop := ∀ k : Nat, bl[k]? = some none → m[k]? = rs[k]?
def NewOk (P : Program) (rs : Xm) (id : Nat) (o : Oper) (bl : Bl) : Prop :=
 isNew o = true → bl[id]? = some none ∧ ∃ l, rs[id]? = some l ∧ ∀ t, o.op = .alloc t → ∃ z, qrun P (zeroValue t) = some z ∧ l = z.cells.toList
def Behind (bs : List Nat) (w0 : World) (rs : Xm) (bl : Bl) (m : Xm) (vt : List Value) (a : Act) (id : Nat) (o : Oper) (K : Value → Xm → Prop) (a' : Act) (w' : World) : Prop :=
 ∃ bl' v m', bl'.length = bl.length ∧ m'.length = m.length ∧ Le bl bl' ∧ (∀ k : Nat, k ≠ id → bl'[k]? = bl[k]?) ∧ (isNew o = false → bl' = bl) ∧ a'.defers = a.defers ∧ FR bl' (vput vt o.dst v) a'.tmps ∧ RW bs w0 bl' m' w' ∧ Nw rs bl' m' ∧ K v m'
theorem RV.at {bl : Bl} {k B : Nat} (h : bl[k]? = some (some B)) (o : Nat) : RV bl (.pointer (some ⟨k, o, none⟩)) (.pointer (some ⟨B, o, none⟩)) := ⟨B, h, rfl⟩
theorem put_defers (a : Act) (d : Option Tmp) (v : Value) : (a.put d v).defers = a.defers := by cases d <;> rfl
section
variable {P : Program} {tbl : List (Ct P)} {bs : List Nat} {w0 : World} {rs : Xm} {bl : Bl} {vt : List Value} {m : Xm} {a : Act} {w : World} {id : Nat} {o : Oper} {Q : Exit → Act → World → Prop}
theorem new_run {l : List Value} (F : FR bl vt a.tmps) (R : RW bs w0 bl m w) (N : Nw rs bl m) (hid : bl[id]? = some none) (hm : id < m.length) (hn : isNew o = true) (t : TypeId) {K : Value → Xm → Prop}
    (h : K (.pointer (some ⟨id, 0, none⟩)) (m.set id l)) : Behind bs w0 rs bl m vt a id o K (a.put o.dst (.pointer (some ⟨w.heap.size, 0, none⟩))) (w.alloc (.cells l.toArray t)) := by
 obtain ⟨R', hle⟩ := R.new hid hm l t
 have hbl : id < bl.length := (List.getElem?_eq_some_iff.1 hid).1
 refine ⟨bl.set id (some w.heap.size), .pointer (some ⟨id, 0, none⟩), m.set id l, List.length_set .., List.length_set .., hle, fun k hk => List.getElem?_set_ne (fun e => hk e.symm), (fun e => by rw [hn] at e; cases e), put_defers _ _ _, (F.mono hle).put (RV.at (List.getElem?_set_self hbl) 0) _, R', fun k hk => ?_, h⟩
 by_cases e : id = k
 ·subst e
  rw [List.getElem?_set_self hbl] at hk
  cases hk
 ·rw [List.getElem?_set_ne e] at hk
  rw [List.getElem?_set_ne e]
  exact N k hk
theorem vq_wp {cl : Nat → Bool} {v : Value} {K : Value → Xm → Prop} (h : vq P cl id o (VE vt) m = some v) (F : FR bl vt a.tmps) (R : RW bs w0 bl m w) (N : Nw rs bl m) (hnew : NewOk P rs id o bl) (hK : K v m) :
    o.wp P a w (Behind bs w0 rs bl m vt a id o K) Q := by
 by_cases hal : ∃ t, o.op = .alloc t
 ·obtain ⟨t, ht⟩ := hal
  have hn : isNew o = true := by unfold isNew; rw [ht]
  obtain ⟨hid, l, hl, hz0⟩ := hnew hn
  obtain ⟨z, hz, rfl⟩ := hz0 t ht
  have hv : v = .pointer (some ⟨id, 0, none⟩) := by
   unfold vq at h
   rw [ht] at h
   simp [Op.operands] at h
   exact h.symm
  have hm : m[id]? = some z.cells.toList := (N id hid).trans hl
  have hml : id < m.length := (List.getElem?_eq_some_iff.1 hm).1
  have hself : m.set id z.cells.toList = m := by
   have := (List.getElem?_eq_some_iff.1 hm).2
   rw [← this]
   exact List.set_getElem_self hml
  have hr : (execOp a.eval o).run P w = .ok (.value (.pointer (some ⟨w.heap.size, 0, none⟩))) (w.alloc (.cells z.cells.toList.toArray t)) := by
   have r := qrun_run _ hz w
   simp [execOp, ht, Instr.alloc, newVar, newRow, newObj, r, Sem.run]
  unfold Oper.wp
  rw [hr]
  exact new_run F R N hid hml hn t (by rw [hself, ← hv]; exact hK)
 ·obtain ⟨v', hv, hr⟩ := vq_run h (fun t ht => hal ⟨t, ht⟩) F R
  unfold Oper.wp
  rw [hr]
  exact ⟨bl, v, m, rfl, rfl, .refl _, fun _ _ => rfl, fun _ => rfl, put_defers _ _ _, F.put hv _, R, N, hK⟩
theorem va_wp {K : Value → Xm → Prop} (h : va P tbl id o (VE vt) m K) (F : FR bl vt a.tmps) (R : RW bs w0 bl m w) (N : Nw rs bl m) (hnew : NewOk P rs id o bl) :
    o.wp P a w (Behind bs w0 rs bl m vt a id o K) Q := by
 unfold va at h
 split at h
 ·rename_i t x y hok hop
  have hev : ∀ x ∈ o.op.operands, RV bl (VE vt x) (a.eval x) := fun x hx => F.eval (Array.all_eq_true_iff_forall_mem.1 hok x hx)
  have h1 := hev x (by simp [hop, Op.operands])
  have h2 := hev y (by simp [hop, Op.operands])
  split at h
  ·rename_i k off hx
   rw [hx] at h1
   obtain ⟨B, hB, he⟩ := h1
   have he : a.eval x = .pointer (some ⟨B, off, none⟩) := he
   split at h
   ·rename_i l hl
    split at h
    ·rename_i l' hp hst
     rw [h2.plain hp |>.symm] at hst
     obtain ⟨l2, e2, A⟩ := R.arr k B hB
     rw [hl] at e2
     cases e2
     obtain ⟨r, rfl, hlen⟩ := storeV_run hst A
     have hr : (execOp a.eval o).run P w = .ok .skip (wset w B off (a.eval y).cells.toList) := by
      simp [execOp, hop, he, Instr.storeAt, Instr.sureAddr, r]
     unfold Oper.wp
     rw [hr]
     refine ⟨bl, undef, _, rfl, List.length_set .., .refl _, fun _ _ => rfl, fun _ => rfl, put_defers _ _ _, F.put (.same rfl) _, R.store hB hl off _ hlen, fun k' hk' => ?_, h⟩
     have e : k ≠ k' := by rintro rfl; rw [hB] at hk'; cases hk'
     rw [List.getElem?_set_ne e]
     exact N k' hk'
    ·exact h.elim
   ·exact h.elim
  ·exact h.elim
 ·rename_i t x hok hop
  have h1 := F.eval (Array.all_eq_true_iff_forall_mem.1 hok x (by simp [hop, Op.operands]))
  split at h
  ·rename_i hp hc
   have hx : a.eval x = VE vt x := h1.plain hp
   have hn : isNew o = true := by unfold isNew; rw [hop]
   obtain ⟨hid, l, hl, _⟩ := hnew hn
   have hm : m[id]? = some l := (N id hid).trans hl
   have hml : id < m.length := (List.getElem?_eq_some_iff.1 hm).1
   have hr : (execOp a.eval o).run P w = .ok (.value (.pointer (some ⟨w.heap.size, 0, none⟩))) (w.alloc (.cells (VE vt x).cells.toList.toArray t)) := by
    simp [execOp, hop, Instr.box, newVar, newRow, newObj, Sem.run, hx]
   unfold Oper.wp
   rw [hr]
   exact new_run F R N hid hml hn t h
  ·exact h.elim
 ·split at h
  ·rename_i v hv
   exact vq_wp hv F R N hnew h
  ·exact h.elim
 ·rename_i c hok hop
  split at h
  ·rename_i n hcal
   split at h
   ·rename_i ct hct
    have hfn : ct.fn = n := by simpa using List.find?_some hct
    subst hfn
    have hr : (execOp a.eval o).run P w = .ok (.enter ct.fn (c.args.map a.eval)) w := by
     have := ct.go (c.args.map a.eval) w
     simp [execOp, hop, resolve, hcal, Act.eval, Deferred.ofValue, invoke, this]
    unfold Oper.wp
    rw [hr]
    have harg : ∀ i, RV bl ((c.args.toList.map (VE vt)).getD i undef) ((c.args.map a.eval).getD i undef) := by
     intro i
     by_cases hi : i < c.args.size
     ·have hx : c.args[i] ∈ o.op.operands := by
       simp only [hop, Op.operands, Call.operands]
       exact Array.mem_append_right _ (Array.getElem_mem hi)
      have := F.eval (Array.all_eq_true_iff_forall_mem.1 hok _ hx)
      simpa [List.getD_eq_getElem?_getD, hi] using this
     ·simp only [List.getD_eq_getElem?_getD, Array.getD_eq_getD_getElem?]
      rw [List.getElem?_eq_none (by simp; omega), Array.getElem?_eq_none (by simp; omega)]
      rfl
    refine Calls.mono (ct.ok R (by simp) harg (ct.keep h)) ?_
    rintro e w' ⟨v, v', m', rfl, hv, ⟨hK, hlen, hkeep⟩, R'⟩
    refine ⟨bl, v, m', rfl, hlen, .refl _, fun _ _ => rfl, fun _ => rfl, put_defers _ _ _, F.put hv _, R', fun k hk => ?_, hK⟩
    rw [hkeep k ?_]
    ·exact N k hk
    ·intro hmem
     unfold ptrs at hmem
     obtain ⟨u, hu, hk2⟩ := List.mem_filterMap.1 hmem
     obtain ⟨i, hi, rfl⟩ := List.mem_iff_getElem.1 hu
     have hrv := harg i
     rw [List.getD_eq_getElem?_getD, List.getElem?_eq_getElem hi] at hrv
     split at hk2
     ·rename_i b hb
      cases hk2
      simp only [Option.getD_some] at hrv
      rw [hb] at hrv
      obtain ⟨B, hB, _⟩ := hrv
      rw [hB] at hk
      cases hk
     ·cases hk2
   ·exact h.elim
  ·exact h.elim
 ·exact h.elim
end
end Go.Proofs.YtbophanlmkbfeaaGreatDoor
namespace Go.Proofs.YtbophanlmkbfeaaGreatDoor
open Go.RowKit
def yieldedV (ops : Array Oper) (vt : List Value) (j : Nat) : Option Bool :=
 match (ops[j]?).bind (·.dst) with
 | some d => asB (vt.getD d undef)
 | none => none
theorem RV.asB {bl : Bl} {v v' : Value} (h : RV bl v v') : asB v' = asB v := by
 cases hp : isP v
 ·rw [h.plain hp]
 ·match v, h, hp with
  | .pointer (some a), ⟨B, _, h2⟩, _ => rw [h2]; rfl
  | .nilIface, h, _ => exact h
  | .slice (some a) _ _, ⟨B, _, h2⟩, _ => rw [h2]; rfl
theorem yielded_eq {bl : Bl} {vt : List Value} {tm : Array Value} (F : FR bl vt tm) (ops : Array Oper) (j : Nat) : yielded ops tm j = yieldedV ops vt j := by
 unfold yielded yieldedV
 cases h : (ops[j]?).bind (·.dst) with
 | none => rfl
 | some d =>
  have hr := (F.rv d).asB
  dsimp only
  rw [← hr]
  simp only [Option.bind_some, Array.getD_eq_getD_getElem?]
  cases h2 : tm[d]? with
  | none => rfl
  | some u => cases u <;> rfl
theorem wanted_eq {bl : Bl} {vt : List Value} {tm : Array Value} (F : FR bl vt tm) (ops : Array Oper) (o : Oper) : Region.wanted o (yielded ops tm) = Region.wanted o (yieldedV ops vt) := by
 rw [funext (yielded_eq F ops)]
def nid (base : Nat) (ops : Array Oper) (i : Nat) : Nat := base + ((ops.toList.take i).filter isNew).length
theorem nid_lt {base : Nat} {ops : Array Oper} {i j : Nat} {oi : Oper} (hi : ops[i]? = some oi) (hn : isNew oi = true) (h : i < j) : nid base ops i < nid base ops j := by
 unfold nid
 have hl : ops.toList[i]? = some oi := by simpa using hi
 obtain ⟨hlt, he⟩ := List.getElem?_eq_some_iff.1 hl
 have h1 : (ops.toList.take (i + 1)).filter isNew = (ops.toList.take i).filter isNew ++ [oi] := by
  rw [List.take_succ_eq_append_getElem hlt, List.filter_append, he]
  simp [hn]
 have h2 : ((ops.toList.take (i + 1)).filter isNew).Sublist ((ops.toList.take j).filter isNew) := ((List.take_prefix_take_left (l := ops.toList) (show i + 1 ≤ j by omega)).sublist).filter _
 have := h2.length_le
 rw [h1, List.length_append] at this
 simp at this
 omega
theorem nid_inj {base : Nat} {ops : Array Oper} {i j : Nat} {oi oj : Oper} (hi : ops[i]? = some oi) (hj : ops[j]? = some oj) (ni : isNew oi = true) (nj : isNew oj = true) (h : nid base ops i = nid base ops j) : i = j := by
 rcases Nat.lt_trichotomy i j with h1 | h1 | h1
 ·have := nid_lt (base := base) hi ni h1; omega
 ·exact h1
 ·have := nid_lt (base := base) hj nj h1; omega
def Fresh (P : Program) (rs : Xm) (ops : Array Oper) (ids : Nat → Nat) (bl : Bl) (i : Nat) : Prop := ∀ o, ops[i]? = some o → NewOk P rs (ids i) o bl
theorem Fresh.next {P : Program} {rs : Xm} {ops : Array Oper} {base : Nat} {bl bl' : Bl} {i j : Nat} {o : Oper} (h : Fresh P rs ops (nid base ops) bl j) (hi : ops[i]? = some o) (hij : i ≠ j)
    (h1 : ∀ k : Nat, k ≠ nid base ops i → bl'[k]? = bl[k]?) (h2 : isNew o = false → bl' = bl) : Fresh P rs ops (nid base ops) bl' j := by
 intro oj hj hn
 have := h oj hj hn
 refine ⟨?_, this.2⟩
 cases ho : isNew o with
 | false => rw [h2 ho]; exact this.1
 | true =>
  rw [h1 _ (fun e => hij (nid_inj (base := base) hi hj ho hn e.symm))]
  exact this.1
def vif (x : Bool) (A B : Prop) : Prop :=
 match x with
 | true => A
 | false => B
theorem vif_if {c : Prop} [Decidable c] {α : Type} {K : α → Prop} {A B : α} : vif (decide c) (K A) (K B) = K (if c then A else B) := by
 by_cases h : c
 ·rw [decide_eq_true h, if_pos h]; rfl
 ·rw [decide_eq_false h, if_neg h]; rfl
theorem vif_b {b : Bool} {α : Type} {K : α → Prop} {A B : α} : vif b (K A) (K B) = K (if b then A else B) := by cases b <;> rfl
theorem vif_lt {a b : Int} {α : Type} {K : α → Prop} {A B : α} : vif (decide (a < b)) (K A) (K B) = K (if a < b then A else B) := vif_if
theorem vif_le {a b : Int} {α : Type} {K : α → Prop} {A B : α} : vif (decide (a ≤ b)) (K A) (K B) = K (if a ≤ b then A else B) := vif_if
theorem vif_gt {a b : Int} {α : Type} {K : α → Prop} {A B : α} : vif (decide (a > b)) (K A) (K B) = K (if a > b then A else B) := vif_if
theorem vif_eq {a b : Int} {α : Type} {K : α → Prop} {A B : α} : vif (decide (a = b)) (K A) (K B) = K (if a = b then A else B) := vif_if
theorem vif_ne {a b : Int} {α : Type} {K : α → Prop} {A B : α} : vif (!decide (a = b)) (K B) (K A) = K (if a = b then A else B) := by
 by_cases h : a = b
 ·rw [decide_eq_true h, if_pos h]; rfl
 ·rw [decide_eq_false h, if_neg h]; rfl
theorem vif_bn {b : Bool} {α : Type} {K : α → Prop} {A B : α} : vif (!b) (K B) (K A) = K (if b then A else B) := by cases b <;> rfl
def vop (P : Program) (tbl : List (Ct P)) (id : Nat) (o : Oper) (vt : List Value) (m : Xm) (K : List Value → Xm → Prop) : Prop :=
 match vq P (fun _ => true) id o (VE vt) m with
 | some v => K (vput vt o.dst v) m
 | none => va P tbl id o (VE vt) m (fun v m' => K (vput vt o.dst v) m')
def vseq (P : Program) (tbl : List (Ct P)) (ops : Array Oper) (ids : Nat → Nat) (K : List Value → Xm → Prop) : List Nat → List Value → Xm → Prop
 | [], vt, m => K vt m
 | i :: rest, vt, m =>
  match ops[i]? with
  | none => vseq P tbl ops ids K rest vt m
  | some o =>
   match o.guard with
   | none => vop P tbl (ids i) o vt m (vseq P tbl ops ids K rest)
   | some (g, want) =>
    match (ops[g]?).bind (·.dst) with
    | none => False
    | some d =>
     match vt.getD d undef with
     | .bool x => vif x
         (match want with
           | true => vop P tbl (ids i) o (vt.set d (.bool true)) m (vseq P tbl ops ids K rest)
           | false => vseq P tbl ops ids K rest (vput (vt.set d (.bool true)) o.dst undef) m)
         (match want with
           | true => vseq P tbl ops ids K rest (vput (vt.set d (.bool false)) o.dst undef) m
           | false => vop P tbl (ids i) o (vt.set d (.bool false)) m (vseq P tbl ops ids K rest))
     | .tuple _ => vseq P tbl ops ids K rest (vput vt o.dst undef) m
     | _ => False
section
variable {P : Program} {tbl : List (Ct P)} {bs : List Nat} {w0 : World} {rs : Xm} {Q : Exit → Act → World → Prop} {ops : Array Oper} {base : Nat} {K : List Value → Xm → Prop} {ds : List Deferred} {ln : Nat} {bl0 : Bl}
theorem vop_wp {bl : Bl} {vt : List Value} {m : Xm} {a : Act} {w : World} {id : Nat} {o : Oper} {K : List Value → Xm → Prop} (h : vop P tbl id o vt m K) (F : FR bl vt a.tmps) (R : RW bs w0 bl m w) (N : Nw rs bl m) (hnew : NewOk P rs id o bl) :
    o.wp P a w (Behind bs w0 rs bl m vt a id o (fun v m' => K (vput vt o.dst v) m')) Q := by
 unfold vop at h
 split at h
 ·rename_i v hv
  exact vq_wp hv F R N hnew h
 ·exact va_wp h F R N hnew
theorem FR.setSame {bl : Bl} {vt : List Value} {tm : Array Value} (h : FR bl vt tm) {d : Nat} {v : Value} (hd : vt.getD d undef = v) : FR bl (vt.set d v) tm := by
 refine ⟨by rw [List.length_set]; exact h.len, fun t => ?_⟩
 by_cases e : d = t
 ·subst e
  have h1 := h.rv d
  by_cases hl : d < vt.length
  ·rw [hd] at h1
   rw [List.getD_eq_getElem?_getD, List.getElem?_set_self hl]
   exact h1
  ·rw [List.getD_eq_getElem?_getD, List.getElem?_eq_none (by omega)] at h1
   rw [List.getD_eq_getElem?_getD, List.getElem?_eq_none (by rw [List.length_set]; omega)]
   exact h1
 ·have h1 := h.rv t
  rw [List.getD_eq_getElem?_getD] at h1 ⊢
  rw [List.getElem?_set_ne e]
  exact h1
theorem vseq_sound (hK : ∀ bl vt m a w, K vt m → FR bl vt a.tmps → RW bs w0 bl m w → Le bl0 bl → bl.length = ln → m.length = ln → a.defers = ds → Q .normal a w) :
    ∀ (is : List Nat) (bl : Bl) (vt : List Value) (m : Xm) (a : Act) (w : World), is.Nodup → vseq P tbl ops (nid base ops) K is vt m → FR bl vt a.tmps → RW bs w0 bl m w → Nw rs bl m →
      (∀ i ∈ is, Fresh P rs ops (nid base ops) bl i) → Le bl0 bl → bl.length = ln → m.length = ln → a.defers = ds → wpOps P ops Q is a w
 | [], bl, vt, m, a, w, _, h, F, R, _, _, hle, hl, hml, hd => hK bl vt m a w h F R hle hl hml hd
 | i :: rest, bl, vt, m, a, w, hnd, h, F, R, N, hf, hle, hl, hml, hd => by
  rw [List.nodup_cons] at hnd
  rw [wpOps_cons]
  unfold vseq at h
  unfold wpOp
  cases ho : ops[i]? with
  | none =>
   rw [ho] at h
   exact vseq_sound hK rest bl vt m a w hnd.2 h F R N (fun j hj => hf j (List.mem_cons_of_mem _ hj)) hle hl hml hd
  | some o =>
   rw [ho] at h
   dsimp only at h ⊢
   have hfi := hf i List.mem_cons_self o ho
   have step : ∀ vt2 : List Value, FR bl vt2 a.tmps → vop P tbl (nid base ops i) o vt2 m (vseq P tbl ops (nid base ops) K rest) → o.wp P a w (wpOps P ops Q rest) Q := by
    intro vt2 F2 h2
    refine Oper.wp_mono ?_ (vop_wp (Q := Q) h2 F2 R N hfi)
    rintro a' w' ⟨bl', v, m', hbl, hmm, hle', h1, h3, hdef, F', R', N', hK'⟩
    exact vseq_sound hK rest bl' _ m' a' w' hnd.2 hK' F' R' N' (fun j hj => (hf j (List.mem_cons_of_mem _ hj)).next ho (by rintro rfl; exact hnd.1 hj) h1 h3) (hle.trans hle') (hbl.trans hl) (hmm.trans hml) (hdef.trans hd)
   have skip : ∀ vt2 : List Value, FR bl vt2 a.tmps → vseq P tbl ops (nid base ops) K rest (vput vt2 o.dst undef) m → wpOps P ops Q rest (a.put o.dst undef) w := by
    intro vt2 F2 h2
    exact vseq_sound hK rest bl _ m _ w hnd.2 h2 (F2.put (.same rfl) _) R N (fun j hj => hf j (List.mem_cons_of_mem _ hj)) hle hl hml ((put_defers _ _ _).trans hd)
   rw [wanted_eq F]
   cases hg : o.guard with
   | none =>
    rw [hg] at h
    rw [show Region.wanted o (yieldedV ops vt) = true by unfold Region.wanted; rw [hg], if_pos rfl]
    exact .inl (step vt F h)
   | some gw =>
    obtain ⟨g, want⟩ := gw
    rw [hg] at h
    dsimp only at h
    split at h
    ·exact h.elim
    ·rename_i d hdst
     split at h
     ·rename_i x hx
      have hw : Region.wanted o (yieldedV ops vt) = (x == want) := by
       unfold Region.wanted
       rw [hg]
       dsimp only
       unfold yieldedV
       rw [hdst]
       dsimp only
       rw [hx]
       simp [asB]
      rw [hw]
      cases x <;> cases want <;> simp only [vif] at h
      ·rw [if_pos (by decide)]
       exact .inl (step _ (F.setSame hx) h)
      ·rw [if_neg (by decide)]
       exact skip _ (F.setSame hx) h
      ·rw [if_neg (by decide)]
       exact skip _ (F.setSame hx) h
      ·rw [if_pos (by decide)]
       exact .inl (step _ (F.setSame hx) h)
     ·rename_i ts hx
      have hw : Region.wanted o (yieldedV ops vt) = false := by
       unfold Region.wanted
       rw [hg]
       dsimp only
       unfold yieldedV
       rw [hdst]
       dsimp only
       rw [hx]
       rfl
      rw [hw, if_neg (by decide)]
      exact skip _ F h
     ·exact h.elim
end
end Go.Proofs.YtbophanlmkbfeaaGreatDoor
