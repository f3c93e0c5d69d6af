/-
  A symbolic run: calls by what is known of them, and one operation whole, for the seat YtoadcnhcfodkgaaGreatDoor. No Go text in sight.
-/
import Derived.Test.YtoadcnhcfodkgaaGreatDoorSxC
namespace Go.Proofs.YtoadcnhcfodkgaaGreatDoor
open Go.RowKit

def ptrs (l : List Value) : List Nat := l.filterMap fun v => match v with
  | .pointer (some a) => some a.block
  | _ => none
/-- What is known of a function. -/
structure Ct (P : Program) where
  fn : Nat
  sp : List Value → Xm → (Value → Xm → Prop) → Prop
  go : ∀ (args : Array Value) (w : World), (callFunc fn args).run P w = .ok (.enter fn args) w
  mono : ∀ {args : List Value} {m : Xm} {K K' : Value → Xm → Prop}, (∀ v m', K v m' → K' v m') → sp args m K → sp args m K'
  keep : ∀ {args : List Value} {m : Xm} {K : Value → Xm → Prop}, sp args m K → sp args m (fun v m' => K v m' ∧ m'.length = m.length ∧ ∀ k, k ∉ ptrs args → m'[k]? = m[k]?)
  ok : ∀ {bs : List Nat} {w0 : World} {bl : Bl} {m : Xm} {w : World} {args : List Value} {args' : Array Value} {K : Value → Xm → Prop}, RW bs w0 bl m w → args'.size = args.length →
    (∀ i, RV bl (args.getD i undef) (args'.getD i undef)) → sp args m K → Calls P fn args' w fun e w' => ∃ v v' m', e = .returned v' ∧ RV bl v v' ∧ K v m' ∧ RW bs w0 bl m' w'
/-- An operation that changes memory, or reads what others change. -/
def va (P : Program) (tbl : List (Ct P)) (id : Nat) (o : Oper) (ρ : Operand → Value) (m : Xm) (K : Value → Xm → Prop) : Prop :=
  match o.op.operands.all okX, o.op with
  | true, .store t x y =>
    match ρ x with
    | .pointer (some ⟨k, off, none⟩) => (match m[k]? with
      | some l => (match isP (ρ y), storeV P t l off (ρ y) with
        | false, some l' => K undef (m.set k l')
        | _, _ => False)
      | none => False)
    | _ => False
  | true, .box _ x => (match isP (ρ x), (ρ x).cells.toList.all cellOk with
      | false, true => K (.pointer (some ⟨id, 0, none⟩)) (m.set id (ρ x).cells.toList)
      | _, _ => False)
  | true, .load _ _ =>
    match vq P (fun _ => true) id o ρ m with
    | some v => K v m
    | none => False
  | true, .call c =>
    match c.callee with
    | .value (.func n) => (match tbl.find? (fun ct => ct.fn == n) with
      | some ct => ct.sp (c.args.toList.map ρ) m K
      | none => False)
    | _ => False
  | _, _ => False
/-- Which blocks it may change. -/
def vw (id : Nat) (o : Oper) (ρ : Operand → Value) : List Nat :=
  match o.op with
  | .store _ x _ => ptrs [ρ x]
  | .box _ _ => [id]
  | .call c => ptrs (c.args.toList.map ρ)
  | _ => []
def isNew (o : Oper) : Bool :=
  match o.op with
  | .alloc _ => true
  | .box _ _ => true
  | _ => false
/-- Blocks that aren't made yet hold what they will be made with. -/
def Nw (rs : Xm) (bl : Bl) (m : Xm) : Prop := ∀ k : Nat, bl[k]? = some none → m[k]? = rs[k]?
def NewOk (P : Program) (rs : Xm) (id : Nat) (o : Oper) (bl : Bl) : Prop :=
  isNew o = true → bl[id]? = some none ∧ ∃ l, rs[id]? = some l ∧ ∀ t, o.op = .alloc t → ∃ z, qrun P (zeroValue t) = some z ∧ l = z.cells.toList
/-- What is known behind an operation. -/
def Behind (bs : List Nat) (w0 : World) (rs : Xm) (bl : Bl) (m : Xm) (vt : List Value) (a : Act) (id : Nat) (o : Oper) (K : Value → Xm → Prop) (a' : Act) (w' : World) : Prop :=
  ∃ bl' v m', bl'.length = bl.length ∧ m'.length = m.length ∧ Le bl bl' ∧ (∀ k : Nat, k ≠ id → bl'[k]? = bl[k]?) ∧ (isNew o = false → bl' = bl) ∧ a'.defers = a.defers ∧ FR bl' (vput vt o.dst v) a'.tmps ∧ RW bs w0 bl' m' w' ∧ Nw rs bl' m' ∧ K v m'
theorem RV.at {bl : Bl} {k B : Nat} (h : bl[k]? = some (some B)) (o : Nat) : RV bl (.pointer (some ⟨k, o, none⟩)) (.pointer (some ⟨B, o, none⟩)) := ⟨B, h, rfl⟩
theorem put_defers (a : Act) (d : Option Tmp) (v : Value) : (a.put d v).defers = a.defers := by cases d <;> rfl
section
variable {P : Program} {tbl : List (Ct P)} {bs : List Nat} {w0 : World} {rs : Xm} {bl : Bl} {vt : List Value} {m : Xm} {a : Act} {w : World} {id : Nat} {o : Oper} {Q : Exit → Act → World → Prop}
theorem new_run {l : List Value} (F : FR bl vt a.tmps) (R : RW bs w0 bl m w) (N : Nw rs bl m) (hid : bl[id]? = some none) (hm : id < m.length) (hn : isNew o = true) (t : TypeId) {K : Value → Xm → Prop}
    (h : K (.pointer (some ⟨id, 0, none⟩)) (m.set id l)) : Behind bs w0 rs bl m vt a id o K (a.put o.dst (.pointer (some ⟨w.heap.size, 0, none⟩))) (w.alloc (.cells l.toArray t)) := by
  obtain ⟨R', hle⟩ := R.new hid hm l t
  have hbl : id < bl.length := (List.getElem?_eq_some_iff.1 hid).1
  refine ⟨bl.set id (some w.heap.size), .pointer (some ⟨id, 0, none⟩), m.set id l, List.length_set .., List.length_set .., hle, fun k hk => List.getElem?_set_ne (fun e => hk e.symm), (fun e => by rw [hn] at e; cases e), put_defers _ _ _, (F.mono hle).put (RV.at (List.getElem?_set_self hbl) 0) _, R', fun k hk => ?_, h⟩
  by_cases e : id = k
  · subst e
    rw [List.getElem?_set_self hbl] at hk
    cases hk
  · rw [List.getElem?_set_ne e] at hk
    rw [List.getElem?_set_ne e]
    exact N k hk
theorem vq_wp {cl : Nat → Bool} {v : Value} {K : Value → Xm → Prop} (h : vq P cl id o (VE vt) m = some v) (F : FR bl vt a.tmps) (R : RW bs w0 bl m w) (N : Nw rs bl m) (hnew : NewOk P rs id o bl) (hK : K v m) :
    o.wp P a w (Behind bs w0 rs bl m vt a id o K) Q := by
  by_cases hal : ∃ t, o.op = .alloc t
  · obtain ⟨t, ht⟩ := hal
    have hn : isNew o = true := by unfold isNew; rw [ht]
    obtain ⟨hid, l, hl, hz0⟩ := hnew hn
    obtain ⟨z, hz, rfl⟩ := hz0 t ht
    have hv : v = .pointer (some ⟨id, 0, none⟩) := by
      unfold vq at h
      rw [ht] at h
      simp [Op.operands] at h
      exact h.symm
    have hm : m[id]? = some z.cells.toList := (N id hid).trans hl
    have hml : id < m.length := (List.getElem?_eq_some_iff.1 hm).1
    have hself : m.set id z.cells.toList = m := by
      have := (List.getElem?_eq_some_iff.1 hm).2
      rw [← this]
      exact List.set_getElem_self hml
    have hr : (execOp a.eval o).run P w = .ok (.value (.pointer (some ⟨w.heap.size, 0, none⟩))) (w.alloc (.cells z.cells.toList.toArray t)) := by
      have r := qrun_run _ hz w
      simp [execOp, ht, Instr.alloc, newVar, newRow, newObj, r, Sem.run]
    unfold Oper.wp
    rw [hr]
    exact new_run F R N hid hml hn t (by rw [hself, ← hv]; exact hK)
  · obtain ⟨v', hv, hr⟩ := vq_run h (fun t ht => hal ⟨t, ht⟩) F R
    unfold Oper.wp
    rw [hr]
    exact ⟨bl, v, m, rfl, rfl, .refl _, fun _ _ => rfl, fun _ => rfl, put_defers _ _ _, F.put hv _, R, N, hK⟩
theorem va_wp {K : Value → Xm → Prop} (h : va P tbl id o (VE vt) m K) (F : FR bl vt a.tmps) (R : RW bs w0 bl m w) (N : Nw rs bl m) (hnew : NewOk P rs id o bl) :
    o.wp P a w (Behind bs w0 rs bl m vt a id o K) Q := by
  unfold va at h
  split at h
  · rename_i t x y hok hop
    have hev : ∀ x ∈ o.op.operands, RV bl (VE vt x) (a.eval x) := fun x hx => F.eval (Array.all_eq_true_iff_forall_mem.1 hok x hx)
    have h1 := hev x (by simp [hop, Op.operands])
    have h2 := hev y (by simp [hop, Op.operands])
    split at h
    · rename_i k off hx
      rw [hx] at h1
      obtain ⟨B, hB, he⟩ := h1
      have he : a.eval x = .pointer (some ⟨B, off, none⟩) := he
      split at h
      · rename_i l hl
        split at h
        · rename_i l' hp hst
          rw [h2.plain hp |>.symm] at hst
          obtain ⟨l2, e2, A⟩ := R.arr k B hB
          rw [hl] at e2
          cases e2
          obtain ⟨r, rfl, hlen⟩ := storeV_run hst A
          have hr : (execOp a.eval o).run P w = .ok .skip (wset w B off (a.eval y).cells.toList) := by
            simp [execOp, hop, he, Instr.storeAt, Instr.sureAddr, r]
          unfold Oper.wp
          rw [hr]
          refine ⟨bl, undef, _, rfl, List.length_set .., .refl _, fun _ _ => rfl, fun _ => rfl, put_defers _ _ _, F.put (.same rfl) _, R.store hB hl off _ hlen, fun k' hk' => ?_, h⟩
          have e : k ≠ k' := by rintro rfl; rw [hB] at hk'; cases hk'
          rw [List.getElem?_set_ne e]
          exact N k' hk'
        · exact h.elim
      · exact h.elim
    · exact h.elim
  · rename_i t x hok hop
    have h1 := F.eval (Array.all_eq_true_iff_forall_mem.1 hok x (by simp [hop, Op.operands]))
    split at h
    · rename_i hp hc
      have hx : a.eval x = VE vt x := h1.plain hp
      have hn : isNew o = true := by unfold isNew; rw [hop]
      obtain ⟨hid, l, hl, _⟩ := hnew hn
      have hm : m[id]? = some l := (N id hid).trans hl
      have hml : id < m.length := (List.getElem?_eq_some_iff.1 hm).1
      have hr : (execOp a.eval o).run P w = .ok (.value (.pointer (some ⟨w.heap.size, 0, none⟩))) (w.alloc (.cells (VE vt x).cells.toList.toArray t)) := by
        simp [execOp, hop, Instr.box, newVar, newRow, newObj, Sem.run, hx]
      unfold Oper.wp
      rw [hr]
      exact new_run F R N hid hml hn t h
    · exact h.elim
  · split at h
    · rename_i v hv
      exact vq_wp hv F R N hnew h
    · exact h.elim
  · rename_i c hok hop
    split at h
    · rename_i n hcal
      split at h
      · rename_i ct hct
        have hfn : ct.fn = n := by simpa using List.find?_some hct
        subst hfn
        have hr : (execOp a.eval o).run P w = .ok (.enter ct.fn (c.args.map a.eval)) w := by
          have := ct.go (c.args.map a.eval) w
          simp [execOp, hop, resolve, hcal, Act.eval, Deferred.ofValue, invoke, this]
        unfold Oper.wp
        rw [hr]
        have harg : ∀ i, RV bl ((c.args.toList.map (VE vt)).getD i undef) ((c.args.map a.eval).getD i undef) := by
          intro i
          by_cases hi : i < c.args.size
          · have hx : c.args[i] ∈ o.op.operands := by
              simp only [hop, Op.operands, Call.operands]
              exact Array.mem_append_right _ (Array.getElem_mem hi)
            have := F.eval (Array.all_eq_true_iff_forall_mem.1 hok _ hx)
            simpa [List.getD_eq_getElem?_getD, hi] using this
          · simp only [List.getD_eq_getElem?_getD, Array.getD_eq_getD_getElem?]
            rw [List.getElem?_eq_none (by simp; omega), Array.getElem?_eq_none (by simp; omega)]
            rfl
        refine Calls.mono (ct.ok R (by simp) harg (ct.keep h)) ?_
        rintro e w' ⟨v, v', m', rfl, hv, ⟨hK, hlen, hkeep⟩, R'⟩
        refine ⟨bl, v, m', rfl, hlen, .refl _, fun _ _ => rfl, fun _ => rfl, put_defers _ _ _, F.put hv _, R', fun k hk => ?_, hK⟩
        rw [hkeep k ?_]
        · exact N k hk
        · intro hmem
          unfold ptrs at hmem
          obtain ⟨u, hu, hk2⟩ := List.mem_filterMap.1 hmem
          obtain ⟨i, hi, rfl⟩ := List.mem_iff_getElem.1 hu
          have hrv := harg i
          rw [List.getD_eq_getElem?_getD, List.getElem?_eq_getElem hi] at hrv
          split at hk2
          · rename_i b hb
            cases hk2
            simp only [Option.getD_some] at hrv
            rw [hb] at hrv
            obtain ⟨B, hB, _⟩ := hrv
            rw [hB] at hk
            cases hk
          · cases hk2
      · exact h.elim
    · exact h.elim
  · exact h.elim
end
end Go.Proofs.YtoadcnhcfodkgaaGreatDoor
