/-
  A symbolic run: statements whose order is drawn, for the seat YtoadcnhcfodkgaaGreatDoor. No Go text in sight.
-/
import Derived.Test.YtoadcnhcfodkgaaGreatDoorSxE
import Derived.OrdersHeld
namespace Go.Proofs.YtoadcnhcfodkgaaGreatDoor
open Go.RowKit

theorem vq_same {P : Program} {cl : Nat → Bool} {id : Nat} {o : Oper} {ρ ρ' : Operand → Value} {m m' : Xm} (hs : ∀ cs b, o.op ≠ .select cs b) (hm : ∀ k : Nat, cl k = true → m[k]? = m'[k]?) (hr : ∀ x ∈ o.op.operands, ρ x = ρ' x) : vq P cl id o ρ m = vq P cl id o ρ' m' := by
  have hp : pureV P o ρ = pureV P o ρ' := by
    unfold pureV
    have e : o.op.operands.all (fun x => !isP (ρ x)) = o.op.operands.all (fun x => !isP (ρ' x)) := by
      rw [Bool.eq_iff_iff, Array.all_eq_true_iff_forall_mem, Array.all_eq_true_iff_forall_mem]
      exact ⟨fun h x hx => by rw [← hr x hx]; exact h x hx, fun h x hx => by rw [hr x hx]; exact h x hx⟩
    rw [e, execOp_congr o hs hr]
  unfold vq
  rw [hp]
  cases hop : o.op <;> rw [hop] at hr <;> simp only [Op.operands] at hr <;> dsimp only
  case move x => rw [hr x (by simp)]
  case assign x => rw [hr x (by simp)]
  case pick c p q => rw [hr c (by simp), hr p (by simp), hr q (by simp)]
  case load t x =>
    rw [hr x (by simp)]
    congr 1
    split
    · rename_i k off _
      cases hc : cl k with
      | true => rw [hm k hc]
      | false => rfl
    · rfl
  case fieldAddr s x f => rw [hr x (by simp)]
  case indexAddr t x ix => rw [hr x (by simp), hr ix (by simp)]
  case nilCheck x => rw [hr x (by simp)]
  case binOp op t x y t2 => rw [hr x (by simp), hr y (by simp)]
theorem va_same {P : Program} {tbl : List (Ct P)} {id : Nat} {o : Oper} {ρ ρ' : Operand → Value} {m : Xm} {K : Value → Xm → Prop} (hs : ∀ cs b, o.op ≠ .select cs b) (hr : ∀ x ∈ o.op.operands, ρ x = ρ' x) : va P tbl id o ρ m K = va P tbl id o ρ' m K := by
  have hv := vq_same (P := P) (cl := fun _ => true) (id := id) (m := m) (m' := m) hs (fun _ _ => rfl) hr
  unfold va
  rw [hv]
  cases hall : o.op.operands.all okX
  · rfl
  clear hv hall
  cases hop : o.op <;> rw [hop] at hr <;> simp only [Op.operands] at hr <;> dsimp only
  case store t x y => rw [hr x (by simp), hr y (by simp)]
  case box t x => rw [hr x (by simp)]
  case call c =>
    have : c.args.toList.map ρ = c.args.toList.map ρ' := List.map_congr_left fun x hx => hr x (by
      unfold Call.operands
      exact Array.mem_append_right _ (by simpa using hx))
    rw [this]
theorem vw_same {id : Nat} {o : Oper} {ρ ρ' : Operand → Value} (hr : ∀ x ∈ o.op.operands, ρ x = ρ' x) : vw id o ρ = vw id o ρ' := by
  unfold vw
  cases hop : o.op <;> rw [hop] at hr <;> simp only [Op.operands] at hr <;> dsimp only
  case store t x y => rw [hr x (by simp)]
  case call c =>
    have : c.args.toList.map ρ = c.args.toList.map ρ' := List.map_congr_left fun x hx => hr x (by
      unfold Call.operands
      exact Array.mem_append_right _ (by simpa using hx))
    rw [this]
theorem va_mono {P : Program} {tbl : List (Ct P)} {id : Nat} {o : Oper} {ρ : Operand → Value} {m : Xm} {K K' : Value → Xm → Prop} (hK : ∀ v m', K v m' → K' v m') (h : va P tbl id o ρ m K) : va P tbl id o ρ m K' := by
  unfold va at h ⊢
  split at h
  · split at h
    · split at h
      · split at h
        · exact hK _ _ h
        · exact h
      · exact h
    · exact h
  · split at h
    · exact hK _ _ h
    · exact h
  · split at h
    · exact hK _ _ h
    · exact h
  · split at h
    · split at h
      · rename_i ct _
        exact ct.mono hK h
      · exact h
    · exact h
  · exact h
theorem va_keep {P : Program} {tbl : List (Ct P)} {id : Nat} {o : Oper} {ρ : Operand → Value} {m : Xm} {K : Value → Xm → Prop} (h : va P tbl id o ρ m K) : va P tbl id o ρ m (fun v m' => K v m' ∧ ∀ k, k ∉ vw id o ρ → m'[k]? = m[k]?) := by
  unfold va at h ⊢
  split at h
  · rename_i t x y _ hop
    split at h
    · rename_i k off hx
      split at h
      · split at h
        · refine ⟨h, fun k' hk' => ?_⟩
          unfold vw at hk'
          rw [hop] at hk'
          dsimp only at hk'
          rw [hx] at hk'
          have e : k ≠ k' := by rintro rfl; exact hk' (by simp [ptrs])
          rw [List.getElem?_set_ne e]
        · exact h
      · exact h
    · exact h
  · rename_i t x _ hop
    split at h
    · refine ⟨h, fun k' hk' => ?_⟩
      unfold vw at hk'
      rw [hop] at hk'
      have e : id ≠ k' := by rintro rfl; exact hk' (by simp)
      rw [List.getElem?_set_ne e]
    · exact h
  · split at h
    · exact ⟨h, fun _ _ => rfl⟩
    · exact h
  · rename_i c _ hop
    split at h
    · split at h
      · rename_i ct _
        refine ct.mono ?_ (ct.keep h)
        rintro v m' ⟨h1, _, h2⟩
        refine ⟨h1, fun k hk => h2 k ?_⟩
        unfold vw at hk
        rw [hop] at hk
        exact hk
      · exact h
    · exact h
  · exact h
theorem VE_put {vt : List Value} {dst : Option Tmp} {v : Value} {x : Operand} (h : ∀ d, dst = some d → x ≠ .tmp d) : VE (vput vt dst v) x = VE vt x := by
  cases dst with
  | none => rfl
  | some d =>
    cases x with
    | tmp t =>
      have hne : d ≠ t := fun e => h d rfl (e ▸ rfl)
      show (vt.set d v).getD t undef = vt.getD t undef
      rw [List.getD_eq_getElem?_getD, List.getD_eq_getElem?_getD, List.getElem?_set_ne hne]
    | _ => rfl
theorem VE_looks {ops : Array Oper} {o : Oper} {vt : List Value} {dst : Option Tmp} {v : Value} (h : ∀ d, dst = some d → d ∉ o.looksAt ops) : ∀ x ∈ o.op.operands, VE (vput vt dst v) x = VE vt x :=
  fun x hx => VE_put fun d hd hxd => h d hd (by
    subst hxd
    exact List.mem_append_left _ (List.mem_filterMap.2 ⟨.tmp d, by simpa using hx, rfl⟩))
theorem wantedV_put {ops : Array Oper} {o : Oper} {vt : List Value} {dst : Option Tmp} {v : Value} (h : ∀ d, dst = some d → d ∉ o.looksAt ops) : Region.wanted o (yieldedV ops (vput vt dst v)) = Region.wanted o (yieldedV ops vt) := by
  cases dst with
  | none => rfl
  | some d =>
    unfold Region.wanted
    cases hg : o.guard with
    | none => rfl
    | some gw =>
      obtain ⟨g, want⟩ := gw
      have hy : yieldedV ops (vput vt (some d) v) g = yieldedV ops vt g := by
        unfold yieldedV
        cases ht : (ops[g]?).bind (·.dst) with
        | none => rfl
        | some t =>
          have hne : d ≠ t := fun e => h d rfl (by subst e; simp [Oper.looksAt, hg, ht])
          dsimp only
          have e2 : (vput vt (some d) v).getD t undef = vt.getD t undef := VE_put (vt := vt) (dst := some d) (v := v) (x := .tmp t) (fun d' hd' e => by cases hd'; cases e; exact hne rfl)
          rw [e2]
      simp only [hy]
theorem vput_comm {vt : List Value} {d1 d2 : Option Tmp} {v1 v2 : Value} (h : ∀ d, d1 = some d → d2 ≠ some d) : vput (vput vt d1 v1) d2 v2 = vput (vput vt d2 v2) d1 v1 := by
  cases d1 with
  | none => rfl
  | some a =>
    cases d2 with
    | none => rfl
    | some b =>
      have hne : a ≠ b := fun e => h a rfl (by rw [e])
      exact List.set_comm _ _ hne
def guardB (b : Bool) (A : Prop) : Prop :=
  match b with
  | true => A
  | false => False
theorem guardB_iff {b : Bool} {A : Prop} : guardB b A ↔ b = true ∧ A := by
  cases b
  · exact ⟨fun h => h.elim, fun h => by cases h.1⟩
  · exact ⟨fun h => ⟨rfl, h⟩, fun h => h.2⟩
/-! ### Rows of bits -/
def mOf (l : List Nat) : Nat := l.foldl (fun a d => a ||| (1 <<< d)) 0
def subM (a b : Nat) : Bool := Nat.beq (a &&& b) a
theorem mOf_go : ∀ (l : List Nat) (a i : Nat), (l.foldl (fun a d => a ||| (1 <<< d)) a).testBit i = (a.testBit i || l.contains i)
  | [], a, i => by simp
  | d :: l, a, i => by
    rw [List.foldl_cons, mOf_go l]
    rw [Nat.testBit_or, Nat.one_shiftLeft, Nat.testBit_two_pow, List.contains_cons, Bool.or_assoc]
    congr 2
    rw [Bool.eq_iff_iff, decide_eq_true_eq, beq_iff_eq]
    exact ⟨fun e => e.symm, fun e => e.symm⟩
theorem mOf_bit (l : List Nat) (i : Nat) : (mOf l).testBit i = l.contains i := by
  unfold mOf
  rw [mOf_go]
  simp
theorem subM_is {a b : Nat} (h : subM a b = true) (i : Nat) (hi : a.testBit i = true) : b.testBit i = true := by
  have e := Nat.eq_of_beq_eq_true h
  rw [← e, Nat.testBit_and, Bool.and_eq_true] at hi
  exact hi.2
theorem subM_of {a b : Nat} (h : ∀ i, a.testBit i = true → b.testBit i = true) : subM a b = true := by
  have e : a &&& b = a := by
    refine Nat.eq_of_testBit_eq (fun i => ?_)
    rw [Nat.testBit_and]
    cases ha : a.testBit i with
    | true => rw [h i ha]; rfl
    | false => rfl
  unfold subM
  rw [e]
  exact Nat.beq_refl a
/-! ### Which operations come in two times: what is stored comes last -/
def isSt (o : Oper) : Bool :=
  match o.op with
  | .store _ _ _ => true
  | _ => false
def isLd (o : Oper) : Bool :=
  match o.op with
  | .load _ _ => true
  | _ => false
def depsO (o : Oper) : List Nat := (o.after.toList.filter (Region.binds .any)).map (·.on)
def depsOf (ops : Array Oper) (j : Nat) : List Nat :=
  match ops[j]? with
  | some o => depsO o
  | none => []
theorem mem_depsO {o : Oper} {i : Nat} : i ∈ depsO o ↔ ∃ e ∈ o.after, Region.binds .any e = true ∧ e.on = i := by
  unfold depsO
  simp [List.mem_map, List.mem_filter, and_assoc]
def Dn (ops : Array Oper) (listed : Array Bool) : Prop := ∀ j, listed.getD j false = true → ∀ i ∈ depsOf ops j, listed.getD i false = true
theorem Dn.next {ops : Array Oper} {listed : Array Bool} (h : Dn ops listed) {i : Nat} (hi : i ∈ Region.ready .any ops listed) : Dn ops (listed.setIfInBounds i true) := by
  intro j hj d hd
  by_cases e : i = j
  · subst e
    obtain ⟨_, o, ho, hall⟩ := mem_ready.1 hi
    unfold depsOf at hd
    rw [ho] at hd
    obtain ⟨x, hx, hb, rfl⟩ := mem_depsO.1 hd
    exact getD_set_true (hall x hx hb)
  · rw [getD_set_ne false e] at hj
    exact getD_set_true (h j hj d hd)
theorem listed_of {listed : Array Bool} {i : Nat} (h : listed.getD i false = true) : listed.getD i true = true := by
  rcases Nat.lt_or_ge i listed.size with h' | h'
  · simpa [h'] using h
  · simp [Array.getElem?_eq_none h'] at h
/-- An operation to come: its number, what it waits for, who must have come if it is to be drawn ahead, whether it changes nothing as far as its text tells, whether it stores, and whether it reads memory. -/
abbrev Pend := Nat × Nat × Nat × Bool × Bool × Bool
def confM (ops : Array Oper) (i : Nat) (o : Oper) : Nat := mOf ((List.range ops.size).filter fun j => !(j == i || match ops[j]? with
  | some oj => oj.after.any (fun e => Region.binds .any e && e.on == i) || o.apart ops oj
  | none => true))
/-- What changes nothing, as far as its text tells. -/
def quietO (o : Oper) : Bool :=
  match o.op with
  | .store _ _ _ => false
  | .box _ _ => false
  | .call c => (match c.callee with
    | .builtin _ => true
    | _ => false)
  | _ => true
def pend (ops : Array Oper) (i : Nat) : Pend :=
  match ops[i]? with
  | some o => (i, mOf (depsO o), confM ops i o, quietO o, isSt o, isLd o)
  | none => (i, 0, 0, false, true, false)
def pends (ops : Array Oper) : List Pend := (List.range ops.size).map (pend ops)
def closeM (ps : List Pend) : Nat → Nat → Nat
  | 0, M => M
  | n + 1, M =>
    let M' := ps.foldl (fun a e => if M.testBit e.1 then a ||| e.2.1 else a) M
    if Nat.beq M' M then M else closeM ps n M'
def loadsM (ps : List Pend) : Nat := mOf ((ps.filter (fun e => e.2.2.2.2.2)).map (·.1))
/-- Each store waits for all that reads memory. -/
def twoPh (ops : Array Oper) : Bool := (pends ops).all fun e => !e.2.2.2.2.1 || subM (loadsM (pends ops)) (closeM (pends ops) 40 e.2.1)
theorem pend_mem {ops : Array Oper} {i : Nat} (h : i < ops.size) : pend ops i ∈ pends ops := List.mem_map.2 ⟨i, List.mem_range.2 h, rfl⟩
theorem pend_fst (ops : Array Oper) (i : Nat) : (pend ops i).1 = i := by
  unfold pend
  split <;> rfl
theorem pend_dep (ops : Array Oper) (i : Nat) : (pend ops i).2.1 = mOf (depsOf ops i) := by
  unfold pend depsOf
  split <;> rfl
def Bits (listed : Array Bool) (M : Nat) : Prop := ∀ i, M.testBit i = true → listed.getD i false = true
theorem Bits.fold {ops : Array Oper} {listed : Array Bool} (hd : Dn ops listed) {M0 : Nat} (h0 : Bits listed M0) : ∀ (ps : List Pend), (∀ e ∈ ps, ∃ i, e = pend ops i) → ∀ a, Bits listed a → Bits listed (ps.foldl (fun a e => if M0.testBit e.1 then a ||| e.2.1 else a) a)
  | [], _, _, h => h
  | e :: ps, hp, a, h => by
    rw [List.foldl_cons]
    refine Bits.fold hd h0 ps (fun x hx => hp x (List.mem_cons_of_mem _ hx)) _ ?_
    split
    · rename_i ht
      obtain ⟨i, rfl⟩ := hp e List.mem_cons_self
      intro j hj
      rw [Nat.testBit_or, Bool.or_eq_true] at hj
      rcases hj with hj | hj
      · exact h j hj
      · rw [pend_dep, mOf_bit] at hj
        rw [pend_fst] at ht
        exact hd i (h0 i ht) j (by simpa using hj)
    · exact h
theorem Bits.close {ops : Array Oper} {listed : Array Bool} (hd : Dn ops listed) : ∀ (n M : Nat), Bits listed M → Bits listed (closeM (pends ops) n M)
  | 0, _, h => h
  | n + 1, M, h => by
    unfold closeM
    dsimp only
    split
    · exact h
    · exact Bits.close hd n _ (Bits.fold hd h _ (fun e he => by
        obtain ⟨i, _, rfl⟩ := List.mem_map.1 he
        exact ⟨i, rfl⟩) M h)
def ldAt (ops : Array Oper) (j : Nat) : Bool := (pend ops j).2.2.2.2.2
/-- All that reads memory has come. -/
def FullA (ops : Array Oper) (listed : Array Bool) : Prop := ∀ i, i < ops.size → ldAt ops i = true → listed.getD i true = true
theorem pend_st {ops : Array Oper} {j : Nat} {o : Oper} (ho : ops[j]? = some o) : (pend ops j).2.2.2.2.1 = isSt o := by
  unfold pend
  rw [ho]
theorem pend_ld {ops : Array Oper} {j : Nat} {o : Oper} (ho : ops[j]? = some o) : ldAt ops j = isLd o := by
  unfold ldAt pend
  rw [ho]
theorem Dn.full {ops : Array Oper} {listed : Array Bool} (h : Dn ops listed) (ht : twoPh ops = true) {j : Nat} {o : Oper} (hj : j ∈ Region.ready .any ops listed) (ho : ops[j]? = some o) (hs : isSt o = true) : FullA ops listed := by
  obtain ⟨_, o', ho', hall⟩ := mem_ready.1 hj
  rw [ho] at ho'
  cases ho'
  have hlt : j < ops.size := (Array.getElem?_eq_some_iff.1 ho).1
  have h1 := List.all_eq_true.1 ht _ (pend_mem hlt)
  rw [pend_st ho, hs, Bool.not_true, Bool.false_or] at h1
  intro i hi hld
  refine listed_of (Bits.close h 40 (pend ops j).2.1 (fun d hd => ?_) i (subM_is h1 i ?_))
  · rw [pend_dep, mOf_bit] at hd
    unfold depsOf at hd
    rw [ho] at hd
    obtain ⟨x, hx, hb, rfl⟩ := mem_depsO.1 (by simpa using hd)
    exact hall x hx hb
  · unfold loadsM
    rw [mOf_bit, List.contains_iff_mem]
    exact List.mem_map.2 ⟨pend ops i, List.mem_filter.2 ⟨pend_mem hi, hld⟩, pend_fst ops i⟩
/-! ### An order, told with what is known at each of its steps -/
/-- An operation, whether it may be drawn ahead, whether it is the only one that may come. -/
abbrev Stp := Nat × Bool × Bool
def schGo (ps0 : List Pend) : Nat → Nat → List Pend → Option (List Stp)
  | 0, _, ps => (match ps with
    | [] => some []
    | _ :: _ => none)
  | f + 1, L, ps =>
    match ps.filter (fun e => subM e.2.1 L) with
    | [] => some []
    | e :: r =>
      match (match (e :: r).find? (fun x => x.2.2.2.1 && subM x.2.2.1 L) with
        | some x => x
        | none => e) with
      | (j, _, c, _, _) =>
        match schGo ps0 f (L ||| (1 <<< j)) (ps.filter (fun x => !Nat.beq x.1 j)) with
        | some l => some ((j, subM c L, r.isEmpty) :: l)
        | none => none
def sch (ops : Array Oper) : Option (List Stp) := schGo (pends ops) ops.size 0 (pends ops)
/-- What the steps say is so. -/
def Run (ops : Array Oper) : List Stp → Array Bool → Prop
  | [], listed => Region.ready .any ops listed = []
  | s :: js, listed => s.1 ∈ Region.ready .any ops listed ∧ (s.2.1 = true → Region.free .any ops listed s.1 = true) ∧ (s.2.2 = true → ∀ k ∈ Region.ready .any ops listed, k = s.1) ∧ Run ops js (listed.setIfInBounds s.1 true)
structure PsOk (ops : Array Oper) (listed : Array Bool) (L : Nat) (ps : List Pend) : Prop where
  size : listed.size = ops.size
  bit : ∀ i, listed.getD i false = L.testBit i
  mem : ∀ e, e ∈ ps ↔ ∃ i, i < ops.size ∧ L.testBit i = false ∧ e = pend ops i
theorem getD_tf {listed : Array Bool} {i : Nat} (h : i < listed.size) : listed.getD i true = listed.getD i false := by simp [h]
theorem PsOk.ready {ops : Array Oper} {listed : Array Bool} {L : Nat} {ps : List Pend} (h : PsOk ops listed L ps) (i : Nat) : i ∈ Region.ready .any ops listed ↔ pend ops i ∈ ps.filter (fun e => subM e.2.1 L) := by
  rw [List.mem_filter, h.mem, mem_ready]
  constructor
  · rintro ⟨h1, o, ho, hall⟩
    have hlt : i < ops.size := (Array.getElem?_eq_some_iff.1 ho).1
    refine ⟨⟨i, hlt, ?_, rfl⟩, subM_of (fun d hd => ?_)⟩
    · rw [← h.bit, ← getD_tf (by rw [h.size]; exact hlt)]
      exact h1
    · rw [pend_dep, mOf_bit] at hd
      unfold depsOf at hd
      rw [ho] at hd
      obtain ⟨x, hx, hb, rfl⟩ := mem_depsO.1 (by simpa using hd)
      rw [← h.bit]
      exact hall x hx hb
  · rintro ⟨⟨i', hlt, hb, he⟩, hs⟩
    have e : i = i' := by
      have := congrArg Prod.fst he
      rwa [pend_fst, pend_fst] at this
    subst e
    refine ⟨by rw [getD_tf (by rw [h.size]; exact hlt), h.bit]; exact hb, ops[i], Array.getElem?_eq_getElem hlt, fun x hx hbx => ?_⟩
    rw [h.bit]
    refine subM_is hs _ ?_
    rw [pend_dep, mOf_bit]
    unfold depsOf
    rw [Array.getElem?_eq_getElem hlt]
    simpa using mem_depsO.2 ⟨x, hx, hbx, rfl⟩
theorem PsOk.free {ops : Array Oper} {listed : Array Bool} {L : Nat} {ps : List Pend} (h : PsOk ops listed L ps) {i : Nat} (hi : i < ops.size) (hc : subM (pend ops i).2.2.1 L = true) : Region.free .any ops listed i = true := by
  unfold Region.free
  rw [Array.getElem?_eq_getElem hi]
  refine List.all_eq_true.2 (fun j hj => ?_)
  have hj := List.mem_range.1 hj
  have hp : (pend ops i).2.2.1 = confM ops i ops[i] := by
    unfold pend
    rw [Array.getElem?_eq_getElem hi]
  rw [hp] at hc
  rw [Bool.or_assoc, Bool.or_left_comm, Bool.or_eq_true]
  cases hcj : (j == i || match ops[j]? with
      | some oj => oj.after.any (fun e => Region.binds .any e && e.on == i) || ops[i].apart ops oj
      | none => true) with
  | true => exact .inr rfl
  | false =>
    refine .inl ?_
    rw [getD_tf (by rw [h.size]; exact hj), h.bit]
    refine subM_is hc j ?_
    unfold confM
    rw [mOf_bit, List.contains_iff_mem]
    exact List.mem_filter.2 ⟨List.mem_range.2 hj, by rw [hcj]; rfl⟩
theorem PsOk.next {ops : Array Oper} {listed : Array Bool} {L : Nat} {ps : List Pend} (h : PsOk ops listed L ps) {j : Nat} (hj : j < ops.size) : PsOk ops (listed.setIfInBounds j true) (L ||| (1 <<< j)) (ps.filter (fun x => !Nat.beq x.1 j)) := by
  have hb : ∀ i, (L ||| (1 <<< j)).testBit i = (L.testBit i || decide (j = i)) := fun i => by rw [Nat.testBit_or, Nat.one_shiftLeft, Nat.testBit_two_pow]
  refine ⟨by rw [Array.size_setIfInBounds]; exact h.size, fun i => ?_, fun e => ?_⟩
  · rw [hb]
    by_cases e : j = i
    · subst e
      have : j < listed.size := by rw [h.size]; exact hj
      simp [this]
    · rw [getD_set_ne false e, h.bit, decide_eq_false e, Bool.or_false]
  · rw [List.mem_filter, h.mem]
    constructor
    · rintro ⟨⟨i, hi, hl, rfl⟩, hn⟩
      refine ⟨i, hi, ?_, rfl⟩
      rw [hb, hl, Bool.false_or, decide_eq_false]
      rintro rfl
      rw [pend_fst, Nat.beq_refl] at hn
      cases hn
    · rintro ⟨i, hi, hl, rfl⟩
      rw [hb, Bool.or_eq_false_iff] at hl
      refine ⟨⟨i, hi, hl.1, rfl⟩, ?_⟩
      have hne : i ≠ j := fun e => by rw [e, decide_eq_true rfl] at hl; cases hl.2
      rw [pend_fst]
      cases hq : Nat.beq i j with
      | false => rfl
      | true => exact absurd (Nat.eq_of_beq_eq_true hq) hne
theorem schGo_ok {ops : Array Oper} {ps0 : List Pend} : ∀ (f : Nat) (listed : Array Bool) (L : Nat) (ps : List Pend) (l : List Stp), PsOk ops listed L ps → schGo ps0 f L ps = some l → Run ops l listed
  | 0, listed, L, ps, l, h, e => by
    unfold schGo at e
    split at e
    · cases e
      refine List.eq_nil_iff_forall_not_mem.2 (fun i hi => ?_)
      rw [h.ready i] at hi
      cases hi
    · cases e
  | f + 1, listed, L, ps, l, h, e => by
    unfold schGo at e
    split at e
    · rename_i hr
      cases e
      refine List.eq_nil_iff_forall_not_mem.2 (fun i hi => ?_)
      rw [h.ready i, hr] at hi
      cases hi
    · rename_i p r hr
      have hx : ∀ x : Pend, (match (p :: r).find? (fun x => x.2.2.2.1 && subM x.2.2.1 L) with
        | some x => x
        | none => p) = x → x ∈ p :: r := by
        intro x hx
        split at hx
        · rename_i y hy
          rw [← hx]
          exact List.mem_of_find?_eq_some hy
        · rw [← hx]
          exact List.mem_cons_self
      split at e
      rename_i j dj c q st hsel
      have hin := hx _ hsel
      rw [← hr, List.mem_filter, h.mem] at hin
      obtain ⟨⟨i, hi, hl, he⟩, hs⟩ := hin
      have e1 : j = i := by
        have := congrArg Prod.fst he
        rwa [pend_fst] at this
      subst e1
      split at e
      · rename_i l' hl'
        cases e
        have hready : j ∈ Region.ready .any ops listed := by
          rw [h.ready j, List.mem_filter, h.mem]
          exact ⟨⟨j, hi, hl, rfl⟩, by rw [← he]; exact hs⟩
        refine ⟨hready, fun hc => h.free hi (by rw [← he]; exact hc), fun ha k hk => ?_, schGo_ok f _ _ _ l' (h.next hi) hl'⟩
        · rw [h.ready k, hr] at hk
          have hj2 := (h.ready j).1 hready
          rw [hr] at hj2
          have hr0 : r = [] := by simpa using ha
          subst hr0
          rw [List.mem_singleton] at hk hj2
          have := congrArg Prod.fst (hk.trans hj2.symm)
          rwa [pend_fst, pend_fst] at this
      · cases e
theorem sch_ok {ops : Array Oper} {l : List Stp} (h : sch ops = some l) : Run ops l (Array.replicate ops.size false) := by
  have hz : ∀ i, (Array.replicate ops.size false).getD i false = false := fun i => by
    by_cases hi : i < ops.size
    · simp [hi]
    · simp [Array.getElem?_eq_none (show (Array.replicate ops.size false).size ≤ i by simp; omega)]
  refine schGo_ok ops.size _ 0 _ l ⟨by simp, fun i => by rw [hz]; simp, fun e => ⟨fun he => ?_, fun ⟨i, hi, _, he⟩ => ?_⟩⟩ h
  · obtain ⟨i, hi, rfl⟩ := List.mem_map.1 he
    exact ⟨i, List.mem_range.1 hi, by simp, rfl⟩
  · rw [he]
    exact pend_mem hi
/-! ### Which blocks are as they were -/
/-- What an operation may read: what nobody changes; where stores come last, what they change as well. -/
def lco (cl dd : Nat → Bool) (two : Bool) (o : Oper) (k : Nat) : Bool := cl k || (isLd o && (two && dd k))
/-- What an operation may not change. -/
def gco (cl dd : Nat → Bool) (two : Bool) (o : Oper) (k : Nat) : Bool := cl k || (!isSt o && (two && dd k))
/-- What nobody has changed yet is as it was. -/
def SS (ops : Array Oper) (cl dd : Nat → Bool) (two : Bool) (listed : Array Bool) (m0 m : Xm) : Prop := ∀ k : Nat, (cl k = true ∨ (two && dd k) = true ∧ ¬ FullA ops listed) → m[k]? = m0[k]?
theorem FullA.mono {ops : Array Oper} {listed : Array Bool} {i : Nat} (h : FullA ops listed) : FullA ops (listed.setIfInBounds i true) := by
  intro j hj hl
  have h1 := h j hj hl
  by_cases e : i = j
  · subst e
    by_cases hs : i < listed.size
    · simp [hs]
    · simp
  · rw [getD_set_ne true e]
    exact h1
theorem SS.next {ops : Array Oper} {cl dd : Nat → Bool} {two : Bool} {listed : Array Bool} {m0 m : Xm} (h : SS ops cl dd two listed m0 m) (i : Nat) : SS ops cl dd two (listed.setIfInBounds i true) m0 m := fun k hk => h k (hk.imp id (fun x => ⟨x.1, fun hf => x.2 hf.mono⟩))
section
variable (P : Program) (tbl : List (Ct P)) (ops : Array Oper) (ids : Nat → Nat) (cl dd : Nat → Bool) (two : Bool) (m0 : Xm) (K : List Value → Xm → Prop)
/-- What an operation yields now, if it changes nothing. -/
def vqG (i : Nat) (o : Oper) (vt : List Value) (m : Xm) : Option Value :=
  match Region.wanted o (yieldedV ops vt) with
  | true => vq P (lco cl dd two o) (ids i) o (VE vt) m
  | false => some undef
def vopR (i : Nat) (vt : List Value) (m : Xm) (K : List Value → Xm → Prop) : Prop :=
  match ops[i]? with
  | none => False
  | some o =>
    match vqG P ops ids cl dd two i o vt m with
    | some v => K (vput vt o.dst v) m
    | none => guardB ((vw (ids i) o (VE vt)).all (fun k => !gco cl dd two o k)) (va P tbl (ids i) o (VE vt) m (fun v m' => K (vput vt o.dst v) m'))
def vAny : Nat → Array Bool → List Value → Xm → Prop
  | 0, listed, vt, m => Region.ready .any ops listed = [] ∧ K vt m
  | f + 1, listed, vt, m => (Region.ready .any ops listed = [] → K vt m) ∧
    ∀ i ∈ Region.ready .any ops listed, vopR P tbl ops ids cl dd two i vt m (fun vt' m' => SS ops cl dd two (listed.setIfInBounds i true) m0 m' ∧ vAny f (listed.setIfInBounds i true) vt' m')
/-- A bool that an operation hangs on is told apart ahead of it. -/
def vfork (ops : Array Oper) (o : Oper) (vt : List Value) (F : List Value → Prop) : Prop :=
  match o.guard with
  | none => F vt
  | some (g, _) =>
    match (ops[g]?).bind (·.dst) with
    | none => F vt
    | some d =>
      match vt.getD d undef with
      | .bool x => vif x (F (vt.set d (.bool true))) (F (vt.set d (.bool false)))
      | _ => F vt
/-- One order, as it is told: what changes nothing comes first. -/
def vdraw : List Stp → List Value → Xm → Prop
  | [], vt, m => K vt m
  | (j, fr, al) :: js, vt, m =>
    match ops[j]? with
    | none => False
    | some o => vfork ops o vt fun vt =>
      match vqG P ops ids cl dd two j o vt m with
      | some v => guardB fr (vdraw js (vput vt o.dst v) m)
      | none => guardB al (guardB ((vw (ids j) o (VE vt)).all (fun k => !gco cl dd two o k)) (va P tbl (ids j) o (VE vt) m (fun v m' => vdraw js (vput vt o.dst v) m')))
end
section
variable {P : Program} {tbl : List (Ct P)} {ops : Array Oper} {ids : Nat → Nat} {cl dd : Nat → Bool} {two : Bool} {m0 : Xm} {K : List Value → Xm → Prop}
theorem vopR_keep (ht : two = true → twoPh ops = true) {listed : Array Bool} (hD : Dn ops listed) {i : Nat} (hi : i ∈ Region.ready .any ops listed) {vt : List Value} {m : Xm} {K : List Value → Xm → Prop} (hS : SS ops cl dd two listed m0 m) (h : vopR P tbl ops ids cl dd two i vt m K) :
    vopR P tbl ops ids cl dd two i vt m (fun vt' m' => SS ops cl dd two (listed.setIfInBounds i true) m0 m' ∧ K vt' m') := by
  unfold vopR at h ⊢
  split at h
  · exact h
  · rename_i o ho
    split at h
    · exact ⟨hS.next i, h⟩
    · rw [guardB_iff] at h ⊢
      refine ⟨h.1, va_mono ?_ (va_keep h.2)⟩
      rintro v m' ⟨h1, h2⟩
      refine ⟨fun k hk => ?_, h1⟩
      rw [h2 k ?_]
      · exact hS.next i k hk
      · intro hmem
        have hg := List.all_eq_true.1 h.1 k hmem
        unfold gco at hg
        rcases hk with hk | ⟨hk, hf⟩
        · rw [hk] at hg
          cases hg
        · cases hs : isSt o with
          | false =>
            rw [hs, hk] at hg
            simp at hg
          | true =>
            have h2 : two = true := by
              rw [Bool.and_eq_true] at hk
              exact hk.1
            exact hf (hD.full (ht h2) hi ho hs).mono
/-- An operation that changes nothing, and that nobody who could come before it touches, may come first. -/
theorem vAny_first (ht : two = true → twoPh ops = true) {i : Nat} {oi : Oper} {v : Value} (hi : ops[i]? = some oi) (hsel : ∀ (j : Nat) (o : Oper) cs b, ops[j]? = some o → o.op ≠ .select cs b) :
    ∀ (fuel : Nat) (listed : Array Bool) (vt : List Value) (m : Xm), Dn ops listed →
      (∀ j oj, ops[j]? = some oj → j ≠ i → listed.getD j true = false → (∀ e ∈ oj.after, Region.binds .any e = true → e.on ≠ i) → oi.apart ops oj = true) →
      i ∈ Region.ready .any ops listed → vqG P ops ids cl dd two i oi vt m = some v → SS ops cl dd two listed m0 m →
      vAny P tbl ops ids cl dd two m0 K fuel (listed.setIfInBounds i true) (vput vt oi.dst v) m → vAny P tbl ops ids cl dd two m0 K (fuel + 1) listed vt m := by
  have self : ∀ (vt : List Value) (m : Xm) (K : List Value → Xm → Prop), vqG P ops ids cl dd two i oi vt m = some v → K (vput vt oi.dst v) m → vopR P tbl ops ids cl dd two i vt m K := fun vt m K hq h => by
    unfold vopR
    rw [hi]
    dsimp only
    rw [hq]
    exact h
  intro fuel
  induction fuel with
  | zero =>
    intro listed vt m hD _ hr hq hS H
    refine ⟨fun h => (by rw [h] at hr; cases hr), fun j hj => ?_⟩
    by_cases hji : j = i
    · subst hji; exact self _ _ _ hq ⟨hS.next _, H⟩
    · have := ready_mono hj hji
      rw [H.1] at this
      cases this
  | succ fuel ih =>
    intro listed vt m hD hfree hr hq hS H
    refine ⟨fun h => (by rw [h] at hr; cases hr), fun j hj => ?_⟩
    by_cases hji : j = i
    · subst hji; exact self _ _ _ hq ⟨hS.next _, H⟩
    · have h1 := H.2 j (ready_mono hj hji)
      obtain ⟨hjun, oj, hoj, hall⟩ := mem_ready.1 hj
      have hiun := (mem_ready.1 hr).1
      have hnot : ∀ e ∈ oj.after, Region.binds .any e = true → e.on ≠ i := fun e he hb heq => by
        have h1 := hall e he hb
        have h0 := (mem_ready.1 hr).1
        rw [heq] at h1
        rcases Nat.lt_or_ge i listed.size with h' | h'
        · simp [h'] at h0 h1; rw [h0] at h1; cases h1
        · simp [Array.getElem?_eq_none h'] at h1
      obtain ⟨ap1, ap2, ap3⟩ := Oper.apart_spec (hfree j oj hoj hji hjun hnot)
      have hfree' : ∀ k ok, ops[k]? = some ok → k ≠ i → (listed.setIfInBounds j true).getD k true = false →
          (∀ e ∈ ok.after, Region.binds .any e = true → e.on ≠ i) → oi.apart ops ok = true := fun k ok hk hki hun hno => by
        refine hfree k ok hk hki ?_ hno
        by_cases hjk : j = k
        · subst hjk; exact hjun
        · rw [getD_set_ne true hjk] at hun; exact hun
      have again : ∀ (u : Value) (m' : Xm), SS ops cl dd two (listed.setIfInBounds j true) m0 m' → vAny P tbl ops ids cl dd two m0 K fuel ((listed.setIfInBounds i true).setIfInBounds j true) (vput (vput vt oi.dst v) oj.dst u) m' →
          vAny P tbl ops ids cl dd two m0 K (fuel + 1) (listed.setIfInBounds j true) (vput vt oj.dst u) m' := by
        intro u m' hS' h3
        refine ih (listed.setIfInBounds j true) (vput vt oj.dst u) m' (hD.next hj) hfree' (ready_mono hr (Ne.symm hji)) ?_ hS' ?_
        · rw [← hq]
          unfold vqG
          rw [wantedV_put ap3, vq_same (hsel i oi · · hi) (fun k hk => ?_) (VE_looks ap3)]
          have un : ∀ l : Array Bool, l.getD i true = false → isLd oi = true → ¬ FullA ops l := fun l hl hld hf => by
            have := hf i (Array.getElem?_eq_some_iff.1 hi).1 (by rw [pend_ld hi]; exact hld)
            rw [hl] at this
            cases this
          unfold lco at hk
          rw [Bool.or_eq_true, Bool.and_eq_true] at hk
          have e1 : m'[k]? = m0[k]? := hS' k (hk.imp id (fun x => ⟨x.2, un _ (by rw [getD_set_ne true hji]; exact hiun) x.1⟩))
          have e2 : m[k]? = m0[k]? := hS k (hk.imp id (fun x => ⟨x.2, un _ hiun x.1⟩))
          rw [e1, e2]
        · rw [Array.setIfInBounds_comm _ _ hji, vput_comm (fun d hd he => ap2 d he hd)]
          exact h3
      have h1 : vopR P tbl ops ids cl dd two j vt m (fun vt' m' => ∃ u, vt' = vput vt oj.dst u ∧ vAny P tbl ops ids cl dd two m0 K fuel ((listed.setIfInBounds i true).setIfInBounds j true) (vput (vput vt oi.dst v) oj.dst u) m') := by
        unfold vopR at h1 ⊢
        rw [hoj] at h1 ⊢
        dsimp only at h1 ⊢
        have eq : vqG P ops ids cl dd two j oj (vput vt oi.dst v) m = vqG P ops ids cl dd two j oj vt m := by
          unfold vqG
          rw [wantedV_put ap1, vq_same (hsel j oj · · hoj) (fun _ _ => rfl) (VE_looks ap1)]
        rw [eq] at h1
        cases hqj : vqG P ops ids cl dd two j oj vt m with
        | some u =>
          rw [hqj] at h1
          exact ⟨u, rfl, h1.2⟩
        | none =>
          rw [hqj] at h1
          dsimp only at h1 ⊢
          rw [guardB_iff] at h1 ⊢
          rw [vw_same (VE_looks ap1), va_same (hsel j oj · · hoj) (VE_looks ap1)] at h1
          refine ⟨h1.1, va_mono ?_ h1.2⟩
          rintro u m' ⟨_, h3⟩
          exact ⟨u, rfl, h3⟩
      have h2 := vopR_keep ht hD hj hS h1
      unfold vopR at h2 ⊢
      rw [hoj] at h2 ⊢
      dsimp only at h2 ⊢
      split at h2
      · obtain ⟨hS', u, he, h3⟩ := h2
        rw [he]
        exact ⟨hS', again u m hS' h3⟩
      · rw [guardB_iff] at h2 ⊢
        refine ⟨h2.1, va_mono ?_ h2.2⟩
        rintro w m' ⟨hS', u, he, h3⟩
        rw [he]
        exact ⟨hS', again u m' hS' h3⟩
theorem vfork_is {o : Oper} {vt : List Value} {F : List Value → Prop} : vfork ops o vt F ↔ F vt := by
  unfold vfork
  split
  · exact Iff.rfl
  · split
    · exact Iff.rfl
    · rename_i d _
      split
      · rename_i x hx
        have e : vt.set d (.bool x) = vt := by
          have hl : d < vt.length := by
            rcases Nat.lt_or_ge d vt.length with h | h
            · exact h
            · rw [List.getD_eq_getElem?_getD, List.getElem?_eq_none h] at hx
              cases hx
          rw [List.getD_eq_getElem?_getD, List.getElem?_eq_getElem hl, Option.getD_some] at hx
          rw [← hx]
          exact List.set_getElem_self hl
        cases x
        · show F (vt.set d (.bool false)) ↔ _
          rw [e]
        · show F (vt.set d (.bool true)) ↔ _
          rw [e]
      · exact Iff.rfl
theorem vdraw_any (ht : two = true → twoPh ops = true) (hsel : Region.noSelect ops = true) : ∀ (js : List Stp) (listed : Array Bool) (vt : List Value) (m : Xm), Run ops js listed → Dn ops listed → SS ops cl dd two listed m0 m → vdraw P tbl ops ids cl dd two K js vt m → vAny P tbl ops ids cl dd two m0 K js.length listed vt m
  | [], listed, vt, m, hr, _, _, h => ⟨hr, h⟩
  | (j, fr, al) :: js, listed, vt, m, hr, hD, hS, h => by
    obtain ⟨hj, hfr, hal, hrun⟩ := hr
    have hnext := hD.next hj
    unfold vdraw at h
    split at h
    · exact h.elim
    · rename_i o ho
      rw [vfork_is] at h
      split at h
      · rename_i v hv
        rw [guardB_iff] at h
        exact vAny_first ht ho (Region.noSelect_spec hsel) js.length listed vt m hD (Region.free_spec ho (hfr h.1)) hj hv hS (vdraw_any ht hsel js _ _ _ hrun hnext (hS.next _) h.2)
      · rename_i hv
        rw [guardB_iff] at h
        refine ⟨fun e => (by rw [e] at hj; cases hj), fun k hk => ?_⟩
        have hk2 := hal h.1 k hk
        dsimp only at hk2
        subst hk2
        have h2 : vopR P tbl ops ids cl dd two k vt m (fun vt' m' => vdraw P tbl ops ids cl dd two K js vt' m') := by
          unfold vopR
          rw [ho]
          dsimp only
          rw [hv]
          exact h.2
        have h2 := vopR_keep ht hD hj hS h2
        unfold vopR at h2 ⊢
        rw [ho] at h2 ⊢
        dsimp only at h2 ⊢
        rw [hv] at h2 ⊢
        dsimp only at h2 ⊢
        rw [guardB_iff] at h2 ⊢
        exact ⟨h2.1, va_mono (fun v m' h3 => ⟨h3.1, vdraw_any ht hsel js _ _ _ hrun hnext h3.1 h3.2⟩) h2.2⟩
end
end Go.Proofs.YtoadcnhcfodkgaaGreatDoor
