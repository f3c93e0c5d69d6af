/-
  A run over names: an order of statements, worked out faster, for the seat YtoadcnhcfodkgaaGreatDoor. No Go text in sight.
-/
import Derived.Test.YtoadcnhcfodkgaaGreatDoorSxH
namespace Go.Proofs.YtoadcnhcfodkgaaGreatDoor.Nx
open Go.RowKit Go.Proofs.YtoadcnhcfodkgaaGreatDoor

def dM (o : Oper) : Nat :=
  match o.dst with
  | some d => Nat.shiftLeft 1 d
  | none => 0
def lM (ops : Array Oper) (o : Oper) : Nat := mOf (o.looksAt ops)
abbrev Inf := Nat × Nat × Nat × Nat
def infs (ops : Array Oper) : Nat → List Oper → List Inf
  | _, [] => []
  | j, o :: l => (j, dM o, lM ops o, mOf (depsO o)) :: infs ops (Nat.succ j) l
def okI (i dx lx : Nat) (e : Inf) : Bool := Nat.beq e.1 i || (Nat.testBit e.2.2.2 i || (Nat.beq (Nat.land dx e.2.2.1) 0 && (Nat.beq (Nat.land dx e.2.1) 0 && Nat.beq (Nat.land e.2.1 lx) 0)))
def confF (i dx lx : Nat) : List Inf → Nat
  | [] => 0
  | e :: l => (match okI i dx lx e with
    | true => confF i dx lx l
    | false => Nat.lor (confF i dx lx l) (Nat.shiftLeft 1 e.1))
theorem land_bit (d m : Nat) : Nat.beq (Nat.land (Nat.shiftLeft 1 d) m) 0 = !m.testBit d := by
  have e : Nat.shiftLeft 1 d = 2 ^ d := Nat.one_shiftLeft d
  rw [e]
  show Nat.beq (2 ^ d &&& m) 0 = _
  cases h : m.testBit d with
  | true =>
    cases hb : Nat.beq (2 ^ d &&& m) 0 with
    | false => rfl
    | true =>
      have h0 := Nat.eq_of_beq_eq_true hb
      have := congrArg (fun x => x.testBit d) h0
      simp [Nat.testBit_and, h] at this
  | false =>
    have : 2 ^ d &&& m = 0 := Nat.eq_of_testBit_eq fun i => by
      rw [Nat.testBit_and, Nat.testBit_two_pow, Nat.zero_testBit]
      by_cases e : d = i
      · subst e
        rw [h]
        simp
      · simp [e]
    rw [this]
    rfl
theorem after_bit (o : Oper) (i : Nat) : (mOf (depsO o)).testBit i = o.after.any (fun e => Region.binds .any e && e.on == i) := by
  rw [mOf_bit, Bool.eq_iff_iff, List.contains_iff_mem, mem_depsO, Array.any_eq_true]
  constructor
  · rintro ⟨e, he, hb, rfl⟩
    obtain ⟨k, hk, rfl⟩ := Array.mem_iff_getElem.1 he
    exact ⟨k, hk, by rw [hb]; simp⟩
  · rintro ⟨k, hk, h⟩
    rw [Bool.and_eq_true, beq_iff_eq] at h
    exact ⟨_, Array.getElem_mem hk, h.1, h.2⟩
theorem apart_bit (ops : Array Oper) (x y : Oper) : (Nat.beq (Nat.land (dM x) (lM ops y)) 0 && (Nat.beq (Nat.land (dM x) (dM y)) 0 && Nat.beq (Nat.land (dM y) (lM ops x)) 0)) = x.apart ops y := by
  have hm : ∀ (o : Oper) (d : Nat), (lM ops o).testBit d = (o.looksAt ops).contains d := fun o d => mOf_bit _ _
  unfold Oper.apart dM
  cases hx : x.dst with
  | none =>
    have e0 : ∀ m, Nat.beq (Nat.land 0 m) 0 = true := fun m => by
      have : Nat.land 0 m = 0 := Nat.zero_and m
      rw [this]
      rfl
    dsimp only
    rw [e0, e0]
    cases hy : y.dst with
    | none => dsimp only; rw [e0]; rfl
    | some d => dsimp only; rw [land_bit, hm]; rfl
  | some d =>
    dsimp only
    rw [land_bit, hm, land_bit]
    cases hy : y.dst with
    | none =>
      dsimp only
      have e0 : ∀ m, Nat.beq (Nat.land 0 m) 0 = true := fun m => by
        have : Nat.land 0 m = 0 := Nat.zero_and m
        rw [this]
        rfl
      rw [e0]
      simp
    | some k =>
      dsimp only
      rw [land_bit, hm]
      have e : Nat.testBit (Nat.shiftLeft 1 k) d = decide (k = d) := by
        have : Nat.shiftLeft 1 k = 2 ^ k := Nat.one_shiftLeft k
        rw [this, Nat.testBit_two_pow]
      rw [e]
      have e2 : (some k != some d) = !decide (k = d) := by
        by_cases h : k = d
        · subst h
          simp
        · have : some k ≠ some d := fun e => h (Option.some.inj e)
          simp [h, this]
      rw [e2, Bool.and_assoc]
theorem confF_bit (ops : Array Oper) (i dx lx : Nat) : ∀ (l : List Oper) (j k : Nat), (confF i dx lx (infs ops j l)).testBit k = (decide (j ≤ k) && match l[k - j]? with
    | some o => !okI i dx lx (k, dM o, lM ops o, mOf (depsO o))
    | none => false)
  | [], j, k => by
    simp [infs, confF]
  | o :: l, j, k => by
    have ih := confF_bit ops i dx lx l (Nat.succ j) k
    have hrest : k ≠ j → (decide (Nat.succ j ≤ k) && match l[k - Nat.succ j]? with
        | some o => !okI i dx lx (k, dM o, lM ops o, mOf (depsO o))
        | none => false) = (decide (j ≤ k) && match (o :: l)[k - j]? with
        | some o => !okI i dx lx (k, dM o, lM ops o, mOf (depsO o))
        | none => false) := fun hk => by
      by_cases h : j ≤ k
      · have e : k - j = (k - Nat.succ j) + 1 := by omega
        rw [e, List.getElem?_cons_succ, decide_eq_true h, decide_eq_true (show Nat.succ j ≤ k by omega)]
      · rw [decide_eq_false h, decide_eq_false (show ¬ Nat.succ j ≤ k by omega), Bool.false_and, Bool.false_and]
    unfold infs confF
    split
    · rename_i hok
      rw [ih]
      by_cases hk : k = j
      · subst hk
        rw [decide_eq_false (show ¬ Nat.succ k ≤ k by omega), Bool.false_and, Nat.sub_self]
        simp [hok]
      · exact hrest hk
    · rename_i hok
      show (_ ||| Nat.shiftLeft 1 j).testBit k = _
      have e : Nat.shiftLeft 1 j = 2 ^ j := Nat.one_shiftLeft j
      rw [Nat.testBit_or, ih, e, Nat.testBit_two_pow]
      by_cases hk : k = j
      · subst hk
        rw [Nat.sub_self]
        simp [hok]
      · rw [hrest hk, show decide (j = k) = false from decide_eq_false (fun h => hk h.symm), Bool.or_false]
theorem confF_is (ops : Array Oper) (i : Nat) (o : Oper) : confF i (dM o) (lM ops o) (infs ops 0 ops.toList) = confM ops i o := by
  refine Nat.eq_of_testBit_eq fun k => ?_
  rw [confF_bit]
  unfold confM
  rw [mOf_bit]
  rw [Bool.eq_iff_iff, List.contains_iff_mem, List.mem_filter, List.mem_range]
  simp only [Nat.zero_le, decide_true, Bool.true_and, Nat.sub_zero, Array.getElem?_toList]
  cases hk : ops[k]? with
  | none =>
    have : ¬ k < ops.size := by simpa using hk
    simp [this]
  | some oj =>
    have hlt : k < ops.size := (Array.getElem?_eq_some_iff.1 hk).1
    unfold okI
    dsimp only
    rw [after_bit, apart_bit]
    have e : Nat.beq k i = (k == i) := by
      rw [Bool.eq_iff_iff, beq_iff_eq]
      exact ⟨Nat.eq_of_beq_eq_true, fun h => by subst h; exact Nat.beq_refl k⟩
    rw [e]
    constructor
    · exact fun h => ⟨hlt, h⟩
    · exact fun h => h.2
def pendF (inf : List Inf) (ops : Array Oper) : Nat → List Oper → List Pend
  | _, [] => []
  | i, o :: l => (i, mOf (depsO o), confF i (dM o) (lM ops o) inf, quietO o, isSt o, isLd o) :: pendF inf ops (Nat.succ i) l
theorem pendF_go (ops : Array Oper) : ∀ (l : List Oper) (i : Nat), (∀ k o, l[k]? = some o → ops[i + k]? = some o) → pendF (infs ops 0 ops.toList) ops i l = (List.range' i l.length).map (pend ops)
  | [], _, _ => rfl
  | o :: l, i, h => by
    unfold pendF
    rw [List.length_cons, List.range'_succ, List.map_cons, pendF_go ops l (Nat.succ i) (fun k o hk => by
      have := h (k + 1) o (by simpa using hk)
      rwa [← Nat.add_assoc, Nat.add_right_comm] at this)]
    congr 1
    have h0 := h 0 o rfl
    unfold pend
    rw [show ops[i]? = some o from h0]
    dsimp only
    rw [confF_is]
def pendsF (ops : Array Oper) : List Pend := pendF (infs ops 0 ops.toList) ops 0 ops.toList
theorem pendsF_is (ops : Array Oper) : pendsF ops = pends ops := by
  unfold pendsF pends
  rw [pendF_go ops ops.toList 0 (fun k o hk => by rw [Nat.zero_add]; simpa using hk), List.range_eq_range', Array.length_toList]
def schF (ops : Array Oper) : Option (List Stp) := schGo (pendsF ops) ops.size 0 (pendsF ops)
theorem schF_is (ops : Array Oper) : schF ops = sch ops := by unfold schF sch; rw [pendsF_is]
def twoPhF (ops : Array Oper) : Bool := (pendsF ops).all fun e => !e.2.2.2.2.1 || subM (loadsM (pendsF ops)) (closeM (pendsF ops) 40 e.2.1)
theorem twoPhF_is (ops : Array Oper) : twoPhF ops = twoPh ops := by unfold twoPhF twoPh; rw [pendsF_is]
end Go.Proofs.YtoadcnhcfodkgaaGreatDoor.Nx
