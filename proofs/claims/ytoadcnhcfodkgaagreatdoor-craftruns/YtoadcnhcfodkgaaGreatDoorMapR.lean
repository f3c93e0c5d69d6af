/-
  A region in which three maps and a struct are made in whatever order: what is known at each point of it, for the seat YtoadcnhcfodkgaaGreatDoor. No function's Go text in sight.
-/
import Derived.Test.YtoadcnhcfodkgaaGreatDoorMapQ
namespace Go.Proofs.YtoadcnhcfodkgaaGreatDoor
open Go.RowKit Go.Maps Go.WideMaps

/-- So many operations haven't come up yet. -/
def undone (L : Array Bool) : Nat := (L.toList.filter (fun b => !b)).length
theorem undone_set {L : Array Bool} {i : Nat} (h : L.getD i true = false) : undone (L.setIfInBounds i true) + 1 = undone L := by
  obtain ⟨l⟩ := L
  have h' : l[i]?.getD true = false := by simpa using h
  unfold undone
  simp only [List.setIfInBounds_toArray]
  clear h
  induction l generalizing i with
  | nil => simp at h'
  | cons b r ih =>
    cases i with
    | zero => simp at h'; simp [h']
    | succ i =>
      have := ih (i := i) (by simpa using h')
      cases b <;> simp [List.set_cons_succ] <;> omega
/-- What holds at each point of a region, whatever its order. -/
theorem orders_ind {P : Program} {md : Region.Mode} {l : List Oper} {Q : Exit → Act → World → Prop} (Inv : Array Bool → Act → World → Prop)
    (step : ∀ listed a w i o, l[i]? = some o → i ∈ Region.ready md l.toArray listed → Inv listed a w → ∀ K' : Act → World → Prop, Shut (∀ a w, Inv (listed.setIfInBounds i true) a w → K' a w) → if Region.wanted o (yielded l.toArray a.tmps) = true then Oper.wp P o a w K' Q else K' (a.put o.dst undef) w)
    (fin : ∀ listed a w, Region.ready md l.toArray listed = [] → Inv listed a w → Q .normal a w) :
    ∀ (fuel : Nat) (listed : Array Bool) (a : Act) (w : World), undone listed ≤ fuel → Inv listed a w → wpAnyH P md l.toArray Q (fun _ => True) fuel listed a w := by
  intro fuel
  induction fuel with
  | zero =>
    intro listed a w hu hI
    have hr : Region.ready md l.toArray listed = [] := by
      apply List.eq_nil_iff_forall_not_mem.2
      intro i hi
      have := undone_set (mem_ready.1 hi).1
      omega
    exact ⟨hr, fin listed a w hr hI⟩
  | succ fuel ih =>
    intro listed a w hu hI
    refine ⟨fun hr => fin listed a w hr hI, fun i hi => ?_⟩
    obtain ⟨hun, o, ho, _⟩ := mem_ready.1 hi
    have ho' : l[i]? = some o := by simpa using ho
    have hs := undone_set hun
    have h := step listed a w i o ho' hi hI (fun a' w' => True ∧ wpAnyH P md l.toArray Q (fun _ => True) fuel (listed.setIfInBounds i true) a' w') (fun a' w' k => ⟨trivial, ih _ a' w' (by omega) k⟩)
    unfold wpOp
    rw [ho]
    show if _ then _ else _
    split
    · rename_i hw
      rw [if_pos hw] at h
      exact Or.inl h
    · rename_i hw
      rw [if_neg hw] at h
      exact h
theorem no_ready {md : Region.Mode} {l : List Oper} {L : Array Bool} (hr : Region.ready md l.toArray L = []) {i : Nat} {o : Oper} (hi : l[i]? = some o) (hu : L.getD i true = false) (h : o.after.toList.all (fun e => !Region.binds md e || L.getD e.on false) = true) : False := by
  have m : i ∈ Region.ready md l.toArray L := mem_ready.2 ⟨hu, o, by simpa using hi, fun e he hb => by
    have := (List.all_eq_true.1 h) e (by simpa using he)
    rw [hb] at this
    simpa using this⟩
  rw [hr] at m
  exact absurd m List.not_mem_nil
/-- A store into a map, in its turn. -/
theorem mp_ins {ops : Array Oper} {op : Oper} {a : Act} {w : World} {K : Act → World → Prop} {Q : Exit → Act → World → Prop} {x y z : Operand} {k c : Nat} {f : Int → Int → Int} {n m v : Int} (hw : Region.wanted op (yielded ops a.tmps) = true)
    (ho : op.op = .insert 256 x y z) (hx : a.eval x = .map (some k)) (hy : a.eval y = .agg #[.int .i64 n, .int .i64 m]) (hz : a.eval z = .int .i64 v) (M : Mp k c f w) (hc : c < 1000) (hn : I64 n) (hm : I64 m) (hv : I64 v)
    (h : ∀ w', Mp k (c + 1) (putM f n m v) w' → Kept k w w' → K (a.put op.dst undef) w') : if Region.wanted op (yielded ops a.tmps) = true then Oper.wp Tryz.prog op a w K Q else K (a.put op.dst undef) w := by
  rw [if_pos hw]
  obtain ⟨w', hr, M', k'⟩ := M.store hc hn hm hv
  unfold Oper.wp
  simp [execOp, ho, hx, hy, hz, hr, Result.andThen]
  exact h w' M' k'
/-- One at (0, 0), one at (1, 1), if they are there. -/
def mf2 (p : Bool) (x : Int) (q : Bool) (y : Int) : Int → Int → Int := fun n m => if q = true ∧ n = 1 ∧ m = 1 then y else if p = true ∧ n = 0 ∧ m = 0 then x else 0
theorem mf2_zero (x y : Int) (n m : Int) : (0 : Int) = mf2 false x false y n m := by unfold mf2; simp
theorem mf2_p (x : Int) (q : Bool) (y : Int) (n m : Int) : putM (mf2 false x q y) 0 0 x n m = mf2 true x q y n m := by
  unfold putM mf2
  by_cases h : n = 0 ∧ m = 0
  · obtain ⟨rfl, rfl⟩ := h; simp
  · rw [if_neg h]; simp [h]
theorem mf2_q (p : Bool) (x y : Int) (n m : Int) : putM (mf2 p x false y) 1 1 y n m = mf2 p x true y n m := by
  unfold putM mf2
  by_cases h : n = 1 ∧ m = 1
  · obtain ⟨rfl, rfl⟩ := h; simp
  · rw [if_neg h]; simp [h]
/-- What is known while three maps (kA: at a0, kB, kC) and a struct (kD) come to be. -/
structure MI (w0 : World) (c s : Int) (a0 a2 a5 a6 b7 b9 b12 b13 q14 q16 q17 e18 d19 z20 : Bool) (x7 x10 x14 x15 x19 x20 x22 x23 : Value) (kA kB kC kD : Nat) (w : World) : Prop where
  bel : Below w0.heap.size w0 w
  A : a0 = true → x10 = .map (some kA) ∧ w0.heap.size ≤ kA ∧ Mp kA (a2.toNat + a5.toNat) (mf2 a2 1099511627776 a5 s) w
  B : b7 = true → x15 = .map (some kB) ∧ w0.heap.size ≤ kB ∧ Mp kB (b9.toNat + b12.toNat) (mf2 b9 0 b12 c) w
  C : q14 = true → x20 = .map (some kC) ∧ w0.heap.size ≤ kC ∧ Mp kC q16.toNat (mf2 false 0 q16 1099511627776) w
  A6 : a6 = true → x14 = .map (some kA) ∧ a0 = true ∧ a2 = true ∧ a5 = true
  B13 : b13 = true → x19 = .map (some kB) ∧ b7 = true ∧ b9 = true ∧ b12 = true
  C17 : q17 = true → x22 = .map (some kC) ∧ q14 = true ∧ q16 = true
  E : e18 = true → x23 = .agg #[.map (some kA), .map (some kB), .map (some kC)] ∧ a6 = true ∧ b13 = true ∧ q17 = true
  D : d19 = true → x7 = .pointer (some ⟨kD, 0, none⟩) ∧ w0.heap.size ≤ kD ∧ Arr kD (bif z20 then [.map (some kA), .map (some kB), .map (some kC)] else [.map none, .map none, .map none]) w
  va : a2 = true ∨ a5 = true → a0 = true
  vb : b9 = true ∨ b12 = true → b7 = true
  vc : q16 = true → q14 = true
  Z : z20 = true → e18 = true ∧ d19 = true
  AB : a0 = true → b7 = true → kA ≠ kB
  AC : a0 = true → q14 = true → kA ≠ kC
  BC : b7 = true → q14 = true → kB ≠ kC
  AD : a0 = true → d19 = true → kA ≠ kD
  BD : b7 = true → d19 = true → kB ≠ kD
  CD : q14 = true → d19 = true → kC ≠ kD
end Go.Proofs.YtoadcnhcfodkgaaGreatDoor
