/-
  A run over names: what is known of functions, and operations that change memory, for the seat YtoadcnhcfodkgaaGreatDoor. No Go text in sight.
-/
import Derived.Test.YtoadcnhcfodkgaaGreatDoorNxD
namespace Go.Proofs.YtoadcnhcfodkgaaGreatDoor.Nx
open Go.RowKit Go.Proofs.YtoadcnhcfodkgaaGreatDoor

section
variable {τ : List Int}
def eqV : Value → Value → Bool
  | .int k n, .int k' n' => decide (k = k') && decide (n = n')
  | .bool a, .bool b => a == b
  | .tuple ⟨[]⟩, .tuple ⟨[]⟩ => true
  | _, _ => false
theorem eqV_is {a b : Value} (h : eqV a b = true) : a = b := by
  unfold eqV at h
  split at h
  · simp only [Bool.and_eq_true, decide_eq_true_eq] at h
    rw [h.1, h.2]
  · rw [eq_of_beq h]
  · rfl
  · cases h
def le0 (t s : Value) : Bool :=
  match tkn s with
  | some (0, k, _) => (match kindA t with
    | some k' => decide (k' = k)
    | none => false)
  | some (1, _, _) => boolA t
  | some (_, _, _) => false
  | none => eqV t s
def allB {α : Type} (p : α → α → Bool) : List α → List α → Bool
  | [], [] => true
  | a :: l, b :: m => p a b && allB p l m
  | _, _ => false
def le1 (t s : Value) : Bool :=
  match s with
  | .agg cs => (match t with
    | .agg ds => allB le0 ds.toList cs.toList
    | _ => false)
  | s => plain t && le0 t s
def le2 (t s : Value) : Bool :=
  match s with
  | .tuple ⟨a :: b :: r⟩ => (match t with
    | .tuple ⟨c :: d :: q⟩ => allB le1 (c :: d :: q) (a :: b :: r)
    | _ => false)
  | s => notMulti t && le1 t s
theorem le0_ok {t s v : Value} (h : le0 t s = true) (g : G0 τ t v) : G0 τ s v := by
  unfold le0 at h
  unfold G0
  split at h
  · rename_i k _ e
    rw [e]
    split at h
    · rename_i k' hk
      have : k' = k := by simpa using h
      subst this
      exact kindA_is0 hk g
    · cases h
  · rename_i e
    rw [e]
    exact boolA_is0 h g
  · cases h
  · rename_i e
    rw [e]
    have := eqV_is h
    subst this
    exact ⟨g.eq e, g.plain⟩
theorem allB_ok {p : Value → Value → Bool} {R : Value → Value → Prop} (hp : ∀ t s v, p t s = true → R t v → R s v) : ∀ {l m vs : List Value}, allB p l m = true → All2 R l vs → All2 R m vs
  | [], [], [], _, _ => trivial
  | a :: l, b :: m, v :: vs, h, g => by
    simp only [allB, Bool.and_eq_true] at h
    exact ⟨hp a b v h.1 g.1, allB_ok hp h.2 g.2⟩
  | [], _ :: _, _, h, _ => by cases h
  | _ :: _, [], _, h, _ => by cases h
  | [], [], _ :: _, _, g => g.elim
  | _ :: _, _ :: _, [], _, g => g.elim
theorem le1_ok {t s v : Value} (h : le1 t s = true) (g : G1 τ t v) : G1 τ s v := by
  unfold le1 at h
  split at h
  · split at h
    · obtain ⟨l, rfl, gl⟩ := g
      exact ⟨l, rfl, allB_ok (R := G0 τ) (fun _ _ _ h g => le0_ok h g) h gl⟩
    · cases h
  · rw [Bool.and_eq_true] at h
    have g0 : G0 τ t v := by
      unfold G1 at g
      split at g
      · cases h.1
      · exact g
    exact (le0_ok h.2 g0).g1
theorem le2_ok {t s v : Value} (h : le2 t s = true) (g : G2 τ t v) : G2 τ s v := by
  unfold le2 at h
  split at h
  · split at h
    · obtain ⟨l, rfl, gl⟩ := g
      exact ⟨l, rfl, allB_ok (R := G1 τ) (fun _ _ _ h g => le1_ok h g) h gl⟩
    · cases h
  · rw [Bool.and_eq_true] at h
    have g1 : G1 τ t v := by
      unfold G2 at g
      split at g
      · cases h.1
      · exact g
    exact (le1_ok h.2 g1).g2
theorem leL_ok {l m vs : List Value} (h : allB le2 l m = true) (g : All2 (G2 τ) l vs) : All2 (G2 τ) m vs := allB_ok (R := G2 τ) (fun _ _ _ h g => le2_ok h g) h g
end
/-! ### Functions -/
/-- A function as a run by values meets it: it ends, with something. -/
def anyCt (P : Program) (f : Nat) (go : ∀ (args : Array Value) (w : World), (callFunc f args).run P w = .ok (.enter f args) w) : Ct P where
  fn := f
  sp := fun args m K => (∃ k rest v bad bad', args = ptr k :: rest ∧ m[k]? = some [.bool bad] ∧ (∀ u ∈ rest, isP u = false) ∧ isP v = false ∧ (∀ b w, GW w → 1 < b → Fl b bad w → Calls P f (ptr b :: rest).toArray w fun e w' => e = .returned v ∧ Fl b bad' w' ∧ Kept b w w') ∧ K v (m.set k [.bool bad'])) ∨
    ∃ v, (∀ u ∈ args, isP u = false) ∧ isP v = false ∧ (∀ w, GW w → Calls P f args.toArray w fun e w' => e = .returned v ∧ Below w.heap.size w w') ∧ K v m
  go := go
  mono := fun hK hs => by
    rcases hs with ⟨k, rest, v, bad, bad', h1, h2, h3, h4, h5, h6⟩ | ⟨v, h1, h2, h3, h4⟩
    · exact .inl ⟨k, rest, v, bad, bad', h1, h2, h3, h4, h5, hK _ _ h6⟩
    · exact .inr ⟨v, h1, h2, h3, hK _ _ h4⟩
  keep := fun {args m K} hs => by
    rcases hs with ⟨k, rest, v, bad, bad', h1, h2, h3, h4, h5, h6⟩ | ⟨v, h1, h2, h3, h4⟩
    · refine .inl ⟨k, rest, v, bad, bad', h1, h2, h3, h4, h5, h6, List.length_set .., fun k' hk' => ?_⟩
      have e : k ≠ k' := by rintro rfl; exact hk' (by rw [h1]; simp [ptrs, ptr])
      rw [List.getElem?_set_ne e]
    · exact .inr ⟨v, h1, h2, h3, h4, rfl, fun _ _ => rfl⟩
  ok := fun {bs w0 bl m w args args' K} R hlen hv hs => by
    rcases hs with ⟨k, rest, v, bad, bad', h1, hmk, hp, hr, hcl, hK⟩ | ⟨v, hp, hr, hcl, hK⟩
    · subst h1
      obtain ⟨B, hB, he⟩ := hv 0
      have hargs : args' = (ptr B :: rest).toArray := by
        refine Array.ext (by rw [hlen]; simp) (fun i h1 h2 => ?_)
        cases i with
        | zero =>
          simp only [Array.getD_eq_getD_getElem?, Array.getElem?_eq_getElem h1] at he
          simpa [ptr] using he
        | succ i =>
          have hi : i < rest.length := by simp at hlen; omega
          have := hv (i + 1)
          simp only [List.getD_eq_getElem?_getD, Array.getD_eq_getD_getElem?, List.getElem?_cons_succ] at this
          rw [List.getElem?_eq_getElem hi, Array.getElem?_eq_getElem h1] at this
          have e := this.plain (hp _ (List.getElem_mem hi))
          simp only [Option.getD_some] at e
          rw [e]
          simp
      obtain ⟨l2, e2, A⟩ := R.arr k B hB
      have e2 : m[k]? = some l2 := e2
      rw [hmk] at e2
      cases e2
      rw [hargs]
      refine Calls.mono (hcl B w R.gwAt (R.gt hB hmk (List.cons_ne_nil _ _)) (fl_arr A)) ?_
      rintro e w' ⟨rfl, F, Kp⟩
      exact ⟨_, _, _, rfl, .same hr, hK, R.flow hB hmk F Kp⟩
    · rw [args_same hlen hv hp]
      refine Calls.mono (hcl w R.gwAt) ?_
      rintro e w' ⟨rfl, Kp⟩
      exact ⟨_, _, _, rfl, .same hr, hK, R.pure Kp⟩
/-- A function as a run over names meets it (σ: what is noted of the flow on the way). -/
structure Rw (σ : Type) where
  fn : Nat
  flow : Bool
  /-- A pure one, whose calls are noted. -/
  nt : Bool := false
  run : Program → List Value → Value → Fct → σ → (Value → Value → Fct → σ → Bool) → Bool
/-- It is so (I: what the notes tell). -/
structure RwOk (P : Program) {σ : Type} (I : List Int → σ → Bool → Prop) (a : Rw σ) : Prop where
  go : ∀ (args : Array Value) (w : World), (callFunc a.fn args).run P w = .ok (.enter a.fn args) w
  okF : a.flow = true → ∀ {args rest : List Value} {c : Value} {F : Fct} {s : σ} {K : Value → Value → Fct → σ → Bool} {τ : List Int} {bad : Bool}, a.run P args c F s K = true → All2 (G2 τ) args rest → G0 τ c (.bool bad) → FctOk τ F → I τ s bad →
    ∃ v bad' τ' t c' F' s', K t c' F' s' = true ∧ (∀ u ∈ rest, isP u = false) ∧ isP v = false ∧ (∀ b w, GW w → 1 < b → Fl b bad w → Calls P a.fn (ptr b :: rest).toArray w fun e w' => e = .returned v ∧ Fl b bad' w' ∧ Kept b w w') ∧ Ext τ τ' ∧ G2 τ' t v ∧ G0 τ' c' (.bool bad') ∧ FctOk τ' F' ∧ I τ' s' bad'
  okP : a.flow = false → a.nt = false → ∀ {args rest : List Value} {c : Value} {F : Fct} {s : σ} {K : Value → Value → Fct → σ → Bool} {τ : List Int}, a.run P args c F s K = true → All2 (G2 τ) args rest → FctOk τ F →
    ∃ v t F', K t c F' s = true ∧ (∀ u ∈ rest, isP u = false) ∧ isP v = false ∧ (∀ w, GW w → Calls P a.fn rest.toArray w fun e w' => e = .returned v ∧ Below w.heap.size w w') ∧ G2 τ t v ∧ FctOk τ F'
  okN : a.nt = true → ∀ {args rest : List Value} {c : Value} {F : Fct} {s : σ} {K : Value → Value → Fct → σ → Bool} {τ : List Int} {bad : Bool}, a.run P args c F s K = true → All2 (G2 τ) args rest → FctOk τ F → I τ s bad →
    ∃ v τ' t F' s', K t c F' s' = true ∧ (∀ u ∈ rest, isP u = false) ∧ isP v = false ∧ (∀ w, GW w → Calls P a.fn rest.toArray w fun e w' => e = .returned v ∧ Below w.heap.size w w') ∧ Ext τ τ' ∧ G2 τ' t v ∧ FctOk τ' F' ∧ I τ' s' bad := by intro h; cases h
abbrev TOk (P : Program) {σ : Type} (I : List Int → σ → Bool → Prop) (tbl : List (Rw σ)) : Prop := ∀ a ∈ tbl, RwOk P I a
section
variable {P : Program} {σ : Type} {I : List Int → σ → Bool → Prop} {τ : List Int}
def cts (P : Program) {σ : Type} {I : List Int → σ → Bool → Prop} (tbl : List (Rw σ)) (hT : TOk P I tbl) : List (Ct P) := tbl.attach.map fun a => anyCt P a.1.fn (hT a.1 a.2).go
theorem find_att {P : Program} (g : ∀ a : Rw σ, RwOk P I a → Ct P) (hg : ∀ a h, (g a h).fn = a.fn) : ∀ (tbl : List (Rw σ)) (hT : TOk P I tbl) (n : Nat) (a : Rw σ), tbl.find? (fun a => a.fn == n) = some a → ∃ h : RwOk P I a, (tbl.attach.map fun a => g a.1 (hT a.1 a.2)).find? (fun ct => ct.fn == n) = some (g a h)
  | [], _, _, _, h => by cases h
  | x :: tbl, hT, n, a, h => by
    rw [List.attach_cons, List.map_cons, List.find?_cons, hg]
    rw [List.find?_cons] at h
    split at h
    · rename_i e
      cases h
      refine ⟨hT _ List.mem_cons_self, ?_⟩
      simp only [e]
    · rename_i e
      obtain ⟨k, hk⟩ := find_att g hg tbl (fun a ha => hT a (List.mem_cons_of_mem _ ha)) n a h
      refine ⟨k, ?_⟩
      simp only [e, List.map_map]
      exact hk
theorem find_ct {tbl : List (Rw σ)} (hT : TOk P I tbl) {n : Nat} {a : Rw σ} (h : tbl.find? (fun a => a.fn == n) = some a) : ∃ k : RwOk P I a, (cts P tbl hT).find? (fun ct => ct.fn == n) = some (anyCt P a.fn k.go) := find_att (fun a h => anyCt P a.fn h.go) (fun _ _ => rfl) tbl hT n a h
/-- The flow's bool, and what is noted of it. -/
def Inv (I : List Int → σ → Bool → Prop) (fl : Bool) (τ : List Int) (s : σ) (m : Xm) : Prop := fl = true → ∃ b, m[0]? = some [.bool b] ∧ I τ s b
/-- More is named, by a flow's functions alone. -/
def ExtF (fl : Bool) (τ τ' : List Int) : Prop := Ext τ τ' ∧ (fl = false → τ' = τ)
theorem ExtF.refl (fl : Bool) (τ : List Int) : ExtF fl τ τ := ⟨Ext.refl _, fun _ => rfl⟩
theorem ExtF.trans {fl : Bool} {a b c : List Int} (h : ExtF fl a b) (k : ExtF fl b c) : ExtF fl a c := ⟨h.1.trans k.1, fun e => (k.2 e).trans (h.2 e)⟩
def cellA (t : Value) : Bool := cellOk t || (tkn t).isSome
def storeA (P : Program) (t : TypeId) (l : List Value) (off : Nat) (v : Value) : Option (List Value) :=
  match qrun P (sizeOf t) with
  | some n => if notMulti v && (v.cells.size == n) && decide (off + v.cells.toList.length ≤ l.length) && v.cells.toList.all cellA then some (setAt l off v.cells.toList) else none
  | none => none
theorem cellA_ok {t v : Value} (h : cellA t = true) (g : G0 τ t v) : cellOk v = true := by
  unfold G0 at g
  split at g
  · obtain ⟨x, rfl⟩ := g; rfl
  · obtain ⟨x, rfl⟩ := g; rfl
  · obtain ⟨x, _, rfl⟩ := g; rfl
  · obtain ⟨x, _, rfl⟩ := g; rfl
  · rename_i e
    rw [g.1]
    simpa [cellA, e] using h
theorem cellsA_ok : ∀ {l vs : List Value}, l.all cellA = true → All2 (G0 τ) l vs → vs.all cellOk = true
  | [], [], _, _ => rfl
  | a :: l, v :: vs, h, g => by
    simp only [List.all_cons, Bool.and_eq_true] at h ⊢
    exact ⟨cellA_ok h.1 g.1, cellsA_ok h.2 g.2⟩
  | [], _ :: _, _, g => g.elim
  | _ :: _, [], _, g => g.elim
theorem setAt_nat : ∀ (xs ys l m : List Value) (o : Nat), All2 (G0 τ) xs ys → All2 (G0 τ) l m → All2 (G0 τ) (setAt l o xs) (setAt m o ys)
  | [], [], _, _, _, _, h => h
  | _ :: xs, _ :: ys, _, _, o, g, h => setAt_nat xs ys _ _ (o + 1) g.2 (h.set o _ _ g.1)
  | [], _ :: _, _, _, _, g, _ => g.elim
  | _ :: _, [], _, _, _, g, _ => g.elim
theorem storeA_ok {t : TypeId} {l l' r : List Value} {off : Nat} {x v : Value} (h : storeA P t l off x = some r) (gl : All2 (G0 τ) l l') (g : G2 τ x v) : ∃ r', storeV P t l' off v = some r' ∧ All2 (G0 τ) r r' := by
  unfold storeA at h
  unfold storeV
  split at h
  · rename_i n hn
    split at h
    · rename_i hc
      cases h
      simp only [Bool.and_eq_true, beq_iff_eq, decide_eq_true_eq] at hc
      have gc := cells_nat g hc.1.1.1
      have e1 := gc.len
      have e2 := gl.len
      have e3 : v.cells.size = x.cells.size := by simpa using e1.symm
      refine ⟨setAt l' off v.cells.toList, ?_, setAt_nat _ _ _ _ off gc gl⟩
      rw [hn]
      dsimp only
      rw [if_pos]
      simp only [Bool.and_eq_true, beq_iff_eq, decide_eq_true_eq]
      exact ⟨⟨by rw [e3]; exact hc.1.1.2, by rw [← e1, ← e2]; exact hc.1.2⟩, cellsA_ok hc.2 gc⟩
    · cases h
  · cases h
theorem args_nat {at' vt : List Value} (F : GF τ at' vt) : ∀ (l : List Operand), (∀ x ∈ l, okA x = true) → All2 (G2 τ) (l.map (VE at')) (l.map (VE vt))
  | [], _ => trivial
  | x :: l, h => ⟨F.ev (h x List.mem_cons_self), args_nat F l (fun y hy => h y (List.mem_cons_of_mem _ hy))⟩
theorem ptrs_none {v : Value} (h : isP v = false) (l : List Value) : ptrs (v :: l) = ptrs l := by
  cases v with
  | pointer a =>
    cases a with
    | none => rfl
    | some a => cases h
  | _ => rfl
theorem ptrs_nat : ∀ {l m : List Value}, All2 (G2 τ) l m → ptrs m = ptrs l
  | [], [], _ => rfl
  | a :: l, b :: m, g => by
    have ih : ptrs m = ptrs l := ptrs_nat g.2
    have hp := g.1.isP
    cases ha : isP a with
    | true =>
      match a, ha, g.1 with
      | .nilIface, _, g1 =>
        have e : b = .nilIface := g1.1
        rw [e]
        exact ih
      | .slice (some x) n c, _, g1 =>
        have e : b = .slice (some x) n c := g1.1
        rw [e]
        exact ih
      | .pointer (some x), _, g1 =>
        rw [g1.ptr]
        show x.block :: ptrs m = x.block :: ptrs l
        rw [ih]
    | false =>
      rw [ha] at hp
      rw [ptrs_none ha, ptrs_none hp, ih]
  | [], _ :: _, g => g.elim
  | _ :: _, [], g => g.elim
/-- What an operation that changes memory comes to, or reads what others change (calls by themselves: acall). -/
def aa (P : Program) (F : Fct) (fl : Bool) (id : Nat) (o : Oper) (ρ : Operand → Value) (m : Xm) : Option (Value × Xm) :=
  match o.op.operands.all okA, o.op with
  | true, .store t x y =>
    (match ρ x with
    | .pointer (some ⟨k, off, none⟩) => (match m[k]? with
      | some l => (match isP (ρ y) || (fl && Nat.beq k 0), storeA P t l off (ρ y) with
        | false, some l' => some (undef, m.set k l')
        | _, _ => none)
      | none => none)
    | _ => none)
  | true, .box _ x => (match isP (ρ x) || !notMulti (ρ x) || (fl && Nat.beq id 0), (ρ x).cells.toList.all cellA with
      | false, true => some (.pointer (some ⟨id, 0, none⟩), m.set id (ρ x).cells.toList)
      | _, _ => none)
  | true, .load _ _ =>
    (match aq P F (fun _ => true) id o ρ m with
    | some v => some (v, m)
    | none => none)
  | _, _ => none
/-- Whom an operation calls, and with what. -/
def callOf (o : Oper) (ρ : Operand → Value) : Option (Nat × List Value) :=
  match o.op.operands.all okA, o.op with
  | true, .call c => (match c.callee with
    | .value (.func n) => some (n, c.args.toList.map ρ)
    | _ => none)
  | _, _ => none
theorem callOf_ok {tbl : List (Rw σ)} (hT : TOk P I tbl) {id : Nat} {o : Oper} {at' vt : List Value} {m : Xm} {n : Nat} {args : List Value} (h : callOf o (VE at') = some (n, args)) (F : GF τ at' vt) :
    ∃ vargs, All2 (G2 τ) args vargs ∧ ∀ {ct : Ct P} {K : Value → Xm → Prop}, (cts P tbl hT).find? (fun ct => ct.fn == n) = some ct → ct.sp vargs m K → va P (cts P tbl hT) id o (VE vt) m K := by
  unfold callOf at h
  split at h
  · rename_i c hok hop
    have hX : o.op.operands.all okX = true := Array.all_eq_true_iff_forall_mem.2 (fun x hx => okA_okX (Array.all_eq_true_iff_forall_mem.1 hok x hx))
    split at h
    · rename_i n' hcal
      cases h
      refine ⟨_, args_nat F c.args.toList (fun x hx => Array.all_eq_true_iff_forall_mem.1 hok x (by
          simp only [hop, Op.operands, Call.operands]
          exact Array.mem_append_right _ (by simpa using hx))), fun {ct K} hct hsp => ?_⟩
      unfold va
      rw [hX, hop]
      dsimp only
      rw [hcal]
      dsimp only
      rw [hct]
      exact hsp
    · cases h
  · cases h
theorem aa_ok {F0 : Fct} (hF0 : FctOk τ F0) {fl : Bool} {tbl : List (Ct P)} {id : Nat} {o : Oper} {at' vt : List Value} {am am' m : Xm} {s : σ} {r : Value} (h : aa P F0 fl id o (VE at') am = some (r, am')) (F : GF τ at' vt) (M : GM τ am m) (J : Inv I fl τ s m) :
    ∃ v m', (∀ K : Value → Xm → Prop, K v m' → va P tbl id o (VE vt) m K) ∧ G2 τ r v ∧ GM τ am' m' ∧ Inv I fl τ s m' := by
  unfold aa at h
  split at h
  · rename_i t x y hok hop
    have hX : o.op.operands.all okX = true := Array.all_eq_true_iff_forall_mem.2 (fun x hx => okA_okX (Array.all_eq_true_iff_forall_mem.1 hok x hx))
    have hev : ∀ x ∈ o.op.operands, G2 τ (VE at' x) (VE vt x) := fun x hx => F.ev (Array.all_eq_true_iff_forall_mem.1 hok x hx)
    have h1 := hev x (by simp [hop, Op.operands])
    have h2 := hev y (by simp [hop, Op.operands])
    split at h
    · rename_i k off hx
      rw [hx] at h1
      split at h
      · rename_i l hl
        obtain ⟨l', hl', gl⟩ := M.g k l hl
        split at h
        · rename_i r' hp hst
          cases h
          rw [Bool.or_eq_false_iff] at hp
          obtain ⟨u, hs, gs⟩ := storeA_ok hst gl h2
          refine ⟨undef, m.set k u, fun K hK => ?_, real2_same rfl, M.set k gs, fun hf => ?_⟩
          · unfold va
            rw [hX, hop]
            dsimp only
            rw [h1.ptr]
            dsimp only
            rw [hl']
            dsimp only
            rw [h2.isP, hp.1, hs]
            exact hK
          · obtain ⟨b, i1, i2⟩ := J hf
            have hne : k ≠ 0 := by
              rintro rfl
              rw [hf] at hp
              cases hp.2
            exact ⟨b, by rw [List.getElem?_set_ne hne]; exact i1, i2⟩
        · cases h
      · cases h
    · cases h
  · rename_i t x hok hop
    have hX : o.op.operands.all okX = true := Array.all_eq_true_iff_forall_mem.2 (fun x hx => okA_okX (Array.all_eq_true_iff_forall_mem.1 hok x hx))
    have h1 := F.ev (Array.all_eq_true_iff_forall_mem.1 hok x (by simp [hop, Op.operands]))
    split at h
    · rename_i hp hc
      cases h
      simp only [Bool.or_eq_false_iff, Bool.not_eq_false'] at hp
      have gc := cells_nat h1 hp.1.2
      refine ⟨.pointer (some ⟨id, 0, none⟩), m.set id (VE vt x).cells.toList, fun K hK => ?_, ⟨rfl, rfl⟩, M.set id gc, fun hf => ?_⟩
      · unfold va
        rw [hX, hop]
        dsimp only
        rw [h1.isP, hp.1.1, cellsA_ok hc gc]
        exact hK
      · obtain ⟨b, i1, i2⟩ := J hf
        have hne : id ≠ 0 := by
          rintro rfl
          rw [hf] at hp
          cases hp.2
        exact ⟨b, by rw [List.getElem?_set_ne hne]; exact i1, i2⟩
    · cases h
  · rename_i t x hok hop
    have hX : o.op.operands.all okX = true := Array.all_eq_true_iff_forall_mem.2 (fun x hx => okA_okX (Array.all_eq_true_iff_forall_mem.1 hok x hx))
    split at h
    · rename_i v hv
      cases h
      obtain ⟨u, hu, gu⟩ := aq_ok hF0 hv F M
      refine ⟨u, m, fun K hK => ?_, gu, M, J⟩
      unfold va
      rw [hX, hop]
      dsimp only
      rw [hu]
      exact hK
    · cases h
  · cases h
theorem aa_okA {F0 : Fct} {fl : Bool} {id : Nat} {o : Oper} {ρ : Operand → Value} {am am' : Xm} {r : Value} (h : aa P F0 fl id o ρ am = some (r, am')) : o.op.operands.all okA = true := by
  cases hc : o.op.operands.all okA with
  | true => rfl
  | false =>
    unfold aa at h
    rw [hc] at h
    cases h
theorem callOf_okA {o : Oper} {ρ : Operand → Value} {r : Nat × List Value} (h : callOf o ρ = some r) : o.op.operands.all okA = true := by
  cases hc : o.op.operands.all okA with
  | true => rfl
  | false =>
    unfold callOf at h
    rw [hc] at h
    cases h
/-- Where names tell that it changes something, it does. -/
theorem vq_none {F0 : Fct} {fl : Bool} {cl : Nat → Bool} {id : Nat} {o : Oper} {at' vt : List Value} {am am' m : Xm} {r : Value} (h : aa P F0 fl id o (VE at') am = some (r, am')) (hq : aq P F0 cl id o (VE at') am = none) (F : GF τ at' vt) : vq P cl id o (VE vt) m = none := by
  have hok := aa_okA h
  have hX : o.op.operands.all okX = true := Array.all_eq_true_iff_forall_mem.2 (fun x hx => okA_okX (Array.all_eq_true_iff_forall_mem.1 hok x hx))
  unfold vq
  rw [if_pos hX]
  unfold aa at h
  rw [hok] at h
  unfold aq at hq
  rw [if_pos hok] at hq
  cases hop : o.op <;> rw [hop] at h hq <;> dsimp only at h hq ⊢ <;> try (cases h; done)
  case load t x =>
    have h1 := F.ev (Array.all_eq_true_iff_forall_mem.1 hok x (by simp [hop, Op.operands]))
    split at h
    · rename_i v hv
      unfold aq at hv
      rw [if_pos hok, hop] at hv
      dsimp only at hv
      split at hv
      · rename_i k off hx
        rw [hx] at h1 hq
        rw [h1.ptr]
        dsimp only at hq ⊢
        cases hc : cl k with
        | false => rfl
        | true =>
          rw [if_pos hc] at hq
          rw [if_pos rfl] at hv
          rw [hq] at hv
          cases hv
      · cases hv
    · cases h
theorem vq_call {cl : Nat → Bool} {id : Nat} {o : Oper} {ρ ρ' : Operand → Value} {m : Xm} {r : Nat × List Value} (h : callOf o ρ = some r) : vq P cl id o ρ' m = none := by
  have hok := callOf_okA h
  have hX : o.op.operands.all okX = true := Array.all_eq_true_iff_forall_mem.2 (fun x hx => okA_okX (Array.all_eq_true_iff_forall_mem.1 hok x hx))
  unfold vq
  rw [if_pos hX]
  unfold callOf at h
  rw [hok] at h
  cases hop : o.op <;> rw [hop] at h <;> dsimp only at h ⊢ <;> try (cases h; done)
  case call c =>
    split at h
    · rename_i n hcal
      rw [hcal]
    · cases h
/-- It writes where its text, with tokens, says. -/
theorem vw_nat {id : Nat} {o : Oper} {at' vt : List Value} (F : GF τ at' vt) (hok : o.op.operands.all okA = true) : vw id o (VE vt) = vw id o (VE at') := by
  have hev : ∀ x ∈ o.op.operands, G2 τ (VE at' x) (VE vt x) := fun x hx => F.ev (Array.all_eq_true_iff_forall_mem.1 hok x hx)
  unfold vw
  split
  · rename_i t x y hop
    exact ptrs_nat (l := [VE at' x]) (m := [VE vt x]) ⟨hev x (by simp [hop, Op.operands]), trivial⟩
  · rfl
  · rename_i c hop
    exact ptrs_nat (args_nat F c.args.toList (fun x hx => Array.all_eq_true_iff_forall_mem.1 hok x (by
          simp only [hop, Op.operands, Call.operands]
          exact Array.mem_append_right _ (by simpa using hx))))
  · rfl
/-! The same, as the kernel works it out faster. -/
def aaF (P : Program) (F : Fct) (fl : Bool) (id : Nat) (o : Oper) (ρ : Operand → Value) (m : Xm) : Option (Value × Xm) :=
  match o.op with
  | .store _ _ _ => aa P F fl id o ρ m
  | .box _ _ => aa P F fl id o ρ m
  | .load _ _ => aa P F fl id o ρ m
  | _ => none
theorem aaF_eq (P : Program) (F : Fct) (fl : Bool) (id : Nat) (o : Oper) (ρ : Operand → Value) (m : Xm) : aaF P F fl id o ρ m = aa P F fl id o ρ m := by
  unfold aaF aa
  cases hop : o.op <;> (cases hc : o.op.operands.all okA <;> rw [hop] at hc <;> simp only [hc])
def callF (o : Oper) (ρ : Operand → Value) : Option (Nat × List Value) :=
  match o.op with
  | .call c => (match okF o, c.callee with
    | true, .value (.func n) => some (n, c.args.toList.map ρ)
    | _, _ => none)
  | _ => none
theorem callF_eq (o : Oper) (ρ : Operand → Value) : callF o ρ = callOf o ρ := by
  unfold callF callOf
  rw [okF_eq]
  cases hop : o.op <;> (cases hc : o.op.operands.all okA <;> rw [hop] at hc <;> simp only [hc])
  all_goals (try rfl)
  all_goals (split <;> simp_all)
end
end Go.Proofs.YtoadcnhcfodkgaaGreatDoor.Nx
