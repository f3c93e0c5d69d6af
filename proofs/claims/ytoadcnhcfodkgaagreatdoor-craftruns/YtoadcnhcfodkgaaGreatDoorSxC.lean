/-
  A symbolic run: one operation, for the seat YtoadcnhcfodkgaaGreatDoor. No Go text in sight.
-/
import Derived.Test.YtoadcnhcfodkgaaGreatDoorSxB
import Derived.Laws.StructEq
import Derived.ChangeKeysEq
namespace Go.Proofs.YtoadcnhcfodkgaaGreatDoor
open Go.RowKit

def pureV (P : Program) (o : Oper) (ρ : Operand → Value) : Option Value :=
  if o.op.operands.all (fun x => !isP (ρ x)) then
    match qrun P (execOp ρ o) with
    | some (.value v) => if isP v then none else some v
    | _ => none
  else none
theorem pureV_run {P : Program} {o : Oper} {vt : List Value} {v : Value} {bl : Bl} {a : Act} (h : pureV P o (VE vt) = some v) (hok : o.op.operands.all okX = true) (hs : ∀ cs b, o.op ≠ .select cs b) (F : FR bl vt a.tmps) (w : World) :
    ∃ v', RV bl v v' ∧ (execOp a.eval o).run P w = .ok (.value v') w := by
  unfold pureV at h
  split at h
  · rename_i hp
    have agree : ∀ x ∈ o.op.operands, VE vt x = a.eval x := fun x hx => by
      have h1 := Array.all_eq_true_iff_forall_mem.1 hok x hx
      have h2 := Array.all_eq_true_iff_forall_mem.1 hp x hx
      exact ((F.eval h1).plain (by simpa using h2)).symm
    rw [execOp_congr o hs agree] at h
    split at h
    · rename_i u hq
      split at h
      · cases h
      · rename_i hu
        cases h
        exact ⟨v, .same (by simpa using hu), qrun_run _ hq w⟩
    · cases h
  · cases h
def pickV (c a b : Value) : Option Value :=
  match c with
  | .bool x =>
    match a, b with
    | .bool p, .bool q => some (.bool (cond x p q))
    | a, b => match x with
      | true => some a
      | false => some b
  | _ => none
/-- An address is not nil. -/
def nilV (P : Program) (op : BinOp) (t : TypeId) (a b : Value) : Option Value :=
  match a, b with
  | .pointer (some _), .pointer none =>
    (match P.underlying t, op with
    | some (.pointer _), .eql => some (.bool false)
    | some (.pointer _), .neq => some (.bool true)
    | _, _ => none)
  | _, _ => none
theorem eqnil_run {P : Program} {t e : TypeId} (hu : P.underlying t = some (.pointer e)) (a : Addr) (w : World) : (Op.equal t (.pointer (some a)) (.pointer none)).run P w = .ok false w := by
  show (Op.equalIn (9999 + 1) t (.pointer (some a)) (.pointer none)).run P w = .ok false w
  rw [Op.equalIn]
  simp only [Sem.run_bind, run_under hu w, Result.andThen_ok]
  rfl
theorem guard_nil {P : Program} {op : BinOp} {t : TypeId} (x y : Operand) (a : Addr) (w : World) : (eqGuard op t x y (.pointer (some a)) (.pointer none)).run P w = .ok () w := by
  unfold eqGuard
  cases op <;> rfl
theorem nilV_run {P : Program} {op : BinOp} {t : TypeId} {a b v : Value} (h : nilV P op t a b = some v) (x y : Operand) (a' : Addr) (w : World) :
    b = .pointer none ∧ isP a = true ∧ isP v = false ∧ (do eqGuard op t x y (.pointer (some a')) (.pointer none); binOp op t (.pointer (some a')) (.pointer none) : Sem Value).run P w = .ok v w := by
  unfold nilV at h
  split at h
  · split at h
    · rename_i hu
      cases h
      refine ⟨rfl, rfl, rfl, ?_⟩
      have e : binOp .eql t (.pointer (some a')) (.pointer none) = (do pure (.bool (← Op.equal t (.pointer (some a')) (.pointer none)))) := rfl
      simp only [Sem.run_bind, guard_nil, Result.andThen_ok, e, eqnil_run hu]
      rfl
    · rename_i hu
      cases h
      refine ⟨rfl, rfl, rfl, ?_⟩
      have e : binOp .neq t (.pointer (some a')) (.pointer none) = (do pure (.bool (!(← Op.equal t (.pointer (some a')) (.pointer none))))) := rfl
      simp only [Sem.run_bind, guard_nil, Result.andThen_ok, e, eqnil_run hu]
      rfl
    · cases h
  · cases h
/-! ### Structures held against one another -/
def cmpFs (f : TypeId → Value → Value → Option Bool) (P : Program) (xs ys : Array Value) : List Field → Option Bool
  | [] => some true
  | d :: ds => if d.name == "_" then none else match qrun P (part d.type xs d.offset), qrun P (part d.type ys d.offset) with
    | some u, some v => (match f d.type u v, cmpFs f P xs ys ds with
      | some r, some r' => some (r && r')
      | _, _ => none)
    | _, _ => none
def cmpIs (f : Value → Value → Option Bool) (P : Program) (e : TypeId) (xs ys : Array Value) : List Nat → Option Bool
  | [] => some true
  | i :: is => match qrun P (part e xs (i * P.cellsOf e)), qrun P (part e ys (i * P.cellsOf e)) with
    | some u, some v => (match f u v, cmpIs f P e xs ys is with
      | some r, some r' => some (r && r')
      | _, _ => none)
    | _, _ => none
/-- Whether they are equal: made of bools, integers and strings alone. -/
def cmpV (P : Program) : Nat → TypeId → Value → Value → Option Bool
  | 0, _, _, _ => none
  | d + 1, t, a, b => match P.underlying t, a, b with
    | some .bool, .bool x, .bool y => some (x == y)
    | some (.int _), .int k x, .int k' y => if k = k' then some (x == y) else none
    | some .string, .string x, .string y => some (x.toList == y.toList)
    | some (.struct fs), .agg xs, .agg ys => if P.stoodInHeld t then none else cmpFs (cmpV P d) P xs ys fs.toList
    | some (.array n e), .agg xs, .agg ys => (match P.info? e with
      | some _ => cmpIs (cmpV P d e) P e xs ys (List.range n)
      | none => none)
    | _, _, _ => none
def CmpAt (P : Program) (d : Nat) : Prop := ∀ t a b r, cmpV P d t a b = some r → ∀ (k : Nat) (w : World), (Op.equalIn (k + d) t a b).run P w = .ok r w
theorem cmpFs_run {P : Program} {d k : Nat} (ih : CmpAt P d) (xs ys : Array Value) (w : World) : ∀ (fs : List Field) (r : Bool), cmpFs (cmpV P d) P xs ys fs = some r → (Op.eqFields (k + d) xs ys fs).run P w = .ok r w
  | [], r, h => by cases h; simp [Op.eqFields]
  | f :: fs, r, h => by
    unfold cmpFs at h
    split at h
    · cases h
    rename_i hn
    split at h
    · rename_i u v hu hv
      split at h
      · rename_i r1 r2 e1 e2
        cases h
        have p1 := qrun_run _ hu w
        have p2 := qrun_run _ hv w
        have p3 := ih _ _ _ _ e1 k w
        have p4 := cmpFs_run (k := k) ih xs ys w fs r2 e2
        unfold Op.eqFields
        rw [if_pos (by simpa using hn)]
        cases r1
        · simp only [Sem.run_bind, p1, p2, p3, Result.andThen_ok, Bool.not_false, if_true, Sem.run_pure, Bool.false_and]
        · simp only [Sem.run_bind, p1, p2, p3, Result.andThen_ok, Bool.not_true, Bool.false_eq_true, if_false, Bool.true_and, p4]
      · cases h
    · cases h
theorem cmpIs_run {P : Program} {d k : Nat} (ih : CmpAt P d) (e : TypeId) (xs ys : Array Value) (w : World) : ∀ (is : List Nat) (r : Bool), cmpIs (cmpV P d e) P e xs ys is = some r → (Op.eqItems (k + d) e (P.cellsOf e) xs ys is).run P w = .ok r w
  | [], r, h => by cases h; simp [Op.eqItems]
  | i :: is, r, h => by
    unfold cmpIs at h
    split at h
    · rename_i u v hu hv
      split at h
      · rename_i r1 r2 e1 e2
        cases h
        have p1 := qrun_run _ hu w
        have p2 := qrun_run _ hv w
        have p3 := ih _ _ _ _ e1 k w
        have p4 := cmpIs_run (k := k) ih e xs ys w is r2 e2
        unfold Op.eqItems
        cases r1
        · simp only [Sem.run_bind, p1, p2, p3, Result.andThen_ok, Bool.not_false, if_true, Sem.run_pure, Bool.false_and]
        · simp only [Sem.run_bind, p1, p2, p3, Result.andThen_ok, Bool.not_true, Bool.false_eq_true, if_false, Bool.true_and, p4]
      · cases h
    · cases h
theorem cmp_at {P : Program} : ∀ d, CmpAt P d
  | 0 => fun t a b r h => by cases h
  | d + 1 => fun t a b r h k w => by
    have ih := cmp_at (P := P) d
    unfold cmpV at h
    split at h
    · rename_i hu
      cases h
      rw [← Nat.add_assoc, run_equalIn_bool' w _ _ _ _ hu]
    · rename_i hu
      split at h
      · rename_i hk
        subst hk
        cases h
        rw [← Nat.add_assoc, run_equalIn_int w _ _ _ _ _ _ hu]
      · cases h
    · rename_i hu
      cases h
      rw [← Nat.add_assoc, run_equalIn_string w _ _ _ _ hu]
    · rename_i fs xs ys hu
      split at h
      · cases h
      rename_i hs
      have hf : P.fieldsOf t = fs := by unfold Program.fieldsOf; rw [hu]
      rw [← Nat.add_assoc, run_equalIn_struct w _ _ _ _ (by rw [hf]; exact hu) (by simpa using hs), hf]
      exact cmpFs_run ih xs ys w _ _ h
    · rename_i n e xs ys hu
      split at h
      · rename_i i hi
        rw [← Nat.add_assoc, run_equalIn_array w _ _ _ hu hi]
        exact cmpIs_run ih e xs ys w _ _ h
      · cases h
    · cases h
def cmpO (P : Program) (op : BinOp) (t : TypeId) (a b : Value) : Option Value :=
  match a, b with
  | .agg xs, .agg ys => if P.eqGuardType P.depth t then none else (match op with
    | .eql => (match cmpV P 8 t (.agg xs) (.agg ys) with
      | some r => some (.bool r)
      | none => none)
    | .neq => (match cmpV P 8 t (.agg xs) (.agg ys) with
      | some r => some (.bool (!r))
      | none => none)
    | _ => none)
  | _, _ => none
theorem cmpO_run {P : Program} {op : BinOp} {t : TypeId} {a b v : Value} (h : cmpO P op t a b = some v) (x y : Operand) (w : World) : isP a = false ∧ isP b = false ∧ isP v = false ∧ (do eqGuard op t x y a b; binOp op t a b : Sem Value).run P w = .ok v w := by
  unfold cmpO at h
  split at h
  · rename_i xs ys
    split at h
    · cases h
    rename_i hg
    have hg : P.eqGuardType P.depth t = false := by simpa using hg
    split at h
    · split at h
      · rename_i r hr
        cases h
        have e := cmp_at 8 _ _ _ _ hr 9992 w
        refine ⟨rfl, rfl, rfl, ?_⟩
        simp [eqGuard, hg, run_eql_struct, e]
      · cases h
    · split at h
      · rename_i r hr
        cases h
        have e := cmp_at 8 _ _ _ _ hr 9992 w
        refine ⟨rfl, rfl, rfl, ?_⟩
        simp [eqGuard, hg, run_neq_struct, e]
      · cases h
    · cases h
  · cases h
def pureW (P : Program) (op : BinOp) (t : TypeId) (a b : Value) (z : Option Value) : Option Value :=
  match cmpO P op t a b with
  | some v => some v
  | none => z
theorem pureV_q {P : Program} {o : Oper} {ρ : Operand → Value} {v : Value} (h : pureV P o ρ = some v) : qrun P (execOp ρ o) = some (.value v) := by
  unfold pureV at h
  split at h
  · split at h
    · rename_i u hu
      split at h
      · cases h
      · cases h
        exact hu
    · cases h
  · cases h
theorem pureW_of {P : Program} {o : Oper} {op : BinOp} {t t' : TypeId} {x y : Operand} {ρ : Operand → Value} {v : Value} (hop : o.op = .binOp op t x y t') (h : pureV P o ρ = some v) : pureW P op t (ρ x) (ρ y) (pureV P o ρ) = some v := by
  unfold pureW
  split
  · rename_i u hu
    have w : World := World.holding P default ⟨#[], #[], []⟩
    have r1 := (cmpO_run hu x y w).2.2.2
    have r2 := qrun_run _ (pureV_q h) w
    simp only [execOp, hop, Sem.run_bind] at r1 r2
    rw [r1] at r2
    simp at r2
    rw [r2]
  · exact h
/-- What an operation yields that changes nothing (cl: which blocks it may read). -/
def vq (P : Program) (cl : Nat → Bool) (id : Nat) (o : Oper) (ρ : Operand → Value) (m : Xm) : Option Value :=
  if o.op.operands.all okX then
    match o.op with
    | .move x => some (ρ x)
    | .assign x => some (ρ x)
    | .pick c a b => pickV (ρ c) (ρ a) (ρ b)
    | .load t x =>
      match ρ x with
      | .pointer (some ⟨k, off, none⟩) => if cl k then (match m[k]? with
        | some l => (match loadV P t l off with
          | some v => if isP v then none else some v
          | none => none)
        | none => none) else none
      | _ => none
    | .fieldAddr s x f =>
      match ρ x with
      | .pointer (some ⟨k, off, none⟩) => (match fieldV P s f with
        | some d => some (.pointer (some ⟨k, off + d, none⟩))
        | none => none)
      | _ => none
    | .indexAddr t x ix =>
      match ρ x with
      | .pointer (some ⟨k, off, none⟩) => (match indexV P t (ρ ix) with
        | some d => some (.pointer (some ⟨k, off + d, none⟩))
        | none => none)
      | .slice (some ⟨k, off, none⟩) n _ => (match sliceV P t (ρ ix) n with
        | some d => some (.pointer (some ⟨k, off + d, none⟩))
        | none => none)
      | _ => none
    | .nilCheck x =>
      match ρ x with
      | .pointer (some a) => some (.pointer (some a))
      | _ => none
    | .alloc _ => some (.pointer (some ⟨id, 0, none⟩))
    | .store _ _ _ => none
    | .box _ _ => none
    | .select _ _ => none
    | .call c =>
      match c.callee with
      | .builtin _ => pureV P o ρ
      | _ => none
    | .binOp op t x y _ =>
      match nilV P op t (ρ x) (ρ y) with
      | some v => some v
      | none => pureW P op t (ρ x) (ρ y) (pureV P o ρ)
    | _ => pureV P o ρ
  else none
theorem vq_run {P : Program} {cl : Nat → Bool} {id : Nat} {o : Oper} {vt : List Value} {m : Xm} {v : Value} (h : vq P cl id o (VE vt) m = some v) (hna : ∀ t, o.op ≠ .alloc t)
    {bs : List Nat} {w0 : World} {bl : Bl} {a : Act} {w : World} (F : FR bl vt a.tmps) (R : RW bs w0 bl m w) : ∃ v', RV bl v v' ∧ (execOp a.eval o).run P w = .ok (.value v') w := by
  unfold vq at h
  split at h
  case isFalse => cases h
  rename_i hok
  have hev : ∀ x ∈ o.op.operands, RV bl (VE vt x) (a.eval x) := fun x hx => F.eval (Array.all_eq_true_iff_forall_mem.1 hok x hx)
  have hpu : (∀ cs b, o.op ≠ .select cs b) → pureV P o (VE vt) = some v → ∃ v', RV bl v v' ∧ (execOp a.eval o).run P w = .ok (.value v') w := fun hs hp => pureV_run hp hok hs F w
  cases hop : o.op <;> rw [hop] at h <;> dsimp only at h
  case move x =>
    cases h
    exact ⟨_, hev x (by simp [hop, Op.operands]), by simp [execOp, hop]⟩
  case assign x =>
    cases h
    exact ⟨_, hev x (by simp [hop, Op.operands]), by simp [execOp, hop]⟩
  case pick c p q =>
    have h1 := hev c (by simp [hop, Op.operands])
    have h2 := hev p (by simp [hop, Op.operands])
    have h3 := hev q (by simp [hop, Op.operands])
    unfold pickV at h
    split at h
    · rename_i x hx
      rw [hx] at h1
      have h1 : a.eval c = .bool x := h1
      split at h
      · rename_i y z hy hz
        rw [hy] at h2
        rw [hz] at h3
        have h2 : a.eval p = .bool y := h2
        have h3 : a.eval q = .bool z := h3
        cases h
        refine ⟨_, .same rfl, ?_⟩
        cases x <;> simp [execOp, hop, h1, h2, h3, asBool]
      · split at h
        · cases h
          exact ⟨_, h2, by simp [execOp, hop, h1, asBool]⟩
        · cases h
          exact ⟨_, h3, by simp [execOp, hop, h1, asBool]⟩
    · cases h
  case load t x =>
    have h1 := hev x (by simp [hop, Op.operands])
    split at h
    · rename_i k off hx
      rw [hx] at h1
      obtain ⟨B, hB, he⟩ := h1
      split at h
      · split at h
        · rename_i l hl
          obtain ⟨l2, e2, A⟩ := R.arr k B hB
          rw [hl] at e2
          cases e2
          split at h
          · rename_i u hu
            split at h
            · cases h
            · rename_i hp
              cases h
              have r := loadV_run hu A
              exact ⟨v, .same (by simpa using hp), by simp [execOp, hop, he, Instr.loadAt, Instr.sureAddr, r]⟩
          · cases h
        · cases h
      · cases h
    · cases h
  case fieldAddr s x f =>
    have h1 := hev x (by simp [hop, Op.operands])
    split at h
    · rename_i k off hx
      rw [hx] at h1
      obtain ⟨B, hB, he⟩ := h1
      split at h
      · rename_i d hd
        cases h
        have he : a.eval x = .pointer (some ⟨B, off, none⟩) := he
        exact ⟨.pointer (some ⟨B, off + d, none⟩), ⟨B, hB, rfl⟩, by simp [execOp, hop, he, fieldV_run hd B off w]⟩
      · cases h
    · cases h
  case indexAddr t x ix =>
    have h1 := hev x (by simp [hop, Op.operands])
    have h2 := hev ix (by simp [hop, Op.operands])
    split at h
    · rename_i k off hx
      rw [hx] at h1
      obtain ⟨B, hB, he⟩ := h1
      split at h
      · rename_i d hd
        cases h
        have he : a.eval x = .pointer (some ⟨B, off, none⟩) := he
        have hix : isP (VE vt ix) = false := by
          unfold indexV at hd
          split at hd
          · rename_i e; rw [e]; rfl
          · cases hd
        rw [← h2.plain hix] at hd
        exact ⟨.pointer (some ⟨B, off + d, none⟩), ⟨B, hB, rfl⟩, by simp [execOp, hop, he, indexV_run hd B off w]⟩
      · cases h
    · rename_i k off n c hx
      rw [hx] at h1
      obtain ⟨B, hB, he⟩ := h1
      split at h
      · rename_i d hd
        cases h
        have he : a.eval x = .slice (some ⟨B, off, none⟩) n c := he
        have hix : isP (VE vt ix) = false := by
          unfold sliceV at hd
          split at hd
          · rename_i e; rw [e]; rfl
          · cases hd
        rw [← h2.plain hix] at hd
        exact ⟨.pointer (some ⟨B, off + d, none⟩), ⟨B, hB, rfl⟩, by simp [execOp, hop, he, sliceV_run hd B off c w]⟩
      · cases h
    · cases h
  case nilCheck x =>
    have h1 := hev x (by simp [hop, Op.operands])
    split at h
    · rename_i b hx
      rw [hx] at h1
      cases h
      obtain ⟨B, hB, he⟩ := h1
      exact ⟨_, ⟨B, hB, rfl⟩, by simp [execOp, hop, he]⟩
    · cases h
  case alloc t => exact absurd hop (hna t)
  case call c =>
    split at h
    · exact hpu (by rw [hop]; simp) h
    · cases h
  case store => cases h
  case box => cases h
  case select => cases h
  case binOp op t x y t2 =>
    split at h
    · rename_i u hn
      cases h
      have h1 := hev x (by simp [hop, Op.operands])
      have h2 := hev y (by simp [hop, Op.operands])
      obtain ⟨e1, e2, e3, _⟩ := nilV_run hn x y ⟨0, 0, none⟩ w
      rw [e1] at h2
      have h2 : a.eval y = .pointer none := h2
      generalize VE vt x = vx at *
      match vx, h1, e2 with
      | .nilIface, _, _ =>
        unfold nilV at hn
        cases hn
      | .slice (some _) _ _, _, _ =>
        unfold nilV at hn
        cases hn
      | .pointer (some b), ⟨B, _, he⟩, _ =>
        obtain ⟨_, _, _, r⟩ := nilV_run hn x y { b with block := B } w
        refine ⟨_, .same e3, ?_⟩
        simp only [execOp, hop, he, h2]
        simp only [Sem.run_bind] at r ⊢
        rw [r]
        rfl
    · unfold pureW at h
      split at h
      · rename_i u hc
        cases h
        obtain ⟨p1, p2, p3, _⟩ := cmpO_run hc x y w
        have e1 := (hev x (by simp [hop, Op.operands])).plain p1
        have e2 := (hev y (by simp [hop, Op.operands])).plain p2
        rw [← e1, ← e2] at hc
        obtain ⟨_, _, _, r⟩ := cmpO_run hc x y w
        refine ⟨_, .same p3, ?_⟩
        simp only [execOp, hop, Sem.run_bind] at r ⊢
        rw [r]
        rfl
      · exact hpu (by rw [hop]; simp) h
  all_goals exact hpu (by rw [hop]; simp) h
end Go.Proofs.YtoadcnhcfodkgaaGreatDoor
