/-
A part.
A part.
A part.
-/
import Derived.Laws.StructEq
import Derived.ChangeKeysEq
import Derived.Test.YtbophanlmkbfeaaGreatDoorHC02
namespace Go.Proofs.YtbophanlmkbfeaaGreatDoor
open Go.RowKit
def pureV (P : Program) (o : Oper) (ρ : Operand → Value) : Option Value :=
 if o.op.operands.all (fun x => !isP (ρ x)) then
  match qrun P (execOp ρ o) with
  | some (.value v) => if isP v then none else some v
  | _ => none
 else none
theorem pureV_run {P : Program} {o : Oper} {vt : List Value} {v : Value} {bl : Bl} {a : Act} (h : pureV P o (VE vt) = some v) (hok : o.op.operands.all okX = true) (hs : ∀ cs b, o.op ≠ .select cs b) (F : FR bl vt a.tmps) (w : World) :
    ∃ v', RV bl v v' ∧ (execOp a.eval o).run P w = .ok (.value v') w := by
 unfold pureV at h
 split at h
 ·rename_i hp
  have agree : ∀ x ∈ o.op.operands, VE vt x = a.eval x := fun x hx => by
   have h1 := Array.all_eq_true_iff_forall_mem.1 hok x hx
   have h2 := Array.all_eq_true_iff_forall_mem.1 hp x hx
   exact ((F.eval h1).plain (by simpa using h2)).symm
  rw [execOp_congr o hs agree] at h
  split at h
  ·rename_i u hq
   split at h
   ·cases h
   ·rename_i hu
    cases h
    exact ⟨v, .same (by simpa using hu), qrun_run _ hq w⟩
  ·cases h
 ·cases h
def pickV (c a b : Value) : Option Value :=
 match c with
 | .bool x =>
  match a, b with
  | .bool p, .bool q => some (.bool (cond x p q))
  | a, b => match x with
   | true => some a
   | false => some b
 | _ => none
def nilV (P : Program) (op : BinOp) (t : TypeId) (a b : Value) : Option Value :=
 match a, b with
 | .pointer (some _), .pointer none =>
  (match P.underlying t, op with
  | some (.pointer _), .eql => some (.bool false)
  | some (.pointer _), .neq => some (.bool true)
  | _, _ => none)
 | _, _ => none
theorem eqnil_run {P : Program} {t e : TypeId} (hu : P.underlying t = some (.pointer e)) (a : Addr) (w : World) : (Op.equal t (.pointer (some a)) (.pointer none)).run P w = .ok false w := by
 show (Op.equalIn (9999 + 1) t (.pointer (some a)) (.pointer none)).run P w = .ok false w
 rw [Op.equalIn]
 simp only [Sem.run_bind, run_under hu w, Result.andThen_ok]
 rfl
theorem guard_nil {P : Program} {op : BinOp} {t : TypeId} (x y : Operand) (a : Addr) (w : World) : (eqGuard op t x y (.pointer (some a)) (.pointer none)).run P w = .ok () w := by
 unfold eqGuard
 cases op <;> rfl
theorem nilV_run {P : Program} {op : BinOp} {t : TypeId} {a b v : Value} (h : nilV P op t a b = some v) (x y : Operand) (a' : Addr) (w : World) :
    b = .pointer none ∧ isP a = true ∧ isP v = false ∧ (do eqGuard op t x y (.pointer (some a')) (.pointer none); binOp op t (.pointer (some a')) (.pointer none) : Sem Value).run P w = .ok v w := by
 unfold nilV at h
 split at h
 ·split at h
  ·rename_i hu
   cases h
   refine ⟨rfl, rfl, rfl, ?_⟩
   have e : binOp .eql t (.pointer (some a')) (.pointer none) = (do pure (.bool (← Op.equal t (.pointer (some a')) (.pointer none)))) := rfl
   simp only [Sem.run_bind, guard_nil, Result.andThen_ok, e, eqnil_run hu]
   rfl
  ·rename_i hu
   cases h
   refine ⟨rfl, rfl, rfl, ?_⟩
   have e : binOp .neq t (.pointer (some a')) (.pointer none) = (do pure (.bool (!(← Op.equal t (.pointer (some a')) (.pointer none))))) := rfl
   simp only [Sem.run_bind, guard_nil, Result.andThen_ok, e, eqnil_run hu]
   rfl
  ·cases h
 ·cases h
def cmpFs (f : TypeId → Value → Value → Option Bool) (P : Program) (xs ys : Array Value) : List Field → Option Bool
 | [] => some true
 | d :: ds => if d.name == "_" then none else match qrun P (part d.type xs d.offset), qrun P (part d.type ys d.offset) with
  | some u, some v => (match f d.type u v, cmpFs f P xs ys ds with
   | some r, some r' => some (r && r')
   | _, _ => none)
  | _, _ => none
def cmpIs (f : Value → Value → Option Bool) (P : Program) (e : TypeId) (xs ys : Array Value) : List Nat → Option Bool
 | [] => some true
 | i :: is => match qrun P (part e xs (i * P.cellsOf e)), qrun P (part e ys (i * P.cellsOf e)) with
  | some u, some v => (match f u v, cmpIs f P e xs ys is with
   | some r, some r' => some (r && r')
   | _, _ => none)
  | _, _ => none
def cmpV (P : Program) : Nat → TypeId → Value → Value → Option Bool
 | 0, _, _, _ => none
 | d + 1, t, a, b => match P.underlying t, a, b with
  | some .bool, .bool x, .bool y => some (x == y)
  | some (.int _), .int k x, .int k' y => if k = k' then some (x == y) else none
  | some .string, .string x, .string y => some (x.toList == y.toList)
  | some (.struct fs), .agg xs, .agg ys => if P.stoodInHeld t then none else cmpFs (cmpV P d) P xs ys fs.toList
  | some (.array n e), .agg xs, .agg ys => (match P.info? e with
   | some _ => cmpIs (cmpV P d e) P e xs ys (List.range n)
   | none => none)
  | _, _, _ => none
def CmpAt (P : Program) (d : Nat) : Prop := ∀ t a b r, cmpV P d t a b = some r → ∀ (k : Nat) (w : World), (Op.equalIn (k + d) t a b).run P w = .ok r w
theorem cmpFs_run {P : Program} {d k : Nat} (ih : CmpAt P d) (xs ys : Array Value) (w : World) : ∀ (fs : List Field) (r : Bool), cmpFs (cmpV P d) P xs ys fs = some r → (Op.eqFields (k + d) xs ys fs).run P w = .ok r w
 | [], r, h => by cases h; simp [Op.eqFields]
 | f :: fs, r, h => by
  unfold cmpFs at h
  split at h
  ·cases h
  rename_i hn
  split at h
  ·rename_i u v hu hv
   split at h
   ·rename_i r1 r2 e1 e2
    cases h
    have p1 := qrun_run _ hu w
    have p2 := qrun_run _ hv w
    have p3 := ih _ _ _ _ e1 k w
    have p4 := cmpFs_run (k := k) ih xs ys w fs r2 e2
    unfold Op.eqFields
    rw [if_pos (by simpa using hn)]
    cases r1
    ·simp only [Sem.run_bind, p1, p2, p3, Result.andThen_ok, Bool.not_false, if_true, Sem.run_pure, Bool.false_and]
    ·simp only [Sem.run_bind, p1, p2, p3, Result.andThen_ok, Bool.not_true, Bool.false_eq_true, if_false, Bool.true_and, p4]
   ·cases h
  ·cases h
theorem cmpIs_run {P : Program} {d k : Nat} (ih : CmpAt P d) (e : TypeId) (xs ys : Array Value) (w : World) : ∀ (is : List Nat) (r : Bool), cmpIs (cmpV P d e) P e xs ys is = some r → (Op.eqItems (k + d) e (P.cellsOf e) xs ys is).run P w = .ok r w
 | [], r, h => by cases h; simp [Op.eqItems]
 | i :: is, r, h => by
  unfold cmpIs at h
  split at h
  ·rename_i u v hu hv
   split at h
   ·rename_i r1 r2 e1 e2
    cases h
    have p1 := qrun_run _ hu w
    have p2 := qrun_run _ hv w
    have p3 := ih _ _ _ _ e1 k w
    have p4 := cmpIs_run (k := k) ih e xs ys w is r2 e2
    unfold Op.eqItems
    cases r1
    ·simp only [Sem.run_bind, p1, p2, p3, Result.andThen_ok, Bool.not_false, if_true, Sem.run_pure, Bool.false_and]
    ·simp only [Sem.run_bind, p1, p2, p3, Result.andThen_ok, Bool.not_true, Bool.false_eq_true, if_false, Bool.true_and, p4]
   ·cases h
  ·cases h
theorem cmp_at {P : Program} : ∀ d, CmpAt P d
 | 0 => fun t a b r h => by cases h
 | d + 1 => fun t a b r h k w => by
  have ih := cmp_at (P := P) d
  unfold cmpV at h
  split at h
  ·rename_i hu
   cases h
   rw [← Nat.add_assoc, run_equalIn_bool' w _ _ _ _ hu]
  ·rename_i hu
   split at h
   ·rename_i hk
    subst hk
    cases h
    rw [← Nat.add_assoc, run_equalIn_int w _ _ _ _ _ _ hu]
   ·cases h
  ·rename_i hu
   cases h
   rw [← Nat.add_assoc, run_equalIn_string w _ _ _ _ hu]
  ·rename_i fs xs ys hu
   split at h
   ·cases h
   rename_i hs
   have hf : P.fieldsOf t = fs := by unfold Program.fieldsOf; rw [hu]
   rw [← Nat.add_assoc, run_equalIn_struct w _ _ _ _ (by rw [hf]; exact hu) (by simpa using hs), hf]
   exact cmpFs_run ih xs ys w _ _ h
  ·rename_i n e xs ys hu
   split at h
   ·rename_i i hi
    rw [← Nat.add_assoc, run_equalIn_array w _ _ _ hu hi]
    exact cmpIs_run ih e xs ys w _ _ h
   ·cases h
  ·cases h
def cmpO (P : Program) (op : BinOp) (t : TypeId) (a b : Value) : Option Value :=
 match a, b with
 | .agg xs, .agg ys => if P.eqGuardType P.depth t then none else (match op with
  | .eql => (match cmpV P 8 t (.agg xs) (.agg ys) with
   | some r => some (.bool r)
   | none => none)
  | .neq => (match cmpV P 8 t (.agg xs) (.agg ys) with
   | some r => some (.bool (!r))
   | none => none)
  | _ => none)
 | _, _ => none
theorem cmpO_run {P : Program} {op : BinOp} {t : TypeId} {a b v : Value} (h : cmpO P op t a b = some v) (x y : Operand) (w : World) : isP a = false ∧ isP b = false ∧ isP v = false ∧ (do eqGuard op t x y a b; binOp op t a b : Sem Value).run P w = .ok v w := by
 unfold cmpO at h
 split at h
 ·rename_i xs ys
  split at h
  ·cases h
  rename_i hg
  have hg : P.eqGuardType P.depth t = false := by simpa using hg
  split at h
  ·split at h
   ·rename_i r hr
    cases h
    have e := cmp_at 8 _ _ _ _ hr 9992 w
    refine ⟨rfl, rfl, rfl, ?_⟩
    simp [eqGuard, hg, run_eql_struct, e]
   ·cases h
  ·split at h
   ·rename_i r hr
    cases h
    have e := cmp_at 8 _ _ _ _ hr 9992 w
    refine ⟨rfl, rfl, rfl, ?_⟩
    simp [eqGuard, hg, run_neq_struct, e]
   ·cases h
  ·cases h
 ·cases h
def pureW (P : Program) (op : BinOp) (t : TypeId) (a b : Value) (z : Option Value) : Option Value :=
 match cmpO P op t a b with
 | some v => some v
 | none => z
theorem pureV_q {P : Program} {o : Oper} {ρ : Operand → Value} {v : Value} (h : pureV P o ρ = some v) : qrun P (execOp ρ o) = some (.value v) := by
 unfold pureV at h
 split at h
 ·split at h
  ·rename_i u hu
   split at h
   ·cases h
   ·cases h
    exact hu
  ·cases h
 ·cases h
theorem pureW_of {P : Program} {o : Oper} {op : BinOp} {t t' : TypeId} {x y : Operand} {ρ : Operand → Value} {v : Value} (hop : o.op = .binOp op t x y t') (h : pureV P o ρ = some v) : pureW P op t (ρ x) (ρ y) (pureV P o ρ) = some v := by
 unfold pureW
 split
 ·rename_i u hu
  have w : World := World.holding P default ⟨#[], #[], []⟩
  have r1 := (cmpO_run hu x y w).2.2.2
  have r2 := qrun_run _ (pureV_q h) w
  simp only [execOp, hop, Sem.run_bind] at r1 r2
  rw [r1] at r2
  simp at r2
  rw [r2]
 ·exact h
def vq (P : Program) (cl : Nat → Bool) (id : Nat) (o : Oper) (ρ : Operand → Value) (m : Xm) : Option Value :=
 if o.op.operands.all okX then
  match o.op with
  | .move x => some (ρ x)
  | .assign x => some (ρ x)
  | .pick c a b => pickV (ρ c) (ρ a) (ρ b)
  | .load t x =>
   match ρ x with
   | .pointer (some ⟨k, off, none⟩) => if cl k then (match m[k]? with
    | some l => (match loadV P t l off with
     | some v => if isP v then none else some v
     | none => none)
    | none => none) else none
   | _ => none
  | .fieldAddr s x f =>
   match ρ x with
   | .pointer (some ⟨k, off, none⟩) => (match fieldV P s f with
    | some d => some (.pointer (some ⟨k, off + d, none⟩))
    | none => none)
   | _ => none
  | .indexAddr t x ix =>
   match ρ x with
   | .pointer (some ⟨k, off, none⟩) => (match indexV P t (ρ ix) with
    | some d => some (.pointer (some ⟨k, off + d, none⟩))
    | none => none)
   | _ => none
  | .nilCheck x =>
   match ρ x with
   | .pointer (some a) => some (.pointer (some a))
   | _ => none
  | .alloc _ => some (.pointer (some ⟨id, 0, none⟩))
  | .store _ _ _ => none
  | .box _ _ => none
  | .select _ _ => none
  | .call c =>
   match c.callee with
   | .builtin _ => pureV P o ρ
   | _ => none
  | .binOp op t x y _ =>
   match nilV P op t (ρ x) (ρ y) with
   | some v => some v
   | none => pureW P op t (ρ x) (ρ y) (pureV P o ρ)
  | _ => pureV P o ρ
 else none
theorem vq_run {P : Program} {cl : Nat → Bool} {id : Nat} {o : Oper} {vt : List Value} {m : Xm} {v : Value} (h : vq P cl id o (VE vt) m = some v) (hna : ∀ t, o.op ≠ .alloc t)
    {bs : List Nat} {w0 : World} {bl : Bl} {a : Act} {w : World} (F : FR bl vt a.tmps) (R : RW bs w0 bl m w) : ∃ v', RV bl v v' ∧ (execOp a.eval o).run P w = .ok (.value v') w := by
 unfold vq at h
 split at h
 case isFalse => cases h
 rename_i hok
 have hev : ∀ x ∈ o.op.operands, RV bl (VE vt x) (a.eval x) := fun x hx => F.eval (Array.all_eq_true_iff_forall_mem.1 hok x hx)
 have hpu : (∀ cs b, o.op ≠ .select cs b) → pureV P o (VE vt) = some v → ∃ v', RV bl v v' ∧ (execOp a.eval o).run P w = .ok (.value v') w := fun hs hp => pureV_run hp hok hs F w
 cases hop : o.op <;> rw [hop] at h <;> dsimp only at h
 case move x =>
  cases h
  exact ⟨_, hev x (by simp [hop, Op.operands]), by simp [execOp, hop]⟩
 case assign x =>
  cases h
  exact ⟨_, hev x (by simp [hop, Op.operands]), by simp [execOp, hop]⟩
 case pick c p q =>
  have h1 := hev c (by simp [hop, Op.operands])
  have h2 := hev p (by simp [hop, Op.operands])
  have h3 := hev q (by simp [hop, Op.operands])
  unfold pickV at h
  split at h
  ·rename_i x hx
   rw [hx] at h1
   have h1 : a.eval c = .bool x := h1
   split at h
   ·rename_i y z hy hz
    rw [hy] at h2
    rw [hz] at h3
    have h2 : a.eval p = .bool y := h2
    have h3 : a.eval q = .bool z := h3
    cases h
    refine ⟨_, .same rfl, ?_⟩
    cases x <;> simp [execOp, hop, h1, h2, h3, asBool]
   ·split at h
    ·cases h
     exact ⟨_, h2, by simp [execOp, hop, h1, asBool]⟩
    ·cases h
     exact ⟨_, h3, by simp [execOp, hop, h1, asBool]⟩
  ·cases h
 case load t x =>
  have h1 := hev x (by simp [hop, Op.operands])
  split at h
  ·rename_i k off hx
   rw [hx] at h1
   obtain ⟨B, hB, he⟩ := h1
   split at h
   ·split at h
    ·rename_i l hl
     obtain ⟨l2, e2, A⟩ := R.arr k B hB
     rw [hl] at e2
     cases e2
     split at h
     ·rename_i u hu
      split at h
      ·cases h
      ·rename_i hp
       cases h
       have r := loadV_run hu A
       exact ⟨v, .same (by simpa using hp), by simp [execOp, hop, he, Instr.loadAt, Instr.sureAddr, r]⟩
     ·cases h
    ·cases h
   ·cases h
  ·cases h
 case fieldAddr s x f =>
  have h1 := hev x (by simp [hop, Op.operands])
  split at h
  ·rename_i k off hx
   rw [hx] at h1
   obtain ⟨B, hB, he⟩ := h1
   split at h
   ·rename_i d hd
    cases h
    have he : a.eval x = .pointer (some ⟨B, off, none⟩) := he
    exact ⟨.pointer (some ⟨B, off + d, none⟩), ⟨B, hB, rfl⟩, by simp [execOp, hop, he, fieldV_run hd B off w]⟩
   ·cases h
  ·cases h
 case indexAddr t x ix =>
  have h1 := hev x (by simp [hop, Op.operands])
  have h2 := hev ix (by simp [hop, Op.operands])
  split at h
  ·rename_i k off hx
   rw [hx] at h1
   obtain ⟨B, hB, he⟩ := h1
   split at h
   ·rename_i d hd
    cases h
    have he : a.eval x = .pointer (some ⟨B, off, none⟩) := he
    have hix : isP (VE vt ix) = false := by
     unfold indexV at hd
     split at hd
     ·rename_i e; rw [e]; rfl
     ·cases hd
    rw [← h2.plain hix] at hd
    exact ⟨.pointer (some ⟨B, off + d, none⟩), ⟨B, hB, rfl⟩, by simp [execOp, hop, he, indexV_run hd B off w]⟩
   ·cases h
  ·cases h
 case nilCheck x =>
  have h1 := hev x (by simp [hop, Op.operands])
  split at h
  ·rename_i b hx
   rw [hx] at h1
   cases h
   obtain ⟨B, hB, he⟩ := h1
   exact ⟨_, ⟨B, hB, rfl⟩, by simp [execOp, hop, he]⟩
  ·cases h
 case alloc t => exact absurd hop (hna t)
 case call c =>
  split at h
  ·exact hpu (by rw [hop]; simp) h
  ·cases h
 case store => cases h
 case box => cases h
 case select => cases h
 case binOp op t x y t2 =>
  split at h
  ·rename_i u hn
   cases h
   have h1 := hev x (by simp [hop, Op.operands])
   have h2 := hev y (by simp [hop, Op.operands])
   obtain ⟨e1, e2, e3, _⟩ := nilV_run hn x y ⟨0, 0, none⟩ w
   rw [e1] at h2
   have h2 : a.eval y = .pointer none := h2
   generalize VE vt x = vx at *
   match vx, h1, e2 with
   | .nilIface, _, _ =>
    unfold nilV at hn
    cases hn
   | .slice (some _) _ _, _, _ =>
    unfold nilV at hn
    cases hn
   | .pointer (some b), ⟨B, _, he⟩, _ =>
    obtain ⟨_, _, _, r⟩ := nilV_run hn x y { b with block := B } w
    refine ⟨_, .same e3, ?_⟩
    simp only [execOp, hop, he, h2]
    simp only [Sem.run_bind] at r ⊢
    rw [r]
    rfl
  ·unfold pureW at h
   split at h
   ·rename_i u hc
    cases h
    obtain ⟨p1, p2, p3, _⟩ := cmpO_run hc x y w
    have e1 := (hev x (by simp [hop, Op.operands])).plain p1
    have e2 := (hev y (by simp [hop, Op.operands])).plain p2
    rw [← e1, ← e2] at hc
    obtain ⟨_, _, _, r⟩ := cmpO_run hc x y w
    refine ⟨_, .same p3, ?_⟩
    simp only [execOp, hop, Sem.run_bind] at r ⊢
    rw [r]
    rfl
   ·exact hpu (by rw [hop]; simp) h
 all_goals exact hpu (by rw [hop]; simp) h
end Go.Proofs.YtbophanlmkbfeaaGreatDoor
namespace Go.Proofs.YtbophanlmkbfeaaGreatDoor
open Go.RowKit
def ptrs (l : List Value) : List Nat := l.filterMap fun v => match v with
 | .pointer (some a) => some a.block
 | _ => none
structure Ct (P : Program) where
 fn : Nat
 sp : List Value → Xm → (Value → Xm → Prop) → Prop
 go : ∀ (args : Array Value) (w : World), (callFunc fn args).run P w = .ok (.enter fn args) w
 mono : ∀ {args : List Value} {m : Xm} {K K' : Value → Xm → Prop}, (∀ v m', K v m' → K' v m') → sp args m K → sp args m K'
 keep : ∀ {args : List Value} {m : Xm} {K : Value → Xm → Prop}, sp args m K → sp args m (fun v m' => K v m' ∧ m'.length = m.length ∧ ∀ k, k ∉ ptrs args → m'[k]? = m[k]?)
 ok : ∀ {bs : List Nat} {w0 : World} {bl : Bl} {m : Xm} {w : World} {args : List Value} {args' : Array Value} {K : Value → Xm → Prop}, RW bs w0 bl m w → args'.size = args.length →
  (∀ i, RV bl (args.getD i undef) (args'.getD i undef)) → sp args m K → Calls P fn args' w fun e w' => ∃ v v' m', e = .returned v' ∧ RV bl v v' ∧ K v m' ∧ RW bs w0 bl m' w'
def va (P : Program) (tbl : List (Ct P)) (id : Nat) (o : Oper) (ρ : Operand → Value) (m : Xm) (K : Value → Xm → Prop) : Prop :=
 match o.op.operands.all okX, o.op with
 | true, .store t x y =>
  match ρ x with
  | .pointer (some ⟨k, off, none⟩) => (match m[k]? with
   | some l => (match isP (ρ y), storeV P t l off (ρ y) with
    | false, some l' => K undef (m.set k l')
    | _, _ => False)
   | none => False)
  | _ => False
 | true, .box _ x => (match isP (ρ x), (ρ x).cells.toList.all cellOk with
     | false, true => K (.pointer (some ⟨id, 0, none⟩)) (m.set id (ρ x).cells.toList)
     | _, _ => False)
 | true, .load _ _ =>
  match vq P (fun _ => true) id o ρ m with
  | some v => K v m
  | none => False
 | true, .call c =>
  match c.callee with
  | .value (.func n) => (match tbl.find? (fun ct => ct.fn == n) with
   | some ct => ct.sp (c.args.toList.map ρ) m K
   | none => False)
  | _ => False
 | _, _ => False
def vw (id : Nat) (o : Oper) (ρ : Operand → Value) : List Nat :=
 match o.op with
 | .store _ x _ => ptrs [ρ x]
 | .box _ _ => [id]
 | .call c => ptrs (c.args.toList.map ρ)
 | _ => []
def isNew (o : Oper) : Bool :=
 match o.op with
 | .alloc _ => true
 | .box _ _ => true
 | _ => false
def Nw (rs : Xm) (bl : Bl) (m : Xm) : Prop := ∀ k : Nat, bl[k]? = some none → m[k]? = rs[k]?
def NewOk (P : Program) (rs : Xm) (id : Nat) (o : Oper) (bl : Bl) : Prop :=
 isNew o = true → bl[id]? = some none ∧ ∃ l, rs[id]? = some l ∧ ∀ t, o.op = .alloc t → ∃ z, qrun P (zeroValue t) = some z ∧ l = z.cells.toList
def Behind (bs : List Nat) (w0 : World) (rs : Xm) (bl : Bl) (m : Xm) (vt : List Value) (a : Act) (id : Nat) (o : Oper) (K : Value → Xm → Prop) (a' : Act) (w' : World) : Prop :=
 ∃ bl' v m', bl'.length = bl.length ∧ m'.length = m.length ∧ Le bl bl' ∧ (∀ k : Nat, k ≠ id → bl'[k]? = bl[k]?) ∧ (isNew o = false → bl' = bl) ∧ a'.defers = a.defers ∧ FR bl' (vput vt o.dst v) a'.tmps ∧ RW bs w0 bl' m' w' ∧ Nw rs bl' m' ∧ K v m'
theorem RV.at {bl : Bl} {k B : Nat} (h : bl[k]? = some (some B)) (o : Nat) : RV bl (.pointer (some ⟨k, o, none⟩)) (.pointer (some ⟨B, o, none⟩)) := ⟨B, h, rfl⟩
theorem put_defers (a : Act) (d : Option Tmp) (v : Value) : (a.put d v).defers = a.defers := by cases d <;> rfl
section
variable {P : Program} {tbl : List (Ct P)} {bs : List Nat} {w0 : World} {rs : Xm} {bl : Bl} {vt : List Value} {m : Xm} {a : Act} {w : World} {id : Nat} {o : Oper} {Q : Exit → Act → World → Prop}
theorem new_run {l : List Value} (F : FR bl vt a.tmps) (R : RW bs w0 bl m w) (N : Nw rs bl m) (hid : bl[id]? = some none) (hm : id < m.length) (hn : isNew o = true) (t : TypeId) {K : Value → Xm → Prop}
    (h : K (.pointer (some ⟨id, 0, none⟩)) (m.set id l)) : Behind bs w0 rs bl m vt a id o K (a.put o.dst (.pointer (some ⟨w.heap.size, 0, none⟩))) (w.alloc (.cells l.toArray t)) := by
 obtain ⟨R', hle⟩ := R.new hid hm l t
 have hbl : id < bl.length := (List.getElem?_eq_some_iff.1 hid).1
 refine ⟨bl.set id (some w.heap.size), .pointer (some ⟨id, 0, none⟩), m.set id l, List.length_set .., List.length_set .., hle, fun k hk => List.getElem?_set_ne (fun e => hk e.symm), (fun e => by rw [hn] at e; cases e), put_defers _ _ _, (F.mono hle).put (RV.at (List.getElem?_set_self hbl) 0) _, R', fun k hk => ?_, h⟩
 by_cases e : id = k
 ·subst e
  rw [List.getElem?_set_self hbl] at hk
  cases hk
 ·rw [List.getElem?_set_ne e] at hk
  rw [List.getElem?_set_ne e]
  exact N k hk
theorem vq_wp {cl : Nat → Bool} {v : Value} {K : Value → Xm → Prop} (h : vq P cl id o (VE vt) m = some v) (F : FR bl vt a.tmps) (R : RW bs w0 bl m w) (N : Nw rs bl m) (hnew : NewOk P rs id o bl) (hK : K v m) :
    o.wp P a w (Behind bs w0 rs bl m vt a id o K) Q := by
 by_cases hal : ∃ t, o.op = .alloc t
 ·obtain ⟨t, ht⟩ := hal
  have hn : isNew o = true := by unfold isNew; rw [ht]
  obtain ⟨hid, l, hl, hz0⟩ := hnew hn
  obtain ⟨z, hz, rfl⟩ := hz0 t ht
  have hv : v = .pointer (some ⟨id, 0, none⟩) := by
   unfold vq at h
   rw [ht] at h
   simp [Op.operands] at h
   exact h.symm
  have hm : m[id]? = some z.cells.toList := (N id hid).trans hl
  have hml : id < m.length := (List.getElem?_eq_some_iff.1 hm).1
  have hself : m.set id z.cells.toList = m := by
   have := (List.getElem?_eq_some_iff.1 hm).2
   rw [← this]
   exact List.set_getElem_self hml
  have hr : (execOp a.eval o).run P w = .ok (.value (.pointer (some ⟨w.heap.size, 0, none⟩))) (w.alloc (.cells z.cells.toList.toArray t)) := by
   have r := qrun_run _ hz w
   simp [execOp, ht, Instr.alloc, newVar, newRow, newObj, r, Sem.run]
  unfold Oper.wp
  rw [hr]
  exact new_run F R N hid hml hn t (by rw [hself, ← hv]; exact hK)
 ·obtain ⟨v', hv, hr⟩ := vq_run h (fun t ht => hal ⟨t, ht⟩) F R
  unfold Oper.wp
  rw [hr]
  exact ⟨bl, v, m, rfl, rfl, .refl _, fun _ _ => rfl, fun _ => rfl, put_defers _ _ _, F.put hv _, R, N, hK⟩
theorem va_wp {K : Value → Xm → Prop} (h : va P tbl id o (VE vt) m K) (F : FR bl vt a.tmps) (R : RW bs w0 bl m w) (N : Nw rs bl m) (hnew : NewOk P rs id o bl) :
    o.wp P a w (Behind bs w0 rs bl m vt a id o K) Q := by
 unfold va at h
 split at h
 ·rename_i t x y hok hop
  have hev : ∀ x ∈ o.op.operands, RV bl (VE vt x) (a.eval x) := fun x hx => F.eval (Array.all_eq_true_iff_forall_mem.1 hok x hx)
  have h1 := hev x (by simp [hop, Op.operands])
  have h2 := hev y (by simp [hop, Op.operands])
  split at h
  ·rename_i k off hx
   rw [hx] at h1
   obtain ⟨B, hB, he⟩ := h1
   have he : a.eval x = .pointer (some ⟨B, off, none⟩) := he
   split at h
   ·rename_i l hl
    split at h
    ·rename_i l' hp hst
     rw [h2.plain hp |>.symm] at hst
     obtain ⟨l2, e2, A⟩ := R.arr k B hB
     rw [hl] at e2
     cases e2
     obtain ⟨r, rfl, hlen⟩ := storeV_run hst A
     have hr : (execOp a.eval o).run P w = .ok .skip (wset w B off (a.eval y).cells.toList) := by
      simp [execOp, hop, he, Instr.storeAt, Instr.sureAddr, r]
     unfold Oper.wp
     rw [hr]
     refine ⟨bl, undef, _, rfl, List.length_set .., .refl _, fun _ _ => rfl, fun _ => rfl, put_defers _ _ _, F.put (.same rfl) _, R.store hB hl off _ hlen, fun k' hk' => ?_, h⟩
     have e : k ≠ k' := by rintro rfl; rw [hB] at hk'; cases hk'
     rw [List.getElem?_set_ne e]
     exact N k' hk'
    ·exact h.elim
   ·exact h.elim
  ·exact h.elim
 ·rename_i t x hok hop
  have h1 := F.eval (Array.all_eq_true_iff_forall_mem.1 hok x (by simp [hop, Op.operands]))
  split at h
  ·rename_i hp hc
   have hx : a.eval x = VE vt x := h1.plain hp
   have hn : isNew o = true := by unfold isNew; rw [hop]
   obtain ⟨hid, l, hl, _⟩ := hnew hn
   have hm : m[id]? = some l := (N id hid).trans hl
   have hml : id < m.length := (List.getElem?_eq_some_iff.1 hm).1
   have hr : (execOp a.eval o).run P w = .ok (.value (.pointer (some ⟨w.heap.size, 0, none⟩))) (w.alloc (.cells (VE vt x).cells.toList.toArray t)) := by
    simp [execOp, hop, Instr.box, newVar, newRow, newObj, Sem.run, hx]
   unfold Oper.wp
   rw [hr]
   exact new_run F R N hid hml hn t h
  ·exact h.elim
 ·split at h
  ·rename_i v hv
   exact vq_wp hv F R N hnew h
  ·exact h.elim
 ·rename_i c hok hop
  split at h
  ·rename_i n hcal
   split at h
   ·rename_i ct hct
    have hfn : ct.fn = n := by simpa using List.find?_some hct
    subst hfn
    have hr : (execOp a.eval o).run P w = .ok (.enter ct.fn (c.args.map a.eval)) w := by
     have := ct.go (c.args.map a.eval) w
     simp [execOp, hop, resolve, hcal, Act.eval, Deferred.ofValue, invoke, this]
    unfold Oper.wp
    rw [hr]
    have harg : ∀ i, RV bl ((c.args.toList.map (VE vt)).getD i undef) ((c.args.map a.eval).getD i undef) := by
     intro i
     by_cases hi : i < c.args.size
     ·have hx : c.args[i] ∈ o.op.operands := by
       simp only [hop, Op.operands, Call.operands]
       exact Array.mem_append_right _ (Array.getElem_mem hi)
      have := F.eval (Array.all_eq_true_iff_forall_mem.1 hok _ hx)
      simpa [List.getD_eq_getElem?_getD, hi] using this
     ·simp only [List.getD_eq_getElem?_getD, Array.getD_eq_getD_getElem?]
      rw [List.getElem?_eq_none (by simp; omega), Array.getElem?_eq_none (by simp; omega)]
      rfl
    refine Calls.mono (ct.ok R (by simp) harg (ct.keep h)) ?_
    rintro e w' ⟨v, v', m', rfl, hv, ⟨hK, hlen, hkeep⟩, R'⟩
    refine ⟨bl, v, m', rfl, hlen, .refl _, fun _ _ => rfl, fun _ => rfl, put_defers _ _ _, F.put hv _, R', fun k hk => ?_, hK⟩
    rw [hkeep k ?_]
    ·exact N k hk
    ·intro hmem
     unfold ptrs at hmem
     obtain ⟨u, hu, hk2⟩ := List.mem_filterMap.1 hmem
     obtain ⟨i, hi, rfl⟩ := List.mem_iff_getElem.1 hu
     have hrv := harg i
     rw [List.getD_eq_getElem?_getD, List.getElem?_eq_getElem hi] at hrv
     split at hk2
     ·rename_i b hb
      cases hk2
      simp only [Option.getD_some] at hrv
      rw [hb] at hrv
      obtain ⟨B, hB, _⟩ := hrv
      rw [hB] at hk
      cases hk
     ·cases hk2
   ·exact h.elim
  ·exact h.elim
 ·exact h.elim
end
end Go.Proofs.YtbophanlmkbfeaaGreatDoor
namespace Go.Proofs.YtbophanlmkbfeaaGreatDoor
open Go.RowKit
def yieldedV (ops : Array Oper) (vt : List Value) (j : Nat) : Option Bool :=
 match (ops[j]?).bind (·.dst) with
 | some d => asB (vt.getD d undef)
 | none => none
theorem RV.asB {bl : Bl} {v v' : Value} (h : RV bl v v') : asB v' = asB v := by
 cases hp : isP v
 ·rw [h.plain hp]
 ·match v, h, hp with
  | .pointer (some a), ⟨B, _, h2⟩, _ => rw [h2]; rfl
  | .nilIface, h, _ => exact h
  | .slice (some a) _ _, ⟨B, _, h2⟩, _ => rw [h2]; rfl
theorem yielded_eq {bl : Bl} {vt : List Value} {tm : Array Value} (F : FR bl vt tm) (ops : Array Oper) (j : Nat) : yielded ops tm j = yieldedV ops vt j := by
 unfold yielded yieldedV
 cases h : (ops[j]?).bind (·.dst) with
 | none => rfl
 | some d =>
  have hr := (F.rv d).asB
  dsimp only
  rw [← hr]
  simp only [Option.bind_some, Array.getD_eq_getD_getElem?]
  cases h2 : tm[d]? with
  | none => rfl
  | some u => cases u <;> rfl
theorem wanted_eq {bl : Bl} {vt : List Value} {tm : Array Value} (F : FR bl vt tm) (ops : Array Oper) (o : Oper) : Region.wanted o (yielded ops tm) = Region.wanted o (yieldedV ops vt) := by
 rw [funext (yielded_eq F ops)]
def nid (base : Nat) (ops : Array Oper) (i : Nat) : Nat := base + ((ops.toList.take i).filter isNew).length
theorem nid_lt {base : Nat} {ops : Array Oper} {i j : Nat} {oi : Oper} (hi : ops[i]? = some oi) (hn : isNew oi = true) (h : i < j) : nid base ops i < nid base ops j := by
 unfold nid
 have hl : ops.toList[i]? = some oi := by simpa using hi
 obtain ⟨hlt, he⟩ := List.getElem?_eq_some_iff.1 hl
 have h1 : (ops.toList.take (i + 1)).filter isNew = (ops.toList.take i).filter isNew ++ [oi] := by
  rw [List.take_succ_eq_append_getElem hlt, List.filter_append, he]
  simp [hn]
 have h2 : ((ops.toList.take (i + 1)).filter isNew).Sublist ((ops.toList.take j).filter isNew) := ((List.take_prefix_take_left (l := ops.toList) (show i + 1 ≤ j by omega)).sublist).filter _
 have := h2.length_le
 rw [h1, List.length_append] at this
 simp at this
 omega
theorem nid_inj {base : Nat} {ops : Array Oper} {i j : Nat} {oi oj : Oper} (hi : ops[i]? = some oi) (hj : ops[j]? = some oj) (ni : isNew oi = true) (nj : isNew oj = true) (h : nid base ops i = nid base ops j) : i = j := by
 rcases Nat.lt_trichotomy i j with h1 | h1 | h1
 ·have := nid_lt (base := base) hi ni h1; omega
 ·exact h1
 ·have := nid_lt (base := base) hj nj h1; omega
def Fresh (P : Program) (rs : Xm) (ops : Array Oper) (ids : Nat → Nat) (bl : Bl) (i : Nat) : Prop := ∀ o, ops[i]? = some o → NewOk P rs (ids i) o bl
theorem Fresh.next {P : Program} {rs : Xm} {ops : Array Oper} {base : Nat} {bl bl' : Bl} {i j : Nat} {o : Oper} (h : Fresh P rs ops (nid base ops) bl j) (hi : ops[i]? = some o) (hij : i ≠ j)
    (h1 : ∀ k : Nat, k ≠ nid base ops i → bl'[k]? = bl[k]?) (h2 : isNew o = false → bl' = bl) : Fresh P rs ops (nid base ops) bl' j := by
 intro oj hj hn
 have := h oj hj hn
 refine ⟨?_, this.2⟩
 cases ho : isNew o with
 | false => rw [h2 ho]; exact this.1
 | true =>
  rw [h1 _ (fun e => hij (nid_inj (base := base) hi hj ho hn e.symm))]
  exact this.1
def vif (x : Bool) (A B : Prop) : Prop :=
 match x with
 | true => A
 | false => B
theorem vif_if {c : Prop} [Decidable c] {α : Type} {K : α → Prop} {A B : α} : vif (decide c) (K A) (K B) = K (if c then A else B) := by
 by_cases h : c
 ·rw [decide_eq_true h, if_pos h]; rfl
 ·rw [decide_eq_false h, if_neg h]; rfl
theorem vif_b {b : Bool} {α : Type} {K : α → Prop} {A B : α} : vif b (K A) (K B) = K (if b then A else B) := by cases b <;> rfl
theorem vif_lt {a b : Int} {α : Type} {K : α → Prop} {A B : α} : vif (decide (a < b)) (K A) (K B) = K (if a < b then A else B) := vif_if
theorem vif_le {a b : Int} {α : Type} {K : α → Prop} {A B : α} : vif (decide (a ≤ b)) (K A) (K B) = K (if a ≤ b then A else B) := vif_if
theorem vif_eq {a b : Int} {α : Type} {K : α → Prop} {A B : α} : vif (decide (a = b)) (K A) (K B) = K (if a = b then A else B) := vif_if
theorem vif_ne {a b : Int} {α : Type} {K : α → Prop} {A B : α} : vif (!decide (a = b)) (K B) (K A) = K (if a = b then A else B) := by
 by_cases h : a = b
 ·rw [decide_eq_true h, if_pos h]; rfl
 ·rw [decide_eq_false h, if_neg h]; rfl
theorem vif_bn {b : Bool} {α : Type} {K : α → Prop} {A B : α} : vif (!b) (K B) (K A) = K (if b then A else B) := by cases b <;> rfl
def vop (P : Program) (tbl : List (Ct P)) (id : Nat) (o : Oper) (vt : List Value) (m : Xm) (K : List Value → Xm → Prop) : Prop :=
 match vq P (fun _ => true) id o (VE vt) m with
 | some v => K (vput vt o.dst v) m
 | none => va P tbl id o (VE vt) m (fun v m' => K (vput vt o.dst v) m')
def vseq (P : Program) (tbl : List (Ct P)) (ops : Array Oper) (ids : Nat → Nat) (K : List Value → Xm → Prop) : List Nat → List Value → Xm → Prop
 | [], vt, m => K vt m
 | i :: rest, vt, m =>
  match ops[i]? with
  | none => vseq P tbl ops ids K rest vt m
  | some o =>
   match o.guard with
   | none => vop P tbl (ids i) o vt m (vseq P tbl ops ids K rest)
   | some (g, want) =>
    match (ops[g]?).bind (·.dst) with
    | none => False
    | some d =>
     match vt.getD d undef with
     | .bool x => vif x
         (match want with
           | true => vop P tbl (ids i) o (vt.set d (.bool true)) m (vseq P tbl ops ids K rest)
           | false => vseq P tbl ops ids K rest (vput (vt.set d (.bool true)) o.dst undef) m)
         (match want with
           | true => vseq P tbl ops ids K rest (vput (vt.set d (.bool false)) o.dst undef) m
           | false => vop P tbl (ids i) o (vt.set d (.bool false)) m (vseq P tbl ops ids K rest))
     | .tuple _ => vseq P tbl ops ids K rest (vput vt o.dst undef) m
     | _ => False
section
variable {P : Program} {tbl : List (Ct P)} {bs : List Nat} {w0 : World} {rs : Xm} {Q : Exit → Act → World → Prop} {ops : Array Oper} {base : Nat} {K : List Value → Xm → Prop} {ds : List Deferred} {ln : Nat} {bl0 : Bl}
theorem vop_wp {bl : Bl} {vt : List Value} {m : Xm} {a : Act} {w : World} {id : Nat} {o : Oper} {K : List Value → Xm → Prop} (h : vop P tbl id o vt m K) (F : FR bl vt a.tmps) (R : RW bs w0 bl m w) (N : Nw rs bl m) (hnew : NewOk P rs id o bl) :
    o.wp P a w (Behind bs w0 rs bl m vt a id o (fun v m' => K (vput vt o.dst v) m')) Q := by
 unfold vop at h
 split at h
 ·rename_i v hv
  exact vq_wp hv F R N hnew h
 ·exact va_wp h F R N hnew
theorem FR.setSame {bl : Bl} {vt : List Value} {tm : Array Value} (h : FR bl vt tm) {d : Nat} {v : Value} (hd : vt.getD d undef = v) : FR bl (vt.set d v) tm := by
 refine ⟨by rw [List.length_set]; exact h.len, fun t => ?_⟩
 by_cases e : d = t
 ·subst e
  have h1 := h.rv d
  by_cases hl : d < vt.length
  ·rw [hd] at h1
   rw [List.getD_eq_getElem?_getD, List.getElem?_set_self hl]
   exact h1
  ·rw [List.getD_eq_getElem?_getD, List.getElem?_eq_none (by omega)] at h1
   rw [List.getD_eq_getElem?_getD, List.getElem?_eq_none (by rw [List.length_set]; omega)]
   exact h1
 ·have h1 := h.rv t
  rw [List.getD_eq_getElem?_getD] at h1 ⊢
  rw [List.getElem?_set_ne e]
  exact h1
theorem vseq_sound (hK : ∀ bl vt m a w, K vt m → FR bl vt a.tmps → RW bs w0 bl m w → Le bl0 bl → bl.length = ln → m.length = ln → a.defers = ds → Q .normal a w) :
    ∀ (is : List Nat) (bl : Bl) (vt : List Value) (m : Xm) (a : Act) (w : World), is.Nodup → vseq P tbl ops (nid base ops) K is vt m → FR bl vt a.tmps → RW bs w0 bl m w → Nw rs bl m →
      (∀ i ∈ is, Fresh P rs ops (nid base ops) bl i) → Le bl0 bl → bl.length = ln → m.length = ln → a.defers = ds → wpOps P ops Q is a w
 | [], bl, vt, m, a, w, _, h, F, R, _, _, hle, hl, hml, hd => hK bl vt m a w h F R hle hl hml hd
 | i :: rest, bl, vt, m, a, w, hnd, h, F, R, N, hf, hle, hl, hml, hd => by
  rw [List.nodup_cons] at hnd
  rw [wpOps_cons]
  unfold vseq at h
  unfold wpOp
  cases ho : ops[i]? with
  | none =>
   rw [ho] at h
   exact vseq_sound hK rest bl vt m a w hnd.2 h F R N (fun j hj => hf j (List.mem_cons_of_mem _ hj)) hle hl hml hd
  | some o =>
   rw [ho] at h
   dsimp only at h ⊢
   have hfi := hf i List.mem_cons_self o ho
   have step : ∀ vt2 : List Value, FR bl vt2 a.tmps → vop P tbl (nid base ops i) o vt2 m (vseq P tbl ops (nid base ops) K rest) → o.wp P a w (wpOps P ops Q rest) Q := by
    intro vt2 F2 h2
    refine Oper.wp_mono ?_ (vop_wp (Q := Q) h2 F2 R N hfi)
    rintro a' w' ⟨bl', v, m', hbl, hmm, hle', h1, h3, hdef, F', R', N', hK'⟩
    exact vseq_sound hK rest bl' _ m' a' w' hnd.2 hK' F' R' N' (fun j hj => (hf j (List.mem_cons_of_mem _ hj)).next ho (by rintro rfl; exact hnd.1 hj) h1 h3) (hle.trans hle') (hbl.trans hl) (hmm.trans hml) (hdef.trans hd)
   have skip : ∀ vt2 : List Value, FR bl vt2 a.tmps → vseq P tbl ops (nid base ops) K rest (vput vt2 o.dst undef) m → wpOps P ops Q rest (a.put o.dst undef) w := by
    intro vt2 F2 h2
    exact vseq_sound hK rest bl _ m _ w hnd.2 h2 (F2.put (.same rfl) _) R N (fun j hj => hf j (List.mem_cons_of_mem _ hj)) hle hl hml ((put_defers _ _ _).trans hd)
   rw [wanted_eq F]
   cases hg : o.guard with
   | none =>
    rw [hg] at h
    rw [show Region.wanted o (yieldedV ops vt) = true by unfold Region.wanted; rw [hg], if_pos rfl]
    exact .inl (step vt F h)
   | some gw =>
    obtain ⟨g, want⟩ := gw
    rw [hg] at h
    dsimp only at h
    split at h
    ·exact h.elim
    ·rename_i d hdst
     split at h
     ·rename_i x hx
      have hw : Region.wanted o (yieldedV ops vt) = (x == want) := by
       unfold Region.wanted
       rw [hg]
       dsimp only
       unfold yieldedV
       rw [hdst]
       dsimp only
       rw [hx]
       simp [asB]
      rw [hw]
      cases x <;> cases want <;> simp only [vif] at h
      ·rw [if_pos (by decide)]
       exact .inl (step _ (F.setSame hx) h)
      ·rw [if_neg (by decide)]
       exact skip _ (F.setSame hx) h
      ·rw [if_neg (by decide)]
       exact skip _ (F.setSame hx) h
      ·rw [if_pos (by decide)]
       exact .inl (step _ (F.setSame hx) h)
     ·rename_i ts hx
      have hw : Region.wanted o (yieldedV ops vt) = false := by
       unfold Region.wanted
       rw [hg]
       dsimp only
       unfold yieldedV
       rw [hdst]
       dsimp only
       rw [hx]
       rfl
      rw [hw, if_neg (by decide)]
      exact skip _ F h
     ·exact h.elim
end
end Go.Proofs.YtbophanlmkbfeaaGreatDoor
