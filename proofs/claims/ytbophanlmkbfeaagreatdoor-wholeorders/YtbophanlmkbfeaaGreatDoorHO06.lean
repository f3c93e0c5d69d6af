/-
A part.
A part.
A part.
-/
import Derived.Test.YtbophanlmkbfeaaGreatDoorHO05
namespace Go.Proofs.YtbophanlmkbfeaaGreatDoor
open Go.RowKit
def tkn : Value → Option (Option IntKind × Nat)
 | .tuple ⟨[.int k (.ofNat _)]⟩ => some (some k, 0)
 | .tuple ⟨[.int k (.negSucc n)]⟩ => some (some k, n + 1)
 | .tuple ⟨[.bool _]⟩ => some (none, 0)
 | .tuple ⟨[.float _ i]⟩ => some (none, i + 1)
 | _ => none
def unk (k : IntKind) : Value := .tuple ⟨[.int k 0]⟩
def upto (k : IntKind) (n : Nat) : Value := .tuple ⟨[.int k (.negSucc n)]⟩
def unkB : Value := .tuple ⟨[.bool false]⟩
def All2 {α β : Type} (R : α → β → Prop) : List α → List β → Prop
 | [], [] => True
 | a :: l, b :: m => R a b ∧ All2 R l m
 | _, _ => False
theorem All2.len {α β : Type} {R : α → β → Prop} : ∀ {l : List α} {m : List β}, All2 R l m → l.length = m.length
 | [], [], _ => rfl
 | _ :: _, _ :: _, h => congrArg (· + 1) h.2.len
 | [], _ :: _, h => h.elim
 | _ :: _, [], h => h.elim
theorem All2.imp {α β : Type} {R S : α → β → Prop} (hi : ∀ a b, R a b → S a b) : ∀ {l : List α} {m : List β}, All2 R l m → All2 S l m
 | [], [], _ => trivial
 | _ :: _, _ :: _, h => ⟨hi _ _ h.1, All2.imp hi h.2⟩
 | [], _ :: _, h => h.elim
 | _ :: _, [], h => h.elim
theorem All2.get {α β : Type} {R : α → β → Prop} : ∀ {l : List α} {m : List β}, All2 R l m → ∀ (i : Nat) (a : α), l[i]? = some a → ∃ b, m[i]? = some b ∧ R a b
 | [], [], _, i, a, h => by simp at h
 | x :: l, y :: m, h, 0, a, e => ⟨y, rfl, by simp at e; exact e ▸ h.1⟩
 | x :: l, y :: m, h, i + 1, a, e => by simpa using All2.get h.2 i a (by simpa using e)
 | [], _ :: _, h, _, _, _ => h.elim
 | _ :: _, [], h, _, _, _ => h.elim
theorem All2.set {α β : Type} {R : α → β → Prop} : ∀ {l : List α} {m : List β}, All2 R l m → ∀ (i : Nat) (a : α) (b : β), R a b → All2 R (l.set i a) (m.set i b)
 | [], [], _, _, _, _, _ => trivial
 | _ :: _, _ :: _, h, 0, _, _, r => ⟨r, h.2⟩
 | _ :: _, _ :: _, h, i + 1, a, b, r => ⟨h.1, All2.set h.2 i a b r⟩
 | [], _ :: _, h, _, _, _, _ => h.elim
 | _ :: _, [], h, _, _, _, _ => h.elim
theorem All2.append {α β : Type} {R : α → β → Prop} : ∀ {l : List α} {m : List β} {l' : List α} {m' : List β}, All2 R l m → All2 R l' m' → All2 R (l ++ l') (m ++ m')
 | [], [], _, _, _, h => h
 | _ :: _, _ :: _, _, _, h, k => ⟨h.1, All2.append h.2 k⟩
 | [], _ :: _, _, _, h, _ => h.elim
 | _ :: _, [], _, _, h, _ => h.elim
theorem All2.drop {α β : Type} {R : α → β → Prop} : ∀ (n : Nat) {l : List α} {m : List β}, All2 R l m → All2 R (l.drop n) (m.drop n)
 | 0, _, _, h => h
 | _ + 1, [], [], _ => trivial
 | n + 1, _ :: _, _ :: _, h => All2.drop n h.2
 | _ + 1, [], _ :: _, h => h.elim
 | _ + 1, _ :: _, [], h => h.elim
theorem All2.take {α β : Type} {R : α → β → Prop} : ∀ (n : Nat) {l : List α} {m : List β}, All2 R l m → All2 R (l.take n) (m.take n)
 | 0, _, _, _ => by simp [All2]
 | _ + 1, [], [], _ => trivial
 | n + 1, _ :: _, _ :: _, h => ⟨h.1, All2.take n h.2⟩
 | _ + 1, [], _ :: _, h => h.elim
 | _ + 1, _ :: _, [], h => h.elim
theorem All2.refl {α : Type} {R : α → α → Prop} : ∀ (l : List α), (∀ a ∈ l, R a a) → All2 R l l
 | [], _ => trivial
 | a :: l, h => ⟨h a List.mem_cons_self, All2.refl l (fun b hb => h b (List.mem_cons_of_mem _ hb))⟩
def plain : Value → Bool
 | .agg _ => false
 | .tuple ⟨_ :: _ :: _⟩ => false
 | _ => true
def G0 (τ : Nat → Int) (t v : Value) : Prop :=
 match tkn t with
 | some (some k, 0) => ∃ x, v = .int k x
 | some (some k, n + 1) => ∃ x, v = .int k x ∧ 0 ≤ x ∧ x ≤ n
 | some (none, 0) => ∃ b, v = .bool b
 | some (none, i + 1) => v = .int .i64 (τ i)
 | none => v = t ∧ plain t = true
def G1 (τ : Nat → Int) (t v : Value) : Prop :=
 match t with
 | .agg cs => ∃ l, v = .agg ⟨l⟩ ∧ All2 (G0 τ) cs.toList l
 | t => G0 τ t v
def G2 (τ : Nat → Int) (t v : Value) : Prop :=
 match t with
 | .tuple ⟨a :: b :: r⟩ => ∃ l, v = .tuple ⟨l⟩ ∧ All2 (G1 τ) (a :: b :: r) l
 | t => G1 τ t v
section
variable {τ : Nat → Int}
theorem G0.eq {t v : Value} (h : G0 τ t v) (ht : tkn t = none) : v = t := by
 unfold G0 at h
 rw [ht] at h
 exact h.1
theorem G0.same {t : Value} (ht : tkn t = none) (hp : plain t = true) : G0 τ t t := by
 unfold G0
 rw [ht]
 exact ⟨rfl, hp⟩
theorem G0.plain {t v : Value} (h : G0 τ t v) : plain t = true := by
 unfold G0 at h
 split at h
 ·rename_i e
  unfold tkn at e
  split at e <;> cases e <;> rfl
 ·rename_i e
  unfold tkn at e
  split at e <;> cases e <;> rfl
 ·rename_i e
  unfold tkn at e
  split at e <;> cases e <;> rfl
 ·rename_i e
  unfold tkn at e
  split at e <;> cases e <;> rfl
 ·exact h.2
def real0 (t : Value) : Bool := (tkn t).isNone && Go.Proofs.YtbophanlmkbfeaaGreatDoor.plain t
def real1 : Value → Bool
 | .agg cs => cs.toList.all real0
 | t => real0 t
def real2 : Value → Bool
 | .tuple ⟨a :: b :: r⟩ => (a :: b :: r).all real1
 | t => real1 t
theorem All2.eq {R : Value → Value → Prop} {p : Value → Bool} (hp : ∀ t v, p t = true → R t v → v = t) : ∀ {l m : List Value}, All2 R l m → l.all p = true → m = l
 | [], [], _, _ => rfl
 | a :: l, b :: m, h, hr => by
  simp only [List.all_cons, Bool.and_eq_true] at hr
  rw [hp a b hr.1 h.1, All2.eq hp h.2 hr.2]
 | [], _ :: _, h, _ => h.elim
 | _ :: _, [], h, _ => h.elim
theorem real0_eq (t v : Value) (hr : real0 t = true) (h : G0 τ t v) : v = t := h.eq (by simp [real0] at hr; exact hr.1)
theorem real1_eq (t v : Value) (hr : real1 t = true) (h : G1 τ t v) : v = t := by
 unfold G1 at h
 unfold real1 at hr
 split at h
 ·obtain ⟨l, rfl, hl⟩ := h
  rw [hl.eq real0_eq hr]
 ·rename_i hn
  split at hr
  ·exact absurd rfl (hn _)
  ·exact real0_eq _ _ hr h
theorem real2_eq (t v : Value) (hr : real2 t = true) (h : G2 τ t v) : v = t := by
 unfold G2 at h
 unfold real2 at hr
 split at h
 ·obtain ⟨l, rfl, hl⟩ := h
  rw [hl.eq real1_eq hr]
 ·rename_i hn
  split at hr
  ·exact absurd rfl (hn _ _ _)
  ·exact real1_eq _ _ hr h
theorem real0_same {t : Value} (hr : real0 t = true) : G0 τ t t := .same (by simp [real0] at hr; exact hr.1) (by simp [real0] at hr; exact hr.2)
theorem real1_same {t : Value} (hr : real1 t = true) : G1 τ t t := by
 unfold real1 at hr
 unfold G1
 split at hr
 ·exact ⟨_, rfl, All2.refl _ (fun a ha => real0_same (List.all_eq_true.1 hr a ha))⟩
 ·exact real0_same hr
theorem real2_same {t : Value} (hr : real2 t = true) : G2 τ t t := by
 unfold real2 at hr
 unfold G2
 split at hr
 ·exact ⟨_, rfl, All2.refl _ (fun a ha => real1_same (List.all_eq_true.1 hr a ha))⟩
 ·exact real1_same hr
theorem G0.g1 {t v : Value} (h : G0 τ t v) : G1 τ t v := by
 have hp := h.plain
 unfold G1
 split
 ·cases hp
 ·exact h
theorem G1.g2 {t v : Value} (h : G1 τ t v) : G2 τ t v := by
 unfold G2
 split
 ·exact absurd (G0.plain h) (by simp [Go.Proofs.YtbophanlmkbfeaaGreatDoor.plain])
 ·exact h
theorem G0.g2 {t v : Value} (h : G0 τ t v) : G2 τ t v := h.g1.g2
theorem G2.agg {cs : Array Value} {v : Value} (h : G2 τ (.agg cs) v) : ∃ l, v = .agg ⟨l⟩ ∧ All2 (G0 τ) cs.toList l := h
theorem G2.ptr {a : Option Addr} {v : Value} (h : G2 τ (.pointer a) v) : v = .pointer a := h.1
theorem G2.int {k : IntKind} {x : Int} {v : Value} (h : G2 τ (.int k x) v) : v = .int k x := h.1
theorem G2.bool {b : Bool} {v : Value} (h : G2 τ (.bool b) v) : v = .bool b := h.1
def kindA : Value → Option IntKind
 | .int k _ => some k
 | .tuple ⟨[.int k _]⟩ => some k
 | .tuple ⟨[.float _ _]⟩ => some .i64
 | _ => none
def boolA : Value → Bool
 | .bool _ => true
 | .tuple ⟨[.bool _]⟩ => true
 | _ => false
theorem kindA_is0 {t v : Value} {k : IntKind} (h : kindA t = some k) (g : G0 τ t v) : ∃ x, v = .int k x := by
 unfold kindA at h
 split at h
 ·cases h; exact ⟨_, g.1⟩
 ·rename_i k' z
  cases h
  cases z with
  | ofNat n => exact g
  | negSucc n => obtain ⟨x, e, _⟩ := g; exact ⟨x, e⟩
 ·cases h; exact ⟨_, g⟩
 ·cases h
theorem kindA_is {t v : Value} {k : IntKind} (h : kindA t = some k) (g : G2 τ t v) : ∃ x, v = .int k x := by
 refine kindA_is0 (τ := τ) h ?_
 unfold kindA at h
 split at h
 ·exact g
 ·exact g
 ·exact g
 ·cases h
theorem boolA_is {t v : Value} (h : boolA t = true) (g : G2 τ t v) : ∃ x, v = .bool x := by
 unfold boolA at h
 split at h
 ·exact ⟨_, g.1⟩
 ·exact g
 ·cases h
theorem boolA_is0 {t v : Value} (h : boolA t = true) (g : G0 τ t v) : ∃ x, v = .bool x := by
 unfold boolA at h
 split at h
 ·exact ⟨_, g.1⟩
 ·exact g
 ·cases h
theorem G2.unk {k : IntKind} {x : Int} : G2 τ (unk k) (.int k x) := ⟨x, rfl⟩
theorem G2.unkB {b : Bool} : G2 τ unkB (.bool b) := ⟨b, rfl⟩
theorem G0.isP {t v : Value} (h : G0 τ t v) : isP v = isP t := by
 unfold G0 at h
 split at h
 ·rename_i k e
  obtain ⟨x, rfl⟩ := h
  unfold tkn at e
  split at e <;> cases e <;> rfl
 ·rename_i k n e
  obtain ⟨x, rfl, _⟩ := h
  unfold tkn at e
  split at e <;> cases e <;> rfl
 ·rename_i e
  obtain ⟨x, rfl⟩ := h
  unfold tkn at e
  split at e <;> cases e <;> rfl
 ·rename_i i e
  subst h
  unfold tkn at e
  split at e <;> cases e <;> rfl
 ·rw [h.1]
theorem G1.isP {t v : Value} (h : G1 τ t v) : isP v = isP t := by
 unfold G1 at h
 split at h
 ·obtain ⟨l, rfl, _⟩ := h; rfl
 ·exact h.isP
theorem G2.isP {t v : Value} (h : G2 τ t v) : isP v = isP t := by
 unfold G2 at h
 split at h
 ·obtain ⟨l, rfl, _⟩ := h; rfl
 ·exact h.isP
structure GF (τ : Nat → Int) (at' vt : List Value) : Prop where
 len : at'.length = vt.length
 g : ∀ t, G2 τ (at'.getD t undef) (vt.getD t undef)
structure GM (τ : Nat → Int) (am m : Xm) : Prop where
 len : am.length = m.length
 g : ∀ (k : Nat) (l : List Value), am[k]? = some l → ∃ l', m[k]? = some l' ∧ All2 (G0 τ) l l'
def okA : Operand → Bool
 | .const v => !isP v && real2 v
 | .global _ => false
 | _ => true
theorem okA_okX {x : Operand} (h : okA x = true) : okX x = true := by
 cases x <;> simp [okA, okX] at h ⊢
 exact h.1
theorem GF.ev {at' vt : List Value} (h : GF τ at' vt) {x : Operand} (hx : okA x = true) : G2 τ (VE at' x) (VE vt x) := by
 match x, hx with
 | .tmp t, _ => exact h.g t
 | .const v, hx =>
  simp only [okA, Bool.and_eq_true] at hx
  exact real2_same hx.2
 | .global g, hx => cases hx
 | .func f, _ => exact real2_same rfl
theorem GF.set {at' vt : List Value} (h : GF τ at' vt) (d : Nat) {t v : Value} (g : G2 τ t v) : GF τ (at'.set d t) (vt.set d v) := by
 refine ⟨by simp [h.len], fun i => ?_⟩
 have hl := h.len
 simp only [List.getD_eq_getElem?_getD]
 by_cases e : d = i
 ·subst e
  by_cases hd : d < vt.length
  ·rw [List.getElem?_set_self (by omega), List.getElem?_set_self hd]
   exact g
  ·rw [List.getElem?_eq_none (by rw [List.length_set]; omega), List.getElem?_eq_none (by rw [List.length_set]; omega)]
   exact real2_same rfl
 ·rw [List.getElem?_set_ne e, List.getElem?_set_ne e]
  have := h.g i
  simpa only [List.getD_eq_getElem?_getD] using this
theorem GF.put {at' vt : List Value} (h : GF τ at' vt) (d : Option Tmp) {t v : Value} (g : G2 τ t v) : GF τ (vput at' d t) (vput vt d v) := by
 cases d with
 | none => exact h
 | some d => exact h.set d g
theorem GM.set {am m : Xm} (h : GM τ am m) (k : Nat) {l l' : List Value} (g : All2 (G0 τ) l l') : GM τ (am.set k l) (m.set k l') := by
 refine ⟨by simp [h.len], fun i x hx => ?_⟩
 have hl := h.len
 by_cases e : k = i
 ·subst e
  have hk : k < am.length := by
   have := (List.getElem?_eq_some_iff.1 hx).1
   simpa using this
  rw [List.getElem?_set_self hk] at hx
  cases hx
  exact ⟨l', List.getElem?_set_self (by omega), g⟩
 ·rw [List.getElem?_set_ne e] at hx ⊢
  exact h.g i x hx
theorem GM.get {am m : Xm} (h : GM τ am m) {k : Nat} {l : List Value} (e : am[k]? = some l) {l' : List Value} (e' : m[k]? = some l') : All2 (G0 τ) l l' := by
 obtain ⟨x, hx, g⟩ := h.g k l e
 rw [e'] at hx
 cases hx
 exact g
end
end Go.Proofs.YtbophanlmkbfeaaGreatDoor
namespace Go.Proofs.YtbophanlmkbfeaaGreatDoor
open Go.RowKit
theorem qrun_bind {P : Program} {α β : Type} (s : Sem α) (f : α → Sem β) : qrun P (s >>= f) = (qrun P s).bind fun a => qrun P (f a) := by
 show qrun P (Sem.bind s f) = _
 induction s with
 | pure a => rfl
 | program k ih => exact ih P
 | mark m k ih => exact ih
 | _ => rfl
section
variable {P : Program} {τ : Nat → Int}
theorem pureV_of {o : Oper} {ρ : Operand → Value} {v : Value} (hp : ∀ x ∈ o.op.operands, isP (ρ x) = false) (hq : qrun P (execOp ρ o) = some (.value v)) (hv : isP v = false) : pureV P o ρ = some v := by
 unfold pureV
 rw [if_pos (Array.all_eq_true_iff_forall_mem.2 (fun x hx => by rw [hp x hx]; rfl)), hq]
 simp [hv]
theorem pureV_is {o : Oper} {ρ : Operand → Value} {v : Value} (h : pureV P o ρ = some v) : (∀ x ∈ o.op.operands, isP (ρ x) = false) ∧ qrun P (execOp ρ o) = some (.value v) ∧ isP v = false := by
 unfold pureV at h
 split at h
 ·rename_i hp
  split at h
  ·rename_i u hq
   split at h
   ·cases h
   ·rename_i hu
    cases h
    exact ⟨fun x hx => by simpa using Array.all_eq_true_iff_forall_mem.1 hp x hx, hq, by simpa using hu⟩
  ·cases h
 ·cases h
def intOp : BinOp → Bool
 | .add => true
 | .sub => true
 | .mul => true
 | .and => true
 | .or => true
 | .xor => true
 | .andNot => true
 | _ => false
def cmpOp : BinOp → Bool
 | .eql => true
 | .neq => true
 | .lss => true
 | .leq => true
 | .gtr => true
 | .geq => true
 | _ => false
def isBoolT (P : Program) (t : TypeId) : Bool :=
 match P.underlying t with
 | some .bool => true
 | _ => false
def aBin (P : Program) (op : BinOp) (t : TypeId) (x y : Value) : Option Value :=
 match kindA x, kindA y with
 | some k, some k' =>
  if intOp op then (if k = k' then some (unk k) else none)
  else if cmpOp op then (if k = k' then some unkB else none)
  else match y with
   | .int _ n => (match op with
    | .shl => if 0 ≤ n then some (unk k) else none
    | .shr => if 0 ≤ n then some (unk k) else none
    | .quo => if k = k' ∧ n ≠ 0 then some (unk k) else none
    | .rem => if k = k' ∧ n ≠ 0 then some (unk k) else none
    | _ => none)
   | _ => none
 | _, _ => if boolA x && boolA y && isBoolT P t then (match op with
     | .eql => some unkB
     | .neq => some unkB
     | _ => none) else none
theorem guard_ints (op : BinOp) (t : TypeId) (x y : Operand) (k k' : IntKind) (a b : Int) : qrun P (eqGuard op t x y (.int k a) (.int k' b)) = some () := by
 cases op <;> rfl
theorem guard_bools (op : BinOp) (t : TypeId) (x y : Operand) (a b : Bool) : qrun P (eqGuard op t x y (.bool a) (.bool b)) = some () := by
 cases op <;> rfl
theorem bin_arith (op : BinOp) (h : intOp op = true) (t : TypeId) (k : IntKind) (a b : Int) : ∃ z, qrun P (binOp op t (.int k a) (.int k b)) = some (.int k z) := by
 cases op <;> first | (cases k <;> exact ⟨_, rfl⟩) | (cases h; done)
theorem bin_cmp (op : BinOp) (h : cmpOp op = true) (t : TypeId) (k : IntKind) (a b : Int) : ∃ z, qrun P (binOp op t (.int k a) (.int k b)) = some (.bool z) := by
 cases op <;> first | (cases k <;> exact ⟨_, rfl⟩) | (cases h; done)
theorem bin_shift (op : BinOp) (h : op = .shl ∨ op = .shr) (t : TypeId) (k k' : IntKind) (a b : Int) (hb : 0 ≤ b) : ∃ z, qrun P (binOp op t (.int k a) (.int k' b)) = some (.int k z) := by
 rcases h with rfl | rfl
 ·show ∃ z, qrun P (Op.shift .shl k a k' b) = some (.int k z)
  unfold Op.shift
  rw [if_neg (by omega)]
  exact ⟨_, rfl⟩
 ·show ∃ z, qrun P (Op.shift .shr k a k' b) = some (.int k z)
  unfold Op.shift
  rw [if_neg (by omega)]
  exact ⟨_, rfl⟩
theorem bin_div (op : BinOp) (h : op = .quo ∨ op = .rem) (t : TypeId) (k : IntKind) (a b : Int) (hb : b ≠ 0) : ∃ z, qrun P (binOp op t (.int k a) (.int k b)) = some (.int k z) := by
 have e : binOp op t (.int k a) (.int k b) = Op.intDiv op k a b := by rcases h with rfl | rfl <;> cases k <;> rfl
 rw [e]
 unfold Op.intDiv
 rw [if_neg hb]
 rcases h with rfl | rfl
 ·exact ⟨_, rfl⟩
 ·exact ⟨_, rfl⟩
theorem under_q {t : TypeId} {d : TypeDesc} (h : P.underlying t = some d) : qrun P (underlying t) = some d := by
 unfold underlying
 rw [qrun_bind]
 show qrun P (match P.underlying t with
  | some d => pure d
  | none => _) = _
 rw [h]
 rfl
theorem bin_bool (op : BinOp) (h : op = .eql ∨ op = .neq) (t : TypeId) (ht : P.underlying t = some .bool) (a b : Bool) : ∃ z, qrun P (binOp op t (.bool a) (.bool b)) = some (.bool z) := by
 have e : qrun P (Op.equal t (.bool a) (.bool b)) = some (a == b) := by
  show qrun P (Op.equalIn (9999 + 1) t (.bool a) (.bool b)) = some (a == b)
  rw [Op.equalIn, qrun_bind]
  have hu : qrun P (underlying t) = some .bool := under_q ht
  rw [hu]
  rfl
 rcases h with rfl | rfl
 ·refine ⟨a == b, ?_⟩
  show qrun P (Op.equal t (.bool a) (.bool b) >>= fun z => pure (Value.bool z)) = _
  rw [qrun_bind, e]
  rfl
 ·refine ⟨!(a == b), ?_⟩
  show qrun P (Op.equal t (.bool a) (.bool b) >>= fun z => pure (Value.bool !z)) = _
  rw [qrun_bind, e]
  rfl
theorem exec_bin {o : Oper} {op : BinOp} {t t' : TypeId} {x y : Operand} (hop : o.op = .binOp op t x y t') {ρ : Operand → Value} {v : Value} (hg : qrun P (eqGuard op t x y (ρ x) (ρ y)) = some ()) (hb : qrun P (binOp op t (ρ x) (ρ y)) = some v) : qrun P (execOp ρ o) = some (.value v) := by
 have e : execOp ρ o = (do let z ← (do eqGuard op t x y (ρ x) (ρ y); binOp op t (ρ x) (ρ y)); pure (.value z)) := by simp only [execOp, hop]
 rw [e, qrun_bind, qrun_bind, hg]
 show (Option.bind (qrun P (binOp op t (ρ x) (ρ y))) _) = _
 rw [hb]
 rfl
theorem aBin_ok {o : Oper} {op : BinOp} {t t' : TypeId} {x y : Operand} (hop : o.op = .binOp op t x y t') {at' vt : List Value} {r : Value} (h : aBin P op t (VE at' x) (VE at' y) = some r) (gx : G2 τ (VE at' x) (VE vt x)) (gy : G2 τ (VE at' y) (VE vt y)) :
    nilV P op t (VE vt x) (VE vt y) = none ∧ ∃ v, pureV P o (VE vt) = some v ∧ G2 τ r v := by
 have ops : ∀ z ∈ o.op.operands, z = x ∨ z = y := fun z hz => by simpa [hop, Op.operands] using hz
 unfold aBin at h
 split at h
 ·rename_i k k' hk hk'
  obtain ⟨a, ea⟩ := kindA_is hk gx
  obtain ⟨b, eb⟩ := kindA_is hk' gy
  have hn : nilV P op t (VE vt x) (VE vt y) = none := by rw [ea]; rfl
  have hp : ∀ z ∈ o.op.operands, isP (VE vt z) = false := fun z hz => by
   rcases ops z hz with rfl | rfl
   ·rw [ea]; rfl
   ·rw [eb]; rfl
  have fin : ∀ v, qrun P (binOp op t (.int k a) (.int k' b)) = some v → isP v = false → G2 τ r v → nilV P op t (VE vt x) (VE vt y) = none ∧ ∃ v, pureV P o (VE vt) = some v ∧ G2 τ r v := fun v hv h1 h2 =>
   ⟨hn, v, pureV_of hp (exec_bin hop (by rw [ea, eb]; exact guard_ints ..) (by rw [ea, eb]; exact hv)) h1, h2⟩
  split at h
  ·rename_i hi
   split at h
   ·rename_i hkk
    subst hkk
    cases h
    obtain ⟨z, hz⟩ := bin_arith (P := P) op hi t k a b
    exact fin _ hz rfl .unk
   ·cases h
  ·split at h
   ·rename_i hi
    split at h
    ·rename_i hkk
     subst hkk
     cases h
     obtain ⟨z, hz⟩ := bin_cmp (P := P) op hi t k a b
     exact fin _ hz rfl .unkB
    ·cases h
   ·split at h
    ·rename_i n hy
     have e2 := gy
     rw [hy] at e2
     have e2 := e2.int
     rw [eb] at e2
     cases e2
     split at h
     ·split at h
      ·rename_i hn0
       cases h
       obtain ⟨z, hz⟩ := bin_shift (P := P) .shl (.inl rfl) t k k' a b hn0
       exact fin _ hz rfl .unk
      ·cases h
     ·split at h
      ·rename_i hn0
       cases h
       obtain ⟨z, hz⟩ := bin_shift (P := P) .shr (.inr rfl) t k k' a b hn0
       exact fin _ hz rfl .unk
      ·cases h
     ·split at h
      ·rename_i hn0
       obtain ⟨rfl, hn0⟩ := hn0
       cases h
       obtain ⟨z, hz⟩ := bin_div (P := P) .quo (.inl rfl) t k a b hn0
       exact fin _ hz rfl .unk
      ·cases h
     ·split at h
      ·rename_i hn0
       obtain ⟨rfl, hn0⟩ := hn0
       cases h
       obtain ⟨z, hz⟩ := bin_div (P := P) .rem (.inr rfl) t k a b hn0
       exact fin _ hz rfl .unk
      ·cases h
     ·cases h
    ·cases h
 ·split at h
  ·rename_i hb
   simp only [Bool.and_eq_true] at hb
   obtain ⟨a, ea⟩ := boolA_is hb.1.1 gx
   obtain ⟨b, eb⟩ := boolA_is hb.1.2 gy
   have ht : P.underlying t = some .bool := by
    have := hb.2
    unfold isBoolT at this
    split at this
    ·assumption
    ·cases this
   have hn : nilV P op t (VE vt x) (VE vt y) = none := by rw [ea]; rfl
   have hp : ∀ z ∈ o.op.operands, isP (VE vt z) = false := fun z hz => by
    rcases ops z hz with rfl | rfl
    ·rw [ea]; rfl
    ·rw [eb]; rfl
   split at h
   ·cases h
    obtain ⟨z, hz⟩ := bin_bool (P := P) .eql (.inl rfl) t ht a b
    exact ⟨hn, _, pureV_of hp (exec_bin hop (by rw [ea, eb]; exact guard_bools ..) (by rw [ea, eb]; exact hz)) rfl, .unkB⟩
   ·cases h
    obtain ⟨z, hz⟩ := bin_bool (P := P) .neq (.inr rfl) t ht a b
    exact ⟨hn, _, pureV_of hp (exec_bin hop (by rw [ea, eb]; exact guard_bools ..) (by rw [ea, eb]; exact hz)) rfl, .unkB⟩
   ·cases h
  ·cases h
def aUn (op : UnOp) (x : Value) : Option Value :=
 match op with
 | .neg => (kindA x).map unk
 | .xor => (kindA x).map unk
 | .not => if boolA x then some unkB else none
 | .plus => none
theorem aUn_ok {o : Oper} {op : UnOp} {t : TypeId} {x : Operand} (hop : o.op = .unOp op t x) {at' vt : List Value} {r : Value} (h : aUn op (VE at' x) = some r) (gx : G2 τ (VE at' x) (VE vt x)) : ∃ v, pureV P o (VE vt) = some v ∧ G2 τ r v := by
 have ops : ∀ z ∈ o.op.operands, z = x := fun z hz => by simpa [hop, Op.operands] using hz
 have fin : ∀ u v, VE vt x = u → isP u = false → qrun P (Op.unary op u) = some v → isP v = false → G2 τ r v → ∃ v, pureV P o (VE vt) = some v ∧ G2 τ r v := fun u v hu h0 hv h1 h2 =>
  ⟨v, pureV_of (fun z hz => by rw [ops z hz, hu]; exact h0) (by
   have e : execOp (VE vt) o = (do let z ← Op.unary op (VE vt x); pure (.value z)) := by simp only [execOp, hop]
   rw [e, qrun_bind, hu, hv]
   rfl) h1, h2⟩
 unfold aUn at h
 split at h
 ·obtain ⟨k, hk, rfl⟩ := Option.map_eq_some_iff.1 h
  obtain ⟨a, ea⟩ := kindA_is hk gx
  exact fin _ _ ea rfl rfl rfl .unk
 ·obtain ⟨k, hk, rfl⟩ := Option.map_eq_some_iff.1 h
  obtain ⟨a, ea⟩ := kindA_is hk gx
  exact fin _ _ ea rfl rfl rfl .unk
 ·split at h
  ·rename_i hb
   cases h
   obtain ⟨a, ea⟩ := boolA_is hb gx
   exact fin _ _ ea rfl rfl rfl .unkB
  ·cases h
 ·cases h
def intT (P : Program) (t : TypeId) : Option IntKind :=
 match P.underlying t with
 | some (.int k) => some k
 | _ => none
def aConv (P : Program) (s d : TypeId) (x : Value) : Option Value :=
 match kindA x, intT P s, intT P d with
 | some _, some _, some k => some (unk k)
 | _, _, _ => none
theorem intT_q {t : TypeId} {k : IntKind} (h : intT P t = some k) : qrun P (underlying t) = some (.int k) := by
 unfold intT at h
 split at h
 ·rename_i k' hu
  cases h
  exact under_q hu
 ·cases h
theorem aConv_ok {o : Oper} {s d : TypeId} {x : Operand} (hop : o.op = .convert s d x) {at' vt : List Value} {r : Value} (h : aConv P s d (VE at' x) = some r) (gx : G2 τ (VE at' x) (VE vt x)) : ∃ v, pureV P o (VE vt) = some v ∧ G2 τ r v := by
 have ops : ∀ z ∈ o.op.operands, z = x := fun z hz => by simpa [hop, Op.operands] using hz
 unfold aConv at h
 split at h
 ·rename_i k1 k2 k hk hs hd
  cases h
  obtain ⟨a, ea⟩ := kindA_is hk gx
  refine ⟨.int k (k.wrap a), pureV_of (fun z hz => by rw [ops z hz, ea]; rfl) ?_ rfl, .unk⟩
  have e : execOp (VE vt) o = (do let z ← convert s d (VE vt x); pure (.value z)) := by simp only [execOp, hop]
  have e2 : qrun P (convert s d (.int k1 a)) = some (.int k (k.wrap a)) := by
   unfold convert
   rw [qrun_bind, intT_q hs]
   show qrun P (underlying d >>= _) = _
   rw [qrun_bind, intT_q hd]
   rfl
  rw [e, qrun_bind, ea, e2]
  rfl
 ·cases h
theorem part_q (t : TypeId) (cs : Array Value) (off : Nat) : qrun P (part t cs off) = (qrun P (isAgg t)).bind fun b => if b then (qrun P (sizeOf t)).map fun n => .agg (cs.extract off (off + n)) else cs[off]? := by
 unfold part
 rw [qrun_bind]
 congr 1
 funext b
 cases b with
 | true =>
  simp only [if_true, qrun_bind]
  cases qrun P (sizeOf t) <;> rfl
 | false =>
  simp only [Bool.false_eq_true, if_false]
  cases h : cs[off]? <;> rfl
theorem part_nat {t : TypeId} {cs : Array Value} {off : Nat} {r : Value} (h : qrun P (part t cs off) = some r) {l : List Value} (g : All2 (G0 τ) cs.toList l) : ∃ v, qrun P (part t ⟨l⟩ off) = some v ∧ G1 τ r v := by
 rw [part_q] at h
 simp only [part_q]
 cases h1 : qrun P (isAgg t) with
 | none => rw [h1] at h; cases h
 | some b =>
  rw [h1] at h
  cases b with
  | true =>
   simp only [Option.bind_some, if_true] at h ⊢
   cases h2 : qrun P (sizeOf t) with
   | none => rw [h2] at h; cases h
   | some n =>
    rw [h2] at h
    cases h
    refine ⟨_, rfl, ⟨(Array.extract ⟨l⟩ off (off + n)).toList, rfl, ?_⟩⟩
    have := (g.drop off).take n
    simpa [List.extract_eq_take_drop] using this
  | false =>
   simp only [Option.bind_some, Bool.false_eq_true, if_false] at h ⊢
   obtain ⟨v, hv, gv⟩ := g.get off r (by simpa using h)
   exact ⟨v, by simpa using hv, gv.g1⟩
end
end Go.Proofs.YtbophanlmkbfeaaGreatDoor
namespace Go.Proofs.YtbophanlmkbfeaaGreatDoor
open Go.RowKit
section
variable {P : Program} {τ : Nat → Int}
theorem one_qr {S : Sem Value} {v : Value} : qrun P (S >>= fun z => pure (Next.value z)) = some (Next.value v) ↔ qrun P S = some v := by
 rw [qrun_bind]
 cases h : qrun P S with
 | none => simp
 | some u =>
  show some (Next.value u) = some (Next.value v) ↔ some u = some v
  constructor
  ·intro e
   cases e
   rfl
  ·intro e
   cases e
   rfl
theorem pure_nat {o : Oper} {at' vt : List Value} {S S' : Sem Value} {r : Value} (hS : execOp (VE at') o = S >>= fun z => pure (Next.value z)) (hS' : execOp (VE vt) o = S' >>= fun z => pure (Next.value z))
    (h : pureV P o (VE at') = some r) (hg : ∀ x ∈ o.op.operands, G2 τ (VE at' x) (VE vt x)) (hn : qrun P S = some r → ∃ v, qrun P S' = some v ∧ G2 τ r v) : ∃ v, pureV P o (VE vt) = some v ∧ G2 τ r v := by
 obtain ⟨hp, hq, hr⟩ := pureV_is h
 rw [hS, one_qr] at hq
 obtain ⟨v, hv, g⟩ := hn hq
 exact ⟨v, pureV_of (fun x hx => by rw [(hg x hx).isP]; exact hp x hx) (by rw [hS', one_qr]; exact hv) (by rw [g.isP]; exact hr), g⟩
theorem asAgg_q {x : Value} {cs : Array Value} (h : qrun P (asAgg x) = some cs) : x = .agg cs := by
 unfold asAgg at h
 split at h
 ·cases h; rfl
 ·cases h
theorem field_nat {t : TypeId} {x v r : Value} {f : Nat} (h : qrun P (Instr.field t x f) = some r) (g : G2 τ x v) : ∃ u, qrun P (Instr.field t v f) = some u ∧ G2 τ r u := by
 unfold Instr.field at h ⊢
 rw [qrun_bind] at h ⊢
 cases hu : qrun P (underlying t) with
 | none => rw [hu] at h; cases h
 | some d =>
  rw [hu] at h
  simp only [Option.bind_some] at h ⊢
  split at h
  ·split at h
   ·rw [qrun_bind] at h ⊢
    cases hx : qrun P (asAgg x) with
    | none => rw [hx] at h; cases h
    | some cs =>
     rw [hx] at h
     obtain rfl := asAgg_q hx
     obtain ⟨l, rfl, gl⟩ := g.agg
     obtain ⟨u, hu, gu⟩ := part_nat h gl
     exact ⟨u, hu, gu.g2⟩
   ·cases h
  ·cases h
theorem bounds_q {α : Type} (k : IntKind) (i : Int) (n : Nat) (c : BoundsCode) : qrun P (boundsPanic (α := α) k i n c) = none := by
 unfold boundsPanic
 dsimp only
 split <;> rfl
theorem index_nat {t : TypeId} {x v r : Value} {k : IntKind} {i : Int} (h : qrun P (Instr.index t x (.int k i)) = some r) (hx : ∃ cs, x = .agg cs) (g : G2 τ x v) : ∃ u, qrun P (Instr.index t v (.int k i)) = some u ∧ G2 τ r u := by
 obtain ⟨cs, rfl⟩ := hx
 obtain ⟨l, rfl, gl⟩ := g.agg
 unfold Instr.index at h ⊢
 rw [qrun_bind] at h ⊢
 change (Option.bind (some (k, i)) _) = _ at h
 change ∃ u, (Option.bind (some (k, i)) _) = _ ∧ _
 simp only [Option.bind_some] at h ⊢
 rw [qrun_bind] at h ⊢
 cases hu : qrun P (underlying t) with
 | none => rw [hu] at h; cases h
 | some d =>
  rw [hu] at h
  simp only [Option.bind_some] at h ⊢
  split at h
  ·rename_i vv len elem cs' e2
   cases e2
   split at h
   ·rename_i hi
    rw [if_pos hi]
    rw [qrun_bind] at h ⊢
    cases hs : qrun P (sizeOf elem) with
    | none => rw [hs] at h; cases h
    | some n =>
     rw [hs] at h
     obtain ⟨u, hu, gu⟩ := part_nat h gl
     exact ⟨u, hu, gu.g2⟩
   ·rw [bounds_q] at h
    cases h
  ·rename_i e
   cases e
  ·cases h
theorem extract_nat {a b : Value} {rs : List Value} {v r : Value} {i : Nat} (h : qrun P (Instr.extract (.tuple ⟨a :: b :: rs⟩) i) = some r) (g : G2 τ (.tuple ⟨a :: b :: rs⟩) v) : ∃ u, qrun P (Instr.extract v i) = some u ∧ G2 τ r u := by
 obtain ⟨l, rfl, gl⟩ := g
 unfold Instr.extract at h ⊢
 dsimp only at h ⊢
 split at h
 ·rename_i w hw
  cases h
  obtain ⟨u, hu, gu⟩ := gl.get i r (by simpa using hw)
  refine ⟨u, ?_, gu.g2⟩
  have : (⟨l⟩ : Array Value)[i]? = some u := by simpa using hu
  rw [this]
  rfl
 ·cases h
def notMulti : Value → Bool
 | .tuple ⟨_ :: _ :: _⟩ => false
 | _ => true
theorem cells_nat {t v : Value} (g : G2 τ t v) (hm : notMulti t = true) : All2 (G0 τ) t.cells.toList v.cells.toList := by
 unfold G2 at g
 split at g
 ·cases hm
 ·unfold G1 at g
  split at g
  ·obtain ⟨l, rfl, gl⟩ := g
   exact gl
  ·rename_i hn
   have h1 : t.cells = #[t] := by
    unfold Value.cells
    split
    ·exact absurd rfl (hn _)
    ·rfl
   have h2 : v.cells = #[v] := by
    unfold G0 at g
    split at g
    ·obtain ⟨x, rfl⟩ := g; rfl
    ·obtain ⟨x, rfl, _⟩ := g; rfl
    ·obtain ⟨x, rfl⟩ := g; rfl
    ·rw [g]; rfl
    ·rw [g.1]; exact h1
   rw [h1, h2]
   exact ⟨g, trivial⟩
theorem fold_nat (off : Nat) : ∀ (l l' : List Value), All2 (G0 τ) l l' → ∀ (n : Nat) (cs cs' : Array Value), All2 (G0 τ) cs.toList cs'.toList →
    All2 (G0 τ) ((l.zipIdx n).foldl (fun cs (x : Value × Nat) => cs.setIfInBounds (off + x.2) x.1) cs).toList ((l'.zipIdx n).foldl (fun cs (x : Value × Nat) => cs.setIfInBounds (off + x.2) x.1) cs').toList
 | [], [], _, _, _, _, h => h
 | a :: l, b :: l', g, n, cs, cs', h => by
  simp only [List.zipIdx_cons, List.foldl_cons]
  exact fold_nat off l l' g.2 (n + 1) _ _ (by simpa using h.set (off + n) a b g.1)
 | [], _ :: _, g, _, _, _, _ => g.elim
 | _ :: _, [], g, _, _, _, _ => g.elim
theorem fill_nat (place : Nat → Option (Nat × Nat)) : ∀ (ps ps' : List (Nat × Value)), All2 (fun p q : Nat × Value => p.1 = q.1 ∧ All2 (G0 τ) p.2.cells.toList q.2.cells.toList) ps ps' → ∀ (cs cs' : Array Value) (r : Array Value), All2 (G0 τ) cs.toList cs'.toList →
    Instr.fill place cs ps = some r → ∃ r', Instr.fill place cs' ps' = some r' ∧ All2 (G0 τ) r.toList r'.toList
 | [], [], _, cs, cs', r, g, h => by
  simp only [Instr.fill, Option.some.injEq] at h
  subst h
  exact ⟨cs', rfl, g⟩
 | (i, v) :: ps, (j, u) :: ps', gp, cs, cs', r, g, h => by
  obtain ⟨⟨rfl, gv⟩, gp⟩ := gp
  have hl := gv.len
  have hc := g.len
  simp only [Array.length_toList] at hl hc
  unfold Instr.fill at h ⊢
  dsimp only at h ⊢
  split at h
  ·cases h
  ·rename_i off size hp
   split at h
   ·cases h
   ·rename_i hcond
    rw [← hl, ← hc, if_neg hcond]
    refine fill_nat place ps ps' gp _ _ r ?_ h
    have := fold_nat off _ _ gv 0 cs cs' g
    rw [← Array.foldl_toList, ← Array.foldl_toList, Array.toList_zipIdx, Array.toList_zipIdx]
    exact this
 | [], _ :: _, g, _, _, _, _, _ => g.elim
 | _ :: _, [], g, _, _, _, _, _ => g.elim
def zeroOk (P : Program) (t : TypeId) : Bool :=
 match qrun P (zeroValue t) with
 | some z => z.cells.toList.all real0
 | none => false
theorem build_nat {t : TypeId} {ps ps' : Array (Nat × Value)} {r : Value} (hz : zeroOk P t = true) (h : qrun P (Instr.build t ps) = some r) (g : All2 (fun p q : Nat × Value => p.1 = q.1 ∧ All2 (G0 τ) p.2.cells.toList q.2.cells.toList) ps.toList ps'.toList) :
    ∃ u, qrun P (Instr.build t ps') = some u ∧ G2 τ r u := by
 unfold zeroOk at hz
 unfold Instr.build at h ⊢
 rw [qrun_bind] at h ⊢
 cases h0 : qrun P (zeroValue t) with
 | none => rw [h0] at h; cases h
 | some z =>
  rw [h0] at h hz
  dsimp only at hz
  have gz : All2 (G0 τ) z.cells.toList z.cells.toList := All2.refl _ (fun a ha => real0_same (List.all_eq_true.1 hz a ha))
  simp only [Option.bind_some] at h ⊢
  rw [qrun_bind] at h ⊢
  cases hu : qrun P (underlying t) with
  | none => rw [hu] at h; cases h
  | some d =>
   rw [hu] at h
   simp only [Option.bind_some] at h ⊢
   split at h
   ·rw [qrun_bind] at h ⊢
    generalize qrun P _ = pl at h ⊢
    cases pl with
    | none => cases h
    | some places =>
     simp only [Option.bind_some] at h ⊢
     split at h
     ·rename_i cells hf
      cases h
      obtain ⟨r', hr', gr⟩ := fill_nat (τ := τ) _ _ _ g _ _ _ gz hf
      rw [hr']
      exact ⟨.agg r', rfl, ⟨r'.toList, rfl, gr⟩⟩
     ·cases h
   ·rw [qrun_bind] at h ⊢
    generalize qrun P _ = pl at h ⊢
    cases pl with
    | none => cases h
    | some size =>
     simp only [Option.bind_some] at h ⊢
     split at h
     ·rename_i cells hf
      cases h
      obtain ⟨r', hr', gr⟩ := fill_nat (τ := τ) _ _ _ g _ _ _ gz hf
      rw [hr']
      exact ⟨.agg r', rfl, ⟨r'.toList, rfl, gr⟩⟩
     ·cases h
   ·cases h
theorem loadV_nat {t : TypeId} {l l' : List Value} {off : Nat} {r : Value} (h : loadV P t l off = some r) (g : All2 (G0 τ) l l') : ∃ v, loadV P t l' off = some v ∧ G2 τ r v := by
 unfold loadV at h ⊢
 split at h
 ·split at h
  ·rename_i n hn
   split at h
   ·rename_i hl
    cases h
    have := g.len
    rw [if_pos (by omega)]
    refine ⟨_, rfl, ⟨_, rfl, ?_⟩⟩
    have := (g.drop off).take n
    simpa using this
   ·cases h
  ·cases h
 ·obtain ⟨v, hv, gv⟩ := g.get off r h
  exact ⟨v, hv, gv.g2⟩
 ·cases h
def aPick (c a b : Value) : Option Value :=
 match c with
 | .bool x => (match x with
  | true => some a
  | false => some b)
 | c => if boolA c then (if boolA a && boolA b then some unkB else match kindA a, kindA b with
     | some k, some k' => if k = k' then some (unk k) else none
     | _, _ => none) else none
theorem pick_t (a b : Value) : pickV (.bool true) a b = some a := by cases a <;> cases b <;> rfl
theorem pick_f (a b : Value) : pickV (.bool false) a b = some b := by cases a <;> cases b <;> rfl
theorem aPick_ok {c a b vc va vb r : Value} (h : aPick c a b = some r) (gc : G2 τ c vc) (ga : G2 τ a va) (gb : G2 τ b vb) : ∃ v, pickV vc va vb = some v ∧ G2 τ r v := by
 unfold aPick at h
 split at h
 ·rename_i x
  obtain rfl := gc.bool
  cases x with
  | true => cases h; exact ⟨va, pick_t va vb, ga⟩
  | false => cases h; exact ⟨vb, pick_f va vb, gb⟩
 ·split at h
  ·rename_i hb
   obtain ⟨x, rfl⟩ := boolA_is hb gc
   split at h
   ·rename_i hab
    rw [Bool.and_eq_true] at hab
    obtain ⟨p, rfl⟩ := boolA_is hab.1 ga
    obtain ⟨q, rfl⟩ := boolA_is hab.2 gb
    cases h
    exact ⟨_, rfl, .unkB⟩
   ·split at h
    ·rename_i k k' hk hk'
     obtain ⟨p, rfl⟩ := kindA_is hk ga
     obtain ⟨q, rfl⟩ := kindA_is hk' gb
     split at h
     ·rename_i e
      subst e
      cases h
      cases x
      ·exact ⟨_, rfl, .unk⟩
      ·exact ⟨_, rfl, .unk⟩
     ·cases h
    ·cases h
  ·cases h
end
end Go.Proofs.YtbophanlmkbfeaaGreatDoor
