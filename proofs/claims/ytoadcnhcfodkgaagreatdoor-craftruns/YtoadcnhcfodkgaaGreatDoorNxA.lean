/-
  A run of Go code over names: tokens (some whole number, some bool, the number named so, or that with the other sign), what they have to do with values, for the seat YtoadcnhcfodkgaaGreatDoor. No Go text in sight.
-/
import Derived.Test.YtoadcnhcfodkgaaGreatDoorSxI
namespace Go.Proofs.YtoadcnhcfodkgaaGreatDoor.Nx
open Go.RowKit Go.Proofs.YtoadcnhcfodkgaaGreatDoor


/-- A token: which kind of it, of which kind of number, and its name. -/
def tkn : Value → Option (Nat × IntKind × Nat)
  | .tuple ⟨[.int k (.ofNat _)]⟩ => some (0, k, 0)
  | .tuple ⟨[.bool _]⟩ => some (1, .i64, 0)
  | .tuple ⟨[.float .f64 i]⟩ => some (2, .i64, i)
  | .tuple ⟨[.agg _]⟩ => some (3, .i64, 0)
  | _ => none
def unk (k : IntKind) : Value := .tuple ⟨[.int k 0]⟩
def unkB : Value := .tuple ⟨[.bool false]⟩
def sym (i : Nat) : Value := .tuple ⟨[.float .f64 i]⟩
/-- What is worked of named numbers by Go's own steps: numbers, names and steps one behind the other, a step behind what it is of. -/
def xp (l : List Value) : Value := .tuple ⟨[.agg ⟨l⟩]⟩
def opE (c : Nat) (a b : Int) : Option Int :=
  match c with
  | 0 => some (IntKind.i64.wrap (a + b))
  | 1 => some (IntKind.i64.wrap (a - b))
  | 2 => some (IntKind.i64.wrap (a * b))
  | 3 => if b = 0 then none else some (IntKind.i64.wrap (Int.tdiv a b))
  | 4 => if b = 0 then none else some (Int.tmod a b)
  | _ => none
def evR (τ : List Int) : List Int → List Value → Option (List Int)
  | st, [] => some st
  | st, .int _ n :: l => evR τ (n :: st) l
  | st, .float .f64 i :: l => (match τ[i]? with
    | some x => evR τ (x :: st) l
    | none => none)
  | b :: a :: st, .float .f32 c :: l => (match opE c a b with
    | some r => evR τ (r :: st) l
    | none => none)
  | _, _ :: _ => none
def evX (τ : List Int) (t : Value) : Option Int :=
  match t with
  | .tuple ⟨[.agg ⟨l⟩]⟩ => (match evR τ [] l with
    | some [x] => some x
    | _ => none)
  | _ => none
def nsym (i : Nat) : Value := xp [.int .i64 0, .float .f64 i, .float .f32 1]
/-- A number with the other sign. -/
def negI (x : Int) : Int := IntKind.i64.wrap (0 - x)
/-- More is named. -/
def Ext (τ τ' : List Int) : Prop := ∃ l, τ' = τ ++ l
theorem Ext.refl (τ : List Int) : Ext τ τ := ⟨[], (List.append_nil τ).symm⟩
theorem Ext.trans {a b c : List Int} (h : Ext a b) (k : Ext b c) : Ext a c := by
  obtain ⟨l, rfl⟩ := h
  obtain ⟨m, rfl⟩ := k
  exact ⟨l ++ m, List.append_assoc ..⟩
theorem Ext.at {τ τ' : List Int} (h : Ext τ τ') {i : Nat} {x : Int} (e : τ[i]? = some x) : τ'[i]? = some x := by
  obtain ⟨l, rfl⟩ := h
  rw [List.getElem?_append_left (List.getElem?_eq_some_iff.1 e).1]
  exact e
theorem evR_ext {τ τ' : List Int} (h : Ext τ τ') : ∀ (l : List Value) (st r : List Int), evR τ st l = some r → evR τ' st l = some r
  | [], st, r, e => e
  | a :: l, st, r, e => by
    unfold evR at e ⊢
    split at e
    · rename_i heq
      cases heq
    · rename_i heq
      cases heq
      exact evR_ext h l _ _ e
    · rename_i heq
      cases heq
      split at e
      · rename_i x hx
        rw [h.at hx]
        exact evR_ext h l _ _ e
      · cases e
    · rename_i heq
      cases heq
      split at e
      · rename_i x hx
        exact evR_ext h l _ _ e
      · cases e
    · cases e
theorem evX_ext {τ τ' : List Int} (h : Ext τ τ') {t : Value} {x : Int} (e : evX τ t = some x) : evX τ' t = some x := by
  unfold evX at e ⊢
  split at e
  · split at e
    · rename_i hx
      cases e
      rw [evR_ext h _ _ _ hx]
    · cases e
  · cases e
def All2 {α β : Type} (R : α → β → Prop) : List α → List β → Prop
  | [], [] => True
  | a :: l, b :: m => R a b ∧ All2 R l m
  | _, _ => False
theorem All2.len {α β : Type} {R : α → β → Prop} : ∀ {l : List α} {m : List β}, All2 R l m → l.length = m.length
  | [], [], _ => rfl
  | _ :: _, _ :: _, h => congrArg (· + 1) h.2.len
  | [], _ :: _, h => h.elim
  | _ :: _, [], h => h.elim
theorem All2.imp {α β : Type} {R S : α → β → Prop} (hi : ∀ a b, R a b → S a b) : ∀ {l : List α} {m : List β}, All2 R l m → All2 S l m
  | [], [], _ => trivial
  | _ :: _, _ :: _, h => ⟨hi _ _ h.1, All2.imp hi h.2⟩
  | [], _ :: _, h => h.elim
  | _ :: _, [], h => h.elim
theorem All2.get {α β : Type} {R : α → β → Prop} : ∀ {l : List α} {m : List β}, All2 R l m → ∀ (i : Nat) (a : α), l[i]? = some a → ∃ b, m[i]? = some b ∧ R a b
  | [], [], _, i, a, h => by simp at h
  | x :: l, y :: m, h, 0, a, e => ⟨y, rfl, by simp at e; exact e ▸ h.1⟩
  | x :: l, y :: m, h, i + 1, a, e => by simpa using All2.get h.2 i a (by simpa using e)
  | [], _ :: _, h, _, _, _ => h.elim
  | _ :: _, [], h, _, _, _ => h.elim
theorem All2.set {α β : Type} {R : α → β → Prop} : ∀ {l : List α} {m : List β}, All2 R l m → ∀ (i : Nat) (a : α) (b : β), R a b → All2 R (l.set i a) (m.set i b)
  | [], [], _, _, _, _, _ => trivial
  | _ :: _, _ :: _, h, 0, _, _, r => ⟨r, h.2⟩
  | _ :: _, _ :: _, h, i + 1, a, b, r => ⟨h.1, All2.set h.2 i a b r⟩
  | [], _ :: _, h, _, _, _, _ => h.elim
  | _ :: _, [], h, _, _, _, _ => h.elim
theorem All2.append {α β : Type} {R : α → β → Prop} : ∀ {l : List α} {m : List β} {l' : List α} {m' : List β}, All2 R l m → All2 R l' m' → All2 R (l ++ l') (m ++ m')
  | [], [], _, _, _, h => h
  | _ :: _, _ :: _, _, _, h, k => ⟨h.1, All2.append h.2 k⟩
  | [], _ :: _, _, _, h, _ => h.elim
  | _ :: _, [], _, _, h, _ => h.elim
theorem All2.drop {α β : Type} {R : α → β → Prop} : ∀ (n : Nat) {l : List α} {m : List β}, All2 R l m → All2 R (l.drop n) (m.drop n)
  | 0, _, _, h => h
  | _ + 1, [], [], _ => trivial
  | n + 1, _ :: _, _ :: _, h => All2.drop n h.2
  | _ + 1, [], _ :: _, h => h.elim
  | _ + 1, _ :: _, [], h => h.elim
theorem All2.take {α β : Type} {R : α → β → Prop} : ∀ (n : Nat) {l : List α} {m : List β}, All2 R l m → All2 R (l.take n) (m.take n)
  | 0, _, _, _ => by simp [All2]
  | _ + 1, [], [], _ => trivial
  | n + 1, _ :: _, _ :: _, h => ⟨h.1, All2.take n h.2⟩
  | _ + 1, [], _ :: _, h => h.elim
  | _ + 1, _ :: _, [], h => h.elim
theorem All2.refl {α : Type} {R : α → α → Prop} : ∀ (l : List α), (∀ a ∈ l, R a a) → All2 R l l
  | [], _ => trivial
  | a :: l, h => ⟨h a List.mem_cons_self, All2.refl l (fun b hb => h b (List.mem_cons_of_mem _ hb))⟩
/-- May stand in one cell. -/
def plain : Value → Bool
  | .agg _ => false
  | .tuple ⟨_ :: _ :: _⟩ => false
  | _ => true
/-- A cell. -/
def G0 (τ : List Int) (t v : Value) : Prop :=
  match tkn t with
  | some (0, k, _) => ∃ x, v = .int k x
  | some (1, _, _) => ∃ b, v = .bool b
  | some (2, _, i) => ∃ x, τ[i]? = some x ∧ v = .int .i64 x
  | some (_, _, _) => ∃ x, evX τ t = some x ∧ v = .int .i64 x
  | none => v = t ∧ plain t = true
/-- A cell or a row of cells. -/
def G1 (τ : List Int) (t v : Value) : Prop :=
  match t with
  | .agg cs => ∃ l, v = .agg ⟨l⟩ ∧ All2 (G0 τ) cs.toList l
  | t => G0 τ t v
/-- Or several of them. -/
def G2 (τ : List Int) (t v : Value) : Prop :=
  match t with
  | .tuple ⟨a :: b :: r⟩ => ∃ l, v = .tuple ⟨l⟩ ∧ All2 (G1 τ) (a :: b :: r) l
  | t => G1 τ t v
section
variable {τ : List Int}
theorem tkn_agg {cs : Array Value} : tkn (.agg cs) = none := rfl
theorem G0.eq {t v : Value} (h : G0 τ t v) (ht : tkn t = none) : v = t := by
  unfold G0 at h
  rw [ht] at h
  exact h.1
theorem G0.same {t : Value} (ht : tkn t = none) (hp : plain t = true) : G0 τ t t := by
  unfold G0
  rw [ht]
  exact ⟨rfl, hp⟩
theorem G0.plain {t v : Value} (h : G0 τ t v) : plain t = true := by
  unfold G0 at h
  split at h
  · rename_i e
    unfold tkn at e
    split at e <;> cases e <;> rfl
  · rename_i e
    unfold tkn at e
    split at e <;> cases e <;> rfl
  · rename_i e
    unfold tkn at e
    split at e <;> cases e <;> rfl
  · rename_i e
    unfold tkn at e
    split at e <;> cases e <;> rfl
  · exact h.2
/-- Is a value all that it is itself? -/
def real0 (t : Value) : Bool := (tkn t).isNone && Nx.plain t
def real1 : Value → Bool
  | .agg cs => cs.toList.all real0
  | t => real0 t
def real2 : Value → Bool
  | .tuple ⟨a :: b :: r⟩ => (a :: b :: r).all real1
  | t => real1 t
theorem All2.eq {R : Value → Value → Prop} {p : Value → Bool} (hp : ∀ t v, p t = true → R t v → v = t) : ∀ {l m : List Value}, All2 R l m → l.all p = true → m = l
  | [], [], _, _ => rfl
  | a :: l, b :: m, h, hr => by
    simp only [List.all_cons, Bool.and_eq_true] at hr
    rw [hp a b hr.1 h.1, All2.eq hp h.2 hr.2]
  | [], _ :: _, h, _ => h.elim
  | _ :: _, [], h, _ => h.elim
theorem real0_eq (t v : Value) (hr : real0 t = true) (h : G0 τ t v) : v = t := h.eq (by simp [real0] at hr; exact hr.1)
theorem real1_eq (t v : Value) (hr : real1 t = true) (h : G1 τ t v) : v = t := by
  unfold G1 at h
  unfold real1 at hr
  split at h
  · obtain ⟨l, rfl, hl⟩ := h
    rw [hl.eq real0_eq hr]
  · rename_i hn
    split at hr
    · exact absurd rfl (hn _)
    · exact real0_eq _ _ hr h
theorem real2_eq (t v : Value) (hr : real2 t = true) (h : G2 τ t v) : v = t := by
  unfold G2 at h
  unfold real2 at hr
  split at h
  · obtain ⟨l, rfl, hl⟩ := h
    rw [hl.eq real1_eq hr]
  · rename_i hn
    split at hr
    · exact absurd rfl (hn _ _ _)
    · exact real1_eq _ _ hr h
theorem real0_same {t : Value} (hr : real0 t = true) : G0 τ t t := .same (by simp [real0] at hr; exact hr.1) (by simp [real0] at hr; exact hr.2)
theorem real1_same {t : Value} (hr : real1 t = true) : G1 τ t t := by
  unfold real1 at hr
  unfold G1
  split at hr
  · exact ⟨_, rfl, All2.refl _ (fun a ha => real0_same (List.all_eq_true.1 hr a ha))⟩
  · exact real0_same hr
theorem real2_same {t : Value} (hr : real2 t = true) : G2 τ t t := by
  unfold real2 at hr
  unfold G2
  split at hr
  · exact ⟨_, rfl, All2.refl _ (fun a ha => real1_same (List.all_eq_true.1 hr a ha))⟩
  · exact real1_same hr
theorem G0.g1 {t v : Value} (h : G0 τ t v) : G1 τ t v := by
  have hp := h.plain
  unfold G1
  split
  · cases hp
  · exact h
theorem G1.g2 {t v : Value} (h : G1 τ t v) : G2 τ t v := by
  unfold G2
  split
  · exact absurd (G0.plain h) (by simp [Nx.plain])
  · exact h
theorem G0.g2 {t v : Value} (h : G0 τ t v) : G2 τ t v := h.g1.g2
theorem G2.agg {cs : Array Value} {v : Value} (h : G2 τ (.agg cs) v) : ∃ l, v = .agg ⟨l⟩ ∧ All2 (G0 τ) cs.toList l := h
theorem G2.ptr {a : Option Addr} {v : Value} (h : G2 τ (.pointer a) v) : v = .pointer a := h.1
theorem G2.int {k : IntKind} {x : Int} {v : Value} (h : G2 τ (.int k x) v) : v = .int k x := h.1
theorem G2.bool {b : Bool} {v : Value} (h : G2 τ (.bool b) v) : v = .bool b := h.1
/-- The kind of a number, the number being known or not. -/
def kindA : Value → Option IntKind
  | .int k _ => some k
  | .tuple ⟨[.int k (.ofNat _)]⟩ => some k
  | .tuple ⟨[.float .f64 _]⟩ => some .i64
  | .tuple ⟨[.agg _]⟩ => some .i64
  | _ => none
def boolA : Value → Bool
  | .bool _ => true
  | .tuple ⟨[.bool _]⟩ => true
  | _ => false
theorem kindA_is0 {t v : Value} {k : IntKind} (h : kindA t = some k) (g : G0 τ t v) : ∃ x, v = .int k x := by
  unfold kindA at h
  split at h
  · cases h; exact ⟨_, g.1⟩
  · cases h; exact g
  · cases h
    obtain ⟨x, _, e⟩ := g
    exact ⟨x, e⟩
  · cases h
    obtain ⟨x, _, e⟩ := g
    exact ⟨_, e⟩
  · cases h
theorem kindA_is {t v : Value} {k : IntKind} (h : kindA t = some k) (g : G2 τ t v) : ∃ x, v = .int k x := by
  refine kindA_is0 (τ := τ) h ?_
  unfold kindA at h
  split at h
  · exact g
  · exact g
  · exact g
  · exact g
  · cases h
theorem boolA_is {t v : Value} (h : boolA t = true) (g : G2 τ t v) : ∃ x, v = .bool x := by
  unfold boolA at h
  split at h
  · exact ⟨_, g.1⟩
  · exact g
  · cases h
theorem boolA_is0 {t v : Value} (h : boolA t = true) (g : G0 τ t v) : ∃ x, v = .bool x := by
  unfold boolA at h
  split at h
  · exact ⟨_, g.1⟩
  · exact g
  · cases h
theorem G2.unk {k : IntKind} {x : Int} : G2 τ (unk k) (.int k x) := ⟨x, rfl⟩
theorem G2.unkB {b : Bool} : G2 τ unkB (.bool b) := ⟨b, rfl⟩
/-- No address stands for anything but itself. -/
theorem G0.isP {t v : Value} (h : G0 τ t v) : isP v = isP t := by
  have h0 := h
  unfold G0 at h
  split at h
  · rename_i k _ e
    obtain ⟨x, rfl⟩ := h
    unfold tkn at e
    split at e <;> cases e <;> rfl
  · rename_i e
    obtain ⟨x, rfl⟩ := h
    unfold tkn at e
    split at e <;> cases e <;> rfl
  · rename_i e
    obtain ⟨x, _, rfl⟩ := h
    unfold tkn at e
    split at e <;> cases e <;> rfl
  · rename_i e
    obtain ⟨x, _, rfl⟩ := h
    unfold tkn at e
    split at e <;> cases e <;> rfl
  · rw [h.1]
theorem G0.ext {τ' : List Int} (hx : Ext τ τ') {t v : Value} (h : G0 τ t v) : G0 τ' t v := by
  unfold G0 at h ⊢
  split at h
  · exact h
  · exact h
  · obtain ⟨x, e, hv⟩ := h
    exact ⟨x, hx.at e, hv⟩
  · obtain ⟨x, e, hv⟩ := h
    exact ⟨x, evX_ext hx e, hv⟩
  · exact h
theorem G1.ext {τ' : List Int} (hx : Ext τ τ') {t v : Value} (h : G1 τ t v) : G1 τ' t v := by
  unfold G1 at h ⊢
  split at h
  · obtain ⟨l, e, hl⟩ := h
    exact ⟨l, e, hl.imp fun _ _ k => k.ext hx⟩
  · exact h.ext hx
theorem G2.ext {τ' : List Int} (hx : Ext τ τ') {t v : Value} (h : G2 τ t v) : G2 τ' t v := by
  unfold G2 at h ⊢
  split at h
  · obtain ⟨l, e, hl⟩ := h
    exact ⟨l, e, hl.imp fun _ _ k => k.ext hx⟩
  · exact h.ext hx
theorem G1.isP {t v : Value} (h : G1 τ t v) : isP v = isP t := by
  unfold G1 at h
  split at h
  · obtain ⟨l, rfl, _⟩ := h; rfl
  · exact h.isP
theorem G2.isP {t v : Value} (h : G2 τ t v) : isP v = isP t := by
  unfold G2 at h
  split at h
  · obtain ⟨l, rfl, _⟩ := h; rfl
  · exact h.isP
/-! ### Frames and memory -/
structure GF (τ : List Int) (at' vt : List Value) : Prop where
  len : at'.length = vt.length
  g : ∀ t, G2 τ (at'.getD t undef) (vt.getD t undef)
structure GM (τ : List Int) (am m : Xm) : Prop where
  len : am.length = m.length
  g : ∀ (k : Nat) (l : List Value), am[k]? = some l → ∃ l', m[k]? = some l' ∧ All2 (G0 τ) l l'
theorem GF.ext {τ' : List Int} (hx : Ext τ τ') {at' vt : List Value} (h : GF τ at' vt) : GF τ' at' vt := ⟨h.len, fun t => (h.g t).ext hx⟩
theorem GM.ext {τ' : List Int} (hx : Ext τ τ') {am m : Xm} (h : GM τ am m) : GM τ' am m := ⟨h.len, fun k l e => let ⟨l', h1, h2⟩ := h.g k l e; ⟨l', h1, h2.imp fun _ _ k => k.ext hx⟩⟩
def okA : Operand → Bool
  | .const v => !isP v && real2 v
  | .global _ => false
  | _ => true
theorem okA_okX {x : Operand} (h : okA x = true) : okX x = true := by
  cases x <;> simp [okA, okX] at h ⊢
  exact h.1
theorem GF.ev {at' vt : List Value} (h : GF τ at' vt) {x : Operand} (hx : okA x = true) : G2 τ (VE at' x) (VE vt x) := by
  match x, hx with
  | .tmp t, _ => exact h.g t
  | .const v, hx =>
    simp only [okA, Bool.and_eq_true] at hx
    exact real2_same hx.2
  | .global g, hx => cases hx
  | .func f, _ => exact real2_same rfl
theorem GF.set {at' vt : List Value} (h : GF τ at' vt) (d : Nat) {t v : Value} (g : G2 τ t v) : GF τ (at'.set d t) (vt.set d v) := by
  refine ⟨by simp [h.len], fun i => ?_⟩
  have hl := h.len
  simp only [List.getD_eq_getElem?_getD]
  by_cases e : d = i
  · subst e
    by_cases hd : d < vt.length
    · rw [List.getElem?_set_self (by omega), List.getElem?_set_self hd]
      exact g
    · rw [List.getElem?_eq_none (by rw [List.length_set]; omega), List.getElem?_eq_none (by rw [List.length_set]; omega)]
      exact real2_same rfl
  · rw [List.getElem?_set_ne e, List.getElem?_set_ne e]
    have := h.g i
    simpa only [List.getD_eq_getElem?_getD] using this
theorem GF.put {at' vt : List Value} (h : GF τ at' vt) (d : Option Tmp) {t v : Value} (g : G2 τ t v) : GF τ (vput at' d t) (vput vt d v) := by
  cases d with
  | none => exact h
  | some d => exact h.set d g
theorem GM.set {am m : Xm} (h : GM τ am m) (k : Nat) {l l' : List Value} (g : All2 (G0 τ) l l') : GM τ (am.set k l) (m.set k l') := by
  refine ⟨by simp [h.len], fun i x hx => ?_⟩
  have hl := h.len
  by_cases e : k = i
  · subst e
    have hk : k < am.length := by
      have := (List.getElem?_eq_some_iff.1 hx).1
      simpa using this
    rw [List.getElem?_set_self hk] at hx
    cases hx
    exact ⟨l', List.getElem?_set_self (by omega), g⟩
  · rw [List.getElem?_set_ne e] at hx ⊢
    exact h.g i x hx
theorem GM.get {am m : Xm} (h : GM τ am m) {k : Nat} {l : List Value} (e : am[k]? = some l) {l' : List Value} (e' : m[k]? = some l') : All2 (G0 τ) l l' := by
  obtain ⟨x, hx, g⟩ := h.g k l e
  rw [e'] at hx
  cases hx
  exact g
end
end Go.Proofs.YtoadcnhcfodkgaaGreatDoor.Nx
