/- A part. -/
import Derived.Test.YtbophanlmkbfeaaGreatDoorHC06
namespace Go.Proofs.YtbophanlmkbfeaaGreatDoor
open Go.RowKit
def er0 (t : Value) : Value :=
 match tkn t with
 | some (none, _ + 1) => unk .i64
 | _ => t
def er1 : Value → Value
 | .agg cs => .agg ⟨cs.toList.map er0⟩
 | t => er0 t
def er2 : Value → Value
 | .tuple ⟨a :: b :: r⟩ => .tuple ⟨(a :: b :: r).map er1⟩
 | t => er1 t
section
variable {τ τ' : Nat → Int}
theorem er0_ok {t v : Value} (g : G0 τ t v) : G0 τ' (er0 t) v := by
 unfold er0
 unfold G0 at g
 split
 ·rename_i i e
  rw [e] at g
  exact ⟨_, g⟩
 ·rename_i hn
  unfold G0
  split at g
  ·exact g
  ·exact g
  ·exact g
  ·rename_i i e
   exact absurd e (hn i)
  ·exact g
theorem All2.er {R S : Value → Value → Prop} {f : Value → Value} (hi : ∀ t v, R t v → S (f t) v) : ∀ {l m : List Value}, All2 R l m → All2 S (l.map f) m
 | [], [], _ => trivial
 | _ :: _, _ :: _, h => ⟨hi _ _ h.1, All2.er hi h.2⟩
 | [], _ :: _, h => h.elim
 | _ :: _, [], h => h.elim
theorem er1_ok {t v : Value} (g : G1 τ t v) : G1 τ' (er1 t) v := by
 unfold G1 at g
 split at g
 ·obtain ⟨l, rfl, gl⟩ := g
  exact ⟨l, rfl, gl.er (fun _ _ h => er0_ok h)⟩
 ·unfold er1
  split
  ·exact absurd g.plain (by simp [plain])
  ·exact (er0_ok g).g1
theorem er2_ok {t v : Value} (g : G2 τ t v) : G2 τ' (er2 t) v := by
 unfold G2 at g
 split at g
 ·obtain ⟨l, rfl, gl⟩ := g
  exact ⟨l, rfl, gl.er (fun _ _ h => er1_ok h)⟩
 ·unfold er2
  split
  ·exact absurd (G0.plain g) (by simp [plain])
  ·exact (er1_ok g).g2
theorem GF.er {at' vt : List Value} (h : GF τ at' vt) : GF τ' (at'.map er2) vt := by
 refine ⟨by rw [List.length_map]; exact h.len, fun t => ?_⟩
 have := h.g t
 simp only [List.getD_eq_getElem?_getD] at this ⊢
 rw [List.getElem?_map]
 cases e : at'[t]? with
 | none =>
  rw [e] at this
  exact er2_ok this
 | some x =>
  rw [e] at this
  exact er2_ok this
def erM (m : Xm) : Xm := m.map (List.map er0)
theorem GM.er {am m : Xm} (h : GM τ am m) : GM τ' (erM am) m := by
 refine ⟨by simp [erM, h.len], fun k l hl => ?_⟩
 unfold erM at hl
 rw [List.getElem?_map] at hl
 obtain ⟨x, hx, rfl⟩ := Option.map_eq_some_iff.1 hl
 obtain ⟨l', h1, h2⟩ := h.g k x hx
 exact ⟨l', h1, h2.er (fun _ _ h => er0_ok h)⟩
def eqV : Value → Value → Bool
 | .int k n, .int k' n' => decide (k = k') && decide (n = n')
 | .bool a, .bool b => a == b
 | .tuple ⟨[]⟩, .tuple ⟨[]⟩ => true
 | _, _ => false
theorem eqV_is {a b : Value} (h : eqV a b = true) : a = b := by
 unfold eqV at h
 split at h
 ·simp only [Bool.and_eq_true, decide_eq_true_eq] at h
  rw [h.1, h.2]
 ·rw [eq_of_beq h]
 ·rfl
 ·cases h
def le0 (t s : Value) : Bool :=
 match tkn s with
 | some (some k, 0) => (match kindA t with
  | some k' => decide (k' = k)
  | none => false)
 | some (some k, n + 1) => (match t with
  | .int k' x => decide (k' = k) && decide (0 ≤ x) && decide (x ≤ n)
  | t => (match tkn t with
   | some (some k', j + 1) => decide (k' = k) && decide (j ≤ n)
   | _ => false))
 | some (none, 0) => boolA t
 | some (none, i + 1) => (match tkn t with
  | some (none, j) => Nat.beq j (i + 1)
  | _ => false)
 | none => eqV t s
def allB {α : Type} (p : α → α → Bool) : List α → List α → Bool
 | [], [] => true
 | a :: l, b :: m => p a b && allB p l m
 | _, _ => false
def le1 (t s : Value) : Bool :=
 match s with
 | .agg cs => (match t with
  | .agg ds => allB le0 ds.toList cs.toList
  | _ => false)
 | s => plain t && le0 t s
def le2 (t s : Value) : Bool :=
 match s with
 | .tuple ⟨a :: b :: r⟩ => (match t with
  | .tuple ⟨c :: d :: q⟩ => allB le1 (c :: d :: q) (a :: b :: r)
  | _ => false)
 | s => notMulti t && le1 t s
theorem le0_ok {t s v : Value} (h : le0 t s = true) (g : G0 τ t v) : G0 τ s v := by
 unfold le0 at h
 unfold G0
 split at h
 ·rename_i k e
  rw [e]
  split at h
  ·rename_i k' hk
   have : k' = k := by simpa using h
   subst this
   exact kindA_is0 hk g
  ·cases h
 ·rename_i k n e
  rw [e]
  split at h
  ·rename_i k' x
   simp only [Bool.and_eq_true, decide_eq_true_eq] at h
   obtain ⟨⟨rfl, h1⟩, h2⟩ := h
   exact ⟨x, g.1, h1, h2⟩
  ·split at h
   ·rename_i k' j hj
    simp only [Bool.and_eq_true, decide_eq_true_eq] at h
    obtain ⟨rfl, h1⟩ := h
    unfold G0 at g
    rw [hj] at g
    obtain ⟨x, e1, e2, e3⟩ := g
    exact ⟨x, e1, e2, by omega⟩
   ·cases h
 ·rename_i e
  rw [e]
  exact boolA_is0 h g
 ·rename_i i e
  rw [e]
  split at h
  ·rename_i j hj
   have := Nat.eq_of_beq_eq_true h
   subst this
   unfold G0 at g
   rw [hj] at g
   exact g
  ·cases h
 ·rename_i e
  rw [e]
  have := eqV_is h
  subst this
  exact ⟨g.eq e, g.plain⟩
theorem allB_ok {p : Value → Value → Bool} {R : Value → Value → Prop} (hp : ∀ t s v, p t s = true → R t v → R s v) : ∀ {l m vs : List Value}, allB p l m = true → All2 R l vs → All2 R m vs
 | [], [], [], _, _ => trivial
 | a :: l, b :: m, v :: vs, h, g => by
  simp only [allB, Bool.and_eq_true] at h
  exact ⟨hp a b v h.1 g.1, allB_ok hp h.2 g.2⟩
 | [], _ :: _, _, h, _ => by cases h
 | _ :: _, [], _, h, _ => by cases h
 | [], [], _ :: _, _, g => g.elim
 | _ :: _, _ :: _, [], _, g => g.elim
theorem le1_ok {t s v : Value} (h : le1 t s = true) (g : G1 τ t v) : G1 τ s v := by
 unfold le1 at h
 split at h
 ·split at h
  ·obtain ⟨l, rfl, gl⟩ := g
   exact ⟨l, rfl, allB_ok (R := G0 τ) (fun _ _ _ h g => le0_ok h g) h gl⟩
  ·cases h
 ·rw [Bool.and_eq_true] at h
  have g0 : G0 τ t v := by
   unfold G1 at g
   split at g
   ·cases h.1
   ·exact g
  exact (le0_ok h.2 g0).g1
theorem le2_ok {t s v : Value} (h : le2 t s = true) (g : G2 τ t v) : G2 τ s v := by
 unfold le2 at h
 split at h
 ·split at h
  ·obtain ⟨l, rfl, gl⟩ := g
   exact ⟨l, rfl, allB_ok (R := G1 τ) (fun _ _ _ h g => le1_ok h g) h gl⟩
  ·cases h
 ·rw [Bool.and_eq_true] at h
  have g1 : G1 τ t v := by
   unfold G2 at g
   split at g
   ·cases h.1
   ·exact g
  exact (le1_ok h.2 g1).g2
theorem leL_ok {l m vs : List Value} (h : allB le2 l m = true) (g : All2 (G2 τ) l vs) : All2 (G2 τ) m vs := allB_ok (R := G2 τ) (fun _ _ _ h g => le2_ok h g) h g
def noTag (t : Value) : Bool := le2 (er2 t) t
theorem noTag_ok {t v : Value} (h : noTag t = true) (g : G2 τ t v) : G2 τ' t v := le2_ok h (er2_ok g)
def noTags (l : List Value) : Bool := l.all noTag
theorem noTags_ok : ∀ {l vs : List Value}, noTags l = true → All2 (G2 τ) l vs → All2 (G2 τ') l vs
 | [], [], _, _ => trivial
 | a :: l, v :: vs, h, g => by
  simp only [noTags, List.all_cons, Bool.and_eq_true] at h
  exact ⟨noTag_ok h.1 g.1, noTags_ok h.2 g.2⟩
 | [], _ :: _, _, g => g.elim
 | _ :: _, [], _, g => g.elim
end
structure ACt (P : Program) (nq : (Nat → Int) → Prop) where
 ct : Ct P
 flow : Bool
 sa : List Value
 sr : Value
 fb : Value
 tout : Bool
 okF : flow = true → ∀ (k : Nat) (rest : List Value) (m : Xm) (bad : Bool) (τ : Nat → Int), m[k]? = some [.bool bad] → All2 (G2 τ) sa rest →
  ∃ v bad' τ', (∀ K : Value → Xm → Prop, K v (m.set k [.bool bad']) → ct.sp (.pointer (some ⟨k, 0, none⟩) :: rest) m K) ∧ G0 τ' fb (.bool bad') ∧ (bad = true → bad' = true) ∧ (tout = true → bad' = true ∨ nq τ' ∨ (τ' = τ ∧ bad = false)) ∧ G2 τ' sr v ∧ (tout = false → τ' = τ)
 okP : flow = false → ∀ (args : List Value) (m : Xm) (τ : Nat → Int), All2 (G2 τ) sa args → ∃ v, (∀ K : Value → Xm → Prop, K v m → ct.sp args m K) ∧ G2 τ sr v
def acall {P : Program} {nq : (Nat → Int) → Prop} (fl : Bool) (c : ACt P nq) (args : List Value) (m : Xm) : Option (Value × Xm × Bool) :=
 match c.flow with
 | true =>
  (match args with
  | .pointer (some ⟨k, 0, none⟩) :: rest => (match m[k]? with
   | some [b] =>
    (match boolA b && allB le2 rest c.sa with
    | true =>
     (match fl && Nat.beq k 0 with
     | true => (match c.tout with
      | true => some (c.sr, (erM m).set k [c.fb], true)
      | false => some (c.sr, m.set k [c.fb], false))
     | false => some (er2 c.sr, m.set k [er0 c.fb], false))
    | false => none)
   | _ => none)
  | _ => none)
 | false => (match allB le2 args c.sa with
  | true => some (c.sr, m, false)
  | false => none)
def Inv (NQ : (Nat → Int) → Prop) (fl b0 : Bool) (τ : Nat → Int) (m : Xm) : Prop := fl = true → ∃ b, m[0]? = some [.bool b] ∧ (b0 = true → b = true) ∧ (b = true ∨ NQ τ)
theorem acall_ok {P : Program} {nq NQ : (Nat → Int) → Prop} (hNQ : ∀ τ, nq τ → NQ τ) {fl b0 e : Bool} {c : ACt P nq} {args vargs : List Value} {am am' m : Xm} {t : Value} {τ : Nat → Int} (h : acall fl c args am = some (t, am', e)) (ga : All2 (G2 τ) args vargs) (M : GM τ am m) (I : Inv NQ fl b0 τ m) :
    ∃ v m' τ', (∀ K : Value → Xm → Prop, K v m' → c.ct.sp vargs m K) ∧ G2 τ' t v ∧ GM τ' am' m' ∧ Inv NQ fl b0 τ' m' ∧ (e = false → τ' = τ) ∧ (e = true → fl = true) := by
 unfold acall at h
 split at h
 ·rename_i hfl
  split at h
  ·rename_i k rest
   match vargs, ga with
   | v0 :: vrest, ga =>
   obtain ⟨g0, gr⟩ := ga
   have e0 := g0.ptr
   subst e0
   split at h
   ·rename_i b hb
    obtain ⟨l', hl', gl⟩ := M.g k _ hb
    match l', gl with
    | [x], gl =>
    split at h
    ·rename_i hc
     rw [Bool.and_eq_true] at hc
     obtain ⟨bad, rfl⟩ := boolA_is0 hc.1 gl.1
     have gs := leL_ok hc.2 gr
     split at h
     ·rename_i hk
      rw [Bool.and_eq_true] at hk
      have hk0 := Nat.eq_of_beq_eq_true hk.2
      subst hk0
      obtain ⟨b, h1, h2, h3⟩ := I hk.1
      rw [hl'] at h1
      cases h1
      obtain ⟨v, bad', τ', hsp, gf, hst, hq, gv, hτ⟩ := c.okF hfl 0 vrest m bad τ hl' gs
      have hlen : 0 < m.length := (List.getElem?_eq_some_iff.1 hl').1
      have hI : (bad' = true ∨ NQ τ') → Inv NQ fl b0 τ' (m.set 0 [.bool bad']) := fun hq _ => ⟨bad', List.getElem?_set_self hlen, fun e => hst (h2 e), hq⟩
      split at h
      ·rename_i ht
       cases h
       exact ⟨v, _, τ', hsp, gv, (M.er).set 0 ⟨gf, trivial⟩, hI ((hq ht).elim .inl fun z => z.elim (fun z => .inr (hNQ τ' z)) fun z => h3.elim (fun e => .inl (hst e)) fun e => .inr (z.1 ▸ e)), (fun e => by cases e), fun _ => hk.1⟩
      ·rename_i ht
       cases h
       obtain rfl := hτ ht
       exact ⟨v, _, τ', hsp, gv, M.set 0 ⟨gf, trivial⟩, hI (h3.imp hst id), fun _ => rfl, (fun e => by cases e)⟩
     ·rename_i hk
      cases h
      obtain ⟨v, bad', τ', hsp, gf, hst, hq, gv, hτ⟩ := c.okF hfl k vrest m bad τ hl' gs
      refine ⟨v, _, τ, hsp, er2_ok gv, M.set k ⟨er0_ok gf, trivial⟩, fun hf => ?_, fun _ => rfl, (fun e => by cases e)⟩
      obtain ⟨b, h1, h2, h3⟩ := I hf
      have hne : k ≠ 0 := by
       rintro rfl
       rw [hf] at hk
       cases hk
      exact ⟨b, by rw [List.getElem?_set_ne hne]; exact h1, h2, h3⟩
    ·cases h
   ·cases h
  ·cases h
 ·rename_i hfl
  split at h
  ·rename_i hc
   cases h
   obtain ⟨v, hsp, gv⟩ := c.okP hfl vargs m τ (leL_ok hc ga)
   exact ⟨v, m, τ, hsp, gv, M, I, fun _ => rfl, (fun e => by cases e)⟩
  ·cases h
def cellA (t : Value) : Bool := cellOk t || (tkn t).isSome
def storeA (P : Program) (t : TypeId) (l : List Value) (off : Nat) (v : Value) : Option (List Value) :=
 match qrun P (sizeOf t) with
 | some n => if notMulti v && (v.cells.size == n) && decide (off + v.cells.toList.length ≤ l.length) && v.cells.toList.all cellA then some (setAt l off v.cells.toList) else none
 | none => none
section
variable {P : Program} {nq NQ : (Nat → Int) → Prop} {τ : Nat → Int}
theorem cellA_ok {t v : Value} (h : cellA t = true) (g : G0 τ t v) : cellOk v = true := by
 unfold G0 at g
 split at g
 ·obtain ⟨x, rfl⟩ := g; rfl
 ·obtain ⟨x, rfl, _⟩ := g; rfl
 ·obtain ⟨x, rfl⟩ := g; rfl
 ·rw [g]; rfl
 ·rename_i e
  rw [g.1]
  simpa [cellA, e] using h
theorem cellsA_ok : ∀ {l vs : List Value}, l.all cellA = true → All2 (G0 τ) l vs → vs.all cellOk = true
 | [], [], _, _ => rfl
 | a :: l, v :: vs, h, g => by
  simp only [List.all_cons, Bool.and_eq_true] at h ⊢
  exact ⟨cellA_ok h.1 g.1, cellsA_ok h.2 g.2⟩
 | [], _ :: _, _, g => g.elim
 | _ :: _, [], _, g => g.elim
theorem setAt_nat : ∀ (xs ys l m : List Value) (o : Nat), All2 (G0 τ) xs ys → All2 (G0 τ) l m → All2 (G0 τ) (setAt l o xs) (setAt m o ys)
 | [], [], _, _, _, _, h => h
 | _ :: xs, _ :: ys, _, _, o, g, h => setAt_nat xs ys _ _ (o + 1) g.2 (h.set o _ _ g.1)
 | [], _ :: _, _, _, _, g, _ => g.elim
 | _ :: _, [], _, _, _, g, _ => g.elim
theorem storeA_ok {t : TypeId} {l l' r : List Value} {off : Nat} {x v : Value} (h : storeA P t l off x = some r) (gl : All2 (G0 τ) l l') (g : G2 τ x v) : ∃ r', storeV P t l' off v = some r' ∧ All2 (G0 τ) r r' := by
 unfold storeA at h
 unfold storeV
 split at h
 ·rename_i n hn
  split at h
  ·rename_i hc
   cases h
   simp only [Bool.and_eq_true, beq_iff_eq, decide_eq_true_eq] at hc
   have gc := cells_nat g hc.1.1.1
   have e1 := gc.len
   have e2 := gl.len
   have e3 : v.cells.size = x.cells.size := by simpa using e1.symm
   refine ⟨setAt l' off v.cells.toList, ?_, setAt_nat _ _ _ _ off gc gl⟩
   rw [hn]
   dsimp only
   rw [if_pos]
   simp only [Bool.and_eq_true, beq_iff_eq, decide_eq_true_eq]
   exact ⟨⟨by rw [e3]; exact hc.1.1.2, by rw [← e1, ← e2]; exact hc.1.2⟩, cellsA_ok hc.2 gc⟩
  ·cases h
 ·cases h
def aa (P : Program) (fl : Bool) (tbl : List (ACt P nq)) (id : Nat) (o : Oper) (ρ : Operand → Value) (m : Xm) : Option (Value × Xm × Bool) :=
 match o.op.operands.all okA, o.op with
 | true, .store t x y =>
  (match ρ x with
  | .pointer (some ⟨k, off, none⟩) => (match m[k]? with
   | some l => (match isP (ρ y) || (fl && Nat.beq k 0), storeA P t l off (ρ y) with
    | false, some l' => some (undef, m.set k l', false)
    | _, _ => none)
   | none => none)
  | _ => none)
 | true, .box _ x => (match isP (ρ x) || !notMulti (ρ x) || (fl && Nat.beq id 0), (ρ x).cells.toList.all cellA with
     | false, true => some (.pointer (some ⟨id, 0, none⟩), m.set id (ρ x).cells.toList, false)
     | _, _ => none)
 | true, .load _ _ =>
  (match aq P (fun _ => true) id o ρ m with
  | some v => some (v, m, false)
  | none => none)
 | true, .call c =>
  (match c.callee with
  | .value (.func n) => (match tbl.find? (fun a => a.ct.fn == n) with
   | some a => acall fl a (c.args.toList.map ρ) m
   | none => none)
  | _ => none)
 | _, _ => none
def cts (tbl : List (ACt P nq)) : List (Ct P) := tbl.map (·.ct)
theorem find_ct : ∀ (tbl : List (ACt P nq)) (n : Nat) (a : ACt P nq), tbl.find? (fun a => a.ct.fn == n) = some a → (cts tbl).find? (fun ct => ct.fn == n) = some a.ct
 | [], _, _, h => by cases h
 | x :: tbl, n, a, h => by
  unfold cts
  rw [List.map_cons, List.find?_cons]
  rw [List.find?_cons] at h
  split at h
  ·cases h
   rfl
  ·exact find_ct tbl n a h
theorem args_nat {at' vt : List Value} (F : GF τ at' vt) : ∀ (l : List Operand), (∀ x ∈ l, okA x = true) → All2 (G2 τ) (l.map (VE at')) (l.map (VE vt))
 | [], _ => trivial
 | x :: l, h => ⟨F.ev (h x List.mem_cons_self), args_nat F l (fun y hy => h y (List.mem_cons_of_mem _ hy))⟩
theorem ptrs_none {v : Value} (h : isP v = false) (l : List Value) : ptrs (v :: l) = ptrs l := by
 cases v with
 | pointer a =>
  cases a with
  | none => rfl
  | some a => cases h
 | _ => rfl
theorem ptrs_nat : ∀ {l m : List Value}, All2 (G2 τ) l m → ptrs m = ptrs l
 | [], [], _ => rfl
 | a :: l, b :: m, g => by
  have ih : ptrs m = ptrs l := ptrs_nat g.2
  have hp := g.1.isP
  cases ha : isP a with
  | true =>
   match a, ha, g.1 with
   | .nilIface, _, g1 =>
    have e : b = .nilIface := g1.1
    rw [e]
    exact ih
   | .slice (some x) n c, _, g1 =>
    have e : b = .slice (some x) n c := g1.1
    rw [e]
    exact ih
   | .pointer (some x), _, g1 =>
    rw [g1.ptr]
    show x.block :: ptrs m = x.block :: ptrs l
    rw [ih]
  | false =>
   rw [ha] at hp
   rw [ptrs_none ha, ptrs_none hp, ih]
 | [], _ :: _, g => g.elim
 | _ :: _, [], g => g.elim
theorem aa_ok (hNQ : ∀ τ, nq τ → NQ τ) {fl b0 e : Bool} {tbl : List (ACt P nq)} {id : Nat} {o : Oper} {at' vt : List Value} {am am' m : Xm} {r : Value} (h : aa P fl tbl id o (VE at') am = some (r, am', e)) (F : GF τ at' vt) (M : GM τ am m) (I : Inv NQ fl b0 τ m) :
    ∃ v m' τ', (∀ K : Value → Xm → Prop, K v m' → va P (cts tbl) id o (VE vt) m K) ∧ G2 τ' r v ∧ GM τ' am' m' ∧ Inv NQ fl b0 τ' m' ∧ (e = false → τ' = τ) := by
 unfold aa at h
 split at h
 ·rename_i t x y hok hop
  have hX : o.op.operands.all okX = true := Array.all_eq_true_iff_forall_mem.2 (fun x hx => okA_okX (Array.all_eq_true_iff_forall_mem.1 hok x hx))
  have hev : ∀ x ∈ o.op.operands, G2 τ (VE at' x) (VE vt x) := fun x hx => F.ev (Array.all_eq_true_iff_forall_mem.1 hok x hx)
  have h1 := hev x (by simp [hop, Op.operands])
  have h2 := hev y (by simp [hop, Op.operands])
  split at h
  ·rename_i k off hx
   rw [hx] at h1
   split at h
   ·rename_i l hl
    obtain ⟨l', hl', gl⟩ := M.g k l hl
    split at h
    ·rename_i r' hp hst
     cases h
     rw [Bool.or_eq_false_iff] at hp
     obtain ⟨s, hs, gs⟩ := storeA_ok hst gl h2
     refine ⟨undef, m.set k s, τ, fun K hK => ?_, real2_same rfl, M.set k gs, fun hf => ?_, fun _ => rfl⟩
     ·unfold va
      rw [hX, hop]
      dsimp only
      rw [h1.ptr]
      dsimp only
      rw [hl']
      dsimp only
      rw [h2.isP, hp.1, hs]
      exact hK
     ·obtain ⟨b, i1, i2, i3⟩ := I hf
      have hne : k ≠ 0 := by
       rintro rfl
       rw [hf] at hp
       cases hp.2
      exact ⟨b, by rw [List.getElem?_set_ne hne]; exact i1, i2, i3⟩
    ·cases h
   ·cases h
  ·cases h
 ·rename_i t x hok hop
  have hX : o.op.operands.all okX = true := Array.all_eq_true_iff_forall_mem.2 (fun x hx => okA_okX (Array.all_eq_true_iff_forall_mem.1 hok x hx))
  have h1 := F.ev (Array.all_eq_true_iff_forall_mem.1 hok x (by simp [hop, Op.operands]))
  split at h
  ·rename_i hp hc
   cases h
   simp only [Bool.or_eq_false_iff, Bool.not_eq_false'] at hp
   have gc := cells_nat h1 hp.1.2
   refine ⟨.pointer (some ⟨id, 0, none⟩), m.set id (VE vt x).cells.toList, τ, fun K hK => ?_, ⟨rfl, rfl⟩, M.set id gc, fun hf => ?_, fun _ => rfl⟩
   ·unfold va
    rw [hX, hop]
    dsimp only
    rw [h1.isP, hp.1.1, cellsA_ok hc gc]
    exact hK
   ·obtain ⟨b, i1, i2, i3⟩ := I hf
    have hne : id ≠ 0 := by
     rintro rfl
     rw [hf] at hp
     cases hp.2
    exact ⟨b, by rw [List.getElem?_set_ne hne]; exact i1, i2, i3⟩
  ·cases h
 ·rename_i t x hok hop
  have hX : o.op.operands.all okX = true := Array.all_eq_true_iff_forall_mem.2 (fun x hx => okA_okX (Array.all_eq_true_iff_forall_mem.1 hok x hx))
  split at h
  ·rename_i v hv
   cases h
   obtain ⟨u, hu, gu⟩ := aq_ok hv F M
   refine ⟨u, m, τ, fun K hK => ?_, gu, M, I, fun _ => rfl⟩
   unfold va
   rw [hX, hop]
   dsimp only
   rw [hu]
   exact hK
  ·cases h
 ·rename_i c hok hop
  have hX : o.op.operands.all okX = true := Array.all_eq_true_iff_forall_mem.2 (fun x hx => okA_okX (Array.all_eq_true_iff_forall_mem.1 hok x hx))
  split at h
  ·rename_i n hcal
   split at h
   ·rename_i a ha
    have ga := args_nat F c.args.toList (fun x hx => Array.all_eq_true_iff_forall_mem.1 hok x (by
     simp only [hop, Op.operands, Call.operands]
     exact Array.mem_append_right _ (by simpa using hx)))
    obtain ⟨v, m', τ', hsp, gv, M', I', he, _⟩ := acall_ok hNQ h ga M I
    refine ⟨v, m', τ', fun K hK => ?_, gv, M', I', he⟩
    unfold va
    rw [hX, hop]
    dsimp only
    rw [hcal]
    dsimp only
    rw [find_ct tbl n a ha]
    exact hsp K hK
   ·cases h
  ·cases h
 ·cases h
theorem vw_nat {id : Nat} {o : Oper} {at' vt : List Value} (F : GF τ at' vt) (hok : o.op.operands.all okA = true) : vw id o (VE vt) = vw id o (VE at') := by
 have hev : ∀ x ∈ o.op.operands, G2 τ (VE at' x) (VE vt x) := fun x hx => F.ev (Array.all_eq_true_iff_forall_mem.1 hok x hx)
 unfold vw
 split
 ·rename_i t x y hop
  exact ptrs_nat (l := [VE at' x]) (m := [VE vt x]) ⟨hev x (by simp [hop, Op.operands]), trivial⟩
 ·rfl
 ·rename_i c hop
  exact ptrs_nat (args_nat F c.args.toList (fun x hx => Array.all_eq_true_iff_forall_mem.1 hok x (by
        simp only [hop, Op.operands, Call.operands]
        exact Array.mem_append_right _ (by simpa using hx))))
 ·rfl
theorem aa_okA {fl e : Bool} {tbl : List (ACt P nq)} {id : Nat} {o : Oper} {ρ : Operand → Value} {am am' : Xm} {r : Value} (h : aa P fl tbl id o ρ am = some (r, am', e)) : o.op.operands.all okA = true := by
 cases hc : o.op.operands.all okA with
 | true => rfl
 | false =>
  unfold aa at h
  rw [hc] at h
  cases h
theorem vq_none {fl e : Bool} {tbl : List (ACt P nq)} {cl : Nat → Bool} {id : Nat} {o : Oper} {at' vt : List Value} {am am' m : Xm} {r : Value} (h : aa P fl tbl id o (VE at') am = some (r, am', e)) (hq : aq P cl id o (VE at') am = none) (F : GF τ at' vt) : vq P cl id o (VE vt) m = none := by
 have hok := aa_okA h
 have hX : o.op.operands.all okX = true := Array.all_eq_true_iff_forall_mem.2 (fun x hx => okA_okX (Array.all_eq_true_iff_forall_mem.1 hok x hx))
 unfold vq
 rw [if_pos hX]
 unfold aa at h
 rw [hok] at h
 unfold aq at hq
 rw [if_pos hok] at hq
 cases hop : o.op <;> rw [hop] at h hq <;> dsimp only at h hq ⊢ <;> try (cases h; done)
 case load t x =>
  have h1 := F.ev (Array.all_eq_true_iff_forall_mem.1 hok x (by simp [hop, Op.operands]))
  split at h
  ·rename_i v hv
   unfold aq at hv
   rw [if_pos hok, hop] at hv
   dsimp only at hv
   split at hv
   ·rename_i k off hx
    rw [hx] at h1 hq
    rw [h1.ptr]
    dsimp only at hq ⊢
    cases hc : cl k with
    | false => rfl
    | true =>
     rw [if_pos hc] at hq
     rw [if_pos rfl] at hv
     rw [hq] at hv
     cases hv
   ·cases hv
  ·cases h
 case call c =>
  split at h
  ·rename_i n hcal
   rw [hcal]
  ·cases h
end
end Go.Proofs.YtbophanlmkbfeaaGreatDoor
