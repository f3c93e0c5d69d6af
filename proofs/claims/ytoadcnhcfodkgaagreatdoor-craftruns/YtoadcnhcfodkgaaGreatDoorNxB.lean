/-
  A run over names: operations that change nothing, for the seat YtoadcnhcfodkgaaGreatDoor. No Go text in sight.
-/
import Derived.Test.YtoadcnhcfodkgaaGreatDoorNxA
namespace Go.Proofs.YtoadcnhcfodkgaaGreatDoor.Nx
open Go.RowKit Go.Proofs.YtoadcnhcfodkgaaGreatDoor

theorem qrun_bind {P : Program} {α β : Type} (s : Sem α) (f : α → Sem β) : qrun P (s >>= f) = (qrun P s).bind fun a => qrun P (f a) := by
  show qrun P (Sem.bind s f) = _
  induction s with
  | pure a => rfl
  | program k ih => exact ih P
  | mark m k ih => exact ih
  | _ => rfl
section
variable {P : Program} {τ : List Int}
theorem pureV_of {o : Oper} {ρ : Operand → Value} {v : Value} (hp : ∀ x ∈ o.op.operands, isP (ρ x) = false) (hq : qrun P (execOp ρ o) = some (.value v)) (hv : isP v = false) : pureV P o ρ = some v := by
  unfold pureV
  rw [if_pos (Array.all_eq_true_iff_forall_mem.2 (fun x hx => by rw [hp x hx]; rfl)), hq]
  simp [hv]
theorem pureV_is {o : Oper} {ρ : Operand → Value} {v : Value} (h : pureV P o ρ = some v) : (∀ x ∈ o.op.operands, isP (ρ x) = false) ∧ qrun P (execOp ρ o) = some (.value v) ∧ isP v = false := by
  unfold pureV at h
  split at h
  · rename_i hp
    split at h
    · rename_i u hq
      split at h
      · cases h
      · rename_i hu
        cases h
        exact ⟨fun x hx => by simpa using Array.all_eq_true_iff_forall_mem.1 hp x hx, hq, by simpa using hu⟩
    · cases h
  · cases h
/-! ### Numbers and bools -/
def intOp : BinOp → Bool
  | .add => true
  | .sub => true
  | .mul => true
  | .and => true
  | .or => true
  | .xor => true
  | .andNot => true
  | _ => false
def cmpOp : BinOp → Bool
  | .eql => true
  | .neq => true
  | .lss => true
  | .leq => true
  | .gtr => true
  | .geq => true
  | _ => false
def isBoolT (P : Program) (t : TypeId) : Bool :=
  match P.underlying t with
  | some .bool => true
  | _ => false
/-- A test of numbers, by its number. -/
def cmpC : BinOp → Nat
  | .eql => 0
  | .neq => 1
  | .lss => 2
  | .leq => 3
  | .gtr => 4
  | _ => 5
def cmpI (c : Nat) (a b : Int) : Bool :=
  match c with
  | 0 => decide (a = b)
  | 1 => !decide (a = b)
  | 2 => decide (a < b)
  | 3 => decide (a ≤ b)
  | 4 => decide (b < a)
  | _ => decide (b ≤ a)
/-- A number that is known by its name. -/
def detI : Value → Bool
  | .int .i64 _ => true
  | .tuple ⟨[.float .f64 _]⟩ => true
  | .tuple ⟨[.agg _]⟩ => true
  | _ => false
/-- Steps that are the same, one by one. -/
def eqA : List Value → List Value → Bool
  | [], [] => true
  | .int k x :: l, .int k' y :: m => decide (k = k') && decide (x = y) && eqA l m
  | .float .f64 i :: l, .float .f64 j :: m => Nat.beq i j && eqA l m
  | .float .f32 i :: l, .float .f32 j :: m => Nat.beq i j && eqA l m
  | _, _ => false
theorem eqA_is : ∀ {l m : List Value}, eqA l m = true → l = m
  | l, m, h => by
    unfold eqA at h
    split at h
    · rfl
    · simp only [Bool.and_eq_true, decide_eq_true_eq] at h
      rw [h.1.1, h.1.2, eqA_is h.2]
    · rw [Bool.and_eq_true] at h
      rw [Nat.eq_of_beq_eq_true h.1, eqA_is h.2]
    · rw [Bool.and_eq_true] at h
      rw [Nat.eq_of_beq_eq_true h.1, eqA_is h.2]
    · cases h
/-- The same one. -/
def teq : Value → Value → Bool
  | .int k x, .int k' y => decide (k = k') && decide (x = y)
  | .tuple ⟨[.float .f64 i]⟩, .tuple ⟨[.float .f64 j]⟩ => Nat.beq i j
  | .tuple ⟨[.agg ⟨l⟩]⟩, .tuple ⟨[.agg ⟨m⟩]⟩ => eqA l m
  | .bool a, .bool b => a == b
  | _, _ => false
theorem teq_is {x y : Value} (h : teq x y = true) : x = y := by
  unfold teq at h
  split at h
  · simp only [Bool.and_eq_true, decide_eq_true_eq] at h
    rw [h.1, h.2]
  · rw [Nat.eq_of_beq_eq_true h]
  · rw [eqA_is h]
  · rw [eq_of_beq h]
  · cases h
/-- How tests came out. -/
abbrev Fct := List (Nat × Value × Value × Bool)
def factOf : Fct → Nat → Value → Value → Option Bool
  | [], _, _, _ => none
  | (c, x, y, b) :: l, c', x', y' => match Nat.beq c c' && teq x x' && teq y y' with
    | true => some b
    | false => factOf l c' x' y'
/-- A test as one of two: equal, or less (0, 2), of the two the other way round, and denied. -/
def cmpN : BinOp → Nat × Bool × Bool
  | .eql => (0, false, false)
  | .neq => (0, false, true)
  | .lss => (2, false, false)
  | .leq => (2, true, true)
  | .gtr => (2, true, false)
  | _ => (2, false, true)
/-- Is it at most, is it less, by a chain of what is known? -/
def leC (F : Fct) : Nat → Value → Value → Bool
  | 0, x, y => teq x y
  | n + 1, x, y => teq x y || F.any fun f => match f with
    | (2, a, b, true) => teq a x && detI b && leC F n b y
    | (2, a, b, false) => teq b x && detI a && leC F n a y
    | _ => false
def ltC (F : Fct) : Nat → Value → Value → Bool
  | 0, _, _ => false
  | n + 1, x, y => F.any fun f => match f with
    | (2, a, b, true) => teq a x && detI b && leC F n b y
    | (2, a, b, false) => teq b x && detI a && ltC F n a y
    | _ => false
def factD (F : Fct) (c : Nat) (x y : Value) : Option Bool :=
  match factOf F c x y with
  | some b => some b
  | none => (match c with
    | 0 => (match teq x y with
      | true => some true
      | false => (match ltC F 4 x y || ltC F 4 y x with
        | true => some false
        | false => none))
    | 2 => (match teq x y || ltC F 4 y x with
      | true => some false
      | false => (match ltC F 4 x y with
        | true => some true
        | false => none))
    | _ => none)
def factQ (F : Fct) (op : BinOp) (x y : Value) : Option Bool :=
  match cmpN op with
  | (c, sw, ng) => (match factD F c (bif sw then y else x) (bif sw then x else y) with
    | some b => some (xor ng b)
    | none => none)
theorem cmpN_ok (op : BinOp) (h : cmpOp op = true) (a b : Int) : cmpI (cmpC op) a b = xor (cmpN op).2.2 (cmpI (cmpN op).1 (bif (cmpN op).2.1 then b else a) (bif (cmpN op).2.1 then a else b)) := by
  have e : ∀ x y : Int, decide (x ≤ y) = !decide (y < x) := fun x y => by
    by_cases h : y < x
    · simp [h]
    · simp [h]; omega
  cases op <;> first | (cases h; done) | (simp [cmpI, cmpC, cmpN, e] <;> rfl)
def FctOk (τ : List Int) (l : Fct) : Prop := ∀ f ∈ l, ∃ a b, G0 τ f.2.1 (.int .i64 a) ∧ G0 τ f.2.2.1 (.int .i64 b) ∧ cmpI f.1 a b = f.2.2.2
theorem FctOk.ext {τ' : List Int} (hx : Ext τ τ') {l : Fct} (h : FctOk τ l) : FctOk τ' l := fun f hf => let ⟨a, b, h1, h2, h3⟩ := h f hf; ⟨a, b, h1.ext hx, h2.ext hx, h3⟩
theorem detI_one {t : Value} (h : detI t = true) {a b : Int} (h1 : G0 τ t (.int .i64 a)) (h2 : G0 τ t (.int .i64 b)) : a = b := by
  unfold detI at h
  split at h
  · have e1 := h1.1
    have e2 := h2.1
    cases e1
    cases e2
    rfl
  · obtain ⟨x, e1, k1⟩ := h1
    obtain ⟨y, e2, k2⟩ := h2
    cases k1
    cases k2
    rw [e1] at e2
    exact Option.some.inj e2
  · obtain ⟨x, e1, k1⟩ := h1
    obtain ⟨y, e2, k2⟩ := h2
    cases k1
    cases k2
    rw [e1] at e2
    exact Option.some.inj e2
  · cases h
theorem detI_is {t v : Value} (h : detI t = true) (g : G2 τ t v) : ∃ a, v = .int .i64 a ∧ G0 τ t (.int .i64 a) := by
  unfold detI at h
  split at h
  · have e := g.int
    subst e
    exact ⟨_, rfl, rfl, rfl⟩
  · obtain ⟨x, e1, k1⟩ := g
    exact ⟨x, k1, x, e1, rfl⟩
  · obtain ⟨x, e1, k1⟩ := g
    exact ⟨_, k1, x, e1, rfl⟩
  · cases h
theorem factOf_ok : ∀ {l : Fct}, FctOk τ l → ∀ {c : Nat} {x y : Value} {r : Bool}, factOf l c x y = some r → detI x = true → detI y = true → ∀ {a b : Int}, G0 τ x (.int .i64 a) → G0 τ y (.int .i64 b) → cmpI c a b = r
  | [], _, _, _, _, _, h, _, _, _, _, _, _ => by cases h
  | (c0, x0, y0, b0) :: l, hl, c, x, y, r, h, dx, dy, a, b, gx, gy => by
    unfold factOf at h
    split at h
    · rename_i e
      simp only [Bool.and_eq_true] at e
      obtain ⟨⟨e1, e2⟩, e3⟩ := e
      have e1 := Nat.eq_of_beq_eq_true e1
      have e2 := teq_is e2
      have e3 := teq_is e3
      subst e1 e2 e3
      cases h
      obtain ⟨a', b', h1, h2, h3⟩ := hl _ List.mem_cons_self
      rw [detI_one dx gx h1, detI_one dy gy h2]
      exact h3
    · exact factOf_ok (fun f hf => hl f (List.mem_cons_of_mem _ hf)) h dx dy gx gy
theorem leC_ok {F : Fct} (hF : FctOk τ F) : ∀ (n : Nat) {x y : Value}, leC F n x y = true → detI x = true → detI y = true → ∀ {a b : Int}, G0 τ x (.int .i64 a) → G0 τ y (.int .i64 b) → a ≤ b
  | 0, x, y, h, dx, dy, a, b, ga, gb => by
    have e := teq_is h
    subst e
    rw [detI_one dx ga gb]
    exact Int.le_refl _
  | n + 1, x, y, h, dx, dy, a, b, ga, gb => by
    unfold leC at h
    rw [Bool.or_eq_true] at h
    rcases h with h | h
    · have e := teq_is h
      subst e
      rw [detI_one dx ga gb]
      exact Int.le_refl _
    obtain ⟨f, hf, h⟩ := List.any_eq_true.1 h
    split at h
    · obtain ⟨c, e, h1, h2, h3⟩ := hF _ hf
      have h3 := of_decide_eq_true (show decide (c < e) = true from h3)
      rw [Bool.and_eq_true, Bool.and_eq_true] at h
      have e1 := teq_is h.1.1
      subst e1
      rw [detI_one dx ga h1]
      have := leC_ok hF n h.2 h.1.2 dy h2 gb
      omega
    · obtain ⟨c, e, h1, h2, h3⟩ := hF _ hf
      have h3 := of_decide_eq_false (show decide (c < e) = false from h3)
      rw [Bool.and_eq_true, Bool.and_eq_true] at h
      have e1 := teq_is h.1.1
      subst e1
      rw [detI_one dx ga h2]
      have := leC_ok hF n h.2 h.1.2 dy h1 gb
      omega
    · cases h
theorem ltC_ok {F : Fct} (hF : FctOk τ F) : ∀ (n : Nat) {x y : Value}, ltC F n x y = true → detI x = true → detI y = true → ∀ {a b : Int}, G0 τ x (.int .i64 a) → G0 τ y (.int .i64 b) → a < b
  | 0, _, _, h, _, _, _, _, _, _ => by cases h
  | n + 1, x, y, h, dx, dy, a, b, ga, gb => by
    unfold ltC at h
    obtain ⟨f, hf, h⟩ := List.any_eq_true.1 h
    split at h
    · obtain ⟨c, e, h1, h2, h3⟩ := hF _ hf
      have h3 := of_decide_eq_true (show decide (c < e) = true from h3)
      rw [Bool.and_eq_true, Bool.and_eq_true] at h
      have e1 := teq_is h.1.1
      subst e1
      rw [detI_one dx ga h1]
      have := leC_ok hF n h.2 h.1.2 dy h2 gb
      omega
    · obtain ⟨c, e, h1, h2, h3⟩ := hF _ hf
      have h3 := of_decide_eq_false (show decide (c < e) = false from h3)
      rw [Bool.and_eq_true, Bool.and_eq_true] at h
      have e1 := teq_is h.1.1
      subst e1
      rw [detI_one dx ga h2]
      have := ltC_ok hF n h.2 h.1.2 dy h1 gb
      omega
    · cases h
theorem factD_ok {l : Fct} (hl : FctOk τ l) {c : Nat} {x y : Value} {r : Bool} (h : factD l c x y = some r) (dx : detI x = true) (dy : detI y = true) {a b : Int} (ga : G0 τ x (.int .i64 a)) (gb : G0 τ y (.int .i64 b)) : cmpI c a b = r := by
  unfold factD at h
  split at h
  · rename_i hb
    cases h
    exact factOf_ok hl hb dx dy ga gb
  · split at h
    · split at h
      · rename_i e
        cases h
        have e := teq_is e
        subst e
        rw [detI_one dx ga gb]
        exact decide_eq_true rfl
      · split at h
        · rename_i e
          cases h
          rw [Bool.or_eq_true] at e
          refine decide_eq_false fun k => ?_
          rcases e with e | e
          · have := ltC_ok hl 4 e dx dy ga gb
            omega
          · have := ltC_ok hl 4 e dy dx gb ga
            omega
        · cases h
    · split at h
      · rename_i e
        cases h
        rw [Bool.or_eq_true] at e
        refine decide_eq_false fun k => ?_
        rcases e with e | e
        · have e := teq_is e
          subst e
          have := detI_one dx ga gb
          omega
        · have := ltC_ok hl 4 e dy dx gb ga
          omega
      · split at h
        · rename_i e
          cases h
          exact decide_eq_true (ltC_ok hl 4 e dx dy ga gb)
        · cases h
    · cases h
theorem factQ_ok {l : Fct} (hl : FctOk τ l) {op : BinOp} (hop : cmpOp op = true) {x y : Value} {r : Bool} (h : factQ l op x y = some r) (dx : detI x = true) (dy : detI y = true) {a b : Int} (ga : G0 τ x (.int .i64 a)) (gb : G0 τ y (.int .i64 b)) : cmpI (cmpC op) a b = r := by
  rw [cmpN_ok op hop]
  unfold factQ at h
  generalize cmpN op = z at *
  obtain ⟨c, sw, ng⟩ := z
  dsimp only at h ⊢
  split at h
  · rename_i b' hb
    cases h
    cases sw with
    | false => exact congrArg (xor ng) (factD_ok hl hb dx dy ga gb)
    | true => exact congrArg (xor ng) (factD_ok hl hb dy dx gb ga)
  · cases h
/-! Steps of Go's own on named numbers. -/
def codeX (t : Value) : Option (List Value) :=
  match t with
  | .int .i64 n => some [.int .i64 n]
  | .tuple ⟨[.float .f64 i]⟩ => some [.float .f64 i]
  | .tuple ⟨[.agg ⟨l⟩]⟩ => some l
  | _ => none
theorem evR_on : ∀ (l' : List Value) (s r st : List Int) (m' : List Value), evR τ s l' = some r → evR τ (s ++ st) (l' ++ m') = evR τ (r ++ st) m'
  | [], s, r, st, m', h => by
    cases h
    rfl
  | a :: l', s, r, st, m', h => by
    have ih := fun s h => evR_on l' s r st m' h
    unfold evR at h
    split at h
    · rename_i e
      cases e
    · rename_i e
      cases e
      exact ih _ h
    · rename_i e
      cases e
      split at h
      · rename_i x hx
        show (match τ[_]? with
          | some x => evR τ (x :: (_ ++ st)) (l' ++ m')
          | none => none) = _
        rw [hx]
        exact ih _ h
      · cases h
    · rename_i e
      cases e
      split at h
      · rename_i x hx
        show (match opE _ _ _ with
          | some r => evR τ (r :: (_ ++ st)) (l' ++ m')
          | none => none) = _
        rw [hx]
        exact ih _ h
      · cases h
    · cases h
theorem codeX_ok {t : Value} {l : List Value} (h : codeX t = some l) {a : Int} (g : G0 τ t (.int .i64 a)) (st : List Int) (m : List Value) : evR τ st (l ++ m) = evR τ (a :: st) m := by
  unfold codeX at h
  split at h
  · cases h
    have := g.1
    cases this
    rfl
  · cases h
    obtain ⟨x, e, k⟩ := g
    cases k
    show (match τ[_]? with
      | some x => evR τ (x :: st) m
      | none => none) = _
    rw [e]
  · cases h
    obtain ⟨x, e, k⟩ := g
    cases k
    unfold evX at e
    dsimp only at e
    split at e
    · rename_i y hy
      cases e
      exact evR_on _ [] [_] st m hy
    · cases e
  · cases h
def opC : BinOp → Option Nat
  | .add => some 0
  | .sub => some 1
  | .mul => some 2
  | .quo => some 3
  | .rem => some 4
  | _ => none
def opX (op : BinOp) (x y : Value) : Option Value :=
  match codeX x, codeX y, opC op with
  | some l, some m, some c => some (xp (l ++ m ++ [.float .f32 c]))
  | _, _, _ => none
def orU (k : IntKind) (t : Option Value) : Value :=
  match t with
  | some t => t
  | none => unk k
theorem codeX_det {t : Value} {l : List Value} (h : codeX t = some l) : detI t = true := by
  unfold codeX at h
  unfold detI
  split at h
  · rfl
  · rfl
  · rfl
  · cases h
theorem opX_ok {op : BinOp} {x y r : Value} {t : TypeId} (h : opX op x y = some r) {k k' : IntKind} {a b z : Int} (gx : G0 τ x (.int k a)) (gy : G0 τ y (.int k' b)) (hz : qrun P (binOp op t (.int k a) (.int k' b)) = some (.int k z)) : G0 τ r (.int k z) := by
  unfold opX at h
  split at h
  · rename_i l m c hl hm hc
    cases h
    obtain ⟨a', e, _⟩ := detI_is (codeX_det hl) gx.g2
    cases e
    obtain ⟨b', e, _⟩ := detI_is (codeX_det hm) gy.g2
    cases e
    have he : evX τ (xp (l ++ m ++ [.float .f32 c])) = (match opE c a b with
        | some r => some r
        | none => none) := by
      show (match evR τ [] (l ++ m ++ [.float .f32 c]) with
        | some [x] => some x
        | _ => none) = _
      rw [List.append_assoc, codeX_ok hl gx, codeX_ok hm gy]
      show (match (match opE c a b with
        | some r => evR τ [r] []
        | none => none) with
        | some [x] => some x
        | _ => none) = _
      cases opE c a b <;> rfl
    refine ⟨z, ?_, rfl⟩
    rw [he]
    cases op <;> simp only [opC] at hc <;> cases hc
    · have hz : some (Value.int .i64 (IntKind.i64.wrap (a + b))) = some (.int .i64 z) := hz
      cases hz
      rfl
    · have hz : some (Value.int .i64 (IntKind.i64.wrap (a - b))) = some (.int .i64 z) := hz
      cases hz
      rfl
    · have hz : some (Value.int .i64 (IntKind.i64.wrap (a * b))) = some (.int .i64 z) := hz
      cases hz
      rfl
    · have hz : qrun P (Op.intDiv .quo .i64 a b) = some (.int .i64 z) := hz
      unfold Op.intDiv at hz
      split at hz
      · cases hz
      · rename_i hb
        have hz : some (Value.int .i64 (IntKind.i64.wrap (Int.tdiv a b))) = some (.int .i64 z) := hz
        cases hz
        show (match (if b = 0 then none else some (IntKind.i64.wrap (Int.tdiv a b))) with
          | some r => some r
          | none => none) = _
        rw [if_neg hb]
    · have hz : qrun P (Op.intDiv .rem .i64 a b) = some (.int .i64 z) := hz
      unfold Op.intDiv at hz
      split at hz
      · cases hz
      · rename_i hb
        have hz : some (Value.int .i64 (Int.tmod a b)) = some (.int .i64 z) := hz
        cases hz
        show (match (if b = 0 then none else some (Int.tmod a b)) with
          | some r => some r
          | none => none) = _
        rw [if_neg hb]
  · cases h
theorem orU_ok {op : BinOp} {x y : Value} {t : TypeId} {k k' : IntKind} {a b z : Int} (gx : G0 τ x (.int k a)) (gy : G0 τ y (.int k' b)) (hz : qrun P (binOp op t (.int k a) (.int k' b)) = some (.int k z)) : G2 τ (orU k (opX op x y)) (.int k z) := by
  unfold orU
  split
  · rename_i r hr
    exact (opX_ok hr gx gy hz).g2
  · exact .unk
theorem kindA_g0 {t v : Value} {k : IntKind} (h : kindA t = some k) (g : G2 τ t v) : G0 τ t v := by
  unfold kindA at h
  split at h
  · exact g
  · exact g
  · exact g
  · exact g
  · cases h
def aBin (P : Program) (F : Fct) (op : BinOp) (t : TypeId) (x y : Value) : Option Value :=
  match kindA x, kindA y with
  | some k, some k' =>
    if intOp op then (if k = k' then some (orU k (opX op x y)) else none)
    else if cmpOp op then (if k = k' then (match detI x && detI y, factQ F op x y with
      | true, some b => some (.bool b)
      | _, _ => some unkB) else none)
    else match y with
      | .int _ n => (match op with
        | .shl => if 0 ≤ n then some (unk k) else none
        | .shr => if 0 ≤ n then some (unk k) else none
        | .quo => if k = k' ∧ n ≠ 0 then some (orU k (opX op x y)) else none
        | .rem => if k = k' ∧ n ≠ 0 then some (orU k (opX op x y)) else none
        | _ => none)
      | _ => none
  | _, _ => if boolA x && boolA y && isBoolT P t then (match op with
      | .eql => some unkB
      | .neq => some unkB
      | _ => none) else none
theorem guard_ints (op : BinOp) (t : TypeId) (x y : Operand) (k k' : IntKind) (a b : Int) : qrun P (eqGuard op t x y (.int k a) (.int k' b)) = some () := by
  cases op <;> rfl
theorem guard_bools (op : BinOp) (t : TypeId) (x y : Operand) (a b : Bool) : qrun P (eqGuard op t x y (.bool a) (.bool b)) = some () := by
  cases op <;> rfl
theorem bin_arith (op : BinOp) (h : intOp op = true) (t : TypeId) (k : IntKind) (a b : Int) : ∃ z, qrun P (binOp op t (.int k a) (.int k b)) = some (.int k z) := by
  cases op <;> first | (cases k <;> exact ⟨_, rfl⟩) | (cases h; done)
theorem bin_cmp (op : BinOp) (h : cmpOp op = true) (t : TypeId) (k : IntKind) (a b : Int) : qrun P (binOp op t (.int k a) (.int k b)) = some (.bool (cmpI (cmpC op) a b)) := by
  cases op <;> first | (cases k <;> rfl) | (cases h; done)
theorem bin_shift (op : BinOp) (h : op = .shl ∨ op = .shr) (t : TypeId) (k k' : IntKind) (a b : Int) (hb : 0 ≤ b) : ∃ z, qrun P (binOp op t (.int k a) (.int k' b)) = some (.int k z) := by
  rcases h with rfl | rfl
  · show ∃ z, qrun P (Op.shift .shl k a k' b) = some (.int k z)
    unfold Op.shift
    rw [if_neg (by omega)]
    exact ⟨_, rfl⟩
  · show ∃ z, qrun P (Op.shift .shr k a k' b) = some (.int k z)
    unfold Op.shift
    rw [if_neg (by omega)]
    exact ⟨_, rfl⟩
theorem bin_div (op : BinOp) (h : op = .quo ∨ op = .rem) (t : TypeId) (k : IntKind) (a b : Int) (hb : b ≠ 0) : ∃ z, qrun P (binOp op t (.int k a) (.int k b)) = some (.int k z) := by
  have e : binOp op t (.int k a) (.int k b) = Op.intDiv op k a b := by rcases h with rfl | rfl <;> cases k <;> rfl
  rw [e]
  unfold Op.intDiv
  rw [if_neg hb]
  rcases h with rfl | rfl
  · exact ⟨_, rfl⟩
  · exact ⟨_, rfl⟩
theorem under_q {t : TypeId} {d : TypeDesc} (h : P.underlying t = some d) : qrun P (underlying t) = some d := by
  unfold underlying
  rw [qrun_bind]
  show qrun P (match P.underlying t with
    | some d => pure d
    | none => _) = _
  rw [h]
  rfl
theorem bin_bool (op : BinOp) (h : op = .eql ∨ op = .neq) (t : TypeId) (ht : P.underlying t = some .bool) (a b : Bool) : ∃ z, qrun P (binOp op t (.bool a) (.bool b)) = some (.bool z) := by
  have e : qrun P (Op.equal t (.bool a) (.bool b)) = some (a == b) := by
    show qrun P (Op.equalIn (9999 + 1) t (.bool a) (.bool b)) = some (a == b)
    rw [Op.equalIn, qrun_bind]
    have hu : qrun P (underlying t) = some .bool := under_q ht
    rw [hu]
    rfl
  rcases h with rfl | rfl
  · refine ⟨a == b, ?_⟩
    show qrun P (Op.equal t (.bool a) (.bool b) >>= fun z => pure (Value.bool z)) = _
    rw [qrun_bind, e]
    rfl
  · refine ⟨!(a == b), ?_⟩
    show qrun P (Op.equal t (.bool a) (.bool b) >>= fun z => pure (Value.bool !z)) = _
    rw [qrun_bind, e]
    rfl
theorem exec_bin {o : Oper} {op : BinOp} {t t' : TypeId} {x y : Operand} (hop : o.op = .binOp op t x y t') {ρ : Operand → Value} {v : Value} (hg : qrun P (eqGuard op t x y (ρ x) (ρ y)) = some ()) (hb : qrun P (binOp op t (ρ x) (ρ y)) = some v) : qrun P (execOp ρ o) = some (.value v) := by
  have e : execOp ρ o = (do let z ← (do eqGuard op t x y (ρ x) (ρ y); binOp op t (ρ x) (ρ y)); pure (.value z)) := by simp only [execOp, hop]
  rw [e, qrun_bind, qrun_bind, hg]
  show (Option.bind (qrun P (binOp op t (ρ x) (ρ y))) _) = _
  rw [hb]
  rfl
theorem aBin_ok {F : Fct} (hF : FctOk τ F) {o : Oper} {op : BinOp} {t t' : TypeId} {x y : Operand} (hop : o.op = .binOp op t x y t') {at' vt : List Value} {r : Value} (h : aBin P F op t (VE at' x) (VE at' y) = some r) (gx : G2 τ (VE at' x) (VE vt x)) (gy : G2 τ (VE at' y) (VE vt y)) :
    nilV P op t (VE vt x) (VE vt y) = none ∧ ∃ v, pureV P o (VE vt) = some v ∧ G2 τ r v := by
  have ops : ∀ z ∈ o.op.operands, z = x ∨ z = y := fun z hz => by simpa [hop, Op.operands] using hz
  unfold aBin at h
  split at h
  · rename_i k k' hk hk'
    obtain ⟨a, ea⟩ := kindA_is hk gx
    obtain ⟨b, eb⟩ := kindA_is hk' gy
    have gx0 := kindA_g0 hk gx
    have gy0 := kindA_g0 hk' gy
    rw [ea] at gx0
    rw [eb] at gy0
    have hn : nilV P op t (VE vt x) (VE vt y) = none := by rw [ea]; rfl
    have hp : ∀ z ∈ o.op.operands, isP (VE vt z) = false := fun z hz => by
      rcases ops z hz with rfl | rfl
      · rw [ea]; rfl
      · rw [eb]; rfl
    have fin : ∀ v, qrun P (binOp op t (.int k a) (.int k' b)) = some v → isP v = false → G2 τ r v → nilV P op t (VE vt x) (VE vt y) = none ∧ ∃ v, pureV P o (VE vt) = some v ∧ G2 τ r v := fun v hv h1 h2 =>
      ⟨hn, v, pureV_of hp (exec_bin hop (by rw [ea, eb]; exact guard_ints ..) (by rw [ea, eb]; exact hv)) h1, h2⟩
    split at h
    · rename_i hi
      split at h
      · rename_i hkk
        subst hkk
        cases h
        obtain ⟨z, hz⟩ := bin_arith (P := P) op hi t k a b
        exact fin _ hz rfl (orU_ok gx0 gy0 hz)
      · cases h
    · split at h
      · rename_i hi
        split at h
        · rename_i hkk
          subst hkk
          have hz := bin_cmp (P := P) op hi t k a b
          split at h
          · rename_i r' hd hf
            cases h
            rw [Bool.and_eq_true] at hd
            obtain ⟨a', ea', ga⟩ := detI_is hd.1 gx
            obtain ⟨b', eb', gb⟩ := detI_is hd.2 gy
            rw [ea] at ea'
            rw [eb] at eb'
            cases ea'
            cases eb'
            rw [factQ_ok hF hi hf hd.1 hd.2 ga gb] at hz
            exact fin _ hz rfl ⟨rfl, rfl⟩
          · cases h
            exact fin _ hz rfl .unkB
        · cases h
      · split at h
        · rename_i n hy
          have e2 := gy
          rw [hy] at e2
          have e2 := e2.int
          rw [eb] at e2
          cases e2
          split at h
          · split at h
            · rename_i hn0
              cases h
              obtain ⟨z, hz⟩ := bin_shift (P := P) .shl (.inl rfl) t k k' a b hn0
              exact fin _ hz rfl .unk
            · cases h
          · split at h
            · rename_i hn0
              cases h
              obtain ⟨z, hz⟩ := bin_shift (P := P) .shr (.inr rfl) t k k' a b hn0
              exact fin _ hz rfl .unk
            · cases h
          · split at h
            · rename_i hn0
              obtain ⟨rfl, hn0⟩ := hn0
              cases h
              obtain ⟨z, hz⟩ := bin_div (P := P) .quo (.inl rfl) t k a b hn0
              exact fin _ hz rfl (orU_ok gx0 gy0 hz)
            · cases h
          · split at h
            · rename_i hn0
              obtain ⟨rfl, hn0⟩ := hn0
              cases h
              obtain ⟨z, hz⟩ := bin_div (P := P) .rem (.inr rfl) t k a b hn0
              exact fin _ hz rfl (orU_ok gx0 gy0 hz)
            · cases h
          · cases h
        · cases h
  · split at h
    · rename_i hb
      simp only [Bool.and_eq_true] at hb
      obtain ⟨a, ea⟩ := boolA_is hb.1.1 gx
      obtain ⟨b, eb⟩ := boolA_is hb.1.2 gy
      have ht : P.underlying t = some .bool := by
        have := hb.2
        unfold isBoolT at this
        split at this
        · assumption
        · cases this
      have hn : nilV P op t (VE vt x) (VE vt y) = none := by rw [ea]; rfl
      have hp : ∀ z ∈ o.op.operands, isP (VE vt z) = false := fun z hz => by
        rcases ops z hz with rfl | rfl
        · rw [ea]; rfl
        · rw [eb]; rfl
      split at h
      · cases h
        obtain ⟨z, hz⟩ := bin_bool (P := P) .eql (.inl rfl) t ht a b
        exact ⟨hn, _, pureV_of hp (exec_bin hop (by rw [ea, eb]; exact guard_bools ..) (by rw [ea, eb]; exact hz)) rfl, .unkB⟩
      · cases h
        obtain ⟨z, hz⟩ := bin_bool (P := P) .neq (.inr rfl) t ht a b
        exact ⟨hn, _, pureV_of hp (exec_bin hop (by rw [ea, eb]; exact guard_bools ..) (by rw [ea, eb]; exact hz)) rfl, .unkB⟩
      · cases h
    · cases h
def aUn (op : UnOp) (x : Value) : Option Value :=
  match op with
  | .neg => (match codeX x with
    | some l => some (xp (.int .i64 0 :: (l ++ [.float .f32 1])))
    | none => (kindA x).map unk)
  | .xor => (kindA x).map unk
  | .not => if boolA x then some unkB else none
  | .plus => none
theorem aUn_ok {o : Oper} {op : UnOp} {t : TypeId} {x : Operand} (hop : o.op = .unOp op t x) {at' vt : List Value} {r : Value} (h : aUn op (VE at' x) = some r) (gx : G2 τ (VE at' x) (VE vt x)) : ∃ v, pureV P o (VE vt) = some v ∧ G2 τ r v := by
  have ops : ∀ z ∈ o.op.operands, z = x := fun z hz => by simpa [hop, Op.operands] using hz
  have fin : ∀ u v, VE vt x = u → isP u = false → qrun P (Op.unary op u) = some v → isP v = false → G2 τ r v → ∃ v, pureV P o (VE vt) = some v ∧ G2 τ r v := fun u v hu h0 hv h1 h2 =>
    ⟨v, pureV_of (fun z hz => by rw [ops z hz, hu]; exact h0) (by
      have e : execOp (VE vt) o = (do let z ← Op.unary op (VE vt x); pure (.value z)) := by simp only [execOp, hop]
      rw [e, qrun_bind, hu, hv]
      rfl) h1, h2⟩
  unfold aUn at h
  split at h
  · split at h
    · rename_i l hl
      cases h
      obtain ⟨a, ea, g0⟩ := detI_is (codeX_det hl) gx
      refine fin _ _ ea rfl rfl rfl (G0.g2 ⟨negI a, ?_, rfl⟩)
      show (match evR τ [0] (l ++ [.float .f32 1]) with
        | some [x] => some x
        | _ => none) = _
      rw [codeX_ok hl g0]
      rfl
    · obtain ⟨k, hk, rfl⟩ := Option.map_eq_some_iff.1 h
      obtain ⟨a, ea⟩ := kindA_is hk gx
      exact fin _ _ ea rfl rfl rfl .unk
  · obtain ⟨k, hk, rfl⟩ := Option.map_eq_some_iff.1 h
    obtain ⟨a, ea⟩ := kindA_is hk gx
    exact fin _ _ ea rfl rfl rfl .unk
  · split at h
    · rename_i hb
      cases h
      obtain ⟨a, ea⟩ := boolA_is hb gx
      exact fin _ _ ea rfl rfl rfl .unkB
    · cases h
  · cases h
def intT (P : Program) (t : TypeId) : Option IntKind :=
  match P.underlying t with
  | some (.int k) => some k
  | _ => none
def aConv (P : Program) (s d : TypeId) (x : Value) : Option Value :=
  match kindA x, intT P s, intT P d with
  | some _, some _, some k => some (unk k)
  | _, _, _ => none
theorem intT_q {t : TypeId} {k : IntKind} (h : intT P t = some k) : qrun P (underlying t) = some (.int k) := by
  unfold intT at h
  split at h
  · rename_i k' hu
    cases h
    exact under_q hu
  · cases h
theorem aConv_ok {o : Oper} {s d : TypeId} {x : Operand} (hop : o.op = .convert s d x) {at' vt : List Value} {r : Value} (h : aConv P s d (VE at' x) = some r) (gx : G2 τ (VE at' x) (VE vt x)) : ∃ v, pureV P o (VE vt) = some v ∧ G2 τ r v := by
  have ops : ∀ z ∈ o.op.operands, z = x := fun z hz => by simpa [hop, Op.operands] using hz
  unfold aConv at h
  split at h
  · rename_i k1 k2 k hk hs hd
    cases h
    obtain ⟨a, ea⟩ := kindA_is hk gx
    refine ⟨.int k (k.wrap a), pureV_of (fun z hz => by rw [ops z hz, ea]; rfl) ?_ rfl, .unk⟩
    have e : execOp (VE vt) o = (do let z ← convert s d (VE vt x); pure (.value z)) := by simp only [execOp, hop]
    have e2 : qrun P (convert s d (.int k1 a)) = some (.int k (k.wrap a)) := by
      unfold convert
      rw [qrun_bind, intT_q hs]
      show qrun P (underlying d >>= _) = _
      rw [qrun_bind, intT_q hd]
      rfl
    rw [e, qrun_bind, ea, e2]
    rfl
  · cases h
/-! ### Parts of rows -/
theorem part_q (t : TypeId) (cs : Array Value) (off : Nat) : qrun P (part t cs off) = (qrun P (isAgg t)).bind fun b => if b then (qrun P (sizeOf t)).map fun n => .agg (cs.extract off (off + n)) else cs[off]? := by
  unfold part
  rw [qrun_bind]
  congr 1
  funext b
  cases b with
  | true =>
    simp only [if_true, qrun_bind]
    cases qrun P (sizeOf t) <;> rfl
  | false =>
    simp only [Bool.false_eq_true, if_false]
    cases h : cs[off]? <;> rfl
theorem part_nat {t : TypeId} {cs : Array Value} {off : Nat} {r : Value} (h : qrun P (part t cs off) = some r) {l : List Value} (g : All2 (G0 τ) cs.toList l) : ∃ v, qrun P (part t ⟨l⟩ off) = some v ∧ G1 τ r v := by
  rw [part_q] at h
  simp only [part_q]
  cases h1 : qrun P (isAgg t) with
  | none => rw [h1] at h; cases h
  | some b =>
    rw [h1] at h
    cases b with
    | true =>
      simp only [Option.bind_some, if_true] at h ⊢
      cases h2 : qrun P (sizeOf t) with
      | none => rw [h2] at h; cases h
      | some n =>
        rw [h2] at h
        cases h
        refine ⟨_, rfl, ⟨(Array.extract ⟨l⟩ off (off + n)).toList, rfl, ?_⟩⟩
        have := (g.drop off).take n
        simpa [List.extract_eq_take_drop] using this
    | false =>
      simp only [Option.bind_some, Bool.false_eq_true, if_false] at h ⊢
      obtain ⟨v, hv, gv⟩ := g.get off r (by simpa using h)
      exact ⟨v, by simpa using hv, gv.g1⟩
end
end Go.Proofs.YtoadcnhcfodkgaaGreatDoor.Nx
