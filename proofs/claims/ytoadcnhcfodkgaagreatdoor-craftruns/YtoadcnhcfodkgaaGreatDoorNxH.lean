/-
  A run over names: two functions held against one another, for the seat YtoadcnhcfodkgaaGreatDoor. No Go text in sight.
-/
import Derived.Test.YtoadcnhcfodkgaaGreatDoorNxG
namespace Go.Proofs.YtoadcnhcfodkgaaGreatDoor.Nx
open Go.RowKit Go.Proofs.YtoadcnhcfodkgaaGreatDoor

/-! ### Values that are known by their names -/
def detB : Value → Bool
  | .bool _ => true
  | t => detI t
def det1 : Value → Bool
  | .agg cs => cs.toList.all detB
  | t => detB t
def det2 : Value → Bool
  | .tuple ⟨a :: b :: r⟩ => (a :: b :: r).all det1
  | t => det1 t
def allE (p : Value → Value → Bool) : List Value → List Value → Bool
  | [], [] => true
  | a :: l, b :: m => p a b && allE p l m
  | _, _ => false
def teq1 : Value → Value → Bool
  | .agg cs, .agg ds => allE teq cs.toList ds.toList
  | a, b => teq a b
def teq2 : Value → Value → Bool
  | .tuple ⟨a :: b :: r⟩, .tuple ⟨c :: d :: q⟩ => allE teq1 (a :: b :: r) (c :: d :: q)
  | a, b => teq1 a b
theorem allE_is {p : Value → Value → Bool} (hp : ∀ a b, p a b = true → a = b) : ∀ {l m : List Value}, allE p l m = true → l = m
  | [], [], _ => rfl
  | a :: l, b :: m, h => by
    simp only [allE, Bool.and_eq_true] at h
    rw [hp a b h.1, allE_is hp h.2]
  | [], _ :: _, h => by cases h
  | _ :: _, [], h => by cases h
theorem teq1_is (a b : Value) (h : teq1 a b = true) : a = b := by
  unfold teq1 at h
  split at h
  · rename_i cs ds
    have e := allE_is (fun _ _ => teq_is) h
    match cs, ds, e with
    | ⟨l⟩, ⟨m⟩, e => exact congrArg (fun x => Value.agg ⟨x⟩) e
  · exact teq_is h
theorem teq2_is (a b : Value) (h : teq2 a b = true) : a = b := by
  unfold teq2 at h
  split at h
  · rw [allE_is teq1_is h]
  · exact teq1_is _ _ h
section
variable {τ : List Int}
theorem detI_g {t v w : Value} (h : detI t = true) (h1 : G0 τ t v) (h2 : G0 τ t w) : v = w := by
  obtain ⟨a, rfl, ga⟩ := detI_is h h1.g2
  obtain ⟨b, rfl, gb⟩ := detI_is h h2.g2
  rw [detI_one h ga gb]
theorem detB_g {t v w : Value} (h : detB t = true) (h1 : G0 τ t v) (h2 : G0 τ t w) : v = w := by
  unfold detB at h
  split at h
  · rename_i b
    have e1 := h1.1
    have e2 := h2.1
    exact e1.trans e2.symm
  · exact detI_g h h1 h2
theorem All2.one {R : Value → Value → Prop} {p : Value → Bool} (hp : ∀ t v w, p t = true → R t v → R t w → v = w) : ∀ {l m k : List Value}, l.all p = true → All2 R l m → All2 R l k → m = k
  | [], [], [], _, _, _ => rfl
  | t :: l, v :: m, w :: k, h, h1, h2 => by
    simp only [List.all_cons, Bool.and_eq_true] at h
    rw [hp t v w h.1 h1.1 h2.1, All2.one hp h.2 h1.2 h2.2]
  | [], _ :: _, _, _, h1, _ => h1.elim
  | [], [], _ :: _, _, _, h2 => h2.elim
  | _ :: _, [], _, _, h1, _ => h1.elim
  | _ :: _, _ :: _, [], _, _, h2 => h2.elim
theorem det1_g (t v w : Value) (h : det1 t = true) (h1 : G1 τ t v) (h2 : G1 τ t w) : v = w := by
  unfold det1 at h
  split at h
  · obtain ⟨l, rfl, hl⟩ := h1
    obtain ⟨m, rfl, hm⟩ := h2
    rw [All2.one (R := G0 τ) (fun _ _ _ => detB_g) h hl hm]
  · rename_i hn
    exact detB_g h (h1.g0of hn) (h2.g0of hn)
theorem det2_g (t v w : Value) (h : det2 t = true) (h1 : G2 τ t v) (h2 : G2 τ t w) : v = w := by
  unfold det2 at h
  split at h
  · obtain ⟨l, rfl, hl⟩ := h1
    obtain ⟨m, rfl, hm⟩ := h2
    rw [All2.one (R := G1 τ) (det1_g) h hl hm]
  · rename_i hn
    exact det1_g _ _ _ h (h1.g1of hn) (h2.g1of hn)
theorem detL_g {l m k : List Value} (h : l.all det2 = true) (h1 : All2 (G2 τ) l m) (h2 : All2 (G2 τ) l k) : m = k := All2.one (R := G2 τ) det2_g h h1 h2
/-! ### New names -/
def isU : Value → Bool
  | .tuple ⟨[.int .i64 (.ofNat _)]⟩ => true
  | _ => false
def symL : Nat → Nat → List Value
  | _, 0 => []
  | b, n + 1 => sym b :: symL (b + 1) n
def fresh1 (t : Value) (b : Nat) : Option (Value × Nat) :=
  match t with
  | .agg cs => (match cs.toList.all isU with
    | true => some (.agg ⟨symL b cs.toList.length⟩, b + cs.toList.length)
    | false => none)
  | .int k x => some (.int k x, b)
  | t => (match isU t with
    | true => some (sym b, b + 1)
    | false => none)
def freshL : List Value → Nat → Option (List Value × Nat)
  | [], b => some ([], b)
  | t :: l, b => (match fresh1 t b with
    | some (x, b') => (match freshL l b' with
      | some (xs, b'') => some (x :: xs, b'')
      | none => none)
    | none => none)
def fresh (t : Value) (b : Nat) : Option (Value × Nat) :=
  match t with
  | .tuple ⟨x :: y :: r⟩ => (match freshL (x :: y :: r) b with
    | some (l, b') => some (.tuple ⟨l⟩, b')
    | none => none)
  | t => fresh1 t b
theorem isU_is {t v : Value} (h : isU t = true) (g : G0 [] t v) : ∃ x, v = .int .i64 x := by
  unfold isU at h
  split at h
  · exact g
  · cases h
theorem isU_g {t v : Value} (h : isU t = true) (g : G1 [] t v) : G0 [] t v := by
  unfold isU at h
  split at h
  · exact g
  · cases h
theorem symL_ok : ∀ {l m : List Value}, l.all isU = true → All2 (G0 []) l m → ∀ τ : List Int, ∃ xs : List Int, xs.length = l.length ∧ ∀ more, All2 (G0 (τ ++ xs ++ more)) (symL τ.length l.length) m
  | [], [], _, _, τ => ⟨[], rfl, fun _ => trivial⟩
  | t :: l, v :: m, h, g, τ => by
    simp only [List.all_cons, Bool.and_eq_true] at h
    obtain ⟨x, rfl⟩ := isU_is h.1 g.1
    obtain ⟨xs, h1, h2⟩ := symL_ok h.2 g.2 (τ ++ [x])
    refine ⟨x :: xs, by rw [List.length_cons, List.length_cons, h1], fun more => ⟨⟨x, ?_, rfl⟩, ?_⟩⟩
    · rw [List.append_assoc, List.getElem?_append_right (Nat.le_refl _), Nat.sub_self]
      rfl
    · have := h2 more
      rw [List.length_append, List.append_assoc τ, List.append_assoc τ] at this
      rw [List.append_assoc]
      exact this
  | [], _ :: _, _, g, _ => g.elim
  | _ :: _, [], _, g, _ => g.elim
theorem fresh1_ok {t v x : Value} {b' : Nat} {τ : List Int} (h : fresh1 t τ.length = some (x, b')) (g : G1 [] t v) : ∃ xs : List Int, b' = (τ ++ xs).length ∧ ∀ more, G1 (τ ++ xs ++ more) x v := by
  unfold fresh1 at h
  split at h
  · obtain ⟨l, rfl, hl⟩ := g
    split at h
    · rename_i hu
      cases h
      obtain ⟨xs, h1, h2⟩ := symL_ok hu hl τ
      exact ⟨xs, by rw [List.length_append, h1], fun more => ⟨l, rfl, h2 more⟩⟩
    · cases h
  · cases h
    exact ⟨[], by simp, fun more => ⟨g.1, rfl⟩⟩
  · split at h
    · rename_i hu
      cases h
      obtain ⟨x, rfl⟩ := isU_is hu (isU_g hu g)
      refine ⟨[x], by simp, fun more => ⟨x, ?_, rfl⟩⟩
      rw [List.append_assoc, List.getElem?_append_right (Nat.le_refl _), Nat.sub_self]
      rfl
    · cases h
theorem freshL_ok : ∀ {l m xs : List Value} {b' : Nat} {τ : List Int}, freshL l τ.length = some (xs, b') → All2 (G1 []) l m → ∃ ys : List Int, b' = (τ ++ ys).length ∧ ∀ more, All2 (G1 (τ ++ ys ++ more)) xs m
  | [], [], _, _, τ, h, _ => by
    cases h
    exact ⟨[], by simp, fun _ => trivial⟩
  | t :: l, v :: m, _, _, τ, h, g => by
    unfold freshL at h
    split at h
    · rename_i x b1 h1
      split at h
      · rename_i xs b2 h2
        cases h
        obtain ⟨ys, e1, k1⟩ := fresh1_ok h1 g.1
        rw [e1] at h2
        obtain ⟨zs, e2, k2⟩ := freshL_ok h2 g.2
        refine ⟨ys ++ zs, by rw [e2, List.append_assoc], fun more => ⟨?_, ?_⟩⟩
        · have := k1 (zs ++ more)
          simpa only [List.append_assoc] using this
        · have := k2 more
          simpa only [List.append_assoc] using this
      · cases h
    · cases h
  | [], _ :: _, _, _, _, _, g => g.elim
  | _ :: _, [], _, _, _, _, g => g.elim
theorem fresh_ok {t v x : Value} {b' : Nat} {τ : List Int} (h : fresh t τ.length = some (x, b')) (g : G2 [] t v) : ∃ xs : List Int, b' = (τ ++ xs).length ∧ G2 (τ ++ xs) x v := by
  unfold fresh at h
  split at h
  · split at h
    · rename_i l b1 h1
      cases h
      obtain ⟨m, rfl, hm⟩ := g
      obtain ⟨ys, e1, k1⟩ := freshL_ok h1 hm
      refine ⟨ys, e1, ?_⟩
      have k := k1 []
      rw [List.append_nil] at k
      match l, m, k with
      | [], [], _ => simp only [freshL] at h1; split at h1 <;> (try split at h1) <;> cases h1
      | [a], [b], k =>
        exfalso
        have := hm.len
        simp at this
      | a :: b :: r, c :: d :: q, k => exact ⟨_, rfl, k⟩
      | [], _ :: _, k => exact k.elim
      | _ :: _, [], k => exact k.elim
      | [_], _ :: _ :: _, k => exact k.2.elim
      | _ :: _ :: _, [_], k => exact k.2.elim
    · cases h
  · rename_i hn
    have g1 := g.g1of hn
    obtain ⟨xs, e1, k1⟩ := fresh1_ok h g1
    have k := k1 []
    rw [List.append_nil] at k
    exact ⟨xs, e1, k.g2⟩
/-- Of a row of arguments. -/
def freshA : List Value → Nat → Option (List Value × Nat)
  | [], b => some ([], b)
  | t :: l, b => (match fresh t b with
    | some (x, b') => (match freshA l b' with
      | some (xs, b'') => some (x :: xs, b'')
      | none => none)
    | none => none)
theorem freshA_ok : ∀ {l m xs : List Value} {b' : Nat} {τ : List Int}, freshA l τ.length = some (xs, b') → All2 (G2 []) l m → ∃ ys : List Int, b' = (τ ++ ys).length ∧ All2 (G2 (τ ++ ys)) xs m
  | [], [], _, _, τ, h, _ => by
    cases h
    exact ⟨[], by simp, trivial⟩
  | t :: l, v :: m, _, _, τ, h, g => by
    unfold freshA at h
    split at h
    · rename_i x b1 h1
      split at h
      · rename_i xs b2 h2
        cases h
        obtain ⟨ys, e1, k1⟩ := fresh_ok h1 g.1
        rw [e1] at h2
        obtain ⟨zs, e2, k2⟩ := freshA_ok h2 g.2
        refine ⟨ys ++ zs, by rw [e2, List.append_assoc], ?_, ?_⟩
        · exact k1.ext ⟨zs, by rw [List.append_assoc]⟩
        · rw [← List.append_assoc]
          exact k2
      · cases h
    · cases h
  | [], _ :: _, _, _, _, _, g => g.elim
  | _ :: _, [], _, _, _, _, g => g.elim
end
end Go.Proofs.YtoadcnhcfodkgaaGreatDoor.Nx
