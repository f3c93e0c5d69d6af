/-
  A run over names: frames and memory as trees, rows in a way that the kernel works out fast, for the seat YtoadcnhcfodkgaaGreatDoor. No Go text in sight.
-/
import Derived.Test.YtoadcnhcfodkgaaGreatDoorNxE
namespace Go.Proofs.YtoadcnhcfodkgaaGreatDoor.Nx
open Go.RowKit Go.Proofs.YtoadcnhcfodkgaaGreatDoor

/-- Eight of a kind. -/
structure N8 (α : Type) where
  a : α
  b : α
  c : α
  d : α
  e : α
  f : α
  g : α
  h : α
/-- Rows of 8^d places. -/
abbrev Tr (α : Type) (d : Nat) : Type := Nat.rec (motive := fun _ => Type) α (fun _ T => N8 T) d
/-- One place of them. -/
structure Sl (α : Type) (d : Nat) where
  get : Tr α d → (α → Bool) → Bool
  set : Tr α d → α → (Tr α d → Bool) → Bool
def slot {α : Type} (d : Nat) : Nat → Sl α d :=
  Nat.rec (motive := fun d => Nat → Sl α d) (fun _ => ⟨fun v K => K v, fun _ v K => K v⟩)
    (fun n ih i => match Nat.div i (8 ^ n) with
      | 0 => ⟨fun t K => N8.casesOn (motive := fun _ => Bool) t (fun a _ _ _ _ _ _ _ => (ih (Nat.mod i (8 ^ n))).get a K), fun t v K => N8.casesOn (motive := fun _ => Bool) t (fun a b c d e f g h => (ih (Nat.mod i (8 ^ n))).set a v (fun z => K ⟨z, b, c, d, e, f, g, h⟩))⟩
      | 1 => ⟨fun t K => N8.casesOn (motive := fun _ => Bool) t (fun _ b _ _ _ _ _ _ => (ih (Nat.mod i (8 ^ n))).get b K), fun t v K => N8.casesOn (motive := fun _ => Bool) t (fun a b c d e f g h => (ih (Nat.mod i (8 ^ n))).set b v (fun z => K ⟨a, z, c, d, e, f, g, h⟩))⟩
      | 2 => ⟨fun t K => N8.casesOn (motive := fun _ => Bool) t (fun _ _ c _ _ _ _ _ => (ih (Nat.mod i (8 ^ n))).get c K), fun t v K => N8.casesOn (motive := fun _ => Bool) t (fun a b c d e f g h => (ih (Nat.mod i (8 ^ n))).set c v (fun z => K ⟨a, b, z, d, e, f, g, h⟩))⟩
      | 3 => ⟨fun t K => N8.casesOn (motive := fun _ => Bool) t (fun _ _ _ d _ _ _ _ => (ih (Nat.mod i (8 ^ n))).get d K), fun t v K => N8.casesOn (motive := fun _ => Bool) t (fun a b c d e f g h => (ih (Nat.mod i (8 ^ n))).set d v (fun z => K ⟨a, b, c, z, e, f, g, h⟩))⟩
      | 4 => ⟨fun t K => N8.casesOn (motive := fun _ => Bool) t (fun _ _ _ _ e _ _ _ => (ih (Nat.mod i (8 ^ n))).get e K), fun t v K => N8.casesOn (motive := fun _ => Bool) t (fun a b c d e f g h => (ih (Nat.mod i (8 ^ n))).set e v (fun z => K ⟨a, b, c, d, z, f, g, h⟩))⟩
      | 5 => ⟨fun t K => N8.casesOn (motive := fun _ => Bool) t (fun _ _ _ _ _ f _ _ => (ih (Nat.mod i (8 ^ n))).get f K), fun t v K => N8.casesOn (motive := fun _ => Bool) t (fun a b c d e f g h => (ih (Nat.mod i (8 ^ n))).set f v (fun z => K ⟨a, b, c, d, e, z, g, h⟩))⟩
      | 6 => ⟨fun t K => N8.casesOn (motive := fun _ => Bool) t (fun _ _ _ _ _ _ g _ => (ih (Nat.mod i (8 ^ n))).get g K), fun t v K => N8.casesOn (motive := fun _ => Bool) t (fun a b c d e f g h => (ih (Nat.mod i (8 ^ n))).set g v (fun z => K ⟨a, b, c, d, e, f, z, h⟩))⟩
      | _ => ⟨fun t K => N8.casesOn (motive := fun _ => Bool) t (fun _ _ _ _ _ _ _ h => (ih (Nat.mod i (8 ^ n))).get h K), fun t v K => N8.casesOn (motive := fun _ => Bool) t (fun a b c d e f g h => (ih (Nat.mod i (8 ^ n))).set h v (fun z => K ⟨a, b, c, d, e, f, g, z⟩))⟩) d
def pick {α : Type} (t : N8 α) (j : Nat) : α :=
  match j with
  | 0 => t.a
  | 1 => t.b
  | 2 => t.c
  | 3 => t.d
  | 4 => t.e
  | 5 => t.f
  | 6 => t.g
  | _ => t.h
def put8 {α : Type} (t : N8 α) (j : Nat) (v : α) : N8 α :=
  match j with
  | 0 => { t with a := v }
  | 1 => { t with b := v }
  | 2 => { t with c := v }
  | 3 => { t with d := v }
  | 4 => { t with e := v }
  | 5 => { t with f := v }
  | 6 => { t with g := v }
  | _ => { t with h := v }
def getT {α : Type} (d : Nat) : Tr α d → Nat → α :=
  Nat.rec (motive := fun d => Tr α d → Nat → α) (fun v _ => v) (fun d ih t i => ih (pick t (Nat.div i (8 ^ d))) (Nat.mod i (8 ^ d))) d
def setT {α : Type} (d : Nat) : Tr α d → Nat → α → Tr α d :=
  Nat.rec (motive := fun d => Tr α d → Nat → α → Tr α d) (fun _ _ v => v) (fun d ih t i v => put8 t (Nat.div i (8 ^ d)) (ih (pick t (Nat.div i (8 ^ d))) (Nat.mod i (8 ^ d)) v)) d
def fullT {α : Type} (v : α) (d : Nat) : Tr α d := Nat.rec (motive := fun d => Tr α d) v (fun _ t => ⟨t, t, t, t, t, t, t, t⟩) d
section
variable {α : Type}
theorem of8 {j : Nat} (h : j < 8) : j = 0 ∨ j = 1 ∨ j = 2 ∨ j = 3 ∨ j = 4 ∨ j = 5 ∨ j = 6 ∨ j = 7 := by omega
theorem big8 (j : Nat) : j = 0 ∨ j = 1 ∨ j = 2 ∨ j = 3 ∨ j = 4 ∨ j = 5 ∨ j = 6 ∨ ∃ k, j = k + 7 := by
  rcases Nat.lt_or_ge j 7 with h | h
  · omega
  · exact .inr (.inr (.inr (.inr (.inr (.inr (.inr ⟨j - 7, by omega⟩))))))
theorem slot_get : ∀ (d i : Nat) (t : Tr α d) (K : α → Bool), (slot d i).get t K = K (getT d t i)
  | 0, _, _, _ => rfl
  | n + 1, i, ⟨a, b, c, d, e, f, g, h⟩, K => by
    show (match Nat.div i (8 ^ n) with
      | 0 => ⟨fun t K => N8.casesOn (motive := fun _ => Bool) t (fun a _ _ _ _ _ _ _ => (slot n (Nat.mod i (8 ^ n))).get a K), fun t v K => N8.casesOn (motive := fun _ => Bool) t (fun a b c d e f g h => (slot n (Nat.mod i (8 ^ n))).set a v (fun z => K ⟨z, b, c, d, e, f, g, h⟩))⟩
      | 1 => ⟨fun t K => N8.casesOn (motive := fun _ => Bool) t (fun _ b _ _ _ _ _ _ => (slot n (Nat.mod i (8 ^ n))).get b K), fun t v K => N8.casesOn (motive := fun _ => Bool) t (fun a b c d e f g h => (slot n (Nat.mod i (8 ^ n))).set b v (fun z => K ⟨a, z, c, d, e, f, g, h⟩))⟩
      | 2 => ⟨fun t K => N8.casesOn (motive := fun _ => Bool) t (fun _ _ c _ _ _ _ _ => (slot n (Nat.mod i (8 ^ n))).get c K), fun t v K => N8.casesOn (motive := fun _ => Bool) t (fun a b c d e f g h => (slot n (Nat.mod i (8 ^ n))).set c v (fun z => K ⟨a, b, z, d, e, f, g, h⟩))⟩
      | 3 => ⟨fun t K => N8.casesOn (motive := fun _ => Bool) t (fun _ _ _ d _ _ _ _ => (slot n (Nat.mod i (8 ^ n))).get d K), fun t v K => N8.casesOn (motive := fun _ => Bool) t (fun a b c d e f g h => (slot n (Nat.mod i (8 ^ n))).set d v (fun z => K ⟨a, b, c, z, e, f, g, h⟩))⟩
      | 4 => ⟨fun t K => N8.casesOn (motive := fun _ => Bool) t (fun _ _ _ _ e _ _ _ => (slot n (Nat.mod i (8 ^ n))).get e K), fun t v K => N8.casesOn (motive := fun _ => Bool) t (fun a b c d e f g h => (slot n (Nat.mod i (8 ^ n))).set e v (fun z => K ⟨a, b, c, d, z, f, g, h⟩))⟩
      | 5 => ⟨fun t K => N8.casesOn (motive := fun _ => Bool) t (fun _ _ _ _ _ f _ _ => (slot n (Nat.mod i (8 ^ n))).get f K), fun t v K => N8.casesOn (motive := fun _ => Bool) t (fun a b c d e f g h => (slot n (Nat.mod i (8 ^ n))).set f v (fun z => K ⟨a, b, c, d, e, z, g, h⟩))⟩
      | 6 => ⟨fun t K => N8.casesOn (motive := fun _ => Bool) t (fun _ _ _ _ _ _ g _ => (slot n (Nat.mod i (8 ^ n))).get g K), fun t v K => N8.casesOn (motive := fun _ => Bool) t (fun a b c d e f g h => (slot n (Nat.mod i (8 ^ n))).set g v (fun z => K ⟨a, b, c, d, e, f, z, h⟩))⟩
      | _ => ⟨fun t K => N8.casesOn (motive := fun _ => Bool) t (fun _ _ _ _ _ _ _ h => (slot n (Nat.mod i (8 ^ n))).get h K), fun t v K => N8.casesOn (motive := fun _ => Bool) t (fun a b c d e f g h => (slot n (Nat.mod i (8 ^ n))).set h v (fun z => K ⟨a, b, c, d, e, f, g, z⟩))⟩ : Sl α (n + 1)).get ⟨a, b, c, d, e, f, g, h⟩ K = K (getT n (pick ⟨a, b, c, d, e, f, g, h⟩ (Nat.div i (8 ^ n))) (Nat.mod i (8 ^ n)))
    rcases big8 (Nat.div i (8 ^ n)) with k | k | k | k | k | k | k | ⟨_, k⟩ <;> (rw [k]; exact slot_get n _ _ K)
theorem slot_set : ∀ (d i : Nat) (t : Tr α d) (v : α) (K : Tr α d → Bool), (slot d i).set t v K = K (setT d t i v)
  | 0, _, _, _, _ => rfl
  | n + 1, i, ⟨a, b, c, d, e, f, g, h⟩, v, K => by
    show (match Nat.div i (8 ^ n) with
      | 0 => ⟨fun t K => N8.casesOn (motive := fun _ => Bool) t (fun a _ _ _ _ _ _ _ => (slot n (Nat.mod i (8 ^ n))).get a K), fun t v K => N8.casesOn (motive := fun _ => Bool) t (fun a b c d e f g h => (slot n (Nat.mod i (8 ^ n))).set a v (fun z => K ⟨z, b, c, d, e, f, g, h⟩))⟩
      | 1 => ⟨fun t K => N8.casesOn (motive := fun _ => Bool) t (fun _ b _ _ _ _ _ _ => (slot n (Nat.mod i (8 ^ n))).get b K), fun t v K => N8.casesOn (motive := fun _ => Bool) t (fun a b c d e f g h => (slot n (Nat.mod i (8 ^ n))).set b v (fun z => K ⟨a, z, c, d, e, f, g, h⟩))⟩
      | 2 => ⟨fun t K => N8.casesOn (motive := fun _ => Bool) t (fun _ _ c _ _ _ _ _ => (slot n (Nat.mod i (8 ^ n))).get c K), fun t v K => N8.casesOn (motive := fun _ => Bool) t (fun a b c d e f g h => (slot n (Nat.mod i (8 ^ n))).set c v (fun z => K ⟨a, b, z, d, e, f, g, h⟩))⟩
      | 3 => ⟨fun t K => N8.casesOn (motive := fun _ => Bool) t (fun _ _ _ d _ _ _ _ => (slot n (Nat.mod i (8 ^ n))).get d K), fun t v K => N8.casesOn (motive := fun _ => Bool) t (fun a b c d e f g h => (slot n (Nat.mod i (8 ^ n))).set d v (fun z => K ⟨a, b, c, z, e, f, g, h⟩))⟩
      | 4 => ⟨fun t K => N8.casesOn (motive := fun _ => Bool) t (fun _ _ _ _ e _ _ _ => (slot n (Nat.mod i (8 ^ n))).get e K), fun t v K => N8.casesOn (motive := fun _ => Bool) t (fun a b c d e f g h => (slot n (Nat.mod i (8 ^ n))).set e v (fun z => K ⟨a, b, c, d, z, f, g, h⟩))⟩
      | 5 => ⟨fun t K => N8.casesOn (motive := fun _ => Bool) t (fun _ _ _ _ _ f _ _ => (slot n (Nat.mod i (8 ^ n))).get f K), fun t v K => N8.casesOn (motive := fun _ => Bool) t (fun a b c d e f g h => (slot n (Nat.mod i (8 ^ n))).set f v (fun z => K ⟨a, b, c, d, e, z, g, h⟩))⟩
      | 6 => ⟨fun t K => N8.casesOn (motive := fun _ => Bool) t (fun _ _ _ _ _ _ g _ => (slot n (Nat.mod i (8 ^ n))).get g K), fun t v K => N8.casesOn (motive := fun _ => Bool) t (fun a b c d e f g h => (slot n (Nat.mod i (8 ^ n))).set g v (fun z => K ⟨a, b, c, d, e, f, z, h⟩))⟩
      | _ => ⟨fun t K => N8.casesOn (motive := fun _ => Bool) t (fun _ _ _ _ _ _ _ h => (slot n (Nat.mod i (8 ^ n))).get h K), fun t v K => N8.casesOn (motive := fun _ => Bool) t (fun a b c d e f g h => (slot n (Nat.mod i (8 ^ n))).set h v (fun z => K ⟨a, b, c, d, e, f, g, z⟩))⟩ : Sl α (n + 1)).set ⟨a, b, c, d, e, f, g, h⟩ v K = K (put8 ⟨a, b, c, d, e, f, g, h⟩ (Nat.div i (8 ^ n)) (setT n (pick ⟨a, b, c, d, e, f, g, h⟩ (Nat.div i (8 ^ n))) (Nat.mod i (8 ^ n)) v))
    rcases big8 (Nat.div i (8 ^ n)) with k | k | k | k | k | k | k | ⟨_, k⟩ <;> (rw [k]; exact slot_set n _ _ v _)
theorem getT_at (d : Nat) (t : Tr α (d + 1)) (i : Nat) : getT (d + 1) t i = getT d (pick t (i / 8 ^ d)) (i % 8 ^ d) := rfl
theorem setT_at (d : Nat) (t : Tr α (d + 1)) (i : Nat) (v : α) : setT (d + 1) t i v = put8 t (i / 8 ^ d) (setT d (pick t (i / 8 ^ d)) (i % 8 ^ d) v) := rfl
theorem pick_put (t : N8 α) (v : α) {j k : Nat} (hj : j < 8) (hk : k < 8) : pick (put8 t j v) k = if j = k then v else pick t k := by
  rcases of8 hj with rfl | rfl | rfl | rfl | rfl | rfl | rfl | rfl <;> rcases of8 hk with rfl | rfl | rfl | rfl | rfl | rfl | rfl | rfl <;> rfl
theorem get_set : ∀ (d : Nat) (t : Tr α d) (i j : Nat) (v : α), i < 8 ^ d → j < 8 ^ d → getT d (setT d t i v) j = if i = j then v else getT d t j
  | 0, t, i, j, v, hi, hj => by
    rw [if_pos (by omega)]
    rfl
  | d + 1, t, i, j, v, hi, hj => by
    rw [Nat.pow_succ] at hi hj
    have hp : 0 < 8 ^ d := Nat.pow_pos (by omega)
    have hi1 : i / 8 ^ d < 8 := Nat.div_lt_of_lt_mul hi
    have hj1 : j / 8 ^ d < 8 := Nat.div_lt_of_lt_mul hj
    have hi2 := Nat.mod_lt i hp
    have hj2 := Nat.mod_lt j hp
    rw [setT_at, getT_at, getT_at, pick_put t _ hi1 hj1]
    by_cases h : i / 8 ^ d = j / 8 ^ d
    · rw [if_pos h, get_set d _ _ _ v hi2 hj2, h]
      by_cases e : i = j
      · rw [if_pos e, if_pos (by rw [e])]
      · rw [if_neg e, if_neg (fun h2 => e (by rw [← Nat.div_add_mod i (8 ^ d), ← Nat.div_add_mod j (8 ^ d), h, h2]))]
    · rw [if_neg h, if_neg (fun e => h (by rw [e]))]
theorem full_get (v : α) : ∀ (d i : Nat), getT d (fullT v d) i = v
  | 0, _ => rfl
  | d + 1, i => by
    have h : ∀ j, pick (fullT v (d + 1)) j = fullT v d := fun j => by
      unfold pick
      split <;> rfl
    rw [getT_at, h, full_get v d]
/-- The first n places as a list. -/
def toL (d n : Nat) (t : Tr α d) : List α := (List.range n).map (getT d t)
theorem toL_len (d n : Nat) (t : Tr α d) : (toL d n t).length = n := by simp [toL]
theorem toL_at {d n : Nat} {t : Tr α d} {i : Nat} (h : i < n) : (toL d n t)[i]? = some (getT d t i) := by simp [toL, h]
theorem toL_set {d n : Nat} (t : Tr α d) {i : Nat} (v : α) (hn : n ≤ 8 ^ d) (h : i < n) : toL d n (setT d t i v) = (toL d n t).set i v := by
  refine List.ext_getElem? fun j => ?_
  by_cases hj : j < n
  · rw [toL_at hj, get_set d t i j v (by omega) (by omega)]
    by_cases e : i = j
    · subst e
      rw [if_pos rfl, List.getElem?_set_self (by rw [toL_len]; exact h)]
    · rw [if_neg e, List.getElem?_set_ne e, toL_at hj]
  · rw [List.getElem?_eq_none (by rw [toL_len]; omega), List.getElem?_eq_none (by rw [List.length_set, toL_len]; omega)]
theorem toL_keep {d n : Nat} (t : Tr α d) {i : Nat} (v : α) (hn : n ≤ i) (h : i < 8 ^ d) : toL d n (setT d t i v) = toL d n t := by
  refine List.ext_getElem? fun j => ?_
  by_cases hj : j < n
  · rw [toL_at hj, get_set d t i j v (by omega) (by omega), if_neg (by omega), toL_at hj]
  · rw [List.getElem?_eq_none (by rw [toL_len]; omega), List.getElem?_eq_none (by rw [toL_len]; omega)]
theorem toL_more {d n : Nat} (t : Tr α d) : toL d (n + 1) t = toL d n t ++ [getT d t n] := by
  simp [toL, List.range_succ]
/-- New places. -/
def moreK (e : Nat) : List α → Nat → Tr α e → (Nat → Tr α e → Bool) → Bool
  | [], k, M, K => K k M
  | l :: r, k, M, K => (slot e k).set M l (fun M => moreK e r (Nat.succ k) M K)
theorem moreK_is (e : Nat) : ∀ (ns : List α) (k : Nat) (M : Tr α e) (K : Nat → Tr α e → Bool), moreK e ns k M K = true → k + ns.length ≤ 8 ^ e → ∃ M', K (k + ns.length) M' = true ∧ toL e (k + ns.length) M' = toL e k M ++ ns
  | [], k, M, K, h, _ => ⟨M, h, by simp⟩
  | l :: r, k, M, K, h, hl => by
    unfold moreK at h
    rw [slot_set] at h
    rw [List.length_cons] at hl
    obtain ⟨M', h1, h2⟩ := moreK_is e r _ _ K h (by omega)
    refine ⟨M', by rw [List.length_cons, ← Nat.add_assoc, Nat.add_right_comm]; exact h1, ?_⟩
    rw [List.length_cons, ← Nat.add_assoc, Nat.add_right_comm]
    show toL e (Nat.succ k + r.length) M' = _
    rw [h2]
    show toL e (k + 1) _ ++ r = _
    rw [toL_more, toL_keep M l (Nat.le_refl _) (by omega), get_set e M k k l (by omega) (by omega), if_pos rfl, List.append_assoc]
    rfl
end
/-! ### Rows -/
def an (a b : Bool) : Bool := Bool.casesOn (motive := fun _ => Bool) a false b
theorem an_is {a b : Bool} : an a b = true ↔ a = true ∧ b = true := by cases a <;> cases b <;> simp [an]
def nthK (i : Nat) : List Value → (Value → Bool) → Bool :=
  Nat.rec (motive := fun _ => List Value → (Value → Bool) → Bool) (fun l K => List.casesOn (motive := fun _ => Bool) l false (fun x _ => K x)) (fun _ ih l K => List.casesOn (motive := fun _ => Bool) l false (fun _ r => ih r K)) i
def dropK (i : Nat) : List Value → (List Value → Bool) → Bool :=
  Nat.rec (motive := fun _ => List Value → (List Value → Bool) → Bool) (fun l K => K l) (fun _ ih l K => List.casesOn (motive := fun _ => Bool) l false (fun _ r => ih r K)) i
def takeK (n : Nat) : List Value → (List Value → Bool) → Bool :=
  Nat.rec (motive := fun _ => List Value → (List Value → Bool) → Bool) (fun _ K => K []) (fun _ ih l K => List.casesOn (motive := fun _ => Bool) l false (fun x r => ih r (fun r => K (x :: r)))) n
def overK : List Value → List Value → (List Value → Bool) → Bool
  | [], l, K => K l
  | x :: xs, l, K => List.casesOn (motive := fun _ => Bool) l false (fun _ r => overK xs r (fun r => K (x :: r)))
def setAtK (off : Nat) (xs : List Value) : List Value → (List Value → Bool) → Bool :=
  Nat.rec (motive := fun _ => List Value → (List Value → Bool) → Bool) (fun l K => overK xs l K) (fun _ ih l K => List.casesOn (motive := fun _ => Bool) l false (fun x r => ih r (fun r => K (x :: r)))) off
theorem nthK_ok : ∀ {i : Nat} {l : List Value} {K : Value → Bool}, nthK i l K = true → ∃ v, l[i]? = some v ∧ K v = true
  | 0, [], _, h => by cases h
  | 0, x :: _, _, h => ⟨x, rfl, h⟩
  | _ + 1, [], _, h => by cases h
  | i + 1, _ :: r, K, h => nthK_ok (i := i) (l := r) (K := K) h
theorem dropK_ok : ∀ {i : Nat} {l : List Value} {K : List Value → Bool}, dropK i l K = true → i ≤ l.length ∧ K (l.drop i) = true
  | 0, l, _, h => ⟨Nat.zero_le _, h⟩
  | _ + 1, [], _, h => by cases h
  | i + 1, _ :: r, K, h => by
    obtain ⟨h1, h2⟩ := dropK_ok (i := i) (l := r) (K := K) h
    exact ⟨Nat.succ_le_succ h1, h2⟩
theorem takeK_ok : ∀ {n : Nat} {l : List Value} {K : List Value → Bool}, takeK n l K = true → n ≤ l.length ∧ K (l.take n) = true
  | 0, l, _, h => ⟨Nat.zero_le _, by rw [List.take_zero]; exact h⟩
  | _ + 1, [], _, h => by cases h
  | n + 1, x :: r, K, h => by
    obtain ⟨h1, h2⟩ := takeK_ok (n := n) (l := r) (K := fun r => K (x :: r)) h
    exact ⟨Nat.succ_le_succ h1, h2⟩
theorem setAt_cons (y : Value) : ∀ (xs l : List Value) (o : Nat), setAt (y :: l) (o + 1) xs = y :: setAt l o xs
  | [], _, _ => rfl
  | x :: xs, l, o => by
    show setAt (y :: l.set o x) (o + 1 + 1) xs = _
    exact setAt_cons y xs (l.set o x) (o + 1)
theorem overK_ok : ∀ {xs l : List Value} {K : List Value → Bool}, overK xs l K = true → xs.length ≤ l.length ∧ K (setAt l 0 xs) = true
  | [], l, _, h => ⟨Nat.zero_le _, h⟩
  | _ :: _, [], _, h => by cases h
  | x :: xs, y :: r, K, h => by
    obtain ⟨h1, h2⟩ := overK_ok (xs := xs) (l := r) (K := fun r => K (x :: r)) h
    refine ⟨Nat.succ_le_succ h1, ?_⟩
    show K (setAt ((y :: r).set 0 x) (0 + 1) xs) = true
    rw [List.set_cons_zero, setAt_cons]
    exact h2
theorem setAtK_ok : ∀ {off : Nat} {xs l : List Value} {K : List Value → Bool}, setAtK off xs l K = true → off + xs.length ≤ l.length ∧ K (setAt l off xs) = true
  | 0, xs, l, K, h => by
    obtain ⟨h1, h2⟩ := overK_ok (xs := xs) (l := l) (K := K) h
    exact ⟨by omega, h2⟩
  | _ + 1, xs, [], _, h => by cases h
  | o + 1, xs, y :: r, K, h => by
    obtain ⟨h1, h2⟩ := setAtK_ok (off := o) (xs := xs) (l := r) (K := fun r => K (y :: r)) h
    refine ⟨by rw [List.length_cons]; omega, ?_⟩
    rw [setAt_cons]
    exact h2
/-- Is it a row, and of how many? -/
def aggT (P : Program) (t : TypeId) : Option (Option Nat) :=
  match qrun P (isAgg t) with
  | some false => some none
  | some true => (match qrun P (sizeOf t) with
    | some n => some (some n)
    | none => none)
  | none => none
def loadK (P : Program) (t : TypeId) (off : Nat) (row : List Value) (K : Value → Bool) : Bool :=
  match aggT P t with
  | none => false
  | some none => nthK off row K
  | some (some n) => dropK off row fun l => takeK n l fun r => K (.agg ⟨r⟩)
theorem loadK_ok {P : Program} {t : TypeId} {off : Nat} {row : List Value} {K : Value → Bool} (h : loadK P t off row K = true) : ∃ v, loadV P t row off = some v ∧ K v = true := by
  unfold loadK aggT at h
  unfold loadV
  cases h1 : qrun P (isAgg t) with
  | none => rw [h1] at h; cases h
  | some b =>
    rw [h1] at h
    cases b with
    | false => exact nthK_ok h
    | true =>
      dsimp only at h ⊢
      cases h2 : qrun P (sizeOf t) with
      | none => rw [h2] at h; cases h
      | some n =>
        rw [h2] at h
        obtain ⟨k1, h⟩ := dropK_ok h
        obtain ⟨k2, h⟩ := takeK_ok h
        rw [List.length_drop] at k2
        exact ⟨_, by dsimp only; rw [if_pos (by omega)], h⟩
theorem part_load {P : Program} {t : TypeId} {l : List Value} {off : Nat} {v : Value} (h : loadV P t l off = some v) : qrun P (part t ⟨l⟩ off) = some v := by
  rw [part_q]
  unfold loadV at h
  cases h1 : qrun P (isAgg t) with
  | none => rw [h1] at h; cases h
  | some b =>
    rw [h1] at h
    cases b with
    | false =>
      simp only [Option.bind_some, Bool.false_eq_true, if_false]
      simpa using h
    | true =>
      simp only [Option.bind_some, if_true]
      dsimp only at h
      cases h2 : qrun P (sizeOf t) with
      | none => rw [h2] at h; cases h
      | some n =>
        rw [h2] at h
        dsimp only at h
        split at h
        · cases h
          simp [List.extract_eq_take_drop]
        · cases h
end Go.Proofs.YtoadcnhcfodkgaaGreatDoor.Nx
