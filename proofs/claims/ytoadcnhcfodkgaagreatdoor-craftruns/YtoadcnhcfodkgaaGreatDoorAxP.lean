/-
  Rows of numbers as tuples, for a symbolic run, for the seat YtoadcnhcfodkgaaGreatDoor. No Go text in sight but that orders may be mixed.
-/
import Derived.Test.YtoadcnhcfodkgaaGreatDoorSxK
namespace Go.Proofs.YtoadcnhcfodkgaaGreatDoor
open Go.RowKit

/-- So many numbers. -/
def Tup : Nat → Type
  | 0 => Unit
  | n + 1 => Int × Tup n
def tEnc : (n : Nat) → Tup n → List Value
  | 0, _ => []
  | n + 1, x => .int .i64 x.1 :: tEnc n x.2
def tDec : (n : Nat) → List Value → Option (Tup n)
  | 0, l => (match l with
    | [] => some ()
    | _ => none)
  | n + 1, l => (match l with
    | .int .i64 x :: r => (match tDec n r with
      | some y => some (x, y)
      | none => none)
    | _ => none)
theorem tDec_law : ∀ (n : Nat) (l : List Value) (x : Tup n), tDec n l = some x → l = tEnc n x
  | 0, l, x, h => by
    unfold tDec at h
    split at h
    · rfl
    · cases h
  | n + 1, l, x, h => by
    unfold tDec at h
    split at h
    · split at h
      · rename_i y hy
        cases h
        rw [tDec_law n _ y hy]
        rfl
      · cases h
    · cases h
theorem tEnc_np : ∀ (n : Nat) (x : Tup n), ∀ v ∈ tEnc n x, isP v = false
  | 0, _, v, h => by cases h
  | n + 1, x, v, h => by
    rcases List.mem_cons.1 h with rfl | h
    · rfl
    · exact tEnc_np n x.2 v h
def dT (n : Nat) : Dl (Tup n) := ⟨tEnc n, tDec n, fun l x h => tDec_law n l x h, tEnc_np n⟩
def cT (n : Nat) : Dc (Tup n) := cAgg (dT n)
/-- One behind the other. -/
def dcat {A B : Type} (n : Nat) (d : Dl A) (e : Dl B) : Dl (A × B) where
  enc x := d.enc x.1 ++ e.enc x.2
  dec l := match d.dec (l.take n), e.dec (l.drop n) with
    | some a, some b => some (a, b)
    | _, _ => none
  law l x h := by
    split at h
    · rename_i a b h1 h2
      cases h
      rw [← d.law _ _ h1, ← e.law _ _ h2, List.take_append_drop]
    · cases h
  np x v hv := by
    rcases List.mem_append.1 hv with h | h
    · exact d.np x.1 v h
    · exact e.np x.2 v h
def cS : Dc ByteArray where
  enc s := .string s
  dec v := match v with
    | .string s => some s
    | _ => none
  law v x h := by
    split at h
    · cases h; rfl
    · cases h
  np _ := rfl
def three' {A B C : Type} (c : Dc A) (d : Dc B) (e : Dc C) : Dc (A × B × C) where
  enc p := .tuple #[c.enc p.1, d.enc p.2.1, e.enc p.2.2]
  dec v := match v with
    | .tuple ⟨[x, y, z]⟩ => (match c.dec x, d.dec y, e.dec z with
      | some a, some b, some c => some (a, b, c)
      | _, _, _ => none)
    | _ => none
  law v x h := by
    split at h
    · split at h
      · rename_i h1 h2 h3
        cases h
        rw [c.law _ _ h1, d.law _ _ h2, e.law _ _ h3]
      · cases h
    · cases h
  np _ := rfl
section
variable {P : Program}
theorem pure_calls {tbl : List (Ct P)} {dirty : Nat → List Nat} {n : Nat} (hm : P.follows .mixedOrders = true) {f : Nat} {fn : Func} {c : Code} (hf : P.funcs[f]? = some fn) (hb : fn.body = some c) {rest : List Value} (hp : ∀ v ∈ rest, isP v = false) {v0 : Value}
    (h : swp P tbl dirty n c (retQ P fn (fun v _ => v = v0)) (rest ++ List.replicate (fn.ntmps - rest.length) undef) []) (w : World) (hg : GW w) :
    Calls P f rest.toArray w fun e w' => e = .returned v0 ∧ Below w.heap.size w w' := by
  have R : RW [] w [] [] w := ⟨fun i B hi => (by cases hi), fun i j B hi => (by cases hi), fun i B hi => (by cases hi), rfl, rfl, rfl, Nat.le_refl _, fun _ _ _ => rfl, hg, fun b hb => by cases hb⟩
  refine Calls.mono (calls_sx hm hf hb (vargs := rest) R rfl (by simp) (fun i => ?_) h) ?_
  · by_cases hi : i < rest.length
    · have := hp _ (List.getElem_mem hi)
      simp only [List.getD_eq_getElem?_getD, Array.getD_eq_getD_getElem?]
      simp [hi]
      exact .same this
    · simp only [List.getD_eq_getElem?_getD, Array.getD_eq_getD_getElem?]
      simp [hi]
      rfl
  · rintro e w' ⟨v, bl', m2, rfl, rfl, R', _⟩
    exact ⟨rfl, R'.os, R'.tape, R'.output, R'.size, fun i hi => R'.block i hi (by simp)⟩
/-- What a function answers to one row of arguments. -/
theorem pure_at {tbl : List (Ct P)} {dirty : Nat → List Nat} {n : Nat} (hm : P.follows .mixedOrders = true) {f : Nat} {fn : Func} {c : Code} (hf : P.funcs[f]? = some fn) (hb : fn.body = some c) {A R : Type} {d : Dl A} {k : Dc R} {x : A} {y : R}
    (h : ∀ Post : Value → Prop, PJ k Post y → swp P tbl dirty n c (retQ P fn (fun v _ => Post v)) (d.enc x ++ List.replicate (fn.ntmps - (d.enc x).length) undef) []) (w : World) (hg : GW w) : Calls P f (d.enc x).toArray w fun e w' => e = .returned (k.enc y) ∧ Below w.heap.size w w' :=
  pure_calls hm hf hb (d.np x) (h (fun v => v = k.enc y) rfl) w hg
/-- A function as it is known at one row of arguments. -/
def ctAt (P : Program) (f : Nat) {A R : Type} (d : Dl A) (c : Dc R) (x : A) (y : R) (go : ∀ (args : Array Value) (w : World), (callFunc f args).run P w = .ok (.enter f args) w) (h : ∀ w, GW w → Calls P f (d.enc x).toArray w fun e w' => e = .returned (c.enc y) ∧ Below w.heap.size w w') : Ct P where
  fn := f
  sp := fun args m K => args = d.enc x ∧ K (c.enc y) m
  go := go
  mono := fun hK hs => ⟨hs.1, hK _ _ hs.2⟩
  keep := fun hs => ⟨hs.1, hs.2, rfl, fun _ _ => rfl⟩
  ok := fun {bs w0 bl m w args args' K} R hlen hv hs => by
    rw [args_same hlen hv (by rw [hs.1]; exact d.np x), hs.1]
    refine Calls.mono (h w R.gwAt) ?_
    rintro e w' ⟨rfl, Kp⟩
    exact ⟨_, _, _, rfl, .same (c.np _), hs.2, R.pure Kp⟩
end
theorem xmixA : Tryz.prog.follows .mixedOrders = true := by kernel_rfl
end Go.Proofs.YtoadcnhcfodkgaaGreatDoor
