/-
  Statements that are known by themselves, told one by one, for the seat YtoadcnhcfodkgaaGreatDoor. No Go text in sight.
-/
import Derived.Test.YtoadcnhcfodkgaaGreatDoorSxP
namespace Go.Proofs.YtoadcnhcfodkgaaGreatDoor
open Go.RowKit

/-- A part of a code: false the first, true the second. -/
def cpart : List Bool → Code → Code
  | [], c => c
  | false :: p, .seq x _ => cpart p x
  | true :: p, .seq _ y => cpart p y
  | false :: p, .block _ c => cpart p c
  | false :: p, .loop c => cpart p c
  | _, c => c
def bodyOf (P : Program) (f : Nat) : Code := match P.funcs[f]? with
  | some fn => (match fn.body with
    | some c => c
    | none => .skip)
  | none => .skip
def fnOf (P : Program) (f : Nat) : Func := (P.funcs[f]?).getD default
def regs : Code → List (Nat × Array Oper × Bool)
  | .region id ops draw => [(id, ops, draw)]
  | .seq x y => regs x ++ regs y
  | .cond _ x y => regs x ++ regs y
  | .block _ c => regs c
  | .loop c => regs c
  | _ => []
/-- A statement's operations. -/
def opsOf (P : Program) (f id : Nat) : Array Oper := match (regs (bodyOf P f)).lookup id with
  | some x => x.1
  | none => #[]
def opOf (P : Program) (f id i : Nat) : Oper := (opsOf P f id).toList.getD i default
section
variable {P : Program} {bs : List Nat} {w0 : World} {ds : List Deferred} {bl0 : Bl} {ov : Ov}
def RegOk (P : Program) (ov : Ov) (bs : List Nat) (w0 : World) (ds : List Deferred) (bl0 : Bl) (r : Nat × Array Oper × Bool) : Prop :=
  ∀ R, ov r.1 = some R → ∀ (K : List Value → Xm → Prop) (Q : Exit → Act → World → Prop) (bl : Bl) (vt : List Value) (m : Xm) (a : Act) (w : World), R r.2.1 r.2.2 K vt m → Rl bs w0 ds bl0 bl vt m a w → (∀ bl vt m a w, K vt m → Rl bs w0 ds bl0 bl vt m a w → Q .normal a w) → (Code.region r.1 r.2.1 r.2.2).wp P Q a w
theorem ovOk_of : ∀ c : Code, (∀ r ∈ regs c, RegOk P ov bs w0 ds bl0 r) → OvOk P ov bs w0 ds bl0 c := by
  intro c
  induction c with
  | region id ops draw => intro h; exact h (id, ops, draw) List.mem_cons_self
  | seq x y ihx ihy => intro h; exact ⟨ihx fun r hr => h r (List.mem_append_left _ hr), ihy fun r hr => h r (List.mem_append_right _ hr)⟩
  | cond c x y ihx ihy => intro h; exact ⟨ihx fun r hr => h r (List.mem_append_left _ hr), ihy fun r hr => h r (List.mem_append_right _ hr)⟩
  | block id c ih => intro h; exact ih h
  | loop c ih => intro h; exact ih h
  | skip => intro _; exact trivial
  | exit id => intro _; exact trivial
  | label l => intro _; exact trivial
  | ret => intro _; exact trivial
  | goto l => intro _; exact trivial
  | scope c _ => intro _; exact trivial
  | refuse s => intro _; exact trivial
  | rangeFunc f ps x y _ _ => intro _; exact trivial
theorem ovOk_by {c : Code} {ns : List (Nat × Array Oper × Bool)} (hn : (regs c).filter (fun r => (ov r.1).isSome) = ns) (h : ∀ r ∈ ns, RegOk P ov bs w0 ds bl0 r) : OvOk P ov bs w0 ds bl0 c := by
  refine ovOk_of c fun r hr => ?_
  intro R hR
  exact h r (by rw [← hn]; exact List.mem_filter.2 ⟨hr, by rw [hR]; rfl⟩) R hR
end
section
variable {P : Program} {tbl : List (Ct P)} {dirty : Nat → List Nat} {n : Nat} {ov : Ov}
/-- A function without a flow, at given arguments, some of its statements known by themselves. -/
theorem pure_atO (hm : P.follows .mixedOrders = true) {f : Nat} (hf : P.funcs[f]? = some (fnOf P f)) (hb : (fnOf P f).body = some (bodyOf P f)) {A R : Type} {d : Dl A} {k : Dc R} {x : A} {y : R}
    (ho : ∀ w, OvOk P ov [] w [] [] (bodyOf P f)) (h : swpO P tbl dirty n ov (bodyOf P f) (retQ P (fnOf P f) (fun v _ => v = k.enc y)) (d.enc x ++ List.replicate ((fnOf P f).ntmps - (d.enc x).length) undef) []) (w : World) (hg : GW w) :
    Calls P f (d.enc x).toArray w fun e w' => e = .returned (k.enc y) ∧ Below w.heap.size w w' := by
  have R : RW [] w [] [] w := ⟨fun i B hi => (by cases hi), fun i j B hi => (by cases hi), fun i B hi => (by cases hi), rfl, rfl, rfl, Nat.le_refl _, fun _ _ _ => rfl, hg, fun b hb => by cases hb⟩
  refine Calls.mono (calls_sxO hm hf hb (vargs := d.enc x) R rfl (by simp) (fun i => ?_) (ho w) h) ?_
  · by_cases hi : i < (d.enc x).length
    · have := d.np x _ (List.getElem_mem hi)
      simp only [List.getD_eq_getElem?_getD, Array.getD_eq_getD_getElem?]
      simp [hi]
      exact .same this
    · simp only [List.getD_eq_getElem?_getD, Array.getD_eq_getD_getElem?]
      simp [hi]
      rfl
  · rintro e w' ⟨v, bl', m2, rfl, rfl, R', _⟩
    exact ⟨rfl, R'.os, R'.tape, R'.output, R'.size, fun i hi => R'.block i hi (by simp)⟩
end
end Go.Proofs.YtoadcnhcfodkgaaGreatDoor
