/-
  Structures are equal to themselves, for the seat YtoadcnhcfodkgaaGreatDoor. No Go text in sight.
-/
import Derived.Test.YtoadcnhcfodkgaaGreatDoorSxA
import Derived.Laws.StructEq
import Derived.ChangeKeysEq
namespace Go.Proofs.YtoadcnhcfodkgaaGreatDoor
open Go.RowKit

/-- Made of bools, integers and strings alone. -/
def selfOk (P : Program) : Nat → TypeId → Value → Bool
  | 0, _, _ => false
  | d + 1, t, v => match P.underlying t, v with
    | some .bool, .bool _ => true
    | some (.int _), .int _ _ => true
    | some .string, .string _ => true
    | some (.struct fs), .agg xs => !P.stoodInHeld t && fs.toList.all fun f => match qrun P (part f.type xs f.offset) with
      | some u => selfOk P d f.type u
      | none => false
    | some (.array n e), .agg xs => (P.info? e).isSome && (List.range n).all fun i => match qrun P (part e xs (i * P.cellsOf e)) with
      | some u => selfOk P d e u
      | none => false
    | _, _ => false
section
variable {P : Program}
def SelfAt (P : Program) (d : Nat) : Prop := ∀ t v, selfOk P d t v = true → ∀ (k : Nat) (w : World), (Op.equalIn (k + d) t v v).run P w = .ok true w
theorem fields_self {d k : Nat} (ih : SelfAt P d) (xs : Array Value) (w : World) : ∀ fs : List Field, (fs.all fun f => match qrun P (part f.type xs f.offset) with
      | some u => selfOk P d f.type u
      | none => false) = true → (Op.eqFields (k + d) xs xs fs).run P w = .ok true w
  | [], _ => by simp [Op.eqFields]
  | f :: fs, h => by
    rw [List.all_cons, Bool.and_eq_true] at h
    have ih2 := fields_self (k := k) ih xs w fs h.2
    have h1 := h.1
    unfold Op.eqFields
    split
    · split at h1
      · rename_i u hu
        have p := qrun_run _ hu w
        have e := ih _ _ h1 k w
        simp only [Sem.run_bind, p, Result.andThen_ok, e, Bool.not_true, Bool.false_eq_true, if_false, ih2]
      · cases h1
    · exact ih2
theorem items_self {d k : Nat} (ih : SelfAt P d) (e : TypeId) (xs : Array Value) (w : World) : ∀ is : List Nat, (is.all fun i => match qrun P (part e xs (i * P.cellsOf e)) with
      | some u => selfOk P d e u
      | none => false) = true → (Op.eqItems (k + d) e (P.cellsOf e) xs xs is).run P w = .ok true w
  | [], _ => by simp [Op.eqItems]
  | i :: is, h => by
    rw [List.all_cons, Bool.and_eq_true] at h
    have ih2 := items_self (k := k) ih e xs w is h.2
    have h1 := h.1
    unfold Op.eqItems
    split at h1
    · rename_i u hu
      have p := qrun_run _ hu w
      have e := ih _ _ h1 k w
      simp only [Sem.run_bind, p, Result.andThen_ok, e, Bool.not_true, Bool.false_eq_true, if_false, ih2]
    · cases h1
theorem self_at : ∀ d, SelfAt P d
  | 0 => fun t v h => by cases h
  | d + 1 => fun t v h k w => by
    have ih := self_at d
    unfold selfOk at h
    split at h
    · rename_i hu
      rw [← Nat.add_assoc, run_equalIn_bool' w _ _ _ _ hu]
      simp
    · rename_i hu
      rw [← Nat.add_assoc, run_equalIn_int w _ _ _ _ _ _ hu]
      simp
    · rename_i hu
      rw [← Nat.add_assoc, run_equalIn_string w _ _ _ _ hu]
      simp
    · rename_i fs xs hu
      rw [Bool.and_eq_true] at h
      have hf : P.fieldsOf t = fs := by unfold Program.fieldsOf; rw [hu]
      rw [← Nat.add_assoc, run_equalIn_struct w _ _ _ _ (by rw [hf]; exact hu) (by simpa using h.1), hf]
      exact fields_self ih xs w _ h.2
    · rename_i n e xs hu
      rw [Bool.and_eq_true] at h
      obtain ⟨i, hi⟩ := Option.isSome_iff_exists.1 h.1
      rw [← Nat.add_assoc, run_equalIn_array w _ _ _ hu hi]
      exact items_self ih e xs w _ h.2
    · cases h
end
end Go.Proofs.YtoadcnhcfodkgaaGreatDoor
