/-
  A symbolic run: functions whole, and what they are to their callers, for the seat YtoadcnhcfodkgaaGreatDoor. No Go text in sight.
-/
import Derived.Test.YtoadcnhcfodkgaaGreatDoorSxG
namespace Go.Proofs.YtoadcnhcfodkgaaGreatDoor
open Go.RowKit

abbrev VQ := Exit → List Value → Xm → Prop
def loopN : Nat → (VQ → List Value → Xm → Prop) → VQ → List Value → Xm → Prop
  | 0, _, _, _, _ => False
  | n + 1, G, Q, vt, m => G (fun e vt' m' => match e with
    | .normal => loopN n G Q vt' m'
    | e => Q e vt' m') vt m
/-- A test that came out so. -/
def vset (vt : List Value) (c : Operand) (b : Bool) : List Value :=
  match c with
  | .tmp t => vt.set t (.bool b)
  | _ => vt
theorem FR.vset {bl : Bl} {vt : List Value} {tm : Array Value} (h : FR bl vt tm) {c : Operand} {b : Bool} (hc : VE vt c = .bool b) : FR bl (vset vt c b) tm := by
  cases c with
  | tmp t => exact h.setSame hc
  | _ => exact h
def swp (P : Program) (tbl : List (Ct P)) (dirty : Nat → List Nat) (n : Nat) : Code → VQ → List Value → Xm → Prop
  | .skip, Q, vt, m => Q .normal vt m
  | .region id ops draw, Q, vt, m => vregion P tbl dirty id ops draw (Q .normal) vt m
  | .seq x y, Q, vt, m => swp P tbl dirty n x (fun e vt' m' => match e with
    | .normal => swp P tbl dirty n y Q vt' m'
    | e => Q e vt' m') vt m
  | .cond c x y, Q, vt, m => (match okX c, VE vt c with
    | true, .bool b => vif b (swp P tbl dirty n x Q (vset vt c true) m) (swp P tbl dirty n y Q (vset vt c false) m)
    | _, _ => False)
  | .block id c, Q, vt, m => swp P tbl dirty n c (fun e vt' m' => match e with
    | .exit id' => if id' = id then Q .normal vt' m' else Q (.exit id') vt' m'
    | e => Q e vt' m') vt m
  | .loop c, Q, vt, m => loopN n (swp P tbl dirty n c) Q vt m
  | .exit id, Q, vt, m => Q (.exit id) vt m
  | .label _, Q, vt, m => Q .normal vt m
  | .ret, Q, vt, m => Q .ret vt m
  | _, _, _, _ => False
section
variable {P : Program} {tbl : List (Ct P)} {bs : List Nat} {w0 : World} {ds : List Deferred} {dirty : Nat → List Nat} {n : Nat} {bl0 : Bl}
/-- What holds of what is run holds of what it stands for. -/
def Stands (bs : List Nat) (w0 : World) (ds : List Deferred) (bl0 : Bl) (Q : VQ) (Q' : Exit → Act → World → Prop) : Prop := ∀ e bl vt m a w, Q e vt m → Rl bs w0 ds bl0 bl vt m a w → Q' e a w
theorem swp_sound (hm : P.follows .mixedOrders = true) : ∀ (c : Code) (Q : VQ) (Q' : Exit → Act → World → Prop) (bl : Bl) (vt : List Value) (m : Xm) (a : Act) (w : World), Stands bs w0 ds bl0 Q Q' → swp P tbl dirty n c Q vt m → Rl bs w0 ds bl0 bl vt m a w → c.wp P Q' a w := by
  intro c
  induction c with
  | skip => intro Q Q' bl vt m a w hQ h r; exact wp_skip (hQ _ bl vt m a w h r)
  | region id ops draw => intro Q Q' bl vt m a w hQ h r; exact vregion_sound hm (fun bl vt m a w hk hr => hQ _ bl vt m a w hk hr) h r
  | seq x y ihx ihy =>
    intro Q Q' bl vt m a w hQ h r
    refine wp_seq (ihx _ _ bl vt m a w ?_ h r)
    intro e bl' vt' m' a' w' h' r'
    cases e with
    | normal => exact ihy Q Q' bl' vt' m' a' w' hQ h' r'
    | exit id => exact hQ _ bl' vt' m' a' w' h' r'
    | goto l => exact hQ _ bl' vt' m' a' w' h' r'
    | ret => exact hQ _ bl' vt' m' a' w' h' r'
    | panic ch => exact hQ _ bl' vt' m' a' w' h' r'
    | outgrown => exact hQ _ bl' vt' m' a' w' h' r'
  | cond c x y ihx ihy =>
    intro Q Q' bl vt m a w hQ h r
    unfold swp at h
    split at h
    · rename_i b hok hb
      have hv := r.F.eval hok
      rw [hb] at hv
      have hv : a.eval c = .bool b := hv
      refine wp_cond_split hv (fun e => ?_) (fun e => ?_)
      · subst e; exact ihx Q Q' bl _ m a w hQ h ⟨r.F.vset hb, r.R, r.le, r.len, r.defers⟩
      · subst e; exact ihy Q Q' bl _ m a w hQ h ⟨r.F.vset hb, r.R, r.le, r.len, r.defers⟩
    · exact h.elim
  | block id c ih =>
    intro Q Q' bl vt m a w hQ h r
    refine wp_block (ih _ _ bl vt m a w ?_ h r)
    intro e bl' vt' m' a' w' h' r'
    cases e with
    | exit id' =>
      dsimp only at h'
      unfold Exit.inBlock
      dsimp only
      split at h'
      · rename_i e
        rw [if_pos e]
        exact hQ _ bl' vt' m' a' w' h' r'
      · rename_i e
        rw [if_neg e]
        exact hQ _ bl' vt' m' a' w' h' r'
    | normal => exact hQ _ bl' vt' m' a' w' h' r'
    | goto l => exact hQ _ bl' vt' m' a' w' h' r'
    | ret => exact hQ _ bl' vt' m' a' w' h' r'
    | panic ch => exact hQ _ bl' vt' m' a' w' h' r'
    | outgrown => exact hQ _ bl' vt' m' a' w' h' r'
  | loop c ih =>
    intro Q Q' bl vt m a w hQ h r
    refine wp_loop_rounds n ?_
    have key : ∀ k bl vt m a w, loopN k (swp P tbl dirty n c) Q vt m → Rl bs w0 ds bl0 bl vt m a w → Code.rounds P c Q' k a w := by
      intro k
      induction k with
      | zero => intro bl vt m a w h _; exact h
      | succ k ihk =>
        intro bl vt m a w h r
        refine ih _ _ bl vt m a w ?_ h r
        intro e bl' vt' m' a' w' h' r'
        cases e with
        | normal => exact ihk bl' vt' m' a' w' h' r'
        | exit id => exact hQ _ bl' vt' m' a' w' h' r'
        | goto l => exact hQ _ bl' vt' m' a' w' h' r'
        | ret => exact hQ _ bl' vt' m' a' w' h' r'
        | panic ch => exact hQ _ bl' vt' m' a' w' h' r'
        | outgrown => exact hQ _ bl' vt' m' a' w' h' r'
    exact key n bl vt m a w h r
  | exit id => intro Q Q' bl vt m a w hQ h r; exact wp_exit (hQ _ bl vt m a w h r)
  | label l => intro Q Q' bl vt m a w hQ h r; exact wp_label (hQ _ bl vt m a w h r)
  | ret => intro Q Q' bl vt m a w hQ h r; exact wp_ret (hQ _ bl vt m a w h r)
  | goto l => intro Q Q' bl vt m a w _ h _; exact h.elim
  | scope c _ => intro Q Q' bl vt m a w _ h _; exact h.elim
  | refuse s => intro Q Q' bl vt m a w _ h _; exact h.elim
  | rangeFunc f ps x y _ _ => intro Q Q' bl vt m a w _ h _; exact h.elim
end
/-! ### What is returned -/
def resOne (P : Program) (vt : List Value) (m : Xm) : ResultVar → Option Value
  | .tmp t => if isP (vt.getD t undef) then none else some (vt.getD t undef)
  | .cell p t =>
    match vt.getD p undef with
    | .pointer (some ⟨k, off, none⟩) => (match m[k]? with
      | some l => loadV P t l off
      | none => none)
    | _ => none
def resL (P : Program) (vt : List Value) (m : Xm) : List ResultVar → Option (List Value)
  | [] => some []
  | r :: rs =>
    match resOne P vt m r, resL P vt m rs with
    | some v, some vs => some (v :: vs)
    | _, _ => none
def resV (P : Program) (fn : Func) (vt : List Value) (m : Xm) : Option Value :=
  match resL P vt m fn.results.toList with
  | some [v] => some v
  | some vs => some (.tuple vs.toArray)
  | none => none
def resF (tm : Array Value) : ResultVar → Sem Value
  | .tmp t => pure (tm.getD t undef)
  | .cell a t => do loadVar t (← asAddr (tm.getD a undef))
section
variable {P : Program} {bs : List Nat} {w0 : World} {bl : Bl} {vt : List Value} {m : Xm} {w : World} {tm : Array Value}
theorem resOne_run (F : FR bl vt tm) (R : RW bs w0 bl m w) {r : ResultVar} {v : Value} (hv : resOne P vt m r = some v) : (resF tm r).run P w = .ok v w := by
  cases r with
  | tmp t =>
    simp only [resOne] at hv
    split at hv
    · cases hv
    · rename_i hp
      have e := (F.rv t).plain (by simpa using hp)
      have hv := Option.some.inj hv
      simp only [resF]
      rw [e, hv]
      simp
  | cell p t =>
    simp only [resOne] at hv
    have hr := F.rv p
    split at hv
    · rename_i k off hk
      rw [hk] at hr
      obtain ⟨B, hB, he⟩ := hr
      have he : tm.getD p undef = .pointer (some ⟨B, off, none⟩) := he
      split at hv
      · rename_i l hl
        obtain ⟨l2, e2, A⟩ := R.arr k B hB
        rw [hl] at e2
        cases e2
        have r1 := loadV_run hv A
        simp only [resF]
        rw [he]
        simp [asAddr, r1]
      · cases hv
    · cases hv
theorem resL_run (F : FR bl vt tm) (R : RW bs w0 bl m w) : ∀ (rs : List ResultVar) (vs : List Value), resL P vt m rs = some vs → (rs.mapM (resF tm)).run P w = .ok vs w
  | [], vs, h => by
    cases h
    simp
  | r :: rs, vs, h => by
    unfold resL at h
    split at h
    · rename_i v us hv hus
      have e := Option.some.inj h
      have ih := resL_run F R rs us hus
      have h1 := resOne_run F R hv
      rw [List.mapM_cons]
      simp only [Sem.run_bind, h1, Result.andThen_ok, ih, ← e]
      rfl
    · cases h
theorem results_eq (fn : Func) (tm : Array Value) : results fn tm = (do let vs ← fn.results.mapM (resF tm); pure (if h : vs.size = 1 then vs[0] else .tuple vs)) := rfl
theorem resV_run {fn : Func} {v : Value} (F : FR bl vt tm) (R : RW bs w0 bl m w) (h : resV P fn vt m = some v) : (results fn tm).run P w = .ok v w := by
  unfold resV at h
  rw [results_eq, Array.mapM_eq_mapM_toList]
  cases hvs : resL P vt m fn.results.toList with
  | none => rw [hvs] at h; cases h
  | some vs =>
    have r := resL_run F R _ _ hvs
    rw [hvs] at h
    simp only [Sem.run_bind, Sem.run_map, r, Result.andThen_ok]
    match vs, h with
    | [u], h =>
      cases h
      simp
    | [], h =>
      cases h
      simp
    | x :: y :: zs, h =>
      cases h
      simp
end
end Go.Proofs.YtoadcnhcfodkgaaGreatDoor
