/-
  A symbolic run in which some statements are known by themselves, for the seat YtoadcnhcfodkgaaGreatDoor. No Go text in sight.
-/
import Derived.Test.YtoadcnhcfodkgaaGreatDoorSxI
namespace Go.Proofs.YtoadcnhcfodkgaaGreatDoor
open Go.RowKit

/-- What is known of statements, by their numbers. -/
abbrev Ov := Nat → Option (Array Oper → Bool → (List Value → Xm → Prop) → List Value → Xm → Prop)
def swpO (P : Program) (tbl : List (Ct P)) (dirty : Nat → List Nat) (n : Nat) (ov : Ov) : Code → VQ → List Value → Xm → Prop
  | .skip, Q, vt, m => Q .normal vt m
  | .region id ops draw, Q, vt, m => (match ov id with
    | some R => R ops draw (Q .normal) vt m
    | none => vregion P tbl dirty id ops draw (Q .normal) vt m)
  | .seq x y, Q, vt, m => swpO P tbl dirty n ov x (fun e vt' m' => match e with
    | .normal => swpO P tbl dirty n ov y Q vt' m'
    | e => Q e vt' m') vt m
  | .cond c x y, Q, vt, m => (match okX c, VE vt c with
    | true, .bool b => vif b (swpO P tbl dirty n ov x Q (vset vt c true) m) (swpO P tbl dirty n ov y Q (vset vt c false) m)
    | _, _ => False)
  | .block id c, Q, vt, m => swpO P tbl dirty n ov c (fun e vt' m' => match e with
    | .exit id' => if id' = id then Q .normal vt' m' else Q (.exit id') vt' m'
    | e => Q e vt' m') vt m
  | .loop c, Q, vt, m => loopN n (swpO P tbl dirty n ov c) Q vt m
  | .exit id, Q, vt, m => Q (.exit id) vt m
  | .label _, Q, vt, m => Q .normal vt m
  | .ret, Q, vt, m => Q .ret vt m
  | _, _, _, _ => False
/-- It is so. -/
def OvOk (P : Program) (ov : Ov) (bs : List Nat) (w0 : World) (ds : List Deferred) (bl0 : Bl) : Code → Prop
  | .region id ops draw => ∀ R, ov id = some R → ∀ (K : List Value → Xm → Prop) (Q : Exit → Act → World → Prop) (bl : Bl) (vt : List Value) (m : Xm) (a : Act) (w : World), R ops draw K vt m → Rl bs w0 ds bl0 bl vt m a w → (∀ bl vt m a w, K vt m → Rl bs w0 ds bl0 bl vt m a w → Q .normal a w) → (Code.region id ops draw).wp P Q a w
  | .seq x y => OvOk P ov bs w0 ds bl0 x ∧ OvOk P ov bs w0 ds bl0 y
  | .cond _ x y => OvOk P ov bs w0 ds bl0 x ∧ OvOk P ov bs w0 ds bl0 y
  | .block _ c => OvOk P ov bs w0 ds bl0 c
  | .loop c => OvOk P ov bs w0 ds bl0 c
  | _ => True
section
variable {P : Program} {tbl : List (Ct P)} {bs : List Nat} {w0 : World} {ds : List Deferred} {dirty : Nat → List Nat} {n : Nat} {bl0 : Bl} {ov : Ov}
theorem swpO_sound (hm : P.follows .mixedOrders = true) : ∀ (c : Code) (Q : VQ) (Q' : Exit → Act → World → Prop) (bl : Bl) (vt : List Value) (m : Xm) (a : Act) (w : World), OvOk P ov bs w0 ds bl0 c → Stands bs w0 ds bl0 Q Q' → swpO P tbl dirty n ov c Q vt m → Rl bs w0 ds bl0 bl vt m a w → c.wp P Q' a w := by
  intro c
  induction c with
  | skip => intro Q Q' bl vt m a w _ hQ h r; exact wp_skip (hQ _ bl vt m a w h r)
  | region id ops draw =>
    intro Q Q' bl vt m a w ho hQ h r
    unfold swpO at h
    split at h
    · rename_i R hR
      exact ho R hR _ Q' bl vt m a w h r (fun bl vt m a w hk hr => hQ _ bl vt m a w hk hr)
    · exact vregion_sound hm (fun bl vt m a w hk hr => hQ _ bl vt m a w hk hr) h r
  | seq x y ihx ihy =>
    intro Q Q' bl vt m a w ho hQ h r
    refine wp_seq (ihx _ _ bl vt m a w ho.1 ?_ h r)
    intro e bl' vt' m' a' w' h' r'
    cases e with
    | normal => exact ihy Q Q' bl' vt' m' a' w' ho.2 hQ h' r'
    | exit id => exact hQ _ bl' vt' m' a' w' h' r'
    | goto l => exact hQ _ bl' vt' m' a' w' h' r'
    | ret => exact hQ _ bl' vt' m' a' w' h' r'
    | panic ch => exact hQ _ bl' vt' m' a' w' h' r'
    | outgrown => exact hQ _ bl' vt' m' a' w' h' r'
  | cond c x y ihx ihy =>
    intro Q Q' bl vt m a w ho hQ h r
    unfold swpO at h
    split at h
    · rename_i b hok hb
      have hv := r.F.eval hok
      rw [hb] at hv
      have hv : a.eval c = .bool b := hv
      refine wp_cond_split hv (fun e => ?_) (fun e => ?_)
      · subst e; exact ihx Q Q' bl _ m a w ho.1 hQ h ⟨r.F.vset hb, r.R, r.le, r.len, r.defers⟩
      · subst e; exact ihy Q Q' bl _ m a w ho.2 hQ h ⟨r.F.vset hb, r.R, r.le, r.len, r.defers⟩
    · exact h.elim
  | block id c ih =>
    intro Q Q' bl vt m a w ho hQ h r
    refine wp_block (ih _ _ bl vt m a w ho ?_ h r)
    intro e bl' vt' m' a' w' h' r'
    cases e with
    | exit id' =>
      dsimp only at h'
      unfold Exit.inBlock
      dsimp only
      split at h'
      · rename_i e
        rw [if_pos e]
        exact hQ _ bl' vt' m' a' w' h' r'
      · rename_i e
        rw [if_neg e]
        exact hQ _ bl' vt' m' a' w' h' r'
    | normal => exact hQ _ bl' vt' m' a' w' h' r'
    | goto l => exact hQ _ bl' vt' m' a' w' h' r'
    | ret => exact hQ _ bl' vt' m' a' w' h' r'
    | panic ch => exact hQ _ bl' vt' m' a' w' h' r'
    | outgrown => exact hQ _ bl' vt' m' a' w' h' r'
  | loop c ih =>
    intro Q Q' bl vt m a w ho hQ h r
    refine wp_loop_rounds n ?_
    have key : ∀ k bl vt m a w, loopN k (swpO P tbl dirty n ov c) Q vt m → Rl bs w0 ds bl0 bl vt m a w → Code.rounds P c Q' k a w := by
      intro k
      induction k with
      | zero => intro bl vt m a w h _; exact h
      | succ k ihk =>
        intro bl vt m a w h r
        refine ih _ _ bl vt m a w ho ?_ h r
        intro e bl' vt' m' a' w' h' r'
        cases e with
        | normal => exact ihk bl' vt' m' a' w' h' r'
        | exit id => exact hQ _ bl' vt' m' a' w' h' r'
        | goto l => exact hQ _ bl' vt' m' a' w' h' r'
        | ret => exact hQ _ bl' vt' m' a' w' h' r'
        | panic ch => exact hQ _ bl' vt' m' a' w' h' r'
        | outgrown => exact hQ _ bl' vt' m' a' w' h' r'
    exact key n bl vt m a w h r
  | exit id => intro Q Q' bl vt m a w _ hQ h r; exact wp_exit (hQ _ bl vt m a w h r)
  | label l => intro Q Q' bl vt m a w _ hQ h r; exact wp_label (hQ _ bl vt m a w h r)
  | ret => intro Q Q' bl vt m a w _ hQ h r; exact wp_ret (hQ _ bl vt m a w h r)
  | goto l => intro Q Q' bl vt m a w _ _ h _; exact h.elim
  | scope c _ => intro Q Q' bl vt m a w _ _ h _; exact h.elim
  | refuse s => intro Q Q' bl vt m a w _ _ h _; exact h.elim
  | rangeFunc f ps x y _ _ => intro Q Q' bl vt m a w _ _ h _; exact h.elim
end
section
variable {P : Program} {tbl : List (Ct P)} {dirty : Nat → List Nat} {n : Nat} {ov : Ov}
theorem calls_sxO (hm : P.follows .mixedOrders = true) {f : Nat} {fn : Func} {c : Code} (hf : P.funcs[f]? = some fn) (hb : fn.body = some c) {bs : List Nat} {w : World} {bl : Bl} {m : Xm} {vargs : List Value} {args : Array Value}
    (R : RW bs w bl m w) (hl : bl.length = m.length) (hs : args.size = vargs.length) (hv : ∀ i, RV bl (vargs.getD i undef) (args.getD i undef)) {Post : Value → Xm → Prop}
    (ho : OvOk P ov bs w [] bl c) (h : swpO P tbl dirty n ov c (retQ P fn Post) (vargs ++ List.replicate (fn.ntmps - vargs.length) undef) m) :
    Calls P f args w fun e w' => ∃ v bl' m', e = .returned v ∧ Post v m' ∧ RW bs w bl' m' w' ∧ Le bl bl' := by
  refine calls_of_wp hf hb (swpO_sound (ds := []) (bl0 := bl) hm c _ _ bl _ m _ w ho ?_ h ⟨⟨?_, ?_⟩, R, Le.refl _, hl, rfl⟩)
  · intro e bl' vt' m' a' w' h' r'
    cases e with
    | normal =>
      simp only [retQ] at h'
      split at h'
      · rename_i v hv
        exact ⟨r'.defers, v, resV_run r'.F r'.R hv, v, bl', m', rfl, h', r'.R, r'.le⟩
      · exact h'.elim
    | ret =>
      simp only [retQ] at h'
      split at h'
      · rename_i v hv
        exact ⟨r'.defers, v, resV_run r'.F r'.R hv, v, bl', m', rfl, h', r'.R, r'.le⟩
      · exact h'.elim
    | exit id => exact h'.elim
    | goto l => exact h'.elim
    | panic ch => exact h'.elim
    | outgrown => exact h'.elim
  · simp [hs]
  · intro t
    by_cases ht : t < vargs.length
    · have := hv t
      simp only [List.getD_eq_getElem?_getD, Array.getD_eq_getD_getElem?] at this ⊢
      rw [List.getElem?_append_left ht, Array.getElem?_append_left (by omega)]
      exact this
    · simp only [List.getD_eq_getElem?_getD, Array.getD_eq_getD_getElem?]
      rw [List.getElem?_append_right (by omega), Array.getElem?_append_right (by omega), hs]
      by_cases h2 : t - vargs.length < fn.ntmps - vargs.length
      · rw [List.getElem?_eq_getElem (by simpa using h2), Array.getElem?_eq_getElem (by simpa using h2)]
        simp
        rfl
      · rw [List.getElem?_eq_none (by simpa using h2), Array.getElem?_eq_none (by simpa using h2)]
        rfl
end
end Go.Proofs.YtoadcnhcfodkgaaGreatDoor
