/-
A part.
A part.
A part.
A part.
-/
import Derived.Test.YtbophanlmkbfeaaGreatDoorHO04
namespace Go.Proofs.YtbophanlmkbfeaaGreatDoor
open Go.RowKit
abbrev VQ := Exit → List Value → Xm → Prop
def loopN : Nat → (VQ → List Value → Xm → Prop) → VQ → List Value → Xm → Prop
 | 0, _, _, _, _ => False
 | n + 1, G, Q, vt, m => G (fun e vt' m' => match e with
  | .normal => loopN n G Q vt' m'
  | e => Q e vt' m') vt m
def vset (vt : List Value) (c : Operand) (b : Bool) : List Value :=
 match c with
 | .tmp t => vt.set t (.bool b)
 | _ => vt
theorem FR.vset {bl : Bl} {vt : List Value} {tm : Array Value} (h : FR bl vt tm) {c : Operand} {b : Bool} (hc : VE vt c = .bool b) : FR bl (vset vt c b) tm := by
 cases c with
 | tmp t => exact h.setSame hc
 | _ => exact h
def swp (P : Program) (tbl : List (Ct P)) (dirty : Nat → List Nat) (n : Nat) : Code → VQ → List Value → Xm → Prop
 | .skip, Q, vt, m => Q .normal vt m
 | .region id ops draw, Q, vt, m => vregion P tbl dirty id ops draw (Q .normal) vt m
 | .seq x y, Q, vt, m => swp P tbl dirty n x (fun e vt' m' => match e with
  | .normal => swp P tbl dirty n y Q vt' m'
  | e => Q e vt' m') vt m
 | .cond c x y, Q, vt, m => (match okX c, VE vt c with
  | true, .bool b => vif b (swp P tbl dirty n x Q (vset vt c true) m) (swp P tbl dirty n y Q (vset vt c false) m)
  | _, _ => False)
 | .block id c, Q, vt, m => swp P tbl dirty n c (fun e vt' m' => match e with
  | .exit id' => if id' = id then Q .normal vt' m' else Q (.exit id') vt' m'
  | e => Q e vt' m') vt m
 | .loop c, Q, vt, m => loopN n (swp P tbl dirty n c) Q vt m
 | .exit id, Q, vt, m => Q (.exit id) vt m
 | .label _, Q, vt, m => Q .normal vt m
 | .ret, Q, vt, m => Q .ret vt m
 | _, _, _, _ => False
section
variable {P : Program} {tbl : List (Ct P)} {bs : List Nat} {w0 : World} {ds : List Deferred} {dirty : Nat → List Nat} {n : Nat} {bl0 : Bl}
def Stands (bs : List Nat) (w0 : World) (ds : List Deferred) (bl0 : Bl) (Q : VQ) (Q' : Exit → Act → World → Prop) : Prop := ∀ e bl vt m a w, Q e vt m → Rl bs w0 ds bl0 bl vt m a w → Q' e a w
theorem swp_sound (hm : P.follows .mixedOrders = true) : ∀ (c : Code) (Q : VQ) (Q' : Exit → Act → World → Prop) (bl : Bl) (vt : List Value) (m : Xm) (a : Act) (w : World), Stands bs w0 ds bl0 Q Q' → swp P tbl dirty n c Q vt m → Rl bs w0 ds bl0 bl vt m a w → c.wp P Q' a w := by
 intro c
 induction c with
 | skip => intro Q Q' bl vt m a w hQ h r; exact wp_skip (hQ _ bl vt m a w h r)
 | region id ops draw => intro Q Q' bl vt m a w hQ h r; exact vregion_sound hm (fun bl vt m a w hk hr => hQ _ bl vt m a w hk hr) h r
 | seq x y ihx ihy =>
  intro Q Q' bl vt m a w hQ h r
  refine wp_seq (ihx _ _ bl vt m a w ?_ h r)
  intro e bl' vt' m' a' w' h' r'
  cases e with
  | normal => exact ihy Q Q' bl' vt' m' a' w' hQ h' r'
  | exit id => exact hQ _ bl' vt' m' a' w' h' r'
  | goto l => exact hQ _ bl' vt' m' a' w' h' r'
  | ret => exact hQ _ bl' vt' m' a' w' h' r'
  | panic ch => exact hQ _ bl' vt' m' a' w' h' r'
  | outgrown => exact hQ _ bl' vt' m' a' w' h' r'
 | cond c x y ihx ihy =>
  intro Q Q' bl vt m a w hQ h r
  unfold swp at h
  split at h
  ·rename_i b hok hb
   have hv := r.F.eval hok
   rw [hb] at hv
   have hv : a.eval c = .bool b := hv
   refine wp_cond_split hv (fun e => ?_) (fun e => ?_)
   ·subst e; exact ihx Q Q' bl _ m a w hQ h ⟨r.F.vset hb, r.R, r.le, r.len, r.defers⟩
   ·subst e; exact ihy Q Q' bl _ m a w hQ h ⟨r.F.vset hb, r.R, r.le, r.len, r.defers⟩
  ·exact h.elim
 | block id c ih =>
  intro Q Q' bl vt m a w hQ h r
  refine wp_block (ih _ _ bl vt m a w ?_ h r)
  intro e bl' vt' m' a' w' h' r'
  cases e with
  | exit id' =>
   dsimp only at h'
   unfold Exit.inBlock
   dsimp only
   split at h'
   ·rename_i e
    rw [if_pos e]
    exact hQ _ bl' vt' m' a' w' h' r'
   ·rename_i e
    rw [if_neg e]
    exact hQ _ bl' vt' m' a' w' h' r'
  | normal => exact hQ _ bl' vt' m' a' w' h' r'
  | goto l => exact hQ _ bl' vt' m' a' w' h' r'
  | ret => exact hQ _ bl' vt' m' a' w' h' r'
  | panic ch => exact hQ _ bl' vt' m' a' w' h' r'
  | outgrown => exact hQ _ bl' vt' m' a' w' h' r'
 | loop c ih =>
  intro Q Q' bl vt m a w hQ h r
  refine wp_loop_rounds n ?_
  have key : ∀ k bl vt m a w, loopN k (swp P tbl dirty n c) Q vt m → Rl bs w0 ds bl0 bl vt m a w → Code.rounds P c Q' k a w := by
   intro k
   induction k with
   | zero => intro bl vt m a w h _; exact h
   | succ k ihk =>
    intro bl vt m a w h r
    refine ih _ _ bl vt m a w ?_ h r
    intro e bl' vt' m' a' w' h' r'
    cases e with
    | normal => exact ihk bl' vt' m' a' w' h' r'
    | exit id => exact hQ _ bl' vt' m' a' w' h' r'
    | goto l => exact hQ _ bl' vt' m' a' w' h' r'
    | ret => exact hQ _ bl' vt' m' a' w' h' r'
    | panic ch => exact hQ _ bl' vt' m' a' w' h' r'
    | outgrown => exact hQ _ bl' vt' m' a' w' h' r'
  exact key n bl vt m a w h r
 | exit id => intro Q Q' bl vt m a w hQ h r; exact wp_exit (hQ _ bl vt m a w h r)
 | label l => intro Q Q' bl vt m a w hQ h r; exact wp_label (hQ _ bl vt m a w h r)
 | ret => intro Q Q' bl vt m a w hQ h r; exact wp_ret (hQ _ bl vt m a w h r)
 | goto l => intro Q Q' bl vt m a w _ h _; exact h.elim
 | scope c _ => intro Q Q' bl vt m a w _ h _; exact h.elim
 | refuse s => intro Q Q' bl vt m a w _ h _; exact h.elim
 | rangeFunc f ps x y _ _ => intro Q Q' bl vt m a w _ h _; exact h.elim
end
def resOne (P : Program) (vt : List Value) (m : Xm) : ResultVar → Option Value
 | .tmp t => if isP (vt.getD t undef) then none else some (vt.getD t undef)
 | .cell p t =>
  match vt.getD p undef with
  | .pointer (some ⟨k, off, none⟩) => (match m[k]? with
   | some l => loadV P t l off
   | none => none)
  | _ => none
def resL (P : Program) (vt : List Value) (m : Xm) : List ResultVar → Option (List Value)
 | [] => some []
 | r :: rs =>
  match resOne P vt m r, resL P vt m rs with
  | some v, some vs => some (v :: vs)
  | _, _ => none
def resV (P : Program) (fn : Func) (vt : List Value) (m : Xm) : Option Value :=
 match resL P vt m fn.results.toList with
 | some [v] => some v
 | some vs => some (.tuple vs.toArray)
 | none => none
def resF (tm : Array Value) : ResultVar → Sem Value
 | .tmp t => pure (tm.getD t undef)
 | .cell a t => do loadVar t (← asAddr (tm.getD a undef))
section
variable {P : Program} {bs : List Nat} {w0 : World} {bl : Bl} {vt : List Value} {m : Xm} {w : World} {tm : Array Value}
theorem resOne_run (F : FR bl vt tm) (R : RW bs w0 bl m w) {r : ResultVar} {v : Value} (hv : resOne P vt m r = some v) : (resF tm r).run P w = .ok v w := by
 cases r with
 | tmp t =>
  simp only [resOne] at hv
  split at hv
  ·cases hv
  ·rename_i hp
   have e := (F.rv t).plain (by simpa using hp)
   have hv := Option.some.inj hv
   simp only [resF]
   rw [e, hv]
   simp
 | cell p t =>
  simp only [resOne] at hv
  have hr := F.rv p
  split at hv
  ·rename_i k off hk
   rw [hk] at hr
   obtain ⟨B, hB, he⟩ := hr
   have he : tm.getD p undef = .pointer (some ⟨B, off, none⟩) := he
   split at hv
   ·rename_i l hl
    obtain ⟨l2, e2, A⟩ := R.arr k B hB
    rw [hl] at e2
    cases e2
    have r1 := loadV_run hv A
    simp only [resF]
    rw [he]
    simp [asAddr, r1]
   ·cases hv
  ·cases hv
theorem resL_run (F : FR bl vt tm) (R : RW bs w0 bl m w) : ∀ (rs : List ResultVar) (vs : List Value), resL P vt m rs = some vs → (rs.mapM (resF tm)).run P w = .ok vs w
 | [], vs, h => by
  cases h
  simp
 | r :: rs, vs, h => by
  unfold resL at h
  split at h
  ·rename_i v us hv hus
   have e := Option.some.inj h
   have ih := resL_run F R rs us hus
   have h1 := resOne_run F R hv
   rw [List.mapM_cons]
   simp only [Sem.run_bind, h1, Result.andThen_ok, ih, ← e]
   rfl
  ·cases h
theorem results_eq (fn : Func) (tm : Array Value) : results fn tm = (do let vs ← fn.results.mapM (resF tm); pure (if h : vs.size = 1 then vs[0] else .tuple vs)) := rfl
theorem resV_run {fn : Func} {v : Value} (F : FR bl vt tm) (R : RW bs w0 bl m w) (h : resV P fn vt m = some v) : (results fn tm).run P w = .ok v w := by
 unfold resV at h
 rw [results_eq, Array.mapM_eq_mapM_toList]
 cases hvs : resL P vt m fn.results.toList with
 | none => rw [hvs] at h; cases h
 | some vs =>
  have r := resL_run F R _ _ hvs
  rw [hvs] at h
  simp only [Sem.run_bind, Sem.run_map, r, Result.andThen_ok]
  match vs, h with
  | [u], h =>
   cases h
   simp
  | [], h =>
   cases h
   simp
  | x :: y :: zs, h =>
   cases h
   simp
end
end Go.Proofs.YtbophanlmkbfeaaGreatDoor
namespace Go.Proofs.YtbophanlmkbfeaaGreatDoor
open Go.RowKit
theorem arr_fl {b : Nat} {bad : Bool} {w : World} (h : Fl b bad w) : Arr b [.bool bad] w :=
 ⟨fun i hi => by
  have : i = 0 := by simp at hi; omega
  subst this
  exact h.cell, fun i hi => by
  have : i = 0 := by simp at hi; omega
  subst this
  exact h.free, h.lies⟩
theorem fl_arr {b : Nat} {bad : Bool} {w : World} (h : Arr b [.bool bad] w) : Fl b bad w := ⟨h.c 0 (by simp), h.f 0 (by simp), h.lies⟩
structure Dc (A : Type) where
 enc : A → Value
 dec : Value → Option A
 law : ∀ v x, dec v = some x → v = enc x
 np : ∀ x, isP (enc x) = false
structure Dl (A : Type) where
 enc : A → List Value
 dec : List Value → Option A
 law : ∀ v x, dec v = some x → v = enc x
 np : ∀ x, ∀ v ∈ enc x, isP v = false
def cI : Dc Int where
 enc x := .int .i64 x
 dec v := match v with
  | .int .i64 x => some x
  | _ => none
 law v x h := by
  split at h
  ·cases h; rfl
  ·cases h
 np _ := rfl
def cB : Dc Bool where
 enc x := .bool x
 dec v := match v with
  | .bool x => some x
  | _ => none
 law v x h := by
  split at h
  ·cases h; rfl
  ·cases h
 np _ := rfl
def cU : Dc Unit where
 enc _ := .tuple #[]
 dec v := match v with
  | .tuple ⟨[]⟩ => some ()
  | _ => none
 law v x h := by
  split at h
  ·rfl
  ·cases h
 np _ := rfl
def two' {A B : Type} (c : Dc A) (d : Dc B) : Dc (A × B) where
 enc p := .tuple #[c.enc p.1, d.enc p.2]
 dec v := match v with
  | .tuple ⟨[x, y]⟩ => (match c.dec x, d.dec y with
   | some a, some b => some (a, b)
   | _, _ => none)
  | _ => none
 law v x h := by
  split at h
  ·split at h
   ·rename_i h1 h2
    cases h
    rw [c.law _ _ h1, d.law _ _ h2]
   ·cases h
  ·cases h
 np _ := rfl
def lone' {A : Type} (c : Dc A) : Dl A where
 enc x := [c.enc x]
 dec l := match l with
  | [v] => c.dec v
  | _ => none
 law v x h := by
  split at h
  ·rw [c.law _ _ h]
  ·cases h
 np x v hv := by
  rw [List.mem_singleton] at hv
  rw [hv]
  exact c.np x
def then' {A B : Type} (c : Dc A) (d : Dl B) : Dl (A × B) where
 enc x := c.enc x.1 :: d.enc x.2
 dec l := match l with
  | v :: vs => (match c.dec v, d.dec vs with
   | some a, some b => some (a, b)
   | _, _ => none)
  | [] => none
 law v x h := by
  split at h
  ·split at h
   ·rename_i h1 h2
    cases h
    rw [c.law _ _ h1, d.law _ _ h2]
   ·cases h
  ·cases h
 np x v hv := by
  rcases List.mem_cons.1 hv with e | e
  ·rw [e]; exact c.np x.1
  ·exact d.np x.2 v e
def none' : Dl Unit where
 enc _ := []
 dec l := match l with
  | [] => some ()
  | _ => none
 law v x h := by
  split at h
  ·rfl
  ·cases h
 np x v hv := by cases hv
def ptr (b : Nat) : Value := .pointer (some ⟨b, 0, none⟩)
def PK {R : Type} (k : Dc R) (Post : Value → Option Bool → Prop) (r : R × Bool) : Prop := Post (k.enc r.1) (some r.2)
def PJ {R : Type} (k : Dc R) (Post : Value → Prop) (r : R) : Prop := Post (k.enc r)
def FlowOk (P : Program) (fn : Nat) {A R : Type} (d : Dl A) (g : Bool → A → R × Bool) (c : Dc R) : Prop :=
 ∀ b bad x w, GW w → 1 < b → Fl b bad w → Calls P fn (ptr b :: d.enc x).toArray w fun e w' => e = .returned (c.enc (g bad x).1) ∧ Fl b (g bad x).2 w' ∧ Kept b w w'
def PureOk (P : Program) (fn : Nat) {A R : Type} (d : Dl A) (g : A → R) (c : Dc R) : Prop :=
 ∀ x w, GW w → Calls P fn (d.enc x).toArray w fun e w' => e = .returned (c.enc (g x)) ∧ Below w.heap.size w w'
def retQ (P : Program) (fn : Func) (Post : Value → Xm → Prop) : VQ := fun e vt m =>
 match e with
 | .normal => (match resV P fn vt m with
  | some v => Post v m
  | none => False)
 | .ret => (match resV P fn vt m with
  | some v => Post v m
  | none => False)
 | _ => False
section
variable {P : Program} {tbl : List (Ct P)} {dirty : Nat → List Nat} {n : Nat}
theorem calls_sx (hm : P.follows .mixedOrders = true) {f : Nat} {fn : Func} {c : Code} (hf : P.funcs[f]? = some fn) (hb : fn.body = some c) {bs : List Nat} {w : World} {bl : Bl} {m : Xm} {vargs : List Value} {args : Array Value}
    (R : RW bs w bl m w) (hl : bl.length = m.length) (hs : args.size = vargs.length) (hv : ∀ i, RV bl (vargs.getD i undef) (args.getD i undef)) {Post : Value → Xm → Prop}
    (h : swp P tbl dirty n c (retQ P fn Post) (vargs ++ List.replicate (fn.ntmps - vargs.length) undef) m) :
    Calls P f args w fun e w' => ∃ v bl' m', e = .returned v ∧ Post v m' ∧ RW bs w bl' m' w' ∧ Le bl bl' := by
 refine calls_of_wp hf hb (swp_sound (ds := []) (bl0 := bl) hm c _ _ bl _ m _ w ?_ h ⟨⟨?_, ?_⟩, R, Le.refl _, hl, rfl⟩)
 ·intro e bl' vt' m' a' w' h' r'
  cases e with
  | normal =>
   simp only [retQ] at h'
   split at h'
   ·rename_i v hv
    exact ⟨r'.defers, v, resV_run r'.F r'.R hv, v, bl', m', rfl, h', r'.R, r'.le⟩
   ·exact h'.elim
  | ret =>
   simp only [retQ] at h'
   split at h'
   ·rename_i v hv
    exact ⟨r'.defers, v, resV_run r'.F r'.R hv, v, bl', m', rfl, h', r'.R, r'.le⟩
   ·exact h'.elim
  | exit id => exact h'.elim
  | goto l => exact h'.elim
  | panic ch => exact h'.elim
  | outgrown => exact h'.elim
 ·simp [hs]
 ·intro t
  by_cases ht : t < vargs.length
  ·have := hv t
   simp only [List.getD_eq_getElem?_getD, Array.getD_eq_getD_getElem?] at this ⊢
   rw [List.getElem?_append_left ht, Array.getElem?_append_left (by omega)]
   exact this
  ·simp only [List.getD_eq_getElem?_getD, Array.getD_eq_getD_getElem?]
   rw [List.getElem?_append_right (by omega), Array.getElem?_append_right (by omega), hs]
   by_cases h2 : t - vargs.length < fn.ntmps - vargs.length
   ·rw [List.getElem?_eq_getElem (by simpa using h2), Array.getElem?_eq_getElem (by simpa using h2)]
    simp
    rfl
   ·rw [List.getElem?_eq_none (by simpa using h2), Array.getElem?_eq_none (by simpa using h2)]
    rfl
def flagOf : Xm → Option Bool
 | [.bool b] :: _ => some b
 | _ => none
theorem flagOf_some {m : Xm} {b : Bool} (h : flagOf m = some b) : m[0]? = some [.bool b] := by
 unfold flagOf at h
 split at h
 ·cases h; rfl
 ·cases h
theorem flow_sx (hm : P.follows .mixedOrders = true) {f : Nat} {fn : Func} {c : Code} (hf : P.funcs[f]? = some fn) (hb : fn.body = some c) {A R : Type} {d : Dl A} {g : Bool → A → R × Bool} {k : Dc R}
    (h : ∀ (bad : Bool) (x : A) (Post : Value → Option Bool → Prop), swp P tbl dirty n c (retQ P fn (fun v m => Post v (flagOf m))) ((ptr 0 :: d.enc x) ++ List.replicate (fn.ntmps - (ptr 0 :: d.enc x).length) undef) [[.bool bad]] = PK k Post (g bad x)) : FlowOk P f d g k := by
 intro b bad x w hg hb1 hw
 have R : RW [b] w [some b] [[.bool bad]] w := by
  refine ⟨fun i B hi => ?_, fun i j B hi hj => ?_, fun i B hi => ?_, rfl, rfl, rfl, Nat.le_refl _, fun _ _ _ => rfl, hg, by simpa using hb1⟩
  ·match i, hi with
   | 0, hi => cases hi; exact ⟨_, rfl, arr_fl hw⟩
  ·match i, j, hi, hj with
   | 0, 0, _, _ => rfl
  ·match i, hi with
   | 0, hi => cases hi; exact .inl List.mem_cons_self
 refine Calls.mono (calls_sx hm hf hb (vargs := ptr 0 :: d.enc x) R rfl (by simp) (fun i => ?_) (Eq.mpr (h bad x (fun v o => v = k.enc (g bad x).1 ∧ o = some (g bad x).2)) (show _ ∧ _ from ⟨rfl, rfl⟩))) ?_
 ·cases i with
  | zero => exact ⟨b, rfl, rfl⟩
  | succ i =>
   by_cases hi : i < (d.enc x).length
   ·have := d.np x _ (List.getElem_mem hi)
    simp only [List.getD_eq_getElem?_getD, Array.getD_eq_getD_getElem?]
    simp [hi]
    exact .same this
   ·simp only [List.getD_eq_getElem?_getD, Array.getD_eq_getD_getElem?]
    simp [hi]
    rfl
 ·rintro e w' ⟨v, bl', m2, rfl, ⟨rfl, h2⟩, R', hle⟩
  obtain ⟨l, e, A⟩ := R'.arr 0 b (hle 0 b rfl)
  rw [flagOf_some h2] at e
  cases e
  exact ⟨rfl, fl_arr A, R'.os, R'.tape, R'.output, R'.size, fun i hi hb => R'.block i hi (by simpa using hb)⟩
theorem pure_sx (hm : P.follows .mixedOrders = true) {f : Nat} {fn : Func} {c : Code} (hf : P.funcs[f]? = some fn) (hb : fn.body = some c) {A R : Type} {d : Dl A} {g : A → R} {k : Dc R}
    (h : ∀ (x : A) (Post : Value → Prop), swp P tbl dirty n c (retQ P fn (fun v _ => Post v)) (d.enc x ++ List.replicate (fn.ntmps - (d.enc x).length) undef) [] = PJ k Post (g x)) : PureOk P f d g k := by
 intro x w hg
 have R : RW [] w [] [] w := ⟨fun i B hi => (by cases hi), fun i j B hi => (by cases hi), fun i B hi => (by cases hi), rfl, rfl, rfl, Nat.le_refl _, fun _ _ _ => rfl, hg, fun b hb => by cases hb⟩
 refine Calls.mono (calls_sx hm hf hb (vargs := d.enc x) R rfl (by simp) (fun i => ?_) (Eq.mpr (h x (fun v => v = k.enc (g x))) (show _ = _ from rfl))) ?_
 ·by_cases hi : i < (d.enc x).length
  ·have := d.np x _ (List.getElem_mem hi)
   simp only [List.getD_eq_getElem?_getD, Array.getD_eq_getD_getElem?]
   simp [hi]
   exact .same this
  ·simp only [List.getD_eq_getElem?_getD, Array.getD_eq_getD_getElem?]
   simp [hi]
   rfl
 ·rintro e w' ⟨v, bl', m2, rfl, rfl, R', _⟩
  exact ⟨rfl, R'.os, R'.tape, R'.output, R'.size, fun i hi => R'.block i hi (by simp)⟩
end
theorem RW.flow {bs : List Nat} {w0 : World} {bl : Bl} {m : Xm} {w w' : World} (h : RW bs w0 bl m w) {k B : Nat} {bad bad' : Bool} (hk : bl[k]? = some (some B)) (hm : m[k]? = some [.bool bad]) (F : Fl B bad' w') (K : Kept B w w') : RW bs w0 bl (m.set k [.bool bad']) w' := by
 have hkl : k < m.length := (List.getElem?_eq_some_iff.1 hm).1
 refine ⟨fun k' B' hk' => ?_, h.inj, fun k' B' hk' => (h.own k' B' hk').imp id (Or.imp id fun e => none_set e (fun e2 => by subst e2; rw [hm] at e; cases e)), K.os.trans h.os, K.tape.trans h.tape, K.output.trans h.output, Nat.le_trans h.size K.size, fun i hi hb => ?_, h.gw⟩
 ·by_cases e : k = k'
  ·subst e
   rw [hk] at hk'
   cases hk'
   exact ⟨_, List.getElem?_set_self hkl, arr_fl F⟩
  ·obtain ⟨l2, e2, A2⟩ := h.arr k' B' hk'
   exact ⟨l2, by rw [List.getElem?_set_ne e]; exact e2, A2.kept K (fun e3 => e (h.inj k k' B hk (e3 ▸ hk')))⟩
 ·have hB : i ≠ B := by
   rintro rfl
   rcases h.own k i hk with hb' | hb' | hb'
   ·exact hb hb'
   ·omega
   ·rw [hm] at hb'
    cases hb'
  rw [K.block i (by have := h.size; omega) hB]
  exact h.block i hi hb
theorem RW.pure {bs : List Nat} {w0 : World} {bl : Bl} {m : Xm} {w w' : World} (h : RW bs w0 bl m w) (K : Below w.heap.size w w') : RW bs w0 bl m w' :=
 ⟨fun k B hk => let ⟨l, h1, A⟩ := h.arr k B hk; ⟨l, h1, A.below K⟩, h.inj, h.own, K.os.trans h.os, K.tape.trans h.tape, K.output.trans h.output, Nat.le_trans h.size K.size, fun i hi hb => by
  rw [K.block i (by have := h.size; omega)]
  exact h.block i hi hb, h.gw⟩
theorem args_same {bl : Bl} {l : List Value} {args' : Array Value} (hs : args'.size = l.length) (hv : ∀ i, RV bl (l.getD i undef) (args'.getD i undef)) (hp : ∀ v ∈ l, isP v = false) : args' = l.toArray := by
 refine Array.ext (by simp [hs]) (fun i h1 h2 => ?_)
 have hi : i < l.length := by omega
 have := hv i
 simp only [List.getD_eq_getElem?_getD, Array.getD_eq_getD_getElem?] at this
 rw [List.getElem?_eq_getElem hi, Array.getElem?_eq_getElem h1] at this
 simpa using this.plain (hp _ (List.getElem_mem hi))
def flowCt (P : Program) (fn : Nat) {A R : Type} (d : Dl A) (g : Bool → A → R × Bool) (c : Dc R) (go : ∀ (args : Array Value) (w : World), (callFunc fn args).run P w = .ok (.enter fn args) w) (h : FlowOk P fn d g c) : Ct P where
 fn := fn
 sp := fun args m K => match args with
  | .pointer (some ⟨k, 0, none⟩) :: rest => (match d.dec rest, m[k]? with
   | some x, some [.bool bad] => K (c.enc (g bad x).1) (m.set k [.bool (g bad x).2])
   | _, _ => False)
  | _ => False
 go := go
 mono := fun hK hs => by
  split at hs
  ·split at hs
   ·exact hK _ _ hs
   ·exact hs
  ·exact hs
 keep := fun {args m K} hs => by
  split at hs
  ·rename_i k rest
   split at hs
   ·refine ⟨hs, List.length_set .., fun k' hk' => ?_⟩
    have e : k ≠ k' := by rintro rfl; exact hk' (by simp [ptrs])
    rw [List.getElem?_set_ne e]
   ·exact hs
  ·exact hs
 ok := fun {bs w0 bl m w args args' K} R hlen hv hs => by
  split at hs
  ·rename_i k rest
   split at hs
   ·rename_i x bad hd hmk
    have h0 := hv 0
    obtain ⟨B, hB, he⟩ := h0
    have hrest := d.law _ _ hd
    have hargs : args' = (ptr B :: d.enc x).toArray := by
     refine Array.ext (by rw [hlen, hrest]; simp) (fun i h1 h2 => ?_)
     cases i with
     | zero =>
      simp only [Array.getD_eq_getD_getElem?, Array.getElem?_eq_getElem h1] at he
      simpa [ptr] using he
     | succ i =>
      have hi : i < rest.length := by simp at hlen; omega
      have := hv (i + 1)
      simp only [List.getD_eq_getElem?_getD, Array.getD_eq_getD_getElem?, List.getElem?_cons_succ] at this
      rw [List.getElem?_eq_getElem hi, Array.getElem?_eq_getElem h1] at this
      have e := this.plain (d.np x _ (by rw [← hrest]; exact List.getElem_mem hi))
      simp only [Option.getD_some] at e
      rw [e]
      simp [hrest]
    obtain ⟨l2, e2, A⟩ := R.arr k B hB
    have e2 : m[k]? = some l2 := e2
    rw [hmk] at e2
    cases e2
    rw [hargs]
    refine Calls.mono (h B bad x w R.gwAt (R.gt hB hmk (List.cons_ne_nil _ _)) (fl_arr A)) ?_
    rintro e w' ⟨rfl, F, Kp⟩
    exact ⟨_, _, _, rfl, .same (c.np _), hs, R.flow hB hmk F Kp⟩
   ·exact hs.elim
  ·exact hs.elim
def pureCt (P : Program) (fn : Nat) {A R : Type} (d : Dl A) (g : A → R) (c : Dc R) (go : ∀ (args : Array Value) (w : World), (callFunc fn args).run P w = .ok (.enter fn args) w) (h : PureOk P fn d g c) : Ct P where
 fn := fn
 sp := fun args m K => match d.dec args with
  | some x => K (c.enc (g x)) m
  | none => False
 go := go
 mono := fun hK hs => by
  split at hs
  ·exact hK _ _ hs
  ·exact hs
 keep := fun {args m K} hs => by
  split at hs
  ·exact ⟨hs, rfl, fun _ _ => rfl⟩
  ·exact hs
 ok := fun {bs w0 bl m w args args' K} R hlen hv hs => by
  split at hs
  ·rename_i x hd
   have hl := d.law _ _ hd
   rw [args_same hlen hv (by rw [hl]; exact d.np x), hl]
   refine Calls.mono (h x w R.gwAt) ?_
   rintro e w' ⟨rfl, Kp⟩
   exact ⟨_, _, _, rfl, .same (c.np _), hs, R.pure Kp⟩
  ·exact hs.elim
theorem go_of {P : Program} {f : Nat} {fn : Func} (hf : P.funcs[f]? = some fn) (h : (fn.name == "runtime.NumGoroutine") = false) (hb : fn.body.isNone = false) (args : Array Value) (w : World) : (callFunc f args).run P w = .ok (.enter f args) w := by
 have h1 : fn.name ≠ "runtime.NumGoroutine" := by simpa using h
 have h2 : fn.body ≠ none := fun e => by rw [e] at hb; cases hb
 unfold callFunc
 simp [program, Sem.run, hf, h1, h2]
end Go.Proofs.YtbophanlmkbfeaaGreatDoor
namespace Go.Proofs.YtbophanlmkbfeaaGreatDoor
open Go.RowKit
abbrev Ov := Nat → Option (Array Oper → Bool → (List Value → Xm → Prop) → List Value → Xm → Prop)
def swpO (P : Program) (tbl : List (Ct P)) (dirty : Nat → List Nat) (n : Nat) (ov : Ov) : Code → VQ → List Value → Xm → Prop
 | .skip, Q, vt, m => Q .normal vt m
 | .region id ops draw, Q, vt, m => (match ov id with
  | some R => R ops draw (Q .normal) vt m
  | none => vregion P tbl dirty id ops draw (Q .normal) vt m)
 | .seq x y, Q, vt, m => swpO P tbl dirty n ov x (fun e vt' m' => match e with
  | .normal => swpO P tbl dirty n ov y Q vt' m'
  | e => Q e vt' m') vt m
 | .cond c x y, Q, vt, m => (match okX c, VE vt c with
  | true, .bool b => vif b (swpO P tbl dirty n ov x Q (vset vt c true) m) (swpO P tbl dirty n ov y Q (vset vt c false) m)
  | _, _ => False)
 | .block id c, Q, vt, m => swpO P tbl dirty n ov c (fun e vt' m' => match e with
  | .exit id' => if id' = id then Q .normal vt' m' else Q (.exit id') vt' m'
  | e => Q e vt' m') vt m
 | .loop c, Q, vt, m => loopN n (swpO P tbl dirty n ov c) Q vt m
 | .exit id, Q, vt, m => Q (.exit id) vt m
 | .label _, Q, vt, m => Q .normal vt m
 | .ret, Q, vt, m => Q .ret vt m
 | _, _, _, _ => False
def OvOk (P : Program) (ov : Ov) (bs : List Nat) (w0 : World) (ds : List Deferred) (bl0 : Bl) : Code → Prop
 | .region id ops draw => ∀ R, ov id = some R → ∀ (K : List Value → Xm → Prop) (Q : Exit → Act → World → Prop) (bl : Bl) (vt : List Value) (m : Xm) (a : Act) (w : World), R ops draw K vt m → Rl bs w0 ds bl0 bl vt m a w → (∀ bl vt m a w, K vt m → Rl bs w0 ds bl0 bl vt m a w → Q .normal a w) → (Code.region id ops draw).wp P Q a w
 | .seq x y => OvOk P ov bs w0 ds bl0 x ∧ OvOk P ov bs w0 ds bl0 y
 | .cond _ x y => OvOk P ov bs w0 ds bl0 x ∧ OvOk P ov bs w0 ds bl0 y
 | .block _ c => OvOk P ov bs w0 ds bl0 c
 | .loop c => OvOk P ov bs w0 ds bl0 c
 | _ => True
section
variable {P : Program} {tbl : List (Ct P)} {bs : List Nat} {w0 : World} {ds : List Deferred} {dirty : Nat → List Nat} {n : Nat} {bl0 : Bl} {ov : Ov}
theorem swpO_sound (hm : P.follows .mixedOrders = true) : ∀ (c : Code) (Q : VQ) (Q' : Exit → Act → World → Prop) (bl : Bl) (vt : List Value) (m : Xm) (a : Act) (w : World), OvOk P ov bs w0 ds bl0 c → Stands bs w0 ds bl0 Q Q' → swpO P tbl dirty n ov c Q vt m → Rl bs w0 ds bl0 bl vt m a w → c.wp P Q' a w := by
 intro c
 induction c with
 | skip => intro Q Q' bl vt m a w _ hQ h r; exact wp_skip (hQ _ bl vt m a w h r)
 | region id ops draw =>
  intro Q Q' bl vt m a w ho hQ h r
  unfold swpO at h
  split at h
  ·rename_i R hR
   exact ho R hR _ Q' bl vt m a w h r (fun bl vt m a w hk hr => hQ _ bl vt m a w hk hr)
  ·exact vregion_sound hm (fun bl vt m a w hk hr => hQ _ bl vt m a w hk hr) h r
 | seq x y ihx ihy =>
  intro Q Q' bl vt m a w ho hQ h r
  refine wp_seq (ihx _ _ bl vt m a w ho.1 ?_ h r)
  intro e bl' vt' m' a' w' h' r'
  cases e with
  | normal => exact ihy Q Q' bl' vt' m' a' w' ho.2 hQ h' r'
  | exit id => exact hQ _ bl' vt' m' a' w' h' r'
  | goto l => exact hQ _ bl' vt' m' a' w' h' r'
  | ret => exact hQ _ bl' vt' m' a' w' h' r'
  | panic ch => exact hQ _ bl' vt' m' a' w' h' r'
  | outgrown => exact hQ _ bl' vt' m' a' w' h' r'
 | cond c x y ihx ihy =>
  intro Q Q' bl vt m a w ho hQ h r
  unfold swpO at h
  split at h
  ·rename_i b hok hb
   have hv := r.F.eval hok
   rw [hb] at hv
   have hv : a.eval c = .bool b := hv
   refine wp_cond_split hv (fun e => ?_) (fun e => ?_)
   ·subst e; exact ihx Q Q' bl _ m a w ho.1 hQ h ⟨r.F.vset hb, r.R, r.le, r.len, r.defers⟩
   ·subst e; exact ihy Q Q' bl _ m a w ho.2 hQ h ⟨r.F.vset hb, r.R, r.le, r.len, r.defers⟩
  ·exact h.elim
 | block id c ih =>
  intro Q Q' bl vt m a w ho hQ h r
  refine wp_block (ih _ _ bl vt m a w ho ?_ h r)
  intro e bl' vt' m' a' w' h' r'
  cases e with
  | exit id' =>
   dsimp only at h'
   unfold Exit.inBlock
   dsimp only
   split at h'
   ·rename_i e
    rw [if_pos e]
    exact hQ _ bl' vt' m' a' w' h' r'
   ·rename_i e
    rw [if_neg e]
    exact hQ _ bl' vt' m' a' w' h' r'
  | normal => exact hQ _ bl' vt' m' a' w' h' r'
  | goto l => exact hQ _ bl' vt' m' a' w' h' r'
  | ret => exact hQ _ bl' vt' m' a' w' h' r'
  | panic ch => exact hQ _ bl' vt' m' a' w' h' r'
  | outgrown => exact hQ _ bl' vt' m' a' w' h' r'
 | loop c ih =>
  intro Q Q' bl vt m a w ho hQ h r
  refine wp_loop_rounds n ?_
  have key : ∀ k bl vt m a w, loopN k (swpO P tbl dirty n ov c) Q vt m → Rl bs w0 ds bl0 bl vt m a w → Code.rounds P c Q' k a w := by
   intro k
   induction k with
   | zero => intro bl vt m a w h _; exact h
   | succ k ihk =>
    intro bl vt m a w h r
    refine ih _ _ bl vt m a w ho ?_ h r
    intro e bl' vt' m' a' w' h' r'
    cases e with
    | normal => exact ihk bl' vt' m' a' w' h' r'
    | exit id => exact hQ _ bl' vt' m' a' w' h' r'
    | goto l => exact hQ _ bl' vt' m' a' w' h' r'
    | ret => exact hQ _ bl' vt' m' a' w' h' r'
    | panic ch => exact hQ _ bl' vt' m' a' w' h' r'
    | outgrown => exact hQ _ bl' vt' m' a' w' h' r'
  exact key n bl vt m a w h r
 | exit id => intro Q Q' bl vt m a w _ hQ h r; exact wp_exit (hQ _ bl vt m a w h r)
 | label l => intro Q Q' bl vt m a w _ hQ h r; exact wp_label (hQ _ bl vt m a w h r)
 | ret => intro Q Q' bl vt m a w _ hQ h r; exact wp_ret (hQ _ bl vt m a w h r)
 | goto l => intro Q Q' bl vt m a w _ _ h _; exact h.elim
 | scope c _ => intro Q Q' bl vt m a w _ _ h _; exact h.elim
 | refuse s => intro Q Q' bl vt m a w _ _ h _; exact h.elim
 | rangeFunc f ps x y _ _ => intro Q Q' bl vt m a w _ _ h _; exact h.elim
end
section
variable {P : Program} {tbl : List (Ct P)} {dirty : Nat → List Nat} {n : Nat} {ov : Ov}
theorem calls_sxO (hm : P.follows .mixedOrders = true) {f : Nat} {fn : Func} {c : Code} (hf : P.funcs[f]? = some fn) (hb : fn.body = some c) {bs : List Nat} {w : World} {bl : Bl} {m : Xm} {vargs : List Value} {args : Array Value}
    (R : RW bs w bl m w) (hl : bl.length = m.length) (hs : args.size = vargs.length) (hv : ∀ i, RV bl (vargs.getD i undef) (args.getD i undef)) {Post : Value → Xm → Prop}
    (ho : OvOk P ov bs w [] bl c) (h : swpO P tbl dirty n ov c (retQ P fn Post) (vargs ++ List.replicate (fn.ntmps - vargs.length) undef) m) :
    Calls P f args w fun e w' => ∃ v bl' m', e = .returned v ∧ Post v m' ∧ RW bs w bl' m' w' ∧ Le bl bl' := by
 refine calls_of_wp hf hb (swpO_sound (ds := []) (bl0 := bl) hm c _ _ bl _ m _ w ho ?_ h ⟨⟨?_, ?_⟩, R, Le.refl _, hl, rfl⟩)
 ·intro e bl' vt' m' a' w' h' r'
  cases e with
  | normal =>
   simp only [retQ] at h'
   split at h'
   ·rename_i v hv
    exact ⟨r'.defers, v, resV_run r'.F r'.R hv, v, bl', m', rfl, h', r'.R, r'.le⟩
   ·exact h'.elim
  | ret =>
   simp only [retQ] at h'
   split at h'
   ·rename_i v hv
    exact ⟨r'.defers, v, resV_run r'.F r'.R hv, v, bl', m', rfl, h', r'.R, r'.le⟩
   ·exact h'.elim
  | exit id => exact h'.elim
  | goto l => exact h'.elim
  | panic ch => exact h'.elim
  | outgrown => exact h'.elim
 ·simp [hs]
 ·intro t
  by_cases ht : t < vargs.length
  ·have := hv t
   simp only [List.getD_eq_getElem?_getD, Array.getD_eq_getD_getElem?] at this ⊢
   rw [List.getElem?_append_left ht, Array.getElem?_append_left (by omega)]
   exact this
  ·simp only [List.getD_eq_getElem?_getD, Array.getD_eq_getD_getElem?]
   rw [List.getElem?_append_right (by omega), Array.getElem?_append_right (by omega), hs]
   by_cases h2 : t - vargs.length < fn.ntmps - vargs.length
   ·rw [List.getElem?_eq_getElem (by simpa using h2), Array.getElem?_eq_getElem (by simpa using h2)]
    simp
    rfl
   ·rw [List.getElem?_eq_none (by simpa using h2), Array.getElem?_eq_none (by simpa using h2)]
    rfl
end
end Go.Proofs.YtbophanlmkbfeaaGreatDoor
namespace Go.Proofs.YtbophanlmkbfeaaGreatDoor
open Go.RowKit
def dimv : Value → Value
 | .bool b => .bool b
 | _ => .nilIface
theorem RV.dim {bl bl' : Bl} {v v' : Value} (h : RV bl v v') : RV bl' (dimv v) v' := by
 cases hp : isP v
 ·rw [h.plain hp]
  cases v <;> rfl
 ·match v, h, hp with
  | .pointer (some a), ⟨B, _, e⟩, _ => rw [e]; rfl
  | .nilIface, h, _ => exact h
  | .slice (some a) _ _, ⟨B, _, e⟩, _ => rw [e]; rfl
def frm (ks : List (Nat × Value)) (d : Nat → Value) (n : Nat) : List Value := (List.range n).map fun j => match ks.lookup j with
 | some v => v
 | none => dimv (d j)
def ptrOk (k : Nat) : Value → Bool
 | .pointer (some a) => decide (a.block < k)
 | .slice (some a) _ _ => decide (a.block < k)
 | _ => true
theorem RV.cut {bl : Bl} {k : Nat} {v v' : Value} (h : RV bl v v') (hp : ptrOk k v = true) : RV (bl.take k) v v' := by
 cases hi : isP v
 ·rw [h.plain hi]
  exact .same hi
 ·match v, h, hi, hp with
  | .pointer (some a), ⟨B, h1, e⟩, _, hp =>
   have hp : a.block < k := of_decide_eq_true hp
   exact ⟨B, by rw [List.getElem?_take_of_lt hp]; exact h1, e⟩
  | .nilIface, h, _, _ => exact h
  | .slice (some a) _ _, ⟨B, h1, e⟩, _, hp =>
   have hp : a.block < k := of_decide_eq_true hp
   exact ⟨B, by rw [List.getElem?_take_of_lt hp]; exact h1, e⟩
theorem take_at' {bl : Bl} {k i B : Nat} (h : (bl.take k)[i]? = some (some B)) : i < k ∧ bl[i]? = some (some B) := by
 have hl := (List.getElem?_eq_some_iff.1 h).1
 rw [List.length_take] at hl
 have hk : i < k := by omega
 rw [List.getElem?_take_of_lt hk] at h
 exact ⟨hk, h⟩
theorem RW.cut {bs : List Nat} {w0 : World} {bl : Bl} {m : Xm} {w : World} (h : RW bs w0 bl m w) (k : Nat) : RW bs w0 (bl.take k) (m.take k) w := by
 refine ⟨fun i B hi => ?_, fun i j B hi hj => h.inj i j B (take_at' hi).2 (take_at' hj).2, fun i B hi => (h.own i B (take_at' hi).2).imp id (Or.imp id fun e => by rw [List.getElem?_take_of_lt (take_at' hi).1]; exact e), h.os, h.tape, h.output, h.size, h.block, h.gw⟩
 obtain ⟨hk, hi⟩ := take_at' hi
 obtain ⟨l, h1, A⟩ := h.arr i B hi
 exact ⟨l, by rw [List.getElem?_take_of_lt hk]; exact h1, A⟩
theorem lookup_of (f : Nat → Value) (j : Nat) : ∀ ks : List Nat, (ks.map fun i => (i, f i)).lookup j = if j ∈ ks then some (f j) else none
 | [] => rfl
 | k :: ks => by
  by_cases e : j = k
  ·subst e
   simp
  ·have e' : (j == k) = false := by simpa using e
   have ih := lookup_of f j ks
   simp only [List.map_cons, List.lookup, e', ih, List.mem_cons, e, false_or]
theorem FR.cut {bl : Bl} {vt : List Value} {tm : Array Value} (h : FR bl vt tm) {n k : Nat} {ks : List Nat} (hn : vt.length = n) (hp : (ks.all fun j => ptrOk k (vt.getD j undef)) = true) :
    FR (bl.take k) (frm (ks.map fun j => (j, vt.getD j undef)) (fun j => vt.getD j undef) n) tm := by
 refine ⟨by unfold frm; simp [h.len, hn], fun t => ?_⟩
 have h1 := h.rv t
 unfold frm
 by_cases ht : t < n
 ·rw [List.getD_eq_getElem?_getD, List.getElem?_map, List.getElem?_range ht]
  simp only [Option.map_some, Option.getD_some, lookup_of]
  by_cases e : t ∈ ks
  ·rw [if_pos e]
   exact h1.cut (List.all_eq_true.1 hp t e)
  ·rw [if_neg e]
   exact h1.dim
 ·rw [List.getD_eq_getElem?_getD, List.getElem?_eq_none (by simp; omega)]
  rw [List.getD_eq_getElem?_getD, List.getElem?_eq_none (by omega)] at h1
  exact h1.cut rfl
def forget (ks : List Nat) (n k : Nat) (K : List Value → Xm → Prop) : List Value → Xm → Prop := fun vt m =>
 vt.length = n ∧ (ks.all fun j => ptrOk k (vt.getD j undef)) = true ∧ ∀ d, K (frm (ks.map fun j => (j, vt.getD j undef)) d n) (m.take k)
section
variable {P : Program} {tbl : List (Ct P)} {bs : List Nat} {w0 : World} {ds : List Deferred} {dirty : Nat → List Nat} {bl0 : Bl}
theorem Rl.cut {bl : Bl} {vt : List Value} {m : Xm} {a : Act} {w : World} (r : Rl bs w0 ds bl0 bl vt m a w) {ks : List Nat} {n k : Nat} (hb : bl0.length ≤ k) {K : List Value → Xm → Prop} (h : forget ks n k K vt m) :
    ∃ bl' vt' m', K vt' m' ∧ Rl bs w0 ds bl0 bl' vt' m' a w := by
 refine ⟨bl.take k, _, m.take k, h.2.2 (fun j => vt.getD j undef), r.F.cut h.1 h.2.1, r.R.cut k, fun i B hi => ?_, by rw [List.length_take, List.length_take, r.len], r.defers⟩
 have hl := (List.getElem?_eq_some_iff.1 hi).1
 rw [List.getElem?_take_of_lt (by omega)]
 exact r.le i B hi
def cutBy (P : Program) (tbl : List (Ct P)) (dirty : Nat → List Nat) (id : Nat) (ks : List Nat) (n k : Nat) (ops : Array Oper) (draw : Bool) (K : List Value → Xm → Prop) (vt : List Value) (m : Xm) : Prop :=
 vregion P tbl dirty id ops draw (forget ks n k K) vt m
theorem cutBy_sound (hm : P.follows .mixedOrders = true) {id : Nat} {ks : List Nat} {n k : Nat} (hb : bl0.length ≤ k) {ops : Array Oper} {draw : Bool} {K : List Value → Xm → Prop} {Q : Exit → Act → World → Prop} {bl : Bl} {vt : List Value} {m : Xm} {a : Act} {w : World}
    (h : cutBy P tbl dirty id ks n k ops draw K vt m) (r : Rl bs w0 ds bl0 bl vt m a w) (hK : ∀ bl vt m a w, K vt m → Rl bs w0 ds bl0 bl vt m a w → Q .normal a w) : (Code.region id ops draw).wp P Q a w := by
 refine vregion_sound hm (fun bl vt m a w hk hr => ?_) h r
 obtain ⟨bl', vt', m', h1, h2⟩ := hr.cut hb hk
 exact hK bl' vt' m' a w h1 h2
theorem ops_val {ops : Array Oper} {Q : Exit → Act → World → Prop} {i : Nat} {rest : List Nat} {a : Act} {w w' : World} {o : Oper} {v : Value} (ho : ops[i]? = some o) (hg : o.guard = none) (hr : (execOp a.eval o).run P w = .ok (.value v) w')
    (h : wpOps P ops Q rest (a.put o.dst v) w') : wpOps P ops Q (i :: rest) a w := by
 rw [wpOps_cons]
 unfold wpOp
 rw [ho]
 dsimp only
 rw [show Region.wanted o (yielded ops a.tmps) = true by unfold Region.wanted; rw [hg], if_pos rfl]
 refine .inl ?_
 unfold Oper.wp
 rw [hr]
 exact h
theorem ops_skip {ops : Array Oper} {Q : Exit → Act → World → Prop} {i : Nat} {rest : List Nat} {a : Act} {w w' : World} {o : Oper} (ho : ops[i]? = some o) (hg : o.guard = none) (hr : (execOp a.eval o).run P w = .ok .skip w')
    (h : wpOps P ops Q rest (a.put o.dst undef) w') : wpOps P ops Q (i :: rest) a w := by
 rw [wpOps_cons]
 unfold wpOp
 rw [ho]
 dsimp only
 rw [show Region.wanted o (yielded ops a.tmps) = true by unfold Region.wanted; rw [hg], if_pos rfl]
 refine .inl ?_
 unfold Oper.wp
 rw [hr]
 exact h
end
end Go.Proofs.YtbophanlmkbfeaaGreatDoor
