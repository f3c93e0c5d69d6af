/-
A part.
A part.
A part.
-/
import Derived.Test.YtbophanlmkbfeaaGreatDoorHC04
namespace Go.Proofs.YtbophanlmkbfeaaGreatDoor
open Go.RowKit
abbrev VQ := Exit → List Value → Xm → Prop
def loopN : Nat → (VQ → List Value → Xm → Prop) → VQ → List Value → Xm → Prop
 | 0, _, _, _, _ => False
 | n + 1, G, Q, vt, m => G (fun e vt' m' => match e with
  | .normal => loopN n G Q vt' m'
  | e => Q e vt' m') vt m
def vset (vt : List Value) (c : Operand) (b : Bool) : List Value :=
 match c with
 | .tmp t => vt.set t (.bool b)
 | _ => vt
theorem FR.vset {bl : Bl} {vt : List Value} {tm : Array Value} (h : FR bl vt tm) {c : Operand} {b : Bool} (hc : VE vt c = .bool b) : FR bl (vset vt c b) tm := by
 cases c with
 | tmp t => exact h.setSame hc
 | _ => exact h
def swp (P : Program) (tbl : List (Ct P)) (dirty : Nat → List Nat) (n : Nat) : Code → VQ → List Value → Xm → Prop
 | .skip, Q, vt, m => Q .normal vt m
 | .region id ops draw, Q, vt, m => vregion P tbl dirty id ops draw (Q .normal) vt m
 | .seq x y, Q, vt, m => swp P tbl dirty n x (fun e vt' m' => match e with
  | .normal => swp P tbl dirty n y Q vt' m'
  | e => Q e vt' m') vt m
 | .cond c x y, Q, vt, m => (match okX c, VE vt c with
  | true, .bool b => vif b (swp P tbl dirty n x Q (vset vt c true) m) (swp P tbl dirty n y Q (vset vt c false) m)
  | _, _ => False)
 | .block id c, Q, vt, m => swp P tbl dirty n c (fun e vt' m' => match e with
  | .exit id' => if id' = id then Q .normal vt' m' else Q (.exit id') vt' m'
  | e => Q e vt' m') vt m
 | .loop c, Q, vt, m => loopN n (swp P tbl dirty n c) Q vt m
 | .exit id, Q, vt, m => Q (.exit id) vt m
 | .label _, Q, vt, m => Q .normal vt m
 | .ret, Q, vt, m => Q .ret vt m
 | _, _, _, _ => False
section
variable {P : Program} {tbl : List (Ct P)} {bs : List Nat} {w0 : World} {ds : List Deferred} {dirty : Nat → List Nat} {n : Nat} {bl0 : Bl}
def Stands (bs : List Nat) (w0 : World) (ds : List Deferred) (bl0 : Bl) (Q : VQ) (Q' : Exit → Act → World → Prop) : Prop := ∀ e bl vt m a w, Q e vt m → Rl bs w0 ds bl0 bl vt m a w → Q' e a w
theorem swp_sound (hm : P.follows .mixedOrders = true) : ∀ (c : Code) (Q : VQ) (Q' : Exit → Act → World → Prop) (bl : Bl) (vt : List Value) (m : Xm) (a : Act) (w : World), Stands bs w0 ds bl0 Q Q' → swp P tbl dirty n c Q vt m → Rl bs w0 ds bl0 bl vt m a w → c.wp P Q' a w := by
 intro c
 induction c with
 | skip => intro Q Q' bl vt m a w hQ h r; exact wp_skip (hQ _ bl vt m a w h r)
 | region id ops draw => intro Q Q' bl vt m a w hQ h r; exact vregion_sound hm (fun bl vt m a w hk hr => hQ _ bl vt m a w hk hr) h r
 | seq x y ihx ihy =>
  intro Q Q' bl vt m a w hQ h r
  refine wp_seq (ihx _ _ bl vt m a w ?_ h r)
  intro e bl' vt' m' a' w' h' r'
  cases e with
  | normal => exact ihy Q Q' bl' vt' m' a' w' hQ h' r'
  | exit id => exact hQ _ bl' vt' m' a' w' h' r'
  | goto l => exact hQ _ bl' vt' m' a' w' h' r'
  | ret => exact hQ _ bl' vt' m' a' w' h' r'
  | panic ch => exact hQ _ bl' vt' m' a' w' h' r'
  | outgrown => exact hQ _ bl' vt' m' a' w' h' r'
 | cond c x y ihx ihy =>
  intro Q Q' bl vt m a w hQ h r
  unfold swp at h
  split at h
  ·rename_i b hok hb
   have hv := r.F.eval hok
   rw [hb] at hv
   have hv : a.eval c = .bool b := hv
   refine wp_cond_split hv (fun e => ?_) (fun e => ?_)
   ·subst e; exact ihx Q Q' bl _ m a w hQ h ⟨r.F.vset hb, r.R, r.le, r.len, r.defers⟩
   ·subst e; exact ihy Q Q' bl _ m a w hQ h ⟨r.F.vset hb, r.R, r.le, r.len, r.defers⟩
  ·exact h.elim
 | block id c ih =>
  intro Q Q' bl vt m a w hQ h r
  refine wp_block (ih _ _ bl vt m a w ?_ h r)
  intro e bl' vt' m' a' w' h' r'
  cases e with
  | exit id' =>
   dsimp only at h'
   unfold Exit.inBlock
   dsimp only
   split at h'
   ·rename_i e
    rw [if_pos e]
    exact hQ _ bl' vt' m' a' w' h' r'
   ·rename_i e
    rw [if_neg e]
    exact hQ _ bl' vt' m' a' w' h' r'
  | normal => exact hQ _ bl' vt' m' a' w' h' r'
  | goto l => exact hQ _ bl' vt' m' a' w' h' r'
  | ret => exact hQ _ bl' vt' m' a' w' h' r'
  | panic ch => exact hQ _ bl' vt' m' a' w' h' r'
  | outgrown => exact hQ _ bl' vt' m' a' w' h' r'
 | loop c ih =>
  intro Q Q' bl vt m a w hQ h r
  refine wp_loop_rounds n ?_
  have key : ∀ k bl vt m a w, loopN k (swp P tbl dirty n c) Q vt m → Rl bs w0 ds bl0 bl vt m a w → Code.rounds P c Q' k a w := by
   intro k
   induction k with
   | zero => intro bl vt m a w h _; exact h
   | succ k ihk =>
    intro bl vt m a w h r
    refine ih _ _ bl vt m a w ?_ h r
    intro e bl' vt' m' a' w' h' r'
    cases e with
    | normal => exact ihk bl' vt' m' a' w' h' r'
    | exit id => exact hQ _ bl' vt' m' a' w' h' r'
    | goto l => exact hQ _ bl' vt' m' a' w' h' r'
    | ret => exact hQ _ bl' vt' m' a' w' h' r'
    | panic ch => exact hQ _ bl' vt' m' a' w' h' r'
    | outgrown => exact hQ _ bl' vt' m' a' w' h' r'
  exact key n bl vt m a w h r
 | exit id => intro Q Q' bl vt m a w hQ h r; exact wp_exit (hQ _ bl vt m a w h r)
 | label l => intro Q Q' bl vt m a w hQ h r; exact wp_label (hQ _ bl vt m a w h r)
 | ret => intro Q Q' bl vt m a w hQ h r; exact wp_ret (hQ _ bl vt m a w h r)
 | goto l => intro Q Q' bl vt m a w _ h _; exact h.elim
 | scope c _ => intro Q Q' bl vt m a w _ h _; exact h.elim
 | refuse s => intro Q Q' bl vt m a w _ h _; exact h.elim
 | rangeFunc f ps x y _ _ => intro Q Q' bl vt m a w _ h _; exact h.elim
end
def resOne (P : Program) (vt : List Value) (m : Xm) : ResultVar → Option Value
 | .tmp t => if isP (vt.getD t undef) then none else some (vt.getD t undef)
 | .cell p t =>
  match vt.getD p undef with
  | .pointer (some ⟨k, off, none⟩) => (match m[k]? with
   | some l => loadV P t l off
   | none => none)
  | _ => none
def resL (P : Program) (vt : List Value) (m : Xm) : List ResultVar → Option (List Value)
 | [] => some []
 | r :: rs =>
  match resOne P vt m r, resL P vt m rs with
  | some v, some vs => some (v :: vs)
  | _, _ => none
def resV (P : Program) (fn : Func) (vt : List Value) (m : Xm) : Option Value :=
 match resL P vt m fn.results.toList with
 | some [v] => some v
 | some vs => some (.tuple vs.toArray)
 | none => none
def resF (tm : Array Value) : ResultVar → Sem Value
 | .tmp t => pure (tm.getD t undef)
 | .cell a t => do loadVar t (← asAddr (tm.getD a undef))
section
variable {P : Program} {bs : List Nat} {w0 : World} {bl : Bl} {vt : List Value} {m : Xm} {w : World} {tm : Array Value}
theorem resOne_run (F : FR bl vt tm) (R : RW bs w0 bl m w) {r : ResultVar} {v : Value} (hv : resOne P vt m r = some v) : (resF tm r).run P w = .ok v w := by
 cases r with
 | tmp t =>
  simp only [resOne] at hv
  split at hv
  ·cases hv
  ·rename_i hp
   have e := (F.rv t).plain (by simpa using hp)
   have hv := Option.some.inj hv
   simp only [resF]
   rw [e, hv]
   simp
 | cell p t =>
  simp only [resOne] at hv
  have hr := F.rv p
  split at hv
  ·rename_i k off hk
   rw [hk] at hr
   obtain ⟨B, hB, he⟩ := hr
   have he : tm.getD p undef = .pointer (some ⟨B, off, none⟩) := he
   split at hv
   ·rename_i l hl
    obtain ⟨l2, e2, A⟩ := R.arr k B hB
    rw [hl] at e2
    cases e2
    have r1 := loadV_run hv A
    simp only [resF]
    rw [he]
    simp [asAddr, r1]
   ·cases hv
  ·cases hv
theorem resL_run (F : FR bl vt tm) (R : RW bs w0 bl m w) : ∀ (rs : List ResultVar) (vs : List Value), resL P vt m rs = some vs → (rs.mapM (resF tm)).run P w = .ok vs w
 | [], vs, h => by
  cases h
  simp
 | r :: rs, vs, h => by
  unfold resL at h
  split at h
  ·rename_i v us hv hus
   have e := Option.some.inj h
   have ih := resL_run F R rs us hus
   have h1 := resOne_run F R hv
   rw [List.mapM_cons]
   simp only [Sem.run_bind, h1, Result.andThen_ok, ih, ← e]
   rfl
  ·cases h
theorem results_eq (fn : Func) (tm : Array Value) : results fn tm = (do let vs ← fn.results.mapM (resF tm); pure (if h : vs.size = 1 then vs[0] else .tuple vs)) := rfl
theorem resV_run {fn : Func} {v : Value} (F : FR bl vt tm) (R : RW bs w0 bl m w) (h : resV P fn vt m = some v) : (results fn tm).run P w = .ok v w := by
 unfold resV at h
 rw [results_eq, Array.mapM_eq_mapM_toList]
 cases hvs : resL P vt m fn.results.toList with
 | none => rw [hvs] at h; cases h
 | some vs =>
  have r := resL_run F R _ _ hvs
  rw [hvs] at h
  simp only [Sem.run_bind, Sem.run_map, r, Result.andThen_ok]
  match vs, h with
  | [u], h =>
   cases h
   simp
  | [], h =>
   cases h
   simp
  | x :: y :: zs, h =>
   cases h
   simp
end
end Go.Proofs.YtbophanlmkbfeaaGreatDoor
namespace Go.Proofs.YtbophanlmkbfeaaGreatDoor
open Go.RowKit
theorem arr_fl {b : Nat} {bad : Bool} {w : World} (h : Fl b bad w) : Arr b [.bool bad] w :=
 ⟨fun i hi => by
  have : i = 0 := by simp at hi; omega
  subst this
  exact h.cell, fun i hi => by
  have : i = 0 := by simp at hi; omega
  subst this
  exact h.free, h.lies⟩
theorem fl_arr {b : Nat} {bad : Bool} {w : World} (h : Arr b [.bool bad] w) : Fl b bad w := ⟨h.c 0 (by simp), h.f 0 (by simp), h.lies⟩
structure Dc (A : Type) where
 enc : A → Value
 dec : Value → Option A
 law : ∀ v x, dec v = some x → v = enc x
 np : ∀ x, isP (enc x) = false
structure Dl (A : Type) where
 enc : A → List Value
 dec : List Value → Option A
 law : ∀ v x, dec v = some x → v = enc x
 np : ∀ x, ∀ v ∈ enc x, isP v = false
def cI : Dc Int where
 enc x := .int .i64 x
 dec v := match v with
  | .int .i64 x => some x
  | _ => none
 law v x h := by
  split at h
  ·cases h; rfl
  ·cases h
 np _ := rfl
def cB : Dc Bool where
 enc x := .bool x
 dec v := match v with
  | .bool x => some x
  | _ => none
 law v x h := by
  split at h
  ·cases h; rfl
  ·cases h
 np _ := rfl
def cU : Dc Unit where
 enc _ := .tuple #[]
 dec v := match v with
  | .tuple ⟨[]⟩ => some ()
  | _ => none
 law v x h := by
  split at h
  ·rfl
  ·cases h
 np _ := rfl
def cV3 : Dc (Int × Int × Int) where
 enc p := .agg #[.int .i64 p.1, .int .i64 p.2.1, .int .i64 p.2.2]
 dec v := match v with
  | .agg ⟨[.int .i64 a, .int .i64 b, .int .i64 c]⟩ => some (a, b, c)
  | _ => none
 law v x h := by
  split at h
  ·cases h; rfl
  ·cases h
 np _ := rfl
def cV4 : Dc (Int × Int × Int × Int) where
 enc p := .agg #[.int .i64 p.1, .int .i64 p.2.1, .int .i64 p.2.2.1, .int .i64 p.2.2.2]
 dec v := match v with
  | .agg ⟨[.int .i64 a, .int .i64 b, .int .i64 c, .int .i64 d]⟩ => some (a, b, c, d)
  | _ => none
 law v x h := by
  split at h
  ·cases h; rfl
  ·cases h
 np _ := rfl
def two' {A B : Type} (c : Dc A) (d : Dc B) : Dc (A × B) where
 enc p := .tuple #[c.enc p.1, d.enc p.2]
 dec v := match v with
  | .tuple ⟨[x, y]⟩ => (match c.dec x, d.dec y with
   | some a, some b => some (a, b)
   | _, _ => none)
  | _ => none
 law v x h := by
  split at h
  ·split at h
   ·rename_i h1 h2
    cases h
    rw [c.law _ _ h1, d.law _ _ h2]
   ·cases h
  ·cases h
 np _ := rfl
def lone' {A : Type} (c : Dc A) : Dl A where
 enc x := [c.enc x]
 dec l := match l with
  | [v] => c.dec v
  | _ => none
 law v x h := by
  split at h
  ·rw [c.law _ _ h]
  ·cases h
 np x v hv := by
  rw [List.mem_singleton] at hv
  rw [hv]
  exact c.np x
def then' {A B : Type} (c : Dc A) (d : Dl B) : Dl (A × B) where
 enc x := c.enc x.1 :: d.enc x.2
 dec l := match l with
  | v :: vs => (match c.dec v, d.dec vs with
   | some a, some b => some (a, b)
   | _, _ => none)
  | [] => none
 law v x h := by
  split at h
  ·split at h
   ·rename_i h1 h2
    cases h
    rw [c.law _ _ h1, d.law _ _ h2]
   ·cases h
  ·cases h
 np x v hv := by
  rcases List.mem_cons.1 hv with e | e
  ·rw [e]; exact c.np x.1
  ·exact d.np x.2 v e
def none' : Dl Unit where
 enc _ := []
 dec l := match l with
  | [] => some ()
  | _ => none
 law v x h := by
  split at h
  ·rfl
  ·cases h
 np x v hv := by cases hv
def ptr (b : Nat) : Value := .pointer (some ⟨b, 0, none⟩)
def PK {R : Type} (k : Dc R) (Post : Value → Option Bool → Prop) (r : R × Bool) : Prop := Post (k.enc r.1) (some r.2)
def PJ {R : Type} (k : Dc R) (Post : Value → Prop) (r : R) : Prop := Post (k.enc r)
def FlowOk (P : Program) (fn : Nat) {A R : Type} (d : Dl A) (g : Bool → A → R × Bool) (c : Dc R) : Prop :=
 ∀ b bad x w, GW w → 1 < b → Fl b bad w → Calls P fn (ptr b :: d.enc x).toArray w fun e w' => e = .returned (c.enc (g bad x).1) ∧ Fl b (g bad x).2 w' ∧ Kept b w w'
def PureOk (P : Program) (fn : Nat) {A R : Type} (d : Dl A) (g : A → R) (c : Dc R) : Prop :=
 ∀ x w, GW w → Calls P fn (d.enc x).toArray w fun e w' => e = .returned (c.enc (g x)) ∧ Below w.heap.size w w'
def retQ (P : Program) (fn : Func) (Post : Value → Xm → Prop) : VQ := fun e vt m =>
 match e with
 | .normal => (match resV P fn vt m with
  | some v => Post v m
  | none => False)
 | .ret => (match resV P fn vt m with
  | some v => Post v m
  | none => False)
 | _ => False
section
variable {P : Program} {tbl : List (Ct P)} {dirty : Nat → List Nat} {n : Nat}
theorem calls_sx (hm : P.follows .mixedOrders = true) {f : Nat} {fn : Func} {c : Code} (hf : P.funcs[f]? = some fn) (hb : fn.body = some c) {bs : List Nat} {w : World} {bl : Bl} {m : Xm} {vargs : List Value} {args : Array Value}
    (R : RW bs w bl m w) (hl : bl.length = m.length) (hs : args.size = vargs.length) (hv : ∀ i, RV bl (vargs.getD i undef) (args.getD i undef)) {Post : Value → Xm → Prop}
    (h : swp P tbl dirty n c (retQ P fn Post) (vargs ++ List.replicate (fn.ntmps - vargs.length) undef) m) :
    Calls P f args w fun e w' => ∃ v bl' m', e = .returned v ∧ Post v m' ∧ RW bs w bl' m' w' ∧ Le bl bl' := by
 refine calls_of_wp hf hb (swp_sound (ds := []) (bl0 := bl) hm c _ _ bl _ m _ w ?_ h ⟨⟨?_, ?_⟩, R, Le.refl _, hl, rfl⟩)
 ·intro e bl' vt' m' a' w' h' r'
  cases e with
  | normal =>
   simp only [retQ] at h'
   split at h'
   ·rename_i v hv
    exact ⟨r'.defers, v, resV_run r'.F r'.R hv, v, bl', m', rfl, h', r'.R, r'.le⟩
   ·exact h'.elim
  | ret =>
   simp only [retQ] at h'
   split at h'
   ·rename_i v hv
    exact ⟨r'.defers, v, resV_run r'.F r'.R hv, v, bl', m', rfl, h', r'.R, r'.le⟩
   ·exact h'.elim
  | exit id => exact h'.elim
  | goto l => exact h'.elim
  | panic ch => exact h'.elim
  | outgrown => exact h'.elim
 ·simp [hs]
 ·intro t
  by_cases ht : t < vargs.length
  ·have := hv t
   simp only [List.getD_eq_getElem?_getD, Array.getD_eq_getD_getElem?] at this ⊢
   rw [List.getElem?_append_left ht, Array.getElem?_append_left (by omega)]
   exact this
  ·simp only [List.getD_eq_getElem?_getD, Array.getD_eq_getD_getElem?]
   rw [List.getElem?_append_right (by omega), Array.getElem?_append_right (by omega), hs]
   by_cases h2 : t - vargs.length < fn.ntmps - vargs.length
   ·rw [List.getElem?_eq_getElem (by simpa using h2), Array.getElem?_eq_getElem (by simpa using h2)]
    simp
    rfl
   ·rw [List.getElem?_eq_none (by simpa using h2), Array.getElem?_eq_none (by simpa using h2)]
    rfl
def flagOf : Xm → Option Bool
 | [.bool b] :: _ => some b
 | _ => none
theorem flagOf_some {m : Xm} {b : Bool} (h : flagOf m = some b) : m[0]? = some [.bool b] := by
 unfold flagOf at h
 split at h
 ·cases h; rfl
 ·cases h
theorem flow_sx (hm : P.follows .mixedOrders = true) {f : Nat} {fn : Func} {c : Code} (hf : P.funcs[f]? = some fn) (hb : fn.body = some c) {A R : Type} {d : Dl A} {g : Bool → A → R × Bool} {k : Dc R}
    (h : ∀ (bad : Bool) (x : A) (Post : Value → Option Bool → Prop), swp P tbl dirty n c (retQ P fn (fun v m => Post v (flagOf m))) ((ptr 0 :: d.enc x) ++ List.replicate (fn.ntmps - (ptr 0 :: d.enc x).length) undef) [[.bool bad]] = PK k Post (g bad x)) : FlowOk P f d g k := by
 intro b bad x w hg hb1 hw
 have R : RW [b] w [some b] [[.bool bad]] w := by
  refine ⟨fun i B hi => ?_, fun i j B hi hj => ?_, fun i B hi => ?_, rfl, rfl, rfl, Nat.le_refl _, fun _ _ _ => rfl, hg, by simpa using hb1⟩
  ·match i, hi with
   | 0, hi => cases hi; exact ⟨_, rfl, arr_fl hw⟩
  ·match i, j, hi, hj with
   | 0, 0, _, _ => rfl
  ·match i, hi with
   | 0, hi => cases hi; exact .inl List.mem_cons_self
 refine Calls.mono (calls_sx hm hf hb (vargs := ptr 0 :: d.enc x) R rfl (by simp) (fun i => ?_) (Eq.mpr (h bad x (fun v o => v = k.enc (g bad x).1 ∧ o = some (g bad x).2)) (show _ ∧ _ from ⟨rfl, rfl⟩))) ?_
 ·cases i with
  | zero => exact ⟨b, rfl, rfl⟩
  | succ i =>
   by_cases hi : i < (d.enc x).length
   ·have := d.np x _ (List.getElem_mem hi)
    simp only [List.getD_eq_getElem?_getD, Array.getD_eq_getD_getElem?]
    simp [hi]
    exact .same this
   ·simp only [List.getD_eq_getElem?_getD, Array.getD_eq_getD_getElem?]
    simp [hi]
    rfl
 ·rintro e w' ⟨v, bl', m2, rfl, ⟨rfl, h2⟩, R', hle⟩
  obtain ⟨l, e, A⟩ := R'.arr 0 b (hle 0 b rfl)
  rw [flagOf_some h2] at e
  cases e
  exact ⟨rfl, fl_arr A, R'.os, R'.tape, R'.output, R'.size, fun i hi hb => R'.block i hi (by simpa using hb)⟩
theorem pure_sx (hm : P.follows .mixedOrders = true) {f : Nat} {fn : Func} {c : Code} (hf : P.funcs[f]? = some fn) (hb : fn.body = some c) {A R : Type} {d : Dl A} {g : A → R} {k : Dc R}
    (h : ∀ (x : A) (Post : Value → Prop), swp P tbl dirty n c (retQ P fn (fun v _ => Post v)) (d.enc x ++ List.replicate (fn.ntmps - (d.enc x).length) undef) [] = PJ k Post (g x)) : PureOk P f d g k := by
 intro x w hg
 have R : RW [] w [] [] w := ⟨fun i B hi => (by cases hi), fun i j B hi => (by cases hi), fun i B hi => (by cases hi), rfl, rfl, rfl, Nat.le_refl _, fun _ _ _ => rfl, hg, fun b hb => by cases hb⟩
 refine Calls.mono (calls_sx hm hf hb (vargs := d.enc x) R rfl (by simp) (fun i => ?_) (Eq.mpr (h x (fun v => v = k.enc (g x))) (show _ = _ from rfl))) ?_
 ·by_cases hi : i < (d.enc x).length
  ·have := d.np x _ (List.getElem_mem hi)
   simp only [List.getD_eq_getElem?_getD, Array.getD_eq_getD_getElem?]
   simp [hi]
   exact .same this
  ·simp only [List.getD_eq_getElem?_getD, Array.getD_eq_getD_getElem?]
   simp [hi]
   rfl
 ·rintro e w' ⟨v, bl', m2, rfl, rfl, R', _⟩
  exact ⟨rfl, R'.os, R'.tape, R'.output, R'.size, fun i hi => R'.block i hi (by simp)⟩
end
theorem RW.flow {bs : List Nat} {w0 : World} {bl : Bl} {m : Xm} {w w' : World} (h : RW bs w0 bl m w) {k B : Nat} {bad bad' : Bool} (hk : bl[k]? = some (some B)) (hm : m[k]? = some [.bool bad]) (F : Fl B bad' w') (K : Kept B w w') : RW bs w0 bl (m.set k [.bool bad']) w' := by
 have hkl : k < m.length := (List.getElem?_eq_some_iff.1 hm).1
 refine ⟨fun k' B' hk' => ?_, h.inj, fun k' B' hk' => (h.own k' B' hk').imp id (Or.imp id fun e => none_set e (fun e2 => by subst e2; rw [hm] at e; cases e)), K.os.trans h.os, K.tape.trans h.tape, K.output.trans h.output, Nat.le_trans h.size K.size, fun i hi hb => ?_, h.gw⟩
 ·by_cases e : k = k'
  ·subst e
   rw [hk] at hk'
   cases hk'
   exact ⟨_, List.getElem?_set_self hkl, arr_fl F⟩
  ·obtain ⟨l2, e2, A2⟩ := h.arr k' B' hk'
   exact ⟨l2, by rw [List.getElem?_set_ne e]; exact e2, A2.kept K (fun e3 => e (h.inj k k' B hk (e3 ▸ hk')))⟩
 ·have hB : i ≠ B := by
   rintro rfl
   rcases h.own k i hk with hb' | hb' | hb'
   ·exact hb hb'
   ·omega
   ·rw [hm] at hb'
    cases hb'
  rw [K.block i (by have := h.size; omega) hB]
  exact h.block i hi hb
theorem RW.pure {bs : List Nat} {w0 : World} {bl : Bl} {m : Xm} {w w' : World} (h : RW bs w0 bl m w) (K : Below w.heap.size w w') : RW bs w0 bl m w' :=
 ⟨fun k B hk => let ⟨l, h1, A⟩ := h.arr k B hk; ⟨l, h1, A.below K⟩, h.inj, h.own, K.os.trans h.os, K.tape.trans h.tape, K.output.trans h.output, Nat.le_trans h.size K.size, fun i hi hb => by
  rw [K.block i (by have := h.size; omega)]
  exact h.block i hi hb, h.gw⟩
theorem args_same {bl : Bl} {l : List Value} {args' : Array Value} (hs : args'.size = l.length) (hv : ∀ i, RV bl (l.getD i undef) (args'.getD i undef)) (hp : ∀ v ∈ l, isP v = false) : args' = l.toArray := by
 refine Array.ext (by simp [hs]) (fun i h1 h2 => ?_)
 have hi : i < l.length := by omega
 have := hv i
 simp only [List.getD_eq_getElem?_getD, Array.getD_eq_getD_getElem?] at this
 rw [List.getElem?_eq_getElem hi, Array.getElem?_eq_getElem h1] at this
 simpa using this.plain (hp _ (List.getElem_mem hi))
def flowCt (P : Program) (fn : Nat) {A R : Type} (d : Dl A) (g : Bool → A → R × Bool) (c : Dc R) (go : ∀ (args : Array Value) (w : World), (callFunc fn args).run P w = .ok (.enter fn args) w) (h : FlowOk P fn d g c) : Ct P where
 fn := fn
 sp := fun args m K => match args with
  | .pointer (some ⟨k, 0, none⟩) :: rest => (match d.dec rest, m[k]? with
   | some x, some [.bool bad] => K (c.enc (g bad x).1) (m.set k [.bool (g bad x).2])
   | _, _ => False)
  | _ => False
 go := go
 mono := fun hK hs => by
  split at hs
  ·split at hs
   ·exact hK _ _ hs
   ·exact hs
  ·exact hs
 keep := fun {args m K} hs => by
  split at hs
  ·rename_i k rest
   split at hs
   ·refine ⟨hs, List.length_set .., fun k' hk' => ?_⟩
    have e : k ≠ k' := by rintro rfl; exact hk' (by simp [ptrs])
    rw [List.getElem?_set_ne e]
   ·exact hs
  ·exact hs
 ok := fun {bs w0 bl m w args args' K} R hlen hv hs => by
  split at hs
  ·rename_i k rest
   split at hs
   ·rename_i x bad hd hmk
    have h0 := hv 0
    obtain ⟨B, hB, he⟩ := h0
    have hrest := d.law _ _ hd
    have hargs : args' = (ptr B :: d.enc x).toArray := by
     refine Array.ext (by rw [hlen, hrest]; simp) (fun i h1 h2 => ?_)
     cases i with
     | zero =>
      simp only [Array.getD_eq_getD_getElem?, Array.getElem?_eq_getElem h1] at he
      simpa [ptr] using he
     | succ i =>
      have hi : i < rest.length := by simp at hlen; omega
      have := hv (i + 1)
      simp only [List.getD_eq_getElem?_getD, Array.getD_eq_getD_getElem?, List.getElem?_cons_succ] at this
      rw [List.getElem?_eq_getElem hi, Array.getElem?_eq_getElem h1] at this
      have e := this.plain (d.np x _ (by rw [← hrest]; exact List.getElem_mem hi))
      simp only [Option.getD_some] at e
      rw [e]
      simp [hrest]
    obtain ⟨l2, e2, A⟩ := R.arr k B hB
    have e2 : m[k]? = some l2 := e2
    rw [hmk] at e2
    cases e2
    rw [hargs]
    refine Calls.mono (h B bad x w R.gwAt (R.gt hB hmk (List.cons_ne_nil _ _)) (fl_arr A)) ?_
    rintro e w' ⟨rfl, F, Kp⟩
    exact ⟨_, _, _, rfl, .same (c.np _), hs, R.flow hB hmk F Kp⟩
   ·exact hs.elim
  ·exact hs.elim
def pureCt (P : Program) (fn : Nat) {A R : Type} (d : Dl A) (g : A → R) (c : Dc R) (go : ∀ (args : Array Value) (w : World), (callFunc fn args).run P w = .ok (.enter fn args) w) (h : PureOk P fn d g c) : Ct P where
 fn := fn
 sp := fun args m K => match d.dec args with
  | some x => K (c.enc (g x)) m
  | none => False
 go := go
 mono := fun hK hs => by
  split at hs
  ·exact hK _ _ hs
  ·exact hs
 keep := fun {args m K} hs => by
  split at hs
  ·exact ⟨hs, rfl, fun _ _ => rfl⟩
  ·exact hs
 ok := fun {bs w0 bl m w args args' K} R hlen hv hs => by
  split at hs
  ·rename_i x hd
   have hl := d.law _ _ hd
   rw [args_same hlen hv (by rw [hl]; exact d.np x), hl]
   refine Calls.mono (h x w R.gwAt) ?_
   rintro e w' ⟨rfl, Kp⟩
   exact ⟨_, _, _, rfl, .same (c.np _), hs, R.pure Kp⟩
  ·exact hs.elim
theorem go_of {P : Program} {f : Nat} {fn : Func} (hf : P.funcs[f]? = some fn) (h : (fn.name == "runtime.NumGoroutine") = false) (hb : fn.body.isNone = false) (args : Array Value) (w : World) : (callFunc f args).run P w = .ok (.enter f args) w := by
 have h1 : fn.name ≠ "runtime.NumGoroutine" := by simpa using h
 have h2 : fn.body ≠ none := fun e => by rw [e] at hb; cases hb
 unfold callFunc
 simp [program, Sem.run, hf, h1, h2]
end Go.Proofs.YtbophanlmkbfeaaGreatDoor
namespace Go.Proofs.YtbophanlmkbfeaaGreatDoor
open Go.RowKit
def tkn : Value → Option (Option IntKind × Nat)
 | .tuple ⟨[.int k (.ofNat _)]⟩ => some (some k, 0)
 | .tuple ⟨[.int k (.negSucc n)]⟩ => some (some k, n + 1)
 | .tuple ⟨[.bool _]⟩ => some (none, 0)
 | .tuple ⟨[.float _ i]⟩ => some (none, i + 1)
 | _ => none
def unk (k : IntKind) : Value := .tuple ⟨[.int k 0]⟩
def upto (k : IntKind) (n : Nat) : Value := .tuple ⟨[.int k (.negSucc n)]⟩
def unkB : Value := .tuple ⟨[.bool false]⟩
def sym (i : Nat) : Value := .tuple ⟨[.float .f64 i]⟩
def All2 {α β : Type} (R : α → β → Prop) : List α → List β → Prop
 | [], [] => True
 | a :: l, b :: m => R a b ∧ All2 R l m
 | _, _ => False
theorem All2.len {α β : Type} {R : α → β → Prop} : ∀ {l : List α} {m : List β}, All2 R l m → l.length = m.length
 | [], [], _ => rfl
 | _ :: _, _ :: _, h => congrArg (· + 1) h.2.len
 | [], _ :: _, h => h.elim
 | _ :: _, [], h => h.elim
theorem All2.imp {α β : Type} {R S : α → β → Prop} (hi : ∀ a b, R a b → S a b) : ∀ {l : List α} {m : List β}, All2 R l m → All2 S l m
 | [], [], _ => trivial
 | _ :: _, _ :: _, h => ⟨hi _ _ h.1, All2.imp hi h.2⟩
 | [], _ :: _, h => h.elim
 | _ :: _, [], h => h.elim
theorem All2.get {α β : Type} {R : α → β → Prop} : ∀ {l : List α} {m : List β}, All2 R l m → ∀ (i : Nat) (a : α), l[i]? = some a → ∃ b, m[i]? = some b ∧ R a b
 | [], [], _, i, a, h => by simp at h
 | x :: l, y :: m, h, 0, a, e => ⟨y, rfl, by simp at e; exact e ▸ h.1⟩
 | x :: l, y :: m, h, i + 1, a, e => by simpa using All2.get h.2 i a (by simpa using e)
 | [], _ :: _, h, _, _, _ => h.elim
 | _ :: _, [], h, _, _, _ => h.elim
theorem All2.set {α β : Type} {R : α → β → Prop} : ∀ {l : List α} {m : List β}, All2 R l m → ∀ (i : Nat) (a : α) (b : β), R a b → All2 R (l.set i a) (m.set i b)
 | [], [], _, _, _, _, _ => trivial
 | _ :: _, _ :: _, h, 0, _, _, r => ⟨r, h.2⟩
 | _ :: _, _ :: _, h, i + 1, a, b, r => ⟨h.1, All2.set h.2 i a b r⟩
 | [], _ :: _, h, _, _, _, _ => h.elim
 | _ :: _, [], h, _, _, _, _ => h.elim
theorem All2.append {α β : Type} {R : α → β → Prop} : ∀ {l : List α} {m : List β} {l' : List α} {m' : List β}, All2 R l m → All2 R l' m' → All2 R (l ++ l') (m ++ m')
 | [], [], _, _, _, h => h
 | _ :: _, _ :: _, _, _, h, k => ⟨h.1, All2.append h.2 k⟩
 | [], _ :: _, _, _, h, _ => h.elim
 | _ :: _, [], _, _, h, _ => h.elim
theorem All2.drop {α β : Type} {R : α → β → Prop} : ∀ (n : Nat) {l : List α} {m : List β}, All2 R l m → All2 R (l.drop n) (m.drop n)
 | 0, _, _, h => h
 | _ + 1, [], [], _ => trivial
 | n + 1, _ :: _, _ :: _, h => All2.drop n h.2
 | _ + 1, [], _ :: _, h => h.elim
 | _ + 1, _ :: _, [], h => h.elim
theorem All2.take {α β : Type} {R : α → β → Prop} : ∀ (n : Nat) {l : List α} {m : List β}, All2 R l m → All2 R (l.take n) (m.take n)
 | 0, _, _, _ => by simp [All2]
 | _ + 1, [], [], _ => trivial
 | n + 1, _ :: _, _ :: _, h => ⟨h.1, All2.take n h.2⟩
 | _ + 1, [], _ :: _, h => h.elim
 | _ + 1, _ :: _, [], h => h.elim
theorem All2.refl {α : Type} {R : α → α → Prop} : ∀ (l : List α), (∀ a ∈ l, R a a) → All2 R l l
 | [], _ => trivial
 | a :: l, h => ⟨h a List.mem_cons_self, All2.refl l (fun b hb => h b (List.mem_cons_of_mem _ hb))⟩
def plain : Value → Bool
 | .agg _ => false
 | .tuple ⟨_ :: _ :: _⟩ => false
 | _ => true
def G0 (τ : Nat → Int) (t v : Value) : Prop :=
 match tkn t with
 | some (some k, 0) => ∃ x, v = .int k x
 | some (some k, n + 1) => ∃ x, v = .int k x ∧ 0 ≤ x ∧ x ≤ n
 | some (none, 0) => ∃ b, v = .bool b
 | some (none, i + 1) => v = .int .i64 (τ i)
 | none => v = t ∧ plain t = true
def G1 (τ : Nat → Int) (t v : Value) : Prop :=
 match t with
 | .agg cs => ∃ l, v = .agg ⟨l⟩ ∧ All2 (G0 τ) cs.toList l
 | t => G0 τ t v
def G2 (τ : Nat → Int) (t v : Value) : Prop :=
 match t with
 | .tuple ⟨a :: b :: r⟩ => ∃ l, v = .tuple ⟨l⟩ ∧ All2 (G1 τ) (a :: b :: r) l
 | t => G1 τ t v
section
variable {τ : Nat → Int}
theorem G0.eq {t v : Value} (h : G0 τ t v) (ht : tkn t = none) : v = t := by
 unfold G0 at h
 rw [ht] at h
 exact h.1
theorem G0.same {t : Value} (ht : tkn t = none) (hp : plain t = true) : G0 τ t t := by
 unfold G0
 rw [ht]
 exact ⟨rfl, hp⟩
theorem G0.plain {t v : Value} (h : G0 τ t v) : plain t = true := by
 unfold G0 at h
 split at h
 ·rename_i e
  unfold tkn at e
  split at e <;> cases e <;> rfl
 ·rename_i e
  unfold tkn at e
  split at e <;> cases e <;> rfl
 ·rename_i e
  unfold tkn at e
  split at e <;> cases e <;> rfl
 ·rename_i e
  unfold tkn at e
  split at e <;> cases e <;> rfl
 ·exact h.2
def real0 (t : Value) : Bool := (tkn t).isNone && Go.Proofs.YtbophanlmkbfeaaGreatDoor.plain t
def real1 : Value → Bool
 | .agg cs => cs.toList.all real0
 | t => real0 t
def real2 : Value → Bool
 | .tuple ⟨a :: b :: r⟩ => (a :: b :: r).all real1
 | t => real1 t
theorem All2.eq {R : Value → Value → Prop} {p : Value → Bool} (hp : ∀ t v, p t = true → R t v → v = t) : ∀ {l m : List Value}, All2 R l m → l.all p = true → m = l
 | [], [], _, _ => rfl
 | a :: l, b :: m, h, hr => by
  simp only [List.all_cons, Bool.and_eq_true] at hr
  rw [hp a b hr.1 h.1, All2.eq hp h.2 hr.2]
 | [], _ :: _, h, _ => h.elim
 | _ :: _, [], h, _ => h.elim
theorem real0_eq (t v : Value) (hr : real0 t = true) (h : G0 τ t v) : v = t := h.eq (by simp [real0] at hr; exact hr.1)
theorem real1_eq (t v : Value) (hr : real1 t = true) (h : G1 τ t v) : v = t := by
 unfold G1 at h
 unfold real1 at hr
 split at h
 ·obtain ⟨l, rfl, hl⟩ := h
  rw [hl.eq real0_eq hr]
 ·rename_i hn
  split at hr
  ·exact absurd rfl (hn _)
  ·exact real0_eq _ _ hr h
theorem real2_eq (t v : Value) (hr : real2 t = true) (h : G2 τ t v) : v = t := by
 unfold G2 at h
 unfold real2 at hr
 split at h
 ·obtain ⟨l, rfl, hl⟩ := h
  rw [hl.eq real1_eq hr]
 ·rename_i hn
  split at hr
  ·exact absurd rfl (hn _ _ _)
  ·exact real1_eq _ _ hr h
theorem real0_same {t : Value} (hr : real0 t = true) : G0 τ t t := .same (by simp [real0] at hr; exact hr.1) (by simp [real0] at hr; exact hr.2)
theorem real1_same {t : Value} (hr : real1 t = true) : G1 τ t t := by
 unfold real1 at hr
 unfold G1
 split at hr
 ·exact ⟨_, rfl, All2.refl _ (fun a ha => real0_same (List.all_eq_true.1 hr a ha))⟩
 ·exact real0_same hr
theorem real2_same {t : Value} (hr : real2 t = true) : G2 τ t t := by
 unfold real2 at hr
 unfold G2
 split at hr
 ·exact ⟨_, rfl, All2.refl _ (fun a ha => real1_same (List.all_eq_true.1 hr a ha))⟩
 ·exact real1_same hr
theorem G0.g1 {t v : Value} (h : G0 τ t v) : G1 τ t v := by
 have hp := h.plain
 unfold G1
 split
 ·cases hp
 ·exact h
theorem G1.g2 {t v : Value} (h : G1 τ t v) : G2 τ t v := by
 unfold G2
 split
 ·exact absurd (G0.plain h) (by simp [Go.Proofs.YtbophanlmkbfeaaGreatDoor.plain])
 ·exact h
theorem G0.g2 {t v : Value} (h : G0 τ t v) : G2 τ t v := h.g1.g2
theorem G2.agg {cs : Array Value} {v : Value} (h : G2 τ (.agg cs) v) : ∃ l, v = .agg ⟨l⟩ ∧ All2 (G0 τ) cs.toList l := h
theorem G2.ptr {a : Option Addr} {v : Value} (h : G2 τ (.pointer a) v) : v = .pointer a := h.1
theorem G2.int {k : IntKind} {x : Int} {v : Value} (h : G2 τ (.int k x) v) : v = .int k x := h.1
theorem G2.bool {b : Bool} {v : Value} (h : G2 τ (.bool b) v) : v = .bool b := h.1
def kindA : Value → Option IntKind
 | .int k _ => some k
 | .tuple ⟨[.int k _]⟩ => some k
 | .tuple ⟨[.float _ _]⟩ => some .i64
 | _ => none
def boolA : Value → Bool
 | .bool _ => true
 | .tuple ⟨[.bool _]⟩ => true
 | _ => false
theorem kindA_is0 {t v : Value} {k : IntKind} (h : kindA t = some k) (g : G0 τ t v) : ∃ x, v = .int k x := by
 unfold kindA at h
 split at h
 ·cases h; exact ⟨_, g.1⟩
 ·rename_i k' z
  cases h
  cases z with
  | ofNat n => exact g
  | negSucc n => obtain ⟨x, e, _⟩ := g; exact ⟨x, e⟩
 ·cases h; exact ⟨_, g⟩
 ·cases h
theorem kindA_is {t v : Value} {k : IntKind} (h : kindA t = some k) (g : G2 τ t v) : ∃ x, v = .int k x := by
 refine kindA_is0 (τ := τ) h ?_
 unfold kindA at h
 split at h
 ·exact g
 ·exact g
 ·exact g
 ·cases h
theorem boolA_is {t v : Value} (h : boolA t = true) (g : G2 τ t v) : ∃ x, v = .bool x := by
 unfold boolA at h
 split at h
 ·exact ⟨_, g.1⟩
 ·exact g
 ·cases h
theorem boolA_is0 {t v : Value} (h : boolA t = true) (g : G0 τ t v) : ∃ x, v = .bool x := by
 unfold boolA at h
 split at h
 ·exact ⟨_, g.1⟩
 ·exact g
 ·cases h
theorem G2.unk {k : IntKind} {x : Int} : G2 τ (unk k) (.int k x) := ⟨x, rfl⟩
theorem G2.unkB {b : Bool} : G2 τ unkB (.bool b) := ⟨b, rfl⟩
theorem G0.isP {t v : Value} (h : G0 τ t v) : isP v = isP t := by
 unfold G0 at h
 split at h
 ·rename_i k e
  obtain ⟨x, rfl⟩ := h
  unfold tkn at e
  split at e <;> cases e <;> rfl
 ·rename_i k n e
  obtain ⟨x, rfl, _⟩ := h
  unfold tkn at e
  split at e <;> cases e <;> rfl
 ·rename_i e
  obtain ⟨x, rfl⟩ := h
  unfold tkn at e
  split at e <;> cases e <;> rfl
 ·rename_i i e
  subst h
  unfold tkn at e
  split at e <;> cases e <;> rfl
 ·rw [h.1]
theorem G1.isP {t v : Value} (h : G1 τ t v) : isP v = isP t := by
 unfold G1 at h
 split at h
 ·obtain ⟨l, rfl, _⟩ := h; rfl
 ·exact h.isP
theorem G2.isP {t v : Value} (h : G2 τ t v) : isP v = isP t := by
 unfold G2 at h
 split at h
 ·obtain ⟨l, rfl, _⟩ := h; rfl
 ·exact h.isP
structure GF (τ : Nat → Int) (at' vt : List Value) : Prop where
 len : at'.length = vt.length
 g : ∀ t, G2 τ (at'.getD t undef) (vt.getD t undef)
structure GM (τ : Nat → Int) (am m : Xm) : Prop where
 len : am.length = m.length
 g : ∀ (k : Nat) (l : List Value), am[k]? = some l → ∃ l', m[k]? = some l' ∧ All2 (G0 τ) l l'
def okA : Operand → Bool
 | .const v => !isP v && real2 v
 | .global _ => false
 | _ => true
theorem okA_okX {x : Operand} (h : okA x = true) : okX x = true := by
 cases x <;> simp [okA, okX] at h ⊢
 exact h.1
theorem GF.ev {at' vt : List Value} (h : GF τ at' vt) {x : Operand} (hx : okA x = true) : G2 τ (VE at' x) (VE vt x) := by
 match x, hx with
 | .tmp t, _ => exact h.g t
 | .const v, hx =>
  simp only [okA, Bool.and_eq_true] at hx
  exact real2_same hx.2
 | .global g, hx => cases hx
 | .func f, _ => exact real2_same rfl
theorem GF.set {at' vt : List Value} (h : GF τ at' vt) (d : Nat) {t v : Value} (g : G2 τ t v) : GF τ (at'.set d t) (vt.set d v) := by
 refine ⟨by simp [h.len], fun i => ?_⟩
 have hl := h.len
 simp only [List.getD_eq_getElem?_getD]
 by_cases e : d = i
 ·subst e
  by_cases hd : d < vt.length
  ·rw [List.getElem?_set_self (by omega), List.getElem?_set_self hd]
   exact g
  ·rw [List.getElem?_eq_none (by rw [List.length_set]; omega), List.getElem?_eq_none (by rw [List.length_set]; omega)]
   exact real2_same rfl
 ·rw [List.getElem?_set_ne e, List.getElem?_set_ne e]
  have := h.g i
  simpa only [List.getD_eq_getElem?_getD] using this
theorem GF.put {at' vt : List Value} (h : GF τ at' vt) (d : Option Tmp) {t v : Value} (g : G2 τ t v) : GF τ (vput at' d t) (vput vt d v) := by
 cases d with
 | none => exact h
 | some d => exact h.set d g
theorem GM.set {am m : Xm} (h : GM τ am m) (k : Nat) {l l' : List Value} (g : All2 (G0 τ) l l') : GM τ (am.set k l) (m.set k l') := by
 refine ⟨by simp [h.len], fun i x hx => ?_⟩
 have hl := h.len
 by_cases e : k = i
 ·subst e
  have hk : k < am.length := by
   have := (List.getElem?_eq_some_iff.1 hx).1
   simpa using this
  rw [List.getElem?_set_self hk] at hx
  cases hx
  exact ⟨l', List.getElem?_set_self (by omega), g⟩
 ·rw [List.getElem?_set_ne e] at hx ⊢
  exact h.g i x hx
theorem GM.get {am m : Xm} (h : GM τ am m) {k : Nat} {l : List Value} (e : am[k]? = some l) {l' : List Value} (e' : m[k]? = some l') : All2 (G0 τ) l l' := by
 obtain ⟨x, hx, g⟩ := h.g k l e
 rw [e'] at hx
 cases hx
 exact g
end
end Go.Proofs.YtbophanlmkbfeaaGreatDoor
