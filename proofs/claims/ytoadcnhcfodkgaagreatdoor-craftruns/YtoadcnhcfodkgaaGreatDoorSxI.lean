/-
  A symbolic run: what is shown of functions, and how it serves their callers, for the seat YtoadcnhcfodkgaaGreatDoor. No Go text in sight.
-/
import Derived.Test.YtoadcnhcfodkgaaGreatDoorSxH
namespace Go.Proofs.YtoadcnhcfodkgaaGreatDoor
open Go.RowKit

theorem arr_fl {b : Nat} {bad : Bool} {w : World} (h : Fl b bad w) : Arr b [.bool bad] w :=
  ⟨fun i hi => by
    have : i = 0 := by simp at hi; omega
    subst this
    exact h.cell, fun i hi => by
    have : i = 0 := by simp at hi; omega
    subst this
    exact h.free, h.lies⟩
theorem fl_arr {b : Nat} {bad : Bool} {w : World} (h : Arr b [.bool bad] w) : Fl b bad w := ⟨h.c 0 (by simp), h.f 0 (by simp), h.lies⟩
/-! ### Arguments and results -/
structure Dc (A : Type) where
  enc : A → Value
  dec : Value → Option A
  law : ∀ v x, dec v = some x → v = enc x
  np : ∀ x, isP (enc x) = false
structure Dl (A : Type) where
  enc : A → List Value
  dec : List Value → Option A
  law : ∀ v x, dec v = some x → v = enc x
  np : ∀ x, ∀ v ∈ enc x, isP v = false
def cI : Dc Int where
  enc x := .int .i64 x
  dec v := match v with
    | .int .i64 x => some x
    | _ => none
  law v x h := by
    split at h
    · cases h; rfl
    · cases h
  np _ := rfl
def cB : Dc Bool where
  enc x := .bool x
  dec v := match v with
    | .bool x => some x
    | _ => none
  law v x h := by
    split at h
    · cases h; rfl
    · cases h
  np _ := rfl
def cU : Dc Unit where
  enc _ := .tuple #[]
  dec v := match v with
    | .tuple ⟨[]⟩ => some ()
    | _ => none
  law v x h := by
    split at h
    · rfl
    · cases h
  np _ := rfl
def cV3 : Dc (Int × Int × Int) where
  enc p := .agg #[.int .i64 p.1, .int .i64 p.2.1, .int .i64 p.2.2]
  dec v := match v with
    | .agg ⟨[.int .i64 a, .int .i64 b, .int .i64 c]⟩ => some (a, b, c)
    | _ => none
  law v x h := by
    split at h
    · cases h; rfl
    · cases h
  np _ := rfl
def cV4 : Dc (Int × Int × Int × Int) where
  enc p := .agg #[.int .i64 p.1, .int .i64 p.2.1, .int .i64 p.2.2.1, .int .i64 p.2.2.2]
  dec v := match v with
    | .agg ⟨[.int .i64 a, .int .i64 b, .int .i64 c, .int .i64 d]⟩ => some (a, b, c, d)
    | _ => none
  law v x h := by
    split at h
    · cases h; rfl
    · cases h
  np _ := rfl
def cV6 : Dc (Int × Int × Int × Int × Int × Int) where
  enc p := .agg #[.int .i64 p.1, .int .i64 p.2.1, .int .i64 p.2.2.1, .int .i64 p.2.2.2.1, .int .i64 p.2.2.2.2.1, .int .i64 p.2.2.2.2.2]
  dec v := match v with
    | .agg ⟨[.int .i64 a, .int .i64 b, .int .i64 c, .int .i64 d, .int .i64 e, .int .i64 f]⟩ => some (a, b, c, d, e, f)
    | _ => none
  law v x h := by
    split at h
    · cases h; rfl
    · cases h
  np _ := rfl
def cV7 : Dc (Int × Int × Int × Int × Int × Int × Int) where
  enc p := .agg #[.int .i64 p.1, .int .i64 p.2.1, .int .i64 p.2.2.1, .int .i64 p.2.2.2.1, .int .i64 p.2.2.2.2.1, .int .i64 p.2.2.2.2.2.1, .int .i64 p.2.2.2.2.2.2]
  dec v := match v with
    | .agg ⟨[.int .i64 a, .int .i64 b, .int .i64 c, .int .i64 d, .int .i64 e, .int .i64 f, .int .i64 g]⟩ => some (a, b, c, d, e, f, g)
    | _ => none
  law v x h := by
    split at h
    · cases h; rfl
    · cases h
  np _ := rfl
def cV9 : Dc (Int × Int × Int × Int × Int × Int × Int × Int × Int) where
  enc p := .agg #[.int .i64 p.1, .int .i64 p.2.1, .int .i64 p.2.2.1, .int .i64 p.2.2.2.1, .int .i64 p.2.2.2.2.1, .int .i64 p.2.2.2.2.2.1, .int .i64 p.2.2.2.2.2.2.1, .int .i64 p.2.2.2.2.2.2.2.1, .int .i64 p.2.2.2.2.2.2.2.2]
  dec v := match v with
    | .agg ⟨[.int .i64 a, .int .i64 b, .int .i64 c, .int .i64 d, .int .i64 e, .int .i64 f, .int .i64 g, .int .i64 h, .int .i64 i]⟩ => some (a, b, c, d, e, f, g, h, i)
    | _ => none
  law v x h := by
    split at h
    · cases h; rfl
    · cases h
  np _ := rfl
def two' {A B : Type} (c : Dc A) (d : Dc B) : Dc (A × B) where
  enc p := .tuple #[c.enc p.1, d.enc p.2]
  dec v := match v with
    | .tuple ⟨[x, y]⟩ => (match c.dec x, d.dec y with
      | some a, some b => some (a, b)
      | _, _ => none)
    | _ => none
  law v x h := by
    split at h
    · split at h
      · rename_i h1 h2
        cases h
        rw [c.law _ _ h1, d.law _ _ h2]
      · cases h
    · cases h
  np _ := rfl
def lone' {A : Type} (c : Dc A) : Dl A where
  enc x := [c.enc x]
  dec l := match l with
    | [v] => c.dec v
    | _ => none
  law v x h := by
    split at h
    · rw [c.law _ _ h]
    · cases h
  np x v hv := by
    rw [List.mem_singleton] at hv
    rw [hv]
    exact c.np x
def then' {A B : Type} (c : Dc A) (d : Dl B) : Dl (A × B) where
  enc x := c.enc x.1 :: d.enc x.2
  dec l := match l with
    | v :: vs => (match c.dec v, d.dec vs with
      | some a, some b => some (a, b)
      | _, _ => none)
    | [] => none
  law v x h := by
    split at h
    · split at h
      · rename_i h1 h2
        cases h
        rw [c.law _ _ h1, d.law _ _ h2]
      · cases h
    · cases h
  np x v hv := by
    rcases List.mem_cons.1 hv with e | e
    · rw [e]; exact c.np x.1
    · exact d.np x.2 v e
def none' : Dl Unit where
  enc _ := []
  dec l := match l with
    | [] => some ()
    | _ => none
  law v x h := by
    split at h
    · rfl
    · cases h
  np x v hv := by cases hv
def ptr (b : Nat) : Value := .pointer (some ⟨b, 0, none⟩)
/-- What is asked behind a flow's function. -/
def PK {R : Type} (k : Dc R) (Post : Value → Option Bool → Prop) (r : R × Bool) : Prop := Post (k.enc r.1) (some r.2)
def PJ {R : Type} (k : Dc R) (Post : Value → Prop) (r : R) : Prop := Post (k.enc r)
/-- A function that works in a flow. -/
def FlowOk (P : Program) (fn : Nat) {A R : Type} (d : Dl A) (g : Bool → A → R × Bool) (c : Dc R) : Prop :=
  ∀ b bad x w, GW w → 1 < b → Fl b bad w → Calls P fn (ptr b :: d.enc x).toArray w fun e w' => e = .returned (c.enc (g bad x).1) ∧ Fl b (g bad x).2 w' ∧ Kept b w w'
/-- A function that works in none. -/
def PureOk (P : Program) (fn : Nat) {A R : Type} (d : Dl A) (g : A → R) (c : Dc R) : Prop :=
  ∀ x w, GW w → Calls P fn (d.enc x).toArray w fun e w' => e = .returned (c.enc (g x)) ∧ Below w.heap.size w w'
def retQ (P : Program) (fn : Func) (Post : Value → Xm → Prop) : VQ := fun e vt m =>
  match e with
  | .normal => (match resV P fn vt m with
    | some v => Post v m
    | none => False)
  | .ret => (match resV P fn vt m with
    | some v => Post v m
    | none => False)
  | _ => False
section
variable {P : Program} {tbl : List (Ct P)} {dirty : Nat → List Nat} {n : Nat}
theorem calls_sx (hm : P.follows .mixedOrders = true) {f : Nat} {fn : Func} {c : Code} (hf : P.funcs[f]? = some fn) (hb : fn.body = some c) {bs : List Nat} {w : World} {bl : Bl} {m : Xm} {vargs : List Value} {args : Array Value}
    (R : RW bs w bl m w) (hl : bl.length = m.length) (hs : args.size = vargs.length) (hv : ∀ i, RV bl (vargs.getD i undef) (args.getD i undef)) {Post : Value → Xm → Prop}
    (h : swp P tbl dirty n c (retQ P fn Post) (vargs ++ List.replicate (fn.ntmps - vargs.length) undef) m) :
    Calls P f args w fun e w' => ∃ v bl' m', e = .returned v ∧ Post v m' ∧ RW bs w bl' m' w' ∧ Le bl bl' := by
  refine calls_of_wp hf hb (swp_sound (ds := []) (bl0 := bl) hm c _ _ bl _ m _ w ?_ h ⟨⟨?_, ?_⟩, R, Le.refl _, hl, rfl⟩)
  · intro e bl' vt' m' a' w' h' r'
    cases e with
    | normal =>
      simp only [retQ] at h'
      split at h'
      · rename_i v hv
        exact ⟨r'.defers, v, resV_run r'.F r'.R hv, v, bl', m', rfl, h', r'.R, r'.le⟩
      · exact h'.elim
    | ret =>
      simp only [retQ] at h'
      split at h'
      · rename_i v hv
        exact ⟨r'.defers, v, resV_run r'.F r'.R hv, v, bl', m', rfl, h', r'.R, r'.le⟩
      · exact h'.elim
    | exit id => exact h'.elim
    | goto l => exact h'.elim
    | panic ch => exact h'.elim
    | outgrown => exact h'.elim
  · simp [hs]
  · intro t
    by_cases ht : t < vargs.length
    · have := hv t
      simp only [List.getD_eq_getElem?_getD, Array.getD_eq_getD_getElem?] at this ⊢
      rw [List.getElem?_append_left ht, Array.getElem?_append_left (by omega)]
      exact this
    · simp only [List.getD_eq_getElem?_getD, Array.getD_eq_getD_getElem?]
      rw [List.getElem?_append_right (by omega), Array.getElem?_append_right (by omega), hs]
      by_cases h2 : t - vargs.length < fn.ntmps - vargs.length
      · rw [List.getElem?_eq_getElem (by simpa using h2), Array.getElem?_eq_getElem (by simpa using h2)]
        simp
        rfl
      · rw [List.getElem?_eq_none (by simpa using h2), Array.getElem?_eq_none (by simpa using h2)]
        rfl
/-- The flow's bool. -/
def flagOf : Xm → Option Bool
  | [.bool b] :: _ => some b
  | _ => none
theorem flagOf_some {m : Xm} {b : Bool} (h : flagOf m = some b) : m[0]? = some [.bool b] := by
  unfold flagOf at h
  split at h
  · cases h; rfl
  · cases h
theorem flow_sx (hm : P.follows .mixedOrders = true) {f : Nat} {fn : Func} {c : Code} (hf : P.funcs[f]? = some fn) (hb : fn.body = some c) {A R : Type} {d : Dl A} {g : Bool → A → R × Bool} {k : Dc R}
    (h : ∀ (bad : Bool) (x : A) (Post : Value → Option Bool → Prop), swp P tbl dirty n c (retQ P fn (fun v m => Post v (flagOf m))) ((ptr 0 :: d.enc x) ++ List.replicate (fn.ntmps - (ptr 0 :: d.enc x).length) undef) [[.bool bad]] = PK k Post (g bad x)) : FlowOk P f d g k := by
  intro b bad x w hg hb1 hw
  have R : RW [b] w [some b] [[.bool bad]] w := by
    refine ⟨fun i B hi => ?_, fun i j B hi hj => ?_, fun i B hi => ?_, rfl, rfl, rfl, Nat.le_refl _, fun _ _ _ => rfl, hg, by simpa using hb1⟩
    · match i, hi with
      | 0, hi => cases hi; exact ⟨_, rfl, arr_fl hw⟩
    · match i, j, hi, hj with
      | 0, 0, _, _ => rfl
    · match i, hi with
      | 0, hi => cases hi; exact .inl List.mem_cons_self
  refine Calls.mono (calls_sx hm hf hb (vargs := ptr 0 :: d.enc x) R rfl (by simp) (fun i => ?_) (Eq.mpr (h bad x (fun v o => v = k.enc (g bad x).1 ∧ o = some (g bad x).2)) (show _ ∧ _ from ⟨rfl, rfl⟩))) ?_
  · cases i with
    | zero => exact ⟨b, rfl, rfl⟩
    | succ i =>
      by_cases hi : i < (d.enc x).length
      · have := d.np x _ (List.getElem_mem hi)
        simp only [List.getD_eq_getElem?_getD, Array.getD_eq_getD_getElem?]
        simp [hi]
        exact .same this
      · simp only [List.getD_eq_getElem?_getD, Array.getD_eq_getD_getElem?]
        simp [hi]
        rfl
  · rintro e w' ⟨v, bl', m2, rfl, ⟨rfl, h2⟩, R', hle⟩
    obtain ⟨l, e, A⟩ := R'.arr 0 b (hle 0 b rfl)
    rw [flagOf_some h2] at e
    cases e
    exact ⟨rfl, fl_arr A, R'.os, R'.tape, R'.output, R'.size, fun i hi hb => R'.block i hi (by simpa using hb)⟩
theorem pure_sx (hm : P.follows .mixedOrders = true) {f : Nat} {fn : Func} {c : Code} (hf : P.funcs[f]? = some fn) (hb : fn.body = some c) {A R : Type} {d : Dl A} {g : A → R} {k : Dc R}
    (h : ∀ (x : A) (Post : Value → Prop), swp P tbl dirty n c (retQ P fn (fun v _ => Post v)) (d.enc x ++ List.replicate (fn.ntmps - (d.enc x).length) undef) [] = PJ k Post (g x)) : PureOk P f d g k := by
  intro x w hg
  have R : RW [] w [] [] w := ⟨fun i B hi => (by cases hi), fun i j B hi => (by cases hi), fun i B hi => (by cases hi), rfl, rfl, rfl, Nat.le_refl _, fun _ _ _ => rfl, hg, fun b hb => by cases hb⟩
  refine Calls.mono (calls_sx hm hf hb (vargs := d.enc x) R rfl (by simp) (fun i => ?_) (Eq.mpr (h x (fun v => v = k.enc (g x))) (show _ = _ from rfl))) ?_
  · by_cases hi : i < (d.enc x).length
    · have := d.np x _ (List.getElem_mem hi)
      simp only [List.getD_eq_getElem?_getD, Array.getD_eq_getD_getElem?]
      simp [hi]
      exact .same this
    · simp only [List.getD_eq_getElem?_getD, Array.getD_eq_getD_getElem?]
      simp [hi]
      rfl
  · rintro e w' ⟨v, bl', m2, rfl, rfl, R', _⟩
    exact ⟨rfl, R'.os, R'.tape, R'.output, R'.size, fun i hi => R'.block i hi (by simp)⟩
end
/-! ### To callers -/
theorem RW.flow {bs : List Nat} {w0 : World} {bl : Bl} {m : Xm} {w w' : World} (h : RW bs w0 bl m w) {k B : Nat} {bad bad' : Bool} (hk : bl[k]? = some (some B)) (hm : m[k]? = some [.bool bad]) (F : Fl B bad' w') (K : Kept B w w') : RW bs w0 bl (m.set k [.bool bad']) w' := by
  have hkl : k < m.length := (List.getElem?_eq_some_iff.1 hm).1
  refine ⟨fun k' B' hk' => ?_, h.inj, fun k' B' hk' => (h.own k' B' hk').imp id (Or.imp id fun e => none_set e (fun e2 => by subst e2; rw [hm] at e; cases e)), K.os.trans h.os, K.tape.trans h.tape, K.output.trans h.output, Nat.le_trans h.size K.size, fun i hi hb => ?_, h.gw⟩
  · by_cases e : k = k'
    · subst e
      rw [hk] at hk'
      cases hk'
      exact ⟨_, List.getElem?_set_self hkl, arr_fl F⟩
    · obtain ⟨l2, e2, A2⟩ := h.arr k' B' hk'
      exact ⟨l2, by rw [List.getElem?_set_ne e]; exact e2, A2.kept K (fun e3 => e (h.inj k k' B hk (e3 ▸ hk')))⟩
  · have hB : i ≠ B := by
      rintro rfl
      rcases h.own k i hk with hb' | hb' | hb'
      · exact hb hb'
      · omega
      · rw [hm] at hb'
        cases hb'
    rw [K.block i (by have := h.size; omega) hB]
    exact h.block i hi hb
theorem RW.pure {bs : List Nat} {w0 : World} {bl : Bl} {m : Xm} {w w' : World} (h : RW bs w0 bl m w) (K : Below w.heap.size w w') : RW bs w0 bl m w' :=
  ⟨fun k B hk => let ⟨l, h1, A⟩ := h.arr k B hk; ⟨l, h1, A.below K⟩, h.inj, h.own, K.os.trans h.os, K.tape.trans h.tape, K.output.trans h.output, Nat.le_trans h.size K.size, fun i hi hb => by
    rw [K.block i (by have := h.size; omega)]
    exact h.block i hi hb, h.gw⟩
theorem args_same {bl : Bl} {l : List Value} {args' : Array Value} (hs : args'.size = l.length) (hv : ∀ i, RV bl (l.getD i undef) (args'.getD i undef)) (hp : ∀ v ∈ l, isP v = false) : args' = l.toArray := by
  refine Array.ext (by simp [hs]) (fun i h1 h2 => ?_)
  have hi : i < l.length := by omega
  have := hv i
  simp only [List.getD_eq_getElem?_getD, Array.getD_eq_getD_getElem?] at this
  rw [List.getElem?_eq_getElem hi, Array.getElem?_eq_getElem h1] at this
  simpa using this.plain (hp _ (List.getElem_mem hi))
def flowCt (P : Program) (fn : Nat) {A R : Type} (d : Dl A) (g : Bool → A → R × Bool) (c : Dc R) (go : ∀ (args : Array Value) (w : World), (callFunc fn args).run P w = .ok (.enter fn args) w) (h : FlowOk P fn d g c) : Ct P where
  fn := fn
  sp := fun args m K => match args with
    | .pointer (some ⟨k, 0, none⟩) :: rest => (match d.dec rest, m[k]? with
      | some x, some [.bool bad] => K (c.enc (g bad x).1) (m.set k [.bool (g bad x).2])
      | _, _ => False)
    | _ => False
  go := go
  mono := fun hK hs => by
    split at hs
    · split at hs
      · exact hK _ _ hs
      · exact hs
    · exact hs
  keep := fun {args m K} hs => by
    split at hs
    · rename_i k rest
      split at hs
      · refine ⟨hs, List.length_set .., fun k' hk' => ?_⟩
        have e : k ≠ k' := by rintro rfl; exact hk' (by simp [ptrs])
        rw [List.getElem?_set_ne e]
      · exact hs
    · exact hs
  ok := fun {bs w0 bl m w args args' K} R hlen hv hs => by
    split at hs
    · rename_i k rest
      split at hs
      · rename_i x bad hd hmk
        have h0 := hv 0
        obtain ⟨B, hB, he⟩ := h0
        have hrest := d.law _ _ hd
        have hargs : args' = (ptr B :: d.enc x).toArray := by
          refine Array.ext (by rw [hlen, hrest]; simp) (fun i h1 h2 => ?_)
          cases i with
          | zero =>
            simp only [Array.getD_eq_getD_getElem?, Array.getElem?_eq_getElem h1] at he
            simpa [ptr] using he
          | succ i =>
            have hi : i < rest.length := by simp at hlen; omega
            have := hv (i + 1)
            simp only [List.getD_eq_getElem?_getD, Array.getD_eq_getD_getElem?, List.getElem?_cons_succ] at this
            rw [List.getElem?_eq_getElem hi, Array.getElem?_eq_getElem h1] at this
            have e := this.plain (d.np x _ (by rw [← hrest]; exact List.getElem_mem hi))
            simp only [Option.getD_some] at e
            rw [e]
            simp [hrest]
        obtain ⟨l2, e2, A⟩ := R.arr k B hB
        have e2 : m[k]? = some l2 := e2
        rw [hmk] at e2
        cases e2
        rw [hargs]
        refine Calls.mono (h B bad x w R.gwAt (R.gt hB hmk (List.cons_ne_nil _ _)) (fl_arr A)) ?_
        rintro e w' ⟨rfl, F, Kp⟩
        exact ⟨_, _, _, rfl, .same (c.np _), hs, R.flow hB hmk F Kp⟩
      · exact hs.elim
    · exact hs.elim
def pureCt (P : Program) (fn : Nat) {A R : Type} (d : Dl A) (g : A → R) (c : Dc R) (go : ∀ (args : Array Value) (w : World), (callFunc fn args).run P w = .ok (.enter fn args) w) (h : PureOk P fn d g c) : Ct P where
  fn := fn
  sp := fun args m K => match d.dec args with
    | some x => K (c.enc (g x)) m
    | none => False
  go := go
  mono := fun hK hs => by
    split at hs
    · exact hK _ _ hs
    · exact hs
  keep := fun {args m K} hs => by
    split at hs
    · exact ⟨hs, rfl, fun _ _ => rfl⟩
    · exact hs
  ok := fun {bs w0 bl m w args args' K} R hlen hv hs => by
    split at hs
    · rename_i x hd
      have hl := d.law _ _ hd
      rw [args_same hlen hv (by rw [hl]; exact d.np x), hl]
      refine Calls.mono (h x w R.gwAt) ?_
      rintro e w' ⟨rfl, Kp⟩
      exact ⟨_, _, _, rfl, .same (c.np _), hs, R.pure Kp⟩
    · exact hs.elim
theorem go_of {P : Program} {f : Nat} {fn : Func} (hf : P.funcs[f]? = some fn) (h : (fn.name == "runtime.NumGoroutine") = false) (hb : fn.body.isNone = false) (args : Array Value) (w : World) : (callFunc f args).run P w = .ok (.enter f args) w := by
  have h1 : fn.name ≠ "runtime.NumGoroutine" := by simpa using h
  have h2 : fn.body ≠ none := fun e => by rw [e] at hb; cases hb
  unfold callFunc
  simp [program, Sem.run, hf, h1, h2]
end Go.Proofs.YtoadcnhcfodkgaaGreatDoor
