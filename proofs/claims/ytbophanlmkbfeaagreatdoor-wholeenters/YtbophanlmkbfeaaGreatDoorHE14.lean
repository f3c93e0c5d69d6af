/-
A part.
A part.
A part.
A part.
A part.
A part.
A part.
-/
import Derived.WalkKit
import Derived.Test.YtbophanlmkbfeaaGreatDoorProg
import Derived.WalkLawsBesides
import Derived.Laws.BitsAllLaws
import Derived.Test.YtbophanlmkbfeaaGreatDoorHE13
import Derived.Test.YtbophanlmkbfeaaGreatDoorHE06
namespace Go.Proofs.YtbophanlmkbfeaaGreatDoor
open Go.RowKit
section
variable (F : Fs) (T : Cra × Int × ByteArray → Cra × Hea)
def setDri (c : Cra) (d : Dri) : Cra := (c.1, c.2.1, c.2.2.1, c.2.2.2.1, c.2.2.2.2.1, c.2.2.2.2.2.1, d, c.2.2.2.2.2.2.2)
def setGue (c : Cra) (g : Tup 43) : Cra := (c.1, c.2.1, c.2.2.1, c.2.2.2.1, c.2.2.2.2.1, c.2.2.2.2.2.1, c.2.2.2.2.2.2.1, g, c.2.2.2.2.2.2.2.2)
def setEnd (c : Cra) (t : Int) (p : Tup 6) (g : Tup 43) : Cra := (true, t, c.2.2.1, p, c.2.2.2.2.1, c.2.2.2.2.2.1, c.2.2.2.2.2.2.1, g, c.2.2.2.2.2.2.2.2)
def endW (c : Cra) (s : See) (x : Hea) (y : Sky) (t : Int) : Cra × ByteArray := (setEnd c t (planW F c s x y).1 (planW F c s x y).2, toldW F (setEnd c t (planW F c s x y).1 (planW F c s x y).2))
def goW (c : Cra) (x : Hea) (t : Int) : Cra × ByteArray :=
 if decide (c.2.2.2.1.1 = 2) then
  (if !(decW F c t x (skyW F c t)).1 then endW F (setGue c (filW F c.2.2.2.2.2.2.2.1 (decW F c t x (skyW F c t)) (IntKind.i64.wrap (t - c.2.1)) x (skyW F c t)).1) (filW F c.2.2.2.2.2.2.2.1 (decW F c t x (skyW F c t)) (IntKind.i64.wrap (t - c.2.1)) x (skyW F c t)).2 x (skyW F c t) t
  else endW F c (decW F c t x (skyW F c t)) x (skyW F c t) t)
 else endW F c (decW F c t x (skyW F c t)) x (skyW F c t) t
def stepR (c : Cra) (t : Int) (b : ByteArray) : Cra × ByteArray := goW F (setDri (T (c, t, b)).1 (driftW F (T (c, t, b)).1.2.2.2.2.2.2.1 (T (c, t, b)).2)) (T (c, t, b)).2 t
def stepW (c : Cra) (t : Int) (b : ByteArray) : Cra × ByteArray :=
 if !F.right t then (c, noBytes) else if c.1 then (if decide (t ≤ c.2.1) then (c, noBytes) else stepR F T c t b) else stepR F T c t b
def goV (c : Cra) (x : Hea) (t : Int) (Post : Value → Prop) : Prop :=
 vif (decide (c.2.2.2.1.1 = 2))
  (vif (!(decW F c t x (skyW F c t)).1) (PJ (two' cCra cS) Post (endW F (setGue c (filW F c.2.2.2.2.2.2.2.1 (decW F c t x (skyW F c t)) (IntKind.i64.wrap (t - c.2.1)) x (skyW F c t)).1) (filW F c.2.2.2.2.2.2.2.1 (decW F c t x (skyW F c t)) (IntKind.i64.wrap (t - c.2.1)) x (skyW F c t)).2 x (skyW F c t) t))
  (PJ (two' cCra cS) Post (endW F c (decW F c t x (skyW F c t)) x (skyW F c t) t)))
 (PJ (two' cCra cS) Post (endW F c (decW F c t x (skyW F c t)) x (skyW F c t) t))
theorem goV_is (c : Cra) (x : Hea) (t : Int) (Post : Value → Prop) : goV F c x t Post = PJ (two' cCra cS) Post (goW F c x t) := by
 unfold goV goW
 rw [vif_b (K := PJ (two' cCra cS) Post), vif_b (K := PJ (two' cCra cS) Post)]
set_option maxRecDepth 100000 in
theorem step_at (h : FsOk F) (x : Cra × Int × ByteArray) (y : Cra × Hea) (hT : ∀ w, GW w → Calls Tryz.prog 23 ((then' cCra (then' cI (lone' cS))).enc x).toArray w fun e w' => e = .returned ((two' cCra cHea).enc y) ∧ Below w.heap.size w w') (w : World) (hw : GW w) :
    Calls Tryz.prog 9 ((then' cCra (then' cI (lone' cS))).enc x).toArray w fun e w' => e = .returned ((two' cCra cS).enc (stepW F (fun _ => y) x.1 x.2.1 x.2.2)) ∧ Below w.heap.size w w' := by
 refine pure_at (d := then' cCra (then' cI (lone' cS))) (k := two' cCra cS) (x := x) (y := stepW F (fun _ => y) x.1 x.2.1 x.2.2) (tbl := [ctright F h, ctAt Tryz.prog 23 (then' cCra (then' cI (lone' cS))) (two' cCra cHea) x y (go_of Tryz.func23 (by kernel_rfl) (by kernel_rfl)) hT, ctdrifted F h, ctskyAt F h, ctdecided F h, ctfiltered F h, ctplanned F h, cttold F h]) (dirty := fun _ => []) (n := 4) xmixA Tryz.func9 rfl (fun Post hP => ?_) w hw
 refine Eq.mpr (β := vif (!F.right x.2.1) (PJ (two' cCra cS) Post (x.1, noBytes)) (vif x.1.1 (vif (decide (x.2.1 ≤ x.1.2.1)) (PJ (two' cCra cS) Post (x.1, noBytes)) ((then' cCra (then' cI (lone' cS))).enc x = (then' cCra (then' cI (lone' cS))).enc x ∧ goV F (setDri y.1 (driftW F y.1.2.2.2.2.2.2.1 y.2)) y.2 x.2.1 Post)) ((then' cCra (then' cI (lone' cS))).enc x = (then' cCra (then' cI (lone' cS))).enc x ∧ goV F (setDri y.1 (driftW F y.1.2.2.2.2.2.2.1 y.2)) y.2 x.2.1 Post))) (by kernel_rfl) ?_
 simp only [true_and, goV_is]
 rw [vif_b (K := PJ (two' cCra cS) Post), vif_b (K := PJ (two' cCra cS) Post), vif_b (K := PJ (two' cCra cS) Post)]
 exact hP
end
end Go.Proofs.YtbophanlmkbfeaaGreatDoor
namespace Go.Proofs.YtbophanlmkbfeaaGreatDoor
open Go.RowKit
abbrev Ov := Nat → Option (Array Oper → Bool → (List Value → Xm → Prop) → List Value → Xm → Prop)
def swpO (P : Program) (tbl : List (Ct P)) (dirty : Nat → List Nat) (n : Nat) (ov : Ov) : Code → VQ → List Value → Xm → Prop
 | .skip, Q, vt, m => Q .normal vt m
 | .region id ops draw, Q, vt, m => (match ov id with
  | some R => R ops draw (Q .normal) vt m
  | none => vregion P tbl dirty id ops draw (Q .normal) vt m)
 | .seq x y, Q, vt, m => swpO P tbl dirty n ov x (fun e vt' m' => match e with
  | .normal => swpO P tbl dirty n ov y Q vt' m'
  | e => Q e vt' m') vt m
 | .cond c x y, Q, vt, m => (match okX c, VE vt c with
  | true, .bool b => vif b (swpO P tbl dirty n ov x Q (vset vt c true) m) (swpO P tbl dirty n ov y Q (vset vt c false) m)
  | _, _ => False)
 | .block id c, Q, vt, m => swpO P tbl dirty n ov c (fun e vt' m' => match e with
  | .exit id' => if id' = id then Q .normal vt' m' else Q (.exit id') vt' m'
  | e => Q e vt' m') vt m
 | .loop c, Q, vt, m => loopN n (swpO P tbl dirty n ov c) Q vt m
 | .exit id, Q, vt, m => Q (.exit id) vt m
 | .label _, Q, vt, m => Q .normal vt m
 | .ret, Q, vt, m => Q .ret vt m
 | _, _, _, _ => False
def OvOk (P : Program) (ov : Ov) (bs : List Nat) (w0 : World) (ds : List Deferred) (bl0 : Bl) : Code → Prop
 | .region id ops draw => ∀ R, ov id = some R → ∀ (K : List Value → Xm → Prop) (Q : Exit → Act → World → Prop) (bl : Bl) (vt : List Value) (m : Xm) (a : Act) (w : World), R ops draw K vt m → Rl bs w0 ds bl0 bl vt m a w → (∀ bl vt m a w, K vt m → Rl bs w0 ds bl0 bl vt m a w → Q .normal a w) → (Code.region id ops draw).wp P Q a w
 | .seq x y => OvOk P ov bs w0 ds bl0 x ∧ OvOk P ov bs w0 ds bl0 y
 | .cond _ x y => OvOk P ov bs w0 ds bl0 x ∧ OvOk P ov bs w0 ds bl0 y
 | .block _ c => OvOk P ov bs w0 ds bl0 c
 | .loop c => OvOk P ov bs w0 ds bl0 c
 | _ => True
section
variable {P : Program} {tbl : List (Ct P)} {bs : List Nat} {w0 : World} {ds : List Deferred} {dirty : Nat → List Nat} {n : Nat} {bl0 : Bl} {ov : Ov}
theorem swpO_sound (hm : P.follows .mixedOrders = true) : ∀ (c : Code) (Q : VQ) (Q' : Exit → Act → World → Prop) (bl : Bl) (vt : List Value) (m : Xm) (a : Act) (w : World), OvOk P ov bs w0 ds bl0 c → Stands bs w0 ds bl0 Q Q' → swpO P tbl dirty n ov c Q vt m → Rl bs w0 ds bl0 bl vt m a w → c.wp P Q' a w := by
 intro c
 induction c with
 | skip => intro Q Q' bl vt m a w _ hQ h r; exact wp_skip (hQ _ bl vt m a w h r)
 | region id ops draw =>
  intro Q Q' bl vt m a w ho hQ h r
  unfold swpO at h
  split at h
  ·rename_i R hR
   exact ho R hR _ Q' bl vt m a w h r (fun bl vt m a w hk hr => hQ _ bl vt m a w hk hr)
  ·exact vregion_sound hm (fun bl vt m a w hk hr => hQ _ bl vt m a w hk hr) h r
 | seq x y ihx ihy =>
  intro Q Q' bl vt m a w ho hQ h r
  refine wp_seq (ihx _ _ bl vt m a w ho.1 ?_ h r)
  intro e bl' vt' m' a' w' h' r'
  cases e with
  | normal => exact ihy Q Q' bl' vt' m' a' w' ho.2 hQ h' r'
  | exit id => exact hQ _ bl' vt' m' a' w' h' r'
  | goto l => exact hQ _ bl' vt' m' a' w' h' r'
  | ret => exact hQ _ bl' vt' m' a' w' h' r'
  | panic ch => exact hQ _ bl' vt' m' a' w' h' r'
  | outgrown => exact hQ _ bl' vt' m' a' w' h' r'
 | cond c x y ihx ihy =>
  intro Q Q' bl vt m a w ho hQ h r
  unfold swpO at h
  split at h
  ·rename_i b hok hb
   have hv := r.F.eval hok
   rw [hb] at hv
   have hv : a.eval c = .bool b := hv
   refine wp_cond_split hv (fun e => ?_) (fun e => ?_)
   ·subst e; exact ihx Q Q' bl _ m a w ho.1 hQ h ⟨r.F.vset hb, r.R, r.le, r.len, r.defers⟩
   ·subst e; exact ihy Q Q' bl _ m a w ho.2 hQ h ⟨r.F.vset hb, r.R, r.le, r.len, r.defers⟩
  ·exact h.elim
 | block id c ih =>
  intro Q Q' bl vt m a w ho hQ h r
  refine wp_block (ih _ _ bl vt m a w ho ?_ h r)
  intro e bl' vt' m' a' w' h' r'
  cases e with
  | exit id' =>
   dsimp only at h'
   unfold Exit.inBlock
   dsimp only
   split at h'
   ·rename_i e
    rw [if_pos e]
    exact hQ _ bl' vt' m' a' w' h' r'
   ·rename_i e
    rw [if_neg e]
    exact hQ _ bl' vt' m' a' w' h' r'
  | normal => exact hQ _ bl' vt' m' a' w' h' r'
  | goto l => exact hQ _ bl' vt' m' a' w' h' r'
  | ret => exact hQ _ bl' vt' m' a' w' h' r'
  | panic ch => exact hQ _ bl' vt' m' a' w' h' r'
  | outgrown => exact hQ _ bl' vt' m' a' w' h' r'
 | loop c ih =>
  intro Q Q' bl vt m a w ho hQ h r
  refine wp_loop_rounds n ?_
  have key : ∀ k bl vt m a w, loopN k (swpO P tbl dirty n ov c) Q vt m → Rl bs w0 ds bl0 bl vt m a w → Code.rounds P c Q' k a w := by
   intro k
   induction k with
   | zero => intro bl vt m a w h _; exact h
   | succ k ihk =>
    intro bl vt m a w h r
    refine ih _ _ bl vt m a w ho ?_ h r
    intro e bl' vt' m' a' w' h' r'
    cases e with
    | normal => exact ihk bl' vt' m' a' w' h' r'
    | exit id => exact hQ _ bl' vt' m' a' w' h' r'
    | goto l => exact hQ _ bl' vt' m' a' w' h' r'
    | ret => exact hQ _ bl' vt' m' a' w' h' r'
    | panic ch => exact hQ _ bl' vt' m' a' w' h' r'
    | outgrown => exact hQ _ bl' vt' m' a' w' h' r'
  exact key n bl vt m a w h r
 | exit id => intro Q Q' bl vt m a w _ hQ h r; exact wp_exit (hQ _ bl vt m a w h r)
 | label l => intro Q Q' bl vt m a w _ hQ h r; exact wp_label (hQ _ bl vt m a w h r)
 | ret => intro Q Q' bl vt m a w _ hQ h r; exact wp_ret (hQ _ bl vt m a w h r)
 | goto l => intro Q Q' bl vt m a w _ _ h _; exact h.elim
 | scope c _ => intro Q Q' bl vt m a w _ _ h _; exact h.elim
 | refuse s => intro Q Q' bl vt m a w _ _ h _; exact h.elim
 | rangeFunc f ps x y _ _ => intro Q Q' bl vt m a w _ _ h _; exact h.elim
end
section
variable {P : Program} {tbl : List (Ct P)} {dirty : Nat → List Nat} {n : Nat} {ov : Ov}
theorem calls_sxO (hm : P.follows .mixedOrders = true) {f : Nat} {fn : Func} {c : Code} (hf : P.funcs[f]? = some fn) (hb : fn.body = some c) {bs : List Nat} {w : World} {bl : Bl} {m : Xm} {vargs : List Value} {args : Array Value}
    (R : RW bs w bl m w) (hl : bl.length = m.length) (hs : args.size = vargs.length) (hv : ∀ i, RV bl (vargs.getD i undef) (args.getD i undef)) {Post : Value → Xm → Prop}
    (ho : OvOk P ov bs w [] bl c) (h : swpO P tbl dirty n ov c (retQ P fn Post) (vargs ++ List.replicate (fn.ntmps - vargs.length) undef) m) :
    Calls P f args w fun e w' => ∃ v bl' m', e = .returned v ∧ Post v m' ∧ RW bs w bl' m' w' ∧ Le bl bl' := by
 refine calls_of_wp hf hb (swpO_sound (ds := []) (bl0 := bl) hm c _ _ bl _ m _ w ho ?_ h ⟨⟨?_, ?_⟩, R, Le.refl _, hl, rfl⟩)
 ·intro e bl' vt' m' a' w' h' r'
  cases e with
  | normal =>
   simp only [retQ] at h'
   split at h'
   ·rename_i v hv
    exact ⟨r'.defers, v, resV_run r'.F r'.R hv, v, bl', m', rfl, h', r'.R, r'.le⟩
   ·exact h'.elim
  | ret =>
   simp only [retQ] at h'
   split at h'
   ·rename_i v hv
    exact ⟨r'.defers, v, resV_run r'.F r'.R hv, v, bl', m', rfl, h', r'.R, r'.le⟩
   ·exact h'.elim
  | exit id => exact h'.elim
  | goto l => exact h'.elim
  | panic ch => exact h'.elim
  | outgrown => exact h'.elim
 ·simp [hs]
 ·intro t
  by_cases ht : t < vargs.length
  ·have := hv t
   simp only [List.getD_eq_getElem?_getD, Array.getD_eq_getD_getElem?] at this ⊢
   rw [List.getElem?_append_left ht, Array.getElem?_append_left (by omega)]
   exact this
  ·simp only [List.getD_eq_getElem?_getD, Array.getD_eq_getD_getElem?]
   rw [List.getElem?_append_right (by omega), Array.getElem?_append_right (by omega), hs]
   by_cases h2 : t - vargs.length < fn.ntmps - vargs.length
   ·rw [List.getElem?_eq_getElem (by simpa using h2), Array.getElem?_eq_getElem (by simpa using h2)]
    simp
    rfl
   ·rw [List.getElem?_eq_none (by simpa using h2), Array.getElem?_eq_none (by simpa using h2)]
    rfl
end
end Go.Proofs.YtbophanlmkbfeaaGreatDoor
namespace Go.Proofs.YtbophanlmkbfeaaGreatDoor
open Go.RowKit
def dimv : Value → Value
 | .bool b => .bool b
 | _ => .nilIface
theorem RV.dim {bl bl' : Bl} {v v' : Value} (h : RV bl v v') : RV bl' (dimv v) v' := by
 cases hp : isP v
 ·rw [h.plain hp]
  cases v <;> rfl
 ·match v, h, hp with
  | .pointer (some a), ⟨B, _, e⟩, _ => rw [e]; rfl
  | .nilIface, h, _ => exact h
  | .slice (some a) _ _, ⟨B, _, e⟩, _ => rw [e]; rfl
def frm (ks : List (Nat × Value)) (d : Nat → Value) (n : Nat) : List Value := (List.range n).map fun j => match ks.lookup j with
 | some v => v
 | none => dimv (d j)
def ptrOk (k : Nat) : Value → Bool
 | .pointer (some a) => decide (a.block < k)
 | .slice (some a) _ _ => decide (a.block < k)
 | _ => true
theorem RV.cut {bl : Bl} {k : Nat} {v v' : Value} (h : RV bl v v') (hp : ptrOk k v = true) : RV (bl.take k) v v' := by
 cases hi : isP v
 ·rw [h.plain hi]
  exact .same hi
 ·match v, h, hi, hp with
  | .pointer (some a), ⟨B, h1, e⟩, _, hp =>
   have hp : a.block < k := of_decide_eq_true hp
   exact ⟨B, by rw [List.getElem?_take_of_lt hp]; exact h1, e⟩
  | .nilIface, h, _, _ => exact h
  | .slice (some a) _ _, ⟨B, h1, e⟩, _, hp =>
   have hp : a.block < k := of_decide_eq_true hp
   exact ⟨B, by rw [List.getElem?_take_of_lt hp]; exact h1, e⟩
theorem take_at' {bl : Bl} {k i B : Nat} (h : (bl.take k)[i]? = some (some B)) : i < k ∧ bl[i]? = some (some B) := by
 have hl := (List.getElem?_eq_some_iff.1 h).1
 rw [List.length_take] at hl
 have hk : i < k := by omega
 rw [List.getElem?_take_of_lt hk] at h
 exact ⟨hk, h⟩
theorem RW.cut {bs : List Nat} {w0 : World} {bl : Bl} {m : Xm} {w : World} (h : RW bs w0 bl m w) (k : Nat) : RW bs w0 (bl.take k) (m.take k) w := by
 refine ⟨fun i B hi => ?_, fun i j B hi hj => h.inj i j B (take_at' hi).2 (take_at' hj).2, fun i B hi => (h.own i B (take_at' hi).2).imp id (Or.imp id fun e => by rw [List.getElem?_take_of_lt (take_at' hi).1]; exact e), h.os, h.tape, h.output, h.size, h.block, h.gw⟩
 obtain ⟨hk, hi⟩ := take_at' hi
 obtain ⟨l, h1, A⟩ := h.arr i B hi
 exact ⟨l, by rw [List.getElem?_take_of_lt hk]; exact h1, A⟩
theorem lookup_of (f : Nat → Value) (j : Nat) : ∀ ks : List Nat, (ks.map fun i => (i, f i)).lookup j = if j ∈ ks then some (f j) else none
 | [] => rfl
 | k :: ks => by
  by_cases e : j = k
  ·subst e
   simp
  ·have e' : (j == k) = false := by simpa using e
   have ih := lookup_of f j ks
   simp only [List.map_cons, List.lookup, e', ih, List.mem_cons, e, false_or]
theorem FR.cut {bl : Bl} {vt : List Value} {tm : Array Value} (h : FR bl vt tm) {n k : Nat} {ks : List Nat} (hn : vt.length = n) (hp : (ks.all fun j => ptrOk k (vt.getD j undef)) = true) :
    FR (bl.take k) (frm (ks.map fun j => (j, vt.getD j undef)) (fun j => vt.getD j undef) n) tm := by
 refine ⟨by unfold frm; simp [h.len, hn], fun t => ?_⟩
 have h1 := h.rv t
 unfold frm
 by_cases ht : t < n
 ·rw [List.getD_eq_getElem?_getD, List.getElem?_map, List.getElem?_range ht]
  simp only [Option.map_some, Option.getD_some, lookup_of]
  by_cases e : t ∈ ks
  ·rw [if_pos e]
   exact h1.cut (List.all_eq_true.1 hp t e)
  ·rw [if_neg e]
   exact h1.dim
 ·rw [List.getD_eq_getElem?_getD, List.getElem?_eq_none (by simp; omega)]
  rw [List.getD_eq_getElem?_getD, List.getElem?_eq_none (by omega)] at h1
  exact h1.cut rfl
def forget (ks : List Nat) (n k : Nat) (K : List Value → Xm → Prop) : List Value → Xm → Prop := fun vt m =>
 vt.length = n ∧ (ks.all fun j => ptrOk k (vt.getD j undef)) = true ∧ ∀ d, K (frm (ks.map fun j => (j, vt.getD j undef)) d n) (m.take k)
section
variable {P : Program} {tbl : List (Ct P)} {bs : List Nat} {w0 : World} {ds : List Deferred} {dirty : Nat → List Nat} {bl0 : Bl}
theorem Rl.cut {bl : Bl} {vt : List Value} {m : Xm} {a : Act} {w : World} (r : Rl bs w0 ds bl0 bl vt m a w) {ks : List Nat} {n k : Nat} (hb : bl0.length ≤ k) {K : List Value → Xm → Prop} (h : forget ks n k K vt m) :
    ∃ bl' vt' m', K vt' m' ∧ Rl bs w0 ds bl0 bl' vt' m' a w := by
 refine ⟨bl.take k, _, m.take k, h.2.2 (fun j => vt.getD j undef), r.F.cut h.1 h.2.1, r.R.cut k, fun i B hi => ?_, by rw [List.length_take, List.length_take, r.len], r.defers⟩
 have hl := (List.getElem?_eq_some_iff.1 hi).1
 rw [List.getElem?_take_of_lt (by omega)]
 exact r.le i B hi
def cutBy (P : Program) (tbl : List (Ct P)) (dirty : Nat → List Nat) (id : Nat) (ks : List Nat) (n k : Nat) (ops : Array Oper) (draw : Bool) (K : List Value → Xm → Prop) (vt : List Value) (m : Xm) : Prop :=
 vregion P tbl dirty id ops draw (forget ks n k K) vt m
theorem cutBy_sound (hm : P.follows .mixedOrders = true) {id : Nat} {ks : List Nat} {n k : Nat} (hb : bl0.length ≤ k) {ops : Array Oper} {draw : Bool} {K : List Value → Xm → Prop} {Q : Exit → Act → World → Prop} {bl : Bl} {vt : List Value} {m : Xm} {a : Act} {w : World}
    (h : cutBy P tbl dirty id ks n k ops draw K vt m) (r : Rl bs w0 ds bl0 bl vt m a w) (hK : ∀ bl vt m a w, K vt m → Rl bs w0 ds bl0 bl vt m a w → Q .normal a w) : (Code.region id ops draw).wp P Q a w := by
 refine vregion_sound hm (fun bl vt m a w hk hr => ?_) h r
 obtain ⟨bl', vt', m', h1, h2⟩ := hr.cut hb hk
 exact hK bl' vt' m' a w h1 h2
theorem ops_val {ops : Array Oper} {Q : Exit → Act → World → Prop} {i : Nat} {rest : List Nat} {a : Act} {w w' : World} {o : Oper} {v : Value} (ho : ops[i]? = some o) (hg : o.guard = none) (hr : (execOp a.eval o).run P w = .ok (.value v) w')
    (h : wpOps P ops Q rest (a.put o.dst v) w') : wpOps P ops Q (i :: rest) a w := by
 rw [wpOps_cons]
 unfold wpOp
 rw [ho]
 dsimp only
 rw [show Region.wanted o (yielded ops a.tmps) = true by unfold Region.wanted; rw [hg], if_pos rfl]
 refine .inl ?_
 unfold Oper.wp
 rw [hr]
 exact h
theorem ops_skip {ops : Array Oper} {Q : Exit → Act → World → Prop} {i : Nat} {rest : List Nat} {a : Act} {w w' : World} {o : Oper} (ho : ops[i]? = some o) (hg : o.guard = none) (hr : (execOp a.eval o).run P w = .ok .skip w')
    (h : wpOps P ops Q rest (a.put o.dst undef) w') : wpOps P ops Q (i :: rest) a w := by
 rw [wpOps_cons]
 unfold wpOp
 rw [ho]
 dsimp only
 rw [show Region.wanted o (yielded ops a.tmps) = true by unfold Region.wanted; rw [hg], if_pos rfl]
 refine .inl ?_
 unfold Oper.wp
 rw [hr]
 exact h
end
end Go.Proofs.YtbophanlmkbfeaaGreatDoor
namespace Go.Proofs.YtbophanlmkbfeaaGreatDoor
def crcBit (r : Nat) : Nat := if 32768 ≤ r then (2 * r - 65536) ^^^ 4129 else 2 * r
def crcByte (r b : Nat) : Nat := crcBit (crcBit (crcBit (crcBit (crcBit (crcBit (crcBit (crcBit (r ^^^ b * 256))))))))
def crcOf (r : Nat) (l : List Nat) : Nat := l.foldl crcByte r
theorem crcOf_cons (r b : Nat) (l : List Nat) : crcOf r (b :: l) = crcOf (crcByte r b) l := by unfold crcOf; rw [List.foldl_cons]
theorem xor_16 {a b : Nat} (ha : a < 65536) (hb : b < 65536) : a ^^^ b < 65536 := Nat.xor_lt_two_pow (n := 16) ha hb
theorem crcBit_lt {r : Nat} (h : r < 65536) : crcBit r < 65536 := by
 unfold crcBit
 split
 ·exact xor_16 (by omega) (by decide)
 ·omega
theorem crcByte_lt {r b : Nat} (hr : r < 65536) (hb : b < 256) : crcByte r b < 65536 :=
 crcBit_lt (crcBit_lt (crcBit_lt (crcBit_lt (crcBit_lt (crcBit_lt (crcBit_lt (crcBit_lt (xor_16 hr (by omega)))))))))
theorem crcOf_lt {l : List Nat} (hl : ∀ b ∈ l, b < 256) : ∀ {r : Nat}, r < 65536 → crcOf r l < 65536 := by
 induction l with
 | nil => intro r h; exact h
 | cons b l ih => intro r h; rw [crcOf_cons]; exact ih (fun c hc => hl c (List.mem_cons_of_mem _ hc)) (crcByte_lt h (hl b List.mem_cons_self))
end Go.Proofs.YtbophanlmkbfeaaGreatDoor
namespace Go.Proofs.YtbophanlmkbfeaaGreatDoor
def sumU (l : List UInt8) : Nat := crcOf 65535 (l.map UInt8.toNat)
theorem sumU_lt (l : List UInt8) : sumU l < 65536 := crcOf_lt (by intro b hb; obtain ⟨x, _, rfl⟩ := List.mem_map.1 hb; exact x.toNat_lt) (by decide)
def look (s : List UInt8) : Option Nat :=
 if s.length = 0 then none
 else if s.getD 0 0 ≠ 165 then some 0
 else if s.length < 3 then none
 else if 64 < (s.getD 2 0).toNat then some 0
 else if s.length < (s.getD 2 0).toNat + 5 then none
 else if sumU ((s.drop 1).take ((s.getD 2 0).toNat + 2)) = (s.getD ((s.getD 2 0).toNat + 3) 0).toNat * 256 + (s.getD ((s.getD 2 0).toNat + 4) 0).toNat then some ((s.getD 2 0).toNat + 1)
 else some 0
theorem look_len {s : List UInt8} {k : Nat} (h : look s = some k) : 1 ≤ s.length ∧ (∀ n, k = n + 1 → n + 5 ≤ s.length ∧ n = (s.getD 2 0).toNat ∧ n ≤ 64) := by
 unfold look at h
 by_cases l0 : s.length = 0
 ·rw [if_pos l0] at h; cases h
 refine ⟨by omega, fun n hn => ?_⟩
 subst hn
 rw [if_neg l0] at h
 by_cases c : s.getD 0 0 ≠ 165
 ·rw [if_pos c] at h; cases h
 rw [if_neg c] at h
 by_cases l3 : s.length < 3
 ·rw [if_pos l3] at h; cases h
 rw [if_neg l3] at h
 by_cases n64 : 64 < (s.getD 2 0).toNat
 ·rw [if_pos n64] at h; cases h
 rw [if_neg n64] at h
 by_cases l5 : s.length < (s.getD 2 0).toNat + 5
 ·rw [if_pos l5] at h; cases h
 rw [if_neg l5] at h
 by_cases q : sumU ((s.drop 1).take ((s.getD 2 0).toNat + 2)) = (s.getD ((s.getD 2 0).toNat + 3) 0).toNat * 256 + (s.getD ((s.getD 2 0).toNat + 4) 0).toNat
 ·rw [if_pos q] at h
  have : (s.getD 2 0).toNat + 1 = n + 1 := Option.some.inj h
  exact ⟨by omega, by omega, by omega⟩
 ·rw [if_neg q] at h; cases h
def scanU : Nat → List UInt8 → List (UInt8 × List UInt8) × List UInt8 × Nat
 | 0, s => ([], s, 0)
 | f + 1, s => match look s with
  | none => ([], s, 0)
  | some 0 => ((scanU f (s.drop 1)).1, (scanU f (s.drop 1)).2.1, (scanU f (s.drop 1)).2.2 + 1)
  | some (n + 1) => ((s.getD 1 0, (s.drop 3).take n) :: (scanU f (s.drop (n + 5))).1, (scanU f (s.drop (n + 5))).2.1, (scanU f (s.drop (n + 5))).2.2)
theorem look_nil : look [] = none := rfl
theorem scanU_nil : ∀ f, scanU f [] = ([], [], 0)
 | 0 => rfl
 | _ + 1 => rfl
theorem scanU_none {f : Nat} {s : List UInt8} (h : look s = none) : scanU f s = ([], s, 0) := by
 cases f with
 | zero => rfl
 | succ f => unfold scanU; rw [h]
theorem scanU_skip {f : Nat} {s : List UInt8} (h : look s = some 0) : scanU (f + 1) s = ((scanU f (s.drop 1)).1, (scanU f (s.drop 1)).2.1, (scanU f (s.drop 1)).2.2 + 1) := by
 conv => lhs; unfold scanU
 rw [h]
theorem scanU_frame {f n : Nat} {s : List UInt8} (h : look s = some (n + 1)) : scanU (f + 1) s = ((s.getD 1 0, (s.drop 3).take n) :: (scanU f (s.drop (n + 5))).1, (scanU f (s.drop (n + 5))).2.1, (scanU f (s.drop (n + 5))).2.2) := by
 conv => lhs; unfold scanU
 rw [h]
theorem scanU_more : ∀ (f g : Nat) (s : List UInt8), s.length ≤ f → s.length ≤ g → scanU f s = scanU g s
 | 0, g, s, h, _ => by
  obtain rfl : s = [] := List.length_eq_zero_iff.1 (by omega)
  rw [scanU_nil, scanU_nil]
 | f + 1, 0, s, _, h => by
  obtain rfl : s = [] := List.length_eq_zero_iff.1 (by omega)
  rw [scanU_nil, scanU_nil]
 | f + 1, g + 1, s, hf, hg => by
  cases e : look s with
  | none => rw [scanU_none e, scanU_none e]
  | some k =>
   have l := look_len e
   cases k with
   | zero => rw [scanU_skip e, scanU_skip e, scanU_more f g (s.drop 1) (by rw [List.length_drop]; omega) (by rw [List.length_drop]; omega)]
   | succ n => rw [scanU_frame e, scanU_frame e, scanU_more f g (s.drop (n + 5)) (by rw [List.length_drop]; omega) (by rw [List.length_drop]; omega)]
def scanL (s : List UInt8) : List (UInt8 × List UInt8) × List UInt8 × Nat := scanU s.length s
theorem scanL_eq (s : List UInt8) (f : Nat) (h : s.length ≤ f) : scanL s = scanU f s := scanU_more _ _ s (Nat.le_refl _) h
end Go.Proofs.YtbophanlmkbfeaaGreatDoor
namespace Go.Proofs.YtbophanlmkbfeaaGreatDoor
open Go.RowKit
def crcBits : Nat → Nat → Nat
 | 0, r => r
 | k + 1, r => crcBit (crcBits k r)
theorem crcBits_lt {r : Nat} (h : r < 65536) : ∀ k, crcBits k r < 65536
 | 0 => h
 | k + 1 => crcBit_lt (crcBits_lt h k)
def sumK (l : List UInt8) (k : Nat) : Nat := crcOf 65535 ((l.take k).map UInt8.toNat)
theorem sumK_lt (l : List UInt8) (k : Nat) : sumK l k < 65536 := sumU_lt (l.take k)
theorem u16_byte {r b : Nat} (hr : r < 65536) (hb : b < 256) : bits .xor .u16 (r : Int) ((b : Int) * 256) = ((r ^^^ b * 256 : Nat) : Int) := by
 rw [show (b : Int) * 256 = ((b * 256 : Nat) : Int) by omega, u16_xor_nat r (b * 256) hr (by omega)]
theorem u16_one {x : Nat} (hx : x < 65536) (h : ((x : Int) / 32768 == 1) = true) : bits .xor .u16 (IntKind.u16.wrap ((x : Int) * 2)) 4129 = (crcBit x : Nat) := by
 have h : (x : Int) / 32768 = 1 := by simpa using h
 rw [IntKind.wrap_u16, show ((x : Int) * 2) % 65536 = ((2 * x - 65536 : Nat) : Int) by omega]
 unfold crcBit
 rw [if_pos (by omega)]
 exact u16_xor_nat _ 4129 (by omega) (by decide)
theorem u16_none {x : Nat} (hx : x < 65536) (h : ((x : Int) / 32768 == 1) = false) : IntKind.u16.wrap ((x : Int) * 2) = (crcBit x : Nat) := by
 have h : ¬ (x : Int) / 32768 = 1 := by simpa using h
 rw [IntKind.wrap_u16]
 unfold crcBit
 rw [if_neg (by omega)]
 omega
theorem u16_one' {x : Nat} (hx : x < 65536) (h : 32768 ≤ (x : Int)) : bits .xor .u16 (IntKind.u16.wrap ((x : Int) * 2)) 4129 = (crcBit x : Nat) :=
 u16_one hx (by rw [show (x : Int) / 32768 = 1 by omega]; rfl)
theorem u16_none' {x : Nat} (h : ¬ 32768 ≤ (x : Int)) : (x : Int) * 2 = (crcBit x : Nat) := by
 unfold crcBit
 rw [if_neg (by omega)]
 omega
theorem sumK_succ {s : ByteArray} {k b : Nat} (h : k < s.size) (hb : (s[k]'h).toNat = b) : sumK s.data.toList (k + 1) = crcBits 8 (sumK s.data.toList k ^^^ b * 256) := by
 have hl : k < s.data.toList.length := h
 have e : s.data.toList.take (k + 1) = s.data.toList.take k ++ [s[k]'h] := by
  rw [List.take_succ_eq_append_getElem hl]
  rfl
 unfold sumK crcOf
 rw [e, List.map_append, List.foldl_append, List.map_cons, List.map_nil, List.foldl_cons, List.foldl_nil, hb]
 unfold crcByte
 simp only [crcBits]
theorem sumK_all (s : ByteArray) : sumK s.data.toList s.size = sumU s.data.toList := by
 unfold sumK sumU
 rw [List.take_of_length_le (l := s.data.toList) (i := s.size) (Nat.le_refl _)]
set_option maxHeartbeats 1000000 in
set_option maxRecDepth 100000 in
theorem sum_any (s : ByteArray) (w : World) (hs : s.size ≤ 5000) :
    Calls Tryz.prog 142 #[.string s] w fun e w' => e = .returned (.int .u16 (sumU s.data.toList : Nat)) ∧ w = w' := by
 go_enter Tryz.func142, Tryz.ntmps142
 go_wp2
 go_loop [3, 8] (fun r i => ∃ k : Nat, k ≤ s.size ∧ i = .int .i64 k ∧ r = .int .u16 (sumK s.data.toList k : Nat)) (fun _ i => s.size - (intOf i).toNat)
 case atStart => exact ⟨0, Nat.zero_le _, rfl, rfl⟩
 case round =>
  obtain ⟨k, hk, rfl, rfl⟩ := hrel
  have hlt := sumK_lt s.data.toList k
  obtain ⟨r, hr⟩ : ∃ r, r = sumK s.data.toList k := ⟨_, rfl⟩
  rw [← hr] at hlt ⊢
  have HK : Hid (r = sumK s.data.toList k) := hr
  clear hr
  by_cases hkl : k < s.size
  ·obtain ⟨b, hb⟩ : ∃ b, (s[k]'hkl).toNat = b := ⟨_, rfl⟩
   have hb8 : b < 256 := by rw [← hb]; exact (s[k]'hkl).toNat_lt
   obtain ⟨R, hR⟩ : ∃ R, R = r ^^^ b * 256 := ⟨_, rfl⟩
   have hRl : R < 65536 := by rw [hR]; exact xor_16 hlt (by omega)
   have e1 := u16_byte hlt hb8
   rw [← hR] at e1
   have HR : Hid (R = r ^^^ b * 256) := hR
   clear hR
   go_wp2
   go_loop [3, 18] (fun v j => ∃ n : Nat, n ≤ 8 ∧ j = .int .i64 n ∧ v = .int .u16 (crcBits n R : Nat)) (fun _ j => 8 - (intOf j).toNat)
   case atStart => exact ⟨0, by omega, rfl, rfl⟩
   case round =>
    obtain ⟨n, hn, rfl, rfl⟩ := hrel
    have hx := crcBits_lt hRl n
    obtain ⟨x, hxe⟩ : ∃ x, x = crcBits n R := ⟨_, rfl⟩
    rw [← hxe] at hx ⊢
    have HX : Hid (x = crcBits n R) := hxe
    clear hxe
    go_wp2
    ·go_round
     case rel => exact ⟨n + 1, by omega, by go_num, by rw [u16_one hx (by assumption)]; show _ = Value.int .u16 (crcBit (crcBits n R) : Nat); rw [HX.out]⟩
     case measure => simp [intOf]; omega
    ·go_round
     case rel => exact ⟨n + 1, by omega, by go_num, by rw [u16_none hx (by assumption)]; show _ = Value.int .u16 (crcBit (crcBits n R) : Nat); rw [HX.out]⟩
     case measure => simp [intOf]; omega
    ·go_round
     case rel =>
      obtain rfl : n = 8 := by omega
      exact ⟨k + 1, by omega, by go_num, by rw [sumK_succ hkl hb, HX.out, HR.out, HK.out]⟩
     case measure => simp [intOf]; omega
  ·go_wp2
   obtain rfl : k = s.size := by omega
   go_ret
   exact ⟨by rw [HK.out, sumK_all]; rfl, rfl⟩
set_option maxHeartbeats 1000000 in
set_option maxRecDepth 100000 in
theorem rsum_any (s : ByteArray) (w : World) (hs : s.size ≤ 5000) :
    Calls Tryz.prog 66 #[.string s] w fun e w' => e = .returned (.int .u16 (sumU s.data.toList : Nat)) ∧ w = w' := by
 go_enter Tryz.func66, Tryz.ntmps66
 go_wp2
 go_loop [3, 4] (fun r i => ∃ k : Nat, k ≤ s.size ∧ i = .int .i64 k ∧ r = .int .u16 (sumK s.data.toList k : Nat)) (fun _ i => s.size - (intOf i).toNat)
 case atStart => exact ⟨0, Nat.zero_le _, rfl, rfl⟩
 case round =>
  obtain ⟨k, hk, rfl, rfl⟩ := hrel
  have hlt := sumK_lt s.data.toList k
  obtain ⟨r, hr⟩ : ∃ r, r = sumK s.data.toList k := ⟨_, rfl⟩
  rw [← hr] at hlt ⊢
  have HK : Hid (r = sumK s.data.toList k) := hr
  clear hr
  by_cases hkl : k < s.size
  ·obtain ⟨b, hb⟩ : ∃ b, (s[k]'hkl).toNat = b := ⟨_, rfl⟩
   have hb8 : b < 256 := by rw [← hb]; exact (s[k]'hkl).toNat_lt
   obtain ⟨R, hR⟩ : ∃ R, R = r ^^^ b * 256 := ⟨_, rfl⟩
   have hRl : R < 65536 := by rw [hR]; exact xor_16 hlt (by omega)
   have e1 := u16_byte hlt hb8
   rw [← hR] at e1
   have HR : Hid (R = r ^^^ b * 256) := hR
   clear hR
   go_wp2
   go_loop [3, 5] (fun v j => ∃ n : Nat, n ≤ 8 ∧ j = .int .i64 n ∧ v = .int .u16 (crcBits n R : Nat)) (fun _ j => 8 - (intOf j).toNat)
   case atStart => exact ⟨0, by omega, rfl, rfl⟩
   case round =>
    obtain ⟨n, hn, rfl, rfl⟩ := hrel
    have hx := crcBits_lt hRl n
    obtain ⟨x, hxe⟩ : ∃ x, x = crcBits n R := ⟨_, rfl⟩
    rw [← hxe] at hx ⊢
    have HX : Hid (x = crcBits n R) := hxe
    clear hxe
    clear e1
    by_cases hn8 : n < 8
    ·by_cases c : 32768 ≤ (x : Int)
     ·go_wp2
      go_round
      case rel => exact ⟨n + 1, by omega, by go_num, by rw [u16_one' hx c]; show _ = Value.int .u16 (crcBit (crcBits n R) : Nat); rw [HX.out]⟩
      case measure => simp [intOf]; omega
     ·go_wp2
      go_round
      case rel => exact ⟨n + 1, by omega, by go_num, by rw [u16_none' c]; show _ = Value.int .u16 (crcBit (crcBits n R) : Nat); rw [HX.out]⟩
      case measure => simp [intOf]; omega
    ·go_wp2
     go_round
     case rel =>
      obtain rfl : n = 8 := by omega
      exact ⟨k + 1, by omega, by go_num, by rw [sumK_succ hkl hb, HX.out, HR.out, HK.out]⟩
     case measure => simp [intOf]; omega
  ·go_wp2
   obtain rfl : k = s.size := by omega
   go_ret
   exact ⟨by rw [HK.out, sumK_all]; rfl, rfl⟩
end Go.Proofs.YtbophanlmkbfeaaGreatDoor
namespace Go.Proofs.YtbophanlmkbfeaaGreatDoor
def wrapHead (k : UInt8) (d : List UInt8) : List UInt8 := [k, UInt8.ofNat d.length] ++ d
def wrapL (k : UInt8) (d : List UInt8) : List UInt8 := [165] ++ wrapHead k d ++ [UInt8.ofNat (sumU (wrapHead k d) / 256), UInt8.ofNat (sumU (wrapHead k d) % 256)]
theorem ofNat_toNat {n : Nat} (h : n < 256) : (UInt8.ofNat n).toNat = n := by simp; omega
section
variable {l : List UInt8} {n : Nat}
theorem look0 (h : 0 < l.length) (c : (l.getD 0 0).toNat ≠ 165) : look l = some 0 := by
 unfold look
 rw [if_neg (by omega), if_pos (fun e => c (by rw [e]; rfl))]
theorem look1 (h : 0 < l.length) (c : (l.getD 0 0).toNat = 165) (h3 : l.length < 3) : look l = none := by
 unfold look
 rw [if_neg (by omega), if_neg (by simpa [← UInt8.toNat_inj] using c), if_pos h3]
theorem look2 (c : (l.getD 0 0).toNat = 165) (h3 : 3 ≤ l.length) (hn : (l.getD 2 0).toNat = n) (h : 64 < n) : look l = some 0 := by
 unfold look
 rw [if_neg (by omega), if_neg (by simpa [← UInt8.toNat_inj] using c), if_neg (by omega), if_pos (by omega)]
theorem look3 (c : (l.getD 0 0).toNat = 165) (h3 : 3 ≤ l.length) (hn : (l.getD 2 0).toNat = n) (h : n ≤ 64) (h5 : l.length < n + 5) : look l = none := by
 unfold look
 rw [if_neg (by omega), if_neg (by simpa [← UInt8.toNat_inj] using c), if_neg (by omega), if_neg (by omega), if_pos (by omega)]
theorem look4 (c : (l.getD 0 0).toNat = 165) (hn : (l.getD 2 0).toNat = n) (h : n ≤ 64) (h5 : n + 5 ≤ l.length)
    (hq : sumU ((l.drop 1).take (n + 2)) ≠ (l.getD (n + 3) 0).toNat * 256 + (l.getD (n + 4) 0).toNat) : look l = some 0 := by
 unfold look
 rw [if_neg (by omega), if_neg (by simpa [← UInt8.toNat_inj] using c), if_neg (by omega), if_neg (by omega), if_neg (by omega), hn, if_neg hq]
theorem look5 (c : (l.getD 0 0).toNat = 165) (hn : (l.getD 2 0).toNat = n) (h : n ≤ 64) (h5 : n + 5 ≤ l.length)
    (hq : sumU ((l.drop 1).take (n + 2)) = (l.getD (n + 3) 0).toNat * 256 + (l.getD (n + 4) 0).toNat) : look l = some (n + 1) := by
 unfold look
 rw [if_neg (by omega), if_neg (by simpa [← UInt8.toNat_inj] using c), if_neg (by omega), if_neg (by omega), if_neg (by omega), hn, if_pos hq]
end
theorem look_parts {l : List UInt8} {n : Nat} (h : look l = some (n + 1)) : l.getD 0 0 = 165 ∧ (l.getD 2 0).toNat = n ∧ n ≤ 64 ∧ n + 5 ≤ l.length ∧
    sumU ((l.drop 1).take (n + 2)) = (l.getD (n + 3) 0).toNat * 256 + (l.getD (n + 4) 0).toNat := by
 have L := (look_len h).2 n rfl
 unfold look at h
 split at h
 ·cases h
 split at h
 ·cases h
 rename_i a
 split at h
 ·cases h
 split at h
 ·cases h
 split at h
 ·cases h
 split at h
 ·rename_i q
  rw [← L.2.1] at q
  exact ⟨by simpa using a, L.2.1.symm, L.2.2, L.1, q⟩
 ·cases h
theorem list5 {l : List UInt8} {n : Nat} (h : l.length = n + 5) : ∃ a b c d p q, l = a :: b :: c :: (d ++ [p, q]) ∧ d.length = n := by
 match l, h with
 | a :: b :: c :: r, h =>
  have hr : r.length = n + 2 := by simp at h; omega
  refine ⟨a, b, c, r.take n, r[n]'(by omega), r[n + 1]'(by omega), ?_, by rw [List.length_take]; omega⟩
  have e : r = r.take n ++ [r[n]'(by omega), r[n + 1]'(by omega)] := by
   apply List.ext_getElem
   ·simp; omega
   ·intro i h1 h2
    by_cases hi : i < n
    ·rw [List.getElem_append_left (by rw [List.length_take]; omega), List.getElem_take]
    ·rw [List.getElem_append_right (by rw [List.length_take]; omega)]
     have : i = n ∨ i = n + 1 := by omega
     rcases this with rfl | rfl
     ·simp [show min i r.length = i by omega]
     ·simp [show min n r.length = n by omega]
  rw [← e]
theorem look_mk {a b c p q : UInt8} {d r : List UInt8} (hd : d.length ≤ 64) (ha : a = 165) (hc : c.toNat = d.length) (hs : sumU ([b, c] ++ d) = p.toNat * 256 + q.toNat) :
    look (a :: b :: c :: (d ++ [p, q]) ++ r) = some (d.length + 1) := by
 refine look5 (by subst ha; rfl) (by simpa using hc) hd (by simp) ?_
 have e1 : ((a :: b :: c :: (d ++ [p, q]) ++ r).drop 1).take (d.length + 2) = [b, c] ++ d := by
  simp
 have e2 : (a :: b :: c :: (d ++ [p, q]) ++ r).getD (d.length + 3) 0 = p := by
  simp
 have e3 : (a :: b :: c :: (d ++ [p, q]) ++ r).getD (d.length + 4) 0 = q := by
  simp [show d.length + 1 - d.length = 1 by omega]
 rw [e1, e2, e3, hs]
theorem wrapL_parts (k : UInt8) (d : List UInt8) : wrapL k d = 165 :: k :: UInt8.ofNat d.length :: (d ++ [UInt8.ofNat (sumU (wrapHead k d) / 256), UInt8.ofNat (sumU (wrapHead k d) % 256)]) := by
 simp [wrapL, wrapHead]
theorem wrapL_length (k : UInt8) (d : List UInt8) : (wrapL k d).length = d.length + 5 := by
 rw [wrapL_parts]
 simp
theorem sum_join (n : Nat) (h : n < 65536) : n = (UInt8.ofNat (n / 256)).toNat * 256 + (UInt8.ofNat (n % 256)).toNat := by
 rw [ofNat_toNat (by omega), ofNat_toNat (by omega)]
 omega
theorem look_wrap (k : UInt8) (d r : List UInt8) (h : d.length ≤ 64) : look (wrapL k d ++ r) = some (d.length + 1) := by
 rw [wrapL_parts]
 exact look_mk h rfl (ofNat_toNat (by omega)) (sum_join _ (sumU_lt _))
theorem wrap_look {l : List UInt8} {n : Nat} (h : look l = some (n + 1)) : l.take (n + 5) = wrapL (l.getD 1 0) ((l.drop 3).take n) := by
 obtain ⟨h0, h2, h64, h5, hs⟩ := look_parts h
 obtain ⟨a, b, c, d, p, q, e, hd⟩ := list5 (l := l.take (n + 5)) (n := n) (by rw [List.length_take]; omega)
 have el : l = a :: b :: c :: (d ++ [p, q]) ++ l.drop (n + 5) := by rw [← e, List.take_append_drop]
 rw [e]
 generalize l.drop (n + 5) = r at el
 subst el hd
 have e1 : ((a :: b :: c :: (d ++ [p, q]) ++ r).drop 1).take (d.length + 2) = [b, c] ++ d := by
  simp
 have e2 : (a :: b :: c :: (d ++ [p, q]) ++ r).getD (d.length + 3) 0 = p := by
  simp
 have e3 : (a :: b :: c :: (d ++ [p, q]) ++ r).getD (d.length + 4) 0 = q := by
  simp [show d.length + 1 - d.length = 1 by omega]
 have e4 : ((a :: b :: c :: (d ++ [p, q]) ++ r).drop 3).take d.length = d := by
  simp
 have e5 : (a :: b :: c :: (d ++ [p, q]) ++ r).getD 1 0 = b := rfl
 have ha : a = 165 := h0
 have hc : c.toNat = d.length := h2
 rw [e1, e2, e3] at hs
 rw [e4, e5, wrapL_parts, ha]
 have hw : wrapHead b d = [b, c] ++ d := by
  unfold wrapHead
  rw [← hc, UInt8.ofNat_toNat]
 have hp := p.toNat_lt
 have hq := q.toNat_lt
 rw [hw, hs, ← hc, UInt8.ofNat_toNat, show (p.toNat * 256 + q.toNat) / 256 = p.toNat by omega, show (p.toNat * 256 + q.toNat) % 256 = q.toNat by omega, UInt8.ofNat_toNat, UInt8.ofNat_toNat]
theorem scanL_none {l : List UInt8} (h : look l = none) : scanL l = ([], l, 0) := scanU_none h
theorem scanL_skip {l : List UInt8} (h : look l = some 0) : scanL l = ((scanL (l.drop 1)).1, (scanL (l.drop 1)).2.1, (scanL (l.drop 1)).2.2 + 1) := by
 have L := (look_len h).1
 rw [scanL_eq l (l.length - 1 + 1) (by omega), scanU_skip h, ← scanL_eq (l.drop 1) _ (by rw [List.length_drop]; omega)]
theorem scanL_frame {l : List UInt8} {n : Nat} (h : look l = some (n + 1)) : scanL l = ((l.getD 1 0, (l.drop 3).take n) :: (scanL (l.drop (n + 5))).1, (scanL (l.drop (n + 5))).2.1, (scanL (l.drop (n + 5))).2.2) := by
 have L := (look_len h).2 n rfl
 rw [scanL_eq l (l.length - 1 + 1) (by omega), scanU_frame h, ← scanL_eq (l.drop (n + 5)) _ (by rw [List.length_drop]; omega)]
end Go.Proofs.YtbophanlmkbfeaaGreatDoor
