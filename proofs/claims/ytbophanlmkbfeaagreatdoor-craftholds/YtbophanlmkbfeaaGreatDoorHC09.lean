/-
A part.
A part.
A part.
A part.
-/
import Derived.Handy
import Derived.Deep.RegionHeld3
import Derived.Deep.DrawnRows
import Derived.Test.YtbophanlmkbfeaaGreatDoorHC08
import Derived.Test.YtbophanlmkbfeaaGreatDoorHC05
import Derived.Test.YtbophanlmkbfeaaGreatDoorHC01
namespace Go.Proofs.YtbophanlmkbfeaaGreatDoor
open Go.RowKit
section
variable {P : Program} {nq NQ : (Nat → Int) → Prop} {τ : Nat → Int}
def resA (P : Program) (fn : Func) (at' : List Value) (m : Xm) : Option Value :=
 match resL P at' m fn.results.toList with
 | some [v] => some v
 | some vs => if vs.all notMulti then some (.tuple vs.toArray) else none
 | none => none
theorem resOne_nat {at' vt : List Value} {am m : Xm} (F : GF τ at' vt) (M : GM τ am m) {r : ResultVar} {t : Value} (h : resOne P at' am r = some t) : ∃ v, resOne P vt m r = some v ∧ G2 τ t v := by
 cases r with
 | tmp i =>
  simp only [resOne] at h ⊢
  have g := F.g i
  split at h
  ·cases h
  ·rename_i hp
   cases h
   rw [if_neg (by rw [g.isP]; exact hp)]
   exact ⟨_, rfl, g⟩
 | cell p t =>
  simp only [resOne] at h ⊢
  have g := F.g p
  split at h
  ·rename_i k off hk
   rw [hk] at g
   rw [g.ptr]
   dsimp only
   split at h
   ·rename_i l hl
    obtain ⟨l', hl', gl⟩ := M.g k l hl
    rw [hl']
    exact loadV_nat h gl
   ·cases h
  ·cases h
theorem resL_nat {at' vt : List Value} {am m : Xm} (F : GF τ at' vt) (M : GM τ am m) : ∀ (rs : List ResultVar) (ts : List Value), resL P at' am rs = some ts → ∃ vs, resL P vt m rs = some vs ∧ All2 (G2 τ) ts vs
 | [], ts, h => by cases h; exact ⟨[], rfl, trivial⟩
 | r :: rs, ts, h => by
  unfold resL at h ⊢
  split at h
  ·rename_i t us h1 h2
   cases h
   obtain ⟨v, hv, g⟩ := resOne_nat F M h1
   obtain ⟨vs, hvs, gs⟩ := resL_nat F M rs us h2
   rw [hv, hvs]
   exact ⟨v :: vs, rfl, g, gs⟩
  ·cases h
theorem all_g1 : ∀ {ts vs : List Value}, ts.all notMulti = true → All2 (G2 τ) ts vs → All2 (G1 τ) ts vs
 | [], [], _, _ => trivial
 | t :: ts, v :: vs, h, g => by
  simp only [List.all_cons, Bool.and_eq_true] at h
  refine ⟨?_, all_g1 h.2 g.2⟩
  have := g.1
  unfold G2 at this
  split at this
  ·cases h.1
  ·exact this
 | [], _ :: _, _, g => g.elim
 | _ :: _, [], _, g => g.elim
theorem resV_nat {fn : Func} {at' vt : List Value} {am m : Xm} (F : GF τ at' vt) (M : GM τ am m) {t : Value} (h : resA P fn at' am = some t) : ∃ v, resV P fn vt m = some v ∧ G2 τ t v := by
 unfold resA at h
 unfold resV
 cases hr : resL P at' am fn.results.toList with
 | none => rw [hr] at h; cases h
 | some ts =>
  obtain ⟨vs, hvs, g⟩ := resL_nat F M _ _ hr
  rw [hr] at h
  rw [hvs]
  match ts, vs, g, h with
  | [a], [b], g, h => cases h; exact ⟨b, rfl, g.1⟩
  | [], [], g, h => cases h; exact ⟨_, rfl, real2_same rfl⟩
  | a :: b :: ts, c :: d :: vs, g, h =>
   simp only at h
   split at h
   ·rename_i hn
    cases h
    exact ⟨_, rfl, ⟨_, rfl, all_g1 hn g⟩⟩
   ·cases h
def zr0 (t : Value) : Value :=
 match tkn t with
 | some (none, _ + 1) => .int .i64 0
 | _ => t
def zr1 : Value → Value
 | .agg cs => .agg ⟨cs.toList.map zr0⟩
 | t => zr0 t
def zr2 : Value → Value
 | .tuple ⟨a :: b :: r⟩ => .tuple ⟨(a :: b :: r).map zr1⟩
 | t => zr1 t
theorem zr0_ok {t v : Value} (g : G0 τ (zr0 t) v) : G0 (fun _ => 0) t v := by
 unfold zr0 at g
 split at g
 ·rename_i i e
  unfold G0
  rw [e]
  exact g.1
 ·rename_i hn
  unfold G0 at g ⊢
  split at g
  ·exact g
  ·exact g
  ·exact g
  ·rename_i i e
   exact absurd e (hn i)
  ·exact g
theorem All2.zr {R S : Value → Value → Prop} {f : Value → Value} (hi : ∀ t v, R (f t) v → S t v) : ∀ {l m : List Value}, All2 R (l.map f) m → All2 S l m
 | [], [], _ => trivial
 | _ :: _, _ :: _, h => ⟨hi _ _ h.1, All2.zr hi h.2⟩
 | [], _ :: _, h => h.elim
 | _ :: _, [], h => h.elim
theorem zr1_ok {t v : Value} (g : G1 τ (zr1 t) v) : G1 (fun _ => 0) t v := by
 unfold zr1 at g
 split at g
 ·obtain ⟨l, rfl, gl⟩ := g
  exact ⟨l, rfl, gl.zr (S := G0 (fun _ => 0)) (fun _ _ h => zr0_ok h)⟩
 ·rename_i hn
  have g0 : G0 τ (zr0 t) v := by
   unfold G1 at g
   split at g
   ·rename_i cs e
    exfalso
    unfold zr0 at e
    split at e
    ·cases e
    ·exact hn _ e
   ·exact g
  exact (zr0_ok g0).g1
theorem zr2_ok {t v : Value} (g : G2 τ (zr2 t) v) : G2 (fun _ => 0) t v := by
 unfold zr2 at g
 split at g
 ·obtain ⟨l, rfl, gl⟩ := g
  exact ⟨l, rfl, gl.zr (S := G1 (fun _ => 0)) (fun _ _ h => zr1_ok h)⟩
 ·rename_i hn
  have g1 : G1 τ (zr1 t) v := by
   unfold G2 at g
   split at g
   ·rename_i a b r e
    exfalso
    unfold zr1 at e
    split at e
    ·cases e
    ·unfold zr0 at e
     split at e
     ·cases e
     ·exact hn _ _ _ e
   ·exact g
  exact (zr1_ok g1).g2
def isT : Value → Bool
 | .bool true => true
 | _ => false
def chkA (P : Program) (fn : Func) (sr fb : Value) (at' : List Value) (m : Xm) : Bool :=
 match resA P fn at' m, m with
 | some t, [c] :: _ => le0 c fb && (le2 t sr || (isT c && le2 t (zr2 sr)))
 | _, _ => false
def retA (P : Program) (fn : Func) (sr fb : Value) : AQ := fun e at' m =>
 match e with
 | .normal => chkA P fn sr fb at' m
 | .ret => chkA P fn sr fb at' m
 | _ => false
def axF (P : Program) (tbl : List (ACt P nq)) (dirty : Nat → List Nat) (n : Nat) (fn : Func) (c : Code) (sa : List Value) (sr fb : Value) : Bool :=
 sa.all (fun x => !isP x) && asw P true tbl dirty n c (retA P fn sr fb) ((ptr 0 :: sa) ++ List.replicate (fn.ntmps - (ptr 0 :: sa).length) undef) [[unkB]]
def span1 (t : Value) : List Value :=
 match t with
 | .tuple ⟨[.int k (.negSucc n)]⟩ => (List.range (n + 1)).map (fun i => .int k (.ofNat i))
 | t => [t]
def spanL : List Value → List (List Value)
 | [] => [[]]
 | t :: l => (span1 t).flatMap fun x => (spanL l).map (x :: ·)
theorem span1_ok {t v : Value} (g : G2 τ t v) : ∃ x ∈ span1 t, G2 τ x v := by
 unfold span1
 split
 ·rename_i k n
  obtain ⟨x, rfl, h0, h1⟩ := g
  refine ⟨.int k (.ofNat x.toNat), List.mem_map.2 ⟨x.toNat, List.mem_range.2 (by omega), rfl⟩, ?_⟩
  have : Int.ofNat x.toNat = x := by rw [Int.ofNat_eq_natCast]; omega
  rw [this]
  exact ⟨rfl, rfl⟩
 ·exact ⟨_, List.mem_singleton.2 rfl, g⟩
theorem spanL_ok : ∀ {l vs : List Value}, All2 (G2 τ) l vs → ∃ l' ∈ spanL l, All2 (G2 τ) l' vs
 | [], [], _ => ⟨[], List.mem_singleton.2 rfl, trivial⟩
 | t :: l, v :: vs, g => by
  obtain ⟨x, hx, gx⟩ := span1_ok g.1
  obtain ⟨l', hl, gl⟩ := spanL_ok g.2
  exact ⟨x :: l', List.mem_flatMap.2 ⟨x, hx, List.mem_map.2 ⟨l', hl, rfl⟩⟩, gx, gl⟩
 | [], _ :: _, g => g.elim
 | _ :: _, [], g => g.elim
theorem noP : ∀ {sa rest : List Value}, sa.all (fun x => !isP x) = true → All2 (G2 τ) sa rest → ∀ v ∈ rest, isP v = false
 | [], [], _, _, v, hv => by cases hv
 | a :: sa, r :: rest, h, g, v, hv => by
  simp only [List.all_cons, Bool.and_eq_true, Bool.not_eq_true'] at h
  rcases List.mem_cons.1 hv with rfl | hv
  ·rw [g.1.isP]; exact h.1
  ·exact noP h.2 g.2 v hv
 | [], _ :: _, _, g, _, _ => g.elim
 | _ :: _, [], _, g, _, _ => g.elim
theorem rep_get (n t : Nat) : ((List.replicate n undef)[t]?).getD undef = undef := by
 by_cases h : t < n
 ·rw [List.getElem?_eq_getElem (by simpa using h), List.getElem_replicate]; rfl
 ·rw [List.getElem?_eq_none (by simpa using h)]; rfl
theorem GF.start {sa vs : List Value} (g : All2 (G2 τ) sa vs) (n : Nat) : GF τ (sa ++ List.replicate (n - sa.length) undef) (vs ++ List.replicate (n - vs.length) undef) := by
 have hl := g.len
 refine ⟨by simp [hl], fun t => ?_⟩
 simp only [List.getD_eq_getElem?_getD]
 by_cases ht : t < sa.length
 ·rw [List.getElem?_append_left ht, List.getElem?_append_left (by omega)]
  obtain ⟨b, hb, gb⟩ := g.get t _ (List.getElem?_eq_getElem ht)
  rw [hb, List.getElem?_eq_getElem ht]
  exact gb
 ·rw [List.getElem?_append_right (by omega), List.getElem?_append_right (by omega), rep_get, rep_get]
  exact real2_same rfl
theorem flow_calls {tbl : List (Ct P)} {dirty : Nat → List Nat} {n : Nat} (hm : P.follows .mixedOrders = true) {f : Nat} {fn : Func} {c : Code} (hf : P.funcs[f]? = some fn) (hb : fn.body = some c) {rest : List Value} (hp : ∀ v ∈ rest, isP v = false) {bad bad' : Bool} {v0 : Value}
    (h : swp P tbl dirty n c (retQ P fn (fun v m => v = v0 ∧ flagOf m = some bad')) ((ptr 0 :: rest) ++ List.replicate (fn.ntmps - (ptr 0 :: rest).length) undef) [[.bool bad]]) (b : Nat) (w : World) (hg : GW w) (hb1 : 1 < b) (hw : Fl b bad w) :
    Calls P f (ptr b :: rest).toArray w fun e w' => e = .returned v0 ∧ Fl b bad' w' ∧ Kept b w w' := by
 have R : RW [b] w [some b] [[.bool bad]] w := by
  refine ⟨fun i B hi => ?_, fun i j B hi hj => ?_, fun i B hi => ?_, rfl, rfl, rfl, Nat.le_refl _, fun _ _ _ => rfl, hg, by simpa using hb1⟩
  ·match i, hi with
   | 0, hi => cases hi; exact ⟨_, rfl, arr_fl hw⟩
  ·match i, j, hi, hj with
   | 0, 0, _, _ => rfl
  ·match i, hi with
   | 0, hi => cases hi; exact .inl List.mem_cons_self
 refine Calls.mono (calls_sx hm hf hb (vargs := ptr 0 :: rest) R rfl (by simp) (fun i => ?_) h) ?_
 ·cases i with
  | zero => exact ⟨b, rfl, rfl⟩
  | succ i =>
   by_cases hi : i < rest.length
   ·have := hp _ (List.getElem_mem hi)
    simp only [List.getD_eq_getElem?_getD, Array.getD_eq_getD_getElem?]
    simp [hi]
    exact .same this
   ·simp only [List.getD_eq_getElem?_getD, Array.getD_eq_getD_getElem?]
    simp [hi]
    rfl
 ·rintro e w' ⟨v, bl', m2, rfl, ⟨rfl, h2⟩, R', hle⟩
  obtain ⟨l, e, A⟩ := R'.arr 0 b (hle 0 b rfl)
  rw [flagOf_some h2] at e
  cases e
  exact ⟨rfl, fl_arr A, R'.os, R'.tape, R'.output, R'.size, fun i hi hb => R'.block i hi (by simpa using hb)⟩
theorem pure_calls {tbl : List (Ct P)} {dirty : Nat → List Nat} {n : Nat} (hm : P.follows .mixedOrders = true) {f : Nat} {fn : Func} {c : Code} (hf : P.funcs[f]? = some fn) (hb : fn.body = some c) {rest : List Value} (hp : ∀ v ∈ rest, isP v = false) {v0 : Value}
    (h : swp P tbl dirty n c (retQ P fn (fun v _ => v = v0)) (rest ++ List.replicate (fn.ntmps - rest.length) undef) []) (w : World) (hg : GW w) :
    Calls P f rest.toArray w fun e w' => e = .returned v0 ∧ Below w.heap.size w w' := by
 have R : RW [] w [] [] w := ⟨fun i B hi => (by cases hi), fun i j B hi => (by cases hi), fun i B hi => (by cases hi), rfl, rfl, rfl, Nat.le_refl _, fun _ _ _ => rfl, hg, fun b hb => by cases hb⟩
 refine Calls.mono (calls_sx hm hf hb (vargs := rest) R rfl (by simp) (fun i => ?_) h) ?_
 ·by_cases hi : i < rest.length
  ·have := hp _ (List.getElem_mem hi)
   simp only [List.getD_eq_getElem?_getD, Array.getD_eq_getD_getElem?]
   simp [hi]
   exact .same this
  ·simp only [List.getD_eq_getElem?_getD, Array.getD_eq_getD_getElem?]
   simp [hi]
   rfl
 ·rintro e w' ⟨v, bl', m2, rfl, rfl, R', _⟩
  exact ⟨rfl, R'.os, R'.tape, R'.output, R'.size, fun i hi => R'.block i hi (by simp)⟩
theorem axF_core (hNQ : ∀ τ, nq τ → NQ τ) {tbl : List (ACt P nq)} {dirty : Nat → List Nat} {n : Nat} (hm : P.follows .mixedOrders = true) {f : Nat} {fn : Func} {c : Code} (hf : P.funcs[f]? = some fn) (hb : fn.body = some c) {sa : List Value} {sr fb : Value} (h : axF P tbl dirty n fn c sa sr fb = true)
    (bad : Bool) (rest : List Value) (τ : Nat → Int) (g : All2 (G2 τ) sa rest) (h0 : bad = true ∨ NQ τ) :
    ∃ v bad' τ', (∀ b w, GW w → 1 < b → Fl b bad w → Calls P f (ptr b :: rest).toArray w fun e w' => e = .returned v ∧ Fl b bad' w' ∧ Kept b w w') ∧ (bad = true → bad' = true) ∧ G0 τ' fb (.bool bad') ∧ G2 τ' sr v ∧ (bad' = true ∨ NQ τ') := by
 unfold axF at h
 rw [Bool.and_eq_true] at h
 have M0 : GM τ [[unkB]] [[.bool bad]] := ⟨rfl, fun k l hl => by
  match k, hl with
  | 0, hl => cases hl; exact ⟨_, rfl, ⟨bad, rfl⟩, trivial⟩⟩
 obtain ⟨e, vt, m, τ1, at1, am1, h1, F1, M1, I1, hs⟩ := asw_ok (NQ := NQ) (b0 := bad) hNQ c _ τ _ _ _ [[.bool bad]] h.2 (GF.start (sa := ptr 0 :: sa) (vs := ptr 0 :: rest) ⟨⟨rfl, rfl⟩, g⟩ fn.ntmps) M0 (fun _ => ⟨bad, rfl, id, h0⟩)
 ·obtain ⟨b', i1, i2, i3⟩ := I1 rfl
  have chk : chkA P fn sr fb at1 am1 = true ∧ ∀ Post, retQ P fn Post e vt m ↔ (match resV P fn vt m with
      | some v => Post v m
      | none => False) := by
   unfold retA at h1
   split at h1
   ·exact ⟨h1, fun _ => Iff.rfl⟩
   ·exact ⟨h1, fun _ => Iff.rfl⟩
   ·cases h1
  obtain ⟨hc, hret⟩ := chk
  unfold chkA at hc
  split at hc
  ·rename_i t c' ms ht
   obtain ⟨v, hv, gv⟩ := resV_nat F1 M1 ht
   have hflag : flagOf m = some b' := by
    match m, i1 with
    | l :: _, i1 =>
     have : l = [.bool b'] := by simpa using i1
     rw [this]
     rfl
   have hcalls : ∀ b w, GW w → 1 < b → Fl b bad w → Calls P f (ptr b :: rest).toArray w fun e w' => e = .returned v ∧ Fl b b' w' ∧ Kept b w w' :=
    flow_calls hm hf hb (noP h.1 g) (hs _ ((hret _).2 (by rw [hv]; exact ⟨rfl, hflag⟩)))
   obtain ⟨l', hl', gl⟩ := M1.g 0 [c'] rfl
   rw [i1] at hl'
   cases hl'
   rw [Bool.and_eq_true, Bool.or_eq_true] at hc
   rcases hc.2 with h2 | h2
   ·exact ⟨v, b', τ1, hcalls, i2, le0_ok hc.1 gl.1, le2_ok h2 gv, i3⟩
   ·rw [Bool.and_eq_true] at h2
    have e1 : c' = .bool true := by
     have := h2.1
     unfold isT at this
     split at this
     ·rfl
     ·cases this
    subst e1
    have e2 : b' = true := by
     have := gl.1.1
     cases this
     rfl
    subst e2
    exact ⟨v, true, fun _ => 0, hcalls, i2, le0_ok hc.1 ⟨rfl, rfl⟩, zr2_ok (le2_ok h2.2 gv), .inl rfl⟩
  ·cases hc
def retP (P : Program) (fn : Func) (sr : Value) : AQ := fun e at' m =>
 match e with
 | .normal => (match resA P fn at' m with
  | some t => le2 t sr
  | none => false)
 | .ret => (match resA P fn at' m with
  | some t => le2 t sr
  | none => false)
 | _ => false
def axP (P : Program) (tbl : List (ACt P nq)) (dirty : Nat → List Nat) (n : Nat) (fn : Func) (c : Code) (sa : List Value) (sr : Value) : Bool :=
 sa.all (fun x => !isP x) && asw P false tbl dirty n c (retP P fn sr) (sa ++ List.replicate (fn.ntmps - sa.length) undef) []
theorem axP_core {tbl : List (ACt P nq)} {dirty : Nat → List Nat} {n : Nat} (hm : P.follows .mixedOrders = true) {f : Nat} {fn : Func} {c : Code} (hf : P.funcs[f]? = some fn) (hb : fn.body = some c) {sa : List Value} {sr : Value} (h : axP P tbl dirty n fn c sa sr = true)
    (rest : List Value) (τ : Nat → Int) (g : All2 (G2 τ) sa rest) : ∃ v τ', (∀ w, GW w → Calls P f rest.toArray w fun e w' => e = .returned v ∧ Below w.heap.size w w') ∧ G2 τ' sr v := by
 unfold axP at h
 rw [Bool.and_eq_true] at h
 obtain ⟨e, vt, m, τ1, at1, am1, h1, F1, M1, I1, hs⟩ := asw_ok (nq := nq) (NQ := nq) (b0 := false) (fun _ h => h) c _ τ _ _ _ [] h.2 (GF.start g fn.ntmps) ⟨rfl, fun k l hl => (by cases hl)⟩ (fun e => by cases e)
 have chk : ∃ t, resA P fn at1 am1 = some t ∧ le2 t sr = true ∧ ∀ Post, retQ P fn Post e vt m ↔ (match resV P fn vt m with
     | some v => Post v m
     | none => False) := by
  unfold retP at h1
  split at h1
  ·split at h1
   ·rename_i t ht
    exact ⟨t, ht, h1, fun _ => Iff.rfl⟩
   ·cases h1
  ·split at h1
   ·rename_i t ht
    exact ⟨t, ht, h1, fun _ => Iff.rfl⟩
   ·cases h1
  ·cases h1
 obtain ⟨t, ht, hle, hret⟩ := chk
 obtain ⟨v, hv, gv⟩ := resV_nat F1 M1 ht
 exact ⟨v, τ1, pure_calls hm hf hb (noP h.1 g) (hs _ ((hret _).2 (by rw [hv]))), le2_ok hle gv⟩
def FOp (P : Program) (nq : (Nat → Int) → Prop) (f : Nat) (sa : List Value) (sr fb : Value) (g : Bool → List Value → Value × Bool) : Prop :=
 ∀ bad rest, All2 (G2 (fun _ => 0)) sa rest → (∀ b w, GW w → 1 < b → Fl b bad w → Calls P f (ptr b :: rest).toArray w fun e w' => e = .returned (g bad rest).1 ∧ Fl b (g bad rest).2 w' ∧ Kept b w w') ∧ (bad = true → (g bad rest).2 = true) ∧
  ∃ τ', G0 τ' fb (.bool (g bad rest).2) ∧ G2 τ' sr (g bad rest).1 ∧ ((g bad rest).2 = true ∨ nq τ')
def POp (P : Program) (f : Nat) (sa : List Value) (sr : Value) (g : List Value → Value) : Prop :=
 ∀ rest, All2 (G2 (fun _ => 0)) sa rest → (∀ w, GW w → Calls P f rest.toArray w fun e w' => e = .returned (g rest) ∧ Below w.heap.size w w') ∧ ∃ τ', G2 τ' sr (g rest)
theorem flow_ax {tbl : List (ACt P nq)} {dirty : Nat → List Nat} {n : Nat} (hq : ∃ τ, nq τ) (hm : P.follows .mixedOrders = true) {f : Nat} {fn : Func} {c : Code} (hf : P.funcs[f]? = some fn) (hb : fn.body = some c) {sa : List Value} {sr fb : Value} (h : (noTags sa && (spanL sa).all fun s => axF P tbl dirty n fn c s sr fb) = true) : ∃ g, FOp P nq f sa sr fb g := by
 rw [Bool.and_eq_true] at h
 obtain ⟨τ0, h0⟩ := hq
 have key : ∀ (x : Bool × List Value), ∃ y : Value × Bool, All2 (G2 (fun _ => 0)) sa x.2 → (∀ b w, GW w → 1 < b → Fl b x.1 w → Calls P f (ptr b :: x.2).toArray w fun e w' => e = .returned y.1 ∧ Fl b y.2 w' ∧ Kept b w w') ∧ (x.1 = true → y.2 = true) ∧
  ∃ τ', G0 τ' fb (.bool y.2) ∧ G2 τ' sr y.1 ∧ (y.2 = true ∨ nq τ') := by
  intro x
  by_cases hx : All2 (G2 (fun _ => 0)) sa x.2
  ·obtain ⟨s, hs, gs⟩ := spanL_ok (noTags_ok (τ' := τ0) h.1 hx)
   obtain ⟨v, bad', τ', h1, h2, h3, h4, h5⟩ := axF_core (NQ := nq) (fun _ h => h) hm hf hb (List.all_eq_true.1 h.2 s hs) x.1 x.2 τ0 gs (.inr h0)
   exact ⟨(v, bad'), fun _ => ⟨h1, h2, τ', h3, h4, h5⟩⟩
  ·exact ⟨(undef, false), fun e => absurd e hx⟩
 exact ⟨fun bad rest => Classical.choose (key (bad, rest)), fun bad rest hr => Classical.choose_spec (key (bad, rest)) hr⟩
theorem pure_ax {tbl : List (ACt P nq)} {dirty : Nat → List Nat} {n : Nat} (hm : P.follows .mixedOrders = true) {f : Nat} {fn : Func} {c : Code} (hf : P.funcs[f]? = some fn) (hb : fn.body = some c) {sa : List Value} {sr : Value} (h : axP P tbl dirty n fn c sa sr = true) : ∃ g, POp P f sa sr g := by
 have key : ∀ x : List Value, ∃ y : Value, All2 (G2 (fun _ => 0)) sa x → (∀ w, GW w → Calls P f x.toArray w fun e w' => e = .returned y ∧ Below w.heap.size w w') ∧ ∃ τ', G2 τ' sr y := by
  intro x
  by_cases hx : All2 (G2 (fun _ => 0)) sa x
  ·obtain ⟨v, τ', h1, h2⟩ := axP_core hm hf hb h x _ hx
   exact ⟨v, fun _ => ⟨h1, τ', h2⟩⟩
  ·exact ⟨undef, fun e => absurd e hx⟩
 exact ⟨fun rest => Classical.choose (key rest), fun rest hr => Classical.choose_spec (key rest) hr⟩
def opCt (P : Program) (nq : (Nat → Int) → Prop) (f : Nat) (sa : List Value) (sr fb : Value) (h : ∃ g, FOp P nq f sa sr fb g) (go : ∀ (args : Array Value) (w : World), (callFunc f args).run P w = .ok (.enter f args) w) (hp : sa.all (fun x => !isP x) = true) (hr : isP sr = false) : Ct P where
 fn := f
 sp := fun args m K => match args with
  | .pointer (some ⟨k, 0, none⟩) :: rest => ∃ bad, m[k]? = some [.bool bad] ∧ All2 (G2 (fun _ => 0)) sa rest ∧ K (Classical.choose h bad rest).1 (m.set k [.bool (Classical.choose h bad rest).2])
  | _ => False
 go := go
 mono := fun hK hs => by
  split at hs
  ·obtain ⟨bad, h1, h2, h3⟩ := hs
   exact ⟨bad, h1, h2, hK _ _ h3⟩
  ·exact hs
 keep := fun {args m K} hs => by
  split at hs
  ·rename_i k rest
   obtain ⟨bad, h1, h2, h3⟩ := hs
   refine ⟨bad, h1, h2, h3, List.length_set .., fun k' hk' => ?_⟩
   have e : k ≠ k' := by rintro rfl; exact hk' (by simp [ptrs])
   rw [List.getElem?_set_ne e]
  ·exact hs
 ok := fun {bs w0 bl m w args args' K} R hlen hv hs => by
  split at hs
  ·rename_i k rest
   obtain ⟨bad, hmk, hg, hK⟩ := hs
   obtain ⟨B, hB, he⟩ := hv 0
   have hargs : args' = (ptr B :: rest).toArray := by
    refine Array.ext (by rw [hlen]; simp) (fun i h1 h2 => ?_)
    cases i with
    | zero =>
     simp only [Array.getD_eq_getD_getElem?, Array.getElem?_eq_getElem h1] at he
     simpa [ptr] using he
    | succ i =>
     have hi : i < rest.length := by simp at hlen; omega
     have := hv (i + 1)
     simp only [List.getD_eq_getElem?_getD, Array.getD_eq_getD_getElem?, List.getElem?_cons_succ] at this
     rw [List.getElem?_eq_getElem hi, Array.getElem?_eq_getElem h1] at this
     have e := this.plain (noP hp hg _ (List.getElem_mem hi))
     simp only [Option.getD_some] at e
     rw [e]
     simp
   obtain ⟨l2, e2, A⟩ := R.arr k B hB
   have e2 : m[k]? = some l2 := e2
   rw [hmk] at e2
   cases e2
   rw [hargs]
   obtain ⟨hcl, _, τ', _, h4, _⟩ := Classical.choose_spec h bad rest hg
   refine Calls.mono (hcl B w R.gwAt (R.gt hB hmk (List.cons_ne_nil _ _)) (fl_arr A)) ?_
   rintro e w' ⟨rfl, F, Kp⟩
   exact ⟨_, _, _, rfl, .same (by rw [h4.isP]; exact hr), hK, R.flow hB hmk F Kp⟩
  ·exact hs.elim
def opCtP (P : Program) (f : Nat) (sa : List Value) (sr : Value) (h : ∃ g, POp P f sa sr g) (go : ∀ (args : Array Value) (w : World), (callFunc f args).run P w = .ok (.enter f args) w) (hp : sa.all (fun x => !isP x) = true) (hr : isP sr = false) : Ct P where
 fn := f
 sp := fun args m K => All2 (G2 (fun _ => 0)) sa args ∧ K (Classical.choose h args) m
 go := go
 mono := fun hK hs => ⟨hs.1, hK _ _ hs.2⟩
 keep := fun hs => ⟨hs.1, hs.2, rfl, fun _ _ => rfl⟩
 ok := fun {bs w0 bl m w args args' K} R hlen hv hs => by
  rw [args_same hlen hv (noP hp hs.1)]
  obtain ⟨hcl, τ', h4⟩ := Classical.choose_spec h args hs.1
  refine Calls.mono (hcl w R.gwAt) ?_
  rintro e w' ⟨rfl, Kp⟩
  exact ⟨_, _, _, rfl, .same (by rw [h4.isP]; exact hr), hs.2, R.pure Kp⟩
def rowF {f : Nat} {sa : List Value} {sr fb : Value} (tout : Bool) (go : ∀ (args : Array Value) (w : World), (callFunc f args).run P w = .ok (.enter f args) w) (h : ∃ g, FOp P nq f sa sr fb g) (hk : (noTags sa && sa.all (fun x => !isP x) && !isP sr && (tout || (noTag sr && noTag fb))) = true) : ACt P nq where
 ct := opCt P nq f sa sr fb h go (by simp only [Bool.and_eq_true] at hk; exact hk.1.1.2) (by simp only [Bool.and_eq_true, Bool.not_eq_true'] at hk; exact hk.1.2)
 flow := true
 sa := sa
 sr := sr
 fb := fb
 tout := tout
 okF := fun _ k rest m bad τ hm hg => by
  simp only [Bool.and_eq_true, Bool.or_eq_true, Bool.not_eq_true'] at hk
  have hr : All2 (G2 (fun _ => 0)) sa rest := noTags_ok hk.1.1.1 hg
  obtain ⟨h1, h2, τ', h3, h4, h5⟩ := Classical.choose_spec h bad rest hr
  cases tout with
  | true => exact ⟨_, _, τ', fun K hK => ⟨bad, hm, hr, hK⟩, h3, h2, fun _ => h5.imp id .inl, h4, (fun e => by cases e)⟩
  | false =>
   have hn := hk.2.resolve_left (by decide)
   exact ⟨_, _, τ, fun K hK => ⟨bad, hm, hr, hK⟩, G0.g2 h3 |> noTag_ok hn.2 |> fun g => (by
    have hp := h3.plain
    unfold G2 at g
    split at g
    ·cases hp
    ·unfold G1 at g
     split at g
     ·cases hp
     ·exact g), h2, (fun e => by cases e), noTag_ok hn.1 h4, fun _ => rfl⟩
 okP := fun e => by cases e
def rowP {f : Nat} {sa : List Value} {sr : Value} (go : ∀ (args : Array Value) (w : World), (callFunc f args).run P w = .ok (.enter f args) w) (h : ∃ g, POp P f sa sr g) (hk : (noTags sa && sa.all (fun x => !isP x) && !isP sr && noTag sr) = true) : ACt P nq where
 ct := opCtP P f sa sr h go (by simp only [Bool.and_eq_true] at hk; exact hk.1.1.2) (by simp only [Bool.and_eq_true, Bool.not_eq_true'] at hk; exact hk.1.2)
 flow := false
 sa := sa
 sr := sr
 fb := unkB
 tout := false
 okF := fun e => by cases e
 okP := fun _ args m τ hg => by
  simp only [Bool.and_eq_true, Bool.not_eq_true'] at hk
  have hr : All2 (G2 (fun _ => 0)) sa args := noTags_ok hk.1.1.1 hg
  obtain ⟨h1, τ', h4⟩ := Classical.choose_spec h args hr
  exact ⟨_, fun K hK => ⟨hr, hK⟩, noTag_ok hk.2 h4⟩
end
end Go.Proofs.YtbophanlmkbfeaaGreatDoor
namespace Go.Proofs.YtbophanlmkbfeaaGreatDoor
open Go.RowKit
def cAgg {A : Type} (d : Dl A) : Dc A where
 enc x := .agg (d.enc x).toArray
 dec v := match v with
  | .agg cs => d.dec cs.toList
  | _ => none
 law v x h := by
  split at h
  ·rename_i cs
   have := d.law _ _ h
   rw [← this]
  ·cases h
 np _ := rfl
end Go.Proofs.YtbophanlmkbfeaaGreatDoor
namespace Go.Proofs.YtbophanlmkbfeaaGreatDoor
open Go.RowKit
def Tup : Nat → Type
 | 0 => Unit
 | n + 1 => Int × Tup n
def tEnc : (n : Nat) → Tup n → List Value
 | 0, _ => []
 | n + 1, x => .int .i64 x.1 :: tEnc n x.2
def tDec : (n : Nat) → List Value → Option (Tup n)
 | 0, l => (match l with
  | [] => some ()
  | _ => none)
 | n + 1, l => (match l with
  | .int .i64 x :: r => (match tDec n r with
   | some y => some (x, y)
   | none => none)
  | _ => none)
theorem tDec_law : ∀ (n : Nat) (l : List Value) (x : Tup n), tDec n l = some x → l = tEnc n x
 | 0, l, x, h => by
  unfold tDec at h
  split at h
  ·rfl
  ·cases h
 | n + 1, l, x, h => by
  unfold tDec at h
  split at h
  ·split at h
   ·rename_i y hy
    cases h
    rw [tDec_law n _ y hy]
    rfl
   ·cases h
  ·cases h
theorem tEnc_np : ∀ (n : Nat) (x : Tup n), ∀ v ∈ tEnc n x, isP v = false
 | 0, _, v, h => by cases h
 | n + 1, x, v, h => by
  rcases List.mem_cons.1 h with rfl | h
  ·rfl
  ·exact tEnc_np n x.2 v h
def dT (n : Nat) : Dl (Tup n) := ⟨tEnc n, tDec n, fun l x h => tDec_law n l x h, tEnc_np n⟩
def cT (n : Nat) : Dc (Tup n) := cAgg (dT n)
theorem tEnc_of {τ : Nat → Int} : ∀ (n : Nat) (l : List Value), All2 (G0 τ) (List.replicate n (unk .i64)) l → ∃ x : Tup n, tEnc n x = l
 | 0, [], _ => ⟨(), rfl⟩
 | n + 1, v :: l, h => by
  obtain ⟨⟨x, rfl⟩, h2⟩ := h
  obtain ⟨y, rfl⟩ := tEnc_of n l h2
  exact ⟨(x, y), rfl⟩
 | 0, _ :: _, h => h.elim
 | _ + 1, [], h => h.elim
def dcat {A B : Type} (n : Nat) (d : Dl A) (e : Dl B) : Dl (A × B) where
 enc x := d.enc x.1 ++ e.enc x.2
 dec l := match d.dec (l.take n), e.dec (l.drop n) with
  | some a, some b => some (a, b)
  | _, _ => none
 law l x h := by
  split at h
  ·rename_i a b h1 h2
   cases h
   rw [← d.law _ _ h1, ← e.law _ _ h2, List.take_append_drop]
  ·cases h
 np x v hv := by
  rcases List.mem_append.1 hv with h | h
  ·exact d.np x.1 v h
  ·exact e.np x.2 v h
def cS : Dc ByteArray where
 enc s := .string s
 dec v := match v with
  | .string s => some s
  | _ => none
 law v x h := by
  split at h
  ·cases h; rfl
  ·cases h
 np _ := rfl
def three' {A B C : Type} (c : Dc A) (d : Dc B) (e : Dc C) : Dc (A × B × C) where
 enc p := .tuple #[c.enc p.1, d.enc p.2.1, e.enc p.2.2]
 dec v := match v with
  | .tuple ⟨[x, y, z]⟩ => (match c.dec x, d.dec y, e.dec z with
   | some a, some b, some c => some (a, b, c)
   | _, _, _ => none)
  | _ => none
 law v x h := by
  split at h
  ·split at h
   ·rename_i h1 h2 h3
    cases h
    rw [c.law _ _ h1, d.law _ _ h2, e.law _ _ h3]
   ·cases h
  ·cases h
 np _ := rfl
section
variable {P : Program} {nq : (Nat → Int) → Prop}
theorem flowOk_of {f : Nat} {sa : List Value} {sr fb : Value} (h : ∃ g, FOp P nq f sa sr fb g) {A R : Type} (d : Dl A) (c : Dc R) (hd : ∀ x, All2 (G2 (fun _ => 0)) sa (d.enc x)) (hc : ∀ τ v, G2 τ sr v → ∃ y, c.enc y = v) :
    ∃ g : Bool → A → R × Bool, FlowOk P f d g c ∧ ∀ bad x, (bad = true → (g bad x).2 = true) ∧ ∃ τ', G2 τ' sr (c.enc (g bad x).1) ∧ ((g bad x).2 = true ∨ nq τ') := by
 obtain ⟨g, hg⟩ := h
 have key : ∀ x : Bool × A, ∃ y : R × Bool, c.enc y.1 = (g x.1 (d.enc x.2)).1 ∧ y.2 = (g x.1 (d.enc x.2)).2 := by
  rintro ⟨bad, x⟩
  obtain ⟨_, _, τ', _, h4, _⟩ := hg bad (d.enc x) (hd x)
  obtain ⟨y, hy⟩ := hc τ' _ h4
  exact ⟨(y, (g bad (d.enc x)).2), hy, rfl⟩
 refine ⟨fun bad x => Classical.choose (key (bad, x)), fun b bad x w hw hb hf => ?_, fun bad x => ?_⟩
 ·obtain ⟨e1, e2⟩ := Classical.choose_spec (key (bad, x))
  dsimp only at e1 e2 ⊢
  rw [e1, e2]
  exact (hg bad _ (hd x)).1 b w hw hb hf
 ·obtain ⟨e1, e2⟩ := Classical.choose_spec (key (bad, x))
  obtain ⟨_, h2, τ', _, h4, h5⟩ := hg bad _ (hd x)
  dsimp only at e1 e2 ⊢
  rw [e1, e2]
  exact ⟨h2, τ', h4, h5⟩
theorem tEnc_g {τ : Nat → Int} : ∀ (n : Nat) (x : Tup n), All2 (G0 τ) (List.replicate n (unk .i64)) (tEnc n x)
 | 0, _ => trivial
 | n + 1, x => ⟨⟨x.1, rfl⟩, tEnc_g n x.2⟩
theorem cT_g {τ : Nat → Int} (n : Nat) (x : Tup n) : G2 τ (.agg ⟨List.replicate n (unk .i64)⟩) ((cT n).enc x) := ⟨tEnc n x, rfl, tEnc_g n x⟩
theorem cT_of {τ : Nat → Int} (n : Nat) (v : Value) (h : G2 τ (.agg ⟨List.replicate n (unk .i64)⟩) v) : ∃ y, (cT n).enc y = v := by
 obtain ⟨l, rfl, gl⟩ := h
 obtain ⟨x, rfl⟩ := tEnc_of n l gl
 exact ⟨x, rfl⟩
theorem pure_at {tbl : List (Ct P)} {dirty : Nat → List Nat} {n : Nat} (hm : P.follows .mixedOrders = true) {f : Nat} {fn : Func} {c : Code} (hf : P.funcs[f]? = some fn) (hb : fn.body = some c) {A R : Type} {d : Dl A} {k : Dc R} {x : A} {y : R}
    (h : ∀ Post : Value → Prop, PJ k Post y → swp P tbl dirty n c (retQ P fn (fun v _ => Post v)) (d.enc x ++ List.replicate (fn.ntmps - (d.enc x).length) undef) []) (w : World) (hg : GW w) : Calls P f (d.enc x).toArray w fun e w' => e = .returned (k.enc y) ∧ Below w.heap.size w w' :=
 pure_calls hm hf hb (d.np x) (h (fun v => v = k.enc y) rfl) w hg
def ctAt (P : Program) (f : Nat) {A R : Type} (d : Dl A) (c : Dc R) (x : A) (y : R) (go : ∀ (args : Array Value) (w : World), (callFunc f args).run P w = .ok (.enter f args) w) (h : ∀ w, GW w → Calls P f (d.enc x).toArray w fun e w' => e = .returned (c.enc y) ∧ Below w.heap.size w w') : Ct P where
 fn := f
 sp := fun args m K => args = d.enc x ∧ K (c.enc y) m
 go := go
 mono := fun hK hs => ⟨hs.1, hK _ _ hs.2⟩
 keep := fun hs => ⟨hs.1, hs.2, rfl, fun _ _ => rfl⟩
 ok := fun {bs w0 bl m w args args' K} R hlen hv hs => by
  rw [args_same hlen hv (by rw [hs.1]; exact d.np x), hs.1]
  refine Calls.mono (h w R.gwAt) ?_
  rintro e w' ⟨rfl, Kp⟩
  exact ⟨_, _, _, rfl, .same (c.np _), hs.2, R.pure Kp⟩
end
end Go.Proofs.YtbophanlmkbfeaaGreatDoor
namespace Go.Proofs.YtbophanlmkbfeaaGreatDoor
open Go.RowKit
attribute [local go_sem ↓] Go.wp_at_zero Go.wp_at_succ
set_option maxHeartbeats 400000 in
theorem longDivision_any (n d : Int) (w : World) (h0 : 0 ≤ n) (h1 : n ≤ 85070591730234615865843651857942052864) (hq : hi64 n < d) (hd : d ≤ 4611686018427387904) :
    Calls Tryz.prog 220 #[.agg #[.int .u64 (hi64 n), .int .u64 (lo64 n)], .int .u64 d] w fun e w' => e = .returned (.int .u64 (n / d)) ∧ Below w.heap.size w w' := by
 have b1 := hi64_bd n h0 (by omega)
 have b2 := lo64_bd n
 have hd0 : 0 < d := by omega
 go_enter Tryz.func220, Tryz.ntmps220
 go_wp2
 go_loop [6, 5, 7] (fun vr vq vj => ∃ j : Int, -1 ≤ j ∧ j ≤ 63 ∧ vr = .int .u64 (ldr n d (j + 1).toNat) ∧ vq = .int .u64 (ldq n d (j + 1).toNat) ∧ vj = .int .i64 j) (fun _ _ vj => (intOf vj + 1).toNat)
 case atStart =>
  have := ldq_64 n d h0 hq
  exact ⟨63, by omega, by omega, by show _ = Value.int .u64 (ldr n d 64); rw [this.2], by show _ = Value.int .u64 (ldq n d 64); rw [this.1], rfl⟩
 case round =>
  obtain ⟨j, hj0, hj1, rfl, rfl, rfl⟩ := hrel
  by_cases hj : 0 ≤ j
  ·obtain ⟨m, rfl⟩ := Int.eq_ofNat_of_zero_le hj
   rw [show ((m : Int) + 1).toNat = m + 1 by omega]
   have HS : Hid _ := ldq_step n d m hd0
   have HR : Hid _ := ldr_bd n d (m + 1) hd0
   have HQ : Hid _ := ldq_bd n d m hd0 h0 hq
   have HQ1 : Hid _ := ldq_bd n d (m + 1) hd0 h0 hq
   have HL : Hid _ := low_bit n m (by omega)
   generalize ldr n d (m + 1) = r at *
   generalize ldq n d (m + 1) = q at *
   have r1 := HR.out
   have HJ : Hid _ := ld_join n r m (by omega) r1.1 (by omega)
   go_wp2
   ·rename_i hc
    rw [HJ.out] at hc ⊢
    have e := HS.out.1 hc
    have q1 := HQ.out
    have q2 := HQ1.out
    refine ⟨⟨(m : Int) - 1, by omega, by omega, ?_, ?_, rfl⟩, by simp [intOf]⟩
    ·rw [show ((m : Int) - 1 + 1).toNat = m by omega, e.2, IntKind.wrap_u64]; congr 1; omega
    ·rw [show ((m : Int) - 1 + 1).toNat = m by omega, e.1, or_one q q2.1 (by omega)]
   ·rename_i hc
    rw [HJ.out] at hc ⊢
    have e := HS.out.2 hc
    have q1 := HQ.out
    have q2 := HQ1.out
    refine ⟨⟨(m : Int) - 1, by omega, by omega, ?_, ?_, rfl⟩, by simp [intOf]⟩
    ·rw [show ((m : Int) - 1 + 1).toNat = m by omega, e.2]
    ·rw [show ((m : Int) - 1 + 1).toNat = m by omega, e.1, IntKind.wrap_u64]; congr 1; omega
  ·go_wp2
   go_ret
   obtain rfl : j = -1 := by omega
   have := ldq_0 n d
   exact ⟨ret_int this.1, by go_grown⟩
set_option maxHeartbeats 400000 in
theorem quotient_any (n d : Int) (w : World) (h0 : 0 ≤ n) (h1 : n ≤ 21267647932558653966460912964485513216) (hd : 1 ≤ d) (hd' : d ≤ 4611686018427387904) :
    Calls Tryz.prog 186 #[.agg #[.int .u64 (hi64 n), .int .u64 (lo64 n)], .int .u64 d] w fun e w' => e = .returned (.int .u64 (sat64 (rnd n d))) ∧ Below w.heap.size w w' := by
 have HM : Hid _ := rnd_much n d hd
 have HI : Hid _ := rnd_in n d hd
 go_enter Tryz.func186, Tryz.ntmps186
 go_wp2_with fail
 refine (plus_lit n (d / 2) _ h0 (by omega) (by omega) (by omega)).mono ?_
 rintro e w1 ⟨rfl, hb⟩
 obtain ⟨hc, hf⟩ := bcell hb
 have hz : w.heap.size < w1.heap.size := by have := hb.size; simp at this; omega
 have hw : ∀ u v, Below w.heap.size w ((w1.setCell ⟨w.heap.size, 0, none⟩ u).setCell ⟨w.heap.size, 1, none⟩ v) := fun u v => ((((Below.refl _ _).alloc (Nat.le_refl _) _).trans (hb.mono (by simp))).setCell (Nat.le_refl _) _).setCell (Nat.le_refl _) _
 have HW : Hid _ := hw
 clear hw hb
 have n0 : 0 ≤ n + d / 2 := by omega
 have n1 : n + d / 2 ≤ 85070591730234615865843651857942052864 := by omega
 clear h0 h1
 generalize n + d / 2 = m at *
 have b1 := hi64_bd m n0 (by omega)
 have b2 := lo64_bd m
 have HE : Hid _ := hilo m
 by_cases c : d ≤ hi64 m
 ·go_wp2
  go_ret
  exact ⟨ret_int (HM.out c), HW.out _ _⟩
 ·by_cases c2 : hi64 m = 0
  ·have c3 : (hi64 m == 0) = true := by simp [c2]
   have d0 : (d == 0) = false := by simp; omega
   have HC : Hid _ := c2
   clear c2
   go_wp2
   go_ret
   refine ⟨ret_int ?_, HW.out _ _⟩
   rw [← HI.out (by omega)]
   congr 1
   have := HE.out
   rw [HC.out] at this
   omega
  ·have c3 : (hi64 m == 0) = false := by simp [c2]
   have HC : Hid _ := c2
   clear c2
   go_wp2_with fail
   refine (longDivision_any m d _ n0 n1 (by omega) hd').mono ?_
   rintro e w2 ⟨rfl, hb2⟩
   go_wp2
   go_ret
   exact ⟨ret_int (HI.out (by omega)), (HW.out _ _).trans (hb2.mono (by simp; omega))⟩
set_option maxHeartbeats 400000 in
theorem root_any (n : Int) (w : World) :
    Calls Tryz.prog 174 #[.agg #[.int .u64 (hi64 n), .int .u64 (lo64 n)]] w fun e w' => e = .returned (.int .u64 (isq n)) ∧ Below w.heap.size w w' := by
 go_enter Tryz.func174, Tryz.ntmps174
 go_wp2
 have HB0 : Hid (Below (w.heap.size + 1) (w.alloc (.cells #[.int .u64 (hi64 n), .int .u64 (lo64 n)] 208)) (w.alloc (.cells #[.int .u64 (hi64 n), .int .u64 (lo64 n)] 208))) := Below.refl _ _
 go_loopw [3, 4] (fun v3 v4 wr => ∃ (j : Nat) (r : Int), j ≤ 63 ∧ v3 = .int .u64 r ∧ v4 = .int .u64 (bitAt j) ∧ 0 ≤ r ∧ Hid (isqf n j r = isq n ∧ r % 2 ^ j = 0 ∧ r + 2 ^ j ≤ 9223372036854775808) ∧ Hid (Below (w.heap.size + 1) (w.alloc (.cells #[.int .u64 (hi64 n), .int .u64 (lo64 n)] 208)) wr)) (fun _ v4 _ => (intOf v4).toNat)
 case atStart => exact ⟨63, 0, Nat.le_refl _, rfl, rfl, Int.le_refl _, ⟨rfl, rfl, by decide⟩, HB0⟩
 case round =>
  obtain ⟨j, r, hj, rfl, rfl, hr0, HR, HB⟩ := hrel
  cases j with
  | zero =>
   have hz : (bitAt 0 != 0) = false := rfl
   go_wp2
   go_ret
   exact ⟨ret_int HR.out.1, ((Below.refl _ _).alloc (Nat.le_refl _) _).trans (HB.out.mono (by omega))⟩
  | succ j =>
   have HE : Hid (bitAt (j + 1) = 2 ^ j) := rfl
   have hbd := bitAt_bd (j + 1) hj
   have HH : Hid _ := bitAt_half j
   have HO : Hid _ := or_pow r j hr0 HR.out.2.1 (by have := HR.out.2.2; have := two_pow_pos (j + 1); omega) (by omega)
   have HD : Hid _ := root_bd r j HR.out.2.2
   have HM : Hid _ := mod_pow_half r j HR.out.2.1
   have HP : Hid _ := two_pow_pos j
   have HF : Hid (isqf n (j + 1) r = isqf n j (if (r + 2 ^ j) * (r + 2 ^ j) ≤ n then r + 2 ^ j else r)) := rfl
   have hne : (bitAt (j + 1) != 0) = true := by rw [HE.out]; simp; have := HP.out; omega
   have hor : bits .or .u64 r (bitAt (j + 1)) = r + bitAt (j + 1) := by rw [HE.out]; exact HO.out
   have hle : r + bitAt (j + 1) ≤ 9223372036854775807 := by rw [HE.out]; have := HD.out; have := HP.out; omega
   have c0 := HB.out.cell (p := ⟨w.heap.size, 0, none⟩) (by simp)
   have c1 := HB.out.cell (p := ⟨w.heap.size, 1, none⟩) (by simp)
   simp at c0 c1
   have hzs : w.heap.size < wr.heap.size := by have := HB.out.size; simp at this; omega
   generalize bitAt (j + 1) = t at *
   have hbd2 : 0 ≤ r + t := by omega
   have HJ : Hid (j ≤ 63) := by show _ ≤ _; omega
   clear hj
   go_wp2
   go_region_held3 (fun w' => w'.cell? ⟨w.heap.size, 0, none⟩ = some (.int .u64 (hi64 n)) ∧ w'.cell? ⟨w.heap.size, 1, none⟩ = some (.int .u64 (lo64 n))) ((first | exact ⟨c0, c1⟩ | exact ⟨cell_later hb1 c0, cell_later hb1 c1⟩ | exact ⟨cell_later hb2 (cell_later hb1 c0), cell_later hb2 (cell_later hb1 c1)⟩))
    (first
     | (go_at_call 161; refine (product_any (r + t) (r + t) _ hbd2 (by omega) hbd2 (by omega)).mono ?_; rintro e w1 ⟨rfl, hb1⟩; obtain ⟨d1, d2⟩ := bcell hb1)
     | (go_at_call 214; refine (wabove_any _ _ _).mono ?_; rintro e w2 ⟨rfl, hb2⟩; obtain ⟨d3, d4⟩ := bcell hb2))
   have HW : Hid (Below (w.heap.size + 1) (w.alloc (.cells #[.int .u64 (hi64 n), .int .u64 (lo64 n)] 208)) w2) := (HB.out.drew.trans (hb1.mono (B' := w.heap.size + 1) (by simp; omega))).trans (hb2.mono (B' := w.heap.size + 1) (by have := hb1.size; simp at this; omega))
   have hle2 := HD.out
   rw [← HE.out] at hle2
   have HF2 : Hid (isqf n (j + 1) r = isqf n j (if (r + t) * (r + t) ≤ n then r + t else r)) := by rw [HE.out]; exact HF.out
   have HM2 : Hid (r % 2 ^ j = 0 ∧ (r + t) % 2 ^ j = 0) := by rw [HE.out]; exact HM.out
   have ht : t / 2 = bitAt j := HH.out
   have ht0 : 0 < t := by rw [HE.out]; exact HP.out
   have HT : Hid _ := ht
   clear ht hb1 hb2 d1 d2 d3 d4 c0 c1 hor
   cases c : decide (n < (r + t) * (r + t))
   ·have hc := Int.not_lt.mp (of_decide_eq_false c)
    have HC : Hid _ := hc
    clear hc
    clear c
    go_wp2
    refine ⟨⟨j, r + t, HJ.out, rfl, ?_, hbd2, ⟨?_, HM2.out.2, ?_⟩, HW.out⟩, ?_⟩
    ·rw [← HT.out]
    ·rw [← HR.out.1, HF2.out, if_pos HC.out]
    ·rw [← HE.out]; omega
    ·simp [intOf]; omega
   ·have hc := of_decide_eq_true c
    have HC : Hid _ := hc
    clear hc
    clear c
    go_wp2
    refine ⟨⟨j, r, HJ.out, rfl, ?_, hr0, ⟨?_, HM2.out.1, ?_⟩, HW.out⟩, ?_⟩
    ·rw [← HT.out]
    ·rw [← HR.out.1, HF2.out, if_neg (Int.not_le.mpr HC.out)]
    ·rw [← HE.out]; omega
    ·simp [intOf]; omega
end Go.Proofs.YtbophanlmkbfeaaGreatDoor
