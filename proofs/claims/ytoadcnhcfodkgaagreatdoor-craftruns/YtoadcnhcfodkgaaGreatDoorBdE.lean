/-
  What the document keeps of the field's change, by the symbolic run and its rounds by hand, for the seat YtoadcnhcfodkgaaGreatDoor.
-/
import Derived.Test.YtoadcnhcfodkgaaGreatDoorBdD
namespace Go.Proofs.YtoadcnhcfodkgaaGreatDoor
open Go.RowKit

section
variable {P : Program} {tbl : List (Ct P)} {dirty : Nat → List Nat} {n : Nat} {ov : Ov}
/-- A function with a flow, some of its statements known by themselves. -/
theorem flow_atO (hm : P.follows .mixedOrders = true) {f : Nat} (hf : P.funcs[f]? = some (fnOf P f)) (hb : (fnOf P f).body = some (bodyOf P f)) {A R : Type} {d : Dl A} {g : Bool → A → R × Bool} {k : Dc R}
    (ho : ∀ b w, OvOk P ov [b] w [] [some b] (bodyOf P f)) (h : ∀ bad x, swpO P tbl dirty n ov (bodyOf P f) (retQ P (fnOf P f) (fun v m => v = k.enc (g bad x).1 ∧ flagOf m = some (g bad x).2)) ((ptr 0 :: d.enc x) ++ List.replicate ((fnOf P f).ntmps - (ptr 0 :: d.enc x).length) undef) [[.bool bad]]) : FlowOk P f d g k := by
  intro b bad x w hg hb1 hw
  have R : RW [b] w [some b] [[.bool bad]] w := by
    refine ⟨fun i B hi => ?_, fun i j B hi hj => ?_, fun i B hi => ?_, rfl, rfl, rfl, Nat.le_refl _, fun _ _ _ => rfl, hg, by simpa using hb1⟩
    · match i, hi with
      | 0, hi => cases hi; exact ⟨_, rfl, arr_fl hw⟩
    · match i, j, hi, hj with
      | 0, 0, _, _ => rfl
    · match i, hi with
      | 0, hi => cases hi; exact .inl List.mem_cons_self
  refine Calls.mono (calls_sxO hm hf hb (vargs := ptr 0 :: d.enc x) R rfl (by simp) (fun i => ?_) (ho b w) (h bad x)) ?_
  · cases i with
    | zero => exact ⟨b, rfl, rfl⟩
    | succ i =>
      by_cases hi : i < (d.enc x).length
      · have := d.np x _ (List.getElem_mem hi)
        simp only [List.getD_eq_getElem?_getD, Array.getD_eq_getD_getElem?]
        simp [hi]
        exact .same this
      · simp only [List.getD_eq_getElem?_getD, Array.getD_eq_getD_getElem?]
        simp [hi]
        rfl
  · rintro e w' ⟨v, bl', m2, rfl, ⟨rfl, h2⟩, R', hle⟩
    obtain ⟨l, e, A⟩ := R'.arr 0 b (hle 0 b rfl)
    rw [flagOf_some h2] at e
    cases e
    exact ⟨rfl, fl_arr A, R'.os, R'.tape, R'.output, R'.size, fun i hi hb => R'.block i hi (by simpa using hb)⟩
end
def zeroDri : Dri := (false, 0, 0, 0, 0, 0, 0, 0, ())
def okDri (k : Int) (b : Tup 3) (x y z : Int) : Dri := (true, k, b.1, b.2.1, b.2.2.1, x, y, z, ())
def leanR (bad : Bool) (x l r t : Int) : Int × Bool := let s := subS bad x l; let p := partS s.2 s.1 1000 t; let u := subS p.2 p.1 r; let q := partS u.2 u.1 t (IntKind.i64.wrap (t + 2000)); addS q.2 r q.1
/-- How many milliseconds lie between, as far as c rounds find it. -/
def tR (o k : Int) : Nat → Int
  | 0 => 0
  | c + 1 => if o ≤ IntKind.i64.wrap (9223372036854775807 - (10 + (c : Int))) then (if IntKind.i64.wrap (o + (10 + (c : Int))) = k then 10 + (c : Int) else tR o k c) else tR o k c
def flR (bad : Bool) (b : Tup 3) : Bool := (addS (addS (addS bad b.1 0).2 b.2.1 0).2 b.2.2.1 0).2
def endN (fl : Bool) (b : Tup 3) (k : Int) : Dri × Bool := if fl then (zeroDri, fl) else (okDri k b 0 0 0, fl)
def bxR (fl : Bool) (d : Dri) (b : Tup 3) (t : Int) : Int × Bool := leanR fl b.1 d.2.2.1 d.2.2.2.2.2.1 t
def bxS (fl : Bool) (d : Dri) (b : Tup 3) (t : Int) : Int × Bool := leanR (bxR fl d b t).2 b.2.1 d.2.2.2.1 d.2.2.2.2.2.2.1 t
def bxT (fl : Bool) (d : Dri) (b : Tup 3) (t : Int) : Int × Bool := leanR (bxS fl d b t).2 b.2.2.1 d.2.2.2.2.1 d.2.2.2.2.2.2.2.1 t
def endL (fl : Bool) (d : Dri) (b : Tup 3) (k t : Int) : Dri × Bool := if (bxT fl d b t).2 then (zeroDri, (bxT fl d b t).2) else (okDri k b (bxR fl d b t).1 (bxS fl d b t).1 (bxT fl d b t).1, (bxT fl d b t).2)
def endR (fl : Bool) (d : Dri) (b : Tup 3) (k t : Int) : Dri × Bool := if !d.1 then endN fl b k else if t = 0 then endN fl b k else endL fl d b k t
def bstR (bad : Bool) (x : Dri × Tup 3 × Int) : Dri × Bool := endR (flR bad x.2.1) x.1 x.2.1 x.2.2 (tR x.1.2.1 x.2.2 9991)
abbrev dStp : Dl (Dri × Tup 3 × Int) := then' cDri (then' (cT 3) (lone' cI))
def bkT : List (Ct Tryz.prog) := [rMulCt, rAddCt, rSubCt, rPartCt]
def bks : List Nat := [0, 3, 5, 6, 8, 10, 11]
def bkF (t k i : Int) (d : Nat → Value) : List Value := frm [(0, ptr 0), (3, .int .i64 k), (5, ptr 1), (6, ptr 2), (8, ptr 3), (10, .int .i64 t), (11, .int .i64 i)] d 103
def bkE (t k i : Int) (d : Nat → Value) : List Value := vset (((bkF t k i d).set 24 (.int .i64 i)).set 25 (.bool (decide (i ≤ 10000)))) (.tmp 25) false
def bkM (fl : Bool) (o : Dri) (b : Tup 3) : Xm := [[.bool fl], dDri.enc o, (dT 3).enc b, dDri.enc zeroDri]
def bkO : Ov := fun id => match id with
  | 6 => some (cutBy Tryz.prog bkT (fun _ => []) 6 bks 103 4)
  | 8 => some (cutBy Tryz.prog bkT (fun _ => []) 8 bks 103 4)
  | _ => none
def bkB (P : Program) : Code := cpart [true, true, true, false, true] (bodyOf P 19)
def bkL (P : Program) : Code := cpart [false, false] (bkB P)
def bkZ (P : Program) : Code := cpart [true, true, true, true] (bodyOf P 19)
/-- Behind a round. -/
def bnx (k i : Int) (m : Xm) (Q : VQ) (t : Int) : Prop :=
  103 = 103 ∧ true = true ∧ ∀ d, Q .normal (bkF t k (IntKind.i64.wrap (i + 1)) d) m
set_option maxRecDepth 100000 in
theorem bk_round (n : Nat) (t k i : Int) (d : Nat → Value) (fl : Bool) (o : Dri) (b : Tup 3) (Q : VQ) :
    swpO Tryz.prog bkT (fun _ => []) n bkO (bkL Tryz.prog) Q (bkF t k i d) (bkM fl o b) =
      vif (decide (i ≤ 10000)) (vif (decide (o.2.1 ≤ IntKind.i64.wrap (9223372036854775807 - i))) (vif (decide (IntKind.i64.wrap (o.2.1 + i) = k)) (bnx k i (bkM fl o b) Q i) (bnx k i (bkM fl o b) Q t)) (bnx k i (bkM fl o b) Q t))
      (Q (.exit 2) (bkE t k i d) (bkM fl o b)) := by kernel_rfl
/-- A round, as a row. -/
def BkR (k : Int) (fl : Bool) (o : Dri) (b : Tup 3) (G : VQ → List Value → Xm → Prop) : Prop := ∀ (t i : Int) (d : Nat → Value) (Q : VQ), G Q (bkF t k i d) (bkM fl o b) =
      vif (decide (i ≤ 10000)) (vif (decide (o.2.1 ≤ IntKind.i64.wrap (9223372036854775807 - i))) (vif (decide (IntKind.i64.wrap (o.2.1 + i) = k)) (bnx k i (bkM fl o b) Q i) (bnx k i (bkM fl o b) Q t)) (bnx k i (bkM fl o b) Q t))
      (Q (.exit 2) (bkE t k i d) (bkM fl o b))
theorem bk_loop {k : Int} {fl : Bool} {o : Dri} {b : Tup 3} {G : VQ → List Value → Xm → Prop} (hG : BkR k fl o b G) (Q : VQ)
    (hQ : ∀ d, Q (.exit 2) (bkE (tR o.2.1 k 9991) k 10001 d) (bkM fl o b)) : ∀ r c : Nat, c + r = 9991 → ∀ d, loopN (r + 1) G Q (bkF (tR o.2.1 k c) k (10 + (c : Int)) d) (bkM fl o b) := by
  intro r
  induction r with
  | zero =>
    intro c hc d
    have e : c = 9991 := by omega
    subst e
    rw [loopN, hG, decide_eq_false (by decide)]
    exact hQ d
  | succ r ih =>
    intro c hc d
    have hw : IntKind.i64.wrap ((10 + (c : Int)) + 1) = 10 + ((c + 1 : Nat) : Int) := by
      rw [IntKind.wrap_i64]
      omega
    rw [loopN, hG, decide_eq_true (by omega)]
    by_cases h1 : o.2.1 ≤ IntKind.i64.wrap (9223372036854775807 - (10 + (c : Int)))
    · rw [decide_eq_true h1]
      by_cases h2 : IntKind.i64.wrap (o.2.1 + (10 + (c : Int))) = k
      · rw [decide_eq_true h2]
        refine ⟨rfl, rfl, fun d' => ?_⟩
        have := ih (c + 1) (by omega) d'
        rw [tR, if_pos h1, if_pos h2] at this
        rw [hw]
        exact this
      · rw [decide_eq_false h2]
        refine ⟨rfl, rfl, fun d' => ?_⟩
        have := ih (c + 1) (by omega) d'
        rw [tR, if_pos h1, if_neg h2] at this
        rw [hw]
        exact this
    · rw [decide_eq_false h1]
      refine ⟨rfl, rfl, fun d' => ?_⟩
      have := ih (c + 1) (by omega) d'
      rw [tR, if_neg h1] at this
      rw [hw]
      exact this
/-- Behind the loop. -/
def bkQ (n : Nat) (Q : VQ) : VQ := fun e vt m => match e with
  | .normal => swpO Tryz.prog bkT (fun _ => []) n bkO (bkZ Tryz.prog) Q vt m
  | e => Q e vt m
set_option maxRecDepth 100000 in
theorem bk_start (m : Nat) (bad : Bool) (o : Dri) (b : Tup 3) (k : Int) (Q : VQ) :
    swpO Tryz.prog bkT (fun _ => []) (m + 5) bkO (bodyOf Tryz.prog 19) Q ((ptr 0 :: dStp.enc (o, b, k)) ++ List.replicate ((fnOf Tryz.prog 19).ntmps - (ptr 0 :: dStp.enc (o, b, k)).length) undef) [[.bool bad]] =
      (103 = 103 ∧ true = true ∧ ∀ d, swpO Tryz.prog bkT (fun _ => []) (m + 5) bkO (bkB Tryz.prog) (bkQ (m + 5) Q) (bkF 0 k 10 d) (bkM (flR bad b) o b)) := by kernel_rfl
set_option maxRecDepth 100000 in
theorem bk_end (m : Nat) (t k i : Int) (d : Nat → Value) (fl : Bool) (o : Dri) (b : Tup 3) (Post : Value → Option Bool → Prop) :
    swpO Tryz.prog bkT (fun _ => []) (m + 5) bkO (bkZ Tryz.prog) (retQ Tryz.prog (fnOf Tryz.prog 19) (fun v m => Post v (flagOf m))) (bkE t k i d) (bkM fl o b) = PK cDri Post (endR fl o b k t) := by
  refine Eq.trans (b := ?m) ?x (Eq.symm ?y)
  case y => unfold endR endN endL; simp only [← vif_b (K := PK cDri Post), ← vif_eq (K := PK cDri Post)]; exact rfl
  case x => kernel_rfl
set_option maxRecDepth 100000 in
theorem bk_ov (B : Nat) (w : World) : OvOk Tryz.prog bkO [B] w [] [some B] (bodyOf Tryz.prog 19) := by
  refine ovOk_by (ns := [(6, opsOf Tryz.prog 19 6, false), (8, opsOf Tryz.prog 19 8, false)]) (by kernel_rfl) ?_
  intro r hr
  rcases List.mem_cons.1 hr with rfl | hr
  · intro R hR K Q bl vt m a w h r hK
    cases hR
    exact cutBy_sound xmixA (show 1 ≤ 4 by decide) h r hK
  rcases List.mem_cons.1 hr with rfl | hr
  · intro R hR K Q bl vt m a w h r hK
    cases hR
    exact cutBy_sound xmixA (show 1 ≤ 4 by decide) h r hK
  · cases hr
set_option maxRecDepth 100000 in
theorem bstD_fx : FlowOk Tryz.prog 19 dStp bstR cDri := by
  refine flow_atO (tbl := bkT) (dirty := fun _ => []) (n := 9987 + 5) (ov := bkO) xmixA (by kernel_rfl) (by kernel_rfl) bk_ov (fun bad x => ?_)
  obtain ⟨o, b, k⟩ := x
  rw [bk_start]
  refine ⟨rfl, rfl, fun d => ?_⟩
  refine bk_loop (k := k) (fl := flR bad b) (o := o) (b := b) (fun t i d Q => bk_round _ t k i d _ o b Q) _ (fun d => ?_) 9991 0 rfl d
  exact Eq.mpr (bk_end 9987 (tR o.2.1 k 9991) k 10001 d (flR bad b) o b (fun v f => v = cDri.enc (bstR bad (o, b, k)).1 ∧ f = some (bstR bad (o, b, k)).2)) ⟨rfl, rfl⟩
end Go.Proofs.YtoadcnhcfodkgaaGreatDoor
