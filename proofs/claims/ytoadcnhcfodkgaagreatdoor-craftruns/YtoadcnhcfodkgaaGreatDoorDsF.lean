/-
  A step of the document's craft is a function of what it is handed, for the seat YtoadcnhcfodkgaaGreatDoor.
-/
import Derived.Test.YtoadcnhcfodkgaaGreatDoorDsE
namespace Go.Proofs.YtoadcnhcfodkgaaGreatDoor
open Go.RowKit

theorem vif_t {A B : Prop} : vif true A B = A := rfl
theorem vif_f {A B : Prop} : vif false A B = B := rfl
/-- A round, as a row. -/
def DsR (t was : Int) (on kn : Bool) (c : Cra) (x : HeD) (p : Tup 3) (s b : Tup 6) (G : VQ → List Value → Xm → Prop) : Prop := ∀ (ms i : Int) (d : Nat → Value) (e : SeD) (Q : VQ), G Q (f21 t was on kn ms i d) (m21 c x p s b e) =
      vif (decide (i ≤ 10000)) (vif on (vif (decide (was ≤ IntKind.i64.wrap (t - i))) (vif (decide (IntKind.i64.wrap (was + i) = t)) (dnx t was on kn i c x p s b Q (setGap e false) i) (dnx t was on kn i c x p s b Q e ms)) (dnx t was on kn i c x p s b Q e ms)) (dnx t was on kn i c x p s b Q e ms))
      (Q (.exit 0) (f21E t was on kn ms i d) (m21 c x p s b e))
theorem ds_loop {t was : Int} {on kn : Bool} {c : Cra} {x : HeD} {p : Tup 3} {s b : Tup 6} {G : VQ → List Value → Xm → Prop} (hG : DsR t was on kn c x p s b G) (e0 : SeD) (Q : VQ)
    (hQ : ∀ d, Q (.exit 0) (f21E t was on kn (lpD was t on e0 9991).2 10001 d) (m21 c x p s b (lpD was t on e0 9991).1)) : ∀ r k : Nat, k + r = 9991 → ∀ d, loopN (r + 1) G Q (f21 t was on kn (lpD was t on e0 k).2 (10 + (k : Int)) d) (m21 c x p s b (lpD was t on e0 k).1) := by
  intro r
  induction r with
  | zero =>
    intro k hk d
    have e : k = 9991 := by omega
    subst e
    rw [loopN, hG, decide_eq_false (by decide)]
    exact hQ d
  | succ r ih =>
    intro k hk d
    have hw : IntKind.i64.wrap ((10 + (k : Int)) + 1) = 10 + ((k + 1 : Nat) : Int) := by
      rw [IntKind.wrap_i64]
      omega
    have go : ∀ y : SeD × Int, lpD was t on e0 (k + 1) = y → dnx t was on kn (10 + (k : Int)) c x p s b (fun e vt m => match e with
        | .normal => loopN (r + 1) G Q vt m
        | e => Q e vt m) y.1 y.2 := by
      rintro y rfl
      refine ⟨rfl, rfl, rfl, fun d' => ?_⟩
      rw [hw]
      exact ih (k + 1) (by omega) d'
    rw [loopN, hG, decide_eq_true (by omega)]
    cases on
    · exact go _ (by rw [lpD]; rfl)
    · by_cases h1 : was ≤ IntKind.i64.wrap (t - (10 + (k : Int)))
      · rw [decide_eq_true h1]
        by_cases h2 : IntKind.i64.wrap (was + (10 + (k : Int))) = t
        · rw [decide_eq_true h2]
          exact go (setGap (lpD was t true e0 k).1 false, 10 + (k : Int)) (by rw [lpD, if_pos rfl, if_pos h1, if_pos h2])
        · rw [decide_eq_false h2]
          exact go _ (by rw [lpD, if_pos rfl, if_pos h1, if_neg h2])
      · rw [decide_eq_false h1]
        exact go _ (by rw [lpD, if_pos rfl, if_neg h1])
section
variable (T : List (Ct Tryz.prog))
set_option maxRecDepth 100000 in
theorem ds_ov (w : World) : OvOk Tryz.prog (dsO T) [] w [] [] (bodyOf Tryz.prog 8) := by
  refine ovOk_by (ns := [5, 8, 17, 21, 23, 30, 35, 37, 50, 51, 54, 58, 60].map fun i => (i, opsOf Tryz.prog 8 i, false)) (by kernel_rfl) ?_
  intro r hr
  obtain ⟨i, hi, rfl⟩ := List.mem_map.1 hr
  intro R hR K Q bl vt m a w h r hK
  have e : ∃ ks, R = pickBy Tryz.prog T (fun _ => []) i ks 353 := by
    unfold dsO at hR
    dsimp only at hR
    split at hR <;> first | (cases hR; exact ⟨_, rfl⟩) | cases hR
  obtain ⟨ks, rfl⟩ := e
  exact pickBy_sound xmixA h r hK
end
section
variable (F : Fs) (h : DsOk F) {x0 : Cra × Int × ByteArray} {y0 : Cra × HeD} {hY : ∀ w, GW w → Calls Tryz.prog 18 ((then' cCra (then' cI (lone' cS))).enc x0).toArray w fun e w' => e = .returned ((two' cCra cHeD).enc y0) ∧ Below w.heap.size w w'} (Post : Value → Prop)
set_option maxRecDepth 100000 in
theorem dn11_is {T : List (Ct Tryz.prog)} (hT : T = dsU F h x0 y0 hY) (t was : Int) (on kn : Bool) (d : Nat → Value) (c : Cra) (x : HeD) (p : Tup 3) (s b : Tup 6) (hp : pQ Post (e17 F c t was on kn x p s b)) :
    swpO Tryz.prog T (fun _ => []) 9992 (dsO T) (dsN Tryz.prog 11) (rQ Post) (f17 t was on kn d) (m17 c x p s b) := by
  rw [ds_3]
  refine ⟨rfl, rfl, rfl, fun d => ?_⟩
  refine ds_loop (t := t) (was := was) (on := on) (kn := kn) (c := c) (x := x) (p := p) (s := s) (b := b) (fun ms i d e Q => ds_round T 9992 t was on kn ms i d c x p s b e Q) (see0 x) _ (fun d => ?_) 9991 0 rfl d
  exact Eq.mpr (n15_is F h T 9992 Post hT t was on kn _ 10001 d c x p s b _) hp
set_option maxRecDepth 100000 in
theorem dn7_is {T : List (Ct Tryz.prog)} (hT : T = dsU F h x0 y0 hY) (t was : Int) (on : Bool) (d : Nat → Value) (c : Cra) (x : HeD) (hp : pQ Post (e8 F c t was on x)) :
    swpO Tryz.prog T (fun _ => []) 9992 (dsO T) (dsN Tryz.prog 7) (rQ Post) (f8 t was on d) (m8 c x (0, 0, 0, ())) := by
  rw [ds_2 F h T hT]
  unfold e8 at hp
  cases e : c.2.2.2.2.1
  · rw [e] at hp
    exact ⟨rfl, rfl, rfl, fun d => dn11_is F h Post hT t was on false d c x _ _ _ hp⟩
  · rw [e] at hp
    exact ⟨rfl, rfl, rfl, fun d => dn11_is F h Post hT t was on _ d c x _ _ _ hp⟩
set_option maxRecDepth 100000 in
theorem dn5_is {T : List (Ct Tryz.prog)} (hT : T = dsU F h x0 y0 hY) (t was : Int) (on : Bool) (d : Nat → Value) (c : Cra) (x : HeD) (hp : pQ Post (e5 F c t was on x)) :
    swpO Tryz.prog T (fun _ => []) 9992 (dsO T) (dsN Tryz.prog 5) (rQ Post) (f5 t was on d) (m5 c x) := by
  rw [ds_1 F h T hT]
  unfold e5 at hp
  cases e : x.2.2.2.1
  · rw [e] at hp
    exact ⟨rfl, rfl, rfl, fun d => dn7_is F h Post hT t was on d c x hp⟩
  · rw [e] at hp
    exact ⟨rfl, rfl, rfl, fun d => dn7_is F h Post hT t was on d _ x hp⟩
set_option maxRecDepth 100000 in
theorem dn0_is {T : List (Ct Tryz.prog)} (hT : T = dsU F h x0 y0 hY) (hP : pQ Post (stepD F x0.1 x0.2.1 y0)) :
    swpO Tryz.prog T (fun _ => []) 9992 (dsO T) (bodyOf Tryz.prog 8) (rQ Post) ((then' cCra (then' cI (lone' cS))).enc x0 ++ List.replicate ((fnOf Tryz.prog 8).ntmps - ((then' cCra (then' cI (lone' cS))).enc x0).length) undef) [] := by
  rw [ds_0 F h T 9992 hT Post]
  unfold stepD at hP
  have c5_is : pQ Post (e5 F y0.1 x0.2.1 x0.1.2.1 x0.1.1 y0.2) → c5 T 9992 (rQ Post) x0 y0 := fun hq => ⟨rfl, rfl, rfl, rfl, fun d => dn5_is F h Post hT _ _ _ d _ _ hq⟩
  cases e1 : F.right x0.2.1
  · rw [Bool.not_false, vif_t]
    rw [e1, Bool.not_false, if_pos rfl] at hP
    exact hP
  · rw [Bool.not_true, vif_f]
    rw [e1, Bool.not_true, if_neg (by decide)] at hP
    cases e2 : x0.1.1
    · rw [vif_f]
      rw [e2, if_neg (by decide)] at hP
      rw [e2] at c5_is
      exact c5_is hP
    · rw [vif_t]
      rw [e2, if_pos rfl] at hP
      rw [e2] at c5_is
      by_cases e3 : x0.2.1 ≤ x0.1.2.1
      · rw [if_pos e3] at hP
        rw [decide_eq_true e3, vif_t]
        exact hP
      · rw [if_neg e3] at hP
        rw [decide_eq_false e3, vif_f]
        exact c5_is hP
set_option maxRecDepth 100000 in
theorem stepD_at (h : DsOk F) (x : Cra × Int × ByteArray) (hs : x.1.2.2.1.size + x.2.2.size ≤ 5000) (w : World) (hw : GW w) :
    Calls Tryz.prog 8 ((then' cCra (then' cI (lone' cS))).enc x).toArray w fun e w' => e = .returned ((two' cCra cS).enc (stepD F x.1 x.2.1 (takeD F x.1 x.2.1 x.2.2))) ∧ Below w.heap.size w w' :=
  pure_atO (tbl := dsU F h x _ (fun w hw => takesD_at F h x hs w hw)) (dirty := fun _ => []) (n := 9992) (ov := dsO (dsU F h x _ (fun w hw => takesD_at F h x hs w hw))) (k := two' cCra cS) (y := stepD F x.1 x.2.1 (takeD F x.1 x.2.1 x.2.2)) xmixA (by kernel_rfl) (by kernel_rfl) (ds_ov _)
    (dn0_is F h (fun v => v = (two' cCra cS).enc (stepD F x.1 x.2.1 (takeD F x.1 x.2.1 x.2.2))) rfl rfl) w hw
end
end Go.Proofs.YtoadcnhcfodkgaaGreatDoor
