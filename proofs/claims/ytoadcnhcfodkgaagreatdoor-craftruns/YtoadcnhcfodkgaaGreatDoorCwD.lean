/-
  A step of a craft, by the symbolic run, for the seat YtoadcnhcfodkgaaGreatDoor.
-/
import Derived.Test.YtoadcnhcfodkgaaGreatDoorCwC
namespace Go.Proofs.YtoadcnhcfodkgaaGreatDoor
open Go.RowKit

section
variable (F : Fs) (T : Cra × Int × ByteArray → Cra × Hea)
def setDri (c : Cra) (d : Dri) : Cra := (c.1, c.2.1, c.2.2.1, c.2.2.2.1, c.2.2.2.2.1, c.2.2.2.2.2.1, d, c.2.2.2.2.2.2.2)
def setGue (c : Cra) (g : Tup 43) : Cra := (c.1, c.2.1, c.2.2.1, c.2.2.2.1, c.2.2.2.2.1, c.2.2.2.2.2.1, c.2.2.2.2.2.2.1, g, c.2.2.2.2.2.2.2.2)
def setEnd (c : Cra) (t : Int) (p : Tup 6) (g : Tup 43) : Cra := (true, t, c.2.2.1, p, c.2.2.2.2.1, c.2.2.2.2.2.1, c.2.2.2.2.2.2.1, g, c.2.2.2.2.2.2.2.2)
/-- The plan, the end of a step, and what is told. -/
def endW (c : Cra) (s : See) (x : Hea) (y : Sky) (t : Int) : Cra × ByteArray := (setEnd c t (planW F c s x y).1 (planW F c s x y).2, toldW F (setEnd c t (planW F c s x y).1 (planW F c s x y).2))
/-- Behind the frames and the change of the field. -/
def goW (c : Cra) (x : Hea) (t : Int) : Cra × ByteArray :=
  if decide (c.2.2.2.1.1 = 2) then
    (if !(decW F c t x (skyW F c t)).1 then endW F (setGue c (filW F c.2.2.2.2.2.2.2.1 (decW F c t x (skyW F c t)) (IntKind.i64.wrap (t - c.2.1)) x (skyW F c t)).1) (filW F c.2.2.2.2.2.2.2.1 (decW F c t x (skyW F c t)) (IntKind.i64.wrap (t - c.2.1)) x (skyW F c t)).2 x (skyW F c t) t
    else endW F c (decW F c t x (skyW F c t)) x (skyW F c t) t)
  else endW F c (decW F c t x (skyW F c t)) x (skyW F c t) t
def stepR (c : Cra) (t : Int) (b : ByteArray) : Cra × ByteArray := goW F (setDri (T (c, t, b)).1 (driftW F (T (c, t, b)).1.2.2.2.2.2.2.1 (T (c, t, b)).2)) (T (c, t, b)).2 t
def stepW (c : Cra) (t : Int) (b : ByteArray) : Cra × ByteArray :=
  if !F.right t then (c, noBytes) else if c.1 then (if decide (t ≤ c.2.1) then (c, noBytes) else stepR F T c t b) else stepR F T c t b
def goV (c : Cra) (x : Hea) (t : Int) (Post : Value → Prop) : Prop :=
  vif (decide (c.2.2.2.1.1 = 2))
    (vif (!(decW F c t x (skyW F c t)).1) (PJ (two' cCra cS) Post (endW F (setGue c (filW F c.2.2.2.2.2.2.2.1 (decW F c t x (skyW F c t)) (IntKind.i64.wrap (t - c.2.1)) x (skyW F c t)).1) (filW F c.2.2.2.2.2.2.2.1 (decW F c t x (skyW F c t)) (IntKind.i64.wrap (t - c.2.1)) x (skyW F c t)).2 x (skyW F c t) t))
    (PJ (two' cCra cS) Post (endW F c (decW F c t x (skyW F c t)) x (skyW F c t) t)))
  (PJ (two' cCra cS) Post (endW F c (decW F c t x (skyW F c t)) x (skyW F c t) t))
theorem goV_is (c : Cra) (x : Hea) (t : Int) (Post : Value → Prop) : goV F c x t Post = PJ (two' cCra cS) Post (goW F c x t) := by
  unfold goV goW
  rw [vif_b (K := PJ (two' cCra cS) Post), vif_b (K := PJ (two' cCra cS) Post)]
set_option maxRecDepth 100000 in
/-- A step, of arguments of which the frames are known to be taken. -/
theorem step_at (h : FsOk F) (x : Cra × Int × ByteArray) (y : Cra × Hea) (hT : ∀ w, GW w → Calls Tryz.prog 10 ((then' cCra (then' cI (lone' cS))).enc x).toArray w fun e w' => e = .returned ((two' cCra cHea).enc y) ∧ Below w.heap.size w w') (w : World) (hw : GW w) :
    Calls Tryz.prog 7 ((then' cCra (then' cI (lone' cS))).enc x).toArray w fun e w' => e = .returned ((two' cCra cS).enc (stepW F (fun _ => y) x.1 x.2.1 x.2.2)) ∧ Below w.heap.size w w' := by
  refine pure_at (d := then' cCra (then' cI (lone' cS))) (k := two' cCra cS) (x := x) (y := stepW F (fun _ => y) x.1 x.2.1 x.2.2) (tbl := [ctright F h, ctAt Tryz.prog 10 (then' cCra (then' cI (lone' cS))) (two' cCra cHea) x y (go_of Tryz.func10 (by kernel_rfl) (by kernel_rfl)) hT, ctdrifted F h, ctskyAt F h, ctdecided F h, ctfiltered F h, ctplanned F h, cttold F h]) (dirty := fun _ => []) (n := 4) xmixA Tryz.func7 rfl (fun Post hP => ?_) w hw
  refine Eq.mpr (β := vif (!F.right x.2.1) (PJ (two' cCra cS) Post (x.1, noBytes)) (vif x.1.1 (vif (decide (x.2.1 ≤ x.1.2.1)) (PJ (two' cCra cS) Post (x.1, noBytes)) ((then' cCra (then' cI (lone' cS))).enc x = (then' cCra (then' cI (lone' cS))).enc x ∧ goV F (setDri y.1 (driftW F y.1.2.2.2.2.2.2.1 y.2)) y.2 x.2.1 Post)) ((then' cCra (then' cI (lone' cS))).enc x = (then' cCra (then' cI (lone' cS))).enc x ∧ goV F (setDri y.1 (driftW F y.1.2.2.2.2.2.2.1 y.2)) y.2 x.2.1 Post))) (by kernel_rfl) ?_
  simp only [true_and, goV_is]
  rw [vif_b (K := PJ (two' cCra cS) Post), vif_b (K := PJ (two' cCra cS) Post), vif_b (K := PJ (two' cCra cS) Post)]
  exact hP
end
end Go.Proofs.YtoadcnhcfodkgaaGreatDoor
