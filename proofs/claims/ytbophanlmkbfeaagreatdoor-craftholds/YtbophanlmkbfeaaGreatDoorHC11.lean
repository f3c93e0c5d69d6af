/-
A part.
A part.
A part.
A part.
A part.
A part.
A part.
A part.
A part.
A part.
A part.
A part.
A part.
A part.
A part.
A part.
A part.
A part.
A part.
A part.
A part.
A part.
A part.
A part.
-/
import Derived.Deep.MidRow
import Derived.Handy
import Derived.LoopN
import Derived.Deep.RegionHeld3
import Derived.Test.YtbophanlmkbfeaaGreatDoorHC10
import Derived.Test.YtbophanlmkbfeaaGreatDoorHC02
import Derived.Test.YtbophanlmkbfeaaGreatDoorHC01
namespace Go.Proofs.YtbophanlmkbfeaaGreatDoor
open Go.RowKit
section
variable (F : Fs) (T : Cra × Int × ByteArray → Cra × Hea)
def setDri (c : Cra) (d : Dri) : Cra := (c.1, c.2.1, c.2.2.1, c.2.2.2.1, c.2.2.2.2.1, c.2.2.2.2.2.1, d, c.2.2.2.2.2.2.2)
def setGue (c : Cra) (g : Tup 43) : Cra := (c.1, c.2.1, c.2.2.1, c.2.2.2.1, c.2.2.2.2.1, c.2.2.2.2.2.1, c.2.2.2.2.2.2.1, g, c.2.2.2.2.2.2.2.2)
def setEnd (c : Cra) (t : Int) (p : Tup 6) (g : Tup 43) : Cra := (true, t, c.2.2.1, p, c.2.2.2.2.1, c.2.2.2.2.2.1, c.2.2.2.2.2.2.1, g, c.2.2.2.2.2.2.2.2)
def endW (c : Cra) (s : See) (x : Hea) (y : Sky) (t : Int) : Cra × ByteArray := (setEnd c t (planW F c s x y).1 (planW F c s x y).2, toldW F (setEnd c t (planW F c s x y).1 (planW F c s x y).2))
def goW (c : Cra) (x : Hea) (t : Int) : Cra × ByteArray :=
 if decide (c.2.2.2.1.1 = 2) then
  (if !(decW F c t x (skyW F c t)).1 then endW F (setGue c (filW F c.2.2.2.2.2.2.2.1 (decW F c t x (skyW F c t)) (IntKind.i64.wrap (t - c.2.1)) x (skyW F c t)).1) (filW F c.2.2.2.2.2.2.2.1 (decW F c t x (skyW F c t)) (IntKind.i64.wrap (t - c.2.1)) x (skyW F c t)).2 x (skyW F c t) t
  else endW F c (decW F c t x (skyW F c t)) x (skyW F c t) t)
 else endW F c (decW F c t x (skyW F c t)) x (skyW F c t) t
def stepR (c : Cra) (t : Int) (b : ByteArray) : Cra × ByteArray := goW F (setDri (T (c, t, b)).1 (driftW F (T (c, t, b)).1.2.2.2.2.2.2.1 (T (c, t, b)).2)) (T (c, t, b)).2 t
def stepW (c : Cra) (t : Int) (b : ByteArray) : Cra × ByteArray :=
 if !F.right t then (c, noBytes) else if c.1 then (if decide (t ≤ c.2.1) then (c, noBytes) else stepR F T c t b) else stepR F T c t b
def goV (c : Cra) (x : Hea) (t : Int) (Post : Value → Prop) : Prop :=
 vif (decide (c.2.2.2.1.1 = 2))
  (vif (!(decW F c t x (skyW F c t)).1) (PJ (two' cCra cS) Post (endW F (setGue c (filW F c.2.2.2.2.2.2.2.1 (decW F c t x (skyW F c t)) (IntKind.i64.wrap (t - c.2.1)) x (skyW F c t)).1) (filW F c.2.2.2.2.2.2.2.1 (decW F c t x (skyW F c t)) (IntKind.i64.wrap (t - c.2.1)) x (skyW F c t)).2 x (skyW F c t) t))
  (PJ (two' cCra cS) Post (endW F c (decW F c t x (skyW F c t)) x (skyW F c t) t)))
 (PJ (two' cCra cS) Post (endW F c (decW F c t x (skyW F c t)) x (skyW F c t) t))
theorem goV_is (c : Cra) (x : Hea) (t : Int) (Post : Value → Prop) : goV F c x t Post = PJ (two' cCra cS) Post (goW F c x t) := by
 unfold goV goW
 rw [vif_b (K := PJ (two' cCra cS) Post), vif_b (K := PJ (two' cCra cS) Post)]
set_option maxRecDepth 100000 in
theorem step_at (h : FsOk F) (x : Cra × Int × ByteArray) (y : Cra × Hea) (hT : ∀ w, GW w → Calls Tryz.prog 23 ((then' cCra (then' cI (lone' cS))).enc x).toArray w fun e w' => e = .returned ((two' cCra cHea).enc y) ∧ Below w.heap.size w w') (w : World) (hw : GW w) :
    Calls Tryz.prog 9 ((then' cCra (then' cI (lone' cS))).enc x).toArray w fun e w' => e = .returned ((two' cCra cS).enc (stepW F (fun _ => y) x.1 x.2.1 x.2.2)) ∧ Below w.heap.size w w' := by
 refine pure_at (d := then' cCra (then' cI (lone' cS))) (k := two' cCra cS) (x := x) (y := stepW F (fun _ => y) x.1 x.2.1 x.2.2) (tbl := [ctright F h, ctAt Tryz.prog 23 (then' cCra (then' cI (lone' cS))) (two' cCra cHea) x y (go_of Tryz.func23 (by kernel_rfl) (by kernel_rfl)) hT, ctdrifted F h, ctskyAt F h, ctdecided F h, ctfiltered F h, ctplanned F h, cttold F h]) (dirty := fun _ => []) (n := 4) xmixA Tryz.func9 rfl (fun Post hP => ?_) w hw
 refine Eq.mpr (β := vif (!F.right x.2.1) (PJ (two' cCra cS) Post (x.1, noBytes)) (vif x.1.1 (vif (decide (x.2.1 ≤ x.1.2.1)) (PJ (two' cCra cS) Post (x.1, noBytes)) ((then' cCra (then' cI (lone' cS))).enc x = (then' cCra (then' cI (lone' cS))).enc x ∧ goV F (setDri y.1 (driftW F y.1.2.2.2.2.2.2.1 y.2)) y.2 x.2.1 Post)) ((then' cCra (then' cI (lone' cS))).enc x = (then' cCra (then' cI (lone' cS))).enc x ∧ goV F (setDri y.1 (driftW F y.1.2.2.2.2.2.2.1 y.2)) y.2 x.2.1 Post))) (by kernel_rfl) ?_
 simp only [true_and, goV_is]
 rw [vif_b (K := PJ (two' cCra cS) Post), vif_b (K := PJ (two' cCra cS) Post), vif_b (K := PJ (two' cCra cS) Post)]
 exact hP
end
end Go.Proofs.YtbophanlmkbfeaaGreatDoor
namespace Go.Proofs.YtbophanlmkbfeaaGreatDoor
open Go.RowKit
theorem vsound_op : ∃ g, FOp Tryz.prog nq 153 [rI 3] (rI 3) unkB g := flow_ax (tbl := []) (dirty := fun _ => []) (n := 8) nq_one xmixA Tryz.func153 rfl (by decide +kernel)
def tvsound : ACt Tryz.prog nq := rowF false (go_of Tryz.func153 (by kernel_rfl) (by kernel_rfl)) vsound_op (by decide +kernel)
theorem vAdd_op : ∃ g, FOp Tryz.prog nq 88 [rI 3, rI 3] (rI 3) unkB g := flow_ax (tbl := [tAdd, tvsound]) (dirty := fun _ => []) (n := 8) nq_one xmixA Tryz.func88 rfl (by decide +kernel)
def tvAdd : ACt Tryz.prog nq := rowF false (go_of Tryz.func88 (by kernel_rfl) (by kernel_rfl)) vAdd_op (by decide +kernel)
theorem vSub_op : ∃ g, FOp Tryz.prog nq 107 [rI 3, rI 3] (rI 3) unkB g := flow_ax (tbl := [tSub, tvsound]) (dirty := fun _ => []) (n := 8) nq_one xmixA Tryz.func107 rfl (by decide +kernel)
def tvSub : ACt Tryz.prog nq := rowF false (go_of Tryz.func107 (by kernel_rfl) (by kernel_rfl)) vSub_op (by decide +kernel)
theorem vScale_op : ∃ g, FOp Tryz.prog nq 108 [rI 3, uI] (rI 3) unkB g := flow_ax (tbl := [tMul, tvsound]) (dirty := fun _ => []) (n := 8) nq_one xmixA Tryz.func108 rfl (by decide +kernel)
def tvScale : ACt Tryz.prog nq := rowF false (go_of Tryz.func108 (by kernel_rfl) (by kernel_rfl)) vScale_op (by decide +kernel)
theorem vDot_op : ∃ g, FOp Tryz.prog nq 106 [rI 3, rI 3] (uI) unkB g := flow_ax (tbl := [tMul, tAdd]) (dirty := fun _ => []) (n := 8) nq_one xmixA Tryz.func106 rfl (by decide +kernel)
def tvDot : ACt Tryz.prog nq := rowF false (go_of Tryz.func106 (by kernel_rfl) (by kernel_rfl)) vDot_op (by decide +kernel)
theorem vCross_op : ∃ g, FOp Tryz.prog nq 215 [rI 3, rI 3] (rI 3) unkB g := flow_ax (tbl := [tMul, tSub, tvsound]) (dirty := fun _ => []) (n := 8) nq_one xmixA Tryz.func215 rfl (by decide +kernel)
def tvCross : ACt Tryz.prog nq := rowF false (go_of Tryz.func215 (by kernel_rfl) (by kernel_rfl)) vCross_op (by decide +kernel)
theorem vNorm_op : ∃ g, FOp Tryz.prog nq 53 [rI 3] (uI) unkB g := flow_ax (tbl := [tNorm]) (dirty := fun _ => []) (n := 8) nq_one xmixA Tryz.func53 rfl (by decide +kernel)
def tvNorm : ACt Tryz.prog nq := rowF false (go_of Tryz.func53 (by kernel_rfl) (by kernel_rfl)) vNorm_op (by decide +kernel)
theorem vUnit_op : ∃ g, FOp Tryz.prog nq 188 [rI 3] (rI 3) unkB g := flow_ax (tbl := [tvNorm, tFail, tDiv]) (dirty := fun _ => []) (n := 8) nq_one xmixA Tryz.func188 rfl (by decide +kernel)
def tvUnit : ACt Tryz.prog nq := rowF false (go_of Tryz.func188 (by kernel_rfl) (by kernel_rfl)) vUnit_op (by decide +kernel)
theorem vParts_op : ∃ g, FOp Tryz.prog nq 175 [rI 3, rI 3] (.tuple ⟨[uI, uI]⟩) unkB g := flow_ax (tbl := [tvUnit, tvNorm, tvCross, tvDot]) (dirty := fun _ => []) (n := 8) nq_one xmixA Tryz.func175 rfl (by decide +kernel)
def tvParts : ACt Tryz.prog nq := rowF false (go_of Tryz.func175 (by kernel_rfl) (by kernel_rfl)) vParts_op (by decide +kernel)
end Go.Proofs.YtbophanlmkbfeaaGreatDoor
namespace Go.Proofs.YtbophanlmkbfeaaGreatDoor
open Go.RowKit
theorem qminus_op : ∃ g, POp Tryz.prog 218 [uI] (uI) g := pure_ax (nq := nq) (tbl := []) (dirty := fun _ => []) (n := 8) xmixA Tryz.func218 rfl (by decide +kernel)
def tqminus : ACt Tryz.prog nq := rowP (go_of Tryz.func218 (by kernel_rfl) (by kernel_rfl)) qminus_op (by decide +kernel)
theorem qparted_op : ∃ g, POp Tryz.prog 180 [rI 4] (.tuple ⟨[rI 3, uI]⟩) g := pure_ax (nq := nq) (tbl := []) (dirty := fun _ => []) (n := 8) xmixA Tryz.func180 rfl (by decide +kernel)
def tqparted : ACt Tryz.prog nq := rowP (go_of Tryz.func180 (by kernel_rfl) (by kernel_rfl)) qparted_op (by decide +kernel)
theorem qjoined_op : ∃ g, POp Tryz.prog 217 [rI 3, uI] (rI 4) g := pure_ax (nq := nq) (tbl := []) (dirty := fun _ => []) (n := 8) xmixA Tryz.func217 rfl (by decide +kernel)
def tqjoined : ACt Tryz.prog nq := rowP (go_of Tryz.func217 (by kernel_rfl) (by kernel_rfl)) qjoined_op (by decide +kernel)
theorem qBack_op : ∃ g, POp Tryz.prog 183 [rI 4] (rI 4) g := pure_ax (nq := nq) (tbl := [tqminus]) (dirty := fun _ => []) (n := 8) xmixA Tryz.func183 rfl (by decide +kernel)
def tqBack : ACt Tryz.prog nq := rowP (go_of Tryz.func183 (by kernel_rfl) (by kernel_rfl)) qBack_op (by decide +kernel)
theorem qupright_op : ∃ g, POp Tryz.prog 181 [rI 4] (rI 4) g := pure_ax (nq := nq) (tbl := [tqminus]) (dirty := fun _ => []) (n := 8) xmixA Tryz.func181 rfl (by decide +kernel)
def tqupright : ACt Tryz.prog nq := rowP (go_of Tryz.func181 (by kernel_rfl) (by kernel_rfl)) qupright_op (by decide +kernel)
theorem qsoundq_op : ∃ g, FOp Tryz.prog nq 216 [rI 4] (rI 4) unkB g := flow_ax (tbl := []) (dirty := fun _ => []) (n := 8) nq_one xmixA Tryz.func216 rfl (by decide +kernel)
def tqsoundq : ACt Tryz.prog nq := rowF false (go_of Tryz.func216 (by kernel_rfl) (by kernel_rfl)) qsoundq_op (by decide +kernel)
theorem qsoundv_op : ∃ g, FOp Tryz.prog nq 219 [rI 3] (rI 3) unkB g := flow_ax (tbl := []) (dirty := fun _ => []) (n := 8) nq_one xmixA Tryz.func219 rfl (by decide +kernel)
def tqsoundv : ACt Tryz.prog nq := rowF false (go_of Tryz.func219 (by kernel_rfl) (by kernel_rfl)) qsoundv_op (by decide +kernel)
theorem qMul_op : ∃ g, FOp Tryz.prog nq 178 [rI 4, rI 4] (rI 4) unkB g := flow_ax (tbl := [tqparted, tvScale, tvAdd, tvCross, tvDot, tSub, tMul, tqjoined, tqsoundq]) (dirty := fun _ => []) (n := 8) nq_one xmixA Tryz.func178 rfl (by decide +kernel)
def tqMul : ACt Tryz.prog nq := rowF false (go_of Tryz.func178 (by kernel_rfl) (by kernel_rfl)) qMul_op (by decide +kernel)
theorem qUnit_op : ∃ g, FOp Tryz.prog nq 111 [rI 4] (rI 4) unkB g := flow_ax (tbl := [tqparted, tvNorm, tNorm, tFail, tDiv, tqupright]) (dirty := fun _ => []) (n := 8) nq_one xmixA Tryz.func111 rfl (by decide +kernel)
def tqUnit : ACt Tryz.prog nq := rowF false (go_of Tryz.func111 (by kernel_rfl) (by kernel_rfl)) qUnit_op (by decide +kernel)
theorem qFromRod_op : ∃ g, FOp Tryz.prog nq 179 [rI 3] (rI 4) unkB g := flow_ax (tbl := [tvDot, tAdd, tMul, tSub, tDiv, tqUnit]) (dirty := fun _ => []) (n := 8) nq_one xmixA Tryz.func179 rfl (by decide +kernel)
def tqFromRod : ACt Tryz.prog nq := rowF false (go_of Tryz.func179 (by kernel_rfl) (by kernel_rfl)) qFromRod_op (by decide +kernel)
theorem qTurn_op : ∃ g, FOp Tryz.prog nq 187 [rI 4, rI 3] (rI 3) unkB g := flow_ax (tbl := [tqparted, tvScale, tvCross, tvAdd, tvSub]) (dirty := fun _ => []) (n := 8) nq_one xmixA Tryz.func187 rfl (by decide +kernel)
def tqTurn : ACt Tryz.prog nq := rowF false (go_of Tryz.func187 (by kernel_rfl) (by kernel_rfl)) qTurn_op (by decide +kernel)
theorem qToRod_op : ∃ g, FOp Tryz.prog nq 182 [rI 4] (rI 3) unkB g := flow_ax (tbl := [tqupright, tAdd, tMul, tDiv, tqsoundv]) (dirty := fun _ => []) (n := 8) nq_one xmixA Tryz.func182 rfl (by decide +kernel)
def tqToRod : ACt Tryz.prog nq := rowF false (go_of Tryz.func182 (by kernel_rfl) (by kernel_rfl)) qToRod_op (by decide +kernel)
end Go.Proofs.YtbophanlmkbfeaaGreatDoor
namespace Go.Proofs.YtbophanlmkbfeaaGreatDoor
open Go.RowKit
theorem qbyW_op : ∃ g, FOp Tryz.prog nq 221 [rI 9, uI] (rI 4) unkB g := flow_ax (tbl := [tSub, tAdd]) (dirty := fun _ => []) (n := 8) nq_one xmixA Tryz.func221 rfl (by decide +kernel)
def tqbyW : ACt Tryz.prog nq := rowF false (go_of Tryz.func221 (by kernel_rfl) (by kernel_rfl)) qbyW_op (by decide +kernel)
theorem qbyX_op : ∃ g, FOp Tryz.prog nq 222 [rI 9] (rI 4) unkB g := flow_ax (tbl := [tSub, tAdd]) (dirty := fun _ => []) (n := 8) nq_one xmixA Tryz.func222 rfl (by decide +kernel)
def tqbyX : ACt Tryz.prog nq := rowF false (go_of Tryz.func222 (by kernel_rfl) (by kernel_rfl)) qbyX_op (by decide +kernel)
theorem qbyY_op : ∃ g, FOp Tryz.prog nq 223 [rI 9] (rI 4) unkB g := flow_ax (tbl := [tSub, tAdd]) (dirty := fun _ => []) (n := 8) nq_one xmixA Tryz.func223 rfl (by decide +kernel)
def tqbyY : ACt Tryz.prog nq := rowF false (go_of Tryz.func223 (by kernel_rfl) (by kernel_rfl)) qbyY_op (by decide +kernel)
theorem qbyZ_op : ∃ g, FOp Tryz.prog nq 224 [rI 9] (rI 4) unkB g := flow_ax (tbl := [tSub, tAdd]) (dirty := fun _ => []) (n := 8) nq_one xmixA Tryz.func224 rfl (by decide +kernel)
def tqbyZ : ACt Tryz.prog nq := rowF false (go_of Tryz.func224 (by kernel_rfl) (by kernel_rfl)) qbyZ_op (by decide +kernel)
theorem dApart_op : ∃ g, FOp Tryz.prog nq 105 [rI 3, rI 3] (unkB) unkB g := flow_ax (tbl := [tvParts]) (dirty := fun _ => []) (n := 8) nq_one xmixA Tryz.func105 rfl (by decide +kernel)
def tdApart : ACt Tryz.prog nq := rowF false (go_of Tryz.func105 (by kernel_rfl) (by kernel_rfl)) dApart_op (by decide +kernel)
theorem daxes_op : ∃ g, FOp Tryz.prog nq 201 [rI 6] (rI 9) unkB g := flow_ax (tbl := [tvUnit, tvCross]) (dirty := fun _ => []) (n := 8) nq_one xmixA Tryz.func201 rfl (by decide +kernel)
def tdaxes : ACt Tryz.prog nq := rowF false (go_of Tryz.func201 (by kernel_rfl) (by kernel_rfl)) daxes_op (by decide +kernel)
theorem dbetween_op : ∃ g, FOp Tryz.prog nq 200 [rI 9, rI 9] (rI 9) unkB g := flow_ax (tbl := [tMul, tAdd]) (dirty := fun _ => []) (n := 8) nq_one xmixA Tryz.func200 rfl (by decide +kernel)
def tdbetween : ACt Tryz.prog nq := rowF false (go_of Tryz.func200 (by kernel_rfl) (by kernel_rfl)) dbetween_op (by decide +kernel)
end Go.Proofs.YtbophanlmkbfeaaGreatDoor
namespace Go.Proofs.YtbophanlmkbfeaaGreatDoor
open Go.RowKit
theorem aless_op : ∃ g, FOp Tryz.prog nq 190 [uI, rI 6, rI 6, upto .i64 6] (uI) unkB g := flow_ax (tbl := [tMul, tSub]) (dirty := fun _ => []) (n := 8) nq_one xmixA Tryz.func190 rfl (by decide +kernel)
def taless : ACt Tryz.prog nq := rowF false (go_of Tryz.func190 (by kernel_rfl) (by kernel_rfl)) aless_op (by decide +kernel)
theorem asum_op : ∃ g, FOp Tryz.prog nq 193 [rI 6, rI 6, (.int .i64 6)] (uI) unkB g := flow_ax (tbl := [tMul, tAdd]) (dirty := fun _ => []) (n := 8) nq_one xmixA Tryz.func193 rfl (by decide +kernel)
def tasum : ACt Tryz.prog nq := rowF false (go_of Tryz.func193 (by kernel_rfl) (by kernel_rfl)) asum_op (by decide +kernel)
theorem afits_op : ∃ g, FOp Tryz.prog nq 189 [(.int .i64 6)] ((.bool true)) unkB g := flow_ax (tbl := [tFail]) (dirty := fun _ => []) (n := 8) nq_one xmixA Tryz.func189 rfl (by decide +kernel)
def tafits : ACt Tryz.prog nq := rowF false (go_of Tryz.func189 (by kernel_rfl) (by kernel_rfl)) afits_op (by decide +kernel)
theorem apivot_op : ∃ g, FOp Tryz.prog nq 191 [uI] (uI) unkB g := flow_ax (tbl := [tFail, tSqrt]) (dirty := fun _ => []) (n := 8) nq_one xmixA Tryz.func191 rfl (by decide +kernel)
def tapivot : ACt Tryz.prog nq := rowF false (go_of Tryz.func191 (by kernel_rfl) (by kernel_rfl)) apivot_op (by decide +kernel)
theorem asoundM_op : ∃ g, FOp Tryz.prog nq 192 [rI 36] (rI 36) unkB g := flow_ax (tbl := []) (dirty := fun _ => []) (n := 8) nq_one xmixA Tryz.func192 rfl (by decide +kernel)
def tasoundM : ACt Tryz.prog nq := rowF false (go_of Tryz.func192 (by kernel_rfl) (by kernel_rfl)) asoundM_op (by decide +kernel)
theorem asoundR_op : ∃ g, FOp Tryz.prog nq 194 [rI 6] (rI 6) unkB g := flow_ax (tbl := []) (dirty := fun _ => []) (n := 8) nq_one xmixA Tryz.func194 rfl (by decide +kernel)
def tasoundR : ACt Tryz.prog nq := rowF false (go_of Tryz.func194 (by kernel_rfl) (by kernel_rfl)) asoundR_op (by decide +kernel)
theorem aforward_op : ∃ g, FOp Tryz.prog nq 195 [rI 36, rI 6, (.int .i64 6)] (rI 6) unkB g := flow_ax (tbl := [taless, tDiv]) (dirty := fun _ => []) (n := 8) nq_one xmixA Tryz.func195 rfl (by decide +kernel)
def taforward : ACt Tryz.prog nq := rowF false (go_of Tryz.func195 (by kernel_rfl) (by kernel_rfl)) aforward_op (by decide +kernel)
theorem aRoot_op : ∃ g, FOp Tryz.prog nq 125 [rI 36, (.int .i64 6)] (rI 36) unkB g := flow_ax (tbl := [tafits, taless, tDiv, tapivot, tasoundM]) (dirty := fun _ => []) (n := 8) nq_one xmixA Tryz.func125 rfl (by decide +kernel)
def taRoot : ACt Tryz.prog nq := rowF false (go_of Tryz.func125 (by kernel_rfl) (by kernel_rfl)) aRoot_op (by decide +kernel)
theorem aSolve_op : ∃ g, FOp Tryz.prog nq 127 [rI 36, rI 6, (.int .i64 6)] (rI 6) unkB g := flow_ax (tbl := [tafits, taforward, tMul, tSub, tDiv, tasoundR]) (dirty := fun _ => []) (n := 8) nq_one xmixA Tryz.func127 rfl (by decide +kernel)
def taSolve : ACt Tryz.prog nq := rowF false (go_of Tryz.func127 (by kernel_rfl) (by kernel_rfl)) aSolve_op (by decide +kernel)
theorem aApply_op : ∃ g, FOp Tryz.prog nq 126 [rI 36, rI 6, (.int .i64 6)] (rI 6) unkB g := flow_ax (tbl := [tafits, tasum, tasoundR]) (dirty := fun _ => []) (n := 8) nq_one xmixA Tryz.func126 rfl (by decide +kernel)
def taApply : ACt Tryz.prog nq := rowF false (go_of Tryz.func126 (by kernel_rfl) (by kernel_rfl)) aApply_op (by decide +kernel)
end Go.Proofs.YtbophanlmkbfeaaGreatDoor
namespace Go.Proofs.YtbophanlmkbfeaaGreatDoor
open Go.RowKit
theorem fparted_op : ∃ g, POp Tryz.prog 177 [rI 6] (.tuple ⟨[rI 3, rI 3]⟩) g := pure_ax (nq := nq) (tbl := []) (dirty := fun _ => []) (n := 8) xmixA Tryz.func177 rfl (by decide +kernel)
def tfparted : ACt Tryz.prog nq := rowP (go_of Tryz.func177 (by kernel_rfl) (by kernel_rfl)) fparted_op (by decide +kernel)
theorem fjoined_op : ∃ g, POp Tryz.prog 124 [rI 6] (rI 6) g := pure_ax (nq := nq) (tbl := []) (dirty := fun _ => []) (n := 8) xmixA Tryz.func124 rfl (by decide +kernel)
def tfjoined : ACt Tryz.prog nq := rowP (go_of Tryz.func124 (by kernel_rfl) (by kernel_rfl)) fjoined_op (by decide +kernel)
theorem feither_op : ∃ g, POp Tryz.prog 185 [uI, uI, uI] (uI) g := pure_ax (nq := nq) (tbl := []) (dirty := fun _ => []) (n := 8) xmixA Tryz.func185 rfl (by decide +kernel)
def tfeither : ACt Tryz.prog nq := rowP (go_of Tryz.func185 (by kernel_rfl) (by kernel_rfl)) feither_op (by decide +kernel)
theorem fmiddle_op : ∃ g, FOp Tryz.prog nq 184 [rI 13] (uI) unkB g := flow_ax (tbl := [tAdd, tPart]) (dirty := fun _ => []) (n := 16) nq_one xmixA Tryz.func184 rfl (by decide +kernel)
def tfmiddle : ACt Tryz.prog nq := rowF false (go_of Tryz.func184 (by kernel_rfl) (by kernel_rfl)) fmiddle_op (by decide +kernel)
theorem fmean_op : ∃ g, FOp Tryz.prog nq 113 [rI 78] (rI 6) unkB g := flow_ax (tbl := [tfmiddle]) (dirty := fun _ => []) (n := 16) nq_one xmixA Tryz.func113 rfl (by decide +kernel)
def tfmean : ACt Tryz.prog nq := rowF false (go_of Tryz.func113 (by kernel_rfl) (by kernel_rfl)) fmean_op (by decide +kernel)
theorem fless_op : ∃ g, FOp Tryz.prog nq 123 [rI 6, rI 6] (rI 6) unkB g := flow_ax (tbl := [tSub]) (dirty := fun _ => []) (n := 8) nq_one xmixA Tryz.func123 rfl (by decide +kernel)
def tfless : ACt Tryz.prog nq := rowF false (go_of Tryz.func123 (by kernel_rfl) (by kernel_rfl)) fless_op (by decide +kernel)
theorem fbeside_op : ∃ g, FOp Tryz.prog nq 114 [rI 78, rI 6] (rI 78) unkB g := flow_ax (tbl := [tfless]) (dirty := fun _ => []) (n := 16) nq_one xmixA Tryz.func114 rfl (by decide +kernel)
def tfbeside : ACt Tryz.prog nq := rowF false (go_of Tryz.func114 (by kernel_rfl) (by kernel_rfl)) fbeside_op (by decide +kernel)
theorem fraised_op : ∃ g, FOp Tryz.prog nq 119 [rI 36, uI, uI] (rI 36) unkB g := flow_ax (tbl := [tfeither, tAdd]) (dirty := fun _ => []) (n := 8) nq_one xmixA Tryz.func119 rfl (by decide +kernel)
def tfraised : ACt Tryz.prog nq := rowF false (go_of Tryz.func119 (by kernel_rfl) (by kernel_rfl)) fraised_op (by decide +kernel)
theorem fevened_op : ∃ g, FOp Tryz.prog nq 196 [rI 36] (rI 36) unkB g := flow_ax (tbl := [tAdd, tPart]) (dirty := fun _ => []) (n := 8) nq_one xmixA Tryz.func196 rfl (by decide +kernel)
def tfevened : ACt Tryz.prog nq := rowF false (go_of Tryz.func196 (by kernel_rfl) (by kernel_rfl)) fevened_op (by decide +kernel)
theorem funits_op : ∃ g, FOp Tryz.prog nq 122 [rI 6] (rI 6) unkB g := flow_ax (tbl := [tvUnit]) (dirty := fun _ => []) (n := 8) nq_one xmixA Tryz.func122 rfl (by decide +kernel)
def tfunits : ACt Tryz.prog nq := rowF false (go_of Tryz.func122 (by kernel_rfl) (by kernel_rfl)) funits_op (by decide +kernel)
theorem fattitudes_op : ∃ g, FOp Tryz.prog nq 176 [rI 43, rI 78] (rI 52) unkB g := flow_ax (tbl := [tfparted, tqFromRod, tqMul]) (dirty := fun _ => []) (n := 16) nq_one xmixA Tryz.func176 rfl (by decide +kernel)
def tfattitudes : ACt Tryz.prog nq := rowF false (go_of Tryz.func176 (by kernel_rfl) (by kernel_rfl)) fattitudes_op (by decide +kernel)
theorem fmoved_op : ∃ g, FOp Tryz.prog nq 110 [rI 43, rI 78, rI 3, uI] (rI 52) unkB g := flow_ax (tbl := [tfattitudes, tvSub, tfparted, tPart, tqFromRod, tqMul]) (dirty := fun _ => []) (n := 16) nq_one xmixA Tryz.func110 rfl (by decide +kernel)
def tfmoved : ACt Tryz.prog nq := rowF false (go_of Tryz.func110 (by kernel_rfl) (by kernel_rfl)) fmoved_op (by decide +kernel)
theorem faround_op : ∃ g, FOp Tryz.prog nq 112 [rI 4, rI 52, rI 78] (rI 78) unkB g := flow_ax (tbl := [tfparted, tqToRod, tqMul, tqBack, tfjoined]) (dirty := fun _ => []) (n := 16) nq_one xmixA Tryz.func112 rfl (by decide +kernel)
def tfaround : ACt Tryz.prog nq := rowF false (go_of Tryz.func112 (by kernel_rfl) (by kernel_rfl)) faround_op (by decide +kernel)
theorem fviewed_op : ∃ g, FOp Tryz.prog nq 121 [rI 43, rI 78, rI 6] (rI 78) unkB g := flow_ax (tbl := [tfattitudes, tqTurn, tfjoined]) (dirty := fun _ => []) (n := 16) nq_one xmixA Tryz.func121 rfl (by decide +kernel)
def tfviewed : ACt Tryz.prog nq := rowF false (go_of Tryz.func121 (by kernel_rfl) (by kernel_rfl)) fviewed_op (by decide +kernel)
theorem fbiased_op : ∃ g, FOp Tryz.prog nq 118 [rI 3, rI 6] (rI 3) unkB g := flow_ax (tbl := [tfparted, tvAdd]) (dirty := fun _ => []) (n := 8) nq_one xmixA Tryz.func118 rfl (by decide +kernel)
def tfbiased : ACt Tryz.prog nq := rowF false (go_of Tryz.func118 (by kernel_rfl) (by kernel_rfl)) fbiased_op (by decide +kernel)
end Go.Proofs.YtbophanlmkbfeaaGreatDoor
namespace Go.Proofs.YtbophanlmkbfeaaGreatDoor
open Go.RowKit
structure Stop (p : Prop) : Prop where
 out : p
theorem post_stop {P : Program} {fn : Func} {R : Ending → World → Prop} {e : Exit} {a : Act} {w : World} (h : Stop (bodyPost P fn R e a w)) : bodyPost P fn R e a w := h.out
theorem Arr.range {k : Nat} {l : List Value} {w : World} (A : Arr k l w) : w.rangeAt k 0 l := fun j v hv => by
 obtain ⟨hj, rfl⟩ := List.getElem?_eq_some_iff.1 hv
 rw [Nat.zero_add]
 exact A.c j hj
theorem results_arr {fn : Func} {p : Tmp} {ty : TypeId} (h : fn.results = #[.cell p ty]) {tmps : Array Value} {w : World} {k : Nat} {l : List Value} (A : Arr k l w)
    (hp : tmps.getD p undef = .pointer (some ⟨k, 0, none⟩)) (hd : (Tryz.prog.underlying ty).any TypeDesc.isRow = true) (hi : (Tryz.prog.info? ty).map (·.size) = some l.length) :
    (results fn tmps).run Tryz.prog w = .ok (.agg l.toArray) w := by
 cases hu : Tryz.prog.underlying ty with
 | none => rw [hu] at hd; cases hd
 | some d =>
  rw [hu] at hd
  have hp' : tmps[p]?.getD undef = .pointer (some ⟨k, 0, none⟩) := by simpa using hp
  simp [results, h, hp', asAddr, run_loadVar_mid w k 0 ty l d A.range hu hd hi]
end Go.Proofs.YtbophanlmkbfeaaGreatDoor
namespace Go.Proofs.YtbophanlmkbfeaaGreatDoor
open Go.RowKit
theorem rounds_up {P : Program} {c : Code} {Q : Exit → Act → World → Prop} {a : Act} {w : World} (J : Nat → Act → World → Prop) (N : Nat) (h0 : J 0 a w)
    (step : ∀ k a w, k < N → J k a w → ∀ R : Act → World → Prop, (∀ a' w', J (k + 1) a' w' → R a' w') → c.wp P (Exit.then R Q) a w)
    (last : ∀ a w, J N a w → ∀ R : Act → World → Prop, c.wp P (Exit.then R Q) a w) : (Code.loop c).wp P Q a w := by
 have key : ∀ d k a w, k + d = N → J k a w → Code.rounds P c Q (d + 1) a w := by
  intro d
  induction d with
  | zero => intro k a w hk hJ; rw [rounds_succ]; exact last a w (by rw [← hk]; exact hJ) _
  | succ d ih => intro k a w hk hJ; rw [rounds_succ]; exact step k a w (by omega) hJ _ fun a' w' h => ih (k + 1) a' w' (by omega) h
 exact wp_loop_rounds (N + 1) (key N 0 a w (by omega) h0)
theorem row_load {ops : Array Oper} {rest : List Oper} {op : Oper} {a : Act} {w : World} {Q : Exit → Act → World → Prop} {ty : TypeId} {x : Operand} {k : Nat} {l : List Value} (hgd : op.guard = none) (ho : op.op = .load ty x)
    (hx : a.eval x = .pointer (some ⟨k, 0, none⟩)) (A : Arr k l w) (hd : (Tryz.prog.underlying ty).any TypeDesc.isRow = true) (hi : (Tryz.prog.info? ty).map (·.size) = some l.length)
    (h : wpList Tryz.prog ops Q rest (a.put op.dst (.agg l.toArray)) w) : wpList Tryz.prog ops Q (op :: rest) a w := by
 cases hu : Tryz.prog.underlying ty with
 | none => rw [hu] at hd; cases hd
 | some d => rw [hu] at hd; exact wpList_load_mid hgd ty x ho k 0 hx l d A.range hu hd hi h
theorem store_stop {ops : Array Oper} {rest : List Oper} {op : Oper} {a : Act} {w : World} {Q : Exit → Act → World → Prop} {ty : TypeId} {x y : Operand} (_ : op.op = .store ty x y) (_ : (Tryz.prog.underlying ty).any TypeDesc.isRow = true)
    (h : Stop (wpList Tryz.prog ops Q (op :: rest) a w)) : wpList Tryz.prog ops Q (op :: rest) a w := h.out
structure Off (k : Nat) (w w' : World) : Prop where
 os : w'.os = w.os
 tape : w'.tape = w.tape
 output : w'.output = w.output
 size : w'.heap.size = w.heap.size
 block : ∀ j, j ≠ k → w'.heap[j]? = w.heap[j]?
theorem off_set (k o : Nat) (v : Value) (w : World) : Off k w (w.setCell ⟨k, o, none⟩ v) :=
 ⟨rfl, rfl, rfl, World.size_setCell _ _ _, fun _ hj => Below.heap_setCell _ _ _ _ hj⟩
theorem Off.trans {k : Nat} {w w' w'' : World} (h : Off k w w') (h' : Off k w' w'') : Off k w w'' :=
 ⟨h'.os.trans h.os, h'.tape.trans h.tape, h'.output.trans h.output, h'.size.trans h.size, fun j hj => (h'.block j hj).trans (h.block j hj)⟩
theorem off_cells (k : Nat) : ∀ (vs : List Value) (o : Nat) (w : World), Off k w (w.setCells k o vs)
 | [], _, _ => ⟨rfl, rfl, rfl, rfl, fun _ _ => rfl⟩
 | v :: r, o, w => (off_set k o v w).trans (off_cells k r (o + 1) _)
theorem Arr.off {k k' : Nat} {l : List Value} {w w' : World} (A : Arr k' l w) (h : Off k w w') (hk : k' ≠ k) : Arr k' l w' := A.same (h.block k' hk) (Nat.le_of_eq h.size.symm)
theorem Fl.off {k b : Nat} {bad : Bool} {w w' : World} (A : Fl b bad w) (h : Off k w w') (hk : b ≠ k) : Fl b bad w' :=
 ⟨(World.cell?_of_block (w := w) (a := ⟨b, 0, none⟩) (h.block b hk)).trans A.cell, (World.frozen?_of_block (w := w) (a := ⟨b, 0, none⟩) (h.block b hk)).trans A.free, by rw [h.size]; exact A.lies⟩
theorem Kept.off {b k : Nat} {x w w' : World} (K : Kept b x w) (h : Off k w w') (hk : x.heap.size ≤ k) : Kept b x w' :=
 ⟨h.os.trans K.os, h.tape.trans K.tape, h.output.trans K.output, by rw [h.size]; exact K.size, fun j hj hb => (h.block j (by omega)).trans (K.block j hj hb)⟩
theorem store_row {ops : Array Oper} {rest : List Oper} {op : Oper} {a : Act} {w : World} {Q : Exit → Act → World → Prop} {ty : TypeId} {x y : Operand} {k : Nat} {l l' : List Value} (hgd : op.guard = none) (ho : op.op = .store ty x y)
    (hx : a.eval x = .pointer (some ⟨k, 0, none⟩)) (hy : a.eval y = .agg l'.toArray) (A : Arr k l w) (hl : l'.length = l.length) (hi : (Tryz.prog.info? ty).map (·.size) = some l'.length) (h1 : l'.all (·.oneCell') = true)
    (h : ∀ w', Arr k l' w' → Off k w w' → wpList Tryz.prog ops Q rest (a.put op.dst undef) w') : wpList Tryz.prog ops Q (op :: rest) a w := by
 have th : w.there k 0 l'.length := fun j hj => by
  rw [Nat.zero_add]
  exact ⟨by rw [A.c j (by omega)]; rfl, A.f j (by omega)⟩
 have of := off_cells k l' 0 w
 refine wpList_store_mid hgd ty x y ho k 0 l'.toArray hx hy (by simpa using th) (by simpa using hi) (by simpa using h1) ?_
 refine h _ ⟨fun i hi' => ?_, fun i hi' => ?_, by simp only [of.size]; exact A.lies⟩ of
 ·have := World.cell?_setCells_in k l' 0 w (fun j hj => (th j hj).1) i hi'
  rw [Nat.zero_add] at this
  exact this
 ·show (w.setCells k 0 l').frozen? _ = false
  rw [World.frozen?_setCells]
  exact A.f i (by omega)
theorem row_one (N : Nat) (g : Nat → Int) : (row N g).all (·.oneCell') = true := by
 rw [List.all_eq_true]
 intro v hv
 unfold row at hv
 obtain ⟨i, _, rfl⟩ := List.mem_map.1 hv
 rfl
end Go.Proofs.YtbophanlmkbfeaaGreatDoor
namespace Go.Proofs.YtbophanlmkbfeaaGreatDoor
open Go.RowKit
def zS (a : Act) (n : Nat) : Nat → Value := fun i => (a.tmps.toList.drop n).getD i undef
theorem give_act {J : Act → World → Prop} {a : Act} {W : World} (h : ∀ a', a' = a → J a' W) : J a W := h a rfl
end Go.Proofs.YtbophanlmkbfeaaGreatDoor
namespace Go.Proofs.YtbophanlmkbfeaaGreatDoor
open Go.RowKit
abbrev V3 := Int × Int × Int
def soundS (bad : Bool) (v : V3) : V3 × Bool := if bad then ((0, 0, 0), true) else (v, false)
def vScaleS (bad : Bool) (p : V3) (k : Int) : (V3) × Bool := let r1 := mulS bad p.1 k; let r2 := mulS r1.2 p.2.1 k; let r3 := mulS r2.2 p.2.2 k; let r4 := soundS r3.2 (r1.1, r2.1, r3.1); (r4.1, r4.2)
def vNormS (bad : Bool) (p : V3) : (Int) × Bool := let r1 := normS bad p.1 p.2.1 p.2.2; (r1.1, r1.2)
def vUnitS (bad : Bool) (p : V3) : (V3) × Bool := let r1 := vNormS bad p; if r1.1 < 1048576 then ((0, 0, 0), true) else let r2 := divS r1.2 p.1 r1.1; let r3 := divS r2.2 p.2.1 r1.1; let r4 := divS r3.2 p.2.2 r1.1; ((r2.1, r3.1, r4.1), r4.2)
end Go.Proofs.YtbophanlmkbfeaaGreatDoor
namespace Go.Proofs.YtbophanlmkbfeaaGreatDoor
open Go.RowKit
end Go.Proofs.YtbophanlmkbfeaaGreatDoor
namespace Go.Proofs.YtbophanlmkbfeaaGreatDoor
open Go.RowKit
abbrev V4 := Int × Int × Int × Int
def minusS (a : Int) : Int := if a < -4611686018427387904 then a else if 4611686018427387904 < a then a else -a
theorem minusS_lo {a : Int} (h : a < -4611686018427387904) : minusS a = a := by unfold minusS; rw [if_pos h]
theorem minusS_hi {a : Int} (h : 4611686018427387904 < a) : minusS a = a := by unfold minusS; rw [if_neg (by omega), if_pos h]
theorem minusS_in {a : Int} (h : -4611686018427387904 ≤ a) (k : a ≤ 4611686018427387904) : minusS a = -a := by unfold minusS; rw [if_neg (by omega), if_neg (by omega)]
def partedS (q : V4) : V3 × Int := ((q.1, q.2.1, q.2.2.1), q.2.2.2)
def uprightS (q : V4) : V4 := if q.2.2.2 ≥ 0 then q else let r1 := minusS q.1; let r2 := minusS q.2.1; let r3 := minusS q.2.2.1; let r4 := minusS q.2.2.2; (r1, r2, r3, r4)
def qUnitS (bad : Bool) (q : V4) : (V4) × Bool := let r2 := vNormS bad (q.1, q.2.1, q.2.2.1); let r3 := normS r2.2 r2.1 q.2.2.2 0; if r3.1 < 549755813888 then ((0, 0, 0, 0), true) else let r4 := divS r3.2 q.1 r3.1; let r5 := divS r4.2 q.2.1 r3.1; let r6 := divS r5.2 q.2.2.1 r3.1; let r7 := divS r6.2 q.2.2.2 r3.1; let r8 := uprightS (r4.1, r5.1, r6.1, r7.1); (r8, r7.2)
end Go.Proofs.YtbophanlmkbfeaaGreatDoor
namespace Go.Proofs.YtbophanlmkbfeaaGreatDoor
open Go.RowKit
end Go.Proofs.YtbophanlmkbfeaaGreatDoor
namespace Go.Proofs.YtbophanlmkbfeaaGreatDoor
open Go.RowKit
theorem row_yield {ops : Array Oper} {S : World → Prop} {op : Oper} {a : Act} {ty : TypeId} {x : Operand} {k : Nat} {l : List Value} (hw : Region.wanted op (yielded ops a.tmps) = true) (ho : op.op = .load ty x)
    (hx : a.eval x = .pointer (some ⟨k, 0, none⟩)) (hS : ∀ w, S w → Arr k l w) (hd : (Tryz.prog.underlying ty).any TypeDesc.isRow = true) (hi : (Tryz.prog.info? ty).map (·.size) = some l.length) :
    YieldsIf Tryz.prog ops S op (.agg l.toArray) a := by
 cases hu : Tryz.prog.underlying ty with
 | none => rw [hu] at hd; cases hd
 | some d => rw [hu] at hd; exact yieldsIf_load_mid hw ty x ho k 0 hx _ d (fun w h => (hS w h).range) hu hd hi
def NearR (k N : Nat) (g : Nat → Int) (o : Nat) (w : World) : Prop := ∃ g' : Nat → Int, Arr k (row N g') w ∧ ∀ x, x ≠ o → g' x = g x
theorem NearR.same {k N o : Nat} {g : Nat → Int} {w : World} (A : Arr k (row N g) w) : NearR k N g o w := ⟨g, A, fun _ _ => rfl⟩
theorem NearR.upd {k N o : Nat} {g : Nat → Int} {v : Int} {w : World} (A : Arr k (row N (updF g o v)) w) : NearR k N g o w := ⟨_, A, fun _ hx => if_neg hx⟩
theorem get_cont {P : Program} {c : Code} {Q : Exit → Act → World → Prop} {a : Act} {w : World} (h : ∀ K : Act → World → Prop, Hid (K = fun a w => Q .normal a w) → Code.wp P c Q a w) : Code.wp P c Q a w := h _ rfl
theorem put_cont {K : Act → World → Prop} {Q : Exit → Act → World → Prop} {a : Act} {w : World} (e : Hid (K = fun a w => Q .normal a w)) (h : K a w) : Q .normal a w := by rw [e.out] at h; exact h
theorem use_cont {K p : Act → World → Prop} {a : Act} {w : World} (h : ∀ a w, p a w → K a w) (hp : p a w) : K a w := h a w hp
end Go.Proofs.YtbophanlmkbfeaaGreatDoor
namespace Go.Proofs.YtbophanlmkbfeaaGreatDoor
open Go.RowKit
end Go.Proofs.YtbophanlmkbfeaaGreatDoor
namespace Go.Proofs.YtbophanlmkbfeaaGreatDoor
open Go.RowKit
end Go.Proofs.YtbophanlmkbfeaaGreatDoor
namespace Go.Proofs.YtbophanlmkbfeaaGreatDoor
open Go.RowKit
end Go.Proofs.YtbophanlmkbfeaaGreatDoor
namespace Go.Proofs.YtbophanlmkbfeaaGreatDoor
open Go.RowKit
def guessF (q : V4) (v : V3) (p : Nat → Int) : Nat → Int := fun i => if i < 7 then (if i = 0 then q.1 else if i = 1 then q.2.1 else if i = 2 then q.2.2.1 else if i = 3 then q.2.2.2 else if i = 4 then v.1 else if i = 5 then v.2.1 else v.2.2) else p (i - 7)
def matF (y : Nat → Int) : Nat → Int := fun i => if i < 6 then y i else 0
end Go.Proofs.YtbophanlmkbfeaaGreatDoor
namespace Go.Proofs.YtbophanlmkbfeaaGreatDoor
open Go.RowKit
def hmiddleS_l0s (x : Nat → Int) (k : Nat) (s0 : Int × Bool) : Int × Bool := let p1 := addS s0.2 s0.1 (x k); (p1.1, p1.2)
def hmiddleS_l0 (x : Nat → Int) (z : Int × Bool) : Nat → Int × Bool
 | 0 => z
 | k + 1 => hmiddleS_l0s x k (hmiddleS_l0 x z k)
theorem hmiddleS_l0_succ (x : Nat → Int) (z : Int × Bool) (k : Nat) : hmiddleS_l0 x z (k + 1) = hmiddleS_l0s x k (hmiddleS_l0 x z k) := rfl
def hmiddleS (bad : Bool) (x : Nat → Int) : (Int) × Bool := let r2 := hmiddleS_l0 x ((x 0), bad) 13; let r3 := partS r2.2 r2.1 1 14; (r3.1, r3.2)
def hproductsS_l2s (x : Nat → Int) (y : Nat → Int) (i : Nat) (j : Nat) (k : Nat) (s2 : (Nat → Int) × Bool) : (Nat → Int) × Bool := let p1 := mulS s2.2 (x (k * 6 + i)) (y (k * 6 + j)); ((updF s2.1 k p1.1), p1.2)
def hproductsS_l2 (x : Nat → Int) (y : Nat → Int) (i : Nat) (j : Nat) (z : (Nat → Int) × Bool) : Nat → (Nat → Int) × Bool
 | 0 => z
 | k + 1 => hproductsS_l2s x y i j k (hproductsS_l2 x y i j z k)
theorem hproductsS_l2_succ (x : Nat → Int) (y : Nat → Int) (i : Nat) (j : Nat) (z : (Nat → Int) × Bool) (k : Nat) : hproductsS_l2 x y i j z (k + 1) = hproductsS_l2s x y i j k (hproductsS_l2 x y i j z k) := rfl
def hproductsS_l1s (x : Nat → Int) (y : Nat → Int) (i : Nat) (j : Nat) (s1 : (Nat → Int) × Bool) : (Nat → Int) × Bool := let p1 := hproductsS_l2 x y i j ((fun _ => 0), s1.2) 13; let p2 := hmiddleS p1.2 p1.1; ((updF s1.1 (i * 6 + j) p2.1), p2.2)
def hproductsS_l1 (x : Nat → Int) (y : Nat → Int) (i : Nat) (z : (Nat → Int) × Bool) : Nat → (Nat → Int) × Bool
 | 0 => z
 | j + 1 => hproductsS_l1s x y i j (hproductsS_l1 x y i z j)
theorem hproductsS_l1_succ (x : Nat → Int) (y : Nat → Int) (i : Nat) (z : (Nat → Int) × Bool) (j : Nat) : hproductsS_l1 x y i z (j + 1) = hproductsS_l1s x y i j (hproductsS_l1 x y i z j) := rfl
def hproductsS_l0s (x : Nat → Int) (y : Nat → Int) (i : Nat) (s0 : (Nat → Int) × Bool) : (Nat → Int) × Bool := let p1 := hproductsS_l1 x y i (s0.1, s0.2) 6; (p1.1, p1.2)
def hproductsS_l0 (x : Nat → Int) (y : Nat → Int) (z : (Nat → Int) × Bool) : Nat → (Nat → Int) × Bool
 | 0 => z
 | i + 1 => hproductsS_l0s x y i (hproductsS_l0 x y z i)
theorem hproductsS_l0_succ (x : Nat → Int) (y : Nat → Int) (z : (Nat → Int) × Bool) (i : Nat) : hproductsS_l0 x y z (i + 1) = hproductsS_l0s x y i (hproductsS_l0 x y z i) := rfl
def hproductsS (bad : Bool) (x : Nat → Int) (y : Nat → Int) : (Nat → Int) × Bool := let r1 := hproductsS_l0 x y ((fun _ => 0), bad) 6; (r1.1, r1.2)
end Go.Proofs.YtbophanlmkbfeaaGreatDoor
namespace Go.Proofs.YtbophanlmkbfeaaGreatDoor
open Go.RowKit
@[go_sem] theorem zero_rows (w : World) : Sem.run Tryz.prog (zeroValue 166) w = .ok (.agg (row 78 (fun _ => 0)).toArray) w := by kernel_rfl
@[go_sem] theorem zero_quats (w : World) : Sem.run Tryz.prog (zeroValue 168) w = .ok (.agg (row 52 (fun _ => 0)).toArray) w := by kernel_rfl
@[go_sem] theorem zero_guess (w : World) : Sem.run Tryz.prog (zeroValue 40) w = .ok (.agg (row 43 (fun _ => 0)).toArray) w := by kernel_rfl
end Go.Proofs.YtbophanlmkbfeaaGreatDoor
namespace Go.Proofs.YtbophanlmkbfeaaGreatDoor
open Go.RowKit
@[go_sem] theorem zero_frows (w : World) : Sem.run Tryz.prog (zeroValue 171) w = .ok (.agg (row 78 (fun _ => 0)).toArray) w := by kernel_rfl
@[go_sem] theorem zero_ints13 (w : World) : Sem.run Tryz.prog (zeroValue 238) w = .ok (.agg (row 13 (fun _ => 0)).toArray) w := by kernel_rfl
@[go_sem] theorem index_ints13 (g : Nat → Int) (k : Nat) (w : World) (h : (k : Int) < 13) : (Instr.index 238 (.agg (row 13 g).toArray) (.int .i64 (k : Int))).run Tryz.prog w = .ok (.int .i64 (g k)) w := by
 have hk : k = 0 ∨ k = 1 ∨ k = 2 ∨ k = 3 ∨ k = 4 ∨ k = 5 ∨ k = 6 ∨ k = 7 ∨ k = 8 ∨ k = 9 ∨ k = 10 ∨ k = 11 ∨ k = 12 := by omega
 rcases hk with rfl | rfl | rfl | rfl | rfl | rfl | rfl | rfl | rfl | rfl | rfl | rfl | rfl <;> (show _ = _; kernel_rfl)
@[go_sem] theorem index_frows (g : Nat → Int) (k : Nat) (w : World) (h : (k : Int) < 13) : (Instr.index 171 (.agg (row 78 g).toArray) (.int .i64 (k : Int))).run Tryz.prog w = .ok (.agg (row 6 fun x_ => g (k * 6 + x_)).toArray) w := by
 have hk : k = 0 ∨ k = 1 ∨ k = 2 ∨ k = 3 ∨ k = 4 ∨ k = 5 ∨ k = 6 ∨ k = 7 ∨ k = 8 ∨ k = 9 ∨ k = 10 ∨ k = 11 ∨ k = 12 := by omega
 rcases hk with rfl | rfl | rfl | rfl | rfl | rfl | rfl | rfl | rfl | rfl | rfl | rfl | rfl <;> (show _ = _; kernel_rfl)
@[go_sem] theorem index_quats13 (g : Nat → Int) (k : Nat) (w : World) (h : (k : Int) < 13) : (Instr.index 168 (.agg (row 52 g).toArray) (.int .i64 (k : Int))).run Tryz.prog w = .ok (.agg #[.int .i64 (g (k * 4)), .int .i64 (g (k * 4 + 1)), .int .i64 (g (k * 4 + 2)), .int .i64 (g (k * 4 + 3))]) w := by
 have hk : k = 0 ∨ k = 1 ∨ k = 2 ∨ k = 3 ∨ k = 4 ∨ k = 5 ∨ k = 6 ∨ k = 7 ∨ k = 8 ∨ k = 9 ∨ k = 10 ∨ k = 11 ∨ k = 12 := by omega
 rcases hk with rfl | rfl | rfl | rfl | rfl | rfl | rfl | rfl | rfl | rfl | rfl | rfl | rfl <;> (show _ = _; kernel_rfl)
@[go_sem] theorem index_row0 (g : Nat → Int) (w : World) : (Instr.index 36 (.agg (row 6 g).toArray) (.int .i64 0)).run Tryz.prog w = .ok (.int .i64 (g 0)) w := by kernel_rfl
def buildGD (a b c d x y z : Int) (p : Nat → Int) : Sem Value := Instr.build 40 #[(0, .agg #[.int .i64 a, .int .i64 b, .int .i64 c, .int .i64 d]), (1, .agg #[.int .i64 x, .int .i64 y, .int .i64 z]), (2, .agg (row 36 p).toArray)]
@[go_sem high] theorem buildG_is (a b c d x y z : Int) (p : Nat → Int) : Instr.build 40 #[(0, .agg #[.int .i64 a, .int .i64 b, .int .i64 c, .int .i64 d]), (1, .agg #[.int .i64 x, .int .i64 y, .int .i64 z]), (2, .agg (row 36 p).toArray)] = buildGD a b c d x y z p := rfl
@[go_sem] theorem buildG_run (a b c d x y z : Int) (p : Nat → Int) (w : World) : (buildGD a b c d x y z p).run Tryz.prog w = .ok (.agg (row 43 (guessF (a, b, c, d) (x, y, z) p)).toArray) w := by kernel_rfl
def buildQD (a b c d : Int) : Sem Value := Instr.build 40 #[(0, .agg #[.int .i64 a, .int .i64 b, .int .i64 c, .int .i64 d])]
@[go_sem high] theorem buildQ_is (a b c d : Int) : Instr.build 40 #[(0, .agg #[.int .i64 a, .int .i64 b, .int .i64 c, .int .i64 d])] = buildQD a b c d := rfl
@[go_sem] theorem buildQ_run (a b c d : Int) (w : World) : (buildQD a b c d).run Tryz.prog w = .ok (.agg (row 43 (guessF (a, b, c, d) (0, 0, 0) (fun _ => 0))).toArray) w := by kernel_rfl
def build0D : Sem Value := Instr.build 40 #[]
@[go_sem high] theorem build0_is : Instr.build 40 #[] = build0D := rfl
@[go_sem] theorem build0_run (w : World) : build0D.run Tryz.prog w = .ok (.agg (row 43 (fun _ => 0)).toArray) w := by kernel_rfl
def buildMD (y : Nat → Int) : Sem Value := Instr.build 38 #[(0, .agg (row 6 y).toArray)]
@[go_sem high] theorem buildM_is (y : Nat → Int) : Instr.build 38 #[(0, .agg (row 6 y).toArray)] = buildMD y := rfl
@[go_sem] theorem buildM_run (y : Nat → Int) (w : World) : (buildMD y).run Tryz.prog w = .ok (.agg (row 36 (matF y)).toArray) w := by kernel_rfl
end Go.Proofs.YtbophanlmkbfeaaGreatDoor
namespace Go.Proofs.YtbophanlmkbfeaaGreatDoor
open Go.RowKit
end Go.Proofs.YtbophanlmkbfeaaGreatDoor
namespace Go.Proofs.YtbophanlmkbfeaaGreatDoor
theorem rounds_letter {P : Program} {c : Code} {Q : Exit → Act → World → Prop} {n : Nat} {a : Act} {w : World} {S : World → Prop} (hS : S w) (h : ∀ w', S w' → Code.rounds P c Q n a w') : Code.rounds P c Q n a w := h w hS
end Go.Proofs.YtbophanlmkbfeaaGreatDoor
namespace Go.Proofs.YtbophanlmkbfeaaGreatDoor
open Go.RowKit
set_option maxRecDepth 100000
set_option maxHeartbeats 20000000
end Go.Proofs.YtbophanlmkbfeaaGreatDoor
