/-
  Telem's Counts, by the symbolic run, for the seat YtoadcnhcfodkgaaGreatDoor.
-/
import Derived.Test.YtoadcnhcfodkgaaGreatDoorAxP
import Derived.Test.YtoadcnhcfodkgaaGreatDoorTlCM
import Derived.Test.YtoadcnhcfodkgaaGreatDoorMeth
namespace Go.Proofs.YtoadcnhcfodkgaaGreatDoor
open Go.RowKit

def tlFail : Ct Tryz.prog := flowCt Tryz.prog 121 none' (fun _ _ => ((), true)) cU (go_of Tryz.func121 (by kernel_rfl) (by kernel_rfl)) (fun b bad _ w _ _ hw => Fail_any b bad w hw)
def tlPart : Ct Tryz.prog := flowCt Tryz.prog 151 (then' cI (then' cI (lone' cI))) (fun bad x => partS bad x.1 x.2.1 x.2.2) cI (go_of Tryz.func151 (by kernel_rfl) (by kernel_rfl)) (fun b bad x w _ _ hw => Part_any b bad x.1 x.2.1 x.2.2 w hw)
def tcV (bad : Bool) (c : Int) : Int × Bool := if c < -32768 then (0, true) else if c > 32767 then (0, true) else (c, bad)
theorem tcV_is (bad : Bool) (c : Int) : tcV bad c = tcS (c, bad) := by
  unfold tcV tcS inR
  by_cases h0 : c < -32768
  · rw [if_pos h0, if_neg (by simp; omega)]
  rw [if_neg h0]
  by_cases h1 : c > 32767
  · rw [if_pos h1, if_neg (by simp; omega)]
  · rw [if_neg h1, if_pos (by simp; omega)]
theorem tcount_fx : FlowOk Tryz.prog 168 (lone' cI) (fun bad x => tcV bad x) cI := flow_sx (tbl := [tlFail]) (dirty := fun _ => []) (n := 4) xmixA Tryz.func168 rfl (fun bad x Post => by
    refine Eq.trans (b := ?m) ?x (Eq.symm ?y)
    case y => unfold tcV; simp only [← vif_lt (K := PK cI Post)]; exact rfl
    case x => kernel_rfl)
def tlCount : Ct Tryz.prog := flowCt Tryz.prog 168 (lone' cI) (fun bad x => tcS (x, bad)) cI (go_of Tryz.func168 (by kernel_rfl) (by kernel_rfl)) (fun b bad x w h1 h2 h3 => by have := tcount_fx b bad x w h1 h2 h3; dsimp only at this ⊢; rw [tcV_is] at this; exact this)
abbrev qT (q : Tup 4) : Int × Int × Int × Int := (q.1, q.2.1, q.2.2.1, q.2.2.2.1)
abbrev mT (m : Tup 3) : V3 := (m.1, m.2.1, m.2.2.1)
def cntT (r : (Int × Int × Int × Int) × V3) : Tup 4 × Tup 3 := ((r.1.1, r.1.2.1, r.1.2.2.1, r.1.2.2.2, ()), (r.2.1, r.2.2.1, r.2.2.2, ()))
def cntV (q : Tup 4) (m : Tup 3) (K : Tup 4 × Tup 3 → Prop) : Prop :=
  let p0 := tcS (partS false q.1 1 67108864)
  let p1 := tcS (partS p0.2 q.2.1 1 67108864)
  let p2 := tcS (partS p1.2 q.2.2.1 1 67108864)
  let p3 := tcS (partS p2.2 q.2.2.2.1 1 67108864)
  let p4 := tcS (partS p3.2 m.1 10000 1099511627776)
  let p5 := tcS (partS p4.2 m.2.1 10000 1099511627776)
  let p6 := tcS (partS p5.2 m.2.2.1 10000 1099511627776)
  vif p6.2 (K (cntT ((0, 0, 0, 0), (0, 0, 0)))) (K (cntT ((p0.1, p1.1, p2.1, p3.1), (p4.1, p5.1, p6.1))))
theorem cntV_is (q : Tup 4) (m : Tup 3) (K : Tup 4 × Tup 3 → Prop) : cntV q m K = K (cntT (tlC (qT q) (mT m))) := by
  unfold cntV tlC
  dsimp only
  rw [vif_b (K := fun r => K (cntT r))]
theorem tcounts_fx : PureOk Tryz.prog 55 (then' (cT 4) (lone' (cT 3))) (fun x => cntT (tlC (qT x.1) (mT x.2))) (two' (cT 4) (cT 3)) := pure_sx (tbl := [tlPart, tlCount]) (dirty := fun _ => []) (n := 6) xmixA Tryz.func55 rfl (fun x Post => by
    rw [← cntV_is x.1 x.2 (PJ (two' (cT 4) (cT 3)) Post)]
    kernel_rfl)
end Go.Proofs.YtoadcnhcfodkgaaGreatDoor
