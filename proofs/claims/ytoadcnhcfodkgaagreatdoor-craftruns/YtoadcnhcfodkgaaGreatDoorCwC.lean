/-
  Steps of a craft, but for the frames that it takes, by the symbolic run, for the seat YtoadcnhcfodkgaaGreatDoor.
-/
import Derived.Test.YtoadcnhcfodkgaaGreatDoorCwB
namespace Go.Proofs.YtoadcnhcfodkgaaGreatDoor
open Go.RowKit

section
variable (F : Fs)
def biasT (g : Tup 43) : Tup 3 := (g.2.2.2.2.1, g.2.2.2.2.2.1, g.2.2.2.2.2.2.1, ())
def q4T (g : Tup 43) : Tup 4 := (g.1, g.2.1, g.2.2.1, g.2.2.2.1, ())
/-- What the filter says at its end. -/
def filE (s : See) (g : Tup 43) (b pass : Bool) : Tup 43 × See :=
  if (F.spread b g).2 then (g, (s.1, s.2.1, s.2.2.1, s.2.2.2.1, s.2.2.2.2.1, true, pass, s.2.2.2.2.2.2.2)) else (g, (s.1, s.2.1, s.2.2.1, s.2.2.2.1, s.2.2.2.2.1, decide ((F.spread b g).1 > 274877906944), pass, s.2.2.2.2.2.2.2))
def filR (s : See) (x : Hea) (y : Sky) (r : Tup 43 × Bool) : Tup 43 × See :=
  if s.2.2.2.1 then (if s.2.2.2.2.1 then filE F s (F.meet r.2 (r.1, y.2.2, dirsW x)).1.1 (F.meet r.2 (r.1, y.2.2, dirsW x)).2 (F.meet r.2 (r.1, y.2.2, dirsW x)).1.2.2 else filE F s r.1 r.2 s.2.2.2.2.2.2.1) else filE F s r.1 r.2 s.2.2.2.2.2.2.1
def filW (g : Tup 43) (s : See) (ms : Int) (x : Hea) (y : Sky) : Tup 43 × See := if !s.2.1 then filR F s x y (F.move false (g, biasT g, ms)) else filR F s x y (F.move false (g, x.1.2.2, ms))
theorem filtered_fx (h : FsOk F) : PureOk Tryz.prog 14 (then' (cT 43) (then' cSee (then' cI (then' cHea (lone' cSky))))) (fun x => filW F x.1 x.2.1 x.2.2.1 x.2.2.2.1 x.2.2.2.2) (two' (cT 43) cSee) := pure_sx (tbl := [ctmove F h, ctmeet F h, ctdirections, ctspread F h]) (dirty := fun _ => []) (n := 4) xmixA Tryz.func14 rfl (fun x Post => by
    refine Eq.trans (b := ?m) ?x (Eq.symm ?y)
    case y => unfold filW filR filE; simp only [← vif_b (K := PJ (two' (cT 43) cSee) Post)]; exact rfl
    case x => kernel_rfl)
def ctfiltered (h : FsOk F) : Ct Tryz.prog := pureCt Tryz.prog 14 (then' (cT 43) (then' cSee (then' cI (then' cHea (lone' cSky))))) (fun x => filW F x.1 x.2.1 x.2.2.1 x.2.2.2.1 x.2.2.2.2) (two' (cT 43) cSee) (go_of Tryz.func14 (by kernel_rfl) (by kernel_rfl)) (filtered_fx F h)
def zero3 : Tup 3 := (0, 0, 0, ())
def coilW (c : Cra) : Tup 3 := if !decide (c.2.2.2.1.1 = 0) then zero3 else (F.dip false c.2.2.2.2.2.2.1).1
theorem coils_fx (h : FsOk F) : PureOk Tryz.prog 56 (lone' cCra) (fun x => coilW F x) (cT 3) := pure_sx (tbl := [ctdip F h]) (dirty := fun _ => []) (n := 4) xmixA Tryz.func56 rfl (fun x Post => by
    refine Eq.trans (b := ?m) ?x (Eq.symm ?y)
    case y => unfold coilW; simp only [← vif_b (K := PJ (cT 3) Post)]; exact rfl
    case x => kernel_rfl)
def ctcoils (h : FsOk F) : Ct Tryz.prog := pureCt Tryz.prog 56 (lone' cCra) (fun x => coilW F x) (cT 3) (go_of Tryz.func56 (by kernel_rfl) (by kernel_rfl)) (coils_fx F h)
def telT (c : Cra) (q : Tup 4 × Tup 3) : Tel := (c.2.1, c.2.2.2.1.1, c.2.2.2.1.2.2.2.2.2.1, c.2.2.2.2.2.2.2.2.1, c.2.2.2.2.2.2.2.2.2.1, c.2.2.2.2.2.2.2.2.2.2.1, q.1.1, q.1.2.1, q.1.2.2.1, q.1.2.2.2.1, q.2.1, q.2.2.1, q.2.2.2.1, ())
def noBytes : ByteArray := ⟨#[]⟩
def toldW (c : Cra) : ByteArray := if !(F.write (telT c (F.counts (q4T c.2.2.2.2.2.2.2.1, coilW F c)))).2 then noBytes else (F.wrap (F.write (telT c (F.counts (q4T c.2.2.2.2.2.2.2.1, coilW F c)))).1).1
theorem told_fx (h : FsOk F) : PureOk Tryz.prog 16 (lone' cCra) (fun x => toldW F x) cS := pure_sx (tbl := [ctcoils F h, ctcounts F h, ctwrite F h, ctwrap F h]) (dirty := fun _ => []) (n := 4) xmixA Tryz.func16 rfl (fun x Post => by
    refine Eq.trans (b := ?m) ?x (Eq.symm ?y)
    case y => unfold toldW; simp only [← vif_b (K := PJ cS Post)]; exact rfl
    case x => kernel_rfl)
def cttold (h : FsOk F) : Ct Tryz.prog := pureCt Tryz.prog 16 (lone' cCra) (fun x => toldW F x) cS (go_of Tryz.func16 (by kernel_rfl) (by kernel_rfl)) (told_fx F h)
/-- One more is rejected. -/
def rejC (c : Cra) : Cra := (c.1, c.2.1, c.2.2.1, c.2.2.2.1, c.2.2.2.2.1, c.2.2.2.2.2.1, c.2.2.2.2.2.2.1, c.2.2.2.2.2.2.2.1, (c.2.2.2.2.2.2.2.2.1, c.2.2.2.2.2.2.2.2.2.1, rejW c.2.2.2.2.2.2.2.2.2.2.1, ()))
def senW (c : Cra) (h : Hea) (f : Fra) (t : Int) : Cra × Hea :=
  if !(F.read f).2 then (rejC c, h) else if !(F.fresh ((F.read f).1, t)) then (rejC c, h) else if decide ((F.read f).1.1 = 1) then (c, ((F.read f).1, h.2.1, h.2.2.1, h.2.2.2)) else if decide ((F.read f).1.1 = 2) then (c, (h.1, (F.read f).1, h.2.2.1, h.2.2.2)) else if decide ((F.read f).1.1 = 3) then (c, (h.1, h.2.1, (F.read f).1, h.2.2.2)) else (c, h)
theorem hearSensor_fx (h : FsOk F) : PureOk Tryz.prog 38 (then' cCra (then' cHea (then' cFra (lone' cI)))) (fun x => senW F x.1 x.2.1 x.2.2.1 x.2.2.2) (two' cCra cHea) := pure_sx (tbl := [ctread F h, ctfresh F h, ctrejected]) (dirty := fun _ => []) (n := 4) xmixA Tryz.func38 rfl (fun x Post => by
    refine Eq.trans (b := ?m) ?x (Eq.symm ?y)
    case y => unfold senW; simp only [← vif_b (K := PJ (two' cCra cHea) Post)]; exact rfl
    case x => kernel_rfl)
def cthearSensor (h : FsOk F) : Ct Tryz.prog := pureCt Tryz.prog 38 (then' cCra (then' cHea (then' cFra (lone' cI)))) (fun x => senW F x.1 x.2.1 x.2.2.1 x.2.2.2) (two' cCra cHea) (go_of Tryz.func38 (by kernel_rfl) (by kernel_rfl)) (hearSensor_fx F h)
/-- An order's number and what is wrong with it are told. -/
def ackC (c : Cra) (q e : Int) : Cra := (c.1, c.2.1, c.2.2.1, c.2.2.2.1, c.2.2.2.2.1, c.2.2.2.2.2.1, c.2.2.2.2.2.2.1, c.2.2.2.2.2.2.2.1, (q, e, c.2.2.2.2.2.2.2.2.2.2.1, ()))
def orbC (c : Cra) (o : Tup 7) : Cra := (c.1, c.2.1, c.2.2.1, c.2.2.2.1, true, o, c.2.2.2.2.2.2.1, c.2.2.2.2.2.2.2.1, c.2.2.2.2.2.2.2.2)
def clrC (c : Cra) : Cra := (c.1, c.2.1, c.2.2.1, (c.2.2.2.1.1, c.2.2.2.1.2.1, c.2.2.2.1.2.2.1, c.2.2.2.1.2.2.2.1, c.2.2.2.1.2.2.2.2.1, 0, ()), c.2.2.2.2.1, c.2.2.2.2.2.1, c.2.2.2.2.2.2.1, c.2.2.2.2.2.2.2.1, (c.2.2.2.2.2.2.2.2.1, c.2.2.2.2.2.2.2.2.2.1, 0, ()))
def ordC (c : Cra) (h : Hea) (o : Tup 9 × Int) : Cra × Hea :=
  if !decide (o.2 = 0) then (rejC (ackC c o.1.1 o.2), h) else if decide (o.1.2.1 = 1) then (ackC c o.1.1 o.2, (h.1, h.2.1, h.2.2.1, o.1.2.1)) else if decide (o.1.2.1 = 2) then (ackC c o.1.1 o.2, (h.1, h.2.1, h.2.2.1, o.1.2.1)) else if decide (o.1.2.1 = 3) then (orbC (ackC c o.1.1 o.2) o.1.2.2, h) else if decide (o.1.2.1 = 4) then (clrC (ackC c o.1.1 o.2), h) else (ackC c o.1.1 o.2, h)
theorem hearGround_fx (h : FsOk F) : PureOk Tryz.prog 39 (then' cCra (then' cHea (lone' cFra))) (fun x => ordC x.1 x.2.1 (F.oread x.2.2)) (two' cCra cHea) := pure_sx (tbl := [ctoread F h, ctrejected]) (dirty := fun _ => []) (n := 4) xmixA Tryz.func39 rfl (fun x Post => by
    refine Eq.trans (b := ?m) ?x (Eq.symm ?y)
    case y => unfold ordC; simp only [← vif_b (K := PJ (two' cCra cHea) Post)]; exact rfl
    case x => kernel_rfl)
def cthearGround (h : FsOk F) : Ct Tryz.prog := pureCt Tryz.prog 39 (then' cCra (then' cHea (lone' cFra))) (fun x => ordC x.1 x.2.1 (F.oread x.2.2)) (two' cCra cHea) (go_of Tryz.func39 (by kernel_rfl) (by kernel_rfl)) (hearGround_fx F h)
end
end Go.Proofs.YtoadcnhcfodkgaaGreatDoor
