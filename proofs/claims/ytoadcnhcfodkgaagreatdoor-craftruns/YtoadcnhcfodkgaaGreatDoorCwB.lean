/-
  Functions of other packages, as functions of what they are handed, and what package craft makes of them, by the symbolic run, for the seat YtoadcnhcfodkgaaGreatDoor.
-/
import Derived.Test.YtoadcnhcfodkgaaGreatDoorCwA
namespace Go.Proofs.YtoadcnhcfodkgaaGreatDoor
open Go.RowKit

abbrev Hea := Tup 5 × Tup 5 × Tup 5 × Int
abbrev Sky := Bool × Tup 3 × Tup 6
abbrev See := Bool × Bool × Bool × Bool × Bool × Bool × Bool × Int
/-- A frame: Kind, Data. -/
abbrev Fra := Int × ByteArray
abbrev cFra : Dc Fra := cAgg (then' cI (lone' cS))
/-- What is told: Tick, Mode, Faults, Ack, Err, Rejects, Q, Dipole. -/
abbrev Tel := Tup 13
/-- What functions of lower packages answer: of each a function of whether the flow was bad, and of what it is handed. -/
structure Fs where
  right : Int → Bool
  place : Bool → Tup 7 × Int → Tup 3 × Bool
  dir : Bool → Int → Tup 3 × Bool
  sky : Bool → Tup 3 × Int → Tup 3 × Bool
  norm : Bool → Tup 3 → Int × Bool
  apart : Bool → Tup 3 × Tup 3 → Bool × Bool
  shaded : Bool → Tup 3 × Tup 3 → Bool × Bool
  move : Bool → Tup 43 × Tup 3 × Int → Tup 43 × Bool
  meet : Bool → Tup 43 × Tup 6 × Tup 6 → (Tup 43 × Int × Bool) × Bool
  spread : Bool → Tup 43 → Int × Bool
  att : Bool → Tup 6 × Tup 6 → Tup 4 × Bool
  start : Tup 4 → Tup 43
  bstep : Bool → Dri × Tup 3 × Int → Dri × Bool
  dip : Bool → Dri → Tup 3 × Bool
  next : Tup 6 × See → Tup 6
  counts : Tup 4 × Tup 3 → Tup 4 × Tup 3
  write : Tel → Fra × Bool
  wrap : Fra → ByteArray × Bool
  read : Fra → Tup 5 × Bool
  fresh : Tup 5 × Int → Bool
  oread : Fra → Tup 9 × Int
/-- They do. -/
structure FsOk (F : Fs) : Prop where
  right : PureOk Tryz.prog 9 (lone' cI) F.right cB
  place : FlowOk Tryz.prog 42 (then' (cT 7) (lone' cI)) F.place (cT 3)
  dir : FlowOk Tryz.prog 43 (lone' cI) F.dir (cT 3)
  sky : FlowOk Tryz.prog 44 (then' (cT 3) (lone' cI)) F.sky (cT 3)
  norm : FlowOk Tryz.prog 46 (lone' (cT 3)) F.norm cI
  apart : FlowOk Tryz.prog 136 (then' (cT 3) (lone' (cT 3))) F.apart cB
  shaded : FlowOk Tryz.prog 48 (then' (cT 3) (lone' (cT 3))) F.shaded cB
  move : FlowOk Tryz.prog 49 (then' (cT 43) (then' (cT 3) (lone' cI))) F.move (cT 43)
  meet : FlowOk Tryz.prog 50 (then' (cT 43) (then' (cT 6) (lone' (cT 6)))) F.meet (three' (cT 43) cI cB)
  spread : FlowOk Tryz.prog 52 (lone' (cT 43)) F.spread cI
  att : FlowOk Tryz.prog 167 (then' (cT 6) (lone' (cT 6))) F.att (cT 4)
  start : PureOk Tryz.prog 166 (lone' (cT 4)) F.start (cT 43)
  bstep : FlowOk Tryz.prog 41 (then' cDri (then' (cT 3) (lone' cI))) F.bstep cDri
  dip : FlowOk Tryz.prog 169 (lone' cDri) F.dip (cT 3)
  next : PureOk Tryz.prog 53 (then' (cT 6) (lone' cSee)) F.next (cT 6)
  counts : PureOk Tryz.prog 55 (then' (cT 4) (lone' (cT 3))) F.counts (two' (cT 4) (cT 3))
  write : PureOk Tryz.prog 57 (lone' (cT 13)) F.write (two' cFra cB)
  wrap : PureOk Tryz.prog 58 (lone' cFra) F.wrap (two' cS cB)
  read : PureOk Tryz.prog 114 (lone' cFra) F.read (two' (cT 5) cB)
  fresh : PureOk Tryz.prog 115 (then' (cT 5) (lone' cI)) F.fresh cB
  oread : PureOk Tryz.prog 116 (lone' cFra) F.oread (two' (cT 9) cI)
def ctright (F : Fs) (h : FsOk F) : Ct Tryz.prog := pureCt Tryz.prog 9 _ F.right _ (go_of Tryz.func9 (by kernel_rfl) (by kernel_rfl)) h.right
def ctplace (F : Fs) (h : FsOk F) : Ct Tryz.prog := flowCt Tryz.prog 42 _ F.place _ (go_of Tryz.func42 (by kernel_rfl) (by kernel_rfl)) h.place
def ctdir (F : Fs) (h : FsOk F) : Ct Tryz.prog := flowCt Tryz.prog 43 _ F.dir _ (go_of Tryz.func43 (by kernel_rfl) (by kernel_rfl)) h.dir
def ctsky (F : Fs) (h : FsOk F) : Ct Tryz.prog := flowCt Tryz.prog 44 _ F.sky _ (go_of Tryz.func44 (by kernel_rfl) (by kernel_rfl)) h.sky
def ctnorm (F : Fs) (h : FsOk F) : Ct Tryz.prog := flowCt Tryz.prog 46 _ F.norm _ (go_of Tryz.func46 (by kernel_rfl) (by kernel_rfl)) h.norm
def ctapart (F : Fs) (h : FsOk F) : Ct Tryz.prog := flowCt Tryz.prog 136 _ F.apart _ (go_of Tryz.func136 (by kernel_rfl) (by kernel_rfl)) h.apart
def ctshaded (F : Fs) (h : FsOk F) : Ct Tryz.prog := flowCt Tryz.prog 48 _ F.shaded _ (go_of Tryz.func48 (by kernel_rfl) (by kernel_rfl)) h.shaded
def ctmove (F : Fs) (h : FsOk F) : Ct Tryz.prog := flowCt Tryz.prog 49 _ F.move _ (go_of Tryz.func49 (by kernel_rfl) (by kernel_rfl)) h.move
def ctmeet (F : Fs) (h : FsOk F) : Ct Tryz.prog := flowCt Tryz.prog 50 _ F.meet _ (go_of Tryz.func50 (by kernel_rfl) (by kernel_rfl)) h.meet
def ctspread (F : Fs) (h : FsOk F) : Ct Tryz.prog := flowCt Tryz.prog 52 _ F.spread _ (go_of Tryz.func52 (by kernel_rfl) (by kernel_rfl)) h.spread
def ctatt (F : Fs) (h : FsOk F) : Ct Tryz.prog := flowCt Tryz.prog 167 _ F.att _ (go_of Tryz.func167 (by kernel_rfl) (by kernel_rfl)) h.att
def ctstart (F : Fs) (h : FsOk F) : Ct Tryz.prog := pureCt Tryz.prog 166 _ F.start _ (go_of Tryz.func166 (by kernel_rfl) (by kernel_rfl)) h.start
def ctbstep (F : Fs) (h : FsOk F) : Ct Tryz.prog := flowCt Tryz.prog 41 _ F.bstep _ (go_of Tryz.func41 (by kernel_rfl) (by kernel_rfl)) h.bstep
def ctdip (F : Fs) (h : FsOk F) : Ct Tryz.prog := flowCt Tryz.prog 169 _ F.dip _ (go_of Tryz.func169 (by kernel_rfl) (by kernel_rfl)) h.dip
def ctnext (F : Fs) (h : FsOk F) : Ct Tryz.prog := pureCt Tryz.prog 53 _ F.next _ (go_of Tryz.func53 (by kernel_rfl) (by kernel_rfl)) h.next
def ctcounts (F : Fs) (h : FsOk F) : Ct Tryz.prog := pureCt Tryz.prog 55 _ F.counts _ (go_of Tryz.func55 (by kernel_rfl) (by kernel_rfl)) h.counts
def ctwrite (F : Fs) (h : FsOk F) : Ct Tryz.prog := pureCt Tryz.prog 57 _ F.write _ (go_of Tryz.func57 (by kernel_rfl) (by kernel_rfl)) h.write
def ctwrap (F : Fs) (h : FsOk F) : Ct Tryz.prog := pureCt Tryz.prog 58 _ F.wrap _ (go_of Tryz.func58 (by kernel_rfl) (by kernel_rfl)) h.wrap
def ctread (F : Fs) (h : FsOk F) : Ct Tryz.prog := pureCt Tryz.prog 114 _ F.read _ (go_of Tryz.func114 (by kernel_rfl) (by kernel_rfl)) h.read
def ctfresh (F : Fs) (h : FsOk F) : Ct Tryz.prog := pureCt Tryz.prog 115 _ F.fresh _ (go_of Tryz.func115 (by kernel_rfl) (by kernel_rfl)) h.fresh
def ctoread (F : Fs) (h : FsOk F) : Ct Tryz.prog := pureCt Tryz.prog 116 _ F.oread _ (go_of Tryz.func116 (by kernel_rfl) (by kernel_rfl)) h.oread
def ctgoesOn : Ct Tryz.prog := pureCt Tryz.prog 45 (then' cCra (lone' cI)) (fun x => goesW x.1 x.2) cB (go_of Tryz.func45 (by kernel_rfl) (by kernel_rfl)) goesOn_fx
section
variable (F : Fs)
/-- Two directions as one row. -/
def pairT (a b : Tup 3) : Tup 6 := (a.1, a.2.1, a.2.2.1, b.1, b.2.1, b.2.2.1, ())
def fstT (a : Tup 6) : Tup 3 := (a.1, a.2.1, a.2.2.1, ())
def sndT (a : Tup 6) : Tup 3 := (a.2.2.2.1, a.2.2.2.2.1, a.2.2.2.2.2.1, ())
def dirsW (x : Hea) : Tup 6 := pairT x.2.1.2.2 x.2.2.1.2.2
theorem directions_fx : PureOk Tryz.prog 51 (lone' cHea) (fun x => dirsW x) (cT 6) := pure_sx (tbl := []) (dirty := fun _ => []) (n := 4) xmixA Tryz.func51 rfl (fun x Post => by kernel_rfl)
def ctdirections : Ct Tryz.prog := pureCt Tryz.prog 51 (lone' cHea) (fun x => dirsW x) (cT 6) (go_of Tryz.func51 (by kernel_rfl) (by kernel_rfl)) directions_fx
def driftW (d : Dri) (x : Hea) : Dri := if !(!decide (x.2.2.1.1 = 0)) then d else (F.bstep false (d, x.2.2.1.2.2, x.2.2.1.2.1)).1
theorem drifted_fx (h : FsOk F) : PureOk Tryz.prog 11 (then' cDri (lone' cHea)) (fun x => driftW F x.1 x.2) cDri := pure_sx (tbl := [ctthere, ctbstep F h]) (dirty := fun _ => []) (n := 4) xmixA Tryz.func11 rfl (fun x Post => by
    refine Eq.trans (b := ?m) ?x (Eq.symm ?y)
    case y => unfold driftW; simp only [← vif_b (K := PJ cDri Post)]; exact rfl
    case x => kernel_rfl)
def ctdrifted (h : FsOk F) : Ct Tryz.prog := pureCt Tryz.prog 11 (then' cDri (lone' cHea)) (fun x => driftW F x.1 x.2) cDri (go_of Tryz.func11 (by kernel_rfl) (by kernel_rfl)) (drifted_fx F h)
def zeroSky : Sky := (false, (0, 0, 0, ()), (0, 0, 0, 0, 0, 0, ()))
def skyW (c : Cra) (t : Int) : Sky :=
  if !c.2.2.2.2.1 then zeroSky else
  if (F.sky (F.dir (F.place false (c.2.2.2.2.2.1, t)).2 t).2 ((F.place false (c.2.2.2.2.2.1, t)).1, t)).2 then zeroSky else
  (true, (F.place false (c.2.2.2.2.2.1, t)).1, pairT (F.dir (F.place false (c.2.2.2.2.2.1, t)).2 t).1 (F.sky (F.dir (F.place false (c.2.2.2.2.2.1, t)).2 t).2 ((F.place false (c.2.2.2.2.2.1, t)).1, t)).1)
theorem skyAt_fx (h : FsOk F) : PureOk Tryz.prog 12 (then' cCra (lone' cI)) (fun x => skyW F x.1 x.2) cSky := pure_sx (tbl := [ctplace F h, ctdir F h, ctsky F h]) (dirty := fun _ => []) (n := 4) xmixA Tryz.func12 rfl (fun x Post => by
    refine Eq.trans (b := ?m) ?x (Eq.symm ?y)
    case y => unfold skyW; simp only [← vif_b (K := PJ cSky Post)]; exact rfl
    case x => kernel_rfl)
def ctskyAt (h : FsOk F) : Ct Tryz.prog := pureCt Tryz.prog 12 (then' cCra (lone' cI)) (fun x => skyW F x.1 x.2) cSky (go_of Tryz.func12 (by kernel_rfl) (by kernel_rfl)) (skyAt_fx F h)
def standW (x : Hea) (s : Sky) : Bool :=
  if !s.1 then false else if !(!decide (x.2.1.1 = 0)) then false else if !(!decide (x.2.2.1.1 = 0)) then false else
  if (F.apart false (fstT s.2.2, sndT s.2.2)).1 then (F.apart (F.apart false (fstT s.2.2, sndT s.2.2)).2 (fstT (dirsW x), sndT (dirsW x))).1 else false
theorem standsWell_fx (h : FsOk F) : PureOk Tryz.prog 47 (then' cHea (lone' cSky)) (fun x => standW F x.1 x.2) cB := pure_sx (tbl := [ctthere, ctdirections, ctapart F h]) (dirty := fun _ => []) (n := 4) xmixA Tryz.func47 rfl (fun x Post => by
    refine Eq.trans (b := ?m) ?x (Eq.symm ?y)
    case y => unfold standW; simp only [← vif_b (K := PJ cB Post)]; exact rfl
    case x => kernel_rfl)
def ctstandsWell (h : FsOk F) : Ct Tryz.prog := pureCt Tryz.prog 47 (then' cHea (lone' cSky)) (fun x => standW F x.1 x.2) cB (go_of Tryz.func47 (by kernel_rfl) (by kernel_rfl)) (standsWell_fx F h)
/-- What is decided, but for what the filter says. -/
def decW (c : Cra) (t : Int) (x : Hea) (s : Sky) : See :=
  if !decide (x.1.1 = 0) then
    (if s.1 then (!goesW c t, !decide (x.1.1 = 0), decide ((F.norm false x.1.2.2).1 ≤ 54975581388), standW F x s, !(F.shaded false (s.2.1, fstT s.2.2)).1, false, false, x.2.2.2)
    else (!goesW c t, !decide (x.1.1 = 0), decide ((F.norm false x.1.2.2).1 ≤ 54975581388), standW F x s, false, false, false, x.2.2.2))
  else
    (if s.1 then (!goesW c t, !decide (x.1.1 = 0), false, standW F x s, !(F.shaded false (s.2.1, fstT s.2.2)).1, false, false, x.2.2.2)
    else (!goesW c t, !decide (x.1.1 = 0), false, standW F x s, false, false, false, x.2.2.2))
theorem decided_fx (h : FsOk F) : PureOk Tryz.prog 13 (then' cCra (then' cI (then' cHea (lone' cSky)))) (fun x => decW F x.1 x.2.1 x.2.2.1 x.2.2.2) cSee := pure_sx (tbl := [ctgoesOn, ctthere, ctnorm F h, ctstandsWell F h, ctshaded F h]) (dirty := fun _ => []) (n := 4) xmixA Tryz.func13 rfl (fun x Post => by
    refine Eq.trans (b := ?m) ?x (Eq.symm ?y)
    case y => unfold decW; simp only [← vif_b (K := PJ cSee Post)]; exact rfl
    case x => kernel_rfl)
def ctdecided (h : FsOk F) : Ct Tryz.prog := pureCt Tryz.prog 13 (then' cCra (then' cI (then' cHea (lone' cSky)))) (fun x => decW F x.1 x.2.1 x.2.2.1 x.2.2.2) cSee (go_of Tryz.func13 (by kernel_rfl) (by kernel_rfl)) (decided_fx F h)
def or4W (x : Int) : Int := IntKind.i64.wrap ((BitVec.ofInt IntKind.i64.bits x ||| BitVec.ofInt IntKind.i64.bits 4).toNat)
def zeroG : Tup 43 := (0, 0, 0, 0, 0, 0, 0, 0, 0, 0, 0, 0, 0, 0, 0, 0, 0, 0, 0, 0, 0, 0, 0, 0, 0, 0, 0, 0, 0, 0, 0, 0, 0, 0, 0, 0, 0, 0, 0, 0, 0, 0, 0, ())
def entW (p : Tup 6) (a b : Tup 6) : Tup 6 × Tup 43 := if (F.att false (a, b)).2 then ((1, 0, 0, 0, 0, or4W p.2.2.2.2.2.1, ()), zeroG) else (p, F.start (F.att false (a, b)).1)
theorem entered_fx (h : FsOk F) : PureOk Tryz.prog 54 (then' (cT 6) (then' (cT 6) (lone' (cT 6)))) (fun x => entW F x.1 x.2.1 x.2.2) (two' (cT 6) (cT 43)) := pure_sx (tbl := [ctatt F h, ctstart F h]) (dirty := fun _ => []) (n := 4) xmixA Tryz.func54 rfl (fun x Post => by
    refine Eq.trans (b := ?m) ?x (Eq.symm ?y)
    case y => unfold entW; simp only [← vif_b (K := PJ (two' (cT 6) (cT 43)) Post)]; exact rfl
    case x => kernel_rfl)
def ctentered (h : FsOk F) : Ct Tryz.prog := pureCt Tryz.prog 54 (then' (cT 6) (then' (cT 6) (lone' (cT 6)))) (fun x => entW F x.1 x.2.1 x.2.2) (two' (cT 6) (cT 43)) (go_of Tryz.func54 (by kernel_rfl) (by kernel_rfl)) (entered_fx F h)
def planW (c : Cra) (s : See) (x : Hea) (y : Sky) : Tup 6 × Tup 43 :=
  if !decide ((F.next (c.2.2.2.1, s)).1 = 2) then (F.next (c.2.2.2.1, s), zeroG) else if decide (c.2.2.2.1.1 = 2) then (F.next (c.2.2.2.1, s), c.2.2.2.2.2.2.2.1) else entW F (F.next (c.2.2.2.1, s)) y.2.2 (dirsW x)
theorem planned_fx (h : FsOk F) : PureOk Tryz.prog 15 (then' cCra (then' cSee (then' cHea (lone' cSky)))) (fun x => planW F x.1 x.2.1 x.2.2.1 x.2.2.2) (two' (cT 6) (cT 43)) := pure_sx (tbl := [ctnext F h, ctdirections, ctentered F h]) (dirty := fun _ => []) (n := 4) xmixA Tryz.func15 rfl (fun x Post => by
    refine Eq.trans (b := ?m) ?x (Eq.symm ?y)
    case y => unfold planW; simp only [← vif_b (K := PJ (two' (cT 6) (cT 43)) Post)]; exact rfl
    case x => kernel_rfl)
def ctplanned (h : FsOk F) : Ct Tryz.prog := pureCt Tryz.prog 15 (then' cCra (then' cSee (then' cHea (lone' cSky)))) (fun x => planW F x.1 x.2.1 x.2.2.1 x.2.2.2) (two' (cT 6) (cT 43)) (go_of Tryz.func15 (by kernel_rfl) (by kernel_rfl)) (planned_fx F h)
end
end Go.Proofs.YtoadcnhcfodkgaaGreatDoor
