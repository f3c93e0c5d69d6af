/-
  Crafts and what is heard, as tuples; the lesser functions of package craft, by the symbolic run, for the seat YtoadcnhcfodkgaaGreatDoor.
-/
import Derived.Test.YtoadcnhcfodkgaaGreatDoorAxP
namespace Go.Proofs.YtoadcnhcfodkgaaGreatDoor
open Go.RowKit

/-- A Drift: On, and Tick, Last, Rate. -/
abbrev Dri := Bool × Tup 7
abbrev dDri : Dl Dri := dcat 1 (lone' cB) (dT 7)
/-- A craft: On, Tick, Left, Plan, Placed, Orbit, Drift, Guess, and Ack, Err, Rejects. -/
abbrev Cra := Bool × Int × ByteArray × Tup 6 × Bool × Tup 7 × Dri × Tup 43 × Tup 3
abbrev dCra : Dl Cra := then' cB (then' cI (then' cS (dcat 6 (dT 6) (then' cB (dcat 7 (dT 7) (dcat 8 dDri (dcat 43 (dT 43) (dT 3))))))))
abbrev cCra : Dc Cra := cAgg dCra
abbrev cDri : Dc Dri := cAgg dDri
/-- What is heard: gyro, sun, mag (Kind, Tick, V each), and the order. -/
abbrev cHea : Dc (Tup 5 × Tup 5 × Tup 5 × Int) := cAgg (dcat 5 (dT 5) (dcat 5 (dT 5) (dcat 5 (dT 5) (lone' cI))))
/-- The sky: known, the place, the sun and the field. -/
abbrev cSky : Dc (Bool × Tup 3 × Tup 6) := cAgg (then' cB (dcat 3 (dT 3) (dT 6)))
/-- What is decided: Gap, Gyro, Slow, Pair, Lit, Bad, Pass, Order. -/
abbrev cSee : Dc (Bool × Bool × Bool × Bool × Bool × Bool × Bool × Int) := cAgg (then' cB (then' cB (then' cB (then' cB (then' cB (then' cB (then' cB (lone' cI))))))))
def rejW (n : Int) : Int := if n ≥ 65535 then 65535 else IntKind.i64.wrap (n + 1)
theorem rejected_fx : PureOk Tryz.prog 37 (lone' cI) (fun x => rejW x) cI := pure_sx (tbl := []) (dirty := fun _ => []) (n := 4) xmixA Tryz.func37 rfl (fun x Post => by
    refine Eq.trans (b := ?m) ?x (Eq.symm ?y)
    case y => unfold rejW; simp only [← vif_le (K := PJ cI Post)]; exact rfl
    case x => kernel_rfl)
def ctrejected : Ct Tryz.prog := pureCt Tryz.prog 37 (lone' cI) (fun x => rejW x) cI (go_of Tryz.func37 (by kernel_rfl) (by kernel_rfl)) rejected_fx
theorem there_fx : PureOk Tryz.prog 40 (lone' (cT 5)) (fun x => !decide (x.1 = 0)) cB := pure_sx (tbl := []) (dirty := fun _ => []) (n := 4) xmixA Tryz.func40 rfl (fun x Post => by kernel_rfl)
def ctthere : Ct Tryz.prog := pureCt Tryz.prog 40 (lone' (cT 5)) (fun x => !decide (x.1 = 0)) cB (go_of Tryz.func40 (by kernel_rfl) (by kernel_rfl)) there_fx
def goesW (c : Cra) (tick : Int) : Bool := let ms := IntKind.u64.wrap (IntKind.u64.wrap tick - IntKind.u64.wrap c.2.1); if c.1 then (if 10 ≤ ms then decide (ms ≤ 10000) else false) else false
theorem goesOn_fx : PureOk Tryz.prog 45 (then' cCra (lone' cI)) (fun x => goesW x.1 x.2) cB := pure_sx (tbl := []) (dirty := fun _ => []) (n := 4) xmixA Tryz.func45 rfl (fun x Post => by
    refine Eq.trans (b := ?m) ?x (Eq.symm ?y)
    case y => unfold goesW; simp only [← vif_b (K := PJ cB Post), ← vif_le (K := PJ cB Post)]; exact rfl
    case x => kernel_rfl)
end Go.Proofs.YtoadcnhcfodkgaaGreatDoor
