/-
  The document's automaton, by the symbolic run, for the seat YtoadcnhcfodkgaaGreatDoor.
-/
import Derived.Test.YtoadcnhcfodkgaaGreatDoorYM
namespace Go.Proofs.YtoadcnhcfodkgaaGreatDoor
open Go.RowKit

theorem rcount_fx : PureOk Tryz.prog 104 (lone' cI) (fun x => cntW x true) cI := pure_sx (tbl := []) (dirty := fun _ => []) (n := 4) mmix Tryz.func104 rfl (fun x Post => by
    refine Eq.trans (b := ?m) ?x (Eq.symm ?y)
    case y => unfold cntW; simp only [if_true, ← vif_le (K := PJ cI Post)]; exact rfl
    case x => kernel_rfl)
def ctrcount : Ct Tryz.prog := pureCt Tryz.prog 104 (lone' cI) (fun x => cntW x true) cI (go_of Tryz.func104 (by kernel_rfl) (by kernel_rfl)) rcount_fx
theorem rto_fx : PureOk Tryz.prog 103 (then' cI (lone' cI)) (fun x => (⟨x.1, 0, 0, 0, 0, x.2⟩ : Pl)) cPl := pure_sx (tbl := []) (dirty := fun _ => []) (n := 4) mmix Tryz.func103 rfl (fun x Post => by kernel_rfl)
def ctrto : Ct Tryz.prog := pureCt Tryz.prog 103 (then' cI (lone' cI)) (fun x => (⟨x.1, 0, 0, 0, 0, x.2⟩ : Pl)) cPl (go_of Tryz.func103 (by kernel_rfl) (by kernel_rfl)) rto_fx
def fineV (p : Pl) (s : Sn) : Pl := bif s.gap then failS 1 p else finW p s
set_option maxRecDepth 100000 in
theorem rfine_fx : PureOk Tryz.prog 105 (then' cPl (lone' cSn)) (fun x => fineV x.1 x.2) cPl := pure_sx (tbl := [ctrcount, ctrto]) (dirty := fun _ => []) (n := 4) mmix Tryz.func105 rfl (fun x Post => by
    obtain ⟨⟨M, c, g, i, l, f⟩, gap, gyro, slow, pair, lit, bad, pass, o⟩ := x
    cases gap
    case true => kernel_rfl
    cases bad
    case true => kernel_rfl
    cases gyro
    · cases pair
      · exact Eq.trans (b := vif (decide (3 ≤ cntW l true)) (PJ cPl Post (failS 2 ⟨M, c, g, i, l, f⟩)) (PJ cPl Post ⟨M, c, g, i, cntW l true, f⟩)) (by kernel_rfl) (vif_le (K := PJ cPl Post))
      cases lit
      · exact Eq.trans (b := vif (decide (3 ≤ cntW l true)) (PJ cPl Post (failS 2 ⟨M, c, g, i, l, f⟩)) (PJ cPl Post ⟨M, c, g, i, cntW l true, f⟩)) (by kernel_rfl) (vif_le (K := PJ cPl Post))
      cases pass
      · exact Eq.trans (b := vif (decide (3 ≤ cntW l true)) (PJ cPl Post (failS 2 ⟨M, c, g, i, l, f⟩)) (vif (decide (5 ≤ cntW i true)) (PJ cPl Post (failS 8 ⟨M, c, g, i, l, f⟩)) (PJ cPl Post ⟨M, c, g, cntW i true, cntW l true, f⟩))) (by kernel_rfl) (by rw [vif_le (K := PJ cPl Post), vif_le (K := PJ cPl Post)]; rfl)
      · exact Eq.trans (b := vif (decide (3 ≤ cntW l true)) (PJ cPl Post (failS 2 ⟨M, c, g, i, l, f⟩)) (PJ cPl Post ⟨M, c, g, 0, cntW l true, f⟩)) (by kernel_rfl) (vif_le (K := PJ cPl Post))
    · cases pair
      · kernel_rfl
      cases lit
      · kernel_rfl
      cases pass
      · exact Eq.trans (b := vif (decide (5 ≤ cntW i true)) (PJ cPl Post (failS 8 ⟨M, c, g, i, l, f⟩)) (PJ cPl Post ⟨M, c, g, cntW i true, 0, f⟩)) (by kernel_rfl) (vif_le (K := PJ cPl Post))
      · kernel_rfl)
def ctrfine : Ct Tryz.prog := pureCt Tryz.prog 105 (then' cPl (lone' cSn)) (fun x => fineV x.1 x.2) cPl (go_of Tryz.func105 (by kernel_rfl) (by kernel_rfl)) rfine_fx
set_option maxRecDepth 100000 in
theorem rnext_fx : PureOk Tryz.prog 29 (then' cPl (lone' cSn)) (fun x => nextW x.1 x.2) cPl := pure_sx (tbl := [ctrcount, ctrto, ctrfine]) (dirty := fun _ => []) (n := 4) mmix Tryz.func29 rfl (fun x Post => by
    obtain ⟨⟨M, c, g, i, l, f⟩, gap, gyro, slow, pair, lit, bad, pass, o⟩ := x
    refine Eq.trans (b := vif (decide (o = 1)) (PJ cPl Post (goS 3 ⟨M, c, g, i, l, f⟩)) (PJ cPl Post (nextV ⟨M, c, g, i, l, f⟩ ⟨gap, gyro, slow, pair, lit, bad, pass, o⟩))) ?x vif_eq
    rcases M with n | n
    · rcases n with _ | _ | _ | _ | n
      · cases gyro
        · show _ = _; kernel_rfl
        cases slow
        · show _ = _; kernel_rfl
        · refine Eq.trans (b := vif (decide (o = 1)) (PJ cPl Post (goS 3 ⟨0, c, g, i, l, f⟩)) (vif (decide (3 ≤ cntW c true)) (PJ cPl Post (goS 1 ⟨0, c, g, i, l, f⟩)) (PJ cPl Post ⟨0, cntW c true, g, i, l, f⟩))) ?z0 ?w0
          case z0 => show _ = _; kernel_rfl
          case w0 => rw [vif_le (K := PJ cPl Post)]; rfl
      · cases gap
        case true => show _ = _; kernel_rfl
        cases gyro
        · show _ = _; kernel_rfl
        cases slow
        · show _ = _; kernel_rfl
        cases pair
        · show _ = _; kernel_rfl
        cases lit
        · show _ = _; kernel_rfl
        · refine Eq.trans (b := vif (decide (o = 1)) (PJ cPl Post (goS 3 ⟨1, c, g, i, l, f⟩)) (vif (decide (2 ≤ cntW g true)) (PJ cPl Post (goS 2 ⟨1, c, g, i, l, f⟩)) (PJ cPl Post ⟨1, c, cntW g true, i, l, f⟩))) ?z1 ?w1
          case z1 => show _ = _; kernel_rfl
          case w1 => rw [vif_le (K := PJ cPl Post)]; rfl
      · show _ = _; kernel_rfl
      · refine Eq.trans (b := vif (decide (o = 1)) (PJ cPl Post (goS 3 ⟨3, c, g, i, l, f⟩)) (vif (decide (o = 2)) (PJ cPl Post ⟨0, 0, 0, 0, 0, 0⟩) (PJ cPl Post ⟨3, c, g, i, l, f⟩))) ?z ?w
        case z => show _ = _; kernel_rfl
        case w => rw [vif_eq (K := PJ cPl Post)]; rfl
      · show _ = _; kernel_rfl
    · show _ = _; kernel_rfl)
def ctrnext : Ct Tryz.prog := pureCt Tryz.prog 29 (then' cPl (lone' cSn)) (fun x => nextW x.1 x.2) cPl (go_of Tryz.func29 (by kernel_rfl) (by kernel_rfl)) rnext_fx
end Go.Proofs.YtoadcnhcfodkgaaGreatDoor
