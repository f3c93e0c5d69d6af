/-
  mode.Next and clock.Right, the code's and the document's, are one function each, for the seat YtoadcnhcfodkgaaGreatDoor.
-/
import Derived.Test.YtoadcnhcfodkgaaGreatDoorYM
import Derived.Test.YtoadcnhcfodkgaaGreatDoorYR
import Derived.Test.YtoadcnhcfodkgaaGreatDoorDsN
import Derived.Test.YtoadcnhcfodkgaaGreatDoorNxOR
namespace Go.Proofs.YtoadcnhcfodkgaaGreatDoor
open Go.RowKit

def plA (p : Tup 6) : Pl := ⟨p.1, p.2.1, p.2.2.1, p.2.2.2.1, p.2.2.2.2.1, p.2.2.2.2.2.1⟩
def plB (p : Pl) : Tup 6 := (p.mode, p.calm, p.good, p.miss, p.lost, p.faults, ())
def snA (s : See) : Sn := ⟨s.1, s.2.1, s.2.2.1, s.2.2.2.1, s.2.2.2.2.1, s.2.2.2.2.2.1, s.2.2.2.2.2.2.1, s.2.2.2.2.2.2.2⟩
def nextA (x : Tup 6 × See) : Tup 6 := plB (nextW (plA x.1) (snA x.2))
theorem next_both : PureOk Tryz.prog 53 (then' (cT 6) (lone' cSee)) nextA (cT 6) ∧ PureOk Tryz.prog 29 (then' (cT 6) (lone' cSee)) nextA (cT 6) :=
  ⟨fun x w hw => next_fx (plA x.1, snA x.2) w hw, fun x w hw => rnext_fx (plA x.1, snA x.2) w hw⟩
theorem right_both : PureOk Tryz.prog 9 (lone' cI) Nx.tickW cB ∧ PureOk Tryz.prog 17 (lone' cI) Nx.tickW cB := ⟨Nx.kRight_ok, Nx.dTick_ok⟩
theorem nextA_ok {F : Fs} (h : F.next = nextA) : NextOk F := by
  refine ⟨fun p s b hm hg hb => ?_, fun p s hn hm => ?_⟩
  · obtain ⟨e, k⟩ := nextW_bad (p := plA p) (s := snA s) b hm hg hb
    rw [h]
    exact ⟨congrArg plB e, k⟩
  · rw [h] at hn
    exact nextW_pair (p := plA p) (s := snA s) hn hm
def fresA (x : Tup 5 × Int) : Bool := if x.1.2.1 > x.2 then false else decide (IntKind.u64.wrap (IntKind.u64.wrap x.2 - IntKind.u64.wrap x.1.2.1) ≤ 500)
def fresB (x : Tup 5 × Int) : Bool := if x.1.2.1 ≤ x.2 then decide (IntKind.u64.wrap (IntKind.u64.wrap x.2 - IntKind.u64.wrap x.1.2.1) ≤ 500) else false
theorem fres_is : fresB = fresA := by
  funext x
  unfold fresA fresB
  by_cases h : x.1.2.1 ≤ x.2
  · rw [if_pos h, if_neg (by omega)]
  · rw [if_neg h, if_pos (by omega)]
theorem fresA_ok : PureOk Tryz.prog 62 (then' (cT 5) (lone' cI)) fresA cB := pure_sx (tbl := []) (dirty := fun _ => []) (n := 4) xmixA Tryz.func62 rfl (fun x Post => by
    refine Eq.trans (b := ?m) ?x (Eq.symm ?y)
    case y => unfold fresA; simp only [← vif_gt (K := PJ cB Post)]; exact rfl
    case x => kernel_rfl)
theorem fresB_ok : PureOk Tryz.prog 115 (then' (cT 5) (lone' cI)) fresB cB := pure_sx (tbl := []) (dirty := fun _ => []) (n := 4) xmixA Tryz.func115 rfl (fun x Post => by
    refine Eq.trans (b := ?m) ?x (Eq.symm ?y)
    case y => unfold fresB; simp only [← vif_le (K := PJ cB Post)]; exact rfl
    case x => kernel_rfl)
theorem fresh_both : PureOk Tryz.prog 115 (then' (cT 5) (lone' cI)) fresA cB ∧ PureOk Tryz.prog 62 (then' (cT 5) (lone' cI)) fresA cB := ⟨fres_is ▸ fresB_ok, fresA_ok⟩
end Go.Proofs.YtoadcnhcfodkgaaGreatDoor
