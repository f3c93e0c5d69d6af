/-
  Over names: filter, moves, for the seat YtoadcnhcfodkgaaGreatDoor. (Made by mknx.py.)
-/
import Derived.Test.YtoadcnhcfodkgaaGreatDoorNxT
import Derived.Test.YtoadcnhcfodkgaaGreatDoorNxP
import Derived.Test.YtoadcnhcfodkgaaGreatDoorNxQ
namespace Go.Proofs.YtoadcnhcfodkgaaGreatDoor.Nx
open Go.RowKit Go.Proofs.YtoadcnhcfodkgaaGreatDoor

abbrev prs_mMove : List (Pr Tryz.prog) := [pmPoints, pvSub, pqFromRod, pqMul, pPart, pqUnit, pqToRod, pvAdd, pAdd, pSub]
abbrev ks_mMove : List Nat := [0, 0, 0, 0, 3, 4, 0, 0, 1, 6] ++ famK
abbrev xa_mMove : List Ent := [(229, false, 16, [rI 6], .tuple ⟨[rI 3, rI 3]⟩), (155, false, 16, [rI 6], rI 6), (237, false, 16, [], uI), (154, true, 16, [rI 6, rI 6], rI 6), (145, true, 16, [rI 78, rI 6], rI 78), (150, true, 16, [rI 36, uI, uI], rI 36), (228, true, 16, [rI 43, rI 78], rI 52), (141, true, 16, [rI 43, rI 78, rI 3, uI], rI 52), (273, false, 16, [uI], uI), (235, false, 16, [rI 4], rI 4), (143, true, 16, [rI 4, rI 52, rI 78], rI 78), (148, true, 16, [rI 4, rI 6], rI 4), (149, true, 16, [rI 3, rI 6], rI 3), (147, true, 16, [rI 43], rI 43)]
abbrev xb_mMove : List Ent := [(95, false, 16, [rI 6], rI 3), (85, false, 16, [rI 6], rI 3), (88, true, 16, [rI 43, rI 6], rI 4), (93, true, 16, [rI 78, rI 6], rI 78), (91, false, 16, [rI 4], rI 4)]
theorem mMove_1 : chkA Tryz.prog (tOf 10 prs_mMove) xa_mMove xb_mMove 49 26 (rI 43) = true := by decide +kernel
theorem mMove_2 : chkH Tryz.prog (tOf 10 prs_mMove) (tCf 10 prs_mMove ks_mMove) ks_mMove false xa_mMove xb_mMove (fun _ => []) (fun _ => []) 16 49 26 [rI 43, rI 3, uI] (rI 43) 0 = true := by decide +kernel
theorem mMove_3 : chkH Tryz.prog (tOf 10 prs_mMove) (tCf 10 prs_mMove ks_mMove) ks_mMove true xb_mMove xa_mMove (fun _ => []) (fun _ => []) 16 26 49 [rI 43, rI 3, uI] (rI 43) 0 = true := by decide +kernel
theorem mMove_4 : chkB Tryz.prog (tOf 10 prs_mMove) ks_mMove false xa_mMove (fun _ => []) 16 49 [rI 43, rI 3, uI] (rI 43) 0 = true := by decide +kernel
theorem mMove_5 : chkB Tryz.prog (tOf 10 prs_mMove) ks_mMove true xb_mMove (fun _ => []) 16 26 [rI 43, rI 3, uI] (rI 43) 0 = true := by decide +kernel
theorem mMove_pr : ∃ g, PrOk Tryz.prog (fun d => bif d then 26 else 49) [rI 43, rI 3, uI] (rI 43) 0 g := pair_of xmixA (prs := prs_mMove ++ famP) (ks := [0, 0, 0, 0, 3, 4, 0, 0, 1, 6] ++ famK) (ro := tOf 10 prs_mMove) (rc := tCf 10 prs_mMove ([0, 0, 0, 0, 3, 4, 0, 0, 1, 6] ++ famK)) (tOf_ok (l := prs_mMove) rfl) (tCf_ok (l := prs_mMove) (kl := [0, 0, 0, 0, 3, 4, 0, 0, 1, 6]) rfl rfl) (fam_ks (l := prs_mMove) (kl := [0, 0, 0, 0, 3, 4, 0, 0, 1, 6]) rfl) (chk_of rfl mMove_1 mMove_2 mMove_3 mMove_4 mMove_5)
def pmMove : Pr Tryz.prog := mkP 49 26 (by decide +kernel) (by decide +kernel) mMove_pr
end Go.Proofs.YtoadcnhcfodkgaaGreatDoor.Nx
