/-
  Over names: filter, meetings, for the seat YtoadcnhcfodkgaaGreatDoor. (Made by mknx.py.)
-/
import Derived.Test.YtoadcnhcfodkgaaGreatDoorNxT
import Derived.Test.YtoadcnhcfodkgaaGreatDoorNxP
import Derived.Test.YtoadcnhcfodkgaaGreatDoorNxQ
import Derived.Test.YtoadcnhcfodkgaaGreatDoorNxO
namespace Go.Proofs.YtoadcnhcfodkgaaGreatDoor.Nx
open Go.RowKit Go.Proofs.YtoadcnhcfodkgaaGreatDoor

abbrev prs_mMeet : List (Pr Tryz.prog) := [pmPoints, pvUnit, pvAdd, pqFromRod, pqMul, pqTurn, pqUnit, pPart, pAdd, pSub, pMul, paRoot, paSolve]
abbrev ks_mMeet : List Nat := [0, 7, 0, 0, 0, 0, 4, 3, 1, 6, 2, 0, 0] ++ famK
abbrev xa_mMeet : List Ent := [(229, false, 16, [rI 6], .tuple ⟨[rI 3, rI 3]⟩), (155, false, 16, [rI 6], rI 6), (237, false, 16, [], uI), (154, true, 16, [rI 6, rI 6], rI 6), (145, true, 16, [rI 78, rI 6], rI 78), (150, true, 16, [rI 36, uI, uI], rI 36), (153, true, 16, [rI 6], rI 6), (228, true, 16, [rI 43, rI 78], rI 52), (152, true, 16, [rI 43, rI 78, rI 6], rI 78), (241, true, 16, [(.int .i64 6)], (.bool true)), (245, true, 16, [rI 6, rI 6, (.int .i64 6)], uI), (246, true, 16, [rI 6], rI 6), (157, true, 16, [rI 36, rI 6, (.int .i64 6)], rI 6), (248, true, 16, [rI 36], rI 36), (148, true, 16, [rI 4, rI 6], rI 4), (149, true, 16, [rI 3, rI 6], rI 3), (159, true, 16, [rI 43, rI 36, rI 36, rI 6], rI 43)]
abbrev xb_mMeet : List Ent := [(95, false, 16, [rI 6], rI 3), (85, false, 16, [rI 6], rI 3), (88, true, 16, [rI 43, rI 6], rI 4), (93, true, 16, [rI 78, rI 6], rI 78), (98, false, 16, [rI 3, rI 3], rI 6), (195, true, 16, [(.int .i64 6)], (.bool false)), (102, true, 16, [rI 36, rI 6, (.int .i64 6)], rI 6)]
theorem mMeet_1 : chkA Tryz.prog (tOf 13 prs_mMeet) xa_mMeet xb_mMeet 50 27 (.tuple ⟨[rI 43, uI, unkB]⟩) = true := by decide +kernel
theorem mMeet_2 : chkH Tryz.prog (tOf 13 prs_mMeet) (tCf 13 prs_mMeet ks_mMeet) ks_mMeet false xa_mMeet xb_mMeet (fun _ => []) (fun _ => []) 16 50 27 [rI 43, rI 6, rI 6] (.tuple ⟨[rI 43, uI, unkB]⟩) 0 = true := by decide +kernel
theorem mMeet_3 : chkH Tryz.prog (tOf 13 prs_mMeet) (tCf 13 prs_mMeet ks_mMeet) ks_mMeet true xb_mMeet xa_mMeet (fun _ => []) (fun _ => []) 16 27 50 [rI 43, rI 6, rI 6] (.tuple ⟨[rI 43, uI, unkB]⟩) 0 = true := by decide +kernel
theorem mMeet_4 : chkB Tryz.prog (tOf 13 prs_mMeet) ks_mMeet false xa_mMeet (fun _ => []) 16 50 [rI 43, rI 6, rI 6] (.tuple ⟨[rI 43, uI, unkB]⟩) 0 = true := by decide +kernel
theorem mMeet_5 : chkB Tryz.prog (tOf 13 prs_mMeet) ks_mMeet true xb_mMeet (fun _ => []) 16 27 [rI 43, rI 6, rI 6] (.tuple ⟨[rI 43, uI, unkB]⟩) 0 = true := by decide +kernel
theorem mMeet_pr : ∃ g, PrOk Tryz.prog (fun d => bif d then 27 else 50) [rI 43, rI 6, rI 6] (.tuple ⟨[rI 43, uI, unkB]⟩) 0 g := pair_of xmixA (prs := prs_mMeet ++ famP) (ks := [0, 7, 0, 0, 0, 0, 4, 3, 1, 6, 2, 0, 0] ++ famK) (ro := tOf 13 prs_mMeet) (rc := tCf 13 prs_mMeet ([0, 7, 0, 0, 0, 0, 4, 3, 1, 6, 2, 0, 0] ++ famK)) (tOf_ok (l := prs_mMeet) rfl) (tCf_ok (l := prs_mMeet) (kl := [0, 7, 0, 0, 0, 0, 4, 3, 1, 6, 2, 0, 0]) rfl rfl) (fam_ks (l := prs_mMeet) (kl := [0, 7, 0, 0, 0, 0, 4, 3, 1, 6, 2, 0, 0]) rfl) (chk_of rfl mMeet_1 mMeet_2 mMeet_3 mMeet_4 mMeet_5)
def pmMeet : Pr Tryz.prog := mkP 50 27 (by decide +kernel) (by decide +kernel) mMeet_pr
end Go.Proofs.YtoadcnhcfodkgaaGreatDoor.Nx
