/-
  Over names: triad, for the seat YtoadcnhcfodkgaaGreatDoor. (Made by mknx.py.)
-/
import Derived.Test.YtoadcnhcfodkgaaGreatDoorNxQ
namespace Go.Proofs.YtoadcnhcfodkgaaGreatDoor.Nx
open Go.RowKit Go.Proofs.YtoadcnhcfodkgaaGreatDoor

theorem dApart_pr : ∃ g, PrOk Tryz.prog (fun d => bif d then 24 else 136) [rI 3, rI 3] (unkB) 0 g := pair_of xmixA (tO_ok [pvParts]) (tC_ok (ks := [0]) rfl) rfl (xa := []) (xb := []) (da := fun _ => []) (db := fun _ => []) (n := 8) (kk := 0) (by decide +kernel)
def pdApart : Pr Tryz.prog := mkP 136 24 (by decide +kernel) (by decide +kernel) dApart_pr
abbrev prs_dAttitude : List (Pr Tryz.prog) := [pvParts, pvUnit, pMul, pSub, pAdd, pqUnit]
abbrev ks_dAttitude : List Nat := [0, 7, 2, 6, 1, 4]
abbrev xa_dAttitude : List Ent := [(136, true, 12, [rI 3, rI 3], unkB), (205, true, 12, [rI 3], rI 3), (270, true, 12, [rI 3, rI 3], rI 3), (253, true, 12, [rI 6], rI 9), (252, true, 12, [rI 9, rI 9], rI 9), (276, true, 12, [rI 9, uI], rI 4), (277, true, 12, [rI 9], rI 4), (278, true, 12, [rI 9], rI 4), (279, true, 12, [rI 9], rI 4), (251, true, 12, [rI 9], rI 4)]
abbrev xb_dAttitude : List Ent := [(24, true, 12, [rI 3, rI 3], unkB), (192, true, 12, [rI 3], rI 3), (191, true, 12, [rI 3, rI 3], rI 3), (106, true, 12, [rI 6], rI 9), (107, true, 12, [rI 9], rI 4)]
theorem dAttitude_1 : chkA Tryz.prog (tO prs_dAttitude) xa_dAttitude xb_dAttitude 167 30 (rI 4) = true := by decide +kernel
theorem dAttitude_2 : chkH Tryz.prog (tO prs_dAttitude) (tC prs_dAttitude ks_dAttitude) ks_dAttitude false xa_dAttitude xb_dAttitude (fun _ => []) (fun _ => []) 12 167 30 [rI 6, rI 6] (rI 4) 0 = true := by decide +kernel
theorem dAttitude_3 : chkH Tryz.prog (tO prs_dAttitude) (tC prs_dAttitude ks_dAttitude) ks_dAttitude true xb_dAttitude xa_dAttitude (fun _ => []) (fun _ => []) 12 30 167 [rI 6, rI 6] (rI 4) 0 = true := by decide +kernel
theorem dAttitude_4 : chkB Tryz.prog (tO prs_dAttitude) ks_dAttitude false xa_dAttitude (fun _ => []) 12 167 [rI 6, rI 6] (rI 4) 0 = true := by decide +kernel
theorem dAttitude_5 : chkB Tryz.prog (tO prs_dAttitude) ks_dAttitude true xb_dAttitude (fun _ => []) 12 30 [rI 6, rI 6] (rI 4) 0 = true := by decide +kernel
theorem dAttitude_pr : ∃ g, PrOk Tryz.prog (fun d => bif d then 30 else 167) [rI 6, rI 6] (rI 4) 0 g := pair_of xmixA (tO_ok _) (tC_ok rfl) rfl (chk_of rfl dAttitude_1 dAttitude_2 dAttitude_3 dAttitude_4 dAttitude_5)
def pdAttitude : Pr Tryz.prog := mkP 167 30 (by decide +kernel) (by decide +kernel) dAttitude_pr
end Go.Proofs.YtoadcnhcfodkgaaGreatDoor.Nx
