/-
  The field in the sky's axes, the code's and the document's: the same, for the seat YtoadcnhcfodkgaaGreatDoor.
-/
import Derived.Test.YtoadcnhcfodkgaaGreatDoorEaB
import Derived.Test.YtoadcnhcfodkgaaGreatDoorGEarthS
import Derived.Test.YtoadcnhcfodkgaaGreatDoorAgB
namespace Go.Proofs.YtoadcnhcfodkgaaGreatDoor.Nx
open Go.RowKit Go.Proofs.YtoadcnhcfodkgaaGreatDoor

theorem d3v (rest : List Value) (h : All2 (G2 []) [rI 3, uI] rest) : ∃ x, (then' cV3 (lone' cI)).enc x = rest := by
  match rest, h with
  | [a, b], ⟨ha, ⟨y, hb⟩, _⟩ =>
    obtain ⟨x, ex⟩ := cT_o 3 a ha
    refine ⟨((x.1, x.2.1, x.2.2.1), y), ?_⟩
    rw [hb, ← ex]
    rfl
theorem gEarth_ok : FlowOk Tryz.prog 133 (then' cV3 (lone' cI)) (fun bad x => earS bad x.1 x.2) cV3 := fun b bad x w hg hb hw => earth_any b bad x.1 x.2 w hw hg.1 hg.2 hb
theorem earS_zero (bad : Bool) (p : V3) (t : Int) (h : (earS bad p t).2 = true) : (earS bad p t).1 = (0, 0, 0) := by
  rcases earS_flag bad p t with e | ⟨_, _, e⟩
  · rw [e]
  · rw [e] at h
    cases h
theorem gEarth_pr : ∃ g, PrOk Tryz.prog (fun d => bif d then 78 else 133) [rI 3, uI] (rI 3) 5 g := by
  have key : ∀ rest : List Value, ∃ x : V3 × Int, All2 (G2 []) [rI 3, uI] rest → (then' cV3 (lone' cI)).enc x = rest := fun rest => by
    by_cases h : All2 (G2 []) [rI 3, uI] rest
    · obtain ⟨x, hx⟩ := d3v rest h
      exact ⟨x, fun _ => hx⟩
    · exact ⟨((0, 0, 0), 0), fun k => absurd k h⟩
  obtain ⟨pk, hpk⟩ : ∃ pk : List Value → V3 × Int, ∀ rest, All2 (G2 []) [rI 3, uI] rest → (then' cV3 (lone' cI)).enc (pk rest) = rest := ⟨fun rest => Classical.choose (key rest), fun rest h => Classical.choose_spec (key rest) h⟩
  refine ⟨fun _ b rest => (cV3.enc (earS b (pk rest).1 (pk rest).2).1, (earS b (pk rest).1 (pk rest).2).2), fun s b rest hc => ?_, fun rest hc => ⟨rfl, fun _ => rfl⟩, ⟨fun e => (by omega), fun e => (by omega), fun e => (by omega), fun e => (by omega)⟩, ⟨fun e => (by omega), fun e => (by omega), fun e => (by omega)⟩⟩
  · have hx := hpk rest hc
    dsimp only
    generalize pk rest = x at hx ⊢
    subst hx
    refine ⟨⟨fun _ => ⟨(then' cV3 (lone' cI)).np x, cV3.np _, fun k w hg h1 hw => ?_⟩, fun e => (by omega)⟩, fun e => ?_, ?_, fun e => (by omega), fun e => (by omega), fun _ e => ?_, fun e => (by omega)⟩
    · cases s
      · exact gEarth_ok k b x w hg h1 hw
      · exact rearth_ok k b x w hg h1 hw
    · rw [e, earS_true]
    · exact ⟨_, rfl, ⟨_, rfl⟩, ⟨_, rfl⟩, ⟨_, rfl⟩, trivial⟩
    · rw [earS_zero _ _ _ e]
      rfl
def pgEarth : Pr Tryz.prog := mkP 133 78 (by decide +kernel) (by decide +kernel) gEarth_pr
theorem gSky_pr : ∃ g, PrOk Tryz.prog (fun d => bif d then 22 else 44) [rI 3, uI] (rI 3) 0 g := pair_of xmixA (tO_ok [pkTurn, pgCos, pgSin, pMul, pAdd, pSub, pgEarth]) (tC_ok (ks := [0, 0, 0, 2, 1, 6, 5]) rfl) rfl (xa := []) (xb := []) (da := fun _ => []) (db := fun _ => []) (n := 8) (kk := 0) (by decide +kernel)
theorem sky_ag : ∃ f g, FlowOk Tryz.prog 44 (then' (cT 3) (lone' cI)) f (cT 3) ∧ FlowOk Tryz.prog 22 (then' (cT 3) (lone' cI)) g (cT 3) ∧ Ag f g :=
  ag_of gSky_pr (by decide) _ _ (fun x => ⟨cT_n 3 x.1, ⟨x.2, rfl⟩, trivial⟩) (cT_o 3)
end Go.Proofs.YtoadcnhcfodkgaaGreatDoor.Nx
