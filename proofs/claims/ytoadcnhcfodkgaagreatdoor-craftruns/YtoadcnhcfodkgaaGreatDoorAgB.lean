/-
  The pairs that a craft's step reaches, as functions that agree, for the seat YtoadcnhcfodkgaaGreatDoor. No Go text in sight.
-/
import Derived.Test.YtoadcnhcfodkgaaGreatDoorAgA
import Derived.Test.YtoadcnhcfodkgaaGreatDoorNxS
import Derived.Test.YtoadcnhcfodkgaaGreatDoorNxMe
import Derived.Test.YtoadcnhcfodkgaaGreatDoorNxMo
import Derived.Test.YtoadcnhcfodkgaaGreatDoorNxG3
import Derived.Test.YtoadcnhcfodkgaaGreatDoorNxG2
namespace Go.Proofs.YtoadcnhcfodkgaaGreatDoor.Nx
open Go.RowKit Go.Proofs.YtoadcnhcfodkgaaGreatDoor

theorem tEnc_n : ∀ (n : Nat) (x : Tup n), All2 (G0 []) (List.replicate n uI) (tEnc n x)
  | 0, _ => trivial
  | n + 1, x => ⟨⟨x.1, rfl⟩, tEnc_n n x.2⟩
theorem tEnc_o : ∀ (n : Nat) (l : List Value), All2 (G0 []) (List.replicate n uI) l → ∃ x : Tup n, tEnc n x = l
  | 0, [], _ => ⟨(), rfl⟩
  | n + 1, v :: l, ⟨⟨x, e⟩, h⟩ => by
    obtain ⟨y, rfl⟩ := tEnc_o n l h
    rw [e]
    exact ⟨(x, y), rfl⟩
theorem cT_n (n : Nat) (x : Tup n) : G2 [] (rI n) ((cT n).enc x) := ⟨tEnc n x, rfl, tEnc_n n x⟩
theorem cT_o (n : Nat) (v : Value) (h : G2 [] (rI n) v) : ∃ y, (cT n).enc y = v := by
  obtain ⟨l, rfl, gl⟩ := h
  obtain ⟨x, rfl⟩ := tEnc_o n l gl
  exact ⟨x, rfl⟩
theorem cT_o1 (n : Nat) (v : Value) (h : G1 [] (rI n) v) : ∃ y, (cT n).enc y = v := by
  obtain ⟨l, rfl, gl⟩ := h
  obtain ⟨x, rfl⟩ := tEnc_o n l gl
  exact ⟨x, rfl⟩
theorem cI_o (v : Value) (h : G2 [] uI v) : ∃ y, cI.enc y = v := by
  obtain ⟨x, rfl⟩ := h
  exact ⟨x, rfl⟩
theorem cB_o (v : Value) (h : G2 [] unkB v) : ∃ y, cB.enc y = v := by
  obtain ⟨x, rfl⟩ := h
  exact ⟨x, rfl⟩
theorem meet_o (v : Value) (h : G2 [] (.tuple ⟨[rI 43, uI, unkB]⟩) v) : ∃ y, (three' (cT 43) cI cB).enc y = v := by
  obtain ⟨l, rfl, gl⟩ := h
  match l, gl with
  | [a, b, c], ⟨ga, ⟨x, eb⟩, ⟨y, ec⟩, _⟩ =>
    obtain ⟨z, ez⟩ := cT_o1 43 a ga
    rw [eb, ec, ← ez]
    exact ⟨(z, x, y), rfl⟩
theorem place_ag : ∃ f g, FlowOk Tryz.prog 42 (then' (cT 7) (lone' cI)) f (cT 3) ∧ FlowOk Tryz.prog 20 (then' (cT 7) (lone' cI)) g (cT 3) ∧ Ag f g :=
  ag_of oPlace_pr (by decide) _ _ (fun x => ⟨cT_n 7 x.1, ⟨x.2, rfl⟩, trivial⟩) (cT_o 3)
theorem dir_ag : ∃ f g, FlowOk Tryz.prog 43 (lone' cI) f (cT 3) ∧ FlowOk Tryz.prog 21 (lone' cI) g (cT 3) ∧ Ag f g :=
  ag_of sDir_pr (by decide) _ _ (fun x => ⟨⟨x, rfl⟩, trivial⟩) (cT_o 3)
theorem norm_ag : ∃ f g, FlowOk Tryz.prog 46 (lone' (cT 3)) f cI ∧ FlowOk Tryz.prog 23 (lone' (cT 3)) g cI ∧ Ag f g :=
  ag_of vNorm_pr (by decide) _ _ (fun x => ⟨cT_n 3 x, trivial⟩) cI_o
theorem shaded_ag : ∃ f, FlowOk Tryz.prog 48 (then' (cT 3) (lone' (cT 3))) f cB ∧ FlowOk Tryz.prog 25 (then' (cT 3) (lone' (cT 3))) f cB :=
  same_of sShaded_pr _ _ (fun x => ⟨cT_n 3 x.1, cT_n 3 x.2, trivial⟩) cB_o
theorem move_ag : ∃ f g, FlowOk Tryz.prog 49 (then' (cT 43) (then' (cT 3) (lone' cI))) f (cT 43) ∧ FlowOk Tryz.prog 26 (then' (cT 43) (then' (cT 3) (lone' cI))) g (cT 43) ∧ Ag f g :=
  ag_of mMove_pr (by decide) _ _ (fun x => ⟨cT_n 43 x.1, cT_n 3 x.2.1, ⟨x.2.2, rfl⟩, trivial⟩) (cT_o 43)
theorem meet_ag : ∃ f g, FlowOk Tryz.prog 50 (then' (cT 43) (then' (cT 6) (lone' (cT 6)))) f (three' (cT 43) cI cB) ∧ FlowOk Tryz.prog 27 (then' (cT 43) (then' (cT 6) (lone' (cT 6)))) g (three' (cT 43) cI cB) ∧ Ag f g :=
  ag_of mMeet_pr (by decide) _ _ (fun x => ⟨cT_n 43 x.1, cT_n 6 x.2.1, cT_n 6 x.2.2, trivial⟩) meet_o
theorem spread_ag : ∃ f g, FlowOk Tryz.prog 52 (lone' (cT 43)) f cI ∧ FlowOk Tryz.prog 28 (lone' (cT 43)) g cI ∧ Ag f g :=
  ag_of mSpread_pr (by decide) _ _ (fun x => ⟨cT_n 43 x, trivial⟩) cI_o
theorem att_ag : ∃ f g, FlowOk Tryz.prog 167 (then' (cT 6) (lone' (cT 6))) f (cT 4) ∧ FlowOk Tryz.prog 30 (then' (cT 6) (lone' (cT 6))) g (cT 4) ∧ Ag f g :=
  ag_of dAttitude_pr (by decide) _ _ (fun x => ⟨cT_n 6 x.1, cT_n 6 x.2, trivial⟩) (cT_o 4)
end Go.Proofs.YtoadcnhcfodkgaaGreatDoor.Nx
