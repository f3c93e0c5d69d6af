/-
  Apart, the code's and the document's, is one function, for the seat YtoadcnhcfodkgaaGreatDoor.
-/
import Derived.Test.YtoadcnhcfodkgaaGreatDoorAgB
import Derived.Test.YtoadcnhcfodkgaaGreatDoorApB
namespace Go.Proofs.YtoadcnhcfodkgaaGreatDoor.Nx
open Go.RowKit Go.Proofs.YtoadcnhcfodkgaaGreatDoor

theorem callsOk_of {P : Program} {f : Nat} {A R : Type} {d : Dl A} {c : Dc R} {g : Bool → A → R × Bool} (h : FlowOk P f d g c) (bad : Bool) (x : A) : CallsOk P f bad (d.enc x) (c.enc (g bad x).1) (g bad x).2 :=
  ⟨fun u hu => d.np x u hu, c.np _, fun k w hg hk hf => h k bad x w hg hk hf⟩
/-- Where both answer z in a bad flow, both are the same. -/
theorem same_z {P : Program} {a b : Nat} {sa : List Value} {sr : Value} {kind : Nat} (h : ∃ g, PrOk P (fun d => bif d then b else a) sa sr kind g) (hk : kind ≠ 8) {A R : Type} {d : Dl A} {c : Dc R} (hd : ∀ x, All2 (G2 []) sa (d.enc x)) (ia : P.inits.idxOf? a = none) (ib : P.inits.idxOf? b = none)
    {z : R} {f g : Bool → A → R × Bool} (hf : FlowOk P a d f c) (fz : ∀ bad x, (f bad x).2 = true → (f bad x).1 = z) (hg : FlowOk P b d g c) (gz : ∀ bad x, (g bad x).2 = true → (g bad x).1 = z) : FlowOk P b d f c := by
  obtain ⟨G, h1, h2, _⟩ := h
  have key : ∀ bad x, c.enc (g bad x).1 = c.enc (f bad x).1 ∧ (g bad x).2 = (f bad x).2 := by
    intro bad x
    obtain ⟨a1, a2⟩ := CallsOk.det ia ((h1 false bad _ (hd x)).1.1 hk) (callsOk_of hf bad x)
    obtain ⟨b1, b2⟩ := CallsOk.det ib ((h1 true bad _ (hd x)).1.1 hk) (callsOk_of hg bad x)
    have fl : (g bad x).2 = (f bad x).2 := by
      rw [← a2, ← b2]
      cases bad
      · exact (h2 _ (hd x)).1.symm
      · rw [(h1 true true _ (hd x)).2.1 rfl, (h1 false true _ (hd x)).2.1 rfl]
    refine ⟨?_, fl⟩
    cases e : (f bad x).2
    · cases bad
      · rw [← a1, ← b1]
        exact ((h2 _ (hd x)).2 (a2.trans e)).symm
      · have := (h1 false true _ (hd x)).2.1 rfl
        rw [a2, e] at this
        cases this
    · rw [fz bad x e, gz bad x (fl.trans e)]
  intro k bad x w hw h1k hfl
  have := hg k bad x w hw h1k hfl
  rw [(key bad x).1, (key bad x).2] at this
  exact this
def zApF (g : Bool → Tup 3 × Tup 3 → (Int × Int) × Bool) (bad : Bool) (x : Tup 3 × Tup 3) : Bool × Bool := if !(g bad x).2 then (decide ((g bad x).1.1 ≥ 190928190487), (g bad x).2) else (false, (g bad x).2)
theorem zApart_fx (g : Bool → Tup 3 × Tup 3 → (Int × Int) × Bool) (h : FlowOk Tryz.prog 80 (then' (cT 3) (lone' (cT 3))) g (two' cI cI)) : FlowOk Tryz.prog 24 (then' (cT 3) (lone' (cT 3))) (zApF g) cB :=
  flow_sx (tbl := [flowCt Tryz.prog 80 _ g _ (go_of Tryz.func80 (by kernel_rfl) (by kernel_rfl)) h]) (dirty := fun _ => []) (n := 4) xmixA Tryz.func24 rfl (fun bad x Post => by
    refine Eq.trans (b := ?m) ?x (Eq.symm ?y)
    case y => unfold zApF; simp only [← vif_b (K := PK cB Post)]; exact rfl
    case x => kernel_rfl)
theorem ii_o (v : Value) (h : G2 [] (.tuple ⟨[uI, uI]⟩) v) : ∃ y, (two' cI cI).enc y = v := by
  obtain ⟨l, rfl, gl⟩ := h
  match l, gl with
  | [a, b], ⟨⟨x, ea⟩, ⟨y, eb⟩, _⟩ =>
    rw [ea, eb]
    exact ⟨(x, y), rfl⟩
def apF (bad : Bool) (x : Tup 3 × Tup 3) : Bool × Bool := apA bad (x.1.1, x.1.2.1, x.1.2.2.1) (x.2.1, x.2.2.1, x.2.2.2.1)
theorem apF_fx : FlowOk Tryz.prog 136 (then' (cT 3) (lone' (cT 3))) apF cB := fun k bad x w hg h1 hf => apartA_fx k bad ((x.1.1, x.1.2.1, x.1.2.2.1), (x.2.1, x.2.2.1, x.2.2.2.1)) w hg h1 hf
theorem apart_ag : FlowOk Tryz.prog 136 (then' (cT 3) (lone' (cT 3))) apF cB ∧ FlowOk Tryz.prog 24 (then' (cT 3) (lone' (cT 3))) apF cB := by
  obtain ⟨_, g, _, hg, _⟩ := ag_of vParts_pr (by decide) (then' (cT 3) (lone' (cT 3))) (two' cI cI) (fun x => ⟨cT_n 3 x.1, cT_n 3 x.2, trivial⟩) ii_o
  refine ⟨apF_fx, same_z (d := then' (cT 3) (lone' (cT 3))) (c := cB) dApart_pr (by decide) (fun x => ⟨cT_n 3 x.1, cT_n 3 x.2, trivial⟩) (by kernel_rfl) (by kernel_rfl) apF_fx (z := false) (fun bad x h => ap_false h) (zApart_fx g hg) (fun bad x h => ?_)⟩
  unfold zApF at h ⊢
  split at h
  · rename_i e
    dsimp only at h
    rw [h] at e
    cases e
  · rename_i e
    rw [if_neg e]
end Go.Proofs.YtoadcnhcfodkgaaGreatDoor.Nx
