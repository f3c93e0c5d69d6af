/-
  Proved: of whatever list of what is decided in steps, one behind the other (the first 500 of them), from the zero plan on, mode.Next answers what the reference answers; modes are 0 to 3, faults 0 to 15. No conditions.
-/
import Derived.Test.YtocnaflhedccpaaWModeRuns
import Derived.Test.YtocnaflhedccpaaMdRow
import Derived.Deep.Slices
import Derived.ChangeSlices
import Derived.Carry
import Derived.WalkKit
import Derived.ProofKit
import Derived.OpenShut
import Derived.ChangeOld
import Derived.Below
namespace Go.Proofs.Ytocnaflhedccpaa
open Go.ChangeShapes Go.WideShapes Go.ChangeAt Go.RowKit

theorem ModeRuns_own : ownKnob Try.prog.godebug = none := by kernel_rfl
theorem laid_out : laidOutB Try.prog = true := by kernel_rfl
theorem add_none (b o n : Nat) : (⟨b, o, none⟩ : Addr).add n = ⟨b, o + n, none⟩ := by
  unfold Addr.add
  by_cases h : n = 0
  · subst h; rfl
  · rw [if_neg h]
section
variable {H : Type} {enc : TypeId × Value → H} {w : World} {base : Nat} {spare : Nat → Bool} {held : Bool}
theorem open_seens {fuel : Nat} {cs : List Value} {x : DataW H × List MemPlace} (h : DataW.trod enc Try.prog w base (fun _ => true) held fuel 29 cs = some x) :
    cs = [.slice none 0 0] ∨ ∃ (a : Addr) (len cap : Nat) (L : Nat → Sn), cs = [.slice (some a) len cap] ∧ len ≤ maxLen ∧ ∀ i, i < len → w.cell? (a.add (i * 8)) = some (.bool (L i).gap) ∧ w.cell? (a.add (i * 8 + 1)) = some (.bool (L i).gyro) ∧ w.cell? (a.add (i * 8 + 2)) = some (.bool (L i).slow) ∧ w.cell? (a.add (i * 8 + 3)) = some (.bool (L i).pair) ∧ w.cell? (a.add (i * 8 + 4)) = some (.bool (L i).lit) ∧ w.cell? (a.add (i * 8 + 5)) = some (.bool (L i).bad) ∧ w.cell? (a.add (i * 8 + 6)) = some (.bool (L i).pass) ∧ w.cell? (a.add (i * 8 + 7)) = some (.int .i64 (L i).order) := by
  rcases Go.Deep.open_slice Try.underlying29 h with ⟨h0, _⟩ | ⟨a, len, cap, m, n, D, Pl, rfl, hb, hl, hm, hmm, rfl, hx⟩
  · exact Or.inl h0
  · right
    rw [if_pos rfl] at hmm
    have each : ∀ i, i < len → ∃ v : Sn, w.cell? (a.add (i * 8)) = some (.bool (v).gap) ∧ w.cell? (a.add (i * 8 + 1)) = some (.bool (v).gyro) ∧ w.cell? (a.add (i * 8 + 2)) = some (.bool (v).slow) ∧ w.cell? (a.add (i * 8 + 3)) = some (.bool (v).pair) ∧ w.cell? (a.add (i * 8 + 4)) = some (.bool (v).lit) ∧ w.cell? (a.add (i * 8 + 5)) = some (.bool (v).bad) ∧ w.cell? (a.add (i * 8 + 6)) = some (.bool (v).pass) ∧ w.cell? (a.add (i * 8 + 7)) = some (.int .i64 (v).order) := by
      intro i hi
      obtain ⟨cs', h1, h2⟩ := hx i (by omega)
      rw [aseen_cells] at h1
      obtain ⟨_, hlen, hcell⟩ := World.cells?_some h1
      match cs', hlen with
      | [c0, c1, c2, c3, c4, c5, c6, c7], _ =>
        obtain ⟨v, rfl, rfl, rfl, rfl, rfl, rfl, rfl, rfl, _, _⟩ := trod_aseen h2
        have g0 := hcell 0 (by omega)
        have g1 := hcell 1 (by omega)
        have g2 := hcell 2 (by omega)
        have g3 := hcell 3 (by omega)
        have g4 := hcell 4 (by omega)
        have g5 := hcell 5 (by omega)
        have g6 := hcell 6 (by omega)
        have g7 := hcell 7 (by omega)
        rw [Go.Deep.add_add] at g0 g1 g2 g3 g4 g5 g6 g7
        exact ⟨v, g0, g1, g2, g3, g4, g5, g6, g7⟩
    have inh : Inhabited Sn := ⟨goodS⟩
    obtain ⟨L, hL⟩ := Go.Deep.choose_lt each
    exact ⟨a, len, cap, L, rfl, by omega, hL⟩
end
/-- The walk, of whatever list. -/
theorem ModeRuns_any (ao : Option Addr) (len cap : Nat) (W : World) (hm : len ≤ maxLen) (hL : ∃ L : Nat → Sn, ∀ a, 0 < len → ao = some a → ∀ i, i < len → W.cell? (a.add (i * 8)) = some (.bool (L i).gap) ∧ W.cell? (a.add (i * 8 + 1)) = some (.bool (L i).gyro) ∧ W.cell? (a.add (i * 8 + 2)) = some (.bool (L i).slow) ∧ W.cell? (a.add (i * 8 + 3)) = some (.bool (L i).pair) ∧ W.cell? (a.add (i * 8 + 4)) = some (.bool (L i).lit) ∧ W.cell? (a.add (i * 8 + 5)) = some (.bool (L i).bad) ∧ W.cell? (a.add (i * 8 + 6)) = some (.bool (L i).pass) ∧ W.cell? (a.add (i * 8 + 7)) = some (.int .i64 (L i).order)) (ha : 0 < len → ∃ a, ao = some a) :
    Calls Try.prog 4 #[.slice ao len cap] W fun e w' => e = .returned (.bool true) ∧ Below W.heap.size W w' := by
  unfold maxLen at hm
  by_cases h0 : len = 0
  · subst h0
    exact runs_none ao cap W
  obtain ⟨⟨B, o, sp⟩, rfl⟩ := ha (by omega)
  obtain ⟨L, hL⟩ := hL
  have hL := hL _ (by omega) rfl
  have s0 := (hL 0 (by omega)).1
  obtain rfl : sp = none := by simpa [Addr.add] using World.cell?_spot s0
  have hB : B < W.heap.size := by simpa [Addr.add] using World.block_lt_of_cell? _ _ s0
  simp only [add_none] at hL
  exact runs_walk B o len cap L W (by omega) hB (fun i hi => (hL i hi).1) (fun i hi => (hL i hi).2.1) (fun i hi => (hL i hi).2.2.1) (fun i hi => (hL i hi).2.2.2.1) (fun i hi => (hL i hi).2.2.2.2.1) (fun i hi => (hL i hi).2.2.2.2.2.1) (fun i hi => (hL i hi).2.2.2.2.2.2.1) (fun i hi => (hL i hi).2.2.2.2.2.2.2)

set_option maxRecDepth 100000 in
theorem ModeRuns_lifted (os : Os) (started : os.Started) (H : Type) (enc : TypeId × Value → H) :
    ReturnsInHanded {} Try.checked os 4 .any (Rows.modeRunsSpec.pre6 enc Try.prog Try.f4 Rows.modeRunsRow.domain false) (Rows.modeRunsSpec.post enc Try.prog Try.f4 false true false false) := by
  refine returnsInHanded_of_change (C := Try.checked) ModeRuns_own started (by kernel_rfl) Try.func4
    (ChangeSpec.witness6 (enc := enc) (C := Try.checked) false ⟨#[], #[.slice none 0 0], []⟩ 8 (by kernel_rfl) (by kernel_rfl) (by kernel_rfl) (by kernel_rfl)) ?_
  intro W base args ds gs before hval0 hW hcnd _
  have hval : ∀ (j : Nat) t v, Try.f4.params[j]? = some t → args[j]? = some v → Value.okWide Try.prog W .any base t v := hval0
  have hW' := hW
  obtain ⟨p, q, hA0, hV, rfl, hfz, hnd⟩ := hW
  have hA : DataW.TrodAll enc Try.prog W 0 (fun _ => true) true Try.f4.params.toList args.toList ds p := hA0
  rw [Try.params4] at hA hval
  obtain ⟨v0, vs0, d0, ds0, p0, q0, hargs, rfl, rfl, h0, r0⟩ := trodAll_cons hA
  obtain ⟨rfl, rfl, rfl⟩ := trodAll_nil r0
  obtain rfl : args = #[v0] := by cases args; simp_all
  obtain ⟨rfl, rfl⟩ := trodVars_none hV
  obtain ⟨ao, len, cap, rfl⟩ := okWide_slice Try.underlying29 (hval 0 29 v0 rfl rfl)
  have h0k := h0
  clear hA0 hval0
  have hlt0 : ∀ x ∈ p0, x.block < W.heap.size := fun x hx => by simpa using hW'.lt x (by simp [hx])
  have wk : Calls Try.prog 4 #[.slice ao len cap] W fun e w' => e = .returned (.bool true) ∧ Below W.heap.size W w' := by
    obtain ⟨fuel, hf⟩ := h0
    have a1 : len ≤ maxLen ∧ (∃ L : Nat → Sn, ∀ a, 0 < len → ao = some a → ∀ i, i < len → W.cell? (a.add (i * 8)) = some (.bool (L i).gap) ∧ W.cell? (a.add (i * 8 + 1)) = some (.bool (L i).gyro) ∧ W.cell? (a.add (i * 8 + 2)) = some (.bool (L i).slow) ∧ W.cell? (a.add (i * 8 + 3)) = some (.bool (L i).pair) ∧ W.cell? (a.add (i * 8 + 4)) = some (.bool (L i).lit) ∧ W.cell? (a.add (i * 8 + 5)) = some (.bool (L i).bad) ∧ W.cell? (a.add (i * 8 + 6)) = some (.bool (L i).pass) ∧ W.cell? (a.add (i * 8 + 7)) = some (.int .i64 (L i).order)) ∧ (0 < len → ∃ a, ao = some a) := by
      rcases open_seens hf with e | ⟨a, l', c', L, e, hm, hL⟩
      · simp [Value.cells] at e
        obtain ⟨rfl, rfl, rfl⟩ := e
        exact ⟨Nat.zero_le _, ⟨fun _ => goodS, fun a h => absurd h (by omega)⟩, fun h => absurd h (by omega)⟩
      · simp [Value.cells] at e
        obtain ⟨rfl, rfl, rfl⟩ := e
        exact ⟨hm, ⟨L, fun b _ hb => by cases hb; exact hL⟩, fun _ => ⟨a, rfl⟩⟩
    exact ModeRuns_any ao len cap W a1.1 a1.2.1 a1.2.2
  refine wk.mono fun e W' ⟨he, bel⟩ => ?_
  subst he
  exact ⟨_, rfl, _, _, _, [], _, [], hW', trodAll_mk1 (shut_bool Try.underlying4 _), (trodAll_cons_mk (Below.trod laid_out (by kernel_rfl) (of_decide_eq_true (by kernel_rfl)) h0k bel hlt0) trodAll_mk0), rfl, bel.frame _, fun h => by cases h⟩

theorem ModeRuns_holds : Rows.ModeRunsSaid :=
  OpenClaim.holds_of_wide 4 Try.f4 rfl rfl rfl rfl rfl rfl rfl ⟨rfl, rfl, rfl, rfl, rfl⟩ rfl rfl rfl rfl rfl (by kernel_rfl) Try.func4 (by kernel_rfl)
    (of_decide_eq_true (by kernel_rfl)) (by unfold Func.isWrapper; first | (rw [if_pos (by decide +kernel)]; kernel_rfl) | (rw [if_neg (by decide +kernel)]; exact ⟨rfl, rfl⟩))
    (fun os started H enc _ => ModeRuns_lifted os started H enc)
#print axioms ModeRuns_holds
end Go.Proofs.Ytocnaflhedccpaa
