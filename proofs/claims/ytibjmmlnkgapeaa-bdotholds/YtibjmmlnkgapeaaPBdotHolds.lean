/-
  Proved: of up to 100 fields, one behind the other, whose parts are up to 200, each 10 to 10000 milliseconds behind the one before it (of longer lists, or where a part is greater, nothing is said), no part of the Rate that bdot.Step keeps is above the greatest change in a second that was seen (but for 4096 last bits, as the law has it), and the flow stays good.
-/
import Derived.Test.YtibjmmlnkgapeaaWBdotHolds
import Derived.Test.YtibjmmlnkgapeaaRows
import Derived.Test.YtibjmmlnkgapeaaVRow
import Derived.Deep.Slices
import Derived.ChangeSlices
import Derived.Carry
import Derived.WalkKit
import Derived.ProofKit
import Derived.OpenShut
import Derived.ChangeOld
import Derived.Below
namespace Go.Proofs.Ytibjmmlnkgapeaa
open Go.ChangeShapes Go.WideShapes Go.ChangeAt Go.RowKit

theorem BdotHolds_own : ownKnob Try.prog.godebug = none := by kernel_rfl
theorem laid_out : laidOutB Try.prog = true := by kernel_rfl
theorem int_cells : Try.prog.cellsOf 3 = 1 := by kernel_rfl
theorem add_none (b o n : Nat) : (⟨b, o, none⟩ : Addr).add n = ⟨b, o + n, none⟩ := by
  unfold Addr.add
  by_cases h : n = 0
  · subst h; rfl
  · rw [if_neg h]
section
variable {H : Type} {enc : TypeId × Value → H} {w : World} {base : Nat} {spare : Nat → Bool} {held : Bool}
theorem open_vecs {fuel : Nat} {cs : List Value} {x : DataW H × List MemPlace} (h : DataW.trod enc Try.prog w base (fun _ => true) held fuel 39 cs = some x) :
    cs = [.slice none 0 0] ∨ ∃ (a : Addr) (len cap : Nat) (L : Nat → V3), cs = [.slice (some a) len cap] ∧ len ≤ maxLen ∧
      ∀ i, i < len → w.cell? (a.add (i * 3)) = some (.int .i64 (L i).1) ∧ w.cell? (a.add (i * 3 + 1)) = some (.int .i64 (L i).2.1) ∧ w.cell? (a.add (i * 3 + 2)) = some (.int .i64 (L i).2.2) := by
  rcases Go.Deep.open_slice Try.underlying39 h with ⟨h0, _⟩ | ⟨a, len, cap, m, n, D, Pl, rfl, hb, hl, hm, hmm, rfl, hx⟩
  · exact Or.inl h0
  · right
    rw [if_pos rfl] at hmm
    have each : ∀ i, i < len → ∃ v : V3, w.cell? (a.add (i * 3)) = some (.int .i64 v.1) ∧ w.cell? (a.add (i * 3 + 1)) = some (.int .i64 v.2.1) ∧ w.cell? (a.add (i * 3 + 2)) = some (.int .i64 v.2.2) := by
      intro i hi
      obtain ⟨cs', h1, h2⟩ := hx i (by omega)
      rw [vec_cells] at h1
      obtain ⟨_, hlen, hcell⟩ := World.cells?_some h1
      match cs', hlen with
      | [c0, c1, c2], _ =>
        obtain ⟨y0, y1, y2, k, _, hy0, hy1, hy2⟩ := trod_array3 Try.underlying23 int64_cells h2
        obtain ⟨x0, e0, _, _⟩ := DataW.trod_int Try.underlying2 hy0
        obtain ⟨x1, e1, _, _⟩ := DataW.trod_int Try.underlying2 hy1
        obtain ⟨x2, e2, _, _⟩ := DataW.trod_int Try.underlying2 hy2
        simp at e0 e1 e2
        subst e0 e1 e2
        have g0 := hcell 0 (by omega)
        have g1 := hcell 1 (by omega)
        have g2 := hcell 2 (by omega)
        rw [Go.Deep.add_add] at g0 g1 g2
        exact ⟨(x0, x1, x2), g0, g1, g2⟩
    obtain ⟨L, hL⟩ := Go.Deep.choose_lt each
    exact ⟨a, len, cap, L, rfl, by omega, hL⟩
theorem open_gaps {fuel : Nat} {cs : List Value} {x : DataW H × List MemPlace} (h : DataW.trod enc Try.prog w base (fun _ => true) held fuel 40 cs = some x) :
    cs = [.slice none 0 0] ∨ ∃ (a : Addr) (len cap : Nat) (G : Nat → Int), cs = [.slice (some a) len cap] ∧ len ≤ maxLen ∧ ∀ i, i < len → w.cell? (a.add i) = some (.int .i64 (G i)) := by
  rcases open_ints Try.underlying40 Try.underlying3 int_cells h with ⟨h0, _⟩ | ⟨a, len, cap, zs, rfl, _, hl, hm, hz, _, hc, _⟩
  · exact Or.inl h0
  · right
    rw [if_pos rfl] at hz
    exact ⟨a, len, cap, fun i => zs.getD i 0, rfl, by omega, fun i hi => hc i (by omega)⟩
end
/-- The walk, of whatever two lists. -/
theorem BdotHolds_any (ao go : Option Addr) (len cap glen gcap : Nat) (W : World) (hm : len ≤ maxLen) (gm : glen ≤ maxLen)
    (hL : ∃ L : Nat → V3, ∀ a, 0 < len → ao = some a → ∀ i, i < len → W.cell? (a.add (i * 3)) = some (.int .i64 (L i).1) ∧ W.cell? (a.add (i * 3 + 1)) = some (.int .i64 (L i).2.1) ∧ W.cell? (a.add (i * 3 + 2)) = some (.int .i64 (L i).2.2)) (ha : 0 < len → ∃ a, ao = some a)
    (hG : ∃ G : Nat → Int, ∀ a, 0 < glen → go = some a → ∀ i, i < glen → W.cell? (a.add i) = some (.int .i64 (G i))) (hg : 0 < glen → ∃ a, go = some a) :
    Calls Try.prog 6 #[.slice ao len cap, .slice go glen gcap] W fun e w' => e = .returned (.bool true) ∧ Below W.heap.size W w' := by
  unfold maxLen at hm gm
  by_cases h0 : len = 0
  · subst h0
    exact holds_none ao go cap glen gcap W
  by_cases h1 : 100 < len
  · exact holds_long ao go len cap glen gcap W h1 (by omega)
  obtain ⟨⟨B, o, sp⟩, rfl⟩ := ha (by omega)
  obtain ⟨L, hL⟩ := hL
  have hL := hL _ (by omega) rfl
  obtain ⟨G, hG⟩ := hG
  have s0 := (hL 0 (by omega)).1
  obtain rfl : sp = none := by simpa [Addr.add] using World.cell?_spot s0
  have hB : B < W.heap.size := by simpa [Addr.add] using World.block_lt_of_cell? _ _ s0
  simp only [add_none] at hL
  by_cases g0 : 0 < glen
  · obtain ⟨⟨B', o', sp'⟩, rfl⟩ := hg g0
    have hG := hG _ g0 rfl
    have s1 := hG 0 g0
    obtain rfl : sp' = none := by simpa [Addr.add] using World.cell?_spot s1
    have hB' : B' < W.heap.size := by simpa [Addr.add] using World.block_lt_of_cell? _ _ s1
    simp only [add_none] at hG
    exact holds_walk B o len cap _ B' o' glen gcap L G W (by omega) (by omega) hB (fun i hi => (hL i hi).1) (fun i hi => (hL i hi).2.1) (fun i hi => (hL i hi).2.2) (fun _ => rfl) (fun _ => hB') hG (by omega)
  · exact holds_walk B o len cap go 0 0 glen gcap L G W (by omega) (by omega) hB (fun i hi => (hL i hi).1) (fun i hi => (hL i hi).2.1) (fun i hi => (hL i hi).2.2) (fun h => absurd h g0) (fun h => absurd h g0) (fun i hi => absurd hi (by omega)) (by omega)

set_option maxRecDepth 100000 in
theorem BdotHolds_lifted (os : Os) (started : os.Started) (H : Type) (enc : TypeId × Value → H) :
    ReturnsInHanded {} Try.checked os 6 .any (Rows.bdotHoldsSpec.pre6 enc Try.prog Try.f6 Rows.bdotHoldsRow.domain false) (Rows.bdotHoldsSpec.post enc Try.prog Try.f6 false true false false) := by
  refine returnsInHanded_of_change (C := Try.checked) BdotHolds_own started (by kernel_rfl) Try.func6
    (ChangeSpec.witness6 (enc := enc) (C := Try.checked) false ⟨#[], #[.slice none 0 0, .slice none 0 0], []⟩ 8 (by kernel_rfl) (by kernel_rfl) (by kernel_rfl) (by kernel_rfl)) ?_
  intro W base args ds gs before hval0 hW hcnd _
  have hval : ∀ (j : Nat) t v, Try.f6.params[j]? = some t → args[j]? = some v → Value.okWide Try.prog W .any base t v := hval0
  have hW' := hW
  obtain ⟨p, q, hA0, hV, rfl, hfz, hnd⟩ := hW
  have hA : DataW.TrodAll enc Try.prog W 0 (fun _ => true) true Try.f6.params.toList args.toList ds p := hA0
  rw [Try.params6] at hA hval
  obtain ⟨v0, vs0, d0, ds0, p0, q0, hargs, rfl, rfl, h0, r0⟩ := trodAll_cons hA
  obtain ⟨v1, vs1, d1, ds1, p1, q1, rfl, rfl, rfl, h1, r1⟩ := trodAll_cons r0
  obtain ⟨rfl, rfl, rfl⟩ := trodAll_nil r1
  obtain rfl : args = #[v0, v1] := by cases args; simp_all
  obtain ⟨rfl, rfl⟩ := trodVars_none hV
  obtain ⟨ao, len, cap, rfl⟩ := okWide_slice Try.underlying39 (hval 0 39 v0 rfl rfl)
  obtain ⟨go, glen, gcap, rfl⟩ := okWide_slice Try.underlying40 (hval 1 40 v1 rfl rfl)
  have h0k := h0
  have h1k := h1
  clear hA0 hval0
  have hlt0 : ∀ x ∈ p0, x.block < W.heap.size := fun x hx => by simpa using hW'.lt x (by simp [hx])
  have hlt1 : ∀ x ∈ p1, x.block < W.heap.size := fun x hx => by simpa using hW'.lt x (by simp [hx])
  have wk : Calls Try.prog 6 #[.slice ao len cap, .slice go glen gcap] W fun e w' => e = .returned (.bool true) ∧ Below W.heap.size W w' := by
    obtain ⟨fuel, hf⟩ := h0
    obtain ⟨fuel1, hf1⟩ := h1
    have a1 : len ≤ maxLen ∧ (∃ L : Nat → V3, ∀ a, 0 < len → ao = some a → ∀ i, i < len → W.cell? (a.add (i * 3)) = some (.int .i64 (L i).1) ∧ W.cell? (a.add (i * 3 + 1)) = some (.int .i64 (L i).2.1) ∧ W.cell? (a.add (i * 3 + 2)) = some (.int .i64 (L i).2.2)) ∧ (0 < len → ∃ a, ao = some a) := by
      rcases open_vecs hf with e | ⟨a, l', c', L, e, hm, hL⟩
      · simp [Value.cells] at e
        obtain ⟨rfl, rfl, rfl⟩ := e
        exact ⟨Nat.zero_le _, ⟨fun _ => (0, 0, 0), fun a h => absurd h (by omega)⟩, fun h => absurd h (by omega)⟩
      · simp [Value.cells] at e
        obtain ⟨rfl, rfl, rfl⟩ := e
        exact ⟨hm, ⟨L, fun b _ hb => by cases hb; exact hL⟩, fun _ => ⟨a, rfl⟩⟩
    have a2 : glen ≤ maxLen ∧ (∃ G : Nat → Int, ∀ a, 0 < glen → go = some a → ∀ i, i < glen → W.cell? (a.add i) = some (.int .i64 (G i))) ∧ (0 < glen → ∃ a, go = some a) := by
      rcases open_gaps hf1 with e | ⟨a, l', c', G, e, hm, hG⟩
      · simp [Value.cells] at e
        obtain ⟨rfl, rfl, rfl⟩ := e
        exact ⟨Nat.zero_le _, ⟨fun _ => 0, fun a h => absurd h (by omega)⟩, fun h => absurd h (by omega)⟩
      · simp [Value.cells] at e
        obtain ⟨rfl, rfl, rfl⟩ := e
        exact ⟨hm, ⟨G, fun b _ hb => by cases hb; exact hG⟩, fun _ => ⟨a, rfl⟩⟩
    exact BdotHolds_any ao go len cap glen gcap W a1.1 a2.1 a1.2.1 a1.2.2 a2.2.1 a2.2.2
  refine wk.mono fun e W' ⟨he, bel⟩ => ?_
  subst he
  exact ⟨_, rfl, _, _, _, [], _, [], hW', trodAll_mk1 (shut_bool Try.underlying4 _), (trodAll_cons_mk (Below.trod laid_out (by kernel_rfl) (of_decide_eq_true (by kernel_rfl)) h0k bel hlt0) (trodAll_cons_mk (Below.trod laid_out (by kernel_rfl) (of_decide_eq_true (by kernel_rfl)) h1k bel hlt1) trodAll_mk0)), rfl, bel.frame _, fun h => by cases h⟩

theorem BdotHolds_holds : Rows.BdotHoldsSaid :=
  OpenClaim.holds_of_wide 6 Try.f6 rfl rfl rfl rfl rfl rfl rfl ⟨rfl, rfl, rfl, rfl, rfl⟩ rfl rfl rfl rfl rfl (by kernel_rfl) Try.func6 (by kernel_rfl)
    (of_decide_eq_true (by kernel_rfl)) (by unfold Func.isWrapper; first | (rw [if_pos (by decide +kernel)]; kernel_rfl) | (rw [if_neg (by decide +kernel)]; exact ⟨rfl, rfl⟩))
    (fun os started H enc _ => BdotHolds_lifted os started H enc)
#print axioms BdotHolds_holds
end Go.Proofs.Ytibjmmlnkgapeaa
