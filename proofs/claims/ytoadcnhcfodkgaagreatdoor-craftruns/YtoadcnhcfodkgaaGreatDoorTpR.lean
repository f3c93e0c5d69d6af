/-
  An argument of type alidadetop.Play, opened, for the seat YtoadcnhcfodkgaaGreatDoor.
-/
import Derived.Test.YtoadcnhcfodkgaaGreatDoorRows
import Derived.Test.YtoadcnhcfodkgaaGreatDoorTpA
import Derived.Deep.Slices
import Derived.ChangeSlices
import Derived.ChangeSame
import Derived.Carry
import Derived.WalkKit
import Derived.ProofKit
import Derived.OpenShut
import Derived.Lib.SmallJoins
namespace Go.Proofs.YtoadcnhcfodkgaaGreatDoor
open Go.ChangeShapes Go.WideShapes Go.ChangeAt Go.RowKit Go.Joins

theorem laid_out : laidOutB Tryz.prog = true := by kernel_rfl
theorem rec_cells : Tryz.prog.cellsOf 44 = 2 := by kernel_rfl
theorem str_one : Tryz.prog.cellsOf 9 = 1 := by kernel_rfl
theorem i64_one : Tryz.prog.cellsOf 2 = 1 := by kernel_rfl
section
variable {H : Type} {enc : TypeId × Value → H} {w : World} {base : Nat} {held : Bool}
theorem trod_rec {spare : Nat → Bool} {fuel : Nat} {c0 c1 : Value} {x : DataW H × List MemPlace} (hf : DataW.trod enc Tryz.prog w base spare held fuel 44 [c0, c1] = some x) :
    ∃ a : Int × ByteArray, c0 = .int .i64 a.1 ∧ c1 = .string a.2 ∧ x.1 = .agg [.lit (.int .i64 a.1), .lit (.string a.2.data.toList)] := by
  obtain ⟨y0, y1, n, hx, _, h0, h1⟩ := trod_struct2 Tryz.underlying44 hf
  obtain ⟨x0, e0, rfl, _⟩ := DataW.trod_int Tryz.underlying2 h0
  obtain ⟨x1, e1, rfl, w1⟩ := DataW.trod_string Tryz.underlying9 h1
  simp only [i64_one, List.drop_zero, List.take_succ_cons, List.take_zero, List.cons.injEq, and_true] at e0
  simp only [str_one, List.drop_succ_cons, List.drop_zero, List.take_succ_cons, List.take_zero, List.cons.injEq, and_true] at e1
  exact ⟨(x0, x1), e0, e1, by rw [hx]⟩
theorem weight_in {e : TypeId} {d : DataW H} {n : Nat} (hn : n ∈ d.weights Tryz.prog e) : ∀ l : List (DataW H), d ∈ l → n ∈ DataW.weightsAll Tryz.prog e l
  | [], h => by cases h
  | x :: l, h => by
    unfold DataW.weightsAll
    rcases List.mem_cons.1 h with rfl | h
    · exact List.mem_append_left _ hn
    · exact List.mem_append_right _ (weight_in hn l h)
theorem rec_weight (a : Int × ByteArray) : a.2.data.toList.length ∈ DataW.weights Tryz.prog 44 (.agg [.lit (.int .i64 a.1), .lit (.string a.2.data.toList)] : DataW H) := by
  have e : DataW.weights Tryz.prog 44 (.agg [.lit (.int .i64 a.1), .lit (.string a.2.data.toList)] : DataW H) = [a.2.data.toList.length] := by kernel_rfl
  rw [e]
  exact List.mem_singleton_self _
theorem rec_bytes : 1 ≤ Tryz.prog.bytesOf 44 := by
  have e : Tryz.prog.bytesOf 44 = 24 := by kernel_rfl
  omega
set_option maxRecDepth 100000 in
theorem open_recs {fuel : Nat} {cs : List Value} {x : DataW H × List MemPlace} (hG : 0 < w.heap.size) (h : DataW.trod enc Tryz.prog w base (fun _ => true) held fuel 22 cs = some x) :
    ∃ (B : Nat) (ao : Option Addr) (nn cap : Nat) (L : Nat → Int × ByteArray) (sl : Value), cs = [.slice ao nn cap] ∧ Recs w B ao nn cap L sl ∧ ((DataW.weights Tryz.prog 22 x.1).all (· ≤ reachBytes) = true → nn ≤ reachBytes ∧ ∀ i, i < nn → (L i).2.size ≤ reachBytes) := by
  rcases Go.Deep.open_slice Tryz.underlying22 h with ⟨h0, _⟩ | ⟨a, len, cap, m, n, D, Pl, rfl, hb, hl, hm, hmm, rfl, hx⟩
  · exact ⟨0, none, 0, 0, fun _ => (0, ⟨#[]⟩), .slice none 0 0, h0, ⟨fun _ _ => rfl, rfl, hG, fun h => absurd h (Nat.not_lt_zero _), fun i h => absurd h (Nat.not_lt_zero i)⟩, fun _ => ⟨Nat.zero_le _, fun i h => absurd h (Nat.not_lt_zero i)⟩⟩
  · rw [if_pos rfl] at hmm
    have each : ∀ i, i < len → ∃ v : Int × ByteArray, w.cell? (a.add (i * 2)) = some (.int .i64 v.1) ∧ w.cell? (a.add (i * 2 + 1)) = some (.string v.2) ∧ D i = .agg [.lit (.int .i64 v.1), .lit (.string v.2.data.toList)] := by
      intro i hi
      obtain ⟨cs', h1, h2⟩ := hx i (by omega)
      rw [rec_cells] at h1
      obtain ⟨_, hlen, hcell⟩ := World.cells?_some h1
      match cs', hlen with
      | [c0, c1], _ =>
        obtain ⟨v, rfl, rfl, hv⟩ := trod_rec h2
        have g0 := hcell 0 (by omega)
        have g1 := hcell 1 (by omega)
        rw [Go.Deep.add_add] at g0 g1
        exact ⟨v, g0, g1, hv⟩
    have inh : Inhabited (Int × ByteArray) := ⟨(0, ⟨#[]⟩)⟩
    obtain ⟨L, hL⟩ := Go.Deep.choose_lt each
    by_cases h0 : len = 0
    · subst h0
      exact ⟨0, some a, 0, cap, L, .nilIface, rfl, ⟨fun _ _ => rfl, rfl, hG, fun h => absurd h (Nat.not_lt_zero _), fun i h => absurd h (Nat.not_lt_zero i)⟩, fun _ => ⟨Nat.zero_le _, fun i h => absurd h (Nat.not_lt_zero i)⟩⟩
    · obtain ⟨B, o, sp⟩ := a
      have s0 := (hL 0 (by omega)).1
      obtain rfl : sp = none := by simpa [Addr.add] using World.cell?_spot s0
      have hB : B < w.heap.size := by simpa [Addr.add] using World.block_lt_of_cell? _ _ s0
      simp only [add_is] at hL
      refine ⟨B, some ⟨B, o, none⟩, len, cap, L, .slice (some ⟨0, o, none⟩) len cap, rfl, ⟨fun bl hbl => ⟨B, hbl, rfl⟩, rfl, hB, (fun _ h => by cases h), fun i hi => ⟨o, rfl, (hL i hi).1, (hL i hi).2.1⟩⟩, fun hw => ?_⟩
      have hw : (DataW.weights Tryz.prog 22 (.slice ((List.range len).map D) ((List.range (m - len)).map fun j => D (len + j)))).all (· ≤ reachBytes) = true := hw
      unfold DataW.weights at hw
      rw [Tryz.underlying22] at hw
      simp only [List.all_eq_true, decide_eq_true_eq] at hw
      refine ⟨?_, fun i hi => ?_⟩
      · have h1 := hw _ List.mem_cons_self
        rw [List.length_map, List.length_range] at h1
        have h2 : len * 1 ≤ (len + ((List.range (m - len)).map fun j => D (len + j)).length) * Tryz.prog.bytesOf 44 := Nat.mul_le_mul (Nat.le_add_right _ _) rec_bytes
        omega
      · have h1 := rec_weight (H := H) (L i)
        rw [← (hL i hi).2.2] at h1
        exact hw _ (List.mem_cons_of_mem _ (List.mem_append_left _ (weight_in h1 _ (List.mem_map.2 ⟨i, List.mem_range.2 hi, rfl⟩))))
end
end Go.Proofs.YtoadcnhcfodkgaaGreatDoor
