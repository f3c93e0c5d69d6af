/-
  Rows of frames in memory; the reference's Same at two rows that hold the same, walked, for the seat Ytgklpebdfpfdeaa.
-/
import Derived.Test.YtgklpebdfpfdeaaNLook
import Derived.Laws.OwnMore
import Derived.OwnWalk
namespace Go.Proofs.Ytgklpebdfpfdeaa
open Go.RowKit

/-- Frames as cells. -/
def cellsOf (l : List (UInt8 × List UInt8)) : List Value := l.flatMap fun x => [.int .i64 (x.1.toNat : Nat), .string ⟨x.2.toArray⟩]
theorem cellsOf_length (l : List (UInt8 × List UInt8)) : (cellsOf l).length = l.length * 2 := by
  induction l with
  | nil => rfl
  | cons x l ih => simp only [cellsOf, List.flatMap_cons, List.length_append, List.length_cons, List.length_nil] at ih ⊢; omega
theorem cellsOf_append (l m : List (UInt8 × List UInt8)) : cellsOf (l ++ m) = cellsOf l ++ cellsOf m := by simp [cellsOf]
theorem cellsOf_at : ∀ (l : List (UInt8 × List UInt8)) (i : Nat) (h : i < l.length), (cellsOf l)[i * 2]? = some (.int .i64 (l[i].1.toNat : Nat)) ∧ (cellsOf l)[i * 2 + 1]? = some (.string ⟨l[i].2.toArray⟩)
  | x :: l, 0, _ => ⟨rfl, rfl⟩
  | x :: l, i + 1, h => by
    have := cellsOf_at l i (by simpa using h)
    have e : cellsOf (x :: l) = [.int .i64 (x.1.toNat : Nat), .string ⟨x.2.toArray⟩] ++ cellsOf l := rfl
    rw [e, show (i + 1) * 2 = i * 2 + 2 by omega]
    exact this
/-- The slice v holds these frames; its block lies from B on. -/
def Frames (B : Nat) (w : World) (v : Value) (l : List (UInt8 × List UInt8)) : Prop := w.ownsRow B 26 2 v l.length (cellsOf l)
theorem Frames.below {B : Nat} {w w' : World} {v : Value} {l : List (UInt8 × List UInt8)} (h : Frames B w v l) (hb : Below w.heap.size w w') : Frames B w' v l := by
  refine ⟨h.1, ?_⟩
  rcases h.2 with hn | ⟨g, cap, cur, rfl, hg, hgg, rest⟩
  · exact .inl hn
  · exact .inr ⟨g, cap, cur, rfl, hg, by rw [hb.block g (Array.getElem?_eq_some_iff.1 hgg).1]; exact hgg, rest⟩
theorem Frames.base {B B' : Nat} {w : World} {v : Value} {l : List (UInt8 × List UInt8)} (h : Frames B' w v l) (hB : B ≤ B') : Frames B w v l :=
  ⟨h.1, h.2.imp id (fun ⟨g, cap, cur, a, b, c⟩ => ⟨g, cap, cur, a, Nat.le_trans hB b, c⟩)⟩
/-- What is known of a slice of frames. -/
theorem Frames.shape {B : Nat} {w : World} {v : Value} {l : List (UInt8 × List UInt8)} (h : Frames B w v l) :
    ∃ (a : Option Addr) (c : Nat), v = .slice a l.length c ∧ l.length ≤ c ∧ (l ≠ [] → ∃ g, a = some ⟨g, 0, none⟩ ∧ B ≤ g ∧ g < w.heap.size ∧
      ∀ i (hi : i < l.length), w.cell? ⟨g, i * 2, none⟩ = some (.int .i64 (l[i].1.toNat : Nat)) ∧ w.cell? ⟨g, i * 2 + 1, none⟩ = some (.string ⟨l[i].2.toArray⟩)) := by
  have H := h
  rcases h.2 with ⟨rfl, h0⟩ | ⟨g, cap, cur, rfl, hg, hgg, hn, rest⟩
  · exact ⟨none, 0, by rw [h0], by omega, fun hne => absurd (List.length_eq_zero_iff.1 h0) hne⟩
  · refine ⟨some ⟨g, 0, none⟩, cap, rfl, hn, fun _ => ⟨g, rfl, hg, (Array.getElem?_eq_some_iff.1 hgg).1, fun i hi => ?_⟩⟩
    have H' : w.ownsRow B 26 2 (.slice (some ⟨g, 0, none⟩) l.length cap) l.length (cellsOf l) := H
    have c := cellsOf_at l i hi
    exact ⟨(H'.cellAt (i * 2) (by omega)).trans c.1, (H'.cellAt (i * 2 + 1) (by omega)).trans c.2⟩
set_option maxHeartbeats 1000000 in
set_option maxRecDepth 100000 in
theorem same_any (B C : Nat) (v u : Value) (l : List (UInt8 × List UInt8)) (w : World) (hv : Frames B w v l) (hu : Frames C w u l) (hl : l.length ≤ 5000) :
    Calls Try.prog 18 #[v, u] w fun e w' => e = .returned (.bool true) ∧ Below w.heap.size w w' := by
  obtain ⟨a, ca, rfl, hca, ha⟩ := hv.shape
  obtain ⟨b, cb, rfl, hcb, hb⟩ := hu.shape
  by_cases h0 : l = []
  · subst h0
    clear ha hb hv hu
    go_enter Try.func18, Try.ntmps18
    go_wp2
    refine wp_loop_rounds 1 ?_
    rw [rounds_succ]
    go_wp2
    go_ret
    exact ⟨rfl, Below.refl _ _⟩
  obtain ⟨g, rfl, _, hg, hgc⟩ := ha h0
  obtain ⟨j, rfl, _, hj, hjc⟩ := hb h0
  obtain ⟨n, hn⟩ : ∃ n, n = l.length := ⟨_, rfl⟩
  rw [← hn] at hca hcb hl ⊢
  have HG : Hid (∀ i (hi : i < l.length), w.cell? ⟨g, i * 2, none⟩ = some (.int .i64 (l[i].1.toNat : Nat)) ∧ w.cell? ⟨g, i * 2 + 1, none⟩ = some (.string ⟨l[i].2.toArray⟩)) := hgc
  have HJ : Hid (∀ i (hi : i < l.length), w.cell? ⟨j, i * 2, none⟩ = some (.int .i64 (l[i].1.toNat : Nat)) ∧ w.cell? ⟨j, i * 2 + 1, none⟩ = some (.string ⟨l[i].2.toArray⟩)) := hjc
  have HN : Hid (n = l.length) := hn
  clear hn hgc hjc ha hb hv hu h0
  go_enter Try.func18, Try.ntmps18
  go_wp2
  go_loopw [5] (fun i wr => ∃ k : Nat, k ≤ n ∧ i = .int .i64 k ∧ Below w.heap.size w wr) (fun i _ => n - (intOf i).toNat)
  case atStart => exact ⟨0, by omega, rfl, Below.refl _ _⟩
  case round =>
    obtain ⟨k, hk, rfl, hnx⟩ := hrel
    by_cases hkn : k < n
    · have hkl : k < l.length := by rw [← HN.out]; exact hkn
      obtain ⟨x, hx⟩ : ∃ x : Nat, x = (l[k]'hkl).1.toNat := ⟨_, rfl⟩
      obtain ⟨y, hy⟩ : ∃ y : ByteArray, y = ⟨(l[k]'hkl).2.toArray⟩ := ⟨_, rfl⟩
      have g0 := (hnx.cell (p := ⟨g, k * 2, none⟩) hg).trans (HG.out k hkl).1
      have g1 := (hnx.cell (p := ⟨g, k * 2 + 1, none⟩) hg).trans (HG.out k hkl).2
      have j0 := (hnx.cell (p := ⟨j, k * 2, none⟩) hj).trans (HJ.out k hkl).1
      have j1 := (hnx.cell (p := ⟨j, k * 2 + 1, none⟩) hj).trans (HJ.out k hkl).2
      rw [← hx] at g0 j0
      rw [← hy] at g1 j1
      clear hx hy
      go_wp2
      go_quiet (fail)
      go_wp2
      go_roundw
      case rel => exact ⟨k + 1, by omega, by go_num, below_drewN hnx _⟩
      case measure => simp [intOf]; omega
    · go_wp2
      go_ret
      exact ⟨rfl, hnx⟩
end Go.Proofs.Ytgklpebdfpfdeaa
