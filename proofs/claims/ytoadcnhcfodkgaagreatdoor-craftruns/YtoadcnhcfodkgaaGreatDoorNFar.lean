/-
  What a stream's scan has found so far, for the seat YtoadcnhcfodkgaaGreatDoor.
-/
import Derived.Test.YtoadcnhcfodkgaaGreatDoorNSame
namespace Go.Proofs.YtoadcnhcfodkgaaGreatDoor
open Go.RowKit

theorem frame_info : (Tryz.prog.info? 99).map (fun i => (i.zero, i.size, i.bytes)) = some (some (.agg #[.int .i64 0, .string ⟨#[]⟩]), 2, 24) := by kernel_rfl
theorem cell_two_new (w : World) (x y : Value) (t : TypeId) : ∀ j u, [x, y][j]? = some u → (w.alloc (.cells #[x, y] t)).cell? ((⟨w.heap.size, 0, none⟩ : Addr).add j) = some u := by
  intro j u hj
  match j, hj with
  | 0, hj => simp at hj; subst hj; simp [Addr.add]
  | 1, hj => simp at hj; subst hj; simp [Addr.add]
  | (j + 2), hj => simp at hj
theorem cell_two_top (U : World) (g : Nat) (x y : Value) (t : TypeId) (hg : g = U.heap.size) : ∀ j u, [x, y][j]? = some u → (U.alloc (.cells #[x, y] t)).cell? ((⟨g, 0, none⟩ : Addr).add j) = some u := by
  subst hg
  exact cell_two_new U x y t
/-- A string's length. -/
def lenS : Value → Nat
  | .string t => t.size
  | _ => 0
theorem mkBytes {s : ByteArray} {l : List UInt8} (h : s.data.toList = l) : s = ⟨l.toArray⟩ := ByteArray.ext (Array.toList_inj.1 (by rw [h]))
/-- What a stream's scan ends in. -/
def ScanEnd (L : List UInt8) (w : World) (e : Ending) (w' : World) : Prop :=
  ∃ (v : Value) (r : ByteArray), e = .returned (.tuple #[v, .string r, .int .i64 ((scanL L).2.2 : Nat)]) ∧ r.data.toList = (scanL L).2.1 ∧ Frames w.heap.size w' v (scanL L).1 ∧ Below w.heap.size w w'
/-- So far: these frames, so many bytes passed over, and the rest. -/
def SoFar (L : List UInt8) (acc : List (UInt8 × List UInt8)) (t : List UInt8) (o : Nat) : Prop :=
  scanL L = (acc ++ (scanL t).1, (scanL t).2.1, o + (scanL t).2.2) ∧ acc.length + t.length + o ≤ L.length
theorem SoFar.start (L : List UInt8) : SoFar L [] L 0 := ⟨by simp, by simp⟩
theorem SoFar.skip {L t : List UInt8} {acc : List (UInt8 × List UInt8)} {o : Nat} (h : SoFar L acc t o) (hl : look t = some 0) : SoFar L acc (t.drop 1) (o + 1) := by
  have l := (look_len hl).1
  refine ⟨by rw [h.1, scanL_skip hl]; simp; omega, ?_⟩
  have := h.2
  rw [List.length_drop]
  omega
theorem SoFar.frame {L t : List UInt8} {acc : List (UInt8 × List UInt8)} {o n : Nat} (h : SoFar L acc t o) (hl : look t = some (n + 1)) : SoFar L (acc ++ [(t.getD 1 0, (t.drop 3).take n)]) (t.drop (n + 5)) o := by
  have l := ((look_len hl).2 n rfl).1
  refine ⟨by rw [h.1, scanL_frame hl]; simp, ?_⟩
  have := h.2
  rw [List.length_drop, List.length_append]
  simp
  omega
theorem SoFar.stop {L t : List UInt8} {acc : List (UInt8 × List UInt8)} {o : Nat} (h : SoFar L acc t o) (hl : look t = none) : scanL L = (acc, t, o) := by
  rw [h.1, scanL_none hl]
  simp
end Go.Proofs.YtoadcnhcfodkgaaGreatDoor
