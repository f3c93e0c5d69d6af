/-
  Frames that the document's Scan finds, as blocks of the symbolic run, for the seat YtoadcnhcfodkgaaGreatDoor.
-/
import Derived.Test.YtoadcnhcfodkgaaGreatDoorCwV
import Derived.Test.YtoadcnhcfodkgaaGreatDoorNRScan
namespace Go.Proofs.YtoadcnhcfodkgaaGreatDoor
open Go.RowKit

/-- A slice of these frames, at block k. -/
def SlAt (k : Nat) (sl : Value) (l : List (UInt8 × List UInt8)) : Prop := (sl = .slice none 0 0 ∧ l = []) ∨ ∃ cap, sl = .slice (some ⟨k, 0, none⟩) l.length cap
theorem SlAt.real {k : Nat} {sl v : Value} {l : List (UInt8 × List UInt8)} {bl : Bl} (h : SlAt k sl l) (r : RV bl sl v) : ∃ A cap, v = .slice A l.length cap ∧ (l ≠ [] → ∃ B, bl[k]? = some (some B) ∧ A = some ⟨B, 0, none⟩) := by
  rcases h with ⟨rfl, rfl⟩ | ⟨cap, rfl⟩
  · exact ⟨none, 0, r, fun e => absurd rfl e⟩
  · obtain ⟨B, h1, e⟩ := r
    exact ⟨_, cap, e, fun _ => ⟨B, h1, rfl⟩⟩
theorem SlAt.ptr {k k2 : Nat} {sl : Value} {l : List (UInt8 × List UInt8)} (h : SlAt k sl l) (hk : k < k2) : ptrOk k2 sl = true := by
  rcases h with ⟨rfl, _⟩ | ⟨cap, rfl⟩
  · rfl
  · exact decide_eq_true hk
theorem RW.framesAt {bs : List Nat} {w0 : World} {bl : Bl} {m : Xm} {w w' : World} {k : Nat} (h : RW bs w0 bl m w) (hl : bl.length = k) (hm : m.length = k) (hb : Below w.heap.size w w') {v : Value} {l : List (UInt8 × List UInt8)} (hf : Frames w.heap.size w' v l) :
    ∃ x sl, SlAt k sl l ∧ RV (bl ++ [x]) sl v ∧ RW bs w0 (bl ++ [x]) (m ++ [cellsOf l]) w' := by
  have h' := h.pure hb
  rcases hf.2 with ⟨rfl, h0⟩ | ⟨g, cap, cur, rfl, hg, hgg, _, _, _, hx⟩
  · exact ⟨none, .slice none 0 0, .inl ⟨rfl, List.length_eq_zero_iff.1 h0⟩, rfl, h'.wide 1 _⟩
  · have h3 : (bl ++ [some g])[k]? = some (some g) := by rw [List.getElem?_append_right (by omega), hl, Nat.sub_self]; rfl
    refine ⟨some g, .slice (some ⟨k, 0, none⟩) l.length cap, .inr ⟨cap, rfl⟩, ⟨g, h3, rfl⟩, h'.add (hl.trans hm.symm) (arr_cells hgg hx) (Nat.le_trans h.size hg) (fun k hk => ?_)⟩
    obtain ⟨_, _, A⟩ := h.arr k g hk
    have := A.lies
    omega
theorem frame_load {P : Program} {tF : TypeId} {l : List (UInt8 × List UInt8)} {i : Int} (ha : qrun P (isAgg tF) = some true) (hz : qrun P (sizeOf tF) = some 2) (hil : i.toNat < l.length) (_ : 0 ≤ i) : loadV P tF (cellsOf l) (i.toNat * 2) = some (.agg #[.int .i64 (frL l i).1, .string (frL l i).2]) := by
  have hc := cellsOf_at l i.toNat hil
  have hcl := cellsOf_length l
  have hf : frL l i = (((l[i.toNat].1.toNat : Nat) : Int), (⟨l[i.toNat].2.toArray⟩ : ByteArray)) := by unfold frL; rw [List.getElem?_eq_getElem hil]
  unfold loadV
  rw [ha, hz]
  dsimp only
  rw [if_pos (by omega), hf]
  have hd : ((cellsOf l).drop (i.toNat * 2)).take 2 = [.int .i64 (l[i.toNat].1.toNat : Nat), .string ⟨l[i.toNat].2.toArray⟩] := by
    obtain ⟨q1, q2⟩ := List.getElem?_eq_some_iff.1 hc.1
    obtain ⟨q3, q4⟩ := List.getElem?_eq_some_iff.1 hc.2
    rw [List.drop_eq_getElem_cons q1, List.drop_eq_getElem_cons q3, q2, q4]
    rfl
  rw [hd]
end Go.Proofs.YtoadcnhcfodkgaaGreatDoor
