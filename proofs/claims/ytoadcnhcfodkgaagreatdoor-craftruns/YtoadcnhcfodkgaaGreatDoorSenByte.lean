/-
  Rows of bytes in memory, and how they grow; a tick's bytes (parted), walked, for the seat YtoadcnhcfodkgaaGreatDoor.
-/
import Derived.Test.YtoadcnhcfodkgaaGreatDoorSenLeaf
import Derived.Test.YtoadcnhcfodkgaaGreatDoorVFold
import Derived.Test.YtoadcnhcfodkgaaGreatDoorStop
import Derived.Laws.OwnMore
import Derived.Laws.IdiomStrings
import Derived.OwnWalk
import Derived.Laws.ResultCell
namespace Go.Proofs.YtoadcnhcfodkgaaGreatDoor
open Go.RowKit

theorem add_off (g j : Nat) : ((⟨g, 0, none⟩ : Addr).add j) = ⟨g, j, none⟩ := by cases j <;> simp [Addr.add]
def u8s (l : List Int) : List Value := l.map fun b => .int .u8 b
/-- The slice v holds these bytes; its block lies from B on. -/
def Bytes (B : Nat) (w : World) (v : Value) (l : List Int) : Prop := w.ownsRow B 5 1 v l.length (u8s l)
theorem byte_info : (Tryz.prog.info? 5).map (fun i => (i.zero, i.size, i.bytes)) = some (some (.int .u8 0), 1, 1) := by kernel_rfl
theorem Bytes.same {B : Nat} {w w' : World} {v : Value} {l : List Int} (h : Bytes B w v l) (hb : Below w.heap.size w w') : Bytes B w' v l := by
  refine ⟨h.1, ?_⟩
  rcases h.2 with hn | ⟨g, cap, cur, rfl, hg, hgg, rest⟩
  · exact .inl hn
  · exact .inr ⟨g, cap, cur, rfl, hg, by rw [hb.block g (Array.getElem?_eq_some_iff.1 hgg).1]; exact hgg, rest⟩
/-- A store into an older block. -/
theorem Bytes.new {B : Nat} {w : World} {v : Value} {l : List Int} (h : Bytes B w v l) (q o : Nat) (hq : q < B) (u : Value) : Bytes B (w.setCell ⟨q, o, none⟩ u) v l := by
  refine ⟨h.1, ?_⟩
  rcases h.2 with hn | ⟨g, cap, cur, rfl, hg, hgg, rest⟩
  · exact .inl hn
  · exact .inr ⟨g, cap, cur, rfl, hg, by rw [Below.heap_setCell _ _ _ _ (by show g ≠ q; omega)]; exact hgg, rest⟩
theorem Bytes.base {B B' : Nat} {w : World} {v : Value} {l : List Int} (h : Bytes B' w v l) (hB : B ≤ B') : Bytes B w v l :=
  ⟨h.1, h.2.imp id (fun ⟨g, cap, cur, a, b, c⟩ => ⟨g, cap, cur, a, Nat.le_trans hB b, c⟩)⟩
theorem Arr.under {k B : Nat} {l : List Value} {w w' : World} (h : Arr k l w) (hb : Below B w w') (hk : k < B) (hs : w.heap.size ≤ w'.heap.size) : Arr k l w' := h.same (hb.block k hk) hs
theorem info_byte : ∃ i, Tryz.prog.info? 5 = some i ∧ i.zero = some (.int .u8 0) ∧ i.size = 1 ∧ i.bytes = 1 := by
  have h := byte_info
  cases e : Tryz.prog.info? 5 with
  | none => rw [e] at h; cases h
  | some i =>
    rw [e] at h
    simp at h
    exact ⟨i, rfl, h.1, h.2.1, h.2.2⟩
/-- append of one byte, or two, that the statement has just laid. -/
theorem app_any {ops : Array Oper} {rest : List Oper} {o : Oper} {a : Act} {Q : Exit → Act → World → Prop} (hgd : o.guard = none) (s x : Operand)
    (ho : o.op = .call { callee := .builtin .append, args := #[s, x], argTypes := #[167, 167] }) (B : Nat) (v : Value) (l news : List Int) (w0 : World) (hs : a.eval s = v) (hown : Bytes B w0 v l)
    (hx : a.eval x = .slice (some ⟨w0.heap.size, 0, none⟩) news.length news.length) (hl : l.length + news.length ≤ 100) (hB : B ≤ w0.heap.size)
    (h : ∀ v' w', Bytes B w' v' (l ++ news) → Below B w0 w' → w0.heap.size ≤ w'.heap.size → wpList Tryz.prog ops Q rest (a.put o.dst v') w') : wpList Tryz.prog ops Q (o :: rest) a (w0.alloc (.cells (u8s news).toArray 5)) := by
  obtain ⟨i, hi, hz, hsz, hby⟩ := info_byte
  have hown' := hown.same ((Below.refl _ _).alloc (Nat.le_refl _) (.cells (u8s news).toArray 5))
  refine wpList_append_own _ hgd s x 167 ho B 5 i (.int .u8 0) 1 1 Tryz.underlying167 hi hz hsz hby rfl (by decide) v l.length (u8s l) hs hown' ⟨w0.heap.size, 0, none⟩ news.length news.length (u8s news) hx (by simp [u8s]) ?_ ?_ (by unfold maxLen; omega) (by omega) (by simp; omega) ?_
  · intro j u hj
    have A := Arr_at w0 w0.heap.size (u8s news) 5 rfl
    obtain ⟨hj', rfl⟩ := List.getElem?_eq_some_iff.1 hj
    rw [add_off]
    exact A.c j hj'
  · intro u hu
    unfold u8s at hu
    obtain ⟨b, _, rfl⟩ := List.mem_map.1 hu
    rfl
  · intro v' w' h1 h2 _
    have hbel : Below B w0 w' := ((Below.refl B w0).alloc hB _).grown h2 (by simp; omega) (fun k hk => (World.ownsRow.lt hown k hk).1)
    refine h v' w' ?_ hbel (by have := h2.size; simp at this; omega)
    show w'.ownsRow B 5 1 v' (l ++ news).length (u8s (l ++ news))
    rw [List.length_append, show u8s (l ++ news) = u8s l ++ u8s news by simp [u8s]]
    exact h1
/-- What bytes a string is made of. -/
def strOf (l : List Int) : ByteArray := ⟨(l.map fun b => UInt8.ofNat b.toNat).toArray⟩
theorem conv_any {B : Nat} {w : World} {v : Value} {l : List Int} (h : Bytes B w v l) (hne : l ≠ []) (hr : ∀ b ∈ l, 0 ≤ b ∧ b < 256) : (convert 167 9 v).run Tryz.prog w = .ok (.string (strOf l)) w := by
  have H := h
  rcases h.2 with ⟨rfl, h0⟩ | ⟨g, cap, cur, rfl, hg, hgg, hn, rest⟩
  · exact absurd (List.length_eq_zero_iff.1 h0) hne
  · have H' : w.ownsRow B 5 1 (.slice (some ⟨g, 0, none⟩) l.length cap) l.length (u8s l) := H
    have e : l.length = (l.map fun b => UInt8.ofNat b.toNat).length := by simp
    have hc := run_convert_bytes_back w 167 9 5 ⟨g, 0, none⟩ cap (l.map fun b => UInt8.ofNat b.toNat) Tryz.underlying167 Tryz.underlying5 Tryz.underlying9 (fun j hj => by
      have hj' : j < l.length := by rw [e]; exact hj
      have hb := hr l[j] (List.getElem_mem hj')
      have := H'.cellAt j (by omega)
      rw [add_off, this]
      unfold u8s
      simp [hj']
      omega)
    rw [← e] at hc
    exact hc
/-- A tick's bytes, the highest first. -/
def tickL (t : Int) : List Int := [IntKind.u8.wrap (t / 1099511627776), IntKind.u8.wrap (t / 4294967296), IntKind.u8.wrap (t / 16777216), IntKind.u8.wrap (t / 65536), IntKind.u8.wrap (t / 256), IntKind.u8.wrap t]
end Go.Proofs.YtoadcnhcfodkgaaGreatDoor
