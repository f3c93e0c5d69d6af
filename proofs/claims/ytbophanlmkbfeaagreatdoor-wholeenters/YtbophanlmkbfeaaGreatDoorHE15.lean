/-
A part.
A part.
A part.
A part.
A part.
A part.
A part.
-/
import Derived.Deep.QuietTactic
import Derived.BigQuiet
import Derived.WalkSpells
import Derived.Lib.Strings
import Derived.Laws.OwnMore
import Derived.OwnWalk
import Derived.Shelf.LaysM
import Derived.Shelf.Strconv.Clone
import Derived.Test.YtbophanlmkbfeaaGreatDoorProg
import Derived.WalkKit
import Derived.Laws.ResultCell
import Derived.RegionTactic
import Derived.Deep.RegionWith
import Derived.Lib.IndexBytes
import Derived.Test.YtbophanlmkbfeaaGreatDoorHE14
import Derived.Test.YtbophanlmkbfeaaGreatDoorHE13
namespace Go.Proofs.YtbophanlmkbfeaaGreatDoor
open Go.RowKit
theorem getD_of {s : ByteArray} {i : Nat} (h : i < s.size) : s.data.toList.getD i 0 = s[i]'h := by
 have hl : i < s.data.toList.length := h
 rw [List.getD_eq_getElem?_getD, List.getElem?_eq_getElem hl]
 rfl
theorem join16 {a b : Nat} (ha : a < 256) (hb : b < 256) : bits .or .u16 ((a : Int) * 256) (b : Int) = ((a * 256 + b : Nat) : Int) := by
 rw [show (a : Int) * 256 = ((a * 256 : Nat) : Int) by omega, u16_or_nat (a * 256) b (by omega) (by omega)]
 have := Nat.two_pow_add_eq_or_of_lt (i := 8) (show b < 2 ^ 8 by omega) a
 rw [show a * 256 = 2 ^ 8 * a by omega, ← this]
theorem extract_list (s : ByteArray) (a b : Nat) : (s.extract a b).data.toList = (s.data.toList.drop a).take (b - a) := Lib.extract_data s a b
theorem not_empty {s : ByteArray} (h : s.size ≠ 0) : s.toList.isEmpty = false := by
 rw [Lib.toList_data]
 cases e : s.data.toList with
 | nil => exact absurd (by rw [Lib.size_eq, e]; rfl) h
 | cons a l => rfl
def lookP : Option Nat → Int × Int
 | none => (1, 0)
 | some 0 => (0, 0)
 | some (n + 1) => (2, (n : Int) + 5)
def lookC (l : List UInt8) : Int × Int := if l.length = 0 then (0, 0) else lookP (look l)
theorem lookC_of {l : List UInt8} {r : Option Nat} (h : 0 < l.length) (hr : look l = r) : lookC l = lookP r := by
 unfold lookC
 rw [if_neg (by omega), hr]
theorem below_alike {w : World} {n : Nat} : Below w.heap.size w (w.drewN n) := below_drewN (Below.refl _ _) n
theorem cell_kept0 {w w1 : World} (hb1 : Below (w.alloc (.cells #[.int .i64 0, .string ⟨#[]⟩] 49)).heap.size (w.alloc (.cells #[.int .i64 0, .string ⟨#[]⟩] 49)) w1) : w1.cell? ⟨w.heap.size, 0, none⟩ = some (.int .i64 0) := (hb1.cell (by simp)).trans (by simp)
theorem cell_kept1 {w w1 : World} (hb1 : Below (w.alloc (.cells #[.int .i64 0, .string ⟨#[]⟩] 49)).heap.size (w.alloc (.cells #[.int .i64 0, .string ⟨#[]⟩] 49)) w1) : w1.cell? ⟨w.heap.size, 1, none⟩ = some (.string ⟨#[]⟩) := (hb1.cell (by simp)).trans (by simp)
theorem free_kept0 {w w1 : World} (hb1 : Below (w.alloc (.cells #[.int .i64 0, .string ⟨#[]⟩] 49)).heap.size (w.alloc (.cells #[.int .i64 0, .string ⟨#[]⟩] 49)) w1) : w1.frozen? ⟨w.heap.size, 0, none⟩ = false := (hb1.frozen (by simp)).trans (by simp)
theorem free_kept1 {w w1 : World} (hb1 : Below (w.alloc (.cells #[.int .i64 0, .string ⟨#[]⟩] 49)).heap.size (w.alloc (.cells #[.int .i64 0, .string ⟨#[]⟩] 49)) w1) : w1.frozen? ⟨w.heap.size, 1, none⟩ = false := (hb1.frozen (by simp)).trans (by simp)
theorem below_kept {w w1 : World} (hb1 : Below (w.alloc (.cells #[.int .i64 0, .string ⟨#[]⟩] 49)).heap.size (w.alloc (.cells #[.int .i64 0, .string ⟨#[]⟩] 49)) w1) : Below w.heap.size w w1 := ((Below.refl _ w).alloc (Nat.le_refl _) _).trans (hb1.mono (by simp))
theorem sum_quiet (s : ByteArray) (w : World) (n : Nat) (hs : s.size ≤ 5000) :
    Calls Tryz.prog 142 #[.string s] (w.drewN n) fun e w' => e = .returned (.int .u16 (sumU s.data.toList : Nat)) ∧ ∃ m, w' = w.drewN m :=
 (sum_any s _ hs).mono fun _ _ ⟨he, hw⟩ => ⟨he, n, hw.symm⟩
set_option maxHeartbeats 1000000 in
set_option maxRecDepth 100000 in
theorem look_any (s : ByteArray) (w : World) :
    Calls Tryz.prog 80 #[.string s] w fun e w' => e = .returned (.tuple #[.int .i64 (lookC s.data.toList).1, .int .i64 (lookC s.data.toList).2]) ∧ Below w.heap.size w w' := by
 have hlen : s.data.toList.length = s.size := rfl
 by_cases h0 : s.size = 0
 ·have e : lookC s.data.toList = (0, 0) := by unfold lookC; rw [if_pos (by omega)]
  rw [e]
  obtain rfl : s = ⟨#[]⟩ := by apply ByteArray.ext; exact Array.eq_empty_of_size_eq_zero h0
  go_enter Tryz.func80, Tryz.ntmps80
  go_wp2
  go_ret2
  exact ⟨rfl, Below.refl _ _⟩
 have l0 : 0 < s.size := by omega
 obtain ⟨b0, hb0⟩ : ∃ b, (s[0]'l0).toNat = b := ⟨_, rfl⟩
 have g0 : (s.data.toList.getD 0 0).toNat = b0 := by rw [getD_of l0, hb0]
 have hne : s.toList.isEmpty = false := not_empty h0
 have G0 : Hid ((s.data.toList.getD 0 0).toNat = b0) := g0
 clear g0
 by_cases c0 : b0 = 165
 case neg =>
  rw [lookC_of (by omega) (look0 (by omega) (by rw [G0.out]; exact c0))]
  have c0' : ((b0 : Int) != 165) = true := by simp; omega
  go_enter Tryz.func80, Tryz.ntmps80
  go_wp2
  go_ret2
  exact ⟨rfl, Below.refl _ _⟩
 rw [c0] at G0 hb0
 clear c0 b0
 by_cases h3 : s.size < 3
 case pos =>
  rw [lookC_of (by omega) (look1 (by omega) G0.out (by omega))]
  go_enter Tryz.func80, Tryz.ntmps80
  go_wp2
  go_ret2
  exact ⟨rfl, Below.refl _ _⟩
 have l2 : 2 < s.size := by omega
 obtain ⟨n, hn⟩ : ∃ b, (s[2]'l2).toNat = b := ⟨_, rfl⟩
 have hn8 : n < 256 := by rw [← hn]; exact (s[2]'l2).toNat_lt
 have G2 : Hid ((s.data.toList.getD 2 0).toNat = n) := by show _ = _; rw [getD_of l2, hn]
 by_cases h64 : 64 < n
 case pos =>
  rw [lookC_of (by omega) (look2 G0.out (by omega) G2.out h64)]
  go_enter Tryz.func80, Tryz.ntmps80
  go_wp2
  go_ret2
  exact ⟨rfl, Below.refl _ _⟩
 by_cases h5 : s.size < n + 5
 case pos =>
  rw [lookC_of (by omega) (look3 G0.out (by omega) G2.out (by omega) (by omega))]
  go_enter Tryz.func80, Tryz.ntmps80
  go_wp2
  go_ret2
  exact ⟨rfl, Below.refl _ _⟩
 have l3 : 3 + n < s.size := by omega
 have l4 : 3 + n + 1 < s.size := by omega
 obtain ⟨p, hp⟩ : ∃ b, (s[3 + n]'l3).toNat = b := ⟨_, rfl⟩
 obtain ⟨q, hq⟩ : ∃ b, (s[3 + n + 1]'l4).toNat = b := ⟨_, rfl⟩
 have hp8 : p < 256 := by rw [← hp]; exact (s[3 + n]'l3).toNat_lt
 have hq8 : q < 256 := by rw [← hq]; exact (s[3 + n + 1]'l4).toNat_lt
 have G3 : Hid ((s.data.toList.getD (n + 3) 0).toNat = p) := by show _ = _; rw [show n + 3 = 3 + n by omega, getD_of l3, hp]
 have G4 : Hid ((s.data.toList.getD (n + 4) 0).toNat = q) := by show _ = _; rw [show n + 4 = 3 + n + 1 by omega, getD_of l4, hq]
 have HS : Hid ((s.extract 1 (3 + n)).data.toList = (s.data.toList.drop 1).take (n + 2)) := by show _ = _; rw [extract_list, show 3 + n - 1 = n + 2 by omega]
 have hsz : (s.extract 1 (3 + n)).size ≤ 5000 := by rw [ByteArray.size_extract]; omega
 have hj := join16 hp8 hq8
 obtain ⟨j, hje⟩ : ∃ j, j = p * 256 + q := ⟨_, rfl⟩
 rw [← hje] at hj
 have HJ : Hid (j = p * 256 + q) := hje
 clear hje
 obtain ⟨S, hS⟩ : ∃ S, S = sumU (s.extract 1 (3 + n)).data.toList := ⟨_, rfl⟩
 have hsum : ∀ m, Calls Tryz.prog 142 #[.string (s.extract 1 (3 + n))] (w.drewN m) fun e w' => e = .returned (.int .u16 (S : Nat)) ∧ ∃ m, w' = w.drewN m := fun m => by
  rw [hS]
  exact sum_quiet _ _ _ hsz
 have hsl : ∀ W : World, (Instr.slice 9 (.string s) (some (.int .i64 1)) (some (.int .i64 (3 + (n : Int)))) none).run Tryz.prog W = .ok (.string (s.extract 1 (3 + n))) W := fun W => by
  rw [run_slice_string W 9 s .i64 .i64 1 (3 + (n : Int)) Tryz.underlying9 (by omega) (by omega) (by omega), show (3 + (n : Int)).toNat = 3 + n by omega]
  rfl
 have hi3 : ∀ W : World, (Instr.index 9 (.string s) (.int .i64 (3 + (n : Int)))).run Tryz.prog W = .ok (.int .u8 (p : Nat)) W := fun W => by
  rw [run_index_string W 9 s .i64 (3 + (n : Int)) Tryz.underlying9, dif_pos (by omega)]
  have : (3 + (n : Int)).toNat = 3 + n := by omega
  simp only [this, hp]
 have hi4 : ∀ W : World, (Instr.index 9 (.string s) (.int .i64 (3 + (n : Int) + 1))).run Tryz.prog W = .ok (.int .u8 (q : Nat)) W := fun W => by
  rw [run_index_string W 9 s .i64 (3 + (n : Int) + 1) Tryz.underlying9, dif_pos (by omega)]
  have : (3 + (n : Int) + 1).toNat = 3 + n + 1 := by omega
  simp only [this, hq]
 have HS' : Hid (S = sumU ((s.data.toList.drop 1).take (n + 2))) := by show _ = _; rw [hS, HS.out]
 clear hS hsz HS hp hq
 by_cases hs : S = j
 ·rw [lookC_of (by omega) (look5 G0.out G2.out (by omega) (by omega) (by rw [G3.out, G4.out, ← HJ.out, ← HS'.out]; exact hs))]
  have ht : ((S : Int) != (j : Int)) = false := by simp; omega
  have HH : Hid (S = j) := hs
  clear hs
  go_enter Tryz.func80, Tryz.ntmps80
  go_wp2
  go_quiet ((go_at_call 142; exact hsum _))
  go_wp2
  go_ret2
  refine ⟨?_, below_alike⟩
  show _ = Ending.returned (.tuple #[.int .i64 2, .int .i64 ((n : Int) + 5)])
  rw [show (n : Int) + 5 = 3 + n + 2 by omega]
  rfl
 ·rw [lookC_of (by omega) (look4 G0.out G2.out (by omega) (by omega) (by rw [G3.out, G4.out, ← HJ.out, ← HS'.out]; exact hs))]
  have ht : ((S : Int) != (j : Int)) = true := by simp; omega
  go_enter Tryz.func80, Tryz.ntmps80
  go_wp2
  go_quiet ((go_at_call 142; exact hsum _))
  go_wp2
  go_ret2
  exact ⟨rfl, below_alike⟩
end Go.Proofs.YtbophanlmkbfeaaGreatDoor
namespace Go.Proofs.YtbophanlmkbfeaaGreatDoor
open Go.RowKit
def cellsOf (l : List (UInt8 × List UInt8)) : List Value := l.flatMap fun x => [.int .i64 (x.1.toNat : Nat), .string ⟨x.2.toArray⟩]
theorem cellsOf_length (l : List (UInt8 × List UInt8)) : (cellsOf l).length = l.length * 2 := by
 induction l with
 | nil => rfl
 | cons x l ih => simp only [cellsOf, List.flatMap_cons, List.length_append, List.length_cons, List.length_nil] at ih ⊢; omega
theorem cellsOf_append (l m : List (UInt8 × List UInt8)) : cellsOf (l ++ m) = cellsOf l ++ cellsOf m := by simp [cellsOf]
theorem cellsOf_at : ∀ (l : List (UInt8 × List UInt8)) (i : Nat) (h : i < l.length), (cellsOf l)[i * 2]? = some (.int .i64 (l[i].1.toNat : Nat)) ∧ (cellsOf l)[i * 2 + 1]? = some (.string ⟨l[i].2.toArray⟩)
 | x :: l, 0, _ => ⟨rfl, rfl⟩
 | x :: l, i + 1, h => by
  have := cellsOf_at l i (by simpa using h)
  have e : cellsOf (x :: l) = [.int .i64 (x.1.toNat : Nat), .string ⟨x.2.toArray⟩] ++ cellsOf l := rfl
  rw [e, show (i + 1) * 2 = i * 2 + 2 by omega]
  exact this
def Frames (B : Nat) (w : World) (v : Value) (l : List (UInt8 × List UInt8)) : Prop := w.ownsRow B 49 2 v l.length (cellsOf l)
theorem Frames.below {B : Nat} {w w' : World} {v : Value} {l : List (UInt8 × List UInt8)} (h : Frames B w v l) (hb : Below w.heap.size w w') : Frames B w' v l := by
 refine ⟨h.1, ?_⟩
 rcases h.2 with hn | ⟨g, cap, cur, rfl, hg, hgg, rest⟩
 ·exact .inl hn
 ·exact .inr ⟨g, cap, cur, rfl, hg, by rw [hb.block g (Array.getElem?_eq_some_iff.1 hgg).1]; exact hgg, rest⟩
theorem Frames.base {B B' : Nat} {w : World} {v : Value} {l : List (UInt8 × List UInt8)} (h : Frames B' w v l) (hB : B ≤ B') : Frames B w v l :=
 ⟨h.1, h.2.imp id (fun ⟨g, cap, cur, a, b, c⟩ => ⟨g, cap, cur, a, Nat.le_trans hB b, c⟩)⟩
end Go.Proofs.YtbophanlmkbfeaaGreatDoor
namespace Go.Proofs.YtbophanlmkbfeaaGreatDoor
open Go.RowKit
theorem frame_info : (Tryz.prog.info? 49).map (fun i => (i.zero, i.size, i.bytes)) = some (some (.agg #[.int .i64 0, .string ⟨#[]⟩]), 2, 24) := by kernel_rfl
theorem cell_two_new (w : World) (x y : Value) (t : TypeId) : ∀ j u, [x, y][j]? = some u → (w.alloc (.cells #[x, y] t)).cell? ((⟨w.heap.size, 0, none⟩ : Addr).add j) = some u := by
 intro j u hj
 match j, hj with
 | 0, hj => simp at hj; subst hj; simp [Addr.add]
 | 1, hj => simp at hj; subst hj; simp [Addr.add]
 | (j + 2), hj => simp at hj
theorem cell_two_top (U : World) (g : Nat) (x y : Value) (t : TypeId) (hg : g = U.heap.size) : ∀ j u, [x, y][j]? = some u → (U.alloc (.cells #[x, y] t)).cell? ((⟨g, 0, none⟩ : Addr).add j) = some u := by
 subst hg
 exact cell_two_new U x y t
def lenS : Value → Nat
 | .string t => t.size
 | _ => 0
theorem mkBytes {s : ByteArray} {l : List UInt8} (h : s.data.toList = l) : s = ⟨l.toArray⟩ := ByteArray.ext (Array.toList_inj.1 (by rw [h]))
def ScanEnd (L : List UInt8) (w : World) (e : Ending) (w' : World) : Prop :=
 ∃ (v : Value) (r : ByteArray), e = .returned (.tuple #[v, .string r, .int .i64 ((scanL L).2.2 : Nat)]) ∧ r.data.toList = (scanL L).2.1 ∧ Frames w.heap.size w' v (scanL L).1 ∧ Below w.heap.size w w'
def SoFar (L : List UInt8) (acc : List (UInt8 × List UInt8)) (t : List UInt8) (o : Nat) : Prop :=
 scanL L = (acc ++ (scanL t).1, (scanL t).2.1, o + (scanL t).2.2) ∧ acc.length + t.length + o ≤ L.length
theorem SoFar.start (L : List UInt8) : SoFar L [] L 0 := ⟨by simp, by simp⟩
theorem SoFar.skip {L t : List UInt8} {acc : List (UInt8 × List UInt8)} {o : Nat} (h : SoFar L acc t o) (hl : look t = some 0) : SoFar L acc (t.drop 1) (o + 1) := by
 have l := (look_len hl).1
 refine ⟨by rw [h.1, scanL_skip hl]; simp; omega, ?_⟩
 have := h.2
 rw [List.length_drop]
 omega
theorem SoFar.frame {L t : List UInt8} {acc : List (UInt8 × List UInt8)} {o n : Nat} (h : SoFar L acc t o) (hl : look t = some (n + 1)) : SoFar L (acc ++ [(t.getD 1 0, (t.drop 3).take n)]) (t.drop (n + 5)) o := by
 have l := ((look_len hl).2 n rfl).1
 refine ⟨by rw [h.1, scanL_frame hl]; simp, ?_⟩
 have := h.2
 rw [List.length_drop, List.length_append]
 simp
 omega
theorem SoFar.stop {L t : List UInt8} {acc : List (UInt8 × List UInt8)} {o : Nat} (h : SoFar L acc t o) (hl : look t = none) : scanL L = (acc, t, o) := by
 rw [h.1, scanL_none hl]
 simp
end Go.Proofs.YtbophanlmkbfeaaGreatDoor
namespace Go.Proofs.YtbophanlmkbfeaaGreatDoor
open Go.Shelf Go.RowKit
def cloneRen : Go.Shelf.Ren := ⟨fun | 316 => 145 | n => n, fun | 9 => 9 | 3 => 3 | 4 => 4 | 37 => 135 | 0 => 0 | 127 => 259 | 5 => 5 | n => n, fun | n => n⟩
theorem cloneLays : Go.Proofs.LaysM.n316 Tryz.prog cloneRen := {
 mixed := by kernel_rfl
 f316 := Tryz.func145.trans (congrArg some (by kernel_rfl))
 t0 := Tryz.underlying0
 a0 := Tryz.isAgg0
 z0 := Tryz.sizeOf0
 v0 := Tryz.zeroValue0
 t3 := Tryz.underlying3
 a3 := Tryz.isAgg3
 z3 := Tryz.sizeOf3
 v3 := Tryz.zeroValue3
 t4 := Tryz.underlying4
 a4 := Tryz.isAgg4
 z4 := Tryz.sizeOf4
 v4 := Tryz.zeroValue4
 t9 := Tryz.underlying9
 a9 := Tryz.isAgg9
 z9 := Tryz.sizeOf9
 v9 := Tryz.zeroValue9
 t37 := Tryz.underlying135
 a37 := Tryz.isAgg135
 z37 := Tryz.sizeOf135
 v37 := Tryz.zeroValue135
 t127 := Tryz.underlying259
 a127 := Tryz.isAgg259
 z127 := Tryz.sizeOf259
 v127 := Tryz.zeroValue259
 t5 := Tryz.underlying5
 a5 := Tryz.isAgg5
 z5 := Tryz.sizeOf5
 v5 := Tryz.zeroValue5
 i0 := by kernel_rfl
 i3 := by kernel_rfl
 i4 := by kernel_rfl
 i5 := by kernel_rfl
 i9 := by kernel_rfl
 i37 := by kernel_rfl
 i127 := by kernel_rfl }
theorem lite_any (s : ByteArray) (w : World) (h : s.size ≤ 281474976710656) :
    Calls Tryz.prog 145 #[.string s] w fun e w' => e = .returned (.string s) ∧ Below w.heap.size w w' := Any.stringslite_Clone cloneLays s w h
theorem clone_any (s : ByteArray) (w : World) (h : s.size ≤ 281474976710656) :
    Calls Tryz.prog 81 #[.string s] w fun e w' => e = .returned (.string s) ∧ Below w.heap.size w w' := by
 go_enter Tryz.func81, Tryz.ntmps81
 go_wp2_with (go_at_call 145; refine (lite_any s _ h).mono ?_; rintro e w' ⟨rfl, hb⟩)
 go_ret
 exact ⟨rfl, hb⟩
end Go.Proofs.YtbophanlmkbfeaaGreatDoor
namespace Go.Proofs.YtbophanlmkbfeaaGreatDoor
open Go.RowKit
set_option maxHeartbeats 1000000 in
set_option maxRecDepth 100000 in
theorem unwrap_any (s : ByteArray) (k : Nat) (w : World) (h5 : 5 ≤ s.size) (hm : s.size ≤ 5000) (hk : (s[1]'(by omega)).toNat = k) :
    Calls Tryz.prog 82 #[.string s] w fun e w' => e = .returned (.agg #[.int .i64 (k : Nat), .string (s.extract 3 (s.size - 2))]) ∧ Below w.heap.size w w' := by
 have hk8 : k < 256 := by rw [← hk]; exact (s[1]'(by omega)).toNat_lt
 have hsz : (s.extract 3 (s.size - 2)).size ≤ 281474976710656 := by rw [ByteArray.size_extract]; omega
 have hsl : ∀ W : World, (Instr.slice 9 (.string s) (some (.int .i64 3)) (some (.int .i64 ((s.size : Int) - 2))) none).run Tryz.prog W = .ok (.string (s.extract 3 (s.size - 2))) W := fun W => by
  rw [run_slice_string W 9 s .i64 .i64 3 ((s.size : Int) - 2) Tryz.underlying9 (by omega) (by omega) (by omega), show ((s.size : Int) - 2).toNat = s.size - 2 by omega]
  rfl
 have hcl := fun W => clone_any (s.extract 3 (s.size - 2)) W hsz
 have hw : IntKind.i64.wrap ((s.size : Int) - 2) = (s.size : Int) - 2 := by rw [IntKind.wrap_i64]; omega
 have hv : IntKind.i64.wrap (k : Int) = (k : Int) := by rw [IntKind.wrap_i64]; omega
 go_enter Tryz.func82, Tryz.ntmps82
 go_wp2
 go_region_with (go_at_call 81; refine (hcl _).mono ?_; rintro e w1 ⟨rfl, hb1⟩; have k0 : w1.cell? ⟨w.heap.size, 0, none⟩ = some (.int .i64 0) := (hb1.cell (by simp)).trans (by simp); have k1 : w1.cell? ⟨w.heap.size, 1, none⟩ = some (.string ⟨#[]⟩) := (hb1.cell (by simp)).trans (by simp); have f0 : w1.frozen? ⟨w.heap.size, 0, none⟩ = false := (hb1.frozen (by simp)).trans (by simp); have f1 : w1.frozen? ⟨w.heap.size, 1, none⟩ = false := (hb1.frozen (by simp)).trans (by simp))
 all_goals
  go_wp2
  have hb0 : Below w.heap.size w (w.alloc (.cells #[.int .i64 0, .string ⟨#[]⟩] 49)).drew := ((Below.refl _ w).alloc (Nat.le_refl _) _).drew
  have hb2 : Below w.heap.size w w1 := hb0.trans (hb1.mono (by simp))
  refine bodyPost_ret (v := .agg #[.int .i64 (k : Nat), .string (s.extract 3 (s.size - 2))]) (by simp [results, Tryz.results82, go_sem, k0, k1]) rfl ⟨rfl, ?_⟩
  exact (hb2.setCell (Nat.le_refl _) _).setCell (Nat.le_refl _) _
end Go.Proofs.YtbophanlmkbfeaaGreatDoor
namespace Go.Proofs.YtbophanlmkbfeaaGreatDoor
open Go.RowKit
set_option maxHeartbeats 4000000 in
set_option maxRecDepth 100000 in
theorem scan_any (s : ByteArray) (w : World) (hs : s.size ≤ 5000) :
    Calls Tryz.prog 43 #[.string s] w fun e w' => ScanEnd s.data.toList w e w' := by
 obtain ⟨i0, hi, hz0, hz1, hz2⟩ := info_parts frame_info
 have hL : s.data.toList.length ≤ 5000 := hs
 generalize hLe : s.data.toList = L at hL ⊢
 have HS : Hid (s.data.toList = L) := hLe
 clear hLe
 go_enter Tryz.func43, Tryz.ntmps43
 go_wp2
 go_loopw [0, 5, 6] (fun sv v ov wr => ∃ (t : ByteArray) (acc : List (UInt8 × List UInt8)) (o : Nat), sv = .string t ∧ ov = .int .i64 o ∧ SoFar L acc t.data.toList o ∧ Frames w.heap.size wr v acc ∧ Below w.heap.size w wr)
  (fun sv _ _ _ => lenS sv)
 case atStart => exact ⟨s, [], 0, rfl, rfl, by rw [HS.out]; exact SoFar.start L, World.ownsRow_nil _ _ _ _, Below.refl _ _⟩
 case round =>
  obtain ⟨t, acc, o, rfl, rfl, hf, hown, hnx⟩ := hrel
  have htl : t.data.toList.length = t.size := rfl
  have hbd := hf.2
  have HF : Hid (SoFar L acc t.data.toList o) := hf
  have HO : Hid (Frames w.heap.size wr u5 acc) := hown
  clear hf hown
  by_cases h0 : t.size = 0
  ·obtain rfl : t = ⟨#[]⟩ := ByteArray.ext (Array.eq_empty_of_size_eq_zero h0)
   have HE : Hid (scanL L = (acc, [], o)) := HF.out.stop look_nil
   go_wp2
   go_ret3
   exact ⟨_, ⟨#[]⟩, by rw [HE.out]; rfl, by rw [HE.out], by rw [HE.out]; exact HO.out, hnx⟩
  have hne : t.toList.isEmpty = false := not_empty h0
  have hlk := look_any t
  cases hlo : look t.data.toList with
  | none =>
   rw [lookC_of (by omega) hlo, show lookP none = (1, 0) from rfl] at hlk
   have HE : Hid (scanL L = (acc, t.data.toList, o)) := HF.out.stop hlo
   clear hlo
   go_wp2_with (first | (go_at_call 80; refine (hlk _).mono ?_; rintro e w1 ⟨rfl, hb1⟩) | (go_at_call 81; refine (clone_any t _ (by omega)).mono ?_; rintro e w2 ⟨rfl, hb2⟩))
   go_ret3
   have hb3 := hb1.trans (hb2.mono hb1.size)
   exact ⟨_, t, by rw [HE.out]; rfl, by rw [HE.out], by rw [HE.out]; exact HO.out.below hb3, hnx.trans (hb3.mono hnx.size)⟩
  | some j =>
   cases j with
   | zero =>
    rw [lookC_of (by omega) hlo, show lookP (some 0) = (0, 0) from rfl] at hlk
    have HE : Hid (SoFar L acc (t.data.toList.drop 1) (o + 1)) := HF.out.skip hlo
    have hsl : ∀ W : World, (Instr.slice 9 (.string t) (some (.int .i64 1)) none none).run Tryz.prog W = .ok (.string (t.extract 1 t.size)) W := fun W => by
     rw [run_slice_string_from_if W 9 t .i64 1 Tryz.underlying9, if_pos (by omega)]
     rfl
    obtain ⟨u, hu⟩ : ∃ u : ByteArray, u = t.extract 1 t.size := ⟨_, rfl⟩
    rw [← hu] at hsl
    have hul : Hid (u.data.toList = t.data.toList.drop 1) := by show _ = _; rw [hu]; exact Lib.extract_to_end t 1
    have hus : u.size = t.size - 1 := by rw [hu, ByteArray.size_extract]; omega
    clear hlo hu
    go_wp2_with (go_at_call 80; refine (hlk _).mono ?_; rintro e w1 ⟨rfl, hb1⟩)
    go_roundw
    case rel => exact ⟨u, acc, o + 1, rfl, by go_num, by rw [hul.out]; exact HE.out, HO.out.below hb1, hnx.trans (hb1.mono hnx.size)⟩
    case measure => simp [lenS]; omega
   | succ n =>
    rw [lookC_of (by omega) hlo, show lookP (some (n + 1)) = (2, (n : Int) + 5) from rfl] at hlk
    have HE : Hid (SoFar L (acc ++ [(t.data.toList.getD 1 0, (t.data.toList.drop 3).take n)]) (t.data.toList.drop (n + 5)) o) := HF.out.frame hlo
    have h5 := ((look_len hlo).2 n rfl).1
    have hn64 := ((look_len hlo).2 n rfl).2.2
    have l1 : 1 < t.size := by omega
    obtain ⟨k, hk⟩ : ∃ k : Nat, k = (t.data.toList.getD 1 0).toNat := ⟨_, rfl⟩
    have hsl : ∀ W : World, (Instr.slice 9 (.string t) none (some (.int .i64 ((n : Int) + 5))) none).run Tryz.prog W = .ok (.string (t.extract 0 (n + 5))) W := fun W => by
     rw [run_slice_string_h W 9 t Tryz.underlying9 .i64 ((n : Int) + 5) (by omega) (by omega), show ((n : Int) + 5).toNat = n + 5 by omega]
    have hsr : ∀ W : World, (Instr.slice 9 (.string t) (some (.int .i64 ((n : Int) + 5))) none none).run Tryz.prog W = .ok (.string (t.extract (n + 5) t.size)) W := fun W => by
     rw [run_slice_string_from_if W 9 t .i64 ((n : Int) + 5) Tryz.underlying9, if_pos (by omega), show ((n : Int) + 5).toNat = n + 5 by omega]
    obtain ⟨x, hx⟩ : ∃ u : ByteArray, u = t.extract 0 (n + 5) := ⟨_, rfl⟩
    obtain ⟨y, hy⟩ : ∃ u : ByteArray, u = t.extract (n + 5) t.size := ⟨_, rfl⟩
    rw [← hx] at hsl
    rw [← hy] at hsr
    have hxs : x.size = n + 5 := by rw [hx, ByteArray.size_extract]; omega
    have hys : y.size = t.size - (n + 5) := by rw [hy, ByteArray.size_extract]; omega
    have hxl : x.data.toList = t.data.toList.take (n + 5) := by rw [hx, extract_list]; rfl
    have hyl : Hid (y.data.toList = t.data.toList.drop (n + 5)) := by show _ = _; rw [hy]; exact Lib.extract_to_end t (n + 5)
    have x1 : 1 < x.size := by omega
    have hxk : (x[1]'x1).toNat = k := by
     rw [← getD_of x1, hxl, hk]
     simp [List.getD_eq_getElem?_getD]
    have hun := fun W => unwrap_any x k W (by omega) (by omega) hxk
    obtain ⟨d, hd⟩ : ∃ d : ByteArray, d = x.extract 3 (x.size - 2) := ⟨_, rfl⟩
    rw [← hd] at hun
    have hdl : d = ⟨((t.data.toList.drop 3).take n).toArray⟩ := mkBytes (by
     rw [hd, extract_list, hxl, List.drop_take, List.take_take]
     congr 1
     omega)
    have HN : Hid (cellsOf (acc ++ [(t.data.toList.getD 1 0, (t.data.toList.drop 3).take n)]) = cellsOf acc ++ [.int .i64 (k : Nat), .string d]) := by
     show _ = _
     rw [cellsOf_append, hk, hdl]
     rfl
    have HLen : Hid ((acc ++ [(t.data.toList.getD 1 0, (t.data.toList.drop 3).take n)]).length = acc.length + 1) := by show _ = _; simp
    clear hlo hx hy hxl hd hdl hk
    generalize acc ++ [(t.data.toList.getD 1 0, (t.data.toList.drop 3).take n)] = acc' at HE HN HLen
    go_wp2_with (first
     | (go_at_call 80; refine (hlk _).mono ?_; rintro e w1 ⟨rfl, hb1⟩)
     | (go_at_call 82; refine (hun _).mono ?_; rintro e w2 ⟨rfl, hb2⟩)
     | (at_builtin; refine wpList_append_own _ rfl (.tmp 29) (.tmp 34) 64 rfl w.heap.size 49 i0 (.agg #[.int .i64 0, .string ⟨#[]⟩]) 2 24 Tryz.underlying64 hi hz0 hz1 hz2 rfl (by decide) _ _ _ rfl (((HO.out.below hb1).below hb2).alloc _) ⟨w2.heap.size, 0, none⟩ 1 1 [.int .i64 (k : Nat), .string d] rfl rfl (cell_two_new _ _ _ _) (by intro u hu; simp at hu; rcases hu with rfl | rfl <;> rfl) (by unfold maxLen; omega) (by omega) (by have := hb2.size; have := hb1.size; have := hnx.size; simp; omega) ?_; intro v3 w3 hown3 hgrow3 hnil3))
    have hF := (HO.out.below hb1).below hb2
    have hb3 := hb1.trans (hb2.mono hb1.size)
    have hbw := hnx.trans (hb3.mono hnx.size)
    have hbz := (hbw.alloc hbw.size (.cells #[.int .i64 (k : Nat), .string d] 49)).grown hgrow3 (by have := hbw.size; simp; omega) (fun j hj => (World.ownsRow.lt hF j hj).1)
    clear hnil3 hgrow3
    go_roundw
    case rel => exact ⟨y, acc', o, rfl, rfl, by rw [hyl.out]; exact HE.out, by unfold Frames; rw [HLen.out, HN.out]; exact hown3, hbz⟩
    case measure => simp [lenS]; omega
end Go.Proofs.YtbophanlmkbfeaaGreatDoor
namespace Go.Proofs.YtbophanlmkbfeaaGreatDoor
open Go.RowKit
def SlOk (sl : Value) (l : List (UInt8 × List UInt8)) : Prop := (sl = .slice none 0 0 ∧ l = []) ∨ ∃ cap, sl = .slice (some ⟨3, 0, none⟩) l.length cap
theorem SlOk.real {sl v : Value} {l : List (UInt8 × List UInt8)} {bl : Bl} (h : SlOk sl l) (r : RV bl sl v) : ∃ A cap, v = .slice A l.length cap ∧ (l ≠ [] → ∃ B, bl[3]? = some (some B) ∧ A = some ⟨B, 0, none⟩) := by
 rcases h with ⟨rfl, rfl⟩ | ⟨cap, rfl⟩
 ·exact ⟨none, 0, r, fun e => absurd rfl e⟩
 ·obtain ⟨B, h1, e⟩ := r
  exact ⟨_, cap, e, fun _ => ⟨B, h1, rfl⟩⟩
def frL (l : List (UInt8 × List UInt8)) (i : Int) : Fra := match l[i.toNat]? with
 | some f => ((f.1.toNat : Nat), ⟨f.2.toArray⟩)
 | none => (0, ⟨#[]⟩)
def r6 (ks : List Nat) (l : List (UInt8 × List UInt8)) (K : List Value → Xm → Prop) (vt : List Value) (m : Xm) : Prop :=
 SlOk (vt.getD 8 undef) l ∧ 33 < vt.length ∧ forget ks 67 5 K (((vt.set 31 (vt.getD 8 undef)).set 32 (.int .i64 (l.length : Nat))).set 33 (.int .i64 0)) m
def r8 (l : List (UInt8 × List UInt8)) (K : List Value → Xm → Prop) (vt : List Value) (m : Xm) : Prop :=
 match vt.getD 33 undef with
 | .int .i64 i => (0 ≤ i ∧ i.toNat < l.length) ∧ SlOk (vt.getD 31 undef) l ∧ m[3]? = some (cellsOf l) ∧ m.length = 5 ∧ 36 < vt.length ∧ K (((vt.set 35 .nilIface).set 36 .nilIface).set 13 (.pointer (some ⟨5, 0, none⟩))) (m ++ [[.int .i64 (frL l i).1, .string (frL l i).2]])
 | _ => False
section
variable {P : Program} {bs : List Nat} {w0 : World} {ds : List Deferred} {bl0 : Bl} {l : List (UInt8 × List UInt8)} {K : List Value → Xm → Prop} {Q : Exit → Act → World → Prop} {bl : Bl} {vt : List Value} {m : Xm} {a : Act} {w : World}
theorem put_get {a : Act} {d : Nat} {v : Value} (h : d < a.tmps.size) : (a.put (some d) v).eval (.tmp d) = v := by
 simp [Act.put, Act.eval, h]
theorem put_other {a : Act} {d e : Nat} {v : Value} (h : d ≠ e) : (a.put (some d) v).eval (.tmp e) = a.eval (.tmp e) := by
 simp [Act.put, Act.eval, Array.getElem?_setIfInBounds_ne h]
theorem put_size {a : Act} {d : Option Tmp} {v : Value} : (a.put d v).tmps.size = a.tmps.size := by
 cases d <;> simp [Act.put]
theorem r6_sound {ks : List Nat} {ops : Array Oper} {tS e : TypeId} {o0 o1 o2 : Oper} (hb : bl0.length ≤ 5) (hu : P.underlying tS = some (.slice e)) (ho : ops = #[o0, o1, o2])
    (h0 : o0.dst = some 31 ∧ o0.op = .move (.tmp 8) ∧ o0.guard = none) (h1 : o1.dst = some 32 ∧ o1.op = .call { callee := .builtin .len, args := #[.tmp 31], argTypes := #[tS] } ∧ o1.guard = none) (h2 : o2.dst = some 33 ∧ o2.op = .move (.const (.int .i64 0)) ∧ o2.guard = none)
    (h : r6 ks l K vt m) (r : Rl bs w0 ds bl0 bl vt m a w) (hK : ∀ bl vt m a w, K vt m → Rl bs w0 ds bl0 bl vt m a w → Q .normal a w) : (Code.region 6 ops false).wp P Q a w := by
 subst ho
 have hlen := r.F.len
 have hlt := h.2.1
 have hv := r.F.rv 8
 obtain ⟨A, cap, hs, _⟩ := h.1.real hv
 have hs' : a.eval (.tmp 8) = .slice A l.length cap := hs
 rw [hs] at hv
 refine wp_region ?_
 refine ops_val (o := o0) (v := .slice A l.length cap) (w' := w) rfl h0.2.2 (by simp [execOp, h0.2.1, hs']) ?_
 rw [h0.1]
 refine ops_val (o := o1) (v := .int .i64 (l.length : Nat)) (w' := w) rfl h1.2.2 ?_ ?_
 ·have e1 : (a.put (some 31) (.slice A l.length cap)).eval (.tmp 31) = .slice A l.length cap := put_get (by omega)
  generalize a.put (some 31) (.slice A l.length cap) = a1 at e1 ⊢
  have r0 := run_under hu w
  simp [execOp, h1.2.1, resolve, invoke, builtin, e1, Builtin.len_, r0, goInt]
 rw [h1.1]
 refine ops_val (o := o2) (v := .int .i64 0) (w' := w) rfl h2.2.2 (by simp [execOp, h2.2.1, Act.eval]) ?_
 rw [h2.1]
 have F : FR bl _ (((a.put (some 31) (.slice A l.length cap)).put (some 32) (.int .i64 (l.length : Nat))).put (some 33) (.int .i64 0)).tmps := ((r.F.put hv (some 31)).put (show RV bl (.int .i64 (l.length : Nat)) (.int .i64 (l.length : Nat)) from rfl) (some 32)).put (show RV bl (.int .i64 0) (.int .i64 0) from rfl) (some 33)
 have r' : Rl bs w0 ds bl0 bl _ m (((a.put (some 31) (.slice A l.length cap)).put (some 32) (.int .i64 (l.length : Nat))).put (some 33) (.int .i64 0)) w := ⟨F, r.R, r.le, r.len, by rw [put_defers, put_defers, put_defers]; exact r.defers⟩
 obtain ⟨bl', vt', m', k1, k2⟩ := r'.cut hb h.2.2
 exact hK bl' vt' m' _ w k1 k2
theorem r8_sound {ops : Array Oper} {tS tF : TypeId} {o0 o1 o2 o3 : Oper} (hu : P.underlying tS = some (.slice tF)) (hz : qrun P (sizeOf tF) = some 2) (ha : qrun P (isAgg tF) = some true) {z : Value} (hzv : qrun P (zeroValue tF) = some z) (hzl : z.cells.toList.length = 2) (ho : ops = #[o0, o1, o2, o3])
    (h0 : o0.dst = some 35 ∧ o0.op = .indexAddr tS (.tmp 31) (.tmp 33) ∧ o0.guard = none) (h1 : o1.dst = some 36 ∧ o1.op = .load tF (.tmp 35) ∧ o1.guard = none) (h2 : o2.dst = some 13 ∧ o2.op = .alloc tF ∧ o2.guard = none) (h3 : o3.dst = none ∧ o3.op = .store tF (.tmp 13) (.tmp 36) ∧ o3.guard = none)
    (h : r8 l K vt m) (r : Rl bs w0 ds bl0 bl vt m a w) (hK : ∀ bl vt m a w, K vt m → Rl bs w0 ds bl0 bl vt m a w → Q .normal a w) : (Code.region 8 ops false).wp P Q a w := by
 subst ho
 have hlen := r.F.len
 unfold r8 at h
 split at h
 case h_2 => exact h.elim
 rename_i i hi
 obtain ⟨⟨hi0, hil⟩, hsl, hm3, hm5, hlt, hk⟩ := h
 have hiv := r.F.rv 33
 rw [hi] at hiv
 have hi' : a.eval (.tmp 33) = .int .i64 i := hiv
 obtain ⟨A, cap, hs, hB⟩ := hsl.real (r.F.rv 31)
 have hs' : a.eval (.tmp 31) = .slice A l.length cap := hs
 obtain ⟨B, hb3, rfl⟩ := hB (by rintro rfl; simp at hil)
 obtain ⟨row, e3, A3⟩ := r.R.arr 3 B hb3
 rw [hm3] at e3
 cases e3
 have hrow : loadV P tF (cellsOf l) (i.toNat * 2) = some (.agg #[.int .i64 (frL l i).1, .string (frL l i).2]) := by
  have hc := cellsOf_at l i.toNat hil
  have hcl := cellsOf_length l
  have hf : frL l i = (((l[i.toNat].1.toNat : Nat) : Int), (⟨l[i.toNat].2.toArray⟩ : ByteArray)) := by unfold frL; rw [List.getElem?_eq_getElem hil]
  unfold loadV
  rw [ha, hz]
  dsimp only
  rw [if_pos (by omega), hf]
  have hd : ((cellsOf l).drop (i.toNat * 2)).take 2 = [.int .i64 (l[i.toNat].1.toNat : Nat), .string ⟨l[i.toNat].2.toArray⟩] := by
   have d1 := (List.getElem?_eq_some_iff.1 hc.1)
   have d2 := (List.getElem?_eq_some_iff.1 hc.2)
   obtain ⟨q1, q2⟩ := d1
   obtain ⟨q3, q4⟩ := d2
   rw [List.drop_eq_getElem_cons q1, List.drop_eq_getElem_cons q3, q2, q4]
   rfl
  rw [hd]
 refine wp_region ?_
 refine ops_val (o := o0) (v := .pointer (some ⟨B, i.toNat * 2, none⟩)) (w' := w) rfl h0.2.2 ?_ ?_
 ·have r0 := run_under hu w
  have r1 := qrun_run _ hz w
  have hil' : i < (l.length : Int) := by omega
  simp [execOp, h0.2.1, hs', hi', Instr.indexAt, asIntOf, r0, r1, hi0, hil', add_is, Sem.run_bind]
 rw [h0.1]
 refine ops_val (o := o1) (v := .agg #[.int .i64 (frL l i).1, .string (frL l i).2]) (w' := w) rfl h1.2.2 ?_ ?_
 ·have e1 : (a.put (some 35) (.pointer (some ⟨B, i.toNat * 2, none⟩))).eval (.tmp 35) = .pointer (some ⟨B, i.toNat * 2, none⟩) := put_get (by omega)
  generalize a.put (some 35) (.pointer (some ⟨B, i.toNat * 2, none⟩)) = a1 at e1 ⊢
  have r1 := loadV_run hrow A3
  simp [execOp, h1.2.1, e1, Instr.loadAt, Instr.sureAddr, r1]
 rw [h1.1]
 have hw3 : (execOp ((a.put (some 35) (.pointer (some ⟨B, i.toNat * 2, none⟩))).put (some 36) (.agg #[.int .i64 (frL l i).1, .string (frL l i).2])).eval o2).run P w = .ok (.value (.pointer (some ⟨w.heap.size, 0, none⟩))) (w.alloc (.cells z.cells.toList.toArray tF)) := by
  have r := qrun_run _ hzv w
  simp [execOp, h2.2.1, Instr.alloc, newVar, newRow, newObj, r, Sem.run]
 refine ops_val (o := o2) rfl h2.2.2 hw3 ?_
 rw [h2.1]
 have hbl : bl.length = 5 := r.len.trans hm5
 have W := r.R.wide 1 [[.int .i64 (frL l i).1, .string (frL l i).2]]
 obtain ⟨N, hle⟩ := W.new (k := 5) (by rw [List.getElem?_append_right (by omega), hbl]; rfl) (by rw [List.length_append, hm5]; exact Nat.lt_succ_self 5) z.cells.toList tF
 have hg5 : ((bl ++ List.replicate 1 none).set 5 (some w.heap.size))[5]? = some (some w.heap.size) := List.getElem?_set_self (by rw [List.length_append, hbl]; exact Nat.lt_succ_self 5)
 have hm6 : ((m ++ [[Value.int .i64 (frL l i).1, Value.string (frL l i).2]]).set 5 z.cells.toList)[5]? = some z.cells.toList := List.getElem?_set_self (by rw [List.length_append, hm5]; exact Nat.lt_succ_self 5)
 obtain ⟨row, e5, A5⟩ := N.arr 5 _ hg5
 rw [hm6] at e5
 cases e5
 have hst : storeV P tF z.cells.toList 0 (.agg #[.int .i64 (frL l i).1, .string (frL l i).2]) = some (setAt z.cells.toList 0 [.int .i64 (frL l i).1, .string (frL l i).2]) := by
  unfold storeV
  rw [hz]
  dsimp only
  rw [if_pos (by rw [hzl]; rfl)]
  rfl
 obtain ⟨r3, _, hl3⟩ := storeV_run hst A5
 refine ops_skip (o := o3) (w' := wset (w.alloc (.cells z.cells.toList.toArray tF)) w.heap.size 0 [.int .i64 (frL l i).1, .string (frL l i).2]) rfl h3.2.2 ?_ ?_
 ·have e1 : (((a.put (some 35) (.pointer (some ⟨B, i.toNat * 2, none⟩))).put (some 36) (.agg #[.int .i64 (frL l i).1, .string (frL l i).2])).put (some 13) (.pointer (some ⟨w.heap.size, 0, none⟩))).eval (.tmp 13) = .pointer (some ⟨w.heap.size, 0, none⟩) := put_get (by rw [put_size, put_size]; omega)
  have e2 : (((a.put (some 35) (.pointer (some ⟨B, i.toNat * 2, none⟩))).put (some 36) (.agg #[.int .i64 (frL l i).1, .string (frL l i).2])).put (some 13) (.pointer (some ⟨w.heap.size, 0, none⟩))).eval (.tmp 36) = .agg #[.int .i64 (frL l i).1, .string (frL l i).2] := (put_other (by decide)).trans (put_get (by rw [put_size]; omega))
  generalize ((a.put (some 35) (.pointer (some ⟨B, i.toNat * 2, none⟩))).put (some 36) (.agg #[.int .i64 (frL l i).1, .string (frL l i).2])).put (some 13) (.pointer (some ⟨w.heap.size, 0, none⟩)) = a3 at e1 e2 ⊢
  simp [execOp, h3.2.1, e1, e2, Instr.storeAt, Instr.sureAddr, r3]
  rfl
 rw [h3.1]
 have hrow5 : setAt z.cells.toList 0 [.int .i64 (frL l i).1, .string (frL l i).2] = [.int .i64 (frL l i).1, .string (frL l i).2] := by
  match z.cells.toList, hzl with
  | [_, _], _ => rfl
 have R5 := N.store hg5 hm6 0 [.int .i64 (frL l i).1, .string (frL l i).2] hl3
 rw [hrow5] at R5
 have hmm : ((m ++ [[Value.int .i64 (frL l i).1, Value.string (frL l i).2]]).set 5 z.cells.toList).set 5 [Value.int .i64 (frL l i).1, Value.string (frL l i).2] = m ++ [[Value.int .i64 (frL l i).1, Value.string (frL l i).2]] := by
  rw [List.set_set, List.set_append_right _ _ (by omega), hm5]
  rfl
 rw [hmm] at R5
 have hL : Le bl ((bl ++ List.replicate 1 none).set 5 (some w.heap.size)) := (Le.wide bl 1).trans hle
 exact hK _ _ _ _ _ hk ⟨(((r.F.mono hL).put (v := .nilIface) (v' := .pointer (some ⟨B, i.toNat * 2, none⟩)) rfl (some 35)).put (v := .nilIface) (v' := .agg #[.int .i64 (frL l i).1, .string (frL l i).2]) rfl (some 36)).put (RV.at hg5 0) (some 13), R5, r.le.trans hL, by rw [List.length_set, List.length_append, List.length_append, hbl, hm5]; rfl, by rw [put_defers, put_defers, put_defers, put_defers]; exact r.defers⟩
end
end Go.Proofs.YtbophanlmkbfeaaGreatDoor
