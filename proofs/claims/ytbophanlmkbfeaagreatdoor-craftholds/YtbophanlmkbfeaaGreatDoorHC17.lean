/-
A part.
A part.
A part.
A part.
A part.
A part.
A part.
A part.
A part.
-/
import Derived.Below
import Derived.Laws.BitsAllLaws
import Derived.Lib.Strings
import Derived.Test.YtbophanlmkbfeaaGreatDoorProg
import Derived.WalkKit
import Derived.WalkLawsBesides
import Derived.WalkSpells
import Derived.RegionTactic
import Derived.BigRegion
import Derived.Laws.OwnMore
import Derived.Laws.IdiomStrings
import Derived.OwnWalk
import Derived.Laws.ResultCell
import Derived.Handy
import Derived.Deep.RegionHeld3
import Derived.Deep.DrawnRows
import Derived.Test.YtbophanlmkbfeaaGreatDoorHC16
import Derived.Test.YtbophanlmkbfeaaGreatDoorHC02
import Derived.Test.YtbophanlmkbfeaaGreatDoorHC11
import Derived.Test.YtbophanlmkbfeaaGreatDoorHC09
import Derived.Test.YtbophanlmkbfeaaGreatDoorHC10
namespace Go.Proofs.YtbophanlmkbfeaaGreatDoor
open Go.RowKit
def bt (s : ByteArray) (i : Nat) : Nat := (s.data.toList.getD i 0).toNat
theorem bt_lt (s : ByteArray) (i : Nat) : bt s i < 256 := UInt8.toNat_lt _
theorem bt_of {s : ByteArray} {i : Nat} (h : i < s.size) : (s[i]'h).toNat = bt s i := by
 have hl : i < s.data.toList.length := h
 unfold bt
 rw [List.getD_eq_getElem?_getD, List.getElem?_eq_getElem hl]
 rfl
def cnt (s : ByteArray) (i : Nat) : Nat := bt s i * 256 + bt s (i + 1)
theorem cnt_lt (s : ByteArray) (i : Nat) : cnt s i < 65536 := by
 have := bt_lt s i
 have := bt_lt s (i + 1)
 unfold cnt
 omega
def sg (n : Nat) : Int := if 32768 ≤ n then (n : Int) - 65536 else n
theorem sg_rng {n : Nat} (h : n < 65536) : -32768 ≤ sg n ∧ sg n ≤ 32767 := by
 unfold sg
 split <;> omega
def tickK (s : ByteArray) : Nat → Nat
 | 0 => 0
 | k + 1 => tickK s k * 256 + bt s k
theorem tickK_lt (s : ByteArray) : ∀ k, tickK s k < 256 ^ k
 | 0 => by show 0 < 1; decide
 | k + 1 => by
  have h := tickK_lt s k
  have := bt_lt s k
  show tickK s k * 256 + bt s k < 256 ^ k * 256
  omega
theorem tickK_le (s : ByteArray) {k : Nat} (h : k ≤ 6) : tickK s k < 281474976710656 :=
 Nat.lt_of_lt_of_le (tickK_lt s k) (show 256 ^ k ≤ 256 ^ 6 from Nat.pow_le_pow_right (by decide) h)
def tickS (s : ByteArray) : Int := (tickK s 6 : Nat)
theorem tickS_rng (s : ByteArray) : 0 ≤ tickS s ∧ tickS s < 281474976710656 := by
 have := tickK_le s (k := 6) (by omega)
 unfold tickS
 omega
theorem bt_head {s : ByteArray} {i n : Nat} (h : i < n) : bt (s.extract 0 n) i = bt s i := by
 unfold bt
 rw [Lib.extract_data]
 simp [List.getD_eq_getElem?_getD, h]
theorem bt_tail {s : ByteArray} {i n : Nat} : bt (s.extract n s.size) i = bt s (n + i) := by
 unfold bt
 rw [Lib.extract_data, List.take_of_length_le (by rw [List.length_drop]; exact Nat.le_refl _)]
 simp [List.getD_eq_getElem?_getD]
theorem tick_head (s : ByteArray) : tickS (s.extract 0 6) = tickS s := by
 unfold tickS
 simp only [tickK]
 rw [bt_head (by decide), bt_head (by decide), bt_head (by decide), bt_head (by decide), bt_head (by decide), bt_head (by decide)]
theorem cnt_tail {s : ByteArray} {i : Nat} : cnt (s.extract 6 s.size) i = cnt s (6 + i) := by
 unfold cnt
 rw [bt_tail, bt_tail, Nat.add_assoc]
theorem or64 {a b : Nat} (ha : a < 1099511627776) (hb : b < 256) : bits .or .i64 ((a : Int) * 256) (b : Int) = ((a * 256 + b : Nat) : Int) := by
 rw [show (a : Int) * 256 = ((a * 256 : Nat) : Int) by omega]
 show IntKind.i64.wrap ((BitVec.ofInt 64 ((a * 256 : Nat) : Int) ||| BitVec.ofInt 64 (b : Int)).toNat : Int) = _
 have e := Nat.two_pow_add_eq_or_of_lt (i := 8) (show b < 2 ^ 8 by omega) a
 rw [BitVec.toNat_or, ofInt_u64 _ (by omega), ofInt_u64 b (by omega), show a * 256 = 2 ^ 8 * a by omega, ← e]
 rw [IntKind.wrap_i64]
 omega
theorem or16 {a b : Nat} (ha : a < 256) (hb : b < 256) : bits .or .u16 ((a : Int) * 256) (b : Int) = ((a * 256 + b : Nat) : Int) := by
 rw [show (a : Int) * 256 = ((a * 256 : Nat) : Int) by omega, u16_or_nat (a * 256) b (by omega) (by omega)]
 have := Nat.two_pow_add_eq_or_of_lt (i := 8) (show b < 2 ^ 8 by omega) a
 rw [show a * 256 = 2 ^ 8 * a by omega, ← this]
def gyroIn (a : Int) : Bool := decide (-30000 ≤ a ∧ a ≤ 30000)
def gyroOk (a b c : Int) : Bool := gyroIn a && gyroIn b && gyroIn c
def gyroV (a b c : Int) : V3 := (a * 33554432, b * 33554432, c * 33554432)
def magS (a b c : Int) : V3 × Bool :=
 let r0 := partS false 1099511627776 a 100
 let r1 := partS r0.2 1099511627776 b 100
 let r2 := partS r1.2 1099511627776 c 100
 ((r0.1, r1.1, r2.1), r2.2)
def magN (a b c : Int) : Int := (vNormS (magS a b c).2 (magS a b c).1).1
def magOk (a b c : Int) : Bool := decide (1099511627776 ≤ magN a b c) && decide (magN a b c ≤ 131941395333120)
def sunD (a b c d e f : Int) : V3 := ((a - b) * 16777216, (c - d) * 16777216, (e - f) * 16777216)
def sunS (a b c d e f : Int) : V3 × Bool := vUnitS false (sunD a b c d e f)
def lit (a b c d e f : Int) : Bool := decide (2000 ≤ a) || decide (2000 ≤ b) || decide (2000 ≤ c) || decide (2000 ≤ d) || decide (2000 ≤ e) || decide (2000 ≤ f)
def sunOk (a b c d e f : Int) : Bool := lit a b c d e f && !(sunS a b c d e f).2
def saidV (k : Int) (s : ByteArray) (o : Nat) : V3 :=
 if k = 1 then gyroV (sg (cnt s o)) (sg (cnt s (o + 2))) (sg (cnt s (o + 4)))
 else if k = 3 then (magS (sg (cnt s o)) (sg (cnt s (o + 2))) (sg (cnt s (o + 4)))).1
 else (sunS (cnt s o) (cnt s (o + 2)) (cnt s (o + 4)) (cnt s (o + 6)) (cnt s (o + 8)) (cnt s (o + 10))).1
def saidOk (k : Int) (s : ByteArray) (o : Nat) : Bool :=
 if k = 1 then gyroOk (sg (cnt s o)) (sg (cnt s (o + 2))) (sg (cnt s (o + 4)))
 else if k = 3 then magOk (sg (cnt s o)) (sg (cnt s (o + 2))) (sg (cnt s (o + 4)))
 else sunOk (cnt s o) (cnt s (o + 2)) (cnt s (o + 4)) (cnt s (o + 6)) (cnt s (o + 8)) (cnt s (o + 10))
def formOk (k : Int) (s : ByteArray) : Bool := (decide (k = 1) && decide (s.size = 12)) || (decide (k = 3) && decide (s.size = 12)) || (decide (k = 2) && decide (s.size = 18))
def readOk (k : Int) (s : ByteArray) : Bool := formOk k s && cRight (tickS s) && saidOk k s 6
def readR (k : Int) (s : ByteArray) : Int × Int × V3 := if readOk k s then (k, tickS s, saidV k s 6) else (0, 0, 0, 0, 0)
end Go.Proofs.YtbophanlmkbfeaaGreatDoor
namespace Go.Proofs.YtbophanlmkbfeaaGreatDoor
open Go.RowKit
theorem idx_run {s : ByteArray} {i : Int} {n : Nat} (h : n < s.size) (hi : i = n) (W : World) : (Instr.index 9 (.string s) (.int .i64 i)).run Tryz.prog W = .ok (.int .u8 (bt s n : Nat)) W := by
 rw [run_index_string W 9 s .i64 i Tryz.underlying9, dif_pos (by omega)]
 have : i.toNat = n := by omega
 simp only [this, bt_of h]
theorem bel_drew {n : Nat} {x w : World} (h : Below n x w) : Below n x w.drew := ⟨h.os, h.tape, h.output, h.size, h.block⟩
set_option maxHeartbeats 1000000 in
set_option maxRecDepth 100000 in
theorem spair_any (s : ByteArray) (i : Int) (p : Nat) (w : World) (hi : i = p) (h : 2 * p + 1 < s.size) (hp : p < 100) :
    Calls Tryz.prog 229 #[.string s, .int .i64 i] w fun e w' => e = .returned (.int .u16 (cnt s (2 * p) : Nat)) ∧ Below w.heap.size w w' := by
 subst hi
 have i0 := idx_run (s := s) (i := 2 * (p : Int)) (n := 2 * p) (by omega) (by omega)
 have i1 := idx_run (s := s) (i := 2 * (p : Int) + 1) (n := 2 * p + 1) (by omega) (by omega)
 have b0 := bt_lt s (2 * p)
 have b1 := bt_lt s (2 * p + 1)
 have HC : Hid (cnt s (2 * p) = bt s (2 * p) * 256 + bt s (2 * p + 1)) := rfl
 have w2 : IntKind.i64.wrap (2 * (p : Int)) = 2 * (p : Int) := by rw [IntKind.wrap_i64]; omega
 have w3 : IntKind.i64.wrap (2 * (p : Int) + 1) = 2 * (p : Int) + 1 := by rw [IntKind.wrap_i64]; omega
 generalize bt s (2 * p) = a at i0 b0 HC
 generalize bt s (2 * p + 1) = b at i1 b1 HC
 have ho := or16 b0 b1
 rw [HC.out]
 go_enter Tryz.func229, Tryz.ntmps229
 go_wp2
 go_region
 go_wp2
 go_ret
 exact ⟨by have e : ((a * 256 + b : Nat) : Int) = (a : Int) * 256 + b := by omega
           rw [e]; rfl, bel_drew (Below.refl _ _)⟩
set_option maxHeartbeats 1000000 in
set_option maxRecDepth 100000 in
theorem ssigned_any (s : ByteArray) (i : Int) (p : Nat) (w : World) (hi : i = p) (h : 2 * p + 1 < s.size) (hp : p < 100) :
    Calls Tryz.prog 225 #[.string s, .int .i64 i] w fun e w' => e = .returned (.int .i64 (sg (cnt s (2 * p)))) ∧ Below w.heap.size w w' := by
 subst hi
 have hc := fun W => spair_any s p p W rfl h hp
 have hl := cnt_lt s (2 * p)
 generalize cnt s (2 * p) = n at hc hl ⊢
 have HS : Hid (sg n = if 32768 ≤ n then (n : Int) - 65536 else n) := rfl
 have e16 : IntKind.i16.wrap (n : Int) = sg n := by
  rw [HS.out]
  simp [IntKind.wrap, IntKind.bits, IntKind.signed]
  split <;> split <;> omega
 have hr := sg_rng hl
 have e64 : IntKind.i64.wrap (sg n) = sg n := by rw [IntKind.wrap_i64]; omega
 go_enter Tryz.func225, Tryz.ntmps225
 go_wp2_with (go_at_call 229; refine (hc _).mono ?_; rintro e w1 ⟨rfl, hb1⟩)
 go_ret
 exact ⟨rfl, hb1⟩
set_option maxHeartbeats 1000000 in
set_option maxRecDepth 100000 in
theorem splain_any (s : ByteArray) (i : Int) (p : Nat) (w : World) (hi : i = p) (h : 2 * p + 1 < s.size) (hp : p < 100) :
    Calls Tryz.prog 226 #[.string s, .int .i64 i] w fun e w' => e = .returned (.int .i64 (cnt s (2 * p) : Nat)) ∧ Below w.heap.size w w' := by
 subst hi
 have hc := fun W => spair_any s p p W rfl h hp
 have hl := cnt_lt s (2 * p)
 generalize cnt s (2 * p) = n at hc hl ⊢
 go_enter Tryz.func226, Tryz.ntmps226
 go_wp2_with (go_at_call 229; refine (hc _).mono ?_; rintro e w1 ⟨rfl, hb1⟩)
 go_ret
 exact ⟨rfl, hb1⟩
set_option maxHeartbeats 1000000 in
set_option maxRecDepth 100000 in
theorem sjoined_any (s : ByteArray) (w : World) (h : s.size = 6) :
    Calls Tryz.prog 147 #[.string s] w fun e w' => e = .returned (.int .i64 (tickS s)) ∧ Below w.heap.size w w' := by
 go_enter Tryz.func147, Tryz.ntmps147
 go_wp2
 go_loop [3, 5] (fun r i => ∃ k : Nat, k ≤ 6 ∧ i = .int .i64 k ∧ r = .int .i64 (tickK s k : Nat)) (fun _ i => 6 - (intOf i).toNat)
 case atStart => exact ⟨0, by omega, rfl, rfl⟩
 case round =>
  obtain ⟨k, hk, rfl, rfl⟩ := hrel
  by_cases c : k < 6
  ·have hi := idx_run (s := s) (i := (k : Int)) (n := k) (by omega) rfl
   have hb := bt_lt s k
   have ht : tickK s k < 1099511627776 := Nat.lt_of_lt_of_le (tickK_lt s k) (show 256 ^ k ≤ 256 ^ 5 from Nat.pow_le_pow_right (by decide) (by omega))
   have HT : Hid (tickK s (k + 1) = tickK s k * 256 + bt s k) := rfl
   generalize tickK s k = t at ht HT ⊢
   generalize bt s k = b at hi hb HT
   have ho := or64 ht hb
   go_wp2
   go_round
   case rel => exact ⟨k + 1, by omega, by go_num, by rw [HT.out]; show _ = Value.int .i64 ((t * 256 + b : Nat) : Int); rw [show ((t * 256 + b : Nat) : Int) = (t : Int) * 256 + b by omega]⟩
   case measure => simp [intOf]; omega
  ·obtain rfl : k = 6 := by omega
   have HT : Hid (tickS s = (tickK s 6 : Nat)) := rfl
   generalize tickK s 6 = t at HT ⊢
   go_wp2
   go_ret
   exact ⟨by rw [HT.out]; rfl, Below.refl _ _⟩
def nCounts (k : Int) : Int := if k = 1 ∨ k = 3 then 3 else if k = 2 then 6 else 0
set_option maxHeartbeats 1000000 in
theorem scounts_any (k : Int) (w : World) : Calls Tryz.prog 146 #[.int .i64 k] w fun e w' => e = .returned (.int .i64 (nCounts k)) ∧ w = w' := by
 by_cases c1 : k = 1
 ·subst c1
  go_enter Tryz.func146, Tryz.ntmps146
  go_wp2
  go_ret
  exact ⟨rfl, rfl⟩
 by_cases c3 : k = 3
 ·subst c3
  go_enter Tryz.func146, Tryz.ntmps146
  go_wp2
  go_ret
  exact ⟨rfl, rfl⟩
 by_cases c2 : k = 2
 ·subst c2
  go_enter Tryz.func146, Tryz.ntmps146
  go_wp2
  go_ret
  exact ⟨rfl, rfl⟩
 have e : nCounts k = 0 := by unfold nCounts; rw [if_neg (by omega), if_neg (by omega)]
 have d1 : (k == 1) = false := by simpa using c1
 have d2 : (k == 2) = false := by simpa using c2
 have d3 : (k == 3) = false := by simpa using c3
 rw [e]
 go_enter Tryz.func146, Tryz.ntmps146
 go_wp2
 go_ret
 exact ⟨rfl, rfl⟩
end Go.Proofs.YtbophanlmkbfeaaGreatDoor
namespace Go.Proofs.YtbophanlmkbfeaaGreatDoor
open Go.RowKit
theorem add_off (g j : Nat) : ((⟨g, 0, none⟩ : Addr).add j) = ⟨g, j, none⟩ := by cases j <;> simp [Addr.add]
def u8s (l : List Int) : List Value := l.map fun b => .int .u8 b
def Bytes (B : Nat) (w : World) (v : Value) (l : List Int) : Prop := w.ownsRow B 5 1 v l.length (u8s l)
theorem byte_info : (Tryz.prog.info? 5).map (fun i => (i.zero, i.size, i.bytes)) = some (some (.int .u8 0), 1, 1) := by kernel_rfl
theorem Bytes.same {B : Nat} {w w' : World} {v : Value} {l : List Int} (h : Bytes B w v l) (hb : Below w.heap.size w w') : Bytes B w' v l := by
 refine ⟨h.1, ?_⟩
 rcases h.2 with hn | ⟨g, cap, cur, rfl, hg, hgg, rest⟩
 ·exact .inl hn
 ·exact .inr ⟨g, cap, cur, rfl, hg, by rw [hb.block g (Array.getElem?_eq_some_iff.1 hgg).1]; exact hgg, rest⟩
theorem Bytes.new {B : Nat} {w : World} {v : Value} {l : List Int} (h : Bytes B w v l) (q o : Nat) (hq : q < B) (u : Value) : Bytes B (w.setCell ⟨q, o, none⟩ u) v l := by
 refine ⟨h.1, ?_⟩
 rcases h.2 with hn | ⟨g, cap, cur, rfl, hg, hgg, rest⟩
 ·exact .inl hn
 ·exact .inr ⟨g, cap, cur, rfl, hg, by rw [Below.heap_setCell _ _ _ _ (by show g ≠ q; omega)]; exact hgg, rest⟩
theorem Bytes.base {B B' : Nat} {w : World} {v : Value} {l : List Int} (h : Bytes B' w v l) (hB : B ≤ B') : Bytes B w v l :=
 ⟨h.1, h.2.imp id (fun ⟨g, cap, cur, a, b, c⟩ => ⟨g, cap, cur, a, Nat.le_trans hB b, c⟩)⟩
theorem Arr.under {k B : Nat} {l : List Value} {w w' : World} (h : Arr k l w) (hb : Below B w w') (hk : k < B) (hs : w.heap.size ≤ w'.heap.size) : Arr k l w' := h.same (hb.block k hk) hs
theorem info_byte : ∃ i, Tryz.prog.info? 5 = some i ∧ i.zero = some (.int .u8 0) ∧ i.size = 1 ∧ i.bytes = 1 := by
 have h := byte_info
 cases e : Tryz.prog.info? 5 with
 | none => rw [e] at h; cases h
 | some i =>
  rw [e] at h
  simp at h
  exact ⟨i, rfl, h.1, h.2.1, h.2.2⟩
theorem app_any {ops : Array Oper} {rest : List Oper} {o : Oper} {a : Act} {Q : Exit → Act → World → Prop} (hgd : o.guard = none) (s x : Operand)
    (ho : o.op = .call { callee := .builtin .append, args := #[s, x], argTypes := #[135, 135] }) (B : Nat) (v : Value) (l news : List Int) (w0 : World) (hs : a.eval s = v) (hown : Bytes B w0 v l)
    (hx : a.eval x = .slice (some ⟨w0.heap.size, 0, none⟩) news.length news.length) (hl : l.length + news.length ≤ 100) (hB : B ≤ w0.heap.size)
    (h : ∀ v' w', Bytes B w' v' (l ++ news) → Below B w0 w' → w0.heap.size ≤ w'.heap.size → wpList Tryz.prog ops Q rest (a.put o.dst v') w') : wpList Tryz.prog ops Q (o :: rest) a (w0.alloc (.cells (u8s news).toArray 5)) := by
 obtain ⟨i, hi, hz, hsz, hby⟩ := info_byte
 have hown' := hown.same ((Below.refl _ _).alloc (Nat.le_refl _) (.cells (u8s news).toArray 5))
 refine wpList_append_own _ hgd s x 135 ho B 5 i (.int .u8 0) 1 1 Tryz.underlying135 hi hz hsz hby rfl (by decide) v l.length (u8s l) hs hown' ⟨w0.heap.size, 0, none⟩ news.length news.length (u8s news) hx (by simp [u8s]) ?_ ?_ (by unfold maxLen; omega) (by omega) (by simp; omega) ?_
 ·intro j u hj
  have A := Arr_at w0 w0.heap.size (u8s news) 5 rfl
  obtain ⟨hj', rfl⟩ := List.getElem?_eq_some_iff.1 hj
  rw [add_off]
  exact A.c j hj'
 ·intro u hu
  unfold u8s at hu
  obtain ⟨b, _, rfl⟩ := List.mem_map.1 hu
  rfl
 ·intro v' w' h1 h2 _
  have hbel : Below B w0 w' := ((Below.refl B w0).alloc hB _).grown h2 (by simp; omega) (fun k hk => (World.ownsRow.lt hown k hk).1)
  refine h v' w' ?_ hbel (by have := h2.size; simp at this; omega)
  show w'.ownsRow B 5 1 v' (l ++ news).length (u8s (l ++ news))
  rw [List.length_append, show u8s (l ++ news) = u8s l ++ u8s news by simp [u8s]]
  exact h1
def strOf (l : List Int) : ByteArray := ⟨(l.map fun b => UInt8.ofNat b.toNat).toArray⟩
theorem conv_any {B : Nat} {w : World} {v : Value} {l : List Int} (h : Bytes B w v l) (hne : l ≠ []) (hr : ∀ b ∈ l, 0 ≤ b ∧ b < 256) : (convert 135 9 v).run Tryz.prog w = .ok (.string (strOf l)) w := by
 have H := h
 rcases h.2 with ⟨rfl, h0⟩ | ⟨g, cap, cur, rfl, hg, hgg, hn, rest⟩
 ·exact absurd (List.length_eq_zero_iff.1 h0) hne
 ·have H' : w.ownsRow B 5 1 (.slice (some ⟨g, 0, none⟩) l.length cap) l.length (u8s l) := H
  have e : l.length = (l.map fun b => UInt8.ofNat b.toNat).length := by simp
  have hc := run_convert_bytes_back w 135 9 5 ⟨g, 0, none⟩ cap (l.map fun b => UInt8.ofNat b.toNat) Tryz.underlying135 Tryz.underlying5 Tryz.underlying9 (fun j hj => by
   have hj' : j < l.length := by rw [e]; exact hj
   have hb := hr l[j] (List.getElem_mem hj')
   have := H'.cellAt j (by omega)
   rw [add_off, this]
   unfold u8s
   simp [hj']
   omega)
  rw [← e] at hc
  exact hc
def tickL (t : Int) : List Int := [IntKind.u8.wrap (t / 1099511627776), IntKind.u8.wrap (t / 4294967296), IntKind.u8.wrap (t / 16777216), IntKind.u8.wrap (t / 65536), IntKind.u8.wrap (t / 256), IntKind.u8.wrap t]
end Go.Proofs.YtbophanlmkbfeaaGreatDoor
namespace Go.Proofs.YtbophanlmkbfeaaGreatDoor
open Go.RowKit
theorem wrap8_in (x : Int) : 0 ≤ IntKind.u8.wrap x ∧ IntKind.u8.wrap x < 256 := by
 rw [IntKind.wrap_u8]
 omega
theorem bt_strOf {l : List Int} (h : ∀ b ∈ l, 0 ≤ b ∧ b < 256) (i : Nat) (hi : i < l.length) : ((bt (strOf l) i : Nat) : Int) = l[i] := by
 have hb := h l[i] (List.getElem_mem hi)
 have e : (strOf l).data.toList = l.map fun b => UInt8.ofNat b.toNat := rfl
 unfold bt
 rw [e, List.getD_eq_getElem?_getD, List.getElem?_map, List.getElem?_eq_getElem hi]
 simp
 omega
end Go.Proofs.YtbophanlmkbfeaaGreatDoor
namespace Go.Proofs.YtbophanlmkbfeaaGreatDoor
open Go.RowKit
structure Tl where
 t : Int
 m : Int
 fa : Int
 ak : Int
 er : Int
 rj : Int
 q0 : Int
 q1 : Int
 q2 : Int
 q3 : Int
 d0 : Int
 d1 : Int
 d2 : Int
def inR (n a b : Int) : Bool := decide (a ≤ n) && decide (n ≤ b)
theorem inR_iff {n a b : Int} : inR n a b = true ↔ a ≤ n ∧ n ≤ b := by
 unfold inR
 simp
def tlOk (T : Tl) : Bool := cRight T.t && inR T.m 0 3 && inR T.fa 0 15 && inR T.ak 0 255 && inR T.er 0 255 && inR T.rj 0 65535 && inR T.q0 (-32768) 32767 && inR T.q1 (-32768) 32767 && inR T.q2 (-32768) 32767 && inR T.q3 (-32768) 32767 && inR T.d0 (-32768) 32767 && inR T.d1 (-32768) 32767 && inR T.d2 (-32768) 32767
structure TlIn (T : Tl) : Prop where
 t : 0 ≤ T.t ∧ T.t ≤ 157766400000
 m : 0 ≤ T.m ∧ T.m ≤ 3
 fa : 0 ≤ T.fa ∧ T.fa ≤ 15
 ak : 0 ≤ T.ak ∧ T.ak ≤ 255
 er : 0 ≤ T.er ∧ T.er ≤ 255
 rj : 0 ≤ T.rj ∧ T.rj ≤ 65535
 q0 : -32768 ≤ T.q0 ∧ T.q0 ≤ 32767
 q1 : -32768 ≤ T.q1 ∧ T.q1 ≤ 32767
 q2 : -32768 ≤ T.q2 ∧ T.q2 ≤ 32767
 q3 : -32768 ≤ T.q3 ∧ T.q3 ≤ 32767
 d0 : -32768 ≤ T.d0 ∧ T.d0 ≤ 32767
 d1 : -32768 ≤ T.d1 ∧ T.d1 ≤ 32767
 d2 : -32768 ≤ T.d2 ∧ T.d2 ≤ 32767
theorem tl_in {T : Tl} (h : tlOk T = true) : TlIn T := by
 unfold tlOk cRight at h
 simp only [Bool.and_eq_true, inR_iff, decide_eq_true_eq] at h
 obtain ⟨⟨⟨⟨⟨⟨⟨⟨⟨⟨⟨⟨⟨h0, h1⟩, h2⟩, h3⟩, h4⟩, h5⟩, h6⟩, h7⟩, h8⟩, h9⟩, h10⟩, h11⟩, h12⟩, h13⟩ := h
 exact ⟨⟨h0, h1⟩, h2, h3, h4, h5, h6, h7, h8, h9, h10, h11, h12, h13⟩
def twoL (n : Int) : List Int := [IntKind.u8.wrap (IntKind.u16.wrap n / 256), IntKind.u8.wrap (IntKind.u16.wrap n)]
def tlL (T : Tl) : List Int := [IntKind.u8.wrap (T.t / 1099511627776), IntKind.u8.wrap (T.t / 4294967296), IntKind.u8.wrap (T.t / 16777216), IntKind.u8.wrap (T.t / 65536), IntKind.u8.wrap (T.t / 256), IntKind.u8.wrap T.t, T.m, T.fa, T.ak, T.er, IntKind.u8.wrap (IntKind.u16.wrap T.rj / 256), IntKind.u8.wrap (IntKind.u16.wrap T.rj), IntKind.u8.wrap (IntKind.u16.wrap T.q0 / 256), IntKind.u8.wrap (IntKind.u16.wrap T.q0), IntKind.u8.wrap (IntKind.u16.wrap T.q1 / 256), IntKind.u8.wrap (IntKind.u16.wrap T.q1), IntKind.u8.wrap (IntKind.u16.wrap T.q2 / 256), IntKind.u8.wrap (IntKind.u16.wrap T.q2), IntKind.u8.wrap (IntKind.u16.wrap T.q3 / 256), IntKind.u8.wrap (IntKind.u16.wrap T.q3), IntKind.u8.wrap (IntKind.u16.wrap T.d0 / 256), IntKind.u8.wrap (IntKind.u16.wrap T.d0), IntKind.u8.wrap (IntKind.u16.wrap T.d1 / 256), IntKind.u8.wrap (IntKind.u16.wrap T.d1), IntKind.u8.wrap (IntKind.u16.wrap T.d2 / 256), IntKind.u8.wrap (IntKind.u16.wrap T.d2)]
def tlW (T : Tl) : Int × ByteArray := if tlOk T then (32, strOf (tlL T)) else (0, ⟨#[]⟩)
def tlE (s : ByteArray) : Tl := ⟨tickS s, (bt s 6 : Nat), (bt s 7 : Nat), (bt s 8 : Nat), (bt s 9 : Nat), (cnt s 10 : Nat), sg (cnt s 12), sg (cnt s 14), sg (cnt s 16), sg (cnt s 18), sg (cnt s 20), sg (cnt s 22), sg (cnt s 24)⟩
theorem tlL_rng {T : Tl} (h : TlIn T) : ∀ b ∈ tlL T, 0 ≤ b ∧ b < 256 := by
 intro b hb
 unfold tlL at hb
 simp only [List.mem_cons, List.not_mem_nil, or_false] at hb
 have h1 := h.m
 have h2 := h.fa
 have h3 := h.ak
 have h4 := h.er
 rcases hb with rfl | rfl | rfl | rfl | rfl | rfl | rfl | rfl | rfl | rfl | rfl | rfl | rfl | rfl | rfl | rfl | rfl | rfl | rfl | rfl | rfl | rfl | rfl | rfl | rfl | rfl <;> first | exact wrap8_in _ | omega
theorem sg_back {n : Int} {a b : Nat} (h : -32768 ≤ n ∧ n ≤ 32767) (ha : (a : Int) = IntKind.u8.wrap (IntKind.u16.wrap n / 256)) (hb : (b : Int) = IntKind.u8.wrap (IntKind.u16.wrap n)) : sg (a * 256 + b) = n := by
 rw [IntKind.wrap_u8, IntKind.wrap_u16] at ha hb
 unfold sg
 split <;> omega
theorem tl_back {T : Tl} (h : tlOk T = true) : tlE (strOf (tlL T)) = T := by
 have H := tl_in h
 have hb := fun i hi => bt_strOf (tlL_rng H) i hi
 have b0 : ((bt (strOf (tlL T)) 0 : Nat) : Int) = IntKind.u8.wrap (T.t / 1099511627776) := hb 0 (Nat.le_of_ble_eq_true rfl)
 have b1 : ((bt (strOf (tlL T)) 1 : Nat) : Int) = IntKind.u8.wrap (T.t / 4294967296) := hb 1 (Nat.le_of_ble_eq_true rfl)
 have b2 : ((bt (strOf (tlL T)) 2 : Nat) : Int) = IntKind.u8.wrap (T.t / 16777216) := hb 2 (Nat.le_of_ble_eq_true rfl)
 have b3 : ((bt (strOf (tlL T)) 3 : Nat) : Int) = IntKind.u8.wrap (T.t / 65536) := hb 3 (Nat.le_of_ble_eq_true rfl)
 have b4 : ((bt (strOf (tlL T)) 4 : Nat) : Int) = IntKind.u8.wrap (T.t / 256) := hb 4 (Nat.le_of_ble_eq_true rfl)
 have b5 : ((bt (strOf (tlL T)) 5 : Nat) : Int) = IntKind.u8.wrap T.t := hb 5 (Nat.le_of_ble_eq_true rfl)
 have b6 : ((bt (strOf (tlL T)) 6 : Nat) : Int) = T.m := hb 6 (Nat.le_of_ble_eq_true rfl)
 have b7 : ((bt (strOf (tlL T)) 7 : Nat) : Int) = T.fa := hb 7 (Nat.le_of_ble_eq_true rfl)
 have b8 : ((bt (strOf (tlL T)) 8 : Nat) : Int) = T.ak := hb 8 (Nat.le_of_ble_eq_true rfl)
 have b9 : ((bt (strOf (tlL T)) 9 : Nat) : Int) = T.er := hb 9 (Nat.le_of_ble_eq_true rfl)
 have b10 : ((bt (strOf (tlL T)) 10 : Nat) : Int) = IntKind.u8.wrap (IntKind.u16.wrap T.rj / 256) := hb 10 (Nat.le_of_ble_eq_true rfl)
 have b11 : ((bt (strOf (tlL T)) 11 : Nat) : Int) = IntKind.u8.wrap (IntKind.u16.wrap T.rj) := hb 11 (Nat.le_of_ble_eq_true rfl)
 have b12 : ((bt (strOf (tlL T)) 12 : Nat) : Int) = IntKind.u8.wrap (IntKind.u16.wrap T.q0 / 256) := hb 12 (Nat.le_of_ble_eq_true rfl)
 have b13 : ((bt (strOf (tlL T)) 13 : Nat) : Int) = IntKind.u8.wrap (IntKind.u16.wrap T.q0) := hb 13 (Nat.le_of_ble_eq_true rfl)
 have b14 : ((bt (strOf (tlL T)) 14 : Nat) : Int) = IntKind.u8.wrap (IntKind.u16.wrap T.q1 / 256) := hb 14 (Nat.le_of_ble_eq_true rfl)
 have b15 : ((bt (strOf (tlL T)) 15 : Nat) : Int) = IntKind.u8.wrap (IntKind.u16.wrap T.q1) := hb 15 (Nat.le_of_ble_eq_true rfl)
 have b16 : ((bt (strOf (tlL T)) 16 : Nat) : Int) = IntKind.u8.wrap (IntKind.u16.wrap T.q2 / 256) := hb 16 (Nat.le_of_ble_eq_true rfl)
 have b17 : ((bt (strOf (tlL T)) 17 : Nat) : Int) = IntKind.u8.wrap (IntKind.u16.wrap T.q2) := hb 17 (Nat.le_of_ble_eq_true rfl)
 have b18 : ((bt (strOf (tlL T)) 18 : Nat) : Int) = IntKind.u8.wrap (IntKind.u16.wrap T.q3 / 256) := hb 18 (Nat.le_of_ble_eq_true rfl)
 have b19 : ((bt (strOf (tlL T)) 19 : Nat) : Int) = IntKind.u8.wrap (IntKind.u16.wrap T.q3) := hb 19 (Nat.le_of_ble_eq_true rfl)
 have b20 : ((bt (strOf (tlL T)) 20 : Nat) : Int) = IntKind.u8.wrap (IntKind.u16.wrap T.d0 / 256) := hb 20 (Nat.le_of_ble_eq_true rfl)
 have b21 : ((bt (strOf (tlL T)) 21 : Nat) : Int) = IntKind.u8.wrap (IntKind.u16.wrap T.d0) := hb 21 (Nat.le_of_ble_eq_true rfl)
 have b22 : ((bt (strOf (tlL T)) 22 : Nat) : Int) = IntKind.u8.wrap (IntKind.u16.wrap T.d1 / 256) := hb 22 (Nat.le_of_ble_eq_true rfl)
 have b23 : ((bt (strOf (tlL T)) 23 : Nat) : Int) = IntKind.u8.wrap (IntKind.u16.wrap T.d1) := hb 23 (Nat.le_of_ble_eq_true rfl)
 have b24 : ((bt (strOf (tlL T)) 24 : Nat) : Int) = IntKind.u8.wrap (IntKind.u16.wrap T.d2 / 256) := hb 24 (Nat.le_of_ble_eq_true rfl)
 have b25 : ((bt (strOf (tlL T)) 25 : Nat) : Int) = IntKind.u8.wrap (IntKind.u16.wrap T.d2) := hb 25 (Nat.le_of_ble_eq_true rfl)
 clear hb
 have e0 : tickS (strOf (tlL T)) = T.t := by
  have ht := H.t
  have hk : tickS (strOf (tlL T)) = ((((((0 * 256 + bt (strOf (tlL T)) 0) * 256 + bt (strOf (tlL T)) 1) * 256 + bt (strOf (tlL T)) 2) * 256 + bt (strOf (tlL T)) 3) * 256 + bt (strOf (tlL T)) 4) * 256 + bt (strOf (tlL T)) 5 : Nat) := rfl
  rw [hk]
  simp only [IntKind.wrap_u8] at b0 b1 b2 b3 b4 b5
  omega
 have e5 : ((cnt (strOf (tlL T)) 10 : Nat) : Int) = T.rj := by
  have ht := H.rj
  have hk : cnt (strOf (tlL T)) 10 = bt (strOf (tlL T)) 10 * 256 + bt (strOf (tlL T)) 11 := rfl
  rw [hk]
  simp only [IntKind.wrap_u8, IntKind.wrap_u16] at b10 b11
  omega
 have e6 : sg (cnt (strOf (tlL T)) 12) = T.q0 := sg_back H.q0 b12 b13
 have e7 : sg (cnt (strOf (tlL T)) 14) = T.q1 := sg_back H.q1 b14 b15
 have e8 : sg (cnt (strOf (tlL T)) 16) = T.q2 := sg_back H.q2 b16 b17
 have e9 : sg (cnt (strOf (tlL T)) 18) = T.q3 := sg_back H.q3 b18 b19
 have e10 : sg (cnt (strOf (tlL T)) 20) = T.d0 := sg_back H.d0 b20 b21
 have e11 : sg (cnt (strOf (tlL T)) 22) = T.d1 := sg_back H.d1 b22 b23
 have e12 : sg (cnt (strOf (tlL T)) 24) = T.d2 := sg_back H.d2 b24 b25
 unfold tlE
 rw [e0, b6, b7, b8, b9, e5, e6, e7, e8, e9, e10, e11, e12]
end Go.Proofs.YtbophanlmkbfeaaGreatDoor
namespace Go.Proofs.YtbophanlmkbfeaaGreatDoor
open Go.RowKit
def tcS (r : Int × Bool) : Int × Bool := if inR r.1 (-32768) 32767 then r else (0, true)
def tlC (q : Int × Int × Int × Int) (m : V3) : (Int × Int × Int × Int) × V3 :=
 let p0 := tcS (partS false q.1 1 67108864)
 let p1 := tcS (partS p0.2 q.2.1 1 67108864)
 let p2 := tcS (partS p1.2 q.2.2.1 1 67108864)
 let p3 := tcS (partS p2.2 q.2.2.2 1 67108864)
 let p4 := tcS (partS p3.2 m.1 10000 1099511627776)
 let p5 := tcS (partS p4.2 m.2.1 10000 1099511627776)
 let p6 := tcS (partS p5.2 m.2.2 10000 1099511627776)
 if p6.2 then ((0, 0, 0, 0), (0, 0, 0)) else ((p0.1, p1.1, p2.1, p3.1), (p4.1, p5.1, p6.1))
end Go.Proofs.YtbophanlmkbfeaaGreatDoor
namespace Go.Proofs.YtbophanlmkbfeaaGreatDoor
open Go.RowKit
def tlFail : Ct Tryz.prog := flowCt Tryz.prog 90 none' (fun _ _ => ((), true)) cU (go_of Tryz.func90 (by kernel_rfl) (by kernel_rfl)) (fun b bad _ w _ _ hw => Fail_any b bad w hw)
def tlPart : Ct Tryz.prog := flowCt Tryz.prog 120 (then' cI (then' cI (lone' cI))) (fun bad x => partS bad x.1 x.2.1 x.2.2) cI (go_of Tryz.func120 (by kernel_rfl) (by kernel_rfl)) (fun b bad x w _ _ hw => Part_any b bad x.1 x.2.1 x.2.2 w hw)
def tcV (bad : Bool) (c : Int) : Int × Bool := if c < -32768 then (0, true) else if c > 32767 then (0, true) else (c, bad)
theorem tcV_is (bad : Bool) (c : Int) : tcV bad c = tcS (c, bad) := by
 unfold tcV tcS inR
 by_cases h0 : c < -32768
 ·rw [if_pos h0, if_neg (by simp; omega)]
 rw [if_neg h0]
 by_cases h1 : c > 32767
 ·rw [if_pos h1, if_neg (by simp; omega)]
 ·rw [if_neg h1, if_pos (by simp; omega)]
theorem tcount_fx : FlowOk Tryz.prog 137 (lone' cI) (fun bad x => tcV bad x) cI := flow_sx (tbl := [tlFail]) (dirty := fun _ => []) (n := 4) xmixA Tryz.func137 rfl (fun bad x Post => by
    refine Eq.trans (b := ?m) ?x (Eq.symm ?y)
    case y => unfold tcV; simp only [← vif_lt (K := PK cI Post)]; exact rfl
    case x => kernel_rfl)
def tlCount : Ct Tryz.prog := flowCt Tryz.prog 137 (lone' cI) (fun bad x => tcS (x, bad)) cI (go_of Tryz.func137 (by kernel_rfl) (by kernel_rfl)) (fun b bad x w h1 h2 h3 => by have := tcount_fx b bad x w h1 h2 h3; dsimp only at this ⊢; rw [tcV_is] at this; exact this)
abbrev qT (q : Tup 4) : Int × Int × Int × Int := (q.1, q.2.1, q.2.2.1, q.2.2.2.1)
abbrev mT (m : Tup 3) : V3 := (m.1, m.2.1, m.2.2.1)
def cntT (r : (Int × Int × Int × Int) × V3) : Tup 4 × Tup 3 := ((r.1.1, r.1.2.1, r.1.2.2.1, r.1.2.2.2, ()), (r.2.1, r.2.2.1, r.2.2.2, ()))
def cntV (q : Tup 4) (m : Tup 3) (K : Tup 4 × Tup 3 → Prop) : Prop :=
 let p0 := tcS (partS false q.1 1 67108864)
 let p1 := tcS (partS p0.2 q.2.1 1 67108864)
 let p2 := tcS (partS p1.2 q.2.2.1 1 67108864)
 let p3 := tcS (partS p2.2 q.2.2.2.1 1 67108864)
 let p4 := tcS (partS p3.2 m.1 10000 1099511627776)
 let p5 := tcS (partS p4.2 m.2.1 10000 1099511627776)
 let p6 := tcS (partS p5.2 m.2.2.1 10000 1099511627776)
 vif p6.2 (K (cntT ((0, 0, 0, 0), (0, 0, 0)))) (K (cntT ((p0.1, p1.1, p2.1, p3.1), (p4.1, p5.1, p6.1))))
theorem cntV_is (q : Tup 4) (m : Tup 3) (K : Tup 4 × Tup 3 → Prop) : cntV q m K = K (cntT (tlC (qT q) (mT m))) := by
 unfold cntV tlC
 dsimp only
 rw [vif_b (K := fun r => K (cntT r))]
theorem tcounts_fx : PureOk Tryz.prog 62 (then' (cT 4) (lone' (cT 3))) (fun x => cntT (tlC (qT x.1) (mT x.2))) (two' (cT 4) (cT 3)) := pure_sx (tbl := [tlPart, tlCount]) (dirty := fun _ => []) (n := 6) xmixA Tryz.func62 rfl (fun x Post => by
    rw [← cntV_is x.1 x.2 (PJ (two' (cT 4) (cT 3)) Post)]
    kernel_rfl)
end Go.Proofs.YtbophanlmkbfeaaGreatDoor
namespace Go.Proofs.YtbophanlmkbfeaaGreatDoor
open Go.RowKit
set_option maxRecDepth 100000
set_option maxHeartbeats 20000000
theorem cRight_any (t : Int) (w : World) : Calls Tryz.prog 22 #[.int .i64 t] w fun e w' => e = .returned (.bool (cRight t)) ∧ Below w.heap.size w w' := by
 rcases cRight_cases t with ⟨h0, h1⟩ | hn
 ·have H : Hid _ := cRight_in h0 h1
  go_enter Tryz.func22, Tryz.ntmps22
  go_wp2
  go_ret
  rw [H.out]
  exact ⟨rfl, Below.refl _ _⟩
 ·have H : Hid _ := cRight_out hn
  by_cases c : 0 ≤ t
  ·have d : ¬ t ≤ 157766400000 := by omega
   clear hn
   go_enter Tryz.func22, Tryz.ntmps22
   go_wp2
   go_ret
   rw [H.out]
   exact ⟨rfl, Below.refl _ _⟩
  ·clear hn
   go_enter Tryz.func22, Tryz.ntmps22
   go_wp2
   go_ret
   rw [H.out]
   exact ⟨rfl, Below.refl _ _⟩
theorem cRight_yes (t : Int) (w : World) (h0 : 0 ≤ t) (h1 : t ≤ 157766400000) : Calls Tryz.prog 22 #[.int .i64 t] w fun e w' => e = .returned (.bool true) ∧ Below w.heap.size w w' := by
 have h := cRight_any t w
 rw [cRight_in h0 h1] at h
 exact h
theorem cRight_no (t : Int) (w : World) (hn : ¬ (0 ≤ t ∧ t ≤ 157766400000)) : Calls Tryz.prog 22 #[.int .i64 t] w fun e w' => e = .returned (.bool false) ∧ Below w.heap.size w w' := by
 have h := cRight_any t w
 rw [cRight_out hn] at h
 exact h
def cDaysY (bad : Bool) (t : Int) : (Int) × Bool := let r2 := partS bad 1099511627776 t 86400000; (r2.1, r2.2)
def cDaysN (_ : Bool) (_ : Int) : (Int) × Bool := (0, true)
theorem cDays_yes (b : Nat) (bad : Bool) (t : Int) (w : World) (hw : Fl b bad w) (h0 : 0 ≤ t) (h1 : t ≤ 157766400000) :
    Calls Tryz.prog 92 #[.pointer (some ⟨b, 0, none⟩), .int .i64 t] w fun e w' => e = .returned (.int .i64 ((cDaysY bad t).1)) ∧ Fl b (cDaysY bad t).2 w' ∧ Kept b w w' := by
 have hl := hw.lies
 go_enter Tryz.func92, Tryz.ntmps92
 go_wp2_with fail
 refine (cRight_yes t _ h0 h1).mono ?_
 rintro e w1 ⟨rfl, k1⟩
 have K1 : Kept b w w1 := Kept.trans (Kept.refl b w) (Kept.of_below k1)
 have BF_1 := hw.below k1
 have z1 := K1.size
 clear k1
 go_wp2_with fail
 refine (Part_any b bad 1099511627776 t 86400000 _ BF_1).mono ?_
 rintro e w2 ⟨rfl, f2, k2⟩
 generalize e2 : partS bad 1099511627776 t 86400000 = r2 at f2 ⊢
 have E2 : Hid _ := e2
 clear e2
 have K2 := Kept.trans K1 k2
 have z2 := K2.size
 clear K1 BF_1 k2
 go_wp2
 go_ret
 have hs : cDaysY bad t = (r2.1, r2.2) := by unfold cDaysY; simp only [E2.out]
 rw [hs]
 exact ⟨rfl, f2, K2⟩
theorem cDays_no (b : Nat) (bad : Bool) (t : Int) (w : World) (hw : Fl b bad w) (hn : ¬ (0 ≤ t ∧ t ≤ 157766400000)) :
    Calls Tryz.prog 92 #[.pointer (some ⟨b, 0, none⟩), .int .i64 t] w fun e w' => e = .returned (.int .i64 ((cDaysN bad t).1)) ∧ Fl b (cDaysN bad t).2 w' ∧ Kept b w w' := by
 have hl := hw.lies
 go_enter Tryz.func92, Tryz.ntmps92
 go_wp2_with fail
 refine (cRight_no t _ hn).mono ?_
 rintro e w1 ⟨rfl, k1⟩
 have K1 : Kept b w w1 := Kept.trans (Kept.refl b w) (Kept.of_below k1)
 have BF_1 := hw.below k1
 have z1 := K1.size
 clear k1
 go_wp2_with fail
 refine (Fail_any b bad  _ BF_1).mono ?_
 rintro e w2 ⟨rfl, f2, k2⟩
 have K2 := Kept.trans K1 k2
 have z2 := K2.size
 clear K1 BF_1 k2
 go_wp2
 go_ret
 have hs : cDaysN bad t = (0, true) := rfl
 rw [hs]
 exact ⟨rfl, f2, K2⟩
theorem cDays_in (bad : Bool) {t : Int} (h0 : 0 ≤ t) (h1 : t ≤ 157766400000) : cDaysY bad t = cDaysS bad t := by
 unfold cDaysY cDaysS; rw [cRight_in h0 h1]; rfl
theorem cDays_out (bad : Bool) {t : Int} (hn : ¬ (0 ≤ t ∧ t ≤ 157766400000)) : cDaysN bad t = cDaysS bad t := by
 unfold cDaysN; rw [cDaysS_out bad hn]
theorem cDays_any (b : Nat) (bad : Bool) (t : Int) (w : World) (hw : Fl b bad w) :
    Calls Tryz.prog 92 #[.pointer (some ⟨b, 0, none⟩), .int .i64 t] w fun e w' => e = .returned (.int .i64 (cDaysS bad t).1) ∧ Fl b (cDaysS bad t).2 w' ∧ Kept b w w' := by
 rcases cRight_cases t with ⟨h0, h1⟩ | hn
 ·have h := cDays_yes b bad t w hw h0 h1
  rw [cDays_in bad h0 h1] at h
  exact h
 ·have h := cDays_no b bad t w hw hn
  rw [cDays_out bad hn] at h
  exact h
end Go.Proofs.YtbophanlmkbfeaaGreatDoor
namespace Go.Proofs.YtbophanlmkbfeaaGreatDoor
open Go.RowKit
attribute [local go_sem ↓] Go.wp_at_zero Go.wp_at_succ
set_option maxHeartbeats 400000 in
theorem rnumber_any (a : Int) (w : World) :
    Calls Tryz.prog 143 #[.int .i64 a] w fun e w' => e = .returned (.bool (numB a)) ∧ w' = w := by
 go_enter Tryz.func143, Tryz.ntmps143
 go_wp2
 all_goals
  go_ret
  exact ⟨ret_bool (by unfold numB; simp; try omega), rfl⟩
set_option maxHeartbeats 400000 in
theorem radd_gen (a b c d : Int) (w : World) (h1 : 0 ≤ a ∧ a ≤ 18446744073709551615) (h2 : 0 ≤ b ∧ b ≤ 18446744073709551615) (h3 : 0 ≤ c ∧ c ≤ 18446744073709551615) (h4 : 0 ≤ d ∧ d ≤ 18446744073709551615)
    (hs : a * 18446744073709551616 + b + (c * 18446744073709551616 + d) ≤ 340282366920938463463374607431768211455) :
    Calls Tryz.prog 69 #[.agg #[.int .u64 a, .int .u64 b], .agg #[.int .u64 c, .int .u64 d]] w fun e w' => e = .returned (.agg #[.int .u64 (hi64 (a * 18446744073709551616 + b + (c * 18446744073709551616 + d))), .int .u64 (lo64 (a * 18446744073709551616 + b + (c * 18446744073709551616 + d)))]) ∧ Below w.heap.size w w' := by
 have HS : Hid _ := hs
 clear hs
 go_enter Tryz.func69, Tryz.ntmps69
 go_wp2
 all_goals
  rename_i hq
  go_returns
  refine ⟨ret_agg2 ?_ ?_, by go_grown⟩ <;> (have hs := HS.out; rw [IntKind.wrap_u64] at hq; simp only [IntKind.wrap_u64]; first | unfold hi64 | unfold lo64); all_goals omega
theorem radd_any (n m : Int) (w : World) (h0 : 0 ≤ n) (k0 : 0 ≤ m) (hs : n + m ≤ 340282366920938463463374607431768211455) :
    Calls Tryz.prog 69 #[.agg #[.int .u64 (hi64 n), .int .u64 (lo64 n)], .agg #[.int .u64 (hi64 m), .int .u64 (lo64 m)]] w fun e w' => e = .returned (.agg #[.int .u64 (hi64 (n + m)), .int .u64 (lo64 (n + m))]) ∧ Below w.heap.size w w' := by
 have e1 := hilo n
 have e2 := hilo m
 have := radd_gen (hi64 n) (lo64 n) (hi64 m) (lo64 m) w (hi64_bd n h0 (by omega)) (lo64_bd n) (hi64_bd m k0 (by omega)) (lo64_bd m) (by omega)
 rw [e1, e2] at this
 exact this
set_option maxHeartbeats 400000 in
theorem rsize_any (a : Int) (w : World) (h : numB a = true) :
    Calls Tryz.prog 71 #[.int .i64 a] w fun e w' => e = .returned (.int .u64 (sz a)) ∧ w' = w := by
 have hb := numB_bd h
 go_enter Tryz.func71, Tryz.ntmps71
 go_wp2
 all_goals
  go_ret
  exact ⟨ret_int (by unfold sz; split <;>  omega), rfl⟩
set_option maxHeartbeats 400000 in
theorem rgive_any (b : Nat) (n : Int) (minus : Bool) (w : World) (hw : Fl b false w) (h0 : 0 ≤ n) (h1 : n ≤ 18446744073709551615) :
    Calls Tryz.prog 73 #[.pointer (some ⟨b, 0, none⟩), .int .u64 n, .bool minus] w fun e w' => e = .returned (.int .i64 (out n minus).1) ∧ Fl b (out n minus).2 w' ∧ Kept b w w' := by
 show Calls Tryz.prog 73 _ _ fun e w' => e = .returned (.int .i64 (sgnd n minus)) ∧ Fl b (decide (4611686018427387904 < n)) w' ∧ Kept b w w'
 have HW : Hid _ := hw
 obtain ⟨hc, hf, hl⟩ := hw
 by_cases c : n ≤ 4611686018427387904
 ·have HS : Hid _ := sgnd_in n minus c
  have HC : Hid (decide (4611686018427387904 < n) = false) := by show _ = _; simp; omega
  cases minus
  all_goals
   go_enter Tryz.func73, Tryz.ntmps73
   go_wp2
   go_ret
   rw [HC.out]
   exact ⟨ret_int HS.out, HW.out, Kept.refl _ _⟩
 ·have HS : Hid _ := sgnd_out n minus c
  go_enter Tryz.func73, Tryz.ntmps73
  go_wp2
  go_ret
  exact ⟨ret_int HS.out, HW.out.set true, (Kept.refl _ _).setCell _⟩
set_option maxHeartbeats 400000 in
theorem rtake_any (b s : Nat) (bad : Bool) (zs : List Int) (w : World) (hw : Fl b bad w) (hz : Ints s zs w) (hlen : zs.length ≤ 3) (hsb : s ≠ b) (hs : s < w.heap.size) :
    Calls Tryz.prog 68 #[.pointer (some ⟨b, 0, none⟩), .slice (some ⟨s, 0, none⟩) zs.length zs.length] w fun e w' => e = .returned (.bool (tk bad zs)) ∧ Fl b (!tk bad zs) w' ∧ Kept b w w' := by
 have HW : Hid _ := hw
 have HZ : Hid _ := hz
 clear hz hw
 go_enter Tryz.func68, Tryz.ntmps68
 go_wp2
 go_loopw [5] (fun v wr => ∃ k : Nat, k ≤ zs.length ∧ v = .int .i64 k ∧ Hid (Fl b (bad || !(zs.take k).all numB) wr) ∧ Hid (Kept b w wr)) (fun v _ => zs.length - (intOf v).toNat)
 case atStart => exact ⟨0, Nat.zero_le _, rfl, by show Fl _ _ _; simpa using HW.out, Kept.refl _ _⟩
 case round =>
  obtain ⟨k, hk, rfl, HF, HK⟩ := hrel
  by_cases hlt : k < zs.length
  ·have hcell : wr.cell? ⟨s, k, none⟩ = some (.int .i64 zs[k]) := (HK.out.cell (p := ⟨s, k, none⟩) hs hsb).trans (HZ.out k hlt)
   have HS : Hid _ := all_take_succ hlt
   generalize zs[k] = z at *
   cases c : numB z
   ·have HC2 : Hid _ := c
    clear c
    have hf1 := HF.out.cell
    have hf2 := HF.out.free
    go_wp2_with fail
    refine (rnumber_any _ _).mono ?_
    rintro e w1 ⟨rfl, rfl⟩
    rw [HC2.out]
    go_wp2
    refine ⟨⟨k + 1, by omega, by go_num, ?_, HK.out.setCell _⟩, by simp [intOf]; omega⟩
    show Fl _ _ _
    rw [HS.out, HC2.out]
    simpa using HF.out.set true
   ·have HC2 : Hid _ := c
    clear c
    go_wp2_with fail
    refine (rnumber_any _ _).mono ?_
    rintro e w1 ⟨rfl, rfl⟩
    rw [HC2.out]
    go_wp2
    refine ⟨⟨k + 1, by omega, by go_num, ?_, HK.out⟩, by simp [intOf]; omega⟩
    show Fl _ _ _
    rw [HS.out, HC2.out]
    simpa using HF.out
  ·have hf1 := HF.out.cell
   have HT : Hid (zs.take k = zs) := List.take_of_length_le (by omega)
   rw [HT.out] at hf1
   go_wp2
   go_ret
   have h1 := HF.out
   rw [HT.out, tk_not] at h1
   exact ⟨ret_bool rfl, h1, HK.out⟩
theorem rtake3 (b : Nat) (bad : Bool) (x y z : Int) (w : World) (hw : Fl b bad w) :
    Calls Tryz.prog 68 #[.pointer (some ⟨b, 0, none⟩), .slice (some ⟨w.heap.size, 0, none⟩) 3 3] (w.alloc (.cells #[.int .i64 x, .int .i64 y, .int .i64 z] 2)) fun e w' => e = .returned (.bool (tk bad [x, y, z])) ∧ Fl b (!tk bad [x, y, z]) w' ∧ Kept b w w' :=
 (rtake_any b w.heap.size bad [x, y, z] _ (hw.alloc _) (Ints_three x y z w) (by simp) (Nat.ne_of_gt hw.lies) (by simp)).mono fun _ _ h => ⟨h.1, h.2.1, (Kept.alloc b w _).trans h.2.2⟩
end Go.Proofs.YtbophanlmkbfeaaGreatDoor
