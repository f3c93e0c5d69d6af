/-
A part.
A part.
A part.
A part.
A part.
A part.
A part.
A part.
A part.
A part.
-/
import Derived.WalkKit
import Derived.Test.YtbophanlmkbfeaaGreatDoorProg
import Derived.WalkLawsBesides
import Derived.Laws.BitsAllLaws
import Derived.Deep.QuietTactic
import Derived.BigQuiet
import Derived.WalkSpells
import Derived.Lib.Strings
import Derived.Laws.OwnMore
import Derived.OwnWalk
import Derived.Shelf.LaysM
import Derived.Shelf.Strconv.Clone
import Derived.Laws.ResultCell
import Derived.RegionTactic
import Derived.Deep.RegionWith
import Derived.Test.YtbophanlmkbfeaaGreatDoorHC12
namespace Go.Proofs.YtbophanlmkbfeaaGreatDoor
open Go.RowKit
def dimv : Value → Value
 | .bool b => .bool b
 | _ => .nilIface
theorem RV.dim {bl bl' : Bl} {v v' : Value} (h : RV bl v v') : RV bl' (dimv v) v' := by
 cases hp : isP v
 ·rw [h.plain hp]
  cases v <;> rfl
 ·match v, h, hp with
  | .pointer (some a), ⟨B, _, e⟩, _ => rw [e]; rfl
  | .nilIface, h, _ => exact h
  | .slice (some a) _ _, ⟨B, _, e⟩, _ => rw [e]; rfl
def frm (ks : List (Nat × Value)) (d : Nat → Value) (n : Nat) : List Value := (List.range n).map fun j => match ks.lookup j with
 | some v => v
 | none => dimv (d j)
def ptrOk (k : Nat) : Value → Bool
 | .pointer (some a) => decide (a.block < k)
 | .slice (some a) _ _ => decide (a.block < k)
 | _ => true
theorem RV.cut {bl : Bl} {k : Nat} {v v' : Value} (h : RV bl v v') (hp : ptrOk k v = true) : RV (bl.take k) v v' := by
 cases hi : isP v
 ·rw [h.plain hi]
  exact .same hi
 ·match v, h, hi, hp with
  | .pointer (some a), ⟨B, h1, e⟩, _, hp =>
   have hp : a.block < k := of_decide_eq_true hp
   exact ⟨B, by rw [List.getElem?_take_of_lt hp]; exact h1, e⟩
  | .nilIface, h, _, _ => exact h
  | .slice (some a) _ _, ⟨B, h1, e⟩, _, hp =>
   have hp : a.block < k := of_decide_eq_true hp
   exact ⟨B, by rw [List.getElem?_take_of_lt hp]; exact h1, e⟩
theorem take_at' {bl : Bl} {k i B : Nat} (h : (bl.take k)[i]? = some (some B)) : i < k ∧ bl[i]? = some (some B) := by
 have hl := (List.getElem?_eq_some_iff.1 h).1
 rw [List.length_take] at hl
 have hk : i < k := by omega
 rw [List.getElem?_take_of_lt hk] at h
 exact ⟨hk, h⟩
theorem RW.cut {bs : List Nat} {w0 : World} {bl : Bl} {m : Xm} {w : World} (h : RW bs w0 bl m w) (k : Nat) : RW bs w0 (bl.take k) (m.take k) w := by
 refine ⟨fun i B hi => ?_, fun i j B hi hj => h.inj i j B (take_at' hi).2 (take_at' hj).2, fun i B hi => (h.own i B (take_at' hi).2).imp id (Or.imp id fun e => by rw [List.getElem?_take_of_lt (take_at' hi).1]; exact e), h.os, h.tape, h.output, h.size, h.block, h.gw⟩
 obtain ⟨hk, hi⟩ := take_at' hi
 obtain ⟨l, h1, A⟩ := h.arr i B hi
 exact ⟨l, by rw [List.getElem?_take_of_lt hk]; exact h1, A⟩
theorem lookup_of (f : Nat → Value) (j : Nat) : ∀ ks : List Nat, (ks.map fun i => (i, f i)).lookup j = if j ∈ ks then some (f j) else none
 | [] => rfl
 | k :: ks => by
  by_cases e : j = k
  ·subst e
   simp
  ·have e' : (j == k) = false := by simpa using e
   have ih := lookup_of f j ks
   simp only [List.map_cons, List.lookup, e', ih, List.mem_cons, e, false_or]
theorem FR.cut {bl : Bl} {vt : List Value} {tm : Array Value} (h : FR bl vt tm) {n k : Nat} {ks : List Nat} (hn : vt.length = n) (hp : (ks.all fun j => ptrOk k (vt.getD j undef)) = true) :
    FR (bl.take k) (frm (ks.map fun j => (j, vt.getD j undef)) (fun j => vt.getD j undef) n) tm := by
 refine ⟨by unfold frm; simp [h.len, hn], fun t => ?_⟩
 have h1 := h.rv t
 unfold frm
 by_cases ht : t < n
 ·rw [List.getD_eq_getElem?_getD, List.getElem?_map, List.getElem?_range ht]
  simp only [Option.map_some, Option.getD_some, lookup_of]
  by_cases e : t ∈ ks
  ·rw [if_pos e]
   exact h1.cut (List.all_eq_true.1 hp t e)
  ·rw [if_neg e]
   exact h1.dim
 ·rw [List.getD_eq_getElem?_getD, List.getElem?_eq_none (by simp; omega)]
  rw [List.getD_eq_getElem?_getD, List.getElem?_eq_none (by omega)] at h1
  exact h1.cut rfl
def forget (ks : List Nat) (n k : Nat) (K : List Value → Xm → Prop) : List Value → Xm → Prop := fun vt m =>
 vt.length = n ∧ (ks.all fun j => ptrOk k (vt.getD j undef)) = true ∧ ∀ d, K (frm (ks.map fun j => (j, vt.getD j undef)) d n) (m.take k)
section
variable {P : Program} {tbl : List (Ct P)} {bs : List Nat} {w0 : World} {ds : List Deferred} {dirty : Nat → List Nat} {bl0 : Bl}
theorem Rl.cut {bl : Bl} {vt : List Value} {m : Xm} {a : Act} {w : World} (r : Rl bs w0 ds bl0 bl vt m a w) {ks : List Nat} {n k : Nat} (hb : bl0.length ≤ k) {K : List Value → Xm → Prop} (h : forget ks n k K vt m) :
    ∃ bl' vt' m', K vt' m' ∧ Rl bs w0 ds bl0 bl' vt' m' a w := by
 refine ⟨bl.take k, _, m.take k, h.2.2 (fun j => vt.getD j undef), r.F.cut h.1 h.2.1, r.R.cut k, fun i B hi => ?_, by rw [List.length_take, List.length_take, r.len], r.defers⟩
 have hl := (List.getElem?_eq_some_iff.1 hi).1
 rw [List.getElem?_take_of_lt (by omega)]
 exact r.le i B hi
def cutBy (P : Program) (tbl : List (Ct P)) (dirty : Nat → List Nat) (id : Nat) (ks : List Nat) (n k : Nat) (ops : Array Oper) (draw : Bool) (K : List Value → Xm → Prop) (vt : List Value) (m : Xm) : Prop :=
 vregion P tbl dirty id ops draw (forget ks n k K) vt m
theorem cutBy_sound (hm : P.follows .mixedOrders = true) {id : Nat} {ks : List Nat} {n k : Nat} (hb : bl0.length ≤ k) {ops : Array Oper} {draw : Bool} {K : List Value → Xm → Prop} {Q : Exit → Act → World → Prop} {bl : Bl} {vt : List Value} {m : Xm} {a : Act} {w : World}
    (h : cutBy P tbl dirty id ks n k ops draw K vt m) (r : Rl bs w0 ds bl0 bl vt m a w) (hK : ∀ bl vt m a w, K vt m → Rl bs w0 ds bl0 bl vt m a w → Q .normal a w) : (Code.region id ops draw).wp P Q a w := by
 refine vregion_sound hm (fun bl vt m a w hk hr => ?_) h r
 obtain ⟨bl', vt', m', h1, h2⟩ := hr.cut hb hk
 exact hK bl' vt' m' a w h1 h2
theorem ops_val {ops : Array Oper} {Q : Exit → Act → World → Prop} {i : Nat} {rest : List Nat} {a : Act} {w w' : World} {o : Oper} {v : Value} (ho : ops[i]? = some o) (hg : o.guard = none) (hr : (execOp a.eval o).run P w = .ok (.value v) w')
    (h : wpOps P ops Q rest (a.put o.dst v) w') : wpOps P ops Q (i :: rest) a w := by
 rw [wpOps_cons]
 unfold wpOp
 rw [ho]
 dsimp only
 rw [show Region.wanted o (yielded ops a.tmps) = true by unfold Region.wanted; rw [hg], if_pos rfl]
 refine .inl ?_
 unfold Oper.wp
 rw [hr]
 exact h
theorem ops_skip {ops : Array Oper} {Q : Exit → Act → World → Prop} {i : Nat} {rest : List Nat} {a : Act} {w w' : World} {o : Oper} (ho : ops[i]? = some o) (hg : o.guard = none) (hr : (execOp a.eval o).run P w = .ok .skip w')
    (h : wpOps P ops Q rest (a.put o.dst undef) w') : wpOps P ops Q (i :: rest) a w := by
 rw [wpOps_cons]
 unfold wpOp
 rw [ho]
 dsimp only
 rw [show Region.wanted o (yielded ops a.tmps) = true by unfold Region.wanted; rw [hg], if_pos rfl]
 refine .inl ?_
 unfold Oper.wp
 rw [hr]
 exact h
end
end Go.Proofs.YtbophanlmkbfeaaGreatDoor
namespace Go.Proofs.YtbophanlmkbfeaaGreatDoor
def crcBit (r : Nat) : Nat := if 32768 ≤ r then (2 * r - 65536) ^^^ 4129 else 2 * r
def crcByte (r b : Nat) : Nat := crcBit (crcBit (crcBit (crcBit (crcBit (crcBit (crcBit (crcBit (r ^^^ b * 256))))))))
def crcOf (r : Nat) (l : List Nat) : Nat := l.foldl crcByte r
theorem crcOf_cons (r b : Nat) (l : List Nat) : crcOf r (b :: l) = crcOf (crcByte r b) l := by unfold crcOf; rw [List.foldl_cons]
theorem xor_16 {a b : Nat} (ha : a < 65536) (hb : b < 65536) : a ^^^ b < 65536 := Nat.xor_lt_two_pow (n := 16) ha hb
theorem crcBit_lt {r : Nat} (h : r < 65536) : crcBit r < 65536 := by
 unfold crcBit
 split
 ·exact xor_16 (by omega) (by decide)
 ·omega
theorem crcByte_lt {r b : Nat} (hr : r < 65536) (hb : b < 256) : crcByte r b < 65536 :=
 crcBit_lt (crcBit_lt (crcBit_lt (crcBit_lt (crcBit_lt (crcBit_lt (crcBit_lt (crcBit_lt (xor_16 hr (by omega)))))))))
theorem crcOf_lt {l : List Nat} (hl : ∀ b ∈ l, b < 256) : ∀ {r : Nat}, r < 65536 → crcOf r l < 65536 := by
 induction l with
 | nil => intro r h; exact h
 | cons b l ih => intro r h; rw [crcOf_cons]; exact ih (fun c hc => hl c (List.mem_cons_of_mem _ hc)) (crcByte_lt h (hl b List.mem_cons_self))
end Go.Proofs.YtbophanlmkbfeaaGreatDoor
namespace Go.Proofs.YtbophanlmkbfeaaGreatDoor
def sumU (l : List UInt8) : Nat := crcOf 65535 (l.map UInt8.toNat)
theorem sumU_lt (l : List UInt8) : sumU l < 65536 := crcOf_lt (by intro b hb; obtain ⟨x, _, rfl⟩ := List.mem_map.1 hb; exact x.toNat_lt) (by decide)
def look (s : List UInt8) : Option Nat :=
 if s.length = 0 then none
 else if s.getD 0 0 ≠ 165 then some 0
 else if s.length < 3 then none
 else if 64 < (s.getD 2 0).toNat then some 0
 else if s.length < (s.getD 2 0).toNat + 5 then none
 else if sumU ((s.drop 1).take ((s.getD 2 0).toNat + 2)) = (s.getD ((s.getD 2 0).toNat + 3) 0).toNat * 256 + (s.getD ((s.getD 2 0).toNat + 4) 0).toNat then some ((s.getD 2 0).toNat + 1)
 else some 0
theorem look_len {s : List UInt8} {k : Nat} (h : look s = some k) : 1 ≤ s.length ∧ (∀ n, k = n + 1 → n + 5 ≤ s.length ∧ n = (s.getD 2 0).toNat ∧ n ≤ 64) := by
 unfold look at h
 by_cases l0 : s.length = 0
 ·rw [if_pos l0] at h; cases h
 refine ⟨by omega, fun n hn => ?_⟩
 subst hn
 rw [if_neg l0] at h
 by_cases c : s.getD 0 0 ≠ 165
 ·rw [if_pos c] at h; cases h
 rw [if_neg c] at h
 by_cases l3 : s.length < 3
 ·rw [if_pos l3] at h; cases h
 rw [if_neg l3] at h
 by_cases n64 : 64 < (s.getD 2 0).toNat
 ·rw [if_pos n64] at h; cases h
 rw [if_neg n64] at h
 by_cases l5 : s.length < (s.getD 2 0).toNat + 5
 ·rw [if_pos l5] at h; cases h
 rw [if_neg l5] at h
 by_cases q : sumU ((s.drop 1).take ((s.getD 2 0).toNat + 2)) = (s.getD ((s.getD 2 0).toNat + 3) 0).toNat * 256 + (s.getD ((s.getD 2 0).toNat + 4) 0).toNat
 ·rw [if_pos q] at h
  have : (s.getD 2 0).toNat + 1 = n + 1 := Option.some.inj h
  exact ⟨by omega, by omega, by omega⟩
 ·rw [if_neg q] at h; cases h
def scanU : Nat → List UInt8 → List (UInt8 × List UInt8) × List UInt8 × Nat
 | 0, s => ([], s, 0)
 | f + 1, s => match look s with
  | none => ([], s, 0)
  | some 0 => ((scanU f (s.drop 1)).1, (scanU f (s.drop 1)).2.1, (scanU f (s.drop 1)).2.2 + 1)
  | some (n + 1) => ((s.getD 1 0, (s.drop 3).take n) :: (scanU f (s.drop (n + 5))).1, (scanU f (s.drop (n + 5))).2.1, (scanU f (s.drop (n + 5))).2.2)
theorem look_nil : look [] = none := rfl
theorem scanU_nil : ∀ f, scanU f [] = ([], [], 0)
 | 0 => rfl
 | _ + 1 => rfl
theorem scanU_none {f : Nat} {s : List UInt8} (h : look s = none) : scanU f s = ([], s, 0) := by
 cases f with
 | zero => rfl
 | succ f => unfold scanU; rw [h]
theorem scanU_skip {f : Nat} {s : List UInt8} (h : look s = some 0) : scanU (f + 1) s = ((scanU f (s.drop 1)).1, (scanU f (s.drop 1)).2.1, (scanU f (s.drop 1)).2.2 + 1) := by
 conv => lhs; unfold scanU
 rw [h]
theorem scanU_frame {f n : Nat} {s : List UInt8} (h : look s = some (n + 1)) : scanU (f + 1) s = ((s.getD 1 0, (s.drop 3).take n) :: (scanU f (s.drop (n + 5))).1, (scanU f (s.drop (n + 5))).2.1, (scanU f (s.drop (n + 5))).2.2) := by
 conv => lhs; unfold scanU
 rw [h]
theorem scanU_more : ∀ (f g : Nat) (s : List UInt8), s.length ≤ f → s.length ≤ g → scanU f s = scanU g s
 | 0, g, s, h, _ => by
  obtain rfl : s = [] := List.length_eq_zero_iff.1 (by omega)
  rw [scanU_nil, scanU_nil]
 | f + 1, 0, s, _, h => by
  obtain rfl : s = [] := List.length_eq_zero_iff.1 (by omega)
  rw [scanU_nil, scanU_nil]
 | f + 1, g + 1, s, hf, hg => by
  cases e : look s with
  | none => rw [scanU_none e, scanU_none e]
  | some k =>
   have l := look_len e
   cases k with
   | zero => rw [scanU_skip e, scanU_skip e, scanU_more f g (s.drop 1) (by rw [List.length_drop]; omega) (by rw [List.length_drop]; omega)]
   | succ n => rw [scanU_frame e, scanU_frame e, scanU_more f g (s.drop (n + 5)) (by rw [List.length_drop]; omega) (by rw [List.length_drop]; omega)]
def scanL (s : List UInt8) : List (UInt8 × List UInt8) × List UInt8 × Nat := scanU s.length s
theorem scanL_eq (s : List UInt8) (f : Nat) (h : s.length ≤ f) : scanL s = scanU f s := scanU_more _ _ s (Nat.le_refl _) h
end Go.Proofs.YtbophanlmkbfeaaGreatDoor
namespace Go.Proofs.YtbophanlmkbfeaaGreatDoor
open Go.RowKit
def crcBits : Nat → Nat → Nat
 | 0, r => r
 | k + 1, r => crcBit (crcBits k r)
theorem crcBits_lt {r : Nat} (h : r < 65536) : ∀ k, crcBits k r < 65536
 | 0 => h
 | k + 1 => crcBit_lt (crcBits_lt h k)
def sumK (l : List UInt8) (k : Nat) : Nat := crcOf 65535 ((l.take k).map UInt8.toNat)
theorem sumK_lt (l : List UInt8) (k : Nat) : sumK l k < 65536 := sumU_lt (l.take k)
theorem u16_byte {r b : Nat} (hr : r < 65536) (hb : b < 256) : bits .xor .u16 (r : Int) ((b : Int) * 256) = ((r ^^^ b * 256 : Nat) : Int) := by
 rw [show (b : Int) * 256 = ((b * 256 : Nat) : Int) by omega, u16_xor_nat r (b * 256) hr (by omega)]
theorem u16_one {x : Nat} (hx : x < 65536) (h : ((x : Int) / 32768 == 1) = true) : bits .xor .u16 (IntKind.u16.wrap ((x : Int) * 2)) 4129 = (crcBit x : Nat) := by
 have h : (x : Int) / 32768 = 1 := by simpa using h
 rw [IntKind.wrap_u16, show ((x : Int) * 2) % 65536 = ((2 * x - 65536 : Nat) : Int) by omega]
 unfold crcBit
 rw [if_pos (by omega)]
 exact u16_xor_nat _ 4129 (by omega) (by decide)
theorem u16_none {x : Nat} (hx : x < 65536) (h : ((x : Int) / 32768 == 1) = false) : IntKind.u16.wrap ((x : Int) * 2) = (crcBit x : Nat) := by
 have h : ¬ (x : Int) / 32768 = 1 := by simpa using h
 rw [IntKind.wrap_u16]
 unfold crcBit
 rw [if_neg (by omega)]
 omega
theorem u16_one' {x : Nat} (hx : x < 65536) (h : 32768 ≤ (x : Int)) : bits .xor .u16 (IntKind.u16.wrap ((x : Int) * 2)) 4129 = (crcBit x : Nat) :=
 u16_one hx (by rw [show (x : Int) / 32768 = 1 by omega]; rfl)
theorem u16_none' {x : Nat} (h : ¬ 32768 ≤ (x : Int)) : (x : Int) * 2 = (crcBit x : Nat) := by
 unfold crcBit
 rw [if_neg (by omega)]
 omega
theorem sumK_succ {s : ByteArray} {k b : Nat} (h : k < s.size) (hb : (s[k]'h).toNat = b) : sumK s.data.toList (k + 1) = crcBits 8 (sumK s.data.toList k ^^^ b * 256) := by
 have hl : k < s.data.toList.length := h
 have e : s.data.toList.take (k + 1) = s.data.toList.take k ++ [s[k]'h] := by
  rw [List.take_succ_eq_append_getElem hl]
  rfl
 unfold sumK crcOf
 rw [e, List.map_append, List.foldl_append, List.map_cons, List.map_nil, List.foldl_cons, List.foldl_nil, hb]
 unfold crcByte
 simp only [crcBits]
theorem sumK_all (s : ByteArray) : sumK s.data.toList s.size = sumU s.data.toList := by
 unfold sumK sumU
 rw [List.take_of_length_le (l := s.data.toList) (i := s.size) (Nat.le_refl _)]
set_option maxHeartbeats 1000000 in
set_option maxRecDepth 100000 in
theorem sum_any (s : ByteArray) (w : World) (hs : s.size ≤ 5000) :
    Calls Tryz.prog 142 #[.string s] w fun e w' => e = .returned (.int .u16 (sumU s.data.toList : Nat)) ∧ w = w' := by
 go_enter Tryz.func142, Tryz.ntmps142
 go_wp2
 go_loop [3, 8] (fun r i => ∃ k : Nat, k ≤ s.size ∧ i = .int .i64 k ∧ r = .int .u16 (sumK s.data.toList k : Nat)) (fun _ i => s.size - (intOf i).toNat)
 case atStart => exact ⟨0, Nat.zero_le _, rfl, rfl⟩
 case round =>
  obtain ⟨k, hk, rfl, rfl⟩ := hrel
  have hlt := sumK_lt s.data.toList k
  obtain ⟨r, hr⟩ : ∃ r, r = sumK s.data.toList k := ⟨_, rfl⟩
  rw [← hr] at hlt ⊢
  have HK : Hid (r = sumK s.data.toList k) := hr
  clear hr
  by_cases hkl : k < s.size
  ·obtain ⟨b, hb⟩ : ∃ b, (s[k]'hkl).toNat = b := ⟨_, rfl⟩
   have hb8 : b < 256 := by rw [← hb]; exact (s[k]'hkl).toNat_lt
   obtain ⟨R, hR⟩ : ∃ R, R = r ^^^ b * 256 := ⟨_, rfl⟩
   have hRl : R < 65536 := by rw [hR]; exact xor_16 hlt (by omega)
   have e1 := u16_byte hlt hb8
   rw [← hR] at e1
   have HR : Hid (R = r ^^^ b * 256) := hR
   clear hR
   go_wp2
   go_loop [3, 18] (fun v j => ∃ n : Nat, n ≤ 8 ∧ j = .int .i64 n ∧ v = .int .u16 (crcBits n R : Nat)) (fun _ j => 8 - (intOf j).toNat)
   case atStart => exact ⟨0, by omega, rfl, rfl⟩
   case round =>
    obtain ⟨n, hn, rfl, rfl⟩ := hrel
    have hx := crcBits_lt hRl n
    obtain ⟨x, hxe⟩ : ∃ x, x = crcBits n R := ⟨_, rfl⟩
    rw [← hxe] at hx ⊢
    have HX : Hid (x = crcBits n R) := hxe
    clear hxe
    go_wp2
    ·go_round
     case rel => exact ⟨n + 1, by omega, by go_num, by rw [u16_one hx (by assumption)]; show _ = Value.int .u16 (crcBit (crcBits n R) : Nat); rw [HX.out]⟩
     case measure => simp [intOf]; omega
    ·go_round
     case rel => exact ⟨n + 1, by omega, by go_num, by rw [u16_none hx (by assumption)]; show _ = Value.int .u16 (crcBit (crcBits n R) : Nat); rw [HX.out]⟩
     case measure => simp [intOf]; omega
    ·go_round
     case rel =>
      obtain rfl : n = 8 := by omega
      exact ⟨k + 1, by omega, by go_num, by rw [sumK_succ hkl hb, HX.out, HR.out, HK.out]⟩
     case measure => simp [intOf]; omega
  ·go_wp2
   obtain rfl : k = s.size := by omega
   go_ret
   exact ⟨by rw [HK.out, sumK_all]; rfl, rfl⟩
set_option maxHeartbeats 1000000 in
set_option maxRecDepth 100000 in
theorem rsum_any (s : ByteArray) (w : World) (hs : s.size ≤ 5000) :
    Calls Tryz.prog 66 #[.string s] w fun e w' => e = .returned (.int .u16 (sumU s.data.toList : Nat)) ∧ w = w' := by
 go_enter Tryz.func66, Tryz.ntmps66
 go_wp2
 go_loop [3, 4] (fun r i => ∃ k : Nat, k ≤ s.size ∧ i = .int .i64 k ∧ r = .int .u16 (sumK s.data.toList k : Nat)) (fun _ i => s.size - (intOf i).toNat)
 case atStart => exact ⟨0, Nat.zero_le _, rfl, rfl⟩
 case round =>
  obtain ⟨k, hk, rfl, rfl⟩ := hrel
  have hlt := sumK_lt s.data.toList k
  obtain ⟨r, hr⟩ : ∃ r, r = sumK s.data.toList k := ⟨_, rfl⟩
  rw [← hr] at hlt ⊢
  have HK : Hid (r = sumK s.data.toList k) := hr
  clear hr
  by_cases hkl : k < s.size
  ·obtain ⟨b, hb⟩ : ∃ b, (s[k]'hkl).toNat = b := ⟨_, rfl⟩
   have hb8 : b < 256 := by rw [← hb]; exact (s[k]'hkl).toNat_lt
   obtain ⟨R, hR⟩ : ∃ R, R = r ^^^ b * 256 := ⟨_, rfl⟩
   have hRl : R < 65536 := by rw [hR]; exact xor_16 hlt (by omega)
   have e1 := u16_byte hlt hb8
   rw [← hR] at e1
   have HR : Hid (R = r ^^^ b * 256) := hR
   clear hR
   go_wp2
   go_loop [3, 5] (fun v j => ∃ n : Nat, n ≤ 8 ∧ j = .int .i64 n ∧ v = .int .u16 (crcBits n R : Nat)) (fun _ j => 8 - (intOf j).toNat)
   case atStart => exact ⟨0, by omega, rfl, rfl⟩
   case round =>
    obtain ⟨n, hn, rfl, rfl⟩ := hrel
    have hx := crcBits_lt hRl n
    obtain ⟨x, hxe⟩ : ∃ x, x = crcBits n R := ⟨_, rfl⟩
    rw [← hxe] at hx ⊢
    have HX : Hid (x = crcBits n R) := hxe
    clear hxe
    clear e1
    by_cases hn8 : n < 8
    ·by_cases c : 32768 ≤ (x : Int)
     ·go_wp2
      go_round
      case rel => exact ⟨n + 1, by omega, by go_num, by rw [u16_one' hx c]; show _ = Value.int .u16 (crcBit (crcBits n R) : Nat); rw [HX.out]⟩
      case measure => simp [intOf]; omega
     ·go_wp2
      go_round
      case rel => exact ⟨n + 1, by omega, by go_num, by rw [u16_none' c]; show _ = Value.int .u16 (crcBit (crcBits n R) : Nat); rw [HX.out]⟩
      case measure => simp [intOf]; omega
    ·go_wp2
     go_round
     case rel =>
      obtain rfl : n = 8 := by omega
      exact ⟨k + 1, by omega, by go_num, by rw [sumK_succ hkl hb, HX.out, HR.out, HK.out]⟩
     case measure => simp [intOf]; omega
  ·go_wp2
   obtain rfl : k = s.size := by omega
   go_ret
   exact ⟨by rw [HK.out, sumK_all]; rfl, rfl⟩
end Go.Proofs.YtbophanlmkbfeaaGreatDoor
namespace Go.Proofs.YtbophanlmkbfeaaGreatDoor
def wrapHead (k : UInt8) (d : List UInt8) : List UInt8 := [k, UInt8.ofNat d.length] ++ d
def wrapL (k : UInt8) (d : List UInt8) : List UInt8 := [165] ++ wrapHead k d ++ [UInt8.ofNat (sumU (wrapHead k d) / 256), UInt8.ofNat (sumU (wrapHead k d) % 256)]
theorem ofNat_toNat {n : Nat} (h : n < 256) : (UInt8.ofNat n).toNat = n := by simp; omega
section
variable {l : List UInt8} {n : Nat}
theorem look0 (h : 0 < l.length) (c : (l.getD 0 0).toNat ≠ 165) : look l = some 0 := by
 unfold look
 rw [if_neg (by omega), if_pos (fun e => c (by rw [e]; rfl))]
theorem look1 (h : 0 < l.length) (c : (l.getD 0 0).toNat = 165) (h3 : l.length < 3) : look l = none := by
 unfold look
 rw [if_neg (by omega), if_neg (by simpa [← UInt8.toNat_inj] using c), if_pos h3]
theorem look2 (c : (l.getD 0 0).toNat = 165) (h3 : 3 ≤ l.length) (hn : (l.getD 2 0).toNat = n) (h : 64 < n) : look l = some 0 := by
 unfold look
 rw [if_neg (by omega), if_neg (by simpa [← UInt8.toNat_inj] using c), if_neg (by omega), if_pos (by omega)]
theorem look3 (c : (l.getD 0 0).toNat = 165) (h3 : 3 ≤ l.length) (hn : (l.getD 2 0).toNat = n) (h : n ≤ 64) (h5 : l.length < n + 5) : look l = none := by
 unfold look
 rw [if_neg (by omega), if_neg (by simpa [← UInt8.toNat_inj] using c), if_neg (by omega), if_neg (by omega), if_pos (by omega)]
theorem look4 (c : (l.getD 0 0).toNat = 165) (hn : (l.getD 2 0).toNat = n) (h : n ≤ 64) (h5 : n + 5 ≤ l.length)
    (hq : sumU ((l.drop 1).take (n + 2)) ≠ (l.getD (n + 3) 0).toNat * 256 + (l.getD (n + 4) 0).toNat) : look l = some 0 := by
 unfold look
 rw [if_neg (by omega), if_neg (by simpa [← UInt8.toNat_inj] using c), if_neg (by omega), if_neg (by omega), if_neg (by omega), hn, if_neg hq]
theorem look5 (c : (l.getD 0 0).toNat = 165) (hn : (l.getD 2 0).toNat = n) (h : n ≤ 64) (h5 : n + 5 ≤ l.length)
    (hq : sumU ((l.drop 1).take (n + 2)) = (l.getD (n + 3) 0).toNat * 256 + (l.getD (n + 4) 0).toNat) : look l = some (n + 1) := by
 unfold look
 rw [if_neg (by omega), if_neg (by simpa [← UInt8.toNat_inj] using c), if_neg (by omega), if_neg (by omega), if_neg (by omega), hn, if_pos hq]
end
theorem look_parts {l : List UInt8} {n : Nat} (h : look l = some (n + 1)) : l.getD 0 0 = 165 ∧ (l.getD 2 0).toNat = n ∧ n ≤ 64 ∧ n + 5 ≤ l.length ∧
    sumU ((l.drop 1).take (n + 2)) = (l.getD (n + 3) 0).toNat * 256 + (l.getD (n + 4) 0).toNat := by
 have L := (look_len h).2 n rfl
 unfold look at h
 split at h
 ·cases h
 split at h
 ·cases h
 rename_i a
 split at h
 ·cases h
 split at h
 ·cases h
 split at h
 ·cases h
 split at h
 ·rename_i q
  rw [← L.2.1] at q
  exact ⟨by simpa using a, L.2.1.symm, L.2.2, L.1, q⟩
 ·cases h
theorem list5 {l : List UInt8} {n : Nat} (h : l.length = n + 5) : ∃ a b c d p q, l = a :: b :: c :: (d ++ [p, q]) ∧ d.length = n := by
 match l, h with
 | a :: b :: c :: r, h =>
  have hr : r.length = n + 2 := by simp at h; omega
  refine ⟨a, b, c, r.take n, r[n]'(by omega), r[n + 1]'(by omega), ?_, by rw [List.length_take]; omega⟩
  have e : r = r.take n ++ [r[n]'(by omega), r[n + 1]'(by omega)] := by
   apply List.ext_getElem
   ·simp; omega
   ·intro i h1 h2
    by_cases hi : i < n
    ·rw [List.getElem_append_left (by rw [List.length_take]; omega), List.getElem_take]
    ·rw [List.getElem_append_right (by rw [List.length_take]; omega)]
     have : i = n ∨ i = n + 1 := by omega
     rcases this with rfl | rfl
     ·simp [show min i r.length = i by omega]
     ·simp [show min n r.length = n by omega]
  rw [← e]
theorem look_mk {a b c p q : UInt8} {d r : List UInt8} (hd : d.length ≤ 64) (ha : a = 165) (hc : c.toNat = d.length) (hs : sumU ([b, c] ++ d) = p.toNat * 256 + q.toNat) :
    look (a :: b :: c :: (d ++ [p, q]) ++ r) = some (d.length + 1) := by
 refine look5 (by subst ha; rfl) (by simpa using hc) hd (by simp) ?_
 have e1 : ((a :: b :: c :: (d ++ [p, q]) ++ r).drop 1).take (d.length + 2) = [b, c] ++ d := by
  simp
 have e2 : (a :: b :: c :: (d ++ [p, q]) ++ r).getD (d.length + 3) 0 = p := by
  simp
 have e3 : (a :: b :: c :: (d ++ [p, q]) ++ r).getD (d.length + 4) 0 = q := by
  simp [show d.length + 1 - d.length = 1 by omega]
 rw [e1, e2, e3, hs]
theorem wrapL_parts (k : UInt8) (d : List UInt8) : wrapL k d = 165 :: k :: UInt8.ofNat d.length :: (d ++ [UInt8.ofNat (sumU (wrapHead k d) / 256), UInt8.ofNat (sumU (wrapHead k d) % 256)]) := by
 simp [wrapL, wrapHead]
theorem wrapL_length (k : UInt8) (d : List UInt8) : (wrapL k d).length = d.length + 5 := by
 rw [wrapL_parts]
 simp
theorem sum_join (n : Nat) (h : n < 65536) : n = (UInt8.ofNat (n / 256)).toNat * 256 + (UInt8.ofNat (n % 256)).toNat := by
 rw [ofNat_toNat (by omega), ofNat_toNat (by omega)]
 omega
theorem look_wrap (k : UInt8) (d r : List UInt8) (h : d.length ≤ 64) : look (wrapL k d ++ r) = some (d.length + 1) := by
 rw [wrapL_parts]
 exact look_mk h rfl (ofNat_toNat (by omega)) (sum_join _ (sumU_lt _))
theorem wrap_look {l : List UInt8} {n : Nat} (h : look l = some (n + 1)) : l.take (n + 5) = wrapL (l.getD 1 0) ((l.drop 3).take n) := by
 obtain ⟨h0, h2, h64, h5, hs⟩ := look_parts h
 obtain ⟨a, b, c, d, p, q, e, hd⟩ := list5 (l := l.take (n + 5)) (n := n) (by rw [List.length_take]; omega)
 have el : l = a :: b :: c :: (d ++ [p, q]) ++ l.drop (n + 5) := by rw [← e, List.take_append_drop]
 rw [e]
 generalize l.drop (n + 5) = r at el
 subst el hd
 have e1 : ((a :: b :: c :: (d ++ [p, q]) ++ r).drop 1).take (d.length + 2) = [b, c] ++ d := by
  simp
 have e2 : (a :: b :: c :: (d ++ [p, q]) ++ r).getD (d.length + 3) 0 = p := by
  simp
 have e3 : (a :: b :: c :: (d ++ [p, q]) ++ r).getD (d.length + 4) 0 = q := by
  simp [show d.length + 1 - d.length = 1 by omega]
 have e4 : ((a :: b :: c :: (d ++ [p, q]) ++ r).drop 3).take d.length = d := by
  simp
 have e5 : (a :: b :: c :: (d ++ [p, q]) ++ r).getD 1 0 = b := rfl
 have ha : a = 165 := h0
 have hc : c.toNat = d.length := h2
 rw [e1, e2, e3] at hs
 rw [e4, e5, wrapL_parts, ha]
 have hw : wrapHead b d = [b, c] ++ d := by
  unfold wrapHead
  rw [← hc, UInt8.ofNat_toNat]
 have hp := p.toNat_lt
 have hq := q.toNat_lt
 rw [hw, hs, ← hc, UInt8.ofNat_toNat, show (p.toNat * 256 + q.toNat) / 256 = p.toNat by omega, show (p.toNat * 256 + q.toNat) % 256 = q.toNat by omega, UInt8.ofNat_toNat, UInt8.ofNat_toNat]
theorem scanL_none {l : List UInt8} (h : look l = none) : scanL l = ([], l, 0) := scanU_none h
theorem scanL_skip {l : List UInt8} (h : look l = some 0) : scanL l = ((scanL (l.drop 1)).1, (scanL (l.drop 1)).2.1, (scanL (l.drop 1)).2.2 + 1) := by
 have L := (look_len h).1
 rw [scanL_eq l (l.length - 1 + 1) (by omega), scanU_skip h, ← scanL_eq (l.drop 1) _ (by rw [List.length_drop]; omega)]
theorem scanL_frame {l : List UInt8} {n : Nat} (h : look l = some (n + 1)) : scanL l = ((l.getD 1 0, (l.drop 3).take n) :: (scanL (l.drop (n + 5))).1, (scanL (l.drop (n + 5))).2.1, (scanL (l.drop (n + 5))).2.2) := by
 have L := (look_len h).2 n rfl
 rw [scanL_eq l (l.length - 1 + 1) (by omega), scanU_frame h, ← scanL_eq (l.drop (n + 5)) _ (by rw [List.length_drop]; omega)]
end Go.Proofs.YtbophanlmkbfeaaGreatDoor
namespace Go.Proofs.YtbophanlmkbfeaaGreatDoor
open Go.RowKit
theorem getD_of {s : ByteArray} {i : Nat} (h : i < s.size) : s.data.toList.getD i 0 = s[i]'h := by
 have hl : i < s.data.toList.length := h
 rw [List.getD_eq_getElem?_getD, List.getElem?_eq_getElem hl]
 rfl
theorem join16 {a b : Nat} (ha : a < 256) (hb : b < 256) : bits .or .u16 ((a : Int) * 256) (b : Int) = ((a * 256 + b : Nat) : Int) := by
 rw [show (a : Int) * 256 = ((a * 256 : Nat) : Int) by omega, u16_or_nat (a * 256) b (by omega) (by omega)]
 have := Nat.two_pow_add_eq_or_of_lt (i := 8) (show b < 2 ^ 8 by omega) a
 rw [show a * 256 = 2 ^ 8 * a by omega, ← this]
theorem extract_list (s : ByteArray) (a b : Nat) : (s.extract a b).data.toList = (s.data.toList.drop a).take (b - a) := Lib.extract_data s a b
theorem not_empty {s : ByteArray} (h : s.size ≠ 0) : s.toList.isEmpty = false := by
 rw [Lib.toList_data]
 cases e : s.data.toList with
 | nil => exact absurd (by rw [Lib.size_eq, e]; rfl) h
 | cons a l => rfl
def lookP : Option Nat → Int × Int
 | none => (1, 0)
 | some 0 => (0, 0)
 | some (n + 1) => (2, (n : Int) + 5)
def lookC (l : List UInt8) : Int × Int := if l.length = 0 then (0, 0) else lookP (look l)
theorem lookC_of {l : List UInt8} {r : Option Nat} (h : 0 < l.length) (hr : look l = r) : lookC l = lookP r := by
 unfold lookC
 rw [if_neg (by omega), hr]
theorem below_alike {w : World} {n : Nat} : Below w.heap.size w (w.drewN n) := below_drewN (Below.refl _ _) n
theorem cell_kept0 {w w1 : World} (hb1 : Below (w.alloc (.cells #[.int .i64 0, .string ⟨#[]⟩] 49)).heap.size (w.alloc (.cells #[.int .i64 0, .string ⟨#[]⟩] 49)) w1) : w1.cell? ⟨w.heap.size, 0, none⟩ = some (.int .i64 0) := (hb1.cell (by simp)).trans (by simp)
theorem cell_kept1 {w w1 : World} (hb1 : Below (w.alloc (.cells #[.int .i64 0, .string ⟨#[]⟩] 49)).heap.size (w.alloc (.cells #[.int .i64 0, .string ⟨#[]⟩] 49)) w1) : w1.cell? ⟨w.heap.size, 1, none⟩ = some (.string ⟨#[]⟩) := (hb1.cell (by simp)).trans (by simp)
theorem free_kept0 {w w1 : World} (hb1 : Below (w.alloc (.cells #[.int .i64 0, .string ⟨#[]⟩] 49)).heap.size (w.alloc (.cells #[.int .i64 0, .string ⟨#[]⟩] 49)) w1) : w1.frozen? ⟨w.heap.size, 0, none⟩ = false := (hb1.frozen (by simp)).trans (by simp)
theorem free_kept1 {w w1 : World} (hb1 : Below (w.alloc (.cells #[.int .i64 0, .string ⟨#[]⟩] 49)).heap.size (w.alloc (.cells #[.int .i64 0, .string ⟨#[]⟩] 49)) w1) : w1.frozen? ⟨w.heap.size, 1, none⟩ = false := (hb1.frozen (by simp)).trans (by simp)
theorem below_kept {w w1 : World} (hb1 : Below (w.alloc (.cells #[.int .i64 0, .string ⟨#[]⟩] 49)).heap.size (w.alloc (.cells #[.int .i64 0, .string ⟨#[]⟩] 49)) w1) : Below w.heap.size w w1 := ((Below.refl _ w).alloc (Nat.le_refl _) _).trans (hb1.mono (by simp))
theorem sum_quiet (s : ByteArray) (w : World) (n : Nat) (hs : s.size ≤ 5000) :
    Calls Tryz.prog 142 #[.string s] (w.drewN n) fun e w' => e = .returned (.int .u16 (sumU s.data.toList : Nat)) ∧ ∃ m, w' = w.drewN m :=
 (sum_any s _ hs).mono fun _ _ ⟨he, hw⟩ => ⟨he, n, hw.symm⟩
set_option maxHeartbeats 1000000 in
set_option maxRecDepth 100000 in
theorem look_any (s : ByteArray) (w : World) :
    Calls Tryz.prog 80 #[.string s] w fun e w' => e = .returned (.tuple #[.int .i64 (lookC s.data.toList).1, .int .i64 (lookC s.data.toList).2]) ∧ Below w.heap.size w w' := by
 have hlen : s.data.toList.length = s.size := rfl
 by_cases h0 : s.size = 0
 ·have e : lookC s.data.toList = (0, 0) := by unfold lookC; rw [if_pos (by omega)]
  rw [e]
  obtain rfl : s = ⟨#[]⟩ := by apply ByteArray.ext; exact Array.eq_empty_of_size_eq_zero h0
  go_enter Tryz.func80, Tryz.ntmps80
  go_wp2
  go_ret2
  exact ⟨rfl, Below.refl _ _⟩
 have l0 : 0 < s.size := by omega
 obtain ⟨b0, hb0⟩ : ∃ b, (s[0]'l0).toNat = b := ⟨_, rfl⟩
 have g0 : (s.data.toList.getD 0 0).toNat = b0 := by rw [getD_of l0, hb0]
 have hne : s.toList.isEmpty = false := not_empty h0
 have G0 : Hid ((s.data.toList.getD 0 0).toNat = b0) := g0
 clear g0
 by_cases c0 : b0 = 165
 case neg =>
  rw [lookC_of (by omega) (look0 (by omega) (by rw [G0.out]; exact c0))]
  have c0' : ((b0 : Int) != 165) = true := by simp; omega
  go_enter Tryz.func80, Tryz.ntmps80
  go_wp2
  go_ret2
  exact ⟨rfl, Below.refl _ _⟩
 rw [c0] at G0 hb0
 clear c0 b0
 by_cases h3 : s.size < 3
 case pos =>
  rw [lookC_of (by omega) (look1 (by omega) G0.out (by omega))]
  go_enter Tryz.func80, Tryz.ntmps80
  go_wp2
  go_ret2
  exact ⟨rfl, Below.refl _ _⟩
 have l2 : 2 < s.size := by omega
 obtain ⟨n, hn⟩ : ∃ b, (s[2]'l2).toNat = b := ⟨_, rfl⟩
 have hn8 : n < 256 := by rw [← hn]; exact (s[2]'l2).toNat_lt
 have G2 : Hid ((s.data.toList.getD 2 0).toNat = n) := by show _ = _; rw [getD_of l2, hn]
 by_cases h64 : 64 < n
 case pos =>
  rw [lookC_of (by omega) (look2 G0.out (by omega) G2.out h64)]
  go_enter Tryz.func80, Tryz.ntmps80
  go_wp2
  go_ret2
  exact ⟨rfl, Below.refl _ _⟩
 by_cases h5 : s.size < n + 5
 case pos =>
  rw [lookC_of (by omega) (look3 G0.out (by omega) G2.out (by omega) (by omega))]
  go_enter Tryz.func80, Tryz.ntmps80
  go_wp2
  go_ret2
  exact ⟨rfl, Below.refl _ _⟩
 have l3 : 3 + n < s.size := by omega
 have l4 : 3 + n + 1 < s.size := by omega
 obtain ⟨p, hp⟩ : ∃ b, (s[3 + n]'l3).toNat = b := ⟨_, rfl⟩
 obtain ⟨q, hq⟩ : ∃ b, (s[3 + n + 1]'l4).toNat = b := ⟨_, rfl⟩
 have hp8 : p < 256 := by rw [← hp]; exact (s[3 + n]'l3).toNat_lt
 have hq8 : q < 256 := by rw [← hq]; exact (s[3 + n + 1]'l4).toNat_lt
 have G3 : Hid ((s.data.toList.getD (n + 3) 0).toNat = p) := by show _ = _; rw [show n + 3 = 3 + n by omega, getD_of l3, hp]
 have G4 : Hid ((s.data.toList.getD (n + 4) 0).toNat = q) := by show _ = _; rw [show n + 4 = 3 + n + 1 by omega, getD_of l4, hq]
 have HS : Hid ((s.extract 1 (3 + n)).data.toList = (s.data.toList.drop 1).take (n + 2)) := by show _ = _; rw [extract_list, show 3 + n - 1 = n + 2 by omega]
 have hsz : (s.extract 1 (3 + n)).size ≤ 5000 := by rw [ByteArray.size_extract]; omega
 have hj := join16 hp8 hq8
 obtain ⟨j, hje⟩ : ∃ j, j = p * 256 + q := ⟨_, rfl⟩
 rw [← hje] at hj
 have HJ : Hid (j = p * 256 + q) := hje
 clear hje
 obtain ⟨S, hS⟩ : ∃ S, S = sumU (s.extract 1 (3 + n)).data.toList := ⟨_, rfl⟩
 have hsum : ∀ m, Calls Tryz.prog 142 #[.string (s.extract 1 (3 + n))] (w.drewN m) fun e w' => e = .returned (.int .u16 (S : Nat)) ∧ ∃ m, w' = w.drewN m := fun m => by
  rw [hS]
  exact sum_quiet _ _ _ hsz
 have hsl : ∀ W : World, (Instr.slice 9 (.string s) (some (.int .i64 1)) (some (.int .i64 (3 + (n : Int)))) none).run Tryz.prog W = .ok (.string (s.extract 1 (3 + n))) W := fun W => by
  rw [run_slice_string W 9 s .i64 .i64 1 (3 + (n : Int)) Tryz.underlying9 (by omega) (by omega) (by omega), show (3 + (n : Int)).toNat = 3 + n by omega]
  rfl
 have hi3 : ∀ W : World, (Instr.index 9 (.string s) (.int .i64 (3 + (n : Int)))).run Tryz.prog W = .ok (.int .u8 (p : Nat)) W := fun W => by
  rw [run_index_string W 9 s .i64 (3 + (n : Int)) Tryz.underlying9, dif_pos (by omega)]
  have : (3 + (n : Int)).toNat = 3 + n := by omega
  simp only [this, hp]
 have hi4 : ∀ W : World, (Instr.index 9 (.string s) (.int .i64 (3 + (n : Int) + 1))).run Tryz.prog W = .ok (.int .u8 (q : Nat)) W := fun W => by
  rw [run_index_string W 9 s .i64 (3 + (n : Int) + 1) Tryz.underlying9, dif_pos (by omega)]
  have : (3 + (n : Int) + 1).toNat = 3 + n + 1 := by omega
  simp only [this, hq]
 have HS' : Hid (S = sumU ((s.data.toList.drop 1).take (n + 2))) := by show _ = _; rw [hS, HS.out]
 clear hS hsz HS hp hq
 by_cases hs : S = j
 ·rw [lookC_of (by omega) (look5 G0.out G2.out (by omega) (by omega) (by rw [G3.out, G4.out, ← HJ.out, ← HS'.out]; exact hs))]
  have ht : ((S : Int) != (j : Int)) = false := by simp; omega
  have HH : Hid (S = j) := hs
  clear hs
  go_enter Tryz.func80, Tryz.ntmps80
  go_wp2
  go_quiet ((go_at_call 142; exact hsum _))
  go_wp2
  go_ret2
  refine ⟨?_, below_alike⟩
  show _ = Ending.returned (.tuple #[.int .i64 2, .int .i64 ((n : Int) + 5)])
  rw [show (n : Int) + 5 = 3 + n + 2 by omega]
  rfl
 ·rw [lookC_of (by omega) (look4 G0.out G2.out (by omega) (by omega) (by rw [G3.out, G4.out, ← HJ.out, ← HS'.out]; exact hs))]
  have ht : ((S : Int) != (j : Int)) = true := by simp; omega
  go_enter Tryz.func80, Tryz.ntmps80
  go_wp2
  go_quiet ((go_at_call 142; exact hsum _))
  go_wp2
  go_ret2
  exact ⟨rfl, below_alike⟩
end Go.Proofs.YtbophanlmkbfeaaGreatDoor
namespace Go.Proofs.YtbophanlmkbfeaaGreatDoor
open Go.RowKit
def cellsOf (l : List (UInt8 × List UInt8)) : List Value := l.flatMap fun x => [.int .i64 (x.1.toNat : Nat), .string ⟨x.2.toArray⟩]
theorem cellsOf_length (l : List (UInt8 × List UInt8)) : (cellsOf l).length = l.length * 2 := by
 induction l with
 | nil => rfl
 | cons x l ih => simp only [cellsOf, List.flatMap_cons, List.length_append, List.length_cons, List.length_nil] at ih ⊢; omega
theorem cellsOf_append (l m : List (UInt8 × List UInt8)) : cellsOf (l ++ m) = cellsOf l ++ cellsOf m := by simp [cellsOf]
theorem cellsOf_at : ∀ (l : List (UInt8 × List UInt8)) (i : Nat) (h : i < l.length), (cellsOf l)[i * 2]? = some (.int .i64 (l[i].1.toNat : Nat)) ∧ (cellsOf l)[i * 2 + 1]? = some (.string ⟨l[i].2.toArray⟩)
 | x :: l, 0, _ => ⟨rfl, rfl⟩
 | x :: l, i + 1, h => by
  have := cellsOf_at l i (by simpa using h)
  have e : cellsOf (x :: l) = [.int .i64 (x.1.toNat : Nat), .string ⟨x.2.toArray⟩] ++ cellsOf l := rfl
  rw [e, show (i + 1) * 2 = i * 2 + 2 by omega]
  exact this
def Frames (B : Nat) (w : World) (v : Value) (l : List (UInt8 × List UInt8)) : Prop := w.ownsRow B 49 2 v l.length (cellsOf l)
theorem Frames.below {B : Nat} {w w' : World} {v : Value} {l : List (UInt8 × List UInt8)} (h : Frames B w v l) (hb : Below w.heap.size w w') : Frames B w' v l := by
 refine ⟨h.1, ?_⟩
 rcases h.2 with hn | ⟨g, cap, cur, rfl, hg, hgg, rest⟩
 ·exact .inl hn
 ·exact .inr ⟨g, cap, cur, rfl, hg, by rw [hb.block g (Array.getElem?_eq_some_iff.1 hgg).1]; exact hgg, rest⟩
theorem Frames.base {B B' : Nat} {w : World} {v : Value} {l : List (UInt8 × List UInt8)} (h : Frames B' w v l) (hB : B ≤ B') : Frames B w v l :=
 ⟨h.1, h.2.imp id (fun ⟨g, cap, cur, a, b, c⟩ => ⟨g, cap, cur, a, Nat.le_trans hB b, c⟩)⟩
theorem Frames.shape {B : Nat} {w : World} {v : Value} {l : List (UInt8 × List UInt8)} (h : Frames B w v l) :
    ∃ (a : Option Addr) (c : Nat), v = .slice a l.length c ∧ l.length ≤ c ∧ (l ≠ [] → ∃ g, a = some ⟨g, 0, none⟩ ∧ B ≤ g ∧ g < w.heap.size ∧
      ∀ i (hi : i < l.length), w.cell? ⟨g, i * 2, none⟩ = some (.int .i64 (l[i].1.toNat : Nat)) ∧ w.cell? ⟨g, i * 2 + 1, none⟩ = some (.string ⟨l[i].2.toArray⟩)) := by
 have H := h
 rcases h.2 with ⟨rfl, h0⟩ | ⟨g, cap, cur, rfl, hg, hgg, hn, rest⟩
 ·exact ⟨none, 0, by rw [h0], by omega, fun hne => absurd (List.length_eq_zero_iff.1 h0) hne⟩
 ·refine ⟨some ⟨g, 0, none⟩, cap, rfl, hn, fun _ => ⟨g, rfl, hg, (Array.getElem?_eq_some_iff.1 hgg).1, fun i hi => ?_⟩⟩
  have H' : w.ownsRow B 49 2 (.slice (some ⟨g, 0, none⟩) l.length cap) l.length (cellsOf l) := H
  have c := cellsOf_at l i hi
  exact ⟨(H'.cellAt (i * 2) (by omega)).trans c.1, (H'.cellAt (i * 2 + 1) (by omega)).trans c.2⟩
end Go.Proofs.YtbophanlmkbfeaaGreatDoor
namespace Go.Proofs.YtbophanlmkbfeaaGreatDoor
open Go.RowKit
theorem frame_info : (Tryz.prog.info? 49).map (fun i => (i.zero, i.size, i.bytes)) = some (some (.agg #[.int .i64 0, .string ⟨#[]⟩]), 2, 24) := by kernel_rfl
theorem cell_two_new (w : World) (x y : Value) (t : TypeId) : ∀ j u, [x, y][j]? = some u → (w.alloc (.cells #[x, y] t)).cell? ((⟨w.heap.size, 0, none⟩ : Addr).add j) = some u := by
 intro j u hj
 match j, hj with
 | 0, hj => simp at hj; subst hj; simp [Addr.add]
 | 1, hj => simp at hj; subst hj; simp [Addr.add]
 | (j + 2), hj => simp at hj
def lenS : Value → Nat
 | .string t => t.size
 | _ => 0
theorem mkBytes {s : ByteArray} {l : List UInt8} (h : s.data.toList = l) : s = ⟨l.toArray⟩ := ByteArray.ext (Array.toList_inj.1 (by rw [h]))
def ScanEnd (L : List UInt8) (w : World) (e : Ending) (w' : World) : Prop :=
 ∃ (v : Value) (r : ByteArray), e = .returned (.tuple #[v, .string r, .int .i64 ((scanL L).2.2 : Nat)]) ∧ r.data.toList = (scanL L).2.1 ∧ Frames w.heap.size w' v (scanL L).1 ∧ Below w.heap.size w w'
def SoFar (L : List UInt8) (acc : List (UInt8 × List UInt8)) (t : List UInt8) (o : Nat) : Prop :=
 scanL L = (acc ++ (scanL t).1, (scanL t).2.1, o + (scanL t).2.2) ∧ acc.length + t.length + o ≤ L.length
theorem SoFar.start (L : List UInt8) : SoFar L [] L 0 := ⟨by simp, by simp⟩
theorem SoFar.skip {L t : List UInt8} {acc : List (UInt8 × List UInt8)} {o : Nat} (h : SoFar L acc t o) (hl : look t = some 0) : SoFar L acc (t.drop 1) (o + 1) := by
 have l := (look_len hl).1
 refine ⟨by rw [h.1, scanL_skip hl]; simp; omega, ?_⟩
 have := h.2
 rw [List.length_drop]
 omega
theorem SoFar.frame {L t : List UInt8} {acc : List (UInt8 × List UInt8)} {o n : Nat} (h : SoFar L acc t o) (hl : look t = some (n + 1)) : SoFar L (acc ++ [(t.getD 1 0, (t.drop 3).take n)]) (t.drop (n + 5)) o := by
 have l := ((look_len hl).2 n rfl).1
 refine ⟨by rw [h.1, scanL_frame hl]; simp, ?_⟩
 have := h.2
 rw [List.length_drop, List.length_append]
 simp
 omega
theorem SoFar.stop {L t : List UInt8} {acc : List (UInt8 × List UInt8)} {o : Nat} (h : SoFar L acc t o) (hl : look t = none) : scanL L = (acc, t, o) := by
 rw [h.1, scanL_none hl]
 simp
end Go.Proofs.YtbophanlmkbfeaaGreatDoor
namespace Go.Proofs.YtbophanlmkbfeaaGreatDoor
open Go.Shelf Go.RowKit
def cloneRen : Go.Shelf.Ren := ⟨fun | 316 => 145 | n => n, fun | 9 => 9 | 3 => 3 | 4 => 4 | 37 => 135 | 0 => 0 | 127 => 259 | 5 => 5 | n => n, fun | n => n⟩
theorem cloneLays : Go.Proofs.LaysM.n316 Tryz.prog cloneRen := {
 mixed := by kernel_rfl
 f316 := Tryz.func145.trans (congrArg some (by kernel_rfl))
 t0 := Tryz.underlying0
 a0 := Tryz.isAgg0
 z0 := Tryz.sizeOf0
 v0 := Tryz.zeroValue0
 t3 := Tryz.underlying3
 a3 := Tryz.isAgg3
 z3 := Tryz.sizeOf3
 v3 := Tryz.zeroValue3
 t4 := Tryz.underlying4
 a4 := Tryz.isAgg4
 z4 := Tryz.sizeOf4
 v4 := Tryz.zeroValue4
 t9 := Tryz.underlying9
 a9 := Tryz.isAgg9
 z9 := Tryz.sizeOf9
 v9 := Tryz.zeroValue9
 t37 := Tryz.underlying135
 a37 := Tryz.isAgg135
 z37 := Tryz.sizeOf135
 v37 := Tryz.zeroValue135
 t127 := Tryz.underlying259
 a127 := Tryz.isAgg259
 z127 := Tryz.sizeOf259
 v127 := Tryz.zeroValue259
 t5 := Tryz.underlying5
 a5 := Tryz.isAgg5
 z5 := Tryz.sizeOf5
 v5 := Tryz.zeroValue5
 i0 := by kernel_rfl
 i3 := by kernel_rfl
 i4 := by kernel_rfl
 i5 := by kernel_rfl
 i9 := by kernel_rfl
 i37 := by kernel_rfl
 i127 := by kernel_rfl }
theorem lite_any (s : ByteArray) (w : World) (h : s.size ≤ 281474976710656) :
    Calls Tryz.prog 145 #[.string s] w fun e w' => e = .returned (.string s) ∧ Below w.heap.size w w' := Any.stringslite_Clone cloneLays s w h
theorem clone_any (s : ByteArray) (w : World) (h : s.size ≤ 281474976710656) :
    Calls Tryz.prog 81 #[.string s] w fun e w' => e = .returned (.string s) ∧ Below w.heap.size w w' := by
 go_enter Tryz.func81, Tryz.ntmps81
 go_wp2_with (go_at_call 145; refine (lite_any s _ h).mono ?_; rintro e w' ⟨rfl, hb⟩)
 go_ret
 exact ⟨rfl, hb⟩
end Go.Proofs.YtbophanlmkbfeaaGreatDoor
namespace Go.Proofs.YtbophanlmkbfeaaGreatDoor
open Go.RowKit
set_option maxHeartbeats 1000000 in
set_option maxRecDepth 100000 in
theorem unwrap_any (s : ByteArray) (k : Nat) (w : World) (h5 : 5 ≤ s.size) (hm : s.size ≤ 5000) (hk : (s[1]'(by omega)).toNat = k) :
    Calls Tryz.prog 82 #[.string s] w fun e w' => e = .returned (.agg #[.int .i64 (k : Nat), .string (s.extract 3 (s.size - 2))]) ∧ Below w.heap.size w w' := by
 have hk8 : k < 256 := by rw [← hk]; exact (s[1]'(by omega)).toNat_lt
 have hsz : (s.extract 3 (s.size - 2)).size ≤ 281474976710656 := by rw [ByteArray.size_extract]; omega
 have hsl : ∀ W : World, (Instr.slice 9 (.string s) (some (.int .i64 3)) (some (.int .i64 ((s.size : Int) - 2))) none).run Tryz.prog W = .ok (.string (s.extract 3 (s.size - 2))) W := fun W => by
  rw [run_slice_string W 9 s .i64 .i64 3 ((s.size : Int) - 2) Tryz.underlying9 (by omega) (by omega) (by omega), show ((s.size : Int) - 2).toNat = s.size - 2 by omega]
  rfl
 have hcl := fun W => clone_any (s.extract 3 (s.size - 2)) W hsz
 have hw : IntKind.i64.wrap ((s.size : Int) - 2) = (s.size : Int) - 2 := by rw [IntKind.wrap_i64]; omega
 have hv : IntKind.i64.wrap (k : Int) = (k : Int) := by rw [IntKind.wrap_i64]; omega
 go_enter Tryz.func82, Tryz.ntmps82
 go_wp2
 go_region_with (go_at_call 81; refine (hcl _).mono ?_; rintro e w1 ⟨rfl, hb1⟩; have k0 : w1.cell? ⟨w.heap.size, 0, none⟩ = some (.int .i64 0) := (hb1.cell (by simp)).trans (by simp); have k1 : w1.cell? ⟨w.heap.size, 1, none⟩ = some (.string ⟨#[]⟩) := (hb1.cell (by simp)).trans (by simp); have f0 : w1.frozen? ⟨w.heap.size, 0, none⟩ = false := (hb1.frozen (by simp)).trans (by simp); have f1 : w1.frozen? ⟨w.heap.size, 1, none⟩ = false := (hb1.frozen (by simp)).trans (by simp))
 all_goals
  go_wp2
  have hb0 : Below w.heap.size w (w.alloc (.cells #[.int .i64 0, .string ⟨#[]⟩] 49)).drew := ((Below.refl _ w).alloc (Nat.le_refl _) _).drew
  have hb2 : Below w.heap.size w w1 := hb0.trans (hb1.mono (by simp))
  refine bodyPost_ret (v := .agg #[.int .i64 (k : Nat), .string (s.extract 3 (s.size - 2))]) (by simp [results, Tryz.results82, go_sem, k0, k1]) rfl ⟨rfl, ?_⟩
  exact (hb2.setCell (Nat.le_refl _) _).setCell (Nat.le_refl _) _
end Go.Proofs.YtbophanlmkbfeaaGreatDoor
