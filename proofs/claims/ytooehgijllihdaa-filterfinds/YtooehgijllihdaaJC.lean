/- A part. -/
import Derived.Test.YtooehgijllihdaaJA
import Derived.Test.YtooehgijllihdaaZAl
import Derived.Test.YtooehgijllihdaaRows
import Derived.WalkKit
import Derived.WalkSpells
import Derived.WalkLawsBesides
import Derived.Handy
import Derived.Deep.RegionHeld3
import Derived.LoopN
import Derived.Deep.MidRow
namespace Go.Proofs.Ytooehgijllihdaa
open Go.RowKit
theorem ret_bool {a b : Bool} (h : a = b) : Ending.returned (.bool a) = .returned (.bool b) := by rw [h]
theorem ret_int {k : IntKind} {a b : Int} (h : a = b) : Ending.returned (.int k a) = .returned (.int k b) := by rw [h]
set_option maxHeartbeats 400000 in
theorem isNumber_any (a : Int) (w : World) :
  Calls Try.prog 77 #[.int .i64 a] w fun e w' => e = .returned (.bool (numB a)) ∧ w' = w := by
 go_enter Try.func77, Try.ntmps77
 go_wp2
 all_goals
  go_ret
  exact ⟨ret_bool (by unfold numB; simp; try omega), rfl⟩
theorem ret_agg2 {k l : IntKind} {a b c d : Int} (h : a = c) (h' : b = d) : Ending.returned (.agg #[.int k a, .int l b]) = .returned (.agg #[.int k c, .int l d]) := by rw [h, h']
set_option maxHeartbeats 400000 in
theorem product_any (a b : Int) (w : World) (h0 : 0 ≤ a) (h1 : a ≤ 18446744073709551615) (k0 : 0 ≤ b) (k1 : b ≤ 18446744073709551615) :
  Calls Try.prog 60 #[.int .u64 a, .int .u64 b] w fun e w' => e = .returned (.agg #[.int .u64 (hi64 (a * b)), .int .u64 (lo64 (a * b))]) ∧ Below w.heap.size w w' := by
 have HP : Hid _ := prod_words a b h0 h1 k0 k1
 go_enter Try.func60, Try.ntmps60
 go_wp2
 go_returns
 exact ⟨ret_agg2 HP.out.1 HP.out.2, by go_grown⟩
set_option maxHeartbeats 400000 in
theorem plus_gen (a b c d : Int) (w : World) (h1 : 0 ≤ a ∧ a ≤ 18446744073709551615) (h2 : 0 ≤ b ∧ b ≤ 18446744073709551615) (h3 : 0 ≤ c ∧ c ≤ 18446744073709551615) (h4 : 0 ≤ d ∧ d ≤ 18446744073709551615)
  (hs : a * 18446744073709551616 + b + (c * 18446744073709551616 + d) ≤ 340282366920938463463374607431768211455) :
  Calls Try.prog 55 #[.agg #[.int .u64 a, .int .u64 b], .agg #[.int .u64 c, .int .u64 d]] w fun e w' => e = .returned (.agg #[.int .u64 (hi64 (a * 18446744073709551616 + b + (c * 18446744073709551616 + d))), .int .u64 (lo64 (a * 18446744073709551616 + b + (c * 18446744073709551616 + d)))]) ∧ Below w.heap.size w w' := by
 have HS : Hid _ := hs
 clear hs
 go_enter Try.func55, Try.ntmps55
 go_wp2
 all_goals
  rename_i hq
  go_returns
  refine ⟨ret_agg2 ?_ ?_, by go_grown⟩ <;> (have hs := HS.out; rw [IntKind.wrap_u64] at hq; simp only [IntKind.wrap_u64]; first | unfold hi64 | unfold lo64); all_goals omega
theorem plus_any (n m : Int) (w : World) (h0 : 0 ≤ n) (k0 : 0 ≤ m) (hs : n + m ≤ 340282366920938463463374607431768211455) :
  Calls Try.prog 55 #[.agg #[.int .u64 (hi64 n), .int .u64 (lo64 n)], .agg #[.int .u64 (hi64 m), .int .u64 (lo64 m)]] w fun e w' => e = .returned (.agg #[.int .u64 (hi64 (n + m)), .int .u64 (lo64 (n + m))]) ∧ Below w.heap.size w w' := by
 have e1 := hilo n
 have e2 := hilo m
 have := plus_gen (hi64 n) (lo64 n) (hi64 m) (lo64 m) w (hi64_bd n h0 (by omega)) (lo64_bd n) (hi64_bd m k0 (by omega)) (lo64_bd m) (by omega)
 rw [e1, e2] at this
 exact this
theorem plus_lit (n m : Int) (w : World) (h0 : 0 ≤ n) (k0 : 0 ≤ m) (k1 : m ≤ 18446744073709551615) (hs : n + m ≤ 340282366920938463463374607431768211455) :
  Calls Try.prog 55 #[.agg #[.int .u64 (hi64 n), .int .u64 (lo64 n)], .agg #[.int .u64 0, .int .u64 m]] w fun e w' => e = .returned (.agg #[.int .u64 (hi64 (n + m)), .int .u64 (lo64 (n + m))]) ∧ Below w.heap.size w w' := by
 have e1 := hilo n
 have := plus_gen (hi64 n) (lo64 n) 0 m w (hi64_bd n h0 (by omega)) (lo64_bd n) (by omega) (by omega) (by omega)
 rw [e1, show (0 : Int) * 18446744073709551616 + m = m by omega] at this
 exact this
theorem bcell {W w1 : World} (hb : Below W.heap.size W w1) : (∀ b o, b < W.heap.size → w1.cell? ⟨b, o, none⟩ = W.cell? ⟨b, o, none⟩) ∧ (∀ b o, b < W.heap.size → w1.frozen? ⟨b, o, none⟩ = W.frozen? ⟨b, o, none⟩) :=
 ⟨fun b o h => hb.cell (p := ⟨b, o, none⟩) h, fun b o h => hb.frozen (p := ⟨b, o, none⟩) h⟩
set_option maxHeartbeats 400000 in
theorem wabove_any (n m : Int) (w : World) :
  Calls Try.prog 78 #[.agg #[.int .u64 (hi64 n), .int .u64 (lo64 n)], .agg #[.int .u64 (hi64 m), .int .u64 (lo64 m)]] w fun e w' => e = .returned (.bool (decide (m < n))) ∧ Below w.heap.size w w' := by
 have b2 := lo64_bd n
 have b4 := lo64_bd m
 have e1 := hilo n
 have e2 := hilo m
 by_cases c1 : hi64 m < hi64 n
 ·have HF : Hid (true = decide (m < n)) := by show _ = _; simp; omega
  clear b2 b4 e1 e2
  go_enter Try.func78, Try.ntmps78
  go_wp2
  go_ret
  exact ⟨ret_bool (by simpa using HF.out), by go_grown⟩
 ·by_cases c2 : hi64 n = hi64 m
  ·have HF : Hid (decide (lo64 m < lo64 n) = decide (m < n)) := by show _ = _; simp; omega
   have c3 : (hi64 n == hi64 m) = true := by simpa using c2
   clear b2 b4 e1 e2 c2
   go_enter Try.func78, Try.ntmps78
   go_wp2
   go_ret
   exact ⟨ret_bool HF.out, by go_grown⟩
  ·have HF : Hid (false = decide (m < n)) := by show _ = _; simp; omega
   have c3 : (hi64 n == hi64 m) = false := by simpa using c2
   clear b2 b4 e1 e2 c2
   go_enter Try.func78, Try.ntmps78
   go_wp2
   go_ret
   exact ⟨ret_bool HF.out, by go_grown⟩
set_option maxHeartbeats 400000 in
theorem size_any (a : Int) (w : World) (h : numB a = true) :
  Calls Try.prog 61 #[.int .i64 a] w fun e w' => e = .returned (.int .u64 (sz a)) ∧ w' = w := by
 have hb := numB_bd h
 go_enter Try.func61, Try.ntmps61
 go_wp2
 all_goals
  go_ret
  exact ⟨ret_int (by unfold sz; split <;>  omega), rfl⟩
set_option maxHeartbeats 400000 in
theorem shifted_any (n : Int) (w : World) (h0 : 0 ≤ n) (hs : n ≤ 85070591730234615865843651857942052864) :
  Calls Try.prog 62 #[.agg #[.int .u64 (hi64 n), .int .u64 (lo64 n)], .int .u64 40] w fun e w' => e = .returned (.int .u64 (sat64 ((n + 549755813888) / 1099511627776))) ∧ Below w.heap.size w w' := by
 have HB : Hid _ := hi64_bd (n + 549755813888) (by omega) (by omega)
 have HL : Hid _ := lo64_bd (n + 549755813888)
 have HE : Hid _ := hilo (n + 549755813888)
 go_enter Try.func62, Try.ntmps62
 go_wp2_with fail
 refine (plus_lit n 549755813888 _ h0 (by omega) (by omega) (by omega)).mono ?_
 rintro e w1 ⟨rfl, hb⟩
 obtain ⟨hc, hf⟩ := bcell hb
 have hz : w.heap.size < w1.heap.size := by have := hb.size; simp at this; omega
 have HB' : Hid _ := hb
 clear hb
 generalize hi64 (n + 549755813888) = x at *
 generalize lo64 (n + 549755813888) = y at *
 have b1 := HB.out
 have b2 := HL.out
 have hw : ∀ u v, Below w.heap.size w ((w1.setCell ⟨w.heap.size, 0, none⟩ u).setCell ⟨w.heap.size, 1, none⟩ v) := fun u v => ((((Below.refl _ _).alloc (Nat.le_refl _) _).trans (HB'.out.mono (by simp))).setCell (Nat.le_refl _) _).setCell (Nat.le_refl _) _
 have HW : Hid _ := hw
 clear hw
 by_cases c : x / 1099511627776 = 0
 ·have c' : (x / 1099511627776 != 0) = false := by simp [c]
  have HQ : Hid _ := shifted_words n x y HE.out b1 b2 c
  clear c
  go_wp2
  go_ret
  exact ⟨ret_int HQ.out, HW.out _ _⟩
 ·have c' : (x / 1099511627776 != 0) = true := by simp [c]
  have HQ : Hid _ := shifted_much n x y HE.out b1 b2 c
  clear c
  go_wp2
  go_ret
  exact ⟨ret_int HQ.out, HW.out _ _⟩
end Go.Proofs.Ytooehgijllihdaa
namespace Go.Proofs.Ytooehgijllihdaa
open Go.RowKit
structure Fl (b : Nat) (bad : Bool) (w : World) : Prop where
 cell : w.cell? ⟨b, 0, none⟩ = some (.bool bad)
 free : w.frozen? ⟨b, 0, none⟩ = false
 lies : b < w.heap.size
structure Kept (b : Nat) (w w' : World) : Prop where
 os : w'.os = w.os
 tape : w'.tape = w.tape
 output : w'.output = w.output
 size : w.heap.size ≤ w'.heap.size
 block : ∀ k, k < w.heap.size → k ≠ b → w'.heap[k]? = w.heap[k]?
theorem Kept.refl (b : Nat) (w : World) : Kept b w w := ⟨rfl, rfl, rfl, Nat.le_refl _, fun _ _ _ => rfl⟩
theorem Kept.trans {b : Nat} {x y z : World} (h : Kept b x y) (k : Kept b y z) : Kept b x z :=
 ⟨k.os.trans h.os, k.tape.trans h.tape, k.output.trans h.output, Nat.le_trans h.size k.size, fun i hi hb => (k.block i (Nat.lt_of_lt_of_le hi h.size) hb).trans (h.block i hi hb)⟩
theorem Kept.of_below {b : Nat} {w w' : World} (h : Below w.heap.size w w') : Kept b w w' := ⟨h.os, h.tape, h.output, h.size, fun k hk _ => h.block k hk⟩
theorem Kept.setCell {b : Nat} {x w : World} (h : Kept b x w) (u : Value) : Kept b x (w.setCell ⟨b, 0, none⟩ u) :=
 h.trans ⟨rfl, rfl, rfl, by simp [World.setCell], fun k _ hb => Below.heap_setCell _ _ _ _ hb⟩
theorem Kept.below {b B : Nat} {x w w' : World} (h : Kept b w w') (hx : Below B x w) (hb : B ≤ b) (hB : B ≤ w.heap.size) : Below B x w' :=
 hx.trans ⟨h.os, h.tape, h.output, h.size, fun k hk => h.block k (by omega) (by omega)⟩
theorem Kept.cell {b : Nat} {w w' : World} (h : Kept b w w') {p : Addr} (hp : p.block < w.heap.size) (hb : p.block ≠ b) : w'.cell? p = w.cell? p := World.cell?_of_block (w := w) (h.block p.block hp hb)
theorem Kept.frozen {b : Nat} {w w' : World} (h : Kept b w w') {p : Addr} (hp : p.block < w.heap.size) (hb : p.block ≠ b) : w'.frozen? p = w.frozen? p := World.frozen?_of_block (w := w) (h.block p.block hp hb)
theorem Fl.below {b : Nat} {bad : Bool} {w w' : World} (h : Fl b bad w) (hb : Below w.heap.size w w') : Fl b bad w' :=
 ⟨(hb.cell (p := ⟨b, 0, none⟩) h.lies).trans h.cell, (hb.frozen (p := ⟨b, 0, none⟩) h.lies).trans h.free, Nat.lt_of_lt_of_le h.lies hb.size⟩
theorem Fl.kept {b c : Nat} {bad : Bool} {w w' : World} (h : Fl b bad w) (hb : Kept c w w') (hc : b ≠ c) : Fl b bad w' :=
 ⟨(hb.cell (p := ⟨b, 0, none⟩) h.lies hc).trans h.cell, (hb.frozen (p := ⟨b, 0, none⟩) h.lies hc).trans h.free, Nat.lt_of_lt_of_le h.lies hb.size⟩
theorem Fl.set {b : Nat} {bad : Bool} {w : World} (h : Fl b bad w) (v : Bool) : Fl b v (w.setCell ⟨b, 0, none⟩ (.bool v)) := by
 refine ⟨World.cell?_setCell_same _ _ _ h.cell, ?_, ?_⟩
 ·rw [World.frozen?_setCell]; exact h.free
 ·rw [World.size_setCell]; exact h.lies
set_option maxHeartbeats 400000 in
theorem Fail_any (b : Nat) (bad : Bool) (w : World) (hw : Fl b bad w) :
  Calls Try.prog 18 #[.pointer (some ⟨b, 0, none⟩)] w fun e w' => e = .returned (.tuple #[]) ∧ Fl b true w' ∧ Kept b w w' := by
 have HW : Hid _ := hw
 obtain ⟨hc, hf, hl⟩ := hw
 go_enter Try.func18, Try.ntmps18
 go_wp2
 go_end0
 exact ⟨rfl, HW.out.set true, (Kept.refl _ _).setCell _⟩
set_option maxHeartbeats 400000 in
theorem signed_any (b : Nat) (n : Int) (minus : Bool) (w : World) (hw : Fl b false w) (h0 : 0 ≤ n) (h1 : n ≤ 18446744073709551615) :
  Calls Try.prog 56 #[.pointer (some ⟨b, 0, none⟩), .int .u64 n, .bool minus] w fun e w' => e = .returned (.int .i64 (out n minus).1) ∧ Fl b (out n minus).2 w' ∧ Kept b w w' := by
 show Calls Try.prog 56 _ _ fun e w' => e = .returned (.int .i64 (sgnd n minus)) ∧ Fl b (decide (4611686018427387904 < n)) w' ∧ Kept b w w'
 by_cases c : n ≤ 4611686018427387904
 ·have HS : Hid _ := sgnd_in n minus c
  have HC : Hid (decide (4611686018427387904 < n) = false) := by show _ = _; simp; omega
  cases minus
  all_goals
   go_enter Try.func56, Try.ntmps56
   go_wp2
   go_ret
   rw [HC.out]
   exact ⟨ret_int HS.out, hw, Kept.refl _ _⟩
 ·have HS : Hid _ := sgnd_out n minus c
  have HC : Hid (decide (4611686018427387904 < n) = true) := by show _ = _; simp; omega
  go_enter Try.func56, Try.ntmps56
  go_wp2_with fail
  refine (Fail_any b false _ hw).mono ?_
  rintro e w1 ⟨rfl, h2, h3⟩
  go_wp2
  go_ret
  rw [HC.out]
  exact ⟨ret_int HS.out, h2, h3⟩
set_option maxHeartbeats 400000 in
theorem gives_any (b : Nat) (n : Int) (w : World) (hw : Fl b false w) :
  Calls Try.prog 59 #[.pointer (some ⟨b, 0, none⟩), .int .i64 n] w fun e w' => e = .returned (.int .i64 (gv n).1) ∧ Fl b (gv n).2 w' ∧ Kept b w w' := by
 show Calls Try.prog 59 _ _ fun e w' => e = .returned (.int .i64 (if numB n then n else 0)) ∧ Fl b (!numB n) w' ∧ Kept b w w'
 cases c : numB n
 ·go_enter Try.func59, Try.ntmps59
  go_wp2_with fail
  refine (isNumber_any _ _).mono ?_
  rintro e w1 ⟨rfl, rfl⟩
  rw [c]
  clear c
  go_wp2_with fail
  refine (Fail_any b false _ hw).mono ?_
  rintro e w1 ⟨rfl, h2, h3⟩
  go_wp2
  go_ret
  exact ⟨rfl, h2, h3⟩
 ·go_enter Try.func59, Try.ntmps59
  go_wp2_with fail
  refine (isNumber_any _ _).mono ?_
  rintro e w1 ⟨rfl, rfl⟩
  rw [c]
  clear c
  go_wp2
  go_ret
  exact ⟨rfl, hw, Kept.refl _ _⟩
def Ints (s : Nat) (zs : List Int) (w : World) : Prop := ∀ i, (h : i < zs.length) → w.cell? ⟨s, i, none⟩ = some (.int .i64 zs[i])
theorem all_take_succ {zs : List Int} {k : Nat} (h : k < zs.length) : (zs.take (k + 1)).all numB = ((zs.take k).all numB && numB zs[k]) := by
 rw [List.take_succ_eq_append_getElem h, List.all_append]; simp only [List.all_cons, List.all_nil, Bool.and_true]
theorem all_of_not {zs : List Int} {k : Nat} (h : k < zs.length) (c : numB zs[k] = false) : zs.all numB = false := by
 rw [Bool.eq_false_iff]
 intro ha
 rw [List.all_eq_true] at ha
 have := ha _ (List.getElem_mem h)
 rw [c] at this
 cases this
set_option maxHeartbeats 400000 in
theorem takes_any (b s : Nat) (bad : Bool) (zs : List Int) (w : World) (hw : Fl b bad w) (hz : Ints s zs w) (hlen : zs.length ≤ 3) :
  Calls Try.prog 53 #[.pointer (some ⟨b, 0, none⟩), .slice (some ⟨s, 0, none⟩) zs.length zs.length] w fun e w' => e = .returned (.bool (tk bad zs)) ∧ Fl b (!tk bad zs) w' ∧ Kept b w w' := by
 rw [← tk_not bad zs]
 unfold tk
 have HW : Hid _ := hw
 have HZ : Hid _ := hz
 obtain ⟨hc, hf, hl⟩ := hw
 clear hz
 cases bad
 ·go_enter Try.func53, Try.ntmps53
  go_wp2
  go_loop [17] (fun v => ∃ k : Nat, k ≤ zs.length ∧ v = .int .i64 k ∧ Hid ((zs.take k).all numB = true)) (fun v => zs.length - (intOf v).toNat)
  case atStart => exact ⟨0, Nat.zero_le _, rfl, by show _ = _; simp⟩
  case round =>
   obtain ⟨k, hk, rfl, HA⟩ := hrel
   by_cases hlt : k < zs.length
   ·have hcell := HZ.out k hlt
    have HS : Hid _ := all_take_succ hlt
    have HN : numB zs[k] = false → zs.all numB = false := all_of_not hlt
    have HN' : Hid _ := HN
    clear HN
    generalize zs[k] = z at *
    cases c : numB z
    ·have HC : Hid _ := HN'.out c
     have HC2 : Hid _ := c
     clear c
     go_wp2_with fail
     refine (isNumber_any _ _).mono ?_
     rintro e w1 ⟨rfl, rfl⟩
     rw [HC2.out]
     go_wp2_with fail
     refine (Fail_any b false _ HW.out).mono ?_
     rintro e w1 ⟨rfl, h2, h3⟩
     go_wp2
     go_ret
     rw [HC.out]
     exact ⟨rfl, h2, h3⟩
    ·have HC2 : Hid _ := c
     clear c
     go_wp2_with fail
     refine (isNumber_any _ _).mono ?_
     rintro e w1 ⟨rfl, rfl⟩
     rw [HC2.out]
     go_wp2
     go_round
     case rel => exact ⟨k + 1, by omega, by go_num, by show _ = _; rw [HS.out, HA.out, HC2.out]; rfl⟩
     case measure => simp [intOf]; omega
   ·go_wp2
    go_ret
    have ha : zs.all numB = true := by have := HA.out; rwa [List.take_of_length_le (by omega)] at this
    rw [ha]
    exact ⟨rfl, HW.out, Kept.refl _ _⟩
 ·go_enter Try.func53, Try.ntmps53
  go_wp2
  go_ret
  exact ⟨rfl, HW.out, Kept.refl _ _⟩
theorem Ints_two (x y : Int) (w : World) : Ints w.heap.size [x, y] (w.alloc (.cells #[.int .i64 x, .int .i64 y] 2)) := by
 intro i h
 rw [World.cell?_alloc_new]
 match i, h with
 | 0, _ => rfl
 | 1, _ => rfl
theorem Ints_one (x : Int) (w : World) : Ints w.heap.size [x] (w.alloc (.cells #[.int .i64 x] 2)) := by
 intro i h
 rw [World.cell?_alloc_new]
 match i, h with
 | 0, _ => rfl
theorem Ints_three (x y z : Int) (w : World) : Ints w.heap.size [x, y, z] (w.alloc (.cells #[.int .i64 x, .int .i64 y, .int .i64 z] 2)) := by
 intro i h
 rw [World.cell?_alloc_new]
 match i, h with
 | 0, _ => rfl
 | 1, _ => rfl
 | 2, _ => rfl
theorem Kept.alloc (b : Nat) (w : World) (o : Obj) : Kept b w (w.alloc o) := Kept.of_below ((Below.refl _ _).alloc (Nat.le_refl _) o)
theorem Fl.alloc {b : Nat} {bad : Bool} {w : World} (h : Fl b bad w) (o : Obj) : Fl b bad (w.alloc o) := h.below ((Below.refl _ _).alloc (Nat.le_refl _) o)
theorem takes1 (b : Nat) (bad : Bool) (x : Int) (w : World) (hw : Fl b bad w) :
  Calls Try.prog 53 #[.pointer (some ⟨b, 0, none⟩), .slice (some ⟨w.heap.size, 0, none⟩) 1 1] (w.alloc (.cells #[.int .i64 x] 2)) fun e w' => e = .returned (.bool (tk bad [x])) ∧ Fl b (!tk bad [x]) w' ∧ Kept b w w' :=
 (takes_any b w.heap.size bad [x] _ (hw.alloc _) (Ints_one x w) (by simp)).mono fun _ _ h => ⟨h.1, h.2.1, (Kept.alloc b w _).trans h.2.2⟩
theorem takes2 (b : Nat) (bad : Bool) (x y : Int) (w : World) (hw : Fl b bad w) :
  Calls Try.prog 53 #[.pointer (some ⟨b, 0, none⟩), .slice (some ⟨w.heap.size, 0, none⟩) 2 2] (w.alloc (.cells #[.int .i64 x, .int .i64 y] 2)) fun e w' => e = .returned (.bool (tk bad [x, y])) ∧ Fl b (!tk bad [x, y]) w' ∧ Kept b w w' :=
 (takes_any b w.heap.size bad [x, y] _ (hw.alloc _) (Ints_two x y w) (by simp)).mono fun _ _ h => ⟨h.1, h.2.1, (Kept.alloc b w _).trans h.2.2⟩
theorem takes3 (b : Nat) (bad : Bool) (x y z : Int) (w : World) (hw : Fl b bad w) :
  Calls Try.prog 53 #[.pointer (some ⟨b, 0, none⟩), .slice (some ⟨w.heap.size, 0, none⟩) 3 3] (w.alloc (.cells #[.int .i64 x, .int .i64 y, .int .i64 z] 2)) fun e w' => e = .returned (.bool (tk bad [x, y, z])) ∧ Fl b (!tk bad [x, y, z]) w' ∧ Kept b w w' :=
 (takes_any b w.heap.size bad [x, y, z] _ (hw.alloc _) (Ints_three x y z w) (by simp)).mono fun _ _ h => ⟨h.1, h.2.1, (Kept.alloc b w _).trans h.2.2⟩
end Go.Proofs.Ytooehgijllihdaa
namespace Go.Proofs.Ytooehgijllihdaa
open Go.RowKit
theorem take_at {P : Program} {md : Region.Mode} {l : List Oper} {Q : Exit → Act → World → Prop} {S : World → Prop} {i : Nat} {oi : Oper} {v : Value} {fuel : Nat} {listed : Array Bool} {a : Act} {w : World} (hi : l[i]? = some oi)
  (hs : Region.noSelect l.toArray = true) (hf : Region.free md l.toArray listed i = true) (hr : (Region.ready md l.toArray listed).contains i = true)
  (hQ : ∀ c a w, Q (.panic c) (a.put oi.dst v) w → Q (.panic c) a w) (hy : YieldsIf P l.toArray S oi v a) (hS : S w)
  (h : wpAnyH P md l.toArray Q S fuel (listed.setIfInBounds i true) (a.put oi.dst v) w) : wpAnyH P md l.toArray Q S (fuel + 1) listed a w :=
 wpAnyH_take (ops := l.toArray) (by simpa using hi) hs hf hr hQ hy hS h
theorem zT {P : Program} {md : Region.Mode} {l : List Oper} {Q : Exit → Act → World → Prop} {S : World → Prop} (i : Nat) {oi : Oper} {v : Value} {fuel : Nat} {listed : Array Bool} {a : Act} {w : World} (hi : l[i]? = some oi)
  (hb : (Region.noSelect l.toArray && (Region.free md l.toArray listed i && (Region.ready md l.toArray listed).contains i)) = true)
  (hQ : ∀ c a w, Q (.panic c) (a.put oi.dst v) w → Q (.panic c) a w) (hw : Region.wanted oi (yielded l.toArray a.tmps) = true) (hy : ∀ w, S w → (execOp a.eval oi).run P w = .ok (.value v) w) (hS : S w)
  (h : wpAnyH P md l.toArray Q S fuel (listed.setIfInBounds i true) (a.put oi.dst v) w) : wpAnyH P md l.toArray Q S (fuel + 1) listed a w := by
 rw [Bool.and_eq_true, Bool.and_eq_true] at hb
 exact take_at hi hb.1 hb.2.1 hb.2.2 hQ (Or.inl ⟨hw, hy⟩) hS h
theorem call_at {P : Program} {md : Region.Mode} {l : List Oper} {Q : Exit → Act → World → Prop} {S : World → Prop} {i : Nat} {o : Oper} {fuel : Nat} {listed : Array Bool} {a : Act} {w : World} (hr : Region.ready md l.toArray listed = [i]) (hi : l[i]? = some o)
  (h : ∀ K' : Act → World → Prop, Shut (∀ a w, S w → (S w → wpAnyH P md l.toArray Q S fuel (listed.setIfInBounds i true) a w) → K' a w) → if Region.wanted o (yielded l.toArray a.tmps) = true then Oper.wp P o a w K' Q else K' (a.put o.dst undef) w) :
  wpAnyH P md l.toArray Q S (fuel + 1) listed a w :=
 wpAnyH_ready hr (by simp) (AllReadyH.cons (by simpa using hi) h AllReadyH.nil)
theorem zK {P : Program} {md : Region.Mode} {l : List Oper} {Q : Exit → Act → World → Prop} {S : World → Prop} (i : Nat) {o : Oper} {fuel : Nat} {listed : Array Bool} {a : Act} {w : World} (hr : Region.ready md l.toArray listed = [i]) (hi : l[i]? = some o)
  (h : ∀ K' : Act → World → Prop, Shut (∀ a w, S w → (S w → wpAnyH P md l.toArray Q S fuel (listed.setIfInBounds i true) a w) → K' a w) → if Region.wanted o (yielded l.toArray a.tmps) = true then Oper.wp P o a w K' Q else K' (a.put o.dst undef) w) :
  wpAnyH P md l.toArray Q S (fuel + 1) listed a w := call_at hr hi h
theorem call_at2 {P : Program} {md : Region.Mode} {l : List Oper} {Q : Exit → Act → World → Prop} {S : World → Prop} {i0 i1 : Nat} {o0 o1 : Oper} {fuel : Nat} {listed : Array Bool} {a : Act} {w : World} (hr : Region.ready md l.toArray listed = [i0, i1]) (hi0 : l[i0]? = some o0) (hi1 : l[i1]? = some o1)
  (h0 : ∀ K' : Act → World → Prop, Shut (∀ a w, S w → (S w → wpAnyH P md l.toArray Q S fuel (listed.setIfInBounds i0 true) a w) → K' a w) → if Region.wanted o0 (yielded l.toArray a.tmps) = true then Oper.wp P o0 a w K' Q else K' (a.put o0.dst undef) w)
  (h1 : ∀ K' : Act → World → Prop, Shut (∀ a w, S w → (S w → wpAnyH P md l.toArray Q S fuel (listed.setIfInBounds i1 true) a w) → K' a w) → if Region.wanted o1 (yielded l.toArray a.tmps) = true then Oper.wp P o1 a w K' Q else K' (a.put o1.dst undef) w) :
  wpAnyH P md l.toArray Q S (fuel + 1) listed a w :=
 wpAnyH_ready hr (by simp) (AllReadyH.cons (by simpa using hi0) h0 (AllReadyH.cons (by simpa using hi1) h1 AllReadyH.nil))
theorem Fl_new (w : World) (bad : Bool) (t : TypeId) : Fl w.heap.size bad (w.alloc (.cells #[.bool bad] t)) :=
 ⟨by simp, by simp, by simp⟩
theorem Fl_at (w : World) (n : Nat) (bad : Bool) (t : TypeId) (hn : n = w.heap.size) : Fl n bad (w.alloc (.cells #[.bool bad] t)) := by
 subst hn; exact Fl_new w bad t
theorem Kept.on {b : Nat} {x w w' : World} (h : Kept b w w') (hx : Below x.heap.size x w) (hb : x.heap.size ≤ b) : Below x.heap.size x w' := h.below hx hb hx.size
theorem Fl.drew {b : Nat} {bad : Bool} {w : World} (h : Fl b bad w) : Fl b bad w.drew := ⟨h.cell, h.free, h.lies⟩
theorem Kept.drew {b : Nat} {x w : World} (h : Kept b x w) : Kept b x w.drew := ⟨h.os, h.tape, h.output, h.size, h.block⟩
theorem Kept.al {b : Nat} {x w : World} (h : Kept b x w) (o : Obj) : Kept b x (w.alloc o) := h.trans (Kept.alloc b w o)
theorem Kept.new {b : Nat} {x w : World} (h : Kept b x w) (q o : Nat) (hp : x.heap.size ≤ q) (u : Value) : Kept b x (w.setCell ⟨q, o, none⟩ u) :=
 ⟨h.os, h.tape, h.output, by rw [World.size_setCell]; exact h.size, fun k hk hb => (Below.heap_setCell _ _ _ _ (by show k ≠ q; omega)).trans (h.block k hk hb)⟩
theorem Fl.new {b : Nat} {bad : Bool} {w : World} (h : Fl b bad w) (q o : Nat) (hp : b ≠ q) (u : Value) : Fl b bad (w.setCell ⟨q, o, none⟩ u) :=
 ⟨(World.cell?_of_block (w := w) (Below.heap_setCell _ _ _ _ hp)).trans h.cell, by rw [World.frozen?_setCell]; exact h.free, by rw [World.size_setCell]; exact h.lies⟩
theorem bel_new {x w : World} (h : Below x.heap.size x w) (q o : Nat) (hp : x.heap.size ≤ q) (u : Value) : Below x.heap.size x (w.setCell ⟨q, o, none⟩ u) :=
 ⟨h.os, h.tape, h.output, by rw [World.size_setCell]; exact h.size, fun k hk => (Below.heap_setCell _ _ _ _ (by show k ≠ q; omega)).trans (h.block k hk)⟩
theorem bel_al {x w : World} (h : Below x.heap.size x w) (o : Obj) : Below x.heap.size x (w.alloc o) := h.trans ((Below.refl _ _).alloc h.size o)
theorem bel_then {x w w' : World} (h : Below x.heap.size x w) (k : Below w.heap.size w w') : Below x.heap.size x w' := h.trans (k.mono h.size)
structure Arr (k : Nat) (l : List Value) (w : World) : Prop where
 c : ∀ i, (h : i < l.length) → w.cell? ⟨k, i, none⟩ = some l[i]
 f : ∀ i, i < l.length → w.frozen? ⟨k, i, none⟩ = false
 lies : k < w.heap.size
theorem Arr_at (w : World) (n : Nat) (l : List Value) (t : TypeId) (hn : n = w.heap.size) : Arr n l (w.alloc (.cells l.toArray t)) := by
 subst hn
 refine ⟨fun i h => ?_, fun i h => by simp, by simp⟩
 rw [World.cell?_alloc_new]
 simp [h]
theorem Arr.same {k : Nat} {l : List Value} {w w' : World} (h : Arr k l w) (e : w'.heap[k]? = w.heap[k]?) (hs : w.heap.size ≤ w'.heap.size) : Arr k l w' :=
 ⟨fun i hi => (World.cell?_of_block (w := w) (a := ⟨k, i, none⟩) e).trans (h.c i hi), fun i hi => (World.frozen?_of_block (w := w) (a := ⟨k, i, none⟩) e).trans (h.f i hi), Nat.lt_of_lt_of_le h.lies hs⟩
theorem Arr.kept {k b : Nat} {l : List Value} {w w' : World} (h : Arr k l w) (hb : Kept b w w') (hk : k ≠ b) : Arr k l w' := h.same (hb.block k h.lies hk) hb.size
theorem Arr.below {k : Nat} {l : List Value} {w w' : World} (h : Arr k l w) (hb : Below w.heap.size w w') : Arr k l w' := h.same (hb.block k h.lies) hb.size
theorem Arr.alloc {k : Nat} {l : List Value} {w : World} (h : Arr k l w) (o : Obj) : Arr k l (w.alloc o) := h.below ((Below.refl _ _).alloc (Nat.le_refl _) o)
theorem Arr.drew {k : Nat} {l : List Value} {w : World} (h : Arr k l w) : Arr k l w.drew := ⟨h.c, h.f, h.lies⟩
theorem Arr.new {k : Nat} {l : List Value} {w : World} (h : Arr k l w) (q o : Nat) (hp : k ≠ q) (u : Value) : Arr k l (w.setCell ⟨q, o, none⟩ u) :=
 h.same (Below.heap_setCell _ _ _ _ hp) (by rw [World.size_setCell]; exact Nat.le_refl _)
theorem Arr.put {k : Nat} {l : List Value} {w : World} (h : Arr k l w) (i : Nat) (hi : i < l.length) (u : Value) (l' : List Value) (hl : l' = l.set i u) : Arr k l' (w.setCell ⟨k, i, none⟩ u) := by
 subst hl
 refine ⟨fun j hj => ?_, fun j hj => ?_, by rw [World.size_setCell]; exact h.lies⟩
 ·by_cases e : i = j
  ·subst e
   rw [World.cell?_setCell_same _ _ _ (h.c i hi)]
   simp
  ·rw [World.cell?_setCell_other _ _ _ _ (by intro h; injection h; omega)]
   rw [List.getElem_set_ne e]
   exact h.c j (by simpa using hj)
 ·rw [World.frozen?_setCell]; exact h.f j (by simpa using hj)
end Go.Proofs.Ytooehgijllihdaa
namespace Go.Proofs.Ytooehgijllihdaa
open Go.RowKit
structure Stop (p : Prop) : Prop where
 out : p
theorem post_stop {P : Program} {fn : Func} {R : Ending → World → Prop} {e : Exit} {a : Act} {w : World} (h : Stop (bodyPost P fn R e a w)) : bodyPost P fn R e a w := h.out
theorem Arr.range {k : Nat} {l : List Value} {w : World} (A : Arr k l w) : w.rangeAt k 0 l := fun j v hv => by
 obtain ⟨hj, rfl⟩ := List.getElem?_eq_some_iff.1 hv
 rw [Nat.zero_add]
 exact A.c j hj
theorem results_arr {fn : Func} {p : Tmp} {ty : TypeId} (h : fn.results = #[.cell p ty]) {tmps : Array Value} {w : World} {k : Nat} {l : List Value} (A : Arr k l w)
  (hp : tmps.getD p undef = .pointer (some ⟨k, 0, none⟩)) (hd : (Try.prog.underlying ty).any TypeDesc.isRow = true) (hi : (Try.prog.info? ty).map (·.size) = some l.length) :
  (results fn tmps).run Try.prog w = .ok (.agg l.toArray) w := by
 cases hu : Try.prog.underlying ty with
 | none => rw [hu] at hd; cases hd
 | some d =>
  rw [hu] at hd
  have hp' : tmps[p]?.getD undef = .pointer (some ⟨k, 0, none⟩) := by simpa using hp
  simp [results, h, hp', asAddr, run_loadVar_mid w k 0 ty l d A.range hu hd hi]
end Go.Proofs.Ytooehgijllihdaa
namespace Go.Proofs.Ytooehgijllihdaa
open Go.RowKit
theorem rounds_up {P : Program} {c : Code} {Q : Exit → Act → World → Prop} {a : Act} {w : World} (J : Nat → Act → World → Prop) (N : Nat) (h0 : J 0 a w)
  (step : ∀ k a w, k < N → J k a w → ∀ R : Act → World → Prop, (∀ a' w', J (k + 1) a' w' → R a' w') → c.wp P (Exit.then R Q) a w)
  (last : ∀ a w, J N a w → ∀ R : Act → World → Prop, c.wp P (Exit.then R Q) a w) : (Code.loop c).wp P Q a w := by
 have key : ∀ d k a w, k + d = N → J k a w → Code.rounds P c Q (d + 1) a w := by
  intro d
  induction d with
  | zero => intro k a w hk hJ; rw [rounds_succ]; exact last a w (by rw [← hk]; exact hJ) _
  | succ d ih => intro k a w hk hJ; rw [rounds_succ]; exact step k a w (by omega) hJ _ fun a' w' h => ih (k + 1) a' w' (by omega) h
 exact wp_loop_rounds (N + 1) (key N 0 a w (by omega) h0)
def row (N : Nat) (g : Nat → Int) : List Value := (List.range N).map fun i => .int .i64 (g i)
theorem row_len (N : Nat) (g : Nat → Int) : (row N g).length = N := by unfold row; simp
theorem row_get {N i : Nat} {g : Nat → Int} (h : i < (row N g).length) : (row N g)[i] = .int .i64 (g i) := by
 have h' : i < N := by rw [row_len] at h; exact h
 show ((List.range N).map fun i => Value.int .i64 (g i))[i]'(by simpa using h') = _
 simp
theorem row_c {k N : Nat} {g : Nat → Int} {w : World} (A : Arr k (row N g) w) (i : Nat) (h : i < N) : w.cell? ⟨k, i, none⟩ = some (.int .i64 (g i)) := by
 have := A.c i (by rw [row_len]; exact h)
 rw [row_get] at this
 exact this
theorem row_f {k N : Nat} {g : Nat → Int} {w : World} (A : Arr k (row N g) w) (i : Nat) (h : i < N) : w.frozen? ⟨k, i, none⟩ = false := A.f i (by rw [row_len]; exact h)
def updF (g : Nat → Int) (i : Nat) (v : Int) : Nat → Int := fun j => if j = i then v else g j
theorem row_set {N i : Nat} {g : Nat → Int} {v : Int} : (row N g).set i (.int .i64 v) = row N (updF g i v) := by
 apply List.ext_getElem
 ·simp [row_len]
 ·intro j h1 h2
  rw [List.getElem_set, show (row N (updF g i v))[j] = .int .i64 (updF g i v j) from row_get h2]
  by_cases c : i = j
  ·rw [if_pos c, show updF g i v j = v from if_pos c.symm]
  ·rw [if_neg c, show updF g i v j = g j from if_neg (fun h => c h.symm), row_get]
theorem row_put {k N : Nat} {g : Nat → Int} {w : World} (A : Arr k (row N g) w) (i : Nat) (h : i < N) (v : Int) : Arr k (row N (updF g i v)) (w.setCell ⟨k, i, none⟩ (.int .i64 v)) :=
 A.put i (by rw [row_len]; exact h) (.int .i64 v) _ row_set.symm
theorem row_load {ops : Array Oper} {rest : List Oper} {op : Oper} {a : Act} {w : World} {Q : Exit → Act → World → Prop} {ty : TypeId} {x : Operand} {k : Nat} {l : List Value} (hgd : op.guard = none) (ho : op.op = .load ty x)
  (hx : a.eval x = .pointer (some ⟨k, 0, none⟩)) (A : Arr k l w) (hd : (Try.prog.underlying ty).any TypeDesc.isRow = true) (hi : (Try.prog.info? ty).map (·.size) = some l.length)
  (h : wpList Try.prog ops Q rest (a.put op.dst (.agg l.toArray)) w) : wpList Try.prog ops Q (op :: rest) a w := by
 cases hu : Try.prog.underlying ty with
 | none => rw [hu] at hd; cases hd
 | some d => rw [hu] at hd; exact wpList_load_mid hgd ty x ho k 0 hx l d A.range hu hd hi h
theorem store_stop {ops : Array Oper} {rest : List Oper} {op : Oper} {a : Act} {w : World} {Q : Exit → Act → World → Prop} {ty : TypeId} {x y : Operand} (_ : op.op = .store ty x y) (_ : (Try.prog.underlying ty).any TypeDesc.isRow = true)
  (h : Stop (wpList Try.prog ops Q (op :: rest) a w)) : wpList Try.prog ops Q (op :: rest) a w := h.out
structure Off (k : Nat) (w w' : World) : Prop where
 os : w'.os = w.os
 tape : w'.tape = w.tape
 output : w'.output = w.output
 size : w'.heap.size = w.heap.size
 block : ∀ j, j ≠ k → w'.heap[j]? = w.heap[j]?
theorem off_set (k o : Nat) (v : Value) (w : World) : Off k w (w.setCell ⟨k, o, none⟩ v) :=
 ⟨rfl, rfl, rfl, World.size_setCell _ _ _, fun _ hj => Below.heap_setCell _ _ _ _ hj⟩
theorem Off.trans {k : Nat} {w w' w'' : World} (h : Off k w w') (h' : Off k w' w'') : Off k w w'' :=
 ⟨h'.os.trans h.os, h'.tape.trans h.tape, h'.output.trans h.output, h'.size.trans h.size, fun j hj => (h'.block j hj).trans (h.block j hj)⟩
theorem off_cells (k : Nat) : ∀ (vs : List Value) (o : Nat) (w : World), Off k w (w.setCells k o vs)
 | [], _, _ => ⟨rfl, rfl, rfl, rfl, fun _ _ => rfl⟩
 | v :: r, o, w => (off_set k o v w).trans (off_cells k r (o + 1) _)
theorem Arr.off {k k' : Nat} {l : List Value} {w w' : World} (A : Arr k' l w) (h : Off k w w') (hk : k' ≠ k) : Arr k' l w' := A.same (h.block k' hk) (Nat.le_of_eq h.size.symm)
theorem Fl.off {k b : Nat} {bad : Bool} {w w' : World} (A : Fl b bad w) (h : Off k w w') (hk : b ≠ k) : Fl b bad w' :=
 ⟨(World.cell?_of_block (w := w) (a := ⟨b, 0, none⟩) (h.block b hk)).trans A.cell, (World.frozen?_of_block (w := w) (a := ⟨b, 0, none⟩) (h.block b hk)).trans A.free, by rw [h.size]; exact A.lies⟩
theorem Kept.off {b k : Nat} {x w w' : World} (K : Kept b x w) (h : Off k w w') (hk : x.heap.size ≤ k) : Kept b x w' :=
 ⟨h.os.trans K.os, h.tape.trans K.tape, h.output.trans K.output, by rw [h.size]; exact K.size, fun j hj hb => (h.block j (by omega)).trans (K.block j hj hb)⟩
theorem bel_off {k : Nat} {x w w' : World} (K : Below x.heap.size x w) (h : Off k w w') (hk : x.heap.size ≤ k) : Below x.heap.size x w' :=
 ⟨h.os.trans K.os, h.tape.trans K.tape, h.output.trans K.output, by rw [h.size]; exact K.size, fun j hj => (h.block j (by omega)).trans (K.block j hj)⟩
theorem store_row {ops : Array Oper} {rest : List Oper} {op : Oper} {a : Act} {w : World} {Q : Exit → Act → World → Prop} {ty : TypeId} {x y : Operand} {k : Nat} {l l' : List Value} (hgd : op.guard = none) (ho : op.op = .store ty x y)
  (hx : a.eval x = .pointer (some ⟨k, 0, none⟩)) (hy : a.eval y = .agg l'.toArray) (A : Arr k l w) (hl : l'.length = l.length) (hi : (Try.prog.info? ty).map (·.size) = some l'.length) (h1 : l'.all (·.oneCell') = true)
  (h : ∀ w', Arr k l' w' → Off k w w' → wpList Try.prog ops Q rest (a.put op.dst undef) w') : wpList Try.prog ops Q (op :: rest) a w := by
 have th : w.there k 0 l'.length := fun j hj => by
  rw [Nat.zero_add]
  exact ⟨by rw [A.c j (by omega)]; rfl, A.f j (by omega)⟩
 have of := off_cells k l' 0 w
 refine wpList_store_mid hgd ty x y ho k 0 l'.toArray hx hy (by simpa using th) (by simpa using hi) (by simpa using h1) ?_
 refine h _ ⟨fun i hi' => ?_, fun i hi' => ?_, by simp only [of.size]; exact A.lies⟩ of
 ·have := World.cell?_setCells_in k l' 0 w (fun j hj => (th j hj).1) i hi'
  rw [Nat.zero_add] at this
  exact this
 ·show (w.setCells k 0 l').frozen? _ = false
  rw [World.frozen?_setCells]
  exact A.f i (by omega)
theorem row_one (N : Nat) (g : Nat → Int) : (row N g).all (·.oneCell') = true := by
 rw [List.all_eq_true]
 intro v hv
 unfold row at hv
 obtain ⟨i, _, rfl⟩ := List.mem_map.1 hv
 rfl
end Go.Proofs.Ytooehgijllihdaa
namespace Go.Proofs.Ytooehgijllihdaa
open Go.RowKit
theorem row_range {k N M o : Nat} {g : Nat → Int} {w : World} (A : Arr k (row N g) w) (h : o + M ≤ N) : w.rangeAt k o (row M fun i => g (o + i)) := fun j v hv => by
 obtain ⟨hj, rfl⟩ := List.getElem?_eq_some_iff.1 hv
 have hj' : j < M := by rw [row_len] at hj; exact hj
 rw [row_get, row_c A (o + j) (by omega)]
theorem part_load {ops : Array Oper} {rest : List Oper} {op : Oper} {a : Act} {w : World} {Q : Exit → Act → World → Prop} {ty : TypeId} {x : Operand} {k N M o : Nat} {g : Nat → Int} (hgd : op.guard = none) (ho : op.op = .load ty x)
  (hx : a.eval x = .pointer (some ⟨k, o, none⟩)) (A : Arr k (row N g) w) (hM : o + M ≤ N) (hd : (Try.prog.underlying ty).any TypeDesc.isRow = true) (hi : (Try.prog.info? ty).map (·.size) = some (row M fun i => g (o + i)).length)
  (h : wpList Try.prog ops Q rest (a.put op.dst (.agg (row M fun i => g (o + i)).toArray)) w) : wpList Try.prog ops Q (op :: rest) a w := by
 cases hu : Try.prog.underlying ty with
 | none => rw [hu] at hd; cases hd
 | some d => rw [hu] at hd; exact wpList_load_mid hgd ty x ho k o hx _ d (row_range A hM) hu hd hi h
theorem part_yield {ops : Array Oper} {S : World → Prop} {op : Oper} {a : Act} {ty : TypeId} {x : Operand} {k N M o : Nat} {g : Nat → Int} (hw : Region.wanted op (yielded ops a.tmps) = true) (ho : op.op = .load ty x)
  (hx : a.eval x = .pointer (some ⟨k, o, none⟩)) (hS : ∀ w, S w → Arr k (row N g) w) (hM : o + M ≤ N) (hd : (Try.prog.underlying ty).any TypeDesc.isRow = true) (hi : (Try.prog.info? ty).map (·.size) = some (row M fun i => g (o + i)).length) :
  YieldsIf Try.prog ops S op (.agg (row M fun i => g (o + i)).toArray) a := by
 cases hu : Try.prog.underlying ty with
 | none => rw [hu] at hd; cases hd
 | some d => rw [hu] at hd; exact yieldsIf_load_mid hw ty x ho k o hx _ d (fun w h => row_range (hS w h) hM) hu hd hi
theorem row_yield {ops : Array Oper} {S : World → Prop} {op : Oper} {a : Act} {ty : TypeId} {x : Operand} {k : Nat} {l : List Value} (hw : Region.wanted op (yielded ops a.tmps) = true) (ho : op.op = .load ty x)
  (hx : a.eval x = .pointer (some ⟨k, 0, none⟩)) (hS : ∀ w, S w → Arr k l w) (hd : (Try.prog.underlying ty).any TypeDesc.isRow = true) (hi : (Try.prog.info? ty).map (·.size) = some l.length) :
  YieldsIf Try.prog ops S op (.agg l.toArray) a := by
 cases hu : Try.prog.underlying ty with
 | none => rw [hu] at hd; cases hd
 | some d => rw [hu] at hd; exact yieldsIf_load_mid hw ty x ho k 0 hx _ d (fun w h => (hS w h).range) hu hd hi
def NearR (k N : Nat) (g : Nat → Int) (o : Nat) (w : World) : Prop := ∃ g' : Nat → Int, Arr k (row N g') w ∧ ∀ x, x ≠ o → g' x = g x
theorem NearR.same {k N o : Nat} {g : Nat → Int} {w : World} (A : Arr k (row N g) w) : NearR k N g o w := ⟨g, A, fun _ _ => rfl⟩
theorem NearR.upd {k N o : Nat} {g : Nat → Int} {v : Int} {w : World} (A : Arr k (row N (updF g o v)) w) : NearR k N g o w := ⟨_, A, fun _ hx => if_neg hx⟩
theorem near_c {k N o : Nat} {g : Nat → Int} {w : World} (A : NearR k N g o w) (i : Nat) (h : i < N) (ho : i ≠ o) : w.cell? ⟨k, i, none⟩ = some (.int .i64 (g i)) := by
 obtain ⟨g', A, e⟩ := A
 rw [row_c A i h, e i ho]
theorem near_yield {ops : Array Oper} {S : World → Prop} {op : Oper} {a : Act} {ty : TypeId} {x : Operand} {k N M o o' : Nat} {g : Nat → Int} (hw : Region.wanted op (yielded ops a.tmps) = true) (ho : op.op = .load ty x)
  (hx : a.eval x = .pointer (some ⟨k, o, none⟩)) (hS : ∀ w, S w → NearR k N g o' w) (hM : o + M ≤ N) (hn : o' < o ∨ o + M ≤ o') (hd : (Try.prog.underlying ty).any TypeDesc.isRow = true) (hi : (Try.prog.info? ty).map (·.size) = some (row M fun i => g (o + i)).length) :
  YieldsIf Try.prog ops S op (.agg (row M fun i => g (o + i)).toArray) a := by
 cases hu : Try.prog.underlying ty with
 | none => rw [hu] at hd; cases hd
 | some d =>
  rw [hu] at hd
  refine yieldsIf_load_mid hw ty x ho k o hx _ d (fun w h j v hv => ?_) hu hd hi
  obtain ⟨hj, rfl⟩ := List.getElem?_eq_some_iff.1 hv
  have hj' : j < M := by rw [row_len] at hj; exact hj
  rw [row_get, near_c (hS w h) (o + j) (by omega) (by omega)]
theorem late_row {ops : Array Oper} {op : Oper} {a : Act} {w : World} {K : Act → World → Prop} {Q : Exit → Act → World → Prop} {ty : TypeId} {x : Operand} {k : Nat} {l : List Value} (hw : Region.wanted op (yielded ops a.tmps) = true) (ho : op.op = .load ty x)
  (hx : a.eval x = .pointer (some ⟨k, 0, none⟩)) (A : Arr k l w) (hd : (Try.prog.underlying ty).any TypeDesc.isRow = true) (hi : (Try.prog.info? ty).map (·.size) = some l.length)
  (h : K (a.put op.dst (.agg l.toArray)) w) : if Region.wanted op (yielded ops a.tmps) = true then Oper.wp Try.prog op a w K Q else K (a.put op.dst undef) w := by
 rw [if_pos hw]
 cases hu : Try.prog.underlying ty with
 | none => rw [hu] at hd; cases hd
 | some d => rw [hu] at hd; exact wp_load_mid ty x ho k 0 hx _ d A.range hu hd hi h
theorem late_part {ops : Array Oper} {op : Oper} {a : Act} {w : World} {K : Act → World → Prop} {Q : Exit → Act → World → Prop} {ty : TypeId} {x : Operand} {k N M o : Nat} {g : Nat → Int} (hw : Region.wanted op (yielded ops a.tmps) = true) (ho : op.op = .load ty x)
  (hx : a.eval x = .pointer (some ⟨k, o, none⟩)) (A : Arr k (row N g) w) (hM : o + M ≤ N) (hd : (Try.prog.underlying ty).any TypeDesc.isRow = true) (hi : (Try.prog.info? ty).map (·.size) = some (row M fun i => g (o + i)).length)
  (h : K (a.put op.dst (.agg (row M fun i => g (o + i)).toArray)) w) : if Region.wanted op (yielded ops a.tmps) = true then Oper.wp Try.prog op a w K Q else K (a.put op.dst undef) w := by
 rw [if_pos hw]
 cases hu : Try.prog.underlying ty with
 | none => rw [hu] at hd; cases hd
 | some d => rw [hu] at hd; exact wp_load_mid ty x ho k o hx _ d (row_range A hM) hu hd hi h
theorem get_cont {P : Program} {c : Code} {Q : Exit → Act → World → Prop} {a : Act} {w : World} (h : ∀ K : Act → World → Prop, Hid (K = fun a w => Q .normal a w) → Code.wp P c Q a w) : Code.wp P c Q a w := h _ rfl
theorem put_cont {K : Act → World → Prop} {Q : Exit → Act → World → Prop} {a : Act} {w : World} (e : Hid (K = fun a w => Q .normal a w)) (h : K a w) : Q .normal a w := by rw [e.out] at h; exact h
theorem use_cont {K p : Act → World → Prop} {a : Act} {w : World} (h : ∀ a w, p a w → K a w) (hp : p a w) : K a w := h a w hp
end Go.Proofs.Ytooehgijllihdaa
namespace Go.Proofs.Ytooehgijllihdaa
open Go.RowKit
@[go_sem] theorem zero_rows (w : World) : Sem.run Try.prog (zeroValue 59) w = .ok (.agg (row 78 (fun _ => 0)).toArray) w := by kernel_rfl
@[go_sem] theorem zero_quats (w : World) : Sem.run Try.prog (zeroValue 75) w = .ok (.agg (row 52 (fun _ => 0)).toArray) w := by kernel_rfl
@[go_sem] theorem zero_guess (w : World) : Sem.run Try.prog (zeroValue 38) w = .ok (.agg (row 43 (fun _ => 0)).toArray) w := by kernel_rfl
theorem code_letter {P : Program} {c : Code} {Q : Exit → Act → World → Prop} {a : Act} {w : World} {S : World → Prop} (h : S w) (k : ∀ W, S W → c.wp P Q a W) : c.wp P Q a w := k w h
theorem results_arr2t {fn : Func} {p p2 p3 : Tmp} {ty : TypeId} (h : fn.results = #[.cell p ty, .tmp p2, .tmp p3]) {tmps : Array Value} {w : World} {k : Nat} {l : List Value} {v2 v3 : Value} (A : Arr k l w)
  (hp : tmps.getD p undef = .pointer (some ⟨k, 0, none⟩)) (h2 : tmps.getD p2 undef = v2) (h3 : tmps.getD p3 undef = v3) (hd : (Try.prog.underlying ty).any TypeDesc.isRow = true) (hi : (Try.prog.info? ty).map (·.size) = some l.length) :
  (results fn tmps).run Try.prog w = .ok (.tuple #[.agg l.toArray, v2, v3]) w := by
 cases hu : Try.prog.underlying ty with
 | none => rw [hu] at hd; cases hd
 | some d =>
  rw [hu] at hd
  have hp' : tmps[p]?.getD undef = .pointer (some ⟨k, 0, none⟩) := by simpa using hp
  have h2' : tmps[p2]?.getD undef = v2 := by simpa using h2
  have h3' : tmps[p3]?.getD undef = v3 := by simpa using h3
  simp [results, h, hp', h2', h3', asAddr, run_loadVar_mid w k 0 ty l d A.range hu hd hi]
end Go.Proofs.Ytooehgijllihdaa
namespace Go.Proofs.Ytooehgijllihdaa
open Go.RowKit
theorem row_load_g {ops : Array Oper} {rest : List Oper} {op : Oper} {a : Act} {w : World} {Q : Exit → Act → World → Prop} {ty : TypeId} {x : Operand} {k : Nat} {l : List Value} (hw : Region.wanted op (yielded ops a.tmps) = true) (ho : op.op = .load ty x)
  (hx : a.eval x = .pointer (some ⟨k, 0, none⟩)) (A : Arr k l w) (hd : (Try.prog.underlying ty).any TypeDesc.isRow = true) (hi : (Try.prog.info? ty).map (·.size) = some l.length)
  (h : wpList Try.prog ops Q rest (a.put op.dst (.agg l.toArray)) w) : wpList Try.prog ops Q (op :: rest) a w := by
 unfold wpList
 rw [if_pos hw]
 left
 cases hu : Try.prog.underlying ty with
 | none => rw [hu] at hd; cases hd
 | some d => rw [hu] at hd; exact wp_load_mid ty x ho k 0 hx _ d A.range hu hd hi h
end Go.Proofs.Ytooehgijllihdaa
namespace Go.Proofs.Ytooehgijllihdaa
theorem rounds_letter {P : Program} {c : Code} {Q : Exit → Act → World → Prop} {n : Nat} {a : Act} {w : World} {S : World → Prop} (hS : S w) (h : ∀ w', S w' → Code.rounds P c Q n a w') : Code.rounds P c Q n a w := h w hS
end Go.Proofs.Ytooehgijllihdaa
namespace Go.Proofs.Ytooehgijllihdaa
open Go.RowKit
theorem row_store_at {ops : Array Oper} {op : Oper} {a : Act} {w : World} {K : Act → World → Prop} {Q : Exit → Act → World → Prop} {ty : TypeId} {x y : Operand} {k : Nat} {l l' : List Value} (hw : Region.wanted op (yielded ops a.tmps) = true) (ho : op.op = .store ty x y)
  (hx : a.eval x = .pointer (some ⟨k, 0, none⟩)) (hy : a.eval y = .agg l'.toArray) (A : Arr k l w) (hl : l'.length = l.length) (hi : (Try.prog.info? ty).map (·.size) = some l'.length) (h1 : l'.all (·.oneCell') = true)
  (h : ∀ w', Arr k l' w' → Off k w w' → K (a.put op.dst undef) w') : if Region.wanted op (yielded ops a.tmps) = true then Oper.wp Try.prog op a w K Q else K (a.put op.dst undef) w := by
 rw [if_pos hw]
 have th : w.there k 0 l'.length := fun j hj => by
  rw [Nat.zero_add]
  exact ⟨by rw [A.c j (by omega)]; rfl, A.f j (by omega)⟩
 have of := off_cells k l' 0 w
 refine wp_store_mid ty x y ho k 0 l'.toArray hx hy (by simpa using th) (by simpa using hi) (by simpa using h1) ?_
 refine h _ ⟨fun i hi' => ?_, fun i hi' => ?_, by simp only [of.size]; exact A.lies⟩ of
 ·have := World.cell?_setCells_in k l' 0 w (fun j hj => (th j hj).1) i hi'
  rw [Nat.zero_add] at this
  exact this
 ·show (w.setCells k 0 l').frozen? _ = false
  rw [World.frozen?_setCells]
  exact A.f i (by omega)
theorem Arr.fn {k N : Nat} {g g' : Nat → Int} {w : World} (A : Arr k (row N g) w) (e : g = g') : Arr k (row N g') w := e ▸ A
end Go.Proofs.Ytooehgijllihdaa
