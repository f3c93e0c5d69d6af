/-
  Short names of some laws, for the seat Ytpceomcnknjiiaa.
  The walks of the small functions of package fixed, for the seat Ytpceomcnknjiiaa.
  The walks of package fixed's small methods on flows, for the seat Ytpceomcnknjiiaa: Fail, gives, signed, takes.
  The walks of package fixed's loops, for the seat Ytpceomcnknjiiaa: longDivision, quotient, root.
  The walks of package fixed's methods, for the seat Ytpceomcnknjiiaa.
  Regions that draw their order, flows anew, and rows of cells in memory, for the seat Ytpceomcnknjiiaa. No Go text in sight.
  Days and Right, for the seat Ytpceomcnknjiiaa. (Made by mkclock.py.)
  Where a walk halts: at a function's end, ahead of its results; what a function returns out of a row of cells, for the seat Ytpceomcnknjiiaa.
-/
import Derived.Test.YtpceomcnknjiiaaJA
import Derived.Handy
import Derived.Test.YtpceomcnknjiiaaRows
import Derived.WalkKit
import Derived.WalkSpells
import Derived.WalkLawsBesides
import Derived.Deep.RegionHeld3
import Derived.Deep.DrawnRows
import Derived.LoopN
import Derived.Deep.MidRow
namespace Go.Proofs.Ytpceomcnknjiiaa

theorem zA {α : Type} {l : List α} {i : Nat} {a : α} : l.toArray.setIfInBounds i a = (l.set i a).toArray := by simp
theorem zB {α : Type} {x : α} {xs : List α} {a : α} : (x :: xs).set 0 a = a :: xs := rfl
theorem zC {α : Type} {x : α} {xs : List α} {i : Nat} {a : α} : (x :: xs).set (i + 1) a = x :: xs.set i a := rfl
theorem zD {p : Prop} [d : Decidable p] (h : decide p = true) : p := of_decide_eq_true h
theorem zL {a b : Nat} (h : a < b) : a ≠ b := by omega
theorem zG {a b : Nat} (h : b < a) : a ≠ b := by omega
end Go.Proofs.Ytpceomcnknjiiaa
namespace Go.Proofs.Ytpceomcnknjiiaa
open Go.RowKit


theorem ret_bool {a b : Bool} (h : a = b) : Ending.returned (.bool a) = .returned (.bool b) := by rw [h]
theorem ret_int {k : IntKind} {a b : Int} (h : a = b) : Ending.returned (.int k a) = .returned (.int k b) := by rw [h]

set_option maxHeartbeats 400000 in
theorem lowHalf_any (a : Int) (w : World) (_h0 : 0 ≤ a) (_h1 : a ≤ 18446744073709551615) :
    Calls Try.prog 39 #[.int .u64 a] w fun e w' => e = .returned (.int .u64 (a % 4294967296)) ∧ w' = w := by
  go_enter Try.func39, Try.ntmps39
  go_wp2
  go_ret
  exact ⟨rfl, rfl⟩

set_option maxHeartbeats 400000 in
theorem isNumber_any (a : Int) (w : World) :
    Calls Try.prog 37 #[.int .i64 a] w fun e w' => e = .returned (.bool (numB a)) ∧ w' = w := by
  go_enter Try.func37, Try.ntmps37
  go_wp2
  all_goals
    go_ret
    exact ⟨ret_bool (by unfold numB; simp; try omega), rfl⟩

theorem ret_agg2 {k l : IntKind} {a b c d : Int} (h : a = c) (h' : b = d) : Ending.returned (.agg #[.int k a, .int l b]) = .returned (.agg #[.int k c, .int l d]) := by rw [h, h']

set_option maxHeartbeats 400000 in
theorem product_any (a b : Int) (w : World) (h0 : 0 ≤ a) (h1 : a ≤ 18446744073709551615) (k0 : 0 ≤ b) (k1 : b ≤ 18446744073709551615) :
    Calls Try.prog 28 #[.int .u64 a, .int .u64 b] w fun e w' => e = .returned (.agg #[.int .u64 (hi64 (a * b)), .int .u64 (lo64 (a * b))]) ∧ Below w.heap.size w w' := by
  have HP : Hid _ := prod_words a b h0 h1 k0 k1
  go_enter Try.func28, Try.ntmps28
  go_wp2
  go_returns
  exact ⟨ret_agg2 HP.out.1 HP.out.2, by go_grown⟩

set_option maxHeartbeats 400000 in
theorem plus_gen (a b c d : Int) (w : World) (h1 : 0 ≤ a ∧ a ≤ 18446744073709551615) (h2 : 0 ≤ b ∧ b ≤ 18446744073709551615) (h3 : 0 ≤ c ∧ c ≤ 18446744073709551615) (h4 : 0 ≤ d ∧ d ≤ 18446744073709551615)
    (hs : a * 18446744073709551616 + b + (c * 18446744073709551616 + d) ≤ 340282366920938463463374607431768211455) :
    Calls Try.prog 40 #[.agg #[.int .u64 a, .int .u64 b], .agg #[.int .u64 c, .int .u64 d]] w fun e w' => e = .returned (.agg #[.int .u64 (hi64 (a * 18446744073709551616 + b + (c * 18446744073709551616 + d))), .int .u64 (lo64 (a * 18446744073709551616 + b + (c * 18446744073709551616 + d)))]) ∧ Below w.heap.size w w' := by
  have HS : Hid _ := hs
  clear hs
  go_enter Try.func40, Try.ntmps40
  go_wp2
  all_goals
    rename_i hq
    go_returns
    refine ⟨ret_agg2 ?_ ?_, by go_grown⟩ <;> (have hs := HS.out; rw [IntKind.wrap_u64] at hq; simp only [IntKind.wrap_u64]; first | unfold hi64 | unfold lo64); all_goals omega
theorem plus_any (n m : Int) (w : World) (h0 : 0 ≤ n) (k0 : 0 ≤ m) (hs : n + m ≤ 340282366920938463463374607431768211455) :
    Calls Try.prog 40 #[.agg #[.int .u64 (hi64 n), .int .u64 (lo64 n)], .agg #[.int .u64 (hi64 m), .int .u64 (lo64 m)]] w fun e w' => e = .returned (.agg #[.int .u64 (hi64 (n + m)), .int .u64 (lo64 (n + m))]) ∧ Below w.heap.size w w' := by
  have e1 := hilo n
  have e2 := hilo m
  have := plus_gen (hi64 n) (lo64 n) (hi64 m) (lo64 m) w (hi64_bd n h0 (by omega)) (lo64_bd n) (hi64_bd m k0 (by omega)) (lo64_bd m) (by omega)
  rw [e1, e2] at this
  exact this
theorem plus_lit (n m : Int) (w : World) (h0 : 0 ≤ n) (k0 : 0 ≤ m) (k1 : m ≤ 18446744073709551615) (hs : n + m ≤ 340282366920938463463374607431768211455) :
    Calls Try.prog 40 #[.agg #[.int .u64 (hi64 n), .int .u64 (lo64 n)], .agg #[.int .u64 0, .int .u64 m]] w fun e w' => e = .returned (.agg #[.int .u64 (hi64 (n + m)), .int .u64 (lo64 (n + m))]) ∧ Below w.heap.size w w' := by
  have e1 := hilo n
  have := plus_gen (hi64 n) (lo64 n) 0 m w (hi64_bd n h0 (by omega)) (lo64_bd n) (by omega) (by omega) (by omega)
  rw [e1, show (0 : Int) * 18446744073709551616 + m = m by omega] at this
  exact this

theorem bcell {W w1 : World} (hb : Below W.heap.size W w1) : (∀ b o, b < W.heap.size → w1.cell? ⟨b, o, none⟩ = W.cell? ⟨b, o, none⟩) ∧ (∀ b o, b < W.heap.size → w1.frozen? ⟨b, o, none⟩ = W.frozen? ⟨b, o, none⟩) :=
  ⟨fun b o h => hb.cell (p := ⟨b, o, none⟩) h, fun b o h => hb.frozen (p := ⟨b, o, none⟩) h⟩

set_option maxHeartbeats 400000 in
theorem size_any (a : Int) (w : World) (h : numB a = true) :
    Calls Try.prog 29 #[.int .i64 a] w fun e w' => e = .returned (.int .u64 (sz a)) ∧ w' = w := by
  have hb := numB_bd h
  go_enter Try.func29, Try.ntmps29
  go_wp2
  all_goals
    go_ret
    exact ⟨ret_int (by unfold sz; split <;>  omega), rfl⟩

set_option maxHeartbeats 400000 in
theorem shifted_any (n : Int) (w : World) (h0 : 0 ≤ n) (hs : n ≤ 85070591730234615865843651857942052864) :
    Calls Try.prog 31 #[.agg #[.int .u64 (hi64 n), .int .u64 (lo64 n)], .int .u64 40] w fun e w' => e = .returned (.int .u64 (sat64 ((n + 549755813888) / 1099511627776))) ∧ Below w.heap.size w w' := by
  have HB : Hid _ := hi64_bd (n + 549755813888) (by omega) (by omega)
  have HL : Hid _ := lo64_bd (n + 549755813888)
  have HE : Hid _ := hilo (n + 549755813888)
  go_enter Try.func31, Try.ntmps31
  go_wp2_with fail
  refine (plus_lit n 549755813888 _ h0 (by omega) (by omega) (by omega)).mono ?_
  rintro e w1 ⟨rfl, hb⟩
  obtain ⟨hc, hf⟩ := bcell hb
  have hz : w.heap.size < w1.heap.size := by have := hb.size; simp at this; omega
  have HB' : Hid _ := hb
  clear hb
  generalize hi64 (n + 549755813888) = x at *
  generalize lo64 (n + 549755813888) = y at *
  have b1 := HB.out
  have b2 := HL.out
  have hw : ∀ u v, Below w.heap.size w ((w1.setCell ⟨w.heap.size, 0, none⟩ u).setCell ⟨w.heap.size, 1, none⟩ v) := fun u v => ((((Below.refl _ _).alloc (Nat.le_refl _) _).trans (HB'.out.mono (by simp))).setCell (Nat.le_refl _) _).setCell (Nat.le_refl _) _
  have HW : Hid _ := hw
  clear hw
  by_cases c : x / 1099511627776 = 0
  · have c' : (x / 1099511627776 != 0) = false := by simp [c]
    have HQ : Hid _ := shifted_words n x y HE.out b1 b2 c
    clear c
    go_wp2
    go_ret
    exact ⟨ret_int HQ.out, HW.out _ _⟩
  · have c' : (x / 1099511627776 != 0) = true := by simp [c]
    have HQ : Hid _ := shifted_much n x y HE.out b1 b2 c
    clear c
    go_wp2
    go_ret
    exact ⟨ret_int HQ.out, HW.out _ _⟩
end Go.Proofs.Ytpceomcnknjiiaa
namespace Go.Proofs.Ytpceomcnknjiiaa
open Go.RowKit

/-- A flow lies at block b: its one cell says whether it is bad. -/
structure Fl (b : Nat) (bad : Bool) (w : World) : Prop where
  cell : w.cell? ⟨b, 0, none⟩ = some (.bool bad)
  free : w.frozen? ⟨b, 0, none⟩ = false
  lies : b < w.heap.size

/-- All blocks that were there are as they were, but for block b; the streams are as they were. -/
structure Kept (b : Nat) (w w' : World) : Prop where
  os : w'.os = w.os
  tape : w'.tape = w.tape
  output : w'.output = w.output
  size : w.heap.size ≤ w'.heap.size
  block : ∀ k, k < w.heap.size → k ≠ b → w'.heap[k]? = w.heap[k]?

theorem Kept.refl (b : Nat) (w : World) : Kept b w w := ⟨rfl, rfl, rfl, Nat.le_refl _, fun _ _ _ => rfl⟩
theorem Kept.trans {b : Nat} {x y z : World} (h : Kept b x y) (k : Kept b y z) : Kept b x z :=
  ⟨k.os.trans h.os, k.tape.trans h.tape, k.output.trans h.output, Nat.le_trans h.size k.size, fun i hi hb => (k.block i (Nat.lt_of_lt_of_le hi h.size) hb).trans (h.block i hi hb)⟩
theorem Kept.of_below {b : Nat} {w w' : World} (h : Below w.heap.size w w') : Kept b w w' := ⟨h.os, h.tape, h.output, h.size, fun k hk _ => h.block k hk⟩
theorem Kept.setCell {b : Nat} {x w : World} (h : Kept b x w) (u : Value) : Kept b x (w.setCell ⟨b, 0, none⟩ u) :=
  h.trans ⟨rfl, rfl, rfl, by simp [World.setCell], fun k _ hb => Below.heap_setCell _ _ _ _ hb⟩
theorem Kept.below {b B : Nat} {x w w' : World} (h : Kept b w w') (hx : Below B x w) (hb : B ≤ b) (hB : B ≤ w.heap.size) : Below B x w' :=
  hx.trans ⟨h.os, h.tape, h.output, h.size, fun k hk => h.block k (by omega) (by omega)⟩
theorem Kept.cell {b : Nat} {w w' : World} (h : Kept b w w') {p : Addr} (hp : p.block < w.heap.size) (hb : p.block ≠ b) : w'.cell? p = w.cell? p := World.cell?_of_block (w := w) (h.block p.block hp hb)
theorem Kept.frozen {b : Nat} {w w' : World} (h : Kept b w w') {p : Addr} (hp : p.block < w.heap.size) (hb : p.block ≠ b) : w'.frozen? p = w.frozen? p := World.frozen?_of_block (w := w) (h.block p.block hp hb)
theorem Fl.below {b : Nat} {bad : Bool} {w w' : World} (h : Fl b bad w) (hb : Below w.heap.size w w') : Fl b bad w' :=
  ⟨(hb.cell (p := ⟨b, 0, none⟩) h.lies).trans h.cell, (hb.frozen (p := ⟨b, 0, none⟩) h.lies).trans h.free, Nat.lt_of_lt_of_le h.lies hb.size⟩
theorem Fl.kept {b c : Nat} {bad : Bool} {w w' : World} (h : Fl b bad w) (hb : Kept c w w') (hc : b ≠ c) : Fl b bad w' :=
  ⟨(hb.cell (p := ⟨b, 0, none⟩) h.lies hc).trans h.cell, (hb.frozen (p := ⟨b, 0, none⟩) h.lies hc).trans h.free, Nat.lt_of_lt_of_le h.lies hb.size⟩
theorem Fl.set {b : Nat} {bad : Bool} {w : World} (h : Fl b bad w) (v : Bool) : Fl b v (w.setCell ⟨b, 0, none⟩ (.bool v)) := by
  refine ⟨World.cell?_setCell_same _ _ _ h.cell, ?_, ?_⟩
  · rw [World.frozen?_setCell]; exact h.free
  · rw [World.size_setCell]; exact h.lies

set_option maxHeartbeats 400000 in
theorem Fail_any (b : Nat) (bad : Bool) (w : World) (hw : Fl b bad w) :
    Calls Try.prog 38 #[.pointer (some ⟨b, 0, none⟩)] w fun e w' => e = .returned (.tuple #[]) ∧ Fl b true w' ∧ Kept b w w' := by
  have HW : Hid _ := hw
  obtain ⟨hc, hf, hl⟩ := hw
  go_enter Try.func38, Try.ntmps38
  go_wp2
  go_end0
  exact ⟨rfl, HW.out.set true, (Kept.refl _ _).setCell _⟩

set_option maxHeartbeats 400000 in
theorem signed_any (b : Nat) (n : Int) (minus : Bool) (w : World) (hw : Fl b false w) (h0 : 0 ≤ n) (h1 : n ≤ 18446744073709551615) :
    Calls Try.prog 30 #[.pointer (some ⟨b, 0, none⟩), .int .u64 n, .bool minus] w fun e w' => e = .returned (.int .i64 (out n minus).1) ∧ Fl b (out n minus).2 w' ∧ Kept b w w' := by
  show Calls Try.prog 30 _ _ fun e w' => e = .returned (.int .i64 (sgnd n minus)) ∧ Fl b (decide (4611686018427387904 < n)) w' ∧ Kept b w w'
  by_cases c : n ≤ 4611686018427387904
  · have HS : Hid _ := sgnd_in n minus c
    have HC : Hid (decide (4611686018427387904 < n) = false) := by show _ = _; simp; omega
    cases minus
    all_goals
      go_enter Try.func30, Try.ntmps30
      go_wp2
      go_ret
      rw [HC.out]
      exact ⟨ret_int HS.out, hw, Kept.refl _ _⟩
  · have HS : Hid _ := sgnd_out n minus c
    have HC : Hid (decide (4611686018427387904 < n) = true) := by show _ = _; simp; omega
    go_enter Try.func30, Try.ntmps30
    go_wp2_with fail
    refine (Fail_any b false _ hw).mono ?_
    rintro e w1 ⟨rfl, h2, h3⟩
    go_wp2
    go_ret
    rw [HC.out]
    exact ⟨ret_int HS.out, h2, h3⟩

/-- Cells of integers that lie behind one another at block s. -/
def Ints (s : Nat) (zs : List Int) (w : World) : Prop := ∀ i, (h : i < zs.length) → w.cell? ⟨s, i, none⟩ = some (.int .i64 zs[i])

theorem all_take_succ {zs : List Int} {k : Nat} (h : k < zs.length) : (zs.take (k + 1)).all numB = ((zs.take k).all numB && numB zs[k]) := by
  rw [List.take_succ_eq_append_getElem h, List.all_append]; simp only [List.all_cons, List.all_nil, Bool.and_true]
theorem all_of_not {zs : List Int} {k : Nat} (h : k < zs.length) (c : numB zs[k] = false) : zs.all numB = false := by
  rw [Bool.eq_false_iff]
  intro ha
  rw [List.all_eq_true] at ha
  have := ha _ (List.getElem_mem h)
  rw [c] at this
  cases this

set_option maxHeartbeats 400000 in
theorem takes_any (b s : Nat) (bad : Bool) (zs : List Int) (w : World) (hw : Fl b bad w) (hz : Ints s zs w) (hlen : zs.length ≤ 3) :
    Calls Try.prog 27 #[.pointer (some ⟨b, 0, none⟩), .slice (some ⟨s, 0, none⟩) zs.length zs.length] w fun e w' => e = .returned (.bool (tk bad zs)) ∧ Fl b (!tk bad zs) w' ∧ Kept b w w' := by
  rw [← tk_not bad zs]
  unfold tk
  have HW : Hid _ := hw
  have HZ : Hid _ := hz
  obtain ⟨hc, hf, hl⟩ := hw
  clear hz
  cases bad
  · go_enter Try.func27, Try.ntmps27
    go_wp2
    go_loop [17] (fun v => ∃ k : Nat, k ≤ zs.length ∧ v = .int .i64 k ∧ Hid ((zs.take k).all numB = true)) (fun v => zs.length - (intOf v).toNat)
    case atStart => exact ⟨0, Nat.zero_le _, rfl, by show _ = _; simp⟩
    case round =>
      obtain ⟨k, hk, rfl, HA⟩ := hrel
      by_cases hlt : k < zs.length
      · have hcell := HZ.out k hlt
        have HS : Hid _ := all_take_succ hlt
        have HN : numB zs[k] = false → zs.all numB = false := all_of_not hlt
        have HN' : Hid _ := HN
        clear HN
        generalize zs[k] = z at *
        cases c : numB z
        · have HC : Hid _ := HN'.out c
          have HC2 : Hid _ := c
          clear c
          go_wp2_with fail
          refine (isNumber_any _ _).mono ?_
          rintro e w1 ⟨rfl, rfl⟩
          rw [HC2.out]
          go_wp2_with fail
          refine (Fail_any b false _ HW.out).mono ?_
          rintro e w1 ⟨rfl, h2, h3⟩
          go_wp2
          go_ret
          rw [HC.out]
          exact ⟨rfl, h2, h3⟩
        · have HC2 : Hid _ := c
          clear c
          go_wp2_with fail
          refine (isNumber_any _ _).mono ?_
          rintro e w1 ⟨rfl, rfl⟩
          rw [HC2.out]
          go_wp2
          go_round
          case rel => exact ⟨k + 1, by omega, by go_num, by show _ = _; rw [HS.out, HA.out, HC2.out]; rfl⟩
          case measure => simp [intOf]; omega
      · go_wp2
        go_ret
        have ha : zs.all numB = true := by have := HA.out; rwa [List.take_of_length_le (by omega)] at this
        rw [ha]
        exact ⟨rfl, HW.out, Kept.refl _ _⟩
  · go_enter Try.func27, Try.ntmps27
    go_wp2
    go_ret
    exact ⟨rfl, HW.out, Kept.refl _ _⟩

set_option maxHeartbeats 400000 in
theorem takes_nil (v : Value) (w : World) : Calls Try.prog 27 #[.pointer none, v] w fun e w' => e = .returned (.bool false) ∧ w' = w := by
  go_enter Try.func27, Try.ntmps27
  go_wp2
  go_ret
  exact ⟨rfl, rfl⟩

theorem Ints_two (x y : Int) (w : World) : Ints w.heap.size [x, y] (w.alloc (.cells #[.int .i64 x, .int .i64 y] 2)) := by
  intro i h
  rw [World.cell?_alloc_new]
  match i, h with
  | 0, _ => rfl
  | 1, _ => rfl
theorem Ints_one (x : Int) (w : World) : Ints w.heap.size [x] (w.alloc (.cells #[.int .i64 x] 2)) := by
  intro i h
  rw [World.cell?_alloc_new]
  match i, h with
  | 0, _ => rfl
theorem Ints_three (x y z : Int) (w : World) : Ints w.heap.size [x, y, z] (w.alloc (.cells #[.int .i64 x, .int .i64 y, .int .i64 z] 2)) := by
  intro i h
  rw [World.cell?_alloc_new]
  match i, h with
  | 0, _ => rfl
  | 1, _ => rfl
  | 2, _ => rfl
theorem Kept.alloc (b : Nat) (w : World) (o : Obj) : Kept b w (w.alloc o) := Kept.of_below ((Below.refl _ _).alloc (Nat.le_refl _) o)
theorem Fl.alloc {b : Nat} {bad : Bool} {w : World} (h : Fl b bad w) (o : Obj) : Fl b bad (w.alloc o) := h.below ((Below.refl _ _).alloc (Nat.le_refl _) o)

theorem takes1 (b : Nat) (bad : Bool) (x : Int) (w : World) (hw : Fl b bad w) :
    Calls Try.prog 27 #[.pointer (some ⟨b, 0, none⟩), .slice (some ⟨w.heap.size, 0, none⟩) 1 1] (w.alloc (.cells #[.int .i64 x] 2)) fun e w' => e = .returned (.bool (tk bad [x])) ∧ Fl b (!tk bad [x]) w' ∧ Kept b w w' :=
  (takes_any b w.heap.size bad [x] _ (hw.alloc _) (Ints_one x w) (by simp)).mono fun _ _ h => ⟨h.1, h.2.1, (Kept.alloc b w _).trans h.2.2⟩
theorem takes2 (b : Nat) (bad : Bool) (x y : Int) (w : World) (hw : Fl b bad w) :
    Calls Try.prog 27 #[.pointer (some ⟨b, 0, none⟩), .slice (some ⟨w.heap.size, 0, none⟩) 2 2] (w.alloc (.cells #[.int .i64 x, .int .i64 y] 2)) fun e w' => e = .returned (.bool (tk bad [x, y])) ∧ Fl b (!tk bad [x, y]) w' ∧ Kept b w w' :=
  (takes_any b w.heap.size bad [x, y] _ (hw.alloc _) (Ints_two x y w) (by simp)).mono fun _ _ h => ⟨h.1, h.2.1, (Kept.alloc b w _).trans h.2.2⟩
theorem takes3 (b : Nat) (bad : Bool) (x y z : Int) (w : World) (hw : Fl b bad w) :
    Calls Try.prog 27 #[.pointer (some ⟨b, 0, none⟩), .slice (some ⟨w.heap.size, 0, none⟩) 3 3] (w.alloc (.cells #[.int .i64 x, .int .i64 y, .int .i64 z] 2)) fun e w' => e = .returned (.bool (tk bad [x, y, z])) ∧ Fl b (!tk bad [x, y, z]) w' ∧ Kept b w w' :=
  (takes_any b w.heap.size bad [x, y, z] _ (hw.alloc _) (Ints_three x y z w) (by simp)).mono fun _ _ h => ⟨h.1, h.2.1, (Kept.alloc b w _).trans h.2.2⟩
end Go.Proofs.Ytpceomcnknjiiaa
namespace Go.Proofs.Ytpceomcnknjiiaa
open Go.RowKit
attribute [local go_sem ↓] Go.wp_at_zero Go.wp_at_succ

end Go.Proofs.Ytpceomcnknjiiaa
namespace Go.Proofs.Ytpceomcnknjiiaa
open Go.RowKit


set_option maxHeartbeats 400000 in
theorem Mul_any (b : Nat) (bad : Bool) (x y : Int) (w : World) (hw : Fl b bad w) :
    Calls Try.prog 24 #[.pointer (some ⟨b, 0, none⟩), .int .i64 x, .int .i64 y] w fun e w' => e = .returned (.int .i64 (mulS bad x y).1) ∧ Fl b (mulS bad x y).2 w' ∧ Kept b w w' := by
  go_enter Try.func24, Try.ntmps24
  go_wp2_with fail
  refine (takes2 b bad x y w hw).mono ?_
  rintro e w1 ⟨rfl, h2, h3⟩
  cases c : tk bad [x, y]
  · rw [c] at h2
    have HS : Hid _ := mulS_no c
    have H2 : Hid _ := h2
    have H3 : Hid _ := h3
    clear c h2 h3 hw
    go_wp2
    go_ret
    rw [HS.out]
    exact ⟨rfl, H2.out, H3.out⟩
  · rw [c] at h2
    have HS : Hid _ := mulS_yes c
    have H2 : Hid _ := h2
    have H3 : Hid _ := h3
    have ht := tk_two c
    have hx := sz_bd ht.2.1
    have hy := sz_bd ht.2.2
    have HX : Hid _ := ht.2.1
    have HY : Hid _ := ht.2.2
    clear c hw ht h2 h3
    go_wp2_with fail
    refine (size_any x _ HX.out).mono ?_
    rintro e w2 ⟨rfl, rfl⟩
    go_wp2_with fail
    refine (size_any y _ HY.out).mono ?_
    rintro e w2 ⟨rfl, rfl⟩
    go_wp2_with fail
    refine (product_any (sz x) (sz y) _ hx.1 (by omega) hy.1 (by omega)).mono ?_
    rintro e w3 ⟨rfl, h4⟩
    have H4 : Hid _ := h4
    clear h4
    go_wp2_with fail
    refine (shifted_any (sz x * sz y) _ (sz_mul_bd HX.out HY.out).1 (by have := sz_mul_bd HX.out HY.out; omega)).mono ?_
    rintro e w4 ⟨rfl, h5⟩
    have hf : Fl b false w4 := ((H2.out.below H4.out).alloc _).below h5
    have HK : Hid (Kept b w w4) := ((H3.out.trans (Kept.of_below H4.out)).trans (Kept.alloc b _ _)).trans (Kept.of_below h5)
    have HB : Hid _ := sat_bd ((sz x * sz y + 549755813888) / 1099511627776) (by have := sz_mul_bd HX.out HY.out; omega)
    clear h5
    go_wp2_with fail
    refine (signed_any b _ _ _ hf HB.out.1 HB.out.2).mono ?_
    rintro e w5 ⟨rfl, h6, h7⟩
    go_wp2
    go_ret
    rw [HS.out]
    rw [sat_out] at h6 ⊢
    exact ⟨rfl, h6, HK.out.trans h7⟩

end Go.Proofs.Ytpceomcnknjiiaa
namespace Go.Proofs.Ytpceomcnknjiiaa
open Go.RowKit

/-- A stronger condition may be held from any point of a region on. -/
theorem wpAnyH_swap {P : Program} {md : Region.Mode} {ops : Array Oper} {Q : Exit → Act → World → Prop} {S T : World → Prop} (h : ∀ w, S w → T w) :
    ∀ {fuel : Nat} {listed : Array Bool} {a : Act} {w : World}, wpAnyH P md ops Q S fuel listed a w → wpAnyH P md ops Q T fuel listed a w
  | 0, _, _, _, k => k
  | _ + 1, _, _, _, k => ⟨k.1, fun i hi => wpOp_mono (fun _ _ k2 => ⟨h _ k2.1, wpAnyH_swap h k2.2⟩) (k.2 i hi)⟩
theorem take_at {P : Program} {md : Region.Mode} {l : List Oper} {Q : Exit → Act → World → Prop} {S : World → Prop} {i : Nat} {oi : Oper} {v : Value} {fuel : Nat} {listed : Array Bool} {a : Act} {w : World} (hi : l[i]? = some oi)
    (hs : Region.noSelect l.toArray = true) (hf : Region.free md l.toArray listed i = true) (hr : (Region.ready md l.toArray listed).contains i = true)
    (hQ : ∀ c a w, Q (.panic c) (a.put oi.dst v) w → Q (.panic c) a w) (hy : YieldsIf P l.toArray S oi v a) (hS : S w)
    (h : wpAnyH P md l.toArray Q S fuel (listed.setIfInBounds i true) (a.put oi.dst v) w) : wpAnyH P md l.toArray Q S (fuel + 1) listed a w :=
  wpAnyH_take (ops := l.toArray) (by simpa using hi) hs hf hr hQ hy hS h
theorem zT {P : Program} {md : Region.Mode} {l : List Oper} {Q : Exit → Act → World → Prop} {S : World → Prop} (i : Nat) {oi : Oper} {v : Value} {fuel : Nat} {listed : Array Bool} {a : Act} {w : World} (hi : l[i]? = some oi)
    (hb : (Region.noSelect l.toArray && (Region.free md l.toArray listed i && (Region.ready md l.toArray listed).contains i)) = true)
    (hQ : ∀ c a w, Q (.panic c) (a.put oi.dst v) w → Q (.panic c) a w) (hw : Region.wanted oi (yielded l.toArray a.tmps) = true) (hy : ∀ w, S w → (execOp a.eval oi).run P w = .ok (.value v) w) (hS : S w)
    (h : wpAnyH P md l.toArray Q S fuel (listed.setIfInBounds i true) (a.put oi.dst v) w) : wpAnyH P md l.toArray Q S (fuel + 1) listed a w := by
  rw [Bool.and_eq_true, Bool.and_eq_true] at hb
  exact take_at hi hb.1 hb.2.1 hb.2.2 hQ (Or.inl ⟨hw, hy⟩) hS h
theorem call_at {P : Program} {md : Region.Mode} {l : List Oper} {Q : Exit → Act → World → Prop} {S : World → Prop} {i : Nat} {o : Oper} {fuel : Nat} {listed : Array Bool} {a : Act} {w : World} (hr : Region.ready md l.toArray listed = [i]) (hi : l[i]? = some o)
    (h : ∀ K' : Act → World → Prop, Shut (∀ a w, S w → (S w → wpAnyH P md l.toArray Q S fuel (listed.setIfInBounds i true) a w) → K' a w) → if Region.wanted o (yielded l.toArray a.tmps) = true then Oper.wp P o a w K' Q else K' (a.put o.dst undef) w) :
    wpAnyH P md l.toArray Q S (fuel + 1) listed a w :=
  wpAnyH_ready hr (by simp) (AllReadyH.cons (by simpa using hi) h AllReadyH.nil)
theorem zK {P : Program} {md : Region.Mode} {l : List Oper} {Q : Exit → Act → World → Prop} {S : World → Prop} (i : Nat) {o : Oper} {fuel : Nat} {listed : Array Bool} {a : Act} {w : World} (hr : Region.ready md l.toArray listed = [i]) (hi : l[i]? = some o)
    (h : ∀ K' : Act → World → Prop, Shut (∀ a w, S w → (S w → wpAnyH P md l.toArray Q S fuel (listed.setIfInBounds i true) a w) → K' a w) → if Region.wanted o (yielded l.toArray a.tmps) = true then Oper.wp P o a w K' Q else K' (a.put o.dst undef) w) :
    wpAnyH P md l.toArray Q S (fuel + 1) listed a w := call_at hr hi h
theorem call_at2 {P : Program} {md : Region.Mode} {l : List Oper} {Q : Exit → Act → World → Prop} {S : World → Prop} {i0 i1 : Nat} {o0 o1 : Oper} {fuel : Nat} {listed : Array Bool} {a : Act} {w : World} (hr : Region.ready md l.toArray listed = [i0, i1]) (hi0 : l[i0]? = some o0) (hi1 : l[i1]? = some o1)
    (h0 : ∀ K' : Act → World → Prop, Shut (∀ a w, S w → (S w → wpAnyH P md l.toArray Q S fuel (listed.setIfInBounds i0 true) a w) → K' a w) → if Region.wanted o0 (yielded l.toArray a.tmps) = true then Oper.wp P o0 a w K' Q else K' (a.put o0.dst undef) w)
    (h1 : ∀ K' : Act → World → Prop, Shut (∀ a w, S w → (S w → wpAnyH P md l.toArray Q S fuel (listed.setIfInBounds i1 true) a w) → K' a w) → if Region.wanted o1 (yielded l.toArray a.tmps) = true then Oper.wp P o1 a w K' Q else K' (a.put o1.dst undef) w) :
    wpAnyH P md l.toArray Q S (fuel + 1) listed a w :=
  wpAnyH_ready hr (by simp) (AllReadyH.cons (by simpa using hi0) h0 (AllReadyH.cons (by simpa using hi1) h1 AllReadyH.nil))
theorem call_at3 {P : Program} {md : Region.Mode} {l : List Oper} {Q : Exit → Act → World → Prop} {S : World → Prop} {i0 i1 i2 : Nat} {o0 o1 o2 : Oper} {fuel : Nat} {listed : Array Bool} {a : Act} {w : World} (hr : Region.ready md l.toArray listed = [i0, i1, i2]) (hi0 : l[i0]? = some o0) (hi1 : l[i1]? = some o1) (hi2 : l[i2]? = some o2)
    (h0 : ∀ K' : Act → World → Prop, Shut (∀ a w, S w → (S w → wpAnyH P md l.toArray Q S fuel (listed.setIfInBounds i0 true) a w) → K' a w) → if Region.wanted o0 (yielded l.toArray a.tmps) = true then Oper.wp P o0 a w K' Q else K' (a.put o0.dst undef) w)
    (h1 : ∀ K' : Act → World → Prop, Shut (∀ a w, S w → (S w → wpAnyH P md l.toArray Q S fuel (listed.setIfInBounds i1 true) a w) → K' a w) → if Region.wanted o1 (yielded l.toArray a.tmps) = true then Oper.wp P o1 a w K' Q else K' (a.put o1.dst undef) w)
    (h2 : ∀ K' : Act → World → Prop, Shut (∀ a w, S w → (S w → wpAnyH P md l.toArray Q S fuel (listed.setIfInBounds i2 true) a w) → K' a w) → if Region.wanted o2 (yielded l.toArray a.tmps) = true then Oper.wp P o2 a w K' Q else K' (a.put o2.dst undef) w) :
    wpAnyH P md l.toArray Q S (fuel + 1) listed a w :=
  wpAnyH_ready hr (by simp) (AllReadyH.cons (by simpa using hi0) h0 (AllReadyH.cons (by simpa using hi1) h1 (AllReadyH.cons (by simpa using hi2) h2 AllReadyH.nil)))
theorem i64_of_wf {n : Int} (h : (Lit.int .i64 n).wf = true) : -9223372036854775808 ≤ n ∧ n ≤ 9223372036854775807 := by
  simp only [Lit.wf, IntKind.min, IntKind.max, IntKind.signed, IntKind.bits, Bool.and_eq_true, decide_eq_true_eq, if_true] at h
  omega
theorem Fl_new (w : World) (bad : Bool) (t : TypeId) : Fl w.heap.size bad (w.alloc (.cells #[.bool bad] t)) :=
  ⟨by simp, by simp, by simp⟩
theorem Fl_at (w : World) (n : Nat) (bad : Bool) (t : TypeId) (hn : n = w.heap.size) : Fl n bad (w.alloc (.cells #[.bool bad] t)) := by
  subst hn; exact Fl_new w bad t
theorem Kept.on {b : Nat} {x w w' : World} (h : Kept b w w') (hx : Below x.heap.size x w) (hb : x.heap.size ≤ b) : Below x.heap.size x w' := h.below hx hb hx.size
theorem Fl.drew {b : Nat} {bad : Bool} {w : World} (h : Fl b bad w) : Fl b bad w.drew := ⟨h.cell, h.free, h.lies⟩
theorem Kept.drew {b : Nat} {x w : World} (h : Kept b x w) : Kept b x w.drew := ⟨h.os, h.tape, h.output, h.size, h.block⟩
theorem Kept.al {b : Nat} {x w : World} (h : Kept b x w) (o : Obj) : Kept b x (w.alloc o) := h.trans (Kept.alloc b w o)
theorem Kept.new {b : Nat} {x w : World} (h : Kept b x w) (q o : Nat) (hp : x.heap.size ≤ q) (u : Value) : Kept b x (w.setCell ⟨q, o, none⟩ u) :=
  ⟨h.os, h.tape, h.output, by rw [World.size_setCell]; exact h.size, fun k hk hb => (Below.heap_setCell _ _ _ _ (by show k ≠ q; omega)).trans (h.block k hk hb)⟩
theorem Fl.new {b : Nat} {bad : Bool} {w : World} (h : Fl b bad w) (q o : Nat) (hp : b ≠ q) (u : Value) : Fl b bad (w.setCell ⟨q, o, none⟩ u) :=
  ⟨(World.cell?_of_block (w := w) (Below.heap_setCell _ _ _ _ hp)).trans h.cell, by rw [World.frozen?_setCell]; exact h.free, by rw [World.size_setCell]; exact h.lies⟩
theorem bel_new {x w : World} (h : Below x.heap.size x w) (q o : Nat) (hp : x.heap.size ≤ q) (u : Value) : Below x.heap.size x (w.setCell ⟨q, o, none⟩ u) :=
  ⟨h.os, h.tape, h.output, by rw [World.size_setCell]; exact h.size, fun k hk => (Below.heap_setCell _ _ _ _ (by show k ≠ q; omega)).trans (h.block k hk)⟩
theorem bel_al {x w : World} (h : Below x.heap.size x w) (o : Obj) : Below x.heap.size x (w.alloc o) := h.trans ((Below.refl _ _).alloc h.size o)
theorem bel_then {x w w' : World} (h : Below x.heap.size x w) (k : Below w.heap.size w w') : Below x.heap.size x w' := h.trans (k.mono h.size)

/-! ### Rows of cells -/
/-- A row of cells lies at block k. -/
structure Arr (k : Nat) (l : List Value) (w : World) : Prop where
  c : ∀ i, (h : i < l.length) → w.cell? ⟨k, i, none⟩ = some l[i]
  f : ∀ i, i < l.length → w.frozen? ⟨k, i, none⟩ = false
  lies : k < w.heap.size
theorem Arr_at (w : World) (n : Nat) (l : List Value) (t : TypeId) (hn : n = w.heap.size) : Arr n l (w.alloc (.cells l.toArray t)) := by
  subst hn
  refine ⟨fun i h => ?_, fun i h => by simp, by simp⟩
  rw [World.cell?_alloc_new]
  simp [h]
theorem Arr.same {k : Nat} {l : List Value} {w w' : World} (h : Arr k l w) (e : w'.heap[k]? = w.heap[k]?) (hs : w.heap.size ≤ w'.heap.size) : Arr k l w' :=
  ⟨fun i hi => (World.cell?_of_block (w := w) (a := ⟨k, i, none⟩) e).trans (h.c i hi), fun i hi => (World.frozen?_of_block (w := w) (a := ⟨k, i, none⟩) e).trans (h.f i hi), Nat.lt_of_lt_of_le h.lies hs⟩
theorem Arr.kept {k b : Nat} {l : List Value} {w w' : World} (h : Arr k l w) (hb : Kept b w w') (hk : k ≠ b) : Arr k l w' := h.same (hb.block k h.lies hk) hb.size
theorem Arr.below {k : Nat} {l : List Value} {w w' : World} (h : Arr k l w) (hb : Below w.heap.size w w') : Arr k l w' := h.same (hb.block k h.lies) hb.size
theorem Arr.alloc {k : Nat} {l : List Value} {w : World} (h : Arr k l w) (o : Obj) : Arr k l (w.alloc o) := h.below ((Below.refl _ _).alloc (Nat.le_refl _) o)
theorem Arr.drew {k : Nat} {l : List Value} {w : World} (h : Arr k l w) : Arr k l w.drew := ⟨h.c, h.f, h.lies⟩
theorem Arr.new {k : Nat} {l : List Value} {w : World} (h : Arr k l w) (q o : Nat) (hp : k ≠ q) (u : Value) : Arr k l (w.setCell ⟨q, o, none⟩ u) :=
  h.same (Below.heap_setCell _ _ _ _ hp) (by rw [World.size_setCell]; exact Nat.le_refl _)
theorem Arr.put {k : Nat} {l : List Value} {w : World} (h : Arr k l w) (i : Nat) (hi : i < l.length) (u : Value) (l' : List Value) (hl : l' = l.set i u) : Arr k l' (w.setCell ⟨k, i, none⟩ u) := by
  subst hl
  refine ⟨fun j hj => ?_, fun j hj => ?_, by rw [World.size_setCell]; exact h.lies⟩
  · by_cases e : i = j
    · subst e
      rw [World.cell?_setCell_same _ _ _ (h.c i hi)]
      simp
    · rw [World.cell?_setCell_other _ _ _ _ (by intro h; injection h; omega)]
      rw [List.getElem_set_ne e]
      exact h.c j (by simpa using hj)
  · rw [World.frozen?_setCell]; exact h.f j (by simpa using hj)
end Go.Proofs.Ytpceomcnknjiiaa
namespace Go.Proofs.Ytpceomcnknjiiaa
open Go.RowKit

set_option maxHeartbeats 400000 in
theorem cRight_any (t : Int) (w : World) : Calls Try.prog 17 #[.int .i64 t] w fun e w' => e = .returned (.bool (cRight t)) ∧ Below w.heap.size w w' := by
  rcases cRight_cases t with ⟨h0, h1⟩ | hn
  · have H : Hid _ := cRight_in h0 h1
    go_enter Try.func17, Try.ntmps17
    go_wp2
    go_ret
    rw [H.out]
    exact ⟨rfl, Below.refl _ _⟩
  · have H : Hid _ := cRight_out hn
    by_cases c : 0 ≤ t
    · have d : ¬ t ≤ 157766400000 := by omega
      clear hn
      go_enter Try.func17, Try.ntmps17
      go_wp2
      go_ret
      rw [H.out]
      exact ⟨rfl, Below.refl _ _⟩
    · clear hn
      go_enter Try.func17, Try.ntmps17
      go_wp2
      go_ret
      rw [H.out]
      exact ⟨rfl, Below.refl _ _⟩
theorem cRight_yes (t : Int) (w : World) (h0 : 0 ≤ t) (h1 : t ≤ 157766400000) : Calls Try.prog 17 #[.int .i64 t] w fun e w' => e = .returned (.bool true) ∧ Below w.heap.size w w' := by
  have h := cRight_any t w
  rw [cRight_in h0 h1] at h
  exact h
theorem cRight_no (t : Int) (w : World) (hn : ¬ (0 ≤ t ∧ t ≤ 157766400000)) : Calls Try.prog 17 #[.int .i64 t] w fun e w' => e = .returned (.bool false) ∧ Below w.heap.size w w' := by
  have h := cRight_any t w
  rw [cRight_out hn] at h
  exact h
def cDaysY (bad : Bool) (t : Int) : (Int) × Bool := let r2 := partS bad 1099511627776 t 86400000; (r2.1, r2.2)
def cDaysN (_ : Bool) (_ : Int) : (Int) × Bool := (0, true)
theorem cDays_in (bad : Bool) {t : Int} (h0 : 0 ≤ t) (h1 : t ≤ 157766400000) : cDaysY bad t = cDaysS bad t := by
  unfold cDaysY cDaysS; rw [cRight_in h0 h1]; rfl
theorem cDays_out (bad : Bool) {t : Int} (hn : ¬ (0 ≤ t ∧ t ≤ 157766400000)) : cDaysN bad t = cDaysS bad t := by
  unfold cDaysN; rw [cDaysS_out bad hn]
end Go.Proofs.Ytpceomcnknjiiaa
namespace Go.Proofs.Ytpceomcnknjiiaa
open Go.RowKit

structure Stop (p : Prop) : Prop where
  out : p
theorem post_stop {P : Program} {fn : Func} {R : Ending → World → Prop} {e : Exit} {a : Act} {w : World} (h : Stop (bodyPost P fn R e a w)) : bodyPost P fn R e a w := h.out
theorem Arr.range {k : Nat} {l : List Value} {w : World} (A : Arr k l w) : w.rangeAt k 0 l := fun j v hv => by
  obtain ⟨hj, rfl⟩ := List.getElem?_eq_some_iff.1 hv
  rw [Nat.zero_add]
  exact A.c j hj
theorem results_arr {fn : Func} {p : Tmp} {ty : TypeId} (h : fn.results = #[.cell p ty]) {tmps : Array Value} {w : World} {k : Nat} {l : List Value} (A : Arr k l w)
    (hp : tmps.getD p undef = .pointer (some ⟨k, 0, none⟩)) (hd : (Try.prog.underlying ty).any TypeDesc.isRow = true) (hi : (Try.prog.info? ty).map (·.size) = some l.length) :
    (results fn tmps).run Try.prog w = .ok (.agg l.toArray) w := by
  cases hu : Try.prog.underlying ty with
  | none => rw [hu] at hd; cases hd
  | some d =>
    rw [hu] at hd
    have hp' : tmps[p]?.getD undef = .pointer (some ⟨k, 0, none⟩) := by simpa using hp
    simp [results, h, hp', asAddr, run_loadVar_mid w k 0 ty l d A.range hu hd hi]
end Go.Proofs.Ytpceomcnknjiiaa
