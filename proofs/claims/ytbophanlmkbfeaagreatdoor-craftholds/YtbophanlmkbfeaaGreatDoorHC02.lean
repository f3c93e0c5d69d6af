/-
A part.
A part.
A part.
A part.
A part.
-/
import Derived.Handy
import Derived.Deep.RegionHeld3
import Derived.LoopN
import Derived.Orders
import Derived.Test.YtbophanlmkbfeaaGreatDoorHC01
namespace Go.Proofs.YtbophanlmkbfeaaGreatDoor
open Go.RowKit
structure Fl (b : Nat) (bad : Bool) (w : World) : Prop where
 cell : w.cell? ⟨b, 0, none⟩ = some (.bool bad)
 free : w.frozen? ⟨b, 0, none⟩ = false
 lies : b < w.heap.size
structure Kept (b : Nat) (w w' : World) : Prop where
 os : w'.os = w.os
 tape : w'.tape = w.tape
 output : w'.output = w.output
 size : w.heap.size ≤ w'.heap.size
 block : ∀ k, k < w.heap.size → k ≠ b → w'.heap[k]? = w.heap[k]?
theorem Kept.refl (b : Nat) (w : World) : Kept b w w := ⟨rfl, rfl, rfl, Nat.le_refl _, fun _ _ _ => rfl⟩
theorem Kept.trans {b : Nat} {x y z : World} (h : Kept b x y) (k : Kept b y z) : Kept b x z :=
 ⟨k.os.trans h.os, k.tape.trans h.tape, k.output.trans h.output, Nat.le_trans h.size k.size, fun i hi hb => (k.block i (Nat.lt_of_lt_of_le hi h.size) hb).trans (h.block i hi hb)⟩
theorem Kept.of_below {b : Nat} {w w' : World} (h : Below w.heap.size w w') : Kept b w w' := ⟨h.os, h.tape, h.output, h.size, fun k hk _ => h.block k hk⟩
theorem Kept.setCell {b : Nat} {x w : World} (h : Kept b x w) (u : Value) : Kept b x (w.setCell ⟨b, 0, none⟩ u) :=
 h.trans ⟨rfl, rfl, rfl, by simp [World.setCell], fun k _ hb => Below.heap_setCell _ _ _ _ hb⟩
theorem Kept.below {b B : Nat} {x w w' : World} (h : Kept b w w') (hx : Below B x w) (hb : B ≤ b) (hB : B ≤ w.heap.size) : Below B x w' :=
 hx.trans ⟨h.os, h.tape, h.output, h.size, fun k hk => h.block k (by omega) (by omega)⟩
theorem Kept.cell {b : Nat} {w w' : World} (h : Kept b w w') {p : Addr} (hp : p.block < w.heap.size) (hb : p.block ≠ b) : w'.cell? p = w.cell? p := World.cell?_of_block (w := w) (h.block p.block hp hb)
theorem Kept.frozen {b : Nat} {w w' : World} (h : Kept b w w') {p : Addr} (hp : p.block < w.heap.size) (hb : p.block ≠ b) : w'.frozen? p = w.frozen? p := World.frozen?_of_block (w := w) (h.block p.block hp hb)
theorem Fl.below {b : Nat} {bad : Bool} {w w' : World} (h : Fl b bad w) (hb : Below w.heap.size w w') : Fl b bad w' :=
 ⟨(hb.cell (p := ⟨b, 0, none⟩) h.lies).trans h.cell, (hb.frozen (p := ⟨b, 0, none⟩) h.lies).trans h.free, Nat.lt_of_lt_of_le h.lies hb.size⟩
theorem Fl.kept {b c : Nat} {bad : Bool} {w w' : World} (h : Fl b bad w) (hb : Kept c w w') (hc : b ≠ c) : Fl b bad w' :=
 ⟨(hb.cell (p := ⟨b, 0, none⟩) h.lies hc).trans h.cell, (hb.frozen (p := ⟨b, 0, none⟩) h.lies hc).trans h.free, Nat.lt_of_lt_of_le h.lies hb.size⟩
theorem Fl.set {b : Nat} {bad : Bool} {w : World} (h : Fl b bad w) (v : Bool) : Fl b v (w.setCell ⟨b, 0, none⟩ (.bool v)) := by
 refine ⟨World.cell?_setCell_same _ _ _ h.cell, ?_, ?_⟩
 ·rw [World.frozen?_setCell]; exact h.free
 ·rw [World.size_setCell]; exact h.lies
set_option maxHeartbeats 400000 in
theorem Fail_any (b : Nat) (bad : Bool) (w : World) (hw : Fl b bad w) :
    Calls Tryz.prog 90 #[.pointer (some ⟨b, 0, none⟩)] w fun e w' => e = .returned (.tuple #[]) ∧ Fl b true w' ∧ Kept b w w' := by
 have HW : Hid _ := hw
 obtain ⟨hc, hf, hl⟩ := hw
 go_enter Tryz.func90, Tryz.ntmps90
 go_wp2
 go_end0
 exact ⟨rfl, HW.out.set true, (Kept.refl _ _).setCell _⟩
set_option maxHeartbeats 400000 in
theorem signed_any (b : Nat) (n : Int) (minus : Bool) (w : World) (hw : Fl b false w) (h0 : 0 ≤ n) (h1 : n ≤ 18446744073709551615) :
    Calls Tryz.prog 163 #[.pointer (some ⟨b, 0, none⟩), .int .u64 n, .bool minus] w fun e w' => e = .returned (.int .i64 (out n minus).1) ∧ Fl b (out n minus).2 w' ∧ Kept b w w' := by
 show Calls Tryz.prog 163 _ _ fun e w' => e = .returned (.int .i64 (sgnd n minus)) ∧ Fl b (decide (4611686018427387904 < n)) w' ∧ Kept b w w'
 by_cases c : n ≤ 4611686018427387904
 ·have HS : Hid _ := sgnd_in n minus c
  have HC : Hid (decide (4611686018427387904 < n) = false) := by show _ = _; simp; omega
  cases minus
  all_goals
   go_enter Tryz.func163, Tryz.ntmps163
   go_wp2
   go_ret
   rw [HC.out]
   exact ⟨ret_int HS.out, hw, Kept.refl _ _⟩
 ·have HS : Hid _ := sgnd_out n minus c
  have HC : Hid (decide (4611686018427387904 < n) = true) := by show _ = _; simp; omega
  go_enter Tryz.func163, Tryz.ntmps163
  go_wp2_with fail
  refine (Fail_any b false _ hw).mono ?_
  rintro e w1 ⟨rfl, h2, h3⟩
  go_wp2
  go_ret
  rw [HC.out]
  exact ⟨ret_int HS.out, h2, h3⟩
set_option maxHeartbeats 400000 in
theorem gives_any (b : Nat) (n : Int) (w : World) (hw : Fl b false w) :
    Calls Tryz.prog 157 #[.pointer (some ⟨b, 0, none⟩), .int .i64 n] w fun e w' => e = .returned (.int .i64 (gv n).1) ∧ Fl b (gv n).2 w' ∧ Kept b w w' := by
 show Calls Tryz.prog 157 _ _ fun e w' => e = .returned (.int .i64 (if numB n then n else 0)) ∧ Fl b (!numB n) w' ∧ Kept b w w'
 cases c : numB n
 ·go_enter Tryz.func157, Tryz.ntmps157
  go_wp2_with fail
  refine (isNumber_any _ _).mono ?_
  rintro e w1 ⟨rfl, rfl⟩
  rw [c]
  clear c
  go_wp2_with fail
  refine (Fail_any b false _ hw).mono ?_
  rintro e w1 ⟨rfl, h2, h3⟩
  go_wp2
  go_ret
  exact ⟨rfl, h2, h3⟩
 ·go_enter Tryz.func157, Tryz.ntmps157
  go_wp2_with fail
  refine (isNumber_any _ _).mono ?_
  rintro e w1 ⟨rfl, rfl⟩
  rw [c]
  clear c
  go_wp2
  go_ret
  exact ⟨rfl, hw, Kept.refl _ _⟩
def Ints (s : Nat) (zs : List Int) (w : World) : Prop := ∀ i, (h : i < zs.length) → w.cell? ⟨s, i, none⟩ = some (.int .i64 zs[i])
theorem all_take_succ {zs : List Int} {k : Nat} (h : k < zs.length) : (zs.take (k + 1)).all numB = ((zs.take k).all numB && numB zs[k]) := by
 rw [List.take_succ_eq_append_getElem h, List.all_append]; simp only [List.all_cons, List.all_nil, Bool.and_true]
theorem all_of_not {zs : List Int} {k : Nat} (h : k < zs.length) (c : numB zs[k] = false) : zs.all numB = false := by
 rw [Bool.eq_false_iff]
 intro ha
 rw [List.all_eq_true] at ha
 have := ha _ (List.getElem_mem h)
 rw [c] at this
 cases this
set_option maxHeartbeats 400000 in
theorem takes_any (b s : Nat) (bad : Bool) (zs : List Int) (w : World) (hw : Fl b bad w) (hz : Ints s zs w) (hlen : zs.length ≤ 3) :
    Calls Tryz.prog 156 #[.pointer (some ⟨b, 0, none⟩), .slice (some ⟨s, 0, none⟩) zs.length zs.length] w fun e w' => e = .returned (.bool (tk bad zs)) ∧ Fl b (!tk bad zs) w' ∧ Kept b w w' := by
 rw [← tk_not bad zs]
 unfold tk
 have HW : Hid _ := hw
 have HZ : Hid _ := hz
 obtain ⟨hc, hf, hl⟩ := hw
 clear hz
 cases bad
 ·go_enter Tryz.func156, Tryz.ntmps156
  go_wp2
  go_loop [17] (fun v => ∃ k : Nat, k ≤ zs.length ∧ v = .int .i64 k ∧ Hid ((zs.take k).all numB = true)) (fun v => zs.length - (intOf v).toNat)
  case atStart => exact ⟨0, Nat.zero_le _, rfl, by show _ = _; simp⟩
  case round =>
   obtain ⟨k, hk, rfl, HA⟩ := hrel
   by_cases hlt : k < zs.length
   ·have hcell := HZ.out k hlt
    have HS : Hid _ := all_take_succ hlt
    have HN : numB zs[k] = false → zs.all numB = false := all_of_not hlt
    have HN' : Hid _ := HN
    clear HN
    generalize zs[k] = z at *
    cases c : numB z
    ·have HC : Hid _ := HN'.out c
     have HC2 : Hid _ := c
     clear c
     go_wp2_with fail
     refine (isNumber_any _ _).mono ?_
     rintro e w1 ⟨rfl, rfl⟩
     rw [HC2.out]
     go_wp2_with fail
     refine (Fail_any b false _ HW.out).mono ?_
     rintro e w1 ⟨rfl, h2, h3⟩
     go_wp2
     go_ret
     rw [HC.out]
     exact ⟨rfl, h2, h3⟩
    ·have HC2 : Hid _ := c
     clear c
     go_wp2_with fail
     refine (isNumber_any _ _).mono ?_
     rintro e w1 ⟨rfl, rfl⟩
     rw [HC2.out]
     go_wp2
     go_round
     case rel => exact ⟨k + 1, by omega, by go_num, by show _ = _; rw [HS.out, HA.out, HC2.out]; rfl⟩
     case measure => simp [intOf]; omega
   ·go_wp2
    go_ret
    have ha : zs.all numB = true := by have := HA.out; rwa [List.take_of_length_le (by omega)] at this
    rw [ha]
    exact ⟨rfl, HW.out, Kept.refl _ _⟩
 ·go_enter Tryz.func156, Tryz.ntmps156
  go_wp2
  go_ret
  exact ⟨rfl, HW.out, Kept.refl _ _⟩
theorem Ints_two (x y : Int) (w : World) : Ints w.heap.size [x, y] (w.alloc (.cells #[.int .i64 x, .int .i64 y] 2)) := by
 intro i h
 rw [World.cell?_alloc_new]
 match i, h with
 | 0, _ => rfl
 | 1, _ => rfl
theorem Ints_one (x : Int) (w : World) : Ints w.heap.size [x] (w.alloc (.cells #[.int .i64 x] 2)) := by
 intro i h
 rw [World.cell?_alloc_new]
 match i, h with
 | 0, _ => rfl
theorem Ints_three (x y z : Int) (w : World) : Ints w.heap.size [x, y, z] (w.alloc (.cells #[.int .i64 x, .int .i64 y, .int .i64 z] 2)) := by
 intro i h
 rw [World.cell?_alloc_new]
 match i, h with
 | 0, _ => rfl
 | 1, _ => rfl
 | 2, _ => rfl
theorem Kept.alloc (b : Nat) (w : World) (o : Obj) : Kept b w (w.alloc o) := Kept.of_below ((Below.refl _ _).alloc (Nat.le_refl _) o)
theorem Fl.alloc {b : Nat} {bad : Bool} {w : World} (h : Fl b bad w) (o : Obj) : Fl b bad (w.alloc o) := h.below ((Below.refl _ _).alloc (Nat.le_refl _) o)
theorem takes1 (b : Nat) (bad : Bool) (x : Int) (w : World) (hw : Fl b bad w) :
    Calls Tryz.prog 156 #[.pointer (some ⟨b, 0, none⟩), .slice (some ⟨w.heap.size, 0, none⟩) 1 1] (w.alloc (.cells #[.int .i64 x] 2)) fun e w' => e = .returned (.bool (tk bad [x])) ∧ Fl b (!tk bad [x]) w' ∧ Kept b w w' :=
 (takes_any b w.heap.size bad [x] _ (hw.alloc _) (Ints_one x w) (by simp)).mono fun _ _ h => ⟨h.1, h.2.1, (Kept.alloc b w _).trans h.2.2⟩
theorem takes2 (b : Nat) (bad : Bool) (x y : Int) (w : World) (hw : Fl b bad w) :
    Calls Tryz.prog 156 #[.pointer (some ⟨b, 0, none⟩), .slice (some ⟨w.heap.size, 0, none⟩) 2 2] (w.alloc (.cells #[.int .i64 x, .int .i64 y] 2)) fun e w' => e = .returned (.bool (tk bad [x, y])) ∧ Fl b (!tk bad [x, y]) w' ∧ Kept b w w' :=
 (takes_any b w.heap.size bad [x, y] _ (hw.alloc _) (Ints_two x y w) (by simp)).mono fun _ _ h => ⟨h.1, h.2.1, (Kept.alloc b w _).trans h.2.2⟩
theorem takes3 (b : Nat) (bad : Bool) (x y z : Int) (w : World) (hw : Fl b bad w) :
    Calls Tryz.prog 156 #[.pointer (some ⟨b, 0, none⟩), .slice (some ⟨w.heap.size, 0, none⟩) 3 3] (w.alloc (.cells #[.int .i64 x, .int .i64 y, .int .i64 z] 2)) fun e w' => e = .returned (.bool (tk bad [x, y, z])) ∧ Fl b (!tk bad [x, y, z]) w' ∧ Kept b w w' :=
 (takes_any b w.heap.size bad [x, y, z] _ (hw.alloc _) (Ints_three x y z w) (by simp)).mono fun _ _ h => ⟨h.1, h.2.1, (Kept.alloc b w _).trans h.2.2⟩
end Go.Proofs.YtbophanlmkbfeaaGreatDoor
namespace Go.Proofs.YtbophanlmkbfeaaGreatDoor
open Go.RowKit
theorem take_at {P : Program} {md : Region.Mode} {l : List Oper} {Q : Exit → Act → World → Prop} {S : World → Prop} {i : Nat} {oi : Oper} {v : Value} {fuel : Nat} {listed : Array Bool} {a : Act} {w : World} (hi : l[i]? = some oi)
    (hs : Region.noSelect l.toArray = true) (hf : Region.free md l.toArray listed i = true) (hr : (Region.ready md l.toArray listed).contains i = true)
    (hQ : ∀ c a w, Q (.panic c) (a.put oi.dst v) w → Q (.panic c) a w) (hy : YieldsIf P l.toArray S oi v a) (hS : S w)
    (h : wpAnyH P md l.toArray Q S fuel (listed.setIfInBounds i true) (a.put oi.dst v) w) : wpAnyH P md l.toArray Q S (fuel + 1) listed a w :=
 wpAnyH_take (ops := l.toArray) (by simpa using hi) hs hf hr hQ hy hS h
theorem zT {P : Program} {md : Region.Mode} {l : List Oper} {Q : Exit → Act → World → Prop} {S : World → Prop} (i : Nat) {oi : Oper} {v : Value} {fuel : Nat} {listed : Array Bool} {a : Act} {w : World} (hi : l[i]? = some oi)
    (hb : (Region.noSelect l.toArray && (Region.free md l.toArray listed i && (Region.ready md l.toArray listed).contains i)) = true)
    (hQ : ∀ c a w, Q (.panic c) (a.put oi.dst v) w → Q (.panic c) a w) (hw : Region.wanted oi (yielded l.toArray a.tmps) = true) (hy : ∀ w, S w → (execOp a.eval oi).run P w = .ok (.value v) w) (hS : S w)
    (h : wpAnyH P md l.toArray Q S fuel (listed.setIfInBounds i true) (a.put oi.dst v) w) : wpAnyH P md l.toArray Q S (fuel + 1) listed a w := by
 rw [Bool.and_eq_true, Bool.and_eq_true] at hb
 exact take_at hi hb.1 hb.2.1 hb.2.2 hQ (Or.inl ⟨hw, hy⟩) hS h
theorem call_at {P : Program} {md : Region.Mode} {l : List Oper} {Q : Exit → Act → World → Prop} {S : World → Prop} {i : Nat} {o : Oper} {fuel : Nat} {listed : Array Bool} {a : Act} {w : World} (hr : Region.ready md l.toArray listed = [i]) (hi : l[i]? = some o)
    (h : ∀ K' : Act → World → Prop, Shut (∀ a w, S w → (S w → wpAnyH P md l.toArray Q S fuel (listed.setIfInBounds i true) a w) → K' a w) → if Region.wanted o (yielded l.toArray a.tmps) = true then Oper.wp P o a w K' Q else K' (a.put o.dst undef) w) :
    wpAnyH P md l.toArray Q S (fuel + 1) listed a w :=
 wpAnyH_ready hr (by simp) (AllReadyH.cons (by simpa using hi) h AllReadyH.nil)
theorem zK {P : Program} {md : Region.Mode} {l : List Oper} {Q : Exit → Act → World → Prop} {S : World → Prop} (i : Nat) {o : Oper} {fuel : Nat} {listed : Array Bool} {a : Act} {w : World} (hr : Region.ready md l.toArray listed = [i]) (hi : l[i]? = some o)
    (h : ∀ K' : Act → World → Prop, Shut (∀ a w, S w → (S w → wpAnyH P md l.toArray Q S fuel (listed.setIfInBounds i true) a w) → K' a w) → if Region.wanted o (yielded l.toArray a.tmps) = true then Oper.wp P o a w K' Q else K' (a.put o.dst undef) w) :
    wpAnyH P md l.toArray Q S (fuel + 1) listed a w := call_at hr hi h
theorem Fl_new (w : World) (bad : Bool) (t : TypeId) : Fl w.heap.size bad (w.alloc (.cells #[.bool bad] t)) :=
 ⟨by simp, by simp, by simp⟩
theorem Fl_at (w : World) (n : Nat) (bad : Bool) (t : TypeId) (hn : n = w.heap.size) : Fl n bad (w.alloc (.cells #[.bool bad] t)) := by
 subst hn; exact Fl_new w bad t
theorem Kept.on {b : Nat} {x w w' : World} (h : Kept b w w') (hx : Below x.heap.size x w) (hb : x.heap.size ≤ b) : Below x.heap.size x w' := h.below hx hb hx.size
theorem Fl.drew {b : Nat} {bad : Bool} {w : World} (h : Fl b bad w) : Fl b bad w.drew := ⟨h.cell, h.free, h.lies⟩
theorem Kept.drew {b : Nat} {x w : World} (h : Kept b x w) : Kept b x w.drew := ⟨h.os, h.tape, h.output, h.size, h.block⟩
theorem Kept.al {b : Nat} {x w : World} (h : Kept b x w) (o : Obj) : Kept b x (w.alloc o) := h.trans (Kept.alloc b w o)
theorem Kept.new {b : Nat} {x w : World} (h : Kept b x w) (q o : Nat) (hp : x.heap.size ≤ q) (u : Value) : Kept b x (w.setCell ⟨q, o, none⟩ u) :=
 ⟨h.os, h.tape, h.output, by rw [World.size_setCell]; exact h.size, fun k hk hb => (Below.heap_setCell _ _ _ _ (by show k ≠ q; omega)).trans (h.block k hk hb)⟩
theorem Fl.new {b : Nat} {bad : Bool} {w : World} (h : Fl b bad w) (q o : Nat) (hp : b ≠ q) (u : Value) : Fl b bad (w.setCell ⟨q, o, none⟩ u) :=
 ⟨(World.cell?_of_block (w := w) (Below.heap_setCell _ _ _ _ hp)).trans h.cell, by rw [World.frozen?_setCell]; exact h.free, by rw [World.size_setCell]; exact h.lies⟩
theorem bel_new {x w : World} (h : Below x.heap.size x w) (q o : Nat) (hp : x.heap.size ≤ q) (u : Value) : Below x.heap.size x (w.setCell ⟨q, o, none⟩ u) :=
 ⟨h.os, h.tape, h.output, by rw [World.size_setCell]; exact h.size, fun k hk => (Below.heap_setCell _ _ _ _ (by show k ≠ q; omega)).trans (h.block k hk)⟩
theorem bel_al {x w : World} (h : Below x.heap.size x w) (o : Obj) : Below x.heap.size x (w.alloc o) := h.trans ((Below.refl _ _).alloc h.size o)
theorem bel_then {x w w' : World} (h : Below x.heap.size x w) (k : Below w.heap.size w w') : Below x.heap.size x w' := h.trans (k.mono h.size)
structure Arr (k : Nat) (l : List Value) (w : World) : Prop where
 c : ∀ i, (h : i < l.length) → w.cell? ⟨k, i, none⟩ = some l[i]
 f : ∀ i, i < l.length → w.frozen? ⟨k, i, none⟩ = false
 lies : k < w.heap.size
theorem Arr_at (w : World) (n : Nat) (l : List Value) (t : TypeId) (hn : n = w.heap.size) : Arr n l (w.alloc (.cells l.toArray t)) := by
 subst hn
 refine ⟨fun i h => ?_, fun i h => by simp, by simp⟩
 rw [World.cell?_alloc_new]
 simp [h]
theorem Arr.same {k : Nat} {l : List Value} {w w' : World} (h : Arr k l w) (e : w'.heap[k]? = w.heap[k]?) (hs : w.heap.size ≤ w'.heap.size) : Arr k l w' :=
 ⟨fun i hi => (World.cell?_of_block (w := w) (a := ⟨k, i, none⟩) e).trans (h.c i hi), fun i hi => (World.frozen?_of_block (w := w) (a := ⟨k, i, none⟩) e).trans (h.f i hi), Nat.lt_of_lt_of_le h.lies hs⟩
theorem Arr.kept {k b : Nat} {l : List Value} {w w' : World} (h : Arr k l w) (hb : Kept b w w') (hk : k ≠ b) : Arr k l w' := h.same (hb.block k h.lies hk) hb.size
theorem Arr.below {k : Nat} {l : List Value} {w w' : World} (h : Arr k l w) (hb : Below w.heap.size w w') : Arr k l w' := h.same (hb.block k h.lies) hb.size
theorem Arr.alloc {k : Nat} {l : List Value} {w : World} (h : Arr k l w) (o : Obj) : Arr k l (w.alloc o) := h.below ((Below.refl _ _).alloc (Nat.le_refl _) o)
theorem Arr.drew {k : Nat} {l : List Value} {w : World} (h : Arr k l w) : Arr k l w.drew := ⟨h.c, h.f, h.lies⟩
theorem Arr.new {k : Nat} {l : List Value} {w : World} (h : Arr k l w) (q o : Nat) (hp : k ≠ q) (u : Value) : Arr k l (w.setCell ⟨q, o, none⟩ u) :=
 h.same (Below.heap_setCell _ _ _ _ hp) (by rw [World.size_setCell]; exact Nat.le_refl _)
theorem Arr.put {k : Nat} {l : List Value} {w : World} (h : Arr k l w) (i : Nat) (hi : i < l.length) (u : Value) (l' : List Value) (hl : l' = l.set i u) : Arr k l' (w.setCell ⟨k, i, none⟩ u) := by
 subst hl
 refine ⟨fun j hj => ?_, fun j hj => ?_, by rw [World.size_setCell]; exact h.lies⟩
 ·by_cases e : i = j
  ·subst e
   rw [World.cell?_setCell_same _ _ _ (h.c i hi)]
   simp
  ·rw [World.cell?_setCell_other _ _ _ _ (by intro h; injection h; omega)]
   rw [List.getElem_set_ne e]
   exact h.c j (by simpa using hj)
 ·rw [World.frozen?_setCell]; exact h.f j (by simpa using hj)
def row (N : Nat) (g : Nat → Int) : List Value := (List.range N).map fun i => .int .i64 (g i)
theorem row_len (N : Nat) (g : Nat → Int) : (row N g).length = N := by unfold row; simp
theorem row_get {N i : Nat} {g : Nat → Int} (h : i < (row N g).length) : (row N g)[i] = .int .i64 (g i) := by
 have h' : i < N := by rw [row_len] at h; exact h
 show ((List.range N).map fun i => Value.int .i64 (g i))[i]'(by simpa using h') = _
 simp
theorem row_c {k N : Nat} {g : Nat → Int} {w : World} (A : Arr k (row N g) w) (i : Nat) (h : i < N) : w.cell? ⟨k, i, none⟩ = some (.int .i64 (g i)) := by
 have := A.c i (by rw [row_len]; exact h)
 rw [row_get] at this
 exact this
theorem row_f {k N : Nat} {g : Nat → Int} {w : World} (A : Arr k (row N g) w) (i : Nat) (h : i < N) : w.frozen? ⟨k, i, none⟩ = false := A.f i (by rw [row_len]; exact h)
def updF (g : Nat → Int) (i : Nat) (v : Int) : Nat → Int := fun j => if j = i then v else g j
theorem row_set {N i : Nat} {g : Nat → Int} {v : Int} : (row N g).set i (.int .i64 v) = row N (updF g i v) := by
 apply List.ext_getElem
 ·simp [row_len]
 ·intro j h1 h2
  rw [List.getElem_set, show (row N (updF g i v))[j] = .int .i64 (updF g i v j) from row_get h2]
  by_cases c : i = j
  ·rw [if_pos c, show updF g i v j = v from if_pos c.symm]
  ·rw [if_neg c, show updF g i v j = g j from if_neg (fun h => c h.symm), row_get]
theorem row_put {k N : Nat} {g : Nat → Int} {w : World} (A : Arr k (row N g) w) (i : Nat) (h : i < N) (v : Int) : Arr k (row N (updF g i v)) (w.setCell ⟨k, i, none⟩ (.int .i64 v)) :=
 A.put i (by rw [row_len]; exact h) (.int .i64 v) _ row_set.symm
end Go.Proofs.YtbophanlmkbfeaaGreatDoor
namespace Go.Proofs.YtbophanlmkbfeaaGreatDoor
def at0L : List Int := [-293500, 0, -14103, 45455, -25562, 0, 29509, -31336, 16487, -8142, 13609, 0, -24042, -569, 12438, 2376, 4534, -5496, 8947, 0, 7996, 2786, 558, -1340, -2811, 2120, 120, -3754, -2329, 0, 3690, 453, 1872, 2200, -1387, -1229, -1419, 429, 209, 1062, 643, 0, 638, -184, 767, 168, -1157, 489, -409, -598, 149, 109, -608, 728]
def yr0L : List Int := [126, 0, 100, -215, -112, 0, -53, -273, -83, -111]
def at0 (i : Nat) : Int := at0L.getD i 0
def yr0 (i : Nat) : Int := yr0L.getD i 0
def nIdx (n m : Nat) : Nat := n * (n + 1) / 2 - 1 + m
end Go.Proofs.YtbophanlmkbfeaaGreatDoor
namespace Go.Proofs.YtbophanlmkbfeaaGreatDoor
open Go.RowKit
abbrev Bl := List (Option Nat)
abbrev Xm := List (List Value)
def isP : Value → Bool
 | .pointer (some _) => true
 | .nilIface => true
 | .slice (some _) _ _ => true
 | _ => false
def asB : Value → Option Bool
 | .bool b => some b
 | _ => none
def RV (bl : Bl) (v v' : Value) : Prop :=
 match v with
 | .pointer (some a) => ∃ B, bl[a.block]? = some (some B) ∧ v' = .pointer (some { a with block := B })
 | .nilIface => asB v' = none
 | .slice (some a) n c => ∃ B, bl[a.block]? = some (some B) ∧ v' = .slice (some { a with block := B }) n c
 | v => v' = v
theorem RV.plain {bl : Bl} {v v' : Value} (h : RV bl v v') (hp : isP v = false) : v' = v := by
 match v, h, hp with
 | .pointer none, h, _ => exact h
 | .bool _, h, _ => exact h
 | .int _ _, h, _ => exact h
 | .float _ _, h, _ => exact h
 | .complex _ _ _, h, _ => exact h
 | .string _, h, _ => exact h
 | .slice none _ _, h, _ => exact h
 | .map _, h, _ => exact h
 | .chan _, h, _ => exact h
 | .func _ _ _, h, _ => exact h
 | .nilFunc, h, _ => exact h
 | .iface _ _, h, _ => exact h
 | .agg _, h, _ => exact h
 | .tuple _, h, _ => exact h
theorem RV.same {bl : Bl} {v : Value} (hp : isP v = false) : RV bl v v := by
 match v, hp with
 | .pointer none, _ => rfl
 | .bool _, _ => rfl
 | .int _ _, _ => rfl
 | .float _ _, _ => rfl
 | .complex _ _ _, _ => rfl
 | .string _, _ => rfl
 | .slice none _ _, _ => rfl
 | .map _, _ => rfl
 | .chan _, _ => rfl
 | .func _ _ _, _ => rfl
 | .nilFunc, _ => rfl
 | .iface _ _, _ => rfl
 | .agg _, _ => rfl
 | .tuple _, _ => rfl
def Le (bl bl' : Bl) : Prop := ∀ (k B : Nat), bl[k]? = some (some B) → bl'[k]? = some (some B)
theorem Le.refl (bl : Bl) : Le bl bl := fun _ _ h => h
theorem Le.trans {a b c : Bl} (h : Le a b) (k : Le b c) : Le a c := fun i B e => k i B (h i B e)
theorem RV.mono {bl bl' : Bl} {v v' : Value} (h : RV bl v v') (hl : Le bl bl') : RV bl' v v' := by
 cases hp : isP v
 ·rw [h.plain hp]; exact .same hp
 ·match v, h, hp with
  | .pointer (some a), ⟨B, h1, h2⟩, _ => exact ⟨B, hl _ _ h1, h2⟩
  | .nilIface, h, _ => exact h
  | .slice (some a) _ _, ⟨B, h1, h2⟩, _ => exact ⟨B, hl _ _ h1, h2⟩
structure FR (bl : Bl) (vt : List Value) (tm : Array Value) : Prop where
 len : tm.size = vt.length
 rv : ∀ t, RV bl (vt.getD t undef) (tm.getD t undef)
theorem FR.mono {bl bl' : Bl} {vt : List Value} {tm : Array Value} (h : FR bl vt tm) (hl : Le bl bl') : FR bl' vt tm := ⟨h.len, fun t => (h.rv t).mono hl⟩
def VE (vt : List Value) : Operand → Value
 | .tmp t => vt.getD t undef
 | .const v => v
 | .global _ => undef
 | .func f => .func (.func f) #[] #[]
def okX : Operand → Bool
 | .const v => !isP v
 | .global _ => false
 | _ => true
theorem FR.eval {bl : Bl} {vt : List Value} {a : Act} (h : FR bl vt a.tmps) {x : Operand} (hx : okX x = true) : RV bl (VE vt x) (a.eval x) := by
 match x, hx with
 | .tmp t, _ => exact h.rv t
 | .const v, hx =>
  simp only [okX, Bool.not_eq_true'] at hx
  exact .same hx
 | .global g, hx => cases hx
 | .func f, _ => rfl
def vput (vt : List Value) (dst : Option Tmp) (v : Value) : List Value :=
 match dst with
 | some d => vt.set d v
 | none => vt
theorem FR.set {bl : Bl} {vt : List Value} {tm : Array Value} (h : FR bl vt tm) {v v' : Value} (hv : RV bl v v') (d : Nat) : FR bl (vt.set d v) (tm.setIfInBounds d v') := by
 refine ⟨by simp [h.len], fun t => ?_⟩
 have hl := h.len
 by_cases e : d = t
 ·subst e
  by_cases hd : d < vt.length
  ·simp only [List.getD_eq_getElem?_getD, Array.getD_eq_getD_getElem?]
   rw [List.getElem?_set_self hd, Array.getElem?_setIfInBounds_self_of_lt (by omega)]
   exact hv
  ·simp only [List.getD_eq_getElem?_getD, Array.getD_eq_getD_getElem?]
   rw [List.getElem?_eq_none (by rw [List.length_set]; omega), Array.getElem?_eq_none (by rw [Array.size_setIfInBounds]; omega)]
   rfl
 ·have h1 := h.rv t
  simp only [List.getD_eq_getElem?_getD, Array.getD_eq_getD_getElem?] at h1 ⊢
  rw [List.getElem?_set_ne e, Array.getElem?_setIfInBounds_ne e]
  exact h1
theorem FR.put {bl : Bl} {vt : List Value} {a : Act} (h : FR bl vt a.tmps) {v v' : Value} (hv : RV bl v v') (dst : Option Tmp) : FR bl (vput vt dst v) (a.put dst v').tmps := by
 cases dst with
 | none => exact h
 | some d => exact h.set hv d
def GW (w : World) : Prop := Arr 0 (row 54 at0) w ∧ Arr 1 (row 10 yr0) w
theorem GW.same {w w' : World} (h : GW w) (h0 : w'.heap[0]? = w.heap[0]?) (h1 : w'.heap[1]? = w.heap[1]?) (hs : w.heap.size ≤ w'.heap.size) : GW w' := ⟨h.1.same h0 hs, h.2.same h1 hs⟩
theorem GW.kept {w w' : World} (h : GW w) {b : Nat} (hb : 1 < b) (k : Kept b w w') : GW w' := h.same (k.block 0 h.1.lies (by omega)) (k.block 1 h.2.lies (by omega)) k.size
theorem GW.below {w w' : World} (h : GW w) (k : Below w.heap.size w w') : GW w' := h.same (k.block 0 h.1.lies) (k.block 1 h.2.lies) k.size
structure RW (bs : List Nat) (w0 : World) (bl : Bl) (m : Xm) (w : World) : Prop where
 arr : ∀ (k B : Nat), bl[k]? = some (some B) → ∃ l, m[k]? = some l ∧ Arr B l w
 inj : ∀ (i j B : Nat), bl[i]? = some (some B) → bl[j]? = some (some B) → i = j
 own : ∀ (k B : Nat), bl[k]? = some (some B) → B ∈ bs ∨ w0.heap.size ≤ B ∨ m[k]? = some []
 os : w.os = w0.os
 tape : w.tape = w0.tape
 output : w.output = w0.output
 size : w0.heap.size ≤ w.heap.size
 block : ∀ i : Nat, i < w0.heap.size → i ∉ bs → w.heap[i]? = w0.heap[i]?
 gw : GW w0 ∧ ∀ b ∈ bs, 1 < b
theorem RW.gt {bs : List Nat} {w0 : World} {bl : Bl} {m : Xm} {w : World} (h : RW bs w0 bl m w) {k B : Nat} (hk : bl[k]? = some (some B)) {l : List Value} (hm : m[k]? = some l) (hl : l ≠ []) : 1 < B := by
 rcases h.own k B hk with h1 | h1 | h1
 ·exact h.gw.2 B h1
 ·have := h.gw.1.2.lies
  omega
 ·rw [hm] at h1
  exact absurd (Option.some.inj h1) hl
theorem none_set {m : Xm} {k k' : Nat} {l : List Value} (h : m[k']? = some []) (hl : k = k' → l = []) : (m.set k l)[k']? = some [] := by
 by_cases e : k = k'
 ·subst e
  rw [List.getElem?_set_self (List.getElem?_eq_some_iff.1 h).1, hl rfl]
 ·rw [List.getElem?_set_ne e]
  exact h
theorem RW.gwAt {bs : List Nat} {w0 : World} {bl : Bl} {m : Xm} {w : World} (h : RW bs w0 bl m w) : GW w :=
 h.gw.1.same (h.block 0 h.gw.1.1.lies (fun e => by have := h.gw.2 0 e; omega)) (h.block 1 h.gw.1.2.lies (fun e => by have := h.gw.2 1 e; omega)) h.size
theorem RW.drew {bs : List Nat} {w0 : World} {bl : Bl} {m : Xm} {w : World} (h : RW bs w0 bl m w) : RW bs w0 bl m { w with drawn := w.drawn + 1 } :=
 ⟨fun k B hk => let ⟨l, h1, h2⟩ := h.arr k B hk; ⟨l, h1, h2.drew⟩, h.inj, h.own, h.os, h.tape, h.output, h.size, h.block, h.gw⟩
def qrun (P : Program) {α : Type} : Sem α → Option α
 | .pure a => some a
 | .program k => qrun P (k P)
 | .mark _ k => qrun P k
 | _ => none
theorem qrun_run {P : Program} {α : Type} {a : α} (s : Sem α) (h : qrun P s = some a) (w : World) : s.run P w = .ok a w := by
 induction s with
 | pure x => simp only [qrun, Option.some.injEq] at h; rw [h]; rfl
 | program k ih => exact ih P h
 | mark m k ih => exact ih h
 | _ => cases h
theorem add_is (B o n : Nat) : ((⟨B, o, none⟩ : Addr).add n) = ⟨B, o + n, none⟩ := by
 unfold Addr.add
 split
 ·rename_i h; subst h; rfl
 ·rfl
theorem loadCells_run {P : Program} {B : Nat} {l : List Value} {w : World} (A : Arr B l w) (o : Nat) : ∀ (n i : Nat) (acc : Array Value), o + i + n ≤ l.length →
    (loadCellsFrom ⟨B, o, none⟩ i n acc).run P w = .ok (acc ++ ((l.drop (o + i)).take n).toArray) w
 | 0, i, acc, _ => by simp [loadCellsFrom]
 | n + 1, i, acc, h => by
  have hc := A.c (o + i) (by omega)
  have hd : l.drop (o + i) = l[o + i]'(by omega) :: l.drop (o + i + 1) := List.drop_eq_getElem_cons (by omega)
  simp only [loadCellsFrom, Sem.run_bind, load, Sem.run, add_is, hc, Result.andThen_ok]
  rw [loadCells_run A o n (i + 1) _ (by omega), hd, List.take_succ_cons]
  simp [Nat.add_assoc]
def loadV (P : Program) (t : TypeId) (l : List Value) (off : Nat) : Option Value :=
 match qrun P (isAgg t) with
 | some true =>
  match qrun P (sizeOf t) with
  | some n => if off + n ≤ l.length then some (.agg ((l.drop off).take n).toArray) else none
  | none => none
 | some false => l[off]?
 | none => none
theorem loadV_run {P : Program} {t : TypeId} {l : List Value} {off : Nat} {v : Value} {B : Nat} {w : World} (h : loadV P t l off = some v) (A : Arr B l w) : (loadVar t ⟨B, off, none⟩).run P w = .ok v w := by
 unfold loadV at h
 unfold loadVar
 cases h1 : qrun P (isAgg t) with
 | none => rw [h1] at h; cases h
 | some b =>
  rw [h1] at h
  have r1 := qrun_run _ h1 w
  cases b with
  | true =>
   cases h2 : qrun P (sizeOf t) with
   | none => rw [h2] at h; cases h
   | some n =>
    rw [h2] at h
    have r2 := qrun_run _ h2 w
    dsimp only at h
    split at h
    ·rename_i hl
     have r3 := loadCells_run (P := P) A off n 0 #[] hl
     simp only [Sem.run_bind, r1, Result.andThen_ok, if_true, r2, loadCells, r3]
     rw [← Option.some.inj h]
     simp
    ·cases h
  | false =>
   simp only [Sem.run_bind, r1, Result.andThen_ok]
   dsimp only at h
   obtain ⟨hl, rfl⟩ := List.getElem?_eq_some_iff.1 h
   simp [load, Sem.run, A.c off hl]
end Go.Proofs.YtbophanlmkbfeaaGreatDoor
namespace Go.Proofs.YtbophanlmkbfeaaGreatDoor
open Go.RowKit
def cellOk : Value → Bool
 | .agg _ => false
 | .tuple _ => false
 | .pointer (some _) => false
 | _ => true
def setAt : List Value → Nat → List Value → List Value
 | l, _, [] => l
 | l, o, x :: xs => setAt (l.set o x) (o + 1) xs
def wset : World → Nat → Nat → List Value → World
 | w, _, _, [] => w
 | w, B, o, x :: xs => wset (w.setCell ⟨B, o, none⟩ x) B (o + 1) xs
theorem wset_arr {B : Nat} : ∀ (vs : List Value) (l : List Value) (o : Nat) (w : World), Arr B l w → o + vs.length ≤ l.length → Arr B (setAt l o vs) (wset w B o vs)
 | [], _, _, _, A, _ => A
 | x :: xs, l, o, w, A, h => by
  have h : o + (xs.length + 1) ≤ l.length := h
  exact wset_arr xs (l.set o x) (o + 1) _ (A.put o (by omega) x _ rfl) (by rw [List.length_set]; omega)
theorem wset_block {B i : Nat} (hi : i ≠ B) : ∀ (vs : List Value) (o : Nat) (w : World), (wset w B o vs).heap[i]? = w.heap[i]?
 | [], _, _ => rfl
 | _ :: xs, o, _ => (wset_block hi xs (o + 1) _).trans (Below.heap_setCell _ _ _ _ hi)
theorem wset_size {B : Nat} : ∀ (vs : List Value) (o : Nat) (w : World), (wset w B o vs).heap.size = w.heap.size
 | [], _, _ => rfl
 | _ :: xs, o, _ => (wset_size xs (o + 1) _).trans (World.size_setCell _ _ _)
theorem wset_os {B : Nat} : ∀ (vs : List Value) (o : Nat) (w : World), (wset w B o vs).os = w.os ∧ (wset w B o vs).tape = w.tape ∧ (wset w B o vs).output = w.output
 | [], _, _ => ⟨rfl, rfl, rfl⟩
 | x :: xs, o, w => wset_os xs (o + 1) (w.setCell ⟨B, o, none⟩ x)
theorem storeCells_run {P : Program} {B o : Nat} : ∀ (vs : List Value) (l : List Value) (i : Nat) (w : World), Arr B l w → vs.all cellOk = true → o + i + vs.length ≤ l.length →
    (storeCells ⟨B, o, none⟩ vs i).run P w = .ok () (wset w B (o + i) vs)
 | [], _, i, w, _, _, _ => rfl
 | x :: xs, l, i, w, A, hx, h => by
  have h : o + i + (xs.length + 1) ≤ l.length := h
  simp only [List.all_cons, Bool.and_eq_true] at hx
  have hc := A.c (o + i) (by omega)
  have hf := A.f (o + i) (by omega)
  have ih := storeCells_run (P := P) (o := o) xs (l.set (o + i) x) (i + 1) (w.setCell ⟨B, o + i, none⟩ x) (A.put (o + i) (by omega) x _ rfl) hx.2 (by rw [List.length_set]; omega)
  have hs : (store ((⟨B, o, none⟩ : Addr).add i) x).run P w = .ok () (w.setCell ⟨B, o + i, none⟩ x) := by
   rw [add_is]
   have hx1 := hx.1
   unfold store
   cases x <;> first | (simp [cellOk] at hx1; done) | simp [Sem.run, hc, hf]
  simp only [storeCells, Sem.run_bind, hs, Result.andThen_ok]
  rw [ih]
  rfl
def storeV (P : Program) (t : TypeId) (l : List Value) (off : Nat) (v : Value) : Option (List Value) :=
 match qrun P (sizeOf t) with
 | some n => if v.cells.size == n && decide (off + v.cells.toList.length ≤ l.length) && v.cells.toList.all cellOk then some (setAt l off v.cells.toList) else none
 | none => none
theorem storeV_run {P : Program} {t : TypeId} {l l' : List Value} {off : Nat} {v : Value} {B : Nat} {w : World} (h : storeV P t l off v = some l') (A : Arr B l w) :
    (storeVar t ⟨B, off, none⟩ v).run P w = .ok () (wset w B off v.cells.toList) ∧ l' = setAt l off v.cells.toList ∧ off + v.cells.toList.length ≤ l.length := by
 unfold storeV at h
 cases h1 : qrun P (sizeOf t) with
 | none => rw [h1] at h; cases h
 | some n =>
  rw [h1] at h
  dsimp only at h
  split at h
  ·rename_i hc
   simp only [Bool.and_eq_true, beq_iff_eq, decide_eq_true_eq] at hc
   have r1 := qrun_run _ h1 w
   have r2 := storeCells_run (P := P) (o := off) v.cells.toList l 0 w A hc.2 hc.1.2
   refine ⟨?_, (Option.some.inj h).symm, hc.1.2⟩
   unfold storeVar
   simp only [Sem.run_bind, r1, Result.andThen_ok]
   rw [if_neg (by rw [hc.1.1]; simp)]
   simpa using r2
  ·cases h
theorem RW.store {bs : List Nat} {w0 : World} {bl : Bl} {m : Xm} {w : World} (h : RW bs w0 bl m w) {k B : Nat} {l : List Value} (hk : bl[k]? = some (some B)) (hm : m[k]? = some l) (o : Nat) (vs : List Value) (ho : o + vs.length ≤ l.length) :
    RW bs w0 bl (m.set k (setAt l o vs)) (wset w B o vs) := by
 have hA : Arr B l w := by
  obtain ⟨l2, e, A⟩ := h.arr k B hk
  rw [hm] at e
  cases e
  exact A
 have hkl : k < m.length := (List.getElem?_eq_some_iff.1 hm).1
 have hos := wset_os (B := B) vs o w
 have hvs : l = [] → vs = [] := fun e => by
  subst e
  have ho : o + vs.length ≤ 0 := ho
  exact List.length_eq_zero_iff.1 (by omega)
 refine ⟨fun k' B' hk' => ?_, h.inj, fun k' B' hk' => (h.own k' B' hk').imp id (Or.imp id fun e => none_set e (fun e2 => ?_)), hos.1.trans h.os, hos.2.1.trans h.tape, hos.2.2.trans h.output, by rw [wset_size]; exact h.size, fun i hi hb => ?_, h.gw⟩
 ·by_cases e : k = k'
  ·subst e
   rw [hk] at hk'
   cases hk'
   exact ⟨_, List.getElem?_set_self hkl, wset_arr vs l o w hA ho⟩
  ·obtain ⟨l2, e2, A2⟩ := h.arr k' B' hk'
   have hB : B' ≠ B := fun e3 => e (h.inj k k' B hk (e3 ▸ hk'))
   exact ⟨l2, by rw [List.getElem?_set_ne e]; exact e2, A2.same (wset_block hB vs o w) (by rw [wset_size]; exact Nat.le_refl _)⟩
 ·subst e2
  rw [hm] at e
  cases e
  rw [hvs rfl]
  rfl
 ·by_cases hv : vs = []
  ·subst hv
   exact h.block i hi hb
  have hB : i ≠ B := by
   rintro rfl
   rcases h.own k i hk with hb' | hb' | hb'
   ·exact hb hb'
   ·omega
   ·rw [hm] at hb'
    exact hv (hvs (Option.some.inj hb'))
  rw [wset_block hB]
  exact h.block i hi hb
theorem RW.new {bs : List Nat} {w0 : World} {bl : Bl} {m : Xm} {w : World} (h : RW bs w0 bl m w) {k : Nat} (hk : bl[k]? = some none) (hm : k < m.length) (l : List Value) (t : TypeId) :
    RW bs w0 (bl.set k (some w.heap.size)) (m.set k l) (w.alloc (.cells l.toArray t)) ∧ Le bl (bl.set k (some w.heap.size)) := by
 have hkl : k < bl.length := (List.getElem?_eq_some_iff.1 hk).1
 have hB : Below w.heap.size w (w.alloc (.cells l.toArray t)) := (Below.refl _ _).alloc (Nat.le_refl _) _
 have get : ∀ (i B : Nat), (bl.set k (some w.heap.size))[i]? = some (some B) → (i = k ∧ B = w.heap.size) ∨ (i ≠ k ∧ bl[i]? = some (some B) ∧ B < w.heap.size) := by
  intro i B hi
  by_cases e : k = i
  ·subst e
   rw [List.getElem?_set_self hkl] at hi
   exact .inl ⟨rfl, (Option.some.inj (Option.some.inj hi)).symm⟩
  ·rw [List.getElem?_set_ne e] at hi
   obtain ⟨_, _, A⟩ := h.arr i B hi
   exact .inr ⟨fun x => e x.symm, hi, A.lies⟩
 refine ⟨⟨fun i B hi => ?_, fun i j B hi hj => ?_, fun i B hi => ?_, h.os, h.tape, h.output, ?_, fun i hi hb => ?_, h.gw⟩, fun i B hi => ?_⟩
 ·rcases get i B hi with ⟨rfl, rfl⟩ | ⟨hne, hi', _⟩
  ·exact ⟨l, List.getElem?_set_self hm, Arr_at w w.heap.size l t rfl⟩
  ·obtain ⟨l2, e2, A2⟩ := h.arr i B hi'
   exact ⟨l2, by rw [List.getElem?_set_ne (fun x => hne x.symm)]; exact e2, A2.below hB⟩
 ·rcases get i B hi with ⟨rfl, rfl⟩ | ⟨hne, hi', hlt⟩ <;> rcases get j _ hj with ⟨rfl, e⟩ | ⟨hne', hj', hlt'⟩
  ·rfl
  ·omega
  ·omega
  ·exact h.inj i j B hi' hj'
 ·rcases get i B hi with ⟨rfl, rfl⟩ | ⟨hne, hi', _⟩
  ·exact .inr (.inl h.size)
  ·exact (h.own i B hi').imp id (Or.imp id fun e => none_set e (fun e2 => absurd e2.symm hne))
 ·have := h.size
  have := hB.size
  omega
 ·rw [hB.block i (by have := h.size; omega)]
  exact h.block i hi hb
 ·have e : k ≠ i := by
   rintro rfl
   rw [hk] at hi
   cases hi
  rw [List.getElem?_set_ne e]
  exact hi
def fieldV (P : Program) (s : TypeId) (f : Nat) : Option Nat :=
 match P.underlying s with
 | some (.struct fields) =>
  match fields[f]? with
  | some fd =>
   match qrun P (sizeOf fd.type) with
   | some (_ + 1) => some fd.offset
   | _ => none
  | none => none
 | _ => none
theorem run_under {P : Program} {t : TypeId} {d : TypeDesc} (h : P.underlying t = some d) (w : World) : (underlying t).run P w = .ok d w := by
 simp [underlying, program, Sem.run, h]
theorem fieldV_run {P : Program} {s : TypeId} {f d : Nat} (h : fieldV P s f = some d) (B o : Nat) (w : World) : (Instr.fieldAt s (.pointer (some ⟨B, o, none⟩)) f).run P w = .ok (.pointer (some ⟨B, o + d, none⟩)) w := by
 unfold fieldV at h
 split at h
 ·rename_i fields hu
  split at h
  ·rename_i fd hf
   split at h
   ·rename_i n hz
    have r1 := qrun_run _ hz w
    have r0 := run_under hu w
    cases h
    unfold Instr.fieldAt
    simp only [Sem.run_bind, r0, Result.andThen_ok, hf, Instr.sureAddr, fieldPlace]
    simp [add_is, r1]
   ·cases h
  ·cases h
 ·cases h
def indexV (P : Program) (t : TypeId) (ix : Value) : Option Nat :=
 match P.underlying t, ix with
 | some (.array len elem), .int _ i =>
  if 0 ≤ i ∧ i < len then
   match qrun P (sizeOf elem) with
   | some n => some (i.toNat * n)
   | none => none
  else none
 | _, _ => none
theorem indexV_run {P : Program} {t : TypeId} {ix : Value} {d : Nat} (h : indexV P t ix = some d) (B o : Nat) (w : World) : (Instr.indexAt t (.pointer (some ⟨B, o, none⟩)) ix).run P w = .ok (.pointer (some ⟨B, o + d, none⟩)) w := by
 unfold indexV at h
 split at h
 ·rename_i len elem k i hu
  split at h
  ·rename_i hi
   split at h
   ·rename_i n hz
    have r1 := qrun_run _ hz w
    have r0 := run_under hu w
    cases h
    unfold Instr.indexAt
    simp only [Sem.run_bind, asIntOf, r0, Result.andThen_ok, Instr.sureAddr, Sem.run_pure]
    rw [if_pos hi]
    simp [r1, add_is]
   ·cases h
  ·cases h
 ·cases h
end Go.Proofs.YtbophanlmkbfeaaGreatDoor
