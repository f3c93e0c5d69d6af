/-
A part.
A part.
A part.
A part.
-/
import Derived.Handy
import Derived.Deep.RegionHeld3
import Derived.RegionTactic
import Derived.BigRegion
import Derived.Test.YteeohbiaclojaaaGreatDoorHU20
import Derived.Test.YteeohbiaclojaaaGreatDoorHU11
import Derived.Test.YteeohbiaclojaaaGreatDoorHU17
namespace Go.Proofs.YteeohbiaclojaaaGreatDoor
open Go.RowKit
set_option maxRecDepth 100000
set_option maxHeartbeats 20000000
theorem sizeOf_any (c : Int) (w : World) : Calls Tryz.prog 114 #[.int .i64 c] w fun e w' => e = .returned (.int .i64 (sizeS c)) ∧ w = w' := by
 by_cases h1 : c = 1
 ·subst h1
  go_enter Tryz.func114, Tryz.ntmps114
  go_wp2
  go_ret
  exact ⟨rfl, rfl⟩
 by_cases h2 : c = 2
 ·subst h2
  go_enter Tryz.func114, Tryz.ntmps114
  go_wp2
  go_ret
  exact ⟨rfl, rfl⟩
 by_cases h4 : c = 4
 ·subst h4
  go_enter Tryz.func114, Tryz.ntmps114
  go_wp2
  go_ret
  exact ⟨rfl, rfl⟩
 by_cases h3 : c = 3
 ·subst h3
  go_enter Tryz.func114, Tryz.ntmps114
  go_wp2
  go_ret
  exact ⟨rfl, rfl⟩
 have e : sizeS c = 0 := by unfold sizeS; rw [if_neg (by omega), if_neg h3]
 rw [e]
 go_enter Tryz.func114, Tryz.ntmps114
 go_wp2
 go_ret
 exact ⟨rfl, rfl⟩
theorem refused_any (q c : Int) (o : V7) (x : Int) (w : World) : Calls Tryz.prog 115 #[.agg #[.int .i64 q, .int .i64 c, .int .i64 o.1, .int .i64 o.2.1, .int .i64 o.2.2.1, .int .i64 o.2.2.2.1, .int .i64 o.2.2.2.2.1, .int .i64 o.2.2.2.2.2.1, .int .i64 o.2.2.2.2.2.2], .int .i64 x] w fun e w' => e = .returned (.tuple #[.agg #[.int .i64 q, .int .i64 0, .int .i64 0, .int .i64 0, .int .i64 0, .int .i64 0, .int .i64 0, .int .i64 0, .int .i64 0], .int .i64 x]) ∧ Below w.heap.size w w' := by
 go_enter Tryz.func115, Tryz.ntmps115
 go_wp2_with (with_reducible refine post_stop ?_)
 refine ⟨bodyPost_ret (v := .tuple #[.agg #[.int .i64 q, .int .i64 0, .int .i64 0, .int .i64 0, .int .i64 0, .int .i64 0, .int .i64 0, .int .i64 0, .int .i64 0], .int .i64 x]) (by simp [results_cell_tmp Tryz.results115, asAddr, go_sem]) rfl ⟨rfl, ?_⟩⟩
 exact bel_al (bel_al (Below.refl _ _) _) _
theorem or64u {a b : Nat} (ha : a < 72057594037927936) (hb : b < 256) : bits .or .u64 ((a : Int) * 256) (b : Int) = ((a * 256 + b : Nat) : Int) := by
 rw [show (a : Int) * 256 = ((a * 256 : Nat) : Int) by omega]
 show IntKind.u64.wrap ((BitVec.ofInt 64 ((a * 256 : Nat) : Int) ||| BitVec.ofInt 64 (b : Int)).toNat : Int) = _
 have e := Nat.two_pow_add_eq_or_of_lt (i := 8) (show b < 2 ^ 8 by omega) a
 rw [BitVec.toNat_or, ofInt_u64 _ (by omega), ofInt_u64 b (by omega), show a * 256 = 2 ^ 8 * a by omega, ← e]
 rw [IntKind.wrap_u64]
 omega
theorem joined_any (s : ByteArray) (w : World) (h : 8 ≤ s.size) :
    Calls Tryz.prog 172 #[.string s] w fun e w' => e = .returned (.int .i64 (onumS s 0)) ∧ w = w' := by
 go_enter Tryz.func172, Tryz.ntmps172
 go_wp2
 go_loop [3, 5] (fun r i => ∃ k : Nat, k ≤ 8 ∧ i = .int .i64 k ∧ r = .int .u64 (numK s 0 k : Nat)) (fun _ i => 8 - (intOf i).toNat)
 case atStart => exact ⟨0, by omega, rfl, rfl⟩
 case round =>
  obtain ⟨k, hk, rfl, rfl⟩ := hrel
  by_cases c : k < 8
  ·have hi := idx_run (s := s) (i := (k : Int)) (n := k) (by omega) rfl
   have hb := bt_lt s k
   have ht : numK s 0 k < 72057594037927936 := Nat.lt_of_lt_of_le (numK_lt s 0 k) (show 256 ^ k ≤ 256 ^ 7 from Nat.pow_le_pow_right (by decide) (by omega))
   have HT : Hid (numK s 0 (k + 1) = numK s 0 k * 256 + bt s k) := by show numK s 0 k * 256 + bt s (0 + k) = _; rw [Nat.zero_add]
   generalize numK s 0 k = t at ht HT ⊢
   generalize bt s k = b at hi hb HT
   have ho := or64u ht hb
   go_wp2
   go_round
   case rel => exact ⟨k + 1, by omega, by go_num, by rw [HT.out]; show _ = Value.int .u64 ((t * 256 + b : Nat) : Int); rw [show ((t * 256 + b : Nat) : Int) = (t : Int) * 256 + b by omega]⟩
   case measure => simp [intOf]; omega
  ·obtain rfl : k = 8 := by omega
   have HT : Hid (onumS s 0 = IntKind.i64.wrap (numK s 0 8 : Nat)) := rfl
   have hl := numK_lt s 0 8
   generalize numK s 0 8 = t at HT hl ⊢
   go_wp2
   go_ret
   exact ⟨by rw [HT.out, IntWalk.i64_left]; rfl, rfl⟩
theorem elAt_any (p : Nat) (hp : p < 7) (s : ByteArray) (k : Nat) (w : World) (hs : s.size = 56) (hc : w.cell? ⟨k, 0, none⟩ = some (.string s)) :
    Calls Tryz.prog 171 #[.int .i64 p, .pointer (some ⟨k, 0, none⟩)] w fun e w' => e = .returned (.int .i64 (onumS s (8 * p))) ∧ w = w' := by
 have hj := fun W => joined_any (s.extract (8 * p) s.size) W (by rw [ByteArray.size_extract]; omega)
 rw [numS_tail, Nat.add_zero] at hj
 have hsl : ∀ W : World, (Instr.slice 9 (.string s) (some (.int .i64 ((p : Int) * 8))) none none).run Tryz.prog W = .ok (.string (s.extract (8 * p) s.size)) W := fun W => by
  rw [run_slice_string_from_if W 9 s .i64 ((p : Int) * 8) Tryz.underlying9, if_pos (by omega), show ((p : Int) * 8).toNat = 8 * p by omega]
 generalize s.extract (8 * p) s.size = y at *
 generalize onumS s (8 * p) = x at *
 go_enter Tryz.func171, Tryz.ntmps171
 go_wp2_with (go_at_call 172; refine (hj _).mono ?_; rintro e X ⟨rfl, rfl⟩)
 go_ret
 exact ⟨rfl, rfl⟩
end Go.Proofs.YteeohbiaclojaaaGreatDoor
namespace Go.Proofs.YteeohbiaclojaaaGreatDoor
open Go.RowKit
set_option maxRecDepth 100000
set_option maxHeartbeats 20000000
@[go_sem] theorem idx_seven0 (a b c d e f g : Int) (w : World) : (Instr.index 197 (.agg #[.int .i64 a, .int .i64 b, .int .i64 c, .int .i64 d, .int .i64 e, .int .i64 f, .int .i64 g]) (.int .i64 0)).run Tryz.prog w = .ok (.int .i64 a) w := by kernel_rfl
@[go_sem] theorem idx_seven1 (a b c d e f g : Int) (w : World) : (Instr.index 197 (.agg #[.int .i64 a, .int .i64 b, .int .i64 c, .int .i64 d, .int .i64 e, .int .i64 f, .int .i64 g]) (.int .i64 1)).run Tryz.prog w = .ok (.int .i64 b) w := by kernel_rfl
@[go_sem] theorem idx_seven2 (a b c d e f g : Int) (w : World) : (Instr.index 197 (.agg #[.int .i64 a, .int .i64 b, .int .i64 c, .int .i64 d, .int .i64 e, .int .i64 f, .int .i64 g]) (.int .i64 2)).run Tryz.prog w = .ok (.int .i64 c) w := by kernel_rfl
@[go_sem] theorem idx_seven3 (a b c d e f g : Int) (w : World) : (Instr.index 197 (.agg #[.int .i64 a, .int .i64 b, .int .i64 c, .int .i64 d, .int .i64 e, .int .i64 f, .int .i64 g]) (.int .i64 3)).run Tryz.prog w = .ok (.int .i64 d) w := by kernel_rfl
@[go_sem] theorem idx_seven4 (a b c d e f g : Int) (w : World) : (Instr.index 197 (.agg #[.int .i64 a, .int .i64 b, .int .i64 c, .int .i64 d, .int .i64 e, .int .i64 f, .int .i64 g]) (.int .i64 4)).run Tryz.prog w = .ok (.int .i64 e) w := by kernel_rfl
@[go_sem] theorem idx_seven5 (a b c d e f g : Int) (w : World) : (Instr.index 197 (.agg #[.int .i64 a, .int .i64 b, .int .i64 c, .int .i64 d, .int .i64 e, .int .i64 f, .int .i64 g]) (.int .i64 5)).run Tryz.prog w = .ok (.int .i64 f) w := by kernel_rfl
@[go_sem] theorem idx_seven6 (a b c d e f g : Int) (w : World) : (Instr.index 197 (.agg #[.int .i64 a, .int .i64 b, .int .i64 c, .int .i64 d, .int .i64 e, .int .i64 f, .int .i64 g]) (.int .i64 6)).run Tryz.prog w = .ok (.int .i64 g) w := by kernel_rfl
theorem elements_any (s : ByteArray) (w : World) (hs : s.size = 56) :
    Calls Tryz.prog 116 #[.string s] w fun e w' => e = .returned (.agg #[.int .i64 (onumS s 0), .int .i64 (onumS s 8), .int .i64 (onumS s 16), .int .i64 (onumS s 24), .int .i64 (onumS s 32), .int .i64 (onumS s 40), .int .i64 (onumS s 48)]) ∧ Below w.heap.size w w' := by
 have hmf : ∀ (fn : Fn) (first cap : Array Value) (W : World), (Instr.makeFunc fn first cap).run Tryz.prog W = .ok (.func fn first cap) W := fun _ _ _ _ => rfl
 have A := (Arr_at w w.heap.size [.string s] 9 rfl).alloc (.cells #[.int .i64 0, .int .i64 0, .int .i64 0, .int .i64 0, .int .i64 0, .int .i64 0, .int .i64 0] 36)
 have c0 := A.c 0 (zD rfl)
 have C0 : Hid _ := c0
 clear A c0
 have h0 := fun W c => elAt_any 0 (by decide) s w.heap.size W hs c
 rw [show 8 * 0 = 0 from rfl] at h0
 generalize onumS s 0 = x0 at h0 ⊢
 have h1 := fun W c => elAt_any 1 (by decide) s w.heap.size W hs c
 rw [show 8 * 1 = 8 from rfl] at h1
 generalize onumS s 8 = x1 at h1 ⊢
 have h2 := fun W c => elAt_any 2 (by decide) s w.heap.size W hs c
 rw [show 8 * 2 = 16 from rfl] at h2
 generalize onumS s 16 = x2 at h2 ⊢
 have h3 := fun W c => elAt_any 3 (by decide) s w.heap.size W hs c
 rw [show 8 * 3 = 24 from rfl] at h3
 generalize onumS s 24 = x3 at h3 ⊢
 have h4 := fun W c => elAt_any 4 (by decide) s w.heap.size W hs c
 rw [show 8 * 4 = 32 from rfl] at h4
 generalize onumS s 32 = x4 at h4 ⊢
 have h5 := fun W c => elAt_any 5 (by decide) s w.heap.size W hs c
 rw [show 8 * 5 = 40 from rfl] at h5
 generalize onumS s 40 = x5 at h5 ⊢
 have h6 := fun W c => elAt_any 6 (by decide) s w.heap.size W hs c
 rw [show 8 * 6 = 48 from rfl] at h6
 generalize onumS s 48 = x6 at h6 ⊢
 go_enter Tryz.func116, Tryz.ntmps116
 go_wp2_with fail
 refine (h0 _ C0.out).mono ?_
 rintro e X ⟨rfl, rfl⟩
 go_wp2_with fail
 refine (h1 _ C0.out).mono ?_
 rintro e X ⟨rfl, rfl⟩
 go_wp2_with fail
 refine (h2 _ C0.out).mono ?_
 rintro e X ⟨rfl, rfl⟩
 go_wp2_with fail
 refine (h3 _ C0.out).mono ?_
 rintro e X ⟨rfl, rfl⟩
 go_wp2_with fail
 refine (h4 _ C0.out).mono ?_
 rintro e X ⟨rfl, rfl⟩
 go_wp2_with fail
 refine (h5 _ C0.out).mono ?_
 rintro e X ⟨rfl, rfl⟩
 go_wp2_with fail
 refine (h6 _ C0.out).mono ?_
 rintro e X ⟨rfl, rfl⟩
 go_wp2_with (with_reducible refine post_stop ?_)
 refine ⟨bodyPost_ret (v := .agg #[.int .i64 x0, .int .i64 x1, .int .i64 x2, .int .i64 x3, .int .i64 x4, .int .i64 x5, .int .i64 x6]) (by simp [results, Tryz.results116, asAddr, go_sem]) rfl ⟨rfl, ?_⟩⟩
 exact bel_al (bel_al (Below.refl _ _) _) _
end Go.Proofs.YteeohbiaclojaaaGreatDoor
namespace Go.Proofs.YteeohbiaclojaaaGreatDoor
open Go.RowKit
set_option maxRecDepth 100000
set_option maxHeartbeats 20000000
theorem oFar_any (a : Int) (k : Int) (w : World) (he0 : 0 ≤ k) (he1 : k ≤ 109951162777) :
    Calls Tryz.prog 119 #[.int .i64 a, .int .i64 k] w fun e w' => e = .returned (.bool (oFarC a k)) ∧ Below w.heap.size w w' := by
 go_enter Tryz.func119, Tryz.ntmps119
 go_wp2_with fail
 refine (Mul_any w.heap.size false a (1099511627776 - k) _ (Fl_at _ _ _ _ (by simp))).mono ?_
 rintro e w1 ⟨rfl, f1, k1⟩
 generalize e1 : mulS false a (1099511627776 - k) = r1 at f1 ⊢
 have E1 : Hid _ := e1
 clear e1
 have K1 : Below w.heap.size w w1 := k1.on (bel_al (Below.refl w.heap.size w) _) (by omega)
 have z1 := f1.lies
 clear k1
 go_wp2_with fail
 refine (Mul_any w.heap.size r1.2 a (1099511627776 + k) _ f1).mono ?_
 rintro e w2 ⟨rfl, f2, k2⟩
 generalize e2 : mulS r1.2 a (1099511627776 + k) = r2 at f2 ⊢
 have E2 : Hid _ := e2
 clear e2
 have K2 : Below w.heap.size w w2 := k2.on K1 (by omega)
 have z2 := f2.lies
 clear K1 f1 k2
 rcases Bool.eq_false_or_eq_true r2.2 with hc1 | hc1
 ·have Hhc1 : Hid (r2.2 = true) := hc1
  have c3_B0 := f2.cell
  go_wp2
  clear c3_B0
  go_ret
  have hs : oFarC a k = false := by unfold oFarC; simp only [E1.out, E2.out]; rw [if_pos Hhc1.out]
  rw [hs]
  exact ⟨rfl, K2⟩
 ·have Hhc1 : Hid (r2.2 = false) := hc1
  by_cases hc2 : r1.1 ≥ 7232738120604
  ·have Hhc2 : Hid (r1.1 ≥ 7232738120604) := hc2
   have c3_B0 := f2.cell
   go_wp2
   clear c3_B0
   go_ret
   have hs : oFarC a k = (decide (r2.1 ≤ 9211859050600)) := by unfold oFarC; simp only [E1.out, E2.out]; rw [if_neg (by rw [Hhc1.out]; decide)]; rw [if_pos (by have := Hhc2.out; omega)]
   rw [hs]
   exact ⟨rfl, K2⟩
  ·have Hhc2 : Hid (¬ r1.1 ≥ 7232738120604) := hc2
   have c3_B0 := f2.cell
   go_wp2
   clear c3_B0
   go_ret
   have hs : oFarC a k = false := by unfold oFarC; simp only [E1.out, E2.out]; rw [if_neg (by rw [Hhc1.out]; decide)]; rw [if_neg (by have := Hhc2.out; omega)]
   rw [hs]
   exact ⟨rfl, K2⟩
theorem oAng_any (a : Int) (w : World) :
    Calls Tryz.prog 120 #[.int .i64 a] w fun e w' => e = .returned (.bool (oAngC a)) ∧ Below w.heap.size w w' := by
 go_enter Tryz.func120, Tryz.ntmps120
 by_cases hc1 : (-6908435304716) ≤ a
 ·have Hhc1 : Hid ((-6908435304716) ≤ a) := hc1
  go_wp2
  go_ret
  have hs : oAngC a = (decide (a ≤ 6908435304716)) := by unfold oAngC; rw [if_pos (by have := Hhc1.out; omega)]
  rw [hs]
  exact ⟨rfl, (Below.refl w.heap.size w)⟩
 ·have Hhc1 : Hid (¬ (-6908435304716) ≤ a) := hc1
  go_wp2
  go_ret
  have hs : oAngC a = false := by unfold oAngC; rw [if_neg (by have := Hhc1.out; omega)]
  rw [hs]
  exact ⟨rfl, (Below.refl w.heap.size w)⟩
theorem oRightC_any (o : V7) (w : World) :
    Calls Tryz.prog 54 #[.agg #[.int .i64 o.1, .int .i64 o.2.1, .int .i64 o.2.2.1, .int .i64 o.2.2.2.1, .int .i64 o.2.2.2.2.1, .int .i64 o.2.2.2.2.2.1, .int .i64 o.2.2.2.2.2.2]] w fun e w' => e = .returned (.bool (oRightC o)) ∧ Below w.heap.size w w' := by
 go_enter Tryz.func54, Tryz.ntmps54
 by_cases hc1 : 0 ≤ o.2.1
 ·have Hhc1 : Hid (0 ≤ o.2.1) := hc1
  by_cases hc2 : o.2.1 ≤ 109951162777
  ·have Hhc2 : Hid (o.2.1 ≤ 109951162777) := hc2
   go_wp2_with fail
   refine (oFar_any o.1 o.2.1 _ (by omega) (by omega)).mono ?_
   rintro e w1 ⟨rfl, k1⟩
   generalize e1 : oFarC o.1 o.2.1 = r1
   have E1 : Hid _ := e1
   clear e1
   have K1 : Below w.heap.size w w1 := bel_then (bel_al (Below.refl w.heap.size w) _) k1
   have B0_1 := (Arr_at _ w.heap.size [.int .i64 o.1, .int .i64 o.2.1, .int .i64 o.2.2.1, .int .i64 o.2.2.2.1, .int .i64 o.2.2.2.2.1, .int .i64 o.2.2.2.2.2.1, .int .i64 o.2.2.2.2.2.2] _ (by simp)).below k1
   have z1 := B0_1.lies
   clear k1
   rcases Bool.eq_false_or_eq_true r1 with hc3 | hc3
   ·have Hhc3 : Hid (r1 = true) := hc3
    by_cases hc4 : 0 ≤ o.2.2.1
    ·have Hhc4 : Hid (0 ≤ o.2.2.1) := hc4
     by_cases hc5 : o.2.2.1 ≤ 3454217652358
     ·have Hhc5 : Hid (o.2.2.1 ≤ 3454217652358) := hc5
      have c2_B0_2 : w1.cell? ⟨w.heap.size, 2, none⟩ = some (.int .i64 o.2.2.1) := B0_1.c 2 (zD rfl)
      have c2_B0_3 : w1.cell? ⟨w.heap.size, 3, none⟩ = some (.int .i64 o.2.2.2.1) := B0_1.c 3 (zD rfl)
      go_wp2_with fail
      refine (oAng_any o.2.2.2.1 _).mono ?_
      rintro e w2 ⟨rfl, k2⟩
      generalize e2 : oAngC o.2.2.2.1 = r2
      have E2 : Hid _ := e2
      clear e2
      have K2 : Below w.heap.size w w2 := bel_then K1 k2
      have B0_2 := B0_1.below k2
      have z2 := B0_2.lies
      clear c2_B0_2 c2_B0_3 K1 B0_1 k2
      rcases Bool.eq_false_or_eq_true r2 with hc6 | hc6
      ·have Hhc6 : Hid (r2 = true) := hc6
       have c3_B0_4 : w2.cell? ⟨w.heap.size, 4, none⟩ = some (.int .i64 o.2.2.2.2.1) := B0_2.c 4 (zD rfl)
       go_wp2_with fail
       refine (oAng_any o.2.2.2.2.1 _).mono ?_
       rintro e w3 ⟨rfl, k3⟩
       generalize e3 : oAngC o.2.2.2.2.1 = r3
       have E3 : Hid _ := e3
       clear e3
       have K3 : Below w.heap.size w w3 := bel_then K2 k3
       have B0_3 := B0_2.below k3
       have z3 := B0_3.lies
       clear c3_B0_4 K2 B0_2 k3
       rcases Bool.eq_false_or_eq_true r3 with hc7 | hc7
       ·have Hhc7 : Hid (r3 = true) := hc7
        have c4_B0_5 : w3.cell? ⟨w.heap.size, 5, none⟩ = some (.int .i64 o.2.2.2.2.2.1) := B0_3.c 5 (zD rfl)
        go_wp2_with fail
        refine (oAng_any o.2.2.2.2.2.1 _).mono ?_
        rintro e w4 ⟨rfl, k4⟩
        generalize e4 : oAngC o.2.2.2.2.2.1 = r4
        have E4 : Hid _ := e4
        clear e4
        have K4 : Below w.heap.size w w4 := bel_then K3 k4
        have B0_4 := B0_3.below k4
        have z4 := B0_4.lies
        clear c4_B0_5 K3 B0_3 k4
        rcases Bool.eq_false_or_eq_true r4 with hc8 | hc8
        ·have Hhc8 : Hid (r4 = true) := hc8
         have c5_B0_6 : w4.cell? ⟨w.heap.size, 6, none⟩ = some (.int .i64 o.2.2.2.2.2.2) := B0_4.c 6 (zD rfl)
         go_wp2_with fail
         refine (cRight_any o.2.2.2.2.2.2 _).mono ?_
         rintro e w5 ⟨rfl, k5⟩
         generalize e5 : cRight o.2.2.2.2.2.2 = r5
         have E5 : Hid _ := e5
         clear e5
         have K5 : Below w.heap.size w w5 := bel_then K4 k5
         have B0_5 := B0_4.below k5
         have z5 := B0_5.lies
         clear c5_B0_6 K4 B0_4 k5
         go_wp2
         go_ret
         have hs : oRightC o = r5 := by unfold oRightC; simp only [E1.out, E2.out, E3.out, E4.out, E5.out]; rw [if_pos (by have := Hhc1.out; omega)]; rw [if_pos (by have := Hhc2.out; omega)]; rw [if_pos Hhc3.out]; rw [if_pos (by have := Hhc4.out; omega)]; rw [if_pos (by have := Hhc5.out; omega)]; rw [if_pos Hhc6.out]; rw [if_pos Hhc7.out]; rw [if_pos Hhc8.out]
         rw [hs]
         exact ⟨rfl, K5⟩
        ·have Hhc8 : Hid (r4 = false) := hc8
         go_wp2
         go_ret
         have hs : oRightC o = false := by unfold oRightC; simp only [E1.out, E2.out, E3.out, E4.out]; rw [if_pos (by have := Hhc1.out; omega)]; rw [if_pos (by have := Hhc2.out; omega)]; rw [if_pos Hhc3.out]; rw [if_pos (by have := Hhc4.out; omega)]; rw [if_pos (by have := Hhc5.out; omega)]; rw [if_pos Hhc6.out]; rw [if_pos Hhc7.out]; rw [if_neg (by rw [Hhc8.out]; decide)]
         rw [hs]
         exact ⟨rfl, K4⟩
       ·have Hhc7 : Hid (r3 = false) := hc7
        go_wp2
        go_ret
        have hs : oRightC o = false := by unfold oRightC; simp only [E1.out, E2.out, E3.out]; rw [if_pos (by have := Hhc1.out; omega)]; rw [if_pos (by have := Hhc2.out; omega)]; rw [if_pos Hhc3.out]; rw [if_pos (by have := Hhc4.out; omega)]; rw [if_pos (by have := Hhc5.out; omega)]; rw [if_pos Hhc6.out]; rw [if_neg (by rw [Hhc7.out]; decide)]
        rw [hs]
        exact ⟨rfl, K3⟩
      ·have Hhc6 : Hid (r2 = false) := hc6
       go_wp2
       go_ret
       have hs : oRightC o = false := by unfold oRightC; simp only [E1.out, E2.out]; rw [if_pos (by have := Hhc1.out; omega)]; rw [if_pos (by have := Hhc2.out; omega)]; rw [if_pos Hhc3.out]; rw [if_pos (by have := Hhc4.out; omega)]; rw [if_pos (by have := Hhc5.out; omega)]; rw [if_neg (by rw [Hhc6.out]; decide)]
       rw [hs]
       exact ⟨rfl, K2⟩
     ·have Hhc5 : Hid (¬ o.2.2.1 ≤ 3454217652358) := hc5
      have c2_B0_2 : w1.cell? ⟨w.heap.size, 2, none⟩ = some (.int .i64 o.2.2.1) := B0_1.c 2 (zD rfl)
      go_wp2
      clear c2_B0_2
      go_ret
      have hs : oRightC o = false := by unfold oRightC; simp only [E1.out]; rw [if_pos (by have := Hhc1.out; omega)]; rw [if_pos (by have := Hhc2.out; omega)]; rw [if_pos Hhc3.out]; rw [if_pos (by have := Hhc4.out; omega)]; rw [if_neg (by have := Hhc5.out; omega)]
      rw [hs]
      exact ⟨rfl, K1⟩
    ·have Hhc4 : Hid (¬ 0 ≤ o.2.2.1) := hc4
     have c2_B0_2 : w1.cell? ⟨w.heap.size, 2, none⟩ = some (.int .i64 o.2.2.1) := B0_1.c 2 (zD rfl)
     go_wp2
     clear c2_B0_2
     go_ret
     have hs : oRightC o = false := by unfold oRightC; simp only [E1.out]; rw [if_pos (by have := Hhc1.out; omega)]; rw [if_pos (by have := Hhc2.out; omega)]; rw [if_pos Hhc3.out]; rw [if_neg (by have := Hhc4.out; omega)]
     rw [hs]
     exact ⟨rfl, K1⟩
   ·have Hhc3 : Hid (r1 = false) := hc3
    go_wp2
    go_ret
    have hs : oRightC o = false := by unfold oRightC; simp only [E1.out]; rw [if_pos (by have := Hhc1.out; omega)]; rw [if_pos (by have := Hhc2.out; omega)]; rw [if_neg (by rw [Hhc3.out]; decide)]
    rw [hs]
    exact ⟨rfl, K1⟩
  ·have Hhc2 : Hid (¬ o.2.1 ≤ 109951162777) := hc2
   go_wp2
   go_ret
   have hs : oRightC o = false := by unfold oRightC; rw [if_pos (by have := Hhc1.out; omega)]; rw [if_neg (by have := Hhc2.out; omega)]
   rw [hs]
   exact ⟨rfl, (bel_al (Below.refl w.heap.size w) _)⟩
 ·have Hhc1 : Hid (¬ 0 ≤ o.2.1) := hc1
  go_wp2
  go_ret
  have hs : oRightC o = false := by unfold oRightC; rw [if_neg (by have := Hhc1.out; omega)]
  rw [hs]
  exact ⟨rfl, (bel_al (Below.refl w.heap.size w) _)⟩
end Go.Proofs.YteeohbiaclojaaaGreatDoor
namespace Go.Proofs.YteeohbiaclojaaaGreatDoor
open Go.RowKit
set_option maxRecDepth 100000
set_option maxHeartbeats 20000000
theorem oread_none (k : Int) (s : ByteArray) (w : World) (h : s.size < 2) :
    Calls Tryz.prog 50 #[.agg #[.int .i64 k, .string s]] w fun e w' => e = .returned (.tuple #[.agg #[.int .i64 0, .int .i64 0, .int .i64 0, .int .i64 0, .int .i64 0, .int .i64 0, .int .i64 0, .int .i64 0, .int .i64 0], .int .i64 1]) ∧ Below w.heap.size w w' := by
 go_enter Tryz.func50, Tryz.ntmps50
 go_wp2_with (with_reducible refine post_stop ?_)
 exact ⟨bodyPost_ret (v := .tuple #[.agg #[.int .i64 0, .int .i64 0, .int .i64 0, .int .i64 0, .int .i64 0, .int .i64 0, .int .i64 0, .int .i64 0, .int .i64 0], .int .i64 1]) (by simp [results_cell_tmp Tryz.results50, asAddr, go_sem]) rfl ⟨rfl, bel_al (bel_al (Below.refl _ _) _) _⟩⟩
theorem oread_kind (k : Int) (s : ByteArray) (w : World) (h : 2 ≤ s.size) (hk : k ≠ 16) :
    Calls Tryz.prog 50 #[.agg #[.int .i64 k, .string s]] w fun e w' => e = .returned (.tuple #[.agg #[.int .i64 (bt s 0 : Nat), .int .i64 0, .int .i64 0, .int .i64 0, .int .i64 0, .int .i64 0, .int .i64 0, .int .i64 0, .int .i64 0], .int .i64 1]) ∧ Below w.heap.size w w' := by
 have i0 := idx_run (s := s) (i := 0) (n := 0) (by omega) rfl
 have i1 := idx_run (s := s) (i := 1) (n := 1) (by omega) rfl
 have r0 := bt_lt s 0
 have r1 := bt_lt s 1
 have hs := sizeOf_any (bt s 1 : Nat)
 have hk' : (k != 16) = true := by simpa using hk
 generalize sizeS (bt s 1 : Nat) = z at *
 generalize bt s 0 = b0 at *
 generalize bt s 1 = b1 at *
 go_enter Tryz.func50, Tryz.ntmps50
 go_wp2
 go_region
 go_wp2_with fail
 refine (hs _).mono ?_
 rintro e X ⟨rfl, rfl⟩
 go_wp2_with fail
 refine (refused_any b0 b1 z7 1 _).mono ?_
 rintro e W1 ⟨rfl, k1⟩
 have L1 := bel_then (bel_drew (bel_al (bel_al (bel_al (Below.refl _ w) (.cells #[.int .i64 k, .string s] 26)) (.cells #[.int .i64 0, .int .i64 0, .int .i64 0, .int .i64 0, .int .i64 0, .int .i64 0, .int .i64 0, .int .i64 0, .int .i64 0] 127)) (.cells #[.int .i64 b0, .int .i64 b1, .int .i64 0, .int .i64 0, .int .i64 0, .int .i64 0, .int .i64 0, .int .i64 0, .int .i64 0] 127))) k1
 have R1 := (((Arr_at (w.alloc (.cells #[.int .i64 k, .string s] 26)) (w.heap.size + 1) [.int .i64 0, .int .i64 0, .int .i64 0, .int .i64 0, .int .i64 0, .int .i64 0, .int .i64 0, .int .i64 0, .int .i64 0] 127 (by simp)).alloc (.cells #[.int .i64 b0, .int .i64 b1, .int .i64 0, .int .i64 0, .int .i64 0, .int .i64 0, .int .i64 0, .int .i64 0, .int .i64 0] 127)).drew).below k1
 clear k1
 have c0 : W1.cell? ⟨w.heap.size + 1, 0, none⟩ = some (.int .i64 0) := R1.c 0 (zD rfl)
 have f0 := R1.f 0 (zD rfl)
 have c1 : W1.cell? ⟨w.heap.size + 1, 1, none⟩ = some (.int .i64 0) := R1.c 1 (zD rfl)
 have f1 := R1.f 1 (zD rfl)
 have c2 : W1.cell? ⟨w.heap.size + 1, 2, none⟩ = some (.int .i64 0) := R1.c 2 (zD rfl)
 have f2 := R1.f 2 (zD rfl)
 have c3 : W1.cell? ⟨w.heap.size + 1, 3, none⟩ = some (.int .i64 0) := R1.c 3 (zD rfl)
 have f3 := R1.f 3 (zD rfl)
 have c4 : W1.cell? ⟨w.heap.size + 1, 4, none⟩ = some (.int .i64 0) := R1.c 4 (zD rfl)
 have f4 := R1.f 4 (zD rfl)
 have c5 : W1.cell? ⟨w.heap.size + 1, 5, none⟩ = some (.int .i64 0) := R1.c 5 (zD rfl)
 have f5 := R1.f 5 (zD rfl)
 have c6 : W1.cell? ⟨w.heap.size + 1, 6, none⟩ = some (.int .i64 0) := R1.c 6 (zD rfl)
 have f6 := R1.f 6 (zD rfl)
 have c7 : W1.cell? ⟨w.heap.size + 1, 7, none⟩ = some (.int .i64 0) := R1.c 7 (zD rfl)
 have f7 := R1.f 7 (zD rfl)
 have c8 : W1.cell? ⟨w.heap.size + 1, 8, none⟩ = some (.int .i64 0) := R1.c 8 (zD rfl)
 have f8 := R1.f 8 (zD rfl)
 go_wp2_with (with_reducible refine post_stop ?_)
 have D := (((((((((R1.put 0 (zD rfl) (.int .i64 b0) [(.int .i64 b0), (.int .i64 0), (.int .i64 0), (.int .i64 0), (.int .i64 0), (.int .i64 0), (.int .i64 0), (.int .i64 0), (.int .i64 0)] rfl).put 1 (zD rfl) (.int .i64 0) [(.int .i64 b0), (.int .i64 0), (.int .i64 0), (.int .i64 0), (.int .i64 0), (.int .i64 0), (.int .i64 0), (.int .i64 0), (.int .i64 0)] rfl).put 2 (zD rfl) (.int .i64 0) [(.int .i64 b0), (.int .i64 0), (.int .i64 0), (.int .i64 0), (.int .i64 0), (.int .i64 0), (.int .i64 0), (.int .i64 0), (.int .i64 0)] rfl).put 3 (zD rfl) (.int .i64 0) [(.int .i64 b0), (.int .i64 0), (.int .i64 0), (.int .i64 0), (.int .i64 0), (.int .i64 0), (.int .i64 0), (.int .i64 0), (.int .i64 0)] rfl).put 4 (zD rfl) (.int .i64 0) [(.int .i64 b0), (.int .i64 0), (.int .i64 0), (.int .i64 0), (.int .i64 0), (.int .i64 0), (.int .i64 0), (.int .i64 0), (.int .i64 0)] rfl).put 5 (zD rfl) (.int .i64 0) [(.int .i64 b0), (.int .i64 0), (.int .i64 0), (.int .i64 0), (.int .i64 0), (.int .i64 0), (.int .i64 0), (.int .i64 0), (.int .i64 0)] rfl).put 6 (zD rfl) (.int .i64 0) [(.int .i64 b0), (.int .i64 0), (.int .i64 0), (.int .i64 0), (.int .i64 0), (.int .i64 0), (.int .i64 0), (.int .i64 0), (.int .i64 0)] rfl).put 7 (zD rfl) (.int .i64 0) [(.int .i64 b0), (.int .i64 0), (.int .i64 0), (.int .i64 0), (.int .i64 0), (.int .i64 0), (.int .i64 0), (.int .i64 0), (.int .i64 0)] rfl).put 8 (zD rfl) (.int .i64 0) [(.int .i64 b0), (.int .i64 0), (.int .i64 0), (.int .i64 0), (.int .i64 0), (.int .i64 0), (.int .i64 0), (.int .i64 0), (.int .i64 0)] rfl)
 have d0 := D.c 0 (zD rfl)
 have d1 := D.c 1 (zD rfl)
 have d2 := D.c 2 (zD rfl)
 have d3 := D.c 3 (zD rfl)
 have d4 := D.c 4 (zD rfl)
 have d5 := D.c 5 (zD rfl)
 have d6 := D.c 6 (zD rfl)
 have d7 := D.c 7 (zD rfl)
 have d8 := D.c 8 (zD rfl)
 simp only [List.getElem_cons_zero, List.getElem_cons_succ] at d0 d1 d2 d3 d4 d5 d6 d7 d8
 exact ⟨bodyPost_ret (v := .tuple #[.agg #[.int .i64 b0, .int .i64 0, .int .i64 0, .int .i64 0, .int .i64 0, .int .i64 0, .int .i64 0, .int .i64 0, .int .i64 0], .int .i64 1]) (by simp [results_cell_tmp Tryz.results50, asAddr, go_sem, d0, d1, d2, d3, d4, d5, d6, d7, d8]) rfl ⟨rfl, (bel_new (bel_new (bel_new (bel_new (bel_new (bel_new (bel_new (bel_new (bel_new L1 _ _ (by omega) _) _ _ (by omega) _) _ _ (by omega) _) _ _ (by omega) _) _ _ (by omega) _) _ _ (by omega) _) _ _ (by omega) _) _ _ (by omega) _) _ _ (by omega) _)⟩⟩
theorem oread_code (s : ByteArray) (w : World) (h : 2 ≤ s.size) (hz : sizeS (bt s 1 : Nat) = 0) :
    Calls Tryz.prog 50 #[.agg #[.int .i64 16, .string s]] w fun e w' => e = .returned (.tuple #[.agg #[.int .i64 (bt s 0 : Nat), .int .i64 0, .int .i64 0, .int .i64 0, .int .i64 0, .int .i64 0, .int .i64 0, .int .i64 0, .int .i64 0], .int .i64 2]) ∧ Below w.heap.size w w' := by
 have i0 := idx_run (s := s) (i := 0) (n := 0) (by omega) rfl
 have i1 := idx_run (s := s) (i := 1) (n := 1) (by omega) rfl
 have r0 := bt_lt s 0
 have r1 := bt_lt s 1
 have hs := sizeOf_any (bt s 1 : Nat)
 rw [hz] at hs
 clear hz
 generalize bt s 0 = b0 at *
 generalize bt s 1 = b1 at *
 go_enter Tryz.func50, Tryz.ntmps50
 go_wp2
 go_region
 go_wp2_with fail
 refine (hs _).mono ?_
 rintro e X ⟨rfl, rfl⟩
 go_wp2_with fail
 refine (refused_any b0 b1 z7 2 _).mono ?_
 rintro e W1 ⟨rfl, k1⟩
 have L1 := bel_then (bel_drew (bel_al (bel_al (bel_al (Below.refl _ w) (.cells #[.int .i64 16, .string s] 26)) (.cells #[.int .i64 0, .int .i64 0, .int .i64 0, .int .i64 0, .int .i64 0, .int .i64 0, .int .i64 0, .int .i64 0, .int .i64 0] 127)) (.cells #[.int .i64 b0, .int .i64 b1, .int .i64 0, .int .i64 0, .int .i64 0, .int .i64 0, .int .i64 0, .int .i64 0, .int .i64 0] 127))) k1
 have R1 := (((Arr_at (w.alloc (.cells #[.int .i64 16, .string s] 26)) (w.heap.size + 1) [.int .i64 0, .int .i64 0, .int .i64 0, .int .i64 0, .int .i64 0, .int .i64 0, .int .i64 0, .int .i64 0, .int .i64 0] 127 (by simp)).alloc (.cells #[.int .i64 b0, .int .i64 b1, .int .i64 0, .int .i64 0, .int .i64 0, .int .i64 0, .int .i64 0, .int .i64 0, .int .i64 0] 127)).drew).below k1
 clear k1
 have c0 : W1.cell? ⟨w.heap.size + 1, 0, none⟩ = some (.int .i64 0) := R1.c 0 (zD rfl)
 have f0 := R1.f 0 (zD rfl)
 have c1 : W1.cell? ⟨w.heap.size + 1, 1, none⟩ = some (.int .i64 0) := R1.c 1 (zD rfl)
 have f1 := R1.f 1 (zD rfl)
 have c2 : W1.cell? ⟨w.heap.size + 1, 2, none⟩ = some (.int .i64 0) := R1.c 2 (zD rfl)
 have f2 := R1.f 2 (zD rfl)
 have c3 : W1.cell? ⟨w.heap.size + 1, 3, none⟩ = some (.int .i64 0) := R1.c 3 (zD rfl)
 have f3 := R1.f 3 (zD rfl)
 have c4 : W1.cell? ⟨w.heap.size + 1, 4, none⟩ = some (.int .i64 0) := R1.c 4 (zD rfl)
 have f4 := R1.f 4 (zD rfl)
 have c5 : W1.cell? ⟨w.heap.size + 1, 5, none⟩ = some (.int .i64 0) := R1.c 5 (zD rfl)
 have f5 := R1.f 5 (zD rfl)
 have c6 : W1.cell? ⟨w.heap.size + 1, 6, none⟩ = some (.int .i64 0) := R1.c 6 (zD rfl)
 have f6 := R1.f 6 (zD rfl)
 have c7 : W1.cell? ⟨w.heap.size + 1, 7, none⟩ = some (.int .i64 0) := R1.c 7 (zD rfl)
 have f7 := R1.f 7 (zD rfl)
 have c8 : W1.cell? ⟨w.heap.size + 1, 8, none⟩ = some (.int .i64 0) := R1.c 8 (zD rfl)
 have f8 := R1.f 8 (zD rfl)
 go_wp2_with (with_reducible refine post_stop ?_)
 have D := (((((((((R1.put 0 (zD rfl) (.int .i64 b0) [(.int .i64 b0), (.int .i64 0), (.int .i64 0), (.int .i64 0), (.int .i64 0), (.int .i64 0), (.int .i64 0), (.int .i64 0), (.int .i64 0)] rfl).put 1 (zD rfl) (.int .i64 0) [(.int .i64 b0), (.int .i64 0), (.int .i64 0), (.int .i64 0), (.int .i64 0), (.int .i64 0), (.int .i64 0), (.int .i64 0), (.int .i64 0)] rfl).put 2 (zD rfl) (.int .i64 0) [(.int .i64 b0), (.int .i64 0), (.int .i64 0), (.int .i64 0), (.int .i64 0), (.int .i64 0), (.int .i64 0), (.int .i64 0), (.int .i64 0)] rfl).put 3 (zD rfl) (.int .i64 0) [(.int .i64 b0), (.int .i64 0), (.int .i64 0), (.int .i64 0), (.int .i64 0), (.int .i64 0), (.int .i64 0), (.int .i64 0), (.int .i64 0)] rfl).put 4 (zD rfl) (.int .i64 0) [(.int .i64 b0), (.int .i64 0), (.int .i64 0), (.int .i64 0), (.int .i64 0), (.int .i64 0), (.int .i64 0), (.int .i64 0), (.int .i64 0)] rfl).put 5 (zD rfl) (.int .i64 0) [(.int .i64 b0), (.int .i64 0), (.int .i64 0), (.int .i64 0), (.int .i64 0), (.int .i64 0), (.int .i64 0), (.int .i64 0), (.int .i64 0)] rfl).put 6 (zD rfl) (.int .i64 0) [(.int .i64 b0), (.int .i64 0), (.int .i64 0), (.int .i64 0), (.int .i64 0), (.int .i64 0), (.int .i64 0), (.int .i64 0), (.int .i64 0)] rfl).put 7 (zD rfl) (.int .i64 0) [(.int .i64 b0), (.int .i64 0), (.int .i64 0), (.int .i64 0), (.int .i64 0), (.int .i64 0), (.int .i64 0), (.int .i64 0), (.int .i64 0)] rfl).put 8 (zD rfl) (.int .i64 0) [(.int .i64 b0), (.int .i64 0), (.int .i64 0), (.int .i64 0), (.int .i64 0), (.int .i64 0), (.int .i64 0), (.int .i64 0), (.int .i64 0)] rfl)
 have d0 := D.c 0 (zD rfl)
 have d1 := D.c 1 (zD rfl)
 have d2 := D.c 2 (zD rfl)
 have d3 := D.c 3 (zD rfl)
 have d4 := D.c 4 (zD rfl)
 have d5 := D.c 5 (zD rfl)
 have d6 := D.c 6 (zD rfl)
 have d7 := D.c 7 (zD rfl)
 have d8 := D.c 8 (zD rfl)
 simp only [List.getElem_cons_zero, List.getElem_cons_succ] at d0 d1 d2 d3 d4 d5 d6 d7 d8
 exact ⟨bodyPost_ret (v := .tuple #[.agg #[.int .i64 b0, .int .i64 0, .int .i64 0, .int .i64 0, .int .i64 0, .int .i64 0, .int .i64 0, .int .i64 0, .int .i64 0], .int .i64 2]) (by simp [results_cell_tmp Tryz.results50, asAddr, go_sem, d0, d1, d2, d3, d4, d5, d6, d7, d8]) rfl ⟨rfl, (bel_new (bel_new (bel_new (bel_new (bel_new (bel_new (bel_new (bel_new (bel_new L1 _ _ (by omega) _) _ _ (by omega) _) _ _ (by omega) _) _ _ (by omega) _) _ _ (by omega) _) _ _ (by omega) _) _ _ (by omega) _) _ _ (by omega) _) _ _ (by omega) _)⟩⟩
theorem oread_len (s : ByteArray) (w : World) (h : 2 ≤ s.size) (hz : sizeS (bt s 1 : Nat) ≠ 0) (hl : (s.size : Int) ≠ sizeS (bt s 1 : Nat)) :
    Calls Tryz.prog 50 #[.agg #[.int .i64 16, .string s]] w fun e w' => e = .returned (.tuple #[.agg #[.int .i64 (bt s 0 : Nat), .int .i64 0, .int .i64 0, .int .i64 0, .int .i64 0, .int .i64 0, .int .i64 0, .int .i64 0, .int .i64 0], .int .i64 1]) ∧ Below w.heap.size w w' := by
 have i0 := idx_run (s := s) (i := 0) (n := 0) (by omega) rfl
 have i1 := idx_run (s := s) (i := 1) (n := 1) (by omega) rfl
 have r0 := bt_lt s 0
 have r1 := bt_lt s 1
 have hs := sizeOf_any (bt s 1 : Nat)
 generalize sizeS (bt s 1 : Nat) = z at *
 have hz' : (z == 0) = false := by simpa using hz
 have hl' : ((s.size : Int) != z) = true := by simpa using hl
 clear hz hl
 generalize bt s 0 = b0 at *
 generalize bt s 1 = b1 at *
 go_enter Tryz.func50, Tryz.ntmps50
 go_wp2
 go_region
 go_wp2_with fail
 refine (hs _).mono ?_
 rintro e X ⟨rfl, rfl⟩
 go_wp2_with fail
 refine (refused_any b0 b1 z7 1 _).mono ?_
 rintro e W1 ⟨rfl, k1⟩
 have L1 := bel_then (bel_drew (bel_al (bel_al (bel_al (Below.refl _ w) (.cells #[.int .i64 16, .string s] 26)) (.cells #[.int .i64 0, .int .i64 0, .int .i64 0, .int .i64 0, .int .i64 0, .int .i64 0, .int .i64 0, .int .i64 0, .int .i64 0] 127)) (.cells #[.int .i64 b0, .int .i64 b1, .int .i64 0, .int .i64 0, .int .i64 0, .int .i64 0, .int .i64 0, .int .i64 0, .int .i64 0] 127))) k1
 have R1 := (((Arr_at (w.alloc (.cells #[.int .i64 16, .string s] 26)) (w.heap.size + 1) [.int .i64 0, .int .i64 0, .int .i64 0, .int .i64 0, .int .i64 0, .int .i64 0, .int .i64 0, .int .i64 0, .int .i64 0] 127 (by simp)).alloc (.cells #[.int .i64 b0, .int .i64 b1, .int .i64 0, .int .i64 0, .int .i64 0, .int .i64 0, .int .i64 0, .int .i64 0, .int .i64 0] 127)).drew).below k1
 clear k1
 have c0 : W1.cell? ⟨w.heap.size + 1, 0, none⟩ = some (.int .i64 0) := R1.c 0 (zD rfl)
 have f0 := R1.f 0 (zD rfl)
 have c1 : W1.cell? ⟨w.heap.size + 1, 1, none⟩ = some (.int .i64 0) := R1.c 1 (zD rfl)
 have f1 := R1.f 1 (zD rfl)
 have c2 : W1.cell? ⟨w.heap.size + 1, 2, none⟩ = some (.int .i64 0) := R1.c 2 (zD rfl)
 have f2 := R1.f 2 (zD rfl)
 have c3 : W1.cell? ⟨w.heap.size + 1, 3, none⟩ = some (.int .i64 0) := R1.c 3 (zD rfl)
 have f3 := R1.f 3 (zD rfl)
 have c4 : W1.cell? ⟨w.heap.size + 1, 4, none⟩ = some (.int .i64 0) := R1.c 4 (zD rfl)
 have f4 := R1.f 4 (zD rfl)
 have c5 : W1.cell? ⟨w.heap.size + 1, 5, none⟩ = some (.int .i64 0) := R1.c 5 (zD rfl)
 have f5 := R1.f 5 (zD rfl)
 have c6 : W1.cell? ⟨w.heap.size + 1, 6, none⟩ = some (.int .i64 0) := R1.c 6 (zD rfl)
 have f6 := R1.f 6 (zD rfl)
 have c7 : W1.cell? ⟨w.heap.size + 1, 7, none⟩ = some (.int .i64 0) := R1.c 7 (zD rfl)
 have f7 := R1.f 7 (zD rfl)
 have c8 : W1.cell? ⟨w.heap.size + 1, 8, none⟩ = some (.int .i64 0) := R1.c 8 (zD rfl)
 have f8 := R1.f 8 (zD rfl)
 go_wp2_with (with_reducible refine post_stop ?_)
 have D := (((((((((R1.put 0 (zD rfl) (.int .i64 b0) [(.int .i64 b0), (.int .i64 0), (.int .i64 0), (.int .i64 0), (.int .i64 0), (.int .i64 0), (.int .i64 0), (.int .i64 0), (.int .i64 0)] rfl).put 1 (zD rfl) (.int .i64 0) [(.int .i64 b0), (.int .i64 0), (.int .i64 0), (.int .i64 0), (.int .i64 0), (.int .i64 0), (.int .i64 0), (.int .i64 0), (.int .i64 0)] rfl).put 2 (zD rfl) (.int .i64 0) [(.int .i64 b0), (.int .i64 0), (.int .i64 0), (.int .i64 0), (.int .i64 0), (.int .i64 0), (.int .i64 0), (.int .i64 0), (.int .i64 0)] rfl).put 3 (zD rfl) (.int .i64 0) [(.int .i64 b0), (.int .i64 0), (.int .i64 0), (.int .i64 0), (.int .i64 0), (.int .i64 0), (.int .i64 0), (.int .i64 0), (.int .i64 0)] rfl).put 4 (zD rfl) (.int .i64 0) [(.int .i64 b0), (.int .i64 0), (.int .i64 0), (.int .i64 0), (.int .i64 0), (.int .i64 0), (.int .i64 0), (.int .i64 0), (.int .i64 0)] rfl).put 5 (zD rfl) (.int .i64 0) [(.int .i64 b0), (.int .i64 0), (.int .i64 0), (.int .i64 0), (.int .i64 0), (.int .i64 0), (.int .i64 0), (.int .i64 0), (.int .i64 0)] rfl).put 6 (zD rfl) (.int .i64 0) [(.int .i64 b0), (.int .i64 0), (.int .i64 0), (.int .i64 0), (.int .i64 0), (.int .i64 0), (.int .i64 0), (.int .i64 0), (.int .i64 0)] rfl).put 7 (zD rfl) (.int .i64 0) [(.int .i64 b0), (.int .i64 0), (.int .i64 0), (.int .i64 0), (.int .i64 0), (.int .i64 0), (.int .i64 0), (.int .i64 0), (.int .i64 0)] rfl).put 8 (zD rfl) (.int .i64 0) [(.int .i64 b0), (.int .i64 0), (.int .i64 0), (.int .i64 0), (.int .i64 0), (.int .i64 0), (.int .i64 0), (.int .i64 0), (.int .i64 0)] rfl)
 have d0 := D.c 0 (zD rfl)
 have d1 := D.c 1 (zD rfl)
 have d2 := D.c 2 (zD rfl)
 have d3 := D.c 3 (zD rfl)
 have d4 := D.c 4 (zD rfl)
 have d5 := D.c 5 (zD rfl)
 have d6 := D.c 6 (zD rfl)
 have d7 := D.c 7 (zD rfl)
 have d8 := D.c 8 (zD rfl)
 simp only [List.getElem_cons_zero, List.getElem_cons_succ] at d0 d1 d2 d3 d4 d5 d6 d7 d8
 exact ⟨bodyPost_ret (v := .tuple #[.agg #[.int .i64 b0, .int .i64 0, .int .i64 0, .int .i64 0, .int .i64 0, .int .i64 0, .int .i64 0, .int .i64 0, .int .i64 0], .int .i64 1]) (by simp [results_cell_tmp Tryz.results50, asAddr, go_sem, d0, d1, d2, d3, d4, d5, d6, d7, d8]) rfl ⟨rfl, (bel_new (bel_new (bel_new (bel_new (bel_new (bel_new (bel_new (bel_new (bel_new L1 _ _ (by omega) _) _ _ (by omega) _) _ _ (by omega) _) _ _ (by omega) _) _ _ (by omega) _) _ _ (by omega) _) _ _ (by omega) _) _ _ (by omega) _) _ _ (by omega) _)⟩⟩
theorem oread_short (s : ByteArray) (w : World) (h : s.size = 2) (hz : sizeS (bt s 1 : Nat) = 2) (h3 : bt s 1 ≠ 3) :
    Calls Tryz.prog 50 #[.agg #[.int .i64 16, .string s]] w fun e w' => e = .returned (.tuple #[.agg #[.int .i64 (bt s 0 : Nat), .int .i64 (bt s 1 : Nat), .int .i64 0, .int .i64 0, .int .i64 0, .int .i64 0, .int .i64 0, .int .i64 0, .int .i64 0], .int .i64 0]) ∧ Below w.heap.size w w' := by
 have i0 := idx_run (s := s) (i := 0) (n := 0) (by omega) rfl
 have i1 := idx_run (s := s) (i := 1) (n := 1) (by omega) rfl
 have r0 := bt_lt s 0
 have r1 := bt_lt s 1
 have hs := sizeOf_any (bt s 1 : Nat)
 rw [hz] at hs
 clear hz
 have h3' : (((bt s 1 : Nat) : Int) != 3) = true := by simp; omega
 have hl' : ((s.size : Int) != 2) = false := by simp; omega
 generalize bt s 0 = b0 at *
 generalize bt s 1 = b1 at *
 go_enter Tryz.func50, Tryz.ntmps50
 go_wp2
 go_region
 go_wp2_with fail
 refine (hs _).mono ?_
 rintro e X ⟨rfl, rfl⟩
 go_wp2_with (with_reducible refine post_stop ?_)
 exact ⟨bodyPost_ret (v := .tuple #[.agg #[.int .i64 b0, .int .i64 b1, .int .i64 0, .int .i64 0, .int .i64 0, .int .i64 0, .int .i64 0, .int .i64 0, .int .i64 0], .int .i64 0]) (by simp [results_cell_tmp Tryz.results50, asAddr, go_sem]) rfl ⟨rfl, bel_drew (bel_al (bel_al (bel_al (Below.refl _ w) _) _) _)⟩⟩
end Go.Proofs.YteeohbiaclojaaaGreatDoor
