/-
A part.
A part.
A part.
A part.
A part.
-/
import Derived.Handy
import Derived.Deep.RegionHeld3
import Derived.Laws.StructEq
import Derived.ChangeKeysEq
import Derived.Test.YtbophanlmkbfeaaGreatDoorHO22
import Derived.Test.YtbophanlmkbfeaaGreatDoorHO19
import Derived.Test.YtbophanlmkbfeaaGreatDoorHO02
import Derived.Test.YtbophanlmkbfeaaGreatDoorHO33
namespace Go.Proofs.YtbophanlmkbfeaaGreatDoor
open Go.RowKit
set_option maxRecDepth 100000
set_option maxHeartbeats 20000000
theorem pAng_any (a : Int) (w : World) :
    Calls Tryz.prog 78 #[.int .i64 a] w fun e w' => e = .returned (.bool (pAngC a)) ∧ Below w.heap.size w w' := by
 go_enter Tryz.func78, Tryz.ntmps78
 by_cases hc1 : a ≥ (-6908435304716)
 ·have Hhc1 : Hid (a ≥ (-6908435304716)) := hc1
  go_wp2
  go_ret
  have hs : pAngC a = (decide (a ≤ 6908435304716)) := by unfold pAngC; rw [if_pos (by have := Hhc1.out; omega)]
  rw [hs]
  exact ⟨rfl, (Below.refl w.heap.size w)⟩
 ·have Hhc1 : Hid (¬ a ≥ (-6908435304716)) := hc1
  go_wp2
  go_ret
  have hs : pAngC a = false := by unfold pAngC; rw [if_neg (by have := Hhc1.out; omega)]
  rw [hs]
  exact ⟨rfl, (Below.refl w.heap.size w)⟩
theorem pRightC_any (o : V7) (w : World) :
    Calls Tryz.prog 42 #[.agg #[.int .i64 o.1, .int .i64 o.2.1, .int .i64 o.2.2.1, .int .i64 o.2.2.2.1, .int .i64 o.2.2.2.2.1, .int .i64 o.2.2.2.2.2.1, .int .i64 o.2.2.2.2.2.2]] w fun e w' => e = .returned (.bool (pRightC o)) ∧ Below w.heap.size w w' := by
 go_enter Tryz.func42, Tryz.ntmps42
 by_cases hc1 : o.2.1 < 0
 ·have Hhc1 : Hid (o.2.1 < 0) := hc1
  go_wp2
  go_ret
  have hs : pRightC o = false := by unfold pRightC; rw [if_pos (by have := Hhc1.out; omega)]
  rw [hs]
  exact ⟨rfl, (bel_al (Below.refl w.heap.size w) _)⟩
 ·have Hhc1 : Hid (¬ o.2.1 < 0) := hc1
  by_cases hc2 : o.2.1 > 109951162777
  ·have Hhc2 : Hid (o.2.1 > 109951162777) := hc2
   go_wp2
   go_ret
   have hs : pRightC o = false := by unfold pRightC; rw [if_neg (by have := Hhc1.out; omega)]; rw [if_pos (by have := Hhc2.out; omega)]
   rw [hs]
   exact ⟨rfl, (bel_al (Below.refl w.heap.size w) _)⟩
  ·have Hhc2 : Hid (¬ o.2.1 > 109951162777) := hc2
   by_cases hc3 : o.2.2.1 < 0
   ·have Hhc3 : Hid (o.2.2.1 < 0) := hc3
    go_wp2
    go_ret
    have hs : pRightC o = false := by unfold pRightC; rw [if_neg (by have := Hhc1.out; omega)]; rw [if_neg (by have := Hhc2.out; omega)]; rw [if_pos (by have := Hhc3.out; omega)]
    rw [hs]
    exact ⟨rfl, (bel_al (Below.refl w.heap.size w) _)⟩
   ·have Hhc3 : Hid (¬ o.2.2.1 < 0) := hc3
    by_cases hc4 : o.2.2.1 > 3454217652358
    ·have Hhc4 : Hid (o.2.2.1 > 3454217652358) := hc4
     go_wp2
     go_ret
     have hs : pRightC o = false := by unfold pRightC; rw [if_neg (by have := Hhc1.out; omega)]; rw [if_neg (by have := Hhc2.out; omega)]; rw [if_neg (by have := Hhc3.out; omega)]; rw [if_pos (by have := Hhc4.out; omega)]
     rw [hs]
     exact ⟨rfl, (bel_al (Below.refl w.heap.size w) _)⟩
    ·have Hhc4 : Hid (¬ o.2.2.1 > 3454217652358) := hc4
     go_wp2_with fail
     refine (pAng_any o.2.2.2.1 _).mono ?_
     rintro e w1 ⟨rfl, k1⟩
     generalize e1 : pAngC o.2.2.2.1 = r1
     have E1 : Hid _ := e1
     clear e1
     have K1 : Below w.heap.size w w1 := bel_then (bel_al (Below.refl w.heap.size w) _) k1
     have B0_1 := (Arr_at _ w.heap.size [.int .i64 o.1, .int .i64 o.2.1, .int .i64 o.2.2.1, .int .i64 o.2.2.2.1, .int .i64 o.2.2.2.2.1, .int .i64 o.2.2.2.2.2.1, .int .i64 o.2.2.2.2.2.2] _ (by simp)).below k1
     have z1 := B0_1.lies
     clear k1
     rcases Bool.eq_false_or_eq_true r1 with hc5 | hc5
     ·have Hhc5 : Hid (r1 = true) := hc5
      have c2_B0_4 : w1.cell? ⟨w.heap.size, 4, none⟩ = some (.int .i64 o.2.2.2.2.1) := B0_1.c 4 (zD rfl)
      go_wp2_with fail
      refine (pAng_any o.2.2.2.2.1 _).mono ?_
      rintro e w2 ⟨rfl, k2⟩
      generalize e2 : pAngC o.2.2.2.2.1 = r2
      have E2 : Hid _ := e2
      clear e2
      have K2 : Below w.heap.size w w2 := bel_then K1 k2
      have B0_2 := B0_1.below k2
      have z2 := B0_2.lies
      clear c2_B0_4 K1 B0_1 k2
      rcases Bool.eq_false_or_eq_true r2 with hc6 | hc6
      ·have Hhc6 : Hid (r2 = true) := hc6
       have c3_B0_5 : w2.cell? ⟨w.heap.size, 5, none⟩ = some (.int .i64 o.2.2.2.2.2.1) := B0_2.c 5 (zD rfl)
       go_wp2_with fail
       refine (pAng_any o.2.2.2.2.2.1 _).mono ?_
       rintro e w3 ⟨rfl, k3⟩
       generalize e3 : pAngC o.2.2.2.2.2.1 = r3
       have E3 : Hid _ := e3
       clear e3
       have K3 : Below w.heap.size w w3 := bel_then K2 k3
       have B0_3 := B0_2.below k3
       have z3 := B0_3.lies
       clear c3_B0_5 K2 B0_2 k3
       rcases Bool.eq_false_or_eq_true r3 with hc7 | hc7
       ·have Hhc7 : Hid (r3 = true) := hc7
        have c4_B0_6 : w3.cell? ⟨w.heap.size, 6, none⟩ = some (.int .i64 o.2.2.2.2.2.2) := B0_3.c 6 (zD rfl)
        go_wp2_with fail
        refine (dRight_any o.2.2.2.2.2.2 _).mono ?_
        rintro e w4 ⟨rfl, k4⟩
        generalize e4 : cRight o.2.2.2.2.2.2 = r4
        have E4 : Hid _ := e4
        clear e4
        have K4 : Below w.heap.size w w4 := bel_then K3 k4
        have B0_4 := B0_3.below k4
        have z4 := B0_4.lies
        clear c4_B0_6 K3 B0_3 k4
        rcases Bool.eq_false_or_eq_true r4 with hc8 | hc8
        ·have Hhc8 : Hid (r4 = true) := hc8
         have y2_B0 := B0_4.lies
         have c5_B0_0 : w4.cell? ⟨w.heap.size, 0, none⟩ = some (.int .i64 o.1) := B0_4.c 0 (zD rfl)
         have c5_B0_1 : w4.cell? ⟨w.heap.size, 1, none⟩ = some (.int .i64 o.2.1) := B0_4.c 1 (zD rfl)
         have l5_B0 := B0_4.lies
         go_wp2_with fail
         refine (rMul_any w4.heap.size false o.1 (1099511627776 - o.2.1) _ (Fl_at _ _ _ _ (by simp))).mono ?_
         rintro e w5 ⟨rfl, f5, k5⟩
         generalize e5 : mulS false o.1 (1099511627776 - o.2.1) = r5 at f5 ⊢
         have E5 : Hid _ := e5
         clear e5
         have K5 : Below w.heap.size w w5 := k5.on (bel_al K4 _) (by omega)
         have B0_5 := (B0_4.alloc _).kept k5 (zL y2_B0)
         have z5 := f5.lies
         clear c5_B0_0 c5_B0_1 l5_B0 K4 B0_4 k5
         have c6_B0_0 : w5.cell? ⟨w.heap.size, 0, none⟩ = some (.int .i64 o.1) := B0_5.c 0 (zD rfl)
         have c6_B0_1 : w5.cell? ⟨w.heap.size, 1, none⟩ = some (.int .i64 o.2.1) := B0_5.c 1 (zD rfl)
         go_wp2_with fail
         refine (rMul_any w4.heap.size r5.2 o.1 (1099511627776 + o.2.1) _ f5).mono ?_
         rintro e w6 ⟨rfl, f6, k6⟩
         generalize e6 : mulS r5.2 o.1 (1099511627776 + o.2.1) = r6 at f6 ⊢
         have E6 : Hid _ := e6
         clear e6
         have K6 : Below w.heap.size w w6 := k6.on K5 (by omega)
         have B0_6 := B0_5.kept k6 (zL y2_B0)
         have z6 := f6.lies
         clear c6_B0_0 c6_B0_1 K5 B0_5 f5 k6
         rcases Bool.eq_false_or_eq_true r6.2 with hc9 | hc9
         ·have Hhc9 : Hid (r6.2 = true) := hc9
          have c7_B1 := f6.cell
          go_wp2
          clear c7_B1
          go_ret
          have hs : pRightC o = false := by unfold pRightC; simp only [E1.out, E2.out, E3.out, E4.out, E5.out, E6.out]; rw [if_neg (by have := Hhc1.out; omega)]; rw [if_neg (by have := Hhc2.out; omega)]; rw [if_neg (by have := Hhc3.out; omega)]; rw [if_neg (by have := Hhc4.out; omega)]; rw [if_pos Hhc5.out]; rw [if_pos Hhc6.out]; rw [if_pos Hhc7.out]; rw [if_pos Hhc8.out]; rw [if_pos Hhc9.out]
          rw [hs]
          exact ⟨rfl, K6⟩
         ·have Hhc9 : Hid (r6.2 = false) := hc9
          by_cases hc10 : r5.1 ≥ 7232738120604
          ·have Hhc10 : Hid (r5.1 ≥ 7232738120604) := hc10
           have c7_B1 := f6.cell
           go_wp2
           clear c7_B1
           go_ret
           have hs : pRightC o = (decide (r6.1 ≤ 9211859050600)) := by unfold pRightC; simp only [E1.out, E2.out, E3.out, E4.out, E5.out, E6.out]; rw [if_neg (by have := Hhc1.out; omega)]; rw [if_neg (by have := Hhc2.out; omega)]; rw [if_neg (by have := Hhc3.out; omega)]; rw [if_neg (by have := Hhc4.out; omega)]; rw [if_pos Hhc5.out]; rw [if_pos Hhc6.out]; rw [if_pos Hhc7.out]; rw [if_pos Hhc8.out]; rw [if_neg (by rw [Hhc9.out]; decide)]; rw [if_pos (by have := Hhc10.out; omega)]
           rw [hs]
           exact ⟨rfl, K6⟩
          ·have Hhc10 : Hid (¬ r5.1 ≥ 7232738120604) := hc10
           have c7_B1 := f6.cell
           go_wp2
           clear c7_B1
           go_ret
           have hs : pRightC o = false := by unfold pRightC; simp only [E1.out, E2.out, E3.out, E4.out, E5.out, E6.out]; rw [if_neg (by have := Hhc1.out; omega)]; rw [if_neg (by have := Hhc2.out; omega)]; rw [if_neg (by have := Hhc3.out; omega)]; rw [if_neg (by have := Hhc4.out; omega)]; rw [if_pos Hhc5.out]; rw [if_pos Hhc6.out]; rw [if_pos Hhc7.out]; rw [if_pos Hhc8.out]; rw [if_neg (by rw [Hhc9.out]; decide)]; rw [if_neg (by have := Hhc10.out; omega)]
           rw [hs]
           exact ⟨rfl, K6⟩
        ·have Hhc8 : Hid (r4 = false) := hc8
         go_wp2
         go_ret
         have hs : pRightC o = false := by unfold pRightC; simp only [E1.out, E2.out, E3.out, E4.out]; rw [if_neg (by have := Hhc1.out; omega)]; rw [if_neg (by have := Hhc2.out; omega)]; rw [if_neg (by have := Hhc3.out; omega)]; rw [if_neg (by have := Hhc4.out; omega)]; rw [if_pos Hhc5.out]; rw [if_pos Hhc6.out]; rw [if_pos Hhc7.out]; rw [if_neg (by rw [Hhc8.out]; decide)]
         rw [hs]
         exact ⟨rfl, K4⟩
       ·have Hhc7 : Hid (r3 = false) := hc7
        go_wp2
        go_ret
        have hs : pRightC o = false := by unfold pRightC; simp only [E1.out, E2.out, E3.out]; rw [if_neg (by have := Hhc1.out; omega)]; rw [if_neg (by have := Hhc2.out; omega)]; rw [if_neg (by have := Hhc3.out; omega)]; rw [if_neg (by have := Hhc4.out; omega)]; rw [if_pos Hhc5.out]; rw [if_pos Hhc6.out]; rw [if_neg (by rw [Hhc7.out]; decide)]
        rw [hs]
        exact ⟨rfl, K3⟩
      ·have Hhc6 : Hid (r2 = false) := hc6
       go_wp2
       go_ret
       have hs : pRightC o = false := by unfold pRightC; simp only [E1.out, E2.out]; rw [if_neg (by have := Hhc1.out; omega)]; rw [if_neg (by have := Hhc2.out; omega)]; rw [if_neg (by have := Hhc3.out; omega)]; rw [if_neg (by have := Hhc4.out; omega)]; rw [if_pos Hhc5.out]; rw [if_neg (by rw [Hhc6.out]; decide)]
       rw [hs]
       exact ⟨rfl, K2⟩
     ·have Hhc5 : Hid (r1 = false) := hc5
      go_wp2
      go_ret
      have hs : pRightC o = false := by unfold pRightC; simp only [E1.out]; rw [if_neg (by have := Hhc1.out; omega)]; rw [if_neg (by have := Hhc2.out; omega)]; rw [if_neg (by have := Hhc3.out; omega)]; rw [if_neg (by have := Hhc4.out; omega)]; rw [if_neg (by rw [Hhc5.out]; decide)]
      rw [hs]
      exact ⟨rfl, K1⟩
end Go.Proofs.YtbophanlmkbfeaaGreatDoor
namespace Go.Proofs.YtbophanlmkbfeaaGreatDoor
open Go.RowKit
set_option maxRecDepth 100000
set_option maxHeartbeats 20000000
theorem rnum_any (s : ByteArray) (p : Nat) (w : World) (h : p + 8 ≤ s.size) (hp : p < 100) :
    Calls Tryz.prog 41 #[.string s, .int .i64 p] w fun e w' => e = .returned (.int .i64 (onumS s p)) ∧ w = w' := by
 go_enter Tryz.func41, Tryz.ntmps41
 go_wp2
 go_loop [5, 6] (fun r i => ∃ k : Nat, k ≤ 8 ∧ i = .int .i64 k ∧ r = .int .u64 (numK s p k : Nat)) (fun _ i => 8 - (intOf i).toNat)
 case atStart => exact ⟨0, by omega, rfl, rfl⟩
 case round =>
  obtain ⟨k, hk, rfl, rfl⟩ := hrel
  by_cases c : k < 8
  ·have hi := idx_run (s := s) (i := (p : Int) + (k : Int)) (n := p + k) (by omega) (by omega)
   have hb := bt_lt s (p + k)
   have ht : numK s p k < 72057594037927936 := Nat.lt_of_lt_of_le (numK_lt s p k) (show 256 ^ k ≤ 256 ^ 7 from Nat.pow_le_pow_right (by decide) (by omega))
   have HT : Hid (numK s p (k + 1) = numK s p k * 256 + bt s (p + k)) := rfl
   generalize numK s p k = t at ht HT ⊢
   generalize bt s (p + k) = b at hi hb HT
   go_wp2
   go_round
   case rel => exact ⟨k + 1, by omega, by go_num, by rw [HT.out]; go_num⟩
   case measure => simp [intOf]; omega
  ·obtain rfl : k = 8 := by omega
   have HT : Hid (onumS s p = IntKind.i64.wrap (numK s p 8 : Nat)) := rfl
   have hl := numK_lt s p 8
   generalize numK s p 8 = t at HT hl ⊢
   go_wp2
   go_ret
   exact ⟨by rw [HT.out, IntWalk.i64_left]; rfl, rfl⟩
def Eig (s : ByteArray) (i : Int) : Prop := 0 ≤ i ∧ i < 100 ∧ i.toNat + 8 ≤ s.size
def rnumCt : Ct Tryz.prog := predCt Tryz.prog 41 (then' cS (lone' cI)) (fun x K => Eig x.1 x.2 ∧ K (.int .i64 (onumS x.1 x.2.toNat))) (fun _ _ _ hK hs => ⟨hs.1, hK _ hs.2⟩) (go_of Tryz.func41 (by kernel_rfl) (by kernel_rfl))
 (fun x w _ K hs => by
  obtain ⟨s, i⟩ := x
  obtain ⟨⟨h0, h1, h2⟩, hk⟩ := hs
  dsimp only at h0 h1 h2 hk
  obtain ⟨p, rfl⟩ : ∃ p : Nat, i = p := ⟨i.toNat, by omega⟩
  rw [Int.toNat_natCast] at h2 hk
  refine Calls.mono (rnum_any s p w h2 (by omega)) ?_
  rintro e w' ⟨rfl, rfl⟩
  exact ⟨_, rfl, rfl, hk, Below.refl _ _⟩)
def rrightCt : Ct Tryz.prog := pureCt Tryz.prog 42 (lone' (cT 7)) (fun x => pRightC (t7V x)) cB (go_of Tryz.func42 (by kernel_rfl) (by kernel_rfl)) (fun x w _ => pRightC_any (t7V x) w)
theorem rread_short (s : ByteArray) (h : s = ⟨⟨[]⟩⟩ ∨ ∃ b, s = ⟨⟨[b]⟩⟩) (w : World) (hw : GW w) : Calls Tryz.prog 21 ((lone' cFra).enc (16, s)).toArray w fun e w' => e = .returned (kOrd.enc (ozT 0 0 1)) ∧ Below w.heap.size w w' := by
 rcases h with rfl | ⟨b, rfl⟩
 ·refine pure_at (d := lone' cFra) (k := kOrd) (x := (16, ⟨⟨[]⟩⟩)) (y := ozT 0 0 1) (tbl := [rnumCt, rrightCt]) (dirty := fun _ => []) (n := 4) xmixA Tryz.func21 rfl (fun Post hP => ?_) w hw
  exact Eq.mpr (β := PJ kOrd Post (ozT 0 0 1)) (by kernel_rfl) hP
 ·refine pure_at (d := lone' cFra) (k := kOrd) (x := (16, ⟨⟨[b]⟩⟩)) (y := ozT 0 0 1) (tbl := [rnumCt, rrightCt]) (dirty := fun _ => []) (n := 4) xmixA Tryz.func21 rfl (fun Post hP => ?_) w hw
  exact Eq.mpr (β := PJ kOrd Post (ozT 0 0 1)) (by kernel_rfl) hP
def ordT (s : ByteArray) : Tup 7 := (onumS s (2 : Int).toNat, onumS s (10 : Int).toNat, onumS s (18 : Int).toNat, onumS s (26 : Int).toNat, onumS s (34 : Int).toNat, onumS s (42 : Int).toNat, onumS s (50 : Int).toNat, ())
def rrE (q c : Int) (s : ByteArray) (Post : Value → Prop) : Prop :=
 Eig s 2 ∧ Eig s 10 ∧ Eig s 18 ∧ Eig s 26 ∧ Eig s 34 ∧ Eig s 42 ∧ Eig s 50 ∧ vif (!pRightC (t7V (ordT s))) (PJ kOrd Post (ozT q 0 3)) (PJ kOrd Post ((q, c, ordT s), 0))
def rrL (q c : Int) (s : ByteArray) (Post : Value → Prop) (long : Int) : Prop :=
 vif (!decide ((s.size : Int) = long)) (PJ kOrd Post (ozT q 0 1)) (vif (decide (c = 3)) (rrE q c s Post) (PJ kOrd Post (ozT q c 0)))
def rrB (q c : Int) (s : ByteArray) (Post : Value → Prop) : Prop :=
 vif (decide ((s.size : Int) < 2)) (PJ kOrd Post (ozT 0 0 1)) (vif (decide (c < 1)) (PJ kOrd Post (ozT q 0 2)) (vif (decide (c > 4)) (PJ kOrd Post (ozT q 0 2)) (vif (decide (c = 3)) (rrL q c s Post 58) (rrL q c s Post 2))))
theorem rr_run (b0 b1 : UInt8) (rest : List UInt8) (y : Tup 9 × Int) (w : World) (hw : GW w) (h : ∀ Post : Value → Prop, PJ kOrd Post y → rrB (bI b0) (bI b1) ⟨⟨b0 :: b1 :: rest⟩⟩ Post) : Calls Tryz.prog 21 ((lone' cFra).enc (16, ⟨⟨b0 :: b1 :: rest⟩⟩)).toArray w fun e w' => e = .returned (kOrd.enc y) ∧ Below w.heap.size w w' := by
 refine pure_at (d := lone' cFra) (k := kOrd) (x := (16, ⟨⟨b0 :: b1 :: rest⟩⟩)) (y := y) (tbl := [rnumCt, rrightCt]) (dirty := fun _ => []) (n := 4) xmixA Tryz.func21 rfl (fun Post hP => ?_) w hw
 exact Eq.mpr (β := rrB (bI b0) (bI b1) ⟨⟨b0 :: b1 :: rest⟩⟩ Post) (by kernel_rfl) (h Post hP)
theorem rread16 (s : ByteArray) (w : World) (hw : GW w) : Calls Tryz.prog 21 ((lone' cFra).enc (16, s)).toArray w fun e w' => e = .returned (kOrd.enc (oreadT (16, s))) ∧ Below w.heap.size w w' := by
 obtain ⟨⟨l⟩⟩ := s
 match l with
 | [] => exact rread_short _ (.inl rfl) w hw
 | [b] => exact rread_short _ (.inr ⟨b, rfl⟩) w hw
 | b0 :: b1 :: rest =>
  refine rr_run b0 b1 rest _ w hw (fun Post hP => ?_)
  have e0 : bI b0 = (bt ⟨⟨b0 :: b1 :: rest⟩⟩ 0 : Nat) := bI_is b0
  have e1 : bI b1 = (bt ⟨⟨b0 :: b1 :: rest⟩⟩ 1 : Nat) := bI_is b1
  have hs : 2 ≤ (⟨⟨b0 :: b1 :: rest⟩⟩ : ByteArray).size := by show 2 ≤ rest.length + 1 + 1; omega
  generalize (⟨⟨b0 :: b1 :: rest⟩⟩ : ByteArray) = s at *
  rw [e0, e1]
  generalize hq : ((bt s 0 : Nat) : Int) = q at *
  generalize hc : ((bt s 1 : Nat) : Int) = c at *
  have hO : oreadT (16, s) = if c < 1 then ozT q 0 2 else if c > 4 then ozT q 0 2 else if (s.size : Int) ≠ (if c = 3 then 58 else 2) then ozT q 0 1 else if c = 3 then (if pRightC (t7V (ordT s)) then ((q, c, ordT s), 0) else ozT q 0 3) else ozT q c 0 := by
   have hE : t7V (ordT s) = ordE s := rfl
   unfold oreadT ordR
   dsimp only
   rw [hq, hc, if_neg (show ¬ s.size < 2 by omega), if_neg (show ¬ (16 : Int) ≠ 16 by decide), hE, pRightC_eq]
   by_cases h1 : c < 1
   ·have hz : sizeS c = 0 := by unfold sizeS; rw [if_neg (by omega), if_neg (by omega)]
    rw [if_pos hz, if_pos h1]; rfl
   rw [if_neg h1]
   by_cases h4 : c > 4
   ·have hz : sizeS c = 0 := by unfold sizeS; rw [if_neg (by omega), if_neg (by omega)]
    rw [if_pos hz, if_pos h4]; rfl
   rw [if_neg h4]
   by_cases h3 : c = 3
   ·subst h3
    have hz : sizeS 3 = 58 := rfl
    rw [hz, if_neg (show ¬ (58 : Int) = 0 by decide), if_pos rfl, if_pos rfl, if_neg (show ¬ (3 : Int) ≠ 3 by decide)]
    by_cases hl : (s.size : Int) ≠ 58
    ·rw [if_pos hl, if_pos hl]; rfl
    rw [if_neg hl, if_neg hl]
    cases oRightC (ordE s)
    ·rfl
    ·rfl
   ·have hz : sizeS c = 2 := by unfold sizeS; rw [if_pos (by omega)]
    rw [hz, if_neg (show ¬ (2 : Int) = 0 by decide), if_neg h3, if_neg h3, if_pos h3]
    by_cases hl : (s.size : Int) ≠ 2
    ·rw [if_pos hl, if_pos hl]; rfl
    rw [if_neg hl, if_neg hl]
    rfl
  rw [hO] at hP
  clear hO
  unfold rrB
  rw [decide_eq_false (show ¬ (s.size : Int) < 2 by omega)]
  by_cases h1 : c < 1
  ·rw [decide_eq_true h1]; rw [if_pos h1] at hP; exact hP
  rw [decide_eq_false h1]; rw [if_neg h1] at hP
  by_cases h4 : c > 4
  ·rw [decide_eq_true h4]; rw [if_pos h4] at hP; exact hP
  rw [decide_eq_false h4]; rw [if_neg h4] at hP
  by_cases h3 : c = 3
  ·rw [decide_eq_true h3]; rw [if_pos h3, if_pos h3] at hP
   show rrL q c s Post 58
   unfold rrL
   by_cases hl : (s.size : Int) = 58
   ·rw [decide_eq_true hl, decide_eq_true h3]; rw [if_neg (fun k => k hl)] at hP
    have g : ∀ i : Int, 0 ≤ i → i ≤ 50 → Eig s i := fun i h0 h1 => ⟨h0, by omega, by omega⟩
    refine ⟨g _ (by decide) (by decide), g _ (by decide) (by decide), g _ (by decide) (by decide), g _ (by decide) (by decide), g _ (by decide) (by decide), g _ (by decide) (by decide), g _ (by decide) (by decide), ?_⟩
    cases hr : pRightC (t7V (ordT s))
    ·rw [hr] at hP; exact hP
    ·rw [hr] at hP; exact hP
   ·rw [decide_eq_false hl]; rw [if_pos hl] at hP; exact hP
  ·rw [decide_eq_false h3]; rw [if_neg h3, if_neg h3] at hP
   show rrL q c s Post 2
   unfold rrL
   by_cases hl : (s.size : Int) = 2
   ·rw [decide_eq_true hl, decide_eq_false h3]; rw [if_neg (fun k => k hl)] at hP; exact hP
   ·rw [decide_eq_false hl]; rw [if_pos hl] at hP; exact hP
end Go.Proofs.YtbophanlmkbfeaaGreatDoor
namespace Go.Proofs.YtbophanlmkbfeaaGreatDoor
open Go.RowKit
structure PlI (q : Pl) : Prop where
 c : I64 q.calm
 g : I64 q.good
 i : I64 q.miss
 l : I64 q.lost
 m0 : 0 ≤ q.mode
 m3 : q.mode ≤ 3
 f0 : 0 ≤ q.faults
 f9 : q.faults ≤ 15
theorem i64_0 : I64 0 := ⟨by decide, by decide⟩
theorem or_all : ∀ n : Fin 16, ∀ x ∈ ([1, 2, 4, 8] : List Int), 0 ≤ bits .or .i64 (n.val : Int) x ∧ bits .or .i64 (n.val : Int) x ≤ 15 := by decide +kernel
theorem or_at {f x : Int} (h0 : 0 ≤ f) (h1 : f ≤ 15) (hx : x ∈ ([1, 2, 4, 8] : List Int)) : 0 ≤ bits .or .i64 f x ∧ bits .or .i64 f x ≤ 15 := by
 obtain ⟨n, rfl⟩ : ∃ n : Nat, f = n := ⟨f.toNat, by omega⟩
 exact or_all ⟨n, by omega⟩ x hx
theorem cnt_i {n : Int} (b : Bool) : I64 (cntW n b) := by
 unfold cntW
 cases b
 ·exact i64_0
 ·simp only [if_true]
  split
  ·exact ⟨by decide, by decide⟩
  ·rw [IntKind.wrap_i64]
   exact ⟨by omega, by omega⟩
theorem PlI.go {q : Pl} (h : PlI q) (k : Int) (h0 : 0 ≤ k) (h3 : k ≤ 3) : PlI (goS k q) := ⟨i64_0, i64_0, i64_0, i64_0, h0, h3, h.f0, h.f9⟩
theorem PlI.fail {q : Pl} (h : PlI q) (x : Int) (hx : x ∈ ([1, 2, 4, 8] : List Int)) : PlI (failS x q) := by
 have u := or_at h.f0 h.f9 hx
 exact ⟨i64_0, i64_0, i64_0, i64_0, show (0 : Int) ≤ 1 by decide, show (1 : Int) ≤ 3 by decide, u.1, u.2⟩
theorem PlI.step {q : Pl} (h : PlI q) (s : Sn) : PlI (nextW q s) := by
 unfold nextW nextV
 split
 ·exact h.go 3 (by decide) (by decide)
 split
 ·unfold safeS; split
  ·exact ⟨i64_0, i64_0, i64_0, i64_0, Int.le_refl 0, show (0 : Int) ≤ 3 by decide, Int.le_refl 0, show (0 : Int) ≤ 15 by decide⟩
  ·exact h
 split
 ·unfold detW; split
  ·exact h.go 1 (by decide) (by decide)
  ·exact ⟨cnt_i _, h.g, h.i, h.l, h.m0, h.m3, h.f0, h.f9⟩
 split
 ·cases s.gap
  ·simp only [cond_false]
   unfold coaW
   cases (s.gyro && !s.slow)
   ·simp only [cond_false]
    split
    ·exact h.go 2 (by decide) (by decide)
    ·exact ⟨h.c, cnt_i _, h.i, h.l, h.m0, h.m3, h.f0, h.f9⟩
   ·exact h.go 0 (by decide) (by decide)
  ·exact h.fail 1 (by decide)
 split
 ·cases s.gap
  ·simp only [cond_false]
   unfold finW
   cases s.bad
   ·simp only [cond_false]
    split
    ·exact h.fail 2 (by decide)
    cases (s.pair && s.lit)
    ·exact ⟨h.c, h.g, h.i, cnt_i _, h.m0, h.m3, h.f0, h.f9⟩
    ·simp only [cond_true]
     split
     ·exact h.fail 8 (by decide)
     ·exact ⟨h.c, h.g, cnt_i _, cnt_i _, h.m0, h.m3, h.f0, h.f9⟩
   ·exact h.fail 4 (by decide)
  ·exact h.fail 1 (by decide)
 ·exact h.go 3 (by decide) (by decide)
abbrev cPlan (c : Cra) : Tup 6 := c.2.2.2.1
abbrev cDrif (c : Cra) : Dri := c.2.2.2.2.2.2.1
abbrev cGues (c : Cra) : Tup 43 := c.2.2.2.2.2.2.2.1
abbrev cAcks (c : Cra) : Tup 3 := c.2.2.2.2.2.2.2.2
structure AkI (a : Tup 3) : Prop where
 a0 : 0 ≤ a.1
 a1 : a.1 ≤ 255
 e0 : 0 ≤ a.2.1
 e1 : a.2.1 ≤ 255
 r0 : 0 ≤ a.2.2.1
 r1 : a.2.2.1 ≤ 65535
theorem rej_in {n : Int} (h0 : 0 ≤ n) (h1 : n ≤ 65535) : 0 ≤ rejW n ∧ rejW n ≤ 65535 := by
 unfold rejW
 split
 ·exact ⟨by decide, by decide⟩
 ·rw [IntKind.wrap_i64]
  constructor <;> omega
theorem ord_in (k : Int) (s : ByteArray) : 0 ≤ (ordR k s).1.1 ∧ (ordR k s).1.1 ≤ 255 ∧ 0 ≤ (ordR k s).2 ∧ (ordR k s).2 ≤ 255 := by
 have hb : (0 : Int) ≤ (bt s 0 : Nat) ∧ ((bt s 0 : Nat) : Int) ≤ 255 := by
  have := bt_lt s 0
  omega
 unfold ordR
 split
 ·exact ⟨by decide, by decide, by decide, by decide⟩
 split
 ·exact ⟨hb.1, hb.2, by dsimp only; decide, by dsimp only; decide⟩
 split
 ·exact ⟨hb.1, hb.2, by dsimp only; decide, by dsimp only; decide⟩
 split
 ·exact ⟨hb.1, hb.2, by dsimp only; decide, by dsimp only; decide⟩
 split
 ·exact ⟨hb.1, hb.2, by dsimp only; decide, by dsimp only; decide⟩
 split
 ·exact ⟨hb.1, hb.2, by dsimp only; decide, by dsimp only; decide⟩
 ·exact ⟨hb.1, hb.2, by dsimp only; decide, by dsimp only; decide⟩
def clrP (p : Tup 6) : Tup 6 := (p.1, p.2.1, p.2.2.1, p.2.2.2.1, p.2.2.2.2.1, 0, ())
structure Mid (c0 : Cra) (l : ByteArray) (c : Cra) : Prop where
 on : c.1 = c0.1
 tick : c.2.1 = c0.2.1
 left : c.2.2.1 = l
 plan : cPlan c = cPlan c0 ∨ cPlan c = clrP (cPlan c0)
 dri : cDrif c = cDrif c0
 gue : cGues c = cGues c0
 ak : AkI (cAcks c)
theorem Mid.rej {c0 c : Cra} {l : ByteArray} (h : Mid c0 l c) : Mid c0 l (rejC c) :=
 ⟨h.on, h.tick, h.left, h.plan, h.dri, h.gue, ⟨h.ak.a0, h.ak.a1, h.ak.e0, h.ak.e1, (rej_in h.ak.r0 h.ak.r1).1, (rej_in h.ak.r0 h.ak.r1).2⟩⟩
theorem Mid.ack {c0 c : Cra} {l : ByteArray} (h : Mid c0 l c) {q e : Int} (q0 : 0 ≤ q) (q1 : q ≤ 255) (e0 : 0 ≤ e) (e1 : e ≤ 255) : Mid c0 l (ackC c q e) :=
 ⟨h.on, h.tick, h.left, h.plan, h.dri, h.gue, ⟨q0, q1, e0, e1, h.ak.r0, h.ak.r1⟩⟩
theorem Mid.orb {c0 c : Cra} {l : ByteArray} (h : Mid c0 l c) (o : Tup 7) : Mid c0 l (orbC c o) := ⟨h.on, h.tick, h.left, h.plan, h.dri, h.gue, h.ak⟩
theorem Mid.clr {c0 c : Cra} {l : ByteArray} (h : Mid c0 l c) : Mid c0 l (clrC c) := by
 refine ⟨h.on, h.tick, h.left, .inr ?_, h.dri, h.gue, ⟨h.ak.a0, h.ak.a1, h.ak.e0, h.ak.e1, Int.le_refl 0, show (0 : Int) ≤ 65535 by decide⟩⟩
 show clrP (cPlan c) = _
 rcases h.plan with e | e <;> rw [e]
 rfl
def OrdI (x : Hea) : Prop := x.2.2.2 = 0 ∨ x.2.2.2 = 1 ∨ x.2.2.2 = 2
section
variable {F : Fs}
theorem Mid.sen {c0 c : Cra} {l : ByteArray} (h : Mid c0 l c) (x : Hea) (f : Fra) (t : Int) (ho : OrdI x) : Mid c0 l (senW F c x f t).1 ∧ OrdI (senW F c x f t).2 := by
 unfold senW
 split
 ·exact ⟨h.rej, ho⟩
 split
 ·exact ⟨h.rej, ho⟩
 split
 ·exact ⟨h, ho⟩
 split
 ·exact ⟨h, ho⟩
 split
 ·exact ⟨h, ho⟩
 ·exact ⟨h, ho⟩
theorem Mid.ord {c0 c : Cra} {l : ByteArray} (h : Mid c0 l c) (x : Hea) (f : Fra) (ho : OrdI x) : Mid c0 l (ordC c x (oreadT f)).1 ∧ OrdI (ordC c x (oreadT f)).2 := by
 obtain ⟨q0, q1, e0, e1⟩ := ord_in f.1 f.2
 have ha : Mid c0 l (ackC c (oreadT f).1.1 (oreadT f).2) := h.ack q0 q1 e0 e1
 generalize oreadT f = o at ha ⊢
 unfold ordC
 split
 ·exact ⟨ha.rej, ho⟩
 split
 ·rename_i e
  exact ⟨ha, .inr (.inl (of_decide_eq_true e))⟩
 split
 ·rename_i e
  exact ⟨ha, .inr (.inr (of_decide_eq_true e))⟩
 split
 ·exact ⟨ha.orb _, ho⟩
 split
 ·exact ⟨ha.clr, ho⟩
 ·exact ⟨ha, ho⟩
theorem Mid.hear (hF : FsIs F) {c0 : Cra} {l : ByteArray} (t : Int) (s : Cra × Hea) (f : Fra) (h : Mid c0 l s.1 ∧ OrdI s.2) : Mid c0 l (hearW F t s f).1 ∧ OrdI (hearW F t s f).2 := by
 unfold hearW
 split
 ·exact h.1.sen s.2 f t h.2
 split
 ·exact h.1.sen s.2 f t h.2
 split
 ·exact h.1.sen s.2 f t h.2
 split
 ·rw [hF.oread]
  exact h.1.ord s.2 f h.2
 ·exact ⟨h.1.rej, h.2⟩
end
theorem Mid.all {F : Fs} (hF : FsIs F) {c0 : Cra} {l : ByteArray} (t : Int) : ∀ (fs : List Fra) (s : Cra × Hea), Mid c0 l s.1 ∧ OrdI s.2 → Mid c0 l (fs.foldl (hearW F t) s).1 ∧ OrdI (fs.foldl (hearW F t) s).2
 | [], _, h => h
 | f :: fs, s, h => Mid.all hF t fs (hearW F t s f) (Mid.hear hF t s f h)
theorem take_mid {F : Fs} (hF : FsIs F) (c : Cra) (ha : AkI (cAcks c)) (t : Int) (b : ByteArray) : Mid c (restOf (c.2.2.1 ++ b).data.toList) (takeW F c t b).1 ∧ OrdI (takeW F c t b).2 := by
 unfold takeW
 refine Mid.all hF t _ _ ⟨?_, .inl rfl⟩
 have h : Mid c (restOf (c.2.2.1 ++ b).data.toList) (leftC c (restOf (c.2.2.1 ++ b).data.toList)) := ⟨rfl, rfl, rfl, .inl rfl, rfl, rfl, ha⟩
 unfold begW
 split
 ·exact h.rej
 ·exact h
theorem scanU_rest : ∀ (f : Nat) (s : List UInt8), (scanU f s).2.1.length ≤ s.length
 | 0, _ => Nat.le_refl _
 | f + 1, s => by
  unfold scanU
  split
  ·exact Nat.le_refl _
  ·have := scanU_rest f (s.drop 1)
   rw [List.length_drop] at this
   dsimp only
   omega
  ·rename_i n _
   have := scanU_rest f (s.drop (n + 5))
   rw [List.length_drop] at this
   dsimp only
   omega
theorem rest_size (L : List UInt8) : (restOf L).size ≤ L.length := scanU_rest _ L
end Go.Proofs.YtbophanlmkbfeaaGreatDoor
namespace Go.Proofs.YtbophanlmkbfeaaGreatDoor
open Go.RowKit
theorem filE_keeps (F : Fs) (s : See) (g : Tup 43) (b pass : Bool) : (filE F s g b pass).2.1 = s.1 ∧ (filE F s g b pass).2.2.2.2.2.2.2.2 = s.2.2.2.2.2.2.2 := by
 unfold filE
 split
 ·exact ⟨rfl, rfl⟩
 ·exact ⟨rfl, rfl⟩
theorem filR_keeps (F : Fs) (s : See) (x : Hea) (y : Sky) (r : Tup 43 × Bool) : (filR F s x y r).2.1 = s.1 ∧ (filR F s x y r).2.2.2.2.2.2.2.2 = s.2.2.2.2.2.2.2 := by
 unfold filR
 split
 ·split
  ·exact filE_keeps ..
  ·exact filE_keeps ..
 ·exact filE_keeps ..
theorem filW_keeps (F : Fs) (g : Tup 43) (s : See) (ms : Int) (x : Hea) (y : Sky) : (filW F g s ms x y).2.1 = s.1 ∧ (filW F g s ms x y).2.2.2.2.2.2.2.2 = s.2.2.2.2.2.2.2 := by
 unfold filW
 split
 ·exact filR_keeps ..
 ·exact filR_keeps ..
theorem decW_keeps (F : Fs) (c : Cra) (t : Int) (x : Hea) (y : Sky) : (decW F c t x y).1 = !goesW c t ∧ (decW F c t x y).2.2.2.2.2.2.2 = x.2.2.2 := by
 unfold decW
 split
 ·split
  ·exact ⟨rfl, rfl⟩
  ·exact ⟨rfl, rfl⟩
 ·split
  ·exact ⟨rfl, rfl⟩
  ·exact ⟨rfl, rfl⟩
theorem goW_is (F : Fs) (c : Cra) (x : Hea) (t : Int) : ∃ g s, goW F c x t = endW F (setGue c g) s x (skyW F c t) t ∧ s.1 = !goesW c t ∧ s.2.2.2.2.2.2.2 = x.2.2.2 := by
 have hd := decW_keeps F c t x (skyW F c t)
 unfold goW
 split
 ·split
  ·have hf := filW_keeps F c.2.2.2.2.2.2.2.1 (decW F c t x (skyW F c t)) (IntKind.i64.wrap (t - c.2.1)) x (skyW F c t)
   exact ⟨_, _, rfl, hf.1.trans hd.1, hf.2.trans hd.2⟩
  ·exact ⟨cGues c, _, rfl, hd.1, hd.2⟩
 ·exact ⟨cGues c, _, rfl, hd.1, hd.2⟩
theorem entW_is (F : Fs) (p a b : Tup 6) : (entW F p a b).1 = p ∨ (entW F p a b).1 = (1, 0, 0, 0, 0, or4W p.2.2.2.2.2.1, ()) := by
 unfold entW
 split
 ·exact .inr rfl
 ·exact .inl rfl
theorem plan_is {F : Fs} (hF : FsIs F) (c : Cra) (s : See) (x : Hea) (y : Sky) :
    (planW F c s x y).1 = nextT (cPlan c, s) ∨ ((nextT (cPlan c, s)).1 = 2 ∧ (cPlan c).1 ≠ 2 ∧ (planW F c s x y).1 = (1, 0, 0, 0, 0, or4W (nextT (cPlan c, s)).2.2.2.2.2.1, ())) := by
 unfold planW
 rw [hF.next]
 split
 ·exact .inl rfl
 rename_i h2
 split
 ·exact .inl rfl
 rename_i h3
 rcases entW_is F (nextT (cPlan c, s)) y.2.2 (dirsW x) with e | e
 ·exact .inl e
 ·refine .inr ⟨?_, ?_, e⟩
  ·simpa using h2
  ·simpa using h3
theorem plan_in {F : Fs} (hF : FsIs F) {c : Cra} (h : PlI (plOf (cPlan c))) (s : See) (x : Hea) (y : Sky) : PlI (plOf (planW F c s x y).1) := by
 have hn : PlI (plOf (nextT (cPlan c, s))) := h.step (snOf s)
 rcases plan_is hF c s x y with e | ⟨_, _, e⟩
 ·rw [e]
  exact hn
 ·rw [e]
  exact hn.fail 4 (by decide)
theorem tcS_in (r : Int × Bool) : inR (tcS r).1 (-32768) 32767 = true := by
 unfold tcS
 split
 ·assumption
 ·rfl
theorem tlC_in (q : Int × Int × Int × Int) (m : V3) : inR (tlC q m).1.1 (-32768) 32767 = true ∧ inR (tlC q m).1.2.1 (-32768) 32767 = true ∧ inR (tlC q m).1.2.2.1 (-32768) 32767 = true ∧ inR (tlC q m).1.2.2.2 (-32768) 32767 = true ∧ inR (tlC q m).2.1 (-32768) 32767 = true ∧ inR (tlC q m).2.2.1 (-32768) 32767 = true ∧ inR (tlC q m).2.2.2 (-32768) 32767 = true := by
 unfold tlC
 dsimp only
 split
 ·exact ⟨rfl, rfl, rfl, rfl, rfl, rfl, rfl⟩
 ·exact ⟨tcS_in _, tcS_in _, tcS_in _, tcS_in _, tcS_in _, tcS_in _, tcS_in _⟩
structure CInv (c : Cra) : Prop where
 t : cRight c.2.1 = true
 p : PlI (plOf (cPlan c))
 off : c.1 = false → (cPlan c).1 = 0
 ak : AkI (cAcks c)
theorem CInv.zero : CInv zeroCra := ⟨rfl, ⟨i64_0, i64_0, i64_0, i64_0, Int.le_refl 0, show (0 : Int) ≤ 3 by decide, Int.le_refl 0, show (0 : Int) ≤ 15 by decide⟩, fun _ => rfl, ⟨Int.le_refl 0, show (0 : Int) ≤ 255 by decide, Int.le_refl 0, show (0 : Int) ≤ 255 by decide, Int.le_refl 0, show (0 : Int) ≤ 65535 by decide⟩⟩
def telF (F : Fs) (c : Cra) : Tel := telT c (countsT (q4T (cGues c), coilW F c))
theorem tel_ok (F : Fs) {c : Cra} (h : CInv c) : tlOk (tlOf (telF F c)) = true := by
 obtain ⟨h1, h2, h3, h4, h5, h6, h7⟩ := tlC_in ((q4T (cGues c)).1, (q4T (cGues c)).2.1, (q4T (cGues c)).2.2.1, (q4T (cGues c)).2.2.2.1) ((coilW F c).1, (coilW F c).2.1, (coilW F c).2.2.1)
 have a := h.t
 have b : inR (cPlan c).1 0 3 = true := inR_iff.2 ⟨h.p.m0, h.p.m3⟩
 have d : inR (cPlan c).2.2.2.2.2.1 0 15 = true := inR_iff.2 ⟨h.p.f0, h.p.f9⟩
 have e : inR (cAcks c).1 0 255 = true := inR_iff.2 ⟨h.ak.a0, h.ak.a1⟩
 have f : inR (cAcks c).2.1 0 255 = true := inR_iff.2 ⟨h.ak.e0, h.ak.e1⟩
 have g : inR (cAcks c).2.2.1 0 65535 = true := inR_iff.2 ⟨h.ak.r0, h.ak.r1⟩
 show (cRight c.2.1 && inR (cPlan c).1 0 3 && inR (cPlan c).2.2.2.2.2.1 0 15 && inR (cAcks c).1 0 255 && inR (cAcks c).2.1 0 255 && inR (cAcks c).2.2.1 0 65535 && _ && _ && _ && _ && _ && _ && _) = true
 rw [a, b, d, e, f, g]
 exact (congrArg (fun z => z && _ && _ && _ && _ && _ && _) h1).trans ((congrArg (fun z => z && _ && _ && _ && _ && _) h2).trans ((congrArg (fun z => z && _ && _ && _ && _) h3).trans ((congrArg (fun z => z && _ && _ && _) h4).trans ((congrArg (fun z => z && _ && _) h5).trans ((congrArg (fun z => z && _) h6).trans h7)))))
def tailOf (T : Tl) : List UInt8 := (wrapL 32 (strOf (tlL T)).data.toList).drop 1
def bytesOf (T : Tl) : ByteArray := ⟨⟨165 :: tailOf T⟩⟩
theorem tlStr_size (T : Tl) : (strOf (tlL T)).size = 26 := rfl
theorem told_is {F : Fs} (hF : FsIs F) {c : Cra} (h : CInv c) : toldW F c = bytesOf (tlOf (telF F c)) := by
 have ok := tel_ok F h
 unfold toldW
 rw [hF.write, hF.counts, hF.wrap]
 show (if (!(writeT (telF F c)).2) = true then noBytes else (wrapT (writeT (telF F c)).1).1) = _
 have e2 : (writeT (telF F c)).2 = true := ok
 have e1 : (writeT (telF F c)).1 = (32, strOf (tlL (tlOf (telF F c)))) := by
  show tlW (tlOf (telF F c)) = _
  unfold tlW
  rw [if_pos ok]
 rw [e2, e1]
 show (wrapT (32, strOf (tlL (tlOf (telF F c))))).1 = _
 unfold wrapT
 rw [if_pos ⟨by dsimp only; decide, by dsimp only; decide, by dsimp only; rw [tlStr_size]; decide⟩]
 rfl
structure Took (F : Fs) (c : Cra) (t : Int) (b : ByteArray) (d : Cra) : Prop where
 right : cRight t = true
 late : c.1 = true → c.2.1 < t
 inv : CInv d
 tick : d.2.1 = t
 on : d.1 = true
 left : d.2.2.1 = restOf (c.2.2.1 ++ b).data.toList
 plan : ∃ p s, (p = cPlan c ∨ p = clrP (cPlan c)) ∧ (s.1 = !goesW c t) ∧ s.2.2.2.2.2.2.2 = (takeW F c t b).2.2.2.2 ∧ OrdI (takeW F c t b).2 ∧ (cPlan d = nextT (p, s) ∨ ((nextT (p, s)).1 = 2 ∧ p.1 ≠ 2 ∧ cPlan d = (1, 0, 0, 0, 0, or4W (nextT (p, s)).2.2.2.2.2.1, ())))
theorem goesW_same {c d : Cra} (h1 : d.1 = c.1) (h2 : d.2.1 = c.2.1) (t : Int) : goesW d t = goesW c t := by
 unfold goesW
 rw [h1, h2]
def stays (c : Cra) (t : Int) : Bool := !cRight t || (c.1 && decide (t ≤ c.2.1))
theorem stays_yes {F : Fs} (hF : FsIs F) {c : Cra} {t : Int} (h : stays c t = true) (b : ByteArray) : stepF F c t b = (c, noBytes) := by
 unfold stays at h
 unfold stepF stepW
 rw [hF.right]
 cases hr : cRight t
 ·rfl
 ·rw [hr] at h
  simp only [Bool.not_true, Bool.false_or, Bool.and_eq_true] at h
  simp only [Bool.not_true, Bool.false_eq_true, if_false]
  rw [if_pos h.1, if_pos h.2]
theorem stays_no {F : Fs} (hF : FsIs F) {c : Cra} {t : Int} (h : stays c t = false) (b : ByteArray) : stepF F c t b = stepR F (fun _ => takeW F c t b) c t b ∧ cRight t = true ∧ (c.1 = true → c.2.1 < t) := by
 unfold stays at h
 unfold stepF stepW
 rw [hF.right]
 cases hr : cRight t
 ·rw [hr] at h; cases h
 ·rw [hr] at h
  simp only [Bool.not_true, Bool.false_or] at h
  simp only [Bool.not_true, Bool.false_eq_true, if_false]
  cases hc : c.1
  ·exact ⟨rfl, by trivial, fun h => by cases h⟩
  ·rw [hc] at h
   simp only [Bool.true_and] at h
   simp only [if_true]
   rw [h]
   exact ⟨rfl, by trivial, fun _ => by have := of_decide_eq_false h; omega⟩
theorem took_of {F : Fs} (hF : FsIs F) {c : Cra} (hI : CInv c) (t : Int) (b : ByteArray) (hr : cRight t = true) (hl : c.1 = true → c.2.1 < t) :
    Took F c t b (stepR F (fun _ => takeW F c t b) c t b).1 ∧ (stepR F (fun _ => takeW F c t b) c t b).2 = bytesOf (tlOf (telF F (stepR F (fun _ => takeW F c t b) c t b).1)) := by
 obtain ⟨hm, ho⟩ := take_mid hF c hI.ak t b
 unfold stepR
 dsimp only
 have hpO : ∀ x, x = (takeW F c t b).2 → x.2.2.2 = (takeW F c t b).2.2.2.2 ∧ OrdI (takeW F c t b).2 := fun x e => by rw [e]; exact ⟨rfl, ho⟩
 generalize hT : takeW F c t b = T at hm ho ⊢
 obtain ⟨c1, x⟩ := T
 dsimp only at hm ho ⊢
 generalize driftW F c1.2.2.2.2.2.2.1 x = dr
 obtain ⟨g, s, e, hg, hs⟩ := goW_is F (setDri c1 dr) x t
 rw [e]
 generalize skyW F (setDri c1 dr) t = y
 have hp : PlI (plOf (cPlan (setGue (setDri c1 dr) g))) := by
  show PlI (plOf (cPlan c1))
  rcases hm.plan with e | e <;> rw [e]
  ·exact hI.p
  ·exact ⟨hI.p.c, hI.p.g, hI.p.i, hI.p.l, hI.p.m0, hI.p.m3, Int.le_refl 0, show (0 : Int) ≤ 15 by decide⟩
 have hq := plan_in hF hp s x y
 have hpl := plan_is hF (setGue (setDri c1 dr) g) s x y
 unfold endW
 dsimp only
 generalize planW F (setGue (setDri c1 dr) g) s x y = P at hq hpl ⊢
 have hi : CInv (setEnd (setGue (setDri c1 dr) g) t P.1 P.2) := ⟨hr, hq, fun h => Bool.noConfusion h, hm.ak⟩
 have hpx := hpO x (by rw [hT])
 refine ⟨⟨hr, hl, hi, rfl, rfl, hm.left, cPlan c1, s, hm.plan, ?_, hs.trans hpx.1, hpx.2, hpl⟩, told_is hF hi⟩
 rw [hg]
 exact congrArg _ (goesW_same hm.on hm.tick t)
theorem took {F : Fs} (hF : FsIs F) {c : Cra} (hI : CInv c) {t : Int} (b : ByteArray) (h : stays c t = false) :
    Took F c t b (stepF F c t b).1 ∧ (stepF F c t b).2 = bytesOf (tlOf (telF F (stepF F c t b).1)) := by
 obtain ⟨e, hr, hl⟩ := stays_no hF h b
 rw [e]
 exact took_of hF hI t b hr hl
end Go.Proofs.YtbophanlmkbfeaaGreatDoor
namespace Go.Proofs.YtbophanlmkbfeaaGreatDoor
open Go.RowKit
def selfOk (P : Program) : Nat → TypeId → Value → Bool
 | 0, _, _ => false
 | d + 1, t, v => match P.underlying t, v with
  | some .bool, .bool _ => true
  | some (.int _), .int _ _ => true
  | some .string, .string _ => true
  | some (.struct fs), .agg xs => !P.stoodInHeld t && fs.toList.all fun f => match qrun P (part f.type xs f.offset) with
   | some u => selfOk P d f.type u
   | none => false
  | some (.array n e), .agg xs => (P.info? e).isSome && (List.range n).all fun i => match qrun P (part e xs (i * P.cellsOf e)) with
   | some u => selfOk P d e u
   | none => false
  | _, _ => false
section
variable {P : Program}
def SelfAt (P : Program) (d : Nat) : Prop := ∀ t v, selfOk P d t v = true → ∀ (k : Nat) (w : World), (Op.equalIn (k + d) t v v).run P w = .ok true w
theorem fields_self {d k : Nat} (ih : SelfAt P d) (xs : Array Value) (w : World) : ∀ fs : List Field, (fs.all fun f => match qrun P (part f.type xs f.offset) with
      | some u => selfOk P d f.type u
      | none => false) = true → (Op.eqFields (k + d) xs xs fs).run P w = .ok true w
 | [], _ => by simp [Op.eqFields]
 | f :: fs, h => by
  rw [List.all_cons, Bool.and_eq_true] at h
  have ih2 := fields_self (k := k) ih xs w fs h.2
  have h1 := h.1
  unfold Op.eqFields
  split
  ·split at h1
   ·rename_i u hu
    have p := qrun_run _ hu w
    have e := ih _ _ h1 k w
    simp only [Sem.run_bind, p, Result.andThen_ok, e, Bool.not_true, Bool.false_eq_true, if_false, ih2]
   ·cases h1
  ·exact ih2
theorem items_self {d k : Nat} (ih : SelfAt P d) (e : TypeId) (xs : Array Value) (w : World) : ∀ is : List Nat, (is.all fun i => match qrun P (part e xs (i * P.cellsOf e)) with
      | some u => selfOk P d e u
      | none => false) = true → (Op.eqItems (k + d) e (P.cellsOf e) xs xs is).run P w = .ok true w
 | [], _ => by simp [Op.eqItems]
 | i :: is, h => by
  rw [List.all_cons, Bool.and_eq_true] at h
  have ih2 := items_self (k := k) ih e xs w is h.2
  have h1 := h.1
  unfold Op.eqItems
  split at h1
  ·rename_i u hu
   have p := qrun_run _ hu w
   have e := ih _ _ h1 k w
   simp only [Sem.run_bind, p, Result.andThen_ok, e, Bool.not_true, Bool.false_eq_true, if_false, ih2]
  ·cases h1
theorem self_at : ∀ d, SelfAt P d
 | 0 => fun t v h => by cases h
 | d + 1 => fun t v h k w => by
  have ih := self_at d
  unfold selfOk at h
  split at h
  ·rename_i hu
   rw [← Nat.add_assoc, run_equalIn_bool' w _ _ _ _ hu]
   simp
  ·rename_i hu
   rw [← Nat.add_assoc, run_equalIn_int w _ _ _ _ _ _ hu]
   simp
  ·rename_i hu
   rw [← Nat.add_assoc, run_equalIn_string w _ _ _ _ hu]
   simp
  ·rename_i fs xs hu
   rw [Bool.and_eq_true] at h
   have hf : P.fieldsOf t = fs := by unfold Program.fieldsOf; rw [hu]
   rw [← Nat.add_assoc, run_equalIn_struct w _ _ _ _ (by rw [hf]; exact hu) (by simpa using h.1), hf]
   exact fields_self ih xs w _ h.2
  ·rename_i n e xs hu
   rw [Bool.and_eq_true] at h
   obtain ⟨i, hi⟩ := Option.isSome_iff_exists.1 h.1
   rw [← Nat.add_assoc, run_equalIn_array w _ _ _ hu hi]
   exact items_self ih e xs w _ h.2
  ·cases h
end
end Go.Proofs.YtbophanlmkbfeaaGreatDoor
