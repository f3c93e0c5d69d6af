/-
A part.
A part.
A part.
A part.
A part.
A part.
A part.
A part.
A part.
A part.
-/
import Derived.Handy
import Derived.Test.YtbophanlmkbfeaaGreatDoorRows
import Derived.WalkKit
import Derived.WalkSpells
import Derived.WalkLawsBesides
import Derived.Deep.RegionHeld3
import Derived.LoopN
import Derived.Test.YtbophanlmkbfeaaGreatDoorHE01
namespace Go.Proofs.YtbophanlmkbfeaaGreatDoor
open Go.RowKit
set_option linter.unusedSimpArgs false
theorem qUnit_cases (bad : Bool) (q : V4) :
    ((normS (vNormS bad (q.1, q.2.1, q.2.2.1)).2 (vNormS bad (q.1, q.2.1, q.2.2.1)).1 q.2.2.2 0).1 < 549755813888 ∧ qUnitS bad q = ((0, 0, 0, 0), true)) ∨
    (∃ N n d0 d1 d2 d3, bad = false ∧ normS false q.1 q.2.1 q.2.2.1 = (N, false) ∧ normS false N q.2.2.2 0 = (n, false) ∧ 549755813888 ≤ n ∧ divS false q.1 n = (d0, false) ∧ divS false q.2.1 n = (d1, false) ∧ divS false q.2.2.1 n = (d2, false) ∧ divS false q.2.2.2 n = (d3, false) ∧
      Uof d0 q.1 n ∧ Uof d1 q.2.1 n ∧ Uof d2 q.2.2.1 n ∧ Uof d3 q.2.2.2 n ∧ qUnitS bad q = (if d3 < 0 then (-d0, -d1, -d2, -d3) else (d0, d1, d2, d3), false)) := by
 have hN : vNormS bad (q.1, q.2.1, q.2.2.1) = normS bad q.1 q.2.1 q.2.2.1 := rfl
 by_cases c : (normS (vNormS bad (q.1, q.2.1, q.2.2.1)).2 (vNormS bad (q.1, q.2.1, q.2.2.1)).1 q.2.2.2 0).1 < 549755813888
 ·exact Or.inl ⟨c, by unfold qUnitS; dsimp only; rw [if_pos c]⟩
 ·refine Or.inr ?_
  rw [hN] at c
  cases h1 : normS bad q.1 q.2.1 q.2.2.1 with
  | mk N b1 =>
   rw [h1] at c
   dsimp only at c
   cases h2 : normS b1 N q.2.2.2 0 with
   | mk n b2 =>
    rw [h2] at c
    dsimp only at c
    have hb2 : b2 = false := by
     cases b2
     ·rfl
     ·have := normS_bad b1 N q.2.2.2 0 (by rw [h2])
      rw [h2] at this
      have : n = 0 := this
      omega
    subst hb2
    have g2 := normS_good h2
    have hb1 := g2.1
    subst hb1
    have g1 := normS_good h1
    have hb := g1.1
    subst hb
    have s0 := sq_nonneg q.1
    have s1 := sq_nonneg q.2.1
    have s2 := sq_nonneg q.2.2.1
    have s3 := sq_nonneg q.2.2.2
    have sN := sq_nonneg N
    have k0 := abs_le_of_sq (a := q.1) g1.2.2.2.2.1 (by omega)
    have k1 := abs_le_of_sq (a := q.2.1) g1.2.2.2.2.1 (by omega)
    have k2 := abs_le_of_sq (a := q.2.2.1) g1.2.2.2.2.1 (by omega)
    have kN := abs_le_of_sq (a := N) g2.2.2.2.2.1 (by omega)
    have k3 := abs_le_of_sq (a := q.2.2.2) g2.2.2.2.2.1 (by omega)
    obtain ⟨d0, e0, U0⟩ := div_unit q.1 n (by omega) (by omega)
    obtain ⟨d1, e1, U1⟩ := div_unit q.2.1 n (by omega) (by omega)
    obtain ⟨d2, e2, U2⟩ := div_unit q.2.2.1 n (by omega) (by omega)
    obtain ⟨d3, e3, U3⟩ := div_unit q.2.2.2 n (by omega) (by omega)
    refine ⟨N, n, d0, d1, d2, d3, rfl, h1, h2, by omega, e0, e1, e2, e3, U0, U1, U2, U3, ?_⟩
    have ew : uprightS (d0, d1, d2, d3) = if d3 < 0 then (-d0, -d1, -d2, -d3) else (d0, d1, d2, d3) := by
     have := U0.lo; have := U0.hi; have := U1.lo; have := U1.hi; have := U2.lo; have := U2.hi; have := U3.lo; have := U3.hi
     unfold uprightS
     dsimp only
     by_cases k : d3 < 0
     ·rw [if_neg (by omega), if_pos k, minusS_in (by omega) (by omega), minusS_in (by omega) (by omega), minusS_in (by omega) (by omega), minusS_in (by omega) (by omega)]
     ·rw [if_pos (by omega), if_neg k]
    unfold qUnitS
    simp only [hN, h1, h2, e0, e1, e2, e3, if_neg c, ew]
theorem qUnit_true (q : V4) : qUnitS true q = ((0, 0, 0, 0), true) := by
 unfold qUnitS
 simp only [vNorm_true, normS_true]
 rw [if_pos (by decide)]
end Go.Proofs.YtbophanlmkbfeaaGreatDoor
namespace Go.Proofs.YtbophanlmkbfeaaGreatDoor
open Go.RowKit
structure Ab (x K : Int) : Prop where
 lo : -K ≤ x
 hi : x ≤ K
theorem Ab.add {x y K L : Int} (h : Ab x K) (k : Ab y L) : Ab (x + y) (K + L) := ⟨by have := h.lo; have := k.lo; omega, by have := h.hi; have := k.hi; omega⟩
theorem Ab.sub {x y K L : Int} (h : Ab x K) (k : Ab y L) : Ab (x - y) (K + L) := ⟨by have := h.lo; have := k.hi; omega, by have := h.hi; have := k.lo; omega⟩
theorem Ab.neg {x K : Int} (h : Ab x K) : Ab (-x) K := ⟨by have := h.hi; omega, by have := h.lo; omega⟩
theorem Ab.mul {x y K L : Int} (h : Ab x K) (k : Ab y L) : Ab (x * y) (K * L) := by
 have := absmul ⟨h.lo, h.hi⟩ ⟨k.lo, k.hi⟩
 exact ⟨this.1, this.2⟩
theorem Ab.le {x K L : Int} (h : Ab x K) (k : K ≤ L) : Ab x L := ⟨by have := h.lo; omega, by have := h.hi; omega⟩
theorem Ab.two : Ab 2 2 := ⟨by decide, by decide⟩
theorem Ab.zero {K : Int} (h : 0 ≤ K) : Ab 0 K := ⟨by omega, h⟩
theorem Ab.numB {x K : Int} (h : Ab x K) (k : K ≤ 4611686018427387904) : numB x = true := numB_of ⟨by have := h.lo; omega, by have := h.hi; omega⟩
theorem add_near {a b K L : Int} (ha : Ab a K) (hb : Ab b L) (h : K + L ≤ 4611686018427387904) (h1 : K ≤ 4611686018427387904) (h2 : L ≤ 4611686018427387904) : addS false a b = (a + b, false) :=
 addS_good a b (ha.numB h1) (hb.numB h2) ((ha.add hb).numB h)
theorem sub_near {a b K L : Int} (ha : Ab a K) (hb : Ab b L) (h : K + L ≤ 4611686018427387904) (h1 : K ≤ 4611686018427387904) (h2 : L ≤ 4611686018427387904) : subS false a b = (a - b, false) :=
 subS_good a b (ha.numB h1) (hb.numB h2) ((ha.sub hb).numB h)
end Go.Proofs.YtbophanlmkbfeaaGreatDoor
namespace Go.Proofs.YtbophanlmkbfeaaGreatDoor
open Go.RowKit
theorem unit_sq (u a n : Int) : n * n * (u * u) = 1208925819614629174706176 * (a * a) + 1099511627776 * (a * (2 * (u * n - a * 1099511627776))) + (u * n - a * 1099511627776) * (u * n - a * 1099511627776) := by grind
theorem unit_sq_bd (u a n : Int) (U : Uof u a n) (ha : -n ≤ a ∧ a ≤ n) : 1208925819614629174706176 * (a * a) - 1099511627776 * (n * n) ≤ n * n * (u * u) ∧ 4 * (n * n * (u * u)) ≤ 4 * (1208925819614629174706176 * (a * a) + 1099511627776 * (n * n)) + n * n := by
 rw [unit_sq]
 have h := U.up
 have k := U.dn
 have e : -n ≤ 2 * (u * n - a * 1099511627776) ∧ 2 * (u * n - a * 1099511627776) ≤ n := by omega
 have p := absmul ha e
 have q := absmul e e
 have s := sq_nonneg (u * n - a * 1099511627776)
 have r : 2 * (u * n - a * 1099511627776) * (2 * (u * n - a * 1099511627776)) = 4 * ((u * n - a * 1099511627776) * (u * n - a * 1099511627776)) := by grind
 rw [r] at q
 generalize a * (2 * (u * n - a * 1099511627776)) = P at *
 generalize (u * n - a * 1099511627776) * (u * n - a * 1099511627776) = E at *
 omega
end Go.Proofs.YtbophanlmkbfeaaGreatDoor
namespace Go.Proofs.YtbophanlmkbfeaaGreatDoor
open Go.RowKit
theorem unit_sum4 (a b c d N n x y z t : Int) (hN : 0 ≤ N) (hn : 549755813888 ≤ n) (h1 : N * N ≤ a * a + b * b + c * c) (h2 : a * a + b * b + c * c < (N + 1) * (N + 1)) (h3 : n * n ≤ N * N + d * d + 0 * 0) (h4 : N * N + d * d + 0 * 0 < (n + 1) * (n + 1))
    (X : Uof x a n) (Y : Uof y b n) (Z : Uof z c n) (T : Uof t d n) : Ab (x * x + y * y + z * z + t * t - 1208925819614629174706176) 14293651161088 := by
 have sa := sq_nonneg a
 have sb := sq_nonneg b
 have sc := sq_nonneg c
 have sd := sq_nonneg d
 have sN := sq_nonneg N
 have kN := abs_le_of_sq (a := N) (by omega : 0 ≤ n) (by omega)
 have ka := abs_le_of_sq (a := a) hN (by omega)
 have kb := abs_le_of_sq (a := b) hN (by omega)
 have kc := abs_le_of_sq (a := c) hN (by omega)
 have kd := abs_le_of_sq (a := d) (by omega : 0 ≤ n) (by omega)
 have ba := unit_sq_bd x a n X (by omega)
 have bb := unit_sq_bd y b n Y (by omega)
 have bc := unit_sq_bd z c n Z (by omega)
 have bd := unit_sq_bd t d n T kd
 have e : n * n * (x * x + y * y + z * z + t * t) = n * n * (x * x) + n * n * (y * y) + n * n * (z * z) + n * n * (t * t) := by grind
 have n2 : (n + 1) * (n + 1) = n * n + 2 * n + 1 := by grind
 have m2 : (N + 1) * (N + 1) = N * N + 2 * N + 1 := by grind
 rw [n2] at h4
 rw [m2] at h2
 have nn : 549755813888 * n ≤ n * n := Int.mul_le_mul_of_nonneg_right hn (by omega)
 generalize n * n * (x * x) = x' at *
 generalize n * n * (y * y) = y' at *
 generalize n * n * (z * z) = z' at *
 generalize n * n * (t * t) = t' at *
 generalize x * x + y * y + z * z + t * t = W at *
 generalize a * a = aa at *
 generalize b * b = bb' at *
 generalize c * c = cc at *
 generalize d * d = dd at *
 generalize N * N = NN at *
 constructor
 ·by_cases k : 1208925819614629174706176 - 14293651161088 ≤ W
  ·omega
  ·have := Int.mul_le_mul_of_nonneg_left (by omega : W ≤ 1208925819614629174706176 - 14293651161088 - 1) (by omega : 0 ≤ n * n)
   generalize n * n = q at *
   omega
 ·by_cases k : W ≤ 1208925819614629174706176 + 14293651161088
  ·omega
  ·have h3 := Int.mul_le_mul_of_nonneg_left (by omega : 1208925819614629174706176 + 14293651161088 + 1 ≤ W) (by omega : 0 ≤ n * n)
   generalize n * n = q at *
   omega
structure U4 (u0 u1 u2 u3 : Int) : Prop where
 a0 : Ab u0 1099511627776
 a1 : Ab u1 1099511627776
 a2 : Ab u2 1099511627776
 a3 : Ab u3 1099511627776
 up : 0 ≤ u3
 len : Ab (u0 * u0 + u1 * u1 + u2 * u2 + u3 * u3 - 1208925819614629174706176) 14293651161088
theorem unit_math (q : V4) : (qUnitS false q = ((0, 0, 0, 0), true)) ∨ ∃ u0 u1 u2 u3, qUnitS false q = ((u0, u1, u2, u3), false) ∧ U4 u0 u1 u2 u3 := by
 rcases qUnit_cases false q with ⟨_, e⟩ | ⟨N, n, d0, d1, d2, d3, _, h1, h2, c, _, _, _, _, U0, U1, U2, U3, e⟩
 ·exact Or.inl e
 ·refine Or.inr ?_
  have g1 := normS_good h1
  have g2 := normS_good h2
  have s := unit_sum4 q.1 q.2.1 q.2.2.1 q.2.2.2 N n d0 d1 d2 d3 g1.2.2.2.2.1 c g1.2.2.2.2.2.2.1 g1.2.2.2.2.2.2.2 g2.2.2.2.2.2.2.1 g2.2.2.2.2.2.2.2 U0 U1 U2 U3
  by_cases k : d3 < 0
  ·rw [if_pos k] at e
   refine ⟨-d0, -d1, -d2, -d3, e, ⟨⟨by have := U0.hi; omega, by have := U0.lo; omega⟩, ⟨by have := U1.hi; omega, by have := U1.lo; omega⟩, ⟨by have := U2.hi; omega, by have := U2.lo; omega⟩, ⟨by have := U3.hi; omega, by have := U3.lo; omega⟩, by omega, ?_⟩⟩
   rw [Int.neg_mul_neg, Int.neg_mul_neg, Int.neg_mul_neg, Int.neg_mul_neg]
   exact s
  ·rw [if_neg k] at e
   exact ⟨d0, d1, d2, d3, e, ⟨⟨U0.lo, U0.hi⟩, ⟨U1.lo, U1.hi⟩, ⟨U2.lo, U2.hi⟩, ⟨U3.lo, U3.hi⟩, by omega, s⟩⟩
end Go.Proofs.YtbophanlmkbfeaaGreatDoor
namespace Go.Proofs.YtbophanlmkbfeaaGreatDoor
open Go.RowKit
theorem norm_near {t0 t1 t2 K : Int} (h0 : Ab t0 K) (h1 : Ab t1 K) (h2 : Ab t2 K) (hK : K ≤ 1152921504606846976) :
    ∃ N, vNormS false (t0, t1, t2) = (N, false) ∧ 0 ≤ N ∧ N * N ≤ t0 * t0 + t1 * t1 + t2 * t2 ∧ t0 * t0 + t1 * t1 + t2 * t2 < (N + 1) * (N + 1) := by
 have q0 := (h0.le hK).mul (h0.le hK)
 have q1 := (h1.le hK).mul (h1.le hK)
 have q2 := (h2.le hK).mul (h2.le hK)
 have := q0.hi; have := q1.hi; have := q2.hi
 have s0 := sq_nonneg t0
 have s1 := sq_nonneg t1
 have s2 := sq_nonneg t2
 have s := isq_spec (t0 * t0 + t1 * t1 + t2 * t2) (by omega) (by omega)
 refine ⟨isq (t0 * t0 + t1 * t1 + t2 * t2), normS_make (h0.numB (by omega)) (h1.numB (by omega)) (h2.numB (by omega)) s.1 ?_ s.2.1 s.2.2, s.1, s.2.1, s.2.2⟩
 by_cases k : isq (t0 * t0 + t1 * t1 + t2 * t2) ≤ 4611686018427387904
 ·exact k
 ·have := sq_mono (by omega : (0 : Int) ≤ 4611686018427387905) (by omega : 4611686018427387905 ≤ isq (t0 * t0 + t1 * t1 + t2 * t2))
  omega
end Go.Proofs.YtbophanlmkbfeaaGreatDoor
namespace Go.Proofs.YtbophanlmkbfeaaGreatDoor
theorem zA {α : Type} {l : List α} {i : Nat} {a : α} : l.toArray.setIfInBounds i a = (l.set i a).toArray := by simp
theorem zB {α : Type} {x : α} {xs : List α} {a : α} : (x :: xs).set 0 a = a :: xs := rfl
theorem zC {α : Type} {x : α} {xs : List α} {i : Nat} {a : α} : (x :: xs).set (i + 1) a = x :: xs.set i a := rfl
theorem zD {p : Prop} [d : Decidable p] (h : decide p = true) : p := of_decide_eq_true h
theorem zL {a b : Nat} (h : a < b) : a ≠ b := by omega
theorem zG {a b : Nat} (h : b < a) : a ≠ b := by omega
end Go.Proofs.YtbophanlmkbfeaaGreatDoor
namespace Go.Proofs.YtbophanlmkbfeaaGreatDoor
open Go.RowKit
theorem ret_bool {a b : Bool} (h : a = b) : Ending.returned (.bool a) = .returned (.bool b) := by rw [h]
theorem ret_int {k : IntKind} {a b : Int} (h : a = b) : Ending.returned (.int k a) = .returned (.int k b) := by rw [h]
set_option maxHeartbeats 400000 in
theorem isNumber_any (a : Int) (w : World) :
    Calls Tryz.prog 209 #[.int .i64 a] w fun e w' => e = .returned (.bool (numB a)) ∧ w' = w := by
 go_enter Tryz.func209, Tryz.ntmps209
 go_wp2
 all_goals
  go_ret
  exact ⟨ret_bool (by unfold numB; simp; try omega), rfl⟩
theorem ret_agg2 {k l : IntKind} {a b c d : Int} (h : a = c) (h' : b = d) : Ending.returned (.agg #[.int k a, .int l b]) = .returned (.agg #[.int k c, .int l d]) := by rw [h, h']
set_option maxHeartbeats 400000 in
theorem product_any (a b : Int) (w : World) (h0 : 0 ≤ a) (h1 : a ≤ 18446744073709551615) (k0 : 0 ≤ b) (k1 : b ≤ 18446744073709551615) :
    Calls Tryz.prog 161 #[.int .u64 a, .int .u64 b] w fun e w' => e = .returned (.agg #[.int .u64 (hi64 (a * b)), .int .u64 (lo64 (a * b))]) ∧ Below w.heap.size w w' := by
 have HP : Hid _ := prod_words a b h0 h1 k0 k1
 go_enter Tryz.func161, Tryz.ntmps161
 go_wp2
 go_returns
 exact ⟨ret_agg2 HP.out.1 HP.out.2, by go_grown⟩
set_option maxHeartbeats 400000 in
theorem plus_gen (a b c d : Int) (w : World) (h1 : 0 ≤ a ∧ a ≤ 18446744073709551615) (h2 : 0 ≤ b ∧ b ≤ 18446744073709551615) (h3 : 0 ≤ c ∧ c ≤ 18446744073709551615) (h4 : 0 ≤ d ∧ d ≤ 18446744073709551615)
    (hs : a * 18446744073709551616 + b + (c * 18446744073709551616 + d) ≤ 340282366920938463463374607431768211455) :
    Calls Tryz.prog 173 #[.agg #[.int .u64 a, .int .u64 b], .agg #[.int .u64 c, .int .u64 d]] w fun e w' => e = .returned (.agg #[.int .u64 (hi64 (a * 18446744073709551616 + b + (c * 18446744073709551616 + d))), .int .u64 (lo64 (a * 18446744073709551616 + b + (c * 18446744073709551616 + d)))]) ∧ Below w.heap.size w w' := by
 have HS : Hid _ := hs
 clear hs
 go_enter Tryz.func173, Tryz.ntmps173
 go_wp2
 all_goals
  rename_i hq
  go_returns
  refine ⟨ret_agg2 ?_ ?_, by go_grown⟩ <;> (have hs := HS.out; rw [IntKind.wrap_u64] at hq; simp only [IntKind.wrap_u64]; first | unfold hi64 | unfold lo64); all_goals omega
theorem plus_any (n m : Int) (w : World) (h0 : 0 ≤ n) (k0 : 0 ≤ m) (hs : n + m ≤ 340282366920938463463374607431768211455) :
    Calls Tryz.prog 173 #[.agg #[.int .u64 (hi64 n), .int .u64 (lo64 n)], .agg #[.int .u64 (hi64 m), .int .u64 (lo64 m)]] w fun e w' => e = .returned (.agg #[.int .u64 (hi64 (n + m)), .int .u64 (lo64 (n + m))]) ∧ Below w.heap.size w w' := by
 have e1 := hilo n
 have e2 := hilo m
 have := plus_gen (hi64 n) (lo64 n) (hi64 m) (lo64 m) w (hi64_bd n h0 (by omega)) (lo64_bd n) (hi64_bd m k0 (by omega)) (lo64_bd m) (by omega)
 rw [e1, e2] at this
 exact this
theorem plus_lit (n m : Int) (w : World) (h0 : 0 ≤ n) (k0 : 0 ≤ m) (k1 : m ≤ 18446744073709551615) (hs : n + m ≤ 340282366920938463463374607431768211455) :
    Calls Tryz.prog 173 #[.agg #[.int .u64 (hi64 n), .int .u64 (lo64 n)], .agg #[.int .u64 0, .int .u64 m]] w fun e w' => e = .returned (.agg #[.int .u64 (hi64 (n + m)), .int .u64 (lo64 (n + m))]) ∧ Below w.heap.size w w' := by
 have e1 := hilo n
 have := plus_gen (hi64 n) (lo64 n) 0 m w (hi64_bd n h0 (by omega)) (lo64_bd n) (by omega) (by omega) (by omega)
 rw [e1, show (0 : Int) * 18446744073709551616 + m = m by omega] at this
 exact this
theorem bcell {W w1 : World} (hb : Below W.heap.size W w1) : (∀ b o, b < W.heap.size → w1.cell? ⟨b, o, none⟩ = W.cell? ⟨b, o, none⟩) ∧ (∀ b o, b < W.heap.size → w1.frozen? ⟨b, o, none⟩ = W.frozen? ⟨b, o, none⟩) :=
 ⟨fun b o h => hb.cell (p := ⟨b, o, none⟩) h, fun b o h => hb.frozen (p := ⟨b, o, none⟩) h⟩
set_option maxHeartbeats 400000 in
theorem wabove_any (n m : Int) (w : World) :
    Calls Tryz.prog 214 #[.agg #[.int .u64 (hi64 n), .int .u64 (lo64 n)], .agg #[.int .u64 (hi64 m), .int .u64 (lo64 m)]] w fun e w' => e = .returned (.bool (decide (m < n))) ∧ Below w.heap.size w w' := by
 have b2 := lo64_bd n
 have b4 := lo64_bd m
 have e1 := hilo n
 have e2 := hilo m
 by_cases c1 : hi64 m < hi64 n
 ·have HF : Hid (true = decide (m < n)) := by show _ = _; simp; omega
  clear b2 b4 e1 e2
  go_enter Tryz.func214, Tryz.ntmps214
  go_wp2
  go_ret
  exact ⟨ret_bool (by simpa using HF.out), by go_grown⟩
 ·by_cases c2 : hi64 n = hi64 m
  ·have HF : Hid (decide (lo64 m < lo64 n) = decide (m < n)) := by show _ = _; simp; omega
   have c3 : (hi64 n == hi64 m) = true := by simpa using c2
   clear b2 b4 e1 e2 c2
   go_enter Tryz.func214, Tryz.ntmps214
   go_wp2
   go_ret
   exact ⟨ret_bool HF.out, by go_grown⟩
  ·have HF : Hid (false = decide (m < n)) := by show _ = _; simp; omega
   have c3 : (hi64 n == hi64 m) = false := by simpa using c2
   clear b2 b4 e1 e2 c2
   go_enter Tryz.func214, Tryz.ntmps214
   go_wp2
   go_ret
   exact ⟨ret_bool HF.out, by go_grown⟩
set_option maxHeartbeats 400000 in
theorem size_any (a : Int) (w : World) (h : numB a = true) :
    Calls Tryz.prog 162 #[.int .i64 a] w fun e w' => e = .returned (.int .u64 (sz a)) ∧ w' = w := by
 have hb := numB_bd h
 go_enter Tryz.func162, Tryz.ntmps162
 go_wp2
 all_goals
  go_ret
  exact ⟨ret_int (by unfold sz; split <;>  omega), rfl⟩
set_option maxHeartbeats 400000 in
theorem shifted_any (n : Int) (w : World) (h0 : 0 ≤ n) (hs : n ≤ 85070591730234615865843651857942052864) :
    Calls Tryz.prog 164 #[.agg #[.int .u64 (hi64 n), .int .u64 (lo64 n)], .int .u64 40] w fun e w' => e = .returned (.int .u64 (sat64 ((n + 549755813888) / 1099511627776))) ∧ Below w.heap.size w w' := by
 have HB : Hid _ := hi64_bd (n + 549755813888) (by omega) (by omega)
 have HL : Hid _ := lo64_bd (n + 549755813888)
 have HE : Hid _ := hilo (n + 549755813888)
 go_enter Tryz.func164, Tryz.ntmps164
 go_wp2_with fail
 refine (plus_lit n 549755813888 _ h0 (by omega) (by omega) (by omega)).mono ?_
 rintro e w1 ⟨rfl, hb⟩
 obtain ⟨hc, hf⟩ := bcell hb
 have hz : w.heap.size < w1.heap.size := by have := hb.size; simp at this; omega
 have HB' : Hid _ := hb
 clear hb
 generalize hi64 (n + 549755813888) = x at *
 generalize lo64 (n + 549755813888) = y at *
 have b1 := HB.out
 have b2 := HL.out
 have hw : ∀ u v, Below w.heap.size w ((w1.setCell ⟨w.heap.size, 0, none⟩ u).setCell ⟨w.heap.size, 1, none⟩ v) := fun u v => ((((Below.refl _ _).alloc (Nat.le_refl _) _).trans (HB'.out.mono (by simp))).setCell (Nat.le_refl _) _).setCell (Nat.le_refl _) _
 have HW : Hid _ := hw
 clear hw
 by_cases c : x / 1099511627776 = 0
 ·have c' : (x / 1099511627776 != 0) = false := by simp [c]
  have HQ : Hid _ := shifted_words n x y HE.out b1 b2 c
  clear c
  go_wp2
  go_ret
  exact ⟨ret_int HQ.out, HW.out _ _⟩
 ·have c' : (x / 1099511627776 != 0) = true := by simp [c]
  have HQ : Hid _ := shifted_much n x y HE.out b1 b2 c
  clear c
  go_wp2
  go_ret
  exact ⟨ret_int HQ.out, HW.out _ _⟩
end Go.Proofs.YtbophanlmkbfeaaGreatDoor
namespace Go.Proofs.YtbophanlmkbfeaaGreatDoor
open Go.RowKit
structure Fl (b : Nat) (bad : Bool) (w : World) : Prop where
 cell : w.cell? ⟨b, 0, none⟩ = some (.bool bad)
 free : w.frozen? ⟨b, 0, none⟩ = false
 lies : b < w.heap.size
structure Kept (b : Nat) (w w' : World) : Prop where
 os : w'.os = w.os
 tape : w'.tape = w.tape
 output : w'.output = w.output
 size : w.heap.size ≤ w'.heap.size
 block : ∀ k, k < w.heap.size → k ≠ b → w'.heap[k]? = w.heap[k]?
theorem Kept.refl (b : Nat) (w : World) : Kept b w w := ⟨rfl, rfl, rfl, Nat.le_refl _, fun _ _ _ => rfl⟩
theorem Kept.trans {b : Nat} {x y z : World} (h : Kept b x y) (k : Kept b y z) : Kept b x z :=
 ⟨k.os.trans h.os, k.tape.trans h.tape, k.output.trans h.output, Nat.le_trans h.size k.size, fun i hi hb => (k.block i (Nat.lt_of_lt_of_le hi h.size) hb).trans (h.block i hi hb)⟩
theorem Kept.of_below {b : Nat} {w w' : World} (h : Below w.heap.size w w') : Kept b w w' := ⟨h.os, h.tape, h.output, h.size, fun k hk _ => h.block k hk⟩
theorem Kept.setCell {b : Nat} {x w : World} (h : Kept b x w) (u : Value) : Kept b x (w.setCell ⟨b, 0, none⟩ u) :=
 h.trans ⟨rfl, rfl, rfl, by simp [World.setCell], fun k _ hb => Below.heap_setCell _ _ _ _ hb⟩
theorem Kept.below {b B : Nat} {x w w' : World} (h : Kept b w w') (hx : Below B x w) (hb : B ≤ b) (hB : B ≤ w.heap.size) : Below B x w' :=
 hx.trans ⟨h.os, h.tape, h.output, h.size, fun k hk => h.block k (by omega) (by omega)⟩
theorem Kept.cell {b : Nat} {w w' : World} (h : Kept b w w') {p : Addr} (hp : p.block < w.heap.size) (hb : p.block ≠ b) : w'.cell? p = w.cell? p := World.cell?_of_block (w := w) (h.block p.block hp hb)
theorem Kept.frozen {b : Nat} {w w' : World} (h : Kept b w w') {p : Addr} (hp : p.block < w.heap.size) (hb : p.block ≠ b) : w'.frozen? p = w.frozen? p := World.frozen?_of_block (w := w) (h.block p.block hp hb)
theorem Fl.below {b : Nat} {bad : Bool} {w w' : World} (h : Fl b bad w) (hb : Below w.heap.size w w') : Fl b bad w' :=
 ⟨(hb.cell (p := ⟨b, 0, none⟩) h.lies).trans h.cell, (hb.frozen (p := ⟨b, 0, none⟩) h.lies).trans h.free, Nat.lt_of_lt_of_le h.lies hb.size⟩
theorem Fl.kept {b c : Nat} {bad : Bool} {w w' : World} (h : Fl b bad w) (hb : Kept c w w') (hc : b ≠ c) : Fl b bad w' :=
 ⟨(hb.cell (p := ⟨b, 0, none⟩) h.lies hc).trans h.cell, (hb.frozen (p := ⟨b, 0, none⟩) h.lies hc).trans h.free, Nat.lt_of_lt_of_le h.lies hb.size⟩
theorem Fl.set {b : Nat} {bad : Bool} {w : World} (h : Fl b bad w) (v : Bool) : Fl b v (w.setCell ⟨b, 0, none⟩ (.bool v)) := by
 refine ⟨World.cell?_setCell_same _ _ _ h.cell, ?_, ?_⟩
 ·rw [World.frozen?_setCell]; exact h.free
 ·rw [World.size_setCell]; exact h.lies
set_option maxHeartbeats 400000 in
theorem Fail_any (b : Nat) (bad : Bool) (w : World) (hw : Fl b bad w) :
    Calls Tryz.prog 90 #[.pointer (some ⟨b, 0, none⟩)] w fun e w' => e = .returned (.tuple #[]) ∧ Fl b true w' ∧ Kept b w w' := by
 have HW : Hid _ := hw
 obtain ⟨hc, hf, hl⟩ := hw
 go_enter Tryz.func90, Tryz.ntmps90
 go_wp2
 go_end0
 exact ⟨rfl, HW.out.set true, (Kept.refl _ _).setCell _⟩
set_option maxHeartbeats 400000 in
theorem signed_any (b : Nat) (n : Int) (minus : Bool) (w : World) (hw : Fl b false w) (h0 : 0 ≤ n) (h1 : n ≤ 18446744073709551615) :
    Calls Tryz.prog 163 #[.pointer (some ⟨b, 0, none⟩), .int .u64 n, .bool minus] w fun e w' => e = .returned (.int .i64 (out n minus).1) ∧ Fl b (out n minus).2 w' ∧ Kept b w w' := by
 show Calls Tryz.prog 163 _ _ fun e w' => e = .returned (.int .i64 (sgnd n minus)) ∧ Fl b (decide (4611686018427387904 < n)) w' ∧ Kept b w w'
 by_cases c : n ≤ 4611686018427387904
 ·have HS : Hid _ := sgnd_in n minus c
  have HC : Hid (decide (4611686018427387904 < n) = false) := by show _ = _; simp; omega
  cases minus
  all_goals
   go_enter Tryz.func163, Tryz.ntmps163
   go_wp2
   go_ret
   rw [HC.out]
   exact ⟨ret_int HS.out, hw, Kept.refl _ _⟩
 ·have HS : Hid _ := sgnd_out n minus c
  have HC : Hid (decide (4611686018427387904 < n) = true) := by show _ = _; simp; omega
  go_enter Tryz.func163, Tryz.ntmps163
  go_wp2_with fail
  refine (Fail_any b false _ hw).mono ?_
  rintro e w1 ⟨rfl, h2, h3⟩
  go_wp2
  go_ret
  rw [HC.out]
  exact ⟨ret_int HS.out, h2, h3⟩
set_option maxHeartbeats 400000 in
theorem gives_any (b : Nat) (n : Int) (w : World) (hw : Fl b false w) :
    Calls Tryz.prog 157 #[.pointer (some ⟨b, 0, none⟩), .int .i64 n] w fun e w' => e = .returned (.int .i64 (gv n).1) ∧ Fl b (gv n).2 w' ∧ Kept b w w' := by
 show Calls Tryz.prog 157 _ _ fun e w' => e = .returned (.int .i64 (if numB n then n else 0)) ∧ Fl b (!numB n) w' ∧ Kept b w w'
 cases c : numB n
 ·go_enter Tryz.func157, Tryz.ntmps157
  go_wp2_with fail
  refine (isNumber_any _ _).mono ?_
  rintro e w1 ⟨rfl, rfl⟩
  rw [c]
  clear c
  go_wp2_with fail
  refine (Fail_any b false _ hw).mono ?_
  rintro e w1 ⟨rfl, h2, h3⟩
  go_wp2
  go_ret
  exact ⟨rfl, h2, h3⟩
 ·go_enter Tryz.func157, Tryz.ntmps157
  go_wp2_with fail
  refine (isNumber_any _ _).mono ?_
  rintro e w1 ⟨rfl, rfl⟩
  rw [c]
  clear c
  go_wp2
  go_ret
  exact ⟨rfl, hw, Kept.refl _ _⟩
def Ints (s : Nat) (zs : List Int) (w : World) : Prop := ∀ i, (h : i < zs.length) → w.cell? ⟨s, i, none⟩ = some (.int .i64 zs[i])
theorem all_take_succ {zs : List Int} {k : Nat} (h : k < zs.length) : (zs.take (k + 1)).all numB = ((zs.take k).all numB && numB zs[k]) := by
 rw [List.take_succ_eq_append_getElem h, List.all_append]; simp only [List.all_cons, List.all_nil, Bool.and_true]
theorem all_of_not {zs : List Int} {k : Nat} (h : k < zs.length) (c : numB zs[k] = false) : zs.all numB = false := by
 rw [Bool.eq_false_iff]
 intro ha
 rw [List.all_eq_true] at ha
 have := ha _ (List.getElem_mem h)
 rw [c] at this
 cases this
set_option maxHeartbeats 400000 in
theorem takes_any (b s : Nat) (bad : Bool) (zs : List Int) (w : World) (hw : Fl b bad w) (hz : Ints s zs w) (hlen : zs.length ≤ 3) :
    Calls Tryz.prog 156 #[.pointer (some ⟨b, 0, none⟩), .slice (some ⟨s, 0, none⟩) zs.length zs.length] w fun e w' => e = .returned (.bool (tk bad zs)) ∧ Fl b (!tk bad zs) w' ∧ Kept b w w' := by
 rw [← tk_not bad zs]
 unfold tk
 have HW : Hid _ := hw
 have HZ : Hid _ := hz
 obtain ⟨hc, hf, hl⟩ := hw
 clear hz
 cases bad
 ·go_enter Tryz.func156, Tryz.ntmps156
  go_wp2
  go_loop [17] (fun v => ∃ k : Nat, k ≤ zs.length ∧ v = .int .i64 k ∧ Hid ((zs.take k).all numB = true)) (fun v => zs.length - (intOf v).toNat)
  case atStart => exact ⟨0, Nat.zero_le _, rfl, by show _ = _; simp⟩
  case round =>
   obtain ⟨k, hk, rfl, HA⟩ := hrel
   by_cases hlt : k < zs.length
   ·have hcell := HZ.out k hlt
    have HS : Hid _ := all_take_succ hlt
    have HN : numB zs[k] = false → zs.all numB = false := all_of_not hlt
    have HN' : Hid _ := HN
    clear HN
    generalize zs[k] = z at *
    cases c : numB z
    ·have HC : Hid _ := HN'.out c
     have HC2 : Hid _ := c
     clear c
     go_wp2_with fail
     refine (isNumber_any _ _).mono ?_
     rintro e w1 ⟨rfl, rfl⟩
     rw [HC2.out]
     go_wp2_with fail
     refine (Fail_any b false _ HW.out).mono ?_
     rintro e w1 ⟨rfl, h2, h3⟩
     go_wp2
     go_ret
     rw [HC.out]
     exact ⟨rfl, h2, h3⟩
    ·have HC2 : Hid _ := c
     clear c
     go_wp2_with fail
     refine (isNumber_any _ _).mono ?_
     rintro e w1 ⟨rfl, rfl⟩
     rw [HC2.out]
     go_wp2
     go_round
     case rel => exact ⟨k + 1, by omega, by go_num, by show _ = _; rw [HS.out, HA.out, HC2.out]; rfl⟩
     case measure => simp [intOf]; omega
   ·go_wp2
    go_ret
    have ha : zs.all numB = true := by have := HA.out; rwa [List.take_of_length_le (by omega)] at this
    rw [ha]
    exact ⟨rfl, HW.out, Kept.refl _ _⟩
 ·go_enter Tryz.func156, Tryz.ntmps156
  go_wp2
  go_ret
  exact ⟨rfl, HW.out, Kept.refl _ _⟩
theorem Ints_two (x y : Int) (w : World) : Ints w.heap.size [x, y] (w.alloc (.cells #[.int .i64 x, .int .i64 y] 2)) := by
 intro i h
 rw [World.cell?_alloc_new]
 match i, h with
 | 0, _ => rfl
 | 1, _ => rfl
theorem Ints_one (x : Int) (w : World) : Ints w.heap.size [x] (w.alloc (.cells #[.int .i64 x] 2)) := by
 intro i h
 rw [World.cell?_alloc_new]
 match i, h with
 | 0, _ => rfl
theorem Ints_three (x y z : Int) (w : World) : Ints w.heap.size [x, y, z] (w.alloc (.cells #[.int .i64 x, .int .i64 y, .int .i64 z] 2)) := by
 intro i h
 rw [World.cell?_alloc_new]
 match i, h with
 | 0, _ => rfl
 | 1, _ => rfl
 | 2, _ => rfl
theorem Kept.alloc (b : Nat) (w : World) (o : Obj) : Kept b w (w.alloc o) := Kept.of_below ((Below.refl _ _).alloc (Nat.le_refl _) o)
theorem Fl.alloc {b : Nat} {bad : Bool} {w : World} (h : Fl b bad w) (o : Obj) : Fl b bad (w.alloc o) := h.below ((Below.refl _ _).alloc (Nat.le_refl _) o)
theorem takes1 (b : Nat) (bad : Bool) (x : Int) (w : World) (hw : Fl b bad w) :
    Calls Tryz.prog 156 #[.pointer (some ⟨b, 0, none⟩), .slice (some ⟨w.heap.size, 0, none⟩) 1 1] (w.alloc (.cells #[.int .i64 x] 2)) fun e w' => e = .returned (.bool (tk bad [x])) ∧ Fl b (!tk bad [x]) w' ∧ Kept b w w' :=
 (takes_any b w.heap.size bad [x] _ (hw.alloc _) (Ints_one x w) (by simp)).mono fun _ _ h => ⟨h.1, h.2.1, (Kept.alloc b w _).trans h.2.2⟩
theorem takes2 (b : Nat) (bad : Bool) (x y : Int) (w : World) (hw : Fl b bad w) :
    Calls Tryz.prog 156 #[.pointer (some ⟨b, 0, none⟩), .slice (some ⟨w.heap.size, 0, none⟩) 2 2] (w.alloc (.cells #[.int .i64 x, .int .i64 y] 2)) fun e w' => e = .returned (.bool (tk bad [x, y])) ∧ Fl b (!tk bad [x, y]) w' ∧ Kept b w w' :=
 (takes_any b w.heap.size bad [x, y] _ (hw.alloc _) (Ints_two x y w) (by simp)).mono fun _ _ h => ⟨h.1, h.2.1, (Kept.alloc b w _).trans h.2.2⟩
theorem takes3 (b : Nat) (bad : Bool) (x y z : Int) (w : World) (hw : Fl b bad w) :
    Calls Tryz.prog 156 #[.pointer (some ⟨b, 0, none⟩), .slice (some ⟨w.heap.size, 0, none⟩) 3 3] (w.alloc (.cells #[.int .i64 x, .int .i64 y, .int .i64 z] 2)) fun e w' => e = .returned (.bool (tk bad [x, y, z])) ∧ Fl b (!tk bad [x, y, z]) w' ∧ Kept b w w' :=
 (takes_any b w.heap.size bad [x, y, z] _ (hw.alloc _) (Ints_three x y z w) (by simp)).mono fun _ _ h => ⟨h.1, h.2.1, (Kept.alloc b w _).trans h.2.2⟩
end Go.Proofs.YtbophanlmkbfeaaGreatDoor
namespace Go.Proofs.YtbophanlmkbfeaaGreatDoor
open Go.RowKit
theorem take_at {P : Program} {md : Region.Mode} {l : List Oper} {Q : Exit → Act → World → Prop} {S : World → Prop} {i : Nat} {oi : Oper} {v : Value} {fuel : Nat} {listed : Array Bool} {a : Act} {w : World} (hi : l[i]? = some oi)
    (hs : Region.noSelect l.toArray = true) (hf : Region.free md l.toArray listed i = true) (hr : (Region.ready md l.toArray listed).contains i = true)
    (hQ : ∀ c a w, Q (.panic c) (a.put oi.dst v) w → Q (.panic c) a w) (hy : YieldsIf P l.toArray S oi v a) (hS : S w)
    (h : wpAnyH P md l.toArray Q S fuel (listed.setIfInBounds i true) (a.put oi.dst v) w) : wpAnyH P md l.toArray Q S (fuel + 1) listed a w :=
 wpAnyH_take (ops := l.toArray) (by simpa using hi) hs hf hr hQ hy hS h
theorem zT {P : Program} {md : Region.Mode} {l : List Oper} {Q : Exit → Act → World → Prop} {S : World → Prop} (i : Nat) {oi : Oper} {v : Value} {fuel : Nat} {listed : Array Bool} {a : Act} {w : World} (hi : l[i]? = some oi)
    (hb : (Region.noSelect l.toArray && (Region.free md l.toArray listed i && (Region.ready md l.toArray listed).contains i)) = true)
    (hQ : ∀ c a w, Q (.panic c) (a.put oi.dst v) w → Q (.panic c) a w) (hw : Region.wanted oi (yielded l.toArray a.tmps) = true) (hy : ∀ w, S w → (execOp a.eval oi).run P w = .ok (.value v) w) (hS : S w)
    (h : wpAnyH P md l.toArray Q S fuel (listed.setIfInBounds i true) (a.put oi.dst v) w) : wpAnyH P md l.toArray Q S (fuel + 1) listed a w := by
 rw [Bool.and_eq_true, Bool.and_eq_true] at hb
 exact take_at hi hb.1 hb.2.1 hb.2.2 hQ (Or.inl ⟨hw, hy⟩) hS h
theorem call_at {P : Program} {md : Region.Mode} {l : List Oper} {Q : Exit → Act → World → Prop} {S : World → Prop} {i : Nat} {o : Oper} {fuel : Nat} {listed : Array Bool} {a : Act} {w : World} (hr : Region.ready md l.toArray listed = [i]) (hi : l[i]? = some o)
    (h : ∀ K' : Act → World → Prop, Shut (∀ a w, S w → (S w → wpAnyH P md l.toArray Q S fuel (listed.setIfInBounds i true) a w) → K' a w) → if Region.wanted o (yielded l.toArray a.tmps) = true then Oper.wp P o a w K' Q else K' (a.put o.dst undef) w) :
    wpAnyH P md l.toArray Q S (fuel + 1) listed a w :=
 wpAnyH_ready hr (by simp) (AllReadyH.cons (by simpa using hi) h AllReadyH.nil)
theorem zK {P : Program} {md : Region.Mode} {l : List Oper} {Q : Exit → Act → World → Prop} {S : World → Prop} (i : Nat) {o : Oper} {fuel : Nat} {listed : Array Bool} {a : Act} {w : World} (hr : Region.ready md l.toArray listed = [i]) (hi : l[i]? = some o)
    (h : ∀ K' : Act → World → Prop, Shut (∀ a w, S w → (S w → wpAnyH P md l.toArray Q S fuel (listed.setIfInBounds i true) a w) → K' a w) → if Region.wanted o (yielded l.toArray a.tmps) = true then Oper.wp P o a w K' Q else K' (a.put o.dst undef) w) :
    wpAnyH P md l.toArray Q S (fuel + 1) listed a w := call_at hr hi h
theorem Fl_new (w : World) (bad : Bool) (t : TypeId) : Fl w.heap.size bad (w.alloc (.cells #[.bool bad] t)) :=
 ⟨by simp, by simp, by simp⟩
theorem Fl_at (w : World) (n : Nat) (bad : Bool) (t : TypeId) (hn : n = w.heap.size) : Fl n bad (w.alloc (.cells #[.bool bad] t)) := by
 subst hn; exact Fl_new w bad t
theorem Kept.on {b : Nat} {x w w' : World} (h : Kept b w w') (hx : Below x.heap.size x w) (hb : x.heap.size ≤ b) : Below x.heap.size x w' := h.below hx hb hx.size
theorem Fl.drew {b : Nat} {bad : Bool} {w : World} (h : Fl b bad w) : Fl b bad w.drew := ⟨h.cell, h.free, h.lies⟩
theorem Kept.drew {b : Nat} {x w : World} (h : Kept b x w) : Kept b x w.drew := ⟨h.os, h.tape, h.output, h.size, h.block⟩
theorem Kept.al {b : Nat} {x w : World} (h : Kept b x w) (o : Obj) : Kept b x (w.alloc o) := h.trans (Kept.alloc b w o)
theorem Kept.new {b : Nat} {x w : World} (h : Kept b x w) (q o : Nat) (hp : x.heap.size ≤ q) (u : Value) : Kept b x (w.setCell ⟨q, o, none⟩ u) :=
 ⟨h.os, h.tape, h.output, by rw [World.size_setCell]; exact h.size, fun k hk hb => (Below.heap_setCell _ _ _ _ (by show k ≠ q; omega)).trans (h.block k hk hb)⟩
theorem Fl.new {b : Nat} {bad : Bool} {w : World} (h : Fl b bad w) (q o : Nat) (hp : b ≠ q) (u : Value) : Fl b bad (w.setCell ⟨q, o, none⟩ u) :=
 ⟨(World.cell?_of_block (w := w) (Below.heap_setCell _ _ _ _ hp)).trans h.cell, by rw [World.frozen?_setCell]; exact h.free, by rw [World.size_setCell]; exact h.lies⟩
theorem bel_new {x w : World} (h : Below x.heap.size x w) (q o : Nat) (hp : x.heap.size ≤ q) (u : Value) : Below x.heap.size x (w.setCell ⟨q, o, none⟩ u) :=
 ⟨h.os, h.tape, h.output, by rw [World.size_setCell]; exact h.size, fun k hk => (Below.heap_setCell _ _ _ _ (by show k ≠ q; omega)).trans (h.block k hk)⟩
theorem bel_al {x w : World} (h : Below x.heap.size x w) (o : Obj) : Below x.heap.size x (w.alloc o) := h.trans ((Below.refl _ _).alloc h.size o)
theorem bel_then {x w w' : World} (h : Below x.heap.size x w) (k : Below w.heap.size w w') : Below x.heap.size x w' := h.trans (k.mono h.size)
structure Arr (k : Nat) (l : List Value) (w : World) : Prop where
 c : ∀ i, (h : i < l.length) → w.cell? ⟨k, i, none⟩ = some l[i]
 f : ∀ i, i < l.length → w.frozen? ⟨k, i, none⟩ = false
 lies : k < w.heap.size
theorem Arr_at (w : World) (n : Nat) (l : List Value) (t : TypeId) (hn : n = w.heap.size) : Arr n l (w.alloc (.cells l.toArray t)) := by
 subst hn
 refine ⟨fun i h => ?_, fun i h => by simp, by simp⟩
 rw [World.cell?_alloc_new]
 simp [h]
theorem Arr.same {k : Nat} {l : List Value} {w w' : World} (h : Arr k l w) (e : w'.heap[k]? = w.heap[k]?) (hs : w.heap.size ≤ w'.heap.size) : Arr k l w' :=
 ⟨fun i hi => (World.cell?_of_block (w := w) (a := ⟨k, i, none⟩) e).trans (h.c i hi), fun i hi => (World.frozen?_of_block (w := w) (a := ⟨k, i, none⟩) e).trans (h.f i hi), Nat.lt_of_lt_of_le h.lies hs⟩
theorem Arr.kept {k b : Nat} {l : List Value} {w w' : World} (h : Arr k l w) (hb : Kept b w w') (hk : k ≠ b) : Arr k l w' := h.same (hb.block k h.lies hk) hb.size
theorem Arr.below {k : Nat} {l : List Value} {w w' : World} (h : Arr k l w) (hb : Below w.heap.size w w') : Arr k l w' := h.same (hb.block k h.lies) hb.size
theorem Arr.alloc {k : Nat} {l : List Value} {w : World} (h : Arr k l w) (o : Obj) : Arr k l (w.alloc o) := h.below ((Below.refl _ _).alloc (Nat.le_refl _) o)
theorem Arr.drew {k : Nat} {l : List Value} {w : World} (h : Arr k l w) : Arr k l w.drew := ⟨h.c, h.f, h.lies⟩
theorem Arr.new {k : Nat} {l : List Value} {w : World} (h : Arr k l w) (q o : Nat) (hp : k ≠ q) (u : Value) : Arr k l (w.setCell ⟨q, o, none⟩ u) :=
 h.same (Below.heap_setCell _ _ _ _ hp) (by rw [World.size_setCell]; exact Nat.le_refl _)
theorem Arr.put {k : Nat} {l : List Value} {w : World} (h : Arr k l w) (i : Nat) (hi : i < l.length) (u : Value) (l' : List Value) (hl : l' = l.set i u) : Arr k l' (w.setCell ⟨k, i, none⟩ u) := by
 subst hl
 refine ⟨fun j hj => ?_, fun j hj => ?_, by rw [World.size_setCell]; exact h.lies⟩
 ·by_cases e : i = j
  ·subst e
   rw [World.cell?_setCell_same _ _ _ (h.c i hi)]
   simp
  ·rw [World.cell?_setCell_other _ _ _ _ (by intro h; injection h; omega)]
   rw [List.getElem_set_ne e]
   exact h.c j (by simpa using hj)
 ·rw [World.frozen?_setCell]; exact h.f j (by simpa using hj)
def row (N : Nat) (g : Nat → Int) : List Value := (List.range N).map fun i => .int .i64 (g i)
theorem row_len (N : Nat) (g : Nat → Int) : (row N g).length = N := by unfold row; simp
theorem row_get {N i : Nat} {g : Nat → Int} (h : i < (row N g).length) : (row N g)[i] = .int .i64 (g i) := by
 have h' : i < N := by rw [row_len] at h; exact h
 show ((List.range N).map fun i => Value.int .i64 (g i))[i]'(by simpa using h') = _
 simp
theorem row_c {k N : Nat} {g : Nat → Int} {w : World} (A : Arr k (row N g) w) (i : Nat) (h : i < N) : w.cell? ⟨k, i, none⟩ = some (.int .i64 (g i)) := by
 have := A.c i (by rw [row_len]; exact h)
 rw [row_get] at this
 exact this
theorem row_f {k N : Nat} {g : Nat → Int} {w : World} (A : Arr k (row N g) w) (i : Nat) (h : i < N) : w.frozen? ⟨k, i, none⟩ = false := A.f i (by rw [row_len]; exact h)
def updF (g : Nat → Int) (i : Nat) (v : Int) : Nat → Int := fun j => if j = i then v else g j
theorem row_set {N i : Nat} {g : Nat → Int} {v : Int} : (row N g).set i (.int .i64 v) = row N (updF g i v) := by
 apply List.ext_getElem
 ·simp [row_len]
 ·intro j h1 h2
  rw [List.getElem_set, show (row N (updF g i v))[j] = .int .i64 (updF g i v j) from row_get h2]
  by_cases c : i = j
  ·rw [if_pos c, show updF g i v j = v from if_pos c.symm]
  ·rw [if_neg c, show updF g i v j = g j from if_neg (fun h => c h.symm), row_get]
theorem row_put {k N : Nat} {g : Nat → Int} {w : World} (A : Arr k (row N g) w) (i : Nat) (h : i < N) (v : Int) : Arr k (row N (updF g i v)) (w.setCell ⟨k, i, none⟩ (.int .i64 v)) :=
 A.put i (by rw [row_len]; exact h) (.int .i64 v) _ row_set.symm
end Go.Proofs.YtbophanlmkbfeaaGreatDoor
namespace Go.Proofs.YtbophanlmkbfeaaGreatDoor
def at0L : List Int := [-293500, 0, -14103, 45455, -25562, 0, 29509, -31336, 16487, -8142, 13609, 0, -24042, -569, 12438, 2376, 4534, -5496, 8947, 0, 7996, 2786, 558, -1340, -2811, 2120, 120, -3754, -2329, 0, 3690, 453, 1872, 2200, -1387, -1229, -1419, 429, 209, 1062, 643, 0, 638, -184, 767, 168, -1157, 489, -409, -598, 149, 109, -608, 728]
def yr0L : List Int := [126, 0, 100, -215, -112, 0, -53, -273, -83, -111]
def at0 (i : Nat) : Int := at0L.getD i 0
def yr0 (i : Nat) : Int := yr0L.getD i 0
def nIdx (n m : Nat) : Nat := n * (n + 1) / 2 - 1 + m
end Go.Proofs.YtbophanlmkbfeaaGreatDoor
