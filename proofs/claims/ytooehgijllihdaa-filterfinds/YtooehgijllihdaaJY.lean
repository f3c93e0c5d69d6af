/- A part. -/
import Derived.Test.YtooehgijllihdaaJX
namespace Go.Proofs.Ytooehgijllihdaa.Ff
open Go.RowKit
theorem ab_of {x K : Int} {up : Rat} (e : qr K = up) (h1 : qr x ≤ up) (h2 : -up ≤ qr x) : Ab x K := by
 have e1 : qr x = (x : Rat) / 1099511627776 := rfl
 have e2 : qr K = (K : Rat) / 1099511627776 := rfl
 have a1 : ((x : Int) : Rat) ≤ ((K : Int) : Rat) := by grind
 have a2 : ((-K : Int) : Rat) ≤ ((x : Int) : Rat) := by push_cast; grind
 exact ⟨Rat.intCast_le_intCast.1 a2, Rat.intCast_le_intCast.1 a1⟩
theorem c_bd {g x vw z d S C : Nat → Int} {v1 v2 : R3} (P : Pts g x) (V : Vws x vw v1 v2) (M : Mns g x vw z d S C) (L : Small x d) : ∀ i j, i < 6 → j < 6 → Ab (C (i * 6 + j)) 1099511627776 := fun i j hi hj => by
 by_cases c : 3 ≤ i
 ·rw [c_zero P V M i c hi j hj]; exact ⟨by decide, by decide⟩
 ·have n := M.near i (j + 3) (by omega) (by omega)
  have e1 : m9 g C S i (j + 3) = qr (C (i * 6 + j)) := by unfold m9; rw [if_pos (by omega), if_neg (by omega), Nat.add_sub_cancel]
  have e2 : (fun k => X9 x d k i * X9 x d k (j + 3)) = fun k => qr (x (k * 6 + i)) * qr (d (k * 6 + j)) := by funext k; unfold X9; rw [if_pos (by omega), if_neg (by omega), Nat.add_sub_cancel]
  rw [e1, e2, if_neg (by omega)] at n
  have pr : ∀ k, k < 13 → qr (x (k * 6 + i)) * qr (d (k * 6 + j)) ≤ 7 / 10 ∧ -(7 / 10) ≤ qr (x (k * 6 + i)) * qr (d (k * 6 + j)) := fun k hk => by
   have x1 := L.xk k hk i hi; have x2 := L.dk k hk j hj
   have s1 := abs_sq x1.1 x1.2; have s2 := abs_sq x2.1 x2.2
   have d1 := sq_nn (qr (x (k * 6 + i)) - qr (d (k * 6 + j))); have d2 := sq_nn (qr (x (k * 6 + i)) + qr (d (k * 6 + j)))
   constructor <;> grind
  have l0 := pr 0 (by omega); have l1 := pr 1 (by omega); have l2 := pr 2 (by omega); have l3 := pr 3 (by omega); have l4 := pr 4 (by omega); have l5 := pr 5 (by omega); have l6 := pr 6 (by omega); have l7 := pr 7 (by omega); have l8 := pr 8 (by omega); have l9 := pr 9 (by omega); have l10 := pr 10 (by omega); have l11 := pr 11 (by omega); have l12 := pr 12 (by omega)
  have n1 := n.hi; have n2 := n.lo
  unfold sum13 at n1 n2
  simp only [sr, Nat.zero_add, Nat.reduceAdd] at n1 n2
  exact ab_of (up := 1) (by decide +kernel) (by grind) (by grind)
structure Gn (C S l : Nat → Int) (k : Nat → Nat → Int) : Prop where
 sol : ∀ i, i < 6 → zSolve6 false l (rowK C i) = (k i, false)
 z : ∀ i, 3 ≤ i → i < 6 → ∀ j, j < 6 → k i j = 0
 small : ∀ i, i < 3 → nrm 6 (fun j => qr (k i j)) ≤ 340
 ub : ∀ i, i < 6 → ∀ j, j < 6 → Ab (k i j) 20890720927744
 left : ∀ i, i < 3 → ∀ j, j < 6 → lft C S (fun r s => qr (k r s)) i j ≤ 819 / 1099511627776 ∧ -(819 / 1099511627776) ≤ lft C S (fun r s => qr (k r s)) i j
theorem gains {g x vw z d S C : Nat → Int} {v1 v2 : R3} {up lo : Rat} (H : St g up lo) (hu : up ≤ 1 / 50) (hl : 0 ≤ lo) (P : Pts g x) (V : Vws x vw v1 v2) (M : Mns g x vw z d S C) (L : Small x d) :
  ∃ l G, zRoot6 false S = (l, false) ∧ Rel l G ∧ Wh (mt S) G ∧ ∃ k, Gn C S l k := by
 have D := s_pd M L
 obtain ⟨l, G, el, rel, W⟩ := pd_root D
 have cb := c_bd P V M L
 have one : ∀ i, i < 6 → ∃ y t : Nat → Int, mSolveS false l (rowK C i) 6 = (y, false) ∧ (∀ j, j < 6 → Ab (y j) 120946279055360000) ∧
   (∀ j, j < 6 → sr (fun k => lq G j k * qr (t k)) 6 - qr (rowK C i j) ≤ 3 / 1099511627776 ∧ -(3 / 1099511627776) ≤ sr (fun k => lq G j k * qr (t k)) 6 - qr (rowK C i j)) ∧
   (∀ j, j < 6 → col G (fun k => qr (y k)) j - qr (t j) ≤ 3 / 1099511627776 ∧ -(3 / 1099511627776) ≤ col G (fun k => qr (y k)) j - qr (t j)) := fun i hi =>
  solve_pd D (by decide +kernel) W rel (fun j hj => cb i j hi hj)
 let k : Nat → Nat → Int := fun i => (mSolveS false l (rowK C i) 6).1
 have good : ∀ i, i < 6 → mSolveS false l (rowK C i) 6 = (k i, false) := fun i hi => by
  obtain ⟨y, t, e, _⟩ := one i hi
  show _ = ((mSolveS false l (rowK C i) 6).1, false)
  rw [e]
 have ky : ∀ i, i < 6 → ∃ t : Nat → Int, (∀ j, j < 6 → Ab (k i j) 120946279055360000) ∧
   (∀ j, j < 6 → sr (fun k => lq G j k * qr (t k)) 6 - qr (rowK C i j) ≤ 3 / 1099511627776 ∧ -(3 / 1099511627776) ≤ sr (fun k => lq G j k * qr (t k)) 6 - qr (rowK C i j)) ∧
   (∀ j, j < 6 → col G (fun s => qr (k i s)) j - qr (t j) ≤ 3 / 1099511627776 ∧ -(3 / 1099511627776) ≤ col G (fun s => qr (k i s)) j - qr (t j)) := fun i hi => by
  obtain ⟨y, t, e, h⟩ := one i hi
  have : k i = y := by show (mSolveS false l (rowK C i) 6).1 = y; rw [e]
  exact ⟨t, by rw [this]; exact h⟩
 have left : ∀ (X : Rat) (i : Nat), i < 3 → (∀ j, j < 6 → qr (k i j) ≤ X ∧ -X ≤ qr (k i j)) → ∀ j, j < 6 → lft C S (fun r s => qr (k r s)) i j ≤ (21 + 42 * X) / 1099511627776 ∧ -((21 + 42 * X) / 1099511627776) ≤ lft C S (fun r s => qr (k r s)) i j := fun X i hi hX j hj => by
  obtain ⟨t, _, h1, h2⟩ := ky i (by omega)
  have r := solve_res (m := S) (b := rowK C i) D W h1 h2 hX hj
  exact ⟨r.hi, r.lo⟩
 have sml : ∀ i, i < 3 → nrm 6 (fun j => qr (k i j)) ≤ 340 := k_small H hu hl P V M L (fun r s => qr (k r s)) fun i hi j hj => by
  obtain ⟨t, hb, _⟩ := ky i (by omega)
  have h := left 110000 i hi (fun j hj => by
   have a := qr_ab (hb j hj)
   have e : qr 120946279055360000 = 110000 := by decide +kernel
   rw [e] at a; exact a) j hj
  have e : ((21 : Rat) + 42 * 110000) / 1099511627776 = 4620021 / 1099511627776 := by decide +kernel
  rw [e] at h; exact h
 have b19 : ∀ i, i < 3 → ∀ j, j < 6 → qr (k i j) ≤ 19 ∧ -19 ≤ qr (k i j) := fun i hi j hj => by
  have n := sml i hi
  have t := sr_term (f := fun j => qr (k i j) * qr (k i j)) (n := 6) (fun j _ => sq_nn _) hj
  have s : qr (k i j) * qr (k i j) ≤ 19 * 19 := by
   have : nrm 6 (fun j => qr (k i j)) = sr (fun j => qr (k i j) * qr (k i j)) 6 := rfl
   rw [this] at n
   grind
  exact ab_of_sq (by decide +kernel) s
 have kz : ∀ i, 3 ≤ i → i < 6 → ∀ j, j < 6 → k i j = 0 := fun i h3 h6 => by
  obtain ⟨y, e, h⟩ := solve_zero (b := rowK C i) D (by decide +kernel) W rel (fun j hj => c_zero P V M i h3 h6 j hj)
  have : k i = y := by show (mSolveS false l (rowK C i) 6).1 = y; rw [e]
  rw [this]; exact h
 refine ⟨l, G, by rw [← mRoot6_eq]; exact el, rel, W, k, fun i hi => by rw [← mSolve6_eq]; exact good i hi, kz, sml, fun i hi j hj => ?_, fun i hi j hj => ?_⟩
 ·by_cases c : 3 ≤ i
  ·rw [kz i c hi j hj]; exact ⟨by decide, by decide⟩
  ·have h := b19 i (by omega) j hj
   exact ab_of (up := 19) (by decide +kernel) h.1 h.2
 ·have h := left 19 i hi (b19 i hi) j hj
  have e : ((21 : Rat) + 42 * 19) / 1099511627776 = 819 / 1099511627776 := by decide +kernel
  rw [e] at h; exact h
end Go.Proofs.Ytooehgijllihdaa.Ff
namespace Go.Proofs.Ytooehgijllihdaa.Ff
open Go.RowKit
theorem msum_near {p q : Nat → Int} : ∀ {n : Nat}, n ≤ 6 → (∀ t, t < n → Ab (p t) 20890720927744) → (∀ t, t < n → Ab (q t) 1099511627776) → ∃ s, msumS_l0 p q (0, false) n = (s, false) ∧ Nr (qr s) (sr (fun t => qr (p t) * qr (q t)) n) (n / 2199023255552) ∧ Ab s (n * 20890720927745)
 | 0, _, _, _ => ⟨0, rfl, ⟨by simp only [sr]; rw [qr_zero']; push_cast; grind, by simp only [sr]; rw [qr_zero']; push_cast; grind⟩, ⟨by omega, by omega⟩⟩
 | n + 1, hn, hp, hq => by
  obtain ⟨s, e, nr, b⟩ := msum_near (n := n) (by omega) (fun t ht => hp t (by omega)) (fun t ht => hq t (by omega))
  obtain ⟨m, em, hm⟩ := mul_near (hp n (by omega)) (hq n (by omega)) (by decide) (by decide)
  have mb : Ab m 20890720927745 := prod_bd (hp n (by omega)) (hq n (by omega)) hm (by decide)
  have sb : Ab s 125344325566470 := b.le (by omega)
  refine ⟨s + m, ?_, ?_, (b.add mb).le (by push_cast; omega)⟩
  ·unfold msumS_l0
   rw [e]
   dsimp only
   rw [em]
   dsimp only
   rw [add_near sb mb (by omega) (by omega) (by omega)]
  ·have a := nr.add (mul_qn hm)
   rw [qr_add]
   refine ⟨?_, ?_⟩
   ·have := a.hi; simp only [sr]; push_cast; grind
   ·have := a.lo; simp only [sr]; push_cast; grind
theorem msum_none {p q : Nat → Int} : ∀ {n : Nat}, (∀ t, t < n → (p t = 0 ∧ Ab (q t) 20890720927744) ∨ (q t = 0 ∧ Ab (p t) 20890720927744)) → msumS_l0 p q (0, false) n = (0, false)
 | 0, _ => rfl
 | n + 1, h => by
  have e := msum_none (n := n) fun t ht => h t (by omega)
  unfold msumS_l0
  rw [e]
  dsimp only
  have m : mulS false (p n) (q n) = (0, false) := by
   rcases h n (by omega) with ⟨z, b⟩ | ⟨z, b⟩
   ·rw [z]; exact mul_zero (b.numB (by decide))
   ·rw [z, mulS_comm]; exact mul_zero (b.numB (by decide))
  rw [m]
  dsimp only
  rw [add_nought]
theorem tm_near {v : Int} {p q : Nat → Int} (hv : Ab v 1099511627776) (hp : ∀ t, t < 6 → Ab (p t) 20890720927744) (hq : ∀ t, t < 6 → Ab (q t) 1099511627776) : ∃ s, tmS false v p q = (s, false) ∧ Nr (qr s) (qr v - sr (fun t => qr (p t) * qr (q t)) 6) (3 / 1099511627776) ∧ Ab s 126443837194246 := by
 obtain ⟨s, e, n, b⟩ := msum_near (Nat.le_refl 6) hp hq
 have b' : Ab s 125344325566470 := b.le (by decide)
 refine ⟨v - s, ?_, ?_, (hv.sub b').le (by decide)⟩
 ·unfold tmS
  rw [e]
  dsimp only
  rw [sub_near hv b' (by decide) (by decide) (by decide)]
 ·rw [qr_sub]
  have := n.hi; have := n.lo
  push_cast at *
  exact ⟨by grind, by grind⟩
theorem tm_none {v : Int} {p q : Nat → Int} (hv : Ab v 1099511627776) (h : ∀ t, t < 6 → (p t = 0 ∧ Ab (q t) 20890720927744) ∨ (q t = 0 ∧ Ab (p t) 20890720927744)) : tmS false v p q = (v, false) := by
 unfold tmS
 rw [msum_none h]
 dsimp only
 rw [sub_Z' hv]
theorem half_near {x y : Int} (hx : Ab x 126443837194246) (hy : Ab y 126443837194246) : ∃ m, halfS false x y = (m, false) ∧ Nr (qr m) ((qr x + qr y) / 2) (1 / 2199023255552) := by
 have a := add_near hx hy (by decide) (by decide) (by decide)
 have b := hx.add hy
 obtain ⟨m, em, m1, m2, _⟩ := partS_near (x + y) 1 2 (b.numB (by decide)) (by rfl) (by rfl) (by decide) (by
  rw [show sz 1 = 1 by rfl]
  have := b.lo; have := b.hi
  unfold sz; split <;> omega)
 refine ⟨m, ?_, ?_⟩
 ·unfold halfS
  rw [a]
  dsimp only
  rw [em]
 ·have c1 : ((2 * (m * 2) : Int) : Rat) ≤ ((2 * ((x + y) * 1) + 2 : Int) : Rat) := Rat.intCast_le_intCast.2 m1
  have c2 : ((2 * ((x + y) * 1) : Int) : Rat) ≤ ((2 * (m * 2) + 2 : Int) : Rat) := Rat.intCast_le_intCast.2 m2
  push_cast at c1 c2
  have em : qr m = (m : Rat) / 1099511627776 := rfl
  have ex : qr x = (x : Rat) / 1099511627776 := rfl
  have ey : qr y = (y : Rat) / 1099511627776 := rfl
  exact ⟨by grind, by grind⟩
theorem half_comm {x y : Int} (hx : Ab x 126443837194246) (hy : Ab y 126443837194246) : halfS false x y = halfS false y x := by
 unfold halfS
 rw [add_near hx hy (by decide) (by decide) (by decide), add_near hy hx (by decide) (by decide) (by decide), Int.add_comm]
theorem half_same {x : Int} (hx : Ab x 1099511627776) : halfS false x x = (x, false) := by
 obtain ⟨m, e, n⟩ := half_near (hx.le (by decide)) (hx.le (by decide))
 have a := add_near (hx.le (show (1099511627776 : Int) ≤ 126443837194246 by decide)) (hx.le (show (1099511627776 : Int) ≤ 126443837194246 by decide)) (by decide) (by decide) (by decide)
 obtain ⟨t, et, t1, t2, _⟩ := partS_near (x + x) 1 2 ((hx.add hx).numB (by decide)) (by rfl) (by rfl) (by decide) (by
  rw [show sz 1 = 1 by rfl]
  have := hx.lo; have := hx.hi
  unfold sz; split <;> omega)
 have : halfS false x x = (t, false) := by
  unfold halfS
  rw [a]
  dsimp only
  rw [et]
 rw [this]
 have : t = x := by omega
 rw [this]
end Go.Proofs.Ytooehgijllihdaa.Ff
namespace Go.Proofs.Ytooehgijllihdaa.Ff
open Go.RowKit
theorem unit_any {g0 g1 g2 g3 : Int} (h0 : Ab g0 70368744177664) (h1 : Ab g1 70368744177664) (h2 : Ab g2 70368744177664) (h3 : Ab g3 70368744177664) (big : 1108925819614629174706176 ≤ g0 * g0 + g1 * g1 + g2 * g2 + g3 * g3) :
  ∃ n d0 d1 d2 d3, 0 ≤ n ∧ n * n ≤ g0 * g0 + g1 * g1 + g2 * g2 + g3 * g3 ∧ g0 * g0 + g1 * g1 + g2 * g2 + g3 * g3 ≤ n * n + 4 * n + 1 ∧ Uof d0 g0 n ∧ Uof d1 g1 n ∧ Uof d2 g2 n ∧ Uof d3 g3 n ∧
   qUnitS false (g0, g1, g2, g3) = (if d3 < 0 then (-d0, -d1, -d2, -d3) else (d0, d1, d2, d3), false) := by
 obtain ⟨N, eN, N0, N1, N2⟩ := norm_near h0 h1 h2 (by decide)
 have s0 := sq_nonneg g0
 have s1 := sq_nonneg g1
 have s2 := sq_nonneg g2
 have s3 := sq_nonneg g3
 have sN := sq_nonneg N
 have kN : Ab N 281474976710656 := by
  refine ⟨by omega, ?_⟩
  have := (h0.mul h0).hi; have := (h1.mul h1).hi; have := (h2.mul h2).hi
  by_cases c : N ≤ 281474976710656
  ·exact c
  ·have := sq_mono (by omega : (0 : Int) ≤ 281474976710656) (by omega : 281474976710656 ≤ N)
   omega
 obtain ⟨n, en, n0, n1, n2⟩ := norm_near kN (h3.le (by decide)) (Ab.zero (by decide)) (by decide)
 have kn := abs_le_of_sq (a := N) n0 (by omega)
 have m1 : (N + 1) * (N + 1) = N * N + 2 * N + 1 := by grind
 have m2 : (n + 1) * (n + 1) = n * n + 2 * n + 1 := by grind
 have nb : 549755813888 ≤ n := by
  by_cases c : 549755813888 ≤ n
  ·exact c
  ·have := sq_mono n0 (by omega : n ≤ 549755813888)
   omega
 rcases qUnit_cases false (g0, g1, g2, g3) with ⟨c, _⟩ | ⟨N', n', d0, d1, d2, d3, _, e1, e2, _, _, _, _, _, U0, U1, U2, U3, e⟩
 ·have eN' : vNormS false (g0, g1, g2) = (N, false) := eN
  have en' : normS false N g3 0 = (n, false) := en
  dsimp only at c
  rw [eN'] at c
  dsimp only at c
  rw [en'] at c
  dsimp only at c
  omega
 ·have eN' : normS false g0 g1 g2 = (N, false) := eN
  have en' : normS false N g3 0 = (n, false) := en
  dsimp only at e1 e2 U0 U1 U2 U3
  rw [eN'] at e1
  obtain rfl : N = N' := congrArg Prod.fst e1
  rw [en'] at e2
  obtain rfl : n = n' := congrArg Prod.fst e2
  exact ⟨n, d0, d1, d2, d3, n0, by omega, by omega, U0, U1, U2, U3, e⟩
def hmv (a : R3) (s : Rat) (b : R3) (t : Rat) : R3 := ad (ad (sc t a) (sc s b)) (cr b a)
def hms (a : R3) (s : Rat) (b : R3) (t : Rat) : Rat := s * t - dt a b
theorem hm_len (a : R3) (s : Rat) (b : R3) (t : Rat) : dt (hmv a s b t) (hmv a s b t) + hms a s b t * hms a s b t = (dt a a + s * s) * (dt b b + t * t) := by
 unfold hmv hms; simp only [ad, sc, cr, dt]; grind
theorem near_q2 {c e : Int} (h : Ab (1099511627776 * c - e) 2199023255552) : Nr (qr c) ((e : Rat) / 1208925819614629174706176) (2 / 1099511627776) := by
 have h1 : ((1099511627776 * c - e : Int) : Rat) ≤ ((2199023255552 : Int) : Rat) := Rat.intCast_le_intCast.2 h.hi
 have h2 : ((-2199023255552 : Int) : Rat) ≤ ((1099511627776 * c - e : Int) : Rat) := Rat.intCast_le_intCast.2 h.lo
 push_cast at h1 h2
 have ec : qr c = (c : Rat) / 1099511627776 := rfl
 constructor <;> grind
theorem sq_near {x y e : Rat} (h : Nr x y e) (hx : y ≤ 2 ∧ -2 ≤ y) (e1 : e ≤ 1) : Nr (x * x) (y * y) (5 * e) := by
 have e0 := h.nn
 have a := h.mul h (c := 3) (d := 2) (by have := h.hi; grind) (by have := h.lo; grind) hx.1 hx.2
 exact a.le (by grind)
theorem unit_q40 {u g n : Int} (h : Uof u g n) (hn : Nr (qr n) 1 (40 / 1099511627776)) : Nr (qr u) (qr g) (41 / 1099511627776) := by
 have d := div_qn (uof_ab h)
 have ub := qr_ab (⟨h.lo, h.hi⟩ : Ab u 1099511627776)
 rw [one_q] at ub
 have s := hn.scale ub.1 ub.2
 have dh := d.hi; have dl := d.lo; have sh := s.hi; have sl := s.lo; have nh := hn.hi
 constructor <;> grind
theorem one_near {N S : Rat} (N0 : 0 ≤ N) (h1 : N * N ≤ S) (h2 : S ≤ N * N + 4 / 1099511627776 * N + 1 / 1208925819614629174706176) (hS : Nr S 1 (70 / 1099511627776)) : Nr N 1 (40 / 1099511627776) := by
 have a := hS.hi; have b := hS.lo
 refine ⟨?_, ?_⟩
 ·have : N ≤ 1 + 40 / 1099511627776 ∧ -(1 + 40 / 1099511627776) ≤ N := ab_of_sq (by decide +kernel) (by grind)
  grind
 ·by_cases c : -(40 / 1099511627776) ≤ N - 1
  ·exact c
  ·have l : N ≤ 1 - 40 / 1099511627776 := by grind
   have q := abs_sq l (by grind)
   have : N * N + 4 / 1099511627776 * N + 1 / 1208925819614629174706176 ≤ (1 - 40 / 1099511627776) * (1 - 40 / 1099511627776) + 4 / 1099511627776 + 1 / 1208925819614629174706176 := by grind
   have k : ((1 : Rat) - 40 / 1099511627776) * (1 - 40 / 1099511627776) + 4 / 1099511627776 + 1 / 1208925819614629174706176 < 1 - 70 / 1099511627776 := by decide +kernel
   grind
theorem turned_q {f0 f1 f2 f3 b0 b1 b2 b3 : Int} (U : U4 f0 f1 f2 f3) (V : U4 b0 b1 b2 b3) : ∃ c u0 u1 u2 u3, qMulS false (f0, f1, f2, f3) (b0, b1, b2, b3) = (c, false) ∧ qUnitS false c = ((u0, u1, u2, u3), false) ∧ U4 u0 u1 u2 u3 ∧
  ∃ sg : Rat, (sg = 1 ∨ sg = -1) ∧ Nr3 (rv u0 u1 u2) (sc sg (hmv (rv f0 f1 f2) (qr f3) (rv b0 b1 b2) (qr b3))) (43 / 1099511627776) ∧ Nr (qr u3) (sg * hms (rv f0 f1 f2) (qr f3) (rv b0 b1 b2) (qr b3)) (43 / 1099511627776) := by
 obtain ⟨c0, c1, c2, c3, ec, bc0, bc1, bc2, bc3, g0, g1, g2, g3⟩ := mul4_near U.a0 U.a1 U.a2 U.a3 V.a0 V.a1 V.a2 V.a3
 have lf := u4_q U; have lb := u4_q V
 have len := hm_len (rv f0 f1 f2) (qr f3) (rv b0 b1 b2) (qr b3)
 have q0 := near_q2 g0; have q1 := near_q2 g1; have q2 := near_q2 g2; have q3 := near_q2 g3
 have e0 : ((f0 * b3 + b0 * f3 + (b1 * f2 - b2 * f1) : Int) : Rat) / 1208925819614629174706176 = (hmv (rv f0 f1 f2) (qr f3) (rv b0 b1 b2) (qr b3)).x := by unfold hmv rv qr; simp only [ad, sc, cr]; push_cast; grind
 have e1 : ((f1 * b3 + b1 * f3 + (b2 * f0 - b0 * f2) : Int) : Rat) / 1208925819614629174706176 = (hmv (rv f0 f1 f2) (qr f3) (rv b0 b1 b2) (qr b3)).y := by unfold hmv rv qr; simp only [ad, sc, cr]; push_cast; grind
 have e2 : ((f2 * b3 + b2 * f3 + (b0 * f1 - b1 * f0) : Int) : Rat) / 1208925819614629174706176 = (hmv (rv f0 f1 f2) (qr f3) (rv b0 b1 b2) (qr b3)).z := by unfold hmv rv qr; simp only [ad, sc, cr]; push_cast; grind
 have e3 : ((f3 * b3 - (f0 * b0 + f1 * b1 + f2 * b2) : Int) : Rat) / 1208925819614629174706176 = hms (rv f0 f1 f2) (qr f3) (rv b0 b1 b2) (qr b3) := by unfold hms rv qr; simp only [dt]; push_cast; grind
 rw [e0] at q0; rw [e1] at q1; rw [e2] at q2; rw [e3] at q3
 generalize hmv (rv f0 f1 f2) (qr f3) (rv b0 b1 b2) (qr b3) = w at *
 generalize hms (rv f0 f1 f2) (qr f3) (rv b0 b1 b2) (qr b3) = s at *
 generalize dt (rv f0 f1 f2) (rv f0 f1 f2) + qr f3 * qr f3 = A at *
 generalize dt (rv b0 b1 b2) (rv b0 b1 b2) + qr b3 * qr b3 = B at *
 have AB : Nr (A * B) 1 (27 / 1099511627776) := by
  have m := lf.mul lb (c := 2) (d := 1) (by have := lf.hi; grind) (by have := lf.lo; grind) (by grind) (by grind)
  have h1 := lf.hi; have h2 := lf.lo; have h3 := lb.hi; have h4 := lb.lo
  have m2 := lb.scale (a := A) (c := 1 + 13 / 1099511627776) (by grind) (by grind)
  have k : ((1 : Rat) + 13 / 1099511627776) * (13 / 1099511627776) + 13 / 1099511627776 ≤ 27 / 1099511627776 := by decide +kernel
  have := m2.hi; have := m2.lo
  constructor <;> grind
 have sum : w.x * w.x + w.y * w.y + w.z * w.z + s * s = A * B := by
  have : dt w w = w.x * w.x + w.y * w.y + w.z * w.z := rfl
  rw [← len, this]
 have n0 := sq_nn w.x; have n1 := sq_nn w.y; have n2 := sq_nn w.z; have n3 := sq_nn s
 have ah := AB.hi; have al := AB.lo
 have s0 := sq_near q0 (ab_of_sq (by decide +kernel) (by grind)) (by decide +kernel)
 have s1 := sq_near q1 (ab_of_sq (by decide +kernel) (by grind)) (by decide +kernel)
 have s2 := sq_near q2 (ab_of_sq (by decide +kernel) (by grind)) (by decide +kernel)
 have s3 := sq_near q3 (ab_of_sq (by decide +kernel) (by grind)) (by decide +kernel)
 have SS : Nr (qr c0 * qr c0 + qr c1 * qr c1 + qr c2 * qr c2 + qr c3 * qr c3) 1 (70 / 1099511627776) := by
  have a0 := s0.hi; have a1 := s1.hi; have a2 := s2.hi; have a3 := s3.hi; have b0 := s0.lo; have b1 := s1.lo; have b2 := s2.lo; have b3 := s3.lo
  constructor <;> grind
 have cast : ((c0 * c0 + c1 * c1 + c2 * c2 + c3 * c3 : Int) : Rat) = 1208925819614629174706176 * (qr c0 * qr c0 + qr c1 * qr c1 + qr c2 * qr c2 + qr c3 * qr c3) := by unfold qr; push_cast; grind
 have big : (1108925819614629174706176 : Int) ≤ c0 * c0 + c1 * c1 + c2 * c2 + c3 * c3 := by
  apply Rat.intCast_le_intCast.1
  rw [cast]
  have := SS.lo
  push_cast
  grind
 obtain ⟨n, d0, d1, d2, d3, np, nl, nu, D0, D1, D2, D3, eu⟩ := unit_any (bc0.le (by decide)) (bc1.le (by decide)) (bc2.le (by decide)) (bc3.le (by decide)) big
 have nq : Nr (qr n) 1 (40 / 1099511627776) := by
  have r1 := Rat.intCast_le_intCast.2 nl
  have r2 := Rat.intCast_le_intCast.2 nu
  have r3 : ((0 : Int) : Rat) ≤ ((n : Int) : Rat) := Rat.intCast_le_intCast.2 np
  rw [cast] at r1 r2
  push_cast at r1 r2 r3
  have en : (n : Rat) = 1099511627776 * qr n := by unfold qr; grind
  rw [en] at r1 r2 r3
  exact one_near (by grind) (by grind) (by grind) SS
 have t0 := (unit_q40 D0 nq).trans q0; have t1 := (unit_q40 D1 nq).trans q1; have t2 := (unit_q40 D2 nq).trans q2; have t3 := (unit_q40 D3 nq).trans q3
 have UU : ∀ v0 v1 v2 v3, qUnitS false (c0, c1, c2, c3) = ((v0, v1, v2, v3), false) → U4 v0 v1 v2 v3 := fun v0 v1 v2 v3 e => by
  rcases unit_math (c0, c1, c2, c3) with h | ⟨w0, w1, w2, w3, h, U⟩
  ·rw [e] at h
   simp only [Prod.mk.injEq] at h
   exact absurd h.2 (by decide)
  ·rw [e] at h
   simp only [Prod.mk.injEq] at h
   obtain ⟨⟨rfl, rfl, rfl, rfl⟩, _⟩ := h
   exact U
 have k43 : (41 : Rat) / 1099511627776 + 2 / 1099511627776 = 43 / 1099511627776 := by decide +kernel
 rw [k43] at t0 t1 t2 t3
 by_cases neg : d3 < 0
 ·rw [if_pos neg] at eu
  refine ⟨_, _, _, _, _, ec, eu, UU _ _ _ _ eu, -1, Or.inr rfl, ⟨?_, ?_, ?_⟩, ?_⟩
  ·have h := t0.neg; unfold rv; simp only [sc]; rw [qr_neg]; exact ⟨by have := h.hi; grind, by have := h.lo; grind⟩
  ·have h := t1.neg; unfold rv; simp only [sc]; rw [qr_neg]; exact ⟨by have := h.hi; grind, by have := h.lo; grind⟩
  ·have h := t2.neg; unfold rv; simp only [sc]; rw [qr_neg]; exact ⟨by have := h.hi; grind, by have := h.lo; grind⟩
  ·have h := t3.neg; rw [qr_neg]; exact ⟨by have := h.hi; grind, by have := h.lo; grind⟩
 ·rw [if_neg neg] at eu
  refine ⟨_, _, _, _, _, ec, eu, UU _ _ _ _ eu, 1, Or.inl rfl, ⟨?_, ?_, ?_⟩, ?_⟩
  ·unfold rv; simp only [sc]; exact ⟨by have := t0.hi; grind, by have := t0.lo; grind⟩
  ·unfold rv; simp only [sc]; exact ⟨by have := t1.hi; grind, by have := t1.lo; grind⟩
  ·unfold rv; simp only [sc]; exact ⟨by have := t2.hi; grind, by have := t2.lo; grind⟩
  ·exact ⟨by have := t3.hi; grind, by have := t3.lo; grind⟩
end Go.Proofs.Ytooehgijllihdaa.Ff
namespace Go.Proofs.Ytooehgijllihdaa.Ff
open Go.RowKit
def kq (k : Nat → Nat → Int) : Nat → Nat → Rat := fun r s => qr (k r s)
def led (k : Nat → Nat → Int) (y : Nat → Int) (i : Nat) : Rat := sr (fun t => qr (k i t) * qr (y t)) 6
structure Md (g C S l y : Nat → Int) (k : Nat → Nat → Int) : Prop where
 G : Gn C S l k
 cz : ∀ i, 3 ≤ i → i < 6 → ∀ j, j < 6 → C (i * 6 + j) = 0
 cb : ∀ i j, i < 6 → j < 6 → Ab (C (i * 6 + j)) 1099511627776
 yb : ∀ j, j < 6 → Ab (y j) 1099511627776
 gb : ∀ i j, i < 6 → j < 6 → Ab (g (7 + (i * 6 + j))) 1099511627776
theorem St.gb {g : Nat → Int} {up lo : Rat} (H : St g up lo) (hu : up ≤ 1 / 50) (hl : 0 ≤ lo) : ∀ i j, i < 6 → j < 6 → Ab (g (7 + (i * 6 + j))) 1099511627776 := fun i j hi hj => by
 obtain ⟨p7, p14, p21, p8, p9, p15⟩ := H.place hl
 obtain ⟨s1, s2, s3⟩ := H.sym
 have ab : ∀ x : Int, qr x ≤ up → -up ≤ qr x → Ab x 1099511627776 := fun x h1 h2 => ab_of (up := 1) (by decide +kernel) (by grind) (by grind)
 by_cases c3 : i < 3 ∧ j < 3
 ·have b8 := ab _ p8.1 p8.2; have b9 := ab _ p9.1 p9.2; have b15 := ab _ p15.1 p15.2
  have b7 := ab _ p7.1 (by have := p7.2; have := p7.1; grind); have b14 := ab _ p14.1 (by have := p14.2; have := p14.1; grind); have b21 := ab _ p21.1 (by have := p21.2; have := p21.1; grind)
  rcases (show i = 0 ∨ i = 1 ∨ i = 2 by omega) with rfl | rfl | rfl <;> rcases (show j = 0 ∨ j = 1 ∨ j = 2 by omega) with rfl | rfl | rfl
  ·exact b7
  ·exact b8
  ·exact b9
  ·show Ab (g 13) _; rw [s1]; exact b8
  ·exact b14
  ·exact b15
  ·show Ab (g 19) _; rw [s2]; exact b9
  ·show Ab (g 20) _; rw [s3]; exact b15
  ·exact b21
 ·by_cases e : 3 ≤ i ∧ i = j
  ·rw [← e.2, H.diag i e.1 hi]; exact ⟨by decide, by decide⟩
  ·rw [H.cross i j hi hj (by omega)]; exact ⟨by decide, by decide⟩
theorem Md.tm {g C S l y : Nat → Int} {k : Nat → Nat → Int} (M : Md g C S l y k) {i j : Nat} (hi : i < 6) (hj : j < 6) : ∃ s, tmS false (g (7 + i * 6 + j)) (k i) (rowK C j) = (s, false) ∧ Ab s 126443837194246 ∧ Nr (qr s) (qr (g (7 + (i * 6 + j))) - sr (fun t => qr (k i t) * qr (C (j * 6 + t))) 6) (3 / 1099511627776) ∧ (3 ≤ i ∨ 3 ≤ j → s = g (7 + (i * 6 + j))) := by
 have e : 7 + i * 6 + j = 7 + (i * 6 + j) := by omega
 rw [e]
 obtain ⟨s, es, n, b⟩ := tm_near (p := k i) (q := rowK C j) (M.gb i j hi hj) (fun t ht => M.G.ub i hi t ht) (fun t ht => M.cb j t hj ht)
 refine ⟨s, es, b, n, fun h => ?_⟩
 have z := tm_none (p := k i) (q := rowK C j) (M.gb i j hi hj) (fun t ht => by
  by_cases c : 3 ≤ i
  ·exact Or.inl ⟨M.G.z i c hi t ht, (M.cb j t hj ht).le (by decide)⟩
  ·exact Or.inr ⟨M.cz j (by omega) hj t ht, M.G.ub i hi t ht⟩)
 rw [es] at z
 exact congrArg Prod.fst z
theorem Md.met {g C S l y : Nat → Int} {k : Nat → Nat → Int} (M : Md g C S l y k) : ∀ i, i < 6 → MetG g l C i := fun i hi => by
 refine ⟨by rw [M.G.sol i hi], fun j hj => ?_⟩
 rw [M.G.sol i hi]
 obtain ⟨s, es, _⟩ := M.tm hi hj
 rw [es]
end Go.Proofs.Ytooehgijllihdaa.Ff
namespace Go.Proofs.Ytooehgijllihdaa.Ff
open Go.RowKit
theorem pair_of {α : Type} {x : α × Bool} (h : x.2 = false) : x = (x.1, false) := by cases x; cases h; rfl
theorem Md.five {g C S l y : Nat → Int} {k : Nat → Nat → Int} (M : Md g C S l y k) : ∃ K T : Nat → Int, hmetS_l0 g l C ((fun _ => 0), (fun _ => 0), false) 6 = (K, T, false) ∧ (∀ i j, i < 6 → j < 6 → K (i * 6 + j) = k i j) ∧ (∀ i j, i < 6 → j < 6 → T (i * 6 + j) = (tmS false (g (7 + i * 6 + j)) (k i) (rowK C j)).1) := by
 have fl := (met_flag g l C false).2 ⟨rfl, M.met⟩
 have vk := (met_k g l C false).val
 have vt := (met_t g l C false).val
 dsimp only at vk vt
 generalize hmetS_l0 g l C ((fun _ => 0), (fun _ => 0), false) 6 = r at *
 replace vk := vk fl
 replace vt := vt fl
 obtain ⟨K, T, b⟩ := r
 dsimp only at fl vk vt
 subst fl
 refine ⟨K, T, rfl, fun i j hi hj => ?_, fun i j hi hj => ?_⟩
 ·have h := vk i hi j hj
  rw [M.G.sol i hi, Nat.zero_add] at h
  exact h
 ·have h := vt i hi j hj
  rw [M.G.sol i hi, Nat.zero_add] at h
  exact h
theorem Md.six {g C S l y : Nat → Int} {k : Nat → Nat → Int} (M : Md g C S l y k) {K : Nat → Int} (hK : ∀ i j, i < 6 → j < 6 → K (i * 6 + j) = k i j) : ∃ d : Nat → Int, zApply6 false K y = (d, false) ∧ (∀ i, i < 6 → Nr (qr (d i)) (led k y i) (3 / 1099511627776)) ∧ d 3 = 0 ∧ d 4 = 0 ∧ d 5 = 0 := by
 have ms : ∀ i, i < 6 → msumS false (fun x_ => K (i * 6 + x_)) y 6 = msumS_l0 (k i) y (0, false) 6 := fun i hi => by
  rw [msum_is]
  exact sum_congr (fun t ht => hK i t hi ht) (fun _ _ => rfl) _
 have nr : ∀ i, i < 6 → ∃ s, msumS false (fun x_ => K (i * 6 + x_)) y 6 = (s, false) ∧ Nr (qr s) (led k y i) (3 / 1099511627776) := fun i hi => by
  obtain ⟨s, e, n, _⟩ := msum_near (p := k i) (q := y) (Nat.le_refl 6) (fun t ht => M.G.ub i hi t ht) M.yb
  refine ⟨s, by rw [ms i hi]; exact e, ?_⟩
  unfold led
  push_cast at n
  exact n.le (by decide +kernel)
 have fl := (apply_good K y false).2 ⟨rfl, fun i hi => by obtain ⟨s, e, _⟩ := nr i hi; rw [e]⟩
 have zz : ∀ i, 3 ≤ i → i < 6 → (zApply6 false K y).1 i = 0 := fun i h3 hi => by
  rw [apply_val fl hi, ms i hi, msum_none fun t ht => Or.inl ⟨M.G.z i h3 hi t ht, (M.yb t ht).le (by decide)⟩]
 refine ⟨(zApply6 false K y).1, pair_of fl, fun i hi => ?_, zz 3 (by omega) (by omega), zz 4 (by omega) (by omega), zz 5 (by omega) (by omega)⟩
 obtain ⟨s, e, n⟩ := nr i hi
 rw [apply_val fl hi, e]
 exact n
theorem Md.ten {g C S l y : Nat → Int} {k : Nat → Nat → Int} (M : Md g C S l y k) {T : Nat → Int} (hT : ∀ i j, i < 6 → j < 6 → T (i * 6 + j) = (tmS false (g (7 + i * 6 + j)) (k i) (rowK C j)).1) : ∃ p : Nat → Int, hevenedS false T = (p, false) ∧
  (∀ i j, i < 6 → j < 6 → p (i * 6 + j) = p (j * 6 + i)) ∧
  (∀ i j, i < 6 → j < 6 → Nr (qr (p (i * 6 + j))) ((qr (g (7 + (i * 6 + j))) - sr (fun t => qr (k i t) * qr (C (j * 6 + t))) 6 + (qr (g (7 + (j * 6 + i))) - sr (fun t => qr (k j t) * qr (C (i * 6 + t))) 6)) / 2) (4 / 1099511627776)) ∧
  (∀ i j, i < 6 → j < 6 → 3 ≤ i ∨ 3 ≤ j → g (7 + (i * 6 + j)) = g (7 + (j * 6 + i)) → p (i * 6 + j) = g (7 + (i * 6 + j))) := by
 have tb : ∀ i j, i < 6 → j < 6 → Ab (T (i * 6 + j)) 126443837194246 := fun i j hi hj => by
  obtain ⟨s, e, b, _⟩ := M.tm hi hj
  rw [hT i j hi hj, e]; exact b
 have tn : ∀ i j, i < 6 → j < 6 → Nr (qr (T (i * 6 + j))) (qr (g (7 + (i * 6 + j))) - sr (fun t => qr (k i t) * qr (C (j * 6 + t))) 6) (3 / 1099511627776) := fun i j hi hj => by
  obtain ⟨s, e, _, n, _⟩ := M.tm hi hj
  rw [hT i j hi hj, e]; exact n
 have tz : ∀ i j, i < 6 → j < 6 → 3 ≤ i ∨ 3 ≤ j → T (i * 6 + j) = g (7 + (i * 6 + j)) := fun i j hi hj h => by
  obtain ⟨s, e, _, _, z⟩ := M.tm hi hj
  rw [hT i j hi hj, e]; exact z h
 have fl := (even_good T false).2 ⟨rfl, fun i hi j hj => by obtain ⟨m, e, _⟩ := half_near (tb i j hi hj) (tb j i hj hi); rw [e]⟩
 refine ⟨(hevenedS false T).1, pair_of fl, fun i j hi hj => ?_, fun i j hi hj => ?_, fun i j hi hj h s => ?_⟩
 ·rw [even_val fl hi hj, even_val fl hj hi, half_comm (tb i j hi hj) (tb j i hj hi)]
 ·rw [even_val fl hi hj]
  obtain ⟨m, e, n⟩ := half_near (tb i j hi hj) (tb j i hj hi)
  rw [e]
  have a := tn i j hi hj; have b := tn j i hj hi
  have := a.hi; have := a.lo; have := b.hi; have := b.lo; have := n.hi; have := n.lo
  constructor <;> grind
 ·rw [even_val fl hi hj, tz i j hi hj h, tz j i hj hi (by omega), ← s, half_same (M.gb i j hi hj)]
end Go.Proofs.Ytooehgijllihdaa.Ff
namespace Go.Proofs.Ytooehgijllihdaa.Ff
open Go.RowKit
def kap (C : Nat → Int) (k : Nat → Nat → Int) (i j : Nat) : Rat := sr (fun t => qr (k i t) * qr (C (j * 6 + t))) 6
theorem nxt_kap (g C : Nat → Int) (k : Nat → Nat → Int) (a : R3) : nxt g C (kq k) a = fA g a - (a.x * (a.x * kap C k 0 0 + a.y * kap C k 0 1 + a.z * kap C k 0 2) + a.y * (a.x * kap C k 1 0 + a.y * kap C k 1 1 + a.z * kap C k 1 2) + a.z * (a.x * kap C k 2 0 + a.y * kap C k 2 1 + a.z * kap C k 2 2)) := by
 unfold nxt
 have : ∀ n, sr (fun j => kb (kq k) a j * (a.x * cR C 0 j + a.y * cR C 1 j + a.z * cR C 2 j)) n =
   a.x * (a.x * sr (fun t => qr (k 0 t) * qr (C (0 * 6 + t))) n + a.y * sr (fun t => qr (k 0 t) * qr (C (1 * 6 + t))) n + a.z * sr (fun t => qr (k 0 t) * qr (C (2 * 6 + t))) n) + a.y * (a.x * sr (fun t => qr (k 1 t) * qr (C (0 * 6 + t))) n + a.y * sr (fun t => qr (k 1 t) * qr (C (1 * 6 + t))) n + a.z * sr (fun t => qr (k 1 t) * qr (C (2 * 6 + t))) n) + a.z * (a.x * sr (fun t => qr (k 2 t) * qr (C (0 * 6 + t))) n + a.y * sr (fun t => qr (k 2 t) * qr (C (1 * 6 + t))) n + a.z * sr (fun t => qr (k 2 t) * qr (C (2 * 6 + t))) n) := fun n => by
  induction n with
  | zero => simp only [sr]; grind
  | succ n ih =>
   simp only [sr]
   rw [ih]
   unfold kb kq cR
   grind
 rw [this 6]
 rfl
theorem pair_le {x y e E : Rat} (h1 : e ≤ E) (h2 : -E ≤ e) : x * y * e ≤ E * ((x * x + y * y) / 2) ∧ -(E * ((x * x + y * y) / 2)) ≤ x * y * e := by
 have s := sq_nn (x - y); have t := sq_nn (x + y)
 have m1 := Rat.mul_nonneg (show 0 ≤ E - e by grind) s; have m2 := Rat.mul_nonneg (show 0 ≤ E + e by grind) t
 have m3 := Rat.mul_nonneg (show 0 ≤ E - e by grind) t; have m4 := Rat.mul_nonneg (show 0 ≤ E + e by grind) s
 constructor <;> grind
structure Out (g C y : Nat → Int) (k : Nat → Nat → Int) (g' : Nat → Int) (d0 d1 d2 f0 f1 f2 f3 : Int) (sg : Rat) : Prop where
 d : Nr3 (rv d0 d1 d2) ⟨led k y 0, led k y 1, led k y 2⟩ (3 / 1099511627776)
 db : Ab d0 1099511627776 ∧ Ab d1 1099511627776 ∧ Ab d2 1099511627776
 U : U4 f0 f1 f2 f3
 f : Nr3 (sc (16 + dt (rv d0 d1 d2) (rv d0 d1 d2)) (rv f0 f1 f2)) (sc 8 (rv d0 d1 d2)) (128 / 1099511627776)
 fs : Nr ((16 + dt (rv d0 d1 d2) (rv d0 d1 d2)) * qr f3) (16 - dt (rv d0 d1 d2) (rv d0 d1 d2)) (128 / 1099511627776)
 sgn : sg = 1 ∨ sg = -1
 qv : Nr3 (rv (g' 0) (g' 1) (g' 2)) (sc sg (hmv (rv f0 f1 f2) (qr f3) (rv (g 0) (g 1) (g 2)) (qr (g 3)))) (43 / 1099511627776)
 qs : Nr (qr (g' 3)) (sg * hms (rv f0 f1 f2) (qr f3) (rv (g 0) (g 1) (g 2)) (qr (g 3))) (43 / 1099511627776)
 q : U4 (g' 0) (g' 1) (g' 2) (g' 3)
 b4 : g' 4 = 0
 b5 : g' 5 = 0
 b6 : g' 6 = 0
 sym : g' 13 = g' 8 ∧ g' 19 = g' 9 ∧ g' 20 = g' 15
 cross : ∀ i j, i < 6 → j < 6 → ((i < 3 ∧ 3 ≤ j) ∨ (3 ≤ i ∧ j < 3) ∨ (3 ≤ i ∧ 3 ≤ j ∧ i ≠ j)) → g' (7 + (i * 6 + j)) = 0
 diag : ∀ i, 3 ≤ i → i < 6 → g' (7 + (i * 6 + i)) = 16777216
 form : ∀ a, Nr (fA g' a) (nxt g C (kq k) a) (12 / 1099511627776 * dt a a)
theorem guess_p (q : V4) (v : V3) (p : Nat → Int) (n : Nat) : guessF q v p (7 + n) = p n := by
 unfold guessF; rw [if_neg (by omega), Nat.add_sub_cancel_left]
theorem none_more : vAddS false (0, 0, 0) (0, 0, 0) = ((0, 0, 0), false) := by decide
theorem form_near {g C : Nat → Int} {k : Nat → Nat → Int} {g' : Nat → Int} (h : ∀ i j, i < 3 → j < 3 → Nr (qr (g' (7 + (i * 6 + j)))) ((qr (g (7 + (i * 6 + j))) - kap C k i j + (qr (g (7 + (j * 6 + i))) - kap C k j i)) / 2) (4 / 1099511627776)) (a : R3) : Nr (fA g' a) (nxt g C (kq k) a) (12 / 1099511627776 * dt a a) := by
 rw [nxt_kap]
 have pl : ∀ i j, i < 3 → j < 3 → ∀ x y : Rat, x * y * (qr (g' (7 + (i * 6 + j))) - (qr (g (7 + (i * 6 + j))) - kap C k i j + (qr (g (7 + (j * 6 + i))) - kap C k j i)) / 2) ≤ 4 / 1099511627776 * ((x * x + y * y) / 2) ∧ -(4 / 1099511627776 * ((x * x + y * y) / 2)) ≤ x * y * (qr (g' (7 + (i * 6 + j))) - (qr (g (7 + (i * 6 + j))) - kap C k i j + (qr (g (7 + (j * 6 + i))) - kap C k j i)) / 2) := fun i j hi hj x y => pair_le (h i j hi hj).hi (h i j hi hj).lo
 have p00 := pl 0 0 (by omega) (by omega) a.x a.x; have p01 := pl 0 1 (by omega) (by omega) a.x a.y; have p02 := pl 0 2 (by omega) (by omega) a.x a.z
 have p10 := pl 1 0 (by omega) (by omega) a.y a.x; have p11 := pl 1 1 (by omega) (by omega) a.y a.y; have p12 := pl 1 2 (by omega) (by omega) a.y a.z
 have p20 := pl 2 0 (by omega) (by omega) a.z a.x; have p21 := pl 2 1 (by omega) (by omega) a.z a.y; have p22 := pl 2 2 (by omega) (by omega) a.z a.z
 simp only [Nat.zero_mul, Nat.one_mul, Nat.zero_add, Nat.add_zero, Nat.reduceMul, Nat.reduceAdd] at p00 p01 p02 p10 p11 p12 p20 p21 p22
 unfold fA
 simp only [dt]
 constructor <;> grind
theorem met_is {g C S l y : Nat → Int} {k : Nat → Nat → Int} {up lo : Rat} (H : St g up lo) (M : Md g C S l y k) (hd : ∀ i, i < 3 → led k y i ≤ 1 / 2 ∧ -(1 / 2) ≤ led k y i) :
  ∃ g' d0 d1 d2 f0 f1 f2 f3 sg, hmetS false g l C y = (g', false) ∧ Out g C y k g' d0 d1 d2 f0 f1 f2 f3 sg := by
 obtain ⟨r5, r6, r8, r9, r10, e5, e6, e8, e9, e10, em⟩ := hmet_chain false g l C y
 obtain ⟨K, T, k5, hK, hT⟩ := M.five
 rw [k5] at e5
 subst e5
 obtain ⟨d, k6, nd, d3, d4, d5⟩ := M.six hK
 dsimp only at e6
 rw [k6] at e6
 subst e6
 have ab : ∀ i, i < 3 → Ab (d i) 1099511627776 := fun i hi => by
  have n := nd i (by omega)
  have h := hd i hi
  have := n.hi; have := n.lo
  exact ab_of (up := 1) (by decide +kernel) (by grind) (by grind)
 obtain ⟨f0, f1, f2, f3, ef, U, n0, n1, n2, n3⟩ := rod_near (ab 0 (by omega)) (ab 1 (by omega)) (ab 2 (by omega))
 obtain ⟨c, u0, u1, u2, u3, ec, eu, UU, sg, hs, qv, qs⟩ := turned_q U H.q
 have k8 : hturnedS false (g 0, g 1, g 2, g 3) d = ((u0, u1, u2, u3), false) := by
  unfold hturnedS hpartedP
  dsimp only
  rw [ef]
  dsimp only
  rw [ec]
  dsimp only
  rw [eu]
 dsimp only at e8
 rw [k8] at e8
 subst e8
 have k9 : hbiasedS false (g 4, g 5, g 6) d = ((0, 0, 0), false) := by
  unfold hbiasedS hpartedP
  dsimp only
  rw [H.b4, H.b5, H.b6, d3, d4, d5, none_more]
 dsimp only at e9
 rw [k9] at e9
 subst e9
 obtain ⟨p, k10, ps, pn, pz⟩ := M.ten hT
 dsimp only at e10
 rw [k10] at e10
 subst e10
 have P : ∀ n, guessF (u0, u1, u2, u3) (0, 0, 0) p (7 + n) = p n := guess_p _ _ _
 refine ⟨_, d 0, d 1, d 2, f0, f1, f2, f3, sg, em, ⟨⟨nd 0 (by omega), nd 1 (by omega), nd 2 (by omega)⟩, ⟨ab 0 (by omega), ab 1 (by omega), ab 2 (by omega)⟩, U, ⟨n0, n1, n2⟩, n3, hs, qv, qs, UU, rfl, rfl, rfl, ?_, fun i j hi hj h => ?_, fun i h3 hi => ?_, form_near fun i j hi hj => ?_⟩⟩
 ·exact ⟨ps 1 0 (by omega) (by omega), ps 2 0 (by omega) (by omega), ps 2 1 (by omega) (by omega)⟩
 ·dsimp only
  rw [P, pz i j hi hj (by omega) (by rw [H.cross i j hi hj h, H.cross j i hj hi (by omega)])]
  exact H.cross i j hi hj h
 ·dsimp only
  rw [P, pz i i hi hi (by omega) rfl]
  exact H.diag i h3 hi
 ·dsimp only
  rw [P]
  exact pn i j (by omega) (by omega)
end Go.Proofs.Ytooehgijllihdaa.Ff
namespace Go.Proofs.Ytooehgijllihdaa.Ff
open Go.RowKit
structure R4 where
 v : R3
 s : Rat
def m4 (a b : R4) : R4 := ⟨hmv a.v a.s b.v b.s, hms a.v a.s b.v b.s⟩
def a4 (a b : R4) : R4 := ⟨ad a.v b.v, a.s + b.s⟩
def s4 (a b : R4) : R4 := ⟨sb3 a.v b.v, a.s - b.s⟩
def c4 (c : Rat) (a : R4) : R4 := ⟨sc c a.v, c * a.s⟩
def n4 (a : R4) : Rat := dt a.v a.v + a.s * a.s
theorem n4_nn (a : R4) : 0 ≤ n4 a := by have := dt_nn a.v; have := sq_nn a.s; unfold n4; grind
theorem n4_m (a b : R4) : n4 (m4 a b) = n4 a * n4 b := hm_len a.v a.s b.v b.s
theorem n4_c (c : Rat) (a : R4) : n4 (c4 c a) = c * c * n4 a := by unfold n4 c4; rw [sc_sq]; grind
theorem r4_ext {a b : R4} (h1 : a.v.x = b.v.x) (h2 : a.v.y = b.v.y) (h3 : a.v.z = b.v.z) (h4 : a.s = b.s) : a = b := by
 obtain ⟨⟨a1, a2, a3⟩, a4⟩ := a; obtain ⟨⟨b1, b2, b3⟩, b4⟩ := b
 simp only at h1 h2 h3 h4
 subst h1 h2 h3 h4; rfl
theorem m4_assoc (a b c : R4) : m4 a (m4 b c) = m4 (m4 a b) c := by
 apply r4_ext <;> (unfold m4 hmv hms; simp only [ad, sc, cr, dt]; grind)
theorem m4_c (c : Rat) (a b : R4) : m4 a (c4 c b) = c4 c (m4 a b) := by
 apply r4_ext <;> (unfold m4 hmv hms c4; simp only [ad, sc, cr, dt]; grind)
theorem c_m4 (c : Rat) (a b : R4) : m4 (c4 c a) b = c4 c (m4 a b) := by
 apply r4_ext <;> (unfold m4 hmv hms c4; simp only [ad, sc, cr, dt]; grind)
theorem m4_s (a b c : R4) : m4 a (s4 b c) = s4 (m4 a b) (m4 a c) := by
 apply r4_ext <;> (unfold m4 hmv hms s4; simp only [ad, sc, cr, dt, sb3]; grind)
theorem s_m4 (a b c : R4) : m4 (s4 a b) c = s4 (m4 a c) (m4 b c) := by
 apply r4_ext <;> (unfold m4 hmv hms s4; simp only [ad, sc, cr, dt, sb3]; grind)
theorem c4_c (c d : Rat) (a : R4) : c4 c (c4 d a) = c4 (c * d) a := by
 apply r4_ext <;> (unfold c4; simp only [sc]; grind)
theorem c4_s (c : Rat) (a b : R4) : c4 c (s4 a b) = s4 (c4 c a) (c4 c b) := by
 apply r4_ext <;> (unfold c4 s4; simp only [sc, sb3]; grind)
theorem s4_thru (a b c : R4) : s4 a c = a4 (s4 a b) (s4 b c) := by
 apply r4_ext <;> (unfold a4 s4; simp only [ad, sb3]; grind)
structure Wn (a : R4) (t : Rat) : Prop where
 t0 : 0 ≤ t
 le : n4 a ≤ t * t
theorem Wn.up {a : R4} {t u : Rat} (h : Wn a t) (k : t ≤ u) : Wn a u := ⟨by have := h.t0; grind, by have := h.le; have := sq_le_sq h.t0 k; grind⟩
theorem dot4 (a b : R4) : (dt a.v b.v + a.s * b.s) * (dt a.v b.v + a.s * b.s) ≤ n4 a * n4 b := by
 have h := n4_m a ⟨⟨-b.v.x, -b.v.y, -b.v.z⟩, b.s⟩
 have e : (m4 a ⟨⟨-b.v.x, -b.v.y, -b.v.z⟩, b.s⟩).s = dt a.v b.v + a.s * b.s := by unfold m4 hms; simp only [dt]; grind
 have n : n4 (⟨⟨-b.v.x, -b.v.y, -b.v.z⟩, b.s⟩ : R4) = n4 b := by unfold n4; simp only [dt]; grind
 rw [n] at h
 have d := dt_nn (m4 a ⟨⟨-b.v.x, -b.v.y, -b.v.z⟩, b.s⟩).v
 unfold n4 at h
 rw [e] at h
 unfold n4
 grind
theorem Wn.add {a b : R4} {t u : Rat} (h : Wn a t) (k : Wn b u) : Wn (a4 a b) (t + u) := by
 have d := dot4 a b
 have m : n4 a * n4 b ≤ (t * u) * (t * u) := by
  have m1 := mul_le_l k.le (n4_nn a)
  have m2 := Rat.mul_le_mul_of_nonneg_right h.le (sq_nn u)
  grind
 have x := ab_of_sq (Rat.mul_nonneg h.t0 k.t0) (show (dt a.v b.v + a.s * b.s) * (dt a.v b.v + a.s * b.s) ≤ (t * u) * (t * u) by grind)
 have e : n4 (a4 a b) = n4 a + n4 b + 2 * (dt a.v b.v + a.s * b.s) := by unfold n4 a4; simp only [dt, ad]; grind
 refine ⟨by have := h.t0; have := k.t0; grind, ?_⟩
 rw [e]
 have := h.le; have := k.le; have := x.1
 grind
theorem Wn.mul {a b : R4} {t u : Rat} (h : Wn a t) (k : Wn b u) : Wn (m4 a b) (t * u) := by
 refine ⟨Rat.mul_nonneg h.t0 k.t0, ?_⟩
 rw [n4_m]
 have m1 := mul_le_l k.le (n4_nn a)
 have m2 := Rat.mul_le_mul_of_nonneg_right h.le (sq_nn u)
 grind
theorem Wn.scale {a : R4} {t c d : Rat} (h : Wn a t) (h1 : c ≤ d) (h2 : -d ≤ c) : Wn (c4 c a) (d * t) := by
 refine ⟨Rat.mul_nonneg (by grind) h.t0, ?_⟩
 rw [n4_c]
 have m1 := mul_le_l h.le (sq_nn c)
 have m2 := Rat.mul_le_mul_of_nonneg_right (abs_sq h1 h2) (sq_nn t)
 grind
theorem Wn.thru {a b c : R4} {t u : Rat} (h : Wn (s4 a b) t) (k : Wn (s4 b c) u) : Wn (s4 a c) (t + u) := by rw [s4_thru a b c]; exact h.add k
theorem Wn.swap {a b : R4} {t : Rat} (h : Wn (s4 a b) t) : Wn (s4 b a) t := by
 refine ⟨h.t0, ?_⟩
 have e : n4 (s4 b a) = n4 (s4 a b) := by unfold n4 s4; simp only [dt, sb3]; grind
 rw [e]; exact h.le
theorem Wn.of {a b : R4} {e : Rat} (e0 : 0 ≤ e) (h : Nr3 a.v b.v e) (k : Nr a.s b.s e) : Wn (s4 a b) (2 * e) := by
 refine ⟨by grind, ?_⟩
 have q0 := abs_sq h.a.hi h.a.lo; have q1 := abs_sq h.b.hi h.b.lo; have q2 := abs_sq h.c.hi h.c.lo; have q3 := abs_sq k.hi k.lo
 unfold n4 s4; simp only [dt, sb3]
 grind
def fx (x : R3) : R4 := ⟨sc 8 x, 16 - dt x x⟩
theorem n4_fx (x : R3) : n4 (fx x) = (16 + dt x x) * (16 + dt x x) := by unfold n4 fx; simp only [dt, sc]; grind
theorem Wn.fx (x : R3) : Wn (fx x) (16 + dt x x) := ⟨by have := dt_nn x; grind, by rw [n4_fx]; exact Rat.le_refl⟩
theorem fx_back (d : R3) (b : R4) : m4 (Ff.fx (ng d)) (m4 (Ff.fx d) b) = c4 ((16 + dt d d) * (16 + dt d d)) b := by
 apply r4_ext <;> (unfold m4 hmv hms c4 Ff.fx ng; simp only [ad, sc, cr, dt]; grind)
theorem fx_two {x d x' : R3} (hd : 0 < den x d) (hx : sc (den x d) x' = sc 16 (cmp x d)) : c4 (den x d) (Ff.fx x') = c4 16 (m4 (Ff.fx x) (Ff.fx (ng d))) := by
 have ev : (m4 (Ff.fx x) (Ff.fx (ng d))).v = sc 8 (cmp x d) := by
  unfold m4 hmv Ff.fx ng cmp; simp only [ad, sc, cr, dt, sb3]; congr 1 <;> grind
 have es : (m4 (Ff.fx x) (Ff.fx (ng d))).s = (16 - dt x x) * (16 - dt d d) + 64 * dt x d := by
  unfold m4 hms Ff.fx; rw [dt_ng]; simp only [ng, sc, dt]; grind
 have h := n4_m (Ff.fx x) (Ff.fx (ng d))
 rw [n4_fx, n4_fx, dt_ng] at h
 unfold n4 at h
 rw [ev, es, sc_sq] at h
 have hq : den x d * den x d * dt x' x' = 256 * dt (cmp x d) (cmp x d) := by
  have := congrArg (fun w => dt w w) hx
  simp only [sc_sq] at this
  grind
 have dd : den x d = 256 + dt x x * dt d d + 32 * dt x d := rfl
 have key : den x d * dt x' x' = 8 * ((16 + dt x x) * (16 + dt d d) - ((16 - dt x x) * (16 - dt d d) + 64 * dt x d)) := by
  have : den x d * (den x d * dt x' x') = den x d * (8 * ((16 + dt x x) * (16 + dt d d) - ((16 - dt x x) * (16 - dt d d) + 64 * dt x d))) := by
   generalize dt (cmp x d) (cmp x d) = c at *
   generalize dt x' x' = e at *
   generalize dt x x = X at *
   generalize dt d d = D at *
   generalize dt x d = p at *
   grind
  have nz : den x d ≠ 0 := by grind
  grind
 have h1 := congrArg R3.x hx; have h2 := congrArg R3.y hx; have h3 := congrArg R3.z hx
 simp only [sc] at h1 h2 h3
 apply r4_ext
 ·show den x d * (8 * x'.x) = 16 * (m4 (Ff.fx x) (Ff.fx (ng d))).v.x; rw [ev]; simp only [sc]; grind
 ·show den x d * (8 * x'.y) = 16 * (m4 (Ff.fx x) (Ff.fx (ng d))).v.y; rw [ev]; simp only [sc]; grind
 ·show den x d * (8 * x'.z) = 16 * (m4 (Ff.fx x) (Ff.fx (ng d))).v.z; rw [ev]; simp only [sc]; grind
 ·show den x d * (16 - dt x' x') = 16 * (m4 (Ff.fx x) (Ff.fx (ng d))).s; rw [es]; grind
end Go.Proofs.Ytooehgijllihdaa.Ff
namespace Go.Proofs.Ytooehgijllihdaa.Ff
open Go.RowKit
def q4 (a b c s : Int) : R4 := ⟨rv a b c, qr s⟩
theorem Wn.unscale {a : R4} {c t : Rat} (hc : 0 < c) (t0 : 0 ≤ t) (h : Wn (c4 c a) (c * t)) : Wn a t := by
 refine ⟨t0, ?_⟩
 have l := h.le
 rw [n4_c] at l
 have p : 0 < c * c := Rat.mul_pos hc hc
 have l2 : (c * c) * n4 a ≤ (c * c) * (t * t) := by grind
 exact Rat.le_of_mul_le_mul_left l2 p
theorem sgn_ab {sg : Rat} (h : sg = 1 ∨ sg = -1) : sg ≤ 1 ∧ -1 ≤ sg ∧ sg * sg = 1 := by rcases h with rfl | rfl <;> (refine ⟨?_, ?_, ?_⟩ <;> grind)
theorem back_q {d : R3} {f b q : R4} {sg : Rat} (hd : dt d d ≤ 1) (hf : Wn (s4 (c4 (16 + dt d d) f) (fx d)) (256 / 1099511627776)) (hq : Wn (s4 q (c4 sg (m4 f b))) (86 / 1099511627776)) (hb : Wn b (1 + 7 / 1099511627776)) (hs : sg = 1 ∨ sg = -1) :
  Wn (s4 (m4 (fx (ng d)) q) (c4 (sg * (16 + dt d d)) b)) (1800 / 1099511627776) := by
 have d0 := dt_nn d
 have G := Wn.fx (ng d)
 rw [dt_ng] at G
 have A := G.mul hq
 rw [m4_s, m4_c] at A
 have B0 := G.mul (hf.mul hb)
 have e : m4 (fx (ng d)) (m4 (s4 (c4 (16 + dt d d) f) (fx d)) b) = c4 (16 + dt d d) (s4 (m4 (fx (ng d)) (m4 f b)) (c4 (16 + dt d d) b)) := by
  rw [s_m4, m4_s, fx_back, c4_s, c4_c, c_m4, m4_c]
 rw [e] at B0
 have B : Wn (s4 (m4 (fx (ng d)) (m4 f b)) (c4 (16 + dt d d) b)) (256 / 1099511627776 * (1 + 7 / 1099511627776)) := Wn.unscale (by grind) (by decide +kernel) B0
 have s := sgn_ab hs
 have C := B.scale s.1 s.2.1
 rw [c4_s, c4_c] at C
 refine (A.thru C).up ?_
 grind
def Er (u q : R4) (x : R3) (e : Rat) : Prop := ∃ sg : Rat, (sg = 1 ∨ sg = -1) ∧ Wn (s4 (c4 (16 + dt x x) u) (c4 sg (m4 (fx x) q))) e
theorem c4_one (a : R4) : c4 1 a = a := by apply r4_ext <;> (unfold c4; simp only [sc]; grind)
theorem er_start {d : R3} {f u q : R4} {sg : Rat} (hd : dt d d ≤ 1) (hf : Wn (s4 (c4 (16 + dt d d) f) (fx d)) (256 / 1099511627776)) (hq : Wn (s4 q (c4 sg (m4 f u))) (86 / 1099511627776)) (hb : Wn u (1 + 7 / 1099511627776)) (hs : sg = 1 ∨ sg = -1) : Er u q (ng d) (1800 / 1099511627776) := by
 have B := back_q hd hf hq hb hs
 have s := sgn_ab hs
 have C0 := B.scale s.1 s.2.1
 rw [c4_s, c4_c] at C0
 have C := C0.swap
 refine ⟨sg, hs, ?_⟩
 rw [dt_ng]
 have e : sg * (sg * (16 + dt d d)) = 16 + dt d d := by have := s.2.2; grind
 rw [e] at C
 exact C.up (by grind)
theorem er_next {x d x' : R3} {f u q q' : R4} {sg e e' : Rat} (E : Er u q x e) (hd : dt d d ≤ 1) (hf : Wn (s4 (c4 (16 + dt d d) f) (fx d)) (256 / 1099511627776)) (hq : Wn (s4 q' (c4 sg (m4 f q))) (86 / 1099511627776)) (hb : Wn q (1 + 7 / 1099511627776)) (hs : sg = 1 ∨ sg = -1)
  (D0 : 0 < den x d) (hx : sc (den x d) x' = sc 16 (cmp x d)) (e0 : 0 ≤ e') (he : 16 * ((16 + dt x x) * (1800 / 1099511627776)) + 16 * ((16 + dt d d) * e) ≤ den x d * e') : Er u q' x' e' := by
 obtain ⟨s0, h0, E⟩ := E
 have d0 := dt_nn d; have x0 := dt_nn x
 have s := sgn_ab hs; have t := sgn_ab h0
 have B := back_q hd hf hq hb hs
 have two := fx_two D0 hx
 -- what is turned twice
 have A := ((Wn.fx x).mul B).scale (c := s0 * sg * 16) (d := 16) (by rcases hs with rfl | rfl <;> rcases h0 with rfl | rfl <;> grind) (by rcases hs with rfl | rfl <;> rcases h0 with rfl | rfl <;> grind)
 have a1 : c4 (s0 * sg * 16) (m4 (fx x) (s4 (m4 (fx (ng d)) q') (c4 (sg * (16 + dt d d)) q))) = s4 (c4 (den x d) (c4 (s0 * sg) (m4 (fx x') q'))) (c4 (16 * (16 + dt d d)) (c4 s0 (m4 (fx x) q))) := by
  rw [m4_s, m4_c, m4_assoc, c4_s, c4_c]
  have l : c4 (s0 * sg * 16) (m4 (m4 (fx x) (fx (ng d))) q') = c4 (den x d) (c4 (s0 * sg) (m4 (fx x') q')) := by
   have m := congrArg (fun w => c4 (s0 * sg) (m4 w q')) two
   rw [c_m4, c_m4, c4_c, c4_c] at m
   rw [← m, c4_c, show den x d * (s0 * sg) = (s0 * sg) * den x d by grind]
  have r : c4 (s0 * sg * 16 * (sg * (16 + dt d d))) (m4 (fx x) q) = c4 (16 * (16 + dt d d)) (c4 s0 (m4 (fx x) q)) := by
   rw [c4_c]
   have : s0 * sg * 16 * (sg * (16 + dt d d)) = 16 * (16 + dt d d) * s0 := by have := s.2.2; grind
   rw [this]
  rw [l, r]
 rw [a1] at A
 have C := (E.swap.scale (c := 16 * (16 + dt d d)) (d := 16 * (16 + dt d d)) Rat.le_refl (by grind))
 rw [c4_s, c4_c (16 * (16 + dt d d)) (16 + dt x x)] at C
 have len : den x d * (16 + dt x' x') = 16 * (16 + dt d d) * (16 + dt x x) := by
  have n := congrArg n4 two
  rw [n4_c, n4_c, n4_fx, n4_m, n4_fx, n4_fx, dt_ng] at n
  have p1 : 0 ≤ den x d * (16 + dt x' x') := Rat.mul_nonneg (by grind) (by have := dt_nn x'; grind)
  have p2 : 0 ≤ 16 * (16 + dt d d) * (16 + dt x x) := Rat.mul_nonneg (by grind) (by grind)
  have q1 := ab_of_sq p2 (show (den x d * (16 + dt x' x')) * (den x d * (16 + dt x' x')) ≤ (16 * (16 + dt d d) * (16 + dt x x)) * (16 * (16 + dt d d) * (16 + dt x x)) by grind)
  have q2 := ab_of_sq p1 (show (16 * (16 + dt d d) * (16 + dt x x)) * (16 * (16 + dt d d) * (16 + dt x x)) ≤ (den x d * (16 + dt x' x')) * (den x d * (16 + dt x' x')) by grind)
  grind
 rw [← len, ← c4_c (den x d)] at C
 have F := (A.thru C)
 rw [← c4_s] at F
 refine ⟨s0 * sg, by rcases hs with rfl | rfl <;> rcases h0 with rfl | rfl <;> grind, (Wn.unscale D0 e0 (F.up ?_)).swap⟩
 grind
end Go.Proofs.Ytooehgijllihdaa.Ff
namespace Go.Proofs.Ytooehgijllihdaa.Ff
open Go.RowKit
def pure4 (v : R3) : R4 := ⟨v, 0⟩
def cj4 (a : R4) : R4 := ⟨ng a.v, a.s⟩
def tn4 (q : R4) (v : R4) : R4 := m4 q (m4 v (cj4 q))
def hom (q : R4) (v : R3) : R3 := ad (ad (sc (q.s * q.s - dt q.v q.v) v) (sc (2 * dt q.v v) q.v)) (sc (-(2 * q.s)) (cr q.v v))
theorem hom_tn (q : R4) (v : R3) : tn4 q (pure4 v) = pure4 (hom q v) := by
 apply r4_ext <;> (unfold tn4 pure4 hom cj4 m4 hmv hms ng; simp only [ad, sc, cr, dt]; grind)
theorem cj_m (a b : R4) : cj4 (m4 a b) = m4 (cj4 b) (cj4 a) := by
 apply r4_ext <;> (unfold cj4 m4 hmv hms ng; simp only [ad, sc, cr, dt]; grind)
theorem tn_m (a b v : R4) : tn4 (m4 a b) v = tn4 a (tn4 b v) := by
 unfold tn4; rw [cj_m]; simp only [m4_assoc]
theorem cj_s (a b : R4) : cj4 (s4 a b) = s4 (cj4 a) (cj4 b) := by
 apply r4_ext <;> (unfold cj4 s4 ng; simp only [sb3]; try grind)
theorem cj_c (c : Rat) (a : R4) : cj4 (c4 c a) = c4 c (cj4 a) := by
 apply r4_ext <;> (unfold cj4 c4 ng; simp only [sc]; try grind)
theorem Wn.cj {a : R4} {t : Rat} (h : Wn a t) : Wn (cj4 a) t := ⟨h.t0, by
 have e : n4 (cj4 a) = n4 a := by unfold n4 cj4; rw [dt_ng]
 rw [e]; exact h.le⟩
theorem tn_c (c : Rat) (a v : R4) : tn4 (c4 c a) v = c4 (c * c) (tn4 a v) := by
 unfold tn4; rw [cj_c, m4_c, c_m4, m4_c, c4_c]
theorem tn_near {a b v : R4} {t al be n : Rat} (h : Wn (s4 a b) t) (ha : Wn a al) (hb : Wn b be) (hv : Wn v n) : Wn (s4 (tn4 a v) (tn4 b v)) (t * (n * al) + be * (n * t)) := by
 have e1 : s4 (tn4 a v) (m4 b (m4 v (cj4 a))) = m4 (s4 a b) (m4 v (cj4 a)) := by rw [s_m4]; rfl
 have e2 : s4 (m4 b (m4 v (cj4 a))) (tn4 b v) = m4 b (m4 v (cj4 (s4 a b))) := by rw [cj_s, m4_s, m4_s]; rfl
 have A := h.mul (hv.mul ha.cj)
 have B := hb.mul (hv.mul h.cj)
 rw [← e1] at A
 rw [← e2] at B
 exact A.thru B
theorem hom_fx (x v : R3) : hom (fx x) v = sc ((16 + dt x x) * (16 + dt x x)) (hxv x v) := by
 have D0 := dt_nn x
 have gn : (16 + dt x x) * (16 + dt x x) ≠ 0 := by have := gg_ge D0; grind
 have i1 : ((16 + dt x x) * (16 + dt x x)) * ((16 + dt x x) * (16 + dt x x))⁻¹ = 1 := by grind
 have e : sc ((16 + dt x x) * (16 + dt x x)) (hxv x v) = sb3 (ad (sc ((16 + dt x x) * (16 + dt x x)) v) (sc 128 (cr x (cr x v)))) (sc (16 * (16 - dt x x)) (cr x v)) := by
  unfold hxv
  generalize (16 + dt x x) * (16 + dt x x) = G at *
  generalize cr x (cr x v) = A
  generalize cr x v = B
  simp only [sc, sb3, ad]
  congr 1 <;> grind
 rw [e]
 unfold hom fx
 simp only [ad, sc, cr, dt, sb3]
 congr 1 <;> grind
theorem trn_hom (a : R3) (s : Rat) (v : R3) : trn a s v = ad (hom ⟨a, s⟩ v) (sc (1 - (dt a a + s * s)) v) := by
 unfold trn hom; simp only [ad, sc, cr, dt, sb3]; congr 1 <;> grind
theorem hxv_sub (x v w : R3) : sb3 (hxv x v) (hxv x w) = hxv x (sb3 v w) := by
 unfold hxv
 generalize 128 / ((16 + dt x x) * (16 + dt x x)) = t
 generalize 16 * (16 - dt x x) / ((16 + dt x x) * (16 + dt x x)) = s
 simp only [ad, sc, cr, sb3]; congr 1 <;> grind
structure W3 (a b : R3) (t : Rat) : Prop where
 t0 : 0 ≤ t
 le : dt (sb3 a b) (sb3 a b) ≤ t * t
theorem W3.of4 {a b : R3} {t : Rat} (h : Wn (s4 (pure4 a) (pure4 b)) t) : W3 a b t := ⟨h.t0, by have l := h.le; unfold n4 s4 pure4 at l; simp only at l; grind⟩
theorem W3.to4 {a b : R3} {t : Rat} (h : W3 a b t) : Wn (s4 (pure4 a) (pure4 b)) t := ⟨h.t0, by have l := h.le; unfold n4 s4 pure4; simp only; grind⟩
theorem W3.thru {a b c : R3} {t u : Rat} (h : W3 a b t) (k : W3 b c u) : W3 a c (t + u) := W3.of4 (h.to4.thru k.to4)
theorem W3.up {a b : R3} {t u : Rat} (h : W3 a b t) (k : t ≤ u) : W3 a b u := W3.of4 (h.to4.up k)
theorem W3.swap {a b : R3} {t : Rat} (h : W3 a b t) : W3 b a t := W3.of4 h.to4.swap
theorem W3.nr {a b : R3} {e : Rat} (h : Nr3 a b e) : W3 a b (2 * e) := ⟨by have := h.a.nn; grind, by have := h.sq; have := sq_nn e; grind⟩
theorem W3.hx {v w : R3} {t : Rat} (h : W3 v w t) (x : R3) : W3 (hxv x v) (hxv x w) t := ⟨h.t0, by rw [hxv_sub, hxv_len]; exact h.le⟩
theorem trn_near_hom {a : R3} {s : Rat} {v : R3} (hn : Nr (dt a a + s * s) 1 (13 / 1099511627776)) (hv : dt v v ≤ 1) : W3 (trn a s v) (hom ⟨a, s⟩ v) (13 / 1099511627776) := by
 refine ⟨by decide +kernel, ?_⟩
 rw [trn_hom]
 have e : sb3 (ad (hom ⟨a, s⟩ v) (sc (1 - (dt a a + s * s)) v)) (hom ⟨a, s⟩ v) = sc (1 - (dt a a + s * s)) v := by
  generalize hom ⟨a, s⟩ v = w
  simp only [sb3, ad, sc]; congr 1 <;> grind
 rw [e, sc_sq]
 have q := abs_sq (x := 1 - (dt a a + s * s)) (t := 13 / 1099511627776) (by have := hn.lo; grind) (by have := hn.hi; grind)
 have m1 := mul_le_l hv (sq_nn (1 - (dt a a + s * s)))
 grind
theorem body_near {u q : R4} {x v : R3} {e : Rat} (E : Er u q x e) (hu : Nr (n4 u) 1 (13 / 1099511627776)) (hq : Nr (n4 q) 1 (13 / 1099511627776)) (hv : dt v v ≤ 1) : W3 (trn u.v u.s v) (hxv x (trn q.v q.s v)) (3 / 23 * e + 26 / 1099511627776) := by
 obtain ⟨sg, hs, E⟩ := E
 have D0 := dt_nn x
 have wn : ∀ a : R4, Nr (n4 a) 1 (13 / 1099511627776) → Wn a (1 + 7 / 1099511627776) := fun a h => ⟨by decide +kernel, by have := h.hi; grind⟩
 have s := sgn_ab hs
 have wu := (wn u hu).scale (c := 16 + dt x x) (d := 16 + dt x x) Rat.le_refl (by grind)
 have wq := ((Wn.fx x).mul (wn q hq)).scale s.1 s.2.1
 have T := tn_near (v := pure4 v) (n := 1) E wu wq ⟨by decide +kernel, by unfold n4 pure4; simp only; grind⟩
 rw [tn_c, tn_c, s.2.2, c4_one, tn_m, hom_tn, hom_tn, hom_tn, hom_fx] at T
 have e1 : pure4 (sc ((16 + dt x x) * (16 + dt x x)) (hxv x (hom q v))) = c4 ((16 + dt x x) * (16 + dt x x)) (pure4 (hxv x (hom q v))) := by
  unfold pure4 c4; simp only; congr 1; grind
 rw [e1, ← c4_s] at T
 have e0 := E.t0
 have F : Wn (s4 (pure4 (hom u v)) (pure4 (hxv x (hom q v)))) (3 / 23 * e) := by
  refine Wn.unscale (c := (16 + dt x x) * (16 + dt x x)) (by have := gg_ge D0; grind) (by grind) (T.up ?_)
  have k1 : (16 : Rat) * ((1 + 7 / 1099511627776) * 2) ≤ 3 / 23 * (16 * 16) := by decide +kernel
  have k2 := Rat.mul_nonneg (show (0 : Rat) ≤ 16 + dt x x by grind) e0
  have k3 := Rat.mul_nonneg D0 k2
  grind
 have A := trn_near_hom (a := u.v) (s := u.s) (v := v) hu hv
 have B := (trn_near_hom (a := q.v) (s := q.s) (v := v) hq hv).swap.hx x
 exact ((A.thru (W3.of4 F)).thru B).up (by grind)
end Go.Proofs.Ytooehgijllihdaa.Ff
namespace Go.Proofs.Ytooehgijllihdaa.Ff
open Go.RowKit
def mnv1 (P Q S : Vw) : R3 := sc (1 / 7) (ad (ad P.e1 Q.e1) S.e1)
def mnv2 (P Q S : Vw) : R3 := sc (1 / 7) (ad (ad P.e2 Q.e2) S.e2)
theorem mnG_v (P Q S : Vw) (b1 b2 : R3) : mnG P Q S b1 b2 = dt b1 (mnv1 P Q S) + dt b2 (mnv2 P Q S) := by
 unfold mnG Vw.g mnv1 mnv2; simp only [dt, sc, ad]; grind
def o3 : R3 := ⟨0, 0, 0⟩
theorem zero_mean {g x vw z d S C : Nat → Int} {v1 v2 : R3} (V : Vws x vw v1 v2) (M : Mns g x vw z d S C) :
  Nr3 (ad (mnv1 (vwOf (X9 x d) 1) (vwOf (X9 x d) 2) (vwOf (X9 x d) 3)) (rv (d 0) (d 1) (d 2))) o3 (1 / 1099511627776) ∧ Nr3 (ad (mnv2 (vwOf (X9 x d) 1) (vwOf (X9 x d) 2) (vwOf (X9 x d) 3)) (rv (d 3) (d 4) (d 5))) o3 (1 / 1099511627776) := by
 have one : ∀ j, j < 6 → Nr ((((qr (d (1 * 6 + j)) + qr (d (7 * 6 + j))) / 2 - qr (d (0 * 6 + j))) + ((qr (d (2 * 6 + j)) + qr (d (8 * 6 + j))) / 2 - qr (d (0 * 6 + j))) + ((qr (d (3 * 6 + j)) + qr (d (9 * 6 + j))) / 2 - qr (d (0 * 6 + j)))) / 7 + qr (d (0 * 6 + j))) 0 (1 / 1099511627776) := fun j hj => by
  have n := M.zn j hj
  have dd : ∀ k, k < 13 → qr (d (k * 6 + j)) = qr (vw (k * 6 + j)) - qr (z j) := fun k hk => by rw [M.dv k hk j hj, qr_sub]
  have sm := fun k hk => V.same k hk j hj
  have h := n.hi; have l := n.lo
  unfold sum13 at h l
  simp only [sr, Nat.zero_add, Nat.reduceAdd] at h l
  rw [dd 0 (by omega), dd 1 (by omega), dd 2 (by omega), dd 3 (by omega), dd 7 (by omega), dd 8 (by omega), dd 9 (by omega)]
  rw [sm 4 (by unfold still; omega), sm 5 (by unfold still; omega), sm 6 (by unfold still; omega), sm 10 (by unfold still; omega), sm 11 (by unfold still; omega), sm 12 (by unfold still; omega), show 0 * 6 + j = j by omega] at h l
  rw [show 0 * 6 + j = j by omega]
  constructor <;> grind
 have h0 := one 0 (by omega); have h1 := one 1 (by omega); have h2 := one 2 (by omega); have h3 := one 3 (by omega); have h4 := one 4 (by omega); have h5 := one 5 (by omega)
 simp only [Nat.zero_mul, Nat.one_mul, Nat.zero_add, Nat.add_zero, Nat.reduceMul, Nat.reduceAdd] at h0 h1 h2 h3 h4 h5
 refine ⟨⟨?_, ?_, ?_⟩, ⟨?_, ?_, ?_⟩⟩
 all_goals
  simp only [mnv1, mnv2, vwOf, X9, rv, o3, ad, sc, Nat.reduceLT, Nat.reduceSub, Nat.reduceMul, Nat.reduceAdd, if_false, Nat.zero_mul, Nat.one_mul, Nat.zero_add, Nat.add_zero]
 ·exact ⟨by have := h0.hi; grind, by have := h0.lo; grind⟩
 ·exact ⟨by have := h1.hi; grind, by have := h1.lo; grind⟩
 ·exact ⟨by have := h2.hi; grind, by have := h2.lo; grind⟩
 ·exact ⟨by have := h3.hi; grind, by have := h3.lo; grind⟩
 ·exact ⟨by have := h4.hi; grind, by have := h4.lo; grind⟩
 ·exact ⟨by have := h5.hi; grind, by have := h5.lo; grind⟩
def phv (x v : R3) (s : Rat) : R3 := ad (sb3 (hxv x v) v) (sc s (cr x v))
theorem phi_le {x v : R3} {s X sg B : Rat} (hx : dt x x ≤ X) (hv : dt v v ≤ B) (hs : (sfac (dt x x) - s) * (sfac (dt x x) - s) ≤ sg) : dt (phv x v s) (phv x v s) ≤ (X * X / 4 + sg * X) * B := by
 have D0 := dt_nn x; have v0 := dt_nn v
 have t := tfac_rng D0
 have e : phv x v s = ad (sc (tfac (dt x x)) (cr x (cr x v))) (sc (s - sfac (dt x x)) (cr x v)) := by
  unfold phv
  rw [hxv_x]
  generalize tfac (dt x x) = T
  generalize sfac (dt x x) = F
  generalize cr x (cr x v) = A
  generalize cr x v = A'
  simp only [ad, sb3, sc]; congr 1 <;> grind
 have o : dt (cr x (cr x v)) (cr x v) = 0 := by generalize cr x v = w; simp only [dt, cr]; grind
 have len : dt (phv x v s) (phv x v s) = tfac (dt x x) * tfac (dt x x) * dt (cr x (cr x v)) (cr x (cr x v)) + (sfac (dt x x) - s) * (sfac (dt x x) - s) * dt (cr x v) (cr x v) := by
  rw [e]
  generalize tfac (dt x x) = T
  generalize sfac (dt x x) = F
  generalize cr x (cr x v) = A at *
  generalize cr x v = A' at *
  simp only [dt, ad, sc] at *
  grind
 rw [len]
 have c1 := cr_le x v; have c2 := cr_le x (cr x v)
 have n1 := dt_nn (cr x v); have n2 := dt_nn (cr x (cr x v))
 have q : tfac (dt x x) * tfac (dt x x) ≤ 1 / 4 := by have := sq_le_sq t.1 t.2; grind
 have m1 := Rat.mul_le_mul_of_nonneg_right q n2
 have m2 := Rat.mul_le_mul_of_nonneg_right hs n1
 have g0 : 0 ≤ sg := by have := sq_nn (sfac (dt x x) - s); grind
 have X0 : 0 ≤ X := by grind
 have k1 : dt (cr x v) (cr x v) ≤ X * B := by
  have := Rat.mul_le_mul_of_nonneg_right hx v0; have := mul_le_l hv X0; grind
 have k2 : dt (cr x (cr x v)) (cr x (cr x v)) ≤ X * (X * B) := by
  have := Rat.mul_le_mul_of_nonneg_right hx n1; have := mul_le_l k1 X0; grind
 have k3 := mul_le_l k1 g0
 grind
theorem split_v (a b : R3) (e f : Rat) (he : 0 < e) (hf : e * f = 1) : dt (ad a b) (ad a b) ≤ (1 + e) * dt a a + (1 + f) * dt b b := by
 have h1 := split a.x b.x e f he hf; have h2 := split a.y b.y e f he hf; have h3 := split a.z b.z e f he hf
 simp only [dt, ad]; grind
theorem left_first {bu x v mn d0 y : R3} {s t1 : Rat} (hb : W3 bu (hxv x v) t1) (hm : Nr3 (ad mn d0) o3 (1 / 1099511627776)) (hy : y = ad (sb3 bu v) d0) {B ph : Rat} (hB : dt (phv x v s) (phv x v s) ≤ B) (hp : 1001 / 1000 * B + 1001 * ((t1 + 2 / 1099511627776) * (t1 + 2 / 1099511627776)) ≤ ph) :
  dt (ad (ad y (sc s (cr x v))) mn) (ad (ad y (sc s (cr x v))) mn) ≤ ph := by
 have r : W3 (ad bu (ad mn d0)) bu (2 * (1 / 1099511627776)) := by
  have w := W3.nr hm
  refine ⟨w.t0, ?_⟩
  have e : sb3 (ad bu (ad mn d0)) bu = sb3 (ad mn d0) o3 := by unfold o3; simp only [sb3, ad]; congr 1 <;> grind
  rw [e]; exact w.le
 have w := r.thru hb
 have e : ad (ad y (sc s (cr x v))) mn = ad (phv x v s) (sb3 (ad bu (ad mn d0)) (hxv x v)) := by
  rw [hy]; unfold phv; generalize hxv x v = h; generalize cr x v = c; simp only [ad, sb3, sc]; congr 1 <;> grind
 rw [e]
 have k := split_v (phv x v s) (sb3 (ad bu (ad mn d0)) (hxv x v)) (1 / 1000) 1000 (by decide +kernel) (by decide +kernel)
 have l := w.le
 have e2 : 2 * (1 / 1099511627776) + t1 = t1 + 2 / 1099511627776 := by grind
 rw [e2] at l
 grind
end Go.Proofs.Ytooehgijllihdaa.Ff
namespace Go.Proofs.Ytooehgijllihdaa.Ff
open Go.RowKit
theorem len_near {N S : Rat} (N0 : 0 ≤ N) (h1 : N * N ≤ S) (h2 : S ≤ N * N + 2 / 1099511627776 * N + 1 / 1208925819614629174706176) (hS : Nr S 1 (200 / 1099511627776)) : Nr N 1 (110 / 1099511627776) := by
 have a := hS.hi; have b := hS.lo
 refine ⟨?_, ?_⟩
 ·have : N ≤ 1 + 110 / 1099511627776 ∧ -(1 + 110 / 1099511627776) ≤ N := ab_of_sq (by decide +kernel) (by grind)
  grind
 ·by_cases c : -(110 / 1099511627776) ≤ N - 1
  ·exact c
  ·have l : N ≤ 1 - 110 / 1099511627776 := by grind
   have q := abs_sq l (by grind)
   have k : ((1 : Rat) - 110 / 1099511627776) * (1 - 110 / 1099511627776) + 2 / 1099511627776 + 1 / 1208925819614629174706176 < 1 - 200 / 1099511627776 := by decide +kernel
   grind
theorem unit_q110 {u g n : Int} (h : Uof u g n) (hn : Nr (qr n) 1 (110 / 1099511627776)) : Nr (qr u) (qr g) (112 / 1099511627776) := by
 have d := div_qn (uof_ab h)
 have ub := qr_ab (⟨h.lo, h.hi⟩ : Ab u 1099511627776)
 rw [one_q] at ub
 have s := hn.scale ub.1 ub.2
 have dh := d.hi; have dl := d.lo; have sh := s.hi; have sl := s.lo; have nh := hn.hi
 constructor <;> grind
theorem vunit_near {b0 b1 b2 : Int} (hb : Nr (dt (rv b0 b1 b2) (rv b0 b1 b2)) 1 (200 / 1099511627776)) : ∃ u0 u1 u2, vUnitS false (b0, b1, b2) = ((u0, u1, u2), false) ∧ Nr3 (rv u0 u1 u2) (rv b0 b1 b2) (112 / 1099511627776) := by
 have p := comp_le (w := rv b0 b1 b2) (B := 2) (by decide +kernel) (by have := hb.hi; grind)
 have ab : ∀ x : Int, qr x ≤ 2 ∧ -2 ≤ qr x → Ab x 2199023255552 := fun x h => ab_of (up := 2) (by decide +kernel) h.1 h.2
 have a0 := ab b0 p.1; have a1 := ab b1 p.2.1; have a2 := ab b2 p.2.2
 have cast : ((b0 * b0 + b1 * b1 + b2 * b2 : Int) : Rat) = 1208925819614629174706176 * dt (rv b0 b1 b2) (rv b0 b1 b2) := by unfold rv qr; simp only [dt]; push_cast; grind
 obtain ⟨N, eN, N0, N1, N2⟩ := norm_near (a0.le (show (2199023255552 : Int) ≤ 70368744177664 by decide)) (a1.le (by decide)) (a2.le (by decide)) (by decide)
 have nq : Nr (qr N) 1 (110 / 1099511627776) := by
  have r1 := Rat.intCast_le_intCast.2 N1
  have r2 := Rat.intCast_le_intCast.2 (Int.le_of_lt N2)
  have r3 : ((0 : Int) : Rat) ≤ ((N : Int) : Rat) := Rat.intCast_le_intCast.2 N0
  rw [cast] at r1 r2
  push_cast at r1 r2 r3
  have en : (N : Rat) = 1099511627776 * qr N := by unfold qr; grind
  rw [en] at r1 r2 r3
  exact len_near (by grind) (by grind) (by grind) hb
 have nb : 1048576 ≤ N := by
  apply Rat.intCast_le_intCast.1
  have en : (N : Rat) = 1099511627776 * qr N := by unfold qr; grind
  rw [en]
  have := nq.lo
  push_cast
  grind
 rcases vUnit_cases false (b0, b1, b2) with ⟨c, _⟩ | ⟨n, u0, u1, u2, _, e1, _, _, _, _, _, e, U0, U1, U2⟩
 ·rw [eN] at c
  dsimp only at c
  omega
 ·rw [eN] at e1
  obtain rfl : N = n := congrArg Prod.fst e1
  exact ⟨u0, u1, u2, e, unit_q110 U0 nq, unit_q110 U1 nq, unit_q110 U2 nq⟩
theorem sky_units : vUnitS false (1099511627776, 0, 0) = ((1099511627776, 0, 0), false) ∧ vUnitS false (0, 1099511627776, 0) = ((0, 1099511627776, 0), false) := by decide +kernel
theorem bodies {b : Nat → Int} (h1 : Nr (dt (rv (b 0) (b 1) (b 2)) (rv (b 0) (b 1) (b 2))) 1 (200 / 1099511627776)) (h2 : Nr (dt (rv (b 3) (b 4) (b 5)) (rv (b 3) (b 4) (b 5))) 1 (200 / 1099511627776)) :
  ∃ u0 u1 u2 u3 u4 u5, hunitsS false b = ((u0, u1, u2, u3, u4, u5), false) ∧ Nr3 (rv u0 u1 u2) (rv (b 0) (b 1) (b 2)) (112 / 1099511627776) ∧ Nr3 (rv u3 u4 u5) (rv (b 3) (b 4) (b 5)) (112 / 1099511627776) := by
 obtain ⟨u0, u1, u2, e, n⟩ := vunit_near h1
 obtain ⟨u3, u4, u5, e', n'⟩ := vunit_near h2
 refine ⟨u0, u1, u2, u3, u4, u5, ?_, n, n'⟩
 unfold hunitsS
 rw [e]
 dsimp only
 rw [e']
end Go.Proofs.Ytooehgijllihdaa.Ff
namespace Go.Proofs.Ytooehgijllihdaa.Ff
open Go.RowKit
theorem kb_led (k : Nat → Nat → Int) (y : Nat → Int) (a : R3) : dt (kb1 (kq k) a) (rv (y 0) (y 1) (y 2)) + dt (kb2 (kq k) a) (rv (y 3) (y 4) (y 5)) = dt a ⟨led k y 0, led k y 1, led k y 2⟩ := by
 unfold kb1 kb2 kb kq rv led; simp only [dt, sr]; grind
theorem noise : Noise (1 / 16384) (1 / 4096) 16384 4096 := ⟨by decide +kernel, by decide +kernel, by decide +kernel, by decide +kernel, by decide +kernel, by decide +kernel⟩
structure Bd (g x vw z d S C l : Nat → Int) (k : Nat → Nat → Int) (v1 v2 : R3) (up lo : Rat) : Prop where
 H : St g up lo
 hu : up ≤ 1 / 50
 hl : 0 ≤ lo
 P : Pts g x
 V : Vws x vw v1 v2
 M : Mns g x vw z d S C
 L : Small x d
 G : Gn C S l k
def rr (x d : Nat → Int) (b1 b2 : R3) : Rat := (mnG (vwOf (X9 x d) 1) (vwOf (X9 x d) 2) (vwOf (X9 x d) 3) b1 b2 + (dt b1 (rv (d 0) (d 1) (d 2)) + dt b2 (rv (d 3) (d 4) (d 5)))) * (mnG (vwOf (X9 x d) 1) (vwOf (X9 x d) 2) (vwOf (X9 x d) 3) b1 b2 + (dt b1 (rv (d 0) (d 1) (d 2)) + dt b2 (rv (d 3) (d 4) (d 5))))
def JJ (x d : Nat → Int) (a b1 b2 : R3) : Rat := bothJ (1 / 16384) (1 / 4096) (vwOf (X9 x d) 1) (vwOf (X9 x d) 2) (vwOf (X9 x d) 3) (rr x d b1 b2) a b1 b2
theorem rr_nn (x d : Nat → Int) (b1 b2 : R3) : 0 ≤ rr x d b1 b2 := sq_nn _
theorem JJ_b (x d : Nat → Int) (a b1 b2 : R3) : dt b1 b1 + dt b2 b2 ≤ 16384 * JJ x d a b1 b2 := by
 have h1 := both_nn (R1 := 1 / 16384) (R2 := 1 / 4096) (vwOf (X9 x d) 1) (vwOf (X9 x d) 2) (vwOf (X9 x d) 3) a b1 b2 (rr_nn x d b1 b2)
 have h2 := nn_ge b1 b2
 unfold JJ; grind
theorem JJ_nn (x d : Nat → Int) (a b1 b2 : R3) : 0 ≤ JJ x d a b1 b2 := by
 have := JJ_b x d a b1 b2; have := dt_nn b1; have := dt_nn b2; grind
theorem Bd.near {g x vw z d S C l : Nat → Int} {k : Nat → Nat → Int} {v1 v2 : R3} {up lo : Rat} (B : Bd g x vw z d S C l k v1 v2 up lo) (a b1 b2 : R3) : Nr (quad (m9 g C S) 9 (w9 a b1 b2)) (JJ x d a b1 b2) (81 / 1099511627776 * (dt a a + dt b1 b1 + dt b2 b2)) := by
 obtain ⟨r, _, er, n⟩ := nine_both (thirteen_x B.P B.V B.M) (show (0 : Rat) ≤ 9 / 1099511627776 by decide +kernel) B.M.near a b1 b2
 have e : r = rr x d b1 b2 := by
  rw [er]
  unfold rr
  have : X9 x d 0 3 * b1.x + X9 x d 0 4 * b1.y + X9 x d 0 5 * b1.z + (X9 x d 0 6 * b2.x + X9 x d 0 7 * b2.y + X9 x d 0 8 * b2.z) = dt b1 (rv (d 0) (d 1) (d 2)) + dt b2 (rv (d 3) (d 4) (d 5)) := by
   simp only [X9, rv, dt, Nat.reduceLT, Nat.reduceSub, Nat.zero_mul, Nat.zero_add, if_false]; grind
  rw [this]
 rw [e] at n
 exact n.le (by grind)
theorem rr_le {g x vw z d S C : Nat → Int} {v1 v2 : R3} (V : Vws x vw v1 v2) (M : Mns g x vw z d S C) (b1 b2 : R3) : rr x d b1 b2 ≤ 1 / 1000000000000000000 * nn (1 / 16384) (1 / 4096) b1 b2 := by
 obtain ⟨n1, n2⟩ := zero_mean V M
 have e : rr x d b1 b2 = (dt b1 (ad (mnv1 (vwOf (X9 x d) 1) (vwOf (X9 x d) 2) (vwOf (X9 x d) 3)) (rv (d 0) (d 1) (d 2))) + dt b2 (ad (mnv2 (vwOf (X9 x d) 1) (vwOf (X9 x d) 2) (vwOf (X9 x d) 3)) (rv (d 3) (d 4) (d 5)))) * (dt b1 (ad (mnv1 (vwOf (X9 x d) 1) (vwOf (X9 x d) 2) (vwOf (X9 x d) 3)) (rv (d 0) (d 1) (d 2))) + dt b2 (ad (mnv2 (vwOf (X9 x d) 1) (vwOf (X9 x d) 2) (vwOf (X9 x d) 3)) (rv (d 3) (d 4) (d 5)))) := by
  unfold rr; rw [mnG_v]
  generalize mnv1 (vwOf (X9 x d) 1) (vwOf (X9 x d) 2) (vwOf (X9 x d) 3) = p
  generalize mnv2 (vwOf (X9 x d) 1) (vwOf (X9 x d) 2) (vwOf (X9 x d) 3) = q
  simp only [dt, ad]; grind
 rw [e]
 have s1 := n1.sq; have s2 := n2.sq
 have o : ∀ w : R3, sb3 w o3 = w := fun w => by obtain ⟨w1, w2, w3⟩ := w; unfold o3; simp only [sb3]; congr 1 <;> grind
 rw [o] at s1 s2
 generalize ad (mnv1 (vwOf (X9 x d) 1) (vwOf (X9 x d) 2) (vwOf (X9 x d) 3)) (rv (d 0) (d 1) (d 2)) = p at *
 generalize ad (mnv2 (vwOf (X9 x d) 1) (vwOf (X9 x d) 2) (vwOf (X9 x d) 3)) (rv (d 3) (d 4) (d 5)) = q at *
 have c := row_cs noise b1 b2 p q
 have n := nn_nn noise b1 b2
 have k : 16384 * dt p p + 4096 * dt q q ≤ 1 / 1000000000000000000 := by
  have : (16384 : Rat) * (3 * (1 / 1099511627776 * (1 / 1099511627776))) + 4096 * (3 * (1 / 1099511627776 * (1 / 1099511627776))) ≤ 1 / 1000000000000000000 := by decide +kernel
  grind
 have m := Rat.mul_le_mul_of_nonneg_right k n
 grind
theorem Bd.frm_ge {g x vw z d S C l : Nat → Int} {k : Nat → Nat → Int} {v1 v2 : R3} {up lo : Rat} (B : Bd g x vw z d S C l k v1 v2 up lo) {q : Rat} (hq : 81 / 1099511627776 ≤ q * lo) (a : R3) : (1 - q) * fA g a ≤ frm (vwOf (X9 x d) 1) (vwOf (X9 x d) 2) (vwOf (X9 x d) 3) a := by
 have n := frm_near B.P B.V B.M a
 have l := B.H.lo a
 have lo0 := B.hl
 have a0 := dt_nn a
 have q0 : 0 ≤ q := by
  apply Classical.byContradiction; intro c
  have := Rat.mul_nonneg (show 0 ≤ -q by grind) lo0
  grind
 have m := mul_le_l l q0
 have m2 := Rat.mul_le_mul_of_nonneg_right hq a0
 have := n.lo
 grind
end Go.Proofs.Ytooehgijllihdaa.Ff
namespace Go.Proofs.Ytooehgijllihdaa.Ff
open Go.RowKit
def ep : Rat := 3 * (1500 / 1099511627776 * (1500 / 1099511627776))
structure Yv (d y : Nat → Int) (v1 v2 xe : R3) (t1 : Rat) : Prop where
 ex : ∃ c1 c2 : R3, W3 c1 (hxv xe v1) t1 ∧ W3 c2 (hxv xe v2) t1 ∧ rv (y 0) (y 1) (y 2) = ad (sb3 c1 v1) (rv (d 0) (d 1) (d 2)) ∧ rv (y 3) (y 4) (y 5) = ad (sb3 c2 v2) (rv (d 3) (d 4) (d 5))
structure Fc (x : Nat → Int) (D s sg : Rat) : Prop where
 len : ∀ k, k = 1 ∨ k = 2 ∨ k = 3 → dt (pv x k) (pv x k) ≤ D
 fac : ∀ k, k = 1 ∨ k = 2 ∨ k = 3 → (sfac (dt (pv x k) (pv x k)) - s) * (sfac (dt (pv x k) (pv x k)) - s) ≤ sg
theorem dt_split (b y m c : R3) (s : Rat) : dt b y = dt b (ad (ad y (sc s c)) m) - s * dt b c - dt b m := by simp only [dt, ad, sc]; grind
theorem dt_split' (b y c : R3) (s : Rat) : dt b y = dt b (ad y (sc s c)) - s * dt b c := by simp only [dt, ad, sc]; grind
theorem Bd.hI {g x vw z d S C l : Nat → Int} {k : Nat → Nat → Int} {v1 v2 : R3} {up lo : Rat} (B : Bd g x vw z d S C l k v1 v2 up lo) {xe : R3} {V V1 q : Rat} (hI : ∀ a, dt a xe * dt a xe ≤ V * fA g a) (hq : 81 / 1099511627776 ≤ q * lo) (V0 : 0 ≤ V1) (hV : V ≤ V1 * (1 - q)) (a : R3) : dt a xe * dt a xe ≤ V1 * frm (vwOf (X9 x d) 1) (vwOf (X9 x d) 2) (vwOf (X9 x d) 3) a := by
 have h := hI a
 have f := B.frm_ge hq a
 have m := mul_le_l f V0
 have l := B.H.lo a
 have p : 0 ≤ fA g a := by have := Rat.mul_nonneg B.hl (dt_nn a); grind
 have m2 := Rat.mul_le_mul_of_nonneg_right hV p
 grind
theorem Bd.first {g x vw z d S C l y : Nat → Int} {k : Nat → Nat → Int} {v1 v2 xe : R3} {up lo V V1 q t1 D s sg X sx n e f : Rat} (B : Bd g x vw z d S C l k v1 v2 up lo) (hI : ∀ a, dt a xe * dt a xe ≤ V * fA g a) (hq : 81 / 1099511627776 ≤ q * lo) (V0 : 0 < V1) (hV : V ≤ V1 * (1 - q))
  (Y : Yv d y v1 v2 xe t1) (F : Fc x D s sg) (hX : dt xe xe ≤ X) (hsx : (sfac (dt xe xe) - s) * (sfac (dt xe xe) - s) ≤ sx) (he : 0 < e) (hf : e * f = 1) (f0 : 0 ≤ f) (hn : 0 < n)
  (hph : 20480 * (1001 / 1000 * ((X * X / 4 + sx * X) * (1001 / 1000)) + 1001 * ((t1 + 2 / 1099511627776) * (t1 + 2 / 1099511627776))) ≤ n * (1 - 3 / 7 * f * (2 * 20480 * (sg * D * (1 + 200 / 1099511627776) + ep)))) (a b1 b2 : R3) :
  (dt a xe - (dt b1 (rv (y 0) (y 1) (y 2)) + dt b2 (rv (y 3) (y 4) (y 5)))) * (dt a xe - (dt b1 (rv (y 0) (y 1) (y 2)) + dt b2 (rv (y 3) (y 4) (y 5)))) ≤ (V1 * (1 + e) + 3 / 4 + n) * JJ x d a b1 b2 := by
 obtain ⟨c1, c2, w1, w2, y1, y2⟩ := Y.ex
 obtain ⟨m1, m2⟩ := zero_mean B.V B.M
 have U := B.V.dirs
 have P1 := pts_ok (D := D) (s := s) (sg := sg) B.P B.V B.M (k := 1) (Or.inl rfl) (F.len 1 (Or.inl rfl)) (F.fac 1 (Or.inl rfl))
 have P2 := pts_ok (D := D) (s := s) (sg := sg) B.P B.V B.M (k := 2) (Or.inr (Or.inl rfl)) (F.len 2 (Or.inr (Or.inl rfl))) (F.fac 2 (Or.inr (Or.inl rfl)))
 have P3 := pts_ok (D := D) (s := s) (sg := sg) B.P B.V B.M (k := 3) (Or.inr (Or.inr rfl)) (F.len 3 (Or.inr (Or.inr rfl))) (F.fac 3 (Or.inr (Or.inr rfl)))
 have v1l : dt v1 v1 ≤ 1001 / 1000 := by have := U.a; have := U.t1; grind
 have v2l : dt v2 v2 ≤ 1001 / 1000 := by have := U.b; have := U.t1; grind
 have g1 := left_first w1 m1 y1 (phi_le hX v1l hsx) Rat.le_refl
 have g2 := left_first w2 m2 y2 (phi_le hX v2l hsx) Rat.le_refl
 have hy : dt b1 (rv (y 0) (y 1) (y 2)) + dt b2 (rv (y 3) (y 4) (y 5)) = (dt b1 (ad (ad (rv (y 0) (y 1) (y 2)) (sc s (cr xe v1))) (mnv1 (vwOf (X9 x d) 1) (vwOf (X9 x d) 2) (vwOf (X9 x d) 3))) + dt b2 (ad (ad (rv (y 3) (y 4) (y 5)) (sc s (cr xe v2))) (mnv2 (vwOf (X9 x d) 1) (vwOf (X9 x d) 2) (vwOf (X9 x d) 3)))) - s * (dt b1 (cr xe v1) + dt b2 (cr xe v2)) - mnG (vwOf (X9 x d) 1) (vwOf (X9 x d) 2) (vwOf (X9 x d) 3) b1 b2 := by
  rw [mnG_v, dt_split b1 _ (mnv1 (vwOf (X9 x d) 1) (vwOf (X9 x d) 2) (vwOf (X9 x d) 3)) (cr xe v1) s, dt_split b2 _ (mnv2 (vwOf (X9 x d) 1) (vwOf (X9 x d) 2) (vwOf (X9 x d) 3)) (cr xe v2) s]
  generalize mnv1 (vwOf (X9 x d) 1) (vwOf (X9 x d) 2) (vwOf (X9 x d) 3) = p
  generalize mnv2 (vwOf (X9 x d) 1) (vwOf (X9 x d) 2) (vwOf (X9 x d) 3) = q
  grind
 have e20 : (16384 : Rat) + 4096 = 20480 := by decide +kernel
 exact meet_first noise U P1 P2 P3 he hf f0 V0 hn (rr_nn x d b1 b2) (B.hI hI hq (Rat.le_of_lt V0) hV) hy g1 g2 (by rw [e20]; exact hph)
end Go.Proofs.Ytooehgijllihdaa.Ff
namespace Go.Proofs.Ytooehgijllihdaa.Ff
open Go.RowKit
theorem W3.o {a : R3} {t : Rat} (t0 : 0 ≤ t) (h : dt a a ≤ t * t) : W3 a o3 t := ⟨t0, by
 have e : sb3 a o3 = a := by obtain ⟨w1, w2, w3⟩ := a; unfold o3; simp only [sb3]; congr 1 <;> grind
 rw [e]; exact h⟩
theorem W3.sq {a : R3} {t : Rat} (h : W3 a o3 t) : dt a a ≤ t * t := by
 have e : sb3 a o3 = a := by obtain ⟨w1, w2, w3⟩ := a; unfold o3; simp only [sb3]; congr 1 <;> grind
 have l := h.le
 rw [e] at l; exact l
theorem W3.plus {a b : R3} {t u : Rat} (h : W3 a o3 t) (k : W3 b o3 u) : W3 (ad a b) o3 (t + u) := by
 have m : W3 (ad a b) b t := ⟨h.t0, by
  have e : sb3 (ad a b) b = a := by obtain ⟨w1, w2, w3⟩ := a; simp only [sb3, ad]; congr 1 <;> grind
  rw [e]; exact h.sq⟩
 exact m.thru k
theorem W3.times {a : R3} {t c : Rat} (h : W3 a o3 t) (c0 : 0 ≤ c) : W3 (sc c a) o3 (c * t) := W3.o (Rat.mul_nonneg c0 h.t0) (by
 rw [sc_sq]; have := mul_le_l h.sq (sq_nn c); grind)
theorem even_small {v1 v2 p o1 o2 e1 e2 : R3} {D s sg : Rat} (U : Dirs v1 v2 (200 / 1099511627776)) (P : Pt v1 v2 p o1 o2 e1 e2 D s sg ep) : W3 e1 o3 (1001 / 2000 * dt p p + 2600 / 1099511627776) ∧ W3 e2 o3 (1001 / 2000 * dt p p + 2600 / 1099511627776) := by
 obtain ⟨c, c0, c1, g1, g2⟩ := P.even
 have p0 := dt_nn p
 have one : ∀ v e : R3, dt v v ≤ 1 + 200 / 1099511627776 → dt (sb3 e (sc c (cr p (cr p v)))) (sb3 e (sc c (cr p (cr p v)))) ≤ ep → W3 e o3 (1001 / 2000 * dt p p + 2600 / 1099511627776) := fun v e hv hg => by
  have a : W3 e (sc c (cr p (cr p v))) (2600 / 1099511627776) := ⟨by decide +kernel, by
   have : ep ≤ 2600 / 1099511627776 * (2600 / 1099511627776) := by decide +kernel
   grind⟩
  have v0 := dt_nn v
  have b : W3 (sc c (cr p (cr p v))) o3 (1001 / 2000 * dt p p) := W3.o (by grind) (by
   rw [sc_sq]
   have k1 := cr_le p v; have k2 := cr_le p (cr p v)
   have n2 := dt_nn (cr p (cr p v))
   have q := sq_le_sq c0 c1
   have m1 := Rat.mul_le_mul_of_nonneg_right q n2
   have m2 := mul_le_l k1 p0
   have m3 := mul_le_l hv (Rat.mul_nonneg p0 p0)
   have k : (1 : Rat) / 4 * (1 + 200 / 1099511627776) ≤ 1001 / 2000 * (1001 / 2000) := by decide +kernel
   have m4 := mul_le_l k (Rat.mul_nonneg p0 p0)
   grind)
  exact (a.thru b).up (by grind)
 exact ⟨one v1 e1 U.a g1, one v2 e2 U.b g2⟩
theorem frm_trace (P Q S : Vw) : frm P Q S ⟨1, 0, 0⟩ + frm P Q S ⟨0, 1, 0⟩ + frm P Q S ⟨0, 0, 1⟩ = (dt P.p P.p + dt Q.p Q.p + dt S.p S.p) / 7 := by
 unfold frm; simp only [dt]; grind
theorem Bd.mean {g x vw z d S C l : Nat → Int} {k : Nat → Nat → Int} {v1 v2 : R3} {up lo D s sg : Rat} (B : Bd g x vw z d S C l k v1 v2 up lo) (F : Fc x D s sg) : W3 (mnv1 (vwOf (X9 x d) 1) (vwOf (X9 x d) 2) (vwOf (X9 x d) 3)) o3 (3003 / 2000 * up + 2000 / 1099511627776) ∧ W3 (mnv2 (vwOf (X9 x d) 1) (vwOf (X9 x d) 2) (vwOf (X9 x d) 3)) o3 (3003 / 2000 * up + 2000 / 1099511627776) := by
 have U := B.V.dirs
 have P1 := even_small U (pts_ok (D := D) (s := s) (sg := sg) B.P B.V B.M (k := 1) (Or.inl rfl) (F.len 1 (Or.inl rfl)) (F.fac 1 (Or.inl rfl)))
 have P2 := even_small U (pts_ok (D := D) (s := s) (sg := sg) B.P B.V B.M (k := 2) (Or.inr (Or.inl rfl)) (F.len 2 (Or.inr (Or.inl rfl))) (F.fac 2 (Or.inr (Or.inl rfl))))
 have P3 := even_small U (pts_ok (D := D) (s := s) (sg := sg) B.P B.V B.M (k := 3) (Or.inr (Or.inr rfl)) (F.len 3 (Or.inr (Or.inr rfl))) (F.fac 3 (Or.inr (Or.inr rfl))))
 have tr := frm_trace (vwOf (X9 x d) 1) (vwOf (X9 x d) 2) (vwOf (X9 x d) 3)
 have n1 := (frm_near B.P B.V B.M ⟨1, 0, 0⟩).hi; have n2 := (frm_near B.P B.V B.M ⟨0, 1, 0⟩).hi; have n3 := (frm_near B.P B.V B.M ⟨0, 0, 1⟩).hi
 have u1 := B.H.up ⟨1, 0, 0⟩; have u2 := B.H.up ⟨0, 1, 0⟩; have u3 := B.H.up ⟨0, 0, 1⟩
 have e1 : dt (⟨1, 0, 0⟩ : R3) ⟨1, 0, 0⟩ = 1 := by simp only [dt]; grind
 have e2 : dt (⟨0, 1, 0⟩ : R3) ⟨0, 1, 0⟩ = 1 := by simp only [dt]; grind
 have e3 : dt (⟨0, 0, 1⟩ : R3) ⟨0, 0, 1⟩ = 1 := by simp only [dt]; grind
 rw [e1] at n1 u1; rw [e2] at n2 u2; rw [e3] at n3 u3
 have fin : 1 / 7 * ((1001 / 2000 * dt (vwOf (X9 x d) 1).p (vwOf (X9 x d) 1).p + 2600 / 1099511627776) + (1001 / 2000 * dt (vwOf (X9 x d) 2).p (vwOf (X9 x d) 2).p + 2600 / 1099511627776) + (1001 / 2000 * dt (vwOf (X9 x d) 3).p (vwOf (X9 x d) 3).p + 2600 / 1099511627776)) ≤ 3003 / 2000 * up + 2000 / 1099511627776 := by
  generalize dt (vwOf (X9 x d) 1).p (vwOf (X9 x d) 1).p = A at *
  generalize dt (vwOf (X9 x d) 2).p (vwOf (X9 x d) 2).p = A' at *
  generalize dt (vwOf (X9 x d) 3).p (vwOf (X9 x d) 3).p = A'' at *
  grind
 exact ⟨(((P1.1.plus P2.1).plus P3.1).times (by decide +kernel)).up fin, (((P1.2.plus P2.2).plus P3.2).times (by decide +kernel)).up fin⟩
theorem left_later {bu x v mn d0 y : R3} {s t1 z be : Rat} (hb : W3 bu (hxv x v) t1) (hm : Nr3 (ad mn d0) o3 (1 / 1099511627776)) (hz : W3 mn o3 z) (hy : y = ad (sb3 bu v) d0) (b0 : 0 ≤ be) (hB : dt (phv x v s) (phv x v s) ≤ be * be) :
  dt (ad y (sc s (cr x v))) (ad y (sc s (cr x v))) ≤ (be + (t1 + (z + 2 / 1099511627776))) * (be + (t1 + (z + 2 / 1099511627776))) := by
 have A : W3 (phv x v s) o3 be := W3.o b0 hB
 have C : W3 (sb3 bu (hxv x v)) o3 t1 := W3.o hb.t0 hb.le
 have N : W3 (sc (-1) mn) o3 z := W3.o hz.t0 (by rw [sc_sq]; have := hz.sq; grind)
 have M := W3.nr hm
 have Dd : W3 d0 o3 (z + 2 / 1099511627776) := by
  have e : d0 = ad (sc (-1) mn) (ad mn d0) := by obtain ⟨w1, w2, w3⟩ := d0; simp only [ad, sc]; congr 1 <;> grind
  rw [e]
  exact (N.plus M).up (by grind)
 have e : ad y (sc s (cr x v)) = ad (phv x v s) (ad (sb3 bu (hxv x v)) d0) := by
  rw [hy]; unfold phv; generalize hxv x v = h; generalize cr x v = c; simp only [ad, sb3, sc]; congr 1 <;> grind
 rw [e]
 exact (A.plus (C.plus Dd)).sq
theorem Bd.later {g x vw z d S C l y : Nat → Int} {k : Nat → Nat → Int} {v1 v2 xe : R3} {up lo V V1 q t1 D s sg X sx n e f be : Rat} (B : Bd g x vw z d S C l k v1 v2 up lo) (hI : ∀ a, dt a xe * dt a xe ≤ V * fA g a) (hq : 81 / 1099511627776 ≤ q * lo) (V0 : 0 < V1) (hV : V ≤ V1 * (1 - q))
  (Y : Yv d y v1 v2 xe t1) (F : Fc x D s sg) (hX : dt xe xe ≤ X) (hsx : (sfac (dt xe xe) - s) * (sfac (dt xe xe) - s) ≤ sx) (he : 0 < e) (hf : e * f = 1) (f0 : 0 ≤ f) (hn : 0 < n) (b0 : 0 ≤ be) (hbe : (X * X / 4 + sx * X) * (1001 / 1000) ≤ be * be)
  (hph : 20480 * ((be + (t1 + (3003 / 2000 * up + 2000 / 1099511627776 + 2 / 1099511627776))) * (be + (t1 + (3003 / 2000 * up + 2000 / 1099511627776 + 2 / 1099511627776)))) ≤ n * (1 - 3 / 7 * f * (2 * 20480 * (sg * D * (1 + 200 / 1099511627776) + ep)))) (a b1 b2 : R3) :
  (dt a xe - (dt b1 (rv (y 0) (y 1) (y 2)) + dt b2 (rv (y 3) (y 4) (y 5)))) * (dt a xe - (dt b1 (rv (y 0) (y 1) (y 2)) + dt b2 (rv (y 3) (y 4) (y 5)))) ≤ (V1 * (1 + e) + n) * JJ x d a b1 b2 := by
 obtain ⟨c1, c2, w1, w2, y1, y2⟩ := Y.ex
 obtain ⟨m1, m2⟩ := zero_mean B.V B.M
 obtain ⟨z1, z2⟩ := B.mean F
 have U := B.V.dirs
 have P1 := pts_ok (D := D) (s := s) (sg := sg) B.P B.V B.M (k := 1) (Or.inl rfl) (F.len 1 (Or.inl rfl)) (F.fac 1 (Or.inl rfl))
 have P2 := pts_ok (D := D) (s := s) (sg := sg) B.P B.V B.M (k := 2) (Or.inr (Or.inl rfl)) (F.len 2 (Or.inr (Or.inl rfl))) (F.fac 2 (Or.inr (Or.inl rfl)))
 have P3 := pts_ok (D := D) (s := s) (sg := sg) B.P B.V B.M (k := 3) (Or.inr (Or.inr rfl)) (F.len 3 (Or.inr (Or.inr rfl))) (F.fac 3 (Or.inr (Or.inr rfl)))
 have v1l : dt v1 v1 ≤ 1001 / 1000 := by have := U.a; have := U.t1; grind
 have v2l : dt v2 v2 ≤ 1001 / 1000 := by have := U.b; have := U.t1; grind
 have g1 := left_later (s := s) w1 m1 z1 y1 b0 (Rat.le_trans (phi_le hX v1l hsx) hbe)
 have g2 := left_later (s := s) w2 m2 z2 y2 b0 (Rat.le_trans (phi_le hX v2l hsx) hbe)
 have hy : dt b1 (rv (y 0) (y 1) (y 2)) + dt b2 (rv (y 3) (y 4) (y 5)) = (dt b1 (ad (rv (y 0) (y 1) (y 2)) (sc s (cr xe v1))) + dt b2 (ad (rv (y 3) (y 4) (y 5)) (sc s (cr xe v2)))) - s * (dt b1 (cr xe v1) + dt b2 (cr xe v2)) := by
  rw [dt_split' b1 _ (cr xe v1) s, dt_split' b2 _ (cr xe v2) s]
  grind
 have e20 : (16384 : Rat) + 4096 = 20480 := by decide +kernel
 exact meet_then noise U P1 P2 P3 he hf f0 V0 hn (rr_nn x d b1 b2) (B.hI hI hq (Rat.le_of_lt V0) hV) hy g1 g2 (by rw [e20]; exact hph)
end Go.Proofs.Ytooehgijllihdaa.Ff
namespace Go.Proofs.Ytooehgijllihdaa.Ff
open Go.RowKit
def Jk (x d : Nat → Int) (k : Nat → Nat → Int) (a : R3) : Rat := JJ x d a (kb1 (kq k) a) (kb2 (kq k) a)
theorem Bd.form {g x vw z d S C l y g' : Nat → Int} {k : Nat → Nat → Int} {v1 v2 : R3} {up lo sg : Rat} {d0 d1 d2 f0 f1 f2 f3 : Int} (B : Bd g x vw z d S C l k v1 v2 up lo) (O : Out g C y k g' d0 d1 d2 f0 f1 f2 f3 sg) (a : R3) : Nr (Jk x d k a) (fA g' a) (1943 / 1099511627776 * (dt a a + (dt (kb1 (kq k) a) (kb1 (kq k) a) + dt (kb2 (kq k) a) (kb2 (kq k) a)))) := by
 have n1 := (B.near a (kb1 (kq k) a) (kb2 (kq k) a)).symm
 have n2 := (nxt_near (g := g) (C := C) (S := S) (K := kq k) B.G.left a).symm
 have n3 := (O.form a).symm
 have b1 := dt_nn (kb1 (kq k) a); have b2 := dt_nn (kb2 (kq k) a)
 exact ((n1.trans n2).trans n3).le (by grind)
theorem Bd.low {g x vw z d S C l : Nat → Int} {k : Nat → Nat → Int} {v1 v2 : R3} {up lo D s sg q e f gg h GG : Rat} (B : Bd g x vw z d S C l k v1 v2 up lo) (F : Fc x D s sg) (hq : 81 / 1099511627776 ≤ q * lo) (q1 : q ≤ 1) (he : 0 < e) (hf : e * f = 1) (f0 : 0 ≤ f) (g0 : 0 < gg) (hg : gg * ((1 - q) * lo) = 1) (hh : 0 < h)
  (hs : s * s * (20480 * (1 + 200 / 1099511627776)) ≤ h * ((1 + e) * (1 - 3 / 7 * f * (2 * 20480 * (sg * D * (1 + 200 / 1099511627776) + ep))))) (hG : (gg + h) * (1 + e) ≤ GG) (a b1 b2 : R3) : dt a a ≤ GG * JJ x d a b1 b2 := by
 have U := B.V.dirs
 have P1 := pts_ok (D := D) (s := s) (sg := sg) B.P B.V B.M (k := 1) (Or.inl rfl) (F.len 1 (Or.inl rfl)) (F.fac 1 (Or.inl rfl))
 have P2 := pts_ok (D := D) (s := s) (sg := sg) B.P B.V B.M (k := 2) (Or.inr (Or.inl rfl)) (F.len 2 (Or.inr (Or.inl rfl))) (F.fac 2 (Or.inr (Or.inl rfl)))
 have P3 := pts_ok (D := D) (s := s) (sg := sg) B.P B.V B.M (k := 3) (Or.inr (Or.inr rfl)) (F.len 3 (Or.inr (Or.inr rfl))) (F.fac 3 (Or.inr (Or.inr rfl)))
 have e20 : (16384 : Rat) + 4096 = 20480 := by decide +kernel
 have b := both_low (a := a) (b1 := b1) (b2 := b2) (lo := (1 - q) * lo) noise U P1 P2 P3 he hf f0 (rr_nn x d b1 b2) (fun u => by
  have f := B.frm_ge hq u
  have l := mul_le_l (B.H.lo u) (show 0 ≤ 1 - q by grind)
  grind) g0 hg hh (by rw [e20]; exact hs)
 have j := JJ_nn x d a b1 b2
 have m := Rat.mul_le_mul_of_nonneg_right hG j
 unfold JJ at *
 grind
structure Nx (x d : Nat → Int) (k : Nat → Nat → Int) (g' : Nat → Int) (GG t : Rat) : Prop where
 ge : ∀ a, (1 - t) * Jk x d k a ≤ fA g' a
 low : ∀ a, dt a a ≤ GG * Jk x d k a
theorem Jk_nn (x d : Nat → Int) (k : Nat → Nat → Int) (a : R3) : 0 ≤ Jk x d k a := JJ_nn x d a _ _
theorem Bd.next {g x vw z d S C l y g' : Nat → Int} {k : Nat → Nat → Int} {v1 v2 : R3} {up lo sg GG t : Rat} {d0 d1 d2 f0 f1 f2 f3 : Int} (B : Bd g x vw z d S C l k v1 v2 up lo) (O : Out g C y k g' d0 d1 d2 f0 f1 f2 f3 sg) (low : ∀ a b1 b2, dt a a ≤ GG * JJ x d a b1 b2) (ht : 1943 / 1099511627776 * (GG + 16384) ≤ t) : Nx x d k g' GG t :=
 ⟨fun a => upd_ge (B.form O a).hi (low a _ _) (JJ_b x d a _ _) (by decide +kernel) (Jk_nn x d k a) ht, fun a => low a _ _⟩
theorem Nx.lo {x d : Nat → Int} {k : Nat → Nat → Int} {g' : Nat → Int} {GG t lo2 : Rat} (N : Nx x d k g' GG t) (l0 : 0 ≤ lo2) (h : lo2 * GG ≤ 1 - t) (a : R3) : lo2 * dt a a ≤ fA g' a := by
 have m1 := mul_le_l (N.low a) l0
 have m2 := Rat.mul_le_mul_of_nonneg_right h (Jk_nn x d k a)
 have := N.ge a
 grind
theorem Nx.off {g C y x d g' : Nat → Int} {k : Nat → Nat → Int} {xe : R3} {sg GG t Vp V3 : Rat} {d0 d1 d2 f0 f1 f2 f3 : Int} (N : Nx x d k g' GG t) (O : Out g C y k g' d0 d1 d2 f0 f1 f2 f3 sg)
  (joint : ∀ a b1 b2, (dt a xe - (dt b1 (rv (y 0) (y 1) (y 2)) + dt b2 (rv (y 3) (y 4) (y 5)))) * (dt a xe - (dt b1 (rv (y 0) (y 1) (y 2)) + dt b2 (rv (y 3) (y 4) (y 5)))) ≤ Vp * JJ x d a b1 b2)
  (V0 : 0 ≤ V3) (h3 : (1 + 1 / 1000000) * Vp + 1000001 * (27 / 1208925819614629174706176 * GG) ≤ V3 * (1 - t)) (a : R3) : dt a (sb3 xe (rv d0 d1 d2)) * dt a (sb3 xe (rv d0 d1 d2)) ≤ V3 * fA g' a := by
 have j := joint a (kb1 (kq k) a) (kb2 (kq k) a)
 rw [kb_led k y a] at j
 have w : dt a (sb3 (rv d0 d1 d2) ⟨led k y 0, led k y 1, led k y 2⟩) * dt a (sb3 (rv d0 d1 d2) ⟨led k y 0, led k y 1, led k y 2⟩) ≤ 27 / 1208925819614629174706176 * (GG * Jk x d k a) := by
  have c := cauchy a (sb3 (rv d0 d1 d2) ⟨led k y 0, led k y 1, led k y 2⟩)
  have s := O.d.sq
  have m1 := mul_le_l s (dt_nn a)
  have m2 := N.low a
  grind
 have e : dt a (sb3 xe (rv d0 d1 d2)) = (dt a xe - dt a ⟨led k y 0, led k y 1, led k y 2⟩) - dt a (sb3 (rv d0 d1 d2) ⟨led k y 0, led k y 1, led k y 2⟩) := by
  generalize (⟨led k y 0, led k y 1, led k y 2⟩ : R3) = L
  simp only [dt, sb3]; grind
 rw [e]
 exact led_le j w (N.ge a) (Jk_nn x d k a) V0 h3
theorem Bd.up2 {g x vw z d S C l y g' : Nat → Int} {k : Nat → Nat → Int} {v1 v2 c1 c2 a : R3} {up lo sg U0 up2 : Rat} {d0 d1 d2 f0 f1 f2 f3 : Int} (B : Bd g x vw z d S C l k v1 v2 up lo) (O : Out g C y k g' d0 d1 d2 f0 f1 f2 f3 sg) (hJ : JJ x d a c1 c2 ≤ U0 * dt a a) (hU : (1 + 3 / 10000) * (U0 + 10000 / 1099511627776) ≤ up2) : fA g' a ≤ up2 * dt a a := by
 have l := nxt_least (K := kq k) B.H B.P B.V B.M B.G.left a c1 c2
 have nc := (B.near a c1 c2).hi
 have nk := (B.near a (kb1 (kq k) a) (kb2 (kq k) a)).lo
 have fo := (B.form O a).lo
 have bk := JJ_b x d a (kb1 (kq k) a) (kb2 (kq k) a)
 have bc := JJ_b x d a c1 c2
 have a0 := dt_nn a
 have j0 := JJ_nn x d a c1 c2
 have m := Rat.mul_le_mul_of_nonneg_right hU a0
 unfold Jk at fo
 generalize JJ x d a (kb1 (kq k) a) (kb2 (kq k) a) = J at *
 generalize JJ x d a c1 c2 = J' at *
 generalize dt (kb1 (kq k) a) (kb1 (kq k) a) = K1 at *
 generalize dt (kb2 (kq k) a) (kb2 (kq k) a) = K2 at *
 generalize dt c1 c1 = C1 at *
 generalize dt c2 c2 = C2 at *
 generalize quad (m9 g C S) 9 (w9 a c1 c2) = Q' at *
 generalize quad (m9 g C S) 9 (w9 a (kb1 (kq k) a) (kb2 (kq k) a)) = Q at *
 generalize fA g' a = A' at *
 generalize dt a a = A at *
 clear O B
 have h1 : J ≤ J' + 6681 / 1099511627776 * (16384 * J) + 6681 / 1099511627776 * (16384 * J') + 6762 / 1099511627776 * A := by grind
 have h2 : A' ≤ J + 1943 / 1099511627776 * (16384 * J) + 1943 / 1099511627776 * A := by grind
 have h3 : 9999 / 10000 * J ≤ 10001 / 10000 * J' + 6762 / 1099511627776 * A := by grind
 have h4 : A' ≤ (1 + 3 / 10000) * J' + (1 + 3 / 10000) * (10000 / 1099511627776 * A) := by grind
 grind
end Go.Proofs.Ytooehgijllihdaa.Ff
namespace Go.Proofs.Ytooehgijllihdaa.Ff
open Go.RowKit
def tt : Rat := 200 / 1099511627776
def upU (s c up D sg e f : Rat) : Rat := (1 + e) * ((1 - s * c) * (1 - s * c)) * up + 2 * (1 + f) * (s * c * (s * c) * (up * (11 * (tt * tt)))) + (1 + e) / 4 * ((1 + 3 * tt) * D) * up * (c * c * ((1 + tt) * (1 + tt) * (1 + tt)))
   + (1 + 2 * (1 + f) * (3 / 7 * (2 * (16384 + 4096) * (sg * D * (1 + tt) + ep))) + 3 / 7 * ((1 + f) * ((16384 + 4096) * ep)) + 1 / 1000000000000000000) * (c * c * (1 / 4096 * ((1 + tt) * (1 + tt) * (1 + tt))))
theorem Bd.chosen {g x vw z d S C l : Nat → Int} {k : Nat → Nat → Int} {v1 v2 : R3} {up lo D s sg e f c up1 : Rat} (B : Bd g x vw z d S C l k v1 v2 up lo) (F : Fc x D s sg) (he : 0 < e) (hf : e * f = 1) (f0 : 0 ≤ f) (up0 : 0 ≤ up1) (D0 : 0 ≤ D) (sg0 : 0 ≤ sg) (hup : up + 81 / 1099511627776 ≤ up1) (a : R3) :
  JJ x d a (ch1 c v1 a) (ch2 c v1 v2 a) ≤ upU s c up1 D sg e f * dt a a := by
 have U := B.V.dirs
 have P1 := pts_ok (D := D) (s := s) (sg := sg) B.P B.V B.M (k := 1) (Or.inl rfl) (F.len 1 (Or.inl rfl)) (F.fac 1 (Or.inl rfl))
 have P2 := pts_ok (D := D) (s := s) (sg := sg) B.P B.V B.M (k := 2) (Or.inr (Or.inl rfl)) (F.len 2 (Or.inr (Or.inl rfl))) (F.fac 2 (Or.inr (Or.inl rfl)))
 have P3 := pts_ok (D := D) (s := s) (sg := sg) B.P B.V B.M (k := 3) (Or.inr (Or.inr rfl)) (F.len 3 (Or.inr (Or.inr rfl))) (F.fac 3 (Or.inr (Or.inr rfl)))
 have hI : ∀ u, frm (vwOf (X9 x d) 1) (vwOf (X9 x d) 2) (vwOf (X9 x d) 3) u ≤ up1 * dt u u := fun u => by
  have n := (frm_near B.P B.V B.M u).hi
  have h := B.H.up u
  have m := Rat.mul_le_mul_of_nonneg_right hup (dt_nn u)
  grind
 have z1 : 0 ≤ sg * D * (1 + 200 / 1099511627776) + ep := by
  have := Rat.mul_nonneg sg0 D0
  have : (0 : Rat) ≤ ep := by decide +kernel
  grind
 exact both_up noise U P1 P2 P3 he hf f0 hI up0 D0 rfl z1 (show (0 : Rat) ≤ ep by decide +kernel) (rr_le B.V B.M _ _) (by decide +kernel)
theorem Bd.chi {g x vw z d S C l y : Nat → Int} {k : Nat → Nat → Int} {v1 v2 xe : R3} {up lo Vp : Rat} (B : Bd g x vw z d S C l k v1 v2 up lo) (hV : Vp ≤ 4)
  (joint : ∀ a b1 b2, (dt a xe - (dt b1 (rv (y 0) (y 1) (y 2)) + dt b2 (rv (y 3) (y 4) (y 5)))) * (dt a xe - (dt b1 (rv (y 0) (y 1) (y 2)) + dt b2 (rv (y 3) (y 4) (y 5)))) ≤ Vp * JJ x d a b1 b2)
  (b : Nat → Rat) (hb : ∀ j, j < 6 → Nr (rowm (s6 S) 6 b j) (qr (y j)) (4620021 / 1099511627776)) : sr (fun j => b j * qr (y j)) 6 ≤ 5 ∧ nrm 6 b ≤ 90000 := by
 have j := joint o3 ⟨b 0, b 1, b 2⟩ ⟨b 3, b 4, b 5⟩
 have e0 : ∀ w, dt o3 w = 0 := fun w => by unfold o3; simp only [dt]; grind
 have ey : dt (⟨b 0, b 1, b 2⟩ : R3) (rv (y 0) (y 1) (y 2)) + dt (⟨b 3, b 4, b 5⟩ : R3) (rv (y 3) (y 4) (y 5)) = sr (fun j => b j * qr (y j)) 6 := by unfold rv; simp only [dt, sr]; grind
 rw [e0, ey] at j
 have n := (B.near o3 ⟨b 0, b 1, b 2⟩ ⟨b 3, b 4, b 5⟩).lo
 rw [e0] at n
 have bb := JJ_b x d o3 ⟨b 0, b 1, b 2⟩ ⟨b 3, b 4, b 5⟩
 have nb : dt (⟨b 0, b 1, b 2⟩ : R3) ⟨b 0, b 1, b 2⟩ + dt (⟨b 3, b 4, b 5⟩ : R3) ⟨b 3, b 4, b 5⟩ = nrm 6 b := by unfold nrm; simp only [dt, sr]; grind
 have q : quad (m9 g C S) 9 (w9 o3 ⟨b 0, b 1, b 2⟩ ⟨b 3, b 4, b 5⟩) = quad (s6 S) 6 b := by
  have w0 : ∀ r, r < 3 → w9 o3 ⟨b 0, b 1, b 2⟩ ⟨b 3, b 4, b 5⟩ r = 0 := fun r hr => by
   rcases (show r = 0 ∨ r = 1 ∨ r = 2 by omega) with rfl | rfl | rfl <;> rfl
  have w1 : ∀ r, r < 6 → w9 o3 ⟨b 0, b 1, b 2⟩ ⟨b 3, b 4, b 5⟩ (r + 3) = -b r := fun r hr => by
   rcases (show r = 0 ∨ r = 1 ∨ r = 2 ∨ r = 3 ∨ r = 4 ∨ r = 5 by omega) with rfl | rfl | rfl | rfl | rfl | rfl <;> rfl
  unfold quad
  rw [sr_nine, sr_zero fun r hr => by rw [w0 r hr]; grind]
  have : sr (fun r => w9 o3 ⟨b 0, b 1, b 2⟩ ⟨b 3, b 4, b 5⟩ (r + 3) * sr (fun s => m9 g C S (r + 3) s * w9 o3 ⟨b 0, b 1, b 2⟩ ⟨b 3, b 4, b 5⟩ s) 9) 6 = sr (fun r => b r * sr (fun s => s6 S r s * b s) 6) 6 := sr_eq fun r hr => by
   rw [sr_nine, sr_zero fun s hs => by rw [w0 s hs]; grind, w1 r hr]
   have : sr (fun s => m9 g C S (r + 3) (s + 3) * w9 o3 ⟨b 0, b 1, b 2⟩ ⟨b 3, b 4, b 5⟩ (s + 3)) 6 = sr (fun s => -1 * (s6 S r s * b s)) 6 := sr_eq fun s hs => by
    rw [w1 s hs]
    have : m9 g C S (r + 3) (s + 3) = s6 S r s := by unfold m9 s6 mt; rw [if_neg (by omega), if_neg (by omega), Nat.add_sub_cancel, Nat.add_sub_cancel]
    rw [this]; grind
   rw [this, sr_mul]; grind
  rw [this]; grind
 have qs : quad (s6 S) 6 b = sr (fun j => b j * qr (y j)) 6 + sr (fun j => b j * (rowm (s6 S) 6 b j - qr (y j))) 6 := by
  rw [← sr_add]; unfold quad; exact sr_eq fun j _ => by unfold rowm; grind
 have sm := dot_small (n := 6) b (fun j => rowm (s6 S) 6 b j - qr (y j)) (e := 1 / 1000000) (f := 1000000) (by decide +kernel) (by decide +kernel)
 have nl : nrm 6 (fun j => rowm (s6 S) 6 b j - qr (y j)) ≤ 6 * (4620021 / 1099511627776 * (4620021 / 1099511627776)) := by
  have : nrm 6 (fun j => rowm (s6 S) 6 b j - qr (y j)) ≤ sr (fun _ => 4620021 / 1099511627776 * (4620021 / 1099511627776)) 6 := sr_le fun j hj => abs_sq (hb j hj).hi (hb j hj).lo
  simp only [sr] at this
  grind
 rw [q, qs] at n
 have n' : JJ x d o3 ⟨b 0, b 1, b 2⟩ ⟨b 3, b 4, b 5⟩ - (sr (fun j => b j * qr (y j)) 6 + sr (fun j => b j * (rowm (s6 S) 6 b j - qr (y j))) 6) ≤ 81 / 1099511627776 * nrm 6 b := by rw [← nb]; grind
 rw [nb] at bb
 have J0 := JJ_nn x d o3 ⟨b 0, b 1, b 2⟩ ⟨b 3, b 4, b 5⟩
 generalize JJ x d o3 ⟨b 0, b 1, b 2⟩ ⟨b 3, b 4, b 5⟩ = J at *
 generalize sr (fun j => b j * qr (y j)) 6 = c at *
 generalize sr (fun j => b j * (rowm (s6 S) 6 b j - qr (y j))) 6 = r at *
 generalize nrm 6 (fun j => rowm (s6 S) 6 b j - qr (y j)) = R at *
 generalize nrm 6 b = N at *
 have m := Rat.mul_le_mul_of_nonneg_right hV J0
 have j' : c * c ≤ 4 * J := by grind
 have h1 : 98 / 100 * J ≤ c + 1 / 1000 := by grind
 have c5 : c ≤ 5 := by
  apply Classical.byContradiction; intro nc
  have c5 : 0 ≤ (c - 5) := by grind
  have := Rat.mul_nonneg c5 c5
  have := sq_nn (c - 5)
  grind
 exact ⟨c5, by grind⟩
end Go.Proofs.Ytooehgijllihdaa.Ff
namespace Go.Proofs.Ytooehgijllihdaa.Ff
open Go.RowKit
theorem vw_p (x d : Nat → Int) (k : Nat) : (vwOf (X9 x d) k).p = pv x k := rfl
theorem lens {g x vw z d S C : Nat → Int} {v1 v2 : R3} {up lo : Rat} (H : St g up lo) (P : Pts g x) (V : Vws x vw v1 v2) (M : Mns g x vw z d S C) {k : Nat} (hk : k = 1 ∨ k = 2 ∨ k = 3) : dt (pv x k) (pv x k) ≤ 7 * up + 567 / 1099511627776 := by
 have n := (frm_near P V M (pv x k)).hi
 have h := H.up (pv x k)
 have p0 := dt_nn (pv x k)
 have f : dt (pv x k) (pv x k) * dt (pv x k) (pv x k) / 7 ≤ frm (vwOf (X9 x d) 1) (vwOf (X9 x d) 2) (vwOf (X9 x d) 3) (pv x k) := by
  unfold frm
  rw [vw_p, vw_p, vw_p]
  have s1 := sq_nn (dt (pv x k) (pv x 1)); have s2 := sq_nn (dt (pv x k) (pv x 2)); have s3 := sq_nn (dt (pv x k) (pv x 3))
  rcases hk with rfl | rfl | rfl <;> grind
 apply Classical.byContradiction; intro c
 have pos : 0 < dt (pv x k) (pv x k) - (7 * up + 567 / 1099511627776) := by grind
 by_cases z0 : dt (pv x k) (pv x k) = 0
 ·have u0 : 0 ≤ up := by
   have e1 : dt (⟨1, 0, 0⟩ : R3) ⟨1, 0, 0⟩ = 1 := by simp only [dt]; grind
   have a := H.up ⟨1, 0, 0⟩
   have n1 := (frm_near P V M ⟨1, 0, 0⟩)
   have m := n1.hi
   rw [e1] at a
   have fr : 0 ≤ frm (vwOf (X9 x d) 1) (vwOf (X9 x d) 2) (vwOf (X9 x d) 3) ⟨1, 0, 0⟩ := by
    have s1 := sq_nn (dt ⟨1, 0, 0⟩ (vwOf (X9 x d) 1).p); have s2 := sq_nn (dt ⟨1, 0, 0⟩ (vwOf (X9 x d) 2).p); have s3 := sq_nn (dt ⟨1, 0, 0⟩ (vwOf (X9 x d) 3).p)
    unfold frm; grind
   rw [e1] at m
   apply Classical.byContradiction; intro c2
   grind
  grind
 ·have q := Rat.mul_pos (show 0 < dt (pv x k) (pv x k) by grind) pos
  grind
theorem lens_all {g x vw z d S C : Nat → Int} {v1 v2 : R3} {up lo : Rat} (H : St g up lo) (P : Pts g x) (V : Vws x vw v1 v2) (M : Mns g x vw z d S C) (hu : up ≤ 1 / 60) : ∀ k, k < 13 → dt (pv x k) (pv x k) ≤ 141 / 1000 := fun k hk => by
 have one : ∀ k, k = 1 ∨ k = 2 ∨ k = 3 → dt (pv x k) (pv x k) ≤ 141 / 1000 := fun k hk => by have := lens H P V M hk; grind
 by_cases s : still k
 ·obtain ⟨z0, z1, z2⟩ := P.turn0 s
  unfold pv rv
  rw [z0, z1, z2, qr_zero']
  simp only [dt]; grind
 ·by_cases c : k ≤ 3
  ·exact one k (by unfold still at s; omega)
  ·have np : pv x k = ng (pv x (k - 6)) := by
    have o := fun i hi => P.opp (k - 7) (by unfold still at s; omega) i hi
    have o0 := o 0 (by omega); have o1 := o 1 (by omega); have o2 := o 2 (by omega)
    rw [show 7 + (k - 7) = k by unfold still at s; omega, show 1 + (k - 7) = k - 6 by unfold still at s; omega] at o0 o1 o2
    unfold pv rv ng
    rw [Nat.add_zero] at o0
    rw [o0, o1, o2, qr_neg, qr_neg, qr_neg]; rfl
   rw [np, dt_ng]
   exact one (k - 6) (by unfold still at s; omega)
end Go.Proofs.Ytooehgijllihdaa.Ff
namespace Go.Proofs.Ytooehgijllihdaa.Ff
open Go.RowKit
theorem bd_of {g : Nat → Int} {up lo : Rat} (H : St g up lo) (hu : up ≤ 1 / 60) (hl : 12000000 / 1099511627776 ≤ lo) : ∃ x vw z d S C l G k y0 y1 y2 w0 w1 w2, hPointsS false g = (x, false) ∧ hviewedS false g x skyF = (vw, false) ∧ qTurnS false (g 0, g 1, g 2, g 3) (1099511627776, 0, 0) = ((y0, y1, y2), false) ∧ qTurnS false (g 0, g 1, g 2, g 3) (0, 1099511627776, 0) = ((w0, w1, w2), false) ∧
  zRoot6 false S = (l, false) ∧ Rel l G ∧ Wh (mt S) G ∧ Bd g x vw z d S C l k (rv y0 y1 y2) (rv w0 w1 w2) up lo := by
 have hu5 : up ≤ 1 / 50 := by grind
 have l0 : 0 ≤ lo := by grind
 obtain ⟨x, ex, P⟩ := H.points hu5 hl
 obtain ⟨vw, y0, y1, y2, w0, w1, w2, ev, ey, ew, V⟩ := views_are H.q P
 obtain ⟨z, d, S, C, M⟩ := means_are P V
 have L := small_are P V M (lens_all H P V M hu)
 obtain ⟨l, G, el, rel, W, k, Gk⟩ := gains H hu5 l0 P V M L
 exact ⟨x, vw, z, d, S, C, l, G, k, y0, y1, y2, w0, w1, w2, ex, ev, ey, ew, el, rel, W, ⟨H, hu5, l0, P, V, M, L, Gk⟩⟩
theorem seen_less {g x vw z d S C : Nat → Int} {v1 v2 xe : R3} {t1 : Rat} {u0 u1 u2 u3 u4 u5 : Int} (V : Vws x vw v1 v2) (M : Mns g x vw z d S C) (L : Small x d) (hx : dt xe xe ≤ 1 / 100) (ht : t1 ≤ 1 / 10) (c1 : W3 (rv u0 u1 u2) (hxv xe v1) t1) (c2 : W3 (rv u3 u4 u5) (hxv xe v2) t1) :
  ∃ y : Nat → Int, hlessS false (six6 (u0, u1, u2, u3, u4, u5)) z = (y, false) ∧ Yv d y v1 v2 xe t1 ∧ ∀ j, j < 6 → Ab (y j) 1099511627776 := by
 have D := V.dirs
 have far : ∀ v, dt v v ≤ 1 + 200 / 1099511627776 → W3 (hxv xe v) v (11 / 100) := fun v hv => ⟨by decide +kernel, by
  have h := hxv_far xe v
  have m1 := Rat.mul_le_mul_of_nonneg_right hx (dt_nn v)
  grind⟩
 have f1 := (c1.thru (far v1 D.a)).up (show t1 + 11 / 100 ≤ 1 / 4 by grind)
 have f2 := (c2.thru (far v2 D.b)).up (show t1 + 11 / 100 ≤ 1 / 4 by grind)
 have p1 := comp_le (B := 1 / 4) (by decide +kernel) f1.le
 have p2 := comp_le (B := 1 / 4) (by decide +kernel) f2.le
 have s0 := V.s1 0 (by unfold still; omega)
 have e1 : v1 = rv (vw 0) (vw 1) (vw 2) := s0.1.symm
 have e2 : v2 = rv (vw 3) (vw 4) (vw 5) := s0.2.symm
 have dv : ∀ j, j < 6 → d j = vw j - z j := fun j hj => by have := M.dv 0 (by omega) j hj; rw [show 0 * 6 + j = j by omega] at this; exact this
 have ds : ∀ j, j < 6 → qr (d j) ≤ 41 / 250 ∧ -(41 / 250) ≤ qr (d j) := fun j hj => by have := L.ds 0 (by unfold still; omega) j hj; rw [show 0 * 6 + j = j by omega] at this; exact this
 have near : ∀ j, j < 6 → qr (six6 (u0, u1, u2, u3, u4, u5) j) - qr (vw j) ≤ 1 / 4 ∧ -(1 / 4) ≤ qr (six6 (u0, u1, u2, u3, u4, u5) j) - qr (vw j) := fun j hj => by
  rw [e1] at p1; rw [e2] at p2
  rcases (show j = 0 ∨ j = 1 ∨ j = 2 ∨ j = 3 ∨ j = 4 ∨ j = 5 by omega) with rfl | rfl | rfl | rfl | rfl | rfl
  ·exact p1.1
  ·exact p1.2.1
  ·exact p1.2.2
  ·exact p2.1
  ·exact p2.2.1
  ·exact p2.2.2
 have yb : ∀ j, j < 6 → Ab (six6 (u0, u1, u2, u3, u4, u5) j - z j) 1099511627776 := fun j hj => by
  have a := near j hj; have b := ds j hj
  rw [dv j hj, qr_sub] at b
  exact ab_of (up := 1) (by decide +kernel) (by rw [qr_sub]; grind) (by rw [qr_sub]; grind)
 have sg : ∀ j, j < 6 → subS false (six6 (u0, u1, u2, u3, u4, u5) j) (z j) = (six6 (u0, u1, u2, u3, u4, u5) j - z j, false) := fun j hj => by
  have zb := M.zb j hj
  have ub : Ab (six6 (u0, u1, u2, u3, u4, u5) j) (3298534883329 + 1099511627776) := by
   have a := (yb j hj).add zb
   have e : six6 (u0, u1, u2, u3, u4, u5) j - z j + z j = six6 (u0, u1, u2, u3, u4, u5) j := by omega
   rw [e] at a
   exact a.le (by decide)
  exact sub_near ub zb (by decide) (by decide) (by decide)
 have fl := (less_good (six6 (u0, u1, u2, u3, u4, u5)) z false).2 ⟨rfl, fun i hi => by rw [sg i hi]⟩
 have val : ∀ j, j < 6 → (hlessS false (six6 (u0, u1, u2, u3, u4, u5)) z).1 j = six6 (u0, u1, u2, u3, u4, u5) j - z j := fun j hj => by rw [less_val fl hj, sg j hj]
 refine ⟨(hlessS false (six6 (u0, u1, u2, u3, u4, u5)) z).1, pair_of fl, ⟨rv u0 u1 u2, rv u3 u4 u5, c1, c2, ?_, ?_⟩, fun j hj => by rw [val j hj]; exact yb j hj⟩
 ·rw [val 0 (by omega), val 1 (by omega), val 2 (by omega), dv 0 (by omega), dv 1 (by omega), dv 2 (by omega), e1]
  show rv (u0 - z 0) (u1 - z 1) (u2 - z 2) = _
  unfold rv
  simp only [ad, sb3, qr_sub]
  congr 1 <;> grind
 ·rw [val 3 (by omega), val 4 (by omega), val 5 (by omega), dv 3 (by omega), dv 4 (by omega), dv 5 (by omega), e2]
  show rv (u3 - z 3) (u4 - z 4) (u5 - z 5) = _
  unfold rv
  simp only [ad, sb3, qr_sub]
  congr 1 <;> grind
end Go.Proofs.Ytooehgijllihdaa.Ff
namespace Go.Proofs.Ytooehgijllihdaa.Ff
open Go.RowKit
theorem msum_big {p q : Nat → Int} : ∀ {n : Nat}, n ≤ 6 → (∀ t, t < n → Ab (p t) 329853488332800) → (∀ t, t < n → Ab (q t) 1099511627776) → ∃ s, msumS_l0 p q (0, false) n = (s, false) ∧ Nr (qr s) (sr (fun t => qr (p t) * qr (q t)) n) (n / 2199023255552) ∧ Ab s (n * 329853488332801)
 | 0, _, _, _ => ⟨0, rfl, ⟨by simp only [sr]; rw [qr_zero']; push_cast; grind, by simp only [sr]; rw [qr_zero']; push_cast; grind⟩, ⟨by omega, by omega⟩⟩
 | n + 1, hn, hp, hq => by
  obtain ⟨s, e, nr, b⟩ := msum_big (n := n) (by omega) (fun t ht => hp t (by omega)) (fun t ht => hq t (by omega))
  obtain ⟨m, em, hm⟩ := mul_near (hp n (by omega)) (hq n (by omega)) (by decide) (by decide)
  have mb : Ab m 329853488332801 := prod_bd (hp n (by omega)) (hq n (by omega)) hm (by decide)
  have sb : Ab s 1979120929996806 := b.le (by omega)
  refine ⟨s + m, ?_, ?_, (b.add mb).le (by push_cast; omega)⟩
  ·unfold msumS_l0
   rw [e]
   dsimp only
   rw [em]
   dsimp only
   rw [add_near sb mb (by omega) (by omega) (by omega)]
  ·have a := nr.add (mul_qn hm)
   rw [qr_add]
   refine ⟨?_, ?_⟩
   ·have := a.hi; simp only [sr]; push_cast; grind
   ·have := a.lo; simp only [sr]; push_cast; grind
theorem sky_is : hunitsS false skyF = ((1099511627776, 0, 0, 0, 1099511627776, 0), false) := by
 have a : (skyF 0, skyF 1, skyF 2) = ((1099511627776 : Int), (0 : Int), (0 : Int)) := rfl
 have b : (skyF 3, skyF 4, skyF 5) = ((0 : Int), (1099511627776 : Int), (0 : Int)) := rfl
 unfold hunitsS
 rw [a, b]
 dsimp only
 rw [sky_units.1]
 dsimp only
 rw [sky_units.2]
theorem Bd.md {g x vw z d S C l y : Nat → Int} {k : Nat → Nat → Int} {v1 v2 : R3} {up lo : Rat} (B : Bd g x vw z d S C l k v1 v2 up lo) (yb : ∀ j, j < 6 → Ab (y j) 1099511627776) : Md g C S l y k :=
 ⟨B.G, c_zero B.P B.V B.M, c_bd B.P B.V B.M B.L, yb, B.H.gb B.hu B.hl⟩
def Joint (x d y : Nat → Int) (xe : R3) (Vp : Rat) : Prop := ∀ a b1 b2, (dt a xe - (dt b1 (rv (y 0) (y 1) (y 2)) + dt b2 (rv (y 3) (y 4) (y 5)))) * (dt a xe - (dt b1 (rv (y 0) (y 1) (y 2)) + dt b2 (rv (y 3) (y 4) (y 5)))) ≤ Vp * JJ x d a b1 b2
theorem Bd.chi_is {g x vw z d S C l y : Nat → Int} {k G : Nat → Nat → Int} {v1 v2 xe : R3} {up lo Vp : Rat} (B : Bd g x vw z d S C l k v1 v2 up lo) (rel : Rel l G) (W : Wh (mt S) G) (yb : ∀ j, j < 6 → Ab (y j) 1099511627776) (hV : Vp ≤ 4) (joint : Joint x d y xe Vp) :
  ∃ b : Nat → Int, zSolve6 false l y = (b, false) ∧ ∃ chi : Nat → Int, zApply6 false (matF y) b = (chi, false) ∧ chi 0 ≤ 32985348833280 := by
 have D := s_pd B.M B.L
 obtain ⟨b, t, e, ub, h1, h2⟩ := solve_pd D (by decide +kernel) W rel yb
 have X : ∀ j, j < 6 → qr (b j) ≤ 110000 ∧ -110000 ≤ qr (b j) := fun j hj => by
  have a := qr_ab (ub j hj)
  have e : qr 120946279055360000 = 110000 := by decide +kernel
  rw [e] at a; exact a
 have res : ∀ j, j < 6 → Nr (rowm (s6 S) 6 (fun s => qr (b s)) j) (qr (y j)) (4620021 / 1099511627776) := fun j hj => by
  have r := solve_res (m := S) (b := y) D W h1 h2 X hj
  have e : ((21 : Rat) + 42 * 110000) / 1099511627776 = 4620021 / 1099511627776 := by decide +kernel
  rw [e] at r; exact r
 obtain ⟨c5, nb⟩ := B.chi hV joint (fun s => qr (b s)) res
 have bb : ∀ j, j < 6 → Ab (b j) 329853488332800 := fun j hj => by
  have t := sr_term (f := fun j => qr (b j) * qr (b j)) (n := 6) (fun j _ => sq_nn _) hj
  have e : nrm 6 (fun s => qr (b s)) = sr (fun j => qr (b j) * qr (b j)) 6 := rfl
  rw [e] at nb
  have a := ab_of_sq (x := qr (b j)) (y := 300) (by decide +kernel) (by grind)
  exact ab_of (up := 300) (by decide +kernel) a.1 a.2
 refine ⟨b, by rw [← mSolve6_eq]; exact e, ?_⟩
 obtain ⟨s, es, ns, _⟩ := msum_big (p := b) (q := y) (Nat.le_refl 6) bb yb
 have es' : msumS_l0 y b (0, false) 6 = (s, false) := by rw [sum_comm]; exact es
 have fl := (row_good y b false).2 ⟨rfl, by rw [es']⟩
 refine ⟨(zApply6 false (matF y) b).1, pair_of fl, ?_⟩
 rw [row_val fl, es']
 have h := ns.hi
 apply Rat.intCast_le_intCast.1
 have en : (s : Rat) = 1099511627776 * qr s := by unfold qr; grind
 rw [en]
 push_cast at h ⊢
 grind
theorem meet_eval {g x vw z d S C l y body : Nat → Int} {k G : Nat → Nat → Int} {v1 v2 xe : R3} {up lo Vp : Rat} {u0 u1 u2 u3 u4 u5 : Int} (B : Bd g x vw z d S C l k v1 v2 up lo) (ex : hPointsS false g = (x, false)) (ev : hviewedS false g x skyF = (vw, false)) (el : zRoot6 false S = (l, false)) (rel : Rel l G) (W : Wh (mt S) G)
  (eu : hunitsS false body = ((u0, u1, u2, u3, u4, u5), false)) (ey : hlessS false (six6 (u0, u1, u2, u3, u4, u5)) z = (y, false)) (yb : ∀ j, j < 6 → Ab (y j) 1099511627776) (hV : Vp ≤ 4) (joint : Joint x d y xe Vp) (hd : ∀ i, i < 3 → led k y i ≤ 1 / 2 ∧ -(1 / 2) ≤ led k y i) :
  ∃ g' chi d0 d1 d2 f0 f1 f2 f3 sg, hMeetS false g skyF body = ((g', chi, true), false) ∧ Out g C y k g' d0 d1 d2 f0 f1 f2 f3 sg := by
 obtain ⟨b, eb, ch, ec, hc⟩ := B.chi_is rel W yb hV joint
 obtain ⟨g', d0, d1, d2, f0, f1, f2, f3, sg, em, O⟩ := met_is B.H (B.md yb) hd
 obtain ⟨r1, r3, r4, r5, r7, r9, r10, r12, r14, r15, r16, r17, r19, r20, r21, e1, e3, e4, e5, e7, e9, e10, e12, e14, e15, e16, e17, e19, e20, e21, hm⟩ := hMeet_chain false g skyF body
 obtain ⟨s0, es0, es⟩ := B.M.es
 rw [ex] at e1; subst e1
 dsimp only at e3
 rw [sky_is] at e3; subst e3
 have e4' : r4 = hviewedS false g x skyF := e4
 rw [ev] at e4'; subst e4'
 dsimp only at e5
 rw [B.M.em] at e5; subst e5
 dsimp only at e7
 rw [B.M.eb] at e7; subst e7
 dsimp only at e9
 rw [es0] at e9; subst e9
 dsimp only at e10
 rw [es] at e10; subst e10
 dsimp only at e12
 rw [B.M.ec] at e12; subst e12
 dsimp only at e14
 rw [eu] at e14; subst e14
 have e15' : r15 = (u0, u1, u2, u3, u4, u5) := e15
 subst e15'
 have e16' : r16 = hlessS false (six6 (u0, u1, u2, u3, u4, u5)) z := e16
 rw [ey] at e16'; subst e16'
 dsimp only at e17
 rw [el] at e17; subst e17
 dsimp only at e19
 rw [eb] at e19; subst e19
 dsimp only at e20
 rw [ec] at e20; subst e20
 dsimp only at e21
 rw [em] at e21; subst e21
 dsimp only at hm
 rw [if_neg (by omega), if_neg (by decide)] at hm
 exact ⟨g', ch 0, d0, d1, d2, f0, f1, f2, f3, sg, hm, O⟩
end Go.Proofs.Ytooehgijllihdaa.Ff
namespace Go.Proofs.Ytooehgijllihdaa.Ff
open Go.RowKit
theorem Bd.jk_le {g x vw z d S C l : Nat → Int} {k : Nat → Nat → Int} {v1 v2 c1 c2 a : R3} {up lo U0 : Rat} (B : Bd g x vw z d S C l k v1 v2 up lo) (hJ : JJ x d a c1 c2 ≤ U0 * dt a a) : Jk x d k a ≤ (1 + 3 / 10000) * (U0 + 10000 / 1099511627776) * dt a a := by
 have l := nxt_least (K := kq k) B.H B.P B.V B.M B.G.left a c1 c2
 have nc := (B.near a c1 c2).hi
 have nk := (B.near a (kb1 (kq k) a) (kb2 (kq k) a)).lo
 have bk := JJ_b x d a (kb1 (kq k) a) (kb2 (kq k) a)
 have bc := JJ_b x d a c1 c2
 have a0 := dt_nn a
 have j0 := JJ_nn x d a c1 c2
 unfold Jk
 have j1 := JJ_nn x d a (kb1 (kq k) a) (kb2 (kq k) a)
 generalize JJ x d a (kb1 (kq k) a) (kb2 (kq k) a) = J at *
 generalize JJ x d a c1 c2 = J' at *
 generalize dt (kb1 (kq k) a) (kb1 (kq k) a) = K1 at *
 generalize dt (kb2 (kq k) a) (kb2 (kq k) a) = K2 at *
 generalize dt c1 c1 = C1 at *
 generalize dt c2 c2 = C2 at *
 generalize quad (m9 g C S) 9 (w9 a c1 c2) = Q' at *
 generalize quad (m9 g C S) 9 (w9 a (kb1 (kq k) a) (kb2 (kq k) a)) = Q at *
 generalize dt a a = A at *
 clear B
 have h1 : J ≤ J' + 6681 / 1099511627776 * (16384 * J) + 6681 / 1099511627776 * (16384 * J') + 6762 / 1099511627776 * A := by grind
 have h3 : 9999 / 10000 * J ≤ 10001 / 10000 * J' + 6762 / 1099511627776 * A := by grind
 have h4 : J ≤ (1 + 3 / 10000) * J' + (1 + 3 / 10000) * (10000 / 1099511627776 * A) := by grind
 grind
theorem Bd.led_le {g x vw z d S C l y : Nat → Int} {k : Nat → Nat → Int} {v1 v2 xe : R3} {up lo U0 Vp : Rat} (B : Bd g x vw z d S C l k v1 v2 up lo) (joint : Joint x d y xe Vp) (V0 : 0 ≤ Vp) (hch : ∀ a, ∃ c1 c2, JJ x d a c1 c2 ≤ U0 * dt a a) (hb : Vp * ((1 + 3 / 10000) * (U0 + 10000 / 1099511627776)) ≤ 1 / 25) (hx : dt xe xe ≤ 1 / 25) : ∀ i, i < 3 → led k y i ≤ 1 / 2 ∧ -(1 / 2) ≤ led k y i := by
 have L := len_le (d := sb3 xe ⟨led k y 0, led k y 1, led k y 2⟩) (V := Vp) (up := (1 + 3 / 10000) * (U0 + 10000 / 1099511627776)) (A := Jk x d k) V0 (fun a => by
  have j := joint a (kb1 (kq k) a) (kb2 (kq k) a)
  rw [kb_led k y a] at j
  have e : dt a (sb3 xe ⟨led k y 0, led k y 1, led k y 2⟩) = dt a xe - dt a ⟨led k y 0, led k y 1, led k y 2⟩ := by simp only [dt, sb3]; grind
  rw [e]; exact j) (fun a => by
  obtain ⟨c1, c2, h⟩ := hch a
  exact B.jk_le h)
 have c1 := comp_le (B := 1 / 5) (by decide +kernel) (show dt xe xe ≤ 1 / 5 * (1 / 5) by grind)
 have c2 := comp_le (B := 1 / 5) (by decide +kernel) (show dt (sb3 xe ⟨led k y 0, led k y 1, led k y 2⟩) (sb3 xe ⟨led k y 0, led k y 1, led k y 2⟩) ≤ 1 / 5 * (1 / 5) by grind)
 simp only [sb3] at c2
 intro i hi
 rcases (show i = 0 ∨ i = 1 ∨ i = 2 by omega) with rfl | rfl | rfl
 ·have := c1.1; have := c2.1; constructor <;> grind
 ·have := c1.2.1; have := c2.2.1; constructor <;> grind
 ·have := c1.2.2; have := c2.2.2; constructor <;> grind
end Go.Proofs.Ytooehgijllihdaa.Ff
namespace Go.Proofs.Ytooehgijllihdaa.Ff
open Go.RowKit
theorem turn_all {x d : R3} {X Bd pp k2 : Rat} (hX : dt x x ≤ X) (hB : dt (sb3 x d) (sb3 x d) ≤ Bd) (p0 : 0 ≤ pp) (hp : X * Bd ≤ pp * pp) (hden : 0 < 256 - 32 * pp) (k0 : 0 ≤ k2)
  (hk : 16384 * X + 2 * ((48 * X + 32 * pp + X * (2 * X + 2 * Bd)) * (48 * X + 32 * pp + X * (2 * X + 2 * Bd))) + 2 * (256 * (8 * X + 2 * Bd)) * X ≤ k2 * ((256 - 32 * pp) * (256 - 32 * pp))) :
  0 < den x d ∧ 256 - 32 * pp ≤ den x d ∧ dt d d ≤ 2 * X + 2 * Bd ∧ ∃ x', sc (den x d) x' = sc 16 (cmp x d) ∧ dt (sb3 x' (sb3 x d)) (sb3 x' (sb3 x d)) ≤ k2 * dt (sb3 x d) (sb3 x d) := by
 have x0 := dt_nn x; have b0 := dt_nn (sb3 x d); have d0 := dt_nn d
 have X0 : 0 ≤ X := by grind
 have B0 : 0 ≤ Bd := by grind
 have cs := cauchy x (sb3 x d)
 have xd : dt x d = dt x x - dt x (sb3 x d) := by simp only [dt, sb3]; grind
 have m1 : dt x x * dt (sb3 x d) (sb3 x d) ≤ X * Bd := by
  have a := Rat.mul_le_mul_of_nonneg_right hX b0
  have b := mul_le_l hB X0
  grind
 have pr := ab_of_sq p0 (show dt x (sb3 x d) * dt x (sb3 x d) ≤ pp * pp by grind)
 have dd : dt d d ≤ 2 * X + 2 * Bd := by
  have e : d = sb3 x (sb3 x d) := by obtain ⟨d1, d2, d3⟩ := d; simp only [sb3]; congr 1 <;> grind
  have s := sq_two_s x (sb3 x d)
  rw [← e] at s
  grind
 have xdd : 0 ≤ dt x x * dt d d ∧ dt x x * dt d d ≤ X * (2 * X + 2 * Bd) := by
  have a := Rat.mul_le_mul_of_nonneg_right hX d0
  have b := mul_le_l dd X0
  have c := Rat.mul_nonneg x0 d0
  exact ⟨c, by grind⟩
 have de : den x d = 256 + dt x x * dt d d + 32 * dt x d := rfl
 have dl : 256 - 32 * pp ≤ den x d := by rw [de, xd]; grind
 have dp : 0 < den x d := by grind
 have h1 : (16 * dt x x + 32 * dt x d + dt x x * dt d d) * (16 * dt x x + 32 * dt x d + dt x x * dt d d) ≤ (48 * X + 32 * pp + X * (2 * X + 2 * Bd)) * (48 * X + 32 * pp + X * (2 * X + 2 * Bd)) := by
  apply abs_sq
  ·rw [xd]; grind
  ·rw [xd]; grind
 have h2 : (16 * (2 * dt x (sb3 x d) - dt (sb3 x d) (sb3 x d))) * (16 * (2 * dt x (sb3 x d) - dt (sb3 x d) (sb3 x d))) ≤ 256 * (8 * X + 2 * Bd) * dt (sb3 x d) (sb3 x d) := by
  have s := sq_two (2 * dt x (sb3 x d)) (-dt (sb3 x d) (sb3 x d))
  have a := Rat.mul_le_mul_of_nonneg_right hX b0
  have b := Rat.mul_le_mul_of_nonneg_right hB b0
  grind
 have E := ext_le hX h1 h2
 have i1 : den x d * (den x d)⁻¹ = 1 := by grind
 have hx' : sc (den x d) (sc (16 * (den x d)⁻¹) (cmp x d)) = sc 16 (cmp x d) := by
  generalize (den x d)⁻¹ = i at *
  generalize den x d = D at *
  generalize cmp x d = c
  simp only [sc]
  congr 1 <;> grind
 refine ⟨dp, dl, dd, sc (16 * (den x d)⁻¹) (cmp x d), hx', turn_le rfl dp hx' E ?_⟩
 have q := sq_le_sq (Rat.le_of_lt hden) dl
 have m := mul_le_l q k0
 grind
end Go.Proofs.Ytooehgijllihdaa.Ff
namespace Go.Proofs.Ytooehgijllihdaa.Ff
open Go.RowKit
structure Ri (u : R4) (g : Nat → Int) (xe : R3) (V up lo X e : Rat) : Prop where
 st : St g up lo
 er : Er u (q4 (g 0) (g 1) (g 2) (g 3)) xe e
 inv : ∀ a, dt a xe * dt a xe ≤ V * fA g a
 len : dt xe xe ≤ X
structure Bo (a0 a1 a2 a3 : Int) (b : Nat → Int) : Prop where
 U : U4 a0 a1 a2 a3
 e1 : qTurnS false (a0, a1, a2, a3) (1099511627776, 0, 0) = ((b 0, b 1, b 2), false)
 e2 : qTurnS false (a0, a1, a2, a3) (0, 1099511627776, 0) = ((b 3, b 4, b 5), false)
 dirs : Dirs (rv (b 0) (b 1) (b 2)) (rv (b 3) (b 4) (b 5)) (200 / 1099511627776)
theorem axis1 : dt (rv 1099511627776 0 0) (rv 1099511627776 0 0) ≤ 1 := by decide +kernel
theorem axis2 : dt (rv 0 1099511627776 0) (rv 0 1099511627776 0) ≤ 1 := by decide +kernel
theorem turned_near {a0 a1 a2 a3 e0 e1 e2 b0 b1 b2 : Int} (U : U4 a0 a1 a2 a3) (h0 : Ab e0 17592186044416) (h1 : Ab e1 17592186044416) (h2 : Ab e2 17592186044416) (e : qTurnS false (a0, a1, a2, a3) (e0, e1, e2) = ((b0, b1, b2), false)) : W3 (rv b0 b1 b2) (trn (rv a0 a1 a2) (qr a3) (rv e0 e1 e2)) (16 / 1099511627776) := by
 obtain ⟨r0, r1, r2, er, n⟩ := turn_q U h0 h1 h2
 rw [e] at er
 simp only [Prod.mk.injEq, and_true] at er
 obtain ⟨rfl, rfl, rfl⟩ := er
 exact (W3.nr n).up (by grind)
theorem seen_q {a0 a1 a2 a3 g0 g1 g2 g3 u0 u1 u2 b0 b1 b2 y0 y1 y2 e0 e1 e2 : Int} {xe : R3} {e t1 : Rat} (U : U4 a0 a1 a2 a3) (Q : U4 g0 g1 g2 g3) (h0 : Ab e0 17592186044416) (h1 : Ab e1 17592186044416) (h2 : Ab e2 17592186044416) (le : dt (rv e0 e1 e2) (rv e0 e1 e2) ≤ 1) (E : Er (q4 a0 a1 a2 a3) (q4 g0 g1 g2 g3) xe e)
  (eb : qTurnS false (a0, a1, a2, a3) (e0, e1, e2) = ((b0, b1, b2), false)) (ey : qTurnS false (g0, g1, g2, g3) (e0, e1, e2) = ((y0, y1, y2), false)) (nu : Nr3 (rv u0 u1 u2) (rv b0 b1 b2) (112 / 1099511627776)) (ht : 3 / 23 * e + 282 / 1099511627776 ≤ t1) : W3 (rv u0 u1 u2) (hxv xe (rv y0 y1 y2)) t1 := by
 have A := W3.nr nu
 have B := turned_near U h0 h1 h2 eb
 have C := (turned_near Q h0 h1 h2 ey).swap.hx xe
 have D := body_near (v := rv e0 e1 e2) E (u4_q U) (u4_q Q) le
 exact (((A.thru B).thru D).thru C).up (by grind)
theorem wn_u4 {a0 a1 a2 a3 : Int} (U : U4 a0 a1 a2 a3) : Wn (q4 a0 a1 a2 a3) (1 + 7 / 1099511627776) := ⟨by decide +kernel, by
 have h := (u4_q U).hi
 have e : n4 (q4 a0 a1 a2 a3) = dt (rv a0 a1 a2) (rv a0 a1 a2) + qr a3 * qr a3 := rfl
 rw [e]; grind⟩
theorem round {a0 a1 a2 a3 : Int} {body g : Nat → Int} {xe : R3} {V up lo X e Vp GG U0 t V3 up2 lo2 pp kap nu V2 X2 e2 t1 : Rat} (Bo : Bo a0 a1 a2 a3 body) (R : Ri (q4 a0 a1 a2 a3) g xe V up lo X e) (hu : up ≤ 1 / 60) (hl : 12000000 / 1099511627776 ≤ lo) (hX : X ≤ 1 / 100) (ht : 3 / 23 * e + 282 / 1099511627776 ≤ t1) (t10 : t1 ≤ 1 / 10)
  (hj : ∀ x vw z d S C l k v1 v2 y, Bd g x vw z d S C l k v1 v2 up lo → Yv d y v1 v2 xe t1 → Joint x d y xe Vp)
  (hlow : ∀ x vw z d S C l k v1 v2, Bd g x vw z d S C l k v1 v2 up lo → ∀ a b1 b2, dt a a ≤ GG * JJ x d a b1 b2)
  (hch : ∀ x vw z d S C l k v1 v2, Bd g x vw z d S C l k v1 v2 up lo → ∀ a, ∃ c1 c2, JJ x d a c1 c2 ≤ U0 * dt a a)
  (V0 : 0 ≤ Vp) (V4 : Vp ≤ 4) (hb : Vp * ((1 + 3 / 10000) * (U0 + 10000 / 1099511627776)) ≤ 1 / 25) (h943 : 1943 / 1099511627776 * (GG + 16384) ≤ t)
  (V30 : 0 < V3) (h3 : (1 + 1 / 1000000) * Vp + 1000001 * (27 / 1208925819614629174706176 * GG) ≤ V3 * (1 - t)) (l20 : 0 ≤ lo2) (hlo : lo2 * GG ≤ 1 - t) (hup : (1 + 3 / 10000) * (U0 + 10000 / 1099511627776) ≤ up2)
  (p0 : 0 ≤ pp) (hp : X * (V3 * up2) ≤ pp * pp) (hden : 0 < 256 - 32 * pp) (k0 : 0 ≤ kap)
  (hk : 16384 * X + 2 * ((48 * X + 32 * pp + X * (2 * X + 2 * (V3 * up2))) * (48 * X + 32 * pp + X * (2 * X + 2 * (V3 * up2)))) + 2 * (256 * (8 * X + 2 * (V3 * up2))) * X ≤ kap * kap * ((256 - 32 * pp) * (256 - 32 * pp)))
  (n0 : 0 < nu) (hn : kap * kap * up2 ≤ nu * nu * lo2) (hV2 : V3 * ((1 + nu) * (1 + nu)) ≤ V2) (hX2 : (1 + kap) * (1 + kap) * (V3 * up2) ≤ X2) (hd1 : 2 * X + 2 * (V3 * up2) ≤ 1) (e0 : 0 ≤ e) (e20 : 0 ≤ e2)
  (he : 16 * ((16 + X) * (1800 / 1099511627776)) + 16 * ((16 + (2 * X + 2 * (V3 * up2))) * e) ≤ (256 - 32 * pp) * e2) :
  ∃ g' chi xe', hMeetS false g skyF body = ((g', chi, true), false) ∧ Ri (q4 a0 a1 a2 a3) g' xe' V2 up2 lo2 X2 e2 := by
 obtain ⟨x, vw, z, d, S, C, l, G, k, y0, y1, y2, w0, w1, w2, ex, ev, ey, ew, el, rel, W, B⟩ := bd_of R.st hu hl
 have D := Bo.dirs
 obtain ⟨u0, u1, u2, u3, u4, u5, eu, n1, n2⟩ := bodies (b := body) ⟨by have := D.a; grind, by have := D.a'; grind⟩ ⟨by have := D.b; grind, by have := D.b'; grind⟩
 have T : Ab (1099511627776 : Int) 17592186044416 := ⟨by decide, by decide⟩
 have Z : Ab (0 : Int) 17592186044416 := ⟨by decide, by decide⟩
 have c1 := seen_q Bo.U R.st.q T Z Z axis1 R.er Bo.e1 ey n1 ht
 have c2 := seen_q Bo.U R.st.q Z T Z axis2 R.er Bo.e2 ew n2 ht
 have xl := R.len
 obtain ⟨y, eY, Y, yb⟩ := seen_less B.V B.M B.L (show dt xe xe ≤ 1 / 100 by grind) t10 c1 c2
 have joint := hj _ _ _ _ _ _ _ _ _ _ _ B Y
 have hled := B.led_le joint V0 (hch _ _ _ _ _ _ _ _ _ _ B) hb (by grind)
 obtain ⟨g', chi, d0, d1, d2, f0, f1, f2, f3, sg, em, O⟩ := meet_eval B ex ev el rel W eu eY yb V4 joint hled
 have N := B.next O (hlow _ _ _ _ _ _ _ _ _ _ B) h943
 have Lo := N.lo l20 hlo
 have Up : ∀ a, fA g' a ≤ up2 * dt a a := fun a => by
  obtain ⟨c1, c2, h⟩ := hch _ _ _ _ _ _ _ _ _ _ B a
  exact B.up2 O h hup
 have off := N.off O joint (Rat.le_of_lt V30) h3
 have dl := len_le (Rat.le_of_lt V30) off Up
 obtain ⟨dp, dn, dd, x', hx', hk'⟩ := turn_all xl dl p0 hp hden (sq_nn kap) hk
 refine ⟨g', chi, x', em, ⟨⟨O.q, O.b4, O.b5, O.b6, O.sym, O.cross, O.diag, Up, Lo⟩, ?_, fun a => ?_, ?_⟩⟩
 ·have hf : Wn (s4 (c4 (16 + dt (rv d0 d1 d2) (rv d0 d1 d2)) (q4 f0 f1 f2 f3)) (fx (rv d0 d1 d2))) (256 / 1099511627776) := (Wn.of (by decide +kernel) O.f O.fs).up (by decide +kernel)
  have hq : Wn (s4 (q4 (g' 0) (g' 1) (g' 2) (g' 3)) (c4 sg (m4 (q4 f0 f1 f2 f3) (q4 (g 0) (g 1) (g 2) (g 3))))) (86 / 1099511627776) := (Wn.of (by decide +kernel) O.qv O.qs).up (by decide +kernel)
  refine er_next R.er (by grind) hf hq (wn_u4 R.st.q) O.sgn dp hx' e20 ?_
  have m1 := Rat.mul_le_mul_of_nonneg_right dn e20
  have m2 := Rat.mul_le_mul_of_nonneg_right dd e0
  grind
 ·have o := off_le V30 off dl Lo hk' n0 hn a
  have f0 : 0 ≤ fA g' a := by have := Lo a; have := Rat.mul_nonneg l20 (dt_nn a); grind
  have m := Rat.mul_le_mul_of_nonneg_right hV2 f0
  grind
 ·have ll := long_le k0 dl hk'
  grind
end Go.Proofs.Ytooehgijllihdaa.Ff
namespace Go.Proofs.Ytooehgijllihdaa.Ff
open Go.RowKit
theorem Bd.fc {g x vw z d S C l : Nat → Int} {k : Nat → Nat → Int} {v1 v2 : R3} {up lo D sg : Rat} (B : Bd g x vw z d S C l k v1 v2 up lo) (hD : 7 * up + 567 / 1099511627776 ≤ D) (hs : 3 / 16 * D * (3 / 16 * D) ≤ sg) : Fc x D 1 sg := by
 have le : ∀ k, k = 1 ∨ k = 2 ∨ k = 3 → dt (pv x k) (pv x k) ≤ D := fun k hk => by have := lens B.H B.P B.V B.M hk; grind
 refine ⟨le, fun k hk => ?_⟩
 have r := sfac_rng (dt_nn (pv x k))
 have l := le k hk
 have p := dt_nn (pv x k)
 have q := abs_sq (x := sfac (dt (pv x k) (pv x k)) - 1) (t := 3 / 16 * D) (by grind) (by grind)
 grind
theorem lens_low {g x vw z d S C : Nat → Int} {v1 v2 : R3} {up lo : Rat} (H : St g up lo) (P : Pts g x) (V : Vws x vw v1 v2) (M : Mns g x vw z d S C) {k : Nat} (hk : k = 1 ∨ k = 2 ∨ k = 3) : 21 * lo - 14 * up - 2835 / 1099511627776 ≤ dt (pv x k) (pv x k) := by
 have tr := frm_trace (vwOf (X9 x d) 1) (vwOf (X9 x d) 2) (vwOf (X9 x d) 3)
 have n1 := (frm_near P V M ⟨1, 0, 0⟩).lo; have n2 := (frm_near P V M ⟨0, 1, 0⟩).lo; have n3 := (frm_near P V M ⟨0, 0, 1⟩).lo
 have u1 := H.lo ⟨1, 0, 0⟩; have u2 := H.lo ⟨0, 1, 0⟩; have u3 := H.lo ⟨0, 0, 1⟩
 have e1 : dt (⟨1, 0, 0⟩ : R3) ⟨1, 0, 0⟩ = 1 := by simp only [dt]; grind
 have e2 : dt (⟨0, 1, 0⟩ : R3) ⟨0, 1, 0⟩ = 1 := by simp only [dt]; grind
 have e3 : dt (⟨0, 0, 1⟩ : R3) ⟨0, 0, 1⟩ = 1 := by simp only [dt]; grind
 rw [e1] at n1 u1; rw [e2] at n2 u2; rw [e3] at n3 u3
 rw [vw_p, vw_p, vw_p] at tr
 have l1 := lens H P V M (k := 1) (Or.inl rfl); have l2 := lens H P V M (k := 2) (Or.inr (Or.inl rfl)); have l3 := lens H P V M (k := 3) (Or.inr (Or.inr rfl))
 generalize frm (vwOf (X9 x d) 1) (vwOf (X9 x d) 2) (vwOf (X9 x d) 3) ⟨1, 0, 0⟩ = A1 at *
 generalize frm (vwOf (X9 x d) 1) (vwOf (X9 x d) 2) (vwOf (X9 x d) 3) ⟨0, 1, 0⟩ = A2 at *
 generalize frm (vwOf (X9 x d) 1) (vwOf (X9 x d) 2) (vwOf (X9 x d) 3) ⟨0, 0, 1⟩ = A3 at *
 rcases hk with rfl | rfl | rfl <;> grind
def s1 : Rat := 16 * (16 - 7 / 64) / ((16 + 7 / 64) * (16 + 7 / 64))
theorem sfac_near {D : Rat} (h1 : D ≤ 7 / 64 + 2835 / 1099511627776) (h2 : 7 / 64 - 2835 / 1099511627776 ≤ D) : (sfac D - s1) * (sfac D - s1) ≤ 709 / 1099511627776 * (709 / 1099511627776) := by
 have D0 : 0 ≤ D := by grind
 have g := gg_ge D0
 have i1 : ((16 + D) * (16 + D)) * ((16 + D) * (16 + D))⁻¹ = 1 := by grind
 have e : ((16 + D) * (16 + D)) * sfac D = 16 * (16 - D) := by
  unfold sfac
  generalize (16 + D) * (16 + D) = G at *
  grind
 have sv : s1 ≤ 1 ∧ 97 / 100 ≤ s1 := by unfold s1; decide +kernel
 have es : ((16 + 7 / 64) * (16 + 7 / 64)) * s1 = 16 * (16 - 7 / 64) := by unfold s1; decide +kernel
 have key : ((16 + D) * (16 + D)) * (sfac D - s1) = (7 / 64 - D) * (16 + s1 * (32 + D + 7 / 64)) := by grind
 have b1 : (7 / 64 - D) ≤ 2835 / 1099511627776 ∧ -(2835 / 1099511627776) ≤ (7 / 64 - D) := by constructor <;> grind
 have w : 16 + s1 * (32 + D + 7 / 64) ≤ 49 ∧ 0 ≤ 16 + s1 * (32 + D + 7 / 64) := by
  have m1 := Rat.mul_le_mul_of_nonneg_right sv.1 (show 0 ≤ 32 + D + 7 / 64 by grind)
  have m2 := Rat.mul_nonneg (show 0 ≤ s1 by grind) (show 0 ≤ 32 + D + 7 / 64 by grind)
  constructor <;> grind
 generalize 16 + s1 * (32 + D + 7 / 64) = w' at *
 generalize sfac D - s1 = y at *
 generalize (16 + D) * (16 + D) = G at *
 generalize 7 / 64 - D = dl at *
 apply abs_sq
 ·apply Classical.byContradiction; intro c
  have m1 := Rat.mul_le_mul_of_nonneg_right g (show 0 ≤ y by grind)
  have m2 := Rat.mul_nonneg (show 0 ≤ 2835 / 1099511627776 - dl by grind) w.2
  grind
 ·apply Classical.byContradiction; intro c
  have m1 := Rat.mul_le_mul_of_nonneg_right g (show 0 ≤ -y by grind)
  have m2 := Rat.mul_nonneg (show 0 ≤ 2835 / 1099511627776 + dl by grind) w.2
  grind
theorem Bd.fc1 {g x vw z d S C l : Nat → Int} {k : Nat → Nat → Int} {v1 v2 : R3} (B : Bd g x vw z d S C l k v1 v2 (1 / 64) (1 / 64)) : Fc x (7 / 64 + 567 / 1099511627776) s1 (709 / 1099511627776 * (709 / 1099511627776)) := by
 have le : ∀ k, k = 1 ∨ k = 2 ∨ k = 3 → dt (pv x k) (pv x k) ≤ 7 / 64 + 567 / 1099511627776 := fun k hk => by have := lens B.H B.P B.V B.M hk; grind
 refine ⟨le, fun k hk => sfac_near ?_ ?_⟩
 ·have := le k hk; grind
 ·have := lens_low B.H B.P B.V B.M hk; grind
end Go.Proofs.Ytooehgijllihdaa.Ff
namespace Go.Proofs.Ytooehgijllihdaa.Ff
open Go.RowKit
theorem sx_first {D X : Rat} (h0 : 0 ≤ D) (h : D ≤ X) (hX : X ≤ 1 / 100) : (sfac D - s1) * (sfac D - s1) ≤ (1 - s1) * (1 - s1) := by
 have r := sfac_rng h0
 have sv : s1 ≤ 98 / 100 := by decide +kernel
 exact abs_sq (by grind) (by grind)
theorem sx_later {D X : Rat} (h0 : 0 ≤ D) (h : D ≤ X) : (sfac D - 1) * (sfac D - 1) ≤ 3 / 16 * X * (3 / 16 * X) := by
 have r := sfac_rng h0
 exact abs_sq (by grind) (by grind)
theorem le_J {A V W J : Rat} (h : A ≤ V * J) (k : V ≤ W) (j : 0 ≤ J) : A ≤ W * J := by
 have := Rat.mul_le_mul_of_nonneg_right k j; grind
theorem round1 {a0 a1 a2 a3 : Int} {body g : Nat → Int} {xe : R3} (Bo : Bo a0 a1 a2 a3 body) (R : Ri (q4 a0 a1 a2 a3) g xe (12 / 25) (1 / 64) (1 / 64) (3 / 400) (1800 / 1099511627776)) :
  ∃ g' chi xe', hMeetS false g skyF body = ((g', chi, true), false) ∧ Ri (q4 a0 a1 a2 a3) g' xe' (212171 / 100000) (8377 / 12500000) (50701 / 1000000000) (11547 / 10000000) (1639 / 500000000000) :=
 round (Vp := (158239 / 100000)) (GG := (197221 / 10)) (U0 := (33497 / 50000000)) (t := (639 / 10000000)) (V3 := (633 / 400)) (pp := (2821 / 1000000)) (kap := (4343 / 100000)) (nu := (1579 / 10000)) (t1 := (471 / 1000000000000)) Bo R (by decide +kernel) (by decide +kernel) (by decide +kernel) (by decide +kernel) (by decide +kernel)
  (fun x vw z d S C l k v1 v2 y B Y a b1 b2 => le_J (B.first (V1 := (480001 / 1000000)) (q := (3 / 625000000)) (D := (7 / 64 + 567 / 1099511627776)) (s := s1) (sg := (709 / 1099511627776 * (709 / 1099511627776))) (X := (3 / 400)) (sx := (257 / 625000)) (n := (3519 / 10000)) (e := (1 / 1000)) (f := (1000)) R.inv (by decide +kernel) (by decide +kernel) (by decide +kernel) Y B.fc1 R.len (Rat.le_trans (sx_first (dt_nn xe) R.len (by decide +kernel)) (by decide +kernel)) (by decide +kernel) (by decide +kernel) (by decide +kernel) (by decide +kernel) (by decide +kernel) a b1 b2) (by decide +kernel) (JJ_nn x d a b1 b2))
  (fun x vw z d S C l k v1 v2 B a b1 b2 => B.low (D := (7 / 64 + 567 / 1099511627776)) (s := s1) (sg := (709 / 1099511627776 * (709 / 1099511627776))) (q := (3 / 625000000)) (e := (1 / 1000)) (f := (1000)) (gg := (40000000000 / 624999997)) (h := (196383 / 10)) B.fc1 (by decide +kernel) (by decide +kernel) (by decide +kernel) (by decide +kernel) (by decide +kernel) (by decide +kernel) (by decide +kernel) (by decide +kernel) (by decide +kernel) (by decide +kernel) a b1 b2)
  (fun x vw z d S C l k v1 v2 B a => ⟨ch1 (977 / 1000) v1 a, ch2 (977 / 1000) v1 v2 a, le_J (B.chosen (D := (7 / 64 + 567 / 1099511627776)) (s := s1) (sg := (709 / 1099511627776 * (709 / 1099511627776))) (e := (1 / 1000)) (f := (1000)) (c := (977 / 1000)) (up1 := (15625001 / 1000000000)) B.fc1 (by decide +kernel) (by decide +kernel) (by decide +kernel) (by decide +kernel) (by decide +kernel) (by decide +kernel) (by decide +kernel) a) (by decide +kernel) (dt_nn a)⟩)
  (by decide +kernel) (by decide +kernel) (by decide +kernel) (by decide +kernel) (by decide +kernel) (by decide +kernel) (by decide +kernel) (by decide +kernel) (by decide +kernel) (by decide +kernel) (by decide +kernel) (by decide +kernel) (by decide +kernel) (by decide +kernel) (by decide +kernel) (by decide +kernel) (by decide +kernel) (by decide +kernel) (by decide +kernel) (by decide +kernel) (by decide +kernel) (by decide +kernel)
theorem round2 {a0 a1 a2 a3 : Int} {body g : Nat → Int} {xe : R3} (Bo : Bo a0 a1 a2 a3 body) (R : Ri (q4 a0 a1 a2 a3) g xe (212171 / 100000) (8377 / 12500000) (50701 / 1000000000) (11547 / 10000000) (1639 / 500000000000)) :
  ∃ g' chi xe', hMeetS false g skyF body = ((g', chi, true), false) ∧ Ri (q4 a0 a1 a2 a3) g' xe' (240197 / 100000) (3629 / 20000000) (24669 / 1000000000) (5149 / 12500000) (4917 / 1000000000000) :=
 round (Vp := (109733 / 50000)) (GG := (202661 / 5)) (U0 := (9069 / 50000000)) (t := (101 / 1000000)) (V3 := (219489 / 100000)) (pp := (3391 / 5000000)) (kap := (17 / 1000)) (nu := (4611 / 100000)) (t1 := (137 / 200000000000)) Bo R (by decide +kernel) (by decide +kernel) (by decide +kernel) (by decide +kernel) (by decide +kernel)
  (fun x vw z d S C l k v1 v2 y B Y a b1 b2 => le_J (B.later (V1 := (53043 / 25000)) (q := (3 / 2000000)) (D := (469113 / 100000000)) (s := 1) (sg := (7737 / 10000000000)) (X := (11547 / 10000000)) (sx := (293 / 6250000000)) (n := (1293 / 25000)) (e := (1 / 100)) (f := (100)) (be := (5777 / 10000000)) R.inv (by decide +kernel) (by decide +kernel) (by decide +kernel) Y (B.fc (D := (469113 / 100000000)) (sg := (7737 / 10000000000)) (by decide +kernel) (by decide +kernel)) R.len (Rat.le_trans (sx_later (dt_nn xe) R.len) (by decide +kernel)) (by decide +kernel) (by decide +kernel) (by decide +kernel) (by decide +kernel) (by decide +kernel) (by decide +kernel) (by decide +kernel) a b1 b2) (by decide +kernel) (JJ_nn x d a b1 b2))
  (fun x vw z d S C l k v1 v2 B a b1 b2 => B.low (D := (469113 / 100000000)) (s := 1) (sg := (7737 / 10000000000)) (q := (3 / 2000000)) (e := (1 / 100)) (f := (100)) (gg := (2000000000000000 / 101401847897)) (h := (204073 / 10)) (B.fc (D := (469113 / 100000000)) (sg := (7737 / 10000000000)) (by decide +kernel) (by decide +kernel)) (by decide +kernel) (by decide +kernel) (by decide +kernel) (by decide +kernel) (by decide +kernel) (by decide +kernel) (by decide +kernel) (by decide +kernel) (by decide +kernel) (by decide +kernel) a b1 b2)
  (fun x vw z d S C l k v1 v2 B a => ⟨ch1 (147 / 200) v1 a, ch2 (147 / 200) v1 v2 a, le_J (B.chosen (D := (469113 / 100000000)) (s := 1) (sg := (7737 / 10000000000)) (e := (3 / 100)) (f := (100 / 3)) (c := (147 / 200)) (up1 := (8377001 / 12500000000)) (B.fc (D := (469113 / 100000000)) (sg := (7737 / 10000000000)) (by decide +kernel) (by decide +kernel)) (by decide +kernel) (by decide +kernel) (by decide +kernel) (by decide +kernel) (by decide +kernel) (by decide +kernel) (by decide +kernel) a) (by decide +kernel) (dt_nn a)⟩)
  (by decide +kernel) (by decide +kernel) (by decide +kernel) (by decide +kernel) (by decide +kernel) (by decide +kernel) (by decide +kernel) (by decide +kernel) (by decide +kernel) (by decide +kernel) (by decide +kernel) (by decide +kernel) (by decide +kernel) (by decide +kernel) (by decide +kernel) (by decide +kernel) (by decide +kernel) (by decide +kernel) (by decide +kernel) (by decide +kernel) (by decide +kernel) (by decide +kernel)
theorem round3 {a0 a1 a2 a3 : Int} {body g : Nat → Int} {xe : R3} (Bo : Bo a0 a1 a2 a3 body) (R : Ri (q4 a0 a1 a2 a3) g xe (240197 / 100000) (3629 / 20000000) (24669 / 1000000000) (5149 / 12500000) (4917 / 1000000000000)) :
  ∃ g' chi xe', hMeetS false g skyF body = ((g', chi, true), false) ∧ Ri (q4 a0 a1 a2 a3) g' xe' (253491 / 100000) (2619 / 25000000) (1023 / 62500000) (25757 / 100000000) (1311 / 200000000000) :=
 round (Vp := (60227 / 25000)) (GG := (305417 / 5)) (U0 := (10471 / 100000000)) (t := (137 / 1000000)) (V3 := (120471 / 50000)) (pp := (129 / 400000)) (kap := (127 / 12500)) (nu := (2571 / 100000)) (t1 := (449 / 500000000000)) Bo R (by decide +kernel) (by decide +kernel) (by decide +kernel) (by decide +kernel) (by decide +kernel)
  (fun x vw z d S C l k v1 v2 y B Y a b1 b2 => le_J (B.later (V1 := (120099 / 50000)) (q := (3 / 1000000)) (D := (15877 / 12500000)) (s := 1) (sg := (709 / 12500000000)) (X := (5149 / 12500000)) (sx := (2983 / 500000000000)) (n := (4697 / 1000000)) (e := (1 / 1000)) (f := (1000)) (be := (2061 / 10000000)) R.inv (by decide +kernel) (by decide +kernel) (by decide +kernel) Y (B.fc (D := (15877 / 12500000)) (sg := (709 / 12500000000)) (by decide +kernel) (by decide +kernel)) R.len (Rat.le_trans (sx_later (dt_nn xe) R.len) (by decide +kernel)) (by decide +kernel) (by decide +kernel) (by decide +kernel) (by decide +kernel) (by decide +kernel) (by decide +kernel) (by decide +kernel) a b1 b2) (by decide +kernel) (JJ_nn x d a b1 b2))
  (fun x vw z d S C l k v1 v2 B a b1 b2 => B.low (D := (15877 / 12500000)) (s := 1) (sg := (709 / 12500000000)) (q := (3 / 1000000)) (e := (1 / 1000)) (f := (1000)) (gg := (1000000000000000 / 24668925993)) (h := (40971 / 2)) (B.fc (D := (15877 / 12500000)) (sg := (709 / 12500000000)) (by decide +kernel) (by decide +kernel)) (by decide +kernel) (by decide +kernel) (by decide +kernel) (by decide +kernel) (by decide +kernel) (by decide +kernel) (by decide +kernel) (by decide +kernel) (by decide +kernel) (by decide +kernel) a b1 b2)
  (fun x vw z d S C l k v1 v2 B a => ⟨ch1 (43 / 100) v1 a, ch2 (43 / 100) v1 v2 a, le_J (B.chosen (D := (15877 / 12500000)) (s := 1) (sg := (709 / 12500000000)) (e := (1 / 100)) (f := (100)) (c := (43 / 100)) (up1 := (1134063 / 6250000000)) (B.fc (D := (15877 / 12500000)) (sg := (709 / 12500000000)) (by decide +kernel) (by decide +kernel)) (by decide +kernel) (by decide +kernel) (by decide +kernel) (by decide +kernel) (by decide +kernel) (by decide +kernel) (by decide +kernel) a) (by decide +kernel) (dt_nn a)⟩)
  (by decide +kernel) (by decide +kernel) (by decide +kernel) (by decide +kernel) (by decide +kernel) (by decide +kernel) (by decide +kernel) (by decide +kernel) (by decide +kernel) (by decide +kernel) (by decide +kernel) (by decide +kernel) (by decide +kernel) (by decide +kernel) (by decide +kernel) (by decide +kernel) (by decide +kernel) (by decide +kernel) (by decide +kernel) (by decide +kernel) (by decide +kernel) (by decide +kernel)
theorem round4 {a0 a1 a2 a3 : Int} {body g : Nat → Int} {xe : R3} (Bo : Bo a0 a1 a2 a3 body) (R : Ri (q4 a0 a1 a2 a3) g xe (253491 / 100000) (2619 / 25000000) (1023 / 62500000) (25757 / 100000000) (1311 / 200000000000)) :
  ∃ g' chi xe', hMeetS false g skyF body = ((g', chi, true), false) ∧ Ri (q4 a0 a1 a2 a3) g' xe' (10563 / 4000) (36927 / 500000000) (6123 / 500000000) (19059 / 100000000) (8193 / 1000000000000) :=
 round (Vp := (50783 / 20000)) (GG := (816413 / 10)) (U0 := (36911 / 500000000)) (t := (87 / 500000)) (V3 := (6349 / 2500)) (pp := (1099 / 5000000)) (kap := (4013 / 500000)) (nu := (493 / 25000)) (t1 := (7 / 6250000000)) Bo R (by decide +kernel) (by decide +kernel) (by decide +kernel) (by decide +kernel) (by decide +kernel)
  (fun x vw z d S C l k v1 v2 y B Y a b1 b2 => le_J (B.later (V1 := (253493 / 100000)) (q := (23 / 5000000)) (D := (733321 / 1000000000)) (s := 1) (sg := (1891 / 100000000000)) (X := (25757 / 100000000)) (sx := (2333 / 1000000000000)) (n := (839 / 500000)) (e := (1 / 1000)) (f := (1000)) (be := (1289 / 10000000)) R.inv (by decide +kernel) (by decide +kernel) (by decide +kernel) Y (B.fc (D := (733321 / 1000000000)) (sg := (1891 / 100000000000)) (by decide +kernel) (by decide +kernel)) R.len (Rat.le_trans (sx_later (dt_nn xe) R.len) (by decide +kernel)) (by decide +kernel) (by decide +kernel) (by decide +kernel) (by decide +kernel) (by decide +kernel) (by decide +kernel) (by decide +kernel) a b1 b2) (by decide +kernel) (JJ_nn x d a b1 b2))
  (fun x vw z d S C l k v1 v2 B a b1 b2 => B.low (D := (733321 / 1000000000)) (s := 1) (sg := (1891 / 100000000000)) (q := (23 / 5000000)) (e := (1 / 1000)) (f := (1000)) (gg := (312500000000000 / 5114976471)) (h := (102323 / 5)) (B.fc (D := (733321 / 1000000000)) (sg := (1891 / 100000000000)) (by decide +kernel) (by decide +kernel)) (by decide +kernel) (by decide +kernel) (by decide +kernel) (by decide +kernel) (by decide +kernel) (by decide +kernel) (by decide +kernel) (by decide +kernel) (by decide +kernel) (by decide +kernel) a b1 b2)
  (fun x vw z d S C l k v1 v2 B a => ⟨ch1 (3 / 10) v1 a, ch2 (3 / 10) v1 v2 a, le_J (B.chosen (D := (733321 / 1000000000)) (s := 1) (sg := (1891 / 100000000000)) (e := (1 / 100)) (f := (100)) (c := (3 / 10)) (up1 := (1309501 / 12500000000)) (B.fc (D := (733321 / 1000000000)) (sg := (1891 / 100000000000)) (by decide +kernel) (by decide +kernel)) (by decide +kernel) (by decide +kernel) (by decide +kernel) (by decide +kernel) (by decide +kernel) (by decide +kernel) (by decide +kernel) a) (by decide +kernel) (dt_nn a)⟩)
  (by decide +kernel) (by decide +kernel) (by decide +kernel) (by decide +kernel) (by decide +kernel) (by decide +kernel) (by decide +kernel) (by decide +kernel) (by decide +kernel) (by decide +kernel) (by decide +kernel) (by decide +kernel) (by decide +kernel) (by decide +kernel) (by decide +kernel) (by decide +kernel) (by decide +kernel) (by decide +kernel) (by decide +kernel) (by decide +kernel) (by decide +kernel) (by decide +kernel)
end Go.Proofs.Ytooehgijllihdaa.Ff
namespace Go.Proofs.Ytooehgijllihdaa.Ff
open Go.RowKit
theorem start_place (q : V4) : ∀ i j, i < 6 → j < 6 → hStartP q (7 + (i * 6 + j)) = if i = j then (if i < 3 then 17179869184 else 16777216) else 0 := fun i j hi hj => by
 rcases (show i = 0 ∨ i = 1 ∨ i = 2 ∨ i = 3 ∨ i = 4 ∨ i = 5 by omega) with rfl | rfl | rfl | rfl | rfl | rfl <;> rcases (show j = 0 ∨ j = 1 ∨ j = 2 ∨ j = 3 ∨ j = 4 ∨ j = 5 by omega) with rfl | rfl | rfl | rfl | rfl | rfl <;> rfl
theorem start_st {q0 q1 q2 q3 : Int} (U : U4 q0 q1 q2 q3) : St (hStartP (q0, q1, q2, q3)) (1 / 64) (1 / 64) ∧ ∀ a, fA (hStartP (q0, q1, q2, q3)) a = 1 / 64 * dt a a := by
 have p := start_place (q0, q1, q2, q3)
 have f : ∀ a, fA (hStartP (q0, q1, q2, q3)) a = 1 / 64 * dt a a := fun a => by
  have h7 : hStartP (q0, q1, q2, q3) 7 = 17179869184 := p 0 0 (by omega) (by omega)
  have h8 : hStartP (q0, q1, q2, q3) 8 = 0 := p 0 1 (by omega) (by omega)
  have h9 : hStartP (q0, q1, q2, q3) 9 = 0 := p 0 2 (by omega) (by omega)
  have h13 : hStartP (q0, q1, q2, q3) 13 = 0 := p 1 0 (by omega) (by omega)
  have h14 : hStartP (q0, q1, q2, q3) 14 = 17179869184 := p 1 1 (by omega) (by omega)
  have h15 : hStartP (q0, q1, q2, q3) 15 = 0 := p 1 2 (by omega) (by omega)
  have h19 : hStartP (q0, q1, q2, q3) 19 = 0 := p 2 0 (by omega) (by omega)
  have h20 : hStartP (q0, q1, q2, q3) 20 = 0 := p 2 1 (by omega) (by omega)
  have h21 : hStartP (q0, q1, q2, q3) 21 = 17179869184 := p 2 2 (by omega) (by omega)
  unfold fA
  rw [h7, h8, h9, h13, h14, h15, h19, h20, h21, qr_zero']
  have e : qr 17179869184 = 1 / 64 := by decide +kernel
  rw [e]
  simp only [dt]; grind
 refine ⟨⟨U, rfl, rfl, rfl, ⟨rfl, rfl, rfl⟩, fun i j hi hj h => ?_, fun i h3 hi => ?_, fun a => by rw [f]; exact Rat.le_refl, fun a => by rw [f]; exact Rat.le_refl⟩, f⟩
 ·rw [p i j hi hj, if_neg (by omega)]
 ·rw [p i i hi hi, if_pos rfl, if_neg (by omega)]
theorem start_ri {a0 a1 a2 a3 o0 o1 o2 : Int} (U : U4 a0 a1 a2 a3) (h0 : Ab o0 54975581388) (h1 : Ab o1 54975581388) (h2 : Ab o2 54975581388) : ∃ f c q0 q1 q2 q3, qFromRodS false (o0, o1, o2) = (f, false) ∧ qMulS false f (a0, a1, a2, a3) = (c, false) ∧ qUnitS false c = ((q0, q1, q2, q3), false) ∧
  Ri (q4 a0 a1 a2 a3) (hStartP (q0, q1, q2, q3)) (ng (rv o0 o1 o2)) (12 / 25) (1 / 64) (1 / 64) (3 / 400) (1800 / 1099511627776) := by
 obtain ⟨f0, f1, f2, f3, ef, F, n0, n1, n2, n3⟩ := rod_near (h0.le (show (54975581388 : Int) ≤ 1099511627776 by decide)) (h1.le (by decide)) (h2.le (by decide))
 obtain ⟨c, q0, q1, q2, q3, ec, eq, Q, sg, hs, qv, qs⟩ := turned_q F U
 have len : dt (rv o0 o1 o2) (rv o0 o1 o2) ≤ 3 / 400 := by
  have e : qr 54975581388 ≤ 1 / 20 := by decide +kernel
  have k0 := qr_ab h0; have k1 := qr_ab h1; have k2 := qr_ab h2
  have s0 := abs_sq (x := qr o0) (t := 1 / 20) (by grind) (by grind)
  have s1 := abs_sq (x := qr o1) (t := 1 / 20) (by grind) (by grind)
  have s2 := abs_sq (x := qr o2) (t := 1 / 20) (by grind) (by grind)
  unfold rv; simp only [dt]; grind
 have hf : Wn (s4 (c4 (16 + dt (rv o0 o1 o2) (rv o0 o1 o2)) (q4 f0 f1 f2 f3)) (fx (rv o0 o1 o2))) (256 / 1099511627776) := (Wn.of (e := 128 / 1099511627776) (by decide +kernel) ⟨n0, n1, n2⟩ n3).up (by decide +kernel)
 have hq : Wn (s4 (q4 q0 q1 q2 q3) (c4 sg (m4 (q4 f0 f1 f2 f3) (q4 a0 a1 a2 a3)))) (86 / 1099511627776) := (Wn.of (by decide +kernel) qv qs).up (by decide +kernel)
 have st := start_st Q
 refine ⟨_, c, q0, q1, q2, q3, ef, ec, eq, ⟨st.1, er_start (by grind) hf hq (wn_u4 U) hs, fun a => ?_, by rw [dt_ng]; exact len⟩⟩
 rw [st.2 a]
 have cs := cauchy a (ng (rv o0 o1 o2))
 rw [dt_ng] at cs
 have m := mul_le_l len (dt_nn a)
 grind
end Go.Proofs.Ytooehgijllihdaa.Ff
namespace Go.Proofs.Ytooehgijllihdaa.Ff
open Go.RowKit
def End (u : R4) (g : Nat → Int) (xe : R3) : Prop := Ri u g xe (10563 / 4000) (36927 / 500000000) (6123 / 500000000) (19059 / 100000000) (8193 / 1000000000000)
theorem four {a0 a1 a2 a3 : Int} {body g : Nat → Int} {xe : R3} (Bo : Bo a0 a1 a2 a3 body) (R : Ri (q4 a0 a1 a2 a3) g xe (12 / 25) (1 / 64) (1 / 64) (3 / 400) (1800 / 1099511627776)) :
  ∃ g1 c1 g2 c2 g3 c3 g4 c4 xe4, hMeetS false g skyF body = ((g1, c1, true), false) ∧ hMeetS false g1 skyF body = ((g2, c2, true), false) ∧ hMeetS false g2 skyF body = ((g3, c3, true), false) ∧ hMeetS false g3 skyF body = ((g4, c4, true), false) ∧ End (q4 a0 a1 a2 a3) g4 xe4 := by
 obtain ⟨g1, c1, x1, e1, R1⟩ := round1 Bo R
 obtain ⟨g2, c2, x2, e2, R2⟩ := round2 Bo R1
 obtain ⟨g3, c3, x3, e3, R3⟩ := round3 Bo R2
 obtain ⟨g4, c4, x4, e4, R4⟩ := round4 Bo R3
 exact ⟨g1, c1, g2, c2, g3, c3, g4, c4, x4, e1, e2, e3, e4, R4⟩
theorem End.first {u : R4} {g : Nat → Int} {xe : R3} (E : End u g xe) : g 7 < 1073741824 := by
 have h := E.st.up ⟨1, 0, 0⟩
 have e1 : dt (⟨1, 0, 0⟩ : R3) ⟨1, 0, 0⟩ = 1 := by simp only [dt]; grind
 have e2 : fA g ⟨1, 0, 0⟩ = qr (g 7) := by unfold fA; simp only; grind
 rw [e1, e2] at h
 have en : ((g 7 : Int) : Rat) = 1099511627776 * qr (g 7) := by unfold qr; grind
 have : ((g 7 : Int) : Rat) ≤ ((1073741823 : Int) : Rat) := by rw [en]; push_cast; grind
 have := Rat.intCast_le_intCast.1 this
 omega
theorem m4_cj (q : R4) (b : R4) : m4 q (m4 (cj4 q) b) = c4 (n4 q) b := by
 apply r4_ext <;> (unfold m4 hmv hms c4 cj4 ng n4; simp only [ad, sc, cr, dt]; grind)
theorem End.apart {a0 a1 a2 a3 : Int} {g : Nat → Int} {xe : R3} (E : End (q4 a0 a1 a2 a3) g xe) (U : U4 a0 a1 a2 a3) : ∃ c0 c1 c2 c3, qMulS false (g 0, g 1, g 2, g 3) (-a0, -a1, -a2, a3) = ((c0, c1, c2, c3), false) ∧
  ∃ sg : Rat, (sg = 1 ∨ sg = -1) ∧ Wn (s4 (c4 (16 + dt xe xe) (q4 c0 c1 c2 c3)) (c4 sg (cj4 (fx xe)))) (1 / 100000000) := by
 have Q := E.st.q
 have neg : ∀ a : Int, Ab a 1099511627776 → Ab (-a) 1099511627776 := fun a h => ⟨by have := h.hi; omega, by have := h.lo; omega⟩
 obtain ⟨c0, c1, c2, c3, ec, _, _, _, _, g0, g1, g2, g3⟩ := mul4_near Q.a0 Q.a1 Q.a2 Q.a3 (neg _ U.a0) (neg _ U.a1) (neg _ U.a2) U.a3
 have q0 := near_q2 g0; have q1 := near_q2 g1; have q2 := near_q2 g2; have q3 := near_q2 g3
 have M : Wn (s4 (q4 c0 c1 c2 c3) (m4 (q4 (g 0) (g 1) (g 2) (g 3)) (cj4 (q4 a0 a1 a2 a3)))) (2 * (2 / 1099511627776)) := by
  refine Wn.of (by decide +kernel) ⟨?_, ?_, ?_⟩ ?_
  ·have e : (m4 (q4 (g 0) (g 1) (g 2) (g 3)) (cj4 (q4 a0 a1 a2 a3))).v.x = ((g 0 * a3 + -a0 * g 3 + (-a1 * g 2 - -a2 * g 1) : Int) : Rat) / 1208925819614629174706176 := by unfold m4 hmv cj4 q4 ng rv qr; simp only [ad, sc, cr]; push_cast; grind
   rw [e]; exact q0
  ·have e : (m4 (q4 (g 0) (g 1) (g 2) (g 3)) (cj4 (q4 a0 a1 a2 a3))).v.y = ((g 1 * a3 + -a1 * g 3 + (-a2 * g 0 - -a0 * g 2) : Int) : Rat) / 1208925819614629174706176 := by unfold m4 hmv cj4 q4 ng rv qr; simp only [ad, sc, cr]; push_cast; grind
   rw [e]; exact q1
  ·have e : (m4 (q4 (g 0) (g 1) (g 2) (g 3)) (cj4 (q4 a0 a1 a2 a3))).v.z = ((g 2 * a3 + -a2 * g 3 + (-a0 * g 1 - -a1 * g 0) : Int) : Rat) / 1208925819614629174706176 := by unfold m4 hmv cj4 q4 ng rv qr; simp only [ad, sc, cr]; push_cast; grind
   rw [e]; exact q2
  ·have e : (m4 (q4 (g 0) (g 1) (g 2) (g 3)) (cj4 (q4 a0 a1 a2 a3))).s = ((g 3 * a3 - (g 0 * -a0 + g 1 * -a1 + g 2 * -a2) : Int) : Rat) / 1208925819614629174706176 := by unfold m4 hms cj4 q4 ng rv qr; simp only [dt]; push_cast; grind
   rw [e]; exact q3
 obtain ⟨sg, hs, W⟩ := E.er
 have x0 := dt_nn xe
 have xl := E.len
 have s := sgn_ab hs
 refine ⟨c0, c1, c2, c3, ec, sg, hs, ?_⟩
 have A := M.scale (c := 16 + dt xe xe) (d := 17) (by grind) (by grind)
 rw [c4_s] at A
 have B := (wn_u4 Q).mul W.cj
 rw [cj_s, cj_c, cj_c, cj_m, m4_s, m4_c, m4_c, m4_cj] at B
 have n := u4_q Q
 have en : n4 (q4 (g 0) (g 1) (g 2) (g 3)) = dt (rv (g 0) (g 1) (g 2)) (rv (g 0) (g 1) (g 2)) + qr (g 3) * qr (g 3) := rfl
 rw [en] at B
 have G := Wn.fx xe
 have Cc := (G.cj.scale (c := sg * (dt (rv (g 0) (g 1) (g 2)) (rv (g 0) (g 1) (g 2)) + qr (g 3) * qr (g 3) - 1)) (d := 13 / 1099511627776) (by have := n.hi; have := n.lo; rcases hs with rfl | rfl <;> grind) (by have := n.hi; have := n.lo; rcases hs with rfl | rfl <;> grind))
 have e3 : c4 (sg * (dt (rv (g 0) (g 1) (g 2)) (rv (g 0) (g 1) (g 2)) + qr (g 3) * qr (g 3) - 1)) (cj4 (fx xe)) = s4 (c4 sg (c4 (dt (rv (g 0) (g 1) (g 2)) (rv (g 0) (g 1) (g 2)) + qr (g 3) * qr (g 3)) (cj4 (fx xe)))) (c4 sg (cj4 (fx xe))) := by
  generalize dt (rv (g 0) (g 1) (g 2)) (rv (g 0) (g 1) (g 2)) + qr (g 3) * qr (g 3) = N
  generalize cj4 (fx xe) = w
  apply r4_ext <;> (unfold c4 s4; simp only [sc, sb3]; grind)
 rw [e3] at Cc
 have k : 17 * (2 * (2 / 1099511627776)) + (1 + 7 / 1099511627776) * (8193 / 1000000000000) + 13 / 1099511627776 * 17 ≤ 1 / 100000000 := by decide +kernel
 refine ((A.thru B).thru Cc).up ?_
 grind
end Go.Proofs.Ytooehgijllihdaa.Ff
namespace Go.Proofs.Ytooehgijllihdaa.Ff
open Go.RowKit
theorem rod_part {v w : Int} (hv : Ab v 7600000000) (w1 : 1098412116148 ≤ w) (w2 : w ≤ 1110506744054) : ∃ e, mulS false v 4398046511104 = (4 * v, false) ∧ divS false (4 * v) (1099511627776 + w) = (e, false) ∧ Ab e 17179869184 := by
 have o : mulS false v 4398046511104 = (4 * v, false) := times_near (k := 4) hv (by decide) (⟨by decide, by decide⟩ : Ab (1099511627776 * 4) 4398046511104) (by decide)
 have k4 : Ab (4 : Int) 4 := ⟨by decide, by decide⟩
 obtain ⟨e, ee, R⟩ := div_near (b := 1099511627776 + w) (k4.mul hv) (by decide) (by omega) (by omega) (by omega)
 have := hv.lo; have := hv.hi
 exact ⟨e, o, ee, quot_bd R (by omega) (by omega) (by omega)⟩
theorem torod_up {v0 v1 v2 w : Int} (h0 : Ab v0 7600000000) (h1 : Ab v1 7600000000) (h2 : Ab v2 7600000000) (w1 : 1098412116148 ≤ w) (w2 : w ≤ 1110506744054) {q : V4} (hq : uprightS q = (v0, v1, v2, w)) : ∃ e0 e1 e2, qToRodS false q = ((e0, e1, e2), false) ∧ Ab e0 17179869184 ∧ Ab e1 17179869184 ∧ Ab e2 17179869184 := by
 obtain ⟨e0, m0, d0, b0⟩ := rod_part h0 w1 w2
 obtain ⟨e1, m1, d1, b1⟩ := rod_part h1 w1 w2
 obtain ⟨e2, m2, d2, b2⟩ := rod_part h2 w1 w2
 have a := add_near (⟨by decide, by decide⟩ : Ab 1099511627776 1099511627776) (⟨by omega, by omega⟩ : Ab w 1110506744054) (by decide) (by decide) (by decide)
 refine ⟨e0, e1, e2, ?_, b0, b1, b2⟩
 unfold qToRodS
 rw [hq]
 simp only [a, m0, d0, m1, d1, m2, d2]
 rfl
theorem End.near {a0 a1 a2 a3 : Int} {g : Nat → Int} {xe : R3} (E : End (q4 a0 a1 a2 a3) g xe) (U : U4 a0 a1 a2 a3) : ∃ c e0 e1 e2, qMulS false (g 0, g 1, g 2, g 3) (-a0, -a1, -a2, a3) = (c, false) ∧ qToRodS false c = ((e0, e1, e2), false) ∧ Ab e0 17179869184 ∧ Ab e1 17179869184 ∧ Ab e2 17179869184 := by
 obtain ⟨c0, c1, c2, c3, ec, sg, hs, W⟩ := E.apart U
 have x0 := dt_nn xe
 have xl := E.len
 have xc := comp_le (w := xe) (B := 13808 / 1000000) (by decide +kernel) (by grind)
 have l := W.le
 have s := sgn_ab hs
 -- each part
 have comp : ∀ p : Rat, p * p ≤ n4 (s4 (c4 (16 + dt xe xe) (q4 c0 c1 c2 c3)) (c4 sg (cj4 (fx xe)))) → p ≤ 1 / 100000000 ∧ -(1 / 100000000) ≤ p := fun p hp => ab_of_sq (by decide +kernel) (by grind)
 have n : n4 (s4 (c4 (16 + dt xe xe) (q4 c0 c1 c2 c3)) (c4 sg (cj4 (fx xe)))) = ((16 + dt xe xe) * qr c0 + sg * (8 * xe.x)) * ((16 + dt xe xe) * qr c0 + sg * (8 * xe.x)) + ((16 + dt xe xe) * qr c1 + sg * (8 * xe.y)) * ((16 + dt xe xe) * qr c1 + sg * (8 * xe.y)) + ((16 + dt xe xe) * qr c2 + sg * (8 * xe.z)) * ((16 + dt xe xe) * qr c2 + sg * (8 * xe.z)) + ((16 + dt xe xe) * qr c3 - sg * (16 - dt xe xe)) * ((16 + dt xe xe) * qr c3 - sg * (16 - dt xe xe)) := by
  unfold n4 s4 c4 q4 cj4 fx ng rv
  generalize dt xe xe = D
  simp only [dt, sc, sb3]; grind
 have s0 := sq_nn ((16 + dt xe xe) * qr c0 + sg * (8 * xe.x)); have s1 := sq_nn ((16 + dt xe xe) * qr c1 + sg * (8 * xe.y)); have s2 := sq_nn ((16 + dt xe xe) * qr c2 + sg * (8 * xe.z)); have s3 := sq_nn ((16 + dt xe xe) * qr c3 - sg * (16 - dt xe xe))
 have p0 := comp _ (show ((16 + dt xe xe) * qr c0 + sg * (8 * xe.x)) * ((16 + dt xe xe) * qr c0 + sg * (8 * xe.x)) ≤ _ by rw [n]; grind)
 have p1 := comp _ (show ((16 + dt xe xe) * qr c1 + sg * (8 * xe.y)) * ((16 + dt xe xe) * qr c1 + sg * (8 * xe.y)) ≤ _ by rw [n]; grind)
 have p2 := comp _ (show ((16 + dt xe xe) * qr c2 + sg * (8 * xe.z)) * ((16 + dt xe xe) * qr c2 + sg * (8 * xe.z)) ≤ _ by rw [n]; grind)
 have p3 := comp _ (show ((16 + dt xe xe) * qr c3 - sg * (16 - dt xe xe)) * ((16 + dt xe xe) * qr c3 - sg * (16 - dt xe xe)) ≤ _ by rw [n]; grind)
 have small : ∀ c x : Rat, x ≤ 13808 / 1000000 ∧ -(13808 / 1000000) ≤ x → (16 + dt xe xe) * c + sg * (8 * x) ≤ 1 / 100000000 ∧ -(1 / 100000000) ≤ (16 + dt xe xe) * c + sg * (8 * x) → c ≤ 691 / 100000 ∧ -(691 / 100000) ≤ c := fun c x hx hc => by
  have b : (16 + dt xe xe) * c ≤ 11048 / 100000 ∧ -(11048 / 100000) ≤ (16 + dt xe xe) * c := by rcases hs with rfl | rfl <;> (constructor <;> grind)
  constructor
  ·apply Classical.byContradiction; intro k
   have := Rat.mul_nonneg x0 (show 0 ≤ c by grind)
   grind
  ·apply Classical.byContradiction; intro k
   have := Rat.mul_nonneg x0 (show 0 ≤ -c by grind)
   grind
 have ab : ∀ c : Int, qr c ≤ 691 / 100000 ∧ -(691 / 100000) ≤ qr c → Ab c 7600000000 := fun c h => by
  have e : qr 7600000000 = 7600000000 / 1099511627776 := by decide +kernel
  exact ab_of (up := 7600000000 / 1099511627776) e (by grind) (by grind)
 have b0 := ab _ (small _ _ xc.1 p0); have b1 := ab _ (small _ _ xc.2.1 p1); have b2 := ab _ (small _ _ xc.2.2 p2)
 -- the scalar part
 have sc1 : ∀ w : Rat, (16 + dt xe xe) * w - (16 - dt xe xe) ≤ 1 / 100000000 ∧ -(1 / 100000000) ≤ (16 + dt xe xe) * w - (16 - dt xe xe) → w ≤ 101 / 100 ∧ 999 / 1000 ≤ w := fun w hw => by
  constructor
  ·apply Classical.byContradiction; intro k
   have := Rat.mul_nonneg x0 (show 0 ≤ w by grind)
   grind
  ·apply Classical.byContradiction; intro k
   have := Rat.mul_nonneg x0 (show 0 ≤ 1 - w by grind)
   grind
 have wb : ∀ w : Int, qr w ≤ 101 / 100 ∧ 999 / 1000 ≤ qr w → 1098412116148 ≤ w ∧ w ≤ 1110506744054 := fun w h => by
  have en : (w : Rat) = 1099511627776 * qr w := by unfold qr; grind
  have h1 : ((1098412116148 : Int) : Rat) ≤ ((w : Int) : Rat) := by rw [en]; push_cast; grind
  have h2 : ((w : Int) : Rat) ≤ ((1110506744054 : Int) : Rat) := by rw [en]; push_cast; grind
  exact ⟨Rat.intCast_le_intCast.1 h1, Rat.intCast_le_intCast.1 h2⟩
 refine ⟨(c0, c1, c2, c3), ?_⟩
 rcases hs with rfl | rfl
 ·have w := wb c3 (sc1 _ ⟨by have := p3.1; grind, by have := p3.2; grind⟩)
  obtain ⟨e0, e1, e2, et, k0, k1, k2⟩ := torod_up b0 b1 b2 w.1 w.2 (q := (c0, c1, c2, c3)) (by unfold uprightS; rw [if_pos (by show c3 ≥ 0; omega)])
  exact ⟨e0, e1, e2, ec, et, k0, k1, k2⟩
 ·have w := wb (-c3) (sc1 _ ⟨by rw [qr_neg]; have := p3.2; grind, by rw [qr_neg]; have := p3.1; grind⟩)
  have neg : ∀ c : Int, Ab c 7600000000 → Ab (-c) 7600000000 ∧ minusS c = -c := fun c h => by
   have := h.lo; have := h.hi
   exact ⟨⟨by omega, by omega⟩, minusS_in (by omega) (by omega)⟩
  have m0 := neg _ b0; have m1 := neg _ b1; have m2 := neg _ b2
  obtain ⟨e0, e1, e2, et, k0, k1, k2⟩ := torod_up m0.1 m1.1 m2.1 w.1 w.2 (q := (c0, c1, c2, c3)) (by
   unfold uprightS
   rw [if_neg (by show ¬ c3 ≥ 0; omega)]
   dsimp only
   rw [m0.2, m1.2, m2.2, minusS_in (by omega) (by omega)])
  exact ⟨e0, e1, e2, ec, et, k0, k1, k2⟩
end Go.Proofs.Ytooehgijllihdaa.Ff
namespace Go.Proofs.Ytooehgijllihdaa.Ff
open Go.RowKit
theorem finds_core {q : V4} {a0 a1 a2 a3 o0 o1 o2 : Int} (hq : qUnitS false q = ((a0, a1, a2, a3), false)) (h0 : Ab o0 54975581388) (h1 : Ab o1 54975581388) (h2 : Ab o2 54975581388) :
  ∃ (b0 b1 b2 b3 b4 b5 : Int) (f c Q : V4) (g1 g2 g3 g4 : Nat → Int) (c1 c2 c3 c4 : Int) (r : V4) (e0 e1 e2 : Int),
   qTurnS false (a0, a1, a2, a3) (1099511627776, 0, 0) = ((b0, b1, b2), false) ∧ qTurnS false (a0, a1, a2, a3) (0, 1099511627776, 0) = ((b3, b4, b5), false) ∧
   qFromRodS false (o0, o1, o2) = (f, false) ∧ qMulS false f (a0, a1, a2, a3) = (c, false) ∧ qUnitS false c = (Q, false) ∧
   hMeetS false (hStartP Q) skyF (six6 (b0, b1, b2, b3, b4, b5)) = ((g1, c1, true), false) ∧ hMeetS false g1 skyF (six6 (b0, b1, b2, b3, b4, b5)) = ((g2, c2, true), false) ∧ hMeetS false g2 skyF (six6 (b0, b1, b2, b3, b4, b5)) = ((g3, c3, true), false) ∧ hMeetS false g3 skyF (six6 (b0, b1, b2, b3, b4, b5)) = ((g4, c4, true), false) ∧
   qMulS false (g4 0, g4 1, g4 2, g4 3) (qBackS (a0, a1, a2, a3)) = (r, false) ∧ qToRodS false r = ((e0, e1, e2), false) ∧ Ab e0 17179869184 ∧ Ab e1 17179869184 ∧ Ab e2 17179869184 ∧ g4 7 < 1073741824 := by
 have U : U4 a0 a1 a2 a3 := by
  rcases unit_math q with h | ⟨w0, w1, w2, w3, h, U⟩
  ·rw [hq] at h
   simp only [Prod.mk.injEq] at h
   exact absurd h.2 (by decide)
  ·rw [hq] at h
   simp only [Prod.mk.injEq] at h
   obtain ⟨⟨rfl, rfl, rfl, rfl⟩, _⟩ := h
   exact U
 obtain ⟨b0, b1, b2, b3, b4, b5, t1, t2, D⟩ := axes_turned U
 obtain ⟨f, c, q0, q1, q2, q3, ef, ec, eQ, R⟩ := start_ri U h0 h1 h2
 have B : Bo a0 a1 a2 a3 (six6 (b0, b1, b2, b3, b4, b5)) := ⟨U, t1, t2, D⟩
 obtain ⟨g1, c1, g2, c2, g3, c3, g4, c4, xe, m1, m2, m3, m4, E⟩ := four B R
 obtain ⟨r, e0, e1, e2, er, et, k0, k1, k2⟩ := E.near U
 have eb : qBackS (a0, a1, a2, a3) = (-a0, -a1, -a2, a3) := by
  have i0 := U.a0; have i1 := U.a1; have i2 := U.a2
  have := i0.lo; have := i0.hi; have := i1.lo; have := i1.hi; have := i2.lo; have := i2.hi
  unfold qBackS
  dsimp only
  rw [minusS_in (by omega) (by omega), minusS_in (by omega) (by omega), minusS_in (by omega) (by omega)]
 exact ⟨b0, b1, b2, b3, b4, b5, f, c, (q0, q1, q2, q3), g1, g2, g3, g4, c1, c2, c3, c4, r, e0, e1, e2, t1, t2, ef, ec, eQ, m1, m2, m3, m4, by rw [eb]; exact er, et, k0, k1, k2, E.first⟩
end Go.Proofs.Ytooehgijllihdaa.Ff
