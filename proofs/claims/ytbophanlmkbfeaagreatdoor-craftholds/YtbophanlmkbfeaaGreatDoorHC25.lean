/-
A part.
A part.
A part.
A part.
A part.
A part.
-/
import Derived.Handy
import Derived.Deep.RegionHeld3
import Derived.Test.YtbophanlmkbfeaaGreatDoorHC24
import Derived.Test.YtbophanlmkbfeaaGreatDoorHC10
import Derived.Test.YtbophanlmkbfeaaGreatDoorHC02
import Derived.Test.YtbophanlmkbfeaaGreatDoorHC11
import Derived.Test.YtbophanlmkbfeaaGreatDoorHC17
namespace Go.Proofs.YtbophanlmkbfeaaGreatDoor
theorem ent_t {c s b a : Int} {x y z : V3} (hc : Ab c 2199023255552) (hs : Ab s 2199023255552) (hb : Ab b 4398046511104) (ha : Ab a 4398046511104) (sx : Sm3 x) (sy : Sm3 y) (e : entS false c s b a x y = (z, false)) :
    Nonempty (EntT c s b a x.1 x.2.1 y.1 y.2.1 z.1 z.2.1) ∧ Nonempty (EntQ c b a x.2.2 y.2.2 z.2.2) := by
 obtain ⟨v1, h1, q1, b1⟩ := mul_x (B := 35184372088833) hc sx.p (by decide) (by decide) (by decide) (by decide)
 obtain ⟨v2, h2, q2, b2⟩ := mul_x (B := 140737488355333) hb b1 (by decide) (by decide) (by decide) (by decide)
 obtain ⟨v3, h3, q3, b3⟩ := mul_x (B := 70368744177665) ha sy.p (by decide) (by decide) (by decide) (by decide)
 have h4 := sub_near b2 b3 (by decide) (by decide) (by decide)
 obtain ⟨v5, h5, q5, b5⟩ := mul_x (B := 35184372088833) hc sx.d (by decide) (by decide) (by decide) (by decide)
 obtain ⟨v6, h6, q6, b6⟩ := mul_x (B := 35184372088833) hs sx.p (by decide) (by decide) (by decide) (by decide)
 have h7 := sub_near b5 b6 (by decide) (by decide) (by decide)
 obtain ⟨v8, h8, q8, b8⟩ := mul_x (B := 281474976710666) hb (b5.sub b6) (by decide) (by decide) (by decide) (by decide)
 obtain ⟨v9, h9, q9, b9⟩ := mul_x (B := 70368744177665) ha sy.d (by decide) (by decide) (by decide) (by decide)
 have h10 := sub_near b8 b9 (by decide) (by decide) (by decide)
 obtain ⟨v11, h11, q11, b11⟩ := mul_x (B := 35184372088833) hc sx.q (by decide) (by decide) (by decide) (by decide)
 obtain ⟨v12, h12, q12, b12⟩ := mul_x (B := 140737488355333) hb b11 (by decide) (by decide) (by decide) (by decide)
 obtain ⟨v13, h13, q13, b13⟩ := mul_x (B := 70368744177665) ha sy.q (by decide) (by decide) (by decide) (by decide)
 have h14 := sub_near b12 b13 (by decide) (by decide) (by decide)
 unfold entS at e
 simp only [h1, h2, h3, h4, h5, h6, h7, h8, h9, h10, h11, h12, h13, h14] at e
 injection e with e _
 subst e
 exact ⟨⟨⟨v1, v2, v3, v5, v6, v5 - v6, v8, v9, h1, h2, h3, h4, h5, h6, h7, h8, h9, h10⟩⟩, ⟨⟨v11, v12, v13, h11, h12, h13, h14⟩⟩⟩
theorem dia_t {n c s j p : Int} {x z : V3} (hp : partS false 1099511627776 (2 * n - 1) (2 * n) = (p, false)) (hj' : sqrtS false p = (j, false)) (hc : Ab c 2199023255552) (hs : Ab s 2199023255552) (hj : Ab j 4398046511104) (sx : Sm3 x) (e : diaS false c s j x = (z, false)) :
    Nonempty (DiaT n c s x.1 x.2.1 x.2.2 z.1 z.2.1 z.2.2) := by
 obtain ⟨v1, h1, q1, b1⟩ := mul_x (B := 35184372088833) hs sx.p (by decide) (by decide) (by decide) (by decide)
 obtain ⟨v2, h2, q2, b2⟩ := mul_x (B := 140737488355333) hj b1 (by decide) (by decide) (by decide) (by decide)
 obtain ⟨v3, h3, q3, b3⟩ := mul_x (B := 35184372088833) hs sx.d (by decide) (by decide) (by decide) (by decide)
 obtain ⟨v4, h4, q4, b4⟩ := mul_x (B := 35184372088833) hc sx.p (by decide) (by decide) (by decide) (by decide)
 have h5 := add_near b3 b4 (by decide) (by decide) (by decide)
 obtain ⟨v6, h6, q6, b6⟩ := mul_x (B := 281474976710666) hj (b3.add b4) (by decide) (by decide) (by decide) (by decide)
 obtain ⟨v7, h7, q7, b7⟩ := mul_x (B := 35184372088833) hs sx.q (by decide) (by decide) (by decide) (by decide)
 obtain ⟨v8, h8, q8, b8⟩ := mul_x (B := 140737488355333) hj b7 (by decide) (by decide) (by decide) (by decide)
 unfold diaS at e
 simp only [h1, h2, h3, h4, h5, h6, h7, h8] at e
 injection e with e _
 subst e
 exact ⟨⟨p, j, v1, v3, v4, v3 + v4, v7, hp, hj', h1, h2, h3, h4, h5, h6, h7, h8⟩⟩
theorem wave_t {C S u v C' S' : Int} (L : Lon u v) (Cb : Ab C 2199023255552) (Sb : Ab S 2199023255552) (e : waveS false C S u v = ((C', S'), false)) : Nonempty (WaveT C S u v C' S') := by
 obtain ⟨m1, h1, q1, b1⟩ := mul_x (B := 2199023255553) Cb L.ub (by decide) (by decide) (by decide) (by decide)
 obtain ⟨m2, h2, q2, b2⟩ := mul_x (B := 2199023255553) Sb L.vb (by decide) (by decide) (by decide) (by decide)
 have h3 := sub_near b1 b2 (by decide) (by decide) (by decide)
 obtain ⟨m4, h4, q4, b4⟩ := mul_x (B := 2199023255553) Sb L.ub (by decide) (by decide) (by decide) (by decide)
 obtain ⟨m5, h5, q5, b5⟩ := mul_x (B := 2199023255553) Cb L.vb (by decide) (by decide) (by decide) (by decide)
 have h6 := add_near b4 b5 (by decide) (by decide) (by decide)
 unfold waveS at e
 simp only [h1, h2, h3, h4, h5, h6] at e
 injection e with e _
 injection e with e1 e2
 subst e1 e2
 exact ⟨⟨m1, m2, m4, m5, h1, h2, h3, h4, h5, h6⟩⟩
theorem term_t {n m t C S g h K : Int} {x st s' : V3} (n0 : 0 ≤ n) (n1 : n ≤ 6) (m0 : 0 ≤ m) (m1 : m ≤ 6) (t0 : 0 ≤ t) (t1 : t ≤ 2199023255552) (Cb : Ab C 1100000000000) (Sb : Ab S 1100000000000) (gb : Ab g 35184372088832) (hb : Ab h 35184372088832) (sx : Sm3 x) (ss : St3 st K) (hK : K ≤ 1152921504606846976) (K0 : 0 ≤ K)
    (e : termS false n m t C S g h x st = (s', false)) : Nonempty (TermT n m t C S g h x.1 x.2.1 x.2.2 st.1 st.2.1 st.2.2 s'.1 s'.2.1 s'.2.2) := by
 obtain ⟨v1, h1, q1, b1⟩ := mul_x (B := 35200000000001) gb Cb (by decide) (by decide) (by decide) (by decide)
 obtain ⟨v2, h2, q2, b2⟩ := mul_x (B := 35200000000001) hb Sb (by decide) (by decide) (by decide) (by decide)
 have h3 := add_near b1 b2 (by decide) (by decide) (by decide)
 obtain ⟨v4, h4, q4, b4⟩ := mul_x (B := 35200000000001) gb Sb (by decide) (by decide) (by decide) (by decide)
 obtain ⟨v5, h5, q5, b5⟩ := mul_x (B := 35200000000001) hb Cb (by decide) (by decide) (by decide) (by decide)
 have h6 := sub_near b4 b5 (by decide) (by decide) (by decide)
 have eE : Ab ((v1 + v2) * 1099511627776 - (g * C + h * S)) 1099511627776 := by
  have := q1.lo; have := q1.hi; have := q2.lo; have := q2.hi
  exact ⟨by omega, by omega⟩
 have oE : Ab ((v4 - v5) * 1099511627776 - (g * S - h * C)) 1099511627776 := by
  have := q4.lo; have := q4.hi; have := q5.lo; have := q5.hi
  exact ⟨by omega, by omega⟩
 obtain ⟨y1, z1, i1, j1, zb1, _⟩ := three t0 t1 sx.p (b1.add b2) eE
 obtain ⟨y2, z2, i2, j2, zb2, _⟩ := three t0 t1 sx.d (b1.add b2) eE
 obtain ⟨y3, z3, i3, j3, zb3, _⟩ := three t0 t1 sx.q (b4.sub b5) oE
 have p1 := times_near (k := n + 1) zb1 (by omega) (by omega)
 have p3 := times_near (k := m) zb3 (by omega) (by omega)
 have c1 : Ab (z1 * (n + 1)) 15769600000000490 := zb1.mul (L := 7) ⟨by omega, by omega⟩
 have c3 : Ab (z3 * m) 15769600000000490 := zb3.mul (L := 7) ⟨by omega, by omega⟩
 have a1 := add_near ss.a c1 (by omega) (by omega) (by decide)
 have a2 := sub_near ss.b zb2 (by omega) (by omega) (by decide)
 have a3 := add_near ss.c c3 (by omega) (by omega) (by decide)
 unfold termS at e
 by_cases hm : 0 < m
 ·simp only [h1, h2, h3, h4, h5, h6, i1, j1, p1, a1, i2, j2, a2, if_pos hm, i3, j3, p3, a3] at e
  injection e with e _
  subst e
  exact ⟨⟨v1, v2, v1 + v2, v4, v5, v4 - v5, y1, z1, z1 * (n + 1), y2, z2, y3, z3, z3 * m, h1, h2, h3, h4, h5, h6, i1, j1, p1, a1, i2, j2, a2, i3, j3, p3, a3, fun h => absurd h (by omega)⟩⟩
 ·simp only [h1, h2, h3, h4, h5, h6, i1, j1, p1, a1, i2, j2, a2, if_neg hm] at e
  injection e with e _
  subst e
  obtain rfl : m = 0 := by omega
  rw [Int.mul_zero, Int.add_zero] at a3
  rw [Int.mul_zero] at p3
  exact ⟨⟨v1, v2, v1 + v2, v4, v5, v4 - v5, y1, z1, z1 * (n + 1), y2, z2, y3, z3, 0, h1, h2, h3, h4, h5, h6, i1, j1, p1, a1, i2, j2, a2, i3, j3, p3, a3, fun _ => rfl⟩⟩
theorem vec_t {w b : V3} {c s u v : Int} (B : St3 w 756940800000023520) (cb : Ab c 1099511627776) (sb : Ab s 1099511627776) (ub : Ab u 1099511627776) (vb : Ab v 1099511627776) (e : vecS false w c s u v = (b, false)) :
    Nonempty (VecT c s u v w.1 w.2.1 w.2.2 b.1 b.2.1 b.2.2) ∧ St3 b 2270822400000070564 := by
 obtain ⟨v1, h1, _, b1⟩ := mul_x (B := 756940800000023521) B.a sb (by decide) (by decide) (by decide) (by decide)
 obtain ⟨v2, h2, _, b2⟩ := mul_x (B := 756940800000023521) B.b cb (by decide) (by decide) (by decide) (by decide)
 have h3 := add_near b1 b2 (by decide) (by decide) (by decide)
 have b3 := b1.add b2
 obtain ⟨v4, h4, _, b4⟩ := mul_x (B := 1513881600000047043) b3 ub (by decide) (by decide) (by decide) (by decide)
 obtain ⟨v5, h5, _, b5⟩ := mul_x (B := 756940800000023521) B.c vb (by decide) (by decide) (by decide) (by decide)
 have h6 := sub_near b4 b5 (by decide) (by decide) (by decide)
 obtain ⟨v7, h7, _, b7⟩ := mul_x (B := 1513881600000047043) b3 vb (by decide) (by decide) (by decide) (by decide)
 obtain ⟨v8, h8, _, b8⟩ := mul_x (B := 756940800000023521) B.c ub (by decide) (by decide) (by decide) (by decide)
 have h9 := add_near b7 b8 (by decide) (by decide) (by decide)
 obtain ⟨v10, h10, _, b10⟩ := mul_x (B := 756940800000023521) B.a cb (by decide) (by decide) (by decide) (by decide)
 obtain ⟨v11, h11, _, b11⟩ := mul_x (B := 756940800000023521) B.b sb (by decide) (by decide) (by decide) (by decide)
 have h12 := sub_near b10 b11 (by decide) (by decide) (by decide)
 unfold vecS at e
 simp only [h1, h2, h3, h4, h5, h6, h7, h8, h9, h10, h11, h12] at e
 injection e with e _
 subst e
 exact ⟨⟨⟨v1, v2, v1 + v2, v4, v5, v7, v8, v10, v11, h1, h2, h3, h4, h5, h6, h7, h8, h9, h10, h11, h12⟩⟩, ⟨(b4.sub b5).le (by decide), (b7.add b8).le (by decide), (b10.sub b11).le (by decide)⟩⟩
def rootOK (k m : Nat) : Bool := decide ((rootS false ((k : Int) + 1) (m : Int)).2 = false) && decide ((rootS false ((k : Int) + 1 - 1) (m : Int)).2 = false) && decide (divS false (rootS false ((k : Int) + 1 - 1) (m : Int)).1 (rootS false ((k : Int) + 1) (m : Int)).1 = (fA (k + 1) m, false)) &&
 decide ((partS false 1099511627776 (2 * ((k : Int) + 1) - 1) 1).2 = false) && decide (divS false (partS false 1099511627776 (2 * ((k : Int) + 1) - 1) 1).1 (rootS false ((k : Int) + 1) (m : Int)).1 = (fB (k + 1) m, false))
theorem rootOK_all : ((List.range 6).all fun k => (List.range (k + 1)).all fun m => rootOK k m) = true := by decide +kernel
theorem root_t {k m : Nat} (hk : k < 6) (hm : m < k + 1) : Nonempty (RootT ((k : Int) + 1) (m : Int) (fA (k + 1) m) (fB (k + 1) m)) := by
 have h := List.all_eq_true.1 (List.all_eq_true.1 rootOK_all k (List.mem_range.2 hk)) m (List.mem_range.2 hm)
 unfold rootOK at h
 simp only [Bool.and_eq_true, decide_eq_true_eq] at h
 exact ⟨⟨_, _, _, Prod.ext rfl h.1.1.1.1, Prod.ext rfl h.1.1.1.2, h.1.1.2, Prod.ext rfl h.1.2, h.2⟩⟩
def diagOK (k : Nat) : Bool := decide ((partS false 1099511627776 (2 * ((k : Int) + 1) - 1) (2 * ((k : Int) + 1))).2 = false) && decide (sqrtS false (partS false 1099511627776 (2 * ((k : Int) + 1) - 1) (2 * ((k : Int) + 1))).1 = (fJ (k + 1), false))
theorem diagOK_all : ((List.range 6).all fun k => k == 0 || diagOK k) = true := by decide +kernel
theorem diag_t {k : Nat} (h1 : 1 ≤ k) (hk : k < 6) : ∃ p, partS false 1099511627776 (2 * ((k : Int) + 1) - 1) (2 * ((k : Int) + 1)) = (p, false) ∧ sqrtS false p = (fJ (k + 1), false) := by
 have h := List.all_eq_true.1 diagOK_all k (List.mem_range.2 hk)
 have z : (k == 0) = false := by simp; omega
 rw [z, Bool.false_or] at h
 unfold diagOK at h
 simp only [Bool.and_eq_true, decide_eq_true_eq] at h
 exact ⟨_, Prod.ext rfl h.1, h.2⟩
end Go.Proofs.YtbophanlmkbfeaaGreatDoor
namespace Go.Proofs.YtbophanlmkbfeaaGreatDoor
theorem ent_zero {c b a x y z : Int} (hc : Ab c 2199023255552) (hb : Ab b 4398046511104) (ha : Ab a 4398046511104) (hx : x = 0) (hy : y = 0) (T : EntQ c b a x y z) : z = 0 := by
 subst hx hy
 have nul (k : Int) (K : Int) (hk : Ab k K) (K1 : K ≤ 4398046511104) (v : Int) (e : mulS false k 0 = (v, false)) : v = 0 := by
  obtain ⟨v', e', q, _⟩ := mul_x (a := k) (b := 0) (K := 4398046511104) (L := 0) (B := 1) (hk.le K1) ⟨by decide, by decide⟩ (by decide) (by decide) (by decide) (by decide)
  rw [e] at e'
  injection e' with e' _
  subst e'
  have := q.lo; have := q.hi
  omega
 have h1 := nul c _ hc (by decide) _ T.h1
 have h2 := T.h2
 rw [h1] at h2
 have h2 := nul b _ hb (by decide) _ h2
 have h3 := nul a _ ha (by decide) _ T.h3
 have h4 := T.h4
 rw [h2, h3] at h4
 have e := sub_near (a := 0) (b := 0) (K := 0) (L := 0) ⟨by decide, by decide⟩ ⟨by decide, by decide⟩ (by decide) (by decide) (by decide)
 rw [e] at h4
 injection h4 with h4 _
 omega
section
variable {C S Q : Iv} {c s q y u v : Int}
theorem Lies.sm0 (L : Lies C S Q c s q) (n m : Nat) (hn : n ≤ 6) : Sm3 (tri c s n m) := by
 cases n with
 | zero =>
  unfold tri
  split
  ·exact Sm3.one
  ·exact Sm3.zero
 | succ n => exact L.sm n (by omega) m
theorem Lies.smb (L : Lies C S Q c s q) (n m : Nat) (hn : n < 6) : Sm3 (if n = 0 then (0, 0, 0) else tri c s (n - 1) m) := by
 split
 ·exact Sm3.zero
 ·exact L.sm0 (n - 1) m (by omega)
theorem Lies.steps (L : Lies C S Q c s q) {k m : Nat} (hk : k < 6) (hm : m < k + 1) :
    Nonempty (EntT c s (fB (k + 1) m) (fA (k + 1) m) (tri c s k m).1 (tri c s k m).2.1 (low (fun n m => (tri c s n m).1) k m) (low (fun n m => (tri c s n m).2.1) k m) (tri c s (k + 1) m).1 (tri c s (k + 1) m).2.1) ∧
    Nonempty (EntQ c (fB (k + 1) m) (fA (k + 1) m) (tri c s k m).2.2 (low (fun n m => (tri c s n m).2.2) k m) (tri c s (k + 1) m).2.2) := by
 obtain ⟨x, e, rfl⟩ := L.ent k hk m hm
 have h := ent_t L.cb L.sb (fB_bd _ _) (fA_bd _ _) (L.sm0 k m (by omega)) (L.smb k m hk) e
 have e1 : (if k = 0 then ((0, 0, 0) : V3) else tri c s (k - 1) m) = (low (fun n m => (tri c s n m).1) k m, low (fun n m => (tri c s n m).2.1) k m, low (fun n m => (tri c s n m).2.2) k m) := by
  unfold low
  by_cases k0 : k = 0
  ·rw [if_pos k0, if_neg (by omega), if_neg (by omega), if_neg (by omega)]
  ·rw [if_neg k0]
   by_cases g : m + 1 ≤ k
   ·rw [if_pos (by omega), if_pos (by omega), if_pos (by omega)]
   ·rw [if_neg (by omega), if_neg (by omega), if_neg (by omega), tri_zero c s (k - 1) m (by omega)]
 rw [e1] at h
 exact h
theorem Lies.qz (L : Lies C S Q c s q) : ∀ n, n ≤ 6 → (tri c s n 0).2.2 = 0
 | 0, _ => rfl
 | n + 1, hn => by
  obtain ⟨T⟩ := (L.steps (k := n) (m := 0) (by omega) (by omega)).2
  refine ent_zero L.cb (fB_bd _ _) (fA_bd _ _) (L.qz n (by omega)) ?_ T
  unfold low
  split
  ·exact L.qz (n - 1) (by omega)
  ·rfl
theorem ab_i64 {x K : Int} (h : Ab x K) (hK : K ≤ 4611686018427387904) : I64 x := ⟨by have := h.lo; omega, by have := h.hi; omega⟩
theorem Lies.tri (L : Lies C S Q c s q) : Nonempty (Tri c s (fun n m => (tri c s n m).1) (fun n m => (tri c s n m).2.1) (fun n m => (tri c s n m).2.2)) := by
 have e11 : Go.Proofs.YtbophanlmkbfeaaGreatDoor.tri c s 1 1 = (s, c, 1099511627776) := by unfold Go.Proofs.YtbophanlmkbfeaaGreatDoor.tri; rw [if_neg (by decide), if_pos rfl]
 refine ⟨⟨rfl, rfl, rfl, by rw [e11], by rw [e11], by rw [e11], L.qz, fun k m => fA (k + 1) m, fun k m => fB (k + 1) m, fun k m hk hm => Classical.choice (root_t hk hm), fun k m hk hm => Classical.choice (L.steps hk hm).1, fun k m hk hm => Classical.choice (L.steps hk hm).2, fun k h1 hk => Classical.choice ?_,
  fun n m hn => ab_i64 (L.sm0 n m hn).p (by decide), fun n m hn => ab_i64 (L.sm0 n m hn).d (by decide), fun n m hn => ab_i64 (L.sm0 n m hn).q (by decide)⟩⟩
 obtain ⟨p, hp, hj⟩ := diag_t h1 hk
 obtain ⟨j, rfl⟩ : ∃ j, k = j + 1 := ⟨k - 1, by omega⟩
 exact dia_t hp hj L.cb L.sb (fJ_bd _) (L.sm0 (j + 1) (j + 1) (by omega)) (L.dia j (by omega))
theorem t_steps (L : Lies C S Q c s q) : mulS false q q = (tS q 0, false) ∧ ∀ k, k < 6 → mulS false (tS q k) q = (tS q (k + 1), false) := by
 have q0 := L.q0; have q1 := L.q1
 constructor
 ·obtain ⟨m, e, _, _⟩ := mul_x (a := q) (b := q) (K := 1168231104512) (L := 1168231104512) (B := 2199023255552) ⟨by omega, q1⟩ ⟨by omega, q1⟩ (by decide) (by decide) (by decide) (by decide)
  show _ = ((mulS false q q).1, false)
  rw [e]
 ·intro k hk
  obtain ⟨_, t0, t1⟩ := t_at q0 q1 L.iq k (by omega)
  have t2 := tB_le k
  obtain ⟨m, e, _, _⟩ := mul_x (a := tS q k) (b := q) (K := 2199023255552) (L := 1168231104512) (B := 4398046511104) ⟨by omega, by omega⟩ ⟨by omega, q1⟩ (by decide) (by decide) (by decide) (by decide)
  show _ = ((mulS false (tS q k) q).1, false)
  rw [e]
theorem term_steps (Z : Sums C S Q c s q y u v) {n m : Nat} (h1 : 1 ≤ n) (h6 : n ≤ 6) (hm : m ≤ n) :
    Nonempty (TermT (n : Int) (m : Int) (tS q n) (wv u v m).1 (wv u v m).2 (gS y n m) (hS y n m) (tri c s n m).1 (tri c s n m).2.1 (tri c s n m).2.2 (innS c s q y u v n (outS c s q y u v (n - 1)) m).1 (innS c s q y u v n (outS c s q y u v (n - 1)) m).2.1 (innS c s q y u v n (outS c s q y u v (n - 1)) m).2.2
      (innS c s q y u v n (outS c s q y u v (n - 1)) (m + 1)).1 (innS c s q y u v n (outS c s q y u v (n - 1)) (m + 1)).2.1 (innS c s q y u v n (outS c s q y u v (n - 1)) (m + 1)).2.2) := by
 obtain ⟨k, rfl⟩ : ∃ k, n = k + 1 := ⟨n - 1, by omega⟩
 rw [show k + 1 - 1 = k by omega]
 have hk : k < 6 := by omega
 obtain ⟨s0, _, _, _⟩ := out_at Z k (by omega)
 obtain ⟨i1, _, _, _⟩ := inn_at Z hk s0 (by omega) (by omega) m (by omega)
 obtain ⟨_, t0, t1'⟩ := t_at Z.L.q0 Z.L.q1 Z.L.iq (k + 1) (by omega)
 have t1 : tS q (k + 1) ≤ 2199023255552 := Int.le_trans t1' (tB_le _)
 obtain ⟨cb, sb, _, _⟩ := wv_at Z.W m (by omega)
 exact term_t (n := ((k + 1 : Nat) : Int)) (m := (m : Int)) (by omega) (by omega) (by omega) (by omega) t0 t1 cb sb (gS_bd Z.y0 Z.y1 (k + 1) m) (hS_bd Z.y0 Z.y1 (k + 1) m) (Z.L.sm k hk m) i1 (by omega) (by omega) (step_good Z hk (by omega))
end
def ringS (u v : Int) (m : Nat) : Int := if m < 7 then (wv u v m).1 else (wv u v (m - 7)).2
theorem Earth.steps {p : V3} {t r : Int} (E : Earth p (yearS t) r) (t0 : 0 ≤ t) (t1 : t ≤ 157766400000) : Nonempty (EarthT p t r E.b.1 E.b.2.1 E.b.2.2) ∧ St3 E.b 2270822400000070564 := by
 obtain ⟨Z⟩ := E.Z.L.tri
 obtain ⟨h0, hn⟩ := t_steps E.Z.L
 have wi := E.Z.W
 obtain ⟨st, _, _, _⟩ := out_at E.Z 6 (by decide)
 obtain ⟨⟨V⟩, sb⟩ := vec_t (w := outS E.c E.s E.q (yearS t) E.u E.v 6) ⟨st.a.le (by decide), st.b.le (by decide), st.c.le (by decide)⟩ E.cb E.sb wi.ub wi.vb E.hb
 refine ⟨⟨⟨E.w, E.c, E.s, E.u, E.v, E.q, ringS E.u E.v, tS E.q, _, _, _, gS (yearS t), hS (yearS t), fun n m => innS E.c E.s E.q (yearS t) E.u E.v n (outS E.c E.s E.q (yearS t) E.u E.v (n - 1)) m, ?_, E.hc, E.hs, ?_, E.hq, rfl, rfl, ?_, Z, ab_i64 E.cb (by decide), ab_i64 E.sb (by decide), h0, hn, fun n m h1 h6 hm => numS_in h1 h6 hm t0 t1, rfl, ?_, ?_, V⟩⟩, sb⟩
 ·unfold vNormS
  show ((normS false p.1 p.2.1 0).1, (normS false p.1 p.2.1 0).2) = _
  rw [E.hw]
 ·unfold lonS
  rcases E.lon with ⟨h, hu, hv⟩ | ⟨h, hu, hv, _, _⟩
  ·rw [if_pos h, hu, hv]
  ·rw [if_neg (by omega), hu]
   show ((E.u, (divS false p.2.1 E.w).1), (divS false p.2.1 E.w).2) = _
   rw [hv]
 ·intro m hm
  obtain ⟨a, b, _, e⟩ := wv_at wi m (by omega)
  have e1 : ringS E.u E.v m = (wv E.u E.v m).1 := if_pos (by omega)
  have e2 : ringS E.u E.v (7 + m) = (wv E.u E.v m).2 := by unfold ringS; rw [if_neg (by omega), show 7 + m - 7 = m by omega]
  have e3 : ringS E.u E.v (m + 1) = (wv E.u E.v (m + 1)).1 := if_pos (by omega)
  have e4 : ringS E.u E.v (8 + m) = (wv E.u E.v (m + 1)).2 := by unfold ringS; rw [if_neg (by omega), show 8 + m - 7 = m + 1 by omega]
  rw [e1, e2, e3, e4]
  exact wave_t wi (a.le (by decide)) (b.le (by decide)) e
 ·intro n h1 h6
  obtain ⟨k, rfl⟩ : ∃ k, n = k + 1 := ⟨n - 1, by omega⟩
  show innS _ _ _ _ _ _ (k + 1) (outS _ _ _ _ _ _ (k + 1 - 1)) (k + 1 + 1) = outS _ _ _ _ _ _ (k + 1 + 1 - 1)
  rw [show k + 1 - 1 = k by omega, show k + 1 + 1 - 1 = k + 1 by omega]
  conv => rhs; unfold outS
 ·intro n m h1 h6 hm
  have e1 : ringS E.u E.v m = (wv E.u E.v m).1 := if_pos (by omega)
  have e2 : ringS E.u E.v (7 + m) = (wv E.u E.v m).2 := by unfold ringS; rw [if_neg (by omega), show 7 + m - 7 = m by omega]
  rw [e1, e2]
  exact Classical.choice (term_steps E.Z h1 h6 hm)
end Go.Proofs.YtbophanlmkbfeaaGreatDoor
namespace Go.Proofs.YtbophanlmkbfeaaGreatDoor
def earR (p : V3) : Int × Bool := normS false p.1 p.2.1 p.2.2
abbrev earIn (p : V3) (t : Int) : Prop := (earR p).2 = false ∧ 6597069766656 ≤ (earR p).1 ∧ (earR p).1 ≤ 10995116277760 ∧ 0 ≤ t ∧ t ≤ 157766400000
def earC (p : V3) : Int := (divS false p.2.2 (earR p).1).1
def earW (p : V3) : Int := (normS false p.1 p.2.1 0).1
def earSn (p : V3) : Int := (divS false (earW p) (earR p).1).1
def earQ (p : V3) : Int := (divS false 7005208482886 (earR p).1).1
def earL (p : V3) : Int × Int := (lonS false p (earW p)).1
def earV (p : V3) (t : Int) : V3 := (vecS false (outS (earC p) (earSn p) (earQ p) (yearS t) (earL p).1 (earL p).2 6) (earC p) (earSn p) (earL p).1 (earL p).2).1
def earS (bad : Bool) (p : V3) (t : Int) : V3 × Bool := if bad = false ∧ earIn p t then (earV p t, false) else ((0, 0, 0), true)
theorem earV_eq {p : V3} {t r : Int} (E : Earth p (yearS t) r) (hr : normS false p.1 p.2.1 p.2.2 = (r, false)) : earV p t = E.b := by
 have e0 : earR p = (r, false) := hr
 have e1 : earC p = E.c := by unfold earC; rw [e0, E.hc]
 have e2 : earW p = E.w := by unfold earW; rw [E.hw]
 have e3 : earSn p = E.s := by unfold earSn; rw [e0, e2, E.hs]
 have e4 : earQ p = E.q := by unfold earQ; rw [e0, E.hq]
 have e5 : earL p = (E.u, E.v) := by
  unfold earL lonS
  rw [e2]
  rcases E.lon with ⟨h, hu, hv⟩ | ⟨h, hu, hv, _, _⟩
  ·rw [if_pos h, hu, hv]
  ·rw [if_neg (by omega), hu]
   show (E.u, (divS false p.2.1 E.w).1) = _
   rw [hv]
 unfold earV
 rw [e1, e3, e4, e5, E.hb]
theorem earS_true (p : V3) (t : Int) : earS true p t = ((0, 0, 0), true) := if_neg (fun h => by cases h.1)
theorem earS_out {p : V3} {t : Int} (h : ¬ earIn p t) : earS false p t = ((0, 0, 0), true) := if_neg (fun k => h k.2)
theorem earS_in {p : V3} {t : Int} (h : earIn p t) : earS false p t = (earV p t, false) := if_pos ⟨rfl, h⟩
theorem ear_at {p : V3} {t : Int} (h : earIn p t) : Nonempty (EarthT p t (earR p).1 (earV p t).1 (earV p t).2.1 (earV p t).2.2) ∧ St3 (earV p t) 2270822400000070564 := by
 obtain ⟨g, r0, r1, t0, t1⟩ := h
 have hr : normS false p.1 p.2.1 p.2.2 = ((earR p).1, false) := Prod.ext rfl g
 obtain ⟨_, y0, y1⟩ := year_in t0 t1
 obtain ⟨E⟩ := earth_at hr r0 r1 y0 y1
 rw [earV_eq E hr]
 exact E.steps t0 t1
end Go.Proofs.YtbophanlmkbfeaaGreatDoor
namespace Go.Proofs.YtbophanlmkbfeaaGreatDoor
open Go.RowKit
set_option maxRecDepth 100000
set_option maxHeartbeats 20000000
theorem lon_near (b : Nat) (p : V3) (r : Int) (w : World) (hw : Fl b false w) (h : r < 1048576) :
    Calls Tryz.prog 168 #[.pointer (some ⟨b, 0, none⟩), .agg #[.int .i64 p.1, .int .i64 p.2.1, .int .i64 p.2.2], .int .i64 r] w fun e w' => e = .returned (.tuple #[.int .i64 1099511627776, .int .i64 0]) ∧ Fl b false w' ∧ Kept b w w' := by
 have hl := hw.lies
 go_enter Tryz.func168, Tryz.ntmps168
 have y1_BF := hw.lies
 go_wp2
 refine bodyPost_ret (v := .tuple #[.int .i64 1099511627776, .int .i64 0]) (by simp [results, Tryz.results168, go_sem]) rfl ?_
 exact ⟨rfl, (hw.alloc _), ((Kept.refl b w).al _)⟩
theorem lon_far (b : Nat) (p : V3) (r u v : Int) (w : World) (hw : Fl b false w) (h : ¬ r < 1048576) (hu : divS false p.1 r = (u, false)) (hv : divS false p.2.1 r = (v, false)) :
    Calls Tryz.prog 168 #[.pointer (some ⟨b, 0, none⟩), .agg #[.int .i64 p.1, .int .i64 p.2.1, .int .i64 p.2.2], .int .i64 r] w fun e w' => e = .returned (.tuple #[.int .i64 u, .int .i64 v]) ∧ Fl b false w' ∧ Kept b w w' := by
 have hl := hw.lies
 go_enter Tryz.func168, Tryz.ntmps168
 have y1_BF := hw.lies
 go_wp2_with fail
 refine wp_region_held_drew (S := fun w' => Arr w.heap.size [.int .i64 p.1, .int .i64 p.2.1, .int .i64 p.2.2] w') (by kernel_rfl) (Arr_at _ _ [.int .i64 p.1, .int .i64 p.2.1, .int .i64 p.2.2] _ (by simp)).drew (fun zH => ?_)
 refine zT 0 rfl (by kernel_rfl) (fun _ _ _ => id) rfl (fun _ _ => by go_simp <;> with_reducible rfl) zH ?_
 simp only [Act.put, zA, zB, zC]
 refine zT 1 rfl (by kernel_rfl) (fun _ _ _ => id) rfl (fun _ _ => by go_simp <;> with_reducible rfl) zH ?_
 simp only [Act.put, zA, zB, zC]
 refine zT 2 rfl (by kernel_rfl) (fun _ _ _ => id) rfl (fun wx hS => by have hc0 : wx.cell? ⟨w.heap.size, 0, none⟩ = some (.int .i64 p.1) := hS.c 0 (zD rfl); go_simp <;> with_reducible rfl) zH ?_
 simp only [Act.put, zA, zB, zC]
 refine zT 3 rfl (by kernel_rfl) (fun _ _ _ => id) rfl (fun _ _ => by go_simp <;> with_reducible rfl) zH ?_
 simp only [Act.put, zA, zB, zC]
 refine zT 5 rfl (by kernel_rfl) (fun _ _ _ => id) rfl (fun _ _ => by go_simp <;> with_reducible rfl) zH ?_
 simp only [Act.put, zA, zB, zC]
 refine zT 6 rfl (by kernel_rfl) (fun _ _ _ => id) rfl (fun _ _ => by go_simp <;> with_reducible rfl) zH ?_
 simp only [Act.put, zA, zB, zC]
 refine zT 7 rfl (by kernel_rfl) (fun _ _ _ => id) rfl (fun wx hS => by have hc1 : wx.cell? ⟨w.heap.size, 1, none⟩ = some (.int .i64 p.2.1) := hS.c 1 (zD rfl); go_simp <;> with_reducible rfl) zH ?_
 simp only [Act.put, zA, zB, zC]
 refine zT 8 rfl (by kernel_rfl) (fun _ _ _ => id) rfl (fun _ _ => by go_simp <;> with_reducible rfl) zH ?_
 simp only [Act.put, zA, zB, zC]
 refine zK 4 (by kernel_rfl) rfl (fun K hK => ?_)
 go_simp
 refine (Div_any b false p.1 r _ (hw.alloc _).drew).mono ?_
 rintro e w1 ⟨rfl, f1, k1⟩
 rw [hu] at f1 ⊢
 dsimp only at f1 ⊢
 have K1 : Kept b w w1 := Kept.trans ((Kept.refl b w).al _).drew k1
 have B0_1 := (Arr_at _ w.heap.size [.int .i64 p.1, .int .i64 p.2.1, .int .i64 p.2.2] _ (by simp)).drew.kept k1 (zG y1_BF)
 have z1 := B0_1.lies
 clear zH
 refine hK.out _ _ B0_1 (fun zH => ?_)
 clear hK K k1
 refine zK 9 (by kernel_rfl) rfl (fun K hK => ?_)
 go_simp
 refine (Div_any b false p.2.1 r _ f1).mono ?_
 rintro e w2 ⟨rfl, f2, k2⟩
 rw [hv] at f2 ⊢
 dsimp only at f2 ⊢
 have K2 := Kept.trans K1 k2
 have B0_2 := B0_1.kept k2 (zG y1_BF)
 have z2 := B0_2.lies
 clear zH
 refine hK.out _ _ B0_2 (fun zH => ?_)
 clear hK K K1 f1 B0_1 k2
 refine zT 10 rfl (by kernel_rfl) (fun _ _ _ => id) rfl (fun _ _ => by go_simp <;> with_reducible rfl) zH ?_
 simp only [Act.put, zA, zB, zC]
 refine zT 11 rfl (by kernel_rfl) (fun _ _ _ => id) rfl (fun _ _ => by go_simp <;> with_reducible rfl) zH ?_
 simp only [Act.put, zA, zB, zC]
 refine wpAnyH_done (by kernel_rfl) ?_ _
 clear zH
 go_wp2
 refine bodyPost_ret (v := .tuple #[.int .i64 u, .int .i64 v]) (by simp [results, Tryz.results168, go_sem]) rfl ?_
 exact ⟨rfl, f2, K2⟩
end Go.Proofs.YtbophanlmkbfeaaGreatDoor
namespace Go.Proofs.YtbophanlmkbfeaaGreatDoor
open Go.RowKit
set_option maxRecDepth 100000
set_option maxHeartbeats 20000000
theorem microteslas_any (b : Nat) (bad : Bool) (x : Int) (w : World) (hw : Fl b bad w) :
    Calls Tryz.prog 227 #[.pointer (some ⟨b, 0, none⟩), .int .i64 x] w fun e w' => e = .returned (.int .i64 ((partS bad 1099511627776 x 10000).1)) ∧ Fl b (partS bad 1099511627776 x 10000).2 w' ∧ Kept b w w' := by
 have hl := hw.lies
 go_enter Tryz.func227, Tryz.ntmps227
 go_wp2_with fail
 refine (Part_any b bad 1099511627776 x 10000 _ hw).mono ?_
 rintro e w1 ⟨rfl, f1, k1⟩
 generalize e1 : partS bad 1099511627776 x 10000 = r1 at f1 ⊢
 have E1 : Hid _ := e1
 clear e1
 have K1 : Kept b w w1 := Kept.trans (Kept.refl b w) k1
 have z1 := K1.size
 clear k1
 go_wp2
 go_ret
 have hs : partS bad 1099511627776 x 10000 = (r1.1, r1.2) := by simp only [E1.out]
 rw [hs]
 exact ⟨rfl, f1, K1⟩
theorem rootOf_w (b : Nat) (bad : Bool) (n : Int) (m : Int) (w : World) (hw : Fl b bad w) (a0 : 0 ≤ n * n) (a6 : n * n ≤ 36) (b0 : 0 ≤ m * m) (b6 : m * m ≤ 36) :
    Calls Tryz.prog 228 #[.pointer (some ⟨b, 0, none⟩), .int .i64 n, .int .i64 m] w fun e w' => e = .returned (.int .i64 ((rootS bad n m).1)) ∧ Fl b (rootS bad n m).2 w' ∧ Kept b w w' := by
 have hl := hw.lies
 go_enter Tryz.func228, Tryz.ntmps228
 go_wp2_with fail
 refine (Sqrt_any b bad (((n * n) - (m * m)) * 1099511627776) _ hw).mono ?_
 rintro e w1 ⟨rfl, f1, k1⟩
 generalize e1 : sqrtS bad (((n * n) - (m * m)) * 1099511627776) = r1 at f1 ⊢
 have E1 : Hid _ := e1
 clear e1
 have K1 : Kept b w w1 := Kept.trans (Kept.refl b w) k1
 have z1 := K1.size
 clear k1
 go_wp2
 go_ret
 have hs : rootS bad n m = (r1.1, r1.2) := by unfold rootS; simp only [E1.out]
 rw [hs]
 exact ⟨rfl, f1, K1⟩
theorem rootOf_any (b : Nat) (bad : Bool) (n m : Int) (w : World) (hw : Fl b bad w) (n0 : 0 ≤ n) (n6 : n ≤ 6) (m0 : 0 ≤ m) (m6 : m ≤ 6) :
    Calls Tryz.prog 228 #[.pointer (some ⟨b, 0, none⟩), .int .i64 n, .int .i64 m] w fun e w' => e = .returned (.int .i64 (rootS bad n m).1) ∧ Fl b (rootS bad n m).2 w' ∧ Kept b w w' := by
 have a := Int.mul_nonneg n0 n0; have a' := Int.mul_le_mul n6 n6 n0 (by decide)
 have c := Int.mul_nonneg m0 m0; have c' := Int.mul_le_mul m6 m6 m0 (by decide)
 exact rootOf_w b bad n m w hw (by omega) (by omega) (by omega) (by omega)
end Go.Proofs.YtbophanlmkbfeaaGreatDoor
namespace Go.Proofs.YtbophanlmkbfeaaGreatDoor
open Go.RowKit
set_option maxRecDepth 100000
set_option maxHeartbeats 20000000
theorem num_hi (b : Nat) (n m t g0 h0 : Int) (w : World) (hw : Fl b false w) (hG0 : Arr 0 (row 54 at0) w) (hG1 : Arr 1 (row 10 yr0) w) (hb : 1 < b) (n1 : 1 ≤ n) (n6 : n ≤ 6) (m0 : 0 ≤ m) (mn : m ≤ n) (ht : cRight t = true) (a2 q : Int) (i : Nat) (hx : n * (n + 1) = a2) (hx0 : 2 ≤ a2) (hx1 : a2 ≤ 42) (hq : Int.tdiv a2 2 = q) (hq0 : 1 ≤ q) (hq1 : q ≤ 21) (hr : q - 1 + m = (i : Int)) (hi : i < 27) (h5 : 5 ≤ i) (hg : partS false 1099511627776 (at0 (i * 2)) 10000 = (g0, false)) (hh : partS false 1099511627776 (at0 (i * 2 + 1)) 10000 = (h0, false)) :
    Calls Tryz.prog 211 #[.pointer (some ⟨b, 0, none⟩), .int .i64 n, .int .i64 m, .int .i64 t] w fun e w' => e = .returned (.tuple #[.int .i64 g0, .int .i64 h0]) ∧ Fl b false w' ∧ Kept b w w' := by
 have hl := hw.lies
 have l_0 := hG0.lies
 have l_1 := hG1.lies
 go_enter Tryz.func211, Tryz.ntmps211
 go_wp2_with fail
 refine (cRight_any t _).mono ?_
 rintro e w1 ⟨rfl, k1⟩
 rw [ht]
 try dsimp only
 have K1 : Kept b w w1 := Kept.trans (Kept.refl b w) (Kept.of_below k1)
 have BF_1 := hw.below k1
 have G0_1 := hG0.below k1
 have G1_1 := hG1.below k1
 have z1 := K1.size
 clear hG0 hG1 k1
 go_wp2_with fail
 refine wp_region_held_drew (S := fun w' => Arr 0 (row 54 at0) w') (by kernel_rfl) G0_1.drew (fun zH => ?_)
 refine zT 0 rfl (by kernel_rfl) (fun _ _ _ => id) rfl (fun _ _ => by go_simp <;> with_reducible rfl) zH ?_
 simp only [Act.put, zA, zB, zC]
 refine zT 1 rfl (by kernel_rfl) (fun _ _ _ => id) rfl (fun _ _ => by go_simp <;> with_reducible rfl) zH ?_
 simp only [Act.put, zA, zB, zC]
 refine zT 2 rfl (by kernel_rfl) (fun _ _ _ => id) rfl (fun _ _ => by have hi0 : (i : Int) < 27 := (by omega); go_simp <;> with_reducible rfl) zH ?_
 simp only [Act.put, zA, zB, zC]
 refine zT 3 rfl (by kernel_rfl) (fun _ _ _ => id) rfl (fun _ _ => by go_simp <;> with_reducible rfl) zH ?_
 simp only [Act.put, zA, zB, zC]
 refine zT 4 rfl (by kernel_rfl) (fun _ _ _ => id) rfl (fun wx hS => by have hc0 : wx.cell? ⟨0, i * 2, none⟩ = some (.int .i64 (at0 (i * 2))) := row_c hS (i * 2) (by omega); go_simp <;> with_reducible rfl) zH ?_
 simp only [Act.put, zA, zB, zC]
 refine zT 6 rfl (by kernel_rfl) (fun _ _ _ => id) rfl (fun _ _ => by go_simp <;> with_reducible rfl) zH ?_
 simp only [Act.put, zA, zB, zC]
 refine zT 7 rfl (by kernel_rfl) (fun _ _ _ => id) rfl (fun _ _ => by go_simp <;> with_reducible rfl) zH ?_
 simp only [Act.put, zA, zB, zC]
 refine zT 8 rfl (by kernel_rfl) (fun _ _ _ => id) rfl (fun _ _ => by have hi0 : (i : Int) < 27 := (by omega); go_simp <;> with_reducible rfl) zH ?_
 simp only [Act.put, zA, zB, zC]
 refine zT 9 rfl (by kernel_rfl) (fun _ _ _ => id) rfl (fun _ _ => by go_simp <;> with_reducible rfl) zH ?_
 simp only [Act.put, zA, zB, zC]
 refine zT 10 rfl (by kernel_rfl) (fun _ _ _ => id) rfl (fun wx hS => by have hc0 : wx.cell? ⟨0, i * 2 + 1, none⟩ = some (.int .i64 (at0 (i * 2 + 1))) := row_c hS (i * 2 + 1) (by omega); go_simp <;> with_reducible rfl) zH ?_
 simp only [Act.put, zA, zB, zC]
 refine zK 5 (by kernel_rfl) rfl (fun K hK => ?_)
 go_simp
 refine (microteslas_any b false (at0 (i * 2)) _ BF_1.drew).mono ?_
 rintro e w2 ⟨rfl, f2, k2⟩
 rw [hg] at f2 ⊢
 dsimp only at f2 ⊢
 have K2 : Kept b w w2 := Kept.trans K1.drew k2
 have G0_2 := G0_1.drew.kept k2 (by omega)
 have G1_2 := G1_1.drew.kept k2 (by omega)
 have z2 := K2.size
 clear zH
 refine hK.out _ _ G0_2 (fun zH => ?_)
 clear hK K K1 BF_1 G0_1 G1_1 k2
 refine zK 11 (by kernel_rfl) rfl (fun K hK => ?_)
 go_simp
 refine (microteslas_any b false (at0 (i * 2 + 1)) _ f2).mono ?_
 rintro e w3 ⟨rfl, f3, k3⟩
 rw [hh] at f3 ⊢
 dsimp only at f3 ⊢
 have K3 := Kept.trans K2 k3
 have G0_3 := G0_2.kept k3 (by omega)
 have G1_3 := G1_2.kept k3 (by omega)
 have z3 := K3.size
 clear zH
 refine hK.out _ _ G0_3 (fun zH => ?_)
 clear hK K K2 f2 G0_2 G1_2 k3
 refine zT 12 rfl (by kernel_rfl) (fun _ _ _ => id) rfl (fun _ _ => by go_simp <;> with_reducible rfl) zH ?_
 simp only [Act.put, zA, zB, zC]
 refine zT 13 rfl (by kernel_rfl) (fun _ _ _ => id) rfl (fun _ _ => by go_simp <;> with_reducible rfl) zH ?_
 simp only [Act.put, zA, zB, zC]
 refine wpAnyH_done (by kernel_rfl) ?_ _
 clear zH
 go_wp2
 refine bodyPost_ret (v := .tuple #[.int .i64 g0, .int .i64 h0]) (by simp [results, Tryz.results211, go_sem]) rfl ?_
 exact ⟨rfl, f3, K3⟩
theorem num_lo (b : Nat) (n m t g0 h0 d y g1 h1 x1 x2 g2 h2 : Int) (w : World) (hw : Fl b false w) (hG0 : Arr 0 (row 54 at0) w) (hG1 : Arr 1 (row 10 yr0) w) (hb : 1 < b) (n1 : 1 ≤ n) (n6 : n ≤ 6) (m0 : 0 ≤ m) (mn : m ≤ n) (ht : cRight t = true) (a2 q : Int) (i : Nat) (hx : n * (n + 1) = a2) (hx0 : 2 ≤ a2) (hx1 : a2 ≤ 42) (hq : Int.tdiv a2 2 = q) (hq0 : 1 ≤ q) (hq1 : q ≤ 21) (hr : q - 1 + m = (i : Int)) (hi : i < 27) (h5 : i < 5) (hg : partS false 1099511627776 (at0 (i * 2)) 10000 = (g0, false)) (hh : partS false 1099511627776 (at0 (i * 2 + 1)) 10000 = (h0, false)) (hd : cDaysS false t = (d, false)) (hy : divS false d 401596622045184 = (y, false)) (hgy : partS false 1099511627776 (yr0 (i * 2)) 10000 = (g1, false)) (hhy : partS false 1099511627776 (yr0 (i * 2 + 1)) 10000 = (h1, false)) (hmg : mulS false y g1 = (x1, false)) (hmh : mulS false y h1 = (x2, false)) (hag : addS false g0 x1 = (g2, false)) (hah : addS false h0 x2 = (h2, false)) :
    Calls Tryz.prog 211 #[.pointer (some ⟨b, 0, none⟩), .int .i64 n, .int .i64 m, .int .i64 t] w fun e w' => e = .returned (.tuple #[.int .i64 g2, .int .i64 h2]) ∧ Fl b false w' ∧ Kept b w w' := by
 have hl := hw.lies
 have l_0 := hG0.lies
 have l_1 := hG1.lies
 go_enter Tryz.func211, Tryz.ntmps211
 go_wp2_with fail
 refine (cRight_any t _).mono ?_
 rintro e w1 ⟨rfl, k1⟩
 rw [ht]
 try dsimp only
 have K1 : Kept b w w1 := Kept.trans (Kept.refl b w) (Kept.of_below k1)
 have BF_1 := hw.below k1
 have G0_1 := hG0.below k1
 have G1_1 := hG1.below k1
 have z1 := K1.size
 clear hG0 hG1 k1
 go_wp2_with fail
 refine wp_region_held_drew (S := fun w' => Arr 0 (row 54 at0) w') (by kernel_rfl) G0_1.drew (fun zH => ?_)
 refine zT 0 rfl (by kernel_rfl) (fun _ _ _ => id) rfl (fun _ _ => by go_simp <;> with_reducible rfl) zH ?_
 simp only [Act.put, zA, zB, zC]
 refine zT 1 rfl (by kernel_rfl) (fun _ _ _ => id) rfl (fun _ _ => by go_simp <;> with_reducible rfl) zH ?_
 simp only [Act.put, zA, zB, zC]
 refine zT 2 rfl (by kernel_rfl) (fun _ _ _ => id) rfl (fun _ _ => by have hi0 : (i : Int) < 27 := (by omega); go_simp <;> with_reducible rfl) zH ?_
 simp only [Act.put, zA, zB, zC]
 refine zT 3 rfl (by kernel_rfl) (fun _ _ _ => id) rfl (fun _ _ => by go_simp <;> with_reducible rfl) zH ?_
 simp only [Act.put, zA, zB, zC]
 refine zT 4 rfl (by kernel_rfl) (fun _ _ _ => id) rfl (fun wx hS => by have hc0 : wx.cell? ⟨0, i * 2, none⟩ = some (.int .i64 (at0 (i * 2))) := row_c hS (i * 2) (by omega); go_simp <;> with_reducible rfl) zH ?_
 simp only [Act.put, zA, zB, zC]
 refine zT 6 rfl (by kernel_rfl) (fun _ _ _ => id) rfl (fun _ _ => by go_simp <;> with_reducible rfl) zH ?_
 simp only [Act.put, zA, zB, zC]
 refine zT 7 rfl (by kernel_rfl) (fun _ _ _ => id) rfl (fun _ _ => by go_simp <;> with_reducible rfl) zH ?_
 simp only [Act.put, zA, zB, zC]
 refine zT 8 rfl (by kernel_rfl) (fun _ _ _ => id) rfl (fun _ _ => by have hi0 : (i : Int) < 27 := (by omega); go_simp <;> with_reducible rfl) zH ?_
 simp only [Act.put, zA, zB, zC]
 refine zT 9 rfl (by kernel_rfl) (fun _ _ _ => id) rfl (fun _ _ => by go_simp <;> with_reducible rfl) zH ?_
 simp only [Act.put, zA, zB, zC]
 refine zT 10 rfl (by kernel_rfl) (fun _ _ _ => id) rfl (fun wx hS => by have hc0 : wx.cell? ⟨0, i * 2 + 1, none⟩ = some (.int .i64 (at0 (i * 2 + 1))) := row_c hS (i * 2 + 1) (by omega); go_simp <;> with_reducible rfl) zH ?_
 simp only [Act.put, zA, zB, zC]
 refine zK 5 (by kernel_rfl) rfl (fun K hK => ?_)
 go_simp
 refine (microteslas_any b false (at0 (i * 2)) _ BF_1.drew).mono ?_
 rintro e w2 ⟨rfl, f2, k2⟩
 rw [hg] at f2 ⊢
 dsimp only at f2 ⊢
 have K2 : Kept b w w2 := Kept.trans K1.drew k2
 have G0_2 := G0_1.drew.kept k2 (by omega)
 have G1_2 := G1_1.drew.kept k2 (by omega)
 have z2 := K2.size
 clear zH
 refine hK.out _ _ G0_2 (fun zH => ?_)
 clear hK K K1 BF_1 G0_1 G1_1 k2
 refine zK 11 (by kernel_rfl) rfl (fun K hK => ?_)
 go_simp
 refine (microteslas_any b false (at0 (i * 2 + 1)) _ f2).mono ?_
 rintro e w3 ⟨rfl, f3, k3⟩
 rw [hh] at f3 ⊢
 dsimp only at f3 ⊢
 have K3 := Kept.trans K2 k3
 have G0_3 := G0_2.kept k3 (by omega)
 have G1_3 := G1_2.kept k3 (by omega)
 have z3 := K3.size
 clear zH
 refine hK.out _ _ G0_3 (fun zH => ?_)
 clear hK K K2 f2 G0_2 G1_2 k3
 refine zT 12 rfl (by kernel_rfl) (fun _ _ _ => id) rfl (fun _ _ => by go_simp <;> with_reducible rfl) zH ?_
 simp only [Act.put, zA, zB, zC]
 refine zT 13 rfl (by kernel_rfl) (fun _ _ _ => id) rfl (fun _ _ => by go_simp <;> with_reducible rfl) zH ?_
 simp only [Act.put, zA, zB, zC]
 refine wpAnyH_done (by kernel_rfl) ?_ _
 clear zH
 go_wp2_with fail
 refine (cDays_any b false t _ f3).mono ?_
 rintro e w4 ⟨rfl, f4, k4⟩
 rw [hd] at f4 ⊢
 dsimp only at f4 ⊢
 have K4 := Kept.trans K3 k4
 have G0_4 := G0_3.kept k4 (by omega)
 have G1_4 := G1_3.kept k4 (by omega)
 have z4 := K4.size
 clear K3 f3 G0_3 G1_3 k4
 go_wp2_with fail
 refine (Div_any b false d 401596622045184 _ f4).mono ?_
 rintro e w5 ⟨rfl, f5, k5⟩
 rw [hy] at f5 ⊢
 dsimp only at f5 ⊢
 have K5 := Kept.trans K4 k5
 have G0_5 := G0_4.kept k5 (by omega)
 have G1_5 := G1_4.kept k5 (by omega)
 have z5 := K5.size
 clear K4 f4 G0_4 G1_4 k5
 have c5_G1_0 : w5.cell? ⟨1, i * 2, none⟩ = some (.int .i64 (yr0 (i * 2))) := row_c G1_5 (i * 2) (by omega)
 have i5_1 : (i : Int) < 5 := by omega
 go_wp2_with fail
 refine (microteslas_any b false (yr0 (i * 2)) _ f5).mono ?_
 rintro e w6 ⟨rfl, f6, k6⟩
 rw [hgy] at f6 ⊢
 dsimp only at f6 ⊢
 have K6 := Kept.trans K5 k6
 have G0_6 := G0_5.kept k6 (by omega)
 have G1_6 := G1_5.kept k6 (by omega)
 have z6 := K6.size
 clear c5_G1_0 i5_1 K5 f5 G0_5 G1_5 k6
 go_wp2_with fail
 refine (Mul_any b false y g1 _ f6).mono ?_
 rintro e w7 ⟨rfl, f7, k7⟩
 rw [hmg] at f7 ⊢
 dsimp only at f7 ⊢
 have K7 := Kept.trans K6 k7
 have G0_7 := G0_6.kept k7 (by omega)
 have G1_7 := G1_6.kept k7 (by omega)
 have z7 := K7.size
 clear K6 f6 G0_6 G1_6 k7
 go_wp2_with fail
 refine (Add_any b false g0 x1 _ f7).mono ?_
 rintro e w8 ⟨rfl, f8, k8⟩
 rw [hag] at f8 ⊢
 dsimp only at f8 ⊢
 have K8 := Kept.trans K7 k8
 have G0_8 := G0_7.kept k8 (by omega)
 have G1_8 := G1_7.kept k8 (by omega)
 have z8 := K8.size
 clear K7 f7 G0_7 G1_7 k8
 have c8_G1_0 : w8.cell? ⟨1, i * 2 + 1, none⟩ = some (.int .i64 (yr0 (i * 2 + 1))) := row_c G1_8 (i * 2 + 1) (by omega)
 have i8_1 : (i : Int) < 5 := by omega
 go_wp2_with fail
 refine (microteslas_any b false (yr0 (i * 2 + 1)) _ f8).mono ?_
 rintro e w9 ⟨rfl, f9, k9⟩
 rw [hhy] at f9 ⊢
 dsimp only at f9 ⊢
 have K9 := Kept.trans K8 k9
 have G0_9 := G0_8.kept k9 (by omega)
 have G1_9 := G1_8.kept k9 (by omega)
 have z9 := K9.size
 clear c8_G1_0 i8_1 K8 f8 G0_8 G1_8 k9
 go_wp2_with fail
 refine (Mul_any b false y h1 _ f9).mono ?_
 rintro e w10 ⟨rfl, f10, k10⟩
 rw [hmh] at f10 ⊢
 dsimp only at f10 ⊢
 have K10 := Kept.trans K9 k10
 have G0_10 := G0_9.kept k10 (by omega)
 have G1_10 := G1_9.kept k10 (by omega)
 have z10 := K10.size
 clear K9 f9 G0_9 G1_9 k10
 go_wp2_with fail
 refine (Add_any b false h0 x2 _ f10).mono ?_
 rintro e w11 ⟨rfl, f11, k11⟩
 rw [hah] at f11 ⊢
 dsimp only at f11 ⊢
 have K11 := Kept.trans K10 k11
 have G0_11 := G0_10.kept k11 (by omega)
 have G1_11 := G1_10.kept k11 (by omega)
 have z11 := K11.size
 clear K10 f10 G0_10 G1_10 k11
 go_wp2
 refine bodyPost_ret (v := .tuple #[.int .i64 g2, .int .i64 h2]) (by simp [results, Tryz.results211, go_sem]) rfl ?_
 exact ⟨rfl, f11, K11⟩
end Go.Proofs.YtbophanlmkbfeaaGreatDoor
