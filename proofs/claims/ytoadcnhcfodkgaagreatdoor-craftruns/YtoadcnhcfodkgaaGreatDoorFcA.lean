/-
  The field's triangle in crude bounds: no step of it overflows, for the seat YtoadcnhcfodkgaaGreatDoor. No Go text in sight.
-/
import Derived.Test.YtoadcnhcfodkgaaGreatDoorFldB
import Derived.Test.YtoadcnhcfodkgaaGreatDoorFldE
import Derived.Test.YtoadcnhcfodkgaaGreatDoorFStep
namespace Go.Proofs.YtoadcnhcfodkgaaGreatDoor

theorem mul1 {a b L : Int} (ha : Ab a 1099511627776) (hb : Ab b L) (h0 : 0 ≤ L) (hL : L ≤ 72057594037927936) : ∃ m, mulS false a b = (m, false) ∧ Ab m (L + 1) := by
  obtain ⟨m, e, _, h⟩ := mul_x (B := L + 1) ha hb (by omega) (by decide) (by omega) (by omega)
  exact ⟨m, e, h⟩
theorem mul4 {a b L : Int} (ha : Ab a 3738339534438) (hb : Ab b L) (h0 : 0 ≤ L) (hL : L ≤ 72057594037927936) : ∃ m, mulS false a b = (m, false) ∧ Ab m (17 * L / 5 + 2) := by
  obtain ⟨m, e, _, h⟩ := mul_x (B := 17 * L / 5 + 2) ha hb (by omega) (by decide) (by omega) (by omega)
  exact ⟨m, e, h⟩
/-- P and Q within A, D within B. -/
structure Sb (A B : Int) (x : V3) : Prop where
  a0 : 0 ≤ A
  b0 : 0 ≤ B
  p : Ab x.1 A
  d : Ab x.2.1 B
  q : Ab x.2.2 A
theorem ent_c {c s b a A B A' B' : Int} {x y : V3} (hc : Ab c 1099511627776) (hs : Ab s 1099511627776) (hb : Ab b 3738339534438) (ha : Ab a 1099511627776) (X : Sb A B x) (Y : Sb A' B' y) (hA : A ≤ 18014398509481984) (hB : B ≤ 18014398509481984) (hA' : A' ≤ 18014398509481984) (hB' : B' ≤ 18014398509481984) :
    ∃ z, entS false c s b a x y = (z, false) ∧ Sb (17 * A / 5 + A' + 12) (17 * (A + B) / 5 + B' + 20) z ∧ Nonempty (EntT c s b a x.1 x.2.1 y.1 y.2.1 z.1 z.2.1) ∧ Nonempty (EntQ c b a x.2.2 y.2.2 z.2.2) := by
  have a0 := X.a0; have b0 := X.b0; have a1 := Y.a0; have b1' := Y.b0
  obtain ⟨v1, h1, b1⟩ := mul1 hc X.p (by omega) (by omega)
  obtain ⟨v2, h2, b2⟩ := mul4 hb b1 (by omega) (by omega)
  obtain ⟨v3, h3, b3⟩ := mul1 ha Y.p (by omega) (by omega)
  have h4 := sub_near b2 b3 (by omega) (by omega) (by omega)
  obtain ⟨v5, h5, b5⟩ := mul1 hc X.d (by omega) (by omega)
  obtain ⟨v6, h6, b6⟩ := mul1 hs X.p (by omega) (by omega)
  have h7 := sub_near b5 b6 (by omega) (by omega) (by omega)
  obtain ⟨v8, h8, b8⟩ := mul4 hb (b5.sub b6) (by omega) (by omega)
  obtain ⟨v9, h9, b9⟩ := mul1 ha Y.d (by omega) (by omega)
  have h10 := sub_near b8 b9 (by omega) (by omega) (by omega)
  obtain ⟨v11, h11, b11⟩ := mul1 hc X.q (by omega) (by omega)
  obtain ⟨v12, h12, b12⟩ := mul4 hb b11 (by omega) (by omega)
  obtain ⟨v13, h13, b13⟩ := mul1 ha Y.q (by omega) (by omega)
  have h14 := sub_near b12 b13 (by omega) (by omega) (by omega)
  refine ⟨(v2 - v3, v8 - v9, v12 - v13), ?_, ⟨by omega, by omega, (b2.sub b3).le (by omega), (b8.sub b9).le (by omega), (b12.sub b13).le (by omega)⟩, ⟨⟨v1, v2, v3, v5, v6, v5 - v6, v8, v9, h1, h2, h3, h4, h5, h6, h7, h8, h9, h10⟩⟩, ⟨⟨v11, v12, v13, h11, h12, h13, h14⟩⟩⟩
  unfold entS
  simp only [h1, h2, h3, h4, h5, h6, h7, h8, h9, h10, h11, h12, h13, h14]
theorem dia_c {n c s j p A B : Int} {x : V3} (hp : partS false 1099511627776 (2 * n - 1) (2 * n) = (p, false)) (hj' : sqrtS false p = (j, false)) (hc : Ab c 1099511627776) (hs : Ab s 1099511627776) (hj : Ab j 3738339534438) (X : Sb A B x) (hA : A ≤ 18014398509481984) (hB : B ≤ 18014398509481984) :
    ∃ z, diaS false c s j x = (z, false) ∧ Sb (17 * A / 5 + 12) (17 * (A + B) / 5 + 20) z ∧ Nonempty (DiaT n c s x.1 x.2.1 x.2.2 z.1 z.2.1 z.2.2) := by
  have a0 := X.a0; have b0 := X.b0
  obtain ⟨v1, h1, b1⟩ := mul1 hs X.p (by omega) (by omega)
  obtain ⟨v2, h2, b2⟩ := mul4 hj b1 (by omega) (by omega)
  obtain ⟨v3, h3, b3⟩ := mul1 hs X.d (by omega) (by omega)
  obtain ⟨v4, h4, b4⟩ := mul1 hc X.p (by omega) (by omega)
  have h5 := add_near b3 b4 (by omega) (by omega) (by omega)
  obtain ⟨v6, h6, b6⟩ := mul4 hj (b3.add b4) (by omega) (by omega)
  obtain ⟨v7, h7, b7⟩ := mul1 hs X.q (by omega) (by omega)
  obtain ⟨v8, h8, b8⟩ := mul4 hj b7 (by omega) (by omega)
  refine ⟨(v2, v6, v8), ?_, ⟨by omega, by omega, b2.le (by omega), b6.le (by omega), b8.le (by omega)⟩, ⟨⟨p, j, v1, v3, v4, v3 + v4, v7, hp, hj', h1, h2, h3, h4, h5, h6, h7, h8⟩⟩⟩
  unfold diaS
  simp only [h1, h2, h3, h4, h5, h6, h7, h8]
theorem fA_one (n m : Nat) : Ab (fA n m) 1099511627776 := by unfold fA; split <;> exact ⟨by decide, by decide⟩
theorem fB_34 (n m : Nat) : Ab (fB n m) 3738339534438 := by unfold fB; split <;> exact ⟨by decide, by decide⟩
theorem fJ_34 (n : Nat) : Ab (fJ n) 3738339534438 := by unfold fJ; split <;> exact ⟨by decide, by decide⟩
/-- A wave's next: it is not twice as great. -/
theorem wave_c {C S u v W : Int} (ub : Ab u 1099511627776) (vb : Ab v 1099511627776) (Cb : Ab C W) (Sb : Ab S W) (w0 : 0 ≤ W) (hW : W ≤ 1125899906842624) : ∃ C' S', waveS false C S u v = ((C', S'), false) ∧ Ab C' (2 * W + 2) ∧ Ab S' (2 * W + 2) ∧ Nonempty (WaveT C S u v C' S') := by
  have cm {a b L : Int} (ha : Ab a L) (hb : Ab b 1099511627776) (h0 : 0 ≤ L) (hL : L ≤ 72057594037927936) : ∃ m, mulS false a b = (m, false) ∧ Ab m (L + 1) := by
    obtain ⟨m, e, _, h⟩ := mul_x (B := L + 1) ha hb (by omega) (by omega) (by decide) (by omega)
    exact ⟨m, e, h⟩
  obtain ⟨m1, h1, b1⟩ := cm Cb ub w0 (by omega)
  obtain ⟨m2, h2, b2⟩ := cm Sb vb w0 (by omega)
  have h3 := sub_near b1 b2 (by omega) (by omega) (by omega)
  obtain ⟨m4, h4, b4⟩ := cm Sb ub w0 (by omega)
  obtain ⟨m5, h5, b5⟩ := cm Cb vb w0 (by omega)
  have h6 := add_near b4 b5 (by omega) (by omega) (by omega)
  refine ⟨m1 - m2, m4 + m5, ?_, (b1.sub b2).le (by omega), (b4.add b5).le (by omega), ⟨⟨m1, m2, m4, m5, h1, h2, h3, h4, h5, h6⟩⟩⟩
  unfold waveS
  simp only [h1, h2, h3, h4, h5, h6]
def fcW : Nat → Int
  | 0 => 1099511627776
  | n + 1 => 2 * fcW n + 2
theorem fcW_le {n : Nat} (h : n ≤ 6) : 0 ≤ fcW n ∧ fcW n ≤ 1125899906842624 := by
  obtain rfl | rfl | rfl | rfl | rfl | rfl | rfl : n = 0 ∨ n = 1 ∨ n = 2 ∨ n = 3 ∨ n = 4 ∨ n = 5 ∨ n = 6 := by omega
  all_goals decide +kernel
theorem wv_c {u v : Int} (ub : Ab u 1099511627776) (vb : Ab v 1099511627776) : ∀ m, m ≤ 6 → Ab (wv u v m).1 (fcW m) ∧ Ab (wv u v m).2 (fcW m)
  | 0, _ => ⟨show Ab 1099511627776 1099511627776 from ⟨by decide, by decide⟩, show Ab 0 1099511627776 from ⟨by decide, by decide⟩⟩
  | m + 1, h => by
    obtain ⟨i1, i2⟩ := wv_c ub vb m (by omega)
    obtain ⟨w0, w1⟩ := fcW_le (n := m) (by omega)
    obtain ⟨C', S', e, b1, b2, _⟩ := wave_c ub vb i1 i2 w0 w1
    rw [wv, e, fcW]
    exact ⟨b1, b2⟩
theorem wave_ct {u v : Int} (ub : Ab u 1099511627776) (vb : Ab v 1099511627776) {m : Nat} (h : m < 6) : Nonempty (WaveT (wv u v m).1 (wv u v m).2 u v (wv u v (m + 1)).1 (wv u v (m + 1)).2) := by
  obtain ⟨i1, i2⟩ := wv_c ub vb m (by omega)
  obtain ⟨w0, w1⟩ := fcW_le (n := m) (by omega)
  obtain ⟨C', S', e, _, _, T⟩ := wave_c ub vb i1 i2 w0 w1
  rw [show wv u v (m + 1) = (C', S') by rw [wv, e]]
  exact T
end Go.Proofs.YtoadcnhcfodkgaaGreatDoor
