/-
  Where the flow goes bad the code's Apart is false, for the seat YtoadcnhcfodkgaaGreatDoor. No Go text in sight.
-/
import Derived.Test.YtoadcnhcfodkgaaGreatDoorApA
import Derived.Test.YtoadcnhcfodkgaaGreatDoorVNear
import Derived.Test.YtoadcnhcfodkgaaGreatDoorNxK
namespace Go.Proofs.YtoadcnhcfodkgaaGreatDoor
open Go.RowKit

theorem mul_low {x y : Int} (hx : x.natAbs ≤ 1099511627776) (hy : y.natAbs ≤ 1099511627776) : ∃ m, mulS false x y = (m, false) ∧ m.natAbs ≤ 1099511627777 := by
  obtain ⟨m, e, _⟩ := mulS_small x y (by omega) (by omega)
  have h := Nx.mulS_near (x := x) (y := y) (by rw [e])
  rw [e] at h
  dsimp only at h
  have := Nat.mul_le_mul hx hy
  exact ⟨m, e, by omega⟩
theorem dot_good {u v : V3} (h1 : u.1.natAbs ≤ 1099511627776) (h2 : u.2.1.natAbs ≤ 1099511627776) (h3 : u.2.2.natAbs ≤ 1099511627776) (k1 : v.1.natAbs ≤ 1099511627776) (k2 : v.2.1.natAbs ≤ 1099511627776) (k3 : v.2.2.natAbs ≤ 1099511627776) : (vDotS false u v).2 = false := by
  obtain ⟨a, e1, a1⟩ := mul_low h1 k1
  obtain ⟨b, e2, b1⟩ := mul_low h2 k2
  obtain ⟨c, e3, c1⟩ := mul_low h3 k3
  have s1 := addS_good a b (numB_of (by omega)) (numB_of (by omega)) (numB_of (by omega))
  have s2 := addS_good (a + b) c (numB_of (by omega)) (numB_of (by omega)) (numB_of (by omega))
  unfold vDotS
  simp only [e1, e2, e3, s1, s2]
theorem uni_true (p : V3) : (Nx.vUniS true p).2 = true := by
  unfold Nx.vUniS
  rw [normS_true, if_pos (by decide)]
theorem cross_true (p q : V3) : (vCrossS true p q).2 = true := by
  unfold vCrossS
  simp only [mulS_true, subS_true, soundS_yes]
theorem uni_three {p : V3} (h : (Nx.vUniS false p).2 = false) : (Nx.vUniS false p).1.1.natAbs ≤ 1099511627776 ∧ (Nx.vUniS false p).1.2.1.natAbs ≤ 1099511627776 ∧ (Nx.vUniS false p).1.2.2.natAbs ≤ 1099511627776 := by
  have k := Nx.uni_low (p := p) (u := (Nx.vUniS false p).1) (Prod.ext rfl h)
  generalize (Nx.vUniS false p).1 = u at k ⊢
  change (Nat.ble u.1.natAbs 1099511627776 && (Nat.ble u.2.1.natAbs 1099511627776 && (Nat.ble u.2.2.natAbs 1099511627776 && true))) = true at k
  simp only [Bool.and_eq_true, Nat.ble_eq, and_true] at k
  exact k
theorem ap_false {bad : Bool} {p q : V3} (h : (apA bad p q).2 = true) : (apA bad p q).1 = false := by
  unfold apA partsA at h ⊢
  dsimp only at h ⊢
  cases e4 : (Nx.vNrmS (vCrossS (Nx.vUniS (Nx.vUniS bad p).2 q).2 (Nx.vUniS bad p).1 (Nx.vUniS (Nx.vUniS bad p).2 q).1).2 (vCrossS (Nx.vUniS (Nx.vUniS bad p).2 q).2 (Nx.vUniS bad p).1 (Nx.vUniS (Nx.vUniS bad p).2 q).1).1).2
  · exfalso
    rw [e4] at h
    have f3 : (vCrossS (Nx.vUniS (Nx.vUniS bad p).2 q).2 (Nx.vUniS bad p).1 (Nx.vUniS (Nx.vUniS bad p).2 q).1).2 = false := by
      cases e : (vCrossS (Nx.vUniS (Nx.vUniS bad p).2 q).2 (Nx.vUniS bad p).1 (Nx.vUniS (Nx.vUniS bad p).2 q).1).2
      · rfl
      · rw [e] at e4
        unfold Nx.vNrmS at e4
        rw [normS_true] at e4
        cases e4
    have f2 : (Nx.vUniS (Nx.vUniS bad p).2 q).2 = false := by
      cases e : (Nx.vUniS (Nx.vUniS bad p).2 q).2
      · rfl
      · rw [e, cross_true] at f3
        cases f3
    have f1 : (Nx.vUniS bad p).2 = false := by
      cases e : (Nx.vUniS bad p).2
      · rfl
      · rw [e, uni_true] at f2
        cases f2
    have f0 : bad = false := by
      cases bad
      · rfl
      · rw [uni_true] at f1
        cases f1
    subst f0
    rw [f1] at f2 h
    obtain ⟨a, b, c⟩ := uni_three f1
    obtain ⟨a', b', c'⟩ := uni_three f2
    rw [dot_good a b c a' b' c'] at h
    cases h
  · have z : (Nx.vNrmS (vCrossS (Nx.vUniS (Nx.vUniS bad p).2 q).2 (Nx.vUniS bad p).1 (Nx.vUniS (Nx.vUniS bad p).2 q).1).2 (vCrossS (Nx.vUniS (Nx.vUniS bad p).2 q).2 (Nx.vUniS bad p).1 (Nx.vUniS (Nx.vUniS bad p).2 q).1).1).1 = 0 := Nx.normS_zb _ _ _ _ e4
    rw [z]
    rfl
end Go.Proofs.YtoadcnhcfodkgaaGreatDoor
