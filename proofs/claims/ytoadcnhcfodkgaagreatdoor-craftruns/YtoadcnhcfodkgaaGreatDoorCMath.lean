/-
  A day later the Earth has turned once, and 18914669620 last bits more, to the bit, for the seat YtoadcnhcfodkgaaGreatDoor. No Go text in sight.
-/
import Derived.Test.YtoadcnhcfodkgaaGreatDoorMath
namespace Go.Proofs.YtoadcnhcfodkgaaGreatDoor
open Go.RowKit

theorem rnd_more (n k : Int) {d : Int} (hd : 0 < d) : rnd (n + k * d) d = rnd n d + k := by
  unfold rnd
  rw [show n + k * d + d / 2 = n + d / 2 + k * d by omega, Int.add_mul_ediv_right _ _ (by omega)]
theorem part_up {a p q : Int} (ha : 0 ≤ a) (ha' : a ≤ 4611686018427387904) (hp : 0 ≤ p) (hp' : p ≤ 4611686018427387904) (hq : 0 < q) (hq' : q ≤ 4611686018427387904) (h : rnd (a * p) q ≤ 4611686018427387904) : partS false a p q = (rnd (a * p) q, false) := by
  have n1 : numB a = true := by unfold numB; simp; omega
  have n2 : numB p = true := by unfold numB; simp; omega
  have n3 : numB q = true := by unfold numB; simp; omega
  rw [partS_yes (by unfold tk; simp [n1, n2, n3]) (by simp; omega)]
  have e1 : sz a = a := by unfold sz; rw [if_neg (by omega)]
  have e2 : sz p = p := by unfold sz; rw [if_neg (by omega)]
  have e3 : sz q = q := by unfold sz; rw [if_neg (by omega)]
  rw [e1, e2, e3, decide_eq_false (by omega), decide_eq_false (by omega), decide_eq_false (by omega)]
  unfold out sgnd
  rw [if_pos h, decide_eq_false (by omega)]
  rfl
theorem add_up {a b : Int} (ha : 0 ≤ a) (hb : 0 ≤ b) (h : a + b ≤ 4611686018427387904) : addS false a b = (a + b, false) := by
  have n1 : numB a = true := by unfold numB; simp; omega
  have n2 : numB b = true := by unfold numB; simp; omega
  have n3 : numB (a + b) = true := by unfold numB; simp; omega
  rw [addS_yes (by unfold tk; simp [n1, n2])]
  unfold gv
  rw [n3]
  rfl
theorem mod_up {a m : Int} (ha : -4611686018427387904 ≤ a) (ha' : a ≤ 4611686018427387904) (hm : 0 < m) (hm' : m ≤ 4611686018427387904) : modS false a m = (a % m, false) := by
  have n1 : numB a = true := by unfold numB; simp; omega
  have n2 : numB m = true := by unfold numB; simp; omega
  exact modS_yes (by unfold tk; simp [n1, n2]) hm
/-- What Days and Turn work, at a tick and a day later. -/
structure Daily (t d p q x : Int) : Prop where
  day : partS false 1099511627776 t 86400000 = (d, false)
  day' : partS false 1099511627776 (t + 86400000) 86400000 = (d + 1099511627776, false)
  rem : (t + 86400000) % 86400000 = t % 86400000
  part : partS false 6908435304716 (t % 86400000) 86400000 = (p, false)
  add : addS false 5399947124839 p = (5399947124839 + p, false)
  mul : mulS false 18914669620 d = (q, false)
  mul' : mulS false 18914669620 (d + 1099511627776) = (q + 18914669620, false)
  sum : addS false (5399947124839 + p) q = (x, false)
  sum' : addS false (5399947124839 + p) (q + 18914669620) = (x + 18914669620, false)
  mod : modS false x 6908435304716 = (x % 6908435304716, false)
  mod' : modS false (x + 18914669620) 6908435304716 = ((x + 18914669620) % 6908435304716, false)
  gap : modS false ((x + 18914669620) % 6908435304716 - x % 6908435304716) 6908435304716 = (18914669620, false)
theorem daily {t : Int} (h0 : 0 ≤ t) (h1 : t ≤ 157680000000) : ∃ d p q x, Daily t d p q x := by
  have d0 : 0 ≤ rnd (1099511627776 * t) 86400000 ∧ rnd (1099511627776 * t) 86400000 ≤ 2007708232318976 := by unfold rnd; omega
  have r0 : 0 ≤ t % 86400000 ∧ t % 86400000 < 86400000 := by omega
  have p0 : 0 ≤ rnd (6908435304716 * (t % 86400000)) 86400000 ∧ rnd (6908435304716 * (t % 86400000)) 86400000 ≤ 6908435304716 := by unfold rnd; omega
  have e1 : rnd (1099511627776 * (t + 86400000)) 86400000 = rnd (1099511627776 * t) 86400000 + 1099511627776 := by
    rw [show 1099511627776 * (t + 86400000) = 1099511627776 * t + 1099511627776 * 86400000 by omega]
    exact rnd_more _ _ (by decide)
  generalize hd : rnd (1099511627776 * t) 86400000 = d at d0 e1
  generalize hp : rnd (6908435304716 * (t % 86400000)) 86400000 = p at p0
  have q0 : 0 ≤ rnd (18914669620 * d) 1099511627776 ∧ rnd (18914669620 * d) 1099511627776 ≤ 35000000000000 := by unfold rnd; omega
  have e2 : rnd (18914669620 * (d + 1099511627776)) 1099511627776 = rnd (18914669620 * d) 1099511627776 + 18914669620 := by
    rw [show 18914669620 * (d + 1099511627776) = 18914669620 * d + 18914669620 * 1099511627776 by omega]
    exact rnd_more _ _ (by decide)
  generalize hq : rnd (18914669620 * d) 1099511627776 = q at q0 e2
  refine ⟨d, p, q, 5399947124839 + p + q, ?_⟩
  constructor
  · rw [part_up (by decide) (by decide) h0 (by omega) (by decide) (by decide) (by omega), hd]
  · rw [part_up (by decide) (by decide) (by omega) (by omega) (by decide) (by decide) (by omega), e1]
  · omega
  · rw [part_up (by decide) (by decide) (by omega) (by omega) (by decide) (by decide) (by omega), hp]
  · exact add_up (by decide) (by omega) (by omega)
  · unfold mulS; rw [part_up (by decide) (by decide) (by omega) (by omega) (by decide) (by decide) (by omega), hq]
  · unfold mulS; rw [part_up (by decide) (by decide) (by omega) (by omega) (by decide) (by decide) (by omega), e2]
  · exact add_up (by omega) (by omega) (by omega)
  · rw [add_up (by omega) (by omega) (by omega)]; exact Prod.ext (by show (_ : Int) = _; omega) rfl
  · exact mod_up (by omega) (by omega) (by decide) (by decide)
  · exact mod_up (by omega) (by omega) (by decide) (by decide)
  · rw [mod_up (by omega) (by omega) (by decide) (by decide)]; exact Prod.ext (by show (_ : Int) = _; omega) rfl
end Go.Proofs.YtoadcnhcfodkgaaGreatDoor
