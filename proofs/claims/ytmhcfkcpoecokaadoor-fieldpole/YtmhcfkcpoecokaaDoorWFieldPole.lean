/-
  The law FieldPole, at all places and ticks, for the seat YtmhcfkcpoecokaaDoor.
-/
import Derived.Test.YtmhcfkcpoecokaaDoorWPoleA
import Derived.Test.YtmhcfkcpoecokaaDoorJP
namespace Go.Proofs.YtmhcfkcpoecokaaDoor
open Go.RowKit

theorem FieldPole_any (p : V3) (t : Int) (w : World) (hG0 : Arr 0 (row 54 at0) w) (hG1 : Arr 1 (row 10 yr0) w) :
    Calls Tryd.prog 7 #[.agg #[.int .i64 p.1, .int .i64 p.2.1, .int .i64 p.2.2], .int .i64 t] w fun e w' => e = .returned (.bool true) ∧ Below w.heap.size w w' := by
  by_cases c1 : p.2.2 > 9100000000000
  · exact FieldPole_a p t w hG0 hG1 c1
  by_cases c2 : p.2.2 < (-9100000000000)
  · exact FieldPole_b p t w hG0 hG1 c1 c2
  have both (kd : ¬ t < 0) (ke : ¬ t > 157766400000) (kf : ¬ p.1 > 34359738368) (kg : ¬ p.1 < (-34359738368)) (kh : ¬ p.2.1 > 34359738368) (ki : ¬ p.2.1 < (-34359738368)) (hz : p.2.2 ≤ -7013000000000 ∨ 7013000000000 ≤ p.2.2) :
      ∃ a0 a1 a2 b0 b1 b2 n : Int, earS false (0, 0, p.2.2) t = ((a0, a1, a2), false) ∧ earS false p t = ((b0, b1, b2), false) ∧ a0 - b0 ≤ 8796093022208 ∧ -8796093022208 ≤ a0 - b0 ∧ a1 - b1 ≤ 8796093022208 ∧ -8796093022208 ≤ a1 - b1 ∧ a2 - b2 ≤ 8796093022208 ∧ -8796093022208 ≤ a2 - b2 ∧ vNormS false (a0, a1, a2) = (n, false) ∧ n > 10995116277760 := by
    obtain ⟨_, y0, y1⟩ := year_in (t := t) (by omega) (by omega)
    obtain ⟨K⟩ := poles_at (x := p.1) (y := p.2.1) (z := p.2.2) (yr := yearS t) ⟨by omega, by omega⟩ ⟨by omega, by omega⟩ hz ⟨by omega, by omega⟩ y0 y1
    exact ⟨_, _, _, _, _, _, K.N, earS_eq K.A K.ha K.a0 K.a1 (by omega) (by omega), earS_eq K.B K.hb K.b0 K.b1 (by omega) (by omega), K.dx.hi, K.dx.lo, K.dy.hi, K.dy.lo, K.dz.hi, K.dz.lo, K.hN, K.N0⟩
  by_cases c3 : p.2.2 > (-7013000000000)
  · by_cases c4 : p.2.2 < 7013000000000
    · exact FieldPole_c p t w hG0 hG1 c1 c2 c3 c4
    by_cases kd : t < 0
    · exact FieldPole_dn p t w hG0 hG1 c1 c2 c3 c4 kd
    by_cases ke : t > 157766400000
    · exact FieldPole_en p t w hG0 hG1 c1 c2 c3 c4 kd ke
    by_cases kf : p.1 > 34359738368
    · exact FieldPole_fn p t w hG0 hG1 c1 c2 c3 c4 kd ke kf
    by_cases kg : p.1 < (-34359738368)
    · exact FieldPole_gn p t w hG0 hG1 c1 c2 c3 c4 kd ke kf kg
    by_cases kh : p.2.1 > 34359738368
    · exact FieldPole_hn p t w hG0 hG1 c1 c2 c3 c4 kd ke kf kg kh
    by_cases ki : p.2.1 < (-34359738368)
    · exact FieldPole_in p t w hG0 hG1 c1 c2 c3 c4 kd ke kf kg kh ki
    obtain ⟨a0, a1, a2, b0, b1, b2, n, h1, h2, u0, v0, u1, v1, u2, v2, h3, h4⟩ := both kd ke kf kg kh ki (.inr (by omega))
    exact FieldPole_inn p t w hG0 hG1 c1 c2 c3 c4 kd ke kf kg kh ki a0 a1 a2 b0 b1 b2 n h1 h2 u0 v0 u1 v1 u2 v2 h3 h4
  · by_cases kd : t < 0
    · exact FieldPole_ds p t w hG0 hG1 c1 c2 c3 kd
    by_cases ke : t > 157766400000
    · exact FieldPole_es p t w hG0 hG1 c1 c2 c3 kd ke
    by_cases kf : p.1 > 34359738368
    · exact FieldPole_fs p t w hG0 hG1 c1 c2 c3 kd ke kf
    by_cases kg : p.1 < (-34359738368)
    · exact FieldPole_gs p t w hG0 hG1 c1 c2 c3 kd ke kf kg
    by_cases kh : p.2.1 > 34359738368
    · exact FieldPole_hs p t w hG0 hG1 c1 c2 c3 kd ke kf kg kh
    by_cases ki : p.2.1 < (-34359738368)
    · exact FieldPole_is p t w hG0 hG1 c1 c2 c3 kd ke kf kg kh ki
    obtain ⟨a0, a1, a2, b0, b1, b2, n, h1, h2, u0, v0, u1, v1, u2, v2, h3, h4⟩ := both kd ke kf kg kh ki (.inl (by omega))
    exact FieldPole_ins p t w hG0 hG1 c1 c2 c3 kd ke kf kg kh ki a0 a1 a2 b0 b1 b2 n h1 h2 u0 v0 u1 v1 u2 v2 h3 h4
end Go.Proofs.YtmhcfkcpoecokaaDoor
