/-
  The walk of the law QuatThere, for the seat Yteooceapkkdcpab. (Made by mklaw04.py.)
-/
import Derived.Test.YteooceapkkdcpabQAwake
import Derived.Test.YteooceapkkdcpabQEqv
import Derived.Test.YteooceapkkdcpabVEqv
import Derived.Test.YteooceapkkdcpabWQuatThereA
import Derived.Test.YteooceapkkdcpabWQuatThereB
import Derived.Test.YteooceapkkdcpabWQuatThereC
import Derived.Test.YteooceapkkdcpabQRodM
import Derived.Handy
import Derived.Deep.RegionHeld3
namespace Go.Proofs.Yteooceapkkdcpab
open Go.RowKit

theorem QuatThere_any (q : V4) (p : V3) (w : World) (v0 : -9223372036854775808 ≤ p.1 ∧ p.1 ≤ 9223372036854775807) (v1 : -9223372036854775808 ≤ p.2.1 ∧ p.2.1 ≤ 9223372036854775807) (v2 : -9223372036854775808 ≤ p.2.2 ∧ p.2.2 ≤ 9223372036854775807) :
    Calls Try.prog 4 #[.agg #[.int .i64 q.1, .int .i64 q.2.1, .int .i64 q.2.2.1, .int .i64 q.2.2.2], .agg #[.int .i64 p.1, .int .i64 p.2.1, .int .i64 p.2.2]] w fun e w' => e = .returned (.bool true) ∧ Below w.heap.size w w' := by
  have rod : nearS p (0, 0, 0) 1099511627776 = true → ∃ s0 s1 s2 s3 t0 t1 t2, qFromRodS false p = ((s0, s1, s2, s3), false) ∧ qToRodS false (s0, s1, s2, s3) = ((t0, t1, t2), false) ∧ Ab (t0 - p.1) 1024 ∧ Ab (t1 - p.2.1) 1024 ∧ Ab (t2 - p.2.2) 1024 := by
    intro hp
    have g := near_get hp
    have a0 : Ab p.1 1099511627776 := ⟨by have := g.1.lo; simpa using this, by have := g.1.hi; simpa using this⟩
    have a1 : Ab p.2.1 1099511627776 := ⟨by have := g.2.1.lo; simpa using this, by have := g.2.1.hi; simpa using this⟩
    have a2 : Ab p.2.2 1099511627776 := ⟨by have := g.2.2.lo; simpa using this, by have := g.2.2.hi; simpa using this⟩
    exact rod_math a0 a1 a2
  rcases unit_math q with h | ⟨u0, u1, u2, u3, h, U⟩
  · cases hp : nearS p (0, 0, 0) 1099511627776
    · exact QuatThere_bf q p w h v0 v1 v2 hp
    · obtain ⟨s0, s1, s2, s3, t0, t1, t2, e1, e2, k0, k1, k2⟩ := rod hp
      exact QuatThere_br q p w h s0 s1 s2 s3 t0 t1 t2 v0 v1 v2 hp e1 e2 ⟨k0.lo, k0.hi⟩ ⟨k1.lo, k1.hi⟩ ⟨k2.lo, k2.hi⟩ (near_yes k0 k1 k2)
  · obtain ⟨⟨m0, m1, m2, m3, m4, m5, m6, m7, m8⟩, a0, a1, a2, a3, o0, o1, o2, o3, hm, hf, hd, c0, c1, c2⟩ := there_math U
    have hb : qBackS (u0, u1, u2, u3) = (-u0, -u1, -u2, u3) := by
      unfold qBackS
      have := U.a0.lo; have := U.a0.hi; have := U.a1.lo; have := U.a1.hi; have := U.a2.lo; have := U.a2.hi
      dsimp only
      rw [minusS_in (by omega) (by omega), minusS_in (by omega) (by omega), minusS_in (by omega) (by omega)]
    have hn : nearS (o0, o1, o2) (0, 0, 0) 1024 = true := near_yes (by simpa using c0) (by simpa using c1) (by simpa using c2)
    cases hp : nearS p (0, 0, 0) 1099511627776
    · exact QuatThere_gf q p w u0 u1 u2 u3 m0 m1 m2 m3 m4 m5 m6 m7 m8 a0 a1 a2 a3 o0 o1 o2 o3 h hm hf hb hd ⟨c0.lo, c0.hi⟩ ⟨c1.lo, c1.hi⟩ ⟨c2.lo, c2.hi⟩ hn v0 v1 v2 hp
    · obtain ⟨s0, s1, s2, s3, t0, t1, t2, e1, e2, k0, k1, k2⟩ := rod hp
      exact QuatThere_gr q p w u0 u1 u2 u3 m0 m1 m2 m3 m4 m5 m6 m7 m8 a0 a1 a2 a3 o0 o1 o2 o3 h hm hf hb hd ⟨c0.lo, c0.hi⟩ ⟨c1.lo, c1.hi⟩ ⟨c2.lo, c2.hi⟩ hn s0 s1 s2 s3 t0 t1 t2 v0 v1 v2 hp e1 e2 ⟨k0.lo, k0.hi⟩ ⟨k1.lo, k1.hi⟩ ⟨k2.lo, k2.hi⟩ (near_yes k0 k1 k2)
end Go.Proofs.Yteooceapkkdcpab
