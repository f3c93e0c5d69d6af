/- A part. -/
import Derived.Test.YtooehgijllihdaaWFindsIn
import Derived.Test.YtooehgijllihdaaWFindsOut
import Derived.Test.YtooehgijllihdaaJY
import Derived.Handy
import Derived.Deep.RegionHeld3
namespace Go.Proofs.Ytooehgijllihdaa
open Go.RowKit
theorem sky_fun : (fun i_ : Nat => if i_ = 0 then (1099511627776 : Int) else if i_ = 4 then 1099511627776 else 0) = Ff.skyF := by
 funext i
 unfold Ff.skyF six6
 dsimp only
 by_cases c0 : i = 0
 ·rw [if_pos c0, if_pos c0]
 ·rw [if_neg c0, if_neg c0]
  by_cases c4 : i = 4
  ·subst c4; rfl
  ·rw [if_neg c4]
   repeat (first | rfl | (split; rfl))
theorem FilterFinds_any (q : V4) (o : V3) (w : World) :
  Calls Try.prog 3 #[.agg #[.int .i64 q.1, .int .i64 q.2.1, .int .i64 q.2.2.1, .int .i64 q.2.2.2], .agg #[.int .i64 o.1, .int .i64 o.2.1, .int .i64 o.2.2]] w fun e w' => e = .returned (.bool true) ∧ Below w.heap.size w w' := by
 rcases unit_math q with hU | ⟨a0, a1, a2, a3, hU, _⟩
 ·exact finds_bad q o w hU
 by_cases g0 : 54975581388 < o.1
 ·exact finds_gt0 q o w _ hU g0
 by_cases l0 : o.1 < -54975581388
 ·exact finds_lt0 q o w _ hU l0 (by omega)
 by_cases g1 : 54975581388 < o.2.1
 ·exact finds_gt1 q o w _ hU (by omega) (by omega) g1
 by_cases l1 : o.2.1 < -54975581388
 ·exact finds_lt1 q o w _ hU (by omega) (by omega) l1 (by omega)
 by_cases g2 : 54975581388 < o.2.2
 ·exact finds_gt2 q o w _ hU (by omega) (by omega) (by omega) (by omega) g2
 by_cases l2 : o.2.2 < -54975581388
 ·exact finds_lt2 q o w _ hU (by omega) (by omega) (by omega) (by omega) l2 (by omega)
 obtain ⟨b0, b1, b2, b3, b4, b5, f, c, Q, g1, g2, g3, g4, c1, c2, c3, c4, r, e0, e1, e2, t1, t2, ef, ec, eQ, m1, m2, m3, m4, er, et, k0, k1, k2, hg⟩ := Ff.finds_core hU (o0 := o.1) (o1 := o.2.1) (o2 := o.2.2) ⟨by omega, by omega⟩ ⟨by omega, by omega⟩ ⟨by omega, by omega⟩
 rw [← sky_fun] at m1 m2 m3 m4
 exact finds_in q o w (a0, a1, a2, a3) (b0, b1, b2) (b3, b4, b5) f c Q (hStartP Q) g1 g2 g3 g4 c1 c2 c3 c4 r (e0, e1, e2) hU t1 t2 ef ec eQ rfl m1 m2 m3 m4 _ rfl er et (by omega) (by omega) (by omega) (by omega) (by omega) (by omega) k0.lo k0.hi k1.lo k1.hi k2.lo k2.hi hg
end Go.Proofs.Ytooehgijllihdaa
