/-
  The walk of the law FixedNorms, for the seat Ytpmgbobklgabbab.
-/
import Derived.Test.YtpmgbobklgabbabLaws
import Derived.Test.YtpmgbobklgabbabRNorm
import Derived.Test.YtpmgbobklgabbabMNorm
import Derived.Handy
namespace Go.Proofs.Ytpmgbobklgabbab
open Go.RowKit

set_option maxHeartbeats 400000 in
theorem FixedNorms_any (x y z : Int) (w : World) :
    Calls Try.prog 5 #[.int .i64 x, .int .i64 y, .int .i64 z] w fun e w' => e = .returned (.bool true) ∧ Below w.heap.size w w' := by
  go_enter Try.func5, Try.ntmps5
  go_wp2_with fail
  refine (awake_any _).mono ?_
  rintro e w1 ⟨rfl, h1⟩
  have H1 : Hid _ := h1
  have hz := h1.size
  clear h1
  go_wp2_with fail
  refine (Norm_any w1.heap.size false x y z _ ((Fl_new w1 false 25).alloc _)).mono ?_
  rintro e w2 ⟨rfl, f2, k2⟩
  have g2 : Fl (w1.heap.size + 1) false w2 := (Fl_at _ _ false 32 (by simp)).kept k2 (by omega)
  have H2 : Hid (Below w.heap.size w w2) := k2.on ((H1.out.alloc hz _).alloc (by simp; omega) _) hz
  clear H1 k2
  go_wp2_with fail
  refine (rNorm_any (w1.heap.size + 1) false x y z _ g2).mono ?_
  rintro e w3 ⟨rfl, g3, k3⟩
  have f3 := f2.kept k3 (by omega)
  have H3 : Hid (Below w.heap.size w w3) := k3.on H2.out (by omega)
  clear H2 f2 g2 k3
  go_wp2_with fail
  refine (same_any _ _ _ _ _ f3 g3).mono ?_
  rintro e w4 ⟨rfl, h4⟩
  have H4 : Hid (Below w.heap.size w w4) := H3.out.trans (h4.mono H3.out.size)
  clear H3 h4 f3 g3
  go_wp2
  go_ret
  exact ⟨rfl, H4.out⟩
end Go.Proofs.Ytpmgbobklgabbab
