/-
  The walk of the law FixedSums, for the seat Ytpmgbobklgabbaa.
-/
import Derived.Test.YtpmgbobklgabbaaLaws
import Derived.Test.YtpmgbobklgabbaaRMeth
import Derived.Handy
namespace Go.Proofs.Ytpmgbobklgabbaa
open Go.RowKit

set_option maxHeartbeats 400000 in
theorem FixedSums_any (x y : Int) (bad : Bool) (w : World) :
    Calls Try.prog 3 #[.int .i64 x, .int .i64 y, .bool bad] w fun e w' => e = .returned (.bool true) ∧ Below w.heap.size w w' := by
  go_enter Try.func3, Try.ntmps3
  go_wp2_with fail
  refine (awake_any _).mono ?_
  rintro e w1 ⟨rfl, h1⟩
  have H1 : Hid _ := h1
  have hz := h1.size
  clear h1
  go_wp2_with fail
  refine (Add_any w1.heap.size bad x y _ ((((Fl_new w1 bad 25).alloc _).alloc _).alloc _)).mono ?_
  rintro e w2 ⟨rfl, f2, k2⟩
  have g2 : Fl (w1.heap.size + 1) bad w2 := (((Fl_at _ _ bad 27 (by simp)).alloc _).alloc _).kept k2 (by omega)
  have p2 : Fl (w1.heap.size + 1 + 1) bad w2 := ((Fl_at _ _ bad 25 (by simp)).alloc _).kept k2 (by omega)
  have q2 : Fl (w1.heap.size + 1 + 1 + 1) bad w2 := (Fl_at _ _ bad 27 (by simp)).kept k2 (by omega)
  have H2 : Hid (Below w.heap.size w w2) := k2.on ((((H1.out.alloc hz _).alloc (by simp; omega) _).alloc (by simp; omega) _).alloc (by simp; omega) _) hz
  clear H1 k2
  go_wp2_with fail
  refine (rAdd_any (w1.heap.size + 1) bad x y _ g2).mono ?_
  rintro e w3 ⟨rfl, g3, k3⟩
  have f3 := f2.kept k3 (by omega)
  have p3 := p2.kept k3 (by omega)
  have q3 := q2.kept k3 (by omega)
  have H3 : Hid (Below w.heap.size w w3) := k3.on H2.out (by omega)
  clear H2 f2 g2 k3 p2 q2
  go_wp2_with fail
  refine (same_any _ _ _ _ _ f3 g3).mono ?_
  rintro e w4 ⟨rfl, h4⟩
  have p4 := p3.below h4
  have q4 := q3.below h4
  have H4 : Hid (Below w.heap.size w w4) := H3.out.trans (h4.mono H3.out.size)
  clear H3 h4 f3 g3 p3 q3
  go_wp2_with fail
  refine (Sub_any (w1.heap.size + 1 + 1) bad x y _ p4).mono ?_
  rintro e w5 ⟨rfl, p5, k5⟩
  have q5 := q4.kept k5 (by omega)
  have H5 : Hid (Below w.heap.size w w5) := k5.on H4.out (by omega)
  clear H4 p4 q4 k5
  go_wp2_with fail
  refine (rSub_any (w1.heap.size + 1 + 1 + 1) bad x y _ q5).mono ?_
  rintro e w6 ⟨rfl, q6, k6⟩
  have p6 := p5.kept k6 (by omega)
  have H6 : Hid (Below w.heap.size w w6) := k6.on H5.out (by omega)
  clear H5 p5 q5 k6
  go_wp2_with fail
  refine (same_any _ _ _ _ _ p6 q6).mono ?_
  rintro e w7 ⟨rfl, h7⟩
  have H7 : Hid (Below w.heap.size w w7) := H6.out.trans (h7.mono H6.out.size)
  clear H6 h7 p6 q6
  go_wp2
  go_ret
  exact ⟨rfl, H7.out⟩
end Go.Proofs.Ytpmgbobklgabbaa
