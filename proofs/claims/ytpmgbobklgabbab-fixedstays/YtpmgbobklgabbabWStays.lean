/-
  The walk of the law FixedStays, for the seat Ytpmgbobklgabbab.
-/
import Derived.Test.YtpmgbobklgabbabNil
import Derived.Handy
namespace Go.Proofs.Ytpmgbobklgabbab
open Go.RowKit

set_option maxHeartbeats 1000000 in
theorem FixedStays_any (a b c : Int) (w : World) :
    Calls Try.prog 3 #[.int .i64 a, .int .i64 b, .int .i64 c] w fun e w' => e = .returned (.bool true) ∧ Below w.heap.size w w' := by
  go_enter Try.func3, Try.ntmps3
  go_wp2_with fail
  refine (awake_any _).mono ?_
  rintro e w1 ⟨rfl, h1⟩
  have H1 : Hid _ := h1
  have hz := h1.size
  clear h1
  go_wp2_with fail
  refine (Fail_any w1.heap.size false _ (Fl_new w1 false 25)).mono ?_
  rintro e w2 ⟨rfl, f2, k2⟩
  have H2 : Hid (Below w.heap.size w w2) := k2.on (H1.out.alloc hz _) hz
  have hB : w.heap.size ≤ w1.heap.size := hz
  clear H1 k2 hz
  go_wp2_with fail
  refine (Fail_nil _).mono ?_
  rintro e w3 ⟨rfl, rfl⟩
  go_wp2_with fail
  refine (Add_bad w1.heap.size a b _ f2).mono ?_
  rintro e w11 ⟨rfl, f11, k11⟩
  have H11 : Hid (Below w.heap.size w w11) := k11.on H2.out hB
  clear H2 f2 k11
  go_wp2_with fail
  refine (Sub_bad w1.heap.size a b _ f11).mono ?_
  rintro e w12 ⟨rfl, f12, k12⟩
  have H12 : Hid (Below w.heap.size w w12) := k12.on H11.out hB
  clear H11 f11 k12
  go_wp2_with fail
  refine (Mul_bad w1.heap.size a b _ f12).mono ?_
  rintro e w13 ⟨rfl, f13, k13⟩
  have H13 : Hid (Below w.heap.size w w13) := k13.on H12.out hB
  clear H12 f12 k13
  go_wp2_with fail
  refine (Div_bad w1.heap.size a b _ f13).mono ?_
  rintro e w14 ⟨rfl, f14, k14⟩
  have H14 : Hid (Below w.heap.size w w14) := k14.on H13.out hB
  clear H13 f13 k14
  go_wp2_with fail
  refine (Sqrt_bad w1.heap.size a _ f14).mono ?_
  rintro e w15 ⟨rfl, f15, k15⟩
  have H15 : Hid (Below w.heap.size w w15) := k15.on H14.out hB
  clear H14 f14 k15
  go_wp2_with fail
  refine (Part_bad w1.heap.size a b c _ f15).mono ?_
  rintro e w16 ⟨rfl, f16, k16⟩
  have H16 : Hid (Below w.heap.size w w16) := k16.on H15.out hB
  clear H15 f15 k16
  go_wp2_with fail
  refine (Mod_bad w1.heap.size a b _ f16).mono ?_
  rintro e w17 ⟨rfl, f17, k17⟩
  have H17 : Hid (Below w.heap.size w w17) := k17.on H16.out hB
  clear H16 f16 k17
  go_wp2_with fail
  refine (Norm_bad w1.heap.size a b c _ f17).mono ?_
  rintro e w18 ⟨rfl, f18, k18⟩
  have H18 : Hid (Below w.heap.size w w18) := k18.on H17.out hB
  clear H17 f17 k18
  go_wp2_with fail
  refine (Add_nil a b _).mono ?_
  rintro e w19 ⟨rfl, k19⟩
  have f19 := f18.below k19
  have H19 : Hid (Below w.heap.size w w19) := H18.out.trans (k19.mono H18.out.size)
  clear H18 f18 k19
  go_wp2_with fail
  refine (Sub_nil a b _).mono ?_
  rintro e w20 ⟨rfl, k20⟩
  have f20 := f19.below k20
  have H20 : Hid (Below w.heap.size w w20) := H19.out.trans (k20.mono H19.out.size)
  clear H19 f19 k20
  go_wp2_with fail
  refine (Mul_nil a b _).mono ?_
  rintro e w21 ⟨rfl, k21⟩
  have f21 := f20.below k21
  have H21 : Hid (Below w.heap.size w w21) := H20.out.trans (k21.mono H20.out.size)
  clear H20 f20 k21
  go_wp2_with fail
  refine (Div_nil a b _).mono ?_
  rintro e w22 ⟨rfl, k22⟩
  have f22 := f21.below k22
  have H22 : Hid (Below w.heap.size w w22) := H21.out.trans (k22.mono H21.out.size)
  clear H21 f21 k22
  go_wp2_with fail
  refine (Sqrt_nil a _).mono ?_
  rintro e w23 ⟨rfl, k23⟩
  have f23 := f22.below k23
  have H23 : Hid (Below w.heap.size w w23) := H22.out.trans (k23.mono H22.out.size)
  clear H22 f22 k23
  go_wp2_with fail
  refine (Part_nil a b c _).mono ?_
  rintro e w24 ⟨rfl, k24⟩
  have f24 := f23.below k24
  have H24 : Hid (Below w.heap.size w w24) := H23.out.trans (k24.mono H23.out.size)
  clear H23 f23 k24
  go_wp2_with fail
  refine (Mod_nil a b _).mono ?_
  rintro e w25 ⟨rfl, k25⟩
  have f25 := f24.below k25
  have H25 : Hid (Below w.heap.size w w25) := H24.out.trans (k25.mono H24.out.size)
  clear H24 f24 k25
  go_wp2_with fail
  refine (Norm_nil a b c _).mono ?_
  rintro e w26 ⟨rfl, k26⟩
  have f26 := f25.below k26
  have H26 : Hid (Below w.heap.size w w26) := H25.out.trans (k26.mono H25.out.size)
  clear H25 f25 k26
  have fc := f26.cell
  clear f26
  go_wp2
  go_ret
  exact ⟨rfl, H26.out⟩
end Go.Proofs.Ytpmgbobklgabbab
