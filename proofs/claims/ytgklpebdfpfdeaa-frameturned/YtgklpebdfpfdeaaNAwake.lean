/-
  That the laws of stage 11 are awake, walked, for the seat Ytgklpebdfpfdeaa.
-/
import Derived.Test.YtgklpebdfpfdeaaNScan
import Derived.Test.YtgklpebdfpfdeaaNWrap
namespace Go.Proofs.Ytgklpebdfpfdeaa
open Go.RowKit

theorem awake_wrap : wrapL 1 [97, 98] = [165, 1, 2, 97, 98, UInt8.ofNat (sumU [1, 2, 97, 98] / 256), UInt8.ofNat (sumU [1, 2, 97, 98] % 256)] := rfl
theorem awake_scan : scanL ([120] ++ wrapL 1 [97, 98] ++ [165]) = ([(1, [97, 98])], [165], 1) := by decide +kernel
set_option maxHeartbeats 1000000 in
set_option maxRecDepth 100000 in
theorem awake_any (w : World) : Calls Try.prog 11 #[] w fun e w' => e = .returned (.bool true) ∧ Below w.heap.size w w' := by
  have hwr := fun W => wrap_yes 1 ⟨#[97, 98]⟩ W (by decide)
  have h1 : ((1 : UInt8).toNat : Int) = 1 := rfl
  rw [h1] at hwr
  have adds : ∀ s : ByteArray, s.data.toList = wrapL 1 [97, 98] → ∃ a b : ByteArray, (∀ W : World, (Op.stringOp .add ⟨#[120]⟩ s).run Try.prog W = .ok (.string a) W) ∧ (∀ W : World, (Op.stringOp .add a ⟨#[165]⟩).run Try.prog W = .ok (.string b) W) ∧
      (∀ W : World, Calls Try.prog 16 #[.string b] W fun e w' => ∃ g c, e = .returned (.tuple #[.slice (some ⟨g, 0, none⟩) 1 c, .string ⟨#[165]⟩, .int .i64 1]) ∧ w'.cell? ⟨g, 0, none⟩ = some (.int .i64 1) ∧ w'.cell? ⟨g, 1, none⟩ = some (.string ⟨#[97, 98]⟩) ∧ Below W.heap.size W w') := by
    intro s hs
    have z : s.size = 7 := by rw [Lib.size_eq, hs]; rfl
    have z1 : (⟨#[120]⟩ ++ s : ByteArray).size = 8 := by rw [ByteArray.size_append, z]; rfl
    have z2 : (⟨#[120]⟩ ++ s ++ ⟨#[165]⟩ : ByteArray).size = 9 := by rw [ByteArray.size_append, z1]; rfl
    refine ⟨⟨#[120]⟩ ++ s, ⟨#[120]⟩ ++ s ++ ⟨#[165]⟩, fun W => add_run W _ _ (by rw [z]; decide), fun W => add_run W _ _ (by rw [z1]; decide), fun W => (scan_any _ W (by omega)).mono ?_⟩
    have e : (⟨#[120]⟩ ++ s ++ ⟨#[165]⟩ : ByteArray).data.toList = [120] ++ wrapL 1 [97, 98] ++ [165] := by rw [add_list, add_list, hs]
    rw [e]
    rintro e w' ⟨v, r, rfl, hr, hv, hb⟩
    rw [awake_scan] at hr hv ⊢
    obtain ⟨a, c, rfl, _, hc⟩ := hv.shape
    obtain ⟨g, rfl, _, _, hg⟩ := hc (by simp)
    obtain rfl : r = ⟨#[165]⟩ := mkBytes hr
    exact ⟨g, c, rfl, (hg 0 (by simp)).1, (hg 0 (by simp)).2, hb⟩
  go_enter Try.func11, Try.ntmps11
  go_wp2_with (first
    | (go_at_call 12; refine (hwr _).mono ?_; rintro e w1 ⟨s, rfl, hs, hb1⟩; obtain ⟨a, b, ha, hb, hsc⟩ := adds s hs; clear hs adds)
    | (go_at_call 16; refine (hsc _).mono ?_; rintro e w2 ⟨g, c, rfl, k0, k1, hb2⟩))
  go_ret
  exact ⟨rfl, hb1.trans (hb2.mono hb1.size)⟩
end Go.Proofs.Ytgklpebdfpfdeaa
