/-
  What field.Earth answers, at all places and ticks, for the seat YtoadcnhcfodkgaaGreatDoor.
-/
import Derived.Test.YtoadcnhcfodkgaaGreatDoorFSkX
import Derived.Test.YtoadcnhcfodkgaaGreatDoorGEarth
import Derived.Test.YtoadcnhcfodkgaaGreatDoorGEaX
namespace Go.Proofs.YtoadcnhcfodkgaaGreatDoor
open Go.RowKit

theorem earth_any (b : Nat) (bad : Bool) (p : V3) (t : Int) (w : World) (hw : Fl b bad w) (hG0 : Arr 0 (row 54 at0) w) (hG1 : Arr 1 (row 10 yr0) w) (hb : 1 < b) :
    Calls Tryz.prog 133 #[.pointer (some ⟨b, 0, none⟩), .agg #[.int .i64 p.1, .int .i64 p.2.1, .int .i64 p.2.2], .int .i64 t] w fun e w' => e = .returned (.agg #[.int .i64 (earS bad p t).1.1, .int .i64 (earS bad p t).1.2.1, .int .i64 (earS bad p t).1.2.2]) ∧ Fl b (earS bad p t).2 w' ∧ Kept b w w' := by
  cases bad with
  | true =>
    rw [earS_true]
    exact gx_any (Or.inl (by rw [vNorm_true p]; decide)) b w hw ⟨hG0, hG1⟩ hb
  | false =>
    by_cases h : earIn p t
    · obtain ⟨⟨E⟩, _⟩ := ear_at h
      rw [earS_in h]
      obtain ⟨g, r0, r1, t0, t1⟩ := h
      exact earth_good b p t _ _ _ _ E w hw hG0 hG1 hb (Prod.ext rfl g) (by omega) (by omega) (cRight_in t0 t1)
    · rw [earS_out h]
      by_cases c1 : (earR p).1 < 6597069766656
      · exact gx_any (Or.inl c1) b w hw ⟨hG0, hG1⟩ hb
      by_cases c2 : (earR p).1 > 10995116277760
      · exact gx_any (Or.inr (Or.inl c2)) b w hw ⟨hG0, hG1⟩ hb
      have g : (earR p).2 = false := by
        cases q : (earR p).2 with
        | false => rfl
        | true => have z : (earR p).1 = 0 := normS_bad false _ _ _ q; omega
      exact gx_any (Or.inr (Or.inr (cRight_out (fun k => h ⟨g, by omega, by omega, k.1, k.2⟩)))) b w hw ⟨hG0, hG1⟩ hb
end Go.Proofs.YtoadcnhcfodkgaaGreatDoor
