/-
  What Number answers, at all integers, for the seat YtoadcnhcfodkgaaGreatDoor.
-/
import Derived.Test.YtoadcnhcfodkgaaGreatDoorFNum
import Derived.Test.YtoadcnhcfodkgaaGreatDoorGNum
import Derived.Test.YtoadcnhcfodkgaaGreatDoorGNumB
namespace Go.Proofs.YtoadcnhcfodkgaaGreatDoor
open Go.RowKit

theorem nIdx_at {N M : Nat} (h1 : 1 ≤ N) (h6 : N ≤ 6) : ∃ a q : Int, (N : Int) * ((N : Int) + 1) = a ∧ 2 ≤ a ∧ a ≤ 42 ∧ Int.tdiv a 2 = q ∧ 1 ≤ q ∧ q ≤ 21 ∧ q - 1 + (M : Int) = ((nIdx N M : Nat) : Int) := by
  have c : N = 1 ∨ N = 2 ∨ N = 3 ∨ N = 4 ∨ N = 5 ∨ N = 6 := by omega
  unfold nIdx
  rcases c with rfl | rfl | rfl | rfl | rfl | rfl
  · exact ⟨2, 1, by decide, by decide, by decide, by decide, by decide, by decide, by omega⟩
  · exact ⟨6, 3, by decide, by decide, by decide, by decide, by decide, by decide, by omega⟩
  · exact ⟨12, 6, by decide, by decide, by decide, by decide, by decide, by decide, by omega⟩
  · exact ⟨20, 10, by decide, by decide, by decide, by decide, by decide, by decide, by omega⟩
  · exact ⟨30, 15, by decide, by decide, by decide, by decide, by decide, by decide, by omega⟩
  · exact ⟨42, 21, by decide, by decide, by decide, by decide, by decide, by decide, by omega⟩
theorem num_any (b : Nat) (bad : Bool) (n m t : Int) (w : World) (hw : Fl b bad w) (hG0 : Arr 0 (row 54 at0) w) (hG1 : Arr 1 (row 10 yr0) w) (hb : 1 < b) (hz : bad = false) :
    Calls Tryz.prog 266 #[.pointer (some ⟨b, 0, none⟩), .int .i64 n, .int .i64 m, .int .i64 t] w fun e w' => e = .returned (.tuple #[.int .i64 (numS bad n m t).1.1, .int .i64 (numS bad n m t).1.2]) ∧ Fl b (numS bad n m t).2 w' ∧ Kept b w w' := by
  subst hz
  by_cases h : numIn n m t
  · obtain ⟨n1, n6, m0, mn, t0, t1⟩ := h
    obtain ⟨N, rfl⟩ := Int.eq_ofNat_of_zero_le (show 0 ≤ n by omega)
    obtain ⟨M, rfl⟩ := Int.eq_ofNat_of_zero_le m0
    have h1 : 1 ≤ N := by omega
    have h6 : N ≤ 6 := by omega
    have hm : M ≤ N := by omega
    obtain ⟨a, q, hx, x0, x1, hq, q0, q1, hr⟩ := nIdx_at (M := M) h1 h6
    obtain ⟨hi, hg, hh⟩ := num_parts h1 h6 hm
    obtain ⟨hy, y0, y1⟩ := year_in t0 t1
    rw [numS_in h1 h6 hm t0 t1]
    by_cases h2 : N ≤ 2
    · obtain ⟨i5, gy, hhy⟩ := num_low h1 h2 hm
      have G := year_g (m := M) y0 y1 h2
      have K := year_h (m := M) y0 y1 h2
      exact num_lo b N M t _ _ _ _ _ _ _ _ _ _ w hw hG0 hG1 hb n1 n6 m0 mn (cRight_in t0 t1) a q _ hx x0 x1 hq q0 q1 hr hi i5 hg hh (cDaysS_in t0 t1) hy gy hhy G.hm K.hm G.ha K.ha
    · have eg : gS (yearS t) N M = fG N M := if_neg h2
      have eh : hS (yearS t) N M = fH N M := if_neg h2
      rw [eg, eh]
      exact num_hi b N M t _ _ w hw hG0 hG1 hb n1 n6 m0 mn (cRight_in t0 t1) a q _ hx x0 x1 hq q0 q1 hr hi (num_high h2 h6 hm) hg hh
  · rw [numS_out h]
    by_cases c1 : n < 1
    · exact num_ba b n m t w hw c1
    by_cases c2 : n > 6
    · exact num_bb b n m t w hw c1 c2
    by_cases c3 : m < 0
    · exact num_bc b n m t w hw c1 c2 c3
    by_cases c4 : m > n
    · exact num_bd b n m t w hw c1 c2 c3 c4
    · exact num_be b n m t w hw c1 c2 c3 c4 (cRight_out (fun k => h ⟨by omega, by omega, by omega, by omega, k.1, k.2⟩))
end Go.Proofs.YtoadcnhcfodkgaaGreatDoor
