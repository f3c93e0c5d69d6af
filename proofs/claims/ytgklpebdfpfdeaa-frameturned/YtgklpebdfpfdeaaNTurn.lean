/-
  A frame of which one byte was turned is none, for the seat Ytgklpebdfpfdeaa. No Go text in sight.
-/
import Derived.Test.YtgklpebdfpfdeaaNMath
namespace Go.Proofs.Ytgklpebdfpfdeaa

def sumBytes (h : List UInt8) : List UInt8 := [UInt8.ofNat (sumU h / 256), UInt8.ofNat (sumU h % 256)]
theorem wrapL_sum (k : UInt8) (d : List UInt8) : wrapL k d = 165 :: (wrapHead k d ++ sumBytes (wrapHead k d)) := by
  simp [wrapL, sumBytes]
theorem sum_of_bytes {h g : List UInt8} (e : sumBytes h = sumBytes g) : sumU h = sumU g := by
  have a := sumU_lt h
  have b := sumU_lt g
  simp only [sumBytes, List.cons.injEq, and_true] at e
  have e1 := congrArg UInt8.toNat e.1
  have e2 := congrArg UInt8.toNat e.2
  rw [ofNat_toNat (by omega), ofNat_toNat (by omega)] at e1 e2
  omega
theorem sumU_turned {h : List UInt8} {j : Nat} {y : UInt8} (hj : j < h.length) (hy : y ≠ h[j]) : sumU (h.set j y) ≠ sumU h := by
  have e : h = h.take j ++ h[j] :: h.drop (j + 1) := by rw [← List.drop_eq_getElem_cons hj, List.take_append_drop]
  have e' : h.set j y = h.take j ++ y :: h.drop (j + 1) := by rw [List.set_eq_take_append_cons_drop, if_pos hj]
  have bd (l : List UInt8) : ∀ x ∈ l.map UInt8.toNat, x < 256 := by
    intro x hx
    obtain ⟨u, _, rfl⟩ := List.mem_map.1 hx
    exact u.toNat_lt
  rw [e']
  conv => rhs; rw [e]
  unfold sumU
  rw [List.map_append, List.map_append, List.map_cons, List.map_cons]
  exact crcOf_turned (bd _) (bd _) y.toNat_lt (h[j]).toNat_lt (by decide) (fun x => hy (UInt8.toNat_inj.1 x))
/-- A frame of which one byte was turned is none. -/
theorem turned {k k' y : UInt8} {d d' : List UInt8} {j : Nat} (hd : d'.length = d.length) (hj : j < (wrapL k d).length) (hy : y ≠ (wrapL k d)[j]) : (wrapL k d).set j y ≠ wrapL k' d' := by
  intro e
  have hl : (wrapHead k' d').length = (wrapHead k d).length := by simp [wrapHead, hd]
  cases j with
  | zero =>
    simp only [wrapL_sum, List.set_cons_zero, List.cons.injEq] at e
    exact hy (by rw [e.1]; simp [wrapL_sum])
  | succ j =>
    simp only [wrapL_sum, List.set_cons_succ, List.cons.injEq, true_and] at e
    have hj' : j < (wrapHead k d ++ sumBytes (wrapHead k d)).length := by simpa [wrapL_sum] using hj
    have hy' : y ≠ (wrapHead k d ++ sumBytes (wrapHead k d))[j] := by
      intro h
      apply hy
      rw [h]
      simp [wrapL_sum]
    by_cases c : j < (wrapHead k d).length
    · rw [List.set_append_left _ _ c] at e
      have e1 := List.append_inj e (by rw [List.length_set, hl])
      have e2 := sum_of_bytes e1.2
      rw [← e1.1] at e2
      rw [List.getElem_append_left c] at hy'
      exact sumU_turned c hy' e2.symm
    · rw [List.set_append_right _ _ (by omega)] at e
      have e1 := List.append_inj e hl.symm
      have e2 : (sumBytes (wrapHead k d)).set (j - (wrapHead k d).length) y = sumBytes (wrapHead k d) := by rw [e1.2, e1.1]
      rw [List.getElem_append_right (by omega)] at hy'
      have hb : j - (wrapHead k d).length < (sumBytes (wrapHead k d)).length := by rw [List.length_append] at hj'; omega
      have := List.getElem_set_self (l := sumBytes (wrapHead k d)) (a := y) (i := j - (wrapHead k d).length) (by rw [List.length_set]; exact hb)
      simp only [e2] at this
      exact hy' this.symm
theorem look_turned {k y : UInt8} {d : List UInt8} {j n : Nat} (hj : j < (wrapL k d).length) (hy : y ≠ (wrapL k d)[j]) (hl : look ((wrapL k d).set j y) = some (n + 1)) (hn : n + 5 = (wrapL k d).length) : False := by
  have e := wrap_look hl
  have h5 := (look_parts hl).2.2.2.1
  rw [List.take_of_length_le (by rw [List.length_set]; omega)] at e
  refine turned ?_ hj hy e
  rw [List.length_take, List.length_drop, List.length_set]
  rw [wrapL_length] at hn ⊢
  omega
end Go.Proofs.Ytgklpebdfpfdeaa
