/-
  Frames and their bytes: what look finds is what Wrap writes, for the seat YtoadcnhcfodkgaaGreatDoor. No Go text in sight.
-/
import Derived.Test.YtoadcnhcfodkgaaGreatDoorCrcB
namespace Go.Proofs.YtoadcnhcfodkgaaGreatDoor

/-- A frame's bytes, but for mark and sum. -/
def wrapHead (k : UInt8) (d : List UInt8) : List UInt8 := [k, UInt8.ofNat d.length] ++ d
def wrapL (k : UInt8) (d : List UInt8) : List UInt8 := [165] ++ wrapHead k d ++ [UInt8.ofNat (sumU (wrapHead k d) / 256), UInt8.ofNat (sumU (wrapHead k d) % 256)]
theorem ofNat_toNat {n : Nat} (h : n < 256) : (UInt8.ofNat n).toNat = n := by simp; omega
section
variable {l : List UInt8} {n : Nat}
theorem look0 (h : 0 < l.length) (c : (l.getD 0 0).toNat ≠ 165) : look l = some 0 := by
  unfold look
  rw [if_neg (by omega), if_pos (fun e => c (by rw [e]; rfl))]
theorem look1 (h : 0 < l.length) (c : (l.getD 0 0).toNat = 165) (h3 : l.length < 3) : look l = none := by
  unfold look
  rw [if_neg (by omega), if_neg (by simpa [← UInt8.toNat_inj] using c), if_pos h3]
theorem look2 (c : (l.getD 0 0).toNat = 165) (h3 : 3 ≤ l.length) (hn : (l.getD 2 0).toNat = n) (h : 64 < n) : look l = some 0 := by
  unfold look
  rw [if_neg (by omega), if_neg (by simpa [← UInt8.toNat_inj] using c), if_neg (by omega), if_pos (by omega)]
theorem look3 (c : (l.getD 0 0).toNat = 165) (h3 : 3 ≤ l.length) (hn : (l.getD 2 0).toNat = n) (h : n ≤ 64) (h5 : l.length < n + 5) : look l = none := by
  unfold look
  rw [if_neg (by omega), if_neg (by simpa [← UInt8.toNat_inj] using c), if_neg (by omega), if_neg (by omega), if_pos (by omega)]
theorem look4 (c : (l.getD 0 0).toNat = 165) (hn : (l.getD 2 0).toNat = n) (h : n ≤ 64) (h5 : n + 5 ≤ l.length)
    (hq : sumU ((l.drop 1).take (n + 2)) ≠ (l.getD (n + 3) 0).toNat * 256 + (l.getD (n + 4) 0).toNat) : look l = some 0 := by
  unfold look
  rw [if_neg (by omega), if_neg (by simpa [← UInt8.toNat_inj] using c), if_neg (by omega), if_neg (by omega), if_neg (by omega), hn, if_neg hq]
theorem look5 (c : (l.getD 0 0).toNat = 165) (hn : (l.getD 2 0).toNat = n) (h : n ≤ 64) (h5 : n + 5 ≤ l.length)
    (hq : sumU ((l.drop 1).take (n + 2)) = (l.getD (n + 3) 0).toNat * 256 + (l.getD (n + 4) 0).toNat) : look l = some (n + 1) := by
  unfold look
  rw [if_neg (by omega), if_neg (by simpa [← UInt8.toNat_inj] using c), if_neg (by omega), if_neg (by omega), if_neg (by omega), hn, if_pos hq]
end
/-- Where a frame stands at the head of l: its bytes are those of kind and data. -/
theorem look_parts {l : List UInt8} {n : Nat} (h : look l = some (n + 1)) : l.getD 0 0 = 165 ∧ (l.getD 2 0).toNat = n ∧ n ≤ 64 ∧ n + 5 ≤ l.length ∧
    sumU ((l.drop 1).take (n + 2)) = (l.getD (n + 3) 0).toNat * 256 + (l.getD (n + 4) 0).toNat := by
  have L := (look_len h).2 n rfl
  unfold look at h
  split at h
  · cases h
  split at h
  · cases h
  rename_i a
  split at h
  · cases h
  split at h
  · cases h
  split at h
  · cases h
  split at h
  · rename_i q
    rw [← L.2.1] at q
    exact ⟨by simpa using a, L.2.1.symm, L.2.2, L.1, q⟩
  · cases h
theorem list5 {l : List UInt8} {n : Nat} (h : l.length = n + 5) : ∃ a b c d p q, l = a :: b :: c :: (d ++ [p, q]) ∧ d.length = n := by
  match l, h with
  | a :: b :: c :: r, h =>
    have hr : r.length = n + 2 := by simp at h; omega
    refine ⟨a, b, c, r.take n, r[n]'(by omega), r[n + 1]'(by omega), ?_, by rw [List.length_take]; omega⟩
    have e : r = r.take n ++ [r[n]'(by omega), r[n + 1]'(by omega)] := by
      apply List.ext_getElem
      · simp; omega
      · intro i h1 h2
        by_cases hi : i < n
        · rw [List.getElem_append_left (by rw [List.length_take]; omega), List.getElem_take]
        · rw [List.getElem_append_right (by rw [List.length_take]; omega)]
          have : i = n ∨ i = n + 1 := by omega
          rcases this with rfl | rfl
          · simp [show min i r.length = i by omega]
          · simp [show min n r.length = n by omega]
    rw [← e]
/-- Frames by their parts. -/
theorem look_mk {a b c p q : UInt8} {d r : List UInt8} (hd : d.length ≤ 64) (ha : a = 165) (hc : c.toNat = d.length) (hs : sumU ([b, c] ++ d) = p.toNat * 256 + q.toNat) :
    look (a :: b :: c :: (d ++ [p, q]) ++ r) = some (d.length + 1) := by
  refine look5 (by subst ha; rfl) (by simpa using hc) hd (by simp) ?_
  have e1 : ((a :: b :: c :: (d ++ [p, q]) ++ r).drop 1).take (d.length + 2) = [b, c] ++ d := by
    simp
  have e2 : (a :: b :: c :: (d ++ [p, q]) ++ r).getD (d.length + 3) 0 = p := by
    simp
  have e3 : (a :: b :: c :: (d ++ [p, q]) ++ r).getD (d.length + 4) 0 = q := by
    simp [show d.length + 1 - d.length = 1 by omega]
  rw [e1, e2, e3, hs]
theorem wrapL_parts (k : UInt8) (d : List UInt8) : wrapL k d = 165 :: k :: UInt8.ofNat d.length :: (d ++ [UInt8.ofNat (sumU (wrapHead k d) / 256), UInt8.ofNat (sumU (wrapHead k d) % 256)]) := by
  simp [wrapL, wrapHead]
theorem wrapL_length (k : UInt8) (d : List UInt8) : (wrapL k d).length = d.length + 5 := by
  rw [wrapL_parts]
  simp
theorem sum_join (n : Nat) (h : n < 65536) : n = (UInt8.ofNat (n / 256)).toNat * 256 + (UInt8.ofNat (n % 256)).toNat := by
  rw [ofNat_toNat (by omega), ofNat_toNat (by omega)]
  omega
theorem look_wrap (k : UInt8) (d r : List UInt8) (h : d.length ≤ 64) : look (wrapL k d ++ r) = some (d.length + 1) := by
  rw [wrapL_parts]
  exact look_mk h rfl (ofNat_toNat (by omega)) (sum_join _ (sumU_lt _))
theorem wrap_look {l : List UInt8} {n : Nat} (h : look l = some (n + 1)) : l.take (n + 5) = wrapL (l.getD 1 0) ((l.drop 3).take n) := by
  obtain ⟨h0, h2, h64, h5, hs⟩ := look_parts h
  obtain ⟨a, b, c, d, p, q, e, hd⟩ := list5 (l := l.take (n + 5)) (n := n) (by rw [List.length_take]; omega)
  have el : l = a :: b :: c :: (d ++ [p, q]) ++ l.drop (n + 5) := by rw [← e, List.take_append_drop]
  rw [e]
  generalize l.drop (n + 5) = r at el
  subst el hd
  have e1 : ((a :: b :: c :: (d ++ [p, q]) ++ r).drop 1).take (d.length + 2) = [b, c] ++ d := by
    simp
  have e2 : (a :: b :: c :: (d ++ [p, q]) ++ r).getD (d.length + 3) 0 = p := by
    simp
  have e3 : (a :: b :: c :: (d ++ [p, q]) ++ r).getD (d.length + 4) 0 = q := by
    simp [show d.length + 1 - d.length = 1 by omega]
  have e4 : ((a :: b :: c :: (d ++ [p, q]) ++ r).drop 3).take d.length = d := by
    simp
  have e5 : (a :: b :: c :: (d ++ [p, q]) ++ r).getD 1 0 = b := rfl
  have ha : a = 165 := h0
  have hc : c.toNat = d.length := h2
  rw [e1, e2, e3] at hs
  rw [e4, e5, wrapL_parts, ha]
  have hw : wrapHead b d = [b, c] ++ d := by
    unfold wrapHead
    rw [← hc, UInt8.ofNat_toNat]
  have hp := p.toNat_lt
  have hq := q.toNat_lt
  rw [hw, hs, ← hc, UInt8.ofNat_toNat, show (p.toNat * 256 + q.toNat) / 256 = p.toNat by omega, show (p.toNat * 256 + q.toNat) % 256 = q.toNat by omega, UInt8.ofNat_toNat, UInt8.ofNat_toNat]
theorem scanL_nil : scanL [] = ([], [], 0) := rfl
theorem scanL_none {l : List UInt8} (h : look l = none) : scanL l = ([], l, 0) := scanU_none h
theorem scanL_skip {l : List UInt8} (h : look l = some 0) : scanL l = ((scanL (l.drop 1)).1, (scanL (l.drop 1)).2.1, (scanL (l.drop 1)).2.2 + 1) := by
  have L := (look_len h).1
  rw [scanL_eq l (l.length - 1 + 1) (by omega), scanU_skip h, ← scanL_eq (l.drop 1) _ (by rw [List.length_drop]; omega)]
theorem scanL_frame {l : List UInt8} {n : Nat} (h : look l = some (n + 1)) : scanL l = ((l.getD 1 0, (l.drop 3).take n) :: (scanL (l.drop (n + 5))).1, (scanL (l.drop (n + 5))).2.1, (scanL (l.drop (n + 5))).2.2) := by
  have L := (look_len h).2 n rfl
  rw [scanL_eq l (l.length - 1 + 1) (by omega), scanU_frame h, ← scanL_eq (l.drop (n + 5)) _ (by rw [List.length_drop]; omega)]
theorem scanL_bound : ∀ (k : Nat) (l : List UInt8), l.length ≤ k → (scanL l).1.length * 5 + (scanL l).2.1.length + (scanL l).2.2 ≤ l.length
  | 0, l, h => by
    obtain rfl : l = [] := List.length_eq_zero_iff.1 (by omega)
    rw [scanL_nil]
    simp
  | k + 1, l, h => by
    cases e : look l with
    | none => rw [scanL_none e]; simp
    | some j =>
      have L := look_len e
      cases j with
      | zero =>
        have ih := scanL_bound k (l.drop 1) (by rw [List.length_drop]; omega)
        rw [List.length_drop] at ih
        rw [scanL_skip e]
        simp only
        omega
      | succ n =>
        have L5 := (L.2 n rfl).1
        have ih := scanL_bound k (l.drop (n + 5)) (by rw [List.length_drop]; omega)
        rw [List.length_drop] at ih
        rw [scanL_frame e]
        simp only [List.length_cons]
        omega
end Go.Proofs.YtoadcnhcfodkgaaGreatDoor
