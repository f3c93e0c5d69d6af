/-
  Orders: what is written is read again, what is read is written as just these bytes, for the seat Ytpceomcnknjiiaa. No Go text in sight.
-/
import Derived.Test.YtpceomcnknjiiaaOdM
namespace Go.Proofs.Ytpceomcnknjiiaa
open Go.RowKit

theorem strOf_is {l : List Int} {s : ByteArray} (hl : l.length = s.size) (h : ∀ i (hi : i < l.length), l[i] = ((bt s i : Nat) : Int)) : strOf l = s := by
  refine ByteArray.ext (Array.toList_inj.1 (List.ext_getElem ?_ ?_))
  · show (l.map _).length = _
    rw [List.length_map, hl]
    rfl
  · intro i h1 h2
    have hi : i < l.length := by
      have : (l.map fun b => UInt8.ofNat b.toNat).length = l.length := List.length_map _
      have h1' : i < (l.map fun b => UInt8.ofNat b.toNat).length := h1
      omega
    show (l.map fun b => UInt8.ofNat b.toNat)[i]'(by rw [List.length_map]; exact hi) = _
    rw [List.getElem_map, h i hi, Int.toNat_natCast]
    unfold bt
    rw [List.getD_eq_getElem?_getD, List.getElem?_eq_getElem h2]
    simp
theorem elsL_at (l : List Int) (f : Nat → Int) : ∀ j p, p < j → ∀ k, k < 8 → (elsL l f j)[l.length + 8 * p + k]? = (numL (f p))[k]?
  | 0, p, h, _, _ => absurd h (Nat.not_lt_zero p)
  | j + 1, p, h, k, hk => by
    show (elsL l f j ++ numL (f j))[l.length + 8 * p + k]? = _
    by_cases e : p = j
    · subst e
      rw [List.getElem?_append_right (by rw [elsL_len]; omega), elsL_len]
      congr 1
      omega
    · rw [List.getElem?_append_left (by rw [elsL_len]; omega)]
      exact elsL_at l f j p (by omega) k hk
/-- An order's numbers are of 64 bits. -/
def In7 (o : V7) : Prop := ∀ p, p < 7 → -9223372036854775808 ≤ v7F o p ∧ v7F o p ≤ 9223372036854775807
theorem els_rng {q : Int} (hq : 0 ≤ q ∧ q ≤ 255) (f : Nat → Int) : ∀ b ∈ elsL [q, 3] f 7, 0 ≤ b ∧ b < 256 :=
  elsL_rng (by intro b hb; simp only [List.mem_cons, List.not_mem_nil, or_false] at hb; rcases hb with rfl | rfl <;> omega) f 7
theorem els_num {q : Int} (hq : 0 ≤ q ∧ q ≤ 255) {o : V7} (ho : In7 o) : ∀ p, p < 7 → numS (strOf (elsL [q, 3] (v7F o) 7)) (2 + 8 * p) = v7F o p := by
  have hl : (elsL [q, 3] (v7F o) 7).length = 58 := elsL_len _ _ 7
  have hb := fun i hi => bt_strOf (els_rng hq (v7F o)) i hi
  have key : ∀ p, p < 7 → ∀ k (hk : k < 8) (h58 : 2 + 8 * p + k < (elsL [q, 3] (v7F o) 7).length), (elsL [q, 3] (v7F o) 7)[2 + 8 * p + k] = (numL (v7F o p))[k]'(by rw [numL_len]; exact hk) := by
    intro p hp k hk h58
    have := elsL_at [q, 3] (v7F o) 7 p hp k hk
    have e1 := List.getElem?_eq_getElem h58
    have e2 := List.getElem?_eq_getElem (l := numL (v7F o p)) (i := k) (by rw [numL_len]; exact hk)
    have e3 : (elsL [q, 3] (v7F o) 7)[2 + 8 * p + k]? = (numL (v7F o p))[k]? := this
    rw [e1, e2] at e3
    exact Option.some.inj e3
  intro p hp
  have B := fun k hk => (hb (2 + 8 * p + k) (by omega)).trans (key p hp k hk (by omega))
  exact num_back (ho p hp) (B 0 (by decide)) (B 1 (by decide)) (B 2 (by decide)) (B 3 (by decide)) (B 4 (by decide)) (B 5 (by decide)) (B 6 (by decide)) (B 7 (by decide))
theorem ord_parts {q c : Int} {o : V7} (h : ordOk q c o = true) : (0 ≤ q ∧ q ≤ 255) ∧ (1 ≤ c ∧ c ≤ 4) ∧ (c = 3 → oRightC o = true) := by
  unfold ordOk at h
  simp at h
  refine ⟨⟨h.1.1.1.1, h.1.1.1.2⟩, ⟨h.1.1.2, h.1.2⟩, fun t => ?_⟩
  rcases h.2 with h2 | h2
  · exact absurd t h2
  · exact h2
/-- What is written is read again. -/
theorem ord_back {q c : Int} {o : V7} (h : ordOk q c o = true) (ho : In7 o) : ordR 16 (strOf (ordL q c o)) = ((q, c, if c = 3 then o else z7), 0) := by
  obtain ⟨hq, hc, hr⟩ := ord_parts h
  by_cases c3 : c = 3
  · subst c3
    have hr := hr rfl
    have e : ordL q 3 o = elsL [q, 3] (v7F o) 7 := rfl
    rw [e, if_pos rfl]
    have hl : (elsL [q, 3] (v7F o) 7).length = 58 := elsL_len _ _ 7
    have b0 := bt_strOf (els_rng hq (v7F o)) 0 (by omega)
    have b1 := bt_strOf (els_rng hq (v7F o)) 1 (by omega)
    have b0 : ((bt (strOf (elsL [q, 3] (v7F o) 7)) 0 : Nat) : Int) = q := b0
    have b1 : ((bt (strOf (elsL [q, 3] (v7F o) 7)) 1 : Nat) : Int) = 3 := b1
    have hE : ordE (strOf (elsL [q, 3] (v7F o) 7)) = o := by
      have n := els_num hq ho
      unfold ordE
      rw [show numS (strOf (elsL [q, 3] (v7F o) 7)) 2 = o.1 from n 0 (by decide), show numS (strOf (elsL [q, 3] (v7F o) 7)) 10 = o.2.1 from n 1 (by decide), show numS (strOf (elsL [q, 3] (v7F o) 7)) 18 = o.2.2.1 from n 2 (by decide), show numS (strOf (elsL [q, 3] (v7F o) 7)) 26 = o.2.2.2.1 from n 3 (by decide), show numS (strOf (elsL [q, 3] (v7F o) 7)) 34 = o.2.2.2.2.1 from n 4 (by decide), show numS (strOf (elsL [q, 3] (v7F o) 7)) 42 = o.2.2.2.2.2.1 from n 5 (by decide), show numS (strOf (elsL [q, 3] (v7F o) 7)) 50 = o.2.2.2.2.2.2 from n 6 (by decide)]
    have hs := size_strOf (elsL [q, 3] (v7F o) 7)
    rw [hl] at hs
    unfold ordR
    rw [b0, b1, hE, hs]
    rw [if_neg (by decide), if_neg (by decide), if_neg (by decide), if_neg (by decide), if_neg (by decide), if_pos hr]
  · have e : ordL q c o = [q, c] := by unfold ordL; rw [if_neg c3]
    rw [e, if_neg c3]
    have rng : ∀ b ∈ [q, c], 0 ≤ b ∧ b < 256 := by intro b hb; simp only [List.mem_cons, List.not_mem_nil, or_false] at hb; rcases hb with rfl | rfl <;> omega
    have b0 : ((bt (strOf [q, c]) 0 : Nat) : Int) = q := bt_strOf rng 0 (by simp)
    have b1 : ((bt (strOf [q, c]) 1 : Nat) : Int) = c := bt_strOf rng 1 (by simp)
    have hs : (strOf [q, c]).size = 2 := size_strOf [q, c]
    have hz : sizeS c = 2 := by unfold sizeS; rw [if_pos (by omega)]
    unfold ordR
    rw [b0, b1, hs, hz]
    rw [if_neg (by decide), if_neg (by decide), if_neg (by decide), if_neg (by decide), if_pos c3]
theorem els_there (s : ByteArray) : elsL [((bt s 0 : Nat) : Int), 3] (v7F (ordE s)) 7 = [((bt s 0 : Nat) : Int), 3] ++ (List.range 56).map (fun i => ((bt s (2 + i) : Nat) : Int)) := by
  show [((bt s 0 : Nat) : Int), 3] ++ numL (numS s 2) ++ numL (numS s 10) ++ numL (numS s 18) ++ numL (numS s 26) ++ numL (numS s 34) ++ numL (numS s 42) ++ numL (numS s 50) = _
  rw [num_there, num_there, num_there, num_there, num_there, num_there, num_there]
  rfl
/-- What is read without a fault is written as just that frame. -/
theorem ord_there {k : Int} {s : ByteArray} (h : (ordR k s).2 = 0) : k = 16 ∧ ordOk (ordR k s).1.1 (ordR k s).1.2.1 (ordR k s).1.2.2 = true ∧ strOf (ordL (ordR k s).1.1 (ordR k s).1.2.1 (ordR k s).1.2.2) = s := by
  unfold ordR at h ⊢
  by_cases h2 : s.size < 2
  · rw [if_pos h2] at h; exact absurd h (by dsimp only; omega)
  rw [if_neg h2] at h ⊢
  by_cases hk : k ≠ 16
  · rw [if_pos hk] at h; exact absurd h (by dsimp only; omega)
  rw [if_neg hk] at h ⊢
  by_cases hz : sizeS (bt s 1 : Nat) = 0
  · rw [if_pos hz] at h; exact absurd h (by dsimp only; omega)
  rw [if_neg hz] at h ⊢
  by_cases hl : (s.size : Int) ≠ sizeS (bt s 1 : Nat)
  · rw [if_pos hl] at h; exact absurd h (by dsimp only; omega)
  rw [if_neg hl] at h ⊢
  have hl : (s.size : Int) = sizeS (bt s 1 : Nat) := by omega
  have r0 := bt_lt s 0
  have hsz : ((bt s 1 : Nat) : Int) = 1 ∨ ((bt s 1 : Nat) : Int) = 2 ∨ ((bt s 1 : Nat) : Int) = 3 ∨ ((bt s 1 : Nat) : Int) = 4 := by
    unfold sizeS at hz
    split at hz
    · omega
    · split at hz <;> omega
  refine ⟨by omega, ?_⟩
  by_cases h3 : ((bt s 1 : Nat) : Int) ≠ 3
  · rw [if_pos h3]
    have e2 : sizeS (bt s 1 : Nat) = 2 := by unfold sizeS; rw [if_pos (by omega)]
    have hs : s.size = 2 := by omega
    refine ⟨by unfold ordOk; simp; omega, ?_⟩
    show strOf (ordL (bt s 0 : Nat) (bt s 1 : Nat) z7) = s
    have e : ordL (bt s 0 : Nat) (bt s 1 : Nat) z7 = [((bt s 0 : Nat) : Int), ((bt s 1 : Nat) : Int)] := by unfold ordL; rw [if_neg h3]
    rw [e]
    refine strOf_is (by simp; omega) ?_
    intro i hi
    have hi' : i < 2 := hi
    match i, hi' with
    | 0, _ => rfl
    | 1, _ => rfl
  · rw [if_neg h3] at h ⊢
    have h3 : bt s 1 = 3 := by omega
    cases hR : oRightC (ordE s)
    · rw [hR, if_neg (by decide)] at h; exact absurd h (by dsimp only; omega)
    · rw [if_pos rfl]
      refine ⟨by unfold ordOk; dsimp only; rw [hR]; simp; omega, ?_⟩
      have hs : s.size = 58 := by rw [h3] at hl; have : sizeS ((3 : Nat) : Int) = 58 := rfl; omega
      show strOf (ordL (bt s 0 : Nat) 3 (ordE s)) = s
      rw [show ordL (bt s 0 : Nat) 3 (ordE s) = elsL [((bt s 0 : Nat) : Int), 3] (v7F (ordE s)) 7 from rfl, els_there]
      refine strOf_is (by simp; omega) ?_
      intro i hi
      match i, hi with
      | 0, _ => rfl
      | 1, _ => show (3 : Int) = _; rw [h3]; rfl
      | j + 2, hi =>
        have hj : j < 56 := by simp at hi; omega
        show (((List.range 56).map (fun i => ((bt s (2 + i) : Nat) : Int)))[j]'(by simp; omega)) = _
        rw [List.getElem_map, List.getElem_range, Nat.add_comm]
theorem ord_zero {k : Int} {s : ByteArray} (h : (ordR k s).2 ≠ 0) : (ordR k s).1.2 = (0, z7) ∧ (1 ≤ (ordR k s).2 ∧ (ordR k s).2 ≤ 3) := by
  unfold ordR at h ⊢
  split
  · exact ⟨rfl, by dsimp only; omega⟩
  · split
    · exact ⟨rfl, by dsimp only; omega⟩
    · split
      · exact ⟨rfl, by dsimp only; omega⟩
      · split
        · exact ⟨rfl, by dsimp only; omega⟩
        · split
          · simp_all
          · split
            · simp_all
            · exact ⟨rfl, by dsimp only; omega⟩
end Go.Proofs.Ytpceomcnknjiiaa
