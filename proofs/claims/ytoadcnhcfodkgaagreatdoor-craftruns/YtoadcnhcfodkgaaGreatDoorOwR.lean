/-
  Orders: the document's Read of an order's frame, for the seat YtoadcnhcfodkgaaGreatDoor.
-/
import Derived.Test.YtoadcnhcfodkgaaGreatDoorCwG
import Derived.Test.YtoadcnhcfodkgaaGreatDoorNxOR
namespace Go.Proofs.YtoadcnhcfodkgaaGreatDoor
open Go.RowKit

set_option maxHeartbeats 1000000 in
set_option maxRecDepth 100000 in
theorem onum_any (s : ByteArray) (p : Nat) (w : World) (h : p + 8 ≤ s.size) (hp : p < 100) :
    Calls Tryz.prog 177 #[.string s, .int .i64 p] w fun e w' => e = .returned (.int .i64 (onumS s p)) ∧ w = w' := by
  go_enter Tryz.func177, Tryz.ntmps177
  go_wp2
  go_loop [5, 6] (fun r i => ∃ k : Nat, k ≤ 8 ∧ i = .int .i64 k ∧ r = .int .u64 (numK s p k : Nat)) (fun _ i => 8 - (intOf i).toNat)
  case atStart => exact ⟨0, by omega, rfl, rfl⟩
  case round =>
    obtain ⟨k, hk, rfl, rfl⟩ := hrel
    by_cases c : k < 8
    · have hi := idx_run (s := s) (i := (p : Int) + (k : Int)) (n := p + k) (by omega) (by omega)
      have hb := bt_lt s (p + k)
      have ht : numK s p k < 72057594037927936 := Nat.lt_of_lt_of_le (numK_lt s p k) (show 256 ^ k ≤ 256 ^ 7 from Nat.pow_le_pow_right (by decide) (by omega))
      have HT : Hid (numK s p (k + 1) = numK s p k * 256 + bt s (p + k)) := rfl
      generalize numK s p k = t at ht HT ⊢
      generalize bt s (p + k) = b at hi hb HT
      go_wp2
      go_round
      case rel => exact ⟨k + 1, by omega, by go_num, by rw [HT.out]; go_num⟩
      case measure => simp [intOf]; omega
    · obtain rfl : k = 8 := by omega
      have HT : Hid (onumS s p = IntKind.i64.wrap (numK s p 8 : Nat)) := rfl
      have hl := numK_lt s p 8
      generalize numK s p 8 = t at HT hl ⊢
      go_wp2
      go_ret
      exact ⟨by rw [HT.out, IntWalk.i64_left]; rfl, rfl⟩
/-- Eight bytes from there on. -/
def Eig (s : ByteArray) (i : Int) : Prop := 0 ≤ i ∧ i < 100 ∧ i.toNat + 8 ≤ s.size
def rnumCt : Ct Tryz.prog := predCt Tryz.prog 177 (then' cS (lone' cI)) (fun x K => Eig x.1 x.2 ∧ K (.int .i64 (onumS x.1 x.2.toNat))) (fun _ _ _ hK hs => ⟨hs.1, hK _ hs.2⟩) (go_of Tryz.func177 (by kernel_rfl) (by kernel_rfl))
  (fun x w _ K hs => by
    obtain ⟨s, i⟩ := x
    obtain ⟨⟨h0, h1, h2⟩, hk⟩ := hs
    dsimp only at h0 h1 h2 hk
    obtain ⟨p, rfl⟩ : ∃ p : Nat, i = p := ⟨i.toNat, by omega⟩
    rw [Int.toNat_natCast] at h2 hk
    refine Calls.mono (onum_any s p w h2 (by omega)) ?_
    rintro e w' ⟨rfl, rfl⟩
    exact ⟨_, rfl, rfl, hk, Below.refl _ _⟩)
def t7G (x : Tup 7) : Nat → Int
  | 0 => x.1
  | 1 => x.2.1
  | 2 => x.2.2.1
  | 3 => x.2.2.2.1
  | 4 => x.2.2.2.2.1
  | 5 => x.2.2.2.2.2.1
  | _ => x.2.2.2.2.2.2.1
theorem pRight_is (x : Tup 7) : Nx.dRightW (t7G x) = pRightC (t7V x) := by
  unfold Nx.dRightW pRightC
  by_cases c1 : x.2.1 < 0
  · rw [if_pos (show t7G x 1 < 0 from c1), if_pos (show (t7V x).2.1 < 0 from c1)]
  rw [if_neg (show ¬ t7G x 1 < 0 from c1), if_neg (show ¬ (t7V x).2.1 < 0 from c1)]
  by_cases c2 : x.2.1 > 109951162777
  · rw [if_pos (show t7G x 1 > 109951162777 from c2), if_pos (show (t7V x).2.1 > 109951162777 from c2)]
  rw [if_neg (show ¬ t7G x 1 > 109951162777 from c2), if_neg (show ¬ (t7V x).2.1 > 109951162777 from c2)]
  have e1 : IntKind.i64.wrap (1099511627776 - t7G x 1) = 1099511627776 - x.2.1 := by
    show IntKind.i64.wrap (1099511627776 - x.2.1) = _
    rw [IntKind.wrap_i64]; omega
  have e2 : IntKind.i64.wrap (1099511627776 + t7G x 1) = 1099511627776 + x.2.1 := by
    show IntKind.i64.wrap (1099511627776 + x.2.1) = _
    rw [IntKind.wrap_i64]; omega
  have e3 : Nx.tickW (t7G x 6) = cRight (t7G x 6) := by
    unfold Nx.tickW cRight
    by_cases h : 0 ≤ t7G x 6
    · rw [if_pos h, decide_eq_true h]; rfl
    · rw [if_neg h, decide_eq_false h]; rfl
  unfold Nx.farW
  rw [e1, e2, e3]
  rfl
theorem owRight : PureOk Tryz.prog 67 (lone' (cT 7)) (fun x => pRightC (t7V x)) cB := fun x w hw => by
  have h := Nx.dRight_ok (t7G x) w hw
  rw [pRight_is] at h
  exact h
def rrightCt : Ct Tryz.prog := pureCt Tryz.prog 67 (lone' (cT 7)) (fun x => pRightC (t7V x)) cB (go_of Tryz.func67 (by kernel_rfl) (by kernel_rfl)) owRight
set_option maxRecDepth 100000 in
theorem rread_short (s : ByteArray) (h : s = ⟨⟨[]⟩⟩ ∨ ∃ b, s = ⟨⟨[b]⟩⟩) (w : World) (hw : GW w) : Calls Tryz.prog 63 ((lone' cFra).enc (16, s)).toArray w fun e w' => e = .returned (kOrd.enc (ozT 0 0 1)) ∧ Below w.heap.size w w' := by
  rcases h with rfl | ⟨b, rfl⟩
  · refine pure_at (d := lone' cFra) (k := kOrd) (x := (16, ⟨⟨[]⟩⟩)) (y := ozT 0 0 1) (tbl := [rnumCt, rrightCt]) (dirty := fun _ => []) (n := 4) xmixA Tryz.func63 rfl (fun Post hP => ?_) w hw
    exact Eq.mpr (β := PJ kOrd Post (ozT 0 0 1)) (by kernel_rfl) hP
  · refine pure_at (d := lone' cFra) (k := kOrd) (x := (16, ⟨⟨[b]⟩⟩)) (y := ozT 0 0 1) (tbl := [rnumCt, rrightCt]) (dirty := fun _ => []) (n := 4) xmixA Tryz.func63 rfl (fun Post hP => ?_) w hw
    exact Eq.mpr (β := PJ kOrd Post (ozT 0 0 1)) (by kernel_rfl) hP
def ordT (s : ByteArray) : Tup 7 := (onumS s (2 : Int).toNat, onumS s (10 : Int).toNat, onumS s (18 : Int).toNat, onumS s (26 : Int).toNat, onumS s (34 : Int).toNat, onumS s (42 : Int).toNat, onumS s (50 : Int).toNat, ())
def rrE (q c : Int) (s : ByteArray) (Post : Value → Prop) : Prop :=
  Eig s 2 ∧ Eig s 10 ∧ Eig s 18 ∧ Eig s 26 ∧ Eig s 34 ∧ Eig s 42 ∧ Eig s 50 ∧ vif (!pRightC (t7V (ordT s))) (PJ kOrd Post (ozT q 0 3)) (PJ kOrd Post ((q, c, ordT s), 0))
def rrL (q c : Int) (s : ByteArray) (Post : Value → Prop) (long : Int) : Prop :=
  vif (!decide ((s.size : Int) = long)) (PJ kOrd Post (ozT q 0 1)) (vif (decide (c = 3)) (rrE q c s Post) (PJ kOrd Post (ozT q c 0)))
def rrB (q c : Int) (s : ByteArray) (Post : Value → Prop) : Prop :=
  vif (decide ((s.size : Int) < 2)) (PJ kOrd Post (ozT 0 0 1)) (vif (decide (c < 1)) (PJ kOrd Post (ozT q 0 2)) (vif (decide (c > 4)) (PJ kOrd Post (ozT q 0 2)) (vif (decide (c = 3)) (rrL q c s Post 58) (rrL q c s Post 2))))
set_option maxRecDepth 100000 in
theorem rr_run (b0 b1 : UInt8) (rest : List UInt8) (y : Tup 9 × Int) (w : World) (hw : GW w) (h : ∀ Post : Value → Prop, PJ kOrd Post y → rrB (bI b0) (bI b1) ⟨⟨b0 :: b1 :: rest⟩⟩ Post) : Calls Tryz.prog 63 ((lone' cFra).enc (16, ⟨⟨b0 :: b1 :: rest⟩⟩)).toArray w fun e w' => e = .returned (kOrd.enc y) ∧ Below w.heap.size w w' := by
  refine pure_at (d := lone' cFra) (k := kOrd) (x := (16, ⟨⟨b0 :: b1 :: rest⟩⟩)) (y := y) (tbl := [rnumCt, rrightCt]) (dirty := fun _ => []) (n := 4) xmixA Tryz.func63 rfl (fun Post hP => ?_) w hw
  exact Eq.mpr (β := rrB (bI b0) (bI b1) ⟨⟨b0 :: b1 :: rest⟩⟩ Post) (by kernel_rfl) (h Post hP)
theorem rread16 (s : ByteArray) (w : World) (hw : GW w) : Calls Tryz.prog 63 ((lone' cFra).enc (16, s)).toArray w fun e w' => e = .returned (kOrd.enc (oreadT (16, s))) ∧ Below w.heap.size w w' := by
  obtain ⟨⟨l⟩⟩ := s
  match l with
  | [] => exact rread_short _ (.inl rfl) w hw
  | [b] => exact rread_short _ (.inr ⟨b, rfl⟩) w hw
  | b0 :: b1 :: rest =>
    refine rr_run b0 b1 rest _ w hw (fun Post hP => ?_)
    have e0 : bI b0 = (bt ⟨⟨b0 :: b1 :: rest⟩⟩ 0 : Nat) := bI_is b0
    have e1 : bI b1 = (bt ⟨⟨b0 :: b1 :: rest⟩⟩ 1 : Nat) := bI_is b1
    have hs : 2 ≤ (⟨⟨b0 :: b1 :: rest⟩⟩ : ByteArray).size := by show 2 ≤ rest.length + 1 + 1; omega
    generalize (⟨⟨b0 :: b1 :: rest⟩⟩ : ByteArray) = s at *
    rw [e0, e1]
    generalize hq : ((bt s 0 : Nat) : Int) = q at *
    generalize hc : ((bt s 1 : Nat) : Int) = c at *
    have hO : oreadT (16, s) = if c < 1 then ozT q 0 2 else if c > 4 then ozT q 0 2 else if (s.size : Int) ≠ (if c = 3 then 58 else 2) then ozT q 0 1 else if c = 3 then (if pRightC (t7V (ordT s)) then ((q, c, ordT s), 0) else ozT q 0 3) else ozT q c 0 := by
      have hE : t7V (ordT s) = ordE s := rfl
      unfold oreadT ordR
      dsimp only
      rw [hq, hc, if_neg (show ¬ s.size < 2 by omega), if_neg (show ¬ (16 : Int) ≠ 16 by decide), hE, pRightC_eq]
      by_cases h1 : c < 1
      · have hz : sizeS c = 0 := by unfold sizeS; rw [if_neg (by omega), if_neg (by omega)]
        rw [if_pos hz, if_pos h1]; rfl
      rw [if_neg h1]
      by_cases h4 : c > 4
      · have hz : sizeS c = 0 := by unfold sizeS; rw [if_neg (by omega), if_neg (by omega)]
        rw [if_pos hz, if_pos h4]; rfl
      rw [if_neg h4]
      by_cases h3 : c = 3
      · subst h3
        have hz : sizeS 3 = 58 := rfl
        rw [hz, if_neg (show ¬ (58 : Int) = 0 by decide), if_pos rfl, if_pos rfl, if_neg (show ¬ (3 : Int) ≠ 3 by decide)]
        by_cases hl : (s.size : Int) ≠ 58
        · rw [if_pos hl, if_pos hl]; rfl
        rw [if_neg hl, if_neg hl]
        cases oRightC (ordE s)
        · rfl
        · rfl
      · have hz : sizeS c = 2 := by unfold sizeS; rw [if_pos (by omega)]
        rw [hz, if_neg (show ¬ (2 : Int) = 0 by decide), if_neg h3, if_neg h3, if_pos h3]
        by_cases hl : (s.size : Int) ≠ 2
        · rw [if_pos hl, if_pos hl]; rfl
        rw [if_neg hl, if_neg hl]
        rfl
    rw [hO] at hP
    clear hO
    unfold rrB
    rw [decide_eq_false (show ¬ (s.size : Int) < 2 by omega)]
    by_cases h1 : c < 1
    · rw [decide_eq_true h1]; rw [if_pos h1] at hP; exact hP
    rw [decide_eq_false h1]; rw [if_neg h1] at hP
    by_cases h4 : c > 4
    · rw [decide_eq_true h4]; rw [if_pos h4] at hP; exact hP
    rw [decide_eq_false h4]; rw [if_neg h4] at hP
    by_cases h3 : c = 3
    · rw [decide_eq_true h3]; rw [if_pos h3, if_pos h3] at hP
      show rrL q c s Post 58
      unfold rrL
      by_cases hl : (s.size : Int) = 58
      · rw [decide_eq_true hl, decide_eq_true h3]; rw [if_neg (fun k => k hl)] at hP
        have g : ∀ i : Int, 0 ≤ i → i ≤ 50 → Eig s i := fun i h0 h1 => ⟨h0, by omega, by omega⟩
        refine ⟨g _ (by decide) (by decide), g _ (by decide) (by decide), g _ (by decide) (by decide), g _ (by decide) (by decide), g _ (by decide) (by decide), g _ (by decide) (by decide), g _ (by decide) (by decide), ?_⟩
        cases hr : pRightC (t7V (ordT s))
        · rw [hr] at hP; exact hP
        · rw [hr] at hP; exact hP
      · rw [decide_eq_false hl]; rw [if_pos hl] at hP; exact hP
    · rw [decide_eq_false h3]; rw [if_neg h3, if_neg h3] at hP
      show rrL q c s Post 2
      unfold rrL
      by_cases hl : (s.size : Int) = 2
      · rw [decide_eq_true hl, decide_eq_false h3]; rw [if_neg (fun k => k hl)] at hP; exact hP
      · rw [decide_eq_false hl]; rw [if_pos hl] at hP; exact hP
end Go.Proofs.YtoadcnhcfodkgaaGreatDoor
