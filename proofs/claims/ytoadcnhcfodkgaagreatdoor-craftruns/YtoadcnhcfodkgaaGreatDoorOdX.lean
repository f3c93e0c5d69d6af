/-
  Orders: Read, by the symbolic run, for the seat YtoadcnhcfodkgaaGreatDoor.
-/
import Derived.Test.YtoadcnhcfodkgaaGreatDoorSenX
import Derived.Test.YtoadcnhcfodkgaaGreatDoorCwB
import Derived.Test.YtoadcnhcfodkgaaGreatDoorSxT
import Derived.Test.YtoadcnhcfodkgaaGreatDoorOdEls
import Derived.Test.YtoadcnhcfodkgaaGreatDoorORx
namespace Go.Proofs.YtoadcnhcfodkgaaGreatDoor
open Go.RowKit

abbrev kOrd : Dc (Tup 9 × Int) := two' (cT 9) cI
def ozT (q c e : Int) : Tup 9 × Int := ((q, c, 0, 0, 0, 0, 0, 0, 0, ()), e)
def bI (b : UInt8) : Int := IntKind.i64.wrap ((b.toNat : Nat) : Int)
theorem bI_is (b : UInt8) : bI b = (b.toNat : Nat) := by
  have := b.toNat_lt
  unfold bI
  rw [IntKind.wrap_i64]
  omega
def osizCt : Ct Tryz.prog := pureCt Tryz.prog 201 (lone' cI) sizeS cI (go_of Tryz.func201 (by kernel_rfl) (by kernel_rfl)) (fun x w _ => Calls.mono (sizeOf_any x w) (by rintro e w' ⟨rfl, rfl⟩; exact ⟨rfl, Below.refl _ _⟩))
def orefCt : Ct Tryz.prog := pureCt Tryz.prog 202 (then' (cT 9) (lone' cI)) (fun x => ozT x.1.1 0 x.2) kOrd (go_of Tryz.func202 (by kernel_rfl) (by kernel_rfl)) (fun x w _ => refused_any x.1.1 x.1.2.1 (t7V x.1.2.2) x.2 w)
def orgtCt : Ct Tryz.prog := pureCt Tryz.prog 120 (lone' (cT 7)) (fun x => oRightC (t7V x)) cB (go_of Tryz.func120 (by kernel_rfl) (by kernel_rfl)) orit_fx
def elT (s : ByteArray) : Tup 7 := (onumS s 0, onumS s 8, onumS s 16, onumS s 24, onumS s 32, onumS s 40, onumS s 48, ())
def oelsCt : Ct Tryz.prog := predCt Tryz.prog 203 (lone' cS) (fun s K => s.size = 56 ∧ K ((cT 7).enc (elT s))) (fun _ _ _ hK hs => ⟨hs.1, hK _ hs.2⟩) (go_of Tryz.func203 (by kernel_rfl) (by kernel_rfl))
  (fun s w _ K hs => Calls.mono (elements_any s w hs.1) (by rintro e w' ⟨rfl, hb⟩; exact ⟨_, rfl, rfl, hs.2, hb⟩))
def oxE (q c : Int) (s : ByteArray) (Post : Value → Prop) : Prop :=
  (0 ≤ (2 : Int) ∧ (2 : Int) ≤ (s.size : Int)) ∧ (s.extract (2 : Int).toNat s.size).size = 56 ∧ vif (!oRightC (t7V (elT (s.extract (2 : Int).toNat s.size)))) (PJ kOrd Post (ozT q 0 3)) (PJ kOrd Post ((q, c, elT (s.extract (2 : Int).toNat s.size)), 0))
def oxB (k q c : Int) (s : ByteArray) (Post : Value → Prop) : Prop :=
  vif (decide ((s.size : Int) < 2)) (PJ kOrd Post (ozT 0 0 1)) (vif (!decide (k = 16)) (PJ kOrd Post (ozT q 0 1)) (vif (decide (sizeS c = 0)) (PJ kOrd Post (ozT q 0 2)) (vif (!decide ((s.size : Int) = sizeS c)) (PJ kOrd Post (ozT q 0 1)) (vif (!decide (c = 3)) (PJ kOrd Post (ozT q c 0)) (oxE q c s Post)))))
abbrev oxT : List (Ct Tryz.prog) := [osizCt, orefCt, orgtCt, oelsCt]
def oxO : Ov := fun id => match id with
  | 13 => some (strBy Tryz.prog oxT)
  | _ => none
set_option maxRecDepth 100000 in
theorem ox_ov (w : World) : OvOk Tryz.prog oxO [] w [] [] (bodyOf Tryz.prog 116) := by
  refine ovOk_by (ns := [(13, opsOf Tryz.prog 116 13, false)]) (by kernel_rfl) ?_
  intro r hr
  rcases List.mem_cons.1 hr with rfl | hr
  · intro R hR K Q bl vt m a w h r hK
    cases hR
    exact strBy_sound h r hK
  · cases hr
set_option maxRecDepth 100000 in
theorem ox_run (k : Int) (b0 b1 : UInt8) (rest : List UInt8) (y : Tup 9 × Int) (w : World) (hw : GW w) (h : ∀ Post : Value → Prop, PJ kOrd Post y → oxB k (bI b0) (bI b1) ⟨⟨b0 :: b1 :: rest⟩⟩ Post) : Calls Tryz.prog 116 ((lone' cFra).enc (k, ⟨⟨b0 :: b1 :: rest⟩⟩)).toArray w fun e w' => e = .returned (kOrd.enc y) ∧ Below w.heap.size w w' := by
  refine pure_atO (d := lone' cFra) (k := kOrd) (x := (k, ⟨⟨b0 :: b1 :: rest⟩⟩)) (y := y) (tbl := oxT) (dirty := fun _ => []) (n := 4) (ov := oxO) xmixA (by kernel_rfl) (by kernel_rfl) ox_ov ?_ w hw
  exact Eq.mpr (β := oxB k (bI b0) (bI b1) ⟨⟨b0 :: b1 :: rest⟩⟩ (fun v => v = kOrd.enc y)) (by kernel_rfl) (h _ rfl)
set_option maxRecDepth 100000 in
theorem ox_short (k : Int) (s : ByteArray) (h : s = ⟨⟨[]⟩⟩ ∨ ∃ b, s = ⟨⟨[b]⟩⟩) (w : World) (hw : GW w) : Calls Tryz.prog 116 ((lone' cFra).enc (k, s)).toArray w fun e w' => e = .returned (kOrd.enc (ozT 0 0 1)) ∧ Below w.heap.size w w' := by
  rcases h with rfl | ⟨b, rfl⟩
  · refine pure_at (d := lone' cFra) (k := kOrd) (x := (k, ⟨⟨[]⟩⟩)) (y := ozT 0 0 1) (tbl := [osizCt, orefCt, orgtCt, oelsCt]) (dirty := fun _ => []) (n := 4) xmixA Tryz.func116 rfl (fun Post hP => ?_) w hw
    exact Eq.mpr (β := PJ kOrd Post (ozT 0 0 1)) (by kernel_rfl) hP
  · refine pure_at (d := lone' cFra) (k := kOrd) (x := (k, ⟨⟨[b]⟩⟩)) (y := ozT 0 0 1) (tbl := [osizCt, orefCt, orgtCt, oelsCt]) (dirty := fun _ => []) (n := 4) xmixA Tryz.func116 rfl (fun Post hP => ?_) w hw
    exact Eq.mpr (β := PJ kOrd Post (ozT 0 0 1)) (by kernel_rfl) hP
set_option maxRecDepth 100000 in
theorem oread_any (k : Int) (s : ByteArray) (w : World) (hw : GW w) :
    Calls Tryz.prog 116 #[.agg #[.int .i64 k, .string s]] w fun e w' => e = .returned (.tuple #[.agg #[.int .i64 (ordR k s).1.1, .int .i64 (ordR k s).1.2.1, .int .i64 (ordR k s).1.2.2.1, .int .i64 (ordR k s).1.2.2.2.1, .int .i64 (ordR k s).1.2.2.2.2.1, .int .i64 (ordR k s).1.2.2.2.2.2.1, .int .i64 (ordR k s).1.2.2.2.2.2.2.1, .int .i64 (ordR k s).1.2.2.2.2.2.2.2.1, .int .i64 (ordR k s).1.2.2.2.2.2.2.2.2], .int .i64 (ordR k s).2]) ∧ Below w.heap.size w w' := by
  obtain ⟨⟨l⟩⟩ := s
  match l with
  | [] => exact ox_short k _ (.inl rfl) w hw
  | [b] => exact ox_short k _ (.inr ⟨b, rfl⟩) w hw
  | b0 :: b1 :: rest =>
    refine ox_run k b0 b1 rest (((ordR k ⟨⟨b0 :: b1 :: rest⟩⟩).1.1, (ordR k ⟨⟨b0 :: b1 :: rest⟩⟩).1.2.1, (ordR k ⟨⟨b0 :: b1 :: rest⟩⟩).1.2.2.1, (ordR k ⟨⟨b0 :: b1 :: rest⟩⟩).1.2.2.2.1, (ordR k ⟨⟨b0 :: b1 :: rest⟩⟩).1.2.2.2.2.1, (ordR k ⟨⟨b0 :: b1 :: rest⟩⟩).1.2.2.2.2.2.1, (ordR k ⟨⟨b0 :: b1 :: rest⟩⟩).1.2.2.2.2.2.2.1, (ordR k ⟨⟨b0 :: b1 :: rest⟩⟩).1.2.2.2.2.2.2.2.1, (ordR k ⟨⟨b0 :: b1 :: rest⟩⟩).1.2.2.2.2.2.2.2.2, ()), (ordR k ⟨⟨b0 :: b1 :: rest⟩⟩).2) w hw (fun Post hP => ?_)
    have e0 : bI b0 = (bt ⟨⟨b0 :: b1 :: rest⟩⟩ 0 : Nat) := bI_is b0
    have e1 : bI b1 = (bt ⟨⟨b0 :: b1 :: rest⟩⟩ 1 : Nat) := bI_is b1
    have hs : 2 ≤ (⟨⟨b0 :: b1 :: rest⟩⟩ : ByteArray).size := by show 2 ≤ rest.length + 1 + 1; omega
    generalize (⟨⟨b0 :: b1 :: rest⟩⟩ : ByteArray) = s at *
    have hE : elT (s.extract 2 s.size) = (onumS s 2, onumS s 10, onumS s 18, onumS s 26, onumS s 34, onumS s 42, onumS s 50, ()) := by
      unfold elT
      simp only [numS_tail]
      rfl
    rw [e0, e1]
    unfold oxB
    unfold ordR at hP
    rw [decide_eq_false (show ¬ (s.size : Int) < 2 by omega)]
    rw [if_neg (show ¬ s.size < 2 by omega)] at hP
    by_cases hk : k = 16
    · rw [decide_eq_true hk]
      rw [if_neg (show ¬ k ≠ 16 by omega)] at hP
      by_cases hz : sizeS (bt s 1 : Nat) = 0
      · rw [decide_eq_true hz]; rw [if_pos hz] at hP; exact hP
      rw [decide_eq_false hz]; rw [if_neg hz] at hP
      by_cases hl : (s.size : Int) = sizeS (bt s 1 : Nat)
      · rw [decide_eq_true hl]; rw [if_neg (fun z => z hl)] at hP
        by_cases h3 : ((bt s 1 : Nat) : Int) = 3
        · rw [decide_eq_true h3]; rw [if_neg (fun z => z h3)] at hP
          have hs58 : s.size = 58 := by rw [h3] at hl; have : sizeS 3 = 58 := rfl; omega
          show oxE _ _ s Post
          unfold oxE
          have e2 : ((2 : Int).toNat) = 2 := rfl
          rw [e2, hE, h3]
          refine ⟨⟨by omega, by omega⟩, by rw [ByteArray.size_extract]; omega, ?_⟩
          show vif (!oRightC (ordE s)) (PJ kOrd Post (ozT (bt s 0 : Nat) 0 3)) (PJ kOrd Post (((bt s 0 : Nat), 3, onumS s 2, onumS s 10, onumS s 18, onumS s 26, onumS s 34, onumS s 42, onumS s 50, ()), 0))
          cases hr : oRightC (ordE s)
          · rw [hr] at hP; exact hP
          · rw [hr] at hP; exact hP
        · rw [decide_eq_false h3]; rw [if_pos h3] at hP; exact hP
      · rw [decide_eq_false hl]; rw [if_pos hl] at hP; exact hP
    · rw [decide_eq_false hk]; rw [if_pos hk] at hP; exact hP
end Go.Proofs.YtoadcnhcfodkgaaGreatDoor
