/-
  Proved: of whatever play (up to 30 steps, 3000 bytes in all, from a right tick on; of others nothing is said), in each step of craft.Step that tells something what is told of the attitude is nothing but in Fine, and there its four counts' squares sum up to 16384 squared, but for 2^18; Fine is entered from Coarse alone, by a step behind which elements are known and among whose frames (as the document's Scan finds them in what was left and the bytes that came) there are such as the document's Read takes for readings of the gyro, the sun's cells and the magnetometer that are fresh; and what is told is read again. The tables atZero and inYear of package field hold what the program's text lays (the card's tie).
-/
import Derived.Test.YtbophanlmkbfeaaGreatDoorTie
import Derived.Test.YtbophanlmkbfeaaGreatDoorCards
import Derived.BigRegion
import Derived.SevenTiedAt
import Derived.Stop.Joined
import Derived.ChangeOld
import Derived.Below
import Derived.Test.YtbophanlmkbfeaaGreatDoorHE37
namespace Go.Proofs.YtbophanlmkbfeaaGreatDoor
open Go.ChangeShapes Go.WideShapes Go.ChangeAt Go.RowKit
set_option maxHeartbeats 1000000 in
set_option maxRecDepth 100000 in
theorem WholeEnters_walk {F : Fs} (hF : FsNq F) {B : Nat} {ao : Option Addr} {nn cap : Nat} {L : Nat → Int × ByteArray} {sl : Value} (t : Int) (w : World) (hw : GW w) (hr : Recs w B ao nn cap L sl) (hn : nn ≤ 1000000000000000) (hz : ∀ i, i < nn → (L i).2.size ≤ 1000000000000000) :
    Calls Tryz.prog 4 #[.agg #[.int .i64 t, .slice ao nn cap]] w fun e w' => e = .returned (.bool true) ∧ Below w.heap.size w w' := by
 go_enter Tryz.func4, Tryz.ntmps4
 go_wp2_with fail
 have A0 := Arr_at w w.heap.size [.int .i64 t, .slice ao nn cap] 61 rfl
 have K0 : Below w.heap.size w (w.alloc (.cells #[.int .i64 t, .slice ao nn cap] 61)) := bel_al (Below.refl _ _) _
 have G0 := hw.below K0
 refine (lights_at hF.is _ G0).mono ?_
 rintro e X ⟨rfl, hb⟩
 have A1 := A0.below hb
 have K1 := K0.trans (hb.mono K0.size)
 clear A0 hb
 have c0 : X.cell? ⟨w.heap.size, 0, none⟩ = some (.int .i64 t) := A1.c 0 (of_decide_eq_true rfl)
 have c1 : X.cell? ⟨w.heap.size, 1, none⟩ = some (.slice ao nn cap) := A1.c 1 (of_decide_eq_true rfl)
 go_wp2_with fail
 refine (light_at t X (hw.below K1) (hr.same K1) hn hz).mono ?_
 rintro e Y ⟨⟨b, rfl, hl⟩, hb⟩
 have A2 := A1.below hb
 have K2 := K1.trans (hb.mono K1.size)
 clear A1 hb c0 c1
 cases b
 ·go_wp2_with (with_reducible refine post_stop ?_)
  exact ⟨bodyPost_ret (v := .bool true) (by simp [results, Tryz.results4, go_sem]) rfl ⟨rfl, K2⟩⟩
 ·obtain ⟨h30, hrem⟩ := hl rfl
  have c0 : Y.cell? ⟨w.heap.size, 0, none⟩ = some (.int .i64 t) := A2.c 0 (of_decide_eq_true rfl)
  have c1 : Y.cell? ⟨w.heap.size, 1, none⟩ = some (.slice ao nn cap) := A2.c 1 (of_decide_eq_true rfl)
  go_wp2_with fail
  refine (each_atI hF.is enters1_ok (go_of Tryz.func16 (by kernel_rfl) (by kernel_rfl)) FinI.zero (enters_all hF) t Y (hw.below K2) (hr.same K2) (by omega) hrem).mono ?_
  rintro e Z ⟨rfl, hb⟩
  have K3 := K2.trans (hb.mono K2.size)
  go_wp2_with (with_reducible refine post_stop ?_)
  exact ⟨bodyPost_ret (v := .bool true) (by simp [results, Tryz.results4, go_sem]) rfl ⟨rfl, K3⟩⟩
theorem WholeEnters_own : ownKnob Tryz.prog.godebug = none := by kernel_rfl
set_option maxRecDepth 100000 in
theorem WholeEnters_lifted (os : Os) (started : os.Started) (H : Type) (enc : TypeId × Value → H) :
    ReturnsInHanded {} Tryz.checked os 4 .any (fun w args => (Rows.wholeEntersSpec.pre enc Tryz.prog Tryz.f4 [] false w args ∧ laidMetH Tryz.prog laid2 w) ∧ sizedMet enc Tryz.prog Tryz.f4 (OpenSpec.ofChange Rows.wholeEntersSpec) false w args) (Rows.wholeEntersSpec.post enc Tryz.prog Tryz.f4 false true false false) := by
 refine returnsInHanded_of_change_and (C := Tryz.checked) (X := fun w _ => laidMetH Tryz.prog laid2 w) (fun _ _ _ hh h => h.of_heap hh) WholeEnters_own started (by kernel_rfl) Tryz.func4
  (ChangeSpec.witness_shaped (enc := enc) (C := Tryz.checked) (os := os) (X := fun w _ => laidMetH Tryz.prog laid2 w) false (World.doorLaid Tryz.prog 51 os) #[.agg #[.int .i64 0, .slice none 0 0]] 8 rfl (World.shaped_of_RefB (by kernel_rfl) (by kernel_rfl)) (by kernel_rfl) (by kernel_rfl) (by kernel_rfl) (door_met os _)) ?_
 intro W base args ds gs before hval0 hW _ hS hL _
 have hval : ∀ (j : Nat) t v, Tryz.f4.params[j]? = some t → args[j]? = some v → Value.okWide Tryz.prog W .any base t v := hval0
 have hW' := hW
 obtain ⟨p, q, hA0, hV, rfl, hfz, hnd⟩ := hW
 have hA : DataW.TrodAll enc Tryz.prog W 0 (fun _ => true) true Tryz.f4.params.toList args.toList ds p := hA0
 rw [Tryz.params4] at hA hval
 obtain ⟨v0, vs0, d0, ds0, p0, q0, hargs, rfl, rfl, h0, r0⟩ := trodAll_cons hA
 obtain ⟨rfl, rfl, rfl⟩ := trodAll_nil r0
 obtain rfl : args = #[v0] := by cases args; simp_all
 obtain ⟨rfl, rfl⟩ := trodVars_none hV
 have hG := of_laid hL
 have h0k := h0
 obtain ⟨t, B, ao, nn, cap, L, sl, rfl, hr, hsz⟩ := open_play hG.1.lies (hval 0 61 v0 rfl rfl) h0
 clear hA0 hval0
 have hlt0 : ∀ x ∈ p0, x.block < W.heap.size := fun x hx => by simpa using hW'.lt x (by simp [hx])
 obtain ⟨F, hF⟩ := fsn_ex
 refine (WholeEnters_walk hF t W hG hr (Nat.le_trans (hsz _ _ hS).1 (by decide)) (fun i hi => Nat.le_trans ((hsz _ _ hS).2 i hi) (by decide))).mono fun e W' ⟨he, bel⟩ => ?_
 subst he
 exact ⟨_, rfl, _, _, _, [], _, [], hW', trodAll_mk1 (shut_bool Tryz.underlying4 _), (trodAll_cons_mk (Below.trod laid_out (by kernel_rfl) (of_decide_eq_true (by kernel_rfl)) h0k bel hlt0) trodAll_mk0), rfl, bel.frame _, fun h => by cases h⟩
theorem WholeEnters_holds : Rows.WholeEntersSaid :=
 OpenClaim.holds_of_wide 4 Tryz.f4 rfl rfl rfl rfl rfl rfl rfl ⟨rfl, rfl, rfl, rfl, rfl⟩ rfl rfl rfl rfl rfl (by kernel_rfl) Tryz.func4 (by kernel_rfl)
  (of_decide_eq_true (by kernel_rfl)) (by unfold Func.isWrapper; first | (rw [if_pos (by decide +kernel)]; kernel_rfl) | (rw [if_neg (by decide +kernel)]; exact ⟨rfl, rfl⟩))
  (fun os started H enc _ => WholeEnters_lifted os started H enc)
theorem WholeEnters_card : Rows.WholeEntersCardSaid :=
 Claim7.holds_tied_plain_at .later [] [.data, .data] true Rows.wholeEntersCard.stood.harness Rows.wholeEntersCard.stood.looks
  WholeEnters_holds (fun _ h => by cases h) (by kernel_rfl) (fun _ h => by cases h) wholeEnters_row_tie rfl ⟨rfl, rfl⟩ (by kernel_rfl) rfl
  (fun f fn hf hfn => by
   obtain rfl : f = 4 := Option.some.inj ((show Tryz.prog.funcNamed "alidade/alidadetop.WholeEnters" = some 4 by kernel_rfl).symm.trans hf) |>.symm
   obtain rfl : fn = Tryz.f4 := (Option.some.inj (Tryz.func4.symm.trans hfn)).symm
   exact ⟨by kernel_rfl, fun j t ht => by
    rw [Tryz.params4] at ht
    have hm : t ∈ [61] := by simpa using Array.mem_of_getElem? ht
    have hall : ([61].all fun u => !Tryz.prog.wantsStandIn u) = true := by kernel_rfl
    exact (show Tryz.prog.wantsStandIn t = false by simpa using List.all_eq_true.1 hall t hm)⟩)
  (by kernel_rfl)
#print axioms WholeEnters_card
end Go.Proofs.YtbophanlmkbfeaaGreatDoor
