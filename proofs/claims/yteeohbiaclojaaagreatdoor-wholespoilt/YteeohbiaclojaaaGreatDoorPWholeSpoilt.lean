/-
  Proved: of whatever play (up to 30 steps, 3000 bytes in all, from a right tick on; of others nothing is said), frame and byte: a frame of which a byte is turned (not its third, and A5 stands at its beginning alone) is, whatever step it comes in, as if it hadn't come: the craft behind that step is the one behind a step without bytes, but for what is rejected: one more, or as many. The tables atZero and inYear of package field hold what the program's text lays (the card's tie).
-/
import Derived.Test.YteeohbiaclojaaaGreatDoorTie
import Derived.Test.YteeohbiaclojaaaGreatDoorCards
import Derived.BigRegion
import Derived.SevenTiedAt
import Derived.Stop.Joined
import Derived.ChangeOld
import Derived.Below
import Derived.Test.YteeohbiaclojaaaGreatDoorHU36
import Derived.Test.YteeohbiaclojaaaGreatDoorHU37
namespace Go.Proofs.YteeohbiaclojaaaGreatDoor
open Go.ChangeShapes Go.WideShapes Go.ChangeAt Go.RowKit Go.Joins
theorem turned_cells : Tryz.prog.cellsOf 28 = 2 := by kernel_rfl
section
variable {H : Type} {enc : TypeId × Value → H} {w : World} {base : Nat} {spare : Nat → Bool} {held : Bool}
set_option maxRecDepth 100000 in
theorem open_turned2 {r : Reach} {b0 : Nat} {v : Value} {d : DataW H} {ps : List MemPlace} (hval : Value.okWide Tryz.prog w r b0 28 v) (hd : DataW.Trod enc Tryz.prog w base spare held 28 v d ps) :
    ∃ a : Int × Int, v = .agg #[.int .i64 a.1, .int .u8 a.2] ∧ d = .agg [.lit (.int .i64 a.1), .lit (.int .u8 a.2)] ∧ ps = [] ∧ (Lit.int .i64 a.1).wf = true ∧ (Lit.int .u8 a.2).wf = true := by
 obtain ⟨c0, c1, y0, y1, m, rfl, rfl, rfl, hy0, hy1⟩ := open_agg2 Tryz.underlying28 (by kernel_rfl) turned_cells hval hd
 obtain ⟨x0, e0, rfl, w0⟩ := DataW.trod_int Tryz.underlying3 hy0
 obtain ⟨x1, e1, rfl, w1⟩ := DataW.trod_int Tryz.underlying5 hy1
 simp at e0 e1
 subst e0 e1
 exact ⟨(x0, x1), rfl, rfl, rfl, w0, w1⟩
set_option maxRecDepth 100000 in
theorem shut_turned2 {a : Int × Int} (w0 : (Lit.int .i64 a.1).wf = true) (w1 : (Lit.int .u8 a.2).wf = true) :
    DataW.Trod enc Tryz.prog w base spare held 28 (.agg #[.int .i64 a.1, .int .u8 a.2]) (.agg [.lit (.int .i64 a.1), .lit (.int .u8 a.2)]) [] :=
 shut_agg2 (y0 := (.lit (.int .i64 a.1), [])) (y1 := (.lit (.int .u8 a.2), [])) Tryz.underlying28 (by kernel_rfl) turned_cells ⟨1, by simp [DataW.trod, Tryz.underlying3, w0]⟩ ⟨1, by simp [DataW.trod, Tryz.underlying5, w1]⟩
end
theorem WholeSpoilt_own : ownKnob Tryz.prog.godebug = none := by kernel_rfl
set_option maxRecDepth 100000 in
theorem WholeSpoilt_lifted (os : Os) (started : os.Started) (H : Type) (enc : TypeId × Value → H) :
    ReturnsInHanded {} Tryz.checked os 3 .any (fun w args => (Rows.wholeSpoiltSpec.pre enc Tryz.prog Tryz.f3 [] false w args ∧ laidMetH Tryz.prog laid2 w) ∧ sizedMet enc Tryz.prog Tryz.f3 (OpenSpec.ofChange Rows.wholeSpoiltSpec) false w args) (Rows.wholeSpoiltSpec.post enc Tryz.prog Tryz.f3 false true false false) := by
 refine returnsInHanded_of_change_and (C := Tryz.checked) (X := fun w _ => laidMetH Tryz.prog laid2 w) (fun _ _ _ hh h => h.of_heap hh) WholeSpoilt_own started (by kernel_rfl) Tryz.func3
  (ChangeSpec.witness_shaped (enc := enc) (C := Tryz.checked) (os := os) (X := fun w _ => laidMetH Tryz.prog laid2 w) false (World.doorLaid Tryz.prog 51 os) #[.agg #[.int .i64 0, .slice none 0 0], .agg #[.int .i64 0, .string ⟨#[]⟩], .agg #[.int .i64 0, .int .u8 0]] 8 rfl (World.shaped_of_RefB (by kernel_rfl) (by kernel_rfl)) (by kernel_rfl) (by kernel_rfl) (by kernel_rfl) (door_met os _)) ?_
 intro W base args ds gs before hval0 hW _ hS hL _
 have hval : ∀ (j : Nat) t v, Tryz.f3.params[j]? = some t → args[j]? = some v → Value.okWide Tryz.prog W .any base t v := hval0
 have hW' := hW
 obtain ⟨p, q, hA0, hV, rfl, hfz, hnd⟩ := hW
 have hA : DataW.TrodAll enc Tryz.prog W 0 (fun _ => true) true Tryz.f3.params.toList args.toList ds p := hA0
 rw [Tryz.params3] at hA hval
 obtain ⟨v0, vs0, d0, ds0, p0, q0, hargs, rfl, rfl, h0, r0⟩ := trodAll_cons hA
 obtain ⟨v1, vs1, d1, ds1, p1, q1, e1, rfl, rfl, h1, r1⟩ := trodAll_cons r0
 obtain ⟨v2, vs2, d2, ds2, p2, q2, e2, rfl, rfl, h2, r2⟩ := trodAll_cons r1
 obtain ⟨rfl, rfl, rfl⟩ := trodAll_nil r2
 subst e2 e1
 obtain rfl : args = #[v0, v1, v2] := by cases args; simp_all
 obtain ⟨rfl, rfl⟩ := trodVars_none hV
 have hG := of_laid hL
 have h0k := h0
 obtain ⟨t, B, ao, nn, cap, L, sl, rfl, hr, hsz⟩ := open_play hG.1.lies (hval 0 24 v0 rfl rfl) h0
 obtain ⟨a1, rfl, rfl, rfl, w1, x1⟩ := open_frame (hval 1 26 v1 rfl rfl) h1
 obtain ⟨a2, rfl, rfl, rfl, w2, x2⟩ := open_turned2 (hval 2 28 v2 rfl rfl) h2
 clear hA0 hval0
 have hlt0 : ∀ x ∈ p0, x.block < W.heap.size := fun x hx => by simpa using hW'.lt x (by simp [hx])
 obtain ⟨F, hF⟩ := fs_ex
 refine (WholeSpoilt_walk hF t a1.1 a2.1 a2.2 a1.2 W hG hr (Nat.le_trans (hsz _ _ hS).1 (by decide)) (fun i hi => Nat.le_trans ((hsz _ _ hS).2 i hi) (by decide)) (bounds_u8 x2)).mono fun e W' ⟨he, bel⟩ => ?_
 subst he
 exact ⟨_, rfl, _, _, _, [], _, [], hW', trodAll_mk1 (shut_bool Tryz.underlying4 _), (trodAll_cons_mk (Below.trod laid_out (by kernel_rfl) (of_decide_eq_true (by kernel_rfl)) h0k bel hlt0) (trodAll_cons_mk (shut_frame w1 x1) (trodAll_cons_mk (shut_turned2 w2 x2) trodAll_mk0))), rfl, bel.frame _, fun h => by cases h⟩
theorem WholeSpoilt_holds : Rows.WholeSpoiltSaid :=
 OpenClaim.holds_of_wide 3 Tryz.f3 rfl rfl rfl rfl rfl rfl rfl ⟨rfl, rfl, rfl, rfl, rfl⟩ rfl rfl rfl rfl rfl (by kernel_rfl) Tryz.func3 (by kernel_rfl)
  (of_decide_eq_true (by kernel_rfl)) (by unfold Func.isWrapper; first | (rw [if_pos (by decide +kernel)]; kernel_rfl) | (rw [if_neg (by decide +kernel)]; exact ⟨rfl, rfl⟩))
  (fun os started H enc _ => WholeSpoilt_lifted os started H enc)
theorem WholeSpoilt_card : Rows.WholeSpoiltCardSaid :=
 Claim7.holds_tied_plain_at .later [] [.data, .data] true Rows.wholeSpoiltCard.stood.harness Rows.wholeSpoiltCard.stood.looks
  WholeSpoilt_holds (fun _ h => by cases h) (by kernel_rfl) (fun _ h => by cases h) wholeSpoilt_row_tie rfl ⟨rfl, rfl⟩ (by kernel_rfl) rfl
  (fun f fn hf hfn => by
   obtain rfl : f = 3 := Option.some.inj ((show Tryz.prog.funcNamed "alidade/alidadetop.WholeSpoilt" = some 3 by kernel_rfl).symm.trans hf) |>.symm
   obtain rfl : fn = Tryz.f3 := (Option.some.inj (Tryz.func3.symm.trans hfn)).symm
   exact ⟨by kernel_rfl, fun j t ht => by
    rw [Tryz.params3] at ht
    have hm : t ∈ [24, 26, 28] := by simpa using Array.mem_of_getElem? ht
    have hall : ([24, 26, 28].all fun u => !Tryz.prog.wantsStandIn u) = true := by kernel_rfl
    exact (show Tryz.prog.wantsStandIn t = false by simpa using List.all_eq_true.1 hall t hm)⟩)
  (by kernel_rfl)
#print axioms WholeSpoilt_card
end Go.Proofs.YteeohbiaclojaaaGreatDoor
