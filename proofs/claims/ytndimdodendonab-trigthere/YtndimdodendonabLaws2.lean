/-
  Flows anew, and the walk of alidadelaw02.awake, for the seat Ytndimdodendonab.
-/
import Derived.Test.YtndimdodendonabTSin
import Derived.Handy
import Derived.Deep.RegionHeld3
namespace Go.Proofs.Ytndimdodendonab
open Go.RowKit

/-- A stronger condition may be held from any point of a region on. -/
theorem wpAnyH_swap {P : Program} {md : Region.Mode} {ops : Array Oper} {Q : Exit → Act → World → Prop} {S T : World → Prop} (h : ∀ w, S w → T w) :
    ∀ {fuel : Nat} {listed : Array Bool} {a : Act} {w : World}, wpAnyH P md ops Q S fuel listed a w → wpAnyH P md ops Q T fuel listed a w
  | 0, _, _, _, k => k
  | _ + 1, _, _, _, k => ⟨k.1, fun i hi => wpOp_mono (fun _ _ k2 => ⟨h _ k2.1, wpAnyH_swap h k2.2⟩) (k.2 i hi)⟩
theorem take_at {P : Program} {md : Region.Mode} {l : List Oper} {Q : Exit → Act → World → Prop} {S : World → Prop} {i : Nat} {oi : Oper} {v : Value} {fuel : Nat} {listed : Array Bool} {a : Act} {w : World} (hi : l[i]? = some oi)
    (hs : Region.noSelect l.toArray = true) (hf : Region.free md l.toArray listed i = true) (hr : (Region.ready md l.toArray listed).contains i = true)
    (hQ : ∀ c a w, Q (.panic c) (a.put oi.dst v) w → Q (.panic c) a w) (hy : YieldsIf P l.toArray S oi v a) (hS : S w)
    (h : wpAnyH P md l.toArray Q S fuel (listed.setIfInBounds i true) (a.put oi.dst v) w) : wpAnyH P md l.toArray Q S (fuel + 1) listed a w :=
  wpAnyH_take (ops := l.toArray) (by simpa using hi) hs hf hr hQ hy hS h
theorem call_at {P : Program} {md : Region.Mode} {l : List Oper} {Q : Exit → Act → World → Prop} {S : World → Prop} {i : Nat} {o : Oper} {fuel : Nat} {listed : Array Bool} {a : Act} {w : World} (hr : Region.ready md l.toArray listed = [i]) (hi : l[i]? = some o)
    (h : ∀ K' : Act → World → Prop, Shut (∀ a w, S w → (S w → wpAnyH P md l.toArray Q S fuel (listed.setIfInBounds i true) a w) → K' a w) → if Region.wanted o (yielded l.toArray a.tmps) = true then Oper.wp P o a w K' Q else K' (a.put o.dst undef) w) :
    wpAnyH P md l.toArray Q S (fuel + 1) listed a w :=
  wpAnyH_ready hr (by simp) (AllReadyH.cons (by simpa using hi) h AllReadyH.nil)
theorem i64_of_wf {n : Int} (h : (Lit.int .i64 n).wf = true) : -9223372036854775808 ≤ n ∧ n ≤ 9223372036854775807 := by
  simp only [Lit.wf, IntKind.min, IntKind.max, IntKind.signed, IntKind.bits, Bool.and_eq_true, decide_eq_true_eq, if_true] at h
  omega
theorem Fl_new (w : World) (bad : Bool) (t : TypeId) : Fl w.heap.size bad (w.alloc (.cells #[.bool bad] t)) :=
  ⟨by simp, by simp, by simp⟩
theorem Fl_at (w : World) (n : Nat) (bad : Bool) (t : TypeId) (hn : n = w.heap.size) : Fl n bad (w.alloc (.cells #[.bool bad] t)) := by
  subst hn; exact Fl_new w bad t
theorem Kept.on {b : Nat} {x w w' : World} (h : Kept b w w') (hx : Below x.heap.size x w) (hb : x.heap.size ≤ b) : Below x.heap.size x w' := h.below hx hb hx.size

theorem awake_num : sinA false 1727108826179 = (1099511627776, false) := by decide +kernel

set_option maxHeartbeats 400000 in
theorem awake_any (w : World) : Calls Try.prog 4 #[] w fun e w' => e = .returned (.bool true) ∧ Below w.heap.size w w' := by
  go_enter Try.func4, Try.ntmps4
  go_wp2_with fail
  refine (Sin_any w.heap.size false _ _ (Fl_new _ _ _)).mono ?_
  rintro e w1 ⟨rfl, h2, h3⟩
  rw [awake_num] at h2 ⊢
  have H3 : Hid (Below w.heap.size w w1) := h3.below ((Below.refl _ _).alloc (Nat.le_refl _) _) (Nat.le_refl _) (by simp)
  have f1 := h2.cell
  clear h2 h3
  go_wp2
  go_ret
  exact ⟨rfl, H3.out⟩
end Go.Proofs.Ytndimdodendonab
