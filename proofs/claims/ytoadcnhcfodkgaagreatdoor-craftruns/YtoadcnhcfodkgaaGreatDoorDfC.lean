/-
  The document's frames, whole, for the seat YtoadcnhcfodkgaaGreatDoor.
-/
import Derived.Test.YtoadcnhcfodkgaaGreatDoorDfB
namespace Go.Proofs.YtoadcnhcfodkgaaGreatDoor
open Go.RowKit

section
variable (F : Fs) (h : DsOk F)
set_option maxRecDepth 100000 in
theorem fk_ov (l : List (UInt8 × List UInt8)) (w : World) : OvOk Tryz.prog (fkO F h l) [] w [] [] (bodyOf Tryz.prog 18) := by
  refine ovOk_by (ns := [(2, #[(opOf Tryz.prog 18 2 0), (opOf Tryz.prog 18 2 1), (opOf Tryz.prog 18 2 2), (opOf Tryz.prog 18 2 3), (opOf Tryz.prog 18 2 4), (opOf Tryz.prog 18 2 5), (opOf Tryz.prog 18 2 6), (opOf Tryz.prog 18 2 7), (opOf Tryz.prog 18 2 8), (opOf Tryz.prog 18 2 9), (opOf Tryz.prog 18 2 10), (opOf Tryz.prog 18 2 11)], false), (6, opsOf Tryz.prog 18 6, false), (7, #[(opOf Tryz.prog 18 7 0), (opOf Tryz.prog 18 7 1), (opOf Tryz.prog 18 7 2), (opOf Tryz.prog 18 7 3)], false), (9, #[(opOf Tryz.prog 18 9 0), (opOf Tryz.prog 18 9 1), (opOf Tryz.prog 18 9 2), (opOf Tryz.prog 18 9 3), (opOf Tryz.prog 18 9 4), (opOf Tryz.prog 18 9 5)], false), (8, opsOf Tryz.prog 18 8, false)]) (by kernel_rfl) ?_
  intro r hr
  rcases List.mem_cons.1 hr with rfl | hr
  · intro R hR K Q bl vt m a w h r hK
    cases hR
    exact fScan_sound (tC := 42) (tT := 9) (fn := 59) rfl (by kernel_rfl) (by kernel_rfl) rfl ⟨by kernel_rfl, by kernel_rfl, by kernel_rfl⟩ ⟨by kernel_rfl, by kernel_rfl, by kernel_rfl⟩ ⟨by kernel_rfl, by kernel_rfl, by kernel_rfl⟩ ⟨by kernel_rfl, by kernel_rfl, by kernel_rfl⟩ ⟨by kernel_rfl, by kernel_rfl, by kernel_rfl⟩ ⟨by kernel_rfl, by kernel_rfl, by kernel_rfl⟩ ⟨by kernel_rfl, by kernel_rfl, by kernel_rfl⟩ ⟨by kernel_rfl, by kernel_rfl, by kernel_rfl⟩ ⟨by kernel_rfl, by kernel_rfl, by kernel_rfl⟩ ⟨by kernel_rfl, by kernel_rfl, by kernel_rfl⟩ ⟨by kernel_rfl, by kernel_rfl, by kernel_rfl⟩ ⟨by kernel_rfl, by kernel_rfl, by kernel_rfl⟩ h r hK
  rcases List.mem_cons.1 hr with rfl | hr
  · intro R hR K Q bl vt m a w h r hK
    cases hR
    exact cutBy_sound xmixA (by decide) h r hK
  rcases List.mem_cons.1 hr with rfl | hr
  · intro R hR K Q bl vt m a w h r hK
    cases hR
    exact fLen_sound (tS := 104) (e := 99) (tI := 3) (by kernel_rfl) rfl ⟨by kernel_rfl, by kernel_rfl, by kernel_rfl⟩ ⟨by kernel_rfl, by kernel_rfl, by kernel_rfl⟩ ⟨by kernel_rfl, by kernel_rfl, by kernel_rfl⟩ ⟨by kernel_rfl, by kernel_rfl, by kernel_rfl⟩ h r hK
  rcases List.mem_cons.1 hr with rfl | hr
  · intro R hR K Q bl vt m a w h r hK
    cases hR
    exact fOne_sound (tS := 104) (tF := 99) (z := .agg #[.int .i64 0, .string ⟨#[]⟩]) (by kernel_rfl) (by kernel_rfl) (by kernel_rfl) (by kernel_rfl) rfl rfl ⟨by kernel_rfl, by kernel_rfl, by kernel_rfl⟩ ⟨by kernel_rfl, by kernel_rfl, by kernel_rfl⟩ ⟨by kernel_rfl, by kernel_rfl, by kernel_rfl⟩ ⟨by kernel_rfl, by kernel_rfl, by kernel_rfl⟩ ⟨by kernel_rfl, by kernel_rfl, by kernel_rfl⟩ ⟨by kernel_rfl, by kernel_rfl, by kernel_rfl⟩ h r hK
  rcases List.mem_cons.1 hr with rfl | hr
  · intro R hR K Q bl vt m a w h r hK
    cases hR
    exact cutBy_sound xmixA (by decide) h r hK
  · cases hr
set_option maxRecDepth 100000 in
theorem takesD_at (h : DsOk F) (x : Cra × Int × ByteArray) (hs : x.1.2.2.1.size + x.2.2.size ≤ 5000) (w : World) (hw : GW w) :
    Calls Tryz.prog 18 ((then' cCra (then' cI (lone' cS))).enc x).toArray w fun e w' => e = .returned ((two' cCra cHeD).enc (takeD F x.1 x.2.1 x.2.2)) ∧ Below w.heap.size w w' := by
  obtain ⟨c, t, b⟩ := x
  dsimp only at hs ⊢
  refine pure_atO (tbl := fkT F h) (dirty := fun _ => []) (n := (scanL (c.2.2.1 ++ b).data.toList).1.length + 1) (ov := fkO F h (scanL (c.2.2.1 ++ b).data.toList).1) xmixA (by kernel_rfl) (by kernel_rfl) (fk_ov F h _) ?_ w hw
  rw [fk_start]
  have hL : (scanL (c.2.2.1 ++ b).data.toList).1.length ≤ 5000 := Nat.le_trans (scan_len _) (by simpa [ByteArray.size_append] using hs)
  refine ⟨hs, rfl, rfl, fun sl hsl => ?_⟩
  have hp : ptrOk 5 sl = true := hsl.ptr (by decide)
  have key : ∀ c' : Cra, c' = begW c (c.2.2.1 ++ b).data.toList → fkX F h (scanL (c.2.2.1 ++ b).data.toList).1 ((scanL (c.2.2.1 ++ b).data.toList).1.length + 1) t (retQ Tryz.prog (fnOf Tryz.prog 18) (fun v _ => v = (two' cCra cHeD).enc (takeD F c t b))) sl c' := by
    intro c' hc
    refine ⟨rfl, by rw [hp]; rfl, fun d => ?_⟩
    refine fk_loop (fk_row F h _ t sl _) hL hsl _ _ [] rfl d (c', zeroHeD) (fun i d => ?_)
    refine Eq.mpr (fk_end F h _ t i _ sl d _ _ _ (fun v => v = (two' cCra cHeD).enc (takeD F c t b))) ?_
    rw [hc]
    rfl
  unfold begW at key
  by_cases ho : ((scanL (c.2.2.1 ++ b).data.toList).2.2 : Nat) > (0 : Int)
  · rw [decide_eq_true ho]
    exact key _ (if_pos ho).symm
  · rw [decide_eq_false ho]
    exact key _ (if_neg ho).symm
end
end Go.Proofs.YtoadcnhcfodkgaaGreatDoor
