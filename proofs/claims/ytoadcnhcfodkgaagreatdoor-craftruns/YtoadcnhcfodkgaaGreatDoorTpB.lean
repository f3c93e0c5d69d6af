/-
  What the laws' told answers to what a craft tells, and contracts with a premise, for the seat YtoadcnhcfodkgaaGreatDoor.
-/
import Derived.Test.YtoadcnhcfodkgaaGreatDoorTpA
import Derived.Test.YtoadcnhcfodkgaaGreatDoorNROpen
import Derived.Test.YtoadcnhcfodkgaaGreatDoorTlY
namespace Go.Proofs.YtoadcnhcfodkgaaGreatDoor
open Go.RowKit

/-! ### What is told is read again -/
def tlT (T : Tl) : Tel := (T.t, T.m, T.fa, T.ak, T.er, T.rj, T.q0, T.q1, T.q2, T.q3, T.d0, T.d1, T.d2, ())
theorem tlT_of (x : Tel) : tlT (tlOf x) = x := rfl
theorem opens_told (T : Tl) : ropenS (bytesOf T) = (32, strOf (tlL T), true) := by
  have hn : (strOf (tlL T)).data.toList.length = 26 := tlStr_size T
  have hl := look_wrap 32 (strOf (tlL T)).data.toList [] (by omega)
  rw [List.append_nil, hn] at hl
  have hw := wrapL_length 32 (strOf (tlL T)).data.toList
  have hb : (bytesOf T).data.toList = wrapL 32 (strOf (tlL T)).data.toList := rfl
  refine ropenS_yes (k := 32) hl ?_ ?_ rfl
  · rw [hb, List.take_of_length_le (by omega)]
  · rw [wrapL_parts]
    show (strOf (tlL T)).data.toList = List.take 26 ((strOf (tlL T)).data.toList ++ _)
    rw [List.take_append_of_le_length (by omega), List.take_of_length_le (by omega)]
/-- What bytes tell. -/
def readS (s : ByteArray) : Tl := tlE (ropenS s).2.1
theorem readS_of {T : Tl} (h : tlOk T = true) : readS (bytesOf T) = T := by
  unfold readS
  rw [opens_told]
  exact tl_back h
def ToldOk (s : ByteArray) : Prop := ∃ T, tlOk T = true ∧ s = bytesOf T
/-! ### The two of them, with their premises -/
/-- What is asked of a craft ahead of a step. -/
def StepOk (x : Cra × Int × ByteArray) : Prop := CInv x.1 ∧ x.1.2.2.1.size + x.2.2.size ≤ 5000
def stepQ (F : Fs) (x : Cra × Int × ByteArray) (K : Value → Prop) : Prop :=
  StepOk x ∧ vif (stays x.1 x.2.1) (K ((two' cCra cS).enc (x.1, noBytes))) (K ((two' cCra cS).enc ((stepF F x.1 x.2.1 x.2.2).1, bytesOf (tlOf (telF F (stepF F x.1 x.2.1 x.2.2).1)))))
theorem stepQ_mono (F : Fs) (x : Cra × Int × ByteArray) (K K' : Value → Prop) (hK : ∀ v, K v → K' v) (h : stepQ F x K) : stepQ F x K' := by
  refine ⟨h.1, ?_⟩
  have h2 := h.2
  cases hs : stays x.1 x.2.1
  · rw [hs] at h2
    exact hK _ h2
  · rw [hs] at h2
    exact hK _ h2
theorem stepQ_at {F : Fs} (hF : FsIs F) (x : Cra × Int × ByteArray) (w : World) (hw : GW w) (K : Value → Prop) (h : stepQ F x K) :
    Calls Tryz.prog 7 ((then' cCra (then' cI (lone' cS))).enc x).toArray w fun e w' => ∃ v, e = .returned v ∧ isP v = false ∧ K v ∧ Below w.heap.size w w' := by
  obtain ⟨c, t, b⟩ := x
  obtain ⟨⟨hi, hz⟩, h2⟩ := h
  dsimp only at hi hz h2
  refine Calls.mono (stepF_at hF.ok c t b hz w hw) ?_
  rintro e w' ⟨rfl, hb⟩
  refine ⟨_, rfl, rfl, ?_, hb⟩
  cases hs : stays c t
  · rw [hs] at h2
    have h2 : K ((two' cCra cS).enc ((stepF F c t b).1, bytesOf (tlOf (telF F (stepF F c t b).1)))) := h2
    rw [← (took hF hi b hs).2] at h2
    exact h2
  · rw [hs] at h2
    rw [stays_yes hF hs b]
    exact h2
def stepCt (F : Fs) (hF : FsIs F) : Ct Tryz.prog := predCt Tryz.prog 7 (then' cCra (then' cI (lone' cS))) (stepQ F) (stepQ_mono F) (go_of Tryz.func7 (by kernel_rfl) (by kernel_rfl)) (stepQ_at hF)
end Go.Proofs.YtoadcnhcfodkgaaGreatDoor
