/-
  Sensors: Read, by the symbolic run, for the seat YtoadcnhcfodkgaaGreatDoor.
-/
import Derived.Test.YtoadcnhcfodkgaaGreatDoorCwB
import Derived.Test.YtoadcnhcfodkgaaGreatDoorSxT
import Derived.Test.YtoadcnhcfodkgaaGreatDoorORx
namespace Go.Proofs.YtoadcnhcfodkgaaGreatDoor
open Go.RowKit

theorem saidR_ok {k : Int} {s : ByteArray} (h : saidOk k s 0 = true) : saidR k s = saidV k s 0 := by
  unfold saidOk at h
  unfold saidR saidV
  by_cases c1 : k = 1
  · rw [if_pos c1] at h ⊢
    rw [if_pos c1]
    unfold gyroS
    rw [if_pos h]
  rw [if_neg c1] at h ⊢
  rw [if_neg c1]
  by_cases c3 : k = 3
  · rw [if_pos c3, if_pos c3]
  rw [if_neg c3] at h ⊢
  rw [if_neg c3]
  unfold sunOk at h
  unfold sunR
  rw [if_pos (by simp at h; exact h.1)]
theorem saidV_tail (k : Int) (s : ByteArray) : saidV k (s.extract 6 s.size) 0 = saidV k s 6 := by
  unfold saidV
  simp only [cnt_tail]
theorem saidOk_tail (k : Int) (s : ByteArray) : saidOk k (s.extract 6 s.size) 0 = saidOk k s 6 := by
  unfold saidOk
  simp only [cnt_tail]
/-- So many bytes. -/
def bsOf (n : Nat) (f : Nat → UInt8) : ByteArray := ⟨⟨(List.range n).map f⟩⟩
theorem bsOf_is (s : ByteArray) : s = bsOf s.size (fun i => s.data.toList.getD i 0) := by
  obtain ⟨⟨l⟩⟩ := s
  unfold bsOf
  congr 2
  refine List.ext_getElem (by simp; rfl) (fun i h1 h2 => ?_)
  simp [h1]
theorem bs_size (n : Nat) (f : Nat → UInt8) : (bsOf n f).size = n := by
  show ((List.range n).map f).length = n
  simp
abbrev kRd : Dc (Tup 5 × Bool) := two' (cT 5) cB
def zero5 : Tup 5 × Bool := ((0, 0, 0, 0, 0, ()), false)
def readT (x : Fra) : Tup 5 × Bool := (((readR x.1 x.2).1, (readR x.1 x.2).2.1, (readR x.1 x.2).2.2.1, (readR x.1 x.2).2.2.2.1, (readR x.1 x.2).2.2.2.2, ()), readOk x.1 x.2)
theorem readT_if (k : Int) (s : ByteArray) : readT (k, s) = if readOk k s then ((k, tickS s, (saidV k s 6).1, (saidV k s 6).2.1, (saidV k s 6).2.2, ()), true) else zero5 := by
  unfold readT readR
  dsimp only
  cases readOk k s <;> rfl
theorem readOk_of {k : Int} {s : ByteArray} (hf : formOk k s = true) : readOk k s = (cRight (tickS s) && saidOk k s 6) := by
  unfold readOk
  rw [hf, Bool.true_and]
def snCnt : Ct Tryz.prog := pureCt Tryz.prog 198 (lone' cI) nCounts cI (go_of Tryz.func198 (by kernel_rfl) (by kernel_rfl)) (fun x w _ => Calls.mono (scounts_any x w) (by rintro e w' ⟨rfl, rfl⟩; exact ⟨rfl, Below.refl _ _⟩))
def snTik : Ct Tryz.prog := predCt Tryz.prog 199 (lone' cS) (fun s K => s.size = 6 ∧ K (.int .i64 (tickS s))) (fun _ _ _ hK hs => ⟨hs.1, hK _ hs.2⟩) (go_of Tryz.func199 (by kernel_rfl) (by kernel_rfl))
  (fun s w _ K hs => Calls.mono (sjoined_any s w hs.1) (by rintro e w' ⟨rfl, hb⟩; exact ⟨_, rfl, rfl, hs.2, hb⟩))
def SaiP (k : Int) (s : ByteArray) : Prop := 6 ≤ s.size ∧ (k ≠ 1 → k ≠ 3 → 12 ≤ s.size)
def snSai : Ct Tryz.prog := predCt Tryz.prog 200 (then' cI (lone' cS)) (fun x K => SaiP x.1 x.2 ∧ K (kSaid.enc (v3T (saidR x.1 x.2), saidOk x.1 x.2 0))) (fun _ _ _ hK hs => ⟨hs.1, hK _ hs.2⟩) (go_of Tryz.func200 (by kernel_rfl) (by kernel_rfl))
  (fun x w hw K hs => Calls.mono (ssaid_any x.1 x.2 w hw hs.1.1 hs.1.2) (by rintro e w' ⟨rfl, hb⟩; exact ⟨_, rfl, rfl, hs.2, hb⟩))
abbrev snT : List (Ct Tryz.prog) := [snCnt, snTik, snSai, oxRit]
def snO : Ov := fun id => match id with
  | 2 => some (sureBy Tryz.prog snT (fun _ => []) 2 21 true)
  | _ => none
set_option maxRecDepth 100000 in
theorem sn_ov (w : World) : OvOk Tryz.prog snO [] w [] [] (bodyOf Tryz.prog 114) := by
  refine ovOk_by (ns := [(2, opsOf Tryz.prog 114 2, false)]) (by kernel_rfl) ?_
  intro r hr
  rcases List.mem_cons.1 hr with rfl | hr
  · intro R hR K Q bl vt m a w h r hK
    cases hR
    exact sureBy_sound xmixA h r hK
  · cases hr
def snX (Post : Value → Prop) (b : Bool) : Prop := Value.bool b = .bool true ∧ PJ kRd Post zero5
set_option maxRecDepth 100000 in
theorem sread_none (k : Int) (s : ByteArray) (h : formOk k s = false) (w : World) (hw : GW w) : Calls Tryz.prog 114 ((lone' cFra).enc (k, s)).toArray w fun e w' => e = .returned (kRd.enc zero5) ∧ Below w.heap.size w w' := by
  refine pure_atO (d := lone' cFra) (k := kRd) (x := (k, s)) (y := zero5) (tbl := snT) (dirty := fun _ => []) (n := 4) (ov := snO) xmixA (by kernel_rfl) (by kernel_rfl) sn_ov ?_ w hw
  refine Eq.mpr (β := vif (decide (nCounts k = 0)) (snX (fun v => v = kRd.enc zero5) true) (snX (fun v => v = kRd.enc zero5) (!decide ((s.size : Int) = IntKind.i64.wrap (6 + IntKind.i64.wrap (nCounts k * 2)))))) (by kernel_rfl) ?_
  by_cases c0 : nCounts k = 0
  · rw [decide_eq_true c0]
    exact ⟨rfl, rfl⟩
  · rw [decide_eq_false c0]
    refine ⟨?_, rfl⟩
    have hn : (s.size : Int) ≠ IntKind.i64.wrap (6 + IntKind.i64.wrap (nCounts k * 2)) := by
      unfold formOk at h
      simp only [Bool.or_eq_false_iff, Bool.and_eq_false_iff, decide_eq_false_iff_not] at h
      unfold nCounts at c0 ⊢
      split
      · rw [IntKind.wrap_i64, IntKind.wrap_i64]
        omega
      · split
        · rw [IntKind.wrap_i64, IntKind.wrap_i64]
          omega
        · rename_i h1 h2
          rw [if_neg h1, if_neg h2] at c0
          exact absurd rfl c0
    rw [decide_eq_false hn]
    rfl
def snB (k : Int) (a b : ByteArray) (Post : Value → Prop) : Prop :=
  a.size = 6 ∧ SaiP k b ∧ vif (!saidOk k b 0) (PJ kRd Post zero5) (vif (!cRight (tickS a)) (PJ kRd Post zero5) (PJ kRd Post ((k, tickS a, v3T (saidR k b)), true)))
theorem snB_of {k : Int} {s : ByteArray} {Post : Value → Prop} (hf : formOk k s = true) (h6 : 12 ≤ s.size) (h12 : k ≠ 1 → k ≠ 3 → 18 ≤ s.size) (hP : PJ kRd Post (readT (k, s))) : snB k (s.extract 0 6) (s.extract 6 s.size) Post := by
  refine ⟨by rw [ByteArray.size_extract]; omega, ⟨by rw [ByteArray.size_extract]; omega, fun a b => by have := h12 a b; rw [ByteArray.size_extract]; omega⟩, ?_⟩
  rw [readT_if, readOk_of hf] at hP
  rw [saidOk_tail, tick_head]
  cases hs : saidOk k s 6
  · rw [hs, Bool.and_false] at hP
    exact hP
  · rw [hs, Bool.and_true] at hP
    have hv : saidR k (s.extract 6 s.size) = saidV k s 6 := by rw [saidR_ok (by rw [saidOk_tail]; exact hs), saidV_tail]
    rw [hv]
    cases hc : cRight (tickS s)
    · rw [hc] at hP; exact hP
    · rw [hc] at hP; exact hP
set_option maxRecDepth 100000 in
theorem sread_1 (f : Nat → UInt8) (w : World) (hw : GW w) : Calls Tryz.prog 114 ((lone' cFra).enc (1, bsOf 12 f)).toArray w fun e w' => e = .returned (kRd.enc (readT (1, bsOf 12 f))) ∧ Below w.heap.size w w' := by
  refine pure_at (d := lone' cFra) (k := kRd) (x := (1, bsOf 12 f)) (y := readT (1, bsOf 12 f)) (tbl := snT) (dirty := fun _ => []) (n := 4) xmixA Tryz.func114 rfl (fun Post hP => ?_) w hw
  exact Eq.mpr (β := snB 1 ((bsOf 12 f).extract 0 6) ((bsOf 12 f).extract 6 (bsOf 12 f).size) Post) (by kernel_rfl) (snB_of rfl (by rw [bs_size]; decide) (fun _ _ => by rw [bs_size]; first | decide | contradiction) hP)
set_option maxRecDepth 100000 in
theorem sread_3 (f : Nat → UInt8) (w : World) (hw : GW w) : Calls Tryz.prog 114 ((lone' cFra).enc (3, bsOf 12 f)).toArray w fun e w' => e = .returned (kRd.enc (readT (3, bsOf 12 f))) ∧ Below w.heap.size w w' := by
  refine pure_at (d := lone' cFra) (k := kRd) (x := (3, bsOf 12 f)) (y := readT (3, bsOf 12 f)) (tbl := snT) (dirty := fun _ => []) (n := 4) xmixA Tryz.func114 rfl (fun Post hP => ?_) w hw
  exact Eq.mpr (β := snB 3 ((bsOf 12 f).extract 0 6) ((bsOf 12 f).extract 6 (bsOf 12 f).size) Post) (by kernel_rfl) (snB_of rfl (by rw [bs_size]; decide) (fun _ _ => by rw [bs_size]; first | decide | contradiction) hP)
set_option maxRecDepth 100000 in
theorem sread_2 (f : Nat → UInt8) (w : World) (hw : GW w) : Calls Tryz.prog 114 ((lone' cFra).enc (2, bsOf 18 f)).toArray w fun e w' => e = .returned (kRd.enc (readT (2, bsOf 18 f))) ∧ Below w.heap.size w w' := by
  refine pure_at (d := lone' cFra) (k := kRd) (x := (2, bsOf 18 f)) (y := readT (2, bsOf 18 f)) (tbl := snT) (dirty := fun _ => []) (n := 4) xmixA Tryz.func114 rfl (fun Post hP => ?_) w hw
  exact Eq.mpr (β := snB 2 ((bsOf 18 f).extract 0 6) ((bsOf 18 f).extract 6 (bsOf 18 f).size) Post) (by kernel_rfl) (snB_of rfl (by rw [bs_size]; decide) (fun _ _ => by rw [bs_size]; first | decide | contradiction) hP)
theorem read_ok : PureOk Tryz.prog 114 (lone' cFra) readT (two' (cT 5) cB) := fun x w hw => by
  obtain ⟨k, s⟩ := x
  cases hf : formOk k s
  · have hr : readT (k, s) = zero5 := by
      have h0 : readOk k s = false := by unfold readOk; rw [hf]; rfl
      rw [readT_if, h0]
      rfl
    rw [hr]
    exact sread_none k s hf w hw
  · have hb := bsOf_is s
    unfold formOk at hf
    simp only [Bool.or_eq_true, Bool.and_eq_true, decide_eq_true_eq] at hf
    generalize (fun i => s.data.toList.getD i 0) = f at hb
    rcases hf with (⟨rfl, hs⟩ | ⟨rfl, hs⟩) | ⟨rfl, hs⟩
    · rw [hs] at hb; rw [hb]; exact sread_1 f w hw
    · rw [hs] at hb; rw [hb]; exact sread_3 f w hw
    · rw [hs] at hb; rw [hb]; exact sread_2 f w hw
end Go.Proofs.YtoadcnhcfodkgaaGreatDoor
