/-
  What both crafts call, joined, with what is known of it, for the seat YtoadcnhcfodkgaaGreatDoor.
-/
import Derived.Test.YtoadcnhcfodkgaaGreatDoorJnA
import Derived.Test.YtoadcnhcfodkgaaGreatDoorSkA
import Derived.Test.YtoadcnhcfodkgaaGreatDoorCwG
import Derived.Test.YtoadcnhcfodkgaaGreatDoorNeA
import Derived.Test.YtoadcnhcfodkgaaGreatDoorWrA
import Derived.Test.YtoadcnhcfodkgaaGreatDoorEnR
import Derived.Test.YtoadcnhcfodkgaaGreatDoorOwR
import Derived.Test.YtoadcnhcfodkgaaGreatDoorTlRX
import Derived.Test.YtoadcnhcfodkgaaGreatDoorCDDays
namespace Go.Proofs.YtoadcnhcfodkgaaGreatDoor
open Go.RowKit

theorem cf_counts : PureOk Tryz.prog 33 (then' (cT 4) (lone' (cT 3))) countsT (two' (cT 4) (cT 3)) := rcounts_fx
theorem cf_write : PureOk Tryz.prog 34 (lone' (cT 13)) writeT (two' cFra cB) := fun x w hw => rtwriteG (tlOf x) w hw
theorem cf_wrap : PureOk Tryz.prog 35 (lone' cFra) wrapT (two' cS cB) := wrap_both.2
theorem cf_fresh : PureOk Tryz.prog 62 (then' (cT 5) (lone' cI)) freshT cB := by
  have e : freshT = fresA := fres_is
  rw [e]
  exact fresh_both.2
theorem cf_read : PureOk Tryz.prog 61 (lone' cFra) readT (two' (cT 5) cB) := fun x w hw => rsen_any x.1 x.2 w hw
def oreadD (x : Fra) : Tup 9 × Int := if x.1 = 16 then oreadT x else ozT 0 0 1
/-- It is read as no order. -/
def OdNo (k : Int) (s : ByteArray) : Prop := ∀ w, GW w → Calls Tryz.prog 63 ((lone' cFra).enc (k, s)).toArray w fun e w' => e = .returned (kOrd.enc (ozT 0 0 1)) ∧ Below w.heap.size w w'
set_option maxRecDepth 100000 in
theorem odNo_of {k : Int} {s : ByteArray} (h : ∀ Post : Value → Prop, swp Tryz.prog [rnumCt, rrightCt] (fun _ => []) 4 (bodyOf Tryz.prog 63) (retQ Tryz.prog (fnOf Tryz.prog 63) (fun v _ => Post v)) ((lone' cFra).enc (k, s) ++ List.replicate ((fnOf Tryz.prog 63).ntmps - 1) undef) [] = PJ kOrd Post (ozT 0 0 1)) : OdNo k s := fun w hw =>
  pure_at (d := lone' cFra) (k := kOrd) (x := (k, s)) (y := ozT 0 0 1) (tbl := [rnumCt, rrightCt]) (dirty := fun _ => []) (n := 4) xmixA (f := 63) (fn := fnOf Tryz.prog 63) (c := bodyOf Tryz.prog 63) (by kernel_rfl) (by kernel_rfl) (fun Post hP => Eq.mpr (h Post) hP) w hw
set_option maxRecDepth 100000 in
theorem cf_neg (n : Nat) (s : ByteArray) : OdNo (.negSucc n) s := odNo_of (fun Post => by kernel_rfl)
set_option maxRecDepth 100000 in
theorem cf_far (n : Nat) (s : ByteArray) : OdNo (.ofNat (n + 17)) s := odNo_of (fun Post => by kernel_rfl)
set_option maxRecDepth 100000 in
theorem cf_low {n : Nat} (hn : n < 16) (s : ByteArray) : OdNo (.ofNat n) s := by
  obtain rfl | rfl | rfl | rfl | rfl | rfl | rfl | rfl | rfl | rfl | rfl | rfl | rfl | rfl | rfl | rfl : n = 0 ∨ n = 1 ∨ n = 2 ∨ n = 3 ∨ n = 4 ∨ n = 5 ∨ n = 6 ∨ n = 7 ∨ n = 8 ∨ n = 9 ∨ n = 10 ∨ n = 11 ∨ n = 12 ∨ n = 13 ∨ n = 14 ∨ n = 15 := by omega
  all_goals exact odNo_of (fun Post => by kernel_rfl)
theorem cf_other (k : Int) (s : ByteArray) (hk : k ≠ 16) : OdNo k s := by
  cases k with
  | negSucc n => exact cf_neg n s
  | ofNat n =>
    have h : n ≠ 16 := fun e => hk (by rw [e]; rfl)
    by_cases h1 : n < 16
    · exact cf_low h1 s
    · obtain ⟨m, rfl⟩ : ∃ m, n = m + 17 := ⟨n - 17, by omega⟩
      exact cf_far m s
theorem cf_oread : PureOk Tryz.prog 63 (lone' cFra) oreadD (two' (cT 9) cI) := fun x w hw => by
  obtain ⟨k, s⟩ := x
  unfold oreadD
  by_cases h : k = 16
  · subst h
    rw [if_pos rfl]
    exact rread16 s w hw
  · rw [if_neg h]
    exact cf_other k s h w hw
/-- The lower functions of both crafts. -/
theorem both_ex : ∃ F D : Fs, FsIs F ∧ DsOk D ∧ Same F D ∧ NextOk F := by
  obtain ⟨F, D, h1, h2, h3, e1, e2, e3, e4, e5, e6, e7, e8, _⟩ := join (right := cRight) (next := nextT) (counts := countsT) (write := writeT) (wrap := wrapT) (read := readT) (fresh := freshT) (oread := oreadT) (oreadD := oreadD)
    ⟨⟨right_ok, fun x w _ => dRight_any x w⟩, next_both, ⟨counts_ok, cf_counts⟩, ⟨write_ok, cf_write⟩, ⟨wrap_ok, cf_wrap⟩, ⟨read_ok, cf_read⟩, ⟨fresh_ok, cf_fresh⟩, ⟨oread_ok, cf_oread, fun f h => if_pos h⟩, Nx.sky_ag⟩
  exact ⟨F, D, ⟨h1, e1, e2, e3, e4, e5, e6, e7, e8⟩, h2, h3, nextA_ok e2⟩
end Go.Proofs.YtoadcnhcfodkgaaGreatDoor
