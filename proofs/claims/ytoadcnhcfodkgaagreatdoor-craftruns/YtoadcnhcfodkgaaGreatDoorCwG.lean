/-
  What package craft calls, all of it, for the seat YtoadcnhcfodkgaaGreatDoor.
-/
import Derived.Test.YtoadcnhcfodkgaaGreatDoorCwD
import Derived.Test.YtoadcnhcfodkgaaGreatDoorCwB
import Derived.Test.YtoadcnhcfodkgaaGreatDoorCwV
import Derived.Test.YtoadcnhcfodkgaaGreatDoorYM
import Derived.Test.YtoadcnhcfodkgaaGreatDoorTlX
import Derived.Test.YtoadcnhcfodkgaaGreatDoorTlWX
import Derived.Test.YtoadcnhcfodkgaaGreatDoorNWrap
import Derived.Test.YtoadcnhcfodkgaaGreatDoorSnX
import Derived.Test.YtoadcnhcfodkgaaGreatDoorOdX
namespace Go.Proofs.YtoadcnhcfodkgaaGreatDoor
open Go.RowKit

def plOf (p : Tup 6) : Pl := ⟨p.1, p.2.1, p.2.2.1, p.2.2.2.1, p.2.2.2.2.1, p.2.2.2.2.2.1⟩
def plT (p : Pl) : Tup 6 := (p.mode, p.calm, p.good, p.miss, p.lost, p.faults, ())
def snOf (s : See) : Sn := ⟨s.1, s.2.1, s.2.2.1, s.2.2.2.1, s.2.2.2.2.1, s.2.2.2.2.2.1, s.2.2.2.2.2.2.1, s.2.2.2.2.2.2.2⟩
def nextT (x : Tup 6 × See) : Tup 6 := plT (nextW (plOf x.1) (snOf x.2))
theorem next_ok : PureOk Tryz.prog 53 (then' (cT 6) (lone' cSee)) nextT (cT 6) := fun x w hw => next_fx (plOf x.1, snOf x.2) w hw
theorem right_ok : PureOk Tryz.prog 9 (lone' cI) cRight cB := fun x w _ => cRight_any x w
def countsT (x : Tup 4 × Tup 3) : Tup 4 × Tup 3 := cntT (tlC (qT x.1) (mT x.2))
theorem counts_ok : PureOk Tryz.prog 55 (then' (cT 4) (lone' (cT 3))) countsT (two' (cT 4) (cT 3)) := tcounts_fx
def tlOf (x : Tel) : Tl := ⟨x.1, x.2.1, x.2.2.1, x.2.2.2.1, x.2.2.2.2.1, x.2.2.2.2.2.1, x.2.2.2.2.2.2.1, x.2.2.2.2.2.2.2.1, x.2.2.2.2.2.2.2.2.1, x.2.2.2.2.2.2.2.2.2.1, x.2.2.2.2.2.2.2.2.2.2.1, x.2.2.2.2.2.2.2.2.2.2.2.1, x.2.2.2.2.2.2.2.2.2.2.2.2.1⟩
def writeT (x : Tel) : Fra × Bool := (tlW (tlOf x), tlOk (tlOf x))
theorem write_ok : PureOk Tryz.prog 57 (lone' (cT 13)) writeT (two' cFra cB) := fun x w hw => twriteG (tlOf x) w hw
def wrapT (x : Fra) : ByteArray × Bool := if 0 ≤ x.1 ∧ x.1 ≤ 255 ∧ x.2.size ≤ 64 then (⟨(wrapL (UInt8.ofNat x.1.toNat) x.2.data.toList).toArray⟩, true) else (noBytes, false)
theorem wrap_ok : PureOk Tryz.prog 58 (lone' cFra) wrapT (two' cS cB) := fun x w _ => by
  by_cases h : 0 ≤ x.1 ∧ x.1 ≤ 255 ∧ x.2.size ≤ 64
  · have e : ((UInt8.ofNat x.1.toNat).toNat : Int) = x.1 := by
      rw [ofNat_toNat (by omega)]
      omega
    have h1 := wrap_yes (UInt8.ofNat x.1.toNat) x.2 w h.2.2
    rw [e] at h1
    refine Calls.mono h1 ?_
    rintro _ w' ⟨s, rfl, hs, hb⟩
    refine ⟨?_, hb⟩
    have hs : s = ⟨(wrapL (UInt8.ofNat x.1.toNat) x.2.data.toList).toArray⟩ := by
      rw [← hs]
    unfold wrapT
    rw [if_pos h, hs]
    rfl
  · refine Calls.mono (wrap_no x.1 x.2 w h) ?_
    rintro _ w' ⟨rfl, hb⟩
    refine ⟨?_, hb⟩
    unfold wrapT
    rw [if_neg h]
    rfl
def freshT (x : Tup 5 × Int) : Bool := if x.1.2.1 ≤ x.2 then decide (IntKind.u64.wrap (IntKind.u64.wrap x.2 - IntKind.u64.wrap x.1.2.1) ≤ 500) else false
theorem fresh_ok : PureOk Tryz.prog 115 (then' (cT 5) (lone' cI)) freshT cB := pure_sx (tbl := []) (dirty := fun _ => []) (n := 4) xmixA Tryz.func115 rfl (fun x Post => by
    refine Eq.trans (b := ?m) ?x (Eq.symm ?y)
    case y => unfold freshT; simp only [← vif_le (K := PJ cB Post)]; exact rfl
    case x => kernel_rfl)
def oreadT (x : Fra) : Tup 9 × Int := (((ordR x.1 x.2).1.1, (ordR x.1 x.2).1.2.1, (ordR x.1 x.2).1.2.2.1, (ordR x.1 x.2).1.2.2.2.1, (ordR x.1 x.2).1.2.2.2.2.1, (ordR x.1 x.2).1.2.2.2.2.2.1, (ordR x.1 x.2).1.2.2.2.2.2.2.1, (ordR x.1 x.2).1.2.2.2.2.2.2.2.1, (ordR x.1 x.2).1.2.2.2.2.2.2.2.2, ()), (ordR x.1 x.2).2)
theorem oread_ok : PureOk Tryz.prog 116 (lone' cFra) oreadT (two' (cT 9) cI) := fun x w hw => oread_any x.1 x.2 w hw
/-- What is known of these functions. -/
structure FsIs (F : Fs) : Prop where
  ok : FsOk F
  right : F.right = cRight
  next : F.next = nextT
  counts : F.counts = countsT
  write : F.write = writeT
  wrap : F.wrap = wrapT
  read : F.read = readT
  fresh : F.fresh = freshT
  oread : F.oread = oreadT
/-- A step, whole. -/
def stepF (F : Fs) (c : Cra) (t : Int) (b : ByteArray) : Cra × ByteArray := stepW F (fun _ => takeW F c t b) c t b
theorem stepF_at {F : Fs} (h : FsOk F) (c : Cra) (t : Int) (b : ByteArray) (hs : c.2.2.1.size + b.size ≤ 5000) (w : World) (hw : GW w) :
    Calls Tryz.prog 7 #[cCra.enc c, .int .i64 t, .string b] w fun e w' => e = .returned (.tuple #[cCra.enc (stepF F c t b).1, .string (stepF F c t b).2]) ∧ Below w.heap.size w w' :=
  step_at F h (c, t, b) (takeW F c t b) (fun w hw => takes_at F h (c, t, b) hs w hw) w hw
end Go.Proofs.YtoadcnhcfodkgaaGreatDoor
