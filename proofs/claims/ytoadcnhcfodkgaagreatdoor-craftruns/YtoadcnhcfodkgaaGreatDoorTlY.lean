/-
  Telem: the document's Read of what is told, by the symbolic run, for the seat YtoadcnhcfodkgaaGreatDoor.
-/
import Derived.Test.YtoadcnhcfodkgaaGreatDoorCwG
namespace Go.Proofs.YtoadcnhcfodkgaaGreatDoor
open Go.RowKit

theorem rtRight_fx : PureOk Tryz.prog 108 (lone' (cT 13)) (fun x => tlOk (tlOf x)) cB := rtRightO_fx
def yRgt : Ct Tryz.prog := pureCt Tryz.prog 108 (lone' (cT 13)) (fun x => tlOk (tlOf x)) cB (go_of Tryz.func108 (by kernel_rfl) (by kernel_rfl)) rtRight_fx
/-- Two bytes there. -/
def Two (s : ByteArray) (i : Int) : Prop := 0 ≤ i ∧ i < 100 ∧ i.toNat + 1 < s.size
theorem bt_bs {n : Nat} {f : Nat → UInt8} {i : Nat} (h : i < n) : bt (bsOf n f) i = (f i).toNat := by
  unfold bt bsOf
  simp [h]
/-- The tick of six bytes, as it is worked. -/
def tckE (f : Nat → UInt8) : Nat → Int
  | 0 => 0
  | k + 1 => IntKind.i64.wrap (IntKind.i64.wrap (tckE f k * 256) + bI (f k))
theorem tckE_is {n : Nat} {f : Nat → UInt8} (hn : 6 ≤ n) : ∀ k, k ≤ 6 → tckE f k = (tickK (bsOf n f) k : Nat)
  | 0, _ => rfl
  | k + 1, hk => by
    have ih := tckE_is (f := f) hn k (by omega)
    have hl := tickK_le (bsOf n f) (k := k) (by omega)
    have hb : bI (f k) = (bt (bsOf n f) k : Nat) := by rw [bI_is, bt_bs (by omega)]
    have hb2 := bt_lt (bsOf n f) k
    have e : tickK (bsOf n f) (k + 1) = tickK (bsOf n f) k * 256 + bt (bsOf n f) k := rfl
    show IntKind.i64.wrap (IntKind.i64.wrap (tckE f k * 256) + bI (f k)) = _
    rw [ih, hb, e, IntKind.wrap_i64, IntKind.wrap_i64]
    omega
def tlF (f : Nat → UInt8) : Tel := (tckE f 6, bI (f 6), bI (f 7), bI (f 8), bI (f 9), IntKind.i64.wrap (IntKind.i64.wrap (bI (f 10) * 256) + bI (f 11)), sg (cnt (bsOf 26 f) (12 : Int).toNat), sg (cnt (bsOf 26 f) (14 : Int).toNat), sg (cnt (bsOf 26 f) (16 : Int).toNat), sg (cnt (bsOf 26 f) (18 : Int).toNat), sg (cnt (bsOf 26 f) (20 : Int).toNat), sg (cnt (bsOf 26 f) (22 : Int).toNat), sg (cnt (bsOf 26 f) (24 : Int).toNat), ())
theorem tlF_is (f : Nat → UInt8) : tlOf (tlF f) = tlE (bsOf 26 f) := by
  have h : ∀ i, i < 26 → bI (f i) = (bt (bsOf 26 f) i : Nat) := fun i hi => by rw [bI_is, bt_bs hi]
  have hr : IntKind.i64.wrap (IntKind.i64.wrap (bI (f 10) * 256) + bI (f 11)) = (cnt (bsOf 26 f) 10 : Nat) := by
    have b0 := bt_lt (bsOf 26 f) 10
    have b1 := bt_lt (bsOf 26 f) 11
    have e : cnt (bsOf 26 f) 10 = bt (bsOf 26 f) 10 * 256 + bt (bsOf 26 f) 11 := rfl
    rw [h 10 (by decide), h 11 (by decide), e, IntKind.wrap_i64, IntKind.wrap_i64]
    omega
  unfold tlOf tlF tlE
  dsimp only
  rw [tckE_is (n := 26) (by decide) 6 (by decide), h 6 (by decide), h 7 (by decide), h 8 (by decide), h 9 (by decide), hr]
  rfl
abbrev kTel : Dc (Tel × Bool) := two' (cT 13) cB
def zeroT : Tel := (0, 0, 0, 0, 0, 0, 0, 0, 0, 0, 0, 0, 0, ())
end Go.Proofs.YtoadcnhcfodkgaaGreatDoor
