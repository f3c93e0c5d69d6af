/-
  Counts and ticks out of bytes: pair, signed, plain, joined, countsOf, bounds, Fresh; the reference's count, signed, Fresh, walked, for the seat Ytchkedlfackfgaa.
-/
import Derived.Test.YtchkedlfackfgaaProg
import Derived.Test.YtchkedlfackfgaaSenM
import Derived.Test.YtchkedlfackfgaaVMem
import Derived.WalkKit
import Derived.WalkLawsBesides
import Derived.WalkSpells
import Derived.RegionTactic
import Derived.BigRegion
namespace Go.Proofs.Ytchkedlfackfgaa
open Go.RowKit

theorem idx_run {s : ByteArray} {i : Int} {n : Nat} (h : n < s.size) (hi : i = n) (W : World) : (Instr.index 9 (.string s) (.int .i64 i)).run Try.prog W = .ok (.int .u8 (bt s n : Nat)) W := by
  rw [run_index_string W 9 s .i64 i Try.underlying9, dif_pos (by omega)]
  have : i.toNat = n := by omega
  simp only [this, bt_of h]
theorem bel_drew {n : Nat} {x w : World} (h : Below n x w) : Below n x w.drew := ⟨h.os, h.tape, h.output, h.size, h.block⟩
def nCounts (k : Int) : Int := if k = 1 ∨ k = 3 then 3 else if k = 2 then 6 else 0
def nBounds (k : Int) : Int × Int := if k = 2 then (0, 65535) else (-32768, 32767)
/-- Young enough. -/
def freshS (t n : Int) : Bool := decide (t ≤ n) && decide (n - t ≤ 500)
end Go.Proofs.Ytchkedlfackfgaa
