/-
  What the law QuatThere calls upon, for the seat Yteooceapkkdcpab. (Made by mklaw04.py.)
-/
import Derived.Test.YteooceapkkdcpabQAwake
import Derived.Test.YteooceapkkdcpabQEqv
import Derived.Test.YteooceapkkdcpabVEqv
import Derived.Test.YteooceapkkdcpabQHelp
import Derived.Test.YteooceapkkdcpabQMat
import Derived.Test.YteooceapkkdcpabQFrom
import Derived.Test.YteooceapkkdcpabXMul
import Derived.Test.YteooceapkkdcpabXBack
import Derived.Handy
import Derived.Deep.RegionHeld3
namespace Go.Proofs.Yteooceapkkdcpab
open Go.RowKit

theorem yMul_any (b : Nat) (bad : Bool) (p : V4) (q : V4) (w : World) (hw : Fl b bad w) :
    Calls Try.prog 12 #[.pointer (some ⟨b, 0, none⟩), .agg #[.int .i64 p.1, .int .i64 p.2.1, .int .i64 p.2.2.1, .int .i64 p.2.2.2], .agg #[.int .i64 q.1, .int .i64 q.2.1, .int .i64 q.2.2.1, .int .i64 q.2.2.2]] w fun e w' => e = .returned (.agg #[.int .i64 ((qMulS bad p q).1.1), .int .i64 ((qMulS bad p q).1.2.1), .int .i64 ((qMulS bad p q).1.2.2.1), .int .i64 ((qMulS bad p q).1.2.2.2)]) ∧ Fl b (qMulS bad p q).2 w' ∧ Kept b w w' := by
  have h := xMul_any b bad p q w hw
  rw [xMul_eq] at h
  exact h
theorem yBack_any (q : V4) (w : World) :
    Calls Try.prog 13 #[.agg #[.int .i64 q.1, .int .i64 q.2.1, .int .i64 q.2.2.1, .int .i64 q.2.2.2]] w fun e w' => e = .returned (.agg #[.int .i64 (qBackS q).1, .int .i64 (qBackS q).2.1, .int .i64 (qBackS q).2.2.1, .int .i64 (qBackS q).2.2.2]) ∧ Below w.heap.size w w' := by
  have h := xBack_any q w
  rw [xBack_eq] at h
  exact h
end Go.Proofs.Yteooceapkkdcpab
