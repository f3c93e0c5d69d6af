/-
  Maps keyed by two numbers, in memory: what a look-up answers, what a store leaves, for the seat Ytocnaflhedccpaa. No function's Go text in sight.
-/
import Derived.Test.YtocnaflhedccpaaVPart
import Derived.Maps.OwnOps
import Derived.Maps.Views
import Derived.WideKeyPair
namespace Go.Proofs.Ytocnaflhedccpaa
open Go.RowKit Go.Maps Go.WideMaps

theorem el_zero (w : World) : (zeroValue 2).run Try.prog w = .ok (.int .i64 0) w := by kernel_rfl
theorem types_some : ∃ m, Try.prog.types.size = m + 1 := ⟨Try.prog.types.size - 1, by have h : 0 < Try.prog.types.size := of_decide_eq_true (by kernel_rfl); omega⟩
/-- Numbers of 64 bits. -/
structure I64 (n : Int) : Prop where
  lo : -9223372036854775808 ≤ n
  hi : n ≤ 9223372036854775807
theorem I64.wf {n : Int} (h : I64 n) : (Lit.int .i64 n).wf = true := by
  have := h.lo; have := h.hi
  simp only [Lit.wf, IntKind.min, IntKind.max, IntKind.signed, IntKind.bits, Bool.and_eq_true, decide_eq_true_eq, if_true]
  omega
def kyl (n m : Int) : Lit := .string (keyBytes [.int .i64 n, .int .i64 m])
def putM (f : Int → Int → Int) (n m v : Int) : Int → Int → Int := fun a b => if a = n ∧ b = m then v else f a b
end Go.Proofs.Ytocnaflhedccpaa
