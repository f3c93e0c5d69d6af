/-
  A matrix is equal to itself, and so is a row, for the seat Ytcnbcdnjogopdaa.
-/
import Derived.Test.YtcnbcdnjogopdaaVLoop
import Derived.Laws.StructEq
import Derived.Handy
namespace Go.Proofs.Ytcnbcdnjogopdaa
open Go.RowKit

theorem eqRow_d (d : Nat) (a b c e f g : Int) (w : World) : (Op.equalIn (d + 2) 23 (.agg #[.int .i64 a, .int .i64 b, .int .i64 c, .int .i64 e, .int .i64 f, .int .i64 g]) (.agg #[.int .i64 a, .int .i64 b, .int .i64 c, .int .i64 e, .int .i64 f, .int .i64 g])).run Try.prog w = .ok true w := by
  have u := Try.underlying2
  have ia := Try.isAgg2
  have zs := Try.sizeOf2
  rw [Op.equalIn]
  simp only [Sem.run_bind, run_underlying Try.underlying23, Result.andThen_ok]
  simp only [Std.Legacy.Range.forIn_eq_forIn_range', Std.Legacy.Range.size, Nat.sub_zero, Nat.add_sub_cancel, Nat.div_one, List.range'_succ, List.range'_zero, List.forIn_cons, List.forIn_nil]
  go_simp
@[go_sem] theorem eqRow_same (f : Nat → Int) (w : World) : (Op.equalIn 10000 23 (.agg (row 6 f).toArray) (.agg (row 6 f).toArray)).run Try.prog w = .ok true w := eqRow_d 9998 (f 0) (f 1) (f 2) (f 3) (f 4) (f 5) w
set_option maxRecDepth 100000 in
theorem eqMat_d (d : Nat) (f : Nat → Int) (w : World) : (Op.equalIn (d + 3) 25 (.agg #[.int .i64 (f 0), .int .i64 (f 1), .int .i64 (f 2), .int .i64 (f 3), .int .i64 (f 4), .int .i64 (f 5), .int .i64 (f 6), .int .i64 (f 7), .int .i64 (f 8), .int .i64 (f 9), .int .i64 (f 10), .int .i64 (f 11), .int .i64 (f 12), .int .i64 (f 13), .int .i64 (f 14), .int .i64 (f 15), .int .i64 (f 16), .int .i64 (f 17), .int .i64 (f 18), .int .i64 (f 19), .int .i64 (f 20), .int .i64 (f 21), .int .i64 (f 22), .int .i64 (f 23), .int .i64 (f 24), .int .i64 (f 25), .int .i64 (f 26), .int .i64 (f 27), .int .i64 (f 28), .int .i64 (f 29), .int .i64 (f 30), .int .i64 (f 31), .int .i64 (f 32), .int .i64 (f 33), .int .i64 (f 34), .int .i64 (f 35)]) (.agg #[.int .i64 (f 0), .int .i64 (f 1), .int .i64 (f 2), .int .i64 (f 3), .int .i64 (f 4), .int .i64 (f 5), .int .i64 (f 6), .int .i64 (f 7), .int .i64 (f 8), .int .i64 (f 9), .int .i64 (f 10), .int .i64 (f 11), .int .i64 (f 12), .int .i64 (f 13), .int .i64 (f 14), .int .i64 (f 15), .int .i64 (f 16), .int .i64 (f 17), .int .i64 (f 18), .int .i64 (f 19), .int .i64 (f 20), .int .i64 (f 21), .int .i64 (f 22), .int .i64 (f 23), .int .i64 (f 24), .int .i64 (f 25), .int .i64 (f 26), .int .i64 (f 27), .int .i64 (f 28), .int .i64 (f 29), .int .i64 (f 30), .int .i64 (f 31), .int .i64 (f 32), .int .i64 (f 33), .int .i64 (f 34), .int .i64 (f 35)])).run Try.prog w = .ok true w := by
  have u := Try.underlying23
  have ia := Try.isAgg23
  have zs := Try.sizeOf23
  have er := eqRow_d d
  rw [Op.equalIn]
  simp only [Sem.run_bind, run_underlying Try.underlying25, Result.andThen_ok]
  simp only [Std.Legacy.Range.forIn_eq_forIn_range', Std.Legacy.Range.size, Nat.sub_zero, Nat.add_sub_cancel, Nat.div_one, List.range'_succ, List.range'_zero, List.forIn_cons, List.forIn_nil]
  go_simp
@[go_sem] theorem eqMat_same (f : Nat → Int) (w : World) : (Op.equalIn 10000 25 (.agg (row 36 f).toArray) (.agg (row 36 f).toArray)).run Try.prog w = .ok true w := eqMat_d 9997 f w
end Go.Proofs.Ytcnbcdnjogopdaa
