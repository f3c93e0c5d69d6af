/- A part. -/
import Derived.Test.YtooehgijllihdaaJC
import Derived.Laws.StructEq
import Derived.Handy
namespace Go.Proofs.Ytooehgijllihdaa
open Go.RowKit
theorem eqRow_d (d : Nat) (a b c e f g : Int) (w : World) : (Op.equalIn (d + 2) 34 (.agg #[.int .i64 a, .int .i64 b, .int .i64 c, .int .i64 e, .int .i64 f, .int .i64 g]) (.agg #[.int .i64 a, .int .i64 b, .int .i64 c, .int .i64 e, .int .i64 f, .int .i64 g])).run Try.prog w = .ok true w := by
 have u := Try.underlying2
 have ia := Try.isAgg2
 have zs := Try.sizeOf2
 rw [Op.equalIn]
 simp only [Sem.run_bind, run_underlying Try.underlying34, Result.andThen_ok]
 simp only [Std.Legacy.Range.forIn_eq_forIn_range', Std.Legacy.Range.size, Nat.sub_zero, Nat.add_sub_cancel, Nat.div_one, List.range'_succ, List.range'_zero, List.forIn_cons, List.forIn_nil]
 go_simp
@[go_sem] theorem eqRow_same (f : Nat → Int) (w : World) : (Op.equalIn 10000 34 (.agg (row 6 f).toArray) (.agg (row 6 f).toArray)).run Try.prog w = .ok true w := eqRow_d 9998 (f 0) (f 1) (f 2) (f 3) (f 4) (f 5) w
set_option maxRecDepth 100000 in
theorem eqMat_d (d : Nat) (f : Nat → Int) (w : World) : (Op.equalIn (d + 3) 36 (.agg #[.int .i64 (f 0), .int .i64 (f 1), .int .i64 (f 2), .int .i64 (f 3), .int .i64 (f 4), .int .i64 (f 5), .int .i64 (f 6), .int .i64 (f 7), .int .i64 (f 8), .int .i64 (f 9), .int .i64 (f 10), .int .i64 (f 11), .int .i64 (f 12), .int .i64 (f 13), .int .i64 (f 14), .int .i64 (f 15), .int .i64 (f 16), .int .i64 (f 17), .int .i64 (f 18), .int .i64 (f 19), .int .i64 (f 20), .int .i64 (f 21), .int .i64 (f 22), .int .i64 (f 23), .int .i64 (f 24), .int .i64 (f 25), .int .i64 (f 26), .int .i64 (f 27), .int .i64 (f 28), .int .i64 (f 29), .int .i64 (f 30), .int .i64 (f 31), .int .i64 (f 32), .int .i64 (f 33), .int .i64 (f 34), .int .i64 (f 35)]) (.agg #[.int .i64 (f 0), .int .i64 (f 1), .int .i64 (f 2), .int .i64 (f 3), .int .i64 (f 4), .int .i64 (f 5), .int .i64 (f 6), .int .i64 (f 7), .int .i64 (f 8), .int .i64 (f 9), .int .i64 (f 10), .int .i64 (f 11), .int .i64 (f 12), .int .i64 (f 13), .int .i64 (f 14), .int .i64 (f 15), .int .i64 (f 16), .int .i64 (f 17), .int .i64 (f 18), .int .i64 (f 19), .int .i64 (f 20), .int .i64 (f 21), .int .i64 (f 22), .int .i64 (f 23), .int .i64 (f 24), .int .i64 (f 25), .int .i64 (f 26), .int .i64 (f 27), .int .i64 (f 28), .int .i64 (f 29), .int .i64 (f 30), .int .i64 (f 31), .int .i64 (f 32), .int .i64 (f 33), .int .i64 (f 34), .int .i64 (f 35)])).run Try.prog w = .ok true w := by
 have u := Try.underlying34
 have ia := Try.isAgg34
 have zs := Try.sizeOf34
 have er := eqRow_d d
 rw [Op.equalIn]
 simp only [Sem.run_bind, run_underlying Try.underlying36, Result.andThen_ok]
 simp only [Std.Legacy.Range.forIn_eq_forIn_range', Std.Legacy.Range.size, Nat.sub_zero, Nat.add_sub_cancel, Nat.div_one, List.range'_succ, List.range'_zero, List.forIn_cons, List.forIn_nil]
 go_simp
@[go_sem] theorem eqMat_same (f : Nat → Int) (w : World) : (Op.equalIn 10000 36 (.agg (row 36 f).toArray) (.agg (row 36 f).toArray)).run Try.prog w = .ok true w := eqMat_d 9997 f w
end Go.Proofs.Ytooehgijllihdaa
namespace Go.Proofs.Ytooehgijllihdaa
open Go.RowKit
theorem eqQuat_d (d : Nat) (a b c e : Int) (w : World) : (Op.equalIn (d + 2) 23 (.agg #[.int .i64 a, .int .i64 b, .int .i64 c, .int .i64 e]) (.agg #[.int .i64 a, .int .i64 b, .int .i64 c, .int .i64 e])).run Try.prog w = .ok true w := by
 have u := Try.underlying2
 have ia := Try.isAgg2
 have zs := Try.sizeOf2
 rw [Op.equalIn]
 simp only [Sem.run_bind, run_underlying Try.underlying23, Result.andThen_ok]
 simp only [Std.Legacy.Range.forIn_eq_forIn_range', Std.Legacy.Range.size, Nat.sub_zero, Nat.add_sub_cancel, Nat.div_one, List.range'_succ, List.range'_zero, List.forIn_cons, List.forIn_nil]
 go_simp
@[go_sem] theorem eqQuat_same (a b c e : Int) (w : World) : (Op.equalIn 10000 23 (.agg #[.int .i64 a, .int .i64 b, .int .i64 c, .int .i64 e]) (.agg #[.int .i64 a, .int .i64 b, .int .i64 c, .int .i64 e])).run Try.prog w = .ok true w := eqQuat_d 9998 a b c e w
theorem eqVec_d (d : Nat) (a b c : Int) (w : World) : (Op.equalIn (d + 2) 25 (.agg #[.int .i64 a, .int .i64 b, .int .i64 c]) (.agg #[.int .i64 a, .int .i64 b, .int .i64 c])).run Try.prog w = .ok true w := by
 have u := Try.underlying2
 have ia := Try.isAgg2
 have zs := Try.sizeOf2
 rw [Op.equalIn]
 simp only [Sem.run_bind, run_underlying Try.underlying25, Result.andThen_ok]
 simp only [Std.Legacy.Range.forIn_eq_forIn_range', Std.Legacy.Range.size, Nat.sub_zero, Nat.add_sub_cancel, Nat.div_one, List.range'_succ, List.range'_zero, List.forIn_cons, List.forIn_nil]
 go_simp
set_option maxRecDepth 100000 in
set_option maxHeartbeats 4000000 in
theorem eqGuess_d (d : Nat) (f : Nat → Int) (w : World) : (Op.equalIn (d + 4) 38 (.agg #[.int .i64 (f 0), .int .i64 (f 1), .int .i64 (f 2), .int .i64 (f 3), .int .i64 (f 4), .int .i64 (f 5), .int .i64 (f 6), .int .i64 (f 7), .int .i64 (f 8), .int .i64 (f 9), .int .i64 (f 10), .int .i64 (f 11), .int .i64 (f 12), .int .i64 (f 13), .int .i64 (f 14), .int .i64 (f 15), .int .i64 (f 16), .int .i64 (f 17), .int .i64 (f 18), .int .i64 (f 19), .int .i64 (f 20), .int .i64 (f 21), .int .i64 (f 22), .int .i64 (f 23), .int .i64 (f 24), .int .i64 (f 25), .int .i64 (f 26), .int .i64 (f 27), .int .i64 (f 28), .int .i64 (f 29), .int .i64 (f 30), .int .i64 (f 31), .int .i64 (f 32), .int .i64 (f 33), .int .i64 (f 34), .int .i64 (f 35), .int .i64 (f 36), .int .i64 (f 37), .int .i64 (f 38), .int .i64 (f 39), .int .i64 (f 40), .int .i64 (f 41), .int .i64 (f 42)]) (.agg #[.int .i64 (f 0), .int .i64 (f 1), .int .i64 (f 2), .int .i64 (f 3), .int .i64 (f 4), .int .i64 (f 5), .int .i64 (f 6), .int .i64 (f 7), .int .i64 (f 8), .int .i64 (f 9), .int .i64 (f 10), .int .i64 (f 11), .int .i64 (f 12), .int .i64 (f 13), .int .i64 (f 14), .int .i64 (f 15), .int .i64 (f 16), .int .i64 (f 17), .int .i64 (f 18), .int .i64 (f 19), .int .i64 (f 20), .int .i64 (f 21), .int .i64 (f 22), .int .i64 (f 23), .int .i64 (f 24), .int .i64 (f 25), .int .i64 (f 26), .int .i64 (f 27), .int .i64 (f 28), .int .i64 (f 29), .int .i64 (f 30), .int .i64 (f 31), .int .i64 (f 32), .int .i64 (f 33), .int .i64 (f 34), .int .i64 (f 35), .int .i64 (f 36), .int .i64 (f 37), .int .i64 (f 38), .int .i64 (f 39), .int .i64 (f 40), .int .i64 (f 41), .int .i64 (f 42)])).run Try.prog w = .ok true w := by
 have eq := eqQuat_d (d + 1)
 have ev := eqVec_d (d + 1)
 have em := eqMat_d d (fun i => f (7 + i))
 have za := Try.sizeOf23
 have zb := Try.sizeOf25
 have zc := Try.sizeOf36
 have ia := Try.isAgg23
 have ib := Try.isAgg25
 have ic := Try.isAgg36
 rw [Op.equalIn]
 simp only [Sem.run_bind, run_underlying Try.underlying38, Result.andThen_ok]
 go_simp
@[go_sem high] theorem eqGuess_same (f : Nat → Int) (w : World) : (Op.equalIn 10000 38 (.agg (row 43 f).toArray) (.agg (row 43 f).toArray)).run Try.prog w = .ok true w := eqGuess_d 9996 f w
@[go_sem high] theorem eqGuess_zero (w : World) : (Op.equalIn 10000 38 (.agg (row 43 (fun _ => 0)).toArray) (.agg #[.int .i64 0, .int .i64 0, .int .i64 0, .int .i64 0, .int .i64 0, .int .i64 0, .int .i64 0, .int .i64 0, .int .i64 0, .int .i64 0, .int .i64 0, .int .i64 0, .int .i64 0, .int .i64 0, .int .i64 0, .int .i64 0, .int .i64 0, .int .i64 0, .int .i64 0, .int .i64 0, .int .i64 0, .int .i64 0, .int .i64 0, .int .i64 0, .int .i64 0, .int .i64 0, .int .i64 0, .int .i64 0, .int .i64 0, .int .i64 0, .int .i64 0, .int .i64 0, .int .i64 0, .int .i64 0, .int .i64 0, .int .i64 0, .int .i64 0, .int .i64 0, .int .i64 0, .int .i64 0, .int .i64 0, .int .i64 0, .int .i64 0])).run Try.prog w = .ok true w := eqGuess_same (fun _ => 0) w
end Go.Proofs.Ytooehgijllihdaa
