/-
  Telem: what is told is equal to itself, for the seat Ytchkedlfackfgaa. (Made by mktl.py.)
-/
import Derived.Test.YtchkedlfackfgaaTlM
import Derived.Test.YtchkedlfackfgaaProg
import Derived.WalkKit
import Derived.WalkLawsBesides
namespace Go.Proofs.Ytchkedlfackfgaa
open Go.RowKit

theorem eq4_d (d : Nat) (a b c e : Int) (w : World) : (Op.equalIn (d + 2) 22 (.agg #[.int .i64 a, .int .i64 b, .int .i64 c, .int .i64 e]) (.agg #[.int .i64 a, .int .i64 b, .int .i64 c, .int .i64 e])).run Try.prog w = .ok true w := by
  have u := Try.underlying3
  have ia := Try.isAgg3
  have zs := Try.sizeOf3
  rw [Op.equalIn]
  simp only [Sem.run_bind, run_underlying Try.underlying22, Result.andThen_ok]
  simp only [Std.Legacy.Range.forIn_eq_forIn_range', Std.Legacy.Range.size, Nat.sub_zero, Nat.add_sub_cancel, Nat.div_one, List.range'_succ, List.range'_zero, List.forIn_cons, List.forIn_nil]
  go_simp
@[go_sem high] theorem eq4_same (a b c e : Int) (w : World) : (Op.equalIn 10000 22 (.agg #[.int .i64 a, .int .i64 b, .int .i64 c, .int .i64 e]) (.agg #[.int .i64 a, .int .i64 b, .int .i64 c, .int .i64 e])).run Try.prog w = .ok true w := eq4_d 9998 a b c e w
theorem eq3_d (d : Nat) (a b c : Int) (w : World) : (Op.equalIn (d + 2) 23 (.agg #[.int .i64 a, .int .i64 b, .int .i64 c]) (.agg #[.int .i64 a, .int .i64 b, .int .i64 c])).run Try.prog w = .ok true w := by
  have u := Try.underlying3
  have ia := Try.isAgg3
  have zs := Try.sizeOf3
  rw [Op.equalIn]
  simp only [Sem.run_bind, run_underlying Try.underlying23, Result.andThen_ok]
  simp only [Std.Legacy.Range.forIn_eq_forIn_range', Std.Legacy.Range.size, Nat.sub_zero, Nat.add_sub_cancel, Nat.div_one, List.range'_succ, List.range'_zero, List.forIn_cons, List.forIn_nil]
  go_simp
@[go_sem high] theorem eq3_same (a b c : Int) (w : World) : (Op.equalIn 10000 23 (.agg #[.int .i64 a, .int .i64 b, .int .i64 c]) (.agg #[.int .i64 a, .int .i64 b, .int .i64 c])).run Try.prog w = .ok true w := eq3_d 9998 a b c w
set_option maxHeartbeats 2000000 in
set_option maxRecDepth 100000 in
theorem eqTell_d (d : Nat) (t m f a e r q0 q1 q2 q3 d0 d1 d2 : Int) (w : World) : (Op.equalIn (d + 3) 25 (.agg #[.int .i64 t, .int .i64 m, .int .i64 f, .int .i64 a, .int .i64 e, .int .i64 r, .int .i64 q0, .int .i64 q1, .int .i64 q2, .int .i64 q3, .int .i64 d0, .int .i64 d1, .int .i64 d2]) (.agg #[.int .i64 t, .int .i64 m, .int .i64 f, .int .i64 a, .int .i64 e, .int .i64 r, .int .i64 q0, .int .i64 q1, .int .i64 q2, .int .i64 q3, .int .i64 d0, .int .i64 d1, .int .i64 d2])).run Try.prog w = .ok true w := by
  have eq := eq4_d d
  have ed := eq3_d d
  have za := Try.sizeOf22
  have zb := Try.sizeOf23
  have ia := Try.isAgg22
  have ib := Try.isAgg23
  rw [Op.equalIn]
  simp only [Sem.run_bind, run_underlying Try.underlying25, Result.andThen_ok]
  go_simp
@[go_sem high] theorem eqTell_same (t m f a e r q0 q1 q2 q3 d0 d1 d2 : Int) (w : World) : (Op.equalIn 10000 25 (.agg #[.int .i64 t, .int .i64 m, .int .i64 f, .int .i64 a, .int .i64 e, .int .i64 r, .int .i64 q0, .int .i64 q1, .int .i64 q2, .int .i64 q3, .int .i64 d0, .int .i64 d1, .int .i64 d2]) (.agg #[.int .i64 t, .int .i64 m, .int .i64 f, .int .i64 a, .int .i64 e, .int .i64 r, .int .i64 q0, .int .i64 q1, .int .i64 q2, .int .i64 q3, .int .i64 d0, .int .i64 d1, .int .i64 d2])).run Try.prog w = .ok true w := eqTell_d 9997 t m f a e r q0 q1 q2 q3 d0 d1 d2 w
end Go.Proofs.Ytchkedlfackfgaa
