/-
  Orders: the reference's Write, walked, for the seat Ytpceomcnknjiiaa. (Made by mkod.py.)
-/
import Derived.Test.YtpceomcnknjiiaaOdRB
import Derived.Test.YtpceomcnknjiiaaORRight
namespace Go.Proofs.Ytpceomcnknjiiaa
open Go.RowKit

theorem rorder_any (q c : Int) (o : V7) (w : World) :
    Calls Try.prog 7 #[.agg #[.int .i64 q, .int .i64 c, .int .i64 o.1, .int .i64 o.2.1, .int .i64 o.2.2.1, .int .i64 o.2.2.2.1, .int .i64 o.2.2.2.2.1, .int .i64 o.2.2.2.2.2.1, .int .i64 o.2.2.2.2.2.2]] w fun e w' => e = .returned (.tuple #[.agg #[.int .i64 (ordW q c o).1, .string (ordW q c o).2], .bool (ordOk q c o)]) ∧ Below w.heap.size w w' := by
  unfold ordW
  by_cases a : q < 0
  · have e : ordOk q c o = false := by unfold ordOk; simp; omega
    rw [e]
    exact rorder_lo q c o w a
  by_cases b : 255 < q
  · have e : ordOk q c o = false := by unfold ordOk; simp; omega
    rw [e]
    exact rorder_hi q c o w b
  by_cases d : c < 1 ∨ 4 < c
  · have e : ordOk q c o = false := by unfold ordOk; simp; omega
    rw [e]
    rcases d with d | d
    · exact rorder_cl q c o w (by omega) (by omega) d
    · exact rorder_ch q c o w (by omega) (by omega) (by omega) d
  by_cases t : c = 3
  · cases r : oRightC o
    · have e : ordOk q c o = false := by unfold ordOk; rw [r]; simp [t]
      rw [e]
      exact rorder_not q c o w (by omega) (by omega) t r
    · have e : ordOk q c o = true := by unfold ordOk; rw [r]; simp; omega
      rw [e]
      exact rorder_long q c o w (by omega) (by omega) t r
  · have e : ordOk q c o = true := by unfold ordOk; simp [t]; omega
    rw [e]
    exact rorder_short q c o w (by omega) (by omega) (by omega) (by omega) t
end Go.Proofs.Ytpceomcnknjiiaa
