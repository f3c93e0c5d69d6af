/-
  Zero values, parts and builds of package filter's rows, for the seat YtoadcnhcfodkgaaGreatDoor.
-/
import Derived.Test.YtoadcnhcfodkgaaGreatDoorVLoop
import Derived.Test.YtoadcnhcfodkgaaGreatDoorFCBase
import Derived.Test.YtoadcnhcfodkgaaGreatDoorFRZero
namespace Go.Proofs.YtoadcnhcfodkgaaGreatDoor
open Go.RowKit

@[go_sem] theorem zero_frows (w : World) : Sem.run Tryz.prog (zeroValue 192) w = .ok (.agg (row 78 (fun _ => 0)).toArray) w := by kernel_rfl
@[go_sem] theorem zero_ints13 (w : World) : Sem.run Tryz.prog (zeroValue 272) w = .ok (.agg (row 13 (fun _ => 0)).toArray) w := by kernel_rfl
@[go_sem] theorem index_ints13 (g : Nat → Int) (k : Nat) (w : World) (h : (k : Int) < 13) : (Instr.index 272 (.agg (row 13 g).toArray) (.int .i64 (k : Int))).run Tryz.prog w = .ok (.int .i64 (g k)) w := by
  have hk : k = 0 ∨ k = 1 ∨ k = 2 ∨ k = 3 ∨ k = 4 ∨ k = 5 ∨ k = 6 ∨ k = 7 ∨ k = 8 ∨ k = 9 ∨ k = 10 ∨ k = 11 ∨ k = 12 := by omega
  rcases hk with rfl | rfl | rfl | rfl | rfl | rfl | rfl | rfl | rfl | rfl | rfl | rfl | rfl <;> (show _ = _; kernel_rfl)
@[go_sem] theorem index_frows (g : Nat → Int) (k : Nat) (w : World) (h : (k : Int) < 13) : (Instr.index 192 (.agg (row 78 g).toArray) (.int .i64 (k : Int))).run Tryz.prog w = .ok (.agg (row 6 fun x_ => g (k * 6 + x_)).toArray) w := by
  have hk : k = 0 ∨ k = 1 ∨ k = 2 ∨ k = 3 ∨ k = 4 ∨ k = 5 ∨ k = 6 ∨ k = 7 ∨ k = 8 ∨ k = 9 ∨ k = 10 ∨ k = 11 ∨ k = 12 := by omega
  rcases hk with rfl | rfl | rfl | rfl | rfl | rfl | rfl | rfl | rfl | rfl | rfl | rfl | rfl <;> (show _ = _; kernel_rfl)
@[go_sem] theorem index_quats13 (g : Nat → Int) (k : Nat) (w : World) (h : (k : Int) < 13) : (Instr.index 146 (.agg (row 52 g).toArray) (.int .i64 (k : Int))).run Tryz.prog w = .ok (.agg #[.int .i64 (g (k * 4)), .int .i64 (g (k * 4 + 1)), .int .i64 (g (k * 4 + 2)), .int .i64 (g (k * 4 + 3))]) w := by
  have hk : k = 0 ∨ k = 1 ∨ k = 2 ∨ k = 3 ∨ k = 4 ∨ k = 5 ∨ k = 6 ∨ k = 7 ∨ k = 8 ∨ k = 9 ∨ k = 10 ∨ k = 11 ∨ k = 12 := by omega
  rcases hk with rfl | rfl | rfl | rfl | rfl | rfl | rfl | rfl | rfl | rfl | rfl | rfl | rfl <;> (show _ = _; kernel_rfl)
@[go_sem] theorem index_row0 (g : Nat → Int) (w : World) : (Instr.index 36 (.agg (row 6 g).toArray) (.int .i64 0)).run Tryz.prog w = .ok (.int .i64 (g 0)) w := by kernel_rfl
theorem build_exec {ρ : Operand → Value} {o : Oper} {t : TypeId} {parts : Array (Nat × Operand)} {vs : Array (Nat × Value)} {v : Value} {w : World} (ho : o.op = .build t parts) (hv : (parts.map fun (i, x) => (i, ρ x)) = vs)
    (h : (Instr.build t vs).run Tryz.prog w = .ok v w) : (execOp ρ o).run Tryz.prog w = .ok (.value v) w := by
  subst hv
  cases o
  simp only at ho
  subst ho
  simp only [execOp, Sem.run_bind, h, Result.andThen_ok, Sem.run_pure]
def buildGD (a b c d x y z : Int) (p : Nat → Int) : Sem Value := Instr.build 40 #[(0, .agg #[.int .i64 a, .int .i64 b, .int .i64 c, .int .i64 d]), (1, .agg #[.int .i64 x, .int .i64 y, .int .i64 z]), (2, .agg (row 36 p).toArray)]
@[go_sem high] theorem buildG_is (a b c d x y z : Int) (p : Nat → Int) : Instr.build 40 #[(0, .agg #[.int .i64 a, .int .i64 b, .int .i64 c, .int .i64 d]), (1, .agg #[.int .i64 x, .int .i64 y, .int .i64 z]), (2, .agg (row 36 p).toArray)] = buildGD a b c d x y z p := rfl
@[go_sem] theorem buildG_run (a b c d x y z : Int) (p : Nat → Int) (w : World) : (buildGD a b c d x y z p).run Tryz.prog w = .ok (.agg (row 43 (guessF (a, b, c, d) (x, y, z) p)).toArray) w := by kernel_rfl
def buildQD (a b c d : Int) : Sem Value := Instr.build 40 #[(0, .agg #[.int .i64 a, .int .i64 b, .int .i64 c, .int .i64 d])]
@[go_sem high] theorem buildQ_is (a b c d : Int) : Instr.build 40 #[(0, .agg #[.int .i64 a, .int .i64 b, .int .i64 c, .int .i64 d])] = buildQD a b c d := rfl
@[go_sem] theorem buildQ_run (a b c d : Int) (w : World) : (buildQD a b c d).run Tryz.prog w = .ok (.agg (row 43 (guessF (a, b, c, d) (0, 0, 0) (fun _ => 0))).toArray) w := by kernel_rfl
def build0D : Sem Value := Instr.build 40 #[]
@[go_sem high] theorem build0_is : Instr.build 40 #[] = build0D := rfl
@[go_sem] theorem build0_run (w : World) : build0D.run Tryz.prog w = .ok (.agg (row 43 (fun _ => 0)).toArray) w := by kernel_rfl
def buildMD (y : Nat → Int) : Sem Value := Instr.build 38 #[(0, .agg (row 6 y).toArray)]
@[go_sem high] theorem buildM_is (y : Nat → Int) : Instr.build 38 #[(0, .agg (row 6 y).toArray)] = buildMD y := rfl
@[go_sem] theorem buildM_run (y : Nat → Int) (w : World) : (buildMD y).run Tryz.prog w = .ok (.agg (row 36 (matF y)).toArray) w := by kernel_rfl
end Go.Proofs.YtoadcnhcfodkgaaGreatDoor
