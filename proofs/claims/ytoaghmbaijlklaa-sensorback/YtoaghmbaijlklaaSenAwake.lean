/-
  That the laws of stage 12 are awake, walked; when two readings are equal, for the seat Ytoaghmbaijlklaa.
-/
import Derived.Test.YtoaghmbaijlklaaSenRNot
import Derived.Test.YtoaghmbaijlklaaSenWrite
import Derived.Test.YtoaghmbaijlklaaVEqv
namespace Go.Proofs.Ytoaghmbaijlklaa
open Go.RowKit

@[go_sem] theorem eqVec9 (a b c x y z : Int) (w : World) : (Op.equalIn 9999 26 (.agg #[.int .i64 a, .int .i64 b, .int .i64 c]) (.agg #[.int .i64 x, .int .i64 y, .int .i64 z])).run Try.prog w = .ok (a == x && (b == y && c == z)) w := by
  have u := Try.underlying2
  have ia := Try.isAgg2
  have zs := Try.sizeOf2
  rw [show (9999 : Nat) = 9998 + 1 from rfl, Op.equalIn]
  simp only [Sem.run_bind, run_underlying Try.underlying26, Result.andThen_ok]
  simp only [Std.Legacy.Range.forIn_eq_forIn_range', Std.Legacy.Range.size, Nat.sub_zero, Nat.add_sub_cancel, Nat.div_one, List.range'_succ, List.range'_zero, List.forIn_cons, List.forIn_nil]
  go_simp
  by_cases h1 : a = x <;> by_cases h2 : b = y <;> by_cases h3 : c = z <;> simp [h1, h2, h3]
@[go_sem] theorem idx_vec0 (a b c : Int) (w : World) : (Instr.index 26 (.agg #[.int .i64 a, .int .i64 b, .int .i64 c]) (.int .i64 0)).run Try.prog w = .ok (.int .i64 a) w := by kernel_rfl
@[go_sem] theorem idx_vec1 (a b c : Int) (w : World) : (Instr.index 26 (.agg #[.int .i64 a, .int .i64 b, .int .i64 c]) (.int .i64 1)).run Try.prog w = .ok (.int .i64 b) w := by kernel_rfl
@[go_sem] theorem idx_vec2 (a b c : Int) (w : World) : (Instr.index 26 (.agg #[.int .i64 a, .int .i64 b, .int .i64 c]) (.int .i64 2)).run Try.prog w = .ok (.int .i64 c) w := by kernel_rfl
def awF : Nat → Int := fun i => [32, 0, -32, 0, 0, 0].getD i 0
def awS : ByteArray := ⟨#[0, 0, 0, 0, 0, 7, 0, 32, 0, 0, 255, 224]⟩
theorem aw_ok : writeOk 1 7 awF = true := by decide +kernel
theorem aw_str : strOf (writeL 1 7 awF) = awS := by
  have e : writeL 1 7 awF = [0, 0, 0, 0, 0, 7, 0, 32, 0, 0, 255, 224] := by decide +kernel
  rw [e]
  rfl
theorem aw_write : writeS 1 7 awF = (1, awS) := by
  unfold writeS
  rw [aw_ok, if_pos rfl, aw_str]
theorem aw_rok : readOk 1 awS = true := by decide +kernel
theorem aw_read : readR 1 awS = (1, 7, 1073741824, 0, -1073741824) := by decide +kernel
set_option maxHeartbeats 2000000 in
set_option maxRecDepth 100000 in
theorem awake_any (w : World) : Calls Try.prog 8 #[] w fun e w' => e = .returned (.bool true) ∧ Below w.heap.size w w' := by
  have hw := swrite_any 1 7 awF
  rw [aw_write, aw_ok, show (row 6 awF).toArray = #[.int .i64 32, .int .i64 0, .int .i64 (-32), .int .i64 0, .int .i64 0, .int .i64 0] from rfl] at hw
  have hr := fun W => sread_any 1 awS W (by decide)
  rw [aw_read, aw_rok] at hr
  unfold rdV at hr
  have h7 := fun W => sfresh_any 1 7 1073741824 0 (-1073741824) 507 W (by omega) (by omega)
  have h8 := fun W => sfresh_any 1 7 1073741824 0 (-1073741824) 508 W (by omega) (by omega)
  rw [show freshS 7 507 = true from rfl] at h7
  rw [show freshS 7 508 = false from rfl] at h8
  generalize awS = s at *
  go_enter Try.func8, Try.ntmps8
  go_wp2_with fail
  refine (hw _).mono ?_
  rintro e w1 ⟨rfl, b1⟩
  go_wp2_with fail
  refine (hr _).mono ?_
  rintro e w2 ⟨rfl, b2⟩
  have b12 := bel_then (bel_al b1 _) b2
  have z2 := b12.size
  go_wp2_with fail
  refine (h7 _).mono ?_
  rintro e w3 ⟨rfl, b3⟩
  have A := (Arr_at w2 w2.heap.size [.int .i64 1, .int .i64 7, .int .i64 1073741824, .int .i64 0, .int .i64 (-1073741824)] 28 rfl).below b3
  have c0 : w3.cell? ⟨w2.heap.size, 0, none⟩ = some (.int .i64 1) := A.c 0 (of_decide_eq_true rfl)
  have c1 : w3.cell? ⟨w2.heap.size, 1, none⟩ = some (.int .i64 7) := A.c 1 (of_decide_eq_true rfl)
  have c2 : w3.cell? ⟨w2.heap.size, 2, none⟩ = some (.int .i64 1073741824) := A.c 2 (of_decide_eq_true rfl)
  have c3 : w3.cell? ⟨w2.heap.size, 3, none⟩ = some (.int .i64 0) := A.c 3 (of_decide_eq_true rfl)
  have c4 : w3.cell? ⟨w2.heap.size, 4, none⟩ = some (.int .i64 (-1073741824)) := A.c 4 (of_decide_eq_true rfl)
  have b13 := bel_then (bel_al b12 _) b3
  go_wp2_with fail
  refine (h8 _).mono ?_
  rintro e w4 ⟨rfl, b4⟩
  go_wp2_with (with_reducible refine post_stop ?_)
  exact ⟨bodyPost_ret (v := .bool true) (by simp [results, Try.results8, go_sem]) rfl ⟨rfl, bel_then b13 b4⟩⟩
end Go.Proofs.Ytoaghmbaijlklaa
