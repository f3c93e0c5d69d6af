/-
  The document's P, D and Q by the symbolic run, round by round, for the seat YtoadcnhcfodkgaaGreatDoor.
-/
import Derived.Test.YtoadcnhcfodkgaaGreatDoorBdD
import Derived.Test.YtoadcnhcfodkgaaGreatDoorRRoot
import Derived.Test.YtoadcnhcfodkgaaGreatDoorFRows
namespace Go.Proofs.YtoadcnhcfodkgaaGreatDoor
open Go.RowKit

def lxDiv : Ct Tryz.prog := flowCt Tryz.prog 70 (then' cI (lone' cI)) (fun bad x => divS bad x.1 x.2) cI (go_of Tryz.func70 (by kernel_rfl) (by kernel_rfl)) (fun b bad x w _ _ hw => rDiv_any b bad x.1 x.2 w hw)
def lxSqrt : Ct Tryz.prog := flowCt Tryz.prog 71 (lone' cI) (fun bad x => sqrtS bad x) cI (go_of Tryz.func71 (by kernel_rfl) (by kernel_rfl)) (fun b bad x w _ _ hw => rSqrt_any b bad x w hw)
def rkW (bad : Bool) (n m : Int) : Int × Bool := sqrtS bad (IntKind.i64.wrap (IntKind.i64.wrap (IntKind.i64.wrap (n * n) - IntKind.i64.wrap (m * m)) * 1099511627776))
def lxK : Ct Tryz.prog := flowCt Tryz.prog 256 (then' cI (lone' cI)) (fun bad x => rkW bad x.1 x.2) cI (go_of Tryz.func256 (by kernel_rfl) (by kernel_rfl)) (flow_sx (tbl := [lxSqrt]) (dirty := fun _ => []) (n := 2) xmixA Tryz.func256 rfl (fun bad x Post => by kernel_rfl))
def lxT : List (Ct Tryz.prog) := [rMulCt, rAddCt, rSubCt, rPartCt, lxDiv, lxSqrt, lxK]
/-- A row of 49 numbers. -/
def r49 (g : Nat → Int) : List Value := [.int .i64 (g 0), .int .i64 (g 1), .int .i64 (g 2), .int .i64 (g 3), .int .i64 (g 4), .int .i64 (g 5), .int .i64 (g 6), .int .i64 (g 7), .int .i64 (g 8), .int .i64 (g 9), .int .i64 (g 10), .int .i64 (g 11), .int .i64 (g 12), .int .i64 (g 13), .int .i64 (g 14), .int .i64 (g 15), .int .i64 (g 16), .int .i64 (g 17), .int .i64 (g 18), .int .i64 (g 19), .int .i64 (g 20), .int .i64 (g 21), .int .i64 (g 22), .int .i64 (g 23), .int .i64 (g 24), .int .i64 (g 25), .int .i64 (g 26), .int .i64 (g 27), .int .i64 (g 28), .int .i64 (g 29), .int .i64 (g 30), .int .i64 (g 31), .int .i64 (g 32), .int .i64 (g 33), .int .i64 (g 34), .int .i64 (g 35), .int .i64 (g 36), .int .i64 (g 37), .int .i64 (g 38), .int .i64 (g 39), .int .i64 (g 40), .int .i64 (g 41), .int .i64 (g 42), .int .i64 (g 43), .int .i64 (g 44), .int .i64 (g 45), .int .i64 (g 46), .int .i64 (g 47), .int .i64 (g 48)]
/-- a and b. -/
def lxA (fl : Bool) (n m : Int) : (Int × Int) × Bool := let k := rkW fl n m; let j := rkW k.2 (n - 1) m; let a := divS j.2 j.1 k.1; let p := partS a.2 1099511627776 (2 * n - 1) 1; let b := divS p.2 p.1 k.1; ((a.1, b.1), b.2)
/-- P's next. -/
def lxP (fl : Bool) (c a b x y : Int) : Int × Bool := let v := mulS fl c x; let u := mulS v.2 b v.1; let z := mulS u.2 a y; subS z.2 u.1 z.1
/-- D's next. -/
def lxD (fl : Bool) (c s a b x1 x2 y2 : Int) : Int × Bool := let v5 := mulS fl c x2; let v6 := mulS v5.2 s x1; let v7 := subS v6.2 v5.1 v6.1; let v8 := mulS v7.2 b v7.1; let v9 := mulS v8.2 a y2; subS v9.2 v8.1 v9.1
def lxM (fl : Bool) (p d q : Nat → Int) : Xm := [[.bool fl], r49 (fun _ => 0), r49 (fun _ => 0), r49 (fun _ => 0), r49 p, r49 d, r49 q]
def lxs : List Nat := [0, 1, 2, 6, 7, 8, 9, 10, 11, 12, 13]
def lxG (c s n : Int) (v : Value) (d : Nat → Value) : List Value := frm [(0, ptr 0), (1, .int .i64 c), (2, .int .i64 s), (6, ptr 1), (7, ptr 2), (8, ptr 3), (9, ptr 4), (10, ptr 5), (11, ptr 6), (12, .int .i64 n), (13, v)] d 239
def lxF (c s n m : Int) (d : Nat → Value) : List Value := lxG c s n (.int .i64 m) d
def lxE (c s n : Int) (d : Nat → Value) : List Value := vset ((((lxF c s n n d).set 30 (.int .i64 n)).set 31 (.int .i64 n)).set 32 (.bool false)) (.tmp 32) false
def lxH (c s n : Int) (v : Value) (d : Nat → Value) : List Value := vset (((lxG c s n v d).set 26 (.int .i64 n)).set 27 (.bool false)) (.tmp 27) false
def lxO : Ov := fun id => match id with
  | 5 => some (cutBy Tryz.prog lxT (fun _ => []) 5 lxs 239 7)
  | 8 => some (cutBy Tryz.prog lxT (fun _ => []) 8 lxs 239 7)
  | 10 => some (cutBy Tryz.prog lxT (fun _ => []) 10 lxs 239 7)
  | 7 => some (cutBy Tryz.prog lxT (fun _ => []) 7 lxs 239 7)
  | _ => none
/-- The loop over degrees, its round, what comes behind; the loop over orders, its round, what comes behind. -/
def lxL (P : Program) : Code := cpart [true, true, true, true, true, false, true] (bodyOf P 187)
def lxX (P : Program) : Code := cpart [false, false] (lxL P)
def lxZ (P : Program) : Code := cpart [true, true, true, true, true, true] (bodyOf P 187)
def lxN (P : Program) : Code := cpart [true, false, false, false, true] (lxX P)
def lxY (P : Program) : Code := cpart [false, false] (lxN P)
def lxR (P : Program) : Code := cpart [true, false, false, true] (lxX P)
def lxU (P : Program) : Code := cpart [true, true] (lxX P)
def lxQl (Q : VQ) : VQ := fun e vt m => match e with
  | .normal => swpO Tryz.prog lxT (fun _ => []) 9 lxO (lxU Tryz.prog) Q vt m
  | e => Q e vt m
def lxQk (Q : VQ) : VQ := fun e vt m => match e with
  | .exit id' => if id' = 1 then lxQl Q .normal vt m else lxQl Q (.exit id') vt m
  | e => lxQl Q e vt m
def lxQj (Q : VQ) : VQ := fun e vt m => match e with
  | .normal => swpO Tryz.prog lxT (fun _ => []) 9 lxO (lxR Tryz.prog) (lxQk Q) vt m
  | e => lxQk Q e vt m
def lxQ0 (Q : VQ) : VQ := fun e vt m => match e with
  | .normal => swpO Tryz.prog lxT (fun _ => []) 9 lxO (lxZ Tryz.prog) Q vt m
  | e => Q e vt m
/-- A round of the inner loop: a, b, the next of P, D, Q, and the flow. -/
def lxW (fl : Bool) (c s : Int) (n m : Nat) (p d q : Nat → Int) : (Int × Int × Int) × Bool :=
  let r := lxA fl n m
  let x := lxP r.2 c r.1.1 r.1.2 (p ((n - 1) * 7 + m)) (if 2 ≤ n then p ((n - 2) * 7 + m) else 0)
  let y := lxD x.2 c s r.1.1 r.1.2 (p ((n - 1) * 7 + m)) (d ((n - 1) * 7 + m)) (if 2 ≤ n then d ((n - 2) * 7 + m) else 0)
  let z := lxP y.2 c r.1.1 r.1.2 (q ((n - 1) * 7 + m)) (if 2 ≤ n then q ((n - 2) * 7 + m) else 0)
  if 0 < m then ((x.1, y.1, z.1), z.2) else ((x.1, y.1, q (n * 7 + m)), y.2)
/-- The next row behind a round of the outer loop. -/
def lxV (fl : Bool) (c s : Int) (n : Nat) (p d q : Nat → Int) : (Int × Int × Int) × Bool :=
  if n = 1 then ((s, c, 1099511627776), fl) else
  let r := partS fl 1099511627776 (2 * n - 1) (2 * n)
  let j := sqrtS r.2 r.1
  let v1 := mulS j.2 s (p ((n - 1) * 7 + (n - 1)))
  let x := mulS v1.2 j.1 v1.1
  let v3 := mulS x.2 s (d ((n - 1) * 7 + (n - 1)))
  let v4 := mulS v3.2 c (p ((n - 1) * 7 + (n - 1)))
  let v5 := addS v4.2 v3.1 v4.1
  let y := mulS v5.2 j.1 v5.1
  let v7 := mulS y.2 s (q ((n - 1) * 7 + (n - 1)))
  let z := mulS v7.2 j.1 v7.1
  ((x.1, y.1, z.1), z.2)
theorem lx_six {n : Nat} (h : 1 ≤ n ∧ n ≤ 6) : n = 1 ∨ n = 2 ∨ n = 3 ∨ n = 4 ∨ n = 5 ∨ n = 6 := by omega
set_option maxRecDepth 100000 in
theorem lx_in {n m : Nat} (h : 1 ≤ n ∧ n ≤ 6 ∧ m < n) (c s : Int) (p d q : Nat → Int) (fl : Bool) (D : Nat → Value) (Q : VQ) : swpO Tryz.prog lxT (fun _ => []) 9 lxO (lxY Tryz.prog) Q (lxF c s n m D) (lxM fl p d q) =
    (239 = 239 ∧ true = true ∧ ∀ D, Q .normal (lxF c s n ((m : Int) + 1) D) (lxM (lxW fl c s n m p d q).2 (updF p (n * 7 + m) (lxW fl c s n m p d q).1.1) (updF d (n * 7 + m) (lxW fl c s n m p d q).1.2.1) (updF q (n * 7 + m) (lxW fl c s n m p d q).1.2.2))) := by
  obtain ⟨h1, h2, h3⟩ := h
  rcases lx_six ⟨h1, h2⟩ with rfl | rfl | rfl | rfl | rfl | rfl
  · obtain rfl : m = 0 := by omega
    all_goals kernel_rfl
  · obtain rfl | rfl : m = 0 ∨ m = 1 := by omega
    all_goals kernel_rfl
  · obtain rfl | rfl | rfl : m = 0 ∨ m = 1 ∨ m = 2 := by omega
    all_goals kernel_rfl
  · obtain rfl | rfl | rfl | rfl : m = 0 ∨ m = 1 ∨ m = 2 ∨ m = 3 := by omega
    all_goals kernel_rfl
  · obtain rfl | rfl | rfl | rfl | rfl : m = 0 ∨ m = 1 ∨ m = 2 ∨ m = 3 ∨ m = 4 := by omega
    all_goals kernel_rfl
  · obtain rfl | rfl | rfl | rfl | rfl | rfl : m = 0 ∨ m = 1 ∨ m = 2 ∨ m = 3 ∨ m = 4 ∨ m = 5 := by omega
    all_goals kernel_rfl
set_option maxRecDepth 100000 in
theorem lx_out {n : Nat} (h : 1 ≤ n ∧ n ≤ 6) (c s : Int) (p d q : Nat → Int) (fl : Bool) (D : Nat → Value) (Q : VQ) : swpO Tryz.prog lxT (fun _ => []) 9 lxO (lxY Tryz.prog) Q (lxF c s n n D) (lxM fl p d q) = Q (.exit 2) (lxE c s n D) (lxM fl p d q) := by
  rcases lx_six h with rfl | rfl | rfl | rfl | rfl | rfl <;> kernel_rfl
set_option maxRecDepth 100000 in
theorem lx_beg {n : Nat} (h : 1 ≤ n ∧ n ≤ 6) (c s : Int) (v : Value) (p d q : Nat → Int) (fl : Bool) (D : Nat → Value) (Q : VQ) : swpO Tryz.prog lxT (fun _ => []) 9 lxO (lxX Tryz.prog) Q (lxG c s n v D) (lxM fl p d q) =
    (239 = 239 ∧ true = true ∧ ∀ D, swpO Tryz.prog lxT (fun _ => []) 9 lxO (lxN Tryz.prog) (lxQj Q) (lxF c s n 0 D) (lxM fl p d q)) := by
  rcases lx_six h with rfl | rfl | rfl | rfl | rfl | rfl <;> kernel_rfl
set_option maxRecDepth 100000 in
theorem lx_end {n : Nat} (h : 1 ≤ n ∧ n ≤ 6) (c s : Int) (p d q : Nat → Int) (fl : Bool) (D : Nat → Value) (Q : VQ) : lxQj Q .normal (lxE c s n D) (lxM fl p d q) =
    (239 = 239 ∧ true = true ∧ ∀ D, Q .normal (lxG c s ((n : Int) + 1) (.int .i64 n) D) (lxM (lxV fl c s n p d q).2 (updF p (n * 7 + n) (lxV fl c s n p d q).1.1) (updF d (n * 7 + n) (lxV fl c s n p d q).1.2.1) (updF q (n * 7 + n) (lxV fl c s n p d q).1.2.2))) := by
  rcases lx_six h with rfl | rfl | rfl | rfl | rfl | rfl <;> kernel_rfl
set_option maxRecDepth 100000 in
theorem lx_fin (c s : Int) (v : Value) (p d q : Nat → Int) (fl : Bool) (D : Nat → Value) (Q : VQ) : swpO Tryz.prog lxT (fun _ => []) 9 lxO (lxX Tryz.prog) Q (lxG c s 7 v D) (lxM fl p d q) = Q (.exit 0) (lxH c s 7 v D) (lxM fl p d q) := by kernel_rfl
set_option maxRecDepth 100000 in
theorem lx_start (c s : Int) (fl : Bool) (Q : VQ) : swpO Tryz.prog lxT (fun _ => []) 9 lxO (bodyOf Tryz.prog 187) Q ([ptr 0, .int .i64 c, .int .i64 s] ++ List.replicate ((fnOf Tryz.prog 187).ntmps - 3) undef) [[.bool fl]] =
    (239 = 239 ∧ true = true ∧ ∀ D, swpO Tryz.prog lxT (fun _ => []) 9 lxO (lxL Tryz.prog) (lxQ0 Q) (lxG c s 1 undef D) (lxM fl (updF (fun _ => 0) 0 1099511627776) (fun _ => 0) (fun _ => 0))) := by kernel_rfl
set_option maxRecDepth 100000 in
theorem lx_last (c s n : Int) (v : Value) (p d q : Nat → Int) (fl : Bool) (D : Nat → Value) (Post : Value → Option Bool → Prop) : swpO Tryz.prog lxT (fun _ => []) 9 lxO (lxZ Tryz.prog) (retQ Tryz.prog (fnOf Tryz.prog 187) (fun v m => Post v (flagOf m))) (lxH c s n v D) (lxM fl p d q) =
    Post (.tuple #[.agg (r49 p).toArray, .agg (r49 d).toArray, .agg (r49 q).toArray]) (some fl) := by kernel_rfl
end Go.Proofs.YtoadcnhcfodkgaaGreatDoor
