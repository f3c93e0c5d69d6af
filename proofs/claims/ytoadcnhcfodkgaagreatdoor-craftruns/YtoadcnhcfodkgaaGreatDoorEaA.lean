/-
  The document's Earth by the symbolic run, round by round, for the seat YtoadcnhcfodkgaaGreatDoor.
-/
import Derived.Test.YtoadcnhcfodkgaaGreatDoorNuA
import Derived.Test.YtoadcnhcfodkgaaGreatDoorRNorm
import Derived.Test.YtoadcnhcfodkgaaGreatDoorFSkX
namespace Go.Proofs.YtoadcnhcfodkgaaGreatDoor
open Go.RowKit

def eaNor : Ct Tryz.prog := flowCt Tryz.prog 79 (then' cI (then' cI (lone' cI))) (fun bad x => normS bad x.1 x.2.1 x.2.2) cI (go_of Tryz.func79 (by kernel_rfl) (by kernel_rfl)) (fun b bad x w _ _ hw => rNorm_any b bad x.1 x.2.1 x.2.2 w hw)
def eaVec : Ct Tryz.prog := flowCt Tryz.prog 23 (lone' cV3) (fun bad p => normS bad p.1 p.2.1 p.2.2) cI (go_of Tryz.func23 (by kernel_rfl) (by kernel_rfl)) (flow_sx (tbl := [eaNor]) (dirty := fun _ => []) (n := 2) xmixA Tryz.func23 rfl (fun bad x Post => by kernel_rfl))
def numCt : Ct Tryz.prog := fpCt Tryz.prog 188 (then' cI (then' cI (lone' cI))) (fun bad x => bad = false ∧ numIn x.1 x.2.1 x.2.2) (fun bad x => numS bad x.1 x.2.1 x.2.2) (two' cI cI) (go_of Tryz.func188 (by kernel_rfl) (by kernel_rfl)) (fun b bad x w h hg hb hw => by
  obtain ⟨rfl, h⟩ := h
  exact nu_in _ _ _ b w h hg hb hw)
def legV (P D Q : Nat → Nat → Int) : Value := .tuple #[.agg (r49 (triN P 6 0)).toArray, .agg (r49 (triN D 6 0)).toArray, .agg (r49 (triN Q 6 0)).toArray]
def legCt {c s : Int} {P D Q : Nat → Nat → Int} (Z : Tri c s P D Q) : Ct Tryz.prog := fpCt Tryz.prog 187 (then' cI (lone' cI)) (fun bad x => bad = false ∧ x.1 = c ∧ x.2 = s) (fun _ _ => ((), false)) (cOne (legV P D Q) rfl) (go_of Tryz.func187 (by kernel_rfl) (by kernel_rfl)) (fun b bad x w h hg hb hw => by
  obtain ⟨rfl, e1, e2⟩ := h
  obtain ⟨x1, x2⟩ := x
  dsimp only at e1 e2
  subst e1 e2
  exact leg_any b x1 x2 P D Q Z w hw hg hb)
def eaT {c s : Int} {P D Q : Nat → Nat → Int} (Z : Tri c s P D Q) : List (Ct Tryz.prog) := [rMulCt, rAddCt, rSubCt, rPartCt, lxDiv, eaNor, eaVec, nuDay, nuFail, numCt, legCt Z]
def r7 (g : Nat → Int) : List Value := [.int .i64 (g 0), .int .i64 (g 1), .int .i64 (g 2), .int .i64 (g 3), .int .i64 (g 4), .int .i64 (g 5), .int .i64 (g 6)]
def r3 (p : V3) : List Value := [.int .i64 p.1, .int .i64 p.2.1, .int .i64 p.2.2]
def ea1 : List Nat := [0, 2, 6, 7, 9, 10, 11, 12, 13, 14, 15]
def ea2 : List Nat := [0, 2, 6, 9, 10, 11, 12, 13, 14, 16, 17, 18, 19, 20, 21, 22, 23, 24, 25]
def ea3 : List Nat := [0, 2, 6, 9, 10, 11, 12, 13, 14, 16, 17, 18, 19, 20, 21, 22, 23, 24]
def eaM (fl : Bool) (p : V3) (g h : Nat → Int) : Xm := [[.bool fl], r3 p, r3 (0, 0, 0), r7 g, r7 h]
def eaN (fl : Bool) (p : V3) (g h P D Q : Nat → Int) : Xm := [[.bool fl], r3 p, r3 (0, 0, 0), r7 g, r7 h, r49 P, r49 D, r49 Q]
def eaF (t r c s u v m : Int) (d : Nat → Value) : List Value := frm [(0, ptr 0), (2, .int .i64 t), (6, ptr 2), (7, .int .i64 r), (9, .int .i64 c), (10, .int .i64 s), (11, .int .i64 u), (12, .int .i64 v), (13, ptr 3), (14, ptr 4), (15, .int .i64 m)] d 287
def eaG (t c s u v up so ea q tt n : Int) (x : Value) (d : Nat → Value) : List Value := frm [(0, ptr 0), (2, .int .i64 t), (6, ptr 2), (9, .int .i64 c), (10, .int .i64 s), (11, .int .i64 u), (12, .int .i64 v), (13, ptr 3), (14, ptr 4), (16, ptr 5), (17, ptr 6), (18, ptr 7), (19, .int .i64 up), (20, .int .i64 so), (21, .int .i64 ea), (22, .int .i64 q), (23, .int .i64 tt), (24, .int .i64 n), (25, x)] d 287
def eaO {c s : Int} {P D Q : Nat → Nat → Int} (Z : Tri c s P D Q) : Ov := fun id => match id with
  | 17 => some (cutBy Tryz.prog (eaT Z) (fun _ => []) 17 ea1 287 5)
  | 19 => some (cutBy Tryz.prog (eaT Z) (fun _ => []) 19 ea1 287 5)
  | 26 => some (cutBy Tryz.prog (eaT Z) (fun _ => []) 26 ea3 287 8)
  | 28 => some (cutBy Tryz.prog (eaT Z) (fun _ => []) 28 ea2 287 8)
  | 30 => some (cutBy Tryz.prog (eaT Z) (fun _ => []) 30 ea2 287 8)
  | 32 => some (cutBy Tryz.prog (eaT Z) (fun _ => []) 32 ea2 287 8)
  | _ => none
def trues : Nat → List Bool
  | 0 => []
  | n + 1 => true :: trues n
/-- The rounds' loop, its round; what comes behind; the loop over degrees, its round; the loop over orders, its round; what comes behind. -/
def eaL (P : Program) : Code := cpart (trues 13 ++ [false, true]) (bodyOf P 78)
def eaX (P : Program) : Code := cpart [false, false] (eaL P)
def eaB (P : Program) : Code := cpart (trues 14) (bodyOf P 78)
def eaK (P : Program) : Code := cpart (trues 18 ++ [false, true]) (bodyOf P 78)
def eaY (P : Program) : Code := cpart [false, false] (eaK P)
def eaI (P : Program) : Code := cpart [true, false, false, true, true] (eaY P)
def eaZ (P : Program) : Code := cpart [false, false] (eaI P)
def eaU (P : Program) : Code := cpart [true, true] (eaY P)
def eaE (P : Program) : Code := cpart (trues 19) (bodyOf P 78)
section
variable {c0 s0 : Int} {P0 D0 Q0 : Nat → Nat → Int} (Z : Tri c0 s0 P0 D0 Q0)
def eaQ0 (Q : VQ) : VQ := fun e vt m => match e with
  | .normal => swpO Tryz.prog (eaT Z) (fun _ => []) 9 (eaO Z) (eaB Tryz.prog) (Q) (vt) (m)
  | e => Q e vt m
def eaQ2 (Q : VQ) : VQ := fun e vt m => match e with
  | .normal => swpO Tryz.prog (eaT Z) (fun _ => []) 9 (eaO Z) (eaE Tryz.prog) (Q) (vt) (m)
  | e => Q e vt m
def eaQl (Q : VQ) : VQ := fun e vt m => match e with
  | .normal => swpO Tryz.prog (eaT Z) (fun _ => []) 9 (eaO Z) (eaU Tryz.prog) (Q) (vt) (m)
  | e => Q e vt m
def eaQj (Q : VQ) : VQ := fun e vt m => match e with
  | .exit id' => if id' = 3 then eaQl Z Q .normal vt m else eaQl Z Q (.exit id') vt m
  | e => eaQl Z Q e vt m
def eaF7 (t r c s u v : Int) (d : Nat → Value) : List Value := vset (((eaF t r c s u v 7 d).set 83 (.int .i64 7)).set 84 (.bool false)) (.tmp 84) false
def eaG4 (t c s u v up so ea q tt n : Int) (d : Nat → Value) : List Value := vset ((((eaG t c s u v up so ea q tt n (.int .i64 (n + 1)) d).set 146 (.int .i64 (n + 1))).set 147 (.int .i64 n)).set 148 (.bool false)) (.tmp 148) false
def eaG2 (t c s u v up so ea q tt : Int) (x : Value) (d : Nat → Value) : List Value := vset (((eaG t c s u v up so ea q tt 7 x d).set 138 (.int .i64 7)).set 139 (.bool false)) (.tmp 139) false
def eaGo (fl : Bool) (p : V3) (t r c s u v : Int) (Q : VQ) : Prop := 287 = 287 ∧ true = true ∧ ∀ D, swpO Tryz.prog (eaT Z) (fun _ => []) 9 (eaO Z) (eaL Tryz.prog) (eaQ0 Z Q) (eaF t r c s u v 1 D) (eaM fl p (updF (fun _ => 0) 0 1099511627776) (fun _ => 0))
def eaIn (fl : Bool) (p : V3) (t r : Int) (Q : VQ) : Prop :=
  let w := normS fl p.1 p.2.1 0; let c := divS w.2 p.2.2 r; let s := divS c.2 w.1 r; let u := divS s.2 p.1 w.1; let v := divS u.2 p.2.1 w.1
  vif (decide (w.1 ≥ 1048576)) (eaGo Z v.2 p t r c.1 s.1 u.1 v.1 Q) (eaGo Z s.2 p t r c.1 s.1 1099511627776 0 Q)
def zer3 : Value := .agg #[.int .i64 0, .int .i64 0, .int .i64 0]
set_option maxRecDepth 100000 in
theorem ea_start (p : V3) (t : Int) (bad : Bool) (Post : Value → Option Bool → Prop) : swpO Tryz.prog (eaT Z) (fun _ => []) 9 (eaO Z) (bodyOf Tryz.prog 78) (retQ Tryz.prog (fnOf Tryz.prog 78) (fun v m => Post v (flagOf m))) ([ptr 0, .agg #[.int .i64 p.1, .int .i64 p.2.1, .int .i64 p.2.2], .int .i64 t] ++ List.replicate ((fnOf Tryz.prog 78).ntmps - 3) undef) ([[.bool bad]]) =
    vif (decide ((normS bad p.1 p.2.1 p.2.2).1 < 6597069766656)) (Post zer3 (some true)) (vif (decide ((normS bad p.1 p.2.1 p.2.2).1 > 10995116277760)) (Post zer3 (some true)) (vif (nuDayW (normS bad p.1 p.2.1 p.2.2).2 t).2 (Post zer3 (some (nuDayW (normS bad p.1 p.2.1 p.2.2).2 t).2))
      (eaIn Z (nuDayW (normS bad p.1 p.2.1 p.2.2).2 t).2 p t (normS bad p.1 p.2.1 p.2.2).1 (retQ Tryz.prog (fnOf Tryz.prog 78) (fun v m => Post v (flagOf m)))))) := by kernel_rfl
set_option maxRecDepth 100000 in
theorem ea_loop1 (Q : VQ) (vt : List Value) (m : Xm) : swpO Tryz.prog (eaT Z) (fun _ => []) 9 (eaO Z) (eaL Tryz.prog) (Q) (vt) (m) = loopN 9 (swpO Tryz.prog (eaT Z) (fun _ => []) 9 (eaO Z) (eaX Tryz.prog)) (lxB 0 Q) vt m := by kernel_rfl
set_option maxRecDepth 100000 in
theorem ea_loop2 (Q : VQ) (vt : List Value) (m : Xm) : swpO Tryz.prog (eaT Z) (fun _ => []) 9 (eaO Z) (eaK Tryz.prog) (Q) (vt) (m) = loopN 9 (swpO Tryz.prog (eaT Z) (fun _ => []) 9 (eaO Z) (eaY Tryz.prog)) (lxB 2 Q) vt m := by kernel_rfl
set_option maxRecDepth 100000 in
theorem ea_loop3 (Q : VQ) (vt : List Value) (m : Xm) : swpO Tryz.prog (eaT Z) (fun _ => []) 9 (eaO Z) (eaI Tryz.prog) (Q) (vt) (m) = loopN 9 (swpO Tryz.prog (eaT Z) (fun _ => []) 9 (eaO Z) (eaZ Tryz.prog)) (lxB 4 Q) vt m := by kernel_rfl
/-- A round of the sines and cosines. -/
def eaR (fl : Bool) (u v C S : Int) : (Int × Int) × Bool := let v1 := mulS fl C u; let v2 := mulS v1.2 S v; let x := subS v2.2 v1.1 v2.1; let v4 := mulS x.2 S u; let v5 := mulS v4.2 C v; let y := addS v5.2 v4.1 v5.1; ((x.1, y.1), y.2)
set_option maxRecDepth 100000 in
theorem ea_r1 {k : Nat} (hk : k < 6) (t r c s u v : Int) (p : V3) (g h : Nat → Int) (fl : Bool) (D : Nat → Value) (Q : VQ) : swpO Tryz.prog (eaT Z) (fun _ => []) 9 (eaO Z) (eaX Tryz.prog) (Q) (eaF t r c s u v (k + 1 : Nat) D) (eaM fl p g h) =
    (287 = 287 ∧ true = true ∧ ∀ D, Q .normal (eaF t r c s u v ((k + 1 : Nat) + 1) D) (eaM (eaR fl u v (g k) (h k)).2 p (updF g (k + 1) (eaR fl u v (g k) (h k)).1.1) (updF h (k + 1) (eaR fl u v (g k) (h k)).1.2))) := by
  obtain rfl | rfl | rfl | rfl | rfl | rfl : k = 0 ∨ k = 1 ∨ k = 2 ∨ k = 3 ∨ k = 4 ∨ k = 5 := by omega
  all_goals kernel_rfl
set_option maxRecDepth 100000 in
theorem ea_f1 (t r c s u v : Int) (p : V3) (g h : Nat → Int) (fl : Bool) (D : Nat → Value) (Q : VQ) : swpO Tryz.prog (eaT Z) (fun _ => []) 9 (eaO Z) (eaX Tryz.prog) (Q) (eaF t r c s u v 7 D) (eaM fl p g h) = Q (.exit 0) (eaF7 t r c s u v D) (eaM fl p g h) := by kernel_rfl
set_option maxRecDepth 100000 in
theorem ea_mid (t r c s u v : Int) (p : V3) (g h : Nat → Int) (dd : Nat → Value) (Q : VQ) : swpO Tryz.prog (eaT Z) (fun _ => []) 9 (eaO Z) (eaB Tryz.prog) (Q) (eaF7 t r c s u v dd) (eaM false p g h) =
    ((false = false ∧ c = c0 ∧ s = s0) ∧ 287 = 287 ∧ true = true ∧ ∀ D, swpO Tryz.prog (eaT Z) (fun _ => []) 9 (eaO Z) (eaK Tryz.prog) (eaQ2 Z Q) (eaG t c s u v 0 0 0 (divS false 7005208482886 r).1 (mulS (divS false 7005208482886 r).2 (divS false 7005208482886 r).1 (divS false 7005208482886 r).1).1 1 (dimv (D 25)) D) (eaN (mulS (divS false 7005208482886 r).2 (divS false 7005208482886 r).1 (divS false 7005208482886 r).1).2 p g h (triN P0 6 0) (triN D0 6 0) (triN Q0 6 0))) := by kernel_rfl
set_option maxRecDepth 100000 in
theorem ea_b2 {n : Nat} (hn : 1 ≤ n ∧ n ≤ 6) (t c s u v up so ea q tt : Int) (x : Value) (p : V3) (g h P E Q : Nat → Int) (fl : Bool) (d : Nat → Value) (K : VQ) : swpO Tryz.prog (eaT Z) (fun _ => []) 9 (eaO Z) (eaY Tryz.prog) (K) (eaG t c s u v up so ea q tt n x d) (eaN fl p g h P E Q) =
    (287 = 287 ∧ true = true ∧ ∀ D, swpO Tryz.prog (eaT Z) (fun _ => []) 9 (eaO Z) (eaI Tryz.prog) (eaQj Z K) (eaG t c s u v up so ea q (mulS fl tt q).1 n (.int .i64 0) D) (eaN (mulS fl tt q).2 p g h P E Q)) := by
  rcases lx_six hn with rfl | rfl | rfl | rfl | rfl | rfl <;> kernel_rfl
/-- What a degree and an order add. -/
def eaW (t tt up so ea C S P D Q : Int) (n m : Nat) : (Int × Int × Int) × Bool :=
  let N := numS false n m t; let v1 := mulS N.2 N.1.1 C; let v2 := mulS v1.2 N.1.2 S; let e := addS v2.2 v1.1 v2.1; let v4 := mulS e.2 N.1.1 S; let v5 := mulS v4.2 N.1.2 C; let o := subS v5.2 v4.1 v5.1
  let y1 := mulS o.2 e.1 P; let z1 := mulS y1.2 tt y1.1; let p1 := partS z1.2 z1.1 ((n : Int) + 1) 1; let a1 := addS p1.2 up p1.1
  let y2 := mulS a1.2 e.1 D; let z2 := mulS y2.2 tt y2.1; let a2 := subS z2.2 so z2.1
  let y3 := mulS a2.2 o.1 Q; let z3 := mulS y3.2 tt y3.1; let p3 := partS z3.2 z3.1 m 1; let a3 := addS p3.2 ea p3.1
  if 0 < m then ((a1.1, a2.1, a3.1), a3.2) else ((a1.1, a2.1, ea), a2.2)
def EaR (Z : Tri c0 s0 P0 D0 Q0) (n m : Nat) : Prop := ∀ (t c s u v up so ea q tt : Int) (p : V3) (g h P E Q : Nat → Int) (d : Nat → Value) (K : VQ),  swpO Tryz.prog (eaT Z) (fun _ => []) 9 (eaO Z) (eaZ Tryz.prog) (K) (eaG t c s u v up so ea q tt n (.int .i64 m) d) (eaN false p g h P E Q) =
    ((false = false ∧ numIn n m t) ∧ 287 = 287 ∧ true = true ∧ ∀ D, K .normal (eaG t c s u v (eaW t tt up so ea (g m) (h m) (P (n * 7 + m)) (E (n * 7 + m)) (Q (n * 7 + m)) n m).1.1 (eaW t tt up so ea (g m) (h m) (P (n * 7 + m)) (E (n * 7 + m)) (Q (n * 7 + m)) n m).1.2.1 (eaW t tt up so ea (g m) (h m) (P (n * 7 + m)) (E (n * 7 + m)) (Q (n * 7 + m)) n m).1.2.2 q tt n (.int .i64 ((m : Int) + 1)) D) (eaN (eaW t tt up so ea (g m) (h m) (P (n * 7 + m)) (E (n * 7 + m)) (Q (n * 7 + m)) n m).2 p g h P E Q)) 
set_option maxRecDepth 100000 in
theorem ea_r10 {m : Nat} (h : 0 ≤ m ∧ m ≤ 0) : EaR Z 1 m := by
  obtain rfl : m = 0 := by omega
  all_goals (intro t c s u v up so ea q tt p g h P E Q d K; kernel_rfl)
set_option maxRecDepth 100000 in
theorem ea_r11 {m : Nat} (h : 1 ≤ m ∧ m ≤ 1) : EaR Z 1 m := by
  obtain rfl : m = 1 := by omega
  all_goals (intro t c s u v up so ea q tt p g h P E Q d K; kernel_rfl)
set_option maxRecDepth 100000 in
theorem ea_r20 {m : Nat} (h : 0 ≤ m ∧ m ≤ 1) : EaR Z 2 m := by
  obtain rfl | rfl : m = 0 ∨ m = 1 := by omega
  all_goals (intro t c s u v up so ea q tt p g h P E Q d K; kernel_rfl)
set_option maxRecDepth 100000 in
theorem ea_r21 {m : Nat} (h : 2 ≤ m ∧ m ≤ 2) : EaR Z 2 m := by
  obtain rfl : m = 2 := by omega
  all_goals (intro t c s u v up so ea q tt p g h P E Q d K; kernel_rfl)
set_option maxRecDepth 100000 in
theorem ea_r30 {m : Nat} (h : 0 ≤ m ∧ m ≤ 1) : EaR Z 3 m := by
  obtain rfl | rfl : m = 0 ∨ m = 1 := by omega
  all_goals (intro t c s u v up so ea q tt p g h P E Q d K; kernel_rfl)
set_option maxRecDepth 100000 in
theorem ea_r31 {m : Nat} (h : 2 ≤ m ∧ m ≤ 3) : EaR Z 3 m := by
  obtain rfl | rfl : m = 2 ∨ m = 3 := by omega
  all_goals (intro t c s u v up so ea q tt p g h P E Q d K; kernel_rfl)
set_option maxRecDepth 100000 in
theorem ea_r40 {m : Nat} (h : 0 ≤ m ∧ m ≤ 2) : EaR Z 4 m := by
  obtain rfl | rfl | rfl : m = 0 ∨ m = 1 ∨ m = 2 := by omega
  all_goals (intro t c s u v up so ea q tt p g h P E Q d K; kernel_rfl)
set_option maxRecDepth 100000 in
theorem ea_r41 {m : Nat} (h : 3 ≤ m ∧ m ≤ 4) : EaR Z 4 m := by
  obtain rfl | rfl : m = 3 ∨ m = 4 := by omega
  all_goals (intro t c s u v up so ea q tt p g h P E Q d K; kernel_rfl)
set_option maxRecDepth 100000 in
theorem ea_r50 {m : Nat} (h : 0 ≤ m ∧ m ≤ 2) : EaR Z 5 m := by
  obtain rfl | rfl | rfl : m = 0 ∨ m = 1 ∨ m = 2 := by omega
  all_goals (intro t c s u v up so ea q tt p g h P E Q d K; kernel_rfl)
set_option maxRecDepth 100000 in
theorem ea_r51 {m : Nat} (h : 3 ≤ m ∧ m ≤ 5) : EaR Z 5 m := by
  obtain rfl | rfl | rfl : m = 3 ∨ m = 4 ∨ m = 5 := by omega
  all_goals (intro t c s u v up so ea q tt p g h P E Q d K; kernel_rfl)
set_option maxRecDepth 100000 in
theorem ea_r60 {m : Nat} (h : 0 ≤ m ∧ m ≤ 3) : EaR Z 6 m := by
  obtain rfl | rfl | rfl | rfl : m = 0 ∨ m = 1 ∨ m = 2 ∨ m = 3 := by omega
  all_goals (intro t c s u v up so ea q tt p g h P E Q d K; kernel_rfl)
set_option maxRecDepth 100000 in
theorem ea_r61 {m : Nat} (h : 4 ≤ m ∧ m ≤ 6) : EaR Z 6 m := by
  obtain rfl | rfl | rfl : m = 4 ∨ m = 5 ∨ m = 6 := by omega
  all_goals (intro t c s u v up so ea q tt p g h P E Q d K; kernel_rfl)
theorem ea_r3 {n m : Nat} (hn : 1 ≤ n ∧ n ≤ 6 ∧ m ≤ n) : EaR Z n m := by
  obtain ⟨h1, h2, h3⟩ := hn
  rcases lx_six ⟨h1, h2⟩ with rfl | rfl | rfl | rfl | rfl | rfl
  · rcases Nat.lt_or_ge m 1 with h | h
    · exact ea_r10 Z ⟨by omega, by omega⟩
    · exact ea_r11 Z ⟨by omega, by omega⟩
  · rcases Nat.lt_or_ge m 2 with h | h
    · exact ea_r20 Z ⟨by omega, by omega⟩
    · exact ea_r21 Z ⟨by omega, by omega⟩
  · rcases Nat.lt_or_ge m 2 with h | h
    · exact ea_r30 Z ⟨by omega, by omega⟩
    · exact ea_r31 Z ⟨by omega, by omega⟩
  · rcases Nat.lt_or_ge m 3 with h | h
    · exact ea_r40 Z ⟨by omega, by omega⟩
    · exact ea_r41 Z ⟨by omega, by omega⟩
  · rcases Nat.lt_or_ge m 3 with h | h
    · exact ea_r50 Z ⟨by omega, by omega⟩
    · exact ea_r51 Z ⟨by omega, by omega⟩
  · rcases Nat.lt_or_ge m 4 with h | h
    · exact ea_r60 Z ⟨by omega, by omega⟩
    · exact ea_r61 Z ⟨by omega, by omega⟩
set_option maxRecDepth 100000 in
theorem ea_o3 {n : Nat} (hn : 1 ≤ n ∧ n ≤ 6) (t c s u v up so ea q tt : Int) (p : V3) (g h P E Q : Nat → Int) (fl : Bool) (d : Nat → Value) (K : VQ) : swpO Tryz.prog (eaT Z) (fun _ => []) 9 (eaO Z) (eaZ Tryz.prog) (K) (eaG t c s u v up so ea q tt n (.int .i64 ((n : Int) + 1)) d) (eaN fl p g h P E Q) = K (.exit 4) (eaG4 t c s u v up so ea q tt n d) (eaN fl p g h P E Q) := by
  rcases lx_six hn with rfl | rfl | rfl | rfl | rfl | rfl <;> kernel_rfl
set_option maxRecDepth 100000 in
theorem ea_e2 (n t c s u v up so ea q tt : Int) (p : V3) (g h P E Q : Nat → Int) (fl : Bool) (d : Nat → Value) (K : VQ) : eaQj Z K .normal (eaG4 t c s u v up so ea q tt n d) (eaN fl p g h P E Q) = (287 = 287 ∧ true = true ∧ ∀ D, K .normal (eaG t c s u v up so ea q tt (IntKind.i64.wrap (n + 1)) (.int .i64 (n + 1)) D) (eaN fl p g h P E Q)) := by kernel_rfl
set_option maxRecDepth 100000 in
theorem ea_f2 (t c s u v up so ea q tt : Int) (x : Value) (p : V3) (g h P E Q : Nat → Int) (fl : Bool) (d : Nat → Value) (K : VQ) : swpO Tryz.prog (eaT Z) (fun _ => []) 9 (eaO Z) (eaY Tryz.prog) (K) (eaG t c s u v up so ea q tt 7 x d) (eaN fl p g h P E Q) = K (.exit 2) (eaG2 t c s u v up so ea q tt x d) (eaN fl p g h P E Q) := by kernel_rfl
/-- Up, south and east as x, y, z. -/
def eaV (fl : Bool) (c s u v up so ea : Int) : V3 × Bool :=
  let v1 := mulS fl up s; let v2 := mulS v1.2 so c; let a := addS v2.2 v1.1 v2.1; let v4 := mulS a.2 a.1 u; let v5 := mulS v4.2 ea v; let x := subS v5.2 v4.1 v5.1; let v7 := mulS x.2 a.1 v; let v8 := mulS v7.2 ea u; let y := addS v8.2 v7.1 v8.1; let v10 := mulS y.2 up c; let v11 := mulS v10.2 so s; let z := subS v11.2 v10.1 v11.1; ((x.1, y.1, z.1), z.2)
set_option maxRecDepth 100000 in
theorem ea_last (t c s u v up so ea q tt : Int) (x : Value) (p : V3) (g h P E Q : Nat → Int) (fl : Bool) (d : Nat → Value) (Post : Value → Option Bool → Prop) : swpO Tryz.prog (eaT Z) (fun _ => []) 9 (eaO Z) (eaE Tryz.prog) (retQ Tryz.prog (fnOf Tryz.prog 78) (fun v m => Post v (flagOf m))) (eaG2 t c s u v up so ea q tt x d) (eaN fl p g h P E Q) =
    vif (eaV fl c s u v up so ea).2 (Post zer3 (some (eaV fl c s u v up so ea).2)) (Post (cV3.enc (eaV fl c s u v up so ea).1) (some (eaV fl c s u v up so ea).2)) := by kernel_rfl
end
end Go.Proofs.YtoadcnhcfodkgaaGreatDoor
