/-
  The last stages of the document's step, by the symbolic run, for the seat YtoadcnhcfodkgaaGreatDoor.
-/
import Derived.Test.YtoadcnhcfodkgaaGreatDoorDsC
namespace Go.Proofs.YtoadcnhcfodkgaaGreatDoor
open Go.RowKit

section
variable (F : Fs) (h : DsOk F) (T : List (Ct Tryz.prog)) (n : Nat) (Q : VQ) {x0 : Cra × Int × ByteArray} {y0 : Cra × HeD} {hY : ∀ w, GW w → Calls Tryz.prog 18 ((then' cCra (then' cI (lone' cS))).enc x0).toArray w fun e w' => e = .returned ((two' cCra cHeD).enc y0) ∧ Below w.heap.size w w'}
def c58 (t : Int) (c : Cra) : Prop := cutP fun d => swpO Tryz.prog T (fun _ => []) n (dsO T) (dsC0 Tryz.prog 22) (seqQ T n 23 Q) (f58 t (!decide (c.2.2.2.1.1 = 2)) d) (m58 c)
def condT : Code → Code
  | .cond _ x _ => x
  | c => c
/-- Behind a new attitude. -/
def dsE (P : Program) : Code := cpart [true, true] (condT (cpart (List.replicate 21 true ++ [false, true]) (bodyOf P 8)))
def f54 (t : Int) (d : Nat → Value) : List Value := frm [(1, .int .i64 t), (3, ptr 0), (6, ptr 1), (7, .string noS), (31, ptr 2), (32, ptr 3)] d 353
def m54 (c : Cra) (fl : Bool) (q : Tup 4) : Xm := [dCra.enc c, dCra.enc zeroCra, [.bool fl], (dT 4).enc q]
def c54 (t : Int) (c : Cra) (a : Tup 4 × Bool) : Prop := cutP fun d => swpO Tryz.prog T (fun _ => []) n (dsO T) (dsE Tryz.prog) (seqQ T n 22 Q) (f54 t d) (m54 c a.2 a.1)
def entV (t : Int) (c : Cra) (a : Tup 4 × Bool) : Prop :=
  vif a.2 (c58 T n Q t (setPlan (setGue c (F.start a.1)) (1, 0, 0, 0, 0, or4W c.2.2.2.1.2.2.2.2.2.1, ()))) (c58 T n Q t (setGue c (F.start a.1)))
def f51 (t md : Int) (d : Nat → Value) : List Value := frm [(1, .int .i64 t), (3, ptr 0), (6, ptr 1), (7, .string noS), (12, ptr 2), (15, ptr 3), (30, .int .i64 md)] d 353
def m51 (c : Cra) (s b : Tup 6) : Xm := [dCra.enc c, dCra.enc zeroCra, (dT 6).enc s, (dT 6).enc b]
def c51 (t md : Int) (c : Cra) (s b : Tup 6) : Prop := cutP fun d => swpO Tryz.prog T (fun _ => []) n (dsO T) (dsN Tryz.prog 21) Q (f51 t md d) (m51 c s b)
set_option maxRecDepth 100000 in
theorem ds_9 (hT : T = dsU F h x0 y0 hY) (t md : Int) (d : Nat → Value) (c : Cra) (s b : Tup 6) (e : SeD) :
    swpO Tryz.prog T (fun _ => []) n (dsO T) (dsN Tryz.prog 20) Q (f50 t md d) (m50 c s b e) = c51 T n Q t md (setPlan c (F.next (c.2.2.2.1, e))) s b := by
  subst hT
  kernel_rfl
set_option maxRecDepth 100000 in
theorem ds_9b (hT : T = dsU F h x0 y0 hY) (t md : Int) (d : Nat → Value) (c : Cra) (s b : Tup 6) :
    swpO Tryz.prog T (fun _ => []) n (dsO T) (dsN Tryz.prog 21) Q (f51 t md d) (m51 c s b) =
      vif (decide (c.2.2.2.1.1 = 2)) (vif (!decide (md = 2)) (c54 T n Q t c (F.att false (s, b))) (c58 T n Q t c)) (c58 T n Q t c) := by
  subst hT
  kernel_rfl
set_option maxRecDepth 100000 in
theorem ds_9c (hT : T = dsU F h x0 y0 hY) (t : Int) (d : Nat → Value) (c : Cra) (a : Tup 4 × Bool) :
    swpO Tryz.prog T (fun _ => []) n (dsO T) (dsE Tryz.prog) (seqQ T n 22 Q) (f54 t d) (m54 c a.2 a.1) = entV F T n Q t c a := by
  subst hT
  kernel_rfl
def c60 (t : Int) (c : Cra) : Prop := cutP fun d => swpO Tryz.prog T (fun _ => []) n (dsO T) (dsN Tryz.prog 24) Q (f60 t d) (m58 (setOn c))
set_option maxRecDepth 100000 in
theorem ds_10 (t : Int) (v : Bool) (d : Nat → Value) (c : Cra) :
    swpO Tryz.prog T (fun _ => []) n (dsO T) (dsC0 Tryz.prog 22) (seqQ T n 23 Q) (f58 t v d) (m58 c) = vif v (c60 T n Q t (setGue c zeroG)) (c60 T n Q t c) := by
  kernel_rfl
end
section
variable (F : Fs) (h : DsOk F) (T : List (Ct Tryz.prog)) (n : Nat) {x0 : Cra × Int × ByteArray} {y0 : Cra × HeD} {hY : ∀ w, GW w → Calls Tryz.prog 18 ((then' cCra (then' cI (lone' cS))).enc x0).toArray w fun e w' => e = .returned ((two' cCra cHeD).enc y0) ∧ Below w.heap.size w w'}
def toldD (c : Cra) (m : Tup 3) : ByteArray := (F.wrap (F.write (telT c (F.counts (q4T c.2.2.2.2.2.2.2.1, m)))).1).1
set_option maxRecDepth 100000 in
theorem ds_11 (hT : T = dsU F h x0 y0 hY) (t : Int) (d : Nat → Value) (c : Cra) (Post : Value → Prop) :
    swpO Tryz.prog T (fun _ => []) n (dsO T) (dsN Tryz.prog 24) (retQ Tryz.prog (fnOf Tryz.prog 8) (fun v _ => Post v)) (f60 t d) (m58 c) =
      vif (decide (c.2.2.2.1.1 = 0)) (PJ (two' cCra cS) Post (setTick c t, toldD F (setTick c t) (F.dip false c.2.2.2.2.2.2.1).1)) (PJ (two' cCra cS) Post (setTick c t, toldD F (setTick c t) zero3)) := by
  subst hT
  kernel_rfl
/-- Stage 0, to the frames. -/
def c5 (Q : VQ) (x : Cra × Int × ByteArray) (y : Cra × HeD) : Prop := (then' cCra (then' cI (lone' cS))).enc x = (then' cCra (then' cI (lone' cS))).enc x ∧ cutP fun d => swpO Tryz.prog T (fun _ => []) n (dsO T) (dsN Tryz.prog 5) Q (f5 x.2.1 x.1.2.1 x.1.1 d) (m5 y.1 y.2)
set_option maxRecDepth 100000 in
theorem ds_0 (hT : T = dsU F h x0 y0 hY) (Post : Value → Prop) :
    swpO Tryz.prog T (fun _ => []) n (dsO T) (bodyOf Tryz.prog 8) (retQ Tryz.prog (fnOf Tryz.prog 8) (fun v _ => Post v)) ((then' cCra (then' cI (lone' cS))).enc x0 ++ List.replicate ((fnOf Tryz.prog 8).ntmps - ((then' cCra (then' cI (lone' cS))).enc x0).length) undef) [] =
      vif (!F.right x0.2.1) (PJ (two' cCra cS) Post (x0.1, noBytes)) (vif x0.1.1 (vif (decide (x0.2.1 ≤ x0.1.2.1)) (PJ (two' cCra cS) Post (x0.1, noBytes)) (c5 T n (retQ Tryz.prog (fnOf Tryz.prog 8) (fun v _ => Post v)) x0 y0)) (c5 T n (retQ Tryz.prog (fnOf Tryz.prog 8) (fun v _ => Post v)) x0 y0)) := by
  subst hT
  kernel_rfl
end
end Go.Proofs.YtoadcnhcfodkgaaGreatDoor
