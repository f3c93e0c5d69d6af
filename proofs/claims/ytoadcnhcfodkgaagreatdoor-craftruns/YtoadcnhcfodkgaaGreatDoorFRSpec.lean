/-
  What package alidaderef14's functions answer, as plain steps, for the seat YtoadcnhcfodkgaaGreatDoor. No Go text in sight. (Made by mkref14.py.)
-/
import Derived.Test.YtoadcnhcfodkgaaGreatDoorXSpec
import Derived.Test.YtoadcnhcfodkgaaGreatDoorFRSix
namespace Go.Proofs.YtoadcnhcfodkgaaGreatDoor
open Go.RowKit

abbrev V6 := Int × Int × Int × Int × Int × Int
def ffirstP (r : Nat → Int) : V3 := ((r 0), (r 1), (r 2))
def flastP (r : Nat → Int) : V3 := ((r 3), (r 4), (r 5))
def fpairP (p : V3) (q : V3) : V6 := (p.1, p.2.1, p.2.2, q.1, q.2.1, q.2.2)
def fSpreadS (bad : Bool) (g : Nat → Int) : (Int) × Bool := let r1 := addS bad (g 7) (g 14); let r2 := addS r1.2 r1.1 (g 21); (r2.1, r2.2)
def fmeanS_l0s (x : Nat → Int) (i : Nat) (k : Nat) (s0 : Int × Bool) : Int × Bool := let p1 := addS s0.2 s0.1 (x ((k + 1 : Nat) * 6 + i)); (p1.1, p1.2)
def fmeanS_l0 (x : Nat → Int) (i : Nat) (z : Int × Bool) : Nat → Int × Bool
  | 0 => z
  | k + 1 => fmeanS_l0s x i k (fmeanS_l0 x i z k)
theorem fmeanS_l0_succ (x : Nat → Int) (i : Nat) (z : Int × Bool) (k : Nat) : fmeanS_l0 x i z (k + 1) = fmeanS_l0s x i k (fmeanS_l0 x i z k) := rfl
def fmeanS (bad : Bool) (x : Nat → Int) (i : Nat) : (Int) × Bool := let r1 := addS bad 0 (x i); let r2 := addS r1.2 r1.1 (x i); let r4 := fmeanS_l0 x i (r2.1, r2.2) 12; let r5 := partS r4.2 r4.1 1 14; (r5.1, r5.2)
def fproductsS_l0s (x : Nat → Int) (i : Nat) (y : Nat → Int) (j : Nat) (k : Nat) (s0 : (Nat → Int) × Bool) : (Nat → Int) × Bool := let p1 := mulS s0.2 (x (k * 6 + i)) (y (k * 6 + j)); ((updF s0.1 (k * 6) p1.1), p1.2)
def fproductsS_l0 (x : Nat → Int) (i : Nat) (y : Nat → Int) (j : Nat) (z : (Nat → Int) × Bool) : Nat → (Nat → Int) × Bool
  | 0 => z
  | k + 1 => fproductsS_l0s x i y j k (fproductsS_l0 x i y j z k)
theorem fproductsS_l0_succ (x : Nat → Int) (i : Nat) (y : Nat → Int) (j : Nat) (z : (Nat → Int) × Bool) (k : Nat) : fproductsS_l0 x i y j z (k + 1) = fproductsS_l0s x i y j k (fproductsS_l0 x i y j z k) := rfl
def fproductsS (bad : Bool) (x : Nat → Int) (i : Nat) (y : Nat → Int) (j : Nat) : (Int) × Bool := let r3 := fproductsS_l0 x i y j ((fun _ => 0), bad) 13; let r4 := fmeanS r3.2 r3.1 0; (r4.1, r4.2)
def flessS_l1s (m : Nat → Int) (k : Nat) (i : Nat) (s1 : (Nat → Int) × Bool) : (Nat → Int) × Bool := let p1 := subS s1.2 (s1.1 (k * 6 + i)) (m i); ((updF s1.1 (k * 6 + i) p1.1), p1.2)
def flessS_l1 (m : Nat → Int) (k : Nat) (z : (Nat → Int) × Bool) : Nat → (Nat → Int) × Bool
  | 0 => z
  | i + 1 => flessS_l1s m k i (flessS_l1 m k z i)
theorem flessS_l1_succ (m : Nat → Int) (k : Nat) (z : (Nat → Int) × Bool) (i : Nat) : flessS_l1 m k z (i + 1) = flessS_l1s m k i (flessS_l1 m k z i) := rfl
def flessS_l0s (m : Nat → Int) (k : Nat) (s0 : (Nat → Int) × Bool) : (Nat → Int) × Bool := let p1 := flessS_l1 m k (s0.1, s0.2) 6; (p1.1, p1.2)
def flessS_l0 (m : Nat → Int) (z : (Nat → Int) × Bool) : Nat → (Nat → Int) × Bool
  | 0 => z
  | k + 1 => flessS_l0s m k (flessS_l0 m z k)
theorem flessS_l0_succ (m : Nat → Int) (z : (Nat → Int) × Bool) (k : Nat) : flessS_l0 m z (k + 1) = flessS_l0s m k (flessS_l0 m z k) := rfl
def flessS (bad : Bool) (x : Nat → Int) (m : Nat → Int) : (Nat → Int) × Bool := let r1 := flessS_l0 m (x, bad) 13; (r1.1, r1.2)
def fPointsS_l1s (r1 : (Nat → Int) × Bool) (r3 : (Int) × Bool) (k : Nat) (i : Nat) (s1 : (Nat → Int) × Bool) : (Nat → Int) × Bool := let p1 := mulS s1.2 r3.1 (r1.1 (i * 6 + k)); ((updF (updF s1.1 ((1 + k) * 6 + i) p1.1) ((7 + k) * 6 + i) (-p1.1)), p1.2)
def fPointsS_l1 (r1 : (Nat → Int) × Bool) (r3 : (Int) × Bool) (k : Nat) (z : (Nat → Int) × Bool) : Nat → (Nat → Int) × Bool
  | 0 => z
  | i + 1 => fPointsS_l1s r1 r3 k i (fPointsS_l1 r1 r3 k z i)
theorem fPointsS_l1_succ (r1 : (Nat → Int) × Bool) (r3 : (Int) × Bool) (k : Nat) (z : (Nat → Int) × Bool) (i : Nat) : fPointsS_l1 r1 r3 k z (i + 1) = fPointsS_l1s r1 r3 k i (fPointsS_l1 r1 r3 k z i) := rfl
def fPointsS_l0s (r1 : (Nat → Int) × Bool) (r3 : (Int) × Bool) (k : Nat) (s0 : (Nat → Int) × Bool) : (Nat → Int) × Bool := let p1 := fPointsS_l1 r1 r3 k (s0.1, s0.2) 6; (p1.1, p1.2)
def fPointsS_l0 (r1 : (Nat → Int) × Bool) (r3 : (Int) × Bool) (z : (Nat → Int) × Bool) : Nat → (Nat → Int) × Bool
  | 0 => z
  | k + 1 => fPointsS_l0s r1 r3 k (fPointsS_l0 r1 r3 z k)
theorem fPointsS_l0_succ (r1 : (Nat → Int) × Bool) (r3 : (Int) × Bool) (z : (Nat → Int) × Bool) (k : Nat) : fPointsS_l0 r1 r3 z (k + 1) = fPointsS_l0s r1 r3 k (fPointsS_l0 r1 r3 z k) := rfl
def fPointsS (bad : Bool) (g : Nat → Int) : (Nat → Int) × Bool := let r1 := zRoot6 bad (fun x_ => g (7 + x_)); let r3 := sqrtS r1.2 7696581394432; let r5 := fPointsS_l0 r1 r3 ((fun _ => 0), r3.2) 6; if r5.2 then ((fun _ => 0), r5.2) else (r5.1, r5.2)
def fattitudeS (bad : Bool) (g : Nat → Int) (r : Nat → Int) : (V4) × Bool := let r1 := ffirstP r; let r2 := qFromRodS bad r1; let r3 := qMulS r2.2 r2.1 ((g 0), (g 1), (g 2), (g 3)); (r3.1, r3.2)
def fMoveinS_l5s (g : Nat → Int) (v : V3) (ms : Int) (r1 : (Nat → Int) × Bool) (k : Nat) (s5 : (Nat → Int) × Bool) : (Nat → Int) × Bool := let p1 := vSubS s5.2 v ((g 4), (g 5), (g 6)); let p2 := flastP (fun x_ => r1.1 (k * 6 + x_)); let p3 := vSubS p1.2 p1.1 p2; let p4 := partS p3.2 p3.1.1 ms 1000; let p5 := partS p4.2 p3.1.2.1 ms 1000; let p6 := partS p5.2 p3.1.2.2 ms 1000; let p7 := qFromRodS p6.2 (p4.1, p5.1, p6.1); let p8 := fattitudeS p7.2 g (fun x_ => r1.1 (k * 6 + x_)); let p9 := qMulS p8.2 p7.1 p8.1; ((updF (updF (updF (updF s5.1 (k * 4) p9.1.1) (k * 4 + 1) p9.1.2.1) (k * 4 + 2) p9.1.2.2.1) (k * 4 + 3) p9.1.2.2.2), p9.2)
def fMoveinS_l5 (g : Nat → Int) (v : V3) (ms : Int) (r1 : (Nat → Int) × Bool) (z : (Nat → Int) × Bool) : Nat → (Nat → Int) × Bool
  | 0 => z
  | k + 1 => fMoveinS_l5s g v ms r1 k (fMoveinS_l5 g v ms r1 z k)
theorem fMoveinS_l5_succ (g : Nat → Int) (v : V3) (ms : Int) (r1 : (Nat → Int) × Bool) (z : (Nat → Int) × Bool) (k : Nat) : fMoveinS_l5 g v ms r1 z (k + 1) = fMoveinS_l5s g v ms r1 k (fMoveinS_l5 g v ms r1 z k) := rfl
def fMoveinS_l4s (r4 : (Nat → Int) × Bool) (r5 : (V4) × Bool) (k : Nat) (s4 : (Nat → Int) × Bool) : (Nat → Int) × Bool := let p1 := qBackS r5.1; let p2 := qMulS s4.2 ((r4.1 (k * 4)), (r4.1 (k * 4 + 1)), (r4.1 (k * 4 + 2)), (r4.1 (k * 4 + 3))) p1; let p3 := qToRodS p2.2 p2.1; ((updF (updF (updF s4.1 (k * 6) p3.1.1) (k * 6 + 1) p3.1.2.1) (k * 6 + 2) p3.1.2.2), p3.2)
def fMoveinS_l4 (r4 : (Nat → Int) × Bool) (r5 : (V4) × Bool) (z : (Nat → Int) × Bool) : Nat → (Nat → Int) × Bool
  | 0 => z
  | k + 1 => fMoveinS_l4s r4 r5 k (fMoveinS_l4 r4 r5 z k)
theorem fMoveinS_l4_succ (r4 : (Nat → Int) × Bool) (r5 : (V4) × Bool) (z : (Nat → Int) × Bool) (k : Nat) : fMoveinS_l4 r4 r5 z (k + 1) = fMoveinS_l4s r4 r5 k (fMoveinS_l4 r4 r5 z k) := rfl
def fMoveinS_l3s (r6 : (Nat → Int) × Bool) (i : Nat) (s3 : (Nat → Int) × Bool) : (Nat → Int) × Bool := let p1 := fmeanS s3.2 r6.1 i; ((updF s3.1 i p1.1), p1.2)
def fMoveinS_l3 (r6 : (Nat → Int) × Bool) (z : (Nat → Int) × Bool) : Nat → (Nat → Int) × Bool
  | 0 => z
  | i + 1 => fMoveinS_l3s r6 i (fMoveinS_l3 r6 z i)
theorem fMoveinS_l3_succ (r6 : (Nat → Int) × Bool) (z : (Nat → Int) × Bool) (i : Nat) : fMoveinS_l3 r6 z (i + 1) = fMoveinS_l3s r6 i (fMoveinS_l3 r6 z i) := rfl
def fMoveinS_l2s (r9 : (Nat → Int) × Bool) (i : Nat) (j : Nat) (s2 : (Nat → Int) × Bool) : (Nat → Int) × Bool := let p1 := fproductsS s2.2 r9.1 i r9.1 j; ((updF s2.1 (7 + i * 6 + j) p1.1), p1.2)
def fMoveinS_l2 (r9 : (Nat → Int) × Bool) (i : Nat) (z : (Nat → Int) × Bool) : Nat → (Nat → Int) × Bool
  | 0 => z
  | j + 1 => fMoveinS_l2s r9 i j (fMoveinS_l2 r9 i z j)
theorem fMoveinS_l2_succ (r9 : (Nat → Int) × Bool) (i : Nat) (z : (Nat → Int) × Bool) (j : Nat) : fMoveinS_l2 r9 i z (j + 1) = fMoveinS_l2s r9 i j (fMoveinS_l2 r9 i z j) := rfl
def fMoveinS_l1s (r9 : (Nat → Int) × Bool) (i : Nat) (s1 : (Nat → Int) × Bool) : (Nat → Int) × Bool := let p1 := fMoveinS_l2 r9 i (s1.1, s1.2) 6; (p1.1, p1.2)
def fMoveinS_l1 (r9 : (Nat → Int) × Bool) (z : (Nat → Int) × Bool) : Nat → (Nat → Int) × Bool
  | 0 => z
  | i + 1 => fMoveinS_l1s r9 i (fMoveinS_l1 r9 z i)
theorem fMoveinS_l1_succ (r9 : (Nat → Int) × Bool) (z : (Nat → Int) × Bool) (i : Nat) : fMoveinS_l1 r9 z (i + 1) = fMoveinS_l1s r9 i (fMoveinS_l1 r9 z i) := rfl
def fMoveinS_l0s (ms : Int) (i : Nat) (s0 : (Nat → Int) × Bool) : (Nat → Int) × Bool := let p1 := partS s0.2 65536 ms 1000; let p2 := addS p1.2 (s0.1 (7 + i * 6 + i)) p1.1; let p3 := partS p2.2 1024 ms 1000; let p4 := addS p3.2 ((updF s0.1 (7 + i * 6 + i) p2.1) (7 + (i + 3) * 6 + (i + 3))) p3.1; ((updF (updF s0.1 (7 + i * 6 + i) p2.1) (7 + (i + 3) * 6 + (i + 3)) p4.1), p4.2)
def fMoveinS_l0 (ms : Int) (z : (Nat → Int) × Bool) : Nat → (Nat → Int) × Bool
  | 0 => z
  | i + 1 => fMoveinS_l0s ms i (fMoveinS_l0 ms z i)
theorem fMoveinS_l0_succ (ms : Int) (z : (Nat → Int) × Bool) (i : Nat) : fMoveinS_l0 ms z (i + 1) = fMoveinS_l0s ms i (fMoveinS_l0 ms z i) := rfl
def fMoveinS (bad : Bool) (g : Nat → Int) (v : V3) (ms : Int) : (Nat → Int) × Bool := let r1 := fPointsS bad g; let r4 := fMoveinS_l5 g v ms r1 ((fun _ => 0), r1.2) 13; let r5 := qUnitS r4.2 ((r4.1 0), (r4.1 1), (r4.1 2), (r4.1 3)); let r6 := fMoveinS_l4 r4 r5 (r1.1, r5.2) 13; let r8 := fMoveinS_l3 r6 ((fun _ => 0), r6.2) 6; let r9 := flessS r8.2 r6.1 r8.1; let r12 := fMoveinS_l1 r9 ((fun _ => 0), r9.2) 6; let r13 := fMoveinS_l0 ms (r12.1, r12.2) 3; let r14 := ffirstP r8.1; let r15 := qFromRodS r13.2 r14; let r16 := qMulS r15.2 r15.1 r5.1; let r17 := qUnitS r16.2 r16.1; let r19 := flastP r8.1; let r20 := vAddS r17.2 ((g 4), (g 5), (g 6)) r19; if r20.2 then ((fun _ => 0), r20.2) else ((updF (updF (updF (updF (updF (updF (updF r13.1 0 r17.1.1) 1 r17.1.2.1) 2 r17.1.2.2.1) 3 r17.1.2.2.2) 4 r20.1.1) 5 r20.1.2.1) 6 r20.1.2.2), r20.2)
def fMeetS_l12s (g : Nat → Int) (sky : Nat → Int) (r2 : (V3) × Bool) (r5 : (V3) × Bool) (r8 : (Nat → Int) × Bool) (k : Nat) (s12 : (Nat → Int) × Bool) : (Nat → Int) × Bool := let p1 := fattitudeS s12.2 g (fun x_ => r8.1 (k * 6 + x_)); let p2 := qTurnS p1.2 p1.1 (((updF (updF (updF (updF (updF (updF sky 0 r2.1.1) 1 r2.1.2.1) 2 r2.1.2.2) 3 r5.1.1) 4 r5.1.2.1) 5 r5.1.2.2) 0), ((updF (updF (updF (updF (updF (updF sky 0 r2.1.1) 1 r2.1.2.1) 2 r2.1.2.2) 3 r5.1.1) 4 r5.1.2.1) 5 r5.1.2.2) 1), ((updF (updF (updF (updF (updF (updF sky 0 r2.1.1) 1 r2.1.2.1) 2 r2.1.2.2) 3 r5.1.1) 4 r5.1.2.1) 5 r5.1.2.2) 2)); let p3 := qTurnS p2.2 p1.1 (((updF (updF (updF (updF (updF (updF sky 0 r2.1.1) 1 r2.1.2.1) 2 r2.1.2.2) 3 r5.1.1) 4 r5.1.2.1) 5 r5.1.2.2) 3), ((updF (updF (updF (updF (updF (updF sky 0 r2.1.1) 1 r2.1.2.1) 2 r2.1.2.2) 3 r5.1.1) 4 r5.1.2.1) 5 r5.1.2.2) 4), ((updF (updF (updF (updF (updF (updF sky 0 r2.1.1) 1 r2.1.2.1) 2 r2.1.2.2) 3 r5.1.1) 4 r5.1.2.1) 5 r5.1.2.2) 5)); let p4 := fpairP p2.1 p3.1; ((updF (updF (updF (updF (updF (updF s12.1 (k * 6) p4.1) (k * 6 + 1) p4.2.1) (k * 6 + 2) p4.2.2.1) (k * 6 + 3) p4.2.2.2.1) (k * 6 + 4) p4.2.2.2.2.1) (k * 6 + 5) p4.2.2.2.2.2), p3.2)
def fMeetS_l12 (g : Nat → Int) (sky : Nat → Int) (r2 : (V3) × Bool) (r5 : (V3) × Bool) (r8 : (Nat → Int) × Bool) (z : (Nat → Int) × Bool) : Nat → (Nat → Int) × Bool
  | 0 => z
  | k + 1 => fMeetS_l12s g sky r2 r5 r8 k (fMeetS_l12 g sky r2 r5 r8 z k)
theorem fMeetS_l12_succ (g : Nat → Int) (sky : Nat → Int) (r2 : (V3) × Bool) (r5 : (V3) × Bool) (r8 : (Nat → Int) × Bool) (z : (Nat → Int) × Bool) (k : Nat) : fMeetS_l12 g sky r2 r5 r8 z (k + 1) = fMeetS_l12s g sky r2 r5 r8 k (fMeetS_l12 g sky r2 r5 r8 z k) := rfl
def fMeetS_l11s (r11 : (Nat → Int) × Bool) (i : Nat) (s11 : (Nat → Int) × Bool) : (Nat → Int) × Bool := let p1 := fmeanS s11.2 r11.1 i; ((updF s11.1 i p1.1), p1.2)
def fMeetS_l11 (r11 : (Nat → Int) × Bool) (z : (Nat → Int) × Bool) : Nat → (Nat → Int) × Bool
  | 0 => z
  | i + 1 => fMeetS_l11s r11 i (fMeetS_l11 r11 z i)
theorem fMeetS_l11_succ (r11 : (Nat → Int) × Bool) (z : (Nat → Int) × Bool) (i : Nat) : fMeetS_l11 r11 z (i + 1) = fMeetS_l11s r11 i (fMeetS_l11 r11 z i) := rfl
def fMeetS_l10s (r8 : (Nat → Int) × Bool) (r14 : (Nat → Int) × Bool) (i : Nat) (j : Nat) (s10 : (Nat → Int) × (Nat → Int) × Bool) : (Nat → Int) × (Nat → Int) × Bool := let p1 := fproductsS s10.2.2 r14.1 i r14.1 j; let p2 := fproductsS p1.2 r8.1 i r14.1 j; ((updF s10.1 (i * 6 + j) p1.1), (updF s10.2.1 (i * 6 + j) p2.1), p2.2)
def fMeetS_l10 (r8 : (Nat → Int) × Bool) (r14 : (Nat → Int) × Bool) (i : Nat) (z : (Nat → Int) × (Nat → Int) × Bool) : Nat → (Nat → Int) × (Nat → Int) × Bool
  | 0 => z
  | j + 1 => fMeetS_l10s r8 r14 i j (fMeetS_l10 r8 r14 i z j)
theorem fMeetS_l10_succ (r8 : (Nat → Int) × Bool) (r14 : (Nat → Int) × Bool) (i : Nat) (z : (Nat → Int) × (Nat → Int) × Bool) (j : Nat) : fMeetS_l10 r8 r14 i z (j + 1) = fMeetS_l10s r8 r14 i j (fMeetS_l10 r8 r14 i z j) := rfl
def fMeetS_l9s (r8 : (Nat → Int) × Bool) (r14 : (Nat → Int) × Bool) (i : Nat) (s9 : (Nat → Int) × (Nat → Int) × Bool) : (Nat → Int) × (Nat → Int) × Bool := let p1 := fMeetS_l10 r8 r14 i (s9.1, s9.2.1, s9.2.2) 6; (p1.1, p1.2.1, p1.2.2)
def fMeetS_l9 (r8 : (Nat → Int) × Bool) (r14 : (Nat → Int) × Bool) (z : (Nat → Int) × (Nat → Int) × Bool) : Nat → (Nat → Int) × (Nat → Int) × Bool
  | 0 => z
  | i + 1 => fMeetS_l9s r8 r14 i (fMeetS_l9 r8 r14 z i)
theorem fMeetS_l9_succ (r8 : (Nat → Int) × Bool) (r14 : (Nat → Int) × Bool) (z : (Nat → Int) × (Nat → Int) × Bool) (i : Nat) : fMeetS_l9 r8 r14 z (i + 1) = fMeetS_l9s r8 r14 i (fMeetS_l9 r8 r14 z i) := rfl
def fMeetS_l8s  (i : Nat) (s8 : (Nat → Int) × Bool) : (Nat → Int) × Bool := let p1 := addS s8.2 (s8.1 (i * 6 + i)) 67108864; let p2 := addS p1.2 ((updF s8.1 (i * 6 + i) p1.1) ((i + 3) * 6 + (i + 3))) 268435456; ((updF (updF s8.1 (i * 6 + i) p1.1) ((i + 3) * 6 + (i + 3)) p2.1), p2.2)
def fMeetS_l8  (z : (Nat → Int) × Bool) : Nat → (Nat → Int) × Bool
  | 0 => z
  | i + 1 => fMeetS_l8s  i (fMeetS_l8 z i)
theorem fMeetS_l8_succ  (z : (Nat → Int) × Bool) (i : Nat) : fMeetS_l8 z (i + 1) = fMeetS_l8s  i (fMeetS_l8 z i) := rfl
def fMeetS_l7s (r13 : (Nat → Int) × Bool) (i : Nat) (s7 : (Nat → Int) × Bool) : (Nat → Int) × Bool := let p1 := subS s7.2 (s7.1 i) (r13.1 i); ((updF s7.1 i p1.1), p1.2)
def fMeetS_l7 (r13 : (Nat → Int) × Bool) (z : (Nat → Int) × Bool) : Nat → (Nat → Int) × Bool
  | 0 => z
  | i + 1 => fMeetS_l7s r13 i (fMeetS_l7 r13 z i)
theorem fMeetS_l7_succ (r13 : (Nat → Int) × Bool) (z : (Nat → Int) × Bool) (i : Nat) : fMeetS_l7 r13 z (i + 1) = fMeetS_l7s r13 i (fMeetS_l7 r13 z i) := rfl
def fMeetS_l6s (r25 : (Nat → Int) × Bool) (r28 : (Nat → Int) × Bool) (i : Nat) (s6 : Int × Bool) : Int × Bool := let p1 := mulS s6.2 (r25.1 i) (r28.1 i); let p2 := addS p1.2 s6.1 p1.1; (p2.1, p2.2)
def fMeetS_l6 (r25 : (Nat → Int) × Bool) (r28 : (Nat → Int) × Bool) (z : Int × Bool) : Nat → Int × Bool
  | 0 => z
  | i + 1 => fMeetS_l6s r25 r28 i (fMeetS_l6 r25 r28 z i)
theorem fMeetS_l6_succ (r25 : (Nat → Int) × Bool) (r28 : (Nat → Int) × Bool) (z : Int × Bool) (i : Nat) : fMeetS_l6 r25 r28 z (i + 1) = fMeetS_l6s r25 r28 i (fMeetS_l6 r25 r28 z i) := rfl
def fMeetS_l5s (r18 : (Nat → Int) × (Nat → Int) × Bool) (r26 : (Nat → Int) × Bool) (i : Nat) (s5 : (Nat → Int) × Bool) : (Nat → Int) × Bool := let p1 := zSolve6 s5.2 r26.1 (fun x_ => r18.2.1 (i * 6 + x_)); ((updF (updF (updF (updF (updF (updF s5.1 (i * 6) (p1.1 0)) (i * 6 + 1) (p1.1 1)) (i * 6 + 2) (p1.1 2)) (i * 6 + 3) (p1.1 3)) (i * 6 + 4) (p1.1 4)) (i * 6 + 5) (p1.1 5)), p1.2)
def fMeetS_l5 (r18 : (Nat → Int) × (Nat → Int) × Bool) (r26 : (Nat → Int) × Bool) (z : (Nat → Int) × Bool) : Nat → (Nat → Int) × Bool
  | 0 => z
  | i + 1 => fMeetS_l5s r18 r26 i (fMeetS_l5 r18 r26 z i)
theorem fMeetS_l5_succ (r18 : (Nat → Int) × (Nat → Int) × Bool) (r26 : (Nat → Int) × Bool) (z : (Nat → Int) × Bool) (i : Nat) : fMeetS_l5 r18 r26 z (i + 1) = fMeetS_l5s r18 r26 i (fMeetS_l5 r18 r26 z i) := rfl
def fMeetS_l4s (i : Nat) (j : Nat) (r18 : (Nat → Int) × (Nat → Int) × Bool) (r35 : (Nat → Int) × Bool) (c : Nat) (s4 : Int × Bool) : Int × Bool := let p1 := mulS s4.2 (r35.1 (i * 6 + c)) (r18.2.1 (j * 6 + c)); let p2 := addS p1.2 s4.1 p1.1; (p2.1, p2.2)
def fMeetS_l4 (i : Nat) (j : Nat) (r18 : (Nat → Int) × (Nat → Int) × Bool) (r35 : (Nat → Int) × Bool) (z : Int × Bool) : Nat → Int × Bool
  | 0 => z
  | c + 1 => fMeetS_l4s i j r18 r35 c (fMeetS_l4 i j r18 r35 z c)
theorem fMeetS_l4_succ (i : Nat) (j : Nat) (r18 : (Nat → Int) × (Nat → Int) × Bool) (r35 : (Nat → Int) × Bool) (z : Int × Bool) (c : Nat) : fMeetS_l4 i j r18 r35 z (c + 1) = fMeetS_l4s i j r18 r35 c (fMeetS_l4 i j r18 r35 z c) := rfl
def fMeetS_l3s (g : Nat → Int) (i : Nat) (r18 : (Nat → Int) × (Nat → Int) × Bool) (r35 : (Nat → Int) × Bool) (j : Nat) (s3 : (Nat → Int) × Bool) : (Nat → Int) × Bool := let p1 := fMeetS_l4 i j r18 r35 (0, s3.2) 6; let p2 := subS p1.2 (g (7 + i * 6 + j)) p1.1; ((updF s3.1 (i * 6 + j) p2.1), p2.2)
def fMeetS_l3 (g : Nat → Int) (i : Nat) (r18 : (Nat → Int) × (Nat → Int) × Bool) (r35 : (Nat → Int) × Bool) (z : (Nat → Int) × Bool) : Nat → (Nat → Int) × Bool
  | 0 => z
  | j + 1 => fMeetS_l3s g i r18 r35 j (fMeetS_l3 g i r18 r35 z j)
theorem fMeetS_l3_succ (g : Nat → Int) (i : Nat) (r18 : (Nat → Int) × (Nat → Int) × Bool) (r35 : (Nat → Int) × Bool) (z : (Nat → Int) × Bool) (j : Nat) : fMeetS_l3 g i r18 r35 z (j + 1) = fMeetS_l3s g i r18 r35 j (fMeetS_l3 g i r18 r35 z j) := rfl
def fMeetS_l2s (g : Nat → Int) (r18 : (Nat → Int) × (Nat → Int) × Bool) (r35 : (Nat → Int) × Bool) (i : Nat) (s2 : (Nat → Int) × Bool) : (Nat → Int) × Bool := let p1 := fMeetS_l3 g i r18 r35 (s2.1, s2.2) 6; (p1.1, p1.2)
def fMeetS_l2 (g : Nat → Int) (r18 : (Nat → Int) × (Nat → Int) × Bool) (r35 : (Nat → Int) × Bool) (z : (Nat → Int) × Bool) : Nat → (Nat → Int) × Bool
  | 0 => z
  | i + 1 => fMeetS_l2s g r18 r35 i (fMeetS_l2 g r18 r35 z i)
theorem fMeetS_l2_succ (g : Nat → Int) (r18 : (Nat → Int) × (Nat → Int) × Bool) (r35 : (Nat → Int) × Bool) (z : (Nat → Int) × Bool) (i : Nat) : fMeetS_l2 g r18 r35 z (i + 1) = fMeetS_l2s g r18 r35 i (fMeetS_l2 g r18 r35 z i) := rfl
def fMeetS_l1s (i : Nat) (r39 : (Nat → Int) × Bool) (j : Nat) (s1 : (Nat → Int) × Bool) : (Nat → Int) × Bool := let p1 := addS s1.2 (r39.1 (i * 6 + j)) (r39.1 (j * 6 + i)); let p2 := partS p1.2 p1.1 1 2; ((updF s1.1 (7 + i * 6 + j) p2.1), p2.2)
def fMeetS_l1 (i : Nat) (r39 : (Nat → Int) × Bool) (z : (Nat → Int) × Bool) : Nat → (Nat → Int) × Bool
  | 0 => z
  | j + 1 => fMeetS_l1s i r39 j (fMeetS_l1 i r39 z j)
theorem fMeetS_l1_succ (i : Nat) (r39 : (Nat → Int) × Bool) (z : (Nat → Int) × Bool) (j : Nat) : fMeetS_l1 i r39 z (j + 1) = fMeetS_l1s i r39 j (fMeetS_l1 i r39 z j) := rfl
def fMeetS_l0s (r39 : (Nat → Int) × Bool) (i : Nat) (s0 : (Nat → Int) × Bool) : (Nat → Int) × Bool := let p1 := fMeetS_l1 i r39 (s0.1, s0.2) 6; (p1.1, p1.2)
def fMeetS_l0 (r39 : (Nat → Int) × Bool) (z : (Nat → Int) × Bool) : Nat → (Nat → Int) × Bool
  | 0 => z
  | i + 1 => fMeetS_l0s r39 i (fMeetS_l0 r39 z i)
theorem fMeetS_l0_succ (r39 : (Nat → Int) × Bool) (z : (Nat → Int) × Bool) (i : Nat) : fMeetS_l0 r39 z (i + 1) = fMeetS_l0s r39 i (fMeetS_l0 r39 z i) := rfl
def fMeetS (bad : Bool) (g : Nat → Int) (sky : Nat → Int) (body : Nat → Int) : ((Nat → Int) × Int × Bool) × Bool := let r2 := vUnitS bad ((sky 0), (sky 1), (sky 2)); let r3 := vUnitS r2.2 ((body 0), (body 1), (body 2)); let r5 := vUnitS r3.2 (((updF (updF (updF sky 0 r2.1.1) 1 r2.1.2.1) 2 r2.1.2.2) 3), ((updF (updF (updF sky 0 r2.1.1) 1 r2.1.2.1) 2 r2.1.2.2) 4), ((updF (updF (updF sky 0 r2.1.1) 1 r2.1.2.1) 2 r2.1.2.2) 5)); let r6 := vUnitS r5.2 (((updF (updF (updF body 0 r3.1.1) 1 r3.1.2.1) 2 r3.1.2.2) 3), ((updF (updF (updF body 0 r3.1.1) 1 r3.1.2.1) 2 r3.1.2.2) 4), ((updF (updF (updF body 0 r3.1.1) 1 r3.1.2.1) 2 r3.1.2.2) 5)); let r8 := fPointsS r6.2 g; let r11 := fMeetS_l12 g sky r2 r5 r8 ((fun _ => 0), r8.2) 13; let r13 := fMeetS_l11 r11 ((fun _ => 0), r11.2) 6; let r14 := flessS r13.2 r11.1 r13.1; let r18 := fMeetS_l9 r8 r14 ((fun _ => 0), (fun _ => 0), r14.2) 6; let r22 := fMeetS_l8 (r18.1, r18.2.2) 3; let r23 := fpairP (((updF (updF (updF (updF (updF (updF body 0 r3.1.1) 1 r3.1.2.1) 2 r3.1.2.2) 3 r6.1.1) 4 r6.1.2.1) 5 r6.1.2.2) 0), ((updF (updF (updF (updF (updF (updF body 0 r3.1.1) 1 r3.1.2.1) 2 r3.1.2.2) 3 r6.1.1) 4 r6.1.2.1) 5 r6.1.2.2) 1), ((updF (updF (updF (updF (updF (updF body 0 r3.1.1) 1 r3.1.2.1) 2 r3.1.2.2) 3 r6.1.1) 4 r6.1.2.1) 5 r6.1.2.2) 2)) (((updF (updF (updF (updF (updF (updF body 0 r3.1.1) 1 r3.1.2.1) 2 r3.1.2.2) 3 r6.1.1) 4 r6.1.2.1) 5 r6.1.2.2) 3), ((updF (updF (updF (updF (updF (updF body 0 r3.1.1) 1 r3.1.2.1) 2 r3.1.2.2) 3 r6.1.1) 4 r6.1.2.1) 5 r6.1.2.2) 4), ((updF (updF (updF (updF (updF (updF body 0 r3.1.1) 1 r3.1.2.1) 2 r3.1.2.2) 3 r6.1.1) 4 r6.1.2.1) 5 r6.1.2.2) 5)); let r25 := fMeetS_l7 r13 ((fun i_ => if i_ = 0 then r23.1 else if i_ = 1 then r23.2.1 else if i_ = 2 then r23.2.2.1 else if i_ = 3 then r23.2.2.2.1 else if i_ = 4 then r23.2.2.2.2.1 else r23.2.2.2.2.2), r22.2) 6; let r26 := zRoot6 r25.2 r22.1; let r28 := zSolve6 r26.2 r26.1 r25.1; let r32 := fMeetS_l6 r25 r28 (0, r28.2) 6; if r32.2 then (((fun _ => 0), 0, false), r32.2) else if r32.1 > 32985348833280 then ((g, r32.1, false), r32.2) else let r35 := fMeetS_l5 r18 r26 ((fun _ => 0), r32.2) 6; let r36 := zApply6 r35.2 r35.1 r25.1; let r39 := fMeetS_l2 g r18 r35 ((fun _ => 0), r36.2) 6; let r41 := fMeetS_l0 r39 ((fun _ => 0), r39.2) 6; let r42 := ffirstP r36.1; let r43 := qFromRodS r41.2 r42; let r44 := qMulS r43.2 r43.1 ((g 0), (g 1), (g 2), (g 3)); let r45 := qUnitS r44.2 r44.1; let r47 := flastP r36.1; let r48 := vAddS r45.2 ((g 4), (g 5), (g 6)) r47; if r48.2 then (((fun _ => 0), 0, false), r48.2) else (((updF (updF (updF (updF (updF (updF (updF r41.1 0 r45.1.1) 1 r45.1.2.1) 2 r45.1.2.2.1) 3 r45.1.2.2.2) 4 r48.1.1) 5 r48.1.2.1) 6 r48.1.2.2), r32.1, true), r48.2)
end Go.Proofs.YtoadcnhcfodkgaaGreatDoor
