/-
  Telem: which may be told, the code and the document, by the symbolic run, for the seat YtoadcnhcfodkgaaGreatDoor.
-/
import Derived.Test.YtoadcnhcfodkgaaGreatDoorAxP
import Derived.Test.YtoadcnhcfodkgaaGreatDoorTlLeaf
namespace Go.Proofs.YtoadcnhcfodkgaaGreatDoor
open Go.RowKit

def txT (T : Tl) : Tup 13 := (T.t, T.m, T.fa, T.ak, T.er, T.rj, T.q0, T.q1, T.q2, T.q3, T.d0, T.d1, T.d2, ())
def txO (x : Tup 13) : Tl := ⟨x.1, x.2.1, x.2.2.1, x.2.2.2.1, x.2.2.2.2.1, x.2.2.2.2.2.1, x.2.2.2.2.2.2.1, x.2.2.2.2.2.2.2.1, x.2.2.2.2.2.2.2.2.1, x.2.2.2.2.2.2.2.2.2.1, x.2.2.2.2.2.2.2.2.2.2.1, x.2.2.2.2.2.2.2.2.2.2.2.1, x.2.2.2.2.2.2.2.2.2.2.2.2.1⟩
def txW : Ct Tryz.prog := pureCt Tryz.prog 254 (then' cI (then' cI (lone' cI))) (fun x => inR x.1 x.2.1 x.2.2) cB (go_of Tryz.func254 (by kernel_rfl) (by kernel_rfl)) (fun x w _ => (within_any x.1 x.2.1 x.2.2 w).mono (by rintro e w' ⟨rfl, rfl⟩; exact ⟨rfl, Below.refl _ _⟩))
def txI : Ct Tryz.prog := pureCt Tryz.prog 196 (then' cI (then' cI (lone' cI))) (fun x => inR x.1 x.2.1 x.2.2) cB (go_of Tryz.func196 (by kernel_rfl) (by kernel_rfl)) (fun x w _ => (rin_any x.1 x.2.1 x.2.2 w).mono (by rintro e w' ⟨rfl, rfl⟩; exact ⟨rfl, Below.refl _ _⟩))
def txR : Ct Tryz.prog := pureCt Tryz.prog 9 (lone' cI) cRight cB (go_of Tryz.func9 (by kernel_rfl) (by kernel_rfl)) (fun x w _ => cRight_any x w)
def txD : Ct Tryz.prog := pureCt Tryz.prog 17 (lone' cI) cRight cB (go_of Tryz.func17 (by kernel_rfl) (by kernel_rfl)) (fun x w _ => dRight_any x w)
theorem tx_code : ∀ b0 b1 b2 b3 b4 b5 b6 b7 b8 b9 b10 b11 b12 : Bool, (if !b6 then false else (if !b7 then false else (if !b8 then false else (if !b9 then false else (if !b10 then false else (if !b11 then false else (if !b12 then false else (if b0 then (if b1 then (if b2 then (if b3 then (if b4 then b5 else false) else false) else false) else false) else false)))))))) = (b0 && b1 && b2 && b3 && b4 && b5 && b6 && b7 && b8 && b9 && b10 && b11 && b12) := by decide +kernel
theorem tx_doc : ∀ b0 b1 b2 b3 b4 b5 b6 b7 b8 b9 b10 b11 b12 : Bool, (if b0 then (if b1 then (if b2 then (if b3 then (if b4 then (if b5 then (if b6 then (if b7 then (if b8 then (if b9 then (if b10 then (if b11 then b12 else false) else false) else false) else false) else false) else false) else false) else false) else false) else false) else false) else false) = (b0 && b1 && b2 && b3 && b4 && b5 && b6 && b7 && b8 && b9 && b10 && b11 && b12) := by decide +kernel
theorem tx_c (T : Tl) (K : Bool → Prop) : (vif (!inR T.q0 (-32768) 32767) (K false) (vif (!inR T.q1 (-32768) 32767) (K false) (vif (!inR T.q2 (-32768) 32767) (K false) (vif (!inR T.q3 (-32768) 32767) (K false) (vif (!inR T.d0 (-32768) 32767) (K false) (vif (!inR T.d1 (-32768) 32767) (K false) (vif (!inR T.d2 (-32768) 32767) (K false) (vif (cRight T.t) (vif (inR T.m 0 3) (vif (inR T.fa 0 15) (vif (inR T.ak 0 255) (vif (inR T.er 0 255) (K (inR T.rj 0 65535)) (K false)) (K false)) (K false)) (K false)) (K false))))))))) = K (tlOk T) := by
  simp only [vif_b, tx_code]
  rfl
theorem tx_d (T : Tl) (K : Bool → Prop) : (vif (cRight T.t) (vif (inR T.m 0 3) (vif (inR T.fa 0 15) (vif (inR T.ak 0 255) (vif (inR T.er 0 255) (vif (inR T.rj 0 65535) (vif (inR T.q0 (-32768) 32767) (vif (inR T.q1 (-32768) 32767) (vif (inR T.q2 (-32768) 32767) (vif (inR T.q3 (-32768) 32767) (vif (inR T.d0 (-32768) 32767) (vif (inR T.d1 (-32768) 32767) (K (inR T.d2 (-32768) 32767)) (K false)) (K false)) (K false)) (K false)) (K false)) (K false)) (K false)) (K false)) (K false)) (K false)) (K false)) (K false)) = K (tlOk T) := by
  simp only [vif_b, tx_doc]
  rfl
set_option maxRecDepth 100000 in
theorem mayTell_fx : PureOk Tryz.prog 170 (lone' (cT 13)) (fun x => tlOk (txO x)) cB := pure_sx (tbl := [txW, txR]) (dirty := fun _ => []) (n := 6) xmixA Tryz.func170 rfl (fun x Post => by
  rw [← tx_c (txO x) (PJ cB Post)]
  kernel_rfl)
set_option maxRecDepth 100000 in
theorem rtRightO_fx : PureOk Tryz.prog 108 (lone' (cT 13)) (fun x => tlOk (txO x)) cB := pure_sx (tbl := [txI, txD]) (dirty := fun _ => []) (n := 6) xmixA Tryz.func108 rfl (fun x Post => by
  rw [← tx_d (txO x) (PJ cB Post)]
  kernel_rfl)
theorem mayTellG (T : Tl) (w : World) (hg : GW w) : Calls Tryz.prog 170 #[.agg #[.int .i64 T.t, .int .i64 T.m, .int .i64 T.fa, .int .i64 T.ak, .int .i64 T.er, .int .i64 T.rj, .int .i64 T.q0, .int .i64 T.q1, .int .i64 T.q2, .int .i64 T.q3, .int .i64 T.d0, .int .i64 T.d1, .int .i64 T.d2]] w fun e w' => e = .returned (.bool (tlOk T)) ∧ Below w.heap.size w w' := mayTell_fx (txT T) w hg
theorem rtRightG (T : Tl) (w : World) (hg : GW w) : Calls Tryz.prog 108 #[.agg #[.int .i64 T.t, .int .i64 T.m, .int .i64 T.fa, .int .i64 T.ak, .int .i64 T.er, .int .i64 T.rj, .int .i64 T.q0, .int .i64 T.q1, .int .i64 T.q2, .int .i64 T.q3, .int .i64 T.d0, .int .i64 T.d1, .int .i64 T.d2]] w fun e w' => e = .returned (.bool (tlOk T)) ∧ Below w.heap.size w w' := rtRightO_fx (txT T) w hg
end Go.Proofs.YtoadcnhcfodkgaaGreatDoor
