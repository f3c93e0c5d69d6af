/-
A part.
A part.
A part.
A part.
A part.
A part.
A part.
A part.
-/
import Derived.Maps.OwnOps
import Derived.Maps.Views
import Derived.WideKeyPair
import Derived.DeepKeys4
import Derived.Test.YtbophanlmkbfeaaGreatDoorHO15
import Derived.Test.YtbophanlmkbfeaaGreatDoorHO14
import Derived.Test.YtbophanlmkbfeaaGreatDoorHO10
namespace Go.Proofs.YtbophanlmkbfeaaGreatDoor
open Go.RowKit
theorem fPoints_op : ∃ g, FOp Tryz.prog nq 109 [rI 43] (rI 78) unkB g := flow_ax (tbl := [taRoot, tSqrt, tMul]) (dirty := fun _ => []) (n := 8) nq_one xmixA Tryz.func109 rfl (by decide +kernel)
def tfPoints : ACt Tryz.prog nq := rowF false (go_of Tryz.func109 (by kernel_rfl) (by kernel_rfl)) fPoints_op (by decide +kernel)
theorem fmet_op : ∃ g, FOp Tryz.prog nq 128 [rI 43, rI 36, rI 36, rI 6] (rI 43) unkB g := flow_ax (tbl := [taSolve, tfless, taApply, tfturned, tfbiased, tfevened]) (dirty := fun _ => []) (n := 8) nq_one xmixA Tryz.func128 rfl (by decide +kernel)
def tfmet : ACt Tryz.prog nq := rowF false (go_of Tryz.func128 (by kernel_rfl) (by kernel_rfl)) fmet_op (by decide +kernel)
theorem fMove_op : ∃ g, FOp Tryz.prog nq 56 [rI 43, rI 3, uI] (rI 43) unkB g := flow_ax (tbl := [tFail, tfPoints, tfmoved, tqUnit, tfaround, tfmean, tfbeside, tfproducts, tfsound, tfturned, tfbiased, tfraised, tPart]) (dirty := fun _ => []) (n := 8) nq_one xmixA Tryz.func56 rfl (by decide +kernel)
theorem fMeet_op : ∃ g, FOp Tryz.prog nq 57 [rI 43, rI 6, rI 6] (.tuple ⟨[rI 43, uI, unkB]⟩) unkB g := flow_ax (tbl := [tfPoints, tfviewed, tfunits, tfmean, tfbeside, tfraised, tfproducts, tfless, tfjoined, taRoot, taApply, taSolve, tfmet]) (dirty := fun _ => []) (n := 8) nq_one xmixA Tryz.func57 rfl (by decide +kernel)
theorem fSpread_op : ∃ g, FOp Tryz.prog nq 59 [rI 43] (uI) unkB g := flow_ax (tbl := [tAdd]) (dirty := fun _ => []) (n := 8) nq_one xmixA Tryz.func59 rfl (by decide +kernel)
theorem fStart_op : ∃ g, POp Tryz.prog 135 [rI 4] (rI 43) g := pure_ax (nq := nq) (tbl := [tfeither]) (dirty := fun _ => []) (n := 8) xmixA Tryz.func135 rfl (by decide +kernel)
end Go.Proofs.YtbophanlmkbfeaaGreatDoor
namespace Go.Proofs.YtbophanlmkbfeaaGreatDoor
open Go.RowKit
theorem gparted_op : ∃ g, FOp Tryz.prog nq 165 [uI] (.tuple ⟨[uI, uI]⟩) unkB g := flow_ax (tbl := [tMod]) (dirty := fun _ => []) (n := 8) nq_one xmixA Tryz.func165 rfl (by decide +kernel)
def tgparted : ACt Tryz.prog nq := rowF false (go_of Tryz.func165 (by kernel_rfl) (by kernel_rfl)) gparted_op (by decide +kernel)
theorem gsine_op : ∃ g, FOp Tryz.prog nq 167 [uI] (uI) unkB g := flow_ax (tbl := [tMul, tSub, tPart]) (dirty := fun _ => []) (n := 12) nq_one xmixA Tryz.func167 rfl (by decide +kernel)
def tgsine : ACt Tryz.prog nq := rowF false (go_of Tryz.func167 (by kernel_rfl) (by kernel_rfl)) gsine_op (by decide +kernel)
theorem gcosine_op : ∃ g, FOp Tryz.prog nq 166 [uI] (uI) unkB g := flow_ax (tbl := [tMul, tSub, tPart]) (dirty := fun _ => []) (n := 12) nq_one xmixA Tryz.func166 rfl (by decide +kernel)
def tgcosine : ACt Tryz.prog nq := rowF false (go_of Tryz.func166 (by kernel_rfl) (by kernel_rfl)) gcosine_op (by decide +kernel)
theorem gSin_op : ∃ g, FOp Tryz.prog nq 98 [uI] (uI) unkB g := flow_ax (tbl := [tgparted, tgsine, tgcosine]) (dirty := fun _ => []) (n := 8) nq_one xmixA Tryz.func98 rfl (by decide +kernel)
def tgSin : ACt Tryz.prog nq := rowF false (go_of Tryz.func98 (by kernel_rfl) (by kernel_rfl)) gSin_op (by decide +kernel)
theorem gCos_op : ∃ g, FOp Tryz.prog nq 97 [uI] (uI) unkB g := flow_ax (tbl := [tgparted, tgsine, tgcosine]) (dirty := fun _ => []) (n := 8) nq_one xmixA Tryz.func97 rfl (by decide +kernel)
def tgCos : ACt Tryz.prog nq := rowF false (go_of Tryz.func97 (by kernel_rfl) (by kernel_rfl)) gCos_op (by decide +kernel)
theorem kRight_op : ∃ g, POp Tryz.prog 22 [uI] (unkB) g := pure_ax (nq := nq) (tbl := []) (dirty := fun _ => []) (n := 8) xmixA Tryz.func22 rfl (by decide +kernel)
def tkRight : ACt Tryz.prog nq := rowP (go_of Tryz.func22 (by kernel_rfl) (by kernel_rfl)) kRight_op (by decide +kernel)
theorem kDays_op : ∃ g, FOp Tryz.prog nq 92 [uI] (uI) unkB g := flow_ax (tbl := [tkRight, tFail, tPart]) (dirty := fun _ => []) (n := 8) nq_one xmixA Tryz.func92 rfl (by decide +kernel)
def tkDays : ACt Tryz.prog nq := rowF false (go_of Tryz.func92 (by kernel_rfl) (by kernel_rfl)) kDays_op (by decide +kernel)
theorem kTurn_op : ∃ g, FOp Tryz.prog nq 101 [uI] (uI) unkB g := flow_ax (tbl := [tkRight, tFail, tPart, tMul, tkDays, tMod, tAdd]) (dirty := fun _ => []) (n := 8) nq_one xmixA Tryz.func101 rfl (by decide +kernel)
def tkTurn : ACt Tryz.prog nq := rowF false (go_of Tryz.func101 (by kernel_rfl) (by kernel_rfl)) kTurn_op (by decide +kernel)
theorem orightFar_op : ∃ g, POp Tryz.prog 154 [uI, uI] (unkB) g := pure_ax (nq := nq) (tbl := [tMul]) (dirty := fun _ => []) (n := 8) xmixA Tryz.func154 rfl (by decide +kernel)
def torightFar : ACt Tryz.prog nq := rowP (go_of Tryz.func154 (by kernel_rfl) (by kernel_rfl)) orightFar_op (by decide +kernel)
theorem orightAngle_op : ∃ g, POp Tryz.prog 155 [uI] (unkB) g := pure_ax (nq := nq) (tbl := []) (dirty := fun _ => []) (n := 8) xmixA Tryz.func155 rfl (by decide +kernel)
def torightAngle : ACt Tryz.prog nq := rowP (go_of Tryz.func155 (by kernel_rfl) (by kernel_rfl)) orightAngle_op (by decide +kernel)
theorem oRight_op : ∃ g, POp Tryz.prog 89 [rI 7] (unkB) g := pure_ax (nq := nq) (tbl := [torightFar, torightAngle, tkRight]) (dirty := fun _ => []) (n := 8) xmixA Tryz.func89 rfl (by decide +kernel)
def toRight : ACt Tryz.prog nq := rowP (go_of Tryz.func89 (by kernel_rfl) (by kernel_rfl)) oRight_op (by decide +kernel)
theorem oKepler_op : ∃ g, FOp Tryz.prog nq 95 [uI, uI] (uI) unkB g := flow_ax (tbl := [tFail, tSub, tMul, tDiv, tgSin, tgCos]) (dirty := fun _ => []) (n := 8) nq_one xmixA Tryz.func95 rfl (by decide +kernel)
def toKepler : ACt Tryz.prog nq := rowF false (go_of Tryz.func95 (by kernel_rfl) (by kernel_rfl)) oKepler_op (by decide +kernel)
theorem oshapeOf_op : ∃ g, FOp Tryz.prog nq 93 [rI 7] (rI 3) unkB g := flow_ax (tbl := [tSqrt, tSub, tMul, tgSin, tgCos]) (dirty := fun _ => []) (n := 8) nq_one xmixA Tryz.func93 rfl (by decide +kernel)
def toshapeOf : ACt Tryz.prog nq := rowF false (go_of Tryz.func93 (by kernel_rfl) (by kernel_rfl)) oshapeOf_op (by decide +kernel)
theorem odrifted_op : ∃ g, FOp Tryz.prog nq 94 [rI 7, rI 3, uI] (rI 3) unkB g := flow_ax (tbl := [tDiv, tSqrt, tMul, tSub, tPart, tAdd, tMod]) (dirty := fun _ => []) (n := 8) nq_one xmixA Tryz.func94 rfl (by decide +kernel)
def todrifted : ACt Tryz.prog nq := rowF false (go_of Tryz.func94 (by kernel_rfl) (by kernel_rfl)) odrifted_op (by decide +kernel)
theorem oturned_op : ∃ g, FOp Tryz.prog nq 99 [uI, uI, uI] (.tuple ⟨[uI, uI]⟩) unkB g := flow_ax (tbl := [tgSin, tgCos, tSub, tMul, tAdd]) (dirty := fun _ => []) (n := 8) nq_one xmixA Tryz.func99 rfl (by decide +kernel)
def toturned : ACt Tryz.prog nq := rowF false (go_of Tryz.func99 (by kernel_rfl) (by kernel_rfl)) oturned_op (by decide +kernel)
theorem oPlace_op : ∃ g, FOp Tryz.prog nq 49 [rI 7, uI] (rI 3) unkB g := flow_ax (tbl := [toRight, tkRight, tFail, tSub, tkDays, toshapeOf, todrifted, toKepler, tMul, tgCos, tgSin, toturned]) (dirty := fun _ => []) (n := 8) nq_one xmixA Tryz.func49 rfl (by decide +kernel)
theorem salong_op : ∃ g, FOp Tryz.prog nq 100 [uI] (uI) unkB g := flow_ax (tbl := [tAdd, tMul, tSub, tPart, tMod, tDiv, tgSin, tgCos]) (dirty := fun _ => []) (n := 8) nq_one xmixA Tryz.func100 rfl (by decide +kernel)
def tsalong : ACt Tryz.prog nq := rowF false (go_of Tryz.func100 (by kernel_rfl) (by kernel_rfl)) salong_op (by decide +kernel)
theorem sDirection_op : ∃ g, FOp Tryz.prog nq 50 [uI] (rI 3) unkB g := flow_ax (tbl := [tkRight, tFail, tkDays, tsalong, tgSin, tgCos, tMul, tAdd, tSub]) (dirty := fun _ => []) (n := 8) nq_one xmixA Tryz.func50 rfl (by decide +kernel)
theorem sShaded_op : ∃ g, FOp Tryz.prog nq 55 [rI 3, rI 3] (unkB) unkB g := flow_ax (tbl := [tvDot, tvNorm, tvScale, tvSub, tvAdd, tvUnit, tMul, tAdd, tSub]) (dirty := fun _ => []) (n := 8) nq_one xmixA Tryz.func55 rfl (by decide +kernel)
end Go.Proofs.YtbophanlmkbfeaaGreatDoor
namespace Go.Proofs.YtbophanlmkbfeaaGreatDoor
open Go.RowKit
theorem bgoesOn_op : ∃ g, POp Tryz.prog 86 [sDri, uI] (unkB) g := pure_ax (nq := nq) (tbl := []) (dirty := fun _ => []) (n := 8) xmixA Tryz.func86 rfl (by decide +kernel)
def tbgoesOn : ACt Tryz.prog nq := rowP (go_of Tryz.func86 (by kernel_rfl) (by kernel_rfl)) bgoesOn_op (by decide +kernel)
theorem bpart_op : ∃ g, FOp Tryz.prog nq 152 [rI 3, uI, uI] (rI 3) unkB g := flow_ax (tbl := [tPart]) (dirty := fun _ => []) (n := 8) nq_one xmixA Tryz.func152 rfl (by decide +kernel)
def tbpart : ACt Tryz.prog nq := rowF false (go_of Tryz.func152 (by kernel_rfl) (by kernel_rfl)) bpart_op (by decide +kernel)
theorem bleaned_op : ∃ g, FOp Tryz.prog nq 87 [sDri, rI 3, uI] (rI 3) unkB g := flow_ax (tbl := [tvSub, tbpart, tvAdd]) (dirty := fun _ => []) (n := 8) nq_one xmixA Tryz.func87 rfl (by decide +kernel)
def tbleaned : ACt Tryz.prog nq := rowF false (go_of Tryz.func87 (by kernel_rfl) (by kernel_rfl)) bleaned_op (by decide +kernel)
theorem bStep_op : ∃ g, FOp Tryz.prog nq 48 [sDri, rI 3, uI] (sDri) unkB g := flow_ax (tbl := [tbgoesOn, tbleaned, tvAdd]) (dirty := fun _ => []) (n := 8) nq_one xmixA Tryz.func48 rfl (by decide +kernel)
end Go.Proofs.YtbophanlmkbfeaaGreatDoor
namespace Go.Proofs.YtbophanlmkbfeaaGreatDoor
open Go.RowKit
theorem cI_of {τ : Nat → Int} (v : Value) (h : G2 τ uI v) : ∃ y, cI.enc y = v := by
 obtain ⟨x, rfl⟩ := h
 exact ⟨x, rfl⟩
theorem cB_of {τ : Nat → Int} (v : Value) (h : G2 τ unkB v) : ∃ y, cB.enc y = v := by
 obtain ⟨x, rfl⟩ := h
 exact ⟨x, rfl⟩
theorem cDri_g {τ : Nat → Int} (x : Dri) : G2 τ sDri (cDri.enc x) := ⟨cDri.enc x |>.cells.toList, rfl, ⟨x.1, rfl⟩, tEnc_g 7 x.2⟩
theorem cDri_of {τ : Nat → Int} (v : Value) (h : G2 τ sDri v) : ∃ y, cDri.enc y = v := by
 obtain ⟨l, rfl, gl⟩ := h
 match l, gl with
 | b :: r, ⟨⟨x, e⟩, gr⟩ =>
  obtain ⟨y, rfl⟩ := tEnc_of 7 r gr
  rw [e]
  exact ⟨(x, y), rfl⟩
theorem meet_of {τ : Nat → Int} (v : Value) (h : G2 τ (.tuple ⟨[rI 43, uI, unkB]⟩) v) : ∃ y, (three' (cT 43) cI cB).enc y = v := by
 obtain ⟨l, rfl, gl⟩ := h
 match l, gl with
 | [a, b, c], ⟨ga, ⟨x, eb⟩, ⟨y, ec⟩, _⟩ =>
  obtain ⟨z, ez⟩ := cT_of (τ := τ) 43 a ga.g2
  rw [eb, ec, ← ez]
  exact ⟨(z, x, y), rfl⟩
theorem place_ex : ∃ g, FlowOk Tryz.prog 49 (then' (cT 7) (lone' cI)) g (cT 3) := (flowOk_of oPlace_op (then' (cT 7) (lone' cI)) (cT 3) (fun x => ⟨cT_g 7 x.1, ⟨x.2, rfl⟩, trivial⟩) (fun _ v h => cT_of 3 v h)).imp fun _ h => h.1
theorem dir_ex : ∃ g, FlowOk Tryz.prog 50 (lone' cI) g (cT 3) := (flowOk_of sDirection_op (lone' cI) (cT 3) (fun x => ⟨⟨x, rfl⟩, trivial⟩) (fun _ v h => cT_of 3 v h)).imp fun _ h => h.1
theorem norm_ex : ∃ g, FlowOk Tryz.prog 53 (lone' (cT 3)) g cI := (flowOk_of vNorm_op (lone' (cT 3)) cI (fun x => ⟨cT_g 3 x, trivial⟩) (fun _ v h => cI_of v h)).imp fun _ h => h.1
theorem apart_ex : ∃ g, FlowOk Tryz.prog 105 (then' (cT 3) (lone' (cT 3))) g cB := (flowOk_of dApart_op (then' (cT 3) (lone' (cT 3))) cB (fun x => ⟨cT_g 3 x.1, cT_g 3 x.2, trivial⟩) (fun _ v h => cB_of v h)).imp fun _ h => h.1
theorem shaded_ex : ∃ g, FlowOk Tryz.prog 55 (then' (cT 3) (lone' (cT 3))) g cB := (flowOk_of sShaded_op (then' (cT 3) (lone' (cT 3))) cB (fun x => ⟨cT_g 3 x.1, cT_g 3 x.2, trivial⟩) (fun _ v h => cB_of v h)).imp fun _ h => h.1
theorem move_ex : ∃ g, FlowOk Tryz.prog 56 (then' (cT 43) (then' (cT 3) (lone' cI))) g (cT 43) := (flowOk_of fMove_op (then' (cT 43) (then' (cT 3) (lone' cI))) (cT 43) (fun x => ⟨cT_g 43 x.1, cT_g 3 x.2.1, ⟨x.2.2, rfl⟩, trivial⟩) (fun _ v h => cT_of 43 v h)).imp fun _ h => h.1
theorem meet_ex : ∃ g, FlowOk Tryz.prog 57 (then' (cT 43) (then' (cT 6) (lone' (cT 6)))) g (three' (cT 43) cI cB) := (flowOk_of fMeet_op (then' (cT 43) (then' (cT 6) (lone' (cT 6)))) (three' (cT 43) cI cB) (fun x => ⟨cT_g 43 x.1, cT_g 6 x.2.1, cT_g 6 x.2.2, trivial⟩) (fun _ v h => meet_of v h)).imp fun _ h => h.1
theorem spread_ex : ∃ g, FlowOk Tryz.prog 59 (lone' (cT 43)) g cI := (flowOk_of fSpread_op (lone' (cT 43)) cI (fun x => ⟨cT_g 43 x, trivial⟩) (fun _ v h => cI_of v h)).imp fun _ h => h.1
theorem att_ex : ∃ g, FlowOk Tryz.prog 136 (then' (cT 6) (lone' (cT 6))) g (cT 4) := (flowOk_of dAttitude_op (then' (cT 6) (lone' (cT 6))) (cT 4) (fun x => ⟨cT_g 6 x.1, cT_g 6 x.2, trivial⟩) (fun _ v h => cT_of 4 v h)).imp fun _ h => h.1
theorem start_ex : ∃ g, PureOk Tryz.prog 135 (lone' (cT 4)) g (cT 43) := pureOk_of fStart_op (lone' (cT 4)) (cT 43) (fun x => ⟨cT_g 4 x, trivial⟩) (fun _ v h => cT_of 43 v h)
theorem bstep_ex : ∃ g, FlowOk Tryz.prog 48 (then' cDri (then' (cT 3) (lone' cI))) g cDri := (flowOk_of bStep_op (then' cDri (then' (cT 3) (lone' cI))) cDri (fun x => ⟨cDri_g x.1, cT_g 3 x.2.1, ⟨x.2.2, rfl⟩, trivial⟩) (fun _ v h => cDri_of v h)).imp fun _ h => h.1
end Go.Proofs.YtbophanlmkbfeaaGreatDoor
namespace Go.Proofs.YtbophanlmkbfeaaGreatDoor
open Go.RowKit Go.Maps Go.WideMaps
theorem key_arr : ArrKey Tryz.prog 264 3 2 := ⟨Tryz.underlying264, by kernel_rfl, by kernel_rfl, by kernel_rfl⟩
theorem key_law : Keyed Tryz.prog 264 := Keyed.of_law key_arr.law
theorem el_zero (w : World) : (zeroValue 2).run Tryz.prog w = .ok (.int .i64 0) w := by kernel_rfl
theorem types_some : ∃ m, Tryz.prog.types.size = m + 1 := ⟨Tryz.prog.types.size - 1, by have h : 0 < Tryz.prog.types.size := of_decide_eq_true (by kernel_rfl); omega⟩
structure I64 (n : Int) : Prop where
 lo : -9223372036854775808 ≤ n
 hi : n ≤ 9223372036854775807
theorem I64.wf {n : Int} (h : I64 n) : (Lit.int .i64 n).wf = true := by
 have := h.lo; have := h.hi
 simp only [Lit.wf, IntKind.min, IntKind.max, IntKind.signed, IntKind.bits, Bool.and_eq_true, decide_eq_true_eq, if_true]
 omega
def kyl (n m : Int) : Lit := .string (keyBytes [.int .i64 n, .int .i64 m])
theorem key_at {n m : Int} (hn : I64 n) (hm : I64 m) : keyOf Tryz.prog 264 (.agg #[.int .i64 n, .int .i64 m]) = some (kyl n m) :=
 keyOf_pair key_arr Tryz.underlying3 types_some hn.wf hm.wf
theorem kyl_inj {n m n' m' : Int} (hn : I64 n) (hm : I64 m) (hn' : I64 n') (hm' : I64 m') (h : kyl n m = kyl n' m') : n = n' ∧ m = m' := by
 have a := key_at hn hm
 rw [h] at a
 have e := key_law.inj a (key_at hn' hm')
 simp at e
 exact e
theorem kyl_key {n m : Int} (hn : I64 n) (hm : I64 m) : WideAt.IsKeyLit (kyl n m) := key_law.key (key_at hn hm)
structure Mp (k c : Nat) (f : Int → Int → Int) (w : World) : Prop where
 own : ∃ D : DataW Unit, w.ownsMap Tryz.prog 264 (plainElem Tryz.prog 2) k c D ∧ ∀ n m, I64 n → I64 m → D.atKey (kyl n m) (.lit (.int .i64 0)) = .lit (.int .i64 (f n m))
 lies : k < w.heap.size
def putM (f : Int → Int → Int) (n m v : Int) : Int → Int → Int := fun a b => if a = n ∧ b = m then v else f a b
theorem Mp.same {k c : Nat} {f : Int → Int → Int} {w w' : World} (h : Mp k c f w) (e : w'.heap[k]? = w.heap[k]?) (hs : w.heap.size ≤ w'.heap.size) : Mp k c f w' := by
 obtain ⟨D, ⟨es, clock, hb, F, hn, hD⟩, at_⟩ := h.own
 exact ⟨⟨D, ⟨es, clock, e.trans hb, F, hn, hD⟩, at_⟩, Nat.lt_of_lt_of_le h.lies hs⟩
theorem Mp.mono {k c c' : Nat} {f : Int → Int → Int} {w : World} (h : Mp k c f w) (hc : c ≤ c') : Mp k c' f w := by
 obtain ⟨D, o, at_⟩ := h.own
 exact ⟨⟨D, o.mono hc, at_⟩, h.lies⟩
theorem Mp.eqv {k c : Nat} {f g : Int → Int → Int} {w : World} (h : Mp k c f w) (e : ∀ n m, f n m = g n m) : Mp k c g w := by
 obtain rfl : f = g := by funext n m; exact e n m
 exact h
theorem Mp.kept {k b c : Nat} {f : Int → Int → Int} {w w' : World} (h : Mp k c f w) (hb : Kept b w w') (hk : k ≠ b) : Mp k c f w' := h.same (hb.block k h.lies hk) hb.size
theorem Mp.below {k c : Nat} {f : Int → Int → Int} {w w' : World} (h : Mp k c f w) (hb : Below w.heap.size w w') : Mp k c f w' := h.same (hb.block k h.lies) hb.size
theorem Mp.alloc {k c : Nat} {f : Int → Int → Int} {w : World} (h : Mp k c f w) (o : Obj) : Mp k c f (w.alloc o) := h.below ((Below.refl _ _).alloc (Nat.le_refl _) o)
theorem Mp.drew {k c : Nat} {f : Int → Int → Int} {w : World} (h : Mp k c f w) : Mp k c f w.drew := ⟨h.own, h.lies⟩
theorem Mp.new {k c : Nat} {f : Int → Int → Int} {w : World} (h : Mp k c f w) (q o : Nat) (hp : k ≠ q) (u : Value) : Mp k c f (w.setCell ⟨q, o, none⟩ u) :=
 h.same (Below.heap_setCell _ _ _ _ hp) (by rw [World.size_setCell]; exact Nat.le_refl _)
theorem Mp.off {k k' c : Nat} {f : Int → Int → Int} {w w' : World} (h : Mp k' c f w) (o : Off k w w') (hk : k' ≠ k) : Mp k' c f w' := h.same (o.block k' hk) (Nat.le_of_eq o.size.symm)
set_option maxRecDepth 100000 in
theorem Mp.look {k c : Nat} {f : Int → Int → Int} {w : World} (h : Mp k c f w) {n m : Int} (hn : I64 n) (hm : I64 m) : (Instr.lookup 219 (.map (some k)) (.agg #[.int .i64 n, .int .i64 m]) false).run Tryz.prog w = .ok (.int .i64 (f n m)) w := by
 obtain ⟨D, o, at_⟩ := h.own
 obtain ⟨c, hr, hat, _⟩ := o.lookup_int key_law Tryz.underlying219 Tryz.underlying2 (el_zero w) (key_at hn hm)
 rw [at_ n m hn hm] at hat
 injection hat with hat
 injection hat with _ hat
 rw [hr, hat]
set_option maxRecDepth 100000 in
theorem Mp.store {k c : Nat} {f : Int → Int → Int} {w : World} (h : Mp k c f w) (hc : c < 1000) {n m v : Int} (hn : I64 n) (hm : I64 m) (hv : I64 v) :
    ∃ w', (Instr.mapUpdate 219 (.map (some k)) (.agg #[.int .i64 n, .int .i64 m]) (.int .i64 v)).run Tryz.prog w = .ok () w' ∧ Mp k (c + 1) (putM f n m v) w' ∧ Kept k w w' := by
 obtain ⟨D, o, at_⟩ := h.own
 have hmap : IsMap D := by obtain ⟨_, _, _, _, _, rfl⟩ := o; exact ⟨_, rfl⟩
 obtain ⟨w', hr, o', g⟩ := o.update key_law Tryz.underlying219 (by unfold maxLen; omega) (key_at hn hm) (plainElem_int Tryz.underlying2 hv.wf)
 refine ⟨w', hr, ⟨⟨_, o', fun n' m' hn' hm' => ?_⟩, Nat.lt_of_lt_of_le h.lies g.size⟩, ⟨g.os, g.tape, g.output, g.size, fun i hi hb => g.block i hi (fun e => hb (Option.some.inj e))⟩⟩
 unfold putM
 by_cases e : n' = n ∧ m' = m
 ·rw [if_pos e, e.1, e.2, atKey_put_same hmap (kyl_key hn hm)]
 ·rw [if_neg e, atKey_put_other (fun h => e (kyl_inj hn' hm' hn hm h)), at_ n' m' hn' hm']
theorem Mp.made (w : World) (n : Nat) (hn : n = w.heap.size) : Mp n 0 (fun _ _ => 0) (w.alloc (.map #[] 0)) := by
 subst hn
 exact ⟨⟨_, World.ownsMap_made w _ _ _, fun _ _ _ _ => rfl⟩, by simp⟩
theorem mp_look {ops : Array Oper} {rest : List Oper} {op : Oper} {a : Act} {w : World} {Q : Exit → Act → World → Prop} {x y : Operand} {k c : Nat} {f : Int → Int → Int} {n m : Int} (hgd : op.guard = none) (ho : op.op = .lookup 219 x y false)
    (hx : a.eval x = .map (some k)) (hy : a.eval y = .agg #[.int .i64 n, .int .i64 m]) (M : Mp k c f w) (hn : I64 n) (hm : I64 m) (h : wpList Tryz.prog ops Q rest (a.put op.dst (.int .i64 (f n m))) w) : wpList Tryz.prog ops Q (op :: rest) a w := by
 refine wpList_plain hgd fun K' hK' => ?_
 unfold Oper.wp
 simp [execOp, ho, hx, hy, M.look hn hm, Result.andThen]
 exact hK' _ _ h
theorem mp_yield {ops : Array Oper} {S : World → Prop} {op : Oper} {a : Act} {x y : Operand} {k c : Nat} {f : Int → Int → Int} {n m : Int} (hw : Region.wanted op (yielded ops a.tmps) = true) (ho : op.op = .lookup 219 x y false)
    (hx : a.eval x = .map (some k)) (hy : a.eval y = .agg #[.int .i64 n, .int .i64 m]) (hS : ∀ w, S w → Mp k c f w) (hn : I64 n) (hm : I64 m) : YieldsIf Tryz.prog ops S op (.int .i64 (f n m)) a := by
 refine Or.inl ⟨hw, fun w h => ?_⟩
 simp [execOp, ho, hx, hy, (hS w h).look hn hm, Result.andThen]
theorem mp_put {ops : Array Oper} {op : Oper} {a : Act} {w : World} {K : Act → World → Prop} {Q : Exit → Act → World → Prop} {x y z : Operand} {k c : Nat} {f : Int → Int → Int} {n m v : Int} (hw : Region.wanted op (yielded ops a.tmps) = true)
    (ho : op.op = .mapUpdate 219 x y z) (hx : a.eval x = .map (some k)) (hy : a.eval y = .agg #[.int .i64 n, .int .i64 m]) (hz : a.eval z = .int .i64 v) (M : Mp k c f w) (hc : c < 1000) (hn : I64 n) (hm : I64 m) (hv : I64 v)
    (h : ∀ w', Mp k (c + 1) (putM f n m v) w' → Kept k w w' → K (a.put op.dst undef) w') : if Region.wanted op (yielded ops a.tmps) = true then Oper.wp Tryz.prog op a w K Q else K (a.put op.dst undef) w := by
 rw [if_pos hw]
 obtain ⟨w', hr, M', k'⟩ := M.store hc hn hm hv
 unfold Oper.wp
 simp [execOp, ho, hx, hy, hz, hr, Result.andThen]
 exact h w' M' k'
end Go.Proofs.YtbophanlmkbfeaaGreatDoor
namespace Go.Proofs.YtbophanlmkbfeaaGreatDoor
open Go.RowKit Go.Maps Go.WideMaps
structure KeptL (L : List Nat) (w w' : World) : Prop where
 os : w'.os = w.os
 tape : w'.tape = w.tape
 output : w'.output = w.output
 size : w.heap.size ≤ w'.heap.size
 block : ∀ k, k < w.heap.size → k ∉ L → w'.heap[k]? = w.heap[k]?
theorem KeptL.refl (L : List Nat) (w : World) : KeptL L w w := ⟨rfl, rfl, rfl, Nat.le_refl _, fun _ _ _ => rfl⟩
theorem KeptL.trans {L : List Nat} {x y z : World} (h : KeptL L x y) (k : KeptL L y z) : KeptL L x z :=
 ⟨k.os.trans h.os, k.tape.trans h.tape, k.output.trans h.output, Nat.le_trans h.size k.size, fun i hi hb => (k.block i (Nat.lt_of_lt_of_le hi h.size) hb).trans (h.block i hi hb)⟩
theorem KeptL.of {L : List Nat} {b : Nat} {w w' : World} (h : Kept b w w') (hb : b ∈ L) : KeptL L w w' := ⟨h.os, h.tape, h.output, h.size, fun k hk hn => h.block k hk (fun e => hn (e ▸ hb))⟩
theorem KeptL.on {L : List Nat} {b : Nat} {x w w' : World} (h : KeptL L x w) (k : Kept b w w') (hb : b ∈ L) : KeptL L x w' := h.trans (KeptL.of k hb)
theorem KeptL.low {L : List Nat} {x w w' : World} (h : KeptL L x w) (k : Below w.heap.size w w') : KeptL L x w' := h.trans ⟨k.os, k.tape, k.output, k.size, fun i hi _ => k.block i hi⟩
theorem KeptL.al {L : List Nat} {x w : World} (h : KeptL L x w) (o : Obj) : KeptL L x (w.alloc o) := h.low ((Below.refl _ _).alloc (Nat.le_refl _) o)
theorem KeptL.drew {L : List Nat} {x w : World} (h : KeptL L x w) : KeptL L x w.drew := ⟨h.os, h.tape, h.output, h.size, h.block⟩
theorem KeptL.new {L : List Nat} {x w : World} (h : KeptL L x w) (q o : Nat) (hp : x.heap.size ≤ q) (u : Value) : KeptL L x (w.setCell ⟨q, o, none⟩ u) :=
 ⟨h.os, h.tape, h.output, by rw [World.size_setCell]; exact h.size, fun k hk hb => (Below.heap_setCell _ _ _ _ (by show k ≠ q; omega)).trans (h.block k hk hb)⟩
theorem Kept.off_list {b : Nat} {L : List Nat} {x w w' : World} (K : Kept b x w) (h : KeptL L w w') (hL : ∀ k ∈ L, k = b ∨ x.heap.size ≤ k) : Kept b x w' :=
 ⟨h.os.trans K.os, h.tape.trans K.tape, h.output.trans K.output, Nat.le_trans K.size h.size, fun j hj hb => (h.block j (Nat.lt_of_lt_of_le hj K.size) (fun m => by rcases hL j m with e | e <;> omega)).trans (K.block j hj hb)⟩
theorem Arr.keptL {k : Nat} {L : List Nat} {l : List Value} {w w' : World} (h : Arr k l w) (hb : KeptL L w w') (hk : k ∉ L) : Arr k l w' := h.same (hb.block k h.lies hk) hb.size
theorem Mp.keptL {k c : Nat} {L : List Nat} {f : Int → Int → Int} {w w' : World} (h : Mp k c f w) (hb : KeptL L w w') (hk : k ∉ L) : Mp k c f w' := h.same (hb.block k h.lies hk) hb.size
def NearM (k : Nat) (f : Int → Int → Int) (n m : Int) (w : World) : Prop := ∃ c g, Mp k c g w ∧ ∀ a b, ¬ (a = n ∧ b = m) → g a b = f a b
theorem NearM.same {k c : Nat} {f : Int → Int → Int} {n m : Int} {w : World} (M : Mp k c f w) : NearM k f n m w := ⟨c, f, M, fun _ _ _ => rfl⟩
theorem NearM.upd {k c : Nat} {f : Int → Int → Int} {n m v : Int} {w : World} (M : Mp k c (putM f n m v) w) : NearM k f n m w := ⟨c, _, M, fun _ _ h => if_neg h⟩
theorem mp_yield_near {ops : Array Oper} {S : World → Prop} {op : Oper} {a : Act} {x y : Operand} {k : Nat} {f : Int → Int → Int} {n m n0 m0 : Int} (hw : Region.wanted op (yielded ops a.tmps) = true) (ho : op.op = .lookup 219 x y false)
    (hx : a.eval x = .map (some k)) (hy : a.eval y = .agg #[.int .i64 n, .int .i64 m]) (hS : ∀ w, S w → NearM k f n0 m0 w) (hn : I64 n) (hm : I64 m) (hne : ¬ (n = n0 ∧ m = m0)) : YieldsIf Tryz.prog ops S op (.int .i64 (f n m)) a := by
 refine Or.inl ⟨hw, fun w h => ?_⟩
 obtain ⟨c, g, M, e⟩ := hS w h
 simp [execOp, ho, hx, hy, M.look hn hm, Result.andThen, e n m hne]
end Go.Proofs.YtbophanlmkbfeaaGreatDoor
namespace Go.Proofs.YtbophanlmkbfeaaGreatDoor
open Go.RowKit Go.Maps Go.WideMaps
def undone (L : Array Bool) : Nat := (L.toList.filter (fun b => !b)).length
theorem undone_set {L : Array Bool} {i : Nat} (h : L.getD i true = false) : undone (L.setIfInBounds i true) + 1 = undone L := by
 obtain ⟨l⟩ := L
 have h' : l[i]?.getD true = false := by simpa using h
 unfold undone
 simp only [List.setIfInBounds_toArray]
 clear h
 induction l generalizing i with
 | nil => simp at h'
 | cons b r ih =>
  cases i with
  | zero => simp at h'; simp [h']
  | succ i =>
   have := ih (i := i) (by simpa using h')
   cases b <;> simp [List.set_cons_succ] <;> omega
theorem orders_ind {P : Program} {md : Region.Mode} {l : List Oper} {Q : Exit → Act → World → Prop} (Inv : Array Bool → Act → World → Prop)
    (step : ∀ listed a w i o, l[i]? = some o → i ∈ Region.ready md l.toArray listed → Inv listed a w → ∀ K' : Act → World → Prop, Shut (∀ a w, Inv (listed.setIfInBounds i true) a w → K' a w) → if Region.wanted o (yielded l.toArray a.tmps) = true then Oper.wp P o a w K' Q else K' (a.put o.dst undef) w)
    (fin : ∀ listed a w, Region.ready md l.toArray listed = [] → Inv listed a w → Q .normal a w) :
    ∀ (fuel : Nat) (listed : Array Bool) (a : Act) (w : World), undone listed ≤ fuel → Inv listed a w → wpAnyH P md l.toArray Q (fun _ => True) fuel listed a w := by
 intro fuel
 induction fuel with
 | zero =>
  intro listed a w hu hI
  have hr : Region.ready md l.toArray listed = [] := by
   apply List.eq_nil_iff_forall_not_mem.2
   intro i hi
   have := undone_set (mem_ready.1 hi).1
   omega
  exact ⟨hr, fin listed a w hr hI⟩
 | succ fuel ih =>
  intro listed a w hu hI
  refine ⟨fun hr => fin listed a w hr hI, fun i hi => ?_⟩
  obtain ⟨hun, o, ho, _⟩ := mem_ready.1 hi
  have ho' : l[i]? = some o := by simpa using ho
  have hs := undone_set hun
  have h := step listed a w i o ho' hi hI (fun a' w' => True ∧ wpAnyH P md l.toArray Q (fun _ => True) fuel (listed.setIfInBounds i true) a' w') (fun a' w' k => ⟨trivial, ih _ a' w' (by omega) k⟩)
  unfold wpOp
  rw [ho]
  show if _ then _ else _
  split
  ·rename_i hw
   rw [if_pos hw] at h
   exact Or.inl h
  ·rename_i hw
   rw [if_neg hw] at h
   exact h
theorem no_ready {md : Region.Mode} {l : List Oper} {L : Array Bool} (hr : Region.ready md l.toArray L = []) {i : Nat} {o : Oper} (hi : l[i]? = some o) (hu : L.getD i true = false) (h : o.after.toList.all (fun e => !Region.binds md e || L.getD e.on false) = true) : False := by
 have m : i ∈ Region.ready md l.toArray L := mem_ready.2 ⟨hu, o, by simpa using hi, fun e he hb => by
  have := (List.all_eq_true.1 h) e (by simpa using he)
  rw [hb] at this
  simpa using this⟩
 rw [hr] at m
 exact absurd m List.not_mem_nil
theorem mp_ins {ops : Array Oper} {op : Oper} {a : Act} {w : World} {K : Act → World → Prop} {Q : Exit → Act → World → Prop} {x y z : Operand} {k c : Nat} {f : Int → Int → Int} {n m v : Int} (hw : Region.wanted op (yielded ops a.tmps) = true)
    (ho : op.op = .insert 219 x y z) (hx : a.eval x = .map (some k)) (hy : a.eval y = .agg #[.int .i64 n, .int .i64 m]) (hz : a.eval z = .int .i64 v) (M : Mp k c f w) (hc : c < 1000) (hn : I64 n) (hm : I64 m) (hv : I64 v)
    (h : ∀ w', Mp k (c + 1) (putM f n m v) w' → Kept k w w' → K (a.put op.dst undef) w') : if Region.wanted op (yielded ops a.tmps) = true then Oper.wp Tryz.prog op a w K Q else K (a.put op.dst undef) w := by
 rw [if_pos hw]
 obtain ⟨w', hr, M', k'⟩ := M.store hc hn hm hv
 unfold Oper.wp
 simp [execOp, ho, hx, hy, hz, hr, Result.andThen]
 exact h w' M' k'
def mf2 (p : Bool) (x : Int) (q : Bool) (y : Int) : Int → Int → Int := fun n m => if q = true ∧ n = 1 ∧ m = 1 then y else if p = true ∧ n = 0 ∧ m = 0 then x else 0
theorem mf2_zero (x y : Int) (n m : Int) : (0 : Int) = mf2 false x false y n m := by unfold mf2; simp
theorem mf2_p (x : Int) (q : Bool) (y : Int) (n m : Int) : putM (mf2 false x q y) 0 0 x n m = mf2 true x q y n m := by
 unfold putM mf2
 by_cases h : n = 0 ∧ m = 0
 ·obtain ⟨rfl, rfl⟩ := h; simp
 ·rw [if_neg h]; simp [h]
theorem mf2_q (p : Bool) (x y : Int) (n m : Int) : putM (mf2 p x false y) 1 1 y n m = mf2 p x true y n m := by
 unfold putM mf2
 by_cases h : n = 1 ∧ m = 1
 ·obtain ⟨rfl, rfl⟩ := h; simp
 ·rw [if_neg h]; simp [h]
structure MI (w0 : World) (c s : Int) (a0 a2 a5 a6 b7 b9 b12 b13 q14 q16 q17 e18 d19 z20 : Bool) (x7 x10 x14 x15 x19 x20 x22 x23 : Value) (kA kB kC kD : Nat) (w : World) : Prop where
 bel : Below w0.heap.size w0 w
 A : a0 = true → x10 = .map (some kA) ∧ w0.heap.size ≤ kA ∧ Mp kA (a2.toNat + a5.toNat) (mf2 a2 1099511627776 a5 s) w
 B : b7 = true → x15 = .map (some kB) ∧ w0.heap.size ≤ kB ∧ Mp kB (b9.toNat + b12.toNat) (mf2 b9 0 b12 c) w
 C : q14 = true → x20 = .map (some kC) ∧ w0.heap.size ≤ kC ∧ Mp kC q16.toNat (mf2 false 0 q16 1099511627776) w
 A6 : a6 = true → x14 = .map (some kA) ∧ a0 = true ∧ a2 = true ∧ a5 = true
 B13 : b13 = true → x19 = .map (some kB) ∧ b7 = true ∧ b9 = true ∧ b12 = true
 C17 : q17 = true → x22 = .map (some kC) ∧ q14 = true ∧ q16 = true
 E : e18 = true → x23 = .agg #[.map (some kA), .map (some kB), .map (some kC)] ∧ a6 = true ∧ b13 = true ∧ q17 = true
 D : d19 = true → x7 = .pointer (some ⟨kD, 0, none⟩) ∧ w0.heap.size ≤ kD ∧ Arr kD (bif z20 then [.map (some kA), .map (some kB), .map (some kC)] else [.map none, .map none, .map none]) w
 va : a2 = true ∨ a5 = true → a0 = true
 vb : b9 = true ∨ b12 = true → b7 = true
 vc : q16 = true → q14 = true
 Z : z20 = true → e18 = true ∧ d19 = true
 AB : a0 = true → b7 = true → kA ≠ kB
 AC : a0 = true → q14 = true → kA ≠ kC
 BC : b7 = true → q14 = true → kB ≠ kC
 AD : a0 = true → d19 = true → kA ≠ kD
 BD : b7 = true → d19 = true → kB ≠ kD
 CD : q14 = true → d19 = true → kC ≠ kD
end Go.Proofs.YtbophanlmkbfeaaGreatDoor
namespace Go.Proofs.YtbophanlmkbfeaaGreatDoor
open Go.RowKit Go.Maps Go.WideMaps
theorem met_law : Keyed Tryz.prog 252 := Keyed.of_law (deep_law (m := 2) (by omega) (by kernel_rfl) (by kernel_rfl) (by kernel_rfl))
theorem met_zero (w : World) : (zeroValue 3).run Tryz.prog w = .ok (.int .i64 0) w := by kernel_rfl
theorem met_types : ∃ m, Tryz.prog.types.size = m + 1 := ⟨Tryz.prog.types.size - 1, by have h : 0 < Tryz.prog.types.size := of_decide_eq_true (by kernel_rfl); omega⟩
theorem met_at {n m : Int} (hn : I64 n) (hm : I64 m) : keyOf Tryz.prog 252 (.agg #[.int .i64 n, .int .i64 m]) = some (kyl n m) := by
 have hkt : Tryz.prog.keyType 252 = true := by kernel_rfl
 have hsz : Tryz.prog.cellsOf 252 = 2 := by kernel_rfl
 have h1 : Tryz.prog.cellsOf 3 = 1 := by kernel_rfl
 obtain ⟨k, hk⟩ := met_types
 unfold keyOf kyl
 simp only [Tryz.underlying252]
 rw [if_pos (by simp [hkt, Value.formed, Tryz.underlying252, hsz]), hk]
 unfold Program.keyLits
 simp only [Tryz.underlying252, Value.cells]
 simp [h1, hsz, Program.keyLits, Tryz.underlying3, hn.wf, hm.wf]
structure Mm (k c : Nat) (f : Int → Int → Int) (w : World) : Prop where
 own : ∃ D : DataW Unit, w.ownsMap Tryz.prog 252 (plainElem Tryz.prog 3) k c D ∧ ∀ n m, I64 n → I64 m → D.atKey (kyl n m) (.lit (.int .i64 0)) = .lit (.int .i64 (f n m))
 lies : k < w.heap.size
theorem met_inj {n m n' m' : Int} (hn : I64 n) (hm : I64 m) (hn' : I64 n') (hm' : I64 m') (h : kyl n m = kyl n' m') : n = n' ∧ m = m' := by
 have a := met_at hn hm
 rw [h] at a
 have e := met_law.inj a (met_at hn' hm')
 simp at e
 exact e
theorem met_key {n m : Int} (hn : I64 n) (hm : I64 m) : WideAt.IsKeyLit (kyl n m) := met_law.key (met_at hn hm)
theorem Mm.same {k c : Nat} {f : Int → Int → Int} {w w' : World} (h : Mm k c f w) (e : w'.heap[k]? = w.heap[k]?) (hs : w.heap.size ≤ w'.heap.size) : Mm k c f w' := by
 obtain ⟨D, ⟨es, clock, hb, F, hn, hD⟩, at_⟩ := h.own
 exact ⟨⟨D, ⟨es, clock, e.trans hb, F, hn, hD⟩, at_⟩, Nat.lt_of_lt_of_le h.lies hs⟩
theorem Mm.mono {k c c' : Nat} {f : Int → Int → Int} {w : World} (h : Mm k c f w) (hc : c ≤ c') : Mm k c' f w := by
 obtain ⟨D, o, at_⟩ := h.own
 exact ⟨⟨D, o.mono hc, at_⟩, h.lies⟩
theorem Mm.eqv {k c : Nat} {f g : Int → Int → Int} {w : World} (h : Mm k c f w) (e : ∀ n m, f n m = g n m) : Mm k c g w := by
 obtain rfl : f = g := by funext n m; exact e n m
 exact h
theorem Mm.below {k c : Nat} {f : Int → Int → Int} {w w' : World} (h : Mm k c f w) (hb : Below w.heap.size w w') : Mm k c f w' := h.same (hb.block k h.lies) hb.size
set_option maxRecDepth 100000 in
theorem Mm.look {k c : Nat} {f : Int → Int → Int} {w : World} (h : Mm k c f w) {n m : Int} (hn : I64 n) (hm : I64 m) : (Instr.lookup 249 (.map (some k)) (.agg #[.int .i64 n, .int .i64 m]) false).run Tryz.prog w = .ok (.int .i64 (f n m)) w := by
 obtain ⟨D, o, at_⟩ := h.own
 obtain ⟨c, hr, hat, _⟩ := o.lookup_int met_law Tryz.underlying249 Tryz.underlying3 (met_zero w) (met_at hn hm)
 rw [at_ n m hn hm] at hat
 injection hat with hat
 injection hat with _ hat
 rw [hr, hat]
theorem Mm.store {k c : Nat} {f : Int → Int → Int} {w : World} (h : Mm k c f w) (hc : c < 1000) {n m v : Int} (hn : I64 n) (hm : I64 m) (hv : I64 v) :
    ∃ w', (Instr.mapUpdate 249 (.map (some k)) (.agg #[.int .i64 n, .int .i64 m]) (.int .i64 v)).run Tryz.prog w = .ok () w' ∧ Mm k (c + 1) (putM f n m v) w' ∧ Kept k w w' := by
 obtain ⟨D, o, at_⟩ := h.own
 have hmap : IsMap D := by obtain ⟨_, _, _, _, _, rfl⟩ := o; exact ⟨_, rfl⟩
 obtain ⟨w', hr, o', g⟩ := o.update met_law Tryz.underlying249 (by unfold maxLen; omega) (met_at hn hm) (plainElem_int Tryz.underlying3 hv.wf)
 refine ⟨w', hr, ⟨⟨_, o', fun n' m' hn' hm' => ?_⟩, Nat.lt_of_lt_of_le h.lies g.size⟩, ⟨g.os, g.tape, g.output, g.size, fun i hi hb => g.block i hi (fun e => hb (Option.some.inj e))⟩⟩
 unfold putM
 by_cases e : n' = n ∧ m' = m
 ·rw [if_pos e, e.1, e.2, atKey_put_same hmap (met_key hn hm)]
 ·rw [if_neg e, atKey_put_other (fun h => e (met_inj hn' hm' hn hm h)), at_ n' m' hn' hm']
theorem Mm.made (w : World) (n : Nat) (hn : n = w.heap.size) : Mm n 0 (fun _ _ => 0) (w.alloc (.map #[] 0)) := by
 subst hn
 exact ⟨⟨_, World.ownsMap_made w _ _ _, fun _ _ _ _ => rfl⟩, by simp⟩
theorem mm_ins {ops : Array Oper} {op : Oper} {a : Act} {w : World} {K : Act → World → Prop} {Q : Exit → Act → World → Prop} {x y z : Operand} {k c : Nat} {f : Int → Int → Int} {n m v : Int} (hw : Region.wanted op (yielded ops a.tmps) = true)
    (ho : op.op = .insert 249 x y z) (hx : a.eval x = .map (some k)) (hy : a.eval y = .agg #[.int .i64 n, .int .i64 m]) (hz : a.eval z = .int .i64 v) (M : Mm k c f w) (hc : c < 1000) (hn : I64 n) (hm : I64 m) (hv : I64 v)
    (h : ∀ w', Mm k (c + 1) (putM f n m v) w' → Kept k w w' → K (a.put op.dst undef) w') : if Region.wanted op (yielded ops a.tmps) = true then Oper.wp Tryz.prog op a w K Q else K (a.put op.dst undef) w := by
 rw [if_pos hw]
 obtain ⟨w', hr, M', k'⟩ := M.store hc hn hm hv
 unfold Oper.wp
 simp [execOp, ho, hx, hy, hz, hr, Result.andThen]
 exact h w' M' k'
end Go.Proofs.YtbophanlmkbfeaaGreatDoor
