/-
A part.
A part.
A part.
A part.
A part.
A part.
A part.
A part.
A part.
A part.
A part.
A part.
A part.
A part.
A part.
A part.
A part.
A part.
-/
import Derived.Deep.MidRow
import Derived.Handy
import Derived.LoopN
import Derived.Deep.RegionHeld3
import Derived.Test.YtbophanlmkbfeaaGreatDoorHE11
import Derived.Test.YtbophanlmkbfeaaGreatDoorHE02
import Derived.Test.YtbophanlmkbfeaaGreatDoorHE01
import Derived.Test.YtbophanlmkbfeaaGreatDoorHE06
namespace Go.Proofs.YtbophanlmkbfeaaGreatDoor
open Go.RowKit
theorem fparted_op : ∃ g, POp Tryz.prog 177 [rI 6] (.tuple ⟨[rI 3, rI 3]⟩) g := pure_ax (nq := nq) (tbl := []) (dirty := fun _ => []) (n := 8) xmixA Tryz.func177 rfl (by decide +kernel)
def tfparted : ACt Tryz.prog nq := rowP (go_of Tryz.func177 (by kernel_rfl) (by kernel_rfl)) fparted_op (by decide +kernel)
theorem fjoined_op : ∃ g, POp Tryz.prog 124 [rI 6] (rI 6) g := pure_ax (nq := nq) (tbl := []) (dirty := fun _ => []) (n := 8) xmixA Tryz.func124 rfl (by decide +kernel)
def tfjoined : ACt Tryz.prog nq := rowP (go_of Tryz.func124 (by kernel_rfl) (by kernel_rfl)) fjoined_op (by decide +kernel)
theorem feither_op : ∃ g, POp Tryz.prog 185 [uI, uI, uI] (uI) g := pure_ax (nq := nq) (tbl := []) (dirty := fun _ => []) (n := 8) xmixA Tryz.func185 rfl (by decide +kernel)
def tfeither : ACt Tryz.prog nq := rowP (go_of Tryz.func185 (by kernel_rfl) (by kernel_rfl)) feither_op (by decide +kernel)
theorem fmiddle_op : ∃ g, FOp Tryz.prog nq 184 [rI 13] (uI) unkB g := flow_ax (tbl := [tAdd, tPart]) (dirty := fun _ => []) (n := 16) nq_one xmixA Tryz.func184 rfl (by decide +kernel)
def tfmiddle : ACt Tryz.prog nq := rowF false (go_of Tryz.func184 (by kernel_rfl) (by kernel_rfl)) fmiddle_op (by decide +kernel)
theorem fmean_op : ∃ g, FOp Tryz.prog nq 113 [rI 78] (rI 6) unkB g := flow_ax (tbl := [tfmiddle]) (dirty := fun _ => []) (n := 16) nq_one xmixA Tryz.func113 rfl (by decide +kernel)
def tfmean : ACt Tryz.prog nq := rowF false (go_of Tryz.func113 (by kernel_rfl) (by kernel_rfl)) fmean_op (by decide +kernel)
theorem fless_op : ∃ g, FOp Tryz.prog nq 123 [rI 6, rI 6] (rI 6) unkB g := flow_ax (tbl := [tSub]) (dirty := fun _ => []) (n := 8) nq_one xmixA Tryz.func123 rfl (by decide +kernel)
def tfless : ACt Tryz.prog nq := rowF false (go_of Tryz.func123 (by kernel_rfl) (by kernel_rfl)) fless_op (by decide +kernel)
theorem fbeside_op : ∃ g, FOp Tryz.prog nq 114 [rI 78, rI 6] (rI 78) unkB g := flow_ax (tbl := [tfless]) (dirty := fun _ => []) (n := 16) nq_one xmixA Tryz.func114 rfl (by decide +kernel)
def tfbeside : ACt Tryz.prog nq := rowF false (go_of Tryz.func114 (by kernel_rfl) (by kernel_rfl)) fbeside_op (by decide +kernel)
theorem fraised_op : ∃ g, FOp Tryz.prog nq 119 [rI 36, uI, uI] (rI 36) unkB g := flow_ax (tbl := [tfeither, tAdd]) (dirty := fun _ => []) (n := 8) nq_one xmixA Tryz.func119 rfl (by decide +kernel)
def tfraised : ACt Tryz.prog nq := rowF false (go_of Tryz.func119 (by kernel_rfl) (by kernel_rfl)) fraised_op (by decide +kernel)
theorem fevened_op : ∃ g, FOp Tryz.prog nq 196 [rI 36] (rI 36) unkB g := flow_ax (tbl := [tAdd, tPart]) (dirty := fun _ => []) (n := 8) nq_one xmixA Tryz.func196 rfl (by decide +kernel)
def tfevened : ACt Tryz.prog nq := rowF false (go_of Tryz.func196 (by kernel_rfl) (by kernel_rfl)) fevened_op (by decide +kernel)
theorem funits_op : ∃ g, FOp Tryz.prog nq 122 [rI 6] (rI 6) unkB g := flow_ax (tbl := [tvUnit]) (dirty := fun _ => []) (n := 8) nq_one xmixA Tryz.func122 rfl (by decide +kernel)
def tfunits : ACt Tryz.prog nq := rowF false (go_of Tryz.func122 (by kernel_rfl) (by kernel_rfl)) funits_op (by decide +kernel)
theorem fattitudes_op : ∃ g, FOp Tryz.prog nq 176 [rI 43, rI 78] (rI 52) unkB g := flow_ax (tbl := [tfparted, tqFromRod, tqMul]) (dirty := fun _ => []) (n := 16) nq_one xmixA Tryz.func176 rfl (by decide +kernel)
def tfattitudes : ACt Tryz.prog nq := rowF false (go_of Tryz.func176 (by kernel_rfl) (by kernel_rfl)) fattitudes_op (by decide +kernel)
theorem fmoved_op : ∃ g, FOp Tryz.prog nq 110 [rI 43, rI 78, rI 3, uI] (rI 52) unkB g := flow_ax (tbl := [tfattitudes, tvSub, tfparted, tPart, tqFromRod, tqMul]) (dirty := fun _ => []) (n := 16) nq_one xmixA Tryz.func110 rfl (by decide +kernel)
def tfmoved : ACt Tryz.prog nq := rowF false (go_of Tryz.func110 (by kernel_rfl) (by kernel_rfl)) fmoved_op (by decide +kernel)
theorem faround_op : ∃ g, FOp Tryz.prog nq 112 [rI 4, rI 52, rI 78] (rI 78) unkB g := flow_ax (tbl := [tfparted, tqToRod, tqMul, tqBack, tfjoined]) (dirty := fun _ => []) (n := 16) nq_one xmixA Tryz.func112 rfl (by decide +kernel)
def tfaround : ACt Tryz.prog nq := rowF false (go_of Tryz.func112 (by kernel_rfl) (by kernel_rfl)) faround_op (by decide +kernel)
theorem fviewed_op : ∃ g, FOp Tryz.prog nq 121 [rI 43, rI 78, rI 6] (rI 78) unkB g := flow_ax (tbl := [tfattitudes, tqTurn, tfjoined]) (dirty := fun _ => []) (n := 16) nq_one xmixA Tryz.func121 rfl (by decide +kernel)
def tfviewed : ACt Tryz.prog nq := rowF false (go_of Tryz.func121 (by kernel_rfl) (by kernel_rfl)) fviewed_op (by decide +kernel)
theorem fbiased_op : ∃ g, FOp Tryz.prog nq 118 [rI 3, rI 6] (rI 3) unkB g := flow_ax (tbl := [tfparted, tvAdd]) (dirty := fun _ => []) (n := 8) nq_one xmixA Tryz.func118 rfl (by decide +kernel)
def tfbiased : ACt Tryz.prog nq := rowF false (go_of Tryz.func118 (by kernel_rfl) (by kernel_rfl)) fbiased_op (by decide +kernel)
end Go.Proofs.YtbophanlmkbfeaaGreatDoor
namespace Go.Proofs.YtbophanlmkbfeaaGreatDoor
open Go.RowKit
structure Stop (p : Prop) : Prop where
 out : p
theorem post_stop {P : Program} {fn : Func} {R : Ending → World → Prop} {e : Exit} {a : Act} {w : World} (h : Stop (bodyPost P fn R e a w)) : bodyPost P fn R e a w := h.out
theorem Arr.range {k : Nat} {l : List Value} {w : World} (A : Arr k l w) : w.rangeAt k 0 l := fun j v hv => by
 obtain ⟨hj, rfl⟩ := List.getElem?_eq_some_iff.1 hv
 rw [Nat.zero_add]
 exact A.c j hj
theorem results_arr {fn : Func} {p : Tmp} {ty : TypeId} (h : fn.results = #[.cell p ty]) {tmps : Array Value} {w : World} {k : Nat} {l : List Value} (A : Arr k l w)
    (hp : tmps.getD p undef = .pointer (some ⟨k, 0, none⟩)) (hd : (Tryz.prog.underlying ty).any TypeDesc.isRow = true) (hi : (Tryz.prog.info? ty).map (·.size) = some l.length) :
    (results fn tmps).run Tryz.prog w = .ok (.agg l.toArray) w := by
 cases hu : Tryz.prog.underlying ty with
 | none => rw [hu] at hd; cases hd
 | some d =>
  rw [hu] at hd
  have hp' : tmps[p]?.getD undef = .pointer (some ⟨k, 0, none⟩) := by simpa using hp
  simp [results, h, hp', asAddr, run_loadVar_mid w k 0 ty l d A.range hu hd hi]
end Go.Proofs.YtbophanlmkbfeaaGreatDoor
namespace Go.Proofs.YtbophanlmkbfeaaGreatDoor
open Go.RowKit
theorem rounds_up {P : Program} {c : Code} {Q : Exit → Act → World → Prop} {a : Act} {w : World} (J : Nat → Act → World → Prop) (N : Nat) (h0 : J 0 a w)
    (step : ∀ k a w, k < N → J k a w → ∀ R : Act → World → Prop, (∀ a' w', J (k + 1) a' w' → R a' w') → c.wp P (Exit.then R Q) a w)
    (last : ∀ a w, J N a w → ∀ R : Act → World → Prop, c.wp P (Exit.then R Q) a w) : (Code.loop c).wp P Q a w := by
 have key : ∀ d k a w, k + d = N → J k a w → Code.rounds P c Q (d + 1) a w := by
  intro d
  induction d with
  | zero => intro k a w hk hJ; rw [rounds_succ]; exact last a w (by rw [← hk]; exact hJ) _
  | succ d ih => intro k a w hk hJ; rw [rounds_succ]; exact step k a w (by omega) hJ _ fun a' w' h => ih (k + 1) a' w' (by omega) h
 exact wp_loop_rounds (N + 1) (key N 0 a w (by omega) h0)
theorem row_load {ops : Array Oper} {rest : List Oper} {op : Oper} {a : Act} {w : World} {Q : Exit → Act → World → Prop} {ty : TypeId} {x : Operand} {k : Nat} {l : List Value} (hgd : op.guard = none) (ho : op.op = .load ty x)
    (hx : a.eval x = .pointer (some ⟨k, 0, none⟩)) (A : Arr k l w) (hd : (Tryz.prog.underlying ty).any TypeDesc.isRow = true) (hi : (Tryz.prog.info? ty).map (·.size) = some l.length)
    (h : wpList Tryz.prog ops Q rest (a.put op.dst (.agg l.toArray)) w) : wpList Tryz.prog ops Q (op :: rest) a w := by
 cases hu : Tryz.prog.underlying ty with
 | none => rw [hu] at hd; cases hd
 | some d => rw [hu] at hd; exact wpList_load_mid hgd ty x ho k 0 hx l d A.range hu hd hi h
theorem store_stop {ops : Array Oper} {rest : List Oper} {op : Oper} {a : Act} {w : World} {Q : Exit → Act → World → Prop} {ty : TypeId} {x y : Operand} (_ : op.op = .store ty x y) (_ : (Tryz.prog.underlying ty).any TypeDesc.isRow = true)
    (h : Stop (wpList Tryz.prog ops Q (op :: rest) a w)) : wpList Tryz.prog ops Q (op :: rest) a w := h.out
structure Off (k : Nat) (w w' : World) : Prop where
 os : w'.os = w.os
 tape : w'.tape = w.tape
 output : w'.output = w.output
 size : w'.heap.size = w.heap.size
 block : ∀ j, j ≠ k → w'.heap[j]? = w.heap[j]?
theorem off_set (k o : Nat) (v : Value) (w : World) : Off k w (w.setCell ⟨k, o, none⟩ v) :=
 ⟨rfl, rfl, rfl, World.size_setCell _ _ _, fun _ hj => Below.heap_setCell _ _ _ _ hj⟩
theorem Off.trans {k : Nat} {w w' w'' : World} (h : Off k w w') (h' : Off k w' w'') : Off k w w'' :=
 ⟨h'.os.trans h.os, h'.tape.trans h.tape, h'.output.trans h.output, h'.size.trans h.size, fun j hj => (h'.block j hj).trans (h.block j hj)⟩
theorem off_cells (k : Nat) : ∀ (vs : List Value) (o : Nat) (w : World), Off k w (w.setCells k o vs)
 | [], _, _ => ⟨rfl, rfl, rfl, rfl, fun _ _ => rfl⟩
 | v :: r, o, w => (off_set k o v w).trans (off_cells k r (o + 1) _)
theorem Arr.off {k k' : Nat} {l : List Value} {w w' : World} (A : Arr k' l w) (h : Off k w w') (hk : k' ≠ k) : Arr k' l w' := A.same (h.block k' hk) (Nat.le_of_eq h.size.symm)
theorem Fl.off {k b : Nat} {bad : Bool} {w w' : World} (A : Fl b bad w) (h : Off k w w') (hk : b ≠ k) : Fl b bad w' :=
 ⟨(World.cell?_of_block (w := w) (a := ⟨b, 0, none⟩) (h.block b hk)).trans A.cell, (World.frozen?_of_block (w := w) (a := ⟨b, 0, none⟩) (h.block b hk)).trans A.free, by rw [h.size]; exact A.lies⟩
theorem Kept.off {b k : Nat} {x w w' : World} (K : Kept b x w) (h : Off k w w') (hk : x.heap.size ≤ k) : Kept b x w' :=
 ⟨h.os.trans K.os, h.tape.trans K.tape, h.output.trans K.output, by rw [h.size]; exact K.size, fun j hj hb => (h.block j (by omega)).trans (K.block j hj hb)⟩
theorem store_row {ops : Array Oper} {rest : List Oper} {op : Oper} {a : Act} {w : World} {Q : Exit → Act → World → Prop} {ty : TypeId} {x y : Operand} {k : Nat} {l l' : List Value} (hgd : op.guard = none) (ho : op.op = .store ty x y)
    (hx : a.eval x = .pointer (some ⟨k, 0, none⟩)) (hy : a.eval y = .agg l'.toArray) (A : Arr k l w) (hl : l'.length = l.length) (hi : (Tryz.prog.info? ty).map (·.size) = some l'.length) (h1 : l'.all (·.oneCell') = true)
    (h : ∀ w', Arr k l' w' → Off k w w' → wpList Tryz.prog ops Q rest (a.put op.dst undef) w') : wpList Tryz.prog ops Q (op :: rest) a w := by
 have th : w.there k 0 l'.length := fun j hj => by
  rw [Nat.zero_add]
  exact ⟨by rw [A.c j (by omega)]; rfl, A.f j (by omega)⟩
 have of := off_cells k l' 0 w
 refine wpList_store_mid hgd ty x y ho k 0 l'.toArray hx hy (by simpa using th) (by simpa using hi) (by simpa using h1) ?_
 refine h _ ⟨fun i hi' => ?_, fun i hi' => ?_, by simp only [of.size]; exact A.lies⟩ of
 ·have := World.cell?_setCells_in k l' 0 w (fun j hj => (th j hj).1) i hi'
  rw [Nat.zero_add] at this
  exact this
 ·show (w.setCells k 0 l').frozen? _ = false
  rw [World.frozen?_setCells]
  exact A.f i (by omega)
theorem row_one (N : Nat) (g : Nat → Int) : (row N g).all (·.oneCell') = true := by
 rw [List.all_eq_true]
 intro v hv
 unfold row at hv
 obtain ⟨i, _, rfl⟩ := List.mem_map.1 hv
 rfl
end Go.Proofs.YtbophanlmkbfeaaGreatDoor
namespace Go.Proofs.YtbophanlmkbfeaaGreatDoor
open Go.RowKit
def zS (a : Act) (n : Nat) : Nat → Value := fun i => (a.tmps.toList.drop n).getD i undef
theorem give_act {J : Act → World → Prop} {a : Act} {W : World} (h : ∀ a', a' = a → J a' W) : J a W := h a rfl
end Go.Proofs.YtbophanlmkbfeaaGreatDoor
namespace Go.Proofs.YtbophanlmkbfeaaGreatDoor
open Go.RowKit
theorem row_yield {ops : Array Oper} {S : World → Prop} {op : Oper} {a : Act} {ty : TypeId} {x : Operand} {k : Nat} {l : List Value} (hw : Region.wanted op (yielded ops a.tmps) = true) (ho : op.op = .load ty x)
    (hx : a.eval x = .pointer (some ⟨k, 0, none⟩)) (hS : ∀ w, S w → Arr k l w) (hd : (Tryz.prog.underlying ty).any TypeDesc.isRow = true) (hi : (Tryz.prog.info? ty).map (·.size) = some l.length) :
    YieldsIf Tryz.prog ops S op (.agg l.toArray) a := by
 cases hu : Tryz.prog.underlying ty with
 | none => rw [hu] at hd; cases hd
 | some d => rw [hu] at hd; exact yieldsIf_load_mid hw ty x ho k 0 hx _ d (fun w h => (hS w h).range) hu hd hi
def NearR (k N : Nat) (g : Nat → Int) (o : Nat) (w : World) : Prop := ∃ g' : Nat → Int, Arr k (row N g') w ∧ ∀ x, x ≠ o → g' x = g x
theorem NearR.same {k N o : Nat} {g : Nat → Int} {w : World} (A : Arr k (row N g) w) : NearR k N g o w := ⟨g, A, fun _ _ => rfl⟩
theorem NearR.upd {k N o : Nat} {g : Nat → Int} {v : Int} {w : World} (A : Arr k (row N (updF g o v)) w) : NearR k N g o w := ⟨_, A, fun _ hx => if_neg hx⟩
theorem get_cont {P : Program} {c : Code} {Q : Exit → Act → World → Prop} {a : Act} {w : World} (h : ∀ K : Act → World → Prop, Hid (K = fun a w => Q .normal a w) → Code.wp P c Q a w) : Code.wp P c Q a w := h _ rfl
theorem put_cont {K : Act → World → Prop} {Q : Exit → Act → World → Prop} {a : Act} {w : World} (e : Hid (K = fun a w => Q .normal a w)) (h : K a w) : Q .normal a w := by rw [e.out] at h; exact h
theorem use_cont {K p : Act → World → Prop} {a : Act} {w : World} (h : ∀ a w, p a w → K a w) (hp : p a w) : K a w := h a w hp
end Go.Proofs.YtbophanlmkbfeaaGreatDoor
namespace Go.Proofs.YtbophanlmkbfeaaGreatDoor
open Go.RowKit
end Go.Proofs.YtbophanlmkbfeaaGreatDoor
namespace Go.Proofs.YtbophanlmkbfeaaGreatDoor
open Go.RowKit
end Go.Proofs.YtbophanlmkbfeaaGreatDoor
namespace Go.Proofs.YtbophanlmkbfeaaGreatDoor
open Go.RowKit
end Go.Proofs.YtbophanlmkbfeaaGreatDoor
namespace Go.Proofs.YtbophanlmkbfeaaGreatDoor
open Go.RowKit
def guessF (q : V4) (v : V3) (p : Nat → Int) : Nat → Int := fun i => if i < 7 then (if i = 0 then q.1 else if i = 1 then q.2.1 else if i = 2 then q.2.2.1 else if i = 3 then q.2.2.2 else if i = 4 then v.1 else if i = 5 then v.2.1 else v.2.2) else p (i - 7)
def matF (y : Nat → Int) : Nat → Int := fun i => if i < 6 then y i else 0
end Go.Proofs.YtbophanlmkbfeaaGreatDoor
namespace Go.Proofs.YtbophanlmkbfeaaGreatDoor
open Go.RowKit
def hmiddleS_l0s (x : Nat → Int) (k : Nat) (s0 : Int × Bool) : Int × Bool := let p1 := addS s0.2 s0.1 (x k); (p1.1, p1.2)
def hmiddleS_l0 (x : Nat → Int) (z : Int × Bool) : Nat → Int × Bool
 | 0 => z
 | k + 1 => hmiddleS_l0s x k (hmiddleS_l0 x z k)
theorem hmiddleS_l0_succ (x : Nat → Int) (z : Int × Bool) (k : Nat) : hmiddleS_l0 x z (k + 1) = hmiddleS_l0s x k (hmiddleS_l0 x z k) := rfl
def hmiddleS (bad : Bool) (x : Nat → Int) : (Int) × Bool := let r2 := hmiddleS_l0 x ((x 0), bad) 13; let r3 := partS r2.2 r2.1 1 14; (r3.1, r3.2)
def hproductsS_l2s (x : Nat → Int) (y : Nat → Int) (i : Nat) (j : Nat) (k : Nat) (s2 : (Nat → Int) × Bool) : (Nat → Int) × Bool := let p1 := mulS s2.2 (x (k * 6 + i)) (y (k * 6 + j)); ((updF s2.1 k p1.1), p1.2)
def hproductsS_l2 (x : Nat → Int) (y : Nat → Int) (i : Nat) (j : Nat) (z : (Nat → Int) × Bool) : Nat → (Nat → Int) × Bool
 | 0 => z
 | k + 1 => hproductsS_l2s x y i j k (hproductsS_l2 x y i j z k)
theorem hproductsS_l2_succ (x : Nat → Int) (y : Nat → Int) (i : Nat) (j : Nat) (z : (Nat → Int) × Bool) (k : Nat) : hproductsS_l2 x y i j z (k + 1) = hproductsS_l2s x y i j k (hproductsS_l2 x y i j z k) := rfl
def hproductsS_l1s (x : Nat → Int) (y : Nat → Int) (i : Nat) (j : Nat) (s1 : (Nat → Int) × Bool) : (Nat → Int) × Bool := let p1 := hproductsS_l2 x y i j ((fun _ => 0), s1.2) 13; let p2 := hmiddleS p1.2 p1.1; ((updF s1.1 (i * 6 + j) p2.1), p2.2)
def hproductsS_l1 (x : Nat → Int) (y : Nat → Int) (i : Nat) (z : (Nat → Int) × Bool) : Nat → (Nat → Int) × Bool
 | 0 => z
 | j + 1 => hproductsS_l1s x y i j (hproductsS_l1 x y i z j)
theorem hproductsS_l1_succ (x : Nat → Int) (y : Nat → Int) (i : Nat) (z : (Nat → Int) × Bool) (j : Nat) : hproductsS_l1 x y i z (j + 1) = hproductsS_l1s x y i j (hproductsS_l1 x y i z j) := rfl
def hproductsS_l0s (x : Nat → Int) (y : Nat → Int) (i : Nat) (s0 : (Nat → Int) × Bool) : (Nat → Int) × Bool := let p1 := hproductsS_l1 x y i (s0.1, s0.2) 6; (p1.1, p1.2)
def hproductsS_l0 (x : Nat → Int) (y : Nat → Int) (z : (Nat → Int) × Bool) : Nat → (Nat → Int) × Bool
 | 0 => z
 | i + 1 => hproductsS_l0s x y i (hproductsS_l0 x y z i)
theorem hproductsS_l0_succ (x : Nat → Int) (y : Nat → Int) (z : (Nat → Int) × Bool) (i : Nat) : hproductsS_l0 x y z (i + 1) = hproductsS_l0s x y i (hproductsS_l0 x y z i) := rfl
def hproductsS (bad : Bool) (x : Nat → Int) (y : Nat → Int) : (Nat → Int) × Bool := let r1 := hproductsS_l0 x y ((fun _ => 0), bad) 6; (r1.1, r1.2)
end Go.Proofs.YtbophanlmkbfeaaGreatDoor
namespace Go.Proofs.YtbophanlmkbfeaaGreatDoor
open Go.RowKit
@[go_sem] theorem zero_rows (w : World) : Sem.run Tryz.prog (zeroValue 166) w = .ok (.agg (row 78 (fun _ => 0)).toArray) w := by kernel_rfl
@[go_sem] theorem zero_quats (w : World) : Sem.run Tryz.prog (zeroValue 168) w = .ok (.agg (row 52 (fun _ => 0)).toArray) w := by kernel_rfl
@[go_sem] theorem zero_guess (w : World) : Sem.run Tryz.prog (zeroValue 40) w = .ok (.agg (row 43 (fun _ => 0)).toArray) w := by kernel_rfl
end Go.Proofs.YtbophanlmkbfeaaGreatDoor
namespace Go.Proofs.YtbophanlmkbfeaaGreatDoor
open Go.RowKit
@[go_sem] theorem zero_frows (w : World) : Sem.run Tryz.prog (zeroValue 171) w = .ok (.agg (row 78 (fun _ => 0)).toArray) w := by kernel_rfl
@[go_sem] theorem zero_ints13 (w : World) : Sem.run Tryz.prog (zeroValue 238) w = .ok (.agg (row 13 (fun _ => 0)).toArray) w := by kernel_rfl
@[go_sem] theorem index_ints13 (g : Nat → Int) (k : Nat) (w : World) (h : (k : Int) < 13) : (Instr.index 238 (.agg (row 13 g).toArray) (.int .i64 (k : Int))).run Tryz.prog w = .ok (.int .i64 (g k)) w := by
 have hk : k = 0 ∨ k = 1 ∨ k = 2 ∨ k = 3 ∨ k = 4 ∨ k = 5 ∨ k = 6 ∨ k = 7 ∨ k = 8 ∨ k = 9 ∨ k = 10 ∨ k = 11 ∨ k = 12 := by omega
 rcases hk with rfl | rfl | rfl | rfl | rfl | rfl | rfl | rfl | rfl | rfl | rfl | rfl | rfl <;> (show _ = _; kernel_rfl)
@[go_sem] theorem index_frows (g : Nat → Int) (k : Nat) (w : World) (h : (k : Int) < 13) : (Instr.index 171 (.agg (row 78 g).toArray) (.int .i64 (k : Int))).run Tryz.prog w = .ok (.agg (row 6 fun x_ => g (k * 6 + x_)).toArray) w := by
 have hk : k = 0 ∨ k = 1 ∨ k = 2 ∨ k = 3 ∨ k = 4 ∨ k = 5 ∨ k = 6 ∨ k = 7 ∨ k = 8 ∨ k = 9 ∨ k = 10 ∨ k = 11 ∨ k = 12 := by omega
 rcases hk with rfl | rfl | rfl | rfl | rfl | rfl | rfl | rfl | rfl | rfl | rfl | rfl | rfl <;> (show _ = _; kernel_rfl)
@[go_sem] theorem index_quats13 (g : Nat → Int) (k : Nat) (w : World) (h : (k : Int) < 13) : (Instr.index 168 (.agg (row 52 g).toArray) (.int .i64 (k : Int))).run Tryz.prog w = .ok (.agg #[.int .i64 (g (k * 4)), .int .i64 (g (k * 4 + 1)), .int .i64 (g (k * 4 + 2)), .int .i64 (g (k * 4 + 3))]) w := by
 have hk : k = 0 ∨ k = 1 ∨ k = 2 ∨ k = 3 ∨ k = 4 ∨ k = 5 ∨ k = 6 ∨ k = 7 ∨ k = 8 ∨ k = 9 ∨ k = 10 ∨ k = 11 ∨ k = 12 := by omega
 rcases hk with rfl | rfl | rfl | rfl | rfl | rfl | rfl | rfl | rfl | rfl | rfl | rfl | rfl <;> (show _ = _; kernel_rfl)
@[go_sem] theorem index_row0 (g : Nat → Int) (w : World) : (Instr.index 36 (.agg (row 6 g).toArray) (.int .i64 0)).run Tryz.prog w = .ok (.int .i64 (g 0)) w := by kernel_rfl
def buildGD (a b c d x y z : Int) (p : Nat → Int) : Sem Value := Instr.build 40 #[(0, .agg #[.int .i64 a, .int .i64 b, .int .i64 c, .int .i64 d]), (1, .agg #[.int .i64 x, .int .i64 y, .int .i64 z]), (2, .agg (row 36 p).toArray)]
@[go_sem high] theorem buildG_is (a b c d x y z : Int) (p : Nat → Int) : Instr.build 40 #[(0, .agg #[.int .i64 a, .int .i64 b, .int .i64 c, .int .i64 d]), (1, .agg #[.int .i64 x, .int .i64 y, .int .i64 z]), (2, .agg (row 36 p).toArray)] = buildGD a b c d x y z p := rfl
@[go_sem] theorem buildG_run (a b c d x y z : Int) (p : Nat → Int) (w : World) : (buildGD a b c d x y z p).run Tryz.prog w = .ok (.agg (row 43 (guessF (a, b, c, d) (x, y, z) p)).toArray) w := by kernel_rfl
def buildQD (a b c d : Int) : Sem Value := Instr.build 40 #[(0, .agg #[.int .i64 a, .int .i64 b, .int .i64 c, .int .i64 d])]
@[go_sem high] theorem buildQ_is (a b c d : Int) : Instr.build 40 #[(0, .agg #[.int .i64 a, .int .i64 b, .int .i64 c, .int .i64 d])] = buildQD a b c d := rfl
@[go_sem] theorem buildQ_run (a b c d : Int) (w : World) : (buildQD a b c d).run Tryz.prog w = .ok (.agg (row 43 (guessF (a, b, c, d) (0, 0, 0) (fun _ => 0))).toArray) w := by kernel_rfl
def build0D : Sem Value := Instr.build 40 #[]
@[go_sem high] theorem build0_is : Instr.build 40 #[] = build0D := rfl
@[go_sem] theorem build0_run (w : World) : build0D.run Tryz.prog w = .ok (.agg (row 43 (fun _ => 0)).toArray) w := by kernel_rfl
def buildMD (y : Nat → Int) : Sem Value := Instr.build 38 #[(0, .agg (row 6 y).toArray)]
@[go_sem high] theorem buildM_is (y : Nat → Int) : Instr.build 38 #[(0, .agg (row 6 y).toArray)] = buildMD y := rfl
@[go_sem] theorem buildM_run (y : Nat → Int) (w : World) : (buildMD y).run Tryz.prog w = .ok (.agg (row 36 (matF y)).toArray) w := by kernel_rfl
end Go.Proofs.YtbophanlmkbfeaaGreatDoor
namespace Go.Proofs.YtbophanlmkbfeaaGreatDoor
open Go.RowKit
end Go.Proofs.YtbophanlmkbfeaaGreatDoor
namespace Go.Proofs.YtbophanlmkbfeaaGreatDoor
theorem rounds_letter {P : Program} {c : Code} {Q : Exit → Act → World → Prop} {n : Nat} {a : Act} {w : World} {S : World → Prop} (hS : S w) (h : ∀ w', S w' → Code.rounds P c Q n a w') : Code.rounds P c Q n a w := h w hS
end Go.Proofs.YtbophanlmkbfeaaGreatDoor
namespace Go.Proofs.YtbophanlmkbfeaaGreatDoor
open Go.RowKit
set_option maxRecDepth 100000
set_option maxHeartbeats 20000000
end Go.Proofs.YtbophanlmkbfeaaGreatDoor
namespace Go.Proofs.YtbophanlmkbfeaaGreatDoor
open Go.RowKit
set_option maxRecDepth 100000
set_option maxHeartbeats 20000000
theorem hmiddle_any (b : Nat) (bad : Bool) (x : Nat → Int) (w : World) (hw : Fl b bad w) :
    Calls Tryz.prog 184 #[.pointer (some ⟨b, 0, none⟩), .agg (row 13 x).toArray] w fun e w' => e = .returned (.int .i64 ((hmiddleS bad x).1)) ∧ Fl b (hmiddleS bad x).2 w' ∧ Kept b w w' := by
 have hl := hw.lies
 go_enter Tryz.func184, Tryz.ntmps184
 have y1_BF := hw.lies
 have c1_B0_0 := row_c (Arr_at w w.heap.size (row 13 x) 238 rfl) 0 (by omega)
 go_wp2_with (refine row_load (ty := 238) rfl rfl rfl (Arr_at _ _ (row 13 x) _ (by simp)) (by kernel_rfl) (by rw [row_len]; kernel_rfl) ?_)
 clear c1_B0_0
 obtain ⟨J0, hJ0⟩ : ∃ J : Nat → Act → World → Prop, Hid (J = fun k a Wl0 => ∀ G_ : Prop, (∀ (s0 : Int × Bool) (A0 C0 : Nat → Value), Hid (hmiddleS_l0 x ((x 0), bad) k = s0) → a = { tmps := #[.pointer (some ⟨b, 0, none⟩), A0 1, A0 2, A0 3, A0 4, .int .i64 s0.1, A0 6, A0 7, A0 8, A0 9, .agg (row 13 x).toArray, .int .i64 (k : Int), A0 12, A0 13, A0 14, A0 15, A0 16, A0 17, A0 18, A0 19, C0 0, C0 1], defers := [] } → Kept b w Wl0 → Fl b s0.2 Wl0 → G_) → G_) := ⟨_, rfl⟩
 refine rounds_up J0 13 ?_ ?_ ?_
 ·refine give_act (fun a_ ea_ => ?_)
  rw [hJ0.out]
  intro G_ hG_
  exact hG_ ((x 0), bad) (zS a_ 0) (zS a_ 20) rfl (by subst ea_; rfl) ((Kept.refl b w).al _) (hw.alloc _)
 ·intro k a Wl0 hk hI R hR
  rw [hJ0.out] at hI
  refine hI _ ?_
  clear hI
  intro s0 A0 C0 El0 ea Kl0 BF_l0
  subst ea
  have zl0_BF := BF_l0.lies
  have i2_0 : (k : Int) < 13 := by omega
  go_wp2_with fail
  refine (Add_any b s0.2 s0.1 (x k) _ BF_l0).mono ?_
  rintro e w1 ⟨rfl, f1, k1⟩
  generalize e1 : addS s0.2 s0.1 (x k) = r1 at f1 ⊢
  have E1 : Hid _ := e1
  clear e1
  try dsimp only
  have K1 : Kept b w w1 := Kept.trans Kl0 k1
  have z1 := K1.size
  clear i2_0 BF_l0 k1
  go_wp2_with fail
  have hs0 : Hid (hmiddleS_l0 x ((x 0), bad) (k + 1) = (r1.1, r1.2)) := by show _ = _; rw [hmiddleS_l0_succ]; unfold hmiddleS_l0s; simp only [El0.out, E1.out]
  refine give_act (fun a_ ea_ => ?_)
  rw [hJ0.out]
  intro G_ hG_
  exact hG_ (r1.1, r1.2) (zS a_ 0) (zS a_ 20) hs0 (by subst ea_; rfl) K1 f1
 ·intro a Wl0 hI R
  rw [hJ0.out] at hI
  refine hI _ ?_
  clear hI hJ0
  intro r2 A0 C0 E2 ea Kl0 BF_l0
  subst ea
  have zl0_BF := BF_l0.lies
  go_wp2_with fail
  refine (Part_any b r2.2 r2.1 1 14 _ BF_l0).mono ?_
  rintro e w3 ⟨rfl, f3, k3⟩
  generalize e3 : partS r2.2 r2.1 1 14 = r3 at f3 ⊢
  have E3 : Hid _ := e3
  clear e3
  try dsimp only
  have K3 : Kept b w w3 := Kept.trans Kl0 k3
  have z3 := K3.size
  clear BF_l0 k3
  go_wp2
  go_ret
  have hs : hmiddleS bad x = (r3.1, r3.2) := by unfold hmiddleS; simp only [E2.out, E3.out]
  rw [hs]
  exact ⟨rfl, f3, K3⟩
end Go.Proofs.YtbophanlmkbfeaaGreatDoor
namespace Go.Proofs.YtbophanlmkbfeaaGreatDoor
open Go.RowKit
set_option maxRecDepth 100000
set_option maxHeartbeats 20000000
theorem hproducts_any (b : Nat) (bad : Bool) (x : Nat → Int) (y : Nat → Int) (w : World) (hw : Fl b bad w) :
    Calls Tryz.prog 115 #[.pointer (some ⟨b, 0, none⟩), .agg (row 78 x).toArray, .agg (row 78 y).toArray] w fun e w' => e = .returned (.agg (row 36 ((hproductsS bad x y).1)).toArray) ∧ Fl b (hproductsS bad x y).2 w' ∧ Kept b w w' := by
 have hl := hw.lies
 go_enter Tryz.func115, Tryz.ntmps115
 have y1_BF := hw.lies
 have y2_BF : b < w.heap.size + 1 := (Nat.lt_succ_of_lt hw.lies)
 have y2_B0 : w.heap.size < w.heap.size + 1 := by omega
 have y3_BF : b < w.heap.size + 1 + 1 := (Nat.lt_succ_of_lt (Nat.lt_succ_of_lt hw.lies))
 have y3_B0 : w.heap.size < w.heap.size + 1 + 1 := by omega
 have y3_B1 : w.heap.size + 1 < w.heap.size + 1 + 1 := by omega
 have y4_BF : b < w.heap.size + 1 + 1 + 1 := (Nat.lt_succ_of_lt (Nat.lt_succ_of_lt (Nat.lt_succ_of_lt hw.lies)))
 have y4_B0 : w.heap.size < w.heap.size + 1 + 1 + 1 := by omega
 have y4_B1 : w.heap.size + 1 < w.heap.size + 1 + 1 + 1 := by omega
 have y4_B2 : w.heap.size + 1 + 1 < w.heap.size + 1 + 1 + 1 := by omega
 go_wp2_with fail
 obtain ⟨J0, hJ0⟩ : ∃ J : Nat → Act → World → Prop, Hid (J = fun i a Wl0 => ∀ G_ : Prop, (∀ (s0 : (Nat → Int) × Bool) (A0 C0 D0 : Nat → Value), Hid (hproductsS_l0 x y ((fun _ => 0), bad) i = s0) → a = { tmps := #[.pointer (some ⟨b, 0, none⟩), A0 1, A0 2, A0 3, .pointer (some ⟨w.heap.size, 0, none⟩), .pointer (some ⟨w.heap.size + 1, 0, none⟩), .pointer (some ⟨w.heap.size + 1 + 1, 0, none⟩), .pointer (some ⟨w.heap.size + 1 + 1 + 1, 0, none⟩), A0 8, A0 9, A0 10, A0 11, .int .i64 (i : Int), A0 13, A0 14, A0 15, A0 16, A0 17, A0 18, A0 19, C0 0, C0 1, C0 2, C0 3, C0 4, C0 5, C0 6, C0 7, C0 8, C0 9, C0 10, C0 11, C0 12, C0 13, C0 14, C0 15, C0 16, C0 17, C0 18, C0 19, D0 0, D0 1, D0 2, D0 3, D0 4, D0 5], defers := [] } → Kept b w Wl0 → Fl b s0.2 Wl0 → Arr w.heap.size (row 78 x) Wl0 → Arr (w.heap.size + 1) (row 78 y) Wl0 → Arr (w.heap.size + 1 + 1) (row 36 (fun _ => 0)) Wl0 → Arr (w.heap.size + 1 + 1 + 1) (row 36 s0.1) Wl0 → G_) → G_) := ⟨_, rfl⟩
 refine rounds_up J0 6 ?_ ?_ ?_
 ·refine give_act (fun a_ ea_ => ?_)
  rw [hJ0.out]
  intro G_ hG_
  exact hG_ ((fun _ => 0), bad) (zS a_ 0) (zS a_ 20) (zS a_ 40) rfl (by subst ea_; rfl) (((((Kept.refl b w).al _).al _).al _).al _) ((((hw.alloc _).alloc _).alloc _).alloc _) ((((Arr_at _ _ (row 78 x) _ (by simp)).alloc _).alloc _).alloc _) (((Arr_at _ _ (row 78 y) _ (by simp)).alloc _).alloc _) ((Arr_at _ _ (row 36 (fun _ => 0)) _ (by simp)).alloc _) (Arr_at _ _ (row 36 (fun _ => 0)) _ (by simp))
 ·intro i a Wl0 hi hI R hR
  rw [hJ0.out] at hI
  refine hI _ ?_
  clear hI
  intro s0 A0 C0 D0 El0 ea Kl0 BF_l0 B0_l0 B1_l0 B2_l0 B3_l0
  subst ea
  have zl0_BF := BF_l0.lies
  have zl0_B0 := B0_l0.lies
  have zl0_B1 := B1_l0.lies
  have zl0_B2 := B2_l0.lies
  have zl0_B3 := B3_l0.lies
  go_wp2_with fail
  obtain ⟨J1, hJ1⟩ : ∃ J : Nat → Act → World → Prop, Hid (J = fun j a Wl1 => ∀ G_ : Prop, (∀ (s1 : (Nat → Int) × Bool) (A1 C1 D1 : Nat → Value), Hid (hproductsS_l1 x y i (s0.1, s0.2) j = s1) → a = { tmps := #[.pointer (some ⟨b, 0, none⟩), A1 1, A1 2, A1 3, .pointer (some ⟨w.heap.size, 0, none⟩), .pointer (some ⟨w.heap.size + 1, 0, none⟩), .pointer (some ⟨w.heap.size + 1 + 1, 0, none⟩), .pointer (some ⟨w.heap.size + 1 + 1 + 1, 0, none⟩), .int .i64 (i : Int), A1 9, A1 10, A1 11, .int .i64 (i : Int), A1 13, A1 14, .int .i64 (j : Int), A1 16, A1 17, A1 18, A1 19, C1 0, C1 1, C1 2, C1 3, C1 4, C1 5, C1 6, C1 7, C1 8, C1 9, C1 10, C1 11, C1 12, C1 13, C1 14, C1 15, C1 16, C1 17, C1 18, C1 19, D1 0, D1 1, D1 2, D1 3, D1 4, D1 5], defers := [] } → Kept b w Wl1 → Fl b s1.2 Wl1 → Arr w.heap.size (row 78 x) Wl1 → Arr (w.heap.size + 1) (row 78 y) Wl1 → Arr (w.heap.size + 1 + 1) (row 36 (fun _ => 0)) Wl1 → Arr (w.heap.size + 1 + 1 + 1) (row 36 s1.1) Wl1 → G_) → G_) := ⟨_, rfl⟩
  refine rounds_up J1 6 ?_ ?_ ?_
  ·refine give_act (fun a_ ea_ => ?_)
   rw [hJ1.out]
   intro G_ hG_
   exact hG_ (s0.1, s0.2) (zS a_ 0) (zS a_ 20) (zS a_ 40) rfl (by subst ea_; rfl) Kl0 BF_l0 B0_l0 B1_l0 B2_l0 B3_l0
  ·intro j a Wl1 hj hI R hR
   rw [hJ1.out] at hI
   refine hI _ ?_
   clear hI
   intro s1 A1 C1 D1 El1 ea Kl1 BF_l1 B0_l1 B1_l1 B2_l1 B3_l1
   subst ea
   have zl1_BF := BF_l1.lies
   have zl1_B0 := B0_l1.lies
   have zl1_B1 := B1_l1.lies
   have zl1_B2 := B2_l1.lies
   have zl1_B3 := B3_l1.lies
   have y13_BF := BF_l1.lies
   have y13_B0 := B0_l1.lies
   have y13_B1 := B1_l1.lies
   have y13_B2 := B2_l1.lies
   have y13_B3 := B3_l1.lies
   go_wp2_with fail
   obtain ⟨J2, hJ2⟩ : ∃ J : Nat → Act → World → Prop, Hid (J = fun k a Wl2 => ∀ G_ : Prop, (∀ (s2 : (Nat → Int) × Bool) (A2 C2 D2 : Nat → Value), Hid (hproductsS_l2 x y i j ((fun _ => 0), s1.2) k = s2) → a = { tmps := #[.pointer (some ⟨b, 0, none⟩), A2 1, A2 2, A2 3, .pointer (some ⟨w.heap.size, 0, none⟩), .pointer (some ⟨w.heap.size + 1, 0, none⟩), .pointer (some ⟨w.heap.size + 1 + 1, 0, none⟩), .pointer (some ⟨w.heap.size + 1 + 1 + 1, 0, none⟩), .int .i64 (i : Int), .int .i64 (j : Int), .pointer (some ⟨Wl1.heap.size, 0, none⟩), A2 11, .int .i64 (i : Int), A2 13, A2 14, .int .i64 (j : Int), A2 16, A2 17, .int .i64 (k : Int), A2 19, C2 0, C2 1, C2 2, C2 3, C2 4, C2 5, C2 6, C2 7, C2 8, C2 9, C2 10, C2 11, C2 12, C2 13, C2 14, C2 15, C2 16, C2 17, C2 18, C2 19, D2 0, D2 1, D2 2, D2 3, D2 4, D2 5], defers := [] } → Kept b w Wl2 → Fl b s2.2 Wl2 → Arr w.heap.size (row 78 x) Wl2 → Arr (w.heap.size + 1) (row 78 y) Wl2 → Arr (w.heap.size + 1 + 1) (row 36 (fun _ => 0)) Wl2 → Arr (w.heap.size + 1 + 1 + 1) (row 36 s1.1) Wl2 → Arr Wl1.heap.size (row 13 s2.1) Wl2 → G_) → G_) := ⟨_, rfl⟩
   refine rounds_up J2 13 ?_ ?_ ?_
   ·refine give_act (fun a_ ea_ => ?_)
    rw [hJ2.out]
    intro G_ hG_
    exact hG_ ((fun _ => 0), s1.2) (zS a_ 0) (zS a_ 20) (zS a_ 40) rfl (by subst ea_; rfl) (Kl1.al _) (BF_l1.alloc _) (B0_l1.alloc _) (B1_l1.alloc _) (B2_l1.alloc _) (B3_l1.alloc _) (Arr_at _ _ (row 13 (fun _ => 0)) _ (by simp))
   ·intro k a Wl2 hk hI R hR
    rw [hJ2.out] at hI
    refine hI _ ?_
    clear hI
    intro s2 A2 C2 D2 El2 ea Kl2 BF_l2 B0_l2 B1_l2 B2_l2 B3_l2 B4_l2
    subst ea
    have zl2_BF := BF_l2.lies
    have zl2_B0 := B0_l2.lies
    have zl2_B1 := B1_l2.lies
    have zl2_B2 := B2_l2.lies
    have zl2_B3 := B3_l2.lies
    have zl2_B4 := B4_l2.lies
    go_wp2_with fail
    refine wp_region_held_drew (S := fun w' => Arr w.heap.size (row 78 x) w' ∧ Arr (w.heap.size + 1) (row 78 y) w') (by kernel_rfl) ⟨B0_l2.drew, B1_l2.drew⟩ (fun zH => ?_)
    refine zT 0 rfl (by kernel_rfl) (fun _ _ _ => id) rfl (fun _ _ => by go_simp <;> with_reducible rfl) zH ?_
    simp only [Act.put, zA, zB, zC]
    refine zT 1 rfl (by kernel_rfl) (fun _ _ _ => id) rfl (fun _ _ => by go_simp <;> with_reducible rfl) zH ?_
    simp only [Act.put, zA, zB, zC]
    refine zT 2 rfl (by kernel_rfl) (fun _ _ _ => id) rfl (fun _ _ => by go_simp <;> with_reducible rfl) zH ?_
    simp only [Act.put, zA, zB, zC]
    refine zT 3 rfl (by kernel_rfl) (fun _ _ _ => id) rfl (fun _ _ => by go_simp <;> with_reducible rfl) zH ?_
    simp only [Act.put, zA, zB, zC]
    refine zT 4 rfl (by kernel_rfl) (fun _ _ _ => id) rfl (fun _ _ => by have hi0 : (k : Int) < 13 := (by omega); go_simp <;> with_reducible rfl) zH ?_
    simp only [Act.put, zA, zB, zC]
    refine zT 5 rfl (by kernel_rfl) (fun _ _ _ => id) rfl (fun _ _ => by have hi0 : (i : Int) < 6 := (by omega); go_simp <;> with_reducible rfl) zH ?_
    simp only [Act.put, zA, zB, zC]
    refine zT 6 rfl (by kernel_rfl) (fun _ _ _ => id) rfl (fun wx hS => by have hc0 : wx.cell? ⟨w.heap.size, k * 6 + i, none⟩ = some (.int .i64 (x (k * 6 + i))) := row_c hS.1 (k * 6 + i) (by omega); go_simp <;> with_reducible rfl) zH ?_
    simp only [Act.put, zA, zB, zC]
    refine zT 7 rfl (by kernel_rfl) (fun _ _ _ => id) rfl (fun _ _ => by go_simp <;> with_reducible rfl) zH ?_
    simp only [Act.put, zA, zB, zC]
    refine zT 8 rfl (by kernel_rfl) (fun _ _ _ => id) rfl (fun _ _ => by go_simp <;> with_reducible rfl) zH ?_
    simp only [Act.put, zA, zB, zC]
    refine zT 9 rfl (by kernel_rfl) (fun _ _ _ => id) rfl (fun _ _ => by have hi0 : (k : Int) < 13 := (by omega); go_simp <;> with_reducible rfl) zH ?_
    simp only [Act.put, zA, zB, zC]
    refine zT 10 rfl (by kernel_rfl) (fun _ _ _ => id) rfl (fun _ _ => by have hi0 : (j : Int) < 6 := (by omega); go_simp <;> with_reducible rfl) zH ?_
    simp only [Act.put, zA, zB, zC]
    refine zT 11 rfl (by kernel_rfl) (fun _ _ _ => id) rfl (fun wx hS => by have hc0 : wx.cell? ⟨w.heap.size + 1, k * 6 + j, none⟩ = some (.int .i64 (y (k * 6 + j))) := row_c hS.2 (k * 6 + j) (by omega); go_simp <;> with_reducible rfl) zH ?_
    simp only [Act.put, zA, zB, zC]
    refine zK 12 (by kernel_rfl) rfl (fun K hK => ?_)
    go_simp
    refine (Mul_any b s2.2 (x (k * 6 + i)) (y (k * 6 + j)) _ BF_l2.drew).mono ?_
    rintro e w1 ⟨rfl, f1, k1⟩
    generalize e1 : mulS s2.2 (x (k * 6 + i)) (y (k * 6 + j)) = r1 at f1 ⊢
    have E1 : Hid _ := e1
    clear e1
    have K1 : Kept b w w1 := Kept.trans Kl2.drew k1
    have B0_1 := B0_l2.drew.kept k1 (zG y1_BF)
    have B1_1 := B1_l2.drew.kept k1 (zG y2_BF)
    have B2_1 := B2_l2.drew.kept k1 (zG y3_BF)
    have B3_1 := B3_l2.drew.kept k1 (zG y4_BF)
    have B4_1 := B4_l2.drew.kept k1 (zG y13_BF)
    have z1 := B4_1.lies
    clear zH
    refine hK.out _ _ ⟨B0_1, B1_1⟩ (fun zH => ?_)
    clear hK K BF_l2 B0_l2 B1_l2 B2_l2 B3_l2 B4_l2 k1
    refine zT 13 rfl (by kernel_rfl) (fun _ _ _ => id) rfl (fun _ _ => by have hi0 : (k : Int) < 13 := (by omega); go_simp <;> with_reducible rfl) zH ?_
    simp only [Act.put, zA, zB, zC]
    refine zK 14 (by kernel_rfl) rfl (fun K hK => ?_)
    have c5_B4_0 : w1.cell? ⟨Wl1.heap.size, k, none⟩ = some (.int .i64 (s2.1 k)) := row_c B4_1 k (by omega)
    have g5_B4_1 := row_f B4_1 k (by omega)
    go_simp
    clear zH
    refine hK.out _ _ ⟨(B0_1.new Wl1.heap.size k (zL y13_B0) (.int .i64 r1.1)), (B1_1.new Wl1.heap.size k (zL y13_B1) (.int .i64 r1.1))⟩ (fun zH => ?_)
    clear hK K c5_B4_0 g5_B4_1
    refine wpAnyH_done (by kernel_rfl) ?_ _
    clear zH
    go_wp2_with fail
    have hs2 : Hid (hproductsS_l2 x y i j ((fun _ => 0), s1.2) (k + 1) = ((updF s2.1 k r1.1), r1.2)) := by show _ = _; rw [hproductsS_l2_succ]; unfold hproductsS_l2s; simp only [El2.out, E1.out]
    refine give_act (fun a_ ea_ => ?_)
    rw [hJ2.out]
    intro G_ hG_
    exact hG_ ((updF s2.1 k r1.1), r1.2) (zS a_ 0) (zS a_ 20) (zS a_ 40) hs2 (by subst ea_; rfl) (K1.new _ _ (by omega) _) (f1.new Wl1.heap.size k (zL y13_BF) (.int .i64 r1.1)) (B0_1.new Wl1.heap.size k (zL y13_B0) (.int .i64 r1.1)) (B1_1.new Wl1.heap.size k (zL y13_B1) (.int .i64 r1.1)) (B2_1.new Wl1.heap.size k (zL y13_B2) (.int .i64 r1.1)) (B3_1.new Wl1.heap.size k (zL y13_B3) (.int .i64 r1.1)) (row_put B4_1 k (by omega) r1.1)
   ·intro a Wl2 hI R
    rw [hJ2.out] at hI
    refine hI _ ?_
    clear hI hJ2
    intro r2 A2 C2 D2 E2 ea Kl2 BF_l2 B0_l2 B1_l2 B2_l2 B3_l2 B4_l2
    subst ea
    have zl2_BF := BF_l2.lies
    have zl2_B0 := B0_l2.lies
    have zl2_B1 := B1_l2.lies
    have zl2_B2 := B2_l2.lies
    have zl2_B3 := B3_l2.lies
    have zl2_B4 := B4_l2.lies
    go_wp2_with fail
    refine wp_region_held_drew (S := fun w' => Arr Wl1.heap.size (row 13 r2.1) w') (by kernel_rfl) B4_l2.drew (fun zH => ?_)
    refine zT 0 rfl (by kernel_rfl) (fun _ _ _ => id) rfl (fun _ _ => by go_simp <;> with_reducible rfl) zH ?_
    simp only [Act.put, zA, zB, zC]
    refine zT 1 rfl (by kernel_rfl) (fun _ _ _ => id) rfl (fun _ _ => by go_simp <;> with_reducible rfl) zH ?_
    simp only [Act.put, zA, zB, zC]
    refine zT 2 rfl (by kernel_rfl) (fun _ _ _ => id) rfl (fun _ _ => by go_simp <;> with_reducible rfl) zH ?_
    simp only [Act.put, zA, zB, zC]
    refine take_at (i := 3) rfl (by kernel_rfl) (by kernel_rfl) (by kernel_rfl) (fun _ _ _ h => h) (row_yield (by rfl) rfl rfl (fun _ hS => hS) (by kernel_rfl) (by rw [row_len]; kernel_rfl)) zH ?_
    simp only [Act.put, zA, zB, zC]
    refine zT 5 rfl (by kernel_rfl) (fun _ _ _ => id) rfl (fun _ _ => by have hi0 : (i : Int) < 6 := (by omega); go_simp <;> with_reducible rfl) zH ?_
    simp only [Act.put, zA, zB, zC]
    refine zK 4 (by kernel_rfl) rfl (fun K hK => ?_)
    go_simp
    refine (hmiddle_any b r2.2 r2.1 _ BF_l2.drew).mono ?_
    rintro e w3 ⟨rfl, f3, k3⟩
    generalize e3 : hmiddleS r2.2 r2.1 = r3 at f3 ⊢
    have E3 : Hid _ := e3
    clear e3
    have K3 : Kept b w w3 := Kept.trans Kl2.drew k3
    have B0_3 := B0_l2.drew.kept k3 (zG y1_BF)
    have B1_3 := B1_l2.drew.kept k3 (zG y2_BF)
    have B2_3 := B2_l2.drew.kept k3 (zG y3_BF)
    have B3_3 := B3_l2.drew.kept k3 (zG y4_BF)
    have B4_3 := B4_l2.drew.kept k3 (zG y13_BF)
    have z3 := B4_3.lies
    clear zH
    refine hK.out _ _ B4_3 (fun zH => ?_)
    clear hK K BF_l2 B0_l2 B1_l2 B2_l2 B3_l2 B4_l2 k3
    refine zT 6 rfl (by kernel_rfl) (fun _ _ _ => id) rfl (fun _ _ => by have hi0 : (j : Int) < 6 := (by omega); go_simp <;> with_reducible rfl) zH ?_
    simp only [Act.put, zA, zB, zC]
    refine zK 7 (by kernel_rfl) rfl (fun K hK => ?_)
    have c8_B3_0 : w3.cell? ⟨w.heap.size + 1 + 1 + 1, i * 6 + j, none⟩ = some (.int .i64 (s1.1 (i * 6 + j))) := row_c B3_3 (i * 6 + j) (by omega)
    have g8_B3_1 := row_f B3_3 (i * 6 + j) (by omega)
    go_simp
    clear zH
    refine hK.out _ _ (B4_3.new (w.heap.size + 1 + 1 + 1) (i * 6 + j) (zG y13_B3) (.int .i64 r3.1)) (fun zH => ?_)
    clear hK K c8_B3_0 g8_B3_1
    refine wpAnyH_done (by kernel_rfl) ?_ _
    clear zH
    go_wp2_with fail
    have hs1 : Hid (hproductsS_l1 x y i (s0.1, s0.2) (j + 1) = ((updF s1.1 (i * 6 + j) r3.1), r3.2)) := by show _ = _; rw [hproductsS_l1_succ]; unfold hproductsS_l1s; simp only [El1.out, E2.out, E3.out]
    refine give_act (fun a_ ea_ => ?_)
    rw [hJ1.out]
    intro G_ hG_
    exact hG_ ((updF s1.1 (i * 6 + j) r3.1), r3.2) (zS a_ 0) (zS a_ 20) (zS a_ 40) hs1 (by subst ea_; rfl) (K3.new _ _ (by omega) _) (f3.new (w.heap.size + 1 + 1 + 1) (i * 6 + j) (zL y4_BF) (.int .i64 r3.1)) (B0_3.new (w.heap.size + 1 + 1 + 1) (i * 6 + j) (zL y4_B0) (.int .i64 r3.1)) (B1_3.new (w.heap.size + 1 + 1 + 1) (i * 6 + j) (zL y4_B1) (.int .i64 r3.1)) (B2_3.new (w.heap.size + 1 + 1 + 1) (i * 6 + j) (zL y4_B2) (.int .i64 r3.1)) (row_put B3_3 (i * 6 + j) (by omega) r3.1)
  ·intro a Wl1 hI R
   rw [hJ1.out] at hI
   refine hI _ ?_
   clear hI hJ1
   intro r1 A1 C1 D1 E1 ea Kl1 BF_l1 B0_l1 B1_l1 B2_l1 B3_l1
   subst ea
   have zl1_BF := BF_l1.lies
   have zl1_B0 := B0_l1.lies
   have zl1_B1 := B1_l1.lies
   have zl1_B2 := B2_l1.lies
   have zl1_B3 := B3_l1.lies
   go_wp2_with fail
   have hs0 : Hid (hproductsS_l0 x y ((fun _ => 0), bad) (i + 1) = (r1.1, r1.2)) := by show _ = _; rw [hproductsS_l0_succ]; unfold hproductsS_l0s; simp only [El0.out, E1.out]
   refine give_act (fun a_ ea_ => ?_)
   rw [hJ0.out]
   intro G_ hG_
   exact hG_ (r1.1, r1.2) (zS a_ 0) (zS a_ 20) (zS a_ 40) hs0 (by subst ea_; rfl) Kl1 BF_l1 B0_l1 B1_l1 B2_l1 B3_l1
 ·intro a Wl0 hI R
  rw [hJ0.out] at hI
  refine hI _ ?_
  clear hI hJ0
  intro r1 A0 C0 D0 E1 ea Kl0 BF_l0 B0_l0 B1_l0 B2_l0 B3_l0
  subst ea
  have zl0_BF := BF_l0.lies
  have zl0_B0 := B0_l0.lies
  have zl0_B1 := B1_l0.lies
  have zl0_B2 := B2_l0.lies
  have zl0_B3 := B3_l0.lies
  go_wp2_with (first | (refine row_load (ty := 38) rfl rfl rfl B3_l0 (by kernel_rfl) (by rw [row_len]; kernel_rfl) ?_) | (refine store_stop rfl (by kernel_rfl) ?_))
  refine Stop.mk (store_row (l' := row 36 r1.1) rfl rfl rfl rfl B2_l0 (by simp only [row_len]) (by rw [row_len]; kernel_rfl) (row_one _ _) ?_)
  intro w2 B2_2 o2
  have K2 : Kept b w w2 := Kept.off Kl0 o2 (by omega)
  have BF_2 := BF_l0.off o2 (zL y3_BF)
  have B3_2 := B3_l0.off o2 (zG y4_B2)
  have z2_B2 := B2_2.lies
  have z2_BF := BF_2.lies
  have z2_B3 := B3_2.lies
  clear B2_l0 BF_l0 B3_l0 o2
  go_wp2_with (with_reducible refine post_stop ?_)
  refine Stop.mk ?_
  refine bodyPost_ret (v := .agg (row 36 r1.1).toArray) (results_arr Tryz.results115 B2_2 rfl (by kernel_rfl) (by rw [row_len]; kernel_rfl)) rfl ?_
  have hs : hproductsS bad x y = (r1.1, r1.2) := by unfold hproductsS; simp only [E1.out]
  rw [hs]
  exact ⟨rfl, BF_2, K2⟩
end Go.Proofs.YtbophanlmkbfeaaGreatDoor
namespace Go.Proofs.YtbophanlmkbfeaaGreatDoor
open Go.RowKit
def rowDec : List Value → Option (List Int)
 | [] => some []
 | .int .i64 x :: r => (match rowDec r with
  | some l => some (x :: l)
  | none => none)
 | _ => none
theorem rowDec_law : ∀ (vs : List Value) (l : List Int), rowDec vs = some l → vs = l.map fun x => .int .i64 x
 | [], l, h => by cases h; rfl
 | v :: r, l, h => by
  unfold rowDec at h
  split at h
  ·rename_i heq
   cases heq
  ·rename_i x r' heq
   cases heq
   split at h
   ·rename_i l' hl
    cases h
    rw [rowDec_law r l' hl]
    rfl
   ·cases h
  ·cases h
def cRow (N : Nat) : Dc (Nat → Int) where
 enc g := .agg (row N g).toArray
 dec v := match v with
  | .agg cs => (match rowDec cs.toList with
   | some l => (match Nat.beq l.length N with
    | true => some (fun i => l.getD i 0)
    | false => none)
   | none => none)
  | _ => none
 law v x h := by
  split at h
  ·rename_i cs
   split at h
   ·rename_i l hl
    split at h
    ·rename_i hb
     cases h
     have hN : l.length = N := Nat.eq_of_beq_eq_true hb
     have h1 := rowDec_law _ _ hl
     have h2 : cs.toList = row N (fun i => l.getD i 0) := by
      rw [h1]
      refine List.ext_getElem (by rw [row_len, List.length_map, hN]) (fun i h1 h2 => ?_)
      rw [row_get, List.getElem_map, List.getD_eq_getElem?_getD, List.getElem?_eq_getElem (by simpa using h1)]
      rfl
     rw [← h2]
    ·cases h
   ·cases h
  ·cases h
 np _ := rfl
end Go.Proofs.YtbophanlmkbfeaaGreatDoor
