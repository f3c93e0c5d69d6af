/-
  The two tables of package field as the row lists them: what their cells hold, for the seat YtoadcnhcfodkgaaGreatDoor.
-/
import Derived.Test.YtoadcnhcfodkgaaGreatDoorRows
import Derived.Test.YtoadcnhcfodkgaaGreatDoorFTab
import Derived.Test.YtoadcnhcfodkgaaGreatDoorVLoop
import Derived.Lib.LaidTab
import Derived.LaidMore
import Derived.MakeChecks
import Derived.OpenShut
import Derived.ProofKit
namespace Go.Proofs.YtoadcnhcfodkgaaGreatDoor
open Go.ChangeShapes Go.WideShapes Go.ChangeAt Go.RowKit

def laid2 : List (String × DataW Unit) := [("alidade/field.atZero", Rows.laid_alidade_field_atZero), ("alidade/field.inYear", Rows.laid_alidade_field_inYear)]
theorem gAt : Tryz.prog.globalNamed "alidade/field.atZero" = some 0 := by kernel_rfl
theorem gYr : Tryz.prog.globalNamed "alidade/field.inYear" = some 1 := by kernel_rfl
theorem tAt : (Tryz.prog.globals[0]?).map (·.type) = some 309 := by kernel_rfl
theorem tYr : (Tryz.prog.globals[1]?).map (·.type) = some 310 := by kernel_rfl
theorem cell64 : Tryz.prog.cellsOf 2 = 1 := by kernel_rfl
theorem cell2 : Tryz.prog.cellsOf 308 = 2 := by kernel_rfl
theorem cells54 : Tryz.prog.cellsOf 309 = 54 := by kernel_rfl
theorem cells10 : Tryz.prog.cellsOf 310 = 10 := by kernel_rfl
/-- A table of pairs, as it is read. -/
def pairsD (zs : List (Int × Int)) : List (DataW Unit) := zs.map fun z => Lib.tabData .i64 [z.1, z.2]
theorem pair_at {w : World} {fuel : Nat} {cs : List Value} {z : Int × Int} {p : List MemPlace} (h : DataW.trod (fun _ => ()) Tryz.prog w 0 (fun _ => true) false fuel 308 cs = some (Lib.tabData .i64 [z.1, z.2], p)) : cs = [.int .i64 z.1, .int .i64 z.2] :=
  Lib.cells_of_tab Tryz.underlying308 Tryz.underlying2 cell64 cell2 h
theorem tab_cells {w : World} {fuel n : Nat} {t : TypeId} {cs : List Value} {zs : List (Int × Int)} {p : List MemPlace} (ht : Tryz.prog.underlying t = some (.array n 308)) (hc : Tryz.prog.cellsOf t = 2 * n)
    (h : DataW.trod (fun _ => ()) Tryz.prog w 0 (fun _ => true) false fuel t cs = some (.agg (pairsD zs), p)) : cs.length = 2 * n ∧ ∀ i, i < n → cs[2 * i]? = some (.int .i64 (zs.getD i (0, 0)).1) ∧ cs[2 * i + 1]? = some (.int .i64 (zs.getD i (0, 0)).2) := by
  obtain ⟨xs, m, rfl, hx, hl, hn, hel⟩ := DataW.trod_array ht h
  refine ⟨by rw [hl, hc], fun i hi => ?_⟩
  simp only [Prod.mk.injEq, DataW.agg.injEq] at hx
  have hz : zs.length = n := by
    have := congrArg List.length hx.1
    unfold pairsD at this
    simp at this
    omega
  have h1 := hel i hi
  have hxi : i < xs.length := by omega
  have e1 : xs[i]? = some xs[i] := List.getElem?_eq_getElem hxi
  have e2 : xs[i].1 = Lib.tabData .i64 [(zs.getD i (0, 0)).1, (zs.getD i (0, 0)).2] := by
    have a : (pairsD zs)[i]? = (xs.map (·.1))[i]? := by rw [hx.1]
    unfold pairsD at a
    rw [List.getElem?_map, List.getElem?_map, e1] at a
    have b : zs[i]? = some (zs.getD i (0, 0)) := by rw [List.getD_eq_getElem?_getD, List.getElem?_eq_getElem (by omega)]; rfl
    rw [b] at a
    simp only [Option.map_some, Option.some.injEq] at a
    exact a.symm
  rw [e1, cell2] at h1
  have h2 := pair_at (z := zs.getD i (0, 0)) (p := xs[i].2) (h1.trans (by rw [← e2]))
  have g0 : ((cs.drop (i * 2)).take 2)[0]? = some (.int .i64 (zs.getD i (0, 0)).1) := by rw [h2]; rfl
  have g1 : ((cs.drop (i * 2)).take 2)[1]? = some (.int .i64 (zs.getD i (0, 0)).2) := by rw [h2]; rfl
  rw [List.getElem?_take_of_lt (by decide), List.getElem?_drop] at g0 g1
  rw [show i * 2 + 0 = 2 * i by omega] at g0
  rw [show i * 2 + 1 = 2 * i + 1 by omega] at g1
  exact ⟨g0, g1⟩
def atP : List (Int × Int) := [(-293500, 0), (-14103, 45455), (-25562, 0), (29509, -31336), (16487, -8142), (13609, 0), (-24042, -569), (12438, 2376), (4534, -5496), (8947, 0), (7996, 2786), (558, -1340), (-2811, 2120), (120, -3754), (-2329, 0), (3690, 453), (1872, 2200), (-1387, -1229), (-1419, 429), (209, 1062), (643, 0), (638, -184), (767, 168), (-1157, 489), (-409, -598), (149, 109), (-608, 728)]
def yrP : List (Int × Int) := [(126, 0), (100, -215), (-112, 0), (-53, -273), (-83, -111)]
theorem atP_at (i : Nat) (h : i < 27) : (atP.getD i (0, 0)).1 = at0 (2 * i) ∧ (atP.getD i (0, 0)).2 = at0 (2 * i + 1) := by
  have a : ((List.range 27).all fun i => decide ((atP.getD i (0, 0)).1 = at0 (2 * i) ∧ (atP.getD i (0, 0)).2 = at0 (2 * i + 1))) = true := by decide +kernel
  exact of_decide_eq_true (List.all_eq_true.1 a i (List.mem_range.2 h))
theorem yrP_at (i : Nat) (h : i < 5) : (yrP.getD i (0, 0)).1 = yr0 (2 * i) ∧ (yrP.getD i (0, 0)).2 = yr0 (2 * i + 1) := by
  have a : ((List.range 5).all fun i => decide ((yrP.getD i (0, 0)).1 = yr0 (2 * i) ∧ (yrP.getD i (0, 0)).2 = yr0 (2 * i + 1))) = true := by decide +kernel
  exact of_decide_eq_true (List.all_eq_true.1 a i (List.mem_range.2 h))
theorem arr_of {W : World} {name : String} {g n : Nat} {cs : Array Value} {zs : List (Int × Int)} {f : Nat → Int} {ps : List MemPlace} (hg : Tryz.prog.globalNamed name = some g) (hv : W.var? Tryz.prog name = some cs) (hl : cs.toList.length = 2 * n)
    (hc : ∀ i, i < n → cs.toList[2 * i]? = some (.int .i64 (zs.getD i (0, 0)).1) ∧ cs.toList[2 * i + 1]? = some (.int .i64 (zs.getD i (0, 0)).2)) (hf : ∀ i, i < n → (zs.getD i (0, 0)).1 = f (2 * i) ∧ (zs.getD i (0, 0)).2 = f (2 * i + 1))
    (hp : ∀ i, i < cs.size → MemPlace.cell g i ∈ ps) (hfz : ∀ b off, MemPlace.cell b off ∈ ps → (∃ c t, W.heap[b]? = some (.cells c t (0, 0))) ∧ ∀ u v, W.cell? ⟨b, off, none⟩ = some (.iface u v) → Value.okWide Tryz.prog W .any 0 u v) (n0 : 0 < n) : Arr g (row (2 * n) f) W := by
  have hsz : cs.size = 2 * n := by simpa using hl
  obtain ⟨⟨c, t, hb⟩, _⟩ := hfz g 0 (hp 0 (by omega))
  refine ⟨fun i hi => ?_, fun i _ => ?_, (Array.getElem?_eq_some_iff.1 hb).1⟩
  · have hi' : i < 2 * n := by rw [row_len] at hi; exact hi
    rw [row_get, World.var?_cell hg hv i, ← Array.getElem?_toList]
    obtain ⟨h0, h1⟩ := hc (i / 2) (by omega)
    obtain ⟨f0, f1⟩ := hf (i / 2) (by omega)
    by_cases e : i % 2 = 0
    · rw [show 2 * (i / 2) = i by omega] at h0 f0
      rw [h0, f0]
    · rw [show 2 * (i / 2) + 1 = i by omega] at h1 f1
      rw [h1, f1]
  · unfold World.frozen?
    show (match W.heap[g]? with | some (.cells _ _ (lo, hi)) => decide (lo ≤ i) && decide (i < hi) | _ => false) = false
    rw [hb]
    simp
/-- What the row's condition gives the walks. -/
theorem of_laid {W : World} (h : laidMetH Tryz.prog laid2 W) : Arr 0 (row 54 at0) W ∧ Arr 1 (row 10 yr0) W := by
  rw [MakeChecks.laidMetH_plain _ _ _ (by kernel_rfl)] at h
  obtain ⟨ps, ⟨g0, t0, cs0, f0, p0, q0, hg0, ht0, hv0, hd0, ⟨g1, t1, cs1, f1, p1, q1, hg1, ht1, hv1, hd1, _, e1⟩, e0⟩, _, hfz⟩ := h
  obtain rfl := Option.some.inj (gAt.symm.trans hg0)
  obtain rfl := Option.some.inj (gYr.symm.trans hg1)
  obtain rfl := Option.some.inj (tAt.symm.trans ht0)
  obtain rfl := Option.some.inj (tYr.symm.trans ht1)
  obtain ⟨l0, c0⟩ := tab_cells (n := 27) (zs := atP) Tryz.underlying309 cells54 (show DataW.trod _ Tryz.prog W 0 _ false f0 309 cs0.toList = some (.agg (pairsD atP), p0) from hd0)
  obtain ⟨l1, c1⟩ := tab_cells (n := 5) (zs := yrP) Tryz.underlying310 cells10 (show DataW.trod _ Tryz.prog W 0 _ false f1 310 cs1.toList = some (.agg (pairsD yrP), p1) from hd1)
  have m0 : ∀ i, i < cs0.size → MemPlace.cell 0 i ∈ ps := fun i hi => by rw [e0]; simp [MemPlace.row, hi]
  have m1 : ∀ i, i < cs1.size → MemPlace.cell 1 i ∈ ps := fun i hi => by rw [e0, e1]; simp [MemPlace.row, hi]
  exact ⟨arr_of (n := 27) gAt hv0 l0 c0 atP_at m0 hfz (by decide), arr_of (n := 5) gYr hv1 l1 c1 yrP_at m1 hfz (by decide)⟩
/-- The door's own heap meets the condition. -/
theorem door_met (os : Os) (args : Array Value) : laidMetH Tryz.prog laid2 ((World.doorLaid Tryz.prog 51 os).forCall (fun _ _ => 0) ⟨#[], args, []⟩).memory :=
  laidMetH_of_parts3 (fuel := 8) (laidMet_of_run' 8 (by kernel_rfl) (by kernel_rfl)) (by kernel_rfl) (by kernel_rfl)
end Go.Proofs.YtoadcnhcfodkgaaGreatDoor
