/-
  The document's Number at the model's degrees and orders, by the symbolic run, for the seat YtoadcnhcfodkgaaGreatDoor.
-/
import Derived.Test.YtoadcnhcfodkgaaGreatDoorLgB
import Derived.Test.YtoadcnhcfodkgaaGreatDoorLgC
import Derived.Test.YtoadcnhcfodkgaaGreatDoorHTab
import Derived.Test.YtoadcnhcfodkgaaGreatDoorFNum
import Derived.Test.YtoadcnhcfodkgaaGreatDoorNxOR
namespace Go.Proofs.YtoadcnhcfodkgaaGreatDoor
open Go.RowKit

def nuFail : Ct Tryz.prog := flowCt Tryz.prog 68 none' (fun _ _ => ((), true)) cU (go_of Tryz.func68 (by kernel_rfl) (by kernel_rfl)) (fun b bad _ w _ _ hw => rFail_any b bad w hw)
def nuDayW (bad : Bool) (t : Int) : Int × Bool := if Nx.tickW t then partS bad 1099511627776 t 86400000 else partS true 1099511627776 t 86400000
theorem nuDay_ok : FlowOk Tryz.prog 69 (lone' cI) nuDayW cI := flow_sx (tbl := [pureCt Tryz.prog 17 (lone' cI) Nx.tickW cB (go_of Tryz.func17 (by kernel_rfl) (by kernel_rfl)) Nx.dTick_ok, nuFail, rPartCt]) (dirty := fun _ => []) (n := 2) xmixA Tryz.func69 rfl (fun bad x Post => by
    refine Eq.trans (b := ?m) ?x (Eq.symm ?y)
    case y => unfold nuDayW; simp only [← vif_bn (K := PK cI Post)]; exact rfl
    case x => kernel_rfl)
def nuDay : Ct Tryz.prog := flowCt Tryz.prog 69 (lone' cI) nuDayW cI (go_of Tryz.func69 (by kernel_rfl) (by kernel_rfl)) nuDay_ok
theorem nuDay_in {t : Int} (h0 : 0 ≤ t) (h1 : t ≤ 157766400000) : nuDayW false t = (cDay t, false) := by
  have h := cDaysS_in h0 h1
  unfold cDaysS at h
  rw [cRight_in h0 h1, if_pos rfl] at h
  unfold nuDayW Nx.tickW
  rw [if_pos h0, decide_eq_true h1, if_pos rfl]
  exact h
def nuS (x : Int × Int) : Prop := 1 ≤ x.1 ∧ x.1 ≤ 6 ∧ 0 ≤ x.2 ∧ x.2 ≤ x.1
def nuTab : Ct Tryz.prog := ppCt Tryz.prog 257 (then' cI (lone' cI)) nuS (fun x => (at0 (nIdx x.1.toNat x.2.toNat * 2), at0 (nIdx x.1.toNat x.2.toNat * 2 + 1))) (two' cI cI) (go_of Tryz.func257 (by kernel_rfl) (by kernel_rfl)) (fun x w h _ => by
  obtain ⟨n, m⟩ := x
  obtain ⟨h1, h2, h3, h4⟩ := h
  have := table_at n.toNat m.toNat w (by omega) (by omega) (by omega)
  rw [Int.toNat_of_nonneg (by omega), Int.toNat_of_nonneg (by omega)] at this
  exact this)
def nuYrs : Ct Tryz.prog := ppCt Tryz.prog 258 (then' cI (lone' cI)) (fun x => nuS x ∧ x.1 ≤ 2) (fun x => (yr0 (nIdx x.1.toNat x.2.toNat * 2), yr0 (nIdx x.1.toNat x.2.toNat * 2 + 1))) (two' cI cI) (go_of Tryz.func258 (by kernel_rfl) (by kernel_rfl)) (fun x w h _ => by
  obtain ⟨n, m⟩ := x
  obtain ⟨⟨h1, h2, h3, h4⟩, h5⟩ := h
  have := yearly_at n.toNat m.toNat w (by omega) (by omega) (by omega)
  rw [Int.toNat_of_nonneg (by omega), Int.toNat_of_nonneg (by omega)] at this
  exact this)
def nuT : List (Ct Tryz.prog) := [rMulCt, rAddCt, rPartCt, lxDiv, nuFail, nuDay, nuTab, nuYrs]
/-- What Number works. -/
def nuHi (t : Int) (n m : Nat) : (Int × Int) × Bool := let d := nuDayW false t; let g := partS d.2 1099511627776 (at0 (nIdx n m * 2)) 10000; let h := partS g.2 1099511627776 (at0 (nIdx n m * 2 + 1)) 10000; ((g.1, h.1), h.2)
def nuLo (t : Int) (n m : Nat) : (Int × Int) × Bool := let d := nuDayW false t; let r := nuHi t n m; let y := divS r.2 d.1 401596622045184; let p := partS y.2 1099511627776 (yr0 (nIdx n m * 2)) 10000; let v := mulS p.2 y.1 p.1; let g := addS v.2 r.1.1 v.1; let q := partS g.2 1099511627776 (yr0 (nIdx n m * 2 + 1)) 10000; let u := mulS q.2 y.1 q.1; let h := addS u.2 r.1.2 u.1; ((g.1, h.1), h.2)
theorem swpO_none {P : Program} {tbl : List (Ct P)} {dirty : Nat → List Nat} {n : Nat} : ∀ (c : Code) (Q : VQ) (vt : List Value) (m : Xm), swpO P tbl dirty n (fun _ => none) c Q vt m = swp P tbl dirty n c Q vt m := by
  intro c
  induction c with
  | seq x y ihx ihy =>
    intro Q vt m
    unfold swpO swp
    rw [ihx]
    congr 1
    funext e vt' m'
    cases e <;> first | exact ihy _ _ _ | rfl
  | cond c x y ihx ihy =>
    intro Q vt m
    unfold swpO swp
    simp only [ihx, ihy]
    rfl
  | block id c ih =>
    intro Q vt m
    unfold swpO swp
    exact ih _ _ _
  | loop c ih =>
    intro Q vt m
    unfold swpO swp
    have : swpO P tbl dirty n (fun _ => none) c = swp P tbl dirty n c := by funext Q vt m; exact ih Q vt m
    rw [this]
  | _ => intro Q vt m; rfl
theorem ovOk_none {P : Program} {bs : List Nat} {w0 : World} {ds : List Deferred} {bl0 : Bl} : ∀ c : Code, OvOk P (fun _ => none) bs w0 ds bl0 c := by
  intro c
  induction c with
  | region id ops draw => intro R hR; cases hR
  | seq x y ihx ihy => exact ⟨ihx, ihy⟩
  | cond c x y ihx ihy => exact ⟨ihx, ihy⟩
  | block id c ih => exact ih
  | loop c ih => exact ih
  | _ => exact trivial
set_option maxRecDepth 100000 in
theorem nu_hi {n m : Nat} (h : 3 ≤ n ∧ n ≤ 6 ∧ m ≤ n) (t : Int) (Post : Value → Option Bool → Prop) : swp Tryz.prog nuT (fun _ => []) 2 (bodyOf Tryz.prog 188) (retQ Tryz.prog (fnOf Tryz.prog 188) (fun v m => Post v (flagOf m))) ([ptr 0, .int .i64 n, .int .i64 m, .int .i64 t] ++ List.replicate ((fnOf Tryz.prog 188).ntmps - 4) undef) [[.bool false]] =
    vif (nuDayW false t).2 (Post ((two' cI cI).enc (0, 0)) (some (nuDayW false t).2)) (nuS (n, m) ∧ Post ((two' cI cI).enc (nuHi t n m).1) (some (nuHi t n m).2)) := by
  obtain ⟨h1, h2, h3⟩ := h
  obtain rfl | rfl | rfl | rfl : n = 3 ∨ n = 4 ∨ n = 5 ∨ n = 6 := by omega
  · obtain rfl | rfl | rfl | rfl : m = 0 ∨ m = 1 ∨ m = 2 ∨ m = 3 := by omega
    all_goals kernel_rfl
  · obtain rfl | rfl | rfl | rfl | rfl : m = 0 ∨ m = 1 ∨ m = 2 ∨ m = 3 ∨ m = 4 := by omega
    all_goals kernel_rfl
  · obtain rfl | rfl | rfl | rfl | rfl | rfl : m = 0 ∨ m = 1 ∨ m = 2 ∨ m = 3 ∨ m = 4 ∨ m = 5 := by omega
    all_goals kernel_rfl
  · obtain rfl | rfl | rfl | rfl | rfl | rfl | rfl : m = 0 ∨ m = 1 ∨ m = 2 ∨ m = 3 ∨ m = 4 ∨ m = 5 ∨ m = 6 := by omega
    all_goals kernel_rfl
set_option maxRecDepth 100000 in
theorem nu_lo {n m : Nat} (h : 1 ≤ n ∧ n ≤ 2 ∧ m ≤ n) (t : Int) (Post : Value → Option Bool → Prop) : swp Tryz.prog nuT (fun _ => []) 2 (bodyOf Tryz.prog 188) (retQ Tryz.prog (fnOf Tryz.prog 188) (fun v m => Post v (flagOf m))) ([ptr 0, .int .i64 n, .int .i64 m, .int .i64 t] ++ List.replicate ((fnOf Tryz.prog 188).ntmps - 4) undef) [[.bool false]] =
    vif (nuDayW false t).2 (Post ((two' cI cI).enc (0, 0)) (some (nuDayW false t).2)) (nuS (n, m) ∧ (nuS (n, m) ∧ (n : Int) ≤ 2) ∧ Post ((two' cI cI).enc (nuLo t n m).1) (some (nuLo t n m).2)) := by
  obtain ⟨h1, h2, h3⟩ := h
  obtain rfl | rfl : n = 1 ∨ n = 2 := by omega
  · obtain rfl | rfl : m = 0 ∨ m = 1 := by omega
    all_goals kernel_rfl
  · obtain rfl | rfl | rfl : m = 0 ∨ m = 1 ∨ m = 2 := by omega
    all_goals kernel_rfl
theorem nuHi_is {n m : Nat} (h1 : 1 ≤ n) (h6 : n ≤ 6) (hm : m ≤ n) {t : Int} (t0 : 0 ≤ t) (t1 : t ≤ 157766400000) : nuHi t n m = ((fG n m, fH n m), false) := by
  obtain ⟨_, hg, hh⟩ := num_parts h1 h6 hm
  unfold nuHi
  simp only [nuDay_in t0 t1, hg, hh]
set_option maxRecDepth 100000 in
theorem nuLo_is {n m : Nat} (h1 : 1 ≤ n) (h2 : n ≤ 2) (hm : m ≤ n) {t : Int} (t0 : 0 ≤ t) (t1 : t ≤ 157766400000) : nuLo t n m = ((gS (yearS t) n m, hS (yearS t) n m), false) := by
  obtain ⟨_, gy, hy⟩ := num_low h1 h2 hm
  obtain ⟨e, y0, y1⟩ := year_in t0 t1
  obtain ⟨g1, g2⟩ := year_g (m := m) y0 y1 h2
  obtain ⟨k1, k2⟩ := year_h (m := m) y0 y1 h2
  generalize (mulS false (yearS t) (fGy n m)).1 = x at g1 g2
  generalize (mulS false (yearS t) (fHy n m)).1 = z at k1 k2
  unfold nuLo
  simp only [nuDay_in t0 t1, nuHi_is h1 (Nat.le_trans h2 (by decide)) hm t0 t1, e, gy, hy, g1, g2, k1, k2]
/-- Where Number has an answer. -/
def nuIn (x : Int × Int × Int) : Prop := numIn x.1 x.2.1 x.2.2
set_option maxRecDepth 100000 in
theorem nu_in (n m t : Int) (B : Nat) (w : World) (h : numIn n m t) (hg : GW w) (hb : 1 < B) (hw : Fl B false w) :
    Calls Tryz.prog 188 (ptr B :: (then' cI (then' cI (lone' cI))).enc (n, m, t)).toArray w fun e w' => e = .returned ((two' cI cI).enc (numS false n m t).1) ∧ Fl B (numS false n m t).2 w' ∧ Kept B w w' := by
  obtain ⟨n1, n6, m0, mn, t0, t1⟩ := h
  obtain ⟨N, rfl⟩ := Int.eq_ofNat_of_zero_le (show 0 ≤ n by omega)
  obtain ⟨M, rfl⟩ := Int.eq_ofNat_of_zero_le m0
  have h1 : 1 ≤ N := by omega
  have h6 : N ≤ 6 := by omega
  have hm : M ≤ N := by omega
  have hz : nuS ((N : Int), (M : Int)) := ⟨by omega, by omega, by omega, by omega⟩
  refine flow_onceO (d := then' cI (then' cI (lone' cI))) (x := ((N : Int), (M : Int), t)) (tbl := nuT) (dirty := fun _ => []) (n := 2) (ov := fun _ => none) (bad' := (numS false N M t).2) xmixA (by kernel_rfl) (by kernel_rfl) (fun b w => ovOk_none _) ?_ B w hg hb hw
  rw [swpO_none]
  rw [numS_in h1 h6 hm t0 t1]
  by_cases h2 : N ≤ 2
  · refine Eq.mpr (nu_lo ⟨h1, h2, hm⟩ t (fun v f => v = (two' cI cI).enc ((gS (yearS t) N M, hS (yearS t) N M), false).1 ∧ f = some false)) ?_
    rw [nuDay_in t0 t1, nuLo_is h1 h2 hm t0 t1]
    exact ⟨hz, ⟨hz, by omega⟩, rfl, rfl⟩
  · have eg : gS (yearS t) N M = fG N M := if_neg h2
    have eh : hS (yearS t) N M = fH N M := if_neg h2
    rw [eg, eh]
    refine Eq.mpr (nu_hi ⟨by omega, h6, hm⟩ t (fun v f => v = (two' cI cI).enc ((fG N M, fH N M), false).1 ∧ f = some false)) ?_
    rw [nuDay_in t0 t1, nuHi_is h1 h6 hm t0 t1]
    exact ⟨hz, rfl, rfl⟩
end Go.Proofs.YtoadcnhcfodkgaaGreatDoor
