/-
  What the document's legendre answers where nothing goes bad, for the seat YtoadcnhcfodkgaaGreatDoor.
-/
import Derived.Test.YtoadcnhcfodkgaaGreatDoorLgA
namespace Go.Proofs.YtoadcnhcfodkgaaGreatDoor
open Go.RowKit

def lxB (i : Nat) (Q : VQ) : VQ := fun e vt m => match e with
  | .exit id' => if id' = i then Q .normal vt m else Q (.exit id') vt m
  | e => Q e vt m
set_option maxRecDepth 100000 in
theorem lx_loopN (Q : VQ) (vt : List Value) (m : Xm) : swpO Tryz.prog lxT (fun _ => []) 9 lxO (lxN Tryz.prog) Q vt m = loopN 9 (swpO Tryz.prog lxT (fun _ => []) 9 lxO (lxY Tryz.prog)) (lxB 2 Q) vt m := by kernel_rfl
set_option maxRecDepth 100000 in
theorem lx_loopL (Q : VQ) (vt : List Value) (m : Xm) : swpO Tryz.prog lxT (fun _ => []) 9 lxO (lxL Tryz.prog) Q vt m = loopN 9 (swpO Tryz.prog lxT (fun _ => []) 9 lxO (lxX Tryz.prog)) (lxB 0 Q) vt m := by kernel_rfl
theorem rkW_is (bad : Bool) {n m : Int} (n0 : 0 ≤ n) (n6 : n ≤ 6) (m0 : 0 ≤ m) (m6 : m ≤ 6) : rkW bad n m = rootS bad n m := by
  obtain rfl | rfl | rfl | rfl | rfl | rfl | rfl : n = 0 ∨ n = 1 ∨ n = 2 ∨ n = 3 ∨ n = 4 ∨ n = 5 ∨ n = 6 := by omega
  all_goals (obtain rfl | rfl | rfl | rfl | rfl | rfl | rfl : m = 0 ∨ m = 1 ∨ m = 2 ∨ m = 3 ∨ m = 4 ∨ m = 5 ∨ m = 6 := by omega)
  all_goals exact congrArg (sqrtS bad) (by decide)
section
variable {c s : Int} {P D Q : Nat → Nat → Int}
theorem lxA_is (Z : Tri c s P D Q) {k m : Nat} (hk : k < 6) (hm : m < k + 1) : lxA false ((k + 1 : Nat) : Int) (m : Int) = ((Z.ga k m, Z.gb k m), false) := by
  have R := Z.R k m hk hm
  have e : ((k + 1 : Nat) : Int) = (k : Int) + 1 := by omega
  unfold lxA
  rw [e, rkW_is false (by omega) (by omega) (by omega) (by omega)]
  simp only [R.h1]
  rw [rkW_is false (by omega) (by omega) (by omega) (by omega)]
  simp only [R.h2, R.h3, R.h4, R.h5]
theorem low_at (F : Nat → Nat → Int) {k m : Nat} (hk : k < 6) (hm : m < k + 1) : (if 2 ≤ k + 1 then triN F k m ((k + 1 - 2) * 7 + m) else 0) = low F k m := by
  cases k with
  | zero => rw [if_neg (by omega), low_none F (by omega)]
  | succ j =>
    rw [if_pos (by omega)]
    exact triN_other F hm hk rfl
theorem lxW_is (Z : Tri c s P D Q) {k m : Nat} (hk : k < 6) (hm : m < k + 1) : lxW false c s (k + 1) m (triN P k m) (triN D k m) (triN Q k m) = ((P (k + 1) m, D (k + 1) m, Q (k + 1) m), false) := by
  have T := Z.T k m hk hm
  have U := Z.U k m hk hm
  unfold lxW
  rw [lxA_is Z hk hm]
  dsimp only
  rw [low_at P hk hm, low_at D hk hm, low_at Q hk hm, show k + 1 - 1 = k from rfl, triN_last P hm hk, triN_last D hm hk, triN_last Q hm hk]
  unfold lxP lxD
  simp only [T.h1, T.h2, T.h3, T.h4, T.h5, T.h6, T.h7, T.h8, T.h9, T.h10, U.h1, U.h2, U.h3, U.h4]
  split
  · rfl
  · rename_i h0
    have e : m = 0 := by omega
    subst e
    rw [Z.qz (k + 1) (by omega), show triN Q k 0 ((k + 1) * 7 + 0) = 0 by unfold triN; rw [if_neg (by omega)]]
theorem lxV_is (Z : Tri c s P D Q) {k : Nat} (hk : k < 6) : ∃ x y z, lxV false c s (k + 1) (triN P k (k + 1)) (triN D k (k + 1)) (triN Q k (k + 1)) = ((x, y, z), false) ∧ updF (triN P k (k + 1)) ((k + 1) * 7 + (k + 1)) x = triN P (k + 1) 0 ∧ updF (triN D k (k + 1)) ((k + 1) * 7 + (k + 1)) y = triN D (k + 1) 0 ∧ updF (triN Q k (k + 1)) ((k + 1) * 7 + (k + 1)) z = triN Q (k + 1) 0 := by
  cases k with
  | zero => exact ⟨s, c, 1099511627776, rfl, triN_one P rfl Z.p1, triN_one D rfl Z.d1, triN_one Q rfl Z.q1⟩
  | succ j =>
    have J := Z.J (j + 1) (by omega) hk
    refine ⟨_, _, _, ?_, triN_diag P hk, triN_diag D hk, triN_diag Q hk⟩
    have e : ((j + 1 + 1 : Nat) : Int) = ((j + 1 : Nat) : Int) + 1 := by omega
    unfold lxV
    rw [if_neg (by omega)]
    simp only [e, show j + 1 + 1 - 1 = j + 1 from rfl, triN_even _ hk, J.hp, J.hj, J.h1, J.h2, J.h3, J.h4, J.h5, J.h6, J.h7, J.h8]
set_option maxRecDepth 100000 in
theorem lx_inner (Z : Tri c s P D Q) {k : Nat} (hk : k < 6) (Q' : VQ) (hQ : ∀ d, Q' (.exit 2) (lxE c s (k + 1 : Nat) d) (lxM false (triN P k (k + 1)) (triN D k (k + 1)) (triN Q k (k + 1)))) :
    ∀ (r m f : Nat), m + r = k + 1 → r < f → ∀ d, loopN f (swpO Tryz.prog lxT (fun _ => []) 9 lxO (lxY Tryz.prog)) Q' (lxF c s (k + 1 : Nat) m d) (lxM false (triN P k m) (triN D k m) (triN Q k m))
  | r, m, 0, _, hf, _ => by omega
  | 0, m, f + 1, hm, _, d => by
    have e : m = k + 1 := by omega
    subst e
    rw [loopN, lx_out (by omega)]
    exact hQ d
  | r + 1, m, f + 1, hm, hf, d => by
    have hm' : m < k + 1 := by omega
    rw [loopN, lx_in (by omega), lxW_is Z hk hm']
    refine ⟨rfl, rfl, fun d' => ?_⟩
    dsimp only
    rw [triN_put P hm' hk, triN_put D hm' hk, triN_put Q hm' hk]
    exact lx_inner Z hk Q' hQ r (m + 1) f (by omega) (by omega) d'
set_option maxRecDepth 100000 in
theorem lx_outer (Z : Tri c s P D Q) (Q' : VQ) (hQ : ∀ v d, Q' (.exit 0) (lxH c s 7 v d) (lxM false (triN P 6 0) (triN D 6 0) (triN Q 6 0))) :
    ∀ (r k f : Nat), k + r = 6 → r < f → ∀ v d, loopN f (swpO Tryz.prog lxT (fun _ => []) 9 lxO (lxX Tryz.prog)) Q' (lxG c s (k + 1 : Nat) v d) (lxM false (triN P k 0) (triN D k 0) (triN Q k 0))
  | r, k, 0, _, hf, _, _ => by omega
  | 0, k, f + 1, hk, _, v, d => by
    have e : k = 6 := by omega
    subst e
    rw [loopN]
    have := lx_fin c s v (triN P 6 0) (triN D 6 0) (triN Q 6 0) false d
    rw [show ((6 + 1 : Nat) : Int) = 7 from rfl, this]
    exact hQ v d
  | r + 1, k, f + 1, hk, hf, v, d => by
    have hk' : k < 6 := by omega
    rw [loopN, lx_beg (by omega)]
    refine ⟨rfl, rfl, fun d1 => ?_⟩
    rw [lx_loopN]
    refine lx_inner Z hk' _ (fun d2 => ?_) (k + 1) 0 9 (by omega) (by omega) d1
    obtain ⟨x, y, z, hV, e1, e2, e3⟩ := lxV_is Z hk'
    show lxQj _ .normal _ _
    rw [lx_end (by omega), hV]
    refine ⟨rfl, rfl, fun d3 => ?_⟩
    dsimp only
    rw [e1, e2, e3]
    exact lx_outer Z Q' hQ r (k + 1) f (by omega) (by omega) _ d3
end
set_option maxRecDepth 100000 in
theorem lx_ov (B : Nat) (w : World) : OvOk Tryz.prog lxO [B] w [] [some B] (bodyOf Tryz.prog 187) := by
  refine ovOk_by (ns := [(5, opsOf Tryz.prog 187 5, false), (8, opsOf Tryz.prog 187 8, false), (10, opsOf Tryz.prog 187 10, false), (7, opsOf Tryz.prog 187 7, false)]) (by kernel_rfl) ?_
  intro r hr
  simp only [List.mem_cons, List.not_mem_nil, or_false] at hr
  rcases hr with rfl | rfl | rfl | rfl
  all_goals
    intro R hR K Q bl vt m a w h r hK
    cases hR
    exact cutBy_sound xmixA (show 1 ≤ 7 by decide) h r hK
section
variable {P : Program} {tbl : List (Ct P)} {dirty : Nat → List Nat} {n : Nat} {ov : Ov}
/-- A function with a flow, at one state of the flow and given arguments. -/
theorem flow_onceO (hm : P.follows .mixedOrders = true) {f : Nat} (hf : P.funcs[f]? = some (fnOf P f)) (hb : (fnOf P f).body = some (bodyOf P f)) {A : Type} {d : Dl A} {bad bad' : Bool} {x : A} {u : Value}
    (ho : ∀ b w, OvOk P ov [b] w [] [some b] (bodyOf P f)) (h : swpO P tbl dirty n ov (bodyOf P f) (retQ P (fnOf P f) (fun v m => v = u ∧ flagOf m = some bad')) ((ptr 0 :: d.enc x) ++ List.replicate ((fnOf P f).ntmps - (ptr 0 :: d.enc x).length) undef) [[.bool bad]]) (b : Nat) (w : World) (hg : GW w) (hb1 : 1 < b) (hw : Fl b bad w) :
    Calls P f (ptr b :: d.enc x).toArray w fun e w' => e = .returned u ∧ Fl b bad' w' ∧ Kept b w w' := by
  have R : RW [b] w [some b] [[.bool bad]] w := by
    refine ⟨fun i B hi => ?_, fun i j B hi hj => ?_, fun i B hi => ?_, rfl, rfl, rfl, Nat.le_refl _, fun _ _ _ => rfl, hg, by simpa using hb1⟩
    · match i, hi with
      | 0, hi => cases hi; exact ⟨_, rfl, arr_fl hw⟩
    · match i, j, hi, hj with
      | 0, 0, _, _ => rfl
    · match i, hi with
      | 0, hi => cases hi; exact .inl List.mem_cons_self
  refine Calls.mono (calls_sxO hm hf hb (vargs := ptr 0 :: d.enc x) R rfl (by simp) (fun i => ?_) (ho b w) h) ?_
  · cases i with
    | zero => exact ⟨b, rfl, rfl⟩
    | succ i =>
      by_cases hi : i < (d.enc x).length
      · have := d.np x _ (List.getElem_mem hi)
        simp only [List.getD_eq_getElem?_getD, Array.getD_eq_getD_getElem?]
        simp [hi]
        exact .same this
      · simp only [List.getD_eq_getElem?_getD, Array.getD_eq_getD_getElem?]
        simp [hi]
        rfl
  · rintro e w' ⟨v, bl', m2, rfl, ⟨rfl, h2⟩, R', hle⟩
    obtain ⟨l, e, A⟩ := R'.arr 0 b (hle 0 b rfl)
    rw [flagOf_some h2] at e
    cases e
    exact ⟨rfl, fl_arr A, R'.os, R'.tape, R'.output, R'.size, fun i hi hb => R'.block i hi (by simpa using hb)⟩
end
theorem r49_is (g : Nat → Int) : r49 g = row 49 g := by kernel_rfl
set_option maxRecDepth 100000 in
theorem leg_any (b : Nat) (c s : Int) (P D Q : Nat → Nat → Int) (Z : Tri c s P D Q) (w : World) (hw : Fl b false w) (hg : GW w) (hb : 1 < b) :
    Calls Tryz.prog 187 #[.pointer (some ⟨b, 0, none⟩), .int .i64 c, .int .i64 s] w fun e w' => e = .returned (.tuple #[.agg (row 49 (triN P 6 0)).toArray, .agg (row 49 (triN D 6 0)).toArray, .agg (row 49 (triN Q 6 0)).toArray]) ∧ Fl b false w' ∧ Kept b w w' := by
  refine flow_onceO (d := then' cI (lone' cI)) (x := (c, s)) (tbl := lxT) (dirty := fun _ => []) (n := 9) (ov := lxO) xmixA (by kernel_rfl) (by kernel_rfl) lx_ov ?_ b w hg hb hw
  show swpO Tryz.prog lxT (fun _ => []) 9 lxO (bodyOf Tryz.prog 187) _ ([ptr 0, .int .i64 c, .int .i64 s] ++ List.replicate ((fnOf Tryz.prog 187).ntmps - 3) undef) [[.bool false]]
  rw [lx_start]
  refine ⟨rfl, rfl, fun d => ?_⟩
  have e : lxM false (updF (fun _ => 0) 0 1099511627776) (fun _ => 0) (fun _ => 0) = lxM false (triN P 0 0) (triN D 0 0) (triN Q 0 0) := by rw [triN_start P Z.p0, ← triN_zero D Z.d0, ← triN_zero Q Z.q0]
  rw [lx_loopL, e]
  refine lx_outer Z _ (fun v d' => ?_) 6 0 9 rfl (by decide) undef d
  exact Eq.mpr (lx_last c s 7 v (triN P 6 0) (triN D 6 0) (triN Q 6 0) false d' (fun v f => v = _ ∧ f = _)) ⟨rfl, rfl⟩
end Go.Proofs.YtoadcnhcfodkgaaGreatDoor
