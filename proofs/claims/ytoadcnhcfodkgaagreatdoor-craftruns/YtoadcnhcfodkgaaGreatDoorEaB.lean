/-
  What the document's Earth answers, at all places and ticks, for the seat YtoadcnhcfodkgaaGreatDoor.
-/
import Derived.Test.YtoadcnhcfodkgaaGreatDoorEaA
import Derived.Test.YtoadcnhcfodkgaaGreatDoorCTrue
namespace Go.Proofs.YtoadcnhcfodkgaaGreatDoor
open Go.RowKit

theorem eaR_is {C S u v C' S' : Int} (W : WaveT C S u v C' S') : eaR false u v C S = ((C', S'), false) := by
  unfold eaR
  simp only [W.h1, W.h2, W.h3, W.h4, W.h5, W.h6]
theorem eaV_is {c s u v up so ea x y z : Int} (V : VecT c s u v up so ea x y z) : eaV false c s u v up so ea = ((x, y, z), false) := by
  unfold eaV
  simp only [V.h1, V.h2, V.h3, V.h4, V.h5, V.h6, V.h7, V.h8, V.h9, V.h10, V.h11, V.h12]
theorem eaW_is {t tt up so ea C S P D Q g h up' so' ea' : Int} {n m : Nat} (N : numS false n m t = ((g, h), false)) (T : TermT (n : Int) (m : Int) tt C S g h P D Q up so ea up' so' ea') : eaW t tt up so ea C S P D Q n m = ((up', so', ea'), false) := by
  unfold eaW
  simp only [N, T.h1, T.h2, T.h3, T.h4, T.h5, T.h6, T.i1, T.j1, T.q1, T.a1, T.i2, T.j2, T.a2, T.i3, T.j3, T.q3, T.a3]
  split
  · rfl
  · rw [T.a0 (by omega)]
theorem lxB_exit (i : Nat) (Q : VQ) (vt : List Value) (m : Xm) : lxB i Q (.exit i) vt m = Q .normal vt m := by
  unfold lxB
  exact if_pos rfl
theorem eaQ0_n {c0 s0 : Int} {P0 D0 Q0 : Nat → Nat → Int} (Z : Tri c0 s0 P0 D0 Q0) (Q : VQ) (vt : List Value) (m : Xm) : eaQ0 Z Q .normal vt m = swpO Tryz.prog (eaT Z) (fun _ => []) 9 (eaO Z) (eaB Tryz.prog) Q vt m := by unfold eaQ0; rfl
theorem eaQ2_n {c0 s0 : Int} {P0 D0 Q0 : Nat → Nat → Int} (Z : Tri c0 s0 P0 D0 Q0) (Q : VQ) (vt : List Value) (m : Xm) : eaQ2 Z Q .normal vt m = swpO Tryz.prog (eaT Z) (fun _ => []) 9 (eaO Z) (eaE Tryz.prog) Q vt m := by unfold eaQ2; rfl
section
variable {p : V3} {t r x y z : Int}
set_option maxRecDepth 100000 in
theorem ea_l1 (E : EarthT p t r x y z) (Q : VQ) (hQ : ∀ d, Q (.exit 0) (eaF7 t r E.c E.s E.u E.v d) (eaM false p (cutF E.g 6) (cutF (fun i => E.g (7 + i)) 6))) :
    ∀ (j k f : Nat), k + j = 6 → j < f → ∀ d, loopN f (swpO Tryz.prog (eaT E.Z) (fun _ => []) 9 (eaO E.Z) (eaX Tryz.prog)) Q (eaF t r E.c E.s E.u E.v (k + 1 : Nat) d) (eaM false p (cutF E.g k) (cutF (fun i => E.g (7 + i)) k))
  | j, k, 0, _, hf, _ => by omega
  | 0, k, f + 1, hk, _, d => by
    have e : k = 6 := by omega
    subst e
    have := ea_f1 E.Z t r E.c E.s E.u E.v p (cutF E.g 6) (cutF (fun i => E.g (7 + i)) 6) false d
    rw [loopN, show ((6 + 1 : Nat) : Int) = 7 from rfl, this]
    exact hQ d
  | j + 1, k, f + 1, hk, hf, d => by
    obtain ⟨W⟩ := E.W k (by omega)
    rw [loopN, ea_r1 E.Z (by omega), cutF_at E.g (Nat.le_refl k), cutF_at (fun i => E.g (7 + i)) (Nat.le_refl k), eaR_is W]
    refine ⟨rfl, rfl, fun d' => ?_⟩
    dsimp only
    rw [cutF_put, cutF_next]
    exact ea_l1 E Q hQ j (k + 1) f (by omega) (by omega) d'
set_option maxRecDepth 100000 in
theorem ea_l3 (E : EarthT p t r x y z) (ht : 0 ≤ t ∧ t ≤ 157766400000) {n : Nat} (hn : 1 ≤ n ∧ n ≤ 6) (q : Int) (K : VQ)
    (hK : ∀ d, K (.exit 4) (eaG4 t E.c E.s E.u E.v (E.st n (n + 1)).1 (E.st n (n + 1)).2.1 (E.st n (n + 1)).2.2 q (E.tt n) n d) (eaN false p (cutF E.g 6) (cutF (fun i => E.g (7 + i)) 6) (triN E.P 6 0) (triN E.D 6 0) (triN E.Q 6 0))) :
    ∀ (j m f : Nat), m + j = n + 1 → j < f → ∀ d, loopN f (swpO Tryz.prog (eaT E.Z) (fun _ => []) 9 (eaO E.Z) (eaZ Tryz.prog)) K (eaG t E.c E.s E.u E.v (E.st n m).1 (E.st n m).2.1 (E.st n m).2.2 q (E.tt n) n (.int .i64 m) d) (eaN false p (cutF E.g 6) (cutF (fun i => E.g (7 + i)) 6) (triN E.P 6 0) (triN E.D 6 0) (triN E.Q 6 0))
  | j, m, 0, _, hf, _ => by omega
  | 0, m, f + 1, hm, _, d => by
    have e : m = n + 1 := by omega
    subst e
    rw [loopN, show ((n + 1 : Nat) : Int) = (n : Int) + 1 by omega, ea_o3 E.Z hn]
    exact hK d
  | j + 1, m, f + 1, hm, hf, d => by
    have hmn : m ≤ n := by omega
    rw [loopN, ea_r3 E.Z ⟨hn.1, hn.2, hmn⟩, cutF_at E.g (show m ≤ 6 by omega), cutF_at (fun i => E.g (7 + i)) (show m ≤ 6 by omega), triN_all E.P hmn hn.2, triN_all E.D hmn hn.2, triN_all E.Q hmn hn.2, eaW_is (E.N n m hn.1 hn.2 hmn) (E.T n m hn.1 hn.2 hmn)]
    refine ⟨⟨rfl, by omega, by omega, by omega, by omega, ht.1, ht.2⟩, rfl, rfl, fun d' => ?_⟩
    exact ea_l3 E ht hn q K hK j (m + 1) f (by omega) (by omega) d'
set_option maxRecDepth 100000 in
theorem ea_l2 (E : EarthT p t r x y z) (ht : 0 ≤ t ∧ t ≤ 157766400000) (K : VQ)
    (hK : ∀ v d, K (.exit 2) (eaG2 t E.c E.s E.u E.v (E.st 7 0).1 (E.st 7 0).2.1 (E.st 7 0).2.2 E.nr (E.tt 6) v d) (eaN false p (cutF E.g 6) (cutF (fun i => E.g (7 + i)) 6) (triN E.P 6 0) (triN E.D 6 0) (triN E.Q 6 0))) :
    ∀ (j k f : Nat), k + j = 6 → j < f → ∀ v d, loopN f (swpO Tryz.prog (eaT E.Z) (fun _ => []) 9 (eaO E.Z) (eaY Tryz.prog)) K (eaG t E.c E.s E.u E.v (E.st (k + 1) 0).1 (E.st (k + 1) 0).2.1 (E.st (k + 1) 0).2.2 E.nr (E.tt k) (k + 1 : Nat) v d) (eaN false p (cutF E.g 6) (cutF (fun i => E.g (7 + i)) 6) (triN E.P 6 0) (triN E.D 6 0) (triN E.Q 6 0))
  | j, k, 0, _, hf, _, _ => by omega
  | 0, k, f + 1, hk, _, v, d => by
    have e : k = 6 := by omega
    subst e
    rw [loopN, show ((6 + 1 : Nat) : Int) = 7 from rfl, ea_f2]
    exact hK v d
  | j + 1, k, f + 1, hk, hf, v, d => by
    rw [loopN, ea_b2 E.Z (by omega), E.tn k (by omega)]
    refine ⟨rfl, rfl, fun d1 => ?_⟩
    dsimp only
    rw [ea_loop3]
    refine ea_l3 E ht (n := k + 1) (by omega) E.nr _ (fun d2 => ?_) (k + 2) 0 9 (by omega) (by omega) d1
    rw [lxB_exit, ea_e2, E.sn (k + 1) (by omega) (by omega), IntKind.wrap_i64, show ((((k + 1 : Nat) : Int) + 1 + 9223372036854775808) % 18446744073709551616 - 9223372036854775808) = ((k + 1 + 1 : Nat) : Int) by omega]
    refine ⟨rfl, rfl, fun d3 => ?_⟩
    exact ea_l2 E ht K hK j (k + 1) f (by omega) (by omega) _ d3
set_option maxRecDepth 100000 in
theorem ea_go (E : EarthT p t r x y z) (ht : 0 ≤ t ∧ t ≤ 157766400000) (Post : Value → Option Bool → Prop) (hP : Post (cV3.enc (x, y, z)) (some false)) : eaGo E.Z false p t r E.c E.s E.u E.v (retQ Tryz.prog (fnOf Tryz.prog 78) (fun v m => Post v (flagOf m))) := by
  refine ⟨rfl, rfl, fun d => ?_⟩
  have e : eaM false p (updF (fun _ => 0) 0 1099511627776) (fun _ => 0) = eaM false p (cutF E.g 0) (cutF (fun i => E.g (7 + i)) 0) := by rw [cutF_start E.g E.g0, ← cutF_zero (fun i => E.g (7 + i)) E.g7]
  rw [ea_loop1, e]
  refine ea_l1 E _ (fun d1 => ?_) 6 0 9 rfl (by decide) d
  rw [lxB_exit, eaQ0_n, ea_mid]
  refine ⟨⟨rfl, rfl, rfl⟩, rfl, rfl, fun d2 => ?_⟩
  rw [ea_loop2, E.hq]
  dsimp only
  rw [E.t0]
  have hs := E.s0
  have e0 : (E.st (0 + 1) 0).1 = 0 ∧ (E.st (0 + 1) 0).2.1 = 0 ∧ (E.st (0 + 1) 0).2.2 = 0 := by rw [hs]; exact ⟨rfl, rfl, rfl⟩
  have := ea_l2 E ht (lxB 2 (eaQ2 E.Z (retQ Tryz.prog (fnOf Tryz.prog 78) (fun v m => Post v (flagOf m))))) (fun v d3 => ?_) 6 0 9 rfl (by decide) (dimv (d2 25)) d2
  · rw [e0.1, e0.2.1, e0.2.2] at this
    exact this
  · rw [lxB_exit, eaQ2_n, ea_last, eaV_is E.V]
    exact hP
theorem ea_in (E : EarthT p t r x y z) (Q : VQ) (h : eaGo E.Z false p t r E.c E.s E.u E.v Q) : eaIn E.Z false p t r Q := by
  have hw : normS false p.1 p.2.1 0 = (E.wn, false) := E.hw
  have hl := E.hl
  unfold lonS at hl
  unfold eaIn
  simp only [hw, E.hc, E.hs]
  by_cases c : E.wn < 1048576
  · rw [if_pos c] at hl
    simp only [Prod.mk.injEq, and_true] at hl
    rw [decide_eq_false (by omega)]
    show eaGo E.Z false p t r E.c E.s 1099511627776 0 Q
    rw [hl.1, hl.2]
    exact h
  · rw [if_neg c] at hl
    rw [decide_eq_true (by omega)]
    have b1 : (divS false p.1 E.wn).2 = false := by
      cases e : (divS false p.1 E.wn).2 with
      | false => rfl
      | true => rw [e, divS_true] at hl; exact absurd (show true = false from congrArg Prod.snd hl) (by decide)
    rw [b1] at hl
    have hu : divS false p.1 E.wn = (E.u, false) := Prod.ext (congrArg (fun z => z.1.1) hl) b1
    have hv : divS false p.2.1 E.wn = (E.v, false) := Prod.ext (congrArg (fun z => z.1.2) hl) (congrArg (fun z => z.2) hl)
    show eaGo E.Z (divS (divS false p.1 E.wn).2 p.2.1 E.wn).2 p t r E.c E.s (divS false p.1 E.wn).1 (divS (divS false p.1 E.wn).2 p.2.1 E.wn).1 Q
    rw [hu]
    dsimp only
    rw [hv]
    exact h
end
set_option maxRecDepth 100000 in
theorem ea_ov {c0 s0 : Int} {P0 D0 Q0 : Nat → Nat → Int} (Z : Tri c0 s0 P0 D0 Q0) (B : Nat) (w : World) : OvOk Tryz.prog (eaO Z) [B] w [] [some B] (bodyOf Tryz.prog 78) := by
  refine ovOk_by (ns := [(17, opsOf Tryz.prog 78 17, false), (19, opsOf Tryz.prog 78 19, false), (26, opsOf Tryz.prog 78 26, false), (30, opsOf Tryz.prog 78 30, false), (32, opsOf Tryz.prog 78 32, false), (28, opsOf Tryz.prog 78 28, false)]) (by kernel_rfl) ?_
  intro r hr
  simp only [List.mem_cons, List.not_mem_nil, or_false] at hr
  rcases hr with rfl | rfl | rfl | rfl | rfl | rfl
  all_goals
    intro R hR K Q bl vt m a w h r hK
    cases hR
    first
    | exact cutBy_sound xmixA (show 1 ≤ 5 by decide) h r hK
    | exact cutBy_sound xmixA (show 1 ≤ 8 by decide) h r hK
theorem ear_some : earIn (7696581394432, 0, 0) 0 := by decide +kernel
set_option maxRecDepth 100000 in
theorem rearth_ok : FlowOk Tryz.prog 78 (then' cV3 (lone' cI)) (fun bad x => earS bad x.1 x.2) cV3 := by
  intro b bad x w hg hb hw
  obtain ⟨p, t⟩ := x
  have run : ∀ {c0 s0 : Int} {P0 D0 Q0 : Nat → Nat → Int} (Z : Tri c0 s0 P0 D0 Q0), (vif (decide ((normS bad p.1 p.2.1 p.2.2).1 < 6597069766656)) (zer3 = cV3.enc (earS bad p t).1 ∧ some true = some (earS bad p t).2) (vif (decide ((normS bad p.1 p.2.1 p.2.2).1 > 10995116277760)) (zer3 = cV3.enc (earS bad p t).1 ∧ some true = some (earS bad p t).2) (vif (nuDayW (normS bad p.1 p.2.1 p.2.2).2 t).2 (zer3 = cV3.enc (earS bad p t).1 ∧ some (nuDayW (normS bad p.1 p.2.1 p.2.2).2 t).2 = some (earS bad p t).2)
      (eaIn Z (nuDayW (normS bad p.1 p.2.1 p.2.2).2 t).2 p t (normS bad p.1 p.2.1 p.2.2).1 (retQ Tryz.prog (fnOf Tryz.prog 78) (fun v m => v = cV3.enc (earS bad p t).1 ∧ flagOf m = some (earS bad p t).2)))))) →
      Calls Tryz.prog 78 (ptr b :: (then' cV3 (lone' cI)).enc (p, t)).toArray w fun e w' => e = .returned (cV3.enc (earS bad p t).1) ∧ Fl b (earS bad p t).2 w' ∧ Kept b w w' := fun Z h =>
    flow_onceO (d := then' cV3 (lone' cI)) (x := (p, t)) (tbl := eaT Z) (dirty := fun _ => []) (n := 9) (ov := eaO Z) xmixA (by kernel_rfl) (by kernel_rfl) (ea_ov Z) (Eq.mpr (ea_start Z p t bad (fun v f => v = cV3.enc (earS bad p t).1 ∧ f = some (earS bad p t).2)) h) b w hg hb hw
  obtain ⟨⟨E0⟩, _⟩ := ear_at ear_some
  cases bad with
  | true =>
    refine run E0.Z ?_
    rw [earS_true, normS_true]
    exact ⟨rfl, rfl⟩
  | false =>
    by_cases h : earIn p t
    · obtain ⟨⟨E⟩, _⟩ := ear_at h
      refine run E.Z ?_
      have hS := earS_in h
      obtain ⟨g, r0, r1, t0, t1⟩ := h
      have hr : normS false p.1 p.2.1 p.2.2 = ((earR p).1, false) := Prod.ext rfl g
      rw [hr, hS]
      dsimp only
      rw [decide_eq_false (by omega), decide_eq_false (by omega), nuDay_in t0 t1]
      exact ea_in E _ (ea_go E ⟨t0, t1⟩ (fun v f => v = cV3.enc (earV p t) ∧ f = some false) ⟨rfl, rfl⟩)
    · refine run E0.Z ?_
      rw [earS_out h]
      by_cases c1 : (normS false p.1 p.2.1 p.2.2).1 < 6597069766656
      · rw [decide_eq_true c1]
        exact ⟨rfl, rfl⟩
      by_cases c2 : (normS false p.1 p.2.1 p.2.2).1 > 10995116277760
      · rw [decide_eq_false c1, decide_eq_true c2]
        exact ⟨rfl, rfl⟩
      rw [decide_eq_false c1, decide_eq_false c2]
      have g : (normS false p.1 p.2.1 p.2.2).2 = false := by
        cases q : (normS false p.1 p.2.1 p.2.2).2 with
        | false => rfl
        | true =>
          have z : (normS false p.1 p.2.1 p.2.2).1 = 0 := normS_bad false _ _ _ q
          omega
      rw [g]
      have hn : ¬ (0 ≤ t ∧ t ≤ 157766400000) := fun k => h ⟨g, Int.not_lt.1 c1, Int.not_lt.1 c2, k.1, k.2⟩
      have e : nuDayW false t = partS true 1099511627776 t 86400000 := by
        unfold nuDayW
        rw [if_neg]
        unfold Nx.tickW
        by_cases c : 0 ≤ t
        · rw [if_pos c, decide_eq_false (fun k => hn ⟨c, k⟩)]
          decide
        · rw [if_neg c]
          decide
      rw [e, partS_true]
      exact ⟨rfl, rfl⟩
end Go.Proofs.YtoadcnhcfodkgaaGreatDoor
