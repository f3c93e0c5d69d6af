/-
  BdotHolds, walked, for the seat Ytibjmmlnkgapeaa.
-/
import Derived.Test.YtibjmmlnkgapeaaBdAwake
import Derived.Test.YtibjmmlnkgapeaaBdHoldM
import Derived.Test.YtibjmmlnkgapeaaStop
import Derived.Deep.DeepCutAuto
import Derived.Deep.Cut
import Derived.Deep.CutRange
import Derived.Laws.Cover1
namespace Go.Proofs.Ytibjmmlnkgapeaa
open Go.RowKit

set_option maxHeartbeats 2000000 in
set_option maxRecDepth 100000 in
theorem holds_none (ao go : Option Addr) (cap glen gcap : Nat) (w : World) :
    Calls Try.prog 6 #[.slice ao 0 cap, .slice go glen gcap] w fun e w' => e = .returned (.bool true) ∧ Below w.heap.size w w' := by
  go_enter Try.func6, Try.ntmps6
  go_wp2_with fail
  refine (awake_any _).mono ?_
  rintro e w1 ⟨rfl, k1⟩
  go_wp2_with fail
  refine wp_loop_rounds 1 ?_
  rw [rounds_succ]
  go_wp2
  go_ret
  exact ⟨rfl, bel_al (bel_al k1 _) _⟩
set_option maxHeartbeats 2000000 in
set_option maxRecDepth 100000 in
theorem holds_long (ao go : Option Addr) (len cap glen gcap : Nat) (w : World) (h : 100 < len) (hm : len ≤ 9223372036854775807) :
    Calls Try.prog 6 #[.slice ao len cap, .slice go glen gcap] w fun e w' => e = .returned (.bool true) ∧ Below w.heap.size w w' := by
  go_enter Try.func6, Try.ntmps6
  go_wp2_with fail
  refine (awake_any _).mono ?_
  rintro e w1 ⟨rfl, k1⟩
  go_wp2
  go_ret
  exact ⟨rfl, k1⟩
/-- What is known at the head of the law's loop. -/
structure HInv (L : Nat → V3) (j : Nat) (T M : Int) (d : Dr) : Prop where
  t0 : 0 ≤ T
  t1 : T ≤ 10000 * (j : Int)
  m0 : 0 ≤ M
  m1 : M ≤ 43980465111044096
  z : j = 0 → d = zeroD
  s : 0 < j → ∃ R : V3, d = (true, T, (L (j - 1)).1, (L (j - 1)).2.1, (L (j - 1)).2.2, R.1, R.2.1, R.2.2) ∧ Fit (L (j - 1)) ∧ Rated R M
/-- What is known at the head of the loop over a field's parts. -/
structure MInv (j : Nat) (v l : V3) (g M M1 : Int) (q : Nat) : Prop where
  lo : M ≤ M1
  hi : M1 ≤ 43980465111044096
  p : ∀ x, x < q → -219902325555200 ≤ vp v x ∧ vp v x ≤ 219902325555200
  c : ∀ x, x < q → 0 < j → chg (vp v x) (vp l x) g + 4096 ≤ M1 ∧ -chg (vp v x) (vp l x) g + 4096 ≤ M1
theorem MInv.next {j : Nat} {v l : V3} {g M M1 M2 : Int} {q : Nat} (h : MInv j v l g M M1 q) (hm : M1 ≤ M2) (hh : M2 ≤ 43980465111044096) (hp : -219902325555200 ≤ vp v q ∧ vp v q ≤ 219902325555200)
    (hc : 0 < j → chg (vp v q) (vp l q) g + 4096 ≤ M2 ∧ -chg (vp v q) (vp l q) g + 4096 ≤ M2) : MInv j v l g M M2 (q + 1) :=
  ⟨Int.le_trans h.lo hm, hh, fun x hx => by
    by_cases e : x = q
    · subst e; exact hp
    · exact h.p x (by omega), fun x hx h0 => by
    by_cases e : x = q
    · subst e; exact hc h0
    · have := h.c x (by omega) h0
      omega⟩
theorem MInv.fit {j : Nat} {v l : V3} {g M M1 : Int} (h : MInv j v l g M M1 3) : Fit v := ⟨h.p 0 (by omega), h.p 1 (by omega), h.p 2 (by omega)⟩
theorem MInv.most {j : Nat} {v l : V3} {g M M1 : Int} (h : MInv j v l g M M1 3) (h0 : 0 < j) : Most v l g M1 :=
  ⟨(h.c 0 (by omega) h0).1, (h.c 0 (by omega) h0).2, (h.c 1 (by omega) h0).1, (h.c 1 (by omega) h0).2, (h.c 2 (by omega) h0).1, (h.c 2 (by omega) h0).2⟩
set_option maxHeartbeats 8000000 in
set_option maxRecDepth 100000 in
theorem holds_walk (B o len cap : Nat) (go : Option Addr) (B' o' glen gcap : Nat) (L : Nat → V3) (G : Nat → Int) (w : World) (h0 : 0 < len) (h1 : len ≤ 100) (hB : B < w.heap.size)
    (c0 : ∀ i, i < len → w.cell? ⟨B, o + i * 3, none⟩ = some (.int .i64 (L i).1)) (c1 : ∀ i, i < len → w.cell? ⟨B, o + i * 3 + 1, none⟩ = some (.int .i64 (L i).2.1)) (c2 : ∀ i, i < len → w.cell? ⟨B, o + i * 3 + 2, none⟩ = some (.int .i64 (L i).2.2))
    (hgo : 0 < glen → go = some ⟨B', o', none⟩) (hB' : 0 < glen → B' < w.heap.size) (hG : ∀ i, i < glen → w.cell? ⟨B', o' + i, none⟩ = some (.int .i64 (G i))) (hm : glen ≤ 9223372036854775807) :
    Calls Try.prog 6 #[.slice (some ⟨B, o, none⟩) len cap, .slice go glen gcap] w fun e w' => e = .returned (.bool true) ∧ Below w.heap.size w w' := by
  have HL : Hid ((∀ i, i < len → w.cell? ⟨B, o + i * 3, none⟩ = some (.int .i64 (L i).1)) ∧ (∀ i, i < len → w.cell? ⟨B, o + i * 3 + 1, none⟩ = some (.int .i64 (L i).2.1)) ∧ (∀ i, i < len → w.cell? ⟨B, o + i * 3 + 2, none⟩ = some (.int .i64 (L i).2.2))) := ⟨c0, c1, c2⟩
  have HG : Hid ((0 < glen → go = some ⟨B', o', none⟩) ∧ (0 < glen → B' < w.heap.size) ∧ (∀ i, i < glen → w.cell? ⟨B', o' + i, none⟩ = some (.int .i64 (G i)))) := ⟨hgo, hB', hG⟩
  clear c0 c1 c2 hgo hB' hG
  go_enter Try.func6, Try.ntmps6
  go_wp2_with fail
  refine (awake_any _).mono ?_
  rintro e w1 ⟨rfl, k1⟩
  have z1 := k1.size
  go_wp2_with fail
  go_loopw [7, 8, 26] (fun tk mo iv wr => ∃ (j : Nat) (T M : Int) (d : Dr), j ≤ len ∧ iv = .int .i64 j ∧ tk = .int .i64 T ∧ mo = .int .i64 M ∧ Below w.heap.size w wr ∧ Fl w1.heap.size false wr ∧ Arr (w1.heap.size + 1) [.bool d.1, .int .i64 d.2.1, .int .i64 d.2.2.1, .int .i64 d.2.2.2.1, .int .i64 d.2.2.2.2.1, .int .i64 d.2.2.2.2.2.1, .int .i64 d.2.2.2.2.2.2.1, .int .i64 d.2.2.2.2.2.2.2] wr ∧ Hid (HInv L j T M d)) (fun _ _ iv _ => len - (intOf iv).toNat)
  case atStart =>
    exact ⟨0, 0, 0, zeroD, by omega, rfl, rfl, rfl, bel_al (bel_al k1 _) _, (Fl_at _ _ _ _ (by simp)).alloc _, Arr_at _ _ [.bool false, .int .i64 0, .int .i64 0, .int .i64 0, .int .i64 0, .int .i64 0, .int .i64 0, .int .i64 0] _ (by simp), ⟨by omega, by omega, by omega, by omega, fun _ => rfl, fun h => by omega⟩⟩
  case round =>
    obtain ⟨j, T, M, d, hj, rfl, rfl, rfl, L0, F0, D0, HI⟩ := hrel
    by_cases hjl : j < len
    · have k0 : wr.cell? ⟨B, o + j * 3, none⟩ = some (.int .i64 (L j).1) := (L0.cell hB).trans (HL.out.1 j hjl)
      have k1 : wr.cell? ⟨B, o + j * 3 + 1, none⟩ = some (.int .i64 (L j).2.1) := (L0.cell hB).trans (HL.out.2.1 j hjl)
      have k2 : wr.cell? ⟨B, o + j * 3 + 2, none⟩ = some (.int .i64 (L j).2.2) := (L0.cell hB).trans (HL.out.2.2 j hjl)
      obtain ⟨v, HV⟩ : ∃ v, Hid (v = L j) := ⟨_, rfl⟩
      rw [← HV.out] at k0 k1 k2
      have fz := F0.lies
      have dz := D0.lies
      have lz := L0.size
      go_upto_if 34 with fail
      go_cut [11] (fun gv wx => ∃ g : Int, gv = .int .i64 g ∧ 10 ≤ g ∧ g ≤ 10000 ∧ Below w.heap.size w wx ∧ Fl w1.heap.size false wx ∧ Arr (w1.heap.size + 1) [.bool d.1, .int .i64 d.2.1, .int .i64 d.2.2.1, .int .i64 d.2.2.2.1, .int .i64 d.2.2.2.2.1, .int .i64 d.2.2.2.2.2.1, .int .i64 d.2.2.2.2.2.2.1, .int .i64 d.2.2.2.2.2.2.2] wx ∧ Arr wr.heap.size [.int .i64 v.1, .int .i64 v.2.1, .int .i64 v.2.2] wx)
      case first =>
        have f1 : Below w.heap.size w (wr.alloc (.cells #[.int .i64 v.1, .int .i64 v.2.1, .int .i64 v.2.2] 23)) := bel_al L0 _
        have f2 := F0.alloc (.cells #[.int .i64 v.1, .int .i64 v.2.1, .int .i64 v.2.2] 23)
        have f3 := D0.alloc (.cells #[.int .i64 v.1, .int .i64 v.2.1, .int .i64 v.2.2] 23)
        have f4 : Arr wr.heap.size [.int .i64 v.1, .int .i64 v.2.1, .int .i64 v.2.2] (wr.alloc (.cells #[.int .i64 v.1, .int .i64 v.2.1, .int .i64 v.2.2] 23)) := Arr_at _ _ [.int .i64 v.1, .int .i64 v.2.1, .int .i64 v.2.2] _ rfl
        by_cases hjg : j < glen
        · obtain rfl := HG.out.1 (by omega)
          have bz := HG.out.2.1 (by omega)
          have kg : wr.cell? ⟨B', o' + j, none⟩ = some (.int .i64 (G j)) := (L0.cell bz).trans (HG.out.2.2 j hjg)
          have bz2 : B' < wr.heap.size := by omega
          generalize G j = y at kg
          by_cases y1 : y < 10
          · go_wp2_with fail
            go_meet
            exact ⟨10, rfl, by omega, by omega, f1, f2, f3, f4⟩
          by_cases y2 : 10000 < y
          · go_wp2_with fail
            go_meet
            exact ⟨10000, rfl, by omega, by omega, f1, f2, f3, f4⟩
          · go_wp2_with fail
            go_meet
            exact ⟨y, rfl, by omega, by omega, f1, f2, f3, f4⟩
        · go_wp2_with fail
          go_meet
          exact ⟨1000, rfl, by omega, by omega, f1, f2, f3, f4⟩
      case rest =>
        obtain ⟨g, rfl, g0, g1, L1, F1, D1, V1⟩ := hcut
        have t0 := HI.out.t0
        have t1 := HI.out.t1
        have m0 := HI.out.m0
        have m1 := HI.out.m1
        have fz1 := F1.lies
        have dz1 := D1.lies
        have vz1 := V1.lies
        have lz1 := L1.size
        clear k0 k1 k2 fz dz lz L0 F0 D0
        have q0 : wc.cell? ⟨wr.heap.size, 0, none⟩ = some (.int .i64 v.1) := V1.c 0 (of_decide_eq_true rfl)
        have q1 : wc.cell? ⟨wr.heap.size, 1, none⟩ = some (.int .i64 v.2.1) := V1.c 1 (of_decide_eq_true rfl)
        have q2 : wc.cell? ⟨wr.heap.size, 2, none⟩ = some (.int .i64 v.2.2) := V1.c 2 (of_decide_eq_true rfl)
        go_wp2_with fail
        go_loop [45, 8] (fun kv mo => ∃ (q : Nat) (M1 : Int), q ≤ 3 ∧ kv = .int .i64 q ∧ mo = .int .i64 M1 ∧ Hid (MInv j v (L (j - 1)) g M M1 q)) (fun kv _ => 3 - (intOf kv).toNat)
        case atStart => exact ⟨0, M, by omega, rfl, rfl, ⟨by omega, m1, fun x h => by omega, fun x h => by omega⟩⟩
        case round =>
          obtain ⟨q, M1, hq, rfl, rfl, HM⟩ := hrel
          have mlo := HM.out.lo
          have mhi := HM.out.hi
          obtain rfl | rfl | rfl | rfl : q = 0 ∨ q = 1 ∨ q = 2 ∨ q = 3 := by omega
          · skip
            by_cases a1 : 219902325555200 < v.1
            · skip
              go_wp2_with (with_reducible refine post_stop ?_)
              exact ⟨bodyPost_ret (v := .bool true) (by simp [results, Try.results6, go_sem]) rfl ⟨rfl, L1⟩⟩
            by_cases a2 : v.1 < -219902325555200
            · skip
              go_wp2_with (with_reducible refine post_stop ?_)
              exact ⟨bodyPost_ret (v := .bool true) (by simp [results, Try.results6, go_sem]) rfl ⟨rfl, L1⟩⟩
            have hp : -219902325555200 ≤ vp v 0 ∧ vp v 0 ≤ 219902325555200 := ⟨by show -219902325555200 ≤ v.1; omega, by show v.1 ≤ 219902325555200; omega⟩
            have HP : Hid _ := hp
            clear hp
            cases j with
            | zero =>
              go_wp2
              go_round
              case rel => exact ⟨1, M1, by omega, by go_num, rfl, HM.out.next (Int.le_refl _) mhi HP.out (fun h => by omega)⟩
              case measure => simp [intOf]
            | succ m =>
              obtain ⟨R, hd, hf, hR⟩ := HI.out.s (by omega)
              rw [Nat.add_sub_cancel] at hf
              have kl : wc.cell? ⟨B, o + m * 3, none⟩ = some (.int .i64 (L m).1) := (L1.cell hB).trans (HL.out.1 m (by omega))
              have Bz : B < wc.heap.size := by omega
              have hl : -219902325555200 ≤ (L m).1 ∧ (L m).1 ≤ 219902325555200 := hf.1
              have HC : Hid (∀ M2 : Int, M1 ≤ M2 → M2 ≤ 43980465111044096 → (v.1 - (L m).1).tdiv g * 1000 + 4096 ≤ M2 → -((v.1 - (L m).1).tdiv g * 1000) + 4096 ≤ M2 → MInv (m + 1) v (L (m + 1 - 1)) g M M2 (0 + 1)) := fun M2 e1 e2 e3 e4 => HM.out.next e1 e2 HP.out (fun _ => by rw [Nat.add_sub_cancel]; exact ⟨e3, e4⟩)
              clear hd hf hR
              generalize (L m).1 = l at kl hl HC
              have cr := chg_rng (n := v.1) (l := l) (g := g) (by omega) hl (by omega)
              have gz : (g == 0) = false := by simp; omega
              have gn : ¬ g = 0 := by omega
              by_cases e1 : M1 < (v.1 - l).tdiv g * 1000 + 4096
              · by_cases e2 : (v.1 - l).tdiv g * 1000 + 4096 < -((v.1 - l).tdiv g * 1000) + 4096
                · go_wp2
                  go_round
                  case rel => exact ⟨1, _, by omega, by go_num, rfl, HC.out _ (by omega) (by omega) (by omega) (by omega)⟩
                  case measure => simp [intOf]
                · go_wp2
                  go_round
                  case rel => exact ⟨1, _, by omega, by go_num, rfl, HC.out _ (by omega) (by omega) (by omega) (by omega)⟩
                  case measure => simp [intOf]
              · by_cases e2 : M1 < -((v.1 - l).tdiv g * 1000) + 4096
                · go_wp2
                  go_round
                  case rel => exact ⟨1, _, by omega, by go_num, rfl, HC.out _ (by omega) (by omega) (by omega) (by omega)⟩
                  case measure => simp [intOf]
                · go_wp2
                  go_round
                  case rel => exact ⟨1, _, by omega, by go_num, rfl, HC.out _ (by omega) (by omega) (by omega) (by omega)⟩
                  case measure => simp [intOf]
          · skip
            by_cases a1 : 219902325555200 < v.2.1
            · skip
              go_wp2_with (with_reducible refine post_stop ?_)
              exact ⟨bodyPost_ret (v := .bool true) (by simp [results, Try.results6, go_sem]) rfl ⟨rfl, L1⟩⟩
            by_cases a2 : v.2.1 < -219902325555200
            · skip
              go_wp2_with (with_reducible refine post_stop ?_)
              exact ⟨bodyPost_ret (v := .bool true) (by simp [results, Try.results6, go_sem]) rfl ⟨rfl, L1⟩⟩
            have hp : -219902325555200 ≤ vp v 1 ∧ vp v 1 ≤ 219902325555200 := ⟨by show -219902325555200 ≤ v.2.1; omega, by show v.2.1 ≤ 219902325555200; omega⟩
            have HP : Hid _ := hp
            clear hp
            cases j with
            | zero =>
              go_wp2
              go_round
              case rel => exact ⟨2, M1, by omega, by go_num, rfl, HM.out.next (Int.le_refl _) mhi HP.out (fun h => by omega)⟩
              case measure => simp [intOf]
            | succ m =>
              obtain ⟨R, hd, hf, hR⟩ := HI.out.s (by omega)
              rw [Nat.add_sub_cancel] at hf
              have kl : wc.cell? ⟨B, o + m * 3 + 1, none⟩ = some (.int .i64 (L m).2.1) := (L1.cell hB).trans (HL.out.2.1 m (by omega))
              have Bz : B < wc.heap.size := by omega
              have hl : -219902325555200 ≤ (L m).2.1 ∧ (L m).2.1 ≤ 219902325555200 := hf.2.1
              have HC : Hid (∀ M2 : Int, M1 ≤ M2 → M2 ≤ 43980465111044096 → (v.2.1 - (L m).2.1).tdiv g * 1000 + 4096 ≤ M2 → -((v.2.1 - (L m).2.1).tdiv g * 1000) + 4096 ≤ M2 → MInv (m + 1) v (L (m + 1 - 1)) g M M2 (1 + 1)) := fun M2 e1 e2 e3 e4 => HM.out.next e1 e2 HP.out (fun _ => by rw [Nat.add_sub_cancel]; exact ⟨e3, e4⟩)
              clear hd hf hR
              generalize (L m).2.1 = l at kl hl HC
              have cr := chg_rng (n := v.2.1) (l := l) (g := g) (by omega) hl (by omega)
              have gz : (g == 0) = false := by simp; omega
              have gn : ¬ g = 0 := by omega
              by_cases e1 : M1 < (v.2.1 - l).tdiv g * 1000 + 4096
              · by_cases e2 : (v.2.1 - l).tdiv g * 1000 + 4096 < -((v.2.1 - l).tdiv g * 1000) + 4096
                · go_wp2
                  go_round
                  case rel => exact ⟨2, _, by omega, by go_num, rfl, HC.out _ (by omega) (by omega) (by omega) (by omega)⟩
                  case measure => simp [intOf]
                · go_wp2
                  go_round
                  case rel => exact ⟨2, _, by omega, by go_num, rfl, HC.out _ (by omega) (by omega) (by omega) (by omega)⟩
                  case measure => simp [intOf]
              · by_cases e2 : M1 < -((v.2.1 - l).tdiv g * 1000) + 4096
                · go_wp2
                  go_round
                  case rel => exact ⟨2, _, by omega, by go_num, rfl, HC.out _ (by omega) (by omega) (by omega) (by omega)⟩
                  case measure => simp [intOf]
                · go_wp2
                  go_round
                  case rel => exact ⟨2, _, by omega, by go_num, rfl, HC.out _ (by omega) (by omega) (by omega) (by omega)⟩
                  case measure => simp [intOf]
          · skip
            by_cases a1 : 219902325555200 < v.2.2
            · skip
              go_wp2_with (with_reducible refine post_stop ?_)
              exact ⟨bodyPost_ret (v := .bool true) (by simp [results, Try.results6, go_sem]) rfl ⟨rfl, L1⟩⟩
            by_cases a2 : v.2.2 < -219902325555200
            · skip
              go_wp2_with (with_reducible refine post_stop ?_)
              exact ⟨bodyPost_ret (v := .bool true) (by simp [results, Try.results6, go_sem]) rfl ⟨rfl, L1⟩⟩
            have hp : -219902325555200 ≤ vp v 2 ∧ vp v 2 ≤ 219902325555200 := ⟨by show -219902325555200 ≤ v.2.2; omega, by show v.2.2 ≤ 219902325555200; omega⟩
            have HP : Hid _ := hp
            clear hp
            cases j with
            | zero =>
              go_wp2
              go_round
              case rel => exact ⟨3, M1, by omega, by go_num, rfl, HM.out.next (Int.le_refl _) mhi HP.out (fun h => by omega)⟩
              case measure => simp [intOf]
            | succ m =>
              obtain ⟨R, hd, hf, hR⟩ := HI.out.s (by omega)
              rw [Nat.add_sub_cancel] at hf
              have kl : wc.cell? ⟨B, o + m * 3 + 2, none⟩ = some (.int .i64 (L m).2.2) := (L1.cell hB).trans (HL.out.2.2 m (by omega))
              have Bz : B < wc.heap.size := by omega
              have hl : -219902325555200 ≤ (L m).2.2 ∧ (L m).2.2 ≤ 219902325555200 := hf.2.2
              have HC : Hid (∀ M2 : Int, M1 ≤ M2 → M2 ≤ 43980465111044096 → (v.2.2 - (L m).2.2).tdiv g * 1000 + 4096 ≤ M2 → -((v.2.2 - (L m).2.2).tdiv g * 1000) + 4096 ≤ M2 → MInv (m + 1) v (L (m + 1 - 1)) g M M2 (2 + 1)) := fun M2 e1 e2 e3 e4 => HM.out.next e1 e2 HP.out (fun _ => by rw [Nat.add_sub_cancel]; exact ⟨e3, e4⟩)
              clear hd hf hR
              generalize (L m).2.2 = l at kl hl HC
              have cr := chg_rng (n := v.2.2) (l := l) (g := g) (by omega) hl (by omega)
              have gz : (g == 0) = false := by simp; omega
              have gn : ¬ g = 0 := by omega
              by_cases e1 : M1 < (v.2.2 - l).tdiv g * 1000 + 4096
              · by_cases e2 : (v.2.2 - l).tdiv g * 1000 + 4096 < -((v.2.2 - l).tdiv g * 1000) + 4096
                · go_wp2
                  go_round
                  case rel => exact ⟨3, _, by omega, by go_num, rfl, HC.out _ (by omega) (by omega) (by omega) (by omega)⟩
                  case measure => simp [intOf]
                · go_wp2
                  go_round
                  case rel => exact ⟨3, _, by omega, by go_num, rfl, HC.out _ (by omega) (by omega) (by omega) (by omega)⟩
                  case measure => simp [intOf]
              · by_cases e2 : M1 < -((v.2.2 - l).tdiv g * 1000) + 4096
                · go_wp2
                  go_round
                  case rel => exact ⟨3, _, by omega, by go_num, rfl, HC.out _ (by omega) (by omega) (by omega) (by omega)⟩
                  case measure => simp [intOf]
                · go_wp2
                  go_round
                  case rel => exact ⟨3, _, by omega, by go_num, rfl, HC.out _ (by omega) (by omega) (by omega) (by omega)⟩
                  case measure => simp [intOf]
          · skip
            have r0 : wc.cell? ⟨w1.heap.size + 1, 0, none⟩ = some (.bool d.1) := D1.c 0 (of_decide_eq_true rfl)
            have r1 : wc.cell? ⟨w1.heap.size + 1, 1, none⟩ = some (.int .i64 d.2.1) := D1.c 1 (of_decide_eq_true rfl)
            have r2 : wc.cell? ⟨w1.heap.size + 1, 2, none⟩ = some (.int .i64 d.2.2.1) := D1.c 2 (of_decide_eq_true rfl)
            have r3 : wc.cell? ⟨w1.heap.size + 1, 3, none⟩ = some (.int .i64 d.2.2.2.1) := D1.c 3 (of_decide_eq_true rfl)
            have r4 : wc.cell? ⟨w1.heap.size + 1, 4, none⟩ = some (.int .i64 d.2.2.2.2.1) := D1.c 4 (of_decide_eq_true rfl)
            have r5 : wc.cell? ⟨w1.heap.size + 1, 5, none⟩ = some (.int .i64 d.2.2.2.2.2.1) := D1.c 5 (of_decide_eq_true rfl)
            have r6 : wc.cell? ⟨w1.heap.size + 1, 6, none⟩ = some (.int .i64 d.2.2.2.2.2.2.1) := D1.c 6 (of_decide_eq_true rfl)
            have r7 : wc.cell? ⟨w1.heap.size + 1, 7, none⟩ = some (.int .i64 d.2.2.2.2.2.2.2) := D1.c 7 (of_decide_eq_true rfl)
            obtain ⟨R, HS, HR⟩ : ∃ R : V3, Hid (bStepS false d v (T + g) = ((true, T + g, v.1, v.2.1, v.2.2, R.1, R.2.1, R.2.2), false)) ∧ Hid (Rated R M1) := by
              by_cases j0 : j = 0
              · rw [HI.out.z j0]
                exact ⟨(0, 0, 0), hold_first v _ HM.out.fit, ⟨by show -M1 ≤ 0; omega, by show 0 ≤ M1; omega, by show -M1 ≤ 0; omega, by show 0 ≤ M1; omega, by show -M1 ≤ 0; omega, by show 0 ≤ M1; omega⟩⟩
              · obtain ⟨R, hd, hf, hR⟩ := HI.out.s (by omega)
                rw [hd]
                obtain ⟨R', e, r⟩ := hold_next v _ R T g M1 HM.out.fit hf ⟨g0, g1⟩ ⟨by omega, mhi⟩ (hR.up mlo) (HM.out.most (by omega))
                exact ⟨R', e, r⟩
            have dr : -9223372036854775808 ≤ d.2.1 ∧ d.2.1 ≤ 9223372036854775807 := by
              by_cases j0 : j = 0
              · rw [HI.out.z j0]; exact ⟨by decide, by decide⟩
              · obtain ⟨R, hd, _⟩ := HI.out.s (by omega)
                rw [hd]
                exact ⟨by show _ ≤ T; omega, by show T ≤ _; omega⟩
            have a0 := HR.out.a0
            have b0 := HR.out.b0
            have a1 := HR.out.a1
            have b1 := HR.out.b1
            have a2 := HR.out.a2
            have b2 := HR.out.b2
            have HN : Hid (HInv L (j + 1) (T + g) M1 (true, T + g, v.1, v.2.1, v.2.2, R.1, R.2.1, R.2.2)) := ⟨by omega, by omega, by omega, mhi, fun h => by omega, fun _ => ⟨R, by rw [Nat.add_sub_cancel, ← HV.out], by rw [Nat.add_sub_cancel, ← HV.out]; exact HM.out.fit, HR.out⟩⟩
            go_wp2_with fail
            refine (bStep_any w1.heap.size false d v (T + g) _ F1 dr (by omega)).mono ?_
            rintro e w2 ⟨rfl, F2, K2⟩
            rw [HS.out] at F2 ⊢
            dsimp only at F2 ⊢
            have L2 := K2.on L1 (by omega)
            have D2 := D1.kept K2 (by omega)
            have dz2 := D2.lies
            clear r0 r1 r2 r3 r4 r5 r6 r7 q0 q1 q2
            have r0 : w2.cell? ⟨w1.heap.size + 1, 0, none⟩ = some (.bool d.1) := D2.c 0 (of_decide_eq_true rfl)
            have s0 := D2.f 0 (of_decide_eq_true rfl)
            have r1 : w2.cell? ⟨w1.heap.size + 1, 1, none⟩ = some (.int .i64 d.2.1) := D2.c 1 (of_decide_eq_true rfl)
            have s1 := D2.f 1 (of_decide_eq_true rfl)
            have r2 : w2.cell? ⟨w1.heap.size + 1, 2, none⟩ = some (.int .i64 d.2.2.1) := D2.c 2 (of_decide_eq_true rfl)
            have s2 := D2.f 2 (of_decide_eq_true rfl)
            have r3 : w2.cell? ⟨w1.heap.size + 1, 3, none⟩ = some (.int .i64 d.2.2.2.1) := D2.c 3 (of_decide_eq_true rfl)
            have s3 := D2.f 3 (of_decide_eq_true rfl)
            have r4 : w2.cell? ⟨w1.heap.size + 1, 4, none⟩ = some (.int .i64 d.2.2.2.2.1) := D2.c 4 (of_decide_eq_true rfl)
            have s4 := D2.f 4 (of_decide_eq_true rfl)
            have r5 : w2.cell? ⟨w1.heap.size + 1, 5, none⟩ = some (.int .i64 d.2.2.2.2.2.1) := D2.c 5 (of_decide_eq_true rfl)
            have s5 := D2.f 5 (of_decide_eq_true rfl)
            have r6 : w2.cell? ⟨w1.heap.size + 1, 6, none⟩ = some (.int .i64 d.2.2.2.2.2.2.1) := D2.c 6 (of_decide_eq_true rfl)
            have s6 := D2.f 6 (of_decide_eq_true rfl)
            have r7 : w2.cell? ⟨w1.heap.size + 1, 7, none⟩ = some (.int .i64 d.2.2.2.2.2.2.2) := D2.c 7 (of_decide_eq_true rfl)
            have s7 := D2.f 7 (of_decide_eq_true rfl)
            go_wp2_with fail
            refine wp_loop_rounds 4 ?_
            rw [rounds_succ]
            go_wp2_with fail
            rw [rounds_succ]
            go_wp2_with fail
            rw [rounds_succ]
            go_wp2_with fail
            rw [rounds_succ]
            go_wp2_with fail
            go_roundw
            case rel => exact ⟨j + 1, T + g, M1, (true, T + g, v.1, v.2.1, v.2.2, R.1, R.2.1, R.2.2), by omega, by go_num, rfl, rfl, (bel_new (bel_new (bel_new (bel_new (bel_new (bel_new (bel_new (bel_new L2 _ _ (by omega) _) _ _ (by omega) _) _ _ (by omega) _) _ _ (by omega) _) _ _ (by omega) _) _ _ (by omega) _) _ _ (by omega) _) _ _ (by omega) _), ((((((((F2.new _ _ (by omega) _).new _ _ (by omega) _).new _ _ (by omega) _).new _ _ (by omega) _).new _ _ (by omega) _).new _ _ (by omega) _).new _ _ (by omega) _).new _ _ (by omega) _), ((((((((D2.put 0 (of_decide_eq_true rfl) (.bool true) [.bool true, .int .i64 d.2.1, .int .i64 d.2.2.1, .int .i64 d.2.2.2.1, .int .i64 d.2.2.2.2.1, .int .i64 d.2.2.2.2.2.1, .int .i64 d.2.2.2.2.2.2.1, .int .i64 d.2.2.2.2.2.2.2] rfl).put 1 (of_decide_eq_true rfl) (.int .i64 (T + g)) [.bool true, .int .i64 (T + g), .int .i64 d.2.2.1, .int .i64 d.2.2.2.1, .int .i64 d.2.2.2.2.1, .int .i64 d.2.2.2.2.2.1, .int .i64 d.2.2.2.2.2.2.1, .int .i64 d.2.2.2.2.2.2.2] rfl).put 2 (of_decide_eq_true rfl) (.int .i64 v.1) [.bool true, .int .i64 (T + g), .int .i64 v.1, .int .i64 d.2.2.2.1, .int .i64 d.2.2.2.2.1, .int .i64 d.2.2.2.2.2.1, .int .i64 d.2.2.2.2.2.2.1, .int .i64 d.2.2.2.2.2.2.2] rfl).put 3 (of_decide_eq_true rfl) (.int .i64 v.2.1) [.bool true, .int .i64 (T + g), .int .i64 v.1, .int .i64 v.2.1, .int .i64 d.2.2.2.2.1, .int .i64 d.2.2.2.2.2.1, .int .i64 d.2.2.2.2.2.2.1, .int .i64 d.2.2.2.2.2.2.2] rfl).put 4 (of_decide_eq_true rfl) (.int .i64 v.2.2) [.bool true, .int .i64 (T + g), .int .i64 v.1, .int .i64 v.2.1, .int .i64 v.2.2, .int .i64 d.2.2.2.2.2.1, .int .i64 d.2.2.2.2.2.2.1, .int .i64 d.2.2.2.2.2.2.2] rfl).put 5 (of_decide_eq_true rfl) (.int .i64 R.1) [.bool true, .int .i64 (T + g), .int .i64 v.1, .int .i64 v.2.1, .int .i64 v.2.2, .int .i64 R.1, .int .i64 d.2.2.2.2.2.2.1, .int .i64 d.2.2.2.2.2.2.2] rfl).put 6 (of_decide_eq_true rfl) (.int .i64 R.2.1) [.bool true, .int .i64 (T + g), .int .i64 v.1, .int .i64 v.2.1, .int .i64 v.2.2, .int .i64 R.1, .int .i64 R.2.1, .int .i64 d.2.2.2.2.2.2.2] rfl).put 7 (of_decide_eq_true rfl) (.int .i64 R.2.2) [.bool true, .int .i64 (T + g), .int .i64 v.1, .int .i64 v.2.1, .int .i64 v.2.2, .int .i64 R.1, .int .i64 R.2.1, .int .i64 R.2.2] rfl), HN.out⟩
            case measure => simp [intOf]; omega
    · obtain rfl : j = len := by omega
      have cf := F0.cell
      go_wp2
      go_ret
      exact ⟨rfl, L0⟩
end Go.Proofs.Ytibjmmlnkgapeaa
