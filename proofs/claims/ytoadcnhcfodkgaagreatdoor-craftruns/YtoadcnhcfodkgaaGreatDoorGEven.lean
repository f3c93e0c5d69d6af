/-
  The walk of workEven, for the seat YtoadcnhcfodkgaaGreatDoor. (Made by mkfield.py.)
-/
import Derived.Test.YtoadcnhcfodkgaaGreatDoorGLeaf
import Derived.Test.YtoadcnhcfodkgaaGreatDoorMapQ
import Derived.Handy
import Derived.Deep.RegionHeld3
namespace Go.Proofs.YtoadcnhcfodkgaaGreatDoor
open Go.RowKit

set_option maxRecDepth 100000 in
set_option maxHeartbeats 4000000 in
theorem even_any (b kp kd kq cp cd cq : Nat) (fp fd fq : Int → Int → Int) (n c s pz dz qz : Int) (w : World) (hw : Fl b false w) (hp : Mp kp cp fp w) (hd : Mp kd cd fd w) (hq : Mp kq cq fq w) (d1 : b ≠ kp) (d2 : b ≠ kd) (d3 : b ≠ kq) (d4 : kp ≠ kd) (d5 : kp ≠ kq) (d6 : kd ≠ kq) (l1 : cp < 900) (l2 : cd < 900) (l3 : cq < 900) (n1 : 2 ≤ n) (n6 : n ≤ 6) (T : DiaT n c s (fp (n - 1) (n - 1)) (fd (n - 1) (n - 1)) (fq (n - 1) (n - 1)) pz dz qz) (i1 : I64 pz) (i2 : I64 dz) (i3 : I64 qz) :
    Calls Tryz.prog 268 #[.agg #[.map (some kp), .map (some kd), .map (some kq)], .pointer (some ⟨b, 0, none⟩), .int .i64 n, .int .i64 c, .int .i64 s] w fun e w' => e = .returned (.tuple #[]) ∧ Fl b false w' ∧ Mp kp (cp + 1) (putM fp n n pz) w' ∧ Mp kd (cd + 1) (putM fd n n dz) w' ∧ Mp kq (cq + 1) (putM fq n n qz) w' ∧ KeptL [b, kp, kd, kq] w w' := by
  have hl := hw.lies
  have l_p := hp.lies
  have l_d := hd.lies
  have l_q := hq.lies
  have hs4 : mulS false c ((putM fp n n pz) (n - 1) (n - 1)) = (T.v4, false) := by rw [show putM fp n n pz (n - 1) (n - 1) = fp (n - 1) (n - 1) from if_neg (by omega)]; exact T.h4
  go_enter Tryz.func268, Tryz.ntmps268
  have y1_BF : b < w.heap.size := hw.lies
  have y1_MP : kp < w.heap.size := hp.lies
  have y1_MD : kd < w.heap.size := hd.lies
  have y1_MQ : kq < w.heap.size := hq.lies
  have y2_BF : b < w.heap.size + 1 := (Nat.lt_succ_of_lt hw.lies)
  have y2_MP : kp < w.heap.size + 1 := (Nat.lt_succ_of_lt hp.lies)
  have y2_MD : kd < w.heap.size + 1 := (Nat.lt_succ_of_lt hd.lies)
  have y2_MQ : kq < w.heap.size + 1 := (Nat.lt_succ_of_lt hq.lies)
  have y2_B0 : w.heap.size < w.heap.size + 1 := (Nat.lt_succ_self _)
  have y3_BF : b < w.heap.size + 1 + 1 := (Nat.lt_succ_of_lt (Nat.lt_succ_of_lt hw.lies))
  have y3_MP : kp < w.heap.size + 1 + 1 := (Nat.lt_succ_of_lt (Nat.lt_succ_of_lt hp.lies))
  have y3_MD : kd < w.heap.size + 1 + 1 := (Nat.lt_succ_of_lt (Nat.lt_succ_of_lt hd.lies))
  have y3_MQ : kq < w.heap.size + 1 + 1 := (Nat.lt_succ_of_lt (Nat.lt_succ_of_lt hq.lies))
  have y3_B0 : w.heap.size < w.heap.size + 1 + 1 := (Nat.lt_succ_of_lt (Nat.lt_succ_self _))
  have y3_B1 : w.heap.size + 1 < w.heap.size + 1 + 1 := (Nat.lt_succ_self _)
  go_wp2_with fail
  refine (Part_any b false 1099511627776 ((2 * n) - 1) (2 * n) _ (((hw.alloc _).alloc _).alloc _)).mono ?_
  rintro e w1 ⟨rfl, f1, k1⟩
  rw [T.hp] at f1 ⊢
  dsimp only at f1 ⊢
  have K1 : KeptL [b, kp, kd, kq] w w1 := KeptL.on ((((KeptL.refl [b, kp, kd, kq] w).al _).al _).al _) k1 (by simp)
  have MP_1 : Mp kp cp fp w1 := (((hp.alloc _).alloc _).alloc _).kept k1 (by omega)
  have MD_1 : Mp kd cd fd w1 := (((hd.alloc _).alloc _).alloc _).kept k1 (by omega)
  have MQ_1 : Mp kq cq fq w1 := (((hq.alloc _).alloc _).alloc _).kept k1 (by omega)
  have B0_1 : Arr w.heap.size [.map (some kp), .map (some kd), .map (some kq)] w1 := (((Arr_at _ _ [.map (some kp), .map (some kd), .map (some kq)] _ (by simp)).alloc _).alloc _).kept k1 (Nat.ne_of_gt y1_BF)
  have B1_1 : Arr (w.heap.size + 1) [.int .i64 n, .int .i64 n] w1 := ((Arr_at _ _ [.int .i64 n, .int .i64 n] _ (by simp)).alloc _).kept k1 (Nat.ne_of_gt y2_BF)
  have B2_1 : Arr (w.heap.size + 1 + 1) [.int .i64 (n - 1), .int .i64 (n - 1)] w1 := (Arr_at _ _ [.int .i64 (n - 1), .int .i64 (n - 1)] _ (by simp)).kept k1 (Nat.ne_of_gt y3_BF)
  have z1 := B2_1.lies
  clear hp hd hq k1
  go_wp2_with fail
  refine (Sqrt_any b false T.p _ f1).mono ?_
  rintro e w2 ⟨rfl, f2, k2⟩
  rw [T.hj] at f2 ⊢
  dsimp only at f2 ⊢
  have K2 : KeptL [b, kp, kd, kq] w w2 := KeptL.on K1 k2 (by simp)
  have MP_2 : Mp kp cp fp w2 := MP_1.kept k2 (by omega)
  have MD_2 : Mp kd cd fd w2 := MD_1.kept k2 (by omega)
  have MQ_2 : Mp kq cq fq w2 := MQ_1.kept k2 (by omega)
  have B0_2 : Arr w.heap.size [.map (some kp), .map (some kd), .map (some kq)] w2 := B0_1.kept k2 (Nat.ne_of_gt y1_BF)
  have B1_2 : Arr (w.heap.size + 1) [.int .i64 n, .int .i64 n] w2 := B1_1.kept k2 (Nat.ne_of_gt y2_BF)
  have B2_2 : Arr (w.heap.size + 1 + 1) [.int .i64 (n - 1), .int .i64 (n - 1)] w2 := B2_1.kept k2 (Nat.ne_of_gt y3_BF)
  have z2 := B2_2.lies
  clear K1 f1 MP_1 MD_1 MQ_1 B0_1 B1_1 B2_1 k2
  go_wp2_with fail
  refine wp_region_held_drew (S := fun w' => Arr w.heap.size [.map (some kp), .map (some kd), .map (some kq)] w' ∧ Arr (w.heap.size + 1) [.int .i64 n, .int .i64 n] w' ∧ Arr (w.heap.size + 1 + 1) [.int .i64 (n - 1), .int .i64 (n - 1)] w' ∧ NearM kp fp n n w') (by kernel_rfl) ⟨B0_2.drew, B1_2.drew, B2_2.drew, (NearM.same MP_2.drew)⟩ (fun hHeld => ?_)
  refine take_at (i := 0) (v := ?v1) rfl (by kernel_rfl) (by kernel_rfl) (by kernel_rfl) (fun _ _ _ h => h) (Or.inl ⟨by rfl, ?y1⟩) hHeld ?t1
  case y1 => (intro wx hSw; go_simp <;> with_reducible rfl)
  simp only [Act.put, List.setIfInBounds_toArray, List.set_cons_zero, List.set_cons_succ]
  refine take_at (i := 1) (v := ?v2) rfl (by kernel_rfl) (by kernel_rfl) (by kernel_rfl) (fun _ _ _ h => h) (Or.inl ⟨by rfl, ?y2⟩) hHeld ?t2
  case y2 => (intro wx hSw; have hc0 : wx.cell? ⟨w.heap.size, 0, none⟩ = some (.map (some kp)) := hSw.1.c 0 (of_decide_eq_true rfl); go_simp <;> with_reducible rfl)
  simp only [Act.put, List.setIfInBounds_toArray, List.set_cons_zero, List.set_cons_succ]
  refine take_at (i := 2) (v := ?v3) rfl (by kernel_rfl) (by kernel_rfl) (by kernel_rfl) (fun _ _ _ h => h) (Or.inl ⟨by rfl, ?y3⟩) hHeld ?t3
  case y3 => (intro wx hSw; have hc0 : wx.cell? ⟨w.heap.size + 1, 0, none⟩ = some (.int .i64 n) := hSw.2.1.c 0 (of_decide_eq_true rfl); have hc1 : wx.cell? ⟨w.heap.size + 1, 1, none⟩ = some (.int .i64 n) := hSw.2.1.c 1 (of_decide_eq_true rfl); go_simp <;> with_reducible rfl)
  simp only [Act.put, List.setIfInBounds_toArray, List.set_cons_zero, List.set_cons_succ]
  refine take_at (i := 3) (v := ?v4) rfl (by kernel_rfl) (by kernel_rfl) (by kernel_rfl) (fun _ _ _ h => h) (Or.inl ⟨by rfl, ?y4⟩) hHeld ?t4
  case y4 => (intro wx hSw; go_simp <;> with_reducible rfl)
  simp only [Act.put, List.setIfInBounds_toArray, List.set_cons_zero, List.set_cons_succ]
  refine take_at (i := 4) (v := ?v5) rfl (by kernel_rfl) (by kernel_rfl) (by kernel_rfl) (fun _ _ _ h => h) (Or.inl ⟨by rfl, ?y5⟩) hHeld ?t5
  case y5 => (intro wx hSw; go_simp <;> with_reducible rfl)
  simp only [Act.put, List.setIfInBounds_toArray, List.set_cons_zero, List.set_cons_succ]
  refine take_at (i := 5) (v := ?v6) rfl (by kernel_rfl) (by kernel_rfl) (by kernel_rfl) (fun _ _ _ h => h) (Or.inl ⟨by rfl, ?y6⟩) hHeld ?t6
  case y6 => (intro wx hSw; go_simp <;> with_reducible rfl)
  simp only [Act.put, List.setIfInBounds_toArray, List.set_cons_zero, List.set_cons_succ]
  refine take_at (i := 6) (v := ?v7) rfl (by kernel_rfl) (by kernel_rfl) (by kernel_rfl) (fun _ _ _ h => h) (Or.inl ⟨by rfl, ?y7⟩) hHeld ?t7
  case y7 => (intro wx hSw; go_simp <;> with_reducible rfl)
  simp only [Act.put, List.setIfInBounds_toArray, List.set_cons_zero, List.set_cons_succ]
  refine take_at (i := 7) (v := ?v8) rfl (by kernel_rfl) (by kernel_rfl) (by kernel_rfl) (fun _ _ _ h => h) (Or.inl ⟨by rfl, ?y8⟩) hHeld ?t8
  case y8 => (intro wx hSw; go_simp <;> with_reducible rfl)
  simp only [Act.put, List.setIfInBounds_toArray, List.set_cons_zero, List.set_cons_succ]
  refine take_at (i := 8) (v := ?v9) rfl (by kernel_rfl) (by kernel_rfl) (by kernel_rfl) (fun _ _ _ h => h) (Or.inl ⟨by rfl, ?y9⟩) hHeld ?t9
  case y9 => (intro wx hSw; have hc0 : wx.cell? ⟨w.heap.size, 0, none⟩ = some (.map (some kp)) := hSw.1.c 0 (of_decide_eq_true rfl); go_simp <;> with_reducible rfl)
  simp only [Act.put, List.setIfInBounds_toArray, List.set_cons_zero, List.set_cons_succ]
  refine take_at (i := 9) (v := ?v10) rfl (by kernel_rfl) (by kernel_rfl) (by kernel_rfl) (fun _ _ _ h => h) (Or.inl ⟨by rfl, ?y10⟩) hHeld ?t10
  case y10 => (intro wx hSw; have hc0 : wx.cell? ⟨w.heap.size + 1 + 1, 0, none⟩ = some (.int .i64 (n - 1)) := hSw.2.2.1.c 0 (of_decide_eq_true rfl); have hc1 : wx.cell? ⟨w.heap.size + 1 + 1, 1, none⟩ = some (.int .i64 (n - 1)) := hSw.2.2.1.c 1 (of_decide_eq_true rfl); go_simp <;> with_reducible rfl)
  simp only [Act.put, List.setIfInBounds_toArray, List.set_cons_zero, List.set_cons_succ]
  refine take_at (i := 10) rfl (by kernel_rfl) (by kernel_rfl) (by kernel_rfl) (fun _ _ _ h => h) (mp_yield_near (by rfl) rfl rfl rfl (fun _ hSw => hSw.2.2.2) ⟨by omega, by omega⟩ ⟨by omega, by omega⟩ (by omega)) hHeld ?_
  simp only [Act.put, List.setIfInBounds_toArray, List.set_cons_zero, List.set_cons_succ]
  refine call_at (i := 11) (by kernel_rfl) rfl (fun K hK => ?_)
  go_simp
  refine (Mul_any b false s (fp (n - 1) (n - 1)) _ f2.drew).mono ?_
  rintro e w3 ⟨rfl, f3, k3⟩
  rw [T.h1] at f3 ⊢
  dsimp only at f3 ⊢
  have K3 : KeptL [b, kp, kd, kq] w w3 := KeptL.on K2.drew k3 (by simp)
  have MP_3 : Mp kp cp fp w3 := MP_2.drew.kept k3 (by omega)
  have MD_3 : Mp kd cd fd w3 := MD_2.drew.kept k3 (by omega)
  have MQ_3 : Mp kq cq fq w3 := MQ_2.drew.kept k3 (by omega)
  have B0_3 : Arr w.heap.size [.map (some kp), .map (some kd), .map (some kq)] w3 := B0_2.drew.kept k3 (Nat.ne_of_gt y1_BF)
  have B1_3 : Arr (w.heap.size + 1) [.int .i64 n, .int .i64 n] w3 := B1_2.drew.kept k3 (Nat.ne_of_gt y2_BF)
  have B2_3 : Arr (w.heap.size + 1 + 1) [.int .i64 (n - 1), .int .i64 (n - 1)] w3 := B2_2.drew.kept k3 (Nat.ne_of_gt y3_BF)
  have z3 := B2_3.lies
  clear hHeld
  refine hK.out _ _ ⟨B0_3, B1_3, B2_3, (NearM.same MP_3)⟩ (fun hHeld => ?_)
  clear hK K K2 f2 MP_2 MD_2 MQ_2 B0_2 B1_2 B2_2 k3
  refine call_at (i := 12) (by kernel_rfl) rfl (fun K hK => ?_)
  go_simp
  refine (Mul_any b false T.j T.v1 _ f3).mono ?_
  rintro e w4 ⟨rfl, f4, k4⟩
  rw [T.h2] at f4 ⊢
  dsimp only at f4 ⊢
  have K4 : KeptL [b, kp, kd, kq] w w4 := KeptL.on K3 k4 (by simp)
  have MP_4 : Mp kp cp fp w4 := MP_3.kept k4 (by omega)
  have MD_4 : Mp kd cd fd w4 := MD_3.kept k4 (by omega)
  have MQ_4 : Mp kq cq fq w4 := MQ_3.kept k4 (by omega)
  have B0_4 : Arr w.heap.size [.map (some kp), .map (some kd), .map (some kq)] w4 := B0_3.kept k4 (Nat.ne_of_gt y1_BF)
  have B1_4 : Arr (w.heap.size + 1) [.int .i64 n, .int .i64 n] w4 := B1_3.kept k4 (Nat.ne_of_gt y2_BF)
  have B2_4 : Arr (w.heap.size + 1 + 1) [.int .i64 (n - 1), .int .i64 (n - 1)] w4 := B2_3.kept k4 (Nat.ne_of_gt y3_BF)
  have z4 := B2_4.lies
  clear hHeld
  refine hK.out _ _ ⟨B0_4, B1_4, B2_4, (NearM.same MP_4)⟩ (fun hHeld => ?_)
  clear hK K K3 f3 MP_3 MD_3 MQ_3 B0_3 B1_3 B2_3 k4
  refine call_at (i := 13) (by kernel_rfl) rfl (fun K hK => ?_)
  refine mp_put (by rfl) rfl rfl rfl rfl MP_4 (by omega) ⟨by omega, by omega⟩ ⟨by omega, by omega⟩ i1 ?_
  intro w5 MP_5 k5
  have K5 : KeptL [b, kp, kd, kq] w w5 := KeptL.on K4 k5 (by simp)
  have BF_5 : Fl b false w5 := f4.kept k5 (by omega)
  have MD_5 : Mp kd cd fd w5 := MD_4.kept k5 (by omega)
  have MQ_5 : Mp kq cq fq w5 := MQ_4.kept k5 (by omega)
  have B0_5 : Arr w.heap.size [.map (some kp), .map (some kd), .map (some kq)] w5 := B0_4.kept k5 (Nat.ne_of_gt y1_MP)
  have B1_5 : Arr (w.heap.size + 1) [.int .i64 n, .int .i64 n] w5 := B1_4.kept k5 (Nat.ne_of_gt y2_MP)
  have B2_5 : Arr (w.heap.size + 1 + 1) [.int .i64 (n - 1), .int .i64 (n - 1)] w5 := B2_4.kept k5 (Nat.ne_of_gt y3_MP)
  have z5 := K5.size
  simp only [Act.put]
  clear hHeld
  refine hK.out _ _ ⟨B0_5, B1_5, B2_5, (NearM.upd MP_5)⟩ (fun hHeld => ?_)
  clear hK K K4 MP_4 f4 MD_4 MQ_4 B0_4 B1_4 B2_4 k5
  refine wpAnyH_done (by kernel_rfl) ?_ _
  clear hHeld
  go_wp2_with fail
  refine wp_region_held_drew (S := fun w' => Arr w.heap.size [.map (some kp), .map (some kd), .map (some kq)] w' ∧ Arr (w.heap.size + 1) [.int .i64 n, .int .i64 n] w' ∧ Arr (w.heap.size + 1 + 1) [.int .i64 (n - 1), .int .i64 (n - 1)] w' ∧ NearM kd fd n n w' ∧ Mp kp (cp + 1) (putM fp n n pz) w') (by kernel_rfl) ⟨B0_5.drew, B1_5.drew, B2_5.drew, (NearM.same MD_5.drew), MP_5.drew⟩ (fun hHeld => ?_)
  refine take_at (i := 0) (v := ?v11) rfl (by kernel_rfl) (by kernel_rfl) (by kernel_rfl) (fun _ _ _ h => h) (Or.inl ⟨by rfl, ?y11⟩) hHeld ?t11
  case y11 => (intro wx hSw; go_simp <;> with_reducible rfl)
  simp only [Act.put, List.setIfInBounds_toArray, List.set_cons_zero, List.set_cons_succ]
  refine take_at (i := 1) (v := ?v12) rfl (by kernel_rfl) (by kernel_rfl) (by kernel_rfl) (fun _ _ _ h => h) (Or.inl ⟨by rfl, ?y12⟩) hHeld ?t12
  case y12 => (intro wx hSw; have hc1 : wx.cell? ⟨w.heap.size, 1, none⟩ = some (.map (some kd)) := hSw.1.c 1 (of_decide_eq_true rfl); go_simp <;> with_reducible rfl)
  simp only [Act.put, List.setIfInBounds_toArray, List.set_cons_zero, List.set_cons_succ]
  refine take_at (i := 2) (v := ?v13) rfl (by kernel_rfl) (by kernel_rfl) (by kernel_rfl) (fun _ _ _ h => h) (Or.inl ⟨by rfl, ?y13⟩) hHeld ?t13
  case y13 => (intro wx hSw; have hc0 : wx.cell? ⟨w.heap.size + 1, 0, none⟩ = some (.int .i64 n) := hSw.2.1.c 0 (of_decide_eq_true rfl); have hc1 : wx.cell? ⟨w.heap.size + 1, 1, none⟩ = some (.int .i64 n) := hSw.2.1.c 1 (of_decide_eq_true rfl); go_simp <;> with_reducible rfl)
  simp only [Act.put, List.setIfInBounds_toArray, List.set_cons_zero, List.set_cons_succ]
  refine take_at (i := 3) (v := ?v14) rfl (by kernel_rfl) (by kernel_rfl) (by kernel_rfl) (fun _ _ _ h => h) (Or.inl ⟨by rfl, ?y14⟩) hHeld ?t14
  case y14 => (intro wx hSw; go_simp <;> with_reducible rfl)
  simp only [Act.put, List.setIfInBounds_toArray, List.set_cons_zero, List.set_cons_succ]
  refine take_at (i := 4) (v := ?v15) rfl (by kernel_rfl) (by kernel_rfl) (by kernel_rfl) (fun _ _ _ h => h) (Or.inl ⟨by rfl, ?y15⟩) hHeld ?t15
  case y15 => (intro wx hSw; go_simp <;> with_reducible rfl)
  simp only [Act.put, List.setIfInBounds_toArray, List.set_cons_zero, List.set_cons_succ]
  refine take_at (i := 5) (v := ?v16) rfl (by kernel_rfl) (by kernel_rfl) (by kernel_rfl) (fun _ _ _ h => h) (Or.inl ⟨by rfl, ?y16⟩) hHeld ?t16
  case y16 => (intro wx hSw; go_simp <;> with_reducible rfl)
  simp only [Act.put, List.setIfInBounds_toArray, List.set_cons_zero, List.set_cons_succ]
  refine take_at (i := 6) (v := ?v17) rfl (by kernel_rfl) (by kernel_rfl) (by kernel_rfl) (fun _ _ _ h => h) (Or.inl ⟨by rfl, ?y17⟩) hHeld ?t17
  case y17 => (intro wx hSw; go_simp <;> with_reducible rfl)
  simp only [Act.put, List.setIfInBounds_toArray, List.set_cons_zero, List.set_cons_succ]
  refine take_at (i := 7) (v := ?v18) rfl (by kernel_rfl) (by kernel_rfl) (by kernel_rfl) (fun _ _ _ h => h) (Or.inl ⟨by rfl, ?y18⟩) hHeld ?t18
  case y18 => (intro wx hSw; go_simp <;> with_reducible rfl)
  simp only [Act.put, List.setIfInBounds_toArray, List.set_cons_zero, List.set_cons_succ]
  refine take_at (i := 8) (v := ?v19) rfl (by kernel_rfl) (by kernel_rfl) (by kernel_rfl) (fun _ _ _ h => h) (Or.inl ⟨by rfl, ?y19⟩) hHeld ?t19
  case y19 => (intro wx hSw; go_simp <;> with_reducible rfl)
  simp only [Act.put, List.setIfInBounds_toArray, List.set_cons_zero, List.set_cons_succ]
  refine take_at (i := 9) (v := ?v20) rfl (by kernel_rfl) (by kernel_rfl) (by kernel_rfl) (fun _ _ _ h => h) (Or.inl ⟨by rfl, ?y20⟩) hHeld ?t20
  case y20 => (intro wx hSw; have hc1 : wx.cell? ⟨w.heap.size, 1, none⟩ = some (.map (some kd)) := hSw.1.c 1 (of_decide_eq_true rfl); go_simp <;> with_reducible rfl)
  simp only [Act.put, List.setIfInBounds_toArray, List.set_cons_zero, List.set_cons_succ]
  refine take_at (i := 10) (v := ?v21) rfl (by kernel_rfl) (by kernel_rfl) (by kernel_rfl) (fun _ _ _ h => h) (Or.inl ⟨by rfl, ?y21⟩) hHeld ?t21
  case y21 => (intro wx hSw; have hc0 : wx.cell? ⟨w.heap.size + 1 + 1, 0, none⟩ = some (.int .i64 (n - 1)) := hSw.2.2.1.c 0 (of_decide_eq_true rfl); have hc1 : wx.cell? ⟨w.heap.size + 1 + 1, 1, none⟩ = some (.int .i64 (n - 1)) := hSw.2.2.1.c 1 (of_decide_eq_true rfl); go_simp <;> with_reducible rfl)
  simp only [Act.put, List.setIfInBounds_toArray, List.set_cons_zero, List.set_cons_succ]
  refine take_at (i := 11) rfl (by kernel_rfl) (by kernel_rfl) (by kernel_rfl) (fun _ _ _ h => h) (mp_yield_near (by rfl) rfl rfl rfl (fun _ hSw => hSw.2.2.2.1) ⟨by omega, by omega⟩ ⟨by omega, by omega⟩ (by omega)) hHeld ?_
  simp only [Act.put, List.setIfInBounds_toArray, List.set_cons_zero, List.set_cons_succ]
  refine take_at (i := 13) (v := ?v22) rfl (by kernel_rfl) (by kernel_rfl) (by kernel_rfl) (fun _ _ _ h => h) (Or.inl ⟨by rfl, ?y22⟩) hHeld ?t22
  case y22 => (intro wx hSw; go_simp <;> with_reducible rfl)
  simp only [Act.put, List.setIfInBounds_toArray, List.set_cons_zero, List.set_cons_succ]
  refine take_at (i := 14) (v := ?v23) rfl (by kernel_rfl) (by kernel_rfl) (by kernel_rfl) (fun _ _ _ h => h) (Or.inl ⟨by rfl, ?y23⟩) hHeld ?t23
  case y23 => (intro wx hSw; go_simp <;> with_reducible rfl)
  simp only [Act.put, List.setIfInBounds_toArray, List.set_cons_zero, List.set_cons_succ]
  refine take_at (i := 15) (v := ?v24) rfl (by kernel_rfl) (by kernel_rfl) (by kernel_rfl) (fun _ _ _ h => h) (Or.inl ⟨by rfl, ?y24⟩) hHeld ?t24
  case y24 => (intro wx hSw; go_simp <;> with_reducible rfl)
  simp only [Act.put, List.setIfInBounds_toArray, List.set_cons_zero, List.set_cons_succ]
  refine take_at (i := 16) (v := ?v25) rfl (by kernel_rfl) (by kernel_rfl) (by kernel_rfl) (fun _ _ _ h => h) (Or.inl ⟨by rfl, ?y25⟩) hHeld ?t25
  case y25 => (intro wx hSw; have hc0 : wx.cell? ⟨w.heap.size, 0, none⟩ = some (.map (some kp)) := hSw.1.c 0 (of_decide_eq_true rfl); go_simp <;> with_reducible rfl)
  simp only [Act.put, List.setIfInBounds_toArray, List.set_cons_zero, List.set_cons_succ]
  refine take_at (i := 17) (v := ?v26) rfl (by kernel_rfl) (by kernel_rfl) (by kernel_rfl) (fun _ _ _ h => h) (Or.inl ⟨by rfl, ?y26⟩) hHeld ?t26
  case y26 => (intro wx hSw; have hc0 : wx.cell? ⟨w.heap.size + 1 + 1, 0, none⟩ = some (.int .i64 (n - 1)) := hSw.2.2.1.c 0 (of_decide_eq_true rfl); have hc1 : wx.cell? ⟨w.heap.size + 1 + 1, 1, none⟩ = some (.int .i64 (n - 1)) := hSw.2.2.1.c 1 (of_decide_eq_true rfl); go_simp <;> with_reducible rfl)
  simp only [Act.put, List.setIfInBounds_toArray, List.set_cons_zero, List.set_cons_succ]
  refine take_at (i := 18) rfl (by kernel_rfl) (by kernel_rfl) (by kernel_rfl) (fun _ _ _ h => h) (mp_yield (by rfl) rfl rfl rfl (fun _ hSw => hSw.2.2.2.2) ⟨by omega, by omega⟩ ⟨by omega, by omega⟩) hHeld ?_
  simp only [Act.put, List.setIfInBounds_toArray, List.set_cons_zero, List.set_cons_succ]
  refine call_at (i := 12) (by kernel_rfl) rfl (fun K hK => ?_)
  go_simp
  refine (Mul_any b false s (fd (n - 1) (n - 1)) _ BF_5.drew).mono ?_
  rintro e w6 ⟨rfl, f6, k6⟩
  rw [T.h3] at f6 ⊢
  dsimp only at f6 ⊢
  have K6 : KeptL [b, kp, kd, kq] w w6 := KeptL.on K5.drew k6 (by simp)
  have MP_6 : Mp kp (cp + 1) (putM fp n n pz) w6 := MP_5.drew.kept k6 (by omega)
  have MD_6 : Mp kd cd fd w6 := MD_5.drew.kept k6 (by omega)
  have MQ_6 : Mp kq cq fq w6 := MQ_5.drew.kept k6 (by omega)
  have B0_6 : Arr w.heap.size [.map (some kp), .map (some kd), .map (some kq)] w6 := B0_5.drew.kept k6 (Nat.ne_of_gt y1_BF)
  have B1_6 : Arr (w.heap.size + 1) [.int .i64 n, .int .i64 n] w6 := B1_5.drew.kept k6 (Nat.ne_of_gt y2_BF)
  have B2_6 : Arr (w.heap.size + 1 + 1) [.int .i64 (n - 1), .int .i64 (n - 1)] w6 := B2_5.drew.kept k6 (Nat.ne_of_gt y3_BF)
  have z6 := B2_6.lies
  clear hHeld
  refine hK.out _ _ ⟨B0_6, B1_6, B2_6, (NearM.same MD_6), MP_6⟩ (fun hHeld => ?_)
  clear hK K K5 BF_5 MP_5 MD_5 MQ_5 B0_5 B1_5 B2_5 k6
  refine call_at (i := 19) (by kernel_rfl) rfl (fun K hK => ?_)
  go_simp
  refine (Mul_any b false c ((putM fp n n pz) (n - 1) (n - 1)) _ f6).mono ?_
  rintro e w7 ⟨rfl, f7, k7⟩
  rw [hs4] at f7 ⊢
  dsimp only at f7 ⊢
  have K7 : KeptL [b, kp, kd, kq] w w7 := KeptL.on K6 k7 (by simp)
  have MP_7 : Mp kp (cp + 1) (putM fp n n pz) w7 := MP_6.kept k7 (by omega)
  have MD_7 : Mp kd cd fd w7 := MD_6.kept k7 (by omega)
  have MQ_7 : Mp kq cq fq w7 := MQ_6.kept k7 (by omega)
  have B0_7 : Arr w.heap.size [.map (some kp), .map (some kd), .map (some kq)] w7 := B0_6.kept k7 (Nat.ne_of_gt y1_BF)
  have B1_7 : Arr (w.heap.size + 1) [.int .i64 n, .int .i64 n] w7 := B1_6.kept k7 (Nat.ne_of_gt y2_BF)
  have B2_7 : Arr (w.heap.size + 1 + 1) [.int .i64 (n - 1), .int .i64 (n - 1)] w7 := B2_6.kept k7 (Nat.ne_of_gt y3_BF)
  have z7 := B2_7.lies
  clear hHeld
  refine hK.out _ _ ⟨B0_7, B1_7, B2_7, (NearM.same MD_7), MP_7⟩ (fun hHeld => ?_)
  clear hK K K6 f6 MP_6 MD_6 MQ_6 B0_6 B1_6 B2_6 k7
  refine call_at (i := 20) (by kernel_rfl) rfl (fun K hK => ?_)
  go_simp
  refine (Add_any b false T.v3 T.v4 _ f7).mono ?_
  rintro e w8 ⟨rfl, f8, k8⟩
  rw [T.h5] at f8 ⊢
  dsimp only at f8 ⊢
  have K8 : KeptL [b, kp, kd, kq] w w8 := KeptL.on K7 k8 (by simp)
  have MP_8 : Mp kp (cp + 1) (putM fp n n pz) w8 := MP_7.kept k8 (by omega)
  have MD_8 : Mp kd cd fd w8 := MD_7.kept k8 (by omega)
  have MQ_8 : Mp kq cq fq w8 := MQ_7.kept k8 (by omega)
  have B0_8 : Arr w.heap.size [.map (some kp), .map (some kd), .map (some kq)] w8 := B0_7.kept k8 (Nat.ne_of_gt y1_BF)
  have B1_8 : Arr (w.heap.size + 1) [.int .i64 n, .int .i64 n] w8 := B1_7.kept k8 (Nat.ne_of_gt y2_BF)
  have B2_8 : Arr (w.heap.size + 1 + 1) [.int .i64 (n - 1), .int .i64 (n - 1)] w8 := B2_7.kept k8 (Nat.ne_of_gt y3_BF)
  have z8 := B2_8.lies
  clear hHeld
  refine hK.out _ _ ⟨B0_8, B1_8, B2_8, (NearM.same MD_8), MP_8⟩ (fun hHeld => ?_)
  clear hK K K7 f7 MP_7 MD_7 MQ_7 B0_7 B1_7 B2_7 k8
  refine call_at (i := 21) (by kernel_rfl) rfl (fun K hK => ?_)
  go_simp
  refine (Mul_any b false T.j T.v5 _ f8).mono ?_
  rintro e w9 ⟨rfl, f9, k9⟩
  rw [T.h6] at f9 ⊢
  dsimp only at f9 ⊢
  have K9 : KeptL [b, kp, kd, kq] w w9 := KeptL.on K8 k9 (by simp)
  have MP_9 : Mp kp (cp + 1) (putM fp n n pz) w9 := MP_8.kept k9 (by omega)
  have MD_9 : Mp kd cd fd w9 := MD_8.kept k9 (by omega)
  have MQ_9 : Mp kq cq fq w9 := MQ_8.kept k9 (by omega)
  have B0_9 : Arr w.heap.size [.map (some kp), .map (some kd), .map (some kq)] w9 := B0_8.kept k9 (Nat.ne_of_gt y1_BF)
  have B1_9 : Arr (w.heap.size + 1) [.int .i64 n, .int .i64 n] w9 := B1_8.kept k9 (Nat.ne_of_gt y2_BF)
  have B2_9 : Arr (w.heap.size + 1 + 1) [.int .i64 (n - 1), .int .i64 (n - 1)] w9 := B2_8.kept k9 (Nat.ne_of_gt y3_BF)
  have z9 := B2_9.lies
  clear hHeld
  refine hK.out _ _ ⟨B0_9, B1_9, B2_9, (NearM.same MD_9), MP_9⟩ (fun hHeld => ?_)
  clear hK K K8 f8 MP_8 MD_8 MQ_8 B0_8 B1_8 B2_8 k9
  refine call_at (i := 22) (by kernel_rfl) rfl (fun K hK => ?_)
  refine mp_put (by rfl) rfl rfl rfl rfl MD_9 (by omega) ⟨by omega, by omega⟩ ⟨by omega, by omega⟩ i2 ?_
  intro w10 MD_10 k10
  have K10 : KeptL [b, kp, kd, kq] w w10 := KeptL.on K9 k10 (by simp)
  have BF_10 : Fl b false w10 := f9.kept k10 (by omega)
  have MP_10 : Mp kp (cp + 1) (putM fp n n pz) w10 := MP_9.kept k10 (by omega)
  have MQ_10 : Mp kq cq fq w10 := MQ_9.kept k10 (by omega)
  have B0_10 : Arr w.heap.size [.map (some kp), .map (some kd), .map (some kq)] w10 := B0_9.kept k10 (Nat.ne_of_gt y1_MD)
  have B1_10 : Arr (w.heap.size + 1) [.int .i64 n, .int .i64 n] w10 := B1_9.kept k10 (Nat.ne_of_gt y2_MD)
  have B2_10 : Arr (w.heap.size + 1 + 1) [.int .i64 (n - 1), .int .i64 (n - 1)] w10 := B2_9.kept k10 (Nat.ne_of_gt y3_MD)
  have z10 := K10.size
  simp only [Act.put]
  clear hHeld
  refine hK.out _ _ ⟨B0_10, B1_10, B2_10, (NearM.upd MD_10), MP_10⟩ (fun hHeld => ?_)
  clear hK K K9 MD_9 f9 MP_9 MQ_9 B0_9 B1_9 B2_9 k10
  refine wpAnyH_done (by kernel_rfl) ?_ _
  clear hHeld
  go_wp2_with fail
  refine wp_region_held_drew (S := fun w' => Arr w.heap.size [.map (some kp), .map (some kd), .map (some kq)] w' ∧ Arr (w.heap.size + 1) [.int .i64 n, .int .i64 n] w' ∧ Arr (w.heap.size + 1 + 1) [.int .i64 (n - 1), .int .i64 (n - 1)] w' ∧ NearM kq fq n n w') (by kernel_rfl) ⟨B0_10.drew, B1_10.drew, B2_10.drew, (NearM.same MQ_10.drew)⟩ (fun hHeld => ?_)
  refine take_at (i := 0) (v := ?v27) rfl (by kernel_rfl) (by kernel_rfl) (by kernel_rfl) (fun _ _ _ h => h) (Or.inl ⟨by rfl, ?y27⟩) hHeld ?t27
  case y27 => (intro wx hSw; go_simp <;> with_reducible rfl)
  simp only [Act.put, List.setIfInBounds_toArray, List.set_cons_zero, List.set_cons_succ]
  refine take_at (i := 1) (v := ?v28) rfl (by kernel_rfl) (by kernel_rfl) (by kernel_rfl) (fun _ _ _ h => h) (Or.inl ⟨by rfl, ?y28⟩) hHeld ?t28
  case y28 => (intro wx hSw; have hc2 : wx.cell? ⟨w.heap.size, 2, none⟩ = some (.map (some kq)) := hSw.1.c 2 (of_decide_eq_true rfl); go_simp <;> with_reducible rfl)
  simp only [Act.put, List.setIfInBounds_toArray, List.set_cons_zero, List.set_cons_succ]
  refine take_at (i := 2) (v := ?v29) rfl (by kernel_rfl) (by kernel_rfl) (by kernel_rfl) (fun _ _ _ h => h) (Or.inl ⟨by rfl, ?y29⟩) hHeld ?t29
  case y29 => (intro wx hSw; have hc0 : wx.cell? ⟨w.heap.size + 1, 0, none⟩ = some (.int .i64 n) := hSw.2.1.c 0 (of_decide_eq_true rfl); have hc1 : wx.cell? ⟨w.heap.size + 1, 1, none⟩ = some (.int .i64 n) := hSw.2.1.c 1 (of_decide_eq_true rfl); go_simp <;> with_reducible rfl)
  simp only [Act.put, List.setIfInBounds_toArray, List.set_cons_zero, List.set_cons_succ]
  refine take_at (i := 3) (v := ?v30) rfl (by kernel_rfl) (by kernel_rfl) (by kernel_rfl) (fun _ _ _ h => h) (Or.inl ⟨by rfl, ?y30⟩) hHeld ?t30
  case y30 => (intro wx hSw; go_simp <;> with_reducible rfl)
  simp only [Act.put, List.setIfInBounds_toArray, List.set_cons_zero, List.set_cons_succ]
  refine take_at (i := 4) (v := ?v31) rfl (by kernel_rfl) (by kernel_rfl) (by kernel_rfl) (fun _ _ _ h => h) (Or.inl ⟨by rfl, ?y31⟩) hHeld ?t31
  case y31 => (intro wx hSw; go_simp <;> with_reducible rfl)
  simp only [Act.put, List.setIfInBounds_toArray, List.set_cons_zero, List.set_cons_succ]
  refine take_at (i := 5) (v := ?v32) rfl (by kernel_rfl) (by kernel_rfl) (by kernel_rfl) (fun _ _ _ h => h) (Or.inl ⟨by rfl, ?y32⟩) hHeld ?t32
  case y32 => (intro wx hSw; go_simp <;> with_reducible rfl)
  simp only [Act.put, List.setIfInBounds_toArray, List.set_cons_zero, List.set_cons_succ]
  refine take_at (i := 6) (v := ?v33) rfl (by kernel_rfl) (by kernel_rfl) (by kernel_rfl) (fun _ _ _ h => h) (Or.inl ⟨by rfl, ?y33⟩) hHeld ?t33
  case y33 => (intro wx hSw; go_simp <;> with_reducible rfl)
  simp only [Act.put, List.setIfInBounds_toArray, List.set_cons_zero, List.set_cons_succ]
  refine take_at (i := 7) (v := ?v34) rfl (by kernel_rfl) (by kernel_rfl) (by kernel_rfl) (fun _ _ _ h => h) (Or.inl ⟨by rfl, ?y34⟩) hHeld ?t34
  case y34 => (intro wx hSw; go_simp <;> with_reducible rfl)
  simp only [Act.put, List.setIfInBounds_toArray, List.set_cons_zero, List.set_cons_succ]
  refine take_at (i := 8) (v := ?v35) rfl (by kernel_rfl) (by kernel_rfl) (by kernel_rfl) (fun _ _ _ h => h) (Or.inl ⟨by rfl, ?y35⟩) hHeld ?t35
  case y35 => (intro wx hSw; have hc2 : wx.cell? ⟨w.heap.size, 2, none⟩ = some (.map (some kq)) := hSw.1.c 2 (of_decide_eq_true rfl); go_simp <;> with_reducible rfl)
  simp only [Act.put, List.setIfInBounds_toArray, List.set_cons_zero, List.set_cons_succ]
  refine take_at (i := 9) (v := ?v36) rfl (by kernel_rfl) (by kernel_rfl) (by kernel_rfl) (fun _ _ _ h => h) (Or.inl ⟨by rfl, ?y36⟩) hHeld ?t36
  case y36 => (intro wx hSw; have hc0 : wx.cell? ⟨w.heap.size + 1 + 1, 0, none⟩ = some (.int .i64 (n - 1)) := hSw.2.2.1.c 0 (of_decide_eq_true rfl); have hc1 : wx.cell? ⟨w.heap.size + 1 + 1, 1, none⟩ = some (.int .i64 (n - 1)) := hSw.2.2.1.c 1 (of_decide_eq_true rfl); go_simp <;> with_reducible rfl)
  simp only [Act.put, List.setIfInBounds_toArray, List.set_cons_zero, List.set_cons_succ]
  refine take_at (i := 10) rfl (by kernel_rfl) (by kernel_rfl) (by kernel_rfl) (fun _ _ _ h => h) (mp_yield_near (by rfl) rfl rfl rfl (fun _ hSw => hSw.2.2.2) ⟨by omega, by omega⟩ ⟨by omega, by omega⟩ (by omega)) hHeld ?_
  simp only [Act.put, List.setIfInBounds_toArray, List.set_cons_zero, List.set_cons_succ]
  refine call_at (i := 11) (by kernel_rfl) rfl (fun K hK => ?_)
  go_simp
  refine (Mul_any b false s (fq (n - 1) (n - 1)) _ BF_10.drew).mono ?_
  rintro e w11 ⟨rfl, f11, k11⟩
  rw [T.h7] at f11 ⊢
  dsimp only at f11 ⊢
  have K11 : KeptL [b, kp, kd, kq] w w11 := KeptL.on K10.drew k11 (by simp)
  have MP_11 : Mp kp (cp + 1) (putM fp n n pz) w11 := MP_10.drew.kept k11 (by omega)
  have MD_11 : Mp kd (cd + 1) (putM fd n n dz) w11 := MD_10.drew.kept k11 (by omega)
  have MQ_11 : Mp kq cq fq w11 := MQ_10.drew.kept k11 (by omega)
  have B0_11 : Arr w.heap.size [.map (some kp), .map (some kd), .map (some kq)] w11 := B0_10.drew.kept k11 (Nat.ne_of_gt y1_BF)
  have B1_11 : Arr (w.heap.size + 1) [.int .i64 n, .int .i64 n] w11 := B1_10.drew.kept k11 (Nat.ne_of_gt y2_BF)
  have B2_11 : Arr (w.heap.size + 1 + 1) [.int .i64 (n - 1), .int .i64 (n - 1)] w11 := B2_10.drew.kept k11 (Nat.ne_of_gt y3_BF)
  have z11 := B2_11.lies
  clear hHeld
  refine hK.out _ _ ⟨B0_11, B1_11, B2_11, (NearM.same MQ_11)⟩ (fun hHeld => ?_)
  clear hK K K10 BF_10 MP_10 MD_10 MQ_10 B0_10 B1_10 B2_10 k11
  refine call_at (i := 12) (by kernel_rfl) rfl (fun K hK => ?_)
  go_simp
  refine (Mul_any b false T.j T.v7 _ f11).mono ?_
  rintro e w12 ⟨rfl, f12, k12⟩
  rw [T.h8] at f12 ⊢
  dsimp only at f12 ⊢
  have K12 : KeptL [b, kp, kd, kq] w w12 := KeptL.on K11 k12 (by simp)
  have MP_12 : Mp kp (cp + 1) (putM fp n n pz) w12 := MP_11.kept k12 (by omega)
  have MD_12 : Mp kd (cd + 1) (putM fd n n dz) w12 := MD_11.kept k12 (by omega)
  have MQ_12 : Mp kq cq fq w12 := MQ_11.kept k12 (by omega)
  have B0_12 : Arr w.heap.size [.map (some kp), .map (some kd), .map (some kq)] w12 := B0_11.kept k12 (Nat.ne_of_gt y1_BF)
  have B1_12 : Arr (w.heap.size + 1) [.int .i64 n, .int .i64 n] w12 := B1_11.kept k12 (Nat.ne_of_gt y2_BF)
  have B2_12 : Arr (w.heap.size + 1 + 1) [.int .i64 (n - 1), .int .i64 (n - 1)] w12 := B2_11.kept k12 (Nat.ne_of_gt y3_BF)
  have z12 := B2_12.lies
  clear hHeld
  refine hK.out _ _ ⟨B0_12, B1_12, B2_12, (NearM.same MQ_12)⟩ (fun hHeld => ?_)
  clear hK K K11 f11 MP_11 MD_11 MQ_11 B0_11 B1_11 B2_11 k12
  refine call_at (i := 13) (by kernel_rfl) rfl (fun K hK => ?_)
  refine mp_put (by rfl) rfl rfl rfl rfl MQ_12 (by omega) ⟨by omega, by omega⟩ ⟨by omega, by omega⟩ i3 ?_
  intro w13 MQ_13 k13
  have K13 : KeptL [b, kp, kd, kq] w w13 := KeptL.on K12 k13 (by simp)
  have BF_13 : Fl b false w13 := f12.kept k13 (by omega)
  have MP_13 : Mp kp (cp + 1) (putM fp n n pz) w13 := MP_12.kept k13 (by omega)
  have MD_13 : Mp kd (cd + 1) (putM fd n n dz) w13 := MD_12.kept k13 (by omega)
  have B0_13 : Arr w.heap.size [.map (some kp), .map (some kd), .map (some kq)] w13 := B0_12.kept k13 (Nat.ne_of_gt y1_MQ)
  have B1_13 : Arr (w.heap.size + 1) [.int .i64 n, .int .i64 n] w13 := B1_12.kept k13 (Nat.ne_of_gt y2_MQ)
  have B2_13 : Arr (w.heap.size + 1 + 1) [.int .i64 (n - 1), .int .i64 (n - 1)] w13 := B2_12.kept k13 (Nat.ne_of_gt y3_MQ)
  have z13 := K13.size
  simp only [Act.put]
  clear hHeld
  refine hK.out _ _ ⟨B0_13, B1_13, B2_13, (NearM.upd MQ_13)⟩ (fun hHeld => ?_)
  clear hK K K12 MQ_12 f12 MP_12 MD_12 B0_12 B1_12 B2_12 k13
  refine wpAnyH_done (by kernel_rfl) ?_ _
  clear hHeld
  go_wp2
  go_end0
  exact ⟨rfl, BF_13, MP_13, MD_13, MQ_13, K13⟩
end Go.Proofs.YtoadcnhcfodkgaaGreatDoor
