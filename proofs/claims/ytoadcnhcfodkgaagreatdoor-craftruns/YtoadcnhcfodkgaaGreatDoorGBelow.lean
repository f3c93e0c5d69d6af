/-
  The walks of workBelow, for the seat YtoadcnhcfodkgaaGreatDoor. (Made by mkfield.py.)
-/
import Derived.Test.YtoadcnhcfodkgaaGreatDoorGLeaf
import Derived.Test.YtoadcnhcfodkgaaGreatDoorMapQ
import Derived.Handy
import Derived.Deep.RegionHeld3
namespace Go.Proofs.YtoadcnhcfodkgaaGreatDoor
open Go.RowKit

set_option maxRecDepth 100000 in
set_option maxHeartbeats 4000000 in
theorem below_any (b kp kd kq cp cd cq : Nat) (fp fd fq : Int → Int → Int) (n m c s ga gb pz dz qz : Int) (w : World) (hw : Fl b false w) (hp : Mp kp cp fp w) (hd : Mp kd cd fd w) (hq : Mp kq cq fq w) (d1 : b ≠ kp) (d2 : b ≠ kd) (d3 : b ≠ kq) (d4 : kp ≠ kd) (d5 : kp ≠ kq) (d6 : kd ≠ kq) (l1 : cp < 900) (l2 : cd < 900) (l3 : m > 0 → cq < 900) (n1 : 1 ≤ n) (n6 : n ≤ 6) (m0 : 0 ≤ m) (mn : m < n) (R : RootT n m ga gb) (T : EntT c s gb ga (fp (n - 1) m) (fd (n - 1) m) (fp (n - 2) m) (fd (n - 2) m) pz dz) (i1 : I64 pz) (i2 : I64 dz) (U : m > 0 → EntQ c gb ga (fq (n - 1) m) (fq (n - 2) m) qz) (i3 : m > 0 → I64 qz) :
    Calls Tryz.prog 267 #[.agg #[.map (some kp), .map (some kd), .map (some kq)], .pointer (some ⟨b, 0, none⟩), .int .i64 n, .int .i64 m, .int .i64 c, .int .i64 s] w fun e w' => e = .returned (.tuple #[]) ∧ Fl b false w' ∧ Mp kp (cp + 1) (putM fp n m pz) w' ∧ Mp kd (cd + 1) (putM fd n m dz) w' ∧ (if m > 0 then Mp kq (cq + 1) (putM fq n m qz) w' else Mp kq cq fq w') ∧ KeptL [b, kp, kd, kq] w w' := by
  have hl := hw.lies
  have l_p := hp.lies
  have l_d := hd.lies
  have l_q := hq.lies
  have hs6 : mulS false s ((putM fp n m pz) (n - 1) m) = (T.v6, false) := by rw [show putM fp n m pz (n - 1) m = fp (n - 1) m from if_neg (by omega)]; exact T.h6
  go_enter Tryz.func267, Tryz.ntmps267
  have y1_BF : b < w.heap.size := hw.lies
  have y1_MP : kp < w.heap.size := hp.lies
  have y1_MD : kd < w.heap.size := hd.lies
  have y1_MQ : kq < w.heap.size := hq.lies
  have y2_BF : b < w.heap.size + 1 := (Nat.lt_succ_of_lt hw.lies)
  have y2_MP : kp < w.heap.size + 1 := (Nat.lt_succ_of_lt hp.lies)
  have y2_MD : kd < w.heap.size + 1 := (Nat.lt_succ_of_lt hd.lies)
  have y2_MQ : kq < w.heap.size + 1 := (Nat.lt_succ_of_lt hq.lies)
  have y2_B0 : w.heap.size < w.heap.size + 1 := (Nat.lt_succ_self _)
  have y3_BF : b < w.heap.size + 1 + 1 := (Nat.lt_succ_of_lt (Nat.lt_succ_of_lt hw.lies))
  have y3_MP : kp < w.heap.size + 1 + 1 := (Nat.lt_succ_of_lt (Nat.lt_succ_of_lt hp.lies))
  have y3_MD : kd < w.heap.size + 1 + 1 := (Nat.lt_succ_of_lt (Nat.lt_succ_of_lt hd.lies))
  have y3_MQ : kq < w.heap.size + 1 + 1 := (Nat.lt_succ_of_lt (Nat.lt_succ_of_lt hq.lies))
  have y3_B0 : w.heap.size < w.heap.size + 1 + 1 := (Nat.lt_succ_of_lt (Nat.lt_succ_self _))
  have y3_B1 : w.heap.size + 1 < w.heap.size + 1 + 1 := (Nat.lt_succ_self _)
  have y4_BF : b < w.heap.size + 1 + 1 + 1 := (Nat.lt_succ_of_lt (Nat.lt_succ_of_lt (Nat.lt_succ_of_lt hw.lies)))
  have y4_MP : kp < w.heap.size + 1 + 1 + 1 := (Nat.lt_succ_of_lt (Nat.lt_succ_of_lt (Nat.lt_succ_of_lt hp.lies)))
  have y4_MD : kd < w.heap.size + 1 + 1 + 1 := (Nat.lt_succ_of_lt (Nat.lt_succ_of_lt (Nat.lt_succ_of_lt hd.lies)))
  have y4_MQ : kq < w.heap.size + 1 + 1 + 1 := (Nat.lt_succ_of_lt (Nat.lt_succ_of_lt (Nat.lt_succ_of_lt hq.lies)))
  have y4_B0 : w.heap.size < w.heap.size + 1 + 1 + 1 := (Nat.lt_succ_of_lt (Nat.lt_succ_of_lt (Nat.lt_succ_self _)))
  have y4_B1 : w.heap.size + 1 < w.heap.size + 1 + 1 + 1 := (Nat.lt_succ_of_lt (Nat.lt_succ_self _))
  have y4_B2 : w.heap.size + 1 + 1 < w.heap.size + 1 + 1 + 1 := (Nat.lt_succ_self _)
  go_wp2_with fail
  refine (rootOf_any b false n m _ ((((hw.alloc _).alloc _).alloc _).alloc _) (by omega) (by omega) (by omega) (by omega)).mono ?_
  rintro e w1 ⟨rfl, f1, k1⟩
  rw [R.h1] at f1 ⊢
  dsimp only at f1 ⊢
  have K1 : KeptL [b, kp, kd, kq] w w1 := KeptL.on (((((KeptL.refl [b, kp, kd, kq] w).al _).al _).al _).al _) k1 (by simp)
  have MP_1 : Mp kp cp fp w1 := ((((hp.alloc _).alloc _).alloc _).alloc _).kept k1 (by omega)
  have MD_1 : Mp kd cd fd w1 := ((((hd.alloc _).alloc _).alloc _).alloc _).kept k1 (by omega)
  have MQ_1 : Mp kq cq fq w1 := ((((hq.alloc _).alloc _).alloc _).alloc _).kept k1 (by omega)
  have B0_1 : Arr w.heap.size [.map (some kp), .map (some kd), .map (some kq)] w1 := ((((Arr_at _ _ [.map (some kp), .map (some kd), .map (some kq)] _ (by simp)).alloc _).alloc _).alloc _).kept k1 (Nat.ne_of_gt y1_BF)
  have B1_1 : Arr (w.heap.size + 1) [.int .i64 n, .int .i64 m] w1 := (((Arr_at _ _ [.int .i64 n, .int .i64 m] _ (by simp)).alloc _).alloc _).kept k1 (Nat.ne_of_gt y2_BF)
  have B2_1 : Arr (w.heap.size + 1 + 1) [.int .i64 (n - 1), .int .i64 m] w1 := ((Arr_at _ _ [.int .i64 (n - 1), .int .i64 m] _ (by simp)).alloc _).kept k1 (Nat.ne_of_gt y3_BF)
  have B3_1 : Arr (w.heap.size + 1 + 1 + 1) [.int .i64 (n - 2), .int .i64 m] w1 := (Arr_at _ _ [.int .i64 (n - 2), .int .i64 m] _ (by simp)).kept k1 (Nat.ne_of_gt y4_BF)
  have z1 := B3_1.lies
  clear hp hd hq k1
  go_wp2_with fail
  refine (rootOf_any b false (n - 1) m _ f1 (by omega) (by omega) (by omega) (by omega)).mono ?_
  rintro e w2 ⟨rfl, f2, k2⟩
  rw [R.h2] at f2 ⊢
  dsimp only at f2 ⊢
  have K2 : KeptL [b, kp, kd, kq] w w2 := KeptL.on K1 k2 (by simp)
  have MP_2 : Mp kp cp fp w2 := MP_1.kept k2 (by omega)
  have MD_2 : Mp kd cd fd w2 := MD_1.kept k2 (by omega)
  have MQ_2 : Mp kq cq fq w2 := MQ_1.kept k2 (by omega)
  have B0_2 : Arr w.heap.size [.map (some kp), .map (some kd), .map (some kq)] w2 := B0_1.kept k2 (Nat.ne_of_gt y1_BF)
  have B1_2 : Arr (w.heap.size + 1) [.int .i64 n, .int .i64 m] w2 := B1_1.kept k2 (Nat.ne_of_gt y2_BF)
  have B2_2 : Arr (w.heap.size + 1 + 1) [.int .i64 (n - 1), .int .i64 m] w2 := B2_1.kept k2 (Nat.ne_of_gt y3_BF)
  have B3_2 : Arr (w.heap.size + 1 + 1 + 1) [.int .i64 (n - 2), .int .i64 m] w2 := B3_1.kept k2 (Nat.ne_of_gt y4_BF)
  have z2 := B3_2.lies
  clear K1 f1 MP_1 MD_1 MQ_1 B0_1 B1_1 B2_1 B3_1 k2
  go_wp2_with fail
  refine (Div_any b false R.k2 R.k1 _ f2).mono ?_
  rintro e w3 ⟨rfl, f3, k3⟩
  rw [R.h3] at f3 ⊢
  dsimp only at f3 ⊢
  have K3 : KeptL [b, kp, kd, kq] w w3 := KeptL.on K2 k3 (by simp)
  have MP_3 : Mp kp cp fp w3 := MP_2.kept k3 (by omega)
  have MD_3 : Mp kd cd fd w3 := MD_2.kept k3 (by omega)
  have MQ_3 : Mp kq cq fq w3 := MQ_2.kept k3 (by omega)
  have B0_3 : Arr w.heap.size [.map (some kp), .map (some kd), .map (some kq)] w3 := B0_2.kept k3 (Nat.ne_of_gt y1_BF)
  have B1_3 : Arr (w.heap.size + 1) [.int .i64 n, .int .i64 m] w3 := B1_2.kept k3 (Nat.ne_of_gt y2_BF)
  have B2_3 : Arr (w.heap.size + 1 + 1) [.int .i64 (n - 1), .int .i64 m] w3 := B2_2.kept k3 (Nat.ne_of_gt y3_BF)
  have B3_3 : Arr (w.heap.size + 1 + 1 + 1) [.int .i64 (n - 2), .int .i64 m] w3 := B3_2.kept k3 (Nat.ne_of_gt y4_BF)
  have z3 := B3_3.lies
  clear K2 f2 MP_2 MD_2 MQ_2 B0_2 B1_2 B2_2 B3_2 k3
  go_wp2_with fail
  refine (Part_any b false 1099511627776 ((2 * n) - 1) 1 _ f3).mono ?_
  rintro e w4 ⟨rfl, f4, k4⟩
  rw [R.h4] at f4 ⊢
  dsimp only at f4 ⊢
  have K4 : KeptL [b, kp, kd, kq] w w4 := KeptL.on K3 k4 (by simp)
  have MP_4 : Mp kp cp fp w4 := MP_3.kept k4 (by omega)
  have MD_4 : Mp kd cd fd w4 := MD_3.kept k4 (by omega)
  have MQ_4 : Mp kq cq fq w4 := MQ_3.kept k4 (by omega)
  have B0_4 : Arr w.heap.size [.map (some kp), .map (some kd), .map (some kq)] w4 := B0_3.kept k4 (Nat.ne_of_gt y1_BF)
  have B1_4 : Arr (w.heap.size + 1) [.int .i64 n, .int .i64 m] w4 := B1_3.kept k4 (Nat.ne_of_gt y2_BF)
  have B2_4 : Arr (w.heap.size + 1 + 1) [.int .i64 (n - 1), .int .i64 m] w4 := B2_3.kept k4 (Nat.ne_of_gt y3_BF)
  have B3_4 : Arr (w.heap.size + 1 + 1 + 1) [.int .i64 (n - 2), .int .i64 m] w4 := B3_3.kept k4 (Nat.ne_of_gt y4_BF)
  have z4 := B3_4.lies
  clear K3 f3 MP_3 MD_3 MQ_3 B0_3 B1_3 B2_3 B3_3 k4
  go_wp2_with fail
  refine (Div_any b false R.p R.k1 _ f4).mono ?_
  rintro e w5 ⟨rfl, f5, k5⟩
  rw [R.h5] at f5 ⊢
  dsimp only at f5 ⊢
  have K5 : KeptL [b, kp, kd, kq] w w5 := KeptL.on K4 k5 (by simp)
  have MP_5 : Mp kp cp fp w5 := MP_4.kept k5 (by omega)
  have MD_5 : Mp kd cd fd w5 := MD_4.kept k5 (by omega)
  have MQ_5 : Mp kq cq fq w5 := MQ_4.kept k5 (by omega)
  have B0_5 : Arr w.heap.size [.map (some kp), .map (some kd), .map (some kq)] w5 := B0_4.kept k5 (Nat.ne_of_gt y1_BF)
  have B1_5 : Arr (w.heap.size + 1) [.int .i64 n, .int .i64 m] w5 := B1_4.kept k5 (Nat.ne_of_gt y2_BF)
  have B2_5 : Arr (w.heap.size + 1 + 1) [.int .i64 (n - 1), .int .i64 m] w5 := B2_4.kept k5 (Nat.ne_of_gt y3_BF)
  have B3_5 : Arr (w.heap.size + 1 + 1 + 1) [.int .i64 (n - 2), .int .i64 m] w5 := B3_4.kept k5 (Nat.ne_of_gt y4_BF)
  have z5 := B3_5.lies
  clear K4 f4 MP_4 MD_4 MQ_4 B0_4 B1_4 B2_4 B3_4 k5
  go_wp2_with fail
  refine wp_region_held_drew (S := fun w' => Arr w.heap.size [.map (some kp), .map (some kd), .map (some kq)] w' ∧ Arr (w.heap.size + 1) [.int .i64 n, .int .i64 m] w' ∧ Arr (w.heap.size + 1 + 1) [.int .i64 (n - 1), .int .i64 m] w' ∧ NearM kp fp n m w' ∧ Arr (w.heap.size + 1 + 1 + 1) [.int .i64 (n - 2), .int .i64 m] w') (by kernel_rfl) ⟨B0_5.drew, B1_5.drew, B2_5.drew, (NearM.same MP_5.drew), B3_5.drew⟩ (fun hHeld => ?_)
  refine take_at (i := 0) (v := ?v1) rfl (by kernel_rfl) (by kernel_rfl) (by kernel_rfl) (fun _ _ _ h => h) (Or.inl ⟨by rfl, ?y1⟩) hHeld ?t1
  case y1 => (intro wx hSw; go_simp <;> with_reducible rfl)
  simp only [Act.put, List.setIfInBounds_toArray, List.set_cons_zero, List.set_cons_succ]
  refine take_at (i := 1) (v := ?v2) rfl (by kernel_rfl) (by kernel_rfl) (by kernel_rfl) (fun _ _ _ h => h) (Or.inl ⟨by rfl, ?y2⟩) hHeld ?t2
  case y2 => (intro wx hSw; have hc0 : wx.cell? ⟨w.heap.size, 0, none⟩ = some (.map (some kp)) := hSw.1.c 0 (of_decide_eq_true rfl); go_simp <;> with_reducible rfl)
  simp only [Act.put, List.setIfInBounds_toArray, List.set_cons_zero, List.set_cons_succ]
  refine take_at (i := 2) (v := ?v3) rfl (by kernel_rfl) (by kernel_rfl) (by kernel_rfl) (fun _ _ _ h => h) (Or.inl ⟨by rfl, ?y3⟩) hHeld ?t3
  case y3 => (intro wx hSw; have hc0 : wx.cell? ⟨w.heap.size + 1, 0, none⟩ = some (.int .i64 n) := hSw.2.1.c 0 (of_decide_eq_true rfl); have hc1 : wx.cell? ⟨w.heap.size + 1, 1, none⟩ = some (.int .i64 m) := hSw.2.1.c 1 (of_decide_eq_true rfl); go_simp <;> with_reducible rfl)
  simp only [Act.put, List.setIfInBounds_toArray, List.set_cons_zero, List.set_cons_succ]
  refine take_at (i := 3) (v := ?v4) rfl (by kernel_rfl) (by kernel_rfl) (by kernel_rfl) (fun _ _ _ h => h) (Or.inl ⟨by rfl, ?y4⟩) hHeld ?t4
  case y4 => (intro wx hSw; go_simp <;> with_reducible rfl)
  simp only [Act.put, List.setIfInBounds_toArray, List.set_cons_zero, List.set_cons_succ]
  refine take_at (i := 4) (v := ?v5) rfl (by kernel_rfl) (by kernel_rfl) (by kernel_rfl) (fun _ _ _ h => h) (Or.inl ⟨by rfl, ?y5⟩) hHeld ?t5
  case y5 => (intro wx hSw; go_simp <;> with_reducible rfl)
  simp only [Act.put, List.setIfInBounds_toArray, List.set_cons_zero, List.set_cons_succ]
  refine take_at (i := 5) (v := ?v6) rfl (by kernel_rfl) (by kernel_rfl) (by kernel_rfl) (fun _ _ _ h => h) (Or.inl ⟨by rfl, ?y6⟩) hHeld ?t6
  case y6 => (intro wx hSw; go_simp <;> with_reducible rfl)
  simp only [Act.put, List.setIfInBounds_toArray, List.set_cons_zero, List.set_cons_succ]
  refine take_at (i := 6) (v := ?v7) rfl (by kernel_rfl) (by kernel_rfl) (by kernel_rfl) (fun _ _ _ h => h) (Or.inl ⟨by rfl, ?y7⟩) hHeld ?t7
  case y7 => (intro wx hSw; go_simp <;> with_reducible rfl)
  simp only [Act.put, List.setIfInBounds_toArray, List.set_cons_zero, List.set_cons_succ]
  refine take_at (i := 7) (v := ?v8) rfl (by kernel_rfl) (by kernel_rfl) (by kernel_rfl) (fun _ _ _ h => h) (Or.inl ⟨by rfl, ?y8⟩) hHeld ?t8
  case y8 => (intro wx hSw; go_simp <;> with_reducible rfl)
  simp only [Act.put, List.setIfInBounds_toArray, List.set_cons_zero, List.set_cons_succ]
  refine take_at (i := 8) (v := ?v9) rfl (by kernel_rfl) (by kernel_rfl) (by kernel_rfl) (fun _ _ _ h => h) (Or.inl ⟨by rfl, ?y9⟩) hHeld ?t9
  case y9 => (intro wx hSw; go_simp <;> with_reducible rfl)
  simp only [Act.put, List.setIfInBounds_toArray, List.set_cons_zero, List.set_cons_succ]
  refine take_at (i := 9) (v := ?v10) rfl (by kernel_rfl) (by kernel_rfl) (by kernel_rfl) (fun _ _ _ h => h) (Or.inl ⟨by rfl, ?y10⟩) hHeld ?t10
  case y10 => (intro wx hSw; have hc0 : wx.cell? ⟨w.heap.size, 0, none⟩ = some (.map (some kp)) := hSw.1.c 0 (of_decide_eq_true rfl); go_simp <;> with_reducible rfl)
  simp only [Act.put, List.setIfInBounds_toArray, List.set_cons_zero, List.set_cons_succ]
  refine take_at (i := 10) (v := ?v11) rfl (by kernel_rfl) (by kernel_rfl) (by kernel_rfl) (fun _ _ _ h => h) (Or.inl ⟨by rfl, ?y11⟩) hHeld ?t11
  case y11 => (intro wx hSw; have hc0 : wx.cell? ⟨w.heap.size + 1 + 1, 0, none⟩ = some (.int .i64 (n - 1)) := hSw.2.2.1.c 0 (of_decide_eq_true rfl); have hc1 : wx.cell? ⟨w.heap.size + 1 + 1, 1, none⟩ = some (.int .i64 m) := hSw.2.2.1.c 1 (of_decide_eq_true rfl); go_simp <;> with_reducible rfl)
  simp only [Act.put, List.setIfInBounds_toArray, List.set_cons_zero, List.set_cons_succ]
  refine take_at (i := 11) rfl (by kernel_rfl) (by kernel_rfl) (by kernel_rfl) (fun _ _ _ h => h) (mp_yield_near (by rfl) rfl rfl rfl (fun _ hSw => hSw.2.2.2.1) ⟨by omega, by omega⟩ ⟨by omega, by omega⟩ (by omega)) hHeld ?_
  simp only [Act.put, List.setIfInBounds_toArray, List.set_cons_zero, List.set_cons_succ]
  refine take_at (i := 14) (v := ?v12) rfl (by kernel_rfl) (by kernel_rfl) (by kernel_rfl) (fun _ _ _ h => h) (Or.inl ⟨by rfl, ?y12⟩) hHeld ?t12
  case y12 => (intro wx hSw; go_simp <;> with_reducible rfl)
  simp only [Act.put, List.setIfInBounds_toArray, List.set_cons_zero, List.set_cons_succ]
  refine take_at (i := 15) (v := ?v13) rfl (by kernel_rfl) (by kernel_rfl) (by kernel_rfl) (fun _ _ _ h => h) (Or.inl ⟨by rfl, ?y13⟩) hHeld ?t13
  case y13 => (intro wx hSw; go_simp <;> with_reducible rfl)
  simp only [Act.put, List.setIfInBounds_toArray, List.set_cons_zero, List.set_cons_succ]
  refine take_at (i := 16) (v := ?v14) rfl (by kernel_rfl) (by kernel_rfl) (by kernel_rfl) (fun _ _ _ h => h) (Or.inl ⟨by rfl, ?y14⟩) hHeld ?t14
  case y14 => (intro wx hSw; go_simp <;> with_reducible rfl)
  simp only [Act.put, List.setIfInBounds_toArray, List.set_cons_zero, List.set_cons_succ]
  refine take_at (i := 17) (v := ?v15) rfl (by kernel_rfl) (by kernel_rfl) (by kernel_rfl) (fun _ _ _ h => h) (Or.inl ⟨by rfl, ?y15⟩) hHeld ?t15
  case y15 => (intro wx hSw; have hc0 : wx.cell? ⟨w.heap.size, 0, none⟩ = some (.map (some kp)) := hSw.1.c 0 (of_decide_eq_true rfl); go_simp <;> with_reducible rfl)
  simp only [Act.put, List.setIfInBounds_toArray, List.set_cons_zero, List.set_cons_succ]
  refine take_at (i := 18) (v := ?v16) rfl (by kernel_rfl) (by kernel_rfl) (by kernel_rfl) (fun _ _ _ h => h) (Or.inl ⟨by rfl, ?y16⟩) hHeld ?t16
  case y16 => (intro wx hSw; have hc0 : wx.cell? ⟨w.heap.size + 1 + 1 + 1, 0, none⟩ = some (.int .i64 (n - 2)) := hSw.2.2.2.2.c 0 (of_decide_eq_true rfl); have hc1 : wx.cell? ⟨w.heap.size + 1 + 1 + 1, 1, none⟩ = some (.int .i64 m) := hSw.2.2.2.2.c 1 (of_decide_eq_true rfl); go_simp <;> with_reducible rfl)
  simp only [Act.put, List.setIfInBounds_toArray, List.set_cons_zero, List.set_cons_succ]
  refine take_at (i := 19) rfl (by kernel_rfl) (by kernel_rfl) (by kernel_rfl) (fun _ _ _ h => h) (mp_yield_near (by rfl) rfl rfl rfl (fun _ hSw => hSw.2.2.2.1) ⟨by omega, by omega⟩ ⟨by omega, by omega⟩ (by omega)) hHeld ?_
  simp only [Act.put, List.setIfInBounds_toArray, List.set_cons_zero, List.set_cons_succ]
  refine call_at (i := 12) (by kernel_rfl) rfl (fun K hK => ?_)
  go_simp
  refine (Mul_any b false c (fp (n - 1) m) _ f5.drew).mono ?_
  rintro e w6 ⟨rfl, f6, k6⟩
  rw [T.h1] at f6 ⊢
  dsimp only at f6 ⊢
  have K6 : KeptL [b, kp, kd, kq] w w6 := KeptL.on K5.drew k6 (by simp)
  have MP_6 : Mp kp cp fp w6 := MP_5.drew.kept k6 (by omega)
  have MD_6 : Mp kd cd fd w6 := MD_5.drew.kept k6 (by omega)
  have MQ_6 : Mp kq cq fq w6 := MQ_5.drew.kept k6 (by omega)
  have B0_6 : Arr w.heap.size [.map (some kp), .map (some kd), .map (some kq)] w6 := B0_5.drew.kept k6 (Nat.ne_of_gt y1_BF)
  have B1_6 : Arr (w.heap.size + 1) [.int .i64 n, .int .i64 m] w6 := B1_5.drew.kept k6 (Nat.ne_of_gt y2_BF)
  have B2_6 : Arr (w.heap.size + 1 + 1) [.int .i64 (n - 1), .int .i64 m] w6 := B2_5.drew.kept k6 (Nat.ne_of_gt y3_BF)
  have B3_6 : Arr (w.heap.size + 1 + 1 + 1) [.int .i64 (n - 2), .int .i64 m] w6 := B3_5.drew.kept k6 (Nat.ne_of_gt y4_BF)
  have z6 := B3_6.lies
  clear hHeld
  refine hK.out _ _ ⟨B0_6, B1_6, B2_6, (NearM.same MP_6), B3_6⟩ (fun hHeld => ?_)
  clear hK K K5 f5 MP_5 MD_5 MQ_5 B0_5 B1_5 B2_5 B3_5 k6
  refine call_at (i := 13) (by kernel_rfl) rfl (fun K hK => ?_)
  go_simp
  refine (Mul_any b false gb T.v1 _ f6).mono ?_
  rintro e w7 ⟨rfl, f7, k7⟩
  rw [T.h2] at f7 ⊢
  dsimp only at f7 ⊢
  have K7 : KeptL [b, kp, kd, kq] w w7 := KeptL.on K6 k7 (by simp)
  have MP_7 : Mp kp cp fp w7 := MP_6.kept k7 (by omega)
  have MD_7 : Mp kd cd fd w7 := MD_6.kept k7 (by omega)
  have MQ_7 : Mp kq cq fq w7 := MQ_6.kept k7 (by omega)
  have B0_7 : Arr w.heap.size [.map (some kp), .map (some kd), .map (some kq)] w7 := B0_6.kept k7 (Nat.ne_of_gt y1_BF)
  have B1_7 : Arr (w.heap.size + 1) [.int .i64 n, .int .i64 m] w7 := B1_6.kept k7 (Nat.ne_of_gt y2_BF)
  have B2_7 : Arr (w.heap.size + 1 + 1) [.int .i64 (n - 1), .int .i64 m] w7 := B2_6.kept k7 (Nat.ne_of_gt y3_BF)
  have B3_7 : Arr (w.heap.size + 1 + 1 + 1) [.int .i64 (n - 2), .int .i64 m] w7 := B3_6.kept k7 (Nat.ne_of_gt y4_BF)
  have z7 := B3_7.lies
  clear hHeld
  refine hK.out _ _ ⟨B0_7, B1_7, B2_7, (NearM.same MP_7), B3_7⟩ (fun hHeld => ?_)
  clear hK K K6 f6 MP_6 MD_6 MQ_6 B0_6 B1_6 B2_6 B3_6 k7
  refine call_at (i := 20) (by kernel_rfl) rfl (fun K hK => ?_)
  go_simp
  refine (Mul_any b false ga (fp (n - 2) m) _ f7).mono ?_
  rintro e w8 ⟨rfl, f8, k8⟩
  rw [T.h3] at f8 ⊢
  dsimp only at f8 ⊢
  have K8 : KeptL [b, kp, kd, kq] w w8 := KeptL.on K7 k8 (by simp)
  have MP_8 : Mp kp cp fp w8 := MP_7.kept k8 (by omega)
  have MD_8 : Mp kd cd fd w8 := MD_7.kept k8 (by omega)
  have MQ_8 : Mp kq cq fq w8 := MQ_7.kept k8 (by omega)
  have B0_8 : Arr w.heap.size [.map (some kp), .map (some kd), .map (some kq)] w8 := B0_7.kept k8 (Nat.ne_of_gt y1_BF)
  have B1_8 : Arr (w.heap.size + 1) [.int .i64 n, .int .i64 m] w8 := B1_7.kept k8 (Nat.ne_of_gt y2_BF)
  have B2_8 : Arr (w.heap.size + 1 + 1) [.int .i64 (n - 1), .int .i64 m] w8 := B2_7.kept k8 (Nat.ne_of_gt y3_BF)
  have B3_8 : Arr (w.heap.size + 1 + 1 + 1) [.int .i64 (n - 2), .int .i64 m] w8 := B3_7.kept k8 (Nat.ne_of_gt y4_BF)
  have z8 := B3_8.lies
  clear hHeld
  refine hK.out _ _ ⟨B0_8, B1_8, B2_8, (NearM.same MP_8), B3_8⟩ (fun hHeld => ?_)
  clear hK K K7 f7 MP_7 MD_7 MQ_7 B0_7 B1_7 B2_7 B3_7 k8
  refine call_at (i := 21) (by kernel_rfl) rfl (fun K hK => ?_)
  go_simp
  refine (Sub_any b false T.v2 T.v3 _ f8).mono ?_
  rintro e w9 ⟨rfl, f9, k9⟩
  rw [T.h4] at f9 ⊢
  dsimp only at f9 ⊢
  have K9 : KeptL [b, kp, kd, kq] w w9 := KeptL.on K8 k9 (by simp)
  have MP_9 : Mp kp cp fp w9 := MP_8.kept k9 (by omega)
  have MD_9 : Mp kd cd fd w9 := MD_8.kept k9 (by omega)
  have MQ_9 : Mp kq cq fq w9 := MQ_8.kept k9 (by omega)
  have B0_9 : Arr w.heap.size [.map (some kp), .map (some kd), .map (some kq)] w9 := B0_8.kept k9 (Nat.ne_of_gt y1_BF)
  have B1_9 : Arr (w.heap.size + 1) [.int .i64 n, .int .i64 m] w9 := B1_8.kept k9 (Nat.ne_of_gt y2_BF)
  have B2_9 : Arr (w.heap.size + 1 + 1) [.int .i64 (n - 1), .int .i64 m] w9 := B2_8.kept k9 (Nat.ne_of_gt y3_BF)
  have B3_9 : Arr (w.heap.size + 1 + 1 + 1) [.int .i64 (n - 2), .int .i64 m] w9 := B3_8.kept k9 (Nat.ne_of_gt y4_BF)
  have z9 := B3_9.lies
  clear hHeld
  refine hK.out _ _ ⟨B0_9, B1_9, B2_9, (NearM.same MP_9), B3_9⟩ (fun hHeld => ?_)
  clear hK K K8 f8 MP_8 MD_8 MQ_8 B0_8 B1_8 B2_8 B3_8 k9
  refine call_at (i := 22) (by kernel_rfl) rfl (fun K hK => ?_)
  refine mp_put (by rfl) rfl rfl rfl rfl MP_9 (by omega) ⟨by omega, by omega⟩ ⟨by omega, by omega⟩ i1 ?_
  intro w10 MP_10 k10
  have K10 : KeptL [b, kp, kd, kq] w w10 := KeptL.on K9 k10 (by simp)
  have BF_10 : Fl b false w10 := f9.kept k10 (by omega)
  have MD_10 : Mp kd cd fd w10 := MD_9.kept k10 (by omega)
  have MQ_10 : Mp kq cq fq w10 := MQ_9.kept k10 (by omega)
  have B0_10 : Arr w.heap.size [.map (some kp), .map (some kd), .map (some kq)] w10 := B0_9.kept k10 (Nat.ne_of_gt y1_MP)
  have B1_10 : Arr (w.heap.size + 1) [.int .i64 n, .int .i64 m] w10 := B1_9.kept k10 (Nat.ne_of_gt y2_MP)
  have B2_10 : Arr (w.heap.size + 1 + 1) [.int .i64 (n - 1), .int .i64 m] w10 := B2_9.kept k10 (Nat.ne_of_gt y3_MP)
  have B3_10 : Arr (w.heap.size + 1 + 1 + 1) [.int .i64 (n - 2), .int .i64 m] w10 := B3_9.kept k10 (Nat.ne_of_gt y4_MP)
  have z10 := K10.size
  simp only [Act.put]
  clear hHeld
  refine hK.out _ _ ⟨B0_10, B1_10, B2_10, (NearM.upd MP_10), B3_10⟩ (fun hHeld => ?_)
  clear hK K K9 MP_9 f9 MD_9 MQ_9 B0_9 B1_9 B2_9 B3_9 k10
  refine wpAnyH_done (by kernel_rfl) ?_ _
  clear hHeld
  go_wp2_with fail
  refine wp_region_held_drew (S := fun w' => Arr w.heap.size [.map (some kp), .map (some kd), .map (some kq)] w' ∧ Arr (w.heap.size + 1 + 1) [.int .i64 (n - 1), .int .i64 m] w' ∧ Mp kd cd fd w' ∧ Mp kp (cp + 1) (putM fp n m pz) w') (by kernel_rfl) ⟨B0_10.drew, B2_10.drew, MD_10.drew, MP_10.drew⟩ (fun hHeld => ?_)
  refine take_at (i := 0) (v := ?v17) rfl (by kernel_rfl) (by kernel_rfl) (by kernel_rfl) (fun _ _ _ h => h) (Or.inl ⟨by rfl, ?y17⟩) hHeld ?t17
  case y17 => (intro wx hSw; go_simp <;> with_reducible rfl)
  simp only [Act.put, List.setIfInBounds_toArray, List.set_cons_zero, List.set_cons_succ]
  refine take_at (i := 1) (v := ?v18) rfl (by kernel_rfl) (by kernel_rfl) (by kernel_rfl) (fun _ _ _ h => h) (Or.inl ⟨by rfl, ?y18⟩) hHeld ?t18
  case y18 => (intro wx hSw; go_simp <;> with_reducible rfl)
  simp only [Act.put, List.setIfInBounds_toArray, List.set_cons_zero, List.set_cons_succ]
  refine take_at (i := 2) (v := ?v19) rfl (by kernel_rfl) (by kernel_rfl) (by kernel_rfl) (fun _ _ _ h => h) (Or.inl ⟨by rfl, ?y19⟩) hHeld ?t19
  case y19 => (intro wx hSw; go_simp <;> with_reducible rfl)
  simp only [Act.put, List.setIfInBounds_toArray, List.set_cons_zero, List.set_cons_succ]
  refine take_at (i := 3) (v := ?v20) rfl (by kernel_rfl) (by kernel_rfl) (by kernel_rfl) (fun _ _ _ h => h) (Or.inl ⟨by rfl, ?y20⟩) hHeld ?t20
  case y20 => (intro wx hSw; go_simp <;> with_reducible rfl)
  simp only [Act.put, List.setIfInBounds_toArray, List.set_cons_zero, List.set_cons_succ]
  refine take_at (i := 4) (v := ?v21) rfl (by kernel_rfl) (by kernel_rfl) (by kernel_rfl) (fun _ _ _ h => h) (Or.inl ⟨by rfl, ?y21⟩) hHeld ?t21
  case y21 => (intro wx hSw; have hc1 : wx.cell? ⟨w.heap.size, 1, none⟩ = some (.map (some kd)) := hSw.1.c 1 (of_decide_eq_true rfl); go_simp <;> with_reducible rfl)
  simp only [Act.put, List.setIfInBounds_toArray, List.set_cons_zero, List.set_cons_succ]
  refine take_at (i := 5) (v := ?v22) rfl (by kernel_rfl) (by kernel_rfl) (by kernel_rfl) (fun _ _ _ h => h) (Or.inl ⟨by rfl, ?y22⟩) hHeld ?t22
  case y22 => (intro wx hSw; have hc0 : wx.cell? ⟨w.heap.size + 1 + 1, 0, none⟩ = some (.int .i64 (n - 1)) := hSw.2.1.c 0 (of_decide_eq_true rfl); have hc1 : wx.cell? ⟨w.heap.size + 1 + 1, 1, none⟩ = some (.int .i64 m) := hSw.2.1.c 1 (of_decide_eq_true rfl); go_simp <;> with_reducible rfl)
  simp only [Act.put, List.setIfInBounds_toArray, List.set_cons_zero, List.set_cons_succ]
  refine take_at (i := 6) rfl (by kernel_rfl) (by kernel_rfl) (by kernel_rfl) (fun _ _ _ h => h) (mp_yield (by rfl) rfl rfl rfl (fun _ hSw => hSw.2.2.1) ⟨by omega, by omega⟩ ⟨by omega, by omega⟩) hHeld ?_
  simp only [Act.put, List.setIfInBounds_toArray, List.set_cons_zero, List.set_cons_succ]
  refine take_at (i := 8) (v := ?v23) rfl (by kernel_rfl) (by kernel_rfl) (by kernel_rfl) (fun _ _ _ h => h) (Or.inl ⟨by rfl, ?y23⟩) hHeld ?t23
  case y23 => (intro wx hSw; go_simp <;> with_reducible rfl)
  simp only [Act.put, List.setIfInBounds_toArray, List.set_cons_zero, List.set_cons_succ]
  refine take_at (i := 9) (v := ?v24) rfl (by kernel_rfl) (by kernel_rfl) (by kernel_rfl) (fun _ _ _ h => h) (Or.inl ⟨by rfl, ?y24⟩) hHeld ?t24
  case y24 => (intro wx hSw; go_simp <;> with_reducible rfl)
  simp only [Act.put, List.setIfInBounds_toArray, List.set_cons_zero, List.set_cons_succ]
  refine take_at (i := 10) (v := ?v25) rfl (by kernel_rfl) (by kernel_rfl) (by kernel_rfl) (fun _ _ _ h => h) (Or.inl ⟨by rfl, ?y25⟩) hHeld ?t25
  case y25 => (intro wx hSw; go_simp <;> with_reducible rfl)
  simp only [Act.put, List.setIfInBounds_toArray, List.set_cons_zero, List.set_cons_succ]
  refine take_at (i := 11) (v := ?v26) rfl (by kernel_rfl) (by kernel_rfl) (by kernel_rfl) (fun _ _ _ h => h) (Or.inl ⟨by rfl, ?y26⟩) hHeld ?t26
  case y26 => (intro wx hSw; have hc0 : wx.cell? ⟨w.heap.size, 0, none⟩ = some (.map (some kp)) := hSw.1.c 0 (of_decide_eq_true rfl); go_simp <;> with_reducible rfl)
  simp only [Act.put, List.setIfInBounds_toArray, List.set_cons_zero, List.set_cons_succ]
  refine take_at (i := 12) (v := ?v27) rfl (by kernel_rfl) (by kernel_rfl) (by kernel_rfl) (fun _ _ _ h => h) (Or.inl ⟨by rfl, ?y27⟩) hHeld ?t27
  case y27 => (intro wx hSw; have hc0 : wx.cell? ⟨w.heap.size + 1 + 1, 0, none⟩ = some (.int .i64 (n - 1)) := hSw.2.1.c 0 (of_decide_eq_true rfl); have hc1 : wx.cell? ⟨w.heap.size + 1 + 1, 1, none⟩ = some (.int .i64 m) := hSw.2.1.c 1 (of_decide_eq_true rfl); go_simp <;> with_reducible rfl)
  simp only [Act.put, List.setIfInBounds_toArray, List.set_cons_zero, List.set_cons_succ]
  refine take_at (i := 13) rfl (by kernel_rfl) (by kernel_rfl) (by kernel_rfl) (fun _ _ _ h => h) (mp_yield (by rfl) rfl rfl rfl (fun _ hSw => hSw.2.2.2) ⟨by omega, by omega⟩ ⟨by omega, by omega⟩) hHeld ?_
  simp only [Act.put, List.setIfInBounds_toArray, List.set_cons_zero, List.set_cons_succ]
  refine call_at (i := 7) (by kernel_rfl) rfl (fun K hK => ?_)
  go_simp
  refine (Mul_any b false c (fd (n - 1) m) _ BF_10.drew).mono ?_
  rintro e w11 ⟨rfl, f11, k11⟩
  rw [T.h5] at f11 ⊢
  dsimp only at f11 ⊢
  have K11 : KeptL [b, kp, kd, kq] w w11 := KeptL.on K10.drew k11 (by simp)
  have MP_11 : Mp kp (cp + 1) (putM fp n m pz) w11 := MP_10.drew.kept k11 (by omega)
  have MD_11 : Mp kd cd fd w11 := MD_10.drew.kept k11 (by omega)
  have MQ_11 : Mp kq cq fq w11 := MQ_10.drew.kept k11 (by omega)
  have B0_11 : Arr w.heap.size [.map (some kp), .map (some kd), .map (some kq)] w11 := B0_10.drew.kept k11 (Nat.ne_of_gt y1_BF)
  have B1_11 : Arr (w.heap.size + 1) [.int .i64 n, .int .i64 m] w11 := B1_10.drew.kept k11 (Nat.ne_of_gt y2_BF)
  have B2_11 : Arr (w.heap.size + 1 + 1) [.int .i64 (n - 1), .int .i64 m] w11 := B2_10.drew.kept k11 (Nat.ne_of_gt y3_BF)
  have B3_11 : Arr (w.heap.size + 1 + 1 + 1) [.int .i64 (n - 2), .int .i64 m] w11 := B3_10.drew.kept k11 (Nat.ne_of_gt y4_BF)
  have z11 := B3_11.lies
  clear hHeld
  refine hK.out _ _ ⟨B0_11, B2_11, MD_11, MP_11⟩ (fun hHeld => ?_)
  clear hK K K10 BF_10 MP_10 MD_10 MQ_10 B0_10 B1_10 B2_10 B3_10 k11
  refine call_at (i := 14) (by kernel_rfl) rfl (fun K hK => ?_)
  go_simp
  refine (Mul_any b false s ((putM fp n m pz) (n - 1) m) _ f11).mono ?_
  rintro e w12 ⟨rfl, f12, k12⟩
  rw [hs6] at f12 ⊢
  dsimp only at f12 ⊢
  have K12 : KeptL [b, kp, kd, kq] w w12 := KeptL.on K11 k12 (by simp)
  have MP_12 : Mp kp (cp + 1) (putM fp n m pz) w12 := MP_11.kept k12 (by omega)
  have MD_12 : Mp kd cd fd w12 := MD_11.kept k12 (by omega)
  have MQ_12 : Mp kq cq fq w12 := MQ_11.kept k12 (by omega)
  have B0_12 : Arr w.heap.size [.map (some kp), .map (some kd), .map (some kq)] w12 := B0_11.kept k12 (Nat.ne_of_gt y1_BF)
  have B1_12 : Arr (w.heap.size + 1) [.int .i64 n, .int .i64 m] w12 := B1_11.kept k12 (Nat.ne_of_gt y2_BF)
  have B2_12 : Arr (w.heap.size + 1 + 1) [.int .i64 (n - 1), .int .i64 m] w12 := B2_11.kept k12 (Nat.ne_of_gt y3_BF)
  have B3_12 : Arr (w.heap.size + 1 + 1 + 1) [.int .i64 (n - 2), .int .i64 m] w12 := B3_11.kept k12 (Nat.ne_of_gt y4_BF)
  have z12 := B3_12.lies
  clear hHeld
  refine hK.out _ _ ⟨B0_12, B2_12, MD_12, MP_12⟩ (fun hHeld => ?_)
  clear hK K K11 f11 MP_11 MD_11 MQ_11 B0_11 B1_11 B2_11 B3_11 k12
  refine call_at (i := 15) (by kernel_rfl) rfl (fun K hK => ?_)
  go_simp
  refine (Sub_any b false T.v5 T.v6 _ f12).mono ?_
  rintro e w13 ⟨rfl, f13, k13⟩
  rw [T.h7] at f13 ⊢
  dsimp only at f13 ⊢
  have K13 : KeptL [b, kp, kd, kq] w w13 := KeptL.on K12 k13 (by simp)
  have MP_13 : Mp kp (cp + 1) (putM fp n m pz) w13 := MP_12.kept k13 (by omega)
  have MD_13 : Mp kd cd fd w13 := MD_12.kept k13 (by omega)
  have MQ_13 : Mp kq cq fq w13 := MQ_12.kept k13 (by omega)
  have B0_13 : Arr w.heap.size [.map (some kp), .map (some kd), .map (some kq)] w13 := B0_12.kept k13 (Nat.ne_of_gt y1_BF)
  have B1_13 : Arr (w.heap.size + 1) [.int .i64 n, .int .i64 m] w13 := B1_12.kept k13 (Nat.ne_of_gt y2_BF)
  have B2_13 : Arr (w.heap.size + 1 + 1) [.int .i64 (n - 1), .int .i64 m] w13 := B2_12.kept k13 (Nat.ne_of_gt y3_BF)
  have B3_13 : Arr (w.heap.size + 1 + 1 + 1) [.int .i64 (n - 2), .int .i64 m] w13 := B3_12.kept k13 (Nat.ne_of_gt y4_BF)
  have z13 := B3_13.lies
  clear hHeld
  refine hK.out _ _ ⟨B0_13, B2_13, MD_13, MP_13⟩ (fun hHeld => ?_)
  clear hK K K12 f12 MP_12 MD_12 MQ_12 B0_12 B1_12 B2_12 B3_12 k13
  refine take_at (i := 16) (v := ?v28) rfl (by kernel_rfl) (by kernel_rfl) (by kernel_rfl) (fun _ _ _ h => h) (Or.inl ⟨by rfl, ?y28⟩) hHeld ?t28
  case y28 => (intro wx hSw; go_simp <;> with_reducible rfl)
  simp only [Act.put, List.setIfInBounds_toArray, List.set_cons_zero, List.set_cons_succ]
  refine wpAnyH_done (by kernel_rfl) ?_ _
  clear hHeld
  go_wp2_with fail
  refine wp_region_held_drew (S := fun w' => Arr w.heap.size [.map (some kp), .map (some kd), .map (some kq)] w' ∧ Arr (w.heap.size + 1) [.int .i64 n, .int .i64 m] w' ∧ Arr (w.heap.size + 1 + 1 + 1) [.int .i64 (n - 2), .int .i64 m] w' ∧ NearM kd fd n m w') (by kernel_rfl) ⟨B0_13.drew, B1_13.drew, B3_13.drew, (NearM.same MD_13.drew)⟩ (fun hHeld => ?_)
  refine take_at (i := 0) (v := ?v29) rfl (by kernel_rfl) (by kernel_rfl) (by kernel_rfl) (fun _ _ _ h => h) (Or.inl ⟨by rfl, ?y29⟩) hHeld ?t29
  case y29 => (intro wx hSw; go_simp <;> with_reducible rfl)
  simp only [Act.put, List.setIfInBounds_toArray, List.set_cons_zero, List.set_cons_succ]
  refine take_at (i := 1) (v := ?v30) rfl (by kernel_rfl) (by kernel_rfl) (by kernel_rfl) (fun _ _ _ h => h) (Or.inl ⟨by rfl, ?y30⟩) hHeld ?t30
  case y30 => (intro wx hSw; have hc1 : wx.cell? ⟨w.heap.size, 1, none⟩ = some (.map (some kd)) := hSw.1.c 1 (of_decide_eq_true rfl); go_simp <;> with_reducible rfl)
  simp only [Act.put, List.setIfInBounds_toArray, List.set_cons_zero, List.set_cons_succ]
  refine take_at (i := 2) (v := ?v31) rfl (by kernel_rfl) (by kernel_rfl) (by kernel_rfl) (fun _ _ _ h => h) (Or.inl ⟨by rfl, ?y31⟩) hHeld ?t31
  case y31 => (intro wx hSw; have hc0 : wx.cell? ⟨w.heap.size + 1, 0, none⟩ = some (.int .i64 n) := hSw.2.1.c 0 (of_decide_eq_true rfl); have hc1 : wx.cell? ⟨w.heap.size + 1, 1, none⟩ = some (.int .i64 m) := hSw.2.1.c 1 (of_decide_eq_true rfl); go_simp <;> with_reducible rfl)
  simp only [Act.put, List.setIfInBounds_toArray, List.set_cons_zero, List.set_cons_succ]
  refine take_at (i := 3) (v := ?v32) rfl (by kernel_rfl) (by kernel_rfl) (by kernel_rfl) (fun _ _ _ h => h) (Or.inl ⟨by rfl, ?y32⟩) hHeld ?t32
  case y32 => (intro wx hSw; go_simp <;> with_reducible rfl)
  simp only [Act.put, List.setIfInBounds_toArray, List.set_cons_zero, List.set_cons_succ]
  refine take_at (i := 4) (v := ?v33) rfl (by kernel_rfl) (by kernel_rfl) (by kernel_rfl) (fun _ _ _ h => h) (Or.inl ⟨by rfl, ?y33⟩) hHeld ?t33
  case y33 => (intro wx hSw; go_simp <;> with_reducible rfl)
  simp only [Act.put, List.setIfInBounds_toArray, List.set_cons_zero, List.set_cons_succ]
  refine take_at (i := 5) (v := ?v34) rfl (by kernel_rfl) (by kernel_rfl) (by kernel_rfl) (fun _ _ _ h => h) (Or.inl ⟨by rfl, ?y34⟩) hHeld ?t34
  case y34 => (intro wx hSw; go_simp <;> with_reducible rfl)
  simp only [Act.put, List.setIfInBounds_toArray, List.set_cons_zero, List.set_cons_succ]
  refine take_at (i := 6) (v := ?v35) rfl (by kernel_rfl) (by kernel_rfl) (by kernel_rfl) (fun _ _ _ h => h) (Or.inl ⟨by rfl, ?y35⟩) hHeld ?t35
  case y35 => (intro wx hSw; go_simp <;> with_reducible rfl)
  simp only [Act.put, List.setIfInBounds_toArray, List.set_cons_zero, List.set_cons_succ]
  refine take_at (i := 8) (v := ?v36) rfl (by kernel_rfl) (by kernel_rfl) (by kernel_rfl) (fun _ _ _ h => h) (Or.inl ⟨by rfl, ?y36⟩) hHeld ?t36
  case y36 => (intro wx hSw; go_simp <;> with_reducible rfl)
  simp only [Act.put, List.setIfInBounds_toArray, List.set_cons_zero, List.set_cons_succ]
  refine take_at (i := 9) (v := ?v37) rfl (by kernel_rfl) (by kernel_rfl) (by kernel_rfl) (fun _ _ _ h => h) (Or.inl ⟨by rfl, ?y37⟩) hHeld ?t37
  case y37 => (intro wx hSw; go_simp <;> with_reducible rfl)
  simp only [Act.put, List.setIfInBounds_toArray, List.set_cons_zero, List.set_cons_succ]
  refine take_at (i := 10) (v := ?v38) rfl (by kernel_rfl) (by kernel_rfl) (by kernel_rfl) (fun _ _ _ h => h) (Or.inl ⟨by rfl, ?y38⟩) hHeld ?t38
  case y38 => (intro wx hSw; go_simp <;> with_reducible rfl)
  simp only [Act.put, List.setIfInBounds_toArray, List.set_cons_zero, List.set_cons_succ]
  refine take_at (i := 11) (v := ?v39) rfl (by kernel_rfl) (by kernel_rfl) (by kernel_rfl) (fun _ _ _ h => h) (Or.inl ⟨by rfl, ?y39⟩) hHeld ?t39
  case y39 => (intro wx hSw; have hc1 : wx.cell? ⟨w.heap.size, 1, none⟩ = some (.map (some kd)) := hSw.1.c 1 (of_decide_eq_true rfl); go_simp <;> with_reducible rfl)
  simp only [Act.put, List.setIfInBounds_toArray, List.set_cons_zero, List.set_cons_succ]
  refine take_at (i := 12) (v := ?v40) rfl (by kernel_rfl) (by kernel_rfl) (by kernel_rfl) (fun _ _ _ h => h) (Or.inl ⟨by rfl, ?y40⟩) hHeld ?t40
  case y40 => (intro wx hSw; have hc0 : wx.cell? ⟨w.heap.size + 1 + 1 + 1, 0, none⟩ = some (.int .i64 (n - 2)) := hSw.2.2.1.c 0 (of_decide_eq_true rfl); have hc1 : wx.cell? ⟨w.heap.size + 1 + 1 + 1, 1, none⟩ = some (.int .i64 m) := hSw.2.2.1.c 1 (of_decide_eq_true rfl); go_simp <;> with_reducible rfl)
  simp only [Act.put, List.setIfInBounds_toArray, List.set_cons_zero, List.set_cons_succ]
  refine take_at (i := 13) rfl (by kernel_rfl) (by kernel_rfl) (by kernel_rfl) (fun _ _ _ h => h) (mp_yield_near (by rfl) rfl rfl rfl (fun _ hSw => hSw.2.2.2) ⟨by omega, by omega⟩ ⟨by omega, by omega⟩ (by omega)) hHeld ?_
  simp only [Act.put, List.setIfInBounds_toArray, List.set_cons_zero, List.set_cons_succ]
  refine call_at (i := 7) (by kernel_rfl) rfl (fun K hK => ?_)
  go_simp
  refine (Mul_any b false gb T.v7 _ f13.drew).mono ?_
  rintro e w14 ⟨rfl, f14, k14⟩
  rw [T.h8] at f14 ⊢
  dsimp only at f14 ⊢
  have K14 : KeptL [b, kp, kd, kq] w w14 := KeptL.on K13.drew k14 (by simp)
  have MP_14 : Mp kp (cp + 1) (putM fp n m pz) w14 := MP_13.drew.kept k14 (by omega)
  have MD_14 : Mp kd cd fd w14 := MD_13.drew.kept k14 (by omega)
  have MQ_14 : Mp kq cq fq w14 := MQ_13.drew.kept k14 (by omega)
  have B0_14 : Arr w.heap.size [.map (some kp), .map (some kd), .map (some kq)] w14 := B0_13.drew.kept k14 (Nat.ne_of_gt y1_BF)
  have B1_14 : Arr (w.heap.size + 1) [.int .i64 n, .int .i64 m] w14 := B1_13.drew.kept k14 (Nat.ne_of_gt y2_BF)
  have B2_14 : Arr (w.heap.size + 1 + 1) [.int .i64 (n - 1), .int .i64 m] w14 := B2_13.drew.kept k14 (Nat.ne_of_gt y3_BF)
  have B3_14 : Arr (w.heap.size + 1 + 1 + 1) [.int .i64 (n - 2), .int .i64 m] w14 := B3_13.drew.kept k14 (Nat.ne_of_gt y4_BF)
  have z14 := B3_14.lies
  clear hHeld
  refine hK.out _ _ ⟨B0_14, B1_14, B3_14, (NearM.same MD_14)⟩ (fun hHeld => ?_)
  clear hK K K13 f13 MP_13 MD_13 MQ_13 B0_13 B1_13 B2_13 B3_13 k14
  refine call_at (i := 14) (by kernel_rfl) rfl (fun K hK => ?_)
  go_simp
  refine (Mul_any b false ga (fd (n - 2) m) _ f14).mono ?_
  rintro e w15 ⟨rfl, f15, k15⟩
  rw [T.h9] at f15 ⊢
  dsimp only at f15 ⊢
  have K15 : KeptL [b, kp, kd, kq] w w15 := KeptL.on K14 k15 (by simp)
  have MP_15 : Mp kp (cp + 1) (putM fp n m pz) w15 := MP_14.kept k15 (by omega)
  have MD_15 : Mp kd cd fd w15 := MD_14.kept k15 (by omega)
  have MQ_15 : Mp kq cq fq w15 := MQ_14.kept k15 (by omega)
  have B0_15 : Arr w.heap.size [.map (some kp), .map (some kd), .map (some kq)] w15 := B0_14.kept k15 (Nat.ne_of_gt y1_BF)
  have B1_15 : Arr (w.heap.size + 1) [.int .i64 n, .int .i64 m] w15 := B1_14.kept k15 (Nat.ne_of_gt y2_BF)
  have B2_15 : Arr (w.heap.size + 1 + 1) [.int .i64 (n - 1), .int .i64 m] w15 := B2_14.kept k15 (Nat.ne_of_gt y3_BF)
  have B3_15 : Arr (w.heap.size + 1 + 1 + 1) [.int .i64 (n - 2), .int .i64 m] w15 := B3_14.kept k15 (Nat.ne_of_gt y4_BF)
  have z15 := B3_15.lies
  clear hHeld
  refine hK.out _ _ ⟨B0_15, B1_15, B3_15, (NearM.same MD_15)⟩ (fun hHeld => ?_)
  clear hK K K14 f14 MP_14 MD_14 MQ_14 B0_14 B1_14 B2_14 B3_14 k15
  refine call_at (i := 15) (by kernel_rfl) rfl (fun K hK => ?_)
  go_simp
  refine (Sub_any b false T.v8 T.v9 _ f15).mono ?_
  rintro e w16 ⟨rfl, f16, k16⟩
  rw [T.h10] at f16 ⊢
  dsimp only at f16 ⊢
  have K16 : KeptL [b, kp, kd, kq] w w16 := KeptL.on K15 k16 (by simp)
  have MP_16 : Mp kp (cp + 1) (putM fp n m pz) w16 := MP_15.kept k16 (by omega)
  have MD_16 : Mp kd cd fd w16 := MD_15.kept k16 (by omega)
  have MQ_16 : Mp kq cq fq w16 := MQ_15.kept k16 (by omega)
  have B0_16 : Arr w.heap.size [.map (some kp), .map (some kd), .map (some kq)] w16 := B0_15.kept k16 (Nat.ne_of_gt y1_BF)
  have B1_16 : Arr (w.heap.size + 1) [.int .i64 n, .int .i64 m] w16 := B1_15.kept k16 (Nat.ne_of_gt y2_BF)
  have B2_16 : Arr (w.heap.size + 1 + 1) [.int .i64 (n - 1), .int .i64 m] w16 := B2_15.kept k16 (Nat.ne_of_gt y3_BF)
  have B3_16 : Arr (w.heap.size + 1 + 1 + 1) [.int .i64 (n - 2), .int .i64 m] w16 := B3_15.kept k16 (Nat.ne_of_gt y4_BF)
  have z16 := B3_16.lies
  clear hHeld
  refine hK.out _ _ ⟨B0_16, B1_16, B3_16, (NearM.same MD_16)⟩ (fun hHeld => ?_)
  clear hK K K15 f15 MP_15 MD_15 MQ_15 B0_15 B1_15 B2_15 B3_15 k16
  refine call_at (i := 16) (by kernel_rfl) rfl (fun K hK => ?_)
  refine mp_put (by rfl) rfl rfl rfl rfl MD_16 (by omega) ⟨by omega, by omega⟩ ⟨by omega, by omega⟩ i2 ?_
  intro w17 MD_17 k17
  have K17 : KeptL [b, kp, kd, kq] w w17 := KeptL.on K16 k17 (by simp)
  have BF_17 : Fl b false w17 := f16.kept k17 (by omega)
  have MP_17 : Mp kp (cp + 1) (putM fp n m pz) w17 := MP_16.kept k17 (by omega)
  have MQ_17 : Mp kq cq fq w17 := MQ_16.kept k17 (by omega)
  have B0_17 : Arr w.heap.size [.map (some kp), .map (some kd), .map (some kq)] w17 := B0_16.kept k17 (Nat.ne_of_gt y1_MD)
  have B1_17 : Arr (w.heap.size + 1) [.int .i64 n, .int .i64 m] w17 := B1_16.kept k17 (Nat.ne_of_gt y2_MD)
  have B2_17 : Arr (w.heap.size + 1 + 1) [.int .i64 (n - 1), .int .i64 m] w17 := B2_16.kept k17 (Nat.ne_of_gt y3_MD)
  have B3_17 : Arr (w.heap.size + 1 + 1 + 1) [.int .i64 (n - 2), .int .i64 m] w17 := B3_16.kept k17 (Nat.ne_of_gt y4_MD)
  have z17 := K17.size
  simp only [Act.put]
  clear hHeld
  refine hK.out _ _ ⟨B0_17, B1_17, B3_17, (NearM.upd MD_17)⟩ (fun hHeld => ?_)
  clear hK K K16 MD_16 f16 MP_16 MQ_16 B0_16 B1_16 B2_16 B3_16 k17
  refine wpAnyH_done (by kernel_rfl) ?_ _
  clear hHeld
  by_cases hm : m > 0
  · replace l3 := l3 hm
    replace U := U hm
    replace i3 := i3 hm
    go_wp2_with fail
    refine wp_region_held_drew (S := fun w' => Arr w.heap.size [.map (some kp), .map (some kd), .map (some kq)] w' ∧ Arr (w.heap.size + 1) [.int .i64 n, .int .i64 m] w' ∧ Arr (w.heap.size + 1 + 1) [.int .i64 (n - 1), .int .i64 m] w' ∧ NearM kq fq n m w' ∧ Arr (w.heap.size + 1 + 1 + 1) [.int .i64 (n - 2), .int .i64 m] w') (by kernel_rfl) ⟨B0_17.drew, B1_17.drew, B2_17.drew, (NearM.same MQ_17.drew), B3_17.drew⟩ (fun hHeld => ?_)
    refine take_at (i := 0) (v := ?v41) rfl (by kernel_rfl) (by kernel_rfl) (by kernel_rfl) (fun _ _ _ h => h) (Or.inl ⟨by rfl, ?y41⟩) hHeld ?t41
    case y41 => (intro wx hSw; go_simp <;> with_reducible rfl)
    simp only [Act.put, List.setIfInBounds_toArray, List.set_cons_zero, List.set_cons_succ]
    refine take_at (i := 1) (v := ?v42) rfl (by kernel_rfl) (by kernel_rfl) (by kernel_rfl) (fun _ _ _ h => h) (Or.inl ⟨by rfl, ?y42⟩) hHeld ?t42
    case y42 => (intro wx hSw; have hc2 : wx.cell? ⟨w.heap.size, 2, none⟩ = some (.map (some kq)) := hSw.1.c 2 (of_decide_eq_true rfl); go_simp <;> with_reducible rfl)
    simp only [Act.put, List.setIfInBounds_toArray, List.set_cons_zero, List.set_cons_succ]
    refine take_at (i := 2) (v := ?v43) rfl (by kernel_rfl) (by kernel_rfl) (by kernel_rfl) (fun _ _ _ h => h) (Or.inl ⟨by rfl, ?y43⟩) hHeld ?t43
    case y43 => (intro wx hSw; have hc0 : wx.cell? ⟨w.heap.size + 1, 0, none⟩ = some (.int .i64 n) := hSw.2.1.c 0 (of_decide_eq_true rfl); have hc1 : wx.cell? ⟨w.heap.size + 1, 1, none⟩ = some (.int .i64 m) := hSw.2.1.c 1 (of_decide_eq_true rfl); go_simp <;> with_reducible rfl)
    simp only [Act.put, List.setIfInBounds_toArray, List.set_cons_zero, List.set_cons_succ]
    refine take_at (i := 3) (v := ?v44) rfl (by kernel_rfl) (by kernel_rfl) (by kernel_rfl) (fun _ _ _ h => h) (Or.inl ⟨by rfl, ?y44⟩) hHeld ?t44
    case y44 => (intro wx hSw; go_simp <;> with_reducible rfl)
    simp only [Act.put, List.setIfInBounds_toArray, List.set_cons_zero, List.set_cons_succ]
    refine take_at (i := 4) (v := ?v45) rfl (by kernel_rfl) (by kernel_rfl) (by kernel_rfl) (fun _ _ _ h => h) (Or.inl ⟨by rfl, ?y45⟩) hHeld ?t45
    case y45 => (intro wx hSw; go_simp <;> with_reducible rfl)
    simp only [Act.put, List.setIfInBounds_toArray, List.set_cons_zero, List.set_cons_succ]
    refine take_at (i := 5) (v := ?v46) rfl (by kernel_rfl) (by kernel_rfl) (by kernel_rfl) (fun _ _ _ h => h) (Or.inl ⟨by rfl, ?y46⟩) hHeld ?t46
    case y46 => (intro wx hSw; go_simp <;> with_reducible rfl)
    simp only [Act.put, List.setIfInBounds_toArray, List.set_cons_zero, List.set_cons_succ]
    refine take_at (i := 6) (v := ?v47) rfl (by kernel_rfl) (by kernel_rfl) (by kernel_rfl) (fun _ _ _ h => h) (Or.inl ⟨by rfl, ?y47⟩) hHeld ?t47
    case y47 => (intro wx hSw; go_simp <;> with_reducible rfl)
    simp only [Act.put, List.setIfInBounds_toArray, List.set_cons_zero, List.set_cons_succ]
    refine take_at (i := 7) (v := ?v48) rfl (by kernel_rfl) (by kernel_rfl) (by kernel_rfl) (fun _ _ _ h => h) (Or.inl ⟨by rfl, ?y48⟩) hHeld ?t48
    case y48 => (intro wx hSw; go_simp <;> with_reducible rfl)
    simp only [Act.put, List.setIfInBounds_toArray, List.set_cons_zero, List.set_cons_succ]
    refine take_at (i := 8) (v := ?v49) rfl (by kernel_rfl) (by kernel_rfl) (by kernel_rfl) (fun _ _ _ h => h) (Or.inl ⟨by rfl, ?y49⟩) hHeld ?t49
    case y49 => (intro wx hSw; go_simp <;> with_reducible rfl)
    simp only [Act.put, List.setIfInBounds_toArray, List.set_cons_zero, List.set_cons_succ]
    refine take_at (i := 9) (v := ?v50) rfl (by kernel_rfl) (by kernel_rfl) (by kernel_rfl) (fun _ _ _ h => h) (Or.inl ⟨by rfl, ?y50⟩) hHeld ?t50
    case y50 => (intro wx hSw; have hc2 : wx.cell? ⟨w.heap.size, 2, none⟩ = some (.map (some kq)) := hSw.1.c 2 (of_decide_eq_true rfl); go_simp <;> with_reducible rfl)
    simp only [Act.put, List.setIfInBounds_toArray, List.set_cons_zero, List.set_cons_succ]
    refine take_at (i := 10) (v := ?v51) rfl (by kernel_rfl) (by kernel_rfl) (by kernel_rfl) (fun _ _ _ h => h) (Or.inl ⟨by rfl, ?y51⟩) hHeld ?t51
    case y51 => (intro wx hSw; have hc0 : wx.cell? ⟨w.heap.size + 1 + 1, 0, none⟩ = some (.int .i64 (n - 1)) := hSw.2.2.1.c 0 (of_decide_eq_true rfl); have hc1 : wx.cell? ⟨w.heap.size + 1 + 1, 1, none⟩ = some (.int .i64 m) := hSw.2.2.1.c 1 (of_decide_eq_true rfl); go_simp <;> with_reducible rfl)
    simp only [Act.put, List.setIfInBounds_toArray, List.set_cons_zero, List.set_cons_succ]
    refine take_at (i := 11) rfl (by kernel_rfl) (by kernel_rfl) (by kernel_rfl) (fun _ _ _ h => h) (mp_yield_near (by rfl) rfl rfl rfl (fun _ hSw => hSw.2.2.2.1) ⟨by omega, by omega⟩ ⟨by omega, by omega⟩ (by omega)) hHeld ?_
    simp only [Act.put, List.setIfInBounds_toArray, List.set_cons_zero, List.set_cons_succ]
    refine take_at (i := 14) (v := ?v52) rfl (by kernel_rfl) (by kernel_rfl) (by kernel_rfl) (fun _ _ _ h => h) (Or.inl ⟨by rfl, ?y52⟩) hHeld ?t52
    case y52 => (intro wx hSw; go_simp <;> with_reducible rfl)
    simp only [Act.put, List.setIfInBounds_toArray, List.set_cons_zero, List.set_cons_succ]
    refine take_at (i := 15) (v := ?v53) rfl (by kernel_rfl) (by kernel_rfl) (by kernel_rfl) (fun _ _ _ h => h) (Or.inl ⟨by rfl, ?y53⟩) hHeld ?t53
    case y53 => (intro wx hSw; go_simp <;> with_reducible rfl)
    simp only [Act.put, List.setIfInBounds_toArray, List.set_cons_zero, List.set_cons_succ]
    refine take_at (i := 16) (v := ?v54) rfl (by kernel_rfl) (by kernel_rfl) (by kernel_rfl) (fun _ _ _ h => h) (Or.inl ⟨by rfl, ?y54⟩) hHeld ?t54
    case y54 => (intro wx hSw; go_simp <;> with_reducible rfl)
    simp only [Act.put, List.setIfInBounds_toArray, List.set_cons_zero, List.set_cons_succ]
    refine take_at (i := 17) (v := ?v55) rfl (by kernel_rfl) (by kernel_rfl) (by kernel_rfl) (fun _ _ _ h => h) (Or.inl ⟨by rfl, ?y55⟩) hHeld ?t55
    case y55 => (intro wx hSw; have hc2 : wx.cell? ⟨w.heap.size, 2, none⟩ = some (.map (some kq)) := hSw.1.c 2 (of_decide_eq_true rfl); go_simp <;> with_reducible rfl)
    simp only [Act.put, List.setIfInBounds_toArray, List.set_cons_zero, List.set_cons_succ]
    refine take_at (i := 18) (v := ?v56) rfl (by kernel_rfl) (by kernel_rfl) (by kernel_rfl) (fun _ _ _ h => h) (Or.inl ⟨by rfl, ?y56⟩) hHeld ?t56
    case y56 => (intro wx hSw; have hc0 : wx.cell? ⟨w.heap.size + 1 + 1 + 1, 0, none⟩ = some (.int .i64 (n - 2)) := hSw.2.2.2.2.c 0 (of_decide_eq_true rfl); have hc1 : wx.cell? ⟨w.heap.size + 1 + 1 + 1, 1, none⟩ = some (.int .i64 m) := hSw.2.2.2.2.c 1 (of_decide_eq_true rfl); go_simp <;> with_reducible rfl)
    simp only [Act.put, List.setIfInBounds_toArray, List.set_cons_zero, List.set_cons_succ]
    refine take_at (i := 19) rfl (by kernel_rfl) (by kernel_rfl) (by kernel_rfl) (fun _ _ _ h => h) (mp_yield_near (by rfl) rfl rfl rfl (fun _ hSw => hSw.2.2.2.1) ⟨by omega, by omega⟩ ⟨by omega, by omega⟩ (by omega)) hHeld ?_
    simp only [Act.put, List.setIfInBounds_toArray, List.set_cons_zero, List.set_cons_succ]
    refine call_at (i := 12) (by kernel_rfl) rfl (fun K hK => ?_)
    go_simp
    refine (Mul_any b false c (fq (n - 1) m) _ BF_17.drew).mono ?_
    rintro e w18 ⟨rfl, f18, k18⟩
    rw [U.h1] at f18 ⊢
    dsimp only at f18 ⊢
    have K18 : KeptL [b, kp, kd, kq] w w18 := KeptL.on K17.drew k18 (by simp)
    have MP_18 : Mp kp (cp + 1) (putM fp n m pz) w18 := MP_17.drew.kept k18 (by omega)
    have MD_18 : Mp kd (cd + 1) (putM fd n m dz) w18 := MD_17.drew.kept k18 (by omega)
    have MQ_18 : Mp kq cq fq w18 := MQ_17.drew.kept k18 (by omega)
    have B0_18 : Arr w.heap.size [.map (some kp), .map (some kd), .map (some kq)] w18 := B0_17.drew.kept k18 (Nat.ne_of_gt y1_BF)
    have B1_18 : Arr (w.heap.size + 1) [.int .i64 n, .int .i64 m] w18 := B1_17.drew.kept k18 (Nat.ne_of_gt y2_BF)
    have B2_18 : Arr (w.heap.size + 1 + 1) [.int .i64 (n - 1), .int .i64 m] w18 := B2_17.drew.kept k18 (Nat.ne_of_gt y3_BF)
    have B3_18 : Arr (w.heap.size + 1 + 1 + 1) [.int .i64 (n - 2), .int .i64 m] w18 := B3_17.drew.kept k18 (Nat.ne_of_gt y4_BF)
    have z18 := B3_18.lies
    clear hHeld
    refine hK.out _ _ ⟨B0_18, B1_18, B2_18, (NearM.same MQ_18), B3_18⟩ (fun hHeld => ?_)
    clear hK K K17 BF_17 MP_17 MD_17 MQ_17 B0_17 B1_17 B2_17 B3_17 k18
    refine call_at (i := 13) (by kernel_rfl) rfl (fun K hK => ?_)
    go_simp
    refine (Mul_any b false gb U.v1 _ f18).mono ?_
    rintro e w19 ⟨rfl, f19, k19⟩
    rw [U.h2] at f19 ⊢
    dsimp only at f19 ⊢
    have K19 : KeptL [b, kp, kd, kq] w w19 := KeptL.on K18 k19 (by simp)
    have MP_19 : Mp kp (cp + 1) (putM fp n m pz) w19 := MP_18.kept k19 (by omega)
    have MD_19 : Mp kd (cd + 1) (putM fd n m dz) w19 := MD_18.kept k19 (by omega)
    have MQ_19 : Mp kq cq fq w19 := MQ_18.kept k19 (by omega)
    have B0_19 : Arr w.heap.size [.map (some kp), .map (some kd), .map (some kq)] w19 := B0_18.kept k19 (Nat.ne_of_gt y1_BF)
    have B1_19 : Arr (w.heap.size + 1) [.int .i64 n, .int .i64 m] w19 := B1_18.kept k19 (Nat.ne_of_gt y2_BF)
    have B2_19 : Arr (w.heap.size + 1 + 1) [.int .i64 (n - 1), .int .i64 m] w19 := B2_18.kept k19 (Nat.ne_of_gt y3_BF)
    have B3_19 : Arr (w.heap.size + 1 + 1 + 1) [.int .i64 (n - 2), .int .i64 m] w19 := B3_18.kept k19 (Nat.ne_of_gt y4_BF)
    have z19 := B3_19.lies
    clear hHeld
    refine hK.out _ _ ⟨B0_19, B1_19, B2_19, (NearM.same MQ_19), B3_19⟩ (fun hHeld => ?_)
    clear hK K K18 f18 MP_18 MD_18 MQ_18 B0_18 B1_18 B2_18 B3_18 k19
    refine call_at (i := 20) (by kernel_rfl) rfl (fun K hK => ?_)
    go_simp
    refine (Mul_any b false ga (fq (n - 2) m) _ f19).mono ?_
    rintro e w20 ⟨rfl, f20, k20⟩
    rw [U.h3] at f20 ⊢
    dsimp only at f20 ⊢
    have K20 : KeptL [b, kp, kd, kq] w w20 := KeptL.on K19 k20 (by simp)
    have MP_20 : Mp kp (cp + 1) (putM fp n m pz) w20 := MP_19.kept k20 (by omega)
    have MD_20 : Mp kd (cd + 1) (putM fd n m dz) w20 := MD_19.kept k20 (by omega)
    have MQ_20 : Mp kq cq fq w20 := MQ_19.kept k20 (by omega)
    have B0_20 : Arr w.heap.size [.map (some kp), .map (some kd), .map (some kq)] w20 := B0_19.kept k20 (Nat.ne_of_gt y1_BF)
    have B1_20 : Arr (w.heap.size + 1) [.int .i64 n, .int .i64 m] w20 := B1_19.kept k20 (Nat.ne_of_gt y2_BF)
    have B2_20 : Arr (w.heap.size + 1 + 1) [.int .i64 (n - 1), .int .i64 m] w20 := B2_19.kept k20 (Nat.ne_of_gt y3_BF)
    have B3_20 : Arr (w.heap.size + 1 + 1 + 1) [.int .i64 (n - 2), .int .i64 m] w20 := B3_19.kept k20 (Nat.ne_of_gt y4_BF)
    have z20 := B3_20.lies
    clear hHeld
    refine hK.out _ _ ⟨B0_20, B1_20, B2_20, (NearM.same MQ_20), B3_20⟩ (fun hHeld => ?_)
    clear hK K K19 f19 MP_19 MD_19 MQ_19 B0_19 B1_19 B2_19 B3_19 k20
    refine call_at (i := 21) (by kernel_rfl) rfl (fun K hK => ?_)
    go_simp
    refine (Sub_any b false U.v2 U.v3 _ f20).mono ?_
    rintro e w21 ⟨rfl, f21, k21⟩
    rw [U.h4] at f21 ⊢
    dsimp only at f21 ⊢
    have K21 : KeptL [b, kp, kd, kq] w w21 := KeptL.on K20 k21 (by simp)
    have MP_21 : Mp kp (cp + 1) (putM fp n m pz) w21 := MP_20.kept k21 (by omega)
    have MD_21 : Mp kd (cd + 1) (putM fd n m dz) w21 := MD_20.kept k21 (by omega)
    have MQ_21 : Mp kq cq fq w21 := MQ_20.kept k21 (by omega)
    have B0_21 : Arr w.heap.size [.map (some kp), .map (some kd), .map (some kq)] w21 := B0_20.kept k21 (Nat.ne_of_gt y1_BF)
    have B1_21 : Arr (w.heap.size + 1) [.int .i64 n, .int .i64 m] w21 := B1_20.kept k21 (Nat.ne_of_gt y2_BF)
    have B2_21 : Arr (w.heap.size + 1 + 1) [.int .i64 (n - 1), .int .i64 m] w21 := B2_20.kept k21 (Nat.ne_of_gt y3_BF)
    have B3_21 : Arr (w.heap.size + 1 + 1 + 1) [.int .i64 (n - 2), .int .i64 m] w21 := B3_20.kept k21 (Nat.ne_of_gt y4_BF)
    have z21 := B3_21.lies
    clear hHeld
    refine hK.out _ _ ⟨B0_21, B1_21, B2_21, (NearM.same MQ_21), B3_21⟩ (fun hHeld => ?_)
    clear hK K K20 f20 MP_20 MD_20 MQ_20 B0_20 B1_20 B2_20 B3_20 k21
    refine call_at (i := 22) (by kernel_rfl) rfl (fun K hK => ?_)
    refine mp_put (by rfl) rfl rfl rfl rfl MQ_21 (by omega) ⟨by omega, by omega⟩ ⟨by omega, by omega⟩ i3 ?_
    intro w22 MQ_22 k22
    have K22 : KeptL [b, kp, kd, kq] w w22 := KeptL.on K21 k22 (by simp)
    have BF_22 : Fl b false w22 := f21.kept k22 (by omega)
    have MP_22 : Mp kp (cp + 1) (putM fp n m pz) w22 := MP_21.kept k22 (by omega)
    have MD_22 : Mp kd (cd + 1) (putM fd n m dz) w22 := MD_21.kept k22 (by omega)
    have B0_22 : Arr w.heap.size [.map (some kp), .map (some kd), .map (some kq)] w22 := B0_21.kept k22 (Nat.ne_of_gt y1_MQ)
    have B1_22 : Arr (w.heap.size + 1) [.int .i64 n, .int .i64 m] w22 := B1_21.kept k22 (Nat.ne_of_gt y2_MQ)
    have B2_22 : Arr (w.heap.size + 1 + 1) [.int .i64 (n - 1), .int .i64 m] w22 := B2_21.kept k22 (Nat.ne_of_gt y3_MQ)
    have B3_22 : Arr (w.heap.size + 1 + 1 + 1) [.int .i64 (n - 2), .int .i64 m] w22 := B3_21.kept k22 (Nat.ne_of_gt y4_MQ)
    have z22 := K22.size
    simp only [Act.put]
    clear hHeld
    refine hK.out _ _ ⟨B0_22, B1_22, B2_22, (NearM.upd MQ_22), B3_22⟩ (fun hHeld => ?_)
    clear hK K K21 MQ_21 f21 MP_21 MD_21 B0_21 B1_21 B2_21 B3_21 k22
    refine wpAnyH_done (by kernel_rfl) ?_ _
    clear hHeld
    go_wp2
    go_end0
    exact ⟨rfl, BF_22, MP_22, MD_22, MQ_22, K22⟩
  · go_wp2
    go_end0
    exact ⟨rfl, BF_17, MP_17, MD_17, MQ_17, K17⟩
theorem below_pos (b kp kd kq cp cd cq : Nat) (fp fd fq : Int → Int → Int) (n m c s ga gb pz dz qz : Int) (w : World) (hw : Fl b false w) (hp : Mp kp cp fp w) (hd : Mp kd cd fd w) (hq : Mp kq cq fq w) (d1 : b ≠ kp) (d2 : b ≠ kd) (d3 : b ≠ kq) (d4 : kp ≠ kd) (d5 : kp ≠ kq) (d6 : kd ≠ kq) (l1 : cp < 900) (l2 : cd < 900) (l3 : cq < 900) (n1 : 1 ≤ n) (n6 : n ≤ 6) (m0 : 0 ≤ m) (mn : m < n) (R : RootT n m ga gb) (T : EntT c s gb ga (fp (n - 1) m) (fd (n - 1) m) (fp (n - 2) m) (fd (n - 2) m) pz dz) (i1 : I64 pz) (i2 : I64 dz) (U : EntQ c gb ga (fq (n - 1) m) (fq (n - 2) m) qz) (i3 : I64 qz) (hm : m > 0) :
    Calls Tryz.prog 267 #[.agg #[.map (some kp), .map (some kd), .map (some kq)], .pointer (some ⟨b, 0, none⟩), .int .i64 n, .int .i64 m, .int .i64 c, .int .i64 s] w fun e w' => e = .returned (.tuple #[]) ∧ Fl b false w' ∧ Mp kp (cp + 1) (putM fp n m pz) w' ∧ Mp kd (cd + 1) (putM fd n m dz) w' ∧ Mp kq (cq + 1) (putM fq n m qz) w' ∧ KeptL [b, kp, kd, kq] w w' := by
  refine (below_any b kp kd kq cp cd cq fp fd fq n m c s ga gb pz dz qz w hw hp hd hq d1 d2 d3 d4 d5 d6 l1 l2 (fun _ => l3) n1 n6 m0 mn R T i1 i2 (fun _ => U) (fun _ => i3)).mono ?_
  rintro e w' ⟨h1, h2, h3, h4, h5, h6⟩
  rw [if_pos hm] at h5
  exact ⟨h1, h2, h3, h4, h5, h6⟩
theorem below_zero (b kp kd kq cp cd cq : Nat) (fp fd fq : Int → Int → Int) (n m c s ga gb pz dz : Int) (w : World) (hw : Fl b false w) (hp : Mp kp cp fp w) (hd : Mp kd cd fd w) (hq : Mp kq cq fq w) (d1 : b ≠ kp) (d2 : b ≠ kd) (d3 : b ≠ kq) (d4 : kp ≠ kd) (d5 : kp ≠ kq) (d6 : kd ≠ kq) (l1 : cp < 900) (l2 : cd < 900) (n1 : 1 ≤ n) (n6 : n ≤ 6) (m0 : 0 ≤ m) (R : RootT n m ga gb) (T : EntT c s gb ga (fp (n - 1) m) (fd (n - 1) m) (fp (n - 2) m) (fd (n - 2) m) pz dz) (i1 : I64 pz) (i2 : I64 dz) (hm : ¬ m > 0) :
    Calls Tryz.prog 267 #[.agg #[.map (some kp), .map (some kd), .map (some kq)], .pointer (some ⟨b, 0, none⟩), .int .i64 n, .int .i64 m, .int .i64 c, .int .i64 s] w fun e w' => e = .returned (.tuple #[]) ∧ Fl b false w' ∧ Mp kp (cp + 1) (putM fp n m pz) w' ∧ Mp kd (cd + 1) (putM fd n m dz) w' ∧ Mp kq cq fq w' ∧ KeptL [b, kp, kd, kq] w w' := by
  refine (below_any b kp kd kq cp cd cq fp fd fq n m c s ga gb pz dz 0 w hw hp hd hq d1 d2 d3 d4 d5 d6 l1 l2 (fun h => absurd h hm) n1 n6 m0 (by omega) R T i1 i2 (fun h => absurd h hm) (fun h => absurd h hm)).mono ?_
  rintro e w' ⟨h1, h2, h3, h4, h5, h6⟩
  rw [if_neg hm] at h5
  exact ⟨h1, h2, h3, h4, h5, h6⟩
end Go.Proofs.YtoadcnhcfodkgaaGreatDoor
