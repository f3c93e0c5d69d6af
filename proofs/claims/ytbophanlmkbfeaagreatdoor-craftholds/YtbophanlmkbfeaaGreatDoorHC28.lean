/-
A part.
A part.
-/
import Derived.Handy
import Derived.Deep.RegionHeld3
import Derived.Test.YtbophanlmkbfeaaGreatDoorHC25
import Derived.Test.YtbophanlmkbfeaaGreatDoorHC15
import Derived.Test.YtbophanlmkbfeaaGreatDoorHC27
import Derived.Test.YtbophanlmkbfeaaGreatDoorHC24
namespace Go.Proofs.YtbophanlmkbfeaaGreatDoor
open Go.RowKit
set_option maxRecDepth 100000
set_option maxHeartbeats 20000000
theorem even_any (b kp kd kq cp cd cq : Nat) (fp fd fq : Int → Int → Int) (n c s pz dz qz : Int) (w : World) (hw : Fl b false w) (hp : Mp kp cp fp w) (hd : Mp kd cd fd w) (hq : Mp kq cq fq w) (d1 : b ≠ kp) (d2 : b ≠ kd) (d3 : b ≠ kq) (d4 : kp ≠ kd) (d5 : kp ≠ kq) (d6 : kd ≠ kq) (l1 : cp < 900) (l2 : cd < 900) (l3 : cq < 900) (n1 : 2 ≤ n) (n6 : n ≤ 6) (T : DiaT n c s (fp (n - 1) (n - 1)) (fd (n - 1) (n - 1)) (fq (n - 1) (n - 1)) pz dz qz) (i1 : I64 pz) (i2 : I64 dz) (i3 : I64 qz) :
    Calls Tryz.prog 213 #[.agg #[.map (some kp), .map (some kd), .map (some kq)], .pointer (some ⟨b, 0, none⟩), .int .i64 n, .int .i64 c, .int .i64 s] w fun e w' => e = .returned (.tuple #[]) ∧ Fl b false w' ∧ Mp kp (cp + 1) (putM fp n n pz) w' ∧ Mp kd (cd + 1) (putM fd n n dz) w' ∧ Mp kq (cq + 1) (putM fq n n qz) w' ∧ KeptL [b, kp, kd, kq] w w' := by
 have hl := hw.lies
 have l_p := hp.lies
 have l_d := hd.lies
 have l_q := hq.lies
 have hs4 : mulS false c ((putM fp n n pz) (n - 1) (n - 1)) = (T.v4, false) := by rw [show putM fp n n pz (n - 1) (n - 1) = fp (n - 1) (n - 1) from if_neg (by omega)]; exact T.h4
 go_enter Tryz.func213, Tryz.ntmps213
 have y1_BF := hw.lies
 have y1_MP := hp.lies
 have y1_MD := hd.lies
 have y1_MQ := hq.lies
 have y2_BF : b < w.heap.size + 1 := (Nat.lt_succ_of_lt hw.lies)
 have y2_MP : kp < w.heap.size + 1 := (Nat.lt_succ_of_lt hp.lies)
 have y2_MD : kd < w.heap.size + 1 := (Nat.lt_succ_of_lt hd.lies)
 have y2_MQ : kq < w.heap.size + 1 := (Nat.lt_succ_of_lt hq.lies)
 have y2_B0 : w.heap.size < w.heap.size + 1 := by omega
 have y3_BF : b < w.heap.size + 1 + 1 := (Nat.lt_succ_of_lt (Nat.lt_succ_of_lt hw.lies))
 have y3_MP : kp < w.heap.size + 1 + 1 := (Nat.lt_succ_of_lt (Nat.lt_succ_of_lt hp.lies))
 have y3_MD : kd < w.heap.size + 1 + 1 := (Nat.lt_succ_of_lt (Nat.lt_succ_of_lt hd.lies))
 have y3_MQ : kq < w.heap.size + 1 + 1 := (Nat.lt_succ_of_lt (Nat.lt_succ_of_lt hq.lies))
 have y3_B0 : w.heap.size < w.heap.size + 1 + 1 := by omega
 have y3_B1 : w.heap.size + 1 < w.heap.size + 1 + 1 := by omega
 go_wp2_with fail
 refine (Part_any b false 1099511627776 ((2 * n) - 1) (2 * n) _ (((hw.alloc _).alloc _).alloc _)).mono ?_
 rintro e w1 ⟨rfl, f1, k1⟩
 rw [T.hp] at f1 ⊢
 dsimp only at f1 ⊢
 have K1 : KeptL [b, kp, kd, kq] w w1 := KeptL.on ((((KeptL.refl [b, kp, kd, kq] w).al _).al _).al _) k1 (by simp)
 have MP_1 : Mp kp cp fp w1 := (((hp.alloc _).alloc _).alloc _).kept k1 (by omega)
 have MD_1 : Mp kd cd fd w1 := (((hd.alloc _).alloc _).alloc _).kept k1 (by omega)
 have MQ_1 : Mp kq cq fq w1 := (((hq.alloc _).alloc _).alloc _).kept k1 (by omega)
 have B0_1 := (((Arr_at _ w.heap.size [.map (some kp), .map (some kd), .map (some kq)] _ (by simp)).alloc _).alloc _).kept k1 (zG y1_BF)
 have B1_1 := ((Arr_at _ (w.heap.size + 1) [.int .i64 n, .int .i64 n] _ (by simp)).alloc _).kept k1 (zG y2_BF)
 have B2_1 := (Arr_at _ (w.heap.size + 1 + 1) [.int .i64 (n - 1), .int .i64 (n - 1)] _ (by simp)).kept k1 (zG y3_BF)
 have z1 := B2_1.lies
 clear hp hd hq k1
 go_wp2_with fail
 refine (Sqrt_any b false T.p _ f1).mono ?_
 rintro e w2 ⟨rfl, f2, k2⟩
 rw [T.hj] at f2 ⊢
 dsimp only at f2 ⊢
 have K2 : KeptL [b, kp, kd, kq] w w2 := KeptL.on K1 k2 (by simp)
 have MP_2 : Mp kp cp fp w2 := MP_1.kept k2 (by omega)
 have MD_2 : Mp kd cd fd w2 := MD_1.kept k2 (by omega)
 have MQ_2 : Mp kq cq fq w2 := MQ_1.kept k2 (by omega)
 have B0_2 := B0_1.kept k2 (zG y1_BF)
 have B1_2 := B1_1.kept k2 (zG y2_BF)
 have B2_2 := B2_1.kept k2 (zG y3_BF)
 have z2 := B2_2.lies
 clear K1 f1 MP_1 MD_1 MQ_1 B0_1 B1_1 B2_1 k2
 go_wp2_with fail
 refine wp_region_held_drew (S := fun w' => Arr w.heap.size [.map (some kp), .map (some kd), .map (some kq)] w' ∧ Arr (w.heap.size + 1) [.int .i64 n, .int .i64 n] w' ∧ Arr (w.heap.size + 1 + 1) [.int .i64 (n - 1), .int .i64 (n - 1)] w' ∧ NearM kp fp n n w') (by kernel_rfl) ⟨B0_2.drew, B1_2.drew, B2_2.drew, (NearM.same MP_2.drew)⟩ (fun zH => ?_)
 refine zT 0 rfl (by kernel_rfl) (fun _ _ _ => id) rfl (fun _ _ => by go_simp <;> with_reducible rfl) zH ?_
 simp only [Act.put, zA, zB, zC]
 refine zT 1 rfl (by kernel_rfl) (fun _ _ _ => id) rfl (fun wx hS => by have hc0 : wx.cell? ⟨w.heap.size, 0, none⟩ = some (.map (some kp)) := hS.1.c 0 (zD rfl); go_simp <;> with_reducible rfl) zH ?_
 simp only [Act.put, zA, zB, zC]
 refine zT 2 rfl (by kernel_rfl) (fun _ _ _ => id) rfl (fun wx hS => by have hc0 : wx.cell? ⟨w.heap.size + 1, 0, none⟩ = some (.int .i64 n) := hS.2.1.c 0 (zD rfl); have hc1 : wx.cell? ⟨w.heap.size + 1, 1, none⟩ = some (.int .i64 n) := hS.2.1.c 1 (zD rfl); go_simp <;> with_reducible rfl) zH ?_
 simp only [Act.put, zA, zB, zC]
 refine zT 3 rfl (by kernel_rfl) (fun _ _ _ => id) rfl (fun _ _ => by go_simp <;> with_reducible rfl) zH ?_
 simp only [Act.put, zA, zB, zC]
 refine zT 4 rfl (by kernel_rfl) (fun _ _ _ => id) rfl (fun _ _ => by go_simp <;> with_reducible rfl) zH ?_
 simp only [Act.put, zA, zB, zC]
 refine zT 5 rfl (by kernel_rfl) (fun _ _ _ => id) rfl (fun _ _ => by go_simp <;> with_reducible rfl) zH ?_
 simp only [Act.put, zA, zB, zC]
 refine zT 6 rfl (by kernel_rfl) (fun _ _ _ => id) rfl (fun _ _ => by go_simp <;> with_reducible rfl) zH ?_
 simp only [Act.put, zA, zB, zC]
 refine zT 7 rfl (by kernel_rfl) (fun _ _ _ => id) rfl (fun _ _ => by go_simp <;> with_reducible rfl) zH ?_
 simp only [Act.put, zA, zB, zC]
 refine zT 8 rfl (by kernel_rfl) (fun _ _ _ => id) rfl (fun wx hS => by have hc0 : wx.cell? ⟨w.heap.size, 0, none⟩ = some (.map (some kp)) := hS.1.c 0 (zD rfl); go_simp <;> with_reducible rfl) zH ?_
 simp only [Act.put, zA, zB, zC]
 refine zT 9 rfl (by kernel_rfl) (fun _ _ _ => id) rfl (fun wx hS => by have hc0 : wx.cell? ⟨w.heap.size + 1 + 1, 0, none⟩ = some (.int .i64 (n - 1)) := hS.2.2.1.c 0 (zD rfl); have hc1 : wx.cell? ⟨w.heap.size + 1 + 1, 1, none⟩ = some (.int .i64 (n - 1)) := hS.2.2.1.c 1 (zD rfl); go_simp <;> with_reducible rfl) zH ?_
 simp only [Act.put, zA, zB, zC]
 refine take_at (i := 10) rfl (by kernel_rfl) (by kernel_rfl) (by kernel_rfl) (fun _ _ _ h => h) (mp_yield_near (by rfl) rfl rfl rfl (fun _ hS => hS.2.2.2) ⟨by omega, by omega⟩ ⟨by omega, by omega⟩ (by omega)) zH ?_
 simp only [Act.put, zA, zB, zC]
 refine zK 11 (by kernel_rfl) rfl (fun K hK => ?_)
 go_simp
 refine (Mul_any b false s (fp (n - 1) (n - 1)) _ f2.drew).mono ?_
 rintro e w3 ⟨rfl, f3, k3⟩
 rw [T.h1] at f3 ⊢
 dsimp only at f3 ⊢
 have K3 : KeptL [b, kp, kd, kq] w w3 := KeptL.on K2.drew k3 (by simp)
 have MP_3 : Mp kp cp fp w3 := MP_2.drew.kept k3 (by omega)
 have MD_3 : Mp kd cd fd w3 := MD_2.drew.kept k3 (by omega)
 have MQ_3 : Mp kq cq fq w3 := MQ_2.drew.kept k3 (by omega)
 have B0_3 := B0_2.drew.kept k3 (zG y1_BF)
 have B1_3 := B1_2.drew.kept k3 (zG y2_BF)
 have B2_3 := B2_2.drew.kept k3 (zG y3_BF)
 have z3 := B2_3.lies
 clear zH
 refine hK.out _ _ ⟨B0_3, B1_3, B2_3, (NearM.same MP_3)⟩ (fun zH => ?_)
 clear hK K K2 f2 MP_2 MD_2 MQ_2 B0_2 B1_2 B2_2 k3
 refine zK 12 (by kernel_rfl) rfl (fun K hK => ?_)
 go_simp
 refine (Mul_any b false T.j T.v1 _ f3).mono ?_
 rintro e w4 ⟨rfl, f4, k4⟩
 rw [T.h2] at f4 ⊢
 dsimp only at f4 ⊢
 have K4 : KeptL [b, kp, kd, kq] w w4 := KeptL.on K3 k4 (by simp)
 have MP_4 : Mp kp cp fp w4 := MP_3.kept k4 (by omega)
 have MD_4 : Mp kd cd fd w4 := MD_3.kept k4 (by omega)
 have MQ_4 : Mp kq cq fq w4 := MQ_3.kept k4 (by omega)
 have B0_4 := B0_3.kept k4 (zG y1_BF)
 have B1_4 := B1_3.kept k4 (zG y2_BF)
 have B2_4 := B2_3.kept k4 (zG y3_BF)
 have z4 := B2_4.lies
 clear zH
 refine hK.out _ _ ⟨B0_4, B1_4, B2_4, (NearM.same MP_4)⟩ (fun zH => ?_)
 clear hK K K3 f3 MP_3 MD_3 MQ_3 B0_3 B1_3 B2_3 k4
 refine zK 13 (by kernel_rfl) rfl (fun K hK => ?_)
 refine mp_put (by rfl) rfl rfl rfl rfl MP_4 (by omega) ⟨by omega, by omega⟩ ⟨by omega, by omega⟩ i1 ?_
 intro w5 MP_5 k5
 have K5 : KeptL [b, kp, kd, kq] w w5 := KeptL.on K4 k5 (by simp)
 have BF_5 := f4.kept k5 (by omega)
 have MD_5 : Mp kd cd fd w5 := MD_4.kept k5 (by omega)
 have MQ_5 : Mp kq cq fq w5 := MQ_4.kept k5 (by omega)
 have B0_5 := B0_4.kept k5 (zG y1_MP)
 have B1_5 := B1_4.kept k5 (zG y2_MP)
 have B2_5 := B2_4.kept k5 (zG y3_MP)
 have z5 := K5.size
 simp only [Act.put]
 clear zH
 refine hK.out _ _ ⟨B0_5, B1_5, B2_5, (NearM.upd MP_5)⟩ (fun zH => ?_)
 clear hK K K4 MP_4 f4 MD_4 MQ_4 B0_4 B1_4 B2_4 k5
 refine wpAnyH_done (by kernel_rfl) ?_ _
 clear zH
 go_wp2_with fail
 refine wp_region_held_drew (S := fun w' => Arr w.heap.size [.map (some kp), .map (some kd), .map (some kq)] w' ∧ Arr (w.heap.size + 1) [.int .i64 n, .int .i64 n] w' ∧ Arr (w.heap.size + 1 + 1) [.int .i64 (n - 1), .int .i64 (n - 1)] w' ∧ NearM kd fd n n w' ∧ Mp kp (cp + 1) (putM fp n n pz) w') (by kernel_rfl) ⟨B0_5.drew, B1_5.drew, B2_5.drew, (NearM.same MD_5.drew), MP_5.drew⟩ (fun zH => ?_)
 refine zT 0 rfl (by kernel_rfl) (fun _ _ _ => id) rfl (fun _ _ => by go_simp <;> with_reducible rfl) zH ?_
 simp only [Act.put, zA, zB, zC]
 refine zT 1 rfl (by kernel_rfl) (fun _ _ _ => id) rfl (fun wx hS => by have hc1 : wx.cell? ⟨w.heap.size, 1, none⟩ = some (.map (some kd)) := hS.1.c 1 (zD rfl); go_simp <;> with_reducible rfl) zH ?_
 simp only [Act.put, zA, zB, zC]
 refine zT 2 rfl (by kernel_rfl) (fun _ _ _ => id) rfl (fun wx hS => by have hc0 : wx.cell? ⟨w.heap.size + 1, 0, none⟩ = some (.int .i64 n) := hS.2.1.c 0 (zD rfl); have hc1 : wx.cell? ⟨w.heap.size + 1, 1, none⟩ = some (.int .i64 n) := hS.2.1.c 1 (zD rfl); go_simp <;> with_reducible rfl) zH ?_
 simp only [Act.put, zA, zB, zC]
 refine zT 3 rfl (by kernel_rfl) (fun _ _ _ => id) rfl (fun _ _ => by go_simp <;> with_reducible rfl) zH ?_
 simp only [Act.put, zA, zB, zC]
 refine zT 4 rfl (by kernel_rfl) (fun _ _ _ => id) rfl (fun _ _ => by go_simp <;> with_reducible rfl) zH ?_
 simp only [Act.put, zA, zB, zC]
 refine zT 5 rfl (by kernel_rfl) (fun _ _ _ => id) rfl (fun _ _ => by go_simp <;> with_reducible rfl) zH ?_
 simp only [Act.put, zA, zB, zC]
 refine zT 6 rfl (by kernel_rfl) (fun _ _ _ => id) rfl (fun _ _ => by go_simp <;> with_reducible rfl) zH ?_
 simp only [Act.put, zA, zB, zC]
 refine zT 7 rfl (by kernel_rfl) (fun _ _ _ => id) rfl (fun _ _ => by go_simp <;> with_reducible rfl) zH ?_
 simp only [Act.put, zA, zB, zC]
 refine zT 8 rfl (by kernel_rfl) (fun _ _ _ => id) rfl (fun _ _ => by go_simp <;> with_reducible rfl) zH ?_
 simp only [Act.put, zA, zB, zC]
 refine zT 9 rfl (by kernel_rfl) (fun _ _ _ => id) rfl (fun wx hS => by have hc1 : wx.cell? ⟨w.heap.size, 1, none⟩ = some (.map (some kd)) := hS.1.c 1 (zD rfl); go_simp <;> with_reducible rfl) zH ?_
 simp only [Act.put, zA, zB, zC]
 refine zT 10 rfl (by kernel_rfl) (fun _ _ _ => id) rfl (fun wx hS => by have hc0 : wx.cell? ⟨w.heap.size + 1 + 1, 0, none⟩ = some (.int .i64 (n - 1)) := hS.2.2.1.c 0 (zD rfl); have hc1 : wx.cell? ⟨w.heap.size + 1 + 1, 1, none⟩ = some (.int .i64 (n - 1)) := hS.2.2.1.c 1 (zD rfl); go_simp <;> with_reducible rfl) zH ?_
 simp only [Act.put, zA, zB, zC]
 refine take_at (i := 11) rfl (by kernel_rfl) (by kernel_rfl) (by kernel_rfl) (fun _ _ _ h => h) (mp_yield_near (by rfl) rfl rfl rfl (fun _ hS => hS.2.2.2.1) ⟨by omega, by omega⟩ ⟨by omega, by omega⟩ (by omega)) zH ?_
 simp only [Act.put, zA, zB, zC]
 refine zT 13 rfl (by kernel_rfl) (fun _ _ _ => id) rfl (fun _ _ => by go_simp <;> with_reducible rfl) zH ?_
 simp only [Act.put, zA, zB, zC]
 refine zT 14 rfl (by kernel_rfl) (fun _ _ _ => id) rfl (fun _ _ => by go_simp <;> with_reducible rfl) zH ?_
 simp only [Act.put, zA, zB, zC]
 refine zT 15 rfl (by kernel_rfl) (fun _ _ _ => id) rfl (fun _ _ => by go_simp <;> with_reducible rfl) zH ?_
 simp only [Act.put, zA, zB, zC]
 refine zT 16 rfl (by kernel_rfl) (fun _ _ _ => id) rfl (fun wx hS => by have hc0 : wx.cell? ⟨w.heap.size, 0, none⟩ = some (.map (some kp)) := hS.1.c 0 (zD rfl); go_simp <;> with_reducible rfl) zH ?_
 simp only [Act.put, zA, zB, zC]
 refine zT 17 rfl (by kernel_rfl) (fun _ _ _ => id) rfl (fun wx hS => by have hc0 : wx.cell? ⟨w.heap.size + 1 + 1, 0, none⟩ = some (.int .i64 (n - 1)) := hS.2.2.1.c 0 (zD rfl); have hc1 : wx.cell? ⟨w.heap.size + 1 + 1, 1, none⟩ = some (.int .i64 (n - 1)) := hS.2.2.1.c 1 (zD rfl); go_simp <;> with_reducible rfl) zH ?_
 simp only [Act.put, zA, zB, zC]
 refine take_at (i := 18) rfl (by kernel_rfl) (by kernel_rfl) (by kernel_rfl) (fun _ _ _ h => h) (mp_yield (by rfl) rfl rfl rfl (fun _ hS => hS.2.2.2.2) ⟨by omega, by omega⟩ ⟨by omega, by omega⟩) zH ?_
 simp only [Act.put, zA, zB, zC]
 refine zK 12 (by kernel_rfl) rfl (fun K hK => ?_)
 go_simp
 refine (Mul_any b false s (fd (n - 1) (n - 1)) _ BF_5.drew).mono ?_
 rintro e w6 ⟨rfl, f6, k6⟩
 rw [T.h3] at f6 ⊢
 dsimp only at f6 ⊢
 have K6 : KeptL [b, kp, kd, kq] w w6 := KeptL.on K5.drew k6 (by simp)
 have MP_6 : Mp kp (cp + 1) (putM fp n n pz) w6 := MP_5.drew.kept k6 (by omega)
 have MD_6 : Mp kd cd fd w6 := MD_5.drew.kept k6 (by omega)
 have MQ_6 : Mp kq cq fq w6 := MQ_5.drew.kept k6 (by omega)
 have B0_6 := B0_5.drew.kept k6 (zG y1_BF)
 have B1_6 := B1_5.drew.kept k6 (zG y2_BF)
 have B2_6 := B2_5.drew.kept k6 (zG y3_BF)
 have z6 := B2_6.lies
 clear zH
 refine hK.out _ _ ⟨B0_6, B1_6, B2_6, (NearM.same MD_6), MP_6⟩ (fun zH => ?_)
 clear hK K K5 BF_5 MP_5 MD_5 MQ_5 B0_5 B1_5 B2_5 k6
 refine zK 19 (by kernel_rfl) rfl (fun K hK => ?_)
 go_simp
 refine (Mul_any b false c ((putM fp n n pz) (n - 1) (n - 1)) _ f6).mono ?_
 rintro e w7 ⟨rfl, f7, k7⟩
 rw [hs4] at f7 ⊢
 dsimp only at f7 ⊢
 have K7 : KeptL [b, kp, kd, kq] w w7 := KeptL.on K6 k7 (by simp)
 have MP_7 : Mp kp (cp + 1) (putM fp n n pz) w7 := MP_6.kept k7 (by omega)
 have MD_7 : Mp kd cd fd w7 := MD_6.kept k7 (by omega)
 have MQ_7 : Mp kq cq fq w7 := MQ_6.kept k7 (by omega)
 have B0_7 := B0_6.kept k7 (zG y1_BF)
 have B1_7 := B1_6.kept k7 (zG y2_BF)
 have B2_7 := B2_6.kept k7 (zG y3_BF)
 have z7 := B2_7.lies
 clear zH
 refine hK.out _ _ ⟨B0_7, B1_7, B2_7, (NearM.same MD_7), MP_7⟩ (fun zH => ?_)
 clear hK K K6 f6 MP_6 MD_6 MQ_6 B0_6 B1_6 B2_6 k7
 refine zK 20 (by kernel_rfl) rfl (fun K hK => ?_)
 go_simp
 refine (Add_any b false T.v3 T.v4 _ f7).mono ?_
 rintro e w8 ⟨rfl, f8, k8⟩
 rw [T.h5] at f8 ⊢
 dsimp only at f8 ⊢
 have K8 : KeptL [b, kp, kd, kq] w w8 := KeptL.on K7 k8 (by simp)
 have MP_8 : Mp kp (cp + 1) (putM fp n n pz) w8 := MP_7.kept k8 (by omega)
 have MD_8 : Mp kd cd fd w8 := MD_7.kept k8 (by omega)
 have MQ_8 : Mp kq cq fq w8 := MQ_7.kept k8 (by omega)
 have B0_8 := B0_7.kept k8 (zG y1_BF)
 have B1_8 := B1_7.kept k8 (zG y2_BF)
 have B2_8 := B2_7.kept k8 (zG y3_BF)
 have z8 := B2_8.lies
 clear zH
 refine hK.out _ _ ⟨B0_8, B1_8, B2_8, (NearM.same MD_8), MP_8⟩ (fun zH => ?_)
 clear hK K K7 f7 MP_7 MD_7 MQ_7 B0_7 B1_7 B2_7 k8
 refine zK 21 (by kernel_rfl) rfl (fun K hK => ?_)
 go_simp
 refine (Mul_any b false T.j T.v5 _ f8).mono ?_
 rintro e w9 ⟨rfl, f9, k9⟩
 rw [T.h6] at f9 ⊢
 dsimp only at f9 ⊢
 have K9 : KeptL [b, kp, kd, kq] w w9 := KeptL.on K8 k9 (by simp)
 have MP_9 : Mp kp (cp + 1) (putM fp n n pz) w9 := MP_8.kept k9 (by omega)
 have MD_9 : Mp kd cd fd w9 := MD_8.kept k9 (by omega)
 have MQ_9 : Mp kq cq fq w9 := MQ_8.kept k9 (by omega)
 have B0_9 := B0_8.kept k9 (zG y1_BF)
 have B1_9 := B1_8.kept k9 (zG y2_BF)
 have B2_9 := B2_8.kept k9 (zG y3_BF)
 have z9 := B2_9.lies
 clear zH
 refine hK.out _ _ ⟨B0_9, B1_9, B2_9, (NearM.same MD_9), MP_9⟩ (fun zH => ?_)
 clear hK K K8 f8 MP_8 MD_8 MQ_8 B0_8 B1_8 B2_8 k9
 refine zK 22 (by kernel_rfl) rfl (fun K hK => ?_)
 refine mp_put (by rfl) rfl rfl rfl rfl MD_9 (by omega) ⟨by omega, by omega⟩ ⟨by omega, by omega⟩ i2 ?_
 intro w10 MD_10 k10
 have K10 : KeptL [b, kp, kd, kq] w w10 := KeptL.on K9 k10 (by simp)
 have BF_10 := f9.kept k10 (by omega)
 have MP_10 : Mp kp (cp + 1) (putM fp n n pz) w10 := MP_9.kept k10 (by omega)
 have MQ_10 : Mp kq cq fq w10 := MQ_9.kept k10 (by omega)
 have B0_10 := B0_9.kept k10 (zG y1_MD)
 have B1_10 := B1_9.kept k10 (zG y2_MD)
 have B2_10 := B2_9.kept k10 (zG y3_MD)
 have z10 := K10.size
 simp only [Act.put]
 clear zH
 refine hK.out _ _ ⟨B0_10, B1_10, B2_10, (NearM.upd MD_10), MP_10⟩ (fun zH => ?_)
 clear hK K K9 MD_9 f9 MP_9 MQ_9 B0_9 B1_9 B2_9 k10
 refine wpAnyH_done (by kernel_rfl) ?_ _
 clear zH
 go_wp2_with fail
 refine wp_region_held_drew (S := fun w' => Arr w.heap.size [.map (some kp), .map (some kd), .map (some kq)] w' ∧ Arr (w.heap.size + 1) [.int .i64 n, .int .i64 n] w' ∧ Arr (w.heap.size + 1 + 1) [.int .i64 (n - 1), .int .i64 (n - 1)] w' ∧ NearM kq fq n n w') (by kernel_rfl) ⟨B0_10.drew, B1_10.drew, B2_10.drew, (NearM.same MQ_10.drew)⟩ (fun zH => ?_)
 refine zT 0 rfl (by kernel_rfl) (fun _ _ _ => id) rfl (fun _ _ => by go_simp <;> with_reducible rfl) zH ?_
 simp only [Act.put, zA, zB, zC]
 refine zT 1 rfl (by kernel_rfl) (fun _ _ _ => id) rfl (fun wx hS => by have hc2 : wx.cell? ⟨w.heap.size, 2, none⟩ = some (.map (some kq)) := hS.1.c 2 (zD rfl); go_simp <;> with_reducible rfl) zH ?_
 simp only [Act.put, zA, zB, zC]
 refine zT 2 rfl (by kernel_rfl) (fun _ _ _ => id) rfl (fun wx hS => by have hc0 : wx.cell? ⟨w.heap.size + 1, 0, none⟩ = some (.int .i64 n) := hS.2.1.c 0 (zD rfl); have hc1 : wx.cell? ⟨w.heap.size + 1, 1, none⟩ = some (.int .i64 n) := hS.2.1.c 1 (zD rfl); go_simp <;> with_reducible rfl) zH ?_
 simp only [Act.put, zA, zB, zC]
 refine zT 3 rfl (by kernel_rfl) (fun _ _ _ => id) rfl (fun _ _ => by go_simp <;> with_reducible rfl) zH ?_
 simp only [Act.put, zA, zB, zC]
 refine zT 4 rfl (by kernel_rfl) (fun _ _ _ => id) rfl (fun _ _ => by go_simp <;> with_reducible rfl) zH ?_
 simp only [Act.put, zA, zB, zC]
 refine zT 5 rfl (by kernel_rfl) (fun _ _ _ => id) rfl (fun _ _ => by go_simp <;> with_reducible rfl) zH ?_
 simp only [Act.put, zA, zB, zC]
 refine zT 6 rfl (by kernel_rfl) (fun _ _ _ => id) rfl (fun _ _ => by go_simp <;> with_reducible rfl) zH ?_
 simp only [Act.put, zA, zB, zC]
 refine zT 7 rfl (by kernel_rfl) (fun _ _ _ => id) rfl (fun _ _ => by go_simp <;> with_reducible rfl) zH ?_
 simp only [Act.put, zA, zB, zC]
 refine zT 8 rfl (by kernel_rfl) (fun _ _ _ => id) rfl (fun wx hS => by have hc2 : wx.cell? ⟨w.heap.size, 2, none⟩ = some (.map (some kq)) := hS.1.c 2 (zD rfl); go_simp <;> with_reducible rfl) zH ?_
 simp only [Act.put, zA, zB, zC]
 refine zT 9 rfl (by kernel_rfl) (fun _ _ _ => id) rfl (fun wx hS => by have hc0 : wx.cell? ⟨w.heap.size + 1 + 1, 0, none⟩ = some (.int .i64 (n - 1)) := hS.2.2.1.c 0 (zD rfl); have hc1 : wx.cell? ⟨w.heap.size + 1 + 1, 1, none⟩ = some (.int .i64 (n - 1)) := hS.2.2.1.c 1 (zD rfl); go_simp <;> with_reducible rfl) zH ?_
 simp only [Act.put, zA, zB, zC]
 refine take_at (i := 10) rfl (by kernel_rfl) (by kernel_rfl) (by kernel_rfl) (fun _ _ _ h => h) (mp_yield_near (by rfl) rfl rfl rfl (fun _ hS => hS.2.2.2) ⟨by omega, by omega⟩ ⟨by omega, by omega⟩ (by omega)) zH ?_
 simp only [Act.put, zA, zB, zC]
 refine zK 11 (by kernel_rfl) rfl (fun K hK => ?_)
 go_simp
 refine (Mul_any b false s (fq (n - 1) (n - 1)) _ BF_10.drew).mono ?_
 rintro e w11 ⟨rfl, f11, k11⟩
 rw [T.h7] at f11 ⊢
 dsimp only at f11 ⊢
 have K11 : KeptL [b, kp, kd, kq] w w11 := KeptL.on K10.drew k11 (by simp)
 have MP_11 : Mp kp (cp + 1) (putM fp n n pz) w11 := MP_10.drew.kept k11 (by omega)
 have MD_11 : Mp kd (cd + 1) (putM fd n n dz) w11 := MD_10.drew.kept k11 (by omega)
 have MQ_11 : Mp kq cq fq w11 := MQ_10.drew.kept k11 (by omega)
 have B0_11 := B0_10.drew.kept k11 (zG y1_BF)
 have B1_11 := B1_10.drew.kept k11 (zG y2_BF)
 have B2_11 := B2_10.drew.kept k11 (zG y3_BF)
 have z11 := B2_11.lies
 clear zH
 refine hK.out _ _ ⟨B0_11, B1_11, B2_11, (NearM.same MQ_11)⟩ (fun zH => ?_)
 clear hK K K10 BF_10 MP_10 MD_10 MQ_10 B0_10 B1_10 B2_10 k11
 refine zK 12 (by kernel_rfl) rfl (fun K hK => ?_)
 go_simp
 refine (Mul_any b false T.j T.v7 _ f11).mono ?_
 rintro e w12 ⟨rfl, f12, k12⟩
 rw [T.h8] at f12 ⊢
 dsimp only at f12 ⊢
 have K12 : KeptL [b, kp, kd, kq] w w12 := KeptL.on K11 k12 (by simp)
 have MP_12 : Mp kp (cp + 1) (putM fp n n pz) w12 := MP_11.kept k12 (by omega)
 have MD_12 : Mp kd (cd + 1) (putM fd n n dz) w12 := MD_11.kept k12 (by omega)
 have MQ_12 : Mp kq cq fq w12 := MQ_11.kept k12 (by omega)
 have B0_12 := B0_11.kept k12 (zG y1_BF)
 have B1_12 := B1_11.kept k12 (zG y2_BF)
 have B2_12 := B2_11.kept k12 (zG y3_BF)
 have z12 := B2_12.lies
 clear zH
 refine hK.out _ _ ⟨B0_12, B1_12, B2_12, (NearM.same MQ_12)⟩ (fun zH => ?_)
 clear hK K K11 f11 MP_11 MD_11 MQ_11 B0_11 B1_11 B2_11 k12
 refine zK 13 (by kernel_rfl) rfl (fun K hK => ?_)
 refine mp_put (by rfl) rfl rfl rfl rfl MQ_12 (by omega) ⟨by omega, by omega⟩ ⟨by omega, by omega⟩ i3 ?_
 intro w13 MQ_13 k13
 have K13 : KeptL [b, kp, kd, kq] w w13 := KeptL.on K12 k13 (by simp)
 have BF_13 := f12.kept k13 (by omega)
 have MP_13 : Mp kp (cp + 1) (putM fp n n pz) w13 := MP_12.kept k13 (by omega)
 have MD_13 : Mp kd (cd + 1) (putM fd n n dz) w13 := MD_12.kept k13 (by omega)
 have B0_13 := B0_12.kept k13 (zG y1_MQ)
 have B1_13 := B1_12.kept k13 (zG y2_MQ)
 have B2_13 := B2_12.kept k13 (zG y3_MQ)
 have z13 := K13.size
 simp only [Act.put]
 clear zH
 refine hK.out _ _ ⟨B0_13, B1_13, B2_13, (NearM.upd MQ_13)⟩ (fun zH => ?_)
 clear hK K K12 MQ_12 f12 MP_12 MD_12 B0_12 B1_12 B2_12 k13
 refine wpAnyH_done (by kernel_rfl) ?_ _
 clear zH
 go_wp2
 go_end0
 exact ⟨rfl, BF_13, MP_13, MD_13, MQ_13, K13⟩
end Go.Proofs.YtbophanlmkbfeaaGreatDoor
namespace Go.Proofs.YtbophanlmkbfeaaGreatDoor
open Go.RowKit
theorem below_at (b kp kd kq k m : Nat) (c s : Int) (P D Q : Nat → Nat → Int) (Z : Tri c s P D Q) (w : World) (hw : Fl b false w) (hp : Mp kp (8 * k + m + 2) (triM P k m) w) (hd : Mp kd (8 * k + m + 2) (triM D k m) w) (hq : Mp kq (8 * k + m + 2) (triM Q k m) w) (d1 : b ≠ kp) (d2 : b ≠ kd) (d3 : b ≠ kq) (d4 : kp ≠ kd) (d5 : kp ≠ kq) (d6 : kd ≠ kq) (hk : k < 6) (hm : m < k + 1) :
    Calls Tryz.prog 212 #[.agg #[.map (some kp), .map (some kd), .map (some kq)], .pointer (some ⟨b, 0, none⟩), .int .i64 ((k : Int) + 1), .int .i64 (m : Int), .int .i64 c, .int .i64 s] w fun e w' => e = .returned (.tuple #[]) ∧ Fl b false w' ∧ Mp kp (8 * k + (m + 1) + 2) (triM P k (m + 1)) w' ∧ Mp kd (8 * k + (m + 1) + 2) (triM D k (m + 1)) w' ∧ Mp kq (8 * k + (m + 1) + 2) (triM Q k (m + 1)) w' ∧ KeptL [b, kp, kd, kq] w w' := by
 have T := Z.T k m hk hm
 have U := Z.U k m hk hm
 rw [← triM_last P hm, ← triM_last D hm, ← triM_other P, ← triM_other D] at T
 rw [← triM_last Q hm, ← triM_other Q] at U
 have ip := Z.ip (k + 1) m (by omega); have id := Z.id (k + 1) m (by omega); have iq := Z.iq (k + 1) m (by omega)
 by_cases h : (m : Int) > 0
 ·refine (below_pos b kp kd kq _ _ _ _ _ _ ((k : Int) + 1) m c s _ _ _ _ _ w hw hp hd hq d1 d2 d3 d4 d5 d6 (by omega) (by omega) (by omega) (by omega) (by omega) (by omega) (by omega) (Z.R k m hk hm) T ip id U iq h).mono ?_
  rintro e w' ⟨he, f, p, d, q, kp⟩
  exact ⟨he, f, (p.mono (by omega)).eqv (triM_put P hm), (d.mono (by omega)).eqv (triM_put D hm), (q.mono (by omega)).eqv (triM_put Q hm), kp⟩
 ·obtain rfl : m = 0 := by omega
  refine (below_zero b kp kd kq _ _ _ _ _ _ ((k : Int) + 1) ((0 : Nat) : Int) c s _ _ _ _ w hw hp hd hq d1 d2 d3 d4 d5 d6 (by omega) (by omega) (by omega) (by omega) (by omega) (Z.R k 0 hk hm) T ip id h).mono ?_
  rintro e w' ⟨he, f, p, d, q, kp⟩
  exact ⟨he, f, (p.mono (by omega)).eqv (triM_put P hm), (d.mono (by omega)).eqv (triM_put D hm), (q.mono (by omega)).eqv (triM_same Q k (Z.qz (k + 1) (by omega))), kp⟩
theorem even_at (b kp kd kq k : Nat) (c s : Int) (P D Q : Nat → Nat → Int) (Z : Tri c s P D Q) (w : World) (hw : Fl b false w) (hp : Mp kp (8 * k + (k + 1) + 2) (triM P k (k + 1)) w) (hd : Mp kd (8 * k + (k + 1) + 2) (triM D k (k + 1)) w) (hq : Mp kq (8 * k + (k + 1) + 2) (triM Q k (k + 1)) w) (d1 : b ≠ kp) (d2 : b ≠ kd) (d3 : b ≠ kq) (d4 : kp ≠ kd) (d5 : kp ≠ kq) (d6 : kd ≠ kq) (hk : k < 6) (h : (k : Int) + 1 > 1) :
    Calls Tryz.prog 213 #[.agg #[.map (some kp), .map (some kd), .map (some kq)], .pointer (some ⟨b, 0, none⟩), .int .i64 ((k : Int) + 1), .int .i64 c, .int .i64 s] w fun e w' => e = .returned (.tuple #[]) ∧ Fl b false w' ∧ Mp kp (8 * (k + 1) + 2) (triM P (k + 1) 0) w' ∧ Mp kd (8 * (k + 1) + 2) (triM D (k + 1) 0) w' ∧ Mp kq (8 * (k + 1) + 2) (triM Q (k + 1) 0) w' ∧ KeptL [b, kp, kd, kq] w w' := by
 have J := Z.J k (by omega) hk
 rw [← triM_even P, ← triM_even D, ← triM_even Q] at J
 have ip := Z.ip (k + 1) (k + 1) (by omega); have id := Z.id (k + 1) (k + 1) (by omega); have iq := Z.iq (k + 1) (k + 1) (by omega)
 refine (even_any b kp kd kq _ _ _ _ _ _ ((k : Int) + 1) c s _ _ _ w hw hp hd hq d1 d2 d3 d4 d5 d6 (by omega) (by omega) (by omega) (by omega) (by omega) J ip id iq).mono ?_
 rintro e w' ⟨he, f, p, d, q, kp⟩
 exact ⟨he, f, (p.mono (by omega)).eqv (triM_diag P k), (d.mono (by omega)).eqv (triM_diag D k), (q.mono (by omega)).eqv (triM_diag Q k), kp⟩
end Go.Proofs.YtbophanlmkbfeaaGreatDoor
