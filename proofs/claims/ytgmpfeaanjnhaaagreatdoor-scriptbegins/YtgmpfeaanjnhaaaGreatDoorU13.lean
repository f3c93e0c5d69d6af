/-
A part.
A part.
A part.
-/
import Derived.Handy
import Derived.Deep.RegionHeld3
import Derived.Test.YtgmpfeaanjnhaaaGreatDoorU11
import Derived.Test.YtgmpfeaanjnhaaaGreatDoorU09
namespace Go.Proofs.YtgmpfeaanjnhaaaGreatDoor
open Go.RowKit
set_option maxRecDepth 100000
set_option maxHeartbeats 20000000
theorem Zw(b kp kd kq cp cd cq:Nat)(fp fd fq:Int->Int->Int)(n m c s ga gb pz dz qz:Int)(w:World)(hw:Fl b false w)(hp:Mp kp cp fp w)(hd:Mp kd cd fd w)(hq:Mp kq cq fq w)(d1:b≠kp)(d2:b≠kd)(d3:b≠kq)(d4:kp≠kd)(d5:kp≠kq)(d6:kd≠kq)(l1:cp<900)(l2:cd<900)(l3:cq<900)(n1:1<=n)(n6:n<=6)(m0:0<=m)(mn:m<n)(R:WX n m ga gb)(T:Af0 c s gb ga (fp (n-1) m) (fd (n-1) m) (fp (n-2) m) (fd (n-2) m) pz dz)(i1:Cj pz)(i2:Cj dz)(U:Af1 c gb ga (fq (n-1) m) (fq (n-2) m) qz)(i3:Cj qz)(hm:m>0):
    Calls Tryz.prog 273 #[.agg #[.map (some kp),.map (some kd),.map (some kq)],.pointer (some ⟨b,0,none⟩),.int .i64 n,.int .i64 m,.int .i64 c,.int .i64 s] w fun e w'=>e=.returned (.tuple #[])/\Fl b false w'/\Mp kp (cp+1) (AO fp n m pz) w'/\Mp kd (cd+1) (AO fd n m dz) w'/\Mp kq (cq+1) (AO fq n m qz) w'/\Ah [b,kp,kd,kq] w w':=by
 have hl:=hw.lies
 have l_p:=hp.lies
 have l_d:=hd.lies
 have l_q:=hq.lies
 have hs6:mulS false s ((AO fp n m pz) (n-1) m)=(T.v6,false):=by rw[show AO fp n m pz (n-1) m=fp (n-1) m from if_neg (by omega)];exact T.h6
 go_enter Tryz.func273,Tryz.ntmps273
 have y1_BF:=hw.lies
 have y1_MP:=hp.lies
 have y1_MD:=hd.lies
 have y1_MQ:=hq.lies
 have y2_BF:b<w.heap.size+1:=(Nat.lt_succ_of_lt hw.lies)
 have y2_MP:kp<w.heap.size+1:=(Nat.lt_succ_of_lt hp.lies)
 have y2_MD:kd<w.heap.size+1:=(Nat.lt_succ_of_lt hd.lies)
 have y2_MQ:kq<w.heap.size+1:=(Nat.lt_succ_of_lt hq.lies)
 have y2_B0:w.heap.size<w.heap.size+1:=by omega
 have y3_BF:b<w.heap.size+1+1:=(Nat.lt_succ_of_lt (Nat.lt_succ_of_lt hw.lies))
 have y3_MP:kp<w.heap.size+1+1:=(Nat.lt_succ_of_lt (Nat.lt_succ_of_lt hp.lies))
 have y3_MD:kd<w.heap.size+1+1:=(Nat.lt_succ_of_lt (Nat.lt_succ_of_lt hd.lies))
 have y3_MQ:kq<w.heap.size+1+1:=(Nat.lt_succ_of_lt (Nat.lt_succ_of_lt hq.lies))
 have y3_B0:w.heap.size<w.heap.size+1+1:=by omega
 have y3_B1:w.heap.size+1<w.heap.size+1+1:=by omega
 have y4_BF:b<w.heap.size+1+1+1:=(Nat.lt_succ_of_lt (Nat.lt_succ_of_lt (Nat.lt_succ_of_lt hw.lies)))
 have y4_MP:kp<w.heap.size+1+1+1:=(Nat.lt_succ_of_lt (Nat.lt_succ_of_lt (Nat.lt_succ_of_lt hp.lies)))
 have y4_MD:kd<w.heap.size+1+1+1:=(Nat.lt_succ_of_lt (Nat.lt_succ_of_lt (Nat.lt_succ_of_lt hd.lies)))
 have y4_MQ:kq<w.heap.size+1+1+1:=(Nat.lt_succ_of_lt (Nat.lt_succ_of_lt (Nat.lt_succ_of_lt hq.lies)))
 have y4_B0:w.heap.size<w.heap.size+1+1+1:=by omega
 have y4_B1:w.heap.size+1<w.heap.size+1+1+1:=by omega
 have y4_B2:w.heap.size+1+1<w.heap.size+1+1+1:=by omega
 go_wp2_with fail
 refine(FA b false n m _ ((((hw.alloc _).alloc _).alloc _).alloc _) (by omega) (by omega) (by omega) (by omega)).mono ?_
 rintro e w1 ⟨rfl,f1,k1⟩
 rw[R.h1]at f1 ⊢
 dsimp only at f1 ⊢
 have K1:Ah [b,kp,kd,kq] w w1:=Ah.on (((((Ah.refl [b,kp,kd,kq] w).al _).al _).al _).al _) k1 (by simp)
 have MP_1:Mp kp cp fp w1:=((((hp.alloc _).alloc _).alloc _).alloc _).kept k1 (by omega)
 have MD_1:Mp kd cd fd w1:=((((hd.alloc _).alloc _).alloc _).alloc _).kept k1 (by omega)
 have MQ_1:Mp kq cq fq w1:=((((hq.alloc _).alloc _).alloc _).alloc _).kept k1 (by omega)
 have B0_1:=((((Am _ w.heap.size [.map (some kp),.map (some kd),.map (some kq)] _ (by simp)).alloc _).alloc _).alloc _).kept k1 (zG y1_BF)
 have B1_1:=(((Am _ (w.heap.size+1) [.int .i64 n,.int .i64 m] _ (by simp)).alloc _).alloc _).kept k1 (zG y2_BF)
 have B2_1:=((Am _ (w.heap.size+1+1) [.int .i64 (n-1),.int .i64 m] _ (by simp)).alloc _).kept k1 (zG y3_BF)
 have B3_1:=(Am _ (w.heap.size+1+1+1) [.int .i64 (n-2),.int .i64 m] _ (by simp)).kept k1 (zG y4_BF)
 have z1:=B3_1.lies
 clear hp hd hq k1
 go_wp2_with fail
 refine(FA b false (n-1) m _ f1 (by omega) (by omega) (by omega) (by omega)).mono ?_
 rintro e w2 ⟨rfl,f2,k2⟩
 rw[R.h2]at f2 ⊢
 dsimp only at f2 ⊢
 have K2:Ah [b,kp,kd,kq] w w2:=Ah.on K1 k2 (by simp)
 have MP_2:Mp kp cp fp w2:=MP_1.kept k2 (by omega)
 have MD_2:Mp kd cd fd w2:=MD_1.kept k2 (by omega)
 have MQ_2:Mp kq cq fq w2:=MQ_1.kept k2 (by omega)
 have B0_2:=B0_1.kept k2 (zG y1_BF)
 have B1_2:=B1_1.kept k2 (zG y2_BF)
 have B2_2:=B2_1.kept k2 (zG y3_BF)
 have B3_2:=B3_1.kept k2 (zG y4_BF)
 have z2:=B3_2.lies
 clear K1 f1 MP_1 MD_1 MQ_1 B0_1 B1_1 B2_1 B3_1 k2
 go_wp2_with fail
 refine(B8 b false R.k2 R.k1 _ f2).mono ?_
 rintro e w3 ⟨rfl,f3,k3⟩
 rw[R.h3]at f3 ⊢
 dsimp only at f3 ⊢
 have K3:Ah [b,kp,kd,kq] w w3:=Ah.on K2 k3 (by simp)
 have MP_3:Mp kp cp fp w3:=MP_2.kept k3 (by omega)
 have MD_3:Mp kd cd fd w3:=MD_2.kept k3 (by omega)
 have MQ_3:Mp kq cq fq w3:=MQ_2.kept k3 (by omega)
 have B0_3:=B0_2.kept k3 (zG y1_BF)
 have B1_3:=B1_2.kept k3 (zG y2_BF)
 have B2_3:=B2_2.kept k3 (zG y3_BF)
 have B3_3:=B3_2.kept k3 (zG y4_BF)
 have z3:=B3_3.lies
 clear K2 f2 MP_2 MD_2 MQ_2 B0_2 B1_2 B2_2 B3_2 k3
 go_wp2_with fail
 refine(Cl b false 1099511627776 ((2*n)-1) 1 _ f3).mono ?_
 rintro e w4 ⟨rfl,f4,k4⟩
 rw[R.h4]at f4 ⊢
 dsimp only at f4 ⊢
 have K4:Ah [b,kp,kd,kq] w w4:=Ah.on K3 k4 (by simp)
 have MP_4:Mp kp cp fp w4:=MP_3.kept k4 (by omega)
 have MD_4:Mp kd cd fd w4:=MD_3.kept k4 (by omega)
 have MQ_4:Mp kq cq fq w4:=MQ_3.kept k4 (by omega)
 have B0_4:=B0_3.kept k4 (zG y1_BF)
 have B1_4:=B1_3.kept k4 (zG y2_BF)
 have B2_4:=B2_3.kept k4 (zG y3_BF)
 have B3_4:=B3_3.kept k4 (zG y4_BF)
 have z4:=B3_4.lies
 clear K3 f3 MP_3 MD_3 MQ_3 B0_3 B1_3 B2_3 B3_3 k4
 go_wp2_with fail
 refine(B8 b false R.p R.k1 _ f4).mono ?_
 rintro e w5 ⟨rfl,f5,k5⟩
 rw[R.h5]at f5 ⊢
 dsimp only at f5 ⊢
 have K5:Ah [b,kp,kd,kq] w w5:=Ah.on K4 k5 (by simp)
 have MP_5:Mp kp cp fp w5:=MP_4.kept k5 (by omega)
 have MD_5:Mp kd cd fd w5:=MD_4.kept k5 (by omega)
 have MQ_5:Mp kq cq fq w5:=MQ_4.kept k5 (by omega)
 have B0_5:=B0_4.kept k5 (zG y1_BF)
 have B1_5:=B1_4.kept k5 (zG y2_BF)
 have B2_5:=B2_4.kept k5 (zG y3_BF)
 have B3_5:=B3_4.kept k5 (zG y4_BF)
 have z5:=B3_5.lies
 clear K4 f4 MP_4 MD_4 MQ_4 B0_4 B1_4 B2_4 B3_4 k5
 go_wp2_with fail
 refine wp_region_held_drew (S:=fun w'=>Ap w.heap.size [.map (some kp),.map (some kd),.map (some kq)] w'/\Ap (w.heap.size+1) [.int .i64 n,.int .i64 m] w'/\Ap (w.heap.size+1+1) [.int .i64 (n-1),.int .i64 m] w'/\AM kp fp n m w'/\Ap (w.heap.size+1+1+1) [.int .i64 (n-2),.int .i64 m] w') (by kernel_rfl) ⟨B0_5.drew,B1_5.drew,B2_5.drew,(AM.same MP_5.drew),B3_5.drew⟩ (fun zH=>?_)
 refine zT 0 rfl (by kernel_rfl) (fun _ _ _=>id) rfl (fun _ _=>by go_simp<;>with_reducible rfl) zH ?_
 simp only[Act.put,zA,zB,zC]
 refine zT 1 rfl (by kernel_rfl) (fun _ _ _=>id) rfl (fun wx hS=>by have hc0:wx.cell? ⟨w.heap.size,0,none⟩=some (.map (some kp)):=hS.1.c 0 (zD rfl);go_simp<;>with_reducible rfl) zH ?_
 simp only[Act.put,zA,zB,zC]
 refine zT 2 rfl (by kernel_rfl) (fun _ _ _=>id) rfl (fun wx hS=>by have hc0:wx.cell? ⟨w.heap.size+1,0,none⟩=some (.int .i64 n):=hS.2.1.c 0 (zD rfl);have hc1:wx.cell? ⟨w.heap.size+1,1,none⟩=some (.int .i64 m):=hS.2.1.c 1 (zD rfl);go_simp<;>with_reducible rfl) zH ?_
 simp only[Act.put,zA,zB,zC]
 refine zT 3 rfl (by kernel_rfl) (fun _ _ _=>id) rfl (fun _ _=>by go_simp<;>with_reducible rfl) zH ?_
 simp only[Act.put,zA,zB,zC]
 refine zT 4 rfl (by kernel_rfl) (fun _ _ _=>id) rfl (fun _ _=>by go_simp<;>with_reducible rfl) zH ?_
 simp only[Act.put,zA,zB,zC]
 refine zT 5 rfl (by kernel_rfl) (fun _ _ _=>id) rfl (fun _ _=>by go_simp<;>with_reducible rfl) zH ?_
 simp only[Act.put,zA,zB,zC]
 refine zT 6 rfl (by kernel_rfl) (fun _ _ _=>id) rfl (fun _ _=>by go_simp<;>with_reducible rfl) zH ?_
 simp only[Act.put,zA,zB,zC]
 refine zT 7 rfl (by kernel_rfl) (fun _ _ _=>id) rfl (fun _ _=>by go_simp<;>with_reducible rfl) zH ?_
 simp only[Act.put,zA,zB,zC]
 refine zT 8 rfl (by kernel_rfl) (fun _ _ _=>id) rfl (fun _ _=>by go_simp<;>with_reducible rfl) zH ?_
 simp only[Act.put,zA,zB,zC]
 refine zT 9 rfl (by kernel_rfl) (fun _ _ _=>id) rfl (fun wx hS=>by have hc0:wx.cell? ⟨w.heap.size,0,none⟩=some (.map (some kp)):=hS.1.c 0 (zD rfl);go_simp<;>with_reducible rfl) zH ?_
 simp only[Act.put,zA,zB,zC]
 refine zT 10 rfl (by kernel_rfl) (fun _ _ _=>id) rfl (fun wx hS=>by have hc0:wx.cell? ⟨w.heap.size+1+1,0,none⟩=some (.int .i64 (n-1)):=hS.2.2.1.c 0 (zD rfl);have hc1:wx.cell? ⟨w.heap.size+1+1,1,none⟩=some (.int .i64 m):=hS.2.2.1.c 1 (zD rfl);go_simp<;>with_reducible rfl) zH ?_
 simp only[Act.put,zA,zB,zC]
 refine Bw (i:=11) rfl (by kernel_rfl) (by kernel_rfl) (by kernel_rfl) (fun _ _ _ h=>h) (AX (by rfl) rfl rfl rfl (fun _ hS=>hS.2.2.2.1) ⟨by omega,by omega⟩ ⟨by omega,by omega⟩ (by omega)) zH ?_
 simp only[Act.put,zA,zB,zC]
 refine zT 14 rfl (by kernel_rfl) (fun _ _ _=>id) rfl (fun _ _=>by go_simp<;>with_reducible rfl) zH ?_
 simp only[Act.put,zA,zB,zC]
 refine zT 15 rfl (by kernel_rfl) (fun _ _ _=>id) rfl (fun _ _=>by go_simp<;>with_reducible rfl) zH ?_
 simp only[Act.put,zA,zB,zC]
 refine zT 16 rfl (by kernel_rfl) (fun _ _ _=>id) rfl (fun _ _=>by go_simp<;>with_reducible rfl) zH ?_
 simp only[Act.put,zA,zB,zC]
 refine zT 17 rfl (by kernel_rfl) (fun _ _ _=>id) rfl (fun wx hS=>by have hc0:wx.cell? ⟨w.heap.size,0,none⟩=some (.map (some kp)):=hS.1.c 0 (zD rfl);go_simp<;>with_reducible rfl) zH ?_
 simp only[Act.put,zA,zB,zC]
 refine zT 18 rfl (by kernel_rfl) (fun _ _ _=>id) rfl (fun wx hS=>by have hc0:wx.cell? ⟨w.heap.size+1+1+1,0,none⟩=some (.int .i64 (n-2)):=hS.2.2.2.2.c 0 (zD rfl);have hc1:wx.cell? ⟨w.heap.size+1+1+1,1,none⟩=some (.int .i64 m):=hS.2.2.2.2.c 1 (zD rfl);go_simp<;>with_reducible rfl) zH ?_
 simp only[Act.put,zA,zB,zC]
 refine Bw (i:=19) rfl (by kernel_rfl) (by kernel_rfl) (by kernel_rfl) (fun _ _ _ h=>h) (AX (by rfl) rfl rfl rfl (fun _ hS=>hS.2.2.2.1) ⟨by omega,by omega⟩ ⟨by omega,by omega⟩ (by omega)) zH ?_
 simp only[Act.put,zA,zB,zC]
 refine zK 12 (by kernel_rfl) rfl (fun K hK=>?_)
 go_simp
 refine(Ak b false c (fp (n-1) m) _ f5.drew).mono ?_
 rintro e w6 ⟨rfl,f6,k6⟩
 rw[T.h1]at f6 ⊢
 dsimp only at f6 ⊢
 have K6:Ah [b,kp,kd,kq] w w6:=Ah.on K5.drew k6 (by simp)
 have MP_6:Mp kp cp fp w6:=MP_5.drew.kept k6 (by omega)
 have MD_6:Mp kd cd fd w6:=MD_5.drew.kept k6 (by omega)
 have MQ_6:Mp kq cq fq w6:=MQ_5.drew.kept k6 (by omega)
 have B0_6:=B0_5.drew.kept k6 (zG y1_BF)
 have B1_6:=B1_5.drew.kept k6 (zG y2_BF)
 have B2_6:=B2_5.drew.kept k6 (zG y3_BF)
 have B3_6:=B3_5.drew.kept k6 (zG y4_BF)
 have z6:=B3_6.lies
 clear zH
 refine hK.out _ _ ⟨B0_6,B1_6,B2_6,(AM.same MP_6),B3_6⟩ (fun zH=>?_)
 clear hK K K5 f5 MP_5 MD_5 MQ_5 B0_5 B1_5 B2_5 B3_5 k6
 refine zK 13 (by kernel_rfl) rfl (fun K hK=>?_)
 go_simp
 refine(Ak b false gb T.v1 _ f6).mono ?_
 rintro e w7 ⟨rfl,f7,k7⟩
 rw[T.h2]at f7 ⊢
 dsimp only at f7 ⊢
 have K7:Ah [b,kp,kd,kq] w w7:=Ah.on K6 k7 (by simp)
 have MP_7:Mp kp cp fp w7:=MP_6.kept k7 (by omega)
 have MD_7:Mp kd cd fd w7:=MD_6.kept k7 (by omega)
 have MQ_7:Mp kq cq fq w7:=MQ_6.kept k7 (by omega)
 have B0_7:=B0_6.kept k7 (zG y1_BF)
 have B1_7:=B1_6.kept k7 (zG y2_BF)
 have B2_7:=B2_6.kept k7 (zG y3_BF)
 have B3_7:=B3_6.kept k7 (zG y4_BF)
 have z7:=B3_7.lies
 clear zH
 refine hK.out _ _ ⟨B0_7,B1_7,B2_7,(AM.same MP_7),B3_7⟩ (fun zH=>?_)
 clear hK K K6 f6 MP_6 MD_6 MQ_6 B0_6 B1_6 B2_6 B3_6 k7
 refine zK 20 (by kernel_rfl) rfl (fun K hK=>?_)
 go_simp
 refine(Ak b false ga (fp (n-2) m) _ f7).mono ?_
 rintro e w8 ⟨rfl,f8,k8⟩
 rw[T.h3]at f8 ⊢
 dsimp only at f8 ⊢
 have K8:Ah [b,kp,kd,kq] w w8:=Ah.on K7 k8 (by simp)
 have MP_8:Mp kp cp fp w8:=MP_7.kept k8 (by omega)
 have MD_8:Mp kd cd fd w8:=MD_7.kept k8 (by omega)
 have MQ_8:Mp kq cq fq w8:=MQ_7.kept k8 (by omega)
 have B0_8:=B0_7.kept k8 (zG y1_BF)
 have B1_8:=B1_7.kept k8 (zG y2_BF)
 have B2_8:=B2_7.kept k8 (zG y3_BF)
 have B3_8:=B3_7.kept k8 (zG y4_BF)
 have z8:=B3_8.lies
 clear zH
 refine hK.out _ _ ⟨B0_8,B1_8,B2_8,(AM.same MP_8),B3_8⟩ (fun zH=>?_)
 clear hK K K7 f7 MP_7 MD_7 MQ_7 B0_7 B1_7 B2_7 B3_7 k8
 refine zK 21 (by kernel_rfl) rfl (fun K hK=>?_)
 go_simp
 refine(BH b false T.v2 T.v3 _ f8).mono ?_
 rintro e w9 ⟨rfl,f9,k9⟩
 rw[T.h4]at f9 ⊢
 dsimp only at f9 ⊢
 have K9:Ah [b,kp,kd,kq] w w9:=Ah.on K8 k9 (by simp)
 have MP_9:Mp kp cp fp w9:=MP_8.kept k9 (by omega)
 have MD_9:Mp kd cd fd w9:=MD_8.kept k9 (by omega)
 have MQ_9:Mp kq cq fq w9:=MQ_8.kept k9 (by omega)
 have B0_9:=B0_8.kept k9 (zG y1_BF)
 have B1_9:=B1_8.kept k9 (zG y2_BF)
 have B2_9:=B2_8.kept k9 (zG y3_BF)
 have B3_9:=B3_8.kept k9 (zG y4_BF)
 have z9:=B3_9.lies
 clear zH
 refine hK.out _ _ ⟨B0_9,B1_9,B2_9,(AM.same MP_9),B3_9⟩ (fun zH=>?_)
 clear hK K K8 f8 MP_8 MD_8 MQ_8 B0_8 B1_8 B2_8 B3_8 k9
 refine zK 22 (by kernel_rfl) rfl (fun K hK=>?_)
 refine Ge (by rfl) rfl rfl rfl rfl MP_9 (by omega) ⟨by omega,by omega⟩ ⟨by omega,by omega⟩ i1 ?_
 intro w10 MP_10 k10
 have K10:Ah [b,kp,kd,kq] w w10:=Ah.on K9 k10 (by simp)
 have BF_10:=f9.kept k10 (by omega)
 have MD_10:Mp kd cd fd w10:=MD_9.kept k10 (by omega)
 have MQ_10:Mp kq cq fq w10:=MQ_9.kept k10 (by omega)
 have B0_10:=B0_9.kept k10 (zG y1_MP)
 have B1_10:=B1_9.kept k10 (zG y2_MP)
 have B2_10:=B2_9.kept k10 (zG y3_MP)
 have B3_10:=B3_9.kept k10 (zG y4_MP)
 have z10:=K10.size
 simp only[Act.put]
 clear zH
 refine hK.out _ _ ⟨B0_10,B1_10,B2_10,(AM.upd MP_10),B3_10⟩ (fun zH=>?_)
 clear hK K K9 MP_9 f9 MD_9 MQ_9 B0_9 B1_9 B2_9 B3_9 k10
 refine wpAnyH_done (by kernel_rfl) ?_ _
 clear zH
 go_wp2_with fail
 refine wp_region_held_drew (S:=fun w'=>Ap w.heap.size [.map (some kp),.map (some kd),.map (some kq)] w'/\Ap (w.heap.size+1+1) [.int .i64 (n-1),.int .i64 m] w'/\Mp kd cd fd w'/\Mp kp (cp+1) (AO fp n m pz) w') (by kernel_rfl) ⟨B0_10.drew,B2_10.drew,MD_10.drew,MP_10.drew⟩ (fun zH=>?_)
 refine zT 0 rfl (by kernel_rfl) (fun _ _ _=>id) rfl (fun _ _=>by go_simp<;>with_reducible rfl) zH ?_
 simp only[Act.put,zA,zB,zC]
 refine zT 1 rfl (by kernel_rfl) (fun _ _ _=>id) rfl (fun _ _=>by go_simp<;>with_reducible rfl) zH ?_
 simp only[Act.put,zA,zB,zC]
 refine zT 2 rfl (by kernel_rfl) (fun _ _ _=>id) rfl (fun _ _=>by go_simp<;>with_reducible rfl) zH ?_
 simp only[Act.put,zA,zB,zC]
 refine zT 3 rfl (by kernel_rfl) (fun _ _ _=>id) rfl (fun _ _=>by go_simp<;>with_reducible rfl) zH ?_
 simp only[Act.put,zA,zB,zC]
 refine zT 4 rfl (by kernel_rfl) (fun _ _ _=>id) rfl (fun wx hS=>by have hc1:wx.cell? ⟨w.heap.size,1,none⟩=some (.map (some kd)):=hS.1.c 1 (zD rfl);go_simp<;>with_reducible rfl) zH ?_
 simp only[Act.put,zA,zB,zC]
 refine zT 5 rfl (by kernel_rfl) (fun _ _ _=>id) rfl (fun wx hS=>by have hc0:wx.cell? ⟨w.heap.size+1+1,0,none⟩=some (.int .i64 (n-1)):=hS.2.1.c 0 (zD rfl);have hc1:wx.cell? ⟨w.heap.size+1+1,1,none⟩=some (.int .i64 m):=hS.2.1.c 1 (zD rfl);go_simp<;>with_reducible rfl) zH ?_
 simp only[Act.put,zA,zB,zC]
 refine Bw (i:=6) rfl (by kernel_rfl) (by kernel_rfl) (by kernel_rfl) (fun _ _ _ h=>h) (Gd (by rfl) rfl rfl rfl (fun _ hS=>hS.2.2.1) ⟨by omega,by omega⟩ ⟨by omega,by omega⟩) zH ?_
 simp only[Act.put,zA,zB,zC]
 refine zT 8 rfl (by kernel_rfl) (fun _ _ _=>id) rfl (fun _ _=>by go_simp<;>with_reducible rfl) zH ?_
 simp only[Act.put,zA,zB,zC]
 refine zT 9 rfl (by kernel_rfl) (fun _ _ _=>id) rfl (fun _ _=>by go_simp<;>with_reducible rfl) zH ?_
 simp only[Act.put,zA,zB,zC]
 refine zT 10 rfl (by kernel_rfl) (fun _ _ _=>id) rfl (fun _ _=>by go_simp<;>with_reducible rfl) zH ?_
 simp only[Act.put,zA,zB,zC]
 refine zT 11 rfl (by kernel_rfl) (fun _ _ _=>id) rfl (fun wx hS=>by have hc0:wx.cell? ⟨w.heap.size,0,none⟩=some (.map (some kp)):=hS.1.c 0 (zD rfl);go_simp<;>with_reducible rfl) zH ?_
 simp only[Act.put,zA,zB,zC]
 refine zT 12 rfl (by kernel_rfl) (fun _ _ _=>id) rfl (fun wx hS=>by have hc0:wx.cell? ⟨w.heap.size+1+1,0,none⟩=some (.int .i64 (n-1)):=hS.2.1.c 0 (zD rfl);have hc1:wx.cell? ⟨w.heap.size+1+1,1,none⟩=some (.int .i64 m):=hS.2.1.c 1 (zD rfl);go_simp<;>with_reducible rfl) zH ?_
 simp only[Act.put,zA,zB,zC]
 refine Bw (i:=13) rfl (by kernel_rfl) (by kernel_rfl) (by kernel_rfl) (fun _ _ _ h=>h) (Gd (by rfl) rfl rfl rfl (fun _ hS=>hS.2.2.2) ⟨by omega,by omega⟩ ⟨by omega,by omega⟩) zH ?_
 simp only[Act.put,zA,zB,zC]
 refine zK 7 (by kernel_rfl) rfl (fun K hK=>?_)
 go_simp
 refine(Ak b false c (fd (n-1) m) _ BF_10.drew).mono ?_
 rintro e w11 ⟨rfl,f11,k11⟩
 rw[T.h5]at f11 ⊢
 dsimp only at f11 ⊢
 have K11:Ah [b,kp,kd,kq] w w11:=Ah.on K10.drew k11 (by simp)
 have MP_11:Mp kp (cp+1) (AO fp n m pz) w11:=MP_10.drew.kept k11 (by omega)
 have MD_11:Mp kd cd fd w11:=MD_10.drew.kept k11 (by omega)
 have MQ_11:Mp kq cq fq w11:=MQ_10.drew.kept k11 (by omega)
 have B0_11:=B0_10.drew.kept k11 (zG y1_BF)
 have B1_11:=B1_10.drew.kept k11 (zG y2_BF)
 have B2_11:=B2_10.drew.kept k11 (zG y3_BF)
 have B3_11:=B3_10.drew.kept k11 (zG y4_BF)
 have z11:=B3_11.lies
 clear zH
 refine hK.out _ _ ⟨B0_11,B2_11,MD_11,MP_11⟩ (fun zH=>?_)
 clear hK K K10 BF_10 MP_10 MD_10 MQ_10 B0_10 B1_10 B2_10 B3_10 k11
 refine zK 14 (by kernel_rfl) rfl (fun K hK=>?_)
 go_simp
 refine(Ak b false s ((AO fp n m pz) (n-1) m) _ f11).mono ?_
 rintro e w12 ⟨rfl,f12,k12⟩
 rw[hs6]at f12 ⊢
 dsimp only at f12 ⊢
 have K12:Ah [b,kp,kd,kq] w w12:=Ah.on K11 k12 (by simp)
 have MP_12:Mp kp (cp+1) (AO fp n m pz) w12:=MP_11.kept k12 (by omega)
 have MD_12:Mp kd cd fd w12:=MD_11.kept k12 (by omega)
 have MQ_12:Mp kq cq fq w12:=MQ_11.kept k12 (by omega)
 have B0_12:=B0_11.kept k12 (zG y1_BF)
 have B1_12:=B1_11.kept k12 (zG y2_BF)
 have B2_12:=B2_11.kept k12 (zG y3_BF)
 have B3_12:=B3_11.kept k12 (zG y4_BF)
 have z12:=B3_12.lies
 clear zH
 refine hK.out _ _ ⟨B0_12,B2_12,MD_12,MP_12⟩ (fun zH=>?_)
 clear hK K K11 f11 MP_11 MD_11 MQ_11 B0_11 B1_11 B2_11 B3_11 k12
 refine zK 15 (by kernel_rfl) rfl (fun K hK=>?_)
 go_simp
 refine(BH b false T.v5 T.v6 _ f12).mono ?_
 rintro e w13 ⟨rfl,f13,k13⟩
 rw[T.h7]at f13 ⊢
 dsimp only at f13 ⊢
 have K13:Ah [b,kp,kd,kq] w w13:=Ah.on K12 k13 (by simp)
 have MP_13:Mp kp (cp+1) (AO fp n m pz) w13:=MP_12.kept k13 (by omega)
 have MD_13:Mp kd cd fd w13:=MD_12.kept k13 (by omega)
 have MQ_13:Mp kq cq fq w13:=MQ_12.kept k13 (by omega)
 have B0_13:=B0_12.kept k13 (zG y1_BF)
 have B1_13:=B1_12.kept k13 (zG y2_BF)
 have B2_13:=B2_12.kept k13 (zG y3_BF)
 have B3_13:=B3_12.kept k13 (zG y4_BF)
 have z13:=B3_13.lies
 clear zH
 refine hK.out _ _ ⟨B0_13,B2_13,MD_13,MP_13⟩ (fun zH=>?_)
 clear hK K K12 f12 MP_12 MD_12 MQ_12 B0_12 B1_12 B2_12 B3_12 k13
 refine zT 16 rfl (by kernel_rfl) (fun _ _ _=>id) rfl (fun _ _=>by go_simp<;>with_reducible rfl) zH ?_
 simp only[Act.put,zA,zB,zC]
 refine wpAnyH_done (by kernel_rfl) ?_ _
 clear zH
 go_wp2_with fail
 refine wp_region_held_drew (S:=fun w'=>Ap w.heap.size [.map (some kp),.map (some kd),.map (some kq)] w'/\Ap (w.heap.size+1) [.int .i64 n,.int .i64 m] w'/\Ap (w.heap.size+1+1+1) [.int .i64 (n-2),.int .i64 m] w'/\AM kd fd n m w') (by kernel_rfl) ⟨B0_13.drew,B1_13.drew,B3_13.drew,(AM.same MD_13.drew)⟩ (fun zH=>?_)
 refine zT 0 rfl (by kernel_rfl) (fun _ _ _=>id) rfl (fun _ _=>by go_simp<;>with_reducible rfl) zH ?_
 simp only[Act.put,zA,zB,zC]
 refine zT 1 rfl (by kernel_rfl) (fun _ _ _=>id) rfl (fun wx hS=>by have hc1:wx.cell? ⟨w.heap.size,1,none⟩=some (.map (some kd)):=hS.1.c 1 (zD rfl);go_simp<;>with_reducible rfl) zH ?_
 simp only[Act.put,zA,zB,zC]
 refine zT 2 rfl (by kernel_rfl) (fun _ _ _=>id) rfl (fun wx hS=>by have hc0:wx.cell? ⟨w.heap.size+1,0,none⟩=some (.int .i64 n):=hS.2.1.c 0 (zD rfl);have hc1:wx.cell? ⟨w.heap.size+1,1,none⟩=some (.int .i64 m):=hS.2.1.c 1 (zD rfl);go_simp<;>with_reducible rfl) zH ?_
 simp only[Act.put,zA,zB,zC]
 refine zT 3 rfl (by kernel_rfl) (fun _ _ _=>id) rfl (fun _ _=>by go_simp<;>with_reducible rfl) zH ?_
 simp only[Act.put,zA,zB,zC]
 refine zT 4 rfl (by kernel_rfl) (fun _ _ _=>id) rfl (fun _ _=>by go_simp<;>with_reducible rfl) zH ?_
 simp only[Act.put,zA,zB,zC]
 refine zT 5 rfl (by kernel_rfl) (fun _ _ _=>id) rfl (fun _ _=>by go_simp<;>with_reducible rfl) zH ?_
 simp only[Act.put,zA,zB,zC]
 refine zT 6 rfl (by kernel_rfl) (fun _ _ _=>id) rfl (fun _ _=>by go_simp<;>with_reducible rfl) zH ?_
 simp only[Act.put,zA,zB,zC]
 refine zT 8 rfl (by kernel_rfl) (fun _ _ _=>id) rfl (fun _ _=>by go_simp<;>with_reducible rfl) zH ?_
 simp only[Act.put,zA,zB,zC]
 refine zT 9 rfl (by kernel_rfl) (fun _ _ _=>id) rfl (fun _ _=>by go_simp<;>with_reducible rfl) zH ?_
 simp only[Act.put,zA,zB,zC]
 refine zT 10 rfl (by kernel_rfl) (fun _ _ _=>id) rfl (fun _ _=>by go_simp<;>with_reducible rfl) zH ?_
 simp only[Act.put,zA,zB,zC]
 refine zT 11 rfl (by kernel_rfl) (fun _ _ _=>id) rfl (fun wx hS=>by have hc1:wx.cell? ⟨w.heap.size,1,none⟩=some (.map (some kd)):=hS.1.c 1 (zD rfl);go_simp<;>with_reducible rfl) zH ?_
 simp only[Act.put,zA,zB,zC]
 refine zT 12 rfl (by kernel_rfl) (fun _ _ _=>id) rfl (fun wx hS=>by have hc0:wx.cell? ⟨w.heap.size+1+1+1,0,none⟩=some (.int .i64 (n-2)):=hS.2.2.1.c 0 (zD rfl);have hc1:wx.cell? ⟨w.heap.size+1+1+1,1,none⟩=some (.int .i64 m):=hS.2.2.1.c 1 (zD rfl);go_simp<;>with_reducible rfl) zH ?_
 simp only[Act.put,zA,zB,zC]
 refine Bw (i:=13) rfl (by kernel_rfl) (by kernel_rfl) (by kernel_rfl) (fun _ _ _ h=>h) (AX (by rfl) rfl rfl rfl (fun _ hS=>hS.2.2.2) ⟨by omega,by omega⟩ ⟨by omega,by omega⟩ (by omega)) zH ?_
 simp only[Act.put,zA,zB,zC]
 refine zK 7 (by kernel_rfl) rfl (fun K hK=>?_)
 go_simp
 refine(Ak b false gb T.v7 _ f13.drew).mono ?_
 rintro e w14 ⟨rfl,f14,k14⟩
 rw[T.h8]at f14 ⊢
 dsimp only at f14 ⊢
 have K14:Ah [b,kp,kd,kq] w w14:=Ah.on K13.drew k14 (by simp)
 have MP_14:Mp kp (cp+1) (AO fp n m pz) w14:=MP_13.drew.kept k14 (by omega)
 have MD_14:Mp kd cd fd w14:=MD_13.drew.kept k14 (by omega)
 have MQ_14:Mp kq cq fq w14:=MQ_13.drew.kept k14 (by omega)
 have B0_14:=B0_13.drew.kept k14 (zG y1_BF)
 have B1_14:=B1_13.drew.kept k14 (zG y2_BF)
 have B2_14:=B2_13.drew.kept k14 (zG y3_BF)
 have B3_14:=B3_13.drew.kept k14 (zG y4_BF)
 have z14:=B3_14.lies
 clear zH
 refine hK.out _ _ ⟨B0_14,B1_14,B3_14,(AM.same MD_14)⟩ (fun zH=>?_)
 clear hK K K13 f13 MP_13 MD_13 MQ_13 B0_13 B1_13 B2_13 B3_13 k14
 refine zK 14 (by kernel_rfl) rfl (fun K hK=>?_)
 go_simp
 refine(Ak b false ga (fd (n-2) m) _ f14).mono ?_
 rintro e w15 ⟨rfl,f15,k15⟩
 rw[T.h9]at f15 ⊢
 dsimp only at f15 ⊢
 have K15:Ah [b,kp,kd,kq] w w15:=Ah.on K14 k15 (by simp)
 have MP_15:Mp kp (cp+1) (AO fp n m pz) w15:=MP_14.kept k15 (by omega)
 have MD_15:Mp kd cd fd w15:=MD_14.kept k15 (by omega)
 have MQ_15:Mp kq cq fq w15:=MQ_14.kept k15 (by omega)
 have B0_15:=B0_14.kept k15 (zG y1_BF)
 have B1_15:=B1_14.kept k15 (zG y2_BF)
 have B2_15:=B2_14.kept k15 (zG y3_BF)
 have B3_15:=B3_14.kept k15 (zG y4_BF)
 have z15:=B3_15.lies
 clear zH
 refine hK.out _ _ ⟨B0_15,B1_15,B3_15,(AM.same MD_15)⟩ (fun zH=>?_)
 clear hK K K14 f14 MP_14 MD_14 MQ_14 B0_14 B1_14 B2_14 B3_14 k15
 refine zK 15 (by kernel_rfl) rfl (fun K hK=>?_)
 go_simp
 refine(BH b false T.v8 T.v9 _ f15).mono ?_
 rintro e w16 ⟨rfl,f16,k16⟩
 rw[T.h10]at f16 ⊢
 dsimp only at f16 ⊢
 have K16:Ah [b,kp,kd,kq] w w16:=Ah.on K15 k16 (by simp)
 have MP_16:Mp kp (cp+1) (AO fp n m pz) w16:=MP_15.kept k16 (by omega)
 have MD_16:Mp kd cd fd w16:=MD_15.kept k16 (by omega)
 have MQ_16:Mp kq cq fq w16:=MQ_15.kept k16 (by omega)
 have B0_16:=B0_15.kept k16 (zG y1_BF)
 have B1_16:=B1_15.kept k16 (zG y2_BF)
 have B2_16:=B2_15.kept k16 (zG y3_BF)
 have B3_16:=B3_15.kept k16 (zG y4_BF)
 have z16:=B3_16.lies
 clear zH
 refine hK.out _ _ ⟨B0_16,B1_16,B3_16,(AM.same MD_16)⟩ (fun zH=>?_)
 clear hK K K15 f15 MP_15 MD_15 MQ_15 B0_15 B1_15 B2_15 B3_15 k16
 refine zK 16 (by kernel_rfl) rfl (fun K hK=>?_)
 refine Ge (by rfl) rfl rfl rfl rfl MD_16 (by omega) ⟨by omega,by omega⟩ ⟨by omega,by omega⟩ i2 ?_
 intro w17 MD_17 k17
 have K17:Ah [b,kp,kd,kq] w w17:=Ah.on K16 k17 (by simp)
 have BF_17:=f16.kept k17 (by omega)
 have MP_17:Mp kp (cp+1) (AO fp n m pz) w17:=MP_16.kept k17 (by omega)
 have MQ_17:Mp kq cq fq w17:=MQ_16.kept k17 (by omega)
 have B0_17:=B0_16.kept k17 (zG y1_MD)
 have B1_17:=B1_16.kept k17 (zG y2_MD)
 have B2_17:=B2_16.kept k17 (zG y3_MD)
 have B3_17:=B3_16.kept k17 (zG y4_MD)
 have z17:=K17.size
 simp only[Act.put]
 clear zH
 refine hK.out _ _ ⟨B0_17,B1_17,B3_17,(AM.upd MD_17)⟩ (fun zH=>?_)
 clear hK K K16 MD_16 f16 MP_16 MQ_16 B0_16 B1_16 B2_16 B3_16 k17
 refine wpAnyH_done (by kernel_rfl) ?_ _
 clear zH
 go_wp2_with fail
 refine wp_region_held_drew (S:=fun w'=>Ap w.heap.size [.map (some kp),.map (some kd),.map (some kq)] w'/\Ap (w.heap.size+1) [.int .i64 n,.int .i64 m] w'/\Ap (w.heap.size+1+1) [.int .i64 (n-1),.int .i64 m] w'/\AM kq fq n m w'/\Ap (w.heap.size+1+1+1) [.int .i64 (n-2),.int .i64 m] w') (by kernel_rfl) ⟨B0_17.drew,B1_17.drew,B2_17.drew,(AM.same MQ_17.drew),B3_17.drew⟩ (fun zH=>?_)
 refine zT 0 rfl (by kernel_rfl) (fun _ _ _=>id) rfl (fun _ _=>by go_simp<;>with_reducible rfl) zH ?_
 simp only[Act.put,zA,zB,zC]
 refine zT 1 rfl (by kernel_rfl) (fun _ _ _=>id) rfl (fun wx hS=>by have hc2:wx.cell? ⟨w.heap.size,2,none⟩=some (.map (some kq)):=hS.1.c 2 (zD rfl);go_simp<;>with_reducible rfl) zH ?_
 simp only[Act.put,zA,zB,zC]
 refine zT 2 rfl (by kernel_rfl) (fun _ _ _=>id) rfl (fun wx hS=>by have hc0:wx.cell? ⟨w.heap.size+1,0,none⟩=some (.int .i64 n):=hS.2.1.c 0 (zD rfl);have hc1:wx.cell? ⟨w.heap.size+1,1,none⟩=some (.int .i64 m):=hS.2.1.c 1 (zD rfl);go_simp<;>with_reducible rfl) zH ?_
 simp only[Act.put,zA,zB,zC]
 refine zT 3 rfl (by kernel_rfl) (fun _ _ _=>id) rfl (fun _ _=>by go_simp<;>with_reducible rfl) zH ?_
 simp only[Act.put,zA,zB,zC]
 refine zT 4 rfl (by kernel_rfl) (fun _ _ _=>id) rfl (fun _ _=>by go_simp<;>with_reducible rfl) zH ?_
 simp only[Act.put,zA,zB,zC]
 refine zT 5 rfl (by kernel_rfl) (fun _ _ _=>id) rfl (fun _ _=>by go_simp<;>with_reducible rfl) zH ?_
 simp only[Act.put,zA,zB,zC]
 refine zT 6 rfl (by kernel_rfl) (fun _ _ _=>id) rfl (fun _ _=>by go_simp<;>with_reducible rfl) zH ?_
 simp only[Act.put,zA,zB,zC]
 refine zT 7 rfl (by kernel_rfl) (fun _ _ _=>id) rfl (fun _ _=>by go_simp<;>with_reducible rfl) zH ?_
 simp only[Act.put,zA,zB,zC]
 refine zT 8 rfl (by kernel_rfl) (fun _ _ _=>id) rfl (fun _ _=>by go_simp<;>with_reducible rfl) zH ?_
 simp only[Act.put,zA,zB,zC]
 refine zT 9 rfl (by kernel_rfl) (fun _ _ _=>id) rfl (fun wx hS=>by have hc2:wx.cell? ⟨w.heap.size,2,none⟩=some (.map (some kq)):=hS.1.c 2 (zD rfl);go_simp<;>with_reducible rfl) zH ?_
 simp only[Act.put,zA,zB,zC]
 refine zT 10 rfl (by kernel_rfl) (fun _ _ _=>id) rfl (fun wx hS=>by have hc0:wx.cell? ⟨w.heap.size+1+1,0,none⟩=some (.int .i64 (n-1)):=hS.2.2.1.c 0 (zD rfl);have hc1:wx.cell? ⟨w.heap.size+1+1,1,none⟩=some (.int .i64 m):=hS.2.2.1.c 1 (zD rfl);go_simp<;>with_reducible rfl) zH ?_
 simp only[Act.put,zA,zB,zC]
 refine Bw (i:=11) rfl (by kernel_rfl) (by kernel_rfl) (by kernel_rfl) (fun _ _ _ h=>h) (AX (by rfl) rfl rfl rfl (fun _ hS=>hS.2.2.2.1) ⟨by omega,by omega⟩ ⟨by omega,by omega⟩ (by omega)) zH ?_
 simp only[Act.put,zA,zB,zC]
 refine zT 14 rfl (by kernel_rfl) (fun _ _ _=>id) rfl (fun _ _=>by go_simp<;>with_reducible rfl) zH ?_
 simp only[Act.put,zA,zB,zC]
 refine zT 15 rfl (by kernel_rfl) (fun _ _ _=>id) rfl (fun _ _=>by go_simp<;>with_reducible rfl) zH ?_
 simp only[Act.put,zA,zB,zC]
 refine zT 16 rfl (by kernel_rfl) (fun _ _ _=>id) rfl (fun _ _=>by go_simp<;>with_reducible rfl) zH ?_
 simp only[Act.put,zA,zB,zC]
 refine zT 17 rfl (by kernel_rfl) (fun _ _ _=>id) rfl (fun wx hS=>by have hc2:wx.cell? ⟨w.heap.size,2,none⟩=some (.map (some kq)):=hS.1.c 2 (zD rfl);go_simp<;>with_reducible rfl) zH ?_
 simp only[Act.put,zA,zB,zC]
 refine zT 18 rfl (by kernel_rfl) (fun _ _ _=>id) rfl (fun wx hS=>by have hc0:wx.cell? ⟨w.heap.size+1+1+1,0,none⟩=some (.int .i64 (n-2)):=hS.2.2.2.2.c 0 (zD rfl);have hc1:wx.cell? ⟨w.heap.size+1+1+1,1,none⟩=some (.int .i64 m):=hS.2.2.2.2.c 1 (zD rfl);go_simp<;>with_reducible rfl) zH ?_
 simp only[Act.put,zA,zB,zC]
 refine Bw (i:=19) rfl (by kernel_rfl) (by kernel_rfl) (by kernel_rfl) (fun _ _ _ h=>h) (AX (by rfl) rfl rfl rfl (fun _ hS=>hS.2.2.2.1) ⟨by omega,by omega⟩ ⟨by omega,by omega⟩ (by omega)) zH ?_
 simp only[Act.put,zA,zB,zC]
 refine zK 12 (by kernel_rfl) rfl (fun K hK=>?_)
 go_simp
 refine(Ak b false c (fq (n-1) m) _ BF_17.drew).mono ?_
 rintro e w18 ⟨rfl,f18,k18⟩
 rw[U.h1]at f18 ⊢
 dsimp only at f18 ⊢
 have K18:Ah [b,kp,kd,kq] w w18:=Ah.on K17.drew k18 (by simp)
 have MP_18:Mp kp (cp+1) (AO fp n m pz) w18:=MP_17.drew.kept k18 (by omega)
 have MD_18:Mp kd (cd+1) (AO fd n m dz) w18:=MD_17.drew.kept k18 (by omega)
 have MQ_18:Mp kq cq fq w18:=MQ_17.drew.kept k18 (by omega)
 have B0_18:=B0_17.drew.kept k18 (zG y1_BF)
 have B1_18:=B1_17.drew.kept k18 (zG y2_BF)
 have B2_18:=B2_17.drew.kept k18 (zG y3_BF)
 have B3_18:=B3_17.drew.kept k18 (zG y4_BF)
 have z18:=B3_18.lies
 clear zH
 refine hK.out _ _ ⟨B0_18,B1_18,B2_18,(AM.same MQ_18),B3_18⟩ (fun zH=>?_)
 clear hK K K17 BF_17 MP_17 MD_17 MQ_17 B0_17 B1_17 B2_17 B3_17 k18
 refine zK 13 (by kernel_rfl) rfl (fun K hK=>?_)
 go_simp
 refine(Ak b false gb U.v1 _ f18).mono ?_
 rintro e w19 ⟨rfl,f19,k19⟩
 rw[U.h2]at f19 ⊢
 dsimp only at f19 ⊢
 have K19:Ah [b,kp,kd,kq] w w19:=Ah.on K18 k19 (by simp)
 have MP_19:Mp kp (cp+1) (AO fp n m pz) w19:=MP_18.kept k19 (by omega)
 have MD_19:Mp kd (cd+1) (AO fd n m dz) w19:=MD_18.kept k19 (by omega)
 have MQ_19:Mp kq cq fq w19:=MQ_18.kept k19 (by omega)
 have B0_19:=B0_18.kept k19 (zG y1_BF)
 have B1_19:=B1_18.kept k19 (zG y2_BF)
 have B2_19:=B2_18.kept k19 (zG y3_BF)
 have B3_19:=B3_18.kept k19 (zG y4_BF)
 have z19:=B3_19.lies
 clear zH
 refine hK.out _ _ ⟨B0_19,B1_19,B2_19,(AM.same MQ_19),B3_19⟩ (fun zH=>?_)
 clear hK K K18 f18 MP_18 MD_18 MQ_18 B0_18 B1_18 B2_18 B3_18 k19
 refine zK 20 (by kernel_rfl) rfl (fun K hK=>?_)
 go_simp
 refine(Ak b false ga (fq (n-2) m) _ f19).mono ?_
 rintro e w20 ⟨rfl,f20,k20⟩
 rw[U.h3]at f20 ⊢
 dsimp only at f20 ⊢
 have K20:Ah [b,kp,kd,kq] w w20:=Ah.on K19 k20 (by simp)
 have MP_20:Mp kp (cp+1) (AO fp n m pz) w20:=MP_19.kept k20 (by omega)
 have MD_20:Mp kd (cd+1) (AO fd n m dz) w20:=MD_19.kept k20 (by omega)
 have MQ_20:Mp kq cq fq w20:=MQ_19.kept k20 (by omega)
 have B0_20:=B0_19.kept k20 (zG y1_BF)
 have B1_20:=B1_19.kept k20 (zG y2_BF)
 have B2_20:=B2_19.kept k20 (zG y3_BF)
 have B3_20:=B3_19.kept k20 (zG y4_BF)
 have z20:=B3_20.lies
 clear zH
 refine hK.out _ _ ⟨B0_20,B1_20,B2_20,(AM.same MQ_20),B3_20⟩ (fun zH=>?_)
 clear hK K K19 f19 MP_19 MD_19 MQ_19 B0_19 B1_19 B2_19 B3_19 k20
 refine zK 21 (by kernel_rfl) rfl (fun K hK=>?_)
 go_simp
 refine(BH b false U.v2 U.v3 _ f20).mono ?_
 rintro e w21 ⟨rfl,f21,k21⟩
 rw[U.h4]at f21 ⊢
 dsimp only at f21 ⊢
 have K21:Ah [b,kp,kd,kq] w w21:=Ah.on K20 k21 (by simp)
 have MP_21:Mp kp (cp+1) (AO fp n m pz) w21:=MP_20.kept k21 (by omega)
 have MD_21:Mp kd (cd+1) (AO fd n m dz) w21:=MD_20.kept k21 (by omega)
 have MQ_21:Mp kq cq fq w21:=MQ_20.kept k21 (by omega)
 have B0_21:=B0_20.kept k21 (zG y1_BF)
 have B1_21:=B1_20.kept k21 (zG y2_BF)
 have B2_21:=B2_20.kept k21 (zG y3_BF)
 have B3_21:=B3_20.kept k21 (zG y4_BF)
 have z21:=B3_21.lies
 clear zH
 refine hK.out _ _ ⟨B0_21,B1_21,B2_21,(AM.same MQ_21),B3_21⟩ (fun zH=>?_)
 clear hK K K20 f20 MP_20 MD_20 MQ_20 B0_20 B1_20 B2_20 B3_20 k21
 refine zK 22 (by kernel_rfl) rfl (fun K hK=>?_)
 refine Ge (by rfl) rfl rfl rfl rfl MQ_21 (by omega) ⟨by omega,by omega⟩ ⟨by omega,by omega⟩ i3 ?_
 intro w22 MQ_22 k22
 have K22:Ah [b,kp,kd,kq] w w22:=Ah.on K21 k22 (by simp)
 have BF_22:=f21.kept k22 (by omega)
 have MP_22:Mp kp (cp+1) (AO fp n m pz) w22:=MP_21.kept k22 (by omega)
 have MD_22:Mp kd (cd+1) (AO fd n m dz) w22:=MD_21.kept k22 (by omega)
 have B0_22:=B0_21.kept k22 (zG y1_MQ)
 have B1_22:=B1_21.kept k22 (zG y2_MQ)
 have B2_22:=B2_21.kept k22 (zG y3_MQ)
 have B3_22:=B3_21.kept k22 (zG y4_MQ)
 have z22:=K22.size
 simp only[Act.put]
 clear zH
 refine hK.out _ _ ⟨B0_22,B1_22,B2_22,(AM.upd MQ_22),B3_22⟩ (fun zH=>?_)
 clear hK K K21 MQ_21 f21 MP_21 MD_21 B0_21 B1_21 B2_21 B3_21 k22
 refine wpAnyH_done (by kernel_rfl) ?_ _
 clear zH
 go_wp2
 go_end0
 exact⟨rfl,BF_22,MP_22,MD_22,MQ_22,K22⟩
theorem UV(b kp kd kq cp cd cq:Nat)(fp fd fq:Int->Int->Int)(n m c s ga gb pz dz:Int)(w:World)(hw:Fl b false w)(hp:Mp kp cp fp w)(hd:Mp kd cd fd w)(hq:Mp kq cq fq w)(d1:b≠kp)(d2:b≠kd)(d3:b≠kq)(d4:kp≠kd)(d5:kp≠kq)(d6:kd≠kq)(l1:cp<900)(l2:cd<900)(n1:1<=n)(n6:n<=6)(m0:0<=m)(R:WX n m ga gb)(T:Af0 c s gb ga (fp (n-1) m) (fd (n-1) m) (fp (n-2) m) (fd (n-2) m) pz dz)(i1:Cj pz)(i2:Cj dz)(hm:¬m>0):
    Calls Tryz.prog 273 #[.agg #[.map (some kp),.map (some kd),.map (some kq)],.pointer (some ⟨b,0,none⟩),.int .i64 n,.int .i64 m,.int .i64 c,.int .i64 s] w fun e w'=>e=.returned (.tuple #[])/\Fl b false w'/\Mp kp (cp+1) (AO fp n m pz) w'/\Mp kd (cd+1) (AO fd n m dz) w'/\Mp kq cq fq w'/\Ah [b,kp,kd,kq] w w':=by
 have hl:=hw.lies
 have l_p:=hp.lies
 have l_d:=hd.lies
 have l_q:=hq.lies
 have hs6:mulS false s ((AO fp n m pz) (n-1) m)=(T.v6,false):=by rw[show AO fp n m pz (n-1) m=fp (n-1) m from if_neg (by omega)];exact T.h6
 go_enter Tryz.func273,Tryz.ntmps273
 have y1_BF:=hw.lies
 have y1_MP:=hp.lies
 have y1_MD:=hd.lies
 have y1_MQ:=hq.lies
 have y2_BF:b<w.heap.size+1:=(Nat.lt_succ_of_lt hw.lies)
 have y2_MP:kp<w.heap.size+1:=(Nat.lt_succ_of_lt hp.lies)
 have y2_MD:kd<w.heap.size+1:=(Nat.lt_succ_of_lt hd.lies)
 have y2_MQ:kq<w.heap.size+1:=(Nat.lt_succ_of_lt hq.lies)
 have y2_B0:w.heap.size<w.heap.size+1:=by omega
 have y3_BF:b<w.heap.size+1+1:=(Nat.lt_succ_of_lt (Nat.lt_succ_of_lt hw.lies))
 have y3_MP:kp<w.heap.size+1+1:=(Nat.lt_succ_of_lt (Nat.lt_succ_of_lt hp.lies))
 have y3_MD:kd<w.heap.size+1+1:=(Nat.lt_succ_of_lt (Nat.lt_succ_of_lt hd.lies))
 have y3_MQ:kq<w.heap.size+1+1:=(Nat.lt_succ_of_lt (Nat.lt_succ_of_lt hq.lies))
 have y3_B0:w.heap.size<w.heap.size+1+1:=by omega
 have y3_B1:w.heap.size+1<w.heap.size+1+1:=by omega
 have y4_BF:b<w.heap.size+1+1+1:=(Nat.lt_succ_of_lt (Nat.lt_succ_of_lt (Nat.lt_succ_of_lt hw.lies)))
 have y4_MP:kp<w.heap.size+1+1+1:=(Nat.lt_succ_of_lt (Nat.lt_succ_of_lt (Nat.lt_succ_of_lt hp.lies)))
 have y4_MD:kd<w.heap.size+1+1+1:=(Nat.lt_succ_of_lt (Nat.lt_succ_of_lt (Nat.lt_succ_of_lt hd.lies)))
 have y4_MQ:kq<w.heap.size+1+1+1:=(Nat.lt_succ_of_lt (Nat.lt_succ_of_lt (Nat.lt_succ_of_lt hq.lies)))
 have y4_B0:w.heap.size<w.heap.size+1+1+1:=by omega
 have y4_B1:w.heap.size+1<w.heap.size+1+1+1:=by omega
 have y4_B2:w.heap.size+1+1<w.heap.size+1+1+1:=by omega
 go_wp2_with fail
 refine(FA b false n m _ ((((hw.alloc _).alloc _).alloc _).alloc _) (by omega) (by omega) (by omega) (by omega)).mono ?_
 rintro e w1 ⟨rfl,f1,k1⟩
 rw[R.h1]at f1 ⊢
 dsimp only at f1 ⊢
 have K1:Ah [b,kp,kd,kq] w w1:=Ah.on (((((Ah.refl [b,kp,kd,kq] w).al _).al _).al _).al _) k1 (by simp)
 have MP_1:Mp kp cp fp w1:=((((hp.alloc _).alloc _).alloc _).alloc _).kept k1 (by omega)
 have MD_1:Mp kd cd fd w1:=((((hd.alloc _).alloc _).alloc _).alloc _).kept k1 (by omega)
 have MQ_1:Mp kq cq fq w1:=((((hq.alloc _).alloc _).alloc _).alloc _).kept k1 (by omega)
 have B0_1:=((((Am _ w.heap.size [.map (some kp),.map (some kd),.map (some kq)] _ (by simp)).alloc _).alloc _).alloc _).kept k1 (zG y1_BF)
 have B1_1:=(((Am _ (w.heap.size+1) [.int .i64 n,.int .i64 m] _ (by simp)).alloc _).alloc _).kept k1 (zG y2_BF)
 have B2_1:=((Am _ (w.heap.size+1+1) [.int .i64 (n-1),.int .i64 m] _ (by simp)).alloc _).kept k1 (zG y3_BF)
 have B3_1:=(Am _ (w.heap.size+1+1+1) [.int .i64 (n-2),.int .i64 m] _ (by simp)).kept k1 (zG y4_BF)
 have z1:=B3_1.lies
 clear hp hd hq k1
 go_wp2_with fail
 refine(FA b false (n-1) m _ f1 (by omega) (by omega) (by omega) (by omega)).mono ?_
 rintro e w2 ⟨rfl,f2,k2⟩
 rw[R.h2]at f2 ⊢
 dsimp only at f2 ⊢
 have K2:Ah [b,kp,kd,kq] w w2:=Ah.on K1 k2 (by simp)
 have MP_2:Mp kp cp fp w2:=MP_1.kept k2 (by omega)
 have MD_2:Mp kd cd fd w2:=MD_1.kept k2 (by omega)
 have MQ_2:Mp kq cq fq w2:=MQ_1.kept k2 (by omega)
 have B0_2:=B0_1.kept k2 (zG y1_BF)
 have B1_2:=B1_1.kept k2 (zG y2_BF)
 have B2_2:=B2_1.kept k2 (zG y3_BF)
 have B3_2:=B3_1.kept k2 (zG y4_BF)
 have z2:=B3_2.lies
 clear K1 f1 MP_1 MD_1 MQ_1 B0_1 B1_1 B2_1 B3_1 k2
 go_wp2_with fail
 refine(B8 b false R.k2 R.k1 _ f2).mono ?_
 rintro e w3 ⟨rfl,f3,k3⟩
 rw[R.h3]at f3 ⊢
 dsimp only at f3 ⊢
 have K3:Ah [b,kp,kd,kq] w w3:=Ah.on K2 k3 (by simp)
 have MP_3:Mp kp cp fp w3:=MP_2.kept k3 (by omega)
 have MD_3:Mp kd cd fd w3:=MD_2.kept k3 (by omega)
 have MQ_3:Mp kq cq fq w3:=MQ_2.kept k3 (by omega)
 have B0_3:=B0_2.kept k3 (zG y1_BF)
 have B1_3:=B1_2.kept k3 (zG y2_BF)
 have B2_3:=B2_2.kept k3 (zG y3_BF)
 have B3_3:=B3_2.kept k3 (zG y4_BF)
 have z3:=B3_3.lies
 clear K2 f2 MP_2 MD_2 MQ_2 B0_2 B1_2 B2_2 B3_2 k3
 go_wp2_with fail
 refine(Cl b false 1099511627776 ((2*n)-1) 1 _ f3).mono ?_
 rintro e w4 ⟨rfl,f4,k4⟩
 rw[R.h4]at f4 ⊢
 dsimp only at f4 ⊢
 have K4:Ah [b,kp,kd,kq] w w4:=Ah.on K3 k4 (by simp)
 have MP_4:Mp kp cp fp w4:=MP_3.kept k4 (by omega)
 have MD_4:Mp kd cd fd w4:=MD_3.kept k4 (by omega)
 have MQ_4:Mp kq cq fq w4:=MQ_3.kept k4 (by omega)
 have B0_4:=B0_3.kept k4 (zG y1_BF)
 have B1_4:=B1_3.kept k4 (zG y2_BF)
 have B2_4:=B2_3.kept k4 (zG y3_BF)
 have B3_4:=B3_3.kept k4 (zG y4_BF)
 have z4:=B3_4.lies
 clear K3 f3 MP_3 MD_3 MQ_3 B0_3 B1_3 B2_3 B3_3 k4
 go_wp2_with fail
 refine(B8 b false R.p R.k1 _ f4).mono ?_
 rintro e w5 ⟨rfl,f5,k5⟩
 rw[R.h5]at f5 ⊢
 dsimp only at f5 ⊢
 have K5:Ah [b,kp,kd,kq] w w5:=Ah.on K4 k5 (by simp)
 have MP_5:Mp kp cp fp w5:=MP_4.kept k5 (by omega)
 have MD_5:Mp kd cd fd w5:=MD_4.kept k5 (by omega)
 have MQ_5:Mp kq cq fq w5:=MQ_4.kept k5 (by omega)
 have B0_5:=B0_4.kept k5 (zG y1_BF)
 have B1_5:=B1_4.kept k5 (zG y2_BF)
 have B2_5:=B2_4.kept k5 (zG y3_BF)
 have B3_5:=B3_4.kept k5 (zG y4_BF)
 have z5:=B3_5.lies
 clear K4 f4 MP_4 MD_4 MQ_4 B0_4 B1_4 B2_4 B3_4 k5
 go_wp2_with fail
 refine wp_region_held_drew (S:=fun w'=>Ap w.heap.size [.map (some kp),.map (some kd),.map (some kq)] w'/\Ap (w.heap.size+1) [.int .i64 n,.int .i64 m] w'/\Ap (w.heap.size+1+1) [.int .i64 (n-1),.int .i64 m] w'/\AM kp fp n m w'/\Ap (w.heap.size+1+1+1) [.int .i64 (n-2),.int .i64 m] w') (by kernel_rfl) ⟨B0_5.drew,B1_5.drew,B2_5.drew,(AM.same MP_5.drew),B3_5.drew⟩ (fun zH=>?_)
 refine zT 0 rfl (by kernel_rfl) (fun _ _ _=>id) rfl (fun _ _=>by go_simp<;>with_reducible rfl) zH ?_
 simp only[Act.put,zA,zB,zC]
 refine zT 1 rfl (by kernel_rfl) (fun _ _ _=>id) rfl (fun wx hS=>by have hc0:wx.cell? ⟨w.heap.size,0,none⟩=some (.map (some kp)):=hS.1.c 0 (zD rfl);go_simp<;>with_reducible rfl) zH ?_
 simp only[Act.put,zA,zB,zC]
 refine zT 2 rfl (by kernel_rfl) (fun _ _ _=>id) rfl (fun wx hS=>by have hc0:wx.cell? ⟨w.heap.size+1,0,none⟩=some (.int .i64 n):=hS.2.1.c 0 (zD rfl);have hc1:wx.cell? ⟨w.heap.size+1,1,none⟩=some (.int .i64 m):=hS.2.1.c 1 (zD rfl);go_simp<;>with_reducible rfl) zH ?_
 simp only[Act.put,zA,zB,zC]
 refine zT 3 rfl (by kernel_rfl) (fun _ _ _=>id) rfl (fun _ _=>by go_simp<;>with_reducible rfl) zH ?_
 simp only[Act.put,zA,zB,zC]
 refine zT 4 rfl (by kernel_rfl) (fun _ _ _=>id) rfl (fun _ _=>by go_simp<;>with_reducible rfl) zH ?_
 simp only[Act.put,zA,zB,zC]
 refine zT 5 rfl (by kernel_rfl) (fun _ _ _=>id) rfl (fun _ _=>by go_simp<;>with_reducible rfl) zH ?_
 simp only[Act.put,zA,zB,zC]
 refine zT 6 rfl (by kernel_rfl) (fun _ _ _=>id) rfl (fun _ _=>by go_simp<;>with_reducible rfl) zH ?_
 simp only[Act.put,zA,zB,zC]
 refine zT 7 rfl (by kernel_rfl) (fun _ _ _=>id) rfl (fun _ _=>by go_simp<;>with_reducible rfl) zH ?_
 simp only[Act.put,zA,zB,zC]
 refine zT 8 rfl (by kernel_rfl) (fun _ _ _=>id) rfl (fun _ _=>by go_simp<;>with_reducible rfl) zH ?_
 simp only[Act.put,zA,zB,zC]
 refine zT 9 rfl (by kernel_rfl) (fun _ _ _=>id) rfl (fun wx hS=>by have hc0:wx.cell? ⟨w.heap.size,0,none⟩=some (.map (some kp)):=hS.1.c 0 (zD rfl);go_simp<;>with_reducible rfl) zH ?_
 simp only[Act.put,zA,zB,zC]
 refine zT 10 rfl (by kernel_rfl) (fun _ _ _=>id) rfl (fun wx hS=>by have hc0:wx.cell? ⟨w.heap.size+1+1,0,none⟩=some (.int .i64 (n-1)):=hS.2.2.1.c 0 (zD rfl);have hc1:wx.cell? ⟨w.heap.size+1+1,1,none⟩=some (.int .i64 m):=hS.2.2.1.c 1 (zD rfl);go_simp<;>with_reducible rfl) zH ?_
 simp only[Act.put,zA,zB,zC]
 refine Bw (i:=11) rfl (by kernel_rfl) (by kernel_rfl) (by kernel_rfl) (fun _ _ _ h=>h) (AX (by rfl) rfl rfl rfl (fun _ hS=>hS.2.2.2.1) ⟨by omega,by omega⟩ ⟨by omega,by omega⟩ (by omega)) zH ?_
 simp only[Act.put,zA,zB,zC]
 refine zT 14 rfl (by kernel_rfl) (fun _ _ _=>id) rfl (fun _ _=>by go_simp<;>with_reducible rfl) zH ?_
 simp only[Act.put,zA,zB,zC]
 refine zT 15 rfl (by kernel_rfl) (fun _ _ _=>id) rfl (fun _ _=>by go_simp<;>with_reducible rfl) zH ?_
 simp only[Act.put,zA,zB,zC]
 refine zT 16 rfl (by kernel_rfl) (fun _ _ _=>id) rfl (fun _ _=>by go_simp<;>with_reducible rfl) zH ?_
 simp only[Act.put,zA,zB,zC]
 refine zT 17 rfl (by kernel_rfl) (fun _ _ _=>id) rfl (fun wx hS=>by have hc0:wx.cell? ⟨w.heap.size,0,none⟩=some (.map (some kp)):=hS.1.c 0 (zD rfl);go_simp<;>with_reducible rfl) zH ?_
 simp only[Act.put,zA,zB,zC]
 refine zT 18 rfl (by kernel_rfl) (fun _ _ _=>id) rfl (fun wx hS=>by have hc0:wx.cell? ⟨w.heap.size+1+1+1,0,none⟩=some (.int .i64 (n-2)):=hS.2.2.2.2.c 0 (zD rfl);have hc1:wx.cell? ⟨w.heap.size+1+1+1,1,none⟩=some (.int .i64 m):=hS.2.2.2.2.c 1 (zD rfl);go_simp<;>with_reducible rfl) zH ?_
 simp only[Act.put,zA,zB,zC]
 refine Bw (i:=19) rfl (by kernel_rfl) (by kernel_rfl) (by kernel_rfl) (fun _ _ _ h=>h) (AX (by rfl) rfl rfl rfl (fun _ hS=>hS.2.2.2.1) ⟨by omega,by omega⟩ ⟨by omega,by omega⟩ (by omega)) zH ?_
 simp only[Act.put,zA,zB,zC]
 refine zK 12 (by kernel_rfl) rfl (fun K hK=>?_)
 go_simp
 refine(Ak b false c (fp (n-1) m) _ f5.drew).mono ?_
 rintro e w6 ⟨rfl,f6,k6⟩
 rw[T.h1]at f6 ⊢
 dsimp only at f6 ⊢
 have K6:Ah [b,kp,kd,kq] w w6:=Ah.on K5.drew k6 (by simp)
 have MP_6:Mp kp cp fp w6:=MP_5.drew.kept k6 (by omega)
 have MD_6:Mp kd cd fd w6:=MD_5.drew.kept k6 (by omega)
 have MQ_6:Mp kq cq fq w6:=MQ_5.drew.kept k6 (by omega)
 have B0_6:=B0_5.drew.kept k6 (zG y1_BF)
 have B1_6:=B1_5.drew.kept k6 (zG y2_BF)
 have B2_6:=B2_5.drew.kept k6 (zG y3_BF)
 have B3_6:=B3_5.drew.kept k6 (zG y4_BF)
 have z6:=B3_6.lies
 clear zH
 refine hK.out _ _ ⟨B0_6,B1_6,B2_6,(AM.same MP_6),B3_6⟩ (fun zH=>?_)
 clear hK K K5 f5 MP_5 MD_5 MQ_5 B0_5 B1_5 B2_5 B3_5 k6
 refine zK 13 (by kernel_rfl) rfl (fun K hK=>?_)
 go_simp
 refine(Ak b false gb T.v1 _ f6).mono ?_
 rintro e w7 ⟨rfl,f7,k7⟩
 rw[T.h2]at f7 ⊢
 dsimp only at f7 ⊢
 have K7:Ah [b,kp,kd,kq] w w7:=Ah.on K6 k7 (by simp)
 have MP_7:Mp kp cp fp w7:=MP_6.kept k7 (by omega)
 have MD_7:Mp kd cd fd w7:=MD_6.kept k7 (by omega)
 have MQ_7:Mp kq cq fq w7:=MQ_6.kept k7 (by omega)
 have B0_7:=B0_6.kept k7 (zG y1_BF)
 have B1_7:=B1_6.kept k7 (zG y2_BF)
 have B2_7:=B2_6.kept k7 (zG y3_BF)
 have B3_7:=B3_6.kept k7 (zG y4_BF)
 have z7:=B3_7.lies
 clear zH
 refine hK.out _ _ ⟨B0_7,B1_7,B2_7,(AM.same MP_7),B3_7⟩ (fun zH=>?_)
 clear hK K K6 f6 MP_6 MD_6 MQ_6 B0_6 B1_6 B2_6 B3_6 k7
 refine zK 20 (by kernel_rfl) rfl (fun K hK=>?_)
 go_simp
 refine(Ak b false ga (fp (n-2) m) _ f7).mono ?_
 rintro e w8 ⟨rfl,f8,k8⟩
 rw[T.h3]at f8 ⊢
 dsimp only at f8 ⊢
 have K8:Ah [b,kp,kd,kq] w w8:=Ah.on K7 k8 (by simp)
 have MP_8:Mp kp cp fp w8:=MP_7.kept k8 (by omega)
 have MD_8:Mp kd cd fd w8:=MD_7.kept k8 (by omega)
 have MQ_8:Mp kq cq fq w8:=MQ_7.kept k8 (by omega)
 have B0_8:=B0_7.kept k8 (zG y1_BF)
 have B1_8:=B1_7.kept k8 (zG y2_BF)
 have B2_8:=B2_7.kept k8 (zG y3_BF)
 have B3_8:=B3_7.kept k8 (zG y4_BF)
 have z8:=B3_8.lies
 clear zH
 refine hK.out _ _ ⟨B0_8,B1_8,B2_8,(AM.same MP_8),B3_8⟩ (fun zH=>?_)
 clear hK K K7 f7 MP_7 MD_7 MQ_7 B0_7 B1_7 B2_7 B3_7 k8
 refine zK 21 (by kernel_rfl) rfl (fun K hK=>?_)
 go_simp
 refine(BH b false T.v2 T.v3 _ f8).mono ?_
 rintro e w9 ⟨rfl,f9,k9⟩
 rw[T.h4]at f9 ⊢
 dsimp only at f9 ⊢
 have K9:Ah [b,kp,kd,kq] w w9:=Ah.on K8 k9 (by simp)
 have MP_9:Mp kp cp fp w9:=MP_8.kept k9 (by omega)
 have MD_9:Mp kd cd fd w9:=MD_8.kept k9 (by omega)
 have MQ_9:Mp kq cq fq w9:=MQ_8.kept k9 (by omega)
 have B0_9:=B0_8.kept k9 (zG y1_BF)
 have B1_9:=B1_8.kept k9 (zG y2_BF)
 have B2_9:=B2_8.kept k9 (zG y3_BF)
 have B3_9:=B3_8.kept k9 (zG y4_BF)
 have z9:=B3_9.lies
 clear zH
 refine hK.out _ _ ⟨B0_9,B1_9,B2_9,(AM.same MP_9),B3_9⟩ (fun zH=>?_)
 clear hK K K8 f8 MP_8 MD_8 MQ_8 B0_8 B1_8 B2_8 B3_8 k9
 refine zK 22 (by kernel_rfl) rfl (fun K hK=>?_)
 refine Ge (by rfl) rfl rfl rfl rfl MP_9 (by omega) ⟨by omega,by omega⟩ ⟨by omega,by omega⟩ i1 ?_
 intro w10 MP_10 k10
 have K10:Ah [b,kp,kd,kq] w w10:=Ah.on K9 k10 (by simp)
 have BF_10:=f9.kept k10 (by omega)
 have MD_10:Mp kd cd fd w10:=MD_9.kept k10 (by omega)
 have MQ_10:Mp kq cq fq w10:=MQ_9.kept k10 (by omega)
 have B0_10:=B0_9.kept k10 (zG y1_MP)
 have B1_10:=B1_9.kept k10 (zG y2_MP)
 have B2_10:=B2_9.kept k10 (zG y3_MP)
 have B3_10:=B3_9.kept k10 (zG y4_MP)
 have z10:=K10.size
 simp only[Act.put]
 clear zH
 refine hK.out _ _ ⟨B0_10,B1_10,B2_10,(AM.upd MP_10),B3_10⟩ (fun zH=>?_)
 clear hK K K9 MP_9 f9 MD_9 MQ_9 B0_9 B1_9 B2_9 B3_9 k10
 refine wpAnyH_done (by kernel_rfl) ?_ _
 clear zH
 go_wp2_with fail
 refine wp_region_held_drew (S:=fun w'=>Ap w.heap.size [.map (some kp),.map (some kd),.map (some kq)] w'/\Ap (w.heap.size+1+1) [.int .i64 (n-1),.int .i64 m] w'/\Mp kd cd fd w'/\Mp kp (cp+1) (AO fp n m pz) w') (by kernel_rfl) ⟨B0_10.drew,B2_10.drew,MD_10.drew,MP_10.drew⟩ (fun zH=>?_)
 refine zT 0 rfl (by kernel_rfl) (fun _ _ _=>id) rfl (fun _ _=>by go_simp<;>with_reducible rfl) zH ?_
 simp only[Act.put,zA,zB,zC]
 refine zT 1 rfl (by kernel_rfl) (fun _ _ _=>id) rfl (fun _ _=>by go_simp<;>with_reducible rfl) zH ?_
 simp only[Act.put,zA,zB,zC]
 refine zT 2 rfl (by kernel_rfl) (fun _ _ _=>id) rfl (fun _ _=>by go_simp<;>with_reducible rfl) zH ?_
 simp only[Act.put,zA,zB,zC]
 refine zT 3 rfl (by kernel_rfl) (fun _ _ _=>id) rfl (fun _ _=>by go_simp<;>with_reducible rfl) zH ?_
 simp only[Act.put,zA,zB,zC]
 refine zT 4 rfl (by kernel_rfl) (fun _ _ _=>id) rfl (fun wx hS=>by have hc1:wx.cell? ⟨w.heap.size,1,none⟩=some (.map (some kd)):=hS.1.c 1 (zD rfl);go_simp<;>with_reducible rfl) zH ?_
 simp only[Act.put,zA,zB,zC]
 refine zT 5 rfl (by kernel_rfl) (fun _ _ _=>id) rfl (fun wx hS=>by have hc0:wx.cell? ⟨w.heap.size+1+1,0,none⟩=some (.int .i64 (n-1)):=hS.2.1.c 0 (zD rfl);have hc1:wx.cell? ⟨w.heap.size+1+1,1,none⟩=some (.int .i64 m):=hS.2.1.c 1 (zD rfl);go_simp<;>with_reducible rfl) zH ?_
 simp only[Act.put,zA,zB,zC]
 refine Bw (i:=6) rfl (by kernel_rfl) (by kernel_rfl) (by kernel_rfl) (fun _ _ _ h=>h) (Gd (by rfl) rfl rfl rfl (fun _ hS=>hS.2.2.1) ⟨by omega,by omega⟩ ⟨by omega,by omega⟩) zH ?_
 simp only[Act.put,zA,zB,zC]
 refine zT 8 rfl (by kernel_rfl) (fun _ _ _=>id) rfl (fun _ _=>by go_simp<;>with_reducible rfl) zH ?_
 simp only[Act.put,zA,zB,zC]
 refine zT 9 rfl (by kernel_rfl) (fun _ _ _=>id) rfl (fun _ _=>by go_simp<;>with_reducible rfl) zH ?_
 simp only[Act.put,zA,zB,zC]
 refine zT 10 rfl (by kernel_rfl) (fun _ _ _=>id) rfl (fun _ _=>by go_simp<;>with_reducible rfl) zH ?_
 simp only[Act.put,zA,zB,zC]
 refine zT 11 rfl (by kernel_rfl) (fun _ _ _=>id) rfl (fun wx hS=>by have hc0:wx.cell? ⟨w.heap.size,0,none⟩=some (.map (some kp)):=hS.1.c 0 (zD rfl);go_simp<;>with_reducible rfl) zH ?_
 simp only[Act.put,zA,zB,zC]
 refine zT 12 rfl (by kernel_rfl) (fun _ _ _=>id) rfl (fun wx hS=>by have hc0:wx.cell? ⟨w.heap.size+1+1,0,none⟩=some (.int .i64 (n-1)):=hS.2.1.c 0 (zD rfl);have hc1:wx.cell? ⟨w.heap.size+1+1,1,none⟩=some (.int .i64 m):=hS.2.1.c 1 (zD rfl);go_simp<;>with_reducible rfl) zH ?_
 simp only[Act.put,zA,zB,zC]
 refine Bw (i:=13) rfl (by kernel_rfl) (by kernel_rfl) (by kernel_rfl) (fun _ _ _ h=>h) (Gd (by rfl) rfl rfl rfl (fun _ hS=>hS.2.2.2) ⟨by omega,by omega⟩ ⟨by omega,by omega⟩) zH ?_
 simp only[Act.put,zA,zB,zC]
 refine zK 7 (by kernel_rfl) rfl (fun K hK=>?_)
 go_simp
 refine(Ak b false c (fd (n-1) m) _ BF_10.drew).mono ?_
 rintro e w11 ⟨rfl,f11,k11⟩
 rw[T.h5]at f11 ⊢
 dsimp only at f11 ⊢
 have K11:Ah [b,kp,kd,kq] w w11:=Ah.on K10.drew k11 (by simp)
 have MP_11:Mp kp (cp+1) (AO fp n m pz) w11:=MP_10.drew.kept k11 (by omega)
 have MD_11:Mp kd cd fd w11:=MD_10.drew.kept k11 (by omega)
 have MQ_11:Mp kq cq fq w11:=MQ_10.drew.kept k11 (by omega)
 have B0_11:=B0_10.drew.kept k11 (zG y1_BF)
 have B1_11:=B1_10.drew.kept k11 (zG y2_BF)
 have B2_11:=B2_10.drew.kept k11 (zG y3_BF)
 have B3_11:=B3_10.drew.kept k11 (zG y4_BF)
 have z11:=B3_11.lies
 clear zH
 refine hK.out _ _ ⟨B0_11,B2_11,MD_11,MP_11⟩ (fun zH=>?_)
 clear hK K K10 BF_10 MP_10 MD_10 MQ_10 B0_10 B1_10 B2_10 B3_10 k11
 refine zK 14 (by kernel_rfl) rfl (fun K hK=>?_)
 go_simp
 refine(Ak b false s ((AO fp n m pz) (n-1) m) _ f11).mono ?_
 rintro e w12 ⟨rfl,f12,k12⟩
 rw[hs6]at f12 ⊢
 dsimp only at f12 ⊢
 have K12:Ah [b,kp,kd,kq] w w12:=Ah.on K11 k12 (by simp)
 have MP_12:Mp kp (cp+1) (AO fp n m pz) w12:=MP_11.kept k12 (by omega)
 have MD_12:Mp kd cd fd w12:=MD_11.kept k12 (by omega)
 have MQ_12:Mp kq cq fq w12:=MQ_11.kept k12 (by omega)
 have B0_12:=B0_11.kept k12 (zG y1_BF)
 have B1_12:=B1_11.kept k12 (zG y2_BF)
 have B2_12:=B2_11.kept k12 (zG y3_BF)
 have B3_12:=B3_11.kept k12 (zG y4_BF)
 have z12:=B3_12.lies
 clear zH
 refine hK.out _ _ ⟨B0_12,B2_12,MD_12,MP_12⟩ (fun zH=>?_)
 clear hK K K11 f11 MP_11 MD_11 MQ_11 B0_11 B1_11 B2_11 B3_11 k12
 refine zK 15 (by kernel_rfl) rfl (fun K hK=>?_)
 go_simp
 refine(BH b false T.v5 T.v6 _ f12).mono ?_
 rintro e w13 ⟨rfl,f13,k13⟩
 rw[T.h7]at f13 ⊢
 dsimp only at f13 ⊢
 have K13:Ah [b,kp,kd,kq] w w13:=Ah.on K12 k13 (by simp)
 have MP_13:Mp kp (cp+1) (AO fp n m pz) w13:=MP_12.kept k13 (by omega)
 have MD_13:Mp kd cd fd w13:=MD_12.kept k13 (by omega)
 have MQ_13:Mp kq cq fq w13:=MQ_12.kept k13 (by omega)
 have B0_13:=B0_12.kept k13 (zG y1_BF)
 have B1_13:=B1_12.kept k13 (zG y2_BF)
 have B2_13:=B2_12.kept k13 (zG y3_BF)
 have B3_13:=B3_12.kept k13 (zG y4_BF)
 have z13:=B3_13.lies
 clear zH
 refine hK.out _ _ ⟨B0_13,B2_13,MD_13,MP_13⟩ (fun zH=>?_)
 clear hK K K12 f12 MP_12 MD_12 MQ_12 B0_12 B1_12 B2_12 B3_12 k13
 refine zT 16 rfl (by kernel_rfl) (fun _ _ _=>id) rfl (fun _ _=>by go_simp<;>with_reducible rfl) zH ?_
 simp only[Act.put,zA,zB,zC]
 refine wpAnyH_done (by kernel_rfl) ?_ _
 clear zH
 go_wp2_with fail
 refine wp_region_held_drew (S:=fun w'=>Ap w.heap.size [.map (some kp),.map (some kd),.map (some kq)] w'/\Ap (w.heap.size+1) [.int .i64 n,.int .i64 m] w'/\Ap (w.heap.size+1+1+1) [.int .i64 (n-2),.int .i64 m] w'/\AM kd fd n m w') (by kernel_rfl) ⟨B0_13.drew,B1_13.drew,B3_13.drew,(AM.same MD_13.drew)⟩ (fun zH=>?_)
 refine zT 0 rfl (by kernel_rfl) (fun _ _ _=>id) rfl (fun _ _=>by go_simp<;>with_reducible rfl) zH ?_
 simp only[Act.put,zA,zB,zC]
 refine zT 1 rfl (by kernel_rfl) (fun _ _ _=>id) rfl (fun wx hS=>by have hc1:wx.cell? ⟨w.heap.size,1,none⟩=some (.map (some kd)):=hS.1.c 1 (zD rfl);go_simp<;>with_reducible rfl) zH ?_
 simp only[Act.put,zA,zB,zC]
 refine zT 2 rfl (by kernel_rfl) (fun _ _ _=>id) rfl (fun wx hS=>by have hc0:wx.cell? ⟨w.heap.size+1,0,none⟩=some (.int .i64 n):=hS.2.1.c 0 (zD rfl);have hc1:wx.cell? ⟨w.heap.size+1,1,none⟩=some (.int .i64 m):=hS.2.1.c 1 (zD rfl);go_simp<;>with_reducible rfl) zH ?_
 simp only[Act.put,zA,zB,zC]
 refine zT 3 rfl (by kernel_rfl) (fun _ _ _=>id) rfl (fun _ _=>by go_simp<;>with_reducible rfl) zH ?_
 simp only[Act.put,zA,zB,zC]
 refine zT 4 rfl (by kernel_rfl) (fun _ _ _=>id) rfl (fun _ _=>by go_simp<;>with_reducible rfl) zH ?_
 simp only[Act.put,zA,zB,zC]
 refine zT 5 rfl (by kernel_rfl) (fun _ _ _=>id) rfl (fun _ _=>by go_simp<;>with_reducible rfl) zH ?_
 simp only[Act.put,zA,zB,zC]
 refine zT 6 rfl (by kernel_rfl) (fun _ _ _=>id) rfl (fun _ _=>by go_simp<;>with_reducible rfl) zH ?_
 simp only[Act.put,zA,zB,zC]
 refine zT 8 rfl (by kernel_rfl) (fun _ _ _=>id) rfl (fun _ _=>by go_simp<;>with_reducible rfl) zH ?_
 simp only[Act.put,zA,zB,zC]
 refine zT 9 rfl (by kernel_rfl) (fun _ _ _=>id) rfl (fun _ _=>by go_simp<;>with_reducible rfl) zH ?_
 simp only[Act.put,zA,zB,zC]
 refine zT 10 rfl (by kernel_rfl) (fun _ _ _=>id) rfl (fun _ _=>by go_simp<;>with_reducible rfl) zH ?_
 simp only[Act.put,zA,zB,zC]
 refine zT 11 rfl (by kernel_rfl) (fun _ _ _=>id) rfl (fun wx hS=>by have hc1:wx.cell? ⟨w.heap.size,1,none⟩=some (.map (some kd)):=hS.1.c 1 (zD rfl);go_simp<;>with_reducible rfl) zH ?_
 simp only[Act.put,zA,zB,zC]
 refine zT 12 rfl (by kernel_rfl) (fun _ _ _=>id) rfl (fun wx hS=>by have hc0:wx.cell? ⟨w.heap.size+1+1+1,0,none⟩=some (.int .i64 (n-2)):=hS.2.2.1.c 0 (zD rfl);have hc1:wx.cell? ⟨w.heap.size+1+1+1,1,none⟩=some (.int .i64 m):=hS.2.2.1.c 1 (zD rfl);go_simp<;>with_reducible rfl) zH ?_
 simp only[Act.put,zA,zB,zC]
 refine Bw (i:=13) rfl (by kernel_rfl) (by kernel_rfl) (by kernel_rfl) (fun _ _ _ h=>h) (AX (by rfl) rfl rfl rfl (fun _ hS=>hS.2.2.2) ⟨by omega,by omega⟩ ⟨by omega,by omega⟩ (by omega)) zH ?_
 simp only[Act.put,zA,zB,zC]
 refine zK 7 (by kernel_rfl) rfl (fun K hK=>?_)
 go_simp
 refine(Ak b false gb T.v7 _ f13.drew).mono ?_
 rintro e w14 ⟨rfl,f14,k14⟩
 rw[T.h8]at f14 ⊢
 dsimp only at f14 ⊢
 have K14:Ah [b,kp,kd,kq] w w14:=Ah.on K13.drew k14 (by simp)
 have MP_14:Mp kp (cp+1) (AO fp n m pz) w14:=MP_13.drew.kept k14 (by omega)
 have MD_14:Mp kd cd fd w14:=MD_13.drew.kept k14 (by omega)
 have MQ_14:Mp kq cq fq w14:=MQ_13.drew.kept k14 (by omega)
 have B0_14:=B0_13.drew.kept k14 (zG y1_BF)
 have B1_14:=B1_13.drew.kept k14 (zG y2_BF)
 have B2_14:=B2_13.drew.kept k14 (zG y3_BF)
 have B3_14:=B3_13.drew.kept k14 (zG y4_BF)
 have z14:=B3_14.lies
 clear zH
 refine hK.out _ _ ⟨B0_14,B1_14,B3_14,(AM.same MD_14)⟩ (fun zH=>?_)
 clear hK K K13 f13 MP_13 MD_13 MQ_13 B0_13 B1_13 B2_13 B3_13 k14
 refine zK 14 (by kernel_rfl) rfl (fun K hK=>?_)
 go_simp
 refine(Ak b false ga (fd (n-2) m) _ f14).mono ?_
 rintro e w15 ⟨rfl,f15,k15⟩
 rw[T.h9]at f15 ⊢
 dsimp only at f15 ⊢
 have K15:Ah [b,kp,kd,kq] w w15:=Ah.on K14 k15 (by simp)
 have MP_15:Mp kp (cp+1) (AO fp n m pz) w15:=MP_14.kept k15 (by omega)
 have MD_15:Mp kd cd fd w15:=MD_14.kept k15 (by omega)
 have MQ_15:Mp kq cq fq w15:=MQ_14.kept k15 (by omega)
 have B0_15:=B0_14.kept k15 (zG y1_BF)
 have B1_15:=B1_14.kept k15 (zG y2_BF)
 have B2_15:=B2_14.kept k15 (zG y3_BF)
 have B3_15:=B3_14.kept k15 (zG y4_BF)
 have z15:=B3_15.lies
 clear zH
 refine hK.out _ _ ⟨B0_15,B1_15,B3_15,(AM.same MD_15)⟩ (fun zH=>?_)
 clear hK K K14 f14 MP_14 MD_14 MQ_14 B0_14 B1_14 B2_14 B3_14 k15
 refine zK 15 (by kernel_rfl) rfl (fun K hK=>?_)
 go_simp
 refine(BH b false T.v8 T.v9 _ f15).mono ?_
 rintro e w16 ⟨rfl,f16,k16⟩
 rw[T.h10]at f16 ⊢
 dsimp only at f16 ⊢
 have K16:Ah [b,kp,kd,kq] w w16:=Ah.on K15 k16 (by simp)
 have MP_16:Mp kp (cp+1) (AO fp n m pz) w16:=MP_15.kept k16 (by omega)
 have MD_16:Mp kd cd fd w16:=MD_15.kept k16 (by omega)
 have MQ_16:Mp kq cq fq w16:=MQ_15.kept k16 (by omega)
 have B0_16:=B0_15.kept k16 (zG y1_BF)
 have B1_16:=B1_15.kept k16 (zG y2_BF)
 have B2_16:=B2_15.kept k16 (zG y3_BF)
 have B3_16:=B3_15.kept k16 (zG y4_BF)
 have z16:=B3_16.lies
 clear zH
 refine hK.out _ _ ⟨B0_16,B1_16,B3_16,(AM.same MD_16)⟩ (fun zH=>?_)
 clear hK K K15 f15 MP_15 MD_15 MQ_15 B0_15 B1_15 B2_15 B3_15 k16
 refine zK 16 (by kernel_rfl) rfl (fun K hK=>?_)
 refine Ge (by rfl) rfl rfl rfl rfl MD_16 (by omega) ⟨by omega,by omega⟩ ⟨by omega,by omega⟩ i2 ?_
 intro w17 MD_17 k17
 have K17:Ah [b,kp,kd,kq] w w17:=Ah.on K16 k17 (by simp)
 have BF_17:=f16.kept k17 (by omega)
 have MP_17:Mp kp (cp+1) (AO fp n m pz) w17:=MP_16.kept k17 (by omega)
 have MQ_17:Mp kq cq fq w17:=MQ_16.kept k17 (by omega)
 have B0_17:=B0_16.kept k17 (zG y1_MD)
 have B1_17:=B1_16.kept k17 (zG y2_MD)
 have B2_17:=B2_16.kept k17 (zG y3_MD)
 have B3_17:=B3_16.kept k17 (zG y4_MD)
 have z17:=K17.size
 simp only[Act.put]
 clear zH
 refine hK.out _ _ ⟨B0_17,B1_17,B3_17,(AM.upd MD_17)⟩ (fun zH=>?_)
 clear hK K K16 MD_16 f16 MP_16 MQ_16 B0_16 B1_16 B2_16 B3_16 k17
 refine wpAnyH_done (by kernel_rfl) ?_ _
 clear zH
 go_wp2
 go_end0
 exact⟨rfl,BF_17,MP_17,MD_17,MQ_17,K17⟩
theorem Agg(b kp kd kq cp cd cq:Nat)(fp fd fq:Int->Int->Int)(n c s pz dz qz:Int)(w:World)(hw:Fl b false w)(hp:Mp kp cp fp w)(hd:Mp kd cd fd w)(hq:Mp kq cq fq w)(d1:b≠kp)(d2:b≠kd)(d3:b≠kq)(d4:kp≠kd)(d5:kp≠kq)(d6:kd≠kq)(l1:cp<900)(l2:cd<900)(l3:cq<900)(n1:2<=n)(n6:n<=6)(T:Arj n c s (fp (n-1) (n-1)) (fd (n-1) (n-1)) (fq (n-1) (n-1)) pz dz qz)(i1:Cj pz)(i2:Cj dz)(i3:Cj qz):
    Calls Tryz.prog 274 #[.agg #[.map (some kp),.map (some kd),.map (some kq)],.pointer (some ⟨b,0,none⟩),.int .i64 n,.int .i64 c,.int .i64 s] w fun e w'=>e=.returned (.tuple #[])/\Fl b false w'/\Mp kp (cp+1) (AO fp n n pz) w'/\Mp kd (cd+1) (AO fd n n dz) w'/\Mp kq (cq+1) (AO fq n n qz) w'/\Ah [b,kp,kd,kq] w w':=by
 have hl:=hw.lies
 have l_p:=hp.lies
 have l_d:=hd.lies
 have l_q:=hq.lies
 have hs4:mulS false c ((AO fp n n pz) (n-1) (n-1))=(T.v4,false):=by rw[show AO fp n n pz (n-1) (n-1)=fp (n-1) (n-1)from if_neg (by omega)];exact T.h4
 go_enter Tryz.func274,Tryz.ntmps274
 have y1_BF:=hw.lies
 have y1_MP:=hp.lies
 have y1_MD:=hd.lies
 have y1_MQ:=hq.lies
 have y2_BF:b<w.heap.size+1:=(Nat.lt_succ_of_lt hw.lies)
 have y2_MP:kp<w.heap.size+1:=(Nat.lt_succ_of_lt hp.lies)
 have y2_MD:kd<w.heap.size+1:=(Nat.lt_succ_of_lt hd.lies)
 have y2_MQ:kq<w.heap.size+1:=(Nat.lt_succ_of_lt hq.lies)
 have y2_B0:w.heap.size<w.heap.size+1:=by omega
 have y3_BF:b<w.heap.size+1+1:=(Nat.lt_succ_of_lt (Nat.lt_succ_of_lt hw.lies))
 have y3_MP:kp<w.heap.size+1+1:=(Nat.lt_succ_of_lt (Nat.lt_succ_of_lt hp.lies))
 have y3_MD:kd<w.heap.size+1+1:=(Nat.lt_succ_of_lt (Nat.lt_succ_of_lt hd.lies))
 have y3_MQ:kq<w.heap.size+1+1:=(Nat.lt_succ_of_lt (Nat.lt_succ_of_lt hq.lies))
 have y3_B0:w.heap.size<w.heap.size+1+1:=by omega
 have y3_B1:w.heap.size+1<w.heap.size+1+1:=by omega
 go_wp2_with fail
 refine(Cl b false 1099511627776 ((2*n)-1) (2*n) _ (((hw.alloc _).alloc _).alloc _)).mono ?_
 rintro e w1 ⟨rfl,f1,k1⟩
 rw[T.hp]at f1 ⊢
 dsimp only at f1 ⊢
 have K1:Ah [b,kp,kd,kq] w w1:=Ah.on ((((Ah.refl [b,kp,kd,kq] w).al _).al _).al _) k1 (by simp)
 have MP_1:Mp kp cp fp w1:=(((hp.alloc _).alloc _).alloc _).kept k1 (by omega)
 have MD_1:Mp kd cd fd w1:=(((hd.alloc _).alloc _).alloc _).kept k1 (by omega)
 have MQ_1:Mp kq cq fq w1:=(((hq.alloc _).alloc _).alloc _).kept k1 (by omega)
 have B0_1:=(((Am _ w.heap.size [.map (some kp),.map (some kd),.map (some kq)] _ (by simp)).alloc _).alloc _).kept k1 (zG y1_BF)
 have B1_1:=((Am _ (w.heap.size+1) [.int .i64 n,.int .i64 n] _ (by simp)).alloc _).kept k1 (zG y2_BF)
 have B2_1:=(Am _ (w.heap.size+1+1) [.int .i64 (n-1),.int .i64 (n-1)] _ (by simp)).kept k1 (zG y3_BF)
 have z1:=B2_1.lies
 clear hp hd hq k1
 go_wp2_with fail
 refine(KV b false T.p _ f1).mono ?_
 rintro e w2 ⟨rfl,f2,k2⟩
 rw[T.hj]at f2 ⊢
 dsimp only at f2 ⊢
 have K2:Ah [b,kp,kd,kq] w w2:=Ah.on K1 k2 (by simp)
 have MP_2:Mp kp cp fp w2:=MP_1.kept k2 (by omega)
 have MD_2:Mp kd cd fd w2:=MD_1.kept k2 (by omega)
 have MQ_2:Mp kq cq fq w2:=MQ_1.kept k2 (by omega)
 have B0_2:=B0_1.kept k2 (zG y1_BF)
 have B1_2:=B1_1.kept k2 (zG y2_BF)
 have B2_2:=B2_1.kept k2 (zG y3_BF)
 have z2:=B2_2.lies
 clear K1 f1 MP_1 MD_1 MQ_1 B0_1 B1_1 B2_1 k2
 go_wp2_with fail
 refine wp_region_held_drew (S:=fun w'=>Ap w.heap.size [.map (some kp),.map (some kd),.map (some kq)] w'/\Ap (w.heap.size+1) [.int .i64 n,.int .i64 n] w'/\Ap (w.heap.size+1+1) [.int .i64 (n-1),.int .i64 (n-1)] w'/\AM kp fp n n w') (by kernel_rfl) ⟨B0_2.drew,B1_2.drew,B2_2.drew,(AM.same MP_2.drew)⟩ (fun zH=>?_)
 refine zT 0 rfl (by kernel_rfl) (fun _ _ _=>id) rfl (fun _ _=>by go_simp<;>with_reducible rfl) zH ?_
 simp only[Act.put,zA,zB,zC]
 refine zT 1 rfl (by kernel_rfl) (fun _ _ _=>id) rfl (fun wx hS=>by have hc0:wx.cell? ⟨w.heap.size,0,none⟩=some (.map (some kp)):=hS.1.c 0 (zD rfl);go_simp<;>with_reducible rfl) zH ?_
 simp only[Act.put,zA,zB,zC]
 refine zT 2 rfl (by kernel_rfl) (fun _ _ _=>id) rfl (fun wx hS=>by have hc0:wx.cell? ⟨w.heap.size+1,0,none⟩=some (.int .i64 n):=hS.2.1.c 0 (zD rfl);have hc1:wx.cell? ⟨w.heap.size+1,1,none⟩=some (.int .i64 n):=hS.2.1.c 1 (zD rfl);go_simp<;>with_reducible rfl) zH ?_
 simp only[Act.put,zA,zB,zC]
 refine zT 3 rfl (by kernel_rfl) (fun _ _ _=>id) rfl (fun _ _=>by go_simp<;>with_reducible rfl) zH ?_
 simp only[Act.put,zA,zB,zC]
 refine zT 4 rfl (by kernel_rfl) (fun _ _ _=>id) rfl (fun _ _=>by go_simp<;>with_reducible rfl) zH ?_
 simp only[Act.put,zA,zB,zC]
 refine zT 5 rfl (by kernel_rfl) (fun _ _ _=>id) rfl (fun _ _=>by go_simp<;>with_reducible rfl) zH ?_
 simp only[Act.put,zA,zB,zC]
 refine zT 6 rfl (by kernel_rfl) (fun _ _ _=>id) rfl (fun _ _=>by go_simp<;>with_reducible rfl) zH ?_
 simp only[Act.put,zA,zB,zC]
 refine zT 7 rfl (by kernel_rfl) (fun _ _ _=>id) rfl (fun _ _=>by go_simp<;>with_reducible rfl) zH ?_
 simp only[Act.put,zA,zB,zC]
 refine zT 8 rfl (by kernel_rfl) (fun _ _ _=>id) rfl (fun wx hS=>by have hc0:wx.cell? ⟨w.heap.size,0,none⟩=some (.map (some kp)):=hS.1.c 0 (zD rfl);go_simp<;>with_reducible rfl) zH ?_
 simp only[Act.put,zA,zB,zC]
 refine zT 9 rfl (by kernel_rfl) (fun _ _ _=>id) rfl (fun wx hS=>by have hc0:wx.cell? ⟨w.heap.size+1+1,0,none⟩=some (.int .i64 (n-1)):=hS.2.2.1.c 0 (zD rfl);have hc1:wx.cell? ⟨w.heap.size+1+1,1,none⟩=some (.int .i64 (n-1)):=hS.2.2.1.c 1 (zD rfl);go_simp<;>with_reducible rfl) zH ?_
 simp only[Act.put,zA,zB,zC]
 refine Bw (i:=10) rfl (by kernel_rfl) (by kernel_rfl) (by kernel_rfl) (fun _ _ _ h=>h) (AX (by rfl) rfl rfl rfl (fun _ hS=>hS.2.2.2) ⟨by omega,by omega⟩ ⟨by omega,by omega⟩ (by omega)) zH ?_
 simp only[Act.put,zA,zB,zC]
 refine zK 11 (by kernel_rfl) rfl (fun K hK=>?_)
 go_simp
 refine(Ak b false s (fp (n-1) (n-1)) _ f2.drew).mono ?_
 rintro e w3 ⟨rfl,f3,k3⟩
 rw[T.h1]at f3 ⊢
 dsimp only at f3 ⊢
 have K3:Ah [b,kp,kd,kq] w w3:=Ah.on K2.drew k3 (by simp)
 have MP_3:Mp kp cp fp w3:=MP_2.drew.kept k3 (by omega)
 have MD_3:Mp kd cd fd w3:=MD_2.drew.kept k3 (by omega)
 have MQ_3:Mp kq cq fq w3:=MQ_2.drew.kept k3 (by omega)
 have B0_3:=B0_2.drew.kept k3 (zG y1_BF)
 have B1_3:=B1_2.drew.kept k3 (zG y2_BF)
 have B2_3:=B2_2.drew.kept k3 (zG y3_BF)
 have z3:=B2_3.lies
 clear zH
 refine hK.out _ _ ⟨B0_3,B1_3,B2_3,(AM.same MP_3)⟩ (fun zH=>?_)
 clear hK K K2 f2 MP_2 MD_2 MQ_2 B0_2 B1_2 B2_2 k3
 refine zK 12 (by kernel_rfl) rfl (fun K hK=>?_)
 go_simp
 refine(Ak b false T.j T.v1 _ f3).mono ?_
 rintro e w4 ⟨rfl,f4,k4⟩
 rw[T.h2]at f4 ⊢
 dsimp only at f4 ⊢
 have K4:Ah [b,kp,kd,kq] w w4:=Ah.on K3 k4 (by simp)
 have MP_4:Mp kp cp fp w4:=MP_3.kept k4 (by omega)
 have MD_4:Mp kd cd fd w4:=MD_3.kept k4 (by omega)
 have MQ_4:Mp kq cq fq w4:=MQ_3.kept k4 (by omega)
 have B0_4:=B0_3.kept k4 (zG y1_BF)
 have B1_4:=B1_3.kept k4 (zG y2_BF)
 have B2_4:=B2_3.kept k4 (zG y3_BF)
 have z4:=B2_4.lies
 clear zH
 refine hK.out _ _ ⟨B0_4,B1_4,B2_4,(AM.same MP_4)⟩ (fun zH=>?_)
 clear hK K K3 f3 MP_3 MD_3 MQ_3 B0_3 B1_3 B2_3 k4
 refine zK 13 (by kernel_rfl) rfl (fun K hK=>?_)
 refine Ge (by rfl) rfl rfl rfl rfl MP_4 (by omega) ⟨by omega,by omega⟩ ⟨by omega,by omega⟩ i1 ?_
 intro w5 MP_5 k5
 have K5:Ah [b,kp,kd,kq] w w5:=Ah.on K4 k5 (by simp)
 have BF_5:=f4.kept k5 (by omega)
 have MD_5:Mp kd cd fd w5:=MD_4.kept k5 (by omega)
 have MQ_5:Mp kq cq fq w5:=MQ_4.kept k5 (by omega)
 have B0_5:=B0_4.kept k5 (zG y1_MP)
 have B1_5:=B1_4.kept k5 (zG y2_MP)
 have B2_5:=B2_4.kept k5 (zG y3_MP)
 have z5:=K5.size
 simp only[Act.put]
 clear zH
 refine hK.out _ _ ⟨B0_5,B1_5,B2_5,(AM.upd MP_5)⟩ (fun zH=>?_)
 clear hK K K4 MP_4 f4 MD_4 MQ_4 B0_4 B1_4 B2_4 k5
 refine wpAnyH_done (by kernel_rfl) ?_ _
 clear zH
 go_wp2_with fail
 refine wp_region_held_drew (S:=fun w'=>Ap w.heap.size [.map (some kp),.map (some kd),.map (some kq)] w'/\Ap (w.heap.size+1) [.int .i64 n,.int .i64 n] w'/\Ap (w.heap.size+1+1) [.int .i64 (n-1),.int .i64 (n-1)] w'/\AM kd fd n n w'/\Mp kp (cp+1) (AO fp n n pz) w') (by kernel_rfl) ⟨B0_5.drew,B1_5.drew,B2_5.drew,(AM.same MD_5.drew),MP_5.drew⟩ (fun zH=>?_)
 refine zT 0 rfl (by kernel_rfl) (fun _ _ _=>id) rfl (fun _ _=>by go_simp<;>with_reducible rfl) zH ?_
 simp only[Act.put,zA,zB,zC]
 refine zT 1 rfl (by kernel_rfl) (fun _ _ _=>id) rfl (fun wx hS=>by have hc1:wx.cell? ⟨w.heap.size,1,none⟩=some (.map (some kd)):=hS.1.c 1 (zD rfl);go_simp<;>with_reducible rfl) zH ?_
 simp only[Act.put,zA,zB,zC]
 refine zT 2 rfl (by kernel_rfl) (fun _ _ _=>id) rfl (fun wx hS=>by have hc0:wx.cell? ⟨w.heap.size+1,0,none⟩=some (.int .i64 n):=hS.2.1.c 0 (zD rfl);have hc1:wx.cell? ⟨w.heap.size+1,1,none⟩=some (.int .i64 n):=hS.2.1.c 1 (zD rfl);go_simp<;>with_reducible rfl) zH ?_
 simp only[Act.put,zA,zB,zC]
 refine zT 3 rfl (by kernel_rfl) (fun _ _ _=>id) rfl (fun _ _=>by go_simp<;>with_reducible rfl) zH ?_
 simp only[Act.put,zA,zB,zC]
 refine zT 4 rfl (by kernel_rfl) (fun _ _ _=>id) rfl (fun _ _=>by go_simp<;>with_reducible rfl) zH ?_
 simp only[Act.put,zA,zB,zC]
 refine zT 5 rfl (by kernel_rfl) (fun _ _ _=>id) rfl (fun _ _=>by go_simp<;>with_reducible rfl) zH ?_
 simp only[Act.put,zA,zB,zC]
 refine zT 6 rfl (by kernel_rfl) (fun _ _ _=>id) rfl (fun _ _=>by go_simp<;>with_reducible rfl) zH ?_
 simp only[Act.put,zA,zB,zC]
 refine zT 7 rfl (by kernel_rfl) (fun _ _ _=>id) rfl (fun _ _=>by go_simp<;>with_reducible rfl) zH ?_
 simp only[Act.put,zA,zB,zC]
 refine zT 8 rfl (by kernel_rfl) (fun _ _ _=>id) rfl (fun _ _=>by go_simp<;>with_reducible rfl) zH ?_
 simp only[Act.put,zA,zB,zC]
 refine zT 9 rfl (by kernel_rfl) (fun _ _ _=>id) rfl (fun wx hS=>by have hc1:wx.cell? ⟨w.heap.size,1,none⟩=some (.map (some kd)):=hS.1.c 1 (zD rfl);go_simp<;>with_reducible rfl) zH ?_
 simp only[Act.put,zA,zB,zC]
 refine zT 10 rfl (by kernel_rfl) (fun _ _ _=>id) rfl (fun wx hS=>by have hc0:wx.cell? ⟨w.heap.size+1+1,0,none⟩=some (.int .i64 (n-1)):=hS.2.2.1.c 0 (zD rfl);have hc1:wx.cell? ⟨w.heap.size+1+1,1,none⟩=some (.int .i64 (n-1)):=hS.2.2.1.c 1 (zD rfl);go_simp<;>with_reducible rfl) zH ?_
 simp only[Act.put,zA,zB,zC]
 refine Bw (i:=11) rfl (by kernel_rfl) (by kernel_rfl) (by kernel_rfl) (fun _ _ _ h=>h) (AX (by rfl) rfl rfl rfl (fun _ hS=>hS.2.2.2.1) ⟨by omega,by omega⟩ ⟨by omega,by omega⟩ (by omega)) zH ?_
 simp only[Act.put,zA,zB,zC]
 refine zT 13 rfl (by kernel_rfl) (fun _ _ _=>id) rfl (fun _ _=>by go_simp<;>with_reducible rfl) zH ?_
 simp only[Act.put,zA,zB,zC]
 refine zT 14 rfl (by kernel_rfl) (fun _ _ _=>id) rfl (fun _ _=>by go_simp<;>with_reducible rfl) zH ?_
 simp only[Act.put,zA,zB,zC]
 refine zT 15 rfl (by kernel_rfl) (fun _ _ _=>id) rfl (fun _ _=>by go_simp<;>with_reducible rfl) zH ?_
 simp only[Act.put,zA,zB,zC]
 refine zT 16 rfl (by kernel_rfl) (fun _ _ _=>id) rfl (fun wx hS=>by have hc0:wx.cell? ⟨w.heap.size,0,none⟩=some (.map (some kp)):=hS.1.c 0 (zD rfl);go_simp<;>with_reducible rfl) zH ?_
 simp only[Act.put,zA,zB,zC]
 refine zT 17 rfl (by kernel_rfl) (fun _ _ _=>id) rfl (fun wx hS=>by have hc0:wx.cell? ⟨w.heap.size+1+1,0,none⟩=some (.int .i64 (n-1)):=hS.2.2.1.c 0 (zD rfl);have hc1:wx.cell? ⟨w.heap.size+1+1,1,none⟩=some (.int .i64 (n-1)):=hS.2.2.1.c 1 (zD rfl);go_simp<;>with_reducible rfl) zH ?_
 simp only[Act.put,zA,zB,zC]
 refine Bw (i:=18) rfl (by kernel_rfl) (by kernel_rfl) (by kernel_rfl) (fun _ _ _ h=>h) (Gd (by rfl) rfl rfl rfl (fun _ hS=>hS.2.2.2.2) ⟨by omega,by omega⟩ ⟨by omega,by omega⟩) zH ?_
 simp only[Act.put,zA,zB,zC]
 refine zK 12 (by kernel_rfl) rfl (fun K hK=>?_)
 go_simp
 refine(Ak b false s (fd (n-1) (n-1)) _ BF_5.drew).mono ?_
 rintro e w6 ⟨rfl,f6,k6⟩
 rw[T.h3]at f6 ⊢
 dsimp only at f6 ⊢
 have K6:Ah [b,kp,kd,kq] w w6:=Ah.on K5.drew k6 (by simp)
 have MP_6:Mp kp (cp+1) (AO fp n n pz) w6:=MP_5.drew.kept k6 (by omega)
 have MD_6:Mp kd cd fd w6:=MD_5.drew.kept k6 (by omega)
 have MQ_6:Mp kq cq fq w6:=MQ_5.drew.kept k6 (by omega)
 have B0_6:=B0_5.drew.kept k6 (zG y1_BF)
 have B1_6:=B1_5.drew.kept k6 (zG y2_BF)
 have B2_6:=B2_5.drew.kept k6 (zG y3_BF)
 have z6:=B2_6.lies
 clear zH
 refine hK.out _ _ ⟨B0_6,B1_6,B2_6,(AM.same MD_6),MP_6⟩ (fun zH=>?_)
 clear hK K K5 BF_5 MP_5 MD_5 MQ_5 B0_5 B1_5 B2_5 k6
 refine zK 19 (by kernel_rfl) rfl (fun K hK=>?_)
 go_simp
 refine(Ak b false c ((AO fp n n pz) (n-1) (n-1)) _ f6).mono ?_
 rintro e w7 ⟨rfl,f7,k7⟩
 rw[hs4]at f7 ⊢
 dsimp only at f7 ⊢
 have K7:Ah [b,kp,kd,kq] w w7:=Ah.on K6 k7 (by simp)
 have MP_7:Mp kp (cp+1) (AO fp n n pz) w7:=MP_6.kept k7 (by omega)
 have MD_7:Mp kd cd fd w7:=MD_6.kept k7 (by omega)
 have MQ_7:Mp kq cq fq w7:=MQ_6.kept k7 (by omega)
 have B0_7:=B0_6.kept k7 (zG y1_BF)
 have B1_7:=B1_6.kept k7 (zG y2_BF)
 have B2_7:=B2_6.kept k7 (zG y3_BF)
 have z7:=B2_7.lies
 clear zH
 refine hK.out _ _ ⟨B0_7,B1_7,B2_7,(AM.same MD_7),MP_7⟩ (fun zH=>?_)
 clear hK K K6 f6 MP_6 MD_6 MQ_6 B0_6 B1_6 B2_6 k7
 refine zK 20 (by kernel_rfl) rfl (fun K hK=>?_)
 go_simp
 refine(BM b false T.v3 T.v4 _ f7).mono ?_
 rintro e w8 ⟨rfl,f8,k8⟩
 rw[T.h5]at f8 ⊢
 dsimp only at f8 ⊢
 have K8:Ah [b,kp,kd,kq] w w8:=Ah.on K7 k8 (by simp)
 have MP_8:Mp kp (cp+1) (AO fp n n pz) w8:=MP_7.kept k8 (by omega)
 have MD_8:Mp kd cd fd w8:=MD_7.kept k8 (by omega)
 have MQ_8:Mp kq cq fq w8:=MQ_7.kept k8 (by omega)
 have B0_8:=B0_7.kept k8 (zG y1_BF)
 have B1_8:=B1_7.kept k8 (zG y2_BF)
 have B2_8:=B2_7.kept k8 (zG y3_BF)
 have z8:=B2_8.lies
 clear zH
 refine hK.out _ _ ⟨B0_8,B1_8,B2_8,(AM.same MD_8),MP_8⟩ (fun zH=>?_)
 clear hK K K7 f7 MP_7 MD_7 MQ_7 B0_7 B1_7 B2_7 k8
 refine zK 21 (by kernel_rfl) rfl (fun K hK=>?_)
 go_simp
 refine(Ak b false T.j T.v5 _ f8).mono ?_
 rintro e w9 ⟨rfl,f9,k9⟩
 rw[T.h6]at f9 ⊢
 dsimp only at f9 ⊢
 have K9:Ah [b,kp,kd,kq] w w9:=Ah.on K8 k9 (by simp)
 have MP_9:Mp kp (cp+1) (AO fp n n pz) w9:=MP_8.kept k9 (by omega)
 have MD_9:Mp kd cd fd w9:=MD_8.kept k9 (by omega)
 have MQ_9:Mp kq cq fq w9:=MQ_8.kept k9 (by omega)
 have B0_9:=B0_8.kept k9 (zG y1_BF)
 have B1_9:=B1_8.kept k9 (zG y2_BF)
 have B2_9:=B2_8.kept k9 (zG y3_BF)
 have z9:=B2_9.lies
 clear zH
 refine hK.out _ _ ⟨B0_9,B1_9,B2_9,(AM.same MD_9),MP_9⟩ (fun zH=>?_)
 clear hK K K8 f8 MP_8 MD_8 MQ_8 B0_8 B1_8 B2_8 k9
 refine zK 22 (by kernel_rfl) rfl (fun K hK=>?_)
 refine Ge (by rfl) rfl rfl rfl rfl MD_9 (by omega) ⟨by omega,by omega⟩ ⟨by omega,by omega⟩ i2 ?_
 intro w10 MD_10 k10
 have K10:Ah [b,kp,kd,kq] w w10:=Ah.on K9 k10 (by simp)
 have BF_10:=f9.kept k10 (by omega)
 have MP_10:Mp kp (cp+1) (AO fp n n pz) w10:=MP_9.kept k10 (by omega)
 have MQ_10:Mp kq cq fq w10:=MQ_9.kept k10 (by omega)
 have B0_10:=B0_9.kept k10 (zG y1_MD)
 have B1_10:=B1_9.kept k10 (zG y2_MD)
 have B2_10:=B2_9.kept k10 (zG y3_MD)
 have z10:=K10.size
 simp only[Act.put]
 clear zH
 refine hK.out _ _ ⟨B0_10,B1_10,B2_10,(AM.upd MD_10),MP_10⟩ (fun zH=>?_)
 clear hK K K9 MD_9 f9 MP_9 MQ_9 B0_9 B1_9 B2_9 k10
 refine wpAnyH_done (by kernel_rfl) ?_ _
 clear zH
 go_wp2_with fail
 refine wp_region_held_drew (S:=fun w'=>Ap w.heap.size [.map (some kp),.map (some kd),.map (some kq)] w'/\Ap (w.heap.size+1) [.int .i64 n,.int .i64 n] w'/\Ap (w.heap.size+1+1) [.int .i64 (n-1),.int .i64 (n-1)] w'/\AM kq fq n n w') (by kernel_rfl) ⟨B0_10.drew,B1_10.drew,B2_10.drew,(AM.same MQ_10.drew)⟩ (fun zH=>?_)
 refine zT 0 rfl (by kernel_rfl) (fun _ _ _=>id) rfl (fun _ _=>by go_simp<;>with_reducible rfl) zH ?_
 simp only[Act.put,zA,zB,zC]
 refine zT 1 rfl (by kernel_rfl) (fun _ _ _=>id) rfl (fun wx hS=>by have hc2:wx.cell? ⟨w.heap.size,2,none⟩=some (.map (some kq)):=hS.1.c 2 (zD rfl);go_simp<;>with_reducible rfl) zH ?_
 simp only[Act.put,zA,zB,zC]
 refine zT 2 rfl (by kernel_rfl) (fun _ _ _=>id) rfl (fun wx hS=>by have hc0:wx.cell? ⟨w.heap.size+1,0,none⟩=some (.int .i64 n):=hS.2.1.c 0 (zD rfl);have hc1:wx.cell? ⟨w.heap.size+1,1,none⟩=some (.int .i64 n):=hS.2.1.c 1 (zD rfl);go_simp<;>with_reducible rfl) zH ?_
 simp only[Act.put,zA,zB,zC]
 refine zT 3 rfl (by kernel_rfl) (fun _ _ _=>id) rfl (fun _ _=>by go_simp<;>with_reducible rfl) zH ?_
 simp only[Act.put,zA,zB,zC]
 refine zT 4 rfl (by kernel_rfl) (fun _ _ _=>id) rfl (fun _ _=>by go_simp<;>with_reducible rfl) zH ?_
 simp only[Act.put,zA,zB,zC]
 refine zT 5 rfl (by kernel_rfl) (fun _ _ _=>id) rfl (fun _ _=>by go_simp<;>with_reducible rfl) zH ?_
 simp only[Act.put,zA,zB,zC]
 refine zT 6 rfl (by kernel_rfl) (fun _ _ _=>id) rfl (fun _ _=>by go_simp<;>with_reducible rfl) zH ?_
 simp only[Act.put,zA,zB,zC]
 refine zT 7 rfl (by kernel_rfl) (fun _ _ _=>id) rfl (fun _ _=>by go_simp<;>with_reducible rfl) zH ?_
 simp only[Act.put,zA,zB,zC]
 refine zT 8 rfl (by kernel_rfl) (fun _ _ _=>id) rfl (fun wx hS=>by have hc2:wx.cell? ⟨w.heap.size,2,none⟩=some (.map (some kq)):=hS.1.c 2 (zD rfl);go_simp<;>with_reducible rfl) zH ?_
 simp only[Act.put,zA,zB,zC]
 refine zT 9 rfl (by kernel_rfl) (fun _ _ _=>id) rfl (fun wx hS=>by have hc0:wx.cell? ⟨w.heap.size+1+1,0,none⟩=some (.int .i64 (n-1)):=hS.2.2.1.c 0 (zD rfl);have hc1:wx.cell? ⟨w.heap.size+1+1,1,none⟩=some (.int .i64 (n-1)):=hS.2.2.1.c 1 (zD rfl);go_simp<;>with_reducible rfl) zH ?_
 simp only[Act.put,zA,zB,zC]
 refine Bw (i:=10) rfl (by kernel_rfl) (by kernel_rfl) (by kernel_rfl) (fun _ _ _ h=>h) (AX (by rfl) rfl rfl rfl (fun _ hS=>hS.2.2.2) ⟨by omega,by omega⟩ ⟨by omega,by omega⟩ (by omega)) zH ?_
 simp only[Act.put,zA,zB,zC]
 refine zK 11 (by kernel_rfl) rfl (fun K hK=>?_)
 go_simp
 refine(Ak b false s (fq (n-1) (n-1)) _ BF_10.drew).mono ?_
 rintro e w11 ⟨rfl,f11,k11⟩
 rw[T.h7]at f11 ⊢
 dsimp only at f11 ⊢
 have K11:Ah [b,kp,kd,kq] w w11:=Ah.on K10.drew k11 (by simp)
 have MP_11:Mp kp (cp+1) (AO fp n n pz) w11:=MP_10.drew.kept k11 (by omega)
 have MD_11:Mp kd (cd+1) (AO fd n n dz) w11:=MD_10.drew.kept k11 (by omega)
 have MQ_11:Mp kq cq fq w11:=MQ_10.drew.kept k11 (by omega)
 have B0_11:=B0_10.drew.kept k11 (zG y1_BF)
 have B1_11:=B1_10.drew.kept k11 (zG y2_BF)
 have B2_11:=B2_10.drew.kept k11 (zG y3_BF)
 have z11:=B2_11.lies
 clear zH
 refine hK.out _ _ ⟨B0_11,B1_11,B2_11,(AM.same MQ_11)⟩ (fun zH=>?_)
 clear hK K K10 BF_10 MP_10 MD_10 MQ_10 B0_10 B1_10 B2_10 k11
 refine zK 12 (by kernel_rfl) rfl (fun K hK=>?_)
 go_simp
 refine(Ak b false T.j T.v7 _ f11).mono ?_
 rintro e w12 ⟨rfl,f12,k12⟩
 rw[T.h8]at f12 ⊢
 dsimp only at f12 ⊢
 have K12:Ah [b,kp,kd,kq] w w12:=Ah.on K11 k12 (by simp)
 have MP_12:Mp kp (cp+1) (AO fp n n pz) w12:=MP_11.kept k12 (by omega)
 have MD_12:Mp kd (cd+1) (AO fd n n dz) w12:=MD_11.kept k12 (by omega)
 have MQ_12:Mp kq cq fq w12:=MQ_11.kept k12 (by omega)
 have B0_12:=B0_11.kept k12 (zG y1_BF)
 have B1_12:=B1_11.kept k12 (zG y2_BF)
 have B2_12:=B2_11.kept k12 (zG y3_BF)
 have z12:=B2_12.lies
 clear zH
 refine hK.out _ _ ⟨B0_12,B1_12,B2_12,(AM.same MQ_12)⟩ (fun zH=>?_)
 clear hK K K11 f11 MP_11 MD_11 MQ_11 B0_11 B1_11 B2_11 k12
 refine zK 13 (by kernel_rfl) rfl (fun K hK=>?_)
 refine Ge (by rfl) rfl rfl rfl rfl MQ_12 (by omega) ⟨by omega,by omega⟩ ⟨by omega,by omega⟩ i3 ?_
 intro w13 MQ_13 k13
 have K13:Ah [b,kp,kd,kq] w w13:=Ah.on K12 k13 (by simp)
 have BF_13:=f12.kept k13 (by omega)
 have MP_13:Mp kp (cp+1) (AO fp n n pz) w13:=MP_12.kept k13 (by omega)
 have MD_13:Mp kd (cd+1) (AO fd n n dz) w13:=MD_12.kept k13 (by omega)
 have B0_13:=B0_12.kept k13 (zG y1_MQ)
 have B1_13:=B1_12.kept k13 (zG y2_MQ)
 have B2_13:=B2_12.kept k13 (zG y3_MQ)
 have z13:=K13.size
 simp only[Act.put]
 clear zH
 refine hK.out _ _ ⟨B0_13,B1_13,B2_13,(AM.upd MQ_13)⟩ (fun zH=>?_)
 clear hK K K12 MQ_12 f12 MP_12 MD_12 B0_12 B1_12 B2_12 k13
 refine wpAnyH_done (by kernel_rfl) ?_ _
 clear zH
 go_wp2
 go_end0
 exact⟨rfl,BF_13,MP_13,MD_13,MQ_13,K13⟩
end Go.Proofs.YtgmpfeaanjnhaaaGreatDoor
namespace Go.Proofs.YtgmpfeaanjnhaaaGreatDoor
open Go.RowKit
theorem Agh(b kp kd kq k m:Nat)(c s:Int)(P D Q:Nat->Nat->Int)(Z:Tri c s P D Q)(w:World)(hw:Fl b false w)(hp:Mp kp (8*k+m+2) (AG P k m) w)(hd:Mp kd (8*k+m+2) (AG D k m) w)(hq:Mp kq (8*k+m+2) (AG Q k m) w)(d1:b≠kp)(d2:b≠kd)(d3:b≠kq)(d4:kp≠kd)(d5:kp≠kq)(d6:kd≠kq)(hk:k<6)(hm:m<k+1):
    Calls Tryz.prog 273 #[.agg #[.map (some kp),.map (some kd),.map (some kq)],.pointer (some ⟨b,0,none⟩),.int .i64 ((k:Int)+1),.int .i64 (m:Int),.int .i64 c,.int .i64 s] w fun e w'=>e=.returned (.tuple #[])/\Fl b false w'/\Mp kp (8*k+(m+1)+2) (AG P k (m+1)) w'/\Mp kd (8*k+(m+1)+2) (AG D k (m+1)) w'/\Mp kq (8*k+(m+1)+2) (AG Q k (m+1)) w'/\Ah [b,kp,kd,kq] w w':=by
 have T:=Z.T k m hk hm
 have U:=Z.U k m hk hm
 rw[<-Jp P hm,<-Jp D hm,<-Hw P,<-Hw D]at T
 rw[<-Jp Q hm,<-Hw Q]at U
 have ip:=Z.ip (k+1) m (by omega);have id:=Z.id (k+1) m (by omega);have iq:=Z.iq (k+1) m (by omega)
 by_cases h:(m:Int)>0
 ·refine(Zw b kp kd kq _ _ _ _ _ _ ((k:Int)+1) m c s _ _ _ _ _ w hw hp hd hq d1 d2 d3 d4 d5 d6 (by omega) (by omega) (by omega) (by omega) (by omega) (by omega) (by omega) (Z.R k m hk hm) T ip id U iq h).mono ?_
  rintro e w' ⟨he,f,p,d,q,kp⟩
  exact⟨he,f,(p.mono (by omega)).eqv (Gg P hm),(d.mono (by omega)).eqv (Gg D hm),(q.mono (by omega)).eqv (Gg Q hm),kp⟩
 ·obtain rfl:m=0:=by omega
  refine(UV b kp kd kq _ _ _ _ _ _ ((k:Int)+1) ((0:Nat):Int) c s _ _ _ _ w hw hp hd hq d1 d2 d3 d4 d5 d6 (by omega) (by omega) (by omega) (by omega) (by omega) (Z.R k 0 hk hm) T ip id h).mono ?_
  rintro e w' ⟨he,f,p,d,q,kp⟩
  exact⟨he,f,(p.mono (by omega)).eqv (Gg P hm),(d.mono (by omega)).eqv (Gg D hm),(q.mono (by omega)).eqv (Zr Q k (Z.qz (k+1) (by omega))),kp⟩
theorem Al4(b kp kd kq k:Nat)(c s:Int)(P D Q:Nat->Nat->Int)(Z:Tri c s P D Q)(w:World)(hw:Fl b false w)(hp:Mp kp (8*k+(k+1)+2) (AG P k (k+1)) w)(hd:Mp kd (8*k+(k+1)+2) (AG D k (k+1)) w)(hq:Mp kq (8*k+(k+1)+2) (AG Q k (k+1)) w)(d1:b≠kp)(d2:b≠kd)(d3:b≠kq)(d4:kp≠kd)(d5:kp≠kq)(d6:kd≠kq)(hk:k<6)(h:(k:Int)+1>1):
    Calls Tryz.prog 274 #[.agg #[.map (some kp),.map (some kd),.map (some kq)],.pointer (some ⟨b,0,none⟩),.int .i64 ((k:Int)+1),.int .i64 c,.int .i64 s] w fun e w'=>e=.returned (.tuple #[])/\Fl b false w'/\Mp kp (8*(k+1)+2) (AG P (k+1) 0) w'/\Mp kd (8*(k+1)+2) (AG D (k+1) 0) w'/\Mp kq (8*(k+1)+2) (AG Q (k+1) 0) w'/\Ah [b,kp,kd,kq] w w':=by
 have J:=Z.J k (by omega) hk
 rw[<-Jq P,<-Jq D,<-Jq Q]at J
 have ip:=Z.ip (k+1) (k+1) (by omega);have id:=Z.id (k+1) (k+1) (by omega);have iq:=Z.iq (k+1) (k+1) (by omega)
 refine(Agg b kp kd kq _ _ _ _ _ _ ((k:Int)+1) c s _ _ _ w hw hp hd hq d1 d2 d3 d4 d5 d6 (by omega) (by omega) (by omega) (by omega) (by omega) J ip id iq).mono ?_
 rintro e w' ⟨he,f,p,d,q,kp⟩
 exact⟨he,f,(p.mono (by omega)).eqv (Jr P k),(d.mono (by omega)).eqv (Jr D k),(q.mono (by omega)).eqv (Jr Q k),kp⟩
end Go.Proofs.YtgmpfeaanjnhaaaGreatDoor
