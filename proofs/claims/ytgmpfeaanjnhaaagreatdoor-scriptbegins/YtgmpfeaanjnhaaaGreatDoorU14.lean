/-
A part.
A part.
A part.
A part.
-/
import Derived.Handy
import Derived.Deep.RegionHeld3
import Derived.Test.YtgmpfeaanjnhaaaGreatDoorU13
import Derived.Test.YtgmpfeaanjnhaaaGreatDoorU09
import Derived.Test.YtgmpfeaanjnhaaaGreatDoorU11
import Derived.Test.YtgmpfeaanjnhaaaGreatDoorU04
import Derived.Test.YtgmpfeaanjnhaaaGreatDoorU06
import Derived.Test.YtgmpfeaanjnhaaaGreatDoorU12
namespace Go.Proofs.YtgmpfeaanjnhaaaGreatDoor
open Go.RowKit
set_option maxRecDepth 100000
set_option maxHeartbeats 20000000
theorem UW(b:Nat)(c s:Int)(P D Q:Nat->Nat->Int)(Z:Tri c s P D Q)(ic:Cj c)(is:Cj s)(w:World)(hw:Fl b false w):
    Calls Tryz.prog 224 #[.pointer (some ⟨b,0,none⟩),.int .i64 c,.int .i64 s] w fun e w'=>∃kA kB kC:Nat,e=.returned (.agg #[.map (some kA),.map (some kB),.map (some kC)])/\Fl b false w'/\Mp kA 50 (AG P 6 0) w'/\Mp kB 50 (AG D 6 0) w'/\Mp kC 50 (AG Q 6 0) w'/\w.heap.size<=kA/\w.heap.size<=kB/\w.heap.size<=kC/\kA≠kB/\kA≠kC/\kB≠kC/\Aa b w w':=by
 have hl:=hw.lies
 go_enter Tryz.func224,Tryz.ntmps224
 have y1_BF:=hw.lies
 go_wp2_with fail
 refine QA (fun KK1 hKK1=>?_)
 have cont1:∀(W1:World) (t1_10 t1_11 t1_12 t1_13 t1_14 t1_15 t1_16 t1_17 t1_18 t1_19 t1_20 t1_21 t1_22 t1_23:Value) (x1_0:Nat) (x1_1:Nat) (x1_2:Nat) (x1_3:Nat),Aa b w W1->Fl b false W1->Ap w.heap.size [.map none,.map none,.map none] W1->Mp x1_0 2 (OQ true 1099511627776 true s) W1->Mp x1_1 2 (OQ true 0 true c) W1->Mp x1_2 1 (OQ false 0 true 1099511627776) W1->Ap x1_3 [.map (some x1_0),.map (some x1_1),.map (some x1_2)] W1->w.heap.size<=x1_0->w.heap.size<=x1_1->w.heap.size<=x1_2->w.heap.size<=x1_3->b<x1_0->w.heap.size<x1_0->b<x1_1->w.heap.size<x1_1->b<x1_2->w.heap.size<x1_2->b<x1_3->w.heap.size<x1_3->x1_0≠x1_1->x1_0≠x1_2->x1_0≠x1_3->x1_1≠x1_2->x1_1≠x1_3->x1_2≠x1_3->KK1 {tmps:=#[.pointer (some ⟨b,0,none⟩),.int .i64 c,.int .i64 s,undef,undef,undef,.pointer (some ⟨w.heap.size,0,none⟩),.pointer (some ⟨x1_3,0,none⟩),undef,undef,t1_10,t1_11,t1_12,t1_13,t1_14,t1_15,t1_16,t1_17,t1_18,t1_19,t1_20,t1_21,t1_22,t1_23,undef,undef,undef,undef,undef,undef,undef,undef,undef,undef,undef,undef,undef,undef,undef,undef,undef,undef,undef,undef,undef,undef,undef,undef,undef],defers:=[]} W1:=by
  intro W1 t1_10 t1_11 t1_12 t1_13 t1_14 t1_15 t1_16 t1_17 t1_18 t1_19 t1_20 t1_21 t1_22 t1_23 x1_0 x1_1 x1_2 x1_3 KC1 BF_c1 B0_c1 B1_c1 B2_c1 B3_c1 B4_c1 s1_0 s1_1 s1_2 s1_3 s1_4 s1_5 s1_6 s1_7 s1_8 s1_9 s1_10 s1_11 s1_12 s1_13 s1_14 s1_15 s1_16 s1_17
  have zc1_BF:=BF_c1.lies
  have zc1_B0:=B0_c1.lies
  have zc1_B1:=B1_c1.lies
  have zc1_B2:=B2_c1.lies
  have zc1_B3:=B3_c1.lies
  have zc1_B4:=B4_c1.lies
  rw[hKK1.out]
  dsimp only[Exit.inBlock,Exit.then]
  first |refine QD (by assumption) ?_ |skip
  go_wp2_with fail
  obtain⟨J0,hJ0⟩:∃J:Nat->Act->World->Prop,Hid (J=fun k a Wl0=>∀G_:Prop,(∀(t0_3 t0_4 t0_5 t0_9 t0_10 t0_11 t0_12 t0_13 t0_14 t0_15 t0_16 t0_17 t0_18 t0_19 t0_20 t0_21 t0_22 t0_23 t0_24 t0_25 t0_26 t0_27 t0_28 t0_29 t0_30 t0_31 t0_32 t0_33 t0_34 t0_35 t0_36 t0_37 t0_38 t0_39 t0_40 t0_41 t0_42 t0_43 t0_44 t0_45 t0_46 t0_47 t0_48:Value),a={tmps:=#[.pointer (some ⟨b,0,none⟩),.int .i64 c,.int .i64 s,t0_3,t0_4,t0_5,.pointer (some ⟨w.heap.size,0,none⟩),.pointer (some ⟨x1_3,0,none⟩),.int .i64 ((k:Int)+1),t0_9,t0_10,t0_11,t0_12,t0_13,t0_14,t0_15,t0_16,t0_17,t0_18,t0_19,t0_20,t0_21,t0_22,t0_23,t0_24,t0_25,t0_26,t0_27,t0_28,t0_29,t0_30,t0_31,t0_32,t0_33,t0_34,t0_35,t0_36,t0_37,t0_38,t0_39,t0_40,t0_41,t0_42,t0_43,t0_44,t0_45,t0_46,t0_47,t0_48],defers:=[]}->Aa b w Wl0->Fl b false Wl0->Ap w.heap.size [.map none,.map none,.map none] Wl0->Mp x1_0 (8*k+2) (AG P k 0) Wl0->Mp x1_1 (8*k+2) (AG D k 0) Wl0->Mp x1_2 (8*k+2) (AG Q k 0) Wl0->Ap x1_3 [.map (some x1_0),.map (some x1_1),.map (some x1_2)] Wl0->G_)->G_):=⟨_,rfl⟩
  refine CV J0 6 ?_ ?_ ?_
  ·rw[hJ0.out]
   intro G_ hG_
   exact hG_ _ _ _ _ _ _ _ _ _ _ _ _ _ _ _ _ _ _ _ _ _ _ _ _ _ _ _ _ _ _ _ _ _ _ _ _ _ _ _ _ _ _ _ rfl KC1 BF_c1 B0_c1 (((B1_c1).mono (by decide)).eqv (Js P Z.p0 Z.p1)) (((B2_c1).mono (by decide)).eqv (Js D Z.d0 Z.d1)) ((((B3_c1).mono (by decide)).eqv (Af3 _ _)).eqv (Js Q Z.q0 Z.q1)) B4_c1
  ·intro k a Wl0 hk hI R hR
   rw[hJ0.out]at hI
   refine hI _ ?_
   clear hI
   intro t0_3 t0_4 t0_5 t0_9 t0_10 t0_11 t0_12 t0_13 t0_14 t0_15 t0_16 t0_17 t0_18 t0_19 t0_20 t0_21 t0_22 t0_23 t0_24 t0_25 t0_26 t0_27 t0_28 t0_29 t0_30 t0_31 t0_32 t0_33 t0_34 t0_35 t0_36 t0_37 t0_38 t0_39 t0_40 t0_41 t0_42 t0_43 t0_44 t0_45 t0_46 t0_47 t0_48 ea Kl0 BF_l0 B0_l0 B1_l0 B2_l0 B3_l0 B4_l0
   subst ea
   have zl0_BF:=BF_l0.lies
   have zl0_B0:=B0_l0.lies
   have zl0_B1:=B1_l0.lies
   have zl0_B2:=B2_l0.lies
   have zl0_B3:=B3_l0.lies
   have zl0_B4:=B4_l0.lies
   go_wp2_with fail
   obtain⟨J1,hJ1⟩:∃J:Nat->Act->World->Prop,Hid (J=fun m a Wl1=>∀G_:Prop,(∀(t1_3 t1_4 t1_5 t1_9 t1_10 t1_11 t1_12 t1_13 t1_14 t1_15 t1_16 t1_17 t1_18 t1_19 t1_20 t1_21 t1_22 t1_23 t1_24 t1_25 t1_26 t1_27 t1_30 t1_31 t1_32 t1_33 t1_34 t1_35 t1_36 t1_37 t1_38 t1_39 t1_40 t1_41 t1_42 t1_43 t1_44 t1_45 t1_46 t1_47 t1_48:Value),a={tmps:=#[.pointer (some ⟨b,0,none⟩),.int .i64 c,.int .i64 s,t1_3,t1_4,t1_5,.pointer (some ⟨w.heap.size,0,none⟩),.pointer (some ⟨x1_3,0,none⟩),.int .i64 ((k:Int)+1),t1_9,t1_10,t1_11,t1_12,t1_13,t1_14,t1_15,t1_16,t1_17,t1_18,t1_19,t1_20,t1_21,t1_22,t1_23,t1_24,t1_25,t1_26,t1_27,.int .i64 ((k:Int)+1),.int .i64 (m:Int),t1_30,t1_31,t1_32,t1_33,t1_34,t1_35,t1_36,t1_37,t1_38,t1_39,t1_40,t1_41,t1_42,t1_43,t1_44,t1_45,t1_46,t1_47,t1_48],defers:=[]}->Aa b w Wl1->Fl b false Wl1->Ap w.heap.size [.map none,.map none,.map none] Wl1->Mp x1_0 (8*k+m+2) (AG P k m) Wl1->Mp x1_1 (8*k+m+2) (AG D k m) Wl1->Mp x1_2 (8*k+m+2) (AG Q k m) Wl1->Ap x1_3 [.map (some x1_0),.map (some x1_1),.map (some x1_2)] Wl1->G_)->G_):=⟨_,rfl⟩
   refine CV J1 (k+1) ?_ ?_ ?_
   ·rw[hJ1.out]
    intro G_ hG_
    exact hG_ _ _ _ _ _ _ _ _ _ _ _ _ _ _ _ _ _ _ _ _ _ _ _ _ _ _ _ _ _ _ _ _ _ _ _ _ _ _ _ _ _ rfl Kl0 BF_l0 B0_l0 B1_l0 B2_l0 B3_l0 B4_l0
   ·intro m a Wl1 hm hI R hR
    rw[hJ1.out]at hI
    refine hI _ ?_
    clear hI
    intro t1_3 t1_4 t1_5 t1_9 t1_10 t1_11 t1_12 t1_13 t1_14 t1_15 t1_16 t1_17 t1_18 t1_19 t1_20 t1_21 t1_22 t1_23 t1_24 t1_25 t1_26 t1_27 t1_30 t1_31 t1_32 t1_33 t1_34 t1_35 t1_36 t1_37 t1_38 t1_39 t1_40 t1_41 t1_42 t1_43 t1_44 t1_45 t1_46 t1_47 t1_48 ea Kl1 BF_l1 B0_l1 B1_l1 B2_l1 B3_l1 B4_l1
    subst ea
    have zl1_BF:=BF_l1.lies
    have zl1_B0:=B0_l1.lies
    have zl1_B1:=B1_l1.lies
    have zl1_B2:=B2_l1.lies
    have zl1_B3:=B3_l1.lies
    have zl1_B4:=B4_l1.lies
    have c4_B4_0:Wl1.cell? ⟨x1_3,0,none⟩=some (.map (some x1_0)):=B4_l1.c 0 (zD rfl)
    have c4_B4_1:Wl1.cell? ⟨x1_3,1,none⟩=some (.map (some x1_1)):=B4_l1.c 1 (zD rfl)
    have c4_B4_2:Wl1.cell? ⟨x1_3,2,none⟩=some (.map (some x1_2)):=B4_l1.c 2 (zD rfl)
    go_wp2_with fail
    refine(Agh b x1_0 x1_1 x1_2 k m c s P D Q Z _ BF_l1 B1_l1 B2_l1 B3_l1 (zL s1_4) (zL s1_6) (zL s1_8) s1_12 s1_13 s1_15 hk hm).mono ?_
    rintro e w1 ⟨rfl,f1,B1_1,B2_1,B3_1,k1⟩
    have K1:Aa b w w1:=Aa.off_list Kl1 k1 (by simp;omega)
    have B0_1:Ap w.heap.size [.map none,.map none,.map none] w1:=B0_l1.keptL k1 (by simp;omega)
    have B4_1:Ap x1_3 [.map (some x1_0),.map (some x1_1),.map (some x1_2)] w1:=B4_l1.keptL k1 (by simp;omega)
    have z1_BF:=f1.lies
    have z1_B1:=B1_1.lies
    have z1_B2:=B2_1.lies
    have z1_B3:=B3_1.lies
    have z1_B0:=B0_1.lies
    have z1_B4:=B4_1.lies
    clear c4_B4_0 c4_B4_1 c4_B4_2 BF_l1 B1_l1 B2_l1 B3_l1 B0_l1 B4_l1 k1
    go_wp2_with fail
    rw[hJ1.out]
    intro G_ hG_
    exact hG_ _ _ _ _ _ _ _ _ _ _ _ _ _ _ _ _ _ _ _ _ _ _ _ _ _ _ _ _ _ _ _ _ _ _ _ _ _ _ _ _ _ rfl K1 f1 B0_1 B1_1 B2_1 B3_1 B4_1
   ·intro a Wl1 hI R
    rw[hJ1.out]at hI
    refine hI _ ?_
    clear hI hJ1
    intro t1_3 t1_4 t1_5 t1_9 t1_10 t1_11 t1_12 t1_13 t1_14 t1_15 t1_16 t1_17 t1_18 t1_19 t1_20 t1_21 t1_22 t1_23 t1_24 t1_25 t1_26 t1_27 t1_30 t1_31 t1_32 t1_33 t1_34 t1_35 t1_36 t1_37 t1_38 t1_39 t1_40 t1_41 t1_42 t1_43 t1_44 t1_45 t1_46 t1_47 t1_48 ea Kl1 BF_l1 B0_l1 B1_l1 B2_l1 B3_l1 B4_l1
    subst ea
    have zl1_BF:=BF_l1.lies
    have zl1_B0:=B0_l1.lies
    have zl1_B1:=B1_l1.lies
    have zl1_B2:=B2_l1.lies
    have zl1_B3:=B3_l1.lies
    have zl1_B4:=B4_l1.lies
    by_cases hc1:((k:Int)+1)>1
    ·have Hhc1:Hid (((k:Int)+1)>1):=hc1
     have c7_B4_0:Wl1.cell? ⟨x1_3,0,none⟩=some (.map (some x1_0)):=B4_l1.c 0 (zD rfl)
     have c7_B4_1:Wl1.cell? ⟨x1_3,1,none⟩=some (.map (some x1_1)):=B4_l1.c 1 (zD rfl)
     have c7_B4_2:Wl1.cell? ⟨x1_3,2,none⟩=some (.map (some x1_2)):=B4_l1.c 2 (zD rfl)
     go_wp2_with fail
     refine(Al4 b x1_0 x1_1 x1_2 k c s P D Q Z _ BF_l1 B1_l1 B2_l1 B3_l1 (zL s1_4) (zL s1_6) (zL s1_8) s1_12 s1_13 s1_15 hk hc1).mono ?_
     rintro e w2001 ⟨rfl,f2001,B1_2001,B2_2001,B3_2001,k2001⟩
     have K2001:Aa b w w2001:=Aa.off_list Kl1 k2001 (by simp;omega)
     have B0_2001:Ap w.heap.size [.map none,.map none,.map none] w2001:=B0_l1.keptL k2001 (by simp;omega)
     have B4_2001:Ap x1_3 [.map (some x1_0),.map (some x1_1),.map (some x1_2)] w2001:=B4_l1.keptL k2001 (by simp;omega)
     have z2001_BF:=f2001.lies
     have z2001_B1:=B1_2001.lies
     have z2001_B2:=B2_2001.lies
     have z2001_B3:=B3_2001.lies
     have z2001_B0:=B0_2001.lies
     have z2001_B4:=B4_2001.lies
     clear c7_B4_0 c7_B4_1 c7_B4_2 BF_l1 B1_l1 B2_l1 B3_l1 B0_l1 B4_l1 k2001
     go_wp2_with fail
     rw[hJ0.out]
     intro G_ hG_
     exact hG_ _ _ _ _ _ _ _ _ _ _ _ _ _ _ _ _ _ _ _ _ _ _ _ _ _ _ _ _ _ _ _ _ _ _ _ _ _ _ _ _ _ _ _ rfl K2001 f2001 B0_2001 B1_2001 B2_2001 B3_2001 B4_2001
    ·have Hhc1:Hid (¬((k:Int)+1)>1):=hc1
     go_wp2_with fail
     rw[hJ0.out]
     intro G_ hG_
     exact hG_ _ _ _ _ _ _ _ _ _ _ _ _ _ _ _ _ _ _ _ _ _ _ _ _ _ _ _ _ _ _ _ _ _ _ _ _ _ _ _ _ _ _ _ rfl Kl1 BF_l1 B0_l1 (((B1_l1).mono (by omega)).eqv (LU P (by omega))) (((B2_l1).mono (by omega)).eqv (LU D (by omega))) (((B3_l1).mono (by omega)).eqv (LU Q (by omega))) B4_l1
  ·intro a Wl0 hI R
   rw[hJ0.out]at hI
   refine hI _ ?_
   clear hI hJ0
   intro t0_3 t0_4 t0_5 t0_9 t0_10 t0_11 t0_12 t0_13 t0_14 t0_15 t0_16 t0_17 t0_18 t0_19 t0_20 t0_21 t0_22 t0_23 t0_24 t0_25 t0_26 t0_27 t0_28 t0_29 t0_30 t0_31 t0_32 t0_33 t0_34 t0_35 t0_36 t0_37 t0_38 t0_39 t0_40 t0_41 t0_42 t0_43 t0_44 t0_45 t0_46 t0_47 t0_48 ea Kl0 BF_l0 B0_l0 B1_l0 B2_l0 B3_l0 B4_l0
   subst ea
   have zl0_BF:=BF_l0.lies
   have zl0_B0:=B0_l0.lies
   have zl0_B1:=B1_l0.lies
   have zl0_B2:=B2_l0.lies
   have zl0_B3:=B3_l0.lies
   have zl0_B4:=B4_l0.lies
   have c10_B0_0:Wl0.cell? ⟨w.heap.size,0,none⟩=some (.map none):=B0_l0.c 0 (zD rfl)
   have c10_B0_1:Wl0.cell? ⟨w.heap.size,1,none⟩=some (.map none):=B0_l0.c 1 (zD rfl)
   have c10_B0_2:Wl0.cell? ⟨w.heap.size,2,none⟩=some (.map none):=B0_l0.c 2 (zD rfl)
   have c10_B4_0:Wl0.cell? ⟨x1_3,0,none⟩=some (.map (some x1_0)):=B4_l0.c 0 (zD rfl)
   have c10_B4_1:Wl0.cell? ⟨x1_3,1,none⟩=some (.map (some x1_1)):=B4_l0.c 1 (zD rfl)
   have c10_B4_2:Wl0.cell? ⟨x1_3,2,none⟩=some (.map (some x1_2)):=B4_l0.c 2 (zD rfl)
   have g10_B0_0:=B0_l0.f 0 (zD rfl)
   have g10_B0_1:=B0_l0.f 1 (zD rfl)
   have g10_B0_2:=B0_l0.f 2 (zD rfl)
   go_wp2_with (with_reducible refine Ae ?_)
   refine Stop.mk ?_
   clear c10_B0_0 c10_B0_1 c10_B0_2 c10_B4_0 c10_B4_1 c10_B4_2 g10_B0_0 g10_B0_1 g10_B0_2
   refine bodyPost_ret (v:=.agg #[.map (some x1_0),.map (some x1_1),.map (some x1_2)]) (Ax Tryz.results224 (((B0_l0.put 0 (zD rfl) (.map (some x1_0)) [.map (some x1_0),.map none,.map none] rfl).put 1 (zD rfl) (.map (some x1_1)) [.map (some x1_0),.map (some x1_1),.map none] rfl).put 2 (zD rfl) (.map (some x1_2)) [.map (some x1_0),.map (some x1_1),.map (some x1_2)] rfl) rfl (by kernel_rfl) (by kernel_rfl)) rfl ?_
   exact⟨x1_0,x1_1,x1_2,rfl,(((BF_l0.new w.heap.size 0 (zL y1_BF) (.map (some x1_0))).new w.heap.size 1 (zL y1_BF) (.map (some x1_1))).new w.heap.size 2 (zL y1_BF) (.map (some x1_2))),(((B1_l0.new w.heap.size 0 (zG s1_5) (.map (some x1_0))).new w.heap.size 1 (zG s1_5) (.map (some x1_1))).new w.heap.size 2 (zG s1_5) (.map (some x1_2))),(((B2_l0.new w.heap.size 0 (zG s1_7) (.map (some x1_0))).new w.heap.size 1 (zG s1_7) (.map (some x1_1))).new w.heap.size 2 (zG s1_7) (.map (some x1_2))),(((B3_l0.new w.heap.size 0 (zG s1_9) (.map (some x1_0))).new w.heap.size 1 (zG s1_9) (.map (some x1_1))).new w.heap.size 2 (zG s1_9) (.map (some x1_2))),by omega,by omega,by omega,s1_12,s1_13,s1_15,(((Kl0.new _ _ (by omega) _).new _ _ (by omega) _).new _ _ (by omega) _)⟩
 refine wp_region_held_drew (S:=fun _=>True) (by kernel_rfl) trivial (fun zH=>?_)
 refine zT 1 rfl (by kernel_rfl) (fun _ _ _=>id) rfl (fun _ _=>by go_simp<;>with_reducible rfl) zH ?_
 simp only[Act.put,zA,zB,zC]
 refine zT 3 rfl (by kernel_rfl) (fun _ _ _=>id) rfl (fun _ _=>by go_simp<;>with_reducible rfl) zH ?_
 simp only[Act.put,zA,zB,zC]
 refine zT 4 rfl (by kernel_rfl) (fun _ _ _=>id) rfl (fun _ _=>by go_simp<;>with_reducible rfl) zH ?_
 simp only[Act.put,zA,zB,zC]
 refine zT 8 rfl (by kernel_rfl) (fun _ _ _=>id) rfl (fun _ _=>by go_simp<;>with_reducible rfl) zH ?_
 simp only[Act.put,zA,zB,zC]
 refine zT 10 rfl (by kernel_rfl) (fun _ _ _=>id) rfl (fun _ _=>by go_simp<;>with_reducible rfl) zH ?_
 simp only[Act.put,zA,zB,zC]
 refine zT 11 rfl (by kernel_rfl) (fun _ _ _=>id) rfl (fun _ _=>by go_simp<;>with_reducible rfl) zH ?_
 simp only[Act.put,zA,zB,zC]
 refine zT 15 rfl (by kernel_rfl) (fun _ _ _=>id) rfl (fun _ _=>by go_simp<;>with_reducible rfl) zH ?_
 simp only[Act.put,zA,zB,zC]
 have F1:Fl b false (w.alloc (.cells #[.map none,.map none,.map none] 292)).drew:=(hw.alloc _).drew
 have A1:Ap w.heap.size [.map none,.map none,.map none] (w.alloc (.cells #[.map none,.map none,.map none] 292)).drew:=(Am _ _ [.map none,.map none,.map none] _ (by simp)).drew
 have K1:Aa b w (w.alloc (.cells #[.map none,.map none,.map none] 292)).drew:=((Aa.refl b w).al _).drew
 generalize (w.alloc (.cells #[.map none,.map none,.map none] 292)).drew=w1 at F1 A1 K1 ⊢
 have l1:=F1.lies;have l2:=A1.lies;have l3:=K1.size
 clear zH
 refine LK (fun L a wi=>∃(a0 a2 a5 a6 b7 b9 b12 b13 q14 q16 q17 e18 d19 z20:Bool) (x7 x10 x14 x15 x19 x20 x22 x23:Value) (kA kB kC kD:Nat),L=#[a0,true,a2,true,true,a5,a6,b7,true,b9,true,true,b12,b13,q14,true,q16,q17,e18,d19,z20]/\a={tmps:=#[.pointer (some ⟨b,0,none⟩),.int .i64 c,.int .i64 s,undef,undef,undef,.pointer (some ⟨w.heap.size,0,none⟩),x7,undef,undef,x10,.agg #[.int .i64 0,.int .i64 0],.agg #[.int .i64 1,.int .i64 1],.int .i64 s,x14,x15,.agg #[.int .i64 0,.int .i64 0],.agg #[.int .i64 1,.int .i64 1],.int .i64 c,x19,x20,.agg #[.int .i64 1,.int .i64 1],x22,x23,undef,undef,undef,undef,undef,undef,undef,undef,undef,undef,undef,undef,undef,undef,undef,undef,undef,undef,undef,undef,undef,undef,undef,undef,undef],defers:=[]}/\MI w1 c s a0 a2 a5 a6 b7 b9 b12 b13 q14 q16 q17 e18 d19 z20 x7 x10 x14 x15 x19 x20 x22 x23 kA kB kC kD wi) ?_ ?_ 14 _ _ _ (by decide) ?_
 ·intro L a wi i o ho hi hI K hK
  obtain⟨a0,a2,a5,a6,b7,b9,b12,b13,q14,q16,q17,e18,d19,z20,x7,x10,x14,x15,x19,x20,x22,x23,kA,kB,kC,kD,rfl,rfl,I⟩:=hI
  have hall:=(mem_ready.1 hi).2
  have hun:=(mem_ready.1 hi).1
  have hlt:i<21:=(List.getElem?_eq_some_iff.1 ho).1
  match i,hlt with
  |0,_=>
   obtain rfl:a0=false:=hun
   clear hall
   cases ho
   obtain rfl:a2=false:=by cases a2 with |false=>rfl |true=>exact absurd (I.va (.inl rfl)) (by decide)
   obtain rfl:a5=false:=by cases a5 with |false=>rfl |true=>exact absurd (I.va (.inr rfl)) (by decide)
   go_simp
   refine hK.out _ _ ?_
   have z0:z20=false:=by cases z20 with |false=>rfl |true=>exact absurd (I.A6 (I.E (I.Z rfl).1).2.1).2.1 (by decide)
   subst z0
   exact⟨true,false,false,a6,b7,b9,b12,b13,q14,q16,q17,e18,d19,false,x7,.map (some wi.heap.size),x14,x15,x19,x20,x22,x23,wi.heap.size,kB,kC,kD,rfl,rfl,⟨Ai I.bel _,fun _=>⟨rfl,I.bel.size,(Mp.made wi _ rfl).eqv (LM _ _)⟩,fun h=>⟨(I.B h).1,(I.B h).2.1,(I.B h).2.2.alloc _⟩,fun h=>⟨(I.C h).1,(I.C h).2.1,(I.C h).2.2.alloc _⟩,fun h=>absurd (I.A6 h).2.1 (by decide),I.B13,I.C17,fun h=>absurd (I.A6 (I.E h).2.1).2.1 (by decide),fun h=>⟨(I.D h).1,(I.D h).2.1,(I.D h).2.2.alloc _⟩,fun _=>rfl,I.vb,I.vc,fun h=>absurd (I.A6 (I.E (I.Z h).1).2.1).2.1 (by decide),fun _ h=>by have:=(I.B h).2.2.lies;omega,fun _ h=>by have:=(I.C h).2.2.lies;omega,I.BC,fun _ h=>by have:=(I.D h).2.2.lies;omega,I.BD,I.CD⟩⟩
  |1,_=>
   exact absurd (show true=false from hun) (by decide)
  |2,_=>
   obtain rfl:a2=false:=hun
   obtain⟨o2,ho2,hall⟩:=hall
   cases ho2
   obtain rfl:a0=true:=hall ⟨0,.data⟩ (by simp) rfl
   clear hall
   cases ho
   obtain⟨e1,g1,M⟩:=I.A rfl
   subst e1
   refine LL (by rfl) rfl rfl rfl rfl M (by cases a5<;>decide) ⟨by decide,by decide⟩ ⟨by decide,by decide⟩ ⟨by decide,by decide⟩ ?_
   intro w2 M1 k1
   simp only[Act.put]
   refine hK.out _ _ ?_
   exact⟨true,true,a5,a6,b7,b9,b12,b13,q14,q16,q17,e18,d19,z20,x7,.map (some kA),x14,x15,x19,x20,x22,x23,kA,kB,kC,kD,rfl,rfl,⟨k1.on I.bel (I.A rfl).2.1,fun _=>⟨rfl,g1,(M1.mono (by cases a5<;>decide)).eqv (An3 _ _ _)⟩,fun h=>⟨(I.B h).1,(I.B h).2.1,(I.B h).2.2.kept k1 (Ne.symm (I.AB rfl h))⟩,fun h=>⟨(I.C h).1,(I.C h).2.1,(I.C h).2.2.kept k1 (Ne.symm (I.AC rfl h))⟩,fun h=>absurd (I.A6 h).2.2.1 (by decide),I.B13,I.C17,fun h=>absurd (I.A6 (I.E h).2.1).2.2.1 (by decide),fun h=>⟨(I.D h).1,(I.D h).2.1,(I.D h).2.2.kept k1 (Ne.symm (I.AD rfl h))⟩,fun _=>rfl,I.vb,I.vc,fun h=>absurd (I.A6 (I.E (I.Z h).1).2.1).2.2.1 (by decide),I.AB,I.AC,I.BC,I.AD,I.BD,I.CD⟩⟩
  |3,_=>
   exact absurd (show true=false from hun) (by decide)
  |4,_=>
   exact absurd (show true=false from hun) (by decide)
  |5,_=>
   obtain rfl:a5=false:=hun
   obtain⟨o2,ho2,hall⟩:=hall
   cases ho2
   obtain rfl:a0=true:=hall ⟨0,.data⟩ (by simp) rfl
   clear hall
   cases ho
   obtain⟨e1,g1,M⟩:=I.A rfl
   subst e1
   refine LL (by rfl) rfl rfl rfl rfl M (by cases a2<;>decide) ⟨by decide,by decide⟩ ⟨by decide,by decide⟩ is ?_
   intro w2 M1 k1
   simp only[Act.put]
   refine hK.out _ _ ?_
   exact⟨true,a2,true,a6,b7,b9,b12,b13,q14,q16,q17,e18,d19,z20,x7,.map (some kA),x14,x15,x19,x20,x22,x23,kA,kB,kC,kD,rfl,rfl,⟨k1.on I.bel (I.A rfl).2.1,fun _=>⟨rfl,g1,(M1.mono (by cases a2<;>decide)).eqv (Ae2 _ _ _)⟩,fun h=>⟨(I.B h).1,(I.B h).2.1,(I.B h).2.2.kept k1 (Ne.symm (I.AB rfl h))⟩,fun h=>⟨(I.C h).1,(I.C h).2.1,(I.C h).2.2.kept k1 (Ne.symm (I.AC rfl h))⟩,fun h=>absurd (I.A6 h).2.2.2 (by decide),I.B13,I.C17,fun h=>absurd (I.A6 (I.E h).2.1).2.2.2 (by decide),fun h=>⟨(I.D h).1,(I.D h).2.1,(I.D h).2.2.kept k1 (Ne.symm (I.AD rfl h))⟩,fun _=>rfl,I.vb,I.vc,fun h=>absurd (I.A6 (I.E (I.Z h).1).2.1).2.2.2 (by decide),I.AB,I.AC,I.BC,I.AD,I.BD,I.CD⟩⟩
  |6,_=>
   obtain rfl:a6=false:=hun
   obtain⟨o2,ho2,hall⟩:=hall
   cases ho2
   obtain rfl:a0=true:=hall ⟨0,.data⟩ (by simp) rfl
   obtain rfl:a2=true:=hall ⟨2,.data⟩ (by simp) rfl
   obtain rfl:a5=true:=hall ⟨5,.data⟩ (by simp) rfl
   clear hall
   cases ho
   go_simp
   refine hK.out _ _ ?_
   exact⟨true,true,true,true,b7,b9,b12,b13,q14,q16,q17,e18,d19,z20,x7,x10,x10,x15,x19,x20,x22,x23,kA,kB,kC,kD,rfl,rfl,⟨I.bel,I.A,I.B,I.C,fun _=>⟨(I.A rfl).1,rfl,rfl,rfl⟩,I.B13,I.C17,fun h=>absurd (I.E h).2.1 (by decide),I.D,I.va,I.vb,I.vc,fun h=>absurd (I.E (I.Z h).1).2.1 (by decide),I.AB,I.AC,I.BC,I.AD,I.BD,I.CD⟩⟩
  |7,_=>
   obtain rfl:b7=false:=hun
   clear hall
   cases ho
   obtain rfl:b9=false:=by cases b9 with |false=>rfl |true=>exact absurd (I.vb (.inl rfl)) (by decide)
   obtain rfl:b12=false:=by cases b12 with |false=>rfl |true=>exact absurd (I.vb (.inr rfl)) (by decide)
   go_simp
   refine hK.out _ _ ?_
   have z0:z20=false:=by cases z20 with |false=>rfl |true=>exact absurd (I.B13 (I.E (I.Z rfl).1).2.2.1).2.1 (by decide)
   subst z0
   exact⟨a0,a2,a5,a6,true,false,false,b13,q14,q16,q17,e18,d19,false,x7,x10,x14,.map (some wi.heap.size),x19,x20,x22,x23,kA,wi.heap.size,kC,kD,rfl,rfl,⟨Ai I.bel _,fun h=>⟨(I.A h).1,(I.A h).2.1,(I.A h).2.2.alloc _⟩,fun _=>⟨rfl,I.bel.size,(Mp.made wi _ rfl).eqv (LM _ _)⟩,fun h=>⟨(I.C h).1,(I.C h).2.1,(I.C h).2.2.alloc _⟩,I.A6,fun h=>absurd (I.B13 h).2.1 (by decide),I.C17,fun h=>absurd (I.B13 (I.E h).2.2.1).2.1 (by decide),fun h=>⟨(I.D h).1,(I.D h).2.1,(I.D h).2.2.alloc _⟩,I.va,fun _=>rfl,I.vc,fun h=>absurd (I.B13 (I.E (I.Z h).1).2.2.1).2.1 (by decide),fun h _=>by have:=(I.A h).2.2.lies;omega,I.AC,fun _ h=>by have:=(I.C h).2.2.lies;omega,I.AD,fun _ h=>by have:=(I.D h).2.2.lies;omega,I.CD⟩⟩
  |8,_=>
   exact absurd (show true=false from hun) (by decide)
  |9,_=>
   obtain rfl:b9=false:=hun
   obtain⟨o2,ho2,hall⟩:=hall
   cases ho2
   obtain rfl:b7=true:=hall ⟨7,.data⟩ (by simp) rfl
   clear hall
   cases ho
   obtain⟨e1,g1,M⟩:=I.B rfl
   subst e1
   refine LL (by rfl) rfl rfl rfl rfl M (by cases b12<;>decide) ⟨by decide,by decide⟩ ⟨by decide,by decide⟩ ⟨by decide,by decide⟩ ?_
   intro w2 M1 k1
   simp only[Act.put]
   refine hK.out _ _ ?_
   exact⟨a0,a2,a5,a6,true,true,b12,b13,q14,q16,q17,e18,d19,z20,x7,x10,x14,.map (some kB),x19,x20,x22,x23,kA,kB,kC,kD,rfl,rfl,⟨k1.on I.bel (I.B rfl).2.1,fun h=>⟨(I.A h).1,(I.A h).2.1,(I.A h).2.2.kept k1 (I.AB h rfl)⟩,fun _=>⟨rfl,g1,(M1.mono (by cases b12<;>decide)).eqv (An3 _ _ _)⟩,fun h=>⟨(I.C h).1,(I.C h).2.1,(I.C h).2.2.kept k1 (Ne.symm (I.BC rfl h))⟩,I.A6,fun h=>absurd (I.B13 h).2.2.1 (by decide),I.C17,fun h=>absurd (I.B13 (I.E h).2.2.1).2.2.1 (by decide),fun h=>⟨(I.D h).1,(I.D h).2.1,(I.D h).2.2.kept k1 (Ne.symm (I.BD rfl h))⟩,I.va,fun _=>rfl,I.vc,fun h=>absurd (I.B13 (I.E (I.Z h).1).2.2.1).2.2.1 (by decide),I.AB,I.AC,I.BC,I.AD,I.BD,I.CD⟩⟩
  |10,_=>
   exact absurd (show true=false from hun) (by decide)
  |11,_=>
   exact absurd (show true=false from hun) (by decide)
  |12,_=>
   obtain rfl:b12=false:=hun
   obtain⟨o2,ho2,hall⟩:=hall
   cases ho2
   obtain rfl:b7=true:=hall ⟨7,.data⟩ (by simp) rfl
   clear hall
   cases ho
   obtain⟨e1,g1,M⟩:=I.B rfl
   subst e1
   refine LL (by rfl) rfl rfl rfl rfl M (by cases b9<;>decide) ⟨by decide,by decide⟩ ⟨by decide,by decide⟩ ic ?_
   intro w2 M1 k1
   simp only[Act.put]
   refine hK.out _ _ ?_
   exact⟨a0,a2,a5,a6,true,b9,true,b13,q14,q16,q17,e18,d19,z20,x7,x10,x14,.map (some kB),x19,x20,x22,x23,kA,kB,kC,kD,rfl,rfl,⟨k1.on I.bel (I.B rfl).2.1,fun h=>⟨(I.A h).1,(I.A h).2.1,(I.A h).2.2.kept k1 (I.AB h rfl)⟩,fun _=>⟨rfl,g1,(M1.mono (by cases b9<;>decide)).eqv (Ae2 _ _ _)⟩,fun h=>⟨(I.C h).1,(I.C h).2.1,(I.C h).2.2.kept k1 (Ne.symm (I.BC rfl h))⟩,I.A6,fun h=>absurd (I.B13 h).2.2.2 (by decide),I.C17,fun h=>absurd (I.B13 (I.E h).2.2.1).2.2.2 (by decide),fun h=>⟨(I.D h).1,(I.D h).2.1,(I.D h).2.2.kept k1 (Ne.symm (I.BD rfl h))⟩,I.va,fun _=>rfl,I.vc,fun h=>absurd (I.B13 (I.E (I.Z h).1).2.2.1).2.2.2 (by decide),I.AB,I.AC,I.BC,I.AD,I.BD,I.CD⟩⟩
  |13,_=>
   obtain rfl:b13=false:=hun
   obtain⟨o2,ho2,hall⟩:=hall
   cases ho2
   obtain rfl:b7=true:=hall ⟨7,.data⟩ (by simp) rfl
   obtain rfl:b9=true:=hall ⟨9,.data⟩ (by simp) rfl
   obtain rfl:b12=true:=hall ⟨12,.data⟩ (by simp) rfl
   clear hall
   cases ho
   go_simp
   refine hK.out _ _ ?_
   exact⟨a0,a2,a5,a6,true,true,true,true,q14,q16,q17,e18,d19,z20,x7,x10,x14,x15,x15,x20,x22,x23,kA,kB,kC,kD,rfl,rfl,⟨I.bel,I.A,I.B,I.C,I.A6,fun _=>⟨(I.B rfl).1,rfl,rfl,rfl⟩,I.C17,fun h=>absurd (I.E h).2.2.1 (by decide),I.D,I.va,I.vb,I.vc,fun h=>absurd (I.E (I.Z h).1).2.2.1 (by decide),I.AB,I.AC,I.BC,I.AD,I.BD,I.CD⟩⟩
  |14,_=>
   obtain rfl:q14=false:=hun
   clear hall
   cases ho
   obtain rfl:q16=false:=by cases q16 with |false=>rfl |true=>exact absurd (I.vc rfl) (by decide)
   go_simp
   refine hK.out _ _ ?_
   have z0:z20=false:=by cases z20 with |false=>rfl |true=>exact absurd (I.C17 (I.E (I.Z rfl).1).2.2.2).2.1 (by decide)
   subst z0
   exact⟨a0,a2,a5,a6,b7,b9,b12,b13,true,false,q17,e18,d19,false,x7,x10,x14,x15,x19,.map (some wi.heap.size),x22,x23,kA,kB,wi.heap.size,kD,rfl,rfl,⟨Ai I.bel _,fun h=>⟨(I.A h).1,(I.A h).2.1,(I.A h).2.2.alloc _⟩,fun h=>⟨(I.B h).1,(I.B h).2.1,(I.B h).2.2.alloc _⟩,fun _=>⟨rfl,I.bel.size,(Mp.made wi _ rfl).eqv (LM _ _)⟩,I.A6,I.B13,fun h=>absurd (I.C17 h).2.1 (by decide),fun h=>absurd (I.C17 (I.E h).2.2.2).2.1 (by decide),fun h=>⟨(I.D h).1,(I.D h).2.1,(I.D h).2.2.alloc _⟩,I.va,I.vb,fun _=>rfl,fun h=>absurd (I.C17 (I.E (I.Z h).1).2.2.2).2.1 (by decide),I.AB,fun h _=>by have:=(I.A h).2.2.lies;omega,fun h _=>by have:=(I.B h).2.2.lies;omega,I.AD,I.BD,fun _ h=>by have:=(I.D h).2.2.lies;omega⟩⟩
  |15,_=>
   exact absurd (show true=false from hun) (by decide)
  |16,_=>
   obtain rfl:q16=false:=hun
   obtain⟨o2,ho2,hall⟩:=hall
   cases ho2
   obtain rfl:q14=true:=hall ⟨14,.data⟩ (by simp) rfl
   clear hall
   cases ho
   obtain⟨e1,g1,M⟩:=I.C rfl
   subst e1
   refine LL (by rfl) rfl rfl rfl rfl M (by decide) ⟨by decide,by decide⟩ ⟨by decide,by decide⟩ ⟨by decide,by decide⟩ ?_
   intro w2 M1 k1
   simp only[Act.put]
   refine hK.out _ _ ?_
   exact⟨a0,a2,a5,a6,b7,b9,b12,b13,true,true,q17,e18,d19,z20,x7,x10,x14,x15,x19,.map (some kC),x22,x23,kA,kB,kC,kD,rfl,rfl,⟨k1.on I.bel (I.C rfl).2.1,fun h=>⟨(I.A h).1,(I.A h).2.1,(I.A h).2.2.kept k1 (I.AC h rfl)⟩,fun h=>⟨(I.B h).1,(I.B h).2.1,(I.B h).2.2.kept k1 (I.BC h rfl)⟩,fun _=>⟨rfl,g1,M1.eqv (Ae2 _ _ _)⟩,I.A6,I.B13,fun h=>absurd (I.C17 h).2.2 (by decide),fun h=>absurd (I.C17 (I.E h).2.2.2).2.2 (by decide),fun h=>⟨(I.D h).1,(I.D h).2.1,(I.D h).2.2.kept k1 (Ne.symm (I.CD rfl h))⟩,I.va,I.vb,fun _=>rfl,fun h=>absurd (I.C17 (I.E (I.Z h).1).2.2.2).2.2 (by decide),I.AB,I.AC,I.BC,I.AD,I.BD,I.CD⟩⟩
  |17,_=>
   obtain rfl:q17=false:=hun
   obtain⟨o2,ho2,hall⟩:=hall
   cases ho2
   obtain rfl:q14=true:=hall ⟨14,.data⟩ (by simp) rfl
   obtain rfl:q16=true:=hall ⟨16,.data⟩ (by simp) rfl
   clear hall
   cases ho
   go_simp
   refine hK.out _ _ ?_
   exact⟨a0,a2,a5,a6,b7,b9,b12,b13,true,true,true,e18,d19,z20,x7,x10,x14,x15,x19,x20,x20,x23,kA,kB,kC,kD,rfl,rfl,⟨I.bel,I.A,I.B,I.C,I.A6,I.B13,fun _=>⟨(I.C rfl).1,rfl,rfl⟩,fun h=>absurd (I.E h).2.2.2 (by decide),I.D,I.va,I.vb,I.vc,fun h=>absurd (I.E (I.Z h).1).2.2.2 (by decide),I.AB,I.AC,I.BC,I.AD,I.BD,I.CD⟩⟩
  |18,_=>
   obtain rfl:e18=false:=hun
   obtain⟨o2,ho2,hall⟩:=hall
   cases ho2
   obtain rfl:a6=true:=hall ⟨6,.data⟩ (by simp) rfl
   obtain rfl:b13=true:=hall ⟨13,.data⟩ (by simp) rfl
   obtain rfl:q17=true:=hall ⟨17,.data⟩ (by simp) rfl
   clear hall
   cases ho
   have e1:=(I.A6 rfl).1;have e2:=(I.B13 rfl).1;have e3:=(I.C17 rfl).1
   subst e1 e2 e3
   go_simp
   refine hK.out _ _ ?_
   exact⟨a0,a2,a5,true,b7,b9,b12,true,q14,q16,true,true,d19,z20,x7,x10,.map (some kA),x15,.map (some kB),x20,.map (some kC),.agg #[.map (some kA),.map (some kB),.map (some kC)],kA,kB,kC,kD,rfl,rfl,⟨I.bel,I.A,I.B,I.C,I.A6,I.B13,I.C17,fun _=>⟨rfl,rfl,rfl,rfl⟩,I.D,I.va,I.vb,I.vc,fun h=>absurd (I.Z h).1 (by decide),I.AB,I.AC,I.BC,I.AD,I.BD,I.CD⟩⟩
  |19,_=>
   obtain rfl:d19=false:=hun
   clear hall
   cases ho
   have z0:z20=false:=by cases z20 with |false=>rfl |true=>exact absurd (I.Z rfl).2 (by decide)
   subst z0
   go_simp
   refine hK.out _ _ ?_
   exact⟨a0,a2,a5,a6,b7,b9,b12,b13,q14,q16,q17,e18,true,false,.pointer (some ⟨wi.heap.size,0,none⟩),x10,x14,x15,x19,x20,x22,x23,kA,kB,kC,wi.heap.size,rfl,rfl,⟨Ai I.bel _,fun h=>⟨(I.A h).1,(I.A h).2.1,(I.A h).2.2.alloc _⟩,fun h=>⟨(I.B h).1,(I.B h).2.1,(I.B h).2.2.alloc _⟩,fun h=>⟨(I.C h).1,(I.C h).2.1,(I.C h).2.2.alloc _⟩,I.A6,I.B13,I.C17,I.E,fun _=>⟨rfl,I.bel.size,Am wi _ [.map none,.map none,.map none] _ rfl⟩,I.va,I.vb,I.vc,fun h=>absurd (I.Z h).2 (by decide),I.AB,I.AC,I.BC,fun h _=>by have:=(I.A h).2.2.lies;omega,fun h _=>by have:=(I.B h).2.2.lies;omega,fun h _=>by have:=(I.C h).2.2.lies;omega⟩⟩
  |20,_=>
   obtain rfl:z20=false:=hun
   obtain⟨o2,ho2,hall⟩:=hall
   cases ho2
   obtain rfl:a0=true:=hall ⟨0,.phase⟩ (by simp) rfl
   obtain rfl:a2=true:=hall ⟨2,.phase⟩ (by simp) rfl
   obtain rfl:a5=true:=hall ⟨5,.phase⟩ (by simp) rfl
   obtain rfl:a6=true:=hall ⟨6,.phase⟩ (by simp) rfl
   obtain rfl:b7=true:=hall ⟨7,.phase⟩ (by simp) rfl
   obtain rfl:b9=true:=hall ⟨9,.phase⟩ (by simp) rfl
   obtain rfl:b12=true:=hall ⟨12,.phase⟩ (by simp) rfl
   obtain rfl:b13=true:=hall ⟨13,.phase⟩ (by simp) rfl
   obtain rfl:q14=true:=hall ⟨14,.phase⟩ (by simp) rfl
   obtain rfl:q16=true:=hall ⟨16,.phase⟩ (by simp) rfl
   obtain rfl:q17=true:=hall ⟨17,.phase⟩ (by simp) rfl
   obtain rfl:e18=true:=hall ⟨18,.phase⟩ (by simp) rfl
   obtain rfl:d19=true:=hall ⟨19,.phase⟩ (by simp) rfl
   clear hall
   cases ho
   obtain⟨e1,-⟩:=I.E rfl
   obtain⟨e2,g2,D⟩:=I.D rfl
   subst e1 e2
   have D:=D
   have c0:wi.cell? ⟨kD,0,none⟩=some (.map none):=D.c 0 (zD rfl)
   have c1:wi.cell? ⟨kD,1,none⟩=some (.map none):=D.c 1 (zD rfl)
   have c2:wi.cell? ⟨kD,2,none⟩=some (.map none):=D.c 2 (zD rfl)
   have f0:=D.f 0 (zD rfl)
   have f1:=D.f 1 (zD rfl)
   have f2:=D.f 2 (zD rfl)
   go_simp
   refine hK.out _ _ ?_
   exact⟨true,true,true,true,true,true,true,true,true,true,true,true,true,true,.pointer (some ⟨kD,0,none⟩),x10,x14,x15,x19,x20,x22,.agg #[.map (some kA),.map (some kB),.map (some kC)],kA,kB,kC,kD,rfl,rfl,⟨(Al (Al (Al I.bel kD 0 g2 _) kD 1 g2 _) kD 2 g2 _),fun h=>⟨(I.A h).1,(I.A h).2.1,(((((I.A h).2.2.new kD 0 (I.AD h rfl) _).new kD 1 (I.AD h rfl) _).new kD 2 (I.AD h rfl) _))⟩,fun h=>⟨(I.B h).1,(I.B h).2.1,(((((I.B h).2.2.new kD 0 (I.BD h rfl) _).new kD 1 (I.BD h rfl) _).new kD 2 (I.BD h rfl) _))⟩,fun h=>⟨(I.C h).1,(I.C h).2.1,(((((I.C h).2.2.new kD 0 (I.CD h rfl) _).new kD 1 (I.CD h rfl) _).new kD 2 (I.CD h rfl) _))⟩,I.A6,I.B13,I.C17,I.E,fun _=>⟨rfl,g2,((D.put 0 (zD rfl) _ [.map (some kA),.map none,.map none] rfl).put 1 (zD rfl) _ [.map (some kA),.map (some kB),.map none] rfl).put 2 (zD rfl) _ [.map (some kA),.map (some kB),.map (some kC)] rfl⟩,I.va,I.vb,I.vc,fun _=>⟨rfl,rfl⟩,I.AB,I.AC,I.BC,I.AD,I.BD,I.CD⟩⟩
 ·intro L a wi hr hI
  obtain⟨a0,a2,a5,a6,b7,b9,b12,b13,q14,q16,q17,e18,d19,z20,x7,x10,x14,x15,x19,x20,x22,x23,kA,kB,kC,kD,rfl,rfl,I⟩:=hI
  obtain rfl:a0=true:=by cases a0 with |true=>rfl |false=>exact(AT hr (i:=0) rfl rfl rfl).elim
  obtain rfl:a2=true:=by cases a2 with |true=>rfl |false=>exact(AT hr (i:=2) rfl rfl rfl).elim
  obtain rfl:a5=true:=by cases a5 with |true=>rfl |false=>exact(AT hr (i:=5) rfl rfl rfl).elim
  obtain rfl:a6=true:=by cases a6 with |true=>rfl |false=>exact(AT hr (i:=6) rfl rfl rfl).elim
  obtain rfl:b7=true:=by cases b7 with |true=>rfl |false=>exact(AT hr (i:=7) rfl rfl rfl).elim
  obtain rfl:b9=true:=by cases b9 with |true=>rfl |false=>exact(AT hr (i:=9) rfl rfl rfl).elim
  obtain rfl:b12=true:=by cases b12 with |true=>rfl |false=>exact(AT hr (i:=12) rfl rfl rfl).elim
  obtain rfl:b13=true:=by cases b13 with |true=>rfl |false=>exact(AT hr (i:=13) rfl rfl rfl).elim
  obtain rfl:q14=true:=by cases q14 with |true=>rfl |false=>exact(AT hr (i:=14) rfl rfl rfl).elim
  obtain rfl:q16=true:=by cases q16 with |true=>rfl |false=>exact(AT hr (i:=16) rfl rfl rfl).elim
  obtain rfl:q17=true:=by cases q17 with |true=>rfl |false=>exact(AT hr (i:=17) rfl rfl rfl).elim
  obtain rfl:e18=true:=by cases e18 with |true=>rfl |false=>exact(AT hr (i:=18) rfl rfl rfl).elim
  obtain rfl:d19=true:=by cases d19 with |true=>rfl |false=>exact(AT hr (i:=19) rfl rfl rfl).elim
  obtain rfl:z20=true:=by cases z20 with |true=>rfl |false=>exact(AT hr (i:=20) rfl rfl rfl).elim
  have gA:=(I.A rfl).2.1;have gB:=(I.B rfl).2.1;have gC:=(I.C rfl).2.1;have gD:=(I.D rfl).2.1
  obtain⟨e10,-⟩:=I.A rfl;obtain⟨e15,-⟩:=I.B rfl;obtain⟨e20,-⟩:=I.C rfl;obtain⟨e14,-⟩:=I.A6 rfl;obtain⟨e19,-⟩:=I.B13 rfl;obtain⟨e22,-⟩:=I.C17 rfl;obtain⟨e23,-⟩:=I.E rfl;obtain⟨e7,-⟩:=I.D rfl
  subst e10 e15 e20 e14 e19 e22 e23 e7
  refine QC hKK1 ?_
  exact cont1 _ _ _ _ _ _ _ _ _ _ _ _ _ _ _ kA kB kC kD (Aa.trans K1 (Aa.of_below I.bel)) (F1.below I.bel) (A1.below I.bel) (I.A rfl).2.2 (I.B rfl).2.2 (I.C rfl).2.2 (I.D rfl).2.2 (by omega) (by omega) (by omega) (by omega) (by omega) (by omega) (by omega) (by omega) (by omega) (by omega) (by omega) (by omega) (I.AB rfl rfl) (I.AC rfl rfl) (I.AD rfl rfl) (I.BC rfl rfl) (I.BD rfl rfl) (I.CD rfl rfl)
 ·exact⟨false,false,false,false,false,false,false,false,false,false,false,false,false,false,undef,undef,undef,undef,undef,undef,undef,undef,0,0,0,0,rfl,rfl,⟨Below.refl _ _,(fun h=>by cases h),(fun h=>by cases h),(fun h=>by cases h),(fun h=>by cases h),(fun h=>by cases h),(fun h=>by cases h),(fun h=>by cases h),(fun h=>by cases h),(fun h=>by rcases h with h |h<;>cases h),(fun h=>by rcases h with h |h<;>cases h),(fun h=>by cases h),(fun h=>by cases h),(fun h=>by cases h),(fun h=>by cases h),(fun h=>by cases h),(fun h=>by cases h),(fun h=>by cases h),(fun h=>by cases h)⟩⟩
theorem Agi(b:Nat)(u v:Int)(g:Nat->Int)(w:World)(hw:Fl b false w)(T1:IJ 1099511627776 0 u v (g 1) (g 8))(T2:IJ (g 1) (g 8) u v (g 2) (g 9))(T3:IJ (g 2) (g 9) u v (g 3) (g 10))(T4:IJ (g 3) (g 10) u v (g 4) (g 11))(T5:IJ (g 4) (g 11) u v (g 5) (g 12))(T6:IJ (g 5) (g 12) u v (g 6) (g 13)):
    Calls Tryz.prog 223 #[.pointer (some ⟨b,0,none⟩),.int .i64 u,.int .i64 v] w fun e w'=>e=.returned (.agg #[.int .i64 1099511627776,.int .i64 (g 1),.int .i64 (g 2),.int .i64 (g 3),.int .i64 (g 4),.int .i64 (g 5),.int .i64 (g 6),.int .i64 0,.int .i64 (g 8),.int .i64 (g 9),.int .i64 (g 10),.int .i64 (g 11),.int .i64 (g 12),.int .i64 (g 13)])/\Fl b false w'/\Aa b w w':=by
 have hl:=hw.lies
 go_enter Tryz.func223,Tryz.ntmps223
 have y1_BF:=hw.lies
 have y2_BF:b<w.heap.size+1:=(Nat.lt_succ_of_lt hw.lies)
 have y2_B0:w.heap.size<w.heap.size+1:=by omega
 go_wp2_with fail
 refine wp_loop_rounds 7 ?_
 rw[rounds_succ]
 go_wp2_with fail
 refine wp_region_held_drew (S:=fun w'=>Ap (w.heap.size+1) [.int .i64 1099511627776,.int .i64 0,.int .i64 0,.int .i64 0,.int .i64 0,.int .i64 0,.int .i64 0,.int .i64 0,.int .i64 0,.int .i64 0,.int .i64 0,.int .i64 0,.int .i64 0,.int .i64 0] w') (by kernel_rfl) (Am _ _ [.int .i64 1099511627776,.int .i64 0,.int .i64 0,.int .i64 0,.int .i64 0,.int .i64 0,.int .i64 0,.int .i64 0,.int .i64 0,.int .i64 0,.int .i64 0,.int .i64 0,.int .i64 0,.int .i64 0] _ (by simp)).drew (fun zH=>?_)
 refine zT 0 rfl (by kernel_rfl) (fun _ _ _=>id) rfl (fun _ _=>by go_simp<;>with_reducible rfl) zH ?_
 simp only[Act.put,zA,zB,zC]
 refine zT 1 rfl (by kernel_rfl) (fun _ _ _=>id) rfl (fun _ _=>by go_simp<;>with_reducible rfl) zH ?_
 simp only[Act.put,zA,zB,zC]
 rw[IntWalk.i64_in 0 (by omega)]
 refine zT 2 rfl (by kernel_rfl) (fun _ _ _=>id) rfl (fun _ _=>by go_simp<;>with_reducible rfl) zH ?_
 simp only[Act.put,zA,zB,zC]
 refine zT 3 rfl (by kernel_rfl) (fun _ _ _=>id) rfl (fun _ _=>by go_simp<;>with_reducible rfl) zH ?_
 simp only[Act.put,zA,zB,zC]
 refine zT 4 rfl (by kernel_rfl) (fun _ _ _=>id) rfl (fun wx hS=>by have hc0:wx.cell? ⟨w.heap.size+1,0,none⟩=some (.int .i64 1099511627776):=hS.c 0 (zD rfl);go_simp<;>with_reducible rfl) zH ?_
 simp only[Act.put,zA,zB,zC]
 refine zT 5 rfl (by kernel_rfl) (fun _ _ _=>id) rfl (fun _ _=>by go_simp<;>with_reducible rfl) zH ?_
 simp only[Act.put,zA,zB,zC]
 refine zT 6 rfl (by kernel_rfl) (fun _ _ _=>id) rfl (fun _ _=>by go_simp<;>with_reducible rfl) zH ?_
 simp only[Act.put,zA,zB,zC]
 rw[IntWalk.i64_in 0 (by omega)]
 refine zT 7 rfl (by kernel_rfl) (fun _ _ _=>id) rfl (fun _ _=>by go_simp<;>with_reducible rfl) zH ?_
 simp only[Act.put,zA,zB,zC]
 refine zT 8 rfl (by kernel_rfl) (fun _ _ _=>id) rfl (fun _ _=>by go_simp<;>with_reducible rfl) zH ?_
 simp only[Act.put,zA,zB,zC]
 refine zT 9 rfl (by kernel_rfl) (fun _ _ _=>id) rfl (fun wx hS=>by have hc7:wx.cell? ⟨w.heap.size+1,7,none⟩=some (.int .i64 0):=hS.c 7 (zD rfl);go_simp<;>with_reducible rfl) zH ?_
 simp only[Act.put,zA,zB,zC]
 refine zT 10 rfl (by kernel_rfl) (fun _ _ _=>id) rfl (fun _ _=>by go_simp<;>with_reducible rfl) zH ?_
 simp only[Act.put,zA,zB,zC]
 refine zT 11 rfl (by kernel_rfl) (fun _ _ _=>id) rfl (fun _ _=>by go_simp<;>with_reducible rfl) zH ?_
 simp only[Act.put,zA,zB,zC]
 refine wpAnyH_done (by kernel_rfl) ?_ _
 clear zH
 go_wp2_with fail
 refine(Ak b false 1099511627776 u _ ((hw.alloc _).alloc _).drew).mono ?_
 rintro e w1 ⟨rfl,f1,k1⟩
 rw[T1.h1]at f1 ⊢
 dsimp only at f1 ⊢
 have K1:Aa b w w1:=Aa.trans (((Aa.refl b w).al _).al _).drew k1
 have B0_1:=((Am _ w.heap.size [.int .i64 0,.int .i64 0,.int .i64 0,.int .i64 0,.int .i64 0,.int .i64 0,.int .i64 0,.int .i64 0,.int .i64 0,.int .i64 0,.int .i64 0,.int .i64 0,.int .i64 0,.int .i64 0] _ (by simp)).alloc _).drew.kept k1 (zG y1_BF)
 have B1_1:=(Am _ (w.heap.size+1) [.int .i64 1099511627776,.int .i64 0,.int .i64 0,.int .i64 0,.int .i64 0,.int .i64 0,.int .i64 0,.int .i64 0,.int .i64 0,.int .i64 0,.int .i64 0,.int .i64 0,.int .i64 0,.int .i64 0] _ (by simp)).drew.kept k1 (zG y2_BF)
 have z1:=B1_1.lies
 clear k1
 go_wp2_with fail
 refine(Ak b false 0 v _ f1).mono ?_
 rintro e w2 ⟨rfl,f2,k2⟩
 rw[T1.h2]at f2 ⊢
 dsimp only at f2 ⊢
 have K2:=Aa.trans K1 k2
 have B0_2:=B0_1.kept k2 (zG y1_BF)
 have B1_2:=B1_1.kept k2 (zG y2_BF)
 have z2:=B1_2.lies
 clear K1 f1 B0_1 B1_1 k2
 go_wp2_with fail
 refine(BH b false T1.v1 T1.v2 _ f2).mono ?_
 rintro e w3 ⟨rfl,f3,k3⟩
 rw[T1.h3]at f3 ⊢
 dsimp only at f3 ⊢
 have K3:=Aa.trans K2 k3
 have B0_3:=B0_2.kept k3 (zG y1_BF)
 have B1_3:=B1_2.kept k3 (zG y2_BF)
 have z3:=B1_3.lies
 clear K2 f2 B0_2 B1_2 k3
 have c6_B1_1:w3.cell? ⟨w.heap.size+1,1,none⟩=some (.int .i64 0):=B1_3.c 1 (zD rfl)
 have g6_B1_1:=B1_3.f 1 (zD rfl)
 go_wp2_with fail
 refine(Ak b false 0 u _ (f3.new (w.heap.size+1) 1 (zL y2_BF) (.int .i64 (g 1)))).mono ?_
 rintro e w4 ⟨rfl,f4,k4⟩
 rw[T1.h4]at f4 ⊢
 dsimp only at f4 ⊢
 have K4:Aa b w w4:=Aa.trans (K3.new _ _ (by omega) _) k4
 have B0_4:=(B0_3.new (w.heap.size+1) 1 (zL y2_B0) (.int .i64 (g 1))).kept k4 (zG y1_BF)
 have B1_4:=(B1_3.put 1 (zD rfl) (.int .i64 (g 1)) [.int .i64 1099511627776,.int .i64 (g 1),.int .i64 0,.int .i64 0,.int .i64 0,.int .i64 0,.int .i64 0,.int .i64 0,.int .i64 0,.int .i64 0,.int .i64 0,.int .i64 0,.int .i64 0,.int .i64 0] rfl).kept k4 (zG y2_BF)
 have z4:=B1_4.lies
 clear c6_B1_1 g6_B1_1 K3 f3 B0_3 B1_3 k4
 go_wp2_with fail
 refine(Ak b false 1099511627776 v _ f4).mono ?_
 rintro e w5 ⟨rfl,f5,k5⟩
 rw[T1.h5]at f5 ⊢
 dsimp only at f5 ⊢
 have K5:=Aa.trans K4 k5
 have B0_5:=B0_4.kept k5 (zG y1_BF)
 have B1_5:=B1_4.kept k5 (zG y2_BF)
 have z5:=B1_5.lies
 clear K4 f4 B0_4 B1_4 k5
 go_wp2_with fail
 refine(BM b false T1.v4 T1.v5 _ f5).mono ?_
 rintro e w6 ⟨rfl,f6,k6⟩
 rw[T1.h6]at f6 ⊢
 dsimp only at f6 ⊢
 have K6:=Aa.trans K5 k6
 have B0_6:=B0_5.kept k6 (zG y1_BF)
 have B1_6:=B1_5.kept k6 (zG y2_BF)
 have z6:=B1_6.lies
 clear K5 f5 B0_5 B1_5 k6
 have c9_B1_8:w6.cell? ⟨w.heap.size+1,8,none⟩=some (.int .i64 0):=B1_6.c 8 (zD rfl)
 have g9_B1_8:=B1_6.f 8 (zD rfl)
 go_wp2_with fail
 clear c9_B1_8 g9_B1_8
 refine Cf (S:=fun w'=>Aa b w w'/\Fl b false w'/\Ap w.heap.size [.int .i64 0,.int .i64 0,.int .i64 0,.int .i64 0,.int .i64 0,.int .i64 0,.int .i64 0,.int .i64 0,.int .i64 0,.int .i64 0,.int .i64 0,.int .i64 0,.int .i64 0,.int .i64 0] w'/\Ap (w.heap.size+1) [.int .i64 1099511627776,.int .i64 (g 1),.int .i64 0,.int .i64 0,.int .i64 0,.int .i64 0,.int .i64 0,.int .i64 0,.int .i64 (g 8),.int .i64 0,.int .i64 0,.int .i64 0,.int .i64 0,.int .i64 0] w') ⟨(K6.new _ _ (by omega) _),(f6.new (w.heap.size+1) 8 (zL y2_BF) (.int .i64 (g 8))),(B0_6.new (w.heap.size+1) 8 (zL y2_B0) (.int .i64 (g 8))),(B1_6.put 8 (zD rfl) (.int .i64 (g 8)) [.int .i64 1099511627776,.int .i64 (g 1),.int .i64 0,.int .i64 0,.int .i64 0,.int .i64 0,.int .i64 0,.int .i64 0,.int .i64 (g 8),.int .i64 0,.int .i64 0,.int .i64 0,.int .i64 0,.int .i64 0] rfl)⟩ ?_
 rintro w7 ⟨K7,BF_7,B0_7,B1_7⟩
 have z7:=B1_7.lies
 clear K6 f6 B0_6 B1_6
 rw[rounds_succ]
 go_wp2_with fail
 refine wp_region_held_drew (S:=fun w'=>Ap (w.heap.size+1) [.int .i64 1099511627776,.int .i64 (g 1),.int .i64 0,.int .i64 0,.int .i64 0,.int .i64 0,.int .i64 0,.int .i64 0,.int .i64 (g 8),.int .i64 0,.int .i64 0,.int .i64 0,.int .i64 0,.int .i64 0] w') (by kernel_rfl) B1_7.drew (fun zH=>?_)
 refine zT 0 rfl (by kernel_rfl) (fun _ _ _=>id) rfl (fun _ _=>by go_simp<;>with_reducible rfl) zH ?_
 simp only[Act.put,zA,zB,zC]
 refine zT 1 rfl (by kernel_rfl) (fun _ _ _=>id) rfl (fun _ _=>by go_simp<;>with_reducible rfl) zH ?_
 simp only[Act.put,zA,zB,zC]
 rw[IntWalk.i64_in 1 (by omega)]
 refine zT 2 rfl (by kernel_rfl) (fun _ _ _=>id) rfl (fun _ _=>by go_simp<;>with_reducible rfl) zH ?_
 simp only[Act.put,zA,zB,zC]
 refine zT 3 rfl (by kernel_rfl) (fun _ _ _=>id) rfl (fun _ _=>by go_simp<;>with_reducible rfl) zH ?_
 simp only[Act.put,zA,zB,zC]
 refine zT 4 rfl (by kernel_rfl) (fun _ _ _=>id) rfl (fun wx hS=>by have hc1:wx.cell? ⟨w.heap.size+1,1,none⟩=some (.int .i64 (g 1)):=hS.c 1 (zD rfl);go_simp<;>with_reducible rfl) zH ?_
 simp only[Act.put,zA,zB,zC]
 refine zT 5 rfl (by kernel_rfl) (fun _ _ _=>id) rfl (fun _ _=>by go_simp<;>with_reducible rfl) zH ?_
 simp only[Act.put,zA,zB,zC]
 refine zT 6 rfl (by kernel_rfl) (fun _ _ _=>id) rfl (fun _ _=>by go_simp<;>with_reducible rfl) zH ?_
 simp only[Act.put,zA,zB,zC]
 rw[IntWalk.i64_in 1 (by omega)]
 refine zT 7 rfl (by kernel_rfl) (fun _ _ _=>id) rfl (fun _ _=>by go_simp<;>with_reducible rfl) zH ?_
 simp only[Act.put,zA,zB,zC]
 refine zT 8 rfl (by kernel_rfl) (fun _ _ _=>id) rfl (fun _ _=>by go_simp<;>with_reducible rfl) zH ?_
 simp only[Act.put,zA,zB,zC]
 refine zT 9 rfl (by kernel_rfl) (fun _ _ _=>id) rfl (fun wx hS=>by have hc8:wx.cell? ⟨w.heap.size+1,8,none⟩=some (.int .i64 (g 8)):=hS.c 8 (zD rfl);go_simp<;>with_reducible rfl) zH ?_
 simp only[Act.put,zA,zB,zC]
 refine zT 10 rfl (by kernel_rfl) (fun _ _ _=>id) rfl (fun _ _=>by go_simp<;>with_reducible rfl) zH ?_
 simp only[Act.put,zA,zB,zC]
 refine zT 11 rfl (by kernel_rfl) (fun _ _ _=>id) rfl (fun _ _=>by go_simp<;>with_reducible rfl) zH ?_
 simp only[Act.put,zA,zB,zC]
 refine wpAnyH_done (by kernel_rfl) ?_ _
 clear zH
 go_wp2_with fail
 refine(Ak b false (g 1) u _ BF_7.drew).mono ?_
 rintro e w8 ⟨rfl,f8,k8⟩
 rw[T2.h1]at f8 ⊢
 dsimp only at f8 ⊢
 have K8:Aa b w w8:=Aa.trans K7.drew k8
 have B0_8:=B0_7.drew.kept k8 (zG y1_BF)
 have B1_8:=B1_7.drew.kept k8 (zG y2_BF)
 have z8:=B1_8.lies
 clear K7 BF_7 B0_7 B1_7 k8
 go_wp2_with fail
 refine(Ak b false (g 8) v _ f8).mono ?_
 rintro e w9 ⟨rfl,f9,k9⟩
 rw[T2.h2]at f9 ⊢
 dsimp only at f9 ⊢
 have K9:=Aa.trans K8 k9
 have B0_9:=B0_8.kept k9 (zG y1_BF)
 have B1_9:=B1_8.kept k9 (zG y2_BF)
 have z9:=B1_9.lies
 clear K8 f8 B0_8 B1_8 k9
 go_wp2_with fail
 refine(BH b false T2.v1 T2.v2 _ f9).mono ?_
 rintro e w10 ⟨rfl,f10,k10⟩
 rw[T2.h3]at f10 ⊢
 dsimp only at f10 ⊢
 have K10:=Aa.trans K9 k10
 have B0_10:=B0_9.kept k10 (zG y1_BF)
 have B1_10:=B1_9.kept k10 (zG y2_BF)
 have z10:=B1_10.lies
 clear K9 f9 B0_9 B1_9 k10
 have c14_B1_2:w10.cell? ⟨w.heap.size+1,2,none⟩=some (.int .i64 0):=B1_10.c 2 (zD rfl)
 have g14_B1_2:=B1_10.f 2 (zD rfl)
 go_wp2_with fail
 refine(Ak b false (g 8) u _ (f10.new (w.heap.size+1) 2 (zL y2_BF) (.int .i64 (g 2)))).mono ?_
 rintro e w11 ⟨rfl,f11,k11⟩
 rw[T2.h4]at f11 ⊢
 dsimp only at f11 ⊢
 have K11:Aa b w w11:=Aa.trans (K10.new _ _ (by omega) _) k11
 have B0_11:=(B0_10.new (w.heap.size+1) 2 (zL y2_B0) (.int .i64 (g 2))).kept k11 (zG y1_BF)
 have B1_11:=(B1_10.put 2 (zD rfl) (.int .i64 (g 2)) [.int .i64 1099511627776,.int .i64 (g 1),.int .i64 (g 2),.int .i64 0,.int .i64 0,.int .i64 0,.int .i64 0,.int .i64 0,.int .i64 (g 8),.int .i64 0,.int .i64 0,.int .i64 0,.int .i64 0,.int .i64 0] rfl).kept k11 (zG y2_BF)
 have z11:=B1_11.lies
 clear c14_B1_2 g14_B1_2 K10 f10 B0_10 B1_10 k11
 go_wp2_with fail
 refine(Ak b false (g 1) v _ f11).mono ?_
 rintro e w12 ⟨rfl,f12,k12⟩
 rw[T2.h5]at f12 ⊢
 dsimp only at f12 ⊢
 have K12:=Aa.trans K11 k12
 have B0_12:=B0_11.kept k12 (zG y1_BF)
 have B1_12:=B1_11.kept k12 (zG y2_BF)
 have z12:=B1_12.lies
 clear K11 f11 B0_11 B1_11 k12
 go_wp2_with fail
 refine(BM b false T2.v4 T2.v5 _ f12).mono ?_
 rintro e w13 ⟨rfl,f13,k13⟩
 rw[T2.h6]at f13 ⊢
 dsimp only at f13 ⊢
 have K13:=Aa.trans K12 k13
 have B0_13:=B0_12.kept k13 (zG y1_BF)
 have B1_13:=B1_12.kept k13 (zG y2_BF)
 have z13:=B1_13.lies
 clear K12 f12 B0_12 B1_12 k13
 have c17_B1_9:w13.cell? ⟨w.heap.size+1,9,none⟩=some (.int .i64 0):=B1_13.c 9 (zD rfl)
 have g17_B1_9:=B1_13.f 9 (zD rfl)
 go_wp2_with fail
 clear c17_B1_9 g17_B1_9
 refine Cf (S:=fun w'=>Aa b w w'/\Fl b false w'/\Ap w.heap.size [.int .i64 0,.int .i64 0,.int .i64 0,.int .i64 0,.int .i64 0,.int .i64 0,.int .i64 0,.int .i64 0,.int .i64 0,.int .i64 0,.int .i64 0,.int .i64 0,.int .i64 0,.int .i64 0] w'/\Ap (w.heap.size+1) [.int .i64 1099511627776,.int .i64 (g 1),.int .i64 (g 2),.int .i64 0,.int .i64 0,.int .i64 0,.int .i64 0,.int .i64 0,.int .i64 (g 8),.int .i64 (g 9),.int .i64 0,.int .i64 0,.int .i64 0,.int .i64 0] w') ⟨(K13.new _ _ (by omega) _),(f13.new (w.heap.size+1) 9 (zL y2_BF) (.int .i64 (g 9))),(B0_13.new (w.heap.size+1) 9 (zL y2_B0) (.int .i64 (g 9))),(B1_13.put 9 (zD rfl) (.int .i64 (g 9)) [.int .i64 1099511627776,.int .i64 (g 1),.int .i64 (g 2),.int .i64 0,.int .i64 0,.int .i64 0,.int .i64 0,.int .i64 0,.int .i64 (g 8),.int .i64 (g 9),.int .i64 0,.int .i64 0,.int .i64 0,.int .i64 0] rfl)⟩ ?_
 rintro w14 ⟨K14,BF_14,B0_14,B1_14⟩
 have z14:=B1_14.lies
 clear K13 f13 B0_13 B1_13
 rw[rounds_succ]
 go_wp2_with fail
 refine wp_region_held_drew (S:=fun w'=>Ap (w.heap.size+1) [.int .i64 1099511627776,.int .i64 (g 1),.int .i64 (g 2),.int .i64 0,.int .i64 0,.int .i64 0,.int .i64 0,.int .i64 0,.int .i64 (g 8),.int .i64 (g 9),.int .i64 0,.int .i64 0,.int .i64 0,.int .i64 0] w') (by kernel_rfl) B1_14.drew (fun zH=>?_)
 refine zT 0 rfl (by kernel_rfl) (fun _ _ _=>id) rfl (fun _ _=>by go_simp<;>with_reducible rfl) zH ?_
 simp only[Act.put,zA,zB,zC]
 refine zT 1 rfl (by kernel_rfl) (fun _ _ _=>id) rfl (fun _ _=>by go_simp<;>with_reducible rfl) zH ?_
 simp only[Act.put,zA,zB,zC]
 rw[IntWalk.i64_in 2 (by omega)]
 refine zT 2 rfl (by kernel_rfl) (fun _ _ _=>id) rfl (fun _ _=>by go_simp<;>with_reducible rfl) zH ?_
 simp only[Act.put,zA,zB,zC]
 refine zT 3 rfl (by kernel_rfl) (fun _ _ _=>id) rfl (fun _ _=>by go_simp<;>with_reducible rfl) zH ?_
 simp only[Act.put,zA,zB,zC]
 refine zT 4 rfl (by kernel_rfl) (fun _ _ _=>id) rfl (fun wx hS=>by have hc2:wx.cell? ⟨w.heap.size+1,2,none⟩=some (.int .i64 (g 2)):=hS.c 2 (zD rfl);go_simp<;>with_reducible rfl) zH ?_
 simp only[Act.put,zA,zB,zC]
 refine zT 5 rfl (by kernel_rfl) (fun _ _ _=>id) rfl (fun _ _=>by go_simp<;>with_reducible rfl) zH ?_
 simp only[Act.put,zA,zB,zC]
 refine zT 6 rfl (by kernel_rfl) (fun _ _ _=>id) rfl (fun _ _=>by go_simp<;>with_reducible rfl) zH ?_
 simp only[Act.put,zA,zB,zC]
 rw[IntWalk.i64_in 2 (by omega)]
 refine zT 7 rfl (by kernel_rfl) (fun _ _ _=>id) rfl (fun _ _=>by go_simp<;>with_reducible rfl) zH ?_
 simp only[Act.put,zA,zB,zC]
 refine zT 8 rfl (by kernel_rfl) (fun _ _ _=>id) rfl (fun _ _=>by go_simp<;>with_reducible rfl) zH ?_
 simp only[Act.put,zA,zB,zC]
 refine zT 9 rfl (by kernel_rfl) (fun _ _ _=>id) rfl (fun wx hS=>by have hc9:wx.cell? ⟨w.heap.size+1,9,none⟩=some (.int .i64 (g 9)):=hS.c 9 (zD rfl);go_simp<;>with_reducible rfl) zH ?_
 simp only[Act.put,zA,zB,zC]
 refine zT 10 rfl (by kernel_rfl) (fun _ _ _=>id) rfl (fun _ _=>by go_simp<;>with_reducible rfl) zH ?_
 simp only[Act.put,zA,zB,zC]
 refine zT 11 rfl (by kernel_rfl) (fun _ _ _=>id) rfl (fun _ _=>by go_simp<;>with_reducible rfl) zH ?_
 simp only[Act.put,zA,zB,zC]
 refine wpAnyH_done (by kernel_rfl) ?_ _
 clear zH
 go_wp2_with fail
 refine(Ak b false (g 2) u _ BF_14.drew).mono ?_
 rintro e w15 ⟨rfl,f15,k15⟩
 rw[T3.h1]at f15 ⊢
 dsimp only at f15 ⊢
 have K15:Aa b w w15:=Aa.trans K14.drew k15
 have B0_15:=B0_14.drew.kept k15 (zG y1_BF)
 have B1_15:=B1_14.drew.kept k15 (zG y2_BF)
 have z15:=B1_15.lies
 clear K14 BF_14 B0_14 B1_14 k15
 go_wp2_with fail
 refine(Ak b false (g 9) v _ f15).mono ?_
 rintro e w16 ⟨rfl,f16,k16⟩
 rw[T3.h2]at f16 ⊢
 dsimp only at f16 ⊢
 have K16:=Aa.trans K15 k16
 have B0_16:=B0_15.kept k16 (zG y1_BF)
 have B1_16:=B1_15.kept k16 (zG y2_BF)
 have z16:=B1_16.lies
 clear K15 f15 B0_15 B1_15 k16
 go_wp2_with fail
 refine(BH b false T3.v1 T3.v2 _ f16).mono ?_
 rintro e w17 ⟨rfl,f17,k17⟩
 rw[T3.h3]at f17 ⊢
 dsimp only at f17 ⊢
 have K17:=Aa.trans K16 k17
 have B0_17:=B0_16.kept k17 (zG y1_BF)
 have B1_17:=B1_16.kept k17 (zG y2_BF)
 have z17:=B1_17.lies
 clear K16 f16 B0_16 B1_16 k17
 have c22_B1_3:w17.cell? ⟨w.heap.size+1,3,none⟩=some (.int .i64 0):=B1_17.c 3 (zD rfl)
 have g22_B1_3:=B1_17.f 3 (zD rfl)
 go_wp2_with fail
 refine(Ak b false (g 9) u _ (f17.new (w.heap.size+1) 3 (zL y2_BF) (.int .i64 (g 3)))).mono ?_
 rintro e w18 ⟨rfl,f18,k18⟩
 rw[T3.h4]at f18 ⊢
 dsimp only at f18 ⊢
 have K18:Aa b w w18:=Aa.trans (K17.new _ _ (by omega) _) k18
 have B0_18:=(B0_17.new (w.heap.size+1) 3 (zL y2_B0) (.int .i64 (g 3))).kept k18 (zG y1_BF)
 have B1_18:=(B1_17.put 3 (zD rfl) (.int .i64 (g 3)) [.int .i64 1099511627776,.int .i64 (g 1),.int .i64 (g 2),.int .i64 (g 3),.int .i64 0,.int .i64 0,.int .i64 0,.int .i64 0,.int .i64 (g 8),.int .i64 (g 9),.int .i64 0,.int .i64 0,.int .i64 0,.int .i64 0] rfl).kept k18 (zG y2_BF)
 have z18:=B1_18.lies
 clear c22_B1_3 g22_B1_3 K17 f17 B0_17 B1_17 k18
 go_wp2_with fail
 refine(Ak b false (g 2) v _ f18).mono ?_
 rintro e w19 ⟨rfl,f19,k19⟩
 rw[T3.h5]at f19 ⊢
 dsimp only at f19 ⊢
 have K19:=Aa.trans K18 k19
 have B0_19:=B0_18.kept k19 (zG y1_BF)
 have B1_19:=B1_18.kept k19 (zG y2_BF)
 have z19:=B1_19.lies
 clear K18 f18 B0_18 B1_18 k19
 go_wp2_with fail
 refine(BM b false T3.v4 T3.v5 _ f19).mono ?_
 rintro e w20 ⟨rfl,f20,k20⟩
 rw[T3.h6]at f20 ⊢
 dsimp only at f20 ⊢
 have K20:=Aa.trans K19 k20
 have B0_20:=B0_19.kept k20 (zG y1_BF)
 have B1_20:=B1_19.kept k20 (zG y2_BF)
 have z20:=B1_20.lies
 clear K19 f19 B0_19 B1_19 k20
 have c25_B1_10:w20.cell? ⟨w.heap.size+1,10,none⟩=some (.int .i64 0):=B1_20.c 10 (zD rfl)
 have g25_B1_10:=B1_20.f 10 (zD rfl)
 go_wp2_with fail
 clear c25_B1_10 g25_B1_10
 refine Cf (S:=fun w'=>Aa b w w'/\Fl b false w'/\Ap w.heap.size [.int .i64 0,.int .i64 0,.int .i64 0,.int .i64 0,.int .i64 0,.int .i64 0,.int .i64 0,.int .i64 0,.int .i64 0,.int .i64 0,.int .i64 0,.int .i64 0,.int .i64 0,.int .i64 0] w'/\Ap (w.heap.size+1) [.int .i64 1099511627776,.int .i64 (g 1),.int .i64 (g 2),.int .i64 (g 3),.int .i64 0,.int .i64 0,.int .i64 0,.int .i64 0,.int .i64 (g 8),.int .i64 (g 9),.int .i64 (g 10),.int .i64 0,.int .i64 0,.int .i64 0] w') ⟨(K20.new _ _ (by omega) _),(f20.new (w.heap.size+1) 10 (zL y2_BF) (.int .i64 (g 10))),(B0_20.new (w.heap.size+1) 10 (zL y2_B0) (.int .i64 (g 10))),(B1_20.put 10 (zD rfl) (.int .i64 (g 10)) [.int .i64 1099511627776,.int .i64 (g 1),.int .i64 (g 2),.int .i64 (g 3),.int .i64 0,.int .i64 0,.int .i64 0,.int .i64 0,.int .i64 (g 8),.int .i64 (g 9),.int .i64 (g 10),.int .i64 0,.int .i64 0,.int .i64 0] rfl)⟩ ?_
 rintro w21 ⟨K21,BF_21,B0_21,B1_21⟩
 have z21:=B1_21.lies
 clear K20 f20 B0_20 B1_20
 rw[rounds_succ]
 go_wp2_with fail
 refine wp_region_held_drew (S:=fun w'=>Ap (w.heap.size+1) [.int .i64 1099511627776,.int .i64 (g 1),.int .i64 (g 2),.int .i64 (g 3),.int .i64 0,.int .i64 0,.int .i64 0,.int .i64 0,.int .i64 (g 8),.int .i64 (g 9),.int .i64 (g 10),.int .i64 0,.int .i64 0,.int .i64 0] w') (by kernel_rfl) B1_21.drew (fun zH=>?_)
 refine zT 0 rfl (by kernel_rfl) (fun _ _ _=>id) rfl (fun _ _=>by go_simp<;>with_reducible rfl) zH ?_
 simp only[Act.put,zA,zB,zC]
 refine zT 1 rfl (by kernel_rfl) (fun _ _ _=>id) rfl (fun _ _=>by go_simp<;>with_reducible rfl) zH ?_
 simp only[Act.put,zA,zB,zC]
 rw[IntWalk.i64_in 3 (by omega)]
 refine zT 2 rfl (by kernel_rfl) (fun _ _ _=>id) rfl (fun _ _=>by go_simp<;>with_reducible rfl) zH ?_
 simp only[Act.put,zA,zB,zC]
 refine zT 3 rfl (by kernel_rfl) (fun _ _ _=>id) rfl (fun _ _=>by go_simp<;>with_reducible rfl) zH ?_
 simp only[Act.put,zA,zB,zC]
 refine zT 4 rfl (by kernel_rfl) (fun _ _ _=>id) rfl (fun wx hS=>by have hc3:wx.cell? ⟨w.heap.size+1,3,none⟩=some (.int .i64 (g 3)):=hS.c 3 (zD rfl);go_simp<;>with_reducible rfl) zH ?_
 simp only[Act.put,zA,zB,zC]
 refine zT 5 rfl (by kernel_rfl) (fun _ _ _=>id) rfl (fun _ _=>by go_simp<;>with_reducible rfl) zH ?_
 simp only[Act.put,zA,zB,zC]
 refine zT 6 rfl (by kernel_rfl) (fun _ _ _=>id) rfl (fun _ _=>by go_simp<;>with_reducible rfl) zH ?_
 simp only[Act.put,zA,zB,zC]
 rw[IntWalk.i64_in 3 (by omega)]
 refine zT 7 rfl (by kernel_rfl) (fun _ _ _=>id) rfl (fun _ _=>by go_simp<;>with_reducible rfl) zH ?_
 simp only[Act.put,zA,zB,zC]
 refine zT 8 rfl (by kernel_rfl) (fun _ _ _=>id) rfl (fun _ _=>by go_simp<;>with_reducible rfl) zH ?_
 simp only[Act.put,zA,zB,zC]
 refine zT 9 rfl (by kernel_rfl) (fun _ _ _=>id) rfl (fun wx hS=>by have hc10:wx.cell? ⟨w.heap.size+1,10,none⟩=some (.int .i64 (g 10)):=hS.c 10 (zD rfl);go_simp<;>with_reducible rfl) zH ?_
 simp only[Act.put,zA,zB,zC]
 refine zT 10 rfl (by kernel_rfl) (fun _ _ _=>id) rfl (fun _ _=>by go_simp<;>with_reducible rfl) zH ?_
 simp only[Act.put,zA,zB,zC]
 refine zT 11 rfl (by kernel_rfl) (fun _ _ _=>id) rfl (fun _ _=>by go_simp<;>with_reducible rfl) zH ?_
 simp only[Act.put,zA,zB,zC]
 refine wpAnyH_done (by kernel_rfl) ?_ _
 clear zH
 go_wp2_with fail
 refine(Ak b false (g 3) u _ BF_21.drew).mono ?_
 rintro e w22 ⟨rfl,f22,k22⟩
 rw[T4.h1]at f22 ⊢
 dsimp only at f22 ⊢
 have K22:Aa b w w22:=Aa.trans K21.drew k22
 have B0_22:=B0_21.drew.kept k22 (zG y1_BF)
 have B1_22:=B1_21.drew.kept k22 (zG y2_BF)
 have z22:=B1_22.lies
 clear K21 BF_21 B0_21 B1_21 k22
 go_wp2_with fail
 refine(Ak b false (g 10) v _ f22).mono ?_
 rintro e w23 ⟨rfl,f23,k23⟩
 rw[T4.h2]at f23 ⊢
 dsimp only at f23 ⊢
 have K23:=Aa.trans K22 k23
 have B0_23:=B0_22.kept k23 (zG y1_BF)
 have B1_23:=B1_22.kept k23 (zG y2_BF)
 have z23:=B1_23.lies
 clear K22 f22 B0_22 B1_22 k23
 go_wp2_with fail
 refine(BH b false T4.v1 T4.v2 _ f23).mono ?_
 rintro e w24 ⟨rfl,f24,k24⟩
 rw[T4.h3]at f24 ⊢
 dsimp only at f24 ⊢
 have K24:=Aa.trans K23 k24
 have B0_24:=B0_23.kept k24 (zG y1_BF)
 have B1_24:=B1_23.kept k24 (zG y2_BF)
 have z24:=B1_24.lies
 clear K23 f23 B0_23 B1_23 k24
 have c30_B1_4:w24.cell? ⟨w.heap.size+1,4,none⟩=some (.int .i64 0):=B1_24.c 4 (zD rfl)
 have g30_B1_4:=B1_24.f 4 (zD rfl)
 go_wp2_with fail
 refine(Ak b false (g 10) u _ (f24.new (w.heap.size+1) 4 (zL y2_BF) (.int .i64 (g 4)))).mono ?_
 rintro e w25 ⟨rfl,f25,k25⟩
 rw[T4.h4]at f25 ⊢
 dsimp only at f25 ⊢
 have K25:Aa b w w25:=Aa.trans (K24.new _ _ (by omega) _) k25
 have B0_25:=(B0_24.new (w.heap.size+1) 4 (zL y2_B0) (.int .i64 (g 4))).kept k25 (zG y1_BF)
 have B1_25:=(B1_24.put 4 (zD rfl) (.int .i64 (g 4)) [.int .i64 1099511627776,.int .i64 (g 1),.int .i64 (g 2),.int .i64 (g 3),.int .i64 (g 4),.int .i64 0,.int .i64 0,.int .i64 0,.int .i64 (g 8),.int .i64 (g 9),.int .i64 (g 10),.int .i64 0,.int .i64 0,.int .i64 0] rfl).kept k25 (zG y2_BF)
 have z25:=B1_25.lies
 clear c30_B1_4 g30_B1_4 K24 f24 B0_24 B1_24 k25
 go_wp2_with fail
 refine(Ak b false (g 3) v _ f25).mono ?_
 rintro e w26 ⟨rfl,f26,k26⟩
 rw[T4.h5]at f26 ⊢
 dsimp only at f26 ⊢
 have K26:=Aa.trans K25 k26
 have B0_26:=B0_25.kept k26 (zG y1_BF)
 have B1_26:=B1_25.kept k26 (zG y2_BF)
 have z26:=B1_26.lies
 clear K25 f25 B0_25 B1_25 k26
 go_wp2_with fail
 refine(BM b false T4.v4 T4.v5 _ f26).mono ?_
 rintro e w27 ⟨rfl,f27,k27⟩
 rw[T4.h6]at f27 ⊢
 dsimp only at f27 ⊢
 have K27:=Aa.trans K26 k27
 have B0_27:=B0_26.kept k27 (zG y1_BF)
 have B1_27:=B1_26.kept k27 (zG y2_BF)
 have z27:=B1_27.lies
 clear K26 f26 B0_26 B1_26 k27
 have c33_B1_11:w27.cell? ⟨w.heap.size+1,11,none⟩=some (.int .i64 0):=B1_27.c 11 (zD rfl)
 have g33_B1_11:=B1_27.f 11 (zD rfl)
 go_wp2_with fail
 clear c33_B1_11 g33_B1_11
 refine Cf (S:=fun w'=>Aa b w w'/\Fl b false w'/\Ap w.heap.size [.int .i64 0,.int .i64 0,.int .i64 0,.int .i64 0,.int .i64 0,.int .i64 0,.int .i64 0,.int .i64 0,.int .i64 0,.int .i64 0,.int .i64 0,.int .i64 0,.int .i64 0,.int .i64 0] w'/\Ap (w.heap.size+1) [.int .i64 1099511627776,.int .i64 (g 1),.int .i64 (g 2),.int .i64 (g 3),.int .i64 (g 4),.int .i64 0,.int .i64 0,.int .i64 0,.int .i64 (g 8),.int .i64 (g 9),.int .i64 (g 10),.int .i64 (g 11),.int .i64 0,.int .i64 0] w') ⟨(K27.new _ _ (by omega) _),(f27.new (w.heap.size+1) 11 (zL y2_BF) (.int .i64 (g 11))),(B0_27.new (w.heap.size+1) 11 (zL y2_B0) (.int .i64 (g 11))),(B1_27.put 11 (zD rfl) (.int .i64 (g 11)) [.int .i64 1099511627776,.int .i64 (g 1),.int .i64 (g 2),.int .i64 (g 3),.int .i64 (g 4),.int .i64 0,.int .i64 0,.int .i64 0,.int .i64 (g 8),.int .i64 (g 9),.int .i64 (g 10),.int .i64 (g 11),.int .i64 0,.int .i64 0] rfl)⟩ ?_
 rintro w28 ⟨K28,BF_28,B0_28,B1_28⟩
 have z28:=B1_28.lies
 clear K27 f27 B0_27 B1_27
 rw[rounds_succ]
 go_wp2_with fail
 refine wp_region_held_drew (S:=fun w'=>Ap (w.heap.size+1) [.int .i64 1099511627776,.int .i64 (g 1),.int .i64 (g 2),.int .i64 (g 3),.int .i64 (g 4),.int .i64 0,.int .i64 0,.int .i64 0,.int .i64 (g 8),.int .i64 (g 9),.int .i64 (g 10),.int .i64 (g 11),.int .i64 0,.int .i64 0] w') (by kernel_rfl) B1_28.drew (fun zH=>?_)
 refine zT 0 rfl (by kernel_rfl) (fun _ _ _=>id) rfl (fun _ _=>by go_simp<;>with_reducible rfl) zH ?_
 simp only[Act.put,zA,zB,zC]
 refine zT 1 rfl (by kernel_rfl) (fun _ _ _=>id) rfl (fun _ _=>by go_simp<;>with_reducible rfl) zH ?_
 simp only[Act.put,zA,zB,zC]
 rw[IntWalk.i64_in 4 (by omega)]
 refine zT 2 rfl (by kernel_rfl) (fun _ _ _=>id) rfl (fun _ _=>by go_simp<;>with_reducible rfl) zH ?_
 simp only[Act.put,zA,zB,zC]
 refine zT 3 rfl (by kernel_rfl) (fun _ _ _=>id) rfl (fun _ _=>by go_simp<;>with_reducible rfl) zH ?_
 simp only[Act.put,zA,zB,zC]
 refine zT 4 rfl (by kernel_rfl) (fun _ _ _=>id) rfl (fun wx hS=>by have hc4:wx.cell? ⟨w.heap.size+1,4,none⟩=some (.int .i64 (g 4)):=hS.c 4 (zD rfl);go_simp<;>with_reducible rfl) zH ?_
 simp only[Act.put,zA,zB,zC]
 refine zT 5 rfl (by kernel_rfl) (fun _ _ _=>id) rfl (fun _ _=>by go_simp<;>with_reducible rfl) zH ?_
 simp only[Act.put,zA,zB,zC]
 refine zT 6 rfl (by kernel_rfl) (fun _ _ _=>id) rfl (fun _ _=>by go_simp<;>with_reducible rfl) zH ?_
 simp only[Act.put,zA,zB,zC]
 rw[IntWalk.i64_in 4 (by omega)]
 refine zT 7 rfl (by kernel_rfl) (fun _ _ _=>id) rfl (fun _ _=>by go_simp<;>with_reducible rfl) zH ?_
 simp only[Act.put,zA,zB,zC]
 refine zT 8 rfl (by kernel_rfl) (fun _ _ _=>id) rfl (fun _ _=>by go_simp<;>with_reducible rfl) zH ?_
 simp only[Act.put,zA,zB,zC]
 refine zT 9 rfl (by kernel_rfl) (fun _ _ _=>id) rfl (fun wx hS=>by have hc11:wx.cell? ⟨w.heap.size+1,11,none⟩=some (.int .i64 (g 11)):=hS.c 11 (zD rfl);go_simp<;>with_reducible rfl) zH ?_
 simp only[Act.put,zA,zB,zC]
 refine zT 10 rfl (by kernel_rfl) (fun _ _ _=>id) rfl (fun _ _=>by go_simp<;>with_reducible rfl) zH ?_
 simp only[Act.put,zA,zB,zC]
 refine zT 11 rfl (by kernel_rfl) (fun _ _ _=>id) rfl (fun _ _=>by go_simp<;>with_reducible rfl) zH ?_
 simp only[Act.put,zA,zB,zC]
 refine wpAnyH_done (by kernel_rfl) ?_ _
 clear zH
 go_wp2_with fail
 refine(Ak b false (g 4) u _ BF_28.drew).mono ?_
 rintro e w29 ⟨rfl,f29,k29⟩
 rw[T5.h1]at f29 ⊢
 dsimp only at f29 ⊢
 have K29:Aa b w w29:=Aa.trans K28.drew k29
 have B0_29:=B0_28.drew.kept k29 (zG y1_BF)
 have B1_29:=B1_28.drew.kept k29 (zG y2_BF)
 have z29:=B1_29.lies
 clear K28 BF_28 B0_28 B1_28 k29
 go_wp2_with fail
 refine(Ak b false (g 11) v _ f29).mono ?_
 rintro e w30 ⟨rfl,f30,k30⟩
 rw[T5.h2]at f30 ⊢
 dsimp only at f30 ⊢
 have K30:=Aa.trans K29 k30
 have B0_30:=B0_29.kept k30 (zG y1_BF)
 have B1_30:=B1_29.kept k30 (zG y2_BF)
 have z30:=B1_30.lies
 clear K29 f29 B0_29 B1_29 k30
 go_wp2_with fail
 refine(BH b false T5.v1 T5.v2 _ f30).mono ?_
 rintro e w31 ⟨rfl,f31,k31⟩
 rw[T5.h3]at f31 ⊢
 dsimp only at f31 ⊢
 have K31:=Aa.trans K30 k31
 have B0_31:=B0_30.kept k31 (zG y1_BF)
 have B1_31:=B1_30.kept k31 (zG y2_BF)
 have z31:=B1_31.lies
 clear K30 f30 B0_30 B1_30 k31
 have c38_B1_5:w31.cell? ⟨w.heap.size+1,5,none⟩=some (.int .i64 0):=B1_31.c 5 (zD rfl)
 have g38_B1_5:=B1_31.f 5 (zD rfl)
 go_wp2_with fail
 refine(Ak b false (g 11) u _ (f31.new (w.heap.size+1) 5 (zL y2_BF) (.int .i64 (g 5)))).mono ?_
 rintro e w32 ⟨rfl,f32,k32⟩
 rw[T5.h4]at f32 ⊢
 dsimp only at f32 ⊢
 have K32:Aa b w w32:=Aa.trans (K31.new _ _ (by omega) _) k32
 have B0_32:=(B0_31.new (w.heap.size+1) 5 (zL y2_B0) (.int .i64 (g 5))).kept k32 (zG y1_BF)
 have B1_32:=(B1_31.put 5 (zD rfl) (.int .i64 (g 5)) [.int .i64 1099511627776,.int .i64 (g 1),.int .i64 (g 2),.int .i64 (g 3),.int .i64 (g 4),.int .i64 (g 5),.int .i64 0,.int .i64 0,.int .i64 (g 8),.int .i64 (g 9),.int .i64 (g 10),.int .i64 (g 11),.int .i64 0,.int .i64 0] rfl).kept k32 (zG y2_BF)
 have z32:=B1_32.lies
 clear c38_B1_5 g38_B1_5 K31 f31 B0_31 B1_31 k32
 go_wp2_with fail
 refine(Ak b false (g 4) v _ f32).mono ?_
 rintro e w33 ⟨rfl,f33,k33⟩
 rw[T5.h5]at f33 ⊢
 dsimp only at f33 ⊢
 have K33:=Aa.trans K32 k33
 have B0_33:=B0_32.kept k33 (zG y1_BF)
 have B1_33:=B1_32.kept k33 (zG y2_BF)
 have z33:=B1_33.lies
 clear K32 f32 B0_32 B1_32 k33
 go_wp2_with fail
 refine(BM b false T5.v4 T5.v5 _ f33).mono ?_
 rintro e w34 ⟨rfl,f34,k34⟩
 rw[T5.h6]at f34 ⊢
 dsimp only at f34 ⊢
 have K34:=Aa.trans K33 k34
 have B0_34:=B0_33.kept k34 (zG y1_BF)
 have B1_34:=B1_33.kept k34 (zG y2_BF)
 have z34:=B1_34.lies
 clear K33 f33 B0_33 B1_33 k34
 have c41_B1_12:w34.cell? ⟨w.heap.size+1,12,none⟩=some (.int .i64 0):=B1_34.c 12 (zD rfl)
 have g41_B1_12:=B1_34.f 12 (zD rfl)
 go_wp2_with fail
 clear c41_B1_12 g41_B1_12
 refine Cf (S:=fun w'=>Aa b w w'/\Fl b false w'/\Ap w.heap.size [.int .i64 0,.int .i64 0,.int .i64 0,.int .i64 0,.int .i64 0,.int .i64 0,.int .i64 0,.int .i64 0,.int .i64 0,.int .i64 0,.int .i64 0,.int .i64 0,.int .i64 0,.int .i64 0] w'/\Ap (w.heap.size+1) [.int .i64 1099511627776,.int .i64 (g 1),.int .i64 (g 2),.int .i64 (g 3),.int .i64 (g 4),.int .i64 (g 5),.int .i64 0,.int .i64 0,.int .i64 (g 8),.int .i64 (g 9),.int .i64 (g 10),.int .i64 (g 11),.int .i64 (g 12),.int .i64 0] w') ⟨(K34.new _ _ (by omega) _),(f34.new (w.heap.size+1) 12 (zL y2_BF) (.int .i64 (g 12))),(B0_34.new (w.heap.size+1) 12 (zL y2_B0) (.int .i64 (g 12))),(B1_34.put 12 (zD rfl) (.int .i64 (g 12)) [.int .i64 1099511627776,.int .i64 (g 1),.int .i64 (g 2),.int .i64 (g 3),.int .i64 (g 4),.int .i64 (g 5),.int .i64 0,.int .i64 0,.int .i64 (g 8),.int .i64 (g 9),.int .i64 (g 10),.int .i64 (g 11),.int .i64 (g 12),.int .i64 0] rfl)⟩ ?_
 rintro w35 ⟨K35,BF_35,B0_35,B1_35⟩
 have z35:=B1_35.lies
 clear K34 f34 B0_34 B1_34
 rw[rounds_succ]
 go_wp2_with fail
 refine wp_region_held_drew (S:=fun w'=>Ap (w.heap.size+1) [.int .i64 1099511627776,.int .i64 (g 1),.int .i64 (g 2),.int .i64 (g 3),.int .i64 (g 4),.int .i64 (g 5),.int .i64 0,.int .i64 0,.int .i64 (g 8),.int .i64 (g 9),.int .i64 (g 10),.int .i64 (g 11),.int .i64 (g 12),.int .i64 0] w') (by kernel_rfl) B1_35.drew (fun zH=>?_)
 refine zT 0 rfl (by kernel_rfl) (fun _ _ _=>id) rfl (fun _ _=>by go_simp<;>with_reducible rfl) zH ?_
 simp only[Act.put,zA,zB,zC]
 refine zT 1 rfl (by kernel_rfl) (fun _ _ _=>id) rfl (fun _ _=>by go_simp<;>with_reducible rfl) zH ?_
 simp only[Act.put,zA,zB,zC]
 rw[IntWalk.i64_in 5 (by omega)]
 refine zT 2 rfl (by kernel_rfl) (fun _ _ _=>id) rfl (fun _ _=>by go_simp<;>with_reducible rfl) zH ?_
 simp only[Act.put,zA,zB,zC]
 refine zT 3 rfl (by kernel_rfl) (fun _ _ _=>id) rfl (fun _ _=>by go_simp<;>with_reducible rfl) zH ?_
 simp only[Act.put,zA,zB,zC]
 refine zT 4 rfl (by kernel_rfl) (fun _ _ _=>id) rfl (fun wx hS=>by have hc5:wx.cell? ⟨w.heap.size+1,5,none⟩=some (.int .i64 (g 5)):=hS.c 5 (zD rfl);go_simp<;>with_reducible rfl) zH ?_
 simp only[Act.put,zA,zB,zC]
 refine zT 5 rfl (by kernel_rfl) (fun _ _ _=>id) rfl (fun _ _=>by go_simp<;>with_reducible rfl) zH ?_
 simp only[Act.put,zA,zB,zC]
 refine zT 6 rfl (by kernel_rfl) (fun _ _ _=>id) rfl (fun _ _=>by go_simp<;>with_reducible rfl) zH ?_
 simp only[Act.put,zA,zB,zC]
 rw[IntWalk.i64_in 5 (by omega)]
 refine zT 7 rfl (by kernel_rfl) (fun _ _ _=>id) rfl (fun _ _=>by go_simp<;>with_reducible rfl) zH ?_
 simp only[Act.put,zA,zB,zC]
 refine zT 8 rfl (by kernel_rfl) (fun _ _ _=>id) rfl (fun _ _=>by go_simp<;>with_reducible rfl) zH ?_
 simp only[Act.put,zA,zB,zC]
 refine zT 9 rfl (by kernel_rfl) (fun _ _ _=>id) rfl (fun wx hS=>by have hc12:wx.cell? ⟨w.heap.size+1,12,none⟩=some (.int .i64 (g 12)):=hS.c 12 (zD rfl);go_simp<;>with_reducible rfl) zH ?_
 simp only[Act.put,zA,zB,zC]
 refine zT 10 rfl (by kernel_rfl) (fun _ _ _=>id) rfl (fun _ _=>by go_simp<;>with_reducible rfl) zH ?_
 simp only[Act.put,zA,zB,zC]
 refine zT 11 rfl (by kernel_rfl) (fun _ _ _=>id) rfl (fun _ _=>by go_simp<;>with_reducible rfl) zH ?_
 simp only[Act.put,zA,zB,zC]
 refine wpAnyH_done (by kernel_rfl) ?_ _
 clear zH
 go_wp2_with fail
 refine(Ak b false (g 5) u _ BF_35.drew).mono ?_
 rintro e w36 ⟨rfl,f36,k36⟩
 rw[T6.h1]at f36 ⊢
 dsimp only at f36 ⊢
 have K36:Aa b w w36:=Aa.trans K35.drew k36
 have B0_36:=B0_35.drew.kept k36 (zG y1_BF)
 have B1_36:=B1_35.drew.kept k36 (zG y2_BF)
 have z36:=B1_36.lies
 clear K35 BF_35 B0_35 B1_35 k36
 go_wp2_with fail
 refine(Ak b false (g 12) v _ f36).mono ?_
 rintro e w37 ⟨rfl,f37,k37⟩
 rw[T6.h2]at f37 ⊢
 dsimp only at f37 ⊢
 have K37:=Aa.trans K36 k37
 have B0_37:=B0_36.kept k37 (zG y1_BF)
 have B1_37:=B1_36.kept k37 (zG y2_BF)
 have z37:=B1_37.lies
 clear K36 f36 B0_36 B1_36 k37
 go_wp2_with fail
 refine(BH b false T6.v1 T6.v2 _ f37).mono ?_
 rintro e w38 ⟨rfl,f38,k38⟩
 rw[T6.h3]at f38 ⊢
 dsimp only at f38 ⊢
 have K38:=Aa.trans K37 k38
 have B0_38:=B0_37.kept k38 (zG y1_BF)
 have B1_38:=B1_37.kept k38 (zG y2_BF)
 have z38:=B1_38.lies
 clear K37 f37 B0_37 B1_37 k38
 have c46_B1_6:w38.cell? ⟨w.heap.size+1,6,none⟩=some (.int .i64 0):=B1_38.c 6 (zD rfl)
 have g46_B1_6:=B1_38.f 6 (zD rfl)
 go_wp2_with fail
 refine(Ak b false (g 12) u _ (f38.new (w.heap.size+1) 6 (zL y2_BF) (.int .i64 (g 6)))).mono ?_
 rintro e w39 ⟨rfl,f39,k39⟩
 rw[T6.h4]at f39 ⊢
 dsimp only at f39 ⊢
 have K39:Aa b w w39:=Aa.trans (K38.new _ _ (by omega) _) k39
 have B0_39:=(B0_38.new (w.heap.size+1) 6 (zL y2_B0) (.int .i64 (g 6))).kept k39 (zG y1_BF)
 have B1_39:=(B1_38.put 6 (zD rfl) (.int .i64 (g 6)) [.int .i64 1099511627776,.int .i64 (g 1),.int .i64 (g 2),.int .i64 (g 3),.int .i64 (g 4),.int .i64 (g 5),.int .i64 (g 6),.int .i64 0,.int .i64 (g 8),.int .i64 (g 9),.int .i64 (g 10),.int .i64 (g 11),.int .i64 (g 12),.int .i64 0] rfl).kept k39 (zG y2_BF)
 have z39:=B1_39.lies
 clear c46_B1_6 g46_B1_6 K38 f38 B0_38 B1_38 k39
 go_wp2_with fail
 refine(Ak b false (g 5) v _ f39).mono ?_
 rintro e w40 ⟨rfl,f40,k40⟩
 rw[T6.h5]at f40 ⊢
 dsimp only at f40 ⊢
 have K40:=Aa.trans K39 k40
 have B0_40:=B0_39.kept k40 (zG y1_BF)
 have B1_40:=B1_39.kept k40 (zG y2_BF)
 have z40:=B1_40.lies
 clear K39 f39 B0_39 B1_39 k40
 go_wp2_with fail
 refine(BM b false T6.v4 T6.v5 _ f40).mono ?_
 rintro e w41 ⟨rfl,f41,k41⟩
 rw[T6.h6]at f41 ⊢
 dsimp only at f41 ⊢
 have K41:=Aa.trans K40 k41
 have B0_41:=B0_40.kept k41 (zG y1_BF)
 have B1_41:=B1_40.kept k41 (zG y2_BF)
 have z41:=B1_41.lies
 clear K40 f40 B0_40 B1_40 k41
 have c49_B1_13:w41.cell? ⟨w.heap.size+1,13,none⟩=some (.int .i64 0):=B1_41.c 13 (zD rfl)
 have g49_B1_13:=B1_41.f 13 (zD rfl)
 go_wp2_with fail
 clear c49_B1_13 g49_B1_13
 refine Cf (S:=fun w'=>Aa b w w'/\Fl b false w'/\Ap w.heap.size [.int .i64 0,.int .i64 0,.int .i64 0,.int .i64 0,.int .i64 0,.int .i64 0,.int .i64 0,.int .i64 0,.int .i64 0,.int .i64 0,.int .i64 0,.int .i64 0,.int .i64 0,.int .i64 0] w'/\Ap (w.heap.size+1) [.int .i64 1099511627776,.int .i64 (g 1),.int .i64 (g 2),.int .i64 (g 3),.int .i64 (g 4),.int .i64 (g 5),.int .i64 (g 6),.int .i64 0,.int .i64 (g 8),.int .i64 (g 9),.int .i64 (g 10),.int .i64 (g 11),.int .i64 (g 12),.int .i64 (g 13)] w') ⟨(K41.new _ _ (by omega) _),(f41.new (w.heap.size+1) 13 (zL y2_BF) (.int .i64 (g 13))),(B0_41.new (w.heap.size+1) 13 (zL y2_B0) (.int .i64 (g 13))),(B1_41.put 13 (zD rfl) (.int .i64 (g 13)) [.int .i64 1099511627776,.int .i64 (g 1),.int .i64 (g 2),.int .i64 (g 3),.int .i64 (g 4),.int .i64 (g 5),.int .i64 (g 6),.int .i64 0,.int .i64 (g 8),.int .i64 (g 9),.int .i64 (g 10),.int .i64 (g 11),.int .i64 (g 12),.int .i64 (g 13)] rfl)⟩ ?_
 rintro w42 ⟨K42,BF_42,B0_42,B1_42⟩
 have z42:=B1_42.lies
 clear K41 f41 B0_41 B1_41
 rw[rounds_succ]
 have c50_B0_0:w42.cell? ⟨w.heap.size,0,none⟩=some (.int .i64 0):=B0_42.c 0 (zD rfl)
 have c50_B0_1:w42.cell? ⟨w.heap.size,1,none⟩=some (.int .i64 0):=B0_42.c 1 (zD rfl)
 have c50_B0_10:w42.cell? ⟨w.heap.size,10,none⟩=some (.int .i64 0):=B0_42.c 10 (zD rfl)
 have c50_B0_11:w42.cell? ⟨w.heap.size,11,none⟩=some (.int .i64 0):=B0_42.c 11 (zD rfl)
 have c50_B0_12:w42.cell? ⟨w.heap.size,12,none⟩=some (.int .i64 0):=B0_42.c 12 (zD rfl)
 have c50_B0_13:w42.cell? ⟨w.heap.size,13,none⟩=some (.int .i64 0):=B0_42.c 13 (zD rfl)
 have c50_B0_2:w42.cell? ⟨w.heap.size,2,none⟩=some (.int .i64 0):=B0_42.c 2 (zD rfl)
 have c50_B0_3:w42.cell? ⟨w.heap.size,3,none⟩=some (.int .i64 0):=B0_42.c 3 (zD rfl)
 have c50_B0_4:w42.cell? ⟨w.heap.size,4,none⟩=some (.int .i64 0):=B0_42.c 4 (zD rfl)
 have c50_B0_5:w42.cell? ⟨w.heap.size,5,none⟩=some (.int .i64 0):=B0_42.c 5 (zD rfl)
 have c50_B0_6:w42.cell? ⟨w.heap.size,6,none⟩=some (.int .i64 0):=B0_42.c 6 (zD rfl)
 have c50_B0_7:w42.cell? ⟨w.heap.size,7,none⟩=some (.int .i64 0):=B0_42.c 7 (zD rfl)
 have c50_B0_8:w42.cell? ⟨w.heap.size,8,none⟩=some (.int .i64 0):=B0_42.c 8 (zD rfl)
 have c50_B0_9:w42.cell? ⟨w.heap.size,9,none⟩=some (.int .i64 0):=B0_42.c 9 (zD rfl)
 have c50_B1_0:w42.cell? ⟨w.heap.size+1,0,none⟩=some (.int .i64 1099511627776):=B1_42.c 0 (zD rfl)
 have c50_B1_1:w42.cell? ⟨w.heap.size+1,1,none⟩=some (.int .i64 (g 1)):=B1_42.c 1 (zD rfl)
 have c50_B1_10:w42.cell? ⟨w.heap.size+1,10,none⟩=some (.int .i64 (g 10)):=B1_42.c 10 (zD rfl)
 have c50_B1_11:w42.cell? ⟨w.heap.size+1,11,none⟩=some (.int .i64 (g 11)):=B1_42.c 11 (zD rfl)
 have c50_B1_12:w42.cell? ⟨w.heap.size+1,12,none⟩=some (.int .i64 (g 12)):=B1_42.c 12 (zD rfl)
 have c50_B1_13:w42.cell? ⟨w.heap.size+1,13,none⟩=some (.int .i64 (g 13)):=B1_42.c 13 (zD rfl)
 have c50_B1_2:w42.cell? ⟨w.heap.size+1,2,none⟩=some (.int .i64 (g 2)):=B1_42.c 2 (zD rfl)
 have c50_B1_3:w42.cell? ⟨w.heap.size+1,3,none⟩=some (.int .i64 (g 3)):=B1_42.c 3 (zD rfl)
 have c50_B1_4:w42.cell? ⟨w.heap.size+1,4,none⟩=some (.int .i64 (g 4)):=B1_42.c 4 (zD rfl)
 have c50_B1_5:w42.cell? ⟨w.heap.size+1,5,none⟩=some (.int .i64 (g 5)):=B1_42.c 5 (zD rfl)
 have c50_B1_6:w42.cell? ⟨w.heap.size+1,6,none⟩=some (.int .i64 (g 6)):=B1_42.c 6 (zD rfl)
 have c50_B1_7:w42.cell? ⟨w.heap.size+1,7,none⟩=some (.int .i64 0):=B1_42.c 7 (zD rfl)
 have c50_B1_8:w42.cell? ⟨w.heap.size+1,8,none⟩=some (.int .i64 (g 8)):=B1_42.c 8 (zD rfl)
 have c50_B1_9:w42.cell? ⟨w.heap.size+1,9,none⟩=some (.int .i64 (g 9)):=B1_42.c 9 (zD rfl)
 have g50_B0_0:=B0_42.f 0 (zD rfl)
 have g50_B0_1:=B0_42.f 1 (zD rfl)
 have g50_B0_10:=B0_42.f 10 (zD rfl)
 have g50_B0_11:=B0_42.f 11 (zD rfl)
 have g50_B0_12:=B0_42.f 12 (zD rfl)
 have g50_B0_13:=B0_42.f 13 (zD rfl)
 have g50_B0_2:=B0_42.f 2 (zD rfl)
 have g50_B0_3:=B0_42.f 3 (zD rfl)
 have g50_B0_4:=B0_42.f 4 (zD rfl)
 have g50_B0_5:=B0_42.f 5 (zD rfl)
 have g50_B0_6:=B0_42.f 6 (zD rfl)
 have g50_B0_7:=B0_42.f 7 (zD rfl)
 have g50_B0_8:=B0_42.f 8 (zD rfl)
 have g50_B0_9:=B0_42.f 9 (zD rfl)
 go_wp2_with (with_reducible refine Ae ?_)
 refine Stop.mk ?_
 clear c50_B0_0 c50_B0_1 c50_B0_10 c50_B0_11 c50_B0_12 c50_B0_13 c50_B0_2 c50_B0_3 c50_B0_4 c50_B0_5 c50_B0_6 c50_B0_7 c50_B0_8 c50_B0_9 c50_B1_0 c50_B1_1 c50_B1_10 c50_B1_11 c50_B1_12 c50_B1_13 c50_B1_2 c50_B1_3 c50_B1_4 c50_B1_5 c50_B1_6 c50_B1_7 c50_B1_8 c50_B1_9 g50_B0_0 g50_B0_1 g50_B0_10 g50_B0_11 g50_B0_12 g50_B0_13 g50_B0_2 g50_B0_3 g50_B0_4 g50_B0_5 g50_B0_6 g50_B0_7 g50_B0_8 g50_B0_9
 refine bodyPost_ret (v:=.agg #[.int .i64 1099511627776,.int .i64 (g 1),.int .i64 (g 2),.int .i64 (g 3),.int .i64 (g 4),.int .i64 (g 5),.int .i64 (g 6),.int .i64 0,.int .i64 (g 8),.int .i64 (g 9),.int .i64 (g 10),.int .i64 (g 11),.int .i64 (g 12),.int .i64 (g 13)]) (Ax Tryz.results223 ((((((((((((((B0_42.put 0 (zD rfl) (.int .i64 1099511627776) [.int .i64 1099511627776,.int .i64 0,.int .i64 0,.int .i64 0,.int .i64 0,.int .i64 0,.int .i64 0,.int .i64 0,.int .i64 0,.int .i64 0,.int .i64 0,.int .i64 0,.int .i64 0,.int .i64 0] rfl).put 1 (zD rfl) (.int .i64 (g 1)) [.int .i64 1099511627776,.int .i64 (g 1),.int .i64 0,.int .i64 0,.int .i64 0,.int .i64 0,.int .i64 0,.int .i64 0,.int .i64 0,.int .i64 0,.int .i64 0,.int .i64 0,.int .i64 0,.int .i64 0] rfl).put 2 (zD rfl) (.int .i64 (g 2)) [.int .i64 1099511627776,.int .i64 (g 1),.int .i64 (g 2),.int .i64 0,.int .i64 0,.int .i64 0,.int .i64 0,.int .i64 0,.int .i64 0,.int .i64 0,.int .i64 0,.int .i64 0,.int .i64 0,.int .i64 0] rfl).put 3 (zD rfl) (.int .i64 (g 3)) [.int .i64 1099511627776,.int .i64 (g 1),.int .i64 (g 2),.int .i64 (g 3),.int .i64 0,.int .i64 0,.int .i64 0,.int .i64 0,.int .i64 0,.int .i64 0,.int .i64 0,.int .i64 0,.int .i64 0,.int .i64 0] rfl).put 4 (zD rfl) (.int .i64 (g 4)) [.int .i64 1099511627776,.int .i64 (g 1),.int .i64 (g 2),.int .i64 (g 3),.int .i64 (g 4),.int .i64 0,.int .i64 0,.int .i64 0,.int .i64 0,.int .i64 0,.int .i64 0,.int .i64 0,.int .i64 0,.int .i64 0] rfl).put 5 (zD rfl) (.int .i64 (g 5)) [.int .i64 1099511627776,.int .i64 (g 1),.int .i64 (g 2),.int .i64 (g 3),.int .i64 (g 4),.int .i64 (g 5),.int .i64 0,.int .i64 0,.int .i64 0,.int .i64 0,.int .i64 0,.int .i64 0,.int .i64 0,.int .i64 0] rfl).put 6 (zD rfl) (.int .i64 (g 6)) [.int .i64 1099511627776,.int .i64 (g 1),.int .i64 (g 2),.int .i64 (g 3),.int .i64 (g 4),.int .i64 (g 5),.int .i64 (g 6),.int .i64 0,.int .i64 0,.int .i64 0,.int .i64 0,.int .i64 0,.int .i64 0,.int .i64 0] rfl).put 7 (zD rfl) (.int .i64 0) [.int .i64 1099511627776,.int .i64 (g 1),.int .i64 (g 2),.int .i64 (g 3),.int .i64 (g 4),.int .i64 (g 5),.int .i64 (g 6),.int .i64 0,.int .i64 0,.int .i64 0,.int .i64 0,.int .i64 0,.int .i64 0,.int .i64 0] rfl).put 8 (zD rfl) (.int .i64 (g 8)) [.int .i64 1099511627776,.int .i64 (g 1),.int .i64 (g 2),.int .i64 (g 3),.int .i64 (g 4),.int .i64 (g 5),.int .i64 (g 6),.int .i64 0,.int .i64 (g 8),.int .i64 0,.int .i64 0,.int .i64 0,.int .i64 0,.int .i64 0] rfl).put 9 (zD rfl) (.int .i64 (g 9)) [.int .i64 1099511627776,.int .i64 (g 1),.int .i64 (g 2),.int .i64 (g 3),.int .i64 (g 4),.int .i64 (g 5),.int .i64 (g 6),.int .i64 0,.int .i64 (g 8),.int .i64 (g 9),.int .i64 0,.int .i64 0,.int .i64 0,.int .i64 0] rfl).put 10 (zD rfl) (.int .i64 (g 10)) [.int .i64 1099511627776,.int .i64 (g 1),.int .i64 (g 2),.int .i64 (g 3),.int .i64 (g 4),.int .i64 (g 5),.int .i64 (g 6),.int .i64 0,.int .i64 (g 8),.int .i64 (g 9),.int .i64 (g 10),.int .i64 0,.int .i64 0,.int .i64 0] rfl).put 11 (zD rfl) (.int .i64 (g 11)) [.int .i64 1099511627776,.int .i64 (g 1),.int .i64 (g 2),.int .i64 (g 3),.int .i64 (g 4),.int .i64 (g 5),.int .i64 (g 6),.int .i64 0,.int .i64 (g 8),.int .i64 (g 9),.int .i64 (g 10),.int .i64 (g 11),.int .i64 0,.int .i64 0] rfl).put 12 (zD rfl) (.int .i64 (g 12)) [.int .i64 1099511627776,.int .i64 (g 1),.int .i64 (g 2),.int .i64 (g 3),.int .i64 (g 4),.int .i64 (g 5),.int .i64 (g 6),.int .i64 0,.int .i64 (g 8),.int .i64 (g 9),.int .i64 (g 10),.int .i64 (g 11),.int .i64 (g 12),.int .i64 0] rfl).put 13 (zD rfl) (.int .i64 (g 13)) [.int .i64 1099511627776,.int .i64 (g 1),.int .i64 (g 2),.int .i64 (g 3),.int .i64 (g 4),.int .i64 (g 5),.int .i64 (g 6),.int .i64 0,.int .i64 (g 8),.int .i64 (g 9),.int .i64 (g 10),.int .i64 (g 11),.int .i64 (g 12),.int .i64 (g 13)] rfl) rfl (by kernel_rfl) (by kernel_rfl)) rfl ?_
 exact⟨rfl,((((((((((((((BF_42.new w.heap.size 0 (zL y1_BF) (.int .i64 1099511627776)).new w.heap.size 1 (zL y1_BF) (.int .i64 (g 1))).new w.heap.size 2 (zL y1_BF) (.int .i64 (g 2))).new w.heap.size 3 (zL y1_BF) (.int .i64 (g 3))).new w.heap.size 4 (zL y1_BF) (.int .i64 (g 4))).new w.heap.size 5 (zL y1_BF) (.int .i64 (g 5))).new w.heap.size 6 (zL y1_BF) (.int .i64 (g 6))).new w.heap.size 7 (zL y1_BF) (.int .i64 0)).new w.heap.size 8 (zL y1_BF) (.int .i64 (g 8))).new w.heap.size 9 (zL y1_BF) (.int .i64 (g 9))).new w.heap.size 10 (zL y1_BF) (.int .i64 (g 10))).new w.heap.size 11 (zL y1_BF) (.int .i64 (g 11))).new w.heap.size 12 (zL y1_BF) (.int .i64 (g 12))).new w.heap.size 13 (zL y1_BF) (.int .i64 (g 13))),((((((((((((((K42.new _ _ (by omega) _).new _ _ (by omega) _).new _ _ (by omega) _).new _ _ (by omega) _).new _ _ (by omega) _).new _ _ (by omega) _).new _ _ (by omega) _).new _ _ (by omega) _).new _ _ (by omega) _).new _ _ (by omega) _).new _ _ (by omega) _).new _ _ (by omega) _).new _ _ (by omega) _).new _ _ (by omega) _)⟩
theorem UX(b:Nat)(u v:Int)(g:Nat->Int)(w:World)(hw:Fl b false w)(e0:g 0=1099511627776)(e7:g 7=0)(T:∀m,m<6->Nonempty (IJ (g m) (g (7+m)) u v (g (m+1)) (g (8+m)))):
    Calls Tryz.prog 223 #[.pointer (some ⟨b,0,none⟩),.int .i64 u,.int .i64 v] w fun e w'=>e=.returned (.agg #[.int .i64 (g 0),.int .i64 (g 1),.int .i64 (g 2),.int .i64 (g 3),.int .i64 (g 4),.int .i64 (g 5),.int .i64 (g 6),.int .i64 (g 7),.int .i64 (g 8),.int .i64 (g 9),.int .i64 (g 10),.int .i64 (g 11),.int .i64 (g 12),.int .i64 (g 13)])/\Fl b false w'/\Aa b w w':=by
 obtain⟨T1⟩:=T 0 (by decide)
 obtain⟨T2⟩:=T 1 (by decide)
 obtain⟨T3⟩:=T 2 (by decide)
 obtain⟨T4⟩:=T 3 (by decide)
 obtain⟨T5⟩:=T 4 (by decide)
 obtain⟨T6⟩:=T 5 (by decide)
 rw[e0,e7]at *
 exact Agi b u v g w hw T1 T2 T3 T4 T5 T6
theorem UY(b:Nat)(p:V3)(t r x y z:Int)(E:Pb p t r x y z)(w:World)(hw:Fl b false w)(hG0:Ap 6 (row 54 GG) w)(hG1:Ap 7 (row 10 JU) w)(hb:7<b)(hr:Cn false p=(r,false))(c1:¬r<6597069766656)(c2:¬r>10995116277760)(ht:cRight t=true):
    Calls Tryz.prog 150 #[.pointer (some ⟨b,0,none⟩),.agg #[.int .i64 p.1,.int .i64 p.2.1,.int .i64 p.2.2],.int .i64 t] w fun e w'=>e=.returned (.agg #[.int .i64 x,.int .i64 y,.int .i64 z])/\Fl b false w'/\Aa b w w':=by
 have hl:=hw.lies
 have l_0:=hG0.lies
 have l_1:=hG1.lies
 go_enter Tryz.func150,Tryz.ntmps150
 have y1_BF:=hw.lies
 have y1_G0:=hG0.lies
 have y1_G1:=hG1.lies
 have y2_BF:b<w.heap.size+1:=(Nat.lt_succ_of_lt hw.lies)
 have y2_G0:6<w.heap.size+1:=(Nat.lt_succ_of_lt hG0.lies)
 have y2_G1:7<w.heap.size+1:=(Nat.lt_succ_of_lt hG1.lies)
 have y2_B0:w.heap.size<w.heap.size+1:=by omega
 go_wp2_with fail
 refine(Dv b false p _ ((hw.alloc _).alloc _)).mono ?_
 rintro e w1 ⟨rfl,f1,k1⟩
 rw[hr]at f1 ⊢
 dsimp only at f1 ⊢
 have K1:Aa b w w1:=Aa.trans (((Aa.refl b w).al _).al _) k1
 have G0_1:=((hG0.alloc _).alloc _).kept k1 (by omega)
 have G1_1:=((hG1.alloc _).alloc _).kept k1 (by omega)
 have B0_1:=((Am _ w.heap.size [.int .i64 p.1,.int .i64 p.2.1,.int .i64 p.2.2] _ (by simp)).alloc _).kept k1 (zG y1_BF)
 have B1_1:=(Am _ (w.heap.size+1) [.int .i64 0,.int .i64 0,.int .i64 0] _ (by simp)).kept k1 (zG y2_BF)
 have z1:=B1_1.lies
 clear hG0 hG1 k1
 go_wp2_with fail
 refine(Bq t _).mono ?_
 rintro e w2 ⟨rfl,k2⟩
 rw[ht]
 try dsimp only
 have K2:Aa b w w2:=Aa.trans K1 (Aa.of_below k2)
 have BF_2:=f1.below k2
 have G0_2:=G0_1.below k2
 have G1_2:=G1_1.below k2
 have B0_2:=B0_1.below k2
 have B1_2:=B1_1.below k2
 have z2:=B1_2.lies
 clear K1 f1 G0_1 G1_1 B0_1 B1_1 k2
 have c3_B0_0:w2.cell? ⟨w.heap.size,0,none⟩=some (.int .i64 p.1):=B0_2.c 0 (zD rfl)
 have c3_B0_1:w2.cell? ⟨w.heap.size,1,none⟩=some (.int .i64 p.2.1):=B0_2.c 1 (zD rfl)
 go_wp2_with fail
 refine(Dv b false (p.1,p.2.1,0) _ BF_2).mono ?_
 rintro e w3 ⟨rfl,f3,k3⟩
 rw[E.hw]at f3 ⊢
 dsimp only at f3 ⊢
 have K3:=Aa.trans K2 k3
 have G0_3:=G0_2.kept k3 (by omega)
 have G1_3:=G1_2.kept k3 (by omega)
 have B0_3:=B0_2.kept k3 (zG y1_BF)
 have B1_3:=B1_2.kept k3 (zG y2_BF)
 have z3:=B1_3.lies
 clear c3_B0_0 c3_B0_1 K2 BF_2 G0_2 G1_2 B0_2 B1_2 k3
 have c4_B0_2:w3.cell? ⟨w.heap.size,2,none⟩=some (.int .i64 p.2.2):=B0_3.c 2 (zD rfl)
 go_wp2_with fail
 refine(B8 b false p.2.2 r _ f3).mono ?_
 rintro e w4 ⟨rfl,f4,k4⟩
 rw[E.hc]at f4 ⊢
 dsimp only at f4 ⊢
 have K4:=Aa.trans K3 k4
 have G0_4:=G0_3.kept k4 (by omega)
 have G1_4:=G1_3.kept k4 (by omega)
 have B0_4:=B0_3.kept k4 (zG y1_BF)
 have B1_4:=B1_3.kept k4 (zG y2_BF)
 have z4:=B1_4.lies
 clear c4_B0_2 K3 f3 G0_3 G1_3 B0_3 B1_3 k4
 go_wp2_with fail
 refine(B8 b false E.wn r _ f4).mono ?_
 rintro e w5 ⟨rfl,f5,k5⟩
 rw[E.hs]at f5 ⊢
 dsimp only at f5 ⊢
 have K5:=Aa.trans K4 k5
 have G0_5:=G0_4.kept k5 (by omega)
 have G1_5:=G1_4.kept k5 (by omega)
 have B0_5:=B0_4.kept k5 (zG y1_BF)
 have B1_5:=B1_4.kept k5 (zG y2_BF)
 have z5:=B1_5.lies
 clear K4 f4 G0_4 G1_4 B0_4 B1_4 k5
 have c6_B0_0:w5.cell? ⟨w.heap.size,0,none⟩=some (.int .i64 p.1):=B0_5.c 0 (zD rfl)
 have c6_B0_1:w5.cell? ⟨w.heap.size,1,none⟩=some (.int .i64 p.2.1):=B0_5.c 1 (zD rfl)
 have c6_B0_2:w5.cell? ⟨w.heap.size,2,none⟩=some (.int .i64 p.2.2):=B0_5.c 2 (zD rfl)
 go_wp2_with fail
 refine(Al3 b false p E.wn _ f5 _ _ rfl E.hl).mono ?_
 rintro e w6 ⟨rfl,f6,k6⟩
 rw[E.hl]at f6 ⊢
 dsimp only at f6 ⊢
 have K6:=Aa.trans K5 k6
 have G0_6:=G0_5.kept k6 (by omega)
 have G1_6:=G1_5.kept k6 (by omega)
 have B0_6:=B0_5.kept k6 (zG y1_BF)
 have B1_6:=B1_5.kept k6 (zG y2_BF)
 have z6:=B1_6.lies
 clear c6_B0_0 c6_B0_1 c6_B0_2 K5 f5 G0_5 G1_5 B0_5 B1_5 k6
 go_wp2_with fail
 refine(B8 b false 7005208482886 r _ f6).mono ?_
 rintro e w7 ⟨rfl,f7,k7⟩
 rw[E.hq]at f7 ⊢
 dsimp only at f7 ⊢
 have K7:=Aa.trans K6 k7
 have G0_7:=G0_6.kept k7 (by omega)
 have G1_7:=G1_6.kept k7 (by omega)
 have B0_7:=B0_6.kept k7 (zG y1_BF)
 have B1_7:=B1_6.kept k7 (zG y2_BF)
 have z7:=B1_7.lies
 clear K6 f6 G0_6 G1_6 B0_6 B1_6 k7
 go_wp2_with fail
 refine(UX b E.u E.v E.g _ f7 E.g0 E.g7 E.W).mono ?_
 rintro e w8 ⟨rfl,f8,k8⟩
 have K8:=Aa.trans K7 k8
 have G0_8:=G0_7.kept k8 (by omega)
 have G1_8:=G1_7.kept k8 (by omega)
 have B0_8:=B0_7.kept k8 (zG y1_BF)
 have B1_8:=B1_7.kept k8 (zG y2_BF)
 have z8_BF:=f8.lies
 have z8_G0:=G0_8.lies
 have z8_G1:=G1_8.lies
 have z8_B0:=B0_8.lies
 have z8_B1:=B1_8.lies
 clear K7 f7 G0_7 G1_7 B0_7 B1_7 k8
 go_wp2_with fail
 refine(UW b E.c E.s E.P E.D E.Q E.Z E.ic E.is _ f8).mono ?_
 rintro e w9 ⟨kA,kB,kC,rfl,f9,SA_9,SB_9,SC_9,gA,gB,gC,nAB,nAC,nBC,k9⟩
 have K9:=Aa.trans K8 k9
 have G0_9:=G0_8.kept k9 (by omega)
 have G1_9:=G1_8.kept k9 (by omega)
 have B0_9:=B0_8.kept k9 (zG y1_BF)
 have B1_9:=B1_8.kept k9 (zG y2_BF)
 have z9_BF:=f9.lies
 have z9_G0:=G0_9.lies
 have z9_G1:=G1_9.lies
 have z9_B0:=B0_9.lies
 have z9_B1:=B1_9.lies
 have z9_SA:=SA_9.lies
 have z9_SB:=SB_9.lies
 have z9_SC:=SC_9.lies
 clear K8 f8 G0_8 G1_8 B0_8 B1_8 k9
 go_wp2_with fail
 refine(Agf E b kA kB kC _ f9 SA_9 SB_9 SC_9 G0_9 G1_9 (by omega) (by omega) (by omega) (by omega)).mono ?_
 rintro e w10 ⟨rfl,f10,k10⟩
 have K10:=Aa.trans K9 k10
 have G0_10:=G0_9.kept k10 (by omega)
 have G1_10:=G1_9.kept k10 (by omega)
 have B0_10:=B0_9.kept k10 (zG y1_BF)
 have B1_10:=B1_9.kept k10 (zG y2_BF)
 have SA_10:Mp kA 50 (AG E.P 6 0) w10:=SA_9.kept k10 (by omega)
 have SB_10:Mp kB 50 (AG E.D 6 0) w10:=SB_9.kept k10 (by omega)
 have SC_10:Mp kC 50 (AG E.Q 6 0) w10:=SC_9.kept k10 (by omega)
 have z10_BF:=f10.lies
 have z10_G0:=G0_10.lies
 have z10_G1:=G1_10.lies
 have z10_B0:=B0_10.lies
 have z10_B1:=B1_10.lies
 have z10_SA:=SA_10.lies
 have z10_SB:=SB_10.lies
 have z10_SC:=SC_10.lies
 clear K9 f9 G0_9 G1_9 B0_9 B1_9 SA_9 SB_9 SC_9 k10
 go_wp2_with fail
 refine(Ak b false ((E.st 7 0).1) E.s _ f10).mono ?_
 rintro e w11 ⟨rfl,f11,k11⟩
 rw[E.V.h1]at f11 ⊢
 dsimp only at f11 ⊢
 have K11:=Aa.trans K10 k11
 have G0_11:=G0_10.kept k11 (by omega)
 have G1_11:=G1_10.kept k11 (by omega)
 have B0_11:=B0_10.kept k11 (zG y1_BF)
 have B1_11:=B1_10.kept k11 (zG y2_BF)
 have SA_11:Mp kA 50 (AG E.P 6 0) w11:=SA_10.kept k11 (by omega)
 have SB_11:Mp kB 50 (AG E.D 6 0) w11:=SB_10.kept k11 (by omega)
 have SC_11:Mp kC 50 (AG E.Q 6 0) w11:=SC_10.kept k11 (by omega)
 have z11:=B1_11.lies
 clear K10 f10 G0_10 G1_10 B0_10 B1_10 SA_10 SB_10 SC_10 k11
 go_wp2_with fail
 refine(Ak b false ((E.st 7 0).2.1) E.c _ f11).mono ?_
 rintro e w12 ⟨rfl,f12,k12⟩
 rw[E.V.h2]at f12 ⊢
 dsimp only at f12 ⊢
 have K12:=Aa.trans K11 k12
 have G0_12:=G0_11.kept k12 (by omega)
 have G1_12:=G1_11.kept k12 (by omega)
 have B0_12:=B0_11.kept k12 (zG y1_BF)
 have B1_12:=B1_11.kept k12 (zG y2_BF)
 have SA_12:Mp kA 50 (AG E.P 6 0) w12:=SA_11.kept k12 (by omega)
 have SB_12:Mp kB 50 (AG E.D 6 0) w12:=SB_11.kept k12 (by omega)
 have SC_12:Mp kC 50 (AG E.Q 6 0) w12:=SC_11.kept k12 (by omega)
 have z12:=B1_12.lies
 clear K11 f11 G0_11 G1_11 B0_11 B1_11 SA_11 SB_11 SC_11 k12
 go_wp2_with fail
 refine(BM b false E.V.v1 E.V.v2 _ f12).mono ?_
 rintro e w13 ⟨rfl,f13,k13⟩
 rw[E.V.h3]at f13 ⊢
 dsimp only at f13 ⊢
 have K13:=Aa.trans K12 k13
 have G0_13:=G0_12.kept k13 (by omega)
 have G1_13:=G1_12.kept k13 (by omega)
 have B0_13:=B0_12.kept k13 (zG y1_BF)
 have B1_13:=B1_12.kept k13 (zG y2_BF)
 have SA_13:Mp kA 50 (AG E.P 6 0) w13:=SA_12.kept k13 (by omega)
 have SB_13:Mp kB 50 (AG E.D 6 0) w13:=SB_12.kept k13 (by omega)
 have SC_13:Mp kC 50 (AG E.Q 6 0) w13:=SC_12.kept k13 (by omega)
 have z13:=B1_13.lies
 clear K12 f12 G0_12 G1_12 B0_12 B1_12 SA_12 SB_12 SC_12 k13
 go_wp2_with fail
 refine(Ak b false E.V.a E.u _ f13).mono ?_
 rintro e w14 ⟨rfl,f14,k14⟩
 rw[E.V.h4]at f14 ⊢
 dsimp only at f14 ⊢
 have K14:=Aa.trans K13 k14
 have G0_14:=G0_13.kept k14 (by omega)
 have G1_14:=G1_13.kept k14 (by omega)
 have B0_14:=B0_13.kept k14 (zG y1_BF)
 have B1_14:=B1_13.kept k14 (zG y2_BF)
 have SA_14:Mp kA 50 (AG E.P 6 0) w14:=SA_13.kept k14 (by omega)
 have SB_14:Mp kB 50 (AG E.D 6 0) w14:=SB_13.kept k14 (by omega)
 have SC_14:Mp kC 50 (AG E.Q 6 0) w14:=SC_13.kept k14 (by omega)
 have z14:=B1_14.lies
 clear K13 f13 G0_13 G1_13 B0_13 B1_13 SA_13 SB_13 SC_13 k14
 go_wp2_with fail
 refine(Ak b false ((E.st 7 0).2.2) E.v _ f14).mono ?_
 rintro e w15 ⟨rfl,f15,k15⟩
 rw[E.V.h5]at f15 ⊢
 dsimp only at f15 ⊢
 have K15:=Aa.trans K14 k15
 have G0_15:=G0_14.kept k15 (by omega)
 have G1_15:=G1_14.kept k15 (by omega)
 have B0_15:=B0_14.kept k15 (zG y1_BF)
 have B1_15:=B1_14.kept k15 (zG y2_BF)
 have SA_15:Mp kA 50 (AG E.P 6 0) w15:=SA_14.kept k15 (by omega)
 have SB_15:Mp kB 50 (AG E.D 6 0) w15:=SB_14.kept k15 (by omega)
 have SC_15:Mp kC 50 (AG E.Q 6 0) w15:=SC_14.kept k15 (by omega)
 have z15:=B1_15.lies
 clear K14 f14 G0_14 G1_14 B0_14 B1_14 SA_14 SB_14 SC_14 k15
 go_wp2_with fail
 refine(BH b false E.V.v4 E.V.v5 _ f15).mono ?_
 rintro e w16 ⟨rfl,f16,k16⟩
 rw[E.V.h6]at f16 ⊢
 dsimp only at f16 ⊢
 have K16:=Aa.trans K15 k16
 have G0_16:=G0_15.kept k16 (by omega)
 have G1_16:=G1_15.kept k16 (by omega)
 have B0_16:=B0_15.kept k16 (zG y1_BF)
 have B1_16:=B1_15.kept k16 (zG y2_BF)
 have SA_16:Mp kA 50 (AG E.P 6 0) w16:=SA_15.kept k16 (by omega)
 have SB_16:Mp kB 50 (AG E.D 6 0) w16:=SB_15.kept k16 (by omega)
 have SC_16:Mp kC 50 (AG E.Q 6 0) w16:=SC_15.kept k16 (by omega)
 have z16:=B1_16.lies
 clear K15 f15 G0_15 G1_15 B0_15 B1_15 SA_15 SB_15 SC_15 k16
 go_wp2_with fail
 refine(Ak b false E.V.a E.v _ f16).mono ?_
 rintro e w17 ⟨rfl,f17,k17⟩
 rw[E.V.h7]at f17 ⊢
 dsimp only at f17 ⊢
 have K17:=Aa.trans K16 k17
 have G0_17:=G0_16.kept k17 (by omega)
 have G1_17:=G1_16.kept k17 (by omega)
 have B0_17:=B0_16.kept k17 (zG y1_BF)
 have B1_17:=B1_16.kept k17 (zG y2_BF)
 have SA_17:Mp kA 50 (AG E.P 6 0) w17:=SA_16.kept k17 (by omega)
 have SB_17:Mp kB 50 (AG E.D 6 0) w17:=SB_16.kept k17 (by omega)
 have SC_17:Mp kC 50 (AG E.Q 6 0) w17:=SC_16.kept k17 (by omega)
 have z17:=B1_17.lies
 clear K16 f16 G0_16 G1_16 B0_16 B1_16 SA_16 SB_16 SC_16 k17
 go_wp2_with fail
 refine(Ak b false ((E.st 7 0).2.2) E.u _ f17).mono ?_
 rintro e w18 ⟨rfl,f18,k18⟩
 rw[E.V.h8]at f18 ⊢
 dsimp only at f18 ⊢
 have K18:=Aa.trans K17 k18
 have G0_18:=G0_17.kept k18 (by omega)
 have G1_18:=G1_17.kept k18 (by omega)
 have B0_18:=B0_17.kept k18 (zG y1_BF)
 have B1_18:=B1_17.kept k18 (zG y2_BF)
 have SA_18:Mp kA 50 (AG E.P 6 0) w18:=SA_17.kept k18 (by omega)
 have SB_18:Mp kB 50 (AG E.D 6 0) w18:=SB_17.kept k18 (by omega)
 have SC_18:Mp kC 50 (AG E.Q 6 0) w18:=SC_17.kept k18 (by omega)
 have z18:=B1_18.lies
 clear K17 f17 G0_17 G1_17 B0_17 B1_17 SA_17 SB_17 SC_17 k18
 go_wp2_with fail
 refine(BM b false E.V.v7 E.V.v8 _ f18).mono ?_
 rintro e w19 ⟨rfl,f19,k19⟩
 rw[E.V.h9]at f19 ⊢
 dsimp only at f19 ⊢
 have K19:=Aa.trans K18 k19
 have G0_19:=G0_18.kept k19 (by omega)
 have G1_19:=G1_18.kept k19 (by omega)
 have B0_19:=B0_18.kept k19 (zG y1_BF)
 have B1_19:=B1_18.kept k19 (zG y2_BF)
 have SA_19:Mp kA 50 (AG E.P 6 0) w19:=SA_18.kept k19 (by omega)
 have SB_19:Mp kB 50 (AG E.D 6 0) w19:=SB_18.kept k19 (by omega)
 have SC_19:Mp kC 50 (AG E.Q 6 0) w19:=SC_18.kept k19 (by omega)
 have z19:=B1_19.lies
 clear K18 f18 G0_18 G1_18 B0_18 B1_18 SA_18 SB_18 SC_18 k19
 go_wp2_with fail
 refine(Ak b false ((E.st 7 0).1) E.c _ f19).mono ?_
 rintro e w20 ⟨rfl,f20,k20⟩
 rw[E.V.h10]at f20 ⊢
 dsimp only at f20 ⊢
 have K20:=Aa.trans K19 k20
 have G0_20:=G0_19.kept k20 (by omega)
 have G1_20:=G1_19.kept k20 (by omega)
 have B0_20:=B0_19.kept k20 (zG y1_BF)
 have B1_20:=B1_19.kept k20 (zG y2_BF)
 have SA_20:Mp kA 50 (AG E.P 6 0) w20:=SA_19.kept k20 (by omega)
 have SB_20:Mp kB 50 (AG E.D 6 0) w20:=SB_19.kept k20 (by omega)
 have SC_20:Mp kC 50 (AG E.Q 6 0) w20:=SC_19.kept k20 (by omega)
 have z20:=B1_20.lies
 clear K19 f19 G0_19 G1_19 B0_19 B1_19 SA_19 SB_19 SC_19 k20
 go_wp2_with fail
 refine(Ak b false ((E.st 7 0).2.1) E.s _ f20).mono ?_
 rintro e w21 ⟨rfl,f21,k21⟩
 rw[E.V.h11]at f21 ⊢
 dsimp only at f21 ⊢
 have K21:=Aa.trans K20 k21
 have G0_21:=G0_20.kept k21 (by omega)
 have G1_21:=G1_20.kept k21 (by omega)
 have B0_21:=B0_20.kept k21 (zG y1_BF)
 have B1_21:=B1_20.kept k21 (zG y2_BF)
 have SA_21:Mp kA 50 (AG E.P 6 0) w21:=SA_20.kept k21 (by omega)
 have SB_21:Mp kB 50 (AG E.D 6 0) w21:=SB_20.kept k21 (by omega)
 have SC_21:Mp kC 50 (AG E.Q 6 0) w21:=SC_20.kept k21 (by omega)
 have z21:=B1_21.lies
 clear K20 f20 G0_20 G1_20 B0_20 B1_20 SA_20 SB_20 SC_20 k21
 go_wp2_with fail
 refine(BH b false E.V.v10 E.V.v11 _ f21).mono ?_
 rintro e w22 ⟨rfl,f22,k22⟩
 rw[E.V.h12]at f22 ⊢
 dsimp only at f22 ⊢
 have K22:=Aa.trans K21 k22
 have G0_22:=G0_21.kept k22 (by omega)
 have G1_22:=G1_21.kept k22 (by omega)
 have B0_22:=B0_21.kept k22 (zG y1_BF)
 have B1_22:=B1_21.kept k22 (zG y2_BF)
 have SA_22:Mp kA 50 (AG E.P 6 0) w22:=SA_21.kept k22 (by omega)
 have SB_22:Mp kB 50 (AG E.D 6 0) w22:=SB_21.kept k22 (by omega)
 have SC_22:Mp kC 50 (AG E.Q 6 0) w22:=SC_21.kept k22 (by omega)
 have z22:=B1_22.lies
 clear K21 f21 G0_21 G1_21 B0_21 B1_21 SA_21 SB_21 SC_21 k22
 have c23_B1_0:w22.cell? ⟨w.heap.size+1,0,none⟩=some (.int .i64 0):=B1_22.c 0 (zD rfl)
 have c23_B1_1:w22.cell? ⟨w.heap.size+1,1,none⟩=some (.int .i64 0):=B1_22.c 1 (zD rfl)
 have c23_B1_2:w22.cell? ⟨w.heap.size+1,2,none⟩=some (.int .i64 0):=B1_22.c 2 (zD rfl)
 have g23_B1_0:=B1_22.f 0 (zD rfl)
 have g23_B1_1:=B1_22.f 1 (zD rfl)
 have g23_B1_2:=B1_22.f 2 (zD rfl)
 go_wp2_with (with_reducible refine Ae ?_)
 refine Stop.mk ?_
 clear c23_B1_0 c23_B1_1 c23_B1_2 g23_B1_0 g23_B1_1 g23_B1_2
 refine bodyPost_ret (v:=.agg #[.int .i64 x,.int .i64 y,.int .i64 z]) (Ax Tryz.results150 (((B1_22.put 0 (zD rfl) (.int .i64 x) [.int .i64 x,.int .i64 0,.int .i64 0] rfl).put 1 (zD rfl) (.int .i64 y) [.int .i64 x,.int .i64 y,.int .i64 0] rfl).put 2 (zD rfl) (.int .i64 z) [.int .i64 x,.int .i64 y,.int .i64 z] rfl) rfl (by kernel_rfl) (by kernel_rfl)) rfl ?_
 exact⟨rfl,(((f22.new (w.heap.size+1) 0 (zL y2_BF) (.int .i64 x)).new (w.heap.size+1) 1 (zL y2_BF) (.int .i64 y)).new (w.heap.size+1) 2 (zL y2_BF) (.int .i64 z)),(((K22.new _ _ (by omega) _).new _ _ (by omega) _).new _ _ (by omega) _)⟩
theorem Rm(b:Nat)(bad nb:Bool)(p:V3)(t r:Int)(w:World)(hw:Fl b bad w)(hr:Cn bad p=(r,nb))(c1:r<6597069766656):
    Calls Tryz.prog 150 #[.pointer (some ⟨b,0,none⟩),.agg #[.int .i64 p.1,.int .i64 p.2.1,.int .i64 p.2.2],.int .i64 t] w fun e w'=>e=.returned (.agg #[.int .i64 0,.int .i64 0,.int .i64 0])/\Fl b true w'/\Aa b w w':=by
 have hl:=hw.lies
 go_enter Tryz.func150,Tryz.ntmps150
 have y1_BF:=hw.lies
 have y2_BF:b<w.heap.size+1:=(Nat.lt_succ_of_lt hw.lies)
 have y2_B0:w.heap.size<w.heap.size+1:=by omega
 go_wp2_with fail
 refine(Dv b bad p _ ((hw.alloc _).alloc _)).mono ?_
 rintro e w1 ⟨rfl,f1,k1⟩
 rw[hr]at f1 ⊢
 dsimp only at f1 ⊢
 have K1:Aa b w w1:=Aa.trans (((Aa.refl b w).al _).al _) k1
 have B0_1:=((Am _ w.heap.size [.int .i64 p.1,.int .i64 p.2.1,.int .i64 p.2.2] _ (by simp)).alloc _).kept k1 (zG y1_BF)
 have B1_1:=(Am _ (w.heap.size+1) [.int .i64 0,.int .i64 0,.int .i64 0] _ (by simp)).kept k1 (zG y2_BF)
 have z1:=B1_1.lies
 clear k1
 go_wp2_with fail
 refine(Bm b nb _ f1).mono ?_
 rintro e w2 ⟨rfl,f2,k2⟩
 have K2:=Aa.trans K1 k2
 have B0_2:=B0_1.kept k2 (zG y1_BF)
 have B1_2:=B1_1.kept k2 (zG y2_BF)
 have z2:=B1_2.lies
 clear K1 f1 B0_1 B1_1 k2
 have c3_B1_0:w2.cell? ⟨w.heap.size+1,0,none⟩=some (.int .i64 0):=B1_2.c 0 (zD rfl)
 have c3_B1_1:w2.cell? ⟨w.heap.size+1,1,none⟩=some (.int .i64 0):=B1_2.c 1 (zD rfl)
 have c3_B1_2:w2.cell? ⟨w.heap.size+1,2,none⟩=some (.int .i64 0):=B1_2.c 2 (zD rfl)
 have g3_B1_0:=B1_2.f 0 (zD rfl)
 have g3_B1_1:=B1_2.f 1 (zD rfl)
 have g3_B1_2:=B1_2.f 2 (zD rfl)
 go_wp2_with (with_reducible refine Ae ?_)
 refine Stop.mk ?_
 clear c3_B1_0 c3_B1_1 c3_B1_2 g3_B1_0 g3_B1_1 g3_B1_2
 refine bodyPost_ret (v:=.agg #[.int .i64 0,.int .i64 0,.int .i64 0]) (Ax Tryz.results150 (((B1_2.put 0 (zD rfl) (.int .i64 0) [.int .i64 0,.int .i64 0,.int .i64 0] rfl).put 1 (zD rfl) (.int .i64 0) [.int .i64 0,.int .i64 0,.int .i64 0] rfl).put 2 (zD rfl) (.int .i64 0) [.int .i64 0,.int .i64 0,.int .i64 0] rfl) rfl (by kernel_rfl) (by kernel_rfl)) rfl ?_
 exact⟨rfl,(((f2.new (w.heap.size+1) 0 (zL y2_BF) (.int .i64 0)).new (w.heap.size+1) 1 (zL y2_BF) (.int .i64 0)).new (w.heap.size+1) 2 (zL y2_BF) (.int .i64 0)),(((K2.new _ _ (by omega) _).new _ _ (by omega) _).new _ _ (by omega) _)⟩
theorem Agj(b:Nat)(bad nb:Bool)(p:V3)(t r:Int)(w:World)(hw:Fl b bad w)(hr:Cn bad p=(r,nb))(c1:¬r<6597069766656)(c2:r>10995116277760):
    Calls Tryz.prog 150 #[.pointer (some ⟨b,0,none⟩),.agg #[.int .i64 p.1,.int .i64 p.2.1,.int .i64 p.2.2],.int .i64 t] w fun e w'=>e=.returned (.agg #[.int .i64 0,.int .i64 0,.int .i64 0])/\Fl b true w'/\Aa b w w':=by
 have hl:=hw.lies
 go_enter Tryz.func150,Tryz.ntmps150
 have y1_BF:=hw.lies
 have y2_BF:b<w.heap.size+1:=(Nat.lt_succ_of_lt hw.lies)
 have y2_B0:w.heap.size<w.heap.size+1:=by omega
 go_wp2_with fail
 refine(Dv b bad p _ ((hw.alloc _).alloc _)).mono ?_
 rintro e w1 ⟨rfl,f1,k1⟩
 rw[hr]at f1 ⊢
 dsimp only at f1 ⊢
 have K1:Aa b w w1:=Aa.trans (((Aa.refl b w).al _).al _) k1
 have B0_1:=((Am _ w.heap.size [.int .i64 p.1,.int .i64 p.2.1,.int .i64 p.2.2] _ (by simp)).alloc _).kept k1 (zG y1_BF)
 have B1_1:=(Am _ (w.heap.size+1) [.int .i64 0,.int .i64 0,.int .i64 0] _ (by simp)).kept k1 (zG y2_BF)
 have z1:=B1_1.lies
 clear k1
 go_wp2_with fail
 refine(Bm b nb _ f1).mono ?_
 rintro e w2 ⟨rfl,f2,k2⟩
 have K2:=Aa.trans K1 k2
 have B0_2:=B0_1.kept k2 (zG y1_BF)
 have B1_2:=B1_1.kept k2 (zG y2_BF)
 have z2:=B1_2.lies
 clear K1 f1 B0_1 B1_1 k2
 have c3_B1_0:w2.cell? ⟨w.heap.size+1,0,none⟩=some (.int .i64 0):=B1_2.c 0 (zD rfl)
 have c3_B1_1:w2.cell? ⟨w.heap.size+1,1,none⟩=some (.int .i64 0):=B1_2.c 1 (zD rfl)
 have c3_B1_2:w2.cell? ⟨w.heap.size+1,2,none⟩=some (.int .i64 0):=B1_2.c 2 (zD rfl)
 have g3_B1_0:=B1_2.f 0 (zD rfl)
 have g3_B1_1:=B1_2.f 1 (zD rfl)
 have g3_B1_2:=B1_2.f 2 (zD rfl)
 go_wp2_with (with_reducible refine Ae ?_)
 refine Stop.mk ?_
 clear c3_B1_0 c3_B1_1 c3_B1_2 g3_B1_0 g3_B1_1 g3_B1_2
 refine bodyPost_ret (v:=.agg #[.int .i64 0,.int .i64 0,.int .i64 0]) (Ax Tryz.results150 (((B1_2.put 0 (zD rfl) (.int .i64 0) [.int .i64 0,.int .i64 0,.int .i64 0] rfl).put 1 (zD rfl) (.int .i64 0) [.int .i64 0,.int .i64 0,.int .i64 0] rfl).put 2 (zD rfl) (.int .i64 0) [.int .i64 0,.int .i64 0,.int .i64 0] rfl) rfl (by kernel_rfl) (by kernel_rfl)) rfl ?_
 exact⟨rfl,(((f2.new (w.heap.size+1) 0 (zL y2_BF) (.int .i64 0)).new (w.heap.size+1) 1 (zL y2_BF) (.int .i64 0)).new (w.heap.size+1) 2 (zL y2_BF) (.int .i64 0)),(((K2.new _ _ (by omega) _).new _ _ (by omega) _).new _ _ (by omega) _)⟩
theorem Agk(b:Nat)(bad nb:Bool)(p:V3)(t r:Int)(w:World)(hw:Fl b bad w)(hr:Cn bad p=(r,nb))(c1:¬r<6597069766656)(c2:¬r>10995116277760)(ht:cRight t=false):
    Calls Tryz.prog 150 #[.pointer (some ⟨b,0,none⟩),.agg #[.int .i64 p.1,.int .i64 p.2.1,.int .i64 p.2.2],.int .i64 t] w fun e w'=>e=.returned (.agg #[.int .i64 0,.int .i64 0,.int .i64 0])/\Fl b true w'/\Aa b w w':=by
 have hl:=hw.lies
 go_enter Tryz.func150,Tryz.ntmps150
 have y1_BF:=hw.lies
 have y2_BF:b<w.heap.size+1:=(Nat.lt_succ_of_lt hw.lies)
 have y2_B0:w.heap.size<w.heap.size+1:=by omega
 go_wp2_with fail
 refine(Dv b bad p _ ((hw.alloc _).alloc _)).mono ?_
 rintro e w1 ⟨rfl,f1,k1⟩
 rw[hr]at f1 ⊢
 dsimp only at f1 ⊢
 have K1:Aa b w w1:=Aa.trans (((Aa.refl b w).al _).al _) k1
 have B0_1:=((Am _ w.heap.size [.int .i64 p.1,.int .i64 p.2.1,.int .i64 p.2.2] _ (by simp)).alloc _).kept k1 (zG y1_BF)
 have B1_1:=(Am _ (w.heap.size+1) [.int .i64 0,.int .i64 0,.int .i64 0] _ (by simp)).kept k1 (zG y2_BF)
 have z1:=B1_1.lies
 clear k1
 go_wp2_with fail
 refine(Bq t _).mono ?_
 rintro e w2 ⟨rfl,k2⟩
 rw[ht]
 try dsimp only
 have K2:Aa b w w2:=Aa.trans K1 (Aa.of_below k2)
 have BF_2:=f1.below k2
 have B0_2:=B0_1.below k2
 have B1_2:=B1_1.below k2
 have z2:=B1_2.lies
 clear K1 f1 B0_1 B1_1 k2
 go_wp2_with fail
 refine(Bm b nb _ BF_2).mono ?_
 rintro e w3 ⟨rfl,f3,k3⟩
 have K3:=Aa.trans K2 k3
 have B0_3:=B0_2.kept k3 (zG y1_BF)
 have B1_3:=B1_2.kept k3 (zG y2_BF)
 have z3:=B1_3.lies
 clear K2 BF_2 B0_2 B1_2 k3
 have c4_B1_0:w3.cell? ⟨w.heap.size+1,0,none⟩=some (.int .i64 0):=B1_3.c 0 (zD rfl)
 have c4_B1_1:w3.cell? ⟨w.heap.size+1,1,none⟩=some (.int .i64 0):=B1_3.c 1 (zD rfl)
 have c4_B1_2:w3.cell? ⟨w.heap.size+1,2,none⟩=some (.int .i64 0):=B1_3.c 2 (zD rfl)
 have g4_B1_0:=B1_3.f 0 (zD rfl)
 have g4_B1_1:=B1_3.f 1 (zD rfl)
 have g4_B1_2:=B1_3.f 2 (zD rfl)
 go_wp2_with (with_reducible refine Ae ?_)
 refine Stop.mk ?_
 clear c4_B1_0 c4_B1_1 c4_B1_2 g4_B1_0 g4_B1_1 g4_B1_2
 refine bodyPost_ret (v:=.agg #[.int .i64 0,.int .i64 0,.int .i64 0]) (Ax Tryz.results150 (((B1_3.put 0 (zD rfl) (.int .i64 0) [.int .i64 0,.int .i64 0,.int .i64 0] rfl).put 1 (zD rfl) (.int .i64 0) [.int .i64 0,.int .i64 0,.int .i64 0] rfl).put 2 (zD rfl) (.int .i64 0) [.int .i64 0,.int .i64 0,.int .i64 0] rfl) rfl (by kernel_rfl) (by kernel_rfl)) rfl ?_
 exact⟨rfl,(((f3.new (w.heap.size+1) 0 (zL y2_BF) (.int .i64 0)).new (w.heap.size+1) 1 (zL y2_BF) (.int .i64 0)).new (w.heap.size+1) 2 (zL y2_BF) (.int .i64 0)),(((K3.new _ _ (by omega) _).new _ _ (by omega) _).new _ _ (by omega) _)⟩
end Go.Proofs.YtgmpfeaanjnhaaaGreatDoor
namespace Go.Proofs.YtgmpfeaanjnhaaaGreatDoor
open Go.RowKit
theorem Zx(b:Nat)(bad:Bool)(p:V3)(t:Int)(w:World)(hw:Fl b bad w)(hG0:Ap 6 (row 54 GG) w)(hG1:Ap 7 (row 10 JU) w)(hb:7<b):
    Calls Tryz.prog 150 #[.pointer (some ⟨b,0,none⟩),.agg #[.int .i64 p.1,.int .i64 p.2.1,.int .i64 p.2.2],.int .i64 t] w fun e w'=>e=.returned (.agg #[.int .i64 (LX bad p t).1.1,.int .i64 (LX bad p t).1.2.1,.int .i64 (LX bad p t).1.2.2])/\Fl b (LX bad p t).2 w'/\Aa b w w':=by
 cases bad with
 |true=>
  rw[NB]
  exact Rm b true true p t 0 w hw (Sw p) (by decide)
 | false=>
  by_cases h:Rj p t
  ·obtain⟨⟨E⟩,_⟩:=Ars h
   rw[Alz h]
   obtain⟨g,r0,r1,t0,t1⟩:=h
   exact UY b p t _ _ _ _ E w hw hG0 hG1 hb (Prod.ext rfl g) (by omega) (by omega) (CS t0 t1)
  ·rw[Aga h]
   have e:Cn false p=((GJ p).1,(GJ p).2):=rfl
   by_cases c1:(GJ p).1<6597069766656
   ·exact Rm b false _ p t _ w hw e c1
   by_cases c2:(GJ p).1>10995116277760
   ·exact Agj b false _ p t _ w hw e c1 c2
   have g:(GJ p).2=false:=by
    cases q:(GJ p).2 with
    |false=>rfl
    |true=>have z:(GJ p).1=0:=XN false _ _ _ q;omega
   exact Agk b false _ p t _ w hw e c1 c2 (Dt (fun k=>h ⟨g,by omega,by omega,k.1,k.2⟩))
end Go.Proofs.YtgmpfeaanjnhaaaGreatDoor
