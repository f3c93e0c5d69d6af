import Derived.Handy
import Derived.Deep.RegionHeld3
import Derived.DeepKeys4
import Derived.BigRegion
import Derived.Below
import Derived.Laws.BitsAllLaws
import Derived.Lib.Strings
import Derived.Test.YtoadcnhcfodkgaaGreatDoorProg
import Derived.WalkKit
import Derived.WalkLawsBesides
import Derived.WalkSpells
import Derived.RegionTactic
import Derived.Laws.OwnMore
import Derived.Laws.IdiomStrings
import Derived.OwnWalk
import Derived.Laws.ResultCell
import Derived.Test.YtoadcnhcfodkgaaGreatDoorU11
import Derived.Test.YtoadcnhcfodkgaaGreatDoorU09
import Derived.Test.YtoadcnhcfodkgaaGreatDoorU10
import Derived.Test.YtoadcnhcfodkgaaGreatDoorU06
import Derived.Test.YtoadcnhcfodkgaaGreatDoorU05
import Derived.Test.YtoadcnhcfodkgaaGreatDoorU08
import Derived.Test.YtoadcnhcfodkgaaGreatDoorU01
set_option maxRecDepth 100000
set_option maxHeartbeats 20000000
open Go.Proofs.Tryz renaming prog→Zm
open List renaming getD_eq_getElem?_getD→Zn,getElem?_eq_some_iff→Zo,not_mem_nil→Zq,mem_cons→Zu
open Bool renaming not_true→Zp,false_and→Zr
open Nat renaming lt_of_lt_of_le→Zs,le_refl→Zt,lt_succ_of_lt→Zv
namespace Go.Proofs.YtoadcnhcfodkgaaGreatDoor
section
open Go.RowKit
theorem Y6(b:Nat)(c s:Int)(P D Q:Nat->Nat->Int)(Z:Tri c s P D Q)(ic:Cq c)(is:Cq s)(w:World)(hw:Fl b false w):
    Calls Zm 223 #[.pointer (some ⟨b,0,none⟩),.int .i64 c,.int .i64 s] w fun e w'=>∃kA kB kC:Nat,e=.returned (.agg #[.map (some kA),.map (some kB),.map (some kC)])/\Fl b false w'/\Mp kA 50 (AF P 6 0) w'/\Mp kB 50 (AF D 6 0) w'/\Mp kC 50 (AF Q 6 0) w'/\w.heap.size<=kA/\w.heap.size<=kB/\w.heap.size<=kC/\kA≠kB/\kA≠kC/\kB≠kC/\Ad b w w':=by
 have hl:=hw.lies
 go_enter Tryz.func223,Tryz.ntmps223
 have y1_BF:=hw.lies
 go_wp2_with fail
 refine VH (fun KK1 hKK1=>?_)
 have cont1:∀(W1:World) (t1_10 t1_11 t1_12 t1_13 t1_14 t1_15 t1_16 t1_17 t1_18 t1_19 t1_20 t1_21 t1_22 t1_23:Value) (x1_0:Nat) (x1_1:Nat) (x1_2:Nat) (x1_3:Nat),Ad b w W1->Fl b false W1->AN w.heap.size [.map none,.map none,.map none] W1->Mp x1_0 2 (Tk true 1099511627776 true s) W1->Mp x1_1 2 (Tk true 0 true c) W1->Mp x1_2 1 (Tk false 0 true 1099511627776) W1->AN x1_3 [.map (some x1_0),.map (some x1_1),.map (some x1_2)] W1->w.heap.size<=x1_0->w.heap.size<=x1_1->w.heap.size<=x1_2->w.heap.size<=x1_3->b<x1_0->w.heap.size<x1_0->b<x1_1->w.heap.size<x1_1->b<x1_2->w.heap.size<x1_2->b<x1_3->w.heap.size<x1_3->x1_0≠x1_1->x1_0≠x1_2->x1_0≠x1_3->x1_1≠x1_2->x1_1≠x1_3->x1_2≠x1_3->KK1 {tmps:=#[.pointer (some ⟨b,0,none⟩),.int .i64 c,.int .i64 s,undef,undef,undef,.pointer (some ⟨w.heap.size,0,none⟩),.pointer (some ⟨x1_3,0,none⟩),undef,undef,t1_10,t1_11,t1_12,t1_13,t1_14,t1_15,t1_16,t1_17,t1_18,t1_19,t1_20,t1_21,t1_22,t1_23,undef,undef,undef,undef,undef,undef,undef,undef,undef,undef,undef,undef,undef,undef,undef,undef,undef,undef,undef,undef,undef,undef,undef,undef,undef],defers:=[]} W1:=by
  intro W1 t1_10 t1_11 t1_12 t1_13 t1_14 t1_15 t1_16 t1_17 t1_18 t1_19 t1_20 t1_21 t1_22 t1_23 x1_0 x1_1 x1_2 x1_3 KC1 BF_c1 B0_c1 B1_c1 B2_c1 B3_c1 B4_c1 s1_0 s1_1 s1_2 s1_3 s1_4 s1_5 s1_6 s1_7 s1_8 s1_9 s1_10 s1_11 s1_12 s1_13 s1_14 s1_15 s1_16 s1_17
  have zc1_BF:=BF_c1.lies
  have zc1_B0:=B0_c1.lies
  have zc1_B1:=B1_c1.lies
  have zc1_B2:=B2_c1.lies
  have zc1_B3:=B3_c1.lies
  have zc1_B4:=B4_c1.lies
  rw[hKK1.out]
  dsimp only[Exit.inBlock,Exit.then]
  first |refine VJ (by assumption) ?_ |skip
  go_wp2_with fail
  obtain⟨J0,hJ0⟩:∃J:Nat->Act->World->Prop,Hid (J=fun k a Wl0=>∀G_:Prop,(∀(t0_3 t0_4 t0_5 t0_9 t0_10 t0_11 t0_12 t0_13 t0_14 t0_15 t0_16 t0_17 t0_18 t0_19 t0_20 t0_21 t0_22 t0_23 t0_24 t0_25 t0_26 t0_27 t0_28 t0_29 t0_30 t0_31 t0_32 t0_33 t0_34 t0_35 t0_36 t0_37 t0_38 t0_39 t0_40 t0_41 t0_42 t0_43 t0_44 t0_45 t0_46 t0_47 t0_48:Value),a={tmps:=#[.pointer (some ⟨b,0,none⟩),.int .i64 c,.int .i64 s,t0_3,t0_4,t0_5,.pointer (some ⟨w.heap.size,0,none⟩),.pointer (some ⟨x1_3,0,none⟩),.int .i64 ((k:Int)+1),t0_9,t0_10,t0_11,t0_12,t0_13,t0_14,t0_15,t0_16,t0_17,t0_18,t0_19,t0_20,t0_21,t0_22,t0_23,t0_24,t0_25,t0_26,t0_27,t0_28,t0_29,t0_30,t0_31,t0_32,t0_33,t0_34,t0_35,t0_36,t0_37,t0_38,t0_39,t0_40,t0_41,t0_42,t0_43,t0_44,t0_45,t0_46,t0_47,t0_48],defers:=[]}->Ad b w Wl0->Fl b false Wl0->AN w.heap.size [.map none,.map none,.map none] Wl0->Mp x1_0 (8*k+2) (AF P k 0) Wl0->Mp x1_1 (8*k+2) (AF D k 0) Wl0->Mp x1_2 (8*k+2) (AF Q k 0) Wl0->AN x1_3 [.map (some x1_0),.map (some x1_1),.map (some x1_2)] Wl0->G_)->G_):=⟨_,rfl⟩
  refine BS J0 6 ?_ ?_ ?_
  ·rw[hJ0.out]
   intro G_ hG_
   exact hG_ _ _ _ _ _ _ _ _ _ _ _ _ _ _ _ _ _ _ _ _ _ _ _ _ _ _ _ _ _ _ _ _ _ _ _ _ _ _ _ _ _ _ _ rfl KC1 BF_c1 B0_c1 (((B1_c1).mono (by decide)).eqv (LS P Z.p0 Z.p1)) (((B2_c1).mono (by decide)).eqv (LS D Z.d0 Z.d1)) ((((B3_c1).mono (by decide)).eqv (Aoq _ _)).eqv (LS Q Z.q0 Z.q1)) B4_c1
  ·intro k a Wl0 hk hI R hR
   rw[hJ0.out]at hI
   refine hI _ ?_
   clear hI
   intro t0_3 t0_4 t0_5 t0_9 t0_10 t0_11 t0_12 t0_13 t0_14 t0_15 t0_16 t0_17 t0_18 t0_19 t0_20 t0_21 t0_22 t0_23 t0_24 t0_25 t0_26 t0_27 t0_28 t0_29 t0_30 t0_31 t0_32 t0_33 t0_34 t0_35 t0_36 t0_37 t0_38 t0_39 t0_40 t0_41 t0_42 t0_43 t0_44 t0_45 t0_46 t0_47 t0_48 ea Kl0 BF_l0 B0_l0 B1_l0 B2_l0 B3_l0 B4_l0
   subst ea
   have zl0_BF:=BF_l0.lies
   have zl0_B0:=B0_l0.lies
   have zl0_B1:=B1_l0.lies
   have zl0_B2:=B2_l0.lies
   have zl0_B3:=B3_l0.lies
   have zl0_B4:=B4_l0.lies
   go_wp2_with fail
   obtain⟨J1,hJ1⟩:∃J:Nat->Act->World->Prop,Hid (J=fun m a Wl1=>∀G_:Prop,(∀(t1_3 t1_4 t1_5 t1_9 t1_10 t1_11 t1_12 t1_13 t1_14 t1_15 t1_16 t1_17 t1_18 t1_19 t1_20 t1_21 t1_22 t1_23 t1_24 t1_25 t1_26 t1_27 t1_30 t1_31 t1_32 t1_33 t1_34 t1_35 t1_36 t1_37 t1_38 t1_39 t1_40 t1_41 t1_42 t1_43 t1_44 t1_45 t1_46 t1_47 t1_48:Value),a={tmps:=#[.pointer (some ⟨b,0,none⟩),.int .i64 c,.int .i64 s,t1_3,t1_4,t1_5,.pointer (some ⟨w.heap.size,0,none⟩),.pointer (some ⟨x1_3,0,none⟩),.int .i64 ((k:Int)+1),t1_9,t1_10,t1_11,t1_12,t1_13,t1_14,t1_15,t1_16,t1_17,t1_18,t1_19,t1_20,t1_21,t1_22,t1_23,t1_24,t1_25,t1_26,t1_27,.int .i64 ((k:Int)+1),.int .i64 (m:Int),t1_30,t1_31,t1_32,t1_33,t1_34,t1_35,t1_36,t1_37,t1_38,t1_39,t1_40,t1_41,t1_42,t1_43,t1_44,t1_45,t1_46,t1_47,t1_48],defers:=[]}->Ad b w Wl1->Fl b false Wl1->AN w.heap.size [.map none,.map none,.map none] Wl1->Mp x1_0 (8*k+m+2) (AF P k m) Wl1->Mp x1_1 (8*k+m+2) (AF D k m) Wl1->Mp x1_2 (8*k+m+2) (AF Q k m) Wl1->AN x1_3 [.map (some x1_0),.map (some x1_1),.map (some x1_2)] Wl1->G_)->G_):=⟨_,rfl⟩
   refine BS J1 (k+1) ?_ ?_ ?_
   ·rw[hJ1.out]
    intro G_ hG_
    exact hG_ _ _ _ _ _ _ _ _ _ _ _ _ _ _ _ _ _ _ _ _ _ _ _ _ _ _ _ _ _ _ _ _ _ _ _ _ _ _ _ _ _ rfl Kl0 BF_l0 B0_l0 B1_l0 B2_l0 B3_l0 B4_l0
   ·intro m a Wl1 hm hI R hR
    rw[hJ1.out]at hI
    refine hI _ ?_
    clear hI
    intro t1_3 t1_4 t1_5 t1_9 t1_10 t1_11 t1_12 t1_13 t1_14 t1_15 t1_16 t1_17 t1_18 t1_19 t1_20 t1_21 t1_22 t1_23 t1_24 t1_25 t1_26 t1_27 t1_30 t1_31 t1_32 t1_33 t1_34 t1_35 t1_36 t1_37 t1_38 t1_39 t1_40 t1_41 t1_42 t1_43 t1_44 t1_45 t1_46 t1_47 t1_48 ea Kl1 BF_l1 B0_l1 B1_l1 B2_l1 B3_l1 B4_l1
    subst ea
    have zl1_BF:=BF_l1.lies
    have zl1_B0:=B0_l1.lies
    have zl1_B1:=B1_l1.lies
    have zl1_B2:=B2_l1.lies
    have zl1_B3:=B3_l1.lies
    have zl1_B4:=B4_l1.lies
    have c4_B4_0:Wl1.cell? ⟨x1_3,0,none⟩=some (.map (some x1_0)):=B4_l1.c 0 (zD rfl)
    have c4_B4_1:Wl1.cell? ⟨x1_3,1,none⟩=some (.map (some x1_1)):=B4_l1.c 1 (zD rfl)
    have c4_B4_2:Wl1.cell? ⟨x1_3,2,none⟩=some (.map (some x1_2)):=B4_l1.c 2 (zD rfl)
    go_wp2_with fail
    refine(Aqa b x1_0 x1_1 x1_2 k m c s P D Q Z _ BF_l1 B1_l1 B2_l1 B3_l1 (zL s1_4) (zL s1_6) (zL s1_8) s1_12 s1_13 s1_15 hk hm).mono ?_
    rintro e w1 ⟨rfl,f1,B1_1,B2_1,B3_1,k1⟩
    have K1:Ad b w w1:=Ad.off_list Kl1 k1 (by simp;omega)
    have B0_1:AN w.heap.size [.map none,.map none,.map none] w1:=B0_l1.keptL k1 (by simp;omega)
    have B4_1:AN x1_3 [.map (some x1_0),.map (some x1_1),.map (some x1_2)] w1:=B4_l1.keptL k1 (by simp;omega)
    have z1_BF:=f1.lies
    have z1_B1:=B1_1.lies
    have z1_B2:=B2_1.lies
    have z1_B3:=B3_1.lies
    have z1_B0:=B0_1.lies
    have z1_B4:=B4_1.lies
    clear c4_B4_0 c4_B4_1 c4_B4_2 BF_l1 B1_l1 B2_l1 B3_l1 B0_l1 B4_l1 k1
    go_wp2_with fail
    rw[hJ1.out]
    intro G_ hG_
    exact hG_ _ _ _ _ _ _ _ _ _ _ _ _ _ _ _ _ _ _ _ _ _ _ _ _ _ _ _ _ _ _ _ _ _ _ _ _ _ _ _ _ _ rfl K1 f1 B0_1 B1_1 B2_1 B3_1 B4_1
   ·intro a Wl1 hI R
    rw[hJ1.out]at hI
    refine hI _ ?_
    clear hI hJ1
    intro t1_3 t1_4 t1_5 t1_9 t1_10 t1_11 t1_12 t1_13 t1_14 t1_15 t1_16 t1_17 t1_18 t1_19 t1_20 t1_21 t1_22 t1_23 t1_24 t1_25 t1_26 t1_27 t1_30 t1_31 t1_32 t1_33 t1_34 t1_35 t1_36 t1_37 t1_38 t1_39 t1_40 t1_41 t1_42 t1_43 t1_44 t1_45 t1_46 t1_47 t1_48 ea Kl1 BF_l1 B0_l1 B1_l1 B2_l1 B3_l1 B4_l1
    subst ea
    have zl1_BF:=BF_l1.lies
    have zl1_B0:=B0_l1.lies
    have zl1_B1:=B1_l1.lies
    have zl1_B2:=B2_l1.lies
    have zl1_B3:=B3_l1.lies
    have zl1_B4:=B4_l1.lies
    by_cases hc1:((k:Int)+1)>1
    ·have Hhc1:Hid (((k:Int)+1)>1):=hc1
     have c7_B4_0:Wl1.cell? ⟨x1_3,0,none⟩=some (.map (some x1_0)):=B4_l1.c 0 (zD rfl)
     have c7_B4_1:Wl1.cell? ⟨x1_3,1,none⟩=some (.map (some x1_1)):=B4_l1.c 1 (zD rfl)
     have c7_B4_2:Wl1.cell? ⟨x1_3,2,none⟩=some (.map (some x1_2)):=B4_l1.c 2 (zD rfl)
     go_wp2_with fail
     refine(Axx b x1_0 x1_1 x1_2 k c s P D Q Z _ BF_l1 B1_l1 B2_l1 B3_l1 (zL s1_4) (zL s1_6) (zL s1_8) s1_12 s1_13 s1_15 hk hc1).mono ?_
     rintro e w2001 ⟨rfl,f2001,B1_2001,B2_2001,B3_2001,k2001⟩
     have K2001:Ad b w w2001:=Ad.off_list Kl1 k2001 (by simp;omega)
     have B0_2001:AN w.heap.size [.map none,.map none,.map none] w2001:=B0_l1.keptL k2001 (by simp;omega)
     have B4_2001:AN x1_3 [.map (some x1_0),.map (some x1_1),.map (some x1_2)] w2001:=B4_l1.keptL k2001 (by simp;omega)
     have z2001_BF:=f2001.lies
     have z2001_B1:=B1_2001.lies
     have z2001_B2:=B2_2001.lies
     have z2001_B3:=B3_2001.lies
     have z2001_B0:=B0_2001.lies
     have z2001_B4:=B4_2001.lies
     clear c7_B4_0 c7_B4_1 c7_B4_2 BF_l1 B1_l1 B2_l1 B3_l1 B0_l1 B4_l1 k2001
     go_wp2_with fail
     rw[hJ0.out]
     intro G_ hG_
     exact hG_ _ _ _ _ _ _ _ _ _ _ _ _ _ _ _ _ _ _ _ _ _ _ _ _ _ _ _ _ _ _ _ _ _ _ _ _ _ _ _ _ _ _ _ rfl K2001 f2001 B0_2001 B1_2001 B2_2001 B3_2001 B4_2001
    ·have Hhc1:Hid (¬((k:Int)+1)>1):=hc1
     go_wp2_with fail
     rw[hJ0.out]
     intro G_ hG_
     exact hG_ _ _ _ _ _ _ _ _ _ _ _ _ _ _ _ _ _ _ _ _ _ _ _ _ _ _ _ _ _ _ _ _ _ _ _ _ _ _ _ _ _ _ _ rfl Kl1 BF_l1 B0_l1 (((B1_l1).mono (by omega)).eqv (OU P (by omega))) (((B2_l1).mono (by omega)).eqv (OU D (by omega))) (((B3_l1).mono (by omega)).eqv (OU Q (by omega))) B4_l1
  ·intro a Wl0 hI R
   rw[hJ0.out]at hI
   refine hI _ ?_
   clear hI hJ0
   intro t0_3 t0_4 t0_5 t0_9 t0_10 t0_11 t0_12 t0_13 t0_14 t0_15 t0_16 t0_17 t0_18 t0_19 t0_20 t0_21 t0_22 t0_23 t0_24 t0_25 t0_26 t0_27 t0_28 t0_29 t0_30 t0_31 t0_32 t0_33 t0_34 t0_35 t0_36 t0_37 t0_38 t0_39 t0_40 t0_41 t0_42 t0_43 t0_44 t0_45 t0_46 t0_47 t0_48 ea Kl0 BF_l0 B0_l0 B1_l0 B2_l0 B3_l0 B4_l0
   subst ea
   have zl0_BF:=BF_l0.lies
   have zl0_B0:=B0_l0.lies
   have zl0_B1:=B1_l0.lies
   have zl0_B2:=B2_l0.lies
   have zl0_B3:=B3_l0.lies
   have zl0_B4:=B4_l0.lies
   have c10_B0_0:Wl0.cell? ⟨w.heap.size,0,none⟩=some (.map none):=B0_l0.c 0 (zD rfl)
   have c10_B0_1:Wl0.cell? ⟨w.heap.size,1,none⟩=some (.map none):=B0_l0.c 1 (zD rfl)
   have c10_B0_2:Wl0.cell? ⟨w.heap.size,2,none⟩=some (.map none):=B0_l0.c 2 (zD rfl)
   have c10_B4_0:Wl0.cell? ⟨x1_3,0,none⟩=some (.map (some x1_0)):=B4_l0.c 0 (zD rfl)
   have c10_B4_1:Wl0.cell? ⟨x1_3,1,none⟩=some (.map (some x1_1)):=B4_l0.c 1 (zD rfl)
   have c10_B4_2:Wl0.cell? ⟨x1_3,2,none⟩=some (.map (some x1_2)):=B4_l0.c 2 (zD rfl)
   have g10_B0_0:=B0_l0.f 0 (zD rfl)
   have g10_B0_1:=B0_l0.f 1 (zD rfl)
   have g10_B0_2:=B0_l0.f 2 (zD rfl)
   go_wp2_with (with_reducible refine BJ ?_)
   refine Stop.mk ?_
   clear c10_B0_0 c10_B0_1 c10_B0_2 c10_B4_0 c10_B4_1 c10_B4_2 g10_B0_0 g10_B0_1 g10_B0_2
   refine bodyPost_ret (v:=.agg #[.map (some x1_0),.map (some x1_1),.map (some x1_2)]) (Eo Tryz.results223 (((B0_l0.put 0 (zD rfl) (.map (some x1_0)) [.map (some x1_0),.map none,.map none] rfl).put 1 (zD rfl) (.map (some x1_1)) [.map (some x1_0),.map (some x1_1),.map none] rfl).put 2 (zD rfl) (.map (some x1_2)) [.map (some x1_0),.map (some x1_1),.map (some x1_2)] rfl) rfl (by kernel_rfl) (by kernel_rfl)) rfl ?_
   exact⟨x1_0,x1_1,x1_2,rfl,(((BF_l0.new w.heap.size 0 (zL y1_BF) (.map (some x1_0))).new w.heap.size 1 (zL y1_BF) (.map (some x1_1))).new w.heap.size 2 (zL y1_BF) (.map (some x1_2))),(((B1_l0.new w.heap.size 0 (zG s1_5) (.map (some x1_0))).new w.heap.size 1 (zG s1_5) (.map (some x1_1))).new w.heap.size 2 (zG s1_5) (.map (some x1_2))),(((B2_l0.new w.heap.size 0 (zG s1_7) (.map (some x1_0))).new w.heap.size 1 (zG s1_7) (.map (some x1_1))).new w.heap.size 2 (zG s1_7) (.map (some x1_2))),(((B3_l0.new w.heap.size 0 (zG s1_9) (.map (some x1_0))).new w.heap.size 1 (zG s1_9) (.map (some x1_1))).new w.heap.size 2 (zG s1_9) (.map (some x1_2))),by omega,by omega,by omega,s1_12,s1_13,s1_15,(((Kl0.new _ _ (by omega) _).new _ _ (by omega) _).new _ _ (by omega) _)⟩
 refine wp_region_held_drew (S:=fun _=>True) (by kernel_rfl) trivial (fun zH=>?_)
 refine zT 1 rfl (by kernel_rfl) (fun _ _ _=>id) rfl (fun _ _=>by go_simp<;>with_reducible rfl) zH ?_
 simp only[Act.put,zA,zB,zC]
 refine zT 3 rfl (by kernel_rfl) (fun _ _ _=>id) rfl (fun _ _=>by go_simp<;>with_reducible rfl) zH ?_
 simp only[Act.put,zA,zB,zC]
 refine zT 4 rfl (by kernel_rfl) (fun _ _ _=>id) rfl (fun _ _=>by go_simp<;>with_reducible rfl) zH ?_
 simp only[Act.put,zA,zB,zC]
 refine zT 8 rfl (by kernel_rfl) (fun _ _ _=>id) rfl (fun _ _=>by go_simp<;>with_reducible rfl) zH ?_
 simp only[Act.put,zA,zB,zC]
 refine zT 10 rfl (by kernel_rfl) (fun _ _ _=>id) rfl (fun _ _=>by go_simp<;>with_reducible rfl) zH ?_
 simp only[Act.put,zA,zB,zC]
 refine zT 11 rfl (by kernel_rfl) (fun _ _ _=>id) rfl (fun _ _=>by go_simp<;>with_reducible rfl) zH ?_
 simp only[Act.put,zA,zB,zC]
 refine zT 15 rfl (by kernel_rfl) (fun _ _ _=>id) rfl (fun _ _=>by go_simp<;>with_reducible rfl) zH ?_
 simp only[Act.put,zA,zB,zC]
 have F1:Fl b false (w.alloc (.cells #[.map none,.map none,.map none] 258)).drew:=(hw.alloc _).drew
 have A1:AN w.heap.size [.map none,.map none,.map none] (w.alloc (.cells #[.map none,.map none,.map none] 258)).drew:=(AH _ _ [.map none,.map none,.map none] _ (by simp)).drew
 have K1:Ad b w (w.alloc (.cells #[.map none,.map none,.map none] 258)).drew:=((Ad.refl b w).al _).drew
 generalize (w.alloc (.cells #[.map none,.map none,.map none] 258)).drew=w1 at F1 A1 K1 ⊢
 have l1:=F1.lies;have l2:=A1.lies;have l3:=K1.size
 clear zH
 refine OR (fun L a wi=>∃(a0 a2 a5 a6 b7 b9 b12 b13 q14 q16 q17 e18 d19 z20:Bool) (x7 x10 x14 x15 x19 x20 x22 x23:Value) (kA kB kC kD:Nat),L=#[a0,true,a2,true,true,a5,a6,b7,true,b9,true,true,b12,b13,q14,true,q16,q17,e18,d19,z20]/\a={tmps:=#[.pointer (some ⟨b,0,none⟩),.int .i64 c,.int .i64 s,undef,undef,undef,.pointer (some ⟨w.heap.size,0,none⟩),x7,undef,undef,x10,.agg #[.int .i64 0,.int .i64 0],.agg #[.int .i64 1,.int .i64 1],.int .i64 s,x14,x15,.agg #[.int .i64 0,.int .i64 0],.agg #[.int .i64 1,.int .i64 1],.int .i64 c,x19,x20,.agg #[.int .i64 1,.int .i64 1],x22,x23,undef,undef,undef,undef,undef,undef,undef,undef,undef,undef,undef,undef,undef,undef,undef,undef,undef,undef,undef,undef,undef,undef,undef,undef,undef],defers:=[]}/\MI w1 c s a0 a2 a5 a6 b7 b9 b12 b13 q14 q16 q17 e18 d19 z20 x7 x10 x14 x15 x19 x20 x22 x23 kA kB kC kD wi) ?_ ?_ 14 _ _ _ (by decide) ?_
 ·intro L a wi i o ho hi hI K hK
  obtain⟨a0,a2,a5,a6,b7,b9,b12,b13,q14,q16,q17,e18,d19,z20,x7,x10,x14,x15,x19,x20,x22,x23,kA,kB,kC,kD,rfl,rfl,I⟩:=hI
  have hall:=(mem_ready.1 hi).2
  have hun:=(mem_ready.1 hi).1
  have hlt:i<21:=(Zo.1 ho).1
  match i,hlt with
  |0,_=>
   obtain rfl:a0=false:=hun
   clear hall
   cases ho
   obtain rfl:a2=false:=by cases a2 with |false=>rfl |true=>exact absurd (I.va (.inl rfl)) (by decide)
   obtain rfl:a5=false:=by cases a5 with |false=>rfl |true=>exact absurd (I.va (.inr rfl)) (by decide)
   go_simp
   refine hK.out _ _ ?_
   have z0:z20=false:=by cases z20 with |false=>rfl |true=>exact absurd (I.A6 (I.E (I.Z rfl).1).2.1).2.1 (by decide)
   subst z0
   exact⟨true,false,false,a6,b7,b9,b12,b13,q14,q16,q17,e18,d19,false,x7,.map (some wi.heap.size),x14,x15,x19,x20,x22,x23,wi.heap.size,kB,kC,kD,rfl,rfl,⟨Cx I.bel _,fun _=>⟨rfl,I.bel.size,(Mp.made wi _ rfl).eqv (OT _ _)⟩,fun h=>⟨(I.B h).1,(I.B h).2.1,(I.B h).2.2.alloc _⟩,fun h=>⟨(I.C h).1,(I.C h).2.1,(I.C h).2.2.alloc _⟩,fun h=>absurd (I.A6 h).2.1 (by decide),I.B13,I.C17,fun h=>absurd (I.A6 (I.E h).2.1).2.1 (by decide),fun h=>⟨(I.D h).1,(I.D h).2.1,(I.D h).2.2.alloc _⟩,fun _=>rfl,I.vb,I.vc,fun h=>absurd (I.A6 (I.E (I.Z h).1).2.1).2.1 (by decide),fun _ h=>by have:=(I.B h).2.2.lies;omega,fun _ h=>by have:=(I.C h).2.2.lies;omega,I.BC,fun _ h=>by have:=(I.D h).2.2.lies;omega,I.BD,I.CD⟩⟩
  |1,_=>
   exact absurd (show true=false from hun) (by decide)
  |2,_=>
   obtain rfl:a2=false:=hun
   obtain⟨o2,ho2,hall⟩:=hall
   cases ho2
   obtain rfl:a0=true:=hall ⟨0,.data⟩ (by simp) rfl
   clear hall
   cases ho
   obtain⟨e1,g1,M⟩:=I.A rfl
   subst e1
   refine OS (by rfl) rfl rfl rfl rfl M (by cases a5<;>decide) ⟨by decide,by decide⟩ ⟨by decide,by decide⟩ ⟨by decide,by decide⟩ ?_
   intro w2 M1 k1
   simp only[Act.put]
   refine hK.out _ _ ?_
   exact⟨true,true,a5,a6,b7,b9,b12,b13,q14,q16,q17,e18,d19,z20,x7,.map (some kA),x14,x15,x19,x20,x22,x23,kA,kB,kC,kD,rfl,rfl,⟨k1.on I.bel (I.A rfl).2.1,fun _=>⟨rfl,g1,(M1.mono (by cases a5<;>decide)).eqv (AA9 _ _ _)⟩,fun h=>⟨(I.B h).1,(I.B h).2.1,(I.B h).2.2.kept k1 (Ne.symm (I.AB rfl h))⟩,fun h=>⟨(I.C h).1,(I.C h).2.1,(I.C h).2.2.kept k1 (Ne.symm (I.AC rfl h))⟩,fun h=>absurd (I.A6 h).2.2.1 (by decide),I.B13,I.C17,fun h=>absurd (I.A6 (I.E h).2.1).2.2.1 (by decide),fun h=>⟨(I.D h).1,(I.D h).2.1,(I.D h).2.2.kept k1 (Ne.symm (I.AD rfl h))⟩,fun _=>rfl,I.vb,I.vc,fun h=>absurd (I.A6 (I.E (I.Z h).1).2.1).2.2.1 (by decide),I.AB,I.AC,I.BC,I.AD,I.BD,I.CD⟩⟩
  |3,_=>
   exact absurd (show true=false from hun) (by decide)
  |4,_=>
   exact absurd (show true=false from hun) (by decide)
  |5,_=>
   obtain rfl:a5=false:=hun
   obtain⟨o2,ho2,hall⟩:=hall
   cases ho2
   obtain rfl:a0=true:=hall ⟨0,.data⟩ (by simp) rfl
   clear hall
   cases ho
   obtain⟨e1,g1,M⟩:=I.A rfl
   subst e1
   refine OS (by rfl) rfl rfl rfl rfl M (by cases a2<;>decide) ⟨by decide,by decide⟩ ⟨by decide,by decide⟩ is ?_
   intro w2 M1 k1
   simp only[Act.put]
   refine hK.out _ _ ?_
   exact⟨true,a2,true,a6,b7,b9,b12,b13,q14,q16,q17,e18,d19,z20,x7,.map (some kA),x14,x15,x19,x20,x22,x23,kA,kB,kC,kD,rfl,rfl,⟨k1.on I.bel (I.A rfl).2.1,fun _=>⟨rfl,g1,(M1.mono (by cases a2<;>decide)).eqv (Aoo _ _ _)⟩,fun h=>⟨(I.B h).1,(I.B h).2.1,(I.B h).2.2.kept k1 (Ne.symm (I.AB rfl h))⟩,fun h=>⟨(I.C h).1,(I.C h).2.1,(I.C h).2.2.kept k1 (Ne.symm (I.AC rfl h))⟩,fun h=>absurd (I.A6 h).2.2.2 (by decide),I.B13,I.C17,fun h=>absurd (I.A6 (I.E h).2.1).2.2.2 (by decide),fun h=>⟨(I.D h).1,(I.D h).2.1,(I.D h).2.2.kept k1 (Ne.symm (I.AD rfl h))⟩,fun _=>rfl,I.vb,I.vc,fun h=>absurd (I.A6 (I.E (I.Z h).1).2.1).2.2.2 (by decide),I.AB,I.AC,I.BC,I.AD,I.BD,I.CD⟩⟩
  |6,_=>
   obtain rfl:a6=false:=hun
   obtain⟨o2,ho2,hall⟩:=hall
   cases ho2
   obtain rfl:a0=true:=hall ⟨0,.data⟩ (by simp) rfl
   obtain rfl:a2=true:=hall ⟨2,.data⟩ (by simp) rfl
   obtain rfl:a5=true:=hall ⟨5,.data⟩ (by simp) rfl
   clear hall
   cases ho
   go_simp
   refine hK.out _ _ ?_
   exact⟨true,true,true,true,b7,b9,b12,b13,q14,q16,q17,e18,d19,z20,x7,x10,x10,x15,x19,x20,x22,x23,kA,kB,kC,kD,rfl,rfl,⟨I.bel,I.A,I.B,I.C,fun _=>⟨(I.A rfl).1,rfl,rfl,rfl⟩,I.B13,I.C17,fun h=>absurd (I.E h).2.1 (by decide),I.D,I.va,I.vb,I.vc,fun h=>absurd (I.E (I.Z h).1).2.1 (by decide),I.AB,I.AC,I.BC,I.AD,I.BD,I.CD⟩⟩
  |7,_=>
   obtain rfl:b7=false:=hun
   clear hall
   cases ho
   obtain rfl:b9=false:=by cases b9 with |false=>rfl |true=>exact absurd (I.vb (.inl rfl)) (by decide)
   obtain rfl:b12=false:=by cases b12 with |false=>rfl |true=>exact absurd (I.vb (.inr rfl)) (by decide)
   go_simp
   refine hK.out _ _ ?_
   have z0:z20=false:=by cases z20 with |false=>rfl |true=>exact absurd (I.B13 (I.E (I.Z rfl).1).2.2.1).2.1 (by decide)
   subst z0
   exact⟨a0,a2,a5,a6,true,false,false,b13,q14,q16,q17,e18,d19,false,x7,x10,x14,.map (some wi.heap.size),x19,x20,x22,x23,kA,wi.heap.size,kC,kD,rfl,rfl,⟨Cx I.bel _,fun h=>⟨(I.A h).1,(I.A h).2.1,(I.A h).2.2.alloc _⟩,fun _=>⟨rfl,I.bel.size,(Mp.made wi _ rfl).eqv (OT _ _)⟩,fun h=>⟨(I.C h).1,(I.C h).2.1,(I.C h).2.2.alloc _⟩,I.A6,fun h=>absurd (I.B13 h).2.1 (by decide),I.C17,fun h=>absurd (I.B13 (I.E h).2.2.1).2.1 (by decide),fun h=>⟨(I.D h).1,(I.D h).2.1,(I.D h).2.2.alloc _⟩,I.va,fun _=>rfl,I.vc,fun h=>absurd (I.B13 (I.E (I.Z h).1).2.2.1).2.1 (by decide),fun h _=>by have:=(I.A h).2.2.lies;omega,I.AC,fun _ h=>by have:=(I.C h).2.2.lies;omega,I.AD,fun _ h=>by have:=(I.D h).2.2.lies;omega,I.CD⟩⟩
  |8,_=>
   exact absurd (show true=false from hun) (by decide)
  |9,_=>
   obtain rfl:b9=false:=hun
   obtain⟨o2,ho2,hall⟩:=hall
   cases ho2
   obtain rfl:b7=true:=hall ⟨7,.data⟩ (by simp) rfl
   clear hall
   cases ho
   obtain⟨e1,g1,M⟩:=I.B rfl
   subst e1
   refine OS (by rfl) rfl rfl rfl rfl M (by cases b12<;>decide) ⟨by decide,by decide⟩ ⟨by decide,by decide⟩ ⟨by decide,by decide⟩ ?_
   intro w2 M1 k1
   simp only[Act.put]
   refine hK.out _ _ ?_
   exact⟨a0,a2,a5,a6,true,true,b12,b13,q14,q16,q17,e18,d19,z20,x7,x10,x14,.map (some kB),x19,x20,x22,x23,kA,kB,kC,kD,rfl,rfl,⟨k1.on I.bel (I.B rfl).2.1,fun h=>⟨(I.A h).1,(I.A h).2.1,(I.A h).2.2.kept k1 (I.AB h rfl)⟩,fun _=>⟨rfl,g1,(M1.mono (by cases b12<;>decide)).eqv (AA9 _ _ _)⟩,fun h=>⟨(I.C h).1,(I.C h).2.1,(I.C h).2.2.kept k1 (Ne.symm (I.BC rfl h))⟩,I.A6,fun h=>absurd (I.B13 h).2.2.1 (by decide),I.C17,fun h=>absurd (I.B13 (I.E h).2.2.1).2.2.1 (by decide),fun h=>⟨(I.D h).1,(I.D h).2.1,(I.D h).2.2.kept k1 (Ne.symm (I.BD rfl h))⟩,I.va,fun _=>rfl,I.vc,fun h=>absurd (I.B13 (I.E (I.Z h).1).2.2.1).2.2.1 (by decide),I.AB,I.AC,I.BC,I.AD,I.BD,I.CD⟩⟩
  |10,_=>
   exact absurd (show true=false from hun) (by decide)
  |11,_=>
   exact absurd (show true=false from hun) (by decide)
  |12,_=>
   obtain rfl:b12=false:=hun
   obtain⟨o2,ho2,hall⟩:=hall
   cases ho2
   obtain rfl:b7=true:=hall ⟨7,.data⟩ (by simp) rfl
   clear hall
   cases ho
   obtain⟨e1,g1,M⟩:=I.B rfl
   subst e1
   refine OS (by rfl) rfl rfl rfl rfl M (by cases b9<;>decide) ⟨by decide,by decide⟩ ⟨by decide,by decide⟩ ic ?_
   intro w2 M1 k1
   simp only[Act.put]
   refine hK.out _ _ ?_
   exact⟨a0,a2,a5,a6,true,b9,true,b13,q14,q16,q17,e18,d19,z20,x7,x10,x14,.map (some kB),x19,x20,x22,x23,kA,kB,kC,kD,rfl,rfl,⟨k1.on I.bel (I.B rfl).2.1,fun h=>⟨(I.A h).1,(I.A h).2.1,(I.A h).2.2.kept k1 (I.AB h rfl)⟩,fun _=>⟨rfl,g1,(M1.mono (by cases b9<;>decide)).eqv (Aoo _ _ _)⟩,fun h=>⟨(I.C h).1,(I.C h).2.1,(I.C h).2.2.kept k1 (Ne.symm (I.BC rfl h))⟩,I.A6,fun h=>absurd (I.B13 h).2.2.2 (by decide),I.C17,fun h=>absurd (I.B13 (I.E h).2.2.1).2.2.2 (by decide),fun h=>⟨(I.D h).1,(I.D h).2.1,(I.D h).2.2.kept k1 (Ne.symm (I.BD rfl h))⟩,I.va,fun _=>rfl,I.vc,fun h=>absurd (I.B13 (I.E (I.Z h).1).2.2.1).2.2.2 (by decide),I.AB,I.AC,I.BC,I.AD,I.BD,I.CD⟩⟩
  |13,_=>
   obtain rfl:b13=false:=hun
   obtain⟨o2,ho2,hall⟩:=hall
   cases ho2
   obtain rfl:b7=true:=hall ⟨7,.data⟩ (by simp) rfl
   obtain rfl:b9=true:=hall ⟨9,.data⟩ (by simp) rfl
   obtain rfl:b12=true:=hall ⟨12,.data⟩ (by simp) rfl
   clear hall
   cases ho
   go_simp
   refine hK.out _ _ ?_
   exact⟨a0,a2,a5,a6,true,true,true,true,q14,q16,q17,e18,d19,z20,x7,x10,x14,x15,x15,x20,x22,x23,kA,kB,kC,kD,rfl,rfl,⟨I.bel,I.A,I.B,I.C,I.A6,fun _=>⟨(I.B rfl).1,rfl,rfl,rfl⟩,I.C17,fun h=>absurd (I.E h).2.2.1 (by decide),I.D,I.va,I.vb,I.vc,fun h=>absurd (I.E (I.Z h).1).2.2.1 (by decide),I.AB,I.AC,I.BC,I.AD,I.BD,I.CD⟩⟩
  |14,_=>
   obtain rfl:q14=false:=hun
   clear hall
   cases ho
   obtain rfl:q16=false:=by cases q16 with |false=>rfl |true=>exact absurd (I.vc rfl) (by decide)
   go_simp
   refine hK.out _ _ ?_
   have z0:z20=false:=by cases z20 with |false=>rfl |true=>exact absurd (I.C17 (I.E (I.Z rfl).1).2.2.2).2.1 (by decide)
   subst z0
   exact⟨a0,a2,a5,a6,b7,b9,b12,b13,true,false,q17,e18,d19,false,x7,x10,x14,x15,x19,.map (some wi.heap.size),x22,x23,kA,kB,wi.heap.size,kD,rfl,rfl,⟨Cx I.bel _,fun h=>⟨(I.A h).1,(I.A h).2.1,(I.A h).2.2.alloc _⟩,fun h=>⟨(I.B h).1,(I.B h).2.1,(I.B h).2.2.alloc _⟩,fun _=>⟨rfl,I.bel.size,(Mp.made wi _ rfl).eqv (OT _ _)⟩,I.A6,I.B13,fun h=>absurd (I.C17 h).2.1 (by decide),fun h=>absurd (I.C17 (I.E h).2.2.2).2.1 (by decide),fun h=>⟨(I.D h).1,(I.D h).2.1,(I.D h).2.2.alloc _⟩,I.va,I.vb,fun _=>rfl,fun h=>absurd (I.C17 (I.E (I.Z h).1).2.2.2).2.1 (by decide),I.AB,fun h _=>by have:=(I.A h).2.2.lies;omega,fun h _=>by have:=(I.B h).2.2.lies;omega,I.AD,I.BD,fun _ h=>by have:=(I.D h).2.2.lies;omega⟩⟩
  |15,_=>
   exact absurd (show true=false from hun) (by decide)
  |16,_=>
   obtain rfl:q16=false:=hun
   obtain⟨o2,ho2,hall⟩:=hall
   cases ho2
   obtain rfl:q14=true:=hall ⟨14,.data⟩ (by simp) rfl
   clear hall
   cases ho
   obtain⟨e1,g1,M⟩:=I.C rfl
   subst e1
   refine OS (by rfl) rfl rfl rfl rfl M (by decide) ⟨by decide,by decide⟩ ⟨by decide,by decide⟩ ⟨by decide,by decide⟩ ?_
   intro w2 M1 k1
   simp only[Act.put]
   refine hK.out _ _ ?_
   exact⟨a0,a2,a5,a6,b7,b9,b12,b13,true,true,q17,e18,d19,z20,x7,x10,x14,x15,x19,.map (some kC),x22,x23,kA,kB,kC,kD,rfl,rfl,⟨k1.on I.bel (I.C rfl).2.1,fun h=>⟨(I.A h).1,(I.A h).2.1,(I.A h).2.2.kept k1 (I.AC h rfl)⟩,fun h=>⟨(I.B h).1,(I.B h).2.1,(I.B h).2.2.kept k1 (I.BC h rfl)⟩,fun _=>⟨rfl,g1,M1.eqv (Aoo _ _ _)⟩,I.A6,I.B13,fun h=>absurd (I.C17 h).2.2 (by decide),fun h=>absurd (I.C17 (I.E h).2.2.2).2.2 (by decide),fun h=>⟨(I.D h).1,(I.D h).2.1,(I.D h).2.2.kept k1 (Ne.symm (I.CD rfl h))⟩,I.va,I.vb,fun _=>rfl,fun h=>absurd (I.C17 (I.E (I.Z h).1).2.2.2).2.2 (by decide),I.AB,I.AC,I.BC,I.AD,I.BD,I.CD⟩⟩
  |17,_=>
   obtain rfl:q17=false:=hun
   obtain⟨o2,ho2,hall⟩:=hall
   cases ho2
   obtain rfl:q14=true:=hall ⟨14,.data⟩ (by simp) rfl
   obtain rfl:q16=true:=hall ⟨16,.data⟩ (by simp) rfl
   clear hall
   cases ho
   go_simp
   refine hK.out _ _ ?_
   exact⟨a0,a2,a5,a6,b7,b9,b12,b13,true,true,true,e18,d19,z20,x7,x10,x14,x15,x19,x20,x20,x23,kA,kB,kC,kD,rfl,rfl,⟨I.bel,I.A,I.B,I.C,I.A6,I.B13,fun _=>⟨(I.C rfl).1,rfl,rfl⟩,fun h=>absurd (I.E h).2.2.2 (by decide),I.D,I.va,I.vb,I.vc,fun h=>absurd (I.E (I.Z h).1).2.2.2 (by decide),I.AB,I.AC,I.BC,I.AD,I.BD,I.CD⟩⟩
  |18,_=>
   obtain rfl:e18=false:=hun
   obtain⟨o2,ho2,hall⟩:=hall
   cases ho2
   obtain rfl:a6=true:=hall ⟨6,.data⟩ (by simp) rfl
   obtain rfl:b13=true:=hall ⟨13,.data⟩ (by simp) rfl
   obtain rfl:q17=true:=hall ⟨17,.data⟩ (by simp) rfl
   clear hall
   cases ho
   have e1:=(I.A6 rfl).1;have e2:=(I.B13 rfl).1;have e3:=(I.C17 rfl).1
   subst e1 e2 e3
   go_simp
   refine hK.out _ _ ?_
   exact⟨a0,a2,a5,true,b7,b9,b12,true,q14,q16,true,true,d19,z20,x7,x10,.map (some kA),x15,.map (some kB),x20,.map (some kC),.agg #[.map (some kA),.map (some kB),.map (some kC)],kA,kB,kC,kD,rfl,rfl,⟨I.bel,I.A,I.B,I.C,I.A6,I.B13,I.C17,fun _=>⟨rfl,rfl,rfl,rfl⟩,I.D,I.va,I.vb,I.vc,fun h=>absurd (I.Z h).1 (by decide),I.AB,I.AC,I.BC,I.AD,I.BD,I.CD⟩⟩
  |19,_=>
   obtain rfl:d19=false:=hun
   clear hall
   cases ho
   have z0:z20=false:=by cases z20 with |false=>rfl |true=>exact absurd (I.Z rfl).2 (by decide)
   subst z0
   go_simp
   refine hK.out _ _ ?_
   exact⟨a0,a2,a5,a6,b7,b9,b12,b13,q14,q16,q17,e18,true,false,.pointer (some ⟨wi.heap.size,0,none⟩),x10,x14,x15,x19,x20,x22,x23,kA,kB,kC,wi.heap.size,rfl,rfl,⟨Cx I.bel _,fun h=>⟨(I.A h).1,(I.A h).2.1,(I.A h).2.2.alloc _⟩,fun h=>⟨(I.B h).1,(I.B h).2.1,(I.B h).2.2.alloc _⟩,fun h=>⟨(I.C h).1,(I.C h).2.1,(I.C h).2.2.alloc _⟩,I.A6,I.B13,I.C17,I.E,fun _=>⟨rfl,I.bel.size,AH wi _ [.map none,.map none,.map none] _ rfl⟩,I.va,I.vb,I.vc,fun h=>absurd (I.Z h).2 (by decide),I.AB,I.AC,I.BC,fun h _=>by have:=(I.A h).2.2.lies;omega,fun h _=>by have:=(I.B h).2.2.lies;omega,fun h _=>by have:=(I.C h).2.2.lies;omega⟩⟩
  |20,_=>
   obtain rfl:z20=false:=hun
   obtain⟨o2,ho2,hall⟩:=hall
   cases ho2
   obtain rfl:a0=true:=hall ⟨0,.phase⟩ (by simp) rfl
   obtain rfl:a2=true:=hall ⟨2,.phase⟩ (by simp) rfl
   obtain rfl:a5=true:=hall ⟨5,.phase⟩ (by simp) rfl
   obtain rfl:a6=true:=hall ⟨6,.phase⟩ (by simp) rfl
   obtain rfl:b7=true:=hall ⟨7,.phase⟩ (by simp) rfl
   obtain rfl:b9=true:=hall ⟨9,.phase⟩ (by simp) rfl
   obtain rfl:b12=true:=hall ⟨12,.phase⟩ (by simp) rfl
   obtain rfl:b13=true:=hall ⟨13,.phase⟩ (by simp) rfl
   obtain rfl:q14=true:=hall ⟨14,.phase⟩ (by simp) rfl
   obtain rfl:q16=true:=hall ⟨16,.phase⟩ (by simp) rfl
   obtain rfl:q17=true:=hall ⟨17,.phase⟩ (by simp) rfl
   obtain rfl:e18=true:=hall ⟨18,.phase⟩ (by simp) rfl
   obtain rfl:d19=true:=hall ⟨19,.phase⟩ (by simp) rfl
   clear hall
   cases ho
   obtain⟨e1,-⟩:=I.E rfl
   obtain⟨e2,g2,D⟩:=I.D rfl
   subst e1 e2
   have D:=D
   have c0:wi.cell? ⟨kD,0,none⟩=some (.map none):=D.c 0 (zD rfl)
   have c1:wi.cell? ⟨kD,1,none⟩=some (.map none):=D.c 1 (zD rfl)
   have c2:wi.cell? ⟨kD,2,none⟩=some (.map none):=D.c 2 (zD rfl)
   have f0:=D.f 0 (zD rfl)
   have f1:=D.f 1 (zD rfl)
   have f2:=D.f 2 (zD rfl)
   go_simp
   refine hK.out _ _ ?_
   exact⟨true,true,true,true,true,true,true,true,true,true,true,true,true,true,.pointer (some ⟨kD,0,none⟩),x10,x14,x15,x19,x20,x22,.agg #[.map (some kA),.map (some kB),.map (some kC)],kA,kB,kC,kD,rfl,rfl,⟨(CR (CR (CR I.bel kD 0 g2 _) kD 1 g2 _) kD 2 g2 _),fun h=>⟨(I.A h).1,(I.A h).2.1,(((((I.A h).2.2.new kD 0 (I.AD h rfl) _).new kD 1 (I.AD h rfl) _).new kD 2 (I.AD h rfl) _))⟩,fun h=>⟨(I.B h).1,(I.B h).2.1,(((((I.B h).2.2.new kD 0 (I.BD h rfl) _).new kD 1 (I.BD h rfl) _).new kD 2 (I.BD h rfl) _))⟩,fun h=>⟨(I.C h).1,(I.C h).2.1,(((((I.C h).2.2.new kD 0 (I.CD h rfl) _).new kD 1 (I.CD h rfl) _).new kD 2 (I.CD h rfl) _))⟩,I.A6,I.B13,I.C17,I.E,fun _=>⟨rfl,g2,((D.put 0 (zD rfl) _ [.map (some kA),.map none,.map none] rfl).put 1 (zD rfl) _ [.map (some kA),.map (some kB),.map none] rfl).put 2 (zD rfl) _ [.map (some kA),.map (some kB),.map (some kC)] rfl⟩,I.va,I.vb,I.vc,fun _=>⟨rfl,rfl⟩,I.AB,I.AC,I.BC,I.AD,I.BD,I.CD⟩⟩
 ·intro L a wi hr hI
  obtain⟨a0,a2,a5,a6,b7,b9,b12,b13,q14,q16,q17,e18,d19,z20,x7,x10,x14,x15,x19,x20,x22,x23,kA,kB,kC,kD,rfl,rfl,I⟩:=hI
  obtain rfl:a0=true:=by cases a0 with |true=>rfl |false=>exact(AW hr (i:=0) rfl rfl rfl).elim
  obtain rfl:a2=true:=by cases a2 with |true=>rfl |false=>exact(AW hr (i:=2) rfl rfl rfl).elim
  obtain rfl:a5=true:=by cases a5 with |true=>rfl |false=>exact(AW hr (i:=5) rfl rfl rfl).elim
  obtain rfl:a6=true:=by cases a6 with |true=>rfl |false=>exact(AW hr (i:=6) rfl rfl rfl).elim
  obtain rfl:b7=true:=by cases b7 with |true=>rfl |false=>exact(AW hr (i:=7) rfl rfl rfl).elim
  obtain rfl:b9=true:=by cases b9 with |true=>rfl |false=>exact(AW hr (i:=9) rfl rfl rfl).elim
  obtain rfl:b12=true:=by cases b12 with |true=>rfl |false=>exact(AW hr (i:=12) rfl rfl rfl).elim
  obtain rfl:b13=true:=by cases b13 with |true=>rfl |false=>exact(AW hr (i:=13) rfl rfl rfl).elim
  obtain rfl:q14=true:=by cases q14 with |true=>rfl |false=>exact(AW hr (i:=14) rfl rfl rfl).elim
  obtain rfl:q16=true:=by cases q16 with |true=>rfl |false=>exact(AW hr (i:=16) rfl rfl rfl).elim
  obtain rfl:q17=true:=by cases q17 with |true=>rfl |false=>exact(AW hr (i:=17) rfl rfl rfl).elim
  obtain rfl:e18=true:=by cases e18 with |true=>rfl |false=>exact(AW hr (i:=18) rfl rfl rfl).elim
  obtain rfl:d19=true:=by cases d19 with |true=>rfl |false=>exact(AW hr (i:=19) rfl rfl rfl).elim
  obtain rfl:z20=true:=by cases z20 with |true=>rfl |false=>exact(AW hr (i:=20) rfl rfl rfl).elim
  have gA:=(I.A rfl).2.1;have gB:=(I.B rfl).2.1;have gC:=(I.C rfl).2.1;have gD:=(I.D rfl).2.1
  obtain⟨e10,-⟩:=I.A rfl;obtain⟨e15,-⟩:=I.B rfl;obtain⟨e20,-⟩:=I.C rfl;obtain⟨e14,-⟩:=I.A6 rfl;obtain⟨e19,-⟩:=I.B13 rfl;obtain⟨e22,-⟩:=I.C17 rfl;obtain⟨e23,-⟩:=I.E rfl;obtain⟨e7,-⟩:=I.D rfl
  subst e10 e15 e20 e14 e19 e22 e23 e7
  refine VI hKK1 ?_
  exact cont1 _ _ _ _ _ _ _ _ _ _ _ _ _ _ _ kA kB kC kD (Ad.trans K1 (Ad.of_below I.bel)) (F1.below I.bel) (A1.below I.bel) (I.A rfl).2.2 (I.B rfl).2.2 (I.C rfl).2.2 (I.D rfl).2.2 (by omega) (by omega) (by omega) (by omega) (by omega) (by omega) (by omega) (by omega) (by omega) (by omega) (by omega) (by omega) (I.AB rfl rfl) (I.AC rfl rfl) (I.AD rfl rfl) (I.BC rfl rfl) (I.BD rfl rfl) (I.CD rfl rfl)
 ·exact⟨false,false,false,false,false,false,false,false,false,false,false,false,false,false,undef,undef,undef,undef,undef,undef,undef,undef,0,0,0,0,rfl,rfl,⟨Below.refl _ _,(fun h=>by cases h),(fun h=>by cases h),(fun h=>by cases h),(fun h=>by cases h),(fun h=>by cases h),(fun h=>by cases h),(fun h=>by cases h),(fun h=>by cases h),(fun h=>by rcases h with h |h<;>cases h),(fun h=>by rcases h with h |h<;>cases h),(fun h=>by cases h),(fun h=>by cases h),(fun h=>by cases h),(fun h=>by cases h),(fun h=>by cases h),(fun h=>by cases h),(fun h=>by cases h),(fun h=>by cases h)⟩⟩
end
section
open Go.RowKit
def roT:List (Ct Zm):=[G7,G8,G9]
def roF(u v n:Int)(d:Nat->Value):List Value:=Kl [(0,ptr 0),(1,.int .i64 u),(2,.int .i64 v),(6,ptr 1),(7,ptr 2),(8,.int .i64 n)] d 54
def roE(u v:Int)(d:Nat->Value):List Value:=vset (((roF u v 7 d).set 13 (.int .i64 7)).set 14 (.bool false)) (.tmp 14) false
def roM(fl:Bool)(g h:Nat->Int):Xm:=[[.bool fl],r7 (fun _=>0)++r7 (fun _=>0),r7 g++r7 h]
def roO:Ov:=fun id=>match id with
 |3=>some (Du Zm roT (fun _=>[]) 3 [0,1,2,6,7,8] 54 3)
 |5=>some (Du Zm roT (fun _=>[]) 5 [0,1,2,6,7,8] 54 3)
 |_=>none
def roL(P:Program):Code:=Bd (O6 3++[false,true]) (An P 222)
def roX(P:Program):Code:=Bd [false,false] (roL P)
def roB(P:Program):Code:=Bd (O6 4) (An P 222)
def roQ(Q:VQ):VQ:=fun e vt m=>match e with
 | .normal=>Ao Zm roT (fun _=>[]) 9 roO (roB Zm) (Q) (vt) (m)
 |e=>Q e vt m
theorem ALo(Q:VQ)(vt:List Value)(m:Xm):roQ Q .normal vt m=Ao Zm roT (fun _=>[]) 9 roO (roB Zm) Q vt m:=by unfold roQ;rfl
theorem Aqb(u v:Int)(fl:Bool)(Q:VQ):Ao Zm roT (fun _=>[]) 9 roO (An Zm 222) Q ([ptr 0,.int .i64 u,.int .i64 v]++List.replicate ((Ba Zm 222).ntmps-3) undef) [[.bool fl]]=
    (54=54/\true=true/\∀D,Ao Zm roT (fun _=>[]) 9 roO (roL Zm) (roQ Q) (roF u v 1 D) (roM fl (updF (fun _=>0) 0 1099511627776) (fun _=>0))):=by kernel_rfl
theorem Axy(Q:VQ)(vt:List Value)(m:Xm):Ao Zm roT (fun _=>[]) 9 roO (roL Zm) (Q) (vt) (m)=AS 9 (Ao Zm roT (fun _=>[]) 9 roO (roX Zm)) (lxB 0 Q) vt m:=by kernel_rfl
theorem APe{k:Nat}(hk:k<6)(u v:Int)(g h:Nat->Int)(fl:Bool)(D:Nat->Value)(Q:VQ):Ao Zm roT (fun _=>[]) 9 roO (roX Zm) (Q) (roF u v (k+1:Nat) D) (roM fl g h)=
    (54=54/\true=true/\∀D,Q .normal (roF u v ((k+1:Nat)+1) D) (roM (eaR fl u v (g k) (h k)).2 (updF g (k+1) (eaR fl u v (g k) (h k)).1.1) (updF h (k+1) (eaR fl u v (g k) (h k)).1.2))):=by
 obtain rfl |rfl |rfl |rfl |rfl |rfl:k=0∨k=1∨k=2∨k=3∨k=4∨k=5:=by omega
 all_goals kernel_rfl
theorem APf(u v:Int)(g h:Nat->Int)(fl:Bool)(D:Nat->Value)(Q:VQ):Ao Zm roT (fun _=>[]) 9 roO (roX Zm) (Q) (roF u v 7 D) (roM fl g h)=Q (.exit 0) (roE u v D) (roM fl g h):=by kernel_rfl
theorem Axz(u v:Int)(g h:Nat->Int)(fl:Bool)(D:Nat->Value)(Post:Value->Option Bool->Prop):Ao Zm roT (fun _=>[]) 9 roO (roB Zm) (Bz Zm (Ba Zm 222) (fun v m=>Post v (Ck m))) (roE u v D) (roM fl g h)=Post (.agg (r7 g++r7 h).toArray) (some fl):=by kernel_rfl
theorem ALp(B:Nat)(w:World):D5 Zm roO [B] w [] [some B] (An Zm 222):=by
 refine CV (ns:=[(3,Cg Zm 222 3,false),(5,Cg Zm 222 5,false)]) (by kernel_rfl) ?_
 intro r hr
 simp only[Zu,Zq,or_false]at hr
 rcases hr with rfl |rfl
 all_goals
  intro R hR K Q bl vt m a w h r hK
  cases hR
  exact By xmixA (show 1<=3 by decide) h r hK
theorem ABn(u v:Int)(g:Nat->Int)(T:∀m,m<6->Nonempty (V6 (g m) (g (7+m)) u v (g (m+1)) (g (8+m))))(Q:VQ)(hQ:∀d,Q (.exit 0) (roE u v d) (roM false (CY g 6) (CY (fun i=>g (7+i)) 6))):
    ∀(j k f:Nat),k+j=6->j<f->∀d,AS f (Ao Zm roT (fun _=>[]) 9 roO (roX Zm)) Q (roF u v (k+1:Nat) d) (roM false (CY g k) (CY (fun i=>g (7+i)) k))
 |j,k,0,_,hf,_=>by omega
 |0,k,f+1,hk,_,d=>by
  have e:k=6:=by omega
  subst e
  have:=APf u v (CY g 6) (CY (fun i=>g (7+i)) 6) false d
  rw[AS,show((6+1:Nat):Int)=7 from rfl,this]
  exact hQ d
 |j+1,k,f+1,hk,hf,d=>by
  obtain⟨W⟩:=T k (by omega)
  rw[AS,APe (by omega),IK g (Zt k),IK (fun i=>g (7+i)) (Zt k),Ap0 W]
  refine⟨rfl,rfl,fun d'=>?_⟩
  dsimp only
  rw[OY,Q6]
  exact ABn u v g T Q hQ j (k+1) f (by omega) (by omega) d'
theorem Y7(b:Nat)(u v:Int)(g:Nat->Int)(w:World)(hw:Fl b false w)(hg:GW w)(hb:1<b)(e0:g 0=1099511627776)(e7:g 7=0)(T:∀m,m<6->Nonempty (V6 (g m) (g (7+m)) u v (g (m+1)) (g (8+m)))):
    Calls Zm 222 #[.pointer (some ⟨b,0,none⟩),.int .i64 u,.int .i64 v] w fun e w'=>e=.returned (.agg #[.int .i64 (g 0),.int .i64 (g 1),.int .i64 (g 2),.int .i64 (g 3),.int .i64 (g 4),.int .i64 (g 5),.int .i64 (g 6),.int .i64 (g 7),.int .i64 (g 8),.int .i64 (g 9),.int .i64 (g 10),.int .i64 (g 11),.int .i64 (g 12),.int .i64 (g 13)])/\Fl b false w'/\Ad b w w':=by
 refine Fc (d:=Ac cI (Aa cI)) (x:=(u,v)) (bad:=false) (tbl:=roT) (dirty:=fun _=>[]) (n:=9) (ov:=roO) xmixA (by kernel_rfl) (by kernel_rfl) ALp ?_ b w hg hb hw
 refine Eq.mpr (Aqb u v false _) ⟨rfl,rfl,fun d=>?_⟩
 have e:roM false (updF (fun _=>0) 0 1099511627776) (fun _=>0)=roM false (CY g 0) (CY (fun i=>g (7+i)) 0):=by rw[OZ g e0,<-Q7 (fun i=>g (7+i)) e7]
 rw[Axy,e]
 refine ABn u v g T _ (fun d1=>?_) 6 0 9 rfl (by decide) d
 rw[KM,ALo]
 exact Eq.mpr (Axz u v _ _ false d1 (fun v f=>v=_/\f=some false)) ⟨rfl,rfl⟩
def ALq:Ct Zm:=Ak Zm 211 (Ac cI (Aa cI)) (fun bad x=>AA bad x.1 x.2) cI (Ae Tryz.func211 (by kernel_rfl) (by kernel_rfl)) (fun b bad x w _ _ hw=>DK b bad x.1 x.2 w hw)
def ALr:Ct Zm:=Ak Zm 135 (Ac cI (Ac cI (Aa cI))) (fun bad x=>Ar bad x.1 x.2.1 x.2.2) cI (Ae Tryz.func135 (by kernel_rfl) (by kernel_rfl)) (fun b bad x w _ _ hw=>Kj b bad x.1 x.2.1 x.2.2 w hw)
def Y8:Ct Zm:=Ak Zm 121 Mi (fun _ _=>((),true)) cU (Ae Tryz.func121 (by kernel_rfl) (by kernel_rfl)) (fun b bad _ w _ _ hw=>BA b bad w hw)
theorem Aqc:Ai Zm 46 (Aa cV3) (fun bad x=>vNormS bad x) cI:=AZ (tbl:=[ALr]) (dirty:=fun _=>[]) (n:=2) xmixA Tryz.func46 rfl (fun bad x Post=>by kernel_rfl)
def AGi:Ct Zm:=Ak Zm 46 (Aa cV3) (fun bad x=>vNormS bad x) cI (Ae Tryz.func46 (by kernel_rfl) (by kernel_rfl)) Aqc
theorem AGj:Ai Zm 240 (Aa cV3) (fun bad x=>vUnitS bad x) cV3:=AZ (tbl:=[ALq,Y8,AGi]) (dirty:=fun _=>[]) (n:=4) xmixA Tryz.func240 rfl (fun bad x Post=>by
    refine Eq.trans (b:=?m) ?x (Eq.symm ?y)
    case y=>unfold vUnitS;simp only[<-Hj (K:=PK cV3 Post)];exact rfl
    case x=>kernel_rfl)
theorem Ma(b:Nat)(bad:Bool)(p:V3)(w:World)(hw:Fl b bad w)(hg:GW w)(hb:1<b):
    Calls Zm 46 #[.pointer (some ⟨b,0,none⟩),.agg #[.int .i64 p.1,.int .i64 p.2.1,.int .i64 p.2.2]] w fun e w'=>e=.returned (.int .i64 ((vNormS bad p).1))/\Fl b (vNormS bad p).2 w'/\Ad b w w':=Aqc b bad p w hg hb hw
theorem Ag2(b:Nat)(bad:Bool)(p:V3)(w:World)(hw:Fl b bad w)(hg:GW w)(hb:1<b):
    Calls Zm 240 #[.pointer (some ⟨b,0,none⟩),.agg #[.int .i64 p.1,.int .i64 p.2.1,.int .i64 p.2.2]] w fun e w'=>e=.returned (.agg #[.int .i64 ((vUnitS bad p).1.1),.int .i64 ((vUnitS bad p).1.2.1),.int .i64 ((vUnitS bad p).1.2.2)])/\Fl b (vUnitS bad p).2 w'/\Ad b w w':=AGj b bad p w hg hb hw
theorem Y9(b:Nat)(p:V3)(t r x y z:Int)(E:GP p t r x y z)(w:World)(hw:Fl b false w)(hG0:AN 0 (row 54 Eu) w)(hG1:AN 1 (row 10 Gk) w)(hb:1<b)(hr:vNormS false p=(r,false))(c1:¬r<6597069766656)(c2:¬r>10995116277760)(ht:cRight t=true):
    Calls Zm 133 #[.pointer (some ⟨b,0,none⟩),.agg #[.int .i64 p.1,.int .i64 p.2.1,.int .i64 p.2.2],.int .i64 t] w fun e w'=>e=.returned (.agg #[.int .i64 x,.int .i64 y,.int .i64 z])/\Fl b false w'/\Ad b w w':=by
 have hl:=hw.lies
 have l_0:=hG0.lies
 have l_1:=hG1.lies
 go_enter Tryz.func133,Tryz.ntmps133
 have y1_BF:=hw.lies
 have y1_G0:=hG0.lies
 have y1_G1:=hG1.lies
 have y2_BF:b<w.heap.size+1:=(Zv hw.lies)
 have y2_G0:0<w.heap.size+1:=(Zv hG0.lies)
 have y2_G1:1<w.heap.size+1:=(Zv hG1.lies)
 have y2_B0:w.heap.size<w.heap.size+1:=by omega
 go_wp2_with fail
 refine(Ma b false p _ ((hw.alloc _).alloc _) ⟨(hG0.alloc _).alloc _,(hG1.alloc _).alloc _⟩ hb).mono ?_
 rintro e w1 ⟨rfl,f1,k1⟩
 rw[hr]at f1 ⊢
 dsimp only at f1 ⊢
 have K1:Ad b w w1:=Ad.trans (((Ad.refl b w).al _).al _) k1
 have G0_1:=((hG0.alloc _).alloc _).kept k1 (by omega)
 have G1_1:=((hG1.alloc _).alloc _).kept k1 (by omega)
 have B0_1:=((AH _ w.heap.size [.int .i64 p.1,.int .i64 p.2.1,.int .i64 p.2.2] _ (by simp)).alloc _).kept k1 (zG y1_BF)
 have B1_1:=(AH _ (w.heap.size+1) [.int .i64 0,.int .i64 0,.int .i64 0] _ (by simp)).kept k1 (zG y2_BF)
 have z1:=B1_1.lies
 clear hG0 hG1 k1
 go_wp2_with fail
 refine(B4 t _).mono ?_
 rintro e w2 ⟨rfl,k2⟩
 rw[ht]
 try dsimp only
 have K2:Ad b w w2:=Ad.trans K1 (Ad.of_below k2)
 have BF_2:=f1.below k2
 have G0_2:=G0_1.below k2
 have G1_2:=G1_1.below k2
 have B0_2:=B0_1.below k2
 have B1_2:=B1_1.below k2
 have z2:=B1_2.lies
 clear K1 f1 G0_1 G1_1 B0_1 B1_1 k2
 have c3_B0_0:w2.cell? ⟨w.heap.size,0,none⟩=some (.int .i64 p.1):=B0_2.c 0 (zD rfl)
 have c3_B0_1:w2.cell? ⟨w.heap.size,1,none⟩=some (.int .i64 p.2.1):=B0_2.c 1 (zD rfl)
 go_wp2_with fail
 refine(Ma b false (p.1,p.2.1,0) _ BF_2 ⟨G0_2,G1_2⟩ hb).mono ?_
 rintro e w3 ⟨rfl,f3,k3⟩
 rw[E.hw]at f3 ⊢
 dsimp only at f3 ⊢
 have K3:=Ad.trans K2 k3
 have G0_3:=G0_2.kept k3 (by omega)
 have G1_3:=G1_2.kept k3 (by omega)
 have B0_3:=B0_2.kept k3 (zG y1_BF)
 have B1_3:=B1_2.kept k3 (zG y2_BF)
 have z3:=B1_3.lies
 clear c3_B0_0 c3_B0_1 K2 BF_2 G0_2 G1_2 B0_2 B1_2 k3
 have c4_B0_2:w3.cell? ⟨w.heap.size,2,none⟩=some (.int .i64 p.2.2):=B0_3.c 2 (zD rfl)
 go_wp2_with fail
 refine(DK b false p.2.2 r _ f3).mono ?_
 rintro e w4 ⟨rfl,f4,k4⟩
 rw[E.hc]at f4 ⊢
 dsimp only at f4 ⊢
 have K4:=Ad.trans K3 k4
 have G0_4:=G0_3.kept k4 (by omega)
 have G1_4:=G1_3.kept k4 (by omega)
 have B0_4:=B0_3.kept k4 (zG y1_BF)
 have B1_4:=B1_3.kept k4 (zG y2_BF)
 have z4:=B1_4.lies
 clear c4_B0_2 K3 f3 G0_3 G1_3 B0_3 B1_3 k4
 go_wp2_with fail
 refine(DK b false E.wn r _ f4).mono ?_
 rintro e w5 ⟨rfl,f5,k5⟩
 rw[E.hs]at f5 ⊢
 dsimp only at f5 ⊢
 have K5:=Ad.trans K4 k5
 have G0_5:=G0_4.kept k5 (by omega)
 have G1_5:=G1_4.kept k5 (by omega)
 have B0_5:=B0_4.kept k5 (zG y1_BF)
 have B1_5:=B1_4.kept k5 (zG y2_BF)
 have z5:=B1_5.lies
 clear K4 f4 G0_4 G1_4 B0_4 B1_4 k5
 have c6_B0_0:w5.cell? ⟨w.heap.size,0,none⟩=some (.int .i64 p.1):=B0_5.c 0 (zD rfl)
 have c6_B0_1:w5.cell? ⟨w.heap.size,1,none⟩=some (.int .i64 p.2.1):=B0_5.c 1 (zD rfl)
 have c6_B0_2:w5.cell? ⟨w.heap.size,2,none⟩=some (.int .i64 p.2.2):=B0_5.c 2 (zD rfl)
 go_wp2_with fail
 refine(Axw b false p E.wn _ f5 _ _ rfl E.hl).mono ?_
 rintro e w6 ⟨rfl,f6,k6⟩
 rw[E.hl]at f6 ⊢
 dsimp only at f6 ⊢
 have K6:=Ad.trans K5 k6
 have G0_6:=G0_5.kept k6 (by omega)
 have G1_6:=G1_5.kept k6 (by omega)
 have B0_6:=B0_5.kept k6 (zG y1_BF)
 have B1_6:=B1_5.kept k6 (zG y2_BF)
 have z6:=B1_6.lies
 clear c6_B0_0 c6_B0_1 c6_B0_2 K5 f5 G0_5 G1_5 B0_5 B1_5 k6
 go_wp2_with fail
 refine(DK b false 7005208482886 r _ f6).mono ?_
 rintro e w7 ⟨rfl,f7,k7⟩
 rw[E.hq]at f7 ⊢
 dsimp only at f7 ⊢
 have K7:=Ad.trans K6 k7
 have G0_7:=G0_6.kept k7 (by omega)
 have G1_7:=G1_6.kept k7 (by omega)
 have B0_7:=B0_6.kept k7 (zG y1_BF)
 have B1_7:=B1_6.kept k7 (zG y2_BF)
 have z7:=B1_7.lies
 clear K6 f6 G0_6 G1_6 B0_6 B1_6 k7
 go_wp2_with fail
 refine(Y7 b E.u E.v E.g _ f7 ⟨G0_7,G1_7⟩ hb E.g0 E.g7 E.W).mono ?_
 rintro e w8 ⟨rfl,f8,k8⟩
 have K8:=Ad.trans K7 k8
 have G0_8:=G0_7.kept k8 (by omega)
 have G1_8:=G1_7.kept k8 (by omega)
 have B0_8:=B0_7.kept k8 (zG y1_BF)
 have B1_8:=B1_7.kept k8 (zG y2_BF)
 have z8_BF:=f8.lies
 have z8_G0:=G0_8.lies
 have z8_G1:=G1_8.lies
 have z8_B0:=B0_8.lies
 have z8_B1:=B1_8.lies
 clear K7 f7 G0_7 G1_7 B0_7 B1_7 k8
 go_wp2_with fail
 refine(Y6 b E.c E.s E.P E.D E.Q E.Z E.ic E.is _ f8).mono ?_
 rintro e w9 ⟨kA,kB,kC,rfl,f9,SA_9,SB_9,SC_9,gA,gB,gC,nAB,nAC,nBC,k9⟩
 have K9:=Ad.trans K8 k9
 have G0_9:=G0_8.kept k9 (by omega)
 have G1_9:=G1_8.kept k9 (by omega)
 have B0_9:=B0_8.kept k9 (zG y1_BF)
 have B1_9:=B1_8.kept k9 (zG y2_BF)
 have z9_BF:=f9.lies
 have z9_G0:=G0_9.lies
 have z9_G1:=G1_9.lies
 have z9_B0:=B0_9.lies
 have z9_B1:=B1_9.lies
 have z9_SA:=SA_9.lies
 have z9_SB:=SB_9.lies
 have z9_SC:=SC_9.lies
 clear K8 f8 G0_8 G1_8 B0_8 B1_8 k9
 go_wp2_with fail
 refine(Ap8 E b kA kB kC _ f9 SA_9 SB_9 SC_9 G0_9 G1_9 (by omega) (by omega) (by omega) (by omega)).mono ?_
 rintro e w10 ⟨rfl,f10,k10⟩
 have K10:=Ad.trans K9 k10
 have G0_10:=G0_9.kept k10 (by omega)
 have G1_10:=G1_9.kept k10 (by omega)
 have B0_10:=B0_9.kept k10 (zG y1_BF)
 have B1_10:=B1_9.kept k10 (zG y2_BF)
 have SA_10:Mp kA 50 (AF E.P 6 0) w10:=SA_9.kept k10 (by omega)
 have SB_10:Mp kB 50 (AF E.D 6 0) w10:=SB_9.kept k10 (by omega)
 have SC_10:Mp kC 50 (AF E.Q 6 0) w10:=SC_9.kept k10 (by omega)
 have z10_BF:=f10.lies
 have z10_G0:=G0_10.lies
 have z10_G1:=G1_10.lies
 have z10_B0:=B0_10.lies
 have z10_B1:=B1_10.lies
 have z10_SA:=SA_10.lies
 have z10_SB:=SB_10.lies
 have z10_SC:=SC_10.lies
 clear K9 f9 G0_9 G1_9 B0_9 B1_9 SA_9 SB_9 SC_9 k10
 go_wp2_with fail
 refine(Aw b false ((E.st 7 0).1) E.s _ f10).mono ?_
 rintro e w11 ⟨rfl,f11,k11⟩
 rw[E.V.h1]at f11 ⊢
 dsimp only at f11 ⊢
 have K11:=Ad.trans K10 k11
 have G0_11:=G0_10.kept k11 (by omega)
 have G1_11:=G1_10.kept k11 (by omega)
 have B0_11:=B0_10.kept k11 (zG y1_BF)
 have B1_11:=B1_10.kept k11 (zG y2_BF)
 have SA_11:Mp kA 50 (AF E.P 6 0) w11:=SA_10.kept k11 (by omega)
 have SB_11:Mp kB 50 (AF E.D 6 0) w11:=SB_10.kept k11 (by omega)
 have SC_11:Mp kC 50 (AF E.Q 6 0) w11:=SC_10.kept k11 (by omega)
 have z11:=B1_11.lies
 clear K10 f10 G0_10 G1_10 B0_10 B1_10 SA_10 SB_10 SC_10 k11
 go_wp2_with fail
 refine(Aw b false ((E.st 7 0).2.1) E.c _ f11).mono ?_
 rintro e w12 ⟨rfl,f12,k12⟩
 rw[E.V.h2]at f12 ⊢
 dsimp only at f12 ⊢
 have K12:=Ad.trans K11 k12
 have G0_12:=G0_11.kept k12 (by omega)
 have G1_12:=G1_11.kept k12 (by omega)
 have B0_12:=B0_11.kept k12 (zG y1_BF)
 have B1_12:=B1_11.kept k12 (zG y2_BF)
 have SA_12:Mp kA 50 (AF E.P 6 0) w12:=SA_11.kept k12 (by omega)
 have SB_12:Mp kB 50 (AF E.D 6 0) w12:=SB_11.kept k12 (by omega)
 have SC_12:Mp kC 50 (AF E.Q 6 0) w12:=SC_11.kept k12 (by omega)
 have z12:=B1_12.lies
 clear K11 f11 G0_11 G1_11 B0_11 B1_11 SA_11 SB_11 SC_11 k12
 go_wp2_with fail
 refine(DJ b false E.V.v1 E.V.v2 _ f12).mono ?_
 rintro e w13 ⟨rfl,f13,k13⟩
 rw[E.V.h3]at f13 ⊢
 dsimp only at f13 ⊢
 have K13:=Ad.trans K12 k13
 have G0_13:=G0_12.kept k13 (by omega)
 have G1_13:=G1_12.kept k13 (by omega)
 have B0_13:=B0_12.kept k13 (zG y1_BF)
 have B1_13:=B1_12.kept k13 (zG y2_BF)
 have SA_13:Mp kA 50 (AF E.P 6 0) w13:=SA_12.kept k13 (by omega)
 have SB_13:Mp kB 50 (AF E.D 6 0) w13:=SB_12.kept k13 (by omega)
 have SC_13:Mp kC 50 (AF E.Q 6 0) w13:=SC_12.kept k13 (by omega)
 have z13:=B1_13.lies
 clear K12 f12 G0_12 G1_12 B0_12 B1_12 SA_12 SB_12 SC_12 k13
 go_wp2_with fail
 refine(Aw b false E.V.a E.u _ f13).mono ?_
 rintro e w14 ⟨rfl,f14,k14⟩
 rw[E.V.h4]at f14 ⊢
 dsimp only at f14 ⊢
 have K14:=Ad.trans K13 k14
 have G0_14:=G0_13.kept k14 (by omega)
 have G1_14:=G1_13.kept k14 (by omega)
 have B0_14:=B0_13.kept k14 (zG y1_BF)
 have B1_14:=B1_13.kept k14 (zG y2_BF)
 have SA_14:Mp kA 50 (AF E.P 6 0) w14:=SA_13.kept k14 (by omega)
 have SB_14:Mp kB 50 (AF E.D 6 0) w14:=SB_13.kept k14 (by omega)
 have SC_14:Mp kC 50 (AF E.Q 6 0) w14:=SC_13.kept k14 (by omega)
 have z14:=B1_14.lies
 clear K13 f13 G0_13 G1_13 B0_13 B1_13 SA_13 SB_13 SC_13 k14
 go_wp2_with fail
 refine(Aw b false ((E.st 7 0).2.2) E.v _ f14).mono ?_
 rintro e w15 ⟨rfl,f15,k15⟩
 rw[E.V.h5]at f15 ⊢
 dsimp only at f15 ⊢
 have K15:=Ad.trans K14 k15
 have G0_15:=G0_14.kept k15 (by omega)
 have G1_15:=G1_14.kept k15 (by omega)
 have B0_15:=B0_14.kept k15 (zG y1_BF)
 have B1_15:=B1_14.kept k15 (zG y2_BF)
 have SA_15:Mp kA 50 (AF E.P 6 0) w15:=SA_14.kept k15 (by omega)
 have SB_15:Mp kB 50 (AF E.D 6 0) w15:=SB_14.kept k15 (by omega)
 have SC_15:Mp kC 50 (AF E.Q 6 0) w15:=SC_14.kept k15 (by omega)
 have z15:=B1_15.lies
 clear K14 f14 G0_14 G1_14 B0_14 B1_14 SA_14 SB_14 SC_14 k15
 go_wp2_with fail
 refine(Eg b false E.V.v4 E.V.v5 _ f15).mono ?_
 rintro e w16 ⟨rfl,f16,k16⟩
 rw[E.V.h6]at f16 ⊢
 dsimp only at f16 ⊢
 have K16:=Ad.trans K15 k16
 have G0_16:=G0_15.kept k16 (by omega)
 have G1_16:=G1_15.kept k16 (by omega)
 have B0_16:=B0_15.kept k16 (zG y1_BF)
 have B1_16:=B1_15.kept k16 (zG y2_BF)
 have SA_16:Mp kA 50 (AF E.P 6 0) w16:=SA_15.kept k16 (by omega)
 have SB_16:Mp kB 50 (AF E.D 6 0) w16:=SB_15.kept k16 (by omega)
 have SC_16:Mp kC 50 (AF E.Q 6 0) w16:=SC_15.kept k16 (by omega)
 have z16:=B1_16.lies
 clear K15 f15 G0_15 G1_15 B0_15 B1_15 SA_15 SB_15 SC_15 k16
 go_wp2_with fail
 refine(Aw b false E.V.a E.v _ f16).mono ?_
 rintro e w17 ⟨rfl,f17,k17⟩
 rw[E.V.h7]at f17 ⊢
 dsimp only at f17 ⊢
 have K17:=Ad.trans K16 k17
 have G0_17:=G0_16.kept k17 (by omega)
 have G1_17:=G1_16.kept k17 (by omega)
 have B0_17:=B0_16.kept k17 (zG y1_BF)
 have B1_17:=B1_16.kept k17 (zG y2_BF)
 have SA_17:Mp kA 50 (AF E.P 6 0) w17:=SA_16.kept k17 (by omega)
 have SB_17:Mp kB 50 (AF E.D 6 0) w17:=SB_16.kept k17 (by omega)
 have SC_17:Mp kC 50 (AF E.Q 6 0) w17:=SC_16.kept k17 (by omega)
 have z17:=B1_17.lies
 clear K16 f16 G0_16 G1_16 B0_16 B1_16 SA_16 SB_16 SC_16 k17
 go_wp2_with fail
 refine(Aw b false ((E.st 7 0).2.2) E.u _ f17).mono ?_
 rintro e w18 ⟨rfl,f18,k18⟩
 rw[E.V.h8]at f18 ⊢
 dsimp only at f18 ⊢
 have K18:=Ad.trans K17 k18
 have G0_18:=G0_17.kept k18 (by omega)
 have G1_18:=G1_17.kept k18 (by omega)
 have B0_18:=B0_17.kept k18 (zG y1_BF)
 have B1_18:=B1_17.kept k18 (zG y2_BF)
 have SA_18:Mp kA 50 (AF E.P 6 0) w18:=SA_17.kept k18 (by omega)
 have SB_18:Mp kB 50 (AF E.D 6 0) w18:=SB_17.kept k18 (by omega)
 have SC_18:Mp kC 50 (AF E.Q 6 0) w18:=SC_17.kept k18 (by omega)
 have z18:=B1_18.lies
 clear K17 f17 G0_17 G1_17 B0_17 B1_17 SA_17 SB_17 SC_17 k18
 go_wp2_with fail
 refine(DJ b false E.V.v7 E.V.v8 _ f18).mono ?_
 rintro e w19 ⟨rfl,f19,k19⟩
 rw[E.V.h9]at f19 ⊢
 dsimp only at f19 ⊢
 have K19:=Ad.trans K18 k19
 have G0_19:=G0_18.kept k19 (by omega)
 have G1_19:=G1_18.kept k19 (by omega)
 have B0_19:=B0_18.kept k19 (zG y1_BF)
 have B1_19:=B1_18.kept k19 (zG y2_BF)
 have SA_19:Mp kA 50 (AF E.P 6 0) w19:=SA_18.kept k19 (by omega)
 have SB_19:Mp kB 50 (AF E.D 6 0) w19:=SB_18.kept k19 (by omega)
 have SC_19:Mp kC 50 (AF E.Q 6 0) w19:=SC_18.kept k19 (by omega)
 have z19:=B1_19.lies
 clear K18 f18 G0_18 G1_18 B0_18 B1_18 SA_18 SB_18 SC_18 k19
 go_wp2_with fail
 refine(Aw b false ((E.st 7 0).1) E.c _ f19).mono ?_
 rintro e w20 ⟨rfl,f20,k20⟩
 rw[E.V.h10]at f20 ⊢
 dsimp only at f20 ⊢
 have K20:=Ad.trans K19 k20
 have G0_20:=G0_19.kept k20 (by omega)
 have G1_20:=G1_19.kept k20 (by omega)
 have B0_20:=B0_19.kept k20 (zG y1_BF)
 have B1_20:=B1_19.kept k20 (zG y2_BF)
 have SA_20:Mp kA 50 (AF E.P 6 0) w20:=SA_19.kept k20 (by omega)
 have SB_20:Mp kB 50 (AF E.D 6 0) w20:=SB_19.kept k20 (by omega)
 have SC_20:Mp kC 50 (AF E.Q 6 0) w20:=SC_19.kept k20 (by omega)
 have z20:=B1_20.lies
 clear K19 f19 G0_19 G1_19 B0_19 B1_19 SA_19 SB_19 SC_19 k20
 go_wp2_with fail
 refine(Aw b false ((E.st 7 0).2.1) E.s _ f20).mono ?_
 rintro e w21 ⟨rfl,f21,k21⟩
 rw[E.V.h11]at f21 ⊢
 dsimp only at f21 ⊢
 have K21:=Ad.trans K20 k21
 have G0_21:=G0_20.kept k21 (by omega)
 have G1_21:=G1_20.kept k21 (by omega)
 have B0_21:=B0_20.kept k21 (zG y1_BF)
 have B1_21:=B1_20.kept k21 (zG y2_BF)
 have SA_21:Mp kA 50 (AF E.P 6 0) w21:=SA_20.kept k21 (by omega)
 have SB_21:Mp kB 50 (AF E.D 6 0) w21:=SB_20.kept k21 (by omega)
 have SC_21:Mp kC 50 (AF E.Q 6 0) w21:=SC_20.kept k21 (by omega)
 have z21:=B1_21.lies
 clear K20 f20 G0_20 G1_20 B0_20 B1_20 SA_20 SB_20 SC_20 k21
 go_wp2_with fail
 refine(Eg b false E.V.v10 E.V.v11 _ f21).mono ?_
 rintro e w22 ⟨rfl,f22,k22⟩
 rw[E.V.h12]at f22 ⊢
 dsimp only at f22 ⊢
 have K22:=Ad.trans K21 k22
 have G0_22:=G0_21.kept k22 (by omega)
 have G1_22:=G1_21.kept k22 (by omega)
 have B0_22:=B0_21.kept k22 (zG y1_BF)
 have B1_22:=B1_21.kept k22 (zG y2_BF)
 have SA_22:Mp kA 50 (AF E.P 6 0) w22:=SA_21.kept k22 (by omega)
 have SB_22:Mp kB 50 (AF E.D 6 0) w22:=SB_21.kept k22 (by omega)
 have SC_22:Mp kC 50 (AF E.Q 6 0) w22:=SC_21.kept k22 (by omega)
 have z22:=B1_22.lies
 clear K21 f21 G0_21 G1_21 B0_21 B1_21 SA_21 SB_21 SC_21 k22
 have c23_B1_0:w22.cell? ⟨w.heap.size+1,0,none⟩=some (.int .i64 0):=B1_22.c 0 (zD rfl)
 have c23_B1_1:w22.cell? ⟨w.heap.size+1,1,none⟩=some (.int .i64 0):=B1_22.c 1 (zD rfl)
 have c23_B1_2:w22.cell? ⟨w.heap.size+1,2,none⟩=some (.int .i64 0):=B1_22.c 2 (zD rfl)
 have g23_B1_0:=B1_22.f 0 (zD rfl)
 have g23_B1_1:=B1_22.f 1 (zD rfl)
 have g23_B1_2:=B1_22.f 2 (zD rfl)
 go_wp2_with (with_reducible refine BJ ?_)
 refine Stop.mk ?_
 clear c23_B1_0 c23_B1_1 c23_B1_2 g23_B1_0 g23_B1_1 g23_B1_2
 refine bodyPost_ret (v:=.agg #[.int .i64 x,.int .i64 y,.int .i64 z]) (Eo Tryz.results133 (((B1_22.put 0 (zD rfl) (.int .i64 x) [.int .i64 x,.int .i64 0,.int .i64 0] rfl).put 1 (zD rfl) (.int .i64 y) [.int .i64 x,.int .i64 y,.int .i64 0] rfl).put 2 (zD rfl) (.int .i64 z) [.int .i64 x,.int .i64 y,.int .i64 z] rfl) rfl (by kernel_rfl) (by kernel_rfl)) rfl ?_
 exact⟨rfl,(((f22.new (w.heap.size+1) 0 (zL y2_BF) (.int .i64 x)).new (w.heap.size+1) 1 (zL y2_BF) (.int .i64 y)).new (w.heap.size+1) 2 (zL y2_BF) (.int .i64 z)),(((K22.new _ _ (by omega) _).new _ _ (by omega) _).new _ _ (by omega) _)⟩
end
section
open Go.RowKit
def gxR:Ct Zm:=Aq Zm 9 (Aa cI) cRight cB (Ae Tryz.func9 (by kernel_rfl) (by kernel_rfl)) (fun x w _=>B4 x w)
def gxO:Ov:=fun id=>match id with
 |5=>some (fun _ _ _ _ _=>False)
 |_=>none
theorem AGk(p:V3)(t:Int)(bad:Bool)(Post:Value->Option Bool->Prop):Ao Zm [AGi,gxR,Y8] (fun _=>[]) 4 gxO (An Zm 133) (Bz Zm (Ba Zm 133) (fun v m=>Post v (Ck m))) ((ptr 0::(Ac cV3 (Aa cI)).enc (p,t))++List.replicate ((Ba Zm 133).ntmps-(ptr 0::(Ac cV3 (Aa cI)).enc (p,t)).length) undef) [[.bool bad]]=
    AE (decide ((vNormS bad p).1<6597069766656)) (Post MJ (some true)) (AE (decide ((vNormS bad p).1>10995116277760)) (Post MJ (some true)) (AE (!cRight t) (Post MJ (some true)) False)):=by kernel_rfl
theorem ALs(B:Nat)(w:World):D5 Zm gxO [B] w [] [some B] (An Zm 133):=by
 refine CV (ns:=[(5,Cg Zm 133 5,false)]) (by kernel_rfl) ?_
 intro r hr
 simp only[Zu,Zq,or_false]at hr
 subst hr
 intro R hR K Q bl vt m a w h r hK
 cases hR
 exact h.elim
theorem Tz{p:V3}{t:Int}{bad:Bool}(h:(vNormS bad p).1<6597069766656∨(vNormS bad p).1>10995116277760∨cRight t=false)(b:Nat)(w:World)(hw:Fl b bad w)(hg:GW w)(hb:1<b):
    Calls Zm 133 #[.pointer (some ⟨b,0,none⟩),.agg #[.int .i64 p.1,.int .i64 p.2.1,.int .i64 p.2.2],.int .i64 t] w fun e w'=>e=.returned (.agg #[.int .i64 0,.int .i64 0,.int .i64 0])/\Fl b true w'/\Ad b w w':=by
 refine Fc (d:=Ac cV3 (Aa cI)) (x:=(p,t)) (bad:=bad) (bad':=true) (u:=MJ) (tbl:=[AGi,gxR,Y8]) (dirty:=fun _=>[]) (n:=4) (ov:=gxO) xmixA (by kernel_rfl) (by kernel_rfl) ALs (Eq.mpr (AGk p t bad (fun v f=>v=MJ/\f=some true)) ?_) b w hg hb hw
 by_cases c1:(vNormS bad p).1<6597069766656
 ·rw[decide_eq_true c1];exact⟨rfl,rfl⟩
 rw[decide_eq_false c1]
 by_cases c2:(vNormS bad p).1>10995116277760
 ·rw[decide_eq_true c2];exact⟨rfl,rfl⟩
 rw[decide_eq_false c2,(h.resolve_left c1).resolve_left c2]
 exact⟨rfl,rfl⟩
theorem Ag3(b:Nat)(bad:Bool)(p:V3)(t:Int)(w:World)(hw:Fl b bad w)(hG0:AN 0 (row 54 Eu) w)(hG1:AN 1 (row 10 Gk) w)(hb:1<b):
    Calls Zm 133 #[.pointer (some ⟨b,0,none⟩),.agg #[.int .i64 p.1,.int .i64 p.2.1,.int .i64 p.2.2],.int .i64 t] w fun e w'=>e=.returned (.agg #[.int .i64 (D3 bad p t).1.1,.int .i64 (D3 bad p t).1.2.1,.int .i64 (D3 bad p t).1.2.2])/\Fl b (D3 bad p t).2 w'/\Ad b w w':=by
 cases bad with
 |true=>
  rw[LY]
  exact Tz (Or.inl (by rw[Yd p];decide)) b w hw ⟨hG0,hG1⟩ hb
 | false=>
  by_cases h:KL p t
  ·obtain⟨⟨E⟩,_⟩:=Y2 h
   rw[Acu h]
   obtain⟨g,r0,r1,t0,t1⟩:=h
   exact Y9 b p t _ _ _ _ E w hw hG0 hG1 hb (Prod.ext rfl g) (by omega) (by omega) (CZ t0 t1)
  ·rw[Wg h]
   by_cases c1:(JE p).1<6597069766656
   ·exact Tz (Or.inl c1) b w hw ⟨hG0,hG1⟩ hb
   by_cases c2:(JE p).1>10995116277760
   ·exact Tz (Or.inr (Or.inl c2)) b w hw ⟨hG0,hG1⟩ hb
   have g:(JE p).2=false:=by
    cases q:(JE p).2 with
    |false=>rfl
    |true=>have z:(JE p).1=0:=LH false _ _ _ q;omega
   exact Tz (Or.inr (Or.inr (Ec (fun k=>h ⟨g,by omega,by omega,k.1,k.2⟩)))) b w hw ⟨hG0,hG1⟩ hb
end
namespace Nx
open Go.RowKit Go.Proofs.YtoadcnhcfodkgaaGreatDoor
theorem d3v(rest:List Value)(h:Aj (G2 []) [rI 3,uI] rest):∃x,(Ac cV3 (Aa cI)).enc x=rest:=by
 match rest,h with
 |[a,b],⟨ha,⟨y,hb⟩,_⟩=>
  obtain⟨x,ex⟩:=Afu 3 a ha
  refine⟨((x.1,x.2.1,x.2.2.1),y),?_⟩
  rw[hb,<-ex]
  rfl
theorem Ag4:Ai Zm 133 (Ac cV3 (Aa cI)) (fun bad x=>D3 bad x.1 x.2) cV3:=fun b bad x w hg hb hw=>Ag3 b bad x.1 x.2 w hw hg.1 hg.2 hb
theorem Ag5(bad:Bool)(p:V3)(t:Int)(h:(D3 bad p t).2=true):(D3 bad p t).1=(0,0,0):=by
 rcases Agr bad p t with e |⟨_,_,e⟩
 ·rw[e]
 ·rw[e]at h
  cases h
theorem Ag6:∃g,BY Zm (fun d=>bif d then 78 else 133) [rI 3,uI] (rI 3) 5 g:=by
 have key:∀rest:List Value,∃x:V3×Int,Aj (G2 []) [rI 3,uI] rest->(Ac cV3 (Aa cI)).enc x=rest:=fun rest=>by
  by_cases h:Aj (G2 []) [rI 3,uI] rest
  ·obtain⟨x,hx⟩:=d3v rest h
   exact⟨x,fun _=>hx⟩
  ·exact⟨((0,0,0),0),fun k=>absurd k h⟩
 obtain⟨pk,hpk⟩:∃pk:List Value->V3×Int,∀rest,Aj (G2 []) [rI 3,uI] rest->(Ac cV3 (Aa cI)).enc (pk rest)=rest:=⟨fun rest=>Classical.choose (key rest),fun rest h=>Classical.choose_spec (key rest) h⟩
 refine⟨fun _ b rest=>(cV3.enc (D3 b (pk rest).1 (pk rest).2).1,(D3 b (pk rest).1 (pk rest).2).2),fun s b rest hc=>?_,fun rest hc=>⟨rfl,fun _=>rfl⟩,⟨fun e=>(by omega),fun e=>(by omega),fun e=>(by omega),fun e=>(by omega)⟩,⟨fun e=>(by omega),fun e=>(by omega),fun e=>(by omega)⟩⟩
 ·have hx:=hpk rest hc
  dsimp only
  generalize pk rest=x at hx ⊢
  subst hx
  refine⟨⟨fun _=>⟨(Ac cV3 (Aa cI)).np x,cV3.np _,fun k w hg h1 hw=>?_⟩,fun e=>(by omega)⟩,fun e=>?_,?_,fun e=>(by omega),fun e=>(by omega),fun _ e=>?_,fun e=>(by omega)⟩
  ·cases s
   ·exact Ag4 k b x w hg h1 hw
   ·exact Agu k b x w hg h1 hw
  ·rw[e,LY]
  ·exact⟨_,rfl,⟨_,rfl⟩,⟨_,rfl⟩,⟨_,rfl⟩,trivial⟩
  ·rw[Ag5 _ _ _ e]
   rfl
def Ax0:Pr Zm:=Oe 133 78 (by decide+kernel) (by decide+kernel) Ag6
theorem Ax1:∃g,BY Zm (fun d=>bif d then 22 else 44) [rI 3,uI] (rI 3) 0 g:=AP xmixA (B6 [AEm,Abe,Abd,Hc,Jj,Jk,Ax0]) (B7 (ks:=[0,0,0,2,1,6,5]) rfl) rfl (xa:=[]) (xb:=[]) (da:=fun _=>[]) (db:=fun _=>[]) (n:=8) (kk:=0) (by decide+kernel)
theorem sky_ag:∃f g,Ai Zm 44 (Ac (cT 3) (Aa cI)) f (cT 3)/\Ai Zm 22 (Ac (cT 3) (Aa cI)) g (cT 3)/\Ag f g:=
 Kv Ax1 (by decide) _ _ (fun x=>⟨Ij 3 x.1,⟨x.2,rfl⟩,trivial⟩) (Afu 3)
end Nx
section
open Go.RowKit Go.Maps Go.WideMaps
theorem Nh:Keyed Zm 286:=Keyed.of_law (deep_law (m:=2) (by omega) (by kernel_rfl) (by kernel_rfl) (by kernel_rfl))
theorem Aqd(w:World):(zeroValue 3).run Zm w=.ok (.int .i64 0) w:=by kernel_rfl
theorem Ag7:∃m,Zm.types.size=m+1:=⟨Zm.types.size-1,by have h:0<Zm.types.size:=of_decide_eq_true (by kernel_rfl);omega⟩
theorem O9{n m:Int}(hn:Cq n)(hm:Cq m):keyOf Zm 286 (.agg #[.int .i64 n,.int .i64 m])=some (kyl n m):=by
 have hkt:Zm.keyType 286=true:=by kernel_rfl
 have hsz:Zm.cellsOf 286=2:=by kernel_rfl
 have h1:Zm.cellsOf 3=1:=by kernel_rfl
 obtain⟨k,hk⟩:=Ag7
 unfold keyOf kyl
 simp only[Tryz.underlying286]
 rw[if_pos (by simp[hkt,Value.formed,Tryz.underlying286,hsz]),hk]
 unfold Program.keyLits
 simp only[Tryz.underlying286,Value.cells]
 simp[h1,hsz,Program.keyLits,Tryz.underlying3,hn.wf,hm.wf]
structure Mm(k c:Nat)(f:Int->Int->Int)(w:World):Prop where
 own:∃D:DataW Unit,w.ownsMap Zm 286 (plainElem Zm 3) k c D/\∀n m,Cq n->Cq m->D.atKey (kyl n m) (.lit (.int .i64 0))=.lit (.int .i64 (f n m))
 lies:k<w.heap.size
theorem Ax2{n m n' m':Int}(hn:Cq n)(hm:Cq m)(hn':Cq n')(hm':Cq m')(h:kyl n m=kyl n' m'):n=n'/\m=m':=by
 have a:=O9 hn hm
 rw[h]at a
 have e:=Nh.inj a (O9 hn' hm')
 simp at e
 exact e
theorem Ax3{n m:Int}(hn:Cq n)(hm:Cq m):WideAt.IsKeyLit (kyl n m):=Nh.key (O9 hn hm)
theorem Mm.mono{k c c':Nat}{f:Int->Int->Int}{w:World}(h:Mm k c f w)(hc:c<=c'):Mm k c' f w:=by
 obtain⟨D,o,at_⟩:=h.own
 exact⟨⟨D,o.mono hc,at_⟩,h.lies⟩
theorem Mm.eqv{k c:Nat}{f g:Int->Int->Int}{w:World}(h:Mm k c f w)(e:∀n m,f n m=g n m):Mm k c g w:=by
 obtain rfl:f=g:=by funext n m;exact e n m
 exact h
theorem Mm.look{k c:Nat}{f:Int->Int->Int}{w:World}(h:Mm k c f w){n m:Int}(hn:Cq n)(hm:Cq m):(Instr.lookup 283 (.map (some k)) (.agg #[.int .i64 n,.int .i64 m]) false).run Zm w=.ok (.int .i64 (f n m)) w:=by
 obtain⟨D,o,at_⟩:=h.own
 obtain⟨c,hr,hat,_⟩:=o.lookup_int Nh Tryz.underlying283 Tryz.underlying3 (Aqd w) (O9 hn hm)
 rw[at_ n m hn hm]at hat
 injection hat with hat
 injection hat with _ hat
 rw[hr,hat]
theorem Mm.store{k c:Nat}{f:Int->Int->Int}{w:World}(h:Mm k c f w)(hc:c<1000){n m v:Int}(hn:Cq n)(hm:Cq m)(hv:Cq v):
    ∃w',(Instr.mapUpdate 283 (.map (some k)) (.agg #[.int .i64 n,.int .i64 m]) (.int .i64 v)).run Zm w=.ok () w'/\Mm k (c+1) (AR f n m v) w'/\Ad k w w':=by
 obtain⟨D,o,at_⟩:=h.own
 have hmap:IsMap D:=by obtain⟨_,_,_,_,_,rfl⟩:=o;exact⟨_,rfl⟩
 obtain⟨w',hr,o',g⟩:=o.update Nh Tryz.underlying283 (by unfold maxLen;omega) (O9 hn hm) (plainElem_int Tryz.underlying3 hv.wf)
 refine⟨w',hr,⟨⟨_,o',fun n' m' hn' hm'=>?_⟩,Zs h.lies g.size⟩,⟨g.os,g.tape,g.output,g.size,fun i hi hb=>g.block i hi (fun e=>hb (Option.some.inj e))⟩⟩
 unfold AR
 by_cases e:n'=n/\m'=m
 ·rw[if_pos e,e.1,e.2,atKey_put_same hmap (Ax3 hn hm)]
 ·rw[if_neg e,atKey_put_other (fun h=>e (Ax2 hn' hm' hn hm h)),at_ n' m' hn' hm']
theorem Mm.made(w:World)(n:Nat)(hn:n=w.heap.size):Mm n 0 (fun _ _=>0) (w.alloc (.map #[] 0)):=by
 subst hn
 exact⟨⟨_,World.ownsMap_made w _ _ _,fun _ _ _ _=>rfl⟩,by simp⟩
theorem Pb{ops:Array Oper}{op:Oper}{a:Act}{w:World}{K:Act->World->Prop}{Q:Exit->Act->World->Prop}{x y z:Operand}{k c:Nat}{f:Int->Int->Int}{n m v:Int}(hw:Region.wanted op (yielded ops a.tmps)=true)
    (ho:op.op=.insert 283 x y z) (hx:a.eval x=.map (some k)) (hy:a.eval y=.agg #[.int .i64 n,.int .i64 m]) (hz:a.eval z=.int .i64 v) (M:Mm k c f w) (hc:c<1000) (hn:Cq n) (hm:Cq m) (hv:Cq v)
    (h:∀w',Mm k (c+1) (AR f n m v) w'->Ad k w w'->K (a.put op.dst undef) w'):if Region.wanted op (yielded ops a.tmps)=true then Oper.wp Zm op a w K Q else K (a.put op.dst undef) w:=by
 rw[if_pos hw]
 obtain⟨w',hr,M',k'⟩:=M.store hc hn hm hv
 unfold Oper.wp
 simp[execOp,ho,hx,hy,hz,hr,Result.andThen]
 exact h w' M' k'
def Mu(c2 c4 c6 c8 c10:Bool):Int->Int->Int:=fun n m=>if (c2=true/\n=1/\m=1)∨(c4=true/\n=2/\m=1)∨(c6=true/\n=2/\m=4)∨(c8=true/\n=2/\m=2)∨(c10=true/\n=2/\m=8)then 1 else 0
theorem Aqe(n m:Int):(0:Int)=Mu false false false false false n m:=by unfold Mu;simp
theorem ALt(c4 c6 c8 c10:Bool)(n m:Int):AR (Mu false c4 c6 c8 c10) 1 1 1 n m=Mu true c4 c6 c8 c10 n m:=by
 unfold AR Mu
 by_cases h:n=1/\m=1
 ·rw[if_pos h];simp[h]
 ·rw[if_neg h];simp[h]
theorem ALu(c2 c6 c8 c10:Bool)(n m:Int):AR (Mu c2 false c6 c8 c10) 2 1 1 n m=Mu c2 true c6 c8 c10 n m:=by
 unfold AR Mu
 by_cases h:n=2/\m=1
 ·rw[if_pos h];simp[h]
 ·rw[if_neg h];simp[h]
theorem ALv(c2 c4 c8 c10:Bool)(n m:Int):AR (Mu c2 c4 false c8 c10) 2 4 1 n m=Mu c2 c4 true c8 c10 n m:=by
 unfold AR Mu
 by_cases h:n=2/\m=4
 ·rw[if_pos h];simp[h]
 ·rw[if_neg h];simp[h]
theorem ALw(c2 c4 c6 c10:Bool)(n m:Int):AR (Mu c2 c4 c6 false c10) 2 2 1 n m=Mu c2 c4 c6 true c10 n m:=by
 unfold AR Mu
 by_cases h:n=2/\m=2
 ·rw[if_pos h];simp[h]
 ·rw[if_neg h];simp[h]
theorem AGl(c2 c4 c6 c8:Bool)(n m:Int):AR (Mu c2 c4 c6 c8 false) 2 8 1 n m=Mu c2 c4 c6 c8 true n m:=by
 unfold AR Mu
 by_cases h:n=2/\m=8
 ·rw[if_pos h];simp[h]
 ·rw[if_neg h];simp[h]
structure LI(w0:World)(m0 c2 c4 c6 c8 c10 v11 r12:Bool)(x0 x1 x7:Value)(k:Nat)(w:World):Prop where
 bel:Below w0.heap.size w0 w
 A:m0=true->x1=.map (some k)/\w0.heap.size<=k/\Mm k (c2.toNat+c4.toNat+c6.toNat+c8.toNat+c10.toNat) (Mu c2 c4 c6 c8 c10) w
 va:m0=false->c2=false/\c4=false/\c6=false/\c8=false/\c10=false/\v11=false
 V:v11=true->x7=.map (some k)/\c2=true/\c4=true/\c6=true/\c8=true/\c10=true
 R:r12=true->x0=.map (some k)/\v11=true
theorem Ag8(w:World):Calls Zm 250 #[] w fun e w'=>∃k,e=.returned (.map (some k))/\w.heap.size<=k/\Mm k 5 (Mu true true true true true) w'/\Below w.heap.size w w':=by
 go_enter Tryz.func250,Tryz.ntmps250
 go_wp2_with fail
 refine VH (fun KK hKK=>?_)
 have cont:∀(W:World) (k:Nat) (y1 y2 y3 y4 y5 y6 y7:Value),Below w.heap.size w W->w.heap.size<=k->Mm k 5 (Mu true true true true true) W->KK {tmps:=#[.map (some k),y1,y2,y3,y4,y5,y6,y7],defers:=[]} W:=by
  intro W k y1 y2 y3 y4 y5 y6 y7 b1 hk M
  rw[hKK.out]
  dsimp only[Exit.inBlock,Exit.then]
  first |refine VJ (by assumption) ?_ |skip
  go_wp2_with (with_reducible refine BJ ?_)
  exact⟨bodyPost_ret (v:=.map (some k)) (by simp[results,Tryz.results250,go_sem]) rfl ⟨k,rfl,hk,M,b1⟩⟩
 refine wp_region_held_drew (S:=fun _=>True) (by kernel_rfl) trivial (fun zH=>?_)
 refine zT 1 rfl (by kernel_rfl) (fun _ _ _=>id) rfl (fun _ _=>by go_simp<;>with_reducible rfl) zH ?_
 simp only[Act.put,zA,zB,zC]
 refine zT 3 rfl (by kernel_rfl) (fun _ _ _=>id) rfl (fun _ _=>by go_simp<;>with_reducible rfl) zH ?_
 simp only[Act.put,zA,zB,zC]
 refine zT 5 rfl (by kernel_rfl) (fun _ _ _=>id) rfl (fun _ _=>by go_simp<;>with_reducible rfl) zH ?_
 simp only[Act.put,zA,zB,zC]
 refine zT 7 rfl (by kernel_rfl) (fun _ _ _=>id) rfl (fun _ _=>by go_simp<;>with_reducible rfl) zH ?_
 simp only[Act.put,zA,zB,zC]
 refine zT 9 rfl (by kernel_rfl) (fun _ _ _=>id) rfl (fun _ _=>by go_simp<;>with_reducible rfl) zH ?_
 simp only[Act.put,zA,zB,zC]
 have K1:Below w.heap.size w w.drew:=⟨rfl,rfl,rfl,Zt _,fun _ _=>rfl⟩
 generalize w.drew=w1 at K1 ⊢
 have l1:=K1.size
 clear zH
 refine OR (fun L a wi=>∃(m0 c2 c4 c6 c8 c10 v11 r12:Bool) (x0 x1 x7:Value) (k:Nat),L=#[m0,true,c2,true,c4,true,c6,true,c8,true,c10,v11,r12]/\a={tmps:=#[x0,x1,.agg #[.int .i64 1,.int .i64 1],.agg #[.int .i64 2,.int .i64 1],.agg #[.int .i64 2,.int .i64 4],.agg #[.int .i64 2,.int .i64 2],.agg #[.int .i64 2,.int .i64 8],x7],defers:=[]}/\LI w1 m0 c2 c4 c6 c8 c10 v11 r12 x0 x1 x7 k wi) ?_ ?_ 8 _ _ _ (by decide) ?_
 ·intro L a wi i o ho hi hI K hK
  obtain⟨m0,c2,c4,c6,c8,c10,v11,r12,x0,x1,x7,k,rfl,rfl,I⟩:=hI
  have hall:=(mem_ready.1 hi).2
  have hun:=(mem_ready.1 hi).1
  have hlt:i<13:=(Zo.1 ho).1
  match i,hlt with
  |0,_=>
   obtain rfl:m0=false:=hun
   clear hall
   cases ho
   obtain⟨rfl,rfl,rfl,rfl,rfl,rfl⟩:=I.va rfl
   go_simp
   refine hK.out _ _ ?_
   exact⟨true,false,false,false,false,false,false,r12,x0,.map (some wi.heap.size),x7,wi.heap.size,rfl,rfl,⟨Cx I.bel _,fun _=>⟨rfl,I.bel.size,(Mm.made wi _ rfl).eqv Aqe⟩,(fun h=>by cases h),(fun h=>by cases h),fun h=>absurd (I.R h).2 (by decide)⟩⟩
  |1,_=>
   exact absurd (show true=false from hun) (by decide)
  |2,_=>
   obtain rfl:c2=false:=hun
   obtain⟨o2,ho2,hall⟩:=hall
   cases ho2
   obtain rfl:m0=true:=hall ⟨0,.data⟩ (by simp) rfl
   clear hall
   cases ho
   obtain⟨e1,g1,M⟩:=I.A rfl
   subst e1
   have hv:v11=false:=by cases v11 with |false=>rfl |true=>(have h:=I.V rfl;simp at h)
   subst hv
   refine Pb (by rfl) rfl rfl rfl rfl M (by cases c4<;>cases c6<;>cases c8<;>cases c10<;>decide) ⟨by decide,by decide⟩ ⟨by decide,by decide⟩ ⟨by decide,by decide⟩ ?_
   intro w2 M1 k1
   simp only[Act.put]
   refine hK.out _ _ ?_
   exact⟨true,true,c4,c6,c8,c10,false,r12,x0,.map (some k),x7,k,rfl,rfl,⟨k1.on I.bel g1,fun _=>⟨rfl,g1,(M1.mono (by cases c4<;>cases c6<;>cases c8<;>cases c10<;>decide)).eqv (ALt _ _ _ _)⟩,(fun h=>by cases h),(fun h=>by cases h),fun h=>absurd (I.R h).2 (by decide)⟩⟩
  |3,_=>
   exact absurd (show true=false from hun) (by decide)
  |4,_=>
   obtain rfl:c4=false:=hun
   obtain⟨o2,ho2,hall⟩:=hall
   cases ho2
   obtain rfl:m0=true:=hall ⟨0,.data⟩ (by simp) rfl
   clear hall
   cases ho
   obtain⟨e1,g1,M⟩:=I.A rfl
   subst e1
   have hv:v11=false:=by cases v11 with |false=>rfl |true=>(have h:=I.V rfl;simp at h)
   subst hv
   refine Pb (by rfl) rfl rfl rfl rfl M (by cases c2<;>cases c6<;>cases c8<;>cases c10<;>decide) ⟨by decide,by decide⟩ ⟨by decide,by decide⟩ ⟨by decide,by decide⟩ ?_
   intro w2 M1 k1
   simp only[Act.put]
   refine hK.out _ _ ?_
   exact⟨true,c2,true,c6,c8,c10,false,r12,x0,.map (some k),x7,k,rfl,rfl,⟨k1.on I.bel g1,fun _=>⟨rfl,g1,(M1.mono (by cases c2<;>cases c6<;>cases c8<;>cases c10<;>decide)).eqv (ALu _ _ _ _)⟩,(fun h=>by cases h),(fun h=>by cases h),fun h=>absurd (I.R h).2 (by decide)⟩⟩
  |5,_=>
   exact absurd (show true=false from hun) (by decide)
  |6,_=>
   obtain rfl:c6=false:=hun
   obtain⟨o2,ho2,hall⟩:=hall
   cases ho2
   obtain rfl:m0=true:=hall ⟨0,.data⟩ (by simp) rfl
   clear hall
   cases ho
   obtain⟨e1,g1,M⟩:=I.A rfl
   subst e1
   have hv:v11=false:=by cases v11 with |false=>rfl |true=>(have h:=I.V rfl;simp at h)
   subst hv
   refine Pb (by rfl) rfl rfl rfl rfl M (by cases c2<;>cases c4<;>cases c8<;>cases c10<;>decide) ⟨by decide,by decide⟩ ⟨by decide,by decide⟩ ⟨by decide,by decide⟩ ?_
   intro w2 M1 k1
   simp only[Act.put]
   refine hK.out _ _ ?_
   exact⟨true,c2,c4,true,c8,c10,false,r12,x0,.map (some k),x7,k,rfl,rfl,⟨k1.on I.bel g1,fun _=>⟨rfl,g1,(M1.mono (by cases c2<;>cases c4<;>cases c8<;>cases c10<;>decide)).eqv (ALv _ _ _ _)⟩,(fun h=>by cases h),(fun h=>by cases h),fun h=>absurd (I.R h).2 (by decide)⟩⟩
  |7,_=>
   exact absurd (show true=false from hun) (by decide)
  |8,_=>
   obtain rfl:c8=false:=hun
   obtain⟨o2,ho2,hall⟩:=hall
   cases ho2
   obtain rfl:m0=true:=hall ⟨0,.data⟩ (by simp) rfl
   clear hall
   cases ho
   obtain⟨e1,g1,M⟩:=I.A rfl
   subst e1
   have hv:v11=false:=by cases v11 with |false=>rfl |true=>(have h:=I.V rfl;simp at h)
   subst hv
   refine Pb (by rfl) rfl rfl rfl rfl M (by cases c2<;>cases c4<;>cases c6<;>cases c10<;>decide) ⟨by decide,by decide⟩ ⟨by decide,by decide⟩ ⟨by decide,by decide⟩ ?_
   intro w2 M1 k1
   simp only[Act.put]
   refine hK.out _ _ ?_
   exact⟨true,c2,c4,c6,true,c10,false,r12,x0,.map (some k),x7,k,rfl,rfl,⟨k1.on I.bel g1,fun _=>⟨rfl,g1,(M1.mono (by cases c2<;>cases c4<;>cases c6<;>cases c10<;>decide)).eqv (ALw _ _ _ _)⟩,(fun h=>by cases h),(fun h=>by cases h),fun h=>absurd (I.R h).2 (by decide)⟩⟩
  |9,_=>
   exact absurd (show true=false from hun) (by decide)
  |10,_=>
   obtain rfl:c10=false:=hun
   obtain⟨o2,ho2,hall⟩:=hall
   cases ho2
   obtain rfl:m0=true:=hall ⟨0,.data⟩ (by simp) rfl
   clear hall
   cases ho
   obtain⟨e1,g1,M⟩:=I.A rfl
   subst e1
   have hv:v11=false:=by cases v11 with |false=>rfl |true=>(have h:=I.V rfl;simp at h)
   subst hv
   refine Pb (by rfl) rfl rfl rfl rfl M (by cases c2<;>cases c4<;>cases c6<;>cases c8<;>decide) ⟨by decide,by decide⟩ ⟨by decide,by decide⟩ ⟨by decide,by decide⟩ ?_
   intro w2 M1 k1
   simp only[Act.put]
   refine hK.out _ _ ?_
   exact⟨true,c2,c4,c6,c8,true,false,r12,x0,.map (some k),x7,k,rfl,rfl,⟨k1.on I.bel g1,fun _=>⟨rfl,g1,(M1.mono (by cases c2<;>cases c4<;>cases c6<;>cases c8<;>decide)).eqv (AGl _ _ _ _)⟩,(fun h=>by cases h),(fun h=>by cases h),fun h=>absurd (I.R h).2 (by decide)⟩⟩
  |11,_=>
   obtain rfl:v11=false:=hun
   obtain⟨o2,ho2,hall⟩:=hall
   cases ho2
   obtain rfl:m0=true:=hall ⟨0,.data⟩ (by simp) rfl
   obtain rfl:c2=true:=hall ⟨2,.data⟩ (by simp) rfl
   obtain rfl:c4=true:=hall ⟨4,.data⟩ (by simp) rfl
   obtain rfl:c6=true:=hall ⟨6,.data⟩ (by simp) rfl
   obtain rfl:c8=true:=hall ⟨8,.data⟩ (by simp) rfl
   obtain rfl:c10=true:=hall ⟨10,.data⟩ (by simp) rfl
   clear hall
   cases ho
   obtain⟨e1,g1,M⟩:=I.A rfl
   subst e1
   go_simp
   refine hK.out _ _ ?_
   exact⟨true,true,true,true,true,true,true,r12,x0,.map (some k),.map (some k),k,rfl,rfl,⟨I.bel,fun _=>⟨rfl,g1,M⟩,(fun h=>by cases h),fun _=>⟨rfl,rfl,rfl,rfl,rfl,rfl⟩,fun h=>⟨(I.R h).1,rfl⟩⟩⟩
  |12,_=>
   obtain rfl:r12=false:=hun
   obtain⟨o2,ho2,hall⟩:=hall
   cases ho2
   obtain rfl:v11=true:=hall ⟨11,.data⟩ (by simp) rfl
   clear hall
   cases ho
   obtain⟨e1,rfl,rfl,rfl,rfl,rfl⟩:=I.V rfl
   subst e1
   go_simp
   refine hK.out _ _ ?_
   exact⟨m0,true,true,true,true,true,true,true,.map (some k),x1,.map (some k),k,rfl,rfl,⟨I.bel,I.A,I.va,I.V,fun _=>⟨rfl,rfl⟩⟩⟩
 ·intro L a wi hr hI
  obtain⟨m0,c2,c4,c6,c8,c10,v11,r12,x0,x1,x7,k,rfl,rfl,I⟩:=hI
  obtain rfl:m0=true:=by cases m0 with |true=>rfl |false=>exact(AW hr (i:=0) rfl rfl rfl).elim
  obtain rfl:c2=true:=by cases c2 with |true=>rfl |false=>exact(AW hr (i:=2) rfl rfl rfl).elim
  obtain rfl:c4=true:=by cases c4 with |true=>rfl |false=>exact(AW hr (i:=4) rfl rfl rfl).elim
  obtain rfl:c6=true:=by cases c6 with |true=>rfl |false=>exact(AW hr (i:=6) rfl rfl rfl).elim
  obtain rfl:c8=true:=by cases c8 with |true=>rfl |false=>exact(AW hr (i:=8) rfl rfl rfl).elim
  obtain rfl:c10=true:=by cases c10 with |true=>rfl |false=>exact(AW hr (i:=10) rfl rfl rfl).elim
  obtain rfl:v11=true:=by cases v11 with |true=>rfl |false=>exact(AW hr (i:=11) rfl rfl rfl).elim
  obtain rfl:r12=true:=by cases r12 with |true=>rfl |false=>exact(AW hr (i:=12) rfl rfl rfl).elim
  obtain⟨e1,g1,M⟩:=I.A rfl
  obtain⟨e0,-⟩:=I.R rfl
  subst e0
  refine VI hKK ?_
  exact cont _ k _ _ _ _ _ _ _ (FQ K1 I.bel) (Nat.le_trans l1 g1) M
 ·exact⟨false,false,false,false,false,false,false,false,_,_,_,0,rfl,rfl,⟨Below.refl _ _,(fun h=>by cases h),fun _=>⟨rfl,rfl,rfl,rfl,rfl,rfl⟩,(fun h=>by cases h),(fun h=>by cases h)⟩⟩
end
section
open Go.RowKit
structure Pl where
 mode:Int
 calm:Int
 good:Int
 miss:Int
 lost:Int
 faults:Int
structure Sn where
 gap:Bool
 gyro:Bool
 slow:Bool
 pair:Bool
 lit:Bool
 bad:Bool
 pass:Bool
 order:Int
def plV(p:Pl):Value:=.agg #[.int .i64 p.mode,.int .i64 p.calm,.int .i64 p.good,.int .i64 p.miss,.int .i64 p.lost,.int .i64 p.faults]
def snV(s:Sn):Value:=.agg #[.bool s.gap,.bool s.gyro,.bool s.slow,.bool s.pair,.bool s.lit,.bool s.bad,.bool s.pass,.int .i64 s.order]
def Za(k:Int)(p:Pl):Pl:=⟨k,0,0,0,0,p.faults⟩
def Dd(x:Int)(p:Pl):Pl:=⟨1,0,0,0,0,bits .or .i64 p.faults x⟩
def Rh(p:Pl)(s:Sn):Pl:=if s.order=2 then⟨0,0,0,0,0,0⟩else p
def cPl:Dc Pl where
 enc p:=plV p
 dec v:=match v with
  | .agg ⟨[.int .i64 a,.int .i64 b,.int .i64 c,.int .i64 d,.int .i64 e,.int .i64 f]⟩=>some ⟨a,b,c,d,e,f⟩
  |_=>none
 law v x h:=by
  split at h
  ·cases h;rfl
  ·cases h
 np _:=rfl
def cSn:Dc Sn where
 enc s:=snV s
 dec v:=match v with
  | .agg ⟨[.bool a,.bool b,.bool c,.bool d,.bool e,.bool f,.bool g,.int .i64 o]⟩=>some ⟨a,b,c,d,e,f,g,o⟩
  |_=>none
 law v x h:=by
  split at h
  ·cases h;rfl
  ·cases h
 np _:=rfl
abbrev Fp:={q:Int×Pl // decide (Mu true true true true true q.2.mode q.1=1)=true}
def lFp:Dl Fp where
 enc q:=[.int .i64 q.1.1,plV q.1.2]
 dec l:=match l with
  |[.int .i64 x,.agg ⟨[.int .i64 a,.int .i64 b,.int .i64 c,.int .i64 d,.int .i64 e,.int .i64 f]⟩]=>if h:decide (Mu true true true true true a x=1)=true then some ⟨(x,⟨a,b,c,d,e,f⟩),h⟩else none
  |_=>none
 law v x h:=by
  split at h
  ·split at h
   ·cases h;rfl
   ·cases h
  ·cases h
 np x v hv:=by
  simp only[Zu,Zq,or_false]at hv
  rcases hv with rfl |rfl<;>rfl
def cP2:Dc {p:Pl // decide (p.mode=2)=true} where
 enc p:=plV p.1
 dec v:=match v with
  | .agg ⟨[.int .i64 a,.int .i64 b,.int .i64 c,.int .i64 d,.int .i64 e,.int .i64 f]⟩=>if h:decide (a=2)=true then some ⟨⟨a,b,c,d,e,f⟩,h⟩else none
  |_=>none
 law v x h:=by
  split at h
  ·split at h
   ·cases h;rfl
   ·cases h
  ·cases h
 np _:=rfl
def Cw(n:Int)(it:Bool):Int:=if it then if 100<=n then 100 else IntKind.i64.wrap (n+1)else 0
def Zb(p:Pl)(s:Sn):Pl:=if 3<=Cw p.calm (s.gyro&&s.slow)then Za 1 p else⟨p.mode,Cw p.calm (s.gyro&&s.slow),p.good,p.miss,p.lost,p.faults⟩
def TA(p:Pl)(s:Sn):Pl:=bif s.gyro&& !s.slow then Za 0 p else if 2<=Cw p.good (s.gyro&&s.pair&&s.lit)then Za 2 p else⟨p.mode,p.calm,Cw p.good (s.gyro&&s.pair&&s.lit),p.miss,p.lost,p.faults⟩
def MK(p:Pl)(s:Sn):Pl:=bif s.bad then Dd 4 p else if 3<=Cw p.lost (!s.gyro)then Dd 2 p else
 bif s.pair&&s.lit then(if 5<=Cw p.miss (!s.pass)then Dd 8 p else⟨p.mode,p.calm,p.good,Cw p.miss (!s.pass),Cw p.lost (!s.gyro),p.faults⟩)else⟨p.mode,p.calm,p.good,p.miss,Cw p.lost (!s.gyro),p.faults⟩
def Pd(p:Pl)(s:Sn):Pl:=if p.mode=3 then Rh p s else if p.mode=0 then Zb p s else
 if p.mode=1 then(bif s.gap then Dd 1 p else TA p s)else if p.mode=2 then(bif s.gap then Dd 1 p else MK p s)else Za 3 p
def nextW(p:Pl)(s:Sn):Pl:=if s.order=1 then Za 3 p else Pd p s
theorem TB(n:Int):Cw n false=0:=rfl
theorem AGm{α:Type}{A B:α}:(if (3:Int)<=0 then A else B)=B:=if_neg (by decide)
theorem Pf:Zm.follows .mixedOrders=true:=by kernel_rfl
theorem Zc:Ah Zm 249 (Ac cI (Aa cB)) (fun x=>Cw x.1 x.2) cI:=Av (tbl:=[]) (dirty:=fun _=>[]) (n:=8) Pf Tryz.func249 rfl (fun x Post=>by
    refine Eq.trans (b:=?m) ?x (Eq.symm ?y)
    case y=>unfold Cw;simp only[<-AX (K:=PJ cI Post),<-Ld (K:=PJ cI Post)];exact rfl
    case x=>kernel_rfl)
def Mb:Ct Zm:=Aq Zm 249 (Ac cI (Aa cB)) (fun x=>Cw x.1 x.2) cI (Ae Tryz.func249 (by kernel_rfl) (by kernel_rfl)) Zc
theorem Ax4:Ah Zm 160 (Ac cI (Aa cPl)) (fun x=>Za x.1 x.2) cPl:=Av (tbl:=[]) (dirty:=fun _=>[]) (n:=8) Pf Tryz.func160 rfl (fun x Post=>by kernel_rfl)
def TC:Ct Zm:=Aq Zm 160 (Ac cI (Aa cPl)) (fun x=>Za x.1 x.2) cPl (Ae Tryz.func160 (by kernel_rfl) (by kernel_rfl)) Ax4
theorem Ax5:Ah Zm 161 (Ac cPl (Aa cSn)) (fun x=>Rh x.1 x.2) cPl:=Av (tbl:=[TC]) (dirty:=fun _=>[]) (n:=8) Pf Tryz.func161 rfl (fun x Post=>by
    refine Eq.trans (b:=?m) ?x (Eq.symm ?y)
    case y=>unfold Rh;simp only[<-Ai3 (K:=PJ cPl Post)];exact rfl
    case x=>kernel_rfl)
def AGn:Ct Zm:=Aq Zm 161 (Ac cPl (Aa cSn)) (fun x=>Rh x.1 x.2) cPl (Ae Tryz.func161 (by kernel_rfl) (by kernel_rfl)) Ax5
theorem AGo:Ah Zm 162 (Ac cPl (Aa cSn)) (fun x=>Zb x.1 x.2) cPl:=Av (tbl:=[Mb,TC]) (dirty:=fun _=>[]) (n:=8) Pf Tryz.func162 rfl (fun x Post=>by
    obtain⟨p,a,b,c,d,e,f,g,o⟩:=x
    refine Eq.trans (b:=?m) ?x (Eq.symm ?y)
    case y=>unfold Zb;simp only[<-AX (K:=PJ cPl Post)];exact rfl
    case x=>cases b<;>cases c<;>kernel_rfl)
def ALx:Ct Zm:=Aq Zm 162 (Ac cPl (Aa cSn)) (fun x=>Zb x.1 x.2) cPl (Ae Tryz.func162 (by kernel_rfl) (by kernel_rfl)) AGo
theorem AGp:Ah Zm 164 (Ac cPl (Aa cSn)) (fun x=>TA x.1 x.2) cPl:=Av (tbl:=[Mb,TC]) (dirty:=fun _=>[]) (n:=8) Pf Tryz.func164 rfl (fun x Post=>by
    obtain⟨p,a,b,c,d,e,f,g,o⟩:=x
    cases b
    · refine Eq.trans (b:=?m1) ?x1 (Eq.symm ?y1)
      case y1=>unfold TA;simp only[Zr,cond_false,<-AX (K:=PJ cPl Post)];exact rfl
      case x1=>kernel_rfl
    cases c
    ·kernel_rfl
    cases d
    · refine Eq.trans (b:=?m2) ?x2 (Eq.symm ?y2)
      case y2=>unfold TA;simp only[Bool.true_and,Zp,Zr,cond_false,<-AX (K:=PJ cPl Post)];exact rfl
      case x2=>kernel_rfl
    cases e
    · refine Eq.trans (b:=?m3) ?x3 (Eq.symm ?y3)
      case y3=>unfold TA;simp only[Bool.true_and,Zp,cond_false,<-AX (K:=PJ cPl Post)];exact rfl
      case x3=>kernel_rfl
    · refine Eq.trans (b:=?m4) ?x4 (Eq.symm ?y4)
      case y4=>unfold TA;simp only[Bool.true_and,Zp,cond_false,<-AX (K:=PJ cPl Post)];exact rfl
      case x4=>kernel_rfl)
def ALy:Ct Zm:=Aq Zm 164 (Ac cPl (Aa cSn)) (fun x=>TA x.1 x.2) cPl (Ae Tryz.func164 (by kernel_rfl) (by kernel_rfl)) AGp
theorem Aqf(k m c g i l f:Int)(w:World):Calls Zm 160 #[.int .i64 k,.agg #[.int .i64 m,.int .i64 c,.int .i64 g,.int .i64 i,.int .i64 l,.int .i64 f]] w fun e w'=>e=.returned (.agg #[.int .i64 k,.int .i64 0,.int .i64 0,.int .i64 0,.int .i64 0,.int .i64 f])/\Below w.heap.size w w':=by
 go_enter Tryz.func160,Tryz.ntmps160
 go_wp2_with (with_reducible refine BJ ?_)
 exact⟨bodyPost_ret (v:=.agg #[.int .i64 k,.int .i64 0,.int .i64 0,.int .i64 0,.int .i64 0,.int .i64 f]) (by simp[results,Tryz.results160,go_sem]) rfl ⟨rfl,Cx (Cx (Below.refl _ _) _) _⟩⟩
theorem Aqg(x m c g i l f:Int)(w:World)(hx:Cq x)(hm:Cq m)(hl:Mu true true true true true m x=1):Calls Zm 163 #[.int .i64 x,.agg #[.int .i64 m,.int .i64 c,.int .i64 g,.int .i64 i,.int .i64 l,.int .i64 f]] w fun e w'=>e=.returned (.agg #[.int .i64 1,.int .i64 0,.int .i64 0,.int .i64 0,.int .i64 0,.int .i64 (bits .or .i64 f x)])/\Below w.heap.size w w':=by
 go_enter Tryz.func163,Tryz.ntmps163
 go_wp2_with fail
 have A0:AN w.heap.size [.int .i64 m,.int .i64 c,.int .i64 g,.int .i64 i,.int .i64 l,.int .i64 (bits .or .i64 f x)] ((w.alloc (.cells #[.int .i64 m,.int .i64 c,.int .i64 g,.int .i64 i,.int .i64 l,.int .i64 (bits .or .i64 f x)] 26)).alloc (.cells #[.int .i64 0,.int .i64 0,.int .i64 0,.int .i64 0,.int .i64 0,.int .i64 0] 26)).drew:=((AH w _ [.int .i64 m,.int .i64 c,.int .i64 g,.int .i64 i,.int .i64 l,.int .i64 (bits .or .i64 f x)] 26 rfl).alloc _).drew
 have A1:AN (w.heap.size+1) [.int .i64 0,.int .i64 0,.int .i64 0,.int .i64 0,.int .i64 0,.int .i64 0] ((w.alloc (.cells #[.int .i64 m,.int .i64 c,.int .i64 g,.int .i64 i,.int .i64 l,.int .i64 (bits .or .i64 f x)] 26)).alloc (.cells #[.int .i64 0,.int .i64 0,.int .i64 0,.int .i64 0,.int .i64 0,.int .i64 0] 26)).drew:=(AH _ _ [.int .i64 0,.int .i64 0,.int .i64 0,.int .i64 0,.int .i64 0,.int .i64 0] 26 (by simp)).drew
 have K0:Below w.heap.size w ((w.alloc (.cells #[.int .i64 m,.int .i64 c,.int .i64 g,.int .i64 i,.int .i64 l,.int .i64 (bits .or .i64 f x)] 26)).alloc (.cells #[.int .i64 0,.int .i64 0,.int .i64 0,.int .i64 0,.int .i64 0,.int .i64 0] 26)).drew:=Below.drew (Cx (Cx (Below.refl _ _) _) _)
 refine wp_region_held_drew (S:=fun w'=>AN w.heap.size [.int .i64 m,.int .i64 c,.int .i64 g,.int .i64 i,.int .i64 l,.int .i64 (bits .or .i64 f x)] w') (by kernel_rfl) A0 (fun zH=>?_)
 generalize ((w.alloc (.cells #[.int .i64 m,.int .i64 c,.int .i64 g,.int .i64 i,.int .i64 l,.int .i64 (bits .or .i64 f x)] 26)).alloc (.cells #[.int .i64 0,.int .i64 0,.int .i64 0,.int .i64 0,.int .i64 0,.int .i64 0] 26)).drew=w0 at *
 refine zT 1 rfl (by kernel_rfl) (fun _ _ _=>id) rfl (fun _ _=>by go_simp<;>with_reducible rfl) zH ?_
 simp only[Act.put,zA,zB,zC]
 refine zT 2 rfl (by kernel_rfl) (fun _ _ _=>id) rfl (fun wx hS=>by have cw_0:wx.cell? ⟨w.heap.size,0,none⟩=some (.int .i64 m):=hS.c 0 (zD rfl);have cw_1:wx.cell? ⟨w.heap.size,1,none⟩=some (.int .i64 c):=hS.c 1 (zD rfl);have cw_2:wx.cell? ⟨w.heap.size,2,none⟩=some (.int .i64 g):=hS.c 2 (zD rfl);have cw_3:wx.cell? ⟨w.heap.size,3,none⟩=some (.int .i64 i):=hS.c 3 (zD rfl);have cw_4:wx.cell? ⟨w.heap.size,4,none⟩=some (.int .i64 l):=hS.c 4 (zD rfl);have cw_5:wx.cell? ⟨w.heap.size,5,none⟩=some (.int .i64 (bits .or .i64 f x)):=hS.c 5 (zD rfl);go_simp<;>with_reducible rfl) zH ?_
 simp only[Act.put,zA,zB,zC]
 refine zT 3 rfl (by kernel_rfl) (fun _ _ _=>id) rfl (fun _ _=>by go_simp<;>with_reducible rfl) zH ?_
 simp only[Act.put,zA,zB,zC]
 refine zT 4 rfl (by kernel_rfl) (fun _ _ _=>id) rfl (fun _ _=>by go_simp<;>with_reducible rfl) zH ?_
 simp only[Act.put,zA,zB,zC]
 refine zT 6 rfl (by kernel_rfl) (fun _ _ _=>id) rfl (fun wx hS=>by have cw_0:wx.cell? ⟨w.heap.size,0,none⟩=some (.int .i64 m):=hS.c 0 (zD rfl);have cw_1:wx.cell? ⟨w.heap.size,1,none⟩=some (.int .i64 c):=hS.c 1 (zD rfl);have cw_2:wx.cell? ⟨w.heap.size,2,none⟩=some (.int .i64 g):=hS.c 2 (zD rfl);have cw_3:wx.cell? ⟨w.heap.size,3,none⟩=some (.int .i64 i):=hS.c 3 (zD rfl);have cw_4:wx.cell? ⟨w.heap.size,4,none⟩=some (.int .i64 l):=hS.c 4 (zD rfl);have cw_5:wx.cell? ⟨w.heap.size,5,none⟩=some (.int .i64 (bits .or .i64 f x)):=hS.c 5 (zD rfl);go_simp<;>with_reducible rfl) zH ?_
 simp only[Act.put,zA,zB,zC]
 refine zK 0 (by kernel_rfl) rfl (fun K hK=>?_)
 go_simp
 refine(Ag8 _).mono ?_
 rintro e w1 ⟨k,rfl,hk,M,b1⟩
 have A0_1:=A0.below b1
 have A1_1:=A1.below b1
 have K1:=FQ K0 b1
 clear zH
 refine hK.out _ _ A0_1 (fun zH=>?_)
 clear hK K A0 A1 K0
 have Lk:=M.look hm hx
 rw[hl]at Lk
 refine zK 5 (by kernel_rfl) rfl (fun K hK=>?_)
 go_simp
 refine hK.out _ _ A0_1 (fun zH=>?_)
 clear hK K Lk
 refine zK 7 (by kernel_rfl) rfl (fun K hK=>?_)
 go_simp
 refine(Aqf 1 m c g i l (bits .or .i64 f x) _).mono ?_
 rintro e w2 ⟨rfl,b2⟩
 have A0_2:=A0_1.below b2
 have A1_2:=A1_1.below b2
 have K2:=FQ K1 b2
 clear zH
 refine hK.out _ _ A0_2 (fun zH=>?_)
 clear hK K A0_1 A1_1 K1
 have cz_0:w2.cell? ⟨(w.heap.size+1),0,none⟩=some (.int .i64 0):=A1_2.c 0 (zD rfl)
 have gz_0:=A1_2.f 0 (zD rfl)
 have cz_1:w2.cell? ⟨(w.heap.size+1),1,none⟩=some (.int .i64 0):=A1_2.c 1 (zD rfl)
 have gz_1:=A1_2.f 1 (zD rfl)
 have cz_2:w2.cell? ⟨(w.heap.size+1),2,none⟩=some (.int .i64 0):=A1_2.c 2 (zD rfl)
 have gz_2:=A1_2.f 2 (zD rfl)
 have cz_3:w2.cell? ⟨(w.heap.size+1),3,none⟩=some (.int .i64 0):=A1_2.c 3 (zD rfl)
 have gz_3:=A1_2.f 3 (zD rfl)
 have cz_4:w2.cell? ⟨(w.heap.size+1),4,none⟩=some (.int .i64 0):=A1_2.c 4 (zD rfl)
 have gz_4:=A1_2.f 4 (zD rfl)
 have cz_5:w2.cell? ⟨(w.heap.size+1),5,none⟩=some (.int .i64 0):=A1_2.c 5 (zD rfl)
 have gz_5:=A1_2.f 5 (zD rfl)
 have l2:=A1_2.lies
 refine zK 8 (by kernel_rfl) rfl (fun K hK=>?_)
 go_simp
 refine hK.out _ _ ((((((A0_2.new (w.heap.size+1) 0 (by omega) (.int .i64 1)).new (w.heap.size+1) 1 (by omega) (.int .i64 0)).new (w.heap.size+1) 2 (by omega) (.int .i64 0)).new (w.heap.size+1) 3 (by omega) (.int .i64 0)).new (w.heap.size+1) 4 (by omega) (.int .i64 0)).new (w.heap.size+1) 5 (by omega) (.int .i64 (bits .or .i64 f x))) (fun zH=>?_)
 refine wpAnyH_done (by kernel_rfl) ?_ _
 have A1_3:=((((((A1_2.put 0 (zD rfl) (.int .i64 1) [.int .i64 1,.int .i64 0,.int .i64 0,.int .i64 0,.int .i64 0,.int .i64 0] rfl).put 1 (zD rfl) (.int .i64 0) [.int .i64 1,.int .i64 0,.int .i64 0,.int .i64 0,.int .i64 0,.int .i64 0] rfl).put 2 (zD rfl) (.int .i64 0) [.int .i64 1,.int .i64 0,.int .i64 0,.int .i64 0,.int .i64 0,.int .i64 0] rfl).put 3 (zD rfl) (.int .i64 0) [.int .i64 1,.int .i64 0,.int .i64 0,.int .i64 0,.int .i64 0,.int .i64 0] rfl).put 4 (zD rfl) (.int .i64 0) [.int .i64 1,.int .i64 0,.int .i64 0,.int .i64 0,.int .i64 0,.int .i64 0] rfl).put 5 (zD rfl) (.int .i64 (bits .or .i64 f x)) [.int .i64 1,.int .i64 0,.int .i64 0,.int .i64 0,.int .i64 0,.int .i64 (bits .or .i64 f x)] rfl)
 have K3:=(CR (CR (CR (CR (CR (CR K2 (w.heap.size+1) 0 (by omega) (.int .i64 1)) (w.heap.size+1) 1 (by omega) (.int .i64 0)) (w.heap.size+1) 2 (by omega) (.int .i64 0)) (w.heap.size+1) 3 (by omega) (.int .i64 0)) (w.heap.size+1) 4 (by omega) (.int .i64 0)) (w.heap.size+1) 5 (by omega) (.int .i64 (bits .or .i64 f x)))
 clear zH hK K
 go_wp2_with (with_reducible refine BJ ?_)
 exact⟨bodyPost_ret (v:=.agg #[.int .i64 1,.int .i64 0,.int .i64 0,.int .i64 0,.int .i64 0,.int .i64 (bits .or .i64 f x)]) (Eo Tryz.results163 A1_3 rfl (by kernel_rfl) (by kernel_rfl)) rfl ⟨rfl,K3⟩⟩
theorem Aqh{m x:Int}(h:decide (Mu true true true true true m x=1)=true):Cq x/\Cq m/\Mu true true true true true m x=1:=by
 have h:=of_decide_eq_true h
 refine⟨?_,?_,h⟩
 all_goals
  unfold Mu at h
  split at h
  ·rename_i c
   exact⟨by omega,by omega⟩
  ·omega
theorem Ax6:Ah Zm 163 lFp (fun q=>Dd q.1.1 q.1.2) cPl:=fun q w _=>Aqg q.1.1 q.1.2.mode q.1.2.calm q.1.2.good q.1.2.miss q.1.2.lost q.1.2.faults w (Aqh q.2).1 (Aqh q.2).2.1 (Aqh q.2).2.2
def Aqi:Ct Zm:=Aq Zm 163 lFp (fun q=>Dd q.1.1 q.1.2) cPl (Ae Tryz.func163 (by kernel_rfl) (by kernel_rfl)) Ax6
theorem AGq:Ah Zm 165 (Ac cP2 (Aa cSn)) (fun x=>MK x.1.1 x.2) cPl:=Av (tbl:=[Mb,Aqi]) (dirty:=fun _=>[]) (n:=8) Pf Tryz.func165 rfl (fun x Post=>by
    obtain⟨⟨⟨M,c,g,i,l,f⟩,hM⟩,a,gyro,b,pair,lit,bad,pass,o⟩:=x
    have hM:=of_decide_eq_true hM
    dsimp only at hM
    subst hM
    cases bad
    · cases gyro
      · cases pair
        · refine Eq.trans (b:=?m21) ?x21 (Eq.symm ?y21)
          case y21=>unfold MK Dd;simp only[cond_false,Bool.not_false,Zr,<-AX (K:=PJ cPl Post)];exact rfl
          case x21=>kernel_rfl
        cases lit
        · refine Eq.trans (b:=?m22) ?x22 (Eq.symm ?y22)
          case y22=>unfold MK Dd;simp only[cond_false,Bool.not_false,Bool.and_false,<-AX (K:=PJ cPl Post)];exact rfl
          case x22=>kernel_rfl
        · refine Eq.trans (b:=?m23) ?x23 (Eq.symm ?y23)
          case y23=>unfold MK Dd;simp only[cond_false,cond_true,Bool.not_false,Bool.and_true,<-AX (K:=PJ cPl Post)];exact rfl
          case x23=>kernel_rfl
      · cases pair
        · refine Eq.trans (b:=?m24) ?x24 (Eq.symm ?y24)
          case y24=>unfold MK Dd;simp only[cond_false,Zp,Zr,TB,AGm];exact rfl
          case x24=>kernel_rfl
        cases lit
        · refine Eq.trans (b:=?m25) ?x25 (Eq.symm ?y25)
          case y25=>unfold MK Dd;simp only[cond_false,Zp,Bool.and_false,TB,AGm];exact rfl
          case x25=>kernel_rfl
        · refine Eq.trans (b:=?m26) ?x26 (Eq.symm ?y26)
          case y26=>unfold MK Dd;simp only[cond_false,cond_true,Zp,Bool.and_true,TB,AGm,<-AX (K:=PJ cPl Post)];exact rfl
          case x26=>kernel_rfl
    · show _=_
      kernel_rfl)
def ALz:Ct Zm:=Aq Zm 165 (Ac cP2 (Aa cSn)) (fun x=>MK x.1.1 x.2) cPl (Ae Tryz.func165 (by kernel_rfl) (by kernel_rfl)) AGq
theorem Ax7:Ah Zm 53 (Ac cPl (Aa cSn)) (fun x=>nextW x.1 x.2) cPl:=Av (tbl:=[TC,AGn,ALx,Aqi,ALy,ALz]) (dirty:=fun _=>[]) (n:=8) Pf Tryz.func53 rfl (fun x Post=>by
    obtain⟨⟨M,c,g,i,l,f⟩,gap,gyro,slow,pair,lit,bad,pass,o⟩:=x
    refine Eq.trans (b:=AE (decide (o=1)) (PJ cPl Post (Za 3 ⟨M,c,g,i,l,f⟩)) (PJ cPl Post (Pd ⟨M,c,g,i,l,f⟩ ⟨gap,gyro,slow,pair,lit,bad,pass,o⟩))) ?x Ja
    rcases M with n |n
    · rcases n with _ |_ |_ |_ |n
      ·show _=_;kernel_rfl
      ·cases gap<;>(show _=_;kernel_rfl)
      ·cases gap<;>(show _=_;kernel_rfl)
      ·show _=_;kernel_rfl
      ·show _=_;kernel_rfl
    ·show _=_;kernel_rfl)
end
section
open Go.RowKit
def bt(s:ByteArray)(i:Nat):Nat:=(s.data.toList.getD i 0).toNat
theorem Fg(s:ByteArray)(i:Nat):bt s i<256:=UInt8.toNat_lt _
theorem AL0{s:ByteArray}{i:Nat}(h:i<s.size):(s[i]'h).toNat=bt s i:=by
 have hl:i<s.data.toList.length:=h
 unfold bt
 rw[Zn,List.getElem?_eq_getElem hl]
 rfl
def cnt(s:ByteArray)(i:Nat):Nat:=bt s i*256+bt s (i+1)
theorem Do(s:ByteArray)(i:Nat):cnt s i<65536:=by
 have:=Fg s i
 have:=Fg s (i+1)
 unfold cnt
 omega
def sg(n:Nat):Int:=if 32768<=n then(n:Int)-65536 else n
theorem TD{n:Nat}(h:n<65536):-32768<=sg n/\sg n<=32767:=by
 unfold sg
 split<;>omega
def tickK(s:ByteArray):Nat->Nat
 |0=>0
 |k+1=>tickK s k*256+bt s k
theorem Pg(s:ByteArray):∀k,tickK s k<256^k
 |0=>by show 0<1;decide
 |k+1=>by
  have h:=Pg s k
  have:=Fg s k
  show tickK s k*256+bt s k<256^k*256
  omega
theorem Aqj(s:ByteArray){k:Nat}(h:k<=6):tickK s k<281474976710656:=
 Zs (Pg s k) (show 256^k<=256^6 from Nat.pow_le_pow_right (by decide) h)
def CM(s:ByteArray):Int:=(tickK s 6:Nat)
theorem IL{s:ByteArray}{i n:Nat}(h:i<n):bt (s.extract 0 n) i=bt s i:=by
 unfold bt
 rw[Lib.extract_data]
 simp[Zn,h]
theorem TE{s:ByteArray}{i n:Nat}:bt (s.extract n s.size) i=bt s (n+i):=by
 unfold bt
 rw[Lib.extract_data,List.take_of_length_le (by rw[List.length_drop];exact Zt _)]
 simp[Zn]
theorem Ag9(s:ByteArray):CM (s.extract 0 6)=CM s:=by
 unfold CM
 simp only[tickK]
 rw[IL (by decide),IL (by decide),IL (by decide),IL (by decide),IL (by decide),IL (by decide)]
theorem Wh{s:ByteArray}{i:Nat}:cnt (s.extract 6 s.size) i=cnt s (6+i):=by
 unfold cnt
 rw[TE,TE,Nat.add_assoc]
theorem APi{a b:Nat}(ha:a<1099511627776)(hb:b<256):bits .or .i64 ((a:Int)*256) (b:Int)=((a*256+b:Nat):Int):=by
 rw[show(a:Int)*256=((a*256:Nat):Int)by omega]
 show IntKind.i64.wrap ((BitVec.ofInt 64 ((a*256:Nat):Int)|||BitVec.ofInt 64 (b:Int)).toNat:Int)=_
 have e:=Nat.two_pow_add_eq_or_of_lt (i:=8) (show b<2^8 by omega) a
 rw[BitVec.toNat_or,ofInt_u64 _ (by omega),ofInt_u64 b (by omega),show a*256=2^8*a by omega,<-e]
 rw[IntKind.wrap_i64]
 omega
theorem APj{a b:Nat}(ha:a<256)(hb:b<256):bits .or .u16 ((a:Int)*256) (b:Int)=((a*256+b:Nat):Int):=by
 rw[show(a:Int)*256=((a*256:Nat):Int)by omega,u16_or_nat (a*256) b (by omega) (by omega)]
 have:=Nat.two_pow_add_eq_or_of_lt (i:=8) (show b<2^8 by omega) a
 rw[show a*256=2^8*a by omega,<-this]
def DW(a:Int):Bool:=decide (-30000<=a/\a<=30000)
def DX(a b c:Int):Bool:=DW a&&DW b&&DW c
def Wi(a b c:Int):V3:=(a*33554432,b*33554432,c*33554432)
def KN(a b c:Int):V3×Bool:=
 let r0:=Af false 1099511627776 a 100
 let r1:=Af r0.2 1099511627776 b 100
 let r2:=Af r1.2 1099511627776 c 100
 ((r0.1,r1.1,r2.1),r2.2)
def magN(a b c:Int):Int:=(vNormS (KN a b c).2 (KN a b c).1).1
def Ri(a b c:Int):Bool:=decide (1099511627776<=magN a b c)&&decide (magN a b c<=131941395333120)
def sunD(a b c d e f:Int):V3:=((a-b)*16777216,(c-d)*16777216,(e-f)*16777216)
def Aha(a b c d e f:Int):V3×Bool:=vUnitS false (sunD a b c d e f)
def lit(a b c d e f:Int):Bool:=decide (2000<=a)||decide (2000<=b)||decide (2000<=c)||decide (2000<=d)||decide (2000<=e)||decide (2000<=f)
def Ph(a b c d e f:Int):Bool:=lit a b c d e f&& !(Aha a b c d e f).2
def EC(k:Int)(s:ByteArray)(o:Nat):V3:=
 if k=1 then Wi (sg (cnt s o)) (sg (cnt s (o+2))) (sg (cnt s (o+4)))
 else if k=3 then(KN (sg (cnt s o)) (sg (cnt s (o+2))) (sg (cnt s (o+4)))).1
 else(Aha (cnt s o) (cnt s (o+2)) (cnt s (o+4)) (cnt s (o+6)) (cnt s (o+8)) (cnt s (o+10))).1
def DY(k:Int)(s:ByteArray)(o:Nat):Bool:=
 if k=1 then DX (sg (cnt s o)) (sg (cnt s (o+2))) (sg (cnt s (o+4)))
 else if k=3 then Ri (sg (cnt s o)) (sg (cnt s (o+2))) (sg (cnt s (o+4)))
 else Ph (cnt s o) (cnt s (o+2)) (cnt s (o+4)) (cnt s (o+6)) (cnt s (o+8)) (cnt s (o+10))
def Ez(k:Int)(s:ByteArray):Bool:=(decide (k=1)&&decide (s.size=12))||(decide (k=3)&&decide (s.size=12))||(decide (k=2)&&decide (s.size=18))
def C7(k:Int)(s:ByteArray):Bool:=Ez k s&&cRight (CM s)&&DY k s 6
def Rj(k:Int)(s:ByteArray):Int×Int×V3:=if C7 k s then(k,CM s,EC k s 6)else(0,0,0,0,0)
theorem GQ{s:ByteArray}{i:Int}{n:Nat}(h:n<s.size)(hi:i=n)(W:World):(Instr.index 9 (.string s) (.int .i64 i)).run Zm W=.ok (.int .u8 (bt s n:Nat)) W:=by
 rw[run_index_string W 9 s .i64 i Tryz.underlying9,dif_pos (by omega)]
 have:i.toNat=n:=by omega
 simp only[this,AL0 h]
theorem Wj{n:Nat}{x w:World}(h:Below n x w):Below n x w.drew:=⟨h.os,h.tape,h.output,h.size,h.block⟩
theorem Rk (s:ByteArray)(i:Int)(p:Nat)(w:World)(hi:i=p)(h:2*p+1<s.size)(hp:p<100):
    Calls Zm 285 #[.string s,.int .i64 i] w fun e w'=>e=.returned (.int .u16 (cnt s (2*p):Nat))/\Below w.heap.size w w':=by
 subst hi
 have i0:=GQ (s:=s) (i:=2*(p:Int)) (n:=2*p) (by omega) (by omega)
 have i1:=GQ (s:=s) (i:=2*(p:Int)+1) (n:=2*p+1) (by omega) (by omega)
 have b0:=Fg s (2*p)
 have b1:=Fg s (2*p+1)
 have HC:Hid (cnt s (2*p)=bt s (2*p)*256+bt s (2*p+1)):=rfl
 have w2:IntKind.i64.wrap (2*(p:Int))=2*(p:Int):=by rw[IntKind.wrap_i64];omega
 have w3:IntKind.i64.wrap (2*(p:Int)+1)=2*(p:Int)+1:=by rw[IntKind.wrap_i64];omega
 generalize bt s (2*p)=a at i0 b0 HC
 generalize bt s (2*p+1)=b at i1 b1 HC
 have ho:=APj b0 b1
 rw[HC.out]
 go_enter Tryz.func285,Tryz.ntmps285
 go_wp2
 go_region
 go_wp2
 go_ret
 exact ⟨by have e:((a*256+b:Nat):Int)=(a:Int)*256+b:=by omega
           rw[e];rfl,Wj (Below.refl _ _)⟩
theorem Wk(s:ByteArray)(i:Int)(p:Nat)(w:World)(hi:i=p)(h:2*p+1<s.size)(hp:p<100):
    Calls Zm 281 #[.string s,.int .i64 i] w fun e w'=>e=.returned (.int .i64 (sg (cnt s (2*p))))/\Below w.heap.size w w':=by
 subst hi
 have hc:=fun W=>Rk s p p W rfl h hp
 have hl:=Do s (2*p)
 generalize cnt s (2*p)=n at hc hl ⊢
 have HS:Hid (sg n=if 32768<=n then(n:Int)-65536 else n):=rfl
 have e16:IntKind.i16.wrap (n:Int)=sg n:=by
  rw[HS.out]
  simp[IntKind.wrap,IntKind.bits,IntKind.signed]
  split<;>split<;>omega
 have hr:=TD hl
 have e64:IntKind.i64.wrap (sg n)=sg n:=by rw[IntKind.wrap_i64];omega
 go_enter Tryz.func281,Tryz.ntmps281
 go_wp2_with (go_at_call 285;refine(hc _).mono ?_;rintro e w1 ⟨rfl,hb1⟩)
 go_ret
 exact⟨rfl,hb1⟩
theorem Zd(s:ByteArray)(i:Int)(p:Nat)(w:World)(hi:i=p)(h:2*p+1<s.size)(hp:p<100):
    Calls Zm 282 #[.string s,.int .i64 i] w fun e w'=>e=.returned (.int .i64 (cnt s (2*p):Nat))/\Below w.heap.size w w':=by
 subst hi
 have hc:=fun W=>Rk s p p W rfl h hp
 have hl:=Do s (2*p)
 generalize cnt s (2*p)=n at hc hl ⊢
 go_enter Tryz.func282,Tryz.ntmps282
 go_wp2_with (go_at_call 285;refine(hc _).mono ?_;rintro e w1 ⟨rfl,hb1⟩)
 go_ret
 exact⟨rfl,hb1⟩
theorem Wl(s:ByteArray)(w:World)(h:s.size=6):
    Calls Zm 199 #[.string s] w fun e w'=>e=.returned (.int .i64 (CM s))/\Below w.heap.size w w':=by
 go_enter Tryz.func199,Tryz.ntmps199
 go_wp2
 go_loop [3,5] (fun r i=>∃k:Nat,k<=6/\i=.int .i64 k/\r=.int .i64 (tickK s k:Nat)) (fun _ i=>6-(intOf i).toNat)
 case atStart=>exact⟨0,by omega,rfl,rfl⟩
 case round=>
  obtain⟨k,hk,rfl,rfl⟩:=hrel
  by_cases c:k<6
  ·have hi:=GQ (s:=s) (i:=(k:Int)) (n:=k) (by omega) rfl
   have hb:=Fg s k
   have ht:tickK s k<1099511627776:=Zs (Pg s k) (show 256^k<=256^5 from Nat.pow_le_pow_right (by decide) (by omega))
   have HT:Hid (tickK s (k+1)=tickK s k*256+bt s k):=rfl
   generalize tickK s k=t at ht HT ⊢
   generalize bt s k=b at hi hb HT
   have ho:=APi ht hb
   go_wp2
   go_round
   case rel=>exact⟨k+1,by omega,by go_num,by rw[HT.out];show _=Value.int .i64 ((t*256+b:Nat):Int);rw[show((t*256+b:Nat):Int)=(t:Int)*256+b by omega]⟩
   case measure=>simp[intOf];omega
  ·obtain rfl:k=6:=by omega
   have HT:Hid (CM s=(tickK s 6:Nat)):=rfl
   generalize tickK s 6=t at HT ⊢
   go_wp2
   go_ret
   exact⟨by rw[HT.out];rfl,Below.refl _ _⟩
def EL(k:Int):Int:=if k=1∨k=3 then 3 else if k=2 then 6 else 0
theorem Wm(k:Int)(w:World):Calls Zm 198 #[.int .i64 k] w fun e w'=>e=.returned (.int .i64 (EL k))/\w=w':=by
 by_cases c1:k=1
 ·subst c1
  go_enter Tryz.func198,Tryz.ntmps198
  go_wp2
  go_ret
  exact⟨rfl,rfl⟩
 by_cases c3:k=3
 ·subst c3
  go_enter Tryz.func198,Tryz.ntmps198
  go_wp2
  go_ret
  exact⟨rfl,rfl⟩
 by_cases c2:k=2
 ·subst c2
  go_enter Tryz.func198,Tryz.ntmps198
  go_wp2
  go_ret
  exact⟨rfl,rfl⟩
 have e:EL k=0:=by unfold EL;rw[if_neg (by omega),if_neg (by omega)]
 have d1:(k==1)=false:=by simpa using c1
 have d2:(k==2)=false:=by simpa using c2
 have d3:(k==3)=false:=by simpa using c3
 rw[e]
 go_enter Tryz.func198,Tryz.ntmps198
 go_wp2
 go_ret
 exact⟨rfl,rfl⟩
theorem Pi (s:ByteArray)(i:Int)(p:Nat)(w:World)(hi:i=p)(h:p+1<s.size)(hp:p<100):
    Calls Zm 176 #[.string s,.int .i64 i] w fun e w'=>e=.returned (.int .i64 (cnt s p:Nat))/\Below w.heap.size w w':=by
 subst hi
 have i0:=GQ (s:=s) (i:=(p:Int)) (n:=p) (by omega) (by omega)
 have i1:=GQ (s:=s) (i:=(p:Int)+1) (n:=p+1) (by omega) (by omega)
 have b0:=Fg s p
 have b1:=Fg s (p+1)
 have HC:Hid (cnt s p=bt s p*256+bt s (p+1)):=rfl
 have w3:IntKind.i64.wrap ((p:Int)+1)=(p:Int)+1:=by rw[IntKind.wrap_i64];omega
 generalize bt s p=a at i0 b0 HC
 generalize bt s (p+1)=b at i1 b1 HC
 have w4:IntKind.i64.wrap ((a:Int)*256)=(a:Int)*256:=by rw[IntKind.wrap_i64];omega
 have w5:IntKind.i64.wrap ((a:Int)*256+b)=(a:Int)*256+b:=by rw[IntKind.wrap_i64];omega
 rw[HC.out]
 go_enter Tryz.func176,Tryz.ntmps176
 go_wp2
 go_region
 go_wp2
 go_ret
 exact ⟨by have e:((a*256+b:Nat):Int)=(a:Int)*256+b:=by omega
           rw[e];rfl,Wj (Below.refl _ _)⟩
theorem Wn(s:ByteArray)(i:Int)(p:Nat)(w:World)(hi:i=p)(h:p+1<s.size)(hp:p<100):
    Calls Zm 175 #[.string s,.int .i64 i] w fun e w'=>e=.returned (.int .i64 (sg (cnt s p)))/\Below w.heap.size w w':=by
 subst hi
 have hc:=fun W=>Pi s p p W rfl h hp
 have hl:=Do s p
 generalize cnt s p=n at hc hl ⊢
 have hs:sg n=if 32768<=(n:Int)then(n:Int)-65536 else n:=by
  unfold sg
  split<;>split<;>omega
 have hz:0<=(n:Int)/\(n:Int)<65536:=by omega
 rw[hs]
 clear hs hl
 generalize (n:Int)=z at hc hz ⊢
 by_cases c:32768<=z
 ·rw[if_pos c]
  go_enter Tryz.func175,Tryz.ntmps175
  go_wp2_with (go_at_call 176;refine(hc _).mono ?_;rintro e w1 ⟨rfl,hb1⟩)
  go_ret
  exact⟨rfl,hb1⟩
 ·rw[if_neg c]
  go_enter Tryz.func175,Tryz.ntmps175
  go_wp2_with (go_at_call 176;refine(hc _).mono ?_;rintro e w1 ⟨rfl,hb1⟩)
  go_ret
  exact⟨rfl,hb1⟩
theorem Acv(g j:Nat):((⟨g,0,none⟩:Addr).add j)=⟨g,j,none⟩:=by cases j<;>simp[Addr.add]
def TX(l:List Int):List Value:=l.map fun b=>.int .u8 b
def FG(B:Nat)(w:World)(v:Value)(l:List Int):Prop:=w.ownsRow B 5 1 v l.length (TX l)
theorem Ahb:(Zm.info? 5).map (fun i=>(i.zero,i.size,i.bytes))=some (some (.int .u8 0),1,1):=by kernel_rfl
theorem FG.same{B:Nat}{w w':World}{v:Value}{l:List Int}(h:FG B w v l)(hb:Below w.heap.size w w'):FG B w' v l:=by
 refine⟨h.1,?_⟩
 rcases h.2 with hn |⟨g,cap,cur,rfl,hg,hgg,rest⟩
 ·exact .inl hn
 ·exact .inr ⟨g,cap,cur,rfl,hg,by rw[hb.block g (Array.getElem?_eq_some_iff.1 hgg).1];exact hgg,rest⟩
theorem FG.base{B B':Nat}{w:World}{v:Value}{l:List Int}(h:FG B' w v l)(hB:B<=B'):FG B w v l:=
 ⟨h.1,h.2.imp id (fun⟨g,cap,cur,a,b,c⟩=>⟨g,cap,cur,a,Nat.le_trans hB b,c⟩)⟩
theorem AN.under{k B:Nat}{l:List Value}{w w':World}(h:AN k l w)(hb:Below B w w')(hk:k<B)(hs:w.heap.size<=w'.heap.size):AN k l w':=h.same (hb.block k hk) hs
theorem Ahc:∃i,Zm.info? 5=some i/\i.zero=some (.int .u8 0)/\i.size=1/\i.bytes=1:=by
 have h:=Ahb
 cases e:Zm.info? 5 with
 |none=>rw[e]at h;cases h
 |some i=>
  rw[e]at h
  simp at h
  exact⟨i,rfl,h.1,h.2.1,h.2.2⟩
theorem Bt{ops:Array Oper}{rest:List Oper}{o:Oper}{a:Act}{Q:Exit->Act->World->Prop}(hgd:o.guard=none)(s x:Operand)
    (ho:o.op=.call {callee:=.builtin .append,args:=#[s,x],argTypes:=#[167,167]}) (B:Nat) (v:Value) (l news:List Int) (w0:World) (hs:a.eval s=v) (hown:FG B w0 v l)
    (hx:a.eval x=.slice (some ⟨w0.heap.size,0,none⟩) news.length news.length) (hl:l.length+news.length<=100) (hB:B<=w0.heap.size)
    (h:∀v' w',FG B w' v' (l++news)->Below B w0 w'->w0.heap.size<=w'.heap.size->wpList Zm ops Q rest (a.put o.dst v') w'):wpList Zm ops Q (o::rest) a (w0.alloc (.cells (TX news).toArray 5)):=by
 obtain⟨i,hi,hz,hsz,hby⟩:=Ahc
 have hown':=hown.same ((Below.refl _ _).alloc (Zt _) (.cells (TX news).toArray 5))
 refine wpList_append_own _ hgd s x 167 ho B 5 i (.int .u8 0) 1 1 Tryz.underlying167 hi hz hsz hby rfl (by decide) v l.length (TX l) hs hown' ⟨w0.heap.size,0,none⟩ news.length news.length (TX news) hx (by simp[TX]) ?_ ?_ (by unfold maxLen;omega) (by omega) (by simp;omega) ?_
 ·intro j u hj
  have A:=AH w0 w0.heap.size (TX news) 5 rfl
  obtain⟨hj',rfl⟩:=Zo.1 hj
  rw[Acv]
  exact A.c j hj'
 ·intro u hu
  unfold TX at hu
  obtain⟨b,_,rfl⟩:=List.mem_map.1 hu
  rfl
 ·intro v' w' h1 h2 _
  have hbel:Below B w0 w':=((Below.refl B w0).alloc hB _).grown h2 (by simp;omega) (fun k hk=>(World.ownsRow.lt hown k hk).1)
  refine h v' w' ?_ hbel (by have:=h2.size;simp at this;omega)
  show w'.ownsRow B 5 1 v' (l++news).length (TX (l++news))
  rw[List.length_append,show TX (l++news)=TX l++TX news by simp[TX]]
  exact h1
def Fh(l:List Int):ByteArray:=⟨(l.map fun b=>UInt8.ofNat b.toNat).toArray⟩
theorem Wo{B:Nat}{w:World}{v:Value}{l:List Int}(h:FG B w v l)(hne:l≠[])(hr:∀b∈l,0<=b/\b<256):(convert 167 9 v).run Zm w=.ok (.string (Fh l)) w:=by
 have H:=h
 rcases h.2 with⟨rfl,h0⟩|⟨g,cap,cur,rfl,hg,hgg,hn,rest⟩
 ·exact absurd (List.length_eq_zero_iff.1 h0) hne
 ·have H':w.ownsRow B 5 1 (.slice (some ⟨g,0,none⟩) l.length cap) l.length (TX l):=H
  have e:l.length=(l.map fun b=>UInt8.ofNat b.toNat).length:=by simp
  have hc:=run_convert_bytes_back w 167 9 5 ⟨g,0,none⟩ cap (l.map fun b=>UInt8.ofNat b.toNat) Tryz.underlying167 Tryz.underlying5 Tryz.underlying9 (fun j hj=>by
   have hj':j<l.length:=by rw[e];exact hj
   have hb:=hr l[j] (List.getElem_mem hj')
   have:=H'.cellAt j (by omega)
   rw[Acv,this]
   unfold TX
   simp[hj']
   omega)
  rw[<-e]at hc
  exact hc
def CN(t:Int):List Int:=[IntKind.u8.wrap (t / 1099511627776),IntKind.u8.wrap (t / 4294967296),IntKind.u8.wrap (t / 16777216),IntKind.u8.wrap (t / 65536),IntKind.u8.wrap (t / 256),IntKind.u8.wrap t]
theorem Aqk(x:Int):0<=IntKind.u8.wrap x/\IntKind.u8.wrap x<256:=by
 rw[IntKind.wrap_u8]
 omega
structure Tl where
 t:Int
 m:Int
 fa:Int
 ak:Int
 er:Int
 rj:Int
 q0:Int
 q1:Int
 q2:Int
 q3:Int
 d0:Int
 d1:Int
 d2:Int
def BX(n a b:Int):Bool:=decide (a<=n)&&decide (n<=b)
theorem IM{n a b:Int}:BX n a b=true↔a<=n/\n<=b:=by
 unfold BX
 simp
def EA(T:Tl):Bool:=cRight T.t&&BX T.m 0 3&&BX T.fa 0 15&&BX T.ak 0 255&&BX T.er 0 255&&BX T.rj 0 65535&&BX T.q0 (-32768) 32767&&BX T.q1 (-32768) 32767&&BX T.q2 (-32768) 32767&&BX T.q3 (-32768) 32767&&BX T.d0 (-32768) 32767&&BX T.d1 (-32768) 32767&&BX T.d2 (-32768) 32767
structure AL1(T:Tl):Prop where
 t:0<=T.t/\T.t<=157766400000
 m:0<=T.m/\T.m<=3
 fa:0<=T.fa/\T.fa<=15
 ak:0<=T.ak/\T.ak<=255
 er:0<=T.er/\T.er<=255
 rj:0<=T.rj/\T.rj<=65535
 q0:-32768<=T.q0/\T.q0<=32767
 q1:-32768<=T.q1/\T.q1<=32767
 q2:-32768<=T.q2/\T.q2<=32767
 q3:-32768<=T.q3/\T.q3<=32767
 d0:-32768<=T.d0/\T.d0<=32767
 d1:-32768<=T.d1/\T.d1<=32767
 d2:-32768<=T.d2/\T.d2<=32767
theorem ABo{T:Tl}(h:EA T=true):AL1 T:=by
 unfold EA cRight at h
 simp only[Bool.and_eq_true,IM,decide_eq_true_eq]at h
 obtain⟨⟨⟨⟨⟨⟨⟨⟨⟨⟨⟨⟨⟨h0,h1⟩,h2⟩,h3⟩,h4⟩,h5⟩,h6⟩,h7⟩,h8⟩,h9⟩,h10⟩,h11⟩,h12⟩,h13⟩:=h
 exact⟨⟨h0,h1⟩,h2,h3,h4,h5,h6,h7,h8,h9,h10,h11,h12,h13⟩
def AI(n:Int):List Int:=[IntKind.u8.wrap (IntKind.u16.wrap n / 256),IntKind.u8.wrap (IntKind.u16.wrap n)]
def tlL(T:Tl):List Int:=[IntKind.u8.wrap (T.t / 1099511627776),IntKind.u8.wrap (T.t / 4294967296),IntKind.u8.wrap (T.t / 16777216),IntKind.u8.wrap (T.t / 65536),IntKind.u8.wrap (T.t / 256),IntKind.u8.wrap T.t,T.m,T.fa,T.ak,T.er,IntKind.u8.wrap (IntKind.u16.wrap T.rj / 256),IntKind.u8.wrap (IntKind.u16.wrap T.rj),IntKind.u8.wrap (IntKind.u16.wrap T.q0 / 256),IntKind.u8.wrap (IntKind.u16.wrap T.q0),IntKind.u8.wrap (IntKind.u16.wrap T.q1 / 256),IntKind.u8.wrap (IntKind.u16.wrap T.q1),IntKind.u8.wrap (IntKind.u16.wrap T.q2 / 256),IntKind.u8.wrap (IntKind.u16.wrap T.q2),IntKind.u8.wrap (IntKind.u16.wrap T.q3 / 256),IntKind.u8.wrap (IntKind.u16.wrap T.q3),IntKind.u8.wrap (IntKind.u16.wrap T.d0 / 256),IntKind.u8.wrap (IntKind.u16.wrap T.d0),IntKind.u8.wrap (IntKind.u16.wrap T.d1 / 256),IntKind.u8.wrap (IntKind.u16.wrap T.d1),IntKind.u8.wrap (IntKind.u16.wrap T.d2 / 256),IntKind.u8.wrap (IntKind.u16.wrap T.d2)]
def tlW(T:Tl):Int×ByteArray:=if EA T then(32,Fh (tlL T))else(0,⟨#[]⟩)
theorem Acw{T:Tl}(h:AL1 T):∀b∈tlL T,0<=b/\b<256:=by
 intro b hb
 unfold tlL at hb
 simp only[Zu,Zq,or_false]at hb
 have h1:=h.m
 have h2:=h.fa
 have h3:=h.ak
 have h4:=h.er
 rcases hb with rfl |rfl |rfl |rfl |rfl |rfl |rfl |rfl |rfl |rfl |rfl |rfl |rfl |rfl |rfl |rfl |rfl |rfl |rfl |rfl |rfl |rfl |rfl |rfl |rfl |rfl<;>first |exact Aqk _ |omega
def Ni(r:Int×Bool):Int×Bool:=if BX r.1 (-32768) 32767 then r else(0,true)
def WI(q:Int×Int×Int×Int)(m:V3):(Int×Int×Int×Int)×V3:=
 let p0:=Ni (Af false q.1 1 67108864)
 let p1:=Ni (Af p0.2 q.2.1 1 67108864)
 let p2:=Ni (Af p1.2 q.2.2.1 1 67108864)
 let p3:=Ni (Af p2.2 q.2.2.2 1 67108864)
 let p4:=Ni (Af p3.2 m.1 10000 1099511627776)
 let p5:=Ni (Af p4.2 m.2.1 10000 1099511627776)
 let p6:=Ni (Af p5.2 m.2.2 10000 1099511627776)
 if p6.2 then((0,0,0,0),(0,0,0))else((p0.1,p1.1,p2.1,p3.1),(p4.1,p5.1,p6.1))
def tlD(q:Int×Int×Int×Int)(m:V3):(Int×Int×Int×Int)×V3:=
 let r0:=Af false q.1 1 67108864
 let r1:=Af r0.2 q.2.1 1 67108864
 let r2:=Af r1.2 q.2.2.1 1 67108864
 let r3:=Af r2.2 q.2.2.2 1 67108864
 let r4:=Af r3.2 m.1 10000 1099511627776
 let r5:=Af r4.2 m.2.1 10000 1099511627776
 let r6:=Af r5.2 m.2.2 10000 1099511627776
 if BX r0.1 (-32768) 32767&&BX r1.1 (-32768) 32767&&BX r2.1 (-32768) 32767&&BX r3.1 (-32768) 32767&&BX r4.1 (-32768) 32767&&BX r5.1 (-32768) 32767&&BX r6.1 (-32768) 32767&& !r6.2 then((r0.1,r1.1,r2.1,r3.1),(r4.1,r5.1,r6.1))else((0,0,0,0),(0,0,0))
theorem Aql(a p q:Int):Af true a p q=(0,true):=Ca (by unfold tk;simp)
theorem Mc(a p q:Int):Ni (Af true a p q)=(0,true):=by rw[Aql];rfl
theorem Pj{r:Int×Bool}(h:BX r.1 (-32768) 32767=true):Ni r=r:=by unfold Ni;rw[if_pos h]
theorem JF{r:Int×Bool}(h:BX r.1 (-32768) 32767=false):Ni r=(0,true):=by unfold Ni;rw[if_neg (by rw[h];decide)]
theorem AGr(q:Int×Int×Int×Int)(m:V3):WI q m=tlD q m:=by
 unfold WI tlD
 dsimp only
 generalize e0:Af false q.1 1 67108864=r0
 cases c0:BX r0.1 (-32768) 32767
 case false=>
  rw[JF c0]
  simp[Mc]
 rw[Pj c0]
 generalize e1:Af r0.2 q.2.1 1 67108864=r1
 cases c1:BX r1.1 (-32768) 32767
 case false=>
  rw[JF c1]
  simp[Mc]
 rw[Pj c1]
 generalize e2:Af r1.2 q.2.2.1 1 67108864=r2
 cases c2:BX r2.1 (-32768) 32767
 case false=>
  rw[JF c2]
  simp[Mc]
 rw[Pj c2]
 generalize e3:Af r2.2 q.2.2.2 1 67108864=r3
 cases c3:BX r3.1 (-32768) 32767
 case false=>
  rw[JF c3]
  simp[Mc]
 rw[Pj c3]
 generalize e4:Af r3.2 m.1 10000 1099511627776=r4
 cases c4:BX r4.1 (-32768) 32767
 case false=>
  rw[JF c4]
  simp[Mc]
 rw[Pj c4]
 generalize e5:Af r4.2 m.2.1 10000 1099511627776=r5
 cases c5:BX r5.1 (-32768) 32767
 case false=>
  rw[JF c5]
  simp[Mc]
 rw[Pj c5]
 generalize e6:Af r5.2 m.2.2 10000 1099511627776=r6
 cases c6:BX r6.1 (-32768) 32767
 case false=>
  rw[JF c6]
  simp
 rw[Pj c6]
 cases r6.2<;>simp
def AGs:Ct Zm:=Ak Zm 121 Mi (fun _ _=>((),true)) cU (Ae Tryz.func121 (by kernel_rfl) (by kernel_rfl)) (fun b bad _ w _ _ hw=>BA b bad w hw)
def Aqm:Ct Zm:=Ak Zm 151 (Ac cI (Ac cI (Aa cI))) (fun bad x=>Af bad x.1 x.2.1 x.2.2) cI (Ae Tryz.func151 (by kernel_rfl) (by kernel_rfl)) (fun b bad x w _ _ hw=>CF b bad x.1 x.2.1 x.2.2 w hw)
def tcV(bad:Bool)(c:Int):Int×Bool:=if c< -32768 then(0,true)else if c>32767 then(0,true)else(c,bad)
theorem AGt(bad:Bool)(c:Int):tcV bad c=Ni (c,bad):=by
 unfold tcV Ni BX
 by_cases h0:c< -32768
 ·rw[if_pos h0,if_neg (by simp;omega)]
 rw[if_neg h0]
 by_cases h1:c>32767
 ·rw[if_pos h1,if_neg (by simp;omega)]
 ·rw[if_neg h1,if_pos (by simp;omega)]
theorem Ahd:Ai Zm 168 (Aa cI) (fun bad x=>tcV bad x) cI:=AZ (tbl:=[AGs]) (dirty:=fun _=>[]) (n:=4) xmixA Tryz.func168 rfl (fun bad x Post=>by
    refine Eq.trans (b:=?m) ?x (Eq.symm ?y)
    case y=>unfold tcV;simp only[<-Hj (K:=PK cI Post)];exact rfl
    case x=>kernel_rfl)
def Ax9:Ct Zm:=Ak Zm 168 (Aa cI) (fun bad x=>Ni (x,bad)) cI (Ae Tryz.func168 (by kernel_rfl) (by kernel_rfl)) (fun b bad x w h1 h2 h3=>by have:=Ahd b bad x w h1 h2 h3;dsimp only at this ⊢;rw[AGt]at this;exact this)
abbrev qT(q:Tup 4):Int×Int×Int×Int:=(q.1,q.2.1,q.2.2.1,q.2.2.2.1)
abbrev mT(m:Tup 3):V3:=(m.1,m.2.1,m.2.2.1)
def Pk(r:(Int×Int×Int×Int)×V3):Tup 4×Tup 3:=((r.1.1,r.1.2.1,r.1.2.2.1,r.1.2.2.2,()),(r.2.1,r.2.2.1,r.2.2.2,()))
def AL2(q:Tup 4)(m:Tup 3)(K:Tup 4×Tup 3->Prop):Prop:=
 let p0:=Ni (Af false q.1 1 67108864)
 let p1:=Ni (Af p0.2 q.2.1 1 67108864)
 let p2:=Ni (Af p1.2 q.2.2.1 1 67108864)
 let p3:=Ni (Af p2.2 q.2.2.2.1 1 67108864)
 let p4:=Ni (Af p3.2 m.1 10000 1099511627776)
 let p5:=Ni (Af p4.2 m.2.1 10000 1099511627776)
 let p6:=Ni (Af p5.2 m.2.2.1 10000 1099511627776)
 AE p6.2 (K (Pk ((0,0,0,0),(0,0,0)))) (K (Pk ((p0.1,p1.1,p2.1,p3.1),(p4.1,p5.1,p6.1))))
theorem Aya(q:Tup 4)(m:Tup 3)(K:Tup 4×Tup 3->Prop):AL2 q m K=K (Pk (WI (qT q) (mT m))):=by
 unfold AL2 WI
 dsimp only
 rw[Bg (K:=fun r=>K (Pk r))]
theorem Ze:Ah Zm 55 (Ac (cT 4) (Aa (cT 3))) (fun x=>Pk (WI (qT x.1) (mT x.2))) (Au (cT 4) (cT 3)):=Av (tbl:=[Aqm,Ax9]) (dirty:=fun _=>[]) (n:=6) xmixA Tryz.func55 rfl (fun x Post=>by
    rw[<-Aya x.1 x.2 (PJ (Au (cT 4) (cT 3)) Post)]
    kernel_rfl)
theorem Pm(t:Int)(w:World):Calls Zm 17 #[.int .i64 t] w fun e w'=>e=.returned (.bool (cRight t))/\Below w.heap.size w w':=by
 rcases GO t with⟨h0,h1⟩|hn
 ·have H:Hid _:=CZ h0 h1
  go_enter Tryz.func17,Tryz.ntmps17
  go_wp2
  go_ret
  rw[H.out]
  exact⟨rfl,Below.refl _ _⟩
 ·have H:Hid _:=Ec hn
  by_cases c:0<=t
  ·have d:¬t<=157766400000:=by omega
   clear hn
   go_enter Tryz.func17,Tryz.ntmps17
   go_wp2
   go_ret
   rw[H.out]
   exact⟨rfl,Below.refl _ _⟩
  ·clear hn
   go_enter Tryz.func17,Tryz.ntmps17
   go_wp2
   go_ret
   rw[H.out]
   exact⟨rfl,Below.refl _ _⟩
end
end Go.Proofs.YtoadcnhcfodkgaaGreatDoor
