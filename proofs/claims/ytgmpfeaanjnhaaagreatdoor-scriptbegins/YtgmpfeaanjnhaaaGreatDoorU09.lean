/-
A part.
A part.
A part.
A part.
A part.
A part.
A part.
A part.
A part.
A part.
A part.
A part.
A part.
A part.
A part.
A part.
A part.
A part.
A part.
-/
import Derived.Handy
import Derived.Deep.RegionHeld3
import Derived.Maps.OwnOps
import Derived.Maps.Views
import Derived.WideKeyPair
import Derived.DeepKeys4
import Derived.Test.YtgmpfeaanjnhaaaGreatDoorU06
import Derived.Test.YtgmpfeaanjnhaaaGreatDoorU08
import Derived.Test.YtgmpfeaanjnhaaaGreatDoorU04
import Derived.Test.YtgmpfeaanjnhaaaGreatDoorU02
import Derived.Test.YtgmpfeaanjnhaaaGreatDoorU05
import Derived.Test.YtgmpfeaanjnhaaaGreatDoorU03
namespace Go.Proofs.YtgmpfeaanjnhaaaGreatDoor
open Go.RowKit
@[go_sem] theorem Aqm (w:World):Sem.run Tryz.prog (zeroValue 232) w=.ok (.agg (row 78 (fun _=>0)).toArray) w:=by kernel_rfl
@[go_sem] theorem Anw (w:World):Sem.run Tryz.prog (zeroValue 309) w=.ok (.agg (row 13 (fun _=>0)).toArray) w:=by kernel_rfl
@[go_sem] theorem Akp (g:Nat->Int)(k:Nat)(w:World)(h:(k:Int)<13):(Instr.index 309 (.agg (row 13 g).toArray) (.int .i64 (k:Int))).run Tryz.prog w=.ok (.int .i64 (g k)) w:=by
 have hk:k=0∨k=1∨k=2∨k=3∨k=4∨k=5∨k=6∨k=7∨k=8∨k=9∨k=10∨k=11∨k=12:=by omega
 rcases hk with rfl |rfl |rfl |rfl |rfl |rfl |rfl |rfl |rfl |rfl |rfl |rfl |rfl<;>(show _=_;kernel_rfl)
@[go_sem] theorem Anx (g:Nat->Int)(k:Nat)(w:World)(h:(k:Int)<13):(Instr.index 232 (.agg (row 78 g).toArray) (.int .i64 (k:Int))).run Tryz.prog w=.ok (.agg (row 6 fun x_=>g (k*6+x_)).toArray) w:=by
 have hk:k=0∨k=1∨k=2∨k=3∨k=4∨k=5∨k=6∨k=7∨k=8∨k=9∨k=10∨k=11∨k=12:=by omega
 rcases hk with rfl |rfl |rfl |rfl |rfl |rfl |rfl |rfl |rfl |rfl |rfl |rfl |rfl<;>(show _=_;kernel_rfl)
@[go_sem] theorem Aih (g:Nat->Int)(k:Nat)(w:World)(h:(k:Int)<13):(Instr.index 229 (.agg (row 52 g).toArray) (.int .i64 (k:Int))).run Tryz.prog w=.ok (.agg #[.int .i64 (g (k*4)),.int .i64 (g (k*4+1)),.int .i64 (g (k*4+2)),.int .i64 (g (k*4+3))]) w:=by
 have hk:k=0∨k=1∨k=2∨k=3∨k=4∨k=5∨k=6∨k=7∨k=8∨k=9∨k=10∨k=11∨k=12:=by omega
 rcases hk with rfl |rfl |rfl |rfl |rfl |rfl |rfl |rfl |rfl |rfl |rfl |rfl |rfl<;>(show _=_;kernel_rfl)
@[go_sem] theorem Aqn (g:Nat->Int)(w:World):(Instr.index 46 (.agg (row 6 g).toArray) (.int .i64 0)).run Tryz.prog w=.ok (.int .i64 (g 0)) w:=by kernel_rfl
def Wi(a b c d x y z:Int)(p:Nat->Int):Sem Value:=Instr.build 50 #[(0,.agg #[.int .i64 a,.int .i64 b,.int .i64 c,.int .i64 d]),(1,.agg #[.int .i64 x,.int .i64 y,.int .i64 z]),(2,.agg (row 36 p).toArray)]
@[go_sem high] theorem Atb (a b c d x y z:Int)(p:Nat->Int):Instr.build 50 #[(0,.agg #[.int .i64 a,.int .i64 b,.int .i64 c,.int .i64 d]),(1,.agg #[.int .i64 x,.int .i64 y,.int .i64 z]),(2,.agg (row 36 p).toArray)]=Wi a b c d x y z p:=rfl
@[go_sem] theorem Aqo (a b c d x y z:Int)(p:Nat->Int)(w:World):(Wi a b c d x y z p).run Tryz.prog w=.ok (.agg (row 43 (Aeg (a,b,c,d) (x,y,z) p)).toArray) w:=by kernel_rfl
def Wj(a b c d:Int):Sem Value:=Instr.build 50 #[(0,.agg #[.int .i64 a,.int .i64 b,.int .i64 c,.int .i64 d])]
@[go_sem high] theorem Atc (a b c d:Int):Instr.build 50 #[(0,.agg #[.int .i64 a,.int .i64 b,.int .i64 c,.int .i64 d])]=Wj a b c d:=rfl
@[go_sem] theorem Aqp (a b c d:Int)(w:World):(Wj a b c d).run Tryz.prog w=.ok (.agg (row 43 (Aeg (a,b,c,d) (0,0,0) (fun _=>0))).toArray) w:=by kernel_rfl
def build0D:Sem Value:=Instr.build 50 #[]
@[go_sem high] theorem Atd:Instr.build 50 #[]=build0D:=rfl
@[go_sem] theorem Aqq (w:World):build0D.run Tryz.prog w=.ok (.agg (row 43 (fun _=>0)).toArray) w:=by kernel_rfl
def Wk(y:Nat->Int):Sem Value:=Instr.build 48 #[(0,.agg (row 6 y).toArray)]
@[go_sem high] theorem Ate (y:Nat->Int):Instr.build 48 #[(0,.agg (row 6 y).toArray)]=Wk y:=rfl
@[go_sem] theorem Aqr (y:Nat->Int)(w:World):(Wk y).run Tryz.prog w=.ok (.agg (row 36 (Axm y)).toArray) w:=by kernel_rfl
set_option maxRecDepth 100000
set_option maxHeartbeats 20000000
theorem Q0(b:Nat)(bad:Bool)(x:Nat->Int)(w:World)(hw:Fl b bad w):
    Calls Tryz.prog 237 #[.pointer (some ⟨b,0,none⟩),.agg (row 13 x).toArray] w fun e w'=>e=.returned (.int .i64 ((DO bad x).1))/\Fl b (DO bad x).2 w'/\Aa b w w':=by
 have hl:=hw.lies
 go_enter Tryz.func237,Tryz.ntmps237
 have y1_BF:=hw.lies
 have c1_B0_0:=DI (Am w w.heap.size (row 13 x) 309 rfl) 0 (by omega)
 go_wp2_with (refine Qz (ty:=309) rfl rfl rfl (Am _ _ (row 13 x) _ (by simp)) (by kernel_rfl) (by rw[BU];kernel_rfl) ?_)
 clear c1_B0_0
 obtain⟨J0,hJ0⟩:∃J:Nat->Act->World->Prop,Hid (J=fun k a Wl0=>∀G_:Prop,(∀(s0:Int×Bool) (A0 C0:Nat->Value),Hid (B5 x ((x 0),bad) k=s0)->a={tmps:=#[.pointer (some ⟨b,0,none⟩),A0 1,A0 2,A0 3,A0 4,.int .i64 s0.1,A0 6,A0 7,A0 8,A0 9,.agg (row 13 x).toArray,.int .i64 (k:Int),A0 12,A0 13,A0 14,A0 15,A0 16,A0 17,A0 18,A0 19,C0 0,C0 1],defers:=[]}->Aa b w Wl0->Fl b s0.2 Wl0->G_)->G_):=⟨_,rfl⟩
 refine CV J0 13 ?_ ?_ ?_
 ·refine DN (fun a_ ea_=>?_)
  rw[hJ0.out]
  intro G_ hG_
  exact hG_ ((x 0),bad) (zS a_ 0) (zS a_ 20) rfl (by subst ea_;rfl) ((Aa.refl b w).al _) (hw.alloc _)
 ·intro k a Wl0 hk hI R hR
  rw[hJ0.out]at hI
  refine hI _ ?_
  clear hI
  intro s0 A0 C0 El0 ea Kl0 BF_l0
  subst ea
  have zl0_BF:=BF_l0.lies
  have i2_0:(k:Int)<13:=by omega
  go_wp2_with fail
  refine(BM b s0.2 s0.1 (x k) _ BF_l0).mono ?_
  rintro e w1 ⟨rfl,f1,k1⟩
  generalize e1:Ca s0.2 s0.1 (x k)=r1 at f1 ⊢
  have E1:Hid _:=e1
  clear e1
  try dsimp only
  have K1:Aa b w w1:=Aa.trans Kl0 k1
  have z1:=K1.size
  clear i2_0 BF_l0 k1
  go_wp2_with fail
  have hs0:Hid (B5 x ((x 0),bad) (k+1)=(r1.1,r1.2)):=by show _=_;rw[Ji];unfold De;simp only[El0.out,E1.out]
  refine DN (fun a_ ea_=>?_)
  rw[hJ0.out]
  intro G_ hG_
  exact hG_ (r1.1,r1.2) (zS a_ 0) (zS a_ 20) hs0 (by subst ea_;rfl) K1 f1
 ·intro a Wl0 hI R
  rw[hJ0.out]at hI
  refine hI _ ?_
  clear hI hJ0
  intro r2 A0 C0 E2 ea Kl0 BF_l0
  subst ea
  have zl0_BF:=BF_l0.lies
  go_wp2_with fail
  refine(Cl b r2.2 r2.1 1 14 _ BF_l0).mono ?_
  rintro e w3 ⟨rfl,f3,k3⟩
  generalize e3:Aw r2.2 r2.1 1 14=r3 at f3 ⊢
  have E3:Hid _:=e3
  clear e3
  try dsimp only
  have K3:Aa b w w3:=Aa.trans Kl0 k3
  have z3:=K3.size
  clear BF_l0 k3
  go_wp2
  go_ret
  have hs:DO bad x=(r3.1,r3.2):=by unfold DO;simp only[E2.out,E3.out]
  rw[hs]
  exact⟨rfl,f3,K3⟩
theorem MA(b:Nat)(bad:Bool)(x:Nat->Int)(y:Nat->Int)(w:World)(hw:Fl b bad w):
    Calls Tryz.prog 163 #[.pointer (some ⟨b,0,none⟩),.agg (row 78 x).toArray,.agg (row 78 y).toArray] w fun e w'=>e=.returned (.agg (row 36 ((Cp bad x y).1)).toArray)/\Fl b (Cp bad x y).2 w'/\Aa b w w':=by
 have hl:=hw.lies
 go_enter Tryz.func163,Tryz.ntmps163
 have y1_BF:=hw.lies
 have y2_BF:b<w.heap.size+1:=(Nat.lt_succ_of_lt hw.lies)
 have y2_B0:w.heap.size<w.heap.size+1:=by omega
 have y3_BF:b<w.heap.size+1+1:=(Nat.lt_succ_of_lt (Nat.lt_succ_of_lt hw.lies))
 have y3_B0:w.heap.size<w.heap.size+1+1:=by omega
 have y3_B1:w.heap.size+1<w.heap.size+1+1:=by omega
 have y4_BF:b<w.heap.size+1+1+1:=(Nat.lt_succ_of_lt (Nat.lt_succ_of_lt (Nat.lt_succ_of_lt hw.lies)))
 have y4_B0:w.heap.size<w.heap.size+1+1+1:=by omega
 have y4_B1:w.heap.size+1<w.heap.size+1+1+1:=by omega
 have y4_B2:w.heap.size+1+1<w.heap.size+1+1+1:=by omega
 go_wp2_with fail
 obtain⟨J0,hJ0⟩:∃J:Nat->Act->World->Prop,Hid (J=fun i a Wl0=>∀G_:Prop,(∀(s0:(Nat->Int)×Bool) (A0 C0 D0:Nat->Value),Hid (Bd x y ((fun _=>0),bad) i=s0)->a={tmps:=#[.pointer (some ⟨b,0,none⟩),A0 1,A0 2,A0 3,.pointer (some ⟨w.heap.size,0,none⟩),.pointer (some ⟨w.heap.size+1,0,none⟩),.pointer (some ⟨w.heap.size+1+1,0,none⟩),.pointer (some ⟨w.heap.size+1+1+1,0,none⟩),A0 8,A0 9,A0 10,A0 11,.int .i64 (i:Int),A0 13,A0 14,A0 15,A0 16,A0 17,A0 18,A0 19,C0 0,C0 1,C0 2,C0 3,C0 4,C0 5,C0 6,C0 7,C0 8,C0 9,C0 10,C0 11,C0 12,C0 13,C0 14,C0 15,C0 16,C0 17,C0 18,C0 19,D0 0,D0 1,D0 2,D0 3,D0 4,D0 5],defers:=[]}->Aa b w Wl0->Fl b s0.2 Wl0->Ap w.heap.size (row 78 x) Wl0->Ap (w.heap.size+1) (row 78 y) Wl0->Ap (w.heap.size+1+1) (row 36 (fun _=>0)) Wl0->Ap (w.heap.size+1+1+1) (row 36 s0.1) Wl0->G_)->G_):=⟨_,rfl⟩
 refine CV J0 6 ?_ ?_ ?_
 ·refine DN (fun a_ ea_=>?_)
  rw[hJ0.out]
  intro G_ hG_
  exact hG_ ((fun _=>0),bad) (zS a_ 0) (zS a_ 20) (zS a_ 40) rfl (by subst ea_;rfl) (((((Aa.refl b w).al _).al _).al _).al _) ((((hw.alloc _).alloc _).alloc _).alloc _) ((((Am _ _ (row 78 x) _ (by simp)).alloc _).alloc _).alloc _) (((Am _ _ (row 78 y) _ (by simp)).alloc _).alloc _) ((Am _ _ (row 36 (fun _=>0)) _ (by simp)).alloc _) (Am _ _ (row 36 (fun _=>0)) _ (by simp))
 ·intro i a Wl0 hi hI R hR
  rw[hJ0.out]at hI
  refine hI _ ?_
  clear hI
  intro s0 A0 C0 D0 El0 ea Kl0 BF_l0 B0_l0 B1_l0 B2_l0 B3_l0
  subst ea
  have zl0_BF:=BF_l0.lies
  have zl0_B0:=B0_l0.lies
  have zl0_B1:=B1_l0.lies
  have zl0_B2:=B2_l0.lies
  have zl0_B3:=B3_l0.lies
  go_wp2_with fail
  obtain⟨J1,hJ1⟩:∃J:Nat->Act->World->Prop,Hid (J=fun j a Wl1=>∀G_:Prop,(∀(s1:(Nat->Int)×Bool) (A1 C1 D1:Nat->Value),Hid (Bz x y i (s0.1,s0.2) j=s1)->a={tmps:=#[.pointer (some ⟨b,0,none⟩),A1 1,A1 2,A1 3,.pointer (some ⟨w.heap.size,0,none⟩),.pointer (some ⟨w.heap.size+1,0,none⟩),.pointer (some ⟨w.heap.size+1+1,0,none⟩),.pointer (some ⟨w.heap.size+1+1+1,0,none⟩),.int .i64 (i:Int),A1 9,A1 10,A1 11,.int .i64 (i:Int),A1 13,A1 14,.int .i64 (j:Int),A1 16,A1 17,A1 18,A1 19,C1 0,C1 1,C1 2,C1 3,C1 4,C1 5,C1 6,C1 7,C1 8,C1 9,C1 10,C1 11,C1 12,C1 13,C1 14,C1 15,C1 16,C1 17,C1 18,C1 19,D1 0,D1 1,D1 2,D1 3,D1 4,D1 5],defers:=[]}->Aa b w Wl1->Fl b s1.2 Wl1->Ap w.heap.size (row 78 x) Wl1->Ap (w.heap.size+1) (row 78 y) Wl1->Ap (w.heap.size+1+1) (row 36 (fun _=>0)) Wl1->Ap (w.heap.size+1+1+1) (row 36 s1.1) Wl1->G_)->G_):=⟨_,rfl⟩
  refine CV J1 6 ?_ ?_ ?_
  ·refine DN (fun a_ ea_=>?_)
   rw[hJ1.out]
   intro G_ hG_
   exact hG_ (s0.1,s0.2) (zS a_ 0) (zS a_ 20) (zS a_ 40) rfl (by subst ea_;rfl) Kl0 BF_l0 B0_l0 B1_l0 B2_l0 B3_l0
  ·intro j a Wl1 hj hI R hR
   rw[hJ1.out]at hI
   refine hI _ ?_
   clear hI
   intro s1 A1 C1 D1 El1 ea Kl1 BF_l1 B0_l1 B1_l1 B2_l1 B3_l1
   subst ea
   have zl1_BF:=BF_l1.lies
   have zl1_B0:=B0_l1.lies
   have zl1_B1:=B1_l1.lies
   have zl1_B2:=B2_l1.lies
   have zl1_B3:=B3_l1.lies
   have y13_BF:=BF_l1.lies
   have y13_B0:=B0_l1.lies
   have y13_B1:=B1_l1.lies
   have y13_B2:=B2_l1.lies
   have y13_B3:=B3_l1.lies
   go_wp2_with fail
   obtain⟨J2,hJ2⟩:∃J:Nat->Act->World->Prop,Hid (J=fun k a Wl2=>∀G_:Prop,(∀(s2:(Nat->Int)×Bool) (A2 C2 D2:Nat->Value),Hid (BO x y i j ((fun _=>0),s1.2) k=s2)->a={tmps:=#[.pointer (some ⟨b,0,none⟩),A2 1,A2 2,A2 3,.pointer (some ⟨w.heap.size,0,none⟩),.pointer (some ⟨w.heap.size+1,0,none⟩),.pointer (some ⟨w.heap.size+1+1,0,none⟩),.pointer (some ⟨w.heap.size+1+1+1,0,none⟩),.int .i64 (i:Int),.int .i64 (j:Int),.pointer (some ⟨Wl1.heap.size,0,none⟩),A2 11,.int .i64 (i:Int),A2 13,A2 14,.int .i64 (j:Int),A2 16,A2 17,.int .i64 (k:Int),A2 19,C2 0,C2 1,C2 2,C2 3,C2 4,C2 5,C2 6,C2 7,C2 8,C2 9,C2 10,C2 11,C2 12,C2 13,C2 14,C2 15,C2 16,C2 17,C2 18,C2 19,D2 0,D2 1,D2 2,D2 3,D2 4,D2 5],defers:=[]}->Aa b w Wl2->Fl b s2.2 Wl2->Ap w.heap.size (row 78 x) Wl2->Ap (w.heap.size+1) (row 78 y) Wl2->Ap (w.heap.size+1+1) (row 36 (fun _=>0)) Wl2->Ap (w.heap.size+1+1+1) (row 36 s1.1) Wl2->Ap Wl1.heap.size (row 13 s2.1) Wl2->G_)->G_):=⟨_,rfl⟩
   refine CV J2 13 ?_ ?_ ?_
   ·refine DN (fun a_ ea_=>?_)
    rw[hJ2.out]
    intro G_ hG_
    exact hG_ ((fun _=>0),s1.2) (zS a_ 0) (zS a_ 20) (zS a_ 40) rfl (by subst ea_;rfl) (Kl1.al _) (BF_l1.alloc _) (B0_l1.alloc _) (B1_l1.alloc _) (B2_l1.alloc _) (B3_l1.alloc _) (Am _ _ (row 13 (fun _=>0)) _ (by simp))
   ·intro k a Wl2 hk hI R hR
    rw[hJ2.out]at hI
    refine hI _ ?_
    clear hI
    intro s2 A2 C2 D2 El2 ea Kl2 BF_l2 B0_l2 B1_l2 B2_l2 B3_l2 B4_l2
    subst ea
    have zl2_BF:=BF_l2.lies
    have zl2_B0:=B0_l2.lies
    have zl2_B1:=B1_l2.lies
    have zl2_B2:=B2_l2.lies
    have zl2_B3:=B3_l2.lies
    have zl2_B4:=B4_l2.lies
    go_wp2_with fail
    refine wp_region_held_drew (S:=fun w'=>Ap w.heap.size (row 78 x) w'/\Ap (w.heap.size+1) (row 78 y) w') (by kernel_rfl) ⟨B0_l2.drew,B1_l2.drew⟩ (fun zH=>?_)
    refine zT 0 rfl (by kernel_rfl) (fun _ _ _=>id) rfl (fun _ _=>by go_simp<;>with_reducible rfl) zH ?_
    simp only[Act.put,zA,zB,zC]
    refine zT 1 rfl (by kernel_rfl) (fun _ _ _=>id) rfl (fun _ _=>by go_simp<;>with_reducible rfl) zH ?_
    simp only[Act.put,zA,zB,zC]
    refine zT 2 rfl (by kernel_rfl) (fun _ _ _=>id) rfl (fun _ _=>by go_simp<;>with_reducible rfl) zH ?_
    simp only[Act.put,zA,zB,zC]
    refine zT 3 rfl (by kernel_rfl) (fun _ _ _=>id) rfl (fun _ _=>by go_simp<;>with_reducible rfl) zH ?_
    simp only[Act.put,zA,zB,zC]
    refine zT 4 rfl (by kernel_rfl) (fun _ _ _=>id) rfl (fun _ _=>by have hi0:(k:Int)<13:=(by omega);go_simp<;>with_reducible rfl) zH ?_
    simp only[Act.put,zA,zB,zC]
    refine zT 5 rfl (by kernel_rfl) (fun _ _ _=>id) rfl (fun _ _=>by have hi0:(i:Int)<6:=(by omega);go_simp<;>with_reducible rfl) zH ?_
    simp only[Act.put,zA,zB,zC]
    refine zT 6 rfl (by kernel_rfl) (fun _ _ _=>id) rfl (fun wx hS=>by have hc0:wx.cell? ⟨w.heap.size,k*6+i,none⟩=some (.int .i64 (x (k*6+i))):=DI hS.1 (k*6+i) (by omega);go_simp<;>with_reducible rfl) zH ?_
    simp only[Act.put,zA,zB,zC]
    refine zT 7 rfl (by kernel_rfl) (fun _ _ _=>id) rfl (fun _ _=>by go_simp<;>with_reducible rfl) zH ?_
    simp only[Act.put,zA,zB,zC]
    refine zT 8 rfl (by kernel_rfl) (fun _ _ _=>id) rfl (fun _ _=>by go_simp<;>with_reducible rfl) zH ?_
    simp only[Act.put,zA,zB,zC]
    refine zT 9 rfl (by kernel_rfl) (fun _ _ _=>id) rfl (fun _ _=>by have hi0:(k:Int)<13:=(by omega);go_simp<;>with_reducible rfl) zH ?_
    simp only[Act.put,zA,zB,zC]
    refine zT 10 rfl (by kernel_rfl) (fun _ _ _=>id) rfl (fun _ _=>by have hi0:(j:Int)<6:=(by omega);go_simp<;>with_reducible rfl) zH ?_
    simp only[Act.put,zA,zB,zC]
    refine zT 11 rfl (by kernel_rfl) (fun _ _ _=>id) rfl (fun wx hS=>by have hc0:wx.cell? ⟨w.heap.size+1,k*6+j,none⟩=some (.int .i64 (y (k*6+j))):=DI hS.2 (k*6+j) (by omega);go_simp<;>with_reducible rfl) zH ?_
    simp only[Act.put,zA,zB,zC]
    refine zK 12 (by kernel_rfl) rfl (fun K hK=>?_)
    go_simp
    refine(Ak b s2.2 (x (k*6+i)) (y (k*6+j)) _ BF_l2.drew).mono ?_
    rintro e w1 ⟨rfl,f1,k1⟩
    generalize e1:mulS s2.2 (x (k*6+i)) (y (k*6+j))=r1 at f1 ⊢
    have E1:Hid _:=e1
    clear e1
    have K1:Aa b w w1:=Aa.trans Kl2.drew k1
    have B0_1:=B0_l2.drew.kept k1 (zG y1_BF)
    have B1_1:=B1_l2.drew.kept k1 (zG y2_BF)
    have B2_1:=B2_l2.drew.kept k1 (zG y3_BF)
    have B3_1:=B3_l2.drew.kept k1 (zG y4_BF)
    have B4_1:=B4_l2.drew.kept k1 (zG y13_BF)
    have z1:=B4_1.lies
    clear zH
    refine hK.out _ _ ⟨B0_1,B1_1⟩ (fun zH=>?_)
    clear hK K BF_l2 B0_l2 B1_l2 B2_l2 B3_l2 B4_l2 k1
    refine zT 13 rfl (by kernel_rfl) (fun _ _ _=>id) rfl (fun _ _=>by have hi0:(k:Int)<13:=(by omega);go_simp<;>with_reducible rfl) zH ?_
    simp only[Act.put,zA,zB,zC]
    refine zK 14 (by kernel_rfl) rfl (fun K hK=>?_)
    have c5_B4_0:w1.cell? ⟨Wl1.heap.size,k,none⟩=some (.int .i64 (s2.1 k)):=DI B4_1 k (by omega)
    have g5_B4_1:=Anc B4_1 k (by omega)
    go_simp
    clear zH
    refine hK.out _ _ ⟨(B0_1.new Wl1.heap.size k (zL y13_B0) (.int .i64 r1.1)),(B1_1.new Wl1.heap.size k (zL y13_B1) (.int .i64 r1.1))⟩ (fun zH=>?_)
    clear hK K c5_B4_0 g5_B4_1
    refine wpAnyH_done (by kernel_rfl) ?_ _
    clear zH
    go_wp2_with fail
    have hs2:Hid (BO x y i j ((fun _=>0),s1.2) (k+1)=((updF s2.1 k r1.1),r1.2)):=by show _=_;rw[Ev];unfold Df;simp only[El2.out,E1.out]
    refine DN (fun a_ ea_=>?_)
    rw[hJ2.out]
    intro G_ hG_
    exact hG_ ((updF s2.1 k r1.1),r1.2) (zS a_ 0) (zS a_ 20) (zS a_ 40) hs2 (by subst ea_;rfl) (K1.new _ _ (by omega) _) (f1.new Wl1.heap.size k (zL y13_BF) (.int .i64 r1.1)) (B0_1.new Wl1.heap.size k (zL y13_B0) (.int .i64 r1.1)) (B1_1.new Wl1.heap.size k (zL y13_B1) (.int .i64 r1.1)) (B2_1.new Wl1.heap.size k (zL y13_B2) (.int .i64 r1.1)) (B3_1.new Wl1.heap.size k (zL y13_B3) (.int .i64 r1.1)) (NV B4_1 k (by omega) r1.1)
   ·intro a Wl2 hI R
    rw[hJ2.out]at hI
    refine hI _ ?_
    clear hI hJ2
    intro r2 A2 C2 D2 E2 ea Kl2 BF_l2 B0_l2 B1_l2 B2_l2 B3_l2 B4_l2
    subst ea
    have zl2_BF:=BF_l2.lies
    have zl2_B0:=B0_l2.lies
    have zl2_B1:=B1_l2.lies
    have zl2_B2:=B2_l2.lies
    have zl2_B3:=B3_l2.lies
    have zl2_B4:=B4_l2.lies
    go_wp2_with fail
    refine wp_region_held_drew (S:=fun w'=>Ap Wl1.heap.size (row 13 r2.1) w') (by kernel_rfl) B4_l2.drew (fun zH=>?_)
    refine zT 0 rfl (by kernel_rfl) (fun _ _ _=>id) rfl (fun _ _=>by go_simp<;>with_reducible rfl) zH ?_
    simp only[Act.put,zA,zB,zC]
    refine zT 1 rfl (by kernel_rfl) (fun _ _ _=>id) rfl (fun _ _=>by go_simp<;>with_reducible rfl) zH ?_
    simp only[Act.put,zA,zB,zC]
    refine zT 2 rfl (by kernel_rfl) (fun _ _ _=>id) rfl (fun _ _=>by go_simp<;>with_reducible rfl) zH ?_
    simp only[Act.put,zA,zB,zC]
    refine Bw (i:=3) rfl (by kernel_rfl) (by kernel_rfl) (by kernel_rfl) (fun _ _ _ h=>h) (Yj (by rfl) rfl rfl (fun _ hS=>hS) (by kernel_rfl) (by rw[BU];kernel_rfl)) zH ?_
    simp only[Act.put,zA,zB,zC]
    refine zT 5 rfl (by kernel_rfl) (fun _ _ _=>id) rfl (fun _ _=>by have hi0:(i:Int)<6:=(by omega);go_simp<;>with_reducible rfl) zH ?_
    simp only[Act.put,zA,zB,zC]
    refine zK 4 (by kernel_rfl) rfl (fun K hK=>?_)
    go_simp
    refine(Q0 b r2.2 r2.1 _ BF_l2.drew).mono ?_
    rintro e w3 ⟨rfl,f3,k3⟩
    generalize e3:DO r2.2 r2.1=r3 at f3 ⊢
    have E3:Hid _:=e3
    clear e3
    have K3:Aa b w w3:=Aa.trans Kl2.drew k3
    have B0_3:=B0_l2.drew.kept k3 (zG y1_BF)
    have B1_3:=B1_l2.drew.kept k3 (zG y2_BF)
    have B2_3:=B2_l2.drew.kept k3 (zG y3_BF)
    have B3_3:=B3_l2.drew.kept k3 (zG y4_BF)
    have B4_3:=B4_l2.drew.kept k3 (zG y13_BF)
    have z3:=B4_3.lies
    clear zH
    refine hK.out _ _ B4_3 (fun zH=>?_)
    clear hK K BF_l2 B0_l2 B1_l2 B2_l2 B3_l2 B4_l2 k3
    refine zT 6 rfl (by kernel_rfl) (fun _ _ _=>id) rfl (fun _ _=>by have hi0:(j:Int)<6:=(by omega);go_simp<;>with_reducible rfl) zH ?_
    simp only[Act.put,zA,zB,zC]
    refine zK 7 (by kernel_rfl) rfl (fun K hK=>?_)
    have c8_B3_0:w3.cell? ⟨w.heap.size+1+1+1,i*6+j,none⟩=some (.int .i64 (s1.1 (i*6+j))):=DI B3_3 (i*6+j) (by omega)
    have g8_B3_1:=Anc B3_3 (i*6+j) (by omega)
    go_simp
    clear zH
    refine hK.out _ _ (B4_3.new (w.heap.size+1+1+1) (i*6+j) (zG y13_B3) (.int .i64 r3.1)) (fun zH=>?_)
    clear hK K c8_B3_0 g8_B3_1
    refine wpAnyH_done (by kernel_rfl) ?_ _
    clear zH
    go_wp2_with fail
    have hs1:Hid (Bz x y i (s0.1,s0.2) (j+1)=((updF s1.1 (i*6+j) r3.1),r3.2)):=by show _=_;rw[Ew];unfold Dh;simp only[El1.out,E2.out,E3.out]
    refine DN (fun a_ ea_=>?_)
    rw[hJ1.out]
    intro G_ hG_
    exact hG_ ((updF s1.1 (i*6+j) r3.1),r3.2) (zS a_ 0) (zS a_ 20) (zS a_ 40) hs1 (by subst ea_;rfl) (K3.new _ _ (by omega) _) (f3.new (w.heap.size+1+1+1) (i*6+j) (zL y4_BF) (.int .i64 r3.1)) (B0_3.new (w.heap.size+1+1+1) (i*6+j) (zL y4_B0) (.int .i64 r3.1)) (B1_3.new (w.heap.size+1+1+1) (i*6+j) (zL y4_B1) (.int .i64 r3.1)) (B2_3.new (w.heap.size+1+1+1) (i*6+j) (zL y4_B2) (.int .i64 r3.1)) (NV B3_3 (i*6+j) (by omega) r3.1)
  ·intro a Wl1 hI R
   rw[hJ1.out]at hI
   refine hI _ ?_
   clear hI hJ1
   intro r1 A1 C1 D1 E1 ea Kl1 BF_l1 B0_l1 B1_l1 B2_l1 B3_l1
   subst ea
   have zl1_BF:=BF_l1.lies
   have zl1_B0:=B0_l1.lies
   have zl1_B1:=B1_l1.lies
   have zl1_B2:=B2_l1.lies
   have zl1_B3:=B3_l1.lies
   go_wp2_with fail
   have hs0:Hid (Bd x y ((fun _=>0),bad) (i+1)=(r1.1,r1.2)):=by show _=_;rw[Ex];unfold Di;simp only[El0.out,E1.out]
   refine DN (fun a_ ea_=>?_)
   rw[hJ0.out]
   intro G_ hG_
   exact hG_ (r1.1,r1.2) (zS a_ 0) (zS a_ 20) (zS a_ 40) hs0 (by subst ea_;rfl) Kl1 BF_l1 B0_l1 B1_l1 B2_l1 B3_l1
 ·intro a Wl0 hI R
  rw[hJ0.out]at hI
  refine hI _ ?_
  clear hI hJ0
  intro r1 A0 C0 D0 E1 ea Kl0 BF_l0 B0_l0 B1_l0 B2_l0 B3_l0
  subst ea
  have zl0_BF:=BF_l0.lies
  have zl0_B0:=B0_l0.lies
  have zl0_B1:=B1_l0.lies
  have zl0_B2:=B2_l0.lies
  have zl0_B3:=B3_l0.lies
  go_wp2_with (first |(refine Qz (ty:=48) rfl rfl rfl B3_l0 (by kernel_rfl) (by rw[BU];kernel_rfl) ?_)|(refine S9 rfl (by kernel_rfl) ?_))
  refine Stop.mk (Yi (l':=row 36 r1.1) rfl rfl rfl rfl B2_l0 (by simp only[BU]) (by rw[BU];kernel_rfl) (Aj3 _ _) ?_)
  intro w2 B2_2 o2
  have K2:Aa b w w2:=Aa.off Kl0 o2 (by omega)
  have BF_2:=BF_l0.off o2 (zL y3_BF)
  have B3_2:=B3_l0.off o2 (zG y4_B2)
  have z2_B2:=B2_2.lies
  have z2_BF:=BF_2.lies
  have z2_B3:=B3_2.lies
  clear B2_l0 BF_l0 B3_l0 o2
  go_wp2_with (with_reducible refine Ae ?_)
  refine Stop.mk ?_
  refine bodyPost_ret (v:=.agg (row 36 r1.1).toArray) (Ax Tryz.results163 B2_2 rfl (by kernel_rfl) (by rw[BU];kernel_rfl)) rfl ?_
  have hs:Cp bad x y=(r1.1,r1.2):=by unfold Cp;simp only[E1.out]
  rw[hs]
  exact⟨rfl,BF_2,K2⟩
end Go.Proofs.YtgmpfeaanjnhaaaGreatDoor
namespace Go.Proofs.YtgmpfeaanjnhaaaGreatDoor
open Go.RowKit
def OK:List Value->Option (List Int)
 |[]=>some []
 | .int .i64 x::r=>(match OK r with
  |some l=>some (x::l)
  |none=>none)
 |_=>none
theorem LB:∀(vs:List Value) (l:List Int),OK vs=some l->vs=l.map fun x=>.int .i64 x
 |[],l,h=>by cases h;rfl
 | v::r,l,h=>by
  unfold OK at h
  split at h
  ·rename_i heq
   cases heq
  ·rename_i x r' heq
   cases heq
   split at h
   ·rename_i l' hl
    cases h
    rw[LB r l' hl]
    rfl
   ·cases h
  ·cases h
def YW(N:Nat):Dc (Nat->Int) where
 enc g:=.agg (row N g).toArray
 dec v:=match v with
  | .agg cs=>(match OK cs.toList with
   |some l=>(match Nat.beq l.length N with
    |true=>some (fun i=>l.getD i 0)
    |false=>none)
   |none=>none)
  |_=>none
 law v x h:=by
  split at h
  ·rename_i cs
   split at h
   ·rename_i l hl
    split at h
    ·rename_i hb
     cases h
     have hN:l.length=N:=Nat.eq_of_beq_eq_true hb
     have h1:=LB _ _ hl
     have h2:cs.toList=row N (fun i=>l.getD i 0):=by
      rw[h1]
      refine List.ext_getElem (by rw[BU,List.length_map,hN]) (fun i h1 h2=>?_)
      rw[Fg,List.getElem_map,List.getD_eq_getElem?_getD,List.getElem?_eq_getElem (by simpa using h1)]
      rfl
     rw[<-h2]
    ·cases h
   ·cases h
  ·cases h
 np _:=rfl
theorem Aux{τ:Nat->Int}(n:Nat)(g:Nat->Int):As (G0 τ) (List.replicate n uI) (row n g):=by
 have key:∀(l:List Nat),As (G0 τ) (List.replicate l.length uI) (l.map fun i=>.int .i64 (g i)):=by
  intro l
  induction l with
  |nil=>trivial
  |cons a l ih=>exact⟨⟨g a,rfl⟩,ih⟩
 have:=key (List.range n)
 rw[List.length_range]at this
 exact this
theorem Aeh{τ:Nat->Int}(n:Nat)(v:Value)(h:G2 τ (rI n) v):∃g,v=.agg (row n g).toArray:=by
 obtain⟨l,rfl,gl⟩:=h
 have hl:=gl.len
 rw[List.length_replicate]at hl
 refine⟨fun i=>match l[i]? with
  |some (.int _ x)=>x
  |_=>0,?_⟩
 have e:l=row n (fun i=>match l[i]? with
  |some (.int _ x)=>x
  |_=>0):=by
  refine List.ext_getElem (by rw[BU];exact hl.symm) (fun i h1 h2=>?_)
  rw[Fg]
  obtain⟨b,hb,x,rfl⟩:=gl.get i uI (by rw[List.getElem?_replicate];simp;omega)
  rw[hb]
  rw[List.getElem?_eq_getElem h1]at hb
  exact Option.some.inj hb
 exact congrArg (fun l=>Value.agg ⟨l⟩) e
theorem GT(x:Nat->Int)(z:Int×Bool)(h:z.2=true):∀n,(B5 x z n).2=true
 |0=>h
 |n+1=>by
  have ih:=GT x z h n
  show(De x n (B5 x z n)).2=true
  unfold De
  dsimp only
  rw[ih,JZ (show tk true _=false from rfl)]
theorem TN(x:Nat->Int):(DO true x).2=true:=by
 unfold DO
 dsimp only
 rw[GT x _ rfl,Ei (show tk true _=false from rfl)]
theorem Ga(x y:Nat->Int)(i j:Nat)(z:(Nat->Int)×Bool)(h:z.2=true):∀n,(BO x y i j z n).2=true
 |0=>h
 |n+1=>by
  rw[Ev]
  unfold Df
  dsimp only
  rw[Ga x y i j z h n,Ih (show tk true _=false from rfl)]
theorem Gb(x y:Nat->Int)(i:Nat)(z:(Nat->Int)×Bool)(h:z.2=true):∀n,(Bz x y i z n).2=true
 |0=>h
 |n+1=>by
  rw[Ew]
  unfold Dh
  dsimp only
  rw[Ga x y i n (fun _=>0,(Bz x y i z n).2) (Gb x y i z h n) 13,TN]
theorem Gc(x y:Nat->Int)(z:(Nat->Int)×Bool)(h:z.2=true):∀n,(Bd x y z n).2=true
 |0=>h
 |n+1=>by
  rw[Ex]
  unfold Di
  dsimp only
  rw[Gb x y n ((Bd x y z n).1,(Bd x y z n).2) (Gc x y z h n) 6]
theorem Akq(rest:List Value)(h:As (G2 (fun _=>0)) [rI 78,rI 78] rest):∃x,(Ad (YW 78) (Ac (YW 78))).enc x=rest:=by
 match rest,h with
 |[a,b],⟨ha,hb,_⟩=>
  obtain⟨x,ex⟩:=Aeh 78 a ha
  obtain⟨y,ey⟩:=Aeh 78 b hb
  refine⟨(x,y),?_⟩
  rw[ex,ey]
  rfl
theorem Akr(τ:Nat->Int)(y:Nat->Int):G2 τ (rI 36) ((YW 36).enc y):=⟨row 36 y,rfl,Aux 36 y⟩
def TP(m:Nat)(bad:Bool)(x y:Nat->Int):(Nat->Int)×Bool:=let r1:=Bd x y ((fun _=>0),bad) m;(r1.1,r1.2)
theorem OL(m:Nat)(x y:Nat->Int):(TP m true x y).2=true:=Gc x y (fun _=>0,true) rfl m
theorem YX(x y:Nat->Int):Cp true x y=TP 6 true x y:=by
 unfold Cp TP
 rfl
theorem Q1(x y:Nat->Int):(Cp true x y).2=true:=by
 rw[YX]
 exact OL 6 x y
def Hu:ACt Tryz.prog nq:=AL false (Af Tryz.func163 (by kernel_rfl) (by kernel_rfl)) (FZ (f:=163) (sa:=[rI 78,rI 78]) (sr:=rI 36) (fb:=unkB) (d:=Ad (YW 78) (Ac (YW 78))) (g:=fun bad x=>Cp bad x.1 x.2) (c:=YW 36) (fun b bad x w _ _ hw=>MA b bad x.1 x.2 w hw) Akq Akr (fun x=>Q1 x.1 x.2) (fun τ _ _=>Z8 τ _)) (by decide+kernel)
theorem TQ:∃g,BP Tryz.prog nq 157 [rI 43] (rI 78) unkB g:=Aj (tbl:=[TA,VU,D7]) (dirty:=fun _=>[]) (n:=8) Ao Ag Tryz.func157 rfl (by decide+kernel)
def LC:ACt Tryz.prog nq:=AL false (Af Tryz.func157 (by kernel_rfl) (by kernel_rfl)) TQ (by decide+kernel)
theorem Aks:∃g,BP Tryz.prog nq 176 [rI 43,rI 36,rI 36,rI 6] (rI 43) unkB g:=Aj (tbl:=[Ke,Ly,Kf,Aee,Aef,QY]) (dirty:=fun _=>[]) (n:=8) Ao Ag Tryz.func176 rfl (by decide+kernel)
def Auy:ACt Tryz.prog nq:=AL false (Af Tryz.func176 (by kernel_rfl) (by kernel_rfl)) Aks (by decide+kernel)
theorem Aei:∃g,BP Tryz.prog nq 108 [rI 43,rI 6,rI 6] (.tuple ⟨[rI 43,uI,unkB]⟩) unkB g:=Aj (tbl:=[LC,QZ,Wh,TF,Lz,LA,Hu,Ly,IE,TA,Kf,Ke,Auy]) (dirty:=fun _=>[]) (n:=8) Ao Ag Tryz.func108 rfl (by decide+kernel)
theorem TR:∃g,BP Tryz.prog nq 110 [rI 43] (uI) unkB g:=Aj (tbl:=[EB]) (dirty:=fun _=>[]) (n:=8) Ao Ag Tryz.func110 rfl (by decide+kernel)
theorem TS:∃g,BP Tryz.prog nq 218 [uI] (.tuple ⟨[uI,uI]⟩) unkB g:=Aj (tbl:=[Ai7]) (dirty:=fun _=>[]) (n:=8) Ao Ag Tryz.func218 rfl (by decide+kernel)
def Q2:ACt Tryz.prog nq:=AL false (Af Tryz.func218 (by kernel_rfl) (by kernel_rfl)) TS (by decide+kernel)
theorem Aej:∃g,BP Tryz.prog nq 220 [uI] (uI) unkB g:=Aj (tbl:=[D7,EC,F0]) (dirty:=fun _=>[]) (n:=12) Ao Ag Tryz.func220 rfl (by decide+kernel)
def Aek:ACt Tryz.prog nq:=AL false (Af Tryz.func220 (by kernel_rfl) (by kernel_rfl)) Aej (by decide+kernel)
theorem TT:∃g,BP Tryz.prog nq 219 [uI] (uI) unkB g:=Aj (tbl:=[D7,EC,F0]) (dirty:=fun _=>[]) (n:=12) Ao Ag Tryz.func219 rfl (by decide+kernel)
def Q3:ACt Tryz.prog nq:=AL false (Af Tryz.func219 (by kernel_rfl) (by kernel_rfl)) TT (by decide+kernel)
theorem Akt:∃g,BP Tryz.prog nq 146 [uI] (uI) unkB g:=Aj (tbl:=[Q2,Aek,Q3]) (dirty:=fun _=>[]) (n:=8) Ao Ag Tryz.func146 rfl (by decide+kernel)
def LD:ACt Tryz.prog nq:=AL false (Af Tryz.func146 (by kernel_rfl) (by kernel_rfl)) Akt (by decide+kernel)
theorem Aku:∃g,BP Tryz.prog nq 145 [uI] (uI) unkB g:=Aj (tbl:=[Q2,Aek,Q3]) (dirty:=fun _=>[]) (n:=8) Ao Ag Tryz.func145 rfl (by decide+kernel)
def LE:ACt Tryz.prog nq:=AL false (Af Tryz.func145 (by kernel_rfl) (by kernel_rfl)) Aku (by decide+kernel)
theorem YY:∃g,Ps Tryz.prog 67 [uI] (unkB) g:=Cg (nq:=nq) (tbl:=[]) (dirty:=fun _=>[]) (n:=8) Ag Tryz.func67 rfl (by decide+kernel)
def IF:ACt Tryz.prog nq:=Hc (Af Tryz.func67 (by kernel_rfl) (by kernel_rfl)) YY (by decide+kernel)
theorem Ael:∃g,BP Tryz.prog nq 141 [uI] (uI) unkB g:=Aj (tbl:=[IF,FE,F0]) (dirty:=fun _=>[]) (n:=8) Ao Ag Tryz.func141 rfl (by decide+kernel)
def TU:ACt Tryz.prog nq:=AL false (Af Tryz.func141 (by kernel_rfl) (by kernel_rfl)) Ael (by decide+kernel)
theorem Aem:∃g,BP Tryz.prog nq 149 [uI] (uI) unkB g:=Aj (tbl:=[IF,FE,F0,D7,TU,Ai7,EB]) (dirty:=fun _=>[]) (n:=8) Ao Ag Tryz.func149 rfl (by decide+kernel)
def Aqs:ACt Tryz.prog nq:=AL false (Af Tryz.func149 (by kernel_rfl) (by kernel_rfl)) Aem (by decide+kernel)
theorem OM:∃g,Ps Tryz.prog 91 [uI,uI] (unkB) g:=Cg (nq:=nq) (tbl:=[D7]) (dirty:=fun _=>[]) (n:=8) Ag Tryz.func91 rfl (by decide+kernel)
def TV:ACt Tryz.prog nq:=Hc (Af Tryz.func91 (by kernel_rfl) (by kernel_rfl)) OM (by decide+kernel)
theorem LF:∃g,Ps Tryz.prog 92 [uI] (unkB) g:=Cg (nq:=nq) (tbl:=[]) (dirty:=fun _=>[]) (n:=8) Ag Tryz.func92 rfl (by decide+kernel)
def ON:ACt Tryz.prog nq:=Hc (Af Tryz.func92 (by kernel_rfl) (by kernel_rfl)) LF (by decide+kernel)
theorem YZ:∃g,Ps Tryz.prog 71 [rI 7] (unkB) g:=Cg (nq:=nq) (tbl:=[TV,ON,IF]) (dirty:=fun _=>[]) (n:=8) Ag Tryz.func71 rfl (by decide+kernel)
def Akv:ACt Tryz.prog nq:=Hc (Af Tryz.func71 (by kernel_rfl) (by kernel_rfl)) YZ (by decide+kernel)
theorem TW:∃g,BP Tryz.prog nq 144 [uI,uI] (uI) unkB g:=Aj (tbl:=[FE,EC,D7,Ms,LD,LE]) (dirty:=fun _=>[]) (n:=8) Ao Ag Tryz.func144 rfl (by decide+kernel)
def Aen:ACt Tryz.prog nq:=AL false (Af Tryz.func144 (by kernel_rfl) (by kernel_rfl)) TW (by decide+kernel)
theorem Q4:∃g,BP Tryz.prog nq 142 [rI 7] (rI 3) unkB g:=Aj (tbl:=[VU,EC,D7,LD,LE]) (dirty:=fun _=>[]) (n:=8) Ao Ag Tryz.func142 rfl (by decide+kernel)
def Y0:ACt Tryz.prog nq:=AL false (Af Tryz.func142 (by kernel_rfl) (by kernel_rfl)) Q4 (by decide+kernel)
theorem Q5:∃g,BP Tryz.prog nq 143 [rI 7,rI 3,uI] (rI 3) unkB g:=Aj (tbl:=[Ms,VU,D7,EC,F0,EB,Ai7]) (dirty:=fun _=>[]) (n:=8) Ao Ag Tryz.func143 rfl (by decide+kernel)
def Y1:ACt Tryz.prog nq:=AL false (Af Tryz.func143 (by kernel_rfl) (by kernel_rfl)) Q5 (by decide+kernel)
theorem TX:∃g,BP Tryz.prog nq 147 [uI,uI,uI] (.tuple ⟨[uI,uI]⟩) unkB g:=Aj (tbl:=[LD,LE,EC,D7,EB]) (dirty:=fun _=>[]) (n:=8) Ao Ag Tryz.func147 rfl (by decide+kernel)
def Aeo:ACt Tryz.prog nq:=AL false (Af Tryz.func147 (by kernel_rfl) (by kernel_rfl)) TX (by decide+kernel)
theorem Y2:∃g,BP Tryz.prog nq 100 [rI 7,uI] (rI 3) unkB g:=Aj (tbl:=[Akv,IF,FE,EC,TU,Y0,Y1,Aen,D7,LE,LD,Aeo]) (dirty:=fun _=>[]) (n:=8) Ao Ag Tryz.func100 rfl (by decide+kernel)
theorem Y3:∃g,BP Tryz.prog nq 148 [uI] (uI) unkB g:=Aj (tbl:=[EB,D7,EC,F0,Ai7,Ms,LD,LE]) (dirty:=fun _=>[]) (n:=8) Ao Ag Tryz.func148 rfl (by decide+kernel)
def Akw:ACt Tryz.prog nq:=AL false (Af Tryz.func148 (by kernel_rfl) (by kernel_rfl)) Y3 (by decide+kernel)
theorem MB:∃g,BP Tryz.prog nq 101 [uI] (rI 3) unkB g:=Aj (tbl:=[IF,FE,TU,Akw,LD,LE,D7,EB,EC]) (dirty:=fun _=>[]) (n:=8) Ao Ag Tryz.func101 rfl (by decide+kernel)
theorem TY:∃g,BP Tryz.prog nq 106 [rI 3,rI 3] (unkB) unkB g:=Aj (tbl:=[Wf,Lx,OI,We,Nu,OJ,D7,EB,EC]) (dirty:=fun _=>[]) (n:=8) Ao Ag Tryz.func106 rfl (by decide+kernel)
theorem TZ:∃g,Ps Tryz.prog 136 [XJ,uI] (unkB) g:=Cg (nq:=nq) (tbl:=[]) (dirty:=fun _=>[]) (n:=8) Ag Tryz.func136 rfl (by decide+kernel)
def Aep:ACt Tryz.prog nq:=Hc (Af Tryz.func136 (by kernel_rfl) (by kernel_rfl)) TZ (by decide+kernel)
theorem Aeq:∃g,BP Tryz.prog nq 212 [rI 3,uI,uI] (rI 3) unkB g:=Aj (tbl:=[F0]) (dirty:=fun _=>[]) (n:=8) Ao Ag Tryz.func212 rfl (by decide+kernel)
def Aqt:ACt Tryz.prog nq:=AL false (Af Tryz.func212 (by kernel_rfl) (by kernel_rfl)) Aeq (by decide+kernel)
theorem T0:∃g,BP Tryz.prog nq 137 [XJ,rI 3,uI] (rI 3) unkB g:=Aj (tbl:=[We,Aqt,Nu]) (dirty:=fun _=>[]) (n:=8) Ao Ag Tryz.func137 rfl (by decide+kernel)
def Aer:ACt Tryz.prog nq:=AL false (Af Tryz.func137 (by kernel_rfl) (by kernel_rfl)) T0 (by decide+kernel)
theorem Aes:∃g,BP Tryz.prog nq 99 [XJ,rI 3,uI] (XJ) unkB g:=Aj (tbl:=[Aep,Aer,Nu]) (dirty:=fun _=>[]) (n:=8) Ao Ag Tryz.func99 rfl (by decide+kernel)
theorem Anz{τ:Nat->Int}(v:Value)(h:G2 τ uI v):∃y,cI.enc y=v:=by
 obtain⟨x,rfl⟩:=h
 exact⟨x,rfl⟩
theorem An0{τ:Nat->Int}(v:Value)(h:G2 τ unkB v):∃y,cB.enc y=v:=by
 obtain⟨x,rfl⟩:=h
 exact⟨x,rfl⟩
theorem Aqu{τ:Nat->Int}(x:Dri):G2 τ XJ (cDri.enc x):=⟨cDri.enc x |>.cells.toList,rfl,⟨x.1,rfl⟩,Od 7 x.2⟩
theorem Akx{τ:Nat->Int}(v:Value)(h:G2 τ XJ v):∃y,cDri.enc y=v:=by
 obtain⟨l,rfl,gl⟩:=h
 match l,gl with
 |b::r,⟨⟨x,e⟩,gr⟩=>
  obtain⟨y,rfl⟩:=J8 7 r gr
  rw[e]
  exact⟨(x,y),rfl⟩
theorem Aky{τ:Nat->Int}(v:Value)(h:G2 τ (.tuple ⟨[rI 43,uI,unkB]⟩) v):∃y,(I6 (cT 43) cI cB).enc y=v:=by
 obtain⟨l,rfl,gl⟩:=h
 match l,gl with
 |[a,b,c],⟨ga,⟨x,eb⟩,⟨y,ec⟩,_⟩=>
  obtain⟨z,ez⟩:=P8 (τ:=τ) 43 a ga.g2
  rw[eb,ec,<-ez]
  exact⟨(z,x,y),rfl⟩
theorem Aet:∃g,Ba Tryz.prog 100 (Ad (cT 7) (Ac cI)) g (cT 3):=(BV Y2 (Ad (cT 7) (Ac cI)) (cT 3) (fun x=>⟨Fj 7 x.1,⟨x.2,rfl⟩,trivial⟩) (fun _ v h=>P8 3 v h)).imp fun _ h=>h.1
theorem Aqv:∃g,Ba Tryz.prog 101 (Ac cI) g (cT 3):=(BV MB (Ac cI) (cT 3) (fun x=>⟨⟨x,rfl⟩,trivial⟩) (fun _ v h=>P8 3 v h)).imp fun _ h=>h.1
theorem Akz:∃g,Ba Tryz.prog 104 (Ac (cT 3)) g cI:=(BV QR (Ac (cT 3)) cI (fun x=>⟨Fj 3 x,trivial⟩) (fun _ v h=>Anz v h)).imp fun _ h=>h.1
theorem Aeu:∃g,Ba Tryz.prog 153 (Ad (cT 3) (Ac (cT 3))) g cB:=(BV Nx (Ad (cT 3) (Ac (cT 3))) cB (fun x=>⟨Fj 3 x.1,Fj 3 x.2,trivial⟩) (fun _ v h=>An0 v h)).imp fun _ h=>h.1
theorem Y4:∃g,Ba Tryz.prog 106 (Ad (cT 3) (Ac (cT 3))) g cB:=(BV TY (Ad (cT 3) (Ac (cT 3))) cB (fun x=>⟨Fj 3 x.1,Fj 3 x.2,trivial⟩) (fun _ v h=>An0 v h)).imp fun _ h=>h.1
theorem Ak0:∃g,Ba Tryz.prog 108 (Ad (cT 43) (Ad (cT 6) (Ac (cT 6)))) g (I6 (cT 43) cI cB):=(BV Aei (Ad (cT 43) (Ad (cT 6) (Ac (cT 6)))) (I6 (cT 43) cI cB) (fun x=>⟨Fj 43 x.1,Fj 6 x.2.1,Fj 6 x.2.2,trivial⟩) (fun _ v h=>Aky v h)).imp fun _ h=>h.1
theorem Y5:∃g,Ba Tryz.prog 110 (Ac (cT 43)) g cI:=(BV TR (Ac (cT 43)) cI (fun x=>⟨Fj 43 x,trivial⟩) (fun _ v h=>Anz v h)).imp fun _ h=>h.1
theorem Aev:∃g,Ba Tryz.prog 99 (Ad cDri (Ad (cT 3) (Ac cI))) g cDri:=(BV Aes (Ad cDri (Ad (cT 3) (Ac cI))) cDri (fun x=>⟨Aqu x.1,Fj 3 x.2.1,⟨x.2.2,rfl⟩,trivial⟩) (fun _ v h=>Akx v h)).imp fun _ h=>h.1
abbrev Auz:Dl Hea:=JW 5 (dT 5) (JW 5 (dT 5) (JW 5 (dT 5) (Ac cI)))
def Kg:Hea:=((0,0,0,0,0,()),(0,0,0,0,0,()),(0,0,0,0,0,()),0)
def zeroCra:Cra:=(false,0,noBytes,(0,0,0,0,0,0,()),false,(0,0,0,0,0,0,0,()),(false,(0,0,0,0,0,0,0,())),zeroG,(0,0,0,()))
def Q6(c:Cra)(l:ByteArray):Cra:=(c.1,c.2.1,l,c.2.2.2)
def EZ(F:Fs)(t:Int)(s:Cra×Hea)(f:Fra):Cra×Hea:=
 if f.1=1 then senW F s.1 s.2 f t else if f.1=2 then senW F s.1 s.2 f t else if f.1=3 then senW F s.1 s.2 f t else if f.1=16 then ordC s.1 s.2 (F.oread f)else(rejC s.1,s.2)
def LG(f:UInt8×List UInt8):Fra:=((f.1.toNat:Nat),⟨f.2.toArray⟩)
def Ak1(c:Cra)(L:List UInt8):Cra:=if ((scanL L).2.2:Nat)>(0:Int)then rejC (Q6 c (restOf L))else Q6 c (restOf L)
def takeW(F:Fs)(c:Cra)(t:Int)(b:ByteArray):Cra×Hea:=
 ((scanL (c.2.2.1++b).data.toList).1.map LG).foldl (EZ F t) (Ak1 c (c.2.2.1++b).data.toList,Kg)
def tks:List Nat:=[1,3,6,7,11,32,33,31]
def tkF(t n i:Int)(sl:Value)(d:Nat->Value):List Value:=frm [(1,.int .i64 t),(3,ptr 0),(6,ptr 1),(7,ptr 2),(11,ptr 4),(32,.int .i64 n),(33,.int .i64 i),(31,sl)] d 67
def tkE(t n i:Int)(sl:Value)(d:Nat->Value):List Value:=vset ((tkF t n i sl d).set 34 (.bool (decide (i<n)))) (.tmp 34) false
def tkM(c:Cra)(h:Hea)(l:List (UInt8×List UInt8)):Xm:=[Ajh.enc c,Ajh.enc zeroCra,Auz.enc Kg,cellsOf l,Auz.enc h]
def tkT(F:Fs)(h:FsOk F):List (Ct Tryz.prog):=[Hg,Ot F h,Ou F h]
def tkO(F:Fs)(h:FsOk F)(l:List (UInt8×List UInt8)):Ov:=fun id=>match id with
 |1=>some fun _ _=>r1
 |6=>some fun _ _=>r6 tks l
 |8=>some fun _ _=>r8 l
 |17=>some (Anr Tryz.prog (tkT F h) (fun _=>[]) 17 tks 67 5)
 |_=>none
def tkB(P:Program):Code:=CC [true,true,true,true,true,false,true] (AP P 73)
def tkL(P:Program):Code:=CC [false,false] (tkB P)
def tkZ(P:Program):Code:=CC [true,true,true,true,true,true] (AP P 73)
section
variable (F:Fs) (h:FsOk F)
def nx(t nn i:Int)(sl:Value)(l:List (UInt8×List UInt8))(Q:VQ)(s:Cra×Hea):Prop:=
 67=67/\(KX 5 sl&&true)=true/\∀d,Q .normal (tkF t nn (IntKind.i64.wrap (i+1)) sl d) (tkM s.1 s.2 l)
set_option maxRecDepth 100000 in
theorem Aew(n:Nat)(t nn i:Int)(sl:Value)(d:Nat->Value)(l:List (UInt8×List UInt8))(c:Cra)(x:Hea)(Q:VQ):
    BR Tryz.prog (tkT F h) (fun _=>[]) n (tkO F h l) (tkL Tryz.prog) Q (tkF t nn i sl d) (tkM c x l)=
      DY (decide (i<nn)) ((0<=i/\i.toNat<l.length)/\Lf sl l/\some (cellsOf l)=some (cellsOf l)/\5=5/\36<67/\
        DY (decide ((frL l i).1=1)) (nx t nn i sl l Q (senW F c x (frL l i) t)) (DY (decide ((frL l i).1=2)) (nx t nn i sl l Q (senW F c x (frL l i) t)) (DY (decide ((frL l i).1=3)) (nx t nn i sl l Q (senW F c x (frL l i) t))
          (DY (decide ((frL l i).1=16)) (nx t nn i sl l Q (ordC c x (F.oread (frL l i)))) (nx t nn i sl l Q (rejC c,x))))))
      (Q (.exit 0) (tkE t nn i sl d) (tkM c x l)):=by kernel_rfl
theorem Aex(t nn i:Int)(sl:Value)(l:List (UInt8×List UInt8))(c:Cra)(x:Hea)(Q:VQ):
    DY (decide ((frL l i).1=1)) (nx t nn i sl l Q (senW F c x (frL l i) t)) (DY (decide ((frL l i).1=2)) (nx t nn i sl l Q (senW F c x (frL l i) t)) (DY (decide ((frL l i).1=3)) (nx t nn i sl l Q (senW F c x (frL l i) t))
          (DY (decide ((frL l i).1=16)) (nx t nn i sl l Q (ordC c x (F.oread (frL l i)))) (nx t nn i sl l Q (rejC c,x)))))=nx t nn i sl l Q (EZ F t (c,x) (frL l i)):=by
 generalize hE:nx t nn i sl l Q=E
 generalize frL l i=f
 unfold EZ
 dsimp only
 generalize senW F c x f t=A
 generalize ordC c x (F.oread f)=B
 generalize (rejC c,x)=C
 by_cases h1:f.1=1
 ·rw[decide_eq_true h1,if_pos h1];rfl
 rw[decide_eq_false h1,if_neg h1]
 by_cases h2:f.1=2
 ·rw[decide_eq_true h2,if_pos h2];rfl
 rw[decide_eq_false h2,if_neg h2]
 by_cases h3:f.1=3
 ·rw[decide_eq_true h3,if_pos h3];rfl
 rw[decide_eq_false h3,if_neg h3]
 by_cases h4:f.1=16
 ·rw[decide_eq_true h4,if_pos h4];rfl
 ·rw[decide_eq_false h4,if_neg h4];rfl
theorem Aqw(pre rest:List (UInt8×List UInt8))(f:UInt8×List UInt8):frL (pre++f::rest) (pre.length:Nat)=LG f:=by
 unfold frL LG
 rw[Int.toNat_natCast,List.getElem?_append_right (Nat.le_refl _),Nat.sub_self]
 rfl
def TkR(F:Fs)(t:Int)(sl:Value)(l:List (UInt8×List UInt8))(G:VQ->List Value->Xm->Prop):Prop:=∀(nn i:Int) (d:Nat->Value) (c:Cra) (x:Hea) (Q:VQ),G Q (tkF t nn i sl d) (tkM c x l)=
      DY (decide (i<nn)) ((0<=i/\i.toNat<l.length)/\Lf sl l/\some (cellsOf l)=some (cellsOf l)/\5=5/\36<67/\nx t nn i sl l Q (EZ F t (c,x) (frL l i)))
      (Q (.exit 0) (tkE t nn i sl d) (tkM c x l))
theorem Ak3{t:Int}{sl:Value}{l:List (UInt8×List UInt8)}{G:VQ->List Value->Xm->Prop}(hG:TkR F t sl l G)(hl:l.length<=5000)(hs:Lf sl l)(hp:KX 5 sl=true)(Q:VQ)(rest:List (UInt8×List UInt8)):∀(pre:List (UInt8×List UInt8)),l=pre++rest->∀(d:Nat->Value) (s:Cra×Hea),
    (∀i d,Q (.exit 0) (tkE t l.length i sl d) (tkM ((rest.map LG).foldl (EZ F t) s).1 ((rest.map LG).foldl (EZ F t) s).2 l))->
    Io (rest.length+1) G Q (tkF t l.length pre.length sl d) (tkM s.1 s.2 l):=by
 induction rest with
 |nil=>
  intro pre e d s hQ
  have e1:l.length=pre.length:=by rw[e];simp
  rw[List.length_nil,Io,hG,decide_eq_false (by omega)]
  exact hQ _ d
 | cons f rest ih=>
  intro pre e d s hQ
  have e1:l.length=pre.length+(rest.length+1):=by rw[e];simp
  rw[List.length_cons,Io,hG,decide_eq_true (by omega)]
  refine⟨⟨by omega,by rw[Int.toNat_natCast];omega⟩,hs,rfl,rfl,by decide,rfl,by rw[hp];rfl,fun d=>?_⟩
  have hw:IntKind.i64.wrap ((pre.length:Int)+1)=((pre++[f]).length:Nat):=by
   rw[IntKind.wrap_i64,List.length_append,List.length_singleton]
   omega
  have hf:frL l (pre.length:Nat)=LG f:=by rw[e];exact Aqw pre rest f
  rw[hw,hf]
  exact ih (pre++[f]) (by rw[e];simp) d (EZ F t s (LG f)) hQ
theorem Aqx(n:Nat)(t:Int)(sl:Value)(l:List (UInt8×List UInt8)):TkR F t sl l (BR Tryz.prog (tkT F h) (fun _=>[]) n (tkO F h l) (tkL Tryz.prog)):=by
 intro nn i d c x Q
 rw[Aew,Aex]
def tkQ(F:Fs)(h:FsOk F)(l:List (UInt8×List UInt8))(n:Nat)(Q:VQ):VQ:=fun e vt m=>match e with
 | .normal=>BR Tryz.prog (tkT F h) (fun _=>[]) n (tkO F h l) (tkZ Tryz.prog) Q vt m
 |e=>Q e vt m
def tkX(F:Fs)(h:FsOk F)(l:List (UInt8×List UInt8))(n:Nat)(t:Int)(Q:VQ)(sl:Value)(c:Cra):Prop:=
 Lf sl l/\33<67/\67=67/\(KX 5 sl&&true)=true/\∀d,BR Tryz.prog (tkT F h) (fun _=>[]) n (tkO F h l) (tkB Tryz.prog) (tkQ F h l n Q) (tkF t l.length 0 sl d) (tkM c Kg l)
set_option maxRecDepth 100000 in
theorem Aey(n:Nat)(t:Int)(c:Cra)(b:ByteArray)(Q:VQ):
    BR Tryz.prog (tkT F h) (fun _=>[]) n (tkO F h (scanL (c.2.2.1++b).data.toList).1) (AP Tryz.prog 73) Q ((Ad Bo (Ad cI (Ac cS))).enc (c,t,b)++List.replicate ((BA Tryz.prog 73).ntmps-((Ad Bo (Ad cI (Ac cS))).enc (c,t,b)).length) undef) []=
      (c.2.2.1.size+b.size<=5000/\3=3/\67=67/\∀sl,Lf sl (scanL (c.2.2.1++b).data.toList).1->DY (decide (((scanL (c.2.2.1++b).data.toList).2.2:Nat)>(0:Int)))
        (tkX F h (scanL (c.2.2.1++b).data.toList).1 n t Q sl (rejC (Q6 c (restOf (c.2.2.1++b).data.toList)))) (tkX F h (scanL (c.2.2.1++b).data.toList).1 n t Q sl (Q6 c (restOf (c.2.2.1++b).data.toList)))):=by kernel_rfl
set_option maxRecDepth 100000 in
theorem Aqy(n:Nat)(t i nn:Int)(sl:Value)(d:Nat->Value)(l:List (UInt8×List UInt8))(c:Cra)(x:Hea)(Post:Value->Prop):
    BR Tryz.prog (tkT F h) (fun _=>[]) n (tkO F h l) (tkZ Tryz.prog) (Cv Tryz.prog (BA Tryz.prog 73) (fun v _=>Post v)) (tkE t nn i sl d) (tkM c x l)=Post ((AV Bo Dq).enc (c,x)):=by kernel_rfl
set_option maxRecDepth 100000 in
theorem Au0(l:List (UInt8×List UInt8))(w:World):D9 Tryz.prog (tkO F h l) [] w [] [] (AP Tryz.prog 73):=by
 refine EF (ns:=[(1,#[(Bc Tryz.prog 73 1 0),(Bc Tryz.prog 73 1 1),(Bc Tryz.prog 73 1 2),(Bc Tryz.prog 73 1 3),(Bc Tryz.prog 73 1 4),(Bc Tryz.prog 73 1 5),(Bc Tryz.prog 73 1 6),(Bc Tryz.prog 73 1 7),(Bc Tryz.prog 73 1 8),(Bc Tryz.prog 73 1 9),(Bc Tryz.prog 73 1 10),(Bc Tryz.prog 73 1 11)],false),(6,#[(Bc Tryz.prog 73 6 0),(Bc Tryz.prog 73 6 1),(Bc Tryz.prog 73 6 2)],false),(8,#[(Bc Tryz.prog 73 8 0),(Bc Tryz.prog 73 8 1),(Bc Tryz.prog 73 8 2),(Bc Tryz.prog 73 8 3)],false),(17,KY Tryz.prog 73 17,false)]) (by kernel_rfl) ?_
 intro r hr
 rcases List.mem_cons.1 hr with rfl |hr
 ·intro R hR K Q bl vt m a w h r hK
  cases hR
  exact Acx (tC:=52) (tT:=9) (fn:=94) rfl (by kernel_rfl) (by kernel_rfl) rfl ⟨by kernel_rfl,by kernel_rfl,by kernel_rfl⟩ ⟨by kernel_rfl,by kernel_rfl,by kernel_rfl⟩ ⟨by kernel_rfl,by kernel_rfl,by kernel_rfl⟩ ⟨by kernel_rfl,by kernel_rfl,by kernel_rfl⟩ ⟨by kernel_rfl,by kernel_rfl,by kernel_rfl⟩ ⟨by kernel_rfl,by kernel_rfl,by kernel_rfl⟩ ⟨by kernel_rfl,by kernel_rfl,by kernel_rfl⟩ ⟨by kernel_rfl,by kernel_rfl,by kernel_rfl⟩ ⟨by kernel_rfl,by kernel_rfl,by kernel_rfl⟩ ⟨by kernel_rfl,by kernel_rfl,by kernel_rfl⟩ ⟨by kernel_rfl,by kernel_rfl,by kernel_rfl⟩ ⟨by kernel_rfl,by kernel_rfl,by kernel_rfl⟩ h r hK
 rcases List.mem_cons.1 hr with rfl |hr
 ·intro R hR K Q bl vt m a w h r hK
  cases hR
  exact Acu (tS:=163) (e:=77) (by decide) (by kernel_rfl) rfl ⟨by kernel_rfl,by kernel_rfl,by kernel_rfl⟩ ⟨by kernel_rfl,by kernel_rfl,by kernel_rfl⟩ ⟨by kernel_rfl,by kernel_rfl,by kernel_rfl⟩ h r hK
 rcases List.mem_cons.1 hr with rfl |hr
 ·intro R hR K Q bl vt m a w h r hK
  cases hR
  exact Acv (tS:=163) (tF:=77) (z:=.agg #[.int .i64 0,.string ⟨#[]⟩]) (by kernel_rfl) (by kernel_rfl) (by kernel_rfl) (by kernel_rfl) rfl rfl ⟨by kernel_rfl,by kernel_rfl,by kernel_rfl⟩ ⟨by kernel_rfl,by kernel_rfl,by kernel_rfl⟩ ⟨by kernel_rfl,by kernel_rfl,by kernel_rfl⟩ ⟨by kernel_rfl,by kernel_rfl,by kernel_rfl⟩ h r hK
 rcases List.mem_cons.1 hr with rfl |hr
 ·intro R hR K Q bl vt m a w h r hK
  cases hR
  exact Qm Ag (by decide) h r hK
 ·cases hr
theorem Jj:∀(f:Nat) (s:List UInt8),(BW f s).1.length<=f
 |0,_=>Nat.le_refl _
 | f+1,s=>by
  unfold BW
  split
  ·exact Nat.zero_le _
  ·have:=Jj f (s.drop 1)
   dsimp only
   omega
  ·rename_i n _
   have:=Jj f (s.drop (n+5))
   simp only[List.length_cons]
   omega
theorem Aez(L:List UInt8):(scanL L).1.length<=L.length:=Jj _ L
set_option maxRecDepth 100000 in
theorem Ae0(h:FsOk F)(x:Cra×Int×ByteArray)(hs:x.1.2.2.1.size+x.2.2.size<=5000)(w:World)(hw:GW w):
    Calls Tryz.prog 73 ((Ad Bo (Ad cI (Ac cS))).enc x).toArray w fun e w'=>e=.returned ((AV Bo Dq).enc (takeW F x.1 x.2.1 x.2.2))/\Below w.heap.size w w':=by
 obtain⟨c,t,b⟩:=x
 dsimp only at hs ⊢
 refine KZ (tbl:=tkT F h) (dirty:=fun _=>[]) (n:=(scanL (c.2.2.1++b).data.toList).1.length+1) (ov:=tkO F h (scanL (c.2.2.1++b).data.toList).1) Ag (by kernel_rfl) (by kernel_rfl) (Au0 F h _) ?_ w hw
 rw[Aey]
 have hL:(scanL (c.2.2.1++b).data.toList).1.length<=5000:=Nat.le_trans (Aez _) (by simpa [ByteArray.size_append]using hs)
 refine⟨hs,rfl,rfl,fun sl hsl=>?_⟩
 have hp:KX 5 sl=true:=by
  rcases hsl with⟨rfl,_⟩|⟨cap,rfl⟩<;>rfl
 have key:∀c':Cra,c'=Ak1 c (c.2.2.1++b).data.toList->tkX F h (scanL (c.2.2.1++b).data.toList).1 ((scanL (c.2.2.1++b).data.toList).1.length+1) t (Cv Tryz.prog (BA Tryz.prog 73) (fun v _=>v=(AV Bo Dq).enc (takeW F c t b))) sl c':=by
  intro c' hc
  refine⟨hsl,by decide,rfl,by rw[hp];rfl,fun d=>?_⟩
  refine Ak3 F (Aqx F h _ t sl _) hL hsl hp _ _ [] rfl d (c',Kg) (fun i d=>?_)
  refine Eq.mpr (Aqy F h _ t i _ sl d _ _ _ (fun v=>v=(AV Bo Dq).enc (takeW F c t b))) ?_
  rw[hc]
  rfl
 unfold Ak1 at key
 by_cases ho:((scanL (c.2.2.1++b).data.toList).2.2:Nat)>(0:Int)
 ·rw[decide_eq_true ho]
  exact key _ (if_pos ho).symm
 ·rw[decide_eq_false ho]
  exact key _ (if_neg ho).symm
end
open Go.Maps Go.WideMaps
theorem Wl:ArrKey Tryz.prog 343 3 2:=⟨Tryz.underlying343,by kernel_rfl,by kernel_rfl,by kernel_rfl⟩
theorem Kh:Keyed Tryz.prog 343:=Keyed.of_law Wl.law
theorem Ak4(w:World):(zeroValue 2).run Tryz.prog w=.ok (.int .i64 0) w:=by kernel_rfl
theorem T7:∃m,Tryz.prog.types.size=m+1:=⟨Tryz.prog.types.size-1,by have h:0<Tryz.prog.types.size:=of_decide_eq_true (by kernel_rfl);omega⟩
structure Cj(n:Int):Prop where
 lo:-9223372036854775808<=n
 hi:n<=9223372036854775807
theorem Cj.wf{n:Int}(h:Cj n):(Lit.int .i64 n).wf=true:=by
 have:=h.lo;have:=h.hi
 simp only[Lit.wf,IntKind.min,IntKind.max,IntKind.signed,IntKind.bits,Bool.and_eq_true,decide_eq_true_eq,if_true]
 omega
def kyl(n m:Int):Lit:=.string (keyBytes [.int .i64 n,.int .i64 m])
theorem LH{n m:Int}(hn:Cj n)(hm:Cj m):keyOf Tryz.prog 343 (.agg #[.int .i64 n,.int .i64 m])=some (kyl n m):=
 keyOf_pair Wl Tryz.underlying3 T7 hn.wf hm.wf
theorem Ak5{n m n' m':Int}(hn:Cj n)(hm:Cj m)(hn':Cj n')(hm':Cj m')(h:kyl n m=kyl n' m'):n=n'/\m=m':=by
 have a:=LH hn hm
 rw[h]at a
 have e:=Kh.inj a (LH hn' hm')
 simp at e
 exact e
theorem Ak6{n m:Int}(hn:Cj n)(hm:Cj m):WideAt.IsKeyLit (kyl n m):=Kh.key (LH hn hm)
structure Mp(k c:Nat)(f:Int->Int->Int)(w:World):Prop where
 own:∃D:DataW Unit,w.ownsMap Tryz.prog 343 (plainElem Tryz.prog 2) k c D/\∀n m,Cj n->Cj m->D.atKey (kyl n m) (.lit (.int .i64 0))=.lit (.int .i64 (f n m))
 lies:k<w.heap.size
def AO(f:Int->Int->Int)(n m v:Int):Int->Int->Int:=fun a b=>if a=n/\b=m then v else f a b
theorem Mp.same{k c:Nat}{f:Int->Int->Int}{w w':World}(h:Mp k c f w)(e:w'.heap[k]? =w.heap[k]?)(hs:w.heap.size<=w'.heap.size):Mp k c f w':=by
 obtain⟨D,⟨es,clock,hb,F,hn,hD⟩,at_⟩:=h.own
 exact⟨⟨D,⟨es,clock,e.trans hb,F,hn,hD⟩,at_⟩,Nat.lt_of_lt_of_le h.lies hs⟩
theorem Mp.mono{k c c':Nat}{f:Int->Int->Int}{w:World}(h:Mp k c f w)(hc:c<=c'):Mp k c' f w:=by
 obtain⟨D,o,at_⟩:=h.own
 exact⟨⟨D,o.mono hc,at_⟩,h.lies⟩
theorem Mp.eqv{k c:Nat}{f g:Int->Int->Int}{w:World}(h:Mp k c f w)(e:∀n m,f n m=g n m):Mp k c g w:=by
 obtain rfl:f=g:=by funext n m;exact e n m
 exact h
theorem Mp.kept{k b c:Nat}{f:Int->Int->Int}{w w':World}(h:Mp k c f w)(hb:Aa b w w')(hk:k≠b):Mp k c f w':=h.same (hb.block k h.lies hk) hb.size
theorem Mp.below{k c:Nat}{f:Int->Int->Int}{w w':World}(h:Mp k c f w)(hb:Below w.heap.size w w'):Mp k c f w':=h.same (hb.block k h.lies) hb.size
theorem Mp.alloc{k c:Nat}{f:Int->Int->Int}{w:World}(h:Mp k c f w)(o:Obj):Mp k c f (w.alloc o):=h.below ((Below.refl _ _).alloc (Nat.le_refl _) o)
theorem Mp.drew{k c:Nat}{f:Int->Int->Int}{w:World}(h:Mp k c f w):Mp k c f w.drew:=⟨h.own,h.lies⟩
theorem Mp.new{k c:Nat}{f:Int->Int->Int}{w:World}(h:Mp k c f w)(q o:Nat)(hp:k≠q)(u:Value):Mp k c f (w.setCell ⟨q,o,none⟩ u):=
 h.same (Below.heap_setCell _ _ _ _ hp) (by rw[World.size_setCell];exact Nat.le_refl _)
theorem Mp.off{k k' c:Nat}{f:Int->Int->Int}{w w':World}(h:Mp k' c f w)(o:Off k w w')(hk:k'≠k):Mp k' c f w':=h.same (o.block k' hk) (Nat.le_of_eq o.size.symm)
set_option maxRecDepth 100000 in
theorem Mp.look{k c:Nat}{f:Int->Int->Int}{w:World}(h:Mp k c f w){n m:Int}(hn:Cj n)(hm:Cj m):(Instr.lookup 290 (.map (some k)) (.agg #[.int .i64 n,.int .i64 m]) false).run Tryz.prog w=.ok (.int .i64 (f n m)) w:=by
 obtain⟨D,o,at_⟩:=h.own
 obtain⟨c,hr,hat,_⟩:=o.lookup_int Kh Tryz.underlying290 Tryz.underlying2 (Ak4 w) (LH hn hm)
 rw[at_ n m hn hm]at hat
 injection hat with hat
 injection hat with _ hat
 rw[hr,hat]
set_option maxRecDepth 100000 in
theorem Mp.store{k c:Nat}{f:Int->Int->Int}{w:World}(h:Mp k c f w)(hc:c<1000){n m v:Int}(hn:Cj n)(hm:Cj m)(hv:Cj v):
    ∃w',(Instr.mapUpdate 290 (.map (some k)) (.agg #[.int .i64 n,.int .i64 m]) (.int .i64 v)).run Tryz.prog w=.ok () w'/\Mp k (c+1) (AO f n m v) w'/\Aa k w w':=by
 obtain⟨D,o,at_⟩:=h.own
 have hmap:IsMap D:=by obtain⟨_,_,_,_,_,rfl⟩:=o;exact⟨_,rfl⟩
 obtain⟨w',hr,o',g⟩:=o.update Kh Tryz.underlying290 (by unfold maxLen;omega) (LH hn hm) (plainElem_int Tryz.underlying2 hv.wf)
 refine⟨w',hr,⟨⟨_,o',fun n' m' hn' hm'=>?_⟩,Nat.lt_of_lt_of_le h.lies g.size⟩,⟨g.os,g.tape,g.output,g.size,fun i hi hb=>g.block i hi (fun e=>hb (Option.some.inj e))⟩⟩
 unfold AO
 by_cases e:n'=n/\m'=m
 ·rw[if_pos e,e.1,e.2,atKey_put_same hmap (Ak6 hn hm)]
 ·rw[if_neg e,atKey_put_other (fun h=>e (Ak5 hn' hm' hn hm h)),at_ n' m' hn' hm']
theorem Mp.made(w:World)(n:Nat)(hn:n=w.heap.size):Mp n 0 (fun _ _=>0) (w.alloc (.map #[] 0)):=by
 subst hn
 exact⟨⟨_,World.ownsMap_made w _ _ _,fun _ _ _ _=>rfl⟩,by simp⟩
theorem OO{ops:Array Oper}{rest:List Oper}{op:Oper}{a:Act}{w:World}{Q:Exit->Act->World->Prop}{x y:Operand}{k c:Nat}{f:Int->Int->Int}{n m:Int}(hgd:op.guard=none)(ho:op.op=.lookup 290 x y false)
    (hx:a.eval x=.map (some k)) (hy:a.eval y=.agg #[.int .i64 n,.int .i64 m]) (M:Mp k c f w) (hn:Cj n) (hm:Cj m) (h:wpList Tryz.prog ops Q rest (a.put op.dst (.int .i64 (f n m))) w):wpList Tryz.prog ops Q (op::rest) a w:=by
 refine wpList_plain hgd fun K' hK'=>?_
 unfold Oper.wp
 simp[execOp,ho,hx,hy,M.look hn hm,Result.andThen]
 exact hK' _ _ h
theorem Gd{ops:Array Oper}{S:World->Prop}{op:Oper}{a:Act}{x y:Operand}{k c:Nat}{f:Int->Int->Int}{n m:Int}(hw:Region.wanted op (yielded ops a.tmps)=true)(ho:op.op=.lookup 290 x y false)
    (hx:a.eval x=.map (some k)) (hy:a.eval y=.agg #[.int .i64 n,.int .i64 m]) (hS:∀w,S w->Mp k c f w) (hn:Cj n) (hm:Cj m):YieldsIf Tryz.prog ops S op (.int .i64 (f n m)) a:=by
 refine Or.inl ⟨hw,fun w h=>?_⟩
 simp[execOp,ho,hx,hy,(hS w h).look hn hm,Result.andThen]
theorem Ge{ops:Array Oper}{op:Oper}{a:Act}{w:World}{K:Act->World->Prop}{Q:Exit->Act->World->Prop}{x y z:Operand}{k c:Nat}{f:Int->Int->Int}{n m v:Int}(hw:Region.wanted op (yielded ops a.tmps)=true)
    (ho:op.op=.mapUpdate 290 x y z) (hx:a.eval x=.map (some k)) (hy:a.eval y=.agg #[.int .i64 n,.int .i64 m]) (hz:a.eval z=.int .i64 v) (M:Mp k c f w) (hc:c<1000) (hn:Cj n) (hm:Cj m) (hv:Cj v)
    (h:∀w',Mp k (c+1) (AO f n m v) w'->Aa k w w'->K (a.put op.dst undef) w'):if Region.wanted op (yielded ops a.tmps)=true then Oper.wp Tryz.prog op a w K Q else K (a.put op.dst undef) w:=by
 rw[if_pos hw]
 obtain⟨w',hr,M',k'⟩:=M.store hc hn hm hv
 unfold Oper.wp
 simp[execOp,ho,hx,hy,hz,hr,Result.andThen]
 exact h w' M' k'
structure Ah(L:List Nat)(w w':World):Prop where
 os:w'.os=w.os
 tape:w'.tape=w.tape
 output:w'.output=w.output
 size:w.heap.size<=w'.heap.size
 block:∀k,k<w.heap.size->k∉L->w'.heap[k]? =w.heap[k]?
theorem Ah.refl(L:List Nat)(w:World):Ah L w w:=⟨rfl,rfl,rfl,Nat.le_refl _,fun _ _ _=>rfl⟩
theorem Ah.trans{L:List Nat}{x y z:World}(h:Ah L x y)(k:Ah L y z):Ah L x z:=
 ⟨k.os.trans h.os,k.tape.trans h.tape,k.output.trans h.output,Nat.le_trans h.size k.size,fun i hi hb=>(k.block i (Nat.lt_of_lt_of_le hi h.size) hb).trans (h.block i hi hb)⟩
theorem Ah.of{L:List Nat}{b:Nat}{w w':World}(h:Aa b w w')(hb:b∈L):Ah L w w':=⟨h.os,h.tape,h.output,h.size,fun k hk hn=>h.block k hk (fun e=>hn (e▸hb))⟩
theorem Ah.on{L:List Nat}{b:Nat}{x w w':World}(h:Ah L x w)(k:Aa b w w')(hb:b∈L):Ah L x w':=h.trans (Ah.of k hb)
theorem Ah.low{L:List Nat}{x w w':World}(h:Ah L x w)(k:Below w.heap.size w w'):Ah L x w':=h.trans ⟨k.os,k.tape,k.output,k.size,fun i hi _=>k.block i hi⟩
theorem Ah.al{L:List Nat}{x w:World}(h:Ah L x w)(o:Obj):Ah L x (w.alloc o):=h.low ((Below.refl _ _).alloc (Nat.le_refl _) o)
theorem Ah.drew{L:List Nat}{x w:World}(h:Ah L x w):Ah L x w.drew:=⟨h.os,h.tape,h.output,h.size,h.block⟩
theorem Ah.new{L:List Nat}{x w:World}(h:Ah L x w)(q o:Nat)(hp:x.heap.size<=q)(u:Value):Ah L x (w.setCell ⟨q,o,none⟩ u):=
 ⟨h.os,h.tape,h.output,by rw[World.size_setCell];exact h.size,fun k hk hb=>(Below.heap_setCell _ _ _ _ (by show k≠q;omega)).trans (h.block k hk hb)⟩
theorem Aa.off_list{b:Nat}{L:List Nat}{x w w':World}(K:Aa b x w)(h:Ah L w w')(hL:∀k∈L,k=b∨x.heap.size<=k):Aa b x w':=
 ⟨h.os.trans K.os,h.tape.trans K.tape,h.output.trans K.output,Nat.le_trans K.size h.size,fun j hj hb=>(h.block j (Nat.lt_of_lt_of_le hj K.size) (fun m=>by rcases hL j m with e |e<;>omega)).trans (K.block j hj hb)⟩
theorem Ap.keptL{k:Nat}{L:List Nat}{l:List Value}{w w':World}(h:Ap k l w)(hb:Ah L w w')(hk:k∉L):Ap k l w':=h.same (hb.block k h.lies hk) hb.size
theorem Mp.keptL{k c:Nat}{L:List Nat}{f:Int->Int->Int}{w w':World}(h:Mp k c f w)(hb:Ah L w w')(hk:k∉L):Mp k c f w':=h.same (hb.block k h.lies hk) hb.size
def AM(k:Nat)(f:Int->Int->Int)(n m:Int)(w:World):Prop:=∃c g,Mp k c g w/\∀a b,¬(a=n/\b=m)->g a b=f a b
theorem AM.same{k c:Nat}{f:Int->Int->Int}{n m:Int}{w:World}(M:Mp k c f w):AM k f n m w:=⟨c,f,M,fun _ _ _=>rfl⟩
theorem AM.upd{k c:Nat}{f:Int->Int->Int}{n m v:Int}{w:World}(M:Mp k c (AO f n m v) w):AM k f n m w:=⟨c,_,M,fun _ _ h=>if_neg h⟩
theorem AX{ops:Array Oper}{S:World->Prop}{op:Oper}{a:Act}{x y:Operand}{k:Nat}{f:Int->Int->Int}{n m n0 m0:Int}(hw:Region.wanted op (yielded ops a.tmps)=true)(ho:op.op=.lookup 290 x y false)
    (hx:a.eval x=.map (some k)) (hy:a.eval y=.agg #[.int .i64 n,.int .i64 m]) (hS:∀w,S w->AM k f n0 m0 w) (hn:Cj n) (hm:Cj m) (hne:¬(n=n0/\m=m0)):YieldsIf Tryz.prog ops S op (.int .i64 (f n m)) a:=by
 refine Or.inl ⟨hw,fun w h=>?_⟩
 obtain⟨c,g,M,e⟩:=hS w h
 simp[execOp,ho,hx,hy,M.look hn hm,Result.andThen,e n m hne]
def OP(L:Array Bool):Nat:=(L.toList.filter (fun b=>!b)).length
theorem LJ{L:Array Bool}{i:Nat}(h:L.getD i true=false):OP (L.setIfInBounds i true)+1=OP L:=by
 obtain⟨l⟩:=L
 have h':l[i]?.getD true=false:=by simpa using h
 unfold OP
 simp only[List.setIfInBounds_toArray]
 clear h
 induction l generalizing i with
 |nil=>simp at h'
 | cons b r ih=>
  cases i with
  |zero=>simp at h';simp[h']
  |succ i=>
   have:=ih (i:=i) (by simpa using h')
   cases b<;>simp[List.set_cons_succ]<;>omega
theorem LK{P:Program}{md:Region.Mode}{l:List Oper}{Q:Exit->Act->World->Prop}(Inv:Array Bool->Act->World->Prop)
    (step:∀listed a w i o,l[i]? =some o->i∈Region.ready md l.toArray listed->Inv listed a w->∀K':Act->World->Prop,Shut (∀a w,Inv (listed.setIfInBounds i true) a w->K' a w)->if Region.wanted o (yielded l.toArray a.tmps)=true then Oper.wp P o a w K' Q else K' (a.put o.dst undef) w)
    (fin:∀listed a w,Region.ready md l.toArray listed=[]->Inv listed a w->Q .normal a w):
    ∀(fuel:Nat) (listed:Array Bool) (a:Act) (w:World),OP listed<=fuel->Inv listed a w->wpAnyH P md l.toArray Q (fun _=>True) fuel listed a w:=by
 intro fuel
 induction fuel with
 | zero=>
  intro listed a w hu hI
  have hr:Region.ready md l.toArray listed=[]:=by
   apply List.eq_nil_iff_forall_not_mem.2
   intro i hi
   have:=LJ (mem_ready.1 hi).1
   omega
  exact⟨hr,fin listed a w hr hI⟩
 | succ fuel ih=>
  intro listed a w hu hI
  refine⟨fun hr=>fin listed a w hr hI,fun i hi=>?_⟩
  obtain⟨hun,o,ho,_⟩:=mem_ready.1 hi
  have ho':l[i]? =some o:=by simpa using ho
  have hs:=LJ hun
  have h:=step listed a w i o ho' hi hI (fun a' w'=>True/\wpAnyH P md l.toArray Q (fun _=>True) fuel (listed.setIfInBounds i true) a' w') (fun a' w' k=>⟨trivial,ih _ a' w' (by omega) k⟩)
  unfold wpOp
  rw[ho]
  show if _ then _ else _
  split
  ·rename_i hw
   rw[if_pos hw]at h
   exact Or.inl h
  ·rename_i hw
   rw[if_neg hw]at h
   exact h
theorem AT{md:Region.Mode}{l:List Oper}{L:Array Bool}(hr:Region.ready md l.toArray L=[]){i:Nat}{o:Oper}(hi:l[i]? =some o)(hu:L.getD i true=false)(h:o.after.toList.all (fun e=>!Region.binds md e||L.getD e.on false)=true):False:=by
 have m:i∈Region.ready md l.toArray L:=mem_ready.2 ⟨hu,o,by simpa using hi,fun e he hb=>by
  have:=(List.all_eq_true.1 h) e (by simpa using he)
  rw[hb]at this
  simpa using this⟩
 rw[hr]at m
 exact absurd m List.not_mem_nil
theorem LL{ops:Array Oper}{op:Oper}{a:Act}{w:World}{K:Act->World->Prop}{Q:Exit->Act->World->Prop}{x y z:Operand}{k c:Nat}{f:Int->Int->Int}{n m v:Int}(hw:Region.wanted op (yielded ops a.tmps)=true)
    (ho:op.op=.insert 290 x y z) (hx:a.eval x=.map (some k)) (hy:a.eval y=.agg #[.int .i64 n,.int .i64 m]) (hz:a.eval z=.int .i64 v) (M:Mp k c f w) (hc:c<1000) (hn:Cj n) (hm:Cj m) (hv:Cj v)
    (h:∀w',Mp k (c+1) (AO f n m v) w'->Aa k w w'->K (a.put op.dst undef) w'):if Region.wanted op (yielded ops a.tmps)=true then Oper.wp Tryz.prog op a w K Q else K (a.put op.dst undef) w:=by
 rw[if_pos hw]
 obtain⟨w',hr,M',k'⟩:=M.store hc hn hm hv
 unfold Oper.wp
 simp[execOp,ho,hx,hy,hz,hr,Result.andThen]
 exact h w' M' k'
def OQ(p:Bool)(x:Int)(q:Bool)(y:Int):Int->Int->Int:=fun n m=>if q=true/\n=1/\m=1 then y else if p=true/\n=0/\m=0 then x else 0
theorem LM(x y:Int)(n m:Int):(0:Int)=OQ false x false y n m:=by unfold OQ;simp
theorem An3(x:Int)(q:Bool)(y:Int)(n m:Int):AO (OQ false x q y) 0 0 x n m=OQ true x q y n m:=by
 unfold AO OQ
 by_cases h:n=0/\m=0
 ·obtain⟨rfl,rfl⟩:=h;simp
 ·rw[if_neg h];simp[h]
theorem Ae2(p:Bool)(x y:Int)(n m:Int):AO (OQ p x false y) 1 1 y n m=OQ p x true y n m:=by
 unfold AO OQ
 by_cases h:n=1/\m=1
 ·obtain⟨rfl,rfl⟩:=h;simp
 ·rw[if_neg h];simp[h]
structure MI(w0:World)(c s:Int)(a0 a2 a5 a6 b7 b9 b12 b13 q14 q16 q17 e18 d19 z20:Bool)(x7 x10 x14 x15 x19 x20 x22 x23:Value)(kA kB kC kD:Nat)(w:World):Prop where
 bel:Below w0.heap.size w0 w
 A:a0=true->x10=.map (some kA)/\w0.heap.size<=kA/\Mp kA (a2.toNat+a5.toNat) (OQ a2 1099511627776 a5 s) w
 B:b7=true->x15=.map (some kB)/\w0.heap.size<=kB/\Mp kB (b9.toNat+b12.toNat) (OQ b9 0 b12 c) w
 C:q14=true->x20=.map (some kC)/\w0.heap.size<=kC/\Mp kC q16.toNat (OQ false 0 q16 1099511627776) w
 A6:a6=true->x14=.map (some kA)/\a0=true/\a2=true/\a5=true
 B13:b13=true->x19=.map (some kB)/\b7=true/\b9=true/\b12=true
 C17:q17=true->x22=.map (some kC)/\q14=true/\q16=true
 E:e18=true->x23=.agg #[.map (some kA),.map (some kB),.map (some kC)]/\a6=true/\b13=true/\q17=true
 D:d19=true->x7=.pointer (some ⟨kD,0,none⟩)/\w0.heap.size<=kD/\Ap kD (bif z20 then [.map (some kA),.map (some kB),.map (some kC)]else [.map none,.map none,.map none]) w
 va:a2=true∨a5=true->a0=true
 vb:b9=true∨b12=true->b7=true
 vc:q16=true->q14=true
 Z:z20=true->e18=true/\d19=true
 AB:a0=true->b7=true->kA≠kB
 AC:a0=true->q14=true->kA≠kC
 BC:b7=true->q14=true->kB≠kC
 AD:a0=true->d19=true->kA≠kD
 BD:b7=true->d19=true->kB≠kD
 CD:q14=true->d19=true->kC≠kD
theorem Ki:Keyed Tryz.prog 323:=Keyed.of_law (deep_law (m:=2) (by omega) (by kernel_rfl) (by kernel_rfl) (by kernel_rfl))
theorem Ae3(w:World):(zeroValue 3).run Tryz.prog w=.ok (.int .i64 0) w:=by kernel_rfl
theorem Y6:∃m,Tryz.prog.types.size=m+1:=⟨Tryz.prog.types.size-1,by have h:0<Tryz.prog.types.size:=of_decide_eq_true (by kernel_rfl);omega⟩
theorem LN{n m:Int}(hn:Cj n)(hm:Cj m):keyOf Tryz.prog 323 (.agg #[.int .i64 n,.int .i64 m])=some (kyl n m):=by
 have hkt:Tryz.prog.keyType 323=true:=by kernel_rfl
 have hsz:Tryz.prog.cellsOf 323=2:=by kernel_rfl
 have h1:Tryz.prog.cellsOf 3=1:=by kernel_rfl
 obtain⟨k,hk⟩:=Y6
 unfold keyOf kyl
 simp only[Tryz.underlying323]
 rw[if_pos (by simp[hkt,Value.formed,Tryz.underlying323,hsz]),hk]
 unfold Program.keyLits
 simp only[Tryz.underlying323,Value.cells]
 simp[h1,hsz,Program.keyLits,Tryz.underlying3,hn.wf,hm.wf]
structure Mm(k c:Nat)(f:Int->Int->Int)(w:World):Prop where
 own:∃D:DataW Unit,w.ownsMap Tryz.prog 323 (plainElem Tryz.prog 3) k c D/\∀n m,Cj n->Cj m->D.atKey (kyl n m) (.lit (.int .i64 0))=.lit (.int .i64 (f n m))
 lies:k<w.heap.size
theorem Ak7{n m n' m':Int}(hn:Cj n)(hm:Cj m)(hn':Cj n')(hm':Cj m')(h:kyl n m=kyl n' m'):n=n'/\m=m':=by
 have a:=LN hn hm
 rw[h]at a
 have e:=Ki.inj a (LN hn' hm')
 simp at e
 exact e
theorem Ak8{n m:Int}(hn:Cj n)(hm:Cj m):WideAt.IsKeyLit (kyl n m):=Ki.key (LN hn hm)
theorem Mm.same{k c:Nat}{f:Int->Int->Int}{w w':World}(h:Mm k c f w)(e:w'.heap[k]? =w.heap[k]?)(hs:w.heap.size<=w'.heap.size):Mm k c f w':=by
 obtain⟨D,⟨es,clock,hb,F,hn,hD⟩,at_⟩:=h.own
 exact⟨⟨D,⟨es,clock,e.trans hb,F,hn,hD⟩,at_⟩,Nat.lt_of_lt_of_le h.lies hs⟩
theorem Mm.mono{k c c':Nat}{f:Int->Int->Int}{w:World}(h:Mm k c f w)(hc:c<=c'):Mm k c' f w:=by
 obtain⟨D,o,at_⟩:=h.own
 exact⟨⟨D,o.mono hc,at_⟩,h.lies⟩
theorem Mm.eqv{k c:Nat}{f g:Int->Int->Int}{w:World}(h:Mm k c f w)(e:∀n m,f n m=g n m):Mm k c g w:=by
 obtain rfl:f=g:=by funext n m;exact e n m
 exact h
theorem Mm.below{k c:Nat}{f:Int->Int->Int}{w w':World}(h:Mm k c f w)(hb:Below w.heap.size w w'):Mm k c f w':=h.same (hb.block k h.lies) hb.size
set_option maxRecDepth 100000 in
theorem Mm.look{k c:Nat}{f:Int->Int->Int}{w:World}(h:Mm k c f w){n m:Int}(hn:Cj n)(hm:Cj m):(Instr.lookup 320 (.map (some k)) (.agg #[.int .i64 n,.int .i64 m]) false).run Tryz.prog w=.ok (.int .i64 (f n m)) w:=by
 obtain⟨D,o,at_⟩:=h.own
 obtain⟨c,hr,hat,_⟩:=o.lookup_int Ki Tryz.underlying320 Tryz.underlying3 (Ae3 w) (LN hn hm)
 rw[at_ n m hn hm]at hat
 injection hat with hat
 injection hat with _ hat
 rw[hr,hat]
theorem Mm.store{k c:Nat}{f:Int->Int->Int}{w:World}(h:Mm k c f w)(hc:c<1000){n m v:Int}(hn:Cj n)(hm:Cj m)(hv:Cj v):
    ∃w',(Instr.mapUpdate 320 (.map (some k)) (.agg #[.int .i64 n,.int .i64 m]) (.int .i64 v)).run Tryz.prog w=.ok () w'/\Mm k (c+1) (AO f n m v) w'/\Aa k w w':=by
 obtain⟨D,o,at_⟩:=h.own
 have hmap:IsMap D:=by obtain⟨_,_,_,_,_,rfl⟩:=o;exact⟨_,rfl⟩
 obtain⟨w',hr,o',g⟩:=o.update Ki Tryz.underlying320 (by unfold maxLen;omega) (LN hn hm) (plainElem_int Tryz.underlying3 hv.wf)
 refine⟨w',hr,⟨⟨_,o',fun n' m' hn' hm'=>?_⟩,Nat.lt_of_lt_of_le h.lies g.size⟩,⟨g.os,g.tape,g.output,g.size,fun i hi hb=>g.block i hi (fun e=>hb (Option.some.inj e))⟩⟩
 unfold AO
 by_cases e:n'=n/\m'=m
 ·rw[if_pos e,e.1,e.2,atKey_put_same hmap (Ak8 hn hm)]
 ·rw[if_neg e,atKey_put_other (fun h=>e (Ak7 hn' hm' hn hm h)),at_ n' m' hn' hm']
theorem Mm.made(w:World)(n:Nat)(hn:n=w.heap.size):Mm n 0 (fun _ _=>0) (w.alloc (.map #[] 0)):=by
 subst hn
 exact⟨⟨_,World.ownsMap_made w _ _ _,fun _ _ _ _=>rfl⟩,by simp⟩
theorem LO{ops:Array Oper}{op:Oper}{a:Act}{w:World}{K:Act->World->Prop}{Q:Exit->Act->World->Prop}{x y z:Operand}{k c:Nat}{f:Int->Int->Int}{n m v:Int}(hw:Region.wanted op (yielded ops a.tmps)=true)
    (ho:op.op=.insert 320 x y z) (hx:a.eval x=.map (some k)) (hy:a.eval y=.agg #[.int .i64 n,.int .i64 m]) (hz:a.eval z=.int .i64 v) (M:Mm k c f w) (hc:c<1000) (hn:Cj n) (hm:Cj m) (hv:Cj v)
    (h:∀w',Mm k (c+1) (AO f n m v) w'->Aa k w w'->K (a.put op.dst undef) w'):if Region.wanted op (yielded ops a.tmps)=true then Oper.wp Tryz.prog op a w K Q else K (a.put op.dst undef) w:=by
 rw[if_pos hw]
 obtain⟨w',hr,M',k'⟩:=M.store hc hn hm hv
 unfold Oper.wp
 simp[execOp,ho,hx,hy,hz,hr,Result.andThen]
 exact h w' M' k'
set_option maxRecDepth 100000
set_option maxHeartbeats 20000000
def JM(c2 c4 c6 c8 c10:Bool):Int->Int->Int:=fun n m=>if (c2=true/\n=1/\m=1)∨(c4=true/\n=2/\m=1)∨(c6=true/\n=2/\m=4)∨(c8=true/\n=2/\m=2)∨(c10=true/\n=2/\m=8)then 1 else 0
theorem Ae4(n m:Int):(0:Int)=JM false false false false false n m:=by unfold JM;simp
theorem Au1(c4 c6 c8 c10:Bool)(n m:Int):AO (JM false c4 c6 c8 c10) 1 1 1 n m=JM true c4 c6 c8 c10 n m:=by
 unfold AO JM
 by_cases h:n=1/\m=1
 ·rw[if_pos h];simp[h]
 ·rw[if_neg h];simp[h]
theorem Au2(c2 c6 c8 c10:Bool)(n m:Int):AO (JM c2 false c6 c8 c10) 2 1 1 n m=JM c2 true c6 c8 c10 n m:=by
 unfold AO JM
 by_cases h:n=2/\m=1
 ·rw[if_pos h];simp[h]
 ·rw[if_neg h];simp[h]
theorem Au3(c2 c4 c8 c10:Bool)(n m:Int):AO (JM c2 c4 false c8 c10) 2 4 1 n m=JM c2 c4 true c8 c10 n m:=by
 unfold AO JM
 by_cases h:n=2/\m=4
 ·rw[if_pos h];simp[h]
 ·rw[if_neg h];simp[h]
theorem Au4(c2 c4 c6 c10:Bool)(n m:Int):AO (JM c2 c4 c6 false c10) 2 2 1 n m=JM c2 c4 c6 true c10 n m:=by
 unfold AO JM
 by_cases h:n=2/\m=2
 ·rw[if_pos h];simp[h]
 ·rw[if_neg h];simp[h]
theorem Aqz(c2 c4 c6 c8:Bool)(n m:Int):AO (JM c2 c4 c6 c8 false) 2 8 1 n m=JM c2 c4 c6 c8 true n m:=by
 unfold AO JM
 by_cases h:n=2/\m=8
 ·rw[if_pos h];simp[h]
 ·rw[if_neg h];simp[h]
structure LI(w0:World)(m0 c2 c4 c6 c8 c10 v11 r12:Bool)(x0 x1 x7:Value)(k:Nat)(w:World):Prop where
 bel:Below w0.heap.size w0 w
 A:m0=true->x1=.map (some k)/\w0.heap.size<=k/\Mm k (c2.toNat+c4.toNat+c6.toNat+c8.toNat+c10.toNat) (JM c2 c4 c6 c8 c10) w
 va:m0=false->c2=false/\c4=false/\c6=false/\c8=false/\c10=false/\v11=false
 V:v11=true->x7=.map (some k)/\c2=true/\c4=true/\c6=true/\c8=true/\c10=true
 R:r12=true->x0=.map (some k)/\v11=true
theorem Y7(w:World):Calls Tryz.prog 251 #[] w fun e w'=>∃k,e=.returned (.map (some k))/\w.heap.size<=k/\Mm k 5 (JM true true true true true) w'/\Below w.heap.size w w':=by
 go_enter Tryz.func251,Tryz.ntmps251
 go_wp2_with fail
 refine QA (fun KK hKK=>?_)
 have cont:∀(W:World) (k:Nat) (y1 y2 y3 y4 y5 y6 y7:Value),Below w.heap.size w W->w.heap.size<=k->Mm k 5 (JM true true true true true) W->KK {tmps:=#[.map (some k),y1,y2,y3,y4,y5,y6,y7],defers:=[]} W:=by
  intro W k y1 y2 y3 y4 y5 y6 y7 b1 hk M
  rw[hKK.out]
  dsimp only[Exit.inBlock,Exit.then]
  first |refine QD (by assumption) ?_ |skip
  go_wp2_with (with_reducible refine Ae ?_)
  exact⟨bodyPost_ret (v:=.map (some k)) (by simp[results,Tryz.results251,go_sem]) rfl ⟨k,rfl,hk,M,b1⟩⟩
 refine wp_region_held_drew (S:=fun _=>True) (by kernel_rfl) trivial (fun zH=>?_)
 refine zT 1 rfl (by kernel_rfl) (fun _ _ _=>id) rfl (fun _ _=>by go_simp<;>with_reducible rfl) zH ?_
 simp only[Act.put,zA,zB,zC]
 refine zT 3 rfl (by kernel_rfl) (fun _ _ _=>id) rfl (fun _ _=>by go_simp<;>with_reducible rfl) zH ?_
 simp only[Act.put,zA,zB,zC]
 refine zT 5 rfl (by kernel_rfl) (fun _ _ _=>id) rfl (fun _ _=>by go_simp<;>with_reducible rfl) zH ?_
 simp only[Act.put,zA,zB,zC]
 refine zT 7 rfl (by kernel_rfl) (fun _ _ _=>id) rfl (fun _ _=>by go_simp<;>with_reducible rfl) zH ?_
 simp only[Act.put,zA,zB,zC]
 refine zT 9 rfl (by kernel_rfl) (fun _ _ _=>id) rfl (fun _ _=>by go_simp<;>with_reducible rfl) zH ?_
 simp only[Act.put,zA,zB,zC]
 have K1:Below w.heap.size w w.drew:=⟨rfl,rfl,rfl,Nat.le_refl _,fun _ _=>rfl⟩
 generalize w.drew=w1 at K1 ⊢
 have l1:=K1.size
 clear zH
 refine LK (fun L a wi=>∃(m0 c2 c4 c6 c8 c10 v11 r12:Bool) (x0 x1 x7:Value) (k:Nat),L=#[m0,true,c2,true,c4,true,c6,true,c8,true,c10,v11,r12]/\a={tmps:=#[x0,x1,.agg #[.int .i64 1,.int .i64 1],.agg #[.int .i64 2,.int .i64 1],.agg #[.int .i64 2,.int .i64 4],.agg #[.int .i64 2,.int .i64 2],.agg #[.int .i64 2,.int .i64 8],x7],defers:=[]}/\LI w1 m0 c2 c4 c6 c8 c10 v11 r12 x0 x1 x7 k wi) ?_ ?_ 8 _ _ _ (by decide) ?_
 ·intro L a wi i o ho hi hI K hK
  obtain⟨m0,c2,c4,c6,c8,c10,v11,r12,x0,x1,x7,k,rfl,rfl,I⟩:=hI
  have hall:=(mem_ready.1 hi).2
  have hun:=(mem_ready.1 hi).1
  have hlt:i<13:=(List.getElem?_eq_some_iff.1 ho).1
  match i,hlt with
  |0,_=>
   obtain rfl:m0=false:=hun
   clear hall
   cases ho
   obtain⟨rfl,rfl,rfl,rfl,rfl,rfl⟩:=I.va rfl
   go_simp
   refine hK.out _ _ ?_
   exact⟨true,false,false,false,false,false,false,r12,x0,.map (some wi.heap.size),x7,wi.heap.size,rfl,rfl,⟨Ai I.bel _,fun _=>⟨rfl,I.bel.size,(Mm.made wi _ rfl).eqv Ae4⟩,(fun h=>by cases h),(fun h=>by cases h),fun h=>absurd (I.R h).2 (by decide)⟩⟩
  |1,_=>
   exact absurd (show true=false from hun) (by decide)
  |2,_=>
   obtain rfl:c2=false:=hun
   obtain⟨o2,ho2,hall⟩:=hall
   cases ho2
   obtain rfl:m0=true:=hall ⟨0,.data⟩ (by simp) rfl
   clear hall
   cases ho
   obtain⟨e1,g1,M⟩:=I.A rfl
   subst e1
   have hv:v11=false:=by cases v11 with |false=>rfl |true=>(have h:=I.V rfl;simp at h)
   subst hv
   refine LO (by rfl) rfl rfl rfl rfl M (by cases c4<;>cases c6<;>cases c8<;>cases c10<;>decide) ⟨by decide,by decide⟩ ⟨by decide,by decide⟩ ⟨by decide,by decide⟩ ?_
   intro w2 M1 k1
   simp only[Act.put]
   refine hK.out _ _ ?_
   exact⟨true,true,c4,c6,c8,c10,false,r12,x0,.map (some k),x7,k,rfl,rfl,⟨k1.on I.bel g1,fun _=>⟨rfl,g1,(M1.mono (by cases c4<;>cases c6<;>cases c8<;>cases c10<;>decide)).eqv (Au1 _ _ _ _)⟩,(fun h=>by cases h),(fun h=>by cases h),fun h=>absurd (I.R h).2 (by decide)⟩⟩
  |3,_=>
   exact absurd (show true=false from hun) (by decide)
  |4,_=>
   obtain rfl:c4=false:=hun
   obtain⟨o2,ho2,hall⟩:=hall
   cases ho2
   obtain rfl:m0=true:=hall ⟨0,.data⟩ (by simp) rfl
   clear hall
   cases ho
   obtain⟨e1,g1,M⟩:=I.A rfl
   subst e1
   have hv:v11=false:=by cases v11 with |false=>rfl |true=>(have h:=I.V rfl;simp at h)
   subst hv
   refine LO (by rfl) rfl rfl rfl rfl M (by cases c2<;>cases c6<;>cases c8<;>cases c10<;>decide) ⟨by decide,by decide⟩ ⟨by decide,by decide⟩ ⟨by decide,by decide⟩ ?_
   intro w2 M1 k1
   simp only[Act.put]
   refine hK.out _ _ ?_
   exact⟨true,c2,true,c6,c8,c10,false,r12,x0,.map (some k),x7,k,rfl,rfl,⟨k1.on I.bel g1,fun _=>⟨rfl,g1,(M1.mono (by cases c2<;>cases c6<;>cases c8<;>cases c10<;>decide)).eqv (Au2 _ _ _ _)⟩,(fun h=>by cases h),(fun h=>by cases h),fun h=>absurd (I.R h).2 (by decide)⟩⟩
  |5,_=>
   exact absurd (show true=false from hun) (by decide)
  |6,_=>
   obtain rfl:c6=false:=hun
   obtain⟨o2,ho2,hall⟩:=hall
   cases ho2
   obtain rfl:m0=true:=hall ⟨0,.data⟩ (by simp) rfl
   clear hall
   cases ho
   obtain⟨e1,g1,M⟩:=I.A rfl
   subst e1
   have hv:v11=false:=by cases v11 with |false=>rfl |true=>(have h:=I.V rfl;simp at h)
   subst hv
   refine LO (by rfl) rfl rfl rfl rfl M (by cases c2<;>cases c4<;>cases c8<;>cases c10<;>decide) ⟨by decide,by decide⟩ ⟨by decide,by decide⟩ ⟨by decide,by decide⟩ ?_
   intro w2 M1 k1
   simp only[Act.put]
   refine hK.out _ _ ?_
   exact⟨true,c2,c4,true,c8,c10,false,r12,x0,.map (some k),x7,k,rfl,rfl,⟨k1.on I.bel g1,fun _=>⟨rfl,g1,(M1.mono (by cases c2<;>cases c4<;>cases c8<;>cases c10<;>decide)).eqv (Au3 _ _ _ _)⟩,(fun h=>by cases h),(fun h=>by cases h),fun h=>absurd (I.R h).2 (by decide)⟩⟩
  |7,_=>
   exact absurd (show true=false from hun) (by decide)
  |8,_=>
   obtain rfl:c8=false:=hun
   obtain⟨o2,ho2,hall⟩:=hall
   cases ho2
   obtain rfl:m0=true:=hall ⟨0,.data⟩ (by simp) rfl
   clear hall
   cases ho
   obtain⟨e1,g1,M⟩:=I.A rfl
   subst e1
   have hv:v11=false:=by cases v11 with |false=>rfl |true=>(have h:=I.V rfl;simp at h)
   subst hv
   refine LO (by rfl) rfl rfl rfl rfl M (by cases c2<;>cases c4<;>cases c6<;>cases c10<;>decide) ⟨by decide,by decide⟩ ⟨by decide,by decide⟩ ⟨by decide,by decide⟩ ?_
   intro w2 M1 k1
   simp only[Act.put]
   refine hK.out _ _ ?_
   exact⟨true,c2,c4,c6,true,c10,false,r12,x0,.map (some k),x7,k,rfl,rfl,⟨k1.on I.bel g1,fun _=>⟨rfl,g1,(M1.mono (by cases c2<;>cases c4<;>cases c6<;>cases c10<;>decide)).eqv (Au4 _ _ _ _)⟩,(fun h=>by cases h),(fun h=>by cases h),fun h=>absurd (I.R h).2 (by decide)⟩⟩
  |9,_=>
   exact absurd (show true=false from hun) (by decide)
  |10,_=>
   obtain rfl:c10=false:=hun
   obtain⟨o2,ho2,hall⟩:=hall
   cases ho2
   obtain rfl:m0=true:=hall ⟨0,.data⟩ (by simp) rfl
   clear hall
   cases ho
   obtain⟨e1,g1,M⟩:=I.A rfl
   subst e1
   have hv:v11=false:=by cases v11 with |false=>rfl |true=>(have h:=I.V rfl;simp at h)
   subst hv
   refine LO (by rfl) rfl rfl rfl rfl M (by cases c2<;>cases c4<;>cases c6<;>cases c8<;>decide) ⟨by decide,by decide⟩ ⟨by decide,by decide⟩ ⟨by decide,by decide⟩ ?_
   intro w2 M1 k1
   simp only[Act.put]
   refine hK.out _ _ ?_
   exact⟨true,c2,c4,c6,c8,true,false,r12,x0,.map (some k),x7,k,rfl,rfl,⟨k1.on I.bel g1,fun _=>⟨rfl,g1,(M1.mono (by cases c2<;>cases c4<;>cases c6<;>cases c8<;>decide)).eqv (Aqz _ _ _ _)⟩,(fun h=>by cases h),(fun h=>by cases h),fun h=>absurd (I.R h).2 (by decide)⟩⟩
  |11,_=>
   obtain rfl:v11=false:=hun
   obtain⟨o2,ho2,hall⟩:=hall
   cases ho2
   obtain rfl:m0=true:=hall ⟨0,.data⟩ (by simp) rfl
   obtain rfl:c2=true:=hall ⟨2,.data⟩ (by simp) rfl
   obtain rfl:c4=true:=hall ⟨4,.data⟩ (by simp) rfl
   obtain rfl:c6=true:=hall ⟨6,.data⟩ (by simp) rfl
   obtain rfl:c8=true:=hall ⟨8,.data⟩ (by simp) rfl
   obtain rfl:c10=true:=hall ⟨10,.data⟩ (by simp) rfl
   clear hall
   cases ho
   obtain⟨e1,g1,M⟩:=I.A rfl
   subst e1
   go_simp
   refine hK.out _ _ ?_
   exact⟨true,true,true,true,true,true,true,r12,x0,.map (some k),.map (some k),k,rfl,rfl,⟨I.bel,fun _=>⟨rfl,g1,M⟩,(fun h=>by cases h),fun _=>⟨rfl,rfl,rfl,rfl,rfl,rfl⟩,fun h=>⟨(I.R h).1,rfl⟩⟩⟩
  |12,_=>
   obtain rfl:r12=false:=hun
   obtain⟨o2,ho2,hall⟩:=hall
   cases ho2
   obtain rfl:v11=true:=hall ⟨11,.data⟩ (by simp) rfl
   clear hall
   cases ho
   obtain⟨e1,rfl,rfl,rfl,rfl,rfl⟩:=I.V rfl
   subst e1
   go_simp
   refine hK.out _ _ ?_
   exact⟨m0,true,true,true,true,true,true,true,.map (some k),x1,.map (some k),k,rfl,rfl,⟨I.bel,I.A,I.va,I.V,fun _=>⟨rfl,rfl⟩⟩⟩
 ·intro L a wi hr hI
  obtain⟨m0,c2,c4,c6,c8,c10,v11,r12,x0,x1,x7,k,rfl,rfl,I⟩:=hI
  obtain rfl:m0=true:=by cases m0 with |true=>rfl |false=>exact(AT hr (i:=0) rfl rfl rfl).elim
  obtain rfl:c2=true:=by cases c2 with |true=>rfl |false=>exact(AT hr (i:=2) rfl rfl rfl).elim
  obtain rfl:c4=true:=by cases c4 with |true=>rfl |false=>exact(AT hr (i:=4) rfl rfl rfl).elim
  obtain rfl:c6=true:=by cases c6 with |true=>rfl |false=>exact(AT hr (i:=6) rfl rfl rfl).elim
  obtain rfl:c8=true:=by cases c8 with |true=>rfl |false=>exact(AT hr (i:=8) rfl rfl rfl).elim
  obtain rfl:c10=true:=by cases c10 with |true=>rfl |false=>exact(AT hr (i:=10) rfl rfl rfl).elim
  obtain rfl:v11=true:=by cases v11 with |true=>rfl |false=>exact(AT hr (i:=11) rfl rfl rfl).elim
  obtain rfl:r12=true:=by cases r12 with |true=>rfl |false=>exact(AT hr (i:=12) rfl rfl rfl).elim
  obtain⟨e1,g1,M⟩:=I.A rfl
  obtain⟨e0,-⟩:=I.R rfl
  subst e0
  refine QC hKK ?_
  exact cont _ k _ _ _ _ _ _ _ (Au K1 I.bel) (Nat.le_trans l1 g1) M
 ·exact⟨false,false,false,false,false,false,false,false,_,_,_,0,rfl,rfl,⟨Below.refl _ _,(fun h=>by cases h),fun _=>⟨rfl,rfl,rfl,rfl,rfl,rfl⟩,(fun h=>by cases h),(fun h=>by cases h)⟩⟩
end Go.Proofs.YtgmpfeaanjnhaaaGreatDoor
namespace Go.Proofs.YtgmpfeaanjnhaaaGreatDoor
open Go.RowKit
structure Pl where
 mode:Int
 calm:Int
 good:Int
 miss:Int
 lost:Int
 faults:Int
structure Sn where
 gap:Bool
 gyro:Bool
 slow:Bool
 pair:Bool
 lit:Bool
 bad:Bool
 pass:Bool
 order:Int
def plV(p:Pl):Value:=.agg #[.int .i64 p.mode,.int .i64 p.calm,.int .i64 p.good,.int .i64 p.miss,.int .i64 p.lost,.int .i64 p.faults]
def snV(s:Sn):Value:=.agg #[.bool s.gap,.bool s.gyro,.bool s.slow,.bool s.pair,.bool s.lit,.bool s.bad,.bool s.pass,.int .i64 s.order]
def goS(k:Int)(p:Pl):Pl:=⟨k,0,0,0,0,p.faults⟩
def EH(x:Int)(p:Pl):Pl:=⟨1,0,0,0,0,bits .or .i64 p.faults x⟩
def Q7(p:Pl)(s:Sn):Pl:=if s.order=2 then⟨0,0,0,0,0,0⟩else p
theorem Pl.ext{a b c d e f a' b' c' d' e' f':Int}(h0:a=a')(h1:b=b')(h2:c=c')(h3:d=d')(h4:e=e')(h5:f=f'):(⟨a,b,c,d,e,f⟩:Pl)=⟨a',b',c',d',e',f'⟩:=by subst h0 h1 h2 h3 h4 h5;rfl
def cPl:Dc Pl where
 enc p:=plV p
 dec v:=match v with
  | .agg ⟨[.int .i64 a,.int .i64 b,.int .i64 c,.int .i64 d,.int .i64 e,.int .i64 f]⟩=>some ⟨a,b,c,d,e,f⟩
  |_=>none
 law v x h:=by
  split at h
  ·cases h;rfl
  ·cases h
 np _:=rfl
def cSn:Dc Sn where
 enc s:=snV s
 dec v:=match v with
  | .agg ⟨[.bool a,.bool b,.bool c,.bool d,.bool e,.bool f,.bool g,.int .i64 o]⟩=>some ⟨a,b,c,d,e,f,g,o⟩
  |_=>none
 law v x h:=by
  split at h
  ·cases h;rfl
  ·cases h
 np _:=rfl
abbrev Fp:={q:Int×Pl // decide (JM true true true true true q.2.mode q.1=1)=true}
def lFp:Dl Fp where
 enc q:=[.int .i64 q.1.1,plV q.1.2]
 dec l:=match l with
  |[.int .i64 x,.agg ⟨[.int .i64 a,.int .i64 b,.int .i64 c,.int .i64 d,.int .i64 e,.int .i64 f]⟩]=>if h:decide (JM true true true true true a x=1)=true then some ⟨(x,⟨a,b,c,d,e,f⟩),h⟩else none
  |_=>none
 law v x h:=by
  split at h
  ·split at h
   ·cases h;rfl
   ·cases h
  ·cases h
 np x v hv:=by
  simp only[List.mem_cons,List.not_mem_nil,or_false]at hv
  rcases hv with rfl |rfl<;>rfl
def cP2:Dc {p:Pl // decide (p.mode=2)=true} where
 enc p:=plV p.1
 dec v:=match v with
  | .agg ⟨[.int .i64 a,.int .i64 b,.int .i64 c,.int .i64 d,.int .i64 e,.int .i64 f]⟩=>if h:decide (a=2)=true then some ⟨⟨a,b,c,d,e,f⟩,h⟩else none
  |_=>none
 law v x h:=by
  split at h
  ·split at h
   ·cases h;rfl
   ·cases h
  ·cases h
 np _:=rfl
def Hv(n:Int)(it:Bool):Int:=if it then if 100<=n then 100 else IntKind.i64.wrap (n+1)else 0
def Ae5(p:Pl)(s:Sn):Pl:=if 3<=Hv p.calm (s.gyro&&s.slow)then goS 1 p else⟨p.mode,Hv p.calm (s.gyro&&s.slow),p.good,p.miss,p.lost,p.faults⟩
def Q8(p:Pl)(s:Sn):Pl:=bif s.gyro&& !s.slow then goS 0 p else if 2<=Hv p.good (s.gyro&&s.pair&&s.lit)then goS 2 p else⟨p.mode,p.calm,Hv p.good (s.gyro&&s.pair&&s.lit),p.miss,p.lost,p.faults⟩
def MC(p:Pl)(s:Sn):Pl:=bif s.bad then EH 4 p else if 3<=Hv p.lost (!s.gyro)then EH 2 p else
 bif s.pair&&s.lit then(if 5<=Hv p.miss (!s.pass)then EH 8 p else⟨p.mode,p.calm,p.good,Hv p.miss (!s.pass),Hv p.lost (!s.gyro),p.faults⟩)else⟨p.mode,p.calm,p.good,p.miss,Hv p.lost (!s.gyro),p.faults⟩
def Ae6(p:Pl)(s:Sn):Pl:=if p.mode=3 then Q7 p s else if p.mode=0 then Ae5 p s else
 if p.mode=1 then(bif s.gap then EH 1 p else Q8 p s)else if p.mode=2 then(bif s.gap then EH 1 p else MC p s)else goS 3 p
def Wm(p:Pl)(s:Sn):Pl:=if s.order=1 then goS 3 p else Ae6 p s
theorem T8(n:Int):Hv n false=0:=rfl
theorem Aq0{α:Type}{A B:α}:(if (3:Int)<=0 then A else B)=B:=if_neg (by decide)
end Go.Proofs.YtgmpfeaanjnhaaaGreatDoor
