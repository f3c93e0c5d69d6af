/-
A part.
A part.
A part.
A part.
A part.
A part.
A part.
A part.
A part.
A part.
A part.
A part.
-/
import Derived.Handy
import Derived.BigRegion
import Derived.Deep.RegionHeld3
import Derived.Test.YtgmpfeaanjnhaaaGreatDoorU09
import Derived.Test.YtgmpfeaanjnhaaaGreatDoorU04
import Derived.Test.YtgmpfeaanjnhaaaGreatDoorU01
import Derived.Test.YtgmpfeaanjnhaaaGreatDoorU07
import Derived.Test.YtgmpfeaanjnhaaaGreatDoorU06
import Derived.Test.YtgmpfeaanjnhaaaGreatDoorU05
import Derived.Test.YtgmpfeaanjnhaaaGreatDoorU08
namespace Go.Proofs.YtgmpfeaanjnhaaaGreatDoor
open Go.RowKit
set_option maxRecDepth 100000
set_option maxHeartbeats 20000000
theorem T9:Tryz.prog.follows .mixedOrders=true:=by kernel_rfl
theorem Ua:Az Tryz.prog 250 (Ad cI (Ac cB)) (fun x=>Hv x.1 x.2) cI:=AS (tbl:=[]) (dirty:=fun _=>[]) (n:=8) T9 Tryz.func250 rfl (fun x Post=>by
    refine Eq.trans (b:=?m) ?x (Eq.symm ?y)
    case y=>unfold Hv;simp only[<-CY (K:=PJ cI Post),<-Aov (K:=PJ cI Post)];exact rfl
    case x=>kernel_rfl)
def Jk:Ct Tryz.prog:=AH Tryz.prog 250 (Ad cI (Ac cB)) (fun x=>Hv x.1 x.2) cI (Af Tryz.func250 (by kernel_rfl) (by kernel_rfl)) Ua
theorem Alb:Az Tryz.prog 177 (Ad cI (Ac cPl)) (fun x=>goS x.1 x.2) cPl:=AS (tbl:=[]) (dirty:=fun _=>[]) (n:=8) T9 Tryz.func177 rfl (fun x Post=>by kernel_rfl)
def OR:Ct Tryz.prog:=AH Tryz.prog 177 (Ad cI (Ac cPl)) (fun x=>goS x.1 x.2) cPl (Af Tryz.func177 (by kernel_rfl) (by kernel_rfl)) Alb
theorem Alc:Az Tryz.prog 178 (Ad cPl (Ac cSn)) (fun x=>Q7 x.1 x.2) cPl:=AS (tbl:=[OR]) (dirty:=fun _=>[]) (n:=8) T9 Tryz.func178 rfl (fun x Post=>by
    refine Eq.trans (b:=?m) ?x (Eq.symm ?y)
    case y=>unfold Q7;simp only[<-Aou (K:=PJ cPl Post)];exact rfl
    case x=>kernel_rfl)
def Aq1:Ct Tryz.prog:=AH Tryz.prog 178 (Ad cPl (Ac cSn)) (fun x=>Q7 x.1 x.2) cPl (Af Tryz.func178 (by kernel_rfl) (by kernel_rfl)) Alc
theorem Aq2:Az Tryz.prog 179 (Ad cPl (Ac cSn)) (fun x=>Ae5 x.1 x.2) cPl:=AS (tbl:=[Jk,OR]) (dirty:=fun _=>[]) (n:=8) T9 Tryz.func179 rfl (fun x Post=>by
    obtain⟨p,a,b,c,d,e,f,g,o⟩:=x
    refine Eq.trans (b:=?m) ?x (Eq.symm ?y)
    case y=>unfold Ae5;simp only[<-CY (K:=PJ cPl Post)];exact rfl
    case x=>cases b<;>cases c<;>kernel_rfl)
def Au5:Ct Tryz.prog:=AH Tryz.prog 179 (Ad cPl (Ac cSn)) (fun x=>Ae5 x.1 x.2) cPl (Af Tryz.func179 (by kernel_rfl) (by kernel_rfl)) Aq2
theorem Aq3:Az Tryz.prog 181 (Ad cPl (Ac cSn)) (fun x=>Q8 x.1 x.2) cPl:=AS (tbl:=[Jk,OR]) (dirty:=fun _=>[]) (n:=8) T9 Tryz.func181 rfl (fun x Post=>by
    obtain⟨p,a,b,c,d,e,f,g,o⟩:=x
    cases b
    · refine Eq.trans (b:=?m1) ?x1 (Eq.symm ?y1)
      case y1=>unfold Q8;simp only[Bool.false_and,cond_false,<-CY (K:=PJ cPl Post)];exact rfl
      case x1=>kernel_rfl
    cases c
    ·kernel_rfl
    cases d
    · refine Eq.trans (b:=?m2) ?x2 (Eq.symm ?y2)
      case y2=>unfold Q8;simp only[Bool.true_and,Bool.not_true,Bool.false_and,cond_false,<-CY (K:=PJ cPl Post)];exact rfl
      case x2=>kernel_rfl
    cases e
    · refine Eq.trans (b:=?m3) ?x3 (Eq.symm ?y3)
      case y3=>unfold Q8;simp only[Bool.true_and,Bool.not_true,cond_false,<-CY (K:=PJ cPl Post)];exact rfl
      case x3=>kernel_rfl
    · refine Eq.trans (b:=?m4) ?x4 (Eq.symm ?y4)
      case y4=>unfold Q8;simp only[Bool.true_and,Bool.not_true,cond_false,<-CY (K:=PJ cPl Post)];exact rfl
      case x4=>kernel_rfl)
def Au6:Ct Tryz.prog:=AH Tryz.prog 181 (Ad cPl (Ac cSn)) (fun x=>Q8 x.1 x.2) cPl (Af Tryz.func181 (by kernel_rfl) (by kernel_rfl)) Aq3
theorem Ae7(k m c g i l f:Int)(w:World):Calls Tryz.prog 177 #[.int .i64 k,.agg #[.int .i64 m,.int .i64 c,.int .i64 g,.int .i64 i,.int .i64 l,.int .i64 f]] w fun e w'=>e=.returned (.agg #[.int .i64 k,.int .i64 0,.int .i64 0,.int .i64 0,.int .i64 0,.int .i64 f])/\Below w.heap.size w w':=by
 go_enter Tryz.func177,Tryz.ntmps177
 go_wp2_with (with_reducible refine Ae ?_)
 exact⟨bodyPost_ret (v:=.agg #[.int .i64 k,.int .i64 0,.int .i64 0,.int .i64 0,.int .i64 0,.int .i64 f]) (by simp[results,Tryz.results177,go_sem]) rfl ⟨rfl,Ai (Ai (Below.refl _ _) _) _⟩⟩
theorem Ae8(x m c g i l f:Int)(w:World)(hx:Cj x)(hm:Cj m)(hl:JM true true true true true m x=1):Calls Tryz.prog 180 #[.int .i64 x,.agg #[.int .i64 m,.int .i64 c,.int .i64 g,.int .i64 i,.int .i64 l,.int .i64 f]] w fun e w'=>e=.returned (.agg #[.int .i64 1,.int .i64 0,.int .i64 0,.int .i64 0,.int .i64 0,.int .i64 (bits .or .i64 f x)])/\Below w.heap.size w w':=by
 go_enter Tryz.func180,Tryz.ntmps180
 go_wp2_with fail
 have A0:Ap w.heap.size [.int .i64 m,.int .i64 c,.int .i64 g,.int .i64 i,.int .i64 l,.int .i64 (bits .or .i64 f x)] ((w.alloc (.cells #[.int .i64 m,.int .i64 c,.int .i64 g,.int .i64 i,.int .i64 l,.int .i64 (bits .or .i64 f x)] 36)).alloc (.cells #[.int .i64 0,.int .i64 0,.int .i64 0,.int .i64 0,.int .i64 0,.int .i64 0] 36)).drew:=((Am w _ [.int .i64 m,.int .i64 c,.int .i64 g,.int .i64 i,.int .i64 l,.int .i64 (bits .or .i64 f x)] 36 rfl).alloc _).drew
 have A1:Ap (w.heap.size+1) [.int .i64 0,.int .i64 0,.int .i64 0,.int .i64 0,.int .i64 0,.int .i64 0] ((w.alloc (.cells #[.int .i64 m,.int .i64 c,.int .i64 g,.int .i64 i,.int .i64 l,.int .i64 (bits .or .i64 f x)] 36)).alloc (.cells #[.int .i64 0,.int .i64 0,.int .i64 0,.int .i64 0,.int .i64 0,.int .i64 0] 36)).drew:=(Am _ _ [.int .i64 0,.int .i64 0,.int .i64 0,.int .i64 0,.int .i64 0,.int .i64 0] 36 (by simp)).drew
 have K0:Below w.heap.size w ((w.alloc (.cells #[.int .i64 m,.int .i64 c,.int .i64 g,.int .i64 i,.int .i64 l,.int .i64 (bits .or .i64 f x)] 36)).alloc (.cells #[.int .i64 0,.int .i64 0,.int .i64 0,.int .i64 0,.int .i64 0,.int .i64 0] 36)).drew:=Below.drew (Ai (Ai (Below.refl _ _) _) _)
 refine wp_region_held_drew (S:=fun w'=>Ap w.heap.size [.int .i64 m,.int .i64 c,.int .i64 g,.int .i64 i,.int .i64 l,.int .i64 (bits .or .i64 f x)] w') (by kernel_rfl) A0 (fun zH=>?_)
 generalize ((w.alloc (.cells #[.int .i64 m,.int .i64 c,.int .i64 g,.int .i64 i,.int .i64 l,.int .i64 (bits .or .i64 f x)] 36)).alloc (.cells #[.int .i64 0,.int .i64 0,.int .i64 0,.int .i64 0,.int .i64 0,.int .i64 0] 36)).drew=w0 at *
 refine zT 1 rfl (by kernel_rfl) (fun _ _ _=>id) rfl (fun _ _=>by go_simp<;>with_reducible rfl) zH ?_
 simp only[Act.put,zA,zB,zC]
 refine zT 2 rfl (by kernel_rfl) (fun _ _ _=>id) rfl (fun wx hS=>by have cw_0:wx.cell? ⟨w.heap.size,0,none⟩=some (.int .i64 m):=hS.c 0 (zD rfl);have cw_1:wx.cell? ⟨w.heap.size,1,none⟩=some (.int .i64 c):=hS.c 1 (zD rfl);have cw_2:wx.cell? ⟨w.heap.size,2,none⟩=some (.int .i64 g):=hS.c 2 (zD rfl);have cw_3:wx.cell? ⟨w.heap.size,3,none⟩=some (.int .i64 i):=hS.c 3 (zD rfl);have cw_4:wx.cell? ⟨w.heap.size,4,none⟩=some (.int .i64 l):=hS.c 4 (zD rfl);have cw_5:wx.cell? ⟨w.heap.size,5,none⟩=some (.int .i64 (bits .or .i64 f x)):=hS.c 5 (zD rfl);go_simp<;>with_reducible rfl) zH ?_
 simp only[Act.put,zA,zB,zC]
 refine zT 3 rfl (by kernel_rfl) (fun _ _ _=>id) rfl (fun _ _=>by go_simp<;>with_reducible rfl) zH ?_
 simp only[Act.put,zA,zB,zC]
 refine zT 4 rfl (by kernel_rfl) (fun _ _ _=>id) rfl (fun _ _=>by go_simp<;>with_reducible rfl) zH ?_
 simp only[Act.put,zA,zB,zC]
 refine zT 6 rfl (by kernel_rfl) (fun _ _ _=>id) rfl (fun wx hS=>by have cw_0:wx.cell? ⟨w.heap.size,0,none⟩=some (.int .i64 m):=hS.c 0 (zD rfl);have cw_1:wx.cell? ⟨w.heap.size,1,none⟩=some (.int .i64 c):=hS.c 1 (zD rfl);have cw_2:wx.cell? ⟨w.heap.size,2,none⟩=some (.int .i64 g):=hS.c 2 (zD rfl);have cw_3:wx.cell? ⟨w.heap.size,3,none⟩=some (.int .i64 i):=hS.c 3 (zD rfl);have cw_4:wx.cell? ⟨w.heap.size,4,none⟩=some (.int .i64 l):=hS.c 4 (zD rfl);have cw_5:wx.cell? ⟨w.heap.size,5,none⟩=some (.int .i64 (bits .or .i64 f x)):=hS.c 5 (zD rfl);go_simp<;>with_reducible rfl) zH ?_
 simp only[Act.put,zA,zB,zC]
 refine zK 0 (by kernel_rfl) rfl (fun K hK=>?_)
 go_simp
 refine(Y7 _).mono ?_
 rintro e w1 ⟨k,rfl,hk,M,b1⟩
 have A0_1:=A0.below b1
 have A1_1:=A1.below b1
 have K1:=Au K0 b1
 clear zH
 refine hK.out _ _ A0_1 (fun zH=>?_)
 clear hK K A0 A1 K0
 have Lk:=M.look hm hx
 rw[hl]at Lk
 refine zK 5 (by kernel_rfl) rfl (fun K hK=>?_)
 go_simp
 refine hK.out _ _ A0_1 (fun zH=>?_)
 clear hK K Lk
 refine zK 7 (by kernel_rfl) rfl (fun K hK=>?_)
 go_simp
 refine(Ae7 1 m c g i l (bits .or .i64 f x) _).mono ?_
 rintro e w2 ⟨rfl,b2⟩
 have A0_2:=A0_1.below b2
 have A1_2:=A1_1.below b2
 have K2:=Au K1 b2
 clear zH
 refine hK.out _ _ A0_2 (fun zH=>?_)
 clear hK K A0_1 A1_1 K1
 have cz_0:w2.cell? ⟨(w.heap.size+1),0,none⟩=some (.int .i64 0):=A1_2.c 0 (zD rfl)
 have gz_0:=A1_2.f 0 (zD rfl)
 have cz_1:w2.cell? ⟨(w.heap.size+1),1,none⟩=some (.int .i64 0):=A1_2.c 1 (zD rfl)
 have gz_1:=A1_2.f 1 (zD rfl)
 have cz_2:w2.cell? ⟨(w.heap.size+1),2,none⟩=some (.int .i64 0):=A1_2.c 2 (zD rfl)
 have gz_2:=A1_2.f 2 (zD rfl)
 have cz_3:w2.cell? ⟨(w.heap.size+1),3,none⟩=some (.int .i64 0):=A1_2.c 3 (zD rfl)
 have gz_3:=A1_2.f 3 (zD rfl)
 have cz_4:w2.cell? ⟨(w.heap.size+1),4,none⟩=some (.int .i64 0):=A1_2.c 4 (zD rfl)
 have gz_4:=A1_2.f 4 (zD rfl)
 have cz_5:w2.cell? ⟨(w.heap.size+1),5,none⟩=some (.int .i64 0):=A1_2.c 5 (zD rfl)
 have gz_5:=A1_2.f 5 (zD rfl)
 have l2:=A1_2.lies
 refine zK 8 (by kernel_rfl) rfl (fun K hK=>?_)
 go_simp
 refine hK.out _ _ ((((((A0_2.new (w.heap.size+1) 0 (by omega) (.int .i64 1)).new (w.heap.size+1) 1 (by omega) (.int .i64 0)).new (w.heap.size+1) 2 (by omega) (.int .i64 0)).new (w.heap.size+1) 3 (by omega) (.int .i64 0)).new (w.heap.size+1) 4 (by omega) (.int .i64 0)).new (w.heap.size+1) 5 (by omega) (.int .i64 (bits .or .i64 f x))) (fun zH=>?_)
 refine wpAnyH_done (by kernel_rfl) ?_ _
 have A1_3:=((((((A1_2.put 0 (zD rfl) (.int .i64 1) [.int .i64 1,.int .i64 0,.int .i64 0,.int .i64 0,.int .i64 0,.int .i64 0] rfl).put 1 (zD rfl) (.int .i64 0) [.int .i64 1,.int .i64 0,.int .i64 0,.int .i64 0,.int .i64 0,.int .i64 0] rfl).put 2 (zD rfl) (.int .i64 0) [.int .i64 1,.int .i64 0,.int .i64 0,.int .i64 0,.int .i64 0,.int .i64 0] rfl).put 3 (zD rfl) (.int .i64 0) [.int .i64 1,.int .i64 0,.int .i64 0,.int .i64 0,.int .i64 0,.int .i64 0] rfl).put 4 (zD rfl) (.int .i64 0) [.int .i64 1,.int .i64 0,.int .i64 0,.int .i64 0,.int .i64 0,.int .i64 0] rfl).put 5 (zD rfl) (.int .i64 (bits .or .i64 f x)) [.int .i64 1,.int .i64 0,.int .i64 0,.int .i64 0,.int .i64 0,.int .i64 (bits .or .i64 f x)] rfl)
 have K3:=(Al (Al (Al (Al (Al (Al K2 (w.heap.size+1) 0 (by omega) (.int .i64 1)) (w.heap.size+1) 1 (by omega) (.int .i64 0)) (w.heap.size+1) 2 (by omega) (.int .i64 0)) (w.heap.size+1) 3 (by omega) (.int .i64 0)) (w.heap.size+1) 4 (by omega) (.int .i64 0)) (w.heap.size+1) 5 (by omega) (.int .i64 (bits .or .i64 f x)))
 clear zH hK K
 go_wp2_with (with_reducible refine Ae ?_)
 exact⟨bodyPost_ret (v:=.agg #[.int .i64 1,.int .i64 0,.int .i64 0,.int .i64 0,.int .i64 0,.int .i64 (bits .or .i64 f x)]) (Ax Tryz.results180 A1_3 rfl (by kernel_rfl) (by kernel_rfl)) rfl ⟨rfl,K3⟩⟩
theorem Ae9{m x:Int}(h:decide (JM true true true true true m x=1)=true):Cj x/\Cj m/\JM true true true true true m x=1:=by
 have h:=of_decide_eq_true h
 refine⟨?_,?_,h⟩
 all_goals
  unfold JM at h
  split at h
  ·rename_i c
   exact⟨by omega,by omega⟩
  ·omega
theorem Ald:Az Tryz.prog 180 lFp (fun q=>EH q.1.1 q.1.2) cPl:=fun q w _=>Ae8 q.1.1 q.1.2.mode q.1.2.calm q.1.2.good q.1.2.miss q.1.2.lost q.1.2.faults w (Ae9 q.2).1 (Ae9 q.2).2.1 (Ae9 q.2).2.2
def Afa:Ct Tryz.prog:=AH Tryz.prog 180 lFp (fun q=>EH q.1.1 q.1.2) cPl (Af Tryz.func180 (by kernel_rfl) (by kernel_rfl)) Ald
theorem Aq4:Az Tryz.prog 182 (Ad cP2 (Ac cSn)) (fun x=>MC x.1.1 x.2) cPl:=AS (tbl:=[Jk,Afa]) (dirty:=fun _=>[]) (n:=8) T9 Tryz.func182 rfl (fun x Post=>by
    obtain⟨⟨⟨M,c,g,i,l,f⟩,hM⟩,a,gyro,b,pair,lit,bad,pass,o⟩:=x
    have hM:=of_decide_eq_true hM
    dsimp only at hM
    subst hM
    cases bad
    · cases gyro
      · cases pair
        · refine Eq.trans (b:=?m21) ?x21 (Eq.symm ?y21)
          case y21=>unfold MC EH;simp only[cond_false,Bool.not_false,Bool.false_and,<-CY (K:=PJ cPl Post)];exact rfl
          case x21=>kernel_rfl
        cases lit
        · refine Eq.trans (b:=?m22) ?x22 (Eq.symm ?y22)
          case y22=>unfold MC EH;simp only[cond_false,Bool.not_false,Bool.and_false,<-CY (K:=PJ cPl Post)];exact rfl
          case x22=>kernel_rfl
        · refine Eq.trans (b:=?m23) ?x23 (Eq.symm ?y23)
          case y23=>unfold MC EH;simp only[cond_false,cond_true,Bool.not_false,Bool.and_true,<-CY (K:=PJ cPl Post)];exact rfl
          case x23=>kernel_rfl
      · cases pair
        · refine Eq.trans (b:=?m24) ?x24 (Eq.symm ?y24)
          case y24=>unfold MC EH;simp only[cond_false,Bool.not_true,Bool.false_and,T8,Aq0];exact rfl
          case x24=>kernel_rfl
        cases lit
        · refine Eq.trans (b:=?m25) ?x25 (Eq.symm ?y25)
          case y25=>unfold MC EH;simp only[cond_false,Bool.not_true,Bool.and_false,T8,Aq0];exact rfl
          case x25=>kernel_rfl
        · refine Eq.trans (b:=?m26) ?x26 (Eq.symm ?y26)
          case y26=>unfold MC EH;simp only[cond_false,cond_true,Bool.not_true,Bool.and_true,T8,Aq0,<-CY (K:=PJ cPl Post)];exact rfl
          case x26=>kernel_rfl
    · show _=_
      kernel_rfl)
def Au7:Ct Tryz.prog:=AH Tryz.prog 182 (Ad cP2 (Ac cSn)) (fun x=>MC x.1.1 x.2) cPl (Af Tryz.func182 (by kernel_rfl) (by kernel_rfl)) Aq4
theorem Ale:Az Tryz.prog 111 (Ad cPl (Ac cSn)) (fun x=>Wm x.1 x.2) cPl:=AS (tbl:=[OR,Aq1,Au5,Afa,Au6,Au7]) (dirty:=fun _=>[]) (n:=8) T9 Tryz.func111 rfl (fun x Post=>by
    obtain⟨⟨M,c,g,i,l,f⟩,gap,gyro,slow,pair,lit,bad,pass,o⟩:=x
    refine Eq.trans (b:=DY (decide (o=1)) (PJ cPl Post (goS 3 ⟨M,c,g,i,l,f⟩)) (PJ cPl Post (Ae6 ⟨M,c,g,i,l,f⟩ ⟨gap,gyro,slow,pair,lit,bad,pass,o⟩))) ?x Aot
    rcases M with n |n
    · rcases n with _ |_ |_ |_ |n
      ·show _=_;kernel_rfl
      ·cases gap<;>(show _=_;kernel_rfl)
      ·cases gap<;>(show _=_;kernel_rfl)
      ·show _=_;kernel_rfl
      ·show _=_;kernel_rfl
    ·show _=_;kernel_rfl)
theorem Bs(n a b:Int)(w:World):Calls Tryz.prog 189 #[.int .i64 n,.int .i64 a,.int .i64 b] w fun e w'=>e=.returned (.bool (inR n a b))/\w=w':=by
 by_cases h:a<=n
 ·have H:Hid (inR n a b=decide (n<=b)):=by show _=_;unfold inR;rw[decide_eq_true h,Bool.true_and]
  go_enter Tryz.func189,Tryz.ntmps189
  go_wp2
  go_ret
  exact⟨by rw[H.out];rfl,rfl⟩
 ·have H:Hid (inR n a b=false):=by show _=_;unfold inR;rw[decide_eq_false h,Bool.false_and]
  go_enter Tryz.func189,Tryz.ntmps189
  go_wp2
  go_ret
  exact⟨by rw[H.out];rfl,rfl⟩
theorem Y8(t:Int)(w:World)(h0:0<=t)(h1:t<=157766400000):
    Calls Tryz.prog 187 #[.slice none 0 0,.int .i64 t] w fun e w'=>∃v,e=.returned v/\Bg w.heap.size w' v (tickL t)/\Below w.heap.size w w':=by
 have HT:Hid ([IntKind.u8.wrap (IntKind.u64.wrap t / 1099511627776),IntKind.u8.wrap (IntKind.u64.wrap t / 4294967296),IntKind.u8.wrap (IntKind.u64.wrap t / 16777216),IntKind.u8.wrap (IntKind.u64.wrap t / 65536),IntKind.u8.wrap (IntKind.u64.wrap t / 256),IntKind.u8.wrap (IntKind.u64.wrap t)]=tickL t):=by
  show _=_
  rw[show IntKind.u64.wrap t=t by rw[IntKind.wrap_u64];omega]
  rfl
 clear h0 h1
 go_enter Tryz.func187,Tryz.ntmps187
 go_wp2_with fail
 refine wp_loop_rounds 7 ?_
 rw[rounds_succ]
 go_wp2_with (at_builtin;refine AN rfl (.tmp 10) (.tmp 16) rfl w.heap.size (.slice none 0 0) [] [IntKind.u8.wrap (IntKind.u64.wrap t / 1099511627776)] w rfl (World.ownsRow_nil _ _ _ _) rfl (Nat.le_of_ble_eq_true rfl) (Nat.le_refl _) ?_;intro v1 w1 o1 b1 s1)
 have z1:w.heap.size<=w1.heap.size:=Nat.le_trans (Nat.le_refl _) s1
 clear s1
 simp only[List.nil_append]at o1
 rw[rounds_succ]
 go_wp2_with (at_builtin;refine AN rfl (.tmp 10) (.tmp 16) rfl w.heap.size v1 [IntKind.u8.wrap (IntKind.u64.wrap t / 1099511627776)] [IntKind.u8.wrap (IntKind.u64.wrap t / 4294967296)] w1 rfl o1 rfl (Nat.le_of_ble_eq_true rfl) z1 ?_;intro v2 w2 o2 b2 s2)
 have z2:w.heap.size<=w2.heap.size:=Nat.le_trans z1 s2
 have b2:=b1.trans b2
 clear b1 s2 o1 z1
 simp only[List.cons_append,List.nil_append]at o2
 rw[rounds_succ]
 go_wp2_with (at_builtin;refine AN rfl (.tmp 10) (.tmp 16) rfl w.heap.size v2 [IntKind.u8.wrap (IntKind.u64.wrap t / 1099511627776),IntKind.u8.wrap (IntKind.u64.wrap t / 4294967296)] [IntKind.u8.wrap (IntKind.u64.wrap t / 16777216)] w2 rfl o2 rfl (Nat.le_of_ble_eq_true rfl) z2 ?_;intro v3 w3 o3 b3 s3)
 have z3:w.heap.size<=w3.heap.size:=Nat.le_trans z2 s3
 have b3:=b2.trans b3
 clear b2 s3 o2 z2
 simp only[List.cons_append,List.nil_append]at o3
 rw[rounds_succ]
 go_wp2_with (at_builtin;refine AN rfl (.tmp 10) (.tmp 16) rfl w.heap.size v3 [IntKind.u8.wrap (IntKind.u64.wrap t / 1099511627776),IntKind.u8.wrap (IntKind.u64.wrap t / 4294967296),IntKind.u8.wrap (IntKind.u64.wrap t / 16777216)] [IntKind.u8.wrap (IntKind.u64.wrap t / 65536)] w3 rfl o3 rfl (Nat.le_of_ble_eq_true rfl) z3 ?_;intro v4 w4 o4 b4 s4)
 have z4:w.heap.size<=w4.heap.size:=Nat.le_trans z3 s4
 have b4:=b3.trans b4
 clear b3 s4 o3 z3
 simp only[List.cons_append,List.nil_append]at o4
 rw[rounds_succ]
 go_wp2_with (at_builtin;refine AN rfl (.tmp 10) (.tmp 16) rfl w.heap.size v4 [IntKind.u8.wrap (IntKind.u64.wrap t / 1099511627776),IntKind.u8.wrap (IntKind.u64.wrap t / 4294967296),IntKind.u8.wrap (IntKind.u64.wrap t / 16777216),IntKind.u8.wrap (IntKind.u64.wrap t / 65536)] [IntKind.u8.wrap (IntKind.u64.wrap t / 256)] w4 rfl o4 rfl (Nat.le_of_ble_eq_true rfl) z4 ?_;intro v5 w5 o5 b5 s5)
 have z5:w.heap.size<=w5.heap.size:=Nat.le_trans z4 s5
 have b5:=b4.trans b5
 clear b4 s5 o4 z4
 simp only[List.cons_append,List.nil_append]at o5
 rw[rounds_succ]
 go_wp2_with (at_builtin;refine AN rfl (.tmp 10) (.tmp 16) rfl w.heap.size v5 [IntKind.u8.wrap (IntKind.u64.wrap t / 1099511627776),IntKind.u8.wrap (IntKind.u64.wrap t / 4294967296),IntKind.u8.wrap (IntKind.u64.wrap t / 16777216),IntKind.u8.wrap (IntKind.u64.wrap t / 65536),IntKind.u8.wrap (IntKind.u64.wrap t / 256)] [IntKind.u8.wrap (IntKind.u64.wrap t)] w5 rfl o5 rfl (Nat.le_of_ble_eq_true rfl) z5 ?_;intro v6 w6 o6 b6 s6)
 have z6:w.heap.size<=w6.heap.size:=Nat.le_trans z5 s6
 have b6:=b5.trans b6
 clear b5 s6 o5 z5
 simp only[List.cons_append,List.nil_append]at o6
 rw[HT.out]at o6
 rw[rounds_succ]
 go_wp2_with (with_reducible refine Ae ?_)
 exact⟨bodyPost_ret (v:=v6) (by simp[results,Tryz.results187,go_sem]) rfl ⟨v6,rfl,o6,b6⟩⟩
theorem Cq(B:Nat)(v:Value)(l:List Int)(c:Int)(w:World)(hO:Bg B w v l)(hB:B<=w.heap.size)(hl:l.length<=90):
    Calls Tryz.prog 188 #[v,.int .i64 c] w fun e w'=>∃v',e=.returned v'/\Bg B w' v' (l++Cc c)/\Below B w w'/\w.heap.size<=w'.heap.size:=by
 have HT:Hid (Cc c=[IntKind.u8.wrap (IntKind.u16.wrap c / 256),IntKind.u8.wrap (IntKind.u16.wrap c)]):=rfl
 go_enter Tryz.func188,Tryz.ntmps188
 go_wp2_with (at_builtin;refine AN rfl (.tmp 8) (.tmp 14) rfl B v l [IntKind.u8.wrap (IntKind.u16.wrap c / 256),IntKind.u8.wrap (IntKind.u16.wrap c)] w rfl hO rfl (by simp;omega) hB ?_;intro v1 w1 o1 b1 s1)
 skip
 go_wp2_with (with_reducible refine Ae ?_)
 exact⟨bodyPost_ret (v:=v1) (by simp[results,Tryz.results188,go_sem]) rfl ⟨v1,rfl,by rw[HT.out];exact o1,b1,s1⟩⟩
theorem Au8{a b:Nat}(ha:a<72057594037927936)(hb:b<256):bits .or .u64 ((a:Int)*256) (b:Int)=((a*256+b:Nat):Int):=by
 rw[show(a:Int)*256=((a*256:Nat):Int)by omega]
 show IntKind.u64.wrap ((BitVec.ofInt 64 ((a*256:Nat):Int)|||BitVec.ofInt 64 (b:Int)).toNat:Int)=_
 have e:=Nat.two_pow_add_eq_or_of_lt (i:=8) (show b<2^8 by omega) a
 rw[BitVec.toNat_or,ofInt_u64 _ (by omega),ofInt_u64 b (by omega),show a*256=2^8*a by omega,<-e]
 rw[IntKind.wrap_u64]
 omega
theorem JN(s:ByteArray)(w:World)(h:s.size=6):
    Calls Tryz.prog 118 #[.string s] w fun e w'=>e=.returned (.int .i64 (tickS s))/\w=w':=by
 go_enter Tryz.func118,Tryz.ntmps118
 go_wp2
 go_loop [3,5] (fun r i=>∃k:Nat,k<=6/\i=.int .i64 k/\r=.int .u64 (tickK s k:Nat)) (fun _ i=>6-(intOf i).toNat)
 case atStart=>exact⟨0,by omega,rfl,rfl⟩
 case round=>
  obtain⟨k,hk,rfl,rfl⟩:=hrel
  by_cases c:k<6
  ·have hi:=B9 (s:=s) (i:=(k:Int)) (n:=k) (by omega) rfl
   have hb:=CU s k
   have ht:tickK s k<1099511627776:=Nat.lt_of_lt_of_le (Iw s k) (show 256^k<=256^5 from Nat.pow_le_pow_right (by decide) (by omega))
   have HT:Hid (tickK s (k+1)=tickK s k*256+bt s k):=rfl
   generalize tickK s k=t at ht HT ⊢
   generalize bt s k=b at hi hb HT
   have ho:=Au8 (show t<72057594037927936 by omega) hb
   go_wp2
   go_round
   case rel=>exact⟨k+1,by omega,by go_num,by rw[HT.out];show _=Value.int .u64 ((t*256+b:Nat):Int);rw[show((t*256+b:Nat):Int)=(t:Int)*256+b by omega]⟩
   case measure=>simp[intOf];omega
  ·obtain rfl:k=6:=by omega
   have HT:Hid (tickS s=(tickK s 6:Nat)):=rfl
   have hl:=Ab4 s (k:=6) (by omega)
   generalize tickK s 6=t at HT hl ⊢
   have hw:IntKind.i64.wrap (t:Int)=t:=by rw[IntKind.wrap_i64];omega
   go_wp2
   go_ret
   exact⟨by rw[HT.out];rfl,rfl⟩
theorem Jl (s:ByteArray)(i:Int)(p:Nat)(w:World)(hi:i=p)(h:p+1<s.size)(hp:p<100):
    Calls Tryz.prog 119 #[.string s,.int .i64 i] w fun e w'=>e=.returned (.int .u16 (cnt s p:Nat))/\w'=w.drew:=by
 subst hi
 have i0:=B9 (s:=s) (i:=(p:Int)) (n:=p) (by omega) (by omega)
 have i1:=B9 (s:=s) (i:=(p:Int)+1) (n:=p+1) (by omega) (by omega)
 have b0:=CU s p
 have b1:=CU s (p+1)
 have HC:Hid (cnt s p=bt s p*256+bt s (p+1)):=rfl
 have w3:IntKind.i64.wrap ((p:Int)+1)=(p:Int)+1:=by rw[IntKind.wrap_i64];omega
 generalize bt s p=a at i0 b0 HC
 generalize bt s (p+1)=b at i1 b1 HC
 have ho:=Atv b0 b1
 rw[HC.out]
 go_enter Tryz.func119,Tryz.ntmps119
 go_wp2
 go_region
 go_wp2
 go_ret
 exact ⟨by have e:((a*256+b:Nat):Int)=(a:Int)*256+b:=by omega
           rw[e];rfl,rfl⟩
theorem AW(s:ByteArray)(i:Int)(p:Nat)(w:World)(hi:i=p)(h:p+1<s.size)(hp:p<100):
    Calls Tryz.prog 120 #[.string s,.int .i64 i] w fun e w'=>e=.returned (.int .i64 (sg (cnt s p)))/\w'=w.drew:=by
 subst hi
 have hc:=fun W=>Jl s p p W rfl h hp
 have hl:=Eo s p
 generalize cnt s p=n at hc hl ⊢
 have HS:Hid (sg n=if 32768<=n then(n:Int)-65536 else n):=rfl
 have e16:IntKind.i16.wrap (n:Int)=sg n:=by
  rw[HS.out]
  simp[IntKind.wrap,IntKind.bits,IntKind.signed]
  split<;>split<;>omega
 have hr:=Ab3 hl
 have e64:IntKind.i64.wrap (sg n)=sg n:=by rw[IntKind.wrap_i64];omega
 go_enter Tryz.func120,Tryz.ntmps120
 go_wp2_with (go_at_call 119;refine(hc _).mono ?_;rintro e w1 ⟨rfl,rfl⟩)
 go_ret
 exact⟨rfl,rfl⟩
@[go_sem] theorem Awu (a b c d:Int)(w:World):(Instr.index 145 (.agg #[.int .i64 a,.int .i64 b,.int .i64 c,.int .i64 d]) (.int .i64 0)).run Tryz.prog w=.ok (.int .i64 a) w:=by kernel_rfl
@[go_sem] theorem Awv (a b c d:Int)(w:World):(Instr.index 145 (.agg #[.int .i64 a,.int .i64 b,.int .i64 c,.int .i64 d]) (.int .i64 1)).run Tryz.prog w=.ok (.int .i64 b) w:=by kernel_rfl
@[go_sem] theorem Aww (a b c d:Int)(w:World):(Instr.index 145 (.agg #[.int .i64 a,.int .i64 b,.int .i64 c,.int .i64 d]) (.int .i64 2)).run Tryz.prog w=.ok (.int .i64 c) w:=by kernel_rfl
@[go_sem] theorem Awx (a b c d:Int)(w:World):(Instr.index 145 (.agg #[.int .i64 a,.int .i64 b,.int .i64 c,.int .i64 d]) (.int .i64 3)).run Tryz.prog w=.ok (.int .i64 d) w:=by kernel_rfl
@[go_sem] theorem Awy (a b c:Int)(w:World):(Instr.index 146 (.agg #[.int .i64 a,.int .i64 b,.int .i64 c]) (.int .i64 0)).run Tryz.prog w=.ok (.int .i64 a) w:=by kernel_rfl
@[go_sem] theorem Awz (a b c:Int)(w:World):(Instr.index 146 (.agg #[.int .i64 a,.int .i64 b,.int .i64 c]) (.int .i64 1)).run Tryz.prog w=.ok (.int .i64 b) w:=by kernel_rfl
@[go_sem] theorem Aw0 (a b c:Int)(w:World):(Instr.index 146 (.agg #[.int .i64 a,.int .i64 b,.int .i64 c]) (.int .i64 2)).run Tryz.prog w=.ok (.int .i64 c) w:=by kernel_rfl
theorem EI(T:Tl)(w:World):Calls Tryz.prog 121 #[.agg #[.int .i64 T.t,.int .i64 T.m,.int .i64 T.fa,.int .i64 T.ak,.int .i64 T.er,.int .i64 T.rj,.int .i64 T.q0,.int .i64 T.q1,.int .i64 T.q2,.int .i64 T.q3,.int .i64 T.d0,.int .i64 T.d1,.int .i64 T.d2]] w fun e w'=>e=.returned (.bool (tlOk T))/\Below w.heap.size w w':=by
 have HO:Hid (tlOk T=(cRight T.t&&inR T.m 0 3&&inR T.fa 0 15&&inR T.ak 0 255&&inR T.er 0 255&&inR T.rj 0 65535&&inR T.q0 (-32768) 32767&&inR T.q1 (-32768) 32767&&inR T.q2 (-32768) 32767&&inR T.q3 (-32768) 32767&&inR T.d0 (-32768) 32767&&inR T.d1 (-32768) 32767&&inR T.d2 (-32768) 32767)):=rfl
 generalize tlOk T=ok at HO ⊢
 have hct:=fun W=>Bq T.t W
 generalize cRight T.t=xt at hct HO
 have hm:=fun W=>Bs T.m 0 3 W
 generalize inR T.m 0 3=xm at hm HO
 have hfa:=fun W=>Bs T.fa 0 15 W
 generalize inR T.fa 0 15=xfa at hfa HO
 have hak:=fun W=>Bs T.ak 0 255 W
 generalize inR T.ak 0 255=xak at hak HO
 have her:=fun W=>Bs T.er 0 255 W
 generalize inR T.er 0 255=xer at her HO
 have hrj:=fun W=>Bs T.rj 0 65535 W
 generalize inR T.rj 0 65535=xrj at hrj HO
 have hq0:=fun W=>Bs T.q0 (-32768) 32767 W
 generalize inR T.q0 (-32768) 32767=xq0 at hq0 HO
 have hq1:=fun W=>Bs T.q1 (-32768) 32767 W
 generalize inR T.q1 (-32768) 32767=xq1 at hq1 HO
 have hq2:=fun W=>Bs T.q2 (-32768) 32767 W
 generalize inR T.q2 (-32768) 32767=xq2 at hq2 HO
 have hq3:=fun W=>Bs T.q3 (-32768) 32767 W
 generalize inR T.q3 (-32768) 32767=xq3 at hq3 HO
 have hd0:=fun W=>Bs T.d0 (-32768) 32767 W
 generalize inR T.d0 (-32768) 32767=xd0 at hd0 HO
 have hd1:=fun W=>Bs T.d1 (-32768) 32767 W
 generalize inR T.d1 (-32768) 32767=xd1 at hd1 HO
 have hd2:=fun W=>Bs T.d2 (-32768) 32767 W
 generalize inR T.d2 (-32768) 32767=xd2 at hd2 HO
 have A:=Am w w.heap.size [.int .i64 T.t,.int .i64 T.m,.int .i64 T.fa,.int .i64 T.ak,.int .i64 T.er,.int .i64 T.rj,.int .i64 T.q0,.int .i64 T.q1,.int .i64 T.q2,.int .i64 T.q3,.int .i64 T.d0,.int .i64 T.d1,.int .i64 T.d2] 148 rfl
 clear A
 go_enter Tryz.func121,Tryz.ntmps121
 go_wp2_with fail
 refine wp_loop_rounds 5 ?_
 rw[rounds_succ]
 go_wp2_with fail
 refine(hq0 _).mono ?_
 rintro e X ⟨rfl,rfl⟩
 cases xq0
 case false=>
  go_wp2_with (with_reducible refine Ae ?_)
  exact⟨bodyPost_ret (v:=.bool false) (by simp[results,Tryz.results121,go_sem]) rfl ⟨by rw[HO.out];simp,Ai (Below.refl _ _) _⟩⟩
 go_wp2_with fail
 rw[rounds_succ]
 go_wp2_with fail
 refine(hq1 _).mono ?_
 rintro e X ⟨rfl,rfl⟩
 cases xq1
 case false=>
  go_wp2_with (with_reducible refine Ae ?_)
  exact⟨bodyPost_ret (v:=.bool false) (by simp[results,Tryz.results121,go_sem]) rfl ⟨by rw[HO.out];simp,Ai (Below.refl _ _) _⟩⟩
 go_wp2_with fail
 rw[rounds_succ]
 go_wp2_with fail
 refine(hq2 _).mono ?_
 rintro e X ⟨rfl,rfl⟩
 cases xq2
 case false=>
  go_wp2_with (with_reducible refine Ae ?_)
  exact⟨bodyPost_ret (v:=.bool false) (by simp[results,Tryz.results121,go_sem]) rfl ⟨by rw[HO.out];simp,Ai (Below.refl _ _) _⟩⟩
 go_wp2_with fail
 rw[rounds_succ]
 go_wp2_with fail
 refine(hq3 _).mono ?_
 rintro e X ⟨rfl,rfl⟩
 cases xq3
 case false=>
  go_wp2_with (with_reducible refine Ae ?_)
  exact⟨bodyPost_ret (v:=.bool false) (by simp[results,Tryz.results121,go_sem]) rfl ⟨by rw[HO.out];simp,Ai (Below.refl _ _) _⟩⟩
 go_wp2_with fail
 rw[rounds_succ]
 go_wp2_with fail
 refine wp_loop_rounds 4 ?_
 rw[rounds_succ]
 go_wp2_with fail
 refine(hd0 _).mono ?_
 rintro e X ⟨rfl,rfl⟩
 cases xd0
 case false=>
  go_wp2_with (with_reducible refine Ae ?_)
  exact⟨bodyPost_ret (v:=.bool false) (by simp[results,Tryz.results121,go_sem]) rfl ⟨by rw[HO.out];simp,Ai (Below.refl _ _) _⟩⟩
 go_wp2_with fail
 rw[rounds_succ]
 go_wp2_with fail
 refine(hd1 _).mono ?_
 rintro e X ⟨rfl,rfl⟩
 cases xd1
 case false=>
  go_wp2_with (with_reducible refine Ae ?_)
  exact⟨bodyPost_ret (v:=.bool false) (by simp[results,Tryz.results121,go_sem]) rfl ⟨by rw[HO.out];simp,Ai (Below.refl _ _) _⟩⟩
 go_wp2_with fail
 rw[rounds_succ]
 go_wp2_with fail
 refine(hd2 _).mono ?_
 rintro e X ⟨rfl,rfl⟩
 cases xd2
 case false=>
  go_wp2_with (with_reducible refine Ae ?_)
  exact⟨bodyPost_ret (v:=.bool false) (by simp[results,Tryz.results121,go_sem]) rfl ⟨by rw[HO.out];simp,Ai (Below.refl _ _) _⟩⟩
 go_wp2_with fail
 rw[rounds_succ]
 have A:=Am w w.heap.size [.int .i64 T.t,.int .i64 T.m,.int .i64 T.fa,.int .i64 T.ak,.int .i64 T.er,.int .i64 T.rj,.int .i64 T.q0,.int .i64 T.q1,.int .i64 T.q2,.int .i64 T.q3,.int .i64 T.d0,.int .i64 T.d1,.int .i64 T.d2] 148 rfl
 go_wp2_with fail
 refine(hct _).mono ?_
 rintro e X ⟨rfl,bk⟩
 have A:=A.below bk
 have L:=Au (Ai (Below.refl _ _) _) bk
 clear bk
 have az:=A.lies
 have a1:X.cell? ⟨w.heap.size,1,none⟩=some (.int .i64 T.m):=A.c 1 (zD rfl)
 have a2:X.cell? ⟨w.heap.size,2,none⟩=some (.int .i64 T.fa):=A.c 2 (zD rfl)
 have a3:X.cell? ⟨w.heap.size,3,none⟩=some (.int .i64 T.ak):=A.c 3 (zD rfl)
 have a4:X.cell? ⟨w.heap.size,4,none⟩=some (.int .i64 T.er):=A.c 4 (zD rfl)
 have a5:X.cell? ⟨w.heap.size,5,none⟩=some (.int .i64 T.rj):=A.c 5 (zD rfl)
 cases xt
 case false=>
  go_wp2_with (with_reducible refine Ae ?_)
  exact⟨bodyPost_ret (v:=.bool false) (by simp[results,Tryz.results121,go_sem]) rfl ⟨by rw[HO.out];simp,L⟩⟩
 go_wp2_with fail
 refine(hm _).mono ?_
 rintro e Y ⟨rfl,rfl⟩
 cases xm
 case false=>
  go_wp2_with (with_reducible refine Ae ?_)
  exact⟨bodyPost_ret (v:=.bool false) (by simp[results,Tryz.results121,go_sem]) rfl ⟨by rw[HO.out];simp,L⟩⟩
 go_wp2_with fail
 refine(hfa _).mono ?_
 rintro e Y ⟨rfl,rfl⟩
 cases xfa
 case false=>
  go_wp2_with (with_reducible refine Ae ?_)
  exact⟨bodyPost_ret (v:=.bool false) (by simp[results,Tryz.results121,go_sem]) rfl ⟨by rw[HO.out];simp,L⟩⟩
 go_wp2_with fail
 refine(hak _).mono ?_
 rintro e Y ⟨rfl,rfl⟩
 cases xak
 case false=>
  go_wp2_with (with_reducible refine Ae ?_)
  exact⟨bodyPost_ret (v:=.bool false) (by simp[results,Tryz.results121,go_sem]) rfl ⟨by rw[HO.out];simp,L⟩⟩
 go_wp2_with fail
 refine(her _).mono ?_
 rintro e Y ⟨rfl,rfl⟩
 cases xer
 case false=>
  go_wp2_with (with_reducible refine Ae ?_)
  exact⟨bodyPost_ret (v:=.bool false) (by simp[results,Tryz.results121,go_sem]) rfl ⟨by rw[HO.out];simp,L⟩⟩
 go_wp2_with fail
 refine(hrj _).mono ?_
 rintro e Y ⟨rfl,rfl⟩
 cases xrj
 case false=>
  go_wp2_with (with_reducible refine Ae ?_)
  exact⟨bodyPost_ret (v:=.bool false) (by simp[results,Tryz.results121,go_sem]) rfl ⟨by rw[HO.out];simp,L⟩⟩
 go_wp2_with (with_reducible refine Ae ?_)
 exact⟨bodyPost_ret (v:=.bool true) (by simp[results,Tryz.results121,go_sem]) rfl ⟨by rw[HO.out];simp,L⟩⟩
theorem Y9(T:Tl)(w:World)(h:tlOk T=false):
    Calls Tryz.prog 115 #[.agg #[.int .i64 T.t,.int .i64 T.m,.int .i64 T.fa,.int .i64 T.ak,.int .i64 T.er,.int .i64 T.rj,.int .i64 T.q0,.int .i64 T.q1,.int .i64 T.q2,.int .i64 T.q3,.int .i64 T.d0,.int .i64 T.d1,.int .i64 T.d2]] w fun e w'=>e=.returned (.tuple #[.agg #[.int .i64 0,.string ⟨#[]⟩],.bool false])/\Below w.heap.size w w':=by
 have hm:=EI T
 rw[h]at hm
 go_enter Tryz.func115,Tryz.ntmps115
 have A0:=(Am w w.heap.size [.int .i64 T.t,.int .i64 T.m,.int .i64 T.fa,.int .i64 T.ak,.int .i64 T.er,.int .i64 T.rj,.int .i64 T.q0,.int .i64 T.q1,.int .i64 T.q2,.int .i64 T.q3,.int .i64 T.d0,.int .i64 T.d1,.int .i64 T.d2] 148 rfl).alloc (.cells #[.int .i64 0,.string ⟨#[]⟩] 77)
 have R0:=Am (w.alloc (.cells #[.int .i64 T.t,.int .i64 T.m,.int .i64 T.fa,.int .i64 T.ak,.int .i64 T.er,.int .i64 T.rj,.int .i64 T.q0,.int .i64 T.q1,.int .i64 T.q2,.int .i64 T.q3,.int .i64 T.d0,.int .i64 T.d1,.int .i64 T.d2] 148)) (w.heap.size+1) [.int .i64 0,.string ⟨#[]⟩] 77 (by simp)
 have L0:=Ai (Ai (Below.refl w.heap.size w) (.cells #[.int .i64 T.t,.int .i64 T.m,.int .i64 T.fa,.int .i64 T.ak,.int .i64 T.er,.int .i64 T.rj,.int .i64 T.q0,.int .i64 T.q1,.int .i64 T.q2,.int .i64 T.q3,.int .i64 T.d0,.int .i64 T.d1,.int .i64 T.d2] 148)) (.cells #[.int .i64 0,.string ⟨#[]⟩] 77)
 go_wp2_with fail
 refine(hm _).mono ?_
 rintro e X1 ⟨rfl,k⟩
 have A1:=A0.below k
 have R1:=R0.below k
 have L1:=Au L0 k
 have Az1:=A1.lies
 have Rz1:=R1.lies
 clear k A0 R0 L0
 have c0:X1.cell? ⟨w.heap.size+1,0,none⟩=some (.int .i64 0):=R1.c 0 (zD rfl)
 have c1:X1.cell? ⟨w.heap.size+1,1,none⟩=some (.string ⟨#[]⟩):=R1.c 1 (zD rfl)
 have f0:=R1.f 0 (zD rfl)
 have f1:=R1.f 1 (zD rfl)
 go_wp2_with (with_reducible refine Ae ?_)
 have d0:=Ap.c ((R1.put 0 (zD rfl) (.int .i64 0) [.int .i64 0,.string ⟨#[]⟩] rfl).put 1 (zD rfl) (.string ⟨#[]⟩) [.int .i64 0,.string ⟨#[]⟩] rfl) 0 (zD rfl)
 have d1:=Ap.c ((R1.put 0 (zD rfl) (.int .i64 0) [.int .i64 0,.string ⟨#[]⟩] rfl).put 1 (zD rfl) (.string ⟨#[]⟩) [.int .i64 0,.string ⟨#[]⟩] rfl) 1 (zD rfl)
 simp only[List.getElem_cons_zero,List.getElem_cons_succ]at d0 d1
 exact⟨bodyPost_ret (v:=.tuple #[.agg #[.int .i64 0,.string ⟨#[]⟩],.bool false]) (by simp[results_cell_tmp Tryz.results115,asAddr,go_sem,d0,d1]) rfl ⟨rfl,Al (Al L1 _ _ (by omega) _) _ _ (by omega) _⟩⟩
theorem Ub(T:Tl)(w:World)(h:tlOk T=true):
    Calls Tryz.prog 115 #[.agg #[.int .i64 T.t,.int .i64 T.m,.int .i64 T.fa,.int .i64 T.ak,.int .i64 T.er,.int .i64 T.rj,.int .i64 T.q0,.int .i64 T.q1,.int .i64 T.q2,.int .i64 T.q3,.int .i64 T.d0,.int .i64 T.d1,.int .i64 T.d2]] w fun e w'=>e=.returned (.tuple #[.agg #[.int .i64 32,.string (strOf (tlL T))],.bool true])/\Below w.heap.size w w':=by
 have hm:=EI T
 rw[h]at hm
 have H:=Atx h
 clear h
 have HL:Hid (tickL T.t++[T.m,T.fa,T.ak,T.er]++Cc T.rj++Cc T.q0++Cc T.q1++Cc T.q2++Cc T.q3++Cc T.d0++Cc T.d1++Cc T.d2=tlL T):=rfl
 have hrg:=Ai9 H
 have wm:IntKind.u8.wrap T.m=T.m:=by have:=H.m;rw[IntKind.wrap_u8];omega
 have wfa:IntKind.u8.wrap T.fa=T.fa:=by have:=H.fa;rw[IntKind.wrap_u8];omega
 have wak:IntKind.u8.wrap T.ak=T.ak:=by have:=H.ak;rw[IntKind.wrap_u8];omega
 have wer:IntKind.u8.wrap T.er=T.er:=by have:=H.er;rw[IntKind.wrap_u8];omega
 generalize hS:strOf (tlL T)=S
 have HS:Hid (strOf (tlL T)=S):=hS
 clear hS
 have ht:=H.t
 have htk:=fun W=>Y8 T.t W ht.1 ht.2
 clear ht
 go_enter Tryz.func115,Tryz.ntmps115
 have A0:=(Am w w.heap.size [.int .i64 T.t,.int .i64 T.m,.int .i64 T.fa,.int .i64 T.ak,.int .i64 T.er,.int .i64 T.rj,.int .i64 T.q0,.int .i64 T.q1,.int .i64 T.q2,.int .i64 T.q3,.int .i64 T.d0,.int .i64 T.d1,.int .i64 T.d2] 148 rfl).alloc (.cells #[.int .i64 0,.string ⟨#[]⟩] 77)
 have R0:=Am (w.alloc (.cells #[.int .i64 T.t,.int .i64 T.m,.int .i64 T.fa,.int .i64 T.ak,.int .i64 T.er,.int .i64 T.rj,.int .i64 T.q0,.int .i64 T.q1,.int .i64 T.q2,.int .i64 T.q3,.int .i64 T.d0,.int .i64 T.d1,.int .i64 T.d2] 148)) (w.heap.size+1) [.int .i64 0,.string ⟨#[]⟩] 77 (by simp)
 have L0:=Ai (Ai (Below.refl w.heap.size w) (.cells #[.int .i64 T.t,.int .i64 T.m,.int .i64 T.fa,.int .i64 T.ak,.int .i64 T.er,.int .i64 T.rj,.int .i64 T.q0,.int .i64 T.q1,.int .i64 T.q2,.int .i64 T.q3,.int .i64 T.d0,.int .i64 T.d1,.int .i64 T.d2] 148)) (.cells #[.int .i64 0,.string ⟨#[]⟩] 77)
 go_wp2_with fail
 refine(hm _).mono ?_
 rintro e X1 ⟨rfl,k⟩
 have A1:=A0.below k
 have R1:=R0.below k
 have L1:=Au L0 k
 have Az1:=A1.lies
 have Rz1:=R1.lies
 clear k A0 R0 L0
 have a0:X1.cell? ⟨w.heap.size,0,none⟩=some (.int .i64 T.t):=A1.c 0 (zD rfl)
 go_wp2_with fail
 refine(htk _).mono ?_
 rintro e X2 ⟨v2,rfl,o2,k⟩
 have o2:=o2.base (show w.heap.size+2<=X1.heap.size by omega)
 have A2:=A1.below k
 have R2:=R1.below k
 have L2:=Au L1 k
 have Az2:=A2.lies
 have Rz2:=R2.lies
 clear k A1 R1 L1 Az1 Rz1
 clear a0
 have z2:w.heap.size+2<=X2.heap.size:=by omega
 have a1:X2.cell? ⟨w.heap.size,1,none⟩=some (.int .i64 T.m):=A2.c 1 (zD rfl)
 have a2:X2.cell? ⟨w.heap.size,2,none⟩=some (.int .i64 T.fa):=A2.c 2 (zD rfl)
 have a3:X2.cell? ⟨w.heap.size,3,none⟩=some (.int .i64 T.ak):=A2.c 3 (zD rfl)
 have a4:X2.cell? ⟨w.heap.size,4,none⟩=some (.int .i64 T.er):=A2.c 4 (zD rfl)
 go_wp2_with (at_builtin;refine AN rfl (.tmp 16) (.tmp 29) rfl (w.heap.size+2) v2 (tickL T.t) [T.m,T.fa,T.ak,T.er] X2 rfl o2 rfl (Nat.le_of_ble_eq_true rfl) z2 ?_;intro v3 X3 o3 k s;have A3:=A2.under k (by omega) s;have R3:=R2.under k (by omega) s;have L3:=L2.trans (k.mono (by omega));have Az3:=A3.lies;have Rz3:=R3.lies;clear k A2 R2 L2 s Az2 Rz2;clear a1 a2 a3 a4;have z3:w.heap.size+2<=X3.heap.size:=(by omega);clear o2 z2;have a5:X3.cell? ⟨w.heap.size,5,none⟩=some (.int .i64 T.rj):=A3.c 5 (zD rfl))
 skip
 refine(Cq (w.heap.size+2) v3 (tickL T.t++[T.m,T.fa,T.ak,T.er]) T.rj _ o3 z3 (Nat.le_of_ble_eq_true rfl)).mono ?_
 rintro e X4 ⟨v4,rfl,o4,k,s⟩
 have A4:=A3.under k (by omega) s
 have R4:=R3.under k (by omega) s
 have L4:=L3.trans (k.mono (by omega))
 have Az4:=A4.lies
 have Rz4:=R4.lies
 clear k A3 R3 L3 s Az3 Rz3
 clear a5
 have z4:w.heap.size+2<=X4.heap.size:=by omega
 clear o3 z3
 have a6:X4.cell? ⟨w.heap.size,6,none⟩=some (.int .i64 T.q0):=A4.c 6 (zD rfl)
 have a7:X4.cell? ⟨w.heap.size,7,none⟩=some (.int .i64 T.q1):=A4.c 7 (zD rfl)
 have a8:X4.cell? ⟨w.heap.size,8,none⟩=some (.int .i64 T.q2):=A4.c 8 (zD rfl)
 have a9:X4.cell? ⟨w.heap.size,9,none⟩=some (.int .i64 T.q3):=A4.c 9 (zD rfl)
 go_wp2_with fail
 refine wp_loop_rounds 5 ?_
 clear a6 a7 a8 a9
 rw[rounds_succ]
 go_wp2_with fail
 refine(Cq (w.heap.size+2) v4 (tickL T.t++[T.m,T.fa,T.ak,T.er]++Cc T.rj) T.q0 _ o4 z4 (Nat.le_of_ble_eq_true rfl)).mono ?_
 rintro e X5 ⟨v5,rfl,o5,k,s⟩
 have A5:=A4.under k (by omega) s
 have R5:=R4.under k (by omega) s
 have L5:=L4.trans (k.mono (by omega))
 have Az5:=A5.lies
 have Rz5:=R5.lies
 clear k A4 R4 L4 s Az4 Rz4
 have z5:w.heap.size+2<=X5.heap.size:=by omega
 clear o4 z4
 go_wp2_with fail
 rw[rounds_succ]
 go_wp2_with fail
 refine(Cq (w.heap.size+2) v5 (tickL T.t++[T.m,T.fa,T.ak,T.er]++Cc T.rj++Cc T.q0) T.q1 _ o5 z5 (Nat.le_of_ble_eq_true rfl)).mono ?_
 rintro e X6 ⟨v6,rfl,o6,k,s⟩
 have A6:=A5.under k (by omega) s
 have R6:=R5.under k (by omega) s
 have L6:=L5.trans (k.mono (by omega))
 have Az6:=A6.lies
 have Rz6:=R6.lies
 clear k A5 R5 L5 s Az5 Rz5
 have z6:w.heap.size+2<=X6.heap.size:=by omega
 clear o5 z5
 go_wp2_with fail
 rw[rounds_succ]
 go_wp2_with fail
 refine(Cq (w.heap.size+2) v6 (tickL T.t++[T.m,T.fa,T.ak,T.er]++Cc T.rj++Cc T.q0++Cc T.q1) T.q2 _ o6 z6 (Nat.le_of_ble_eq_true rfl)).mono ?_
 rintro e X7 ⟨v7,rfl,o7,k,s⟩
 have A7:=A6.under k (by omega) s
 have R7:=R6.under k (by omega) s
 have L7:=L6.trans (k.mono (by omega))
 have Az7:=A7.lies
 have Rz7:=R7.lies
 clear k A6 R6 L6 s Az6 Rz6
 have z7:w.heap.size+2<=X7.heap.size:=by omega
 clear o6 z6
 go_wp2_with fail
 rw[rounds_succ]
 go_wp2_with fail
 refine(Cq (w.heap.size+2) v7 (tickL T.t++[T.m,T.fa,T.ak,T.er]++Cc T.rj++Cc T.q0++Cc T.q1++Cc T.q2) T.q3 _ o7 z7 (Nat.le_of_ble_eq_true rfl)).mono ?_
 rintro e X8 ⟨v8,rfl,o8,k,s⟩
 have A8:=A7.under k (by omega) s
 have R8:=R7.under k (by omega) s
 have L8:=L7.trans (k.mono (by omega))
 have Az8:=A8.lies
 have Rz8:=R8.lies
 clear k A7 R7 L7 s Az7 Rz7
 have z8:w.heap.size+2<=X8.heap.size:=by omega
 clear o7 z7
 go_wp2_with fail
 have a10:X8.cell? ⟨w.heap.size,10,none⟩=some (.int .i64 T.d0):=A8.c 10 (zD rfl)
 have a11:X8.cell? ⟨w.heap.size,11,none⟩=some (.int .i64 T.d1):=A8.c 11 (zD rfl)
 have a12:X8.cell? ⟨w.heap.size,12,none⟩=some (.int .i64 T.d2):=A8.c 12 (zD rfl)
 rw[rounds_succ]
 go_wp2_with fail
 refine wp_loop_rounds 4 ?_
 clear a10 a11 a12
 rw[rounds_succ]
 go_wp2_with fail
 refine(Cq (w.heap.size+2) v8 (tickL T.t++[T.m,T.fa,T.ak,T.er]++Cc T.rj++Cc T.q0++Cc T.q1++Cc T.q2++Cc T.q3) T.d0 _ o8 z8 (Nat.le_of_ble_eq_true rfl)).mono ?_
 rintro e X9 ⟨v9,rfl,o9,k,s⟩
 have A9:=A8.under k (by omega) s
 have R9:=R8.under k (by omega) s
 have L9:=L8.trans (k.mono (by omega))
 have Az9:=A9.lies
 have Rz9:=R9.lies
 clear k A8 R8 L8 s Az8 Rz8
 have z9:w.heap.size+2<=X9.heap.size:=by omega
 clear o8 z8
 go_wp2_with fail
 rw[rounds_succ]
 go_wp2_with fail
 refine(Cq (w.heap.size+2) v9 (tickL T.t++[T.m,T.fa,T.ak,T.er]++Cc T.rj++Cc T.q0++Cc T.q1++Cc T.q2++Cc T.q3++Cc T.d0) T.d1 _ o9 z9 (Nat.le_of_ble_eq_true rfl)).mono ?_
 rintro e X10 ⟨v10,rfl,o10,k,s⟩
 have A10:=A9.under k (by omega) s
 have R10:=R9.under k (by omega) s
 have L10:=L9.trans (k.mono (by omega))
 have Az10:=A10.lies
 have Rz10:=R10.lies
 clear k A9 R9 L9 s Az9 Rz9
 have z10:w.heap.size+2<=X10.heap.size:=by omega
 clear o9 z9
 go_wp2_with fail
 rw[rounds_succ]
 go_wp2_with fail
 refine(Cq (w.heap.size+2) v10 (tickL T.t++[T.m,T.fa,T.ak,T.er]++Cc T.rj++Cc T.q0++Cc T.q1++Cc T.q2++Cc T.q3++Cc T.d0++Cc T.d1) T.d2 _ o10 z10 (Nat.le_of_ble_eq_true rfl)).mono ?_
 rintro e X11 ⟨v11,rfl,o11,k,s⟩
 have A11:=A10.under k (by omega) s
 have R11:=R10.under k (by omega) s
 have L11:=L10.trans (k.mono (by omega))
 have Az11:=A11.lies
 have Rz11:=R11.lies
 clear k A10 R10 L10 s Az10 Rz10
 have z11:w.heap.size+2<=X11.heap.size:=by omega
 clear o10 z10
 go_wp2_with fail
 rw[rounds_succ]
 rw[HL.out]at o11
 have hcv:=C9 o11 (by unfold tlL;simp) hrg
 rw[HS.out]at hcv
 clear o11
 have c0:X11.cell? ⟨w.heap.size+1,0,none⟩=some (.int .i64 0):=R11.c 0 (zD rfl)
 have c1:X11.cell? ⟨w.heap.size+1,1,none⟩=some (.string ⟨#[]⟩):=R11.c 1 (zD rfl)
 have f0:=R11.f 0 (zD rfl)
 have f1:=R11.f 1 (zD rfl)
 go_wp2_with (with_reducible refine Ae ?_)
 have d0:=Ap.c ((R11.put 0 (zD rfl) (.int .i64 32) [.int .i64 32,.string ⟨#[]⟩] rfl).put 1 (zD rfl) (.string S) [.int .i64 32,.string S] rfl) 0 (zD rfl)
 have d1:=Ap.c ((R11.put 0 (zD rfl) (.int .i64 32) [.int .i64 32,.string ⟨#[]⟩] rfl).put 1 (zD rfl) (.string S) [.int .i64 32,.string S] rfl) 1 (zD rfl)
 simp only[List.getElem_cons_zero,List.getElem_cons_succ]at d0 d1
 exact⟨bodyPost_ret (v:=.tuple #[.agg #[.int .i64 32,.string S],.bool true]) (by simp[results_cell_tmp Tryz.results115,asAddr,go_sem,d0,d1]) rfl ⟨rfl,Al (Al L11 _ _ (by omega) _) _ _ (by omega) _⟩⟩
theorem Uc(T:Tl)(w:World):
    Calls Tryz.prog 115 #[.agg #[.int .i64 T.t,.int .i64 T.m,.int .i64 T.fa,.int .i64 T.ak,.int .i64 T.er,.int .i64 T.rj,.int .i64 T.q0,.int .i64 T.q1,.int .i64 T.q2,.int .i64 T.q3,.int .i64 T.d0,.int .i64 T.d1,.int .i64 T.d2]] w fun e w'=>e=.returned (.tuple #[.agg #[.int .i64 (tlW T).1,.string (tlW T).2],.bool (tlOk T)])/\Below w.heap.size w w':=by
 unfold tlW
 cases h:tlOk T
 ·exact Y9 T w h
 ·exact Ub T w h
end Go.Proofs.YtgmpfeaanjnhaaaGreatDoor
namespace Go.Proofs.YtgmpfeaanjnhaaaGreatDoor
open Go.RowKit
def Au9(P:Program)(tbl:List (Ct P))(id:Nat)(o:Oper)(vt:List Value)(m:Xm)(K:List Value->Xm->Prop):Prop:=
 match o.op with
 | .slice t x (some y) none none=>FT (Pr x&&Pr y) (match P.underlying t,VE vt x,VE vt y with
  |some .string,.string s,.int .i64 i=>(0<=i/\i<=(s.size:Int))/\K (BJ vt o.dst (.string (s.extract i.toNat s.size))) m
  |_,_,_=>False)
 |_=>Z6 P tbl id o vt m K
def Wn(P:Program)(tbl:List (Ct P))(ops:Array Oper)(ids:Nat->Nat)(K:List Value->Xm->Prop):List Nat->List Value->Xm->Prop
 |[],vt,m=>K vt m
 | i::rest,vt,m=>
  match ops[i]? with
  |none=>False
  |some o=>
   match o.guard with
   |none=>Au9 P tbl (ids i) o vt m (Wn P tbl ops ids K rest)
   |some _=>False
section
variable {P:Program} {tbl:List (Ct P)} {bs:List Nat} {w0:World} {rs:Xm} {Q:Exit->Act->World->Prop} {ops:Array Oper} {base:Nat} {K:List Value->Xm->Prop} {ds:List Deferred} {ln:Nat} {bl0:Bl}
theorem Gf(hK:∀bl vt m a w,K vt m->FR bl vt a.tmps->RW bs w0 bl m w->Le bl0 bl->bl.length=ln->m.length=ln->a.defers=ds->Q .normal a w):
    ∀ (is:List Nat) (bl:Bl) (vt:List Value) (m:Xm) (a:Act) (w:World),is.Nodup->Wn P tbl ops (Ha base ops) K is vt m->FR bl vt a.tmps->RW bs w0 bl m w->Nw rs bl m->
      (∀i∈is,KD P rs ops (Ha base ops) bl i)->Le bl0 bl->bl.length=ln->m.length=ln->a.defers=ds->wpOps P ops Q is a w
 |[],bl,vt,m,a,w,_,h,F,R,_,_,hle,hl,hml,hd=>hK bl vt m a w h F R hle hl hml hd
 | i ::rest,bl,vt,m,a,w,hnd,h,F,R,N,hf,hle,hl,hml,hd=>by
  rw[List.nodup_cons]at hnd
  unfold Wn at h
  cases ho:ops[i]? with
  |none=>
   rw[ho]at h
   exact h.elim
  | some o=>
   rw[ho]at h
   dsimp only at h
   cases hg:o.guard with
   |some _=>rw[hg]at h;exact h.elim
   | none=>
    rw[hg]at h
    dsimp only at h
    unfold Au9 at h
    split at h
    ·rename_i t x y hop
     rw[Be]at h
     obtain⟨hx,h⟩:=h
     rw[Bool.and_eq_true]at hx
     split at h
     case h_2=>exact h.elim
     rename_i s n hu hs hn
     have h1:=F.eval hx.1
     rw[hs]at h1
     have h1:a.eval x=.string s:=h1
     have h2:=F.eval hx.2
     rw[hn]at h2
     have h2:a.eval y=.int .i64 n:=h2
     have hr:=run_slice_string_from_if (P:=P) w t s .i64 n hu
     rw[if_pos h.1]at hr
     refine Fq ho hg (v:=.string (s.extract n.toNat s.size)) (w':=w) (by simp[execOp,hop,h1,h2,Instr.sliceAt,Cs hu w,hr]) ?_
     exact Gf hK rest bl _ m _ w hnd.2 h.2 (F.put (.same rfl) _) R N (fun j hj=>hf j (List.mem_cons_of_mem _ hj)) hle hl hml ((AJ _ _ _).trans hd)
    ·rw[wpOps_cons]
     unfold wpOp
     rw[ho]
     dsimp only
     rw[show Region.wanted o (yielded ops a.tmps)=true by unfold Region.wanted;rw[hg],if_pos rfl]
     refine .inl (Oper.wp_mono ?_ (Aa2 (Q:=Q) h F R N (hf i List.mem_cons_self o ho)))
     rintro a' w' ⟨bl',v,m',hbl,hmm,hle',h1,h3,hdef,F',R',N',hK'⟩
     exact Gf hK rest bl' _ m' a' w' hnd.2 hK' F' R' N' (fun j hj=>(hf j (List.mem_cons_of_mem _ hj)).next ho (by rintro rfl;exact hnd.1 hj) h1 h3) (hle.trans hle') (hbl.trans hl) (hmm.trans hml) (hdef.trans hd)
def Afb(P:Program)(tbl:List (Ct P))(ops:Array Oper)(draw:Bool)(K:List Value->Xm->Prop)(vt:List Value)(m:Xm):Prop:=
 FT (PQ P ops&& !draw) (Wn P tbl ops (Ha m.length ops) K (List.range ops.size) vt (m++AK P ops))
theorem Q9{id:Nat}{draw:Bool}{bl:Bl}{vt:List Value}{m:Xm}{a:Act}{w:World}(h:Afb P tbl ops draw K vt m)(r:Rl bs w0 ds bl0 bl vt m a w)(hK:∀bl vt m a w,K vt m->Rl bs w0 ds bl0 bl vt m a w->Q .normal a w):(Code.region id ops draw).wp P Q a w:=by
 unfold Afb at h
 rw[Be,Bool.and_eq_true]at h
 obtain⟨⟨hr,hd⟩,h⟩:=h
 cases draw
 ·refine wp_region (Gf (ds:=ds) (rs:=m++AK P ops) (ln:=m.length+(AK P ops).length) (fun bl vt m a w hk F R hle h1 h2 h3=>hK bl vt m a w hk ⟨F,R,hle,h1.trans h2.symm,h3⟩) _ _ vt _ a w List.nodup_range h (r.F.mono (Le.wide bl (AK P ops).length)) (r.R.wide _ _) (fun _ _=>rfl) (fun i _=>FU r.len hr i) (r.le.trans (Le.wide bl _)) ?_ ?_ r.defers)
  ·rw[List.length_append,List.length_replicate,r.len]
  ·rw[List.length_append]
 ·cases hd
def Afc(P:Program)(tbl:List (Ct P))(dirty:Nat->List Nat)(id d:Nat)(v:Bool)(ops:Array Oper)(draw:Bool)(K:List Value->Xm->Prop)(vt:List Value)(m:Xm):Prop:=
 D6 P tbl dirty id ops draw (fun vt m=>vt.getD d undef=.bool v/\K (vt.set d (.bool v)) m) vt m
theorem OS(hm:P.follows .mixedOrders=true){dirty:Nat->List Nat}{id d:Nat}{v draw:Bool}{bl:Bl}{vt:List Value}{m:Xm}{a:Act}{w:World}(h:Afc P tbl dirty id d v ops draw K vt m)(r:Rl bs w0 ds bl0 bl vt m a w)(hK:∀bl vt m a w,K vt m->Rl bs w0 ds bl0 bl vt m a w->Q .normal a w):(Code.region id ops draw).wp P Q a w:=
 Dz hm (fun bl _ m a w hk hr=>hK bl _ m a w hk.2 ⟨hr.F.setSame hk.1,hr.R,hr.le,hr.len,hr.defers⟩) h r
end
def Alf(Post:Value->Prop):List Bool->Prop
 |[]=>Post (.bool true)
 |[c]=>Post (.bool c)
 |c::d::cs=>DY c (Alf Post (d::cs)) (Post (.bool false))
theorem OT{Post:Value->Prop}:∀{cs:List Bool},Post (.bool (cs.all id))->Alf Post cs
 |[],h=>h
 |[c],h=>by
  have e:([c].all id)=c:=by cases c<;>rfl
  rw[e]at h
  exact h
 |c::d::cs,h=>by
  cases c
  ·exact h
  ·exact OT (cs:=d::cs) h
def t7V(x:Tup 7):V7:=(x.1,x.2.1,x.2.2.1,x.2.2.2.1,x.2.2.2.2.1,x.2.2.2.2.2.1,x.2.2.2.2.2.2.1)
def Ava:Ct Tryz.prog:=B7 Tryz.prog 131 (Ad cI (Ac cI)) (fun bad x=>mulS bad x.1 x.2) cI (Af Tryz.func131 (by kernel_rfl) (by kernel_rfl)) (fun b bad x w _ _ hw=>Ak b bad x.1 x.2 w hw)
def Ud(a e:Int):List Bool:=[!(mulS (mulS false a (IntKind.i64.wrap (1099511627776-e))).2 a (IntKind.i64.wrap (1099511627776+e))).2,decide ((mulS false a (IntKind.i64.wrap (1099511627776-e))).1≥7232738120604),decide ((mulS (mulS false a (IntKind.i64.wrap (1099511627776-e))).2 a (IntKind.i64.wrap (1099511627776+e))).1<=9211859050600)]
set_option maxRecDepth 100000 in
theorem Aq6:Az Tryz.prog 91 (Ad cI (Ac cI)) (fun x=>(Ud x.1 x.2).all id) cB:=fun x w hw=>by
 refine Ch (d:=Ad cI (Ac cI)) (k:=cB) (x:=x) (y:=(Ud x.1 x.2).all id) (tbl:=[Ava]) (dirty:=fun _=>[]) (n:=4) Ag Tryz.func91 rfl (fun Post hP=>?_) w hw
 exact Eq.mpr (β:=Alf Post (Ud x.1 x.2)) (by kernel_rfl) (OT hP)
def Avb:Ct Tryz.prog:=AH Tryz.prog 91 (Ad cI (Ac cI)) (fun x=>(Ud x.1 x.2).all id) cB (Af Tryz.func91 (by kernel_rfl) (by kernel_rfl)) Aq6
theorem Aq7:Az Tryz.prog 92 (Ac cI) oAngC cB:=AS (tbl:=[]) (dirty:=fun _=>[]) (n:=4) Ag Tryz.func92 rfl (fun x Post=>by
    refine Eq.trans (b:=?m) ?x (Eq.symm ?y)
    case y=>unfold oAngC;simp only[<-CY (K:=PJ cB Post)];exact rfl
    case x=>kernel_rfl)
def Avc:Ct Tryz.prog:=AH Tryz.prog 92 (Ac cI) oAngC cB (Af Tryz.func92 (by kernel_rfl) (by kernel_rfl)) Aq7
def An4:Ct Tryz.prog:=AH Tryz.prog 67 (Ac cI) cRight cB (Af Tryz.func67 (by kernel_rfl) (by kernel_rfl)) (fun x w _=>Bq x w)
def Aq8(x:Tup 7):List Bool:=[decide (0<=x.2.1),decide (x.2.1<=109951162777),(Ud x.1 x.2.1).all id,decide (0<=x.2.2.1),decide (x.2.2.1<=3454217652358),oAngC x.2.2.2.1,oAngC x.2.2.2.2.1,oAngC x.2.2.2.2.2.1,cRight x.2.2.2.2.2.2.1]
theorem Aq9{a e:Int}(h0:0<=e)(h1:e<=109951162777):(Ud a e).all id=EY a e:=by
 have e1:IntKind.i64.wrap (1099511627776-e)=1099511627776-e:=by rw[IntKind.wrap_i64];omega
 have e2:IntKind.i64.wrap (1099511627776+e)=1099511627776+e:=by rw[IntKind.wrap_i64];omega
 unfold Ud EY
 rw[e1,e2]
 dsimp only
 generalize mulS false a (1099511627776-e)=r1
 generalize mulS r1.2 a (1099511627776+e)=r2
 cases r2.2
 ·by_cases h:r1.1≥7232738120604
  ·rw[decide_eq_true h];simp[h]
  ·rw[decide_eq_false h];simp[h]
 ·rfl
theorem Ara(x:Tup 7):(Aq8 x).all id=AA (t7V x):=by
 unfold Aq8 AA t7V
 dsimp only
 by_cases h0:0<=x.2.1
 ·by_cases h1:x.2.1<=109951162777
  ·rw[Aq9 h0 h1,decide_eq_true h0,decide_eq_true h1,if_pos h0,if_pos h1]
   cases EY x.1 x.2.1
   ·rfl
   by_cases h2:0<=x.2.2.1
   ·by_cases h3:x.2.2.1<=3454217652358
    ·rw[decide_eq_true h2,decide_eq_true h3,if_pos h2,if_pos h3]
     cases oAngC x.2.2.2.1
     ·rfl
     cases oAngC x.2.2.2.2.1
     ·rfl
     cases oAngC x.2.2.2.2.2.1
     ·rfl
     cases cRight x.2.2.2.2.2.2.1<;>rfl
    ·rw[decide_eq_true h2,decide_eq_false h3,if_pos h2,if_neg h3];rfl
   ·rw[decide_eq_false h2,if_neg h2];rfl
  ·rw[decide_eq_true h0,decide_eq_false h1,if_pos h0,if_neg h1];rfl
 ·rw[decide_eq_false h0,if_neg h0];rfl
set_option maxRecDepth 100000 in
theorem Alg:Az Tryz.prog 71 (Ac (cT 7)) (fun x=>AA (t7V x)) cB:=fun x w hw=>by
 refine Ch (d:=Ac (cT 7)) (k:=cB) (x:=x) (y:=AA (t7V x)) (tbl:=[Avb,Avc,An4]) (dirty:=fun _=>[]) (n:=4) Ag Tryz.func71 rfl (fun Post hP=>?_) w hw
 refine Eq.mpr (β:=Alf Post (Aq8 x)) (by kernel_rfl) (OT ?_)
 rw[Ara]
 exact hP
theorem Afd{k:Int}{s:ByteArray}(h:Du k s 0=true):JD k s=GP k s 0:=by
 unfold Du at h
 unfold JD GP
 by_cases c1:k=1
 ·rw[if_pos c1]at h ⊢
  rw[if_pos c1]
  unfold Anq
  rw[if_pos h]
 rw[if_neg c1]at h ⊢
 rw[if_neg c1]
 by_cases c3:k=3
 ·rw[if_pos c3,if_pos c3]
 rw[if_neg c3]at h ⊢
 rw[if_neg c3]
 unfold Qf at h
 unfold At1
 rw[if_pos (by simp at h;exact h.1)]
theorem Ue(k:Int)(s:ByteArray):GP k (s.extract 6 s.size) 0=GP k s 6:=by
 unfold GP
 simp only[Qc]
theorem JO(k:Int)(s:ByteArray):Du k (s.extract 6 s.size) 0=Du k s 6:=by
 unfold Du
 simp only[Qc]
def Ec(n:Nat)(f:Nat->UInt8):ByteArray:=⟨⟨(List.range n).map f⟩⟩
theorem Alh(s:ByteArray):s=Ec s.size (fun i=>s.data.toList.getD i 0):=by
 obtain⟨⟨l⟩⟩:=s
 unfold Ec
 congr 2
 refine List.ext_getElem (by simp;rfl) (fun i h1 h2=>?_)
 simp[h1]
theorem GA(n:Nat)(f:Nat->UInt8):(Ec n f).size=n:=by
 show((List.range n).map f).length=n
 simp
abbrev Uf:Dc (Tup 5×Bool):=AV (cT 5) cB
def zero5:Tup 5×Bool:=((0,0,0,0,0,()),false)
def E7(x:Fra):Tup 5×Bool:=(((M7 x.1 x.2).1,(M7 x.1 x.2).2.1,(M7 x.1 x.2).2.2.1,(M7 x.1 x.2).2.2.2.1,(M7 x.1 x.2).2.2.2.2,()),F5 x.1 x.2)
theorem Ra(k:Int)(s:ByteArray):E7 (k,s)=if F5 k s then((k,tickS s,(GP k s 6).1,(GP k s 6).2.1,(GP k s 6).2.2,()),true)else zero5:=by
 unfold E7 M7
 dsimp only
 cases F5 k s<;>rfl
theorem Za{k:Int}{s:ByteArray}(hf:He k s=true):F5 k s=(cRight (tickS s)&&Du k s 6):=by
 unfold F5
 rw[hf,Bool.true_and]
def Avd:Ct Tryz.prog:=AH Tryz.prog 66 (Ac cI) nCounts cI (Af Tryz.func66 (by kernel_rfl) (by kernel_rfl)) (fun x w _=>Calls.mono (F6 x w) (by rintro e w' ⟨rfl,rfl⟩;exact⟨rfl,Below.refl _ _⟩))
def Ave:Ct Tryz.prog:=EN Tryz.prog 208 (Ac cS) (fun s K=>s.size=6/\K (.int .i64 (tickS s))) (fun _ _ _ hK hs=>⟨hs.1,hK _ hs.2⟩) (Af Tryz.func208 (by kernel_rfl) (by kernel_rfl))
 (fun s w _ K hs=>Calls.mono (Qh s w hs.1) (by rintro e w' ⟨rfl,hb⟩;exact⟨_,rfl,rfl,hs.2,hb⟩))
def Avf(k:Int)(s:ByteArray):Prop:=6<=s.size/\(k≠1->k≠3->12<=s.size)
def Avg:Ct Tryz.prog:=EN Tryz.prog 209 (Ad cI (Ac cS)) (fun x K=>Avf x.1 x.2/\K (BI.enc (XT (JD x.1 x.2),Du x.1 x.2 0))) (fun _ _ _ hK hs=>⟨hs.1,hK _ hs.2⟩) (Af Tryz.func209 (by kernel_rfl) (by kernel_rfl))
 (fun x w hw K hs=>Calls.mono (XU x.1 x.2 w hw hs.1.1 hs.1.2) (by rintro e w' ⟨rfl,hb⟩;exact⟨_,rfl,rfl,hs.2,hb⟩))
abbrev snT:List (Ct Tryz.prog):=[Avd,Ave,Avg,An4]
def snO:Ov:=fun id=>match id with
 |2=>some (Afc Tryz.prog snT (fun _=>[]) 2 21 true)
 |_=>none
set_option maxRecDepth 100000 in
theorem Avi(w:World):D9 Tryz.prog snO [] w [] [] (AP Tryz.prog 133):=by
 refine EF (ns:=[(2,KY Tryz.prog 133 2,false)]) (by kernel_rfl) ?_
 intro r hr
 rcases List.mem_cons.1 hr with rfl |hr
 ·intro R hR K Q bl vt m a w h r hK
  cases hR
  exact OS Ag h r hK
 ·cases hr
def snX(Post:Value->Prop)(b:Bool):Prop:=Value.bool b=.bool true/\PJ Uf Post zero5
set_option maxRecDepth 100000 in
theorem Ug(k:Int)(s:ByteArray)(h:He k s=false)(w:World)(hw:GW w):Calls Tryz.prog 133 ((Ac CG).enc (k,s)).toArray w fun e w'=>e=.returned (Uf.enc zero5)/\Below w.heap.size w w':=by
 refine KZ (d:=Ac CG) (k:=Uf) (x:=(k,s)) (y:=zero5) (tbl:=snT) (dirty:=fun _=>[]) (n:=4) (ov:=snO) Ag (by kernel_rfl) (by kernel_rfl) Avi ?_ w hw
 refine Eq.mpr (β:=DY (decide (nCounts k=0)) (snX (fun v=>v=Uf.enc zero5) true) (snX (fun v=>v=Uf.enc zero5) (!decide ((s.size:Int)=IntKind.i64.wrap (6+IntKind.i64.wrap (nCounts k*2)))))) (by kernel_rfl) ?_
 by_cases c0:nCounts k=0
 ·rw[decide_eq_true c0]
  exact⟨rfl,rfl⟩
 ·rw [decide_eq_false c0]
  refine⟨?_,rfl⟩
  have hn:(s.size:Int)≠IntKind.i64.wrap (6+IntKind.i64.wrap (nCounts k*2)):=by
   unfold He at h
   simp only[Bool.or_eq_false_iff,Bool.and_eq_false_iff,decide_eq_false_iff_not]at h
   unfold nCounts at c0 ⊢
   split
   ·rw[IntKind.wrap_i64,IntKind.wrap_i64]
    omega
   ·split
    ·rw[IntKind.wrap_i64,IntKind.wrap_i64]
     omega
    ·rename_i h1 h2
     rw[if_neg h1,if_neg h2]at c0
     exact absurd rfl c0
  rw[decide_eq_false hn]
  rfl
def snB(k:Int)(a b:ByteArray)(Post:Value->Prop):Prop:=
 a.size=6/\Avf k b/\DY (!Du k b 0) (PJ Uf Post zero5) (DY (!cRight (tickS a)) (PJ Uf Post zero5) (PJ Uf Post ((k,tickS a,XT (JD k b)),true)))
theorem Uh{k:Int}{s:ByteArray}{Post:Value->Prop}(hf:He k s=true)(h6:12<=s.size)(h12:k≠1->k≠3->18<=s.size)(hP:PJ Uf Post (E7 (k,s))):snB k (s.extract 0 6) (s.extract 6 s.size) Post:=by
 refine⟨by rw[ByteArray.size_extract];omega,⟨by rw[ByteArray.size_extract];omega,fun a b=>by have:=h12 a b;rw[ByteArray.size_extract];omega⟩,?_⟩
 rw[Ra,Za hf]at hP
 rw[JO,I9]
 cases hs:Du k s 6
 ·rw[hs,Bool.and_false]at hP
  exact hP
 ·rw[hs,Bool.and_true]at hP
  have hv:JD k (s.extract 6 s.size)=GP k s 6:=by rw[Afd (by rw[JO];exact hs),Ue]
  rw[hv]
  cases hc:cRight (tickS s)
  ·rw[hc]at hP;exact hP
  ·rw[hc]at hP;exact hP
set_option maxRecDepth 100000 in
theorem Ali(f:Nat->UInt8)(w:World)(hw:GW w):Calls Tryz.prog 133 ((Ac CG).enc (1,Ec 12 f)).toArray w fun e w'=>e=.returned (Uf.enc (E7 (1,Ec 12 f)))/\Below w.heap.size w w':=by
 refine Ch (d:=Ac CG) (k:=Uf) (x:=(1,Ec 12 f)) (y:=E7 (1,Ec 12 f)) (tbl:=snT) (dirty:=fun _=>[]) (n:=4) Ag Tryz.func133 rfl (fun Post hP=>?_) w hw
 exact Eq.mpr (β:=snB 1 ((Ec 12 f).extract 0 6) ((Ec 12 f).extract 6 (Ec 12 f).size) Post) (by kernel_rfl) (Uh rfl (by rw[GA];decide) (fun _ _=>by rw[GA];first |decide |contradiction) hP)
set_option maxRecDepth 100000 in
theorem Alj(f:Nat->UInt8)(w:World)(hw:GW w):Calls Tryz.prog 133 ((Ac CG).enc (3,Ec 12 f)).toArray w fun e w'=>e=.returned (Uf.enc (E7 (3,Ec 12 f)))/\Below w.heap.size w w':=by
 refine Ch (d:=Ac CG) (k:=Uf) (x:=(3,Ec 12 f)) (y:=E7 (3,Ec 12 f)) (tbl:=snT) (dirty:=fun _=>[]) (n:=4) Ag Tryz.func133 rfl (fun Post hP=>?_) w hw
 exact Eq.mpr (β:=snB 3 ((Ec 12 f).extract 0 6) ((Ec 12 f).extract 6 (Ec 12 f).size) Post) (by kernel_rfl) (Uh rfl (by rw[GA];decide) (fun _ _=>by rw[GA];first |decide |contradiction) hP)
set_option maxRecDepth 100000 in
theorem Alk(f:Nat->UInt8)(w:World)(hw:GW w):Calls Tryz.prog 133 ((Ac CG).enc (2,Ec 18 f)).toArray w fun e w'=>e=.returned (Uf.enc (E7 (2,Ec 18 f)))/\Below w.heap.size w w':=by
 refine Ch (d:=Ac CG) (k:=Uf) (x:=(2,Ec 18 f)) (y:=E7 (2,Ec 18 f)) (tbl:=snT) (dirty:=fun _=>[]) (n:=4) Ag Tryz.func133 rfl (fun Post hP=>?_) w hw
 exact Eq.mpr (β:=snB 2 ((Ec 18 f).extract 0 6) ((Ec 18 f).extract 6 (Ec 18 f).size) Post) (by kernel_rfl) (Uh rfl (by rw[GA];decide) (fun _ _=>by rw[GA];first |decide |contradiction) hP)
theorem All:Az Tryz.prog 133 (Ac CG) E7 (AV (cT 5) cB):=fun x w hw=>by
 obtain⟨k,s⟩:=x
 cases hf:He k s
 ·have hr:E7 (k,s)=zero5:=by
   have h0:F5 k s=false:=by unfold F5;rw[hf];rfl
   rw[Ra,h0]
   rfl
  rw[hr]
  exact Ug k s hf w hw
 ·have hb:=Alh s
  unfold He at hf
  simp only[Bool.or_eq_true,Bool.and_eq_true,decide_eq_true_eq]at hf
  generalize (fun i=>s.data.toList.getD i 0)=f at hb
  rcases hf with (⟨rfl,hs⟩|⟨rfl,hs⟩)|⟨rfl,hs⟩
  ·rw[hs]at hb;rw[hb];exact Ali f w hw
  ·rw[hs]at hb;rw[hb];exact Alj f w hw
  ·rw[hs]at hb;rw[hb];exact Alk f w hw
abbrev Fy:Dc (Tup 9×Int):=AV (cT 9) cI
def Zb(q c e:Int):Tup 9×Int:=((q,c,0,0,0,0,0,0,0,()),e)
def bI(b:UInt8):Int:=IntKind.i64.wrap ((b.toNat:Nat):Int)
theorem An5(b:UInt8):bI b=(b.toNat:Nat):=by
 have:=b.toNat_lt
 unfold bI
 rw[IntKind.wrap_i64]
 omega
def Ui:Ct Tryz.prog:=AH Tryz.prog 70 (Ac cI) DK cI (Af Tryz.func70 (by kernel_rfl) (by kernel_rfl)) (fun x w _=>Calls.mono (Er x w) (by rintro e w' ⟨rfl,rfl⟩;exact⟨rfl,Below.refl _ _⟩))
def Uj:Ct Tryz.prog:=AH Tryz.prog 210 (Ad (cT 9) (Ac cI)) (fun x=>Zb x.1.1 0 x.2) Fy (Af Tryz.func210 (by kernel_rfl) (by kernel_rfl)) (fun x w _=>QK x.1.1 x.1.2.1 (t7V x.1.2.2) x.2 w)
def Uk:Ct Tryz.prog:=AH Tryz.prog 71 (Ac (cT 7)) (fun x=>AA (t7V x)) cB (Af Tryz.func71 (by kernel_rfl) (by kernel_rfl)) Alg
def elT(s:ByteArray):Tup 7:=(onumS s 0,onumS s 8,onumS s 16,onumS s 24,onumS s 32,onumS s 40,onumS s 48,())
def Ul:Ct Tryz.prog:=EN Tryz.prog 211 (Ac cS) (fun s K=>s.size=56/\K ((cT 7).enc (elT s))) (fun _ _ _ hK hs=>⟨hs.1,hK _ hs.2⟩) (Af Tryz.func211 (by kernel_rfl) (by kernel_rfl))
 (fun s w _ K hs=>Calls.mono (OE s w hs.1) (by rintro e w' ⟨rfl,hb⟩;exact⟨_,rfl,rfl,hs.2,hb⟩))
def oxE(q c:Int)(s:ByteArray)(Post:Value->Prop):Prop:=
 (0<=(2:Int)/\(2:Int)<=(s.size:Int))/\(s.extract (2:Int).toNat s.size).size=56/\DY (!AA (t7V (elT (s.extract (2:Int).toNat s.size)))) (PJ Fy Post (Zb q 0 3)) (PJ Fy Post ((q,c,elT (s.extract (2:Int).toNat s.size)),0))
def oxB(k q c:Int)(s:ByteArray)(Post:Value->Prop):Prop:=
 DY (decide ((s.size:Int)<2)) (PJ Fy Post (Zb 0 0 1)) (DY (!decide (k=16)) (PJ Fy Post (Zb q 0 1)) (DY (decide (DK c=0)) (PJ Fy Post (Zb q 0 2)) (DY (!decide ((s.size:Int)=DK c)) (PJ Fy Post (Zb q 0 1)) (DY (!decide (c=3)) (PJ Fy Post (Zb q c 0)) (oxE q c s Post)))))
abbrev oxT:List (Ct Tryz.prog):=[Ui,Uj,Uk,Ul]
def oxO:Ov:=fun id=>match id with
 |13=>some (Afb Tryz.prog oxT)
 |_=>none
set_option maxRecDepth 100000 in
theorem Avk(w:World):D9 Tryz.prog oxO [] w [] [] (AP Tryz.prog 135):=by
 refine EF (ns:=[(13,KY Tryz.prog 135 13,false)]) (by kernel_rfl) ?_
 intro r hr
 rcases List.mem_cons.1 hr with rfl |hr
 ·intro R hR K Q bl vt m a w h r hK
  cases hR
  exact Q9 h r hK
 ·cases hr
set_option maxRecDepth 100000 in
theorem Arb(k:Int)(b0 b1:UInt8)(rest:List UInt8)(y:Tup 9×Int)(w:World)(hw:GW w)(h:∀Post:Value->Prop,PJ Fy Post y->oxB k (bI b0) (bI b1) ⟨⟨b0::b1::rest⟩⟩ Post):Calls Tryz.prog 135 ((Ac CG).enc (k,⟨⟨b0::b1::rest⟩⟩)).toArray w fun e w'=>e=.returned (Fy.enc y)/\Below w.heap.size w w':=by
 refine KZ (d:=Ac CG) (k:=Fy) (x:=(k,⟨⟨b0::b1::rest⟩⟩)) (y:=y) (tbl:=oxT) (dirty:=fun _=>[]) (n:=4) (ov:=oxO) Ag (by kernel_rfl) (by kernel_rfl) Avk ?_ w hw
 exact Eq.mpr (β:=oxB k (bI b0) (bI b1) ⟨⟨b0::b1::rest⟩⟩ (fun v=>v=Fy.enc y)) (by kernel_rfl) (h _ rfl)
set_option maxRecDepth 100000 in
theorem Rb(k:Int)(s:ByteArray)(h:s=⟨⟨[]⟩⟩∨∃b,s=⟨⟨[b]⟩⟩)(w:World)(hw:GW w):Calls Tryz.prog 135 ((Ac CG).enc (k,s)).toArray w fun e w'=>e=.returned (Fy.enc (Zb 0 0 1))/\Below w.heap.size w w':=by
 rcases h with rfl |⟨b,rfl⟩
 ·refine Ch (d:=Ac CG) (k:=Fy) (x:=(k,⟨⟨[]⟩⟩)) (y:=Zb 0 0 1) (tbl:=[Ui,Uj,Uk,Ul]) (dirty:=fun _=>[]) (n:=4) Ag Tryz.func135 rfl (fun Post hP=>?_) w hw
  exact Eq.mpr (β:=PJ Fy Post (Zb 0 0 1)) (by kernel_rfl) hP
 ·refine Ch (d:=Ac CG) (k:=Fy) (x:=(k,⟨⟨[b]⟩⟩)) (y:=Zb 0 0 1) (tbl:=[Ui,Uj,Uk,Ul]) (dirty:=fun _=>[]) (n:=4) Ag Tryz.func135 rfl (fun Post hP=>?_) w hw
  exact Eq.mpr (β:=PJ Fy Post (Zb 0 0 1)) (by kernel_rfl) hP
set_option maxRecDepth 100000 in
theorem Zc(k:Int)(s:ByteArray)(w:World)(hw:GW w):
    Calls Tryz.prog 135 #[.agg #[.int .i64 k,.string s]] w fun e w'=>e=.returned (.tuple #[.agg #[.int .i64 (Ck k s).1.1,.int .i64 (Ck k s).1.2.1,.int .i64 (Ck k s).1.2.2.1,.int .i64 (Ck k s).1.2.2.2.1,.int .i64 (Ck k s).1.2.2.2.2.1,.int .i64 (Ck k s).1.2.2.2.2.2.1,.int .i64 (Ck k s).1.2.2.2.2.2.2.1,.int .i64 (Ck k s).1.2.2.2.2.2.2.2.1,.int .i64 (Ck k s).1.2.2.2.2.2.2.2.2],.int .i64 (Ck k s).2])/\Below w.heap.size w w':=by
 obtain⟨⟨l⟩⟩:=s
 match l with
 |[]=>exact Rb k _ (.inl rfl) w hw
 |[b]=>exact Rb k _ (.inr ⟨b,rfl⟩) w hw
 | b0::b1::rest=>
  refine Arb k b0 b1 rest (((Ck k ⟨⟨b0::b1::rest⟩⟩).1.1,(Ck k ⟨⟨b0::b1::rest⟩⟩).1.2.1,(Ck k ⟨⟨b0::b1::rest⟩⟩).1.2.2.1,(Ck k ⟨⟨b0::b1::rest⟩⟩).1.2.2.2.1,(Ck k ⟨⟨b0::b1::rest⟩⟩).1.2.2.2.2.1,(Ck k ⟨⟨b0::b1::rest⟩⟩).1.2.2.2.2.2.1,(Ck k ⟨⟨b0::b1::rest⟩⟩).1.2.2.2.2.2.2.1,(Ck k ⟨⟨b0::b1::rest⟩⟩).1.2.2.2.2.2.2.2.1,(Ck k ⟨⟨b0::b1::rest⟩⟩).1.2.2.2.2.2.2.2.2,()),(Ck k ⟨⟨b0::b1::rest⟩⟩).2) w hw (fun Post hP=>?_)
  have e0:bI b0=(bt ⟨⟨b0::b1::rest⟩⟩ 0:Nat):=An5 b0
  have e1:bI b1=(bt ⟨⟨b0::b1::rest⟩⟩ 1:Nat):=An5 b1
  have hs:2<=(⟨⟨b0::b1::rest⟩⟩:ByteArray).size:=by show 2<=rest.length+1+1;omega
  generalize (⟨⟨b0::b1::rest⟩⟩:ByteArray)=s at *
  have hE:elT (s.extract 2 s.size)=(onumS s 2,onumS s 10,onumS s 18,onumS s 26,onumS s 34,onumS s 42,onumS s 50,()):=by
   unfold elT
   simp only[Nt]
   rfl
  rw[e0,e1]
  unfold oxB
  unfold Ck at hP
  rw[decide_eq_false (show ¬(s.size:Int)<2 by omega)]
  rw[if_neg (show ¬s.size<2 by omega)]at hP
  by_cases hk:k=16
  ·rw[decide_eq_true hk]
   rw[if_neg (show ¬k≠16 by omega)]at hP
   by_cases hz:DK (bt s 1:Nat)=0
   ·rw[decide_eq_true hz];rw[if_pos hz]at hP;exact hP
   rw[decide_eq_false hz];rw[if_neg hz]at hP
   by_cases hl:(s.size:Int)=DK (bt s 1:Nat)
   ·rw[decide_eq_true hl];rw[if_neg (fun z=>z hl)]at hP
    by_cases h3:((bt s 1:Nat):Int)=3
    ·rw[decide_eq_true h3];rw[if_neg (fun z=>z h3)]at hP
     have hs58:s.size=58:=by rw[h3]at hl;have:DK 3=58:=rfl;omega
     show oxE _ _ s Post
     unfold oxE
     have e2:((2:Int).toNat)=2:=rfl
     rw[e2,hE,h3]
     refine⟨⟨by omega,by omega⟩,by rw[ByteArray.size_extract];omega,?_⟩
     show DY (!AA (Aj9 s)) (PJ Fy Post (Zb (bt s 0:Nat) 0 3)) (PJ Fy Post (((bt s 0:Nat),3,onumS s 2,onumS s 10,onumS s 18,onumS s 26,onumS s 34,onumS s 42,onumS s 50,()),0))
     cases hr:AA (Aj9 s)
     ·rw[hr]at hP;exact hP
     ·rw[hr]at hP;exact hP
    ·rw[decide_eq_false h3];rw[if_pos h3]at hP;exact hP
   ·rw[decide_eq_false hl];rw[if_pos hl]at hP;exact hP
  ·rw[decide_eq_false hk];rw[if_pos hk]at hP;exact hP
def az(x:Int):Int:=if x<0 then-x else x
theorem Avl(x:Int):0<=az x:=by unfold az;split<;>omega
theorem An6(x:Int):x<=az x:=by unfold az;split<;>omega
theorem Avm(x:Int):-az x<=x:=by unfold az;split<;>omega
theorem Avn{x K:Int}(h1:-K<=x)(h2:x<=K):az x<=K:=by unfold az;split<;>omega
theorem Arc(x y:Int):az (x-y)<=az x+az y:=by unfold az;split<;>split<;>split<;>omega
theorem An7{x K:Int}(h:az x<=K):Ab x K:=⟨by have:=Avm x;omega,by have:=An6 x;omega⟩
theorem Ard(x y:Int):Ab (x*y) (az x*az y):=(An7 (Int.le_refl (az x))).mul (An7 (Int.le_refl (az y)))
def sm(f:Nat->Int):Nat->Int
 |0=>0
 |n+1=>sm f n+f n
theorem Ny{f g:Nat->Int}:∀{n:Nat},(∀k,k<n->f k<=g k)->sm f n<=sm g n
 |0,_=>Int.le_refl _
 |n+1,h=>Int.add_le_add (Ny fun k hk=>h k (Nat.lt_succ_of_lt hk)) (h n (Nat.lt_succ_self n))
theorem Wo{f g:Nat->Int}{n:Nat}(h:∀k,k<n->f k=g k):sm f n=sm g n:=Int.le_antisymm (Ny fun k hk=>Int.le_of_eq (h k hk)) (Ny fun k hk=>Int.le_of_eq (h k hk).symm)
theorem LP(f g:Nat->Int):∀n,sm (fun k=>f k+g k) n=sm f n+sm g n
 |0=>rfl
 |n+1=>by show sm (fun k=>f k+g k) n+(f n+g n)=sm f n+f n+(sm g n+g n);rw[LP f g n];omega
theorem Um(c:Int)(f:Nat->Int):∀n,sm (fun k=>c*f k) n=c*sm f n
 |0=>by simp[sm]
 |n+1=>by show sm (fun k=>c*f k) n+c*f n=c*(sm f n+f n);rw[Um c f n,Int.mul_add]
theorem IG(c:Int):∀n:Nat,sm (fun _=>c) n=n*c
 |0=>by simp[sm]
 |n+1=>by show sm (fun _=>c) n+c=_;rw[IG c n];grind
theorem Alm{f:Nat->Int}{n:Nat}(h:∀k,k<n->f k=0):sm f n=0:=by
 rw[Wo h,IG];simp
theorem Un(j:Nat)(c:Int):∀{n:Nat},j<n->sm (fun k=>if k=j then c else 0) n=c
 |n+1,h=>by
  show sm (fun k=>if k=j then c else 0) n+(if n=j then c else 0)=c
  by_cases e:n=j
  ·rw[if_pos e,Alm (fun k hk=>if_neg (by omega))];omega
  ·rw[if_neg e,Un j c (by omega)];omega
theorem Are{f:Nat->Int}{n:Nat}(h:∀k,k<n->0<=f k):0<=sm f n:=by
 have:=Ny h
 rw[IG]at this
 simpa using this
def off(A:Nat->Nat->Int)(j a:Nat):Nat->Int:=fun b=>if j<=b/\b≠a then az (A a b)else 0
theorem Avo(A:Nat->Nat->Int)(j a b:Nat):0<=off A j a b:=by unfold off;split;exact Avl _;exact Int.le_refl _
def Dom(A:Nat->Nat->Int)(j N:Nat)(G:Int):Prop:=∀a,j<=a->a<N->sm (off A j a) N+G<=A a a
theorem Dom.diag{A:Nat->Nat->Int}{j N a:Nat}{G:Int}(D:Dom A j N G)(ha:j<=a)(ha':a<N):G<=A a a:=by
 have t:=Are (f:=off A j a) (n:=N) (fun k _=>Avo A j a k)
 have d:=D a ha ha'
 omega
theorem Dom.step{A p:Nat->Nat->Int}{j N:Nat}{G:Int}(D:Dom A j N G)(hG:1<=G)(hN:N<=6)(hj:j<N)(sym:∀a,j<a->a<N->A a j=A j a)
    (hp:∀a b,j<a->a<N->j<b->b<N->Ab (p a b*A j j-A a j*A b j) (4*A j j)):Dom (fun a b=>A a b-p a b) (j+1) N (G-24):=by
 intro a ha ha'
 have P0:1<=A j j:=Int.le_trans hG (D.diag (Nat.le_refl _) hj)
 -- the pivot's column
 have col:sm (fun b=>if j+1<=b then az (A b j)else 0) N<=A j j:=by
  have e:sm (fun b=>if j+1<=b then az (A b j)else 0) N=sm (off A j j) N:=Wo fun b hb=>by
   unfold off
   by_cases c:j+1<=b
   ·rw[if_pos c,if_pos ⟨by omega,by omega⟩,sym b c hb]
   ·rw[if_neg c,if_neg (by omega)]
  have:=D j (Nat.le_refl _) hj
  omega
 -- what is taken away from the row
 have row:sm (fun b=>if j+1<=b then az (p a b)else 0) N<=az (A a j)+24:=by
  have m:sm (fun b=>A j j*(if j+1<=b then az (p a b)else 0)) N<=sm (fun b=>az (A a j)*(if j+1<=b then az (A b j)else 0)+4*A j j) N:=Ny fun b hb=>by
   show A j j*(if j+1<=b then az (p a b)else 0)<=az (A a j)*(if j+1<=b then az (A b j)else 0)+4*A j j
   by_cases c:j+1<=b
   ·rw[if_pos c,if_pos c]
    have h:=hp a b ha ha' c hb
    have k:=Ard (A a j) (A b j)
    have:=h.lo;have:=h.hi;have:=k.lo;have:=k.hi
    have q:A j j*az (p a b)=az (p a b*A j j):=by
     unfold az
     by_cases z:p a b<0
     ·rw[if_pos z,if_pos (by have:=Int.mul_le_mul_of_nonneg_right (show p a b<=-1 by omega) (show 0<=A j j by omega);omega)];grind
     ·rw[if_neg z,if_neg (by have:=Int.mul_nonneg (show 0<=p a b by omega) (show 0<=A j j by omega);omega)];grind
    rw[q]
    exact Avn (by omega) (by omega)
   ·rw[if_neg c,if_neg c];omega
  rw[Um,LP,Um,IG]at m
  have m2:az (A a j)*sm (fun b=>if j+1<=b then az (A b j)else 0) N<=az (A a j)*A j j:=Int.mul_le_mul_of_nonneg_left col (Avl _)
  have m3:(N:Int)*(4*A j j)<=6*(4*A j j):=Int.mul_le_mul_of_nonneg_right (by omega) (by omega)
  apply Classical.byContradiction
  intro c
  have m4:A j j*(az (A a j)+25)<=A j j*sm (fun b=>if j+1<=b then az (p a b)else 0) N:=Int.mul_le_mul_of_nonneg_left (by omega) (by omega)
  have e4:A j j*(az (A a j)+25)=az (A a j)*A j j+25*A j j:=by grind
  omega
 -- the row, with its pivot's place
 have e1:sm (off A j a) N=sm (off A (j+1) a) N+az (A a j):=by
  rw[<-Un (n:=N) j (az (A a j)) hj,<-LP]
  refine Wo fun b hb=>?_
  unfold off
  by_cases c:b=j
  ·subst c;rw[if_pos ⟨Nat.le_refl _,by omega⟩,if_neg (by omega),if_pos rfl];omega
  ·rw[if_neg c]
   by_cases c2:j<=b/\b≠a
   ·rw[if_pos c2,if_pos ⟨by omega,c2.2⟩];omega
   ·rw[if_neg c2,if_neg (by omega)];omega
 have e2:sm (fun b=>if j+1<=b then az (p a b)else 0) N=sm (fun b=>if j+1<=b/\b≠a then az (p a b)else 0) N+az (p a a):=by
  rw[<-Un (n:=N) a (az (p a a)) ha',<-LP]
  refine Wo fun b hb=>?_
  show(if j+1<=b then az (p a b)else 0)=(if j+1<=b/\b≠a then az (p a b)else 0)+(if b=a then az (p a a)else 0)
  by_cases c:b=a
  ·subst c;rw[if_pos ha,if_neg (by omega),if_pos rfl];omega
  ·rw[if_neg c]
   by_cases c2:j+1<=b
   ·rw[if_pos c2,if_pos ⟨c2,c⟩];omega
   ·rw[if_neg c2,if_neg (by omega)];omega
 have e3:sm (off (fun a b=>A a b-p a b) (j+1) a) N<=sm (off A (j+1) a) N+sm (fun b=>if j+1<=b/\b≠a then az (p a b)else 0) N:=by
  rw[<-LP]
  refine Ny fun b hb=>?_
  unfold off
  by_cases c:j+1<=b/\b≠a
  ·rw[if_pos c,if_pos c,if_pos c];exact Arc _ _
  ·rw[if_neg c,if_neg c,if_neg c];omega
 have d:=D a (by omega) ha'
 have:=An6 (p a a)
 show sm (off (fun a b=>A a b-p a b) (j+1) a) N+(G-24)<=A a a-p a a
 omega
end Go.Proofs.YtgmpfeaanjnhaaaGreatDoor
namespace Go.Proofs.YtgmpfeaanjnhaaaGreatDoor
abbrev Iv:=Int×Int
structure OU(k:Int)(X:Iv)(x:Int):Prop where
 lo:X.1*k<=x
 hi:x<=X.2*k
abbrev In(X:Iv)(x:Int):Prop:=OU 1 X x
theorem Wp{X:Iv}{x:Int}(h1:X.1<=x)(h2:x<=X.2):In X x:=⟨by omega,by omega⟩
def fl(a:Int):Int:=a / 1099511627776
def ce(a:Int):Int:=-((-a) / 1099511627776)
theorem Avq(a:Int):fl a*1099511627776<=a:=by unfold fl;omega
theorem Avr(a:Int):a<=ce a*1099511627776:=by unfold ce;omega
def min4(a b c d:Int):Int:=min (min a b) (min c d)
def max4(a b c d:Int):Int:=max (max a b) (max c d)
def CJ(X Y:Iv):Iv:=(fl (min4 (X.1*Y.1) (X.1*Y.2) (X.2*Y.1) (X.2*Y.2)),ce (max4 (X.1*Y.1) (X.1*Y.2) (X.2*Y.1) (X.2*Y.2)))
def Arf(X Y:Iv):Iv:=(X.1+Y.1,X.2+Y.2)
def Uo(X Y:Iv):Iv:=(X.1-Y.2,X.2-Y.1)
def pt(a:Int):Iv:=(a,a)
def ims(c:Int)(X:Iv):Iv:=if 0<=c then(c*X.1,c*X.2)else(c*X.2,c*X.1)
def mag(X:Iv):Int:=max (-X.1) X.2
theorem Uq{X:Iv}{x:Int}(h:In X x){K:Int}(hK:mag X<=K):Ab x K:=by
 unfold mag at hK
 have:=h.lo;have:=h.hi
 exact⟨by omega,by omega⟩
theorem DR(a:Int):In (pt a) a:=⟨by show a*1<=a;omega,by show a<=a*1;omega⟩
theorem OU.add{k:Int}{X Y:Iv}{x y:Int}(h:OU k X x)(g:OU k Y y):OU k (Arf X Y) (x+y):=by
 have:=h.lo;have:=h.hi;have:=g.lo;have:=g.hi
 constructor
 ·show(X.1+Y.1)*k<=x+y;rw[Int.add_mul];omega
 ·show x+y<=(X.2+Y.2)*k;rw[Int.add_mul];omega
theorem OU.sub{k:Int}{X Y:Iv}{x y:Int}(h:OU k X x)(g:OU k Y y):OU k (Uo X Y) (x-y):=by
 have:=h.lo;have:=h.hi;have:=g.lo;have:=g.hi
 constructor
 ·show(X.1-Y.2)*k<=x-y;rw[Int.sub_mul];omega
 ·show x-y<=(X.2-Y.1)*k;rw[Int.sub_mul];omega
theorem OU.zero(k:Int):OU k (pt 0) 0:=⟨by show 0*k<=0;omega,by show 0<=0*k;omega⟩
theorem OU.ims{k:Int}{X:Iv}{x:Int}(h:OU k X x)(c:Int):OU k (ims c X) (c*x):=by
 have l:=h.lo;have u:=h.hi
 unfold Go.Proofs.YtgmpfeaanjnhaaaGreatDoor.ims
 by_cases c0:0<=c
 ·rw[if_pos c0]
  have a:=Int.mul_le_mul_of_nonneg_left l c0
  have b:=Int.mul_le_mul_of_nonneg_left u c0
  exact⟨by show c*X.1*k<=c*x;rw[Int.mul_assoc];exact a,by show c*x<=c*X.2*k;rw[Int.mul_assoc];exact b⟩
 ·rw[if_neg c0]
  have a:=Int.mul_le_mul_of_nonpos_left (show c<=0 by omega) l
  have b:=Int.mul_le_mul_of_nonpos_left (show c<=0 by omega) u
  exact⟨by show c*X.2*k<=c*x;rw[Int.mul_assoc];exact b,by show c*x<=c*X.1*k;rw[Int.mul_assoc];exact a⟩
theorem OV{a b x y:Int}(h1:a<=x)(h2:x<=b):x*y<=max (a*y) (b*y)/\min (a*y) (b*y)<=x*y:=by
 by_cases h:0<=y
 ·have p:=Int.mul_le_mul_of_nonneg_right h1 h
  have q:=Int.mul_le_mul_of_nonneg_right h2 h
  exact⟨by omega,by omega⟩
 ·have p:=Int.mul_le_mul_of_nonpos_right h1 (show y<=0 by omega)
  have q:=Int.mul_le_mul_of_nonpos_right h2 (show y<=0 by omega)
  exact⟨by omega,by omega⟩
theorem Wq{a b c d x y:Int}(h1:a<=x)(h2:x<=b)(h3:c<=y)(h4:y<=d):min4 (a*c) (a*d) (b*c) (b*d)<=x*y/\x*y<=max4 (a*c) (a*d) (b*c) (b*d):=by
 have p:=OV (y:=y) h1 h2
 have q:=OV (y:=a) h3 h4
 have r:=OV (y:=b) h3 h4
 rw[Int.mul_comm y a,Int.mul_comm c a,Int.mul_comm d a]at q
 rw[Int.mul_comm y b,Int.mul_comm c b,Int.mul_comm d b]at r
 unfold min4 max4
 exact⟨by omega,by omega⟩
theorem Aff{k:Int}(k0:0<=k)(a b c d:Int):min4 a b c d*k<=min4 (a*k) (b*k) (c*k) (d*k):=by
 have h (x:Int) (hx:min4 a b c d<=x):=Int.mul_le_mul_of_nonneg_right hx k0
 have h1:=h a (by unfold min4;omega);have h2:=h b (by unfold min4;omega);have h3:=h c (by unfold min4;omega);have h4:=h d (by unfold min4;omega)
 generalize min4 a b c d*k=m at *
 unfold min4
 omega
theorem Afg{k:Int}(k0:0<=k)(a b c d:Int):max4 (a*k) (b*k) (c*k) (d*k)<=max4 a b c d*k:=by
 have h (x:Int) (hx:x<=max4 a b c d):=Int.mul_le_mul_of_nonneg_right hx k0
 have h1:=h a (by unfold max4;omega);have h2:=h b (by unfold max4;omega);have h3:=h c (by unfold max4;omega);have h4:=h d (by unfold max4;omega)
 generalize max4 a b c d*k=m at *
 unfold max4
 omega
theorem OU.mul{k l:Int}(k0:0<=k)(l0:0<=l){X Y:Iv}{x y:Int}(h:OU k X x)(g:OU l Y y):OU (k*l*1099511627776) (CJ X Y) (x*y):=by
 have b:=Wq h.lo h.hi g.lo g.hi
 have e (a c:Int):a*k*(c*l)=a*c*(k*l):=by grind
 rw[e,e,e,e]at b
 have kl:=Int.mul_nonneg k0 l0
 have p:=Aff kl (X.1*Y.1) (X.1*Y.2) (X.2*Y.1) (X.2*Y.2)
 have q:=Afg kl (X.1*Y.1) (X.1*Y.2) (X.2*Y.1) (X.2*Y.2)
 have f:=Int.mul_le_mul_of_nonneg_right (Avq (min4 (X.1*Y.1) (X.1*Y.2) (X.2*Y.1) (X.2*Y.2))) kl
 have c:=Int.mul_le_mul_of_nonneg_right (Avr (max4 (X.1*Y.1) (X.1*Y.2) (X.2*Y.1) (X.2*Y.2))) kl
 constructor
 ·show fl _*(k*l*1099511627776)<=x*y
  rw[show fl (min4 (X.1*Y.1) (X.1*Y.2) (X.2*Y.1) (X.2*Y.2))*(k*l*1099511627776)=fl (min4 (X.1*Y.1) (X.1*Y.2) (X.2*Y.1) (X.2*Y.2))*1099511627776*(k*l)by grind]
  omega
 ·show x*y<=ce _*(k*l*1099511627776)
  rw[show ce (max4 (X.1*Y.1) (X.1*Y.2) (X.2*Y.1) (X.2*Y.2))*(k*l*1099511627776)=ce (max4 (X.1*Y.1) (X.1*Y.2) (X.2*Y.1) (X.2*Y.2))*1099511627776*(k*l)by grind]
  omega
theorem Bi{X Y:Iv}{x y m:Int}(h:In X x)(g:In Y y)(r:Ab (2*(m*1099511627776-x*y)) 1099511627776):In (CJ X Y) m:=by
 have p:=OU.mul (by decide) (by decide) h g
 have:=p.lo;have:=p.hi;have:=r.lo;have:=r.hi
 exact Wp (by omega) (by omega)
def Ur(F:Nat->Iv):Nat->Iv
 |0=>pt 0
 |n+1=>Arf (Ur F n) (F n)
def fA:Nat->Nat->Int
 |2,0=>549755813888
 |3,0=>733007751851
 |3,1=>673310613577
 |4,0=>824633720832
 |4,1=>802969761030
 |4,2=>709731703890
 |5,0=>879609302221
 |5,1=>869240264403
 |5,2=>831152665920
 |5,3=>727258582680
 |6,0=>916259689813
 |6,1=>910482127710
 |6,2=>890706219313
 |6,3=>846404445698
 |6,4=>737574822528
 |_,_=>0
def fB:Nat->Nat->Int
 |1,0=>1099511627776
 |2,0=>1649267441664
 |2,1=>1904410002822
 |3,0=>1832519379627
 |3,1=>1943680319985
 |3,2=>2458582741759
 |4,0=>1924145348608
 |4,1=>1987248770891
 |4,2=>2221811669958
 |4,3=>2909034330719
 |5,0=>1979120929997
 |5,1=>2019931840731
 |5,2=>2159397969329
 |5,3=>2473901162496
 |5,4=>3298534883328
 |6,0=>2015771317589
 |6,1=>2044365246745
 |6,2=>2138048351983
 |6,3=>2327612225670
 |6,4=>2704441015935
 |6,5=>3646667521967
 |_,_=>0
def fJ:Nat->Int
 |2=>952205001410
 |3=>1003712201286
 |4=>1028498950977
 |5=>1043088317283
 |6=>1052702237726
 |_=>0
theorem Wr(n m:Nat):Ab (fA n m) 4398046511104:=by unfold fA;split<;>exact⟨by decide,by decide⟩
theorem Ws(n m:Nat):Ab (fB n m) 4398046511104:=by unfold fB;split<;>exact⟨by decide,by decide⟩
theorem An8(n:Nat):Ab (fJ n) 4398046511104:=by unfold fJ;split<;>exact⟨by decide,by decide⟩
def entS(bad:Bool)(c s b a:Int)(x y:V3):V3×Bool:=
 let r1:=mulS bad c x.1;let r2:=mulS r1.2 b r1.1;let r3:=mulS r2.2 a y.1;let r4:=CP r3.2 r2.1 r3.1
 let r5:=mulS r4.2 c x.2.1;let r6:=mulS r5.2 s x.1;let r7:=CP r6.2 r5.1 r6.1;let r8:=mulS r7.2 b r7.1;let r9:=mulS r8.2 a y.2.1;let r10:=CP r9.2 r8.1 r9.1
 let r11:=mulS r10.2 c x.2.2;let r12:=mulS r11.2 b r11.1;let r13:=mulS r12.2 a y.2.2;let r14:=CP r13.2 r12.1 r13.1
 ((r4.1,r10.1,r14.1),r14.2)
def diaS(bad:Bool)(c s j:Int)(x:V3):V3×Bool:=
 let r1:=mulS bad s x.1;let r2:=mulS r1.2 j r1.1
 let r3:=mulS r2.2 s x.2.1;let r4:=mulS r3.2 c x.1;let r5:=Ca r4.2 r3.1 r4.1;let r6:=mulS r5.2 j r5.1
 let r7:=mulS r6.2 s x.2.2;let r8:=mulS r7.2 j r7.1
 ((r2.1,r6.1,r8.1),r8.2)
abbrev T3:=Iv×Iv×Iv
structure Us(X:T3)(x:V3):Prop where
 p:In X.1 x.1
 d:In X.2.1 x.2.1
 q:In X.2.2 x.2.2
def Aln(C S:Iv)(b a:Int)(x y:T3):T3:=
 (Uo (CJ (pt b) (CJ C x.1)) (CJ (pt a) y.1),Uo (CJ (pt b) (Uo (CJ C x.2.1) (CJ S x.1))) (CJ (pt a) y.2.1),Uo (CJ (pt b) (CJ C x.2.2)) (CJ (pt a) y.2.2))
def Avs(C S:Iv)(j:Int)(x:T3):T3:=(CJ (pt j) (CJ S x.1),CJ (pt j) (Arf (CJ S x.2.1) (CJ C x.1)),CJ (pt j) (CJ S x.2.2))
structure IL(x:V3):Prop where
 p:Ab x.1 17592186044416
 d:Ab x.2.1 17592186044416
 q:Ab x.2.2 17592186044416
theorem Afh{c s b a:Int}{x y:V3}{C S:Iv}{X Y:T3}(hc:Ab c 2199023255552)(hs:Ab s 2199023255552)(hb:Ab b 4398046511104)(ha:Ab a 4398046511104)(sx:IL x)(sy:IL y)(iC:In C c)(iS:In S s)(ix:Us X x)(iy:Us Y y):
    ∃z,entS false c s b a x y=(z,false)/\Us (Aln C S b a X Y) z:=by
 obtain⟨v1,h1,q1,b1⟩:=Av (B:=35184372088833) hc sx.p (by decide) (by decide) (by decide) (by decide)
 obtain⟨v2,h2,q2,b2⟩:=Av (B:=140737488355333) hb b1 (by decide) (by decide) (by decide) (by decide)
 obtain⟨v3,h3,q3,b3⟩:=Av (B:=70368744177665) ha sy.p (by decide) (by decide) (by decide) (by decide)
 have h4:=Bh b2 b3 (by decide) (by decide) (by decide)
 obtain⟨v5,h5,q5,b5⟩:=Av (B:=35184372088833) hc sx.d (by decide) (by decide) (by decide) (by decide)
 obtain⟨v6,h6,q6,b6⟩:=Av (B:=35184372088833) hs sx.p (by decide) (by decide) (by decide) (by decide)
 have h7:=Bh b5 b6 (by decide) (by decide) (by decide)
 obtain⟨v8,h8,q8,b8⟩:=Av (B:=281474976710666) hb (b5.sub b6) (by decide) (by decide) (by decide) (by decide)
 obtain⟨v9,h9,q9,b9⟩:=Av (B:=70368744177665) ha sy.d (by decide) (by decide) (by decide) (by decide)
 have h10:=Bh b8 b9 (by decide) (by decide) (by decide)
 obtain⟨v11,h11,q11,b11⟩:=Av (B:=35184372088833) hc sx.q (by decide) (by decide) (by decide) (by decide)
 obtain⟨v12,h12,q12,b12⟩:=Av (B:=140737488355333) hb b11 (by decide) (by decide) (by decide) (by decide)
 obtain⟨v13,h13,q13,b13⟩:=Av (B:=70368744177665) ha sy.q (by decide) (by decide) (by decide) (by decide)
 have h14:=Bh b12 b13 (by decide) (by decide) (by decide)
 refine⟨(v2-v3,v8-v9,v12-v13),?_,?_,?_,?_⟩
 ·unfold entS
  simp only[h1,h2,h3,h4,h5,h6,h7,h8,h9,h10,h11,h12,h13,h14]
 ·exact(Bi (DR b) (Bi iC ix.p q1) q2).sub (Bi (DR a) iy.p q3)
 ·exact(Bi (DR b) ((Bi iC ix.d q5).sub (Bi iS ix.p q6)) q8).sub (Bi (DR a) iy.d q9)
 ·exact(Bi (DR b) (Bi iC ix.q q11) q12).sub (Bi (DR a) iy.q q13)
theorem Arh{c s j:Int}{x:V3}{C S:Iv}{X:T3}(hc:Ab c 2199023255552)(hs:Ab s 2199023255552)(hj:Ab j 4398046511104)(sx:IL x)(iC:In C c)(iS:In S s)(ix:Us X x):
    ∃z,diaS false c s j x=(z,false)/\Us (Avs C S j X) z:=by
 obtain⟨v1,h1,q1,b1⟩:=Av (B:=35184372088833) hs sx.p (by decide) (by decide) (by decide) (by decide)
 obtain⟨v2,h2,q2,b2⟩:=Av (B:=140737488355333) hj b1 (by decide) (by decide) (by decide) (by decide)
 obtain⟨v3,h3,q3,b3⟩:=Av (B:=35184372088833) hs sx.d (by decide) (by decide) (by decide) (by decide)
 obtain⟨v4,h4,q4,b4⟩:=Av (B:=35184372088833) hc sx.p (by decide) (by decide) (by decide) (by decide)
 have h5:=Bp b3 b4 (by decide) (by decide) (by decide)
 obtain⟨v6,h6,q6,b6⟩:=Av (B:=281474976710666) hj (b3.add b4) (by decide) (by decide) (by decide) (by decide)
 obtain⟨v7,h7,q7,b7⟩:=Av (B:=35184372088833) hs sx.q (by decide) (by decide) (by decide) (by decide)
 obtain⟨v8,h8,q8,b8⟩:=Av (B:=140737488355333) hj b7 (by decide) (by decide) (by decide) (by decide)
 refine⟨(v2,v6,v8),?_,?_,?_,?_⟩
 ·unfold diaS
  simp only[h1,h2,h3,h4,h5,h6,h7,h8]
 ·exact Bi (DR j) (Bi iS ix.p q1) q2
 ·exact Bi (DR j) ((Bi iS ix.d q3).add (Bi iC ix.p q4)) q6
 ·exact Bi (DR j) (Bi iS ix.q q7) q8
def tri(c s:Int):Nat->Nat->V3
 |0,m=>if m=0 then(1099511627776,0,0)else(0,0,0)
 |1,m=>if m=0 then(entS false c s (fB 1 0) (fA 1 0) (1099511627776,0,0) (0,0,0)).1 else if m=1 then(s,c,1099511627776)else(0,0,0)
 |n+2,m=>if m<n+2 then(entS false c s (fB (n+2) m) (fA (n+2) m) (tri c s (n+1) m) (tri c s n m)).1 else if m=n+2 then(diaS false c s (fJ (n+2)) (tri c s (n+1) (n+1))).1 else(0,0,0)
def z3:T3:=(pt 0,pt 0,pt 0)
def tab(k:Nat)(f:Nat->T3):List T3:=(List.range k).map f
theorem IH(k:Nat)(f:Nat->T3)(m:Nat):(tab k f).getD m z3=if m<k then f m else z3:=by
 unfold tab
 by_cases h:m<k
 ·rw[if_pos h];simp[List.getD,h]
 ·rw[if_neg h];simp[List.getD,h]
def CM(C S:Iv):Nat->List T3×List T3
 |0=>(tab 1 (fun _=>(pt 1099511627776,pt 0,pt 0)),[])
 |1=>(tab 2 (fun m=>if m=0 then Aln C S (fB 1 0) (fA 1 0) (pt 1099511627776,pt 0,pt 0) z3 else(S,C,pt 1099511627776)),tab 1 (fun _=>(pt 1099511627776,pt 0,pt 0)))
 |n+2=>(tab (n+3) (fun m=>if m<n+2 then Aln C S (fB (n+2) m) (fA (n+2) m) ((CM C S (n+1)).1.getD m z3) ((CM C S (n+1)).2.getD m z3)else Avs C S (fJ (n+2)) ((CM C S (n+1)).1.getD (n+1) z3)),(CM C S (n+1)).1)
theorem Avt(C S:Iv):(CM C S 0).1=tab 1 (fun _=>(pt 1099511627776,pt 0,pt 0)):=by rw[CM]
theorem An9(C S:Iv):(CM C S 1).1=tab 2 (fun m=>if m=0 then Aln C S (fB 1 0) (fA 1 0) (pt 1099511627776,pt 0,pt 0) z3 else(S,C,pt 1099511627776)):=by rw[CM]
theorem Ari(C S:Iv):(CM C S 1).2=(CM C S 0).1:=by rw[CM,CM]
def Jm(X:T3):Bool:=decide (mag X.1<=17592186044416)&&decide (mag X.2.1<=17592186044416)&&decide (mag X.2.2<=17592186044416)
theorem LQ{X:T3}{x:V3}(h:Jm X=true)(i:Us X x):IL x:=by
 unfold Jm at h
 simp only[Bool.and_eq_true,decide_eq_true_eq]at h
 exact⟨Uq i.p h.1.1,Uq i.d h.1.2,Uq i.q h.2⟩
theorem Wt:Us z3 (0,0,0):=⟨DR 0,DR 0,DR 0⟩
theorem Wu:Us (pt 1099511627776,pt 0,pt 0) (1099511627776,0,0):=⟨DR _,DR 0,DR 0⟩
theorem IL.zero:IL (0,0,0):=⟨⟨by decide,by decide⟩,⟨by decide,by decide⟩,⟨by decide,by decide⟩⟩
theorem IL.one:IL (1099511627776,0,0):=⟨⟨by decide,by decide⟩,⟨by decide,by decide⟩,⟨by decide,by decide⟩⟩
structure Wv(c s:Int)(L:List T3×List T3)(n:Nat):Prop where
 a:∀m,Us (L.1.getD m z3) (tri c s n m)
 b:∀m,n≠0->Us (L.2.getD m z3) (tri c s (n-1) m)
 sa:∀m,IL (tri c s n m)
 sb:∀m,n≠0->IL (tri c s (n-1) m)
theorem Avu(c s:Int)(C S:Iv):Wv c s (CM C S 0) 0:=by
 have h (m:Nat):Us ((CM C S 0).1.getD m z3) (tri c s 0 m):=by
  rw[Avt,IH]
  unfold tri
  by_cases hm:m=0
  ·rw[if_pos (by omega),if_pos hm];exact Wu
  ·rw[if_neg (by omega),if_neg hm];exact Wt
 have k (m:Nat):IL (tri c s 0 m):=by
  unfold tri
  split
  ·exact IL.one
  ·exact IL.zero
 exact⟨h,fun m e=>absurd rfl e,k,fun m e=>absurd rfl e⟩
theorem Axr{c s:Int}{C S:Iv}(hc:Ab c 2199023255552)(hs:Ab s 2199023255552)(iC:In C c)(iS:In S s)(ok:(CM C S 1).1.all Jm=true):
    Wv c s (CM C S 1) 1/\(entS false c s (fB 1 0) (fA 1 0) (1099511627776,0,0) (0,0,0)).2=false:=by
 obtain⟨z,e,i⟩:=Afh (x:=(1099511627776,0,0)) (y:=(0,0,0)) hc hs (Ws 1 0) (Wr 1 0) IL.one IL.zero iC iS Wu Wt
 have h (m:Nat):Us ((CM C S 1).1.getD m z3) (tri c s 1 m):=by
  rw[An9,IH]
  unfold tri
  by_cases hm:m=0
  ·rw[if_pos (by omega),if_pos hm,if_pos hm,e];exact i
  ·by_cases h1:m=1
   ·rw[if_pos (by omega),if_neg hm,if_neg hm,if_pos h1];exact⟨iS,iC,DR _⟩
   ·rw[if_neg (by omega),if_neg hm,if_neg h1];exact Wt
 refine⟨⟨h,fun m _=>by rw[Ari];exact(Avu c s C S).a m,fun m=>?_,fun m _=>(Avu c s C S).sa m⟩,by rw[e]⟩
 by_cases hm:m<2
 ·refine LQ (X:=(CM C S 1).1.getD m z3) ?_ (h m)
  rw[List.all_eq_true]at ok
  apply ok
  rw[An9,IH,if_pos hm]
  exact List.mem_map.2 ⟨m,List.mem_range.2 hm,rfl⟩
 ·unfold tri
  rw[if_neg (by omega),if_neg (by omega)]
  exact IL.zero
theorem Afi{c s:Int}{C S:Iv}{n:Nat}(hc:Ab c 2199023255552)(hs:Ab s 2199023255552)(iC:In C c)(iS:In S s)(R:Wv c s (CM C S (n+1)) (n+1))(ok:(CM C S (n+2)).1.all Jm=true):
    Wv c s (CM C S (n+2)) (n+2)/\(∀m,(entS false c s (fB (n+2) m) (fA (n+2) m) (tri c s (n+1) m) (tri c s n m)).2=false)/\(diaS false c s (fJ (n+2)) (tri c s (n+1) (n+1))).2=false:=by
 have E (m:Nat):=Afh hc hs (Ws (n+2) m) (Wr (n+2) m) (R.sa m) (R.sb m (Nat.succ_ne_zero _)) iC iS (R.a m) (R.b m (Nat.succ_ne_zero _))
 have J:=Arh hc hs (An8 (n+2)) (R.sa (n+1)) iC iS (R.a (n+1))
 have h (m:Nat):Us ((CM C S (n+2)).1.getD m z3) (tri c s (n+2) m):=by
  show Us ((tab (n+3) _).getD m z3) (tri c s (n+2) m)
  rw[IH]
  unfold tri
  by_cases hm:m<n+2
  ·rw[if_pos (by omega),if_pos hm,if_pos hm]
   obtain⟨z,e,i⟩:=E m
   have e':entS false c s (fB (n+2) m) (fA (n+2) m) (tri c s (n+1) m) (tri c s n m)=(z,false):=e
   rw[e'];exact i
  ·by_cases h1:m=n+2
   ·rw[if_pos (by omega),if_neg hm,if_neg hm,if_pos h1]
    obtain⟨z,e,i⟩:=J
    rw[e];exact i
   ·rw[if_neg (by omega),if_neg hm,if_neg h1];exact Wt
 refine⟨⟨h,fun m _=>R.a m,fun m=>?_,fun m _=>R.sa m⟩,fun m=>?_,?_⟩
 ·by_cases hm:m<n+3
  ·refine LQ (X:=(CM C S (n+2)).1.getD m z3) ?_ (h m)
   rw[List.all_eq_true]at ok
   apply ok
   show(tab (n+3) _).getD m z3∈tab (n+3) _
   rw[IH,if_pos hm]
   exact List.mem_map.2 ⟨m,List.mem_range.2 hm,rfl⟩
  ·unfold tri
   rw[if_neg (by omega),if_neg (by omega)]
   exact IL.zero
 ·obtain⟨z,e,_⟩:=E m
  have e':entS false c s (fB (n+2) m) (fA (n+2) m) (tri c s (n+1) m) (tri c s n m)=(z,false):=e
  rw[e']
 ·obtain⟨z,e,_⟩:=J
  rw[e]
def fG:Nat->Nat->Int
 |1,0=>-32270666275226
 |1,1=>-1550641248652
 |2,0=>-2810571622921
 |2,1=>3244548862404
 |2,2=>1812764820714
 |3,0=>1496325374240
 |3,1=>-2643445855499
 |3,2=>1367572562628
 |3,3=>498518572034
 |4,0=>983733053371
 |4,1=>879169497570
 |4,2=>61352748830
 |4,3=>-309072718568
 |4,4=>13194139533
 |5,0=>-256076258109
 |5,1=>405719790649
 |5,2=>205828576720
 |5,3=>-152502262773
 |5,4=>-156020699981
 |5,5=>22979793021
 |6,0=>70698597666
 |6,1=>70148841852
 |6,2=>84332541850
 |6,3=>-127213495334
 |6,4=>-44970025576
 |6,5=>16382723254
 |6,6=>-66850306969
 |_,_=>0
def fH:Nat->Nat->Int
 |1,1=>4997830104056
 |2,1=>-3445429636799
 |2,2=>-895222367335
 |3,1=>-62562211620
 |3,2=>261243962760
 |3,3=>-604291590626
 |4,1=>306323939498
 |4,2=>-147334558122
 |4,3=>233096465089
 |4,4=>-412756665067
 |5,1=>49807876738
 |5,2=>241892558111
 |5,3=>-135129979054
 |5,4=>47169048832
 |5,5=>116768134870
 |6,1=>-20231013951
 |6,2=>18471795347
 |6,3=>53766118598
 |6,4=>-65750795341
 |6,5=>11984676743
 |6,6=>80044446502
 |_,_=>0
def fGy:Nat->Nat->Int
 |1,0=>13853846510
 |1,1=>10995116278
 |2,0=>-12314530231
 |2,1=>-5827411627
 |2,2=>-9125946511
 |_,_=>0
def fHy:Nat->Nat->Int
 |1,1=>-23639499997
 |2,1=>-30016667438
 |2,2=>-12204579068
 |_,_=>0
def gI(n m:Nat):Iv:=if n<=2 then(fG n m+min 0 (5*fGy n m),fG n m+max 0 (5*fGy n m))else pt (fG n m)
def hI(n m:Nat):Iv:=if n<=2 then(fH n m+min 0 (5*fHy n m),fH n m+max 0 (5*fHy n m))else pt (fH n m)
def tS:Int->Nat->Int
 |q,0=>(mulS false q q).1
 |q,n+1=>(mulS false (tS q n) q).1
def tI(Q:Iv):Nat->Iv
 |0=>CJ Q Q
 |n+1=>CJ (tI Q n) Q
def tB:Nat->Int
 |0=>1241245548545
 |1=>1318823395330
 |2=>1401249857539
 |3=>1488827973636
 |4=>1581879721989
 |5=>1680747204614
 |_=>1785793904903
theorem Alq(n:Nat)(h:n<6):tB n*1168231104512+549755813888<=tB (n+1)*1099511627776/\tB n<=2199023255552:=by
 have six:n=0∨n=1∨n=2∨n=3∨n=4∨n=5:=by omega
 rcases six with rfl |rfl |rfl |rfl |rfl |rfl<;>decide
theorem Ww(n:Nat):tB n<=2199023255552:=by unfold tB;split<;>decide
theorem Afj{q:Int}{Q:Iv}(q0:0<=q)(q1:q<=1168231104512)(iQ:In Q q):∀n,n<=6->In (tI Q n) (tS q n)/\0<=tS q n/\tS q n<=tB n
 |0,_=>by
  obtain⟨m,e,r,_⟩:=Av (a:=q) (b:=q) (K:=1168231104512) (L:=1168231104512) (B:=2199023255552) ⟨by omega,q1⟩ ⟨by omega,q1⟩ (by decide) (by decide) (by decide) (by decide)
  have p:=Int.mul_nonneg q0 q0
  have p2:=Int.mul_le_mul q1 q1 q0 (by decide)
  unfold tS tI
  rw[e]
  have:=r.lo;have:=r.hi
  exact⟨Bi iQ iQ r,by show 0<=m;omega,by show m<=1241245548545;omega⟩
 |n+1,hn=>by
  obtain⟨i,t0,t1⟩:=Afj q0 q1 iQ n (by omega)
  have T:=Alq n (by omega)
  obtain⟨m,e,r,_⟩:=Av (a:=tS q n) (b:=q) (K:=2199023255552) (L:=1168231104512) (B:=2400000000000) ⟨by omega,by omega⟩ ⟨by omega,q1⟩ (by decide) (by decide) (by decide) (by decide)
  have p:=Int.mul_nonneg t0 q0
  have p2:=Int.mul_le_mul t1 q1 q0 (by omega)
  unfold tS tI
  rw[e]
  have:=r.lo;have:=r.hi
  exact⟨Bi i iQ r,by show 0<=m;omega,by show m<=_;omega⟩
def hyp(a b:Int):Int:=((a*a+b*b) / (max a b+3*min a b / 8+1)+(max a b+3*min a b / 8+1)) / 2+1
def Avw(a b:Int):Bool:=decide (a*a+b*b<=hyp a b*hyp a b)&&decide (0<=hyp a b)
section
variable (C S Q:Iv)
def uA(m:Nat):Iv:=Ur (fun n=>ims ((n:Int)+2) (CJ (CJ (tI Q (n+1)) ((CM C S (n+1)).1.getD m z3).1) (gI (n+1) m))) 6
def uB(m:Nat):Iv:=Ur (fun n=>ims ((n:Int)+2) (CJ (CJ (tI Q (n+1)) ((CM C S (n+1)).1.getD m z3).1) (hI (n+1) m))) 6
def sA(m:Nat):Iv:=Ur (fun n=>CJ (CJ (tI Q (n+1)) ((CM C S (n+1)).1.getD m z3).2.1) (gI (n+1) m)) 6
def sB(m:Nat):Iv:=Ur (fun n=>CJ (CJ (tI Q (n+1)) ((CM C S (n+1)).1.getD m z3).2.1) (hI (n+1) m)) 6
def eA(m:Nat):Iv:=Ur (fun n=>ims (m:Int) (CJ (CJ (tI Q (n+1)) ((CM C S (n+1)).1.getD m z3).2.2) (gI (n+1) m))) 6
def eB(m:Nat):Iv:=Ur (fun n=>ims (m:Int) (CJ (CJ (tI Q (n+1)) ((CM C S (n+1)).1.getD m z3).2.2) (hI (n+1) m))) 6
def Ut(A B:Nat->Iv):Int:=sm (fun m=>hyp (mag (A m)) (mag (B m))) 7
def OW(A B:Nat->Iv):Bool:=(List.range 7).all fun m=>Avw (mag (A m)) (mag (B m))
def OX:Bool:=(List.range 6).all fun n=>(CM C S (n+1)).1.all Jm
def vA(r d:Int)(m:Nat):Iv:=Uo (ims r (uA C S Q m)) (ims d (sA C S Q m))
def vB(r d:Int)(m:Nat):Iv:=Uo (ims r (uB C S Q m)) (ims d (sB C S Q m))
def Afk(r d:Int):Bool:=
 OX C S&&OW (uA C S Q) (uB C S Q)&&OW (sA C S Q) (sB C S Q)&&OW (eA C S Q) (eB C S Q)&&OW (vA C S Q r d) (vB C S Q r d)&&
 decide (Ut (uA C S Q) (uB C S Q)*Ut (uA C S Q) (uB C S Q)+Ut (sA C S Q) (sB C S Q)*Ut (sA C S Q) (sB C S Q)+Ut (eA C S Q) (eB C S Q)*Ut (eA C S Q) (eB C S Q)<=9575901417167477692847620096)&&
 decide (3100*1099511627776*1099511627776<=-(vA C S Q r d 0).2*1099511627776-(Ut (vA C S Q r d) (vB C S Q r d)-hyp (mag (vA C S Q r d 0)) (mag (vB C S Q r d 0)))*1099528404992)&&
 decide (r*r+d*d<=1000000)
end
end Go.Proofs.YtgmpfeaanjnhaaaGreatDoor
