import Derived.Handy
import Derived.Deep.RegionHeld3
import Derived.Test.YtoadcnhcfodkgaaGreatDoorU09
import Derived.Test.YtoadcnhcfodkgaaGreatDoorU05
import Derived.Test.YtoadcnhcfodkgaaGreatDoorU01
import Derived.Test.YtoadcnhcfodkgaaGreatDoorU10
import Derived.Test.YtoadcnhcfodkgaaGreatDoorU08
set_option maxRecDepth 100000
set_option maxHeartbeats 20000000
open Nat renaming lt_succ_of_lt→Zm
open Go.Proofs.Tryz renaming prog→Zn
namespace Go.Proofs.YtoadcnhcfodkgaaGreatDoor
section
open Go.RowKit
theorem BU(b:Nat)(bad:Bool)(x:Int)(w:World)(hw:Fl b bad w):
    Calls Zn 283 #[.pointer (some ⟨b,0,none⟩),.int .i64 x] w fun e w'=>e=.returned (.int .i64 ((Af bad 1099511627776 x 10000).1))/\Fl b (Af bad 1099511627776 x 10000).2 w'/\Ad b w w':=by
 have hl:=hw.lies
 go_enter Tryz.func283,Tryz.ntmps283
 go_wp2_with fail
 refine(CF b bad 1099511627776 x 10000 _ hw).mono ?_
 rintro e w1 ⟨rfl,f1,k1⟩
 generalize e1:Af bad 1099511627776 x 10000=r1 at f1 ⊢
 have E1:Hid _:=e1
 clear e1
 have K1:Ad b w w1:=Ad.trans (Ad.refl b w) k1
 have z1:=K1.size
 clear k1
 go_wp2
 go_ret
 have hs:Af bad 1099511627776 x 10000=(r1.1,r1.2):=by simp only[E1.out]
 rw[hs]
 exact⟨rfl,f1,K1⟩
theorem Ap3(b:Nat)(bad:Bool)(n:Int)(m:Int)(w:World)(hw:Fl b bad w)(a0:0<=n*n)(a6:n*n<=36)(b0:0<=m*m)(b6:m*m<=36):
    Calls Zn 284 #[.pointer (some ⟨b,0,none⟩),.int .i64 n,.int .i64 m] w fun e w'=>e=.returned (.int .i64 ((FF bad n m).1))/\Fl b (FF bad n m).2 w'/\Ad b w w':=by
 have hl:=hw.lies
 go_enter Tryz.func284,Tryz.ntmps284
 go_wp2_with fail
 refine(N7 b bad (((n*n)-(m*m))*1099511627776) _ hw).mono ?_
 rintro e w1 ⟨rfl,f1,k1⟩
 generalize e1:B5 bad (((n*n)-(m*m))*1099511627776)=r1 at f1 ⊢
 have E1:Hid _:=e1
 clear e1
 have K1:Ad b w w1:=Ad.trans (Ad.refl b w) k1
 have z1:=K1.size
 clear k1
 go_wp2
 go_ret
 have hs:FF bad n m=(r1.1,r1.2):=by unfold FF;simp only[E1.out]
 rw[hs]
 exact⟨rfl,f1,K1⟩
theorem O7(b:Nat)(bad:Bool)(n m:Int)(w:World)(hw:Fl b bad w)(n0:0<=n)(n6:n<=6)(m0:0<=m)(m6:m<=6):
    Calls Zn 284 #[.pointer (some ⟨b,0,none⟩),.int .i64 n,.int .i64 m] w fun e w'=>e=.returned (.int .i64 (FF bad n m).1)/\Fl b (FF bad n m).2 w'/\Ad b w w':=by
 have a:=Int.mul_nonneg n0 n0;have a':=Int.mul_le_mul n6 n6 n0 (by decide)
 have c:=Int.mul_nonneg m0 m0;have c':=Int.mul_le_mul m6 m6 m0 (by decide)
 exact Ap3 b bad n m w hw (by omega) (by omega) (by omega) (by omega)
theorem B4(t:Int)(w:World):Calls Zn 9 #[.int .i64 t] w fun e w'=>e=.returned (.bool (cRight t))/\Below w.heap.size w w':=by
 rcases GO t with⟨h0,h1⟩|hn
 ·have H:Hid _:=CZ h0 h1
  go_enter Tryz.func9,Tryz.ntmps9
  go_wp2
  go_ret
  rw[H.out]
  exact⟨rfl,Below.refl _ _⟩
 ·have H:Hid _:=Ec hn
  by_cases c:0<=t
  ·have d:¬t<=157766400000:=by omega
   clear hn
   go_enter Tryz.func9,Tryz.ntmps9
   go_wp2
   go_ret
   rw[H.out]
   exact⟨rfl,Below.refl _ _⟩
  ·clear hn
   go_enter Tryz.func9,Tryz.ntmps9
   go_wp2
   go_ret
   rw[H.out]
   exact⟨rfl,Below.refl _ _⟩
theorem Y4(t:Int)(w:World)(h0:0<=t)(h1:t<=157766400000):Calls Zn 9 #[.int .i64 t] w fun e w'=>e=.returned (.bool true)/\Below w.heap.size w w':=by
 have h:=B4 t w
 rw[CZ h0 h1]at h
 exact h
theorem Agv(t:Int)(w:World)(hn:¬(0<=t/\t<=157766400000)):Calls Zn 9 #[.int .i64 t] w fun e w'=>e=.returned (.bool false)/\Below w.heap.size w w':=by
 have h:=B4 t w
 rw[Ec hn]at h
 exact h
def LZ(bad:Bool)(t:Int):(Int)×Bool:=let r2:=Af bad 1099511627776 t 86400000;(r2.1,r2.2)
def O8(_:Bool)(_:Int):(Int)×Bool:=(0,true)
theorem Agw(b:Nat)(bad:Bool)(t:Int)(w:World)(hw:Fl b bad w)(h0:0<=t)(h1:t<=157766400000):
    Calls Zn 123 #[.pointer (some ⟨b,0,none⟩),.int .i64 t] w fun e w'=>e=.returned (.int .i64 ((LZ bad t).1))/\Fl b (LZ bad t).2 w'/\Ad b w w':=by
 have hl:=hw.lies
 go_enter Tryz.func123,Tryz.ntmps123
 go_wp2_with fail
 refine(Y4 t _ h0 h1).mono ?_
 rintro e w1 ⟨rfl,k1⟩
 have K1:Ad b w w1:=Ad.trans (Ad.refl b w) (Ad.of_below k1)
 have BF_1:=hw.below k1
 have z1:=K1.size
 clear k1
 go_wp2_with fail
 refine(CF b bad 1099511627776 t 86400000 _ BF_1).mono ?_
 rintro e w2 ⟨rfl,f2,k2⟩
 generalize e2:Af bad 1099511627776 t 86400000=r2 at f2 ⊢
 have E2:Hid _:=e2
 clear e2
 have K2:=Ad.trans K1 k2
 have z2:=K2.size
 clear K1 BF_1 k2
 go_wp2
 go_ret
 have hs:LZ bad t=(r2.1,r2.2):=by unfold LZ;simp only[E2.out]
 rw[hs]
 exact⟨rfl,f2,K2⟩
theorem Ap4(b:Nat)(bad:Bool)(t:Int)(w:World)(hw:Fl b bad w)(hn:¬(0<=t/\t<=157766400000)):
    Calls Zn 123 #[.pointer (some ⟨b,0,none⟩),.int .i64 t] w fun e w'=>e=.returned (.int .i64 ((O8 bad t).1))/\Fl b (O8 bad t).2 w'/\Ad b w w':=by
 have hl:=hw.lies
 go_enter Tryz.func123,Tryz.ntmps123
 go_wp2_with fail
 refine(Agv t _ hn).mono ?_
 rintro e w1 ⟨rfl,k1⟩
 have K1:Ad b w w1:=Ad.trans (Ad.refl b w) (Ad.of_below k1)
 have BF_1:=hw.below k1
 have z1:=K1.size
 clear k1
 go_wp2_with fail
 refine(BA b bad _ BF_1).mono ?_
 rintro e w2 ⟨rfl,f2,k2⟩
 have K2:=Ad.trans K1 k2
 have z2:=K2.size
 clear K1 BF_1 k2
 go_wp2
 go_ret
 have hs:O8 bad t=(0,true):=rfl
 rw[hs]
 exact⟨rfl,f2,K2⟩
theorem Ap5(bad:Bool){t:Int}(h0:0<=t)(h1:t<=157766400000):LZ bad t=Fe bad t:=by
 unfold LZ Fe;rw[CZ h0 h1];rfl
theorem Agx(bad:Bool){t:Int}(hn:¬(0<=t/\t<=157766400000)):O8 bad t=Fe bad t:=by
 unfold O8;rw[Yz bad hn]
theorem Agy(b:Nat)(bad:Bool)(t:Int)(w:World)(hw:Fl b bad w):
    Calls Zn 123 #[.pointer (some ⟨b,0,none⟩),.int .i64 t] w fun e w'=>e=.returned (.int .i64 (Fe bad t).1)/\Fl b (Fe bad t).2 w'/\Ad b w w':=by
 rcases GO t with⟨h0,h1⟩|hn
 ·have h:=Agw b bad t w hw h0 h1
  rw[Ap5 bad h0 h1]at h
  exact h
 ·have h:=Ap4 b bad t w hw hn
  rw[Agx bad hn]at h
  exact h
theorem AGb(b:Nat)(n m t g0 h0:Int)(w:World)(hw:Fl b false w)(hG0:AN 0 (row 54 Eu) w)(hG1:AN 1 (row 10 Gk) w)(hb:1<b)(n1:1<=n)(n6:n<=6)(m0:0<=m)(mn:m<=n)(ht:cRight t=true)(a2 q:Int)(i:Nat)(hx:n*(n+1)=a2)(hx0:2<=a2)(hx1:a2<=42)(hq:Int.tdiv a2 2=q)(hq0:1<=q)(hq1:q<=21)(hr:q-1+m=(i:Int))(hi:i<27)(h5:5<=i)(hg:Af false 1099511627776 (Eu (i*2)) 10000=(g0,false))(hh:Af false 1099511627776 (Eu (i*2+1)) 10000=(h0,false)):
    Calls Zn 266 #[.pointer (some ⟨b,0,none⟩),.int .i64 n,.int .i64 m,.int .i64 t] w fun e w'=>e=.returned (.tuple #[.int .i64 g0,.int .i64 h0])/\Fl b false w'/\Ad b w w':=by
 have hl:=hw.lies
 have l_0:=hG0.lies
 have l_1:=hG1.lies
 go_enter Tryz.func266,Tryz.ntmps266
 go_wp2_with fail
 refine(B4 t _).mono ?_
 rintro e w1 ⟨rfl,k1⟩
 rw[ht]
 try dsimp only
 have K1:Ad b w w1:=Ad.trans (Ad.refl b w) (Ad.of_below k1)
 have BF_1:=hw.below k1
 have G0_1:=hG0.below k1
 have G1_1:=hG1.below k1
 have z1:=K1.size
 clear hG0 hG1 k1
 go_wp2_with fail
 refine wp_region_held_drew (S:=fun w'=>AN 0 (row 54 Eu) w') (by kernel_rfl) G0_1.drew (fun zH=>?_)
 refine zT 0 rfl (by kernel_rfl) (fun _ _ _=>id) rfl (fun _ _=>by go_simp<;>with_reducible rfl) zH ?_
 simp only[Act.put,zA,zB,zC]
 refine zT 1 rfl (by kernel_rfl) (fun _ _ _=>id) rfl (fun _ _=>by go_simp<;>with_reducible rfl) zH ?_
 simp only[Act.put,zA,zB,zC]
 refine zT 2 rfl (by kernel_rfl) (fun _ _ _=>id) rfl (fun _ _=>by have hi0:(i:Int)<27:=(by omega);go_simp<;>with_reducible rfl) zH ?_
 simp only[Act.put,zA,zB,zC]
 refine zT 3 rfl (by kernel_rfl) (fun _ _ _=>id) rfl (fun _ _=>by go_simp<;>with_reducible rfl) zH ?_
 simp only[Act.put,zA,zB,zC]
 refine zT 4 rfl (by kernel_rfl) (fun _ _ _=>id) rfl (fun wx hS=>by have hc0:wx.cell? ⟨0,i*2,none⟩=some (.int .i64 (Eu (i*2))):=Dp hS (i*2) (by omega);go_simp<;>with_reducible rfl) zH ?_
 simp only[Act.put,zA,zB,zC]
 refine zT 6 rfl (by kernel_rfl) (fun _ _ _=>id) rfl (fun _ _=>by go_simp<;>with_reducible rfl) zH ?_
 simp only[Act.put,zA,zB,zC]
 refine zT 7 rfl (by kernel_rfl) (fun _ _ _=>id) rfl (fun _ _=>by go_simp<;>with_reducible rfl) zH ?_
 simp only[Act.put,zA,zB,zC]
 refine zT 8 rfl (by kernel_rfl) (fun _ _ _=>id) rfl (fun _ _=>by have hi0:(i:Int)<27:=(by omega);go_simp<;>with_reducible rfl) zH ?_
 simp only[Act.put,zA,zB,zC]
 refine zT 9 rfl (by kernel_rfl) (fun _ _ _=>id) rfl (fun _ _=>by go_simp<;>with_reducible rfl) zH ?_
 simp only[Act.put,zA,zB,zC]
 refine zT 10 rfl (by kernel_rfl) (fun _ _ _=>id) rfl (fun wx hS=>by have hc0:wx.cell? ⟨0,i*2+1,none⟩=some (.int .i64 (Eu (i*2+1))):=Dp hS (i*2+1) (by omega);go_simp<;>with_reducible rfl) zH ?_
 simp only[Act.put,zA,zB,zC]
 refine zK 5 (by kernel_rfl) rfl (fun K hK=>?_)
 go_simp
 refine(BU b false (Eu (i*2)) _ BF_1.drew).mono ?_
 rintro e w2 ⟨rfl,f2,k2⟩
 rw[hg]at f2 ⊢
 dsimp only at f2 ⊢
 have K2:Ad b w w2:=Ad.trans K1.drew k2
 have G0_2:=G0_1.drew.kept k2 (by omega)
 have G1_2:=G1_1.drew.kept k2 (by omega)
 have z2:=K2.size
 clear zH
 refine hK.out _ _ G0_2 (fun zH=>?_)
 clear hK K K1 BF_1 G0_1 G1_1 k2
 refine zK 11 (by kernel_rfl) rfl (fun K hK=>?_)
 go_simp
 refine(BU b false (Eu (i*2+1)) _ f2).mono ?_
 rintro e w3 ⟨rfl,f3,k3⟩
 rw[hh]at f3 ⊢
 dsimp only at f3 ⊢
 have K3:=Ad.trans K2 k3
 have G0_3:=G0_2.kept k3 (by omega)
 have G1_3:=G1_2.kept k3 (by omega)
 have z3:=K3.size
 clear zH
 refine hK.out _ _ G0_3 (fun zH=>?_)
 clear hK K K2 f2 G0_2 G1_2 k3
 refine zT 12 rfl (by kernel_rfl) (fun _ _ _=>id) rfl (fun _ _=>by go_simp<;>with_reducible rfl) zH ?_
 simp only[Act.put,zA,zB,zC]
 refine zT 13 rfl (by kernel_rfl) (fun _ _ _=>id) rfl (fun _ _=>by go_simp<;>with_reducible rfl) zH ?_
 simp only[Act.put,zA,zB,zC]
 refine wpAnyH_done (by kernel_rfl) ?_ _
 clear zH
 go_wp2
 refine bodyPost_ret (v:=.tuple #[.int .i64 g0,.int .i64 h0]) (by simp[results,Tryz.results266,go_sem]) rfl ?_
 exact⟨rfl,f3,K3⟩
theorem AGc(b:Nat)(n m t g0 h0 d y g1 h1 x1 x2 g2 h2:Int)(w:World)(hw:Fl b false w)(hG0:AN 0 (row 54 Eu) w)(hG1:AN 1 (row 10 Gk) w)(hb:1<b)(n1:1<=n)(n6:n<=6)(m0:0<=m)(mn:m<=n)(ht:cRight t=true)(a2 q:Int)(i:Nat)(hx:n*(n+1)=a2)(hx0:2<=a2)(hx1:a2<=42)(hq:Int.tdiv a2 2=q)(hq0:1<=q)(hq1:q<=21)(hr:q-1+m=(i:Int))(hi:i<27)(h5:i<5)(hg:Af false 1099511627776 (Eu (i*2)) 10000=(g0,false))(hh:Af false 1099511627776 (Eu (i*2+1)) 10000=(h0,false))(hd:Fe false t=(d,false))(hy:AA false d 401596622045184=(y,false))(hgy:Af false 1099511627776 (Gk (i*2)) 10000=(g1,false))(hhy:Af false 1099511627776 (Gk (i*2+1)) 10000=(h1,false))(hmg:mulS false y g1=(x1,false))(hmh:mulS false y h1=(x2,false))(hag:Ap false g0 x1=(g2,false))(hah:Ap false h0 x2=(h2,false)):
    Calls Zn 266 #[.pointer (some ⟨b,0,none⟩),.int .i64 n,.int .i64 m,.int .i64 t] w fun e w'=>e=.returned (.tuple #[.int .i64 g2,.int .i64 h2])/\Fl b false w'/\Ad b w w':=by
 have hl:=hw.lies
 have l_0:=hG0.lies
 have l_1:=hG1.lies
 go_enter Tryz.func266,Tryz.ntmps266
 go_wp2_with fail
 refine(B4 t _).mono ?_
 rintro e w1 ⟨rfl,k1⟩
 rw[ht]
 try dsimp only
 have K1:Ad b w w1:=Ad.trans (Ad.refl b w) (Ad.of_below k1)
 have BF_1:=hw.below k1
 have G0_1:=hG0.below k1
 have G1_1:=hG1.below k1
 have z1:=K1.size
 clear hG0 hG1 k1
 go_wp2_with fail
 refine wp_region_held_drew (S:=fun w'=>AN 0 (row 54 Eu) w') (by kernel_rfl) G0_1.drew (fun zH=>?_)
 refine zT 0 rfl (by kernel_rfl) (fun _ _ _=>id) rfl (fun _ _=>by go_simp<;>with_reducible rfl) zH ?_
 simp only[Act.put,zA,zB,zC]
 refine zT 1 rfl (by kernel_rfl) (fun _ _ _=>id) rfl (fun _ _=>by go_simp<;>with_reducible rfl) zH ?_
 simp only[Act.put,zA,zB,zC]
 refine zT 2 rfl (by kernel_rfl) (fun _ _ _=>id) rfl (fun _ _=>by have hi0:(i:Int)<27:=(by omega);go_simp<;>with_reducible rfl) zH ?_
 simp only[Act.put,zA,zB,zC]
 refine zT 3 rfl (by kernel_rfl) (fun _ _ _=>id) rfl (fun _ _=>by go_simp<;>with_reducible rfl) zH ?_
 simp only[Act.put,zA,zB,zC]
 refine zT 4 rfl (by kernel_rfl) (fun _ _ _=>id) rfl (fun wx hS=>by have hc0:wx.cell? ⟨0,i*2,none⟩=some (.int .i64 (Eu (i*2))):=Dp hS (i*2) (by omega);go_simp<;>with_reducible rfl) zH ?_
 simp only[Act.put,zA,zB,zC]
 refine zT 6 rfl (by kernel_rfl) (fun _ _ _=>id) rfl (fun _ _=>by go_simp<;>with_reducible rfl) zH ?_
 simp only[Act.put,zA,zB,zC]
 refine zT 7 rfl (by kernel_rfl) (fun _ _ _=>id) rfl (fun _ _=>by go_simp<;>with_reducible rfl) zH ?_
 simp only[Act.put,zA,zB,zC]
 refine zT 8 rfl (by kernel_rfl) (fun _ _ _=>id) rfl (fun _ _=>by have hi0:(i:Int)<27:=(by omega);go_simp<;>with_reducible rfl) zH ?_
 simp only[Act.put,zA,zB,zC]
 refine zT 9 rfl (by kernel_rfl) (fun _ _ _=>id) rfl (fun _ _=>by go_simp<;>with_reducible rfl) zH ?_
 simp only[Act.put,zA,zB,zC]
 refine zT 10 rfl (by kernel_rfl) (fun _ _ _=>id) rfl (fun wx hS=>by have hc0:wx.cell? ⟨0,i*2+1,none⟩=some (.int .i64 (Eu (i*2+1))):=Dp hS (i*2+1) (by omega);go_simp<;>with_reducible rfl) zH ?_
 simp only[Act.put,zA,zB,zC]
 refine zK 5 (by kernel_rfl) rfl (fun K hK=>?_)
 go_simp
 refine(BU b false (Eu (i*2)) _ BF_1.drew).mono ?_
 rintro e w2 ⟨rfl,f2,k2⟩
 rw[hg]at f2 ⊢
 dsimp only at f2 ⊢
 have K2:Ad b w w2:=Ad.trans K1.drew k2
 have G0_2:=G0_1.drew.kept k2 (by omega)
 have G1_2:=G1_1.drew.kept k2 (by omega)
 have z2:=K2.size
 clear zH
 refine hK.out _ _ G0_2 (fun zH=>?_)
 clear hK K K1 BF_1 G0_1 G1_1 k2
 refine zK 11 (by kernel_rfl) rfl (fun K hK=>?_)
 go_simp
 refine(BU b false (Eu (i*2+1)) _ f2).mono ?_
 rintro e w3 ⟨rfl,f3,k3⟩
 rw[hh]at f3 ⊢
 dsimp only at f3 ⊢
 have K3:=Ad.trans K2 k3
 have G0_3:=G0_2.kept k3 (by omega)
 have G1_3:=G1_2.kept k3 (by omega)
 have z3:=K3.size
 clear zH
 refine hK.out _ _ G0_3 (fun zH=>?_)
 clear hK K K2 f2 G0_2 G1_2 k3
 refine zT 12 rfl (by kernel_rfl) (fun _ _ _=>id) rfl (fun _ _=>by go_simp<;>with_reducible rfl) zH ?_
 simp only[Act.put,zA,zB,zC]
 refine zT 13 rfl (by kernel_rfl) (fun _ _ _=>id) rfl (fun _ _=>by go_simp<;>with_reducible rfl) zH ?_
 simp only[Act.put,zA,zB,zC]
 refine wpAnyH_done (by kernel_rfl) ?_ _
 clear zH
 go_wp2_with fail
 refine(Agy b false t _ f3).mono ?_
 rintro e w4 ⟨rfl,f4,k4⟩
 rw[hd]at f4 ⊢
 dsimp only at f4 ⊢
 have K4:=Ad.trans K3 k4
 have G0_4:=G0_3.kept k4 (by omega)
 have G1_4:=G1_3.kept k4 (by omega)
 have z4:=K4.size
 clear K3 f3 G0_3 G1_3 k4
 go_wp2_with fail
 refine(DK b false d 401596622045184 _ f4).mono ?_
 rintro e w5 ⟨rfl,f5,k5⟩
 rw[hy]at f5 ⊢
 dsimp only at f5 ⊢
 have K5:=Ad.trans K4 k5
 have G0_5:=G0_4.kept k5 (by omega)
 have G1_5:=G1_4.kept k5 (by omega)
 have z5:=K5.size
 clear K4 f4 G0_4 G1_4 k5
 have c5_G1_0:w5.cell? ⟨1,i*2,none⟩=some (.int .i64 (Gk (i*2))):=Dp G1_5 (i*2) (by omega)
 have i5_1:(i:Int)<5:=by omega
 go_wp2_with fail
 refine(BU b false (Gk (i*2)) _ f5).mono ?_
 rintro e w6 ⟨rfl,f6,k6⟩
 rw[hgy]at f6 ⊢
 dsimp only at f6 ⊢
 have K6:=Ad.trans K5 k6
 have G0_6:=G0_5.kept k6 (by omega)
 have G1_6:=G1_5.kept k6 (by omega)
 have z6:=K6.size
 clear c5_G1_0 i5_1 K5 f5 G0_5 G1_5 k6
 go_wp2_with fail
 refine(Aw b false y g1 _ f6).mono ?_
 rintro e w7 ⟨rfl,f7,k7⟩
 rw[hmg]at f7 ⊢
 dsimp only at f7 ⊢
 have K7:=Ad.trans K6 k7
 have G0_7:=G0_6.kept k7 (by omega)
 have G1_7:=G1_6.kept k7 (by omega)
 have z7:=K7.size
 clear K6 f6 G0_6 G1_6 k7
 go_wp2_with fail
 refine(DJ b false g0 x1 _ f7).mono ?_
 rintro e w8 ⟨rfl,f8,k8⟩
 rw[hag]at f8 ⊢
 dsimp only at f8 ⊢
 have K8:=Ad.trans K7 k8
 have G0_8:=G0_7.kept k8 (by omega)
 have G1_8:=G1_7.kept k8 (by omega)
 have z8:=K8.size
 clear K7 f7 G0_7 G1_7 k8
 have c8_G1_0:w8.cell? ⟨1,i*2+1,none⟩=some (.int .i64 (Gk (i*2+1))):=Dp G1_8 (i*2+1) (by omega)
 have i8_1:(i:Int)<5:=by omega
 go_wp2_with fail
 refine(BU b false (Gk (i*2+1)) _ f8).mono ?_
 rintro e w9 ⟨rfl,f9,k9⟩
 rw[hhy]at f9 ⊢
 dsimp only at f9 ⊢
 have K9:=Ad.trans K8 k9
 have G0_9:=G0_8.kept k9 (by omega)
 have G1_9:=G1_8.kept k9 (by omega)
 have z9:=K9.size
 clear c8_G1_0 i8_1 K8 f8 G0_8 G1_8 k9
 go_wp2_with fail
 refine(Aw b false y h1 _ f9).mono ?_
 rintro e w10 ⟨rfl,f10,k10⟩
 rw[hmh]at f10 ⊢
 dsimp only at f10 ⊢
 have K10:=Ad.trans K9 k10
 have G0_10:=G0_9.kept k10 (by omega)
 have G1_10:=G1_9.kept k10 (by omega)
 have z10:=K10.size
 clear K9 f9 G0_9 G1_9 k10
 go_wp2_with fail
 refine(DJ b false h0 x2 _ f10).mono ?_
 rintro e w11 ⟨rfl,f11,k11⟩
 rw[hah]at f11 ⊢
 dsimp only at f11 ⊢
 have K11:=Ad.trans K10 k11
 have G0_11:=G0_10.kept k11 (by omega)
 have G1_11:=G1_10.kept k11 (by omega)
 have z11:=K11.size
 clear K10 f10 G0_10 G1_10 k11
 go_wp2
 refine bodyPost_ret (v:=.tuple #[.int .i64 g2,.int .i64 h2]) (by simp[results,Tryz.results266,go_sem]) rfl ?_
 exact⟨rfl,f11,K11⟩
theorem AGd(b:Nat)(n m t:Int)(w:World)(hw:Fl b false w)(c1:n<1):
    Calls Zn 266 #[.pointer (some ⟨b,0,none⟩),.int .i64 n,.int .i64 m,.int .i64 t] w fun e w'=>e=.returned (.tuple #[.int .i64 0,.int .i64 0])/\Fl b true w'/\Ad b w w':=by
 have hl:=hw.lies
 go_enter Tryz.func266,Tryz.ntmps266
 go_wp2_with fail
 refine(BA b false _ hw).mono ?_
 rintro e w1 ⟨rfl,f1,k1⟩
 have K1:Ad b w w1:=Ad.trans (Ad.refl b w) k1
 have z1:=K1.size
 clear k1
 go_wp2
 refine bodyPost_ret (v:=.tuple #[.int .i64 0,.int .i64 0]) (by simp[results,Tryz.results266,go_sem]) rfl ?_
 exact⟨rfl,f1,K1⟩
theorem AGe(b:Nat)(n m t:Int)(w:World)(hw:Fl b false w)(c1:¬n<1)(c2:n>6):
    Calls Zn 266 #[.pointer (some ⟨b,0,none⟩),.int .i64 n,.int .i64 m,.int .i64 t] w fun e w'=>e=.returned (.tuple #[.int .i64 0,.int .i64 0])/\Fl b true w'/\Ad b w w':=by
 have hl:=hw.lies
 go_enter Tryz.func266,Tryz.ntmps266
 go_wp2_with fail
 refine(BA b false _ hw).mono ?_
 rintro e w1 ⟨rfl,f1,k1⟩
 have K1:Ad b w w1:=Ad.trans (Ad.refl b w) k1
 have z1:=K1.size
 clear k1
 go_wp2
 refine bodyPost_ret (v:=.tuple #[.int .i64 0,.int .i64 0]) (by simp[results,Tryz.results266,go_sem]) rfl ?_
 exact⟨rfl,f1,K1⟩
theorem AGf(b:Nat)(n m t:Int)(w:World)(hw:Fl b false w)(c1:¬n<1)(c2:¬n>6)(c3:m<0):
    Calls Zn 266 #[.pointer (some ⟨b,0,none⟩),.int .i64 n,.int .i64 m,.int .i64 t] w fun e w'=>e=.returned (.tuple #[.int .i64 0,.int .i64 0])/\Fl b true w'/\Ad b w w':=by
 have hl:=hw.lies
 go_enter Tryz.func266,Tryz.ntmps266
 go_wp2_with fail
 refine(BA b false _ hw).mono ?_
 rintro e w1 ⟨rfl,f1,k1⟩
 have K1:Ad b w w1:=Ad.trans (Ad.refl b w) k1
 have z1:=K1.size
 clear k1
 go_wp2
 refine bodyPost_ret (v:=.tuple #[.int .i64 0,.int .i64 0]) (by simp[results,Tryz.results266,go_sem]) rfl ?_
 exact⟨rfl,f1,K1⟩
theorem AGg(b:Nat)(n m t:Int)(w:World)(hw:Fl b false w)(c1:¬n<1)(c2:¬n>6)(c3:¬m<0)(c4:m>n):
    Calls Zn 266 #[.pointer (some ⟨b,0,none⟩),.int .i64 n,.int .i64 m,.int .i64 t] w fun e w'=>e=.returned (.tuple #[.int .i64 0,.int .i64 0])/\Fl b true w'/\Ad b w w':=by
 have hl:=hw.lies
 go_enter Tryz.func266,Tryz.ntmps266
 go_wp2_with fail
 refine(BA b false _ hw).mono ?_
 rintro e w1 ⟨rfl,f1,k1⟩
 have K1:Ad b w w1:=Ad.trans (Ad.refl b w) k1
 have z1:=K1.size
 clear k1
 go_wp2
 refine bodyPost_ret (v:=.tuple #[.int .i64 0,.int .i64 0]) (by simp[results,Tryz.results266,go_sem]) rfl ?_
 exact⟨rfl,f1,K1⟩
theorem AGh(b:Nat)(n m t:Int)(w:World)(hw:Fl b false w)(c1:¬n<1)(c2:¬n>6)(c3:¬m<0)(c4:¬m>n)(ht:cRight t=false):
    Calls Zn 266 #[.pointer (some ⟨b,0,none⟩),.int .i64 n,.int .i64 m,.int .i64 t] w fun e w'=>e=.returned (.tuple #[.int .i64 0,.int .i64 0])/\Fl b true w'/\Ad b w w':=by
 have hl:=hw.lies
 go_enter Tryz.func266,Tryz.ntmps266
 go_wp2_with fail
 refine(B4 t _).mono ?_
 rintro e w1 ⟨rfl,k1⟩
 rw[ht]
 try dsimp only
 have K1:Ad b w w1:=Ad.trans (Ad.refl b w) (Ad.of_below k1)
 have BF_1:=hw.below k1
 have z1:=K1.size
 clear k1
 go_wp2_with fail
 refine(BA b false _ BF_1).mono ?_
 rintro e w2 ⟨rfl,f2,k2⟩
 have K2:=Ad.trans K1 k2
 have z2:=K2.size
 clear K1 BF_1 k2
 go_wp2
 refine bodyPost_ret (v:=.tuple #[.int .i64 0,.int .i64 0]) (by simp[results,Tryz.results266,go_sem]) rfl ?_
 exact⟨rfl,f2,K2⟩
end
section
open Go.RowKit
theorem Axu{N M:Nat}(h1:1<=N)(h6:N<=6):∃a q:Int,(N:Int)*((N:Int)+1)=a/\2<=a/\a<=42/\Int.tdiv a 2=q/\1<=q/\q<=21/\q-1+(M:Int)=((nIdx N M:Nat):Int):=by
 have c:N=1∨N=2∨N=3∨N=4∨N=5∨N=6:=by omega
 unfold nIdx
 rcases c with rfl |rfl |rfl |rfl |rfl |rfl
 ·exact⟨2,1,by decide,by decide,by decide,by decide,by decide,by decide,by omega⟩
 ·exact⟨6,3,by decide,by decide,by decide,by decide,by decide,by decide,by omega⟩
 ·exact⟨12,6,by decide,by decide,by decide,by decide,by decide,by decide,by omega⟩
 ·exact⟨20,10,by decide,by decide,by decide,by decide,by decide,by decide,by omega⟩
 ·exact⟨30,15,by decide,by decide,by decide,by decide,by decide,by decide,by omega⟩
 ·exact⟨42,21,by decide,by decide,by decide,by decide,by decide,by decide,by omega⟩
theorem Axv(b:Nat)(bad:Bool)(n m t:Int)(w:World)(hw:Fl b bad w)(hG0:AN 0 (row 54 Eu) w)(hG1:AN 1 (row 10 Gk) w)(hb:1<b)(hz:bad=false):
    Calls Zn 266 #[.pointer (some ⟨b,0,none⟩),.int .i64 n,.int .i64 m,.int .i64 t] w fun e w'=>e=.returned (.tuple #[.int .i64 (KJ bad n m t).1.1,.int .i64 (KJ bad n m t).1.2])/\Fl b (KJ bad n m t).2 w'/\Ad b w w':=by
 subst hz
 by_cases h:Re n m t
 ·obtain⟨n1,n6,m0,mn,t0,t1⟩:=h
  obtain⟨N,rfl⟩:=Int.eq_ofNat_of_zero_le (show 0<=n by omega)
  obtain⟨M,rfl⟩:=Int.eq_ofNat_of_zero_le m0
  have h1:1<=N:=by omega
  have h6:N<=6:=by omega
  have hm:M<=N:=by omega
  obtain⟨a,q,hx,x0,x1,hq,q0,q1,hr⟩:=Axu (M:=M) h1 h6
  obtain⟨hi,hg,hh⟩:=Rc h1 h6 hm
  obtain⟨hy,y0,y1⟩:=Tu t0 t1
  rw[Tv h1 h6 hm t0 t1]
  by_cases h2:N<=2
  ·obtain⟨i5,gy,hhy⟩:=Ab0 h1 h2 hm
   have G:=Apb (m:=M) y0 y1 h2
   have K:=Apc (m:=M) y0 y1 h2
   exact AGc b N M t _ _ _ _ _ _ _ _ _ _ w hw hG0 hG1 hb n1 n6 m0 mn (CZ t0 t1) a q _ hx x0 x1 hq q0 q1 hr hi i5 hg hh (Rb t0 t1) hy gy hhy G.hm K.hm G.ha K.ha
  ·have eg:gS (yearS t) N M=fG N M:=if_neg h2
   have eh:hS (yearS t) N M=fH N M:=if_neg h2
   rw[eg,eh]
   exact AGb b N M t _ _ w hw hG0 hG1 hb n1 n6 m0 mn (CZ t0 t1) a q _ hx x0 x1 hq q0 q1 hr hi (Apa h2 h6 hm) hg hh
 ·rw[Apd h]
  by_cases c1:n<1
  ·exact AGd b n m t w hw c1
  by_cases c2:n>6
  ·exact AGe b n m t w hw c1 c2
  by_cases c3:m<0
  ·exact AGf b n m t w hw c1 c2 c3
  by_cases c4:m>n
  ·exact AGg b n m t w hw c1 c2 c3 c4
  ·exact AGh b n m t w hw c1 c2 c3 c4 (Ec (fun k=>h ⟨by omega,by omega,by omega,by omega,k.1,k.2⟩))
theorem Ap6{k kp kd kq:Nat}{nr:Int}{ro:Nat->Int}{w:World}(A:AN k [.int .i64 nr,.int .i64 (ro 0),.int .i64 (ro 1),.int .i64 (ro 2),.int .i64 (ro 3),.int .i64 (ro 4),.int .i64 (ro 5),.int .i64 (ro 6),.int .i64 (ro 7),.int .i64 (ro 8),.int .i64 (ro 9),.int .i64 (ro 10),.int .i64 (ro 11),.int .i64 (ro 12),.int .i64 (ro 13),.map (some kp),.map (some kd),.map (some kq)] w)(m:Nat)(h:m<7):w.cell? ⟨k,1+m,none⟩=some (.int .i64 (ro m)):=by
 match m,h with
 |0,_=>exact A.c 1 (by decide:1<18)
 |1,_=>exact A.c 2 (by decide:2<18)
 |2,_=>exact A.c 3 (by decide:3<18)
 |3,_=>exact A.c 4 (by decide:4<18)
 |4,_=>exact A.c 5 (by decide:5<18)
 |5,_=>exact A.c 6 (by decide:6<18)
 |6,_=>exact A.c 7 (by decide:7<18)
theorem Ap7{k kp kd kq:Nat}{nr:Int}{ro:Nat->Int}{w:World}(A:AN k [.int .i64 nr,.int .i64 (ro 0),.int .i64 (ro 1),.int .i64 (ro 2),.int .i64 (ro 3),.int .i64 (ro 4),.int .i64 (ro 5),.int .i64 (ro 6),.int .i64 (ro 7),.int .i64 (ro 8),.int .i64 (ro 9),.int .i64 (ro 10),.int .i64 (ro 11),.int .i64 (ro 12),.int .i64 (ro 13),.map (some kp),.map (some kd),.map (some kq)] w)(m:Nat)(h:m<7):w.cell? ⟨k,8+m,none⟩=some (.int .i64 (ro (7+m))):=by
 match m,h with
 |0,_=>exact A.c 8 (by decide:8<18)
 |1,_=>exact A.c 9 (by decide:9<18)
 |2,_=>exact A.c 10 (by decide:10<18)
 |3,_=>exact A.c 11 (by decide:11<18)
 |4,_=>exact A.c 12 (by decide:12<18)
 |5,_=>exact A.c 13 (by decide:13<18)
 |6,_=>exact A.c 14 (by decide:14<18)
theorem Agz(b kp kd kq cp cd cq:Nat)(fp fd fq:Int->Int->Int)(ro tt:Nat->Int)(G H:Nat->Nat->Int)(st:Nat->Nat->V3)(nr t:Int)(w:World)(hw:Fl b false w)(hp:Mp kp cp fp w)(hd:Mp kd cd fd w)(hq:Mp kq cq fq w)(hG0:AN 0 (row 54 Eu) w)(hG1:AN 1 (row 10 Gk) w)(hb:1<b)(d1:b≠kp)(d2:b≠kd)(d3:b≠kq)
    (ht0:mulS false nr nr=(tt 0,false)) (htt:∀k,k<6->mulS false (tt k) nr=(tt (k+1),false)) (hN:∀k m:Nat,k<6->m<k+2->KJ false ((k:Int)+1) (m:Int) t=((G k m,H k m),false)) (hs0:st 0 0=(0,0,0)) (hs:∀k,k<6->st k (k+2)=st (k+1) 0)
    (T_:∀k m:Nat,k<6->m<k+2->V8 ((k:Int)+1) (m:Int) (tt (k+1)) (ro m) (ro (7+m)) (G k m) (H k m) (fp ((k:Int)+1) (m:Int)) (fd ((k:Int)+1) (m:Int)) (fq ((k:Int)+1) (m:Int)) (st k m).1 (st k m).2.1 (st k m).2.2 (st k (m+1)).1 (st k (m+1)).2.1 (st k (m+1)).2.2):
    Calls Zn 221 #[.pointer (some ⟨b,0,none⟩),.agg #[.int .i64 nr,.int .i64 (ro 0),.int .i64 (ro 1),.int .i64 (ro 2),.int .i64 (ro 3),.int .i64 (ro 4),.int .i64 (ro 5),.int .i64 (ro 6),.int .i64 (ro 7),.int .i64 (ro 8),.int .i64 (ro 9),.int .i64 (ro 10),.int .i64 (ro 11),.int .i64 (ro 12),.int .i64 (ro 13),.map (some kp),.map (some kd),.map (some kq)],.int .i64 t] w fun e w'=>e=.returned (.tuple #[.int .i64 (st 6 0).1,.int .i64 (st 6 0).2.1,.int .i64 (st 6 0).2.2])/\Fl b false w'/\Ad b w w':=by
 have hl:=hw.lies
 have l_0:=hG0.lies
 have l_1:=hG1.lies
 have l_p:=hp.lies
 have l_d:=hd.lies
 have l_q:=hq.lies
 go_enter Tryz.func221,Tryz.ntmps221
 have y1_BF:=hw.lies
 have y1_MP:=hp.lies
 have y1_MD:=hd.lies
 have y1_MQ:=hq.lies
 have y1_G0:=hG0.lies
 have y1_G1:=hG1.lies
 go_wp2_with fail
 refine(Aw b false nr nr _ (hw.alloc _)).mono ?_
 rintro e w1 ⟨rfl,f1,k1⟩
 rw[ht0]at f1 ⊢
 dsimp only at f1 ⊢
 have K1:Ad b w w1:=Ad.trans ((Ad.refl b w).al _) k1
 have MP_1:Mp kp cp fp w1:=(hp.alloc _).kept k1 (by omega)
 have MD_1:Mp kd cd fd w1:=(hd.alloc _).kept k1 (by omega)
 have MQ_1:Mp kq cq fq w1:=(hq.alloc _).kept k1 (by omega)
 have G0_1:=(hG0.alloc _).kept k1 (by omega)
 have G1_1:=(hG1.alloc _).kept k1 (by omega)
 have B0_1:=(AH _ w.heap.size [.int .i64 nr,.int .i64 (ro 0),.int .i64 (ro 1),.int .i64 (ro 2),.int .i64 (ro 3),.int .i64 (ro 4),.int .i64 (ro 5),.int .i64 (ro 6),.int .i64 (ro 7),.int .i64 (ro 8),.int .i64 (ro 9),.int .i64 (ro 10),.int .i64 (ro 11),.int .i64 (ro 12),.int .i64 (ro 13),.map (some kp),.map (some kd),.map (some kq)] _ (by simp)).kept k1 (zG y1_BF)
 have z1:=B0_1.lies
 clear hp hd hq hG0 hG1 k1
 go_wp2_with fail
 obtain⟨J0,hJ0⟩:∃J:Nat->Act->World->Prop,Hid (J=fun k a Wl0=>∀G_:Prop,(∀(t0_1 t0_3 t0_5 t0_11 t0_12 t0_13 t0_14 t0_15 t0_16 t0_17 t0_18 t0_19 t0_20 t0_21 t0_22 t0_23 t0_24 t0_25 t0_26 t0_27 t0_28 t0_29 t0_30 t0_31 t0_32 t0_33 t0_34 t0_35 t0_36 t0_37 t0_38 t0_39 t0_40 t0_41 t0_42 t0_43 t0_44 t0_45 t0_46 t0_47 t0_48 t0_49 t0_50 t0_51 t0_52 t0_53 t0_54 t0_55 t0_56 t0_57 t0_58 t0_59 t0_60 t0_61 t0_62 t0_63 t0_64 t0_65 t0_66 t0_67 t0_68 t0_69 t0_70 t0_71 t0_72 t0_73 t0_74 t0_75 t0_76 t0_77 t0_78 t0_79 t0_80 t0_81 t0_82 t0_83 t0_84 t0_85 t0_86 t0_87 t0_88 t0_89 t0_90 t0_91 t0_92 t0_93 t0_94 t0_95 t0_96 t0_97 t0_98 t0_99 t0_100 t0_101 t0_102 t0_103 t0_104 t0_105 t0_106 t0_107 t0_108 t0_109 t0_110 t0_111 t0_112 t0_113 t0_114 t0_115 t0_116 t0_117 t0_118 t0_119 t0_120 t0_121 t0_122 t0_123 t0_124 t0_125 t0_126 t0_127 t0_128 t0_129 t0_130 t0_131:Value),a={tmps:=#[.pointer (some ⟨b,0,none⟩),t0_1,.int .i64 t,t0_3,.pointer (some ⟨w.heap.size,0,none⟩),t0_5,.int .i64 ((st k 0).1),.int .i64 ((st k 0).2.1),.int .i64 ((st k 0).2.2),.int .i64 (tt k),.int .i64 ((k:Int)+1),t0_11,t0_12,t0_13,t0_14,t0_15,t0_16,t0_17,t0_18,t0_19,t0_20,t0_21,t0_22,t0_23,t0_24,t0_25,t0_26,t0_27,t0_28,t0_29,t0_30,t0_31,t0_32,t0_33,t0_34,t0_35,t0_36,t0_37,t0_38,t0_39,t0_40,t0_41,t0_42,t0_43,t0_44,t0_45,t0_46,t0_47,t0_48,t0_49,t0_50,t0_51,t0_52,t0_53,t0_54,t0_55,t0_56,t0_57,t0_58,t0_59,t0_60,t0_61,t0_62,t0_63,t0_64,t0_65,t0_66,t0_67,t0_68,t0_69,t0_70,t0_71,t0_72,t0_73,t0_74,t0_75,t0_76,t0_77,t0_78,t0_79,t0_80,t0_81,t0_82,t0_83,t0_84,t0_85,t0_86,t0_87,t0_88,t0_89,t0_90,t0_91,t0_92,t0_93,t0_94,t0_95,t0_96,t0_97,t0_98,t0_99,t0_100,t0_101,t0_102,t0_103,t0_104,t0_105,t0_106,t0_107,t0_108,t0_109,t0_110,t0_111,t0_112,t0_113,t0_114,t0_115,t0_116,t0_117,t0_118,t0_119,t0_120,t0_121,t0_122,t0_123,t0_124,t0_125,t0_126,t0_127,t0_128,t0_129,t0_130,t0_131],defers:=[]}->Ad b w Wl0->Fl b false Wl0->Mp kp cp fp Wl0->Mp kd cd fd Wl0->Mp kq cq fq Wl0->AN 0 (row 54 Eu) Wl0->AN 1 (row 10 Gk) Wl0->AN w.heap.size [.int .i64 nr,.int .i64 (ro 0),.int .i64 (ro 1),.int .i64 (ro 2),.int .i64 (ro 3),.int .i64 (ro 4),.int .i64 (ro 5),.int .i64 (ro 6),.int .i64 (ro 7),.int .i64 (ro 8),.int .i64 (ro 9),.int .i64 (ro 10),.int .i64 (ro 11),.int .i64 (ro 12),.int .i64 (ro 13),.map (some kp),.map (some kd),.map (some kq)] Wl0->G_)->G_):=⟨_,rfl⟩
 refine BS J0 6 ?_ ?_ ?_
 ·rw[hJ0.out]
  intro G_ hG_
  rw[hs0]at hG_
  exact hG_ _ _ _ _ _ _ _ _ _ _ _ _ _ _ _ _ _ _ _ _ _ _ _ _ _ _ _ _ _ _ _ _ _ _ _ _ _ _ _ _ _ _ _ _ _ _ _ _ _ _ _ _ _ _ _ _ _ _ _ _ _ _ _ _ _ _ _ _ _ _ _ _ _ _ _ _ _ _ _ _ _ _ _ _ _ _ _ _ _ _ _ _ _ _ _ _ _ _ _ _ _ _ _ _ _ _ _ _ _ _ _ _ _ _ _ _ _ _ _ _ _ _ _ _ rfl K1 f1 MP_1 MD_1 MQ_1 G0_1 G1_1 B0_1
 ·intro k a Wl0 hk hI R hR
  rw[hJ0.out]at hI
  refine hI _ ?_
  clear hI
  intro t0_1 t0_3 t0_5 t0_11 t0_12 t0_13 t0_14 t0_15 t0_16 t0_17 t0_18 t0_19 t0_20 t0_21 t0_22 t0_23 t0_24 t0_25 t0_26 t0_27 t0_28 t0_29 t0_30 t0_31 t0_32 t0_33 t0_34 t0_35 t0_36 t0_37 t0_38 t0_39 t0_40 t0_41 t0_42 t0_43 t0_44 t0_45 t0_46 t0_47 t0_48 t0_49 t0_50 t0_51 t0_52 t0_53 t0_54 t0_55 t0_56 t0_57 t0_58 t0_59 t0_60 t0_61 t0_62 t0_63 t0_64 t0_65 t0_66 t0_67 t0_68 t0_69 t0_70 t0_71 t0_72 t0_73 t0_74 t0_75 t0_76 t0_77 t0_78 t0_79 t0_80 t0_81 t0_82 t0_83 t0_84 t0_85 t0_86 t0_87 t0_88 t0_89 t0_90 t0_91 t0_92 t0_93 t0_94 t0_95 t0_96 t0_97 t0_98 t0_99 t0_100 t0_101 t0_102 t0_103 t0_104 t0_105 t0_106 t0_107 t0_108 t0_109 t0_110 t0_111 t0_112 t0_113 t0_114 t0_115 t0_116 t0_117 t0_118 t0_119 t0_120 t0_121 t0_122 t0_123 t0_124 t0_125 t0_126 t0_127 t0_128 t0_129 t0_130 t0_131 ea Kl0 BF_l0 MP_l0 MD_l0 MQ_l0 G0_l0 G1_l0 B0_l0
  subst ea
  have zl0_BF:=BF_l0.lies
  have zl0_MP:=MP_l0.lies
  have zl0_MD:=MD_l0.lies
  have zl0_MQ:=MQ_l0.lies
  have zl0_G0:=G0_l0.lies
  have zl0_G1:=G1_l0.lies
  have zl0_B0:=B0_l0.lies
  have c3_B0_0:Wl0.cell? ⟨w.heap.size,0,none⟩=some (.int .i64 nr):=B0_l0.c 0 (zD rfl)
  go_wp2_with fail
  refine(Aw b false (tt k) nr _ BF_l0).mono ?_
  rintro e w2 ⟨rfl,f2,k2⟩
  rw[(htt k hk)]at f2 ⊢
  dsimp only at f2 ⊢
  have K2:Ad b w w2:=Ad.trans Kl0 k2
  have MP_2:Mp kp cp fp w2:=MP_l0.kept k2 (by omega)
  have MD_2:Mp kd cd fd w2:=MD_l0.kept k2 (by omega)
  have MQ_2:Mp kq cq fq w2:=MQ_l0.kept k2 (by omega)
  have G0_2:=G0_l0.kept k2 (by omega)
  have G1_2:=G1_l0.kept k2 (by omega)
  have B0_2:=B0_l0.kept k2 (zG y1_BF)
  have z2:=B0_2.lies
  clear c3_B0_0 BF_l0 MP_l0 MD_l0 MQ_l0 G0_l0 G1_l0 B0_l0 k2
  go_wp2_with fail
  obtain⟨J1,hJ1⟩:∃J:Nat->Act->World->Prop,Hid (J=fun m a Wl1=>∀G_:Prop,(∀(t1_1 t1_3 t1_5 t1_12 t1_13 t1_14 t1_15 t1_16 t1_17 t1_18 t1_19 t1_20 t1_21 t1_22 t1_23 t1_24 t1_25 t1_26 t1_27 t1_28 t1_29 t1_30 t1_31 t1_32 t1_33 t1_34 t1_35 t1_36 t1_37 t1_38 t1_39 t1_40 t1_41 t1_42 t1_43 t1_44 t1_45 t1_46 t1_47 t1_48 t1_49 t1_50 t1_51 t1_52 t1_53 t1_54 t1_55 t1_56 t1_57 t1_58 t1_59 t1_60 t1_61 t1_62 t1_63 t1_64 t1_65 t1_66 t1_67 t1_68 t1_69 t1_70 t1_71 t1_72 t1_73 t1_74 t1_75 t1_76 t1_77 t1_78 t1_79 t1_80 t1_81 t1_82 t1_83 t1_84 t1_85 t1_86 t1_87 t1_88 t1_89 t1_90 t1_91 t1_92 t1_93 t1_94 t1_95 t1_96 t1_97 t1_98 t1_99 t1_100 t1_101 t1_102 t1_103 t1_104 t1_105 t1_106 t1_107 t1_108 t1_109 t1_110 t1_111 t1_112 t1_113 t1_114 t1_115 t1_116 t1_117 t1_118 t1_119 t1_120 t1_121 t1_122 t1_123 t1_124 t1_125 t1_126 t1_127 t1_128 t1_129 t1_130 t1_131:Value),a={tmps:=#[.pointer (some ⟨b,0,none⟩),t1_1,.int .i64 t,t1_3,.pointer (some ⟨w.heap.size,0,none⟩),t1_5,.int .i64 ((st k m).1),.int .i64 ((st k m).2.1),.int .i64 ((st k m).2.2),.int .i64 (tt (k+1)),.int .i64 ((k:Int)+1),.int .i64 (m:Int),t1_12,t1_13,t1_14,t1_15,t1_16,t1_17,t1_18,t1_19,t1_20,t1_21,t1_22,t1_23,t1_24,t1_25,t1_26,t1_27,t1_28,t1_29,t1_30,t1_31,t1_32,t1_33,t1_34,t1_35,t1_36,t1_37,t1_38,t1_39,t1_40,t1_41,t1_42,t1_43,t1_44,t1_45,t1_46,t1_47,t1_48,t1_49,t1_50,t1_51,t1_52,t1_53,t1_54,t1_55,t1_56,t1_57,t1_58,t1_59,t1_60,t1_61,t1_62,t1_63,t1_64,t1_65,t1_66,t1_67,t1_68,t1_69,t1_70,t1_71,t1_72,t1_73,t1_74,t1_75,t1_76,t1_77,t1_78,t1_79,t1_80,t1_81,t1_82,t1_83,t1_84,t1_85,t1_86,t1_87,t1_88,t1_89,t1_90,t1_91,t1_92,t1_93,t1_94,t1_95,t1_96,t1_97,t1_98,t1_99,t1_100,t1_101,t1_102,t1_103,t1_104,t1_105,t1_106,t1_107,t1_108,t1_109,t1_110,t1_111,t1_112,t1_113,t1_114,t1_115,t1_116,t1_117,t1_118,t1_119,t1_120,t1_121,t1_122,t1_123,t1_124,t1_125,t1_126,t1_127,t1_128,t1_129,t1_130,t1_131],defers:=[]}->Ad b w Wl1->Fl b false Wl1->Mp kp cp fp Wl1->Mp kd cd fd Wl1->Mp kq cq fq Wl1->AN 0 (row 54 Eu) Wl1->AN 1 (row 10 Gk) Wl1->AN w.heap.size [.int .i64 nr,.int .i64 (ro 0),.int .i64 (ro 1),.int .i64 (ro 2),.int .i64 (ro 3),.int .i64 (ro 4),.int .i64 (ro 5),.int .i64 (ro 6),.int .i64 (ro 7),.int .i64 (ro 8),.int .i64 (ro 9),.int .i64 (ro 10),.int .i64 (ro 11),.int .i64 (ro 12),.int .i64 (ro 13),.map (some kp),.map (some kd),.map (some kq)] Wl1->G_)->G_):=⟨_,rfl⟩
  refine BS J1 (k+2) ?_ ?_ ?_
  ·rw[hJ1.out]
   intro G_ hG_
   exact hG_ _ _ _ _ _ _ _ _ _ _ _ _ _ _ _ _ _ _ _ _ _ _ _ _ _ _ _ _ _ _ _ _ _ _ _ _ _ _ _ _ _ _ _ _ _ _ _ _ _ _ _ _ _ _ _ _ _ _ _ _ _ _ _ _ _ _ _ _ _ _ _ _ _ _ _ _ _ _ _ _ _ _ _ _ _ _ _ _ _ _ _ _ _ _ _ _ _ _ _ _ _ _ _ _ _ _ _ _ _ _ _ _ _ _ _ _ _ _ _ _ _ _ _ rfl K2 f2 MP_2 MD_2 MQ_2 G0_2 G1_2 B0_2
  ·intro m a Wl1 hm hI R hR
   rw[hJ1.out]at hI
   refine hI _ ?_
   clear hI
   intro t1_1 t1_3 t1_5 t1_12 t1_13 t1_14 t1_15 t1_16 t1_17 t1_18 t1_19 t1_20 t1_21 t1_22 t1_23 t1_24 t1_25 t1_26 t1_27 t1_28 t1_29 t1_30 t1_31 t1_32 t1_33 t1_34 t1_35 t1_36 t1_37 t1_38 t1_39 t1_40 t1_41 t1_42 t1_43 t1_44 t1_45 t1_46 t1_47 t1_48 t1_49 t1_50 t1_51 t1_52 t1_53 t1_54 t1_55 t1_56 t1_57 t1_58 t1_59 t1_60 t1_61 t1_62 t1_63 t1_64 t1_65 t1_66 t1_67 t1_68 t1_69 t1_70 t1_71 t1_72 t1_73 t1_74 t1_75 t1_76 t1_77 t1_78 t1_79 t1_80 t1_81 t1_82 t1_83 t1_84 t1_85 t1_86 t1_87 t1_88 t1_89 t1_90 t1_91 t1_92 t1_93 t1_94 t1_95 t1_96 t1_97 t1_98 t1_99 t1_100 t1_101 t1_102 t1_103 t1_104 t1_105 t1_106 t1_107 t1_108 t1_109 t1_110 t1_111 t1_112 t1_113 t1_114 t1_115 t1_116 t1_117 t1_118 t1_119 t1_120 t1_121 t1_122 t1_123 t1_124 t1_125 t1_126 t1_127 t1_128 t1_129 t1_130 t1_131 ea Kl1 BF_l1 MP_l1 MD_l1 MQ_l1 G0_l1 G1_l1 B0_l1
   subst ea
   have zl1_BF:=BF_l1.lies
   have zl1_MP:=MP_l1.lies
   have zl1_MD:=MD_l1.lies
   have zl1_MQ:=MQ_l1.lies
   have zl1_G0:=G0_l1.lies
   have zl1_G1:=G1_l1.lies
   have zl1_B0:=B0_l1.lies
   have T:=T_ k m hk hm
   go_wp2_with fail
   refine(Axv b false ((k:Int)+1) (m:Int) t _ BF_l1 G0_l1 G1_l1 (by omega) rfl).mono ?_
   rintro e w3 ⟨rfl,f3,k3⟩
   rw[(hN k m hk hm)]at f3 ⊢
   dsimp only at f3 ⊢
   have K3:Ad b w w3:=Ad.trans Kl1 k3
   have MP_3:Mp kp cp fp w3:=MP_l1.kept k3 (by omega)
   have MD_3:Mp kd cd fd w3:=MD_l1.kept k3 (by omega)
   have MQ_3:Mp kq cq fq w3:=MQ_l1.kept k3 (by omega)
   have G0_3:=G0_l1.kept k3 (by omega)
   have G1_3:=G1_l1.kept k3 (by omega)
   have B0_3:=B0_l1.kept k3 (zG y1_BF)
   have z3:=B0_3.lies
   clear BF_l1 MP_l1 MD_l1 MQ_l1 G0_l1 G1_l1 B0_l1 k3
   go_wp2_with fail
   refine wp_region_held_drew (S:=fun w'=>AN w.heap.size [.int .i64 nr,.int .i64 (ro 0),.int .i64 (ro 1),.int .i64 (ro 2),.int .i64 (ro 3),.int .i64 (ro 4),.int .i64 (ro 5),.int .i64 (ro 6),.int .i64 (ro 7),.int .i64 (ro 8),.int .i64 (ro 9),.int .i64 (ro 10),.int .i64 (ro 11),.int .i64 (ro 12),.int .i64 (ro 13),.map (some kp),.map (some kd),.map (some kq)] w') (by kernel_rfl) B0_3.drew (fun zH=>?_)
   refine zT 0 rfl (by kernel_rfl) (fun _ _ _=>id) rfl (fun _ _=>by go_simp<;>with_reducible rfl) zH ?_
   simp only[Act.put,zA,zB,zC]
   refine zT 1 rfl (by kernel_rfl) (fun _ _ _=>id) rfl (fun _ _=>by go_simp<;>with_reducible rfl) zH ?_
   simp only[Act.put,zA,zB,zC]
   refine zT 2 rfl (by kernel_rfl) (fun _ _ _=>id) rfl (fun _ _=>by go_simp<;>with_reducible rfl) zH ?_
   simp only[Act.put,zA,zB,zC]
   refine zT 3 rfl (by kernel_rfl) (fun _ _ _=>id) rfl (fun _ _=>by have hi0:(m:Int)<7:=(by omega);go_simp<;>with_reducible rfl) zH ?_
   simp only[Act.put,zA,zB,zC]
   refine zT 4 rfl (by kernel_rfl) (fun _ _ _=>id) rfl (fun wx hS=>by have hc0:wx.cell? ⟨w.heap.size,1+m,none⟩=some (.int .i64 (ro m)):=Ap6 hS m (by omega);go_simp<;>with_reducible rfl) zH ?_
   simp only[Act.put,zA,zB,zC]
   refine zT 5 rfl (by kernel_rfl) (fun _ _ _=>id) rfl (fun _ _=>by go_simp<;>with_reducible rfl) zH ?_
   simp only[Act.put,zA,zB,zC]
   refine zT 6 rfl (by kernel_rfl) (fun _ _ _=>id) rfl (fun _ _=>by go_simp<;>with_reducible rfl) zH ?_
   simp only[Act.put,zA,zB,zC]
   refine zT 7 rfl (by kernel_rfl) (fun _ _ _=>id) rfl (fun _ _=>by go_simp<;>with_reducible rfl) zH ?_
   simp only[Act.put,zA,zB,zC]
   refine zT 8 rfl (by kernel_rfl) (fun _ _ _=>id) rfl (fun _ _=>by have hi0:(m:Int)<7:=(by omega);go_simp<;>with_reducible rfl) zH ?_
   simp only[Act.put,zA,zB,zC]
   refine zT 9 rfl (by kernel_rfl) (fun _ _ _=>id) rfl (fun wx hS=>by have hc0:wx.cell? ⟨w.heap.size,8+m,none⟩=some (.int .i64 (ro (7+m))):=Ap7 hS m (by omega);go_simp<;>with_reducible rfl) zH ?_
   simp only[Act.put,zA,zB,zC]
   refine zT 10 rfl (by kernel_rfl) (fun _ _ _=>id) rfl (fun _ _=>by go_simp<;>with_reducible rfl) zH ?_
   simp only[Act.put,zA,zB,zC]
   refine zT 11 rfl (by kernel_rfl) (fun _ _ _=>id) rfl (fun _ _=>by go_simp<;>with_reducible rfl) zH ?_
   simp only[Act.put,zA,zB,zC]
   refine wpAnyH_done (by kernel_rfl) ?_ _
   clear zH
   go_wp2_with fail
   refine(Aw b false (G k m) (ro m) _ f3.drew).mono ?_
   rintro e w4 ⟨rfl,f4,k4⟩
   rw[T.h1]at f4 ⊢
   dsimp only at f4 ⊢
   have K4:Ad b w w4:=Ad.trans K3.drew k4
   have MP_4:Mp kp cp fp w4:=MP_3.drew.kept k4 (by omega)
   have MD_4:Mp kd cd fd w4:=MD_3.drew.kept k4 (by omega)
   have MQ_4:Mp kq cq fq w4:=MQ_3.drew.kept k4 (by omega)
   have G0_4:=G0_3.drew.kept k4 (by omega)
   have G1_4:=G1_3.drew.kept k4 (by omega)
   have B0_4:=B0_3.drew.kept k4 (zG y1_BF)
   have z4:=B0_4.lies
   clear K3 f3 MP_3 MD_3 MQ_3 G0_3 G1_3 B0_3 k4
   go_wp2_with fail
   refine(Aw b false (H k m) (ro (7+m)) _ f4).mono ?_
   rintro e w5 ⟨rfl,f5,k5⟩
   rw[T.h2]at f5 ⊢
   dsimp only at f5 ⊢
   have K5:=Ad.trans K4 k5
   have MP_5:Mp kp cp fp w5:=MP_4.kept k5 (by omega)
   have MD_5:Mp kd cd fd w5:=MD_4.kept k5 (by omega)
   have MQ_5:Mp kq cq fq w5:=MQ_4.kept k5 (by omega)
   have G0_5:=G0_4.kept k5 (by omega)
   have G1_5:=G1_4.kept k5 (by omega)
   have B0_5:=B0_4.kept k5 (zG y1_BF)
   have z5:=B0_5.lies
   clear K4 f4 MP_4 MD_4 MQ_4 G0_4 G1_4 B0_4 k5
   go_wp2_with fail
   refine(DJ b false T.v1 T.v2 _ f5).mono ?_
   rintro e w6 ⟨rfl,f6,k6⟩
   rw[T.h3]at f6 ⊢
   dsimp only at f6 ⊢
   have K6:=Ad.trans K5 k6
   have MP_6:Mp kp cp fp w6:=MP_5.kept k6 (by omega)
   have MD_6:Mp kd cd fd w6:=MD_5.kept k6 (by omega)
   have MQ_6:Mp kq cq fq w6:=MQ_5.kept k6 (by omega)
   have G0_6:=G0_5.kept k6 (by omega)
   have G1_6:=G1_5.kept k6 (by omega)
   have B0_6:=B0_5.kept k6 (zG y1_BF)
   have z6:=B0_6.lies
   clear K5 f5 MP_5 MD_5 MQ_5 G0_5 G1_5 B0_5 k6
   go_wp2_with fail
   refine(Aw b false (G k m) (ro (7+m)) _ f6).mono ?_
   rintro e w7 ⟨rfl,f7,k7⟩
   rw[T.h4]at f7 ⊢
   dsimp only at f7 ⊢
   have K7:=Ad.trans K6 k7
   have MP_7:Mp kp cp fp w7:=MP_6.kept k7 (by omega)
   have MD_7:Mp kd cd fd w7:=MD_6.kept k7 (by omega)
   have MQ_7:Mp kq cq fq w7:=MQ_6.kept k7 (by omega)
   have G0_7:=G0_6.kept k7 (by omega)
   have G1_7:=G1_6.kept k7 (by omega)
   have B0_7:=B0_6.kept k7 (zG y1_BF)
   have z7:=B0_7.lies
   clear K6 f6 MP_6 MD_6 MQ_6 G0_6 G1_6 B0_6 k7
   go_wp2_with fail
   refine(Aw b false (H k m) (ro m) _ f7).mono ?_
   rintro e w8 ⟨rfl,f8,k8⟩
   rw[T.h5]at f8 ⊢
   dsimp only at f8 ⊢
   have K8:=Ad.trans K7 k8
   have MP_8:Mp kp cp fp w8:=MP_7.kept k8 (by omega)
   have MD_8:Mp kd cd fd w8:=MD_7.kept k8 (by omega)
   have MQ_8:Mp kq cq fq w8:=MQ_7.kept k8 (by omega)
   have G0_8:=G0_7.kept k8 (by omega)
   have G1_8:=G1_7.kept k8 (by omega)
   have B0_8:=B0_7.kept k8 (zG y1_BF)
   have z8:=B0_8.lies
   clear K7 f7 MP_7 MD_7 MQ_7 G0_7 G1_7 B0_7 k8
   go_wp2_with fail
   refine(Eg b false T.v4 T.v5 _ f8).mono ?_
   rintro e w9 ⟨rfl,f9,k9⟩
   rw[T.h6]at f9 ⊢
   dsimp only at f9 ⊢
   have K9:=Ad.trans K8 k9
   have MP_9:Mp kp cp fp w9:=MP_8.kept k9 (by omega)
   have MD_9:Mp kd cd fd w9:=MD_8.kept k9 (by omega)
   have MQ_9:Mp kq cq fq w9:=MQ_8.kept k9 (by omega)
   have G0_9:=G0_8.kept k9 (by omega)
   have G1_9:=G1_8.kept k9 (by omega)
   have B0_9:=B0_8.kept k9 (zG y1_BF)
   have z9:=B0_9.lies
   clear K8 f8 MP_8 MD_8 MQ_8 G0_8 G1_8 B0_8 k9
   have y2_BF:=f9.lies
   have y2_MP:=MP_9.lies
   have y2_MD:=MD_9.lies
   have y2_MQ:=MQ_9.lies
   have y2_G0:=G0_9.lies
   have y2_G1:=G1_9.lies
   have y2_B0:=B0_9.lies
   have c13_B0_15:w9.cell? ⟨w.heap.size,15,none⟩=some (.map (some kp)):=B0_9.c 15 (zD rfl)
   have l13_B0:=B0_9.lies
   go_wp2_with (refine Ti rfl rfl rfl rfl (MP_9.alloc _) ⟨by omega,by omega⟩ ⟨by omega,by omega⟩ ?_)
   refine(Aw b false T.e (fp ((k:Int)+1) (m:Int)) _ (f9.alloc _)).mono ?_
   rintro e w10 ⟨rfl,f10,k10⟩
   rw[T.i1]at f10 ⊢
   dsimp only at f10 ⊢
   have K10:Ad b w w10:=Ad.trans (K9.al _) k10
   have MP_10:Mp kp cp fp w10:=(MP_9.alloc _).kept k10 (by omega)
   have MD_10:Mp kd cd fd w10:=(MD_9.alloc _).kept k10 (by omega)
   have MQ_10:Mp kq cq fq w10:=(MQ_9.alloc _).kept k10 (by omega)
   have G0_10:=(G0_9.alloc _).kept k10 (by omega)
   have G1_10:=(G1_9.alloc _).kept k10 (by omega)
   have B0_10:=(B0_9.alloc _).kept k10 (zG y1_BF)
   have B1_10:=(AH _ w9.heap.size [.int .i64 ((k:Int)+1),.int .i64 (m:Int)] _ (by simp)).kept k10 (zG y2_BF)
   have z10:=B1_10.lies
   clear c13_B0_15 l13_B0 K9 f9 MP_9 MD_9 MQ_9 G0_9 G1_9 B0_9 k10
   go_wp2_with fail
   refine(Aw b false (tt (k+1)) T.y1 _ f10).mono ?_
   rintro e w11 ⟨rfl,f11,k11⟩
   rw[T.j1]at f11 ⊢
   dsimp only at f11 ⊢
   have K11:=Ad.trans K10 k11
   have MP_11:Mp kp cp fp w11:=MP_10.kept k11 (by omega)
   have MD_11:Mp kd cd fd w11:=MD_10.kept k11 (by omega)
   have MQ_11:Mp kq cq fq w11:=MQ_10.kept k11 (by omega)
   have G0_11:=G0_10.kept k11 (by omega)
   have G1_11:=G1_10.kept k11 (by omega)
   have B0_11:=B0_10.kept k11 (zG y1_BF)
   have B1_11:=B1_10.kept k11 (zG y2_BF)
   have z11:=B1_11.lies
   clear K10 f10 MP_10 MD_10 MQ_10 G0_10 G1_10 B0_10 B1_10 k11
   go_wp2_with fail
   refine(CF b false T.z1 (((k:Int)+1)+1) 1 _ f11).mono ?_
   rintro e w12 ⟨rfl,f12,k12⟩
   rw[T.q1]at f12 ⊢
   dsimp only at f12 ⊢
   have K12:=Ad.trans K11 k12
   have MP_12:Mp kp cp fp w12:=MP_11.kept k12 (by omega)
   have MD_12:Mp kd cd fd w12:=MD_11.kept k12 (by omega)
   have MQ_12:Mp kq cq fq w12:=MQ_11.kept k12 (by omega)
   have G0_12:=G0_11.kept k12 (by omega)
   have G1_12:=G1_11.kept k12 (by omega)
   have B0_12:=B0_11.kept k12 (zG y1_BF)
   have B1_12:=B1_11.kept k12 (zG y2_BF)
   have z12:=B1_12.lies
   clear K11 f11 MP_11 MD_11 MQ_11 G0_11 G1_11 B0_11 B1_11 k12
   go_wp2_with fail
   refine(DJ b false ((st k m).1) T.p1 _ f12).mono ?_
   rintro e w13 ⟨rfl,f13,k13⟩
   rw[T.a1]at f13 ⊢
   dsimp only at f13 ⊢
   have K13:=Ad.trans K12 k13
   have MP_13:Mp kp cp fp w13:=MP_12.kept k13 (by omega)
   have MD_13:Mp kd cd fd w13:=MD_12.kept k13 (by omega)
   have MQ_13:Mp kq cq fq w13:=MQ_12.kept k13 (by omega)
   have G0_13:=G0_12.kept k13 (by omega)
   have G1_13:=G1_12.kept k13 (by omega)
   have B0_13:=B0_12.kept k13 (zG y1_BF)
   have B1_13:=B1_12.kept k13 (zG y2_BF)
   have z13:=B1_13.lies
   clear K12 f12 MP_12 MD_12 MQ_12 G0_12 G1_12 B0_12 B1_12 k13
   have c17_B0_16:w13.cell? ⟨w.heap.size,16,none⟩=some (.map (some kd)):=B0_13.c 16 (zD rfl)
   have c17_B1_0:w13.cell? ⟨w9.heap.size,0,none⟩=some (.int .i64 ((k:Int)+1)):=B1_13.c 0 (zD rfl)
   have c17_B1_1:w13.cell? ⟨w9.heap.size,1,none⟩=some (.int .i64 (m:Int)):=B1_13.c 1 (zD rfl)
   go_wp2_with (refine Ti rfl rfl rfl rfl MD_13 ⟨by omega,by omega⟩ ⟨by omega,by omega⟩ ?_)
   refine(Aw b false T.e (fd ((k:Int)+1) (m:Int)) _ f13).mono ?_
   rintro e w14 ⟨rfl,f14,k14⟩
   rw[T.i2]at f14 ⊢
   dsimp only at f14 ⊢
   have K14:=Ad.trans K13 k14
   have MP_14:Mp kp cp fp w14:=MP_13.kept k14 (by omega)
   have MD_14:Mp kd cd fd w14:=MD_13.kept k14 (by omega)
   have MQ_14:Mp kq cq fq w14:=MQ_13.kept k14 (by omega)
   have G0_14:=G0_13.kept k14 (by omega)
   have G1_14:=G1_13.kept k14 (by omega)
   have B0_14:=B0_13.kept k14 (zG y1_BF)
   have B1_14:=B1_13.kept k14 (zG y2_BF)
   have z14:=B1_14.lies
   clear c17_B0_16 c17_B1_0 c17_B1_1 K13 f13 MP_13 MD_13 MQ_13 G0_13 G1_13 B0_13 B1_13 k14
   go_wp2_with fail
   refine(Aw b false (tt (k+1)) T.y2 _ f14).mono ?_
   rintro e w15 ⟨rfl,f15,k15⟩
   rw[T.j2]at f15 ⊢
   dsimp only at f15 ⊢
   have K15:=Ad.trans K14 k15
   have MP_15:Mp kp cp fp w15:=MP_14.kept k15 (by omega)
   have MD_15:Mp kd cd fd w15:=MD_14.kept k15 (by omega)
   have MQ_15:Mp kq cq fq w15:=MQ_14.kept k15 (by omega)
   have G0_15:=G0_14.kept k15 (by omega)
   have G1_15:=G1_14.kept k15 (by omega)
   have B0_15:=B0_14.kept k15 (zG y1_BF)
   have B1_15:=B1_14.kept k15 (zG y2_BF)
   have z15:=B1_15.lies
   clear K14 f14 MP_14 MD_14 MQ_14 G0_14 G1_14 B0_14 B1_14 k15
   go_wp2_with fail
   refine(Eg b false ((st k m).2.1) T.z2 _ f15).mono ?_
   rintro e w16 ⟨rfl,f16,k16⟩
   rw[T.a2]at f16 ⊢
   dsimp only at f16 ⊢
   have K16:=Ad.trans K15 k16
   have MP_16:Mp kp cp fp w16:=MP_15.kept k16 (by omega)
   have MD_16:Mp kd cd fd w16:=MD_15.kept k16 (by omega)
   have MQ_16:Mp kq cq fq w16:=MQ_15.kept k16 (by omega)
   have G0_16:=G0_15.kept k16 (by omega)
   have G1_16:=G1_15.kept k16 (by omega)
   have B0_16:=B0_15.kept k16 (zG y1_BF)
   have B1_16:=B1_15.kept k16 (zG y2_BF)
   have z16:=B1_16.lies
   clear K15 f15 MP_15 MD_15 MQ_15 G0_15 G1_15 B0_15 B1_15 k16
   have c20_B0_17:w16.cell? ⟨w.heap.size,17,none⟩=some (.map (some kq)):=B0_16.c 17 (zD rfl)
   have c20_B1_0:w16.cell? ⟨w9.heap.size,0,none⟩=some (.int .i64 ((k:Int)+1)):=B1_16.c 0 (zD rfl)
   have c20_B1_1:w16.cell? ⟨w9.heap.size,1,none⟩=some (.int .i64 (m:Int)):=B1_16.c 1 (zD rfl)
   go_wp2_with (refine Ti rfl rfl rfl rfl MQ_16 ⟨by omega,by omega⟩ ⟨by omega,by omega⟩ ?_)
   refine(Aw b false T.o (fq ((k:Int)+1) (m:Int)) _ f16).mono ?_
   rintro e w17 ⟨rfl,f17,k17⟩
   rw[T.i3]at f17 ⊢
   dsimp only at f17 ⊢
   have K17:=Ad.trans K16 k17
   have MP_17:Mp kp cp fp w17:=MP_16.kept k17 (by omega)
   have MD_17:Mp kd cd fd w17:=MD_16.kept k17 (by omega)
   have MQ_17:Mp kq cq fq w17:=MQ_16.kept k17 (by omega)
   have G0_17:=G0_16.kept k17 (by omega)
   have G1_17:=G1_16.kept k17 (by omega)
   have B0_17:=B0_16.kept k17 (zG y1_BF)
   have B1_17:=B1_16.kept k17 (zG y2_BF)
   have z17:=B1_17.lies
   clear c20_B0_17 c20_B1_0 c20_B1_1 K16 f16 MP_16 MD_16 MQ_16 G0_16 G1_16 B0_16 B1_16 k17
   go_wp2_with fail
   refine(Aw b false (tt (k+1)) T.y3 _ f17).mono ?_
   rintro e w18 ⟨rfl,f18,k18⟩
   rw[T.j3]at f18 ⊢
   dsimp only at f18 ⊢
   have K18:=Ad.trans K17 k18
   have MP_18:Mp kp cp fp w18:=MP_17.kept k18 (by omega)
   have MD_18:Mp kd cd fd w18:=MD_17.kept k18 (by omega)
   have MQ_18:Mp kq cq fq w18:=MQ_17.kept k18 (by omega)
   have G0_18:=G0_17.kept k18 (by omega)
   have G1_18:=G1_17.kept k18 (by omega)
   have B0_18:=B0_17.kept k18 (zG y1_BF)
   have B1_18:=B1_17.kept k18 (zG y2_BF)
   have z18:=B1_18.lies
   clear K17 f17 MP_17 MD_17 MQ_17 G0_17 G1_17 B0_17 B1_17 k18
   go_wp2_with fail
   refine(CF b false T.z3 (m:Int) 1 _ f18).mono ?_
   rintro e w19 ⟨rfl,f19,k19⟩
   rw[T.q3]at f19 ⊢
   dsimp only at f19 ⊢
   have K19:=Ad.trans K18 k19
   have MP_19:Mp kp cp fp w19:=MP_18.kept k19 (by omega)
   have MD_19:Mp kd cd fd w19:=MD_18.kept k19 (by omega)
   have MQ_19:Mp kq cq fq w19:=MQ_18.kept k19 (by omega)
   have G0_19:=G0_18.kept k19 (by omega)
   have G1_19:=G1_18.kept k19 (by omega)
   have B0_19:=B0_18.kept k19 (zG y1_BF)
   have B1_19:=B1_18.kept k19 (zG y2_BF)
   have z19:=B1_19.lies
   clear K18 f18 MP_18 MD_18 MQ_18 G0_18 G1_18 B0_18 B1_18 k19
   go_wp2_with fail
   refine(DJ b false ((st k m).2.2) T.p3 _ f19).mono ?_
   rintro e w20 ⟨rfl,f20,k20⟩
   rw[T.a3]at f20 ⊢
   dsimp only at f20 ⊢
   have K20:=Ad.trans K19 k20
   have MP_20:Mp kp cp fp w20:=MP_19.kept k20 (by omega)
   have MD_20:Mp kd cd fd w20:=MD_19.kept k20 (by omega)
   have MQ_20:Mp kq cq fq w20:=MQ_19.kept k20 (by omega)
   have G0_20:=G0_19.kept k20 (by omega)
   have G1_20:=G1_19.kept k20 (by omega)
   have B0_20:=B0_19.kept k20 (zG y1_BF)
   have B1_20:=B1_19.kept k20 (zG y2_BF)
   have z20:=B1_20.lies
   clear K19 f19 MP_19 MD_19 MQ_19 G0_19 G1_19 B0_19 B1_19 k20
   go_wp2_with fail
   rw[hJ1.out]
   intro G_ hG_
   exact hG_ _ _ _ _ _ _ _ _ _ _ _ _ _ _ _ _ _ _ _ _ _ _ _ _ _ _ _ _ _ _ _ _ _ _ _ _ _ _ _ _ _ _ _ _ _ _ _ _ _ _ _ _ _ _ _ _ _ _ _ _ _ _ _ _ _ _ _ _ _ _ _ _ _ _ _ _ _ _ _ _ _ _ _ _ _ _ _ _ _ _ _ _ _ _ _ _ _ _ _ _ _ _ _ _ _ _ _ _ _ _ _ _ _ _ _ _ _ _ _ _ _ _ _ rfl K20 f20 MP_20 MD_20 MQ_20 G0_20 G1_20 B0_20
  ·intro a Wl1 hI R
   rw[hJ1.out]at hI
   refine hI _ ?_
   clear hI hJ1
   intro t1_1 t1_3 t1_5 t1_12 t1_13 t1_14 t1_15 t1_16 t1_17 t1_18 t1_19 t1_20 t1_21 t1_22 t1_23 t1_24 t1_25 t1_26 t1_27 t1_28 t1_29 t1_30 t1_31 t1_32 t1_33 t1_34 t1_35 t1_36 t1_37 t1_38 t1_39 t1_40 t1_41 t1_42 t1_43 t1_44 t1_45 t1_46 t1_47 t1_48 t1_49 t1_50 t1_51 t1_52 t1_53 t1_54 t1_55 t1_56 t1_57 t1_58 t1_59 t1_60 t1_61 t1_62 t1_63 t1_64 t1_65 t1_66 t1_67 t1_68 t1_69 t1_70 t1_71 t1_72 t1_73 t1_74 t1_75 t1_76 t1_77 t1_78 t1_79 t1_80 t1_81 t1_82 t1_83 t1_84 t1_85 t1_86 t1_87 t1_88 t1_89 t1_90 t1_91 t1_92 t1_93 t1_94 t1_95 t1_96 t1_97 t1_98 t1_99 t1_100 t1_101 t1_102 t1_103 t1_104 t1_105 t1_106 t1_107 t1_108 t1_109 t1_110 t1_111 t1_112 t1_113 t1_114 t1_115 t1_116 t1_117 t1_118 t1_119 t1_120 t1_121 t1_122 t1_123 t1_124 t1_125 t1_126 t1_127 t1_128 t1_129 t1_130 t1_131 ea Kl1 BF_l1 MP_l1 MD_l1 MQ_l1 G0_l1 G1_l1 B0_l1
   subst ea
   have zl1_BF:=BF_l1.lies
   have zl1_MP:=MP_l1.lies
   have zl1_MD:=MD_l1.lies
   have zl1_MQ:=MQ_l1.lies
   have zl1_G0:=G0_l1.lies
   have zl1_G1:=G1_l1.lies
   have zl1_B0:=B0_l1.lies
   go_wp2_with fail
   rw[hJ0.out]
   intro G_ hG_
   exact hG_ _ _ _ _ _ _ _ _ _ _ _ _ _ _ _ _ _ _ _ _ _ _ _ _ _ _ _ _ _ _ _ _ _ _ _ _ _ _ _ _ _ _ _ _ _ _ _ _ _ _ _ _ _ _ _ _ _ _ _ _ _ _ _ _ _ _ _ _ _ _ _ _ _ _ _ _ _ _ _ _ _ _ _ _ _ _ _ _ _ _ _ _ _ _ _ _ _ _ _ _ _ _ _ _ _ _ _ _ _ _ _ _ _ _ _ _ _ _ _ _ _ _ _ _ rfl Kl1 BF_l1 MP_l1 MD_l1 MQ_l1 G0_l1 G1_l1 B0_l1
 ·intro a Wl0 hI R
  rw[hJ0.out]at hI
  refine hI _ ?_
  clear hI hJ0
  intro t0_1 t0_3 t0_5 t0_11 t0_12 t0_13 t0_14 t0_15 t0_16 t0_17 t0_18 t0_19 t0_20 t0_21 t0_22 t0_23 t0_24 t0_25 t0_26 t0_27 t0_28 t0_29 t0_30 t0_31 t0_32 t0_33 t0_34 t0_35 t0_36 t0_37 t0_38 t0_39 t0_40 t0_41 t0_42 t0_43 t0_44 t0_45 t0_46 t0_47 t0_48 t0_49 t0_50 t0_51 t0_52 t0_53 t0_54 t0_55 t0_56 t0_57 t0_58 t0_59 t0_60 t0_61 t0_62 t0_63 t0_64 t0_65 t0_66 t0_67 t0_68 t0_69 t0_70 t0_71 t0_72 t0_73 t0_74 t0_75 t0_76 t0_77 t0_78 t0_79 t0_80 t0_81 t0_82 t0_83 t0_84 t0_85 t0_86 t0_87 t0_88 t0_89 t0_90 t0_91 t0_92 t0_93 t0_94 t0_95 t0_96 t0_97 t0_98 t0_99 t0_100 t0_101 t0_102 t0_103 t0_104 t0_105 t0_106 t0_107 t0_108 t0_109 t0_110 t0_111 t0_112 t0_113 t0_114 t0_115 t0_116 t0_117 t0_118 t0_119 t0_120 t0_121 t0_122 t0_123 t0_124 t0_125 t0_126 t0_127 t0_128 t0_129 t0_130 t0_131 ea Kl0 BF_l0 MP_l0 MD_l0 MQ_l0 G0_l0 G1_l0 B0_l0
  subst ea
  have zl0_BF:=BF_l0.lies
  have zl0_MP:=MP_l0.lies
  have zl0_MD:=MD_l0.lies
  have zl0_MQ:=MQ_l0.lies
  have zl0_G0:=G0_l0.lies
  have zl0_G1:=G1_l0.lies
  have zl0_B0:=B0_l0.lies
  go_wp2
  refine bodyPost_ret (v:=.tuple #[.int .i64 ((st 6 0).1),.int .i64 ((st 6 0).2.1),.int .i64 ((st 6 0).2.2)]) (by simp[results,Tryz.results221,go_sem]) rfl ?_
  exact⟨rfl,BF_l0,Kl0⟩
end
section
open Go.RowKit
theorem Axw(b:Nat)(bad:Bool)(p:V3)(r:Int)(w:World)(hw:Fl b bad w)(u v:Int)(hz:bad=false)(h:PX false p r=((u,v),false)):
    Calls Zn 220 #[.pointer (some ⟨b,0,none⟩),.agg #[.int .i64 p.1,.int .i64 p.2.1,.int .i64 p.2.2],.int .i64 r] w fun e w'=>e=.returned (.tuple #[.int .i64 (PX bad p r).1.1,.int .i64 (PX bad p r).1.2])/\Fl b (PX bad p r).2 w'/\Ad b w w':=by
 subst hz
 rw[h]
 unfold PX at h
 by_cases c:r<1048576
 ·rw[if_pos c]at h
  simp only[Prod.mk.injEq,and_true]at h
  rw[<-h.1,<-h.2]
  exact Ap2 b p r w hw c
 ·rw[if_neg c]at h
  have b1:(AA false p.1 r).2=false:=by
   cases e:(AA false p.1 r).2 with
   |false=>rfl
   |true=>rw[e,LG]at h;exact absurd (show true=false from congrArg Prod.snd h) (by decide)
  rw[b1]at h
  have h1:AA false p.1 r=(u,false):=Prod.ext (congrArg (fun z=>z.1.1) h) b1
  have h2:AA false p.2.1 r=(v,false):=Prod.ext (congrArg (fun z=>z.1.2) h) (congrArg (fun z=>z.2) h)
  exact Axt b p r u v w hw c h1 h2
theorem Ap8{p:V3}{t r x y z:Int}(E:GP p t r x y z)(b kp kd kq:Nat)(w:World)(hw:Fl b false w)(hp:Mp kp 50 (AF E.P 6 0) w)(hd:Mp kd 50 (AF E.D 6 0) w)(hq:Mp kq 50 (AF E.Q 6 0) w)(hG0:AN 0 (row 54 Eu) w)(hG1:AN 1 (row 10 Gk) w)(hb:1<b)(d1:b≠kp)(d2:b≠kd)(d3:b≠kq):
    Calls Zn 221 #[.pointer (some ⟨b,0,none⟩),.agg #[.int .i64 E.nr,.int .i64 (E.g 0),.int .i64 (E.g 1),.int .i64 (E.g 2),.int .i64 (E.g 3),.int .i64 (E.g 4),.int .i64 (E.g 5),.int .i64 (E.g 6),.int .i64 (E.g 7),.int .i64 (E.g 8),.int .i64 (E.g 9),.int .i64 (E.g 10),.int .i64 (E.g 11),.int .i64 (E.g 12),.int .i64 (E.g 13),.map (some kp),.map (some kd),.map (some kq)],.int .i64 t] w fun e w'=>e=.returned (.tuple #[.int .i64 (E.st 7 0).1,.int .i64 (E.st 7 0).2.1,.int .i64 (E.st 7 0).2.2])/\Fl b false w'/\Ad b w w':=by
 refine Agz b kp kd kq 50 50 50 (AF E.P 6 0) (AF E.D 6 0) (AF E.Q 6 0) E.g E.tt (fun k m=>E.G (k+1) m) (fun k m=>E.H (k+1) m) (fun k m=>E.st (k+1) m) E.nr t w hw hp hd hq hG0 hG1 hb d1 d2 d3 E.t0 E.tn ?_ E.s0 (fun k hk=>E.sn (k+1) (by omega) (by omega)) ?_
 ·intro k m hk hm
  exact E.N (k+1) m (by omega) (by omega) (by omega)
 ·intro k m hk hm
  have e (F:Nat->Nat->Int):F (k+1) m=AF F 6 0 ((k:Int)+1) (m:Int):=(Aop F (n:=k+1) (m:=m) (by omega) (by omega)).symm
  have T:=E.T (k+1) m (by omega) (by omega) (by omega)
  rw[e E.P,e E.D,e E.Q]at T
  exact T
theorem Rf(b kp kd kq cp cd cq:Nat)(fp fd fq:Int->Int->Int)(n m c s ga gb pz dz qz:Int)(w:World)(hw:Fl b false w)(hp:Mp kp cp fp w)(hd:Mp kd cd fd w)(hq:Mp kq cq fq w)(d1:b≠kp)(d2:b≠kd)(d3:b≠kq)(d4:kp≠kd)(d5:kp≠kq)(d6:kd≠kq)(l1:cp<900)(l2:cd<900)(l3:m>0->cq<900)(n1:1<=n)(n6:n<=6)(m0:0<=m)(mn:m<n)(R:V5 n m ga gb)(T:Af4 c s gb ga (fp (n-1) m) (fd (n-1) m) (fp (n-2) m) (fd (n-2) m) pz dz)(i1:Cq pz)(i2:Cq dz)(U:m>0->Af5 c gb ga (fq (n-1) m) (fq (n-2) m) qz)(i3:m>0->Cq qz):
    Calls Zn 267 #[.agg #[.map (some kp),.map (some kd),.map (some kq)],.pointer (some ⟨b,0,none⟩),.int .i64 n,.int .i64 m,.int .i64 c,.int .i64 s] w fun e w'=>e=.returned (.tuple #[])/\Fl b false w'/\Mp kp (cp+1) (AR fp n m pz) w'/\Mp kd (cd+1) (AR fd n m dz) w'/\(if m>0 then Mp kq (cq+1) (AR fq n m qz) w' else Mp kq cq fq w')/\Al [b,kp,kd,kq] w w':=by
 have hl:=hw.lies
 have l_p:=hp.lies
 have l_d:=hd.lies
 have l_q:=hq.lies
 have hs6:mulS false s ((AR fp n m pz) (n-1) m)=(T.v6,false):=by rw[show AR fp n m pz (n-1) m=fp (n-1) m from if_neg (by omega)];exact T.h6
 go_enter Tryz.func267,Tryz.ntmps267
 have y1_BF:=hw.lies
 have y1_MP:=hp.lies
 have y1_MD:=hd.lies
 have y1_MQ:=hq.lies
 have y2_BF:b<w.heap.size+1:=(Zm hw.lies)
 have y2_MP:kp<w.heap.size+1:=(Zm hp.lies)
 have y2_MD:kd<w.heap.size+1:=(Zm hd.lies)
 have y2_MQ:kq<w.heap.size+1:=(Zm hq.lies)
 have y2_B0:w.heap.size<w.heap.size+1:=by omega
 have y3_BF:b<w.heap.size+1+1:=(Zm (Zm hw.lies))
 have y3_MP:kp<w.heap.size+1+1:=(Zm (Zm hp.lies))
 have y3_MD:kd<w.heap.size+1+1:=(Zm (Zm hd.lies))
 have y3_MQ:kq<w.heap.size+1+1:=(Zm (Zm hq.lies))
 have y3_B0:w.heap.size<w.heap.size+1+1:=by omega
 have y3_B1:w.heap.size+1<w.heap.size+1+1:=by omega
 have y4_BF:b<w.heap.size+1+1+1:=(Zm (Zm (Zm hw.lies)))
 have y4_MP:kp<w.heap.size+1+1+1:=(Zm (Zm (Zm hp.lies)))
 have y4_MD:kd<w.heap.size+1+1+1:=(Zm (Zm (Zm hd.lies)))
 have y4_MQ:kq<w.heap.size+1+1+1:=(Zm (Zm (Zm hq.lies)))
 have y4_B0:w.heap.size<w.heap.size+1+1+1:=by omega
 have y4_B1:w.heap.size+1<w.heap.size+1+1+1:=by omega
 have y4_B2:w.heap.size+1+1<w.heap.size+1+1+1:=by omega
 go_wp2_with fail
 refine(O7 b false n m _ ((((hw.alloc _).alloc _).alloc _).alloc _) (by omega) (by omega) (by omega) (by omega)).mono ?_
 rintro e w1 ⟨rfl,f1,k1⟩
 rw[R.h1]at f1 ⊢
 dsimp only at f1 ⊢
 have K1:Al [b,kp,kd,kq] w w1:=Al.on (((((Al.refl [b,kp,kd,kq] w).al _).al _).al _).al _) k1 (by simp)
 have MP_1:Mp kp cp fp w1:=((((hp.alloc _).alloc _).alloc _).alloc _).kept k1 (by omega)
 have MD_1:Mp kd cd fd w1:=((((hd.alloc _).alloc _).alloc _).alloc _).kept k1 (by omega)
 have MQ_1:Mp kq cq fq w1:=((((hq.alloc _).alloc _).alloc _).alloc _).kept k1 (by omega)
 have B0_1:=((((AH _ w.heap.size [.map (some kp),.map (some kd),.map (some kq)] _ (by simp)).alloc _).alloc _).alloc _).kept k1 (zG y1_BF)
 have B1_1:=(((AH _ (w.heap.size+1) [.int .i64 n,.int .i64 m] _ (by simp)).alloc _).alloc _).kept k1 (zG y2_BF)
 have B2_1:=((AH _ (w.heap.size+1+1) [.int .i64 (n-1),.int .i64 m] _ (by simp)).alloc _).kept k1 (zG y3_BF)
 have B3_1:=(AH _ (w.heap.size+1+1+1) [.int .i64 (n-2),.int .i64 m] _ (by simp)).kept k1 (zG y4_BF)
 have z1:=B3_1.lies
 clear hp hd hq k1
 go_wp2_with fail
 refine(O7 b false (n-1) m _ f1 (by omega) (by omega) (by omega) (by omega)).mono ?_
 rintro e w2 ⟨rfl,f2,k2⟩
 rw[R.h2]at f2 ⊢
 dsimp only at f2 ⊢
 have K2:Al [b,kp,kd,kq] w w2:=Al.on K1 k2 (by simp)
 have MP_2:Mp kp cp fp w2:=MP_1.kept k2 (by omega)
 have MD_2:Mp kd cd fd w2:=MD_1.kept k2 (by omega)
 have MQ_2:Mp kq cq fq w2:=MQ_1.kept k2 (by omega)
 have B0_2:=B0_1.kept k2 (zG y1_BF)
 have B1_2:=B1_1.kept k2 (zG y2_BF)
 have B2_2:=B2_1.kept k2 (zG y3_BF)
 have B3_2:=B3_1.kept k2 (zG y4_BF)
 have z2:=B3_2.lies
 clear K1 f1 MP_1 MD_1 MQ_1 B0_1 B1_1 B2_1 B3_1 k2
 go_wp2_with fail
 refine(DK b false R.k2 R.k1 _ f2).mono ?_
 rintro e w3 ⟨rfl,f3,k3⟩
 rw[R.h3]at f3 ⊢
 dsimp only at f3 ⊢
 have K3:Al [b,kp,kd,kq] w w3:=Al.on K2 k3 (by simp)
 have MP_3:Mp kp cp fp w3:=MP_2.kept k3 (by omega)
 have MD_3:Mp kd cd fd w3:=MD_2.kept k3 (by omega)
 have MQ_3:Mp kq cq fq w3:=MQ_2.kept k3 (by omega)
 have B0_3:=B0_2.kept k3 (zG y1_BF)
 have B1_3:=B1_2.kept k3 (zG y2_BF)
 have B2_3:=B2_2.kept k3 (zG y3_BF)
 have B3_3:=B3_2.kept k3 (zG y4_BF)
 have z3:=B3_3.lies
 clear K2 f2 MP_2 MD_2 MQ_2 B0_2 B1_2 B2_2 B3_2 k3
 go_wp2_with fail
 refine(CF b false 1099511627776 ((2*n)-1) 1 _ f3).mono ?_
 rintro e w4 ⟨rfl,f4,k4⟩
 rw[R.h4]at f4 ⊢
 dsimp only at f4 ⊢
 have K4:Al [b,kp,kd,kq] w w4:=Al.on K3 k4 (by simp)
 have MP_4:Mp kp cp fp w4:=MP_3.kept k4 (by omega)
 have MD_4:Mp kd cd fd w4:=MD_3.kept k4 (by omega)
 have MQ_4:Mp kq cq fq w4:=MQ_3.kept k4 (by omega)
 have B0_4:=B0_3.kept k4 (zG y1_BF)
 have B1_4:=B1_3.kept k4 (zG y2_BF)
 have B2_4:=B2_3.kept k4 (zG y3_BF)
 have B3_4:=B3_3.kept k4 (zG y4_BF)
 have z4:=B3_4.lies
 clear K3 f3 MP_3 MD_3 MQ_3 B0_3 B1_3 B2_3 B3_3 k4
 go_wp2_with fail
 refine(DK b false R.p R.k1 _ f4).mono ?_
 rintro e w5 ⟨rfl,f5,k5⟩
 rw[R.h5]at f5 ⊢
 dsimp only at f5 ⊢
 have K5:Al [b,kp,kd,kq] w w5:=Al.on K4 k5 (by simp)
 have MP_5:Mp kp cp fp w5:=MP_4.kept k5 (by omega)
 have MD_5:Mp kd cd fd w5:=MD_4.kept k5 (by omega)
 have MQ_5:Mp kq cq fq w5:=MQ_4.kept k5 (by omega)
 have B0_5:=B0_4.kept k5 (zG y1_BF)
 have B1_5:=B1_4.kept k5 (zG y2_BF)
 have B2_5:=B2_4.kept k5 (zG y3_BF)
 have B3_5:=B3_4.kept k5 (zG y4_BF)
 have z5:=B3_5.lies
 clear K4 f4 MP_4 MD_4 MQ_4 B0_4 B1_4 B2_4 B3_4 k5
 go_wp2_with fail
 refine wp_region_held_drew (S:=fun w'=>AN w.heap.size [.map (some kp),.map (some kd),.map (some kq)] w'/\AN (w.heap.size+1) [.int .i64 n,.int .i64 m] w'/\AN (w.heap.size+1+1) [.int .i64 (n-1),.int .i64 m] w'/\Be kp fp n m w'/\AN (w.heap.size+1+1+1) [.int .i64 (n-2),.int .i64 m] w') (by kernel_rfl) ⟨B0_5.drew,B1_5.drew,B2_5.drew,(Be.same MP_5.drew),B3_5.drew⟩ (fun zH=>?_)
 refine zT 0 rfl (by kernel_rfl) (fun _ _ _=>id) rfl (fun _ _=>by go_simp<;>with_reducible rfl) zH ?_
 simp only[Act.put,zA,zB,zC]
 refine zT 1 rfl (by kernel_rfl) (fun _ _ _=>id) rfl (fun wx hS=>by have hc0:wx.cell? ⟨w.heap.size,0,none⟩=some (.map (some kp)):=hS.1.c 0 (zD rfl);go_simp<;>with_reducible rfl) zH ?_
 simp only[Act.put,zA,zB,zC]
 refine zT 2 rfl (by kernel_rfl) (fun _ _ _=>id) rfl (fun wx hS=>by have hc0:wx.cell? ⟨w.heap.size+1,0,none⟩=some (.int .i64 n):=hS.2.1.c 0 (zD rfl);have hc1:wx.cell? ⟨w.heap.size+1,1,none⟩=some (.int .i64 m):=hS.2.1.c 1 (zD rfl);go_simp<;>with_reducible rfl) zH ?_
 simp only[Act.put,zA,zB,zC]
 refine zT 3 rfl (by kernel_rfl) (fun _ _ _=>id) rfl (fun _ _=>by go_simp<;>with_reducible rfl) zH ?_
 simp only[Act.put,zA,zB,zC]
 refine zT 4 rfl (by kernel_rfl) (fun _ _ _=>id) rfl (fun _ _=>by go_simp<;>with_reducible rfl) zH ?_
 simp only[Act.put,zA,zB,zC]
 refine zT 5 rfl (by kernel_rfl) (fun _ _ _=>id) rfl (fun _ _=>by go_simp<;>with_reducible rfl) zH ?_
 simp only[Act.put,zA,zB,zC]
 refine zT 6 rfl (by kernel_rfl) (fun _ _ _=>id) rfl (fun _ _=>by go_simp<;>with_reducible rfl) zH ?_
 simp only[Act.put,zA,zB,zC]
 refine zT 7 rfl (by kernel_rfl) (fun _ _ _=>id) rfl (fun _ _=>by go_simp<;>with_reducible rfl) zH ?_
 simp only[Act.put,zA,zB,zC]
 refine zT 8 rfl (by kernel_rfl) (fun _ _ _=>id) rfl (fun _ _=>by go_simp<;>with_reducible rfl) zH ?_
 simp only[Act.put,zA,zB,zC]
 refine zT 9 rfl (by kernel_rfl) (fun _ _ _=>id) rfl (fun wx hS=>by have hc0:wx.cell? ⟨w.heap.size,0,none⟩=some (.map (some kp)):=hS.1.c 0 (zD rfl);go_simp<;>with_reducible rfl) zH ?_
 simp only[Act.put,zA,zB,zC]
 refine zT 10 rfl (by kernel_rfl) (fun _ _ _=>id) rfl (fun wx hS=>by have hc0:wx.cell? ⟨w.heap.size+1+1,0,none⟩=some (.int .i64 (n-1)):=hS.2.2.1.c 0 (zD rfl);have hc1:wx.cell? ⟨w.heap.size+1+1,1,none⟩=some (.int .i64 m):=hS.2.2.1.c 1 (zD rfl);go_simp<;>with_reducible rfl) zH ?_
 simp only[Act.put,zA,zB,zC]
 refine CQ (i:=11) rfl (by kernel_rfl) (by kernel_rfl) (by kernel_rfl) (fun _ _ _ h=>h) (BH (by rfl) rfl rfl rfl (fun _ hS=>hS.2.2.2.1) ⟨by omega,by omega⟩ ⟨by omega,by omega⟩ (by omega)) zH ?_
 simp only[Act.put,zA,zB,zC]
 refine zT 14 rfl (by kernel_rfl) (fun _ _ _=>id) rfl (fun _ _=>by go_simp<;>with_reducible rfl) zH ?_
 simp only[Act.put,zA,zB,zC]
 refine zT 15 rfl (by kernel_rfl) (fun _ _ _=>id) rfl (fun _ _=>by go_simp<;>with_reducible rfl) zH ?_
 simp only[Act.put,zA,zB,zC]
 refine zT 16 rfl (by kernel_rfl) (fun _ _ _=>id) rfl (fun _ _=>by go_simp<;>with_reducible rfl) zH ?_
 simp only[Act.put,zA,zB,zC]
 refine zT 17 rfl (by kernel_rfl) (fun _ _ _=>id) rfl (fun wx hS=>by have hc0:wx.cell? ⟨w.heap.size,0,none⟩=some (.map (some kp)):=hS.1.c 0 (zD rfl);go_simp<;>with_reducible rfl) zH ?_
 simp only[Act.put,zA,zB,zC]
 refine zT 18 rfl (by kernel_rfl) (fun _ _ _=>id) rfl (fun wx hS=>by have hc0:wx.cell? ⟨w.heap.size+1+1+1,0,none⟩=some (.int .i64 (n-2)):=hS.2.2.2.2.c 0 (zD rfl);have hc1:wx.cell? ⟨w.heap.size+1+1+1,1,none⟩=some (.int .i64 m):=hS.2.2.2.2.c 1 (zD rfl);go_simp<;>with_reducible rfl) zH ?_
 simp only[Act.put,zA,zB,zC]
 refine CQ (i:=19) rfl (by kernel_rfl) (by kernel_rfl) (by kernel_rfl) (fun _ _ _ h=>h) (BH (by rfl) rfl rfl rfl (fun _ hS=>hS.2.2.2.1) ⟨by omega,by omega⟩ ⟨by omega,by omega⟩ (by omega)) zH ?_
 simp only[Act.put,zA,zB,zC]
 refine zK 12 (by kernel_rfl) rfl (fun K hK=>?_)
 go_simp
 refine(Aw b false c (fp (n-1) m) _ f5.drew).mono ?_
 rintro e w6 ⟨rfl,f6,k6⟩
 rw[T.h1]at f6 ⊢
 dsimp only at f6 ⊢
 have K6:Al [b,kp,kd,kq] w w6:=Al.on K5.drew k6 (by simp)
 have MP_6:Mp kp cp fp w6:=MP_5.drew.kept k6 (by omega)
 have MD_6:Mp kd cd fd w6:=MD_5.drew.kept k6 (by omega)
 have MQ_6:Mp kq cq fq w6:=MQ_5.drew.kept k6 (by omega)
 have B0_6:=B0_5.drew.kept k6 (zG y1_BF)
 have B1_6:=B1_5.drew.kept k6 (zG y2_BF)
 have B2_6:=B2_5.drew.kept k6 (zG y3_BF)
 have B3_6:=B3_5.drew.kept k6 (zG y4_BF)
 have z6:=B3_6.lies
 clear zH
 refine hK.out _ _ ⟨B0_6,B1_6,B2_6,(Be.same MP_6),B3_6⟩ (fun zH=>?_)
 clear hK K K5 f5 MP_5 MD_5 MQ_5 B0_5 B1_5 B2_5 B3_5 k6
 refine zK 13 (by kernel_rfl) rfl (fun K hK=>?_)
 go_simp
 refine(Aw b false gb T.v1 _ f6).mono ?_
 rintro e w7 ⟨rfl,f7,k7⟩
 rw[T.h2]at f7 ⊢
 dsimp only at f7 ⊢
 have K7:Al [b,kp,kd,kq] w w7:=Al.on K6 k7 (by simp)
 have MP_7:Mp kp cp fp w7:=MP_6.kept k7 (by omega)
 have MD_7:Mp kd cd fd w7:=MD_6.kept k7 (by omega)
 have MQ_7:Mp kq cq fq w7:=MQ_6.kept k7 (by omega)
 have B0_7:=B0_6.kept k7 (zG y1_BF)
 have B1_7:=B1_6.kept k7 (zG y2_BF)
 have B2_7:=B2_6.kept k7 (zG y3_BF)
 have B3_7:=B3_6.kept k7 (zG y4_BF)
 have z7:=B3_7.lies
 clear zH
 refine hK.out _ _ ⟨B0_7,B1_7,B2_7,(Be.same MP_7),B3_7⟩ (fun zH=>?_)
 clear hK K K6 f6 MP_6 MD_6 MQ_6 B0_6 B1_6 B2_6 B3_6 k7
 refine zK 20 (by kernel_rfl) rfl (fun K hK=>?_)
 go_simp
 refine(Aw b false ga (fp (n-2) m) _ f7).mono ?_
 rintro e w8 ⟨rfl,f8,k8⟩
 rw[T.h3]at f8 ⊢
 dsimp only at f8 ⊢
 have K8:Al [b,kp,kd,kq] w w8:=Al.on K7 k8 (by simp)
 have MP_8:Mp kp cp fp w8:=MP_7.kept k8 (by omega)
 have MD_8:Mp kd cd fd w8:=MD_7.kept k8 (by omega)
 have MQ_8:Mp kq cq fq w8:=MQ_7.kept k8 (by omega)
 have B0_8:=B0_7.kept k8 (zG y1_BF)
 have B1_8:=B1_7.kept k8 (zG y2_BF)
 have B2_8:=B2_7.kept k8 (zG y3_BF)
 have B3_8:=B3_7.kept k8 (zG y4_BF)
 have z8:=B3_8.lies
 clear zH
 refine hK.out _ _ ⟨B0_8,B1_8,B2_8,(Be.same MP_8),B3_8⟩ (fun zH=>?_)
 clear hK K K7 f7 MP_7 MD_7 MQ_7 B0_7 B1_7 B2_7 B3_7 k8
 refine zK 21 (by kernel_rfl) rfl (fun K hK=>?_)
 go_simp
 refine(Eg b false T.v2 T.v3 _ f8).mono ?_
 rintro e w9 ⟨rfl,f9,k9⟩
 rw[T.h4]at f9 ⊢
 dsimp only at f9 ⊢
 have K9:Al [b,kp,kd,kq] w w9:=Al.on K8 k9 (by simp)
 have MP_9:Mp kp cp fp w9:=MP_8.kept k9 (by omega)
 have MD_9:Mp kd cd fd w9:=MD_8.kept k9 (by omega)
 have MQ_9:Mp kq cq fq w9:=MQ_8.kept k9 (by omega)
 have B0_9:=B0_8.kept k9 (zG y1_BF)
 have B1_9:=B1_8.kept k9 (zG y2_BF)
 have B2_9:=B2_8.kept k9 (zG y3_BF)
 have B3_9:=B3_8.kept k9 (zG y4_BF)
 have z9:=B3_9.lies
 clear zH
 refine hK.out _ _ ⟨B0_9,B1_9,B2_9,(Be.same MP_9),B3_9⟩ (fun zH=>?_)
 clear hK K K8 f8 MP_8 MD_8 MQ_8 B0_8 B1_8 B2_8 B3_8 k9
 refine zK 22 (by kernel_rfl) rfl (fun K hK=>?_)
 refine LO (by rfl) rfl rfl rfl rfl MP_9 (by omega) ⟨by omega,by omega⟩ ⟨by omega,by omega⟩ i1 ?_
 intro w10 MP_10 k10
 have K10:Al [b,kp,kd,kq] w w10:=Al.on K9 k10 (by simp)
 have BF_10:=f9.kept k10 (by omega)
 have MD_10:Mp kd cd fd w10:=MD_9.kept k10 (by omega)
 have MQ_10:Mp kq cq fq w10:=MQ_9.kept k10 (by omega)
 have B0_10:=B0_9.kept k10 (zG y1_MP)
 have B1_10:=B1_9.kept k10 (zG y2_MP)
 have B2_10:=B2_9.kept k10 (zG y3_MP)
 have B3_10:=B3_9.kept k10 (zG y4_MP)
 have z10:=K10.size
 simp only[Act.put]
 clear zH
 refine hK.out _ _ ⟨B0_10,B1_10,B2_10,(Be.upd MP_10),B3_10⟩ (fun zH=>?_)
 clear hK K K9 MP_9 f9 MD_9 MQ_9 B0_9 B1_9 B2_9 B3_9 k10
 refine wpAnyH_done (by kernel_rfl) ?_ _
 clear zH
 go_wp2_with fail
 refine wp_region_held_drew (S:=fun w'=>AN w.heap.size [.map (some kp),.map (some kd),.map (some kq)] w'/\AN (w.heap.size+1+1) [.int .i64 (n-1),.int .i64 m] w'/\Mp kd cd fd w'/\Mp kp (cp+1) (AR fp n m pz) w') (by kernel_rfl) ⟨B0_10.drew,B2_10.drew,MD_10.drew,MP_10.drew⟩ (fun zH=>?_)
 refine zT 0 rfl (by kernel_rfl) (fun _ _ _=>id) rfl (fun _ _=>by go_simp<;>with_reducible rfl) zH ?_
 simp only[Act.put,zA,zB,zC]
 refine zT 1 rfl (by kernel_rfl) (fun _ _ _=>id) rfl (fun _ _=>by go_simp<;>with_reducible rfl) zH ?_
 simp only[Act.put,zA,zB,zC]
 refine zT 2 rfl (by kernel_rfl) (fun _ _ _=>id) rfl (fun _ _=>by go_simp<;>with_reducible rfl) zH ?_
 simp only[Act.put,zA,zB,zC]
 refine zT 3 rfl (by kernel_rfl) (fun _ _ _=>id) rfl (fun _ _=>by go_simp<;>with_reducible rfl) zH ?_
 simp only[Act.put,zA,zB,zC]
 refine zT 4 rfl (by kernel_rfl) (fun _ _ _=>id) rfl (fun wx hS=>by have hc1:wx.cell? ⟨w.heap.size,1,none⟩=some (.map (some kd)):=hS.1.c 1 (zD rfl);go_simp<;>with_reducible rfl) zH ?_
 simp only[Act.put,zA,zB,zC]
 refine zT 5 rfl (by kernel_rfl) (fun _ _ _=>id) rfl (fun wx hS=>by have hc0:wx.cell? ⟨w.heap.size+1+1,0,none⟩=some (.int .i64 (n-1)):=hS.2.1.c 0 (zD rfl);have hc1:wx.cell? ⟨w.heap.size+1+1,1,none⟩=some (.int .i64 m):=hS.2.1.c 1 (zD rfl);go_simp<;>with_reducible rfl) zH ?_
 simp only[Act.put,zA,zB,zC]
 refine CQ (i:=6) rfl (by kernel_rfl) (by kernel_rfl) (by kernel_rfl) (fun _ _ _ h=>h) (OP (by rfl) rfl rfl rfl (fun _ hS=>hS.2.2.1) ⟨by omega,by omega⟩ ⟨by omega,by omega⟩) zH ?_
 simp only[Act.put,zA,zB,zC]
 refine zT 8 rfl (by kernel_rfl) (fun _ _ _=>id) rfl (fun _ _=>by go_simp<;>with_reducible rfl) zH ?_
 simp only[Act.put,zA,zB,zC]
 refine zT 9 rfl (by kernel_rfl) (fun _ _ _=>id) rfl (fun _ _=>by go_simp<;>with_reducible rfl) zH ?_
 simp only[Act.put,zA,zB,zC]
 refine zT 10 rfl (by kernel_rfl) (fun _ _ _=>id) rfl (fun _ _=>by go_simp<;>with_reducible rfl) zH ?_
 simp only[Act.put,zA,zB,zC]
 refine zT 11 rfl (by kernel_rfl) (fun _ _ _=>id) rfl (fun wx hS=>by have hc0:wx.cell? ⟨w.heap.size,0,none⟩=some (.map (some kp)):=hS.1.c 0 (zD rfl);go_simp<;>with_reducible rfl) zH ?_
 simp only[Act.put,zA,zB,zC]
 refine zT 12 rfl (by kernel_rfl) (fun _ _ _=>id) rfl (fun wx hS=>by have hc0:wx.cell? ⟨w.heap.size+1+1,0,none⟩=some (.int .i64 (n-1)):=hS.2.1.c 0 (zD rfl);have hc1:wx.cell? ⟨w.heap.size+1+1,1,none⟩=some (.int .i64 m):=hS.2.1.c 1 (zD rfl);go_simp<;>with_reducible rfl) zH ?_
 simp only[Act.put,zA,zB,zC]
 refine CQ (i:=13) rfl (by kernel_rfl) (by kernel_rfl) (by kernel_rfl) (fun _ _ _ h=>h) (OP (by rfl) rfl rfl rfl (fun _ hS=>hS.2.2.2) ⟨by omega,by omega⟩ ⟨by omega,by omega⟩) zH ?_
 simp only[Act.put,zA,zB,zC]
 refine zK 7 (by kernel_rfl) rfl (fun K hK=>?_)
 go_simp
 refine(Aw b false c (fd (n-1) m) _ BF_10.drew).mono ?_
 rintro e w11 ⟨rfl,f11,k11⟩
 rw[T.h5]at f11 ⊢
 dsimp only at f11 ⊢
 have K11:Al [b,kp,kd,kq] w w11:=Al.on K10.drew k11 (by simp)
 have MP_11:Mp kp (cp+1) (AR fp n m pz) w11:=MP_10.drew.kept k11 (by omega)
 have MD_11:Mp kd cd fd w11:=MD_10.drew.kept k11 (by omega)
 have MQ_11:Mp kq cq fq w11:=MQ_10.drew.kept k11 (by omega)
 have B0_11:=B0_10.drew.kept k11 (zG y1_BF)
 have B1_11:=B1_10.drew.kept k11 (zG y2_BF)
 have B2_11:=B2_10.drew.kept k11 (zG y3_BF)
 have B3_11:=B3_10.drew.kept k11 (zG y4_BF)
 have z11:=B3_11.lies
 clear zH
 refine hK.out _ _ ⟨B0_11,B2_11,MD_11,MP_11⟩ (fun zH=>?_)
 clear hK K K10 BF_10 MP_10 MD_10 MQ_10 B0_10 B1_10 B2_10 B3_10 k11
 refine zK 14 (by kernel_rfl) rfl (fun K hK=>?_)
 go_simp
 refine(Aw b false s ((AR fp n m pz) (n-1) m) _ f11).mono ?_
 rintro e w12 ⟨rfl,f12,k12⟩
 rw[hs6]at f12 ⊢
 dsimp only at f12 ⊢
 have K12:Al [b,kp,kd,kq] w w12:=Al.on K11 k12 (by simp)
 have MP_12:Mp kp (cp+1) (AR fp n m pz) w12:=MP_11.kept k12 (by omega)
 have MD_12:Mp kd cd fd w12:=MD_11.kept k12 (by omega)
 have MQ_12:Mp kq cq fq w12:=MQ_11.kept k12 (by omega)
 have B0_12:=B0_11.kept k12 (zG y1_BF)
 have B1_12:=B1_11.kept k12 (zG y2_BF)
 have B2_12:=B2_11.kept k12 (zG y3_BF)
 have B3_12:=B3_11.kept k12 (zG y4_BF)
 have z12:=B3_12.lies
 clear zH
 refine hK.out _ _ ⟨B0_12,B2_12,MD_12,MP_12⟩ (fun zH=>?_)
 clear hK K K11 f11 MP_11 MD_11 MQ_11 B0_11 B1_11 B2_11 B3_11 k12
 refine zK 15 (by kernel_rfl) rfl (fun K hK=>?_)
 go_simp
 refine(Eg b false T.v5 T.v6 _ f12).mono ?_
 rintro e w13 ⟨rfl,f13,k13⟩
 rw[T.h7]at f13 ⊢
 dsimp only at f13 ⊢
 have K13:Al [b,kp,kd,kq] w w13:=Al.on K12 k13 (by simp)
 have MP_13:Mp kp (cp+1) (AR fp n m pz) w13:=MP_12.kept k13 (by omega)
 have MD_13:Mp kd cd fd w13:=MD_12.kept k13 (by omega)
 have MQ_13:Mp kq cq fq w13:=MQ_12.kept k13 (by omega)
 have B0_13:=B0_12.kept k13 (zG y1_BF)
 have B1_13:=B1_12.kept k13 (zG y2_BF)
 have B2_13:=B2_12.kept k13 (zG y3_BF)
 have B3_13:=B3_12.kept k13 (zG y4_BF)
 have z13:=B3_13.lies
 clear zH
 refine hK.out _ _ ⟨B0_13,B2_13,MD_13,MP_13⟩ (fun zH=>?_)
 clear hK K K12 f12 MP_12 MD_12 MQ_12 B0_12 B1_12 B2_12 B3_12 k13
 refine zT 16 rfl (by kernel_rfl) (fun _ _ _=>id) rfl (fun _ _=>by go_simp<;>with_reducible rfl) zH ?_
 simp only[Act.put,zA,zB,zC]
 refine wpAnyH_done (by kernel_rfl) ?_ _
 clear zH
 go_wp2_with fail
 refine wp_region_held_drew (S:=fun w'=>AN w.heap.size [.map (some kp),.map (some kd),.map (some kq)] w'/\AN (w.heap.size+1) [.int .i64 n,.int .i64 m] w'/\AN (w.heap.size+1+1+1) [.int .i64 (n-2),.int .i64 m] w'/\Be kd fd n m w') (by kernel_rfl) ⟨B0_13.drew,B1_13.drew,B3_13.drew,(Be.same MD_13.drew)⟩ (fun zH=>?_)
 refine zT 0 rfl (by kernel_rfl) (fun _ _ _=>id) rfl (fun _ _=>by go_simp<;>with_reducible rfl) zH ?_
 simp only[Act.put,zA,zB,zC]
 refine zT 1 rfl (by kernel_rfl) (fun _ _ _=>id) rfl (fun wx hS=>by have hc1:wx.cell? ⟨w.heap.size,1,none⟩=some (.map (some kd)):=hS.1.c 1 (zD rfl);go_simp<;>with_reducible rfl) zH ?_
 simp only[Act.put,zA,zB,zC]
 refine zT 2 rfl (by kernel_rfl) (fun _ _ _=>id) rfl (fun wx hS=>by have hc0:wx.cell? ⟨w.heap.size+1,0,none⟩=some (.int .i64 n):=hS.2.1.c 0 (zD rfl);have hc1:wx.cell? ⟨w.heap.size+1,1,none⟩=some (.int .i64 m):=hS.2.1.c 1 (zD rfl);go_simp<;>with_reducible rfl) zH ?_
 simp only[Act.put,zA,zB,zC]
 refine zT 3 rfl (by kernel_rfl) (fun _ _ _=>id) rfl (fun _ _=>by go_simp<;>with_reducible rfl) zH ?_
 simp only[Act.put,zA,zB,zC]
 refine zT 4 rfl (by kernel_rfl) (fun _ _ _=>id) rfl (fun _ _=>by go_simp<;>with_reducible rfl) zH ?_
 simp only[Act.put,zA,zB,zC]
 refine zT 5 rfl (by kernel_rfl) (fun _ _ _=>id) rfl (fun _ _=>by go_simp<;>with_reducible rfl) zH ?_
 simp only[Act.put,zA,zB,zC]
 refine zT 6 rfl (by kernel_rfl) (fun _ _ _=>id) rfl (fun _ _=>by go_simp<;>with_reducible rfl) zH ?_
 simp only[Act.put,zA,zB,zC]
 refine zT 8 rfl (by kernel_rfl) (fun _ _ _=>id) rfl (fun _ _=>by go_simp<;>with_reducible rfl) zH ?_
 simp only[Act.put,zA,zB,zC]
 refine zT 9 rfl (by kernel_rfl) (fun _ _ _=>id) rfl (fun _ _=>by go_simp<;>with_reducible rfl) zH ?_
 simp only[Act.put,zA,zB,zC]
 refine zT 10 rfl (by kernel_rfl) (fun _ _ _=>id) rfl (fun _ _=>by go_simp<;>with_reducible rfl) zH ?_
 simp only[Act.put,zA,zB,zC]
 refine zT 11 rfl (by kernel_rfl) (fun _ _ _=>id) rfl (fun wx hS=>by have hc1:wx.cell? ⟨w.heap.size,1,none⟩=some (.map (some kd)):=hS.1.c 1 (zD rfl);go_simp<;>with_reducible rfl) zH ?_
 simp only[Act.put,zA,zB,zC]
 refine zT 12 rfl (by kernel_rfl) (fun _ _ _=>id) rfl (fun wx hS=>by have hc0:wx.cell? ⟨w.heap.size+1+1+1,0,none⟩=some (.int .i64 (n-2)):=hS.2.2.1.c 0 (zD rfl);have hc1:wx.cell? ⟨w.heap.size+1+1+1,1,none⟩=some (.int .i64 m):=hS.2.2.1.c 1 (zD rfl);go_simp<;>with_reducible rfl) zH ?_
 simp only[Act.put,zA,zB,zC]
 refine CQ (i:=13) rfl (by kernel_rfl) (by kernel_rfl) (by kernel_rfl) (fun _ _ _ h=>h) (BH (by rfl) rfl rfl rfl (fun _ hS=>hS.2.2.2) ⟨by omega,by omega⟩ ⟨by omega,by omega⟩ (by omega)) zH ?_
 simp only[Act.put,zA,zB,zC]
 refine zK 7 (by kernel_rfl) rfl (fun K hK=>?_)
 go_simp
 refine(Aw b false gb T.v7 _ f13.drew).mono ?_
 rintro e w14 ⟨rfl,f14,k14⟩
 rw[T.h8]at f14 ⊢
 dsimp only at f14 ⊢
 have K14:Al [b,kp,kd,kq] w w14:=Al.on K13.drew k14 (by simp)
 have MP_14:Mp kp (cp+1) (AR fp n m pz) w14:=MP_13.drew.kept k14 (by omega)
 have MD_14:Mp kd cd fd w14:=MD_13.drew.kept k14 (by omega)
 have MQ_14:Mp kq cq fq w14:=MQ_13.drew.kept k14 (by omega)
 have B0_14:=B0_13.drew.kept k14 (zG y1_BF)
 have B1_14:=B1_13.drew.kept k14 (zG y2_BF)
 have B2_14:=B2_13.drew.kept k14 (zG y3_BF)
 have B3_14:=B3_13.drew.kept k14 (zG y4_BF)
 have z14:=B3_14.lies
 clear zH
 refine hK.out _ _ ⟨B0_14,B1_14,B3_14,(Be.same MD_14)⟩ (fun zH=>?_)
 clear hK K K13 f13 MP_13 MD_13 MQ_13 B0_13 B1_13 B2_13 B3_13 k14
 refine zK 14 (by kernel_rfl) rfl (fun K hK=>?_)
 go_simp
 refine(Aw b false ga (fd (n-2) m) _ f14).mono ?_
 rintro e w15 ⟨rfl,f15,k15⟩
 rw[T.h9]at f15 ⊢
 dsimp only at f15 ⊢
 have K15:Al [b,kp,kd,kq] w w15:=Al.on K14 k15 (by simp)
 have MP_15:Mp kp (cp+1) (AR fp n m pz) w15:=MP_14.kept k15 (by omega)
 have MD_15:Mp kd cd fd w15:=MD_14.kept k15 (by omega)
 have MQ_15:Mp kq cq fq w15:=MQ_14.kept k15 (by omega)
 have B0_15:=B0_14.kept k15 (zG y1_BF)
 have B1_15:=B1_14.kept k15 (zG y2_BF)
 have B2_15:=B2_14.kept k15 (zG y3_BF)
 have B3_15:=B3_14.kept k15 (zG y4_BF)
 have z15:=B3_15.lies
 clear zH
 refine hK.out _ _ ⟨B0_15,B1_15,B3_15,(Be.same MD_15)⟩ (fun zH=>?_)
 clear hK K K14 f14 MP_14 MD_14 MQ_14 B0_14 B1_14 B2_14 B3_14 k15
 refine zK 15 (by kernel_rfl) rfl (fun K hK=>?_)
 go_simp
 refine(Eg b false T.v8 T.v9 _ f15).mono ?_
 rintro e w16 ⟨rfl,f16,k16⟩
 rw[T.h10]at f16 ⊢
 dsimp only at f16 ⊢
 have K16:Al [b,kp,kd,kq] w w16:=Al.on K15 k16 (by simp)
 have MP_16:Mp kp (cp+1) (AR fp n m pz) w16:=MP_15.kept k16 (by omega)
 have MD_16:Mp kd cd fd w16:=MD_15.kept k16 (by omega)
 have MQ_16:Mp kq cq fq w16:=MQ_15.kept k16 (by omega)
 have B0_16:=B0_15.kept k16 (zG y1_BF)
 have B1_16:=B1_15.kept k16 (zG y2_BF)
 have B2_16:=B2_15.kept k16 (zG y3_BF)
 have B3_16:=B3_15.kept k16 (zG y4_BF)
 have z16:=B3_16.lies
 clear zH
 refine hK.out _ _ ⟨B0_16,B1_16,B3_16,(Be.same MD_16)⟩ (fun zH=>?_)
 clear hK K K15 f15 MP_15 MD_15 MQ_15 B0_15 B1_15 B2_15 B3_15 k16
 refine zK 16 (by kernel_rfl) rfl (fun K hK=>?_)
 refine LO (by rfl) rfl rfl rfl rfl MD_16 (by omega) ⟨by omega,by omega⟩ ⟨by omega,by omega⟩ i2 ?_
 intro w17 MD_17 k17
 have K17:Al [b,kp,kd,kq] w w17:=Al.on K16 k17 (by simp)
 have BF_17:=f16.kept k17 (by omega)
 have MP_17:Mp kp (cp+1) (AR fp n m pz) w17:=MP_16.kept k17 (by omega)
 have MQ_17:Mp kq cq fq w17:=MQ_16.kept k17 (by omega)
 have B0_17:=B0_16.kept k17 (zG y1_MD)
 have B1_17:=B1_16.kept k17 (zG y2_MD)
 have B2_17:=B2_16.kept k17 (zG y3_MD)
 have B3_17:=B3_16.kept k17 (zG y4_MD)
 have z17:=K17.size
 simp only[Act.put]
 clear zH
 refine hK.out _ _ ⟨B0_17,B1_17,B3_17,(Be.upd MD_17)⟩ (fun zH=>?_)
 clear hK K K16 MD_16 f16 MP_16 MQ_16 B0_16 B1_16 B2_16 B3_16 k17
 refine wpAnyH_done (by kernel_rfl) ?_ _
 clear zH
 by_cases hm:m>0
 ·replace l3:=l3 hm
  replace U:=U hm
  replace i3:=i3 hm
  go_wp2_with fail
  refine wp_region_held_drew (S:=fun w'=>AN w.heap.size [.map (some kp),.map (some kd),.map (some kq)] w'/\AN (w.heap.size+1) [.int .i64 n,.int .i64 m] w'/\AN (w.heap.size+1+1) [.int .i64 (n-1),.int .i64 m] w'/\Be kq fq n m w'/\AN (w.heap.size+1+1+1) [.int .i64 (n-2),.int .i64 m] w') (by kernel_rfl) ⟨B0_17.drew,B1_17.drew,B2_17.drew,(Be.same MQ_17.drew),B3_17.drew⟩ (fun zH=>?_)
  refine zT 0 rfl (by kernel_rfl) (fun _ _ _=>id) rfl (fun _ _=>by go_simp<;>with_reducible rfl) zH ?_
  simp only[Act.put,zA,zB,zC]
  refine zT 1 rfl (by kernel_rfl) (fun _ _ _=>id) rfl (fun wx hS=>by have hc2:wx.cell? ⟨w.heap.size,2,none⟩=some (.map (some kq)):=hS.1.c 2 (zD rfl);go_simp<;>with_reducible rfl) zH ?_
  simp only[Act.put,zA,zB,zC]
  refine zT 2 rfl (by kernel_rfl) (fun _ _ _=>id) rfl (fun wx hS=>by have hc0:wx.cell? ⟨w.heap.size+1,0,none⟩=some (.int .i64 n):=hS.2.1.c 0 (zD rfl);have hc1:wx.cell? ⟨w.heap.size+1,1,none⟩=some (.int .i64 m):=hS.2.1.c 1 (zD rfl);go_simp<;>with_reducible rfl) zH ?_
  simp only[Act.put,zA,zB,zC]
  refine zT 3 rfl (by kernel_rfl) (fun _ _ _=>id) rfl (fun _ _=>by go_simp<;>with_reducible rfl) zH ?_
  simp only[Act.put,zA,zB,zC]
  refine zT 4 rfl (by kernel_rfl) (fun _ _ _=>id) rfl (fun _ _=>by go_simp<;>with_reducible rfl) zH ?_
  simp only[Act.put,zA,zB,zC]
  refine zT 5 rfl (by kernel_rfl) (fun _ _ _=>id) rfl (fun _ _=>by go_simp<;>with_reducible rfl) zH ?_
  simp only[Act.put,zA,zB,zC]
  refine zT 6 rfl (by kernel_rfl) (fun _ _ _=>id) rfl (fun _ _=>by go_simp<;>with_reducible rfl) zH ?_
  simp only[Act.put,zA,zB,zC]
  refine zT 7 rfl (by kernel_rfl) (fun _ _ _=>id) rfl (fun _ _=>by go_simp<;>with_reducible rfl) zH ?_
  simp only[Act.put,zA,zB,zC]
  refine zT 8 rfl (by kernel_rfl) (fun _ _ _=>id) rfl (fun _ _=>by go_simp<;>with_reducible rfl) zH ?_
  simp only[Act.put,zA,zB,zC]
  refine zT 9 rfl (by kernel_rfl) (fun _ _ _=>id) rfl (fun wx hS=>by have hc2:wx.cell? ⟨w.heap.size,2,none⟩=some (.map (some kq)):=hS.1.c 2 (zD rfl);go_simp<;>with_reducible rfl) zH ?_
  simp only[Act.put,zA,zB,zC]
  refine zT 10 rfl (by kernel_rfl) (fun _ _ _=>id) rfl (fun wx hS=>by have hc0:wx.cell? ⟨w.heap.size+1+1,0,none⟩=some (.int .i64 (n-1)):=hS.2.2.1.c 0 (zD rfl);have hc1:wx.cell? ⟨w.heap.size+1+1,1,none⟩=some (.int .i64 m):=hS.2.2.1.c 1 (zD rfl);go_simp<;>with_reducible rfl) zH ?_
  simp only[Act.put,zA,zB,zC]
  refine CQ (i:=11) rfl (by kernel_rfl) (by kernel_rfl) (by kernel_rfl) (fun _ _ _ h=>h) (BH (by rfl) rfl rfl rfl (fun _ hS=>hS.2.2.2.1) ⟨by omega,by omega⟩ ⟨by omega,by omega⟩ (by omega)) zH ?_
  simp only[Act.put,zA,zB,zC]
  refine zT 14 rfl (by kernel_rfl) (fun _ _ _=>id) rfl (fun _ _=>by go_simp<;>with_reducible rfl) zH ?_
  simp only[Act.put,zA,zB,zC]
  refine zT 15 rfl (by kernel_rfl) (fun _ _ _=>id) rfl (fun _ _=>by go_simp<;>with_reducible rfl) zH ?_
  simp only[Act.put,zA,zB,zC]
  refine zT 16 rfl (by kernel_rfl) (fun _ _ _=>id) rfl (fun _ _=>by go_simp<;>with_reducible rfl) zH ?_
  simp only[Act.put,zA,zB,zC]
  refine zT 17 rfl (by kernel_rfl) (fun _ _ _=>id) rfl (fun wx hS=>by have hc2:wx.cell? ⟨w.heap.size,2,none⟩=some (.map (some kq)):=hS.1.c 2 (zD rfl);go_simp<;>with_reducible rfl) zH ?_
  simp only[Act.put,zA,zB,zC]
  refine zT 18 rfl (by kernel_rfl) (fun _ _ _=>id) rfl (fun wx hS=>by have hc0:wx.cell? ⟨w.heap.size+1+1+1,0,none⟩=some (.int .i64 (n-2)):=hS.2.2.2.2.c 0 (zD rfl);have hc1:wx.cell? ⟨w.heap.size+1+1+1,1,none⟩=some (.int .i64 m):=hS.2.2.2.2.c 1 (zD rfl);go_simp<;>with_reducible rfl) zH ?_
  simp only[Act.put,zA,zB,zC]
  refine CQ (i:=19) rfl (by kernel_rfl) (by kernel_rfl) (by kernel_rfl) (fun _ _ _ h=>h) (BH (by rfl) rfl rfl rfl (fun _ hS=>hS.2.2.2.1) ⟨by omega,by omega⟩ ⟨by omega,by omega⟩ (by omega)) zH ?_
  simp only[Act.put,zA,zB,zC]
  refine zK 12 (by kernel_rfl) rfl (fun K hK=>?_)
  go_simp
  refine(Aw b false c (fq (n-1) m) _ BF_17.drew).mono ?_
  rintro e w18 ⟨rfl,f18,k18⟩
  rw[U.h1]at f18 ⊢
  dsimp only at f18 ⊢
  have K18:Al [b,kp,kd,kq] w w18:=Al.on K17.drew k18 (by simp)
  have MP_18:Mp kp (cp+1) (AR fp n m pz) w18:=MP_17.drew.kept k18 (by omega)
  have MD_18:Mp kd (cd+1) (AR fd n m dz) w18:=MD_17.drew.kept k18 (by omega)
  have MQ_18:Mp kq cq fq w18:=MQ_17.drew.kept k18 (by omega)
  have B0_18:=B0_17.drew.kept k18 (zG y1_BF)
  have B1_18:=B1_17.drew.kept k18 (zG y2_BF)
  have B2_18:=B2_17.drew.kept k18 (zG y3_BF)
  have B3_18:=B3_17.drew.kept k18 (zG y4_BF)
  have z18:=B3_18.lies
  clear zH
  refine hK.out _ _ ⟨B0_18,B1_18,B2_18,(Be.same MQ_18),B3_18⟩ (fun zH=>?_)
  clear hK K K17 BF_17 MP_17 MD_17 MQ_17 B0_17 B1_17 B2_17 B3_17 k18
  refine zK 13 (by kernel_rfl) rfl (fun K hK=>?_)
  go_simp
  refine(Aw b false gb U.v1 _ f18).mono ?_
  rintro e w19 ⟨rfl,f19,k19⟩
  rw[U.h2]at f19 ⊢
  dsimp only at f19 ⊢
  have K19:Al [b,kp,kd,kq] w w19:=Al.on K18 k19 (by simp)
  have MP_19:Mp kp (cp+1) (AR fp n m pz) w19:=MP_18.kept k19 (by omega)
  have MD_19:Mp kd (cd+1) (AR fd n m dz) w19:=MD_18.kept k19 (by omega)
  have MQ_19:Mp kq cq fq w19:=MQ_18.kept k19 (by omega)
  have B0_19:=B0_18.kept k19 (zG y1_BF)
  have B1_19:=B1_18.kept k19 (zG y2_BF)
  have B2_19:=B2_18.kept k19 (zG y3_BF)
  have B3_19:=B3_18.kept k19 (zG y4_BF)
  have z19:=B3_19.lies
  clear zH
  refine hK.out _ _ ⟨B0_19,B1_19,B2_19,(Be.same MQ_19),B3_19⟩ (fun zH=>?_)
  clear hK K K18 f18 MP_18 MD_18 MQ_18 B0_18 B1_18 B2_18 B3_18 k19
  refine zK 20 (by kernel_rfl) rfl (fun K hK=>?_)
  go_simp
  refine(Aw b false ga (fq (n-2) m) _ f19).mono ?_
  rintro e w20 ⟨rfl,f20,k20⟩
  rw[U.h3]at f20 ⊢
  dsimp only at f20 ⊢
  have K20:Al [b,kp,kd,kq] w w20:=Al.on K19 k20 (by simp)
  have MP_20:Mp kp (cp+1) (AR fp n m pz) w20:=MP_19.kept k20 (by omega)
  have MD_20:Mp kd (cd+1) (AR fd n m dz) w20:=MD_19.kept k20 (by omega)
  have MQ_20:Mp kq cq fq w20:=MQ_19.kept k20 (by omega)
  have B0_20:=B0_19.kept k20 (zG y1_BF)
  have B1_20:=B1_19.kept k20 (zG y2_BF)
  have B2_20:=B2_19.kept k20 (zG y3_BF)
  have B3_20:=B3_19.kept k20 (zG y4_BF)
  have z20:=B3_20.lies
  clear zH
  refine hK.out _ _ ⟨B0_20,B1_20,B2_20,(Be.same MQ_20),B3_20⟩ (fun zH=>?_)
  clear hK K K19 f19 MP_19 MD_19 MQ_19 B0_19 B1_19 B2_19 B3_19 k20
  refine zK 21 (by kernel_rfl) rfl (fun K hK=>?_)
  go_simp
  refine(Eg b false U.v2 U.v3 _ f20).mono ?_
  rintro e w21 ⟨rfl,f21,k21⟩
  rw[U.h4]at f21 ⊢
  dsimp only at f21 ⊢
  have K21:Al [b,kp,kd,kq] w w21:=Al.on K20 k21 (by simp)
  have MP_21:Mp kp (cp+1) (AR fp n m pz) w21:=MP_20.kept k21 (by omega)
  have MD_21:Mp kd (cd+1) (AR fd n m dz) w21:=MD_20.kept k21 (by omega)
  have MQ_21:Mp kq cq fq w21:=MQ_20.kept k21 (by omega)
  have B0_21:=B0_20.kept k21 (zG y1_BF)
  have B1_21:=B1_20.kept k21 (zG y2_BF)
  have B2_21:=B2_20.kept k21 (zG y3_BF)
  have B3_21:=B3_20.kept k21 (zG y4_BF)
  have z21:=B3_21.lies
  clear zH
  refine hK.out _ _ ⟨B0_21,B1_21,B2_21,(Be.same MQ_21),B3_21⟩ (fun zH=>?_)
  clear hK K K20 f20 MP_20 MD_20 MQ_20 B0_20 B1_20 B2_20 B3_20 k21
  refine zK 22 (by kernel_rfl) rfl (fun K hK=>?_)
  refine LO (by rfl) rfl rfl rfl rfl MQ_21 (by omega) ⟨by omega,by omega⟩ ⟨by omega,by omega⟩ i3 ?_
  intro w22 MQ_22 k22
  have K22:Al [b,kp,kd,kq] w w22:=Al.on K21 k22 (by simp)
  have BF_22:=f21.kept k22 (by omega)
  have MP_22:Mp kp (cp+1) (AR fp n m pz) w22:=MP_21.kept k22 (by omega)
  have MD_22:Mp kd (cd+1) (AR fd n m dz) w22:=MD_21.kept k22 (by omega)
  have B0_22:=B0_21.kept k22 (zG y1_MQ)
  have B1_22:=B1_21.kept k22 (zG y2_MQ)
  have B2_22:=B2_21.kept k22 (zG y3_MQ)
  have B3_22:=B3_21.kept k22 (zG y4_MQ)
  have z22:=K22.size
  simp only[Act.put]
  clear zH
  refine hK.out _ _ ⟨B0_22,B1_22,B2_22,(Be.upd MQ_22),B3_22⟩ (fun zH=>?_)
  clear hK K K21 MQ_21 f21 MP_21 MD_21 B0_21 B1_21 B2_21 B3_21 k22
  refine wpAnyH_done (by kernel_rfl) ?_ _
  clear zH
  go_wp2
  go_end0
  exact⟨rfl,BF_22,MP_22,MD_22,MQ_22,K22⟩
 ·go_wp2
  go_end0
  exact⟨rfl,BF_17,MP_17,MD_17,MQ_17,K17⟩
theorem Ag0(b kp kd kq cp cd cq:Nat)(fp fd fq:Int->Int->Int)(n m c s ga gb pz dz qz:Int)(w:World)(hw:Fl b false w)(hp:Mp kp cp fp w)(hd:Mp kd cd fd w)(hq:Mp kq cq fq w)(d1:b≠kp)(d2:b≠kd)(d3:b≠kq)(d4:kp≠kd)(d5:kp≠kq)(d6:kd≠kq)(l1:cp<900)(l2:cd<900)(l3:cq<900)(n1:1<=n)(n6:n<=6)(m0:0<=m)(mn:m<n)(R:V5 n m ga gb)(T:Af4 c s gb ga (fp (n-1) m) (fd (n-1) m) (fp (n-2) m) (fd (n-2) m) pz dz)(i1:Cq pz)(i2:Cq dz)(U:Af5 c gb ga (fq (n-1) m) (fq (n-2) m) qz)(i3:Cq qz)(hm:m>0):
    Calls Zn 267 #[.agg #[.map (some kp),.map (some kd),.map (some kq)],.pointer (some ⟨b,0,none⟩),.int .i64 n,.int .i64 m,.int .i64 c,.int .i64 s] w fun e w'=>e=.returned (.tuple #[])/\Fl b false w'/\Mp kp (cp+1) (AR fp n m pz) w'/\Mp kd (cd+1) (AR fd n m dz) w'/\Mp kq (cq+1) (AR fq n m qz) w'/\Al [b,kp,kd,kq] w w':=by
 refine(Rf b kp kd kq cp cd cq fp fd fq n m c s ga gb pz dz qz w hw hp hd hq d1 d2 d3 d4 d5 d6 l1 l2 (fun _=>l3) n1 n6 m0 mn R T i1 i2 (fun _=>U) (fun _=>i3)).mono ?_
 rintro e w' ⟨h1,h2,h3,h4,h5,h6⟩
 rw[if_pos hm]at h5
 exact⟨h1,h2,h3,h4,h5,h6⟩
theorem Y5(b kp kd kq cp cd cq:Nat)(fp fd fq:Int->Int->Int)(n m c s ga gb pz dz:Int)(w:World)(hw:Fl b false w)(hp:Mp kp cp fp w)(hd:Mp kd cd fd w)(hq:Mp kq cq fq w)(d1:b≠kp)(d2:b≠kd)(d3:b≠kq)(d4:kp≠kd)(d5:kp≠kq)(d6:kd≠kq)(l1:cp<900)(l2:cd<900)(n1:1<=n)(n6:n<=6)(m0:0<=m)(R:V5 n m ga gb)(T:Af4 c s gb ga (fp (n-1) m) (fd (n-1) m) (fp (n-2) m) (fd (n-2) m) pz dz)(i1:Cq pz)(i2:Cq dz)(hm:¬m>0):
    Calls Zn 267 #[.agg #[.map (some kp),.map (some kd),.map (some kq)],.pointer (some ⟨b,0,none⟩),.int .i64 n,.int .i64 m,.int .i64 c,.int .i64 s] w fun e w'=>e=.returned (.tuple #[])/\Fl b false w'/\Mp kp (cp+1) (AR fp n m pz) w'/\Mp kd (cd+1) (AR fd n m dz) w'/\Mp kq cq fq w'/\Al [b,kp,kd,kq] w w':=by
 refine(Rf b kp kd kq cp cd cq fp fd fq n m c s ga gb pz dz 0 w hw hp hd hq d1 d2 d3 d4 d5 d6 l1 l2 (fun h=>absurd h hm) n1 n6 m0 (by omega) R T i1 i2 (fun h=>absurd h hm) (fun h=>absurd h hm)).mono ?_
 rintro e w' ⟨h1,h2,h3,h4,h5,h6⟩
 rw[if_neg hm]at h5
 exact⟨h1,h2,h3,h4,h5,h6⟩
theorem Ap9(b kp kd kq cp cd cq:Nat)(fp fd fq:Int->Int->Int)(n c s pz dz qz:Int)(w:World)(hw:Fl b false w)(hp:Mp kp cp fp w)(hd:Mp kd cd fd w)(hq:Mp kq cq fq w)(d1:b≠kp)(d2:b≠kd)(d3:b≠kq)(d4:kp≠kd)(d5:kp≠kq)(d6:kd≠kq)(l1:cp<900)(l2:cd<900)(l3:cq<900)(n1:2<=n)(n6:n<=6)(T:AE1 n c s (fp (n-1) (n-1)) (fd (n-1) (n-1)) (fq (n-1) (n-1)) pz dz qz)(i1:Cq pz)(i2:Cq dz)(i3:Cq qz):
    Calls Zn 268 #[.agg #[.map (some kp),.map (some kd),.map (some kq)],.pointer (some ⟨b,0,none⟩),.int .i64 n,.int .i64 c,.int .i64 s] w fun e w'=>e=.returned (.tuple #[])/\Fl b false w'/\Mp kp (cp+1) (AR fp n n pz) w'/\Mp kd (cd+1) (AR fd n n dz) w'/\Mp kq (cq+1) (AR fq n n qz) w'/\Al [b,kp,kd,kq] w w':=by
 have hl:=hw.lies
 have l_p:=hp.lies
 have l_d:=hd.lies
 have l_q:=hq.lies
 have hs4:mulS false c ((AR fp n n pz) (n-1) (n-1))=(T.v4,false):=by rw[show AR fp n n pz (n-1) (n-1)=fp (n-1) (n-1)from if_neg (by omega)];exact T.h4
 go_enter Tryz.func268,Tryz.ntmps268
 have y1_BF:=hw.lies
 have y1_MP:=hp.lies
 have y1_MD:=hd.lies
 have y1_MQ:=hq.lies
 have y2_BF:b<w.heap.size+1:=(Zm hw.lies)
 have y2_MP:kp<w.heap.size+1:=(Zm hp.lies)
 have y2_MD:kd<w.heap.size+1:=(Zm hd.lies)
 have y2_MQ:kq<w.heap.size+1:=(Zm hq.lies)
 have y2_B0:w.heap.size<w.heap.size+1:=by omega
 have y3_BF:b<w.heap.size+1+1:=(Zm (Zm hw.lies))
 have y3_MP:kp<w.heap.size+1+1:=(Zm (Zm hp.lies))
 have y3_MD:kd<w.heap.size+1+1:=(Zm (Zm hd.lies))
 have y3_MQ:kq<w.heap.size+1+1:=(Zm (Zm hq.lies))
 have y3_B0:w.heap.size<w.heap.size+1+1:=by omega
 have y3_B1:w.heap.size+1<w.heap.size+1+1:=by omega
 go_wp2_with fail
 refine(CF b false 1099511627776 ((2*n)-1) (2*n) _ (((hw.alloc _).alloc _).alloc _)).mono ?_
 rintro e w1 ⟨rfl,f1,k1⟩
 rw[T.hp]at f1 ⊢
 dsimp only at f1 ⊢
 have K1:Al [b,kp,kd,kq] w w1:=Al.on ((((Al.refl [b,kp,kd,kq] w).al _).al _).al _) k1 (by simp)
 have MP_1:Mp kp cp fp w1:=(((hp.alloc _).alloc _).alloc _).kept k1 (by omega)
 have MD_1:Mp kd cd fd w1:=(((hd.alloc _).alloc _).alloc _).kept k1 (by omega)
 have MQ_1:Mp kq cq fq w1:=(((hq.alloc _).alloc _).alloc _).kept k1 (by omega)
 have B0_1:=(((AH _ w.heap.size [.map (some kp),.map (some kd),.map (some kq)] _ (by simp)).alloc _).alloc _).kept k1 (zG y1_BF)
 have B1_1:=((AH _ (w.heap.size+1) [.int .i64 n,.int .i64 n] _ (by simp)).alloc _).kept k1 (zG y2_BF)
 have B2_1:=(AH _ (w.heap.size+1+1) [.int .i64 (n-1),.int .i64 (n-1)] _ (by simp)).kept k1 (zG y3_BF)
 have z1:=B2_1.lies
 clear hp hd hq k1
 go_wp2_with fail
 refine(N7 b false T.p _ f1).mono ?_
 rintro e w2 ⟨rfl,f2,k2⟩
 rw[T.hj]at f2 ⊢
 dsimp only at f2 ⊢
 have K2:Al [b,kp,kd,kq] w w2:=Al.on K1 k2 (by simp)
 have MP_2:Mp kp cp fp w2:=MP_1.kept k2 (by omega)
 have MD_2:Mp kd cd fd w2:=MD_1.kept k2 (by omega)
 have MQ_2:Mp kq cq fq w2:=MQ_1.kept k2 (by omega)
 have B0_2:=B0_1.kept k2 (zG y1_BF)
 have B1_2:=B1_1.kept k2 (zG y2_BF)
 have B2_2:=B2_1.kept k2 (zG y3_BF)
 have z2:=B2_2.lies
 clear K1 f1 MP_1 MD_1 MQ_1 B0_1 B1_1 B2_1 k2
 go_wp2_with fail
 refine wp_region_held_drew (S:=fun w'=>AN w.heap.size [.map (some kp),.map (some kd),.map (some kq)] w'/\AN (w.heap.size+1) [.int .i64 n,.int .i64 n] w'/\AN (w.heap.size+1+1) [.int .i64 (n-1),.int .i64 (n-1)] w'/\Be kp fp n n w') (by kernel_rfl) ⟨B0_2.drew,B1_2.drew,B2_2.drew,(Be.same MP_2.drew)⟩ (fun zH=>?_)
 refine zT 0 rfl (by kernel_rfl) (fun _ _ _=>id) rfl (fun _ _=>by go_simp<;>with_reducible rfl) zH ?_
 simp only[Act.put,zA,zB,zC]
 refine zT 1 rfl (by kernel_rfl) (fun _ _ _=>id) rfl (fun wx hS=>by have hc0:wx.cell? ⟨w.heap.size,0,none⟩=some (.map (some kp)):=hS.1.c 0 (zD rfl);go_simp<;>with_reducible rfl) zH ?_
 simp only[Act.put,zA,zB,zC]
 refine zT 2 rfl (by kernel_rfl) (fun _ _ _=>id) rfl (fun wx hS=>by have hc0:wx.cell? ⟨w.heap.size+1,0,none⟩=some (.int .i64 n):=hS.2.1.c 0 (zD rfl);have hc1:wx.cell? ⟨w.heap.size+1,1,none⟩=some (.int .i64 n):=hS.2.1.c 1 (zD rfl);go_simp<;>with_reducible rfl) zH ?_
 simp only[Act.put,zA,zB,zC]
 refine zT 3 rfl (by kernel_rfl) (fun _ _ _=>id) rfl (fun _ _=>by go_simp<;>with_reducible rfl) zH ?_
 simp only[Act.put,zA,zB,zC]
 refine zT 4 rfl (by kernel_rfl) (fun _ _ _=>id) rfl (fun _ _=>by go_simp<;>with_reducible rfl) zH ?_
 simp only[Act.put,zA,zB,zC]
 refine zT 5 rfl (by kernel_rfl) (fun _ _ _=>id) rfl (fun _ _=>by go_simp<;>with_reducible rfl) zH ?_
 simp only[Act.put,zA,zB,zC]
 refine zT 6 rfl (by kernel_rfl) (fun _ _ _=>id) rfl (fun _ _=>by go_simp<;>with_reducible rfl) zH ?_
 simp only[Act.put,zA,zB,zC]
 refine zT 7 rfl (by kernel_rfl) (fun _ _ _=>id) rfl (fun _ _=>by go_simp<;>with_reducible rfl) zH ?_
 simp only[Act.put,zA,zB,zC]
 refine zT 8 rfl (by kernel_rfl) (fun _ _ _=>id) rfl (fun wx hS=>by have hc0:wx.cell? ⟨w.heap.size,0,none⟩=some (.map (some kp)):=hS.1.c 0 (zD rfl);go_simp<;>with_reducible rfl) zH ?_
 simp only[Act.put,zA,zB,zC]
 refine zT 9 rfl (by kernel_rfl) (fun _ _ _=>id) rfl (fun wx hS=>by have hc0:wx.cell? ⟨w.heap.size+1+1,0,none⟩=some (.int .i64 (n-1)):=hS.2.2.1.c 0 (zD rfl);have hc1:wx.cell? ⟨w.heap.size+1+1,1,none⟩=some (.int .i64 (n-1)):=hS.2.2.1.c 1 (zD rfl);go_simp<;>with_reducible rfl) zH ?_
 simp only[Act.put,zA,zB,zC]
 refine CQ (i:=10) rfl (by kernel_rfl) (by kernel_rfl) (by kernel_rfl) (fun _ _ _ h=>h) (BH (by rfl) rfl rfl rfl (fun _ hS=>hS.2.2.2) ⟨by omega,by omega⟩ ⟨by omega,by omega⟩ (by omega)) zH ?_
 simp only[Act.put,zA,zB,zC]
 refine zK 11 (by kernel_rfl) rfl (fun K hK=>?_)
 go_simp
 refine(Aw b false s (fp (n-1) (n-1)) _ f2.drew).mono ?_
 rintro e w3 ⟨rfl,f3,k3⟩
 rw[T.h1]at f3 ⊢
 dsimp only at f3 ⊢
 have K3:Al [b,kp,kd,kq] w w3:=Al.on K2.drew k3 (by simp)
 have MP_3:Mp kp cp fp w3:=MP_2.drew.kept k3 (by omega)
 have MD_3:Mp kd cd fd w3:=MD_2.drew.kept k3 (by omega)
 have MQ_3:Mp kq cq fq w3:=MQ_2.drew.kept k3 (by omega)
 have B0_3:=B0_2.drew.kept k3 (zG y1_BF)
 have B1_3:=B1_2.drew.kept k3 (zG y2_BF)
 have B2_3:=B2_2.drew.kept k3 (zG y3_BF)
 have z3:=B2_3.lies
 clear zH
 refine hK.out _ _ ⟨B0_3,B1_3,B2_3,(Be.same MP_3)⟩ (fun zH=>?_)
 clear hK K K2 f2 MP_2 MD_2 MQ_2 B0_2 B1_2 B2_2 k3
 refine zK 12 (by kernel_rfl) rfl (fun K hK=>?_)
 go_simp
 refine(Aw b false T.j T.v1 _ f3).mono ?_
 rintro e w4 ⟨rfl,f4,k4⟩
 rw[T.h2]at f4 ⊢
 dsimp only at f4 ⊢
 have K4:Al [b,kp,kd,kq] w w4:=Al.on K3 k4 (by simp)
 have MP_4:Mp kp cp fp w4:=MP_3.kept k4 (by omega)
 have MD_4:Mp kd cd fd w4:=MD_3.kept k4 (by omega)
 have MQ_4:Mp kq cq fq w4:=MQ_3.kept k4 (by omega)
 have B0_4:=B0_3.kept k4 (zG y1_BF)
 have B1_4:=B1_3.kept k4 (zG y2_BF)
 have B2_4:=B2_3.kept k4 (zG y3_BF)
 have z4:=B2_4.lies
 clear zH
 refine hK.out _ _ ⟨B0_4,B1_4,B2_4,(Be.same MP_4)⟩ (fun zH=>?_)
 clear hK K K3 f3 MP_3 MD_3 MQ_3 B0_3 B1_3 B2_3 k4
 refine zK 13 (by kernel_rfl) rfl (fun K hK=>?_)
 refine LO (by rfl) rfl rfl rfl rfl MP_4 (by omega) ⟨by omega,by omega⟩ ⟨by omega,by omega⟩ i1 ?_
 intro w5 MP_5 k5
 have K5:Al [b,kp,kd,kq] w w5:=Al.on K4 k5 (by simp)
 have BF_5:=f4.kept k5 (by omega)
 have MD_5:Mp kd cd fd w5:=MD_4.kept k5 (by omega)
 have MQ_5:Mp kq cq fq w5:=MQ_4.kept k5 (by omega)
 have B0_5:=B0_4.kept k5 (zG y1_MP)
 have B1_5:=B1_4.kept k5 (zG y2_MP)
 have B2_5:=B2_4.kept k5 (zG y3_MP)
 have z5:=K5.size
 simp only[Act.put]
 clear zH
 refine hK.out _ _ ⟨B0_5,B1_5,B2_5,(Be.upd MP_5)⟩ (fun zH=>?_)
 clear hK K K4 MP_4 f4 MD_4 MQ_4 B0_4 B1_4 B2_4 k5
 refine wpAnyH_done (by kernel_rfl) ?_ _
 clear zH
 go_wp2_with fail
 refine wp_region_held_drew (S:=fun w'=>AN w.heap.size [.map (some kp),.map (some kd),.map (some kq)] w'/\AN (w.heap.size+1) [.int .i64 n,.int .i64 n] w'/\AN (w.heap.size+1+1) [.int .i64 (n-1),.int .i64 (n-1)] w'/\Be kd fd n n w'/\Mp kp (cp+1) (AR fp n n pz) w') (by kernel_rfl) ⟨B0_5.drew,B1_5.drew,B2_5.drew,(Be.same MD_5.drew),MP_5.drew⟩ (fun zH=>?_)
 refine zT 0 rfl (by kernel_rfl) (fun _ _ _=>id) rfl (fun _ _=>by go_simp<;>with_reducible rfl) zH ?_
 simp only[Act.put,zA,zB,zC]
 refine zT 1 rfl (by kernel_rfl) (fun _ _ _=>id) rfl (fun wx hS=>by have hc1:wx.cell? ⟨w.heap.size,1,none⟩=some (.map (some kd)):=hS.1.c 1 (zD rfl);go_simp<;>with_reducible rfl) zH ?_
 simp only[Act.put,zA,zB,zC]
 refine zT 2 rfl (by kernel_rfl) (fun _ _ _=>id) rfl (fun wx hS=>by have hc0:wx.cell? ⟨w.heap.size+1,0,none⟩=some (.int .i64 n):=hS.2.1.c 0 (zD rfl);have hc1:wx.cell? ⟨w.heap.size+1,1,none⟩=some (.int .i64 n):=hS.2.1.c 1 (zD rfl);go_simp<;>with_reducible rfl) zH ?_
 simp only[Act.put,zA,zB,zC]
 refine zT 3 rfl (by kernel_rfl) (fun _ _ _=>id) rfl (fun _ _=>by go_simp<;>with_reducible rfl) zH ?_
 simp only[Act.put,zA,zB,zC]
 refine zT 4 rfl (by kernel_rfl) (fun _ _ _=>id) rfl (fun _ _=>by go_simp<;>with_reducible rfl) zH ?_
 simp only[Act.put,zA,zB,zC]
 refine zT 5 rfl (by kernel_rfl) (fun _ _ _=>id) rfl (fun _ _=>by go_simp<;>with_reducible rfl) zH ?_
 simp only[Act.put,zA,zB,zC]
 refine zT 6 rfl (by kernel_rfl) (fun _ _ _=>id) rfl (fun _ _=>by go_simp<;>with_reducible rfl) zH ?_
 simp only[Act.put,zA,zB,zC]
 refine zT 7 rfl (by kernel_rfl) (fun _ _ _=>id) rfl (fun _ _=>by go_simp<;>with_reducible rfl) zH ?_
 simp only[Act.put,zA,zB,zC]
 refine zT 8 rfl (by kernel_rfl) (fun _ _ _=>id) rfl (fun _ _=>by go_simp<;>with_reducible rfl) zH ?_
 simp only[Act.put,zA,zB,zC]
 refine zT 9 rfl (by kernel_rfl) (fun _ _ _=>id) rfl (fun wx hS=>by have hc1:wx.cell? ⟨w.heap.size,1,none⟩=some (.map (some kd)):=hS.1.c 1 (zD rfl);go_simp<;>with_reducible rfl) zH ?_
 simp only[Act.put,zA,zB,zC]
 refine zT 10 rfl (by kernel_rfl) (fun _ _ _=>id) rfl (fun wx hS=>by have hc0:wx.cell? ⟨w.heap.size+1+1,0,none⟩=some (.int .i64 (n-1)):=hS.2.2.1.c 0 (zD rfl);have hc1:wx.cell? ⟨w.heap.size+1+1,1,none⟩=some (.int .i64 (n-1)):=hS.2.2.1.c 1 (zD rfl);go_simp<;>with_reducible rfl) zH ?_
 simp only[Act.put,zA,zB,zC]
 refine CQ (i:=11) rfl (by kernel_rfl) (by kernel_rfl) (by kernel_rfl) (fun _ _ _ h=>h) (BH (by rfl) rfl rfl rfl (fun _ hS=>hS.2.2.2.1) ⟨by omega,by omega⟩ ⟨by omega,by omega⟩ (by omega)) zH ?_
 simp only[Act.put,zA,zB,zC]
 refine zT 13 rfl (by kernel_rfl) (fun _ _ _=>id) rfl (fun _ _=>by go_simp<;>with_reducible rfl) zH ?_
 simp only[Act.put,zA,zB,zC]
 refine zT 14 rfl (by kernel_rfl) (fun _ _ _=>id) rfl (fun _ _=>by go_simp<;>with_reducible rfl) zH ?_
 simp only[Act.put,zA,zB,zC]
 refine zT 15 rfl (by kernel_rfl) (fun _ _ _=>id) rfl (fun _ _=>by go_simp<;>with_reducible rfl) zH ?_
 simp only[Act.put,zA,zB,zC]
 refine zT 16 rfl (by kernel_rfl) (fun _ _ _=>id) rfl (fun wx hS=>by have hc0:wx.cell? ⟨w.heap.size,0,none⟩=some (.map (some kp)):=hS.1.c 0 (zD rfl);go_simp<;>with_reducible rfl) zH ?_
 simp only[Act.put,zA,zB,zC]
 refine zT 17 rfl (by kernel_rfl) (fun _ _ _=>id) rfl (fun wx hS=>by have hc0:wx.cell? ⟨w.heap.size+1+1,0,none⟩=some (.int .i64 (n-1)):=hS.2.2.1.c 0 (zD rfl);have hc1:wx.cell? ⟨w.heap.size+1+1,1,none⟩=some (.int .i64 (n-1)):=hS.2.2.1.c 1 (zD rfl);go_simp<;>with_reducible rfl) zH ?_
 simp only[Act.put,zA,zB,zC]
 refine CQ (i:=18) rfl (by kernel_rfl) (by kernel_rfl) (by kernel_rfl) (fun _ _ _ h=>h) (OP (by rfl) rfl rfl rfl (fun _ hS=>hS.2.2.2.2) ⟨by omega,by omega⟩ ⟨by omega,by omega⟩) zH ?_
 simp only[Act.put,zA,zB,zC]
 refine zK 12 (by kernel_rfl) rfl (fun K hK=>?_)
 go_simp
 refine(Aw b false s (fd (n-1) (n-1)) _ BF_5.drew).mono ?_
 rintro e w6 ⟨rfl,f6,k6⟩
 rw[T.h3]at f6 ⊢
 dsimp only at f6 ⊢
 have K6:Al [b,kp,kd,kq] w w6:=Al.on K5.drew k6 (by simp)
 have MP_6:Mp kp (cp+1) (AR fp n n pz) w6:=MP_5.drew.kept k6 (by omega)
 have MD_6:Mp kd cd fd w6:=MD_5.drew.kept k6 (by omega)
 have MQ_6:Mp kq cq fq w6:=MQ_5.drew.kept k6 (by omega)
 have B0_6:=B0_5.drew.kept k6 (zG y1_BF)
 have B1_6:=B1_5.drew.kept k6 (zG y2_BF)
 have B2_6:=B2_5.drew.kept k6 (zG y3_BF)
 have z6:=B2_6.lies
 clear zH
 refine hK.out _ _ ⟨B0_6,B1_6,B2_6,(Be.same MD_6),MP_6⟩ (fun zH=>?_)
 clear hK K K5 BF_5 MP_5 MD_5 MQ_5 B0_5 B1_5 B2_5 k6
 refine zK 19 (by kernel_rfl) rfl (fun K hK=>?_)
 go_simp
 refine(Aw b false c ((AR fp n n pz) (n-1) (n-1)) _ f6).mono ?_
 rintro e w7 ⟨rfl,f7,k7⟩
 rw[hs4]at f7 ⊢
 dsimp only at f7 ⊢
 have K7:Al [b,kp,kd,kq] w w7:=Al.on K6 k7 (by simp)
 have MP_7:Mp kp (cp+1) (AR fp n n pz) w7:=MP_6.kept k7 (by omega)
 have MD_7:Mp kd cd fd w7:=MD_6.kept k7 (by omega)
 have MQ_7:Mp kq cq fq w7:=MQ_6.kept k7 (by omega)
 have B0_7:=B0_6.kept k7 (zG y1_BF)
 have B1_7:=B1_6.kept k7 (zG y2_BF)
 have B2_7:=B2_6.kept k7 (zG y3_BF)
 have z7:=B2_7.lies
 clear zH
 refine hK.out _ _ ⟨B0_7,B1_7,B2_7,(Be.same MD_7),MP_7⟩ (fun zH=>?_)
 clear hK K K6 f6 MP_6 MD_6 MQ_6 B0_6 B1_6 B2_6 k7
 refine zK 20 (by kernel_rfl) rfl (fun K hK=>?_)
 go_simp
 refine(DJ b false T.v3 T.v4 _ f7).mono ?_
 rintro e w8 ⟨rfl,f8,k8⟩
 rw[T.h5]at f8 ⊢
 dsimp only at f8 ⊢
 have K8:Al [b,kp,kd,kq] w w8:=Al.on K7 k8 (by simp)
 have MP_8:Mp kp (cp+1) (AR fp n n pz) w8:=MP_7.kept k8 (by omega)
 have MD_8:Mp kd cd fd w8:=MD_7.kept k8 (by omega)
 have MQ_8:Mp kq cq fq w8:=MQ_7.kept k8 (by omega)
 have B0_8:=B0_7.kept k8 (zG y1_BF)
 have B1_8:=B1_7.kept k8 (zG y2_BF)
 have B2_8:=B2_7.kept k8 (zG y3_BF)
 have z8:=B2_8.lies
 clear zH
 refine hK.out _ _ ⟨B0_8,B1_8,B2_8,(Be.same MD_8),MP_8⟩ (fun zH=>?_)
 clear hK K K7 f7 MP_7 MD_7 MQ_7 B0_7 B1_7 B2_7 k8
 refine zK 21 (by kernel_rfl) rfl (fun K hK=>?_)
 go_simp
 refine(Aw b false T.j T.v5 _ f8).mono ?_
 rintro e w9 ⟨rfl,f9,k9⟩
 rw[T.h6]at f9 ⊢
 dsimp only at f9 ⊢
 have K9:Al [b,kp,kd,kq] w w9:=Al.on K8 k9 (by simp)
 have MP_9:Mp kp (cp+1) (AR fp n n pz) w9:=MP_8.kept k9 (by omega)
 have MD_9:Mp kd cd fd w9:=MD_8.kept k9 (by omega)
 have MQ_9:Mp kq cq fq w9:=MQ_8.kept k9 (by omega)
 have B0_9:=B0_8.kept k9 (zG y1_BF)
 have B1_9:=B1_8.kept k9 (zG y2_BF)
 have B2_9:=B2_8.kept k9 (zG y3_BF)
 have z9:=B2_9.lies
 clear zH
 refine hK.out _ _ ⟨B0_9,B1_9,B2_9,(Be.same MD_9),MP_9⟩ (fun zH=>?_)
 clear hK K K8 f8 MP_8 MD_8 MQ_8 B0_8 B1_8 B2_8 k9
 refine zK 22 (by kernel_rfl) rfl (fun K hK=>?_)
 refine LO (by rfl) rfl rfl rfl rfl MD_9 (by omega) ⟨by omega,by omega⟩ ⟨by omega,by omega⟩ i2 ?_
 intro w10 MD_10 k10
 have K10:Al [b,kp,kd,kq] w w10:=Al.on K9 k10 (by simp)
 have BF_10:=f9.kept k10 (by omega)
 have MP_10:Mp kp (cp+1) (AR fp n n pz) w10:=MP_9.kept k10 (by omega)
 have MQ_10:Mp kq cq fq w10:=MQ_9.kept k10 (by omega)
 have B0_10:=B0_9.kept k10 (zG y1_MD)
 have B1_10:=B1_9.kept k10 (zG y2_MD)
 have B2_10:=B2_9.kept k10 (zG y3_MD)
 have z10:=K10.size
 simp only[Act.put]
 clear zH
 refine hK.out _ _ ⟨B0_10,B1_10,B2_10,(Be.upd MD_10),MP_10⟩ (fun zH=>?_)
 clear hK K K9 MD_9 f9 MP_9 MQ_9 B0_9 B1_9 B2_9 k10
 refine wpAnyH_done (by kernel_rfl) ?_ _
 clear zH
 go_wp2_with fail
 refine wp_region_held_drew (S:=fun w'=>AN w.heap.size [.map (some kp),.map (some kd),.map (some kq)] w'/\AN (w.heap.size+1) [.int .i64 n,.int .i64 n] w'/\AN (w.heap.size+1+1) [.int .i64 (n-1),.int .i64 (n-1)] w'/\Be kq fq n n w') (by kernel_rfl) ⟨B0_10.drew,B1_10.drew,B2_10.drew,(Be.same MQ_10.drew)⟩ (fun zH=>?_)
 refine zT 0 rfl (by kernel_rfl) (fun _ _ _=>id) rfl (fun _ _=>by go_simp<;>with_reducible rfl) zH ?_
 simp only[Act.put,zA,zB,zC]
 refine zT 1 rfl (by kernel_rfl) (fun _ _ _=>id) rfl (fun wx hS=>by have hc2:wx.cell? ⟨w.heap.size,2,none⟩=some (.map (some kq)):=hS.1.c 2 (zD rfl);go_simp<;>with_reducible rfl) zH ?_
 simp only[Act.put,zA,zB,zC]
 refine zT 2 rfl (by kernel_rfl) (fun _ _ _=>id) rfl (fun wx hS=>by have hc0:wx.cell? ⟨w.heap.size+1,0,none⟩=some (.int .i64 n):=hS.2.1.c 0 (zD rfl);have hc1:wx.cell? ⟨w.heap.size+1,1,none⟩=some (.int .i64 n):=hS.2.1.c 1 (zD rfl);go_simp<;>with_reducible rfl) zH ?_
 simp only[Act.put,zA,zB,zC]
 refine zT 3 rfl (by kernel_rfl) (fun _ _ _=>id) rfl (fun _ _=>by go_simp<;>with_reducible rfl) zH ?_
 simp only[Act.put,zA,zB,zC]
 refine zT 4 rfl (by kernel_rfl) (fun _ _ _=>id) rfl (fun _ _=>by go_simp<;>with_reducible rfl) zH ?_
 simp only[Act.put,zA,zB,zC]
 refine zT 5 rfl (by kernel_rfl) (fun _ _ _=>id) rfl (fun _ _=>by go_simp<;>with_reducible rfl) zH ?_
 simp only[Act.put,zA,zB,zC]
 refine zT 6 rfl (by kernel_rfl) (fun _ _ _=>id) rfl (fun _ _=>by go_simp<;>with_reducible rfl) zH ?_
 simp only[Act.put,zA,zB,zC]
 refine zT 7 rfl (by kernel_rfl) (fun _ _ _=>id) rfl (fun _ _=>by go_simp<;>with_reducible rfl) zH ?_
 simp only[Act.put,zA,zB,zC]
 refine zT 8 rfl (by kernel_rfl) (fun _ _ _=>id) rfl (fun wx hS=>by have hc2:wx.cell? ⟨w.heap.size,2,none⟩=some (.map (some kq)):=hS.1.c 2 (zD rfl);go_simp<;>with_reducible rfl) zH ?_
 simp only[Act.put,zA,zB,zC]
 refine zT 9 rfl (by kernel_rfl) (fun _ _ _=>id) rfl (fun wx hS=>by have hc0:wx.cell? ⟨w.heap.size+1+1,0,none⟩=some (.int .i64 (n-1)):=hS.2.2.1.c 0 (zD rfl);have hc1:wx.cell? ⟨w.heap.size+1+1,1,none⟩=some (.int .i64 (n-1)):=hS.2.2.1.c 1 (zD rfl);go_simp<;>with_reducible rfl) zH ?_
 simp only[Act.put,zA,zB,zC]
 refine CQ (i:=10) rfl (by kernel_rfl) (by kernel_rfl) (by kernel_rfl) (fun _ _ _ h=>h) (BH (by rfl) rfl rfl rfl (fun _ hS=>hS.2.2.2) ⟨by omega,by omega⟩ ⟨by omega,by omega⟩ (by omega)) zH ?_
 simp only[Act.put,zA,zB,zC]
 refine zK 11 (by kernel_rfl) rfl (fun K hK=>?_)
 go_simp
 refine(Aw b false s (fq (n-1) (n-1)) _ BF_10.drew).mono ?_
 rintro e w11 ⟨rfl,f11,k11⟩
 rw[T.h7]at f11 ⊢
 dsimp only at f11 ⊢
 have K11:Al [b,kp,kd,kq] w w11:=Al.on K10.drew k11 (by simp)
 have MP_11:Mp kp (cp+1) (AR fp n n pz) w11:=MP_10.drew.kept k11 (by omega)
 have MD_11:Mp kd (cd+1) (AR fd n n dz) w11:=MD_10.drew.kept k11 (by omega)
 have MQ_11:Mp kq cq fq w11:=MQ_10.drew.kept k11 (by omega)
 have B0_11:=B0_10.drew.kept k11 (zG y1_BF)
 have B1_11:=B1_10.drew.kept k11 (zG y2_BF)
 have B2_11:=B2_10.drew.kept k11 (zG y3_BF)
 have z11:=B2_11.lies
 clear zH
 refine hK.out _ _ ⟨B0_11,B1_11,B2_11,(Be.same MQ_11)⟩ (fun zH=>?_)
 clear hK K K10 BF_10 MP_10 MD_10 MQ_10 B0_10 B1_10 B2_10 k11
 refine zK 12 (by kernel_rfl) rfl (fun K hK=>?_)
 go_simp
 refine(Aw b false T.j T.v7 _ f11).mono ?_
 rintro e w12 ⟨rfl,f12,k12⟩
 rw[T.h8]at f12 ⊢
 dsimp only at f12 ⊢
 have K12:Al [b,kp,kd,kq] w w12:=Al.on K11 k12 (by simp)
 have MP_12:Mp kp (cp+1) (AR fp n n pz) w12:=MP_11.kept k12 (by omega)
 have MD_12:Mp kd (cd+1) (AR fd n n dz) w12:=MD_11.kept k12 (by omega)
 have MQ_12:Mp kq cq fq w12:=MQ_11.kept k12 (by omega)
 have B0_12:=B0_11.kept k12 (zG y1_BF)
 have B1_12:=B1_11.kept k12 (zG y2_BF)
 have B2_12:=B2_11.kept k12 (zG y3_BF)
 have z12:=B2_12.lies
 clear zH
 refine hK.out _ _ ⟨B0_12,B1_12,B2_12,(Be.same MQ_12)⟩ (fun zH=>?_)
 clear hK K K11 f11 MP_11 MD_11 MQ_11 B0_11 B1_11 B2_11 k12
 refine zK 13 (by kernel_rfl) rfl (fun K hK=>?_)
 refine LO (by rfl) rfl rfl rfl rfl MQ_12 (by omega) ⟨by omega,by omega⟩ ⟨by omega,by omega⟩ i3 ?_
 intro w13 MQ_13 k13
 have K13:Al [b,kp,kd,kq] w w13:=Al.on K12 k13 (by simp)
 have BF_13:=f12.kept k13 (by omega)
 have MP_13:Mp kp (cp+1) (AR fp n n pz) w13:=MP_12.kept k13 (by omega)
 have MD_13:Mp kd (cd+1) (AR fd n n dz) w13:=MD_12.kept k13 (by omega)
 have B0_13:=B0_12.kept k13 (zG y1_MQ)
 have B1_13:=B1_12.kept k13 (zG y2_MQ)
 have B2_13:=B2_12.kept k13 (zG y3_MQ)
 have z13:=K13.size
 simp only[Act.put]
 clear zH
 refine hK.out _ _ ⟨B0_13,B1_13,B2_13,(Be.upd MQ_13)⟩ (fun zH=>?_)
 clear hK K K12 MQ_12 f12 MP_12 MD_12 B0_12 B1_12 B2_12 k13
 refine wpAnyH_done (by kernel_rfl) ?_ _
 clear zH
 go_wp2
 go_end0
 exact⟨rfl,BF_13,MP_13,MD_13,MQ_13,K13⟩
end
section
open Go.RowKit
theorem Aqa(b kp kd kq k m:Nat)(c s:Int)(P D Q:Nat->Nat->Int)(Z:Tri c s P D Q)(w:World)(hw:Fl b false w)(hp:Mp kp (8*k+m+2) (AF P k m) w)(hd:Mp kd (8*k+m+2) (AF D k m) w)(hq:Mp kq (8*k+m+2) (AF Q k m) w)(d1:b≠kp)(d2:b≠kd)(d3:b≠kq)(d4:kp≠kd)(d5:kp≠kq)(d6:kd≠kq)(hk:k<6)(hm:m<k+1):
    Calls Zn 267 #[.agg #[.map (some kp),.map (some kd),.map (some kq)],.pointer (some ⟨b,0,none⟩),.int .i64 ((k:Int)+1),.int .i64 (m:Int),.int .i64 c,.int .i64 s] w fun e w'=>e=.returned (.tuple #[])/\Fl b false w'/\Mp kp (8*k+(m+1)+2) (AF P k (m+1)) w'/\Mp kd (8*k+(m+1)+2) (AF D k (m+1)) w'/\Mp kq (8*k+(m+1)+2) (AF Q k (m+1)) w'/\Al [b,kp,kd,kq] w w':=by
 have T:=Z.T k m hk hm
 have U:=Z.U k m hk hm
 rw[<-LP P hm,<-LP D hm,<-JC P,<-JC D]at T
 rw[<-LP Q hm,<-JC Q]at U
 have ip:=Z.ip (k+1) m (by omega);have id:=Z.id (k+1) m (by omega);have iq:=Z.iq (k+1) m (by omega)
 by_cases h:(m:Int)>0
 ·refine(Ag0 b kp kd kq _ _ _ _ _ _ ((k:Int)+1) m c s _ _ _ _ _ w hw hp hd hq d1 d2 d3 d4 d5 d6 (by omega) (by omega) (by omega) (by omega) (by omega) (by omega) (by omega) (Z.R k m hk hm) T ip id U iq h).mono ?_
  rintro e w' ⟨he,f,p,d,q,kp⟩
  exact⟨he,f,(p.mono (by omega)).eqv (Im P hm),(d.mono (by omega)).eqv (Im D hm),(q.mono (by omega)).eqv (Im Q hm),kp⟩
 ·obtain rfl:m=0:=by omega
  refine(Y5 b kp kd kq _ _ _ _ _ _ ((k:Int)+1) ((0:Nat):Int) c s _ _ _ _ w hw hp hd hq d1 d2 d3 d4 d5 d6 (by omega) (by omega) (by omega) (by omega) (by omega) (Z.R k 0 hk hm) T ip id h).mono ?_
  rintro e w' ⟨he,f,p,d,q,kp⟩
  exact⟨he,f,(p.mono (by omega)).eqv (Im P hm),(d.mono (by omega)).eqv (Im D hm),(q.mono (by omega)).eqv (Af6 Q k (Z.qz (k+1) (by omega))),kp⟩
theorem Axx(b kp kd kq k:Nat)(c s:Int)(P D Q:Nat->Nat->Int)(Z:Tri c s P D Q)(w:World)(hw:Fl b false w)(hp:Mp kp (8*k+(k+1)+2) (AF P k (k+1)) w)(hd:Mp kd (8*k+(k+1)+2) (AF D k (k+1)) w)(hq:Mp kq (8*k+(k+1)+2) (AF Q k (k+1)) w)(d1:b≠kp)(d2:b≠kd)(d3:b≠kq)(d4:kp≠kd)(d5:kp≠kq)(d6:kd≠kq)(hk:k<6)(h:(k:Int)+1>1):
    Calls Zn 268 #[.agg #[.map (some kp),.map (some kd),.map (some kq)],.pointer (some ⟨b,0,none⟩),.int .i64 ((k:Int)+1),.int .i64 c,.int .i64 s] w fun e w'=>e=.returned (.tuple #[])/\Fl b false w'/\Mp kp (8*(k+1)+2) (AF P (k+1) 0) w'/\Mp kd (8*(k+1)+2) (AF D (k+1) 0) w'/\Mp kq (8*(k+1)+2) (AF Q (k+1) 0) w'/\Al [b,kp,kd,kq] w w':=by
 have J:=Z.J k (by omega) hk
 rw[<-LQ P,<-LQ D,<-LQ Q]at J
 have ip:=Z.ip (k+1) (k+1) (by omega);have id:=Z.id (k+1) (k+1) (by omega);have iq:=Z.iq (k+1) (k+1) (by omega)
 refine(Ap9 b kp kd kq _ _ _ _ _ _ ((k:Int)+1) c s _ _ _ w hw hp hd hq d1 d2 d3 d4 d5 d6 (by omega) (by omega) (by omega) (by omega) (by omega) J ip id iq).mono ?_
 rintro e w' ⟨he,f,p,d,q,kp⟩
 exact⟨he,f,(p.mono (by omega)).eqv (LR P k),(d.mono (by omega)).eqv (LR D k),(q.mono (by omega)).eqv (LR Q k),kp⟩
end
end Go.Proofs.YtoadcnhcfodkgaaGreatDoor
