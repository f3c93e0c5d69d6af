/-
A part.
A part.
A part.
A part.
A part.
A part.
A part.
A part.
A part.
A part.
A part.
A part.
A part.
A part.
A part.
A part.
A part.
A part.
A part.
A part.
A part.
-/
import Derived.Handy
import Derived.Deep.RegionHeld3
import Derived.Deep.DrawnRows
import Derived.Below
import Derived.Laws.BitsAllLaws
import Derived.Lib.Strings
import Derived.Test.YtgmpfeaanjnhaaaGreatDoorProg
import Derived.WalkKit
import Derived.WalkLawsBesides
import Derived.WalkSpells
import Derived.RegionTactic
import Derived.BigRegion
import Derived.LoopN
import Derived.Deep.MidRow
import Derived.Laws.OwnMore
import Derived.Laws.IdiomStrings
import Derived.OwnWalk
import Derived.Laws.ResultCell
import Derived.Test.YtgmpfeaanjnhaaaGreatDoorU01
import Derived.Test.YtgmpfeaanjnhaaaGreatDoorU03
namespace Go.Proofs.YtgmpfeaanjnhaaaGreatDoor
open Go.RowKit
attribute [local go_sem ↓] Go.wp_at_zero Go.wp_at_succ
set_option maxHeartbeats 400000 in
theorem I7(n d:Int)(w:World)(h0:0<=n)(h1:n<=85070591730234615865843651857942052864)(hq:hi64 n<d)(hd:d<=4611686018427387904):
    Calls Tryz.prog 281 #[.agg #[.int .u64 (hi64 n),.int .u64 (lo64 n)],.int .u64 d] w fun e w'=>e=.returned (.int .u64 (n / d))/\Below w.heap.size w w':=by
 have b1:=DZ n h0 (by omega)
 have b2:=BS n
 have hd0:0<d:=by omega
 go_enter Tryz.func281,Tryz.ntmps281
 go_wp2
 go_loop [6,5,7] (fun vr vq vj=>∃j:Int,-1<=j/\j<=63/\vr=.int .u64 (ldr n d (j+1).toNat)/\vq=.int .u64 (ldq n d (j+1).toNat)/\vj=.int .i64 j) (fun _ _ vj=>(intOf vj+1).toNat)
 case atStart=>
  have:=Aaj n d h0 hq
  exact⟨63,by omega,by omega,by show _=Value.int .u64 (ldr n d 64);rw[this.2],by show _=Value.int .u64 (ldq n d 64);rw[this.1],rfl⟩
 case round=>
  obtain⟨j,hj0,hj1,rfl,rfl,rfl⟩:=hrel
  by_cases hj:0<=j
  ·obtain⟨m,rfl⟩:=Int.eq_ofNat_of_zero_le hj
   rw[show((m:Int)+1).toNat=m+1 by omega]
   have HS:Hid _:=Pw n d m hd0
   have HR:Hid _:=Aai n d (m+1) hd0
   have HQ:Hid _:=NP n d m hd0 h0 hq
   have HQ1:Hid _:=NP n d (m+1) hd0 h0 hq
   have HL:Hid _:=Vz n m (by omega)
   generalize ldr n d (m+1)=r at *
   generalize ldq n d (m+1)=q at *
   have r1:=HR.out
   have HJ:Hid _:=VA n r m (by omega) r1.1 (by omega)
   go_wp2
   ·rename_i hc
    rw[HJ.out]at hc ⊢
    have e:=HS.out.1 hc
    have q1:=HQ.out
    have q2:=HQ1.out
    refine⟨⟨(m:Int)-1,by omega,by omega,?_,?_,rfl⟩,by simp[intOf]⟩
    ·rw[show((m:Int)-1+1).toNat=m by omega,e.2,IntKind.wrap_u64];congr 1;omega
    ·rw[show((m:Int)-1+1).toNat=m by omega,e.1,Aol q q2.1 (by omega)]
   ·rename_i hc
    rw[HJ.out]at hc ⊢
    have e:=HS.out.2 hc
    have q1:=HQ.out
    have q2:=HQ1.out
    refine⟨⟨(m:Int)-1,by omega,by omega,?_,?_,rfl⟩,by simp[intOf]⟩
    ·rw[show((m:Int)-1+1).toNat=m by omega,e.2]
    ·rw[show((m:Int)-1+1).toNat=m by omega,e.1,IntKind.wrap_u64];congr 1;omega
  ·go_wp2
   go_ret
   obtain rfl:j=-1:=by omega
   have:=Ana n d
   exact⟨B6 this.1,by go_grown⟩
set_option maxHeartbeats 400000 in
theorem Oe(n d:Int)(w:World)(h0:0<=n)(h1:n<=21267647932558653966460912964485513216)(hd:1<=d)(hd':d<=4611686018427387904):
    Calls Tryz.prog 239 #[.agg #[.int .u64 (hi64 n),.int .u64 (lo64 n)],.int .u64 d] w fun e w'=>e=.returned (.int .u64 (Eh (rnd n d)))/\Below w.heap.size w w':=by
 have HM:Hid _:=Aal n d hd
 have HI:Hid _:=Aom n d hd
 go_enter Tryz.func239,Tryz.ntmps239
 go_wp2_with fail
 refine(PD n (d / 2) _ h0 (by omega) (by omega) (by omega)).mono ?_
 rintro e w1 ⟨rfl,hb⟩
 obtain⟨hc,hf⟩:=VB hb
 have hz:w.heap.size<w1.heap.size:=by have:=hb.size;simp at this;omega
 have hw:∀u v,Below w.heap.size w ((w1.setCell ⟨w.heap.size,0,none⟩ u).setCell ⟨w.heap.size,1,none⟩ v):=fun u v=>((((Below.refl _ _).alloc (Nat.le_refl _) _).trans (hb.mono (by simp))).setCell (Nat.le_refl _) _).setCell (Nat.le_refl _) _
 have HW:Hid _:=hw
 clear hw hb
 have n0:0<=n+d / 2:=by omega
 have n1:n+d / 2<=85070591730234615865843651857942052864:=by omega
 clear h0 h1
 generalize n+d / 2=m at *
 have b1:=DZ m n0 (by omega)
 have b2:=BS m
 have HE:Hid _:=Ie m
 by_cases c:d<=hi64 m
 ·go_wp2
  go_ret
  exact⟨B6 (HM.out c),HW.out _ _⟩
 ·by_cases c2:hi64 m=0
  ·have c3:(hi64 m==0)=true:=by simp[c2]
   have d0:(d==0)=false:=by simp;omega
   have HC:Hid _:=c2
   clear c2
   go_wp2
   go_ret
   refine⟨B6 ?_,HW.out _ _⟩
   rw[<-HI.out (by omega)]
   congr 1
   have:=HE.out
   rw[HC.out]at this
   omega
  ·have c3:(hi64 m==0)=false:=by simp[c2]
   have HC:Hid _:=c2
   clear c2
   go_wp2_with fail
   refine(I7 m d _ n0 n1 (by omega) hd').mono ?_
   rintro e w2 ⟨rfl,hb2⟩
   go_wp2
   go_ret
   exact⟨B6 (HI.out (by omega)),(HW.out _ _).trans (hb2.mono (by simp;omega))⟩
set_option maxHeartbeats 400000 in
theorem P9(n:Int)(w:World):
    Calls Tryz.prog 227 #[.agg #[.int .u64 (hi64 n),.int .u64 (lo64 n)]] w fun e w'=>e=.returned (.int .u64 (isq n))/\Below w.heap.size w w':=by
 go_enter Tryz.func227,Tryz.ntmps227
 go_wp2
 have HB0:Hid (Below (w.heap.size+1) (w.alloc (.cells #[.int .u64 (hi64 n),.int .u64 (lo64 n)] 273)) (w.alloc (.cells #[.int .u64 (hi64 n),.int .u64 (lo64 n)] 273))):=Below.refl _ _
 go_loopw [3,4] (fun v3 v4 wr=>∃(j:Nat) (r:Int),j<=63/\v3=.int .u64 r/\v4=.int .u64 (bitAt j)/\0<=r/\Hid (IP n j r=isq n/\r % 2^j=0/\r+2^j<=9223372036854775808)/\Hid (Below (w.heap.size+1) (w.alloc (.cells #[.int .u64 (hi64 n),.int .u64 (lo64 n)] 273)) wr)) (fun _ v4 _=>(intOf v4).toNat)
 case atStart=>exact⟨63,0,Nat.le_refl _,rfl,rfl,Int.le_refl _,⟨rfl,rfl,by decide⟩,HB0⟩
 case round=>
  obtain⟨j,r,hj,rfl,rfl,hr0,HR,HB⟩:=hrel
  cases j with
  |zero=>
   have hz:(bitAt 0 != 0)=false:=rfl
   go_wp2
   go_ret
   exact⟨B6 HR.out.1,((Below.refl _ _).alloc (Nat.le_refl _) _).trans (HB.out.mono (by omega))⟩
  | succ j=>
   have HE:Hid (bitAt (j+1)=2^j):=rfl
   have hbd:=Aan (j+1) hj
   have HH:Hid _:=RJ j
   have HO:Hid _:=Aon r j hr0 HR.out.2.1 (by have:=HR.out.2.2;have:=B4 (j+1);omega) (by omega)
   have HD:Hid _:=Aij r j HR.out.2.2
   have HM:Hid _:=NS r j HR.out.2.1
   have HP:Hid _:=B4 j
   have HF:Hid (IP n (j+1) r=IP n j (if (r+2^j)*(r+2^j)<=n then r+2^j else r)):=rfl
   have hne:(bitAt (j+1) != 0)=true:=by rw[HE.out];simp;have:=HP.out;omega
   have hor:bits .or .u64 r (bitAt (j+1))=r+bitAt (j+1):=by rw[HE.out];exact HO.out
   have hle:r+bitAt (j+1)<=9223372036854775807:=by rw[HE.out];have:=HD.out;have:=HP.out;omega
   have c0:=HB.out.cell (p:=⟨w.heap.size,0,none⟩) (by simp)
   have c1:=HB.out.cell (p:=⟨w.heap.size,1,none⟩) (by simp)
   simp at c0 c1
   have hzs:w.heap.size<wr.heap.size:=by have:=HB.out.size;simp at this;omega
   generalize bitAt (j+1)=t at *
   have hbd2:0<=r+t:=by omega
   have HJ:Hid (j<=63):=by show _<=_;omega
   clear hj
   go_wp2
   go_region_held3 (fun w'=>w'.cell? ⟨w.heap.size,0,none⟩=some (.int .u64 (hi64 n))/\w'.cell? ⟨w.heap.size,1,none⟩=some (.int .u64 (lo64 n))) ((first |exact⟨c0,c1⟩|exact⟨cell_later hb1 c0,cell_later hb1 c1⟩|exact⟨cell_later hb2 (cell_later hb1 c0),cell_later hb2 (cell_later hb1 c1)⟩))
    (first
     |(go_at_call 203;refine(DF (r+t) (r+t) _ hbd2 (by omega) hbd2 (by omega)).mono ?_;rintro e w1 ⟨rfl,hb1⟩;obtain⟨d1,d2⟩:=VB hb1)
     |(go_at_call 275;refine(RO _ _ _).mono ?_;rintro e w2 ⟨rfl,hb2⟩;obtain⟨d3,d4⟩:=VB hb2))
   have HW:Hid (Below (w.heap.size+1) (w.alloc (.cells #[.int .u64 (hi64 n),.int .u64 (lo64 n)] 273)) w2):=(HB.out.drew.trans (hb1.mono (B':=w.heap.size+1) (by simp;omega))).trans (hb2.mono (B':=w.heap.size+1) (by have:=hb1.size;simp at this;omega))
   have hle2:=HD.out
   rw[<-HE.out]at hle2
   have HF2:Hid (IP n (j+1) r=IP n j (if (r+t)*(r+t)<=n then r+t else r)):=by rw[HE.out];exact HF.out
   have HM2:Hid (r % 2^j=0/\(r+t) % 2^j=0):=by rw[HE.out];exact HM.out
   have ht:t / 2=bitAt j:=HH.out
   have ht0:0<t:=by rw[HE.out];exact HP.out
   have HT:Hid _:=ht
   clear ht hb1 hb2 d1 d2 d3 d4 c0 c1 hor
   cases c:decide (n<(r+t)*(r+t))
   ·have hc:=Int.not_lt.mp (of_decide_eq_false c)
    have HC:Hid _:=hc
    clear hc
    clear c
    go_wp2
    refine⟨⟨j,r+t,HJ.out,rfl,?_,hbd2,⟨?_,HM2.out.2,?_⟩,HW.out⟩,?_⟩
    ·rw[<-HT.out]
    ·rw[<-HR.out.1,HF2.out,if_pos HC.out]
    ·rw[<-HE.out];omega
    ·simp[intOf];omega
   ·have hc:=of_decide_eq_true c
    have HC:Hid _:=hc
    clear hc
    clear c
    go_wp2
    refine⟨⟨j,r,HJ.out,rfl,?_,hr0,⟨?_,HM2.out.1,?_⟩,HW.out⟩,?_⟩
    ·rw[<-HT.out]
    ·rw[<-HR.out.1,HF2.out,if_neg (Int.not_le.mpr HC.out)]
    ·rw[<-HE.out];omega
    ·simp[intOf];omega
end Go.Proofs.YtgmpfeaanjnhaaaGreatDoor
namespace Go.Proofs.YtgmpfeaanjnhaaaGreatDoor
open Go.RowKit
set_option maxHeartbeats 400000 in
theorem BM(b:Nat)(bad:Bool)(x y:Int)(w:World)(hw:Fl b bad w):
    Calls Tryz.prog 151 #[.pointer (some ⟨b,0,none⟩),.int .i64 x,.int .i64 y] w fun e w'=>e=.returned (.int .i64 (Ca bad x y).1)/\Fl b (Ca bad x y).2 w'/\Aa b w w':=by
 go_enter Tryz.func151,Tryz.ntmps151
 go_wp2_with fail
 refine(NU b bad x y w hw).mono ?_
 rintro e w1 ⟨rfl,h2,h3⟩
 cases c:tk bad [x,y]
 ·rw[c]at h2
  have HS:Hid _:=JZ c
  have H2:Hid _:=h2
  have H3:Hid _:=h3
  clear c h2 h3 hw
  go_wp2
  go_ret
  rw[HS.out]
  exact⟨rfl,H2.out,H3.out⟩
 ·rw[c]at h2
  have HS:Hid _:=Kr c
  have H3:Hid _:=h3
  clear h3
  have ht:=Ko c
  have hx:=D3 ht.2.1
  have hy:=D3 ht.2.2
  clear c hw ht
  go_wp2_with fail
  refine(MH b _ _ h2).mono ?_
  rintro e w2 ⟨rfl,h4,h5⟩
  go_wp2
  go_ret
  rw[HS.out]
  rw[Vv (x+y) (by omega)]at h4 ⊢
  exact⟨rfl,h4,H3.out.trans h5⟩
set_option maxHeartbeats 400000 in
theorem BH(b:Nat)(bad:Bool)(x y:Int)(w:World)(hw:Fl b bad w):
    Calls Tryz.prog 140 #[.pointer (some ⟨b,0,none⟩),.int .i64 x,.int .i64 y] w fun e w'=>e=.returned (.int .i64 (CP bad x y).1)/\Fl b (CP bad x y).2 w'/\Aa b w w':=by
 go_enter Tryz.func140,Tryz.ntmps140
 go_wp2_with fail
 refine(NU b bad x y w hw).mono ?_
 rintro e w1 ⟨rfl,h2,h3⟩
 cases c:tk bad [x,y]
 ·rw[c]at h2
  have HS:Hid _:=Vu c
  have H2:Hid _:=h2
  have H3:Hid _:=h3
  clear c h2 h3 hw
  go_wp2
  go_ret
  rw[HS.out]
  exact⟨rfl,H2.out,H3.out⟩
 ·rw[c]at h2
  have HS:Hid _:=Pt c
  have H3:Hid _:=h3
  clear h3
  have ht:=Ko c
  have hx:=D3 ht.2.1
  have hy:=D3 ht.2.2
  clear c hw ht
  go_wp2_with fail
  refine(MH b _ _ h2).mono ?_
  rintro e w2 ⟨rfl,h4,h5⟩
  go_wp2
  go_ret
  rw[HS.out]
  rw[Vv (x-y) (by omega)]at h4 ⊢
  exact⟨rfl,h4,H3.out.trans h5⟩
set_option maxHeartbeats 400000 in
theorem Ak(b:Nat)(bad:Bool)(x y:Int)(w:World)(hw:Fl b bad w):
    Calls Tryz.prog 131 #[.pointer (some ⟨b,0,none⟩),.int .i64 x,.int .i64 y] w fun e w'=>e=.returned (.int .i64 (mulS bad x y).1)/\Fl b (mulS bad x y).2 w'/\Aa b w w':=by
 go_enter Tryz.func131,Tryz.ntmps131
 go_wp2_with fail
 refine(NU b bad x y w hw).mono ?_
 rintro e w1 ⟨rfl,h2,h3⟩
 cases c:tk bad [x,y]
 ·rw[c]at h2
  have HS:Hid _:=Ih c
  have H2:Hid _:=h2
  have H3:Hid _:=h3
  clear c h2 h3 hw
  go_wp2
  go_ret
  rw[HS.out]
  exact⟨rfl,H2.out,H3.out⟩
 ·rw[c]at h2
  have HS:Hid _:=Pv c
  have H2:Hid _:=h2
  have H3:Hid _:=h3
  have ht:=Ko c
  have hx:=FC ht.2.1
  have hy:=FC ht.2.2
  have HX:Hid _:=ht.2.1
  have HY:Hid _:=ht.2.2
  clear c hw ht h2 h3
  go_wp2_with fail
  refine(DG x _ HX.out).mono ?_
  rintro e w2 ⟨rfl,rfl⟩
  go_wp2_with fail
  refine(DG y _ HY.out).mono ?_
  rintro e w2 ⟨rfl,rfl⟩
  go_wp2_with fail
  refine(DF (sz x) (sz y) _ hx.1 (by omega) hy.1 (by omega)).mono ?_
  rintro e w3 ⟨rfl,h4⟩
  have H4:Hid _:=h4
  clear h4
  go_wp2_with fail
  refine(PE (sz x*sz y) _ (Cr HX.out HY.out).1 (by have:=Cr HX.out HY.out;omega)).mono ?_
  rintro e w4 ⟨rfl,h5⟩
  have hf:=((H2.out.below H4.out).alloc _).below h5
  have HK:Hid (Aa b w w4):=((H3.out.trans (Aa.of_below H4.out)).trans (Aa.alloc b _ _)).trans (Aa.of_below h5)
  have HB:Hid _:=Aag ((sz x*sz y+549755813888) / 1099511627776) (by have:=Cr HX.out HY.out;omega)
  clear h5
  go_wp2_with fail
  refine(Ff b _ _ _ hf HB.out.1 HB.out.2).mono ?_
  rintro e w5 ⟨rfl,h6,h7⟩
  go_wp2
  go_ret
  rw[HS.out]
  rw[Vx]at h6 ⊢
  exact⟨rfl,h6,HK.out.trans h7⟩
set_option maxHeartbeats 400000 in
theorem Cl(b:Nat)(bad:Bool)(x p q:Int)(w:World)(hw:Fl b bad w):
    Calls Tryz.prog 168 #[.pointer (some ⟨b,0,none⟩),.int .i64 x,.int .i64 p,.int .i64 q] w fun e w'=>e=.returned (.int .i64 (Aw bad x p q).1)/\Fl b (Aw bad x p q).2 w'/\Aa b w w':=by
 go_enter Tryz.func168,Tryz.ntmps168
 go_wp2_with fail
 refine(Aax b bad x p q w hw).mono ?_
 rintro e w1 ⟨rfl,h2,h3⟩
 cases c:tk bad [x,p,q]
 ·rw[c]at h2
  have HS:Hid _:=Ei c
  have H2:Hid _:=h2
  have H3:Hid _:=h3
  clear c h2 h3 hw
  go_wp2
  go_ret
  rw[HS.out]
  exact⟨rfl,H2.out,H3.out⟩
 ·rw[c]at h2
  have H2:Hid _:=h2
  have H3:Hid _:=h3
  clear hw h2 h3
  by_cases q0:q=0
  ·subst q0
   have HS:Hid _:=Ks (bad:=bad) (a:=x) (p:=p)
   clear c
   go_wp2_with fail
   refine(Bm b _ _ H2.out).mono ?_
   rintro e w2 ⟨rfl,h4,h5⟩
   go_wp2
   go_ret
   rw[HS.out]
   exact⟨rfl,h4,H3.out.trans h5⟩
  ·have q1:(q==0)=false:=by simpa using q0
   have q2:(q != 0)=true:=by simpa using q0
   have HS:Hid _:=ER c q2
   have ht:=Kq c
   have hx:=FC ht.2.1
   have hp:=FC ht.2.2.1
   have hq:=FC ht.2.2.2
   have hq1:=RG q2
   have HX:Hid _:=ht.2.1
   have HP:Hid _:=ht.2.2.1
   have HQ:Hid _:=ht.2.2.2
   clear c ht q0 q2
   go_wp2_with fail
   refine(DG x _ HX.out).mono ?_
   rintro e w2 ⟨rfl,rfl⟩
   go_wp2_with fail
   refine(DG p _ HP.out).mono ?_
   rintro e w2 ⟨rfl,rfl⟩
   go_wp2_with fail
   refine(DF (sz x) (sz p) _ hx.1 (by omega) hp.1 (by omega)).mono ?_
   rintro e w3 ⟨rfl,h4⟩
   have H4:Hid _:=h4
   clear h4
   go_wp2_with fail
   refine(DG q _ HQ.out).mono ?_
   rintro e w2 ⟨rfl,rfl⟩
   go_wp2_with fail
   refine(Oe (sz x*sz p) (sz q) _ (Cr HX.out HP.out).1 (Cr HX.out HP.out).2 hq1 hq.2).mono ?_
   rintro e w4 ⟨rfl,h5⟩
   have hf:=(H2.out.below H4.out).below h5
   have HK:Hid (Aa b w w4):=(H3.out.trans (Aa.of_below H4.out)).trans (Aa.of_below h5)
   have HB:Hid _:=Aag (rnd (sz x*sz p) (sz q)) (G5 (Cr HX.out HP.out).1 hq1)
   clear h5
   go_wp2_with fail
   refine(Ff b _ _ _ hf HB.out.1 HB.out.2).mono ?_
   rintro e w5 ⟨rfl,h6,h7⟩
   go_wp2
   go_ret
   rw[HS.out]
   rw[Vx]at h6 ⊢
   exact⟨rfl,h6,HK.out.trans h7⟩
set_option maxHeartbeats 400000 in
theorem B8(b:Nat)(bad:Bool)(x y:Int)(w:World)(hw:Fl b bad w):
    Calls Tryz.prog 216 #[.pointer (some ⟨b,0,none⟩),.int .i64 x,.int .i64 y] w fun e w'=>e=.returned (.int .i64 (Bt bad x y).1)/\Fl b (Bt bad x y).2 w'/\Aa b w w':=by
 go_enter Tryz.func216,Tryz.ntmps216
 go_wp2_with fail
 refine(Cl b bad x 1099511627776 y w hw).mono ?_
 rintro e w1 ⟨rfl,h2,h3⟩
 go_wp2
 go_ret
 exact⟨rfl,h2,h3⟩
set_option maxHeartbeats 400000 in
theorem KV(b:Nat)(bad:Bool)(x:Int)(w:World)(hw:Fl b bad w):
    Calls Tryz.prog 215 #[.pointer (some ⟨b,0,none⟩),.int .i64 x] w fun e w'=>e=.returned (.int .i64 (Ej bad x).1)/\Fl b (Ej bad x).2 w'/\Aa b w w':=by
 go_enter Tryz.func215,Tryz.ntmps215
 go_wp2_with fail
 refine(Aop b bad x w hw).mono ?_
 rintro e w1 ⟨rfl,h2,h3⟩
 cases c:tk bad [x]
 ·rw[c]at h2
  have HS:Hid _:=Px c
  have H2:Hid _:=h2
  have H3:Hid _:=h3
  clear c h2 h3 hw
  go_wp2
  go_ret
  rw[HS.out]
  exact⟨rfl,H2.out,H3.out⟩
 ·rw[c]at h2
  have H2:Hid _:=h2
  have H3:Hid _:=h3
  clear hw h2 h3
  by_cases x0:0<=x
  ·have HS:Hid _:=Xt c x0
   have ht:=Aok c
   have hx:=FC ht.2
   have HX:Hid _:=ht.2
   have HE:Hid (sz x=x):=MG x0
   clear c ht
   go_wp2_with fail
   refine(DG x _ HX.out).mono ?_
   rintro e w2 ⟨rfl,rfl⟩
   rw[HE.out]at hx ⊢
   go_wp2_with fail
   refine(DF x 1099511627776 _ x0 (by omega) (by omega) (by omega)).mono ?_
   rintro e w3 ⟨rfl,h4⟩
   have H4:Hid _:=h4
   clear h4
   go_wp2_with fail
   refine(P9 (x*1099511627776) _).mono ?_
   rintro e w4 ⟨rfl,h5⟩
   have hf:=(H2.out.below H4.out).below h5
   have HK:Hid (Aa b w w4):=(H3.out.trans (Aa.of_below H4.out)).trans (Aa.of_below h5)
   have HB:Hid _:=Aam (x*1099511627776) (by omega) (by omega)
   clear h5
   go_wp2_with fail
   refine(Ff b _ _ _ hf HB.out.1 HB.out.2).mono ?_
   rintro e w5 ⟨rfl,h6,h7⟩
   go_wp2
   go_ret
   rw[HS.out]
   exact⟨rfl,h6,HK.out.trans h7⟩
  ·have HS:Hid _:=Xs (bad:=bad) x0
   have x1:x<0:=by omega
   clear c x0
   go_wp2_with fail
   refine(Bm b _ _ H2.out).mono ?_
   rintro e w2 ⟨rfl,h4,h5⟩
   go_wp2
   go_ret
   rw[HS.out]
   exact⟨rfl,h4,H3.out.trans h5⟩
set_option maxHeartbeats 400000 in
theorem Ai6(b:Nat)(bad:Bool)(x y:Int)(w:World)(hw:Fl b bad w):
    Calls Tryz.prog 217 #[.pointer (some ⟨b,0,none⟩),.int .i64 x,.int .i64 y] w fun e w'=>e=.returned (.int .i64 (IN bad x y).1)/\Fl b (IN bad x y).2 w'/\Aa b w w':=by
 go_enter Tryz.func217,Tryz.ntmps217
 go_wp2_with fail
 refine(NU b bad x y w hw).mono ?_
 rintro e w1 ⟨rfl,h2,h3⟩
 cases c:tk bad [x,y]
 ·rw[c]at h2
  have HS:Hid _:=Vw c
  have H2:Hid _:=h2
  have H3:Hid _:=h3
  clear c h2 h3 hw
  go_wp2
  go_ret
  rw[HS.out]
  exact⟨rfl,H2.out,H3.out⟩
 ·rw[c]at h2
  have H2:Hid _:=h2
  have H3:Hid _:=h3
  have ht:=Ko c
  have hx:=D3 ht.2.1
  have hy:=D3 ht.2.2
  clear hw h2 h3 ht
  by_cases y0:0<y
  ·have HS:Hid _:=Pu c y0
   have HM:Hid _:=Aah x y y0
   have hb:=Vy x y y0
   have d0:(y==0)=false:=by simp;omega
   clear c
   go_wp2
   ·go_ret
    rw[HS.out]
    exact⟨B6 (HM.out.1 (by assumption)),H2.out,H3.out⟩
   ·go_ret
    rw[HS.out]
    exact⟨B6 (HM.out.2 (by assumption)),H2.out,H3.out⟩
  ·have HS:Hid _:=Aaf (bad:=bad) (a:=x) y0
   have y1:y<=0:=by omega
   clear c y0
   go_wp2_with fail
   refine(Bm b _ _ H2.out).mono ?_
   rintro e w2 ⟨rfl,h4,h5⟩
   go_wp2
   go_ret
   rw[HS.out]
   exact⟨rfl,h4,H3.out.trans h5⟩
set_option maxHeartbeats 400000 in
theorem Hd(x:Int)(w:World)(h:numB x=true):
    Calls Tryz.prog 225 #[.int .i64 x] w fun e w'=>e=.returned (.agg #[.int .u64 (hi64 (x*x)),.int .u64 (lo64 (x*x))])/\Below w.heap.size w w':=by
 have hx:=FC h
 have HX:Hid _:=h
 have HE:Hid (sz x*sz x=x*x):=Aas x
 clear h
 go_enter Tryz.func225,Tryz.ntmps225
 go_wp2_with fail
 refine(DG x _ HX.out).mono ?_
 rintro e w1 ⟨rfl,rfl⟩
 go_wp2_with fail
 refine(DG x _ HX.out).mono ?_
 rintro e w1 ⟨rfl,rfl⟩
 go_wp2_with fail
 refine(DF (sz x) (sz x) _ hx.1 (by omega) hx.1 (by omega)).mono ?_
 rintro e w3 ⟨rfl,hb⟩
 rw[HE.out]
 have hd:Wd w.heap.size 0 w3:=(Aoo w 273).below hb
 have HD:Hid _:=hd.put (x*x)
 have HQ:Hid _:=World.cell?_setCell_same w3 ⟨w.heap.size,0,none⟩ (.int .u64 (hi64 (x*x))) hd.hi
 have HB:Hid (Below w.heap.size w w3):=((Below.refl _ _).alloc (Nat.le_refl _) _).trans (hb.mono (by simp))
 have m1:=hd.hi
 have m2:=hd.lo
 have m3:=hd.fh
 have m4:=hd.fl
 clear hb hd
 go_wp2
 refine bodyPost_ret (v:=.agg #[.int .u64 (hi64 (x*x)),.int .u64 (lo64 (x*x))]) (by simp[results,Tryz.results225,go_sem,HQ.out,HD.out.lo]) rfl ?_
 exact⟨rfl,(HB.out.setCell (Nat.le_refl _) _).setCell (Nat.le_refl _) _⟩
set_option maxHeartbeats 400000 in
theorem Qa(b:Nat)(bad:Bool)(x y z:Int)(w:World)(hw:Fl b bad w):
    Calls Tryz.prog 152 #[.pointer (some ⟨b,0,none⟩),.int .i64 x,.int .i64 y,.int .i64 z] w fun e w'=>e=.returned (.int .i64 (By bad x y z).1)/\Fl b (By bad x y z).2 w'/\Aa b w w':=by
 go_enter Tryz.func152,Tryz.ntmps152
 go_wp2_with fail
 refine(Aax b bad x y z w hw).mono ?_
 rintro e w1 ⟨rfl,h2,h3⟩
 cases c:tk bad [x,y,z]
 ·rw[c]at h2
  have HS:Hid _:=Ii c
  have H2:Hid _:=h2
  have H3:Hid _:=h3
  clear c h2 h3 hw
  go_wp2
  go_ret
  rw[HS.out]
  exact⟨rfl,H2.out,H3.out⟩
 ·rw[c]at h2
  have H2:Hid _:=h2
  have H3:Hid _:=h3
  have HS:Hid _:=IQ c
  have ht:=Kq c
  have HX:Hid _:=ht.2.1
  have HY:Hid _:=ht.2.2.1
  have HZ:Hid _:=ht.2.2.2
  clear hw h2 h3 c ht
  go_wp2_with fail
  refine(Hd x _ HX.out).mono ?_
  rintro e w2 ⟨rfl,h4⟩
  have H4:Hid _:=h4
  clear h4
  go_wp2_with fail
  refine(Hd y _ HY.out).mono ?_
  rintro e w3 ⟨rfl,h5⟩
  have H5:Hid _:=h5
  clear h5
  go_wp2_with fail
  refine(PC (x*x) (y*y) _ (CW HX.out).1 (CW HY.out).1 (by have:=CW HX.out;have:=CW HY.out;omega)).mono ?_
  rintro e w4 ⟨rfl,h6⟩
  have H6:Hid _:=h6
  clear h6
  go_wp2_with fail
  refine(Hd z _ HZ.out).mono ?_
  rintro e w5 ⟨rfl,h7⟩
  have H7:Hid _:=h7
  clear h7
  go_wp2_with fail
  refine(PC (x*x+y*y) (z*z) _ (by have:=CW HX.out;have:=CW HY.out;omega) (CW HZ.out).1 (by have:=CW HX.out;have:=CW HY.out;have:=CW HZ.out;omega)).mono ?_
  rintro e w6 ⟨rfl,h8⟩
  have H8:Hid _:=h8
  clear h8
  have HN:Hid (0<=x*x+y*y+z*z/\x*x+y*y+z*z<85070591730234615865843651857942052864):=by show _/\_;have:=CW HX.out;have:=CW HY.out;have:=CW HZ.out;omega
  go_wp2_with fail
  refine(P9 (x*x+y*y+z*z) _).mono ?_
  rintro e w7 ⟨rfl,h9⟩
  have hf:Fl b false w7:=((((((H2.out.below H4.out).below H5.out).below H6.out).below H7.out).below H8.out).alloc _).below h9
  have HK:Hid (Aa b w w7):=((((((H3.out.trans (Aa.of_below H4.out)).trans (Aa.of_below H5.out)).trans (Aa.of_below H6.out)).trans (Aa.of_below H7.out)).trans (Aa.of_below H8.out)).trans (Aa.alloc b _ _)).trans (Aa.of_below h9)
  have HB:Hid _:=Aam _ HN.out.1 HN.out.2
  clear h9
  go_wp2_with fail
  refine(Ff b _ _ _ hf HB.out.1 HB.out.2).mono ?_
  rintro e w8 ⟨rfl,h10,h11⟩
  go_wp2
  go_ret
  rw[HS.out]
  exact⟨rfl,h10,HK.out.trans h11⟩
abbrev uI:Value:=unk .i64
def rI(n:Nat):Value:=.agg ⟨List.replicate n uI⟩
abbrev XJ:Value:=.agg ⟨unkB::List.replicate 7 uI⟩
def nq(τ:Nat->Int):Prop:=(By false (By false (τ 0) (τ 1) (τ 2)).1 (τ 3) 0).2=false/\(By false (τ 0) (τ 1) (τ 2)).2=false/\(By false (By false (τ 0) (τ 1) (τ 2)).1 (τ 3) 0).1-1099511627776<=16/\-16<=(By false (By false (τ 0) (τ 1) (τ 2)).1 (τ 3) 0).1-1099511627776/\∀i<4,-2199023255552<=τ i/\τ i<=2199023255552
theorem Ao:∃τ,nq τ:=⟨fun i=>if i=3 then 1099511627776 else 0,by
 unfold nq
 refine⟨by decide+kernel,by decide+kernel,by decide+kernel,by decide+kernel,fun i _=>?_⟩
 dsimp only
 split<;>omega⟩
theorem Ag:Tryz.prog.follows .mixedOrders=true:=by kernel_rfl
theorem FZ{P:Program}{f:Nat}{A R:Type}{d:Dl A}{g:Bool->A->R×Bool}{c:Dc R}(h:Ba P f d g c){sa:List Value}{sr fb:Value}(hd:∀rest,As (G2 (fun _=>0)) sa rest->∃x,d.enc x=rest)(hc:∀τ y,G2 τ sr (c.enc y))(hst:∀x,(g true x).2=true)(hfb:∀τ bad x,G0 τ fb (.bool (g bad x).2)):∃g',BP P nq f sa sr fb g':=by
 have key:∀(x:Bool×List Value),∃y:Value×Bool,As (G2 (fun _=>0)) sa x.2->(∀b w,GW w->7<b->Fl b x.1 w->Calls P f (ptr b::x.2).toArray w fun e w'=>e=.returned y.1/\Fl b y.2 w'/\Aa b w w')/\(x.1=true->y.2=true)/\
  ∃τ',G0 τ' fb (.bool y.2)/\G2 τ' sr y.1/\(y.2=true∨nq τ'):=by
  rintro⟨bad,rest⟩
  by_cases hx:As (G2 (fun _=>0)) sa rest
  ·obtain⟨x,rfl⟩:=hd rest hx
   obtain⟨τ,hτ⟩:=Ao
   exact⟨(c.enc (g bad x).1,(g bad x).2),fun _=>⟨fun b w hg h1 hw=>h b bad x w hg h1 hw,(fun e=>by dsimp only at e ⊢;rw[e];exact hst x),τ,hfb τ bad x,hc τ _,.inr hτ⟩⟩
  ·exact⟨(undef,false),fun e=>absurd e hx⟩
 exact⟨fun bad rest=>Classical.choose (key (bad,rest)),fun bad rest hr=>Classical.choose_spec (key (bad,rest)) hr⟩
theorem d1{τ:Nat->Int}(rest:List Value)(h:As (G2 τ) [uI] rest):∃x,(Ac cI).enc x=rest:=by
 match rest,h with
 |[a],⟨⟨x,e⟩,_⟩=>exact⟨x,by rw[e];rfl⟩
theorem d2{τ:Nat->Int}(rest:List Value)(h:As (G2 τ) [uI,uI] rest):∃x,(Ad cI (Ac cI)).enc x=rest:=by
 match rest,h with
 |[a,b],⟨⟨x,e⟩,⟨y,f⟩,_⟩=>exact⟨(x,y),by rw[e,f];rfl⟩
theorem d3{τ:Nat->Int}(rest:List Value)(h:As (G2 τ) [uI,uI,uI] rest):∃x,(Ad cI (Ad cI (Ac cI))).enc x=rest:=by
 match rest,h with
 |[a,b,c],⟨⟨x,e⟩,⟨y,f⟩,⟨z,g⟩,_⟩=>exact⟨(x,y,z),by rw[e,f,g];rfl⟩
theorem cIg(τ:Nat->Int)(y:Int):G2 τ uI (cI.enc y):=⟨y,rfl⟩
theorem Z8(τ:Nat->Int)(b:Bool):G0 τ unkB (.bool b):=⟨b,rfl⟩
def EB:ACt Tryz.prog nq:=AL false (Af Tryz.func151 (by kernel_rfl) (by kernel_rfl)) (FZ (f:=151) (d:=Ad cI (Ac cI)) (g:=fun bad x=>Ca bad x.1 x.2) (c:=cI) (fun b bad x w _ _ hw=>BM b bad x.1 x.2 w hw) d2 cIg (fun x=>by rw[JZ (show tk true _=false from rfl)]) (fun τ _ _=>Z8 τ _)) (by decide+kernel)
def EC:ACt Tryz.prog nq:=AL false (Af Tryz.func140 (by kernel_rfl) (by kernel_rfl)) (FZ (f:=140) (d:=Ad cI (Ac cI)) (g:=fun bad x=>CP bad x.1 x.2) (c:=cI) (fun b bad x w _ _ hw=>BH b bad x.1 x.2 w hw) d2 cIg (fun x=>by rw[Vu (show tk true _=false from rfl)]) (fun τ _ _=>Z8 τ _)) (by decide+kernel)
def D7:ACt Tryz.prog nq:=AL false (Af Tryz.func131 (by kernel_rfl) (by kernel_rfl)) (FZ (f:=131) (d:=Ad cI (Ac cI)) (g:=fun bad x=>mulS bad x.1 x.2) (c:=cI) (fun b bad x w _ _ hw=>Ak b bad x.1 x.2 w hw) d2 cIg (fun x=>by rw[Ih (show tk true _=false from rfl)]) (fun τ _ _=>Z8 τ _)) (by decide+kernel)
def Ms:ACt Tryz.prog nq:=AL false (Af Tryz.func216 (by kernel_rfl) (by kernel_rfl)) (FZ (f:=216) (d:=Ad cI (Ac cI)) (g:=fun bad x=>Bt bad x.1 x.2) (c:=cI) (fun b bad x w _ _ hw=>B8 b bad x.1 x.2 w hw) d2 cIg (fun x=>by show(Bt true x.1 x.2).2=true;unfold Bt;rw[Ei (show tk true _=false from rfl)]) (fun τ _ _=>Z8 τ _)) (by decide+kernel)
def Ai7:ACt Tryz.prog nq:=AL false (Af Tryz.func217 (by kernel_rfl) (by kernel_rfl)) (FZ (f:=217) (d:=Ad cI (Ac cI)) (g:=fun bad x=>IN bad x.1 x.2) (c:=cI) (fun b bad x w _ _ hw=>Ai6 b bad x.1 x.2 w hw) d2 cIg (fun x=>by rw[Vw (show tk true _=false from rfl)]) (fun τ _ _=>Z8 τ _)) (by decide+kernel)
def F0:ACt Tryz.prog nq:=AL false (Af Tryz.func168 (by kernel_rfl) (by kernel_rfl)) (FZ (f:=168) (d:=Ad cI (Ad cI (Ac cI))) (g:=fun bad x=>Aw bad x.1 x.2.1 x.2.2) (c:=cI) (fun b bad x w _ _ hw=>Cl b bad x.1 x.2.1 x.2.2 w hw) d3 cIg (fun x=>by rw[Ei (show tk true _=false from rfl)]) (fun τ _ _=>Z8 τ _)) (by decide+kernel)
def Ab1:ACt Tryz.prog nq:=AL false (Af Tryz.func152 (by kernel_rfl) (by kernel_rfl)) (FZ (f:=152) (d:=Ad cI (Ad cI (Ac cI))) (g:=fun bad x=>By bad x.1 x.2.1 x.2.2) (c:=cI) (fun b bad x w _ _ hw=>Qa b bad x.1 x.2.1 x.2.2 w hw) d3 cIg (fun x=>by rw[Ii (show tk true _=false from rfl)]) (fun τ _ _=>Z8 τ _)) (by decide+kernel)
def VU:ACt Tryz.prog nq:=AL false (Af Tryz.func215 (by kernel_rfl) (by kernel_rfl)) (FZ (f:=215) (d:=Ac cI) (g:=fun bad x=>Ej bad x) (c:=cI) (fun b bad x w _ _ hw=>KV b bad x w hw) d1 cIg (fun x=>by rw[Px (show tk true _=false from rfl)]) (fun τ _ _=>Z8 τ _)) (by decide+kernel)
def FE:ACt Tryz.prog nq:=AL (fb:=.bool true) false (Af Tryz.func139 (by kernel_rfl) (by kernel_rfl)) (FZ (f:=139) (sa:=[]) (sr:=undef) (d:=Anf) (g:=fun _ _=>((),true)) (c:=cU) (fun b bad _ w _ _ hw=>Bm b bad w hw) (fun rest h=>by match rest,h with |[],_=>exact⟨(),rfl⟩) (fun _ _=>BF rfl) (fun _=>rfl) (fun _ _ _=>⟨rfl,rfl⟩)) (by decide+kernel)
abbrev V3:=Int×Int×Int
def I8(bad:Bool)(v:V3):V3×Bool:=if bad then((0,0,0),true)else(v,false)
def Ci(bad:Bool)(p:V3)(k:Int):(V3)×Bool:=let r1:=mulS bad p.1 k;let r2:=mulS r1.2 p.2.1 k;let r3:=mulS r2.2 p.2.2 k;let r4:=I8 r3.2 (r1.1,r2.1,r3.1);(r4.1,r4.2)
def Cn(bad:Bool)(p:V3):(Int)×Bool:=let r1:=By bad p.1 p.2.1 p.2.2;(r1.1,r1.2)
def CQ(bad:Bool)(p:V3):(V3)×Bool:=let r1:=Cn bad p;if r1.1<1048576 then((0,0,0),true)else let r2:=Bt r1.2 p.1 r1.1;let r3:=Bt r2.2 p.2.1 r1.1;let r4:=Bt r3.2 p.2.2 r1.1;((r2.1,r3.1,r4.1),r4.2)
theorem Qb(a p:Int):(sz a*sz p=if (decide (a<0) != decide (p<0))=true then-(a*p)else a*p):=by
 unfold sz
 by_cases x:a<0<;>by_cases y:p<0<;>simp[x,y]<;>grind
theorem Em(a p q:Int)(na:numB a=true)(np:numB p=true)(nq:numB q=true)(hq:0<q)(hb:sz a*sz p<=q*2305843009213693952):
    ∃m,Aw false a p q=(m,false)/\2*(m*q)<=2*(a*p)+q/\2*(a*p)<=2*(m*q)+q/\(0<=a*p->0<=m):=by
 have e:=ER (bad:=false) (a:=a) (p:=p) (q:=q) (by unfold tk;simp[na,np,nq]) (by simp;omega)
 have sq:sz q=q:=MG (by omega)
 have nr:=Aau (sz a*sz p) q (by omega)
 have n0:0<=sz a*sz p:=(Cr na np).1
 have r0:0<=rnd (sz a*sz p) q:=G5 n0 (by omega)
 have sg:=Qb a p
 rw[sq,decide_eq_false (by omega:¬q<0)]at e
 generalize rnd (sz a*sz p) q=r at *
 generalize sz a*sz p=n at *
 have r1:r<=4611686018427387904:=by
  by_cases c:r<=4611686018427387904
  ·exact c
  ·have:=Int.mul_le_mul_of_nonneg_right (by omega:(4611686018427387905:Int)<=r) (by omega:0<=q)
   omega
 rw[show((decide (a<0) != decide (p<0)) != false)=(decide (a<0) != decide (p<0))by simp]at e
 generalize (decide (a<0) != decide (p<0))=s at *
 have e2:out r s=(if s=true then-r else r,false):=by
  unfold out
  rw[<-If r s r1,decide_eq_false (by omega)]
 rw[e2]at e
 refine⟨_,e,?_⟩
 have rz:r=0->r*q=0:=fun h=>by rw[h,Int.zero_mul]
 cases s
 ·simp only[Bool.false_eq_true,if_false]at sg ⊢
  refine⟨by omega,by omega,fun _=>r0⟩
 ·simp only[if_true]at sg ⊢
  rw[Int.neg_mul]
  refine⟨by omega,by omega,fun h=>?_⟩
  have n1:n=0:=by omega
  have h2:r*q<=q / 2:=by omega
  by_cases c:r<=0
  ·omega
  ·have:=Int.mul_le_mul_of_nonneg_right (by omega:(1:Int)<=r) (by omega:0<=q)
   omega
theorem M6(a b:Int)(na:numB a=true)(nb:numB b=true)(hb:sz a*sz b<=2535301200456458802993406410752):
    ∃m,mulS false a b=(m,false)/\m*1099511627776<=a*b+549755813888/\a*b<=m*1099511627776+549755813888/\(0<=a*b->0<=m):=by
 obtain⟨m,e,h1,h2,h3⟩:=Em a b 1099511627776 na nb (by rfl) (by decide) (by omega)
 exact⟨m,e,by omega,by omega,h3⟩
theorem JC(a:Int):a<=sz a/\-a<=sz a/\0<=sz a:=by unfold sz;split<;>omega
theorem F4{a A:Int}(h:-A<=a/\a<=A):sz a<=A:=by unfold sz;split<;>omega
theorem Su(a b:Int)(ha:-1125899906842624<=a/\a<=1125899906842624)(hb:-1125899906842624<=b/\b<=1125899906842624):
    ∃m,mulS false a b=(m,false)/\m*1099511627776<=a*b+549755813888/\a*b<=m*1099511627776+549755813888/\(0<=a*b->0<=m):=by
 refine M6 a b (Fe (by omega)) (Fe (by omega)) ?_
 have h1:=F4 ha
 have h2:=F4 hb
 have:=Int.mul_le_mul h1 h2 (JC b).2.2 (by decide)
 omega
theorem XK(a b:Int)(ha:numB a=true)(hb:numB b=true)(h:numB (a+b)=true):Ca false a b=(a+b,false):=by
 rw[Kr (by unfold tk;simp[ha,hb]),Aar h]
theorem XL(a b:Int)(ha:numB a=true)(hb:numB b=true)(h:numB (a-b)=true):CP false a b=(a-b,false):=by
 rw[Pt (by unfold tk;simp[ha,hb]),Aar h]
theorem VV(zs:List Int):tk true zs=false:=rfl
theorem XM(a b:Int):Bt true a b=(0,true):=Ei (VV _)
theorem Sv(a b c:Int):By true a b c=(0,true):=Ii (VV _)
theorem Sw(p:V3):Cn true p=(0,true):=by simp[Cn,Sv]
theorem Sx{bad:Bool}{a b c n:Int}(h:By bad a b c=(n,false)):
    bad=false/\numB a=true/\numB b=true/\numB c=true/\0<=n/\n<=4611686018427387904/\n*n<=a*a+b*b+c*c/\a*a+b*b+c*c<(n+1)*(n+1):=by
 cases ht:tk bad [a,b,c]
 ·rw[Ii ht]at h;cases h
 ·have t:=Kq ht
  rw[IQ ht]at h
  have ha:=CW t.2.1
  have hb:=CW t.2.2.1
  have hc:=CW t.2.2.2
  have s:=FO (a*a+b*b+c*c) (by omega) (by omega)
  have g:isq (a*a+b*b+c*c)<=4611686018427387904/\(out (isq (a*a+b*b+c*c)) false).1=if false=true then-isq (a*a+b*b+c*c)else isq (a*a+b*b+c*c):=Aat _ _ (by rw[h])
  have e:isq (a*a+b*b+c*c)=n:=by have h3:=congrArg Prod.fst h;rw[g.2,if_neg (by decide)]at h3;exact h3
  rw[e]at s g
  exact⟨t.1,t.2.1,t.2.2.1,t.2.2.2,s.1,g.1,s.2.1,s.2.2⟩
theorem XN(bad:Bool)(a b c:Int)(h:(By bad a b c).2=true):(By bad a b c).1=0:=by
 unfold By at h ⊢
 split
 ·rename_i t;rw[if_pos t]at h;exact Ain _ _ h
 ·rfl
theorem KW{a b c n:Int}(ha:numB a=true)(hb:numB b=true)(hc:numB c=true)(n0:0<=n)(n1:n<=4611686018427387904)
    (h1:n*n<=a*a+b*b+c*c) (h2:a*a+b*b+c*c<(n+1)*(n+1)):By false a b c=(n,false):=by
 have ha':=CW ha
 have hb':=CW hb
 have hc':=CW hc
 have s:=FO (a*a+b*b+c*c) (by omega) (by omega)
 have e:isq (a*a+b*b+c*c)=n:=RI _ _ _ s.1 n0 s.2.1 s.2.2 h1 h2
 rw[IQ (by unfold tk;simp[ha,hb,hc]),e]
 unfold out
 rw[<-If n false n1,decide_eq_false (by omega)]
 rfl
theorem AE(a:Int):0<=a*a:=by rw[<-Aas a];exact Int.mul_nonneg (JC a).2.2 (JC a).2.2
theorem Apd{a b A B:Int}(ha:-A<=a/\a<=A)(hb:-B<=b/\b<=B):-(A*B)<=a*b/\a*b<=A*B:=by
 have h1:=Int.mul_le_mul (F4 ha) (F4 hb) (JC b).2.2 (by omega:(0:Int)<=A)
 have h2:=Qb a b
 have h3:=Int.mul_nonneg (JC a).2.2 (JC b).2.2
 split at h2
 ·rw[h2]at h1 h3;omega
 ·rw[h2]at h1 h3;omega
theorem mul_one(a b:Int)(ha:-4398046511104<=a/\a<=4398046511104)(hb:-4398046511104<=b/\b<=4398046511104):
    ∃m,mulS false a b=(m,false)/\m*1099511627776<=a*b+549755813888/\a*b<=m*1099511627776+549755813888:=by
 obtain⟨m,e,h1,h2,_⟩:=Su a b (by omega) (by omega)
 exact⟨m,e,h1,h2⟩
theorem Of{a p q:Int}(ha:0<=a)(ha':a<=4611686018427387904)(hp:0<=p)(hp':p<=4611686018427387904)(hq:0<q)(hq':q<=4611686018427387904)(h:rnd (a*p) q<=4611686018427387904):Aw false a p q=(rnd (a*p) q,false):=by
 have n1:numB a=true:=by unfold numB;simp;omega
 have n2:numB p=true:=by unfold numB;simp;omega
 have n3:numB q=true:=by unfold numB;simp;omega
 rw[ER (by unfold tk;simp[n1,n2,n3]) (by simp;omega)]
 have e1:sz a=a:=by unfold sz;rw[if_neg (by omega)]
 have e2:sz p=p:=by unfold sz;rw[if_neg (by omega)]
 have e3:sz q=q:=by unfold sz;rw[if_neg (by omega)]
 rw[e1,e2,e3,decide_eq_false (by omega),decide_eq_false (by omega),decide_eq_false (by omega)]
 unfold out Kn
 rw[if_pos h,decide_eq_false (by omega)]
 rfl
theorem Ab2{a b:Int}(ha:0<=a)(hb:0<=b)(h:a+b<=4611686018427387904):Ca false a b=(a+b,false):=by
 have n1:numB a=true:=by unfold numB;simp;omega
 have n2:numB b=true:=by unfold numB;simp;omega
 have n3:numB (a+b)=true:=by unfold numB;simp;omega
 rw[Kr (by unfold tk;simp[n1,n2])]
 unfold gv
 rw[n3]
 rfl
theorem Ape{a m:Int}(ha:-4611686018427387904<=a)(ha':a<=4611686018427387904)(hm:0<m)(hm':m<=4611686018427387904):IN false a m=(a % m,false):=by
 have n1:numB a=true:=by unfold numB;simp;omega
 have n2:numB m=true:=by unfold numB;simp;omega
 exact Pu (by unfold tk;simp[n1,n2]) hm
def cRight(t:Int):Bool:=decide (0<=t)&&decide (t<=157766400000)
def EL(bad:Bool)(t:Int):Int×Bool:=if cRight t then Aw bad 1099511627776 t 86400000 else(0,true)
def GH(t:Int):Int:=rnd (1099511627776*t) 86400000
def En(t:Int):Int:=rnd (6908435304716*(t % 86400000)) 86400000
def D8(t:Int):Int:=rnd (18914669620*GH t) 1099511627776
theorem CS{t:Int}(h0:0<=t)(h1:t<=157766400000):cRight t=true:=by unfold cRight;rw[decide_eq_true h0,decide_eq_true h1];rfl
theorem Dt{t:Int}(h:¬(0<=t/\t<=157766400000)):cRight t=false:=by
 unfold cRight
 by_cases a:0<=t
 ·rw[decide_eq_false (p:=t<=157766400000) (by omega),Bool.and_false]
 ·rw[decide_eq_false a];rfl
theorem Fo(t:Int):(0<=t/\t<=157766400000)∨¬(0<=t/\t<=157766400000):=Classical.em _
structure Apf(t:Int):Prop where
 day:Aw false 1099511627776 t 86400000=(GH t,false)
 part:Aw false 6908435304716 (t % 86400000) 86400000=(En t,false)
 mul:mulS false 18914669620 (GH t)=(D8 t,false)
 add:Ca false 5399947124839 (En t)=(5399947124839+En t,false)
 sum:Ca false (5399947124839+En t) (D8 t)=(5399947124839+En t+D8 t,false)
 mod:IN false (5399947124839+En t+D8 t) 6908435304716=((5399947124839+En t+D8 t) % 6908435304716,false)
theorem Apg{t:Int}(h0:0<=t)(h1:t<=157766400000):Apf t:=by
 have d0:0<=GH t/\GH t<=2007708232318976:=by unfold GH rnd;omega
 have p0:0<=En t/\En t<=6908435304716:=by unfold En rnd;omega
 have q0:0<=D8 t/\D8 t<=35000000000000:=by unfold D8 rnd;omega
 constructor
 ·exact Of (by decide) (by decide) h0 (by omega) (by decide) (by decide) (show GH t<=_ by omega)
 ·exact Of (by decide) (by decide) (by omega) (by omega) (by decide) (by decide) (show En t<=_ by omega)
 ·exact Of (by decide) (by decide) (by omega) (by omega) (by decide) (by decide) (show D8 t<=_ by omega)
 ·exact Ab2 (by decide) (by omega) (by omega)
 ·exact Ab2 (by omega) (by omega) (by omega)
 ·exact Ape (by omega) (by omega) (by decide) (by decide)
theorem XO{t:Int}(h0:0<=t)(h1:t<=157766400000):EL false t=(GH t,false):=by unfold EL;rw[CS h0 h1,if_pos rfl,(Apg h0 h1).day]
theorem Sy(bad:Bool){t:Int}(h:¬(0<=t/\t<=157766400000)):EL bad t=(0,true):=by unfold EL;rw[Dt h];rfl
def bt(s:ByteArray)(i:Nat):Nat:=(s.data.toList.getD i 0).toNat
theorem CU(s:ByteArray)(i:Nat):bt s i<256:=UInt8.toNat_lt _
theorem Atu{s:ByteArray}{i:Nat}(h:i<s.size):(s[i]'h).toNat=bt s i:=by
 have hl:i<s.data.toList.length:=h
 unfold bt
 rw[List.getD_eq_getElem?_getD,List.getElem?_eq_getElem hl]
 rfl
def cnt(s:ByteArray)(i:Nat):Nat:=bt s i*256+bt s (i+1)
theorem Eo(s:ByteArray)(i:Nat):cnt s i<65536:=by
 have:=CU s i
 have:=CU s (i+1)
 unfold cnt
 omega
def sg(n:Nat):Int:=if 32768<=n then(n:Int)-65536 else n
theorem Ab3{n:Nat}(h:n<65536):-32768<=sg n/\sg n<=32767:=by
 unfold sg
 split<;>omega
def tickK(s:ByteArray):Nat->Nat
 |0=>0
 |k+1=>tickK s k*256+bt s k
theorem Iw(s:ByteArray):∀k,tickK s k<256^k
 |0=>by show 0<1;decide
 |k+1=>by
  have h:=Iw s k
  have:=CU s k
  show tickK s k*256+bt s k<256^k*256
  omega
theorem Ab4(s:ByteArray){k:Nat}(h:k<=6):tickK s k<281474976710656:=
 Nat.lt_of_lt_of_le (Iw s k) (show 256^k<=256^6 from Nat.pow_le_pow_right (by decide) h)
def tickS(s:ByteArray):Int:=(tickK s 6:Nat)
theorem Gu{s:ByteArray}{i n:Nat}(h:i<n):bt (s.extract 0 n) i=bt s i:=by
 unfold bt
 rw[Lib.extract_data]
 simp[List.getD_eq_getElem?_getD,h]
theorem Og{s:ByteArray}{i n:Nat}:bt (s.extract n s.size) i=bt s (n+i):=by
 unfold bt
 rw[Lib.extract_data,List.take_of_length_le (by rw[List.length_drop];exact Nat.le_refl _)]
 simp[List.getD_eq_getElem?_getD]
theorem I9(s:ByteArray):tickS (s.extract 0 6)=tickS s:=by
 unfold tickS
 simp only[tickK]
 rw[Gu (by decide),Gu (by decide),Gu (by decide),Gu (by decide),Gu (by decide),Gu (by decide)]
theorem Qc{s:ByteArray}{i:Nat}:cnt (s.extract 6 s.size) i=cnt s (6+i):=by
 unfold cnt
 rw[Og,Og,Nat.add_assoc]
theorem Axi{a b:Nat}(ha:a<1099511627776)(hb:b<256):bits .or .i64 ((a:Int)*256) (b:Int)=((a*256+b:Nat):Int):=by
 rw[show(a:Int)*256=((a*256:Nat):Int)by omega]
 show IntKind.i64.wrap ((BitVec.ofInt 64 ((a*256:Nat):Int)|||BitVec.ofInt 64 (b:Int)).toNat:Int)=_
 have e:=Nat.two_pow_add_eq_or_of_lt (i:=8) (show b<2^8 by omega) a
 rw[BitVec.toNat_or,ofInt_u64 _ (by omega),ofInt_u64 b (by omega),show a*256=2^8*a by omega,<-e]
 rw[IntKind.wrap_i64]
 omega
theorem Atv{a b:Nat}(ha:a<256)(hb:b<256):bits .or .u16 ((a:Int)*256) (b:Int)=((a*256+b:Nat):Int):=by
 rw[show(a:Int)*256=((a*256:Nat):Int)by omega,u16_or_nat (a*256) b (by omega) (by omega)]
 have:=Nat.two_pow_add_eq_or_of_lt (i:=8) (show b<2^8 by omega) a
 rw[show a*256=2^8*a by omega,<-this]
def Oh(a:Int):Bool:=decide (-30000<=a/\a<=30000)
def DV(a b c:Int):Bool:=Oh a&&Oh b&&Oh c
def Qd(a b c:Int):V3:=(a*33554432,b*33554432,c*33554432)
def Qe(a b c:Int):V3×Bool:=
 let r0:=Aw false 1099511627776 a 100
 let r1:=Aw r0.2 1099511627776 b 100
 let r2:=Aw r1.2 1099511627776 c 100
 ((r0.1,r1.1,r2.1),r2.2)
def Ab5(a b c:Int):Int:=(Cn (Qe a b c).2 (Qe a b c).1).1
def VW(a b c:Int):Bool:=decide (1099511627776<=Ab5 a b c)&&decide (Ab5 a b c<=131941395333120)
def Aph(a b c d e f:Int):V3:=((a-b)*16777216,(c-d)*16777216,(e-f)*16777216)
def Ab6(a b c d e f:Int):V3×Bool:=CQ false (Aph a b c d e f)
def lit(a b c d e f:Int):Bool:=decide (2000<=a)||decide (2000<=b)||decide (2000<=c)||decide (2000<=d)||decide (2000<=e)||decide (2000<=f)
def Qf(a b c d e f:Int):Bool:=lit a b c d e f&& !(Ab6 a b c d e f).2
def GP(k:Int)(s:ByteArray)(o:Nat):V3:=
 if k=1 then Qd (sg (cnt s o)) (sg (cnt s (o+2))) (sg (cnt s (o+4)))
 else if k=3 then(Qe (sg (cnt s o)) (sg (cnt s (o+2))) (sg (cnt s (o+4)))).1
 else(Ab6 (cnt s o) (cnt s (o+2)) (cnt s (o+4)) (cnt s (o+6)) (cnt s (o+8)) (cnt s (o+10))).1
def Du(k:Int)(s:ByteArray)(o:Nat):Bool:=
 if k=1 then DV (sg (cnt s o)) (sg (cnt s (o+2))) (sg (cnt s (o+4)))
 else if k=3 then VW (sg (cnt s o)) (sg (cnt s (o+2))) (sg (cnt s (o+4)))
 else Qf (cnt s o) (cnt s (o+2)) (cnt s (o+4)) (cnt s (o+6)) (cnt s (o+8)) (cnt s (o+10))
def He(k:Int)(s:ByteArray):Bool:=(decide (k=1)&&decide (s.size=12))||(decide (k=3)&&decide (s.size=12))||(decide (k=2)&&decide (s.size=18))
def F5(k:Int)(s:ByteArray):Bool:=He k s&&cRight (tickS s)&&Du k s 6
def M7(k:Int)(s:ByteArray):Int×Int×V3:=if F5 k s then(k,tickS s,GP k s 6)else(0,0,0,0,0)
theorem B9{s:ByteArray}{i:Int}{n:Nat}(h:n<s.size)(hi:i=n)(W:World):(Instr.index 9 (.string s) (.int .i64 i)).run Tryz.prog W=.ok (.int .u8 (bt s n:Nat)) W:=by
 rw[run_index_string W 9 s .i64 i Tryz.underlying9,dif_pos (by omega)]
 have:i.toNat=n:=by omega
 simp only[this,Atu h]
theorem Bf{n:Nat}{x w:World}(h:Below n x w):Below n x w.drew:=⟨h.os,h.tape,h.output,h.size,h.block⟩
set_option maxHeartbeats 1000000 in
set_option maxRecDepth 100000 in
theorem M8 (s:ByteArray)(i:Int)(p:Nat)(w:World)(hi:i=p)(h:2*p+1<s.size)(hp:p<100):
    Calls Tryz.prog 293 #[.string s,.int .i64 i] w fun e w'=>e=.returned (.int .u16 (cnt s (2*p):Nat))/\Below w.heap.size w w':=by
 subst hi
 have i0:=B9 (s:=s) (i:=2*(p:Int)) (n:=2*p) (by omega) (by omega)
 have i1:=B9 (s:=s) (i:=2*(p:Int)+1) (n:=2*p+1) (by omega) (by omega)
 have b0:=CU s (2*p)
 have b1:=CU s (2*p+1)
 have HC:Hid (cnt s (2*p)=bt s (2*p)*256+bt s (2*p+1)):=rfl
 have w2:IntKind.i64.wrap (2*(p:Int))=2*(p:Int):=by rw[IntKind.wrap_i64];omega
 have w3:IntKind.i64.wrap (2*(p:Int)+1)=2*(p:Int)+1:=by rw[IntKind.wrap_i64];omega
 generalize bt s (2*p)=a at i0 b0 HC
 generalize bt s (2*p+1)=b at i1 b1 HC
 have ho:=Atv b0 b1
 rw[HC.out]
 go_enter Tryz.func293,Tryz.ntmps293
 go_wp2
 go_region
 go_wp2
 go_ret
 exact ⟨by have e:((a*256+b:Nat):Int)=(a:Int)*256+b:=by omega
           rw[e];rfl,Bf (Below.refl _ _)⟩
set_option maxHeartbeats 1000000 in
set_option maxRecDepth 100000 in
theorem Qg(s:ByteArray)(i:Int)(p:Nat)(w:World)(hi:i=p)(h:2*p+1<s.size)(hp:p<100):
    Calls Tryz.prog 289 #[.string s,.int .i64 i] w fun e w'=>e=.returned (.int .i64 (sg (cnt s (2*p))))/\Below w.heap.size w w':=by
 subst hi
 have hc:=fun W=>M8 s p p W rfl h hp
 have hl:=Eo s (2*p)
 generalize cnt s (2*p)=n at hc hl ⊢
 have HS:Hid (sg n=if 32768<=n then(n:Int)-65536 else n):=rfl
 have e16:IntKind.i16.wrap (n:Int)=sg n:=by
  rw[HS.out]
  simp[IntKind.wrap,IntKind.bits,IntKind.signed]
  split<;>split<;>omega
 have hr:=Ab3 hl
 have e64:IntKind.i64.wrap (sg n)=sg n:=by rw[IntKind.wrap_i64];omega
 go_enter Tryz.func289,Tryz.ntmps289
 go_wp2_with (go_at_call 293;refine(hc _).mono ?_;rintro e w1 ⟨rfl,hb1⟩)
 go_ret
 exact⟨rfl,hb1⟩
set_option maxHeartbeats 1000000 in
set_option maxRecDepth 100000 in
theorem Sz(s:ByteArray)(i:Int)(p:Nat)(w:World)(hi:i=p)(h:2*p+1<s.size)(hp:p<100):
    Calls Tryz.prog 290 #[.string s,.int .i64 i] w fun e w'=>e=.returned (.int .i64 (cnt s (2*p):Nat))/\Below w.heap.size w w':=by
 subst hi
 have hc:=fun W=>M8 s p p W rfl h hp
 have hl:=Eo s (2*p)
 generalize cnt s (2*p)=n at hc hl ⊢
 go_enter Tryz.func290,Tryz.ntmps290
 go_wp2_with (go_at_call 293;refine(hc _).mono ?_;rintro e w1 ⟨rfl,hb1⟩)
 go_ret
 exact⟨rfl,hb1⟩
set_option maxHeartbeats 1000000 in
set_option maxRecDepth 100000 in
theorem Qh(s:ByteArray)(w:World)(h:s.size=6):
    Calls Tryz.prog 208 #[.string s] w fun e w'=>e=.returned (.int .i64 (tickS s))/\Below w.heap.size w w':=by
 go_enter Tryz.func208,Tryz.ntmps208
 go_wp2
 go_loop [3,5] (fun r i=>∃k:Nat,k<=6/\i=.int .i64 k/\r=.int .i64 (tickK s k:Nat)) (fun _ i=>6-(intOf i).toNat)
 case atStart=>exact⟨0,by omega,rfl,rfl⟩
 case round=>
  obtain⟨k,hk,rfl,rfl⟩:=hrel
  by_cases c:k<6
  ·have hi:=B9 (s:=s) (i:=(k:Int)) (n:=k) (by omega) rfl
   have hb:=CU s k
   have ht:tickK s k<1099511627776:=Nat.lt_of_lt_of_le (Iw s k) (show 256^k<=256^5 from Nat.pow_le_pow_right (by decide) (by omega))
   have HT:Hid (tickK s (k+1)=tickK s k*256+bt s k):=rfl
   generalize tickK s k=t at ht HT ⊢
   generalize bt s k=b at hi hb HT
   have ho:=Axi ht hb
   go_wp2
   go_round
   case rel=>exact⟨k+1,by omega,by go_num,by rw[HT.out];show _=Value.int .i64 ((t*256+b:Nat):Int);rw[show((t*256+b:Nat):Int)=(t:Int)*256+b by omega]⟩
   case measure=>simp[intOf];omega
  ·obtain rfl:k=6:=by omega
   have HT:Hid (tickS s=(tickK s 6:Nat)):=rfl
   generalize tickK s 6=t at HT ⊢
   go_wp2
   go_ret
   exact⟨by rw[HT.out];rfl,Below.refl _ _⟩
def nCounts(k:Int):Int:=if k=1∨k=3 then 3 else if k=2 then 6 else 0
set_option maxHeartbeats 1000000 in
theorem F6(k:Int)(w:World):Calls Tryz.prog 66 #[.int .i64 k] w fun e w'=>e=.returned (.int .i64 (nCounts k))/\w=w':=by
 by_cases c1:k=1
 ·subst c1
  go_enter Tryz.func66,Tryz.ntmps66
  go_wp2
  go_ret
  exact⟨rfl,rfl⟩
 by_cases c3:k=3
 ·subst c3
  go_enter Tryz.func66,Tryz.ntmps66
  go_wp2
  go_ret
  exact⟨rfl,rfl⟩
 by_cases c2:k=2
 ·subst c2
  go_enter Tryz.func66,Tryz.ntmps66
  go_wp2
  go_ret
  exact⟨rfl,rfl⟩
 have e:nCounts k=0:=by unfold nCounts;rw[if_neg (by omega),if_neg (by omega)]
 have d1:(k==1)=false:=by simpa using c1
 have d2:(k==2)=false:=by simpa using c2
 have d3:(k==3)=false:=by simpa using c3
 rw[e]
 go_enter Tryz.func66,Tryz.ntmps66
 go_wp2
 go_ret
 exact⟨rfl,rfl⟩
def nBounds(k:Int):Int×Int:=if k=2 then(0,65535)else(-32768,32767)
set_option maxHeartbeats 1000000 in
theorem Qi(k:Int)(w:World):Calls Tryz.prog 68 #[.int .i64 k] w fun e w'=>e=.returned (.tuple #[.int .i64 (nBounds k).1,.int .i64 (nBounds k).2])/\w=w':=by
 by_cases c2:k=2
 ·subst c2
  go_enter Tryz.func68,Tryz.ntmps68
  go_wp2
  go_ret2
  exact⟨rfl,rfl⟩
 have e:nBounds k=(-32768,32767):=by unfold nBounds;rw[if_neg c2]
 have d2:(k==2)=false:=by simpa using c2
 rw[e]
 go_enter Tryz.func68,Tryz.ntmps68
 go_wp2
 go_ret2
 exact⟨rfl,rfl⟩
end Go.Proofs.YtgmpfeaanjnhaaaGreatDoor
namespace Go.Proofs.YtgmpfeaanjnhaaaGreatDoor
theorem Cf{P:Program}{c:Code}{Q:Exit->Act->World->Prop}{n:Nat}{a:Act}{w:World}{S:World->Prop}(hS:S w)(h:∀w',S w'->Code.rounds P c Q n a w'):Code.rounds P c Q n a w:=h w hS
open Go.RowKit
structure Stop(p:Prop):Prop where
 out:p
theorem Ae{P:Program}{fn:Func}{R:Ending->World->Prop}{e:Exit}{a:Act}{w:World}(h:Stop (bodyPost P fn R e a w)):bodyPost P fn R e a w:=h.out
theorem Ap.range{k:Nat}{l:List Value}{w:World}(A:Ap k l w):w.rangeAt k 0 l:=fun j v hv=>by
 obtain⟨hj,rfl⟩:=List.getElem?_eq_some_iff.1 hv
 rw[Nat.zero_add]
 exact A.c j hj
theorem Ax{fn:Func}{p:Tmp}{ty:TypeId}(h:fn.results=#[.cell p ty]){tmps:Array Value}{w:World}{k:Nat}{l:List Value}(A:Ap k l w)
    (hp:tmps.getD p undef=.pointer (some ⟨k,0,none⟩)) (hd:(Tryz.prog.underlying ty).any TypeDesc.isRow=true) (hi:(Tryz.prog.info? ty).map (·.size)=some l.length):
    (results fn tmps).run Tryz.prog w=.ok (.agg l.toArray) w:=by
 cases hu:Tryz.prog.underlying ty with
 |none=>rw[hu]at hd;cases hd
 |some d=>
  rw[hu]at hd
  have hp':tmps[p]?.getD undef=.pointer (some ⟨k,0,none⟩):=by simpa using hp
  simp[results,h,hp',asAddr,run_loadVar_mid w k 0 ty l d A.range hu hd hi]
theorem Ix(g j:Nat):((⟨g,0,none⟩:Addr).add j)=⟨g,j,none⟩:=by cases j<;>simp[Addr.add]
def u8s(l:List Int):List Value:=l.map fun b=>.int .u8 b
def Bg(B:Nat)(w:World)(v:Value)(l:List Int):Prop:=w.ownsRow B 5 1 v l.length (u8s l)
theorem M9:(Tryz.prog.info? 5).map (fun i=>(i.zero,i.size,i.bytes))=some (some (.int .u8 0),1,1):=by kernel_rfl
theorem Bg.same{B:Nat}{w w':World}{v:Value}{l:List Int}(h:Bg B w v l)(hb:Below w.heap.size w w'):Bg B w' v l:=by
 refine⟨h.1,?_⟩
 rcases h.2 with hn |⟨g,cap,cur,rfl,hg,hgg,rest⟩
 ·exact .inl hn
 ·exact .inr ⟨g,cap,cur,rfl,hg,by rw[hb.block g (Array.getElem?_eq_some_iff.1 hgg).1];exact hgg,rest⟩
theorem Bg.new{B:Nat}{w:World}{v:Value}{l:List Int}(h:Bg B w v l)(q o:Nat)(hq:q<B)(u:Value):Bg B (w.setCell ⟨q,o,none⟩ u) v l:=by
 refine⟨h.1,?_⟩
 rcases h.2 with hn |⟨g,cap,cur,rfl,hg,hgg,rest⟩
 ·exact .inl hn
 ·exact .inr ⟨g,cap,cur,rfl,hg,by rw[Below.heap_setCell _ _ _ _ (by show g≠q;omega)];exact hgg,rest⟩
theorem Bg.base{B B':Nat}{w:World}{v:Value}{l:List Int}(h:Bg B' w v l)(hB:B<=B'):Bg B w v l:=
 ⟨h.1,h.2.imp id (fun⟨g,cap,cur,a,b,c⟩=>⟨g,cap,cur,a,Nat.le_trans hB b,c⟩)⟩
theorem Ap.under{k B:Nat}{l:List Value}{w w':World}(h:Ap k l w)(hb:Below B w w')(hk:k<B)(hs:w.heap.size<=w'.heap.size):Ap k l w':=h.same (hb.block k hk) hs
theorem Ja:∃i,Tryz.prog.info? 5=some i/\i.zero=some (.int .u8 0)/\i.size=1/\i.bytes=1:=by
 have h:=M9
 cases e:Tryz.prog.info? 5 with
 |none=>rw[e]at h;cases h
 |some i=>
  rw[e]at h
  simp at h
  exact⟨i,rfl,h.1,h.2.1,h.2.2⟩
theorem AN{ops:Array Oper}{rest:List Oper}{o:Oper}{a:Act}{Q:Exit->Act->World->Prop}(hgd:o.guard=none)(s x:Operand)
    (ho:o.op=.call {callee:=.builtin .append,args:=#[s,x],argTypes:=#[56,56]}) (B:Nat) (v:Value) (l news:List Int) (w0:World) (hs:a.eval s=v) (hown:Bg B w0 v l)
    (hx:a.eval x=.slice (some ⟨w0.heap.size,0,none⟩) news.length news.length) (hl:l.length+news.length<=100) (hB:B<=w0.heap.size)
    (h:∀v' w',Bg B w' v' (l++news)->Below B w0 w'->w0.heap.size<=w'.heap.size->wpList Tryz.prog ops Q rest (a.put o.dst v') w'):wpList Tryz.prog ops Q (o::rest) a (w0.alloc (.cells (u8s news).toArray 5)):=by
 obtain⟨i,hi,hz,hsz,hby⟩:=Ja
 have hown':=hown.same ((Below.refl _ _).alloc (Nat.le_refl _) (.cells (u8s news).toArray 5))
 refine wpList_append_own _ hgd s x 56 ho B 5 i (.int .u8 0) 1 1 Tryz.underlying56 hi hz hsz hby rfl (by decide) v l.length (u8s l) hs hown' ⟨w0.heap.size,0,none⟩ news.length news.length (u8s news) hx (by simp[u8s]) ?_ ?_ (by unfold maxLen;omega) (by omega) (by simp;omega) ?_
 ·intro j u hj
  have A:=Am w0 w0.heap.size (u8s news) 5 rfl
  obtain⟨hj',rfl⟩:=List.getElem?_eq_some_iff.1 hj
  rw[Ix]
  exact A.c j hj'
 ·intro u hu
  unfold u8s at hu
  obtain⟨b,_,rfl⟩:=List.mem_map.1 hu
  rfl
 ·intro v' w' h1 h2 _
  have hbel:Below B w0 w':=((Below.refl B w0).alloc hB _).grown h2 (by simp;omega) (fun k hk=>(World.ownsRow.lt hown k hk).1)
  refine h v' w' ?_ hbel (by have:=h2.size;simp at this;omega)
  show w'.ownsRow B 5 1 v' (l++news).length (u8s (l++news))
  rw[List.length_append,show u8s (l++news)=u8s l++u8s news by simp[u8s]]
  exact h1
def strOf(l:List Int):ByteArray:=⟨(l.map fun b=>UInt8.ofNat b.toNat).toArray⟩
theorem C9{B:Nat}{w:World}{v:Value}{l:List Int}(h:Bg B w v l)(hne:l≠[])(hr:∀b∈l,0<=b/\b<256):(convert 56 9 v).run Tryz.prog w=.ok (.string (strOf l)) w:=by
 have H:=h
 rcases h.2 with⟨rfl,h0⟩|⟨g,cap,cur,rfl,hg,hgg,hn,rest⟩
 ·exact absurd (List.length_eq_zero_iff.1 h0) hne
 ·have H':w.ownsRow B 5 1 (.slice (some ⟨g,0,none⟩) l.length cap) l.length (u8s l):=H
  have e:l.length=(l.map fun b=>UInt8.ofNat b.toNat).length:=by simp
  have hc:=run_convert_bytes_back w 56 9 5 ⟨g,0,none⟩ cap (l.map fun b=>UInt8.ofNat b.toNat) Tryz.underlying56 Tryz.underlying5 Tryz.underlying9 (fun j hj=>by
   have hj':j<l.length:=by rw[e];exact hj
   have hb:=hr l[j] (List.getElem_mem hj')
   have:=H'.cellAt j (by omega)
   rw[Ix,this]
   unfold u8s
   simp[hj']
   omega)
  rw[<-e]at hc
  exact hc
def tickL(t:Int):List Int:=[IntKind.u8.wrap (t / 1099511627776),IntKind.u8.wrap (t / 4294967296),IntKind.u8.wrap (t / 16777216),IntKind.u8.wrap (t / 65536),IntKind.u8.wrap (t / 256),IntKind.u8.wrap t]
set_option maxHeartbeats 2000000 in
set_option maxRecDepth 100000 in
theorem Qj(t:Int)(w:World):
    Calls Tryz.prog 69 #[.int .i64 t] w fun e w'=>∃v,e=.returned v/\Bg w.heap.size w' v (tickL t)/\Below w.heap.size w w':=by
 go_enter Tryz.func69,Tryz.ntmps69
 go_wp2_with fail
 refine wp_loop_rounds 7 ?_
 rw[rounds_succ]
 go_wp2_with (at_builtin;refine AN rfl (.tmp 8) (.tmp 15) rfl w.heap.size (.slice none 0 0) [] [IntKind.u8.wrap (t / 1099511627776)] w rfl (World.ownsRow_nil _ _ _ _) rfl (Nat.le_of_ble_eq_true rfl) (Nat.le_refl _) ?_;intro v1 w1 o1 b1 s1)
 have z1:w.heap.size<=w1.heap.size:=Nat.le_trans (Nat.le_refl _) s1
 rw[List.nil_append]at o1
 rw[rounds_succ]
 go_wp2_with (at_builtin;refine AN rfl (.tmp 8) (.tmp 15) rfl w.heap.size v1 [IntKind.u8.wrap (t / 1099511627776)] [IntKind.u8.wrap (t / 4294967296)] w1 rfl o1 rfl (Nat.le_of_ble_eq_true rfl) z1 ?_;intro v2 w2 o2 b2 s2)
 have z2:w.heap.size<=w2.heap.size:=Nat.le_trans z1 s2
 have b2:=b1.trans b2
 clear b1 s2 o1 z1
 simp only[List.cons_append,List.nil_append]at o2
 rw[rounds_succ]
 go_wp2_with (at_builtin;refine AN rfl (.tmp 8) (.tmp 15) rfl w.heap.size v2 [IntKind.u8.wrap (t / 1099511627776),IntKind.u8.wrap (t / 4294967296)] [IntKind.u8.wrap (t / 16777216)] w2 rfl o2 rfl (Nat.le_of_ble_eq_true rfl) z2 ?_;intro v3 w3 o3 b3 s3)
 have z3:w.heap.size<=w3.heap.size:=Nat.le_trans z2 s3
 have b3:=b2.trans b3
 clear b2 s3 o2 z2
 simp only[List.cons_append,List.nil_append]at o3
 rw[rounds_succ]
 go_wp2_with (at_builtin;refine AN rfl (.tmp 8) (.tmp 15) rfl w.heap.size v3 [IntKind.u8.wrap (t / 1099511627776),IntKind.u8.wrap (t / 4294967296),IntKind.u8.wrap (t / 16777216)] [IntKind.u8.wrap (t / 65536)] w3 rfl o3 rfl (Nat.le_of_ble_eq_true rfl) z3 ?_;intro v4 w4 o4 b4 s4)
 have z4:w.heap.size<=w4.heap.size:=Nat.le_trans z3 s4
 have b4:=b3.trans b4
 clear b3 s4 o3 z3
 simp only[List.cons_append,List.nil_append]at o4
 rw[rounds_succ]
 go_wp2_with (at_builtin;refine AN rfl (.tmp 8) (.tmp 15) rfl w.heap.size v4 [IntKind.u8.wrap (t / 1099511627776),IntKind.u8.wrap (t / 4294967296),IntKind.u8.wrap (t / 16777216),IntKind.u8.wrap (t / 65536)] [IntKind.u8.wrap (t / 256)] w4 rfl o4 rfl (Nat.le_of_ble_eq_true rfl) z4 ?_;intro v5 w5 o5 b5 s5)
 have z5:w.heap.size<=w5.heap.size:=Nat.le_trans z4 s5
 have b5:=b4.trans b5
 clear b4 s5 o4 z4
 simp only[List.cons_append,List.nil_append]at o5
 rw[rounds_succ]
 go_wp2_with (at_builtin;refine AN rfl (.tmp 8) (.tmp 15) rfl w.heap.size v5 [IntKind.u8.wrap (t / 1099511627776),IntKind.u8.wrap (t / 4294967296),IntKind.u8.wrap (t / 16777216),IntKind.u8.wrap (t / 65536),IntKind.u8.wrap (t / 256)] [IntKind.u8.wrap t] w5 rfl o5 rfl (Nat.le_of_ble_eq_true rfl) z5 ?_;intro v6 w6 o6 b6 s6)
 have z6:w.heap.size<=w6.heap.size:=Nat.le_trans z5 s6
 have b6:=b5.trans b6
 clear b5 s6 o5 z5
 simp only[List.cons_append,List.nil_append]at o6
 rw[rounds_succ]
 go_wp2_with (with_reducible refine Ae ?_)
 exact⟨bodyPost_ret (v:=v6) (by simp[results,Tryz.results69,go_sem]) rfl ⟨v6,rfl,o6,b6⟩⟩
theorem Qk(x:Int):0<=IntKind.u8.wrap x/\IntKind.u8.wrap x<256:=by
 rw[IntKind.wrap_u8]
 omega
structure Tl where
 t:Int
 m:Int
 fa:Int
 ak:Int
 er:Int
 rj:Int
 q0:Int
 q1:Int
 q2:Int
 q3:Int
 d0:Int
 d1:Int
 d2:Int
def tl0:Tl:=⟨0,0,0,0,0,0,0,0,0,0,0,0,0⟩
def inR(n a b:Int):Bool:=decide (a<=n)&&decide (n<=b)
theorem Gv{n a b:Int}:inR n a b=true↔a<=n/\n<=b:=by
 unfold inR
 simp
def tlOk(T:Tl):Bool:=cRight T.t&&inR T.m 0 3&&inR T.fa 0 15&&inR T.ak 0 255&&inR T.er 0 255&&inR T.rj 0 65535&&inR T.q0 (-32768) 32767&&inR T.q1 (-32768) 32767&&inR T.q2 (-32768) 32767&&inR T.q3 (-32768) 32767&&inR T.d0 (-32768) 32767&&inR T.d1 (-32768) 32767&&inR T.d2 (-32768) 32767
structure Atw(T:Tl):Prop where
 t:0<=T.t/\T.t<=157766400000
 m:0<=T.m/\T.m<=3
 fa:0<=T.fa/\T.fa<=15
 ak:0<=T.ak/\T.ak<=255
 er:0<=T.er/\T.er<=255
 rj:0<=T.rj/\T.rj<=65535
 q0:-32768<=T.q0/\T.q0<=32767
 q1:-32768<=T.q1/\T.q1<=32767
 q2:-32768<=T.q2/\T.q2<=32767
 q3:-32768<=T.q3/\T.q3<=32767
 d0:-32768<=T.d0/\T.d0<=32767
 d1:-32768<=T.d1/\T.d1<=32767
 d2:-32768<=T.d2/\T.d2<=32767
theorem Atx{T:Tl}(h:tlOk T=true):Atw T:=by
 unfold tlOk cRight at h
 simp only[Bool.and_eq_true,Gv,decide_eq_true_eq]at h
 obtain⟨⟨⟨⟨⟨⟨⟨⟨⟨⟨⟨⟨⟨h0,h1⟩,h2⟩,h3⟩,h4⟩,h5⟩,h6⟩,h7⟩,h8⟩,h9⟩,h10⟩,h11⟩,h12⟩,h13⟩:=h
 exact⟨⟨h0,h1⟩,h2,h3,h4,h5,h6,h7,h8,h9,h10,h11,h12,h13⟩
def Cc(n:Int):List Int:=[IntKind.u8.wrap (IntKind.u16.wrap n / 256),IntKind.u8.wrap (IntKind.u16.wrap n)]
def tlL(T:Tl):List Int:=[IntKind.u8.wrap (T.t / 1099511627776),IntKind.u8.wrap (T.t / 4294967296),IntKind.u8.wrap (T.t / 16777216),IntKind.u8.wrap (T.t / 65536),IntKind.u8.wrap (T.t / 256),IntKind.u8.wrap T.t,T.m,T.fa,T.ak,T.er,IntKind.u8.wrap (IntKind.u16.wrap T.rj / 256),IntKind.u8.wrap (IntKind.u16.wrap T.rj),IntKind.u8.wrap (IntKind.u16.wrap T.q0 / 256),IntKind.u8.wrap (IntKind.u16.wrap T.q0),IntKind.u8.wrap (IntKind.u16.wrap T.q1 / 256),IntKind.u8.wrap (IntKind.u16.wrap T.q1),IntKind.u8.wrap (IntKind.u16.wrap T.q2 / 256),IntKind.u8.wrap (IntKind.u16.wrap T.q2),IntKind.u8.wrap (IntKind.u16.wrap T.q3 / 256),IntKind.u8.wrap (IntKind.u16.wrap T.q3),IntKind.u8.wrap (IntKind.u16.wrap T.d0 / 256),IntKind.u8.wrap (IntKind.u16.wrap T.d0),IntKind.u8.wrap (IntKind.u16.wrap T.d1 / 256),IntKind.u8.wrap (IntKind.u16.wrap T.d1),IntKind.u8.wrap (IntKind.u16.wrap T.d2 / 256),IntKind.u8.wrap (IntKind.u16.wrap T.d2)]
def tlW(T:Tl):Int×ByteArray:=if tlOk T then(32,strOf (tlL T))else(0,⟨#[]⟩)
def tlE(s:ByteArray):Tl:=⟨tickS s,(bt s 6:Nat),(bt s 7:Nat),(bt s 8:Nat),(bt s 9:Nat),(cnt s 10:Nat),sg (cnt s 12),sg (cnt s 14),sg (cnt s 16),sg (cnt s 18),sg (cnt s 20),sg (cnt s 22),sg (cnt s 24)⟩
def tlR(k:Int)(s:ByteArray):Tl×Bool:=if k=32/\s.size=26/\tlOk (tlE s)=true then(tlE s,true)else(tl0,false)
theorem Ai9{T:Tl}(h:Atw T):∀b∈tlL T,0<=b/\b<256:=by
 intro b hb
 unfold tlL at hb
 simp only[List.mem_cons,List.not_mem_nil,or_false]at hb
 have h1:=h.m
 have h2:=h.fa
 have h3:=h.ak
 have h4:=h.er
 rcases hb with rfl |rfl |rfl |rfl |rfl |rfl |rfl |rfl |rfl |rfl |rfl |rfl |rfl |rfl |rfl |rfl |rfl |rfl |rfl |rfl |rfl |rfl |rfl |rfl |rfl |rfl<;>first |exact Qk _ |omega
def Oi(r:Int×Bool):Int×Bool:=if inR r.1 (-32768) 32767 then r else(0,true)
def Z9(q:Int×Int×Int×Int)(m:V3):(Int×Int×Int×Int)×V3:=
 let p0:=Oi (Aw false q.1 1 67108864)
 let p1:=Oi (Aw p0.2 q.2.1 1 67108864)
 let p2:=Oi (Aw p1.2 q.2.2.1 1 67108864)
 let p3:=Oi (Aw p2.2 q.2.2.2 1 67108864)
 let p4:=Oi (Aw p3.2 m.1 10000 1099511627776)
 let p5:=Oi (Aw p4.2 m.2.1 10000 1099511627776)
 let p6:=Oi (Aw p5.2 m.2.2 10000 1099511627776)
 if p6.2 then((0,0,0,0),(0,0,0))else((p0.1,p1.1,p2.1,p3.1),(p4.1,p5.1,p6.1))
def Api:Ct Tryz.prog:=B7 Tryz.prog 139 Anf (fun _ _=>((),true)) cU (Af Tryz.func139 (by kernel_rfl) (by kernel_rfl)) (fun b bad _ w _ _ hw=>Bm b bad w hw)
def Ab7:Ct Tryz.prog:=B7 Tryz.prog 168 (Ad cI (Ad cI (Ac cI))) (fun bad x=>Aw bad x.1 x.2.1 x.2.2) cI (Af Tryz.func168 (by kernel_rfl) (by kernel_rfl)) (fun b bad x w _ _ hw=>Cl b bad x.1 x.2.1 x.2.2 w hw)
def tcV(bad:Bool)(c:Int):Int×Bool:=if c< -32768 then(0,true)else if c>32767 then(0,true)else(c,bad)
theorem Apj(bad:Bool)(c:Int):tcV bad c=Oi (c,bad):=by
 unfold tcV Oi inR
 by_cases h0:c< -32768
 ·rw[if_pos h0,if_neg (by simp;omega)]
 rw[if_neg h0]
 by_cases h1:c>32767
 ·rw[if_pos h1,if_neg (by simp;omega)]
 ·rw[if_neg h1,if_pos (by simp;omega)]
theorem XP:Ba Tryz.prog 185 (Ac cI) (fun bad x=>tcV bad x) cI:=VK (tbl:=[Api]) (dirty:=fun _=>[]) (n:=4) Ag Tryz.func185 rfl (fun bad x Post=>by
    refine Eq.trans (b:=?m) ?x (Eq.symm ?y)
    case y=>unfold tcV;simp only[<-Aa1 (K:=PK cI Post)];exact rfl
    case x=>kernel_rfl)
def Aja:Ct Tryz.prog:=B7 Tryz.prog 185 (Ac cI) (fun bad x=>Oi (x,bad)) cI (Af Tryz.func185 (by kernel_rfl) (by kernel_rfl)) (fun b bad x w h1 h2 h3=>by have:=XP b bad x w h1 h2 h3;dsimp only at this ⊢;rw[Apj]at this;exact this)
abbrev qT(q:Tup 4):Int×Int×Int×Int:=(q.1,q.2.1,q.2.2.1,q.2.2.2.1)
abbrev mT(m:Tup 3):V3:=(m.1,m.2.1,m.2.2.1)
def XQ(r:(Int×Int×Int×Int)×V3):Tup 4×Tup 3:=((r.1.1,r.1.2.1,r.1.2.2.1,r.1.2.2.2,()),(r.2.1,r.2.2.1,r.2.2.2,()))
def Aty(q:Tup 4)(m:Tup 3)(K:Tup 4×Tup 3->Prop):Prop:=
 let p0:=Oi (Aw false q.1 1 67108864)
 let p1:=Oi (Aw p0.2 q.2.1 1 67108864)
 let p2:=Oi (Aw p1.2 q.2.2.1 1 67108864)
 let p3:=Oi (Aw p2.2 q.2.2.2.1 1 67108864)
 let p4:=Oi (Aw p3.2 m.1 10000 1099511627776)
 let p5:=Oi (Aw p4.2 m.2.1 10000 1099511627776)
 let p6:=Oi (Aw p5.2 m.2.2.1 10000 1099511627776)
 DY p6.2 (K (XQ ((0,0,0,0),(0,0,0)))) (K (XQ ((p0.1,p1.1,p2.1,p3.1),(p4.1,p5.1,p6.1))))
theorem Ajb(q:Tup 4)(m:Tup 3)(K:Tup 4×Tup 3->Prop):Aty q m K=K (XQ (Z9 (qT q) (mT m))):=by
 unfold Aty Z9
 dsimp only
 rw[CX (K:=fun r=>K (XQ r))]
theorem SA:Az Tryz.prog 113 (Ad (cT 4) (Ac (cT 3))) (fun x=>XQ (Z9 (qT x.1) (mT x.2))) (AV (cT 4) (cT 3)):=AS (tbl:=[Ab7,Aja]) (dirty:=fun _=>[]) (n:=6) Ag Tryz.func113 rfl (fun x Post=>by
    rw[<-Ajb x.1 x.2 (PJ (AV (cT 4) (cT 3)) Post)]
    kernel_rfl)
set_option maxRecDepth 100000
set_option maxHeartbeats 20000000
theorem XR(b:Nat)(bad:Bool)(v:V3)(w:World)(hw:Fl b bad w):
    Calls Tryz.prog 213 #[.pointer (some ⟨b,0,none⟩),.agg #[.int .i64 v.1,.int .i64 v.2.1,.int .i64 v.2.2]] w fun e w'=>e=.returned (.agg #[.int .i64 (I8 bad v).1.1,.int .i64 (I8 bad v).1.2.1,.int .i64 (I8 bad v).1.2.2])/\Fl b (I8 bad v).2 w'/\Aa b w w':=by
 have hc:=hw.cell
 have hl:=hw.lies
 have HW:Hid _:=hw
 clear hw
 cases bad
 ·go_enter Tryz.func213,Tryz.ntmps213
  go_wp2
  refine bodyPost_ret (v:=.agg #[.int .i64 v.1,.int .i64 v.2.1,.int .i64 v.2.2]) (by simp[results,Tryz.results213,go_sem]) rfl ?_
  exact⟨rfl,(HW.out.alloc _).alloc _,((Aa.refl _ _).al _).al _⟩
 ·go_enter Tryz.func213,Tryz.ntmps213
  go_wp2
  refine bodyPost_ret (v:=.agg #[.int .i64 0,.int .i64 0,.int .i64 0]) (by simp[results,Tryz.results213,go_sem]) rfl ?_
  exact⟨rfl,(HW.out.alloc _).alloc _,((Aa.refl _ _).al _).al _⟩
theorem SB(b:Nat)(bad:Bool)(p:V3)(k:Int)(w:World)(hw:Fl b bad w):
    Calls Tryz.prog 156 #[.pointer (some ⟨b,0,none⟩),.agg #[.int .i64 p.1,.int .i64 p.2.1,.int .i64 p.2.2],.int .i64 k] w fun e w'=>e=.returned (.agg #[.int .i64 ((Ci bad p k).1.1),.int .i64 ((Ci bad p k).1.2.1),.int .i64 ((Ci bad p k).1.2.2)])/\Fl b (Ci bad p k).2 w'/\Aa b w w':=by
 have hl:=hw.lies
 go_enter Tryz.func156,Tryz.ntmps156
 go_wp2_with fail
 refine wp_region_held_drew (S:=fun w'=>Ap w.heap.size [.int .i64 p.1,.int .i64 p.2.1,.int .i64 p.2.2] w') (by kernel_rfl) ((Am _ _ [.int .i64 p.1,.int .i64 p.2.1,.int .i64 p.2.2] _ (by simp)).alloc _).drew (fun zH=>?_)
 refine zT 0 rfl (by kernel_rfl) (fun _ _ _=>id) rfl (fun _ _=>by go_simp<;>with_reducible rfl) zH ?_
 simp only[Act.put,zA,zB,zC]
 refine zT 1 rfl (by kernel_rfl) (fun _ _ _=>id) rfl (fun _ _=>by go_simp<;>with_reducible rfl) zH ?_
 simp only[Act.put,zA,zB,zC]
 refine zT 2 rfl (by kernel_rfl) (fun _ _ _=>id) rfl (fun _ _=>by go_simp<;>with_reducible rfl) zH ?_
 simp only[Act.put,zA,zB,zC]
 refine zT 3 rfl (by kernel_rfl) (fun _ _ _=>id) rfl (fun wx hS=>by have hc0:wx.cell? ⟨w.heap.size,0,none⟩=some (.int .i64 p.1):=hS.c 0 (zD rfl);go_simp<;>with_reducible rfl) zH ?_
 simp only[Act.put,zA,zB,zC]
 refine zT 4 rfl (by kernel_rfl) (fun _ _ _=>id) rfl (fun _ _=>by go_simp<;>with_reducible rfl) zH ?_
 simp only[Act.put,zA,zB,zC]
 refine zT 6 rfl (by kernel_rfl) (fun _ _ _=>id) rfl (fun _ _=>by go_simp<;>with_reducible rfl) zH ?_
 simp only[Act.put,zA,zB,zC]
 refine zT 7 rfl (by kernel_rfl) (fun _ _ _=>id) rfl (fun _ _=>by go_simp<;>with_reducible rfl) zH ?_
 simp only[Act.put,zA,zB,zC]
 refine zT 8 rfl (by kernel_rfl) (fun _ _ _=>id) rfl (fun wx hS=>by have hc1:wx.cell? ⟨w.heap.size,1,none⟩=some (.int .i64 p.2.1):=hS.c 1 (zD rfl);go_simp<;>with_reducible rfl) zH ?_
 simp only[Act.put,zA,zB,zC]
 refine zT 9 rfl (by kernel_rfl) (fun _ _ _=>id) rfl (fun _ _=>by go_simp<;>with_reducible rfl) zH ?_
 simp only[Act.put,zA,zB,zC]
 refine zT 11 rfl (by kernel_rfl) (fun _ _ _=>id) rfl (fun _ _=>by go_simp<;>with_reducible rfl) zH ?_
 simp only[Act.put,zA,zB,zC]
 refine zT 12 rfl (by kernel_rfl) (fun _ _ _=>id) rfl (fun _ _=>by go_simp<;>with_reducible rfl) zH ?_
 simp only[Act.put,zA,zB,zC]
 refine zT 13 rfl (by kernel_rfl) (fun _ _ _=>id) rfl (fun wx hS=>by have hc2:wx.cell? ⟨w.heap.size,2,none⟩=some (.int .i64 p.2.2):=hS.c 2 (zD rfl);go_simp<;>with_reducible rfl) zH ?_
 simp only[Act.put,zA,zB,zC]
 refine zT 14 rfl (by kernel_rfl) (fun _ _ _=>id) rfl (fun _ _=>by go_simp<;>with_reducible rfl) zH ?_
 simp only[Act.put,zA,zB,zC]
 refine zK 5 (by kernel_rfl) rfl (fun K hK=>?_)
 go_simp
 refine(Ak b bad p.1 k _ ((hw.alloc _).alloc _).drew).mono ?_
 rintro e w1 ⟨rfl,f1,k1⟩
 generalize e1:mulS bad p.1 k=r1 at f1 ⊢
 have E1:Hid _:=e1
 clear e1
 have K1:Aa b w w1:=Aa.trans (((Aa.refl b w).al _).al _).drew k1
 have B0_1:Ap w.heap.size [.int .i64 p.1,.int .i64 p.2.1,.int .i64 p.2.2] w1:=((Am _ _ [.int .i64 p.1,.int .i64 p.2.1,.int .i64 p.2.2] _ (by simp)).alloc _).drew.kept k1 (by omega)
 have B1_1:Ap (w.heap.size+1) [.int .i64 0,.int .i64 0,.int .i64 0] w1:=(Am _ _ [.int .i64 0,.int .i64 0,.int .i64 0] _ (by simp)).drew.kept k1 (by omega)
 have z1:=B1_1.lies
 clear zH
 refine hK.out _ _ B0_1 (fun zH=>?_)
 clear hK K k1
 refine zK 10 (by kernel_rfl) rfl (fun K hK=>?_)
 go_simp
 refine(Ak b r1.2 p.2.1 k _ f1).mono ?_
 rintro e w2 ⟨rfl,f2,k2⟩
 generalize e2:mulS r1.2 p.2.1 k=r2 at f2 ⊢
 have E2:Hid _:=e2
 clear e2
 have K2:=Aa.trans K1 k2
 have B0_2:=B0_1.kept k2 (by omega)
 have B1_2:=B1_1.kept k2 (by omega)
 have z2:=B1_2.lies
 clear zH
 refine hK.out _ _ B0_2 (fun zH=>?_)
 clear hK K K1 f1 B0_1 B1_1 k2
 refine zK 15 (by kernel_rfl) rfl (fun K hK=>?_)
 go_simp
 refine(Ak b r2.2 p.2.2 k _ f2).mono ?_
 rintro e w3 ⟨rfl,f3,k3⟩
 generalize e3:mulS r2.2 p.2.2 k=r3 at f3 ⊢
 have E3:Hid _:=e3
 clear e3
 have K3:=Aa.trans K2 k3
 have B0_3:=B0_2.kept k3 (by omega)
 have B1_3:=B1_2.kept k3 (by omega)
 have z3:=B1_3.lies
 clear zH
 refine hK.out _ _ B0_3 (fun zH=>?_)
 clear hK K K2 f2 B0_2 B1_2 k3
 refine zT 16 rfl (by kernel_rfl) (fun _ _ _=>id) rfl (fun _ _=>by go_simp<;>with_reducible rfl) zH ?_
 simp only[Act.put,zA,zB,zC]
 refine zK 17 (by kernel_rfl) rfl (fun K hK=>?_)
 go_simp
 refine(XR b r3.2 (r1.1,r2.1,r3.1) _ f3).mono ?_
 rintro e w4 ⟨rfl,f4,k4⟩
 generalize e4:I8 r3.2 (r1.1,r2.1,r3.1)=r4 at f4 ⊢
 have E4:Hid _:=e4
 clear e4
 have K4:=Aa.trans K3 k4
 have B0_4:=B0_3.kept k4 (by omega)
 have B1_4:=B1_3.kept k4 (by omega)
 have z4:=B1_4.lies
 clear zH
 refine hK.out _ _ B0_4 (fun zH=>?_)
 clear hK K K3 f3 B0_3 B1_3 k4
 refine zK 18 (by kernel_rfl) rfl (fun K hK=>?_)
 have c2_B1_0:w4.cell? ⟨w.heap.size+1,0,none⟩=some (.int .i64 0):=B1_4.c 0 (zD rfl)
 have c2_B1_1:w4.cell? ⟨w.heap.size+1,1,none⟩=some (.int .i64 0):=B1_4.c 1 (zD rfl)
 have c2_B1_2:w4.cell? ⟨w.heap.size+1,2,none⟩=some (.int .i64 0):=B1_4.c 2 (zD rfl)
 have g2_B1_0:=B1_4.f 0 (zD rfl)
 have g2_B1_1:=B1_4.f 1 (zD rfl)
 have g2_B1_2:=B1_4.f 2 (zD rfl)
 go_simp
 clear zH
 refine hK.out _ _ (((B0_4.new _ _ (by omega) _).new _ _ (by omega) _).new _ _ (by omega) _) (fun zH=>?_)
 clear hK K c2_B1_0 c2_B1_1 c2_B1_2 g2_B1_0 g2_B1_1 g2_B1_2
 refine wpAnyH_done (by kernel_rfl) ?_ _
 clear zH
 go_wp2
 have d0:=Ap.c (B1_4.put 0 (zD rfl) (.int .i64 r4.1.1) [.int .i64 r4.1.1,.int .i64 0,.int .i64 0] rfl) 0 (zD rfl)
 have d1:=Ap.c ((B1_4.put 0 (zD rfl) (.int .i64 r4.1.1) [.int .i64 r4.1.1,.int .i64 0,.int .i64 0] rfl).put 1 (zD rfl) (.int .i64 r4.1.2.1) [.int .i64 r4.1.1,.int .i64 r4.1.2.1,.int .i64 0] rfl) 1 (zD rfl)
 have d2:=Ap.c (((B1_4.put 0 (zD rfl) (.int .i64 r4.1.1) [.int .i64 r4.1.1,.int .i64 0,.int .i64 0] rfl).put 1 (zD rfl) (.int .i64 r4.1.2.1) [.int .i64 r4.1.1,.int .i64 r4.1.2.1,.int .i64 0] rfl).put 2 (zD rfl) (.int .i64 r4.1.2.2) [.int .i64 r4.1.1,.int .i64 r4.1.2.1,.int .i64 r4.1.2.2] rfl) 2 (zD rfl)
 refine bodyPost_ret (v:=.agg #[.int .i64 r4.1.1,.int .i64 r4.1.2.1,.int .i64 r4.1.2.2]) (by simp[results,Tryz.results156,go_sem,d0,d1,d2]) rfl ?_
 have hs:Ci bad p k=(r4.1,r4.2):=by unfold Ci;simp only[E1.out,E2.out,E3.out,E4.out]
 rw[hs]
 exact⟨rfl,(((f4.new _ _ (by omega) _).new _ _ (by omega) _).new _ _ (by omega) _),(((K4.new _ _ (by omega) _).new _ _ (by omega) _).new _ _ (by omega) _)⟩
theorem Dv(b:Nat)(bad:Bool)(p:V3)(w:World)(hw:Fl b bad w):
    Calls Tryz.prog 104 #[.pointer (some ⟨b,0,none⟩),.agg #[.int .i64 p.1,.int .i64 p.2.1,.int .i64 p.2.2]] w fun e w'=>e=.returned (.int .i64 ((Cn bad p).1))/\Fl b (Cn bad p).2 w'/\Aa b w w':=by
 have hl:=hw.lies
 go_enter Tryz.func104,Tryz.ntmps104
 go_wp2_with fail
 refine(Qa b bad p.1 p.2.1 p.2.2 _ (hw.alloc _)).mono ?_
 rintro e w1 ⟨rfl,f1,k1⟩
 generalize e1:By bad p.1 p.2.1 p.2.2=r1 at f1 ⊢
 have E1:Hid _:=e1
 clear e1
 have K1:Aa b w w1:=Aa.trans ((Aa.refl b w).al _) k1
 have B0_1:Ap w.heap.size [.int .i64 p.1,.int .i64 p.2.1,.int .i64 p.2.2] w1:=(Am _ _ [.int .i64 p.1,.int .i64 p.2.1,.int .i64 p.2.2] _ (by simp)).kept k1 (by omega)
 have z1:=B0_1.lies
 clear k1
 go_wp2
 go_ret
 have hs:Cn bad p=(r1.1,r1.2):=by unfold Cn;simp only[E1.out]
 rw[hs]
 exact⟨rfl,f1,K1⟩
theorem XS(b:Nat)(bad:Bool)(p:V3)(w:World)(hw:Fl b bad w):
    Calls Tryz.prog 241 #[.pointer (some ⟨b,0,none⟩),.agg #[.int .i64 p.1,.int .i64 p.2.1,.int .i64 p.2.2]] w fun e w'=>e=.returned (.agg #[.int .i64 ((CQ bad p).1.1),.int .i64 ((CQ bad p).1.2.1),.int .i64 ((CQ bad p).1.2.2)])/\Fl b (CQ bad p).2 w'/\Aa b w w':=by
 have hl:=hw.lies
 go_enter Tryz.func241,Tryz.ntmps241
 go_wp2_with fail
 refine(Dv b bad p _ ((hw.alloc _).alloc _)).mono ?_
 rintro e w1 ⟨rfl,f1,k1⟩
 generalize e1:Cn bad p=r1 at f1 ⊢
 have E1:Hid _:=e1
 clear e1
 have K1:Aa b w w1:=Aa.trans (((Aa.refl b w).al _).al _) k1
 have B0_1:Ap w.heap.size [.int .i64 p.1,.int .i64 p.2.1,.int .i64 p.2.2] w1:=((Am _ _ [.int .i64 p.1,.int .i64 p.2.1,.int .i64 p.2.2] _ (by simp)).alloc _).kept k1 (by omega)
 have B1_1:Ap (w.heap.size+1) [.int .i64 0,.int .i64 0,.int .i64 0] w1:=(Am _ _ [.int .i64 0,.int .i64 0,.int .i64 0] _ (by simp)).kept k1 (by omega)
 have z1:=B1_1.lies
 clear k1
 by_cases hc1:r1.1<1048576
 ·have Hhc1:Hid (r1.1<1048576):=hc1
  go_wp2_with fail
  refine(Bm b r1.2 _ f1).mono ?_
  rintro e w2 ⟨rfl,f2,k2⟩
  have K2:=Aa.trans K1 k2
  have B0_2:=B0_1.kept k2 (by omega)
  have B1_2:=B1_1.kept k2 (by omega)
  have z2:=B1_2.lies
  clear K1 f1 B0_1 B1_1 k2
  have c3_B1_0:w2.cell? ⟨w.heap.size+1,0,none⟩=some (.int .i64 0):=B1_2.c 0 (zD rfl)
  have c3_B1_1:w2.cell? ⟨w.heap.size+1,1,none⟩=some (.int .i64 0):=B1_2.c 1 (zD rfl)
  have c3_B1_2:w2.cell? ⟨w.heap.size+1,2,none⟩=some (.int .i64 0):=B1_2.c 2 (zD rfl)
  have g3_B1_0:=B1_2.f 0 (zD rfl)
  have g3_B1_1:=B1_2.f 1 (zD rfl)
  have g3_B1_2:=B1_2.f 2 (zD rfl)
  go_wp2
  clear c3_B1_0 c3_B1_1 c3_B1_2 g3_B1_0 g3_B1_1 g3_B1_2
  have d0:=Ap.c (B1_2.put 0 (zD rfl) (.int .i64 0) [.int .i64 0,.int .i64 0,.int .i64 0] rfl) 0 (zD rfl)
  have d1:=Ap.c ((B1_2.put 0 (zD rfl) (.int .i64 0) [.int .i64 0,.int .i64 0,.int .i64 0] rfl).put 1 (zD rfl) (.int .i64 0) [.int .i64 0,.int .i64 0,.int .i64 0] rfl) 1 (zD rfl)
  have d2:=Ap.c (((B1_2.put 0 (zD rfl) (.int .i64 0) [.int .i64 0,.int .i64 0,.int .i64 0] rfl).put 1 (zD rfl) (.int .i64 0) [.int .i64 0,.int .i64 0,.int .i64 0] rfl).put 2 (zD rfl) (.int .i64 0) [.int .i64 0,.int .i64 0,.int .i64 0] rfl) 2 (zD rfl)
  refine bodyPost_ret (v:=.agg #[.int .i64 0,.int .i64 0,.int .i64 0]) (by simp[results,Tryz.results241,go_sem,d0,d1,d2]) rfl ?_
  have hs:CQ bad p=((0,0,0),true):=by unfold CQ;simp only[E1.out];rw[if_pos (by have:=Hhc1.out;omega)]
  rw[hs]
  exact⟨rfl,(((f2.new _ _ (by omega) _).new _ _ (by omega) _).new _ _ (by omega) _),(((K2.new _ _ (by omega) _).new _ _ (by omega) _).new _ _ (by omega) _)⟩
 ·have Hhc1:Hid (¬r1.1<1048576):=hc1
  go_wp2_with fail
  refine wp_region_held_drew (S:=fun w'=>Ap w.heap.size [.int .i64 p.1,.int .i64 p.2.1,.int .i64 p.2.2] w') (by kernel_rfl) B0_1.drew (fun zH=>?_)
  refine zT 0 rfl (by kernel_rfl) (fun _ _ _=>id) rfl (fun _ _=>by go_simp<;>with_reducible rfl) zH ?_
  simp only[Act.put,zA,zB,zC]
  refine zT 1 rfl (by kernel_rfl) (fun _ _ _=>id) rfl (fun _ _=>by go_simp<;>with_reducible rfl) zH ?_
  simp only[Act.put,zA,zB,zC]
  refine zT 2 rfl (by kernel_rfl) (fun _ _ _=>id) rfl (fun wx hS=>by have hc0:wx.cell? ⟨w.heap.size,0,none⟩=some (.int .i64 p.1):=hS.c 0 (zD rfl);go_simp<;>with_reducible rfl) zH ?_
  simp only[Act.put,zA,zB,zC]
  refine zT 3 rfl (by kernel_rfl) (fun _ _ _=>id) rfl (fun _ _=>by go_simp<;>with_reducible rfl) zH ?_
  simp only[Act.put,zA,zB,zC]
  refine zT 5 rfl (by kernel_rfl) (fun _ _ _=>id) rfl (fun _ _=>by go_simp<;>with_reducible rfl) zH ?_
  simp only[Act.put,zA,zB,zC]
  refine zT 6 rfl (by kernel_rfl) (fun _ _ _=>id) rfl (fun _ _=>by go_simp<;>with_reducible rfl) zH ?_
  simp only[Act.put,zA,zB,zC]
  refine zT 7 rfl (by kernel_rfl) (fun _ _ _=>id) rfl (fun wx hS=>by have hc1:wx.cell? ⟨w.heap.size,1,none⟩=some (.int .i64 p.2.1):=hS.c 1 (zD rfl);go_simp<;>with_reducible rfl) zH ?_
  simp only[Act.put,zA,zB,zC]
  refine zT 8 rfl (by kernel_rfl) (fun _ _ _=>id) rfl (fun _ _=>by go_simp<;>with_reducible rfl) zH ?_
  simp only[Act.put,zA,zB,zC]
  refine zT 10 rfl (by kernel_rfl) (fun _ _ _=>id) rfl (fun _ _=>by go_simp<;>with_reducible rfl) zH ?_
  simp only[Act.put,zA,zB,zC]
  refine zT 11 rfl (by kernel_rfl) (fun _ _ _=>id) rfl (fun _ _=>by go_simp<;>with_reducible rfl) zH ?_
  simp only[Act.put,zA,zB,zC]
  refine zT 12 rfl (by kernel_rfl) (fun _ _ _=>id) rfl (fun wx hS=>by have hc2:wx.cell? ⟨w.heap.size,2,none⟩=some (.int .i64 p.2.2):=hS.c 2 (zD rfl);go_simp<;>with_reducible rfl) zH ?_
  simp only[Act.put,zA,zB,zC]
  refine zT 13 rfl (by kernel_rfl) (fun _ _ _=>id) rfl (fun _ _=>by go_simp<;>with_reducible rfl) zH ?_
  simp only[Act.put,zA,zB,zC]
  refine zK 4 (by kernel_rfl) rfl (fun K hK=>?_)
  go_simp
  refine(B8 b r1.2 p.1 r1.1 _ f1.drew).mono ?_
  rintro e w2 ⟨rfl,f2,k2⟩
  generalize e2:Bt r1.2 p.1 r1.1=r2 at f2 ⊢
  have E2:Hid _:=e2
  clear e2
  have K2:Aa b w w2:=Aa.trans K1.drew k2
  have B0_2:=B0_1.drew.kept k2 (by omega)
  have B1_2:=B1_1.drew.kept k2 (by omega)
  have z2:=B1_2.lies
  clear zH
  refine hK.out _ _ B0_2 (fun zH=>?_)
  clear hK K K1 f1 B0_1 B1_1 k2
  refine zK 9 (by kernel_rfl) rfl (fun K hK=>?_)
  go_simp
  refine(B8 b r2.2 p.2.1 r1.1 _ f2).mono ?_
  rintro e w3 ⟨rfl,f3,k3⟩
  generalize e3:Bt r2.2 p.2.1 r1.1=r3 at f3 ⊢
  have E3:Hid _:=e3
  clear e3
  have K3:=Aa.trans K2 k3
  have B0_3:=B0_2.kept k3 (by omega)
  have B1_3:=B1_2.kept k3 (by omega)
  have z3:=B1_3.lies
  clear zH
  refine hK.out _ _ B0_3 (fun zH=>?_)
  clear hK K K2 f2 B0_2 B1_2 k3
  refine zK 14 (by kernel_rfl) rfl (fun K hK=>?_)
  go_simp
  refine(B8 b r3.2 p.2.2 r1.1 _ f3).mono ?_
  rintro e w4 ⟨rfl,f4,k4⟩
  generalize e4:Bt r3.2 p.2.2 r1.1=r4 at f4 ⊢
  have E4:Hid _:=e4
  clear e4
  have K4:=Aa.trans K3 k4
  have B0_4:=B0_3.kept k4 (by omega)
  have B1_4:=B1_3.kept k4 (by omega)
  have z4:=B1_4.lies
  clear zH
  refine hK.out _ _ B0_4 (fun zH=>?_)
  clear hK K K3 f3 B0_3 B1_3 k4
  refine zT 15 rfl (by kernel_rfl) (fun _ _ _=>id) rfl (fun _ _=>by go_simp<;>with_reducible rfl) zH ?_
  simp only[Act.put,zA,zB,zC]
  refine zK 16 (by kernel_rfl) rfl (fun K hK=>?_)
  have c3_B1_0:w4.cell? ⟨w.heap.size+1,0,none⟩=some (.int .i64 0):=B1_4.c 0 (zD rfl)
  have c3_B1_1:w4.cell? ⟨w.heap.size+1,1,none⟩=some (.int .i64 0):=B1_4.c 1 (zD rfl)
  have c3_B1_2:w4.cell? ⟨w.heap.size+1,2,none⟩=some (.int .i64 0):=B1_4.c 2 (zD rfl)
  have g3_B1_0:=B1_4.f 0 (zD rfl)
  have g3_B1_1:=B1_4.f 1 (zD rfl)
  have g3_B1_2:=B1_4.f 2 (zD rfl)
  go_simp
  clear zH
  refine hK.out _ _ (((B0_4.new _ _ (by omega) _).new _ _ (by omega) _).new _ _ (by omega) _) (fun zH=>?_)
  clear hK K c3_B1_0 c3_B1_1 c3_B1_2 g3_B1_0 g3_B1_1 g3_B1_2
  refine wpAnyH_done (by kernel_rfl) ?_ _
  clear zH
  go_wp2
  have d0:=Ap.c (B1_4.put 0 (zD rfl) (.int .i64 r2.1) [.int .i64 r2.1,.int .i64 0,.int .i64 0] rfl) 0 (zD rfl)
  have d1:=Ap.c ((B1_4.put 0 (zD rfl) (.int .i64 r2.1) [.int .i64 r2.1,.int .i64 0,.int .i64 0] rfl).put 1 (zD rfl) (.int .i64 r3.1) [.int .i64 r2.1,.int .i64 r3.1,.int .i64 0] rfl) 1 (zD rfl)
  have d2:=Ap.c (((B1_4.put 0 (zD rfl) (.int .i64 r2.1) [.int .i64 r2.1,.int .i64 0,.int .i64 0] rfl).put 1 (zD rfl) (.int .i64 r3.1) [.int .i64 r2.1,.int .i64 r3.1,.int .i64 0] rfl).put 2 (zD rfl) (.int .i64 r4.1) [.int .i64 r2.1,.int .i64 r3.1,.int .i64 r4.1] rfl) 2 (zD rfl)
  refine bodyPost_ret (v:=.agg #[.int .i64 r2.1,.int .i64 r3.1,.int .i64 r4.1]) (by simp[results,Tryz.results241,go_sem,d0,d1,d2]) rfl ?_
  have hs:CQ bad p=((r2.1,r3.1,r4.1),r4.2):=by unfold CQ;simp only[E1.out,E2.out,E3.out,E4.out];rw[if_neg (by have:=Hhc1.out;omega)]
  rw[hs]
  exact⟨rfl,(((f4.new _ _ (by omega) _).new _ _ (by omega) _).new _ _ (by omega) _),(((K4.new _ _ (by omega) _).new _ _ (by omega) _).new _ _ (by omega) _)⟩
end Go.Proofs.YtgmpfeaanjnhaaaGreatDoor
namespace Go.Proofs.YtgmpfeaanjnhaaaGreatDoor
open Go.RowKit
def EN(P:Program)(fn:Nat){A:Type}(d:Dl A)(S:A->(Value->Prop)->Prop)(mono:∀x K K',(∀v,K v->K' v)->S x K->S x K')(go:∀(args:Array Value) (w:World),(callFunc fn args).run P w=.ok (.enter fn args) w)
    (h:∀x w,GW w->∀K,S x K->Calls P fn (d.enc x).toArray w fun e w'=>∃v,e=.returned v/\isP v=false/\K v/\Below w.heap.size w w'):Ct P where
 fn:=fn
 sp:=fun args m K=>match d.dec args with
  |some x=>S x (fun v=>K v m)
  |none=>False
 go:=go
 mono:=fun hK hs=>by
  split at hs
  ·exact mono _ _ _ (fun v hv=>hK v _ hv) hs
  ·exact hs
 keep:=fun{args m K} hs=>by
  split at hs
  ·exact mono _ _ _ (fun v hv=>⟨hv,rfl,fun _ _=>rfl⟩) hs
  ·exact hs
 ok:=fun{bs w0 bl m w args args' K} R hlen hv hs=>by
  split at hs
  ·rename_i x hd
   have hl:=d.law _ _ hd
   rw[Gs hlen hv (by rw[hl];exact d.np x),hl]
   refine Calls.mono (h x w R.gwAt _ hs) ?_
   rintro e w' ⟨v,rfl,hp,hk,Kp⟩
   exact⟨_,_,_,rfl,.same hp,hk,R.pure Kp⟩
  ·exact hs.elim
def Pla(s:ByteArray)(i:Int):Prop:=0<=i/\i<100/\2*i.toNat+1<s.size
def Anp:Ct Tryz.prog:=EN Tryz.prog 289 (Ad cS (Ac cI)) (fun x K=>Pla x.1 x.2/\K (.int .i64 (sg (cnt x.1 (2*x.2.toNat))))) (fun _ _ _ hK hs=>⟨hs.1,hK _ hs.2⟩) (Af Tryz.func289 (by kernel_rfl) (by kernel_rfl))
 (fun x w _ K hs=>Calls.mono (Qg x.1 x.2 x.2.toNat w (by have:=hs.1.1;omega) hs.1.2.2 (by have:=hs.1.2.1;omega)) (by rintro e w' ⟨rfl,hb⟩;exact⟨_,rfl,rfl,hs.2,hb⟩))
def Atz:Ct Tryz.prog:=EN Tryz.prog 290 (Ad cS (Ac cI)) (fun x K=>Pla x.1 x.2/\K (.int .i64 (cnt x.1 (2*x.2.toNat):Nat))) (fun _ _ _ hK hs=>⟨hs.1,hK _ hs.2⟩) (Af Tryz.func290 (by kernel_rfl) (by kernel_rfl))
 (fun x w _ K hs=>Calls.mono (Sz x.1 x.2 x.2.toNat w (by have:=hs.1.1;omega) hs.1.2.2 (by have:=hs.1.2.1;omega)) (by rintro e w' ⟨rfl,hb⟩;exact⟨_,rfl,rfl,hs.2,hb⟩))
def Apk:Ct Tryz.prog:=B7 Tryz.prog 104 (Ac (cT 3)) (fun bad x=>Cn bad (x.1,x.2.1,x.2.2.1)) cI (Af Tryz.func104 (by kernel_rfl) (by kernel_rfl)) (fun b bad x w _ _ hw=>Dv b bad (x.1,x.2.1,x.2.2.1) w hw)
def Apl:Ct Tryz.prog:=B7 Tryz.prog 241 (Ac (cT 3)) (fun bad x=>(((CQ bad (x.1,x.2.1,x.2.2.1)).1.1,(CQ bad (x.1,x.2.1,x.2.2.1)).1.2.1,(CQ bad (x.1,x.2.1,x.2.2.1)).1.2.2,()),(CQ bad (x.1,x.2.1,x.2.2.1)).2)) (cT 3) (Af Tryz.func241 (by kernel_rfl) (by kernel_rfl)) (fun b bad x w _ _ hw=>XS b bad (x.1,x.2.1,x.2.2.1) w hw)
def XT(v:V3):Tup 3:=(v.1,v.2.1,v.2.2,())
abbrev BI:Dc (Tup 3×Bool):=AV (cT 3) cB
def Ajc(s:ByteArray)(i:Int)(A C:Prop):Prop:=Pla s i/\DY (decide (sg (cnt s (2*i.toNat))>30000)) A (DY (decide (sg (cnt s (2*i.toNat))< -30000)) A C)
theorem Oj{s:ByteArray}{i:Int}{A C:Prop}(hp:Pla s i)(hA:¬(-30000<=sg (cnt s (2*i.toNat))/\sg (cnt s (2*i.toNat))<=30000)->A)(hC:-30000<=sg (cnt s (2*i.toNat))/\sg (cnt s (2*i.toNat))<=30000->C):Ajc s i A C:=by
 refine⟨hp,?_⟩
 by_cases h1:sg (cnt s (2*i.toNat))>30000
 ·rw[decide_eq_true h1];exact hA (by omega)
 ·rw[decide_eq_false h1]
  by_cases h2:sg (cnt s (2*i.toNat))< -30000
  ·rw[decide_eq_true h2];exact hA (by omega)
  ·rw[decide_eq_false h2];exact hC ⟨by omega,by omega⟩
set_option maxRecDepth 100000 in
theorem Ab8(s:ByteArray)(h:6<=s.size)(w:World)(hw:GW w):Calls Tryz.prog 267 ((Ac cS).enc s).toArray w fun e w'=>e=.returned (BI.enc (XT (if DV (sg (cnt s 0)) (sg (cnt s 2)) (sg (cnt s 4))then Qd (sg (cnt s 0)) (sg (cnt s 2)) (sg (cnt s 4))else(0,0,0)),DV (sg (cnt s 0)) (sg (cnt s 2)) (sg (cnt s 4))))/\Below w.heap.size w w':=by
 refine Ch (d:=Ac cS) (k:=BI) (x:=s) (y:=(XT (if DV (sg (cnt s 0)) (sg (cnt s 2)) (sg (cnt s 4))then Qd (sg (cnt s 0)) (sg (cnt s 2)) (sg (cnt s 4))else(0,0,0)),DV (sg (cnt s 0)) (sg (cnt s 2)) (sg (cnt s 4)))) (tbl:=[Anp]) (dirty:=fun _=>[]) (n:=5) Ag Tryz.func267 rfl (fun Post hP=>?_) w hw
 refine Eq.mpr (β:=Ajc s 0 (PJ BI Post ((0,0,0,()),false)) (Ajc s 1 (PJ BI Post ((0,0,0,()),false)) (Ajc s 2 (PJ BI Post ((0,0,0,()),false)) (PJ BI Post ((IntKind.i64.wrap (sg (cnt s (2*(0:Int).toNat))*33554432),IntKind.i64.wrap (sg (cnt s (2*(1:Int).toNat))*33554432),IntKind.i64.wrap (sg (cnt s (2*(2:Int).toNat))*33554432),()),true))))) (by kernel_rfl) ?_
 have key:∀a b c:Int,¬(DV a b c=true)->PJ BI Post (XT (if DV a b c then Qd a b c else(0,0,0)),DV a b c)->PJ BI Post ((0,0,0,()),false):=by
  intro a b c hn hq
  rw[if_neg hn,Bool.eq_false_iff.2 hn]at hq
  exact hq
 have hok:∀a b c:Int,DV a b c=true↔((-30000<=a/\a<=30000)/\(-30000<=b/\b<=30000))/\(-30000<=c/\c<=30000):=by
  intro a b c
  unfold DV Oh
  simp
 refine Oj ⟨by decide,by decide,by show 2*0+1<s.size;omega⟩ (fun hn=>key _ _ _ (fun k=>hn ((hok _ _ _).1 k).1.1) hP) (fun h0=>?_)
 refine Oj ⟨by decide,by decide,by show 2*1+1<s.size;omega⟩ (fun hn=>key _ _ _ (fun k=>hn ((hok _ _ _).1 k).1.2) hP) (fun h1=>?_)
 refine Oj ⟨by decide,by decide,by show 2*2+1<s.size;omega⟩ (fun hn=>key _ _ _ (fun k=>hn ((hok _ _ _).1 k).2) hP) (fun h2=>?_)
 have hg:DV (sg (cnt s 0)) (sg (cnt s 2)) (sg (cnt s 4))=true:=(hok _ _ _).2 ⟨⟨h0,h1⟩,h2⟩
 rw[if_pos hg,hg]at hP
 have e:∀x:Int,-30000<=x/\x<=30000->IntKind.i64.wrap (x*33554432)=x*33554432:=fun x hx=>by
  rw[IntKind.wrap_i64]
  omega
 rw[e _ h0,e _ h1,e _ h2]
 exact hP
set_option maxRecDepth 100000 in
theorem Ql(s:ByteArray)(h:6<=s.size)(w:World)(hw:GW w):Calls Tryz.prog 268 ((Ac cS).enc s).toArray w fun e w'=>e=.returned (BI.enc (XT (Qe (sg (cnt s 0)) (sg (cnt s 2)) (sg (cnt s 4))).1,VW (sg (cnt s 0)) (sg (cnt s 2)) (sg (cnt s 4))))/\Below w.heap.size w w':=by
 refine Ch (d:=Ac cS) (k:=BI) (x:=s) (y:=(XT (Qe (sg (cnt s 0)) (sg (cnt s 2)) (sg (cnt s 4))).1,VW (sg (cnt s 0)) (sg (cnt s 2)) (sg (cnt s 4)))) (tbl:=[Anp,Ab7,Apk]) (dirty:=fun _=>[]) (n:=5) Ag Tryz.func268 rfl (fun Post hP=>?_) w hw
 refine Eq.mpr (β:=Pla s 0/\Pla s 1/\Pla s 2/\DY (decide (1099511627776<=Ab5 (sg (cnt s 0)) (sg (cnt s 2)) (sg (cnt s 4)))) (PJ BI Post (XT (Qe (sg (cnt s 0)) (sg (cnt s 2)) (sg (cnt s 4))).1,decide (Ab5 (sg (cnt s 0)) (sg (cnt s 2)) (sg (cnt s 4))<=131941395333120))) (PJ BI Post (XT (Qe (sg (cnt s 0)) (sg (cnt s 2)) (sg (cnt s 4))).1,false))) (by kernel_rfl) ?_
 refine⟨⟨by decide,by decide,by show 2*0+1<s.size;omega⟩,⟨by decide,by decide,by show 2*1+1<s.size;omega⟩,⟨by decide,by decide,by show 2*2+1<s.size;omega⟩,?_⟩
 unfold VW at hP
 cases k:decide (1099511627776<=Ab5 (sg (cnt s 0)) (sg (cnt s 2)) (sg (cnt s 4)))
 ·rw[k]at hP
  exact hP
 ·rw[k]at hP
  exact hP
def Ajd(s:ByteArray)(i j:Int)(seen:Bool)(C:Bool->Prop):Prop:=Pla s i/\Pla s j/\DY seen (C true) (DY (decide (((cnt s (2*i.toNat):Nat):Int)≥2000)) (C true) (C (decide (((cnt s (2*j.toNat):Nat):Int)≥2000))))
theorem Ol{s:ByteArray}{i j:Int}{seen:Bool}{C:Bool->Prop}(hi:Pla s i)(hj:Pla s j)(h:C (seen||decide (((cnt s (2*i.toNat):Nat):Int)≥2000)||decide (((cnt s (2*j.toNat):Nat):Int)≥2000))):Ajd s i j seen C:=by
 refine⟨hi,hj,?_⟩
 cases seen
 ·cases k:decide (((cnt s (2*i.toNat):Nat):Int)≥2000)
  ·rw[k]at h
   exact h
  ·rw[k]at h
   exact h
 ·exact h
def Aje(s:ByteArray):V3:=(IntKind.i64.wrap (IntKind.i64.wrap (((cnt s (2*(0:Int).toNat):Nat):Int)-((cnt s (2*(1:Int).toNat):Nat):Int))*16777216),IntKind.i64.wrap (IntKind.i64.wrap (((cnt s (2*(2:Int).toNat):Nat):Int)-((cnt s (2*(3:Int).toNat):Nat):Int))*16777216),IntKind.i64.wrap (IntKind.i64.wrap (((cnt s (2*(4:Int).toNat):Nat):Int)-((cnt s (2*(5:Int).toNat):Nat):Int))*16777216))
def At0(s:ByteArray)(Post:Value->Prop)(b:Bool):Prop:=DY (!b) (PJ BI Post ((0,0,0,()),false)) (PJ BI Post (XT (CQ false (Aje s)).1,!(CQ false (Aje s)).2))
set_option maxRecDepth 100000 in
theorem Om(s:ByteArray)(h:12<=s.size)(w:World)(hw:GW w):Calls Tryz.prog 269 ((Ac cS).enc s).toArray w fun e w'=>e=.returned (BI.enc (XT (if lit (cnt s 0:Nat) (cnt s 2:Nat) (cnt s 4:Nat) (cnt s 6:Nat) (cnt s 8:Nat) (cnt s 10:Nat)then(Ab6 (cnt s 0:Nat) (cnt s 2:Nat) (cnt s 4:Nat) (cnt s 6:Nat) (cnt s 8:Nat) (cnt s 10:Nat)).1 else(0,0,0)),Qf (cnt s 0:Nat) (cnt s 2:Nat) (cnt s 4:Nat) (cnt s 6:Nat) (cnt s 8:Nat) (cnt s 10:Nat)))/\Below w.heap.size w w':=by
 refine Ch (d:=Ac cS) (k:=BI) (x:=s) (y:=(XT (if lit (cnt s 0:Nat) (cnt s 2:Nat) (cnt s 4:Nat) (cnt s 6:Nat) (cnt s 8:Nat) (cnt s 10:Nat)then(Ab6 (cnt s 0:Nat) (cnt s 2:Nat) (cnt s 4:Nat) (cnt s 6:Nat) (cnt s 8:Nat) (cnt s 10:Nat)).1 else(0,0,0)),Qf (cnt s 0:Nat) (cnt s 2:Nat) (cnt s 4:Nat) (cnt s 6:Nat) (cnt s 8:Nat) (cnt s 10:Nat))) (tbl:=[Atz,Apl]) (dirty:=fun i=>if i=14 then [1002]else []) (n:=5) Ag Tryz.func269 rfl (fun Post hP=>?_) w hw
 refine Eq.mpr (β:=Ajd s 0 1 false fun b=>Ajd s 2 3 b fun b=>Ajd s 4 5 b fun b=>At0 s Post b) (by kernel_rfl) ?_
 have pl:∀i:Nat,i<6->Pla s i:=fun i hi=>⟨by omega,by omega,by rw[Int.toNat_natCast];omega⟩
 refine Ol (pl 0 (by decide)) (pl 1 (by decide)) (Ol (pl 2 (by decide)) (pl 3 (by decide)) (Ol (pl 4 (by decide)) (pl 5 (by decide)) ?_))
 have hv:Aje s=Aph (cnt s 0:Nat) (cnt s 2:Nat) (cnt s 4:Nat) (cnt s 6:Nat) (cnt s 8:Nat) (cnt s 10:Nat):=by
  have e:∀a b:Nat,a<65536->b<65536->IntKind.i64.wrap (IntKind.i64.wrap ((a:Int)-(b:Int))*16777216)=((a:Int)-b)*16777216:=fun a b ha hb=>by
   rw[IntKind.wrap_i64,IntKind.wrap_i64]
   omega
  unfold Aje Aph
  rw[e _ _ (Eo _ _) (Eo _ _),e _ _ (Eo _ _) (Eo _ _),e _ _ (Eo _ _) (Eo _ _)]
  rfl
 have hb:(false||decide (((cnt s (2*(0:Int).toNat):Nat):Int)≥2000)||decide (((cnt s (2*(1:Int).toNat):Nat):Int)≥2000)||decide (((cnt s (2*(2:Int).toNat):Nat):Int)≥2000)||decide (((cnt s (2*(3:Int).toNat):Nat):Int)≥2000)||decide (((cnt s (2*(4:Int).toNat):Nat):Int)≥2000)||decide (((cnt s (2*(5:Int).toNat):Nat):Int)≥2000))=lit (cnt s 0:Nat) (cnt s 2:Nat) (cnt s 4:Nat) (cnt s 6:Nat) (cnt s 8:Nat) (cnt s 10:Nat):=rfl
 rw[hb]
 unfold At0
 rw[hv]
 unfold Qf at hP
 cases k:lit (cnt s 0:Nat) (cnt s 2:Nat) (cnt s 4:Nat) (cnt s 6:Nat) (cnt s 8:Nat) (cnt s 10:Nat)
 ·rw[k]at hP
  exact hP
 ·rw[k]at hP
  exact hP
set_option maxRecDepth 100000 in
theorem Ajf{k:Int}{s:ByteArray}{y:Tup 3×Bool}(w:World)(hw:GW w)
    (h:(k=1/\∀w,GW w->Calls Tryz.prog 267 ((Ac cS).enc s).toArray w fun e w'=>e=.returned (BI.enc y)/\Below w.heap.size w w')∨(k=3/\∀w,GW w->Calls Tryz.prog 268 ((Ac cS).enc s).toArray w fun e w'=>e=.returned (BI.enc y)/\Below w.heap.size w w')∨((k≠1/\k≠3)/\∀w,GW w->Calls Tryz.prog 269 ((Ac cS).enc s).toArray w fun e w'=>e=.returned (BI.enc y)/\Below w.heap.size w w')):
    Calls Tryz.prog 209 ((Ad cI (Ac cS)).enc (k,s)).toArray w fun e w'=>e=.returned (BI.enc y)/\Below w.heap.size w w':=by
 rcases h with⟨rfl,h⟩|⟨rfl,h⟩|⟨⟨n1,n3⟩,h⟩
 ·refine Ch (d:=Ad cI (Ac cS)) (k:=BI) (x:=(1,s)) (y:=y) (tbl:=[Ai5 Tryz.prog 267 (Ac cS) BI s y (Af Tryz.func267 (by kernel_rfl) (by kernel_rfl)) h]) (dirty:=fun _=>[]) (n:=4) Ag Tryz.func209 rfl (fun Post hP=>?_) w hw
  exact Eq.mpr (β:=(Ac cS).enc s=(Ac cS).enc s/\PJ BI Post y) (by kernel_rfl) ⟨rfl,hP⟩
 ·refine Ch (d:=Ad cI (Ac cS)) (k:=BI) (x:=(3,s)) (y:=y) (tbl:=[Ai5 Tryz.prog 268 (Ac cS) BI s y (Af Tryz.func268 (by kernel_rfl) (by kernel_rfl)) h]) (dirty:=fun _=>[]) (n:=4) Ag Tryz.func209 rfl (fun Post hP=>?_) w hw
  exact Eq.mpr (β:=(Ac cS).enc s=(Ac cS).enc s/\PJ BI Post y) (by kernel_rfl) ⟨rfl,hP⟩
 ·refine Ch (d:=Ad cI (Ac cS)) (k:=BI) (x:=(k,s)) (y:=y) (tbl:=[Ai5 Tryz.prog 269 (Ac cS) BI s y (Af Tryz.func269 (by kernel_rfl) (by kernel_rfl)) h]) (dirty:=fun _=>[]) (n:=4) Ag Tryz.func209 rfl (fun Post hP=>?_) w hw
  refine Eq.mpr (β:=DY (decide (k=1)) False (DY (decide (k=3)) False ((Ac cS).enc s=(Ac cS).enc s/\PJ BI Post y))) (by kernel_rfl) ?_
  rw[decide_eq_false n1,decide_eq_false n3]
  exact⟨rfl,hP⟩
def Axj(v:V3):Value:=.agg #[.int .i64 v.1,.int .i64 v.2.1,.int .i64 v.2.2]
def Anq(a b c:Int):V3:=if DV a b c then Qd a b c else(0,0,0)
def At1(a b c d e f:Int):V3:=if lit a b c d e f then(Ab6 a b c d e f).1 else(0,0,0)
def JD(k:Int)(s:ByteArray):V3:=
 if k=1 then Anq (sg (cnt s 0)) (sg (cnt s 2)) (sg (cnt s 4))
 else if k=3 then(Qe (sg (cnt s 0)) (sg (cnt s 2)) (sg (cnt s 4))).1
 else At1 (cnt s 0:Nat) (cnt s 2:Nat) (cnt s 4:Nat) (cnt s 6:Nat) (cnt s 8:Nat) (cnt s 10:Nat)
theorem XU(k:Int)(s:ByteArray)(w:World)(hw:GW w)(h:6<=s.size)(h2:k≠1->k≠3->12<=s.size):
    Calls Tryz.prog 209 #[.int .i64 k,.string s] w fun e w'=>e=.returned (.tuple #[Axj (JD k s),.bool (Du k s 0)])/\Below w.heap.size w w':=by
 refine Ajf (k:=k) (s:=s) (y:=(XT (JD k s),Du k s 0)) w hw ?_
 unfold JD Du
 by_cases c1:k=1
 ·rw[if_pos c1,if_pos c1]
  exact .inl ⟨c1,Ab8 s h⟩
 rw[if_neg c1,if_neg c1]
 by_cases c3:k=3
 ·rw[if_pos c3,if_pos c3]
  exact .inr (.inl ⟨c3,Ql s h⟩)
 rw[if_neg c3,if_neg c3]
 exact .inr (.inr ⟨⟨c1,c3⟩,Om s (h2 c1 c3)⟩)
end Go.Proofs.YtgmpfeaanjnhaaaGreatDoor
