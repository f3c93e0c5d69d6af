import Derived.WalkKit
import Derived.WalkSpells
import Derived.WalkLawsBesides
import Derived.Laws.BitsAllLaws
import Derived.Handy
import Derived.Test.YtoadcnhcfodkgaaGreatDoorRows
import Derived.Deep.RegionHeld3
import Derived.LoopN
import Derived.Orders
import Derived.Laws.StructEq
import Derived.ChangeKeysEq
set_option maxHeartbeats 400000
open List renaming getD_eq_getElem?_getD→Zm,getElem?_eq_some_iff→Zn,getElem?_set_ne→Zo,getElem?_set_self→Zq,length_set→Zt,getElem?_eq_none→Zab,take_succ_eq_append_getElem→Zag,mem_cons_of_mem→Zaj
open Array renaming all_eq_true_iff_forall_mem→Zp,getD_eq_getD_getElem?→Zs
open Go.Proofs.Tryz renaming prog→Zr
open Int renaming ediv_eq_zero_of_lt→Zu,add_mul_emod_self_left→Zv,add_mul_ediv_left→Zw,mul_tdiv_add_tmod→Zx,emod_eq_of_lt→Zaa,ediv_nonneg→Zad,emod_lt_of_pos→Zae,pow_succ→Zaf,mul_ediv_add_emod→Zah,emod_nonneg→Zak,le_of_lt→Zal,ne_of_gt→Zam,mul_le_mul→Zan
open Nat renaming le_refl→Zy,lt_of_lt_of_le→Zz,add_assoc→Zac
open Bool renaming and_eq_true→Zai
namespace Go.Proofs.YtoadcnhcfodkgaaGreatDoor
section
open Go.RowKit
def hi64(n:Int):Int:=n / 18446744073709551616
def lo64(n:Int):Int:=n % 18446744073709551616
theorem ED(n:Int)(h0:0<=n)(h:n<340282366920938463463374607431768211456):0<=hi64 n/\hi64 n<=18446744073709551615:=by unfold hi64;omega
theorem BN(n:Int):0<=lo64 n/\lo64 n<=18446744073709551615:=by unfold lo64;omega
theorem IN(n:Int):hi64 n*18446744073709551616+lo64 n=n:=by unfold hi64 lo64;omega
def numB(n:Int):Bool:=decide (-4611686018427387904<=n)&&decide (n<=4611686018427387904)
theorem Bh{n:Int}(h:numB n=true):-4611686018427387904<=n/\n<=4611686018427387904:=by unfold numB at h;simpa using h
def sz(n:Int):Int:=if n<0 then-n else n
def ER(n:Int):Int:=if n<=18446744073709551615 then n else 18446744073709551615
def KZ(n:Int)(minus:Bool):Int:=if n<=4611686018427387904 then(if minus then-n else n)else 0
theorem JM(n:Int)(minus:Bool)(c:n<=4611686018427387904):(if minus then-n else n)=KZ n minus:=by unfold KZ;rw[if_pos c]
theorem JN(n:Int)(minus:Bool)(c:¬n<=4611686018427387904):0=KZ n minus:=by unfold KZ;rw[if_neg c]
def tk(bad:Bool)(zs:List Int):Bool:=!bad&&zs.all numB
theorem Aig(bad:Bool)(zs:List Int):(bad|| !zs.all numB)= !tk bad zs:=by unfold tk;cases bad<;>simp
theorem Df{bad:Bool}{a b:Int}(h:tk bad [a,b]=true):bad=false/\numB a=true/\numB b=true:=by unfold tk at h;simp at h;exact⟨h.1,h.2.1,h.2.2⟩
theorem Aih{bad:Bool}{a:Int}(h:tk bad [a]=true):bad=false/\numB a=true:=by unfold tk at h;simp at h;exact⟨h.1,h.2⟩
theorem Ei{bad:Bool}{a b c:Int}(h:tk bad [a,b,c]=true):bad=false/\numB a=true/\numB b=true/\numB c=true:=by unfold tk at h;simp at h;exact⟨h.1,h.2.1,h.2.2.1,h.2.2.2⟩
def gv(n:Int):Int×Bool:=(if numB n then n else 0,!numB n)
def out(n:Int)(minus:Bool):Int×Bool:=(KZ n minus,decide (4611686018427387904<n))
def Ap(bad:Bool)(a b:Int):Int×Bool:=if tk bad [a,b]then gv (a+b)else(0,true)
def AJ(bad:Bool)(a b:Int):Int×Bool:=if tk bad [a,b]then gv (a-b)else(0,true)
def rnd(n d:Int):Int:=(n+d / 2) / d
def Af(bad:Bool)(a p q:Int):Int×Bool:=if tk bad [a,p,q]&&q != 0 then out (rnd (sz a*sz p) (sz q)) ((decide (a<0) != decide (p<0)) != decide (q<0))else(0,true)
def mulS(bad:Bool)(a b:Int):Int×Bool:=Af bad a b 1099511627776
def AA(bad:Bool)(a b:Int):Int×Bool:=Af bad a 1099511627776 b
def Gl(bad:Bool)(a m:Int):Int×Bool:=if tk bad [a,m]&&decide (0<m)then(a % m,false)else(0,true)
theorem MM{bad:Bool}{a b:Int}(c:tk bad [a,b]=false):Ap bad a b=(0,true):=by unfold Ap;rw[c];rfl
theorem Hf{bad:Bool}{a b:Int}(c:tk bad [a,b]=true):Ap bad a b=gv (a+b):=by unfold Ap;rw[c];rfl
theorem MN{bad:Bool}{a b:Int}(c:tk bad [a,b]=false):AJ bad a b=(0,true):=by unfold AJ;rw[c];rfl
theorem Nl{bad:Bool}{a b:Int}(c:tk bad [a,b]=true):AJ bad a b=gv (a-b):=by unfold AJ;rw[c];rfl
theorem Ru(n:Int)(h:-9223372036854775808<=n/\n<=9223372036854775808):gv (wrap64 n)=gv n:=by
 by_cases c:n=9223372036854775808
 ·subst c;rw[show wrap64 9223372036854775808=-9223372036854775808 by unfold wrap64;decide];rfl
 ·rw[IntWalk.wrap64_in n ⟨by omega,by omega⟩]
theorem Ca{bad:Bool}{a p q:Int}(c:tk bad [a,p,q]=false):Af bad a p q=(0,true):=by unfold Af;rw[c];rfl
theorem Nm{bad:Bool}{a p:Int}:Af bad a p 0=(0,true):=by unfold Af;rw[show((0:Int) != 0)=false by rfl,Bool.and_false];rfl
theorem FP{bad:Bool}{a p q:Int}(c:tk bad [a,p,q]=true)(h:(q != 0)=true):Af bad a p q=out (rnd (sz a*sz p) (sz q)) ((decide (a<0) != decide (p<0)) != decide (q<0)):=by unfold Af;rw[c,h];rfl
theorem Rv{bad:Bool}{a m:Int}(c:tk bad [a,m]=false):Gl bad a m=(0,true):=by unfold Gl;rw[c];rfl
theorem TZ{bad:Bool}{a m:Int}(h:¬0<m):Gl bad a m=(0,true):=by unfold Gl;rw[decide_eq_false h,Bool.and_false];rfl
theorem Nn{bad:Bool}{a m:Int}(c:tk bad [a,m]=true)(h:0<m):Gl bad a m=(a % m,false):=by unfold Gl;rw[c,decide_eq_true h];rfl
theorem ES{a:Int}(h:numB a=true):0<=sz a/\sz a<=4611686018427387904:=by
 have:=Bh h
 unfold sz
 split<;>omega
theorem WK{a:Int}(h:(a != 0)=true):1<=sz a:=by
 have h1:a≠0:=by simpa using h
 unfold sz
 split<;>omega
theorem CP{a b:Int}(h:numB a=true)(k:numB b=true):0<=sz a*sz b/\sz a*sz b<=21267647932558653966460912964485513216:=by
 have h1:=ES h
 have h2:=ES k
 refine⟨Int.mul_nonneg h1.1 h2.1,?_⟩
 have:=Zan h1.2 h2.2 h2.1 (by omega:(0:Int)<=4611686018427387904)
 omega
theorem Rx(bad:Bool)(a b:Int):tk bad [a,b,1099511627776]=tk bad [a,b]:=by unfold tk;simp[show numB 1099511627776=true by rfl]
theorem Z0(bad:Bool)(a b:Int):tk bad [a,1099511627776,b]=tk bad [a,b]:=by unfold tk;simp[show numB 1099511627776=true by rfl]
theorem MO{bad:Bool}{a b:Int}(c:tk bad [a,b]=false):mulS bad a b=(0,true):=Ca ((Rx bad a b).trans c)
theorem Aii{bad:Bool}{a b:Int}(c:tk bad [a,b]=true):mulS bad a b=out ((sz a*sz b+549755813888) / 1099511627776) (decide (a<0) != decide (b<0)):=by
 unfold mulS
 rw[FP ((Rx bad a b).trans c) rfl]
 simp[rnd,show sz 1099511627776=1099511627776 by rfl]
theorem Z1(n:Int)(minus:Bool):out (ER n) minus=out n minus:=by
 unfold ER
 split
 ·rfl
 ·unfold out KZ
  rw[if_neg (by decide),if_neg (by omega),decide_eq_true (by decide),decide_eq_true (by omega)]
theorem Aij(n:Int)(h:0<=n):0<=ER n/\ER n<=18446744073709551615:=by unfold ER;split<;>omega
theorem ET{n d:Int}(h:0<=n)(hd:1<=d):0<=rnd n d:=Zad (by omega) (by omega)
theorem P1{a:Int}(h:0<=a):sz a=a:=by unfold sz;rw[if_neg (by omega)]
theorem Fu(x y:Int)(h:0<y):-y<x.tmod y/\x.tmod y<y:=by
 refine⟨?_,Int.tmod_lt_of_pos x h⟩
 have h1:=Int.tmod_lt_of_pos (-x) h
 rw[Int.neg_tmod]at h1
 omega
theorem T5(x y:Int)(h:0<y):(x.tmod y<0->x.tmod y+y=x % y)/\(0<=x.tmod y->x.tmod y=x % y):=by
 have b:=Fu x y h
 have e1:=Int.tmod_add_mul_tdiv x y
 refine⟨fun c=>?_,fun c=>?_⟩
 ·have e2:x=(x.tmod y+y)+y*(x.tdiv y-1):=by grind
  rw[e2,Zv,Zaa (by omega) (by omega),<-e2]
 ·have e2:x=x.tmod y+y*x.tdiv y:=by omega
  have e3:x % y=(x.tmod y+y*x.tdiv y) % y:=by rw[<-e2]
  rw[e3,Zv,Zaa (by omega) (by omega)]
theorem Ada(ah al bh bl:Int):(ah*4294967296+al)*(bh*4294967296+bl)=(ah*bh)*18446744073709551616+(ah*bl+al*bh)*4294967296+al*bl:=by grind
theorem Ry(x y:Int)(h0:0<=x)(h1:x<=4294967295)(k0:0<=y)(k1:y<=4294967295):0<=x*y/\x*y<=18446744065119617025:=by
 refine⟨Int.mul_nonneg h0 k0,?_⟩
 have:=Zan h1 k1 k0 (by omega:(0:Int)<=4294967295)
 omega
theorem Adb(x y:Int)(h0:0<=x)(h1:x<=4294967295)(k0:0<=y)(k1:y<=4294967295):bits .or .u64 (x*4294967296) y=x*4294967296+y:=by
 rw[u64_or _ _ (by omega) (by omega) (by omega) (by omega),nat_join 32 _ _ (by omega) (by omega)]
 omega
theorem Adc(x y:Int)(h0:0<=x)(h1:x<=1099511627775)(k0:0<=y)(k1:y<=16777215):bits .or .u64 (x*16777216) y=x*16777216+y:=by
 rw[u64_or _ _ (by omega) (by omega) (by omega) (by omega),nat_join 24 _ _ (by omega) (by omega)]
 omega
theorem PH(n x y:Int)(h:x*18446744073709551616+y=n+549755813888)(b1:0<=x/\x<=18446744073709551615)(b2:0<=y/\y<=18446744073709551615)(c:x / 1099511627776=0):
    bits .or .u64 (IntKind.u64.wrap (x*16777216)) (y / 1099511627776)=ER ((n+549755813888) / 1099511627776):=by
 rw[<-h,IntKind.wrap_u64,show x*16777216 % 18446744073709551616=x*16777216 by omega,Adc _ _ (by omega) (by omega) (by omega) (by omega)]
 unfold ER
 rw[if_pos (by omega)]
 omega
theorem Rz(n x y:Int)(h:x*18446744073709551616+y=n+549755813888)(b1:0<=x/\x<=18446744073709551615)(b2:0<=y/\y<=18446744073709551615)(c:¬x / 1099511627776=0):
    18446744073709551615=ER ((n+549755813888) / 1099511627776):=by
 rw[<-h]
 unfold ER
 rw[if_neg (by omega)]
theorem WL(a b:Int)(h0:0<=a)(h1:a<=18446744073709551615)(k0:0<=b)(k1:b<=18446744073709551615):
    IntKind.u64.wrap (IntKind.u64.wrap (IntKind.u64.wrap (a / 4294967296*(b / 4294967296))+IntKind.u64.wrap (IntKind.u64.wrap (a / 4294967296*(b % 4294967296))+IntKind.u64.wrap (a % 4294967296*(b % 4294967296)) / 4294967296) / 4294967296)+IntKind.u64.wrap (IntKind.u64.wrap (a % 4294967296*(b / 4294967296))+IntKind.u64.wrap (IntKind.u64.wrap (a / 4294967296*(b % 4294967296))+IntKind.u64.wrap (a % 4294967296*(b % 4294967296)) / 4294967296) % 4294967296) / 4294967296)=hi64 (a*b)/\
    bits BinOp.or IntKind.u64 (IntKind.u64.wrap (IntKind.u64.wrap (IntKind.u64.wrap (a % 4294967296*(b / 4294967296))+IntKind.u64.wrap (IntKind.u64.wrap (a / 4294967296*(b % 4294967296))+IntKind.u64.wrap (a % 4294967296*(b % 4294967296)) / 4294967296) % 4294967296)*4294967296)) (IntKind.u64.wrap (a % 4294967296*(b % 4294967296)) % 4294967296)=lo64 (a*b):=by
 have e:=Ada (a / 4294967296) (a % 4294967296) (b / 4294967296) (b % 4294967296)
 rw[show a / 4294967296*4294967296+a % 4294967296=a by omega,show b / 4294967296*4294967296+b % 4294967296=b by omega]at e
 have p1:=Ry (a / 4294967296) (b / 4294967296) (by omega) (by omega) (by omega) (by omega)
 have p2:=Ry (a / 4294967296) (b % 4294967296) (by omega) (by omega) (by omega) (by omega)
 have p3:=Ry (a % 4294967296) (b / 4294967296) (by omega) (by omega) (by omega) (by omega)
 have p4:=Ry (a % 4294967296) (b % 4294967296) (by omega) (by omega) (by omega) (by omega)
 generalize a / 4294967296*(b / 4294967296)=p at *
 generalize a / 4294967296*(b % 4294967296)=q at *
 generalize a % 4294967296*(b / 4294967296)=r at *
 generalize a % 4294967296*(b % 4294967296)=t at *
 generalize a*b=n at *
 simp only[IntKind.wrap_u64]
 rw[show p % 18446744073709551616=p by omega,show q % 18446744073709551616=q by omega,show r % 18446744073709551616=r by omega,show t % 18446744073709551616=t by omega]
 rw[show(q+t / 4294967296) % 18446744073709551616=q+t / 4294967296 by omega]
 rw[show(r+(q+t / 4294967296) % 4294967296) % 18446744073709551616=r+(q+t / 4294967296) % 4294967296 by omega]
 rw[show(r+(q+t / 4294967296) % 4294967296)*4294967296 % 18446744073709551616=((r+(q+t / 4294967296) % 4294967296) % 4294967296)*4294967296 by omega]
 rw[Adb _ _ (by omega) (by omega) (by omega) (by omega)]
 unfold hi64 lo64
 constructor<;>omega
def ldq(n d:Int)(m:Nat):Int:=n / 2^m / d
def ldr(n d:Int)(m:Nat):Int:=n / 2^m % d
theorem BV(m:Nat):(0:Int)<2^m:=Int.pow_pos (by decide)
theorem Ade(n:Int)(m:Nat):n / 2^m=2*(n / 2^(m+1))+n / 2^m % 2:=by
 have e:n / 2^(m+1)=n / 2^m / 2:=by rw[Zaf,Int.ediv_ediv_of_nonneg (Zal (BV m))]
 rw[e];omega
theorem Z2(n:Int)(m:Nat)(h:m<64):lo64 n / 2^m % 2=n / 2^m % 2:=by
 obtain⟨k,hk⟩:∃k,64=m+(k+1):=⟨63-m,by omega⟩
 have e:(18446744073709551616:Int)=2^m*(2^k*2):=by rw[<-Zaf,<-Int.pow_add,<-hk];decide
 have h1:=IN n
 have h2:n / 2^m=lo64 n / 2^m+hi64 n*(2^k*2):=by
  have h3:n=lo64 n+2^m*(hi64 n*(2^k*2)):=by rw[e]at h1;grind
  generalize lo64 n=l at *
  generalize hi64 n*(2^k*2)=x at *
  rw[h3,Zw _ _ (Zam (BV m))]
 rw[h2,<-Int.mul_assoc]
 omega
theorem T6(n d:Int)(m:Nat)(hd:0<d):
    (d<=2*ldr n d (m+1)+n / 2^m % 2->ldq n d m=2*ldq n d (m+1)+1/\ldr n d m=2*ldr n d (m+1)+n / 2^m % 2-d)/\
    (2*ldr n d (m+1)+n / 2^m % 2<d->ldq n d m=2*ldq n d (m+1)/\ldr n d m=2*ldr n d (m+1)+n / 2^m % 2):=by
 unfold ldq ldr
 have e:=Ade n m
 have hb:0<=n / 2^m % 2/\n / 2^m % 2<2:=by omega
 generalize n / 2^m % 2=t at *
 generalize n / 2^(m+1)=y at *
 generalize n / 2^m=x at *
 have e2:=Zah y d
 have h1:=Zak y (Zam hd)
 have h2:=Zae y hd
 generalize y / d=q at *
 generalize y % d=r at *
 refine⟨fun c=>?_,fun c=>?_⟩
 ·have:x=(2*r+t-d)+d*(2*q+1):=by grind
  rw[this,Zw _ _ (Zam hd),Zv,Zu (by omega) (by omega),Zaa (by omega) (by omega)]
  omega
 ·have:x=(2*r+t)+d*(2*q):=by grind
  rw[this,Zw _ _ (Zam hd),Zv,Zu (by omega) (by omega),Zaa (by omega) (by omega)]
  omega
theorem Aik(n d:Int)(m:Nat)(hd:0<d):0<=ldr n d m/\ldr n d m<d:=⟨Zak _ (Zam hd),Zae _ hd⟩
theorem RA(n d:Int)(m:Nat)(hd:0<d)(h0:0<=n)(hq:hi64 n<d):0<=ldq n d m/\ldq n d m<=18446744073709551615:=by
 unfold ldq
 have h1:0<=n / 2^m:=Zad h0 (Zal (BV m))
 have h2:n / 2^m<=n:=Int.ediv_le_self _ h0
 refine⟨Zad h1 (Zal hd),?_⟩
 have h3:n<d*18446744073709551616:=by have:=IN n;have:=BN n;omega
 have h4:n / 2^m / d<18446744073709551616:=Int.ediv_lt_of_lt_mul hd (by rw[Int.mul_comm];omega)
 omega
theorem Ail(n d:Int)(h0:0<=n)(hq:hi64 n<d):ldq n d 64=0/\ldr n d 64=hi64 n:=by
 have h:0<=hi64 n:=Zad h0 (by decide)
 have e:n / 2^64=hi64 n:=rfl
 unfold ldq ldr
 rw[e]
 exact⟨Zu h hq,Zaa h hq⟩
theorem Azp(n d:Int):ldq n d 0=n / d/\ldr n d 0=n % d:=by unfold ldq ldr;simp
theorem Aim(x y:Int)(h0:0<=x)(h1:x<=9223372036854775807)(k0:0<=y)(k1:y<=1):bits .or .u64 (x*2) y=x*2+y:=by
 rw[u64_or _ _ (by omega) (by omega) (by omega) (by omega),nat_join 1 _ _ (by omega) (by omega)]
 omega
theorem Asa(x:Int)(h0:0<=x)(h1:x<=18446744073709551615):bits .and .u64 x 1=x % 2:=by
 rw[u64_and _ _ (by omega) (by omega) (by omega) (by omega),show(1:Int).toNat=1 by rfl,nat_mask1]
 omega
theorem Z3(n r:Int)(m:Nat)(hm:m<64)(h0:0<=r)(h1:r<=9223372036854775807):bits .or .u64 (r*2) (bits .and .u64 (lo64 n / 2^m) 1)=2*r+n / 2^m % 2:=by
 have b:=BN n
 have h2:0<=lo64 n / 2^m:=Zad b.1 (Zal (BV m))
 have h3:lo64 n / 2^m<=lo64 n:=Int.ediv_le_self _ b.1
 rw[Asa _ h2 (by omega),Z2 n m hm,Aim _ _ h0 h1 (by omega) (by omega)]
 omega
theorem ABv(q:Int)(h0:0<=q)(h1:2*q+1<=18446744073709551615):bits .or .u64 (IntKind.u64.wrap (q*2)) 1=2*q+1:=by
 rw[IntKind.wrap_u64,show q*2 % 18446744073709551616=q*2 by omega,Aim _ _ h0 (by omega) (by decide) (by decide)]
 omega
theorem Ain(n d:Int)(hd:1<=d)(c:d<=hi64 (n+d / 2)):18446744073709551615=ER (rnd n d):=by
 unfold ER rnd
 have h1:=IN (n+d / 2)
 have h2:=BN (n+d / 2)
 rw[if_neg]
 have:18446744073709551616<=(n+d / 2) / d:=Int.le_ediv_of_mul_le (by omega) (by omega)
 omega
theorem ABw(n d:Int)(hd:1<=d)(c:hi64 (n+d / 2)<d):(n+d / 2) / d=ER (rnd n d):=by
 unfold ER rnd
 have h1:=IN (n+d / 2)
 have h2:=BN (n+d / 2)
 rw[if_pos]
 have:(n+d / 2) / d<18446744073709551616:=Int.ediv_lt_of_lt_mul (by omega) (by omega)
 omega
def Fo(n:Int):Nat->Int->Int
 |0,r=>r
 |j+1,r=>Fo n j (if (r+2^j)*(r+2^j)<=n then r+2^j else r)
def isq(n:Int):Int:=Fo n 63 0
def B5(bad:Bool)(a:Int):Int×Bool:=if tk bad [a]&&decide (0<=a)then out (isq (a*1099511627776)) false else(0,true)
def Ar(bad:Bool)(a b c:Int):Int×Bool:=if tk bad [a,b,c]then out (isq (a*a+b*b+c*c)) false else(0,true)
theorem EE{x y:Int}(h0:0<=x)(h:x<=y):x*x<=y*y:=Zan h h h0 (by omega)
theorem No{bad:Bool}{a:Int}(c:tk bad [a]=false):B5 bad a=(0,true):=by unfold B5;rw[c];rfl
theorem P2{bad:Bool}{a:Int}(h:¬0<=a):B5 bad a=(0,true):=by unfold B5;rw[decide_eq_false h,Bool.and_false];rfl
theorem P3{bad:Bool}{a:Int}(c:tk bad [a]=true)(h:0<=a):B5 bad a=out (isq (a*1099511627776)) false:=by unfold B5;rw[c,decide_eq_true h];rfl
theorem Hg{bad:Bool}{a b c:Int}(h:tk bad [a,b,c]=false):Ar bad a b c=(0,true):=by unfold Ar;rw[h];rfl
theorem Ix{bad:Bool}{a b c:Int}(h:tk bad [a,b,c]=true):Ar bad a b c=out (isq (a*a+b*b+c*c)) false:=by unfold Ar;rw[h];rfl
theorem Iy(n:Int):∀(m:Nat) (r:Int),0<=r->r*r<=n->n<(r+2^m)*(r+2^m)->0<=Fo n m r/\Fo n m r*Fo n m r<=n/\n<(Fo n m r+1)*(Fo n m r+1)
 |0,r,h0,h1,h2=>⟨h0,h1,by show n<(r+1)*(r+1);simpa using h2⟩
 | j+1,r,h0,h1,h2=>by
  have hp:=BV j
  have e:r+(2:Int)^(j+1)=r+2^j+2^j:=by rw[Zaf];omega
  rw[e]at h2
  unfold Fo
  by_cases c:(r+2^j)*(r+2^j)<=n
  ·rw[if_pos c]
   exact Iy n j (r+2^j) (by omega) c h2
  ·rw[if_neg c]
   exact Iy n j r h0 h1 (by omega)
theorem Np(x y n:Int)(hx:0<=x)(hy:0<=y)(h1:x*x<=n)(h2:n<(x+1)*(x+1))(h3:y*y<=n)(h4:n<(y+1)*(y+1)):x=y:=by
 rcases Int.lt_trichotomy x y with h |h |h
 ·have:=EE (by omega:(0:Int)<=x+1) (by omega:x+1<=y);omega
 ·exact h
 ·have:=EE (by omega:(0:Int)<=y+1) (by omega:y+1<=x);omega
theorem Dy(n:Int)(h0:0<=n)(h:n<85070591730234615865843651857942052864):0<=isq n/\isq n*isq n<=n/\n<(isq n+1)*(isq n+1):=
 Iy n 63 0 (by omega) (by omega) (by show n<(0+9223372036854775808)*(0+9223372036854775808);omega)
theorem Aio(n:Int)(h0:0<=n)(h:n<85070591730234615865843651857942052864):0<=isq n/\isq n<=18446744073709551615:=by
 have:=Dy n h0 h
 refine⟨this.1,?_⟩
 by_cases c:isq n<=18446744073709551615
 ·exact c
 ·have h2:=EE (by decide:(0:Int)<=18446744073709551616) (by omega:18446744073709551616<=isq n)
  omega
theorem Asb(n:Int)(m:Nat)(h0:0<=n)(h:n<85070591730234615865843651857942052864)(hm:n<2^m*2^m):Fo n m 0=isq n:=by
 have a:=Iy n m 0 (by omega) (by omega) (by simpa using hm)
 have b:=Dy n h0 h
 exact Np _ _ n a.1 b.1 a.2.1 a.2.2 b.2.1 b.2.2
theorem ABx(r:Int)(j:Nat)(h0:0<=r)(h:r % 2^(j+1)=0)(hr:r<=9223372036854775807)(hj:j<63):bits .or .u64 r (2^j)=r+2^j:=by
 obtain⟨x,rfl⟩:=Int.eq_ofNat_of_zero_le h0
 have e:(2:Int)^j=((2^j:Nat):Int):=by simp
 have hb:2^j<2^63:=Nat.pow_lt_pow_right (by decide) hj
 have hx:x % 2^(j+1)=0:=by
  have e2:(2:Int)^(j+1)=((2^(j+1):Nat):Int):=by simp
  rw[e2]at h
  exact_mod_cast h
 rw[e,u64_or _ _ (by omega) (by omega) (by omega) (by omega)]
 simp only[Int.toNat_natCast]
 rw[nat_join (j+1) _ _ hx (Nat.pow_lt_pow_right (by decide) (by omega))]
 omega
theorem RB(r:Int)(j:Nat)(h:r % 2^(j+1)=0):r % 2^j=0/\(r+2^j) % 2^j=0:=by
 have h1:(2:Int)^j∣2^(j+1):=⟨2,by rw[Zaf]⟩
 have h2:(2:Int)^j∣r:=Int.dvd_trans h1 (Int.dvd_of_emod_eq_zero h)
 exact⟨Int.emod_eq_zero_of_dvd h2,Int.emod_eq_zero_of_dvd (Int.dvd_add h2 (Int.dvd_refl _))⟩
def bitAt(j:Nat):Int:=match j with |0=>0 |j+1=>2^j
theorem WM(j:Nat):bitAt (j+1) / 2=bitAt j:=by
 cases j with
 |zero=>rfl
 |succ k=>show(2:Int)^(k+1) / 2=2^k;rw[Zaf];omega
theorem JO(j:Nat)(h:j<=63):0<=bitAt j/\bitAt j<=4611686018427387904:=by
 cases j with
 |zero=>exact⟨by decide,by decide⟩
 |succ k=>
  have h3:(2:Nat)^k<=2^62:=Nat.pow_le_pow_right (by decide) (by omega)
  have h4:(2:Int)^k<=2^62:=by exact_mod_cast h3
  exact⟨Zal (BV k),h4⟩
theorem Asd(r:Int)(j:Nat)(h:r+2^(j+1)<=9223372036854775808):r+2^j+2^j<=9223372036854775808:=by
 rw[Zaf]at h;omega
structure Wd(c:Nat)(n:Int)(w:World):Prop where
 hi:w.cell? ⟨c,0,none⟩=some (.int .u64 (hi64 n))
 lo:w.cell? ⟨c,1,none⟩=some (.int .u64 (lo64 n))
 fh:w.frozen? ⟨c,0,none⟩=false
 fl:w.frozen? ⟨c,1,none⟩=false
 lies:c<w.heap.size
theorem Wd.below{c:Nat}{n:Int}{w w':World}(h:Wd c n w)(hb:Below w.heap.size w w'):Wd c n w':=
 ⟨(hb.cell (p:=⟨c,0,none⟩) h.lies).trans h.hi,(hb.cell (p:=⟨c,1,none⟩) h.lies).trans h.lo,(hb.frozen (p:=⟨c,0,none⟩) h.lies).trans h.fh,(hb.frozen (p:=⟨c,1,none⟩) h.lies).trans h.fl,Zz h.lies hb.size⟩
theorem Wd.put{c:Nat}{n:Int}{w:World}(h:Wd c n w)(m:Int):Wd c m ((w.setCell ⟨c,0,none⟩ (.int .u64 (hi64 m))).setCell ⟨c,1,none⟩ (.int .u64 (lo64 m))):=by
 have h1:=World.cell?_setCell_same w ⟨c,0,none⟩ (.int .u64 (hi64 m)) h.hi
 have h2:(w.setCell ⟨c,0,none⟩ (.int .u64 (hi64 m))).cell? ⟨c,1,none⟩=some (.int .u64 (lo64 n)):=by rw[World.cell?_setCell_other _ _ _ _ (by simp)];exact h.lo
 refine⟨?_,World.cell?_setCell_same _ _ _ h2,?_,?_,?_⟩
 ·rw[World.cell?_setCell_other _ _ _ _ (by simp)];exact h1
 ·simp only[World.frozen?_setCell];exact h.fh
 ·simp only[World.frozen?_setCell];exact h.fl
 ·simp only[World.size_setCell];exact h.lies
theorem Wd.far{c d:Nat}{n:Int}{w:World}(h:Wd c n w)(hd:d≠c)(u v:Value):Wd c n ((w.setCell ⟨d,0,none⟩ u).setCell ⟨d,1,none⟩ v):=by
 refine⟨?_,?_,?_,?_,?_⟩
 ·rw[World.cell?_setCell_other _ _ _ _ (fun e=>hd (congrArg Addr.block e)),World.cell?_setCell_other _ _ _ _ (fun e=>hd (congrArg Addr.block e))];exact h.hi
 ·rw[World.cell?_setCell_other _ _ _ _ (fun e=>hd (congrArg Addr.block e)),World.cell?_setCell_other _ _ _ _ (fun e=>hd (congrArg Addr.block e))];exact h.lo
 ·simp only[World.frozen?_setCell];exact h.fh
 ·simp only[World.frozen?_setCell];exact h.fl
 ·simp only[World.size_setCell];exact h.lies
theorem Nq(x:Int)(h0:0<=x)(h1:x<=18446744073709551615):hi64 x=0/\lo64 x=x:=by unfold hi64 lo64;omega
theorem Aip(s t y p:Int)(e:s+t*y=p)(hs:0<=s)(ht:0<=t)(hy:1<=y):t<=p/\s+t<=p:=by
 have h:=Int.mul_le_mul_of_nonneg_left hy ht
 omega
theorem Adf(s t y p:Int)(e:s+t*y=p)(h:y % 2=1):s+t+(t+t)*(y / 2)=p:=by
 have:y=2*(y / 2)+1:=by omega
 rw[this]at e
 have e2:y / 2=(2*(y / 2)+1) / 2:=by omega
 generalize y / 2=k at *
 grind
theorem WN(s t y p:Int)(e:s+t*y=p)(h:y % 2=0):s+(t+t)*(y / 2)=p:=by
 have:y=2*(y / 2):=by omega
 rw[this]at e
 have e2:y / 2=2*(y / 2) / 2:=by omega
 generalize y / 2=k at *
 grind
theorem Aiq(x y:Int)(hx:0<=x/\x<=9223372036854775808)(hy:0<=y/\y<=9223372036854775808):0<=x*y/\x*y<=85070591730234615865843651857942052864:=by
 refine⟨Int.mul_nonneg hx.1 hy.1,?_⟩
 have:=Zan hx.2 hy.2 hy.1 (by omega:(0:Int)<=9223372036854775808)
 omega
theorem WO(n d:Int)(hd:1<=d)(h:n / d<=4611686018427387904):hi64 n<d:=by
 have e:=IN n
 have b:=BN n
 have h2:n<(n / d+1)*d:=Int.lt_ediv_add_one_mul_self n (by omega)
 have h3:(n / d+1)*d<=4611686018427387905*d:=Int.mul_le_mul_of_nonneg_right (by omega) (by omega)
 omega
theorem Nr(n d:Int)(hd:1<=d):(d-n % d<=n % d->rnd n d=n / d+1)/\(n % d<d-n % d->rnd n d=n / d):=by
 have e:=Zah n d
 have r0:0<=n % d:=Zak n (by omega)
 have r1:n % d<d:=Zae n (by omega)
 unfold rnd
 generalize n / d=q at *
 generalize n % d=r at *
 refine⟨fun c=>?_,fun c=>?_⟩
 ·have e2:n+d / 2=(r+d / 2-d)+d*(q+1):=by grind
  rw[e2,Zw _ _ (by omega),Zu (by omega) (by omega)]
  omega
 ·have e2:n+d / 2=(r+d / 2)+d*q:=by grind
  rw[e2,Zw _ _ (by omega),Zu (by omega) (by omega)]
  omega
theorem Ase{q:Int}(h:q=0):sz q=0:=by rw[h];rfl
theorem Asf{n d:Int}(hd:1<=d)(h:n / d<=4611686018427387904):rnd n d<=18446744073709551615:=by
 have:=Nr n d hd
 by_cases c:d-n % d<=n % d
 ·rw[this.1 c];omega
 ·rw[this.2 (by omega)];omega
theorem Air{n d:Int}(minus:Bool)(hd:1<=d)(h:4611686018427387904<n / d):out (rnd n d) minus=(0,true):=by
 have:=Nr n d hd
 have h2:4611686018427387904<rnd n d:=by
  by_cases c:d-n % d<=n % d
  ·rw[this.1 c];omega
  ·rw[this.2 (by omega)];omega
 unfold out
 rw[<-JN _ _ (by omega),decide_eq_true h2]
def PI(a p q:Int):Int×Bool:=if q=0 then(0,true)else out (rnd (sz a*sz p) (sz q)) ((decide (a<0) != decide (p<0)) != decide (q<0))
theorem Asg{a p q:Int}(c:q=0∨4611686018427387904<sz a*sz p / sz q):PI a p q=(0,true):=by
 unfold PI
 by_cases q0:q=0
 ·rw[if_pos q0]
 ·rw[if_neg q0]
  exact Air _ (WK (by simpa using q0)) (by rcases c with c |c;exact absurd c q0;exact c)
theorem T7(a p q:Int)(h:(q != 0)=true):PI a p q=out (rnd (sz a*sz p) (sz q)) ((decide (a<0) != decide (p<0)) != decide (q<0)):=by
 unfold PI
 rw[if_neg (by simpa using h)]
theorem La{bad:Bool}{a p q:Int}(c:tk bad [a,p,q]=true):Af bad a p q=PI a p q:=by
 by_cases q0:q=0
 ·subst q0;rw[Nm];rfl
 ·rw[FP c (by simpa using q0),T7 a p q (by simpa using q0)]
theorem Z4(x:Int)(h:-4611686018427387904<=x/\x<=4611686018427387904):-2305843009213693952<=x.tdiv 2/\x.tdiv 2<=2305843009213693952/\-1<=x.tmod 2/\x.tmod 2<=1:=by
 have e:=Zx x 2
 have b:=Fu x 2 (by decide)
 omega
theorem Adg(x y:Int):-1<=(x.tmod 2+y.tmod 2).tdiv 2/\(x.tmod 2+y.tmod 2).tdiv 2<=1:=by
 have b1:=Fu x 2 (by decide)
 have b2:=Fu y 2 (by decide)
 generalize x.tmod 2=p at *
 generalize y.tmod 2=q at *
 have e:=Zx (p+q) 2
 have b:=Fu (p+q) 2 (by decide)
 omega
theorem Ais(x y:Int):2*(x.tdiv 2+y.tdiv 2+(x.tmod 2+y.tmod 2).tdiv 2)<=x+y+1/\x+y<=2*(x.tdiv 2+y.tdiv 2+(x.tmod 2+y.tmod 2).tdiv 2)+1:=by
 have e1:=Zx x 2
 have e2:=Zx y 2
 generalize x.tmod 2=p at *
 generalize y.tmod 2=q at *
 have e:=Zx (p+q) 2
 have b:=Fu (p+q) 2 (by decide)
 omega
theorem Ait(n:Int)(h:-9223372036854775808<=n/\n<=9223372036854775808):numB (wrap64 n)=numB n:=by
 have:=congrArg Prod.snd (Ru n h)
 unfold gv at this
 simpa using this
theorem Aiu{n:Int}(h:numB n=false):gv n=(0,true):=by unfold gv;rw[h];rfl
theorem WP{n:Int}(h:numB n=true):gv n=(n,false):=by unfold gv;rw[h];rfl
theorem Aiv(n:Int):numB (-n)=numB n:=by unfold numB;rw[Bool.eq_iff_iff];simp;omega
theorem Aiw{bad:Bool}{a b:Int}(c:tk bad [a,b]=true):AJ bad a b=Ap false a (-b):=by
 have h:=Df c
 rw[Nl c,Hf (by unfold tk;simp[h.2.1,Aiv,h.2.2]),Int.sub_eq_add_neg]
theorem T8(m:Nat)(h:m<=62):IntKind.u64.wrap (2^m)=bitAt (m+1):=by
 have:=JO (m+1) (by omega)
 exact IntWalk.u64_in (bitAt (m+1)) ⟨this.1,by omega⟩
theorem P4(x:Int):sz x*sz x=x*x:=by
 unfold sz
 split
 ·rw[Int.neg_mul_neg]
 ·rfl
theorem BF{x:Int}(h:numB x=true):0<=x*x/\x*x<=21267647932558653966460912964485513216:=by
 rw[<-P4 x];exact CP h h
theorem ABy(w:World)(t:TypeId):Wd w.heap.size 0 (w.alloc (.cells #[.int .u64 0,.int .u64 0] t)):=
 ⟨by simp[show hi64 0=0 by rfl],by simp[show lo64 0=0 by rfl],by simp,by simp,by simp⟩
theorem Ash(n:Int)(m:Bool)(h:(out n m).2=true):(out n m).1=0:=by
 have h2:4611686018427387904<n:=of_decide_eq_true h
 exact(JN n m (by omega)).symm
theorem Aix(n:Int)(m:Bool)(h:(out n m).2=false):n<=4611686018427387904/\(out n m).1=if m then-n else n:=by
 have h2:¬4611686018427387904<n:=of_decide_eq_false h
 exact⟨by omega,(JM n m (by omega)).symm⟩
theorem B8{n:Int}(h:-4611686018427387904<=n/\n<=4611686018427387904):numB n=true:=by unfold numB;simp;exact h
theorem T9(n d:Int)(hd:1<=d):rnd n d*d<=n+d / 2/\n<=rnd n d*d+d / 2:=by
 unfold rnd
 have e:=Zah (n+d / 2) d
 have r0:0<=(n+d / 2) % d:=Zak _ (by omega)
 have r1:(n+d / 2) % d<d:=Zae _ (by omega)
 rw[Int.mul_comm d]at e
 omega
end
section
theorem zA{α:Type}{l:List α}{i:Nat}{a:α}:l.toArray.setIfInBounds i a=(l.set i a).toArray:=by simp
theorem zB{α:Type}{x:α}{xs:List α}{a:α}:(x::xs).set 0 a=a::xs:=rfl
theorem zC{α:Type}{x:α}{xs:List α}{i:Nat}{a:α}:(x::xs).set (i+1) a=x::xs.set i a:=rfl
theorem zD{p:Prop} [d:Decidable p] (h:decide p=true):p:=of_decide_eq_true h
theorem zL{a b:Nat}(h:a<b):a≠b:=by omega
theorem zG{a b:Nat}(h:b<a):a≠b:=by omega
open Go.RowKit
theorem Dz{a b:Bool}(h:a=b):Ending.returned (.bool a)=.returned (.bool b):=by rw[h]
theorem BW{k:IntKind}{a b:Int}(h:a=b):Ending.returned (.int k a)=.returned (.int k b):=by rw[h]
theorem EF(a:Int)(w:World):
    Calls Zr 264 #[.int .i64 a] w fun e w'=>e=.returned (.bool (numB a))/\w'=w:=by
 go_enter Tryz.func264,Tryz.ntmps264
 go_wp2
 all_goals
  go_ret
  exact⟨Dz (by unfold numB;simp;try omega),rfl⟩
theorem Ns{k l:IntKind}{a b c d:Int}(h:a=c)(h':b=d):Ending.returned (.agg #[.int k a,.int l b])=.returned (.agg #[.int k c,.int l d]):=by rw[h,h']
theorem Ej(a b:Int)(w:World)(h0:0<=a)(h1:a<=18446744073709551615)(k0:0<=b)(k1:b<=18446744073709551615):
    Calls Zr 213 #[.int .u64 a,.int .u64 b] w fun e w'=>e=.returned (.agg #[.int .u64 (hi64 (a*b)),.int .u64 (lo64 (a*b))])/\Below w.heap.size w w':=by
 have HP:Hid _:=WL a b h0 h1 k0 k1
 go_enter Tryz.func213,Tryz.ntmps213
 go_wp2
 go_returns
 exact⟨Ns HP.out.1 HP.out.2,by go_grown⟩
theorem Ua(a b c d:Int)(w:World)(h1:0<=a/\a<=18446744073709551615)(h2:0<=b/\b<=18446744073709551615)(h3:0<=c/\c<=18446744073709551615)(h4:0<=d/\d<=18446744073709551615)
    (hs:a*18446744073709551616+b+(c*18446744073709551616+d)<=340282366920938463463374607431768211455):
    Calls Zr 225 #[.agg #[.int .u64 a,.int .u64 b],.agg #[.int .u64 c,.int .u64 d]] w fun e w'=>e=.returned (.agg #[.int .u64 (hi64 (a*18446744073709551616+b+(c*18446744073709551616+d))),.int .u64 (lo64 (a*18446744073709551616+b+(c*18446744073709551616+d)))])/\Below w.heap.size w w':=by
 have HS:Hid _:=hs
 clear hs
 go_enter Tryz.func225,Tryz.ntmps225
 go_wp2
 all_goals
  rename_i hq
  go_returns
  refine⟨Ns ?_ ?_,by go_grown⟩<;>(have hs:=HS.out;rw[IntKind.wrap_u64]at hq;simp only[IntKind.wrap_u64];first |unfold hi64 |unfold lo64);all_goals omega
theorem Ub(n m:Int)(w:World)(h0:0<=n)(k0:0<=m)(hs:n+m<=340282366920938463463374607431768211455):
    Calls Zr 225 #[.agg #[.int .u64 (hi64 n),.int .u64 (lo64 n)],.agg #[.int .u64 (hi64 m),.int .u64 (lo64 m)]] w fun e w'=>e=.returned (.agg #[.int .u64 (hi64 (n+m)),.int .u64 (lo64 (n+m))])/\Below w.heap.size w w':=by
 have e1:=IN n
 have e2:=IN m
 have:=Ua (hi64 n) (lo64 n) (hi64 m) (lo64 m) w (ED n h0 (by omega)) (BN n) (ED m k0 (by omega)) (BN m) (by omega)
 rw[e1,e2]at this
 exact this
theorem Uc(n m:Int)(w:World)(h0:0<=n)(k0:0<=m)(k1:m<=18446744073709551615)(hs:n+m<=340282366920938463463374607431768211455):
    Calls Zr 225 #[.agg #[.int .u64 (hi64 n),.int .u64 (lo64 n)],.agg #[.int .u64 0,.int .u64 m]] w fun e w'=>e=.returned (.agg #[.int .u64 (hi64 (n+m)),.int .u64 (lo64 (n+m))])/\Below w.heap.size w w':=by
 have e1:=IN n
 have:=Ua (hi64 n) (lo64 n) 0 m w (ED n h0 (by omega)) (BN n) (by omega) (by omega) (by omega)
 rw[e1,show(0:Int)*18446744073709551616+m=m by omega]at this
 exact this
theorem Z5{W w1:World}(hb:Below W.heap.size W w1):(∀b o,b<W.heap.size->w1.cell? ⟨b,o,none⟩=W.cell? ⟨b,o,none⟩)/\(∀b o,b<W.heap.size->w1.frozen? ⟨b,o,none⟩=W.frozen? ⟨b,o,none⟩):=
 ⟨fun b o h=>hb.cell (p:=⟨b,o,none⟩) h,fun b o h=>hb.frozen (p:=⟨b,o,none⟩) h⟩
theorem WQ(n m:Int)(w:World):
    Calls Zr 269 #[.agg #[.int .u64 (hi64 n),.int .u64 (lo64 n)],.agg #[.int .u64 (hi64 m),.int .u64 (lo64 m)]] w fun e w'=>e=.returned (.bool (decide (m<n)))/\Below w.heap.size w w':=by
 have b2:=BN n
 have b4:=BN m
 have e1:=IN n
 have e2:=IN m
 by_cases c1:hi64 m<hi64 n
 ·have HF:Hid (true=decide (m<n)):=by show _=_;simp;omega
  clear b2 b4 e1 e2
  go_enter Tryz.func269,Tryz.ntmps269
  go_wp2
  go_ret
  exact⟨Dz (by simpa using HF.out),by go_grown⟩
 ·by_cases c2:hi64 n=hi64 m
  ·have HF:Hid (decide (lo64 m<lo64 n)=decide (m<n)):=by show _=_;simp;omega
   have c3:(hi64 n==hi64 m)=true:=by simpa using c2
   clear b2 b4 e1 e2 c2
   go_enter Tryz.func269,Tryz.ntmps269
   go_wp2
   go_ret
   exact⟨Dz HF.out,by go_grown⟩
  ·have HF:Hid (false=decide (m<n)):=by show _=_;simp;omega
   have c3:(hi64 n==hi64 m)=false:=by simpa using c2
   clear b2 b4 e1 e2 c2
   go_enter Tryz.func269,Tryz.ntmps269
   go_wp2
   go_ret
   exact⟨Dz HF.out,by go_grown⟩
theorem Ek(a:Int)(w:World)(h:numB a=true):
    Calls Zr 214 #[.int .i64 a] w fun e w'=>e=.returned (.int .u64 (sz a))/\w'=w:=by
 have hb:=Bh h
 go_enter Tryz.func214,Tryz.ntmps214
 go_wp2
 all_goals
  go_ret
  exact⟨BW (by unfold sz;split<;>omega),rfl⟩
theorem Ud(n:Int)(w:World)(h0:0<=n)(hs:n<=85070591730234615865843651857942052864):
    Calls Zr 216 #[.agg #[.int .u64 (hi64 n),.int .u64 (lo64 n)],.int .u64 40] w fun e w'=>e=.returned (.int .u64 (ER ((n+549755813888) / 1099511627776)))/\Below w.heap.size w w':=by
 have HB:Hid _:=ED (n+549755813888) (by omega) (by omega)
 have HL:Hid _:=BN (n+549755813888)
 have HE:Hid _:=IN (n+549755813888)
 go_enter Tryz.func216,Tryz.ntmps216
 go_wp2_with fail
 refine(Uc n 549755813888 _ h0 (by omega) (by omega) (by omega)).mono ?_
 rintro e w1 ⟨rfl,hb⟩
 obtain⟨hc,hf⟩:=Z5 hb
 have hz:w.heap.size<w1.heap.size:=by have:=hb.size;simp at this;omega
 have HB':Hid _:=hb
 clear hb
 generalize hi64 (n+549755813888)=x at *
 generalize lo64 (n+549755813888)=y at *
 have b1:=HB.out
 have b2:=HL.out
 have hw:∀u v,Below w.heap.size w ((w1.setCell ⟨w.heap.size,0,none⟩ u).setCell ⟨w.heap.size,1,none⟩ v):=fun u v=>((((Below.refl _ _).alloc (Zy _) _).trans (HB'.out.mono (by simp))).setCell (Zy _) _).setCell (Zy _) _
 have HW:Hid _:=hw
 clear hw
 by_cases c:x / 1099511627776=0
 ·have c':(x / 1099511627776 != 0)=false:=by simp[c]
  have HQ:Hid _:=PH n x y HE.out b1 b2 c
  clear c
  go_wp2
  go_ret
  exact⟨BW HQ.out,HW.out _ _⟩
 ·have c':(x / 1099511627776 != 0)=true:=by simp[c]
  have HQ:Hid _:=Rz n x y HE.out b1 b2 c
  clear c
  go_wp2
  go_ret
  exact⟨BW HQ.out,HW.out _ _⟩
structure Fl(b:Nat)(bad:Bool)(w:World):Prop where
 cell:w.cell? ⟨b,0,none⟩=some (.bool bad)
 free:w.frozen? ⟨b,0,none⟩=false
 lies:b<w.heap.size
structure Ad(b:Nat)(w w':World):Prop where
 os:w'.os=w.os
 tape:w'.tape=w.tape
 output:w'.output=w.output
 size:w.heap.size<=w'.heap.size
 block:∀k,k<w.heap.size->k≠b->w'.heap[k]? =w.heap[k]?
theorem Ad.refl(b:Nat)(w:World):Ad b w w:=⟨rfl,rfl,rfl,Zy _,fun _ _ _=>rfl⟩
theorem Ad.trans{b:Nat}{x y z:World}(h:Ad b x y)(k:Ad b y z):Ad b x z:=
 ⟨k.os.trans h.os,k.tape.trans h.tape,k.output.trans h.output,Nat.le_trans h.size k.size,fun i hi hb=>(k.block i (Zz hi h.size) hb).trans (h.block i hi hb)⟩
theorem Ad.of_below{b:Nat}{w w':World}(h:Below w.heap.size w w'):Ad b w w':=⟨h.os,h.tape,h.output,h.size,fun k hk _=>h.block k hk⟩
theorem Ad.setCell{b:Nat}{x w:World}(h:Ad b x w)(u:Value):Ad b x (w.setCell ⟨b,0,none⟩ u):=
 h.trans ⟨rfl,rfl,rfl,by simp[World.setCell],fun k _ hb=>Below.heap_setCell _ _ _ _ hb⟩
theorem Ad.below{b B:Nat}{x w w':World}(h:Ad b w w')(hx:Below B x w)(hb:B<=b)(hB:B<=w.heap.size):Below B x w':=
 hx.trans ⟨h.os,h.tape,h.output,h.size,fun k hk=>h.block k (by omega) (by omega)⟩
theorem Ad.cell{b:Nat}{w w':World}(h:Ad b w w'){p:Addr}(hp:p.block<w.heap.size)(hb:p.block≠b):w'.cell? p=w.cell? p:=World.cell?_of_block (w:=w) (h.block p.block hp hb)
theorem Ad.frozen{b:Nat}{w w':World}(h:Ad b w w'){p:Addr}(hp:p.block<w.heap.size)(hb:p.block≠b):w'.frozen? p=w.frozen? p:=World.frozen?_of_block (w:=w) (h.block p.block hp hb)
theorem Fl.below{b:Nat}{bad:Bool}{w w':World}(h:Fl b bad w)(hb:Below w.heap.size w w'):Fl b bad w':=
 ⟨(hb.cell (p:=⟨b,0,none⟩) h.lies).trans h.cell,(hb.frozen (p:=⟨b,0,none⟩) h.lies).trans h.free,Zz h.lies hb.size⟩
theorem Fl.kept{b c:Nat}{bad:Bool}{w w':World}(h:Fl b bad w)(hb:Ad c w w')(hc:b≠c):Fl b bad w':=
 ⟨(hb.cell (p:=⟨b,0,none⟩) h.lies hc).trans h.cell,(hb.frozen (p:=⟨b,0,none⟩) h.lies hc).trans h.free,Zz h.lies hb.size⟩
theorem Fl.set{b:Nat}{bad:Bool}{w:World}(h:Fl b bad w)(v:Bool):Fl b v (w.setCell ⟨b,0,none⟩ (.bool v)):=by
 refine⟨World.cell?_setCell_same _ _ _ h.cell,?_,?_⟩
 ·rw[World.frozen?_setCell];exact h.free
 ·rw[World.size_setCell];exact h.lies
theorem BA(b:Nat)(bad:Bool)(w:World)(hw:Fl b bad w):
    Calls Zr 121 #[.pointer (some ⟨b,0,none⟩)] w fun e w'=>e=.returned (.tuple #[])/\Fl b true w'/\Ad b w w':=by
 have HW:Hid _:=hw
 obtain⟨hc,hf,hl⟩:=hw
 go_enter Tryz.func121,Tryz.ntmps121
 go_wp2
 go_end0
 exact⟨rfl,HW.out.set true,(Ad.refl _ _).setCell _⟩
theorem Gm(b:Nat)(n:Int)(minus:Bool)(w:World)(hw:Fl b false w)(h0:0<=n)(h1:n<=18446744073709551615):
    Calls Zr 215 #[.pointer (some ⟨b,0,none⟩),.int .u64 n,.bool minus] w fun e w'=>e=.returned (.int .i64 (out n minus).1)/\Fl b (out n minus).2 w'/\Ad b w w':=by
 show Calls Zr 215 _ _ fun e w'=>e=.returned (.int .i64 (KZ n minus))/\Fl b (decide (4611686018427387904<n)) w'/\Ad b w w'
 by_cases c:n<=4611686018427387904
 ·have HS:Hid _:=JM n minus c
  have HC:Hid (decide (4611686018427387904<n)=false):=by show _=_;simp;omega
  cases minus
  all_goals
   go_enter Tryz.func215,Tryz.ntmps215
   go_wp2
   go_ret
   rw[HC.out]
   exact⟨BW HS.out,hw,Ad.refl _ _⟩
 ·have HS:Hid _:=JN n minus c
  have HC:Hid (decide (4611686018427387904<n)=true):=by show _=_;simp;omega
  go_enter Tryz.func215,Tryz.ntmps215
  go_wp2_with fail
  refine(BA b false _ hw).mono ?_
  rintro e w1 ⟨rfl,h2,h3⟩
  go_wp2
  go_ret
  rw[HC.out]
  exact⟨BW HS.out,h2,h3⟩
theorem P5(b:Nat)(n:Int)(w:World)(hw:Fl b false w):
    Calls Zr 209 #[.pointer (some ⟨b,0,none⟩),.int .i64 n] w fun e w'=>e=.returned (.int .i64 (gv n).1)/\Fl b (gv n).2 w'/\Ad b w w':=by
 show Calls Zr 209 _ _ fun e w'=>e=.returned (.int .i64 (if numB n then n else 0))/\Fl b (!numB n) w'/\Ad b w w'
 cases c:numB n
 ·go_enter Tryz.func209,Tryz.ntmps209
  go_wp2_with fail
  refine(EF _ _).mono ?_
  rintro e w1 ⟨rfl,rfl⟩
  rw[c]
  clear c
  go_wp2_with fail
  refine(BA b false _ hw).mono ?_
  rintro e w1 ⟨rfl,h2,h3⟩
  go_wp2
  go_ret
  exact⟨rfl,h2,h3⟩
 ·go_enter Tryz.func209,Tryz.ntmps209
  go_wp2_with fail
  refine(EF _ _).mono ?_
  rintro e w1 ⟨rfl,rfl⟩
  rw[c]
  clear c
  go_wp2
  go_ret
  exact⟨rfl,hw,Ad.refl _ _⟩
def Aiy(s:Nat)(zs:List Int)(w:World):Prop:=∀i,(h:i<zs.length)->w.cell? ⟨s,i,none⟩=some (.int .i64 zs[i])
theorem IX{zs:List Int}{k:Nat}(h:k<zs.length):(zs.take (k+1)).all numB=((zs.take k).all numB&&numB zs[k]):=by
 rw[Zag h,List.all_append];simp only[List.all_cons,List.all_nil,Bool.and_true]
theorem WR{zs:List Int}{k:Nat}(h:k<zs.length)(c:numB zs[k]=false):zs.all numB=false:=by
 rw[Bool.eq_false_iff]
 intro ha
 rw[List.all_eq_true]at ha
 have:=ha _ (List.getElem_mem h)
 rw[c]at this
 cases this
theorem Lb(b s:Nat)(bad:Bool)(zs:List Int)(w:World)(hw:Fl b bad w)(hz:Aiy s zs w)(hlen:zs.length<=3):
    Calls Zr 208 #[.pointer (some ⟨b,0,none⟩),.slice (some ⟨s,0,none⟩) zs.length zs.length] w fun e w'=>e=.returned (.bool (tk bad zs))/\Fl b (!tk bad zs) w'/\Ad b w w':=by
 rw[<-Aig bad zs]
 unfold tk
 have HW:Hid _:=hw
 have HZ:Hid _:=hz
 obtain⟨hc,hf,hl⟩:=hw
 clear hz
 cases bad
 ·go_enter Tryz.func208,Tryz.ntmps208
  go_wp2
  go_loop [17] (fun v=>∃k:Nat,k<=zs.length/\v=.int .i64 k/\Hid ((zs.take k).all numB=true)) (fun v=>zs.length-(intOf v).toNat)
  case atStart=>exact⟨0,Nat.zero_le _,rfl,by show _=_;simp⟩
  case round=>
   obtain⟨k,hk,rfl,HA⟩:=hrel
   by_cases hlt:k<zs.length
   ·have hcell:=HZ.out k hlt
    have HS:Hid _:=IX hlt
    have HN:numB zs[k]=false->zs.all numB=false:=WR hlt
    have HN':Hid _:=HN
    clear HN
    generalize zs[k]=z at *
    cases c:numB z
    ·have HC:Hid _:=HN'.out c
     have HC2:Hid _:=c
     clear c
     go_wp2_with fail
     refine(EF _ _).mono ?_
     rintro e w1 ⟨rfl,rfl⟩
     rw[HC2.out]
     go_wp2_with fail
     refine(BA b false _ HW.out).mono ?_
     rintro e w1 ⟨rfl,h2,h3⟩
     go_wp2
     go_ret
     rw[HC.out]
     exact⟨rfl,h2,h3⟩
    ·have HC2:Hid _:=c
     clear c
     go_wp2_with fail
     refine(EF _ _).mono ?_
     rintro e w1 ⟨rfl,rfl⟩
     rw[HC2.out]
     go_wp2
     go_round
     case rel=>exact⟨k+1,by omega,by go_num,by show _=_;rw[HS.out,HA.out,HC2.out];rfl⟩
     case measure=>simp[intOf];omega
   ·go_wp2
    go_ret
    have ha:zs.all numB=true:=by have:=HA.out;rwa [List.take_of_length_le (by omega)]at this
    rw[ha]
    exact⟨rfl,HW.out,Ad.refl _ _⟩
 ·go_enter Tryz.func208,Tryz.ntmps208
  go_wp2
  go_ret
  exact⟨rfl,HW.out,Ad.refl _ _⟩
theorem Ue(x y:Int)(w:World):Aiy w.heap.size [x,y] (w.alloc (.cells #[.int .i64 x,.int .i64 y] 2)):=by
 intro i h
 rw[World.cell?_alloc_new]
 match i,h with
 |0,_=>rfl
 |1,_=>rfl
theorem Uf(x:Int)(w:World):Aiy w.heap.size [x] (w.alloc (.cells #[.int .i64 x] 2)):=by
 intro i h
 rw[World.cell?_alloc_new]
 match i,h with
 |0,_=>rfl
theorem Nt(x y z:Int)(w:World):Aiy w.heap.size [x,y,z] (w.alloc (.cells #[.int .i64 x,.int .i64 y,.int .i64 z] 2)):=by
 intro i h
 rw[World.cell?_alloc_new]
 match i,h with
 |0,_=>rfl
 |1,_=>rfl
 |2,_=>rfl
theorem Ad.alloc(b:Nat)(w:World)(o:Obj):Ad b w (w.alloc o):=Ad.of_below ((Below.refl _ _).alloc (Zy _) o)
theorem Fl.alloc{b:Nat}{bad:Bool}{w:World}(h:Fl b bad w)(o:Obj):Fl b bad (w.alloc o):=h.below ((Below.refl _ _).alloc (Zy _) o)
theorem ABz(b:Nat)(bad:Bool)(x:Int)(w:World)(hw:Fl b bad w):
    Calls Zr 208 #[.pointer (some ⟨b,0,none⟩),.slice (some ⟨w.heap.size,0,none⟩) 1 1] (w.alloc (.cells #[.int .i64 x] 2)) fun e w'=>e=.returned (.bool (tk bad [x]))/\Fl b (!tk bad [x]) w'/\Ad b w w':=
 (Lb b w.heap.size bad [x] _ (hw.alloc _) (Uf x w) (by simp)).mono fun _ _ h=>⟨h.1,h.2.1,(Ad.alloc b w _).trans h.2.2⟩
theorem RD(b:Nat)(bad:Bool)(x y:Int)(w:World)(hw:Fl b bad w):
    Calls Zr 208 #[.pointer (some ⟨b,0,none⟩),.slice (some ⟨w.heap.size,0,none⟩) 2 2] (w.alloc (.cells #[.int .i64 x,.int .i64 y] 2)) fun e w'=>e=.returned (.bool (tk bad [x,y]))/\Fl b (!tk bad [x,y]) w'/\Ad b w w':=
 (Lb b w.heap.size bad [x,y] _ (hw.alloc _) (Ue x y w) (by simp)).mono fun _ _ h=>⟨h.1,h.2.1,(Ad.alloc b w _).trans h.2.2⟩
theorem Aiz(b:Nat)(bad:Bool)(x y z:Int)(w:World)(hw:Fl b bad w):
    Calls Zr 208 #[.pointer (some ⟨b,0,none⟩),.slice (some ⟨w.heap.size,0,none⟩) 3 3] (w.alloc (.cells #[.int .i64 x,.int .i64 y,.int .i64 z] 2)) fun e w'=>e=.returned (.bool (tk bad [x,y,z]))/\Fl b (!tk bad [x,y,z]) w'/\Ad b w w':=
 (Lb b w.heap.size bad [x,y,z] _ (hw.alloc _) (Nt x y z w) (by simp)).mono fun _ _ h=>⟨h.1,h.2.1,(Ad.alloc b w _).trans h.2.2⟩
theorem CQ{P:Program}{md:Region.Mode}{l:List Oper}{Q:Exit->Act->World->Prop}{S:World->Prop}{i:Nat}{oi:Oper}{v:Value}{fuel:Nat}{listed:Array Bool}{a:Act}{w:World}(hi:l[i]? =some oi)
    (hs:Region.noSelect l.toArray=true) (hf:Region.free md l.toArray listed i=true) (hr:(Region.ready md l.toArray listed).contains i=true)
    (hQ:∀c a w,Q (.panic c) (a.put oi.dst v) w->Q (.panic c) a w) (hy:YieldsIf P l.toArray S oi v a) (hS:S w)
    (h:wpAnyH P md l.toArray Q S fuel (listed.setIfInBounds i true) (a.put oi.dst v) w):wpAnyH P md l.toArray Q S (fuel+1) listed a w:=
 wpAnyH_take (ops:=l.toArray) (by simpa using hi) hs hf hr hQ hy hS h
theorem zT{P:Program}{md:Region.Mode}{l:List Oper}{Q:Exit->Act->World->Prop}{S:World->Prop}(i:Nat){oi:Oper}{v:Value}{fuel:Nat}{listed:Array Bool}{a:Act}{w:World}(hi:l[i]? =some oi)
    (hb:(Region.noSelect l.toArray&&(Region.free md l.toArray listed i&&(Region.ready md l.toArray listed).contains i))=true)
    (hQ:∀c a w,Q (.panic c) (a.put oi.dst v) w->Q (.panic c) a w) (hw:Region.wanted oi (yielded l.toArray a.tmps)=true) (hy:∀w,S w->(execOp a.eval oi).run P w=.ok (.value v) w) (hS:S w)
    (h:wpAnyH P md l.toArray Q S fuel (listed.setIfInBounds i true) (a.put oi.dst v) w):wpAnyH P md l.toArray Q S (fuel+1) listed a w:=by
 rw[Zai,Zai]at hb
 exact CQ hi hb.1 hb.2.1 hb.2.2 hQ (Or.inl ⟨hw,hy⟩) hS h
theorem Asi{P:Program}{md:Region.Mode}{l:List Oper}{Q:Exit->Act->World->Prop}{S:World->Prop}{i:Nat}{o:Oper}{fuel:Nat}{listed:Array Bool}{a:Act}{w:World}(hr:Region.ready md l.toArray listed=[i])(hi:l[i]? =some o)
    (h:∀K':Act->World->Prop,Shut (∀a w,S w->(S w->wpAnyH P md l.toArray Q S fuel (listed.setIfInBounds i true) a w)->K' a w)->if Region.wanted o (yielded l.toArray a.tmps)=true then Oper.wp P o a w K' Q else K' (a.put o.dst undef) w):
    wpAnyH P md l.toArray Q S (fuel+1) listed a w:=
 wpAnyH_ready hr (by simp) (AllReadyH.cons (by simpa using hi) h AllReadyH.nil)
theorem zK{P:Program}{md:Region.Mode}{l:List Oper}{Q:Exit->Act->World->Prop}{S:World->Prop}(i:Nat){o:Oper}{fuel:Nat}{listed:Array Bool}{a:Act}{w:World}(hr:Region.ready md l.toArray listed=[i])(hi:l[i]? =some o)
    (h:∀K':Act->World->Prop,Shut (∀a w,S w->(S w->wpAnyH P md l.toArray Q S fuel (listed.setIfInBounds i true) a w)->K' a w)->if Region.wanted o (yielded l.toArray a.tmps)=true then Oper.wp P o a w K' Q else K' (a.put o.dst undef) w):
    wpAnyH P md l.toArray Q S (fuel+1) listed a w:=Asi hr hi h
theorem Ad.on{b:Nat}{x w w':World}(h:Ad b w w')(hx:Below x.heap.size x w)(hb:x.heap.size<=b):Below x.heap.size x w':=h.below hx hb hx.size
theorem Fl.drew{b:Nat}{bad:Bool}{w:World}(h:Fl b bad w):Fl b bad w.drew:=⟨h.cell,h.free,h.lies⟩
theorem Ad.drew{b:Nat}{x w:World}(h:Ad b x w):Ad b x w.drew:=⟨h.os,h.tape,h.output,h.size,h.block⟩
theorem Ad.al{b:Nat}{x w:World}(h:Ad b x w)(o:Obj):Ad b x (w.alloc o):=h.trans (Ad.alloc b w o)
theorem Ad.new{b:Nat}{x w:World}(h:Ad b x w)(q o:Nat)(hp:x.heap.size<=q)(u:Value):Ad b x (w.setCell ⟨q,o,none⟩ u):=
 ⟨h.os,h.tape,h.output,by rw[World.size_setCell];exact h.size,fun k hk hb=>(Below.heap_setCell _ _ _ _ (by show k≠q;omega)).trans (h.block k hk hb)⟩
theorem Fl.new{b:Nat}{bad:Bool}{w:World}(h:Fl b bad w)(q o:Nat)(hp:b≠q)(u:Value):Fl b bad (w.setCell ⟨q,o,none⟩ u):=
 ⟨(World.cell?_of_block (w:=w) (Below.heap_setCell _ _ _ _ hp)).trans h.cell,by rw[World.frozen?_setCell];exact h.free,by rw[World.size_setCell];exact h.lies⟩
theorem CR{x w:World}(h:Below x.heap.size x w)(q o:Nat)(hp:x.heap.size<=q)(u:Value):Below x.heap.size x (w.setCell ⟨q,o,none⟩ u):=
 ⟨h.os,h.tape,h.output,by rw[World.size_setCell];exact h.size,fun k hk=>(Below.heap_setCell _ _ _ _ (by show k≠q;omega)).trans (h.block k hk)⟩
theorem Cx{x w:World}(h:Below x.heap.size x w)(o:Obj):Below x.heap.size x (w.alloc o):=h.trans ((Below.refl _ _).alloc h.size o)
theorem FQ{x w w':World}(h:Below x.heap.size x w)(k:Below w.heap.size w w'):Below x.heap.size x w':=h.trans (k.mono h.size)
structure AN(k:Nat)(l:List Value)(w:World):Prop where
 c:∀i,(h:i<l.length)->w.cell? ⟨k,i,none⟩=some l[i]
 f:∀i,i<l.length->w.frozen? ⟨k,i,none⟩=false
 lies:k<w.heap.size
theorem AH(w:World)(n:Nat)(l:List Value)(t:TypeId)(hn:n=w.heap.size):AN n l (w.alloc (.cells l.toArray t)):=by
 subst hn
 refine⟨fun i h=>?_,fun i h=>by simp,by simp⟩
 rw[World.cell?_alloc_new]
 simp[h]
theorem AN.same{k:Nat}{l:List Value}{w w':World}(h:AN k l w)(e:w'.heap[k]? =w.heap[k]?)(hs:w.heap.size<=w'.heap.size):AN k l w':=
 ⟨fun i hi=>(World.cell?_of_block (w:=w) (a:=⟨k,i,none⟩) e).trans (h.c i hi),fun i hi=>(World.frozen?_of_block (w:=w) (a:=⟨k,i,none⟩) e).trans (h.f i hi),Zz h.lies hs⟩
theorem AN.kept{k b:Nat}{l:List Value}{w w':World}(h:AN k l w)(hb:Ad b w w')(hk:k≠b):AN k l w':=h.same (hb.block k h.lies hk) hb.size
theorem AN.below{k:Nat}{l:List Value}{w w':World}(h:AN k l w)(hb:Below w.heap.size w w'):AN k l w':=h.same (hb.block k h.lies) hb.size
theorem AN.alloc{k:Nat}{l:List Value}{w:World}(h:AN k l w)(o:Obj):AN k l (w.alloc o):=h.below ((Below.refl _ _).alloc (Zy _) o)
theorem AN.drew{k:Nat}{l:List Value}{w:World}(h:AN k l w):AN k l w.drew:=⟨h.c,h.f,h.lies⟩
theorem AN.new{k:Nat}{l:List Value}{w:World}(h:AN k l w)(q o:Nat)(hp:k≠q)(u:Value):AN k l (w.setCell ⟨q,o,none⟩ u):=
 h.same (Below.heap_setCell _ _ _ _ hp) (by rw[World.size_setCell];exact Zy _)
theorem AN.put{k:Nat}{l:List Value}{w:World}(h:AN k l w)(i:Nat)(hi:i<l.length)(u:Value)(l':List Value)(hl:l'=l.set i u):AN k l' (w.setCell ⟨k,i,none⟩ u):=by
 subst hl
 refine⟨fun j hj=>?_,fun j hj=>?_,by rw[World.size_setCell];exact h.lies⟩
 ·by_cases e:i=j
  ·subst e
   rw[World.cell?_setCell_same _ _ _ (h.c i hi)]
   simp
  ·rw[World.cell?_setCell_other _ _ _ _ (by intro h;injection h;omega)]
   rw[List.getElem_set_ne e]
   exact h.c j (by simpa using hj)
 ·rw[World.frozen?_setCell];exact h.f j (by simpa using hj)
def row(N:Nat)(g:Nat->Int):List Value:=(List.range N).map fun i=>.int .i64 (g i)
theorem Bi(N:Nat)(g:Nat->Int):(row N g).length=N:=by unfold row;simp
theorem Iz{N i:Nat}{g:Nat->Int}(h:i<(row N g).length):(row N g)[i]=.int .i64 (g i):=by
 have h':i<N:=by rw[Bi]at h;exact h
 show((List.range N).map fun i=>Value.int .i64 (g i))[i]'(by simpa using h')=_
 simp
theorem Dp{k N:Nat}{g:Nat->Int}{w:World}(A:AN k (row N g) w)(i:Nat)(h:i<N):w.cell? ⟨k,i,none⟩=some (.int .i64 (g i)):=by
 have:=A.c i (by rw[Bi];exact h)
 rw[Iz]at this
 exact this
theorem Ug{k N:Nat}{g:Nat->Int}{w:World}(A:AN k (row N g) w)(i:Nat)(h:i<N):w.frozen? ⟨k,i,none⟩=false:=A.f i (by rw[Bi];exact h)
def updF(g:Nat->Int)(i:Nat)(v:Int):Nat->Int:=fun j=>if j=i then v else g j
theorem Asj{N i:Nat}{g:Nat->Int}{v:Int}:(row N g).set i (.int .i64 v)=row N (updF g i v):=by
 apply List.ext_getElem
 ·simp[Bi]
 ·intro j h1 h2
  rw[List.getElem_set,show(row N (updF g i v))[j]=.int .i64 (updF g i v j)from Iz h2]
  by_cases c:i=j
  ·rw[if_pos c,show updF g i v j=v from if_pos c.symm]
  ·rw[if_neg c,show updF g i v j=g j from if_neg (fun h=>c h.symm),Iz]
theorem JP{k N:Nat}{g:Nat->Int}{w:World}(A:AN k (row N g) w)(i:Nat)(h:i<N)(v:Int):AN k (row N (updF g i v)) (w.setCell ⟨k,i,none⟩ (.int .i64 v)):=
 A.put i (by rw[Bi];exact h) (.int .i64 v) _ Asj.symm
end
section
def AIz:List Int:=[-293500,0,-14103,45455,-25562,0,29509,-31336,16487,-8142,13609,0,-24042,-569,12438,2376,4534,-5496,8947,0,7996,2786,558,-1340,-2811,2120,120,-3754,-2329,0,3690,453,1872,2200,-1387,-1229,-1419,429,209,1062,643,0,638,-184,767,168,-1157,489,-409,-598,149,109,-608,728]
def AI0:List Int:=[126,0,100,-215,-112,0,-53,-273,-83,-111]
def Eu(i:Nat):Int:=AIz.getD i 0
def Gk(i:Nat):Int:=AI0.getD i 0
def nIdx(n m:Nat):Nat:=n*(n+1) / 2-1+m
open Go.RowKit
abbrev Bl:=List (Option Nat)
abbrev Xm:=List (List Value)
def isP:Value->Bool
 | .pointer (some _)=>true
 | .nilIface=>true
 | .slice (some _) _ _=>true
 |_=>false
def asB:Value->Option Bool
 | .bool b=>some b
 |_=>none
def RV(bl:Bl)(v v':Value):Prop:=
 match v with
 | .pointer (some a)=>∃B,bl[a.block]? =some (some B)/\v'=.pointer (some {a with block:=B})
 | .nilIface=>asB v'=none
 | .slice (some a) n c=>∃B,bl[a.block]? =some (some B)/\v'=.slice (some {a with block:=B}) n c
 |v=>v'=v
theorem RV.plain{bl:Bl}{v v':Value}(h:RV bl v v')(hp:isP v=false):v'=v:=by
 match v,h,hp with
 | .pointer none,h,_=>exact h
 | .bool _,h,_=>exact h
 | .int _ _,h,_=>exact h
 | .float _ _,h,_=>exact h
 | .complex _ _ _,h,_=>exact h
 | .string _,h,_=>exact h
 | .slice none _ _,h,_=>exact h
 | .map _,h,_=>exact h
 | .chan _,h,_=>exact h
 | .func _ _ _,h,_=>exact h
 | .nilFunc,h,_=>exact h
 | .iface _ _,h,_=>exact h
 | .agg _,h,_=>exact h
 | .tuple _,h,_=>exact h
theorem RV.same{bl:Bl}{v:Value}(hp:isP v=false):RV bl v v:=by
 match v,hp with
 | .pointer none,_=>rfl
 | .bool _,_=>rfl
 | .int _ _,_=>rfl
 | .float _ _,_=>rfl
 | .complex _ _ _,_=>rfl
 | .string _,_=>rfl
 | .slice none _ _,_=>rfl
 | .map _,_=>rfl
 | .chan _,_=>rfl
 | .func _ _ _,_=>rfl
 | .nilFunc,_=>rfl
 | .iface _ _,_=>rfl
 | .agg _,_=>rfl
 | .tuple _,_=>rfl
def Le(bl bl':Bl):Prop:=∀(k B:Nat),bl[k]? =some (some B)->bl'[k]? =some (some B)
theorem Le.refl(bl:Bl):Le bl bl:=fun _ _ h=>h
theorem Le.trans{a b c:Bl}(h:Le a b)(k:Le b c):Le a c:=fun i B e=>k i B (h i B e)
theorem RV.mono{bl bl':Bl}{v v':Value}(h:RV bl v v')(hl:Le bl bl'):RV bl' v v':=by
 cases hp:isP v
 ·rw[h.plain hp];exact .same hp
 ·match v,h,hp with
  | .pointer (some a),⟨B,h1,h2⟩,_=>exact⟨B,hl _ _ h1,h2⟩
  | .nilIface,h,_=>exact h
  | .slice (some a) _ _,⟨B,h1,h2⟩,_=>exact⟨B,hl _ _ h1,h2⟩
structure FR(bl:Bl)(vt:List Value)(tm:Array Value):Prop where
 len:tm.size=vt.length
 rv:∀t,RV bl (vt.getD t undef) (tm.getD t undef)
theorem FR.mono{bl bl':Bl}{vt:List Value}{tm:Array Value}(h:FR bl vt tm)(hl:Le bl bl'):FR bl' vt tm:=⟨h.len,fun t=>(h.rv t).mono hl⟩
def VE(vt:List Value):Operand->Value
 | .tmp t=>vt.getD t undef
 | .const v=>v
 | .global _=>undef
 | .func f=>.func (.func f) #[] #[]
def P6:Operand->Bool
 | .const v=>!isP v
 | .global _=>false
 |_=>true
theorem FR.eval{bl:Bl}{vt:List Value}{a:Act}(h:FR bl vt a.tmps){x:Operand}(hx:P6 x=true):RV bl (VE vt x) (a.eval x):=by
 match x,hx with
 | .tmp t,_=>exact h.rv t
 | .const v,hx=>
  simp only[P6,Bool.not_eq_true']at hx
  exact .same hx
 | .global g,hx=>cases hx
 | .func f,_=>rfl
def BO(vt:List Value)(dst:Option Tmp)(v:Value):List Value:=
 match dst with
 |some d=>vt.set d v
 |none=>vt
theorem FR.set{bl:Bl}{vt:List Value}{tm:Array Value}(h:FR bl vt tm){v v':Value}(hv:RV bl v v')(d:Nat):FR bl (vt.set d v) (tm.setIfInBounds d v'):=by
 refine⟨by simp[h.len],fun t=>?_⟩
 have hl:=h.len
 by_cases e:d=t
 ·subst e
  by_cases hd:d<vt.length
  ·simp only[Zm,Zs]
   rw[Zq hd,Array.getElem?_setIfInBounds_self_of_lt (by omega)]
   exact hv
  ·simp only[Zm,Zs]
   rw[Zab (by rw[Zt];omega),Array.getElem?_eq_none (by rw[Array.size_setIfInBounds];omega)]
   rfl
 ·have h1:=h.rv t
  simp only[Zm,Zs]at h1 ⊢
  rw[Zo e,Array.getElem?_setIfInBounds_ne e]
  exact h1
theorem FR.put{bl:Bl}{vt:List Value}{a:Act}(h:FR bl vt a.tmps){v v':Value}(hv:RV bl v v')(dst:Option Tmp):FR bl (BO vt dst v) (a.put dst v').tmps:=by
 cases dst with
 |none=>exact h
 |some d=>exact h.set hv d
def GW(w:World):Prop:=AN 0 (row 54 Eu) w/\AN 1 (row 10 Gk) w
theorem GW.same{w w':World}(h:GW w)(h0:w'.heap[0]? =w.heap[0]?)(h1:w'.heap[1]? =w.heap[1]?)(hs:w.heap.size<=w'.heap.size):GW w':=⟨h.1.same h0 hs,h.2.same h1 hs⟩
structure RW(bs:List Nat)(w0:World)(bl:Bl)(m:Xm)(w:World):Prop where
 arr:∀(k B:Nat),bl[k]? =some (some B)->∃l,m[k]? =some l/\AN B l w
 inj:∀(i j B:Nat),bl[i]? =some (some B)->bl[j]? =some (some B)->i=j
 own:∀(k B:Nat),bl[k]? =some (some B)->B∈bs∨w0.heap.size<=B∨m[k]? =some []
 os:w.os=w0.os
 tape:w.tape=w0.tape
 output:w.output=w0.output
 size:w0.heap.size<=w.heap.size
 block:∀i:Nat,i<w0.heap.size->i∉bs->w.heap[i]? =w0.heap[i]?
 gw:GW w0/\∀b∈bs,1<b
theorem RW.gt{bs:List Nat}{w0:World}{bl:Bl}{m:Xm}{w:World}(h:RW bs w0 bl m w){k B:Nat}(hk:bl[k]? =some (some B)){l:List Value}(hm:m[k]? =some l)(hl:l≠[]):1<B:=by
 rcases h.own k B hk with h1 |h1 |h1
 ·exact h.gw.2 B h1
 ·have:=h.gw.1.2.lies
  omega
 ·rw[hm]at h1
  exact absurd (Option.some.inj h1) hl
theorem Nu{m:Xm}{k k':Nat}{l:List Value}(h:m[k']? =some [])(hl:k=k'->l=[]):(m.set k l)[k']? =some []:=by
 by_cases e:k=k'
 ·subst e
  rw[Zq (Zn.1 h).1,hl rfl]
 ·rw[Zo e]
  exact h
theorem RW.gwAt{bs:List Nat}{w0:World}{bl:Bl}{m:Xm}{w:World}(h:RW bs w0 bl m w):GW w:=
 h.gw.1.same (h.block 0 h.gw.1.1.lies (fun e=>by have:=h.gw.2 0 e;omega)) (h.block 1 h.gw.1.2.lies (fun e=>by have:=h.gw.2 1 e;omega)) h.size
theorem RW.drew{bs:List Nat}{w0:World}{bl:Bl}{m:Xm}{w:World}(h:RW bs w0 bl m w):RW bs w0 bl m {w with drawn:=w.drawn+1}:=
 ⟨fun k B hk=>let ⟨l,h1,h2⟩:=h.arr k B hk;⟨l,h1,h2.drew⟩,h.inj,h.own,h.os,h.tape,h.output,h.size,h.block,h.gw⟩
def qrun(P:Program){α:Type}:Sem α->Option α
 | .pure a=>some a
 | .program k=>qrun P (k P)
 | .mark _ k=>qrun P k
 |_=>none
theorem AT{P:Program}{α:Type}{a:α}(s:Sem α)(h:qrun P s=some a)(w:World):s.run P w=.ok a w:=by
 induction s with
 |pure x=>simp only[qrun,Option.some.injEq]at h;rw[h];rfl
 |program k ih=>exact ih P h
 |mark m k ih=>exact ih h
 |_=>cases h
theorem FH(B o n:Nat):((⟨B,o,none⟩:Addr).add n)=⟨B,o+n,none⟩:=by
 unfold Addr.add
 split
 ·rename_i h;subst h;rfl
 ·rfl
theorem IY{P:Program}{B:Nat}{l:List Value}{w:World}(A:AN B l w)(o:Nat):∀(n i:Nat) (acc:Array Value),o+i+n<=l.length->
    (loadCellsFrom ⟨B,o,none⟩ i n acc).run P w=.ok (acc++((l.drop (o+i)).take n).toArray) w
 |0,i,acc,_=>by simp[loadCellsFrom]
 |n+1,i,acc,h=>by
  have hc:=A.c (o+i) (by omega)
  have hd:l.drop (o+i)=l[o+i]'(by omega)::l.drop (o+i+1):=List.drop_eq_getElem_cons (by omega)
  simp only[loadCellsFrom,Sem.run_bind,load,Sem.run,FH,hc,Result.andThen_ok]
  rw[IY A o n (i+1) _ (by omega),hd,List.take_succ_cons]
  simp[Zac]
def C3(P:Program)(t:TypeId)(l:List Value)(off:Nat):Option Value:=
 match qrun P (isAgg t)with
 |some true=>
  match qrun P (sizeOf t)with
  |some n=>if off+n<=l.length then some (.agg ((l.drop off).take n).toArray)else none
  |none=>none
 |some false=>l[off]?
 |none=>none
theorem EN{P:Program}{t:TypeId}{l:List Value}{off:Nat}{v:Value}{B:Nat}{w:World}(h:C3 P t l off=some v)(A:AN B l w):(loadVar t ⟨B,off,none⟩).run P w=.ok v w:=by
 unfold C3 at h
 unfold loadVar
 cases h1:qrun P (isAgg t)with
 |none=>rw[h1]at h;cases h
 | some b=>
  rw[h1]at h
  have r1:=AT _ h1 w
  cases b with
  | true=>
   cases h2:qrun P (sizeOf t)with
   |none=>rw[h2]at h;cases h
   | some n=>
    rw[h2]at h
    have r2:=AT _ h2 w
    dsimp only at h
    split at h
    ·rename_i hl
     have r3:=IY (P:=P) A off n 0 #[] hl
     simp only[Sem.run_bind,r1,Result.andThen_ok,if_true,r2,loadCells,r3]
     rw[<-Option.some.inj h]
     simp
    ·cases h
  |false=>
   simp only[Sem.run_bind,r1,Result.andThen_ok]
   dsimp only at h
   obtain⟨hl,rfl⟩:=Zn.1 h
   simp[load,Sem.run,A.c off hl]
def I7:Value->Bool
 | .agg _=>false
 | .tuple _=>false
 | .pointer (some _)=>false
 |_=>true
def setAt:List Value->Nat->List Value->List Value
 |l,_,[]=>l
 |l,o,x::xs=>setAt (l.set o x) (o+1) xs
def JQ:World->Nat->Nat->List Value->World
 |w,_,_,[]=>w
 |w,B,o,x::xs=>JQ (w.setCell ⟨B,o,none⟩ x) B (o+1) xs
theorem Uh{B:Nat}:∀(vs:List Value) (l:List Value) (o:Nat) (w:World),AN B l w->o+vs.length<=l.length->AN B (setAt l o vs) (JQ w B o vs)
 |[],_,_,_,A,_=>A
 |x::xs,l,o,w,A,h=>by
  have h:o+(xs.length+1)<=l.length:=h
  exact Uh xs (l.set o x) (o+1) _ (A.put o (by omega) x _ rfl) (by rw[Zt];omega)
theorem I8{B i:Nat}(hi:i≠B):∀(vs:List Value) (o:Nat) (w:World),(JQ w B o vs).heap[i]? =w.heap[i]?
 |[],_,_=>rfl
 |_::xs,o,_=>(I8 hi xs (o+1) _).trans (Below.heap_setCell _ _ _ _ hi)
theorem Lc{B:Nat}:∀(vs:List Value) (o:Nat) (w:World),(JQ w B o vs).heap.size=w.heap.size
 |[],_,_=>rfl
 |_::xs,o,_=>(Lc xs (o+1) _).trans (World.size_setCell _ _ _)
theorem Z6{B:Nat}:∀(vs:List Value) (o:Nat) (w:World),(JQ w B o vs).os=w.os/\(JQ w B o vs).tape=w.tape/\(JQ w B o vs).output=w.output
 |[],_,_=>⟨rfl,rfl,rfl⟩
 |x::xs,o,w=>Z6 xs (o+1) (w.setCell ⟨B,o,none⟩ x)
theorem Hh{P:Program}{B o:Nat}:∀(vs:List Value) (l:List Value) (i:Nat) (w:World),AN B l w->vs.all I7=true->o+i+vs.length<=l.length->
    (storeCells ⟨B,o,none⟩ vs i).run P w=.ok () (JQ w B (o+i) vs)
 |[],_,i,w,_,_,_=>rfl
 | x::xs,l,i,w,A,hx,h=>by
  have h:o+i+(xs.length+1)<=l.length:=h
  simp only[List.all_cons,Zai]at hx
  have hc:=A.c (o+i) (by omega)
  have hf:=A.f (o+i) (by omega)
  have ih:=Hh (P:=P) (o:=o) xs (l.set (o+i) x) (i+1) (w.setCell ⟨B,o+i,none⟩ x) (A.put (o+i) (by omega) x _ rfl) hx.2 (by rw[Zt];omega)
  have hs:(store ((⟨B,o,none⟩:Addr).add i) x).run P w=.ok () (w.setCell ⟨B,o+i,none⟩ x):=by
   rw[FH]
   have hx1:=hx.1
   unfold store
   cases x<;>first |(simp[I7]at hx1;done)|simp[Sem.run,hc,hf]
  simp only[storeCells,Sem.run_bind,hs,Result.andThen_ok]
  rw[ih]
  rfl
def EU(P:Program)(t:TypeId)(l:List Value)(off:Nat)(v:Value):Option (List Value):=
 match qrun P (sizeOf t)with
 |some n=>if v.cells.size==n&&decide (off+v.cells.toList.length<=l.length)&&v.cells.toList.all I7 then some (setAt l off v.cells.toList)else none
 |none=>none
theorem Gn{P:Program}{t:TypeId}{l l':List Value}{off:Nat}{v:Value}{B:Nat}{w:World}(h:EU P t l off v=some l')(A:AN B l w):
    (storeVar t ⟨B,off,none⟩ v).run P w=.ok () (JQ w B off v.cells.toList)/\l'=setAt l off v.cells.toList/\off+v.cells.toList.length<=l.length:=by
 unfold EU at h
 cases h1:qrun P (sizeOf t)with
 |none=>rw[h1]at h;cases h
 | some n=>
  rw[h1]at h
  dsimp only at h
  split at h
  ·rename_i hc
   simp only[Zai,beq_iff_eq,decide_eq_true_eq]at hc
   have r1:=AT _ h1 w
   have r2:=Hh (P:=P) (o:=off) v.cells.toList l 0 w A hc.2 hc.1.2
   refine⟨?_,(Option.some.inj h).symm,hc.1.2⟩
   unfold storeVar
   simp only[Sem.run_bind,r1,Result.andThen_ok]
   rw[if_neg (by rw[hc.1.1];simp)]
   simpa using r2
  ·cases h
theorem RW.store{bs:List Nat}{w0:World}{bl:Bl}{m:Xm}{w:World}(h:RW bs w0 bl m w){k B:Nat}{l:List Value}(hk:bl[k]? =some (some B))(hm:m[k]? =some l)(o:Nat)(vs:List Value)(ho:o+vs.length<=l.length):
    RW bs w0 bl (m.set k (setAt l o vs)) (JQ w B o vs):=by
 have hA:AN B l w:=by
  obtain⟨l2,e,A⟩:=h.arr k B hk
  rw[hm]at e
  cases e
  exact A
 have hkl:k<m.length:=(Zn.1 hm).1
 have hos:=Z6 (B:=B) vs o w
 have hvs:l=[]->vs=[]:=fun e=>by
  subst e
  have ho:o+vs.length<=0:=ho
  exact List.length_eq_zero_iff.1 (by omega)
 refine⟨fun k' B' hk'=>?_,h.inj,fun k' B' hk'=>(h.own k' B' hk').imp id (Or.imp id fun e=>Nu e (fun e2=>?_)),hos.1.trans h.os,hos.2.1.trans h.tape,hos.2.2.trans h.output,by rw[Lc];exact h.size,fun i hi hb=>?_,h.gw⟩
 ·by_cases e:k=k'
  ·subst e
   rw[hk]at hk'
   cases hk'
   exact⟨_,Zq hkl,Uh vs l o w hA ho⟩
  ·obtain⟨l2,e2,A2⟩:=h.arr k' B' hk'
   have hB:B'≠B:=fun e3=>e (h.inj k k' B hk (e3▸hk'))
   exact⟨l2,by rw[Zo e];exact e2,A2.same (I8 hB vs o w) (by rw[Lc];exact Zy _)⟩
 ·subst e2
  rw[hm]at e
  cases e
  rw[hvs rfl]
  rfl
 ·by_cases hv:vs=[]
  ·subst hv
   exact h.block i hi hb
  have hB:i≠B:=by
   rintro rfl
   rcases h.own k i hk with hb' |hb' |hb'
   ·exact hb hb'
   ·omega
   ·rw[hm]at hb'
    exact hv (hvs (Option.some.inj hb'))
  rw[I8 hB]
  exact h.block i hi hb
theorem RW.new{bs:List Nat}{w0:World}{bl:Bl}{m:Xm}{w:World}(h:RW bs w0 bl m w){k:Nat}(hk:bl[k]? =some none)(hm:k<m.length)(l:List Value)(t:TypeId):
    RW bs w0 (bl.set k (some w.heap.size)) (m.set k l) (w.alloc (.cells l.toArray t))/\Le bl (bl.set k (some w.heap.size)):=by
 have hkl:k<bl.length:=(Zn.1 hk).1
 have hB:Below w.heap.size w (w.alloc (.cells l.toArray t)):=(Below.refl _ _).alloc (Zy _) _
 have get:∀(i B:Nat),(bl.set k (some w.heap.size))[i]? =some (some B)->(i=k/\B=w.heap.size)∨(i≠k/\bl[i]? =some (some B)/\B<w.heap.size):=by
  intro i B hi
  by_cases e:k=i
  ·subst e
   rw[Zq hkl]at hi
   exact .inl ⟨rfl,(Option.some.inj (Option.some.inj hi)).symm⟩
  ·rw[Zo e]at hi
   obtain⟨_,_,A⟩:=h.arr i B hi
   exact .inr ⟨fun x=>e x.symm,hi,A.lies⟩
 refine⟨⟨fun i B hi=>?_,fun i j B hi hj=>?_,fun i B hi=>?_,h.os,h.tape,h.output,?_,fun i hi hb=>?_,h.gw⟩,fun i B hi=>?_⟩
 ·rcases get i B hi with⟨rfl,rfl⟩|⟨hne,hi',_⟩
  ·exact⟨l,Zq hm,AH w w.heap.size l t rfl⟩
  ·obtain⟨l2,e2,A2⟩:=h.arr i B hi'
   exact⟨l2,by rw[Zo (fun x=>hne x.symm)];exact e2,A2.below hB⟩
 ·rcases get i B hi with⟨rfl,rfl⟩|⟨hne,hi',hlt⟩<;>rcases get j _ hj with⟨rfl,e⟩|⟨hne',hj',hlt'⟩
  ·rfl
  ·omega
  ·omega
  ·exact h.inj i j B hi' hj'
 ·rcases get i B hi with⟨rfl,rfl⟩|⟨hne,hi',_⟩
  ·exact .inr (.inl h.size)
  ·exact(h.own i B hi').imp id (Or.imp id fun e=>Nu e (fun e2=>absurd e2.symm hne))
 ·have:=h.size
  have:=hB.size
  omega
 ·rw[hB.block i (by have:=h.size;omega)]
  exact h.block i hi hb
 ·have e:k≠i:=by
   rintro rfl
   rw[hk]at hi
   cases hi
  rw[Zo e]
  exact hi
def Hi(P:Program)(s:TypeId)(f:Nat):Option Nat:=
 match P.underlying s with
 | some (.struct fields)=>
  match fields[f]? with
  |some fd=>
   match qrun P (sizeOf fd.type)with
   |some (_+1)=>some fd.offset
   |_=>none
  |none=>none
 |_=>none
theorem BQ{P:Program}{t:TypeId}{d:TypeDesc}(h:P.underlying t=some d)(w:World):(underlying t).run P w=.ok d w:=by
 simp[underlying,program,Sem.run,h]
theorem I9{P:Program}{s:TypeId}{f d:Nat}(h:Hi P s f=some d)(B o:Nat)(w:World):(Instr.fieldAt s (.pointer (some ⟨B,o,none⟩)) f).run P w=.ok (.pointer (some ⟨B,o+d,none⟩)) w:=by
 unfold Hi at h
 split at h
 ·rename_i fields hu
  split at h
  ·rename_i fd hf
   split at h
   ·rename_i n hz
    have r1:=AT _ hz w
    have r0:=BQ hu w
    cases h
    unfold Instr.fieldAt
    simp only[Sem.run_bind,r0,Result.andThen_ok,hf,Instr.sureAddr,fieldPlace]
    simp[FH,r1]
   ·cases h
  ·cases h
 ·cases h
def Gp(P:Program)(t:TypeId)(ix:Value):Option Nat:=
 match P.underlying t,ix with
 | some (.array len elem),.int _ i=>
  if 0<=i/\i<len then
   match qrun P (sizeOf elem)with
   |some n=>some (i.toNat*n)
   |none=>none
  else none
 |_,_=>none
theorem WS{P:Program}{t:TypeId}{ix:Value}{d:Nat}(h:Gp P t ix=some d)(B o:Nat)(w:World):(Instr.indexAt t (.pointer (some ⟨B,o,none⟩)) ix).run P w=.ok (.pointer (some ⟨B,o+d,none⟩)) w:=by
 unfold Gp at h
 split at h
 ·rename_i len elem k i hu
  split at h
  ·rename_i hi
   split at h
   ·rename_i n hz
    have r1:=AT _ hz w
    have r0:=BQ hu w
    cases h
    unfold Instr.indexAt
    simp only[Sem.run_bind,asIntOf,r0,Result.andThen_ok,Instr.sureAddr,Sem.run_pure]
    rw[if_pos hi]
    simp[r1,FH]
   ·cases h
  ·cases h
 ·cases h
def RE(P:Program)(t:TypeId)(ix:Value)(len:Nat):Option Nat:=
 match P.underlying t,ix with
 | some (.slice elem),.int _ i=>
  if 0<=i/\i<(len:Int)then
   match qrun P (sizeOf elem)with
   |some n=>some (i.toNat*n)
   |none=>none
  else none
 |_,_=>none
theorem WT{P:Program}{t:TypeId}{ix:Value}{d len:Nat}(h:RE P t ix len=some d)(B o c:Nat)(w:World):(Instr.indexAt t (.slice (some ⟨B,o,none⟩) len c) ix).run P w=.ok (.pointer (some ⟨B,o+d,none⟩)) w:=by
 unfold RE at h
 split at h
 ·rename_i elem k i hu
  split at h
  ·rename_i hi
   split at h
   ·rename_i n hz
    have r1:=AT _ hz w
    have r0:=BQ hu w
    cases h
    unfold Instr.indexAt
    simp only[Sem.run_bind,asIntOf,r0,Result.andThen_ok,Sem.run_pure]
    rw[if_pos hi]
    simp[r1,FH]
   ·cases h
  ·cases h
 ·cases h
def Bc(P:Program)(o:Oper)(ρ:Operand->Value):Option Value:=
 if o.op.operands.all (fun x=>!isP (ρ x))then
  match qrun P (execOp ρ o)with
  |some (.value v)=>if isP v then none else some v
  |_=>none
 else none
theorem Adh{P:Program}{o:Oper}{vt:List Value}{v:Value}{bl:Bl}{a:Act}(h:Bc P o (VE vt)=some v)(hok:o.op.operands.all P6=true)(hs:∀cs b,o.op≠.select cs b)(F:FR bl vt a.tmps)(w:World):
    ∃v',RV bl v v'/\(execOp a.eval o).run P w=.ok (.value v') w:=by
 unfold Bc at h
 split at h
 ·rename_i hp
  have agree:∀x∈o.op.operands,VE vt x=a.eval x:=fun x hx=>by
   have h1:=Zp.1 hok x hx
   have h2:=Zp.1 hp x hx
   exact((F.eval h1).plain (by simpa using h2)).symm
  rw[execOp_congr o hs agree]at h
  split at h
  ·rename_i u hq
   split at h
   ·cases h
   ·rename_i hu
    cases h
    exact⟨v,.same (by simpa using hu),AT _ hq w⟩
  ·cases h
 ·cases h
def Ui(c a b:Value):Option Value:=
 match c with
 | .bool x=>
  match a,b with
  | .bool p,.bool q=>some (.bool (cond x p q))
  |a,b=>match x with
   |true=>some a
   |false=>some b
 |_=>none
def MC(P:Program)(op:BinOp)(t:TypeId)(a b:Value):Option Value:=
 match a,b with
 | .pointer (some _),.pointer none=>
  (match P.underlying t,op with
  |some (.pointer _),.eql=>some (.bool false)
  |some (.pointer _),.neq=>some (.bool true)
  |_,_=>none)
 |_,_=>none
theorem P7{P:Program}{t e:TypeId}(hu:P.underlying t=some (.pointer e))(a:Addr)(w:World):(Op.equal t (.pointer (some a)) (.pointer none)).run P w=.ok false w:=by
 show(Op.equalIn (9999+1) t (.pointer (some a)) (.pointer none)).run P w=.ok false w
 rw[Op.equalIn]
 simp only[Sem.run_bind,BQ hu w,Result.andThen_ok]
 rfl
theorem P8{P:Program}{op:BinOp}{t:TypeId}(x y:Operand)(a:Addr)(w:World):(eqGuard op t x y (.pointer (some a)) (.pointer none)).run P w=.ok () w:=by
 unfold eqGuard
 cases op<;>rfl
theorem Uj{P:Program}{op:BinOp}{t:TypeId}{a b v:Value}(h:MC P op t a b=some v)(x y:Operand)(a':Addr)(w:World):
    b=.pointer none/\isP a=true/\isP v=false/\(do eqGuard op t x y (.pointer (some a')) (.pointer none);binOp op t (.pointer (some a')) (.pointer none):Sem Value).run P w=.ok v w:=by
 unfold MC at h
 split at h
 ·split at h
  ·rename_i hu
   cases h
   refine⟨rfl,rfl,rfl,?_⟩
   have e:binOp .eql t (.pointer (some a')) (.pointer none)=(do pure (.bool (<-Op.equal t (.pointer (some a')) (.pointer none)))):=rfl
   simp only[Sem.run_bind,P8,Result.andThen_ok,e,P7 hu]
   rfl
  ·rename_i hu
   cases h
   refine⟨rfl,rfl,rfl,?_⟩
   have e:binOp .neq t (.pointer (some a')) (.pointer none)=(do pure (.bool (!(<-Op.equal t (.pointer (some a')) (.pointer none))))):=rfl
   simp only[Sem.run_bind,P8,Result.andThen_ok,e,P7 hu]
   rfl
  ·cases h
 ·cases h
def Z7(f:TypeId->Value->Value->Option Bool)(P:Program)(xs ys:Array Value):List Field->Option Bool
 |[]=>some true
 | d::ds=>if d.name== "_" then none else match qrun P (part d.type xs d.offset),qrun P (part d.type ys d.offset)with
  |some u,some v=>(match f d.type u v,Z7 f P xs ys ds with
   |some r,some r'=>some (r&&r')
   |_,_=>none)
  |_,_=>none
def Z8(f:Value->Value->Option Bool)(P:Program)(e:TypeId)(xs ys:Array Value):List Nat->Option Bool
 |[]=>some true
 | i::is=>match qrun P (part e xs (i*P.cellsOf e)),qrun P (part e ys (i*P.cellsOf e))with
  |some u,some v=>(match f u v,Z8 f P e xs ys is with
   |some r,some r'=>some (r&&r')
   |_,_=>none)
  |_,_=>none
def Nv(P:Program):Nat->TypeId->Value->Value->Option Bool
 |0,_,_,_=>none
 | d+1,t,a,b=>match P.underlying t,a,b with
  |some .bool,.bool x,.bool y=>some (x==y)
  |some (.int _),.int k x,.int k' y=>if k=k' then some (x==y)else none
  |some .string,.string x,.string y=>some (x.toList==y.toList)
  |some (.struct fs),.agg xs,.agg ys=>if P.stoodInHeld t then none else Z7 (Nv P d) P xs ys fs.toList
  |some (.array n e),.agg xs,.agg ys=>(match P.info? e with
   |some _=>Z8 (Nv P d e) P e xs ys (List.range n)
   |none=>none)
  |_,_,_=>none
def Ai0(P:Program)(d:Nat):Prop:=∀t a b r,Nv P d t a b=some r->∀(k:Nat) (w:World),(Op.equalIn (k+d) t a b).run P w=.ok r w
theorem P9{P:Program}{d k:Nat}(ih:Ai0 P d)(xs ys:Array Value)(w:World):∀(fs:List Field) (r:Bool),Z7 (Nv P d) P xs ys fs=some r->(Op.eqFields (k+d) xs ys fs).run P w=.ok r w
 |[],r,h=>by cases h;simp[Op.eqFields]
 | f::fs,r,h=>by
  unfold Z7 at h
  split at h
  ·cases h
  rename_i hn
  split at h
  ·rename_i u v hu hv
   split at h
   ·rename_i r1 r2 e1 e2
    cases h
    have p1:=AT _ hu w
    have p2:=AT _ hv w
    have p3:=ih _ _ _ _ e1 k w
    have p4:=P9 (k:=k) ih xs ys w fs r2 e2
    unfold Op.eqFields
    rw[if_pos (by simpa using hn)]
    cases r1
    ·simp only[Sem.run_bind,p1,p2,p3,Result.andThen_ok,Bool.not_false,if_true,Sem.run_pure,Bool.false_and]
    ·simp only[Sem.run_bind,p1,p2,p3,Result.andThen_ok,Bool.not_true,Bool.false_eq_true,if_false,Bool.true_and,p4]
   ·cases h
  ·cases h
theorem Qa{P:Program}{d k:Nat}(ih:Ai0 P d)(e:TypeId)(xs ys:Array Value)(w:World):∀(is:List Nat) (r:Bool),Z8 (Nv P d e) P e xs ys is=some r->(Op.eqItems (k+d) e (P.cellsOf e) xs ys is).run P w=.ok r w
 |[],r,h=>by cases h;simp[Op.eqItems]
 | i::is,r,h=>by
  unfold Z8 at h
  split at h
  ·rename_i u v hu hv
   split at h
   ·rename_i r1 r2 e1 e2
    cases h
    have p1:=AT _ hu w
    have p2:=AT _ hv w
    have p3:=ih _ _ _ _ e1 k w
    have p4:=Qa (k:=k) ih e xs ys w is r2 e2
    unfold Op.eqItems
    cases r1
    ·simp only[Sem.run_bind,p1,p2,p3,Result.andThen_ok,Bool.not_false,if_true,Sem.run_pure,Bool.false_and]
    ·simp only[Sem.run_bind,p1,p2,p3,Result.andThen_ok,Bool.not_true,Bool.false_eq_true,if_false,Bool.true_and,p4]
   ·cases h
  ·cases h
theorem RF{P:Program}:∀d,Ai0 P d
 |0=>fun t a b r h=>by cases h
 | d+1=>fun t a b r h k w=>by
  have ih:=RF (P:=P) d
  unfold Nv at h
  split at h
  ·rename_i hu
   cases h
   rw[<-Zac,run_equalIn_bool' w _ _ _ _ hu]
  ·rename_i hu
   split at h
   ·rename_i hk
    subst hk
    cases h
    rw[<-Zac,run_equalIn_int w _ _ _ _ _ _ hu]
   ·cases h
  ·rename_i hu
   cases h
   rw[<-Zac,run_equalIn_string w _ _ _ _ hu]
  ·rename_i fs xs ys hu
   split at h
   ·cases h
   rename_i hs
   have hf:P.fieldsOf t=fs:=by unfold Program.fieldsOf;rw[hu]
   rw[<-Zac,run_equalIn_struct w _ _ _ _ (by rw[hf];exact hu) (by simpa using hs),hf]
   exact P9 ih xs ys w _ _ h
  ·rename_i n e xs ys hu
   split at h
   ·rename_i i hi
    rw[<-Zac,run_equalIn_array w _ _ _ hu hi]
    exact Qa ih e xs ys w _ _ h
   ·cases h
  ·cases h
def AB0(P:Program)(op:BinOp)(t:TypeId)(a b:Value):Option Value:=
 match a,b with
 | .agg xs,.agg ys=>if P.eqGuardType P.depth t then none else(match op with
  | .eql=>(match Nv P 8 t (.agg xs) (.agg ys)with
   |some r=>some (.bool r)
   |none=>none)
  | .neq=>(match Nv P 8 t (.agg xs) (.agg ys)with
   |some r=>some (.bool (!r))
   |none=>none)
  |_=>none)
 |_,_=>none
theorem Ny{P:Program}{op:BinOp}{t:TypeId}{a b v:Value}(h:AB0 P op t a b=some v)(x y:Operand)(w:World):isP a=false/\isP b=false/\isP v=false/\(do eqGuard op t x y a b;binOp op t a b:Sem Value).run P w=.ok v w:=by
 unfold AB0 at h
 split at h
 ·rename_i xs ys
  split at h
  ·cases h
  rename_i hg
  have hg:P.eqGuardType P.depth t=false:=by simpa using hg
  split at h
  ·split at h
   ·rename_i r hr
    cases h
    have e:=RF 8 _ _ _ _ hr 9992 w
    refine⟨rfl,rfl,rfl,?_⟩
    simp[eqGuard,hg,run_eql_struct,e]
   ·cases h
  ·split at h
   ·rename_i r hr
    cases h
    have e:=RF 8 _ _ _ _ hr 9992 w
    refine⟨rfl,rfl,rfl,?_⟩
    simp[eqGuard,hg,run_neq_struct,e]
   ·cases h
  ·cases h
 ·cases h
def Z9(P:Program)(op:BinOp)(t:TypeId)(a b:Value)(z:Option Value):Option Value:=
 match AB0 P op t a b with
 |some v=>some v
 |none=>z
theorem Asl{P:Program}{o:Oper}{ρ:Operand->Value}{v:Value}(h:Bc P o ρ=some v):qrun P (execOp ρ o)=some (.value v):=by
 unfold Bc at h
 split at h
 ·split at h
  ·rename_i u hu
   split at h
   ·cases h
   ·cases h
    exact hu
  ·cases h
 ·cases h
theorem Uk{P:Program}{o:Oper}{op:BinOp}{t t':TypeId}{x y:Operand}{ρ:Operand->Value}{v:Value}(hop:o.op=.binOp op t x y t')(h:Bc P o ρ=some v):Z9 P op t (ρ x) (ρ y) (Bc P o ρ)=some v:=by
 unfold Z9
 split
 ·rename_i u hu
  have w:World:=World.holding P default ⟨#[],#[],[]⟩
  have r1:=(Ny hu x y w).2.2.2
  have r2:=AT _ (Asl h) w
  simp only[execOp,hop,Sem.run_bind]at r1 r2
  rw[r1]at r2
  simp at r2
  rw[r2]
 ·exact h
def vq(P:Program)(cl:Nat->Bool)(id:Nat)(o:Oper)(ρ:Operand->Value)(m:Xm):Option Value:=
 if o.op.operands.all P6 then
  match o.op with
  | .move x=>some (ρ x)
  | .assign x=>some (ρ x)
  | .pick c a b=>Ui (ρ c) (ρ a) (ρ b)
  | .load t x=>
   match ρ x with
   | .pointer (some ⟨k,off,none⟩)=>if cl k then(match m[k]? with
    |some l=>(match C3 P t l off with
     |some v=>if isP v then none else some v
     |none=>none)
    |none=>none)else none
   |_=>none
  | .fieldAddr s x f=>
   match ρ x with
   | .pointer (some ⟨k,off,none⟩)=>(match Hi P s f with
    |some d=>some (.pointer (some ⟨k,off+d,none⟩))
    |none=>none)
   |_=>none
  | .indexAddr t x ix=>
   match ρ x with
   | .pointer (some ⟨k,off,none⟩)=>(match Gp P t (ρ ix)with
    |some d=>some (.pointer (some ⟨k,off+d,none⟩))
    |none=>none)
   | .slice (some ⟨k,off,none⟩) n _=>(match RE P t (ρ ix) n with
    |some d=>some (.pointer (some ⟨k,off+d,none⟩))
    |none=>none)
   |_=>none
  | .nilCheck x=>
   match ρ x with
   | .pointer (some a)=>some (.pointer (some a))
   |_=>none
  | .alloc _=>some (.pointer (some ⟨id,0,none⟩))
  | .store _ _ _=>none
  | .box _ _=>none
  | .select _ _=>none
  | .call c=>
   match c.callee with
   | .builtin _=>Bc P o ρ
   |_=>none
  | .binOp op t x y _=>
   match MC P op t (ρ x) (ρ y)with
   |some v=>some v
   |none=>Z9 P op t (ρ x) (ρ y) (Bc P o ρ)
  |_=>Bc P o ρ
 else none
theorem AB1{P:Program}{cl:Nat->Bool}{id:Nat}{o:Oper}{vt:List Value}{m:Xm}{v:Value}(h:vq P cl id o (VE vt) m=some v)(hna:∀t,o.op≠.alloc t)
    {bs:List Nat} {w0:World} {bl:Bl} {a:Act} {w:World} (F:FR bl vt a.tmps) (R:RW bs w0 bl m w):∃v',RV bl v v'/\(execOp a.eval o).run P w=.ok (.value v') w:=by
 unfold vq at h
 split at h
 case isFalse=>cases h
 rename_i hok
 have hev:∀x∈o.op.operands,RV bl (VE vt x) (a.eval x):=fun x hx=>F.eval (Zp.1 hok x hx)
 have hpu:(∀cs b,o.op≠.select cs b)->Bc P o (VE vt)=some v->∃v',RV bl v v'/\(execOp a.eval o).run P w=.ok (.value v') w:=fun hs hp=>Adh hp hok hs F w
 cases hop:o.op<;>rw[hop]at h<;>dsimp only at h
 case move x=>
  cases h
  exact⟨_,hev x (by simp[hop,Op.operands]),by simp[execOp,hop]⟩
 case assign x=>
  cases h
  exact⟨_,hev x (by simp[hop,Op.operands]),by simp[execOp,hop]⟩
 case pick c p q=>
  have h1:=hev c (by simp[hop,Op.operands])
  have h2:=hev p (by simp[hop,Op.operands])
  have h3:=hev q (by simp[hop,Op.operands])
  unfold Ui at h
  split at h
  ·rename_i x hx
   rw[hx]at h1
   have h1:a.eval c=.bool x:=h1
   split at h
   ·rename_i y z hy hz
    rw[hy]at h2
    rw[hz]at h3
    have h2:a.eval p=.bool y:=h2
    have h3:a.eval q=.bool z:=h3
    cases h
    refine⟨_,.same rfl,?_⟩
    cases x<;>simp[execOp,hop,h1,h2,h3,asBool]
   ·split at h
    ·cases h
     exact⟨_,h2,by simp[execOp,hop,h1,asBool]⟩
    ·cases h
     exact⟨_,h3,by simp[execOp,hop,h1,asBool]⟩
  ·cases h
 case load t x=>
  have h1:=hev x (by simp[hop,Op.operands])
  split at h
  ·rename_i k off hx
   rw[hx]at h1
   obtain⟨B,hB,he⟩:=h1
   split at h
   ·split at h
    ·rename_i l hl
     obtain⟨l2,e2,A⟩:=R.arr k B hB
     rw[hl]at e2
     cases e2
     split at h
     ·rename_i u hu
      split at h
      ·cases h
      ·rename_i hp
       cases h
       have r:=EN hu A
       exact⟨v,.same (by simpa using hp),by simp[execOp,hop,he,Instr.loadAt,Instr.sureAddr,r]⟩
     ·cases h
    ·cases h
   ·cases h
  ·cases h
 case fieldAddr s x f=>
  have h1:=hev x (by simp[hop,Op.operands])
  split at h
  ·rename_i k off hx
   rw[hx]at h1
   obtain⟨B,hB,he⟩:=h1
   split at h
   ·rename_i d hd
    cases h
    have he:a.eval x=.pointer (some ⟨B,off,none⟩):=he
    exact⟨.pointer (some ⟨B,off+d,none⟩),⟨B,hB,rfl⟩,by simp[execOp,hop,he,I9 hd B off w]⟩
   ·cases h
  ·cases h
 case indexAddr t x ix=>
  have h1:=hev x (by simp[hop,Op.operands])
  have h2:=hev ix (by simp[hop,Op.operands])
  split at h
  ·rename_i k off hx
   rw[hx]at h1
   obtain⟨B,hB,he⟩:=h1
   split at h
   ·rename_i d hd
    cases h
    have he:a.eval x=.pointer (some ⟨B,off,none⟩):=he
    have hix:isP (VE vt ix)=false:=by
     unfold Gp at hd
     split at hd
     ·rename_i e;rw[e];rfl
     ·cases hd
    rw[<-h2.plain hix]at hd
    exact⟨.pointer (some ⟨B,off+d,none⟩),⟨B,hB,rfl⟩,by simp[execOp,hop,he,WS hd B off w]⟩
   ·cases h
  ·rename_i k off n c hx
   rw[hx]at h1
   obtain⟨B,hB,he⟩:=h1
   split at h
   ·rename_i d hd
    cases h
    have he:a.eval x=.slice (some ⟨B,off,none⟩) n c:=he
    have hix:isP (VE vt ix)=false:=by
     unfold RE at hd
     split at hd
     ·rename_i e;rw[e];rfl
     ·cases hd
    rw[<-h2.plain hix]at hd
    exact⟨.pointer (some ⟨B,off+d,none⟩),⟨B,hB,rfl⟩,by simp[execOp,hop,he,WT hd B off c w]⟩
   ·cases h
  ·cases h
 case nilCheck x=>
  have h1:=hev x (by simp[hop,Op.operands])
  split at h
  ·rename_i b hx
   rw[hx]at h1
   cases h
   obtain⟨B,hB,he⟩:=h1
   exact⟨_,⟨B,hB,rfl⟩,by simp[execOp,hop,he]⟩
  ·cases h
 case alloc t=>exact absurd hop (hna t)
 case call c=>
  split at h
  ·exact hpu (by rw[hop];simp) h
  ·cases h
 case store=>cases h
 case box=>cases h
 case select=>cases h
 case binOp op t x y t2=>
  split at h
  ·rename_i u hn
   cases h
   have h1:=hev x (by simp[hop,Op.operands])
   have h2:=hev y (by simp[hop,Op.operands])
   obtain⟨e1,e2,e3,_⟩:=Uj hn x y ⟨0,0,none⟩ w
   rw[e1]at h2
   have h2:a.eval y=.pointer none:=h2
   generalize VE vt x=vx at *
   match vx,h1,e2 with
   | .nilIface,_,_=>
    unfold MC at hn
    cases hn
   | .slice (some _) _ _,_,_=>
    unfold MC at hn
    cases hn
   | .pointer (some b),⟨B,_,he⟩,_=>
    obtain⟨_,_,_,r⟩:=Uj hn x y {b with block:=B} w
    refine⟨_,.same e3,?_⟩
    simp only[execOp,hop,he,h2]
    simp only[Sem.run_bind]at r ⊢
    rw[r]
    rfl
  ·unfold Z9 at h
   split at h
   ·rename_i u hc
    cases h
    obtain⟨p1,p2,p3,_⟩:=Ny hc x y w
    have e1:=(hev x (by simp[hop,Op.operands])).plain p1
    have e2:=(hev y (by simp[hop,Op.operands])).plain p2
    rw[<-e1,<-e2]at hc
    obtain⟨_,_,_,r⟩:=Ny hc x y w
    refine⟨_,.same p3,?_⟩
    simp only[execOp,hop,Sem.run_bind]at r ⊢
    rw[r]
    rfl
   ·exact hpu (by rw[hop];simp) h
 all_goals exact hpu (by rw[hop];simp) h
def Hb(l:List Value):List Nat:=l.filterMap fun v=>match v with
 | .pointer (some a)=>some a.block
 |_=>none
structure Ct(P:Program) where
 fn:Nat
 sp:List Value->Xm->(Value->Xm->Prop)->Prop
 go:∀(args:Array Value) (w:World),(callFunc fn args).run P w=.ok (.enter fn args) w
 mono:∀{args:List Value} {m:Xm} {K K':Value->Xm->Prop},(∀v m',K v m'->K' v m')->sp args m K->sp args m K'
 keep:∀{args:List Value} {m:Xm} {K:Value->Xm->Prop},sp args m K->sp args m (fun v m'=>K v m'/\m'.length=m.length/\∀k,k∉Hb args->m'[k]? =m[k]?)
 ok:∀{bs:List Nat} {w0:World} {bl:Bl} {m:Xm} {w:World} {args:List Value} {args':Array Value} {K:Value->Xm->Prop},RW bs w0 bl m w->args'.size=args.length->
  (∀i,RV bl (args.getD i undef) (args'.getD i undef))->sp args m K->Calls P fn args' w fun e w'=>∃v v' m',e=.returned v'/\RV bl v v'/\K v m'/\RW bs w0 bl m' w'
def va(P:Program)(tbl:List (Ct P))(id:Nat)(o:Oper)(ρ:Operand->Value)(m:Xm)(K:Value->Xm->Prop):Prop:=
 match o.op.operands.all P6,o.op with
 | true,.store t x y=>
  match ρ x with
  | .pointer (some ⟨k,off,none⟩)=>(match m[k]? with
   |some l=>(match isP (ρ y),EU P t l off (ρ y)with
    |false,some l'=>K undef (m.set k l')
    |_,_=>False)
   |none=>False)
  |_=>False
 |true,.box _ x=>(match isP (ρ x),(ρ x).cells.toList.all I7 with
     |false,true=>K (.pointer (some ⟨id,0,none⟩)) (m.set id (ρ x).cells.toList)
     |_,_=>False)
 |true,.load _ _=>
  match vq P (fun _=>true) id o ρ m with
  |some v=>K v m
  |none=>False
 | true,.call c=>
  match c.callee with
  | .value (.func n)=>(match tbl.find? (fun ct=>ct.fn==n)with
   |some ct=>ct.sp (c.args.toList.map ρ) m K
   |none=>False)
  |_=>False
 |_,_=>False
def vw(id:Nat)(o:Oper)(ρ:Operand->Value):List Nat:=
 match o.op with
 | .store _ x _=>Hb [ρ x]
 | .box _ _=>[id]
 | .call c=>Hb (c.args.toList.map ρ)
 |_=>[]
def Cu(o:Oper):Bool:=
 match o.op with
 | .alloc _=>true
 | .box _ _=>true
 |_=>false
def Nw(rs:Xm)(bl:Bl)(m:Xm):Prop:=∀k:Nat,bl[k]? =some none->m[k]? =rs[k]?
def c7(P:Program)(rs:Xm)(id:Nat)(o:Oper)(bl:Bl):Prop:=
 Cu o=true->bl[id]? =some none/\∃l,rs[id]? =some l/\∀t,o.op=.alloc t->∃z,qrun P (zeroValue t)=some z/\l=z.cells.toList
def Nz(bs:List Nat)(w0:World)(rs:Xm)(bl:Bl)(m:Xm)(vt:List Value)(a:Act)(id:Nat)(o:Oper)(K:Value->Xm->Prop)(a':Act)(w':World):Prop:=
 ∃bl' v m',bl'.length=bl.length/\m'.length=m.length/\Le bl bl'/\(∀k:Nat,k≠id->bl'[k]? =bl[k]?)/\(Cu o=false->bl'=bl)/\a'.defers=a.defers/\FR bl' (BO vt o.dst v) a'.tmps/\RW bs w0 bl' m' w'/\Nw rs bl' m'/\K v m'
theorem RV.at{bl:Bl}{k B:Nat}(h:bl[k]? =some (some B))(o:Nat):RV bl (.pointer (some ⟨k,o,none⟩)) (.pointer (some ⟨B,o,none⟩)):=⟨B,h,rfl⟩
theorem AL(a:Act)(d:Option Tmp)(v:Value):(a.put d v).defers=a.defers:=by cases d<;>rfl
section
variable {P:Program} {tbl:List (Ct P)} {bs:List Nat} {w0:World} {rs:Xm} {bl:Bl} {vt:List Value} {m:Xm} {a:Act} {w:World} {id:Nat} {o:Oper} {Q:Exit->Act->World->Prop}
theorem c9{l:List Value}(F:FR bl vt a.tmps)(R:RW bs w0 bl m w)(N:Nw rs bl m)(hid:bl[id]? =some none)(hm:id<m.length)(hn:Cu o=true)(t:TypeId){K:Value->Xm->Prop}
    (h:K (.pointer (some ⟨id,0,none⟩)) (m.set id l)):Nz bs w0 rs bl m vt a id o K (a.put o.dst (.pointer (some ⟨w.heap.size,0,none⟩))) (w.alloc (.cells l.toArray t)):=by
 obtain⟨R',hle⟩:=R.new hid hm l t
 have hbl:id<bl.length:=(Zn.1 hid).1
 refine⟨bl.set id (some w.heap.size),.pointer (some ⟨id,0,none⟩),m.set id l,Zt ..,Zt ..,hle,fun k hk=>Zo (fun e=>hk e.symm),(fun e=>by rw[hn]at e;cases e),AL _ _ _,(F.mono hle).put (RV.at (Zq hbl) 0) _,R',fun k hk=>?_,h⟩
 by_cases e:id=k
 ·subst e
  rw[Zq hbl]at hk
  cases hk
 ·rw[Zo e]at hk
  rw[Zo e]
  exact N k hk
theorem Ai1{cl:Nat->Bool}{v:Value}{K:Value->Xm->Prop}(h:vq P cl id o (VE vt) m=some v)(F:FR bl vt a.tmps)(R:RW bs w0 bl m w)(N:Nw rs bl m)(hnew:c7 P rs id o bl)(hK:K v m):
    o.wp P a w (Nz bs w0 rs bl m vt a id o K) Q:=by
 by_cases hal:∃t,o.op=.alloc t
 ·obtain⟨t,ht⟩:=hal
  have hn:Cu o=true:=by unfold Cu;rw[ht]
  obtain⟨hid,l,hl,hz0⟩:=hnew hn
  obtain⟨z,hz,rfl⟩:=hz0 t ht
  have hv:v=.pointer (some ⟨id,0,none⟩):=by
   unfold vq at h
   rw[ht]at h
   simp[Op.operands]at h
   exact h.symm
  have hm:m[id]? =some z.cells.toList:=(N id hid).trans hl
  have hml:id<m.length:=(Zn.1 hm).1
  have hself:m.set id z.cells.toList=m:=by
   have:=(Zn.1 hm).2
   rw[<-this]
   exact List.set_getElem_self hml
  have hr:(execOp a.eval o).run P w=.ok (.value (.pointer (some ⟨w.heap.size,0,none⟩))) (w.alloc (.cells z.cells.toList.toArray t)):=by
   have r:=AT _ hz w
   simp[execOp,ht,Instr.alloc,newVar,newRow,newObj,r,Sem.run]
  unfold Oper.wp
  rw[hr]
  exact c9 F R N hid hml hn t (by rw[hself,<-hv];exact hK)
 ·obtain⟨v',hv,hr⟩:=AB1 h (fun t ht=>hal ⟨t,ht⟩) F R
  unfold Oper.wp
  rw[hr]
  exact⟨bl,v,m,rfl,rfl,.refl _,fun _ _=>rfl,fun _=>rfl,AL _ _ _,F.put hv _,R,N,hK⟩
theorem Azq{K:Value->Xm->Prop}(h:va P tbl id o (VE vt) m K)(F:FR bl vt a.tmps)(R:RW bs w0 bl m w)(N:Nw rs bl m)(hnew:c7 P rs id o bl):
    o.wp P a w (Nz bs w0 rs bl m vt a id o K) Q:=by
 unfold va at h
 split at h
 ·rename_i t x y hok hop
  have hev:∀x∈o.op.operands,RV bl (VE vt x) (a.eval x):=fun x hx=>F.eval (Zp.1 hok x hx)
  have h1:=hev x (by simp[hop,Op.operands])
  have h2:=hev y (by simp[hop,Op.operands])
  split at h
  ·rename_i k off hx
   rw[hx]at h1
   obtain⟨B,hB,he⟩:=h1
   have he:a.eval x=.pointer (some ⟨B,off,none⟩):=he
   split at h
   ·rename_i l hl
    split at h
    ·rename_i l' hp hst
     rw[h2.plain hp |>.symm]at hst
     obtain⟨l2,e2,A⟩:=R.arr k B hB
     rw[hl]at e2
     cases e2
     obtain⟨r,rfl,hlen⟩:=Gn hst A
     have hr:(execOp a.eval o).run P w=.ok .skip (JQ w B off (a.eval y).cells.toList):=by
      simp[execOp,hop,he,Instr.storeAt,Instr.sureAddr,r]
     unfold Oper.wp
     rw[hr]
     refine⟨bl,undef,_,rfl,Zt ..,.refl _,fun _ _=>rfl,fun _=>rfl,AL _ _ _,F.put (.same rfl) _,R.store hB hl off _ hlen,fun k' hk'=>?_,h⟩
     have e:k≠k':=by rintro rfl;rw[hB]at hk';cases hk'
     rw[Zo e]
     exact N k' hk'
    ·exact h.elim
   ·exact h.elim
  ·exact h.elim
 ·rename_i t x hok hop
  have h1:=F.eval (Zp.1 hok x (by simp[hop,Op.operands]))
  split at h
  ·rename_i hp hc
   have hx:a.eval x=VE vt x:=h1.plain hp
   have hn:Cu o=true:=by unfold Cu;rw[hop]
   obtain⟨hid,l,hl,_⟩:=hnew hn
   have hm:m[id]? =some l:=(N id hid).trans hl
   have hml:id<m.length:=(Zn.1 hm).1
   have hr:(execOp a.eval o).run P w=.ok (.value (.pointer (some ⟨w.heap.size,0,none⟩))) (w.alloc (.cells (VE vt x).cells.toList.toArray t)):=by
    simp[execOp,hop,Instr.box,newVar,newRow,newObj,Sem.run,hx]
   unfold Oper.wp
   rw[hr]
   exact c9 F R N hid hml hn t h
  ·exact h.elim
 ·split at h
  ·rename_i v hv
   exact Ai1 hv F R N hnew h
  ·exact h.elim
 ·rename_i c hok hop
  split at h
  ·rename_i n hcal
   split at h
   ·rename_i ct hct
    have hfn:ct.fn=n:=by simpa using List.find?_some hct
    subst hfn
    have hr:(execOp a.eval o).run P w=.ok (.enter ct.fn (c.args.map a.eval)) w:=by
     have:=ct.go (c.args.map a.eval) w
     simp[execOp,hop,resolve,hcal,Act.eval,Deferred.ofValue,invoke,this]
    unfold Oper.wp
    rw[hr]
    have harg:∀i,RV bl ((c.args.toList.map (VE vt)).getD i undef) ((c.args.map a.eval).getD i undef):=by
     intro i
     by_cases hi:i<c.args.size
     ·have hx:c.args[i]∈o.op.operands:=by
       simp only[hop,Op.operands,Call.operands]
       exact Array.mem_append_right _ (Array.getElem_mem hi)
      have:=F.eval (Zp.1 hok _ hx)
      simpa [Zm,hi]using this
     ·simp only[Zm,Zs]
      rw[Zab (by simp;omega),Array.getElem?_eq_none (by simp;omega)]
      rfl
    refine Calls.mono (ct.ok R (by simp) harg (ct.keep h)) ?_
    rintro e w' ⟨v,v',m',rfl,hv,⟨hK,hlen,hkeep⟩,R'⟩
    refine⟨bl,v,m',rfl,hlen,.refl _,fun _ _=>rfl,fun _=>rfl,AL _ _ _,F.put hv _,R',fun k hk=>?_,hK⟩
    rw[hkeep k ?_]
    ·exact N k hk
    ·intro hmem
     unfold Hb at hmem
     obtain⟨u,hu,hk2⟩:=List.mem_filterMap.1 hmem
     obtain⟨i,hi,rfl⟩:=List.mem_iff_getElem.1 hu
     have hrv:=harg i
     rw[Zm,List.getElem?_eq_getElem hi]at hrv
     split at hk2
     ·rename_i b hb
      cases hk2
      simp only[Option.getD_some]at hrv
      rw[hb]at hrv
      obtain⟨B,hB,_⟩:=hrv
      rw[hB]at hk
      cases hk
     ·cases hk2
   ·exact h.elim
  ·exact h.elim
 ·exact h.elim
end
def Bp(ops:Array Oper)(vt:List Value)(j:Nat):Option Bool:=
 match (ops[j]?).bind (·.dst)with
 |some d=>asB (vt.getD d undef)
 |none=>none
theorem RV.asB{bl:Bl}{v v':Value}(h:RV bl v v'):asB v'=asB v:=by
 cases hp:isP v
 ·rw[h.plain hp]
 ·match v,h,hp with
  | .pointer (some a),⟨B,_,h2⟩,_=>rw[h2];rfl
  | .nilIface,h,_=>exact h
  | .slice (some a) _ _,⟨B,_,h2⟩,_=>rw[h2];rfl
theorem WU{bl:Bl}{vt:List Value}{tm:Array Value}(F:FR bl vt tm)(ops:Array Oper)(j:Nat):yielded ops tm j=Bp ops vt j:=by
 unfold yielded Bp
 cases h:(ops[j]?).bind (·.dst)with
 |none=>rfl
 |some d=>
  have hr:=(F.rv d).asB
  dsimp only
  rw[<-hr]
  simp only[Option.bind_some,Zs]
  cases h2:tm[d]? with
  |none=>rfl
  |some u=>cases u<;>rfl
theorem Qb{bl:Bl}{vt:List Value}{tm:Array Value}(F:FR bl vt tm)(ops:Array Oper)(o:Oper):Region.wanted o (yielded ops tm)=Region.wanted o (Bp ops vt):=by
 rw[funext (WU F ops)]
def EV(base:Nat)(ops:Array Oper)(i:Nat):Nat:=base+((ops.toList.take i).filter Cu).length
theorem Ai2{base:Nat}{ops:Array Oper}{i j:Nat}{oi:Oper}(hi:ops[i]? =some oi)(hn:Cu oi=true)(h:i<j):EV base ops i<EV base ops j:=by
 unfold EV
 have hl:ops.toList[i]? =some oi:=by simpa using hi
 obtain⟨hlt,he⟩:=Zn.1 hl
 have h1:(ops.toList.take (i+1)).filter Cu=(ops.toList.take i).filter Cu++[oi]:=by
  rw[Zag hlt,List.filter_append,he]
  simp[hn]
 have h2:((ops.toList.take (i+1)).filter Cu).Sublist ((ops.toList.take j).filter Cu):=((List.take_prefix_take_left (l:=ops.toList) (show i+1<=j by omega)).sublist).filter _
 have:=h2.length_le
 rw[h1,List.length_append]at this
 simp at this
 omega
theorem Asm{base:Nat}{ops:Array Oper}{i j:Nat}{oi oj:Oper}(hi:ops[i]? =some oi)(hj:ops[j]? =some oj)(ni:Cu oi=true)(nj:Cu oj=true)(h:EV base ops i=EV base ops j):i=j:=by
 rcases Nat.lt_trichotomy i j with h1 |h1 |h1
 ·have:=Ai2 (base:=base) hi ni h1;omega
 ·exact h1
 ·have:=Ai2 (base:=base) hj nj h1;omega
def NA(P:Program)(rs:Xm)(ops:Array Oper)(ids:Nat->Nat)(bl:Bl)(i:Nat):Prop:=∀o,ops[i]? =some o->c7 P rs (ids i) o bl
theorem NA.next{P:Program}{rs:Xm}{ops:Array Oper}{base:Nat}{bl bl':Bl}{i j:Nat}{o:Oper}(h:NA P rs ops (EV base ops) bl j)(hi:ops[i]? =some o)(hij:i≠j)
    (h1:∀k:Nat,k≠EV base ops i->bl'[k]? =bl[k]?) (h2:Cu o=false->bl'=bl):NA P rs ops (EV base ops) bl' j:=by
 intro oj hj hn
 have:=h oj hj hn
 refine⟨?_,this.2⟩
 cases ho:Cu o with
 |false=>rw[h2 ho];exact this.1
 |true=>
  rw[h1 _ (fun e=>hij (Asm (base:=base) hi hj ho hn e.symm))]
  exact this.1
def AE(x:Bool)(A B:Prop):Prop:=
 match x with
 |true=>A
 |false=>B
theorem NB{c:Prop} [Decidable c] {α:Type}{K:α->Prop}{A B:α}:AE (decide c) (K A) (K B)=K (if c then A else B):=by
 by_cases h:c
 ·rw[decide_eq_true h,if_pos h];rfl
 ·rw[decide_eq_false h,if_neg h];rfl
theorem Bg{b:Bool}{α:Type}{K:α->Prop}{A B:α}:AE b (K A) (K B)=K (if b then A else B):=by cases b<;>rfl
theorem Hj{a b:Int}{α:Type}{K:α->Prop}{A B:α}:AE (decide (a<b)) (K A) (K B)=K (if a<b then A else B):=NB
theorem AX{a b:Int}{α:Type}{K:α->Prop}{A B:α}:AE (decide (a<=b)) (K A) (K B)=K (if a<=b then A else B):=NB
theorem AB2{a b:Int}{α:Type}{K:α->Prop}{A B:α}:AE (decide (a>b)) (K A) (K B)=K (if a>b then A else B):=NB
theorem AB3{a b:Int}{α:Type}{K:α->Prop}{A B:α}:AE (decide (a≥b)) (K A) (K B)=K (if a≥b then A else B):=NB
theorem Ja{a b:Int}{α:Type}{K:α->Prop}{A B:α}:AE (decide (a=b)) (K A) (K B)=K (if a=b then A else B):=NB
theorem Ai3{a b:Int}{α:Type}{K:α->Prop}{A B:α}:AE (!decide (a=b)) (K B) (K A)=K (if a=b then A else B):=by
 by_cases h:a=b
 ·rw[decide_eq_true h,if_pos h];rfl
 ·rw[decide_eq_false h,if_neg h];rfl
theorem Ld{b:Bool}{α:Type}{K:α->Prop}{A B:α}:AE (!b) (K B) (K A)=K (if b then A else B):=by cases b<;>rfl
def vop(P:Program)(tbl:List (Ct P))(id:Nat)(o:Oper)(vt:List Value)(m:Xm)(K:List Value->Xm->Prop):Prop:=
 match vq P (fun _=>true) id o (VE vt) m with
 |some v=>K (BO vt o.dst v) m
 |none=>va P tbl id o (VE vt) m (fun v m'=>K (BO vt o.dst v) m')
def EG (P :Program)(tbl:List (Ct P))(ops:Array Oper)(ids:Nat->Nat)(K:List Value->Xm->Prop):List Nat->List Value->Xm->Prop
 |[],vt,m=>K vt m
 | i ::rest,vt,m=>
  match ops[i]? with
  |none=>EG P tbl ops ids K rest vt m
  | some o =>
   match o.guard with
   |none=>vop P tbl (ids i) o vt m (EG P tbl ops ids K rest)
   | some (g,want)=>
    match (ops[g]?).bind (·.dst)with
    |none=>False
    | some d=>
     match vt.getD d undef with
     | .bool x=>AE x
         (match want with
           |true=>vop P tbl (ids i) o (vt.set d (.bool true)) m (EG P tbl ops ids K rest)
           |false=>EG P tbl ops ids K rest (BO (vt.set d (.bool true)) o.dst undef) m)
         (match want with
           |true=>EG P tbl ops ids K rest (BO (vt.set d (.bool false)) o.dst undef) m
           |false=>vop P tbl (ids i) o (vt.set d (.bool false)) m (EG P tbl ops ids K rest))
     | .tuple _=>EG P tbl ops ids K rest (BO vt o.dst undef) m
     |_=>False
section
variable {P:Program} {tbl:List (Ct P)} {bs:List Nat} {w0:World} {rs:Xm} {Q:Exit->Act->World->Prop} {ops:Array Oper} {base:Nat} {K:List Value->Xm->Prop} {ds:List Deferred} {ln:Nat} {bl0:Bl}
theorem Ai4{bl:Bl}{vt:List Value}{m:Xm}{a:Act}{w:World}{id:Nat}{o:Oper}{K:List Value->Xm->Prop}(h:vop P tbl id o vt m K)(F:FR bl vt a.tmps)(R:RW bs w0 bl m w)(N:Nw rs bl m)(hnew:c7 P rs id o bl):
    o.wp P a w (Nz bs w0 rs bl m vt a id o (fun v m'=>K (BO vt o.dst v) m')) Q:=by
 unfold vop at h
 split at h
 ·rename_i v hv
  exact Ai1 hv F R N hnew h
 ·exact Azq h F R N hnew
theorem FR.setSame{bl:Bl}{vt:List Value}{tm:Array Value}(h:FR bl vt tm){d:Nat}{v:Value}(hd:vt.getD d undef=v):FR bl (vt.set d v) tm:=by
 refine⟨by rw[Zt];exact h.len,fun t=>?_⟩
 by_cases e:d=t
 ·subst e
  have h1:=h.rv d
  by_cases hl:d<vt.length
  ·rw[hd]at h1
   rw[Zm,Zq hl]
   exact h1
  ·rw[Zm,Zab (by omega)]at h1
   rw[Zm,Zab (by rw[Zt];omega)]
   exact h1
 ·have h1:=h.rv t
  rw[Zm]at h1 ⊢
  rw[Zo e]
  exact h1
theorem EW(hK:∀bl vt m a w,K vt m->FR bl vt a.tmps->RW bs w0 bl m w->Le bl0 bl->bl.length=ln->m.length=ln->a.defers=ds->Q .normal a w):
    ∀ (is:List Nat) (bl:Bl) (vt:List Value) (m:Xm) (a:Act) (w:World),is.Nodup->EG P tbl ops (EV base ops) K is vt m->FR bl vt a.tmps->RW bs w0 bl m w->Nw rs bl m->
      (∀i∈is,NA P rs ops (EV base ops) bl i)->Le bl0 bl->bl.length=ln->m.length=ln->a.defers=ds->wpOps P ops Q is a w
 |[],bl,vt,m,a,w,_,h,F,R,_,_,hle,hl,hml,hd=>hK bl vt m a w h F R hle hl hml hd
 | i ::rest,bl,vt,m,a,w,hnd,h,F,R,N,hf,hle,hl,hml,hd=>by
  rw[List.nodup_cons]at hnd
  rw[wpOps_cons]
  unfold EG at h
  unfold wpOp
  cases ho:ops[i]? with
  |none=>
   rw[ho]at h
   exact EW hK rest bl vt m a w hnd.2 h F R N (fun j hj=>hf j (Zaj _ hj)) hle hl hml hd
  | some o=>
   rw[ho]at h
   dsimp only at h ⊢
   have hfi:=hf i List.mem_cons_self o ho
   have step:∀vt2:List Value,FR bl vt2 a.tmps->vop P tbl (EV base ops i) o vt2 m (EG P tbl ops (EV base ops) K rest)->o.wp P a w (wpOps P ops Q rest) Q:=by
    intro vt2 F2 h2
    refine Oper.wp_mono ?_ (Ai4 (Q:=Q) h2 F2 R N hfi)
    rintro a' w' ⟨bl',v,m',hbl,hmm,hle',h1,h3,hdef,F',R',N',hK'⟩
    exact EW hK rest bl' _ m' a' w' hnd.2 hK' F' R' N' (fun j hj=>(hf j (Zaj _ hj)).next ho (by rintro rfl;exact hnd.1 hj) h1 h3) (hle.trans hle') (hbl.trans hl) (hmm.trans hml) (hdef.trans hd)
   have skip:∀vt2:List Value,FR bl vt2 a.tmps->EG P tbl ops (EV base ops) K rest (BO vt2 o.dst undef) m->wpOps P ops Q rest (a.put o.dst undef) w:=by
    intro vt2 F2 h2
    exact EW hK rest bl _ m _ w hnd.2 h2 (F2.put (.same rfl) _) R N (fun j hj=>hf j (Zaj _ hj)) hle hl hml ((AL _ _ _).trans hd)
   rw[Qb F]
   cases hg:o.guard with
   |none=>
    rw[hg]at h
    rw[show Region.wanted o (Bp ops vt)=true by unfold Region.wanted;rw[hg],if_pos rfl]
    exact .inl (step vt F h)
   | some gw=>
    obtain⟨g,want⟩:=gw
    rw[hg]at h
    dsimp only at h
    split at h
    ·exact h.elim
    ·rename_i d hdst
     split at h
     ·rename_i x hx
      have hw:Region.wanted o (Bp ops vt)=(x==want):=by
       unfold Region.wanted
       rw[hg]
       dsimp only
       unfold Bp
       rw[hdst]
       dsimp only
       rw[hx]
       simp[asB]
      rw[hw]
      cases x<;>cases want<;>simp only[AE]at h
      ·rw[if_pos (by decide)]
       exact .inl (step _ (F.setSame hx) h)
      ·rw[if_neg (by decide)]
       exact skip _ (F.setSame hx) h
      ·rw[if_neg (by decide)]
       exact skip _ (F.setSame hx) h
      ·rw[if_pos (by decide)]
       exact .inl (step _ (F.setSame hx) h)
     ·rename_i ts hx
      have hw:Region.wanted o (Bp ops vt)=false:=by
       unfold Region.wanted
       rw[hg]
       dsimp only
       unfold Bp
       rw[hdst]
       dsimp only
       rw[hx]
       rfl
      rw[hw,if_neg (by decide)]
      exact skip _ F h
     ·exact h.elim
end
end
end Go.Proofs.YtoadcnhcfodkgaaGreatDoor
