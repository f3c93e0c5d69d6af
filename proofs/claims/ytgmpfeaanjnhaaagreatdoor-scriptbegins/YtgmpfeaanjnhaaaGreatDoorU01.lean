/-
A part.
A part.
A part.
A part.
A part.
A part.
A part.
A part.
A part.
A part.
-/
import Derived.WalkKit
import Derived.WalkSpells
import Derived.WalkLawsBesides
import Derived.Laws.BitsAllLaws
import Derived.Handy
import Derived.Test.YtgmpfeaanjnhaaaGreatDoorRows
import Derived.Deep.RegionHeld3
import Derived.LoopN
import Derived.Orders
import Derived.Laws.StructEq
import Derived.ChangeKeysEq
namespace Go.Proofs.YtgmpfeaanjnhaaaGreatDoor
open Go.RowKit
def hi64(n:Int):Int:=n / 18446744073709551616
def lo64(n:Int):Int:=n % 18446744073709551616
theorem DZ(n:Int)(h0:0<=n)(h:n<340282366920938463463374607431768211456):0<=hi64 n/\hi64 n<=18446744073709551615:=by unfold hi64;omega
theorem BS(n:Int):0<=lo64 n/\lo64 n<=18446744073709551615:=by unfold lo64;omega
theorem Ie(n:Int):hi64 n*18446744073709551616+lo64 n=n:=by unfold hi64 lo64;omega
def numB(n:Int):Bool:=decide (-4611686018427387904<=n)&&decide (n<=4611686018427387904)
theorem D3{n:Int}(h:numB n=true):-4611686018427387904<=n/\n<=4611686018427387904:=by unfold numB at h;simpa using h
def sz(n:Int):Int:=if n<0 then-n else n
def Eh(n:Int):Int:=if n<=18446744073709551615 then n else 18446744073709551615
def Kn(n:Int)(minus:Bool):Int:=if n<=4611686018427387904 then(if minus then-n else n)else 0
theorem If(n:Int)(minus:Bool)(c:n<=4611686018427387904):(if minus then-n else n)=Kn n minus:=by unfold Kn;rw[if_pos c]
theorem Ig(n:Int)(minus:Bool)(c:¬n<=4611686018427387904):0=Kn n minus:=by unfold Kn;rw[if_neg c]
def tk(bad:Bool)(zs:List Int):Bool:=!bad&&zs.all numB
theorem Aae(bad:Bool)(zs:List Int):(bad|| !zs.all numB)= !tk bad zs:=by unfold tk;cases bad<;>simp
theorem Ko{bad:Bool}{a b:Int}(h:tk bad [a,b]=true):bad=false/\numB a=true/\numB b=true:=by unfold tk at h;simp at h;exact⟨h.1,h.2.1,h.2.2⟩
theorem Aok{bad:Bool}{a:Int}(h:tk bad [a]=true):bad=false/\numB a=true:=by unfold tk at h;simp at h;exact⟨h.1,h.2⟩
theorem Kq{bad:Bool}{a b c:Int}(h:tk bad [a,b,c]=true):bad=false/\numB a=true/\numB b=true/\numB c=true:=by unfold tk at h;simp at h;exact⟨h.1,h.2.1,h.2.2.1,h.2.2.2⟩
def gv(n:Int):Int×Bool:=(if numB n then n else 0,!numB n)
def out(n:Int)(minus:Bool):Int×Bool:=(Kn n minus,decide (4611686018427387904<n))
def Ca(bad:Bool)(a b:Int):Int×Bool:=if tk bad [a,b]then gv (a+b)else(0,true)
def CP(bad:Bool)(a b:Int):Int×Bool:=if tk bad [a,b]then gv (a-b)else(0,true)
def rnd(n d:Int):Int:=(n+d / 2) / d
def Aw(bad:Bool)(a p q:Int):Int×Bool:=if tk bad [a,p,q]&&q != 0 then out (rnd (sz a*sz p) (sz q)) ((decide (a<0) != decide (p<0)) != decide (q<0))else(0,true)
def mulS(bad:Bool)(a b:Int):Int×Bool:=Aw bad a b 1099511627776
def Bt(bad:Bool)(a b:Int):Int×Bool:=Aw bad a 1099511627776 b
def IN(bad:Bool)(a m:Int):Int×Bool:=if tk bad [a,m]&&decide (0<m)then(a % m,false)else(0,true)
theorem JZ{bad:Bool}{a b:Int}(c:tk bad [a,b]=false):Ca bad a b=(0,true):=by unfold Ca;rw[c];rfl
theorem Kr{bad:Bool}{a b:Int}(c:tk bad [a,b]=true):Ca bad a b=gv (a+b):=by unfold Ca;rw[c];rfl
theorem Vu{bad:Bool}{a b:Int}(c:tk bad [a,b]=false):CP bad a b=(0,true):=by unfold CP;rw[c];rfl
theorem Pt{bad:Bool}{a b:Int}(c:tk bad [a,b]=true):CP bad a b=gv (a-b):=by unfold CP;rw[c];rfl
theorem Vv(n:Int)(h:-9223372036854775808<=n/\n<=9223372036854775808):gv (wrap64 n)=gv n:=by
 by_cases c:n=9223372036854775808
 ·subst c;rw[show wrap64 9223372036854775808=-9223372036854775808 by unfold wrap64;decide];rfl
 ·rw[IntWalk.wrap64_in n ⟨by omega,by omega⟩]
theorem Ei{bad:Bool}{a p q:Int}(c:tk bad [a,p,q]=false):Aw bad a p q=(0,true):=by unfold Aw;rw[c];rfl
theorem Ks{bad:Bool}{a p:Int}:Aw bad a p 0=(0,true):=by unfold Aw;rw[show((0:Int) != 0)=false by rfl,Bool.and_false];rfl
theorem ER{bad:Bool}{a p q:Int}(c:tk bad [a,p,q]=true)(h:(q != 0)=true):Aw bad a p q=out (rnd (sz a*sz p) (sz q)) ((decide (a<0) != decide (p<0)) != decide (q<0)):=by unfold Aw;rw[c,h];rfl
theorem Vw{bad:Bool}{a m:Int}(c:tk bad [a,m]=false):IN bad a m=(0,true):=by unfold IN;rw[c];rfl
theorem Aaf{bad:Bool}{a m:Int}(h:¬0<m):IN bad a m=(0,true):=by unfold IN;rw[decide_eq_false h,Bool.and_false];rfl
theorem Pu{bad:Bool}{a m:Int}(c:tk bad [a,m]=true)(h:0<m):IN bad a m=(a % m,false):=by unfold IN;rw[c,decide_eq_true h];rfl
theorem FC{a:Int}(h:numB a=true):0<=sz a/\sz a<=4611686018427387904:=by
 have:=D3 h
 unfold sz
 split<;>omega
theorem RG{a:Int}(h:(a != 0)=true):1<=sz a:=by
 have h1:a≠0:=by simpa using h
 unfold sz
 split<;>omega
theorem Cr{a b:Int}(h:numB a=true)(k:numB b=true):0<=sz a*sz b/\sz a*sz b<=21267647932558653966460912964485513216:=by
 have h1:=FC h
 have h2:=FC k
 refine⟨Int.mul_nonneg h1.1 h2.1,?_⟩
 have:=Int.mul_le_mul h1.2 h2.2 h2.1 (by omega:(0:Int)<=4611686018427387904)
 omega
theorem NM(bad:Bool)(a b:Int):tk bad [a,b,1099511627776]=tk bad [a,b]:=by unfold tk;simp[show numB 1099511627776=true by rfl]
theorem Ih{bad:Bool}{a b:Int}(c:tk bad [a,b]=false):mulS bad a b=(0,true):=Ei ((NM bad a b).trans c)
theorem Pv{bad:Bool}{a b:Int}(c:tk bad [a,b]=true):mulS bad a b=out ((sz a*sz b+549755813888) / 1099511627776) (decide (a<0) != decide (b<0)):=by
 unfold mulS
 rw[ER ((NM bad a b).trans c) rfl]
 simp[rnd,show sz 1099511627776=1099511627776 by rfl]
theorem Vx(n:Int)(minus:Bool):out (Eh n) minus=out n minus:=by
 unfold Eh
 split
 ·rfl
 ·unfold out Kn
  rw[if_neg (by decide),if_neg (by omega),decide_eq_true (by decide),decide_eq_true (by omega)]
theorem Aag(n:Int)(h:0<=n):0<=Eh n/\Eh n<=18446744073709551615:=by unfold Eh;split<;>omega
theorem G5{n d:Int}(h:0<=n)(hd:1<=d):0<=rnd n d:=Int.ediv_nonneg (by omega) (by omega)
theorem MG{a:Int}(h:0<=a):sz a=a:=by unfold sz;rw[if_neg (by omega)]
theorem Vy(x y:Int)(h:0<y):-y<x.tmod y/\x.tmod y<y:=by
 refine⟨?_,Int.tmod_lt_of_pos x h⟩
 have h1:=Int.tmod_lt_of_pos (-x) h
 rw[Int.neg_tmod]at h1
 omega
theorem Aah(x y:Int)(h:0<y):(x.tmod y<0->x.tmod y+y=x % y)/\(0<=x.tmod y->x.tmod y=x % y):=by
 have b:=Vy x y h
 have e1:=Int.tmod_add_mul_tdiv x y
 refine⟨fun c=>?_,fun c=>?_⟩
 ·have e2:x=(x.tmod y+y)+y*(x.tdiv y-1):=by grind
  rw[e2,Int.add_mul_emod_self_left,Int.emod_eq_of_lt (by omega) (by omega),<-e2]
 ·have e2:x=x.tmod y+y*x.tdiv y:=by omega
  have e3:x % y=(x.tmod y+y*x.tdiv y) % y:=by rw[<-e2]
  rw[e3,Int.add_mul_emod_self_left,Int.emod_eq_of_lt (by omega) (by omega)]
theorem Xo(ah al bh bl:Int):(ah*4294967296+al)*(bh*4294967296+bl)=(ah*bh)*18446744073709551616+(ah*bl+al*bh)*4294967296+al*bl:=by grind
theorem NN(x y:Int)(h0:0<=x)(h1:x<=4294967295)(k0:0<=y)(k1:y<=4294967295):0<=x*y/\x*y<=18446744065119617025:=by
 refine⟨Int.mul_nonneg h0 k0,?_⟩
 have:=Int.mul_le_mul h1 k1 k0 (by omega:(0:Int)<=4294967295)
 omega
theorem Xp(x y:Int)(h0:0<=x)(h1:x<=4294967295)(k0:0<=y)(k1:y<=4294967295):bits .or .u64 (x*4294967296) y=x*4294967296+y:=by
 rw[u64_or _ _ (by omega) (by omega) (by omega) (by omega),nat_join 32 _ _ (by omega) (by omega)]
 omega
theorem Xq(x y:Int)(h0:0<=x)(h1:x<=1099511627775)(k0:0<=y)(k1:y<=16777215):bits .or .u64 (x*16777216) y=x*16777216+y:=by
 rw[u64_or _ _ (by omega) (by omega) (by omega) (by omega),nat_join 24 _ _ (by omega) (by omega)]
 omega
theorem Mo(n x y:Int)(h:x*18446744073709551616+y=n+549755813888)(b1:0<=x/\x<=18446744073709551615)(b2:0<=y/\y<=18446744073709551615)(c:x / 1099511627776=0):
    bits .or .u64 (IntKind.u64.wrap (x*16777216)) (y / 1099511627776)=Eh ((n+549755813888) / 1099511627776):=by
 rw[<-h,IntKind.wrap_u64,show x*16777216 % 18446744073709551616=x*16777216 by omega,Xq _ _ (by omega) (by omega) (by omega) (by omega)]
 unfold Eh
 rw[if_pos (by omega)]
 omega
theorem NO(n x y:Int)(h:x*18446744073709551616+y=n+549755813888)(b1:0<=x/\x<=18446744073709551615)(b2:0<=y/\y<=18446744073709551615)(c:¬x / 1099511627776=0):
    18446744073709551615=Eh ((n+549755813888) / 1099511627776):=by
 rw[<-h]
 unfold Eh
 rw[if_neg (by omega)]
theorem RH(a b:Int)(h0:0<=a)(h1:a<=18446744073709551615)(k0:0<=b)(k1:b<=18446744073709551615):
    IntKind.u64.wrap (IntKind.u64.wrap (IntKind.u64.wrap (a / 4294967296*(b / 4294967296))+IntKind.u64.wrap (IntKind.u64.wrap (a / 4294967296*(b % 4294967296))+IntKind.u64.wrap (a % 4294967296*(b % 4294967296)) / 4294967296) / 4294967296)+IntKind.u64.wrap (IntKind.u64.wrap (a % 4294967296*(b / 4294967296))+IntKind.u64.wrap (IntKind.u64.wrap (a / 4294967296*(b % 4294967296))+IntKind.u64.wrap (a % 4294967296*(b % 4294967296)) / 4294967296) % 4294967296) / 4294967296)=hi64 (a*b)/\
    bits BinOp.or IntKind.u64 (IntKind.u64.wrap (IntKind.u64.wrap (IntKind.u64.wrap (a % 4294967296*(b / 4294967296))+IntKind.u64.wrap (IntKind.u64.wrap (a / 4294967296*(b % 4294967296))+IntKind.u64.wrap (a % 4294967296*(b % 4294967296)) / 4294967296) % 4294967296)*4294967296)) (IntKind.u64.wrap (a % 4294967296*(b % 4294967296)) % 4294967296)=lo64 (a*b):=by
 have e:=Xo (a / 4294967296) (a % 4294967296) (b / 4294967296) (b % 4294967296)
 rw[show a / 4294967296*4294967296+a % 4294967296=a by omega,show b / 4294967296*4294967296+b % 4294967296=b by omega]at e
 have p1:=NN (a / 4294967296) (b / 4294967296) (by omega) (by omega) (by omega) (by omega)
 have p2:=NN (a / 4294967296) (b % 4294967296) (by omega) (by omega) (by omega) (by omega)
 have p3:=NN (a % 4294967296) (b / 4294967296) (by omega) (by omega) (by omega) (by omega)
 have p4:=NN (a % 4294967296) (b % 4294967296) (by omega) (by omega) (by omega) (by omega)
 generalize a / 4294967296*(b / 4294967296)=p at *
 generalize a / 4294967296*(b % 4294967296)=q at *
 generalize a % 4294967296*(b / 4294967296)=r at *
 generalize a % 4294967296*(b % 4294967296)=t at *
 generalize a*b=n at *
 simp only[IntKind.wrap_u64]
 rw[show p % 18446744073709551616=p by omega,show q % 18446744073709551616=q by omega,show r % 18446744073709551616=r by omega,show t % 18446744073709551616=t by omega]
 rw[show(q+t / 4294967296) % 18446744073709551616=q+t / 4294967296 by omega]
 rw[show(r+(q+t / 4294967296) % 4294967296) % 18446744073709551616=r+(q+t / 4294967296) % 4294967296 by omega]
 rw[show(r+(q+t / 4294967296) % 4294967296)*4294967296 % 18446744073709551616=((r+(q+t / 4294967296) % 4294967296) % 4294967296)*4294967296 by omega]
 rw[Xp _ _ (by omega) (by omega) (by omega) (by omega)]
 unfold hi64 lo64
 constructor<;>omega
def ldq(n d:Int)(m:Nat):Int:=n / 2^m / d
def ldr(n d:Int)(m:Nat):Int:=n / 2^m % d
theorem B4(m:Nat):(0:Int)<2^m:=Int.pow_pos (by decide)
theorem Xr(n:Int)(m:Nat):n / 2^m=2*(n / 2^(m+1))+n / 2^m % 2:=by
 have e:n / 2^(m+1)=n / 2^m / 2:=by rw[Int.pow_succ,Int.ediv_ediv_of_nonneg (Int.le_of_lt (B4 m))]
 rw[e];omega
theorem Vz(n:Int)(m:Nat)(h:m<64):lo64 n / 2^m % 2=n / 2^m % 2:=by
 obtain⟨k,hk⟩:∃k,64=m+(k+1):=⟨63-m,by omega⟩
 have e:(18446744073709551616:Int)=2^m*(2^k*2):=by rw[<-Int.pow_succ,<-Int.pow_add,<-hk];decide
 have h1:=Ie n
 have h2:n / 2^m=lo64 n / 2^m+hi64 n*(2^k*2):=by
  have h3:n=lo64 n+2^m*(hi64 n*(2^k*2)):=by rw[e]at h1;grind
  generalize lo64 n=l at *
  generalize hi64 n*(2^k*2)=x at *
  rw[h3,Int.add_mul_ediv_left _ _ (Int.ne_of_gt (B4 m))]
 rw[h2,<-Int.mul_assoc]
 omega
theorem Pw(n d:Int)(m:Nat)(hd:0<d):
    (d<=2*ldr n d (m+1)+n / 2^m % 2->ldq n d m=2*ldq n d (m+1)+1/\ldr n d m=2*ldr n d (m+1)+n / 2^m % 2-d)/\
    (2*ldr n d (m+1)+n / 2^m % 2<d->ldq n d m=2*ldq n d (m+1)/\ldr n d m=2*ldr n d (m+1)+n / 2^m % 2):=by
 unfold ldq ldr
 have e:=Xr n m
 have hb:0<=n / 2^m % 2/\n / 2^m % 2<2:=by omega
 generalize n / 2^m % 2=t at *
 generalize n / 2^(m+1)=y at *
 generalize n / 2^m=x at *
 have e2:=Int.mul_ediv_add_emod y d
 have h1:=Int.emod_nonneg y (Int.ne_of_gt hd)
 have h2:=Int.emod_lt_of_pos y hd
 generalize y / d=q at *
 generalize y % d=r at *
 refine⟨fun c=>?_,fun c=>?_⟩
 ·have:x=(2*r+t-d)+d*(2*q+1):=by grind
  rw[this,Int.add_mul_ediv_left _ _ (Int.ne_of_gt hd),Int.add_mul_emod_self_left,Int.ediv_eq_zero_of_lt (by omega) (by omega),Int.emod_eq_of_lt (by omega) (by omega)]
  omega
 ·have:x=(2*r+t)+d*(2*q):=by grind
  rw[this,Int.add_mul_ediv_left _ _ (Int.ne_of_gt hd),Int.add_mul_emod_self_left,Int.ediv_eq_zero_of_lt (by omega) (by omega),Int.emod_eq_of_lt (by omega) (by omega)]
  omega
theorem Aai(n d:Int)(m:Nat)(hd:0<d):0<=ldr n d m/\ldr n d m<d:=⟨Int.emod_nonneg _ (Int.ne_of_gt hd),Int.emod_lt_of_pos _ hd⟩
theorem NP(n d:Int)(m:Nat)(hd:0<d)(h0:0<=n)(hq:hi64 n<d):0<=ldq n d m/\ldq n d m<=18446744073709551615:=by
 unfold ldq
 have h1:0<=n / 2^m:=Int.ediv_nonneg h0 (Int.le_of_lt (B4 m))
 have h2:n / 2^m<=n:=Int.ediv_le_self _ h0
 refine⟨Int.ediv_nonneg h1 (Int.le_of_lt hd),?_⟩
 have h3:n<d*18446744073709551616:=by have:=Ie n;have:=BS n;omega
 have h4:n / 2^m / d<18446744073709551616:=Int.ediv_lt_of_lt_mul hd (by rw[Int.mul_comm];omega)
 omega
theorem Aaj(n d:Int)(h0:0<=n)(hq:hi64 n<d):ldq n d 64=0/\ldr n d 64=hi64 n:=by
 have h:0<=hi64 n:=Int.ediv_nonneg h0 (by decide)
 have e:n / 2^64=hi64 n:=rfl
 unfold ldq ldr
 rw[e]
 exact⟨Int.ediv_eq_zero_of_lt h hq,Int.emod_eq_of_lt h hq⟩
theorem Ana(n d:Int):ldq n d 0=n / d/\ldr n d 0=n % d:=by unfold ldq ldr;simp
theorem Aak(x y:Int)(h0:0<=x)(h1:x<=9223372036854775807)(k0:0<=y)(k1:y<=1):bits .or .u64 (x*2) y=x*2+y:=by
 rw[u64_or _ _ (by omega) (by omega) (by omega) (by omega),nat_join 1 _ _ (by omega) (by omega)]
 omega
theorem Aii(x:Int)(h0:0<=x)(h1:x<=18446744073709551615):bits .and .u64 x 1=x % 2:=by
 rw[u64_and _ _ (by omega) (by omega) (by omega) (by omega),show(1:Int).toNat=1 by rfl,nat_mask1]
 omega
theorem VA(n r:Int)(m:Nat)(hm:m<64)(h0:0<=r)(h1:r<=9223372036854775807):bits .or .u64 (r*2) (bits .and .u64 (lo64 n / 2^m) 1)=2*r+n / 2^m % 2:=by
 have b:=BS n
 have h2:0<=lo64 n / 2^m:=Int.ediv_nonneg b.1 (Int.le_of_lt (B4 m))
 have h3:lo64 n / 2^m<=lo64 n:=Int.ediv_le_self _ b.1
 rw[Aii _ h2 (by omega),Vz n m hm,Aak _ _ h0 h1 (by omega) (by omega)]
 omega
theorem Aol(q:Int)(h0:0<=q)(h1:2*q+1<=18446744073709551615):bits .or .u64 (IntKind.u64.wrap (q*2)) 1=2*q+1:=by
 rw[IntKind.wrap_u64,show q*2 % 18446744073709551616=q*2 by omega,Aak _ _ h0 (by omega) (by decide) (by decide)]
 omega
theorem Aal(n d:Int)(hd:1<=d)(c:d<=hi64 (n+d / 2)):18446744073709551615=Eh (rnd n d):=by
 unfold Eh rnd
 have h1:=Ie (n+d / 2)
 have h2:=BS (n+d / 2)
 rw[if_neg]
 have:18446744073709551616<=(n+d / 2) / d:=Int.le_ediv_of_mul_le (by omega) (by omega)
 omega
theorem Aom(n d:Int)(hd:1<=d)(c:hi64 (n+d / 2)<d):(n+d / 2) / d=Eh (rnd n d):=by
 unfold Eh rnd
 have h1:=Ie (n+d / 2)
 have h2:=BS (n+d / 2)
 rw[if_pos]
 have:(n+d / 2) / d<18446744073709551616:=Int.ediv_lt_of_lt_mul (by omega) (by omega)
 omega
def IP(n:Int):Nat->Int->Int
 |0,r=>r
 |j+1,r=>IP n j (if (r+2^j)*(r+2^j)<=n then r+2^j else r)
def isq(n:Int):Int:=IP n 63 0
def Ej(bad:Bool)(a:Int):Int×Bool:=if tk bad [a]&&decide (0<=a)then out (isq (a*1099511627776)) false else(0,true)
def By(bad:Bool)(a b c:Int):Int×Bool:=if tk bad [a,b,c]then out (isq (a*a+b*b+c*c)) false else(0,true)
theorem NR{x y:Int}(h0:0<=x)(h:x<=y):x*x<=y*y:=Int.mul_le_mul h h h0 (by omega)
theorem Px{bad:Bool}{a:Int}(c:tk bad [a]=false):Ej bad a=(0,true):=by unfold Ej;rw[c];rfl
theorem Xs{bad:Bool}{a:Int}(h:¬0<=a):Ej bad a=(0,true):=by unfold Ej;rw[decide_eq_false h,Bool.and_false];rfl
theorem Xt{bad:Bool}{a:Int}(c:tk bad [a]=true)(h:0<=a):Ej bad a=out (isq (a*1099511627776)) false:=by unfold Ej;rw[c,decide_eq_true h];rfl
theorem Ii{bad:Bool}{a b c:Int}(h:tk bad [a,b,c]=false):By bad a b c=(0,true):=by unfold By;rw[h];rfl
theorem IQ{bad:Bool}{a b c:Int}(h:tk bad [a,b,c]=true):By bad a b c=out (isq (a*a+b*b+c*c)) false:=by unfold By;rw[h];rfl
theorem IR(n:Int):∀(m:Nat) (r:Int),0<=r->r*r<=n->n<(r+2^m)*(r+2^m)->0<=IP n m r/\IP n m r*IP n m r<=n/\n<(IP n m r+1)*(IP n m r+1)
 |0,r,h0,h1,h2=>⟨h0,h1,by show n<(r+1)*(r+1);simpa using h2⟩
 | j+1,r,h0,h1,h2=>by
  have hp:=B4 j
  have e:r+(2:Int)^(j+1)=r+2^j+2^j:=by rw[Int.pow_succ];omega
  rw[e]at h2
  unfold IP
  by_cases c:(r+2^j)*(r+2^j)<=n
  ·rw[if_pos c]
   exact IR n j (r+2^j) (by omega) c h2
  ·rw[if_neg c]
   exact IR n j r h0 h1 (by omega)
theorem RI(x y n:Int)(hx:0<=x)(hy:0<=y)(h1:x*x<=n)(h2:n<(x+1)*(x+1))(h3:y*y<=n)(h4:n<(y+1)*(y+1)):x=y:=by
 rcases Int.lt_trichotomy x y with h |h |h
 ·have:=NR (by omega:(0:Int)<=x+1) (by omega:x+1<=y);omega
 ·exact h
 ·have:=NR (by omega:(0:Int)<=y+1) (by omega:y+1<=x);omega
theorem FO(n:Int)(h0:0<=n)(h:n<85070591730234615865843651857942052864):0<=isq n/\isq n*isq n<=n/\n<(isq n+1)*(isq n+1):=
 IR n 63 0 (by omega) (by omega) (by show n<(0+9223372036854775808)*(0+9223372036854775808);omega)
theorem Aam(n:Int)(h0:0<=n)(h:n<85070591730234615865843651857942052864):0<=isq n/\isq n<=18446744073709551615:=by
 have:=FO n h0 h
 refine⟨this.1,?_⟩
 by_cases c:isq n<=18446744073709551615
 ·exact c
 ·have h2:=NR (by decide:(0:Int)<=18446744073709551616) (by omega:18446744073709551616<=isq n)
  omega
theorem Aon(r:Int)(j:Nat)(h0:0<=r)(h:r % 2^(j+1)=0)(hr:r<=9223372036854775807)(hj:j<63):bits .or .u64 r (2^j)=r+2^j:=by
 obtain⟨x,rfl⟩:=Int.eq_ofNat_of_zero_le h0
 have e:(2:Int)^j=((2^j:Nat):Int):=by simp
 have hb:2^j<2^63:=Nat.pow_lt_pow_right (by decide) hj
 have hx:x % 2^(j+1)=0:=by
  have e2:(2:Int)^(j+1)=((2^(j+1):Nat):Int):=by simp
  rw[e2]at h
  exact_mod_cast h
 rw[e,u64_or _ _ (by omega) (by omega) (by omega) (by omega)]
 simp only[Int.toNat_natCast]
 rw[nat_join (j+1) _ _ hx (Nat.pow_lt_pow_right (by decide) (by omega))]
 omega
theorem NS(r:Int)(j:Nat)(h:r % 2^(j+1)=0):r % 2^j=0/\(r+2^j) % 2^j=0:=by
 have h1:(2:Int)^j∣2^(j+1):=⟨2,by rw[Int.pow_succ]⟩
 have h2:(2:Int)^j∣r:=Int.dvd_trans h1 (Int.dvd_of_emod_eq_zero h)
 exact⟨Int.emod_eq_zero_of_dvd h2,Int.emod_eq_zero_of_dvd (Int.dvd_add h2 (Int.dvd_refl _))⟩
def bitAt(j:Nat):Int:=match j with |0=>0 |j+1=>2^j
theorem RJ(j:Nat):bitAt (j+1) / 2=bitAt j:=by
 cases j with
 |zero=>rfl
 |succ k=>show(2:Int)^(k+1) / 2=2^k;rw[Int.pow_succ];omega
theorem Aan(j:Nat)(h:j<=63):0<=bitAt j/\bitAt j<=4611686018427387904:=by
 cases j with
 |zero=>exact⟨by decide,by decide⟩
 |succ k=>
  have h3:(2:Nat)^k<=2^62:=Nat.pow_le_pow_right (by decide) (by omega)
  have h4:(2:Int)^k<=2^62:=by exact_mod_cast h3
  exact⟨Int.le_of_lt (B4 k),h4⟩
theorem Aij(r:Int)(j:Nat)(h:r+2^(j+1)<=9223372036854775808):r+2^j+2^j<=9223372036854775808:=by
 rw[Int.pow_succ]at h;omega
structure Wd(c:Nat)(n:Int)(w:World):Prop where
 hi:w.cell? ⟨c,0,none⟩=some (.int .u64 (hi64 n))
 lo:w.cell? ⟨c,1,none⟩=some (.int .u64 (lo64 n))
 fh:w.frozen? ⟨c,0,none⟩=false
 fl:w.frozen? ⟨c,1,none⟩=false
 lies:c<w.heap.size
theorem Wd.below{c:Nat}{n:Int}{w w':World}(h:Wd c n w)(hb:Below w.heap.size w w'):Wd c n w':=
 ⟨(hb.cell (p:=⟨c,0,none⟩) h.lies).trans h.hi,(hb.cell (p:=⟨c,1,none⟩) h.lies).trans h.lo,(hb.frozen (p:=⟨c,0,none⟩) h.lies).trans h.fh,(hb.frozen (p:=⟨c,1,none⟩) h.lies).trans h.fl,Nat.lt_of_lt_of_le h.lies hb.size⟩
theorem Wd.put{c:Nat}{n:Int}{w:World}(h:Wd c n w)(m:Int):Wd c m ((w.setCell ⟨c,0,none⟩ (.int .u64 (hi64 m))).setCell ⟨c,1,none⟩ (.int .u64 (lo64 m))):=by
 have h1:=World.cell?_setCell_same w ⟨c,0,none⟩ (.int .u64 (hi64 m)) h.hi
 have h2:(w.setCell ⟨c,0,none⟩ (.int .u64 (hi64 m))).cell? ⟨c,1,none⟩=some (.int .u64 (lo64 n)):=by rw[World.cell?_setCell_other _ _ _ _ (by simp)];exact h.lo
 refine⟨?_,World.cell?_setCell_same _ _ _ h2,?_,?_,?_⟩
 ·rw[World.cell?_setCell_other _ _ _ _ (by simp)];exact h1
 ·simp only[World.frozen?_setCell];exact h.fh
 ·simp only[World.frozen?_setCell];exact h.fl
 ·simp only[World.size_setCell];exact h.lies
theorem Wd.far{c d:Nat}{n:Int}{w:World}(h:Wd c n w)(hd:d≠c)(u v:Value):Wd c n ((w.setCell ⟨d,0,none⟩ u).setCell ⟨d,1,none⟩ v):=by
 refine⟨?_,?_,?_,?_,?_⟩
 ·rw[World.cell?_setCell_other _ _ _ _ (fun e=>hd (congrArg Addr.block e)),World.cell?_setCell_other _ _ _ _ (fun e=>hd (congrArg Addr.block e))];exact h.hi
 ·rw[World.cell?_setCell_other _ _ _ _ (fun e=>hd (congrArg Addr.block e)),World.cell?_setCell_other _ _ _ _ (fun e=>hd (congrArg Addr.block e))];exact h.lo
 ·simp only[World.frozen?_setCell];exact h.fh
 ·simp only[World.frozen?_setCell];exact h.fl
 ·simp only[World.size_setCell];exact h.lies
theorem Kt(x:Int)(h0:0<=x)(h1:x<=18446744073709551615):hi64 x=0/\lo64 x=x:=by unfold hi64 lo64;omega
theorem Aao(s t y p:Int)(e:s+t*y=p)(hs:0<=s)(ht:0<=t)(hy:1<=y):t<=p/\s+t<=p:=by
 have h:=Int.mul_le_mul_of_nonneg_left hy ht
 omega
theorem Xu(s t y p:Int)(e:s+t*y=p)(h:y % 2=1):s+t+(t+t)*(y / 2)=p:=by
 have:y=2*(y / 2)+1:=by omega
 rw[this]at e
 have e2:y / 2=(2*(y / 2)+1) / 2:=by omega
 generalize y / 2=k at *
 grind
theorem RL(s t y p:Int)(e:s+t*y=p)(h:y % 2=0):s+(t+t)*(y / 2)=p:=by
 have:y=2*(y / 2):=by omega
 rw[this]at e
 have e2:y / 2=2*(y / 2) / 2:=by omega
 generalize y / 2=k at *
 grind
theorem Aap(x y:Int)(hx:0<=x/\x<=9223372036854775808)(hy:0<=y/\y<=9223372036854775808):0<=x*y/\x*y<=85070591730234615865843651857942052864:=by
 refine⟨Int.mul_nonneg hx.1 hy.1,?_⟩
 have:=Int.mul_le_mul hx.2 hy.2 hy.1 (by omega:(0:Int)<=9223372036854775808)
 omega
theorem RN(n d:Int)(hd:1<=d)(h:n / d<=4611686018427387904):hi64 n<d:=by
 have e:=Ie n
 have b:=BS n
 have h2:n<(n / d+1)*d:=Int.lt_ediv_add_one_mul_self n (by omega)
 have h3:(n / d+1)*d<=4611686018427387905*d:=Int.mul_le_mul_of_nonneg_right (by omega) (by omega)
 omega
theorem Ku(n d:Int)(hd:1<=d):(d-n % d<=n % d->rnd n d=n / d+1)/\(n % d<d-n % d->rnd n d=n / d):=by
 have e:=Int.mul_ediv_add_emod n d
 have r0:0<=n % d:=Int.emod_nonneg n (by omega)
 have r1:n % d<d:=Int.emod_lt_of_pos n (by omega)
 unfold rnd
 generalize n / d=q at *
 generalize n % d=r at *
 refine⟨fun c=>?_,fun c=>?_⟩
 ·have e2:n+d / 2=(r+d / 2-d)+d*(q+1):=by grind
  rw[e2,Int.add_mul_ediv_left _ _ (by omega),Int.ediv_eq_zero_of_lt (by omega) (by omega)]
  omega
 ·have e2:n+d / 2=(r+d / 2)+d*q:=by grind
  rw[e2,Int.add_mul_ediv_left _ _ (by omega),Int.ediv_eq_zero_of_lt (by omega) (by omega)]
  omega
theorem Aik{q:Int}(h:q=0):sz q=0:=by rw[h];rfl
theorem Ail{n d:Int}(hd:1<=d)(h:n / d<=4611686018427387904):rnd n d<=18446744073709551615:=by
 have:=Ku n d hd
 by_cases c:d-n % d<=n % d
 ·rw[this.1 c];omega
 ·rw[this.2 (by omega)];omega
theorem Aaq{n d:Int}(minus:Bool)(hd:1<=d)(h:4611686018427387904<n / d):out (rnd n d) minus=(0,true):=by
 have:=Ku n d hd
 have h2:4611686018427387904<rnd n d:=by
  by_cases c:d-n % d<=n % d
  ·rw[this.1 c];omega
  ·rw[this.2 (by omega)];omega
 unfold out
 rw[<-Ig _ _ (by omega),decide_eq_true h2]
def NT(a p q:Int):Int×Bool:=if q=0 then(0,true)else out (rnd (sz a*sz p) (sz q)) ((decide (a<0) != decide (p<0)) != decide (q<0))
theorem Aim{a p q:Int}(c:q=0∨4611686018427387904<sz a*sz p / sz q):NT a p q=(0,true):=by
 unfold NT
 by_cases q0:q=0
 ·rw[if_pos q0]
 ·rw[if_neg q0]
  exact Aaq _ (RG (by simpa using q0)) (by rcases c with c |c;exact absurd c q0;exact c)
theorem Py(a p q:Int)(h:(q != 0)=true):NT a p q=out (rnd (sz a*sz p) (sz q)) ((decide (a<0) != decide (p<0)) != decide (q<0)):=by
 unfold NT
 rw[if_neg (by simpa using h)]
theorem Xv{bad:Bool}{a p q:Int}(c:tk bad [a,p,q]=true):Aw bad a p q=NT a p q:=by
 by_cases q0:q=0
 ·subst q0;rw[Ks];rfl
 ·rw[ER c (by simpa using q0),Py a p q (by simpa using q0)]
theorem Aar{n:Int}(h:numB n=true):gv n=(n,false):=by unfold gv;rw[h];rfl
theorem Aas(x:Int):sz x*sz x=x*x:=by
 unfold sz
 split
 ·rw[Int.neg_mul_neg]
 ·rfl
theorem CW{x:Int}(h:numB x=true):0<=x*x/\x*x<=21267647932558653966460912964485513216:=by
 rw[<-Aas x];exact Cr h h
theorem Aoo(w:World)(t:TypeId):Wd w.heap.size 0 (w.alloc (.cells #[.int .u64 0,.int .u64 0] t)):=
 ⟨by simp[show hi64 0=0 by rfl],by simp[show lo64 0=0 by rfl],by simp,by simp,by simp⟩
theorem Ain(n:Int)(m:Bool)(h:(out n m).2=true):(out n m).1=0:=by
 have h2:4611686018427387904<n:=of_decide_eq_true h
 exact(Ig n m (by omega)).symm
theorem Aat(n:Int)(m:Bool)(h:(out n m).2=false):n<=4611686018427387904/\(out n m).1=if m then-n else n:=by
 have h2:¬4611686018427387904<n:=of_decide_eq_false h
 exact⟨by omega,(If n m (by omega)).symm⟩
theorem Fe{n:Int}(h:-4611686018427387904<=n/\n<=4611686018427387904):numB n=true:=by unfold numB;simp;exact h
theorem Aau(n d:Int)(hd:1<=d):rnd n d*d<=n+d / 2/\n<=rnd n d*d+d / 2:=by
 unfold rnd
 have e:=Int.mul_ediv_add_emod (n+d / 2) d
 have r0:0<=(n+d / 2) % d:=Int.emod_nonneg _ (by omega)
 have r1:(n+d / 2) % d<d:=Int.emod_lt_of_pos _ (by omega)
 rw[Int.mul_comm d]at e
 omega
end Go.Proofs.YtgmpfeaanjnhaaaGreatDoor
namespace Go.Proofs.YtgmpfeaanjnhaaaGreatDoor
theorem zA{α:Type}{l:List α}{i:Nat}{a:α}:l.toArray.setIfInBounds i a=(l.set i a).toArray:=by simp
theorem zB{α:Type}{x:α}{xs:List α}{a:α}:(x::xs).set 0 a=a::xs:=rfl
theorem zC{α:Type}{x:α}{xs:List α}{i:Nat}{a:α}:(x::xs).set (i+1) a=x::xs.set i a:=rfl
theorem zD{p:Prop} [d:Decidable p] (h:decide p=true):p:=of_decide_eq_true h
theorem zL{a b:Nat}(h:a<b):a≠b:=by omega
theorem zG{a b:Nat}(h:b<a):a≠b:=by omega
open Go.RowKit
theorem ET{a b:Bool}(h:a=b):Ending.returned (.bool a)=.returned (.bool b):=by rw[h]
theorem B6{k:IntKind}{a b:Int}(h:a=b):Ending.returned (.int k a)=.returned (.int k b):=by rw[h]
set_option maxHeartbeats 400000 in
theorem D4(a:Int)(w:World):
    Calls Tryz.prog 265 #[.int .i64 a] w fun e w'=>e=.returned (.bool (numB a))/\w'=w:=by
 go_enter Tryz.func265,Tryz.ntmps265
 go_wp2
 all_goals
  go_ret
  exact⟨ET (by unfold numB;simp;try omega),rfl⟩
theorem Kv{k l:IntKind}{a b c d:Int}(h:a=c)(h':b=d):Ending.returned (.agg #[.int k a,.int l b])=.returned (.agg #[.int k c,.int l d]):=by rw[h,h']
set_option maxHeartbeats 400000 in
theorem DF(a b:Int)(w:World)(h0:0<=a)(h1:a<=18446744073709551615)(k0:0<=b)(k1:b<=18446744073709551615):
    Calls Tryz.prog 203 #[.int .u64 a,.int .u64 b] w fun e w'=>e=.returned (.agg #[.int .u64 (hi64 (a*b)),.int .u64 (lo64 (a*b))])/\Below w.heap.size w w':=by
 have HP:Hid _:=RH a b h0 h1 k0 k1
 go_enter Tryz.func203,Tryz.ntmps203
 go_wp2
 go_returns
 exact⟨Kv HP.out.1 HP.out.2,by go_grown⟩
set_option maxHeartbeats 400000 in
theorem Pz(a b c d:Int)(w:World)(h1:0<=a/\a<=18446744073709551615)(h2:0<=b/\b<=18446744073709551615)(h3:0<=c/\c<=18446744073709551615)(h4:0<=d/\d<=18446744073709551615)
    (hs:a*18446744073709551616+b+(c*18446744073709551616+d)<=340282366920938463463374607431768211455):
    Calls Tryz.prog 226 #[.agg #[.int .u64 a,.int .u64 b],.agg #[.int .u64 c,.int .u64 d]] w fun e w'=>e=.returned (.agg #[.int .u64 (hi64 (a*18446744073709551616+b+(c*18446744073709551616+d))),.int .u64 (lo64 (a*18446744073709551616+b+(c*18446744073709551616+d)))])/\Below w.heap.size w w':=by
 have HS:Hid _:=hs
 clear hs
 go_enter Tryz.func226,Tryz.ntmps226
 go_wp2
 all_goals
  rename_i hq
  go_returns
  refine⟨Kv ?_ ?_,by go_grown⟩<;>(have hs:=HS.out;rw[IntKind.wrap_u64]at hq;simp only[IntKind.wrap_u64];first |unfold hi64 |unfold lo64);all_goals omega
theorem PC(n m:Int)(w:World)(h0:0<=n)(k0:0<=m)(hs:n+m<=340282366920938463463374607431768211455):
    Calls Tryz.prog 226 #[.agg #[.int .u64 (hi64 n),.int .u64 (lo64 n)],.agg #[.int .u64 (hi64 m),.int .u64 (lo64 m)]] w fun e w'=>e=.returned (.agg #[.int .u64 (hi64 (n+m)),.int .u64 (lo64 (n+m))])/\Below w.heap.size w w':=by
 have e1:=Ie n
 have e2:=Ie m
 have:=Pz (hi64 n) (lo64 n) (hi64 m) (lo64 m) w (DZ n h0 (by omega)) (BS n) (DZ m k0 (by omega)) (BS m) (by omega)
 rw[e1,e2]at this
 exact this
theorem PD(n m:Int)(w:World)(h0:0<=n)(k0:0<=m)(k1:m<=18446744073709551615)(hs:n+m<=340282366920938463463374607431768211455):
    Calls Tryz.prog 226 #[.agg #[.int .u64 (hi64 n),.int .u64 (lo64 n)],.agg #[.int .u64 0,.int .u64 m]] w fun e w'=>e=.returned (.agg #[.int .u64 (hi64 (n+m)),.int .u64 (lo64 (n+m))])/\Below w.heap.size w w':=by
 have e1:=Ie n
 have:=Pz (hi64 n) (lo64 n) 0 m w (DZ n h0 (by omega)) (BS n) (by omega) (by omega) (by omega)
 rw[e1,show(0:Int)*18446744073709551616+m=m by omega]at this
 exact this
theorem VB{W w1:World}(hb:Below W.heap.size W w1):(∀b o,b<W.heap.size->w1.cell? ⟨b,o,none⟩=W.cell? ⟨b,o,none⟩)/\(∀b o,b<W.heap.size->w1.frozen? ⟨b,o,none⟩=W.frozen? ⟨b,o,none⟩):=
 ⟨fun b o h=>hb.cell (p:=⟨b,o,none⟩) h,fun b o h=>hb.frozen (p:=⟨b,o,none⟩) h⟩
set_option maxHeartbeats 400000 in
theorem RO(n m:Int)(w:World):
    Calls Tryz.prog 275 #[.agg #[.int .u64 (hi64 n),.int .u64 (lo64 n)],.agg #[.int .u64 (hi64 m),.int .u64 (lo64 m)]] w fun e w'=>e=.returned (.bool (decide (m<n)))/\Below w.heap.size w w':=by
 have b2:=BS n
 have b4:=BS m
 have e1:=Ie n
 have e2:=Ie m
 by_cases c1:hi64 m<hi64 n
 ·have HF:Hid (true=decide (m<n)):=by show _=_;simp;omega
  clear b2 b4 e1 e2
  go_enter Tryz.func275,Tryz.ntmps275
  go_wp2
  go_ret
  exact⟨ET (by simpa using HF.out),by go_grown⟩
 ·by_cases c2:hi64 n=hi64 m
  ·have HF:Hid (decide (lo64 m<lo64 n)=decide (m<n)):=by show _=_;simp;omega
   have c3:(hi64 n==hi64 m)=true:=by simpa using c2
   clear b2 b4 e1 e2 c2
   go_enter Tryz.func275,Tryz.ntmps275
   go_wp2
   go_ret
   exact⟨ET HF.out,by go_grown⟩
  ·have HF:Hid (false=decide (m<n)):=by show _=_;simp;omega
   have c3:(hi64 n==hi64 m)=false:=by simpa using c2
   clear b2 b4 e1 e2 c2
   go_enter Tryz.func275,Tryz.ntmps275
   go_wp2
   go_ret
   exact⟨ET HF.out,by go_grown⟩
set_option maxHeartbeats 400000 in
theorem DG(a:Int)(w:World)(h:numB a=true):
    Calls Tryz.prog 204 #[.int .i64 a] w fun e w'=>e=.returned (.int .u64 (sz a))/\w'=w:=by
 have hb:=D3 h
 go_enter Tryz.func204,Tryz.ntmps204
 go_wp2
 all_goals
  go_ret
  exact⟨B6 (by unfold sz;split<;>omega),rfl⟩
set_option maxHeartbeats 400000 in
theorem PE(n:Int)(w:World)(h0:0<=n)(hs:n<=85070591730234615865843651857942052864):
    Calls Tryz.prog 206 #[.agg #[.int .u64 (hi64 n),.int .u64 (lo64 n)],.int .u64 40] w fun e w'=>e=.returned (.int .u64 (Eh ((n+549755813888) / 1099511627776)))/\Below w.heap.size w w':=by
 have HB:Hid _:=DZ (n+549755813888) (by omega) (by omega)
 have HL:Hid _:=BS (n+549755813888)
 have HE:Hid _:=Ie (n+549755813888)
 go_enter Tryz.func206,Tryz.ntmps206
 go_wp2_with fail
 refine(PD n 549755813888 _ h0 (by omega) (by omega) (by omega)).mono ?_
 rintro e w1 ⟨rfl,hb⟩
 obtain⟨hc,hf⟩:=VB hb
 have hz:w.heap.size<w1.heap.size:=by have:=hb.size;simp at this;omega
 have HB':Hid _:=hb
 clear hb
 generalize hi64 (n+549755813888)=x at *
 generalize lo64 (n+549755813888)=y at *
 have b1:=HB.out
 have b2:=HL.out
 have hw:∀u v,Below w.heap.size w ((w1.setCell ⟨w.heap.size,0,none⟩ u).setCell ⟨w.heap.size,1,none⟩ v):=fun u v=>((((Below.refl _ _).alloc (Nat.le_refl _) _).trans (HB'.out.mono (by simp))).setCell (Nat.le_refl _) _).setCell (Nat.le_refl _) _
 have HW:Hid _:=hw
 clear hw
 by_cases c:x / 1099511627776=0
 ·have c':(x / 1099511627776 != 0)=false:=by simp[c]
  have HQ:Hid _:=Mo n x y HE.out b1 b2 c
  clear c
  go_wp2
  go_ret
  exact⟨B6 HQ.out,HW.out _ _⟩
 ·have c':(x / 1099511627776 != 0)=true:=by simp[c]
  have HQ:Hid _:=NO n x y HE.out b1 b2 c
  clear c
  go_wp2
  go_ret
  exact⟨B6 HQ.out,HW.out _ _⟩
structure Fl(b:Nat)(bad:Bool)(w:World):Prop where
 cell:w.cell? ⟨b,0,none⟩=some (.bool bad)
 free:w.frozen? ⟨b,0,none⟩=false
 lies:b<w.heap.size
structure Aa(b:Nat)(w w':World):Prop where
 os:w'.os=w.os
 tape:w'.tape=w.tape
 output:w'.output=w.output
 size:w.heap.size<=w'.heap.size
 block:∀k,k<w.heap.size->k≠b->w'.heap[k]? =w.heap[k]?
theorem Aa.refl(b:Nat)(w:World):Aa b w w:=⟨rfl,rfl,rfl,Nat.le_refl _,fun _ _ _=>rfl⟩
theorem Aa.trans{b:Nat}{x y z:World}(h:Aa b x y)(k:Aa b y z):Aa b x z:=
 ⟨k.os.trans h.os,k.tape.trans h.tape,k.output.trans h.output,Nat.le_trans h.size k.size,fun i hi hb=>(k.block i (Nat.lt_of_lt_of_le hi h.size) hb).trans (h.block i hi hb)⟩
theorem Aa.of_below{b:Nat}{w w':World}(h:Below w.heap.size w w'):Aa b w w':=⟨h.os,h.tape,h.output,h.size,fun k hk _=>h.block k hk⟩
theorem Aa.setCell{b:Nat}{x w:World}(h:Aa b x w)(u:Value):Aa b x (w.setCell ⟨b,0,none⟩ u):=
 h.trans ⟨rfl,rfl,rfl,by simp[World.setCell],fun k _ hb=>Below.heap_setCell _ _ _ _ hb⟩
theorem Aa.below{b B:Nat}{x w w':World}(h:Aa b w w')(hx:Below B x w)(hb:B<=b)(hB:B<=w.heap.size):Below B x w':=
 hx.trans ⟨h.os,h.tape,h.output,h.size,fun k hk=>h.block k (by omega) (by omega)⟩
theorem Aa.cell{b:Nat}{w w':World}(h:Aa b w w'){p:Addr}(hp:p.block<w.heap.size)(hb:p.block≠b):w'.cell? p=w.cell? p:=World.cell?_of_block (w:=w) (h.block p.block hp hb)
theorem Aa.frozen{b:Nat}{w w':World}(h:Aa b w w'){p:Addr}(hp:p.block<w.heap.size)(hb:p.block≠b):w'.frozen? p=w.frozen? p:=World.frozen?_of_block (w:=w) (h.block p.block hp hb)
theorem Fl.below{b:Nat}{bad:Bool}{w w':World}(h:Fl b bad w)(hb:Below w.heap.size w w'):Fl b bad w':=
 ⟨(hb.cell (p:=⟨b,0,none⟩) h.lies).trans h.cell,(hb.frozen (p:=⟨b,0,none⟩) h.lies).trans h.free,Nat.lt_of_lt_of_le h.lies hb.size⟩
theorem Fl.kept{b c:Nat}{bad:Bool}{w w':World}(h:Fl b bad w)(hb:Aa c w w')(hc:b≠c):Fl b bad w':=
 ⟨(hb.cell (p:=⟨b,0,none⟩) h.lies hc).trans h.cell,(hb.frozen (p:=⟨b,0,none⟩) h.lies hc).trans h.free,Nat.lt_of_lt_of_le h.lies hb.size⟩
theorem Fl.set{b:Nat}{bad:Bool}{w:World}(h:Fl b bad w)(v:Bool):Fl b v (w.setCell ⟨b,0,none⟩ (.bool v)):=by
 refine⟨World.cell?_setCell_same _ _ _ h.cell,?_,?_⟩
 ·rw[World.frozen?_setCell];exact h.free
 ·rw[World.size_setCell];exact h.lies
set_option maxHeartbeats 400000 in
theorem Bm(b:Nat)(bad:Bool)(w:World)(hw:Fl b bad w):
    Calls Tryz.prog 139 #[.pointer (some ⟨b,0,none⟩)] w fun e w'=>e=.returned (.tuple #[])/\Fl b true w'/\Aa b w w':=by
 have HW:Hid _:=hw
 obtain⟨hc,hf,hl⟩:=hw
 go_enter Tryz.func139,Tryz.ntmps139
 go_wp2
 go_end0
 exact⟨rfl,HW.out.set true,(Aa.refl _ _).setCell _⟩
set_option maxHeartbeats 400000 in
theorem Ff(b:Nat)(n:Int)(minus:Bool)(w:World)(hw:Fl b false w)(h0:0<=n)(h1:n<=18446744073709551615):
    Calls Tryz.prog 205 #[.pointer (some ⟨b,0,none⟩),.int .u64 n,.bool minus] w fun e w'=>e=.returned (.int .i64 (out n minus).1)/\Fl b (out n minus).2 w'/\Aa b w w':=by
 show Calls Tryz.prog 205 _ _ fun e w'=>e=.returned (.int .i64 (Kn n minus))/\Fl b (decide (4611686018427387904<n)) w'/\Aa b w w'
 by_cases c:n<=4611686018427387904
 ·have HS:Hid _:=If n minus c
  have HC:Hid (decide (4611686018427387904<n)=false):=by show _=_;simp;omega
  cases minus
  all_goals
   go_enter Tryz.func205,Tryz.ntmps205
   go_wp2
   go_ret
   rw[HC.out]
   exact⟨B6 HS.out,hw,Aa.refl _ _⟩
 ·have HS:Hid _:=Ig n minus c
  have HC:Hid (decide (4611686018427387904<n)=true):=by show _=_;simp;omega
  go_enter Tryz.func205,Tryz.ntmps205
  go_wp2_with fail
  refine(Bm b false _ hw).mono ?_
  rintro e w1 ⟨rfl,h2,h3⟩
  go_wp2
  go_ret
  rw[HC.out]
  exact⟨B6 HS.out,h2,h3⟩
set_option maxHeartbeats 400000 in
theorem MH(b:Nat)(n:Int)(w:World)(hw:Fl b false w):
    Calls Tryz.prog 214 #[.pointer (some ⟨b,0,none⟩),.int .i64 n] w fun e w'=>e=.returned (.int .i64 (gv n).1)/\Fl b (gv n).2 w'/\Aa b w w':=by
 show Calls Tryz.prog 214 _ _ fun e w'=>e=.returned (.int .i64 (if numB n then n else 0))/\Fl b (!numB n) w'/\Aa b w w'
 cases c:numB n
 ·go_enter Tryz.func214,Tryz.ntmps214
  go_wp2_with fail
  refine(D4 _ _).mono ?_
  rintro e w1 ⟨rfl,rfl⟩
  rw[c]
  clear c
  go_wp2_with fail
  refine(Bm b false _ hw).mono ?_
  rintro e w1 ⟨rfl,h2,h3⟩
  go_wp2
  go_ret
  exact⟨rfl,h2,h3⟩
 ·go_enter Tryz.func214,Tryz.ntmps214
  go_wp2_with fail
  refine(D4 _ _).mono ?_
  rintro e w1 ⟨rfl,rfl⟩
  rw[c]
  clear c
  go_wp2
  go_ret
  exact⟨rfl,hw,Aa.refl _ _⟩
def Aav(s:Nat)(zs:List Int)(w:World):Prop:=∀i,(h:i<zs.length)->w.cell? ⟨s,i,none⟩=some (.int .i64 zs[i])
theorem GL{zs:List Int}{k:Nat}(h:k<zs.length):(zs.take (k+1)).all numB=((zs.take k).all numB&&numB zs[k]):=by
 rw[List.take_succ_eq_append_getElem h,List.all_append];simp only[List.all_cons,List.all_nil,Bool.and_true]
theorem RP{zs:List Int}{k:Nat}(h:k<zs.length)(c:numB zs[k]=false):zs.all numB=false:=by
 rw[Bool.eq_false_iff]
 intro ha
 rw[List.all_eq_true]at ha
 have:=ha _ (List.getElem_mem h)
 rw[c]at this
 cases this
set_option maxHeartbeats 400000 in
theorem IS(b s:Nat)(bad:Bool)(zs:List Int)(w:World)(hw:Fl b bad w)(hz:Aav s zs w)(hlen:zs.length<=3):
    Calls Tryz.prog 202 #[.pointer (some ⟨b,0,none⟩),.slice (some ⟨s,0,none⟩) zs.length zs.length] w fun e w'=>e=.returned (.bool (tk bad zs))/\Fl b (!tk bad zs) w'/\Aa b w w':=by
 rw[<-Aae bad zs]
 unfold tk
 have HW:Hid _:=hw
 have HZ:Hid _:=hz
 obtain⟨hc,hf,hl⟩:=hw
 clear hz
 cases bad
 ·go_enter Tryz.func202,Tryz.ntmps202
  go_wp2
  go_loop [17] (fun v=>∃k:Nat,k<=zs.length/\v=.int .i64 k/\Hid ((zs.take k).all numB=true)) (fun v=>zs.length-(intOf v).toNat)
  case atStart=>exact⟨0,Nat.zero_le _,rfl,by show _=_;simp⟩
  case round=>
   obtain⟨k,hk,rfl,HA⟩:=hrel
   by_cases hlt:k<zs.length
   ·have hcell:=HZ.out k hlt
    have HS:Hid _:=GL hlt
    have HN:numB zs[k]=false->zs.all numB=false:=RP hlt
    have HN':Hid _:=HN
    clear HN
    generalize zs[k]=z at *
    cases c:numB z
    ·have HC:Hid _:=HN'.out c
     have HC2:Hid _:=c
     clear c
     go_wp2_with fail
     refine(D4 _ _).mono ?_
     rintro e w1 ⟨rfl,rfl⟩
     rw[HC2.out]
     go_wp2_with fail
     refine(Bm b false _ HW.out).mono ?_
     rintro e w1 ⟨rfl,h2,h3⟩
     go_wp2
     go_ret
     rw[HC.out]
     exact⟨rfl,h2,h3⟩
    ·have HC2:Hid _:=c
     clear c
     go_wp2_with fail
     refine(D4 _ _).mono ?_
     rintro e w1 ⟨rfl,rfl⟩
     rw[HC2.out]
     go_wp2
     go_round
     case rel=>exact⟨k+1,by omega,by go_num,by show _=_;rw[HS.out,HA.out,HC2.out];rfl⟩
     case measure=>simp[intOf];omega
   ·go_wp2
    go_ret
    have ha:zs.all numB=true:=by have:=HA.out;rwa [List.take_of_length_le (by omega)]at this
    rw[ha]
    exact⟨rfl,HW.out,Aa.refl _ _⟩
 ·go_enter Tryz.func202,Tryz.ntmps202
  go_wp2
  go_ret
  exact⟨rfl,HW.out,Aa.refl _ _⟩
theorem PF(x y:Int)(w:World):Aav w.heap.size [x,y] (w.alloc (.cells #[.int .i64 x,.int .i64 y] 2)):=by
 intro i h
 rw[World.cell?_alloc_new]
 match i,h with
 |0,_=>rfl
 |1,_=>rfl
theorem Aaw(x:Int)(w:World):Aav w.heap.size [x] (w.alloc (.cells #[.int .i64 x] 2)):=by
 intro i h
 rw[World.cell?_alloc_new]
 match i,h with
 |0,_=>rfl
theorem RQ(x y z:Int)(w:World):Aav w.heap.size [x,y,z] (w.alloc (.cells #[.int .i64 x,.int .i64 y,.int .i64 z] 2)):=by
 intro i h
 rw[World.cell?_alloc_new]
 match i,h with
 |0,_=>rfl
 |1,_=>rfl
 |2,_=>rfl
theorem Aa.alloc(b:Nat)(w:World)(o:Obj):Aa b w (w.alloc o):=Aa.of_below ((Below.refl _ _).alloc (Nat.le_refl _) o)
theorem Fl.alloc{b:Nat}{bad:Bool}{w:World}(h:Fl b bad w)(o:Obj):Fl b bad (w.alloc o):=h.below ((Below.refl _ _).alloc (Nat.le_refl _) o)
theorem Aop(b:Nat)(bad:Bool)(x:Int)(w:World)(hw:Fl b bad w):
    Calls Tryz.prog 202 #[.pointer (some ⟨b,0,none⟩),.slice (some ⟨w.heap.size,0,none⟩) 1 1] (w.alloc (.cells #[.int .i64 x] 2)) fun e w'=>e=.returned (.bool (tk bad [x]))/\Fl b (!tk bad [x]) w'/\Aa b w w':=
 (IS b w.heap.size bad [x] _ (hw.alloc _) (Aaw x w) (by simp)).mono fun _ _ h=>⟨h.1,h.2.1,(Aa.alloc b w _).trans h.2.2⟩
theorem NU(b:Nat)(bad:Bool)(x y:Int)(w:World)(hw:Fl b bad w):
    Calls Tryz.prog 202 #[.pointer (some ⟨b,0,none⟩),.slice (some ⟨w.heap.size,0,none⟩) 2 2] (w.alloc (.cells #[.int .i64 x,.int .i64 y] 2)) fun e w'=>e=.returned (.bool (tk bad [x,y]))/\Fl b (!tk bad [x,y]) w'/\Aa b w w':=
 (IS b w.heap.size bad [x,y] _ (hw.alloc _) (PF x y w) (by simp)).mono fun _ _ h=>⟨h.1,h.2.1,(Aa.alloc b w _).trans h.2.2⟩
theorem Aax(b:Nat)(bad:Bool)(x y z:Int)(w:World)(hw:Fl b bad w):
    Calls Tryz.prog 202 #[.pointer (some ⟨b,0,none⟩),.slice (some ⟨w.heap.size,0,none⟩) 3 3] (w.alloc (.cells #[.int .i64 x,.int .i64 y,.int .i64 z] 2)) fun e w'=>e=.returned (.bool (tk bad [x,y,z]))/\Fl b (!tk bad [x,y,z]) w'/\Aa b w w':=
 (IS b w.heap.size bad [x,y,z] _ (hw.alloc _) (RQ x y z w) (by simp)).mono fun _ _ h=>⟨h.1,h.2.1,(Aa.alloc b w _).trans h.2.2⟩
theorem Bw{P:Program}{md:Region.Mode}{l:List Oper}{Q:Exit->Act->World->Prop}{S:World->Prop}{i:Nat}{oi:Oper}{v:Value}{fuel:Nat}{listed:Array Bool}{a:Act}{w:World}(hi:l[i]? =some oi)
    (hs:Region.noSelect l.toArray=true) (hf:Region.free md l.toArray listed i=true) (hr:(Region.ready md l.toArray listed).contains i=true)
    (hQ:∀c a w,Q (.panic c) (a.put oi.dst v) w->Q (.panic c) a w) (hy:YieldsIf P l.toArray S oi v a) (hS:S w)
    (h:wpAnyH P md l.toArray Q S fuel (listed.setIfInBounds i true) (a.put oi.dst v) w):wpAnyH P md l.toArray Q S (fuel+1) listed a w:=
 wpAnyH_take (ops:=l.toArray) (by simpa using hi) hs hf hr hQ hy hS h
theorem zT{P:Program}{md:Region.Mode}{l:List Oper}{Q:Exit->Act->World->Prop}{S:World->Prop}(i:Nat){oi:Oper}{v:Value}{fuel:Nat}{listed:Array Bool}{a:Act}{w:World}(hi:l[i]? =some oi)
    (hb:(Region.noSelect l.toArray&&(Region.free md l.toArray listed i&&(Region.ready md l.toArray listed).contains i))=true)
    (hQ:∀c a w,Q (.panic c) (a.put oi.dst v) w->Q (.panic c) a w) (hw:Region.wanted oi (yielded l.toArray a.tmps)=true) (hy:∀w,S w->(execOp a.eval oi).run P w=.ok (.value v) w) (hS:S w)
    (h:wpAnyH P md l.toArray Q S fuel (listed.setIfInBounds i true) (a.put oi.dst v) w):wpAnyH P md l.toArray Q S (fuel+1) listed a w:=by
 rw[Bool.and_eq_true,Bool.and_eq_true]at hb
 exact Bw hi hb.1 hb.2.1 hb.2.2 hQ (Or.inl ⟨hw,hy⟩) hS h
theorem Aio{P:Program}{md:Region.Mode}{l:List Oper}{Q:Exit->Act->World->Prop}{S:World->Prop}{i:Nat}{o:Oper}{fuel:Nat}{listed:Array Bool}{a:Act}{w:World}(hr:Region.ready md l.toArray listed=[i])(hi:l[i]? =some o)
    (h:∀K':Act->World->Prop,Shut (∀a w,S w->(S w->wpAnyH P md l.toArray Q S fuel (listed.setIfInBounds i true) a w)->K' a w)->if Region.wanted o (yielded l.toArray a.tmps)=true then Oper.wp P o a w K' Q else K' (a.put o.dst undef) w):
    wpAnyH P md l.toArray Q S (fuel+1) listed a w:=
 wpAnyH_ready hr (by simp) (AllReadyH.cons (by simpa using hi) h AllReadyH.nil)
theorem zK{P:Program}{md:Region.Mode}{l:List Oper}{Q:Exit->Act->World->Prop}{S:World->Prop}(i:Nat){o:Oper}{fuel:Nat}{listed:Array Bool}{a:Act}{w:World}(hr:Region.ready md l.toArray listed=[i])(hi:l[i]? =some o)
    (h:∀K':Act->World->Prop,Shut (∀a w,S w->(S w->wpAnyH P md l.toArray Q S fuel (listed.setIfInBounds i true) a w)->K' a w)->if Region.wanted o (yielded l.toArray a.tmps)=true then Oper.wp P o a w K' Q else K' (a.put o.dst undef) w):
    wpAnyH P md l.toArray Q S (fuel+1) listed a w:=Aio hr hi h
theorem Ij{P:Program}{md:Region.Mode}{l:List Oper}{Q:Exit->Act->World->Prop}{S:World->Prop}{i0 i1:Nat}{o0 o1:Oper}{fuel:Nat}{listed:Array Bool}{a:Act}{w:World}(hr:Region.ready md l.toArray listed=[i0,i1])(hi0:l[i0]? =some o0)(hi1:l[i1]? =some o1)
    (h0:∀K':Act->World->Prop,Shut (∀a w,S w->(S w->wpAnyH P md l.toArray Q S fuel (listed.setIfInBounds i0 true) a w)->K' a w)->if Region.wanted o0 (yielded l.toArray a.tmps)=true then Oper.wp P o0 a w K' Q else K' (a.put o0.dst undef) w)
    (h1:∀K':Act->World->Prop,Shut (∀a w,S w->(S w->wpAnyH P md l.toArray Q S fuel (listed.setIfInBounds i1 true) a w)->K' a w)->if Region.wanted o1 (yielded l.toArray a.tmps)=true then Oper.wp P o1 a w K' Q else K' (a.put o1.dst undef) w):
    wpAnyH P md l.toArray Q S (fuel+1) listed a w:=
 wpAnyH_ready hr (by simp) (AllReadyH.cons (by simpa using hi0) h0 (AllReadyH.cons (by simpa using hi1) h1 AllReadyH.nil))
theorem Aoq(w:World)(bad:Bool)(t:TypeId):Fl w.heap.size bad (w.alloc (.cells #[.bool bad] t)):=
 ⟨by simp,by simp,by simp⟩
theorem Anb(w:World)(n:Nat)(bad:Bool)(t:TypeId)(hn:n=w.heap.size):Fl n bad (w.alloc (.cells #[.bool bad] t)):=by
 subst hn;exact Aoq w bad t
theorem Aa.on{b:Nat}{x w w':World}(h:Aa b w w')(hx:Below x.heap.size x w)(hb:x.heap.size<=b):Below x.heap.size x w':=h.below hx hb hx.size
theorem Fl.drew{b:Nat}{bad:Bool}{w:World}(h:Fl b bad w):Fl b bad w.drew:=⟨h.cell,h.free,h.lies⟩
theorem Aa.drew{b:Nat}{x w:World}(h:Aa b x w):Aa b x w.drew:=⟨h.os,h.tape,h.output,h.size,h.block⟩
theorem Aa.al{b:Nat}{x w:World}(h:Aa b x w)(o:Obj):Aa b x (w.alloc o):=h.trans (Aa.alloc b w o)
theorem Aa.new{b:Nat}{x w:World}(h:Aa b x w)(q o:Nat)(hp:x.heap.size<=q)(u:Value):Aa b x (w.setCell ⟨q,o,none⟩ u):=
 ⟨h.os,h.tape,h.output,by rw[World.size_setCell];exact h.size,fun k hk hb=>(Below.heap_setCell _ _ _ _ (by show k≠q;omega)).trans (h.block k hk hb)⟩
theorem Fl.new{b:Nat}{bad:Bool}{w:World}(h:Fl b bad w)(q o:Nat)(hp:b≠q)(u:Value):Fl b bad (w.setCell ⟨q,o,none⟩ u):=
 ⟨(World.cell?_of_block (w:=w) (Below.heap_setCell _ _ _ _ hp)).trans h.cell,by rw[World.frozen?_setCell];exact h.free,by rw[World.size_setCell];exact h.lies⟩
theorem Al{x w:World}(h:Below x.heap.size x w)(q o:Nat)(hp:x.heap.size<=q)(u:Value):Below x.heap.size x (w.setCell ⟨q,o,none⟩ u):=
 ⟨h.os,h.tape,h.output,by rw[World.size_setCell];exact h.size,fun k hk=>(Below.heap_setCell _ _ _ _ (by show k≠q;omega)).trans (h.block k hk)⟩
theorem Ai{x w:World}(h:Below x.heap.size x w)(o:Obj):Below x.heap.size x (w.alloc o):=h.trans ((Below.refl _ _).alloc h.size o)
theorem Au{x w w':World}(h:Below x.heap.size x w)(k:Below w.heap.size w w'):Below x.heap.size x w':=h.trans (k.mono h.size)
structure Ap(k:Nat)(l:List Value)(w:World):Prop where
 c:∀i,(h:i<l.length)->w.cell? ⟨k,i,none⟩=some l[i]
 f:∀i,i<l.length->w.frozen? ⟨k,i,none⟩=false
 lies:k<w.heap.size
theorem Am(w:World)(n:Nat)(l:List Value)(t:TypeId)(hn:n=w.heap.size):Ap n l (w.alloc (.cells l.toArray t)):=by
 subst hn
 refine⟨fun i h=>?_,fun i h=>by simp,by simp⟩
 rw[World.cell?_alloc_new]
 simp[h]
theorem Ap.same{k:Nat}{l:List Value}{w w':World}(h:Ap k l w)(e:w'.heap[k]? =w.heap[k]?)(hs:w.heap.size<=w'.heap.size):Ap k l w':=
 ⟨fun i hi=>(World.cell?_of_block (w:=w) (a:=⟨k,i,none⟩) e).trans (h.c i hi),fun i hi=>(World.frozen?_of_block (w:=w) (a:=⟨k,i,none⟩) e).trans (h.f i hi),Nat.lt_of_lt_of_le h.lies hs⟩
theorem Ap.kept{k b:Nat}{l:List Value}{w w':World}(h:Ap k l w)(hb:Aa b w w')(hk:k≠b):Ap k l w':=h.same (hb.block k h.lies hk) hb.size
theorem Ap.below{k:Nat}{l:List Value}{w w':World}(h:Ap k l w)(hb:Below w.heap.size w w'):Ap k l w':=h.same (hb.block k h.lies) hb.size
theorem Ap.alloc{k:Nat}{l:List Value}{w:World}(h:Ap k l w)(o:Obj):Ap k l (w.alloc o):=h.below ((Below.refl _ _).alloc (Nat.le_refl _) o)
theorem Ap.drew{k:Nat}{l:List Value}{w:World}(h:Ap k l w):Ap k l w.drew:=⟨h.c,h.f,h.lies⟩
theorem Ap.new{k:Nat}{l:List Value}{w:World}(h:Ap k l w)(q o:Nat)(hp:k≠q)(u:Value):Ap k l (w.setCell ⟨q,o,none⟩ u):=
 h.same (Below.heap_setCell _ _ _ _ hp) (by rw[World.size_setCell];exact Nat.le_refl _)
theorem Ap.put{k:Nat}{l:List Value}{w:World}(h:Ap k l w)(i:Nat)(hi:i<l.length)(u:Value)(l':List Value)(hl:l'=l.set i u):Ap k l' (w.setCell ⟨k,i,none⟩ u):=by
 subst hl
 refine⟨fun j hj=>?_,fun j hj=>?_,by rw[World.size_setCell];exact h.lies⟩
 ·by_cases e:i=j
  ·subst e
   rw[World.cell?_setCell_same _ _ _ (h.c i hi)]
   simp
  ·rw[World.cell?_setCell_other _ _ _ _ (by intro h;injection h;omega)]
   rw[List.getElem_set_ne e]
   exact h.c j (by simpa using hj)
 ·rw[World.frozen?_setCell];exact h.f j (by simpa using hj)
def row(N:Nat)(g:Nat->Int):List Value:=(List.range N).map fun i=>.int .i64 (g i)
theorem BU(N:Nat)(g:Nat->Int):(row N g).length=N:=by unfold row;simp
theorem Fg{N i:Nat}{g:Nat->Int}(h:i<(row N g).length):(row N g)[i]=.int .i64 (g i):=by
 have h':i<N:=by rw[BU]at h;exact h
 show((List.range N).map fun i=>Value.int .i64 (g i))[i]'(by simpa using h')=_
 simp
theorem DI{k N:Nat}{g:Nat->Int}{w:World}(A:Ap k (row N g) w)(i:Nat)(h:i<N):w.cell? ⟨k,i,none⟩=some (.int .i64 (g i)):=by
 have:=A.c i (by rw[BU];exact h)
 rw[Fg]at this
 exact this
theorem Anc{k N:Nat}{g:Nat->Int}{w:World}(A:Ap k (row N g) w)(i:Nat)(h:i<N):w.frozen? ⟨k,i,none⟩=false:=A.f i (by rw[BU];exact h)
def updF(g:Nat->Int)(i:Nat)(v:Int):Nat->Int:=fun j=>if j=i then v else g j
theorem Aip{N i:Nat}{g:Nat->Int}{v:Int}:(row N g).set i (.int .i64 v)=row N (updF g i v):=by
 apply List.ext_getElem
 ·simp[BU]
 ·intro j h1 h2
  rw[List.getElem_set,show(row N (updF g i v))[j]=.int .i64 (updF g i v j)from Fg h2]
  by_cases c:i=j
  ·rw[if_pos c,show updF g i v j=v from if_pos c.symm]
  ·rw[if_neg c,show updF g i v j=g j from if_neg (fun h=>c h.symm),Fg]
theorem NV{k N:Nat}{g:Nat->Int}{w:World}(A:Ap k (row N g) w)(i:Nat)(h:i<N)(v:Int):Ap k (row N (updF g i v)) (w.setCell ⟨k,i,none⟩ (.int .i64 v)):=
 A.put i (by rw[BU];exact h) (.int .i64 v) _ Aip.symm
end Go.Proofs.YtgmpfeaanjnhaaaGreatDoor
namespace Go.Proofs.YtgmpfeaanjnhaaaGreatDoor
def Aw6:List Int:=[-293500,0,-14103,45455,-25562,0,29509,-31336,16487,-8142,13609,0,-24042,-569,12438,2376,4534,-5496,8947,0,7996,2786,558,-1340,-2811,2120,120,-3754,-2329,0,3690,453,1872,2200,-1387,-1229,-1419,429,209,1062,643,0,638,-184,767,168,-1157,489,-409,-598,149,109,-608,728]
def Aw7:List Int:=[126,0,100,-215,-112,0,-53,-273,-83,-111]
def GG(i:Nat):Int:=Aw6.getD i 0
def JU(i:Nat):Int:=Aw7.getD i 0
def nIdx(n m:Nat):Nat:=n*(n+1) / 2-1+m
open Go.RowKit
abbrev Bl:=List (Option Nat)
abbrev Xm:=List (List Value)
def isP:Value->Bool
 | .pointer (some _)=>true
 | .nilIface=>true
 | .slice (some _) _ _=>true
 |_=>false
def asB:Value->Option Bool
 | .bool b=>some b
 |_=>none
def RV(bl:Bl)(v v':Value):Prop:=
 match v with
 | .pointer (some a)=>∃B,bl[a.block]? =some (some B)/\v'=.pointer (some {a with block:=B})
 | .nilIface=>asB v'=none
 | .slice (some a) n c=>∃B,bl[a.block]? =some (some B)/\v'=.slice (some {a with block:=B}) n c
 |v=>v'=v
theorem RV.plain{bl:Bl}{v v':Value}(h:RV bl v v')(hp:isP v=false):v'=v:=by
 match v,h,hp with
 | .pointer none,h,_=>exact h
 | .bool _,h,_=>exact h
 | .int _ _,h,_=>exact h
 | .float _ _,h,_=>exact h
 | .complex _ _ _,h,_=>exact h
 | .string _,h,_=>exact h
 | .slice none _ _,h,_=>exact h
 | .map _,h,_=>exact h
 | .chan _,h,_=>exact h
 | .func _ _ _,h,_=>exact h
 | .nilFunc,h,_=>exact h
 | .iface _ _,h,_=>exact h
 | .agg _,h,_=>exact h
 | .tuple _,h,_=>exact h
theorem RV.same{bl:Bl}{v:Value}(hp:isP v=false):RV bl v v:=by
 match v,hp with
 | .pointer none,_=>rfl
 | .bool _,_=>rfl
 | .int _ _,_=>rfl
 | .float _ _,_=>rfl
 | .complex _ _ _,_=>rfl
 | .string _,_=>rfl
 | .slice none _ _,_=>rfl
 | .map _,_=>rfl
 | .chan _,_=>rfl
 | .func _ _ _,_=>rfl
 | .nilFunc,_=>rfl
 | .iface _ _,_=>rfl
 | .agg _,_=>rfl
 | .tuple _,_=>rfl
def Le(bl bl':Bl):Prop:=∀(k B:Nat),bl[k]? =some (some B)->bl'[k]? =some (some B)
theorem Le.refl(bl:Bl):Le bl bl:=fun _ _ h=>h
theorem Le.trans{a b c:Bl}(h:Le a b)(k:Le b c):Le a c:=fun i B e=>k i B (h i B e)
theorem RV.mono{bl bl':Bl}{v v':Value}(h:RV bl v v')(hl:Le bl bl'):RV bl' v v':=by
 cases hp:isP v
 ·rw[h.plain hp];exact .same hp
 ·match v,h,hp with
  | .pointer (some a),⟨B,h1,h2⟩,_=>exact⟨B,hl _ _ h1,h2⟩
  | .nilIface,h,_=>exact h
  | .slice (some a) _ _,⟨B,h1,h2⟩,_=>exact⟨B,hl _ _ h1,h2⟩
structure FR(bl:Bl)(vt:List Value)(tm:Array Value):Prop where
 len:tm.size=vt.length
 rv:∀t,RV bl (vt.getD t undef) (tm.getD t undef)
theorem FR.mono{bl bl':Bl}{vt:List Value}{tm:Array Value}(h:FR bl vt tm)(hl:Le bl bl'):FR bl' vt tm:=⟨h.len,fun t=>(h.rv t).mono hl⟩
def VE(vt:List Value):Operand->Value
 | .tmp t=>vt.getD t undef
 | .const v=>v
 | .global _=>undef
 | .func f=>.func (.func f) #[] #[]
def Pr:Operand->Bool
 | .const v=>!isP v
 | .global _=>false
 |_=>true
theorem FR.eval{bl:Bl}{vt:List Value}{a:Act}(h:FR bl vt a.tmps){x:Operand}(hx:Pr x=true):RV bl (VE vt x) (a.eval x):=by
 match x,hx with
 | .tmp t,_=>exact h.rv t
 | .const v,hx=>
  simp only[Pr,Bool.not_eq_true']at hx
  exact .same hx
 | .global g,hx=>cases hx
 | .func f,_=>rfl
def BJ(vt:List Value)(dst:Option Tmp)(v:Value):List Value:=
 match dst with
 |some d=>vt.set d v
 |none=>vt
theorem FR.set{bl:Bl}{vt:List Value}{tm:Array Value}(h:FR bl vt tm){v v':Value}(hv:RV bl v v')(d:Nat):FR bl (vt.set d v) (tm.setIfInBounds d v'):=by
 refine⟨by simp[h.len],fun t=>?_⟩
 have hl:=h.len
 by_cases e:d=t
 ·subst e
  by_cases hd:d<vt.length
  ·simp only[List.getD_eq_getElem?_getD,Array.getD_eq_getD_getElem?]
   rw[List.getElem?_set_self hd,Array.getElem?_setIfInBounds_self_of_lt (by omega)]
   exact hv
  ·simp only[List.getD_eq_getElem?_getD,Array.getD_eq_getD_getElem?]
   rw[List.getElem?_eq_none (by rw[List.length_set];omega),Array.getElem?_eq_none (by rw[Array.size_setIfInBounds];omega)]
   rfl
 ·have h1:=h.rv t
  simp only[List.getD_eq_getElem?_getD,Array.getD_eq_getD_getElem?]at h1 ⊢
  rw[List.getElem?_set_ne e,Array.getElem?_setIfInBounds_ne e]
  exact h1
theorem FR.put{bl:Bl}{vt:List Value}{a:Act}(h:FR bl vt a.tmps){v v':Value}(hv:RV bl v v')(dst:Option Tmp):FR bl (BJ vt dst v) (a.put dst v').tmps:=by
 cases dst with
 |none=>exact h
 |some d=>exact h.set hv d
def GW(w:World):Prop:=Ap 6 (row 54 GG) w/\Ap 7 (row 10 JU) w
theorem GW.same{w w':World}(h:GW w)(h0:w'.heap[6]? =w.heap[6]?)(h1:w'.heap[7]? =w.heap[7]?)(hs:w.heap.size<=w'.heap.size):GW w':=⟨h.1.same h0 hs,h.2.same h1 hs⟩
theorem GW.kept{w w':World}(h:GW w){b:Nat}(hb:7<b)(k:Aa b w w'):GW w':=h.same (k.block 6 h.1.lies (by omega)) (k.block 7 h.2.lies (by omega)) k.size
theorem GW.below{w w':World}(h:GW w)(k:Below w.heap.size w w'):GW w':=h.same (k.block 6 h.1.lies) (k.block 7 h.2.lies) k.size
structure RW(bs:List Nat)(w0:World)(bl:Bl)(m:Xm)(w:World):Prop where
 arr:∀(k B:Nat),bl[k]? =some (some B)->∃l,m[k]? =some l/\Ap B l w
 inj:∀(i j B:Nat),bl[i]? =some (some B)->bl[j]? =some (some B)->i=j
 own:∀(k B:Nat),bl[k]? =some (some B)->B∈bs∨w0.heap.size<=B∨m[k]? =some []
 os:w.os=w0.os
 tape:w.tape=w0.tape
 output:w.output=w0.output
 size:w0.heap.size<=w.heap.size
 block:∀i:Nat,i<w0.heap.size->i∉bs->w.heap[i]? =w0.heap[i]?
 gw:GW w0/\∀b∈bs,7<b
theorem RW.gt{bs:List Nat}{w0:World}{bl:Bl}{m:Xm}{w:World}(h:RW bs w0 bl m w){k B:Nat}(hk:bl[k]? =some (some B)){l:List Value}(hm:m[k]? =some l)(hl:l≠[]):7<B:=by
 rcases h.own k B hk with h1 |h1 |h1
 ·exact h.gw.2 B h1
 ·have:=h.gw.1.2.lies
  omega
 ·rw[hm]at h1
  exact absurd (Option.some.inj h1) hl
theorem Kw{m:Xm}{k k':Nat}{l:List Value}(h:m[k']? =some [])(hl:k=k'->l=[]):(m.set k l)[k']? =some []:=by
 by_cases e:k=k'
 ·subst e
  rw[List.getElem?_set_self (List.getElem?_eq_some_iff.1 h).1,hl rfl]
 ·rw[List.getElem?_set_ne e]
  exact h
theorem RW.gwAt{bs:List Nat}{w0:World}{bl:Bl}{m:Xm}{w:World}(h:RW bs w0 bl m w):GW w:=
 h.gw.1.same (h.block 6 h.gw.1.1.lies (fun e=>by have:=h.gw.2 6 e;omega)) (h.block 7 h.gw.1.2.lies (fun e=>by have:=h.gw.2 7 e;omega)) h.size
theorem RW.drew{bs:List Nat}{w0:World}{bl:Bl}{m:Xm}{w:World}(h:RW bs w0 bl m w):RW bs w0 bl m {w with drawn:=w.drawn+1}:=
 ⟨fun k B hk=>let ⟨l,h1,h2⟩:=h.arr k B hk;⟨l,h1,h2.drew⟩,h.inj,h.own,h.os,h.tape,h.output,h.size,h.block,h.gw⟩
def qrun(P:Program){α:Type}:Sem α->Option α
 | .pure a=>some a
 | .program k=>qrun P (k P)
 | .mark _ k=>qrun P k
 |_=>none
theorem BE{P:Program}{α:Type}{a:α}(s:Sem α)(h:qrun P s=some a)(w:World):s.run P w=.ok a w:=by
 induction s with
 |pure x=>simp only[qrun,Option.some.injEq]at h;rw[h];rfl
 |program k ih=>exact ih P h
 |mark m k ih=>exact ih h
 |_=>cases h
theorem IT(B o n:Nat):((⟨B,o,none⟩:Addr).add n)=⟨B,o+n,none⟩:=by
 unfold Addr.add
 split
 ·rename_i h;subst h;rfl
 ·rfl
theorem GN{P:Program}{B:Nat}{l:List Value}{w:World}(A:Ap B l w)(o:Nat):∀(n i:Nat) (acc:Array Value),o+i+n<=l.length->
    (loadCellsFrom ⟨B,o,none⟩ i n acc).run P w=.ok (acc++((l.drop (o+i)).take n).toArray) w
 |0,i,acc,_=>by simp[loadCellsFrom]
 |n+1,i,acc,h=>by
  have hc:=A.c (o+i) (by omega)
  have hd:l.drop (o+i)=l[o+i]'(by omega)::l.drop (o+i+1):=List.drop_eq_getElem_cons (by omega)
  simp only[loadCellsFrom,Sem.run_bind,load,Sem.run,IT,hc,Result.andThen_ok]
  rw[GN A o n (i+1) _ (by omega),hd,List.take_succ_cons]
  simp[Nat.add_assoc]
def FD(P:Program)(t:TypeId)(l:List Value)(off:Nat):Option Value:=
 match qrun P (isAgg t)with
 |some true=>
  match qrun P (sizeOf t)with
  |some n=>if off+n<=l.length then some (.agg ((l.drop off).take n).toArray)else none
  |none=>none
 |some false=>l[off]?
 |none=>none
theorem Gp{P:Program}{t:TypeId}{l:List Value}{off:Nat}{v:Value}{B:Nat}{w:World}(h:FD P t l off=some v)(A:Ap B l w):(loadVar t ⟨B,off,none⟩).run P w=.ok v w:=by
 unfold FD at h
 unfold loadVar
 cases h1:qrun P (isAgg t)with
 |none=>rw[h1]at h;cases h
 | some b=>
  rw[h1]at h
  have r1:=BE _ h1 w
  cases b with
  | true=>
   cases h2:qrun P (sizeOf t)with
   |none=>rw[h2]at h;cases h
   | some n=>
    rw[h2]at h
    have r2:=BE _ h2 w
    dsimp only at h
    split at h
    ·rename_i hl
     have r3:=GN (P:=P) A off n 0 #[] hl
     simp only[Sem.run_bind,r1,Result.andThen_ok,if_true,r2,loadCells,r3]
     rw[<-Option.some.inj h]
     simp
    ·cases h
  |false=>
   simp only[Sem.run_bind,r1,Result.andThen_ok]
   dsimp only at h
   obtain⟨hl,rfl⟩:=List.getElem?_eq_some_iff.1 h
   simp[load,Sem.run,A.c off hl]
def G6:Value->Bool
 | .agg _=>false
 | .tuple _=>false
 | .pointer (some _)=>false
 |_=>true
def FP:List Value->Nat->List Value->List Value
 |l,_,[]=>l
 |l,o,x::xs=>FP (l.set o x) (o+1) xs
def JV:World->Nat->Nat->List Value->World
 |w,_,_,[]=>w
 |w,B,o,x::xs=>JV (w.setCell ⟨B,o,none⟩ x) B (o+1) xs
theorem PG{B:Nat}:∀(vs:List Value) (l:List Value) (o:Nat) (w:World),Ap B l w->o+vs.length<=l.length->Ap B (FP l o vs) (JV w B o vs)
 |[],_,_,_,A,_=>A
 |x::xs,l,o,w,A,h=>by
  have h:o+(xs.length+1)<=l.length:=h
  exact PG xs (l.set o x) (o+1) _ (A.put o (by omega) x _ rfl) (by rw[List.length_set];omega)
theorem G7{B i:Nat}(hi:i≠B):∀(vs:List Value) (o:Nat) (w:World),(JV w B o vs).heap[i]? =w.heap[i]?
 |[],_,_=>rfl
 |_::xs,o,_=>(G7 hi xs (o+1) _).trans (Below.heap_setCell _ _ _ _ hi)
theorem IU{B:Nat}:∀(vs:List Value) (o:Nat) (w:World),(JV w B o vs).heap.size=w.heap.size
 |[],_,_=>rfl
 |_::xs,o,_=>(IU xs (o+1) _).trans (World.size_setCell _ _ _)
theorem VC{B:Nat}:∀(vs:List Value) (o:Nat) (w:World),(JV w B o vs).os=w.os/\(JV w B o vs).tape=w.tape/\(JV w B o vs).output=w.output
 |[],_,_=>⟨rfl,rfl,rfl⟩
 |x::xs,o,w=>VC xs (o+1) (w.setCell ⟨B,o,none⟩ x)
theorem FQ{P:Program}{B o:Nat}:∀(vs:List Value) (l:List Value) (i:Nat) (w:World),Ap B l w->vs.all G6=true->o+i+vs.length<=l.length->
    (storeCells ⟨B,o,none⟩ vs i).run P w=.ok () (JV w B (o+i) vs)
 |[],_,i,w,_,_,_=>rfl
 | x::xs,l,i,w,A,hx,h=>by
  have h:o+i+(xs.length+1)<=l.length:=h
  simp only[List.all_cons,Bool.and_eq_true]at hx
  have hc:=A.c (o+i) (by omega)
  have hf:=A.f (o+i) (by omega)
  have ih:=FQ (P:=P) (o:=o) xs (l.set (o+i) x) (i+1) (w.setCell ⟨B,o+i,none⟩ x) (A.put (o+i) (by omega) x _ rfl) hx.2 (by rw[List.length_set];omega)
  have hs:(store ((⟨B,o,none⟩:Addr).add i) x).run P w=.ok () (w.setCell ⟨B,o+i,none⟩ x):=by
   rw[IT]
   have hx1:=hx.1
   unfold store
   cases x<;>first |(simp[G6]at hx1;done)|simp[Sem.run,hc,hf]
  simp only[storeCells,Sem.run_bind,hs,Result.andThen_ok]
  rw[ih]
  rfl
def G8(P:Program)(t:TypeId)(l:List Value)(off:Nat)(v:Value):Option (List Value):=
 match qrun P (sizeOf t)with
 |some n=>if v.cells.size==n&&decide (off+v.cells.toList.length<=l.length)&&v.cells.toList.all G6 then some (FP l off v.cells.toList)else none
 |none=>none
theorem Kx{P:Program}{t:TypeId}{l l':List Value}{off:Nat}{v:Value}{B:Nat}{w:World}(h:G8 P t l off v=some l')(A:Ap B l w):
    (storeVar t ⟨B,off,none⟩ v).run P w=.ok () (JV w B off v.cells.toList)/\l'=FP l off v.cells.toList/\off+v.cells.toList.length<=l.length:=by
 unfold G8 at h
 cases h1:qrun P (sizeOf t)with
 |none=>rw[h1]at h;cases h
 | some n=>
  rw[h1]at h
  dsimp only at h
  split at h
  ·rename_i hc
   simp only[Bool.and_eq_true,beq_iff_eq,decide_eq_true_eq]at hc
   have r1:=BE _ h1 w
   have r2:=FQ (P:=P) (o:=off) v.cells.toList l 0 w A hc.2 hc.1.2
   refine⟨?_,(Option.some.inj h).symm,hc.1.2⟩
   unfold storeVar
   simp only[Sem.run_bind,r1,Result.andThen_ok]
   rw[if_neg (by rw[hc.1.1];simp)]
   simpa using r2
  ·cases h
theorem RW.store{bs:List Nat}{w0:World}{bl:Bl}{m:Xm}{w:World}(h:RW bs w0 bl m w){k B:Nat}{l:List Value}(hk:bl[k]? =some (some B))(hm:m[k]? =some l)(o:Nat)(vs:List Value)(ho:o+vs.length<=l.length):
    RW bs w0 bl (m.set k (FP l o vs)) (JV w B o vs):=by
 have hA:Ap B l w:=by
  obtain⟨l2,e,A⟩:=h.arr k B hk
  rw[hm]at e
  cases e
  exact A
 have hkl:k<m.length:=(List.getElem?_eq_some_iff.1 hm).1
 have hos:=VC (B:=B) vs o w
 have hvs:l=[]->vs=[]:=fun e=>by
  subst e
  have ho:o+vs.length<=0:=ho
  exact List.length_eq_zero_iff.1 (by omega)
 refine⟨fun k' B' hk'=>?_,h.inj,fun k' B' hk'=>(h.own k' B' hk').imp id (Or.imp id fun e=>Kw e (fun e2=>?_)),hos.1.trans h.os,hos.2.1.trans h.tape,hos.2.2.trans h.output,by rw[IU];exact h.size,fun i hi hb=>?_,h.gw⟩
 ·by_cases e:k=k'
  ·subst e
   rw[hk]at hk'
   cases hk'
   exact⟨_,List.getElem?_set_self hkl,PG vs l o w hA ho⟩
  ·obtain⟨l2,e2,A2⟩:=h.arr k' B' hk'
   have hB:B'≠B:=fun e3=>e (h.inj k k' B hk (e3▸hk'))
   exact⟨l2,by rw[List.getElem?_set_ne e];exact e2,A2.same (G7 hB vs o w) (by rw[IU];exact Nat.le_refl _)⟩
 ·subst e2
  rw[hm]at e
  cases e
  rw[hvs rfl]
  rfl
 ·by_cases hv:vs=[]
  ·subst hv
   exact h.block i hi hb
  have hB:i≠B:=by
   rintro rfl
   rcases h.own k i hk with hb' |hb' |hb'
   ·exact hb hb'
   ·omega
   ·rw[hm]at hb'
    exact hv (hvs (Option.some.inj hb'))
  rw[G7 hB]
  exact h.block i hi hb
theorem RW.new{bs:List Nat}{w0:World}{bl:Bl}{m:Xm}{w:World}(h:RW bs w0 bl m w){k:Nat}(hk:bl[k]? =some none)(hm:k<m.length)(l:List Value)(t:TypeId):
    RW bs w0 (bl.set k (some w.heap.size)) (m.set k l) (w.alloc (.cells l.toArray t))/\Le bl (bl.set k (some w.heap.size)):=by
 have hkl:k<bl.length:=(List.getElem?_eq_some_iff.1 hk).1
 have hB:Below w.heap.size w (w.alloc (.cells l.toArray t)):=(Below.refl _ _).alloc (Nat.le_refl _) _
 have get:∀(i B:Nat),(bl.set k (some w.heap.size))[i]? =some (some B)->(i=k/\B=w.heap.size)∨(i≠k/\bl[i]? =some (some B)/\B<w.heap.size):=by
  intro i B hi
  by_cases e:k=i
  ·subst e
   rw[List.getElem?_set_self hkl]at hi
   exact .inl ⟨rfl,(Option.some.inj (Option.some.inj hi)).symm⟩
  ·rw[List.getElem?_set_ne e]at hi
   obtain⟨_,_,A⟩:=h.arr i B hi
   exact .inr ⟨fun x=>e x.symm,hi,A.lies⟩
 refine⟨⟨fun i B hi=>?_,fun i j B hi hj=>?_,fun i B hi=>?_,h.os,h.tape,h.output,?_,fun i hi hb=>?_,h.gw⟩,fun i B hi=>?_⟩
 ·rcases get i B hi with⟨rfl,rfl⟩|⟨hne,hi',_⟩
  ·exact⟨l,List.getElem?_set_self hm,Am w w.heap.size l t rfl⟩
  ·obtain⟨l2,e2,A2⟩:=h.arr i B hi'
   exact⟨l2,by rw[List.getElem?_set_ne (fun x=>hne x.symm)];exact e2,A2.below hB⟩
 ·rcases get i B hi with⟨rfl,rfl⟩|⟨hne,hi',hlt⟩<;>rcases get j _ hj with⟨rfl,e⟩|⟨hne',hj',hlt'⟩
  ·rfl
  ·omega
  ·omega
  ·exact h.inj i j B hi' hj'
 ·rcases get i B hi with⟨rfl,rfl⟩|⟨hne,hi',_⟩
  ·exact .inr (.inl h.size)
  ·exact(h.own i B hi').imp id (Or.imp id fun e=>Kw e (fun e2=>absurd e2.symm hne))
 ·have:=h.size
  have:=hB.size
  omega
 ·rw[hB.block i (by have:=h.size;omega)]
  exact h.block i hi hb
 ·have e:k≠i:=by
   rintro rfl
   rw[hk]at hi
   cases hi
  rw[List.getElem?_set_ne e]
  exact hi
def Ky(P:Program)(s:TypeId)(f:Nat):Option Nat:=
 match P.underlying s with
 | some (.struct fields)=>
  match fields[f]? with
  |some fd=>
   match qrun P (sizeOf fd.type)with
   |some (_+1)=>some fd.offset
   |_=>none
  |none=>none
 |_=>none
theorem Cs{P:Program}{t:TypeId}{d:TypeDesc}(h:P.underlying t=some d)(w:World):(underlying t).run P w=.ok d w:=by
 simp[underlying,program,Sem.run,h]
theorem Kz{P:Program}{s:TypeId}{f d:Nat}(h:Ky P s f=some d)(B o:Nat)(w:World):(Instr.fieldAt s (.pointer (some ⟨B,o,none⟩)) f).run P w=.ok (.pointer (some ⟨B,o+d,none⟩)) w:=by
 unfold Ky at h
 split at h
 ·rename_i fields hu
  split at h
  ·rename_i fd hf
   split at h
   ·rename_i n hz
    have r1:=BE _ hz w
    have r0:=Cs hu w
    cases h
    unfold Instr.fieldAt
    simp only[Sem.run_bind,r0,Result.andThen_ok,hf,Instr.sureAddr,fieldPlace]
    simp[IT,r1]
   ·cases h
  ·cases h
 ·cases h
def IV(P:Program)(t:TypeId)(ix:Value):Option Nat:=
 match P.underlying t,ix with
 | some (.array len elem),.int _ i=>
  if 0<=i/\i<len then
   match qrun P (sizeOf elem)with
   |some n=>some (i.toNat*n)
   |none=>none
  else none
 |_,_=>none
theorem RR{P:Program}{t:TypeId}{ix:Value}{d:Nat}(h:IV P t ix=some d)(B o:Nat)(w:World):(Instr.indexAt t (.pointer (some ⟨B,o,none⟩)) ix).run P w=.ok (.pointer (some ⟨B,o+d,none⟩)) w:=by
 unfold IV at h
 split at h
 ·rename_i len elem k i hu
  split at h
  ·rename_i hi
   split at h
   ·rename_i n hz
    have r1:=BE _ hz w
    have r0:=Cs hu w
    cases h
    unfold Instr.indexAt
    simp only[Sem.run_bind,asIntOf,r0,Result.andThen_ok,Instr.sureAddr,Sem.run_pure]
    rw[if_pos hi]
    simp[r1,IT]
   ·cases h
  ·cases h
 ·cases h
def NW(P:Program)(t:TypeId)(ix:Value)(len:Nat):Option Nat:=
 match P.underlying t,ix with
 | some (.slice elem),.int _ i=>
  if 0<=i/\i<(len:Int)then
   match qrun P (sizeOf elem)with
   |some n=>some (i.toNat*n)
   |none=>none
  else none
 |_,_=>none
theorem RS{P:Program}{t:TypeId}{ix:Value}{d len:Nat}(h:NW P t ix len=some d)(B o c:Nat)(w:World):(Instr.indexAt t (.slice (some ⟨B,o,none⟩) len c) ix).run P w=.ok (.pointer (some ⟨B,o+d,none⟩)) w:=by
 unfold NW at h
 split at h
 ·rename_i elem k i hu
  split at h
  ·rename_i hi
   split at h
   ·rename_i n hz
    have r1:=BE _ hz w
    have r0:=Cs hu w
    cases h
    unfold Instr.indexAt
    simp only[Sem.run_bind,asIntOf,r0,Result.andThen_ok,Sem.run_pure]
    rw[if_pos hi]
    simp[r1,IT]
   ·cases h
  ·cases h
 ·cases h
def Bj(P:Program)(o:Oper)(ρ:Operand->Value):Option Value:=
 if o.op.operands.all (fun x=>!isP (ρ x))then
  match qrun P (execOp ρ o)with
  |some (.value v)=>if isP v then none else some v
  |_=>none
 else none
theorem Xw{P:Program}{o:Oper}{vt:List Value}{v:Value}{bl:Bl}{a:Act}(h:Bj P o (VE vt)=some v)(hok:o.op.operands.all Pr=true)(hs:∀cs b,o.op≠.select cs b)(F:FR bl vt a.tmps)(w:World):
    ∃v',RV bl v v'/\(execOp a.eval o).run P w=.ok (.value v') w:=by
 unfold Bj at h
 split at h
 ·rename_i hp
  have agree:∀x∈o.op.operands,VE vt x=a.eval x:=fun x hx=>by
   have h1:=Array.all_eq_true_iff_forall_mem.1 hok x hx
   have h2:=Array.all_eq_true_iff_forall_mem.1 hp x hx
   exact((F.eval h1).plain (by simpa using h2)).symm
  rw[execOp_congr o hs agree]at h
  split at h
  ·rename_i u hq
   split at h
   ·cases h
   ·rename_i hu
    cases h
    exact⟨v,.same (by simpa using hu),BE _ hq w⟩
  ·cases h
 ·cases h
def PH(c a b:Value):Option Value:=
 match c with
 | .bool x=>
  match a,b with
  | .bool p,.bool q=>some (.bool (cond x p q))
  |a,b=>match x with
   |true=>some a
   |false=>some b
 |_=>none
def KA(P:Program)(op:BinOp)(t:TypeId)(a b:Value):Option Value:=
 match a,b with
 | .pointer (some _),.pointer none=>
  (match P.underlying t,op with
  |some (.pointer _),.eql=>some (.bool false)
  |some (.pointer _),.neq=>some (.bool true)
  |_,_=>none)
 |_,_=>none
theorem MJ{P:Program}{t e:TypeId}(hu:P.underlying t=some (.pointer e))(a:Addr)(w:World):(Op.equal t (.pointer (some a)) (.pointer none)).run P w=.ok false w:=by
 show(Op.equalIn (9999+1) t (.pointer (some a)) (.pointer none)).run P w=.ok false w
 rw[Op.equalIn]
 simp only[Sem.run_bind,Cs hu w,Result.andThen_ok]
 rfl
theorem MK{P:Program}{op:BinOp}{t:TypeId}(x y:Operand)(a:Addr)(w:World):(eqGuard op t x y (.pointer (some a)) (.pointer none)).run P w=.ok () w:=by
 unfold eqGuard
 cases op<;>rfl
theorem PI{P:Program}{op:BinOp}{t:TypeId}{a b v:Value}(h:KA P op t a b=some v)(x y:Operand)(a':Addr)(w:World):
    b=.pointer none/\isP a=true/\isP v=false/\(do eqGuard op t x y (.pointer (some a')) (.pointer none);binOp op t (.pointer (some a')) (.pointer none):Sem Value).run P w=.ok v w:=by
 unfold KA at h
 split at h
 ·split at h
  ·rename_i hu
   cases h
   refine⟨rfl,rfl,rfl,?_⟩
   have e:binOp .eql t (.pointer (some a')) (.pointer none)=(do pure (.bool (<-Op.equal t (.pointer (some a')) (.pointer none)))):=rfl
   simp only[Sem.run_bind,MK,Result.andThen_ok,e,MJ hu]
   rfl
  ·rename_i hu
   cases h
   refine⟨rfl,rfl,rfl,?_⟩
   have e:binOp .neq t (.pointer (some a')) (.pointer none)=(do pure (.bool (!(<-Op.equal t (.pointer (some a')) (.pointer none))))):=rfl
   simp only[Sem.run_bind,MK,Result.andThen_ok,e,MJ hu]
   rfl
  ·cases h
 ·cases h
def VD(f:TypeId->Value->Value->Option Bool)(P:Program)(xs ys:Array Value):List Field->Option Bool
 |[]=>some true
 | d::ds=>if d.name== "_" then none else match qrun P (part d.type xs d.offset),qrun P (part d.type ys d.offset)with
  |some u,some v=>(match f d.type u v,VD f P xs ys ds with
   |some r,some r'=>some (r&&r')
   |_,_=>none)
  |_,_=>none
def VF(f:Value->Value->Option Bool)(P:Program)(e:TypeId)(xs ys:Array Value):List Nat->Option Bool
 |[]=>some true
 | i::is=>match qrun P (part e xs (i*P.cellsOf e)),qrun P (part e ys (i*P.cellsOf e))with
  |some u,some v=>(match f u v,VF f P e xs ys is with
   |some r,some r'=>some (r&&r')
   |_,_=>none)
  |_,_=>none
def PL(P:Program):Nat->TypeId->Value->Value->Option Bool
 |0,_,_,_=>none
 | d+1,t,a,b=>match P.underlying t,a,b with
  |some .bool,.bool x,.bool y=>some (x==y)
  |some (.int _),.int k x,.int k' y=>if k=k' then some (x==y)else none
  |some .string,.string x,.string y=>some (x.toList==y.toList)
  |some (.struct fs),.agg xs,.agg ys=>if P.stoodInHeld t then none else VD (PL P d) P xs ys fs.toList
  |some (.array n e),.agg xs,.agg ys=>(match P.info? e with
   |some _=>VF (PL P d e) P e xs ys (List.range n)
   |none=>none)
  |_,_,_=>none
def Aay(P:Program)(d:Nat):Prop:=∀t a b r,PL P d t a b=some r->∀(k:Nat) (w:World),(Op.equalIn (k+d) t a b).run P w=.ok r w
theorem ML{P:Program}{d k:Nat}(ih:Aay P d)(xs ys:Array Value)(w:World):∀(fs:List Field) (r:Bool),VD (PL P d) P xs ys fs=some r->(Op.eqFields (k+d) xs ys fs).run P w=.ok r w
 |[],r,h=>by cases h;simp[Op.eqFields]
 | f::fs,r,h=>by
  unfold VD at h
  split at h
  ·cases h
  rename_i hn
  split at h
  ·rename_i u v hu hv
   split at h
   ·rename_i r1 r2 e1 e2
    cases h
    have p1:=BE _ hu w
    have p2:=BE _ hv w
    have p3:=ih _ _ _ _ e1 k w
    have p4:=ML (k:=k) ih xs ys w fs r2 e2
    unfold Op.eqFields
    rw[if_pos (by simpa using hn)]
    cases r1
    ·simp only[Sem.run_bind,p1,p2,p3,Result.andThen_ok,Bool.not_false,if_true,Sem.run_pure,Bool.false_and]
    ·simp only[Sem.run_bind,p1,p2,p3,Result.andThen_ok,Bool.not_true,Bool.false_eq_true,if_false,Bool.true_and,p4]
   ·cases h
  ·cases h
theorem MM{P:Program}{d k:Nat}(ih:Aay P d)(e:TypeId)(xs ys:Array Value)(w:World):∀(is:List Nat) (r:Bool),VF (PL P d e) P e xs ys is=some r->(Op.eqItems (k+d) e (P.cellsOf e) xs ys is).run P w=.ok r w
 |[],r,h=>by cases h;simp[Op.eqItems]
 | i::is,r,h=>by
  unfold VF at h
  split at h
  ·rename_i u v hu hv
   split at h
   ·rename_i r1 r2 e1 e2
    cases h
    have p1:=BE _ hu w
    have p2:=BE _ hv w
    have p3:=ih _ _ _ _ e1 k w
    have p4:=MM (k:=k) ih e xs ys w is r2 e2
    unfold Op.eqItems
    cases r1
    ·simp only[Sem.run_bind,p1,p2,p3,Result.andThen_ok,Bool.not_false,if_true,Sem.run_pure,Bool.false_and]
    ·simp only[Sem.run_bind,p1,p2,p3,Result.andThen_ok,Bool.not_true,Bool.false_eq_true,if_false,Bool.true_and,p4]
   ·cases h
  ·cases h
theorem RU{P:Program}:∀d,Aay P d
 |0=>fun t a b r h=>by cases h
 | d+1=>fun t a b r h k w=>by
  have ih:=RU (P:=P) d
  unfold PL at h
  split at h
  ·rename_i hu
   cases h
   rw[<-Nat.add_assoc,run_equalIn_bool' w _ _ _ _ hu]
  ·rename_i hu
   split at h
   ·rename_i hk
    subst hk
    cases h
    rw[<-Nat.add_assoc,run_equalIn_int w _ _ _ _ _ _ hu]
   ·cases h
  ·rename_i hu
   cases h
   rw[<-Nat.add_assoc,run_equalIn_string w _ _ _ _ hu]
  ·rename_i fs xs ys hu
   split at h
   ·cases h
   rename_i hs
   have hf:P.fieldsOf t=fs:=by unfold Program.fieldsOf;rw[hu]
   rw[<-Nat.add_assoc,run_equalIn_struct w _ _ _ _ (by rw[hf];exact hu) (by simpa using hs),hf]
   exact ML ih xs ys w _ _ h
  ·rename_i n e xs ys hu
   split at h
   ·rename_i i hi
    rw[<-Nat.add_assoc,run_equalIn_array w _ _ _ hu hi]
    exact MM ih e xs ys w _ _ h
   ·cases h
  ·cases h
def Aor(P:Program)(op:BinOp)(t:TypeId)(a b:Value):Option Value:=
 match a,b with
 | .agg xs,.agg ys=>if P.eqGuardType P.depth t then none else(match op with
  | .eql=>(match PL P 8 t (.agg xs) (.agg ys)with
   |some r=>some (.bool r)
   |none=>none)
  | .neq=>(match PL P 8 t (.agg xs) (.agg ys)with
   |some r=>some (.bool (!r))
   |none=>none)
  |_=>none)
 |_,_=>none
theorem KB{P:Program}{op:BinOp}{t:TypeId}{a b v:Value}(h:Aor P op t a b=some v)(x y:Operand)(w:World):isP a=false/\isP b=false/\isP v=false/\(do eqGuard op t x y a b;binOp op t a b:Sem Value).run P w=.ok v w:=by
 unfold Aor at h
 split at h
 ·rename_i xs ys
  split at h
  ·cases h
  rename_i hg
  have hg:P.eqGuardType P.depth t=false:=by simpa using hg
  split at h
  ·split at h
   ·rename_i r hr
    cases h
    have e:=RU 8 _ _ _ _ hr 9992 w
    refine⟨rfl,rfl,rfl,?_⟩
    simp[eqGuard,hg,run_eql_struct,e]
   ·cases h
  ·split at h
   ·rename_i r hr
    cases h
    have e:=RU 8 _ _ _ _ hr 9992 w
    refine⟨rfl,rfl,rfl,?_⟩
    simp[eqGuard,hg,run_neq_struct,e]
   ·cases h
  ·cases h
 ·cases h
def VG(P:Program)(op:BinOp)(t:TypeId)(a b:Value)(z:Option Value):Option Value:=
 match Aor P op t a b with
 |some v=>some v
 |none=>z
theorem Aiq{P:Program}{o:Oper}{ρ:Operand->Value}{v:Value}(h:Bj P o ρ=some v):qrun P (execOp ρ o)=some (.value v):=by
 unfold Bj at h
 split at h
 ·split at h
  ·rename_i u hu
   split at h
   ·cases h
   ·cases h
    exact hu
  ·cases h
 ·cases h
theorem PM{P:Program}{o:Oper}{op:BinOp}{t t':TypeId}{x y:Operand}{ρ:Operand->Value}{v:Value}(hop:o.op=.binOp op t x y t')(h:Bj P o ρ=some v):VG P op t (ρ x) (ρ y) (Bj P o ρ)=some v:=by
 unfold VG
 split
 ·rename_i u hu
  have w:World:=World.holding P default ⟨#[],#[],[]⟩
  have r1:=(KB hu x y w).2.2.2
  have r2:=BE _ (Aiq h) w
  simp only[execOp,hop,Sem.run_bind]at r1 r2
  rw[r1]at r2
  simp at r2
  rw[r2]
 ·exact h
def vq(P:Program)(cl:Nat->Bool)(id:Nat)(o:Oper)(ρ:Operand->Value)(m:Xm):Option Value:=
 if o.op.operands.all Pr then
  match o.op with
  | .move x=>some (ρ x)
  | .assign x=>some (ρ x)
  | .pick c a b=>PH (ρ c) (ρ a) (ρ b)
  | .load t x=>
   match ρ x with
   | .pointer (some ⟨k,off,none⟩)=>if cl k then(match m[k]? with
    |some l=>(match FD P t l off with
     |some v=>if isP v then none else some v
     |none=>none)
    |none=>none)else none
   |_=>none
  | .fieldAddr s x f=>
   match ρ x with
   | .pointer (some ⟨k,off,none⟩)=>(match Ky P s f with
    |some d=>some (.pointer (some ⟨k,off+d,none⟩))
    |none=>none)
   |_=>none
  | .indexAddr t x ix=>
   match ρ x with
   | .pointer (some ⟨k,off,none⟩)=>(match IV P t (ρ ix)with
    |some d=>some (.pointer (some ⟨k,off+d,none⟩))
    |none=>none)
   | .slice (some ⟨k,off,none⟩) n _=>(match NW P t (ρ ix) n with
    |some d=>some (.pointer (some ⟨k,off+d,none⟩))
    |none=>none)
   |_=>none
  | .nilCheck x=>
   match ρ x with
   | .pointer (some a)=>some (.pointer (some a))
   |_=>none
  | .alloc _=>some (.pointer (some ⟨id,0,none⟩))
  | .store _ _ _=>none
  | .box _ _=>none
  | .select _ _=>none
  | .call c=>
   match c.callee with
   | .builtin _=>Bj P o ρ
   |_=>none
  | .binOp op t x y _=>
   match KA P op t (ρ x) (ρ y)with
   |some v=>some v
   |none=>VG P op t (ρ x) (ρ y) (Bj P o ρ)
  |_=>Bj P o ρ
 else none
theorem Aos{P:Program}{cl:Nat->Bool}{id:Nat}{o:Oper}{vt:List Value}{m:Xm}{v:Value}(h:vq P cl id o (VE vt) m=some v)(hna:∀t,o.op≠.alloc t)
    {bs:List Nat} {w0:World} {bl:Bl} {a:Act} {w:World} (F:FR bl vt a.tmps) (R:RW bs w0 bl m w):∃v',RV bl v v'/\(execOp a.eval o).run P w=.ok (.value v') w:=by
 unfold vq at h
 split at h
 case isFalse=>cases h
 rename_i hok
 have hev:∀x∈o.op.operands,RV bl (VE vt x) (a.eval x):=fun x hx=>F.eval (Array.all_eq_true_iff_forall_mem.1 hok x hx)
 have hpu:(∀cs b,o.op≠.select cs b)->Bj P o (VE vt)=some v->∃v',RV bl v v'/\(execOp a.eval o).run P w=.ok (.value v') w:=fun hs hp=>Xw hp hok hs F w
 cases hop:o.op<;>rw[hop]at h<;>dsimp only at h
 case move x=>
  cases h
  exact⟨_,hev x (by simp[hop,Op.operands]),by simp[execOp,hop]⟩
 case assign x=>
  cases h
  exact⟨_,hev x (by simp[hop,Op.operands]),by simp[execOp,hop]⟩
 case pick c p q=>
  have h1:=hev c (by simp[hop,Op.operands])
  have h2:=hev p (by simp[hop,Op.operands])
  have h3:=hev q (by simp[hop,Op.operands])
  unfold PH at h
  split at h
  ·rename_i x hx
   rw[hx]at h1
   have h1:a.eval c=.bool x:=h1
   split at h
   ·rename_i y z hy hz
    rw[hy]at h2
    rw[hz]at h3
    have h2:a.eval p=.bool y:=h2
    have h3:a.eval q=.bool z:=h3
    cases h
    refine⟨_,.same rfl,?_⟩
    cases x<;>simp[execOp,hop,h1,h2,h3,asBool]
   ·split at h
    ·cases h
     exact⟨_,h2,by simp[execOp,hop,h1,asBool]⟩
    ·cases h
     exact⟨_,h3,by simp[execOp,hop,h1,asBool]⟩
  ·cases h
 case load t x=>
  have h1:=hev x (by simp[hop,Op.operands])
  split at h
  ·rename_i k off hx
   rw[hx]at h1
   obtain⟨B,hB,he⟩:=h1
   split at h
   ·split at h
    ·rename_i l hl
     obtain⟨l2,e2,A⟩:=R.arr k B hB
     rw[hl]at e2
     cases e2
     split at h
     ·rename_i u hu
      split at h
      ·cases h
      ·rename_i hp
       cases h
       have r:=Gp hu A
       exact⟨v,.same (by simpa using hp),by simp[execOp,hop,he,Instr.loadAt,Instr.sureAddr,r]⟩
     ·cases h
    ·cases h
   ·cases h
  ·cases h
 case fieldAddr s x f=>
  have h1:=hev x (by simp[hop,Op.operands])
  split at h
  ·rename_i k off hx
   rw[hx]at h1
   obtain⟨B,hB,he⟩:=h1
   split at h
   ·rename_i d hd
    cases h
    have he:a.eval x=.pointer (some ⟨B,off,none⟩):=he
    exact⟨.pointer (some ⟨B,off+d,none⟩),⟨B,hB,rfl⟩,by simp[execOp,hop,he,Kz hd B off w]⟩
   ·cases h
  ·cases h
 case indexAddr t x ix=>
  have h1:=hev x (by simp[hop,Op.operands])
  have h2:=hev ix (by simp[hop,Op.operands])
  split at h
  ·rename_i k off hx
   rw[hx]at h1
   obtain⟨B,hB,he⟩:=h1
   split at h
   ·rename_i d hd
    cases h
    have he:a.eval x=.pointer (some ⟨B,off,none⟩):=he
    have hix:isP (VE vt ix)=false:=by
     unfold IV at hd
     split at hd
     ·rename_i e;rw[e];rfl
     ·cases hd
    rw[<-h2.plain hix]at hd
    exact⟨.pointer (some ⟨B,off+d,none⟩),⟨B,hB,rfl⟩,by simp[execOp,hop,he,RR hd B off w]⟩
   ·cases h
  ·rename_i k off n c hx
   rw[hx]at h1
   obtain⟨B,hB,he⟩:=h1
   split at h
   ·rename_i d hd
    cases h
    have he:a.eval x=.slice (some ⟨B,off,none⟩) n c:=he
    have hix:isP (VE vt ix)=false:=by
     unfold NW at hd
     split at hd
     ·rename_i e;rw[e];rfl
     ·cases hd
    rw[<-h2.plain hix]at hd
    exact⟨.pointer (some ⟨B,off+d,none⟩),⟨B,hB,rfl⟩,by simp[execOp,hop,he,RS hd B off c w]⟩
   ·cases h
  ·cases h
 case nilCheck x=>
  have h1:=hev x (by simp[hop,Op.operands])
  split at h
  ·rename_i b hx
   rw[hx]at h1
   cases h
   obtain⟨B,hB,he⟩:=h1
   exact⟨_,⟨B,hB,rfl⟩,by simp[execOp,hop,he]⟩
  ·cases h
 case alloc t=>exact absurd hop (hna t)
 case call c=>
  split at h
  ·exact hpu (by rw[hop];simp) h
  ·cases h
 case store=>cases h
 case box=>cases h
 case select=>cases h
 case binOp op t x y t2=>
  split at h
  ·rename_i u hn
   cases h
   have h1:=hev x (by simp[hop,Op.operands])
   have h2:=hev y (by simp[hop,Op.operands])
   obtain⟨e1,e2,e3,_⟩:=PI hn x y ⟨0,0,none⟩ w
   rw[e1]at h2
   have h2:a.eval y=.pointer none:=h2
   generalize VE vt x=vx at *
   match vx,h1,e2 with
   | .nilIface,_,_=>
    unfold KA at hn
    cases hn
   | .slice (some _) _ _,_,_=>
    unfold KA at hn
    cases hn
   | .pointer (some b),⟨B,_,he⟩,_=>
    obtain⟨_,_,_,r⟩:=PI hn x y {b with block:=B} w
    refine⟨_,.same e3,?_⟩
    simp only[execOp,hop,he,h2]
    simp only[Sem.run_bind]at r ⊢
    rw[r]
    rfl
  ·unfold VG at h
   split at h
   ·rename_i u hc
    cases h
    obtain⟨p1,p2,p3,_⟩:=KB hc x y w
    have e1:=(hev x (by simp[hop,Op.operands])).plain p1
    have e2:=(hev y (by simp[hop,Op.operands])).plain p2
    rw[<-e1,<-e2]at hc
    obtain⟨_,_,_,r⟩:=KB hc x y w
    refine⟨_,.same p3,?_⟩
    simp only[execOp,hop,Sem.run_bind]at r ⊢
    rw[r]
    rfl
   ·exact hpu (by rw[hop];simp) h
 all_goals exact hpu (by rw[hop];simp) h
def G9(l:List Value):List Nat:=l.filterMap fun v=>match v with
 | .pointer (some a)=>some a.block
 |_=>none
structure Ct(P:Program) where
 fn:Nat
 sp:List Value->Xm->(Value->Xm->Prop)->Prop
 go:∀(args:Array Value) (w:World),(callFunc fn args).run P w=.ok (.enter fn args) w
 mono:∀{args:List Value} {m:Xm} {K K':Value->Xm->Prop},(∀v m',K v m'->K' v m')->sp args m K->sp args m K'
 keep:∀{args:List Value} {m:Xm} {K:Value->Xm->Prop},sp args m K->sp args m (fun v m'=>K v m'/\m'.length=m.length/\∀k,k∉G9 args->m'[k]? =m[k]?)
 ok:∀{bs:List Nat} {w0:World} {bl:Bl} {m:Xm} {w:World} {args:List Value} {args':Array Value} {K:Value->Xm->Prop},RW bs w0 bl m w->args'.size=args.length->
  (∀i,RV bl (args.getD i undef) (args'.getD i undef))->sp args m K->Calls P fn args' w fun e w'=>∃v v' m',e=.returned v'/\RV bl v v'/\K v m'/\RW bs w0 bl m' w'
def va(P:Program)(tbl:List (Ct P))(id:Nat)(o:Oper)(ρ:Operand->Value)(m:Xm)(K:Value->Xm->Prop):Prop:=
 match o.op.operands.all Pr,o.op with
 | true,.store t x y=>
  match ρ x with
  | .pointer (some ⟨k,off,none⟩)=>(match m[k]? with
   |some l=>(match isP (ρ y),G8 P t l off (ρ y)with
    |false,some l'=>K undef (m.set k l')
    |_,_=>False)
   |none=>False)
  |_=>False
 |true,.box _ x=>(match isP (ρ x),(ρ x).cells.toList.all G6 with
     |false,true=>K (.pointer (some ⟨id,0,none⟩)) (m.set id (ρ x).cells.toList)
     |_,_=>False)
 |true,.load _ _=>
  match vq P (fun _=>true) id o ρ m with
  |some v=>K v m
  |none=>False
 | true,.call c=>
  match c.callee with
  | .value (.func n)=>(match tbl.find? (fun ct=>ct.fn==n)with
   |some ct=>ct.sp (c.args.toList.map ρ) m K
   |none=>False)
  |_=>False
 |_,_=>False
def vw(id:Nat)(o:Oper)(ρ:Operand->Value):List Nat:=
 match o.op with
 | .store _ x _=>G9 [ρ x]
 | .box _ _=>[id]
 | .call c=>G9 (c.args.toList.map ρ)
 |_=>[]
def CB(o:Oper):Bool:=
 match o.op with
 | .alloc _=>true
 | .box _ _=>true
 |_=>false
def Nw(rs:Xm)(bl:Bl)(m:Xm):Prop:=∀k:Nat,bl[k]? =some none->m[k]? =rs[k]?
def VH(P:Program)(rs:Xm)(id:Nat)(o:Oper)(bl:Bl):Prop:=
 CB o=true->bl[id]? =some none/\∃l,rs[id]? =some l/\∀t,o.op=.alloc t->∃z,qrun P (zeroValue t)=some z/\l=z.cells.toList
def KC(bs:List Nat)(w0:World)(rs:Xm)(bl:Bl)(m:Xm)(vt:List Value)(a:Act)(id:Nat)(o:Oper)(K:Value->Xm->Prop)(a':Act)(w':World):Prop:=
 ∃bl' v m',bl'.length=bl.length/\m'.length=m.length/\Le bl bl'/\(∀k:Nat,k≠id->bl'[k]? =bl[k]?)/\(CB o=false->bl'=bl)/\a'.defers=a.defers/\FR bl' (BJ vt o.dst v) a'.tmps/\RW bs w0 bl' m' w'/\Nw rs bl' m'/\K v m'
theorem RV.at{bl:Bl}{k B:Nat}(h:bl[k]? =some (some B))(o:Nat):RV bl (.pointer (some ⟨k,o,none⟩)) (.pointer (some ⟨B,o,none⟩)):=⟨B,h,rfl⟩
theorem AJ(a:Act)(d:Option Tmp)(v:Value):(a.put d v).defers=a.defers:=by cases d<;>rfl
section
variable {P:Program} {tbl:List (Ct P)} {bs:List Nat} {w0:World} {rs:Xm} {bl:Bl} {vt:List Value} {m:Xm} {a:Act} {w:World} {id:Nat} {o:Oper} {Q:Exit->Act->World->Prop}
theorem VI{l:List Value}(F:FR bl vt a.tmps)(R:RW bs w0 bl m w)(N:Nw rs bl m)(hid:bl[id]? =some none)(hm:id<m.length)(hn:CB o=true)(t:TypeId){K:Value->Xm->Prop}
    (h:K (.pointer (some ⟨id,0,none⟩)) (m.set id l)):KC bs w0 rs bl m vt a id o K (a.put o.dst (.pointer (some ⟨w.heap.size,0,none⟩))) (w.alloc (.cells l.toArray t)):=by
 obtain⟨R',hle⟩:=R.new hid hm l t
 have hbl:id<bl.length:=(List.getElem?_eq_some_iff.1 hid).1
 refine⟨bl.set id (some w.heap.size),.pointer (some ⟨id,0,none⟩),m.set id l,List.length_set ..,List.length_set ..,hle,fun k hk=>List.getElem?_set_ne (fun e=>hk e.symm),(fun e=>by rw[hn]at e;cases e),AJ _ _ _,(F.mono hle).put (RV.at (List.getElem?_set_self hbl) 0) _,R',fun k hk=>?_,h⟩
 by_cases e:id=k
 ·subst e
  rw[List.getElem?_set_self hbl]at hk
  cases hk
 ·rw[List.getElem?_set_ne e]at hk
  rw[List.getElem?_set_ne e]
  exact N k hk
theorem Aaz{cl:Nat->Bool}{v:Value}{K:Value->Xm->Prop}(h:vq P cl id o (VE vt) m=some v)(F:FR bl vt a.tmps)(R:RW bs w0 bl m w)(N:Nw rs bl m)(hnew:VH P rs id o bl)(hK:K v m):
    o.wp P a w (KC bs w0 rs bl m vt a id o K) Q:=by
 by_cases hal:∃t,o.op=.alloc t
 ·obtain⟨t,ht⟩:=hal
  have hn:CB o=true:=by unfold CB;rw[ht]
  obtain⟨hid,l,hl,hz0⟩:=hnew hn
  obtain⟨z,hz,rfl⟩:=hz0 t ht
  have hv:v=.pointer (some ⟨id,0,none⟩):=by
   unfold vq at h
   rw[ht]at h
   simp[Op.operands]at h
   exact h.symm
  have hm:m[id]? =some z.cells.toList:=(N id hid).trans hl
  have hml:id<m.length:=(List.getElem?_eq_some_iff.1 hm).1
  have hself:m.set id z.cells.toList=m:=by
   have:=(List.getElem?_eq_some_iff.1 hm).2
   rw[<-this]
   exact List.set_getElem_self hml
  have hr:(execOp a.eval o).run P w=.ok (.value (.pointer (some ⟨w.heap.size,0,none⟩))) (w.alloc (.cells z.cells.toList.toArray t)):=by
   have r:=BE _ hz w
   simp[execOp,ht,Instr.alloc,newVar,newRow,newObj,r,Sem.run]
  unfold Oper.wp
  rw[hr]
  exact VI F R N hid hml hn t (by rw[hself,<-hv];exact hK)
 ·obtain⟨v',hv,hr⟩:=Aos h (fun t ht=>hal ⟨t,ht⟩) F R
  unfold Oper.wp
  rw[hr]
  exact⟨bl,v,m,rfl,rfl,.refl _,fun _ _=>rfl,fun _=>rfl,AJ _ _ _,F.put hv _,R,N,hK⟩
theorem Ane{K:Value->Xm->Prop}(h:va P tbl id o (VE vt) m K)(F:FR bl vt a.tmps)(R:RW bs w0 bl m w)(N:Nw rs bl m)(hnew:VH P rs id o bl):
    o.wp P a w (KC bs w0 rs bl m vt a id o K) Q:=by
 unfold va at h
 split at h
 ·rename_i t x y hok hop
  have hev:∀x∈o.op.operands,RV bl (VE vt x) (a.eval x):=fun x hx=>F.eval (Array.all_eq_true_iff_forall_mem.1 hok x hx)
  have h1:=hev x (by simp[hop,Op.operands])
  have h2:=hev y (by simp[hop,Op.operands])
  split at h
  ·rename_i k off hx
   rw[hx]at h1
   obtain⟨B,hB,he⟩:=h1
   have he:a.eval x=.pointer (some ⟨B,off,none⟩):=he
   split at h
   ·rename_i l hl
    split at h
    ·rename_i l' hp hst
     rw[h2.plain hp |>.symm]at hst
     obtain⟨l2,e2,A⟩:=R.arr k B hB
     rw[hl]at e2
     cases e2
     obtain⟨r,rfl,hlen⟩:=Kx hst A
     have hr:(execOp a.eval o).run P w=.ok .skip (JV w B off (a.eval y).cells.toList):=by
      simp[execOp,hop,he,Instr.storeAt,Instr.sureAddr,r]
     unfold Oper.wp
     rw[hr]
     refine⟨bl,undef,_,rfl,List.length_set ..,.refl _,fun _ _=>rfl,fun _=>rfl,AJ _ _ _,F.put (.same rfl) _,R.store hB hl off _ hlen,fun k' hk'=>?_,h⟩
     have e:k≠k':=by rintro rfl;rw[hB]at hk';cases hk'
     rw[List.getElem?_set_ne e]
     exact N k' hk'
    ·exact h.elim
   ·exact h.elim
  ·exact h.elim
 ·rename_i t x hok hop
  have h1:=F.eval (Array.all_eq_true_iff_forall_mem.1 hok x (by simp[hop,Op.operands]))
  split at h
  ·rename_i hp hc
   have hx:a.eval x=VE vt x:=h1.plain hp
   have hn:CB o=true:=by unfold CB;rw[hop]
   obtain⟨hid,l,hl,_⟩:=hnew hn
   have hm:m[id]? =some l:=(N id hid).trans hl
   have hml:id<m.length:=(List.getElem?_eq_some_iff.1 hm).1
   have hr:(execOp a.eval o).run P w=.ok (.value (.pointer (some ⟨w.heap.size,0,none⟩))) (w.alloc (.cells (VE vt x).cells.toList.toArray t)):=by
    simp[execOp,hop,Instr.box,newVar,newRow,newObj,Sem.run,hx]
   unfold Oper.wp
   rw[hr]
   exact VI F R N hid hml hn t h
  ·exact h.elim
 ·split at h
  ·rename_i v hv
   exact Aaz hv F R N hnew h
  ·exact h.elim
 ·rename_i c hok hop
  split at h
  ·rename_i n hcal
   split at h
   ·rename_i ct hct
    have hfn:ct.fn=n:=by simpa using List.find?_some hct
    subst hfn
    have hr:(execOp a.eval o).run P w=.ok (.enter ct.fn (c.args.map a.eval)) w:=by
     have:=ct.go (c.args.map a.eval) w
     simp[execOp,hop,resolve,hcal,Act.eval,Deferred.ofValue,invoke,this]
    unfold Oper.wp
    rw[hr]
    have harg:∀i,RV bl ((c.args.toList.map (VE vt)).getD i undef) ((c.args.map a.eval).getD i undef):=by
     intro i
     by_cases hi:i<c.args.size
     ·have hx:c.args[i]∈o.op.operands:=by
       simp only[hop,Op.operands,Call.operands]
       exact Array.mem_append_right _ (Array.getElem_mem hi)
      have:=F.eval (Array.all_eq_true_iff_forall_mem.1 hok _ hx)
      simpa [List.getD_eq_getElem?_getD,hi]using this
     ·simp only[List.getD_eq_getElem?_getD,Array.getD_eq_getD_getElem?]
      rw[List.getElem?_eq_none (by simp;omega),Array.getElem?_eq_none (by simp;omega)]
      rfl
    refine Calls.mono (ct.ok R (by simp) harg (ct.keep h)) ?_
    rintro e w' ⟨v,v',m',rfl,hv,⟨hK,hlen,hkeep⟩,R'⟩
    refine⟨bl,v,m',rfl,hlen,.refl _,fun _ _=>rfl,fun _=>rfl,AJ _ _ _,F.put hv _,R',fun k hk=>?_,hK⟩
    rw[hkeep k ?_]
    ·exact N k hk
    ·intro hmem
     unfold G9 at hmem
     obtain⟨u,hu,hk2⟩:=List.mem_filterMap.1 hmem
     obtain⟨i,hi,rfl⟩:=List.mem_iff_getElem.1 hu
     have hrv:=harg i
     rw[List.getD_eq_getElem?_getD,List.getElem?_eq_getElem hi]at hrv
     split at hk2
     ·rename_i b hb
      cases hk2
      simp only[Option.getD_some]at hrv
      rw[hb]at hrv
      obtain⟨B,hB,_⟩:=hrv
      rw[hB]at hk
      cases hk
     ·cases hk2
   ·exact h.elim
  ·exact h.elim
 ·exact h.elim
end
end Go.Proofs.YtgmpfeaanjnhaaaGreatDoor
