import Derived.Handy
import Derived.Deep.RegionHeld3
import Derived.Test.YtoadcnhcfodkgaaGreatDoorU09
import Derived.Test.YtoadcnhcfodkgaaGreatDoorU01
import Derived.Test.YtoadcnhcfodkgaaGreatDoorU08
import Derived.Test.YtoadcnhcfodkgaaGreatDoorU05
set_option maxRecDepth 100000
set_option maxHeartbeats 20000000
open Go.Proofs.Tryz renaming prog→Zm
open Int renaming mul_le_mul_of_nonneg_right→Zn,mul_le_mul→Zo,toNat_of_nonneg→Zs,mul_nonneg→Zu
open Bool renaming and_eq_true→Zp
open List renaming all_eq_true→Zq,mem_range→Zr
open Nat renaming lt_or_ge→Zt
namespace Go.Proofs.YtoadcnhcfodkgaaGreatDoor
section
def fG:Nat->Nat->Int
 |1,0=>-32270666275226
 |1,1=>-1550641248652
 |2,0=>-2810571622921
 |2,1=>3244548862404
 |2,2=>1812764820714
 |3,0=>1496325374240
 |3,1=>-2643445855499
 |3,2=>1367572562628
 |3,3=>498518572034
 |4,0=>983733053371
 |4,1=>879169497570
 |4,2=>61352748830
 |4,3=>-309072718568
 |4,4=>13194139533
 |5,0=>-256076258109
 |5,1=>405719790649
 |5,2=>205828576720
 |5,3=>-152502262773
 |5,4=>-156020699981
 |5,5=>22979793021
 |6,0=>70698597666
 |6,1=>70148841852
 |6,2=>84332541850
 |6,3=>-127213495334
 |6,4=>-44970025576
 |6,5=>16382723254
 |6,6=>-66850306969
 |_,_=>0
def fH:Nat->Nat->Int
 |1,1=>4997830104056
 |2,1=>-3445429636799
 |2,2=>-895222367335
 |3,1=>-62562211620
 |3,2=>261243962760
 |3,3=>-604291590626
 |4,1=>306323939498
 |4,2=>-147334558122
 |4,3=>233096465089
 |4,4=>-412756665067
 |5,1=>49807876738
 |5,2=>241892558111
 |5,3=>-135129979054
 |5,4=>47169048832
 |5,5=>116768134870
 |6,1=>-20231013951
 |6,2=>18471795347
 |6,3=>53766118598
 |6,4=>-65750795341
 |6,5=>11984676743
 |6,6=>80044446502
 |_,_=>0
def fGy:Nat->Nat->Int
 |1,0=>13853846510
 |1,1=>10995116278
 |2,0=>-12314530231
 |2,1=>-5827411627
 |2,2=>-9125946511
 |_,_=>0
def fHy:Nat->Nat->Int
 |1,1=>-23639499997
 |2,1=>-30016667438
 |2,2=>-12204579068
 |_,_=>0
def gI(n m:Nat):Iv:=if n<=2 then(fG n m+min 0 (5*fGy n m),fG n m+max 0 (5*fGy n m))else pt (fG n m)
def hI(n m:Nat):Iv:=if n<=2 then(fH n m+min 0 (5*fHy n m),fH n m+max 0 (5*fHy n m))else pt (fH n m)
def tS:Int->Nat->Int
 |q,0=>(mulS false q q).1
 |q,n+1=>(mulS false (tS q n) q).1
def tI(Q:Iv):Nat->Iv
 |0=>C6 Q Q
 |n+1=>C6 (tI Q n) Q
def tB:Nat->Int
 |0=>1241245548545
 |1=>1318823395330
 |2=>1401249857539
 |3=>1488827973636
 |4=>1581879721989
 |5=>1680747204614
 |_=>1785793904903
theorem Axg(n:Nat)(h:n<6):tB n*1168231104512+549755813888<=tB (n+1)*1099511627776/\tB n<=2199023255552:=by
 have six:n=0∨n=1∨n=2∨n=3∨n=4∨n=5:=by omega
 rcases six with rfl |rfl |rfl |rfl |rfl |rfl<;>decide
theorem Aby(n:Nat):tB n<=2199023255552:=by unfold tB;split<;>decide
theorem Ao6{q:Int}{Q:Iv}(q0:0<=q)(q1:q<=1168231104512)(iQ:In Q q):∀n,n<=6->In (tI Q n) (tS q n)/\0<=tS q n/\tS q n<=tB n
 |0,_=>by
  obtain⟨m,e,r,_⟩:=Ax (a:=q) (b:=q) (K:=1168231104512) (L:=1168231104512) (B:=2199023255552) ⟨by omega,q1⟩ ⟨by omega,q1⟩ (by decide) (by decide) (by decide) (by decide)
  have p:=Zu q0 q0
  have p2:=Zo q1 q1 q0 (by decide)
  unfold tS tI
  rw[e]
  have:=r.lo;have:=r.hi
  exact⟨Bs iQ iQ r,by show 0<=m;omega,by show m<=1241245548545;omega⟩
 |n+1,hn=>by
  obtain⟨i,t0,t1⟩:=Ao6 q0 q1 iQ n (by omega)
  have T:=Axg n (by omega)
  obtain⟨m,e,r,_⟩:=Ax (a:=tS q n) (b:=q) (K:=2199023255552) (L:=1168231104512) (B:=2400000000000) ⟨by omega,by omega⟩ ⟨by omega,q1⟩ (by decide) (by decide) (by decide) (by decide)
  have p:=Zu t0 q0
  have p2:=Zo t1 q1 q0 (by omega)
  unfold tS tI
  rw[e]
  have:=r.lo;have:=r.hi
  exact⟨Bs i iQ r,by show 0<=m;omega,by show m<=_;omega⟩
def hyp(a b:Int):Int:=((a*a+b*b) / (max a b+3*min a b / 8+1)+(max a b+3*min a b / 8+1)) / 2+1
def AKz(a b:Int):Bool:=decide (a*a+b*b<=hyp a b*hyp a b)&&decide (0<=hyp a b)
section
variable (C S Q:Iv)
def uA(m:Nat):Iv:=Yw (fun n=>ims ((n:Int)+2) (C6 (C6 (tI Q (n+1)) ((Db C S (n+1)).1.getD m z3).1) (gI (n+1) m))) 6
def uB(m:Nat):Iv:=Yw (fun n=>ims ((n:Int)+2) (C6 (C6 (tI Q (n+1)) ((Db C S (n+1)).1.getD m z3).1) (hI (n+1) m))) 6
def sA(m:Nat):Iv:=Yw (fun n=>C6 (C6 (tI Q (n+1)) ((Db C S (n+1)).1.getD m z3).2.1) (gI (n+1) m)) 6
def sB(m:Nat):Iv:=Yw (fun n=>C6 (C6 (tI Q (n+1)) ((Db C S (n+1)).1.getD m z3).2.1) (hI (n+1) m)) 6
def eA(m:Nat):Iv:=Yw (fun n=>ims (m:Int) (C6 (C6 (tI Q (n+1)) ((Db C S (n+1)).1.getD m z3).2.2) (gI (n+1) m))) 6
def eB(m:Nat):Iv:=Yw (fun n=>ims (m:Int) (C6 (C6 (tI Q (n+1)) ((Db C S (n+1)).1.getD m z3).2.2) (hI (n+1) m))) 6
def Yy(A B:Nat->Iv):Int:=sm (fun m=>hyp (mag (A m)) (mag (B m))) 7
def To(A B:Nat->Iv):Bool:=(List.range 7).all fun m=>AKz (mag (A m)) (mag (B m))
def Tp:Bool:=(List.range 6).all fun n=>(Db C S (n+1)).1.all LV
def vA(r d:Int)(m:Nat):Iv:=Yu (ims r (uA C S Q m)) (ims d (sA C S Q m))
def vB(r d:Int)(m:Nat):Iv:=Yu (ims r (uB C S Q m)) (ims d (sB C S Q m))
def Ao7(r d:Int):Bool:=
 Tp C S&&To (uA C S Q) (uB C S Q)&&To (sA C S Q) (sB C S Q)&&To (eA C S Q) (eB C S Q)&&To (vA C S Q r d) (vB C S Q r d)&&
 decide (Yy (uA C S Q) (uB C S Q)*Yy (uA C S Q) (uB C S Q)+Yy (sA C S Q) (sB C S Q)*Yy (sA C S Q) (sB C S Q)+Yy (eA C S Q) (eB C S Q)*Yy (eA C S Q) (eB C S Q)<=9575901417167477692847620096)&&
 decide (3100*1099511627776*1099511627776<=-(vA C S Q r d 0).2*1099511627776-(Yy (vA C S Q r d) (vB C S Q r d)-hyp (mag (vA C S Q r d 0)) (mag (vB C S Q r d 0)))*1099528404992)&&
 decide (r*r+d*d<=1000000)
end
section
variable (c s q:Int) (g h:Nat->Nat->Int) (C S:Nat->Int)
def wU(n m:Nat):Int:=((n:Int)+2)*(tS q (n+1)*(tri c s (n+1) m).1)
def wS(n m:Nat):Int:=tS q (n+1)*(tri c s (n+1) m).2.1
def wE(n m:Nat):Int:=(m:Int)*(tS q (n+1)*(tri c s (n+1) m).2.2)
end
structure LW(C S Q:Iv)(c s q:Int):Prop where
 ic:In C c
 is_:In S s
 iq:In Q q
 cb:Ab c 2199023255552
 sb:Ab s 2199023255552
 q0:0<=q
 q1:q<=1168231104512
 rows:∀n,n<6->∀m,Yx ((Db C S (n+1)).1.getD m z3) (tri c s (n+1) m)
 sm:∀n,n<6->∀m,KW (tri c s (n+1) m)
 ent:∀n,n<6->∀m,m<n+1->∃x,entS false c s (fB (n+1) m) (fA (n+1) m) (tri c s n m) (if n=0 then(0,0,0)else tri c s (n-1) m)=(tri c s (n+1) m,x)/\x=false
 dia:∀n,n<5->diaS false c s (fJ (n+2)) (tri c s (n+1) (n+1))=(tri c s (n+2) (n+2),false)
theorem Axh{C S Q:Iv}{c s q:Int}(iC:In C c)(iS:In S s)(iQ:In Q q)(hc:Ab c 2199023255552)(hs:Ab s 2199023255552)(q0:0<=q)(q1:q<=1168231104512)(ok:Tp C S=true):LW C S Q c s q:=by
 unfold Tp at ok
 rw[Zq]at ok
 have o (n:Nat) (hn:n<6):(Db C S (n+1)).1.all LV=true:=ok n (Zr.2 hn)
 obtain⟨r1,e1⟩:=AO1 hc hs iC iS (o 0 (by decide))
 obtain⟨r2,e2,d2⟩:=Ao5 (n:=0) hc hs iC iS r1 (o 1 (by decide))
 obtain⟨r3,e3,d3⟩:=Ao5 (n:=1) hc hs iC iS r2 (o 2 (by decide))
 obtain⟨r4,e4,d4⟩:=Ao5 (n:=2) hc hs iC iS r3 (o 3 (by decide))
 obtain⟨r5,e5,d5⟩:=Ao5 (n:=3) hc hs iC iS r4 (o 4 (by decide))
 obtain⟨r6,e6,d6⟩:=Ao5 (n:=4) hc hs iC iS r5 (o 5 (by decide))
 have six (n:Nat) (hn:n<6):n=0∨n=1∨n=2∨n=3∨n=4∨n=5:=by omega
 have go (n m:Nat) (hm:m<n+2) (e:(entS false c s (fB (n+2) m) (fA (n+2) m) (tri c s (n+1) m) (tri c s n m)).2=false):entS false c s (fB (n+2) m) (fA (n+2) m) (tri c s (n+1) m) (tri c s n m)=(tri c s (n+2) m,false):=by
  rw[show tri c s (n+2) m=(entS false c s (fB (n+2) m) (fA (n+2) m) (tri c s (n+1) m) (tri c s n m)).1 by(conv=>lhs;unfold tri);rw[if_pos hm]]
  exact Prod.ext rfl e
 have gd (n:Nat) (e:(diaS false c s (fJ (n+2)) (tri c s (n+1) (n+1))).2=false):diaS false c s (fJ (n+2)) (tri c s (n+1) (n+1))=(tri c s (n+2) (n+2),false):=by
  rw[show tri c s (n+2) (n+2)=(diaS false c s (fJ (n+2)) (tri c s (n+1) (n+1))).1 by(conv=>lhs;unfold tri);rw[if_neg (by omega),if_pos rfl]]
  exact Prod.ext rfl e
 refine⟨iC,iS,iQ,hc,hs,q0,q1,?_,?_,?_,?_⟩
 ·intro n hn
  rcases six n hn with rfl |rfl |rfl |rfl |rfl |rfl
  ·exact r1.a
  ·exact r2.a
  ·exact r3.a
  ·exact r4.a
  ·exact r5.a
  ·exact r6.a
 ·intro n hn
  rcases six n hn with rfl |rfl |rfl |rfl |rfl |rfl
  ·exact r1.sa
  ·exact r2.sa
  ·exact r3.sa
  ·exact r4.sa
  ·exact r5.sa
  ·exact r6.sa
 ·intro n hn m hm
  refine⟨false,?_,rfl⟩
  rcases six n hn with rfl |rfl |rfl |rfl |rfl |rfl
  ·obtain rfl:m=0:=by omega
   rw[if_pos rfl,show tri c s 0 0=(1099511627776,0,0)by unfold tri;rfl,show tri c s (0+1) 0=(entS false c s (fB 1 0) (fA 1 0) (1099511627776,0,0) (0,0,0)).1 by unfold tri;rfl]
   exact Prod.ext rfl e1
  ·rw[if_neg (by decide)];exact go 0 m hm (e2 m)
  ·rw[if_neg (by decide)];exact go 1 m hm (e3 m)
  ·rw[if_neg (by decide)];exact go 2 m hm (e4 m)
  ·rw[if_neg (by decide)];exact go 3 m hm (e5 m)
  ·rw[if_neg (by decide)];exact go 4 m hm (e6 m)
 ·intro n hn
  have five:n=0∨n=1∨n=2∨n=3∨n=4:=by omega
  rcases five with rfl |rfl |rfl |rfl |rfl
  ·exact gd 0 d2
  ·exact gd 1 d3
  ·exact gd 2 d4
  ·exact gd 3 d5
  ·exact gd 4 d6
section
variable {C S Q:Iv} {c s q:Int} {g h:Nat->Nat->Int} {Cm Sm:Nat->Int}
end
structure Rt(n N:Int):Prop where
 n0:0<=n
 lo:n*n<=N
 hi:N<(n+1)*(n+1)
theorem I3{x n:Int}(n0:0<=n)(h:x*x<(n+1)*(n+1)):Ab x n:=by
 refine⟨?_,?_⟩
 ·apply Classical.byContradiction
  intro g
  have:=Zo (show n+1<=-x by omega) (show n+1<=-x by omega) (by omega) (by omega)
  rw[Int.neg_mul_neg]at this
  omega
 ·apply Classical.byContradiction
  intro g
  have:=Zo (show n+1<=x by omega) (show n+1<=x by omega) (by omega) (by omega)
  omega
theorem KI{a d m:Int}(d0:0<d)(ha:Ab a d)(r:Ab (2*(m*d-a*1099511627776)) d):Ab m 1099511627776:=by
 have:=r.lo;have:=r.hi;have:=ha.lo;have:=ha.hi
 refine⟨?_,?_⟩
 ·apply Classical.byContradiction
  intro g
  have:=Zn (show 1099511627777<=-m by omega) (show 0<=d by omega)
  rw[Int.neg_mul]at this
  omega
 ·apply Classical.byContradiction
  intro g
  have:=Zn (show 1099511627777<=m by omega) (show 0<=d by omega)
  omega
theorem Q9{p q d m n:Int}(hp:Ab p d)(hq:Ab q d)(r:Ab (2*(m*d-p*1099511627776)) d)(t:Ab (2*(n*d-q*1099511627776)) d):
    ∃e,(m*m+n*n)*(d*d)=1208925819614629174706176*(p*p+q*q)+e/\Ab e (2199023255554*(d*d)):=by
 refine⟨(m*m+n*n)*(d*d)-1208925819614629174706176*(p*p+q*q),by omega,?_⟩
 have a:=r.mul hp
 have b:=t.mul hq
 have c:=r.mul r
 have f:=t.mul t
 have a1:=a.lo;have a2:=a.hi;have b1:=b.lo;have b2:=b.hi;have c1:=c.lo;have c2:=c.hi;have f1:=f.lo;have f2:=f.hi
 have e:4*((m*m+n*n)*(d*d)-1208925819614629174706176*(p*p+q*q))=4398046511104*(2*(m*d-p*1099511627776)*p+2*(n*d-q*1099511627776)*q)+2*(m*d-p*1099511627776)*(2*(m*d-p*1099511627776))+2*(n*d-q*1099511627776)*(2*(n*d-q*1099511627776)):=by grind
 generalize 2*(m*d-p*1099511627776)*p=A at *
 generalize 2*(n*d-q*1099511627776)*q=B at *
 generalize 2*(m*d-p*1099511627776)*(2*(m*d-p*1099511627776))=X at *
 generalize 2*(n*d-q*1099511627776)*(2*(n*d-q*1099511627776))=Y at *
 generalize (m*m+n*n)*(d*d)-1208925819614629174706176*(p*p+q*q)=Z at *
 generalize d*d=D at *
 exact⟨by omega,by omega⟩
theorem Axi{x y z r w c s:Int}(R:Rt r (x*x+y*y+z*z))(W:Rt w (x*x+y*y))(r1:6597069766656<=r)(hc:Ab (2*(c*r-z*1099511627776)) r)(hs:Ab (2*(s*r-w*1099511627776)) r):
    Ab c 1099511627776/\Ab s 1099511627776/\0<=s/\Ab (c*c+s*s-1208925819614629174706176) 4398046511104/\Ab z r/\Ab w r:=by
 have x0:=Bb x;have y0:=Bb y;have z0:=Bb z;have w0:=Bb w
 have zr:Ab z r:=I3 R.n0 (by have:=R.hi;omega)
 have wr:Ab w r:=I3 R.n0 (by have:=R.hi;have:=W.lo;omega)
 have cb:=KI (by omega) zr hc
 have sb:=KI (by omega) wr hs
 have s0:0<=s:=by
  apply Classical.byContradiction
  intro g
  have:=Zn (show 1<=-s by omega) (show 0<=r by omega)
  rw[Int.neg_mul]at this
  have:=hs.lo;have:=W.n0
  omega
 obtain⟨e,h,eb⟩:=Q9 zr wr hc hs
 refine⟨cb,sb,s0,?_,zr,wr⟩
 have e1:(r+1)*(r+1)=r*r+2*r+1:=by grind
 have e2:(w+1)*(w+1)=w*w+2*w+1:=by grind
 have k1:=R.lo;have k2:=R.hi;have k3:=W.lo;have k4:=W.hi
 rw[e1]at k2
 rw[e2]at k4
 have rr:=Zn r1 (show 0<=r by omega)
 have wu:=wr.hi
 have l:=eb.lo;have u:=eb.hi
 refine⟨?_,?_⟩
 ·apply Classical.byContradiction
  intro g
  have:=Zn (show c*c+s*s+1<=1208925819614629174706176-4398046511104 by omega) (show 0<=r*r by omega)
  rw[Int.add_mul]at this
  omega
 ·apply Classical.byContradiction
  intro g
  have:=Zn (show 1208925819614629174706176+4398046511104+1<=c*c+s*s by omega) (show 0<=r*r by omega)
  omega
theorem Axj{x y w u v:Int}(W:Rt w (x*x+y*y))(w1:1048576<=w)(hu:Ab (2*(u*w-x*1099511627776)) w)(hv:Ab (2*(v*w-y*1099511627776)) w):
    Ab u 1099511627776/\Ab v 1099511627776/\u*u+v*v<=1208925819614629174706176+4611686018427387904/\1208925819614629174706176-4398046511104<=u*u+v*v/\Ab x w/\Ab y w:=by
 have x0:=Bb x;have y0:=Bb y
 have xw:Ab x w:=I3 W.n0 (by have:=W.hi;omega)
 have yw:Ab y w:=I3 W.n0 (by have:=W.hi;omega)
 obtain⟨e,h,eb⟩:=Q9 xw yw hu hv
 refine⟨KI (by omega) xw hu,KI (by omega) yw hv,?_,?_,xw,yw⟩
 ·have e2:(w+1)*(w+1)=w*w+2*w+1:=by grind
  have k3:=W.lo;have k4:=W.hi
  rw[e2]at k4
  have ww:=Zn w1 (show 0<=w by omega)
  have ub:=eb.hi
  apply Classical.byContradiction
  intro g
  have:=Zn (show 1208925819614629174706176+4611686018427387904+1<=u*u+v*v by omega) (show 0<=w*w by omega)
  omega
 ·have k3:=W.lo
  have ww:=Zn w1 (show 0<=w by omega)
  have l:=eb.lo
  apply Classical.byContradiction
  intro g
  have:=Zn (show u*u+v*v+1<=1208925819614629174706176-4398046511104 by omega) (show 0<=w*w by omega)
  rw[Int.add_mul]at this
  omega
def I4(bad:Bool)(C S u v:Int):(Int×Int)×Bool:=
 let r1:=mulS bad C u;let r2:=mulS r1.2 S v;let r3:=AJ r2.2 r1.1 r2.1
 let r4:=mulS r3.2 S u;let r5:=mulS r4.2 C v;let r6:=Ap r5.2 r4.1 r5.1
 ((r3.1,r6.1),r6.2)
def wv(u v:Int):Nat->Int×Int
 |0=>(1099511627776,0)
 |m+1=>(I4 false (wv u v m).1 (wv u v m).2 u v).1
structure Lon(u v:Int):Prop where
 ub:Ab u 1099511627776
 vb:Ab v 1099511627776
 hi:u*u+v*v<=1208925819614629174706176+4611686018427387904
theorem Tq{u v C S:Int}(L:Lon u v)(Cb:Ab C 2199023255552)(Sb:Ab S 2199023255552):
    ∃C' S',I4 false C S u v=((C',S'),false)/\1208925819614629174706176*(C'*C'+S'*S')<=(C*C+S*S)*(u*u+v*v)+21778071482940061661655974875633165533184:=by
 obtain⟨m1,h1,q1,b1⟩:=Ax (B:=2199023255553) Cb L.ub (by decide) (by decide) (by decide) (by decide)
 obtain⟨m2,h2,q2,b2⟩:=Ax (B:=2199023255553) Sb L.vb (by decide) (by decide) (by decide) (by decide)
 have h3:=Br b1 b2 (by decide) (by decide) (by decide)
 obtain⟨m4,h4,q4,b4⟩:=Ax (B:=2199023255553) Sb L.ub (by decide) (by decide) (by decide) (by decide)
 obtain⟨m5,h5,q5,b5⟩:=Ax (B:=2199023255553) Cb L.vb (by decide) (by decide) (by decide) (by decide)
 have h6:=BE b4 b5 (by decide) (by decide) (by decide)
 refine⟨m1-m2,m4+m5,by unfold I4;simp only[h1,h2,h3,h4,h5,h6],?_⟩
 have X:Ab (1099511627776*(m1-m2)-(C*u-S*v)) 1099511627776:=by
  have:=q1.lo;have:=q1.hi;have:=q2.lo;have:=q2.hi
  exact⟨by omega,by omega⟩
 have Y:Ab (1099511627776*(m4+m5)-(S*u+C*v)) 1099511627776:=by
  have:=q4.lo;have:=q4.hi;have:=q5.lo;have:=q5.hi
  exact⟨by omega,by omega⟩
 have e:1208925819614629174706176*((m1-m2)*(m1-m2)+(m4+m5)*(m4+m5))=(C*C+S*S)*(u*u+v*v)+(1099511627776*(m1-m2)-(C*u-S*v))*(1099511627776*(m1-m2)+(C*u-S*v))+(1099511627776*(m4+m5)-(S*u+C*v))*(1099511627776*(m4+m5)+(S*u+C*v)):=by grind
 have x1:Ab (1099511627776*(m1-m2)+(C*u-S*v)) 9671406556935849488842784768:=by
  have:=(Cb.mul L.ub).lo;have:=(Cb.mul L.ub).hi;have:=(Sb.mul L.vb).lo;have:=(Sb.mul L.vb).hi
  have:=b1.lo;have:=b1.hi;have:=b2.lo;have:=b2.hi
  exact⟨by omega,by omega⟩
 have y1:Ab (1099511627776*(m4+m5)+(S*u+C*v)) 9671406556935849488842784768:=by
  have:=(Cb.mul L.vb).lo;have:=(Cb.mul L.vb).hi;have:=(Sb.mul L.ub).lo;have:=(Sb.mul L.ub).hi
  have:=b4.lo;have:=b4.hi;have:=b5.lo;have:=b5.hi
  exact⟨by omega,by omega⟩
 have p:=(X.mul x1).hi
 have q:=(Y.mul y1).hi
 generalize (1099511627776*(m1-m2)-(C*u-S*v))*(1099511627776*(m1-m2)+(C*u-S*v))=A at *
 generalize (1099511627776*(m4+m5)-(S*u+C*v))*(1099511627776*(m4+m5)+(S*u+C*v))=B at *
 omega
theorem Wb{u v:Int}(L:Lon u v):∀m:Nat,m<=6->Ab (wv u v m).1 1100000000000/\Ab (wv u v m).2 1100000000000/\(wv u v m).1*(wv u v m).1+(wv u v m).2*(wv u v m).2<=1208925819614629174706176+m*4650000000000000000/\I4 false (wv u v m).1 (wv u v m).2 u v=(wv u v (m+1),false)
 |0,_=>by
  obtain⟨C',S',e,_⟩:=Tq (C:=1099511627776) (S:=0) L ⟨by decide,by decide⟩ ⟨by decide,by decide⟩
  refine⟨⟨by show(-1100000000000:Int)<=1099511627776;decide,by show(1099511627776:Int)<=1100000000000;decide⟩,⟨by show(-1100000000000:Int)<=0;decide,by show(0:Int)<=1100000000000;decide⟩,by show(1099511627776:Int)*1099511627776+0*0<=_;decide,?_⟩
  show I4 false 1099511627776 0 u v=((I4 false 1099511627776 0 u v).1,false)
  rw[e]
 | m+1,hm=>by
  obtain⟨c,s,h,e⟩:=Wb L m (by omega)
  obtain⟨C',S',e',k⟩:=Tq L (c.le (by decide)) (s.le (by decide))
  rw[e]at e'
  have e1:wv u v (m+1)=(C',S'):=congrArg Prod.fst e'
  have c0:=Bb (wv u v m).1;have s0:=Bb (wv u v m).2
  have bd:C'*C'+S'*S'<=1208925819614629174706176+((m:Int)+1)*4650000000000000000:=by
   have p:=Int.mul_le_mul_of_nonneg_left L.hi (show 0<=(wv u v m).1*(wv u v m).1+(wv u v m).2*(wv u v m).2 by omega)
   generalize (wv u v m).1*(wv u v m).1+(wv u v m).2*(wv u v m).2=ρ at *
   have m6:(m:Int)<=5:=by omega
   have m0:(0:Int)<=m:=by omega
   omega
  have sm:Ab C' 1100000000000/\Ab S' 1100000000000:=by
   have a:=Bb C';have b:=Bb S'
   have m6:(m:Int)<=5:=by omega
   exact⟨(I3 (n:=1099999999999) (by decide) (by omega)).le (by decide),(I3 (n:=1099999999999) (by decide) (by omega)).le (by decide)⟩
  obtain⟨C2,S2,e2,_⟩:=Tq L (sm.1.le (by decide)) (sm.2.le (by decide))
  rw[e1]
  refine⟨sm.1,sm.2,by rw[show((m+1:Nat):Int)=(m:Int)+1 by omega];exact bd,?_⟩
  show I4 false C' S' u v=((I4 false (wv u v (m+1)).1 (wv u v (m+1)).2 u v).1,false)
  rw[e1,e2]
theorem ABd(n m:Nat):Ab (fG n m) 32400000000000:=by unfold fG;split<;>exact⟨by decide,by decide⟩
theorem ABe(n m:Nat):Ab (fH n m) 32400000000000:=by unfold fH;split<;>exact⟨by decide,by decide⟩
theorem Ts(n m:Nat):Ab (fGy n m) 40000000000:=by unfold fGy;split<;>exact⟨by decide,by decide⟩
theorem Tt(n m:Nat):Ab (fHy n m) 40000000000:=by unfold fHy;split<;>exact⟨by decide,by decide⟩
def gS(y:Int)(n m:Nat):Int:=if n<=2 then fG n m+(mulS false y (fGy n m)).1 else fG n m
def hS(y:Int)(n m:Nat):Int:=if n<=2 then fH n m+(mulS false y (fHy n m)).1 else fH n m
theorem Ng{y a:Int}(y0:0<=y)(y1:y<=5497558138880)(ha:Ab a 40000000000):∃x,mulS false y a=(x,false)/\min 0 (5*a)<=x/\x<=max 0 (5*a):=by
 obtain⟨x,e,r,_⟩:=Ax (B:=200000000001) (show Ab y 5497558138880 from⟨by omega,y1⟩) ha (by decide) (by decide) (by decide) (by decide)
 refine⟨x,e,?_,?_⟩
 ·by_cases h:0<=a
  ·have:=Zu y0 h
   have:=r.lo
   omega
  ·have:=Int.mul_le_mul_of_nonpos_right y1 (show a<=0 by omega)
   have:=r.lo
   omega
 ·by_cases h:0<=a
  ·have:=Zn y1 h
   have:=r.hi
   omega
  ·have:=Zu y0 (show 0<=-a by omega)
   rw[Int.mul_neg]at this
   have:=r.hi
   omega
theorem Ao8{y:Int}(y0:0<=y)(y1:y<=5497558138880)(n m:Nat):Ab (gS y n m) 35184372088832:=by
 obtain⟨x,e,l,u⟩:=Ng y0 y1 (Ts n m)
 have a:=Ts n m;have b:=ABd n m
 have:=a.lo;have:=a.hi;have:=b.lo;have:=b.hi
 unfold gS
 split
 ·rw[e];exact⟨by show _<=fG n m+x;omega,by show fG n m+x<=_;omega⟩
 ·exact⟨by omega,by omega⟩
theorem Ao9{y:Int}(y0:0<=y)(y1:y<=5497558138880)(n m:Nat):Ab (hS y n m) 35184372088832:=by
 obtain⟨x,e,l,u⟩:=Ng y0 y1 (Tt n m)
 have a:=Tt n m;have b:=ABe n m
 have:=a.lo;have:=a.hi;have:=b.lo;have:=b.hi
 unfold hS
 split
 ·rw[e];exact⟨by show _<=fH n m+x;omega,by show fH n m+x<=_;omega⟩
 ·exact⟨by omega,by omega⟩
def O2(bad:Bool)(n m t C S g h:Int)(x st:V3):V3×Bool:=
 let r1:=mulS bad g C;let r2:=mulS r1.2 h S;let r3:=Ap r2.2 r1.1 r2.1
 let r4:=mulS r3.2 g S;let r5:=mulS r4.2 h C;let r6:=AJ r5.2 r4.1 r5.1
 let r7:=mulS r6.2 r3.1 x.1;let r8:=mulS r7.2 t r7.1;let r9:=Af r8.2 r8.1 (n+1) 1;let r10:=Ap r9.2 st.1 r9.1
 let r11:=mulS r10.2 r3.1 x.2.1;let r12:=mulS r11.2 t r11.1;let r13:=AJ r12.2 st.2.1 r12.1
 if 0<m then
  let r14:=mulS r13.2 r6.1 x.2.2;let r15:=mulS r14.2 t r14.1;let r16:=Af r15.2 r15.1 m 1;let r17:=Ap r16.2 st.2.2 r16.1
  ((r10.1,r13.1,r17.1),r17.2)
 else((r10.1,r13.1,st.2.2),r13.2)
theorem Ra{t e E x:Int}(t0:0<=t)(t1:t<=2199023255552)(xb:Ab x 17592186044416)(eb:Ab e 70400000000002)(he:Ab (e*1099511627776-E) 1099511627776):
    ∃y z,mulS false e x=(y,false)/\mulS false t y=(z,false)/\Ab z 2252800000000070/\Ab (z*1329227995784915872903807060280344576-t*x*E) 45193751856687139678729440049531715584:=by
 obtain⟨y,h1,q1,b1⟩:=Ax (B:=1126400000000033) eb xb (by decide) (by decide) (by decide) (by decide)
 have tb:Ab t 2199023255552:=⟨by omega,t1⟩
 obtain⟨z,h2,q2,b2⟩:=Ax (B:=2252800000000070) tb b1 (by decide) (by decide) (by decide) (by decide)
 refine⟨y,z,h1,h2,b2,?_⟩
 have k:2*(z*1329227995784915872903807060280344576-t*x*E)=1208925819614629174706176*(2*(z*1099511627776-t*y))+1099511627776*(t*(2*(y*1099511627776-e*x)))+2*(t*(x*(e*1099511627776-E))):=by grind
 have a:=tb.mul q1
 have b:=tb.mul (xb.mul he)
 have:=q2.lo;have:=q2.hi;have:=a.lo;have:=a.hi;have:=b.lo;have:=b.hi
 generalize t*(2*(y*1099511627776-e*x))=A at *
 generalize t*(x*(e*1099511627776-E))=B at *
 generalize 2*(z*1099511627776-t*y)=D at *
 generalize z*1329227995784915872903807060280344576-t*x*E=Z at *
 exact⟨by omega,by omega⟩
theorem GN{z k:Int}(hz:Ab z 2252800000000070)(k0:0<=k)(k1:k<=7):Af false z k 1=(z*k,false):=by
 obtain⟨m,e,h1,h2,_⟩:=partS_near z k 1 (hz.numB (by decide)) (B8 ⟨by omega,by omega⟩) (by rfl) (by decide) (by
  have a:=G5 ⟨hz.lo,hz.hi⟩
  have b:sz k<=7:=G5 ⟨by omega,k1⟩
  have:=Zo a b (Mr k).2.2 (by decide)
  omega)
 rw[e]
 have:m=z*k:=by omega
 rw[this]
structure St3(x:V3)(K:Int):Prop where
 a:Ab x.1 K
 b:Ab x.2.1 K
 c:Ab x.2.2 K
theorem Abz{n m t C S g h K:Int}{x st:V3}(n0:0<=n)(n1:n<=6)(m0:0<=m)(m1:m<=6)(t0:0<=t)(t1:t<=2199023255552)(Cb:Ab C 1100000000000)(Sb:Ab S 1100000000000)(gb:Ab g 35184372088832)(hb:Ab h 35184372088832)(sx:KW x)(ss:St3 st K)(hK:K<=1152921504606846976)(K0:0<=K):
    ∃ s',O2 false n m t C S g h x st=(s',false)/\St3 s' (K+15769600000000490)/\
      Ab (1329227995784915872903807060280344576*(s'.1-st.1)-(n+1)*(t*x.1)*(g*C+h*S)) 340282366920938463463374607431768211456/\
      Ab (1329227995784915872903807060280344576*(st.2.1-s'.2.1)-t*x.2.1*(g*C+h*S)) 340282366920938463463374607431768211456/\
      Ab (1329227995784915872903807060280344576*(s'.2.2-st.2.2)-m*(t*x.2.2)*(g*S-h*C)) 340282366920938463463374607431768211456:=by
 obtain⟨v1,h1,q1,b1⟩:=Ax (B:=35200000000001) gb Cb (by decide) (by decide) (by decide) (by decide)
 obtain⟨v2,h2,q2,b2⟩:=Ax (B:=35200000000001) hb Sb (by decide) (by decide) (by decide) (by decide)
 have h3:=BE b1 b2 (by decide) (by decide) (by decide)
 obtain⟨v4,h4,q4,b4⟩:=Ax (B:=35200000000001) gb Sb (by decide) (by decide) (by decide) (by decide)
 obtain⟨v5,h5,q5,b5⟩:=Ax (B:=35200000000001) hb Cb (by decide) (by decide) (by decide) (by decide)
 have h6:=Br b4 b5 (by decide) (by decide) (by decide)
 have eE:Ab ((v1+v2)*1099511627776-(g*C+h*S)) 1099511627776:=by
  have:=q1.lo;have:=q1.hi;have:=q2.lo;have:=q2.hi
  exact⟨by omega,by omega⟩
 have oE:Ab ((v4-v5)*1099511627776-(g*S-h*C)) 1099511627776:=by
  have:=q4.lo;have:=q4.hi;have:=q5.lo;have:=q5.hi
  exact⟨by omega,by omega⟩
 obtain⟨y1,z1,i1,j1,zb1,w1⟩:=Ra t0 t1 sx.p (b1.add b2) eE
 obtain⟨y2,z2,i2,j2,zb2,w2⟩:=Ra t0 t1 sx.d (b1.add b2) eE
 obtain⟨y3,z3,i3,j3,zb3,w3⟩:=Ra t0 t1 sx.q (b4.sub b5) oE
 have p1:=GN (k:=n+1) zb1 (by omega) (by omega)
 have p3:=GN (k:=m) zb3 (by omega) (by omega)
 have c1:Ab (z1*(n+1)) 15769600000000490:=zb1.mul (L:=7) ⟨by omega,by omega⟩
 have c3:Ab (z3*m) 15769600000000490:=zb3.mul (L:=7) ⟨by omega,by omega⟩
 have a1:=BE ss.a c1 (by omega) (by omega) (by decide)
 have a2:=Br ss.b zb2 (by omega) (by omega) (by decide)
 have a3:=BE ss.c c3 (by omega) (by omega) (by decide)
 have f1:Ab (1329227995784915872903807060280344576*(st.1+z1*(n+1)-st.1)-(n+1)*(t*x.1)*(g*C+h*S)) 340282366920938463463374607431768211456:=by
  have k:=w1.mul (y:=n+1) (L:=7) ⟨by omega,by omega⟩
  have e:1329227995784915872903807060280344576*(st.1+z1*(n+1)-st.1)-(n+1)*(t*x.1)*(g*C+h*S)=(z1*1329227995784915872903807060280344576-t*x.1*(g*C+h*S))*(n+1):=by grind
  rw[e]
  exact k.le (by decide)
 have f2:Ab (1329227995784915872903807060280344576*(st.2.1-(st.2.1-z2))-t*x.2.1*(g*C+h*S)) 340282366920938463463374607431768211456:=by
  have e:1329227995784915872903807060280344576*(st.2.1-(st.2.1-z2))-t*x.2.1*(g*C+h*S)=z2*1329227995784915872903807060280344576-t*x.2.1*(g*C+h*S):=by omega
  rw[e]
  exact w2.le (by decide)
 by_cases hm:0<m
 ·refine⟨(st.1+z1*(n+1),st.2.1-z2,st.2.2+z3*m),?_,⟨ss.a.add c1,(ss.b.sub zb2).le (by omega),ss.c.add c3⟩,f1,f2,?_⟩
  ·unfold O2
   simp only[h1,h2,h3,h4,h5,h6,i1,j1,p1,a1,i2,j2,a2,if_pos hm,i3,j3,p3,a3]
  ·have k:=w3.mul (y:=m) (L:=7) ⟨by omega,by omega⟩
   have e:1329227995784915872903807060280344576*(st.2.2+z3*m-st.2.2)-m*(t*x.2.2)*(g*S-h*C)=(z3*1329227995784915872903807060280344576-t*x.2.2*(g*S-h*C))*m:=by grind
   show Ab (1329227995784915872903807060280344576*(st.2.2+z3*m-st.2.2)-m*(t*x.2.2)*(g*S-h*C)) _
   rw[e]
   exact k.le (by decide)
 ·obtain rfl:m=0:=by omega
  refine⟨(st.1+z1*(n+1),st.2.1-z2,st.2.2),?_,⟨ss.a.add c1,(ss.b.sub zb2).le (by omega),ss.c.le (by omega)⟩,f1,f2,?_⟩
  ·unfold O2
   simp only[h1,h2,h3,h4,h5,h6,i1,j1,p1,a1,i2,j2,a2,if_neg hm]
  ·have e:1329227995784915872903807060280344576*(st.2.2-st.2.2)-0*(t*x.2.2)*(g*S-h*C)=0:=by grind
   show Ab (1329227995784915872903807060280344576*(st.2.2-st.2.2)-0*(t*x.2.2)*(g*S-h*C)) _
   rw[e]
   exact⟨by decide,by decide⟩
open Go.RowKit
def cRight(t:Int):Bool:=decide (0<=t)&&decide (t<=157766400000)
def Fe(bad:Bool)(t:Int):Int×Bool:=if cRight t then Af bad 1099511627776 t 86400000 else(0,true)
def Io(t:Int):Int:=rnd (1099511627776*t) 86400000
def Ff(t:Int):Int:=rnd (6908435304716*(t % 86400000)) 86400000
def EK(t:Int):Int:=rnd (18914669620*Io t) 1099511627776
theorem CZ{t:Int}(h0:0<=t)(h1:t<=157766400000):cRight t=true:=by unfold cRight;rw[decide_eq_true h0,decide_eq_true h1];rfl
theorem Ec{t:Int}(h:¬(0<=t/\t<=157766400000)):cRight t=false:=by
 unfold cRight
 by_cases a:0<=t
 ·rw[decide_eq_false (p:=t<=157766400000) (by omega),Bool.and_false]
 ·rw[decide_eq_false a];rfl
theorem GO(t:Int):(0<=t/\t<=157766400000)∨¬(0<=t/\t<=157766400000):=Classical.em _
structure AFi(t:Int):Prop where
 day:Af false 1099511627776 t 86400000=(Io t,false)
 part:Af false 6908435304716 (t % 86400000) 86400000=(Ff t,false)
 mul:mulS false 18914669620 (Io t)=(EK t,false)
 add:Ap false 5399947124839 (Ff t)=(5399947124839+Ff t,false)
 sum:Ap false (5399947124839+Ff t) (EK t)=(5399947124839+Ff t+EK t,false)
 mod:Gl false (5399947124839+Ff t+EK t) 6908435304716=((5399947124839+Ff t+EK t) % 6908435304716,false)
theorem AFj{t:Int}(h0:0<=t)(h1:t<=157766400000):AFi t:=by
 have d0:0<=Io t/\Io t<=2007708232318976:=by unfold Io rnd;omega
 have p0:0<=Ff t/\Ff t<=6908435304716:=by unfold Ff rnd;omega
 have q0:0<=EK t/\EK t<=35000000000000:=by unfold EK rnd;omega
 constructor
 ·exact Tm (by decide) (by decide) h0 (by omega) (by decide) (by decide) (show Io t<=_ by omega)
 ·exact Tm (by decide) (by decide) (by omega) (by omega) (by decide) (by decide) (show Ff t<=_ by omega)
 ·exact Tm (by decide) (by decide) (by omega) (by omega) (by decide) (by decide) (show EK t<=_ by omega)
 ·exact Aoz (by decide) (by omega) (by omega)
 ·exact Aoz (by omega) (by omega) (by omega)
 ·exact AFe (by omega) (by omega) (by decide) (by decide)
theorem Rb{t:Int}(h0:0<=t)(h1:t<=157766400000):Fe false t=(Io t,false):=by unfold Fe;rw[CZ h0 h1,if_pos rfl,(AFj h0 h1).day]
theorem Yz(bad:Bool){t:Int}(h:¬(0<=t/\t<=157766400000)):Fe bad t=(0,true):=by unfold Fe;rw[Ec h];rfl
end
section
def Wc(n m:Nat):Bool:=decide (nIdx n m<27)&&decide (Af false 1099511627776 (Eu (nIdx n m*2)) 10000=(fG n m,false))&&decide (Af false 1099511627776 (Eu (nIdx n m*2+1)) 10000=(fH n m,false))&&
 (if n<=2 then decide (nIdx n m<5)&&decide (Af false 1099511627776 (Gk (nIdx n m*2)) 10000=(fGy n m,false))&&decide (Af false 1099511627776 (Gk (nIdx n m*2+1)) 10000=(fHy n m,false))else decide (5<=nIdx n m))
theorem Af9:((List.range 7).all fun n=>(List.range (n+1)).all fun m=>n==0||Wc n m)=true:=by decide+kernel
theorem O3{n m:Nat}(h1:1<=n)(h6:n<=6)(hm:m<=n):Wc n m=true:=by
 have h:=Zq.1 (Zq.1 Af9 n (Zr.2 (by omega))) m (Zr.2 (by omega))
 have z:(n==0)=false:=by simp;omega
 rw[z,Bool.false_or]at h
 exact h
theorem Rc{n m:Nat}(h1:1<=n)(h6:n<=6)(hm:m<=n):nIdx n m<27/\Af false 1099511627776 (Eu (nIdx n m*2)) 10000=(fG n m,false)/\Af false 1099511627776 (Eu (nIdx n m*2+1)) 10000=(fH n m,false):=by
 have h:=O3 h1 h6 hm
 unfold Wc at h
 simp only[Zp,decide_eq_true_eq]at h
 exact⟨h.1.1.1,h.1.1.2,h.1.2⟩
theorem Ab0{n m:Nat}(h1:1<=n)(h2:n<=2)(hm:m<=n):nIdx n m<5/\Af false 1099511627776 (Gk (nIdx n m*2)) 10000=(fGy n m,false)/\Af false 1099511627776 (Gk (nIdx n m*2+1)) 10000=(fHy n m,false):=by
 have h:=O3 h1 (by omega) hm
 unfold Wc at h
 rw[if_pos h2]at h
 simp only[Zp,decide_eq_true_eq]at h
 exact⟨h.2.1.1,h.2.1.2,h.2.2⟩
theorem Apa{n m:Nat}(h2:¬n<=2)(h6:n<=6)(hm:m<=n):5<=nIdx n m:=by
 have h:=O3 (by omega) h6 hm
 unfold Wc at h
 rw[if_neg h2]at h
 simp only[Zp,decide_eq_true_eq]at h
 exact h.2
def yearS(t:Int):Int:=(AA false (Io t) 401596622045184).1
theorem Tu{t:Int}(h0:0<=t)(h1:t<=157766400000):AA false (Io t) 401596622045184=(yearS t,false)/\0<=yearS t/\yearS t<=5497558138880:=by
 have d1:0<=Io t/\Io t<=2007708232318976:=by unfold Io rnd;omega
 obtain⟨m,e,p1,p2,p3⟩:=partS_near (Io t) 1099511627776 401596622045184 (B8 ⟨by omega,by omega⟩) (by rfl) (by rfl) (by decide) (by
  rw[show sz 1099511627776=1099511627776 by rfl]
  have:=G5 (a:=Io t) (A:=2007708232318976) ⟨by omega,by omega⟩
  omega)
 have e':AA false (Io t) 401596622045184=(m,false):=e
 have h:yearS t=m:=by unfold yearS;rw[e']
 rw[h]
 exact⟨e',p3 (by omega),by omega⟩
structure ABf(y a b x c:Int):Prop where
 hm:mulS false y b=(x,false)
 ha:Ap false a x=(c,false)
theorem Apb{y:Int}(y0:0<=y)(y1:y<=5497558138880){n m:Nat}(h:n<=2):ABf y (fG n m) (fGy n m) (mulS false y (fGy n m)).1 (gS y n m):=by
 obtain⟨x,e,l,u⟩:=Ng y0 y1 (Ts n m)
 have a:=Ts n m;have b:=ABd n m
 have:=a.lo;have:=a.hi;have:=b.lo;have:=b.hi
 refine⟨by rw[e],?_⟩
 unfold gS
 rw[if_pos h,e]
 exact BE (K:=32400000000000) (L:=200000000000) b ⟨by show _<=x;omega,by show x<=_;omega⟩ (by decide) (by decide) (by decide)
theorem Apc{y:Int}(y0:0<=y)(y1:y<=5497558138880){n m:Nat}(h:n<=2):ABf y (fH n m) (fHy n m) (mulS false y (fHy n m)).1 (hS y n m):=by
 obtain⟨x,e,l,u⟩:=Ng y0 y1 (Tt n m)
 have a:=Tt n m;have b:=ABe n m
 have:=a.lo;have:=a.hi;have:=b.lo;have:=b.hi
 refine⟨by rw[e],?_⟩
 unfold hS
 rw[if_pos h,e]
 exact BE (K:=32400000000000) (L:=200000000000) b ⟨by show _<=x;omega,by show x<=_;omega⟩ (by decide) (by decide) (by decide)
abbrev Re(n m t:Int):Prop:=1<=n/\n<=6/\0<=m/\m<=n/\0<=t/\t<=157766400000
def KJ(bad:Bool)(n m t:Int):(Int×Int)×Bool:=if bad=false/\Re n m t then((gS (yearS t) n.toNat m.toNat,hS (yearS t) n.toNat m.toNat),false)else((0,0),true)
theorem Apd{n m t:Int}(h:¬Re n m t):KJ false n m t=((0,0),true):=if_neg (fun k=>h k.2)
theorem Tv{N M:Nat}{t:Int}(h1:1<=N)(h6:N<=6)(hm:M<=N)(t0:0<=t)(t1:t<=157766400000):KJ false (N:Int) (M:Int) t=((gS (yearS t) N M,hS (yearS t) N M),false):=by
 unfold KJ
 rw[if_pos ⟨rfl,by omega,by omega,by omega,by omega,t0,t1⟩,Int.toNat_natCast,Int.toNat_natCast]
open Go.RowKit
def YA:Ct Zm:=Ak Zm 68 Mi (fun _ _=>((),true)) cU (Ae Tryz.func68 (by kernel_rfl) (by kernel_rfl)) (fun b bad _ w _ _ hw=>Lw b bad w hw)
def Cn(bad:Bool)(t:Int):Int×Bool:=if Nx.tickW t then Af bad 1099511627776 t 86400000 else Af true 1099511627776 t 86400000
theorem Ape:Ai Zm 69 (Aa cI) Cn cI:=AZ (tbl:=[Aq Zm 17 (Aa cI) Nx.tickW cB (Ae Tryz.func17 (by kernel_rfl) (by kernel_rfl)) Nx.dTick_ok,YA,KF]) (dirty:=fun _=>[]) (n:=2) xmixA Tryz.func69 rfl (fun bad x Post=>by
    refine Eq.trans (b:=?m) ?x (Eq.symm ?y)
    case y=>unfold Cn;simp only[<-Ld (K:=PK cI Post)];exact rfl
    case x=>kernel_rfl)
def ABg:Ct Zm:=Ak Zm 69 (Aa cI) Cn cI (Ae Tryz.func69 (by kernel_rfl) (by kernel_rfl)) Ape
theorem Ip{t:Int}(h0:0<=t)(h1:t<=157766400000):Cn false t=(Io t,false):=by
 have h:=Rb h0 h1
 unfold Fe at h
 rw[CZ h0 h1,if_pos rfl]at h
 unfold Cn Nx.tickW
 rw[if_pos h0,decide_eq_true h1,if_pos rfl]
 exact h
def nuS(x:Int×Int):Prop:=1<=x.1/\x.1<=6/\0<=x.2/\x.2<=x.1
def AK1:Ct Zm:=Axe Zm 257 (Ac cI (Aa cI)) nuS (fun x=>(Eu (nIdx x.1.toNat x.2.toNat*2),Eu (nIdx x.1.toNat x.2.toNat*2+1))) (Au cI cI) (Ae Tryz.func257 (by kernel_rfl) (by kernel_rfl)) (fun x w h _=>by
 obtain⟨n,m⟩:=x
 obtain⟨h1,h2,h3,h4⟩:=h
 have:=Aoy n.toNat m.toNat w (by omega) (by omega) (by omega)
 rw[Zs (by omega),Zs (by omega)]at this
 exact this)
def AK2:Ct Zm:=Axe Zm 258 (Ac cI (Aa cI)) (fun x=>nuS x/\x.1<=2) (fun x=>(Gk (nIdx x.1.toNat x.2.toNat*2),Gk (nIdx x.1.toNat x.2.toNat*2+1))) (Au cI cI) (Ae Tryz.func258 (by kernel_rfl) (by kernel_rfl)) (fun x w h _=>by
 obtain⟨n,m⟩:=x
 obtain⟨⟨h1,h2,h3,h4⟩,h5⟩:=h
 have:=Af8 n.toNat m.toNat w (by omega) (by omega) (by omega)
 rw[Zs (by omega),Zs (by omega)]at this
 exact this)
def nuT:List (Ct Zm):=[OK,Te,KF,Aos,YA,ABg,AK1,AK2]
def Apf(t:Int)(n m:Nat):(Int×Int)×Bool:=let d:=Cn false t;let g:=Af d.2 1099511627776 (Eu (nIdx n m*2)) 10000;let h:=Af g.2 1099511627776 (Eu (nIdx n m*2+1)) 10000;((g.1,h.1),h.2)
def Axk(t:Int)(n m:Nat):(Int×Int)×Bool:=let d:=Cn false t;let r:=Apf t n m;let y:=AA r.2 d.1 401596622045184;let p:=Af y.2 1099511627776 (Gk (nIdx n m*2)) 10000;let v:=mulS p.2 y.1 p.1;let g:=Ap v.2 r.1.1 v.1;let q:=Af g.2 1099511627776 (Gk (nIdx n m*2+1)) 10000;let u:=mulS q.2 y.1 q.1;let h:=Ap u.2 r.1.2 u.1;((g.1,h.1),h.2)
theorem Aga{P:Program}{tbl:List (Ct P)}{dirty:Nat->List Nat}{n:Nat}:∀(c:Code) (Q:VQ) (vt:List Value) (m:Xm),Ao P tbl dirty n (fun _=>none) c Q vt m=Hm P tbl dirty n c Q vt m:=by
 intro c
 induction c with
 |seq x y ihx ihy=>
  intro Q vt m
  unfold Ao Hm
  rw[ihx]
  congr 1
  funext e vt' m'
  cases e<;>first |exact ihy _ _ _ |rfl
 |cond c x y ihx ihy=>
  intro Q vt m
  unfold Ao Hm
  simp only[ihx,ihy]
  rfl
 |block id c ih=>
  intro Q vt m
  unfold Ao Hm
  exact ih _ _ _
 |loop c ih=>
  intro Q vt m
  unfold Ao Hm
  have:Ao P tbl dirty n (fun _=>none) c=Hm P tbl dirty n c:=by funext Q vt m;exact ih Q vt m
  rw[this]
 |_=>intro Q vt m;rfl
theorem Agb{P:Program}{bs:List Nat}{w0:World}{ds:List Deferred}{bl0:Bl}:∀c:Code,D5 P (fun _=>none) bs w0 ds bl0 c:=by
 intro c
 induction c with
 |region id ops draw=>intro R hR;cases hR
 |seq x y ihx ihy=>exact⟨ihx,ihy⟩
 |cond c x y ihx ihy=>exact⟨ihx,ihy⟩
 |block id c ih=>exact ih
 |loop c ih=>exact ih
 |_=>exact trivial
theorem AK3{n m:Nat}(h:3<=n/\n<=6/\m<=n)(t:Int)(Post:Value->Option Bool->Prop):Hm Zm nuT (fun _=>[]) 2 (An Zm 188) (Bz Zm (Ba Zm 188) (fun v m=>Post v (Ck m))) ([ptr 0,.int .i64 n,.int .i64 m,.int .i64 t]++List.replicate ((Ba Zm 188).ntmps-4) undef) [[.bool false]]=
    AE (Cn false t).2 (Post ((Au cI cI).enc (0,0)) (some (Cn false t).2)) (nuS (n,m)/\Post ((Au cI cI).enc (Apf t n m).1) (some (Apf t n m).2)):=by
 obtain⟨h1,h2,h3⟩:=h
 obtain rfl |rfl |rfl |rfl:n=3∨n=4∨n=5∨n=6:=by omega
 ·obtain rfl |rfl |rfl |rfl:m=0∨m=1∨m=2∨m=3:=by omega
  all_goals kernel_rfl
 ·obtain rfl |rfl |rfl |rfl |rfl:m=0∨m=1∨m=2∨m=3∨m=4:=by omega
  all_goals kernel_rfl
 ·obtain rfl |rfl |rfl |rfl |rfl |rfl:m=0∨m=1∨m=2∨m=3∨m=4∨m=5:=by omega
  all_goals kernel_rfl
 ·obtain rfl |rfl |rfl |rfl |rfl |rfl |rfl:m=0∨m=1∨m=2∨m=3∨m=4∨m=5∨m=6:=by omega
  all_goals kernel_rfl
theorem AK4{n m:Nat}(h:1<=n/\n<=2/\m<=n)(t:Int)(Post:Value->Option Bool->Prop):Hm Zm nuT (fun _=>[]) 2 (An Zm 188) (Bz Zm (Ba Zm 188) (fun v m=>Post v (Ck m))) ([ptr 0,.int .i64 n,.int .i64 m,.int .i64 t]++List.replicate ((Ba Zm 188).ntmps-4) undef) [[.bool false]]=
    AE (Cn false t).2 (Post ((Au cI cI).enc (0,0)) (some (Cn false t).2)) (nuS (n,m)/\(nuS (n,m)/\(n:Int)<=2)/\Post ((Au cI cI).enc (Axk t n m).1) (some (Axk t n m).2)):=by
 obtain⟨h1,h2,h3⟩:=h
 obtain rfl |rfl:n=1∨n=2:=by omega
 ·obtain rfl |rfl:m=0∨m=1:=by omega
  all_goals kernel_rfl
 ·obtain rfl |rfl |rfl:m=0∨m=1∨m=2:=by omega
  all_goals kernel_rfl
theorem Ab1{n m:Nat}(h1:1<=n)(h6:n<=6)(hm:m<=n){t:Int}(t0:0<=t)(t1:t<=157766400000):Apf t n m=((fG n m,fH n m),false):=by
 obtain⟨_,hg,hh⟩:=Rc h1 h6 hm
 unfold Apf
 simp only[Ip t0 t1,hg,hh]
theorem Axl{n m:Nat}(h1:1<=n)(h2:n<=2)(hm:m<=n){t:Int}(t0:0<=t)(t1:t<=157766400000):Axk t n m=((gS (yearS t) n m,hS (yearS t) n m),false):=by
 obtain⟨_,gy,hy⟩:=Ab0 h1 h2 hm
 obtain⟨e,y0,y1⟩:=Tu t0 t1
 obtain⟨g1,g2⟩:=Apb (m:=m) y0 y1 h2
 obtain⟨k1,k2⟩:=Apc (m:=m) y0 y1 h2
 generalize (mulS false (yearS t) (fGy n m)).1=x at g1 g2
 generalize (mulS false (yearS t) (fHy n m)).1=z at k1 k2
 unfold Axk
 simp only[Ip t0 t1,Ab1 h1 (Nat.le_trans h2 (by decide)) hm t0 t1,e,gy,hy,g1,g2,k1,k2]
theorem AK5(n m t:Int)(B:Nat)(w:World)(h:Re n m t)(hg:GW w)(hb:1<B)(hw:Fl B false w):
    Calls Zm 188 (ptr B::(Ac cI (Ac cI (Aa cI))).enc (n,m,t)).toArray w fun e w'=>e=.returned ((Au cI cI).enc (KJ false n m t).1)/\Fl B (KJ false n m t).2 w'/\Ad B w w':=by
 obtain⟨n1,n6,m0,mn,t0,t1⟩:=h
 obtain⟨N,rfl⟩:=Int.eq_ofNat_of_zero_le (show 0<=n by omega)
 obtain⟨M,rfl⟩:=Int.eq_ofNat_of_zero_le m0
 have h1:1<=N:=by omega
 have h6:N<=6:=by omega
 have hm:M<=N:=by omega
 have hz:nuS ((N:Int),(M:Int)):=⟨by omega,by omega,by omega,by omega⟩
 refine Fc (d:=Ac cI (Ac cI (Aa cI))) (x:=((N:Int),(M:Int),t)) (tbl:=nuT) (dirty:=fun _=>[]) (n:=2) (ov:=fun _=>none) (bad':=(KJ false N M t).2) xmixA (by kernel_rfl) (by kernel_rfl) (fun b w=>Agb _) ?_ B w hg hb hw
 rw[Aga]
 rw[Tv h1 h6 hm t0 t1]
 by_cases h2:N<=2
 ·refine Eq.mpr (AK4 ⟨h1,h2,hm⟩ t (fun v f=>v=(Au cI cI).enc ((gS (yearS t) N M,hS (yearS t) N M),false).1/\f=some false)) ?_
  rw[Ip t0 t1,Axl h1 h2 hm t0 t1]
  exact⟨hz,⟨hz,by omega⟩,rfl,rfl⟩
 ·have eg:gS (yearS t) N M=fG N M:=if_neg h2
  have eh:hS (yearS t) N M=fH N M:=if_neg h2
  rw[eg,eh]
  refine Eq.mpr (AK3 ⟨by omega,h6,hm⟩ t (fun v f=>v=(Au cI cI).enc ((fG N M,fH N M),false).1/\f=some false)) ?_
  rw[Ip t0 t1,Ab1 h1 h6 hm t0 t1]
  exact⟨hz,rfl,rfl⟩
end
section
theorem We(c s:Int):∀n m,n<m->tri c s n m=(0,0,0)
 |0,m,h=>by unfold tri;rw[if_neg (by omega)]
 |1,m,h=>by unfold tri;rw[if_neg (by omega),if_neg (by omega)]
 |n+2,m,h=>by unfold tri;rw[if_neg (by omega),if_neg (by omega)]
theorem Tw{f:Nat->Int}{a:Nat}(h:∀k,a<=k->f k=0):∀b,sm f (a+b)=sm f a
 |0=>rfl
 |b+1=>by show sm f (a+b)+f (a+b)=_;rw[Tw h b,h (a+b) (by omega)];omega
section
variable (c s q y u v:Int)
def FN(n:Nat)(st:V3):Nat->V3
 |0=>st
 |m+1=>(O2 false n m (tS q n) (wv u v m).1 (wv u v m).2 (gS y n m) (hS y n m) (tri c s n m) (FN n st m)).1
def Ey:Nat->V3
 |0=>(0,0,0)
 |k+1=>FN c s q y u v (k+1) (Ey k) (k+2)
end
structure Agc(C S Q:Iv)(c s q y u v:Int):Prop where
 L:LW C S Q c s q
 y0:0<=y
 y1:y<=5497558138880
 W:Lon u v
section
variable {C S Q:Iv} {c s q y u v:Int}
theorem Tx(Z:Agc C S Q c s q y u v){k:Nat}(hk:k<6){st:V3}{K:Int}(ss:St3 st K)(K0:0<=K)(hK:K<=900000000000000000):∀m:Nat,m<=k+2->
    St3 (FN c s q y u v (k+1) st m) (K+m*15769600000000490)/\
    Ab (1329227995784915872903807060280344576*((FN c s q y u v (k+1) st m).1-st.1)-sm (fun j=>wU c s q k j*(gS y (k+1) j*(wv u v j).1+hS y (k+1) j*(wv u v j).2)) m) (m*340282366920938463463374607431768211456)/\
    Ab (1329227995784915872903807060280344576*(st.2.1-(FN c s q y u v (k+1) st m).2.1)-sm (fun j=>wS c s q k j*(gS y (k+1) j*(wv u v j).1+hS y (k+1) j*(wv u v j).2)) m) (m*340282366920938463463374607431768211456)/\
    Ab (1329227995784915872903807060280344576*((FN c s q y u v (k+1) st m).2.2-st.2.2)-sm (fun j=>wE c s q k j*(gS y (k+1) j*(wv u v j).2-hS y (k+1) j*(wv u v j).1)) m) (m*340282366920938463463374607431768211456)
 | 0,_=>by
  refine⟨by show St3 st _;simpa using ss,?_,?_,?_⟩
  ·show Ab (1329227995784915872903807060280344576*(st.1-st.1)-0) _
   exact⟨by omega,by omega⟩
  ·show Ab (1329227995784915872903807060280344576*(st.2.1-st.2.1)-0) _
   exact⟨by omega,by omega⟩
  ·show Ab (1329227995784915872903807060280344576*(st.2.2-st.2.2)-0) _
   exact⟨by omega,by omega⟩
 | m+1,hm=>by
  obtain⟨i1,i2,i3,i4⟩:=Tx Z hk ss K0 hK m (by omega)
  obtain⟨_,t0,t1'⟩:=Ao6 Z.L.q0 Z.L.q1 Z.L.iq (k+1) (by omega)
  have t1:tS q (k+1)<=2199023255552:=Int.le_trans t1' (Aby _)
  obtain⟨cb,sb,_,_⟩:=Wb Z.W m (by omega)
  obtain⟨s',e,b,f1,f2,f3⟩:=Abz (n:=((k+1:Nat):Int)) (m:=(m:Int)) (K:=K+m*15769600000000490) (by omega) (by omega) (by omega) (by omega) t0 t1 cb sb (Ao8 Z.y0 Z.y1 (k+1) m) (Ao9 Z.y0 Z.y1 (k+1) m) (Z.L.sm k hk m) i1 (by omega) (by omega)
  have e1:FN c s q y u v (k+1) st (m+1)=s':=by unfold FN;rw[e]
  rw[e1]
  have cst:((k+1:Nat):Int)+1=(k:Int)+2:=by omega
  rw[cst]at f1
  have mm:((m+1:Nat):Int)=(m:Int)+1:=by omega
  rw[mm]
  refine⟨⟨b.a.le (by omega),b.b.le (by omega),b.c.le (by omega)⟩,?_,?_,?_⟩
  ·show Ab (_-(sm _ m+wU c s q k m*(gS y (k+1) m*(wv u v m).1+hS y (k+1) m*(wv u v m).2))) _
   unfold wU at *
   have:=i2.lo;have:=i2.hi;have:=f1.lo;have:=f1.hi
   exact⟨by omega,by omega⟩
  ·show Ab (_-(sm _ m+wS c s q k m*(gS y (k+1) m*(wv u v m).1+hS y (k+1) m*(wv u v m).2))) _
   unfold wS at *
   have:=i3.lo;have:=i3.hi;have:=f2.lo;have:=f2.hi
   exact⟨by omega,by omega⟩
  ·show Ab (_-(sm _ m+wE c s q k m*(gS y (k+1) m*(wv u v m).2-hS y (k+1) m*(wv u v m).1))) _
   unfold wE at *
   have:=i4.lo;have:=i4.hi;have:=f3.lo;have:=f3.hi
   exact⟨by omega,by omega⟩
theorem O4(Z:Agc C S Q c s q y u v):∀k:Nat,k<=6->
    St3 (Ey c s q y u v k) (k*126156800000003920)/\
    Ab (1329227995784915872903807060280344576*(Ey c s q y u v k).1-sm (fun n=>sm (fun j=>wU c s q n j*(gS y (n+1) j*(wv u v j).1+hS y (n+1) j*(wv u v j).2)) 7) k) (k*2722258935367507707706996859454145691648)/\
    Ab (1329227995784915872903807060280344576*-(Ey c s q y u v k).2.1-sm (fun n=>sm (fun j=>wS c s q n j*(gS y (n+1) j*(wv u v j).1+hS y (n+1) j*(wv u v j).2)) 7) k) (k*2722258935367507707706996859454145691648)/\
    Ab (1329227995784915872903807060280344576*(Ey c s q y u v k).2.2-sm (fun n=>sm (fun j=>wE c s q n j*(gS y (n+1) j*(wv u v j).2-hS y (n+1) j*(wv u v j).1)) 7) k) (k*2722258935367507707706996859454145691648)
 | 0,_=>by
  refine⟨⟨⟨by show(-(0*126156800000003920):Int)<=0;decide,by show(0:Int)<=0*126156800000003920;decide⟩,⟨by show(-(0*126156800000003920):Int)<=0;decide,by show(0:Int)<=0*126156800000003920;decide⟩,⟨by show(-(0*126156800000003920):Int)<=0;decide,by show(0:Int)<=0*126156800000003920;decide⟩⟩,?_,?_,?_⟩
  ·show Ab (1329227995784915872903807060280344576*0-0) _
   exact⟨by omega,by omega⟩
  ·show Ab (1329227995784915872903807060280344576*-0-0) _
   exact⟨by omega,by omega⟩
  ·show Ab (1329227995784915872903807060280344576*0-0) _
   exact⟨by omega,by omega⟩
 | k+1,hk=>by
  obtain⟨s0,o1,o2,o3⟩:=O4 Z k (by omega)
  obtain⟨i1,i2,i3,i4⟩:=Tx Z (show k<6 by omega) s0 (by omega) (by omega) (k+2) (Nat.le_refl _)
  have e1:Ey c s q y u v (k+1)=FN c s q y u v (k+1) (Ey c s q y u v k) (k+2):=by rw[Ey]
  have z (j:Nat) (h:k+2<=j):tri c s (k+1) j=(0,0,0):=We c s (k+1) j (by omega)
  have c1:=Tw (f:=fun j=>wU c s q k j*(gS y (k+1) j*(wv u v j).1+hS y (k+1) j*(wv u v j).2)) (a:=k+2) (fun j h=>by show wU c s q k j*_=0;unfold wU;rw[z j h];simp) (5-k)
  have c2:=Tw (f:=fun j=>wS c s q k j*(gS y (k+1) j*(wv u v j).1+hS y (k+1) j*(wv u v j).2)) (a:=k+2) (fun j h=>by show wS c s q k j*_=0;unfold wS;rw[z j h];simp) (5-k)
  have c3:=Tw (f:=fun j=>wE c s q k j*(gS y (k+1) j*(wv u v j).2-hS y (k+1) j*(wv u v j).1)) (a:=k+2) (fun j h=>by show wE c s q k j*_=0;unfold wE;rw[z j h];simp) (5-k)
  rw[show k+2+(5-k)=7 by omega]at c1 c2 c3
  rw[e1]
  have kk:((k+2:Nat):Int)<=8:=by omega
  have k1:((k+1:Nat):Int)=(k:Int)+1:=by omega
  have k2:((k+2:Nat):Int)=(k:Int)+2:=by omega
  rw[k2]at i1 i2 i3 i4
  rw[k1]
  refine⟨⟨i1.a.le (by omega),i1.b.le (by omega),i1.c.le (by omega)⟩,?_,?_,?_⟩
  ·show Ab (_-(sm _ k+sm (fun j=>wU c s q k j*(gS y (k+1) j*(wv u v j).1+hS y (k+1) j*(wv u v j).2)) 7)) _
   rw[c1]
   have:=i2.lo;have:=i2.hi;have:=o1.lo;have:=o1.hi
   exact⟨by omega,by omega⟩
  ·show Ab (_-(sm _ k+sm (fun j=>wS c s q k j*(gS y (k+1) j*(wv u v j).1+hS y (k+1) j*(wv u v j).2)) 7)) _
   rw[c2]
   have:=i3.lo;have:=i3.hi;have:=o2.lo;have:=o2.hi
   exact⟨by omega,by omega⟩
  ·show Ab (_-(sm _ k+sm (fun j=>wE c s q k j*(gS y (k+1) j*(wv u v j).2-hS y (k+1) j*(wv u v j).1)) 7)) _
   rw[c3]
   have:=i4.lo;have:=i4.hi;have:=o3.lo;have:=o3.hi
   exact⟨by omega,by omega⟩
theorem Agd(Z:Agc C S Q c s q y u v){k m:Nat}(hk:k<6)(hm:m<k+2):
    O2 false ((k+1:Nat):Int) m (tS q (k+1)) (wv u v m).1 (wv u v m).2 (gS y (k+1) m) (hS y (k+1) m) (tri c s (k+1) m) (FN c s q y u v (k+1) (Ey c s q y u v k) m)=(FN c s q y u v (k+1) (Ey c s q y u v k) (m+1),false):=by
 obtain⟨s0,_,_,_⟩:=O4 Z k (by omega)
 obtain⟨i1,_,_,_⟩:=Tx Z hk s0 (by omega) (by omega) m (by omega)
 obtain⟨_,t0,t1'⟩:=Ao6 Z.L.q0 Z.L.q1 Z.L.iq (k+1) (by omega)
 have t1:tS q (k+1)<=2199023255552:=Int.le_trans t1' (Aby _)
 obtain⟨cb,sb,_,_⟩:=Wb Z.W m (by omega)
 obtain⟨s',e,_,_,_,_⟩:=Abz (n:=((k+1:Nat):Int)) (m:=(m:Int)) (by omega) (by omega) (by omega) (by omega) t0 t1 cb sb (Ao8 Z.y0 Z.y1 (k+1) m) (Ao9 Z.y0 Z.y1 (k+1) m) (Z.L.sm k hk m) i1 (by omega) (by omega)
 rw[e,show FN c s q y u v (k+1) (Ey c s q y u v k) (m+1)=s' by(conv=>lhs;unfold FN);rw[e]]
end
def Age(bad:Bool)(w:V3)(c s u v:Int):V3×Bool:=
 let r1:=mulS bad w.1 s;let r2:=mulS r1.2 w.2.1 c;let r3:=Ap r2.2 r1.1 r2.1
 let r4:=mulS r3.2 r3.1 u;let r5:=mulS r4.2 w.2.2 v;let r6:=AJ r5.2 r4.1 r5.1
 let r7:=mulS r6.2 r3.1 v;let r8:=mulS r7.2 w.2.2 u;let r9:=Ap r8.2 r7.1 r8.1
 let r10:=mulS r9.2 w.1 c;let r11:=mulS r10.2 w.2.1 s;let r12:=AJ r11.2 r10.1 r11.1
 ((r6.1,r9.1,r12.1),r12.2)
abbrev Strip:=Iv×Iv×List (Iv×Iv)
def Wf(hi:Int):Int->List Iv->Bool
 |lo,[]=>decide (hi<=lo)
 |lo,X::l=>decide (X.1<=lo+1)&&Wf hi X.2 l
theorem LX{hi x:Int}(hx:x<=hi):∀(l:List Iv) (lo:Int),Wf hi lo l=true->lo<x->∃X,X∈l/\X.1<=x/\x<=X.2
 |[],lo,h,k=>by
  have:=of_decide_eq_true h
  omega
 | X::l,lo,h,k=>by
  unfold Wf at h
  simp only[Zp,decide_eq_true_eq]at h
  by_cases c:x<=X.2
  ·exact⟨X,List.mem_cons_self,by omega,c⟩
  ·obtain⟨Y,m,a,b⟩:=LX hx l X.2 h.2 (by omega)
   exact⟨Y,List.mem_cons_of_mem _ m,a,b⟩
def YB(C S:Iv):Bool:=
 decide (1208925819614629174706176+4398046511104<=S.2*S.2+(if C.1<=0/\0<=C.2 then 0 else min (C.1*C.1) (C.2*C.2)))&&decide (0<=S.2)&&
 (decide (S.1<=0)||decide (S.1*S.1+max (C.1*C.1) (C.2*C.2)<=1208925819614629174706176-4398046511104))
def AG(Z:Strip):Bool:=YB Z.1 Z.2.1&&Wf 1098315776674 836129616317 (Z.2.2.map Prod.fst)&&Z.2.2.all fun b=>Ao7 Z.1 Z.2.1 b.1 b.2.1 b.2.2
theorem Apg{C S:Iv}{c s:Int}(ok:YB C S=true)(ic:In C c)(s0:0<=s)(cs:Ab (c*c+s*s-1208925819614629174706176) 4398046511104):In S s:=by
 unfold YB at ok
 simp only[Zp,Bool.or_eq_true,decide_eq_true_eq]at ok
 obtain⟨⟨o1,o2⟩,o3⟩:=ok
 have c1:=ic.lo;have c2:=ic.hi
 have k1:=cs.lo;have k2:=cs.hi
 have cc:=Bb c
 refine Abr ?_ ?_
 ·rcases o3 with h |h
  ·omega
  ·have m:c*c<=max (C.1*C.1) (C.2*C.2):=by
    have:=(Abs (a:=C.1) (b:=C.2) (c:=C.1) (d:=C.2) (x:=c) (y:=c) (by omega) (by omega) (by omega) (by omega)).2
    unfold max4 at this
    have e:=Int.mul_comm C.2 C.1
    have p:=Tn (a:=C.1) (b:=C.2) (x:=C.1) (y:=C.2) (by omega) (by omega)
    have:C.1*C.2<=max (C.1*C.1) (C.2*C.2):=by
     have:=Bb (C.1-C.2)
     have e2:(C.1-C.2)*(C.1-C.2)=C.1*C.1+C.2*C.2-2*(C.1*C.2):=by grind
     omega
    omega
   apply Classical.byContradiction
   intro g
   have:=Zo (show s+1<=S.1 by omega) (show s+1<=S.1 by omega) (by omega) (by omega)
   have e:(s+1)*(s+1)=s*s+2*s+1:=by grind
   omega
 ·have m:(if C.1<=0/\0<=C.2 then 0 else min (C.1*C.1) (C.2*C.2))<=c*c:=by
   split
   ·exact cc
   ·rename_i g
    by_cases h:0<C.1
    ·have:=Zo (show C.1<=c by omega) (show C.1<=c by omega) (by omega) (by omega)
     omega
    ·have:=Zo (show-C.2<=-c by omega) (show-C.2<=-c by omega) (by omega) (by omega)
     rw[Int.neg_mul_neg,Int.neg_mul_neg]at this
     omega
  apply Classical.byContradiction
  intro g
  have:=Zo (show S.2+1<=s by omega) (show S.2+1<=s by omega) (by omega) (by omega)
  have e:(S.2+1)*(S.2+1)=S.2*S.2+2*S.2+1:=by grind
  omega
def Aph:Strip:=
 ((-1099511627776,-1078384820154),(0,214504077539),[((836129616317,967222696495),(-989,139)),((967222696495,1098315776674),(-996,69))])
def Api:Strip:=
 ((-1078384820154,-1052167026225),(214504077516,319171378015),[((836129616317,967222696495),(-882,469)),((967222696495,1098315776674),(-847,529))])
def Apj:Strip:=
 ((-1052167026225,-1015816288660),(319171378000,420764883649),[((836129616317,967222696495),(-765,642)),((967222696495,1032769236584),(-808,587)),((1032769236584,1065542506629),(-808,587)),((1065542506629,1098315776674),(-808,587))])
def Apk:Strip:=
 ((-1015816288660,-993946739174),(420764883637,470101796747),[((836129616317,967222696495),(-718,694)),((967222696495,1098315776674),(-668,742))])
def Apl:Strip:=
 ((-993946739174,-969682684933),(470101796736,518306193442),[((836129616317,967222696495),(-615,787)),((967222696495,1098315776674),(-615,787))])
def Apm:Strip:=
 ((-969682684933,-943082580171),(518306193432,565261945117),[((836129616317,967222696495),(-558,828)),((967222696495,1032769236584),(-668,742)),((1032769236584,1098315776674),(-615,787))])
def Apn:Strip:=
 ((-943082580171,-914210506869),(565261945107,610855931255),[((836129616317,901676156406),(-718,694)),((901676156406,967222696495),(-668,742)),((967222696495,1032769236584),(-615,787)),((1032769236584,1098315776674),(-558,828))])
def Apo:Strip:=
 ((-914210506869,-883136020380),(610855931246,654978311952),[((836129616317,901676156406),(-718,694)),((901676156406,967222696495),(-615,787)),((967222696495,1032769236584),(-558,828)),((1032769236584,1098315776674),(-499,865))])
def App:Strip:=
 ((-883136020380,-849933981864),(654978311943,697522792525),[((836129616317,901676156406),(-668,742)),((901676156406,967222696495),(-615,787)),((967222696495,1032769236584),(-499,865)),((1032769236584,1098315776674),(-438,898))])
def Apq:Strip:=
 ((-849933981864,-814684377941),(697522792517,738386879595),[((836129616317,901676156406),(-615,787)),((901676156406,967222696495),(-558,828)),((967222696495,1032769236584),(-438,898)),((1032769236584,1098315776674),(-438,898))])
def Ab2:Strip:=
 ((-814684377941,-777472127993),(738386879587,777472127998),[((836129616317,901676156406),(-558,828)),((901676156406,967222696495),(-499,865)),((967222696495,1032769236584),(-438,898)),((1032769236584,1065542506629),(-499,865)),((1065542506629,1098315776674),(-438,898))])
def Ab3:Strip:=
 ((-777472127993,-738386879591),(777472127990,814684377945),[((836129616317,901676156406),(-558,828)),((901676156406,967222696495),(-499,865)),((967222696495,1032769236584),(-374,926)),((1032769236584,1065542506629),(-438,898)),((1065542506629,1098315776674),(-438,898))])
def Ab4:Strip:=
 ((-738386879591,-697522792520),(814684377938,849933981869),[((836129616317,901676156406),(-499,865)),((901676156406,967222696495),(-438,898)),((967222696495,1032769236584),(-374,926)),((1032769236584,1065542506629),(-438,898)),((1065542506629,1098315776674),(-374,926))])
def Ab5:Strip:=
 ((-697522792520,-654978311947),(849933981861,883136020384),[((836129616317,901676156406),(-438,898)),((901676156406,967222696495),(-438,898)),((967222696495,999995966539),(-499,865)),((999995966539,1032769236584),(-438,898)),((1032769236584,1065542506629),(-438,898)),((1065542506629,1098315776674),(-374,926))])
def Ab6:Strip:=
 ((-654978311947,-610855931251),(883136020377,914210506872),[((836129616317,901676156406),(-438,898)),((901676156406,967222696495),(-374,926)),((967222696495,999995966539),(-499,865)),((999995966539,1032769236584),(-438,898)),((1032769236584,1065542506629),(-438,898)),((1065542506629,1098315776674),(-374,926))])
def Ab7:Strip:=
 ((-610855931251,-565261945111),(914210506865,943082580175),[((836129616317,901676156406),(-374,926)),((901676156406,967222696495),(-374,926)),((967222696495,999995966539),(-438,898)),((999995966539,1032769236584),(-438,898)),((1032769236584,1065542506629),(-374,926)),((1065542506629,1098315776674),(-374,926))])
def Ab8:Strip:=
 ((-565261945111,-518306193435),(943082580168,969682684937),[((836129616317,901676156406),(-374,926)),((901676156406,967222696495),(-308,950)),((967222696495,1032769236584),(-308,950)),((1032769236584,1065542506629),(-374,926)),((1065542506629,1098315776674),(-374,926))])
def Ab9:Strip:=
 ((-518306193435,-470101796741),(969682684931,993946739177),[((836129616317,901676156406),(-308,950)),((901676156406,967222696495),(-308,950)),((967222696495,1032769236584),(-241,969)),((1032769236584,1065542506629),(-374,926)),((1065542506629,1098315776674),(-374,926))])
def Aca:Strip:=
 ((-470101796741,-420764883642),(993946739171,1015816288663),[((836129616317,901676156406),(-241,969)),((901676156406,967222696495),(-241,969)),((967222696495,1032769236584),(-241,969)),((1032769236584,1065542506629),(-374,926)),((1065542506629,1098315776674),(-374,926))])
def Acb:Strip:=
 ((-420764883642,-319171378006),(1015816288657,1052167026228),[((836129616317,901676156406),(-104,993)),((901676156406,967222696495),(-104,993)),((967222696495,999995966539),(-173,984)),((999995966539,1032769236584),(-173,984)),((1032769236584,1065542506629),(-173,984)),((1065542506629,1098315776674),(-173,984))])
def Acd:Strip:=
 ((-319171378006,-214504077523),(1052167026222,1078384820157),[((836129616317,901676156406),(-34,998)),((901676156406,967222696495),(-34,998)),((967222696495,1032769236584),(-34,998)),((1032769236584,1098315776674),(-34,998))])
def Ace:Strip:=
 ((-214504077523,0),(1078384820151,1099511627778),[((836129616317,901676156406),(-34,998)),((901676156406,967222696495),(-34,998)),((967222696495,1032769236584),(-34,998)),((1032769236584,1098315776674),(-34,998))])
def Acf:Strip:=
 ((0,420764883642),(1015816288657,1099511627778),[((836129616317,901676156406),(34,998)),((901676156406,967222696495),(34,998)),((967222696495,1032769236584),(34,998)),((1032769236584,1098315776674),(34,998))])
def Acg:Strip:=
 ((420764883642,610855931251),(914210506865,1015816288663),[((836129616317,901676156406),(374,926)),((901676156406,967222696495),(241,969)),((967222696495,1032769236584),(104,993)),((1032769236584,1098315776674),(34,998))])
def Ach:Strip:=
 ((610855931251,697522792520),(849933981861,914210506872),[((836129616317,967222696495),(615,787)),((967222696495,1098315776674),(374,926))])
def Aci:Strip:=
 ((697522792520,777472127993),(777472127990,849933981869),[((836129616317,967222696495),(808,587)),((967222696495,1098315776674),(615,787))])
def Acj:Strip:=
 ((777472127993,849933981864),(697522792517,777472127998),[((836129616317,967222696495),(939,341)),((967222696495,1098315776674),(960,275))])
def Ack:Strip:=
 ((849933981864,914210506869),(610855931246,697522792525),[((836129616317,967222696495),(977,207)),((967222696495,1098315776674),(999,0))])
def Acl:Strip:=
 ((914210506869,969682684933),(518306193432,610855931255),[((836129616317,967222696495),(996,69)),((967222696495,1098315776674),(999,0))])
def Acm:Strip:=
 ((969682684933,1015816288660),(420764883637,518306193442),[((836129616317,967222696495),(999,0)),((967222696495,1098315776674),(999,0))])
def Acn:Strip:=
 ((1015816288660,1052167026225),(319171378000,420764883649),[((836129616317,967222696495),(999,0)),((967222696495,1098315776674),(999,0))])
def Aco:Strip:=
 ((1052167026225,1078384820154),(214504077516,319171378015),[((836129616317,967222696495),(999,0)),((967222696495,1098315776674),(999,0))])
def Acp:Strip:=
 ((1078384820154,1099511627776),(0,214504077539),[((836129616317,967222696495),(999,0)),((967222696495,1098315776674),(999,0))])
def strips:List Strip:=[Aph,Api,Apj,Apk,Apl,Apm,Apn,Apo,App,Apq,Ab2,Ab3,Ab4,Ab5,Ab6,Ab7,Ab8,Ab9,Aca,Acb,Acd,Ace,Acf,Acg,Ach,Aci,Acj,Ack,Acl,Acm,Acn,Aco,Acp]
theorem Agf:AG Aph=true:=by decide+kernel
theorem Agg:AG Api=true:=by decide+kernel
theorem Agh:AG Apj=true:=by decide+kernel
theorem Agi:AG Apk=true:=by decide+kernel
theorem Agj:AG Apl=true:=by decide+kernel
theorem Agk:AG Apm=true:=by decide+kernel
theorem Agl:AG Apn=true:=by decide+kernel
theorem Agm:AG Apo=true:=by decide+kernel
theorem Agn:AG App=true:=by decide+kernel
theorem Ago:AG Apq=true:=by decide+kernel
theorem YC:AG Ab2=true:=by decide+kernel
theorem YD:AG Ab3=true:=by decide+kernel
theorem YE:AG Ab4=true:=by decide+kernel
theorem YF:AG Ab5=true:=by decide+kernel
theorem YG:AG Ab6=true:=by decide+kernel
theorem YH:AG Ab7=true:=by decide+kernel
theorem YI:AG Ab8=true:=by decide+kernel
theorem YJ:AG Ab9=true:=by decide+kernel
theorem YK:AG Aca=true:=by decide+kernel
theorem YL:AG Acb=true:=by decide+kernel
theorem YM:AG Acd=true:=by decide+kernel
theorem YN:AG Ace=true:=by decide+kernel
theorem YO:AG Acf=true:=by decide+kernel
theorem YP:AG Acg=true:=by decide+kernel
theorem YQ:AG Ach=true:=by decide+kernel
theorem YR:AG Aci=true:=by decide+kernel
theorem YS:AG Acj=true:=by decide+kernel
theorem YT:AG Ack=true:=by decide+kernel
theorem YU:AG Acl=true:=by decide+kernel
theorem YV:AG Acm=true:=by decide+kernel
theorem YW:AG Acn=true:=by decide+kernel
theorem YX:AG Aco=true:=by decide+kernel
theorem YY:AG Acp=true:=by decide+kernel
theorem Agp:∀Z∈strips,AG Z=true:=by
 intro Z h
 simp only[strips,List.mem_cons,List.not_mem_nil,or_false]at h
 rcases h with rfl |rfl |rfl |rfl |rfl |rfl |rfl |rfl |rfl |rfl |rfl |rfl |rfl |rfl |rfl |rfl |rfl |rfl |rfl |rfl |rfl |rfl |rfl |rfl |rfl |rfl |rfl |rfl |rfl |rfl |rfl |rfl |rfl
 ·exact Agf
 ·exact Agg
 ·exact Agh
 ·exact Agi
 ·exact Agj
 ·exact Agk
 ·exact Agl
 ·exact Agm
 ·exact Agn
 ·exact Ago
 ·exact YC
 ·exact YD
 ·exact YE
 ·exact YF
 ·exact YG
 ·exact YH
 ·exact YI
 ·exact YJ
 ·exact YK
 ·exact YL
 ·exact YM
 ·exact YN
 ·exact YO
 ·exact YP
 ·exact YQ
 ·exact YR
 ·exact YS
 ·exact YT
 ·exact YU
 ·exact YV
 ·exact YW
 ·exact YX
 ·exact YY
theorem Ty:Wf 1099511627776 (-1099511627777) (strips.map Prod.fst)=true:=by decide+kernel
theorem AK6{c s q:Int}(cb:Ab c 1099511627776)(s0:0<=s)(cs:Ab (c*c+s*s-1208925819614629174706176) 4398046511104)(q0:836129616317<q)(q1:q<=1098315776674):
    ∃(C S Q:Iv) (r d:Int),In C c/\In S s/\In Q q/\Ao7 C S Q r d=true:=by
 obtain⟨X,hX,x1,x2⟩:=LX cb.hi _ _ Ty (by have:=cb.lo;omega)
 obtain⟨Z,hZ,rfl⟩:=List.mem_map.1 hX
 have ok:=Agp Z hZ
 unfold AG at ok
 simp only[Zp]at ok
 obtain⟨⟨o1,o2⟩,o3⟩:=ok
 have ic:In Z.1 c:=Abr x1 x2
 obtain⟨Y,hY,y1,y2⟩:=LX q1 _ _ o2 q0
 obtain⟨b,hb,rfl⟩:=List.mem_map.1 hY
 rw[Zq]at o3
 exact⟨Z.1,Z.2.1,b.1,b.2.1,b.2.2,ic,Apg o1 ic s0 cs,Abr y1 y2,o3 b hb⟩
theorem Apr{w:V3}{c s u v:Int}(B:St3 w 756940800000023520)(cb:Ab c 1099511627776)(sb:Ab s 1099511627776)(ub:Ab u 1099511627776)(vb:Ab v 1099511627776):∃x,Age false w c s u v=(x,false):=by
 obtain⟨v1,h1,_,b1⟩:=Ax (B:=756940800000023521) B.a sb (by decide) (by decide) (by decide) (by decide)
 obtain⟨v2,h2,_,b2⟩:=Ax (B:=756940800000023521) B.b cb (by decide) (by decide) (by decide) (by decide)
 have h3:=BE b1 b2 (by decide) (by decide) (by decide)
 have b3:=b1.add b2
 obtain⟨v4,h4,_,b4⟩:=Ax (B:=1513881600000047043) b3 ub (by decide) (by decide) (by decide) (by decide)
 obtain⟨v5,h5,_,b5⟩:=Ax (B:=756940800000023521) B.c vb (by decide) (by decide) (by decide) (by decide)
 have h6:=Br b4 b5 (by decide) (by decide) (by decide)
 obtain⟨v7,h7,_,b7⟩:=Ax (B:=1513881600000047043) b3 vb (by decide) (by decide) (by decide) (by decide)
 obtain⟨v8,h8,_,b8⟩:=Ax (B:=756940800000023521) B.c ub (by decide) (by decide) (by decide) (by decide)
 have h9:=BE b7 b8 (by decide) (by decide) (by decide)
 obtain⟨v10,h10,_,b10⟩:=Ax (B:=756940800000023521) B.a cb (by decide) (by decide) (by decide) (by decide)
 obtain⟨v11,h11,_,b11⟩:=Ax (B:=756940800000023521) B.b sb (by decide) (by decide) (by decide) (by decide)
 have h12:=Br b10 b11 (by decide) (by decide) (by decide)
 exact⟨(v4-v5,v7+v8,v10-v11),by unfold Age;simp only[h1,h2,h3,h4,h5,h6,h7,h8,h9,h10,h11,h12]⟩
abbrev ABh(x y w u v:Int):Prop:=(w<1048576/\u=1099511627776/\v=0)∨(1048576<=w/\AA false x w=(u,false)/\AA false y w=(v,false)/\Ab (2*(u*w-x*1099511627776)) w/\Ab (2*(v*w-y*1099511627776)) w)
structure Acr(p:V3)(y r:Int):Type where
 (w c s u v q:Int)
 (C S:Iv)
 (b:V3)
 W:Rt w (p.1*p.1+p.2.1*p.2.1)
 hw:Ar false p.1 p.2.1 0=(w,false)
 hc:AA false p.2.2 r=(c,false)
 pc:Ab (2*(c*r-p.2.2*1099511627776)) r
 hs:AA false w r=(s,false)
 ps:Ab (2*(s*r-w*1099511627776)) r
 lon:ABh p.1 p.2.1 w u v
 hq:AA false 7005208482886 r=(q,false)
 pq:Ab (2*(q*r-7005208482886*1099511627776)) r
 cb:Ab c 1099511627776
 sb:Ab s 1099511627776
 s0:0<=s
 cs:Ab (c*c+s*s-1208925819614629174706176) 4398046511104
 Z:Agc C S (pt q) c s q y u v
 uv:1208925819614629174706176-4398046511104<=u*u+v*v
 hb:Age false (Ey c s q y u v 6) c s u v=(b,false)
theorem Aps{p:V3}{y r:Int}(hr:Ar false p.1 p.2.1 p.2.2=(r,false))(r0:6597069766656<=r)(r1:r<=10995116277760)(y0:0<=y)(y1:y<=5497558138880):Nonempty (Acr p y r):=by
 obtain⟨_,nx,ny,nz,_,_,R1,R2⟩:=Oz hr
 have R:Rt r (p.1*p.1+p.2.1*p.2.1+p.2.2*p.2.2):=⟨by omega,R1,R2⟩
 have x0:=Bb p.1;have y0':=Bb p.2.1;have z0:=Bb p.2.2
 have rr:=Zo (show r+1<=10995116277761 by omega) (show r+1<=10995116277761 by omega) (by omega) (by decide)
 have hq2:=Dy (p.1*p.1+p.2.1*p.2.1) (by omega) (by omega)
 have W:Rt (isq (p.1*p.1+p.2.1*p.2.1)) (p.1*p.1+p.2.1*p.2.1):=⟨hq2.1,hq2.2.1,hq2.2.2⟩
 have wr:Ab (isq (p.1*p.1+p.2.1*p.2.1)) r:=I3 R.n0 (by have:=R.hi;have:=W.lo;omega)
 have hw:Ar false p.1 p.2.1 0=(isq (p.1*p.1+p.2.1*p.2.1),false):=OA nx ny (by rfl) W.n0 (by have:=wr.hi;omega) (by have:=W.lo;omega) (by have:=W.hi;omega)
 generalize isq (p.1*p.1+p.2.1*p.2.1)=w at *
 have zr:Ab p.2.2 r:=I3 R.n0 (by have:=R.hi;omega)
 obtain⟨c,hc,pc,_⟩:=Ao0 (K:=10995116277760) (B:=2199023255552) (zr.le r1) r0 r1 (by decide) (by decide) (by decide) (by decide) (by decide) (by decide)
 obtain⟨s,hs,ps,_⟩:=Ao0 (K:=10995116277760) (B:=2199023255552) (wr.le r1) r0 r1 (by decide) (by decide) (by decide) (by decide) (by decide) (by decide)
 obtain⟨q,hq,pq,_⟩:=Ao0 (a:=7005208482886) (K:=7005208482886) (B:=1168231104512) ⟨by decide,by decide⟩ r0 r1 (by decide) (by decide) (by decide) (by decide) (by decide) (by decide)
 obtain⟨cb,sb,s0,cs,_,_⟩:=Axi R W r0 pc ps
 have q0:0<=q:=by
  apply Classical.byContradiction
  intro g
  have:=Zn (show 1<=-q by omega) (show 0<=r by omega)
  rw[Int.neg_mul]at this
  have:=pq.lo
  omega
 have q1:q<=1168231104512:=by
  apply Classical.byContradiction
  intro g
  have:=Zo (show 1168231104513<=q by omega) r0 (by decide) (by omega)
  have:=pq.hi
  omega
 have L:∃u v,ABh p.1 p.2.1 w u v/\Lon u v/\1208925819614629174706176-4398046511104<=u*u+v*v:=by
  by_cases h:w<1048576
  ·exact⟨1099511627776,0,Or.inl ⟨h,rfl,rfl⟩,⟨⟨by decide,by decide⟩,⟨by decide,by decide⟩,by decide⟩,by decide⟩
  ·have xw:Ab p.1 w:=I3 W.n0 (by have:=W.hi;omega)
   have yw:Ab p.2.1 w:=I3 W.n0 (by have:=W.hi;omega)
   have w1:w<=10995116277760:=by have:=wr.hi;omega
   have w0:1048576<=w:=by omega
   have go (a:Int) (ha:Ab a w) (na:numB a=true):∃m,AA false a w=(m,false)/\Ab (2*(m*w-a*1099511627776)) w:=by
    obtain⟨m,e,d1,d2,_⟩:=partS_near a 1099511627776 w na (by rfl) (B8 ⟨by omega,by omega⟩) (by omega) (by
     rw[show sz 1099511627776=1099511627776 by rfl]
     have:=G5 ⟨ha.lo,ha.hi⟩
     omega)
    exact⟨m,e,⟨by omega,by omega⟩⟩
   obtain⟨u,hu,pu⟩:=go p.1 xw nx
   obtain⟨v,hv,pv⟩:=go p.2.1 yw ny
   obtain⟨ub,vb,hi,lo,_,_⟩:=Axj W w0 pu pv
   exact⟨u,v,Or.inr ⟨w0,hu,hv,pu,pv⟩,⟨ub,vb,hi⟩,lo⟩
 obtain⟨u,v,la,ln,uv⟩:=L
 obtain⟨C,S,_,_,_,iC,iS,_,ok⟩:=AK6 (q:=1000000000000) cb s0 cs (by decide) (by decide)
 have rows:Tp C S=true:=by
  unfold Ao7 at ok
  simp only[Zp]at ok
  exact ok.1.1.1.1.1.1.1
 have Z:Agc C S (pt q) c s q y u v:=⟨Axh iC iS (Er q) (cb.le (by decide)) (sb.le (by decide)) q0 q1 rows,y0,y1,ln⟩
 obtain⟨st,_,_,_⟩:=O4 Z 6 (by decide)
 obtain⟨b,hb⟩:=Apr (w:=Ey c s q y u v 6) ⟨st.a.le (by decide),st.b.le (by decide),st.c.le (by decide)⟩ cb sb ln.ub ln.vb
 exact⟨⟨w,c,s,u,v,q,C,S,b,W,hw,hc,pc,hs,ps,la,hq,pq,cb,sb,s0,cs,Z,uv,hb⟩⟩
def PX(bad:Bool)(p:V3)(w:Int):(Int×Int)×Bool:=
 if w<1048576 then((1099511627776,0),bad)else(((AA bad p.1 w).1,(AA (AA bad p.1 w).2 p.2.1 w).1),(AA (AA bad p.1 w).2 p.2.1 w).2)
structure GP(p:V3)(t r:Int)(x y z:Int):Type where
 (wn c s u v nr:Int)
 (g tt:Nat->Int)
 (P D Q G H:Nat->Nat->Int)
 (st:Nat->Nat->V3)
 hw:vNormS false (p.1,p.2.1,0)=(wn,false)
 hc:AA false p.2.2 r=(c,false)
 hs:AA false wn r=(s,false)
 hl:PX false p wn=((u,v),false)
 hq:AA false 7005208482886 r=(nr,false)
 g0:g 0=1099511627776
 g7:g 7=0
 W:∀m,m<6->Nonempty (V6 (g m) (g (7+m)) u v (g (m+1)) (g (8+m)))
 Z:Tri c s P D Q
 ic:Cq c
 is:Cq s
 t0:mulS false nr nr=(tt 0,false)
 tn:∀k,k<6->mulS false (tt k) nr=(tt (k+1),false)
 N:∀n m:Nat,1<=n->n<=6->m<=n->KJ false (n:Int) (m:Int) t=((G n m,H n m),false)
 s0:st 1 0=(0,0,0)
 sn:∀n,1<=n->n<=6->st n (n+1)=st (n+1) 0
 T:∀n m:Nat,1<=n->n<=6->m<=n->V8 (n:Int) (m:Int) (tt n) (g m) (g (7+m)) (G n m) (H n m) (P n m) (D n m) (Q n m) (st n m).1 (st n m).2.1 (st n m).2.2 (st n (m+1)).1 (st n (m+1)).2.1 (st n (m+1)).2.2
 V:AE2 c s u v (st 7 0).1 (st 7 0).2.1 (st 7 0).2.2 x y z
theorem AK7{c s b a:Int}{x y z:V3}(hc:Ab c 2199023255552)(hs:Ab s 2199023255552)(hb:Ab b 4398046511104)(ha:Ab a 4398046511104)(sx:KW x)(sy:KW y)(e:entS false c s b a x y=(z,false)):
    Nonempty (Af4 c s b a x.1 x.2.1 y.1 y.2.1 z.1 z.2.1)/\Nonempty (Af5 c b a x.2.2 y.2.2 z.2.2):=by
 obtain⟨v1,h1,q1,b1⟩:=Ax (B:=35184372088833) hc sx.p (by decide) (by decide) (by decide) (by decide)
 obtain⟨v2,h2,q2,b2⟩:=Ax (B:=140737488355333) hb b1 (by decide) (by decide) (by decide) (by decide)
 obtain⟨v3,h3,q3,b3⟩:=Ax (B:=70368744177665) ha sy.p (by decide) (by decide) (by decide) (by decide)
 have h4:=Br b2 b3 (by decide) (by decide) (by decide)
 obtain⟨v5,h5,q5,b5⟩:=Ax (B:=35184372088833) hc sx.d (by decide) (by decide) (by decide) (by decide)
 obtain⟨v6,h6,q6,b6⟩:=Ax (B:=35184372088833) hs sx.p (by decide) (by decide) (by decide) (by decide)
 have h7:=Br b5 b6 (by decide) (by decide) (by decide)
 obtain⟨v8,h8,q8,b8⟩:=Ax (B:=281474976710666) hb (b5.sub b6) (by decide) (by decide) (by decide) (by decide)
 obtain⟨v9,h9,q9,b9⟩:=Ax (B:=70368744177665) ha sy.d (by decide) (by decide) (by decide) (by decide)
 have h10:=Br b8 b9 (by decide) (by decide) (by decide)
 obtain⟨v11,h11,q11,b11⟩:=Ax (B:=35184372088833) hc sx.q (by decide) (by decide) (by decide) (by decide)
 obtain⟨v12,h12,q12,b12⟩:=Ax (B:=140737488355333) hb b11 (by decide) (by decide) (by decide) (by decide)
 obtain⟨v13,h13,q13,b13⟩:=Ax (B:=70368744177665) ha sy.q (by decide) (by decide) (by decide) (by decide)
 have h14:=Br b12 b13 (by decide) (by decide) (by decide)
 unfold entS at e
 simp only[h1,h2,h3,h4,h5,h6,h7,h8,h9,h10,h11,h12,h13,h14]at e
 injection e with e _
 subst e
 exact⟨⟨⟨v1,v2,v3,v5,v6,v5-v6,v8,v9,h1,h2,h3,h4,h5,h6,h7,h8,h9,h10⟩⟩,⟨⟨v11,v12,v13,h11,h12,h13,h14⟩⟩⟩
theorem AK8{n c s j p:Int}{x z:V3}(hp:Af false 1099511627776 (2*n-1) (2*n)=(p,false))(hj':B5 false p=(j,false))(hc:Ab c 2199023255552)(hs:Ab s 2199023255552)(hj:Ab j 4398046511104)(sx:KW x)(e:diaS false c s j x=(z,false)):
    Nonempty (AE1 n c s x.1 x.2.1 x.2.2 z.1 z.2.1 z.2.2):=by
 obtain⟨v1,h1,q1,b1⟩:=Ax (B:=35184372088833) hs sx.p (by decide) (by decide) (by decide) (by decide)
 obtain⟨v2,h2,q2,b2⟩:=Ax (B:=140737488355333) hj b1 (by decide) (by decide) (by decide) (by decide)
 obtain⟨v3,h3,q3,b3⟩:=Ax (B:=35184372088833) hs sx.d (by decide) (by decide) (by decide) (by decide)
 obtain⟨v4,h4,q4,b4⟩:=Ax (B:=35184372088833) hc sx.p (by decide) (by decide) (by decide) (by decide)
 have h5:=BE b3 b4 (by decide) (by decide) (by decide)
 obtain⟨v6,h6,q6,b6⟩:=Ax (B:=281474976710666) hj (b3.add b4) (by decide) (by decide) (by decide) (by decide)
 obtain⟨v7,h7,q7,b7⟩:=Ax (B:=35184372088833) hs sx.q (by decide) (by decide) (by decide) (by decide)
 obtain⟨v8,h8,q8,b8⟩:=Ax (B:=140737488355333) hj b7 (by decide) (by decide) (by decide) (by decide)
 unfold diaS at e
 simp only[h1,h2,h3,h4,h5,h6,h7,h8]at e
 injection e with e _
 subst e
 exact⟨⟨p,j,v1,v3,v4,v3+v4,v7,hp,hj',h1,h2,h3,h4,h5,h6,h7,h8⟩⟩
theorem AFk{C S u v C' S':Int}(L:Lon u v)(Cb:Ab C 2199023255552)(Sb:Ab S 2199023255552)(e:I4 false C S u v=((C',S'),false)):Nonempty (V6 C S u v C' S'):=by
 obtain⟨m1,h1,q1,b1⟩:=Ax (B:=2199023255553) Cb L.ub (by decide) (by decide) (by decide) (by decide)
 obtain⟨m2,h2,q2,b2⟩:=Ax (B:=2199023255553) Sb L.vb (by decide) (by decide) (by decide) (by decide)
 have h3:=Br b1 b2 (by decide) (by decide) (by decide)
 obtain⟨m4,h4,q4,b4⟩:=Ax (B:=2199023255553) Sb L.ub (by decide) (by decide) (by decide) (by decide)
 obtain⟨m5,h5,q5,b5⟩:=Ax (B:=2199023255553) Cb L.vb (by decide) (by decide) (by decide) (by decide)
 have h6:=BE b4 b5 (by decide) (by decide) (by decide)
 unfold I4 at e
 simp only[h1,h2,h3,h4,h5,h6]at e
 injection e with e _
 injection e with e1 e2
 subst e1 e2
 exact⟨⟨m1,m2,m4,m5,h1,h2,h3,h4,h5,h6⟩⟩
theorem AFl{n m t C S g h K:Int}{x st s':V3}(n0:0<=n)(n1:n<=6)(m0:0<=m)(m1:m<=6)(t0:0<=t)(t1:t<=2199023255552)(Cb:Ab C 1100000000000)(Sb:Ab S 1100000000000)(gb:Ab g 35184372088832)(hb:Ab h 35184372088832)(sx:KW x)(ss:St3 st K)(hK:K<=1152921504606846976)(K0:0<=K)
    (e:O2 false n m t C S g h x st=(s',false)):Nonempty (V8 n m t C S g h x.1 x.2.1 x.2.2 st.1 st.2.1 st.2.2 s'.1 s'.2.1 s'.2.2):=by
 obtain⟨v1,h1,q1,b1⟩:=Ax (B:=35200000000001) gb Cb (by decide) (by decide) (by decide) (by decide)
 obtain⟨v2,h2,q2,b2⟩:=Ax (B:=35200000000001) hb Sb (by decide) (by decide) (by decide) (by decide)
 have h3:=BE b1 b2 (by decide) (by decide) (by decide)
 obtain⟨v4,h4,q4,b4⟩:=Ax (B:=35200000000001) gb Sb (by decide) (by decide) (by decide) (by decide)
 obtain⟨v5,h5,q5,b5⟩:=Ax (B:=35200000000001) hb Cb (by decide) (by decide) (by decide) (by decide)
 have h6:=Br b4 b5 (by decide) (by decide) (by decide)
 have eE:Ab ((v1+v2)*1099511627776-(g*C+h*S)) 1099511627776:=by
  have:=q1.lo;have:=q1.hi;have:=q2.lo;have:=q2.hi
  exact⟨by omega,by omega⟩
 have oE:Ab ((v4-v5)*1099511627776-(g*S-h*C)) 1099511627776:=by
  have:=q4.lo;have:=q4.hi;have:=q5.lo;have:=q5.hi
  exact⟨by omega,by omega⟩
 obtain⟨y1,z1,i1,j1,zb1,_⟩:=Ra t0 t1 sx.p (b1.add b2) eE
 obtain⟨y2,z2,i2,j2,zb2,_⟩:=Ra t0 t1 sx.d (b1.add b2) eE
 obtain⟨y3,z3,i3,j3,zb3,_⟩:=Ra t0 t1 sx.q (b4.sub b5) oE
 have p1:=GN (k:=n+1) zb1 (by omega) (by omega)
 have p3:=GN (k:=m) zb3 (by omega) (by omega)
 have c1:Ab (z1*(n+1)) 15769600000000490:=zb1.mul (L:=7) ⟨by omega,by omega⟩
 have c3:Ab (z3*m) 15769600000000490:=zb3.mul (L:=7) ⟨by omega,by omega⟩
 have a1:=BE ss.a c1 (by omega) (by omega) (by decide)
 have a2:=Br ss.b zb2 (by omega) (by omega) (by decide)
 have a3:=BE ss.c c3 (by omega) (by omega) (by decide)
 unfold O2 at e
 by_cases hm:0<m
 ·simp only[h1,h2,h3,h4,h5,h6,i1,j1,p1,a1,i2,j2,a2,if_pos hm,i3,j3,p3,a3]at e
  injection e with e _
  subst e
  exact⟨⟨v1,v2,v1+v2,v4,v5,v4-v5,y1,z1,z1*(n+1),y2,z2,y3,z3,z3*m,h1,h2,h3,h4,h5,h6,i1,j1,p1,a1,i2,j2,a2,i3,j3,p3,a3,fun h=>absurd h (by omega)⟩⟩
 ·simp only[h1,h2,h3,h4,h5,h6,i1,j1,p1,a1,i2,j2,a2,if_neg hm]at e
  injection e with e _
  subst e
  obtain rfl:m=0:=by omega
  rw[Int.mul_zero,Int.add_zero]at a3
  rw[Int.mul_zero]at p3
  exact⟨⟨v1,v2,v1+v2,v4,v5,v4-v5,y1,z1,z1*(n+1),y2,z2,y3,z3,0,h1,h2,h3,h4,h5,h6,i1,j1,p1,a1,i2,j2,a2,i3,j3,p3,a3,fun _=>rfl⟩⟩
theorem AK9{w b:V3}{c s u v:Int}(B:St3 w 756940800000023520)(cb:Ab c 1099511627776)(sb:Ab s 1099511627776)(ub:Ab u 1099511627776)(vb:Ab v 1099511627776)(e:Age false w c s u v=(b,false)):
    Nonempty (AE2 c s u v w.1 w.2.1 w.2.2 b.1 b.2.1 b.2.2)/\St3 b 2270822400000070564:=by
 obtain⟨v1,h1,_,b1⟩:=Ax (B:=756940800000023521) B.a sb (by decide) (by decide) (by decide) (by decide)
 obtain⟨v2,h2,_,b2⟩:=Ax (B:=756940800000023521) B.b cb (by decide) (by decide) (by decide) (by decide)
 have h3:=BE b1 b2 (by decide) (by decide) (by decide)
 have b3:=b1.add b2
 obtain⟨v4,h4,_,b4⟩:=Ax (B:=1513881600000047043) b3 ub (by decide) (by decide) (by decide) (by decide)
 obtain⟨v5,h5,_,b5⟩:=Ax (B:=756940800000023521) B.c vb (by decide) (by decide) (by decide) (by decide)
 have h6:=Br b4 b5 (by decide) (by decide) (by decide)
 obtain⟨v7,h7,_,b7⟩:=Ax (B:=1513881600000047043) b3 vb (by decide) (by decide) (by decide) (by decide)
 obtain⟨v8,h8,_,b8⟩:=Ax (B:=756940800000023521) B.c ub (by decide) (by decide) (by decide) (by decide)
 have h9:=BE b7 b8 (by decide) (by decide) (by decide)
 obtain⟨v10,h10,_,b10⟩:=Ax (B:=756940800000023521) B.a cb (by decide) (by decide) (by decide) (by decide)
 obtain⟨v11,h11,_,b11⟩:=Ax (B:=756940800000023521) B.b sb (by decide) (by decide) (by decide) (by decide)
 have h12:=Br b10 b11 (by decide) (by decide) (by decide)
 unfold Age at e
 simp only[h1,h2,h3,h4,h5,h6,h7,h8,h9,h10,h11,h12]at e
 injection e with e _
 subst e
 exact⟨⟨⟨v1,v2,v1+v2,v4,v5,v7,v8,v10,v11,h1,h2,h3,h4,h5,h6,h7,h8,h9,h10,h11,h12⟩⟩,⟨(b4.sub b5).le (by decide),(b7.add b8).le (by decide),(b10.sub b11).le (by decide)⟩⟩
def Apt(k m:Nat):Bool:=decide ((FF false ((k:Int)+1) (m:Int)).2=false)&&decide ((FF false ((k:Int)+1-1) (m:Int)).2=false)&&decide (AA false (FF false ((k:Int)+1-1) (m:Int)).1 (FF false ((k:Int)+1) (m:Int)).1=(fA (k+1) m,false))&&
 decide ((Af false 1099511627776 (2*((k:Int)+1)-1) 1).2=false)&&decide (AA false (Af false 1099511627776 (2*((k:Int)+1)-1) 1).1 (FF false ((k:Int)+1) (m:Int)).1=(fB (k+1) m,false))
theorem YZ:((List.range 6).all fun k=>(List.range (k+1)).all fun m=>Apt k m)=true:=by decide+kernel
theorem AFm{k m:Nat}(hk:k<6)(hm:m<k+1):Nonempty (V5 ((k:Int)+1) (m:Int) (fA (k+1) m) (fB (k+1) m)):=by
 have h:=Zq.1 (Zq.1 YZ k (Zr.2 hk)) m (Zr.2 hm)
 unfold Apt at h
 simp only[Zp,decide_eq_true_eq]at h
 exact⟨⟨_,_,_,Prod.ext rfl h.1.1.1.1,Prod.ext rfl h.1.1.1.2,h.1.1.2,Prod.ext rfl h.1.2,h.2⟩⟩
def Apu(k:Nat):Bool:=decide ((Af false 1099511627776 (2*((k:Int)+1)-1) (2*((k:Int)+1))).2=false)&&decide (B5 false (Af false 1099511627776 (2*((k:Int)+1)-1) (2*((k:Int)+1))).1=(fJ (k+1),false))
theorem Y0:((List.range 6).all fun k=>k==0||Apu k)=true:=by decide+kernel
theorem AFn{k:Nat}(h1:1<=k)(hk:k<6):∃p,Af false 1099511627776 (2*((k:Int)+1)-1) (2*((k:Int)+1))=(p,false)/\B5 false p=(fJ (k+1),false):=by
 have h:=Zq.1 Y0 k (Zr.2 hk)
 have z:(k==0)=false:=by simp;omega
 rw[z,Bool.false_or]at h
 unfold Apu at h
 simp only[Zp,decide_eq_true_eq]at h
 exact⟨_,Prod.ext rfl h.1,h.2⟩
theorem Apv{c b a x y z:Int}(hc:Ab c 2199023255552)(hb:Ab b 4398046511104)(ha:Ab a 4398046511104)(hx:x=0)(hy:y=0)(T:Af5 c b a x y z):z=0:=by
 subst hx hy
 have nul (k:Int) (K:Int) (hk:Ab k K) (K1:K<=4398046511104) (v:Int) (e:mulS false k 0=(v,false)):v=0:=by
  obtain⟨v',e',q,_⟩:=Ax (a:=k) (b:=0) (K:=4398046511104) (L:=0) (B:=1) (hk.le K1) ⟨by decide,by decide⟩ (by decide) (by decide) (by decide) (by decide)
  rw[e]at e'
  injection e' with e' _
  subst e'
  have:=q.lo;have:=q.hi
  omega
 have h1:=nul c _ hc (by decide) _ T.h1
 have h2:=T.h2
 rw[h1]at h2
 have h2:=nul b _ hb (by decide) _ h2
 have h3:=nul a _ ha (by decide) _ T.h3
 have h4:=T.h4
 rw[h2,h3]at h4
 have e:=Br (a:=0) (b:=0) (K:=0) (L:=0) ⟨by decide,by decide⟩ ⟨by decide,by decide⟩ (by decide) (by decide) (by decide)
 rw[e]at h4
 injection h4 with h4 _
 omega
section
variable {C S Q:Iv} {c s q y u v:Int}
theorem LW.sm0(L:LW C S Q c s q)(n m:Nat)(hn:n<=6):KW (tri c s n m):=by
 cases n with
 |zero=>
  unfold tri
  split
  ·exact KW.one
  ·exact KW.zero
 |succ n=>exact L.sm n (by omega) m
theorem LW.smb(L:LW C S Q c s q)(n m:Nat)(hn:n<6):KW (if n=0 then(0,0,0)else tri c s (n-1) m):=by
 split
 ·exact KW.zero
 ·exact L.sm0 (n-1) m (by omega)
theorem LW.steps(L:LW C S Q c s q){k m:Nat}(hk:k<6)(hm:m<k+1):
    Nonempty (Af4 c s (fB (k+1) m) (fA (k+1) m) (tri c s k m).1 (tri c s k m).2.1 (low (fun n m=>(tri c s n m).1) k m) (low (fun n m=>(tri c s n m).2.1) k m) (tri c s (k+1) m).1 (tri c s (k+1) m).2.1)/\
    Nonempty (Af5 c (fB (k+1) m) (fA (k+1) m) (tri c s k m).2.2 (low (fun n m=>(tri c s n m).2.2) k m) (tri c s (k+1) m).2.2):=by
 obtain⟨x,e,rfl⟩:=L.ent k hk m hm
 have h:=AK7 L.cb L.sb (Abu _ _) (Abt _ _) (L.sm0 k m (by omega)) (L.smb k m hk) e
 have e1:(if k=0 then((0,0,0):V3)else tri c s (k-1) m)=(low (fun n m=>(tri c s n m).1) k m,low (fun n m=>(tri c s n m).2.1) k m,low (fun n m=>(tri c s n m).2.2) k m):=by
  unfold low
  by_cases k0:k=0
  ·rw[if_pos k0,if_neg (by omega),if_neg (by omega),if_neg (by omega)]
  ·rw[if_neg k0]
   by_cases g:m+1<=k
   ·rw[if_pos (by omega),if_pos (by omega),if_pos (by omega)]
   ·rw[if_neg (by omega),if_neg (by omega),if_neg (by omega),We c s (k-1) m (by omega)]
 rw[e1]at h
 exact h
theorem LW.qz(L:LW C S Q c s q):∀n,n<=6->(tri c s n 0).2.2=0
 |0,_=>rfl
 |n+1,hn=>by
  obtain⟨T⟩:=(L.steps (k:=n) (m:=0) (by omega) (by omega)).2
  refine Apv L.cb (Abu _ _) (Abt _ _) (L.qz n (by omega)) ?_ T
  unfold low
  split
  ·exact L.qz (n-1) (by omega)
  ·rfl
theorem O5{x K:Int}(h:Ab x K)(hK:K<=4611686018427387904):Cq x:=⟨by have:=h.lo;omega,by have:=h.hi;omega⟩
theorem LW.tri(L:LW C S Q c s q):Nonempty (Tri c s (fun n m=>(tri c s n m).1) (fun n m=>(tri c s n m).2.1) (fun n m=>(tri c s n m).2.2)):=by
 have e11:Go.Proofs.YtoadcnhcfodkgaaGreatDoor.tri c s 1 1=(s,c,1099511627776):=by unfold Go.Proofs.YtoadcnhcfodkgaaGreatDoor.tri;rw[if_neg (by decide),if_pos rfl]
 refine⟨⟨rfl,rfl,rfl,by rw[e11],by rw[e11],by rw[e11],L.qz,fun k m=>fA (k+1) m,fun k m=>fB (k+1) m,fun k m hk hm=>Classical.choice (AFm hk hm),fun k m hk hm=>Classical.choice (L.steps hk hm).1,fun k m hk hm=>Classical.choice (L.steps hk hm).2,fun k h1 hk=>Classical.choice ?_,
  fun n m hn=>O5 (L.sm0 n m hn).p (by decide),fun n m hn=>O5 (L.sm0 n m hn).d (by decide),fun n m hn=>O5 (L.sm0 n m hn).q (by decide)⟩⟩
 obtain⟨p,hp,hj⟩:=AFn h1 hk
 obtain⟨j,rfl⟩:∃j,k=j+1:=⟨k-1,by omega⟩
 exact AK8 hp hj L.cb L.sb (ABb _) (L.sm0 (j+1) (j+1) (by omega)) (L.dia j (by omega))
theorem Axm(L:LW C S Q c s q):mulS false q q=(tS q 0,false)/\∀k,k<6->mulS false (tS q k) q=(tS q (k+1),false):=by
 have q0:=L.q0;have q1:=L.q1
 constructor
 ·obtain⟨m,e,_,_⟩:=Ax (a:=q) (b:=q) (K:=1168231104512) (L:=1168231104512) (B:=2199023255552) ⟨by omega,q1⟩ ⟨by omega,q1⟩ (by decide) (by decide) (by decide) (by decide)
  show _=((mulS false q q).1,false)
  rw[e]
 ·intro k hk
  obtain⟨_,t0,t1⟩:=Ao6 q0 q1 L.iq k (by omega)
  have t2:=Aby k
  obtain⟨m,e,_,_⟩:=Ax (a:=tS q k) (b:=q) (K:=2199023255552) (L:=1168231104512) (B:=4398046511104) ⟨by omega,by omega⟩ ⟨by omega,q1⟩ (by decide) (by decide) (by decide) (by decide)
  show _=((mulS false (tS q k) q).1,false)
  rw[e]
theorem Y1(Z:Agc C S Q c s q y u v){n m:Nat}(h1:1<=n)(h6:n<=6)(hm:m<=n):
    Nonempty (V8 (n:Int) (m:Int) (tS q n) (wv u v m).1 (wv u v m).2 (gS y n m) (hS y n m) (tri c s n m).1 (tri c s n m).2.1 (tri c s n m).2.2 (FN c s q y u v n (Ey c s q y u v (n-1)) m).1 (FN c s q y u v n (Ey c s q y u v (n-1)) m).2.1 (FN c s q y u v n (Ey c s q y u v (n-1)) m).2.2
      (FN c s q y u v n (Ey c s q y u v (n-1)) (m+1)).1 (FN c s q y u v n (Ey c s q y u v (n-1)) (m+1)).2.1 (FN c s q y u v n (Ey c s q y u v (n-1)) (m+1)).2.2):=by
 obtain⟨k,rfl⟩:∃k,n=k+1:=⟨n-1,by omega⟩
 rw[show k+1-1=k by omega]
 have hk:k<6:=by omega
 obtain⟨s0,_,_,_⟩:=O4 Z k (by omega)
 obtain⟨i1,_,_,_⟩:=Tx Z hk s0 (by omega) (by omega) m (by omega)
 obtain⟨_,t0,t1'⟩:=Ao6 Z.L.q0 Z.L.q1 Z.L.iq (k+1) (by omega)
 have t1:tS q (k+1)<=2199023255552:=Int.le_trans t1' (Aby _)
 obtain⟨cb,sb,_,_⟩:=Wb Z.W m (by omega)
 exact AFl (n:=((k+1:Nat):Int)) (m:=(m:Int)) (by omega) (by omega) (by omega) (by omega) t0 t1 cb sb (Ao8 Z.y0 Z.y1 (k+1) m) (Ao9 Z.y0 Z.y1 (k+1) m) (Z.L.sm k hk m) i1 (by omega) (by omega) (Agd Z hk (by omega))
end
def I5(u v:Int)(m:Nat):Int:=if m<7 then(wv u v m).1 else(wv u v (m-7)).2
theorem Acr.steps{p:V3}{t r:Int}(E:Acr p (yearS t) r)(t0:0<=t)(t1:t<=157766400000):Nonempty (GP p t r E.b.1 E.b.2.1 E.b.2.2)/\St3 E.b 2270822400000070564:=by
 obtain⟨Z⟩:=E.Z.L.tri
 obtain⟨h0,hn⟩:=Axm E.Z.L
 have wi:=E.Z.W
 obtain⟨st,_,_,_⟩:=O4 E.Z 6 (by decide)
 obtain⟨⟨V⟩,sb⟩:=AK9 (w:=Ey E.c E.s E.q (yearS t) E.u E.v 6) ⟨st.a.le (by decide),st.b.le (by decide),st.c.le (by decide)⟩ E.cb E.sb wi.ub wi.vb E.hb
 refine⟨⟨⟨E.w,E.c,E.s,E.u,E.v,E.q,I5 E.u E.v,tS E.q,_,_,_,gS (yearS t),hS (yearS t),fun n m=>FN E.c E.s E.q (yearS t) E.u E.v n (Ey E.c E.s E.q (yearS t) E.u E.v (n-1)) m,?_,E.hc,E.hs,?_,E.hq,rfl,rfl,?_,Z,O5 E.cb (by decide),O5 E.sb (by decide),h0,hn,fun n m h1 h6 hm=>Tv h1 h6 hm t0 t1,rfl,?_,?_,V⟩⟩,sb⟩
 ·unfold vNormS
  show((Ar false p.1 p.2.1 0).1,(Ar false p.1 p.2.1 0).2)=_
  rw[E.hw]
 ·unfold PX
  rcases E.lon with⟨h,hu,hv⟩|⟨h,hu,hv,_,_⟩
  ·rw[if_pos h,hu,hv]
  ·rw[if_neg (by omega),hu]
   show((E.u,(AA false p.2.1 E.w).1),(AA false p.2.1 E.w).2)=_
   rw[hv]
 ·intro m hm
  obtain⟨a,b,_,e⟩:=Wb wi m (by omega)
  have e1:I5 E.u E.v m=(wv E.u E.v m).1:=if_pos (by omega)
  have e2:I5 E.u E.v (7+m)=(wv E.u E.v m).2:=by unfold I5;rw[if_neg (by omega),show 7+m-7=m by omega]
  have e3:I5 E.u E.v (m+1)=(wv E.u E.v (m+1)).1:=if_pos (by omega)
  have e4:I5 E.u E.v (8+m)=(wv E.u E.v (m+1)).2:=by unfold I5;rw[if_neg (by omega),show 8+m-7=m+1 by omega]
  rw[e1,e2,e3,e4]
  exact AFk wi (a.le (by decide)) (b.le (by decide)) e
 ·intro n h1 h6
  obtain⟨k,rfl⟩:∃k,n=k+1:=⟨n-1,by omega⟩
  show FN _ _ _ _ _ _ (k+1) (Ey _ _ _ _ _ _ (k+1-1)) (k+1+1)=Ey _ _ _ _ _ _ (k+1+1-1)
  rw[show k+1-1=k by omega,show k+1+1-1=k+1 by omega]
  conv=>rhs;unfold Ey
 ·intro n m h1 h6 hm
  have e1:I5 E.u E.v m=(wv E.u E.v m).1:=if_pos (by omega)
  have e2:I5 E.u E.v (7+m)=(wv E.u E.v m).2:=by unfold I5;rw[if_neg (by omega),show 7+m-7=m by omega]
  rw[e1,e2]
  exact Classical.choice (Y1 E.Z h1 h6 hm)
def JE(p:V3):Int×Bool:=Ar false p.1 p.2.1 p.2.2
abbrev KL(p:V3)(t:Int):Prop:=(JE p).2=false/\6597069766656<=(JE p).1/\(JE p).1<=10995116277760/\0<=t/\t<=157766400000
def Axn(p:V3):Int:=(AA false p.2.2 (JE p).1).1
def Axo(p:V3):Int:=(Ar false p.1 p.2.1 0).1
def Acs(p:V3):Int:=(AA false (Axo p) (JE p).1).1
def AFo(p:V3):Int:=(AA false 7005208482886 (JE p).1).1
def Agq(p:V3):Int×Int:=(PX false p (Axo p)).1
def PY(p:V3)(t:Int):V3:=(Age false (Ey (Axn p) (Acs p) (AFo p) (yearS t) (Agq p).1 (Agq p).2 6) (Axn p) (Acs p) (Agq p).1 (Agq p).2).1
def D3(bad:Bool)(p:V3)(t:Int):V3×Bool:=if bad=false/\KL p t then(PY p t,false)else((0,0,0),true)
theorem Axp{p:V3}{t r:Int}(E:Acr p (yearS t) r)(hr:Ar false p.1 p.2.1 p.2.2=(r,false)):PY p t=E.b:=by
 have e0:JE p=(r,false):=hr
 have e1:Axn p=E.c:=by unfold Axn;rw[e0,E.hc]
 have e2:Axo p=E.w:=by unfold Axo;rw[E.hw]
 have e3:Acs p=E.s:=by unfold Acs;rw[e0,e2,E.hs]
 have e4:AFo p=E.q:=by unfold AFo;rw[e0,E.hq]
 have e5:Agq p=(E.u,E.v):=by
  unfold Agq PX
  rw[e2]
  rcases E.lon with⟨h,hu,hv⟩|⟨h,hu,hv,_,_⟩
  ·rw[if_pos h,hu,hv]
  ·rw[if_neg (by omega),hu]
   show(E.u,(AA false p.2.1 E.w).1)=_
   rw[hv]
 unfold PY
 rw[e1,e3,e4,e5,E.hb]
theorem LY(p:V3)(t:Int):D3 true p t=((0,0,0),true):=if_neg (fun h=>by cases h.1)
theorem Wg{p:V3}{t:Int}(h:¬KL p t):D3 false p t=((0,0,0),true):=if_neg (fun k=>h k.2)
theorem Acu{p:V3}{t:Int}(h:KL p t):D3 false p t=(PY p t,false):=if_pos ⟨rfl,h⟩
theorem Y2{p:V3}{t:Int}(h:KL p t):Nonempty (GP p t (JE p).1 (PY p t).1 (PY p t).2.1 (PY p t).2.2)/\St3 (PY p t) 2270822400000070564:=by
 obtain⟨g,r0,r1,t0,t1⟩:=h
 have hr:Ar false p.1 p.2.1 p.2.2=((JE p).1,false):=Prod.ext rfl g
 obtain⟨_,y0,y1⟩:=Tu t0 t1
 obtain⟨E⟩:=Aps hr r0 r1 y0 y1
 rw[Axp E hr]
 exact E.steps t0 t1
theorem Agr(bad:Bool)(p:V3)(t:Int):D3 bad p t=((0,0,0),true)∨(bad=false/\KL p t/\D3 bad p t=(PY p t,false)):=by
 unfold D3
 by_cases h:bad=false/\KL p t
 ·rw[if_pos h];exact .inr ⟨h.1,h.2,rfl⟩
 ·rw[if_neg h];exact .inl rfl
open Go.RowKit
def ABi:Ct Zm:=Ak Zm 79 (Ac cI (Ac cI (Aa cI))) (fun bad x=>Ar bad x.1 x.2.1 x.2.2) cI (Ae Tryz.func79 (by kernel_rfl) (by kernel_rfl)) (fun b bad x w _ _ hw=>Lv b bad x.1 x.2.1 x.2.2 w hw)
def ALa:Ct Zm:=Ak Zm 23 (Aa cV3) (fun bad p=>Ar bad p.1 p.2.1 p.2.2) cI (Ae Tryz.func23 (by kernel_rfl) (by kernel_rfl)) (AZ (tbl:=[ABi]) (dirty:=fun _=>[]) (n:=2) xmixA Tryz.func23 rfl (fun bad x Post=>by kernel_rfl))
def ALb:Ct Zm:=AKs Zm 188 (Ac cI (Ac cI (Aa cI))) (fun bad x=>bad=false/\Re x.1 x.2.1 x.2.2) (fun bad x=>KJ bad x.1 x.2.1 x.2.2) (Au cI cI) (Ae Tryz.func188 (by kernel_rfl) (by kernel_rfl)) (fun b bad x w h hg hb hw=>by
 obtain⟨rfl,h⟩:=h
 exact AK5 _ _ _ b w h hg hb hw)
def AO3(P D Q:Nat->Nat->Int):Value:=.tuple #[.agg (Ys (AO P 6 0)).toArray,.agg (Ys (AO D 6 0)).toArray,.agg (Ys (AO Q 6 0)).toArray]
def ALc{c s:Int}{P D Q:Nat->Nat->Int}(Z:Tri c s P D Q):Ct Zm:=AKs Zm 187 (Ac cI (Aa cI)) (fun bad x=>bad=false/\x.1=c/\x.2=s) (fun _ _=>((),false)) (AO0 (AO3 P D Q) rfl) (Ae Tryz.func187 (by kernel_rfl) (by kernel_rfl)) (fun b bad x w h hg hb hw=>by
 obtain⟨rfl,e1,e2⟩:=h
 obtain⟨x1,x2⟩:=x
 dsimp only at e1 e2
 subst e1 e2
 exact Axd b x1 x2 P D Q Z w hw hg hb)
def IV{c s:Int}{P D Q:Nat->Nat->Int}(Z:Tri c s P D Q):List (Ct Zm):=[OK,Te,Yo,KF,Aos,ABi,ALa,ABg,YA,ALb,ALc Z]
def r7(g:Nat->Int):List Value:=[.int .i64 (g 0),.int .i64 (g 1),.int .i64 (g 2),.int .i64 (g 3),.int .i64 (g 4),.int .i64 (g 5),.int .i64 (g 6)]
def r3(p:V3):List Value:=[.int .i64 p.1,.int .i64 p.2.1,.int .i64 p.2.2]
def ea1:List Nat:=[0,2,6,7,9,10,11,12,13,14,15]
def ea2:List Nat:=[0,2,6,9,10,11,12,13,14,16,17,18,19,20,21,22,23,24,25]
def ea3:List Nat:=[0,2,6,9,10,11,12,13,14,16,17,18,19,20,21,22,23,24]
def eaM(fl:Bool)(p:V3)(g h:Nat->Int):Xm:=[[.bool fl],r3 p,r3 (0,0,0),r7 g,r7 h]
def WH(fl:Bool)(p:V3)(g h P D Q:Nat->Int):Xm:=[[.bool fl],r3 p,r3 (0,0,0),r7 g,r7 h,Ys P,Ys D,Ys Q]
def eaF(t r c s u v m:Int)(d:Nat->Value):List Value:=Kl [(0,ptr 0),(2,.int .i64 t),(6,ptr 2),(7,.int .i64 r),(9,.int .i64 c),(10,.int .i64 s),(11,.int .i64 u),(12,.int .i64 v),(13,ptr 3),(14,ptr 4),(15,.int .i64 m)] d 287
def eaG(t c s u v up so ea q tt n:Int)(x:Value)(d:Nat->Value):List Value:=Kl [(0,ptr 0),(2,.int .i64 t),(6,ptr 2),(9,.int .i64 c),(10,.int .i64 s),(11,.int .i64 u),(12,.int .i64 v),(13,ptr 3),(14,ptr 4),(16,ptr 5),(17,ptr 6),(18,ptr 7),(19,.int .i64 up),(20,.int .i64 so),(21,.int .i64 ea),(22,.int .i64 q),(23,.int .i64 tt),(24,.int .i64 n),(25,x)] d 287
def KX{c s:Int}{P D Q:Nat->Nat->Int}(Z:Tri c s P D Q):Ov:=fun id=>match id with
 |17=>some (Du Zm (IV Z) (fun _=>[]) 17 ea1 287 5)
 |19=>some (Du Zm (IV Z) (fun _=>[]) 19 ea1 287 5)
 |26=>some (Du Zm (IV Z) (fun _=>[]) 26 ea3 287 8)
 |28=>some (Du Zm (IV Z) (fun _=>[]) 28 ea2 287 8)
 |30=>some (Du Zm (IV Z) (fun _=>[]) 30 ea2 287 8)
 |32=>some (Du Zm (IV Z) (fun _=>[]) 32 ea2 287 8)
 |_=>none
def O6:Nat->List Bool
 |0=>[]
 |n+1=>true::O6 n
def eaL(P:Program):Code:=Bd (O6 13++[false,true]) (An P 78)
def eaX(P:Program):Code:=Bd [false,false] (eaL P)
def eaB(P:Program):Code:=Bd (O6 14) (An P 78)
def eaK(P:Program):Code:=Bd (O6 18++[false,true]) (An P 78)
def eaY(P:Program):Code:=Bd [false,false] (eaK P)
def eaI(P:Program):Code:=Bd [true,false,false,true,true] (eaY P)
def eaZ(P:Program):Code:=Bd [false,false] (eaI P)
def eaU(P:Program):Code:=Bd [true,true] (eaY P)
def eaE(P:Program):Code:=Bd (O6 19) (An P 78)
section
variable {c0 s0:Int} {P0 D0 Q0:Nat->Nat->Int} (Z:Tri c0 s0 P0 D0 Q0)
def AFp(Q:VQ):VQ:=fun e vt m=>match e with
 | .normal=>Ao Zm (IV Z) (fun _=>[]) 9 (KX Z) (eaB Zm) (Q) (vt) (m)
 |e=>Q e vt m
def Axq(Q:VQ):VQ:=fun e vt m=>match e with
 | .normal=>Ao Zm (IV Z) (fun _=>[]) 9 (KX Z) (eaE Zm) (Q) (vt) (m)
 |e=>Q e vt m
def AFq(Q:VQ):VQ:=fun e vt m=>match e with
 | .normal=>Ao Zm (IV Z) (fun _=>[]) 9 (KX Z) (eaU Zm) (Q) (vt) (m)
 |e=>Q e vt m
def ALd(Q:VQ):VQ:=fun e vt m=>match e with
 | .exit id'=>if id'=3 then AFq Z Q .normal vt m else AFq Z Q (.exit id') vt m
 |e=>AFq Z Q e vt m
def AFr(t r c s u v:Int)(d:Nat->Value):List Value:=vset (((eaF t r c s u v 7 d).set 83 (.int .i64 7)).set 84 (.bool false)) (.tmp 84) false
def AFs(t c s u v up so ea q tt n:Int)(d:Nat->Value):List Value:=vset ((((eaG t c s u v up so ea q tt n (.int .i64 (n+1)) d).set 146 (.int .i64 (n+1))).set 147 (.int .i64 n)).set 148 (.bool false)) (.tmp 148) false
def AFt(t c s u v up so ea q tt:Int)(x:Value)(d:Nat->Value):List Value:=vset (((eaG t c s u v up so ea q tt 7 x d).set 138 (.int .i64 7)).set 139 (.bool false)) (.tmp 139) false
def Ags(fl:Bool)(p:V3)(t r c s u v:Int)(Q:VQ):Prop:=287=287/\true=true/\∀D,Ao Zm (IV Z) (fun _=>[]) 9 (KX Z) (eaL Zm) (AFp Z Q) (eaF t r c s u v 1 D) (eaM fl p (updF (fun _=>0) 0 1099511627776) (fun _=>0))
def Axr(fl:Bool)(p:V3)(t r:Int)(Q:VQ):Prop:=
 let w:=Ar fl p.1 p.2.1 0;let c:=AA w.2 p.2.2 r;let s:=AA c.2 w.1 r;let u:=AA s.2 p.1 w.1;let v:=AA u.2 p.2.1 w.1
 AE (decide (w.1≥1048576)) (Ags Z v.2 p t r c.1 s.1 u.1 v.1 Q) (Ags Z s.2 p t r c.1 s.1 1099511627776 0 Q)
def MJ:Value:=.agg #[.int .i64 0,.int .i64 0,.int .i64 0]
theorem Apw(p:V3)(t:Int)(bad:Bool)(Post:Value->Option Bool->Prop):Ao Zm (IV Z) (fun _=>[]) 9 (KX Z) (An Zm 78) (Bz Zm (Ba Zm 78) (fun v m=>Post v (Ck m))) ([ptr 0,.agg #[.int .i64 p.1,.int .i64 p.2.1,.int .i64 p.2.2],.int .i64 t]++List.replicate ((Ba Zm 78).ntmps-3) undef) ([[.bool bad]])=
    AE (decide ((Ar bad p.1 p.2.1 p.2.2).1<6597069766656)) (Post MJ (some true)) (AE (decide ((Ar bad p.1 p.2.1 p.2.2).1>10995116277760)) (Post MJ (some true)) (AE (Cn (Ar bad p.1 p.2.1 p.2.2).2 t).2 (Post MJ (some (Cn (Ar bad p.1 p.2.1 p.2.2).2 t).2))
      (Axr Z (Cn (Ar bad p.1 p.2.1 p.2.2).2 t).2 p t (Ar bad p.1 p.2.1 p.2.2).1 (Bz Zm (Ba Zm 78) (fun v m=>Post v (Ck m)))))):=by kernel_rfl
theorem Apx(Q:VQ)(vt:List Value)(m:Xm):Ao Zm (IV Z) (fun _=>[]) 9 (KX Z) (eaL Zm) (Q) (vt) (m)=AS 9 (Ao Zm (IV Z) (fun _=>[]) 9 (KX Z) (eaX Zm)) (lxB 0 Q) vt m:=by kernel_rfl
theorem Apy(Q:VQ)(vt:List Value)(m:Xm):Ao Zm (IV Z) (fun _=>[]) 9 (KX Z) (eaK Zm) (Q) (vt) (m)=AS 9 (Ao Zm (IV Z) (fun _=>[]) 9 (KX Z) (eaY Zm)) (lxB 2 Q) vt m:=by kernel_rfl
theorem Apz(Q:VQ)(vt:List Value)(m:Xm):Ao Zm (IV Z) (fun _=>[]) 9 (KX Z) (eaI Zm) (Q) (vt) (m)=AS 9 (Ao Zm (IV Z) (fun _=>[]) 9 (KX Z) (eaZ Zm)) (lxB 4 Q) vt m:=by kernel_rfl
def eaR(fl:Bool)(u v C S:Int):(Int×Int)×Bool:=let v1:=mulS fl C u;let v2:=mulS v1.2 S v;let x:=AJ v2.2 v1.1 v2.1;let v4:=mulS x.2 S u;let v5:=mulS v4.2 C v;let y:=Ap v5.2 v4.1 v5.1;((x.1,y.1),y.2)
theorem ALe{k:Nat}(hk:k<6)(t r c s u v:Int)(p:V3)(g h:Nat->Int)(fl:Bool)(D:Nat->Value)(Q:VQ):Ao Zm (IV Z) (fun _=>[]) 9 (KX Z) (eaX Zm) (Q) (eaF t r c s u v (k+1:Nat) D) (eaM fl p g h)=
    (287=287/\true=true/\∀D,Q .normal (eaF t r c s u v ((k+1:Nat)+1) D) (eaM (eaR fl u v (g k) (h k)).2 p (updF g (k+1) (eaR fl u v (g k) (h k)).1.1) (updF h (k+1) (eaR fl u v (g k) (h k)).1.2))):=by
 obtain rfl |rfl |rfl |rfl |rfl |rfl:k=0∨k=1∨k=2∨k=3∨k=4∨k=5:=by omega
 all_goals kernel_rfl
theorem ALf(t r c s u v:Int)(p:V3)(g h:Nat->Int)(fl:Bool)(D:Nat->Value)(Q:VQ):Ao Zm (IV Z) (fun _=>[]) 9 (KX Z) (eaX Zm) (Q) (eaF t r c s u v 7 D) (eaM fl p g h)=Q (.exit 0) (AFr t r c s u v D) (eaM fl p g h):=by kernel_rfl
theorem AFu(t r c s u v:Int)(p:V3)(g h:Nat->Int)(dd:Nat->Value)(Q:VQ):Ao Zm (IV Z) (fun _=>[]) 9 (KX Z) (eaB Zm) (Q) (AFr t r c s u v dd) (eaM false p g h)=
    ((false=false/\c=c0/\s=s0)/\287=287/\true=true/\∀D,Ao Zm (IV Z) (fun _=>[]) 9 (KX Z) (eaK Zm) (Axq Z Q) (eaG t c s u v 0 0 0 (AA false 7005208482886 r).1 (mulS (AA false 7005208482886 r).2 (AA false 7005208482886 r).1 (AA false 7005208482886 r).1).1 1 (Aum (D 25)) D) (WH (mulS (AA false 7005208482886 r).2 (AA false 7005208482886 r).1 (AA false 7005208482886 r).1).2 p g h (AO P0 6 0) (AO D0 6 0) (AO Q0 6 0))):=by kernel_rfl
theorem ALg{n:Nat}(hn:1<=n/\n<=6)(t c s u v up so ea q tt:Int)(x:Value)(p:V3)(g h P E Q:Nat->Int)(fl:Bool)(d:Nat->Value)(K:VQ):Ao Zm (IV Z) (fun _=>[]) 9 (KX Z) (eaY Zm) (K) (eaG t c s u v up so ea q tt n x d) (WH fl p g h P E Q)=
    (287=287/\true=true/\∀D,Ao Zm (IV Z) (fun _=>[]) 9 (KX Z) (eaI Zm) (ALd Z K) (eaG t c s u v up so ea q (mulS fl tt q).1 n (.int .i64 0) D) (WH (mulS fl tt q).2 p g h P E Q)):=by
 rcases JD hn with rfl |rfl |rfl |rfl |rfl |rfl<;>kernel_rfl
def eaW(t tt up so ea C S P D Q:Int)(n m:Nat):(Int×Int×Int)×Bool:=
 let N:=KJ false n m t;let v1:=mulS N.2 N.1.1 C;let v2:=mulS v1.2 N.1.2 S;let e:=Ap v2.2 v1.1 v2.1;let v4:=mulS e.2 N.1.1 S;let v5:=mulS v4.2 N.1.2 C;let o:=AJ v5.2 v4.1 v5.1
 let y1:=mulS o.2 e.1 P;let z1:=mulS y1.2 tt y1.1;let p1:=Af z1.2 z1.1 ((n:Int)+1) 1;let a1:=Ap p1.2 up p1.1
 let y2:=mulS a1.2 e.1 D;let z2:=mulS y2.2 tt y2.1;let a2:=AJ z2.2 so z2.1
 let y3:=mulS a2.2 o.1 Q;let z3:=mulS y3.2 tt y3.1;let p3:=Af z3.2 z3.1 m 1;let a3:=Ap p3.2 ea p3.1
 if 0<m then((a1.1,a2.1,a3.1),a3.2)else((a1.1,a2.1,ea),a2.2)
def EaR(Z:Tri c0 s0 P0 D0 Q0)(n m:Nat):Prop:=∀(t c s u v up so ea q tt:Int) (p:V3) (g h P E Q:Nat->Int) (d:Nat->Value) (K:VQ),Ao Zm (IV Z) (fun _=>[]) 9 (KX Z) (eaZ Zm) (K) (eaG t c s u v up so ea q tt n (.int .i64 m) d) (WH false p g h P E Q)=
    ((false=false/\Re n m t)/\287=287/\true=true/\∀D,K .normal (eaG t c s u v (eaW t tt up so ea (g m) (h m) (P (n*7+m)) (E (n*7+m)) (Q (n*7+m)) n m).1.1 (eaW t tt up so ea (g m) (h m) (P (n*7+m)) (E (n*7+m)) (Q (n*7+m)) n m).1.2.1 (eaW t tt up so ea (g m) (h m) (P (n*7+m)) (E (n*7+m)) (Q (n*7+m)) n m).1.2.2 q tt n (.int .i64 ((m:Int)+1)) D) (WH (eaW t tt up so ea (g m) (h m) (P (n*7+m)) (E (n*7+m)) (Q (n*7+m)) n m).2 p g h P E Q))
theorem AFv{m:Nat}(h:0<=m/\m<=0):EaR Z 1 m:=by
 obtain rfl:m=0:=by omega
 all_goals (intro t c s u v up so ea q tt p g h P E Q d K;kernel_rfl)
theorem AFw{m:Nat}(h:1<=m/\m<=1):EaR Z 1 m:=by
 obtain rfl:m=1:=by omega
 all_goals (intro t c s u v up so ea q tt p g h P E Q d K;kernel_rfl)
theorem AFx{m:Nat}(h:0<=m/\m<=1):EaR Z 2 m:=by
 obtain rfl |rfl:m=0∨m=1:=by omega
 all_goals (intro t c s u v up so ea q tt p g h P E Q d K;kernel_rfl)
theorem AFy{m:Nat}(h:2<=m/\m<=2):EaR Z 2 m:=by
 obtain rfl:m=2:=by omega
 all_goals (intro t c s u v up so ea q tt p g h P E Q d K;kernel_rfl)
theorem AFz{m:Nat}(h:0<=m/\m<=1):EaR Z 3 m:=by
 obtain rfl |rfl:m=0∨m=1:=by omega
 all_goals (intro t c s u v up so ea q tt p g h P E Q d K;kernel_rfl)
theorem AF0{m:Nat}(h:2<=m/\m<=3):EaR Z 3 m:=by
 obtain rfl |rfl:m=2∨m=3:=by omega
 all_goals (intro t c s u v up so ea q tt p g h P E Q d K;kernel_rfl)
theorem AF1{m:Nat}(h:0<=m/\m<=2):EaR Z 4 m:=by
 obtain rfl |rfl |rfl:m=0∨m=1∨m=2:=by omega
 all_goals (intro t c s u v up so ea q tt p g h P E Q d K;kernel_rfl)
theorem AF2{m:Nat}(h:3<=m/\m<=4):EaR Z 4 m:=by
 obtain rfl |rfl:m=3∨m=4:=by omega
 all_goals (intro t c s u v up so ea q tt p g h P E Q d K;kernel_rfl)
theorem AF3{m:Nat}(h:0<=m/\m<=2):EaR Z 5 m:=by
 obtain rfl |rfl |rfl:m=0∨m=1∨m=2:=by omega
 all_goals (intro t c s u v up so ea q tt p g h P E Q d K;kernel_rfl)
theorem AF4{m:Nat}(h:3<=m/\m<=5):EaR Z 5 m:=by
 obtain rfl |rfl |rfl:m=3∨m=4∨m=5:=by omega
 all_goals (intro t c s u v up so ea q tt p g h P E Q d K;kernel_rfl)
theorem AF5{m:Nat}(h:0<=m/\m<=3):EaR Z 6 m:=by
 obtain rfl |rfl |rfl |rfl:m=0∨m=1∨m=2∨m=3:=by omega
 all_goals (intro t c s u v up so ea q tt p g h P E Q d K;kernel_rfl)
theorem AF6{m:Nat}(h:4<=m/\m<=6):EaR Z 6 m:=by
 obtain rfl |rfl |rfl:m=4∨m=5∨m=6:=by omega
 all_goals (intro t c s u v up so ea q tt p g h P E Q d K;kernel_rfl)
theorem ALh{n m:Nat}(hn:1<=n/\n<=6/\m<=n):EaR Z n m:=by
 obtain⟨h1,h2,h3⟩:=hn
 rcases JD ⟨h1,h2⟩with rfl |rfl |rfl |rfl |rfl |rfl
 ·rcases Zt m 1 with h |h
  ·exact AFv Z ⟨by omega,by omega⟩
  ·exact AFw Z ⟨by omega,by omega⟩
 ·rcases Zt m 2 with h |h
  ·exact AFx Z ⟨by omega,by omega⟩
  ·exact AFy Z ⟨by omega,by omega⟩
 ·rcases Zt m 2 with h |h
  ·exact AFz Z ⟨by omega,by omega⟩
  ·exact AF0 Z ⟨by omega,by omega⟩
 ·rcases Zt m 3 with h |h
  ·exact AF1 Z ⟨by omega,by omega⟩
  ·exact AF2 Z ⟨by omega,by omega⟩
 ·rcases Zt m 3 with h |h
  ·exact AF3 Z ⟨by omega,by omega⟩
  ·exact AF4 Z ⟨by omega,by omega⟩
 ·rcases Zt m 4 with h |h
  ·exact AF5 Z ⟨by omega,by omega⟩
  ·exact AF6 Z ⟨by omega,by omega⟩
theorem ALi{n:Nat}(hn:1<=n/\n<=6)(t c s u v up so ea q tt:Int)(p:V3)(g h P E Q:Nat->Int)(fl:Bool)(d:Nat->Value)(K:VQ):Ao Zm (IV Z) (fun _=>[]) 9 (KX Z) (eaZ Zm) (K) (eaG t c s u v up so ea q tt n (.int .i64 ((n:Int)+1)) d) (WH fl p g h P E Q)=K (.exit 4) (AFs t c s u v up so ea q tt n d) (WH fl p g h P E Q):=by
 rcases JD hn with rfl |rfl |rfl |rfl |rfl |rfl<;>kernel_rfl
theorem ALj(n t c s u v up so ea q tt:Int)(p:V3)(g h P E Q:Nat->Int)(fl:Bool)(d:Nat->Value)(K:VQ):ALd Z K .normal (AFs t c s u v up so ea q tt n d) (WH fl p g h P E Q)=(287=287/\true=true/\∀D,K .normal (eaG t c s u v up so ea q tt (IntKind.i64.wrap (n+1)) (.int .i64 (n+1)) D) (WH fl p g h P E Q)):=by kernel_rfl
theorem ALk(t c s u v up so ea q tt:Int)(x:Value)(p:V3)(g h P E Q:Nat->Int)(fl:Bool)(d:Nat->Value)(K:VQ):Ao Zm (IV Z) (fun _=>[]) 9 (KX Z) (eaY Zm) (K) (eaG t c s u v up so ea q tt 7 x d) (WH fl p g h P E Q)=K (.exit 2) (AFt t c s u v up so ea q tt x d) (WH fl p g h P E Q):=by kernel_rfl
def eaV(fl:Bool)(c s u v up so ea:Int):V3×Bool:=
 let v1:=mulS fl up s;let v2:=mulS v1.2 so c;let a:=Ap v2.2 v1.1 v2.1;let v4:=mulS a.2 a.1 u;let v5:=mulS v4.2 ea v;let x:=AJ v5.2 v4.1 v5.1;let v7:=mulS x.2 a.1 v;let v8:=mulS v7.2 ea u;let y:=Ap v8.2 v7.1 v8.1;let v10:=mulS y.2 up c;let v11:=mulS v10.2 so s;let z:=AJ v11.2 v10.1 v11.1;((x.1,y.1,z.1),z.2)
theorem Axs(t c s u v up so ea q tt:Int)(x:Value)(p:V3)(g h P E Q:Nat->Int)(fl:Bool)(d:Nat->Value)(Post:Value->Option Bool->Prop):Ao Zm (IV Z) (fun _=>[]) 9 (KX Z) (eaE Zm) (Bz Zm (Ba Zm 78) (fun v m=>Post v (Ck m))) (AFt t c s u v up so ea q tt x d) (WH fl p g h P E Q)=
    AE (eaV fl c s u v up so ea).2 (Post MJ (some (eaV fl c s u v up so ea).2)) (Post (cV3.enc (eaV fl c s u v up so ea).1) (some (eaV fl c s u v up so ea).2)):=by kernel_rfl
end
end
section
theorem Y3(a p q:Int):Af true a p q=(0,true):=Ca (FE _)
open Go.RowKit
theorem Ap0{C S u v C' S':Int}(W:V6 C S u v C' S'):eaR false u v C S=((C',S'),false):=by
 unfold eaR
 simp only[W.h1,W.h2,W.h3,W.h4,W.h5,W.h6]
theorem AF7{c s u v up so ea x y z:Int}(V:AE2 c s u v up so ea x y z):eaV false c s u v up so ea=((x,y,z),false):=by
 unfold eaV
 simp only[V.h1,V.h2,V.h3,V.h4,V.h5,V.h6,V.h7,V.h8,V.h9,V.h10,V.h11,V.h12]
theorem AF8{t tt up so ea C S P D Q g h up' so' ea':Int}{n m:Nat}(N:KJ false n m t=((g,h),false))(T:V8 (n:Int) (m:Int) tt C S g h P D Q up so ea up' so' ea'):eaW t tt up so ea C S P D Q n m=((up',so',ea'),false):=by
 unfold eaW
 simp only[N,T.h1,T.h2,T.h3,T.h4,T.h5,T.h6,T.i1,T.j1,T.q1,T.a1,T.i2,T.j2,T.a2,T.i3,T.j3,T.q3,T.a3]
 split
 ·rfl
 ·rw[T.a0 (by omega)]
theorem KM(i:Nat)(Q:VQ)(vt:List Value)(m:Xm):lxB i Q (.exit i) vt m=Q .normal vt m:=by
 unfold lxB
 exact if_pos rfl
theorem AF9{c0 s0:Int}{P0 D0 Q0:Nat->Nat->Int}(Z:Tri c0 s0 P0 D0 Q0)(Q:VQ)(vt:List Value)(m:Xm):AFp Z Q .normal vt m=Ao Zm (IV Z) (fun _=>[]) 9 (KX Z) (eaB Zm) Q vt m:=by unfold AFp;rfl
theorem AGa{c0 s0:Int}{P0 D0 Q0:Nat->Nat->Int}(Z:Tri c0 s0 P0 D0 Q0)(Q:VQ)(vt:List Value)(m:Xm):Axq Z Q .normal vt m=Ao Zm (IV Z) (fun _=>[]) 9 (KX Z) (eaE Zm) Q vt m:=by unfold Axq;rfl
section
variable {p:V3} {t r x y z:Int}
theorem ABk(E:GP p t r x y z)(Q:VQ)(hQ:∀d,Q (.exit 0) (AFr t r E.c E.s E.u E.v d) (eaM false p (CY E.g 6) (CY (fun i=>E.g (7+i)) 6))):
    ∀(j k f:Nat),k+j=6->j<f->∀d,AS f (Ao Zm (IV E.Z) (fun _=>[]) 9 (KX E.Z) (eaX Zm)) Q (eaF t r E.c E.s E.u E.v (k+1:Nat) d) (eaM false p (CY E.g k) (CY (fun i=>E.g (7+i)) k))
 |j,k,0,_,hf,_=>by omega
 |0,k,f+1,hk,_,d=>by
  have e:k=6:=by omega
  subst e
  have:=ALf E.Z t r E.c E.s E.u E.v p (CY E.g 6) (CY (fun i=>E.g (7+i)) 6) false d
  rw[AS,show((6+1:Nat):Int)=7 from rfl,this]
  exact hQ d
 |j+1,k,f+1,hk,hf,d=>by
  obtain⟨W⟩:=E.W k (by omega)
  rw[AS,ALe E.Z (by omega),IK E.g (Nat.le_refl k),IK (fun i=>E.g (7+i)) (Nat.le_refl k),Ap0 W]
  refine⟨rfl,rfl,fun d'=>?_⟩
  dsimp only
  rw[OY,Q6]
  exact ABk E Q hQ j (k+1) f (by omega) (by omega) d'
theorem ABl(E:GP p t r x y z)(ht:0<=t/\t<=157766400000){n:Nat}(hn:1<=n/\n<=6)(q:Int)(K:VQ)
    (hK:∀d,K (.exit 4) (AFs t E.c E.s E.u E.v (E.st n (n+1)).1 (E.st n (n+1)).2.1 (E.st n (n+1)).2.2 q (E.tt n) n d) (WH false p (CY E.g 6) (CY (fun i=>E.g (7+i)) 6) (AO E.P 6 0) (AO E.D 6 0) (AO E.Q 6 0))):
    ∀(j m f:Nat),m+j=n+1->j<f->∀d,AS f (Ao Zm (IV E.Z) (fun _=>[]) 9 (KX E.Z) (eaZ Zm)) K (eaG t E.c E.s E.u E.v (E.st n m).1 (E.st n m).2.1 (E.st n m).2.2 q (E.tt n) n (.int .i64 m) d) (WH false p (CY E.g 6) (CY (fun i=>E.g (7+i)) 6) (AO E.P 6 0) (AO E.D 6 0) (AO E.Q 6 0))
 |j,m,0,_,hf,_=>by omega
 |0,m,f+1,hm,_,d=>by
  have e:m=n+1:=by omega
  subst e
  rw[AS,show((n+1:Nat):Int)=(n:Int)+1 by omega,ALi E.Z hn]
  exact hK d
 |j+1,m,f+1,hm,hf,d=>by
  have hmn:m<=n:=by omega
  rw[AS,ALh E.Z ⟨hn.1,hn.2,hmn⟩,IK E.g (show m<=6 by omega),IK (fun i=>E.g (7+i)) (show m<=6 by omega),OX E.P hmn hn.2,OX E.D hmn hn.2,OX E.Q hmn hn.2,AF8 (E.N n m hn.1 hn.2 hmn) (E.T n m hn.1 hn.2 hmn)]
  refine⟨⟨rfl,by omega,by omega,by omega,by omega,ht.1,ht.2⟩,rfl,rfl,fun d'=>?_⟩
  exact ABl E ht hn q K hK j (m+1) f (by omega) (by omega) d'
theorem ABm(E:GP p t r x y z)(ht:0<=t/\t<=157766400000)(K:VQ)
    (hK:∀v d,K (.exit 2) (AFt t E.c E.s E.u E.v (E.st 7 0).1 (E.st 7 0).2.1 (E.st 7 0).2.2 E.nr (E.tt 6) v d) (WH false p (CY E.g 6) (CY (fun i=>E.g (7+i)) 6) (AO E.P 6 0) (AO E.D 6 0) (AO E.Q 6 0))):
    ∀(j k f:Nat),k+j=6->j<f->∀v d,AS f (Ao Zm (IV E.Z) (fun _=>[]) 9 (KX E.Z) (eaY Zm)) K (eaG t E.c E.s E.u E.v (E.st (k+1) 0).1 (E.st (k+1) 0).2.1 (E.st (k+1) 0).2.2 E.nr (E.tt k) (k+1:Nat) v d) (WH false p (CY E.g 6) (CY (fun i=>E.g (7+i)) 6) (AO E.P 6 0) (AO E.D 6 0) (AO E.Q 6 0))
 |j,k,0,_,hf,_,_=>by omega
 |0,k,f+1,hk,_,v,d=>by
  have e:k=6:=by omega
  subst e
  rw[AS,show((6+1:Nat):Int)=7 from rfl,ALk]
  exact hK v d
 |j+1,k,f+1,hk,hf,v,d=>by
  rw[AS,ALg E.Z (by omega),E.tn k (by omega)]
  refine⟨rfl,rfl,fun d1=>?_⟩
  dsimp only
  rw[Apz]
  refine ABl E ht (n:=k+1) (by omega) E.nr _ (fun d2=>?_) (k+2) 0 9 (by omega) (by omega) d1
  rw[KM,ALj,E.sn (k+1) (by omega) (by omega),IntKind.wrap_i64,show((((k+1:Nat):Int)+1+9223372036854775808) % 18446744073709551616-9223372036854775808)=((k+1+1:Nat):Int)by omega]
  refine⟨rfl,rfl,fun d3=>?_⟩
  exact ABm E ht K hK j (k+1) f (by omega) (by omega) _ d3
theorem ALl(E:GP p t r x y z)(ht:0<=t/\t<=157766400000)(Post:Value->Option Bool->Prop)(hP:Post (cV3.enc (x,y,z)) (some false)):Ags E.Z false p t r E.c E.s E.u E.v (Bz Zm (Ba Zm 78) (fun v m=>Post v (Ck m))):=by
 refine⟨rfl,rfl,fun d=>?_⟩
 have e:eaM false p (updF (fun _=>0) 0 1099511627776) (fun _=>0)=eaM false p (CY E.g 0) (CY (fun i=>E.g (7+i)) 0):=by rw[OZ E.g E.g0,<-Q7 (fun i=>E.g (7+i)) E.g7]
 rw[Apx,e]
 refine ABk E _ (fun d1=>?_) 6 0 9 rfl (by decide) d
 rw[KM,AF9,AFu]
 refine⟨⟨rfl,rfl,rfl⟩,rfl,rfl,fun d2=>?_⟩
 rw[Apy,E.hq]
 dsimp only
 rw[E.t0]
 have hs:=E.s0
 have e0:(E.st (0+1) 0).1=0/\(E.st (0+1) 0).2.1=0/\(E.st (0+1) 0).2.2=0:=by rw[hs];exact⟨rfl,rfl,rfl⟩
 have:=ABm E ht (lxB 2 (Axq E.Z (Bz Zm (Ba Zm 78) (fun v m=>Post v (Ck m))))) (fun v d3=>?_) 6 0 9 rfl (by decide) (Aum (d2 25)) d2
 ·rw[e0.1,e0.2.1,e0.2.2]at this
  exact this
 ·rw[KM,AGa,Axs,AF7 E.V]
  exact hP
theorem ALm(E:GP p t r x y z)(Q:VQ)(h:Ags E.Z false p t r E.c E.s E.u E.v Q):Axr E.Z false p t r Q:=by
 have hw:Ar false p.1 p.2.1 0=(E.wn,false):=E.hw
 have hl:=E.hl
 unfold PX at hl
 unfold Axr
 simp only[hw,E.hc,E.hs]
 by_cases c:E.wn<1048576
 ·rw[if_pos c]at hl
  simp only[Prod.mk.injEq,and_true]at hl
  rw[decide_eq_false (by omega)]
  show Ags E.Z false p t r E.c E.s 1099511627776 0 Q
  rw[hl.1,hl.2]
  exact h
 ·rw[if_neg c]at hl
  rw[decide_eq_true (by omega)]
  have b1:(AA false p.1 E.wn).2=false:=by
   cases e:(AA false p.1 E.wn).2 with
   |false=>rfl
   |true=>rw[e,LG]at hl;exact absurd (show true=false from congrArg Prod.snd hl) (by decide)
  rw[b1]at hl
  have hu:AA false p.1 E.wn=(E.u,false):=Prod.ext (congrArg (fun z=>z.1.1) hl) b1
  have hv:AA false p.2.1 E.wn=(E.v,false):=Prod.ext (congrArg (fun z=>z.1.2) hl) (congrArg (fun z=>z.2) hl)
  show Ags E.Z (AA (AA false p.1 E.wn).2 p.2.1 E.wn).2 p t r E.c E.s (AA false p.1 E.wn).1 (AA (AA false p.1 E.wn).2 p.2.1 E.wn).1 Q
  rw[hu]
  dsimp only
  rw[hv]
  exact h
end
theorem ALn{c0 s0:Int}{P0 D0 Q0:Nat->Nat->Int}(Z:Tri c0 s0 P0 D0 Q0)(B:Nat)(w:World):D5 Zm (KX Z) [B] w [] [some B] (An Zm 78):=by
 refine CV (ns:=[(17,Cg Zm 78 17,false),(19,Cg Zm 78 19,false),(26,Cg Zm 78 26,false),(30,Cg Zm 78 30,false),(32,Cg Zm 78 32,false),(28,Cg Zm 78 28,false)]) (by kernel_rfl) ?_
 intro r hr
 simp only[List.mem_cons,List.not_mem_nil,or_false]at hr
 rcases hr with rfl |rfl |rfl |rfl |rfl |rfl
 all_goals
  intro R hR K Q bl vt m a w h r hK
  cases hR
  first
  |exact By xmixA (show 1<=5 by decide) h r hK
  |exact By xmixA (show 1<=8 by decide) h r hK
theorem Ap1:KL (7696581394432,0,0) 0:=by decide+kernel
theorem Agu:Ai Zm 78 (Ac cV3 (Aa cI)) (fun bad x=>D3 bad x.1 x.2) cV3:=by
 intro b bad x w hg hb hw
 obtain⟨p,t⟩:=x
 have run:∀{c0 s0:Int} {P0 D0 Q0:Nat->Nat->Int} (Z:Tri c0 s0 P0 D0 Q0),(AE (decide ((Ar bad p.1 p.2.1 p.2.2).1<6597069766656)) (MJ=cV3.enc (D3 bad p t).1/\some true=some (D3 bad p t).2) (AE (decide ((Ar bad p.1 p.2.1 p.2.2).1>10995116277760)) (MJ=cV3.enc (D3 bad p t).1/\some true=some (D3 bad p t).2) (AE (Cn (Ar bad p.1 p.2.1 p.2.2).2 t).2 (MJ=cV3.enc (D3 bad p t).1/\some (Cn (Ar bad p.1 p.2.1 p.2.2).2 t).2=some (D3 bad p t).2)
     (Axr Z (Cn (Ar bad p.1 p.2.1 p.2.2).2 t).2 p t (Ar bad p.1 p.2.1 p.2.2).1 (Bz Zm (Ba Zm 78) (fun v m=>v=cV3.enc (D3 bad p t).1/\Ck m=some (D3 bad p t).2))))))->
     Calls Zm 78 (ptr b::(Ac cV3 (Aa cI)).enc (p,t)).toArray w fun e w'=>e=.returned (cV3.enc (D3 bad p t).1)/\Fl b (D3 bad p t).2 w'/\Ad b w w':=fun Z h=>
  Fc (d:=Ac cV3 (Aa cI)) (x:=(p,t)) (tbl:=IV Z) (dirty:=fun _=>[]) (n:=9) (ov:=KX Z) xmixA (by kernel_rfl) (by kernel_rfl) (ALn Z) (Eq.mpr (Apw Z p t bad (fun v f=>v=cV3.enc (D3 bad p t).1/\f=some (D3 bad p t).2)) h) b w hg hb hw
 obtain⟨⟨E0⟩,_⟩:=Y2 Ap1
 cases bad with
 |true=>
  refine run E0.Z ?_
  rw[LY,GE]
  exact⟨rfl,rfl⟩
 | false=>
  by_cases h:KL p t
  ·obtain⟨⟨E⟩,_⟩:=Y2 h
   refine run E.Z ?_
   have hS:=Acu h
   obtain⟨g,r0,r1,t0,t1⟩:=h
   have hr:Ar false p.1 p.2.1 p.2.2=((JE p).1,false):=Prod.ext rfl g
   rw[hr,hS]
   dsimp only
   rw[decide_eq_false (by omega),decide_eq_false (by omega),Ip t0 t1]
   exact ALm E _ (ALl E ⟨t0,t1⟩ (fun v f=>v=cV3.enc (PY p t)/\f=some false) ⟨rfl,rfl⟩)
  ·refine run E0.Z ?_
   rw[Wg h]
   by_cases c1:(Ar false p.1 p.2.1 p.2.2).1<6597069766656
   ·rw[decide_eq_true c1]
    exact⟨rfl,rfl⟩
   by_cases c2:(Ar false p.1 p.2.1 p.2.2).1>10995116277760
   ·rw[decide_eq_false c1,decide_eq_true c2]
    exact⟨rfl,rfl⟩
   rw[decide_eq_false c1,decide_eq_false c2]
   have g:(Ar false p.1 p.2.1 p.2.2).2=false:=by
    cases q:(Ar false p.1 p.2.1 p.2.2).2 with
    |false=>rfl
    |true=>
     have z:(Ar false p.1 p.2.1 p.2.2).1=0:=LH false _ _ _ q
     omega
   rw[g]
   have hn:¬(0<=t/\t<=157766400000):=fun k=>h ⟨g,Int.not_lt.1 c1,Int.not_lt.1 c2,k.1,k.2⟩
   have e:Cn false t=Af true 1099511627776 t 86400000:=by
    unfold Cn
    rw[if_neg]
    unfold Nx.tickW
    by_cases c:0<=t
    ·rw[if_pos c,decide_eq_false (fun k=>hn ⟨c,k⟩)]
     decide
    ·rw[if_neg c]
     decide
   rw[e,Y3]
   exact⟨rfl,rfl⟩
theorem Ap2(b:Nat)(p:V3)(r:Int)(w:World)(hw:Fl b false w)(h:r<1048576):
    Calls Zm 220 #[.pointer (some ⟨b,0,none⟩),.agg #[.int .i64 p.1,.int .i64 p.2.1,.int .i64 p.2.2],.int .i64 r] w fun e w'=>e=.returned (.tuple #[.int .i64 1099511627776,.int .i64 0])/\Fl b false w'/\Ad b w w':=by
 have hl:=hw.lies
 go_enter Tryz.func220,Tryz.ntmps220
 have y1_BF:=hw.lies
 go_wp2
 refine bodyPost_ret (v:=.tuple #[.int .i64 1099511627776,.int .i64 0]) (by simp[results,Tryz.results220,go_sem]) rfl ?_
 exact⟨rfl,(hw.alloc _),((Ad.refl b w).al _)⟩
theorem Axt(b:Nat)(p:V3)(r u v:Int)(w:World)(hw:Fl b false w)(h:¬r<1048576)(hu:AA false p.1 r=(u,false))(hv:AA false p.2.1 r=(v,false)):
    Calls Zm 220 #[.pointer (some ⟨b,0,none⟩),.agg #[.int .i64 p.1,.int .i64 p.2.1,.int .i64 p.2.2],.int .i64 r] w fun e w'=>e=.returned (.tuple #[.int .i64 u,.int .i64 v])/\Fl b false w'/\Ad b w w':=by
 have hl:=hw.lies
 go_enter Tryz.func220,Tryz.ntmps220
 have y1_BF:=hw.lies
 go_wp2_with fail
 refine wp_region_held_drew (S:=fun w'=>AN w.heap.size [.int .i64 p.1,.int .i64 p.2.1,.int .i64 p.2.2] w') (by kernel_rfl) (AH _ _ [.int .i64 p.1,.int .i64 p.2.1,.int .i64 p.2.2] _ (by simp)).drew (fun zH=>?_)
 refine zT 0 rfl (by kernel_rfl) (fun _ _ _=>id) rfl (fun _ _=>by go_simp<;>with_reducible rfl) zH ?_
 simp only[Act.put,zA,zB,zC]
 refine zT 1 rfl (by kernel_rfl) (fun _ _ _=>id) rfl (fun _ _=>by go_simp<;>with_reducible rfl) zH ?_
 simp only[Act.put,zA,zB,zC]
 refine zT 2 rfl (by kernel_rfl) (fun _ _ _=>id) rfl (fun wx hS=>by have hc0:wx.cell? ⟨w.heap.size,0,none⟩=some (.int .i64 p.1):=hS.c 0 (zD rfl);go_simp<;>with_reducible rfl) zH ?_
 simp only[Act.put,zA,zB,zC]
 refine zT 3 rfl (by kernel_rfl) (fun _ _ _=>id) rfl (fun _ _=>by go_simp<;>with_reducible rfl) zH ?_
 simp only[Act.put,zA,zB,zC]
 refine zT 5 rfl (by kernel_rfl) (fun _ _ _=>id) rfl (fun _ _=>by go_simp<;>with_reducible rfl) zH ?_
 simp only[Act.put,zA,zB,zC]
 refine zT 6 rfl (by kernel_rfl) (fun _ _ _=>id) rfl (fun _ _=>by go_simp<;>with_reducible rfl) zH ?_
 simp only[Act.put,zA,zB,zC]
 refine zT 7 rfl (by kernel_rfl) (fun _ _ _=>id) rfl (fun wx hS=>by have hc1:wx.cell? ⟨w.heap.size,1,none⟩=some (.int .i64 p.2.1):=hS.c 1 (zD rfl);go_simp<;>with_reducible rfl) zH ?_
 simp only[Act.put,zA,zB,zC]
 refine zT 8 rfl (by kernel_rfl) (fun _ _ _=>id) rfl (fun _ _=>by go_simp<;>with_reducible rfl) zH ?_
 simp only[Act.put,zA,zB,zC]
 refine zK 4 (by kernel_rfl) rfl (fun K hK=>?_)
 go_simp
 refine(DK b false p.1 r _ (hw.alloc _).drew).mono ?_
 rintro e w1 ⟨rfl,f1,k1⟩
 rw[hu]at f1 ⊢
 dsimp only at f1 ⊢
 have K1:Ad b w w1:=Ad.trans ((Ad.refl b w).al _).drew k1
 have B0_1:=(AH _ w.heap.size [.int .i64 p.1,.int .i64 p.2.1,.int .i64 p.2.2] _ (by simp)).drew.kept k1 (zG y1_BF)
 have z1:=B0_1.lies
 clear zH
 refine hK.out _ _ B0_1 (fun zH=>?_)
 clear hK K k1
 refine zK 9 (by kernel_rfl) rfl (fun K hK=>?_)
 go_simp
 refine(DK b false p.2.1 r _ f1).mono ?_
 rintro e w2 ⟨rfl,f2,k2⟩
 rw[hv]at f2 ⊢
 dsimp only at f2 ⊢
 have K2:=Ad.trans K1 k2
 have B0_2:=B0_1.kept k2 (zG y1_BF)
 have z2:=B0_2.lies
 clear zH
 refine hK.out _ _ B0_2 (fun zH=>?_)
 clear hK K K1 f1 B0_1 k2
 refine zT 10 rfl (by kernel_rfl) (fun _ _ _=>id) rfl (fun _ _=>by go_simp<;>with_reducible rfl) zH ?_
 simp only[Act.put,zA,zB,zC]
 refine zT 11 rfl (by kernel_rfl) (fun _ _ _=>id) rfl (fun _ _=>by go_simp<;>with_reducible rfl) zH ?_
 simp only[Act.put,zA,zB,zC]
 refine wpAnyH_done (by kernel_rfl) ?_ _
 clear zH
 go_wp2
 refine bodyPost_ret (v:=.tuple #[.int .i64 u,.int .i64 v]) (by simp[results,Tryz.results220,go_sem]) rfl ?_
 exact⟨rfl,f2,K2⟩
end
end Go.Proofs.YtoadcnhcfodkgaaGreatDoor
