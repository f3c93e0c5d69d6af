/-
A part.
A part.
A part.
A part.
A part.
A part.
A part.
A part.
A part.
A part.
A part.
A part.
A part.
A part.
A part.
A part.
-/
import Derived.Handy
import Derived.Deep.RegionHeld3
import Derived.Test.YtgmpfeaanjnhaaaGreatDoorU10
import Derived.Test.YtgmpfeaanjnhaaaGreatDoorU04
import Derived.Test.YtgmpfeaanjnhaaaGreatDoorU09
import Derived.Test.YtgmpfeaanjnhaaaGreatDoorU01
namespace Go.Proofs.YtgmpfeaanjnhaaaGreatDoor
section
variable (c s q:Int) (g h:Nat->Nat->Int) (C S:Nat->Int)
def wU(n m:Nat):Int:=((n:Int)+2)*(tS q (n+1)*(tri c s (n+1) m).1)
def wS(n m:Nat):Int:=tS q (n+1)*(tri c s (n+1) m).2.1
def wE(n m:Nat):Int:=(m:Int)*(tS q (n+1)*(tri c s (n+1) m).2.2)
end
structure Jn(C S Q:Iv)(c s q:Int):Prop where
 ic:In C c
 is_:In S s
 iq:In Q q
 cb:Ab c 2199023255552
 sb:Ab s 2199023255552
 q0:0<=q
 q1:q<=1168231104512
 rows:∀n,n<6->∀m,Us ((CM C S (n+1)).1.getD m z3) (tri c s (n+1) m)
 sm:∀n,n<6->∀m,IL (tri c s (n+1) m)
 ent:∀n,n<6->∀m,m<n+1->∃x,entS false c s (fB (n+1) m) (fA (n+1) m) (tri c s n m) (if n=0 then(0,0,0)else tri c s (n-1) m)=(tri c s (n+1) m,x)/\x=false
 dia:∀n,n<5->diaS false c s (fJ (n+2)) (tri c s (n+1) (n+1))=(tri c s (n+2) (n+2),false)
theorem Alr{C S Q:Iv}{c s q:Int}(iC:In C c)(iS:In S s)(iQ:In Q q)(hc:Ab c 2199023255552)(hs:Ab s 2199023255552)(q0:0<=q)(q1:q<=1168231104512)(ok:OX C S=true):Jn C S Q c s q:=by
 unfold OX at ok
 rw[List.all_eq_true]at ok
 have o (n:Nat) (hn:n<6):(CM C S (n+1)).1.all Jm=true:=ok n (List.mem_range.2 hn)
 obtain⟨r1,e1⟩:=Axr hc hs iC iS (o 0 (by decide))
 obtain⟨r2,e2,d2⟩:=Afi (n:=0) hc hs iC iS r1 (o 1 (by decide))
 obtain⟨r3,e3,d3⟩:=Afi (n:=1) hc hs iC iS r2 (o 2 (by decide))
 obtain⟨r4,e4,d4⟩:=Afi (n:=2) hc hs iC iS r3 (o 3 (by decide))
 obtain⟨r5,e5,d5⟩:=Afi (n:=3) hc hs iC iS r4 (o 4 (by decide))
 obtain⟨r6,e6,d6⟩:=Afi (n:=4) hc hs iC iS r5 (o 5 (by decide))
 have six (n:Nat) (hn:n<6):n=0∨n=1∨n=2∨n=3∨n=4∨n=5:=by omega
 have go (n m:Nat) (hm:m<n+2) (e:(entS false c s (fB (n+2) m) (fA (n+2) m) (tri c s (n+1) m) (tri c s n m)).2=false):entS false c s (fB (n+2) m) (fA (n+2) m) (tri c s (n+1) m) (tri c s n m)=(tri c s (n+2) m,false):=by
  rw[show tri c s (n+2) m=(entS false c s (fB (n+2) m) (fA (n+2) m) (tri c s (n+1) m) (tri c s n m)).1 by(conv=>lhs;unfold tri);rw[if_pos hm]]
  exact Prod.ext rfl e
 have gd (n:Nat) (e:(diaS false c s (fJ (n+2)) (tri c s (n+1) (n+1))).2=false):diaS false c s (fJ (n+2)) (tri c s (n+1) (n+1))=(tri c s (n+2) (n+2),false):=by
  rw[show tri c s (n+2) (n+2)=(diaS false c s (fJ (n+2)) (tri c s (n+1) (n+1))).1 by(conv=>lhs;unfold tri);rw[if_neg (by omega),if_pos rfl]]
  exact Prod.ext rfl e
 refine⟨iC,iS,iQ,hc,hs,q0,q1,?_,?_,?_,?_⟩
 ·intro n hn
  rcases six n hn with rfl |rfl |rfl |rfl |rfl |rfl
  ·exact r1.a
  ·exact r2.a
  ·exact r3.a
  ·exact r4.a
  ·exact r5.a
  ·exact r6.a
 ·intro n hn
  rcases six n hn with rfl |rfl |rfl |rfl |rfl |rfl
  ·exact r1.sa
  ·exact r2.sa
  ·exact r3.sa
  ·exact r4.sa
  ·exact r5.sa
  ·exact r6.sa
 ·intro n hn m hm
  refine⟨false,?_,rfl⟩
  rcases six n hn with rfl |rfl |rfl |rfl |rfl |rfl
  ·obtain rfl:m=0:=by omega
   rw[if_pos rfl,show tri c s 0 0=(1099511627776,0,0)by unfold tri;rfl,show tri c s (0+1) 0=(entS false c s (fB 1 0) (fA 1 0) (1099511627776,0,0) (0,0,0)).1 by unfold tri;rfl]
   exact Prod.ext rfl e1
  ·rw[if_neg (by decide)];exact go 0 m hm (e2 m)
  ·rw[if_neg (by decide)];exact go 1 m hm (e3 m)
  ·rw[if_neg (by decide)];exact go 2 m hm (e4 m)
  ·rw[if_neg (by decide)];exact go 3 m hm (e5 m)
  ·rw[if_neg (by decide)];exact go 4 m hm (e6 m)
 ·intro n hn
  have five:n=0∨n=1∨n=2∨n=3∨n=4:=by omega
  rcases five with rfl |rfl |rfl |rfl |rfl
  ·exact gd 0 d2
  ·exact gd 1 d3
  ·exact gd 2 d4
  ·exact gd 3 d5
  ·exact gd 4 d6
section
variable {C S Q:Iv} {c s q:Int} {g h:Nat->Nat->Int} {Cm Sm:Nat->Int}
end
structure Rt(n N:Int):Prop where
 n0:0<=n
 lo:n*n<=N
 hi:N<(n+1)*(n+1)
theorem GU{x n:Int}(n0:0<=n)(h:x*x<(n+1)*(n+1)):Ab x n:=by
 refine⟨?_,?_⟩
 ·apply Classical.byContradiction
  intro g
  have:=Int.mul_le_mul (show n+1<=-x by omega) (show n+1<=-x by omega) (by omega) (by omega)
  rw[Int.neg_mul_neg]at this
  omega
 ·apply Classical.byContradiction
  intro g
  have:=Int.mul_le_mul (show n+1<=x by omega) (show n+1<=x by omega) (by omega) (by omega)
  omega
theorem II{a d m:Int}(d0:0<d)(ha:Ab a d)(r:Ab (2*(m*d-a*1099511627776)) d):Ab m 1099511627776:=by
 have:=r.lo;have:=r.hi;have:=ha.lo;have:=ha.hi
 refine⟨?_,?_⟩
 ·apply Classical.byContradiction
  intro g
  have:=Int.mul_le_mul_of_nonneg_right (show 1099511627777<=-m by omega) (show 0<=d by omega)
  rw[Int.neg_mul]at this
  omega
 ·apply Classical.byContradiction
  intro g
  have:=Int.mul_le_mul_of_nonneg_right (show 1099511627777<=m by omega) (show 0<=d by omega)
  omega
theorem Nz{p q d m n:Int}(hp:Ab p d)(hq:Ab q d)(r:Ab (2*(m*d-p*1099511627776)) d)(t:Ab (2*(n*d-q*1099511627776)) d):
    ∃e,(m*m+n*n)*(d*d)=1208925819614629174706176*(p*p+q*q)+e/\Ab e (2199023255554*(d*d)):=by
 refine⟨(m*m+n*n)*(d*d)-1208925819614629174706176*(p*p+q*q),by omega,?_⟩
 have a:=r.mul hp
 have b:=t.mul hq
 have c:=r.mul r
 have f:=t.mul t
 have a1:=a.lo;have a2:=a.hi;have b1:=b.lo;have b2:=b.hi;have c1:=c.lo;have c2:=c.hi;have f1:=f.lo;have f2:=f.hi
 have e:4*((m*m+n*n)*(d*d)-1208925819614629174706176*(p*p+q*q))=4398046511104*(2*(m*d-p*1099511627776)*p+2*(n*d-q*1099511627776)*q)+2*(m*d-p*1099511627776)*(2*(m*d-p*1099511627776))+2*(n*d-q*1099511627776)*(2*(n*d-q*1099511627776)):=by grind
 generalize 2*(m*d-p*1099511627776)*p=A at *
 generalize 2*(n*d-q*1099511627776)*q=B at *
 generalize 2*(m*d-p*1099511627776)*(2*(m*d-p*1099511627776))=X at *
 generalize 2*(n*d-q*1099511627776)*(2*(n*d-q*1099511627776))=Y at *
 generalize (m*m+n*n)*(d*d)-1208925819614629174706176*(p*p+q*q)=Z at *
 generalize d*d=D at *
 exact⟨by omega,by omega⟩
theorem Als{x y z r w c s:Int}(R:Rt r (x*x+y*y+z*z))(W:Rt w (x*x+y*y))(r1:6597069766656<=r)(hc:Ab (2*(c*r-z*1099511627776)) r)(hs:Ab (2*(s*r-w*1099511627776)) r):
    Ab c 1099511627776/\Ab s 1099511627776/\0<=s/\Ab (c*c+s*s-1208925819614629174706176) 4398046511104/\Ab z r/\Ab w r:=by
 have x0:=AE x;have y0:=AE y;have z0:=AE z;have w0:=AE w
 have zr:Ab z r:=GU R.n0 (by have:=R.hi;omega)
 have wr:Ab w r:=GU R.n0 (by have:=R.hi;have:=W.lo;omega)
 have cb:=II (by omega) zr hc
 have sb:=II (by omega) wr hs
 have s0:0<=s:=by
  apply Classical.byContradiction
  intro g
  have:=Int.mul_le_mul_of_nonneg_right (show 1<=-s by omega) (show 0<=r by omega)
  rw[Int.neg_mul]at this
  have:=hs.lo;have:=W.n0
  omega
 obtain⟨e,h,eb⟩:=Nz zr wr hc hs
 refine⟨cb,sb,s0,?_,zr,wr⟩
 have e1:(r+1)*(r+1)=r*r+2*r+1:=by grind
 have e2:(w+1)*(w+1)=w*w+2*w+1:=by grind
 have k1:=R.lo;have k2:=R.hi;have k3:=W.lo;have k4:=W.hi
 rw[e1]at k2
 rw[e2]at k4
 have rr:=Int.mul_le_mul_of_nonneg_right r1 (show 0<=r by omega)
 have wu:=wr.hi
 have l:=eb.lo;have u:=eb.hi
 refine⟨?_,?_⟩
 ·apply Classical.byContradiction
  intro g
  have:=Int.mul_le_mul_of_nonneg_right (show c*c+s*s+1<=1208925819614629174706176-4398046511104 by omega) (show 0<=r*r by omega)
  rw[Int.add_mul]at this
  omega
 ·apply Classical.byContradiction
  intro g
  have:=Int.mul_le_mul_of_nonneg_right (show 1208925819614629174706176+4398046511104+1<=c*c+s*s by omega) (show 0<=r*r by omega)
  omega
theorem Alt{x y w u v:Int}(W:Rt w (x*x+y*y))(w1:1048576<=w)(hu:Ab (2*(u*w-x*1099511627776)) w)(hv:Ab (2*(v*w-y*1099511627776)) w):
    Ab u 1099511627776/\Ab v 1099511627776/\u*u+v*v<=1208925819614629174706176+4611686018427387904/\1208925819614629174706176-4398046511104<=u*u+v*v/\Ab x w/\Ab y w:=by
 have x0:=AE x;have y0:=AE y
 have xw:Ab x w:=GU W.n0 (by have:=W.hi;omega)
 have yw:Ab y w:=GU W.n0 (by have:=W.hi;omega)
 obtain⟨e,h,eb⟩:=Nz xw yw hu hv
 refine⟨II (by omega) xw hu,II (by omega) yw hv,?_,?_,xw,yw⟩
 ·have e2:(w+1)*(w+1)=w*w+2*w+1:=by grind
  have k3:=W.lo;have k4:=W.hi
  rw[e2]at k4
  have ww:=Int.mul_le_mul_of_nonneg_right w1 (show 0<=w by omega)
  have ub:=eb.hi
  apply Classical.byContradiction
  intro g
  have:=Int.mul_le_mul_of_nonneg_right (show 1208925819614629174706176+4611686018427387904+1<=u*u+v*v by omega) (show 0<=w*w by omega)
  omega
 ·have k3:=W.lo
  have ww:=Int.mul_le_mul_of_nonneg_right w1 (show 0<=w by omega)
  have l:=eb.lo
  apply Classical.byContradiction
  intro g
  have:=Int.mul_le_mul_of_nonneg_right (show u*u+v*v+1<=1208925819614629174706176-4398046511104 by omega) (show 0<=w*w by omega)
  rw[Int.add_mul]at this
  omega
def GV(bad:Bool)(C S u v:Int):(Int×Int)×Bool:=
 let r1:=mulS bad C u;let r2:=mulS r1.2 S v;let r3:=CP r2.2 r1.1 r2.1
 let r4:=mulS r3.2 S u;let r5:=mulS r4.2 C v;let r6:=Ca r5.2 r4.1 r5.1
 ((r3.1,r6.1),r6.2)
def wv(u v:Int):Nat->Int×Int
 |0=>(1099511627776,0)
 |m+1=>(GV false (wv u v m).1 (wv u v m).2 u v).1
structure Lon(u v:Int):Prop where
 ub:Ab u 1099511627776
 vb:Ab v 1099511627776
 hi:u*u+v*v<=1208925819614629174706176+4611686018427387904
theorem OY{u v C S:Int}(L:Lon u v)(Cb:Ab C 2199023255552)(Sb:Ab S 2199023255552):
    ∃C' S',GV false C S u v=((C',S'),false)/\1208925819614629174706176*(C'*C'+S'*S')<=(C*C+S*S)*(u*u+v*v)+21778071482940061661655974875633165533184:=by
 obtain⟨m1,h1,q1,b1⟩:=Av (B:=2199023255553) Cb L.ub (by decide) (by decide) (by decide) (by decide)
 obtain⟨m2,h2,q2,b2⟩:=Av (B:=2199023255553) Sb L.vb (by decide) (by decide) (by decide) (by decide)
 have h3:=Bh b1 b2 (by decide) (by decide) (by decide)
 obtain⟨m4,h4,q4,b4⟩:=Av (B:=2199023255553) Sb L.ub (by decide) (by decide) (by decide) (by decide)
 obtain⟨m5,h5,q5,b5⟩:=Av (B:=2199023255553) Cb L.vb (by decide) (by decide) (by decide) (by decide)
 have h6:=Bp b4 b5 (by decide) (by decide) (by decide)
 refine⟨m1-m2,m4+m5,by unfold GV;simp only[h1,h2,h3,h4,h5,h6],?_⟩
 have X:Ab (1099511627776*(m1-m2)-(C*u-S*v)) 1099511627776:=by
  have:=q1.lo;have:=q1.hi;have:=q2.lo;have:=q2.hi
  exact⟨by omega,by omega⟩
 have Y:Ab (1099511627776*(m4+m5)-(S*u+C*v)) 1099511627776:=by
  have:=q4.lo;have:=q4.hi;have:=q5.lo;have:=q5.hi
  exact⟨by omega,by omega⟩
 have e:1208925819614629174706176*((m1-m2)*(m1-m2)+(m4+m5)*(m4+m5))=(C*C+S*S)*(u*u+v*v)+(1099511627776*(m1-m2)-(C*u-S*v))*(1099511627776*(m1-m2)+(C*u-S*v))+(1099511627776*(m4+m5)-(S*u+C*v))*(1099511627776*(m4+m5)+(S*u+C*v)):=by grind
 have x1:Ab (1099511627776*(m1-m2)+(C*u-S*v)) 9671406556935849488842784768:=by
  have:=(Cb.mul L.ub).lo;have:=(Cb.mul L.ub).hi;have:=(Sb.mul L.vb).lo;have:=(Sb.mul L.vb).hi
  have:=b1.lo;have:=b1.hi;have:=b2.lo;have:=b2.hi
  exact⟨by omega,by omega⟩
 have y1:Ab (1099511627776*(m4+m5)+(S*u+C*v)) 9671406556935849488842784768:=by
  have:=(Cb.mul L.vb).lo;have:=(Cb.mul L.vb).hi;have:=(Sb.mul L.ub).lo;have:=(Sb.mul L.ub).hi
  have:=b4.lo;have:=b4.hi;have:=b5.lo;have:=b5.hi
  exact⟨by omega,by omega⟩
 have p:=(X.mul x1).hi
 have q:=(Y.mul y1).hi
 generalize (1099511627776*(m1-m2)-(C*u-S*v))*(1099511627776*(m1-m2)+(C*u-S*v))=A at *
 generalize (1099511627776*(m4+m5)-(S*u+C*v))*(1099511627776*(m4+m5)+(S*u+C*v))=B at *
 omega
theorem Rc{u v:Int}(L:Lon u v):∀m:Nat,m<=6->Ab (wv u v m).1 1100000000000/\Ab (wv u v m).2 1100000000000/\(wv u v m).1*(wv u v m).1+(wv u v m).2*(wv u v m).2<=1208925819614629174706176+m*4650000000000000000/\GV false (wv u v m).1 (wv u v m).2 u v=(wv u v (m+1),false)
 |0,_=>by
  obtain⟨C',S',e,_⟩:=OY (C:=1099511627776) (S:=0) L ⟨by decide,by decide⟩ ⟨by decide,by decide⟩
  refine⟨⟨by show(-1100000000000:Int)<=1099511627776;decide,by show(1099511627776:Int)<=1100000000000;decide⟩,⟨by show(-1100000000000:Int)<=0;decide,by show(0:Int)<=1100000000000;decide⟩,by show(1099511627776:Int)*1099511627776+0*0<=_;decide,?_⟩
  show GV false 1099511627776 0 u v=((GV false 1099511627776 0 u v).1,false)
  rw[e]
 | m+1,hm=>by
  obtain⟨c,s,h,e⟩:=Rc L m (by omega)
  obtain⟨C',S',e',k⟩:=OY L (c.le (by decide)) (s.le (by decide))
  rw[e]at e'
  have e1:wv u v (m+1)=(C',S'):=congrArg Prod.fst e'
  have c0:=AE (wv u v m).1;have s0:=AE (wv u v m).2
  have bd:C'*C'+S'*S'<=1208925819614629174706176+((m:Int)+1)*4650000000000000000:=by
   have p:=Int.mul_le_mul_of_nonneg_left L.hi (show 0<=(wv u v m).1*(wv u v m).1+(wv u v m).2*(wv u v m).2 by omega)
   generalize (wv u v m).1*(wv u v m).1+(wv u v m).2*(wv u v m).2=ρ at *
   have m6:(m:Int)<=5:=by omega
   have m0:(0:Int)<=m:=by omega
   omega
  have sm:Ab C' 1100000000000/\Ab S' 1100000000000:=by
   have a:=AE C';have b:=AE S'
   have m6:(m:Int)<=5:=by omega
   exact⟨(GU (n:=1099999999999) (by decide) (by omega)).le (by decide),(GU (n:=1099999999999) (by decide) (by omega)).le (by decide)⟩
  obtain⟨C2,S2,e2,_⟩:=OY L (sm.1.le (by decide)) (sm.2.le (by decide))
  rw[e1]
  refine⟨sm.1,sm.2,by rw[show((m+1:Nat):Int)=(m:Int)+1 by omega];exact bd,?_⟩
  show GV false C' S' u v=((GV false (wv u v (m+1)).1 (wv u v (m+1)).2 u v).1,false)
  rw[e1,e2]
theorem Aoa(n m:Nat):Ab (fG n m) 32400000000000:=by unfold fG;split<;>exact⟨by decide,by decide⟩
theorem Aob(n m:Nat):Ab (fH n m) 32400000000000:=by unfold fH;split<;>exact⟨by decide,by decide⟩
theorem OZ(n m:Nat):Ab (fGy n m) 40000000000:=by unfold fGy;split<;>exact⟨by decide,by decide⟩
theorem O5(n m:Nat):Ab (fHy n m) 40000000000:=by unfold fHy;split<;>exact⟨by decide,by decide⟩
def gS(y:Int)(n m:Nat):Int:=if n<=2 then fG n m+(mulS false y (fGy n m)).1 else fG n m
def hS(y:Int)(n m:Nat):Int:=if n<=2 then fH n m+(mulS false y (fHy n m)).1 else fH n m
theorem Kj{y a:Int}(y0:0<=y)(y1:y<=5497558138880)(ha:Ab a 40000000000):∃x,mulS false y a=(x,false)/\min 0 (5*a)<=x/\x<=max 0 (5*a):=by
 obtain⟨x,e,r,_⟩:=Av (B:=200000000001) (show Ab y 5497558138880 from⟨by omega,y1⟩) ha (by decide) (by decide) (by decide) (by decide)
 refine⟨x,e,?_,?_⟩
 ·by_cases h:0<=a
  ·have:=Int.mul_nonneg y0 h
   have:=r.lo
   omega
  ·have:=Int.mul_le_mul_of_nonpos_right y1 (show a<=0 by omega)
   have:=r.lo
   omega
 ·by_cases h:0<=a
  ·have:=Int.mul_le_mul_of_nonneg_right y1 h
   have:=r.hi
   omega
  ·have:=Int.mul_nonneg y0 (show 0<=-a by omega)
   rw[Int.mul_neg]at this
   have:=r.hi
   omega
theorem Afl{y:Int}(y0:0<=y)(y1:y<=5497558138880)(n m:Nat):Ab (gS y n m) 35184372088832:=by
 obtain⟨x,e,l,u⟩:=Kj y0 y1 (OZ n m)
 have a:=OZ n m;have b:=Aoa n m
 have:=a.lo;have:=a.hi;have:=b.lo;have:=b.hi
 unfold gS
 split
 ·rw[e];exact⟨by show _<=fG n m+x;omega,by show fG n m+x<=_;omega⟩
 ·exact⟨by omega,by omega⟩
theorem Afm{y:Int}(y0:0<=y)(y1:y<=5497558138880)(n m:Nat):Ab (hS y n m) 35184372088832:=by
 obtain⟨x,e,l,u⟩:=Kj y0 y1 (O5 n m)
 have a:=O5 n m;have b:=Aob n m
 have:=a.lo;have:=a.hi;have:=b.lo;have:=b.hi
 unfold hS
 split
 ·rw[e];exact⟨by show _<=fH n m+x;omega,by show fH n m+x<=_;omega⟩
 ·exact⟨by omega,by omega⟩
def LR(bad:Bool)(n m t C S g h:Int)(x st:V3):V3×Bool:=
 let r1:=mulS bad g C;let r2:=mulS r1.2 h S;let r3:=Ca r2.2 r1.1 r2.1
 let r4:=mulS r3.2 g S;let r5:=mulS r4.2 h C;let r6:=CP r5.2 r4.1 r5.1
 let r7:=mulS r6.2 r3.1 x.1;let r8:=mulS r7.2 t r7.1;let r9:=Aw r8.2 r8.1 (n+1) 1;let r10:=Ca r9.2 st.1 r9.1
 let r11:=mulS r10.2 r3.1 x.2.1;let r12:=mulS r11.2 t r11.1;let r13:=CP r12.2 st.2.1 r12.1
 if 0<m then
  let r14:=mulS r13.2 r6.1 x.2.2;let r15:=mulS r14.2 t r14.1;let r16:=Aw r15.2 r15.1 m 1;let r17:=Ca r16.2 st.2.2 r16.1
  ((r10.1,r13.1,r17.1),r17.2)
 else((r10.1,r13.1,st.2.2),r13.2)
theorem NA{t e E x:Int}(t0:0<=t)(t1:t<=2199023255552)(xb:Ab x 17592186044416)(eb:Ab e 70400000000002)(he:Ab (e*1099511627776-E) 1099511627776):
    ∃y z,mulS false e x=(y,false)/\mulS false t y=(z,false)/\Ab z 2252800000000070/\Ab (z*1329227995784915872903807060280344576-t*x*E) 45193751856687139678729440049531715584:=by
 obtain⟨y,h1,q1,b1⟩:=Av (B:=1126400000000033) eb xb (by decide) (by decide) (by decide) (by decide)
 have tb:Ab t 2199023255552:=⟨by omega,t1⟩
 obtain⟨z,h2,q2,b2⟩:=Av (B:=2252800000000070) tb b1 (by decide) (by decide) (by decide) (by decide)
 refine⟨y,z,h1,h2,b2,?_⟩
 have k:2*(z*1329227995784915872903807060280344576-t*x*E)=1208925819614629174706176*(2*(z*1099511627776-t*y))+1099511627776*(t*(2*(y*1099511627776-e*x)))+2*(t*(x*(e*1099511627776-E))):=by grind
 have a:=tb.mul q1
 have b:=tb.mul (xb.mul he)
 have:=q2.lo;have:=q2.hi;have:=a.lo;have:=a.hi;have:=b.lo;have:=b.hi
 generalize t*(2*(y*1099511627776-e*x))=A at *
 generalize t*(x*(e*1099511627776-E))=B at *
 generalize 2*(z*1099511627776-t*y)=D at *
 generalize z*1329227995784915872903807060280344576-t*x*E=Z at *
 exact⟨by omega,by omega⟩
theorem Fz{z k:Int}(hz:Ab z 2252800000000070)(k0:0<=k)(k1:k<=7):Aw false z k 1=(z*k,false):=by
 obtain⟨m,e,h1,h2,_⟩:=Em z k 1 (hz.numB (by decide)) (Fe ⟨by omega,by omega⟩) (by rfl) (by decide) (by
  have a:=F4 ⟨hz.lo,hz.hi⟩
  have b:sz k<=7:=F4 ⟨by omega,k1⟩
  have:=Int.mul_le_mul a b (JC k).2.2 (by decide)
  omega)
 rw[e]
 have:m=z*k:=by omega
 rw[this]
structure St3(x:V3)(K:Int):Prop where
 a:Ab x.1 K
 b:Ab x.2.1 K
 c:Ab x.2.2 K
theorem Wx{n m t C S g h K:Int}{x st:V3}(n0:0<=n)(n1:n<=6)(m0:0<=m)(m1:m<=6)(t0:0<=t)(t1:t<=2199023255552)(Cb:Ab C 1100000000000)(Sb:Ab S 1100000000000)(gb:Ab g 35184372088832)(hb:Ab h 35184372088832)(sx:IL x)(ss:St3 st K)(hK:K<=1152921504606846976)(K0:0<=K):
    ∃ s',LR false n m t C S g h x st=(s',false)/\St3 s' (K+15769600000000490)/\
      Ab (1329227995784915872903807060280344576*(s'.1-st.1)-(n+1)*(t*x.1)*(g*C+h*S)) 340282366920938463463374607431768211456/\
      Ab (1329227995784915872903807060280344576*(st.2.1-s'.2.1)-t*x.2.1*(g*C+h*S)) 340282366920938463463374607431768211456/\
      Ab (1329227995784915872903807060280344576*(s'.2.2-st.2.2)-m*(t*x.2.2)*(g*S-h*C)) 340282366920938463463374607431768211456:=by
 obtain⟨v1,h1,q1,b1⟩:=Av (B:=35200000000001) gb Cb (by decide) (by decide) (by decide) (by decide)
 obtain⟨v2,h2,q2,b2⟩:=Av (B:=35200000000001) hb Sb (by decide) (by decide) (by decide) (by decide)
 have h3:=Bp b1 b2 (by decide) (by decide) (by decide)
 obtain⟨v4,h4,q4,b4⟩:=Av (B:=35200000000001) gb Sb (by decide) (by decide) (by decide) (by decide)
 obtain⟨v5,h5,q5,b5⟩:=Av (B:=35200000000001) hb Cb (by decide) (by decide) (by decide) (by decide)
 have h6:=Bh b4 b5 (by decide) (by decide) (by decide)
 have eE:Ab ((v1+v2)*1099511627776-(g*C+h*S)) 1099511627776:=by
  have:=q1.lo;have:=q1.hi;have:=q2.lo;have:=q2.hi
  exact⟨by omega,by omega⟩
 have oE:Ab ((v4-v5)*1099511627776-(g*S-h*C)) 1099511627776:=by
  have:=q4.lo;have:=q4.hi;have:=q5.lo;have:=q5.hi
  exact⟨by omega,by omega⟩
 obtain⟨y1,z1,i1,j1,zb1,w1⟩:=NA t0 t1 sx.p (b1.add b2) eE
 obtain⟨y2,z2,i2,j2,zb2,w2⟩:=NA t0 t1 sx.d (b1.add b2) eE
 obtain⟨y3,z3,i3,j3,zb3,w3⟩:=NA t0 t1 sx.q (b4.sub b5) oE
 have p1:=Fz (k:=n+1) zb1 (by omega) (by omega)
 have p3:=Fz (k:=m) zb3 (by omega) (by omega)
 have c1:Ab (z1*(n+1)) 15769600000000490:=zb1.mul (L:=7) ⟨by omega,by omega⟩
 have c3:Ab (z3*m) 15769600000000490:=zb3.mul (L:=7) ⟨by omega,by omega⟩
 have a1:=Bp ss.a c1 (by omega) (by omega) (by decide)
 have a2:=Bh ss.b zb2 (by omega) (by omega) (by decide)
 have a3:=Bp ss.c c3 (by omega) (by omega) (by decide)
 have f1:Ab (1329227995784915872903807060280344576*(st.1+z1*(n+1)-st.1)-(n+1)*(t*x.1)*(g*C+h*S)) 340282366920938463463374607431768211456:=by
  have k:=w1.mul (y:=n+1) (L:=7) ⟨by omega,by omega⟩
  have e:1329227995784915872903807060280344576*(st.1+z1*(n+1)-st.1)-(n+1)*(t*x.1)*(g*C+h*S)=(z1*1329227995784915872903807060280344576-t*x.1*(g*C+h*S))*(n+1):=by grind
  rw[e]
  exact k.le (by decide)
 have f2:Ab (1329227995784915872903807060280344576*(st.2.1-(st.2.1-z2))-t*x.2.1*(g*C+h*S)) 340282366920938463463374607431768211456:=by
  have e:1329227995784915872903807060280344576*(st.2.1-(st.2.1-z2))-t*x.2.1*(g*C+h*S)=z2*1329227995784915872903807060280344576-t*x.2.1*(g*C+h*S):=by omega
  rw[e]
  exact w2.le (by decide)
 by_cases hm:0<m
 ·refine⟨(st.1+z1*(n+1),st.2.1-z2,st.2.2+z3*m),?_,⟨ss.a.add c1,(ss.b.sub zb2).le (by omega),ss.c.add c3⟩,f1,f2,?_⟩
  ·unfold LR
   simp only[h1,h2,h3,h4,h5,h6,i1,j1,p1,a1,i2,j2,a2,if_pos hm,i3,j3,p3,a3]
  ·have k:=w3.mul (y:=m) (L:=7) ⟨by omega,by omega⟩
   have e:1329227995784915872903807060280344576*(st.2.2+z3*m-st.2.2)-m*(t*x.2.2)*(g*S-h*C)=(z3*1329227995784915872903807060280344576-t*x.2.2*(g*S-h*C))*m:=by grind
   show Ab (1329227995784915872903807060280344576*(st.2.2+z3*m-st.2.2)-m*(t*x.2.2)*(g*S-h*C)) _
   rw[e]
   exact k.le (by decide)
 ·obtain rfl:m=0:=by omega
  refine⟨(st.1+z1*(n+1),st.2.1-z2,st.2.2),?_,⟨ss.a.add c1,(ss.b.sub zb2).le (by omega),ss.c.le (by omega)⟩,f1,f2,?_⟩
  ·unfold LR
   simp only[h1,h2,h3,h4,h5,h6,i1,j1,p1,a1,i2,j2,a2,if_neg hm]
  ·have e:1329227995784915872903807060280344576*(st.2.2-st.2.2)-0*(t*x.2.2)*(g*S-h*C)=0:=by grind
   show Ab (1329227995784915872903807060280344576*(st.2.2-st.2.2)-0*(t*x.2.2)*(g*S-h*C)) _
   rw[e]
   exact⟨by decide,by decide⟩
theorem Re(c s:Int):∀n m,n<m->tri c s n m=(0,0,0)
 |0,m,h=>by unfold tri;rw[if_neg (by omega)]
 |1,m,h=>by unfold tri;rw[if_neg (by omega),if_neg (by omega)]
 |n+2,m,h=>by unfold tri;rw[if_neg (by omega),if_neg (by omega)]
theorem O6{f:Nat->Int}{a:Nat}(h:∀k,a<=k->f k=0):∀b,sm f (a+b)=sm f a
 |0=>rfl
 |b+1=>by show sm f (a+b)+f (a+b)=_;rw[O6 h b,h (a+b) (by omega)];omega
section
variable (c s q y u v:Int)
def EQ(n:Nat)(st:V3):Nat->V3
 |0=>st
 |m+1=>(LR false n m (tS q n) (wv u v m).1 (wv u v m).2 (gS y n m) (hS y n m) (tri c s n m) (EQ n st m)).1
def DX:Nat->V3
 |0=>(0,0,0)
 |k+1=>EQ c s q y u v (k+1) (DX k) (k+2)
end
structure Zd(C S Q:Iv)(c s q y u v:Int):Prop where
 L:Jn C S Q c s q
 y0:0<=y
 y1:y<=5497558138880
 W:Lon u v
section
variable {C S Q:Iv} {c s q y u v:Int}
theorem O7(Z:Zd C S Q c s q y u v){k:Nat}(hk:k<6){st:V3}{K:Int}(ss:St3 st K)(K0:0<=K)(hK:K<=900000000000000000):∀m:Nat,m<=k+2->
    St3 (EQ c s q y u v (k+1) st m) (K+m*15769600000000490)/\
    Ab (1329227995784915872903807060280344576*((EQ c s q y u v (k+1) st m).1-st.1)-sm (fun j=>wU c s q k j*(gS y (k+1) j*(wv u v j).1+hS y (k+1) j*(wv u v j).2)) m) (m*340282366920938463463374607431768211456)/\
    Ab (1329227995784915872903807060280344576*(st.2.1-(EQ c s q y u v (k+1) st m).2.1)-sm (fun j=>wS c s q k j*(gS y (k+1) j*(wv u v j).1+hS y (k+1) j*(wv u v j).2)) m) (m*340282366920938463463374607431768211456)/\
    Ab (1329227995784915872903807060280344576*((EQ c s q y u v (k+1) st m).2.2-st.2.2)-sm (fun j=>wE c s q k j*(gS y (k+1) j*(wv u v j).2-hS y (k+1) j*(wv u v j).1)) m) (m*340282366920938463463374607431768211456)
 | 0,_=>by
  refine⟨by show St3 st _;simpa using ss,?_,?_,?_⟩
  ·show Ab (1329227995784915872903807060280344576*(st.1-st.1)-0) _
   exact⟨by omega,by omega⟩
  ·show Ab (1329227995784915872903807060280344576*(st.2.1-st.2.1)-0) _
   exact⟨by omega,by omega⟩
  ·show Ab (1329227995784915872903807060280344576*(st.2.2-st.2.2)-0) _
   exact⟨by omega,by omega⟩
 | m+1,hm=>by
  obtain⟨i1,i2,i3,i4⟩:=O7 Z hk ss K0 hK m (by omega)
  obtain⟨_,t0,t1'⟩:=Afj Z.L.q0 Z.L.q1 Z.L.iq (k+1) (by omega)
  have t1:tS q (k+1)<=2199023255552:=Int.le_trans t1' (Ww _)
  obtain⟨cb,sb,_,_⟩:=Rc Z.W m (by omega)
  obtain⟨s',e,b,f1,f2,f3⟩:=Wx (n:=((k+1:Nat):Int)) (m:=(m:Int)) (K:=K+m*15769600000000490) (by omega) (by omega) (by omega) (by omega) t0 t1 cb sb (Afl Z.y0 Z.y1 (k+1) m) (Afm Z.y0 Z.y1 (k+1) m) (Z.L.sm k hk m) i1 (by omega) (by omega)
  have e1:EQ c s q y u v (k+1) st (m+1)=s':=by unfold EQ;rw[e]
  rw[e1]
  have cst:((k+1:Nat):Int)+1=(k:Int)+2:=by omega
  rw[cst]at f1
  have mm:((m+1:Nat):Int)=(m:Int)+1:=by omega
  rw[mm]
  refine⟨⟨b.a.le (by omega),b.b.le (by omega),b.c.le (by omega)⟩,?_,?_,?_⟩
  ·show Ab (_-(sm _ m+wU c s q k m*(gS y (k+1) m*(wv u v m).1+hS y (k+1) m*(wv u v m).2))) _
   unfold wU at *
   have:=i2.lo;have:=i2.hi;have:=f1.lo;have:=f1.hi
   exact⟨by omega,by omega⟩
  ·show Ab (_-(sm _ m+wS c s q k m*(gS y (k+1) m*(wv u v m).1+hS y (k+1) m*(wv u v m).2))) _
   unfold wS at *
   have:=i3.lo;have:=i3.hi;have:=f2.lo;have:=f2.hi
   exact⟨by omega,by omega⟩
  ·show Ab (_-(sm _ m+wE c s q k m*(gS y (k+1) m*(wv u v m).2-hS y (k+1) m*(wv u v m).1))) _
   unfold wE at *
   have:=i4.lo;have:=i4.hi;have:=f3.lo;have:=f3.hi
   exact⟨by omega,by omega⟩
theorem LS(Z:Zd C S Q c s q y u v):∀k:Nat,k<=6->
    St3 (DX c s q y u v k) (k*126156800000003920)/\
    Ab (1329227995784915872903807060280344576*(DX c s q y u v k).1-sm (fun n=>sm (fun j=>wU c s q n j*(gS y (n+1) j*(wv u v j).1+hS y (n+1) j*(wv u v j).2)) 7) k) (k*2722258935367507707706996859454145691648)/\
    Ab (1329227995784915872903807060280344576*-(DX c s q y u v k).2.1-sm (fun n=>sm (fun j=>wS c s q n j*(gS y (n+1) j*(wv u v j).1+hS y (n+1) j*(wv u v j).2)) 7) k) (k*2722258935367507707706996859454145691648)/\
    Ab (1329227995784915872903807060280344576*(DX c s q y u v k).2.2-sm (fun n=>sm (fun j=>wE c s q n j*(gS y (n+1) j*(wv u v j).2-hS y (n+1) j*(wv u v j).1)) 7) k) (k*2722258935367507707706996859454145691648)
 | 0,_=>by
  refine⟨⟨⟨by show(-(0*126156800000003920):Int)<=0;decide,by show(0:Int)<=0*126156800000003920;decide⟩,⟨by show(-(0*126156800000003920):Int)<=0;decide,by show(0:Int)<=0*126156800000003920;decide⟩,⟨by show(-(0*126156800000003920):Int)<=0;decide,by show(0:Int)<=0*126156800000003920;decide⟩⟩,?_,?_,?_⟩
  ·show Ab (1329227995784915872903807060280344576*0-0) _
   exact⟨by omega,by omega⟩
  ·show Ab (1329227995784915872903807060280344576*-0-0) _
   exact⟨by omega,by omega⟩
  ·show Ab (1329227995784915872903807060280344576*0-0) _
   exact⟨by omega,by omega⟩
 | k+1,hk=>by
  obtain⟨s0,o1,o2,o3⟩:=LS Z k (by omega)
  obtain⟨i1,i2,i3,i4⟩:=O7 Z (show k<6 by omega) s0 (by omega) (by omega) (k+2) (Nat.le_refl _)
  have e1:DX c s q y u v (k+1)=EQ c s q y u v (k+1) (DX c s q y u v k) (k+2):=by rw[DX]
  have z (j:Nat) (h:k+2<=j):tri c s (k+1) j=(0,0,0):=Re c s (k+1) j (by omega)
  have c1:=O6 (f:=fun j=>wU c s q k j*(gS y (k+1) j*(wv u v j).1+hS y (k+1) j*(wv u v j).2)) (a:=k+2) (fun j h=>by show wU c s q k j*_=0;unfold wU;rw[z j h];simp) (5-k)
  have c2:=O6 (f:=fun j=>wS c s q k j*(gS y (k+1) j*(wv u v j).1+hS y (k+1) j*(wv u v j).2)) (a:=k+2) (fun j h=>by show wS c s q k j*_=0;unfold wS;rw[z j h];simp) (5-k)
  have c3:=O6 (f:=fun j=>wE c s q k j*(gS y (k+1) j*(wv u v j).2-hS y (k+1) j*(wv u v j).1)) (a:=k+2) (fun j h=>by show wE c s q k j*_=0;unfold wE;rw[z j h];simp) (5-k)
  rw[show k+2+(5-k)=7 by omega]at c1 c2 c3
  rw[e1]
  have kk:((k+2:Nat):Int)<=8:=by omega
  have k1:((k+1:Nat):Int)=(k:Int)+1:=by omega
  have k2:((k+2:Nat):Int)=(k:Int)+2:=by omega
  rw[k2]at i1 i2 i3 i4
  rw[k1]
  refine⟨⟨i1.a.le (by omega),i1.b.le (by omega),i1.c.le (by omega)⟩,?_,?_,?_⟩
  ·show Ab (_-(sm _ k+sm (fun j=>wU c s q k j*(gS y (k+1) j*(wv u v j).1+hS y (k+1) j*(wv u v j).2)) 7)) _
   rw[c1]
   have:=i2.lo;have:=i2.hi;have:=o1.lo;have:=o1.hi
   exact⟨by omega,by omega⟩
  ·show Ab (_-(sm _ k+sm (fun j=>wS c s q k j*(gS y (k+1) j*(wv u v j).1+hS y (k+1) j*(wv u v j).2)) 7)) _
   rw[c2]
   have:=i3.lo;have:=i3.hi;have:=o2.lo;have:=o2.hi
   exact⟨by omega,by omega⟩
  ·show Ab (_-(sm _ k+sm (fun j=>wE c s q k j*(gS y (k+1) j*(wv u v j).2-hS y (k+1) j*(wv u v j).1)) 7)) _
   rw[c3]
   have:=i4.lo;have:=i4.hi;have:=o3.lo;have:=o3.hi
   exact⟨by omega,by omega⟩
theorem Ze(Z:Zd C S Q c s q y u v){k m:Nat}(hk:k<6)(hm:m<k+2):
    LR false ((k+1:Nat):Int) m (tS q (k+1)) (wv u v m).1 (wv u v m).2 (gS y (k+1) m) (hS y (k+1) m) (tri c s (k+1) m) (EQ c s q y u v (k+1) (DX c s q y u v k) m)=(EQ c s q y u v (k+1) (DX c s q y u v k) (m+1),false):=by
 obtain⟨s0,_,_,_⟩:=LS Z k (by omega)
 obtain⟨i1,_,_,_⟩:=O7 Z hk s0 (by omega) (by omega) m (by omega)
 obtain⟨_,t0,t1'⟩:=Afj Z.L.q0 Z.L.q1 Z.L.iq (k+1) (by omega)
 have t1:tS q (k+1)<=2199023255552:=Int.le_trans t1' (Ww _)
 obtain⟨cb,sb,_,_⟩:=Rc Z.W m (by omega)
 obtain⟨s',e,_,_,_,_⟩:=Wx (n:=((k+1:Nat):Int)) (m:=(m:Int)) (by omega) (by omega) (by omega) (by omega) t0 t1 cb sb (Afl Z.y0 Z.y1 (k+1) m) (Afm Z.y0 Z.y1 (k+1) m) (Z.L.sm k hk m) i1 (by omega) (by omega)
 rw[e,show EQ c s q y u v (k+1) (DX c s q y u v k) (m+1)=s' by(conv=>lhs;unfold EQ);rw[e]]
end
def Zf(bad:Bool)(w:V3)(c s u v:Int):V3×Bool:=
 let r1:=mulS bad w.1 s;let r2:=mulS r1.2 w.2.1 c;let r3:=Ca r2.2 r1.1 r2.1
 let r4:=mulS r3.2 r3.1 u;let r5:=mulS r4.2 w.2.2 v;let r6:=CP r5.2 r4.1 r5.1
 let r7:=mulS r6.2 r3.1 v;let r8:=mulS r7.2 w.2.2 u;let r9:=Ca r8.2 r7.1 r8.1
 let r10:=mulS r9.2 w.1 c;let r11:=mulS r10.2 w.2.1 s;let r12:=CP r11.2 r10.1 r11.1
 ((r6.1,r9.1,r12.1),r12.2)
abbrev Strip:=Iv×Iv×List (Iv×Iv)
def Rf(hi:Int):Int->List Iv->Bool
 |lo,[]=>decide (hi<=lo)
 |lo,X::l=>decide (X.1<=lo+1)&&Rf hi X.2 l
theorem Jo{hi x:Int}(hx:x<=hi):∀(l:List Iv) (lo:Int),Rf hi lo l=true->lo<x->∃X,X∈l/\X.1<=x/\x<=X.2
 |[],lo,h,k=>by
  have:=of_decide_eq_true h
  omega
 | X::l,lo,h,k=>by
  unfold Rf at h
  simp only[Bool.and_eq_true,decide_eq_true_eq]at h
  by_cases c:x<=X.2
  ·exact⟨X,List.mem_cons_self,by omega,c⟩
  ·obtain⟨Y,m,a,b⟩:=Jo hx l X.2 h.2 (by omega)
   exact⟨Y,List.mem_cons_of_mem _ m,a,b⟩
def Uu(C S:Iv):Bool:=
 decide (1208925819614629174706176+4398046511104<=S.2*S.2+(if C.1<=0/\0<=C.2 then 0 else min (C.1*C.1) (C.2*C.2)))&&decide (0<=S.2)&&
 (decide (S.1<=0)||decide (S.1*S.1+max (C.1*C.1) (C.2*C.2)<=1208925819614629174706176-4398046511104))
def AF(Z:Strip):Bool:=Uu Z.1 Z.2.1&&Rf 1098315776674 836129616317 (Z.2.2.map Prod.fst)&&Z.2.2.all fun b=>Afk Z.1 Z.2.1 b.1 b.2.1 b.2.2
theorem Afn{C S:Iv}{c s:Int}(ok:Uu C S=true)(ic:In C c)(s0:0<=s)(cs:Ab (c*c+s*s-1208925819614629174706176) 4398046511104):In S s:=by
 unfold Uu at ok
 simp only[Bool.and_eq_true,Bool.or_eq_true,decide_eq_true_eq]at ok
 obtain⟨⟨o1,o2⟩,o3⟩:=ok
 have c1:=ic.lo;have c2:=ic.hi
 have k1:=cs.lo;have k2:=cs.hi
 have cc:=AE c
 refine Wp ?_ ?_
 ·rcases o3 with h |h
  ·omega
  ·have m:c*c<=max (C.1*C.1) (C.2*C.2):=by
    have:=(Wq (a:=C.1) (b:=C.2) (c:=C.1) (d:=C.2) (x:=c) (y:=c) (by omega) (by omega) (by omega) (by omega)).2
    unfold max4 at this
    have e:=Int.mul_comm C.2 C.1
    have p:=OV (a:=C.1) (b:=C.2) (x:=C.1) (y:=C.2) (by omega) (by omega)
    have:C.1*C.2<=max (C.1*C.1) (C.2*C.2):=by
     have:=AE (C.1-C.2)
     have e2:(C.1-C.2)*(C.1-C.2)=C.1*C.1+C.2*C.2-2*(C.1*C.2):=by grind
     omega
    omega
   apply Classical.byContradiction
   intro g
   have:=Int.mul_le_mul (show s+1<=S.1 by omega) (show s+1<=S.1 by omega) (by omega) (by omega)
   have e:(s+1)*(s+1)=s*s+2*s+1:=by grind
   omega
 ·have m:(if C.1<=0/\0<=C.2 then 0 else min (C.1*C.1) (C.2*C.2))<=c*c:=by
   split
   ·exact cc
   ·rename_i g
    by_cases h:0<C.1
    ·have:=Int.mul_le_mul (show C.1<=c by omega) (show C.1<=c by omega) (by omega) (by omega)
     omega
    ·have:=Int.mul_le_mul (show-C.2<=-c by omega) (show-C.2<=-c by omega) (by omega) (by omega)
     rw[Int.neg_mul_neg,Int.neg_mul_neg]at this
     omega
  apply Classical.byContradiction
  intro g
  have:=Int.mul_le_mul (show S.2+1<=s by omega) (show S.2+1<=s by omega) (by omega) (by omega)
  have e:(S.2+1)*(S.2+1)=S.2*S.2+2*S.2+1:=by grind
  omega
def Afo:Strip:=
 ((-1099511627776,-1078384820154),(0,214504077539),[((836129616317,967222696495),(-989,139)),((967222696495,1098315776674),(-996,69))])
def Afp:Strip:=
 ((-1078384820154,-1052167026225),(214504077516,319171378015),[((836129616317,967222696495),(-882,469)),((967222696495,1098315776674),(-847,529))])
def Afq:Strip:=
 ((-1052167026225,-1015816288660),(319171378000,420764883649),[((836129616317,967222696495),(-765,642)),((967222696495,1032769236584),(-808,587)),((1032769236584,1065542506629),(-808,587)),((1065542506629,1098315776674),(-808,587))])
def Afr:Strip:=
 ((-1015816288660,-993946739174),(420764883637,470101796747),[((836129616317,967222696495),(-718,694)),((967222696495,1098315776674),(-668,742))])
def Afs:Strip:=
 ((-993946739174,-969682684933),(470101796736,518306193442),[((836129616317,967222696495),(-615,787)),((967222696495,1098315776674),(-615,787))])
def Aft:Strip:=
 ((-969682684933,-943082580171),(518306193432,565261945117),[((836129616317,967222696495),(-558,828)),((967222696495,1032769236584),(-668,742)),((1032769236584,1098315776674),(-615,787))])
def Afu:Strip:=
 ((-943082580171,-914210506869),(565261945107,610855931255),[((836129616317,901676156406),(-718,694)),((901676156406,967222696495),(-668,742)),((967222696495,1032769236584),(-615,787)),((1032769236584,1098315776674),(-558,828))])
def Afv:Strip:=
 ((-914210506869,-883136020380),(610855931246,654978311952),[((836129616317,901676156406),(-718,694)),((901676156406,967222696495),(-615,787)),((967222696495,1032769236584),(-558,828)),((1032769236584,1098315776674),(-499,865))])
def Afw:Strip:=
 ((-883136020380,-849933981864),(654978311943,697522792525),[((836129616317,901676156406),(-668,742)),((901676156406,967222696495),(-615,787)),((967222696495,1032769236584),(-499,865)),((1032769236584,1098315776674),(-438,898))])
def Afx:Strip:=
 ((-849933981864,-814684377941),(697522792517,738386879595),[((836129616317,901676156406),(-615,787)),((901676156406,967222696495),(-558,828)),((967222696495,1032769236584),(-438,898)),((1032769236584,1098315776674),(-438,898))])
def Wy:Strip:=
 ((-814684377941,-777472127993),(738386879587,777472127998),[((836129616317,901676156406),(-558,828)),((901676156406,967222696495),(-499,865)),((967222696495,1032769236584),(-438,898)),((1032769236584,1065542506629),(-499,865)),((1065542506629,1098315776674),(-438,898))])
def Wz:Strip:=
 ((-777472127993,-738386879591),(777472127990,814684377945),[((836129616317,901676156406),(-558,828)),((901676156406,967222696495),(-499,865)),((967222696495,1032769236584),(-374,926)),((1032769236584,1065542506629),(-438,898)),((1065542506629,1098315776674),(-438,898))])
def WA:Strip:=
 ((-738386879591,-697522792520),(814684377938,849933981869),[((836129616317,901676156406),(-499,865)),((901676156406,967222696495),(-438,898)),((967222696495,1032769236584),(-374,926)),((1032769236584,1065542506629),(-438,898)),((1065542506629,1098315776674),(-374,926))])
def WB:Strip:=
 ((-697522792520,-654978311947),(849933981861,883136020384),[((836129616317,901676156406),(-438,898)),((901676156406,967222696495),(-438,898)),((967222696495,999995966539),(-499,865)),((999995966539,1032769236584),(-438,898)),((1032769236584,1065542506629),(-438,898)),((1065542506629,1098315776674),(-374,926))])
def WC:Strip:=
 ((-654978311947,-610855931251),(883136020377,914210506872),[((836129616317,901676156406),(-438,898)),((901676156406,967222696495),(-374,926)),((967222696495,999995966539),(-499,865)),((999995966539,1032769236584),(-438,898)),((1032769236584,1065542506629),(-438,898)),((1065542506629,1098315776674),(-374,926))])
def WE:Strip:=
 ((-610855931251,-565261945111),(914210506865,943082580175),[((836129616317,901676156406),(-374,926)),((901676156406,967222696495),(-374,926)),((967222696495,999995966539),(-438,898)),((999995966539,1032769236584),(-438,898)),((1032769236584,1065542506629),(-374,926)),((1065542506629,1098315776674),(-374,926))])
def WF:Strip:=
 ((-565261945111,-518306193435),(943082580168,969682684937),[((836129616317,901676156406),(-374,926)),((901676156406,967222696495),(-308,950)),((967222696495,1032769236584),(-308,950)),((1032769236584,1065542506629),(-374,926)),((1065542506629,1098315776674),(-374,926))])
def WG:Strip:=
 ((-518306193435,-470101796741),(969682684931,993946739177),[((836129616317,901676156406),(-308,950)),((901676156406,967222696495),(-308,950)),((967222696495,1032769236584),(-241,969)),((1032769236584,1065542506629),(-374,926)),((1065542506629,1098315776674),(-374,926))])
def WH:Strip:=
 ((-470101796741,-420764883642),(993946739171,1015816288663),[((836129616317,901676156406),(-241,969)),((901676156406,967222696495),(-241,969)),((967222696495,1032769236584),(-241,969)),((1032769236584,1065542506629),(-374,926)),((1065542506629,1098315776674),(-374,926))])
def WI:Strip:=
 ((-420764883642,-319171378006),(1015816288657,1052167026228),[((836129616317,901676156406),(-104,993)),((901676156406,967222696495),(-104,993)),((967222696495,999995966539),(-173,984)),((999995966539,1032769236584),(-173,984)),((1032769236584,1065542506629),(-173,984)),((1065542506629,1098315776674),(-173,984))])
def WJ:Strip:=
 ((-319171378006,-214504077523),(1052167026222,1078384820157),[((836129616317,901676156406),(-34,998)),((901676156406,967222696495),(-34,998)),((967222696495,1032769236584),(-34,998)),((1032769236584,1098315776674),(-34,998))])
def WK:Strip:=
 ((-214504077523,0),(1078384820151,1099511627778),[((836129616317,901676156406),(-34,998)),((901676156406,967222696495),(-34,998)),((967222696495,1032769236584),(-34,998)),((1032769236584,1098315776674),(-34,998))])
def WL:Strip:=
 ((0,420764883642),(1015816288657,1099511627778),[((836129616317,901676156406),(34,998)),((901676156406,967222696495),(34,998)),((967222696495,1032769236584),(34,998)),((1032769236584,1098315776674),(34,998))])
def WM:Strip:=
 ((420764883642,610855931251),(914210506865,1015816288663),[((836129616317,901676156406),(374,926)),((901676156406,967222696495),(241,969)),((967222696495,1032769236584),(104,993)),((1032769236584,1098315776674),(34,998))])
def WN:Strip:=
 ((610855931251,697522792520),(849933981861,914210506872),[((836129616317,967222696495),(615,787)),((967222696495,1098315776674),(374,926))])
def WO:Strip:=
 ((697522792520,777472127993),(777472127990,849933981869),[((836129616317,967222696495),(808,587)),((967222696495,1098315776674),(615,787))])
def WP:Strip:=
 ((777472127993,849933981864),(697522792517,777472127998),[((836129616317,967222696495),(939,341)),((967222696495,1098315776674),(960,275))])
def WQ:Strip:=
 ((849933981864,914210506869),(610855931246,697522792525),[((836129616317,967222696495),(977,207)),((967222696495,1098315776674),(999,0))])
def WR:Strip:=
 ((914210506869,969682684933),(518306193432,610855931255),[((836129616317,967222696495),(996,69)),((967222696495,1098315776674),(999,0))])
def WS:Strip:=
 ((969682684933,1015816288660),(420764883637,518306193442),[((836129616317,967222696495),(999,0)),((967222696495,1098315776674),(999,0))])
def WT:Strip:=
 ((1015816288660,1052167026225),(319171378000,420764883649),[((836129616317,967222696495),(999,0)),((967222696495,1098315776674),(999,0))])
def WU:Strip:=
 ((1052167026225,1078384820154),(214504077516,319171378015),[((836129616317,967222696495),(999,0)),((967222696495,1098315776674),(999,0))])
def WV:Strip:=
 ((1078384820154,1099511627776),(0,214504077539),[((836129616317,967222696495),(999,0)),((967222696495,1098315776674),(999,0))])
def strips:List Strip:=[Afo,Afp,Afq,Afr,Afs,Aft,Afu,Afv,Afw,Afx,Wy,Wz,WA,WB,WC,WE,WF,WG,WH,WI,WJ,WK,WL,WM,WN,WO,WP,WQ,WR,WS,WT,WU,WV]
theorem Zg:AF Afo=true:=by decide+kernel
theorem Zh:AF Afp=true:=by decide+kernel
theorem Zi:AF Afq=true:=by decide+kernel
theorem Zj:AF Afr=true:=by decide+kernel
theorem Zk:AF Afs=true:=by decide+kernel
theorem Zl:AF Aft=true:=by decide+kernel
theorem Zm:AF Afu=true:=by decide+kernel
theorem Zn:AF Afv=true:=by decide+kernel
theorem Zo:AF Afw=true:=by decide+kernel
theorem Zp:AF Afx=true:=by decide+kernel
theorem Uv:AF Wy=true:=by decide+kernel
theorem Uw:AF Wz=true:=by decide+kernel
theorem Ux:AF WA=true:=by decide+kernel
theorem Uy:AF WB=true:=by decide+kernel
theorem Uz:AF WC=true:=by decide+kernel
theorem UA:AF WE=true:=by decide+kernel
theorem UB:AF WF=true:=by decide+kernel
theorem UC:AF WG=true:=by decide+kernel
theorem UD:AF WH=true:=by decide+kernel
theorem UE:AF WI=true:=by decide+kernel
theorem UF:AF WJ=true:=by decide+kernel
theorem UG:AF WK=true:=by decide+kernel
theorem UH:AF WL=true:=by decide+kernel
theorem UI:AF WM=true:=by decide+kernel
theorem UJ:AF WN=true:=by decide+kernel
theorem UK:AF WO=true:=by decide+kernel
theorem UL:AF WP=true:=by decide+kernel
theorem UM:AF WQ=true:=by decide+kernel
theorem UN:AF WR=true:=by decide+kernel
theorem UO:AF WS=true:=by decide+kernel
theorem UP:AF WT=true:=by decide+kernel
theorem UQ:AF WU=true:=by decide+kernel
theorem UR:AF WV=true:=by decide+kernel
theorem Zq:∀Z∈strips,AF Z=true:=by
 intro Z h
 simp only[strips,List.mem_cons,List.not_mem_nil,or_false]at h
 rcases h with rfl |rfl |rfl |rfl |rfl |rfl |rfl |rfl |rfl |rfl |rfl |rfl |rfl |rfl |rfl |rfl |rfl |rfl |rfl |rfl |rfl |rfl |rfl |rfl |rfl |rfl |rfl |rfl |rfl |rfl |rfl |rfl |rfl
 ·exact Zg
 ·exact Zh
 ·exact Zi
 ·exact Zj
 ·exact Zk
 ·exact Zl
 ·exact Zm
 ·exact Zn
 ·exact Zo
 ·exact Zp
 ·exact Uv
 ·exact Uw
 ·exact Ux
 ·exact Uy
 ·exact Uz
 ·exact UA
 ·exact UB
 ·exact UC
 ·exact UD
 ·exact UE
 ·exact UF
 ·exact UG
 ·exact UH
 ·exact UI
 ·exact UJ
 ·exact UK
 ·exact UL
 ·exact UM
 ·exact UN
 ·exact UO
 ·exact UP
 ·exact UQ
 ·exact UR
theorem O8:Rf 1099511627776 (-1099511627777) (strips.map Prod.fst)=true:=by decide+kernel
theorem Avy{c s q:Int}(cb:Ab c 1099511627776)(s0:0<=s)(cs:Ab (c*c+s*s-1208925819614629174706176) 4398046511104)(q0:836129616317<q)(q1:q<=1098315776674):
    ∃(C S Q:Iv) (r d:Int),In C c/\In S s/\In Q q/\Afk C S Q r d=true:=by
 obtain⟨X,hX,x1,x2⟩:=Jo cb.hi _ _ O8 (by have:=cb.lo;omega)
 obtain⟨Z,hZ,rfl⟩:=List.mem_map.1 hX
 have ok:=Zq Z hZ
 unfold AF at ok
 simp only[Bool.and_eq_true]at ok
 obtain⟨⟨o1,o2⟩,o3⟩:=ok
 have ic:In Z.1 c:=Wp x1 x2
 obtain⟨Y,hY,y1,y2⟩:=Jo q1 _ _ o2 q0
 obtain⟨b,hb,rfl⟩:=List.mem_map.1 hY
 rw[List.all_eq_true]at o3
 exact⟨Z.1,Z.2.1,b.1,b.2.1,b.2.2,ic,Afn o1 ic s0 cs,Wp y1 y2,o3 b hb⟩
theorem Afy{w:V3}{c s u v:Int}(B:St3 w 756940800000023520)(cb:Ab c 1099511627776)(sb:Ab s 1099511627776)(ub:Ab u 1099511627776)(vb:Ab v 1099511627776):∃x,Zf false w c s u v=(x,false):=by
 obtain⟨v1,h1,_,b1⟩:=Av (B:=756940800000023521) B.a sb (by decide) (by decide) (by decide) (by decide)
 obtain⟨v2,h2,_,b2⟩:=Av (B:=756940800000023521) B.b cb (by decide) (by decide) (by decide) (by decide)
 have h3:=Bp b1 b2 (by decide) (by decide) (by decide)
 have b3:=b1.add b2
 obtain⟨v4,h4,_,b4⟩:=Av (B:=1513881600000047043) b3 ub (by decide) (by decide) (by decide) (by decide)
 obtain⟨v5,h5,_,b5⟩:=Av (B:=756940800000023521) B.c vb (by decide) (by decide) (by decide) (by decide)
 have h6:=Bh b4 b5 (by decide) (by decide) (by decide)
 obtain⟨v7,h7,_,b7⟩:=Av (B:=1513881600000047043) b3 vb (by decide) (by decide) (by decide) (by decide)
 obtain⟨v8,h8,_,b8⟩:=Av (B:=756940800000023521) B.c ub (by decide) (by decide) (by decide) (by decide)
 have h9:=Bp b7 b8 (by decide) (by decide) (by decide)
 obtain⟨v10,h10,_,b10⟩:=Av (B:=756940800000023521) B.a cb (by decide) (by decide) (by decide) (by decide)
 obtain⟨v11,h11,_,b11⟩:=Av (B:=756940800000023521) B.b sb (by decide) (by decide) (by decide) (by decide)
 have h12:=Bh b10 b11 (by decide) (by decide) (by decide)
 exact⟨(v4-v5,v7+v8,v10-v11),by unfold Zf;simp only[h1,h2,h3,h4,h5,h6,h7,h8,h9,h10,h11,h12]⟩
abbrev Aoc(x y w u v:Int):Prop:=(w<1048576/\u=1099511627776/\v=0)∨(1048576<=w/\Bt false x w=(u,false)/\Bt false y w=(v,false)/\Ab (2*(u*w-x*1099511627776)) w/\Ab (2*(v*w-y*1099511627776)) w)
structure WW(p:V3)(y r:Int):Type where
 (w c s u v q:Int)
 (C S:Iv)
 (b:V3)
 W:Rt w (p.1*p.1+p.2.1*p.2.1)
 hw:By false p.1 p.2.1 0=(w,false)
 hc:Bt false p.2.2 r=(c,false)
 pc:Ab (2*(c*r-p.2.2*1099511627776)) r
 hs:Bt false w r=(s,false)
 ps:Ab (2*(s*r-w*1099511627776)) r
 lon:Aoc p.1 p.2.1 w u v
 hq:Bt false 7005208482886 r=(q,false)
 pq:Ab (2*(q*r-7005208482886*1099511627776)) r
 cb:Ab c 1099511627776
 sb:Ab s 1099511627776
 s0:0<=s
 cs:Ab (c*c+s*s-1208925819614629174706176) 4398046511104
 Z:Zd C S (pt q) c s q y u v
 uv:1208925819614629174706176-4398046511104<=u*u+v*v
 hb:Zf false (DX c s q y u v 6) c s u v=(b,false)
theorem Afz{p:V3}{y r:Int}(hr:By false p.1 p.2.1 p.2.2=(r,false))(r0:6597069766656<=r)(r1:r<=10995116277760)(y0:0<=y)(y1:y<=5497558138880):Nonempty (WW p y r):=by
 obtain⟨_,nx,ny,nz,_,_,R1,R2⟩:=Sx hr
 have R:Rt r (p.1*p.1+p.2.1*p.2.1+p.2.2*p.2.2):=⟨by omega,R1,R2⟩
 have x0:=AE p.1;have y0':=AE p.2.1;have z0:=AE p.2.2
 have rr:=Int.mul_le_mul (show r+1<=10995116277761 by omega) (show r+1<=10995116277761 by omega) (by omega) (by decide)
 have hq2:=FO (p.1*p.1+p.2.1*p.2.1) (by omega) (by omega)
 have W:Rt (isq (p.1*p.1+p.2.1*p.2.1)) (p.1*p.1+p.2.1*p.2.1):=⟨hq2.1,hq2.2.1,hq2.2.2⟩
 have wr:Ab (isq (p.1*p.1+p.2.1*p.2.1)) r:=GU R.n0 (by have:=R.hi;have:=W.lo;omega)
 have hw:By false p.1 p.2.1 0=(isq (p.1*p.1+p.2.1*p.2.1),false):=KW nx ny (by rfl) W.n0 (by have:=wr.hi;omega) (by have:=W.lo;omega) (by have:=W.hi;omega)
 generalize isq (p.1*p.1+p.2.1*p.2.1)=w at *
 have zr:Ab p.2.2 r:=GU R.n0 (by have:=R.hi;omega)
 obtain⟨c,hc,pc,_⟩:=Adq (K:=10995116277760) (B:=2199023255552) (zr.le r1) r0 r1 (by decide) (by decide) (by decide) (by decide) (by decide) (by decide)
 obtain⟨s,hs,ps,_⟩:=Adq (K:=10995116277760) (B:=2199023255552) (wr.le r1) r0 r1 (by decide) (by decide) (by decide) (by decide) (by decide) (by decide)
 obtain⟨q,hq,pq,_⟩:=Adq (a:=7005208482886) (K:=7005208482886) (B:=1168231104512) ⟨by decide,by decide⟩ r0 r1 (by decide) (by decide) (by decide) (by decide) (by decide) (by decide)
 obtain⟨cb,sb,s0,cs,_,_⟩:=Als R W r0 pc ps
 have q0:0<=q:=by
  apply Classical.byContradiction
  intro g
  have:=Int.mul_le_mul_of_nonneg_right (show 1<=-q by omega) (show 0<=r by omega)
  rw[Int.neg_mul]at this
  have:=pq.lo
  omega
 have q1:q<=1168231104512:=by
  apply Classical.byContradiction
  intro g
  have:=Int.mul_le_mul (show 1168231104513<=q by omega) r0 (by decide) (by omega)
  have:=pq.hi
  omega
 have L:∃u v,Aoc p.1 p.2.1 w u v/\Lon u v/\1208925819614629174706176-4398046511104<=u*u+v*v:=by
  by_cases h:w<1048576
  ·exact⟨1099511627776,0,Or.inl ⟨h,rfl,rfl⟩,⟨⟨by decide,by decide⟩,⟨by decide,by decide⟩,by decide⟩,by decide⟩
  ·have xw:Ab p.1 w:=GU W.n0 (by have:=W.hi;omega)
   have yw:Ab p.2.1 w:=GU W.n0 (by have:=W.hi;omega)
   have w1:w<=10995116277760:=by have:=wr.hi;omega
   have w0:1048576<=w:=by omega
   have go (a:Int) (ha:Ab a w) (na:numB a=true):∃m,Bt false a w=(m,false)/\Ab (2*(m*w-a*1099511627776)) w:=by
    obtain⟨m,e,d1,d2,_⟩:=Em a 1099511627776 w na (by rfl) (Fe ⟨by omega,by omega⟩) (by omega) (by
     rw[show sz 1099511627776=1099511627776 by rfl]
     have:=F4 ⟨ha.lo,ha.hi⟩
     omega)
    exact⟨m,e,⟨by omega,by omega⟩⟩
   obtain⟨u,hu,pu⟩:=go p.1 xw nx
   obtain⟨v,hv,pv⟩:=go p.2.1 yw ny
   obtain⟨ub,vb,hi,lo,_,_⟩:=Alt W w0 pu pv
   exact⟨u,v,Or.inr ⟨w0,hu,hv,pu,pv⟩,⟨ub,vb,hi⟩,lo⟩
 obtain⟨u,v,la,ln,uv⟩:=L
 obtain⟨C,S,_,_,_,iC,iS,_,ok⟩:=Avy (q:=1000000000000) cb s0 cs (by decide) (by decide)
 have rows:OX C S=true:=by
  unfold Afk at ok
  simp only[Bool.and_eq_true]at ok
  exact ok.1.1.1.1.1.1.1
 have Z:Zd C S (pt q) c s q y u v:=⟨Alr iC iS (DR q) (cb.le (by decide)) (sb.le (by decide)) q0 q1 rows,y0,y1,ln⟩
 obtain⟨st,_,_,_⟩:=LS Z 6 (by decide)
 obtain⟨b,hb⟩:=Afy (w:=DX c s q y u v 6) ⟨st.a.le (by decide),st.b.le (by decide),st.c.le (by decide)⟩ cb sb ln.ub ln.vb
 exact⟨⟨w,c,s,u,v,q,C,S,b,W,hw,hc,pc,hs,ps,la,hq,pq,cb,sb,s0,cs,Z,uv,hb⟩⟩
def Fa(bad:Bool)(n m:Int):Int×Bool:=Ej bad ((n*n-m*m)*1099511627776)
structure WX(n m a b:Int):Type where
 (k1 k2 p:Int)
 h1:Fa false n m=(k1,false)
 h2:Fa false (n-1) m=(k2,false)
 h3:Bt false k2 k1=(a,false)
 h4:Aw false 1099511627776 (2*n-1) 1=(p,false)
 h5:Bt false p k1=(b,false)
structure Af0(c s b a x1 x2 y1 y2 z1 z2:Int):Type where
 (v1 v2 v3 v5 v6 v7 v8 v9:Int)
 h1:mulS false c x1=(v1,false)
 h2:mulS false b v1=(v2,false)
 h3:mulS false a y1=(v3,false)
 h4:CP false v2 v3=(z1,false)
 h5:mulS false c x2=(v5,false)
 h6:mulS false s x1=(v6,false)
 h7:CP false v5 v6=(v7,false)
 h8:mulS false b v7=(v8,false)
 h9:mulS false a y2=(v9,false)
 h10:CP false v8 v9=(z2,false)
structure Af1(c b a x3 y3 z3:Int):Type where
 (v1 v2 v3:Int)
 h1:mulS false c x3=(v1,false)
 h2:mulS false b v1=(v2,false)
 h3:mulS false a y3=(v3,false)
 h4:CP false v2 v3=(z3,false)
structure Arj(n c s x1 x2 x3 z1 z2 z3:Int):Type where
 (p j v1 v3 v4 v5 v7:Int)
 hp:Aw false 1099511627776 (2*n-1) (2*n)=(p,false)
 hj:Ej false p=(j,false)
 h1:mulS false s x1=(v1,false)
 h2:mulS false j v1=(z1,false)
 h3:mulS false s x2=(v3,false)
 h4:mulS false c x1=(v4,false)
 h5:Ca false v3 v4=(v5,false)
 h6:mulS false j v5=(z2,false)
 h7:mulS false s x3=(v7,false)
 h8:mulS false j v7=(z3,false)
structure IJ(C S u v C' S':Int):Type where
 (v1 v2 v4 v5:Int)
 h1:mulS false C u=(v1,false)
 h2:mulS false S v=(v2,false)
 h3:CP false v1 v2=(C',false)
 h4:mulS false S u=(v4,false)
 h5:mulS false C v=(v5,false)
 h6:Ca false v4 v5=(S',false)
structure WY(n m t C S g h P D Q up so ea up' so' ea':Int):Type where
 (v1 v2 e v4 v5 o y1 z1 p1 y2 z2 y3 z3 p3:Int)
 h1:mulS false g C=(v1,false)
 h2:mulS false h S=(v2,false)
 h3:Ca false v1 v2=(e,false)
 h4:mulS false g S=(v4,false)
 h5:mulS false h C=(v5,false)
 h6:CP false v4 v5=(o,false)
 i1:mulS false e P=(y1,false)
 j1:mulS false t y1=(z1,false)
 q1:Aw false z1 (n+1) 1=(p1,false)
 a1:Ca false up p1=(up',false)
 i2:mulS false e D=(y2,false)
 j2:mulS false t y2=(z2,false)
 a2:CP false so z2=(so',false)
 i3:mulS false o Q=(y3,false)
 j3:mulS false t y3=(z3,false)
 q3:Aw false z3 m 1=(p3,false)
 a3:Ca false ea p3=(ea',false)
 a0:m=0->ea'=ea
structure Avz(c s u v up so ea x y z:Int):Type where
 (v1 v2 a v4 v5 v7 v8 v10 v11:Int)
 h1:mulS false up s=(v1,false)
 h2:mulS false so c=(v2,false)
 h3:Ca false v1 v2=(a,false)
 h4:mulS false a u=(v4,false)
 h5:mulS false ea v=(v5,false)
 h6:CP false v4 v5=(x,false)
 h7:mulS false a v=(v7,false)
 h8:mulS false ea u=(v8,false)
 h9:Ca false v7 v8=(y,false)
 h10:mulS false up c=(v10,false)
 h11:mulS false so s=(v11,false)
 h12:CP false v10 v11=(z,false)
def AG(F:Nat->Nat->Int)(k m:Nat):Int->Int->Int:=fun a b=>if 0<=a/\0<=b/\b<=a/\(a<(k:Int)+1∨(a=(k:Int)+1/\b<(m:Int))∨(a=1/\b=1))then F a.toNat b.toNat else 0
def low(F:Nat->Nat->Int)(k m:Nat):Int:=if 1<=k/\m+1<=k then F (k-1) m else 0
theorem Jp(F:Nat->Nat->Int){k m:Nat}(h:m<k+1):AG F k m ((k:Int)+1-1) (m:Int)=F k m:=by
 unfold AG
 rw[if_pos ⟨by omega,by omega,by omega,by omega⟩,show((k:Int)+1-1).toNat=k by omega,Int.toNat_natCast]
theorem Hw(F:Nat->Nat->Int)(k m:Nat):AG F k m ((k:Int)+1-2) (m:Int)=low F k m:=by
 unfold AG low
 by_cases h:1<=k/\m+1<=k
 ·rw[if_pos h,if_pos ⟨by omega,by omega,by omega,by omega⟩,show((k:Int)+1-2).toNat=k-1 by omega,Int.toNat_natCast]
 ·rw[if_neg h,if_neg (by omega)]
theorem Jq(F:Nat->Nat->Int)(k:Nat):AG F k (k+1) ((k:Int)+1-1) ((k:Int)+1-1)=F k k:=by
 unfold AG
 rw[if_pos ⟨by omega,by omega,by omega,by omega⟩,show((k:Int)+1-1).toNat=k by omega]
theorem Gg(F:Nat->Nat->Int){k m:Nat}(h:m<k+1)(a b:Int):AO (AG F k m) ((k:Int)+1) (m:Int) (F (k+1) m) a b=AG F k (m+1) a b:=by
 unfold AO AG
 by_cases e:a=(k:Int)+1/\b=(m:Int)
 ·obtain⟨rfl,rfl⟩:=e
  rw[if_pos ⟨rfl,rfl⟩,if_pos ⟨by omega,by omega,by omega,by omega⟩,show((k:Int)+1).toNat=k+1 by omega,Int.toNat_natCast]
 ·rw[if_neg e]
  by_cases q:0<=a/\0<=b/\b<=a/\(a<(k:Int)+1∨(a=(k:Int)+1/\b<(m:Int))∨(a=1/\b=1))
  ·rw[if_pos q,if_pos (by omega)]
  ·rw[if_neg q,if_neg (by omega)]
theorem Zr(F:Nat->Nat->Int)(k:Nat)(z:F (k+1) 0=0)(a b:Int):AG F k 0 a b=AG F k 1 a b:=by
 unfold AG
 by_cases e:a=(k:Int)+1/\b=0
 ·obtain⟨rfl,rfl⟩:=e
  rw[if_neg (by omega),if_pos (by omega),show((k:Int)+1).toNat=k+1 by omega]
  exact z.symm
 ·by_cases q:0<=a/\0<=b/\b<=a/\(a<(k:Int)+1∨(a=(k:Int)+1/\b<((0:Nat):Int))∨(a=1/\b=1))
  ·rw[if_pos q,if_pos (by omega)]
  ·rw[if_neg q,if_neg (by omega)]
theorem Jr(F:Nat->Nat->Int)(k:Nat)(a b:Int):AO (AG F k (k+1)) ((k:Int)+1) ((k:Int)+1) (F (k+1) (k+1)) a b=AG F (k+1) 0 a b:=by
 unfold AO AG
 by_cases e:a=(k:Int)+1/\b=(k:Int)+1
 ·obtain⟨rfl,rfl⟩:=e
  rw[if_pos ⟨rfl,rfl⟩,if_pos (by omega),show((k:Int)+1).toNat=k+1 by omega]
 ·rw[if_neg e]
  by_cases q:0<=a/\0<=b/\b<=a/\(a<(k:Int)+1∨(a=(k:Int)+1/\b<((k+1:Nat):Int))∨(a=1/\b=1))
  ·rw[if_pos q,if_pos (by omega)]
  ·rw[if_neg q,if_neg (by omega)]
theorem LU(F:Nat->Nat->Int){k:Nat}(h:¬((k:Int)+1>1))(a b:Int):AG F k (k+1) a b=AG F (k+1) 0 a b:=by
 obtain rfl:k=0:=by omega
 unfold AG
 by_cases q:0<=a/\0<=b/\b<=a/\(a<((0:Nat):Int)+1∨(a=((0:Nat):Int)+1/\b<((0+1:Nat):Int))∨(a=1/\b=1))
 ·rw[if_pos q,if_pos (by omega)]
 ·rw[if_neg q,if_neg (by omega)]
theorem Af2(F:Nat->Nat->Int){n m:Nat}(h:m<=n)(h6:n<=6):AG F 6 0 (n:Int) (m:Int)=F n m:=by
 unfold AG
 rw[if_pos (by omega),Int.toNat_natCast,Int.toNat_natCast]
theorem Js(F:Nat->Nat->Int){x y:Int}(h0:F 0 0=x)(h1:F 1 1=y)(a b:Int):OQ true x true y a b=AG F 0 0 a b:=by
 unfold OQ AG
 by_cases e:a=1/\b=1
 ·obtain⟨rfl,rfl⟩:=e
  rw[if_pos ⟨rfl,rfl,rfl⟩,if_pos (by omega)]
  exact h1.symm
 ·rw[if_neg (fun h=>e h.2)]
  by_cases g:a=0/\b=0
  ·obtain⟨rfl,rfl⟩:=g
   rw[if_pos ⟨rfl,rfl,rfl⟩,if_pos (by omega)]
   exact h0.symm
  ·rw[if_neg (fun h=>g h.2),if_neg (by omega)]
theorem Af3(x y:Int)(a b:Int):OQ false x true y a b=OQ true 0 true y a b:=by
 unfold OQ
 simp
structure Tri(c s:Int)(P D Q:Nat->Nat->Int):Type where
 p0:P 0 0=1099511627776
 d0:D 0 0=0
 q0:Q 0 0=0
 p1:P 1 1=s
 d1:D 1 1=c
 q1:Q 1 1=1099511627776
 qz:∀n,n<=6->Q n 0=0
 (ga gb:Nat->Nat->Int)
 R:∀k m:Nat,k<6->m<k+1->WX ((k:Int)+1) (m:Int) (ga k m) (gb k m)
 T:∀k m:Nat,k<6->m<k+1->Af0 c s (gb k m) (ga k m) (P k m) (D k m) (low P k m) (low D k m) (P (k+1) m) (D (k+1) m)
 U:∀k m:Nat,k<6->m<k+1->Af1 c (gb k m) (ga k m) (Q k m) (low Q k m) (Q (k+1) m)
 J:∀k:Nat,1<=k->k<6->Arj ((k:Int)+1) c s (P k k) (D k k) (Q k k) (P (k+1) (k+1)) (D (k+1) (k+1)) (Q (k+1) (k+1))
 ip:∀n m:Nat,n<=6->Cj (P n m)
 id:∀n m:Nat,n<=6->Cj (D n m)
 iq:∀n m:Nat,n<=6->Cj (Q n m)
def Rh(n m:Nat):Bool:=decide (nIdx n m<27)&&decide (Aw false 1099511627776 (GG (nIdx n m*2)) 10000=(fG n m,false))&&decide (Aw false 1099511627776 (GG (nIdx n m*2+1)) 10000=(fH n m,false))&&
 (if n<=2 then decide (nIdx n m<5)&&decide (Aw false 1099511627776 (JU (nIdx n m*2)) 10000=(fGy n m,false))&&decide (Aw false 1099511627776 (JU (nIdx n m*2+1)) 10000=(fHy n m,false))else decide (5<=nIdx n m))
theorem Zs:((List.range 7).all fun n=>(List.range (n+1)).all fun m=>n==0||Rh n m)=true:=by decide+kernel
theorem LV{n m:Nat}(h1:1<=n)(h6:n<=6)(hm:m<=n):Rh n m=true:=by
 have h:=List.all_eq_true.1 (List.all_eq_true.1 Zs n (List.mem_range.2 (by omega))) m (List.mem_range.2 (by omega))
 have z:(n==0)=false:=by simp;omega
 rw[z,Bool.false_or]at h
 exact h
theorem Zt{n m:Nat}(h1:1<=n)(h6:n<=6)(hm:m<=n):nIdx n m<27/\Aw false 1099511627776 (GG (nIdx n m*2)) 10000=(fG n m,false)/\Aw false 1099511627776 (GG (nIdx n m*2+1)) 10000=(fH n m,false):=by
 have h:=LV h1 h6 hm
 unfold Rh at h
 simp only[Bool.and_eq_true,decide_eq_true_eq]at h
 exact⟨h.1.1.1,h.1.1.2,h.1.2⟩
theorem Alu{n m:Nat}(h1:1<=n)(h2:n<=2)(hm:m<=n):nIdx n m<5/\Aw false 1099511627776 (JU (nIdx n m*2)) 10000=(fGy n m,false)/\Aw false 1099511627776 (JU (nIdx n m*2+1)) 10000=(fHy n m,false):=by
 have h:=LV h1 (by omega) hm
 unfold Rh at h
 rw[if_pos h2]at h
 simp only[Bool.and_eq_true,decide_eq_true_eq]at h
 exact⟨h.2.1.1,h.2.1.2,h.2.2⟩
theorem Af4{n m:Nat}(h2:¬n<=2)(h6:n<=6)(hm:m<=n):5<=nIdx n m:=by
 have h:=LV (by omega) h6 hm
 unfold Rh at h
 rw[if_neg h2]at h
 simp only[Bool.and_eq_true,decide_eq_true_eq]at h
 exact h.2
def Dj(t:Int):Int:=(Bt false (GH t) 401596622045184).1
theorem WZ{t:Int}(h0:0<=t)(h1:t<=157766400000):Bt false (GH t) 401596622045184=(Dj t,false)/\0<=Dj t/\Dj t<=5497558138880:=by
 have d1:0<=GH t/\GH t<=2007708232318976:=by unfold GH rnd;omega
 obtain⟨m,e,p1,p2,p3⟩:=Em (GH t) 1099511627776 401596622045184 (Fe ⟨by omega,by omega⟩) (by rfl) (by rfl) (by decide) (by
  rw[show sz 1099511627776=1099511627776 by rfl]
  have:=F4 (a:=GH t) (A:=2007708232318976) ⟨by omega,by omega⟩
  omega)
 have e':Bt false (GH t) 401596622045184=(m,false):=e
 have h:Dj t=m:=by unfold Dj;rw[e']
 rw[h]
 exact⟨e',p3 (by omega),by omega⟩
structure Aod(y a b x c:Int):Prop where
 hm:mulS false y b=(x,false)
 ha:Ca false a x=(c,false)
theorem Ark{y:Int}(y0:0<=y)(y1:y<=5497558138880){n m:Nat}(h:n<=2):Aod y (fG n m) (fGy n m) (mulS false y (fGy n m)).1 (gS y n m):=by
 obtain⟨x,e,l,u⟩:=Kj y0 y1 (OZ n m)
 have a:=OZ n m;have b:=Aoa n m
 have:=a.lo;have:=a.hi;have:=b.lo;have:=b.hi
 refine⟨by rw[e],?_⟩
 unfold gS
 rw[if_pos h,e]
 exact Bp (K:=32400000000000) (L:=200000000000) b ⟨by show _<=x;omega,by show x<=_;omega⟩ (by decide) (by decide) (by decide)
theorem Arl{y:Int}(y0:0<=y)(y1:y<=5497558138880){n m:Nat}(h:n<=2):Aod y (fH n m) (fHy n m) (mulS false y (fHy n m)).1 (hS y n m):=by
 obtain⟨x,e,l,u⟩:=Kj y0 y1 (O5 n m)
 have a:=O5 n m;have b:=Aob n m
 have:=a.lo;have:=a.hi;have:=b.lo;have:=b.hi
 refine⟨by rw[e],?_⟩
 unfold hS
 rw[if_pos h,e]
 exact Bp (K:=32400000000000) (L:=200000000000) b ⟨by show _<=x;omega,by show x<=_;omega⟩ (by decide) (by decide) (by decide)
abbrev Af5(n m t:Int):Prop:=1<=n/\n<=6/\0<=m/\m<=n/\0<=t/\t<=157766400000
def Ri(bad:Bool)(n m t:Int):(Int×Int)×Bool:=if bad=false/\Af5 n m t then((gS (Dj t) n.toNat m.toNat,hS (Dj t) n.toNat m.toNat),false)else((0,0),true)
theorem Af6{n m t:Int}(h:¬Af5 n m t):Ri false n m t=((0,0),true):=if_neg (fun k=>h k.2)
theorem W7{N M:Nat}{t:Int}(h1:1<=N)(h6:N<=6)(hm:M<=N)(t0:0<=t)(t1:t<=157766400000):Ri false (N:Int) (M:Int) t=((gS (Dj t) N M,hS (Dj t) N M),false):=by
 unfold Ri
 rw[if_pos ⟨rfl,by omega,by omega,by omega,by omega,t0,t1⟩,Int.toNat_natCast,Int.toNat_natCast]
def O9(bad:Bool)(p:V3)(w:Int):(Int×Int)×Bool:=
 if w<1048576 then((1099511627776,0),bad)else(((Bt bad p.1 w).1,(Bt (Bt bad p.1 w).2 p.2.1 w).1),(Bt (Bt bad p.1 w).2 p.2.1 w).2)
structure Pb(p:V3)(t r:Int)(x y z:Int):Type where
 (wn c s u v nr:Int)
 (g tt:Nat->Int)
 (P D Q G H:Nat->Nat->Int)
 (st:Nat->Nat->V3)
 hw:Cn false (p.1,p.2.1,0)=(wn,false)
 hc:Bt false p.2.2 r=(c,false)
 hs:Bt false wn r=(s,false)
 hl:O9 false p wn=((u,v),false)
 hq:Bt false 7005208482886 r=(nr,false)
 g0:g 0=1099511627776
 g7:g 7=0
 W:∀m,m<6->Nonempty (IJ (g m) (g (7+m)) u v (g (m+1)) (g (8+m)))
 Z:Tri c s P D Q
 ic:Cj c
 is:Cj s
 t0:mulS false nr nr=(tt 0,false)
 tn:∀k,k<6->mulS false (tt k) nr=(tt (k+1),false)
 N:∀n m:Nat,1<=n->n<=6->m<=n->Ri false (n:Int) (m:Int) t=((G n m,H n m),false)
 s0:st 1 0=(0,0,0)
 sn:∀n,1<=n->n<=6->st n (n+1)=st (n+1) 0
 T:∀n m:Nat,1<=n->n<=6->m<=n->WY (n:Int) (m:Int) (tt n) (g m) (g (7+m)) (G n m) (H n m) (P n m) (D n m) (Q n m) (st n m).1 (st n m).2.1 (st n m).2.2 (st n (m+1)).1 (st n (m+1)).2.1 (st n (m+1)).2.2
 V:Avz c s u v (st 7 0).1 (st 7 0).2.1 (st 7 0).2.2 x y z
theorem Av1{c s b a:Int}{x y z:V3}(hc:Ab c 2199023255552)(hs:Ab s 2199023255552)(hb:Ab b 4398046511104)(ha:Ab a 4398046511104)(sx:IL x)(sy:IL y)(e:entS false c s b a x y=(z,false)):
    Nonempty (Af0 c s b a x.1 x.2.1 y.1 y.2.1 z.1 z.2.1)/\Nonempty (Af1 c b a x.2.2 y.2.2 z.2.2):=by
 obtain⟨v1,h1,q1,b1⟩:=Av (B:=35184372088833) hc sx.p (by decide) (by decide) (by decide) (by decide)
 obtain⟨v2,h2,q2,b2⟩:=Av (B:=140737488355333) hb b1 (by decide) (by decide) (by decide) (by decide)
 obtain⟨v3,h3,q3,b3⟩:=Av (B:=70368744177665) ha sy.p (by decide) (by decide) (by decide) (by decide)
 have h4:=Bh b2 b3 (by decide) (by decide) (by decide)
 obtain⟨v5,h5,q5,b5⟩:=Av (B:=35184372088833) hc sx.d (by decide) (by decide) (by decide) (by decide)
 obtain⟨v6,h6,q6,b6⟩:=Av (B:=35184372088833) hs sx.p (by decide) (by decide) (by decide) (by decide)
 have h7:=Bh b5 b6 (by decide) (by decide) (by decide)
 obtain⟨v8,h8,q8,b8⟩:=Av (B:=281474976710666) hb (b5.sub b6) (by decide) (by decide) (by decide) (by decide)
 obtain⟨v9,h9,q9,b9⟩:=Av (B:=70368744177665) ha sy.d (by decide) (by decide) (by decide) (by decide)
 have h10:=Bh b8 b9 (by decide) (by decide) (by decide)
 obtain⟨v11,h11,q11,b11⟩:=Av (B:=35184372088833) hc sx.q (by decide) (by decide) (by decide) (by decide)
 obtain⟨v12,h12,q12,b12⟩:=Av (B:=140737488355333) hb b11 (by decide) (by decide) (by decide) (by decide)
 obtain⟨v13,h13,q13,b13⟩:=Av (B:=70368744177665) ha sy.q (by decide) (by decide) (by decide) (by decide)
 have h14:=Bh b12 b13 (by decide) (by decide) (by decide)
 unfold entS at e
 simp only[h1,h2,h3,h4,h5,h6,h7,h8,h9,h10,h11,h12,h13,h14]at e
 injection e with e _
 subst e
 exact⟨⟨⟨v1,v2,v3,v5,v6,v5-v6,v8,v9,h1,h2,h3,h4,h5,h6,h7,h8,h9,h10⟩⟩,⟨⟨v11,v12,v13,h11,h12,h13,h14⟩⟩⟩
theorem Av2{n c s j p:Int}{x z:V3}(hp:Aw false 1099511627776 (2*n-1) (2*n)=(p,false))(hj':Ej false p=(j,false))(hc:Ab c 2199023255552)(hs:Ab s 2199023255552)(hj:Ab j 4398046511104)(sx:IL x)(e:diaS false c s j x=(z,false)):
    Nonempty (Arj n c s x.1 x.2.1 x.2.2 z.1 z.2.1 z.2.2):=by
 obtain⟨v1,h1,q1,b1⟩:=Av (B:=35184372088833) hs sx.p (by decide) (by decide) (by decide) (by decide)
 obtain⟨v2,h2,q2,b2⟩:=Av (B:=140737488355333) hj b1 (by decide) (by decide) (by decide) (by decide)
 obtain⟨v3,h3,q3,b3⟩:=Av (B:=35184372088833) hs sx.d (by decide) (by decide) (by decide) (by decide)
 obtain⟨v4,h4,q4,b4⟩:=Av (B:=35184372088833) hc sx.p (by decide) (by decide) (by decide) (by decide)
 have h5:=Bp b3 b4 (by decide) (by decide) (by decide)
 obtain⟨v6,h6,q6,b6⟩:=Av (B:=281474976710666) hj (b3.add b4) (by decide) (by decide) (by decide) (by decide)
 obtain⟨v7,h7,q7,b7⟩:=Av (B:=35184372088833) hs sx.q (by decide) (by decide) (by decide) (by decide)
 obtain⟨v8,h8,q8,b8⟩:=Av (B:=140737488355333) hj b7 (by decide) (by decide) (by decide) (by decide)
 unfold diaS at e
 simp only[h1,h2,h3,h4,h5,h6,h7,h8]at e
 injection e with e _
 subst e
 exact⟨⟨p,j,v1,v3,v4,v3+v4,v7,hp,hj',h1,h2,h3,h4,h5,h6,h7,h8⟩⟩
theorem Arm{C S u v C' S':Int}(L:Lon u v)(Cb:Ab C 2199023255552)(Sb:Ab S 2199023255552)(e:GV false C S u v=((C',S'),false)):Nonempty (IJ C S u v C' S'):=by
 obtain⟨m1,h1,q1,b1⟩:=Av (B:=2199023255553) Cb L.ub (by decide) (by decide) (by decide) (by decide)
 obtain⟨m2,h2,q2,b2⟩:=Av (B:=2199023255553) Sb L.vb (by decide) (by decide) (by decide) (by decide)
 have h3:=Bh b1 b2 (by decide) (by decide) (by decide)
 obtain⟨m4,h4,q4,b4⟩:=Av (B:=2199023255553) Sb L.ub (by decide) (by decide) (by decide) (by decide)
 obtain⟨m5,h5,q5,b5⟩:=Av (B:=2199023255553) Cb L.vb (by decide) (by decide) (by decide) (by decide)
 have h6:=Bp b4 b5 (by decide) (by decide) (by decide)
 unfold GV at e
 simp only[h1,h2,h3,h4,h5,h6]at e
 injection e with e _
 injection e with e1 e2
 subst e1 e2
 exact⟨⟨m1,m2,m4,m5,h1,h2,h3,h4,h5,h6⟩⟩
theorem Arn{n m t C S g h K:Int}{x st s':V3}(n0:0<=n)(n1:n<=6)(m0:0<=m)(m1:m<=6)(t0:0<=t)(t1:t<=2199023255552)(Cb:Ab C 1100000000000)(Sb:Ab S 1100000000000)(gb:Ab g 35184372088832)(hb:Ab h 35184372088832)(sx:IL x)(ss:St3 st K)(hK:K<=1152921504606846976)(K0:0<=K)
    (e:LR false n m t C S g h x st=(s',false)):Nonempty (WY n m t C S g h x.1 x.2.1 x.2.2 st.1 st.2.1 st.2.2 s'.1 s'.2.1 s'.2.2):=by
 obtain⟨v1,h1,q1,b1⟩:=Av (B:=35200000000001) gb Cb (by decide) (by decide) (by decide) (by decide)
 obtain⟨v2,h2,q2,b2⟩:=Av (B:=35200000000001) hb Sb (by decide) (by decide) (by decide) (by decide)
 have h3:=Bp b1 b2 (by decide) (by decide) (by decide)
 obtain⟨v4,h4,q4,b4⟩:=Av (B:=35200000000001) gb Sb (by decide) (by decide) (by decide) (by decide)
 obtain⟨v5,h5,q5,b5⟩:=Av (B:=35200000000001) hb Cb (by decide) (by decide) (by decide) (by decide)
 have h6:=Bh b4 b5 (by decide) (by decide) (by decide)
 have eE:Ab ((v1+v2)*1099511627776-(g*C+h*S)) 1099511627776:=by
  have:=q1.lo;have:=q1.hi;have:=q2.lo;have:=q2.hi
  exact⟨by omega,by omega⟩
 have oE:Ab ((v4-v5)*1099511627776-(g*S-h*C)) 1099511627776:=by
  have:=q4.lo;have:=q4.hi;have:=q5.lo;have:=q5.hi
  exact⟨by omega,by omega⟩
 obtain⟨y1,z1,i1,j1,zb1,_⟩:=NA t0 t1 sx.p (b1.add b2) eE
 obtain⟨y2,z2,i2,j2,zb2,_⟩:=NA t0 t1 sx.d (b1.add b2) eE
 obtain⟨y3,z3,i3,j3,zb3,_⟩:=NA t0 t1 sx.q (b4.sub b5) oE
 have p1:=Fz (k:=n+1) zb1 (by omega) (by omega)
 have p3:=Fz (k:=m) zb3 (by omega) (by omega)
 have c1:Ab (z1*(n+1)) 15769600000000490:=zb1.mul (L:=7) ⟨by omega,by omega⟩
 have c3:Ab (z3*m) 15769600000000490:=zb3.mul (L:=7) ⟨by omega,by omega⟩
 have a1:=Bp ss.a c1 (by omega) (by omega) (by decide)
 have a2:=Bh ss.b zb2 (by omega) (by omega) (by decide)
 have a3:=Bp ss.c c3 (by omega) (by omega) (by decide)
 unfold LR at e
 by_cases hm:0<m
 ·simp only[h1,h2,h3,h4,h5,h6,i1,j1,p1,a1,i2,j2,a2,if_pos hm,i3,j3,p3,a3]at e
  injection e with e _
  subst e
  exact⟨⟨v1,v2,v1+v2,v4,v5,v4-v5,y1,z1,z1*(n+1),y2,z2,y3,z3,z3*m,h1,h2,h3,h4,h5,h6,i1,j1,p1,a1,i2,j2,a2,i3,j3,p3,a3,fun h=>absurd h (by omega)⟩⟩
 ·simp only[h1,h2,h3,h4,h5,h6,i1,j1,p1,a1,i2,j2,a2,if_neg hm]at e
  injection e with e _
  subst e
  obtain rfl:m=0:=by omega
  rw[Int.mul_zero,Int.add_zero]at a3
  rw[Int.mul_zero]at p3
  exact⟨⟨v1,v2,v1+v2,v4,v5,v4-v5,y1,z1,z1*(n+1),y2,z2,y3,z3,0,h1,h2,h3,h4,h5,h6,i1,j1,p1,a1,i2,j2,a2,i3,j3,p3,a3,fun _=>rfl⟩⟩
theorem Av3{w b:V3}{c s u v:Int}(B:St3 w 756940800000023520)(cb:Ab c 1099511627776)(sb:Ab s 1099511627776)(ub:Ab u 1099511627776)(vb:Ab v 1099511627776)(e:Zf false w c s u v=(b,false)):
    Nonempty (Avz c s u v w.1 w.2.1 w.2.2 b.1 b.2.1 b.2.2)/\St3 b 2270822400000070564:=by
 obtain⟨v1,h1,_,b1⟩:=Av (B:=756940800000023521) B.a sb (by decide) (by decide) (by decide) (by decide)
 obtain⟨v2,h2,_,b2⟩:=Av (B:=756940800000023521) B.b cb (by decide) (by decide) (by decide) (by decide)
 have h3:=Bp b1 b2 (by decide) (by decide) (by decide)
 have b3:=b1.add b2
 obtain⟨v4,h4,_,b4⟩:=Av (B:=1513881600000047043) b3 ub (by decide) (by decide) (by decide) (by decide)
 obtain⟨v5,h5,_,b5⟩:=Av (B:=756940800000023521) B.c vb (by decide) (by decide) (by decide) (by decide)
 have h6:=Bh b4 b5 (by decide) (by decide) (by decide)
 obtain⟨v7,h7,_,b7⟩:=Av (B:=1513881600000047043) b3 vb (by decide) (by decide) (by decide) (by decide)
 obtain⟨v8,h8,_,b8⟩:=Av (B:=756940800000023521) B.c ub (by decide) (by decide) (by decide) (by decide)
 have h9:=Bp b7 b8 (by decide) (by decide) (by decide)
 obtain⟨v10,h10,_,b10⟩:=Av (B:=756940800000023521) B.a cb (by decide) (by decide) (by decide) (by decide)
 obtain⟨v11,h11,_,b11⟩:=Av (B:=756940800000023521) B.b sb (by decide) (by decide) (by decide) (by decide)
 have h12:=Bh b10 b11 (by decide) (by decide) (by decide)
 unfold Zf at e
 simp only[h1,h2,h3,h4,h5,h6,h7,h8,h9,h10,h11,h12]at e
 injection e with e _
 subst e
 exact⟨⟨⟨v1,v2,v1+v2,v4,v5,v7,v8,v10,v11,h1,h2,h3,h4,h5,h6,h7,h8,h9,h10,h11,h12⟩⟩,⟨(b4.sub b5).le (by decide),(b7.add b8).le (by decide),(b10.sub b11).le (by decide)⟩⟩
def Af7(k m:Nat):Bool:=decide ((Fa false ((k:Int)+1) (m:Int)).2=false)&&decide ((Fa false ((k:Int)+1-1) (m:Int)).2=false)&&decide (Bt false (Fa false ((k:Int)+1-1) (m:Int)).1 (Fa false ((k:Int)+1) (m:Int)).1=(fA (k+1) m,false))&&
 decide ((Aw false 1099511627776 (2*((k:Int)+1)-1) 1).2=false)&&decide (Bt false (Aw false 1099511627776 (2*((k:Int)+1)-1) 1).1 (Fa false ((k:Int)+1) (m:Int)).1=(fB (k+1) m,false))
theorem US:((List.range 6).all fun k=>(List.range (k+1)).all fun m=>Af7 k m)=true:=by decide+kernel
theorem Aro{k m:Nat}(hk:k<6)(hm:m<k+1):Nonempty (WX ((k:Int)+1) (m:Int) (fA (k+1) m) (fB (k+1) m)):=by
 have h:=List.all_eq_true.1 (List.all_eq_true.1 US k (List.mem_range.2 hk)) m (List.mem_range.2 hm)
 unfold Af7 at h
 simp only[Bool.and_eq_true,decide_eq_true_eq]at h
 exact⟨⟨_,_,_,Prod.ext rfl h.1.1.1.1,Prod.ext rfl h.1.1.1.2,h.1.1.2,Prod.ext rfl h.1.2,h.2⟩⟩
def Af8(k:Nat):Bool:=decide ((Aw false 1099511627776 (2*((k:Int)+1)-1) (2*((k:Int)+1))).2=false)&&decide (Ej false (Aw false 1099511627776 (2*((k:Int)+1)-1) (2*((k:Int)+1))).1=(fJ (k+1),false))
theorem UT:((List.range 6).all fun k=>k==0||Af8 k)=true:=by decide+kernel
theorem Arp{k:Nat}(h1:1<=k)(hk:k<6):∃p,Aw false 1099511627776 (2*((k:Int)+1)-1) (2*((k:Int)+1))=(p,false)/\Ej false p=(fJ (k+1),false):=by
 have h:=List.all_eq_true.1 UT k (List.mem_range.2 hk)
 have z:(k==0)=false:=by simp;omega
 rw[z,Bool.false_or]at h
 unfold Af8 at h
 simp only[Bool.and_eq_true,decide_eq_true_eq]at h
 exact⟨_,Prod.ext rfl h.1,h.2⟩
theorem Af9{c b a x y z:Int}(hc:Ab c 2199023255552)(hb:Ab b 4398046511104)(ha:Ab a 4398046511104)(hx:x=0)(hy:y=0)(T:Af1 c b a x y z):z=0:=by
 subst hx hy
 have nul (k:Int) (K:Int) (hk:Ab k K) (K1:K<=4398046511104) (v:Int) (e:mulS false k 0=(v,false)):v=0:=by
  obtain⟨v',e',q,_⟩:=Av (a:=k) (b:=0) (K:=4398046511104) (L:=0) (B:=1) (hk.le K1) ⟨by decide,by decide⟩ (by decide) (by decide) (by decide) (by decide)
  rw[e]at e'
  injection e' with e' _
  subst e'
  have:=q.lo;have:=q.hi
  omega
 have h1:=nul c _ hc (by decide) _ T.h1
 have h2:=T.h2
 rw[h1]at h2
 have h2:=nul b _ hb (by decide) _ h2
 have h3:=nul a _ ha (by decide) _ T.h3
 have h4:=T.h4
 rw[h2,h3]at h4
 have e:=Bh (a:=0) (b:=0) (K:=0) (L:=0) ⟨by decide,by decide⟩ ⟨by decide,by decide⟩ (by decide) (by decide) (by decide)
 rw[e]at h4
 injection h4 with h4 _
 omega
section
variable {C S Q:Iv} {c s q y u v:Int}
theorem Jn.sm0(L:Jn C S Q c s q)(n m:Nat)(hn:n<=6):IL (tri c s n m):=by
 cases n with
 |zero=>
  unfold tri
  split
  ·exact IL.one
  ·exact IL.zero
 |succ n=>exact L.sm n (by omega) m
theorem Jn.smb(L:Jn C S Q c s q)(n m:Nat)(hn:n<6):IL (if n=0 then(0,0,0)else tri c s (n-1) m):=by
 split
 ·exact IL.zero
 ·exact L.sm0 (n-1) m (by omega)
theorem Jn.steps(L:Jn C S Q c s q){k m:Nat}(hk:k<6)(hm:m<k+1):
    Nonempty (Af0 c s (fB (k+1) m) (fA (k+1) m) (tri c s k m).1 (tri c s k m).2.1 (low (fun n m=>(tri c s n m).1) k m) (low (fun n m=>(tri c s n m).2.1) k m) (tri c s (k+1) m).1 (tri c s (k+1) m).2.1)/\
    Nonempty (Af1 c (fB (k+1) m) (fA (k+1) m) (tri c s k m).2.2 (low (fun n m=>(tri c s n m).2.2) k m) (tri c s (k+1) m).2.2):=by
 obtain⟨x,e,rfl⟩:=L.ent k hk m hm
 have h:=Av1 L.cb L.sb (Ws _ _) (Wr _ _) (L.sm0 k m (by omega)) (L.smb k m hk) e
 have e1:(if k=0 then((0,0,0):V3)else tri c s (k-1) m)=(low (fun n m=>(tri c s n m).1) k m,low (fun n m=>(tri c s n m).2.1) k m,low (fun n m=>(tri c s n m).2.2) k m):=by
  unfold low
  by_cases k0:k=0
  ·rw[if_pos k0,if_neg (by omega),if_neg (by omega),if_neg (by omega)]
  ·rw[if_neg k0]
   by_cases g:m+1<=k
   ·rw[if_pos (by omega),if_pos (by omega),if_pos (by omega)]
   ·rw[if_neg (by omega),if_neg (by omega),if_neg (by omega),Re c s (k-1) m (by omega)]
 rw[e1]at h
 exact h
theorem Jn.qz(L:Jn C S Q c s q):∀n,n<=6->(tri c s n 0).2.2=0
 |0,_=>rfl
 |n+1,hn=>by
  obtain⟨T⟩:=(L.steps (k:=n) (m:=0) (by omega) (by omega)).2
  refine Af9 L.cb (Ws _ _) (Wr _ _) (L.qz n (by omega)) ?_ T
  unfold low
  split
  ·exact L.qz (n-1) (by omega)
  ·rfl
theorem LW{x K:Int}(h:Ab x K)(hK:K<=4611686018427387904):Cj x:=⟨by have:=h.lo;omega,by have:=h.hi;omega⟩
theorem Jn.tri(L:Jn C S Q c s q):Nonempty (Tri c s (fun n m=>(tri c s n m).1) (fun n m=>(tri c s n m).2.1) (fun n m=>(tri c s n m).2.2)):=by
 have e11:Go.Proofs.YtgmpfeaanjnhaaaGreatDoor.tri c s 1 1=(s,c,1099511627776):=by unfold Go.Proofs.YtgmpfeaanjnhaaaGreatDoor.tri;rw[if_neg (by decide),if_pos rfl]
 refine⟨⟨rfl,rfl,rfl,by rw[e11],by rw[e11],by rw[e11],L.qz,fun k m=>fA (k+1) m,fun k m=>fB (k+1) m,fun k m hk hm=>Classical.choice (Aro hk hm),fun k m hk hm=>Classical.choice (L.steps hk hm).1,fun k m hk hm=>Classical.choice (L.steps hk hm).2,fun k h1 hk=>Classical.choice ?_,
  fun n m hn=>LW (L.sm0 n m hn).p (by decide),fun n m hn=>LW (L.sm0 n m hn).d (by decide),fun n m hn=>LW (L.sm0 n m hn).q (by decide)⟩⟩
 obtain⟨p,hp,hj⟩:=Arp h1 hk
 obtain⟨j,rfl⟩:∃j,k=j+1:=⟨k-1,by omega⟩
 exact Av2 hp hj L.cb L.sb (An8 _) (L.sm0 (j+1) (j+1) (by omega)) (L.dia j (by omega))
theorem Alv(L:Jn C S Q c s q):mulS false q q=(tS q 0,false)/\∀k,k<6->mulS false (tS q k) q=(tS q (k+1),false):=by
 have q0:=L.q0;have q1:=L.q1
 constructor
 ·obtain⟨m,e,_,_⟩:=Av (a:=q) (b:=q) (K:=1168231104512) (L:=1168231104512) (B:=2199023255552) ⟨by omega,q1⟩ ⟨by omega,q1⟩ (by decide) (by decide) (by decide) (by decide)
  show _=((mulS false q q).1,false)
  rw[e]
 ·intro k hk
  obtain⟨_,t0,t1⟩:=Afj q0 q1 L.iq k (by omega)
  have t2:=Ww k
  obtain⟨m,e,_,_⟩:=Av (a:=tS q k) (b:=q) (K:=2199023255552) (L:=1168231104512) (B:=4398046511104) ⟨by omega,by omega⟩ ⟨by omega,q1⟩ (by decide) (by decide) (by decide) (by decide)
  show _=((mulS false (tS q k) q).1,false)
  rw[e]
theorem UU(Z:Zd C S Q c s q y u v){n m:Nat}(h1:1<=n)(h6:n<=6)(hm:m<=n):
    Nonempty (WY (n:Int) (m:Int) (tS q n) (wv u v m).1 (wv u v m).2 (gS y n m) (hS y n m) (tri c s n m).1 (tri c s n m).2.1 (tri c s n m).2.2 (EQ c s q y u v n (DX c s q y u v (n-1)) m).1 (EQ c s q y u v n (DX c s q y u v (n-1)) m).2.1 (EQ c s q y u v n (DX c s q y u v (n-1)) m).2.2
      (EQ c s q y u v n (DX c s q y u v (n-1)) (m+1)).1 (EQ c s q y u v n (DX c s q y u v (n-1)) (m+1)).2.1 (EQ c s q y u v n (DX c s q y u v (n-1)) (m+1)).2.2):=by
 obtain⟨k,rfl⟩:∃k,n=k+1:=⟨n-1,by omega⟩
 rw[show k+1-1=k by omega]
 have hk:k<6:=by omega
 obtain⟨s0,_,_,_⟩:=LS Z k (by omega)
 obtain⟨i1,_,_,_⟩:=O7 Z hk s0 (by omega) (by omega) m (by omega)
 obtain⟨_,t0,t1'⟩:=Afj Z.L.q0 Z.L.q1 Z.L.iq (k+1) (by omega)
 have t1:tS q (k+1)<=2199023255552:=Int.le_trans t1' (Ww _)
 obtain⟨cb,sb,_,_⟩:=Rc Z.W m (by omega)
 exact Arn (n:=((k+1:Nat):Int)) (m:=(m:Int)) (by omega) (by omega) (by omega) (by omega) t0 t1 cb sb (Afl Z.y0 Z.y1 (k+1) m) (Afm Z.y0 Z.y1 (k+1) m) (Z.L.sm k hk m) i1 (by omega) (by omega) (Ze Z hk (by omega))
end
def GX(u v:Int)(m:Nat):Int:=if m<7 then(wv u v m).1 else(wv u v (m-7)).2
theorem WW.steps{p:V3}{t r:Int}(E:WW p (Dj t) r)(t0:0<=t)(t1:t<=157766400000):Nonempty (Pb p t r E.b.1 E.b.2.1 E.b.2.2)/\St3 E.b 2270822400000070564:=by
 obtain⟨Z⟩:=E.Z.L.tri
 obtain⟨h0,hn⟩:=Alv E.Z.L
 have wi:=E.Z.W
 obtain⟨st,_,_,_⟩:=LS E.Z 6 (by decide)
 obtain⟨⟨V⟩,sb⟩:=Av3 (w:=DX E.c E.s E.q (Dj t) E.u E.v 6) ⟨st.a.le (by decide),st.b.le (by decide),st.c.le (by decide)⟩ E.cb E.sb wi.ub wi.vb E.hb
 refine⟨⟨⟨E.w,E.c,E.s,E.u,E.v,E.q,GX E.u E.v,tS E.q,_,_,_,gS (Dj t),hS (Dj t),fun n m=>EQ E.c E.s E.q (Dj t) E.u E.v n (DX E.c E.s E.q (Dj t) E.u E.v (n-1)) m,?_,E.hc,E.hs,?_,E.hq,rfl,rfl,?_,Z,LW E.cb (by decide),LW E.sb (by decide),h0,hn,fun n m h1 h6 hm=>W7 h1 h6 hm t0 t1,rfl,?_,?_,V⟩⟩,sb⟩
 ·unfold Cn
  show((By false p.1 p.2.1 0).1,(By false p.1 p.2.1 0).2)=_
  rw[E.hw]
 ·unfold O9
  rcases E.lon with⟨h,hu,hv⟩|⟨h,hu,hv,_,_⟩
  ·rw[if_pos h,hu,hv]
  ·rw[if_neg (by omega),hu]
   show((E.u,(Bt false p.2.1 E.w).1),(Bt false p.2.1 E.w).2)=_
   rw[hv]
 ·intro m hm
  obtain⟨a,b,_,e⟩:=Rc wi m (by omega)
  have e1:GX E.u E.v m=(wv E.u E.v m).1:=if_pos (by omega)
  have e2:GX E.u E.v (7+m)=(wv E.u E.v m).2:=by unfold GX;rw[if_neg (by omega),show 7+m-7=m by omega]
  have e3:GX E.u E.v (m+1)=(wv E.u E.v (m+1)).1:=if_pos (by omega)
  have e4:GX E.u E.v (8+m)=(wv E.u E.v (m+1)).2:=by unfold GX;rw[if_neg (by omega),show 8+m-7=m+1 by omega]
  rw[e1,e2,e3,e4]
  exact Arm wi (a.le (by decide)) (b.le (by decide)) e
 ·intro n h1 h6
  obtain⟨k,rfl⟩:∃k,n=k+1:=⟨n-1,by omega⟩
  show EQ _ _ _ _ _ _ (k+1) (DX _ _ _ _ _ _ (k+1-1)) (k+1+1)=DX _ _ _ _ _ _ (k+1+1-1)
  rw[show k+1-1=k by omega,show k+1+1-1=k+1 by omega]
  conv=>rhs;unfold DX
 ·intro n m h1 h6 hm
  have e1:GX E.u E.v m=(wv E.u E.v m).1:=if_pos (by omega)
  have e2:GX E.u E.v (7+m)=(wv E.u E.v m).2:=by unfold GX;rw[if_neg (by omega),show 7+m-7=m by omega]
  rw[e1,e2]
  exact Classical.choice (UU E.Z h1 h6 hm)
def GJ(p:V3):Int×Bool:=By false p.1 p.2.1 p.2.2
abbrev Rj(p:V3)(t:Int):Prop:=(GJ p).2=false/\6597069766656<=(GJ p).1/\(GJ p).1<=10995116277760/\0<=t/\t<=157766400000
def Alw(p:V3):Int:=(Bt false p.2.2 (GJ p).1).1
def Alx(p:V3):Int:=(By false p.1 p.2.1 0).1
def W8(p:V3):Int:=(Bt false (Alx p) (GJ p).1).1
def Arq(p:V3):Int:=(Bt false 7005208482886 (GJ p).1).1
def Zu(p:V3):Int×Int:=(O9 false p (Alx p)).1
def Rk(p:V3)(t:Int):V3:=(Zf false (DX (Alw p) (W8 p) (Arq p) (Dj t) (Zu p).1 (Zu p).2 6) (Alw p) (W8 p) (Zu p).1 (Zu p).2).1
def LX(bad:Bool)(p:V3)(t:Int):V3×Bool:=if bad=false/\Rj p t then(Rk p t,false)else((0,0,0),true)
theorem Aly{p:V3}{t r:Int}(E:WW p (Dj t) r)(hr:By false p.1 p.2.1 p.2.2=(r,false)):Rk p t=E.b:=by
 have e0:GJ p=(r,false):=hr
 have e1:Alw p=E.c:=by unfold Alw;rw[e0,E.hc]
 have e2:Alx p=E.w:=by unfold Alx;rw[E.hw]
 have e3:W8 p=E.s:=by unfold W8;rw[e0,e2,E.hs]
 have e4:Arq p=E.q:=by unfold Arq;rw[e0,E.hq]
 have e5:Zu p=(E.u,E.v):=by
  unfold Zu O9
  rw[e2]
  rcases E.lon with⟨h,hu,hv⟩|⟨h,hu,hv,_,_⟩
  ·rw[if_pos h,hu,hv]
  ·rw[if_neg (by omega),hu]
   show(E.u,(Bt false p.2.1 E.w).1)=_
   rw[hv]
 unfold Rk
 rw[e1,e3,e4,e5,E.hb]
theorem NB(p:V3)(t:Int):LX true p t=((0,0,0),true):=if_neg (fun h=>by cases h.1)
theorem Aga{p:V3}{t:Int}(h:¬Rj p t):LX false p t=((0,0,0),true):=if_neg (fun k=>h k.2)
theorem Alz{p:V3}{t:Int}(h:Rj p t):LX false p t=(Rk p t,false):=if_pos ⟨rfl,h⟩
theorem Ars{p:V3}{t:Int}(h:Rj p t):Nonempty (Pb p t (GJ p).1 (Rk p t).1 (Rk p t).2.1 (Rk p t).2.2)/\St3 (Rk p t) 2270822400000070564:=by
 obtain⟨g,r0,r1,t0,t1⟩:=h
 have hr:By false p.1 p.2.1 p.2.2=((GJ p).1,false):=Prod.ext rfl g
 obtain⟨_,y0,y1⟩:=WZ t0 t1
 obtain⟨E⟩:=Afz hr r0 r1 y0 y1
 rw[Aly E hr]
 exact E.steps t0 t1
open Go.RowKit
set_option maxRecDepth 100000
set_option maxHeartbeats 20000000
theorem Agb(b:Nat)(p:V3)(r:Int)(w:World)(hw:Fl b false w)(h:r<1048576):
    Calls Tryz.prog 221 #[.pointer (some ⟨b,0,none⟩),.agg #[.int .i64 p.1,.int .i64 p.2.1,.int .i64 p.2.2],.int .i64 r] w fun e w'=>e=.returned (.tuple #[.int .i64 1099511627776,.int .i64 0])/\Fl b false w'/\Aa b w w':=by
 have hl:=hw.lies
 go_enter Tryz.func221,Tryz.ntmps221
 have y1_BF:=hw.lies
 go_wp2
 refine bodyPost_ret (v:=.tuple #[.int .i64 1099511627776,.int .i64 0]) (by simp[results,Tryz.results221,go_sem]) rfl ?_
 exact⟨rfl,(hw.alloc _),((Aa.refl b w).al _)⟩
theorem Al0(b:Nat)(p:V3)(r u v:Int)(w:World)(hw:Fl b false w)(h:¬r<1048576)(hu:Bt false p.1 r=(u,false))(hv:Bt false p.2.1 r=(v,false)):
    Calls Tryz.prog 221 #[.pointer (some ⟨b,0,none⟩),.agg #[.int .i64 p.1,.int .i64 p.2.1,.int .i64 p.2.2],.int .i64 r] w fun e w'=>e=.returned (.tuple #[.int .i64 u,.int .i64 v])/\Fl b false w'/\Aa b w w':=by
 have hl:=hw.lies
 go_enter Tryz.func221,Tryz.ntmps221
 have y1_BF:=hw.lies
 go_wp2_with fail
 refine wp_region_held_drew (S:=fun w'=>Ap w.heap.size [.int .i64 p.1,.int .i64 p.2.1,.int .i64 p.2.2] w') (by kernel_rfl) (Am _ _ [.int .i64 p.1,.int .i64 p.2.1,.int .i64 p.2.2] _ (by simp)).drew (fun zH=>?_)
 refine zT 0 rfl (by kernel_rfl) (fun _ _ _=>id) rfl (fun _ _=>by go_simp<;>with_reducible rfl) zH ?_
 simp only[Act.put,zA,zB,zC]
 refine zT 1 rfl (by kernel_rfl) (fun _ _ _=>id) rfl (fun _ _=>by go_simp<;>with_reducible rfl) zH ?_
 simp only[Act.put,zA,zB,zC]
 refine zT 2 rfl (by kernel_rfl) (fun _ _ _=>id) rfl (fun wx hS=>by have hc0:wx.cell? ⟨w.heap.size,0,none⟩=some (.int .i64 p.1):=hS.c 0 (zD rfl);go_simp<;>with_reducible rfl) zH ?_
 simp only[Act.put,zA,zB,zC]
 refine zT 3 rfl (by kernel_rfl) (fun _ _ _=>id) rfl (fun _ _=>by go_simp<;>with_reducible rfl) zH ?_
 simp only[Act.put,zA,zB,zC]
 refine zT 5 rfl (by kernel_rfl) (fun _ _ _=>id) rfl (fun _ _=>by go_simp<;>with_reducible rfl) zH ?_
 simp only[Act.put,zA,zB,zC]
 refine zT 6 rfl (by kernel_rfl) (fun _ _ _=>id) rfl (fun _ _=>by go_simp<;>with_reducible rfl) zH ?_
 simp only[Act.put,zA,zB,zC]
 refine zT 7 rfl (by kernel_rfl) (fun _ _ _=>id) rfl (fun wx hS=>by have hc1:wx.cell? ⟨w.heap.size,1,none⟩=some (.int .i64 p.2.1):=hS.c 1 (zD rfl);go_simp<;>with_reducible rfl) zH ?_
 simp only[Act.put,zA,zB,zC]
 refine zT 8 rfl (by kernel_rfl) (fun _ _ _=>id) rfl (fun _ _=>by go_simp<;>with_reducible rfl) zH ?_
 simp only[Act.put,zA,zB,zC]
 refine zK 4 (by kernel_rfl) rfl (fun K hK=>?_)
 go_simp
 refine(B8 b false p.1 r _ (hw.alloc _).drew).mono ?_
 rintro e w1 ⟨rfl,f1,k1⟩
 rw[hu]at f1 ⊢
 dsimp only at f1 ⊢
 have K1:Aa b w w1:=Aa.trans ((Aa.refl b w).al _).drew k1
 have B0_1:=(Am _ w.heap.size [.int .i64 p.1,.int .i64 p.2.1,.int .i64 p.2.2] _ (by simp)).drew.kept k1 (zG y1_BF)
 have z1:=B0_1.lies
 clear zH
 refine hK.out _ _ B0_1 (fun zH=>?_)
 clear hK K k1
 refine zK 9 (by kernel_rfl) rfl (fun K hK=>?_)
 go_simp
 refine(B8 b false p.2.1 r _ f1).mono ?_
 rintro e w2 ⟨rfl,f2,k2⟩
 rw[hv]at f2 ⊢
 dsimp only at f2 ⊢
 have K2:=Aa.trans K1 k2
 have B0_2:=B0_1.kept k2 (zG y1_BF)
 have z2:=B0_2.lies
 clear zH
 refine hK.out _ _ B0_2 (fun zH=>?_)
 clear hK K K1 f1 B0_1 k2
 refine zT 10 rfl (by kernel_rfl) (fun _ _ _=>id) rfl (fun _ _=>by go_simp<;>with_reducible rfl) zH ?_
 simp only[Act.put,zA,zB,zC]
 refine zT 11 rfl (by kernel_rfl) (fun _ _ _=>id) rfl (fun _ _=>by go_simp<;>with_reducible rfl) zH ?_
 simp only[Act.put,zA,zB,zC]
 refine wpAnyH_done (by kernel_rfl) ?_ _
 clear zH
 go_wp2
 refine bodyPost_ret (v:=.tuple #[.int .i64 u,.int .i64 v]) (by simp[results,Tryz.results221,go_sem]) rfl ?_
 exact⟨rfl,f2,K2⟩
theorem BL(b:Nat)(bad:Bool)(x:Int)(w:World)(hw:Fl b bad w):
    Calls Tryz.prog 291 #[.pointer (some ⟨b,0,none⟩),.int .i64 x] w fun e w'=>e=.returned (.int .i64 ((Aw bad 1099511627776 x 10000).1))/\Fl b (Aw bad 1099511627776 x 10000).2 w'/\Aa b w w':=by
 have hl:=hw.lies
 go_enter Tryz.func291,Tryz.ntmps291
 go_wp2_with fail
 refine(Cl b bad 1099511627776 x 10000 _ hw).mono ?_
 rintro e w1 ⟨rfl,f1,k1⟩
 generalize e1:Aw bad 1099511627776 x 10000=r1 at f1 ⊢
 have E1:Hid _:=e1
 clear e1
 have K1:Aa b w w1:=Aa.trans (Aa.refl b w) k1
 have z1:=K1.size
 clear k1
 go_wp2
 go_ret
 have hs:Aw bad 1099511627776 x 10000=(r1.1,r1.2):=by simp only[E1.out]
 rw[hs]
 exact⟨rfl,f1,K1⟩
theorem Agc(b:Nat)(bad:Bool)(n:Int)(m:Int)(w:World)(hw:Fl b bad w)(a0:0<=n*n)(a6:n*n<=36)(b0:0<=m*m)(b6:m*m<=36):
    Calls Tryz.prog 292 #[.pointer (some ⟨b,0,none⟩),.int .i64 n,.int .i64 m] w fun e w'=>e=.returned (.int .i64 ((Fa bad n m).1))/\Fl b (Fa bad n m).2 w'/\Aa b w w':=by
 have hl:=hw.lies
 go_enter Tryz.func292,Tryz.ntmps292
 go_wp2_with fail
 refine(KV b bad (((n*n)-(m*m))*1099511627776) _ hw).mono ?_
 rintro e w1 ⟨rfl,f1,k1⟩
 generalize e1:Ej bad (((n*n)-(m*m))*1099511627776)=r1 at f1 ⊢
 have E1:Hid _:=e1
 clear e1
 have K1:Aa b w w1:=Aa.trans (Aa.refl b w) k1
 have z1:=K1.size
 clear k1
 go_wp2
 go_ret
 have hs:Fa bad n m=(r1.1,r1.2):=by unfold Fa;simp only[E1.out]
 rw[hs]
 exact⟨rfl,f1,K1⟩
theorem FA(b:Nat)(bad:Bool)(n m:Int)(w:World)(hw:Fl b bad w)(n0:0<=n)(n6:n<=6)(m0:0<=m)(m6:m<=6):
    Calls Tryz.prog 292 #[.pointer (some ⟨b,0,none⟩),.int .i64 n,.int .i64 m] w fun e w'=>e=.returned (.int .i64 (Fa bad n m).1)/\Fl b (Fa bad n m).2 w'/\Aa b w w':=by
 have a:=Int.mul_nonneg n0 n0;have a':=Int.mul_le_mul n6 n6 n0 (by decide)
 have c:=Int.mul_nonneg m0 m0;have c':=Int.mul_le_mul m6 m6 m0 (by decide)
 exact Agc b bad n m w hw (by omega) (by omega) (by omega) (by omega)
end Go.Proofs.YtgmpfeaanjnhaaaGreatDoor
