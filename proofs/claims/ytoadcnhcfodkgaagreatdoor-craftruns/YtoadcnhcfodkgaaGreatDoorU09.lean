import Derived.Maps.OwnOps
import Derived.Maps.Views
import Derived.WideKeyPair
import Derived.Handy
import Derived.Deep.RegionHeld3
import Derived.Test.YtoadcnhcfodkgaaGreatDoorU08
import Derived.Test.YtoadcnhcfodkgaaGreatDoorU06
import Derived.Test.YtoadcnhcfodkgaaGreatDoorU05
import Derived.Test.YtoadcnhcfodkgaaGreatDoorU07
import Derived.Test.YtoadcnhcfodkgaaGreatDoorU02
import Derived.Test.YtoadcnhcfodkgaaGreatDoorU01
set_option maxRecDepth 100000
set_option maxHeartbeats 4000000
open Go.Proofs.Tryz renaming prog→Zm
open Int renaming mul_le_mul_of_nonneg_right→Zn,toNat_natCast→Zq,mul_comm→Zs,mul_le_mul_of_nonpos_right→Zw
open Array renaming getD_eq_getD_getElem?→Zo
open List renaming getD_eq_getElem?_getD→Zp,replicate→Zt,getElem_mem→Zx,all_eq_true→Zy
open Nat renaming lt_of_lt_of_le→Zr,le_refl→Zv
open Bool renaming and_eq_true→Zu
namespace Go.Proofs.YtoadcnhcfodkgaaGreatDoor
section
open Go.RowKit
abbrev D7:=Int×Int×Int×Int×Int×Int×Int
abbrev Dr:=Bool×Int×Int×Int×Int×Int×Int×Int
def G6(d:Dr)(k:Int):Bool:=d.1&&(decide (10<=k-d.2.1)&&decide (k-d.2.1<=10000))
theorem Awu{d:Dr}{k:Int}(h:G6 d k=true):10<=k-d.2.1/\k-d.2.1<=10000:=by
 unfold G6 at h
 simp only[Zu,decide_eq_true_eq]at h
 exact h.2
def Ex(bad:Bool)(a:V3)(p:Int)(q:Int):(V3)×Bool:=let r1:=Af bad a.1 p q;let r3:=Af r1.2 a.2.1 p q;let r5:=Af r3.2 a.2.2 p q;((r1.1,r3.1,r5.1),r5.2)
def Ms(bad:Bool)(d:Dr)(v:V3)(t:Int):(V3)×Bool:=let r1:=GZ bad v (d.2.2.1,d.2.2.2.1,d.2.2.2.2.1);let r2:=Ex r1.2 r1.1 1000 t;let r3:=GZ r2.2 r2.1 d.2.2.2.2.2;let r4:=Ex r3.2 r3.1 t (t+2000);let r5:=Ep r4.2 d.2.2.2.2.2 r4.1;(r5.1,r5.2)
def LL(bad:Bool)(d:Dr)(v:V3)(k:Int):(Dr)×Bool:=let r1:=G6 d k;if r1 then let r2:=Ms bad d v (k-d.2.1);let r3:=Ep r2.2 v (0,0,0);if r3.2 then((false,0,0,0,0,0,0,0),r3.2)else((true,k,r3.1.1,r3.1.2.1,r3.1.2.2,r2.1.1,r2.1.2.1,r2.1.2.2),r3.2)else let r2:=Ep bad v (0,0,0);if r2.2 then((false,0,0,0,0,0,0,0),r2.2)else((true,k,r2.1.1,r2.1.2.1,r2.1.2.2,0,0,0),r2.2)
def cDrB:Dc Dr:=SH (Ac cB (Ac cI (Ac cI (Ac cI (Ac cI (Ac cI (Ac cI (Aa cI))))))))
def goB(d:Dr)(k:Int):Bool:=if d.1 then if k<d.2.1 then false else if 10<=IntKind.u64.wrap (IntKind.u64.wrap k-IntKind.u64.wrap d.2.1)then decide (IntKind.u64.wrap (IntKind.u64.wrap k-IntKind.u64.wrap d.2.1)<=10000)else false else false
def VV(bad:Bool)(d:Dr)(v:V3)(t:Int):(V3)×Bool:=let r1:=GZ bad v (d.2.2.1,d.2.2.2.1,d.2.2.2.2.1);let r2:=Ex r1.2 r1.1 1000 t;let r3:=GZ r2.2 r2.1 d.2.2.2.2.2;let r4:=Ex r3.2 r3.1 t (IntKind.i64.wrap (t+2000));let r5:=Ep r4.2 d.2.2.2.2.2 r4.1;(r5.1,r5.2)
def stepB(bad:Bool)(d:Dr)(v:V3)(k:Int):(Dr)×Bool:=if goB d k then let r2:=VV bad d v (IntKind.i64.wrap (k-d.2.1));let r3:=Ep r2.2 v (0,0,0);if r3.2 then((false,0,0,0,0,0,0,0),r3.2)else((true,k,r3.1.1,r3.1.2.1,r3.1.2.2,r2.1.1,r2.1.2.1,r2.1.2.2),r3.2)else let r2:=Ep bad v (0,0,0);if r2.2 then((false,0,0,0,0,0,0,0),r2.2)else((true,k,r2.1.1,r2.1.2.1,r2.1.2.2,0,0,0),r2.2)
def AKh(x y:Int):Int:=if y<x then y else x
def AKi(x y:Int):Int:=if y>x then y else x
def OH(v:Int):Int:=AKi (-219902325555) (AKh v 219902325555)
def Afv(bad:Bool)(d:Dr):V3×Bool:=if d.1 then let r1:=Nb bad d.2.2.2.2.2 (-274877906944);((OH r1.1.1,OH r1.1.2.1,OH r1.1.2.2),r1.2)else((0,0,0),bad)
def G7:Ct Zm:=Ak Zm 127 (Ac cI (Aa cI)) (fun bad x=>mulS bad x.1 x.2) cI (Ae Tryz.func127 (by kernel_rfl) (by kernel_rfl)) (fun b bad x w _ _ hw=>Aw b bad x.1 x.2 w hw)
def G8:Ct Zm:=Ak Zm 134 (Ac cI (Aa cI)) (fun bad x=>Ap bad x.1 x.2) cI (Ae Tryz.func134 (by kernel_rfl) (by kernel_rfl)) (fun b bad x w _ _ hw=>DJ b bad x.1 x.2 w hw)
def G9:Ct Zm:=Ak Zm 122 (Ac cI (Aa cI)) (fun bad x=>AJ bad x.1 x.2) cI (Ae Tryz.func122 (by kernel_rfl) (by kernel_rfl)) (fun b bad x w _ _ hw=>Eg b bad x.1 x.2 w hw)
def GL:Ct Zm:=Ak Zm 151 (Ac cI (Ac cI (Aa cI))) (fun bad x=>Af bad x.1 x.2.1 x.2.2) cI (Ae Tryz.func151 (by kernel_rfl) (by kernel_rfl)) (fun b bad x w _ _ hw=>CF b bad x.1 x.2.1 x.2.2 w hw)
theorem Afw:Ai Zm 205 (Aa cV3) (fun bad x=>Ew bad x) cV3:=AZ (tbl:=[G7,G8,G9,GL]) (dirty:=fun _=>[]) (n:=8) xmixA Tryz.func205 rfl (fun bad x Post=>by cases bad<;>kernel_rfl)
def Eh:Ct Zm:=Ak Zm 205 (Aa cV3) (fun bad x=>Ew bad x) cV3 (Ae Tryz.func205 (by kernel_rfl) (by kernel_rfl)) Afw
theorem An3:Ai Zm 119 (Ac cV3 (Aa cV3)) (fun bad x=>Ep bad x.1 x.2) cV3:=AZ (tbl:=[G7,G8,G9,GL,Eh]) (dirty:=fun _=>[]) (n:=8) xmixA Tryz.func119 rfl (fun bad x Post=>by kernel_rfl)
def JA:Ct Zm:=Ak Zm 119 (Ac cV3 (Aa cV3)) (fun bad x=>Ep bad x.1 x.2) cV3 (Ae Tryz.func119 (by kernel_rfl) (by kernel_rfl)) An3
theorem An4:Ai Zm 138 (Ac cV3 (Aa cV3)) (fun bad x=>GZ bad x.1 x.2) cV3:=AZ (tbl:=[G7,G8,G9,GL,Eh,JA]) (dirty:=fun _=>[]) (n:=8) xmixA Tryz.func138 rfl (fun bad x Post=>by kernel_rfl)
def LM:Ct Zm:=Ak Zm 138 (Ac cV3 (Aa cV3)) (fun bad x=>GZ bad x.1 x.2) cV3 (Ae Tryz.func138 (by kernel_rfl) (by kernel_rfl)) An4
theorem Yk:Ai Zm 139 (Ac cV3 (Aa cI)) (fun bad x=>Nb bad x.1 x.2) cV3:=AZ (tbl:=[G7,G8,G9,GL,Eh,JA,LM]) (dirty:=fun _=>[]) (n:=8) xmixA Tryz.func139 rfl (fun bad x Post=>by kernel_rfl)
def Ik:Ct Zm:=Ak Zm 139 (Ac cV3 (Aa cI)) (fun bad x=>Nb bad x.1 x.2) cV3 (Ae Tryz.func139 (by kernel_rfl) (by kernel_rfl)) Yk
theorem An5:Ai Zm 204 (Ac cV3 (Ac cI (Aa cI))) (fun bad x=>Ex bad x.1 x.2.1 x.2.2) cV3:=AZ (tbl:=[G7,G8,G9,GL,Eh,JA,LM,Ik]) (dirty:=fun _=>[]) (n:=8) xmixA Tryz.func204 rfl (fun bad x Post=>by kernel_rfl)
def Tc:Ct Zm:=Ak Zm 204 (Ac cV3 (Ac cI (Aa cI))) (fun bad x=>Ex bad x.1 x.2.1 x.2.2) cV3 (Ae Tryz.func204 (by kernel_rfl) (by kernel_rfl)) An5
theorem AEo:Ah Zm 117 (Ac cDrB (Aa cI)) (fun x=>goB x.1 x.2) cB:=Av (tbl:=[G7,G8,G9,GL,Eh,JA,LM,Ik,Tc]) (dirty:=fun _=>[]) (n:=8) xmixA Tryz.func117 rfl (fun x Post=>by
    refine Eq.trans (b:=?m) ?x (Eq.symm ?y)
    case y=>unfold goB;simp only[<-Ld (K:=PJ cB Post),<-Hj (K:=PJ cB Post),<-AX (K:=PJ cB Post)];exact rfl
    case x=>kernel_rfl)
def AEp:Ct Zm:=Aq Zm 117 (Ac cDrB (Aa cI)) (fun x=>goB x.1 x.2) cB (Ae Tryz.func117 (by kernel_rfl) (by kernel_rfl)) AEo
theorem An6:Ai Zm 118 (Ac cDrB (Ac cV3 (Aa cI))) (fun bad x=>VV bad x.1 x.2.1 x.2.2) cV3:=AZ (tbl:=[G7,G8,G9,GL,Eh,JA,LM,Ik,Tc,AEp]) (dirty:=fun _=>[]) (n:=8) xmixA Tryz.func118 rfl (fun bad x Post=>by kernel_rfl)
def Abf:Ct Zm:=Ak Zm 118 (Ac cDrB (Ac cV3 (Aa cI))) (fun bad x=>VV bad x.1 x.2.1 x.2.2) cV3 (Ae Tryz.func118 (by kernel_rfl) (by kernel_rfl)) An6
theorem VW:Ai Zm 41 (Ac cDrB (Ac cV3 (Aa cI))) (fun bad x=>stepB bad x.1 x.2.1 x.2.2) cDrB:=AZ (tbl:=[G7,G8,G9,GL,Eh,JA,LM,Ik,Tc,AEp,Abf]) (dirty:=fun _=>[]) (n:=8) xmixA Tryz.func41 rfl (fun bad x Post=>by
    refine Eq.trans (b:=?m) ?x (Eq.symm ?y)
    case y=>unfold stepB;simp only[<-Bg (K:=PK cDrB Post)];exact rfl
    case x=>kernel_rfl)
def AEq:Ct Zm:=Ak Zm 41 (Ac cDrB (Ac cV3 (Aa cI))) (fun bad x=>stepB bad x.1 x.2.1 x.2.2) cDrB (Ae Tryz.func41 (by kernel_rfl) (by kernel_rfl)) VW
theorem Awv:Ai Zm 169 (Aa cDrB) (fun bad x=>Afv bad x) cV3:=AZ (tbl:=[G7,G8,G9,GL,Eh,JA,LM,Ik,Tc,AEp,Abf,AEq]) (dirty:=fun _=>[]) (n:=8) xmixA Tryz.func169 rfl (fun bad x Post=>by
    refine Eq.trans (b:=?m) ?x (Eq.symm ?y)
    case y=>unfold Afv;simp only[<-Ld (K:=PK cV3 Post)];exact rfl
    case x=>kernel_rfl)
theorem Yl:Ai Zm 270 (Ac cV3 (Aa cV3)) (fun bad x=>DR bad x.1 x.2) cV3:=AZ (tbl:=[G7,G8,G9,Eh]) (dirty:=fun _=>[]) (n:=8) xmixA Tryz.func270 rfl (fun bad x Post=>by kernel_rfl)
def An7:Ct Zm:=Ak Zm 270 (Ac cV3 (Aa cV3)) (fun bad x=>DR bad x.1 x.2) cV3 (Ae Tryz.func270 (by kernel_rfl) (by kernel_rfl)) Yl
theorem An8:Ai Zm 137 (Ac cV3 (Aa cV3)) (fun bad x=>VG bad x.1 x.2) cI:=AZ (tbl:=[G7,G8,G9,Eh]) (dirty:=fun _=>[]) (n:=8) xmixA Tryz.func137 rfl (fun bad x Post=>by kernel_rfl)
def AEr:Ct Zm:=Ak Zm 137 (Ac cV3 (Aa cV3)) (fun bad x=>VG bad x.1 x.2) cI (Ae Tryz.func137 (by kernel_rfl) (by kernel_rfl)) An8
def AEs:Ct Zm:=Ak Zm 240 (Aa cV3) Nx.vUniS cV3 (Ae Tryz.func240 (by kernel_rfl) (by kernel_rfl)) Nx.vUni_ok
def OI(bad:Bool)(p q:V3):(Int×Int)×Bool:=let r1:=Nx.vUniS bad p;let r2:=Nx.vUniS r1.2 q;let r3:=DR r2.2 r1.1 r2.1;let r4:=Nx.vNrmS r3.2 r3.1;let r5:=VG r4.2 r1.1 r2.1;((r4.1,r5.1),r5.2)
theorem Ym:Ai Zm 227 (Ac cV3 (Aa cV3)) (fun bad x=>OI bad x.1 x.2) (Au cI cI):=AZ (tbl:=[AEs,An7,Nx.cvNrm,AEr]) (dirty:=fun _=>[]) (n:=8) xmixA Tryz.func227 rfl (fun bad x Post=>by kernel_rfl)
def An9:Ct Zm:=Ak Zm 227 (Ac cV3 (Aa cV3)) (fun bad x=>OI bad x.1 x.2) (Au cI cI) (Ae Tryz.func227 (by kernel_rfl) (by kernel_rfl)) Ym
def apA(bad:Bool)(p q:V3):Bool×Bool:=(decide ((OI bad p q).1.1≥190928190487),(OI bad p q).2)
theorem Afx:Ai Zm 136 (Ac cV3 (Aa cV3)) (fun bad x=>apA bad x.1 x.2) cB:=AZ (tbl:=[An9]) (dirty:=fun _=>[]) (n:=8) xmixA Tryz.func136 rfl (fun bad x Post=>by kernel_rfl)
theorem Td{x y:Int}(hx:x.natAbs<=1099511627776)(hy:y.natAbs<=1099511627776):∃m,mulS false x y=(m,false)/\m.natAbs<=1099511627777:=by
 obtain⟨m,e,_⟩:=Yc x y (by omega) (by omega)
 have h:=Nx.mulS_near (x:=x) (y:=y) (by rw[e])
 rw[e]at h
 dsimp only at h
 have:=Nat.mul_le_mul hx hy
 exact⟨m,e,by omega⟩
theorem Aoa{u v:V3}(h1:u.1.natAbs<=1099511627776)(h2:u.2.1.natAbs<=1099511627776)(h3:u.2.2.natAbs<=1099511627776)(k1:v.1.natAbs<=1099511627776)(k2:v.2.1.natAbs<=1099511627776)(k3:v.2.2.natAbs<=1099511627776):(VG false u v).2=false:=by
 obtain⟨a,e1,a1⟩:=Td h1 k1
 obtain⟨b,e2,b1⟩:=Td h2 k2
 obtain⟨c,e3,c1⟩:=Td h3 k3
 have s1:=LF a b (B8 (by omega)) (B8 (by omega)) (B8 (by omega))
 have s2:=LF (a+b) c (B8 (by omega)) (B8 (by omega)) (B8 (by omega))
 unfold VG
 simp only[e1,e2,e3,s1,s2]
theorem VX(p:V3):(Nx.vUniS true p).2=true:=by
 unfold Nx.vUniS
 rw[GE,if_pos (by decide)]
theorem Yn(p q:V3):(DR true p q).2=true:=by
 unfold DR
 simp only[Q2,Q1,GB]
theorem Q4{p:V3}(h:(Nx.vUniS false p).2=false):(Nx.vUniS false p).1.1.natAbs<=1099511627776/\(Nx.vUniS false p).1.2.1.natAbs<=1099511627776/\(Nx.vUniS false p).1.2.2.natAbs<=1099511627776:=by
 have k:=Nx.uni_low (p:=p) (u:=(Nx.vUniS false p).1) (Prod.ext rfl h)
 generalize (Nx.vUniS false p).1=u at k ⊢
 change (Nat.ble u.1.natAbs 1099511627776&&(Nat.ble u.2.1.natAbs 1099511627776&&(Nat.ble u.2.2.natAbs 1099511627776&&true)))=true at k
 simp only[Zu,Nat.ble_eq,and_true]at k
 exact k
theorem Aob{bad:Bool}{p q:V3}(h:(apA bad p q).2=true):(apA bad p q).1=false:=by
 unfold apA OI at h ⊢
 dsimp only at h ⊢
 cases e4:(Nx.vNrmS (DR (Nx.vUniS (Nx.vUniS bad p).2 q).2 (Nx.vUniS bad p).1 (Nx.vUniS (Nx.vUniS bad p).2 q).1).2 (DR (Nx.vUniS (Nx.vUniS bad p).2 q).2 (Nx.vUniS bad p).1 (Nx.vUniS (Nx.vUniS bad p).2 q).1).1).2
 ·exfalso
  rw[e4]at h
  have f3:(DR (Nx.vUniS (Nx.vUniS bad p).2 q).2 (Nx.vUniS bad p).1 (Nx.vUniS (Nx.vUniS bad p).2 q).1).2=false:=by
   cases e:(DR (Nx.vUniS (Nx.vUniS bad p).2 q).2 (Nx.vUniS bad p).1 (Nx.vUniS (Nx.vUniS bad p).2 q).1).2
   ·rfl
   ·rw[e]at e4
    unfold Nx.vNrmS at e4
    rw[GE]at e4
    cases e4
  have f2:(Nx.vUniS (Nx.vUniS bad p).2 q).2=false:=by
   cases e:(Nx.vUniS (Nx.vUniS bad p).2 q).2
   ·rfl
   ·rw[e,Yn]at f3
    cases f3
  have f1:(Nx.vUniS bad p).2=false:=by
   cases e:(Nx.vUniS bad p).2
   ·rfl
   ·rw[e,VX]at f2
    cases f2
  have f0:bad=false:=by
   cases bad
   ·rfl
   ·rw[VX]at f1
    cases f1
  subst f0
  rw[f1]at f2 h
  obtain⟨a,b,c⟩:=Q4 f1
  obtain⟨a',b',c'⟩:=Q4 f2
  rw[Aoa a b c a' b' c']at h
  cases h
 ·have z:(Nx.vNrmS (DR (Nx.vUniS (Nx.vUniS bad p).2 q).2 (Nx.vUniS bad p).1 (Nx.vUniS (Nx.vUniS bad p).2 q).1).2 (DR (Nx.vUniS (Nx.vUniS bad p).2 q).2 (Nx.vUniS bad p).1 (Nx.vUniS (Nx.vUniS bad p).2 q).1).1).1=0:=Nx.normS_zb _ _ _ _ e4
  rw[z]
  rfl
end
namespace Nx
open Go.RowKit Go.Proofs.YtoadcnhcfodkgaaGreatDoor
theorem OJ{P:Program}{f:Nat}{A R:Type}{d:Dl A}{c:Dc R}{g:Bool->A->R×Bool}(h:Ai P f d g c)(bad:Bool)(x:A):CallsOk P f bad (d.enc x) (c.enc (g bad x).1) (g bad x).2:=
 ⟨fun u hu=>d.np x u hu,c.np _,fun k w hg hk hf=>h k bad x w hg hk hf⟩
theorem AEt{P:Program}{a b:Nat}{sa:List Value}{sr:Value}{kind:Nat}(h:∃g,BY P (fun d=>bif d then b else a) sa sr kind g)(hk:kind≠8){A R:Type}{d:Dl A}{c:Dc R}(hd:∀x,Aj (G2 []) sa (d.enc x))(ia:P.inits.idxOf? a=none)(ib:P.inits.idxOf? b=none)
    {z:R} {f g:Bool->A->R×Bool} (hf:Ai P a d f c) (fz:∀bad x,(f bad x).2=true->(f bad x).1=z) (hg:Ai P b d g c) (gz:∀bad x,(g bad x).2=true->(g bad x).1=z):Ai P b d f c:=by
 obtain⟨G,h1,h2,_⟩:=h
 have key:∀bad x,c.enc (g bad x).1=c.enc (f bad x).1/\(g bad x).2=(f bad x).2:=by
  intro bad x
  obtain⟨a1,a2⟩:=CallsOk.det ia ((h1 false bad _ (hd x)).1.1 hk) (OJ hf bad x)
  obtain⟨b1,b2⟩:=CallsOk.det ib ((h1 true bad _ (hd x)).1.1 hk) (OJ hg bad x)
  have fl:(g bad x).2=(f bad x).2:=by
   rw[<-a2,<-b2]
   cases bad
   ·exact(h2 _ (hd x)).1.symm
   ·rw[(h1 true true _ (hd x)).2.1 rfl,(h1 false true _ (hd x)).2.1 rfl]
  refine⟨?_,fl⟩
  cases e:(f bad x).2
  ·cases bad
   ·rw[<-a1,<-b1]
    exact((h2 _ (hd x)).2 (a2.trans e)).symm
   ·have:=(h1 false true _ (hd x)).2.1 rfl
    rw[a2,e]at this
    cases this
  ·rw[fz bad x e,gz bad x (fl.trans e)]
 intro k bad x w hw h1k hfl
 have:=hg k bad x w hw h1k hfl
 rw[(key bad x).1,(key bad x).2]at this
 exact this
def AEu(g:Bool->Tup 3×Tup 3->(Int×Int)×Bool)(bad:Bool)(x:Tup 3×Tup 3):Bool×Bool:=if !(g bad x).2 then(decide ((g bad x).1.1≥190928190487),(g bad x).2)else(false,(g bad x).2)
theorem Afy(g:Bool->Tup 3×Tup 3->(Int×Int)×Bool)(h:Ai Zm 80 (Ac (cT 3) (Aa (cT 3))) g (Au cI cI)):Ai Zm 24 (Ac (cT 3) (Aa (cT 3))) (AEu g) cB:=
 AZ (tbl:=[Ak Zm 80 _ g _ (Ae Tryz.func80 (by kernel_rfl) (by kernel_rfl)) h]) (dirty:=fun _=>[]) (n:=4) xmixA Tryz.func24 rfl (fun bad x Post=>by
  refine Eq.trans (b:=?m) ?x (Eq.symm ?y)
  case y=>unfold AEu;simp only[<-Bg (K:=PK cB Post)];exact rfl
  case x=>kernel_rfl)
theorem AOq(v:Value)(h:G2 [] (.tuple ⟨[uI,uI]⟩) v):∃y,(Au cI cI).enc y=v:=by
 obtain⟨l,rfl,gl⟩:=h
 match l,gl with
 |[a,b],⟨⟨x,ea⟩,⟨y,eb⟩,_⟩=>
  rw[ea,eb]
  exact⟨(x,y),rfl⟩
def apF(bad:Bool)(x:Tup 3×Tup 3):Bool×Bool:=apA bad (x.1.1,x.1.2.1,x.1.2.2.1) (x.2.1,x.2.2.1,x.2.2.2.1)
theorem Aoc:Ai Zm 136 (Ac (cT 3) (Aa (cT 3))) apF cB:=fun k bad x w hg h1 hf=>Afx k bad ((x.1.1,x.1.2.1,x.1.2.2.1),(x.2.1,x.2.2.1,x.2.2.2.1)) w hg h1 hf
theorem apart_ag:Ai Zm 136 (Ac (cT 3) (Aa (cT 3))) apF cB/\Ai Zm 24 (Ac (cT 3) (Aa (cT 3))) apF cB:=by
 obtain⟨_,g,_,hg,_⟩:=Kv QW (by decide) (Ac (cT 3) (Aa (cT 3))) (Au cI cI) (fun x=>⟨Ij 3 x.1,Ij 3 x.2,trivial⟩) AOq
 refine⟨Aoc,AEt (d:=Ac (cT 3) (Aa (cT 3))) (c:=cB) Afc (by decide) (fun x=>⟨Ij 3 x.1,Ij 3 x.2,trivial⟩) (by kernel_rfl) (by kernel_rfl) Aoc (z:=false) (fun bad x h=>Aob h) (Afy g hg) (fun bad x h=>?_)⟩
 unfold AEu at h ⊢
 split at h
 ·rename_i e
  dsimp only at h
  rw[h]at e
  cases e
 ·rename_i e
  rw[if_neg e]
end Nx
section
open Go.RowKit
def OK:Ct Zm:=Ak Zm 72 (Ac cI (Aa cI)) (fun bad x=>mulS bad x.1 x.2) cI (Ae Tryz.func72 (by kernel_rfl) (by kernel_rfl)) (fun b bad x w _ _ hw=>Kk b bad x.1 x.2 w hw)
def Te:Ct Zm:=Ak Zm 64 (Ac cI (Aa cI)) (fun bad x=>Ap bad x.1 x.2) cI (Ae Tryz.func64 (by kernel_rfl) (by kernel_rfl)) (fun b bad x w _ _ hw=>FZ b bad x.1 x.2 w hw)
def Yo:Ct Zm:=Ak Zm 66 (Ac cI (Aa cI)) (fun bad x=>AJ bad x.1 x.2) cI (Ae Tryz.func66 (by kernel_rfl) (by kernel_rfl)) (fun b bad x w _ _ hw=>Vg b bad x.1 x.2 w hw)
def KF:Ct Zm:=Ak Zm 65 (Ac cI (Ac cI (Aa cI))) (fun bad x=>Af bad x.1 x.2.1 x.2.2) cI (Ae Tryz.func65 (by kernel_rfl) (by kernel_rfl)) (fun b bad x w _ _ hw=>F7 b bad x.1 x.2.1 x.2.2 w hw)
def LN{α:Type}(n:Int)(K:Int->α):α:=if n>219902325555 then K 219902325555 else(if n< -219902325555 then K (-219902325555)else K n)
def Aod(bad:Bool)(d:Dri):Tup 3×Bool:=
 LN (mulS bad d.2.2.2.2.2.1 (-274877906944)).1 fun a=>LN (mulS (mulS bad d.2.2.2.2.2.1 (-274877906944)).2 d.2.2.2.2.2.2.1 (-274877906944)).1 fun b=>LN (mulS (mulS (mulS bad d.2.2.2.2.2.1 (-274877906944)).2 d.2.2.2.2.2.2.1 (-274877906944)).2 d.2.2.2.2.2.2.2.1 (-274877906944)).1 fun c=>
  if (mulS (mulS (mulS bad d.2.2.2.2.2.1 (-274877906944)).2 d.2.2.2.2.2.2.1 (-274877906944)).2 d.2.2.2.2.2.2.2.1 (-274877906944)).2 then((0,0,0,()),(mulS (mulS (mulS bad d.2.2.2.2.2.1 (-274877906944)).2 d.2.2.2.2.2.2.1 (-274877906944)).2 d.2.2.2.2.2.2.2.1 (-274877906944)).2)else((a,b,c,()),(mulS (mulS (mulS bad d.2.2.2.2.2.1 (-274877906944)).2 d.2.2.2.2.2.2.1 (-274877906944)).2 d.2.2.2.2.2.2.2.1 (-274877906944)).2)
def VY(bad:Bool)(d:Dri):Tup 3×Bool:=if !d.1 then((0,0,0,()),bad)else Aod bad d
theorem Aww:Ai Zm 32 (Aa cDri) VY (cT 3):=AZ (tbl:=[OK]) (dirty:=fun _=>[]) (n:=6) xmixA Tryz.func32 rfl (fun bad x Post=>by
    refine Eq.trans (b:=?m) ?x (Eq.symm ?y)
    case y=>unfold VY Aod LN;simp only[<-Bg (K:=PK (cT 3) Post),<-Hj (K:=PK (cT 3) Post)];exact rfl
    case x=>kernel_rfl)
section
variable {P:Program} {tbl:List (Ct P)} {dirty:Nat->List Nat} {n:Nat} {ov:Ov}
theorem Aoe(hm:P.follows .mixedOrders=true){f:Nat}(hf:P.funcs[f]? =some (Ba P f))(hb:(Ba P f).body=some (An P f)){A R:Type}{d:Dl A}{g:Bool->A->R×Bool}{k:Dc R}
    (ho:∀b w,D5 P ov [b] w [] [some b] (An P f)) (h:∀bad x,Ao P tbl dirty n ov (An P f) (Bz P (Ba P f) (fun v m=>v=k.enc (g bad x).1/\Ck m=some (g bad x).2)) ((ptr 0::d.enc x)++Zt ((Ba P f).ntmps-(ptr 0::d.enc x).length) undef) [[.bool bad]]):Ai P f d g k:=by
 intro b bad x w hg hb1 hw
 have R:RW [b] w [some b] [[.bool bad]] w:=by
  refine⟨fun i B hi=>?_,fun i j B hi hj=>?_,fun i B hi=>?_,rfl,rfl,rfl,Zv _,fun _ _ _=>rfl,hg,by simpa using hb1⟩
  ·match i,hi with
   |0,hi=>cases hi;exact⟨_,rfl,NH hw⟩
  ·match i,j,hi,hj with
   |0,0,_,_=>rfl
  ·match i,hi with
   |0,hi=>cases hi;exact .inl List.mem_cons_self
 refine Calls.mono (F8 hm hf hb (vargs:=ptr 0::d.enc x) R rfl (by simp) (fun i=>?_) (ho b w) (h bad x)) ?_
 ·cases i with
  |zero=>exact⟨b,rfl,rfl⟩
  | succ i=>
   by_cases hi:i<(d.enc x).length
   ·have:=d.np x _ (Zx hi)
    simp only[Zp,Zo]
    simp[hi]
    exact .same this
   ·simp only[Zp,Zo]
    simp[hi]
    rfl
 ·rintro e w' ⟨v,bl',m2,rfl,⟨rfl,h2⟩,R',hle⟩
  obtain⟨l,e,A⟩:=R'.arr 0 b (hle 0 b rfl)
  rw[Fv h2]at e
  cases e
  exact⟨rfl,Hn A,R'.os,R'.tape,R'.output,R'.size,fun i hi hb=>R'.block i hi (by simpa using hb)⟩
end
def Tf:Dri:=(false,0,0,0,0,0,0,0,())
def AA6(k:Int)(b:Tup 3)(x y z:Int):Dri:=(true,k,b.1,b.2.1,b.2.2.1,x,y,z,())
def VZ(bad:Bool)(x l r t:Int):Int×Bool:=let s:=AJ bad x l;let p:=Af s.2 s.1 1000 t;let u:=AJ p.2 p.1 r;let q:=Af u.2 u.1 t (IntKind.i64.wrap (t+2000));Ap q.2 r q.1
def tR(o k:Int):Nat->Int
 |0=>0
 |c+1=>if o<=IntKind.i64.wrap (9223372036854775807-(10+(c:Int)))then(if IntKind.i64.wrap (o+(10+(c:Int)))=k then 10+(c:Int)else tR o k c)else tR o k c
def flR(bad:Bool)(b:Tup 3):Bool:=(Ap (Ap (Ap bad b.1 0).2 b.2.1 0).2 b.2.2.1 0).2
def Aof(fl:Bool)(b:Tup 3)(k:Int):Dri×Bool:=if fl then(Tf,fl)else(AA6 k b 0 0 0,fl)
def bxR(fl:Bool)(d:Dri)(b:Tup 3)(t:Int):Int×Bool:=VZ fl b.1 d.2.2.1 d.2.2.2.2.2.1 t
def bxS(fl:Bool)(d:Dri)(b:Tup 3)(t:Int):Int×Bool:=VZ (bxR fl d b t).2 b.2.1 d.2.2.2.1 d.2.2.2.2.2.2.1 t
def bxT(fl:Bool)(d:Dri)(b:Tup 3)(t:Int):Int×Bool:=VZ (bxS fl d b t).2 b.2.2.1 d.2.2.2.2.1 d.2.2.2.2.2.2.2.1 t
def Awx(fl:Bool)(d:Dri)(b:Tup 3)(k t:Int):Dri×Bool:=if (bxT fl d b t).2 then(Tf,(bxT fl d b t).2)else(AA6 k b (bxR fl d b t).1 (bxS fl d b t).1 (bxT fl d b t).1,(bxT fl d b t).2)
def Aog(fl:Bool)(d:Dri)(b:Tup 3)(k t:Int):Dri×Bool:=if !d.1 then Aof fl b k else if t=0 then Aof fl b k else Awx fl d b k t
def Afz(bad:Bool)(x:Dri×Tup 3×Int):Dri×Bool:=Aog (flR bad x.2.1) x.1 x.2.1 x.2.2 (tR x.1.2.1 x.2.2 9991)
abbrev Awy:Dl (Dri×Tup 3×Int):=Ac cDri (Ac (cT 3) (Aa cI))
def bkT:List (Ct Zm):=[OK,Te,Yo,KF]
def bks:List Nat:=[0,3,5,6,8,10,11]
def bkF(t k i:Int)(d:Nat->Value):List Value:=Kl [(0,ptr 0),(3,.int .i64 k),(5,ptr 1),(6,ptr 2),(8,ptr 3),(10,.int .i64 t),(11,.int .i64 i)] d 103
def bkE(t k i:Int)(d:Nat->Value):List Value:=vset (((bkF t k i d).set 24 (.int .i64 i)).set 25 (.bool (decide (i<=10000)))) (.tmp 25) false
def bkM(fl:Bool)(o:Dri)(b:Tup 3):Xm:=[[.bool fl],Aun.enc o,(dT 3).enc b,Aun.enc Tf]
def bkO:Ov:=fun id=>match id with
 |6=>some (Du Zm bkT (fun _=>[]) 6 bks 103 4)
 |8=>some (Du Zm bkT (fun _=>[]) 8 bks 103 4)
 |_=>none
def bkB(P:Program):Code:=Bd [true,true,true,false,true] (An P 19)
def bkL(P:Program):Code:=Bd [false,false] (bkB P)
def bkZ(P:Program):Code:=Bd [true,true,true,true] (An P 19)
def bnx(k i:Int)(m:Xm)(Q:VQ)(t:Int):Prop:=
 103=103/\true=true/\∀d,Q .normal (bkF t k (IntKind.i64.wrap (i+1)) d) m
theorem Aoh(n:Nat)(t k i:Int)(d:Nat->Value)(fl:Bool)(o:Dri)(b:Tup 3)(Q:VQ):
    Ao Zm bkT (fun _=>[]) n bkO (bkL Zm) Q (bkF t k i d) (bkM fl o b)=
      AE (decide (i<=10000)) (AE (decide (o.2.1<=IntKind.i64.wrap (9223372036854775807-i))) (AE (decide (IntKind.i64.wrap (o.2.1+i)=k)) (bnx k i (bkM fl o b) Q i) (bnx k i (bkM fl o b) Q t)) (bnx k i (bkM fl o b) Q t))
      (Q (.exit 2) (bkE t k i d) (bkM fl o b)):=by kernel_rfl
def BkR(k:Int)(fl:Bool)(o:Dri)(b:Tup 3)(G:VQ->List Value->Xm->Prop):Prop:=∀(t i:Int) (d:Nat->Value) (Q:VQ),G Q (bkF t k i d) (bkM fl o b)=
      AE (decide (i<=10000)) (AE (decide (o.2.1<=IntKind.i64.wrap (9223372036854775807-i))) (AE (decide (IntKind.i64.wrap (o.2.1+i)=k)) (bnx k i (bkM fl o b) Q i) (bnx k i (bkM fl o b) Q t)) (bnx k i (bkM fl o b) Q t))
      (Q (.exit 2) (bkE t k i d) (bkM fl o b))
theorem Awz{k:Int}{fl:Bool}{o:Dri}{b:Tup 3}{G:VQ->List Value->Xm->Prop}(hG:BkR k fl o b G)(Q:VQ)
    (hQ:∀d,Q (.exit 2) (bkE (tR o.2.1 k 9991) k 10001 d) (bkM fl o b)):∀r c:Nat,c+r=9991->∀d,AS (r+1) G Q (bkF (tR o.2.1 k c) k (10+(c:Int)) d) (bkM fl o b):=by
 intro r
 induction r with
 |zero=>
  intro c hc d
  have e:c=9991:=by omega
  subst e
  rw[AS,hG,decide_eq_false (by decide)]
  exact hQ d
 | succ r ih=>
  intro c hc d
  have hw:IntKind.i64.wrap ((10+(c:Int))+1)=10+((c+1:Nat):Int):=by
   rw[IntKind.wrap_i64]
   omega
  rw[AS,hG,decide_eq_true (by omega)]
  by_cases h1:o.2.1<=IntKind.i64.wrap (9223372036854775807-(10+(c:Int)))
  ·rw[decide_eq_true h1]
   by_cases h2:IntKind.i64.wrap (o.2.1+(10+(c:Int)))=k
   ·rw[decide_eq_true h2]
    refine⟨rfl,rfl,fun d'=>?_⟩
    have:=ih (c+1) (by omega) d'
    rw[tR,if_pos h1,if_pos h2]at this
    rw[hw]
    exact this
   ·rw[decide_eq_false h2]
    refine⟨rfl,rfl,fun d'=>?_⟩
    have:=ih (c+1) (by omega) d'
    rw[tR,if_pos h1,if_neg h2]at this
    rw[hw]
    exact this
  ·rw[decide_eq_false h1]
   refine⟨rfl,rfl,fun d'=>?_⟩
   have:=ih (c+1) (by omega) d'
   rw[tR,if_neg h1]at this
   rw[hw]
   exact this
def bkQ(n:Nat)(Q:VQ):VQ:=fun e vt m=>match e with
 | .normal=>Ao Zm bkT (fun _=>[]) n bkO (bkZ Zm) Q vt m
 |e=>Q e vt m
theorem Aoi(m:Nat)(bad:Bool)(o:Dri)(b:Tup 3)(k:Int)(Q:VQ):
    Ao Zm bkT (fun _=>[]) (m+5) bkO (An Zm 19) Q ((ptr 0::Awy.enc (o,b,k))++Zt ((Ba Zm 19).ntmps-(ptr 0::Awy.enc (o,b,k)).length) undef) [[.bool bad]]=
      (103=103/\true=true/\∀d,Ao Zm bkT (fun _=>[]) (m+5) bkO (bkB Zm) (bkQ (m+5) Q) (bkF 0 k 10 d) (bkM (flR bad b) o b)):=by kernel_rfl
theorem AEw(m:Nat)(t k i:Int)(d:Nat->Value)(fl:Bool)(o:Dri)(b:Tup 3)(Post:Value->Option Bool->Prop):
    Ao Zm bkT (fun _=>[]) (m+5) bkO (bkZ Zm) (Bz Zm (Ba Zm 19) (fun v m=>Post v (Ck m))) (bkE t k i d) (bkM fl o b)=PK cDri Post (Aog fl o b k t):=by
 refine Eq.trans (b:=?m) ?x (Eq.symm ?y)
 case y=>unfold Aog Aof Awx;simp only[<-Bg (K:=PK cDri Post),<-Ja (K:=PK cDri Post)];exact rfl
 case x=>kernel_rfl
theorem AKl(B:Nat)(w:World):D5 Zm bkO [B] w [] [some B] (An Zm 19):=by
 refine CV (ns:=[(6,Cg Zm 19 6,false),(8,Cg Zm 19 8,false)]) (by kernel_rfl) ?_
 intro r hr
 rcases List.mem_cons.1 hr with rfl |hr
 ·intro R hR K Q bl vt m a w h r hK
  cases hR
  exact By xmixA (show 1<=4 by decide) h r hK
 rcases List.mem_cons.1 hr with rfl |hr
 ·intro R hR K Q bl vt m a w h r hK
  cases hR
  exact By xmixA (show 1<=4 by decide) h r hK
 ·cases hr
theorem Aw0:Ai Zm 19 Awy Afz cDri:=by
 refine Aoe (tbl:=bkT) (dirty:=fun _=>[]) (n:=9987+5) (ov:=bkO) xmixA (by kernel_rfl) (by kernel_rfl) AKl (fun bad x=>?_)
 obtain⟨o,b,k⟩:=x
 rw[Aoi]
 refine⟨rfl,rfl,fun d=>?_⟩
 refine Awz (k:=k) (fl:=flR bad b) (o:=o) (b:=b) (fun t i d Q=>Aoh _ t k i d _ o b Q) _ (fun d=>?_) 9991 0 rfl d
 exact Eq.mpr (AEw 9987 (tR o.2.1 k 9991) k 10001 d (flR bad b) o b (fun v f=>v=cDri.enc (Afz bad (o,b,k)).1/\f=some (Afz bad (o,b,k)).2)) ⟨rfl,rfl⟩
def Nc(bad:Bool)(d:D7)(v:V3)(k t:Int):(Dr)×Bool:=let r1:=Ap bad v.1 0;let r2:=Ap r1.2 v.2.1 0;let r3:=Ap r2.2 v.2.2 0;let r4:=AJ r3.2 v.1 d.2.1;let r5:=Af r4.2 r4.1 1000 t;let r6:=AJ r5.2 r5.1 d.2.2.2.2.1;let r7:=Af r6.2 r6.1 t (t+2000);let r8:=Ap r7.2 d.2.2.2.2.1 r7.1;let r10:=AJ r8.2 v.2.1 d.2.2.1;let r11:=Af r10.2 r10.1 1000 t;let r12:=AJ r11.2 r11.1 d.2.2.2.2.2.1;let r13:=Af r12.2 r12.1 t (t+2000);let r14:=Ap r13.2 d.2.2.2.2.2.1 r13.1;let r16:=AJ r14.2 v.2.2 d.2.2.2.1;let r17:=Af r16.2 r16.1 1000 t;let r18:=AJ r17.2 r17.1 d.2.2.2.2.2.2;let r19:=Af r18.2 r18.1 t (t+2000);let r20:=Ap r19.2 d.2.2.2.2.2.2 r19.1;if r20.2 then((false,0,0,0,0,0,0,0),r20.2)else((true,k,v.1,v.2.1,v.2.2,r8.1,r14.1,r20.1),r20.2)
def Tg(bad:Bool)(v:V3)(k:Int):(Dr)×Bool:=let r1:=Ap bad v.1 0;let r2:=Ap r1.2 v.2.1 0;let r3:=Ap r2.2 v.2.2 0;if r3.2 then((false,0,0,0,0,0,0,0),r3.2)else((true,k,v.1,v.2.1,v.2.2,0,0,0),r3.2)
theorem Af0(a p q:Int):Af true a p q=(0,true):=Ca (FE _)
theorem JB{bad:Bool}{a b v:Int}(h:Ap bad a b=(v,false)):bad=false/\Ap false a b=(v,false):=by
 cases bad
 ·exact⟨rfl,h⟩
 ·rw[Dx]at h;cases h
theorem OL{bad:Bool}{a b v:Int}(h:AJ bad a b=(v,false)):bad=false/\AJ false a b=(v,false):=by
 cases bad
 ·exact⟨rfl,h⟩
 ·rw[Q1]at h;cases h
theorem KG{bad:Bool}{a p q v:Int}(h:Af bad a p q=(v,false)):bad=false/\Af false a p q=(v,false):=by
 cases bad
 ·exact⟨rfl,h⟩
 ·rw[Af0]at h;cases h
theorem II{b v:Int}(h:Ap false b 0=(v,false)):v=b:=by
 unfold Ap at h
 split at h
 ·unfold gv at h
  rw[Int.add_zero]at h
  cases n:numB b
  ·rw[n]at h;cases h
  ·rw[n]at h;cases h;rfl
 ·cases h
theorem Abh{bad:Bool}{p q v:V3}(h:GZ bad p q=(v,false)):bad=false/\AJ false p.1 q.1=(v.1,false)/\AJ false p.2.1 q.2.1=(v.2.1,false)/\AJ false p.2.2 q.2.2=(v.2.2,false):=by
 unfold GZ at h
 obtain⟨x,c1,e1⟩:∃x c,AJ bad p.1 q.1=(x,c):=⟨_,_,rfl⟩
 obtain⟨y,c2,e2⟩:∃x c,AJ c1 p.2.1 q.2.1=(x,c):=⟨_,_,rfl⟩
 obtain⟨z,c3,e3⟩:∃x c,AJ c2 p.2.2 q.2.2=(x,c):=⟨_,_,rfl⟩
 simp only[e1,e2,e3]at h
 cases c3
 ·rw[Gf]at h
  cases h
  obtain⟨rfl,e3⟩:=OL e3
  obtain⟨rfl,e2⟩:=OL e2
  obtain⟨rfl,e1⟩:=OL e1
  exact⟨rfl,e1,e2,e3⟩
 ·rw[GB]at h;cases h
theorem Abi{bad:Bool}{p q v:V3}(h:Ep bad p q=(v,false)):bad=false/\Ap false p.1 q.1=(v.1,false)/\Ap false p.2.1 q.2.1=(v.2.1,false)/\Ap false p.2.2 q.2.2=(v.2.2,false):=by
 unfold Ep at h
 obtain⟨x,c1,e1⟩:∃x c,Ap bad p.1 q.1=(x,c):=⟨_,_,rfl⟩
 obtain⟨y,c2,e2⟩:∃x c,Ap c1 p.2.1 q.2.1=(x,c):=⟨_,_,rfl⟩
 obtain⟨z,c3,e3⟩:∃x c,Ap c2 p.2.2 q.2.2=(x,c):=⟨_,_,rfl⟩
 simp only[e1,e2,e3]at h
 cases c3
 ·rw[Gf]at h
  cases h
  obtain⟨rfl,e3⟩:=JB e3
  obtain⟨rfl,e2⟩:=JB e2
  obtain⟨rfl,e1⟩:=JB e1
  exact⟨rfl,e1,e2,e3⟩
 ·rw[GB]at h;cases h
theorem V0{bad:Bool}{a v:V3}{p q:Int}(h:Ex bad a p q=(v,false)):bad=false/\Af false a.1 p q=(v.1,false)/\Af false a.2.1 p q=(v.2.1,false)/\Af false a.2.2 p q=(v.2.2,false):=by
 unfold Ex at h
 obtain⟨x,c1,e1⟩:∃x c,Af bad a.1 p q=(x,c):=⟨_,_,rfl⟩
 obtain⟨y,c2,e2⟩:∃x c,Af c1 a.2.1 p q=(x,c):=⟨_,_,rfl⟩
 obtain⟨z,c3,e3⟩:∃x c,Af c2 a.2.2 p q=(x,c):=⟨_,_,rfl⟩
 simp only[e1,e2,e3]at h
 cases h
 obtain⟨rfl,e3⟩:=KG e3
 obtain⟨rfl,e2⟩:=KG e2
 obtain⟨rfl,e1⟩:=KG e1
 exact⟨rfl,e1,e2,e3⟩
theorem Abj{p q v:V3}(e1:AJ false p.1 q.1=(v.1,false))(e2:AJ false p.2.1 q.2.1=(v.2.1,false))(e3:AJ false p.2.2 q.2.2=(v.2.2,false)):GZ false p q=(v,false):=by
 unfold GZ
 simp only[e1,e2,e3,Gf]
theorem Abk{p q v:V3}(e1:Ap false p.1 q.1=(v.1,false))(e2:Ap false p.2.1 q.2.1=(v.2.1,false))(e3:Ap false p.2.2 q.2.2=(v.2.2,false)):Ep false p q=(v,false):=by
 unfold Ep
 simp only[e1,e2,e3,Gf]
theorem V1{a v:V3}{p q:Int}(e1:Af false a.1 p q=(v.1,false))(e2:Af false a.2.1 p q=(v.2.1,false))(e3:Af false a.2.2 p q=(v.2.2,false)):Ex false a p q=(v,false):=by
 unfold Ex
 simp only[e1,e2,e3]
def Mt(b l r t R:Int):Prop:=∃x y z u,AJ false b l=(x,false)/\Af false x 1000 t=(y,false)/\AJ false y r=(z,false)/\Af false z t (t+2000)=(u,false)/\Ap false r u=(R,false)
theorem Aw1{bad:Bool}{d:Dr}{v R:V3}{t:Int}(h:Ms bad d v t=(R,false)):
    bad=false/\Mt v.1 d.2.2.1 d.2.2.2.2.2.1 t R.1/\Mt v.2.1 d.2.2.2.1 d.2.2.2.2.2.2.1 t R.2.1/\Mt v.2.2 d.2.2.2.2.1 d.2.2.2.2.2.2.2 t R.2.2:=by
 unfold Ms at h
 obtain⟨x,c1,e1⟩:∃x c,GZ bad v (d.2.2.1,d.2.2.2.1,d.2.2.2.2.1)=(x,c):=⟨_,_,rfl⟩
 obtain⟨y,c2,e2⟩:∃y c,Ex c1 x 1000 t=(y,c):=⟨_,_,rfl⟩
 obtain⟨z,c3,e3⟩:∃z c,GZ c2 y d.2.2.2.2.2=(z,c):=⟨_,_,rfl⟩
 obtain⟨u,c4,e4⟩:∃u c,Ex c3 z t (t+2000)=(u,c):=⟨_,_,rfl⟩
 obtain⟨s,c5,e5⟩:∃s c,Ep c4 d.2.2.2.2.2 u=(s,c):=⟨_,_,rfl⟩
 simp only[e1,e2,e3,e4,e5]at h
 cases h
 obtain⟨rfl,q0,q1,q2⟩:=Abi e5
 obtain⟨rfl,u0,u1,u2⟩:=V0 e4
 obtain⟨rfl,z0,z1,z2⟩:=Abh e3
 obtain⟨rfl,y0,y1,y2⟩:=V0 e2
 obtain⟨rfl,x0,x1,x2⟩:=Abh e1
 exact⟨rfl,⟨_,_,_,_,x0,y0,z0,u0,q0⟩,⟨_,_,_,_,x1,y1,z1,u1,q1⟩,⟨_,_,_,_,x2,y2,z2,u2,q2⟩⟩
theorem Aw2{d:Dr}{v R:V3}{t:Int}(h0:Mt v.1 d.2.2.1 d.2.2.2.2.2.1 t R.1)(h1:Mt v.2.1 d.2.2.2.1 d.2.2.2.2.2.2.1 t R.2.1)(h2:Mt v.2.2 d.2.2.2.2.1 d.2.2.2.2.2.2.2 t R.2.2):Ms false d v t=(R,false):=by
 obtain⟨x0,y0,z0,u0,a0,b0,c0,d0,e0⟩:=h0
 obtain⟨x1,y1,z1,u1,a1,b1,c1,d1,e1⟩:=h1
 obtain⟨x2,y2,z2,u2,a2,b2,c2,d2,e2⟩:=h2
 unfold Ms
 rw[Abj (v:=(x0,x1,x2)) a0 a1 a2]
 simp only[V1 (a:=(x0,x1,x2)) (v:=(y0,y1,y2)) b0 b1 b2,Abj (p:=(y0,y1,y2)) (q:=d.2.2.2.2.2) (v:=(z0,z1,z2)) c0 c1 c2,V1 (a:=(z0,z1,z2)) (v:=(u0,u1,u2)) d0 d1 d2,Abk (p:=d.2.2.2.2.2) (q:=(u0,u1,u2)) (v:=R) e0 e1 e2]
def refPart(bad:Bool)(b l r t:Int):Int×Bool:=
 let r4:=AJ bad b l;let r5:=Af r4.2 r4.1 1000 t;let r6:=AJ r5.2 r5.1 r;let r7:=Af r6.2 r6.1 t (t+2000);Ap r7.2 r r7.1
theorem OM{bad:Bool}{b l r t R:Int}(h:refPart bad b l r t=(R,false)):bad=false/\Mt b l r t R:=by
 unfold refPart at h
 obtain⟨x,c1,e1⟩:∃x c,AJ bad b l=(x,c):=⟨_,_,rfl⟩
 obtain⟨y,c2,e2⟩:∃y c,Af c1 x 1000 t=(y,c):=⟨_,_,rfl⟩
 obtain⟨z,c3,e3⟩:∃z c,AJ c2 y r=(z,c):=⟨_,_,rfl⟩
 obtain⟨u,c4,e4⟩:∃u c,Af c3 z t (t+2000)=(u,c):=⟨_,_,rfl⟩
 simp only[e1,e2,e3,e4]at h
 obtain⟨rfl,q0⟩:=JB h
 obtain⟨rfl,u0⟩:=KG e4
 obtain⟨rfl,z0⟩:=OL e3
 obtain⟨rfl,y0⟩:=KG e2
 obtain⟨rfl,x0⟩:=OL e1
 exact⟨rfl,_,_,_,_,x0,y0,z0,u0,q0⟩
theorem ON{b l r t R:Int}(h:Mt b l r t R):refPart false b l r t=(R,false):=by
 obtain⟨x0,y0,z0,u0,a0,b0,c0,d0,e0⟩:=h
 unfold refPart
 simp only[a0,b0,c0,d0,e0]
def Abl:Dr:=(false,0,0,0,0,0,0,0)
def Aw3(v:V3):Prop:=Ap false v.1 0=(v.1,false)/\Ap false v.2.1 0=(v.2.1,false)/\Ap false v.2.2 0=(v.2.2,false)
theorem Aoj{bad:Bool}{v r:V3}(h:Ep bad v (0,0,0)=(r,false)):bad=false/\r=v/\Aw3 v:=by
 obtain⟨rfl,h0,h1,h2⟩:=Abi h
 have k0:=II h0
 have k1:=II h1
 have k2:=II h2
 obtain⟨r0,r1,r2⟩:=r
 obtain⟨v0,v1,v2⟩:=v
 dsimp only at k0 k1 k2
 subst k0 k1 k2
 exact⟨rfl,rfl,h0,h1,h2⟩
theorem Aok{v:V3}(h:Aw3 v):Ep false v (0,0,0)=(v,false):=Abk (q:=(0,0,0)) h.1 h.2.1 h.2.2
def FM(bad:Bool)(v:V3):Bool:=(Ap (Ap (Ap bad v.1 0).2 v.2.1 0).2 v.2.2 0).2
theorem Abm{bad:Bool}{v:V3}(h:FM bad v=false):bad=false/\Aw3 v:=by
 unfold FM at h
 obtain⟨x,c1,e1⟩:∃x c,Ap bad v.1 0=(x,c):=⟨_,_,rfl⟩
 obtain⟨y,c2,e2⟩:∃x c,Ap c1 v.2.1 0=(x,c):=⟨_,_,rfl⟩
 obtain⟨z,c3,e3⟩:∃x c,Ap c2 v.2.2 0=(x,c):=⟨_,_,rfl⟩
 simp only[e1,e2,e3]at h
 subst h
 obtain⟨rfl,e3⟩:=JB e3
 obtain⟨rfl,e2⟩:=JB e2
 obtain⟨rfl,e1⟩:=JB e1
 have k0:=II e1
 have k1:=II e2
 have k2:=II e3
 subst k0 k1 k2
 exact⟨rfl,e1,e2,e3⟩
theorem Abn{v:V3}(h:Aw3 v):FM false v=false:=by
 unfold FM
 simp only[h.1,h.2.1,h.2.2]
theorem V2(bad:Bool)(d:Dr)(v:V3)(k:Int)(hg:G6 d k=false):LL bad d v k=Tg bad v k:=by
 have hr:Tg bad v k=if FM bad v then(Abl,FM bad v)else((true,k,v.1,v.2.1,v.2.2,0,0,0),FM bad v):=rfl
 rw[hr]
 unfold LL
 rw[hg]
 simp only[Bool.false_eq_true,if_false]
 obtain⟨r,c,e⟩:∃r c,Ep bad v (0,0,0)=(r,c):=⟨_,_,rfl⟩
 simp only[e]
 cases c
 ·obtain⟨rfl,rfl,n⟩:=Aoj e
  rw[Abn n]
  rfl
 ·cases h:FM bad v
  ·obtain⟨rfl,n⟩:=Abm h
   rw[Aok n]at e
   cases e
  ·rfl
theorem Aw4(bad:Bool)(d:D7)(v:V3)(k:Int)(hg:G6 (true,d) k=true):LL bad (true,d) v k=Nc bad d v k (k-d.1):=by
 generalize ht:k-d.1=t
 have hr:Nc bad d v k t=(let p0:=refPart (FM bad v) v.1 d.2.1 d.2.2.2.2.1 t;let p1:=refPart p0.2 v.2.1 d.2.2.1 d.2.2.2.2.2.1 t;let p2:=refPart p1.2 v.2.2 d.2.2.2.1 d.2.2.2.2.2.2 t;if p2.2 then(Abl,p2.2)else((true,k,v.1,v.2.1,v.2.2,p0.1,p1.1,p2.1),p2.2)):=rfl
 rw[hr]
 unfold LL
 rw[hg]
 simp only[if_true,ht]
 obtain⟨R,c,e⟩:∃r c,Ms bad (true,d) v t=(r,c):=⟨_,_,rfl⟩
 obtain⟨r,c2,e2⟩:∃r c2,Ep c v (0,0,0)=(r,c2):=⟨_,_,rfl⟩
 simp only[e,e2]
 cases c2
 ·obtain⟨rfl,rfl,n⟩:=Aoj e2
  obtain⟨rfl,h0,h1,h2⟩:=Aw1 e
  rw[Abn n]
  simp only[ON h0,ON h1,ON h2]
  rfl
 ·obtain⟨p0,b0,q0⟩:∃p b,refPart (FM bad v) v.1 d.2.1 d.2.2.2.2.1 t=(p,b):=⟨_,_,rfl⟩
  obtain⟨p1,b1,q1⟩:∃p b,refPart b0 v.2.1 d.2.2.1 d.2.2.2.2.2.1 t=(p,b):=⟨_,_,rfl⟩
  obtain⟨p2,b2,q2⟩:∃p b,refPart b1 v.2.2 d.2.2.2.1 d.2.2.2.2.2.2 t=(p,b):=⟨_,_,rfl⟩
  simp only[q0,q1,q2]
  cases b2
  ·obtain⟨rfl,g2⟩:=OM q2
   obtain⟨rfl,g1⟩:=OM q1
   obtain⟨hn,g0⟩:=OM q0
   obtain⟨rfl,n⟩:=Abm hn
   rw[Aw2 (d:=(true,d)) (R:=(p0,p1,p2)) g0 g1 g2]at e
   cases e
   rw[Aok n]at e2
   cases e2
  ·rfl
def v3Of(b:Tup 3):V3:=(b.1,b.2.1,b.2.2.1)
def drOf(o:Dri):Dr:=(o.1,o.2.1,o.2.2.1,o.2.2.2.1,o.2.2.2.2.1,o.2.2.2.2.2.1,o.2.2.2.2.2.2.1,o.2.2.2.2.2.2.2.1)
def AKm(d:Dr):Dri:=(d.1,d.2.1,d.2.2.1,d.2.2.2.1,d.2.2.2.2.1,d.2.2.2.2.2.1,d.2.2.2.2.2.2.1,d.2.2.2.2.2.2.2,())
def driB(r:Dr×Bool):Dri×Bool:=(AKm r.1,r.2)
theorem Il{x:Int}(h:-9223372036854775808<=x/\x<=9223372036854775807):IntKind.i64.wrap x=x:=by rw[IntKind.wrap_i64];omega
theorem AEx{d:Dr}{k:Int}(hd:-9223372036854775808<=d.2.1/\d.2.1<=9223372036854775807)(hk:-9223372036854775808<=k/\k<=9223372036854775807):goB d k=G6 d k:=by
 unfold goB G6
 cases d.1
 ·rfl
 simp only[if_true,Bool.true_and,IntKind.wrap_u64]
 by_cases c:k<d.2.1
 ·rw[if_pos c,decide_eq_false (by omega),Bool.false_and]
 ·rw[if_neg c]
  have e:(k % 18446744073709551616-d.2.1 % 18446744073709551616) % 18446744073709551616=k-d.2.1:=by omega
  rw[e]
  by_cases c1:10<=k-d.2.1
  ·rw[if_pos c1,decide_eq_true c1,Bool.true_and]
  ·rw[if_neg c1,decide_eq_false c1,Bool.false_and]
theorem Aol(bad:Bool){d:Dr}(v:V3){k:Int}(hd:-9223372036854775808<=d.2.1/\d.2.1<=9223372036854775807)(hk:-9223372036854775808<=k/\k<=9223372036854775807):stepB bad d v k=LL bad d v k:=by
 unfold stepB LL
 rw[AEx hd hk]
 by_cases c:G6 d k=true
 ·have h:=Awu c
  have e:VV bad d v (IntKind.i64.wrap (k-d.2.1))=Ms bad d v (k-d.2.1):=by
   rw[Il (by omega)]
   unfold VV Ms
   rw[Il (by omega)]
  simp only[c,if_true,e]
 ·simp only[Bool.eq_false_iff.2 c,Bool.false_eq_true,if_false]
theorem AA8{o k:Int}(ho:-9223372036854775808<=o/\o<=9223372036854775807)(hk:-9223372036854775808<=k/\k<=9223372036854775807):∀c:Nat,c<=9991->tR o k c=if 10<=k-o/\k-o<10+(c:Int)then k-o else 0
 |0,_=>by rw[tR,if_neg (by omega)]
 | c+1,hc=>by
  have ih:=AA8 ho hk c (by omega)
  rw[tR,Il (x:=9223372036854775807-(10+(c:Int))) (by omega),ih]
  by_cases h1:o<=9223372036854775807-(10+(c:Int))
  ·rw[if_pos h1,Il (x:=o+(10+(c:Int))) (by omega)]
   by_cases h2:o+(10+(c:Int))=k
   ·rw[if_pos h2,if_pos (by omega)]
    omega
   ·rw[if_neg h2]
    by_cases h3:10<=k-o/\k-o<10+(c:Int)
    ·rw[if_pos h3,if_pos (by omega)]
    ·rw[if_neg h3,if_neg (by omega)]
  ·rw[if_neg h1]
   by_cases h3:10<=k-o/\k-o<10+(c:Int)
   ·rw[if_pos h3,if_pos (by omega)]
   ·rw[if_neg h3,if_neg (by omega)]
theorem Aom{bad:Bool}{x l r t:Int}(ht:10<=t/\t<=10000):VZ bad x l r t=refPart bad x l r t:=by
 unfold VZ refPart
 rw[Il (x:=t+2000) (by omega)]
theorem Abo(bad:Bool)(b:Tup 3)(k:Int):Aof (flR bad b) b k=driB (Tg bad (v3Of b) k):=by
 have hr:Tg bad (v3Of b) k=if flR bad b then(Abl,flR bad b)else((true,k,b.1,b.2.1,b.2.2.1,0,0,0),flR bad b):=rfl
 rw[hr]
 unfold Aof driB
 cases flR bad b<;>rfl
theorem Aw5(bad:Bool)(d:Dri)(b:Tup 3){k t:Int}(ht:10<=t/\t<=10000):Awx (flR bad b) d b k t=driB (Nc bad (drOf d).2 (v3Of b) k t):=by
 have hr:Nc bad (drOf d).2 (v3Of b) k t=(let p0:=refPart (flR bad b) b.1 d.2.2.1 d.2.2.2.2.2.1 t;let p1:=refPart p0.2 b.2.1 d.2.2.2.1 d.2.2.2.2.2.2.1 t;let p2:=refPart p1.2 b.2.2.1 d.2.2.2.2.1 d.2.2.2.2.2.2.2.1 t;if p2.2 then(Abl,p2.2)else((true,k,b.1,b.2.1,b.2.2.1,p0.1,p1.1,p2.1),p2.2)):=by kernel_rfl
 rw[hr]
 unfold Awx bxT bxS bxR
 simp only[Aom ht]
 generalize refPart (flR bad b) b.1 d.2.2.1 d.2.2.2.2.2.1 t=p0
 generalize refPart p0.2 b.2.1 d.2.2.2.1 d.2.2.2.2.2.2.1 t=p1
 generalize refPart p1.2 b.2.2.1 d.2.2.2.2.1 d.2.2.2.2.2.2.2.1 t=p2
 unfold driB
 cases p2.2<;>rfl
theorem Aw6(bad:Bool)(o:Dri)(b:Tup 3){k:Int}(ho:-9223372036854775808<=o.2.1/\o.2.1<=9223372036854775807)(hk:-9223372036854775808<=k/\k<=9223372036854775807):
    Afz bad (o,b,k)=driB (stepB bad (drOf o) (v3Of b) k):=by
 rw[Aol bad (d:=drOf o) (v3Of b) ho hk]
 unfold Afz
 dsimp only
 rw[AA8 ho hk 9991 (by omega)]
 by_cases c:10<=k-o.2.1/\k-o.2.1<=10000
 ·rw[if_pos (by omega)]
  unfold Aog
  cases h:o.1
  ·rw[V2 bad (drOf o) (v3Of b) k (show(o.1&&_)=false by rw[h];rfl)]
   exact Abo bad b k
  ·have g:G6 (true,(drOf o).2) k=true:=by unfold G6 drOf;simp;exact c
   have e:drOf o=(true,(drOf o).2):=by unfold drOf;rw[h]
   rw[e,Aw4 bad (drOf o).2 (v3Of b) k g,if_neg (by decide),if_neg (show ¬k-o.2.1=0 by omega)]
   exact Aw5 bad o b c
 ·rw[if_neg (by omega)]
  have g:G6 (drOf o) k=false:=by
   unfold G6 drOf
   cases o.1
   ·rfl
   ·simp;omega
  rw[V2 bad (drOf o) (v3Of b) k g]
  unfold Aog
  rw[if_pos rfl]
  cases o.1<;>exact Abo bad b k
theorem V4:Ai Zm 41 Awy (fun bad x=>driB (stepB bad (drOf x.1) (v3Of x.2.1) x.2.2)) cDri:=
 fun b bad x w hg hb hw=>VW b bad (drOf x.1,v3Of x.2.1,x.2.2) w hg hb hw
theorem Af1{α:Type}(n:Int)(K:Int->α):LN n K=K (OH n):=by
 unfold LN OH AKh AKi
 by_cases h1:n>219902325555
 ·rw[if_pos h1,if_pos (show(219902325555:Int)<n from h1),if_pos (by decide)]
 ·rw[if_neg h1,if_neg (show ¬(219902325555:Int)<n from h1)]
  by_cases h2:n< -219902325555
  ·rw[if_pos h2,if_neg (by omega)]
  ·rw[if_neg h2]
   by_cases h3:n>-219902325555
   ·rw[if_pos h3]
   ·rw[if_neg h3]
    exact congrArg K (by omega)
def AEy(r:V3×Bool):Tup 3×Bool:=((r.1.1,r.1.2.1,r.1.2.2,()),r.2)
theorem AEz(bad:Bool)(d:Dri):VY bad d=AEy (Afv bad (drOf d)):=by
 unfold VY Afv drOf
 dsimp only
 cases d.1
 ·rfl
 ·rw[if_neg (by decide),if_pos rfl]
  unfold Aod Nb
  simp only[Af1]
  obtain⟨x,c1,e1⟩:∃x c,mulS bad d.2.2.2.2.2.1 (-274877906944)=(x,c):=⟨_,_,rfl⟩
  obtain⟨y,c2,e2⟩:∃x c,mulS c1 d.2.2.2.2.2.2.1 (-274877906944)=(x,c):=⟨_,_,rfl⟩
  obtain⟨z,c3,e3⟩:∃x c,mulS c2 d.2.2.2.2.2.2.2.1 (-274877906944)=(x,c):=⟨_,_,rfl⟩
  simp only[e1,e2,e3]
  cases c3
  ·rfl
  ·rfl
theorem Aw7:Ai Zm 169 (Aa cDri) (fun bad d=>AEy (Afv bad (drOf d))) (cT 3):=
 fun b bad x w hg hb hw=>Awv b bad (drOf x) w hg hb hw
def st43(x:Tup 4):Tup 43:=(x.1,x.2.1,x.2.2.1,x.2.2.2.1,0,0,0,17179869184,0,0,0,0,0,0,17179869184,0,0,0,0,0,0,17179869184,0,0,0,0,0,0,16777216,0,0,0,0,0,0,16777216,0,0,0,0,0,0,16777216,())
theorem AE0:Ah Zm 237 (Ac cI (Ac cI (Aa cI))) (fun x=>if x.1<3 then x.2.1 else x.2.2) cI:=Av (tbl:=[]) (dirty:=fun _=>[]) (n:=4) xmixA Tryz.func237 rfl (fun x Post=>by
    refine Eq.trans (b:=?m) ?x (Eq.symm ?y)
    case y=>simp only[<-Hj (K:=PJ cI Post)];exact rfl
    case x=>kernel_rfl)
def AKn:Ct Zm:=Aq Zm 237 (Ac cI (Ac cI (Aa cI))) (fun x=>if x.1<3 then x.2.1 else x.2.2) cI (Ae Tryz.func237 (by kernel_rfl) (by kernel_rfl)) AE0
theorem Af2:Ah Zm 166 (Aa (cT 4)) st43 (cT 43):=Av (tbl:=[AKn]) (dirty:=fun _=>[]) (n:=8) xmixA Tryz.func166 rfl (fun x Post=>by kernel_rfl)
theorem Af3:Ah Zm 31 (Aa (cT 4)) st43 (cT 43):=Av (tbl:=[]) (dirty:=fun _=>[]) (n:=8) xmixA Tryz.func31 rfl (fun x Post=>by kernel_rfl)
structure AKo(right:Int->Bool)(next:Tup 6×See->Tup 6)(counts:Tup 4×Tup 3->Tup 4×Tup 3)(write:Tel->Fra×Bool)(wrap:Fra->ByteArray×Bool)(read:Fra->Tup 5×Bool)(fresh:Tup 5×Int->Bool)(oread oreadD:Fra->Tup 9×Int):Prop where
 right:Ah Zm 9 (Aa cI) right cB/\Ah Zm 17 (Aa cI) right cB
 next:Ah Zm 53 (Ac (cT 6) (Aa cSee)) next (cT 6)/\Ah Zm 29 (Ac (cT 6) (Aa cSee)) next (cT 6)
 counts:Ah Zm 55 (Ac (cT 4) (Aa (cT 3))) counts (Au (cT 4) (cT 3))/\Ah Zm 33 (Ac (cT 4) (Aa (cT 3))) counts (Au (cT 4) (cT 3))
 write:Ah Zm 57 (Aa (cT 13)) write (Au AU cB)/\Ah Zm 34 (Aa (cT 13)) write (Au AU cB)
 wrap:Ah Zm 58 (Aa AU) wrap (Au cS cB)/\Ah Zm 35 (Aa AU) wrap (Au cS cB)
 read:Ah Zm 114 (Aa AU) read (Au (cT 5) cB)/\Ah Zm 61 (Aa AU) read (Au (cT 5) cB)
 fresh:Ah Zm 115 (Ac (cT 5) (Aa cI)) fresh cB/\Ah Zm 62 (Ac (cT 5) (Aa cI)) fresh cB
 oread:Ah Zm 116 (Aa AU) oread (Au (cT 9) cI)/\Ah Zm 63 (Aa AU) oreadD (Au (cT 9) cI)/\∀f,f.1=16->oreadD f=oread f
 sky:∃f g,Ai Zm 44 (Ac (cT 3) (Aa cI)) f (cT 3)/\Ai Zm 22 (Ac (cT 3) (Aa cI)) g (cT 3)/\Ag f g
theorem join{right:Int->Bool}{next:Tup 6×See->Tup 6}{counts:Tup 4×Tup 3->Tup 4×Tup 3}{write:Tel->Fra×Bool}{wrap:Fra->ByteArray×Bool}{read:Fra->Tup 5×Bool}{fresh:Tup 5×Int->Bool}{oread oreadD:Fra->Tup 9×Int}(H:AKo right next counts write wrap read fresh oread oreadD):
    ∃F D:Fs,FsOk F/\DsOk D/\Ft F D/\F.right=right/\F.next=next/\F.counts=counts/\F.write=write/\F.wrap=wrap/\F.read=read/\F.fresh=fresh/\F.oread=oread/\F.start=st43:=by
 obtain⟨pl,pl',hpl,hpl',apl⟩:=Nx.place_ag
 obtain⟨di,di',hdi,hdi',adi⟩:=Nx.dir_ag
 obtain⟨sk,sk',hsk,hsk',ask⟩:=H.sky
 obtain⟨no,no',hno,hno',ano⟩:=Nx.norm_ag
 obtain⟨sh,hsh,hsh'⟩:=Nx.shaded_ag
 obtain⟨mo,mo',hmo,hmo',amo⟩:=Nx.move_ag
 obtain⟨me,me',hme,hme',ame⟩:=Nx.meet_ag
 obtain⟨sp,sp',hsp,hsp',asp⟩:=Nx.spread_ag
 obtain⟨att,att',hatt,hatt',aatt⟩:=Nx.att_ag
 refine⟨⟨right,pl,di,sk,no,Nx.apF,sh,mo,me,sp,att,st43,fun bad x=>driB (stepB bad (drOf x.1) (v3Of x.2.1) x.2.2),fun bad d=>AEy (Afv bad (drOf d)),next,counts,write,wrap,read,fresh,oread⟩,
  ⟨right,pl',di',sk',no',Nx.apF,sh,mo',me',sp',att',st43,Afz,VY,next,counts,write,wrap,read,fresh,oreadD⟩,?_,?_,?_,rfl,rfl,rfl,rfl,rfl,rfl,rfl,rfl,rfl⟩
 ·exact⟨H.right.1,hpl,hdi,hsk,hno,Nx.apart_ag.1,hsh,hmo,hme,hsp,hatt,Af2,V4,Aw7,H.next.1,H.counts.1,H.write.1,H.wrap.1,H.read.1,H.fresh.1,H.oread.1⟩
 ·exact⟨H.right.2,hpl',hdi',hsk',hno',Nx.apart_ag.2,hsh',hmo',hme',hsp',hatt',Af3,Aw0,Aww,H.next.2,H.counts.2,H.write.2,H.wrap.2,H.read.2,H.fresh.2,H.oread.2.1⟩
 ·exact⟨rfl,apl,adi,ask,ano,rfl,rfl,amo,ame,asp,aatt,rfl,fun d v k hd hk=>congrArg Prod.fst (Aw6 false d v hd hk),fun d=>congrArg Prod.fst (AEz false d),rfl,rfl,rfl,rfl,rfl,rfl,H.oread.2.2⟩
end
section
def FF(bad:Bool)(n m:Int):Int×Bool:=B5 bad ((n*n-m*m)*1099511627776)
structure V5(n m a b:Int):Type where
 (k1 k2 p:Int)
 h1:FF false n m=(k1,false)
 h2:FF false (n-1) m=(k2,false)
 h3:AA false k2 k1=(a,false)
 h4:Af false 1099511627776 (2*n-1) 1=(p,false)
 h5:AA false p k1=(b,false)
structure Af4(c s b a x1 x2 y1 y2 z1 z2:Int):Type where
 (v1 v2 v3 v5 v6 v7 v8 v9:Int)
 h1:mulS false c x1=(v1,false)
 h2:mulS false b v1=(v2,false)
 h3:mulS false a y1=(v3,false)
 h4:AJ false v2 v3=(z1,false)
 h5:mulS false c x2=(v5,false)
 h6:mulS false s x1=(v6,false)
 h7:AJ false v5 v6=(v7,false)
 h8:mulS false b v7=(v8,false)
 h9:mulS false a y2=(v9,false)
 h10:AJ false v8 v9=(z2,false)
structure Af5(c b a x3 y3 z3:Int):Type where
 (v1 v2 v3:Int)
 h1:mulS false c x3=(v1,false)
 h2:mulS false b v1=(v2,false)
 h3:mulS false a y3=(v3,false)
 h4:AJ false v2 v3=(z3,false)
structure AE1(n c s x1 x2 x3 z1 z2 z3:Int):Type where
 (p j v1 v3 v4 v5 v7:Int)
 hp:Af false 1099511627776 (2*n-1) (2*n)=(p,false)
 hj:B5 false p=(j,false)
 h1:mulS false s x1=(v1,false)
 h2:mulS false j v1=(z1,false)
 h3:mulS false s x2=(v3,false)
 h4:mulS false c x1=(v4,false)
 h5:Ap false v3 v4=(v5,false)
 h6:mulS false j v5=(z2,false)
 h7:mulS false s x3=(v7,false)
 h8:mulS false j v7=(z3,false)
structure V6(C S u v C' S':Int):Type where
 (v1 v2 v4 v5:Int)
 h1:mulS false C u=(v1,false)
 h2:mulS false S v=(v2,false)
 h3:AJ false v1 v2=(C',false)
 h4:mulS false S u=(v4,false)
 h5:mulS false C v=(v5,false)
 h6:Ap false v4 v5=(S',false)
structure V8(n m t C S g h P D Q up so ea up' so' ea':Int):Type where
 (v1 v2 e v4 v5 o y1 z1 p1 y2 z2 y3 z3 p3:Int)
 h1:mulS false g C=(v1,false)
 h2:mulS false h S=(v2,false)
 h3:Ap false v1 v2=(e,false)
 h4:mulS false g S=(v4,false)
 h5:mulS false h C=(v5,false)
 h6:AJ false v4 v5=(o,false)
 i1:mulS false e P=(y1,false)
 j1:mulS false t y1=(z1,false)
 q1:Af false z1 (n+1) 1=(p1,false)
 a1:Ap false up p1=(up',false)
 i2:mulS false e D=(y2,false)
 j2:mulS false t y2=(z2,false)
 a2:AJ false so z2=(so',false)
 i3:mulS false o Q=(y3,false)
 j3:mulS false t y3=(z3,false)
 q3:Af false z3 m 1=(p3,false)
 a3:Ap false ea p3=(ea',false)
 a0:m=0->ea'=ea
structure AE2(c s u v up so ea x y z:Int):Type where
 (v1 v2 a v4 v5 v7 v8 v10 v11:Int)
 h1:mulS false up s=(v1,false)
 h2:mulS false so c=(v2,false)
 h3:Ap false v1 v2=(a,false)
 h4:mulS false a u=(v4,false)
 h5:mulS false ea v=(v5,false)
 h6:AJ false v4 v5=(x,false)
 h7:mulS false a v=(v7,false)
 h8:mulS false ea u=(v8,false)
 h9:Ap false v7 v8=(y,false)
 h10:mulS false up c=(v10,false)
 h11:mulS false so s=(v11,false)
 h12:AJ false v10 v11=(z,false)
open Go.RowKit Go.Maps Go.WideMaps
theorem Abp:ArrKey Zm 299 3 2:=⟨Tryz.underlying299,by kernel_rfl,by kernel_rfl,by kernel_rfl⟩
theorem Nf:Keyed Zm 299:=Keyed.of_law Abp.law
theorem Aw8(w:World):(zeroValue 2).run Zm w=.ok (.int .i64 0) w:=by kernel_rfl
theorem Yp:∃m,Zm.types.size=m+1:=⟨Zm.types.size-1,by have h:0<Zm.types.size:=of_decide_eq_true (by kernel_rfl);omega⟩
structure Cq(n:Int):Prop where
 lo:-9223372036854775808<=n
 hi:n<=9223372036854775807
theorem Cq.wf{n:Int}(h:Cq n):(Lit.int .i64 n).wf=true:=by
 have:=h.lo;have:=h.hi
 simp only[Lit.wf,IntKind.min,IntKind.max,IntKind.signed,IntKind.bits,Zu,decide_eq_true_eq,if_true]
 omega
def kyl(n m:Int):Lit:=.string (keyBytes [.int .i64 n,.int .i64 m])
theorem OO{n m:Int}(hn:Cq n)(hm:Cq m):keyOf Zm 299 (.agg #[.int .i64 n,.int .i64 m])=some (kyl n m):=
 keyOf_pair Abp Tryz.underlying3 Yp hn.wf hm.wf
theorem Aw9{n m n' m':Int}(hn:Cq n)(hm:Cq m)(hn':Cq n')(hm':Cq m')(h:kyl n m=kyl n' m'):n=n'/\m=m':=by
 have a:=OO hn hm
 rw[h]at a
 have e:=Nf.inj a (OO hn' hm')
 simp at e
 exact e
theorem Axa{n m:Int}(hn:Cq n)(hm:Cq m):WideAt.IsKeyLit (kyl n m):=Nf.key (OO hn hm)
structure Mp(k c:Nat)(f:Int->Int->Int)(w:World):Prop where
 own:∃D:DataW Unit,w.ownsMap Zm 299 (plainElem Zm 2) k c D/\∀n m,Cq n->Cq m->D.atKey (kyl n m) (.lit (.int .i64 0))=.lit (.int .i64 (f n m))
 lies:k<w.heap.size
def AR(f:Int->Int->Int)(n m v:Int):Int->Int->Int:=fun a b=>if a=n/\b=m then v else f a b
theorem Mp.same{k c:Nat}{f:Int->Int->Int}{w w':World}(h:Mp k c f w)(e:w'.heap[k]? =w.heap[k]?)(hs:w.heap.size<=w'.heap.size):Mp k c f w':=by
 obtain⟨D,⟨es,clock,hb,F,hn,hD⟩,at_⟩:=h.own
 exact⟨⟨D,⟨es,clock,e.trans hb,F,hn,hD⟩,at_⟩,Zr h.lies hs⟩
theorem Mp.mono{k c c':Nat}{f:Int->Int->Int}{w:World}(h:Mp k c f w)(hc:c<=c'):Mp k c' f w:=by
 obtain⟨D,o,at_⟩:=h.own
 exact⟨⟨D,o.mono hc,at_⟩,h.lies⟩
theorem Mp.eqv{k c:Nat}{f g:Int->Int->Int}{w:World}(h:Mp k c f w)(e:∀n m,f n m=g n m):Mp k c g w:=by
 obtain rfl:f=g:=by funext n m;exact e n m
 exact h
theorem Mp.kept{k b c:Nat}{f:Int->Int->Int}{w w':World}(h:Mp k c f w)(hb:Ad b w w')(hk:k≠b):Mp k c f w':=h.same (hb.block k h.lies hk) hb.size
theorem Mp.below{k c:Nat}{f:Int->Int->Int}{w w':World}(h:Mp k c f w)(hb:Below w.heap.size w w'):Mp k c f w':=h.same (hb.block k h.lies) hb.size
theorem Mp.alloc{k c:Nat}{f:Int->Int->Int}{w:World}(h:Mp k c f w)(o:Obj):Mp k c f (w.alloc o):=h.below ((Below.refl _ _).alloc (Zv _) o)
theorem Mp.drew{k c:Nat}{f:Int->Int->Int}{w:World}(h:Mp k c f w):Mp k c f w.drew:=⟨h.own,h.lies⟩
theorem Mp.new{k c:Nat}{f:Int->Int->Int}{w:World}(h:Mp k c f w)(q o:Nat)(hp:k≠q)(u:Value):Mp k c f (w.setCell ⟨q,o,none⟩ u):=
 h.same (Below.heap_setCell _ _ _ _ hp) (by rw[World.size_setCell];exact Zv _)
theorem Mp.look{k c:Nat}{f:Int->Int->Int}{w:World}(h:Mp k c f w){n m:Int}(hn:Cq n)(hm:Cq m):(Instr.lookup 256 (.map (some k)) (.agg #[.int .i64 n,.int .i64 m]) false).run Zm w=.ok (.int .i64 (f n m)) w:=by
 obtain⟨D,o,at_⟩:=h.own
 obtain⟨c,hr,hat,_⟩:=o.lookup_int Nf Tryz.underlying256 Tryz.underlying2 (Aw8 w) (OO hn hm)
 rw[at_ n m hn hm]at hat
 injection hat with hat
 injection hat with _ hat
 rw[hr,hat]
theorem Mp.store{k c:Nat}{f:Int->Int->Int}{w:World}(h:Mp k c f w)(hc:c<1000){n m v:Int}(hn:Cq n)(hm:Cq m)(hv:Cq v):
    ∃w',(Instr.mapUpdate 256 (.map (some k)) (.agg #[.int .i64 n,.int .i64 m]) (.int .i64 v)).run Zm w=.ok () w'/\Mp k (c+1) (AR f n m v) w'/\Ad k w w':=by
 obtain⟨D,o,at_⟩:=h.own
 have hmap:IsMap D:=by obtain⟨_,_,_,_,_,rfl⟩:=o;exact⟨_,rfl⟩
 obtain⟨w',hr,o',g⟩:=o.update Nf Tryz.underlying256 (by unfold maxLen;omega) (OO hn hm) (plainElem_int Tryz.underlying2 hv.wf)
 refine⟨w',hr,⟨⟨_,o',fun n' m' hn' hm'=>?_⟩,Zr h.lies g.size⟩,⟨g.os,g.tape,g.output,g.size,fun i hi hb=>g.block i hi (fun e=>hb (Option.some.inj e))⟩⟩
 unfold AR
 by_cases e:n'=n/\m'=m
 ·rw[if_pos e,e.1,e.2,atKey_put_same hmap (Axa hn hm)]
 ·rw[if_neg e,atKey_put_other (fun h=>e (Aw9 hn' hm' hn hm h)),at_ n' m' hn' hm']
theorem Mp.made(w:World)(n:Nat)(hn:n=w.heap.size):Mp n 0 (fun _ _=>0) (w.alloc (.map #[] 0)):=by
 subst hn
 exact⟨⟨_,World.ownsMap_made w _ _ _,fun _ _ _ _=>rfl⟩,by simp⟩
theorem Ti{ops:Array Oper}{rest:List Oper}{op:Oper}{a:Act}{w:World}{Q:Exit->Act->World->Prop}{x y:Operand}{k c:Nat}{f:Int->Int->Int}{n m:Int}(hgd:op.guard=none)(ho:op.op=.lookup 256 x y false)
    (hx:a.eval x=.map (some k)) (hy:a.eval y=.agg #[.int .i64 n,.int .i64 m]) (M:Mp k c f w) (hn:Cq n) (hm:Cq m) (h:wpList Zm ops Q rest (a.put op.dst (.int .i64 (f n m))) w):wpList Zm ops Q (op::rest) a w:=by
 refine wpList_plain hgd fun K' hK'=>?_
 unfold Oper.wp
 simp[execOp,ho,hx,hy,M.look hn hm,Result.andThen]
 exact hK' _ _ h
theorem OP{ops:Array Oper}{S:World->Prop}{op:Oper}{a:Act}{x y:Operand}{k c:Nat}{f:Int->Int->Int}{n m:Int}(hw:Region.wanted op (yielded ops a.tmps)=true)(ho:op.op=.lookup 256 x y false)
    (hx:a.eval x=.map (some k)) (hy:a.eval y=.agg #[.int .i64 n,.int .i64 m]) (hS:∀w,S w->Mp k c f w) (hn:Cq n) (hm:Cq m):YieldsIf Zm ops S op (.int .i64 (f n m)) a:=by
 refine Or.inl ⟨hw,fun w h=>?_⟩
 simp[execOp,ho,hx,hy,(hS w h).look hn hm,Result.andThen]
theorem LO{ops:Array Oper}{op:Oper}{a:Act}{w:World}{K:Act->World->Prop}{Q:Exit->Act->World->Prop}{x y z:Operand}{k c:Nat}{f:Int->Int->Int}{n m v:Int}(hw:Region.wanted op (yielded ops a.tmps)=true)
    (ho:op.op=.mapUpdate 256 x y z) (hx:a.eval x=.map (some k)) (hy:a.eval y=.agg #[.int .i64 n,.int .i64 m]) (hz:a.eval z=.int .i64 v) (M:Mp k c f w) (hc:c<1000) (hn:Cq n) (hm:Cq m) (hv:Cq v)
    (h:∀w',Mp k (c+1) (AR f n m v) w'->Ad k w w'->K (a.put op.dst undef) w'):if Region.wanted op (yielded ops a.tmps)=true then Oper.wp Zm op a w K Q else K (a.put op.dst undef) w:=by
 rw[if_pos hw]
 obtain⟨w',hr,M',k'⟩:=M.store hc hn hm hv
 unfold Oper.wp
 simp[execOp,ho,hx,hy,hz,hr,Result.andThen]
 exact h w' M' k'
structure Al(L:List Nat)(w w':World):Prop where
 os:w'.os=w.os
 tape:w'.tape=w.tape
 output:w'.output=w.output
 size:w.heap.size<=w'.heap.size
 block:∀k,k<w.heap.size->k∉L->w'.heap[k]? =w.heap[k]?
theorem Al.refl(L:List Nat)(w:World):Al L w w:=⟨rfl,rfl,rfl,Zv _,fun _ _ _=>rfl⟩
theorem Al.trans{L:List Nat}{x y z:World}(h:Al L x y)(k:Al L y z):Al L x z:=
 ⟨k.os.trans h.os,k.tape.trans h.tape,k.output.trans h.output,Nat.le_trans h.size k.size,fun i hi hb=>(k.block i (Zr hi h.size) hb).trans (h.block i hi hb)⟩
theorem Al.of{L:List Nat}{b:Nat}{w w':World}(h:Ad b w w')(hb:b∈L):Al L w w':=⟨h.os,h.tape,h.output,h.size,fun k hk hn=>h.block k hk (fun e=>hn (e▸hb))⟩
theorem Al.on{L:List Nat}{b:Nat}{x w w':World}(h:Al L x w)(k:Ad b w w')(hb:b∈L):Al L x w':=h.trans (Al.of k hb)
theorem Al.low{L:List Nat}{x w w':World}(h:Al L x w)(k:Below w.heap.size w w'):Al L x w':=h.trans ⟨k.os,k.tape,k.output,k.size,fun i hi _=>k.block i hi⟩
theorem Al.al{L:List Nat}{x w:World}(h:Al L x w)(o:Obj):Al L x (w.alloc o):=h.low ((Below.refl _ _).alloc (Zv _) o)
theorem Al.drew{L:List Nat}{x w:World}(h:Al L x w):Al L x w.drew:=⟨h.os,h.tape,h.output,h.size,h.block⟩
theorem Ad.off_list{b:Nat}{L:List Nat}{x w w':World}(K:Ad b x w)(h:Al L w w')(hL:∀k∈L,k=b∨x.heap.size<=k):Ad b x w':=
 ⟨h.os.trans K.os,h.tape.trans K.tape,h.output.trans K.output,Nat.le_trans K.size h.size,fun j hj hb=>(h.block j (Zr hj K.size) (fun m=>by rcases hL j m with e |e<;>omega)).trans (K.block j hj hb)⟩
theorem AN.keptL{k:Nat}{L:List Nat}{l:List Value}{w w':World}(h:AN k l w)(hb:Al L w w')(hk:k∉L):AN k l w':=h.same (hb.block k h.lies hk) hb.size
def Be(k:Nat)(f:Int->Int->Int)(n m:Int)(w:World):Prop:=∃c g,Mp k c g w/\∀a b,¬(a=n/\b=m)->g a b=f a b
theorem Be.same{k c:Nat}{f:Int->Int->Int}{n m:Int}{w:World}(M:Mp k c f w):Be k f n m w:=⟨c,f,M,fun _ _ _=>rfl⟩
theorem Be.upd{k c:Nat}{f:Int->Int->Int}{n m v:Int}{w:World}(M:Mp k c (AR f n m v) w):Be k f n m w:=⟨c,_,M,fun _ _ h=>if_neg h⟩
theorem BH{ops:Array Oper}{S:World->Prop}{op:Oper}{a:Act}{x y:Operand}{k:Nat}{f:Int->Int->Int}{n m n0 m0:Int}(hw:Region.wanted op (yielded ops a.tmps)=true)(ho:op.op=.lookup 256 x y false)
    (hx:a.eval x=.map (some k)) (hy:a.eval y=.agg #[.int .i64 n,.int .i64 m]) (hS:∀w,S w->Be k f n0 m0 w) (hn:Cq n) (hm:Cq m) (hne:¬(n=n0/\m=m0)):YieldsIf Zm ops S op (.int .i64 (f n m)) a:=by
 refine Or.inl ⟨hw,fun w h=>?_⟩
 obtain⟨c,g,M,e⟩:=hS w h
 simp[execOp,ho,hx,hy,M.look hn hm,Result.andThen,e n m hne]
def Tj(L:Array Bool):Nat:=(L.toList.filter (fun b=>!b)).length
theorem OQ{L:Array Bool}{i:Nat}(h:L.getD i true=false):Tj (L.setIfInBounds i true)+1=Tj L:=by
 obtain⟨l⟩:=L
 have h':l[i]?.getD true=false:=by simpa using h
 unfold Tj
 simp only[List.setIfInBounds_toArray]
 clear h
 induction l generalizing i with
 |nil=>simp at h'
 | cons b r ih=>
  cases i with
  |zero=>simp at h';simp[h']
  |succ i=>
   have:=ih (i:=i) (by simpa using h')
   cases b<;>simp[List.set_cons_succ]<;>omega
theorem OR{P:Program}{md:Region.Mode}{l:List Oper}{Q:Exit->Act->World->Prop}(Inv:Array Bool->Act->World->Prop)
    (step:∀listed a w i o,l[i]? =some o->i∈Region.ready md l.toArray listed->Inv listed a w->∀K':Act->World->Prop,Shut (∀a w,Inv (listed.setIfInBounds i true) a w->K' a w)->if Region.wanted o (yielded l.toArray a.tmps)=true then Oper.wp P o a w K' Q else K' (a.put o.dst undef) w)
    (fin:∀listed a w,Region.ready md l.toArray listed=[]->Inv listed a w->Q .normal a w):
    ∀(fuel:Nat) (listed:Array Bool) (a:Act) (w:World),Tj listed<=fuel->Inv listed a w->wpAnyH P md l.toArray Q (fun _=>True) fuel listed a w:=by
 intro fuel
 induction fuel with
 | zero=>
  intro listed a w hu hI
  have hr:Region.ready md l.toArray listed=[]:=by
   apply List.eq_nil_iff_forall_not_mem.2
   intro i hi
   have:=OQ (mem_ready.1 hi).1
   omega
  exact⟨hr,fin listed a w hr hI⟩
 | succ fuel ih=>
  intro listed a w hu hI
  refine⟨fun hr=>fin listed a w hr hI,fun i hi=>?_⟩
  obtain⟨hun,o,ho,_⟩:=mem_ready.1 hi
  have ho':l[i]? =some o:=by simpa using ho
  have hs:=OQ hun
  have h:=step listed a w i o ho' hi hI (fun a' w'=>True/\wpAnyH P md l.toArray Q (fun _=>True) fuel (listed.setIfInBounds i true) a' w') (fun a' w' k=>⟨trivial,ih _ a' w' (by omega) k⟩)
  unfold wpOp
  rw[ho]
  show if _ then _ else _
  split
  ·rename_i hw
   rw[if_pos hw]at h
   exact Or.inl h
  ·rename_i hw
   rw[if_neg hw]at h
   exact h
theorem AW{md:Region.Mode}{l:List Oper}{L:Array Bool}(hr:Region.ready md l.toArray L=[]){i:Nat}{o:Oper}(hi:l[i]? =some o)(hu:L.getD i true=false)(h:o.after.toList.all (fun e=>!Region.binds md e||L.getD e.on false)=true):False:=by
 have m:i∈Region.ready md l.toArray L:=mem_ready.2 ⟨hu,o,by simpa using hi,fun e he hb=>by
  have:=(Zy.1 h) e (by simpa using he)
  rw[hb]at this
  simpa using this⟩
 rw[hr]at m
 exact absurd m List.not_mem_nil
theorem OS{ops:Array Oper}{op:Oper}{a:Act}{w:World}{K:Act->World->Prop}{Q:Exit->Act->World->Prop}{x y z:Operand}{k c:Nat}{f:Int->Int->Int}{n m v:Int}(hw:Region.wanted op (yielded ops a.tmps)=true)
    (ho:op.op=.insert 256 x y z) (hx:a.eval x=.map (some k)) (hy:a.eval y=.agg #[.int .i64 n,.int .i64 m]) (hz:a.eval z=.int .i64 v) (M:Mp k c f w) (hc:c<1000) (hn:Cq n) (hm:Cq m) (hv:Cq v)
    (h:∀w',Mp k (c+1) (AR f n m v) w'->Ad k w w'->K (a.put op.dst undef) w'):if Region.wanted op (yielded ops a.tmps)=true then Oper.wp Zm op a w K Q else K (a.put op.dst undef) w:=by
 rw[if_pos hw]
 obtain⟨w',hr,M',k'⟩:=M.store hc hn hm hv
 unfold Oper.wp
 simp[execOp,ho,hx,hy,hz,hr,Result.andThen]
 exact h w' M' k'
def Tk(p:Bool)(x:Int)(q:Bool)(y:Int):Int->Int->Int:=fun n m=>if q=true/\n=1/\m=1 then y else if p=true/\n=0/\m=0 then x else 0
theorem OT(x y:Int)(n m:Int):(0:Int)=Tk false x false y n m:=by unfold Tk;simp
theorem AA9(x:Int)(q:Bool)(y:Int)(n m:Int):AR (Tk false x q y) 0 0 x n m=Tk true x q y n m:=by
 unfold AR Tk
 by_cases h:n=0/\m=0
 ·obtain⟨rfl,rfl⟩:=h;simp
 ·rw[if_neg h];simp[h]
theorem Aoo(p:Bool)(x y:Int)(n m:Int):AR (Tk p x false y) 1 1 y n m=Tk p x true y n m:=by
 unfold AR Tk
 by_cases h:n=1/\m=1
 ·obtain⟨rfl,rfl⟩:=h;simp
 ·rw[if_neg h];simp[h]
structure MI(w0:World)(c s:Int)(a0 a2 a5 a6 b7 b9 b12 b13 q14 q16 q17 e18 d19 z20:Bool)(x7 x10 x14 x15 x19 x20 x22 x23:Value)(kA kB kC kD:Nat)(w:World):Prop where
 bel:Below w0.heap.size w0 w
 A:a0=true->x10=.map (some kA)/\w0.heap.size<=kA/\Mp kA (a2.toNat+a5.toNat) (Tk a2 1099511627776 a5 s) w
 B:b7=true->x15=.map (some kB)/\w0.heap.size<=kB/\Mp kB (b9.toNat+b12.toNat) (Tk b9 0 b12 c) w
 C:q14=true->x20=.map (some kC)/\w0.heap.size<=kC/\Mp kC q16.toNat (Tk false 0 q16 1099511627776) w
 A6:a6=true->x14=.map (some kA)/\a0=true/\a2=true/\a5=true
 B13:b13=true->x19=.map (some kB)/\b7=true/\b9=true/\b12=true
 C17:q17=true->x22=.map (some kC)/\q14=true/\q16=true
 E:e18=true->x23=.agg #[.map (some kA),.map (some kB),.map (some kC)]/\a6=true/\b13=true/\q17=true
 D:d19=true->x7=.pointer (some ⟨kD,0,none⟩)/\w0.heap.size<=kD/\AN kD (bif z20 then [.map (some kA),.map (some kB),.map (some kC)]else [.map none,.map none,.map none]) w
 va:a2=true∨a5=true->a0=true
 vb:b9=true∨b12=true->b7=true
 vc:q16=true->q14=true
 Z:z20=true->e18=true/\d19=true
 AB:a0=true->b7=true->kA≠kB
 AC:a0=true->q14=true->kA≠kC
 BC:b7=true->q14=true->kB≠kC
 AD:a0=true->d19=true->kA≠kD
 BD:b7=true->d19=true->kB≠kD
 CD:q14=true->d19=true->kC≠kD
end
section
def AF(F:Nat->Nat->Int)(k m:Nat):Int->Int->Int:=fun a b=>if 0<=a/\0<=b/\b<=a/\(a<(k:Int)+1∨(a=(k:Int)+1/\b<(m:Int))∨(a=1/\b=1))then F a.toNat b.toNat else 0
def low(F:Nat->Nat->Int)(k m:Nat):Int:=if 1<=k/\m+1<=k then F (k-1) m else 0
theorem LP(F:Nat->Nat->Int){k m:Nat}(h:m<k+1):AF F k m ((k:Int)+1-1) (m:Int)=F k m:=by
 unfold AF
 rw[if_pos ⟨by omega,by omega,by omega,by omega⟩,show((k:Int)+1-1).toNat=k by omega,Zq]
theorem JC(F:Nat->Nat->Int)(k m:Nat):AF F k m ((k:Int)+1-2) (m:Int)=low F k m:=by
 unfold AF low
 by_cases h:1<=k/\m+1<=k
 ·rw[if_pos h,if_pos ⟨by omega,by omega,by omega,by omega⟩,show((k:Int)+1-2).toNat=k-1 by omega,Zq]
 ·rw[if_neg h,if_neg (by omega)]
theorem LQ(F:Nat->Nat->Int)(k:Nat):AF F k (k+1) ((k:Int)+1-1) ((k:Int)+1-1)=F k k:=by
 unfold AF
 rw[if_pos ⟨by omega,by omega,by omega,by omega⟩,show((k:Int)+1-1).toNat=k by omega]
theorem Im(F:Nat->Nat->Int){k m:Nat}(h:m<k+1)(a b:Int):AR (AF F k m) ((k:Int)+1) (m:Int) (F (k+1) m) a b=AF F k (m+1) a b:=by
 unfold AR AF
 by_cases e:a=(k:Int)+1/\b=(m:Int)
 ·obtain⟨rfl,rfl⟩:=e
  rw[if_pos ⟨rfl,rfl⟩,if_pos ⟨by omega,by omega,by omega,by omega⟩,show((k:Int)+1).toNat=k+1 by omega,Zq]
 ·rw[if_neg e]
  by_cases q:0<=a/\0<=b/\b<=a/\(a<(k:Int)+1∨(a=(k:Int)+1/\b<(m:Int))∨(a=1/\b=1))
  ·rw[if_pos q,if_pos (by omega)]
  ·rw[if_neg q,if_neg (by omega)]
theorem Af6(F:Nat->Nat->Int)(k:Nat)(z:F (k+1) 0=0)(a b:Int):AF F k 0 a b=AF F k 1 a b:=by
 unfold AF
 by_cases e:a=(k:Int)+1/\b=0
 ·obtain⟨rfl,rfl⟩:=e
  rw[if_neg (by omega),if_pos (by omega),show((k:Int)+1).toNat=k+1 by omega]
  exact z.symm
 ·by_cases q:0<=a/\0<=b/\b<=a/\(a<(k:Int)+1∨(a=(k:Int)+1/\b<((0:Nat):Int))∨(a=1/\b=1))
  ·rw[if_pos q,if_pos (by omega)]
  ·rw[if_neg q,if_neg (by omega)]
theorem LR(F:Nat->Nat->Int)(k:Nat)(a b:Int):AR (AF F k (k+1)) ((k:Int)+1) ((k:Int)+1) (F (k+1) (k+1)) a b=AF F (k+1) 0 a b:=by
 unfold AR AF
 by_cases e:a=(k:Int)+1/\b=(k:Int)+1
 ·obtain⟨rfl,rfl⟩:=e
  rw[if_pos ⟨rfl,rfl⟩,if_pos (by omega),show((k:Int)+1).toNat=k+1 by omega]
 ·rw[if_neg e]
  by_cases q:0<=a/\0<=b/\b<=a/\(a<(k:Int)+1∨(a=(k:Int)+1/\b<((k+1:Nat):Int))∨(a=1/\b=1))
  ·rw[if_pos q,if_pos (by omega)]
  ·rw[if_neg q,if_neg (by omega)]
theorem OU(F:Nat->Nat->Int){k:Nat}(h:¬((k:Int)+1>1))(a b:Int):AF F k (k+1) a b=AF F (k+1) 0 a b:=by
 obtain rfl:k=0:=by omega
 unfold AF
 by_cases q:0<=a/\0<=b/\b<=a/\(a<((0:Nat):Int)+1∨(a=((0:Nat):Int)+1/\b<((0+1:Nat):Int))∨(a=1/\b=1))
 ·rw[if_pos q,if_pos (by omega)]
 ·rw[if_neg q,if_neg (by omega)]
theorem Aop(F:Nat->Nat->Int){n m:Nat}(h:m<=n)(h6:n<=6):AF F 6 0 (n:Int) (m:Int)=F n m:=by
 unfold AF
 rw[if_pos (by omega),Zq,Zq]
theorem LS(F:Nat->Nat->Int){x y:Int}(h0:F 0 0=x)(h1:F 1 1=y)(a b:Int):Tk true x true y a b=AF F 0 0 a b:=by
 unfold Tk AF
 by_cases e:a=1/\b=1
 ·obtain⟨rfl,rfl⟩:=e
  rw[if_pos ⟨rfl,rfl,rfl⟩,if_pos (by omega)]
  exact h1.symm
 ·rw[if_neg (fun h=>e h.2)]
  by_cases g:a=0/\b=0
  ·obtain⟨rfl,rfl⟩:=g
   rw[if_pos ⟨rfl,rfl,rfl⟩,if_pos (by omega)]
   exact h0.symm
  ·rw[if_neg (fun h=>g h.2),if_neg (by omega)]
theorem Aoq(x y:Int)(a b:Int):Tk false x true y a b=Tk true 0 true y a b:=by
 unfold Tk
 simp
structure Tri(c s:Int)(P D Q:Nat->Nat->Int):Type where
 p0:P 0 0=1099511627776
 d0:D 0 0=0
 q0:Q 0 0=0
 p1:P 1 1=s
 d1:D 1 1=c
 q1:Q 1 1=1099511627776
 qz:∀n,n<=6->Q n 0=0
 (ga gb:Nat->Nat->Int)
 R:∀k m:Nat,k<6->m<k+1->V5 ((k:Int)+1) (m:Int) (ga k m) (gb k m)
 T:∀k m:Nat,k<6->m<k+1->Af4 c s (gb k m) (ga k m) (P k m) (D k m) (low P k m) (low D k m) (P (k+1) m) (D (k+1) m)
 U:∀k m:Nat,k<6->m<k+1->Af5 c (gb k m) (ga k m) (Q k m) (low Q k m) (Q (k+1) m)
 J:∀k:Nat,1<=k->k<6->AE1 ((k:Int)+1) c s (P k k) (D k k) (Q k k) (P (k+1) (k+1)) (D (k+1) (k+1)) (Q (k+1) (k+1))
 ip:∀n m:Nat,n<=6->Cq (P n m)
 id:∀n m:Nat,n<=6->Cq (D n m)
 iq:∀n m:Nat,n<=6->Cq (Q n m)
def AO(F:Nat->Nat->Int)(k m:Nat)(i:Nat):Int:=if i % 7<=i / 7/\(i / 7<k+1∨(i / 7=k+1/\i % 7<m))then F (i / 7) (i % 7)else 0
theorem LU(F:Nat->Nat->Int){k m:Nat}(h:m<k+1)(h6:k<6):AO F k m (k*7+m)=F k m:=by
 unfold AO
 rw[show(k*7+m) / 7=k by omega,show(k*7+m) % 7=m by omega,if_pos (by omega)]
theorem Yq(F:Nat->Nat->Int){k j m:Nat}(h:m<k+1)(h6:k<6)(hj:k=j+1):AO F k m (j*7+m)=low F k m:=by
 subst hj
 unfold AO low
 rw[show(j*7+m) / 7=j by omega,show(j*7+m) % 7=m by omega,show j+1-1=j by omega]
 by_cases g:m<=j
 ·rw[if_pos (by omega),if_pos (by omega)]
 ·rw[if_neg (by omega),if_neg (by omega)]
theorem Aor(F:Nat->Nat->Int){k m:Nat}(h:¬1<=k):low F k m=0:=if_neg (fun g=>h g.1)
theorem OV(F:Nat->Nat->Int){k m:Nat}(h:m<k+1)(h6:k<6):updF (AO F k m) ((k+1)*7+m) (F (k+1) m)=AO F k (m+1):=by
 funext i
 unfold updF AO
 by_cases e:i=(k+1)*7+m
 ·rw[if_pos e,e,show((k+1)*7+m) / 7=k+1 by omega,show((k+1)*7+m) % 7=m by omega,if_pos (by omega)]
 ·rw[if_neg e]
  by_cases q:i % 7<=i / 7/\(i / 7<k+1∨(i / 7=k+1/\i % 7<m))
  ·rw[if_pos q,if_pos (by omega)]
  ·rw[if_neg q,if_neg (by omega)]
theorem Af7(F:Nat->Nat->Int){k:Nat}(h6:k<6):AO F k (k+1) (k*7+k)=F k k:=by
 unfold AO
 rw[show(k*7+k) / 7=k by omega,show(k*7+k) % 7=k by omega,if_pos (by omega)]
theorem IJ(F:Nat->Nat->Int){k:Nat}(h6:k<6):updF (AO F k (k+1)) ((k+1)*7+(k+1)) (F (k+1) (k+1))=AO F (k+1) 0:=by
 funext i
 unfold updF AO
 by_cases e:i=(k+1)*7+(k+1)
 ·by_cases k6:k+1<7
  ·rw[if_pos e,e,show((k+1)*7+(k+1)) / 7=k+1 by omega,show((k+1)*7+(k+1)) % 7=k+1 by omega,if_pos (by omega)]
  ·omega
 ·rw[if_neg e]
  by_cases q:i % 7<=i / 7/\(i / 7<k+1∨(i / 7=k+1/\i % 7<k+1))
  ·rw[if_pos q,if_pos (by omega)]
  ·rw[if_neg q,if_neg (by omega)]
theorem OW(F:Nat->Nat->Int){k:Nat}(h:k=0){v:Int}(hv:F 1 1=v):updF (AO F k (k+1)) 8 v=AO F (k+1) 0:=by
 subst h hv
 exact IJ F (k:=0) (by decide)
theorem Yr(F:Nat->Nat->Int){v:Int}(hv:F 0 0=v):updF (fun _=>0) 0 v=AO F 0 0:=by
 subst hv
 funext i
 unfold updF AO
 by_cases e:i=0
 ·rw[if_pos e,e];rfl
 ·rw[if_neg e,if_neg (by omega)]
theorem Q5(F:Nat->Nat->Int)(hv:F 0 0=0):(fun _=>(0:Int))=AO F 0 0:=by
 funext i
 unfold AO
 by_cases e:i=0
 ·rw[e];exact hv.symm
 ·rw[if_neg (by omega)]
theorem OX(F:Nat->Nat->Int){n m:Nat}(h:m<=n)(h6:n<=6):AO F 6 0 (n*7+m)=F n m:=by
 unfold AO
 rw[show(n*7+m) / 7=n by omega,show(n*7+m) % 7=m by omega,if_pos (by omega)]
def CY(g:Nat->Int)(j:Nat):Nat->Int:=fun i=>if i<=j then g i else 0
theorem OY(g:Nat->Int)(j:Nat):updF (CY g j) (j+1) (g (j+1))=CY g (j+1):=by
 funext i
 unfold updF CY
 by_cases e:i=j+1
 ·rw[if_pos e,if_pos (by omega),e]
 ·rw[if_neg e]
  by_cases q:i<=j
  ·rw[if_pos q,if_pos (by omega)]
  ·rw[if_neg q,if_neg (by omega)]
theorem Q6(g:Nat->Int)(j:Nat):updF (CY (fun i=>g (7+i)) j) (j+1) (g (8+j))=CY (fun i=>g (7+i)) (j+1):=by
 have h:=OY (fun i=>g (7+i)) j
 rw[show g (7+(j+1))=g (8+j)by rw[show 7+(j+1)=8+j by omega]]at h
 exact h
theorem IK(g:Nat->Int){i j:Nat}(h:i<=j):CY g j i=g i:=if_pos h
theorem OZ(g:Nat->Int){v:Int}(hv:g 0=v):updF (fun _=>0) 0 v=CY g 0:=by
 subst hv
 funext i
 unfold updF CY
 by_cases e:i=0
 ·rw[if_pos e,if_pos (by omega),e]
 ·rw[if_neg e,if_neg (by omega)]
theorem Q7(g:Nat->Int)(hv:g 0=0):(fun _=>(0:Int))=CY g 0:=by
 funext i
 unfold CY
 by_cases e:i<=0
 ·rw[if_pos e,show i=0 by omega,hv]
 ·rw[if_neg e]
open Go.RowKit
def Aos:Ct Zm:=Ak Zm 70 (Ac cI (Aa cI)) (fun bad x=>AA bad x.1 x.2) cI (Ae Tryz.func70 (by kernel_rfl) (by kernel_rfl)) (fun b bad x w _ _ hw=>Oa b bad x.1 x.2 w hw)
def Aot:Ct Zm:=Ak Zm 71 (Aa cI) (fun bad x=>B5 bad x) cI (Ae Tryz.func71 (by kernel_rfl) (by kernel_rfl)) (fun b bad x w _ _ hw=>QL b bad x w hw)
def rkW(bad:Bool)(n m:Int):Int×Bool:=B5 bad (IntKind.i64.wrap (IntKind.i64.wrap (IntKind.i64.wrap (n*n)-IntKind.i64.wrap (m*m))*1099511627776))
def lxK:Ct Zm:=Ak Zm 256 (Ac cI (Aa cI)) (fun bad x=>rkW bad x.1 x.2) cI (Ae Tryz.func256 (by kernel_rfl) (by kernel_rfl)) (AZ (tbl:=[Aot]) (dirty:=fun _=>[]) (n:=2) xmixA Tryz.func256 rfl (fun bad x Post=>by kernel_rfl))
def O0:List (Ct Zm):=[OK,Te,Yo,KF,Aos,Aot,lxK]
def Ys(g:Nat->Int):List Value:=[.int .i64 (g 0),.int .i64 (g 1),.int .i64 (g 2),.int .i64 (g 3),.int .i64 (g 4),.int .i64 (g 5),.int .i64 (g 6),.int .i64 (g 7),.int .i64 (g 8),.int .i64 (g 9),.int .i64 (g 10),.int .i64 (g 11),.int .i64 (g 12),.int .i64 (g 13),.int .i64 (g 14),.int .i64 (g 15),.int .i64 (g 16),.int .i64 (g 17),.int .i64 (g 18),.int .i64 (g 19),.int .i64 (g 20),.int .i64 (g 21),.int .i64 (g 22),.int .i64 (g 23),.int .i64 (g 24),.int .i64 (g 25),.int .i64 (g 26),.int .i64 (g 27),.int .i64 (g 28),.int .i64 (g 29),.int .i64 (g 30),.int .i64 (g 31),.int .i64 (g 32),.int .i64 (g 33),.int .i64 (g 34),.int .i64 (g 35),.int .i64 (g 36),.int .i64 (g 37),.int .i64 (g 38),.int .i64 (g 39),.int .i64 (g 40),.int .i64 (g 41),.int .i64 (g 42),.int .i64 (g 43),.int .i64 (g 44),.int .i64 (g 45),.int .i64 (g 46),.int .i64 (g 47),.int .i64 (g 48)]
def lxA(fl:Bool)(n m:Int):(Int×Int)×Bool:=let k:=rkW fl n m;let j:=rkW k.2 (n-1) m;let a:=AA j.2 j.1 k.1;let p:=Af a.2 1099511627776 (2*n-1) 1;let b:=AA p.2 p.1 k.1;((a.1,b.1),b.2)
def lxP(fl:Bool)(c a b x y:Int):Int×Bool:=let v:=mulS fl c x;let u:=mulS v.2 b v.1;let z:=mulS u.2 a y;AJ z.2 u.1 z.1
def lxD(fl:Bool)(c s a b x1 x2 y2:Int):Int×Bool:=let v5:=mulS fl c x2;let v6:=mulS v5.2 s x1;let v7:=AJ v6.2 v5.1 v6.1;let v8:=mulS v7.2 b v7.1;let v9:=mulS v8.2 a y2;AJ v9.2 v8.1 v9.1
def TW(fl:Bool)(p d q:Nat->Int):Xm:=[[.bool fl],Ys (fun _=>0),Ys (fun _=>0),Ys (fun _=>0),Ys p,Ys d,Ys q]
def lxs:List Nat:=[0,1,2,6,7,8,9,10,11,12,13]
def lxG(c s n:Int)(v:Value)(d:Nat->Value):List Value:=Kl [(0,ptr 0),(1,.int .i64 c),(2,.int .i64 s),(6,ptr 1),(7,ptr 2),(8,ptr 3),(9,ptr 4),(10,ptr 5),(11,ptr 6),(12,.int .i64 n),(13,v)] d 239
def lxF(c s n m:Int)(d:Nat->Value):List Value:=lxG c s n (.int .i64 m) d
def lxE(c s n:Int)(d:Nat->Value):List Value:=vset ((((lxF c s n n d).set 30 (.int .i64 n)).set 31 (.int .i64 n)).set 32 (.bool false)) (.tmp 32) false
def lxH(c s n:Int)(v:Value)(d:Nat->Value):List Value:=vset (((lxG c s n v d).set 26 (.int .i64 n)).set 27 (.bool false)) (.tmp 27) false
def Q8:Ov:=fun id=>match id with
 |5=>some (Du Zm O0 (fun _=>[]) 5 lxs 239 7)
 |8=>some (Du Zm O0 (fun _=>[]) 8 lxs 239 7)
 |10=>some (Du Zm O0 (fun _=>[]) 10 lxs 239 7)
 |7=>some (Du Zm O0 (fun _=>[]) 7 lxs 239 7)
 |_=>none
def lxL(P:Program):Code:=Bd [true,true,true,true,true,false,true] (An P 187)
def lxX(P:Program):Code:=Bd [false,false] (lxL P)
def lxZ(P:Program):Code:=Bd [true,true,true,true,true,true] (An P 187)
def lxN(P:Program):Code:=Bd [true,false,false,false,true] (lxX P)
def lxY(P:Program):Code:=Bd [false,false] (lxN P)
def lxR(P:Program):Code:=Bd [true,false,false,true] (lxX P)
def lxU(P:Program):Code:=Bd [true,true] (lxX P)
def AE5(Q:VQ):VQ:=fun e vt m=>match e with
 | .normal=>Ao Zm O0 (fun _=>[]) 9 Q8 (lxU Zm) Q vt m
 |e=>Q e vt m
def AKp(Q:VQ):VQ:=fun e vt m=>match e with
 | .exit id'=>if id'=1 then AE5 Q .normal vt m else AE5 Q (.exit id') vt m
 |e=>AE5 Q e vt m
def AE6(Q:VQ):VQ:=fun e vt m=>match e with
 | .normal=>Ao Zm O0 (fun _=>[]) 9 Q8 (lxR Zm) (AKp Q) vt m
 |e=>AKp Q e vt m
def AOz(Q:VQ):VQ:=fun e vt m=>match e with
 | .normal=>Ao Zm O0 (fun _=>[]) 9 Q8 (lxZ Zm) Q vt m
 |e=>Q e vt m
def lxW(fl:Bool)(c s:Int)(n m:Nat)(p d q:Nat->Int):(Int×Int×Int)×Bool:=
 let r:=lxA fl n m
 let x:=lxP r.2 c r.1.1 r.1.2 (p ((n-1)*7+m)) (if 2<=n then p ((n-2)*7+m)else 0)
 let y:=lxD x.2 c s r.1.1 r.1.2 (p ((n-1)*7+m)) (d ((n-1)*7+m)) (if 2<=n then d ((n-2)*7+m)else 0)
 let z:=lxP y.2 c r.1.1 r.1.2 (q ((n-1)*7+m)) (if 2<=n then q ((n-2)*7+m)else 0)
 if 0<m then((x.1,y.1,z.1),z.2)else((x.1,y.1,q (n*7+m)),y.2)
def lxV(fl:Bool)(c s:Int)(n:Nat)(p d q:Nat->Int):(Int×Int×Int)×Bool:=
 if n=1 then((s,c,1099511627776),fl)else
 let r:=Af fl 1099511627776 (2*n-1) (2*n)
 let j:=B5 r.2 r.1
 let v1:=mulS j.2 s (p ((n-1)*7+(n-1)))
 let x:=mulS v1.2 j.1 v1.1
 let v3:=mulS x.2 s (d ((n-1)*7+(n-1)))
 let v4:=mulS v3.2 c (p ((n-1)*7+(n-1)))
 let v5:=Ap v4.2 v3.1 v4.1
 let y:=mulS v5.2 j.1 v5.1
 let v7:=mulS y.2 s (q ((n-1)*7+(n-1)))
 let z:=mulS v7.2 j.1 v7.1
 ((x.1,y.1,z.1),z.2)
theorem JD{n:Nat}(h:1<=n/\n<=6):n=1∨n=2∨n=3∨n=4∨n=5∨n=6:=by omega
theorem AKq{n m:Nat}(h:1<=n/\n<=6/\m<n)(c s:Int)(p d q:Nat->Int)(fl:Bool)(D:Nat->Value)(Q:VQ):Ao Zm O0 (fun _=>[]) 9 Q8 (lxY Zm) Q (lxF c s n m D) (TW fl p d q)=
    (239=239/\true=true/\∀D,Q .normal (lxF c s n ((m:Int)+1) D) (TW (lxW fl c s n m p d q).2 (updF p (n*7+m) (lxW fl c s n m p d q).1.1) (updF d (n*7+m) (lxW fl c s n m p d q).1.2.1) (updF q (n*7+m) (lxW fl c s n m p d q).1.2.2))):=by
 obtain⟨h1,h2,h3⟩:=h
 rcases JD ⟨h1,h2⟩with rfl |rfl |rfl |rfl |rfl |rfl
 ·obtain rfl:m=0:=by omega
  all_goals kernel_rfl
 ·obtain rfl |rfl:m=0∨m=1:=by omega
  all_goals kernel_rfl
 ·obtain rfl |rfl |rfl:m=0∨m=1∨m=2:=by omega
  all_goals kernel_rfl
 ·obtain rfl |rfl |rfl |rfl:m=0∨m=1∨m=2∨m=3:=by omega
  all_goals kernel_rfl
 ·obtain rfl |rfl |rfl |rfl |rfl:m=0∨m=1∨m=2∨m=3∨m=4:=by omega
  all_goals kernel_rfl
 ·obtain rfl |rfl |rfl |rfl |rfl |rfl:m=0∨m=1∨m=2∨m=3∨m=4∨m=5:=by omega
  all_goals kernel_rfl
theorem AE7{n:Nat}(h:1<=n/\n<=6)(c s:Int)(p d q:Nat->Int)(fl:Bool)(D:Nat->Value)(Q:VQ):Ao Zm O0 (fun _=>[]) 9 Q8 (lxY Zm) Q (lxF c s n n D) (TW fl p d q)=Q (.exit 2) (lxE c s n D) (TW fl p d q):=by
 rcases JD h with rfl |rfl |rfl |rfl |rfl |rfl<;>kernel_rfl
theorem AE8{n:Nat}(h:1<=n/\n<=6)(c s:Int)(v:Value)(p d q:Nat->Int)(fl:Bool)(D:Nat->Value)(Q:VQ):Ao Zm O0 (fun _=>[]) 9 Q8 (lxX Zm) Q (lxG c s n v D) (TW fl p d q)=
    (239=239/\true=true/\∀D,Ao Zm O0 (fun _=>[]) 9 Q8 (lxN Zm) (AE6 Q) (lxF c s n 0 D) (TW fl p d q)):=by
 rcases JD h with rfl |rfl |rfl |rfl |rfl |rfl<;>kernel_rfl
theorem AE9{n:Nat}(h:1<=n/\n<=6)(c s:Int)(p d q:Nat->Int)(fl:Bool)(D:Nat->Value)(Q:VQ):AE6 Q .normal (lxE c s n D) (TW fl p d q)=
    (239=239/\true=true/\∀D,Q .normal (lxG c s ((n:Int)+1) (.int .i64 n) D) (TW (lxV fl c s n p d q).2 (updF p (n*7+n) (lxV fl c s n p d q).1.1) (updF d (n*7+n) (lxV fl c s n p d q).1.2.1) (updF q (n*7+n) (lxV fl c s n p d q).1.2.2))):=by
 rcases JD h with rfl |rfl |rfl |rfl |rfl |rfl<;>kernel_rfl
theorem AFa(c s:Int)(v:Value)(p d q:Nat->Int)(fl:Bool)(D:Nat->Value)(Q:VQ):Ao Zm O0 (fun _=>[]) 9 Q8 (lxX Zm) Q (lxG c s 7 v D) (TW fl p d q)=Q (.exit 0) (lxH c s 7 v D) (TW fl p d q):=by kernel_rfl
theorem Aou(c s:Int)(fl:Bool)(Q:VQ):Ao Zm O0 (fun _=>[]) 9 Q8 (An Zm 187) Q ([ptr 0,.int .i64 c,.int .i64 s]++Zt ((Ba Zm 187).ntmps-3) undef) [[.bool fl]]=
    (239=239/\true=true/\∀D,Ao Zm O0 (fun _=>[]) 9 Q8 (lxL Zm) (AOz Q) (lxG c s 1 undef D) (TW fl (updF (fun _=>0) 0 1099511627776) (fun _=>0) (fun _=>0))):=by kernel_rfl
theorem Axb(c s n:Int)(v:Value)(p d q:Nat->Int)(fl:Bool)(D:Nat->Value)(Post:Value->Option Bool->Prop):Ao Zm O0 (fun _=>[]) 9 Q8 (lxZ Zm) (Bz Zm (Ba Zm 187) (fun v m=>Post v (Ck m))) (lxH c s n v D) (TW fl p d q)=
    Post (.tuple #[.agg (Ys p).toArray,.agg (Ys d).toArray,.agg (Ys q).toArray]) (some fl):=by kernel_rfl
def lxB(i:Nat)(Q:VQ):VQ:=fun e vt m=>match e with
 | .exit id'=>if id'=i then Q .normal vt m else Q (.exit id') vt m
 |e=>Q e vt m
theorem Aov(Q:VQ)(vt:List Value)(m:Xm):Ao Zm O0 (fun _=>[]) 9 Q8 (lxN Zm) Q vt m=AS 9 (Ao Zm O0 (fun _=>[]) 9 Q8 (lxY Zm)) (lxB 2 Q) vt m:=by kernel_rfl
theorem Aow(Q:VQ)(vt:List Value)(m:Xm):Ao Zm O0 (fun _=>[]) 9 Q8 (lxL Zm) Q vt m=AS 9 (Ao Zm O0 (fun _=>[]) 9 Q8 (lxX Zm)) (lxB 0 Q) vt m:=by kernel_rfl
theorem Aox(bad:Bool){n m:Int}(n0:0<=n)(n6:n<=6)(m0:0<=m)(m6:m<=6):rkW bad n m=FF bad n m:=by
 obtain rfl |rfl |rfl |rfl |rfl |rfl |rfl:n=0∨n=1∨n=2∨n=3∨n=4∨n=5∨n=6:=by omega
 all_goals (obtain rfl |rfl |rfl |rfl |rfl |rfl |rfl:m=0∨m=1∨m=2∨m=3∨m=4∨m=5∨m=6:=by omega)
 all_goals exact congrArg (B5 bad) (by decide)
section
variable {c s:Int} {P D Q:Nat->Nat->Int}
theorem AFb(Z:Tri c s P D Q){k m:Nat}(hk:k<6)(hm:m<k+1):lxA false ((k+1:Nat):Int) (m:Int)=((Z.ga k m,Z.gb k m),false):=by
 have R:=Z.R k m hk hm
 have e:((k+1:Nat):Int)=(k:Int)+1:=by omega
 unfold lxA
 rw[e,Aox false (by omega) (by omega) (by omega) (by omega)]
 simp only[R.h1]
 rw[Aox false (by omega) (by omega) (by omega) (by omega)]
 simp only[R.h2,R.h3,R.h4,R.h5]
theorem Yt(F:Nat->Nat->Int){k m:Nat}(hk:k<6)(hm:m<k+1):(if 2<=k+1 then AO F k m ((k+1-2)*7+m)else 0)=low F k m:=by
 cases k with
 |zero=>rw[if_neg (by omega),Aor F (by omega)]
 |succ j=>
  rw[if_pos (by omega)]
  exact Yq F hm hk rfl
theorem AFc(Z:Tri c s P D Q){k m:Nat}(hk:k<6)(hm:m<k+1):lxW false c s (k+1) m (AO P k m) (AO D k m) (AO Q k m)=((P (k+1) m,D (k+1) m,Q (k+1) m),false):=by
 have T:=Z.T k m hk hm
 have U:=Z.U k m hk hm
 unfold lxW
 rw[AFb Z hk hm]
 dsimp only
 rw[Yt P hk hm,Yt D hk hm,Yt Q hk hm,show k+1-1=k from rfl,LU P hm hk,LU D hm hk,LU Q hm hk]
 unfold lxP lxD
 simp only[T.h1,T.h2,T.h3,T.h4,T.h5,T.h6,T.h7,T.h8,T.h9,T.h10,U.h1,U.h2,U.h3,U.h4]
 split
 ·rfl
 ·rename_i h0
  have e:m=0:=by omega
  subst e
  rw[Z.qz (k+1) (by omega),show AO Q k 0 ((k+1)*7+0)=0 by unfold AO;rw[if_neg (by omega)]]
theorem AFd(Z:Tri c s P D Q){k:Nat}(hk:k<6):∃x y z,lxV false c s (k+1) (AO P k (k+1)) (AO D k (k+1)) (AO Q k (k+1))=((x,y,z),false)/\updF (AO P k (k+1)) ((k+1)*7+(k+1)) x=AO P (k+1) 0/\updF (AO D k (k+1)) ((k+1)*7+(k+1)) y=AO D (k+1) 0/\updF (AO Q k (k+1)) ((k+1)*7+(k+1)) z=AO Q (k+1) 0:=by
 cases k with
 |zero=>exact⟨s,c,1099511627776,rfl,OW P rfl Z.p1,OW D rfl Z.d1,OW Q rfl Z.q1⟩
 |succ j=>
  have J:=Z.J (j+1) (by omega) hk
  refine⟨_,_,_,?_,IJ P hk,IJ D hk,IJ Q hk⟩
  have e:((j+1+1:Nat):Int)=((j+1:Nat):Int)+1:=by omega
  unfold lxV
  rw[if_neg (by omega)]
  simp only[e,show j+1+1-1=j+1 from rfl,Af7 _ hk,J.hp,J.hj,J.h1,J.h2,J.h3,J.h4,J.h5,J.h6,J.h7,J.h8]
theorem V9(Z:Tri c s P D Q){k:Nat}(hk:k<6)(Q':VQ)(hQ:∀d,Q' (.exit 2) (lxE c s (k+1:Nat) d) (TW false (AO P k (k+1)) (AO D k (k+1)) (AO Q k (k+1)))):
    ∀(r m f:Nat),m+r=k+1->r<f->∀d,AS f (Ao Zm O0 (fun _=>[]) 9 Q8 (lxY Zm)) Q' (lxF c s (k+1:Nat) m d) (TW false (AO P k m) (AO D k m) (AO Q k m))
 |r,m,0,_,hf,_=>by omega
 |0,m,f+1,hm,_,d=>by
  have e:m=k+1:=by omega
  subst e
  rw[AS,AE7 (by omega)]
  exact hQ d
 |r+1,m,f+1,hm,hf,d=>by
  have hm':m<k+1:=by omega
  rw[AS,AKq (by omega),AFc Z hk hm']
  refine⟨rfl,rfl,fun d'=>?_⟩
  dsimp only
  rw[OV P hm' hk,OV D hm' hk,OV Q hm' hk]
  exact V9 Z hk Q' hQ r (m+1) f (by omega) (by omega) d'
theorem Wa(Z:Tri c s P D Q)(Q':VQ)(hQ:∀v d,Q' (.exit 0) (lxH c s 7 v d) (TW false (AO P 6 0) (AO D 6 0) (AO Q 6 0))):
    ∀(r k f:Nat),k+r=6->r<f->∀v d,AS f (Ao Zm O0 (fun _=>[]) 9 Q8 (lxX Zm)) Q' (lxG c s (k+1:Nat) v d) (TW false (AO P k 0) (AO D k 0) (AO Q k 0))
 |r,k,0,_,hf,_,_=>by omega
 |0,k,f+1,hk,_,v,d=>by
  have e:k=6:=by omega
  subst e
  rw[AS]
  have:=AFa c s v (AO P 6 0) (AO D 6 0) (AO Q 6 0) false d
  rw[show((6+1:Nat):Int)=7 from rfl,this]
  exact hQ v d
 |r+1,k,f+1,hk,hf,v,d=>by
  have hk':k<6:=by omega
  rw[AS,AE8 (by omega)]
  refine⟨rfl,rfl,fun d1=>?_⟩
  rw[Aov]
  refine V9 Z hk' _ (fun d2=>?_) (k+1) 0 9 (by omega) (by omega) d1
  obtain⟨x,y,z,hV,e1,e2,e3⟩:=AFd Z hk'
  show AE6 _ .normal _ _
  rw[AE9 (by omega),hV]
  refine⟨rfl,rfl,fun d3=>?_⟩
  dsimp only
  rw[e1,e2,e3]
  exact Wa Z Q' hQ r (k+1) f (by omega) (by omega) _ d3
end
theorem AKr(B:Nat)(w:World):D5 Zm Q8 [B] w [] [some B] (An Zm 187):=by
 refine CV (ns:=[(5,Cg Zm 187 5,false),(8,Cg Zm 187 8,false),(10,Cg Zm 187 10,false),(7,Cg Zm 187 7,false)]) (by kernel_rfl) ?_
 intro r hr
 simp only[List.mem_cons,List.not_mem_nil,or_false]at hr
 rcases hr with rfl |rfl |rfl |rfl
 all_goals
  intro R hR K Q bl vt m a w h r hK
  cases hR
  exact By xmixA (show 1<=7 by decide) h r hK
section
variable {P:Program} {tbl:List (Ct P)} {dirty:Nat->List Nat} {n:Nat} {ov:Ov}
theorem Fc(hm:P.follows .mixedOrders=true){f:Nat}(hf:P.funcs[f]? =some (Ba P f))(hb:(Ba P f).body=some (An P f)){A:Type}{d:Dl A}{bad bad':Bool}{x:A}{u:Value}
    (ho:∀b w,D5 P ov [b] w [] [some b] (An P f)) (h:Ao P tbl dirty n ov (An P f) (Bz P (Ba P f) (fun v m=>v=u/\Ck m=some bad')) ((ptr 0::d.enc x)++Zt ((Ba P f).ntmps-(ptr 0::d.enc x).length) undef) [[.bool bad]]) (b:Nat) (w:World) (hg:GW w) (hb1:1<b) (hw:Fl b bad w):
    Calls P f (ptr b::d.enc x).toArray w fun e w'=>e=.returned u/\Fl b bad' w'/\Ad b w w':=by
 have R:RW [b] w [some b] [[.bool bad]] w:=by
  refine⟨fun i B hi=>?_,fun i j B hi hj=>?_,fun i B hi=>?_,rfl,rfl,rfl,Zv _,fun _ _ _=>rfl,hg,by simpa using hb1⟩
  ·match i,hi with
   |0,hi=>cases hi;exact⟨_,rfl,NH hw⟩
  ·match i,j,hi,hj with
   |0,0,_,_=>rfl
  ·match i,hi with
   |0,hi=>cases hi;exact .inl List.mem_cons_self
 refine Calls.mono (F8 hm hf hb (vargs:=ptr 0::d.enc x) R rfl (by simp) (fun i=>?_) (ho b w) h) ?_
 ·cases i with
  |zero=>exact⟨b,rfl,rfl⟩
  | succ i=>
   by_cases hi:i<(d.enc x).length
   ·have:=d.np x _ (Zx hi)
    simp only[Zp,Zo]
    simp[hi]
    exact .same this
   ·simp only[Zp,Zo]
    simp[hi]
    rfl
 ·rintro e w' ⟨v,bl',m2,rfl,⟨rfl,h2⟩,R',hle⟩
  obtain⟨l,e,A⟩:=R'.arr 0 b (hle 0 b rfl)
  rw[Fv h2]at e
  cases e
  exact⟨rfl,Hn A,R'.os,R'.tape,R'.output,R'.size,fun i hi hb=>R'.block i hi (by simpa using hb)⟩
end
theorem Axd(b:Nat)(c s:Int)(P D Q:Nat->Nat->Int)(Z:Tri c s P D Q)(w:World)(hw:Fl b false w)(hg:GW w)(hb:1<b):
    Calls Zm 187 #[.pointer (some ⟨b,0,none⟩),.int .i64 c,.int .i64 s] w fun e w'=>e=.returned (.tuple #[.agg (row 49 (AO P 6 0)).toArray,.agg (row 49 (AO D 6 0)).toArray,.agg (row 49 (AO Q 6 0)).toArray])/\Fl b false w'/\Ad b w w':=by
 refine Fc (d:=Ac cI (Aa cI)) (x:=(c,s)) (tbl:=O0) (dirty:=fun _=>[]) (n:=9) (ov:=Q8) xmixA (by kernel_rfl) (by kernel_rfl) AKr ?_ b w hg hb hw
 show Ao Zm O0 (fun _=>[]) 9 Q8 (An Zm 187) _ ([ptr 0,.int .i64 c,.int .i64 s]++Zt ((Ba Zm 187).ntmps-3) undef) [[.bool false]]
 rw[Aou]
 refine⟨rfl,rfl,fun d=>?_⟩
 have e:TW false (updF (fun _=>0) 0 1099511627776) (fun _=>0) (fun _=>0)=TW false (AO P 0 0) (AO D 0 0) (AO Q 0 0):=by rw[Yr P Z.p0,<-Q5 D Z.d0,<-Q5 Q Z.q0]
 rw[Aow,e]
 refine Wa Z _ (fun v d'=>?_) 6 0 9 rfl (by decide) undef d
 exact Eq.mpr (Axb c s 7 v (AO P 6 0) (AO D 6 0) (AO Q 6 0) false d' (fun v f=>v=_/\f=_)) ⟨rfl,rfl⟩
def AKs(P:Program)(fn:Nat){A R:Type}(d:Dl A)(S:Bool->A->Prop)(g:Bool->A->R×Bool)(c:Dc R)(go:∀(args:Array Value) (w:World),(callFunc fn args).run P w=.ok (.enter fn args) w)
    (h:∀b bad x w,S bad x->GW w->1<b->Fl b bad w->Calls P fn (ptr b::d.enc x).toArray w fun e w'=>e=.returned (c.enc (g bad x).1)/\Fl b (g bad x).2 w'/\Ad b w w'):Ct P where
 fn:=fn
 sp:=fun args m K=>match args with
  | .pointer (some ⟨k,0,none⟩)::rest=>(match d.dec rest,m[k]? with
   |some x,some [.bool bad]=>S bad x/\K (c.enc (g bad x).1) (m.set k [.bool (g bad x).2])
   |_,_=>False)
  |_=>False
 go:=go
 mono:=fun hK hs=>by
  split at hs
  ·split at hs
   ·exact⟨hs.1,hK _ _ hs.2⟩
   ·exact hs
  ·exact hs
 keep:=fun{args m K} hs=>by
  split at hs
  ·rename_i k rest
   split at hs
   ·refine⟨hs.1,hs.2,List.length_set ..,fun k' hk'=>?_⟩
    have e:k≠k':=by rintro rfl;exact hk' (by simp[Hb])
    rw[List.getElem?_set_ne e]
   ·exact hs
  ·exact hs
 ok :=fun{bs w0 bl m w args args' K} R hlen hv hs=>by
  split at hs
  ·rename_i k rest
   split at hs
   ·rename_i x bad hd hmk
    obtain⟨hS,hs⟩:=hs
    have h0:=hv 0
    obtain⟨B,hB,he⟩:=h0
    have hrest:=d.law _ _ hd
    have hargs:args'=(ptr B::d.enc x).toArray:=by
     refine Array.ext (by rw[hlen,hrest];simp) (fun i h1 h2=>?_)
     cases i with
     |zero=>
      simp only[Zo,Array.getElem?_eq_getElem h1]at he
      simpa [ptr]using he
     |succ i=>
      have hi:i<rest.length:=by simp at hlen;omega
      have:=hv (i+1)
      simp only[Zp,Zo,List.getElem?_cons_succ]at this
      rw[List.getElem?_eq_getElem hi,Array.getElem?_eq_getElem h1]at this
      have e:=this.plain (d.np x _ (by rw[<-hrest];exact Zx hi))
      simp only[Option.getD_some]at e
      rw[e]
      simp[hrest]
    obtain⟨l2,e2,A⟩:=R.arr k B hB
    have e2:m[k]? =some l2:=e2
    rw[hmk]at e2
    cases e2
    rw[hargs]
    refine Calls.mono (h B bad x w hS R.gwAt (R.gt hB hmk (List.cons_ne_nil _ _)) (Hn A)) ?_
    rintro e w' ⟨rfl,F,Kp⟩
    exact⟨_,_,_,rfl,.same (c.np _),hs,R.flow hB hmk F Kp⟩
   ·exact hs.elim
  ·exact hs.elim
def Axe(P:Program)(fn:Nat){A R:Type}(d:Dl A)(S:A->Prop)(g:A->R)(c:Dc R)(go:∀(args:Array Value) (w:World),(callFunc fn args).run P w=.ok (.enter fn args) w)
    (h:∀x w,S x->GW w->Calls P fn (d.enc x).toArray w fun e w'=>e=.returned (c.enc (g x))/\Below w.heap.size w w'):Ct P where
 fn:=fn
 sp:=fun args m K=>match d.dec args with
  |some x=>S x/\K (c.enc (g x)) m
  |none=>False
 go:=go
 mono:=fun hK hs=>by
  split at hs
  ·exact⟨hs.1,hK _ _ hs.2⟩
  ·exact hs
 keep:=fun{args m K} hs=>by
  split at hs
  ·exact⟨hs.1,hs.2,rfl,fun _ _=>rfl⟩
  ·exact hs
 ok:=fun{bs w0 bl m w args args' K} R hlen hv hs=>by
  split at hs
  ·rename_i x hd
   have hl:=d.law _ _ hd
   rw[FW hlen hv (by rw[hl];exact d.np x),hl]
   refine Calls.mono (h x w hs.1 R.gwAt) ?_
   rintro e w' ⟨rfl,Kp⟩
   exact⟨_,_,_,rfl,.same (c.np _),hs.2,R.pure Kp⟩
  ·exact hs.elim
def AO0(v:Value)(h:isP v=false):Dc Unit where
 enc _:=v
 dec _:=none
 law _ _ h:=by cases h
 np _:=h
theorem Aoy(N M:Nat)(w:World)(h1:1<=N)(h6:N<=6)(hm:M<=N):Calls Zm 257 #[.int .i64 (N:Int),.int .i64 (M:Int)] w fun e w'=>e=.returned (.tuple #[.int .i64 (Eu (nIdx N M*2)),.int .i64 (Eu (nIdx N M*2+1))])/\Below w.heap.size w w':=by
 obtain⟨x,hx⟩:∃x,Hid (x=Eu (nIdx N M*2)):=⟨_,rfl⟩
 obtain⟨y,hy⟩:∃y,Hid (y=Eu (nIdx N M*2+1)):=⟨_,rfl⟩
 rw[<-hx.out,<-hy.out]
 have c:(N=1/\(M=0∨M=1))∨(N=2/\(M=0∨M=1∨M=2))∨(N=3/\(M=0∨M=1∨M=2∨M=3))∨(N=4/\(M=0∨M=1∨M=2∨M=3∨M=4))∨(N=5/\(M=0∨M=1∨M=2∨M=3∨M=4∨M=5))∨(N=6/\(M=0∨M=1∨M=2∨M=3∨M=4∨M=5∨M=6)):=by omega
 rcases c with⟨rfl,rfl |rfl⟩|⟨rfl,rfl |rfl |rfl⟩|⟨rfl,rfl |rfl |rfl |rfl⟩|⟨rfl,rfl |rfl |rfl |rfl |rfl⟩|⟨rfl,rfl |rfl |rfl |rfl |rfl |rfl⟩|⟨rfl,rfl |rfl |rfl |rfl |rfl |rfl |rfl⟩
 all_goals
  go_enter Tryz.func257,Tryz.ntmps257
  go_wp2
  refine bodyPost_ret (v:=.tuple #[.int .i64 x,.int .i64 y]) (by rw[hx.out,hy.out];simp[results,Tryz.results257,go_sem,Eu,AIz,nIdx]) rfl ?_
  exact⟨rfl,Below.refl _ _⟩
theorem Af8(N M:Nat)(w:World)(h1:1<=N)(h2:N<=2)(hm:M<=N):Calls Zm 258 #[.int .i64 (N:Int),.int .i64 (M:Int)] w fun e w'=>e=.returned (.tuple #[.int .i64 (Gk (nIdx N M*2)),.int .i64 (Gk (nIdx N M*2+1))])/\Below w.heap.size w w':=by
 obtain⟨x,hx⟩:∃x,Hid (x=Gk (nIdx N M*2)):=⟨_,rfl⟩
 obtain⟨y,hy⟩:∃y,Hid (y=Gk (nIdx N M*2+1)):=⟨_,rfl⟩
 rw[<-hx.out,<-hy.out]
 have c:(N=1/\(M=0∨M=1))∨(N=2/\(M=0∨M=1∨M=2)):=by omega
 rcases c with⟨rfl,rfl |rfl⟩|⟨rfl,rfl |rfl |rfl⟩
 all_goals
  go_enter Tryz.func258,Tryz.ntmps258
  go_wp2
  refine bodyPost_ret (v:=.tuple #[.int .i64 x,.int .i64 y]) (by rw[hx.out,hy.out];simp[results,Tryz.results258,go_sem,Gk,AI0,nIdx]) rfl ?_
  exact⟨rfl,Below.refl _ _⟩
structure Ab(x K:Int):Prop where
 lo:-K<=x
 hi:x<=K
theorem Ab.add{x y K L:Int}(h:Ab x K)(k:Ab y L):Ab (x+y) (K+L):=⟨by have:=h.lo;have:=k.lo;omega,by have:=h.hi;have:=k.hi;omega⟩
theorem Ab.sub{x y K L:Int}(h:Ab x K)(k:Ab y L):Ab (x-y) (K+L):=⟨by have:=h.lo;have:=k.hi;omega,by have:=h.hi;have:=k.lo;omega⟩
theorem Ab.mul{x y K L:Int}(h:Ab x K)(k:Ab y L):Ab (x*y) (K*L):=by
 have:=AEi ⟨h.lo,h.hi⟩ ⟨k.lo,k.hi⟩
 exact⟨this.1,this.2⟩
theorem Ab.le{x K L:Int}(h:Ab x K)(k:K<=L):Ab x L:=⟨by have:=h.lo;omega,by have:=h.hi;omega⟩
theorem Ab.numB{x K:Int}(h:Ab x K)(k:K<=4611686018427387904):numB x=true:=B8 ⟨by have:=h.lo;omega,by have:=h.hi;omega⟩
theorem BE{a b K L:Int}(ha:Ab a K)(hb:Ab b L)(h:K+L<=4611686018427387904)(h1:K<=4611686018427387904)(h2:L<=4611686018427387904):Ap false a b=(a+b,false):=
 LF a b (ha.numB h1) (hb.numB h2) ((ha.add hb).numB h)
theorem Br{a b K L:Int}(ha:Ab a K)(hb:Ab b L)(h:K+L<=4611686018427387904)(h1:K<=4611686018427387904)(h2:L<=4611686018427387904):AJ false a b=(a-b,false):=
 Aff a b (ha.numB h1) (hb.numB h2) ((ha.sub hb).numB h)
def sm(f:Nat->Int):Nat->Int
 |0=>0
 |n+1=>sm f n+f n
theorem Tm{a p q:Int}(ha:0<=a)(ha':a<=4611686018427387904)(hp:0<=p)(hp':p<=4611686018427387904)(hq:0<q)(hq':q<=4611686018427387904)(h:rnd (a*p) q<=4611686018427387904):Af false a p q=(rnd (a*p) q,false):=by
 have n1:numB a=true:=by unfold numB;simp;omega
 have n2:numB p=true:=by unfold numB;simp;omega
 have n3:numB q=true:=by unfold numB;simp;omega
 rw[FP (by unfold tk;simp[n1,n2,n3]) (by simp;omega)]
 have e1:sz a=a:=by unfold sz;rw[if_neg (by omega)]
 have e2:sz p=p:=by unfold sz;rw[if_neg (by omega)]
 have e3:sz q=q:=by unfold sz;rw[if_neg (by omega)]
 rw[e1,e2,e3,decide_eq_false (by omega),decide_eq_false (by omega),decide_eq_false (by omega)]
 unfold out KZ
 rw[if_pos h,decide_eq_false (by omega)]
 rfl
theorem Aoz{a b:Int}(ha:0<=a)(hb:0<=b)(h:a+b<=4611686018427387904):Ap false a b=(a+b,false):=by
 have n1:numB a=true:=by unfold numB;simp;omega
 have n2:numB b=true:=by unfold numB;simp;omega
 have n3:numB (a+b)=true:=by unfold numB;simp;omega
 rw[Hf (by unfold tk;simp[n1,n2])]
 unfold gv
 rw[n3]
 rfl
theorem AFe{a m:Int}(ha:-4611686018427387904<=a)(ha':a<=4611686018427387904)(hm:0<m)(hm':m<=4611686018427387904):Gl false a m=(a % m,false):=by
 have n1:numB a=true:=by unfold numB;simp;omega
 have n2:numB m=true:=by unfold numB;simp;omega
 exact Nn (by unfold tk;simp[n1,n2]) hm
end
section
theorem Ax{a b K L B:Int}(ha:Ab a K)(hb:Ab b L)(h:K*L<=2535301200456458802993406410752)(hK:K<=4611686018427387904)(hL:L<=4611686018427387904)(hB:2*(K*L)+1099511627776<=2*(B*1099511627776)):∃m,mulS false a b=(m,false)/\Ab (2*(m*1099511627776-a*b)) 1099511627776/\Ab m B:=by
 obtain⟨m,e,h1,h2,_⟩:=mulS_near a b (ha.numB hK) (hb.numB hL) (by
  have s1:=G5 ⟨ha.lo,ha.hi⟩
  have s2:=G5 ⟨hb.lo,hb.hi⟩
  have k0:0<=K:=by have:=ha.lo;have:=ha.hi;omega
  have:=Int.mul_le_mul s1 s2 (Mr b).2.2 k0
  omega)
 have p:=ha.mul hb
 have p1:=p.lo;have p2:=p.hi
 exact⟨m,e,⟨by omega,by omega⟩,⟨by omega,by omega⟩⟩
theorem Ao0{a d K lo hi B:Int}(ha:Ab a K)(h1:lo<=d)(h2:d<=hi)(hl:0<lo)(hK:K<=4611686018427387904)(hh:hi<=4611686018427387904)(h:K*1099511627776<=lo*2305843009213693952)(hB:2*(K*1099511627776)<(2*B+1)*lo)(B0:0<=B):
    ∃m,AA false a d=(m,false)/\Ab (2*(m*d-a*1099511627776)) d/\Ab m B:=by
 obtain⟨m,e,d1,d2,_⟩:=partS_near a 1099511627776 d (ha.numB hK) (by rfl) (B8 ⟨by omega,by omega⟩) (by omega) (by
  rw[show sz 1099511627776=1099511627776 by rfl]
  have:=G5 ⟨ha.lo,ha.hi⟩
  have:=Zn h1 (show(0:Int)<=2305843009213693952 by decide)
  omega)
 have a1:=ha.lo;have a2:=ha.hi
 refine⟨m,e,⟨by omega,by omega⟩,⟨?_,?_⟩⟩
 ·apply Classical.byContradiction
  intro g
  have q:=Int.mul_le_mul (show 2*B+1<=-2*m-1 by omega) h1 (by omega) (by omega)
  have e:(-2*m-1)*d=-(2*(m*d))-d:=by grind
  rw[e]at q
  omega
 ·apply Classical.byContradiction
  intro g
  have q:=Int.mul_le_mul (show 2*B+1<=2*m-1 by omega) h1 (by omega) (by omega)
  have e:(2*m-1)*d=2*(m*d)-d:=by grind
  rw[e]at q
  omega
abbrev Iv:=Int×Int
structure InK(k:Int)(X:Iv)(x:Int):Prop where
 lo:X.1*k<=x
 hi:x<=X.2*k
abbrev In(X:Iv)(x:Int):Prop:=InK 1 X x
theorem Abr{X:Iv}{x:Int}(h1:X.1<=x)(h2:x<=X.2):In X x:=⟨by omega,by omega⟩
def fl(a:Int):Int:=a / 1099511627776
def ce(a:Int):Int:=-((-a) / 1099511627776)
theorem AKt(a:Int):fl a*1099511627776<=a:=by unfold fl;omega
theorem AKu(a:Int):a<=ce a*1099511627776:=by unfold ce;omega
def min4(a b c d:Int):Int:=min (min a b) (min c d)
def max4(a b c d:Int):Int:=max (max a b) (max c d)
def C6(X Y:Iv):Iv:=(fl (min4 (X.1*Y.1) (X.1*Y.2) (X.2*Y.1) (X.2*Y.2)),ce (max4 (X.1*Y.1) (X.1*Y.2) (X.2*Y.1) (X.2*Y.2)))
def AFf(X Y:Iv):Iv:=(X.1+Y.1,X.2+Y.2)
def Yu(X Y:Iv):Iv:=(X.1-Y.2,X.2-Y.1)
def pt(a:Int):Iv:=(a,a)
def ims(c:Int)(X:Iv):Iv:=if 0<=c then(c*X.1,c*X.2)else(c*X.2,c*X.1)
def mag(X:Iv):Int:=max (-X.1) X.2
theorem Yv{X:Iv}{x:Int}(h:In X x){K:Int}(hK:mag X<=K):Ab x K:=by
 unfold mag at hK
 have:=h.lo;have:=h.hi
 exact⟨by omega,by omega⟩
theorem Er(a:Int):In (pt a) a:=⟨by show a*1<=a;omega,by show a<=a*1;omega⟩
theorem InK.add{k:Int}{X Y:Iv}{x y:Int}(h:InK k X x)(g:InK k Y y):InK k (AFf X Y) (x+y):=by
 have:=h.lo;have:=h.hi;have:=g.lo;have:=g.hi
 constructor
 ·show(X.1+Y.1)*k<=x+y;rw[Int.add_mul];omega
 ·show x+y<=(X.2+Y.2)*k;rw[Int.add_mul];omega
theorem InK.sub{k:Int}{X Y:Iv}{x y:Int}(h:InK k X x)(g:InK k Y y):InK k (Yu X Y) (x-y):=by
 have:=h.lo;have:=h.hi;have:=g.lo;have:=g.hi
 constructor
 ·show(X.1-Y.2)*k<=x-y;rw[Int.sub_mul];omega
 ·show x-y<=(X.2-Y.1)*k;rw[Int.sub_mul];omega
theorem Tn{a b x y:Int}(h1:a<=x)(h2:x<=b):x*y<=max (a*y) (b*y)/\min (a*y) (b*y)<=x*y:=by
 by_cases h:0<=y
 ·have p:=Zn h1 h
  have q:=Zn h2 h
  exact⟨by omega,by omega⟩
 ·have p:=Zw h1 (show y<=0 by omega)
  have q:=Zw h2 (show y<=0 by omega)
  exact⟨by omega,by omega⟩
theorem Abs{a b c d x y:Int}(h1:a<=x)(h2:x<=b)(h3:c<=y)(h4:y<=d):min4 (a*c) (a*d) (b*c) (b*d)<=x*y/\x*y<=max4 (a*c) (a*d) (b*c) (b*d):=by
 have p:=Tn (y:=y) h1 h2
 have q:=Tn (y:=a) h3 h4
 have r:=Tn (y:=b) h3 h4
 rw[Zs y a,Zs c a,Zs d a]at q
 rw[Zs y b,Zs c b,Zs d b]at r
 unfold min4 max4
 exact⟨by omega,by omega⟩
theorem Ao1{k:Int}(k0:0<=k)(a b c d:Int):min4 a b c d*k<=min4 (a*k) (b*k) (c*k) (d*k):=by
 have h (x:Int) (hx:min4 a b c d<=x):=Zn hx k0
 have h1:=h a (by unfold min4;omega);have h2:=h b (by unfold min4;omega);have h3:=h c (by unfold min4;omega);have h4:=h d (by unfold min4;omega)
 generalize min4 a b c d*k=m at *
 unfold min4
 omega
theorem Ao2{k:Int}(k0:0<=k)(a b c d:Int):max4 (a*k) (b*k) (c*k) (d*k)<=max4 a b c d*k:=by
 have h (x:Int) (hx:x<=max4 a b c d):=Zn hx k0
 have h1:=h a (by unfold max4;omega);have h2:=h b (by unfold max4;omega);have h3:=h c (by unfold max4;omega);have h4:=h d (by unfold max4;omega)
 generalize max4 a b c d*k=m at *
 unfold max4
 omega
theorem InK.mul{k l:Int}(k0:0<=k)(l0:0<=l){X Y:Iv}{x y:Int}(h:InK k X x)(g:InK l Y y):InK (k*l*1099511627776) (C6 X Y) (x*y):=by
 have b:=Abs h.lo h.hi g.lo g.hi
 have e (a c:Int):a*k*(c*l)=a*c*(k*l):=by grind
 rw[e,e,e,e]at b
 have kl:=Int.mul_nonneg k0 l0
 have p:=Ao1 kl (X.1*Y.1) (X.1*Y.2) (X.2*Y.1) (X.2*Y.2)
 have q:=Ao2 kl (X.1*Y.1) (X.1*Y.2) (X.2*Y.1) (X.2*Y.2)
 have f:=Zn (AKt (min4 (X.1*Y.1) (X.1*Y.2) (X.2*Y.1) (X.2*Y.2))) kl
 have c:=Zn (AKu (max4 (X.1*Y.1) (X.1*Y.2) (X.2*Y.1) (X.2*Y.2))) kl
 constructor
 ·show fl _*(k*l*1099511627776)<=x*y
  rw[show fl (min4 (X.1*Y.1) (X.1*Y.2) (X.2*Y.1) (X.2*Y.2))*(k*l*1099511627776)=fl (min4 (X.1*Y.1) (X.1*Y.2) (X.2*Y.1) (X.2*Y.2))*1099511627776*(k*l)by grind]
  omega
 ·show x*y<=ce _*(k*l*1099511627776)
  rw[show ce (max4 (X.1*Y.1) (X.1*Y.2) (X.2*Y.1) (X.2*Y.2))*(k*l*1099511627776)=ce (max4 (X.1*Y.1) (X.1*Y.2) (X.2*Y.1) (X.2*Y.2))*1099511627776*(k*l)by grind]
  omega
theorem Bs{X Y:Iv}{x y m:Int}(h:In X x)(g:In Y y)(r:Ab (2*(m*1099511627776-x*y)) 1099511627776):In (C6 X Y) m:=by
 have p:=InK.mul (by decide) (by decide) h g
 have:=p.lo;have:=p.hi;have:=r.lo;have:=r.hi
 exact Abr (by omega) (by omega)
def Yw(F:Nat->Iv):Nat->Iv
 |0=>pt 0
 |n+1=>AFf (Yw F n) (F n)
def fA:Nat->Nat->Int
 |2,0=>549755813888
 |3,0=>733007751851
 |3,1=>673310613577
 |4,0=>824633720832
 |4,1=>802969761030
 |4,2=>709731703890
 |5,0=>879609302221
 |5,1=>869240264403
 |5,2=>831152665920
 |5,3=>727258582680
 |6,0=>916259689813
 |6,1=>910482127710
 |6,2=>890706219313
 |6,3=>846404445698
 |6,4=>737574822528
 |_,_=>0
def fB:Nat->Nat->Int
 |1,0=>1099511627776
 |2,0=>1649267441664
 |2,1=>1904410002822
 |3,0=>1832519379627
 |3,1=>1943680319985
 |3,2=>2458582741759
 |4,0=>1924145348608
 |4,1=>1987248770891
 |4,2=>2221811669958
 |4,3=>2909034330719
 |5,0=>1979120929997
 |5,1=>2019931840731
 |5,2=>2159397969329
 |5,3=>2473901162496
 |5,4=>3298534883328
 |6,0=>2015771317589
 |6,1=>2044365246745
 |6,2=>2138048351983
 |6,3=>2327612225670
 |6,4=>2704441015935
 |6,5=>3646667521967
 |_,_=>0
def fJ:Nat->Int
 |2=>952205001410
 |3=>1003712201286
 |4=>1028498950977
 |5=>1043088317283
 |6=>1052702237726
 |_=>0
theorem Abt(n m:Nat):Ab (fA n m) 4398046511104:=by unfold fA;split<;>exact⟨by decide,by decide⟩
theorem Abu(n m:Nat):Ab (fB n m) 4398046511104:=by unfold fB;split<;>exact⟨by decide,by decide⟩
theorem ABb(n:Nat):Ab (fJ n) 4398046511104:=by unfold fJ;split<;>exact⟨by decide,by decide⟩
def entS(bad:Bool)(c s b a:Int)(x y:V3):V3×Bool:=
 let r1:=mulS bad c x.1;let r2:=mulS r1.2 b r1.1;let r3:=mulS r2.2 a y.1;let r4:=AJ r3.2 r2.1 r3.1
 let r5:=mulS r4.2 c x.2.1;let r6:=mulS r5.2 s x.1;let r7:=AJ r6.2 r5.1 r6.1;let r8:=mulS r7.2 b r7.1;let r9:=mulS r8.2 a y.2.1;let r10:=AJ r9.2 r8.1 r9.1
 let r11:=mulS r10.2 c x.2.2;let r12:=mulS r11.2 b r11.1;let r13:=mulS r12.2 a y.2.2;let r14:=AJ r13.2 r12.1 r13.1
 ((r4.1,r10.1,r14.1),r14.2)
def diaS(bad:Bool)(c s j:Int)(x:V3):V3×Bool:=
 let r1:=mulS bad s x.1;let r2:=mulS r1.2 j r1.1
 let r3:=mulS r2.2 s x.2.1;let r4:=mulS r3.2 c x.1;let r5:=Ap r4.2 r3.1 r4.1;let r6:=mulS r5.2 j r5.1
 let r7:=mulS r6.2 s x.2.2;let r8:=mulS r7.2 j r7.1
 ((r2.1,r6.1,r8.1),r8.2)
abbrev T3:=Iv×Iv×Iv
structure Yx(X:T3)(x:V3):Prop where
 p:In X.1 x.1
 d:In X.2.1 x.2.1
 q:In X.2.2 x.2.2
def Axf(C S:Iv)(b a:Int)(x y:T3):T3:=
 (Yu (C6 (pt b) (C6 C x.1)) (C6 (pt a) y.1),Yu (C6 (pt b) (Yu (C6 C x.2.1) (C6 S x.1))) (C6 (pt a) y.2.1),Yu (C6 (pt b) (C6 C x.2.2)) (C6 (pt a) y.2.2))
def AKv(C S:Iv)(j:Int)(x:T3):T3:=(C6 (pt j) (C6 S x.1),C6 (pt j) (AFf (C6 S x.2.1) (C6 C x.1)),C6 (pt j) (C6 S x.2.2))
structure KW(x:V3):Prop where
 p:Ab x.1 17592186044416
 d:Ab x.2.1 17592186044416
 q:Ab x.2.2 17592186044416
theorem Ao3{c s b a:Int}{x y:V3}{C S:Iv}{X Y:T3}(hc:Ab c 2199023255552)(hs:Ab s 2199023255552)(hb:Ab b 4398046511104)(ha:Ab a 4398046511104)(sx:KW x)(sy:KW y)(iC:In C c)(iS:In S s)(ix:Yx X x)(iy:Yx Y y):
    ∃z,entS false c s b a x y=(z,false)/\Yx (Axf C S b a X Y) z:=by
 obtain⟨v1,h1,q1,b1⟩:=Ax (B:=35184372088833) hc sx.p (by decide) (by decide) (by decide) (by decide)
 obtain⟨v2,h2,q2,b2⟩:=Ax (B:=140737488355333) hb b1 (by decide) (by decide) (by decide) (by decide)
 obtain⟨v3,h3,q3,b3⟩:=Ax (B:=70368744177665) ha sy.p (by decide) (by decide) (by decide) (by decide)
 have h4:=Br b2 b3 (by decide) (by decide) (by decide)
 obtain⟨v5,h5,q5,b5⟩:=Ax (B:=35184372088833) hc sx.d (by decide) (by decide) (by decide) (by decide)
 obtain⟨v6,h6,q6,b6⟩:=Ax (B:=35184372088833) hs sx.p (by decide) (by decide) (by decide) (by decide)
 have h7:=Br b5 b6 (by decide) (by decide) (by decide)
 obtain⟨v8,h8,q8,b8⟩:=Ax (B:=281474976710666) hb (b5.sub b6) (by decide) (by decide) (by decide) (by decide)
 obtain⟨v9,h9,q9,b9⟩:=Ax (B:=70368744177665) ha sy.d (by decide) (by decide) (by decide) (by decide)
 have h10:=Br b8 b9 (by decide) (by decide) (by decide)
 obtain⟨v11,h11,q11,b11⟩:=Ax (B:=35184372088833) hc sx.q (by decide) (by decide) (by decide) (by decide)
 obtain⟨v12,h12,q12,b12⟩:=Ax (B:=140737488355333) hb b11 (by decide) (by decide) (by decide) (by decide)
 obtain⟨v13,h13,q13,b13⟩:=Ax (B:=70368744177665) ha sy.q (by decide) (by decide) (by decide) (by decide)
 have h14:=Br b12 b13 (by decide) (by decide) (by decide)
 refine⟨(v2-v3,v8-v9,v12-v13),?_,?_,?_,?_⟩
 ·unfold entS
  simp only[h1,h2,h3,h4,h5,h6,h7,h8,h9,h10,h11,h12,h13,h14]
 ·exact(Bs (Er b) (Bs iC ix.p q1) q2).sub (Bs (Er a) iy.p q3)
 ·exact(Bs (Er b) ((Bs iC ix.d q5).sub (Bs iS ix.p q6)) q8).sub (Bs (Er a) iy.d q9)
 ·exact(Bs (Er b) (Bs iC ix.q q11) q12).sub (Bs (Er a) iy.q q13)
theorem AFg{c s j:Int}{x:V3}{C S:Iv}{X:T3}(hc:Ab c 2199023255552)(hs:Ab s 2199023255552)(hj:Ab j 4398046511104)(sx:KW x)(iC:In C c)(iS:In S s)(ix:Yx X x):
    ∃z,diaS false c s j x=(z,false)/\Yx (AKv C S j X) z:=by
 obtain⟨v1,h1,q1,b1⟩:=Ax (B:=35184372088833) hs sx.p (by decide) (by decide) (by decide) (by decide)
 obtain⟨v2,h2,q2,b2⟩:=Ax (B:=140737488355333) hj b1 (by decide) (by decide) (by decide) (by decide)
 obtain⟨v3,h3,q3,b3⟩:=Ax (B:=35184372088833) hs sx.d (by decide) (by decide) (by decide) (by decide)
 obtain⟨v4,h4,q4,b4⟩:=Ax (B:=35184372088833) hc sx.p (by decide) (by decide) (by decide) (by decide)
 have h5:=BE b3 b4 (by decide) (by decide) (by decide)
 obtain⟨v6,h6,q6,b6⟩:=Ax (B:=281474976710666) hj (b3.add b4) (by decide) (by decide) (by decide) (by decide)
 obtain⟨v7,h7,q7,b7⟩:=Ax (B:=35184372088833) hs sx.q (by decide) (by decide) (by decide) (by decide)
 obtain⟨v8,h8,q8,b8⟩:=Ax (B:=140737488355333) hj b7 (by decide) (by decide) (by decide) (by decide)
 refine⟨(v2,v6,v8),?_,?_,?_,?_⟩
 ·unfold diaS
  simp only[h1,h2,h3,h4,h5,h6,h7,h8]
 ·exact Bs (Er j) (Bs iS ix.p q1) q2
 ·exact Bs (Er j) ((Bs iS ix.d q3).add (Bs iC ix.p q4)) q6
 ·exact Bs (Er j) (Bs iS ix.q q7) q8
def tri(c s:Int):Nat->Nat->V3
 |0,m=>if m=0 then(1099511627776,0,0)else(0,0,0)
 |1,m=>if m=0 then(entS false c s (fB 1 0) (fA 1 0) (1099511627776,0,0) (0,0,0)).1 else if m=1 then(s,c,1099511627776)else(0,0,0)
 |n+2,m=>if m<n+2 then(entS false c s (fB (n+2) m) (fA (n+2) m) (tri c s (n+1) m) (tri c s n m)).1 else if m=n+2 then(diaS false c s (fJ (n+2)) (tri c s (n+1) (n+1))).1 else(0,0,0)
def z3:T3:=(pt 0,pt 0,pt 0)
def tab(k:Nat)(f:Nat->T3):List T3:=(List.range k).map f
theorem KH(k:Nat)(f:Nat->T3)(m:Nat):(tab k f).getD m z3=if m<k then f m else z3:=by
 unfold tab
 by_cases h:m<k
 ·rw[if_pos h];simp[List.getD,h]
 ·rw[if_neg h];simp[List.getD,h]
def Db(C S:Iv):Nat->List T3×List T3
 |0=>(tab 1 (fun _=>(pt 1099511627776,pt 0,pt 0)),[])
 |1=>(tab 2 (fun m=>if m=0 then Axf C S (fB 1 0) (fA 1 0) (pt 1099511627776,pt 0,pt 0) z3 else(S,C,pt 1099511627776)),tab 1 (fun _=>(pt 1099511627776,pt 0,pt 0)))
 |n+2=>(tab (n+3) (fun m=>if m<n+2 then Axf C S (fB (n+2) m) (fA (n+2) m) ((Db C S (n+1)).1.getD m z3) ((Db C S (n+1)).2.getD m z3)else AKv C S (fJ (n+2)) ((Db C S (n+1)).1.getD (n+1) z3)),(Db C S (n+1)).1)
theorem AKw(C S:Iv):(Db C S 0).1=tab 1 (fun _=>(pt 1099511627776,pt 0,pt 0)):=by rw[Db]
theorem ABc(C S:Iv):(Db C S 1).1=tab 2 (fun m=>if m=0 then Axf C S (fB 1 0) (fA 1 0) (pt 1099511627776,pt 0,pt 0) z3 else(S,C,pt 1099511627776)):=by rw[Db]
theorem AFh(C S:Iv):(Db C S 1).2=(Db C S 0).1:=by rw[Db,Db]
def LV(X:T3):Bool:=decide (mag X.1<=17592186044416)&&decide (mag X.2.1<=17592186044416)&&decide (mag X.2.2<=17592186044416)
theorem O1{X:T3}{x:V3}(h:LV X=true)(i:Yx X x):KW x:=by
 unfold LV at h
 simp only[Zu,decide_eq_true_eq]at h
 exact⟨Yv i.p h.1.1,Yv i.d h.1.2,Yv i.q h.2⟩
theorem Abv:Yx z3 (0,0,0):=⟨Er 0,Er 0,Er 0⟩
theorem Abw:Yx (pt 1099511627776,pt 0,pt 0) (1099511627776,0,0):=⟨Er _,Er 0,Er 0⟩
theorem KW.zero:KW (0,0,0):=⟨⟨by decide,by decide⟩,⟨by decide,by decide⟩,⟨by decide,by decide⟩⟩
theorem KW.one:KW (1099511627776,0,0):=⟨⟨by decide,by decide⟩,⟨by decide,by decide⟩,⟨by decide,by decide⟩⟩
structure Abx(c s:Int)(L:List T3×List T3)(n:Nat):Prop where
 a:∀m,Yx (L.1.getD m z3) (tri c s n m)
 b:∀m,n≠0->Yx (L.2.getD m z3) (tri c s (n-1) m)
 sa:∀m,KW (tri c s n m)
 sb:∀m,n≠0->KW (tri c s (n-1) m)
theorem AKx(c s:Int)(C S:Iv):Abx c s (Db C S 0) 0:=by
 have h (m:Nat):Yx ((Db C S 0).1.getD m z3) (tri c s 0 m):=by
  rw[AKw,KH]
  unfold tri
  by_cases hm:m=0
  ·rw[if_pos (by omega),if_pos hm];exact Abw
  ·rw[if_neg (by omega),if_neg hm];exact Abv
 have k (m:Nat):KW (tri c s 0 m):=by
  unfold tri
  split
  ·exact KW.one
  ·exact KW.zero
 exact⟨h,fun m e=>absurd rfl e,k,fun m e=>absurd rfl e⟩
theorem AO1{c s:Int}{C S:Iv}(hc:Ab c 2199023255552)(hs:Ab s 2199023255552)(iC:In C c)(iS:In S s)(ok:(Db C S 1).1.all LV=true):
    Abx c s (Db C S 1) 1/\(entS false c s (fB 1 0) (fA 1 0) (1099511627776,0,0) (0,0,0)).2=false:=by
 obtain⟨z,e,i⟩:=Ao3 (x:=(1099511627776,0,0)) (y:=(0,0,0)) hc hs (Abu 1 0) (Abt 1 0) KW.one KW.zero iC iS Abw Abv
 have h (m:Nat):Yx ((Db C S 1).1.getD m z3) (tri c s 1 m):=by
  rw[ABc,KH]
  unfold tri
  by_cases hm:m=0
  ·rw[if_pos (by omega),if_pos hm,if_pos hm,e];exact i
  ·by_cases h1:m=1
   ·rw[if_pos (by omega),if_neg hm,if_neg hm,if_pos h1];exact⟨iS,iC,Er _⟩
   ·rw[if_neg (by omega),if_neg hm,if_neg h1];exact Abv
 refine⟨⟨h,fun m _=>by rw[AFh];exact(AKx c s C S).a m,fun m=>?_,fun m _=>(AKx c s C S).sa m⟩,by rw[e]⟩
 by_cases hm:m<2
 ·refine O1 (X:=(Db C S 1).1.getD m z3) ?_ (h m)
  rw[Zy]at ok
  apply ok
  rw[ABc,KH,if_pos hm]
  exact List.mem_map.2 ⟨m,List.mem_range.2 hm,rfl⟩
 ·unfold tri
  rw[if_neg (by omega),if_neg (by omega)]
  exact KW.zero
theorem Ao5{c s:Int}{C S:Iv}{n:Nat}(hc:Ab c 2199023255552)(hs:Ab s 2199023255552)(iC:In C c)(iS:In S s)(R:Abx c s (Db C S (n+1)) (n+1))(ok:(Db C S (n+2)).1.all LV=true):
    Abx c s (Db C S (n+2)) (n+2)/\(∀m,(entS false c s (fB (n+2) m) (fA (n+2) m) (tri c s (n+1) m) (tri c s n m)).2=false)/\(diaS false c s (fJ (n+2)) (tri c s (n+1) (n+1))).2=false:=by
 have E (m:Nat):=Ao3 hc hs (Abu (n+2) m) (Abt (n+2) m) (R.sa m) (R.sb m (Nat.succ_ne_zero _)) iC iS (R.a m) (R.b m (Nat.succ_ne_zero _))
 have J:=AFg hc hs (ABb (n+2)) (R.sa (n+1)) iC iS (R.a (n+1))
 have h (m:Nat):Yx ((Db C S (n+2)).1.getD m z3) (tri c s (n+2) m):=by
  show Yx ((tab (n+3) _).getD m z3) (tri c s (n+2) m)
  rw[KH]
  unfold tri
  by_cases hm:m<n+2
  ·rw[if_pos (by omega),if_pos hm,if_pos hm]
   obtain⟨z,e,i⟩:=E m
   have e':entS false c s (fB (n+2) m) (fA (n+2) m) (tri c s (n+1) m) (tri c s n m)=(z,false):=e
   rw[e'];exact i
  ·by_cases h1:m=n+2
   ·rw[if_pos (by omega),if_neg hm,if_neg hm,if_pos h1]
    obtain⟨z,e,i⟩:=J
    rw[e];exact i
   ·rw[if_neg (by omega),if_neg hm,if_neg h1];exact Abv
 refine⟨⟨h,fun m _=>R.a m,fun m=>?_,fun m _=>R.sa m⟩,fun m=>?_,?_⟩
 ·by_cases hm:m<n+3
  ·refine O1 (X:=(Db C S (n+2)).1.getD m z3) ?_ (h m)
   rw[Zy]at ok
   apply ok
   show(tab (n+3) _).getD m z3∈tab (n+3) _
   rw[KH,if_pos hm]
   exact List.mem_map.2 ⟨m,List.mem_range.2 hm,rfl⟩
  ·unfold tri
   rw[if_neg (by omega),if_neg (by omega)]
   exact KW.zero
 ·obtain⟨z,e,_⟩:=E m
  have e':entS false c s (fB (n+2) m) (fA (n+2) m) (tri c s (n+1) m) (tri c s n m)=(z,false):=e
  rw[e']
 ·obtain⟨z,e,_⟩:=J
  rw[e]
end
end Go.Proofs.YtoadcnhcfodkgaaGreatDoor
