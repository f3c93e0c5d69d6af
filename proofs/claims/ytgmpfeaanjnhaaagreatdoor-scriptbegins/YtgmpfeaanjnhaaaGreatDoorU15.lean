/-
A part.
A part.
A part.
A part.
A part.
A part.
A part.
A part.
A part.
A part.
A part.
A part.
A part.
A part.
-/
import Derived.Lib.ItoaLen
import Derived.Lib.Join
import Derived.Test.YtgmpfeaanjnhaaaGreatDoorU03
import Derived.Test.YtgmpfeaanjnhaaaGreatDoorU09
import Derived.Test.YtgmpfeaanjnhaaaGreatDoorU14
import Derived.Test.YtgmpfeaanjnhaaaGreatDoorU05
import Derived.Test.YtgmpfeaanjnhaaaGreatDoorU04
import Derived.Test.YtgmpfeaanjnhaaaGreatDoorU08
import Derived.Test.YtgmpfeaanjnhaaaGreatDoorU10
import Derived.Test.YtgmpfeaanjnhaaaGreatDoorU06
import Derived.Test.YtgmpfeaanjnhaaaGreatDoorU07
namespace Go.Proofs.YtgmpfeaanjnhaaaGreatDoor
open Go.RowKit
def Av4(bad:Bool)(x:Tup 3×Int):Tup 3×Bool:=(((LX bad (x.1.1,x.1.2.1,x.1.2.2.1) x.2).1.1,(LX bad (x.1.1,x.1.2.1,x.1.2.2.1) x.2).1.2.1,(LX bad (x.1.1,x.1.2.1,x.1.2.2.1) x.2).1.2.2,()),(LX bad (x.1.1,x.1.2.1,x.1.2.2.1) x.2).2)
theorem Al5(rest:List Value)(h:As (G2 (fun _=>0)) [rI 3,uI] rest):∃x,(Ad (cT 3) (Ac cI)).enc x=rest:=by
 match rest,h with
 |[a,b],⟨ha,⟨y,hb⟩,_⟩=>
  obtain⟨x,ex⟩:=P8 (τ:=fun _=>0) 3 a ha
  refine⟨(x,y),?_⟩
  rw[hb,<-ex]
  rfl
def Al6:ACt Tryz.prog nq:=AL false (Af Tryz.func150 (by kernel_rfl) (by kernel_rfl)) (FZ (f:=150) (sa:=[rI 3,uI]) (sr:=rI 3) (fb:=unkB) (d:=Ad (cT 3) (Ac cI)) (g:=Av4) (c:=cT 3) (fun b bad x w hg hb hw=>Zx b bad (x.1.1,x.1.2.1,x.1.2.2.1) x.2 w hw hg.1 hg.2 hb) Al5 (fun τ y=>Fj 3 y) (fun x=>by unfold Av4;rw[NB]) (fun τ _ _=>Z8 τ _)) (by decide+kernel)
theorem Al7:∃g,BP Tryz.prog nq 102 [rI 3,uI] (rI 3) unkB g:=Aj (tbl:=[Aqs,LE,LD,D7,EB,EC,Al6]) (dirty:=fun _=>[]) (n:=8) Ao Ag Tryz.func102 rfl (by decide+kernel)
theorem Ar0:∃g,Ba Tryz.prog 102 (Ad (cT 3) (Ac cI)) g (cT 3):=(BV Al7 (Ad (cT 3) (Ac cI)) (cT 3) (fun x=>⟨Fj 3 x.1,⟨x.2,rfl⟩,trivial⟩) (fun _ v h=>P8 3 v h)).imp fun _ h=>h.1
def Al8:Ct Tryz.prog:=B7 Tryz.prog 156 (Ad (cT 3) (Ac cI)) (fun bad x=>(((Ci bad (x.1.1,x.1.2.1,x.1.2.2.1) x.2).1.1,(Ci bad (x.1.1,x.1.2.1,x.1.2.2.1) x.2).1.2.1,(Ci bad (x.1.1,x.1.2.1,x.1.2.2.1) x.2).1.2.2,()),(Ci bad (x.1.1,x.1.2.1,x.1.2.2.1) x.2).2)) (cT 3) (Af Tryz.func156 (by kernel_rfl) (by kernel_rfl)) (fun b bad x w _ _ hw=>SB b bad (x.1.1,x.1.2.1,x.1.2.2.1) x.2 w hw)
def UZ(v:Int):Int:=if (if 219902325555<v then 219902325555 else v)>-219902325555 then(if 219902325555<v then 219902325555 else v)else-219902325555
def W9(d:Dri):V3:=(d.2.2.2.2.2.1,d.2.2.2.2.2.2.1,d.2.2.2.2.2.2.2.1)
def Al9(bad:Bool)(d:Dri):Tup 3×Bool:=if !d.1 then((0,0,0,()),bad)else((UZ (Ci bad (W9 d) (-274877906944)).1.1,UZ (Ci bad (W9 d) (-274877906944)).1.2.1,UZ (Ci bad (W9 d) (-274877906944)).1.2.2,()),(Ci bad (W9 d) (-274877906944)).2)
theorem Ar1:Ba Tryz.prog 186 (Ac cDri) (fun bad x=>Al9 bad x) (cT 3):=VK (tbl:=[Al8]) (dirty:=fun _=>[]) (n:=6) Ag Tryz.func186 rfl (fun bad x Post=>by
    refine Eq.trans (b:=?m) ?x (Eq.symm ?y)
    case y=>unfold Al9;simp only[<-CX (K:=PK (cT 3) Post)];exact rfl
    case x=>kernel_rfl)
def Rn(p:Tup 6):Pl:=⟨p.1,p.2.1,p.2.2.1,p.2.2.2.1,p.2.2.2.2.1,p.2.2.2.2.2.1⟩
def plT(p:Pl):Tup 6:=(p.mode,p.calm,p.good,p.miss,p.lost,p.faults,())
def Ar2(s:See):Sn:=⟨s.1,s.2.1,s.2.2.1,s.2.2.2.1,s.2.2.2.2.1,s.2.2.2.2.2.1,s.2.2.2.2.2.2.1,s.2.2.2.2.2.2.2⟩
def Gh(x:Tup 6×See):Tup 6:=plT (Wm (Rn x.1) (Ar2 x.2))
theorem Ama:Az Tryz.prog 111 (Ad (cT 6) (Ac cSee)) Gh (cT 6):=fun x w hw=>Ale (Rn x.1,Ar2 x.2) w hw
theorem Agl:Az Tryz.prog 67 (Ac cI) cRight cB:=fun x w _=>Bq x w
def Kk(x:Tup 4×Tup 3):Tup 4×Tup 3:=XQ (Z9 (qT x.1) (mT x.2))
theorem Zy:Az Tryz.prog 113 (Ad (cT 4) (Ac (cT 3))) Kk (AV (cT 4) (cT 3)):=SA
def MD(x:Tel):Tl:=⟨x.1,x.2.1,x.2.2.1,x.2.2.2.1,x.2.2.2.2.1,x.2.2.2.2.2.1,x.2.2.2.2.2.2.1,x.2.2.2.2.2.2.2.1,x.2.2.2.2.2.2.2.2.1,x.2.2.2.2.2.2.2.2.2.1,x.2.2.2.2.2.2.2.2.2.2.1,x.2.2.2.2.2.2.2.2.2.2.2.1,x.2.2.2.2.2.2.2.2.2.2.2.2.1⟩
def Hy(x:Tel):Fra×Bool:=(tlW (MD x),tlOk (MD x))
theorem Agm:Az Tryz.prog 115 (Ac (cT 13)) Hy (AV CG cB):=fun x w _=>Uc (MD x) w
def FG(x:Fra):ByteArray×Bool:=if 0<=x.1/\x.1<=255/\x.2.size<=64 then(⟨(GQ (UInt8.ofNat x.1.toNat) x.2.data.toList).toArray⟩,true)else(noBytes,false)
theorem Xa:Az Tryz.prog 65 (Ac CG) FG (AV cS cB):=fun x w _=>by
 by_cases h:0<=x.1/\x.1<=255/\x.2.size<=64
 ·have e:((UInt8.ofNat x.1.toNat).toNat:Int)=x.1:=by
   rw[ofNat_toNat (by omega)]
   omega
  have h1:=Adg (UInt8.ofNat x.1.toNat) x.2 w h.2.2
  rw[e]at h1
  refine Calls.mono h1 ?_
  rintro _ w' ⟨s,rfl,hs,hb⟩
  refine⟨?_,hb⟩
  have hs:s=⟨(GQ (UInt8.ofNat x.1.toNat) x.2.data.toList).toArray⟩:=by
   rw[<-hs]
  unfold FG
  rw[if_pos h,hs]
  rfl
 ·refine Calls.mono (Aj5 x.1 x.2 w h) ?_
  rintro _ w' ⟨rfl,hb⟩
  refine⟨?_,hb⟩
  unfold FG
  rw[if_neg h]
  rfl
def Pd(x:Tup 5×Int):Bool:=if x.1.2.1<=x.2 then decide (IntKind.u64.wrap (IntKind.u64.wrap x.2-IntKind.u64.wrap x.1.2.1)<=500)else false
theorem Agn:Az Tryz.prog 134 (Ad (cT 5) (Ac cI)) Pd cB:=AS (tbl:=[]) (dirty:=fun _=>[]) (n:=4) Ag Tryz.func134 rfl (fun x Post=>by
    refine Eq.trans (b:=?m) ?x (Eq.symm ?y)
    case y=>unfold Pd;simp only[<-CY (K:=PJ cB Post)];exact rfl
    case x=>kernel_rfl)
def oreadT(x:Fra):Tup 9×Int:=(((Ck x.1 x.2).1.1,(Ck x.1 x.2).1.2.1,(Ck x.1 x.2).1.2.2.1,(Ck x.1 x.2).1.2.2.2.1,(Ck x.1 x.2).1.2.2.2.2.1,(Ck x.1 x.2).1.2.2.2.2.2.1,(Ck x.1 x.2).1.2.2.2.2.2.2.1,(Ck x.1 x.2).1.2.2.2.2.2.2.2.1,(Ck x.1 x.2).1.2.2.2.2.2.2.2.2,()),(Ck x.1 x.2).2)
theorem Ago:Az Tryz.prog 135 (Ac CG) oreadT (AV (cT 9) cI):=fun x w hw=>Zc x.1 x.2 w hw
structure LY(F:Fs):Prop where
 ok:FsOk F
 right:F.right=cRight
 next:F.next=Gh
 counts:F.counts=Kk
 write:F.write=Hy
 wrap:F.wrap=FG
 read:F.read=E7
 fresh:F.fresh=Pd
 oread:F.oread=oreadT
 dip:F.dip=Al9
def Dk(F:Fs)(c:Cra)(t:Int)(b:ByteArray):Cra×ByteArray:=QQ F (fun _=>takeW F c t b) c t b
theorem Agp{F:Fs}(h:FsOk F)(c:Cra)(t:Int)(b:ByteArray)(hs:c.2.2.1.size+b.size<=5000)(w:World)(hw:GW w):
    Calls Tryz.prog 51 #[Bo.enc c,.int .i64 t,.string b] w fun e w'=>e=.returned (.tuple #[Bo.enc (Dk F c t b).1,.string (Dk F c t b).2])/\Below w.heap.size w w':=
 Aka F h (c,t,b) (takeW F c t b) (fun w hw=>Ae0 F h (c,t,b) hs w hw) w hw
def Ar3(w:World)(k:Nat)(r:Option (List Value))(e:Ending)(w':World):Prop:=
 Below w.heap.size w w'/\(match r with
  |some l=>∃g,e=.returned (.tuple #[.slice (some ⟨g,0,none⟩) k k,.bool true])/\w.heap.size<=g/\Ap g l w'
  |none=>e=.returned (.tuple #[.slice none 0 0,.bool false]))
def Gi(bs:List Nat)(w0:World)(v:Value)(k:Nat)(r:Option (List Value)):Prop:=
 ∀w:World,w0.heap.size<=w.heap.size->(∀i,i<w0.heap.size->i∉bs->w.heap[i]? =w0.heap[i]?)->Calls Tryz.prog 47 #[v,.int .i64 k] w (Ar3 w k r)
def Agq(d1 d2 d3 d4 d5 d6 k:Nat)(r:Option (List Value))(K:List Value->Xm->Prop)(vt:List Value)(m:Xm):Prop:=
 match r with
 |some l=>K ((((((vt.set d1 .nilIface).set d2 .nilIface).set d3 (.slice (some ⟨m.length,0,none⟩) k k)).set d4 (.bool true)).set d5 (.slice (some ⟨m.length,0,none⟩) k k)).set d6 (.bool true)) (m++[l])
 |none=>K ((((((vt.set d1 .nilIface).set d2 .nilIface).set d3 (.slice none 0 0)).set d4 (.bool false)).set d5 (.slice none 0 0)).set d6 (.bool false)) m
section
variable {bs:List Nat} {w0:World} {ds:List Deferred} {bl0:Bl} {K:List Value->Xm->Prop} {Q:Exit->Act->World->Prop}
theorem Ro{bl:Bl}{vt:List Value}{m:Xm}{a:Act}{w:World}{ops:Array Oper}{i0 i1 i2 i3 i4 i5 dA d1 d2 d3 d4 d5 d6 N k:Nat}{X:Operand}{ats:Array TypeId}{v:Value}{r:Option (List Value)}{o0 o1 o2 o3 o4 o5:Oper}
    (p0:ops[i0]? =some o0) (p1:ops[i1]? =some o1) (p2:ops[i2]? =some o2) (p3:ops[i3]? =some o3) (p4:ops[i4]? =some o4) (p5:ops[i5]? =some o5)
    (h0:o0.dst=some d1/\o0.op=.call {callee:=.value (.func 47),args:=#[.tmp dA,X],argTypes:=ats}/\o0.guard=none) (h1:o1.dst=some d2/\o1.op=.move (.tmp d1)/\o1.guard=none) (h2:o2.dst=some d3/\o2.op=.extract (.tmp d2) 0/\o2.guard=none) (h3:o3.dst=some d4/\o3.op=.extract (.tmp d2) 1/\o3.guard=none) (h4:o4.dst=some d5/\o4.op=.assign (.tmp d3)/\o4.guard=none) (h5:o5.dst=some d6/\o5.op=.assign (.tmp d4)/\o5.guard=none)
    (hN:d1<N/\d2<N/\d3<N/\d4<N/\d5<N/\d6<N) (hne:d3≠d2/\d4≠d3/\d5≠d4) (EA:a.eval (.tmp dA)=v) (EX:a.eval X=.int .i64 k) (hc:Gi bs w0 v k r)
    (hk:Agq d1 d2 d3 d4 d5 d6 k r K vt m) (rl:Rl bs w0 ds bl0 bl vt m a w) (hlt:vt.length=N) (hK:∀bl vt m a w,K vt m->Rl bs w0 ds bl0 bl vt m a w->Q .normal a w):wpOps Tryz.prog ops Q [i0,i1,i2,i3,i4,i5] a w:=by
 have hlen:=rl.F.len
 rw[hlt]at hlen
 refine IB (o:=o0) (args:=#[v,.int .i64 k]) p0 h0.2.2 ?_ (hc w rl.R.size rl.R.block) ?_
 ·have:=Af Tryz.func47 (by kernel_rfl) (by kernel_rfl) #[v,.int .i64 k] w
  have hf:a.eval (.func 47)=.func (.func 47) #[] #[]:=rfl
  simp[execOp,h0.2.1,resolve,hf,EA,EX,Deferred.ofValue,invoke,this]
 rintro e w' ⟨hb,he⟩
 have D:=rl.defers
 rw[h0.1]
 cases r with
 | some l=>
  obtain⟨g,rfl,hg,A⟩:=he
  refine⟨_,rfl,?_⟩
  have R':=(rl.R.pure hb).add rl.len A (Nat.le_trans rl.R.size hg) (fun j hj=>by
   obtain⟨_,_,A2⟩:=rl.R.arr j g hj
   have:=A2.lies
   omega)
  have hL:=Le.last bl (some g)
  have hrv:RV (bl++[some g]) (.slice (some ⟨m.length,0,none⟩) k k) (.slice (some ⟨g,0,none⟩) k k):=⟨g,by show(bl++[some g])[m.length]? =_;rw[<-rl.len,List.getElem?_append_right (Nat.le_refl _),Nat.sub_self];rfl,rfl⟩
  have F:=(rl.F.mono hL).put (v:=.nilIface) (v':=.tuple #[.slice (some ⟨g,0,none⟩) k k,.bool true]) rfl (some d1)
  have D:=(AJ a (some d1) (.tuple #[.slice (some ⟨g,0,none⟩) k k,.bool true])).trans D
  have E1:(a.put (some d1) (.tuple #[.slice (some ⟨g,0,none⟩) k k,.bool true])).eval (.tmp d1)=.tuple #[.slice (some ⟨g,0,none⟩) k k,.bool true]:=DC (by rw[hlen];exact hN.1)
  have hlen:=(Db (a:=a) (d:=some d1) (v:=.tuple #[.slice (some ⟨g,0,none⟩) k k,.bool true])).trans hlen
  generalize a.put (some d1) (.tuple #[.slice (some ⟨g,0,none⟩) k k,.bool true])=a at F D E1 hlen ⊢
  refine Ay (v:=.nilIface) (v':=.tuple #[.slice (some ⟨g,0,none⟩) k k,.bool true]) (w':=w') p1 h1.1 (Aq h1.2.2) (by simp[execOp,h1.2.1,E1]) F D hlen hN.2.1 rfl fun a F D hlen E2 X=>?_
  refine Ay (v:=.slice (some ⟨m.length,0,none⟩) k k) (v':=.slice (some ⟨g,0,none⟩) k k) (w':=w') p2 h2.1 (Aq h2.2.2) (by simp[execOp,h2.2.1,E2,Instr.extract]) F D hlen hN.2.2.1 hrv fun a F D hlen E3 X=>?_
  have E2:=(X d2 hne.1).trans E2
  refine Ay (v:=.bool true) (v':=.bool true) (w':=w') p3 h3.1 (Aq h3.2.2) (by simp[execOp,h3.2.1,E2,Instr.extract]) F D hlen hN.2.2.2.1 rfl fun a F D hlen E4 X=>?_
  have E3:=(X d3 hne.2.1).trans E3
  refine Ay (v:=.slice (some ⟨m.length,0,none⟩) k k) (v':=.slice (some ⟨g,0,none⟩) k k) (w':=w') p4 h4.1 (Aq h4.2.2) (by simp[execOp,h4.2.1,E3]) F D hlen hN.2.2.2.2.1 hrv fun a F D hlen E5 X=>?_
  have E4:=(X d4 hne.2.2).trans E4
  refine Ay (v:=.bool true) (v':=.bool true) (w':=w') p5 h5.1 (Aq h5.2.2) (by simp[execOp,h5.2.1,E4]) F D hlen hN.2.2.2.2.2 rfl fun a F D hlen E6 X=>?_
  exact hK _ _ _ _ _ hk ⟨F,R',rl.le.trans hL,by rw[List.length_append,List.length_append,rl.len];rfl,D⟩
 |none=>
  refine⟨_,he,?_⟩
  have R':=rl.R.pure hb
  have F:=rl.F.put (v:=.nilIface) (v':=.tuple #[.slice none 0 0,.bool false]) rfl (some d1)
  have D:=(AJ a (some d1) (.tuple #[.slice none 0 0,.bool false])).trans D
  have E1:(a.put (some d1) (.tuple #[.slice none 0 0,.bool false])).eval (.tmp d1)=.tuple #[.slice none 0 0,.bool false]:=DC (by rw[hlen];exact hN.1)
  have hlen:=(Db (a:=a) (d:=some d1) (v:=.tuple #[.slice none 0 0,.bool false])).trans hlen
  generalize a.put (some d1) (.tuple #[.slice none 0 0,.bool false])=a at F D E1 hlen ⊢
  refine Ay (v:=.nilIface) (v':=.tuple #[.slice none 0 0,.bool false]) (w':=w') p1 h1.1 (Aq h1.2.2) (by simp[execOp,h1.2.1,E1]) F D hlen hN.2.1 rfl fun a F D hlen E2 X=>?_
  refine Ay (v:=.slice none 0 0) (v':=.slice none 0 0) (w':=w') p2 h2.1 (Aq h2.2.2) (by simp[execOp,h2.2.1,E2,Instr.extract]) F D hlen hN.2.2.1 rfl fun a F D hlen E3 X=>?_
  have E2:=(X d2 hne.1).trans E2
  refine Ay (v:=.bool false) (v':=.bool false) (w':=w') p3 h3.1 (Aq h3.2.2) (by simp[execOp,h3.2.1,E2,Instr.extract]) F D hlen hN.2.2.2.1 rfl fun a F D hlen E4 X=>?_
  have E3:=(X d3 hne.2.1).trans E3
  refine Ay (v:=.slice none 0 0) (v':=.slice none 0 0) (w':=w') p4 h4.1 (Aq h4.2.2) (by simp[execOp,h4.2.1,E3]) F D hlen hN.2.2.2.2.1 rfl fun a F D hlen E5 X=>?_
  have E4:=(X d4 hne.2.2).trans E4
  refine Ay (v:=.bool false) (v':=.bool false) (w':=w') p5 h5.1 (Aq h5.2.2) (by simp[execOp,h5.2.1,E4]) F D hlen hN.2.2.2.2.2 rfl fun a F D hlen E6 X=>?_
  exact hK _ _ _ _ _ hk ⟨F,R',rl.le,rl.len,D⟩
theorem U0{bl:Bl}{sl v v':Value}(hn:sl≠.nilIface)(h1:RV bl sl v)(h2:RV bl sl v'):v'=v:=by
 cases hp:isP sl
 ·rw[h1.plain hp,h2.plain hp]
 ·match sl,hp,h1,h2 with
  | .pointer (some _),_,⟨B1,a1,e1⟩,⟨B2,a2,e2⟩=>rw[a1]at a2;cases a2;rw[e1,e2]
  | .slice (some _) _ _,_,⟨B1,a1,e1⟩,⟨B2,a2,e2⟩=>rw[a1]at a2;cases a2;rw[e1,e2]
  | .nilIface,_,_,_=>exact absurd rfl hn
def Xc(sS d0 d1 d2 d3 d4 d5 d6 N k:Nat)(sl:Value)(r:Option (List Value))(K:List Value->Xm->Prop)(vt:List Value)(m:Xm):Prop:=
 vt.getD sS undef=sl/\vt.length=N/\Agq d1 d2 d3 d4 d5 d6 k r K (vt.set d0 sl) m
theorem Gj{bl:Bl}{vt:List Value}{m:Xm}{a:Act}{w:World}{ops:Array Oper}{id sS d0 d1 d2 d3 d4 d5 d6 N k:Nat}{ats:Array TypeId}{sl v:Value}{r:Option (List Value)}{o0 o1 o2 o3 o4 o5 o6:Oper}(ho:ops=#[o0,o1,o2,o3,o4,o5,o6])
    (h0:o0.dst=some d0/\o0.op=.move (.tmp sS)/\o0.guard=none) (h1:o1.dst=some d1/\o1.op=.call {callee:=.value (.func 47),args:=#[.tmp d0,.const (.int .i64 k)],argTypes:=ats}/\o1.guard=none) (h2:o2.dst=some d2/\o2.op=.move (.tmp d1)/\o2.guard=none) (h3:o3.dst=some d3/\o3.op=.extract (.tmp d2) 0/\o3.guard=none) (h4:o4.dst=some d4/\o4.op=.extract (.tmp d2) 1/\o4.guard=none) (h5:o5.dst=some d5/\o5.op=.assign (.tmp d3)/\o5.guard=none) (h6:o6.dst=some d6/\o6.op=.assign (.tmp d4)/\o6.guard=none)
    (hN0:d0<N) (hN:d1<N/\d2<N/\d3<N/\d4<N/\d5<N/\d6<N) (hne:d3≠d2/\d4≠d3/\d5≠d4) (hsl:sl≠.nilIface) (hrv:RV bl0 sl v) (hc:Gi bs w0 v k r)
    (h:Xc sS d0 d1 d2 d3 d4 d5 d6 N k sl r K vt m) (rl:Rl bs w0 ds bl0 bl vt m a w) (hK:∀bl vt m a w,K vt m->Rl bs w0 ds bl0 bl vt m a w->Q .normal a w):(Code.region id ops false).wp Tryz.prog Q a w:=by
 subst ho
 obtain⟨hs,hlt,hk⟩:=h
 have hlen:=rl.F.len
 rw[hlt]at hlen
 have hrb:=hrv.mono rl.le
 have ES:a.eval (.tmp sS)=v:=by
  have:=rl.F.rv sS
  rw[hs]at this
  exact U0 hsl hrb this
 refine wp_region ?_
 refine Ay (v:=sl) (v':=v) (w':=w) rfl h0.1 (Aq h0.2.2) (by simp[execOp,h0.2.1,ES]) rl.F rl.defers hlen hN0 hrb fun a F D hlen E0 X=>?_
 exact Ro (i0:=1) (i1:=2) (i2:=3) (i3:=4) (i4:=5) (i5:=6) rfl rfl rfl rfl rfl rfl h1 h2 h3 h4 h5 h6 hN hne E0 rfl hc hk ⟨F,rl.R,rl.le,rl.len,D⟩ (by rw[List.length_set];exact hlt) hK
def Agr(sS sM d0 e0 e1 d1 d2 d3 d4 d5 d6 N k:Nat)(q:Int)(sl:Value)(r:Option (List Value))(K:List Value->Xm->Prop)(vt:List Value)(m:Xm):Prop:=
 vt.getD sS undef=sl/\vt.getD sM undef=.int .i64 q/\vt.length=N/\Agq d1 d2 d3 d4 d5 d6 k r K (((vt.set d0 sl).set e0 (.int .i64 q)).set e1 (.int .i64 k)) m
theorem Pf{bl:Bl}{vt:List Value}{m:Xm}{a:Act}{w:World}{ops:Array Oper}{id sS sM d0 e0 e1 d1 d2 d3 d4 d5 d6 N k:Nat}{q:Int}{tI:TypeId}{ats:Array TypeId}{sl v:Value}{r:Option (List Value)}{o0 p0 p1 o1 o2 o3 o4 o5 o6:Oper}(ho:ops=#[o0,p0,p1,o1,o2,o3,o4,o5,o6])
    (h0:o0.dst=some d0/\o0.op=.move (.tmp sS)/\o0.guard=none) (g0:p0.dst=some e0/\p0.op=.move (.tmp sM)/\p0.guard=none) (g1:p1.dst=some e1/\p1.op=.binOp .add tI (.const (.int .i64 1)) (.tmp e0) tI/\p1.guard=none) (h1:o1.dst=some d1/\o1.op=.call {callee:=.value (.func 47),args:=#[.tmp d0,.tmp e1],argTypes:=ats}/\o1.guard=none) (h2:o2.dst=some d2/\o2.op=.move (.tmp d1)/\o2.guard=none) (h3:o3.dst=some d3/\o3.op=.extract (.tmp d2) 0/\o3.guard=none) (h4:o4.dst=some d4/\o4.op=.extract (.tmp d2) 1/\o4.guard=none) (h5:o5.dst=some d5/\o5.op=.assign (.tmp d3)/\o5.guard=none) (h6:o6.dst=some d6/\o6.op=.assign (.tmp d4)/\o6.guard=none)
    (hN0:d0<N/\e0<N/\e1<N) (hM:d0≠sM/\e0≠d0/\e1≠d0) (hq:IntKind.i64.wrap (1+q)=k) (hN:d1<N/\d2<N/\d3<N/\d4<N/\d5<N/\d6<N) (hne:d3≠d2/\d4≠d3/\d5≠d4) (hsl:sl≠.nilIface) (hrv:RV bl0 sl v) (hc:Gi bs w0 v k r)
    (h:Agr sS sM d0 e0 e1 d1 d2 d3 d4 d5 d6 N k q sl r K vt m) (rl:Rl bs w0 ds bl0 bl vt m a w) (hK:∀bl vt m a w,K vt m->Rl bs w0 ds bl0 bl vt m a w->Q .normal a w):(Code.region id ops false).wp Tryz.prog Q a w:=by
 subst ho
 obtain⟨hs,hm,hlt,hk⟩:=h
 have hlen:=rl.F.len
 rw[hlt]at hlen
 have hrb:=hrv.mono rl.le
 have ES:a.eval (.tmp sS)=v:=by
  have:=rl.F.rv sS
  rw[hs]at this
  exact U0 hsl hrb this
 have EM:a.eval (.tmp sM)=.int .i64 q:=by
  have:=rl.F.rv sM
  rw[hm]at this
  exact this
 refine wp_region ?_
 refine Ay (v:=sl) (v':=v) (w':=w) rfl h0.1 (Aq h0.2.2) (by simp[execOp,h0.2.1,ES]) rl.F rl.defers hlen hN0.1 hrb fun a F D hlen E0 X=>?_
 have EM:=(X sM hM.1).trans EM
 refine Ay (v:=.int .i64 q) (v':=.int .i64 q) (w':=w) rfl g0.1 (Aq g0.2.2) (by simp[execOp,g0.2.1,EM]) F D hlen hN0.2.1 rfl fun a F D hlen G0 X=>?_
 have E0:=(X d0 hM.2.1).trans E0
 have ec:a.eval (.const (.int .i64 1))=.int .i64 1:=rfl
 refine Ay (v:=.int .i64 k) (v':=.int .i64 k) (w':=w) rfl g1.1 (Aq g1.2.2) (by simp[execOp,g1.2.1,G0,ec,eqGuard,binOp,Op.intArith,hq]) F D hlen hN0.2.2 rfl fun a F D hlen G1 X=>?_
 have E0:=(X d0 hM.2.2).trans E0
 exact Ro (i0:=3) (i1:=4) (i2:=5) (i3:=6) (i4:=7) (i5:=8) rfl rfl rfl rfl rfl rfl h1 h2 h3 h4 h5 h6 hN hne E0 G1 hc hk ⟨F,rl.R,rl.le,rl.len,D⟩ (by rw[List.length_set,List.length_set,List.length_set];exact hlt) hK
end
def Av5:Ct Tryz.prog:=AH Tryz.prog 65 (Ac CG) FG (AV cS cB) (Af Tryz.func65 (by kernel_rfl) (by kernel_rfl)) Xa
def B3(x:Fra×Bool):ByteArray×Bool:=bif x.2 then FG x.1 else(noBytes,false)
set_option maxRecDepth 100000 in
theorem U7:Az Tryz.prog 48 (Ad CG (Ac cB)) B3 (AV cS cB):=AS (tbl:=[Av5]) (dirty:=fun _=>[]) (n:=4) Ag Tryz.func48 rfl (fun x Post=>by
 obtain⟨x,b⟩:=x
 cases b<;>kernel_rfl)
structure Pg(w:World)(v sl:Value)(x:Option Nat):Prop where
 ne:sl≠.nilIface
 rv:RV [x] sl v
 lies:∀g,x=some g->g<w.heap.size
theorem Ph{w:World}{a:Option Addr}{n c:Nat}(h:∀ad,a=some ad->ad.block<w.heap.size):∃sl x,Pg w (.slice a n c) sl x:=by
 cases a with
 |none=>exact⟨.slice none n c,none,nofun,rfl,nofun⟩
 |some ad=>exact⟨.slice (some {ad with block:=0}) n c,some ad.block,nofun,⟨ad.block,rfl,rfl⟩,fun g e=>by cases e;exact h ad rfl⟩
theorem Pg.rw{w:World}{v sl:Value}{x:Option Nat}(h:Pg w v sl x)(hw:GW w):RW [] w [x] [[]] w:=by
 refine⟨fun i B hi=>?_,fun i j B hi hj=>?_,fun i B hi=>?_,rfl,rfl,rfl,Nat.le_refl _,fun _ _ _=>rfl,hw,fun b hb=>by cases hb⟩
 ·match i,hi with
  |0,hi=>exact⟨[],rfl,fun i h=>absurd h (Nat.not_lt_zero i),fun i h=>absurd h (Nat.not_lt_zero i),h.lies B (Option.some.inj hi)⟩
 ·match i,j,hi,hj with
  |0,0,_,_=>rfl
 ·match i,hi with
  |0,_=>exact .inr (.inr rfl)
def ME(ws:List ByteArray)(m:Nat):Option (List Value):=if CR ws m then some (row m (AY ws m))else none
theorem SW.kept{w w':World}(h:SW w)(k:∀i,i<6->w'.heap[i]? =w.heap[i]?):SW w':=by
 obtain⟨m,hm⟩:=h.mx
 obtain⟨t,p,hs⟩:=h.sy
 obtain⟨u,q,hr⟩:=h.rg
 obtain⟨x,f,ht⟩:=h.tab
 exact⟨⟨m,(World.cell?_of_block (k 0 (by decide))).trans hm⟩,⟨t,p,hs.imp fun _=>Exists.imp fun _ e=>(k 4 (by decide)).trans e⟩,⟨u,q,(World.cell?_of_block (k 5 (by decide))).trans hr⟩,⟨x,f,(k 3 (by decide)).trans ht⟩⟩
def Ey(bs:List Nat)(w:World)(v:Value):Prop:=∀a n c,v=.slice a n c->∀ad,a=some ad->ad.block<w.heap.size/\ad.block∉bs
theorem Kl{bs:List Nat}{w0:World}{v:Value}{ws:List ByteArray}{m:Nat}(hw:SW w0)(hg:GW w0)(hv:CE w0 v ws)(ha:Ey bs w0 v)(hb:∀i∈bs,5<i)(h1:1<=m)(hm:m<=100)(hs:∀i,(ws.getD i ⟨#[]⟩).size<=100000)(hl:ws.length<=100000):Gi bs w0 v m (ME ws m):=by
 intro w hsz hk
 have hlt:=hg.2.lies
 have hw':SW w:=hw.kept fun i hi=>hk i (by omega) (fun e=>by have:=hb i e;omega)
 have hv':CE w v ws:=by
  obtain⟨a,c,rfl,hc,k⟩:=hv
  refine⟨a,c,rfl,hc,fun hne=>?_⟩
  obtain⟨g,o,rfl,hg',hcell⟩:=k hne
  refine⟨g,o,rfl,Nat.lt_of_lt_of_le hg' hsz,fun i hi=>?_⟩
  rw[<-hcell i hi]
  exact World.cell?_of_block (hk g hg' (ha _ _ _ rfl _ rfl).2)
 unfold ME
 by_cases h:CR ws m
 ·rw[if_pos h]
  refine(QF v ws m w hw' hv' h1 hm hs hl h).mono ?_
  rintro e w' ⟨g,he,hge,hA,hB⟩
  exact⟨hB,g,he,hge,hA⟩
 ·rw[if_neg h]
  refine(Ta v ws m w hw' hv' h1 hm hs hl h).mono ?_
  rintro e w' ⟨he,hB⟩
  exact⟨hB,he⟩
set_option maxRecDepth 100000 in
theorem Hz{f:Nat}(hf:Tryz.prog.funcs[f]? =some (BA Tryz.prog f))(hb:(BA Tryz.prog f).body=some (AP Tryz.prog f)){w:World}{v sl:Value}{x:Option Nat}(h:Pg w v sl x)(hg:GW w){vargs:List Value}{args:Array Value}{y:Value}{ov:Ov}{tbl:List (Ct Tryz.prog)}(hs:args.size=vargs.length)(hv:∀i,RV [x] (vargs.getD i undef) (args.getD i undef))(ho:D9 Tryz.prog ov [] w [] [x] (AP Tryz.prog f))
    (hr:BR Tryz.prog tbl (fun _=>[]) 8 ov (AP Tryz.prog f) (Cv Tryz.prog (BA Tryz.prog f) (fun u _=>u=y)) (vargs++List.replicate ((BA Tryz.prog f).ntmps-vargs.length) undef) [[]]):
    Calls Tryz.prog f args w fun e w'=>e=.returned y/\Below w.heap.size w w':=by
 refine Calls.mono (Jb Ag hf hb (vargs:=vargs) (h.rw hg) rfl hs hv ho hr) ?_
 rintro e w' ⟨u,bl',m2,rfl,rfl,R',_⟩
 exact⟨rfl,R'.os,R'.tape,R'.output,R'.size,fun i hi=>R'.block i hi List.not_mem_nil⟩
def NC(x:Tup 9):Fra×Bool:=(Tk x.1 x.2.1 (x.2.2.1,x.2.2.2.1,x.2.2.2.2.1,x.2.2.2.2.2.1,x.2.2.2.2.2.2.1,x.2.2.2.2.2.2.2.1,x.2.2.2.2.2.2.2.2.1),BQ x.1 x.2.1 (x.2.2.1,x.2.2.2.1,x.2.2.2.2.1,x.2.2.2.2.2.1,x.2.2.2.2.2.2.1,x.2.2.2.2.2.2.2.1,x.2.2.2.2.2.2.2.2.1))
theorem Zz:Az Tryz.prog 50 (Ac (cT 9)) NC (AV CG cB):=fun x w _=>To x.1 x.2.1 (x.2.2.1,x.2.2.2.1,x.2.2.2.2.1,x.2.2.2.2.2.1,x.2.2.2.2.2.2.1,x.2.2.2.2.2.2.2.1,x.2.2.2.2.2.2.2.2.1) w
def ND:Ct Tryz.prog:=AH Tryz.prog 50 (Ac (cT 9)) NC (AV CG cB) (Af Tryz.func50 (by kernel_rfl) (by kernel_rfl)) Zz
def EJ:Ct Tryz.prog:=AH Tryz.prog 48 (Ad CG (Ac cB)) B3 (AV cS cB) (Af Tryz.func48 (by kernel_rfl) (by kernel_rfl)) U7
def cf6(c:Tup 6)(i:Nat):Int:=[c.1,c.2.1,c.2.2.1,c.2.2.2.1,c.2.2.2.2.1,c.2.2.2.2.2.1].getD i 0
def LZ(x:Int×Int×Tup 6):Fra×Bool:=(BZ x.1 x.2.1 (cf6 x.2.2),CO x.1 x.2.1 (cf6 x.2.2))
theorem ZA:Az Tryz.prog 49 (Ad cI (Ad cI (Ac (cT 6)))) LZ (AV CG cB):=fun x w _=>Te x.1 x.2.1 (cf6 x.2.2) w
def JP:Ct Tryz.prog:=AH Tryz.prog 49 (Ad cI (Ad cI (Ac (cT 6)))) LZ (AV CG cB) (Af Tryz.func49 (by kernel_rfl) (by kernel_rfl)) ZA
def FH(Post:Value->Prop)(y:ByteArray×Bool):Prop:=Post ((AV cS cB).enc y)
def srO(sl:Value)(r:Option (List Value)):Ov:=fun id=>match id with
 |1=>some fun _ _=>Xc 0 7 8 6 9 10 4 5 32 2 sl r
 |_=>none
set_option maxRecDepth 100000 in
theorem ZB(sl:Value)(a b:Int)(Post:Value->Prop):
    BR Tryz.prog [ND,EJ] (fun _=>[]) 8 (srO sl (some [.int .i64 a,.int .i64 b])) (AP Tryz.prog 33) (Cv Tryz.prog (BA Tryz.prog 33) (fun v _=>Post v)) ([sl]++List.replicate ((BA Tryz.prog 33).ntmps-1) undef) [[]]=
      (sl=sl/\32=32/\DY (decide (b=3)) (FH Post (noBytes,false)) (FH Post (B3 (NC (a,b,0,0,0,0,0,0,0,()))))):=by kernel_rfl
set_option maxRecDepth 100000 in
theorem Ags(sl:Value)(Post:Value->Prop):
    BR Tryz.prog [ND,EJ] (fun _=>[]) 8 (srO sl none) (AP Tryz.prog 33) (Cv Tryz.prog (BA Tryz.prog 33) (fun v _=>Post v)) ([sl]++List.replicate ((BA Tryz.prog 33).ntmps-1) undef) [[]]=
      (sl=sl/\32=32/\FH Post (noBytes,false)):=by kernel_rfl
set_option maxRecDepth 100000 in
theorem Ar4{w:World}{v sl:Value}{x:Option Nat}{r:Option (List Value)}(h:Pg w v sl x)(hc:Gi [] w v 2 r):D9 Tryz.prog (srO sl r) [] w [] [x] (AP Tryz.prog 33):=by
 refine EF (ns:=[(1,#[Bc Tryz.prog 33 1 0,Bc Tryz.prog 33 1 1,Bc Tryz.prog 33 1 2,Bc Tryz.prog 33 1 3,Bc Tryz.prog 33 1 4,Bc Tryz.prog 33 1 5,Bc Tryz.prog 33 1 6],false)]) (by kernel_rfl) ?_
 intro r hr
 rcases List.mem_cons.1 hr with rfl |hr
 ·intro R hR K Q bl vt m a w h' rl hK
  cases hR
  exact Gj (ats:=#[29,3]) rfl ⟨by kernel_rfl,by kernel_rfl,by kernel_rfl⟩ ⟨by kernel_rfl,by kernel_rfl,by kernel_rfl⟩ ⟨by kernel_rfl,by kernel_rfl,by kernel_rfl⟩ ⟨by kernel_rfl,by kernel_rfl,by kernel_rfl⟩ ⟨by kernel_rfl,by kernel_rfl,by kernel_rfl⟩ ⟨by kernel_rfl,by kernel_rfl,by kernel_rfl⟩ ⟨by kernel_rfl,by kernel_rfl,by kernel_rfl⟩ (by decide) (by decide) (by decide) h.ne h.rv hc h' rl hK
 ·cases hr
def orderT(ws:List ByteArray):ByteArray×Bool:=if CR ws 2 then(if AY ws 2 1=3 then(noBytes,false)else B3 (NC (AY ws 2 0,AY ws 2 1,0,0,0,0,0,0,0,())))else(noBytes,false)
set_option maxRecDepth 100000 in
theorem ZC(v:Value)(ws:List ByteArray)(w:World)(hw:SW w)(hg:GW w)(hv:CE w v ws)(ha:Ey [] w v)(hs:∀i,(ws.getD i ⟨#[]⟩).size<=100000)(hl:ws.length<=100000):
    Calls Tryz.prog 33 #[v] w fun e w'=>e=.returned ((AV cS cB).enc (orderT ws))/\Below w.heap.size w w':=by
 have hc:=Kl (m:=2) hw hg hv ha (fun i hi=>by cases hi) (by decide) (by decide) hs hl
 obtain⟨a,c,rfl,_,_⟩:=hv
 obtain⟨sl,x,hR⟩:=Ph (n:=ws.length) (c:=c) (fun ad e=>(ha _ _ _ rfl ad e).1)
 refine Hz (by kernel_rfl) (by kernel_rfl) hR hg (tbl:=[ND,EJ]) (vargs:=[sl]) (y:=(AV cS cB).enc (orderT ws)) rfl (fun i=>?_) (Ar4 hR hc) ?_
 ·match i with
  |0=>exact hR.rv
  |_+1=>rfl
 unfold ME orderT
 by_cases h:CR ws 2
 ·rw[if_pos h,if_pos h]
  refine Eq.mpr (ZB sl (AY ws 2 0) (AY ws 2 1) _) ⟨rfl,rfl,?_⟩
  by_cases h3:AY ws 2 1=3
  ·rw[if_pos h3,decide_eq_true h3]
   exact rfl
  ·rw[if_neg h3,decide_eq_false h3]
   exact rfl
 ·rw[if_neg h,if_neg h]
  exact Eq.mpr (Ags sl _) ⟨rfl,rfl,rfl⟩
def srE(sl:Value)(r:Option (List Value)):Ov:=fun id=>match id with
 |1=>some fun _ _=>Xc 0 7 8 6 9 10 4 5 45 8 sl r
 |_=>none
set_option maxRecDepth 100000 in
theorem Agt(sl:Value)(a b c d e f g h:Int)(Post:Value->Prop):
    BR Tryz.prog [ND,EJ] (fun _=>[]) 8 (srE sl (some [.int .i64 a,.int .i64 b,.int .i64 c,.int .i64 d,.int .i64 e,.int .i64 f,.int .i64 g,.int .i64 h])) (AP Tryz.prog 34) (Cv Tryz.prog (BA Tryz.prog 34) (fun v _=>Post v)) ([sl]++List.replicate ((BA Tryz.prog 34).ntmps-1) undef) [[]]=
      (sl=sl/\45=45/\FH Post (B3 (NC (a,3,b,c,d,e,f,g,h,())))):=by kernel_rfl
set_option maxRecDepth 100000 in
theorem Amb(sl:Value)(Post:Value->Prop):
    BR Tryz.prog [ND,EJ] (fun _=>[]) 8 (srE sl none) (AP Tryz.prog 34) (Cv Tryz.prog (BA Tryz.prog 34) (fun v _=>Post v)) ([sl]++List.replicate ((BA Tryz.prog 34).ntmps-1) undef) [[]]=
      (sl=sl/\45=45/\FH Post (noBytes,false)):=by kernel_rfl
set_option maxRecDepth 100000 in
theorem Ar5{w:World}{v sl:Value}{x:Option Nat}{r:Option (List Value)}(h:Pg w v sl x)(hc:Gi [] w v 8 r):D9 Tryz.prog (srE sl r) [] w [] [x] (AP Tryz.prog 34):=by
 refine EF (ns:=[(1,#[Bc Tryz.prog 34 1 0,Bc Tryz.prog 34 1 1,Bc Tryz.prog 34 1 2,Bc Tryz.prog 34 1 3,Bc Tryz.prog 34 1 4,Bc Tryz.prog 34 1 5,Bc Tryz.prog 34 1 6],false)]) (by kernel_rfl) ?_
 intro r hr
 rcases List.mem_cons.1 hr with rfl |hr
 ·intro R hR K Q bl vt m a w h' rl hK
  cases hR
  exact Gj (ats:=#[29,3]) rfl ⟨by kernel_rfl,by kernel_rfl,by kernel_rfl⟩ ⟨by kernel_rfl,by kernel_rfl,by kernel_rfl⟩ ⟨by kernel_rfl,by kernel_rfl,by kernel_rfl⟩ ⟨by kernel_rfl,by kernel_rfl,by kernel_rfl⟩ ⟨by kernel_rfl,by kernel_rfl,by kernel_rfl⟩ ⟨by kernel_rfl,by kernel_rfl,by kernel_rfl⟩ ⟨by kernel_rfl,by kernel_rfl,by kernel_rfl⟩ (by decide) (by decide) (by decide) h.ne h.rv hc h' rl hK
 ·cases hr
def elemT(ws:List ByteArray):ByteArray×Bool:=if CR ws 8 then B3 (NC (AY ws 8 0,3,AY ws 8 1,AY ws 8 2,AY ws 8 3,AY ws 8 4,AY ws 8 5,AY ws 8 6,AY ws 8 7,()))else(noBytes,false)
set_option maxRecDepth 100000 in
theorem Agu(v:Value)(ws:List ByteArray)(w:World)(hw:SW w)(hg:GW w)(hv:CE w v ws)(ha:Ey [] w v)(hs:∀i,(ws.getD i ⟨#[]⟩).size<=100000)(hl:ws.length<=100000):
    Calls Tryz.prog 34 #[v] w fun e w'=>e=.returned ((AV cS cB).enc (elemT ws))/\Below w.heap.size w w':=by
 have hc:=Kl (m:=8) hw hg hv ha (fun i hi=>by cases hi) (by decide) (by decide) hs hl
 obtain⟨a,c,rfl,_,_⟩:=hv
 obtain⟨sl,x,hR⟩:=Ph (n:=ws.length) (c:=c) (fun ad e=>(ha _ _ _ rfl ad e).1)
 refine Hz (by kernel_rfl) (by kernel_rfl) hR hg (tbl:=[ND,EJ]) (vargs:=[sl]) (y:=(AV cS cB).enc (elemT ws)) rfl (fun i=>?_) (Ar5 hR hc) ?_
 ·match i with
  |0=>exact hR.rv
  |_+1=>rfl
 unfold ME elemT
 by_cases h:CR ws 8
 ·rw[if_pos h,if_pos h]
  exact Eq.mpr (Agt sl (AY ws 8 0) (AY ws 8 1) (AY ws 8 2) (AY ws 8 3) (AY ws 8 4) (AY ws 8 5) (AY ws 8 6) (AY ws 8 7) _) ⟨rfl,rfl,rfl⟩
 ·rw[if_neg h,if_neg h]
  exact Eq.mpr (Amb sl _) ⟨rfl,rfl,rfl⟩
def Av6:Ct Tryz.prog:=EN Tryz.prog 20 (Ac cI) (fun _ K=>∀m:Int,K (.int .i64 m)) (fun _ _ _ hK hs m=>hK _ (hs m)) (Af Tryz.func20 (by kernel_rfl) (by kernel_rfl))
 (fun x w _ K hs=>Calls.mono (Yq x w) (by rintro e w' ⟨m,rfl,rfl⟩;exact⟨_,rfl,rfl,hs m,Below.refl _ _⟩))
set_option maxRecDepth 100000 in
def Av7:Ct Tryz.prog:=EN Tryz.prog 21 (Ad cI (Ad cI (Ac (cT 6)))) (fun _ K=>∀(k:Int) (s:ByteArray) (b:Bool),K (.tuple #[.agg #[.int .i64 k,.string s],.bool b])) (fun _ _ _ hK hs k s b=>hK _ (hs k s b)) (Af Tryz.func21 (by kernel_rfl) (by kernel_rfl))
 (fun x w _ K hs=>Calls.mono (Ti x.1 x.2.1 (cf6 x.2.2) w) (by rintro e w' ⟨rfl,hb⟩;exact⟨_,rfl,rfl,hs _ _ _,hb⟩))
set_option maxRecDepth 100000 in
def Av8:Ct Tryz.prog:=EN Tryz.prog 23 (Ac (cT 9)) (fun _ K=>∀(k:Int) (s:ByteArray) (b:Bool),K (.tuple #[.agg #[.int .i64 k,.string s],.bool b])) (fun _ _ _ hK hs k s b=>hK _ (hs k s b)) (Af Tryz.func23 (by kernel_rfl) (by kernel_rfl))
 (fun x w _ K hs=>Calls.mono (Tq x.1 x.2.1 (x.2.2.1,x.2.2.2.1,x.2.2.2.2.1,x.2.2.2.2.2.1,x.2.2.2.2.2.2.1,x.2.2.2.2.2.2.2.1,x.2.2.2.2.2.2.2.2.1) w) (by rintro e w' ⟨rfl,hb⟩;exact⟨_,rfl,rfl,hs _ _ _,hb⟩))
def Axu:Ct Tryz.prog:=EN Tryz.prog 22 (Ad CG (Ac cB)) (fun _ K=>∀(a b:ByteArray) (t:Int),K (.agg #[.string a,.string b,.int .i64 t])) (fun _ _ _ hK hs a b t=>hK _ (hs a b t)) (Af Tryz.func22 (by kernel_rfl) (by kernel_rfl))
 (fun x w _ K hs=>Calls.mono (Yo x.1.1 x.1.2 x.2 w) (by rintro e w' ⟨a,b,t,rfl,hb⟩;exact⟨_,rfl,rfl,hs a b t,hb⟩))
def lnT:List (Ct Tryz.prog):=[Av6,Av7,Av8,Axu]
def Axv:ByteArray:=⟨#[98,97,100]⟩
def lnF(cap n:Nat)(k c:Int)(d:Nat->Value):List Value:=frm [(2,ptr 0),(3,ptr 1),(6,.slice (some ⟨2,0,none⟩) n cap),(10,.int .i64 k),(11,.int .i64 c)] d 217
def lnM(l:List Value):Xm:=[[.string ⟨#[]⟩,.string ⟨#[]⟩,.int .i64 0],[.string Axv,.string ⟨#[]⟩,.int .i64 0],l]
def ZD(P:Program):Func:=BA P 9
def U8:Code->Code
 | .cond _ x _=>x
 |_=>.skip
def U9:Code->Code
 | .cond _ _ y=>y
 |_=>.skip
def lnC(P:Program):Code:=CC [true,true,true,true,true,true,false,false,true] (AP P 9)
def lnX(P:Program):Code:=U8 (lnC P)
def lnO(P:Program):Code:=CC [true] (U8 (CC [true] (U9 (lnC P))))
def lnU(P:Program):Code:=U8 (CC [true] (U9 (CC [true] (U9 (lnC P)))))
theorem Xd:lnX Tryz.prog=.seq (CC [false] (lnX Tryz.prog)) (CC [true] (lnX Tryz.prog)):=by kernel_rfl
theorem Amc:lnO Tryz.prog=.seq (CC [false] (lnO Tryz.prog)) (CC [true] (lnO Tryz.prog)):=by kernel_rfl
theorem Amd:lnU Tryz.prog=.seq (CC [false] (lnU Tryz.prog)) (CC [true] (lnU Tryz.prog)):=by kernel_rfl
set_option maxRecDepth 100000 in
theorem Agv(k n0 n1 n2 n3:Int)(tl:List Value)(cap:Nat)(d:Nat->Value)(Post:Value->Prop):
    BR Tryz.prog lnT (fun _=>[]) 8 (fun _=>none) (lnX Tryz.prog) (SP Tryz.prog (ZD Tryz.prog) Post) (lnF cap 4 k 3 d) (lnM (.int .i64 n0::.int .i64 n1::.int .i64 n2::.int .i64 n3::tl))=
      (∀_ _ _:Int,∀(_:Int) (_:ByteArray) (_:Bool) (x y:ByteArray) (t:Int),Post (.agg #[.string x,.string y,.int .i64 t])):=by kernel_rfl
set_option maxRecDepth 100000 in
theorem Ar8(k n0 n1 n2 n3 n4 n5 n6:Int)(tl:List Value)(cap:Nat)(d:Nat->Value)(Post:Value->Prop):
    BR Tryz.prog lnT (fun _=>[]) 8 (fun _=>none) (lnX Tryz.prog) (SP Tryz.prog (ZD Tryz.prog) Post) (lnF cap 7 k 6 d) (lnM (.int .i64 n0::.int .i64 n1::.int .i64 n2::.int .i64 n3::.int .i64 n4::.int .i64 n5::.int .i64 n6::tl))=
      (∀_ _ _ _ _ _:Int,∀(_:Int) (_:ByteArray) (_:Bool) (x y:ByteArray) (t:Int),Post (.agg #[.string x,.string y,.int .i64 t])):=by kernel_rfl
set_option maxRecDepth 100000 in
theorem Agw(k c n0 n1:Int)(tl:List Value)(cap:Nat)(d:Nat->Value)(Post:Value->Prop):
    BR Tryz.prog lnT (fun _=>[]) 8 (fun _=>none) (lnO Tryz.prog) (SP Tryz.prog (ZD Tryz.prog) Post) (lnF cap 2 k c d) (lnM (.int .i64 n0::.int .i64 n1::tl))=
      (∀_ _:Int,∀(_:Int) (_:ByteArray) (_:Bool) (x y:ByteArray) (t:Int),Post (.agg #[.string x,.string y,.int .i64 t])):=by kernel_rfl
set_option maxRecDepth 100000 in
theorem Agx(k c n0 n1 n2 n3 n4 n5 n6 n7:Int)(tl:List Value)(cap:Nat)(d:Nat->Value)(Post:Value->Prop):
    BR Tryz.prog lnT (fun _=>[]) 8 (fun _=>none) (lnU Tryz.prog) (SP Tryz.prog (ZD Tryz.prog) Post) (lnF cap 8 k c d) (lnM (.int .i64 n0::.int .i64 n1::.int .i64 n2::.int .i64 n3::.int .i64 n4::.int .i64 n5::.int .i64 n6::.int .i64 n7::tl))=
      (∀_:Int,∀(_:Int) (_:ByteArray) (_:Bool) (x y:ByteArray) (t:Int),Post (.agg #[.string x,.string y,.int .i64 t])):=by kernel_rfl
def Gk(m:Nat)(w:World)(e:Ending)(w':World):Prop:=∃s:ByteArray,e=.returned (.string s)/\s.size<=m/\Below w.heap.size w w'
theorem Ma(w:World)(b:Int):∃x:ByteArray,x.size=1/\(0<=b->b<256->(convert 56 9 (.slice (some ⟨w.heap.size,0,none⟩) 1 1)).run Tryz.prog (w.alloc (.cells #[.int .u8 b] 5))=.ok (.string x) (w.alloc (.cells #[.int .u8 b] 5))):=
 ⟨strOf [b],rfl,fun h0 h1=>QG (l:=[b]) (Am w _ _ _ rfl) (fun y hy=>by rw[List.mem_singleton.1 hy];exact⟨h0,h1⟩)⟩
set_option maxHeartbeats 1000000 in
set_option maxRecDepth 100000 in
theorem Rp:∀(k:Nat) (n:Int) (w:World),0<=n->n<=9223372036854775807->n<10^(k+1)->k<=18->Calls Tryz.prog 39 #[.int .i64 n] w (Gk (k+1) w):=by
 intro k
 induction k with
 |zero=>
  intro n w h0 _ h1 _
  have h1:n<10:=by simpa using h1
  obtain⟨x,hx,hcv⟩:=Ma w (48+n)
  have hcv:=hcv (by omega) (by omega)
  have er:n.tmod 10=n:=Int.tmod_eq_of_lt h0 h1
  unfold Gk
  go_enter Tryz.func39,Tryz.ntmps39
  go_wp2
  go_ret
  exact⟨x,rfl,by omega,(Below.refl _ _).alloc (Nat.le_refl _) _⟩
 | succ k ih=>
  intro n w h0 hn2 h1 hk
  by_cases hn:n<10
  ·obtain⟨x,hx,hcv⟩:=Ma w (48+n)
   have hcv:=hcv (by omega) (by omega)
   have er:n.tmod 10=n:=Int.tmod_eq_of_lt h0 hn
   clear h1 ih
   unfold Gk
   go_enter Tryz.func39,Tryz.ntmps39
   go_wp2
   go_ret
   exact⟨x,rfl,by omega,(Below.refl _ _).alloc (Nat.le_refl _) _⟩
  ·obtain⟨m,hm⟩:∃m,n.tmod 10=m:=⟨_,rfl⟩
   obtain⟨q,hq⟩:∃q,n.tdiv 10=q:=⟨_,rfl⟩
   have hm0:0<=m/\m<10:=by
    rw[<-hm,Int.tmod_eq_emod_of_nonneg h0]
    exact⟨Int.emod_nonneg _ (by decide),Int.emod_lt_of_pos _ (by decide)⟩
   have hq2:q=n / 10:=by rw[<-hq,Int.tdiv_eq_ediv_of_nonneg h0]
   have hq1:q<10^(k+1):=by
    rw[hq2]
    rw[Int.pow_succ]at h1
    exact Int.ediv_lt_of_lt_mul (by decide) h1
   have hi:=fun W=>ih q W (by omega) (by omega) hq1 (by omega)
   obtain⟨x,hx,hcv⟩:=Ma w (48+m)
   have hcv:=hcv (by omega) (by omega)
   have q0:0<=q:=by omega
   have q1:q<=9223372036854775807:=by omega
   clear ih h1 hq1 hq2
   unfold Gk at hi ⊢
   go_enter Tryz.func39,Tryz.ntmps39
   go_wp2_with (go_at_call 39;refine(hi _).mono ?_;rintro e w1 ⟨y,rfl,hy,hb1⟩;have ha:=fun W=>Fx W y x (by omega))
   go_ret
   exact⟨_,rfl,by rw[ByteArray.size_append];omega,((Below.refl _ _).alloc (Nat.le_refl _) _).trans (hb1.mono (by simp))⟩
theorem Gk.mono{k m:Nat}{w w':World}{e:Ending}(h:Gk k w e w')(hk:k<=m):Gk m w e w':=by
 obtain⟨s,he,hs,hb⟩:=h
 exact⟨s,he,by omega,hb⟩
theorem Aoe:(10:Int)^(18+1)=10000000000000000000:=by decide
set_option maxHeartbeats 1000000 in
set_option maxRecDepth 100000 in
theorem Agy(n:Int)(w:World)(h0:-9223372036854775808<=n)(h1:n<=9223372036854775807):Calls Tryz.prog 39 #[.int .i64 n] w (Gk 20 w):=by
 by_cases hn:0<=n
 ·exact(Rp 18 n w hn h1 (by rw[Aoe];omega) (by decide)).mono fun e w' h=>h.mono (by decide)
 by_cases hm:n=-9223372036854775808
 ·subst hm
  unfold Gk
  go_enter Tryz.func39,Tryz.ntmps39
  go_wp2
  go_ret
  exact⟨_,rfl,by decide,Below.refl _ _⟩
 ·have hi:=fun W=>Rp 18 (-n) W (by omega) (by omega) (by rw[Aoe];omega) (by decide)
  have hlt:n<0:=by omega
  unfold Gk at hi ⊢
  go_enter Tryz.func39,Tryz.ntmps39
  go_wp2_with (go_at_call 39;refine(hi _).mono ?_;rintro e w1 ⟨y,rfl,hy,hb1⟩;have ha:=fun W=>Fx W ⟨#[45]⟩ y (by have:(⟨#[45]⟩:ByteArray).size=1:=rfl;omega))
  go_ret
  exact⟨_,rfl,by rw[ByteArray.size_append];have:(⟨#[45]⟩:ByteArray).size=1:=rfl;omega,hb1⟩
set_option maxRecDepth 100000
set_option maxHeartbeats 20000000
def DT(w:World)(e:Ending)(w':World):Prop:=∃(n:Int) (b:Bool),e=.returned (.tuple #[.int .i64 n,.bool b])/\(-9223372036854775808<=n/\n<=9223372036854775807)/\Below w.heap.size w w'
theorem Pi(n:Int):-9223372036854775808<=RowKit.wrap64 n/\RowKit.wrap64 n<=9223372036854775807:=by unfold RowKit.wrap64;omega
theorem Rq:∀d:Nat,d<=9->(-9223372036854775808+(d:Int)).tdiv 10<=0:=by
 have h:∀d:Fin 10,(-9223372036854775808+(d.val:Int)).tdiv 10<=0:=by decide
 intro d hd
 exact h ⟨d,by omega⟩
theorem DT.mk{w w':World}{n:Int}{b:Bool}(hn:-9223372036854775808<=n/\n<=9223372036854775807)(hb:Below w.heap.size w w'):DT w (.returned (.tuple #[.int .i64 n,.bool b])) w':=⟨n,b,rfl,hn,hb⟩
theorem NE:∀d:Nat,d<=9->-9223372036854775808<=10*((-9223372036854775808+(d:Int)).tdiv 10)-d/\-922337203685477580<=(-9223372036854775808+(d:Int)).tdiv 10:=by
 have h:∀d:Fin 10,-9223372036854775808<=10*((-9223372036854775808+(d.val:Int)).tdiv 10)-d.val/\-922337203685477580<=(-9223372036854775808+(d.val:Int)).tdiv 10:=by decide
 intro d hd
 exact h ⟨d,by omega⟩
theorem ZE(s:ByteArray)(w:World)(hs:s.size<=100000):Calls Tryz.prog 18 #[.string s] w (DT w):=by
 by_cases h0:s.size=0
 ·obtain rfl:s=⟨#[]⟩:=ByteArray.ext (Array.eq_empty_of_size_eq_zero h0)
  go_enter Tryz.func18,Tryz.ntmps18
  go_wp2
  go_ret2
  exact DT.mk (by decide) (Below.refl _ _)
 have hse:s.toList.isEmpty=false:=Dw h0
 have i0:0<s.size:=by omega
 obtain⟨f,hf⟩:∃b,(s[0]'i0).toNat=b:=⟨_,rfl⟩
 have hnum:=fun n W a b=>Agy n W a b
 unfold Gk at hnum
 by_cases hm:f=45
 ·have c45:((f:Int)==45)=true:=by simp;omega
  have hsl:∀W:World,(Instr.slice 9 (.string s) (some (.int .i64 1)) none none).run Tryz.prog W=.ok (.string (s.extract 1 s.size)) W:=fun W=>by
   rw[run_slice_string_from_if W 9 s .i64 1 Tryz.underlying9,if_pos (by omega)]
   rfl
  obtain⟨t,ht⟩:∃z:ByteArray,z=s.extract 1 s.size:=⟨_,rfl⟩
  rw[<-ht]at hsl
  have hts:t.size<=s.size:=by rw[ht,ByteArray.size_extract];omega
  clear ht
  by_cases t0:t.size=0
  ·obtain rfl:t=⟨#[]⟩:=ByteArray.ext (Array.eq_empty_of_size_eq_zero t0)
   go_enter Tryz.func18,Tryz.ntmps18
   go_wp2
   go_ret2
   exact DT.mk (by decide) (Below.refl _ _)
  have hte:t.toList.isEmpty=false:=Dw t0
  by_cases t1:19<t.size
  ·go_enter Tryz.func18,Tryz.ntmps18
   go_wp2
   go_ret2
   exact DT.mk (by decide) (Below.refl _ _)
  go_enter Tryz.func18,Tryz.ntmps18
  go_wp2
  go_loopw [6,7] (fun nv iv wr=>∃(k:Nat) (n:Int),k<=t.size/\iv=.int .i64 k/\nv=.int .i64 n/\-9223372036854775808<=n/\n<=0/\Below w.heap.size w wr) (fun _ i _=>t.size-(intOf i).toNat)
  case atStart=>exact⟨0,0,Nat.zero_le _,rfl,rfl,by decide,by decide,Below.refl _ _⟩
  case round=>
   obtain⟨k,n,hk,rfl,rfl,hn0,hn1,hnx⟩:=hrel
   generalize hM:(-9223372036854775808:Int)=M
   have HM:Hid (-9223372036854775808=M):=hM
   clear hM
   by_cases hkt:k<t.size
   case neg=>
    obtain rfl:k=t.size:=by omega
    go_wp2_with (go_at_call 39;refine(hnum _ _ (by omega) (by omega)).mono ?_;rintro e w1 ⟨y,rfl,hy,hb1⟩)
    go_ret2
    exact DT.mk (by omega) (hnx.trans (hb1.mono hnx.size))
   obtain⟨b0,hb0⟩:∃b,(t[k]'hkt).toNat=b:=⟨_,rfl⟩
   have hb1:b0<256:=by rw[<-hb0];exact UInt8.toNat_lt _
   by_cases l0:b0<48
   ·go_wp2
    go_ret2
    exact DT.mk (by decide) hnx
   by_cases l1:57<b0
   ·go_wp2
    go_ret2
    exact DT.mk (by decide) hnx
   obtain⟨d,rfl⟩:∃d,b0=d+48:=⟨b0-48,by omega⟩
   have hd:d<=9:=by omega
   have c0:decide ((d:Int)+48<48)=false:=decide_eq_false (by omega)
   have c1:decide ((57:Int)<(d:Int)+48)=false:=decide_eq_false (by omega)
   clear l0 l1
   have hp:=NE d hd
   rw[HM.out]at hp
   obtain⟨q,hq⟩:∃q,(M+(d:Int)).tdiv 10=q:=⟨_,rfl⟩
   rw[hq]at hp
   have hp1:=hp.1
   have hp2:=hp.2
   have hM:=HM.out
   have hw1:RowKit.wrap64 (M+(d:Int))=M+d:=IntWalk.wrap64_in _ (by omega)
   have q0:-9223372036854775808<=q:=by omega
   have q1:q<=9223372036854775807:=by rw[<-hq,<-hM];exact Int.le_trans (Rq d hd) (by decide)
   by_cases hnq:n<q
   ·clear hp hp1 hp2 hM hnum
    go_wp2
    go_ret2
    exact DT.mk (by decide) hnx
   ·have p1:-9223372036854775808<=n*10:=by omega
    have p2:n*10<=0:=by omega
    have p3:-9223372036854775808<=n*10-d:=by omega
    have p4:n*10-d<=0:=by omega
    clear hp hp1 hp2 hM hnum hb1
    go_wp2
    go_roundw
    case rel=>exact⟨k+1,n*10-d,by omega,by go_num,by go_num,by have:=HM.out;omega,by omega,hnx⟩
    case measure=>simp[intOf];omega
 ·have c45:((f:Int)==45)=false:=by simp;omega
  by_cases t1:19<s.size
  ·go_enter Tryz.func18,Tryz.ntmps18
   go_wp2
   go_ret2
   exact DT.mk (by decide) (Below.refl _ _)
  go_enter Tryz.func18,Tryz.ntmps18
  go_wp2
  go_loopw [6,7] (fun nv iv wr=>∃(k:Nat) (n:Int),k<=s.size/\iv=.int .i64 k/\nv=.int .i64 n/\-9223372036854775808<=n/\n<=0/\Below w.heap.size w wr) (fun _ i _=>s.size-(intOf i).toNat)
  case atStart=>exact⟨0,0,Nat.zero_le _,rfl,rfl,by decide,by decide,Below.refl _ _⟩
  case round=>
   obtain⟨k,n,hk,rfl,rfl,hn0,hn1,hnx⟩:=hrel
   generalize hM:(-9223372036854775808:Int)=M
   have HM:Hid (-9223372036854775808=M):=hM
   clear hM
   by_cases hkt:k<s.size
   case neg=>
    obtain rfl:k=s.size:=by omega
    go_wp2_with (go_at_call 39;refine(hnum _ _ (Pi _).1 (Pi _).2).mono ?_;rintro e w1 ⟨y,rfl,hy,hb1⟩)
    ·go_ret2
     exact DT.mk (by decide) hnx
    ·go_ret2
     exact DT.mk (Pi _) (hnx.trans (hb1.mono hnx.size))
   obtain⟨b0,hb0⟩:∃b,(s[k]'hkt).toNat=b:=⟨_,rfl⟩
   have hb1:b0<256:=by rw[<-hb0];exact UInt8.toNat_lt _
   by_cases l0:b0<48
   ·go_wp2
    go_ret2
    exact DT.mk (by decide) hnx
   by_cases l1:57<b0
   ·go_wp2
    go_ret2
    exact DT.mk (by decide) hnx
   obtain⟨d,rfl⟩:∃d,b0=d+48:=⟨b0-48,by omega⟩
   have hd:d<=9:=by omega
   have c0:decide ((d:Int)+48<48)=false:=decide_eq_false (by omega)
   have c1:decide ((57:Int)<(d:Int)+48)=false:=decide_eq_false (by omega)
   clear l0 l1
   have hp:=NE d hd
   rw[HM.out]at hp
   obtain⟨q,hq⟩:∃q,(M+(d:Int)).tdiv 10=q:=⟨_,rfl⟩
   rw[hq]at hp
   have hp1:=hp.1
   have hp2:=hp.2
   have hM:=HM.out
   have hw1:RowKit.wrap64 (M+(d:Int))=M+d:=IntWalk.wrap64_in _ (by omega)
   have q0:-9223372036854775808<=q:=by omega
   have q1:q<=9223372036854775807:=by rw[<-hq,<-hM];exact Int.le_trans (Rq d hd) (by decide)
   by_cases hnq:n<q
   ·clear hp hp1 hp2 hM hnum
    go_wp2
    go_ret2
    exact DT.mk (by decide) hnx
   ·have p1:-9223372036854775808<=n*10:=by omega
    have p2:n*10<=0:=by omega
    have p3:-9223372036854775808<=n*10-d:=by omega
    have p4:n*10-d<=0:=by omega
    clear hp hp1 hp2 hM hnum hb1
    go_wp2
    go_roundw
    case rel=>exact⟨k+1,n*10-d,by omega,by go_num,by go_num,by have:=HM.out;omega,by omega,hnx⟩
    case measure=>simp[intOf];omega
end Go.Proofs.YtgmpfeaanjnhaaaGreatDoor
namespace Go.Proofs.YtgmpfeaanjnhaaaGreatDoor
open Go.RowKit
def Rr(B:Nat)(w:World)(v:Value)(l:List Int):Prop:=w.ownsRow B 2 1 v l.length (l.map fun n=>Value.int .i64 n)
theorem Rr.below{B:Nat}{w w':World}{v:Value}{l:List Int}(h:Rr B w v l)(hb:Below w.heap.size w w'):Rr B w' v l:=by
 refine⟨h.1,?_⟩
 rcases h.2 with hn |⟨g,cap,cur,rfl,hg,hgg,rest⟩
 ·exact .inl hn
 ·exact .inr ⟨g,cap,cur,rfl,hg,by rw[hb.block g (Array.getElem?_eq_some_iff.1 hgg).1];exact hgg,rest⟩
theorem Rr.len{B:Nat}{w:World}{v:Value}{l:List Int}(h:Rr B w v l):∃a c,v=.slice a l.length c:=by
 rcases h.2 with⟨rfl,h0⟩|⟨g,cap,cur,rfl,_⟩
 ·exact⟨none,0,by rw[h0]⟩
 ·exact⟨_,_,rfl⟩
theorem Rr.arr{B:Nat}{w:World}{v:Value}{l:List Int}(h:Rr B w v l)(hl:l≠[]):∃g c tl,v=.slice (some ⟨g,0,none⟩) l.length c/\B<=g/\Ap g ((l.map fun n=>Value.int .i64 n)++tl) w/\l.length<=c:=by
 rcases h.2 with⟨_,h0⟩|⟨g,cap,cur,rfl,hg,hgg,hn,hm,hs,ht⟩
 ·exact absurd (List.length_eq_zero_iff.1 h0) hl
 ·refine⟨g,cap,cur.toList.drop l.length,rfl,hg,?_,hn⟩
  rw[<-ht,Nat.mul_one,List.take_append_drop]
  refine⟨fun i hi=>?_,fun i hi=>?_,(Array.getElem?_eq_some_iff.1 hgg).1⟩
  ·rw[Lib.cell_of_heap hgg]
   simp at hi ⊢
  ·exact Lib.frozen_of_heap hgg i
theorem Ame{w wr:World}{g:Nat}{l:List Value}(hG:GW w)(hB:Below w.heap.size w wr)(Ar:Ap w.heap.size [.string ⟨#[]⟩,.string ⟨#[]⟩,.int .i64 0] wr)(Ab:Ap (w.heap.size+1) [.string ⟨#[98,97,100]⟩,.string ⟨#[]⟩,.int .i64 0] wr)(An:Ap g l wr)(hg:w.heap.size+2<=g):RW [] w [some w.heap.size,some (w.heap.size+1),some g] (lnM l) wr:=by
 refine⟨fun i B hi=>?_,fun i j B hi hj=>?_,fun i B hi=>?_,hB.os,hB.tape,hB.output,hB.size,fun i hi _=>hB.block i hi,hG,fun b hb=>by cases hb⟩
 ·match i,hi with
  |0,hi=>cases hi;exact⟨_,rfl,Ar⟩
  |1,hi=>cases hi;exact⟨_,rfl,Ab⟩
  |2,hi=>cases hi;exact⟨_,rfl,An⟩
 ·match i,j,hi,hj with
  |0,0,_,_=>rfl
  |1,1,_,_=>rfl
  |2,2,_,_=>rfl
  |0,1,hi,hj=>simp at hi hj;omega
  |0,2,hi,hj=>simp at hi hj;omega
  |1,0,hi,hj=>simp at hi hj;omega
  |1,2,hi,hj=>simp at hi hj;omega
  |2,0,hi,hj=>simp at hi hj;omega
  |2,1,hi,hj=>simp at hi hj;omega
 ·match i,hi with
  |0,hi=>cases hi;exact .inr (.inl (Nat.le_refl _))
  |1,hi=>cases hi;exact .inr (.inl (Nat.le_succ _))
  |2,hi=>cases hi;exact .inr (.inl (by omega))
theorem GB{w wr:World}{a:Act}{X:Code}(hX:X=.seq (CC [false] X) (CC [true] X)){id g n cap:Nat}{K K2:Act->World->Prop}{kk cc:Int}{l:List Value}(hG:GW w)(hB:Below w.heap.size w wr)(Ar:Ap w.heap.size [.string ⟨#[]⟩,.string ⟨#[]⟩,.int .i64 0] wr)(Ab:Ap (w.heap.size+1) [.string ⟨#[98,97,100]⟩,.string ⟨#[]⟩,.int .i64 0] wr)(An:Ap g l wr)(hg:w.heap.size+2<=g)
    (ht:a.tmps.size=217) (hd:a.defers=[]) (s2:a.tmps.getD 2 undef=ptr w.heap.size) (s3:a.tmps.getD 3 undef=ptr (w.heap.size+1)) (s6:a.tmps.getD 6 undef=.slice (some ⟨g,0,none⟩) n cap) (s10:a.tmps.getD 10 undef=.int .i64 kk) (s11:a.tmps.getD 11 undef=.int .i64 cc)
    (h:∀d Post,(∀x y t,Post (.agg #[.string x,.string y,.int .i64 t]))->BR Tryz.prog lnT (fun _=>[]) 8 (fun _=>none) X (SP Tryz.prog (ZD Tryz.prog) Post) (lnF cap n kk cc d) (lnM l))
    (hK:∀a w',(CC [true] X).wp Tryz.prog (Exit.inBlock id (Exit.then K2 (bodyPost Tryz.prog Tryz.f9 (BK w)))) a w'->K a w'):
    (CC [false] X).wp Tryz.prog (Exit.then K (Exit.inBlock id (Exit.then K2 (bodyPost Tryz.prog Tryz.f9 (BK w))))) a wr:=by
 refine Yf (tbl:=lnT) (dirty:=fun _=>[]) (n:=8) (ov:=fun _=>none) (bs:=[]) (w0:=w) (ds:=[]) (bl0:=[some w.heap.size,some (w.heap.size+1),some g]) (bl:=[some w.heap.size,some (w.heap.size+1),some g]) (vt:=lnF cap n kk cc (fun j=>a.tmps.getD j undef)) (m:=lnM l) Ag V2 V2
  (Acz (fn:=ZD Tryz.prog) (Post:=fun v=>∃x y t,v=.agg #[.string x,.string y,.int .i64 t]) (by kernel_rfl) rfl (fun v bl m w' hv R'=>?_)) (by rw[<-hX];exact h _ _ (fun x y t=>⟨x,y,t,rfl⟩)) ⟨Auh ht (fun p hp=>?_),Ame hG hB Ar Ab An hg,Le.refl _,rfl,hd⟩ hK
 ·obtain⟨x,y,t,rfl⟩:=hv
  exact⟨x,y,t,rfl,R'.os,R'.tape,R'.output,R'.size,fun i hi=>R'.block i hi List.not_mem_nil⟩
 ·simp only[List.mem_cons,List.not_mem_nil,or_false]at hp
  rcases hp with rfl |rfl |rfl |rfl |rfl
  ·rw[s2];exact⟨_,rfl,rfl⟩
  ·rw[s3];exact⟨_,rfl,rfl⟩
  ·rw[s6];exact⟨_,rfl,rfl⟩
  ·rw[s10];rfl
  ·rw[s11];rfl
theorem AU{α:Type}{l:List α}{n:Nat}(h:l.length=n+1):∃a r,l=a::r/\r.length=n:=by
 cases l with
 |nil=>cases h
 |cons a r=>exact⟨a,r,rfl,by simpa using h⟩
def hexT(s:ByteArray):ByteArray×Bool:=
 if s=⟨#[45]⟩then(⟨#[]⟩,true)else if s.size % 2=0/\∀i,i<s.size / 2->JG s i=true then(strOf (hexL s (s.size / 2) (s.size / 2)),true)else(⟨#[]⟩,false)
theorem Amf{s:ByteArray}{e:Ending}(h:HexEnd s e):e=.returned (.tuple #[.string (hexT s).1,.bool (hexT s).2]):=by
 unfold HexEnd at h
 unfold hexT
 split at h
 ·rename_i c
  rw[if_pos c]
  exact h
 ·rename_i c
  rw[if_neg c]
  split at h
  ·rename_i d
   rw[if_pos d]
   exact h
  ·rename_i d
   rw[if_neg d]
   exact h
def rawT(ws:List ByteArray):ByteArray×Bool:=if ws.length=1 then hexT (ws.getD 0 ⟨#[]⟩)else(⟨#[]⟩,false)
set_option maxHeartbeats 1000000 in
set_option maxRecDepth 100000 in
theorem Amg(v:Value)(ws:List ByteArray)(w:World)(hv:CE w v ws)(h1:∀i,i<ws.length->1<=(ws.getD i ⟨#[]⟩).size)(hs:∀i,(ws.getD i ⟨#[]⟩).size<=100000):
    Calls Tryz.prog 31 #[v] w fun e w'=>e=.returned (.tuple #[.string (rawT ws).1,.bool (rawT ws).2])/\Below w.heap.size w w':=by
 obtain⟨a,c,rfl,hc,hk⟩:=hv
 by_cases hlm:ws.length=1
 ·obtain⟨g0,o,rfl,hg0,hcell⟩:=hk (fun e=>by rw[e]at hlm;simp at hlm)
  have e1:rawT ws=hexT (ws.getD 0 ⟨#[]⟩):=by unfold rawT;rw[if_pos hlm]
  have c0:w.cell? ⟨g0,o,none⟩=some (.string (ws.getD 0 ⟨#[]⟩)):=by
   have:=hcell 0 (by omega)
   rw[Nat.add_zero]at this
   rw[this,List.getD_eq_getElem?_getD,List.getElem?_eq_getElem (by omega)]
   rfl
  have hb:=Yl (ws.getD 0 ⟨#[]⟩) w (h1 0 (by omega)) (hs 0)
  rw[e1]
  rw[hlm]at hc ⊢
  generalize ws.getD 0 ⟨#[]⟩=p at c0 hb ⊢
  have hb:Calls Tryz.prog 46 #[.string p] w fun e w'=>e=.returned (.tuple #[.string (hexT p).1,.bool (hexT p).2])/\Below w.heap.size w w':=hb.mono fun e w' h=>⟨Amf h.1,h.2⟩
  generalize hexT p=q at hb ⊢
  obtain⟨q,b⟩:=q
  clear hk hcell h1 hs hlm e1
  go_enter Tryz.func31,Tryz.ntmps31
  go_wp2_with (go_at_call 46;refine hb.mono ?_;rintro e w1 ⟨rfl,hb1⟩)
  go_ret2
  exact⟨rfl,hb1⟩
 ·have e1:rawT ws=(⟨#[]⟩,false):=by unfold rawT;rw[if_neg hlm]
  rw[e1]
  clear hk h1 hs e1
  have hne:¬((ws.length:Int)=1):=by omega
  generalize ws.length=n at hc hne
  clear hlm
  go_enter Tryz.func31,Tryz.ntmps31
  go_wp2
  go_ret2
  exact⟨rfl,Below.refl _ _⟩
def Agz:ByteArray:=⟨#[111,107]⟩
def err1:ByteArray:=⟨#[101,114,114,111,114,32,49]⟩
def Ar9:ByteArray:=⟨#[101,114,114,111,114,32,52]⟩
def EK(s t:ByteArray)(ok:Bool):ByteArray×ByteArray:=if ok=false then(err1,s)else if s.size+t.size>2000 then(Ar9,s)else(Agz,s++t)
set_option maxHeartbeats 1000000 in
set_option maxRecDepth 100000 in
theorem Ag0(b:Nat)(s t:ByteArray)(ok:Bool)(w:World)(hc:w.cell? ⟨b,71,none⟩=some (.string s))(hf:w.frozen? ⟨b,71,none⟩=false)(hs:s.size<=2000)(ht:t.size<=100000):
    Calls Tryz.prog 30 #[.pointer (some ⟨b,0,none⟩),.string t,.bool ok] w fun e w'=>e=.returned (.string (EK s t ok).1)/\(w'=w/\(EK s t ok).2=s∨w'=w.setCell ⟨b,71,none⟩ (.string (EK s t ok).2)):=by
 cases ok with
 |false=>
  have e1:EK s t false=(err1,s):=rfl
  rw[e1]
  clear e1
  go_enter Tryz.func30,Tryz.ntmps30
  go_wp2
  go_ret
  exact⟨rfl,.inl ⟨rfl,trivial⟩⟩
 | true=>
  by_cases h:s.size+t.size>2000
  ·have e1:EK s t true=(Ar9,s):=by unfold EK;rw[if_neg (by decide),if_pos h]
   rw[e1]
   clear e1
   go_enter Tryz.func30,Tryz.ntmps30
   go_wp2
   go_ret
   exact⟨rfl,.inl ⟨rfl,trivial⟩⟩
  ·have e1:EK s t true=(Agz,s++t):=by unfold EK;rw[if_neg (by decide),if_neg h]
   rw[e1]
   clear e1
   go_enter Tryz.func30,Tryz.ntmps30
   go_wp2
   go_ret
   exact⟨rfl,.inr rfl⟩
set_option maxRecDepth 100000
set_option maxHeartbeats 20000000
def itoaB(n:Int):ByteArray:=⟨(Lib.itoa n).toArray⟩
def NF(f:Nat->Int)(k i:Nat):ByteArray:=if i<k then itoaB (f i)else⟨#[]⟩
def lineC(m:Nat)(f:Nat->Int)(k:Nat):List Value:=(List.range m).map fun i=>.string (NF f k i)
theorem BB(m:Nat)(f:Nat->Int)(k:Nat):(lineC m f k).length=m:=by unfold lineC;simp
theorem IK{m:Nat}{f:Nat->Int}{k i:Nat}(h:i<m):(lineC m f k)[i]? =some (.string (NF f k i)):=by
 unfold lineC
 rw[List.getElem?_map,List.getElem?_range h]
 rfl
theorem NG(m:Nat)(f:Nat->Int)(k:Nat):lineC m f (k+1)=(lineC m f k).set k (.string (itoaB (f k))):=by
 apply List.ext_getElem?
 intro i
 rw[List.getElem?_set]
 by_cases hm:i<m
 ·rw[IK hm,IK hm]
  unfold NF
  by_cases h:k=i
  ·subst h
   rw[if_pos (show k<k+1 by omega),if_pos rfl,if_pos (by rw[BB];exact hm)]
  ·rw[if_neg h]
   by_cases h1:i<k
   ·rw[if_pos h1,if_pos (by omega)]
   ·rw[if_neg h1,if_neg (by omega)]
 ·have e:∀j,(lineC m f j)[i]? =none:=fun j=>List.getElem?_eq_none (by rw[BB];omega)
  rw[e,e]
  by_cases h:k=i
  ·subst h
   rw[if_pos rfl,if_neg (by rw[BB];exact hm)]
  ·rw[if_neg h]
theorem NH(m:Nat)(f:Nat->Int):madeCells #[.string ⟨#[]⟩] m=(lineC m f 0).toArray:=by
 apply Array.ext
 ·simp[madeCells,lineC]
 ·intro i h1 h2
  simp[madeCells,lineC,NF,Nat.mod_one]
def lineW(m:Nat)(f:Nat->Int):List UInt8:=Lib.join ((List.range m).map fun i=>Lib.itoa (f i)) [32]
theorem Xe:∀(l:List (List UInt8)),(∀x∈l,x.length<=21)->Lib.lens l<=21*l.length
 |[],_=>Nat.zero_le _
 |x::l,h=>by
  have h1:=h x List.mem_cons_self
  have h2:=Xe l (fun y hy=>h y (List.mem_cons_of_mem _ hy))
  show x.length+Lib.lens l<=21*(l.length+1)
  omega
theorem Fb(m:Nat)(f:Nat->Int)(hf:∀i,-9223372036854775808<=f i/\f i<=9223372036854775807):(lineW m f).length<=22*m:=by
 unfold lineW
 have h:∀l:List (List UInt8),(∀x∈l,x.length<=21)->(Lib.join l [32]).length<=22*l.length:=fun l hl=>by
  cases l with
  |nil=>exact Nat.zero_le _
  |cons x r=>
   rw[Lib.join_length]
   have:=Xe (x::r) hl
   simp only[List.length_cons,List.length_nil]at this ⊢
   omega
 have:=h ((List.range m).map fun i=>Lib.itoa (f i)) (fun x hx=>by
  obtain⟨i,_,rfl⟩:=List.mem_map.1 hx
  exact Lib.itoa_length_le _ (hf i).1 (hf i).2)
 simpa using this
theorem NI:(Tryz.prog.info? 9).map (fun i=>(i.zero,i.size,i.bytes))=some (some (.string ⟨#[]⟩),1,16):=by kernel_rfl
theorem Rs(g m:Nat)(f:Nat->Int)(w:World)(hw:SW w)(hA:Ap g (row m f) w)(h1:1<=m)(hm:m<=100)(hf:∀i,-9223372036854775808<=f i/\f i<=9223372036854775807):
    Calls Tryz.prog 53 #[.slice (some ⟨g,0,none⟩) m m] w fun e w'=>e=.returned (.string ⟨(lineW m f).toArray⟩)/\Below w.heap.size w w':=by
 have hmk:=run_make_row' (P:=Tryz.prog) 29 9 (.string ⟨#[]⟩) 16 Tryz.underlying29 NI rfl .i64 .i64 m (by omega) (by omega)
 simp only[NH m f]at hmk
 have HF:Hid (∀i W,SW W->Calls Tryz.prog 82 #[.int .i64 (f i),.int .i64 10] W fun e w'=>e=.returned (.string (itoaB (f i)))/\Below W.heap.size W w'):=fun i W hW=>S7 _ (hf i).1 (hf i).2 W hW
 have HC:Hid (∀i,i<m->w.cell? ⟨g,i,none⟩=some (.int .i64 (f i))):=fun i hi=>DI hA i hi
 have hg:=hA.lies
 have HJ:Hid (∀W,Ap w.heap.size (lineC m f m) W->Calls Tryz.prog 83 #[.slice (some ⟨w.heap.size,0,none⟩) m m,.string ⟨#[32]⟩] W fun e w'=>e=.returned (.string ⟨(lineW m f).toArray⟩)/\Below W.heap.size W w'):=fun W A=>by
  have e1:((List.range m).map fun i=>itoaB (f i)).length=m:=by simp
  have e2:((List.range m).map fun i=>itoaB (f i)).map (·.data.toList)=(List.range m).map fun i=>Lib.itoa (f i):=by rw[List.map_map];rfl
  have j:=Ac5 w.heap.size 0 m ((List.range m).map fun i=>itoaB (f i)) W (fun i x hx=>by
   have hi:i<m:=by have:=(List.getElem?_eq_some_iff.1 hx).1;omega
   rw[List.getElem?_map,List.getElem?_range hi]at hx
   have hx:=Option.some.inj hx
   have c:=A.c i (by rw[BB];exact hi)
   rw[Nat.zero_add,c,<-hx]
   have:=IK (f:=f) (k:=m) hi
   rw[List.getElem?_eq_getElem (by rw[BB];exact hi)]at this
   rw[this]
   unfold NF
   rw[if_pos hi]) A.lies (by omega) (by omega) (by rw[e2];have:=Fb m f hf;unfold lineW at this;omega)
  rw[e1,e2]at j
  exact j
 have HW:Hid (SW w):=hw
 clear hw hA hf
 go_enter Tryz.func53,Tryz.ntmps53
 go_wp2
 have A0:Ap w.heap.size (lineC m f 0) (w.alloc (.cells (lineC m f 0).toArray 9)):=Am w _ _ _ rfl
 have B0:Below w.heap.size w (w.alloc (.cells (lineC m f 0).toArray 9)):=(Below.refl _ _).alloc (Nat.le_refl _) _
 generalize w.alloc (.cells (lineC m f 0).toArray 9)=W0 at A0 B0 ⊢
 clear hmk
 go_loopw [11] (fun i wr=>∃k:Nat,k<=m/\i=.int .i64 k/\Ap w.heap.size (lineC m f k) wr/\Below w.heap.size w wr) (fun i _=>m-(intOf i).toNat)
 case atStart=>exact⟨0,by omega,rfl,A0,B0⟩
 case round=>
  obtain⟨k,hk,rfl,hA,hnx⟩:=hrel
  have HA:Hid (Ap w.heap.size (lineC m f k) wr):=hA
  clear hA
  by_cases hkm:k<m
  ·have c0:=(hnx.cell (p:=⟨g,k,none⟩) hg).trans (HC.out k hkm)
   have hnum:=HF.out k
   have hput:Hid (lineC m f (k+1)=(lineC m f k).set k (.string (itoaB (f k)))):=NG m f k
   generalize itoaB (f k)=q at hnum hput
   generalize f k=p at c0 hnum
   go_wp2_with (go_at_call 82;refine(hnum _ (HW.out.below hnx)).mono ?_;rintro e w1 ⟨rfl,hb1⟩;have A1:=HA.out.below hb1;have c1:=(A1.c k (by rw[BB];exact hkm));have f1:=A1.f k (by rw[BB];exact hkm))
   go_roundw
   case rel=>exact⟨k+1,by omega,by go_num,(HA.out.below hb1).put k (by rw[BB];exact hkm) _ _ hput.out,Al (hnx.trans (hb1.mono hnx.size)) _ _ (Nat.le_refl _) _⟩
   case measure=>simp[intOf];omega
  ·have hkn:k=m:=by omega
   subst hkn
   have hj:=HJ.out wr HA.out
   go_wp2_with (go_at_call 83;refine hj.mono ?_;rintro e w1 ⟨rfl,hb1⟩)
   go_ret
   exact⟨rfl,hnx.trans (hb1.mono hnx.size)⟩
theorem Ag1(g m:Nat)(f:Nat->Int)(w:World)(hw:SW w)(hA:Ap g (row m f) w)(h1:1<=m)(hm:m<=100)(hf:∀i,-9223372036854775808<=f i/\f i<=9223372036854775807):
    Calls Tryz.prog 54 #[.slice (some ⟨g,0,none⟩) m m] w fun e w'=>e=.returned (.string ⟨(lineW m f).toArray⟩)/\Below w.heap.size w w':=by
 have hmk:=run_make_row' (P:=Tryz.prog) 29 9 (.string ⟨#[]⟩) 16 Tryz.underlying29 NI rfl .i64 .i64 m (by omega) (by omega)
 simp only[NH m f]at hmk
 have HF:Hid (∀i W,SW W->Calls Tryz.prog 82 #[.int .i64 (f i),.int .i64 10] W fun e w'=>e=.returned (.string (itoaB (f i)))/\Below W.heap.size W w'):=fun i W hW=>S7 _ (hf i).1 (hf i).2 W hW
 have HC:Hid (∀i,i<m->w.cell? ⟨g,i,none⟩=some (.int .i64 (f i))):=fun i hi=>DI hA i hi
 have hg:=hA.lies
 have HJ:Hid (∀W,Ap w.heap.size (lineC m f m) W->Calls Tryz.prog 83 #[.slice (some ⟨w.heap.size,0,none⟩) m m,.string ⟨#[32]⟩] W fun e w'=>e=.returned (.string ⟨(lineW m f).toArray⟩)/\Below W.heap.size W w'):=fun W A=>by
  have e1:((List.range m).map fun i=>itoaB (f i)).length=m:=by simp
  have e2:((List.range m).map fun i=>itoaB (f i)).map (·.data.toList)=(List.range m).map fun i=>Lib.itoa (f i):=by rw[List.map_map];rfl
  have j:=Ac5 w.heap.size 0 m ((List.range m).map fun i=>itoaB (f i)) W (fun i x hx=>by
   have hi:i<m:=by have:=(List.getElem?_eq_some_iff.1 hx).1;omega
   rw[List.getElem?_map,List.getElem?_range hi]at hx
   have hx:=Option.some.inj hx
   have c:=A.c i (by rw[BB];exact hi)
   rw[Nat.zero_add,c,<-hx]
   have:=IK (f:=f) (k:=m) hi
   rw[List.getElem?_eq_getElem (by rw[BB];exact hi)]at this
   rw[this]
   unfold NF
   rw[if_pos hi]) A.lies (by omega) (by omega) (by rw[e2];have:=Fb m f hf;unfold lineW at this;omega)
  rw[e1,e2]at j
  exact j
 have HW:Hid (SW w):=hw
 clear hw hA hf
 go_enter Tryz.func54,Tryz.ntmps54
 go_wp2
 have A0:Ap w.heap.size (lineC m f 0) (w.alloc (.cells (lineC m f 0).toArray 9)):=Am w _ _ _ rfl
 have B0:Below w.heap.size w (w.alloc (.cells (lineC m f 0).toArray 9)):=(Below.refl _ _).alloc (Nat.le_refl _) _
 generalize w.alloc (.cells (lineC m f 0).toArray 9)=W0 at A0 B0 ⊢
 clear hmk
 go_loopw [11] (fun i wr=>∃k:Nat,k<=m/\i=.int .i64 k/\Ap w.heap.size (lineC m f k) wr/\Below w.heap.size w wr) (fun i _=>m-(intOf i).toNat)
 case atStart=>exact⟨0,by omega,rfl,A0,B0⟩
 case round=>
  obtain⟨k,hk,rfl,hA,hnx⟩:=hrel
  have HA:Hid (Ap w.heap.size (lineC m f k) wr):=hA
  clear hA
  by_cases hkm:k<m
  ·have c0:=(hnx.cell (p:=⟨g,k,none⟩) hg).trans (HC.out k hkm)
   have hnum:=HF.out k
   have hput:Hid (lineC m f (k+1)=(lineC m f k).set k (.string (itoaB (f k)))):=NG m f k
   generalize itoaB (f k)=q at hnum hput
   generalize f k=p at c0 hnum
   go_wp2_with (go_at_call 82;refine(hnum _ (HW.out.below hnx)).mono ?_;rintro e w1 ⟨rfl,hb1⟩;have A1:=HA.out.below hb1;have c1:=(A1.c k (by rw[BB];exact hkm));have f1:=A1.f k (by rw[BB];exact hkm))
   go_roundw
   case rel=>exact⟨k+1,by omega,by go_num,(HA.out.below hb1).put k (by rw[BB];exact hkm) _ _ hput.out,Al (hnx.trans (hb1.mono hnx.size)) _ _ (Nat.le_refl _) _⟩
   case measure=>simp[intOf];omega
  ·have hkn:k=m:=by omega
   subst hkn
   have hj:=HJ.out wr HA.out
   go_wp2_with (go_at_call 83;refine hj.mono ?_;rintro e w1 ⟨rfl,hb1⟩)
   go_ret
   exact⟨rfl,hnx.trans (hb1.mono hnx.size)⟩
end Go.Proofs.YtgmpfeaanjnhaaaGreatDoor
namespace Go.Proofs.YtgmpfeaanjnhaaaGreatDoor
open Go.RowKit
def six(a b c d e f:Int):Nat->Int:=fun i=>[a,b,c,d,e,f].getD i 0
theorem Ag2(a b c d e f:Int)(w U:World)(t:TypeId)(g:Nat)(hg:g=U.heap.size)(hw:SW w)(hb:Below w.heap.size w U)(hr:∀i,-9223372036854775808<=six a b c d e f i/\six a b c d e f i<=9223372036854775807):
    Calls Tryz.prog 53 #[.slice (some ⟨g,0,none⟩) 6 6] (U.alloc (.cells #[.int .i64 a,.int .i64 b,.int .i64 c,.int .i64 d,.int .i64 e,.int .i64 f] t)) fun x w'=>x=.returned (.string ⟨(lineW 6 (six a b c d e f)).toArray⟩)/\Below w.heap.size w w':=by
 subst hg
 have hB:Below w.heap.size w (U.alloc (.cells (row 6 (six a b c d e f)).toArray t)):=hb.alloc hb.size _
 refine(Rs U.heap.size 6 (six a b c d e f) (U.alloc (.cells (row 6 (six a b c d e f)).toArray t)) (hw.below hB) (Am U _ _ _ rfl) (by decide) (by decide) hr).mono ?_
 rintro x w' ⟨hx,hk⟩
 exact⟨hx,hB.trans (hk.mono hB.size)⟩
def planT(n:Nat)(a b c d e f:Int):ByteArray:=if n=0 then⟨(lineW 6 (six a b c d e f)).toArray⟩else err1
set_option maxHeartbeats 400000 in
set_option maxRecDepth 100000 in
theorem Ag3(k:Nat)(a b c d e f:Int)(r:Option Addr)(n m:Nat)(w:World)(hw:SW w)(hnm:n<=m)(hn:n<=100000)
    (c0:w.cell? ⟨k,3,none⟩=some (.int .i64 a)) (c1:w.cell? ⟨k,4,none⟩=some (.int .i64 b)) (c2:w.cell? ⟨k,5,none⟩=some (.int .i64 c)) (c3:w.cell? ⟨k,6,none⟩=some (.int .i64 d)) (c4:w.cell? ⟨k,7,none⟩=some (.int .i64 e)) (c5:w.cell? ⟨k,8,none⟩=some (.int .i64 f))
    (hr:∀i,-9223372036854775808<=six a b c d e f i/\six a b c d e f i<=9223372036854775807):
    Calls Tryz.prog 36 #[.pointer (some ⟨k,0,none⟩),.slice r n m] w fun x w'=>x=.returned (.string (planT n a b c d e f))/\Below w.heap.size w w':=by
 by_cases h0:n=0
 ·subst h0
  have e1:planT 0 a b c d e f=⟨(lineW 6 (six a b c d e f)).toArray⟩:=rfl
  rw[e1]
  have hl:=fun U t g hg hb=>Ag2 a b c d e f w U t g hg hw hb hr
  generalize (⟨(lineW 6 (six a b c d e f)).toArray⟩:ByteArray)=q at hl ⊢
  clear e1 hr hw
  go_enter Tryz.func36,Tryz.ntmps36
  go_wp2_with (go_at_call 53;refine(hl _ _ _ (by simp) ((Below.refl _ _).alloc (Nat.le_refl _) _)).mono ?_;rintro x w1 ⟨rfl,hb1⟩)
  go_ret
  exact⟨rfl,hb1⟩
 ·have e1:planT n a b c d e f=err1:=by unfold planT;rw[if_neg h0]
  rw[e1]
  have h1:¬(n:Int)=0:=by omega
  clear e1 hr hw
  go_enter Tryz.func36,Tryz.ntmps36
  go_wp2
  go_ret
  exact⟨rfl,Below.refl _ _⟩
end Go.Proofs.YtgmpfeaanjnhaaaGreatDoor
