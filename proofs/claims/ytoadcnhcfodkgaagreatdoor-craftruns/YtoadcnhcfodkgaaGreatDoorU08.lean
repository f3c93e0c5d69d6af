import Derived.Deep.MidRow
import Derived.Handy
import Derived.LoopN
import Derived.Deep.RegionHeld3
import Derived.Test.YtoadcnhcfodkgaaGreatDoorU05
import Derived.Test.YtoadcnhcfodkgaaGreatDoorU01
import Derived.Test.YtoadcnhcfodkgaaGreatDoorU07
import Derived.Test.YtoadcnhcfodkgaaGreatDoorU02
set_option maxRecDepth 100000
set_option maxHeartbeats 20000000
open Go.Proofs.Tryz renaming prog→Zm
open Nat renaming lt_succ_of_lt→Zn,le_of_ble_eq_true→Zw,zero_add→Zz
open List renaming mem_cons→Zo,getElem?_append_right→Zq,replicate→Zr,getElem?_append_left→Zt,getElem?_eq_some_iff→Zu,getElem?_map→Zv,length_map→Zx,length_ofFn→Zy
open Bool renaming and_eq_true→Zp
open Int renaming mul_le_mul_of_nonneg_right→Zs
namespace Go.Proofs.YtoadcnhcfodkgaaGreatDoor
namespace Nx
open Go.RowKit Go.Proofs.YtoadcnhcfodkgaaGreatDoor
structure Fam where
 base:Nat
 N:Nat
 cfn:Nat
 dfn:Nat
 csa:List Value
 darr:Nat->List Value->List Value
 dinv:List Value->Option (Nat×List Value)
structure GY(P:Program)(prs:List (Pr P))(f:Fam)(cell:Nat->Bool->List Value->Int×Bool):Prop where
 cgo:∀(args:Array Value) (w:World),(callFunc f.cfn args).run P w=.ok (.enter f.cfn args) w
 dgo:∀(args:Array Value) (w:World),(callFunc f.dfn args).run P w=.ok (.enter f.dfn args) w
 hi:P.inits.idxOf? f.dfn=none
 nn:f.csa.all TU=true
 pr:∀t,t<f.N->∃pr:Pr P,prs[f.base+t]? =some pr/\(∀d,pr.fn d=f.dfn)/\pr.arr=f.darr t/\pr.sa=f.csa/\pr.kind=9
 inv:∀{targs:List Value} {t:Nat} {cargs:List Value},f.dinv targs=some (t,cargs)->t<f.N/\∀{τ:List Int} {vargs:List Value},Aj (G2 τ) targs vargs->∃rest,vargs=f.darr t rest/\Aj (G2 τ) cargs rest
 st:∀t rest,(cell t true rest).2=true
 doc:∀t,t<f.N->∀b rest,Aj (G2 []) f.csa rest->CallsOk P f.dfn b (f.darr t rest) (.int .i64 (cell t b rest).1) (cell t b rest).2
 code:∀b rest,Aj (G2 []) f.csa rest->∃(vs:List Int) (b':Bool),CallsOk P f.cfn b rest (.agg ⟨vs.map (Value.int .i64)⟩) b'/\vs.length=f.N/\(b'=false↔b=false/\∀t,t<f.N->(cell t false rest).2=false)/\(b'=false->∀t,t<f.N->vs[t]? =some (cell t false rest).1)
section
variable {P:Program} {prs:List (Pr P)} {f:Fam} {cell:Nat->Bool->List Value->Int×Bool} {τ:List Int}
theorem GY.at(h:GY P prs f cell){t:Nat}(ht:t<f.N){pr:Pr P}(hp:prs[f.base+t]? =some pr){rest:List Value}(hc:Aj (G2 []) f.csa rest)(d b:Bool):
    Aj (G2 []) pr.sa rest/\(Classical.choose pr.h d b rest).1=.int .i64 (cell t b rest).1/\(Classical.choose pr.h d b rest).2=(cell t b rest).2:=by
 obtain⟨pr',h1,h2,h3,h4,h5⟩:=h.pr t ht
 rw[hp]at h1
 cases h1
 have hc':Aj (G2 []) pr.sa rest:=by rw[h4];exact hc
 have:=((Classical.choose_spec pr.h).1 d b rest hc').1.1 (by omega)
 generalize Classical.choose pr.h d b rest=y at this ⊢
 rw[h2,h3]at this
 obtain⟨e1,e2⟩:=this.det h.hi (h.doc t ht b rest hc)
 exact⟨hc',e1,e2⟩
theorem GY.conf(h:GY P prs f cell){τ':List Int}{rest:List Value}(g:Aj (G2 τ) f.csa rest):Aj (G2 τ') f.csa rest:=nnL (R:=G2 τ) (S:=G2 τ') Ht h.nn g
theorem GY.num(h:GY P prs f cell){t:Nat}(ht:t<f.N){args:List Value}{r:Value}:Xu prs τ (f.base+t,args,r):=fun pr h1 h2=>by
 obtain⟨pr',k1,_,_,_,k5⟩:=h.pr t ht
 have h1:prs[f.base+t]? =some pr:=h1
 rw[k1]at h1
 cases h1
 omega
def Yb(base:Nat)(args:List Value)(n0:Nat):Nat->List Nd->List Nd
 |0,D=>D
 |t+1,D=>(base+t,args,PL (n0+t))::Yb base args n0 t D
theorem Jy{base:Nat}{args:List Value}{n0:Nat}:∀{n:Nat} {D:List Nd} {nd:Nd},nd∈Yb base args n0 n D->(∃t,t<n/\nd=(base+t,args,PL (n0+t)))∨nd∈D
 |0,_,_,h=>.inr h
 | n+1,D,nd,h=>by
  rcases Zo.1 h with rfl |h
  ·exact .inl ⟨n,Nat.lt_succ_self n,rfl⟩
  ·rcases Jy h with⟨t,ht,e⟩|h
   ·exact .inl ⟨t,Zn ht,e⟩
   ·exact .inr h
def Avw(f:Fam):Rw (Nat×List Nd) where
 fn:=f.cfn
 flow:=true
 run:=fun _ args c F s K=>Gs W5 args f.csa&&(match c with
  | .bool true=>K (rI f.N) (.bool true) F s
  | c=>DD c&&(match s with
   |(n0,D)=>nN n0 fun n0=>(match fresh (rI f.N) n0 with
    |some (r,n)=>nN n fun n=>n2 r fun r=>K r unkB F (n,Yb f.base args n0 f.N D)
    |none=>false)))
theorem Am7(vs:List Int):G2 [] (rI vs.length) (.agg ⟨vs.map (Value.int .i64)⟩):=by
 refine⟨_,rfl,?_⟩
 show Aj (G0 []) (Zr vs.length uI) _
 induction vs with
 |nil=>trivial
 |cons v vs ih=>exact⟨⟨v,rfl⟩,ih⟩
theorem Aa2:∀{n b t:Nat},t<n->(Xs b n)[t]? =some (PL (b+t))
 |n+1,b,0,_=>rfl
 |n+1,b,t+1,h=>by
  show(Xs (b+1) n)[t]? =_
  rw[Aa2 (by omega),Nat.add_assoc,Nat.add_comm 1 t]
theorem Aa3:∀n:Nat,(Zr n uI).all isU=true
 |0=>rfl
 |n+1=>by
  rw[List.replicate_succ,List.all_cons,Aa3 n]
  rfl
theorem Am8{n b n':Nat}{r:Value}(h:fresh (rI n) b=some (r,n')):r=.agg ⟨Xs b n⟩:=by
 have h:(match (Zr n uI).all isU with
  |true=>some (Value.agg ⟨Xs b (Zr n uI).length⟩,b+(Zr n uI).length)
  |false=>none)=some (r,n'):=h
 rw[Aa3]at h
 cases h
 rw[List.length_replicate]
theorem Aa4(d:Bool)(h:GY P prs f cell):RwOk P (TV prs d) (Avw f) where
 go:=h.cgo
 okF :=fun _ {args rest c F s K τ bad} hr ga gc hF hI=>by
  dsimp only[Avw]at hr
  obtain⟨s1,s2⟩:=s
  simp only[CE,J8]at hr
  rw[Zp]at hr
  have hc:Aj (G2 []) f.csa rest:=h.conf (FI hr.1 ga)
  obtain⟨vs,b',⟨q1,q2,q3⟩,hl,hgood,hval⟩:=h.code bad rest hc
  have gr:=Am7 vs
  rw[hl]at gr
  have h2:=hr.2
  split at h2
  ·have e:=gc.1
   cases e
   have hb:b'=true:=by
    cases b' with
    |true=>rfl
    |false=>have:=(hgood.1 rfl).1;cases this
   subst hb
   exact⟨_,_,τ,_,_,F,(s1,s2),h2,q1,q2,q3,Fj.refl _,Ht _ _ (show TU (rI f.N)=true from List.all_eq_true.2 fun x hx=>by rw[List.eq_of_mem_replicate hx];rfl) gr,⟨rfl,rfl⟩,hF,hI.1,fun e=>(by cases e),hI.2.2⟩
  ·rw[Zp]at h2
   obtain⟨_,h2⟩:=h2
   split at h2
   ·rename_i r n hf
    have hl2:τ.length=s1:=hI.1
    rw[<-hl2]at hf h2
    obtain⟨xs,e1,g⟩:=fresh_ok hf gr
    have hx:Fj τ (τ++xs):=⟨xs,rfl⟩
    refine⟨_,_,τ++xs,_,_,F,_,h2,q1,q2,q3,hx,g,⟨_,rfl⟩,hF.ext hx,e1.symm,fun e nd hnd=>?_,fun nd hnd=>?_⟩
    rotate_left
    ·rcases Jy hnd with⟨t,ht,rfl⟩|hnd
     ·exact h.num ht
     ·exact(hI.2.2 nd hnd).ext hx
    subst e
    obtain⟨e0,hcell⟩:=hgood.1 rfl
    subst e0
    rcases Jy hnd with⟨t,ht,rfl⟩|hnd
    ·obtain⟨pr,p1,_⟩:=h.pr t ht
     obtain⟨c1,c2,c3⟩:=h.at ht p1 hc d false
     refine⟨pr,rest,p1,ga.imp fun _ _ k=>k.ext hx,c1,by rw[c3];exact hcell t ht,?_⟩
     show G2 (τ++xs) (PL (τ.length+t)) _
     rw[c2]
     have er:=Am8 hf
     subst er
     obtain⟨l,e2,gl⟩:=g
     cases e2
     obtain⟨v,hv,gv⟩:=gl.get t _ (Aa2 ht)
     rw[Zv,hval rfl t ht]at hv
     cases hv
     exact gv.g2
    ·exact(hI.2.1 rfl nd hnd).ext hx
   ·cases h2
 okP:=fun e=>by cases e
def Avx(f:Fam):Rw (Nat×List Nd) where
 fn:=f.dfn
 flow:=true
 run:=fun _ args c F s K=>(match f.dinv args with
  | some (t,cargs)=>Gs W5 cargs f.csa&&(match c with
   | .bool true=>K uI (.bool true) F s
   |c=>DD c&&(match s with
    |(n0,D)=>nN n0 fun n0=>nN (f.base+t) fun p=>K (PL n0) unkB F (Nat.succ n0,(p,cargs,PL n0)::D)))
  |none=>false)
theorem Aa5(d:Bool)(h:GY P prs f cell):RwOk P (TV prs d) (Avx f) where
 go:=h.dgo
 okF :=fun _ {args rest c F s K τ bad} hr ga gc hF hI=>by
  dsimp only[Avx]at hr
  split at hr
  ·rename_i t cargs hinv
   obtain⟨ht,hv⟩:=h.inv hinv
   obtain⟨crest,rfl,gca⟩:=hv ga
   obtain⟨s1,s2⟩:=s
   simp only[CE]at hr
   rw[Zp]at hr
   have hc:Aj (G2 []) f.csa crest:=h.conf (FI hr.1 gca)
   obtain⟨q1,q2,q3⟩:=h.doc t ht bad crest hc
   have h2:=hr.2
   split at h2
   ·have e:=gc.1
    cases e
    have hst:=h.st t crest
    exact⟨_,_,τ,_,_,F,(s1,s2),h2,q1,q2,q3,Fj.refl _,⟨_,rfl⟩,by rw[hst];exact⟨rfl,rfl⟩,hF,hI.1,fun e=>(by rw[hst]at e;cases e),hI.2.2⟩
   ·rw[Zp]at h2
    obtain⟨_,h2⟩:=h2
    have hl2:τ.length=s1:=hI.1
    have hx:Fj τ (τ++[(cell t bad crest).1]):=⟨_,rfl⟩
    have gs:G0 (τ++[(cell t bad crest).1]) (PL s1) (.int .i64 (cell t bad crest).1):=⟨_,by rw[<-hl2,Zq (Nat.le_refl _),Nat.sub_self];rfl,rfl⟩
    refine⟨_,_,τ++[(cell t bad crest).1],_,_,F,_,h2,q1,q2,q3,hx,gs.g2,⟨_,rfl⟩,hF.ext hx,by rw[List.length_append,hl2];rfl,fun e nd hnd=>?_,fun nd hnd=>?_⟩
    rotate_left
    ·rcases Zo.1 hnd with rfl |hnd
     ·exact h.num ht
     ·exact(hI.2.2 nd hnd).ext hx
    have hb:bad=false:=by
     cases bad with
     |false=>rfl
     |true=>rw[h.st]at e;cases e
    subst hb
    rcases Zo.1 hnd with rfl |hnd
    ·obtain⟨pr,p1,_⟩:=h.pr t ht
     obtain⟨c1,c2,c3⟩:=h.at ht p1 hc d false
     exact⟨pr,crest,p1,gca.imp fun _ _ k=>k.ext hx,c1,by rw[c3];exact e,by rw[c2];exact gs.g2⟩
    ·exact(hI.2.1 rfl nd hnd).ext hx
  ·cases hr
 okP:=fun e=>by cases e
def Avy(f:Fam):Rw Tb where
 fn:=f.dfn
 flow:=true
 run:=fun _ args c F s K=>(match c,f.dinv args with
  | .bool false,some (t,cargs)=>cargs.all MF&&Gs W5 cargs f.csa&&(nN (f.base+t) fun p=>match Kg s p cargs with
   |some r=>n2 r fun r=>K r (.bool false) F s
   |none=>false)
  |_,_=>false)
theorem Aa6(d:Bool)(h:GY P prs f cell):RwOk P (IC prs d) (Avy f) where
 go:=h.dgo
 okF:=fun _ {args rest c F s K τ bad} hr ga gc hF hI=>by
  dsimp only[Avy]at hr
  split at hr
  ·rename_i t cargs hinv
   have e:=gc.1
   cases e
   obtain⟨ht,hv⟩:=h.inv hinv
   obtain⟨crest,rfl,gca⟩:=hv ga
   rw[CE,Zp,Zp]at hr
   have hc:Aj (G2 []) f.csa crest:=h.conf (FI hr.1.2 gca)
   obtain⟨q1,q2,q3⟩:=h.doc t ht false crest hc
   have h2:=hr.2
   split at h2
   ·rename_i r hf
    rw[J8]at h2
    obtain⟨pr,p1,_⟩:=h.pr t ht
    obtain⟨g1,g2⟩:=(Hu hI hf).use p1 hr.1.1 gca
    obtain⟨c1,c2,c3⟩:=h.at ht p1 hc d false
    rw[c3]at g1
    rw[c2]at g2
    exact⟨_,_,τ,_,_,F,s,h2,q1,q2,q3,Fj.refl _,g2,by rw[g1];exact⟨rfl,rfl⟩,hF,hI⟩
   ·cases h2
  ·cases hr
 okP:=fun e=>by cases e
def Na(s:Tb)(base:Nat)(args:List Value):Nat->List Value->Option (List Value)
 |0,acc=>some acc
 |t+1,acc=>(match Kg s (base+t) args with
  |some r=>Na s base args t (r::acc)
  |none=>none)
theorem Oy{s:Tb}{base:Nat}{args:List Value}:∀{n:Nat} {acc l:List Value},Na s base args n acc=some l->∃rs,l=rs++acc/\rs.length=n/\∀t,t<n->∃r,rs[t]? =some r/\Kg s (base+t) args=some r
 |0,acc,l,h=>by
  cases h
  exact⟨[],rfl,rfl,fun t ht=>by omega⟩
 | n+1,acc,l,h=>by
  unfold Na at h
  split at h
  ·rename_i r hr
   obtain⟨rs,e1,e2,e3⟩:=Oy h
   refine⟨rs++[r],by rw[e1];simp,by simp[e2],fun t ht=>?_⟩
   by_cases e:t=n
   ·subst e
    exact⟨r,by rw[Zq (by omega),e2,Nat.sub_self];rfl,hr⟩
   ·obtain⟨u,k1,k2⟩:=e3 t (by omega)
    exact⟨u,by rw[Zt (by omega)];exact k1,k2⟩
  ·cases h
theorem AEh{r:Value}{k:IntKind}{x:Int}(h:G2 τ r (.int k x)):G0 τ r (.int k x):=by
 have h1:G1 τ r (.int k x):=h.g1of fun a b l e=>by
  subst e
  obtain⟨l,e,_⟩:=h
  cases e
 exact h1.g0of fun cs e=>by
  subst e
  obtain⟨l,e,_⟩:=h1
  cases e
theorem Aj.of_get{α β:Type}{R:α->β->Prop}:∀{l:List α} {m:List β},l.length=m.length->(∀(t:Nat) (a:α) (b:β),l[t]? =some a->m[t]? =some b->R a b)->Aj R l m
 |[],[],_,_=>trivial
 |a::l,b::m,hl,h=>⟨h 0 a b rfl rfl,Aj.of_get (by simpa using hl) fun t a b h1 h2=>h (t+1) a b (by simpa using h1) (by simpa using h2)⟩
 |[],_::_,hl,_=>by simp at hl
 |_::_,[],hl,_=>by simp at hl
def Avz(f:Fam):Rw Tb where
 fn:=f.cfn
 flow:=true
 run:=fun _ args c F s K=>(match c with
  | .bool false=>args.all MF&&Gs W5 args f.csa&&(match Na s f.base args f.N []with
   |some l=>n2 (.agg ⟨l⟩) fun r=>K r (.bool false) F s
   |none=>false)
  |_=>false)
theorem Aa7(d:Bool)(h:GY P prs f cell):RwOk P (IC prs d) (Avz f) where
 go:=h.cgo
 okF :=fun _ {args rest c F s K τ bad} hr ga gc hF hI=>by
  dsimp only[Avz]at hr
  split at hr
  ·have e:=gc.1
   cases e
   rw[Zp,Zp]at hr
   have hc:Aj (G2 []) f.csa rest:=h.conf (FI hr.1.2 ga)
   obtain⟨vs,b',⟨q1,q2,q3⟩,hl,hgood,hval⟩:=h.code false rest hc
   have h2:=hr.2
   split at h2
   ·rename_i l hla
    rw[J8]at h2
    obtain⟨rs,e1,e2,e3⟩:=Oy hla
    rw[List.append_nil]at e1
    subst e1
    have each:∀t,t<f.N->∃r,l[t]? =some r/\(cell t false rest).2=false/\G2 τ r (.int .i64 (cell t false rest).1):=fun t ht=>by
     obtain⟨r,k1,k2⟩:=e3 t ht
     obtain⟨pr,p1,_⟩:=h.pr t ht
     obtain⟨g1,g2⟩:=(Hu hI k2).use p1 hr.1.1 ga
     obtain⟨c1,c2,c3⟩:=h.at ht p1 hc d false
     rw[c3]at g1
     rw[c2]at g2
     exact⟨r,k1,g1,g2⟩
    have hb:b'=false:=hgood.2 ⟨rfl,fun t ht=>(each t ht).choose_spec.2.1⟩
    subst hb
    refine⟨_,_,τ,_,_,F,s,h2,q1,q2,q3,Fj.refl _,⟨_,rfl,Aj.of_get (by rw[Zx,hl];exact e2) fun t a b h1 h2=>?_⟩,⟨rfl,rfl⟩,hF,hI⟩
    have h1:l[t]? =some a:=h1
    have ht:t<f.N:=by
     have:=(Zu.1 h1).1
     omega
    obtain⟨r,k1,_,k3⟩:=each t ht
    rw[k1]at h1
    cases h1
    rw[Zv,hval rfl t ht]at h2
    cases h2
    exact AEh k3
   ·cases h2
  ·cases hr
 okP:=fun e=>by cases e
end
end Nx
section
open Go.RowKit
structure Stop(p:Prop):Prop where
 out:p
theorem BJ{P:Program}{fn:Func}{R:Ending->World->Prop}{e:Exit}{a:Act}{w:World}(h:Stop (bodyPost P fn R e a w)):bodyPost P fn R e a w:=h.out
theorem AN.range{k:Nat}{l:List Value}{w:World}(A:AN k l w):w.rangeAt k 0 l:=fun j v hv=>by
 obtain⟨hj,rfl⟩:=Zu.1 hv
 rw[Zz]
 exact A.c j hj
theorem Eo{fn:Func}{p:Tmp}{ty:TypeId}(h:fn.results=#[.cell p ty]){tmps:Array Value}{w:World}{k:Nat}{l:List Value}(A:AN k l w)
    (hp:tmps.getD p undef=.pointer (some ⟨k,0,none⟩)) (hd:(Zm.underlying ty).any TypeDesc.isRow=true) (hi:(Zm.info? ty).map (·.size)=some l.length):
    (results fn tmps).run Zm w=.ok (.agg l.toArray) w:=by
 cases hu:Zm.underlying ty with
 |none=>rw[hu]at hd;cases hd
 |some d=>
  rw[hu]at hd
  have hp':tmps[p]?.getD undef=.pointer (some ⟨k,0,none⟩):=by simpa using hp
  simp[results,h,hp',asAddr,run_loadVar_mid w k 0 ty l d A.range hu hd hi]
theorem BS{P:Program}{c:Code}{Q:Exit->Act->World->Prop}{a:Act}{w:World}(J:Nat->Act->World->Prop)(N:Nat)(h0:J 0 a w)
    (step:∀k a w,k<N->J k a w->∀R:Act->World->Prop,(∀a' w',J (k+1) a' w'->R a' w')->c.wp P (Exit.then R Q) a w)
    (last:∀a w,J N a w->∀R:Act->World->Prop,c.wp P (Exit.then R Q) a w):(Code.loop c).wp P Q a w:=by
 have key:∀d k a w,k+d=N->J k a w->Code.rounds P c Q (d+1) a w:=by
  intro d
  induction d with
  |zero=>intro k a w hk hJ;rw[rounds_succ];exact last a w (by rw[<-hk];exact hJ) _
  |succ d ih=>intro k a w hk hJ;rw[rounds_succ];exact step k a w (by omega) hJ _ fun a' w' h=>ih (k+1) a' w' (by omega) h
 exact wp_loop_rounds (N+1) (key N 0 a w (by omega) h0)
theorem Ic{ops:Array Oper}{rest:List Oper}{op:Oper}{a:Act}{w:World}{Q:Exit->Act->World->Prop}{ty:TypeId}{x:Operand}{k:Nat}{l:List Value}(hgd:op.guard=none)(ho:op.op=.load ty x)
    (hx:a.eval x=.pointer (some ⟨k,0,none⟩)) (A:AN k l w) (hd:(Zm.underlying ty).any TypeDesc.isRow=true) (hi:(Zm.info? ty).map (·.size)=some l.length)
    (h:wpList Zm ops Q rest (a.put op.dst (.agg l.toArray)) w):wpList Zm ops Q (op::rest) a w:=by
 cases hu:Zm.underlying ty with
 |none=>rw[hu]at hd;cases hd
 |some d=>rw[hu]at hd;exact wpList_load_mid hgd ty x ho k 0 hx l d A.range hu hd hi h
theorem Jz{ops:Array Oper}{rest:List Oper}{op:Oper}{a:Act}{w:World}{Q:Exit->Act->World->Prop}{ty:TypeId}{x y:Operand}(_:op.op=.store ty x y)(_:(Zm.underlying ty).any TypeDesc.isRow=true)
    (h:Stop (wpList Zm ops Q (op::rest) a w)):wpList Zm ops Q (op::rest) a w:=h.out
structure Off(k:Nat)(w w':World):Prop where
 os:w'.os=w.os
 tape:w'.tape=w.tape
 output:w'.output=w.output
 size:w'.heap.size=w.heap.size
 block:∀j,j≠k->w'.heap[j]? =w.heap[j]?
theorem Av0(k o:Nat)(v:Value)(w:World):Off k w (w.setCell ⟨k,o,none⟩ v):=
 ⟨rfl,rfl,rfl,World.size_setCell _ _ _,fun _ hj=>Below.heap_setCell _ _ _ _ hj⟩
theorem Off.trans{k:Nat}{w w' w'':World}(h:Off k w w')(h':Off k w' w''):Off k w w'':=
 ⟨h'.os.trans h.os,h'.tape.trans h.tape,h'.output.trans h.output,h'.size.trans h.size,fun j hj=>(h'.block j hj).trans (h.block j hj)⟩
theorem QY(k:Nat):∀(vs:List Value) (o:Nat) (w:World),Off k w (w.setCells k o vs)
 |[],_,_=>⟨rfl,rfl,rfl,rfl,fun _ _=>rfl⟩
 |v::r,o,w=>(Av0 k o v w).trans (QY k r (o+1) _)
theorem AN.off{k k':Nat}{l:List Value}{w w':World}(A:AN k' l w)(h:Off k w w')(hk:k'≠k):AN k' l w':=A.same (h.block k' hk) (Nat.le_of_eq h.size.symm)
theorem Fl.off{k b:Nat}{bad:Bool}{w w':World}(A:Fl b bad w)(h:Off k w w')(hk:b≠k):Fl b bad w':=
 ⟨(World.cell?_of_block (w:=w) (a:=⟨b,0,none⟩) (h.block b hk)).trans A.cell,(World.frozen?_of_block (w:=w) (a:=⟨b,0,none⟩) (h.block b hk)).trans A.free,by rw[h.size];exact A.lies⟩
theorem Ad.off{b k:Nat}{x w w':World}(K:Ad b x w)(h:Off k w w')(hk:x.heap.size<=k):Ad b x w':=
 ⟨h.os.trans K.os,h.tape.trans K.tape,h.output.trans K.output,by rw[h.size];exact K.size,fun j hj hb=>(h.block j (by omega)).trans (K.block j hj hb)⟩
theorem LD{ops:Array Oper}{rest:List Oper}{op:Oper}{a:Act}{w:World}{Q:Exit->Act->World->Prop}{ty:TypeId}{x y:Operand}{k:Nat}{l l':List Value}(hgd:op.guard=none)(ho:op.op=.store ty x y)
    (hx:a.eval x=.pointer (some ⟨k,0,none⟩)) (hy:a.eval y=.agg l'.toArray) (A:AN k l w) (hl:l'.length=l.length) (hi:(Zm.info? ty).map (·.size)=some l'.length) (h1:l'.all (·.oneCell')=true)
    (h:∀w',AN k l' w'->Off k w w'->wpList Zm ops Q rest (a.put op.dst undef) w'):wpList Zm ops Q (op::rest) a w:=by
 have th:w.there k 0 l'.length:=fun j hj=>by
  rw[Zz]
  exact⟨by rw[A.c j (by omega)];rfl,A.f j (by omega)⟩
 have of:=QY k l' 0 w
 refine wpList_store_mid hgd ty x y ho k 0 l'.toArray hx hy (by simpa using th) (by simpa using hi) (by simpa using h1) ?_
 refine h _ ⟨fun i hi'=>?_,fun i hi'=>?_,by simp only[of.size];exact A.lies⟩ of
 ·have:=World.cell?_setCells_in k l' 0 w (fun j hj=>(th j hj).1) i hi'
  rw[Zz]at this
  exact this
 ·show(w.setCells k 0 l').frozen? _=false
  rw[World.frozen?_setCells]
  exact A.f i (by omega)
theorem S0(N:Nat)(g:Nat->Int):(row N g).all (·.oneCell')=true:=by
 rw[List.all_eq_true]
 intro v hv
 unfold row at hv
 obtain⟨i,_,rfl⟩:=List.mem_map.1 hv
 rfl
def zS(a:Act)(n:Nat):Nat->Value:=fun i=>(a.tmps.toList.drop n).getD i undef
theorem Co{J:Act->World->Prop}{a:Act}{W:World}(h:∀a',a'=a->J a' W):J a W:=h a rfl
abbrev V3:=Int×Int×Int
def Ew(bad:Bool)(v:V3):V3×Bool:=if bad then((0,0,0),true)else(v,false)
theorem GB(v:V3):Ew true v=((0,0,0),true):=rfl
theorem Gf(v:V3):Ew false v=(v,false):=rfl
def Ep(bad:Bool)(p:V3)(q:V3):(V3)×Bool:=let r1:=Ap bad p.1 q.1;let r2:=Ap r1.2 p.2.1 q.2.1;let r3:=Ap r2.2 p.2.2 q.2.2;let r4:=Ew r3.2 (r1.1,r2.1,r3.1);(r4.1,r4.2)
def GZ(bad:Bool)(p:V3)(q:V3):(V3)×Bool:=let r1:=AJ bad p.1 q.1;let r2:=AJ r1.2 p.2.1 q.2.1;let r3:=AJ r2.2 p.2.2 q.2.2;let r4:=Ew r3.2 (r1.1,r2.1,r3.1);(r4.1,r4.2)
def Nb(bad:Bool)(p:V3)(k:Int):(V3)×Bool:=let r1:=mulS bad p.1 k;let r2:=mulS r1.2 p.2.1 k;let r3:=mulS r2.2 p.2.2 k;let r4:=Ew r3.2 (r1.1,r2.1,r3.1);(r4.1,r4.2)
def VG(bad:Bool)(p:V3)(q:V3):(Int)×Bool:=let r1:=mulS bad p.1 q.1;let r2:=mulS r1.2 p.2.1 q.2.1;let r3:=Ap r2.2 r1.1 r2.1;let r4:=mulS r3.2 p.2.2 q.2.2;let r5:=Ap r4.2 r3.1 r4.1;(r5.1,r5.2)
def DR(bad:Bool)(p:V3)(q:V3):(V3)×Bool:=let r1:=mulS bad p.2.1 q.2.2;let r2:=mulS r1.2 p.2.2 q.2.1;let r3:=AJ r2.2 r1.1 r2.1;let r4:=mulS r3.2 p.2.2 q.1;let r5:=mulS r4.2 p.1 q.2.2;let r6:=AJ r5.2 r4.1 r5.1;let r7:=mulS r6.2 p.1 q.2.1;let r8:=mulS r7.2 p.2.1 q.1;let r9:=AJ r8.2 r7.1 r8.1;let r10:=Ew r9.2 (r3.1,r6.1,r9.1);(r10.1,r10.2)
def vNormS(bad:Bool)(p:V3):(Int)×Bool:=let r1:=Ar bad p.1 p.2.1 p.2.2;(r1.1,r1.2)
def vUnitS(bad:Bool)(p:V3):(V3)×Bool:=let r1:=vNormS bad p;if r1.1<1048576 then((0,0,0),true)else let r2:=AA r1.2 p.1 r1.1;let r3:=AA r2.2 p.2.1 r1.1;let r4:=AA r3.2 p.2.2 r1.1;((r2.1,r3.1,r4.1),r4.2)
def S6(bad:Bool)(p:V3):(Int)×Bool:=let r1:=Ar bad p.1 p.2.1 p.2.2;(r1.1,r1.2)
def FL(bad:Bool)(p:V3):(V3)×Bool:=let r1:=S6 bad p;if r1.1<1048576 then let r3:=AA true p.1 r1.1;let r4:=AA r3.2 p.2.1 r1.1;let r5:=AA r4.2 p.2.2 r1.1;let r6:=Ew r5.2 (r3.1,r4.1,r5.1);(r6.1,r6.2)else let r2:=AA r1.2 p.1 r1.1;let r3:=AA r2.2 p.2.1 r1.1;let r4:=AA r3.2 p.2.2 r1.1;let r5:=Ew r4.2 (r2.1,r3.1,r4.1);(r5.1,r5.2)
theorem Afd{ops:Array Oper}{S:World->Prop}{op:Oper}{a:Act}{ty:TypeId}{x:Operand}{k:Nat}{l:List Value}(hw:Region.wanted op (yielded ops a.tmps)=true)(ho:op.op=.load ty x)
    (hx:a.eval x=.pointer (some ⟨k,0,none⟩)) (hS:∀w,S w->AN k l w) (hd:(Zm.underlying ty).any TypeDesc.isRow=true) (hi:(Zm.info? ty).map (·.size)=some l.length):
    YieldsIf Zm ops S op (.agg l.toArray) a:=by
 cases hu:Zm.underlying ty with
 |none=>rw[hu]at hd;cases hd
 |some d=>rw[hu]at hd;exact yieldsIf_load_mid hw ty x ho k 0 hx _ d (fun w h=>(hS w h).range) hu hd hi
theorem VH{P:Program}{c:Code}{Q:Exit->Act->World->Prop}{a:Act}{w:World}(h:∀K:Act->World->Prop,Hid (K=fun a w=>Q .normal a w)->Code.wp P c Q a w):Code.wp P c Q a w:=h _ rfl
theorem VI{K:Act->World->Prop}{Q:Exit->Act->World->Prop}{a:Act}{w:World}(e:Hid (K=fun a w=>Q .normal a w))(h:K a w):Q .normal a w:=by rw[e.out]at h;exact h
theorem VJ{K p:Act->World->Prop}{a:Act}{w:World}(h:∀a w,p a w->K a w)(hp:p a w):K a w:=h a w hp
def D8(x:Nat->Int)(i:Nat)(k:Nat)(s0:Int×Bool):Int×Bool:=let p1:=Ap s0.2 s0.1 (x ((k+1:Nat)*6+i));(p1.1,p1.2)
def CX(x:Nat->Int)(i:Nat)(z:Int×Bool):Nat->Int×Bool
 |0=>z
 |k+1=>D8 x i k (CX x i z k)
theorem Ie(x:Nat->Int)(i:Nat)(z:Int×Bool)(k:Nat):CX x i z (k+1)=D8 x i k (CX x i z k):=rfl
def CI(bad:Bool)(x:Nat->Int)(i:Nat):(Int)×Bool:=let r1:=Ap bad 0 (x i);let r2:=Ap r1.2 r1.1 (x i);let r4:=CX x i (r2.1,r2.2) 12;let r5:=Af r4.2 r4.1 1 14;(r5.1,r5.2)
def CJ(x:Nat->Int)(i:Nat)(y:Nat->Int)(j:Nat)(k:Nat)(s0:(Nat->Int)×Bool):(Nat->Int)×Bool:=let p1:=mulS s0.2 (x (k*6+i)) (y (k*6+j));((updF s0.1 (k*6) p1.1),p1.2)
def Bn(x:Nat->Int)(i:Nat)(y:Nat->Int)(j:Nat)(z:(Nat->Int)×Bool):Nat->(Nat->Int)×Bool
 |0=>z
 |k+1=>CJ x i y j k (Bn x i y j z k)
theorem Dj(x:Nat->Int)(i:Nat)(y:Nat->Int)(j:Nat)(z:(Nat->Int)×Bool)(k:Nat):Bn x i y j z (k+1)=CJ x i y j k (Bn x i y j z k):=rfl
def AM(bad:Bool)(x:Nat->Int)(i:Nat)(y:Nat->Int)(j:Nat):(Int)×Bool:=let r3:=Bn x i y j ((fun _=>0),bad) 13;let r4:=CI r3.2 r3.1 0;(r4.1,r4.2)
def Cl(x:Nat->Int)(k:Nat)(s0:Int×Bool):Int×Bool:=let p1:=Ap s0.2 s0.1 (x k);(p1.1,p1.2)
def Ci(x:Nat->Int)(z:Int×Bool):Nat->Int×Bool
 |0=>z
 |k+1=>Cl x k (Ci x z k)
theorem LE(x:Nat->Int)(z:Int×Bool)(k:Nat):Ci x z (k+1)=Cl x k (Ci x z k):=rfl
def CK(bad:Bool)(x:Nat->Int):(Int)×Bool:=let r2:=Ci x ((x 0),bad) 13;let r3:=Af r2.2 r2.1 1 14;(r3.1,r3.2)
def GC(x:Nat->Int)(i:Nat)(k:Nat)(s1:(Nat->Int)):(Nat->Int):=(updF s1 k (x (k*6+i)))
def D9(x:Nat->Int)(i:Nat)(z:(Nat->Int)):Nat->(Nat->Int)
 |0=>z
 |k+1=>GC x i k (D9 x i z k)
theorem If(x:Nat->Int)(i:Nat)(z:(Nat->Int))(k:Nat):D9 x i z (k+1)=GC x i k (D9 x i z k):=rfl
def GD(x:Nat->Int)(i:Nat)(s0:(Nat->Int)×Bool):(Nat->Int)×Bool:=let p1:=D9 x i (fun _=>0) 13;let p2:=CK s0.2 p1;((updF s0.1 i p2.1),p2.2)
def Dw(x:Nat->Int)(z:(Nat->Int)×Bool):Nat->(Nat->Int)×Bool
 |0=>z
 |i+1=>GD x i (Dw x z i)
theorem Ig(x:Nat->Int)(z:(Nat->Int)×Bool)(i:Nat):Dw x z (i+1)=GD x i (Dw x z i):=rfl
def E6(bad:Bool)(x:Nat->Int):(Nat->Int)×Bool:=let r1:=Dw x ((fun _=>0),bad) 6;(r1.1,r1.2)
def DT(x:Nat->Int)(y:Nat->Int)(i:Nat)(j:Nat)(k:Nat)(s2:(Nat->Int)×Bool):(Nat->Int)×Bool:=let p1:=mulS s2.2 (x (k*6+i)) (y (k*6+j));((updF s2.1 k p1.1),p1.2)
def Bo(x:Nat->Int)(y:Nat->Int)(i:Nat)(j:Nat)(z:(Nat->Int)×Bool):Nat->(Nat->Int)×Bool
 |0=>z
 |k+1=>DT x y i j k (Bo x y i j z k)
theorem E7(x:Nat->Int)(y:Nat->Int)(i:Nat)(j:Nat)(z:(Nat->Int)×Bool)(k:Nat):Bo x y i j z (k+1)=DT x y i j k (Bo x y i j z k):=rfl
def DU(x:Nat->Int)(y:Nat->Int)(i:Nat)(j:Nat)(s1:(Nat->Int)×Bool):(Nat->Int)×Bool:=let p1:=Bo x y i j ((fun _=>0),s1.2) 13;let p2:=CK p1.2 p1.1;((updF s1.1 (i*6+j) p2.1),p2.2)
def B3(x:Nat->Int)(y:Nat->Int)(i:Nat)(z:(Nat->Int)×Bool):Nat->(Nat->Int)×Bool
 |0=>z
 |j+1=>DU x y i j (B3 x y i z j)
theorem Fa(x:Nat->Int)(y:Nat->Int)(i:Nat)(z:(Nat->Int)×Bool)(j:Nat):B3 x y i z (j+1)=DU x y i j (B3 x y i z j):=rfl
def DV(x:Nat->Int)(y:Nat->Int)(i:Nat)(s0:(Nat->Int)×Bool):(Nat->Int)×Bool:=let p1:=B3 x y i (s0.1,s0.2) 6;(p1.1,p1.2)
def BG(x:Nat->Int)(y:Nat->Int)(z:(Nat->Int)×Bool):Nat->(Nat->Int)×Bool
 |0=>z
 |i+1=>DV x y i (BG x y z i)
theorem Fb(x:Nat->Int)(y:Nat->Int)(z:(Nat->Int)×Bool)(i:Nat):BG x y z (i+1)=DV x y i (BG x y z i):=rfl
def BM(bad:Bool)(x:Nat->Int)(y:Nat->Int):(Nat->Int)×Bool:=let r1:=BG x y ((fun _=>0),bad) 6;(r1.1,r1.2)
@[go_sem] theorem Av1 (g:Nat->Int)(k:Nat)(w:World)(h:(k:Int)<13):(Instr.index 272 (.agg (row 13 g).toArray) (.int .i64 (k:Int))).run Zm w=.ok (.int .i64 (g k)) w:=by
 have hk:k=0∨k=1∨k=2∨k=3∨k=4∨k=5∨k=6∨k=7∨k=8∨k=9∨k=10∨k=11∨k=12:=by omega
 rcases hk with rfl |rfl |rfl |rfl |rfl |rfl |rfl |rfl |rfl |rfl |rfl |rfl |rfl<;>(show _=_;kernel_rfl)
theorem Mq(b:Nat)(bad:Bool)(x:Nat->Int)(w:World)(hw:Fl b bad w):
    Calls Zm 236 #[.pointer (some ⟨b,0,none⟩),.agg (row 13 x).toArray] w fun e w'=>e=.returned (.int .i64 ((CK bad x).1))/\Fl b (CK bad x).2 w'/\Ad b w w':=by
 have hl:=hw.lies
 go_enter Tryz.func236,Tryz.ntmps236
 have y1_BF:=hw.lies
 have c1_B0_0:=Dp (AH w w.heap.size (row 13 x) 272 rfl) 0 (by omega)
 go_wp2_with (refine Ic (ty:=272) rfl rfl rfl (AH _ _ (row 13 x) _ (by simp)) (by kernel_rfl) (by rw[Bi];kernel_rfl) ?_)
 clear c1_B0_0
 obtain⟨J0,hJ0⟩:∃J:Nat->Act->World->Prop,Hid (J=fun k a Wl0=>∀G_:Prop,(∀(s0:Int×Bool) (A0 C0:Nat->Value),Hid (Ci x ((x 0),bad) k=s0)->a={tmps:=#[.pointer (some ⟨b,0,none⟩),A0 1,A0 2,A0 3,A0 4,.int .i64 s0.1,A0 6,A0 7,A0 8,A0 9,.agg (row 13 x).toArray,.int .i64 (k:Int),A0 12,A0 13,A0 14,A0 15,A0 16,A0 17,A0 18,A0 19,C0 0,C0 1],defers:=[]}->Ad b w Wl0->Fl b s0.2 Wl0->G_)->G_):=⟨_,rfl⟩
 refine BS J0 13 ?_ ?_ ?_
 ·refine Co (fun a_ ea_=>?_)
  rw[hJ0.out]
  intro G_ hG_
  exact hG_ ((x 0),bad) (zS a_ 0) (zS a_ 20) rfl (by subst ea_;rfl) ((Ad.refl b w).al _) (hw.alloc _)
 ·intro k a Wl0 hk hI R hR
  rw[hJ0.out]at hI
  refine hI _ ?_
  clear hI
  intro s0 A0 C0 El0 ea Kl0 BF_l0
  subst ea
  have zl0_BF:=BF_l0.lies
  have i2_0:(k:Int)<13:=by omega
  go_wp2_with fail
  refine(DJ b s0.2 s0.1 (x k) _ BF_l0).mono ?_
  rintro e w1 ⟨rfl,f1,k1⟩
  generalize e1:Ap s0.2 s0.1 (x k)=r1 at f1 ⊢
  have E1:Hid _:=e1
  clear e1
  try dsimp only
  have K1:Ad b w w1:=Ad.trans Kl0 k1
  have z1:=K1.size
  clear i2_0 BF_l0 k1
  go_wp2_with fail
  have hs0:Hid (Ci x ((x 0),bad) (k+1)=(r1.1,r1.2)):=by show _=_;rw[LE];unfold Cl;simp only[El0.out,E1.out]
  refine Co (fun a_ ea_=>?_)
  rw[hJ0.out]
  intro G_ hG_
  exact hG_ (r1.1,r1.2) (zS a_ 0) (zS a_ 20) hs0 (by subst ea_;rfl) K1 f1
 ·intro a Wl0 hI R
  rw[hJ0.out]at hI
  refine hI _ ?_
  clear hI hJ0
  intro r2 A0 C0 E2 ea Kl0 BF_l0
  subst ea
  have zl0_BF:=BF_l0.lies
  go_wp2_with fail
  refine(CF b r2.2 r2.1 1 14 _ BF_l0).mono ?_
  rintro e w3 ⟨rfl,f3,k3⟩
  generalize e3:Af r2.2 r2.1 1 14=r3 at f3 ⊢
  have E3:Hid _:=e3
  clear e3
  try dsimp only
  have K3:Ad b w w3:=Ad.trans Kl0 k3
  have z3:=K3.size
  clear BF_l0 k3
  go_wp2
  go_ret
  have hs:CK bad x=(r3.1,r3.2):=by unfold CK;simp only[E2.out,E3.out]
  rw[hs]
  exact⟨rfl,f3,K3⟩
theorem PV(b:Nat)(bad:Bool)(x:Nat->Int)(y:Nat->Int)(w:World)(hw:Fl b bad w):
    Calls Zm 146 #[.pointer (some ⟨b,0,none⟩),.agg (row 78 x).toArray,.agg (row 78 y).toArray] w fun e w'=>e=.returned (.agg (row 36 ((BM bad x y).1)).toArray)/\Fl b (BM bad x y).2 w'/\Ad b w w':=by
 have hl:=hw.lies
 go_enter Tryz.func146,Tryz.ntmps146
 have y1_BF:=hw.lies
 have y2_BF:b<w.heap.size+1:=(Zn hw.lies)
 have y2_B0:w.heap.size<w.heap.size+1:=by omega
 have y3_BF:b<w.heap.size+1+1:=(Zn (Zn hw.lies))
 have y3_B0:w.heap.size<w.heap.size+1+1:=by omega
 have y3_B1:w.heap.size+1<w.heap.size+1+1:=by omega
 have y4_BF:b<w.heap.size+1+1+1:=(Zn (Zn (Zn hw.lies)))
 have y4_B0:w.heap.size<w.heap.size+1+1+1:=by omega
 have y4_B1:w.heap.size+1<w.heap.size+1+1+1:=by omega
 have y4_B2:w.heap.size+1+1<w.heap.size+1+1+1:=by omega
 go_wp2_with fail
 obtain⟨J0,hJ0⟩:∃J:Nat->Act->World->Prop,Hid (J=fun i a Wl0=>∀G_:Prop,(∀(s0:(Nat->Int)×Bool) (A0 C0 D0:Nat->Value),Hid (BG x y ((fun _=>0),bad) i=s0)->a={tmps:=#[.pointer (some ⟨b,0,none⟩),A0 1,A0 2,A0 3,.pointer (some ⟨w.heap.size,0,none⟩),.pointer (some ⟨w.heap.size+1,0,none⟩),.pointer (some ⟨w.heap.size+1+1,0,none⟩),.pointer (some ⟨w.heap.size+1+1+1,0,none⟩),A0 8,A0 9,A0 10,A0 11,.int .i64 (i:Int),A0 13,A0 14,A0 15,A0 16,A0 17,A0 18,A0 19,C0 0,C0 1,C0 2,C0 3,C0 4,C0 5,C0 6,C0 7,C0 8,C0 9,C0 10,C0 11,C0 12,C0 13,C0 14,C0 15,C0 16,C0 17,C0 18,C0 19,D0 0,D0 1,D0 2,D0 3,D0 4,D0 5],defers:=[]}->Ad b w Wl0->Fl b s0.2 Wl0->AN w.heap.size (row 78 x) Wl0->AN (w.heap.size+1) (row 78 y) Wl0->AN (w.heap.size+1+1) (row 36 (fun _=>0)) Wl0->AN (w.heap.size+1+1+1) (row 36 s0.1) Wl0->G_)->G_):=⟨_,rfl⟩
 refine BS J0 6 ?_ ?_ ?_
 ·refine Co (fun a_ ea_=>?_)
  rw[hJ0.out]
  intro G_ hG_
  exact hG_ ((fun _=>0),bad) (zS a_ 0) (zS a_ 20) (zS a_ 40) rfl (by subst ea_;rfl) (((((Ad.refl b w).al _).al _).al _).al _) ((((hw.alloc _).alloc _).alloc _).alloc _) ((((AH _ _ (row 78 x) _ (by simp)).alloc _).alloc _).alloc _) (((AH _ _ (row 78 y) _ (by simp)).alloc _).alloc _) ((AH _ _ (row 36 (fun _=>0)) _ (by simp)).alloc _) (AH _ _ (row 36 (fun _=>0)) _ (by simp))
 ·intro i a Wl0 hi hI R hR
  rw[hJ0.out]at hI
  refine hI _ ?_
  clear hI
  intro s0 A0 C0 D0 El0 ea Kl0 BF_l0 B0_l0 B1_l0 B2_l0 B3_l0
  subst ea
  have zl0_BF:=BF_l0.lies
  have zl0_B0:=B0_l0.lies
  have zl0_B1:=B1_l0.lies
  have zl0_B2:=B2_l0.lies
  have zl0_B3:=B3_l0.lies
  go_wp2_with fail
  obtain⟨J1,hJ1⟩:∃J:Nat->Act->World->Prop,Hid (J=fun j a Wl1=>∀G_:Prop,(∀(s1:(Nat->Int)×Bool) (A1 C1 D1:Nat->Value),Hid (B3 x y i (s0.1,s0.2) j=s1)->a={tmps:=#[.pointer (some ⟨b,0,none⟩),A1 1,A1 2,A1 3,.pointer (some ⟨w.heap.size,0,none⟩),.pointer (some ⟨w.heap.size+1,0,none⟩),.pointer (some ⟨w.heap.size+1+1,0,none⟩),.pointer (some ⟨w.heap.size+1+1+1,0,none⟩),.int .i64 (i:Int),A1 9,A1 10,A1 11,.int .i64 (i:Int),A1 13,A1 14,.int .i64 (j:Int),A1 16,A1 17,A1 18,A1 19,C1 0,C1 1,C1 2,C1 3,C1 4,C1 5,C1 6,C1 7,C1 8,C1 9,C1 10,C1 11,C1 12,C1 13,C1 14,C1 15,C1 16,C1 17,C1 18,C1 19,D1 0,D1 1,D1 2,D1 3,D1 4,D1 5],defers:=[]}->Ad b w Wl1->Fl b s1.2 Wl1->AN w.heap.size (row 78 x) Wl1->AN (w.heap.size+1) (row 78 y) Wl1->AN (w.heap.size+1+1) (row 36 (fun _=>0)) Wl1->AN (w.heap.size+1+1+1) (row 36 s1.1) Wl1->G_)->G_):=⟨_,rfl⟩
  refine BS J1 6 ?_ ?_ ?_
  ·refine Co (fun a_ ea_=>?_)
   rw[hJ1.out]
   intro G_ hG_
   exact hG_ (s0.1,s0.2) (zS a_ 0) (zS a_ 20) (zS a_ 40) rfl (by subst ea_;rfl) Kl0 BF_l0 B0_l0 B1_l0 B2_l0 B3_l0
  ·intro j a Wl1 hj hI R hR
   rw[hJ1.out]at hI
   refine hI _ ?_
   clear hI
   intro s1 A1 C1 D1 El1 ea Kl1 BF_l1 B0_l1 B1_l1 B2_l1 B3_l1
   subst ea
   have zl1_BF:=BF_l1.lies
   have zl1_B0:=B0_l1.lies
   have zl1_B1:=B1_l1.lies
   have zl1_B2:=B2_l1.lies
   have zl1_B3:=B3_l1.lies
   have y13_BF:=BF_l1.lies
   have y13_B0:=B0_l1.lies
   have y13_B1:=B1_l1.lies
   have y13_B2:=B2_l1.lies
   have y13_B3:=B3_l1.lies
   go_wp2_with fail
   obtain⟨J2,hJ2⟩:∃J:Nat->Act->World->Prop,Hid (J=fun k a Wl2=>∀G_:Prop,(∀(s2:(Nat->Int)×Bool) (A2 C2 D2:Nat->Value),Hid (Bo x y i j ((fun _=>0),s1.2) k=s2)->a={tmps:=#[.pointer (some ⟨b,0,none⟩),A2 1,A2 2,A2 3,.pointer (some ⟨w.heap.size,0,none⟩),.pointer (some ⟨w.heap.size+1,0,none⟩),.pointer (some ⟨w.heap.size+1+1,0,none⟩),.pointer (some ⟨w.heap.size+1+1+1,0,none⟩),.int .i64 (i:Int),.int .i64 (j:Int),.pointer (some ⟨Wl1.heap.size,0,none⟩),A2 11,.int .i64 (i:Int),A2 13,A2 14,.int .i64 (j:Int),A2 16,A2 17,.int .i64 (k:Int),A2 19,C2 0,C2 1,C2 2,C2 3,C2 4,C2 5,C2 6,C2 7,C2 8,C2 9,C2 10,C2 11,C2 12,C2 13,C2 14,C2 15,C2 16,C2 17,C2 18,C2 19,D2 0,D2 1,D2 2,D2 3,D2 4,D2 5],defers:=[]}->Ad b w Wl2->Fl b s2.2 Wl2->AN w.heap.size (row 78 x) Wl2->AN (w.heap.size+1) (row 78 y) Wl2->AN (w.heap.size+1+1) (row 36 (fun _=>0)) Wl2->AN (w.heap.size+1+1+1) (row 36 s1.1) Wl2->AN Wl1.heap.size (row 13 s2.1) Wl2->G_)->G_):=⟨_,rfl⟩
   refine BS J2 13 ?_ ?_ ?_
   ·refine Co (fun a_ ea_=>?_)
    rw[hJ2.out]
    intro G_ hG_
    exact hG_ ((fun _=>0),s1.2) (zS a_ 0) (zS a_ 20) (zS a_ 40) rfl (by subst ea_;rfl) (Kl1.al _) (BF_l1.alloc _) (B0_l1.alloc _) (B1_l1.alloc _) (B2_l1.alloc _) (B3_l1.alloc _) (AH _ _ (row 13 (fun _=>0)) _ (by simp))
   ·intro k a Wl2 hk hI R hR
    rw[hJ2.out]at hI
    refine hI _ ?_
    clear hI
    intro s2 A2 C2 D2 El2 ea Kl2 BF_l2 B0_l2 B1_l2 B2_l2 B3_l2 B4_l2
    subst ea
    have zl2_BF:=BF_l2.lies
    have zl2_B0:=B0_l2.lies
    have zl2_B1:=B1_l2.lies
    have zl2_B2:=B2_l2.lies
    have zl2_B3:=B3_l2.lies
    have zl2_B4:=B4_l2.lies
    go_wp2_with fail
    refine wp_region_held_drew (S:=fun w'=>AN w.heap.size (row 78 x) w'/\AN (w.heap.size+1) (row 78 y) w') (by kernel_rfl) ⟨B0_l2.drew,B1_l2.drew⟩ (fun zH=>?_)
    refine zT 0 rfl (by kernel_rfl) (fun _ _ _=>id) rfl (fun _ _=>by go_simp<;>with_reducible rfl) zH ?_
    simp only[Act.put,zA,zB,zC]
    refine zT 1 rfl (by kernel_rfl) (fun _ _ _=>id) rfl (fun _ _=>by go_simp<;>with_reducible rfl) zH ?_
    simp only[Act.put,zA,zB,zC]
    refine zT 2 rfl (by kernel_rfl) (fun _ _ _=>id) rfl (fun _ _=>by go_simp<;>with_reducible rfl) zH ?_
    simp only[Act.put,zA,zB,zC]
    refine zT 3 rfl (by kernel_rfl) (fun _ _ _=>id) rfl (fun _ _=>by go_simp<;>with_reducible rfl) zH ?_
    simp only[Act.put,zA,zB,zC]
    refine zT 4 rfl (by kernel_rfl) (fun _ _ _=>id) rfl (fun _ _=>by have hi0:(k:Int)<13:=(by omega);go_simp<;>with_reducible rfl) zH ?_
    simp only[Act.put,zA,zB,zC]
    refine zT 5 rfl (by kernel_rfl) (fun _ _ _=>id) rfl (fun _ _=>by have hi0:(i:Int)<6:=(by omega);go_simp<;>with_reducible rfl) zH ?_
    simp only[Act.put,zA,zB,zC]
    refine zT 6 rfl (by kernel_rfl) (fun _ _ _=>id) rfl (fun wx hS=>by have hc0:wx.cell? ⟨w.heap.size,k*6+i,none⟩=some (.int .i64 (x (k*6+i))):=Dp hS.1 (k*6+i) (by omega);go_simp<;>with_reducible rfl) zH ?_
    simp only[Act.put,zA,zB,zC]
    refine zT 7 rfl (by kernel_rfl) (fun _ _ _=>id) rfl (fun _ _=>by go_simp<;>with_reducible rfl) zH ?_
    simp only[Act.put,zA,zB,zC]
    refine zT 8 rfl (by kernel_rfl) (fun _ _ _=>id) rfl (fun _ _=>by go_simp<;>with_reducible rfl) zH ?_
    simp only[Act.put,zA,zB,zC]
    refine zT 9 rfl (by kernel_rfl) (fun _ _ _=>id) rfl (fun _ _=>by have hi0:(k:Int)<13:=(by omega);go_simp<;>with_reducible rfl) zH ?_
    simp only[Act.put,zA,zB,zC]
    refine zT 10 rfl (by kernel_rfl) (fun _ _ _=>id) rfl (fun _ _=>by have hi0:(j:Int)<6:=(by omega);go_simp<;>with_reducible rfl) zH ?_
    simp only[Act.put,zA,zB,zC]
    refine zT 11 rfl (by kernel_rfl) (fun _ _ _=>id) rfl (fun wx hS=>by have hc0:wx.cell? ⟨w.heap.size+1,k*6+j,none⟩=some (.int .i64 (y (k*6+j))):=Dp hS.2 (k*6+j) (by omega);go_simp<;>with_reducible rfl) zH ?_
    simp only[Act.put,zA,zB,zC]
    refine zK 12 (by kernel_rfl) rfl (fun K hK=>?_)
    go_simp
    refine(Aw b s2.2 (x (k*6+i)) (y (k*6+j)) _ BF_l2.drew).mono ?_
    rintro e w1 ⟨rfl,f1,k1⟩
    generalize e1:mulS s2.2 (x (k*6+i)) (y (k*6+j))=r1 at f1 ⊢
    have E1:Hid _:=e1
    clear e1
    have K1:Ad b w w1:=Ad.trans Kl2.drew k1
    have B0_1:=B0_l2.drew.kept k1 (zG y1_BF)
    have B1_1:=B1_l2.drew.kept k1 (zG y2_BF)
    have B2_1:=B2_l2.drew.kept k1 (zG y3_BF)
    have B3_1:=B3_l2.drew.kept k1 (zG y4_BF)
    have B4_1:=B4_l2.drew.kept k1 (zG y13_BF)
    have z1:=B4_1.lies
    clear zH
    refine hK.out _ _ ⟨B0_1,B1_1⟩ (fun zH=>?_)
    clear hK K BF_l2 B0_l2 B1_l2 B2_l2 B3_l2 B4_l2 k1
    refine zT 13 rfl (by kernel_rfl) (fun _ _ _=>id) rfl (fun _ _=>by have hi0:(k:Int)<13:=(by omega);go_simp<;>with_reducible rfl) zH ?_
    simp only[Act.put,zA,zB,zC]
    refine zK 14 (by kernel_rfl) rfl (fun K hK=>?_)
    have c5_B4_0:w1.cell? ⟨Wl1.heap.size,k,none⟩=some (.int .i64 (s2.1 k)):=Dp B4_1 k (by omega)
    have g5_B4_1:=Ug B4_1 k (by omega)
    go_simp
    clear zH
    refine hK.out _ _ ⟨(B0_1.new Wl1.heap.size k (zL y13_B0) (.int .i64 r1.1)),(B1_1.new Wl1.heap.size k (zL y13_B1) (.int .i64 r1.1))⟩ (fun zH=>?_)
    clear hK K c5_B4_0 g5_B4_1
    refine wpAnyH_done (by kernel_rfl) ?_ _
    clear zH
    go_wp2_with fail
    have hs2:Hid (Bo x y i j ((fun _=>0),s1.2) (k+1)=((updF s2.1 k r1.1),r1.2)):=by show _=_;rw[E7];unfold DT;simp only[El2.out,E1.out]
    refine Co (fun a_ ea_=>?_)
    rw[hJ2.out]
    intro G_ hG_
    exact hG_ ((updF s2.1 k r1.1),r1.2) (zS a_ 0) (zS a_ 20) (zS a_ 40) hs2 (by subst ea_;rfl) (K1.new _ _ (by omega) _) (f1.new Wl1.heap.size k (zL y13_BF) (.int .i64 r1.1)) (B0_1.new Wl1.heap.size k (zL y13_B0) (.int .i64 r1.1)) (B1_1.new Wl1.heap.size k (zL y13_B1) (.int .i64 r1.1)) (B2_1.new Wl1.heap.size k (zL y13_B2) (.int .i64 r1.1)) (B3_1.new Wl1.heap.size k (zL y13_B3) (.int .i64 r1.1)) (JP B4_1 k (by omega) r1.1)
   ·intro a Wl2 hI R
    rw[hJ2.out]at hI
    refine hI _ ?_
    clear hI hJ2
    intro r2 A2 C2 D2 E2 ea Kl2 BF_l2 B0_l2 B1_l2 B2_l2 B3_l2 B4_l2
    subst ea
    have zl2_BF:=BF_l2.lies
    have zl2_B0:=B0_l2.lies
    have zl2_B1:=B1_l2.lies
    have zl2_B2:=B2_l2.lies
    have zl2_B3:=B3_l2.lies
    have zl2_B4:=B4_l2.lies
    go_wp2_with fail
    refine wp_region_held_drew (S:=fun w'=>AN Wl1.heap.size (row 13 r2.1) w') (by kernel_rfl) B4_l2.drew (fun zH=>?_)
    refine zT 0 rfl (by kernel_rfl) (fun _ _ _=>id) rfl (fun _ _=>by go_simp<;>with_reducible rfl) zH ?_
    simp only[Act.put,zA,zB,zC]
    refine zT 1 rfl (by kernel_rfl) (fun _ _ _=>id) rfl (fun _ _=>by go_simp<;>with_reducible rfl) zH ?_
    simp only[Act.put,zA,zB,zC]
    refine zT 2 rfl (by kernel_rfl) (fun _ _ _=>id) rfl (fun _ _=>by go_simp<;>with_reducible rfl) zH ?_
    simp only[Act.put,zA,zB,zC]
    refine CQ (i:=3) rfl (by kernel_rfl) (by kernel_rfl) (by kernel_rfl) (fun _ _ _ h=>h) (Afd (by rfl) rfl rfl (fun _ hS=>hS) (by kernel_rfl) (by rw[Bi];kernel_rfl)) zH ?_
    simp only[Act.put,zA,zB,zC]
    refine zT 5 rfl (by kernel_rfl) (fun _ _ _=>id) rfl (fun _ _=>by have hi0:(i:Int)<6:=(by omega);go_simp<;>with_reducible rfl) zH ?_
    simp only[Act.put,zA,zB,zC]
    refine zK 4 (by kernel_rfl) rfl (fun K hK=>?_)
    go_simp
    refine(Mq b r2.2 r2.1 _ BF_l2.drew).mono ?_
    rintro e w3 ⟨rfl,f3,k3⟩
    generalize e3:CK r2.2 r2.1=r3 at f3 ⊢
    have E3:Hid _:=e3
    clear e3
    have K3:Ad b w w3:=Ad.trans Kl2.drew k3
    have B0_3:=B0_l2.drew.kept k3 (zG y1_BF)
    have B1_3:=B1_l2.drew.kept k3 (zG y2_BF)
    have B2_3:=B2_l2.drew.kept k3 (zG y3_BF)
    have B3_3:=B3_l2.drew.kept k3 (zG y4_BF)
    have B4_3:=B4_l2.drew.kept k3 (zG y13_BF)
    have z3:=B4_3.lies
    clear zH
    refine hK.out _ _ B4_3 (fun zH=>?_)
    clear hK K BF_l2 B0_l2 B1_l2 B2_l2 B3_l2 B4_l2 k3
    refine zT 6 rfl (by kernel_rfl) (fun _ _ _=>id) rfl (fun _ _=>by have hi0:(j:Int)<6:=(by omega);go_simp<;>with_reducible rfl) zH ?_
    simp only[Act.put,zA,zB,zC]
    refine zK 7 (by kernel_rfl) rfl (fun K hK=>?_)
    have c8_B3_0:w3.cell? ⟨w.heap.size+1+1+1,i*6+j,none⟩=some (.int .i64 (s1.1 (i*6+j))):=Dp B3_3 (i*6+j) (by omega)
    have g8_B3_1:=Ug B3_3 (i*6+j) (by omega)
    go_simp
    clear zH
    refine hK.out _ _ (B4_3.new (w.heap.size+1+1+1) (i*6+j) (zG y13_B3) (.int .i64 r3.1)) (fun zH=>?_)
    clear hK K c8_B3_0 g8_B3_1
    refine wpAnyH_done (by kernel_rfl) ?_ _
    clear zH
    go_wp2_with fail
    have hs1:Hid (B3 x y i (s0.1,s0.2) (j+1)=((updF s1.1 (i*6+j) r3.1),r3.2)):=by show _=_;rw[Fa];unfold DU;simp only[El1.out,E2.out,E3.out]
    refine Co (fun a_ ea_=>?_)
    rw[hJ1.out]
    intro G_ hG_
    exact hG_ ((updF s1.1 (i*6+j) r3.1),r3.2) (zS a_ 0) (zS a_ 20) (zS a_ 40) hs1 (by subst ea_;rfl) (K3.new _ _ (by omega) _) (f3.new (w.heap.size+1+1+1) (i*6+j) (zL y4_BF) (.int .i64 r3.1)) (B0_3.new (w.heap.size+1+1+1) (i*6+j) (zL y4_B0) (.int .i64 r3.1)) (B1_3.new (w.heap.size+1+1+1) (i*6+j) (zL y4_B1) (.int .i64 r3.1)) (B2_3.new (w.heap.size+1+1+1) (i*6+j) (zL y4_B2) (.int .i64 r3.1)) (JP B3_3 (i*6+j) (by omega) r3.1)
  ·intro a Wl1 hI R
   rw[hJ1.out]at hI
   refine hI _ ?_
   clear hI hJ1
   intro r1 A1 C1 D1 E1 ea Kl1 BF_l1 B0_l1 B1_l1 B2_l1 B3_l1
   subst ea
   have zl1_BF:=BF_l1.lies
   have zl1_B0:=B0_l1.lies
   have zl1_B1:=B1_l1.lies
   have zl1_B2:=B2_l1.lies
   have zl1_B3:=B3_l1.lies
   go_wp2_with fail
   have hs0:Hid (BG x y ((fun _=>0),bad) (i+1)=(r1.1,r1.2)):=by show _=_;rw[Fb];unfold DV;simp only[El0.out,E1.out]
   refine Co (fun a_ ea_=>?_)
   rw[hJ0.out]
   intro G_ hG_
   exact hG_ (r1.1,r1.2) (zS a_ 0) (zS a_ 20) (zS a_ 40) hs0 (by subst ea_;rfl) Kl1 BF_l1 B0_l1 B1_l1 B2_l1 B3_l1
 ·intro a Wl0 hI R
  rw[hJ0.out]at hI
  refine hI _ ?_
  clear hI hJ0
  intro r1 A0 C0 D0 E1 ea Kl0 BF_l0 B0_l0 B1_l0 B2_l0 B3_l0
  subst ea
  have zl0_BF:=BF_l0.lies
  have zl0_B0:=B0_l0.lies
  have zl0_B1:=B1_l0.lies
  have zl0_B2:=B2_l0.lies
  have zl0_B3:=B3_l0.lies
  go_wp2_with (first |(refine Ic (ty:=38) rfl rfl rfl B3_l0 (by kernel_rfl) (by rw[Bi];kernel_rfl) ?_)|(refine Jz rfl (by kernel_rfl) ?_))
  refine Stop.mk (LD (l':=row 36 r1.1) rfl rfl rfl rfl B2_l0 (by simp only[Bi]) (by rw[Bi];kernel_rfl) (S0 _ _) ?_)
  intro w2 B2_2 o2
  have K2:Ad b w w2:=Ad.off Kl0 o2 (by omega)
  have BF_2:=BF_l0.off o2 (zL y3_BF)
  have B3_2:=B3_l0.off o2 (zG y4_B2)
  have z2_B2:=B2_2.lies
  have z2_BF:=BF_2.lies
  have z2_B3:=B3_2.lies
  clear B2_l0 BF_l0 B3_l0 o2
  go_wp2_with (with_reducible refine BJ ?_)
  refine Stop.mk ?_
  refine bodyPost_ret (v:=.agg (row 36 r1.1).toArray) (Eo Tryz.results146 B2_2 rfl (by kernel_rfl) (by rw[Bi];kernel_rfl)) rfl ?_
  have hs:BM bad x y=(r1.1,r1.2):=by unfold BM;simp only[E1.out]
  rw[hs]
  exact⟨rfl,BF_2,K2⟩
theorem Afe(b:Nat)(bad:Bool)(x:Nat->Int)(w:World)(hw:Fl b bad w):
    Calls Zm 144 #[.pointer (some ⟨b,0,none⟩),.agg (row 78 x).toArray] w fun e w'=>e=.returned (.agg (row 6 ((E6 bad x).1)).toArray)/\Fl b (E6 bad x).2 w'/\Ad b w w':=by
 have hl:=hw.lies
 go_enter Tryz.func144,Tryz.ntmps144
 have y1_BF:=hw.lies
 have y2_BF:b<w.heap.size+1:=(Zn hw.lies)
 have y2_B0:w.heap.size<w.heap.size+1:=by omega
 have y3_BF:b<w.heap.size+1+1:=(Zn (Zn hw.lies))
 have y3_B0:w.heap.size<w.heap.size+1+1:=by omega
 have y3_B1:w.heap.size+1<w.heap.size+1+1:=by omega
 go_wp2_with fail
 obtain⟨J0,hJ0⟩:∃J:Nat->Act->World->Prop,Hid (J=fun i a Wl0=>∀G_:Prop,(∀(s0:(Nat->Int)×Bool) (A0 C0:Nat->Value),Hid (Dw x ((fun _=>0),bad) i=s0)->a={tmps:=#[.pointer (some ⟨b,0,none⟩),A0 1,A0 2,.pointer (some ⟨w.heap.size,0,none⟩),.pointer (some ⟨w.heap.size+1,0,none⟩),.pointer (some ⟨w.heap.size+1+1,0,none⟩),A0 6,A0 7,A0 8,.int .i64 (i:Int),A0 10,A0 11,A0 12,A0 13,A0 14,A0 15,A0 16,A0 17,A0 18,A0 19,C0 0,C0 1,C0 2,C0 3,C0 4,C0 5,C0 6,C0 7,C0 8,C0 9],defers:=[]}->Ad b w Wl0->Fl b s0.2 Wl0->AN w.heap.size (row 78 x) Wl0->AN (w.heap.size+1) (row 6 (fun _=>0)) Wl0->AN (w.heap.size+1+1) (row 6 s0.1) Wl0->G_)->G_):=⟨_,rfl⟩
 refine BS J0 6 ?_ ?_ ?_
 ·refine Co (fun a_ ea_=>?_)
  rw[hJ0.out]
  intro G_ hG_
  exact hG_ ((fun _=>0),bad) (zS a_ 0) (zS a_ 20) rfl (by subst ea_;rfl) ((((Ad.refl b w).al _).al _).al _) (((hw.alloc _).alloc _).alloc _) (((AH _ _ (row 78 x) _ (by simp)).alloc _).alloc _) ((AH _ _ (row 6 (fun _=>0)) _ (by simp)).alloc _) (AH _ _ (row 6 (fun _=>0)) _ (by simp))
 ·intro i a Wl0 hi hI R hR
  rw[hJ0.out]at hI
  refine hI _ ?_
  clear hI
  intro s0 A0 C0 El0 ea Kl0 BF_l0 B0_l0 B1_l0 B2_l0
  subst ea
  have zl0_BF:=BF_l0.lies
  have zl0_B0:=B0_l0.lies
  have zl0_B1:=B1_l0.lies
  have zl0_B2:=B2_l0.lies
  have y6_BF:=BF_l0.lies
  have y6_B0:=B0_l0.lies
  have y6_B1:=B1_l0.lies
  have y6_B2:=B2_l0.lies
  go_wp2_with fail
  obtain⟨J1,hJ1⟩:∃J:Nat->Act->World->Prop,Hid (J=fun k a Wl1=>∀G_:Prop,(∀(s1:(Nat->Int)) (A1 C1:Nat->Value),Hid (D9 x i (fun _=>0) k=s1)->a={tmps:=#[.pointer (some ⟨b,0,none⟩),A1 1,A1 2,.pointer (some ⟨w.heap.size,0,none⟩),.pointer (some ⟨w.heap.size+1,0,none⟩),.pointer (some ⟨w.heap.size+1+1,0,none⟩),.int .i64 (i:Int),.pointer (some ⟨Wl0.heap.size,0,none⟩),A1 8,.int .i64 (i:Int),A1 10,A1 11,.int .i64 (k:Int),A1 13,A1 14,A1 15,A1 16,A1 17,A1 18,A1 19,C1 0,C1 1,C1 2,C1 3,C1 4,C1 5,C1 6,C1 7,C1 8,C1 9],defers:=[]}->Ad b w Wl1->Fl b s0.2 Wl1->AN w.heap.size (row 78 x) Wl1->AN (w.heap.size+1) (row 6 (fun _=>0)) Wl1->AN (w.heap.size+1+1) (row 6 s0.1) Wl1->AN Wl0.heap.size (row 13 s1) Wl1->G_)->G_):=⟨_,rfl⟩
  refine BS J1 13 ?_ ?_ ?_
  ·refine Co (fun a_ ea_=>?_)
   rw[hJ1.out]
   intro G_ hG_
   exact hG_ (fun _=>0) (zS a_ 0) (zS a_ 20) rfl (by subst ea_;rfl) (Kl0.al _) (BF_l0.alloc _) (B0_l0.alloc _) (B1_l0.alloc _) (B2_l0.alloc _) (AH _ _ (row 13 (fun _=>0)) _ (by simp))
  ·intro k a Wl1 hk hI R hR
   rw[hJ1.out]at hI
   refine hI _ ?_
   clear hI
   intro s1 A1 C1 El1 ea Kl1 BF_l1 B0_l1 B1_l1 B2_l1 B3_l1
   subst ea
   have zl1_BF:=BF_l1.lies
   have zl1_B0:=B0_l1.lies
   have zl1_B1:=B1_l1.lies
   have zl1_B2:=B2_l1.lies
   have zl1_B3:=B3_l1.lies
   have c3_B0_0:Wl1.cell? ⟨w.heap.size,k*6+i,none⟩=some (.int .i64 (x (k*6+i))):=Dp B0_l1 (k*6+i) (by omega)
   have c3_B3_1:Wl1.cell? ⟨Wl0.heap.size,k,none⟩=some (.int .i64 (s1 k)):=Dp B3_l1 k (by omega)
   have g3_B3_2:=Ug B3_l1 k (by omega)
   have i3_3:(i:Int)<6:=by omega
   have i3_4:(k:Int)<13:=by omega
   go_wp2_with fail
   clear c3_B0_0 c3_B3_1 g3_B3_2 i3_3 i3_4
   have hs1:Hid (D9 x i (fun _=>0) (k+1)=(updF s1 k (x (k*6+i)))):=by show _=_;rw[If];unfold GC;simp only[El1.out]
   refine Co (fun a_ ea_=>?_)
   rw[hJ1.out]
   intro G_ hG_
   exact hG_ (updF s1 k (x (k*6+i))) (zS a_ 0) (zS a_ 20) hs1 (by subst ea_;rfl) (Kl1.new _ _ (by omega) _) (BF_l1.new Wl0.heap.size k (zL y6_BF) (.int .i64 (x (k*6+i)))) (B0_l1.new Wl0.heap.size k (zL y6_B0) (.int .i64 (x (k*6+i)))) (B1_l1.new Wl0.heap.size k (zL y6_B1) (.int .i64 (x (k*6+i)))) (B2_l1.new Wl0.heap.size k (zL y6_B2) (.int .i64 (x (k*6+i)))) (JP B3_l1 k (by omega) (x (k*6+i)))
  ·intro a Wl1 hI R
   rw[hJ1.out]at hI
   refine hI _ ?_
   clear hI hJ1
   intro r1 A1 C1 E1 ea Kl1 BF_l1 B0_l1 B1_l1 B2_l1 B3_l1
   subst ea
   have zl1_BF:=BF_l1.lies
   have zl1_B0:=B0_l1.lies
   have zl1_B1:=B1_l1.lies
   have zl1_B2:=B2_l1.lies
   have zl1_B3:=B3_l1.lies
   go_wp2_with (refine Ic (ty:=272) rfl rfl rfl B3_l1 (by kernel_rfl) (by rw[Bi];kernel_rfl) ?_)
   refine(Mq b s0.2 r1 _ BF_l1).mono ?_
   rintro e w2 ⟨rfl,f2,k2⟩
   generalize e2:CK s0.2 r1=r2 at f2 ⊢
   have E2:Hid _:=e2
   clear e2
   try dsimp only
   have K2:Ad b w w2:=Ad.trans Kl1 k2
   have B0_2:=B0_l1.kept k2 (zG y1_BF)
   have B1_2:=B1_l1.kept k2 (zG y2_BF)
   have B2_2:=B2_l1.kept k2 (zG y3_BF)
   have B3_2:=B3_l1.kept k2 (zG y6_BF)
   have z2:=B3_2.lies
   clear BF_l1 B0_l1 B1_l1 B2_l1 B3_l1 k2
   have c5_B2_0:w2.cell? ⟨w.heap.size+1+1,i,none⟩=some (.int .i64 (s0.1 i)):=Dp B2_2 i (by omega)
   have g5_B2_1:=Ug B2_2 i (by omega)
   have i5_2:(i:Int)<6:=by omega
   go_wp2_with fail
   clear c5_B2_0 g5_B2_1 i5_2
   have hs0:Hid (Dw x ((fun _=>0),bad) (i+1)=((updF s0.1 i r2.1),r2.2)):=by show _=_;rw[Ig];unfold GD;simp only[El0.out,E1.out,E2.out]
   refine Co (fun a_ ea_=>?_)
   rw[hJ0.out]
   intro G_ hG_
   exact hG_ ((updF s0.1 i r2.1),r2.2) (zS a_ 0) (zS a_ 20) hs0 (by subst ea_;rfl) (K2.new _ _ (by omega) _) (f2.new (w.heap.size+1+1) i (zL y3_BF) (.int .i64 r2.1)) (B0_2.new (w.heap.size+1+1) i (zL y3_B0) (.int .i64 r2.1)) (B1_2.new (w.heap.size+1+1) i (zL y3_B1) (.int .i64 r2.1)) (JP B2_2 i (by omega) r2.1)
 ·intro a Wl0 hI R
  rw[hJ0.out]at hI
  refine hI _ ?_
  clear hI hJ0
  intro r1 A0 C0 E1 ea Kl0 BF_l0 B0_l0 B1_l0 B2_l0
  subst ea
  have zl0_BF:=BF_l0.lies
  have zl0_B0:=B0_l0.lies
  have zl0_B1:=B1_l0.lies
  have zl0_B2:=B2_l0.lies
  go_wp2_with (first |(refine Ic (ty:=36) rfl rfl rfl B2_l0 (by kernel_rfl) (by rw[Bi];kernel_rfl) ?_)|(refine Jz rfl (by kernel_rfl) ?_))
  refine Stop.mk (LD (l':=row 6 r1.1) rfl rfl rfl rfl B1_l0 (by simp only[Bi]) (by rw[Bi];kernel_rfl) (S0 _ _) ?_)
  intro w2 B1_2 o2
  have K2:Ad b w w2:=Ad.off Kl0 o2 (by omega)
  have BF_2:=BF_l0.off o2 (zL y2_BF)
  have B2_2:=B2_l0.off o2 (zG y3_B1)
  have z2_B1:=B1_2.lies
  have z2_BF:=BF_2.lies
  have z2_B2:=B2_2.lies
  clear B1_l0 BF_l0 B2_l0 o2
  go_wp2_with (with_reducible refine BJ ?_)
  refine Stop.mk ?_
  refine bodyPost_ret (v:=.agg (row 6 r1.1).toArray) (Eo Tryz.results144 B1_2 rfl (by kernel_rfl) (by rw[Bi];kernel_rfl)) rfl ?_
  have hs:E6 bad x=(r1.1,r1.2):=by unfold E6;simp only[E1.out]
  rw[hs]
  exact⟨rfl,BF_2,K2⟩
theorem QZ(b:Nat)(bad:Bool)(x:Nat->Int)(i:Nat)(w:World)(hw:Fl b bad w)(hi:i<6):
    Calls Zm 92 #[.pointer (some ⟨b,0,none⟩),.agg (row 78 x).toArray,.int .i64 (i:Int)] w fun e w'=>e=.returned (.int .i64 ((CI bad x i).1))/\Fl b (CI bad x i).2 w'/\Ad b w w':=by
 have hl:=hw.lies
 go_enter Tryz.func92,Tryz.ntmps92
 have y1_BF:=hw.lies
 go_wp2_with fail
 refine wp_region_held_drew (S:=fun w'=>AN w.heap.size (row 78 x) w') (by kernel_rfl) (AH _ _ (row 78 x) _ (by simp)).drew (fun zH=>?_)
 refine zT 0 rfl (by kernel_rfl) (fun _ _ _=>id) rfl (fun _ _=>by go_simp<;>with_reducible rfl) zH ?_
 simp only[Act.put,zA,zB,zC]
 refine zT 1 rfl (by kernel_rfl) (fun _ _ _=>id) rfl (fun _ _=>by go_simp<;>with_reducible rfl) zH ?_
 simp only[Act.put,zA,zB,zC]
 refine zT 2 rfl (by kernel_rfl) (fun _ _ _=>id) rfl (fun _ _=>by go_simp<;>with_reducible rfl) zH ?_
 simp only[Act.put,zA,zB,zC]
 refine zT 3 rfl (by kernel_rfl) (fun _ _ _=>id) rfl (fun _ _=>by go_simp<;>with_reducible rfl) zH ?_
 simp only[Act.put,zA,zB,zC]
 refine zT 4 rfl (by kernel_rfl) (fun _ _ _=>id) rfl (fun _ _=>by have hi0:(i:Int)<6:=(by omega);go_simp<;>with_reducible rfl) zH ?_
 simp only[Act.put,zA,zB,zC]
 refine zT 5 rfl (by kernel_rfl) (fun _ _ _=>id) rfl (fun wx hS=>by have hc0:wx.cell? ⟨w.heap.size,i,none⟩=some (.int .i64 (x i)):=Dp hS i (by omega);go_simp<;>with_reducible rfl) zH ?_
 simp only[Act.put,zA,zB,zC]
 refine zT 7 rfl (by kernel_rfl) (fun _ _ _=>id) rfl (fun _ _=>by go_simp<;>with_reducible rfl) zH ?_
 simp only[Act.put,zA,zB,zC]
 refine zT 8 rfl (by kernel_rfl) (fun _ _ _=>id) rfl (fun _ _=>by go_simp<;>with_reducible rfl) zH ?_
 simp only[Act.put,zA,zB,zC]
 refine zT 9 rfl (by kernel_rfl) (fun _ _ _=>id) rfl (fun _ _=>by have hi0:(i:Int)<6:=(by omega);go_simp<;>with_reducible rfl) zH ?_
 simp only[Act.put,zA,zB,zC]
 refine zT 10 rfl (by kernel_rfl) (fun _ _ _=>id) rfl (fun wx hS=>by have hc0:wx.cell? ⟨w.heap.size,i,none⟩=some (.int .i64 (x i)):=Dp hS i (by omega);go_simp<;>with_reducible rfl) zH ?_
 simp only[Act.put,zA,zB,zC]
 refine zK 6 (by kernel_rfl) rfl (fun K hK=>?_)
 go_simp
 refine(FZ b bad 0 (x i) _ (hw.alloc _).drew).mono ?_
 rintro e w1 ⟨rfl,f1,k1⟩
 generalize e1:Ap bad 0 (x i)=r1 at f1 ⊢
 have E1:Hid _:=e1
 clear e1
 have K1:Ad b w w1:=Ad.trans ((Ad.refl b w).al _).drew k1
 have B0_1:=(AH _ w.heap.size (row 78 x) _ (by simp)).drew.kept k1 (zG y1_BF)
 have z1:=B0_1.lies
 clear zH
 refine hK.out _ _ B0_1 (fun zH=>?_)
 clear hK K k1
 refine zK 11 (by kernel_rfl) rfl (fun K hK=>?_)
 go_simp
 refine(FZ b r1.2 r1.1 (x i) _ f1).mono ?_
 rintro e w2 ⟨rfl,f2,k2⟩
 generalize e2:Ap r1.2 r1.1 (x i)=r2 at f2 ⊢
 have E2:Hid _:=e2
 clear e2
 have K2:=Ad.trans K1 k2
 have B0_2:=B0_1.kept k2 (zG y1_BF)
 have z2:=B0_2.lies
 clear zH
 refine hK.out _ _ B0_2 (fun zH=>?_)
 clear hK K K1 f1 B0_1 k2
 refine zT 12 rfl (by kernel_rfl) (fun _ _ _=>id) rfl (fun _ _=>by go_simp<;>with_reducible rfl) zH ?_
 simp only[Act.put,zA,zB,zC]
 refine wpAnyH_done (by kernel_rfl) ?_ _
 clear zH
 go_wp2_with fail
 obtain⟨J0,hJ0⟩:∃J:Nat->Act->World->Prop,Hid (J=fun k a Wl0=>∀G_:Prop,(∀(s0:Int×Bool) (m1 m3 m5 m6 m9 m10 m11 m12 m13 m14 m15 m16 m17 m18 m19 m20 m21 m22 m23 m24 m25 m26 m27 m28 m29 m30 m31 m32 m33 m34 m35:Value),Hid (CX x i (r2.1,r2.2) k=s0)->a={tmps:=#[.pointer (some ⟨b,0,none⟩),m1,.int .i64 (i:Int),m3,.pointer (some ⟨w.heap.size,0,none⟩),m5,m6,.int .i64 s0.1,.int .i64 ((k+1:Nat):Int),m9,m10,m11,m12,m13,m14,m15,m16,m17,m18,m19,m20,m21,m22,m23,m24,m25,m26,m27,m28,m29,m30,m31,m32,m33,m34,m35],defers:=[]}->Ad b w Wl0->Fl b s0.2 Wl0->AN w.heap.size (row 78 x) Wl0->G_)->G_):=⟨_,rfl⟩
 refine BS J0 12 ?_ ?_ ?_
 ·rw[hJ0.out]
  intro G_ hG_
  exact hG_ (r2.1,r2.2) _ _ _ _ _ _ _ _ _ _ _ _ _ _ _ _ _ _ _ _ _ _ _ _ _ _ _ _ _ _ _ rfl rfl K2 f2 B0_2
 ·intro k a Wl0 hk hI R hR
  rw[hJ0.out]at hI
  refine hI _ ?_
  clear hI
  intro s0 m1 m3 m5 m6 m9 m10 m11 m12 m13 m14 m15 m16 m17 m18 m19 m20 m21 m22 m23 m24 m25 m26 m27 m28 m29 m30 m31 m32 m33 m34 m35 El0 ea Kl0 BF_l0 B0_l0
  subst ea
  have zl0_BF:=BF_l0.lies
  have zl0_B0:=B0_l0.lies
  have c3_B0_0:Wl0.cell? ⟨w.heap.size,(k+1:Nat)*6+i,none⟩=some (.int .i64 (x ((k+1:Nat)*6+i))):=Dp B0_l0 ((k+1:Nat)*6+i) (by omega)
  have i3_1:((k+1:Nat):Int)<13:=by omega
  have i3_2:(i:Int)<6:=by omega
  go_wp2_with fail
  refine(FZ b s0.2 s0.1 (x ((k+1:Nat)*6+i)) _ BF_l0).mono ?_
  rintro e w3 ⟨rfl,f3,k3⟩
  generalize e3:Ap s0.2 s0.1 (x ((k+1:Nat)*6+i))=r3 at f3 ⊢
  have E3:Hid _:=e3
  clear e3
  try dsimp only
  have K3:Ad b w w3:=Ad.trans Kl0 k3
  have B0_3:=B0_l0.kept k3 (zG y1_BF)
  have z3:=B0_3.lies
  clear c3_B0_0 i3_1 i3_2 BF_l0 B0_l0 k3
  go_wp2_with fail
  have hs0:Hid (CX x i (r2.1,r2.2) (k+1)=(r3.1,r3.2)):=by show _=_;rw[Ie];unfold D8;simp only[El0.out,E3.out]
  rw[hJ0.out]
  intro G_ hG_
  exact hG_ (r3.1,r3.2) _ _ _ _ _ _ _ _ _ _ _ _ _ _ _ _ _ _ _ _ _ _ _ _ _ _ _ _ _ _ _ hs0 rfl K3 f3 B0_3
 ·intro a Wl0 hI R
  rw[hJ0.out]at hI
  refine hI _ ?_
  clear hI hJ0
  intro r4 m1 m3 m5 m6 m9 m10 m11 m12 m13 m14 m15 m16 m17 m18 m19 m20 m21 m22 m23 m24 m25 m26 m27 m28 m29 m30 m31 m32 m33 m34 m35 E4 ea Kl0 BF_l0 B0_l0
  subst ea
  have zl0_BF:=BF_l0.lies
  have zl0_B0:=B0_l0.lies
  go_wp2_with fail
  refine(F7 b r4.2 r4.1 1 14 _ BF_l0).mono ?_
  rintro e w5 ⟨rfl,f5,k5⟩
  generalize e5:Af r4.2 r4.1 1 14=r5 at f5 ⊢
  have E5:Hid _:=e5
  clear e5
  try dsimp only
  have K5:Ad b w w5:=Ad.trans Kl0 k5
  have B0_5:=B0_l0.kept k5 (zG y1_BF)
  have z5:=B0_5.lies
  clear BF_l0 B0_l0 k5
  go_wp2
  go_ret
  have hs:CI bad x i=(r5.1,r5.2):=by unfold CI;simp only[E1.out,E2.out,E4.out,E5.out]
  rw[hs]
  exact⟨rfl,f5,K5⟩
theorem PW(b:Nat)(bad:Bool)(x:Nat->Int)(i:Nat)(y:Nat->Int)(j:Nat)(w:World)(hw:Fl b bad w)(hi:i<6)(hj:j<6):
    Calls Zm 94 #[.pointer (some ⟨b,0,none⟩),.agg (row 78 x).toArray,.int .i64 (i:Int),.agg (row 78 y).toArray,.int .i64 (j:Int)] w fun e w'=>e=.returned (.int .i64 ((AM bad x i y j).1))/\Fl b (AM bad x i y j).2 w'/\Ad b w w':=by
 have hl:=hw.lies
 go_enter Tryz.func94,Tryz.ntmps94
 have y1_BF:=hw.lies
 have y2_BF:b<w.heap.size+1:=(Zn hw.lies)
 have y2_B0:w.heap.size<w.heap.size+1:=by omega
 have y3_BF:b<w.heap.size+1+1:=(Zn (Zn hw.lies))
 have y3_B0:w.heap.size<w.heap.size+1+1:=by omega
 have y3_B1:w.heap.size+1<w.heap.size+1+1:=by omega
 go_wp2_with (refine Jz rfl (by kernel_rfl) ?_)
 refine Stop.mk (LD (l':=row 78 (fun _=>0)) rfl rfl rfl rfl (AH _ _ (row 78 (fun _=>0)) _ (by simp)) (by simp only[Bi]) (by rw[Bi];kernel_rfl) (S0 _ _) ?_)
 intro w1 B2_1 o1
 have K1:Ad b w w1:=Ad.off ((((Ad.refl b w).al _).al _).al _) o1 (by omega)
 have BF_1:=(((hw.alloc _).alloc _).alloc _).off o1 (zL y3_BF)
 have B0_1:=(((AH _ w.heap.size (row 78 x) _ (by simp)).alloc _).alloc _).off o1 (zL y3_B0)
 have B1_1:=((AH _ (w.heap.size+1) (row 78 y) _ (by simp)).alloc _).off o1 (zL y3_B1)
 have z1_B2:=B2_1.lies
 have z1_BF:=BF_1.lies
 have z1_B0:=B0_1.lies
 have z1_B1:=B1_1.lies
 clear o1
 go_wp2_with fail
 obtain⟨J0,hJ0⟩:∃J:Nat->Act->World->Prop,Hid (J=fun k a Wl0=>∀G_:Prop,(∀(s0:(Nat->Int)×Bool) (m1 m3 m5 m7 m9 m10 m13 m14 m15 m16 m17 m18 m19 m20 m21 m22 m23 m24 m25 m26 m27 m28 m29 m30 m31 m32 m33 m34 m35:Value),Hid (Bn x i y j ((fun _=>0),bad) k=s0)->a={tmps:=#[.pointer (some ⟨b,0,none⟩),m1,.int .i64 (i:Int),m3,.int .i64 (j:Int),m5,.pointer (some ⟨w.heap.size,0,none⟩),m7,.pointer (some ⟨w.heap.size+1,0,none⟩),m9,m10,.pointer (some ⟨w.heap.size+1+1,0,none⟩),.int .i64 (k:Int),m13,m14,m15,m16,m17,m18,m19,m20,m21,m22,m23,m24,m25,m26,m27,m28,m29,m30,m31,m32,m33,m34,m35],defers:=[]}->Ad b w Wl0->Fl b s0.2 Wl0->AN w.heap.size (row 78 x) Wl0->AN (w.heap.size+1) (row 78 y) Wl0->AN (w.heap.size+1+1) (row 78 s0.1) Wl0->G_)->G_):=⟨_,rfl⟩
 refine BS J0 13 ?_ ?_ ?_
 ·rw[hJ0.out]
  intro G_ hG_
  exact hG_ ((fun _=>0),bad) _ _ _ _ _ _ _ _ _ _ _ _ _ _ _ _ _ _ _ _ _ _ _ _ _ _ _ _ _ rfl rfl K1 BF_1 B0_1 B1_1 B2_1
 ·intro k a Wl0 hk hI R hR
  rw[hJ0.out]at hI
  refine hI _ ?_
  clear hI
  intro s0 m1 m3 m5 m7 m9 m10 m13 m14 m15 m16 m17 m18 m19 m20 m21 m22 m23 m24 m25 m26 m27 m28 m29 m30 m31 m32 m33 m34 m35 El0 ea Kl0 BF_l0 B0_l0 B1_l0 B2_l0
  subst ea
  have zl0_BF:=BF_l0.lies
  have zl0_B0:=B0_l0.lies
  have zl0_B1:=B1_l0.lies
  have zl0_B2:=B2_l0.lies
  go_wp2_with fail
  refine wp_region_held_drew (S:=fun w'=>AN w.heap.size (row 78 x) w'/\AN (w.heap.size+1) (row 78 y) w') (by kernel_rfl) ⟨B0_l0.drew,B1_l0.drew⟩ (fun zH=>?_)
  refine zT 0 rfl (by kernel_rfl) (fun _ _ _=>id) rfl (fun _ _=>by go_simp<;>with_reducible rfl) zH ?_
  simp only[Act.put,zA,zB,zC]
  refine zT 1 rfl (by kernel_rfl) (fun _ _ _=>id) rfl (fun _ _=>by go_simp<;>with_reducible rfl) zH ?_
  simp only[Act.put,zA,zB,zC]
  refine zT 2 rfl (by kernel_rfl) (fun _ _ _=>id) rfl (fun _ _=>by go_simp<;>with_reducible rfl) zH ?_
  simp only[Act.put,zA,zB,zC]
  refine zT 3 rfl (by kernel_rfl) (fun _ _ _=>id) rfl (fun _ _=>by go_simp<;>with_reducible rfl) zH ?_
  simp only[Act.put,zA,zB,zC]
  refine zT 4 rfl (by kernel_rfl) (fun _ _ _=>id) rfl (fun _ _=>by have hi0:(k:Int)<13:=(by omega);go_simp<;>with_reducible rfl) zH ?_
  simp only[Act.put,zA,zB,zC]
  refine zT 5 rfl (by kernel_rfl) (fun _ _ _=>id) rfl (fun _ _=>by have hi0:(i:Int)<6:=(by omega);go_simp<;>with_reducible rfl) zH ?_
  simp only[Act.put,zA,zB,zC]
  refine zT 6 rfl (by kernel_rfl) (fun _ _ _=>id) rfl (fun wx hS=>by have hc0:wx.cell? ⟨w.heap.size,k*6+i,none⟩=some (.int .i64 (x (k*6+i))):=Dp hS.1 (k*6+i) (by omega);go_simp<;>with_reducible rfl) zH ?_
  simp only[Act.put,zA,zB,zC]
  refine zT 7 rfl (by kernel_rfl) (fun _ _ _=>id) rfl (fun _ _=>by go_simp<;>with_reducible rfl) zH ?_
  simp only[Act.put,zA,zB,zC]
  refine zT 8 rfl (by kernel_rfl) (fun _ _ _=>id) rfl (fun _ _=>by go_simp<;>with_reducible rfl) zH ?_
  simp only[Act.put,zA,zB,zC]
  refine zT 9 rfl (by kernel_rfl) (fun _ _ _=>id) rfl (fun _ _=>by have hi0:(k:Int)<13:=(by omega);go_simp<;>with_reducible rfl) zH ?_
  simp only[Act.put,zA,zB,zC]
  refine zT 10 rfl (by kernel_rfl) (fun _ _ _=>id) rfl (fun _ _=>by have hi0:(j:Int)<6:=(by omega);go_simp<;>with_reducible rfl) zH ?_
  simp only[Act.put,zA,zB,zC]
  refine zT 11 rfl (by kernel_rfl) (fun _ _ _=>id) rfl (fun wx hS=>by have hc0:wx.cell? ⟨w.heap.size+1,k*6+j,none⟩=some (.int .i64 (y (k*6+j))):=Dp hS.2 (k*6+j) (by omega);go_simp<;>with_reducible rfl) zH ?_
  simp only[Act.put,zA,zB,zC]
  refine zT 13 rfl (by kernel_rfl) (fun _ _ _=>id) rfl (fun _ _=>by have hi0:(k:Int)<13:=(by omega);go_simp<;>with_reducible rfl) zH ?_
  simp only[Act.put,zA,zB,zC]
  refine zK 12 (by kernel_rfl) rfl (fun K hK=>?_)
  go_simp
  refine(Kk b s0.2 (x (k*6+i)) (y (k*6+j)) _ BF_l0.drew).mono ?_
  rintro e w2 ⟨rfl,f2,k2⟩
  generalize e2:mulS s0.2 (x (k*6+i)) (y (k*6+j))=r2 at f2 ⊢
  have E2:Hid _:=e2
  clear e2
  have K2:Ad b w w2:=Ad.trans Kl0.drew k2
  have B0_2:=B0_l0.drew.kept k2 (zG y1_BF)
  have B1_2:=B1_l0.drew.kept k2 (zG y2_BF)
  have B2_2:=B2_l0.drew.kept k2 (zG y3_BF)
  have z2:=B2_2.lies
  clear zH
  refine hK.out _ _ ⟨B0_2,B1_2⟩ (fun zH=>?_)
  clear hK K BF_l0 B0_l0 B1_l0 B2_l0 k2
  refine zT 14 rfl (by kernel_rfl) (fun _ _ _=>id) rfl (fun _ _=>by go_simp<;>with_reducible rfl) zH ?_
  simp only[Act.put,zA,zB,zC]
  refine zK 15 (by kernel_rfl) rfl (fun K hK=>?_)
  have c4_B2_0:w2.cell? ⟨w.heap.size+1+1,k*6,none⟩=some (.int .i64 (s0.1 (k*6))):=Dp B2_2 (k*6) (by omega)
  have g4_B2_1:=Ug B2_2 (k*6) (by omega)
  go_simp
  clear zH
  refine hK.out _ _ ⟨(B0_2.new (w.heap.size+1+1) (k*6) (zL y3_B0) (.int .i64 r2.1)),(B1_2.new (w.heap.size+1+1) (k*6) (zL y3_B1) (.int .i64 r2.1))⟩ (fun zH=>?_)
  clear hK K c4_B2_0 g4_B2_1
  refine wpAnyH_done (by kernel_rfl) ?_ _
  clear zH
  go_wp2_with fail
  have hs0:Hid (Bn x i y j ((fun _=>0),bad) (k+1)=((updF s0.1 (k*6) r2.1),r2.2)):=by show _=_;rw[Dj];unfold CJ;simp only[El0.out,E2.out]
  rw[hJ0.out]
  intro G_ hG_
  exact hG_ ((updF s0.1 (k*6) r2.1),r2.2) _ _ _ _ _ _ _ _ _ _ _ _ _ _ _ _ _ _ _ _ _ _ _ _ _ _ _ _ _ hs0 rfl (K2.new _ _ (by omega) _) (f2.new (w.heap.size+1+1) (k*6) (zL y3_BF) (.int .i64 r2.1)) (B0_2.new (w.heap.size+1+1) (k*6) (zL y3_B0) (.int .i64 r2.1)) (B1_2.new (w.heap.size+1+1) (k*6) (zL y3_B1) (.int .i64 r2.1)) (JP B2_2 (k*6) (by omega) r2.1)
 ·intro a Wl0 hI R
  rw[hJ0.out]at hI
  refine hI _ ?_
  clear hI hJ0
  intro r3 m1 m3 m5 m7 m9 m10 m13 m14 m15 m16 m17 m18 m19 m20 m21 m22 m23 m24 m25 m26 m27 m28 m29 m30 m31 m32 m33 m34 m35 E3 ea Kl0 BF_l0 B0_l0 B1_l0 B2_l0
  subst ea
  have zl0_BF:=BF_l0.lies
  have zl0_B0:=B0_l0.lies
  have zl0_B1:=B1_l0.lies
  have zl0_B2:=B2_l0.lies
  go_wp2_with (refine Ic rfl rfl rfl B2_l0 (by kernel_rfl) (by rw[Bi];kernel_rfl) ?_)
  refine(QZ b r3.2 r3.1 0 _ BF_l0 (by omega)).mono ?_
  rintro e w4 ⟨rfl,f4,k4⟩
  generalize e4:CI r3.2 r3.1 0=r4 at f4 ⊢
  have E4:Hid _:=e4
  clear e4
  try dsimp only
  have K4:Ad b w w4:=Ad.trans Kl0 k4
  have B0_4:=B0_l0.kept k4 (zG y1_BF)
  have B1_4:=B1_l0.kept k4 (zG y2_BF)
  have B2_4:=B2_l0.kept k4 (zG y3_BF)
  have z4:=B2_4.lies
  clear BF_l0 B0_l0 B1_l0 B2_l0 k4
  go_wp2
  go_ret
  have hs:AM bad x i y j=(r4.1,r4.2):=by unfold AM;simp only[E3.out,E4.out]
  rw[hs]
  exact⟨rfl,f4,K4⟩
end
section
open Go.RowKit
theorem VK(a p:Int):(sz a*sz p=if (decide (a<0) != decide (p<0))=true then-(a*p)else a*p):=by
 unfold sz
 by_cases x:a<0<;>by_cases y:p<0<;>simp[x,y]<;>grind
theorem partS_near(a p q:Int)(na:numB a=true)(np:numB p=true)(nq:numB q=true)(hq:0<q)(hb:sz a*sz p<=q*2305843009213693952):
    ∃m,Af false a p q=(m,false)/\2*(m*q)<=2*(a*p)+q/\2*(a*p)<=2*(m*q)+q/\(0<=a*p->0<=m):=by
 have e:=FP (bad:=false) (a:=a) (p:=p) (q:=q) (by unfold tk;simp[na,np,nq]) (by simp;omega)
 have sq:sz q=q:=P1 (by omega)
 have nr:=T9 (sz a*sz p) q (by omega)
 have n0:0<=sz a*sz p:=(CP na np).1
 have r0:0<=rnd (sz a*sz p) q:=ET n0 (by omega)
 have sg:=VK a p
 rw[sq,decide_eq_false (by omega:¬q<0)]at e
 generalize rnd (sz a*sz p) q=r at *
 generalize sz a*sz p=n at *
 have r1:r<=4611686018427387904:=by
  by_cases c:r<=4611686018427387904
  ·exact c
  ·have:=Zs (by omega:(4611686018427387905:Int)<=r) (by omega:0<=q)
   omega
 rw[show((decide (a<0) != decide (p<0)) != false)=(decide (a<0) != decide (p<0))by simp]at e
 generalize (decide (a<0) != decide (p<0))=s at *
 have e2:out r s=(if s=true then-r else r,false):=by
  unfold out
  rw[<-JM r s r1,decide_eq_false (by omega)]
 rw[e2]at e
 refine⟨_,e,?_⟩
 have rz:r=0->r*q=0:=fun h=>by rw[h,Int.zero_mul]
 cases s
 ·simp only[Bool.false_eq_true,if_false]at sg ⊢
  refine⟨by omega,by omega,fun _=>r0⟩
 ·simp only[if_true]at sg ⊢
  rw[Int.neg_mul]
  refine⟨by omega,by omega,fun h=>?_⟩
  have n1:n=0:=by omega
  have h2:r*q<=q / 2:=by omega
  by_cases c:r<=0
  ·omega
  ·have:=Zs (by omega:(1:Int)<=r) (by omega:0<=q)
   omega
theorem mulS_near(a b:Int)(na:numB a=true)(nb:numB b=true)(hb:sz a*sz b<=2535301200456458802993406410752):
    ∃m,mulS false a b=(m,false)/\m*1099511627776<=a*b+549755813888/\a*b<=m*1099511627776+549755813888/\(0<=a*b->0<=m):=by
 obtain⟨m,e,h1,h2,h3⟩:=partS_near a b 1099511627776 na nb (by rfl) (by decide) (by omega)
 exact⟨m,e,by omega,by omega,h3⟩
theorem Mr(a:Int):a<=sz a/\-a<=sz a/\0<=sz a:=by unfold sz;split<;>omega
theorem G5{a A:Int}(h:-A<=a/\a<=A):sz a<=A:=by unfold sz;split<;>omega
theorem Yc(a b:Int)(ha:-1125899906842624<=a/\a<=1125899906842624)(hb:-1125899906842624<=b/\b<=1125899906842624):
    ∃m,mulS false a b=(m,false)/\m*1099511627776<=a*b+549755813888/\a*b<=m*1099511627776+549755813888/\(0<=a*b->0<=m):=by
 refine mulS_near a b (B8 (by omega)) (B8 (by omega)) ?_
 have h1:=G5 ha
 have h2:=G5 hb
 have:=Int.mul_le_mul h1 h2 (Mr b).2.2 (by decide)
 omega
theorem LF(a b:Int)(ha:numB a=true)(hb:numB b=true)(h:numB (a+b)=true):Ap false a b=(a+b,false):=by
 rw[Hf (by unfold tk;simp[ha,hb]),WP h]
theorem Aff(a b:Int)(ha:numB a=true)(hb:numB b=true)(h:numB (a-b)=true):AJ false a b=(a-b,false):=by
 rw[Nl (by unfold tk;simp[ha,hb]),WP h]
theorem FE(zs:List Int):tk true zs=false:=rfl
theorem Dx(a b:Int):Ap true a b=(0,true):=MM (FE _)
theorem Q1(a b:Int):AJ true a b=(0,true):=MN (FE _)
theorem Q2(a b:Int):mulS true a b=(0,true):=MO (FE _)
theorem LG(a b:Int):AA true a b=(0,true):=Ca (FE _)
theorem GE(a b c:Int):Ar true a b c=(0,true):=Hg (FE _)
theorem VL:S6=vNormS:=rfl
theorem Yd(p:V3):vNormS true p=(0,true):=by simp[vNormS,GE]
theorem Oz{bad:Bool}{a b c n:Int}(h:Ar bad a b c=(n,false)):
    bad=false/\numB a=true/\numB b=true/\numB c=true/\0<=n/\n<=4611686018427387904/\n*n<=a*a+b*b+c*c/\a*a+b*b+c*c<(n+1)*(n+1):=by
 cases ht:tk bad [a,b,c]
 ·rw[Hg ht]at h;cases h
 ·have t:=Ei ht
  rw[Ix ht]at h
  have ha:=BF t.2.1
  have hb:=BF t.2.2.1
  have hc:=BF t.2.2.2
  have s:=Dy (a*a+b*b+c*c) (by omega) (by omega)
  have g:isq (a*a+b*b+c*c)<=4611686018427387904/\(out (isq (a*a+b*b+c*c)) false).1=if false=true then-isq (a*a+b*b+c*c)else isq (a*a+b*b+c*c):=Aix _ _ (by rw[h])
  have e:isq (a*a+b*b+c*c)=n:=by have h3:=congrArg Prod.fst h;rw[g.2,if_neg (by decide)]at h3;exact h3
  rw[e]at s g
  exact⟨t.1,t.2.1,t.2.2.1,t.2.2.2,s.1,g.1,s.2.1,s.2.2⟩
theorem LH(bad:Bool)(a b c:Int)(h:(Ar bad a b c).2=true):(Ar bad a b c).1=0:=by
 unfold Ar at h ⊢
 split
 ·rename_i t;rw[if_pos t]at h;exact Ash _ _ h
 ·rfl
theorem OA{a b c n:Int}(ha:numB a=true)(hb:numB b=true)(hc:numB c=true)(n0:0<=n)(n1:n<=4611686018427387904)
    (h1:n*n<=a*a+b*b+c*c) (h2:a*a+b*b+c*c<(n+1)*(n+1)):Ar false a b c=(n,false):=by
 have ha':=BF ha
 have hb':=BF hb
 have hc':=BF hc
 have s:=Dy (a*a+b*b+c*c) (by omega) (by omega)
 have e:isq (a*a+b*b+c*c)=n:=Np _ _ _ s.1 n0 s.2.1 s.2.2 h1 h2
 rw[Ix (by unfold tk;simp[ha,hb,hc]),e]
 unfold out
 rw[<-JM n false n1,decide_eq_false (by omega)]
 rfl
theorem GG{a n:Int}(h0:0<=n)(h:a*a<(n+1)*(n+1)):-n<=a/\a<=n:=by
 constructor
 ·by_cases c:-n<=a
  ·exact c
  ·have:=EE (by omega:(0:Int)<=n+1) (by omega:n+1<=-a)
   rw[Int.neg_mul_neg]at this
   omega
 ·by_cases c:a<=n
  ·exact c
  ·have:=EE (by omega:(0:Int)<=n+1) (by omega:n+1<=a)
   omega
theorem Bb(a:Int):0<=a*a:=by rw[<-P4 a];exact Int.mul_nonneg (Mr a).2.2 (Mr a).2.2
structure Uof(u a n:Int):Prop where
 lo:-1099511627776<=u
 hi:u<=1099511627776
 up:2*(u*n)<=2*(a*1099511627776)+n
 dn:2*(a*1099511627776)<=2*(u*n)+n
theorem OB(a n:Int)(hn:0<n/\n<=4611686018427387904)(ha:-n<=a/\a<=n):∃u,AA false a n=(u,false)/\Uof u a n:=by
 obtain⟨m,e,h1,h2,_⟩:=partS_near a 1099511627776 n (B8 (by omega)) (by rfl) (B8 (by omega)) hn.1 (by
  rw[show sz 1099511627776=1099511627776 by rfl]
  have:=G5 (A:=n) ha
  omega)
 refine⟨m,e,?_,?_,h1,h2⟩
 ·by_cases c:-1099511627776<=m
  ·exact c
  ·have:=Zs (by omega:m<=-1099511627777) (by omega:0<=n)
   omega
 ·by_cases c:m<=1099511627776
  ·exact c
  ·have:=Zs (by omega:(1099511627777:Int)<=m) (by omega:0<=n)
   omega
theorem VM(bad:Bool)(p:V3):
    ((vNormS bad p).1<1048576/\vUnitS bad p=((0,0,0),true))∨
    (∃n u0 u1 u2,bad=false/\vNormS bad p=(n,false)/\Ar false p.1 p.2.1 p.2.2=(n,false)/\1048576<=n/\AA false p.1 n=(u0,false)/\AA false p.2.1 n=(u1,false)/\AA false p.2.2 n=(u2,false)/\
      vUnitS bad p=((u0,u1,u2),false)/\Uof u0 p.1 n/\Uof u1 p.2.1 n/\Uof u2 p.2.2 n):=by
 have hN:vNormS bad p=Ar bad p.1 p.2.1 p.2.2:=rfl
 by_cases c:(vNormS bad p).1<1048576
 ·exact Or.inl ⟨c,by unfold vUnitS;simp[c]⟩
 ·refine Or.inr ?_
  have hb:(Ar bad p.1 p.2.1 p.2.2).2=false:=by
   cases hb:(Ar bad p.1 p.2.1 p.2.2).2
   ·rfl
   ·have:=LH _ _ _ _ hb
    rw[hN]at c
    omega
  rw[hN]at c
  obtain⟨n,hn⟩:∃n,Ar bad p.1 p.2.1 p.2.2=(n,false):=⟨_,Prod.ext rfl hb⟩
  have g:=Oz hn
  rw[hn]at c
  have c':¬n<1048576:=c
  have s0:=Bb p.1
  have s1:=Bb p.2.1
  have s2:=Bb p.2.2
  obtain⟨u0,e0,U0⟩:=OB p.1 n (by omega) (GG g.2.2.2.2.1 (by omega))
  obtain⟨u1,e1,U1⟩:=OB p.2.1 n (by omega) (GG g.2.2.2.2.1 (by omega))
  obtain⟨u2,e2,U2⟩:=OB p.2.2 n (by omega) (GG g.2.2.2.2.1 (by omega))
  have hbad:=g.1
  subst hbad
  refine⟨n,u0,u1,u2,rfl,hN.trans hn,hn,by omega,e0,e1,e2,?_,U0,U1,U2⟩
  unfold vUnitS
  simp[hN,hn,c',e0,e1,e2]
theorem Am9:FL=vUnitS:=by
 funext bad p
 rcases VM bad p with⟨c,e⟩|⟨n,u0,u1,u2,rfl,hv,hn,c,e0,e1,e2,e,_⟩
 ·rw[e]
  unfold FL
  rw[VL]
  simp[c,LG,GB]
 ·rw[e]
  unfold FL
  rw[VL]
  simp[hv,show ¬n<1048576 by omega,e0,e1,e2,Gf]
theorem AEi{a b A B:Int}(ha:-A<=a/\a<=A)(hb:-B<=b/\b<=B):-(A*B)<=a*b/\a*b<=A*B:=by
 have h1:=Int.mul_le_mul (G5 ha) (G5 hb) (Mr b).2.2 (by omega:(0:Int)<=A)
 have h2:=VK a b
 have h3:=Int.mul_nonneg (Mr a).2.2 (Mr b).2.2
 split at h2
 ·rw[h2]at h1 h3;omega
 ·rw[h2]at h1 h3;omega
theorem Av2(a p q:Int):Af true a p q=(0,true):=Ca (FE _)
theorem AA3{α:Type}{b:Bool}{X:Bool->α×Bool}(hX:(X true).2=true)(h:(X b).2=false):b=false/\(X false).2=false:=by
 cases b
 ·exact⟨rfl,h⟩
 ·rw[hX]at h;cases h
theorem AKa{α β:Type}(t:α×β):(t.1,t.2)=t:=rfl
theorem Kw(g:Nat->Int)(o:Nat)(v:Int):updF g o v o=v:=by unfold updF;rw[if_pos rfl]
theorem Ih(g:Nat->Int){o i:Nat}(v:Int)(h:i≠o):updF g o v i=g i:=by unfold updF;rw[if_neg h]
structure Aa8(L:Nat->(Nat->Int)×Bool)(G:Nat->Prop)(v:Nat->Nat->Int)(o T W m:Nat):Prop where
 good:(L m).2=false↔(L 0).2=false/\∀k,k<m->G k
 val:(L m).2=false->∀k,k<m->∀j,j<W->(L m).1 (o+k*T+j)=v k j
 rest:∀i,(∀k,k<m->i<o+k*T∨o+k*T+W<=i)->(L m).1 i=(L 0).1 i
theorem Aa9{L:Nat->(Nat->Int)×Bool}{G:Nat->Prop}{v:Nat->Nat->Int}{o T W n:Nat}(hT:W<=T)
    (hs:∀k,k<n->∀s:(Nat->Int)×Bool,s=L k->(∀j,j<W->s.1 (o+k*T+j)=(L 0).1 (o+k*T+j))->
      ((L (k+1)).2=false↔s.2=false/\G k)/\((L (k+1)).2=false->∀j,j<W->(L (k+1)).1 (o+k*T+j)=v k j)/\∀i,(i<o+k*T∨o+k*T+W<=i)->(L (k+1)).1 i=s.1 i):
    ∀m,m<=n->Aa8 L G v o T W m
 |0,_=>⟨⟨fun h=>⟨h,fun k hk=>absurd hk (Nat.not_lt_zero k)⟩,fun h=>h.1⟩,fun _ k hk=>absurd hk (Nat.not_lt_zero k),fun _ _=>rfl⟩
 | m+1,hm=>by
  have ih:=Aa9 hT hs m (by omega)
  have far:∀k,k<m->o+k*T+W<=o+m*T:=fun k hk=>by
   have:(k+1)*T<=m*T:=Nat.mul_le_mul_right T hk
   rw[Nat.succ_mul]at this
   omega
  obtain⟨s1,s2,s3⟩:=hs m (by omega) (L m) rfl (fun j hj=>ih.rest _ (fun k hk=>Or.inr (by have:=far k hk;omega)))
  refine⟨⟨fun h=>?_,fun h=>?_⟩,fun h k hk j hj=>?_,fun i hi=>?_⟩
  ·obtain⟨e,g⟩:=s1.1 h
   obtain⟨z,r⟩:=ih.good.1 e
   exact⟨z,fun k hk=>by
    rcases Nat.lt_succ_iff_lt_or_eq.1 hk with hk |rfl
    ·exact r k hk
    ·exact g⟩
  ·exact s1.2 ⟨ih.good.2 ⟨h.1,fun k hk=>h.2 k (by omega)⟩,h.2 m (by omega)⟩
  ·obtain⟨e,g⟩:=s1.1 h
   rcases Nat.lt_succ_iff_lt_or_eq.1 hk with hk |rfl
   ·rw[s3 _ (Or.inl (by have:=far k hk;omega))]
    exact ih.val e k hk j hj
   ·exact s2 h j hj
  ·rw[s3 i (hi m (by omega))]
   exact ih.rest i (fun k hk=>hi k (by omega))
theorem VN{X:Bool->Int×Bool}(hX:(X true).2=true)(b:Bool):(X b).2=false↔b=false/\(X false).2=false:=
 ⟨fun h=>AA3 hX h,fun h=>by rw[h.1];exact h.2⟩
theorem Aba{X:Bool->Int×Bool}(hX:(X true).2=true){b:Bool}(h:(X b).2=false):(X b).1=(X false).1:=by rw[(AA3 hX h).1]
theorem Afg(b:Bool)(x:Int):Ap (Ap b 0 x).2 (Ap b 0 x).1 x=Ap b x x:=by
 cases b
 ·cases hx:numB x
  ·have e1:Ap false 0 x=(0,true):=by unfold Ap tk;simp[hx]
   have e2:Ap false x x=(0,true):=by unfold Ap tk;simp[hx]
   rw[e1,e2,Dx]
  ·have e1:Ap false 0 x=(x,false):=by
    unfold Ap tk gv
    have h0:numB 0=true:=by decide
    simp[hx,h0]
   rw[e1]
 ·rw[Dx,Dx,Dx]
theorem Ana{x col:Nat->Int}{i:Nat}(hc:∀k,k<13->col k=x (k*6+i))(b:Bool):∀k,k<=12->
    Ci col (col 0,b) (k+1)=CX x i ((Ap (Ap b 0 (x i)).2 (Ap b 0 (x i)).1 (x i)).1,(Ap (Ap b 0 (x i)).2 (Ap b 0 (x i)).1 (x i)).2) k
 |0,_=>by
  have h0:col 0=x i:=by rw[hc 0 (by omega)];congr 1;omega
  show Cl col 0 (col 0,b)=_
  unfold Cl CX
  dsimp only
  rw[h0,Afg]
 |k+1,hk=>by
  have ih:=Ana hc b k (by omega)
  show Cl col (k+1) (Ci col (col 0,b) (k+1))=D8 x i k _
  rw[ih]
  unfold Cl D8
  dsimp only
  rw[hc (k+1) (by omega)]
theorem Anb{x col:Nat->Int}{i:Nat}(hc:∀k,k<13->col k=x (k*6+i))(b:Bool):CK b col=CI b x i:=by
 unfold CK CI
 dsimp only
 rw[Ana hc b 12 (by omega)]
theorem IF(x:Nat->Int)(i:Nat):(CI true x i).2=true:=by
 have:∀(z:Int×Bool) (hz:z.2=true) (k:Nat),(CX x i z k).2=true:=fun z hz k=>by
  induction k with
  |zero=>exact hz
  |succ k ih=>rw[Ie];unfold D8;dsimp only;rw[ih,Dx]
 unfold CI
 dsimp only
 rw[Dx,this _ (by rw[Dx]),Av2]
theorem Anc(x:Nat->Int)(i:Nat):∀n k,k<n->D9 x i (fun _=>0) n k=x (k*6+i)
 |n+1,k,hk=>by
  rw[If]
  unfold GC
  by_cases e:k=n
  ·subst e;rw[Kw]
  ·rw[Ih _ _ e];exact Anc x i n k (by omega)
theorem OC(x:Nat->Int)(b:Bool):Aa8 (Dw x ((fun _=>0),b)) (fun i=>(CI false x i).2=false) (fun i _=>(CI false x i).1) 0 1 1 6:=by
 refine Aa9 (n:=6) (by omega) (fun k hk s hs _=>?_) 6 (by omega)
 rw[Ig,<-hs]
 unfold GD
 dsimp only
 rw[Anb (x:=x) (i:=k) (fun c hc=>Anc x k 13 c hc)]
 have hX:=IF x k
 refine⟨VN (X:=fun b=>CI b x k) hX s.2,fun h j hj=>?_,fun i hi=>Ih _ _ (by omega)⟩
 obtain rfl:j=0:=by omega
 rw[show 0+k*1+0=k by omega,Kw]
 exact Aba (X:=fun b=>CI b x k) hX h
theorem Abb(x y:Nat->Int)(i j:Nat)(b:Bool):∀n,(Bo x y i j ((fun _=>0),b) n).2=(Bn x i y j ((fun _=>0),b) n).2/\
    ∀k,k<n->(Bo x y i j ((fun _=>0),b) n).1 k=(Bn x i y j ((fun _=>0),b) n).1 (k*6)
 |0=>⟨rfl,fun k hk=>absurd hk (Nat.not_lt_zero k)⟩
 |n+1=>by
  obtain⟨h1,h2⟩:=Abb x y i j b n
  rw[E7,Dj]
  unfold DT CJ
  dsimp only
  rw[h1]
  refine⟨rfl,fun k hk=>?_⟩
  by_cases e:k=n
  ·subst e;rw[Kw,Kw]
  ·rw[Ih _ _ e,Ih _ _ (by omega)];exact h2 k (by omega)
theorem Av3(x y:Nat->Int)(i j:Nat)(b:Bool):CK (Bo x y i j ((fun _=>0),b) 13).2 (Bo x y i j ((fun _=>0),b) 13).1=AM b x i y j:=by
 obtain⟨h1,h2⟩:=Abb x y i j b 13
 unfold AM
 dsimp only
 rw[h1,Anb (x:=(Bn x i y j ((fun _=>0),b) 13).1) (i:=0) (fun k hk=>by rw[h2 k hk];rfl)]
theorem Q3(x y:Nat->Int)(i j:Nat):(AM true x i y j).2=true:=by
 have:∀k,(Bn x i y j ((fun _=>0),true) k).2=true:=fun k=>by
  induction k with
  |zero=>rfl
  |succ k ih=>rw[Dj];unfold CJ;dsimp only;rw[ih,Q2]
 unfold AM
 dsimp only
 rw[this,IF]
theorem Ane(x y:Nat->Int)(i:Nat)(z:(Nat->Int)×Bool):Aa8 (B3 x y i z) (fun j=>(AM false x i y j).2=false) (fun j _=>(AM false x i y j).1) (i*6) 1 1 6:=by
 refine Aa9 (n:=6) (by omega) (fun j hj s hs _=>?_) 6 (by omega)
 rw[Fa,<-hs]
 unfold DU
 dsimp only
 rw[Av3]
 have hX:=Q3 x y i j
 refine⟨VN (X:=fun b=>AM b x i y j) hX s.2,fun h c hc=>?_,fun e he=>Ih _ _ (by omega)⟩
 obtain rfl:c=0:=by omega
 rw[show i*6+j*1+0=i*6+j by omega,Kw]
 exact Aba (X:=fun b=>AM b x i y j) hX h
theorem OD(x y:Nat->Int)(b:Bool):Aa8 (BG x y ((fun _=>0),b)) (fun i=>∀j,j<6->(AM false x i y j).2=false) (fun i j=>(AM false x i y j).1) 0 6 6 6:=by
 refine Aa9 (n:=6) (by omega) (fun i hi s hs _=>?_) 6 (by omega)
 rw[Fb,<-hs]
 unfold DV
 dsimp only
 have F:=Ane x y i (s.1,s.2)
 refine⟨F.good,fun h j hj=>?_,fun e he=>F.rest e (fun k hk=>by omega)⟩
 have:=F.val h j hj 0 (by omega)
 rw[show i*6+j*1+0=0+i*6+j by omega]at this
 exact this
theorem Kx(b:Bool)(x y:Nat->Int):BM b x y=BG x y ((fun _=>0),b) 6:=by
 unfold BM
 exact AKa _
theorem Afh(x y:Nat->Int)(b:Bool):(BM b x y).2=false↔b=false/\∀i,i<6->∀j,j<6->(AM false x i y j).2=false:=by
 rw[Kx]
 exact(OD x y b).good
theorem Anf{x y:Nat->Int}{b:Bool}(h:(BM b x y).2=false){i j:Nat}(hi:i<6)(hj:j<6):(BM b x y).1 (i*6+j)=(AM false x i y j).1:=by
 rw[Kx]at h ⊢
 have:=(OD x y b).val h i hi j hj
 rw[show 0+i*6+j=i*6+j by omega]at this
 exact this
theorem VO(b:Bool)(x:Nat->Int):E6 b x=Dw x ((fun _=>0),b) 6:=by
 unfold E6
 exact AKa _
theorem Afi(x:Nat->Int)(b:Bool):(E6 b x).2=false↔b=false/\∀i,i<6->(CI false x i).2=false:=by
 rw[VO]
 exact(OC x b).good
theorem Ang{x:Nat->Int}{b:Bool}(h:(E6 b x).2=false){i:Nat}(hi:i<6):(E6 b x).1 i=(CI false x i).1:=by
 rw[VO]at h ⊢
 have:=(OC x b).val h i hi 0 (by omega)
 rw[show 0+i*1+0=i by omega]at this
 exact this
end
namespace Nx
open Go.RowKit Go.Proofs.YtoadcnhcfodkgaaGreatDoor
def Dk(v:Value):Nat->Int:=fun i=>match v with
 | .agg cs=>(match cs.toList[i]? with
  |some (.int _ x)=>x
  |_=>0)
 |_=>0
theorem GH{n:Nat}{v:Value}(h:G2 [] (rI n) v):v=.agg (row n (Dk v)).toArray:=by
 obtain⟨l,rfl,hl⟩:=h
 have hl:Aj (G0 []) (Zr n uI) l:=hl
 have e:l=row n (Dk (.agg ⟨l⟩)):=by
  have hlen:=hl.len
  rw[List.length_replicate]at hlen
  refine List.ext_getElem? fun i=>?_
  by_cases hi:i<n
  ·obtain⟨v,hv,x,e⟩:=hl.get i uI (by rw[List.getElem?_replicate,if_pos hi])
   rw[hv,List.getElem?_eq_getElem (by rw[Bi];exact hi),Iz (by rw[Bi];exact hi),e]
   have:Dk (.agg ⟨l⟩) i=x:=by
    show(match l[i]? with
     |some (.int _ x)=>x
     |_=>0)=x
    rw[hv,e]
   rw[this]
  ·rw[List.getElem?_eq_none (by omega),List.getElem?_eq_none (by rw[Bi];omega)]
 exact congrArg (fun l=>Value.agg ⟨l⟩) e
theorem VP(n:Nat)(g:Nat->Int):(Value.agg (row n g).toArray)=.agg ⟨((List.range n).map g).map (Value.int .i64)⟩:=by
 unfold row
 rw[List.map_map]
 rfl
theorem Ii{s:Value}{rest:List Value}(h:Aj (G2 []) [s] rest):∃v,rest=[v]/\G2 [] s v:=by
 match rest,h with
 |[v],h=>exact⟨v,rfl,h.1⟩
theorem VR{s t:Value}{rest:List Value}(h:Aj (G2 []) [s,t] rest):∃v w,rest=[v,w]/\G2 [] s v/\G2 [] t w:=by
 match rest,h with
 |[v,w],h=>exact⟨v,w,rfl,h.1,h.2.1⟩
theorem OE{n:Nat}{v:Value}(h:G2 [] (rI n) v):isP v=false:=by rw[h.isP];rfl
def LJ(t:Nat)(b:Bool)(rest:List Value):Int×Bool:=
 match rest with
 |[v]=>CI b (Dk v) t
 |_=>(0,true)
def Abc(t:Nat)(rest:List Value):List Value:=
 match rest with
 |[v]=>[v,.int .i64 (t:Int)]
 |r=>r
def Anh(args:List Value):Option (Nat×List Value):=
 match args with
 |[x,.int .i64 (.ofNat t)]=>(match Nat.ble (Nat.succ t) 6 with
  |true=>some (t,[x])
  |false=>none)
 |_=>none
def mnF(base:Nat):Fam:=⟨base,6,144,92,[rI 78],Abc,Anh⟩
theorem Ani(t:Nat)(ht:t<6)(b:Bool)(rest:List Value)(h:Aj (G2 []) [rI 78] rest):CallsOk Zm 92 b (Abc t rest) (.int .i64 (LJ t b rest).1) (LJ t b rest).2:=by
 obtain⟨v,rfl,hv⟩:=Ii h
 refine⟨fun u hu=>?_,rfl,fun k w _ _ hw=>?_⟩
 ·have hu:u=v∨u=.int .i64 (t:Int):=by simpa [Abc]using hu
  rcases hu with rfl |rfl
  ·exact OE hv
  ·rfl
 ·have e:=GH hv
  show Calls Zm 92 #[ptr k,v,.int .i64 (t:Int)] w _
  have:=QZ k b (Dk v) t w hw ht
  rw[<-e]at this
  exact this
def AEj(t:Nat)(ht:t<6):Pr Zm:=⟨fun _=>92,fun _=>C9 (by decide+kernel),[rI 78],uI,9,by decide+kernel,Abc t,fun h=>absurd rfl h,⟨fun _ b rest=>(.int .i64 (LJ t b rest).1,(LJ t b rest).2),fun _ b rest h=>⟨⟨fun _=>Ani t ht b rest h,fun e=>(by omega)⟩,fun e=>by
    obtain⟨v,rfl,_⟩:=Ii h
    rw[e]
    exact IF (Dk v) t,⟨_,rfl⟩,fun e=>(by omega),fun e=>(by omega),fun e=>(by omega),fun e=>(by omega)⟩,fun _ _=>⟨rfl,fun _=>rfl⟩,⟨fun h=>by omega,fun h=>by omega,fun h=>by omega,fun h=>by omega⟩,⟨fun h=>by omega,fun h=>by omega,fun h=>by omega⟩⟩⟩
def GI(t:Nat)(b:Bool)(rest:List Value):Int×Bool:=
 match rest with
 |[v,u]=>AM b (Dk v) (t / 6) (Dk u) (t % 6)
 |_=>(0,true)
def VS(t:Nat)(rest:List Value):List Value:=
 match rest with
 |[v,u]=>[v,.int .i64 ((t / 6:Nat):Int),u,.int .i64 ((t % 6:Nat):Int)]
 |r=>r
def Anj(args:List Value):Option (Nat×List Value):=
 match args with
 |[x,.int .i64 (.ofNat i),y,.int .i64 (.ofNat j)]=>(match Nat.ble (Nat.succ i) 6&&Nat.ble (Nat.succ j) 6 with
  |true=>some (i*6+j,[x,y])
  |false=>none)
 |_=>none
def pdF(base:Nat):Fam:=⟨base,36,146,94,[rI 78,rI 78],VS,Anj⟩
theorem Ank(t:Nat)(ht:t<36)(b:Bool)(rest:List Value)(h:Aj (G2 []) [rI 78,rI 78] rest):CallsOk Zm 94 b (VS t rest) (.int .i64 (GI t b rest).1) (GI t b rest).2:=by
 obtain⟨v,u,rfl,hv,hu⟩:=VR h
 refine⟨fun z hz=>?_,rfl,fun k w _ _ hw=>?_⟩
 ·have hz:z=v∨z=.int .i64 ((t / 6:Nat):Int)∨z=u∨z=.int .i64 ((t % 6:Nat):Int):=by simpa [VS]using hz
  rcases hz with rfl |rfl |rfl |rfl
  ·exact OE hv
  ·rfl
  ·exact OE hu
  ·rfl
 ·have e:=GH hv
  have e2:=GH hu
  have e3:GI t b [v,u]=AM b (Dk v) (t / 6) (Dk u) (t % 6):=rfl
  have e4:VS t [v,u]=[v,.int .i64 ((t / 6:Nat):Int),u,.int .i64 ((t % 6:Nat):Int)]:=rfl
  have hi:t / 6<6:=by omega
  have hj:t % 6<6:=by omega
  rw[e3,e4]
  generalize t / 6=i at *
  generalize t % 6=j at *
  have:=PW k b (Dk v) i (Dk u) j w hw hi hj
  rw[<-e,<-e2]at this
  exact this
theorem AA4(t:Nat)(rest:List Value):(GI t true rest).2=true:=by
 unfold GI
 split
 ·exact Q3 _ _ _ _
 ·rfl
def AEk(t:Nat)(ht:t<36):Pr Zm:=⟨fun _=>94,fun _=>C9 (by decide+kernel),[rI 78,rI 78],uI,9,by decide+kernel,VS t,fun h=>absurd rfl h,⟨fun _ b rest=>(.int .i64 (GI t b rest).1,(GI t b rest).2),fun _ b rest h=>⟨⟨fun _=>Ank t ht b rest h,fun e=>(by omega)⟩,fun e=>by
    rw[e]
    exact AA4 t rest,⟨_,rfl⟩,fun e=>(by omega),fun e=>(by omega),fun e=>(by omega),fun e=>(by omega)⟩,fun _ _=>⟨rfl,fun _=>rfl⟩,⟨fun h=>by omega,fun h=>by omega,fun h=>by omega,fun h=>by omega⟩,⟨fun h=>by omega,fun h=>by omega,fun h=>by omega⟩⟩⟩
def Ky:List (Pr Zm):=List.ofFn (n:=6) (fun t=>AEj t.1 t.2)++List.ofFn (n:=36) (fun t=>AEk t.1 t.2)
def S7:List Nat:=Zr 42 9
theorem Av4:S7=Ky.map (·.kind):=by decide+kernel
theorem Av5(l:List (Pr Zm)){t:Nat}(ht:t<6):(l++Ky)[l.length+t]? =some (AEj t ht):=by
 rw[Zq (by omega),Nat.add_sub_cancel_left]
 unfold Ky
 rw[Zt (by rw[Zy];exact ht),List.getElem?_ofFn,dif_pos ht]
theorem Av6(l:List (Pr Zm)){t:Nat}(ht:t<36):(l++Ky)[l.length+6+t]? =some (AEk t ht):=by
 rw[Zq (by omega),show l.length+6+t-l.length=6+t by omega]
 unfold Ky
 rw[Zq (by rw[Zy];omega),Zy,Nat.add_sub_cancel_left,List.getElem?_ofFn,dif_pos ht]
theorem S8(l:List (Pr Zm)):GY Zm (l++Ky) (mnF l.length) LJ where
 cgo:=C9 (f:=144) (by decide+kernel)
 dgo:=C9 (f:=92) (by decide+kernel)
 hi:=show Zm.inits.idxOf? 92=none from by decide+kernel
 nn:=show [rI 78].all TU=true from by decide+kernel
 pr:=fun t ht=>⟨AEj t ht,Av5 l ht,fun _=>rfl,rfl,rfl,rfl⟩
 inv:=fun{targs t cargs} h=>by
  have h:Anh targs=some (t,cargs):=h
  unfold Anh at h
  split at h
  ·rename_i x k
   split at h
   ·rename_i hk
    cases h
    refine⟨Zw hk,fun{τ vargs} g=>?_⟩
    match vargs,g with
    |[v,u],g=>
    have e:=g.2.1.int
    subst e
    exact⟨[v],rfl,g.1,trivial⟩
   ·cases h
  ·cases h
 st:=fun t rest=>by
  unfold LJ
  split
  ·exact IF _ _
  ·rfl
 doc:=fun t ht b rest h=>Ani t ht b rest h
 code:=fun b rest h=>by
  obtain⟨v,rfl,hv⟩:=Ii h
  refine⟨(List.range 6).map (E6 b (Dk v)).1,(E6 b (Dk v)).2,⟨fun u hu=>?_,rfl,fun k w _ _ hw=>?_⟩,by rw[Zx,List.length_range];rfl,Afi (Dk v) b,fun hg t ht=>?_⟩
  ·have hu:u=v:=by simpa using hu
   rw[hu]
   exact OE hv
  ·rw[<-VP]
   have:=Afe k b (Dk v) w hw
   rw[<-GH hv]at this
   exact this
  ·have ht:t<6:=ht
   rw[Zv,List.getElem?_range ht,Option.map_some,Ang hg ht]
   rfl
theorem S9(l:List (Pr Zm)):GY Zm (l++Ky) (pdF (l.length+6)) GI where
 cgo:=C9 (f:=146) (by decide+kernel)
 dgo:=C9 (f:=94) (by decide+kernel)
 hi:=show Zm.inits.idxOf? 94=none from by decide+kernel
 nn:=show [rI 78,rI 78].all TU=true from by decide+kernel
 pr:=fun t ht=>⟨AEk t ht,Av6 l ht,fun _=>rfl,rfl,rfl,rfl⟩
 inv:=fun{targs t cargs} h=>by
  have h:Anj targs=some (t,cargs):=h
  unfold Anj at h
  split at h
  ·rename_i x i y j _
   split at h
   ·rename_i hk
    cases h
    rw[Zp]at hk
    have hi:=Zw hk.1
    have hj:=Zw hk.2
    refine⟨show i*6+j<36 by omega,fun{τ vargs} g=>?_⟩
    match vargs,g with
    |[v,u,v2,u2],g=>
    have e:=g.2.1.int
    have e2:=g.2.2.2.1.int
    subst e e2
    refine⟨[v,v2],?_,g.1,g.2.2.1,trivial⟩
    show _=[v,.int .i64 (((i*6+j) / 6:Nat):Int),v2,.int .i64 (((i*6+j) % 6:Nat):Int)]
    rw[show(i*6+j) / 6=i by omega,show(i*6+j) % 6=j by omega]
    rfl
   ·cases h
  ·cases h
 st:=AA4
 doc:=fun t ht b rest h=>Ank t ht b rest h
 code:=fun b rest h=>by
  obtain⟨v,u,rfl,hv,hu⟩:=VR h
  refine⟨(List.range 36).map (BM b (Dk v) (Dk u)).1,(BM b (Dk v) (Dk u)).2,⟨fun z hz=>?_,rfl,fun k w _ _ hw=>?_⟩,by rw[Zx,List.length_range];rfl,(Afh (Dk v) (Dk u) b).trans (and_congr_right fun _=>⟨fun h t ht=>h (t / 6) (by have:t<36:=ht;omega) (t % 6) (by omega),fun h i hi j hj=>?_⟩),fun hg t ht=>?_⟩
  ·have hz:z=v∨z=u:=by simpa using hz
   rcases hz with rfl |rfl
   ·exact OE hv
   ·exact OE hu
  ·rw[<-VP]
   have:=PV k b (Dk v) (Dk u) w hw
   rw[<-GH hv,<-GH hu]at this
   exact this
  ·have:=h (i*6+j) (show i*6+j<36 by omega)
   have e:GI (i*6+j) false [v,u]=AM false (Dk v) ((i*6+j) / 6) (Dk u) ((i*6+j) % 6):=rfl
   rw[e,show(i*6+j) / 6=i by omega,show(i*6+j) % 6=j by omega]at this
   exact this
  ·have ht:t<36:=ht
   have:=Anf hg (i:=t / 6) (j:=t % 6) (by omega) (by omega)
   rw[show t / 6*6+t % 6=t by omega]at this
   rw[Zv,List.getElem?_range ht,Option.map_some,this]
   rfl
theorem AA5(l m:List (Pr Zm)):∀j pr,l[j]? =some pr->(l++m)[0+j]? =some pr:=fun j pr h=>by
 rw[Zz,Zt (Zu.1 h).1]
 exact h
def tOf(n:Nat)(l:List (Pr Zm)):RoT:=fun d=>Avw (mnF n)::Avx (mnF n)::Avw (pdF (n+6))::Avx (pdF (n+6))::IB (flN d)::Auk d 0 l
def tCf(n:Nat)(l:List (Pr Zm))(ks:List Nat):RcT:=fun d=>Avy (mnF n)::Avz (mnF n)::Avy (pdF (n+6))::Avz (pdF (n+6))::IB (flN !d)::Aul ks d 0 l
theorem Anl{n:Nat}{l:List (Pr Zm)}(hn:l.length=n)(d:Bool):TOk Zm (TV (l++Ky) d) (tOf n l d):=fun a ha=>by
 subst hn
 rcases Zo.1 ha with rfl |ha
 ·exact Aa4 d (S8 l)
 rcases Zo.1 ha with rfl |ha
 ·exact Aa5 d (S8 l)
 rcases Zo.1 ha with rfl |ha
 ·exact Aa4 d (S9 l)
 rcases Zo.1 ha with rfl |ha
 ·exact Aa5 d (S9 l)
 rcases Zo.1 ha with rfl |ha
 ·exact Gw (Aak d) (fun _ _ _ h=>⟨h.1,fun e=>(by cases e),h.2.2⟩) (Aal d)
 ·exact SD 0 l (AA5 l Ky) a ha
theorem Ye{l:List (Pr Zm)}{kl:List Nat}(hk:kl=l.map (·.kind)):kl++S7=(l++Ky).map (·.kind):=by rw[List.map_append,<-hk,<-Av4]
theorem Anm{n:Nat}{l:List (Pr Zm)}{kl:List Nat}(hn:l.length=n)(hk:kl=l.map (·.kind))(d:Bool):TOk Zm (IC (l++Ky) d) (tCf n l (kl++S7) d):=fun a ha=>by
 have hks:=Ye hk
 subst hn
 rcases Zo.1 ha with rfl |ha
 ·exact Aa6 d (S8 l)
 rcases Zo.1 ha with rfl |ha
 ·exact Aa7 d (S8 l)
 rcases Zo.1 ha with rfl |ha
 ·exact Aa6 d (S9 l)
 rcases Zo.1 ha with rfl |ha
 ·exact Aa7 d (S9 l)
 rcases Zo.1 ha with rfl |ha
 ·exact Gw (Aak !d) (fun _ _ _ h=>h) (Aal !d)
 ·exact SE hks 0 l (AA5 l Ky) a ha
abbrev Ea:List (Pr Zm):=[Jj,Jk,Hc,Vi,Alk]
abbrev Gg:List Nat:=[1,6,2,3,3]
abbrev Kz:List Ent:=[(241,true,8,[(.int .i64 6)],(.bool true)),(242,true,8,[],uI),(243,true,8,[uI],uI),(244,true,8,[rI 36],rI 36)]
abbrev KA:List Ent:=[(195,true,8,[(.int .i64 6)],(.bool false))]
theorem Av7:SG Zm (tO Ea) Kz KA 156 100 (rI 36)=true:=by decide+kernel
theorem Av8:IQ Zm (tO Ea) (tC Ea Gg) Gg false Kz KA (fun _=>[]) (fun _=>[]) 8 156 100 [rI 36,(.int .i64 6)] (rI 36) 0=true:=by decide+kernel
theorem Av9:IQ Zm (tO Ea) (tC Ea Gg) Gg true KA Kz (fun _=>[]) (fun _=>[]) 8 100 156 [rI 36,(.int .i64 6)] (rI 36) 0=true:=by decide+kernel
theorem Awa:IR Zm (tO Ea) Gg false Kz (fun _=>[]) 8 156 [rI 36,(.int .i64 6)] (rI 36) 0=true:=by decide+kernel
theorem Awb:IR Zm (tO Ea) Gg true KA (fun _=>[]) 8 100 [rI 36,(.int .i64 6)] (rI 36) 0=true:=by decide+kernel
theorem Ann:∃g,BY Zm (fun d=>bif d then 100 else 156) [rI 36,(.int .i64 6)] (rI 36) 0 g:=AP xmixA (B6 _) (B7 rfl) rfl (Lz rfl Av7 Av8 Av9 Awa Awb)
def Ano:Pr Zm:=Oe 156 100 (by decide+kernel) (by decide+kernel) Ann
theorem Yf:∃g,BY Zm (fun d=>bif d then 28 else 52) [rI 43] (uI) 0 g:=AP xmixA (B6 [Jj]) (B7 (ks:=[1]) rfl) rfl (xa:=[]) (xb:=[]) (da:=fun _=>[]) (db:=fun _=>[]) (n:=8) (kk:=0) (by decide+kernel)
abbrev CL:List (Pr Zm):=[Ano,Alk,Hc]
abbrev Eb:List Nat:=[0,3,2]
abbrev GJ:List Ent:=[]
abbrev GK:List Ent:=[]
theorem Afk:SG Zm (tO CL) GJ GK 140 84 (rI 78)=true:=by decide+kernel
theorem Afl:IQ Zm (tO CL) (tC CL Eb) Eb false GJ GK (fun _=>[]) (fun _=>[]) 8 140 84 [rI 43] (rI 78) 0=true:=by decide+kernel
theorem Afm:IQ Zm (tO CL) (tC CL Eb) Eb true GK GJ (fun _=>[]) (fun _=>[]) 8 84 140 [rI 43] (rI 78) 0=true:=by decide+kernel
theorem Afn:IR Zm (tO CL) Eb false GJ (fun _=>[]) 8 140 [rI 43] (rI 78) 0=true:=by decide+kernel
theorem Afo:IR Zm (tO CL) Eb true GK (fun _=>[]) 8 84 [rI 43] (rI 78) 0=true:=by decide+kernel
theorem Yg:∃g,BY Zm (fun d=>bif d then 84 else 140) [rI 43] (rI 78) 0 g:=AP xmixA (B6 _) (B7 rfl) rfl (Lz rfl Afk Afl Afm Afn Afo)
def VU:Pr Zm:=Oe 140 84 (by decide+kernel) (by decide+kernel) Yg
abbrev Dm:List (Pr Zm):=[Jj,Jk,Hc,Vi]
abbrev EP:List Nat:=[1,6,2,3]
abbrev IG:List Ent:=[(241,true,8,[(.int .i64 6)],(.bool true)),(242,true,8,[],uI),(247,true,8,[rI 36,rI 6,(.int .i64 6)],rI 6),(246,true,8,[rI 6],rI 6)]
abbrev IH:List Ent:=[(195,true,8,[(.int .i64 6)],(.bool false))]
theorem Anp:SG Zm (tO Dm) IG IH 158 101 (rI 6)=true:=by decide+kernel
theorem Anq:IQ Zm (tO Dm) (tC Dm EP) EP false IG IH (fun _=>[]) (fun _=>[]) 8 158 101 [rI 36,rI 6,(.int .i64 6)] (rI 6) 0=true:=by decide+kernel
theorem Anr:IQ Zm (tO Dm) (tC Dm EP) EP true IH IG (fun _=>[]) (fun _=>[]) 8 101 158 [rI 36,rI 6,(.int .i64 6)] (rI 6) 0=true:=by decide+kernel
theorem Ans:IR Zm (tO Dm) EP false IG (fun _=>[]) 8 158 [rI 36,rI 6,(.int .i64 6)] (rI 6) 0=true:=by decide+kernel
theorem Ant:IR Zm (tO Dm) EP true IH (fun _=>[]) 8 101 [rI 36,rI 6,(.int .i64 6)] (rI 6) 0=true:=by decide+kernel
theorem Afp:∃g,BY Zm (fun d=>bif d then 101 else 158) [rI 36,rI 6,(.int .i64 6)] (rI 6) 0 g:=AP xmixA (B6 _) (B7 rfl) rfl (Lz rfl Anp Anq Anr Ans Ant)
def Awc:Pr Zm:=Oe 158 101 (by decide+kernel) (by decide+kernel) Afp
abbrev BK:List (Pr Zm):=[VU,Ya,Aaz,QX,AA2,AEg,SY,Od,Jj,Jk,Hc,Ano,Awc]
abbrev Gh:List Nat:=[0,7,0,0,0,0,4,3,1,6,2,0,0]++S7
abbrev KB:List Ent:=[(229,false,16,[rI 6],.tuple ⟨[rI 3,rI 3]⟩),(155,false,16,[rI 6],rI 6),(237,false,16,[],uI),(154,true,16,[rI 6,rI 6],rI 6),(145,true,16,[rI 78,rI 6],rI 78),(150,true,16,[rI 36,uI,uI],rI 36),(153,true,16,[rI 6],rI 6),(228,true,16,[rI 43,rI 78],rI 52),(152,true,16,[rI 43,rI 78,rI 6],rI 78),(241,true,16,[(.int .i64 6)],(.bool true)),(245,true,16,[rI 6,rI 6,(.int .i64 6)],uI),(246,true,16,[rI 6],rI 6),(157,true,16,[rI 36,rI 6,(.int .i64 6)],rI 6),(248,true,16,[rI 36],rI 36),(148,true,16,[rI 4,rI 6],rI 4),(149,true,16,[rI 3,rI 6],rI 3),(159,true,16,[rI 43,rI 36,rI 36,rI 6],rI 43)]
abbrev KC:List Ent:=[(95,false,16,[rI 6],rI 3),(85,false,16,[rI 6],rI 3),(88,true,16,[rI 43,rI 6],rI 4),(93,true,16,[rI 78,rI 6],rI 78),(98,false,16,[rI 3,rI 3],rI 6),(195,true,16,[(.int .i64 6)],(.bool false)),(102,true,16,[rI 36,rI 6,(.int .i64 6)],rI 6)]
theorem Awd:SG Zm (tOf 13 BK) KB KC 50 27 (.tuple ⟨[rI 43,uI,unkB]⟩)=true:=by decide+kernel
theorem Awe:IQ Zm (tOf 13 BK) (tCf 13 BK Gh) Gh false KB KC (fun _=>[]) (fun _=>[]) 16 50 27 [rI 43,rI 6,rI 6] (.tuple ⟨[rI 43,uI,unkB]⟩) 0=true:=by decide+kernel
theorem Awf:IQ Zm (tOf 13 BK) (tCf 13 BK Gh) Gh true KC KB (fun _=>[]) (fun _=>[]) 16 27 50 [rI 43,rI 6,rI 6] (.tuple ⟨[rI 43,uI,unkB]⟩) 0=true:=by decide+kernel
theorem Awg:IR Zm (tOf 13 BK) Gh false KB (fun _=>[]) 16 50 [rI 43,rI 6,rI 6] (.tuple ⟨[rI 43,uI,unkB]⟩) 0=true:=by decide+kernel
theorem Awh:IR Zm (tOf 13 BK) Gh true KC (fun _=>[]) 16 27 [rI 43,rI 6,rI 6] (.tuple ⟨[rI 43,uI,unkB]⟩) 0=true:=by decide+kernel
theorem Anu:∃g,BY Zm (fun d=>bif d then 27 else 50) [rI 43,rI 6,rI 6] (.tuple ⟨[rI 43,uI,unkB]⟩) 0 g:=AP xmixA (prs:=BK++Ky) (ks:=[0,7,0,0,0,0,4,3,1,6,2,0,0]++S7) (ro:=tOf 13 BK) (rc:=tCf 13 BK ([0,7,0,0,0,0,4,3,1,6,2,0,0]++S7)) (Anl (l:=BK) rfl) (Anm (l:=BK) (kl:=[0,7,0,0,0,0,4,3,1,6,2,0,0]) rfl rfl) (Ye (l:=BK) (kl:=[0,7,0,0,0,0,4,3,1,6,2,0,0]) rfl) (Lz rfl Awd Awe Awf Awg Awh)
abbrev BL:List (Pr Zm):=[VU,Am3,QX,AA2,Od,SY,Avv,Aaz,Jj,Jk]
abbrev Gi:List Nat:=[0,0,0,0,3,4,0,0,1,6]++S7
abbrev KD:List Ent:=[(229,false,16,[rI 6],.tuple ⟨[rI 3,rI 3]⟩),(155,false,16,[rI 6],rI 6),(237,false,16,[],uI),(154,true,16,[rI 6,rI 6],rI 6),(145,true,16,[rI 78,rI 6],rI 78),(150,true,16,[rI 36,uI,uI],rI 36),(228,true,16,[rI 43,rI 78],rI 52),(141,true,16,[rI 43,rI 78,rI 3,uI],rI 52),(273,false,16,[uI],uI),(235,false,16,[rI 4],rI 4),(143,true,16,[rI 4,rI 52,rI 78],rI 78),(148,true,16,[rI 4,rI 6],rI 4),(149,true,16,[rI 3,rI 6],rI 3),(147,true,16,[rI 43],rI 43)]
abbrev KE:List Ent:=[(95,false,16,[rI 6],rI 3),(85,false,16,[rI 6],rI 3),(88,true,16,[rI 43,rI 6],rI 4),(93,true,16,[rI 78,rI 6],rI 78),(91,false,16,[rI 4],rI 4)]
theorem Awi:SG Zm (tOf 10 BL) KD KE 49 26 (rI 43)=true:=by decide+kernel
theorem Awj:IQ Zm (tOf 10 BL) (tCf 10 BL Gi) Gi false KD KE (fun _=>[]) (fun _=>[]) 16 49 26 [rI 43,rI 3,uI] (rI 43) 0=true:=by decide+kernel
theorem Awk:IQ Zm (tOf 10 BL) (tCf 10 BL Gi) Gi true KE KD (fun _=>[]) (fun _=>[]) 16 26 49 [rI 43,rI 3,uI] (rI 43) 0=true:=by decide+kernel
theorem Awl:IR Zm (tOf 10 BL) Gi false KD (fun _=>[]) 16 49 [rI 43,rI 3,uI] (rI 43) 0=true:=by decide+kernel
theorem Awm:IR Zm (tOf 10 BL) Gi true KE (fun _=>[]) 16 26 [rI 43,rI 3,uI] (rI 43) 0=true:=by decide+kernel
theorem Anv:∃g,BY Zm (fun d=>bif d then 26 else 49) [rI 43,rI 3,uI] (rI 43) 0 g:=AP xmixA (prs:=BL++Ky) (ks:=[0,0,0,0,3,4,0,0,1,6]++S7) (ro:=tOf 10 BL) (rc:=tCf 10 BL ([0,0,0,0,3,4,0,0,1,6]++S7)) (Anl (l:=BL) rfl) (Anm (l:=BL) (kl:=[0,0,0,0,3,4,0,0,1,6]) rfl rfl) (Ye (l:=BL) (kl:=[0,0,0,0,3,4,0,0,1,6]) rfl) (Lz rfl Awi Awj Awk Awl Awm)
theorem Awn:∃g,BY Zm (fun d=>bif d then 73 else 129) [uI] (uI) 0 g:=AP xmixA (B6 [Alj,Hc,Jk,Od]) (B7 (ks:=[3,2,6,3]) rfl) rfl (xa:=[(217,true,12,[uI],.tuple ⟨[uI,uI]⟩),(219,true,12,[uI],uI),(218,true,12,[uI],uI)]) (xb:=[(185,true,12,[uI],uI),(186,true,12,[uI],uI)]) (da:=fun _=>[]) (db:=fun _=>[]) (n:=12) (kk:=0) (by decide+kernel)
def Abd:Pr Zm:=Oe 129 73 (by decide+kernel) (by decide+kernel) Awn
theorem Awo:∃g,BY Zm (fun d=>bif d then 74 else 128) [uI] (uI) 0 g:=AP xmixA (B6 [Alj,Hc,Jk,Od]) (B7 (ks:=[3,2,6,3]) rfl) rfl (xa:=[(217,true,12,[uI],.tuple ⟨[uI,uI]⟩),(219,true,12,[uI],uI),(218,true,12,[uI],uI)]) (xb:=[(185,true,12,[uI],uI),(186,true,12,[uI],uI)]) (da:=fun _=>[]) (db:=fun _=>[]) (n:=12) (kk:=0) (by decide+kernel)
def Abe:Pr Zm:=Oe 128 74 (by decide+kernel) (by decide+kernel) Awo
theorem Anw:∃g,BY Zm (fun d=>bif d then 69 else 123) [uI] (uI) 0 g:=AP xmixA (B6 [Od]) (B7 (ks:=[3]) rfl) rfl (xa:=[(9,false,8,[uI],unkB)]) (xb:=[(17,false,8,[uI],unkB)]) (da:=fun _=>[]) (db:=fun _=>[]) (n:=8) (kk:=0) (by decide+kernel)
def Anx:Pr Zm:=Oe 123 69 (by decide+kernel) (by decide+kernel) Anw
theorem Anz:∃g,BY Zm (fun d=>bif d then 77 else 132) [uI] (uI) 0 g:=AP xmixA (B6 [Od,Hc,Alj,Jj]) (B7 (ks:=[3,2,3,1]) rfl) rfl (xa:=[(9,false,8,[uI],unkB),(123,true,8,[uI],uI)]) (xb:=[(17,false,8,[uI],unkB),(69,true,8,[uI],uI)]) (da:=fun _=>[]) (db:=fun _=>[]) (n:=8) (kk:=0) (by decide+kernel)
def AEm:Pr Zm:=Oe 132 77 (by decide+kernel) (by decide+kernel) Anz
end Nx
section
open Go.RowKit
def Ta:List Value->Option (List Int)
 |[]=>some []
 | .int .i64 x::r=>(match Ta r with
  |some l=>some (x::l)
  |none=>none)
 |_=>none
theorem OF:∀(vs:List Value) (l:List Int),Ta vs=some l->vs=l.map fun x=>.int .i64 x
 |[],l,h=>by cases h;rfl
 | v::r,l,h=>by
  unfold Ta at h
  split at h
  ·rename_i heq
   cases heq
  ·rename_i x r' heq
   cases heq
   split at h
   ·rename_i l' hl
    cases h
    rw[OF r l' hl]
    rfl
   ·cases h
  ·cases h
def AKd(N:Nat):Dc (Nat->Int) where
 enc g:=.agg (row N g).toArray
 dec v:=match v with
  | .agg cs=>(match Ta cs.toList with
   |some l=>(match Nat.beq l.length N with
    |true=>some (fun i=>l.getD i 0)
    |false=>none)
   |none=>none)
  |_=>none
 law v x h:=by
  split at h
  ·rename_i cs
   split at h
   ·rename_i l hl
    split at h
    ·rename_i hb
     cases h
     have hN:l.length=N:=Nat.eq_of_beq_eq_true hb
     have h1:=OF _ _ hl
     have h2:cs.toList=row N (fun i=>l.getD i 0):=by
      rw[h1]
      refine List.ext_getElem (by rw[Bi,Zx,hN]) (fun i h1 h2=>?_)
      rw[Iz,List.getElem_map,List.getD_eq_getElem?_getD,List.getElem?_eq_getElem (by simpa using h1)]
      rfl
     rw[<-h2]
    ·cases h
   ·cases h
  ·cases h
 np _:=rfl
end
namespace Nx
open Go.RowKit Go.Proofs.YtoadcnhcfodkgaaGreatDoor
def ctM(d:Bool):Ct Zm:=match d with
 |false=>Ak Zm 127 (Ac cI (Aa cI)) (fun bad x=>mulS bad x.1 x.2) cI (Ae Tryz.func127 (by kernel_rfl) (by kernel_rfl)) (fun b bad x w _ _ hw=>Aw b bad x.1 x.2 w hw)
 |true=>Ak Zm 72 (Ac cI (Aa cI)) (fun bad x=>mulS bad x.1 x.2) cI (Ae Tryz.func72 (by kernel_rfl) (by kernel_rfl)) (fun b bad x w _ _ hw=>Kk b bad x.1 x.2 w hw)
def tickW(t:Int):Bool:=if 0<=t then decide (t<=157766400000)else false
def LK(a:Int):Bool:=if-6908435304716<=a then decide (a<=6908435304716)else false
def farW(a e:Int):Bool:=
 if (mulS (mulS false a (IntKind.i64.wrap (1099511627776-e))).2 a (IntKind.i64.wrap (1099511627776+e))).2 then false
 else if (mulS false a (IntKind.i64.wrap (1099511627776-e))).1≥7232738120604 then decide ((mulS (mulS false a (IntKind.i64.wrap (1099511627776-e))).2 a (IntKind.i64.wrap (1099511627776+e))).1<=9211859050600)else false
theorem Afq:Ah Zm 9 (Aa cI) tickW cB:=Av (tbl:=[]) (dirty:=fun _=>[]) (n:=4) xmixA Tryz.func9 rfl (fun x Post=>by
    refine Eq.trans (b:=?m) ?x (Eq.symm ?y)
    case y=>unfold tickW;simp only[<-AX (K:=PJ cB Post)];exact rfl
    case x=>kernel_rfl)
theorem Awp:Ah Zm 207 (Aa cI) LK cB:=Av (tbl:=[]) (dirty:=fun _=>[]) (n:=4) xmixA Tryz.func207 rfl (fun x Post=>by
    refine Eq.trans (b:=?m) ?x (Eq.symm ?y)
    case y=>unfold LK;simp only[<-AX (K:=PJ cB Post)];exact rfl
    case x=>kernel_rfl)
theorem Awq:Ah Zm 206 (Ac cI (Aa cI)) (fun x=>farW x.1 x.2) cB:=Av (tbl:=[ctM false]) (dirty:=fun _=>[]) (n:=4) xmixA Tryz.func206 rfl (fun x Post=>by
    refine Eq.trans (b:=?m) ?x (Eq.symm ?y)
    case y=>unfold farW;simp only[<-Ld (K:=PJ cB Post),<-AX (K:=PJ cB Post)];exact rfl
    case x=>kernel_rfl)
def ctP{A:Type}{d:Dl A}{R:Type}{c:Dc R}{g:A->R}(f:Nat)(hg:there Zm f=true)(h:Ah Zm f d g c):Ct Zm:=Aq Zm f d g c (C9 hg) h
def OG(g:Nat->Int):Bool:=if 0<=g 1 then(if g 1<=109951162777 then(if farW (g 0) (g 1)then(if 0<=g 2 then(if g 2<=3454217652358 then(if LK (g 3)then(if LK (g 4)then(if LK (g 5)then tickW (g 6)else false)else false)else false)else false)else false)else false)else false)else false
theorem Afr:Ah Zm 120 (Aa (AKd 7)) OG cB:=Av (tbl:=[ctP 206 (by decide+kernel) Awq,ctP 207 (by decide+kernel) Awp,ctP 9 (by decide+kernel) Afq]) (dirty:=fun _=>[]) (n:=4) xmixA Tryz.func120 rfl (fun x Post=>by
    refine Eq.trans (b:=?m) ?x (Eq.symm ?y)
    case y=>unfold OG;simp only[<-Bg (K:=PJ cB Post),<-AX (K:=PJ cB Post)];exact rfl
    case x=>kernel_rfl)
theorem dTick_ok:Ah Zm 17 (Aa cI) tickW cB:=Av (tbl:=[]) (dirty:=fun _=>[]) (n:=4) xmixA Tryz.func17 rfl (fun x Post=>by
    refine Eq.trans (b:=?m) ?x (Eq.symm ?y)
    case y=>unfold tickW;simp only[<-AX (K:=PJ cB Post)];exact rfl
    case x=>kernel_rfl)
theorem Awr:Ah Zm 181 (Aa cI) LK cB:=Av (tbl:=[]) (dirty:=fun _=>[]) (n:=4) xmixA Tryz.func181 rfl (fun x Post=>by
    refine Eq.trans (b:=?m) ?x (Eq.symm ?y)
    case y=>unfold LK;simp only[<-AX (K:=PJ cB Post)];exact rfl
    case x=>kernel_rfl)
def dRightW(g:Nat->Int):Bool:=if g 1<0 then false else(if g 1>109951162777 then false else(if g 2<0 then false else(if g 2>3454217652358 then false else(if LK (g 3)then(if LK (g 4)then(if LK (g 5)then(if tickW (g 6)then farW (g 0) (g 1)else false)else false)else false)else false))))
theorem dRight_ok:Ah Zm 67 (Aa (AKd 7)) dRightW cB:=Av (tbl:=[ctM true,ctP 181 (by decide+kernel) Awr,ctP 17 (by decide+kernel) dTick_ok]) (dirty:=fun _=>[]) (n:=4) xmixA Tryz.func67 rfl (fun x Post=>by
    refine Eq.trans (b:=?m) ?x (Eq.symm ?y)
    case y=>unfold dRightW farW;simp only[<-Ld (K:=PJ cB Post),<-AX (K:=PJ cB Post),<-Hj (K:=PJ cB Post)];exact rfl
    case x=>kernel_rfl)
theorem An0(g:Nat->Int):dRightW g=OG g:=by
 unfold dRightW OG
 by_cases a1:0<=g 1
 ·by_cases a2:g 1<=109951162777
  ·by_cases a3:0<=g 2
   ·by_cases a4:g 2<=3454217652358
    ·rw[if_neg (show ¬g 1<0 by omega),if_neg (show ¬g 1>109951162777 by omega),if_neg (show ¬g 2<0 by omega),if_neg (show ¬g 2>3454217652358 by omega),if_pos a1,if_pos a2,if_pos a3,if_pos a4]
     cases farW (g 0) (g 1)<;>cases LK (g 3)<;>cases LK (g 4)<;>cases LK (g 5)<;>cases tickW (g 6)<;>rfl
    ·rw[if_neg (show ¬g 1<0 by omega),if_neg (show ¬g 1>109951162777 by omega),if_neg (show ¬g 2<0 by omega),if_pos (show g 2>3454217652358 by omega),if_pos a1,if_pos a2,if_pos a3,if_neg a4]
     cases farW (g 0) (g 1)<;>rfl
   ·rw[if_neg (show ¬g 1<0 by omega),if_neg (show ¬g 1>109951162777 by omega),if_pos (show g 2<0 by omega),if_pos a1,if_pos a2,if_neg a3]
    cases farW (g 0) (g 1)<;>rfl
  ·rw[if_neg (show ¬g 1<0 by omega),if_pos (show g 1>109951162777 by omega),if_pos a1,if_neg a2]
 ·rw[if_pos (show g 1<0 by omega),if_neg a1]
theorem Afs:∃g,BY Zm (fun d=>bif d then 67 else 120) [rI 7] unkB 8 g:=Atw (S:=fun rest=>match rest with
    |[v]=>.bool (OG (Dk v))
    |_=>undef) (fun d rest h=>by
    obtain⟨v,rfl,hv⟩:=Ii h
    have e:=GH hv
    refine⟨fun u hu=>by rw[List.mem_singleton.1 hu];exact OE hv,rfl,fun w hw=>?_⟩
    cases d with
    | false=>
      have:=Afr (Dk v) w hw
      have k:Calls Zm 120 #[.agg (row 7 (Dk v)).toArray] w _:=this
      rw[<-e]at k
      exact k
    | true=>
      have:=dRight_ok (Dk v) w hw
      have k:Calls Zm 67 #[.agg (row 7 (Dk v)).toArray] w _:=this
      rw[<-e]at k
      refine Calls.mono k ?_
      rintro _ w' ⟨rfl,hb⟩
      exact⟨by rw[An0];rfl,hb⟩) (fun rest h=>by
    obtain⟨v,rfl,hv⟩:=Ii h
    exact⟨_,rfl⟩)
def Aws:Pr Zm:=Oe 120 67 (by decide+kernel) (by decide+kernel) Afs
theorem Yh:∃g,BY Zm (fun d=>bif d then 76 else 126) [uI,uI] (uI) 0 g:=AP xmixA (B6 [Jj,Jk,Hc,Vi,Abd,Abe]) (B7 (ks:=[1,6,2,3,0,0]) rfl) rfl (xa:=[]) (xb:=[]) (da:=fun _=>[]) (db:=fun _=>[]) (n:=8) (kk:=0) (by decide+kernel)
def An1:Pr Zm:=Oe 126 76 (by decide+kernel) (by decide+kernel) Yh
theorem Aft:∃g,BY Zm (fun d=>bif d then 20 else 42) [rI 7,uI] (rI 3) 0 g:=AP xmixA (B6 [Aws,Anx,Vi,Alk,Jk,Hc,Jj,Od,Alj,Abd,Abe,An1]) (B7 (ks:=[8,0,3,3,6,2,1,3,3,0,0,0]) rfl) rfl (xa:=[(9,false,8,[uI],unkB),(124,true,8,[rI 7],rI 3),(125,true,8,[rI 7,rI 3,uI],rI 3),(130,true,8,[uI,uI,uI],.tuple ⟨[uI,uI]⟩)]) (xb:=[(17,false,8,[uI],unkB)]) (da:=fun _=>[]) (db:=fun _=>[]) (n:=8) (kk:=0) (by decide+kernel)
theorem Awt:∃g,BY Zm (fun d=>bif d then 21 else 43) [uI] (rI 3) 0 g:=AP xmixA (B6 [Anx,Alj,Jj,Hc,Jk,Abd,Abe]) (B7 (ks:=[0,3,1,2,6,0,0]) rfl) rfl (xa:=[(131,true,8,[uI],uI)]) (xb:=[]) (da:=fun _=>[]) (db:=fun _=>[]) (n:=8) (kk:=0) (by decide+kernel)
theorem Yi:∃g,BY Zm (fun d=>bif d then 25 else 48) [rI 3,rI 3] (unkB) 5 g:=AP xmixA (B6 [Aa0,X0,Am3,SV]) (B7 (ks:=[0,0,0,0]) rfl) rfl (xa:=[]) (xb:=[]) (da:=fun _=>[]) (db:=fun _=>[]) (n:=8) (kk:=5) (by decide+kernel)
theorem An2:∀(n:Nat) (x:Tup n),Aj (G0 []) (Zr n uI) (tEnc n x)
 |0,_=>trivial
 |n+1,x=>⟨⟨x.1,rfl⟩,An2 n x.2⟩
theorem Yj:∀(n:Nat) (l:List Value),Aj (G0 []) (Zr n uI) l->∃x:Tup n,tEnc n x=l
 |0,[],_=>⟨(),rfl⟩
 |n+1,v::l,⟨⟨x,e⟩,h⟩=>by
  obtain⟨y,rfl⟩:=Yj n l h
  rw[e]
  exact⟨(x,y),rfl⟩
theorem Ij(n:Nat)(x:Tup n):G2 [] (rI n) ((cT n).enc x):=⟨tEnc n x,rfl,An2 n x⟩
theorem Afu(n:Nat)(v:Value)(h:G2 [] (rI n) v):∃y,(cT n).enc y=v:=by
 obtain⟨l,rfl,gl⟩:=h
 obtain⟨x,rfl⟩:=Yj n l gl
 exact⟨x,rfl⟩
theorem AKf(n:Nat)(v:Value)(h:G1 [] (rI n) v):∃y,(cT n).enc y=v:=by
 obtain⟨l,rfl,gl⟩:=h
 obtain⟨x,rfl⟩:=Yj n l gl
 exact⟨x,rfl⟩
theorem AKg(v:Value)(h:G2 [] uI v):∃y,cI.enc y=v:=by
 obtain⟨x,rfl⟩:=h
 exact⟨x,rfl⟩
theorem AOp(v:Value)(h:G2 [] unkB v):∃y,cB.enc y=v:=by
 obtain⟨x,rfl⟩:=h
 exact⟨x,rfl⟩
theorem AEn(v:Value)(h:G2 [] (.tuple ⟨[rI 43,uI,unkB]⟩) v):∃y,(Og (cT 43) cI cB).enc y=v:=by
 obtain⟨l,rfl,gl⟩:=h
 match l,gl with
 |[a,b,c],⟨ga,⟨x,eb⟩,⟨y,ec⟩,_⟩=>
  obtain⟨z,ez⟩:=AKf 43 a ga
  rw[eb,ec,<-ez]
  exact⟨(z,x,y),rfl⟩
theorem place_ag:∃f g,Ai Zm 42 (Ac (cT 7) (Aa cI)) f (cT 3)/\Ai Zm 20 (Ac (cT 7) (Aa cI)) g (cT 3)/\Ag f g:=
 Kv Aft (by decide) _ _ (fun x=>⟨Ij 7 x.1,⟨x.2,rfl⟩,trivial⟩) (Afu 3)
theorem dir_ag:∃f g,Ai Zm 43 (Aa cI) f (cT 3)/\Ai Zm 21 (Aa cI) g (cT 3)/\Ag f g:=
 Kv Awt (by decide) _ _ (fun x=>⟨⟨x,rfl⟩,trivial⟩) (Afu 3)
theorem norm_ag:∃f g,Ai Zm 46 (Aa (cT 3)) f cI/\Ai Zm 23 (Aa (cT 3)) g cI/\Ag f g:=
 Kv Vy (by decide) _ _ (fun x=>⟨Ij 3 x,trivial⟩) AKg
theorem shaded_ag:∃f,Ai Zm 48 (Ac (cT 3) (Aa (cT 3))) f cB/\Ai Zm 25 (Ac (cT 3) (Aa (cT 3))) f cB:=
 Avo Yi _ _ (fun x=>⟨Ij 3 x.1,Ij 3 x.2,trivial⟩) AOp
theorem move_ag:∃f g,Ai Zm 49 (Ac (cT 43) (Ac (cT 3) (Aa cI))) f (cT 43)/\Ai Zm 26 (Ac (cT 43) (Ac (cT 3) (Aa cI))) g (cT 43)/\Ag f g:=
 Kv Anv (by decide) _ _ (fun x=>⟨Ij 43 x.1,Ij 3 x.2.1,⟨x.2.2,rfl⟩,trivial⟩) (Afu 43)
theorem meet_ag:∃f g,Ai Zm 50 (Ac (cT 43) (Ac (cT 6) (Aa (cT 6)))) f (Og (cT 43) cI cB)/\Ai Zm 27 (Ac (cT 43) (Ac (cT 6) (Aa (cT 6)))) g (Og (cT 43) cI cB)/\Ag f g:=
 Kv Anu (by decide) _ _ (fun x=>⟨Ij 43 x.1,Ij 6 x.2.1,Ij 6 x.2.2,trivial⟩) AEn
theorem spread_ag:∃f g,Ai Zm 52 (Aa (cT 43)) f cI/\Ai Zm 28 (Aa (cT 43)) g cI/\Ag f g:=
 Kv Yf (by decide) _ _ (fun x=>⟨Ij 43 x,trivial⟩) AKg
theorem att_ag:∃f g,Ai Zm 167 (Ac (cT 6) (Aa (cT 6))) f (cT 4)/\Ai Zm 30 (Ac (cT 6) (Aa (cT 6))) g (cT 4)/\Ag f g:=
 Kv SZ (by decide) _ _ (fun x=>⟨Ij 6 x.1,Ij 6 x.2,trivial⟩) (Afu 4)
end Nx
end Go.Proofs.YtoadcnhcfodkgaaGreatDoor
