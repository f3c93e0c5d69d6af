import Derived.Test.YtoadcnhcfodkgaaGreatDoorU03
open Bool renaming and_eq_true→Zm,or_eq_true→Zx,not_eq_true'→Zak
open Nat renaming le_of_ble_eq_true→Zn,eq_of_beq_eq_true→Zab,le_refl→Zaf
open Classical renaming choose_spec→Zo
open List renaming getD_eq_getElem?_getD→Zp,append_assoc→Zq,getElem?_eq_getElem→Zr,getElem?_append_right→Zs,replicate→Zt,getElem?_eq_none→Zu,getElem?_append_left→Zv,mem_cons→Zy,getElem?_map→Zz,all_cons→Zaa,length_cons→Zac,getElem?_eq_some_iff→Zad,length_append→Zae,mem_of_getElem?→Zag,nil_append→Zai,mem_cons_self→Zaj,all_eq_true→Zal
open Array renaming getD_eq_getD_getElem?→Zw
open Option renaming map_some→Zah
namespace Go.Proofs.YtoadcnhcfodkgaaGreatDoor
namespace Nx
open Go.RowKit Go.Proofs.YtoadcnhcfodkgaaGreatDoor
section
variable {P:Program} {σ:Type} {I:List Int->σ->Bool->Prop} {τ:List Int} {fl:Bool} {tbl:List (Rw σ)} {hT:TOk P I tbl} {d n e:Nat} {T:Tr Value d} {nb:Nat} {M:Tr (List Value) e} {F:Fct} {s:σ} {vt:List Value} {m:Xm}
theorem Qr.next{K K2:AK d e σ}{S:(List Value->Xm->Prop)->Prop}{S2:List Value->Xm->(List Value->Xm->Prop)->Prop}(h:Qr I fl d n e τ K S)(hk:∀τ' T' nb' M' F' s' vt' m',K T' nb' M' F' s'=true->Dt I fl d n e τ' T' nb' M' F' s' vt' m'->Qr I fl d n e τ' K2 (S2 vt' m')):Qr I fl d n e τ K2 (fun K'=>S (fun vt m=>S2 vt m K')):=by
 obtain⟨vt1,m1,τ1,T1,nb1,M1,F1,s1,h1,x1,R1,k1⟩:=h
 obtain⟨vt2,m2,τ2,T2,nb2,M2,F2,s2,h2,x2,R2,k2⟩:=hk τ1 T1 nb1 M1 F1 s1 vt1 m1 h1 R1
 exact⟨vt2,m2,τ2,T2,nb2,M2,F2,s2,h2,x1.trans x2,R2,fun K' hK=>k1 _ (k2 K' hK)⟩
theorem Qr.imp{K:AK d e σ}{S S2:(List Value->Xm->Prop)->Prop}(h:Qr I fl d n e τ K S)(hi:∀K',S K'->S2 K'):Qr I fl d n e τ K S2:=by
 obtain⟨vt1,m1,τ1,T1,nb1,M1,F1,s1,h1,x1,R1,k1⟩:=h
 exact⟨vt1,m1,τ1,T1,nb1,M1,F1,s1,h1,x1,R1,fun K' hK=>hi _ (k1 K' hK)⟩
theorem Qr.here{K:AK d e σ}(h:K T nb M F s=true)(R:Dt I fl d n e τ T nb M F s vt m):Qr I fl d n e τ K (fun K'=>K' vt m):=⟨vt,m,τ,T,nb,M,F,s,h,FJ.refl _ _,R,fun _ hK=>hK⟩
theorem Aka{al:Bool}{gc:Nat->Bool}{id:Nat}{o:Oper}{K:AK d e σ}{fr:Bool}(h:StepOk P I fl tbl hT d n e fr al (fun _=>true) gc id o τ K s vt m):Qr I fl d n e τ K (fun K'=>vop P (PF P tbl hT) id o vt m K'):=by
 rcases h with⟨_,u,T',nb',M',F',hu,hK,R⟩|⟨_,hn,_,hp⟩
 ·refine(Qr.here hK R).imp fun K' hK=>?_
  unfold vop
  rw[hu]
  exact hK
 ·refine hp.imp fun K' hK=>?_
  unfold vop
  rw[hn]
  exact hK
theorem Kd{vt:List Value}{i:Nat}{v:Value}(h:vt.getD i undef=v):vt.set i v=vt:=by
 by_cases hi:i<vt.length
 ·rw[Zp,Zr hi]at h
  have h:vt[i]=v:=h
  rw[<-h]
  exact List.set_getElem_self hi
 ·exact List.set_eq_of_length_le (Nat.le_of_not_lt hi)
theorem Dt.setB(hn:n<=8^d)(R:Dt I fl d n e τ T nb M F s vt m){i:Nat}{b:Bool}(hb:vt.getD i undef=.bool b){K:Tr Value d->Bool}{t:Value}(gt:G2 τ t (.bool b))(h:(EY d n (some i)).set T t K=true):∃T',K T'=true/\Dt I fl d n e τ T' nb M F s vt m:=by
 obtain⟨T',hK,hT'⟩:=En hn h
 refine⟨T',hK,?_,R.gm,R.hb,R.ff,R.iv⟩
 rw[hT']
 have:=R.gf.set i (t:=t) (v:=.bool b) gt
 rwa [Kd hb]at this
theorem Dt.putU(hn:n<=8^d)(R:Dt I fl d n e τ T nb M F s vt m){o:Option Tmp}{K:Tr Value d->Bool}(h:(EY d n o).set T undef K=true):∃T',K T'=true/\Dt I fl d n e τ T' nb M F s (BO vt o undef) m:=by
 obtain⟨T',hK,hT'⟩:=En hn h
 exact⟨T',hK,by rw[hT'];exact R.gf.put o (AY (t:=undef) rfl),R.gm,R.hb,R.ff,R.iv⟩
theorem Xh(vt:List Value)(i:Nat):VE vt (.tmp i)=vt.getD i undef:=rfl
theorem l6{ops:Array Oper}{tbl:List (Ct P)}{ids:Nat->Nat}{K:List Value->Xm->Prop}{i:Nat}{rest:List Nat}{vt:List Value}{m:Xm}{o:Oper}(ho:ops[i]? =some o){g:Nat}{want:Bool}(hg:o.guard=some (g,want)){d:Nat}(hd:(ops[g]?).bind (·.dst)=some d){x:Bool}(hx:vt.getD d undef=.bool x)
    (h:match x==want with
      |true=>vop P tbl (ids i) o (vt.set d (.bool x)) m (EG P tbl ops ids K rest)
      |false=>EG P tbl ops ids K rest (BO (vt.set d (.bool x)) o.dst undef) m):EG P tbl ops ids K (i::rest) vt m:=by
 unfold EG
 rw[ho]
 dsimp only
 rw[hg]
 dsimp only
 rw[hd]
 dsimp only
 rw[hx]
 cases x<;>cases want<;>exact h
def gdK(d n:Nat)(i:Nat)(want:Bool)(dst:Option Tmp)(T:Tr Value d)(yes no:Tr Value d->Bool):Bool:=(opOf d n (.tmp i)).get T fun c=>match c with
 | .bool x=>Bool.casesOn (motive:=fun _=>Bool) (x==want) ((EY d n dst).set T undef no) (yes T)
 | .tuple ⟨[]⟩=>(EY d n dst).set T undef no
 |c=>an (DD c) (an ((EY d n (some i)).set T (.bool want) yes) ((EY d n (some i)).set T (.bool !want) fun T=>(EY d n dst).set T undef no))
theorem Akb(hn:n<=8^d){i:Nat}{want:Bool}{dst:Option Tmp}{yes no:Tr Value d->Bool}(R:Dt I fl d n e τ T nb M F s vt m)(h:gdK d n i want dst T yes no=true):
    (∃x T',vt.getD i undef=.bool x/\((x=want/\yes T'=true/\Dt I fl d n e τ T' nb M F s vt m)∨(x≠want/\no T'=true/\Dt I fl d n e τ T' nb M F s (BO vt dst undef) m)))∨(vt.getD i undef=.tuple ⟨[]⟩/\∃T',no T'=true/\Dt I fl d n e τ T' nb M F s (BO vt dst undef) m):=by
 unfold gdK at h
 rw[Bw]at h
 have gd:=R.gf.g i
 have e0:VE (toL d n T) (.tmp i)=(toL d n T).getD i undef:=rfl
 rw[e0]at h
 split at h
 ·rename_i x hx
  rw[hx]at gd
  cases hw:(x==want)with
  |true=>
   rw[hw]at h
   exact .inl ⟨x,T,gd.bool,.inl ⟨eq_of_beq hw,h,R⟩⟩
  |false=>
   rw[hw]at h
   obtain⟨T',hK,R'⟩:=R.putU hn h
   exact .inl ⟨x,T',gd.bool,.inr ⟨fun e=>by subst e;simp at hw,hK,R'⟩⟩
 ·rename_i hx
  rw[hx]at gd
  obtain⟨T',hK,R'⟩:=R.putU hn h
  exact .inr ⟨gd.1,T',hK,R'⟩
 ·simp only[Bu]at h
  obtain⟨hb,h1,h2⟩:=h
  obtain⟨x,hx⟩:=El hb gd
  by_cases hw:x=want
  ·obtain⟨T',hK,R'⟩:=R.setB hn (hx.trans (by rw[hw])) (t:=.bool want) ⟨rfl,rfl⟩ h1
   exact .inl ⟨x,T',hx,.inl ⟨hw,hK,R'⟩⟩
  ·have hx':x= !want:=by cases x<;>cases want<;>simp_all
   obtain⟨T1,hK1,R1⟩:=R.setB hn (hx.trans (by rw[hx'])) (t:=.bool !want) ⟨rfl,rfl⟩ h2
   obtain⟨T',hK,R'⟩:=R1.putU hn hK1
   exact .inl ⟨x,T',hx,.inr ⟨hw,hK,R'⟩⟩
structure Sq(d e:Nat)(σ:Type) where
 run:Nat->AK d e σ->AK d e σ
def AJb(d n:Nat){e:Nat}(ops:Array Oper)(i:Nat)(o:Oper)(p:Ins d e σ)(r:Sq d e σ):Sq d e σ:=
 match o.guard with
 |none=>⟨fun base K T nb M F s=>p.run true true (fun _=>true) (fun _=>false) (EV base ops i) T nb M F s (r.run base K)⟩
 |some (g,want)=>(match (ops[g]?).bind (·.dst)with
  |none=>⟨fun _ _ _ _ _ _ _=>false⟩
  |some j=>⟨fun base K T nb M F s=>gdK d n j want o.dst T (fun T=>p.run true true (fun _=>true) (fun _=>false) (EV base ops i) T nb M F s (r.run base K)) (fun T=>r.run base K T nb M F s)⟩)
def UM(P:Program)(fl:Bool)(tbl:List (Rw σ))(d n e:Nat)(ops:Array Oper):List Nat->Sq d e σ
 |[]=>⟨fun _ K T nb M F s=>K T nb M F s⟩
 |i::rest=>(match ops[i]? with
  |none=>⟨fun _ _ _ _ _ _ _=>false⟩
  |some o=>AJb d n ops i o (Qt P fl tbl d n e o) (UM P fl tbl d n e ops rest))
theorem MU(hn:n<=8^d){ops:Array Oper}{base:Nat}{K:AK d e σ}:∀(is:List Nat) (τ:List Int) (T:Tr Value d) (nb:Nat) (M:Tr (List Value) e) (F:Fct) (s:σ) (vt:List Value) (m:Xm),(UM P fl tbl d n e ops is).run base K T nb M F s=true->Dt I fl d n e τ T nb M F s vt m->
    Qr I fl d n e τ K (fun K'=>EG P (PF P tbl hT) ops (EV base ops) K' is vt m)
 |[],τ,T,nb,M,F,s,vt,m,h,R=>Qr.here h R
 | i ::rest,τ,T,nb,M,F,s,vt,m,h,R=>by
  unfold UM at h
  split at h
  ·cases h
  ·rename_i o ho
   have one:∀(T1:Tr Value d),(Qt P fl tbl d n e o).run true true (fun _=>true) (fun _=>false) (EV base ops i) T1 nb M F s ((UM P fl tbl d n e ops rest).run base K)=true->Dt I fl d n e τ T1 nb M F s vt m->Qr I fl d n e τ K (fun K'=>vop P (PF P tbl hT) (EV base ops i) o vt m (EG P (PF P tbl hT) ops (EV base ops) K' rest)):=fun T1 h1 R1=>
    (Aka (UK (hT:=hT) hn R1 h1)).next (S2:=fun vt m K'=>EG P (PF P tbl hT) ops (EV base ops) K' rest vt m) fun τ' T' nb' M' F' s' vt' m' h2 R2=>MU hn rest τ' T' nb' M' F' s' vt' m' h2 R2
   unfold AJb at h
   split at h
   ·rename_i hg
    refine(one T h R).imp fun K' hK=>?_
    unfold EG
    rw[ho]
    dsimp only
    rw[hg]
    exact hK
   ·rename_i g want hg
    split at h
    ·cases h
    ·rename_i j hj
     dsimp only at h
     rcases Akb hn R h with⟨x,T',hx,⟨hw,hK,R'⟩|⟨hw,hK,R'⟩⟩|⟨hx,T',hK,R'⟩
     ·refine(one T' hK R').imp fun K' hK'=>l6 ho hg hj hx ?_
      have:(x==want)=true:=by rw[hw];exact beq_self_eq_true want
      rw[this,Kd hx]
      exact hK'
     ·refine(MU hn rest τ T' nb M F s _ m hK R').imp fun K' hK'=>l6 ho hg hj hx ?_
      have:(x==want)=false:=by cases x<;>cases want<;>simp_all
      rw[this,Kd hx]
      exact hK'
     ·refine(MU hn rest τ T' nb M F s _ m hK R').imp fun K' hK'=>?_
      unfold EG
      rw[ho]
      dsimp only
      rw[hg]
      dsimp only
      rw[hj]
      dsimp only
      rw[hx]
      exact hK'
structure Dq(d e:Nat)(σ:Type) where
 run:Nat->(Nat->Bool)->(Nat->Bool)->AK d e σ->AK d e σ
def AAd(d n:Nat){e:Nat}(ops:Array Oper)(j:Nat)(o:Oper)(fr al two:Bool)(p:Ins d e σ)(r:Dq d e σ):Dq d e σ:=
 match o.guard with
 |none=>⟨fun base cl dd K T nb M F s=>p.run fr al (lco cl dd two o) (gco cl dd two o) (EV base ops j) T nb M F s (r.run base cl dd K)⟩
 |some (g,want)=>(match (ops[g]?).bind (·.dst)with
  |none=>⟨fun _ _ _ _ _ _ _ _ _=>false⟩
  |some i=>⟨fun base cl dd K T nb M F s=>gdK d n i want o.dst T (fun T=>p.run fr al (lco cl dd two o) (gco cl dd two o) (EV base ops j) T nb M F s (r.run base cl dd K)) (fun T=>an fr (r.run base cl dd K T nb M F s))⟩)
def Qw(P:Program)(fl:Bool)(tbl:List (Rw σ))(d n e:Nat)(ops:Array Oper)(two:Bool):List Stp->Dq d e σ
 |[]=>⟨fun _ _ _ K T nb M F s=>K T nb M F s⟩
 |(j,fr,al)::js=>(match ops[j]? with
  |none=>⟨fun _ _ _ _ _ _ _ _ _=>false⟩
  |some o=>AAd d n ops j o fr al two (Qt P fl tbl d n e o) (Qw P fl tbl d n e ops two js))
theorem Ad6{ops:Array Oper}{o:Oper}{g:Nat}{want:Bool}(hg:o.guard=some (g,want)){i:Nat}(hi:(ops[g]?).bind (·.dst)=some i):Region.wanted o (Bp ops vt)=(asB (vt.getD i undef)==some want):=by
 unfold Region.wanted
 rw[hg]
 dsimp only
 unfold Bp
 rw[hi]
theorem Ke(hn:n<=8^d){ops:Array Oper}{base:Nat}{cl dd:Nat->Bool}{two:Bool}{K:AK d e σ}:∀(js:List Stp) (τ:List Int) (T:Tr Value d) (nb:Nat) (M:Tr (List Value) e) (F:Fct) (s:σ) (vt:List Value) (m:Xm),(Qw P fl tbl d n e ops two js).run base cl dd K T nb M F s=true->Dt I fl d n e τ T nb M F s vt m->
    Qr I fl d n e τ K (fun K'=>FV P (PF P tbl hT) ops (EV base ops) cl dd two K' js vt m)
 |[],τ,T,nb,M,F,s,vt,m,h,R=>Qr.here h R
 | (j,fr,al)::js,τ,T,nb,M,F,s,vt,m,h,R=>by
  unfold Qw at h
  split at h
  ·cases h
  ·rename_i o ho
   have one:∀(T1:Tr Value d),Region.wanted o (Bp ops vt)=true->(Qt P fl tbl d n e o).run fr al (lco cl dd two o) (gco cl dd two o) (EV base ops j) T1 nb M F s ((Qw P fl tbl d n e ops two js).run base cl dd K)=true->Dt I fl d n e τ T1 nb M F s vt m->Qr I fl d n e τ K (fun K'=>FV P (PF P tbl hT) ops (EV base ops) cl dd two K' ((j,fr,al)::js) vt m):=fun T1 hw h1 R1=>by
    rcases UK (hT:=hT) hn R1 h1 with⟨hfr,u,T',nb',M',F',hu,hK,R'⟩|⟨hal,hq,hvw,hp⟩
    ·refine(Ke hn js τ T' nb' M' F' s _ m hK R').imp fun K' hK'=>?_
     unfold FV
     rw[ho]
     dsimp only
     have hq:TT P ops (EV base ops) cl dd two j o vt m=some u:=by unfold TT;rw[hw];exact hu
     rw[JV,hq]
     dsimp only
     rw[Bf]
     exact⟨hfr,hK'⟩
    ·refine(hp.next (S2:=fun vt m K'=>FV P (PF P tbl hT) ops (EV base ops) cl dd two K' js vt m) fun τ' T' nb' M' F' s' vt' m' h2 R2=>Ke hn js τ' T' nb' M' F' s' vt' m' h2 R2).imp fun K' hK'=>?_
     unfold FV
     rw[ho]
     dsimp only
     have hq':TT P ops (EV base ops) cl dd two j o vt m=none:=by unfold TT;rw[hw];exact hq
     rw[JV,hq']
     dsimp only
     rw[Bf,Bf]
     exact⟨hal,hvw,hK'⟩
   have skip:∀(T1:Tr Value d),Region.wanted o (Bp ops vt)=false->an fr ((Qw P fl tbl d n e ops two js).run base cl dd K T1 nb M F s)=true->Dt I fl d n e τ T1 nb M F s (BO vt o.dst undef) m->Qr I fl d n e τ K (fun K'=>FV P (PF P tbl hT) ops (EV base ops) cl dd two K' ((j,fr,al)::js) vt m):=fun T1 hw h1 R1=>by
    rw[Bu]at h1
    refine(Ke hn js τ T1 nb M F s _ m h1.2 R1).imp fun K' hK'=>?_
    unfold FV
    rw[ho]
    dsimp only
    have hq:TT P ops (EV base ops) cl dd two j o vt m=some undef:=by unfold TT;rw[hw]
    rw[JV,hq]
    dsimp only
    rw[Bf]
    exact⟨h1.1,hK'⟩
   unfold AAd at h
   split at h
   ·rename_i hg
    exact one T (by unfold Region.wanted;rw[hg]) h R
   ·rename_i g want hg
    split at h
    ·cases h
    ·rename_i i hi
     have hw:=Ad6 (vt:=vt) hg hi
     dsimp only at h
     rcases Akb hn R h with⟨x,T',hx,⟨he,hK,R'⟩|⟨he,hK,R'⟩⟩|⟨hx,T',hK,R'⟩
     ·exact one T' (by rw[hw,hx,he];show(some want==some want)=true;exact beq_self_eq_true _) hK R'
     ·exact skip T' (by rw[hw,hx];show(some x==some want)=false;cases x<;>cases want<;>simp_all) hK R'
     ·exact skip T' (by rw[hw,hx];rfl) hK R'
theorem Hr{at' vt:List Value}(F:GF τ at' vt)(ops:List Oper):∀(n:Nat) (x:Operand),Cy ops vt n x=Cy ops at' n x
 |0,_=>rfl
 | n +1,.tmp d=>by
  unfold Cy
  split
  ·split
   ·exact Hr F ops n _
   ·exact Hr F ops n _
   ·exact Hr F ops n _
   ·exact Hr F ops n _
   ·rfl
  ·have g:=F.g d
   have hp:=g.isP
   cases ha:isP (at'.getD d undef)with
   | true=>
    generalize at'.getD d undef=x at *
    match x,ha,g with
    | .nilIface,_,g1=>
     have e:vt.getD d undef=.nilIface:=g1.1
     rw[e]
    | .slice (some b) n c,_,g1=>
     have e:vt.getD d undef=.slice (some b) n c:=g1.1
     rw[e]
    | .pointer (some a),_,g1=>rw[g1.ptr]
   | false=>
    rw[ha]at hp
    have e:∀v:Value,isP v=false->(match v with
     | .pointer (some a)=>some a.block
     |_=>none)=(none:Option Nat):=fun v hv=>by
     cases v with
     |pointer a=>
      cases a with
      |none=>rfl
      |some a=>cases hv
     |_=>rfl
    exact(e _ hp).trans (e _ ha).symm
 |_+1,.const _=>rfl
 |_+1,.global _=>rfl
 |_+1,.func _=>rfl
theorem Ad7{at' vt:List Value}(F:GF τ at' vt)(ops:List Oper):EO ops vt=EO ops at':=by
 unfold EO
 congr 1
 funext o
 split
 ·exact Hr F ops 6 _
 ·rfl
def Fx:List Value->Bool
 |[c]=>DD c
 |_=>false
def RY(dirty:List Nat)(base:Nat)(m0:Xm)(k:Nat):Bool:=
 match (m0[k]?).map Fx with
 |some true=>Nat.blt k base&&dirty.contains (k+1000)
 |_=>Nat.blt k base&& !dirty.contains k
def ddA(dirty:List Nat)(base:Nat)(m0:Xm)(k:Nat):Bool:=
 match (m0[k]?).map Fx with
 |some true=>false
 |_=>Nat.blt k base&&dirty.contains k
theorem NY{l l':List Value}(g:Aj (G0 τ) l l'):(∃b,l'=[.bool b])↔Fx l=true:=by
 constructor
 ·rintro⟨b,rfl⟩
  match l,g with
  | [c],g=>
   show DD c=true
   have:=g.1
   unfold G0 at this
   unfold DD
   split at this
   ·obtain⟨x,e⟩:=this
    cases e
   ·rename_i e
    unfold Ur at e
    split at e<;>cases e
    rfl
   ·obtain⟨x,_,e⟩:=this
    cases e
   ·obtain⟨x,_,e⟩:=this
    cases e
   ·rw[<-this.1]
 ·intro h
  match l,l',g,h with
  |[c],[v],g,h=>
   obtain⟨b,e⟩:=Qi h g.1
   exact⟨b,by rw[e]⟩
theorem Qx{am m:Xm}(M:GM τ am m)(dirty:List Nat)(base k:Nat):RO dirty base m k=RY dirty base am k/\ddB dirty base m k=ddA dirty base am k:=by
 unfold RO RY ddB ddA
 cases hk:am[k]? with
 | none=>
  have:m[k]? =none:=by
   rw[List.getElem?_eq_none_iff]at hk ⊢
   rw[<-M.len]
   exact hk
  rw[this]
  exact⟨rfl,rfl⟩
 | some l=>
  obtain⟨l',hl',g⟩:=M.g k l hk
  rw[hl']
  cases hb:Fx l with
  |true=>
   obtain⟨b,rfl⟩:=(NY g).2 hb
   rw[Zah,hb]
   exact⟨rfl,rfl⟩
  | false=>
   rw[Zah,hb]
   have hn:∀b,l'≠[.bool b]:=fun b e=>by
    have:=(NY g).1 ⟨b,e⟩
    rw[hb]at this
    cases this
   constructor
   ·split
    ·rename_i e
     cases e
     exact absurd rfl (hn _)
    ·rfl
   ·split
    ·rename_i e
     cases e
     exact absurd rfl (hn _)
    ·rfl
def NZ(ops:List Oper)(d n:Nat)(T:Tr Value d):Nat->Operand->(Option Nat->Bool)->Bool
 |0,_,K=>K none
 | k+1,.tmp t,K=>
  match ops.find? (fun o=>o.dst==some t)with
  |some o=>(match o.op with
   | .fieldAddr _ x _=>NZ ops d n T k x K
   | .indexAddr _ x _=>NZ ops d n T k x K
   | .nilCheck x=>NZ ops d n T k x K
   | .move x=>NZ ops d n T k x K
   |_=>K none)
  |none=>(opOf d n (.tmp t)).get T fun v=>match v with
   | .pointer (some a)=>K (some a.block)
   |_=>K none
 |_+1,_,K=>K none
theorem UN(ops:List Oper)(T:Tr Value d):∀(k:Nat) (x:Operand) (K:Option Nat->Bool),NZ ops d n T k x K=K (Cy ops (toL d n T) k x)
 |0,_,_=>rfl
 | k+1,.tmp t,K=>by
  unfold NZ Cy
  cases ops.find? (fun o=>o.dst==some t)with
  |some o=>
   dsimp only
   cases o.op<;>dsimp only<;>first |exact UN ops T k _ K |rfl
  |none=>
   dsimp only
   rw[Bw,Xh]
   cases (toL d n T).getD t undef with
   |pointer a=>cases a<;>rfl
   |_=>rfl
 |_+1,.const _,_=>rfl
 |_+1,.global _,_=>rfl
 |_+1,.func _,_=>rfl
def UO(ops:List Oper)(d n:Nat)(T:Tr Value d):List Oper->(List Nat->Bool)->Bool
 |[],K=>K []
 | o::l,K=>(match o.op with
  | .store _ x _=>NZ ops d n T 6 x fun b=>UO ops d n T l fun r=>match b with
   |some b=>K (b::r)
   |none=>K r
  |_=>UO ops d n T l K)
theorem N0(ops:List Oper)(T:Tr Value d):∀(l:List Oper) (K:List Nat->Bool),UO ops d n T l K=K (l.filterMap fun o=>match o.op with
    | .store _ x _=>Cy ops (toL d n T) 6 x
    |_=>none)
 |[],_=>rfl
 | o::l,K=>by
  unfold UO
  rw[List.filterMap_cons]
  cases hop:o.op<;>dsimp only<;>try exact N0 ops T l K
  case store t x y=>
   rw[UN,N0 ops T l]
   cases Cy ops (toL d n T) 6 x<;>rfl
def RZ(dl:List Nat)(base e:Nat)(M:Tr (List Value) e)(k:Nat):Bool:=(Bq e k).get M fun row=>Bool.casesOn (motive:=fun _=>Bool) (Fx row) (an (Nat.blt k base) (!dl.contains k)) (an (Nat.blt k base) (dl.contains (k+1000)))
def ddT(dl:List Nat)(base e:Nat)(M:Tr (List Value) e)(k:Nat):Bool:=(Bq e k).get M fun row=>Bool.casesOn (motive:=fun _=>Bool) (Fx row) (an (Nat.blt k base) (dl.contains k)) false
theorem Xi(a b:Bool):an a b=(a&&b):=by cases a<;>rfl
theorem Qy(dl:List Nat){base nb:Nat}(M:Tr (List Value) e)(hb:base<=nb)(k:Nat):RZ dl base e M k=RY dl base (toL e nb M) k/\ddT dl base e M k=ddA dl base (toL e nb M) k:=by
 unfold RZ ddT RY ddA
 rw[CB,CB]
 by_cases hk:k<nb
 ·rw[Cr hk]
  dsimp only[Zah]
  cases Fx (getT e M k)
  ·exact⟨Xi _ _,Xi _ _⟩
  ·exact⟨Xi _ _,rfl⟩
 ·have h0:Nat.blt k base=false:=by
   cases h:Nat.blt k base with
   |false=>rfl
   |true=>have:=Zn h;omega
  rw[Zu (by rw[Bv];omega),h0]
  cases Fx (getT e M k)<;>exact⟨rfl,rfl⟩
def Akc(P:Program)(ops:Array Oper):Bool:=Uo P ops&&(Az P ops).all (List.all · I0)
def Gv(P:Program)(fl:Bool)(tbl:List (Rw σ))(d n e:Nat)(dirty:Nat->List Nat)(id:Nat)(ops:Array Oper)(draw:Bool)(K:AK d e σ)(T:Tr Value d)(nb:Nat)(M:Tr (List Value) e)(F:Fct)(s:σ):Bool:=
 match Akc P ops with
 |false=>false
 | true=>(match draw with
  |false=>an (Nat.ble (Nat.add nb (Az P ops).length) (8^e)) (Qo e (Az P ops) nb M fun nb' M=>nN nb' fun nb'=>(UM P fl tbl d n e ops (List.range ops.size)).run nb K T nb' M F s)
  | true=>(match Region.noSelect ops,ACo ops with
   |true,some js=>an (Nat.beq js.length ops.size) (an (Nat.ble (Nat.add nb (Az P ops).length) (8^e)) (Qo e (Az P ops) nb M fun nb' M=>nN nb' fun nb'=>UO ops.toList d n T ops.toList fun dl=>
    (Qw P fl tbl d n e ops (Xg ops) js).run nb (RZ (dirty id++dl) nb e M) (ddT (dirty id++dl) nb e M) K T nb' M F s))
   |_,_=>false))
theorem GM.wide{am m ns:Xm}(M:GM τ am m)(h:ns.all (List.all · I0)=true):GM τ (am++ns) (m++ns):=by
 refine⟨by simp[M.len],fun k l hl=>?_⟩
 by_cases hk:k<am.length
 ·rw[Zv hk]at hl
  obtain⟨l',h1,g⟩:=M.g k l hl
  exact⟨l',by rw[Zv (by rw[<-M.len];exact hk)];exact h1,g⟩
 ·rw[Zs (by omega)]at hl
  refine⟨l,by rw[Zs (by rw[<-M.len];omega),<-M.len];exact hl,Aj.refl l (fun a ha=>Gq ?_)⟩
  have:=Zal.1 h l (Zag hl)
  exact Zal.1 this a ha
theorem Inv.wide{fl:Bool}{s:σ}{m:Xm}(J:Inv I fl τ s m)(ns:Xm):Inv I fl τ s (m++ns):=fun hf=>by
 obtain⟨b,h1,h2⟩:=J hf
 exact⟨b,by rw[Zv (Zad.1 h1).1];exact h1,h2⟩
theorem Xj(hn:n<=8^d){dirty:Nat->List Nat}{id:Nat}{ops:Array Oper}{draw:Bool}{K:AK d e σ}(h:Gv P fl tbl d n e dirty id ops draw K T nb M F s=true)(R:Dt I fl d n e τ T nb M F s vt m):
    Qr I fl d n e τ K (fun K'=>Ed P (PF P tbl hT) dirty id ops draw K' vt m):=by
 unfold Gv at h
 split at h
 ·cases h
 ·rename_i hr
  unfold Akc at hr
  rw[Zm]at hr
  have hl:nb=m.length:=by rw[<-R.gm.len,Bv]
  have wide:∀M',toL e (nb+(Az P ops).length) M'=toL e nb M++Az P ops->nb+(Az P ops).length<=8^e->Dt I fl d n e τ T (nb+(Az P ops).length) M' F s vt (m++Az P ops):=fun M' hM' hb=>⟨R.gf,by rw[hM'];exact R.gm.wide hr.2,hb,R.ff,R.iv.wide _⟩
  split at h
  ·rw[Bu]at h
   have hb:=Zn h.1
   obtain⟨M',h,hM'⟩:=NS e _ _ _ _ h.2 hb
   rw[CE]at h
   refine(MU (hT:=hT) hn _ τ T _ M' F s vt _ h (wide M' hM' hb)).imp fun K' hK=>?_
   unfold Ed
   rw[hr.1]
   dsimp only
   rw[<-hl]
   exact hK
  ·split at h
   ·rename_i js hns hsch
    rw[Atg]at hsch
    rw[Bu,Bu,Ad5]at h
    obtain⟨hjs,hb,h⟩:=h
    have hb:=Zn hb
    obtain⟨M',h,hM'⟩:=NS e _ _ _ _ h hb
    rw[CE,N0]at h
    have R':=wide M' hM' hb
    refine(Ke (hT:=hT) hn js τ T _ M' F s vt _ h R').imp fun K' hK=>?_
    unfold Ed
    rw[hr.1]
    dsimp only
    rw[hns,hsch]
    dsimp only
    rw[Bf]
    refine⟨hjs,?_⟩
    have ed:EO ops.toList vt=(ops.toList.filterMap fun o=>match o.op with
     | .store _ x _=>Cy ops.toList (toL d n T) 6 x
     |_=>none):=(Ad7 R.gf ops.toList)
    rw[ed,<-hl]
    have ec:RO (dirty id++ops.toList.filterMap fun o=>match o.op with
     | .store _ x _=>Cy ops.toList (toL d n T) 6 x
     |_=>none) nb (m++Az P ops)=RZ (dirty id++ops.toList.filterMap fun o=>match o.op with
     | .store _ x _=>Cy ops.toList (toL d n T) 6 x
     |_=>none) nb e M':=funext fun k=>((Qx R'.gm _ nb k).1).trans ((Qy _ M' (Nat.le_add_right _ _) k).1).symm
    have ee:ddB (dirty id++ops.toList.filterMap fun o=>match o.op with
     | .store _ x _=>Cy ops.toList (toL d n T) 6 x
     |_=>none) nb (m++Az P ops)=ddT (dirty id++ops.toList.filterMap fun o=>match o.op with
     | .store _ x _=>Cy ops.toList (toL d n T) 6 x
     |_=>none) nb e M':=funext fun k=>((Qx R'.gm _ nb k).2).trans ((Qy _ M' (Nat.le_add_right _ _) k).2).symm
    rw[ec,ee]
    exact hK
   ·cases h
def N1{α:Type}(f:α->(α->Bool)->Bool)(lim:Nat)(d:Nat):Nat->Tr α d->(Tr α d->Bool)->Bool:=
 Nat.rec (motive:=fun d=>Nat->Tr α d->(Tr α d->Bool)->Bool) (fun off v K=>Bool.casesOn (motive:=fun _=>Bool) (Nat.ble lim off) (f v K) (K v)) (fun d ih off t K=>Bool.casesOn (motive:=fun _=>Bool) (Nat.ble lim off) (N8.casesOn (motive:=fun _=>Bool) t (fun a b c d' e f g h=>ih off a fun a=>ih (Nat.add off (8^d)) b fun b=>ih (Nat.add off (Nat.mul 2 (8^d))) c fun c=>ih (Nat.add off (Nat.mul 3 (8^d))) d' fun d'=>ih (Nat.add off (Nat.mul 4 (8^d))) e fun e=>ih (Nat.add off (Nat.mul 5 (8^d))) f fun f=>ih (Nat.add off (Nat.mul 6 (8^d))) g fun g=>ih (Nat.add off (Nat.mul 7 (8^d))) h fun h=>K ⟨a,b,c,d',e,f,g,h⟩)) (K t)) d
def Ln{α:Type}(p:α->α->Bool)(d:Nat):Tr α d->Tr α d->Bool:=
 Nat.rec (motive:=fun d=>Tr α d->Tr α d->Bool) (fun a b=>p a b) (fun _ ih t u=>N8.casesOn (motive:=fun _=>Bool) t (fun a b c d e f g h=>N8.casesOn (motive:=fun _=>Bool) u (fun a' b' c' d' e' f' g' h'=>an (ih a a') (an (ih b b') (an (ih c c') (an (ih d d') (an (ih e e') (an (ih f f') (an (ih g g') (ih h h')))))))))) d
theorem Ef{α:Type}{f:α->(α->Bool)->Bool}{g:α->α}(hf:∀v K,f v K=K (g v))(lim:Nat):∀(d off:Nat) (t:Tr α d) (K:Tr α d->Bool),N1 f lim d off t K=true->∃t',K t'=true/\∀i,getT d t' i=g (getT d t i)∨getT d t' i=getT d t i
 |0,off,t,K,h=>by
  have h:Bool.casesOn (motive:=fun _=>Bool) (Nat.ble lim off) (f t K) (K t)=true:=h
  cases hb:Nat.ble lim off with
  |true=>rw[hb]at h;exact⟨t,h,fun _=>.inr rfl⟩
  |false=>rw[hb]at h;exact⟨g t,(hf t K).symm.trans h,fun _=>.inl rfl⟩
 | n+1,off,⟨a,b,c,d,e,f',g',h'⟩,K,hh=>by
  have hh:Bool.casesOn (motive:=fun _=>Bool) (Nat.ble lim off) (N1 f lim n off a fun a=>N1 f lim n (Nat.add off (8^n)) b fun b=>N1 f lim n (Nat.add off (Nat.mul 2 (8^n))) c fun c=>N1 f lim n (Nat.add off (Nat.mul 3 (8^n))) d fun d'=>N1 f lim n (Nat.add off (Nat.mul 4 (8^n))) e fun e=>N1 f lim n (Nat.add off (Nat.mul 5 (8^n))) f' fun f6=>N1 f lim n (Nat.add off (Nat.mul 6 (8^n))) g' fun g=>N1 f lim n (Nat.add off (Nat.mul 7 (8^n))) h' fun h=>K (⟨a,b,c,d',e,f6,g,h⟩:N8 (Tr α n))) (K (⟨a,b,c,d,e,f',g',h'⟩:N8 (Tr α n)))=true:=hh
  cases hb:Nat.ble lim off with
  |true=>rw[hb]at hh;exact⟨_,hh,fun _=>.inr rfl⟩
  |false=>
   rw[hb]at hh
   obtain⟨a',hh,ha⟩:=Ef hf lim n _ a _ hh
   obtain⟨b',hh,hb⟩:=Ef hf lim n _ b _ hh
   obtain⟨c',hh,hc⟩:=Ef hf lim n _ c _ hh
   obtain⟨d',hh,hd⟩:=Ef hf lim n _ d _ hh
   obtain⟨e',hh,he⟩:=Ef hf lim n _ e _ hh
   obtain⟨f2,hh,hf'⟩:=Ef hf lim n _ f' _ hh
   obtain⟨g2,hh,hg⟩:=Ef hf lim n _ g' _ hh
   obtain⟨h2,hh,hh'⟩:=Ef hf lim n _ h' _ hh
   refine⟨(⟨a',b',c',d',e',f2,g2,h2⟩:N8 (Tr α n)),hh,fun i=>?_⟩
   rw[Gu,Gu]
   rcases As5 (i / 8^n)with k |k |k |k |k |k |k |⟨_,k⟩<;>rw[k]
   ·exact ha _
   ·exact hb _
   ·exact hc _
   ·exact hd _
   ·exact he _
   ·exact hf' _
   ·exact hg _
   ·exact hh' _
theorem Sa{α:Type}{p:α->α->Bool}:∀(d:Nat) (t u:Tr α d),Ln p d t u=true->∀i,p (getT d t i) (getT d u i)=true
 |0,_,_,h,_=>h
 |n+1,⟨a,b,c,d,e,f,g,h⟩,⟨a',b',c',d',e',f',g',h'⟩,hh,i=>by
  have hh:an (Ln p n a a') (an (Ln p n b b') (an (Ln p n c c') (an (Ln p n d d') (an (Ln p n e e') (an (Ln p n f f') (an (Ln p n g g') (Ln p n h h')))))))=true:=hh
  simp only[Bu]at hh
  rw[Gu,Gu]
  rcases As5 (i / 8^n)with k |k |k |k |k |k |k |⟨_,k⟩<;>rw[k]<;>apply Sa
  ·exact hh.1
  ·exact hh.2.1
  ·exact hh.2.2.1
  ·exact hh.2.2.2.1
  ·exact hh.2.2.2.2.1
  ·exact hh.2.2.2.2.2.1
  ·exact hh.2.2.2.2.2.2.1
  ·exact hh.2.2.2.2.2.2.2
def Qz(fl:Bool)(nb e:Nat)(M:Tr (List Value) e):Bool:=an fl (an (Nat.ble 1 nb) ((Bq e 0).get M fun row=>match row with
 |[.bool true]=>true
 |_=>false))
theorem UP(h:Qz fl nb e M=true)(R:Dt I fl d n e τ T nb M F s vt m):fl=true/\m[0]? =some [.bool true]/\I τ s true:=by
 unfold Qz at h
 rw[Bu,Bu,CB]at h
 obtain⟨hf,h1,h⟩:=h
 have h1:=Zn h1
 split at h
 ·rename_i hr
  obtain⟨b,hb,hI⟩:=R.iv hf
  have g:=R.gm.get (show(toL e nb M)[0]? =some [.bool true]by rw[Cr h1,hr]) hb
  have e1:=g.1.1
  cases e1
  exact⟨hf,hb,hI⟩
 ·cases h
def Akd(v:Value)(K:Value->Bool):Bool:=
 match v with
 | .tuple ⟨[.float .f64 _]⟩=>K (unk .i64)
 | .tuple ⟨[.agg _]⟩=>K (unk .i64)
 |v=>K v
theorem l7(v:Value)(K:Value->Bool):Akd v K=K (fg0 v):=by
 unfold Akd
 split
 ·rfl
 ·rfl
 ·rename_i h1 h2
  unfold fg0
  split
  ·exact absurd rfl (h1 _)
  ·exact absurd rfl (h2 _)
  ·rfl
def Ake:List Value->(List Value->Bool)->Bool
 |[],K=>K []
 |x::l,K=>Akd x fun x=>Ake l fun l=>K (x::l)
theorem Sc:∀(l:List Value) (K:List Value->Bool),Ake l K=K (l.map fg0)
 |[],_=>rfl
 |x::l,K=>by
  show Akd x (fun x=>Ake l fun l=>K (x::l))=_
  rw[l7,Sc l]
  rfl
def ACp(v:Value)(K:Value->Bool):Bool:=
 match v with
 | .tuple ⟨a::b::r⟩=>n2 (fg2 (.tuple ⟨a::b::r⟩)) K
 | .bool _=>K unkB
 | .agg ⟨l⟩=>Ake l fun l=>K (.agg ⟨l⟩)
 |v=>Akd v K
theorem Ath(v:Value)(K:Value->Bool):ACp v K=K (fg2 v):=by
 unfold ACp
 split
 ·exact J8 _ _
 ·rfl
 ·rw[Sc]
  rfl
 ·rename_i h1 h2 h3
  rw[l7]
  unfold fg2 fg1
  split
  ·exact absurd rfl (h1 _ _ _)
  ·exact absurd rfl (h2 _)
  ·split
   ·exact absurd rfl (h3 _)
   ·rfl
def fin(b:Bool):Bool:=Bool.casesOn (motive:=fun _=>Bool) b false true
theorem Akf(b:Bool):fin b=b:=by cases b<;>rfl
def ACq(fl:Bool)(d n e:Nat)(eq:PM σ)(K:AK d e σ):AK d e σ:=fun T nb M F s=>
 Bool.casesOn (motive:=fun _=>Bool) (Qz fl nb e M) (K T nb M F s) (Bool.casesOn (motive:=fun _=>Bool) (eq.2.2.2 s) (N1 ACp n d 0 T fun T=>N1 Ake nb e 0 M fun M=>fin (K T nb M [] (eq.2.2.1 s))) (fin (K T nb M F s)))
theorem Ati{eq:PM σ}(heq:UE I eq){K:AK d e σ}(h:ACq fl d n e eq K T nb M F s=true)(R:Dt I fl d n e τ T nb M F s vt m):∃τ' T' M' F' s',K T' nb M' F' s'=true/\FJ fl τ τ'/\Dt I fl d n e τ' T' nb M' F' s' vt m:=by
 unfold ACq at h
 cases hb:Qz fl nb e M with
 |false=>
  rw[hb]at h
  exact⟨τ,T,M,F,s,h,FJ.refl _ _,R⟩
 | true=>
  rw[hb]at h
  dsimp only at h
  cases hd:eq.2.2.2 s with
  |true=>
   rw[hd]at h
   have h:fin (K T nb M F s)=true:=h
   rw[Akf]at h
   exact⟨τ,T,M,F,s,h,FJ.refl _ _,R⟩
  |false=>
  rw[hd]at h
  obtain⟨hfl,hm,hI⟩:=UP hb R
  obtain⟨T',h,hT'⟩:=Ef (g:=fg2) Ath n d 0 T _ h
  obtain⟨M',h,hM'⟩:=Ef (g:=fun l=>l.map fg0) Sc nb e 0 M _ h
  rw[Akf]at h
  obtain⟨τ',hx,i'⟩:=heq.2 τ s hI
  refine⟨τ',T',M',[],_,h,⟨hx,fun e=>(by rw[hfl]at e;cases e)⟩,⟨?_,fun t=>?_⟩,⟨?_,fun k l hl=>?_⟩,R.hb,fun f hf=>(by cases hf),fun _=>⟨true,hm,i'⟩⟩
  ·rw[Bv,<-R.gf.len,Bv]
  ·have g:=R.gf.g t
   rw[Zp]at g ⊢
   by_cases ht:t<n
   ·rw[Cr ht]at g ⊢
    show G2 τ' (getT d T' t) _
    rcases hT' t with e |e
    ·rw[e]
     exact(ACf _ _ g).ext hx
    ·rw[e]
     exact g.ext hx
   ·rw[Zu (by rw[Bv];omega)]at g ⊢
    exact g.ext hx
  ·rw[Bv,<-R.gm.len,Bv]
  ·have hk:k<nb:=by have:=(Zad.1 hl).1;rwa [Bv]at this
   rw[Cr hk]at hl
   cases hl
   obtain⟨l',h1,h2⟩:=R.gm.g k _ (Cr hk)
   rcases hM' k with e |e
   ·rw[e]
    exact⟨l',h1,(h2.onL (R:=G0 τ) W7).imp fun _ _ k=>k.ext hx⟩
   ·rw[e]
    exact⟨l',h1,h2.imp fun _ _ k=>k.ext hx⟩
abbrev AQ(d e:Nat)(σ:Type):=Exit->AK d e σ
def Fy:Code->Bool
 | .loop _=>true
 | .seq x y=>Fy x||Fy y
 | .cond _ x y=>Fy x||Fy y
 | .block _ c=>Fy c
 |_=>false
def UQ(fl:Bool)(d n e:Nat)(eq:PM σ)(deep:Bool):Nat->(AQ d e σ->AK d e σ)->AQ d e σ->AK d e σ
 |0,_,_,_,_,_,_,_=>false
 | k+1,G,Q,T,nb,M,F,s=>G (fun e T nb M F s=>match e with
  | .normal=>(match deep||Nat.beq (k % 4) 0 with
   |true=>ACq fl d n _ eq (UQ fl d n _ eq deep k G Q) T nb M F s
   |false=>UQ fl d n _ eq deep k G Q T nb M F s)
  |e=>Q e T nb M F s) T nb M F s
def eqP:Value->Value->Bool
 | .pointer (some ⟨b,o,none⟩),.pointer (some ⟨b',o',none⟩)=>Nat.beq b b'&&Nat.beq o o'
 | .pointer none,.pointer none=>true
 |_,_=>false
theorem ACr{a b:Value}(h:eqP a b=true):a=b:=by
 unfold eqP at h
 split at h
 ·rw[Zm]at h
  rw[Zab h.1,Zab h.2]
 ·rfl
 ·cases h
def lj0(t s:Value):Bool:=le0 t s||Uu t s||eqP t s
def lj1(t s:Value):Bool:=
 match s with
 | .agg cs=>(match t with
  | .agg ds=>Gs lj0 ds.toList cs.toList
  |_=>false)
 |s=>plain t&&lj0 t s
def lj2(t s:Value):Bool:=
 match s with
 | .tuple ⟨a::b::r⟩=>(match t with
  | .tuple ⟨c::d::q⟩=>Gs lj1 (c::d::q) (a::b::r)
  |_=>false)
 |s=>Ce t&&lj1 t s
theorem Xk{t s v:Value}(h:lj0 t s=true)(g:G0 τ t v):G0 τ s v:=by
 unfold lj0 at h
 rw[Zx,Zx]at h
 rcases h with (h |h)|h
 ·exact W6 h g
 ·rw[<-Dh h];exact g
 ·rw[<-ACr h];exact g
theorem Akg{t s v:Value}(h:lj1 t s=true)(g:G1 τ t v):G1 τ s v:=by
 unfold lj1 at h
 split at h
 ·split at h
  ·obtain⟨l,rfl,gl⟩:=g
   exact⟨l,rfl,Gt (R:=G0 τ) (fun _ _ _ h g=>Xk h g) h gl⟩
  ·cases h
 ·rw[Zm]at h
  have g0:G0 τ t v:=by
   unfold G1 at g
   split at g
   ·cases h.1
   ·exact g
  exact(Xk h.2 g0).g1
theorem ACs{t s v:Value}(h:lj2 t s=true)(g:G2 τ t v):G2 τ s v:=by
 unfold lj2 at h
 split at h
 ·split at h
  ·obtain⟨l,rfl,gl⟩:=g
   exact⟨l,rfl,Gt (R:=G1 τ) (fun _ _ _ h g=>Akg h g) h gl⟩
  ·cases h
 ·rw[Zm]at h
  have g1:G1 τ t v:=by
   unfold G2 at g
   split at g
   ·cases h.1
   ·exact g
  exact(Akg h.2 g1).g2
theorem Dt.lj(R:Dt I fl d n e τ T nb M F s vt m){T':Tr Value d}{M':Tr (List Value) e}(h1:Ln lj2 d T T'=true)(h2:Ln (fun a b=>Gs lj0 a b) e M M'=true):GF τ (toL d n T') vt/\GM τ (toL e nb M') m:=by
 refine⟨⟨by rw[Bv,<-R.gf.len,Bv],fun t=>?_⟩,⟨by rw[Bv,<-R.gm.len,Bv],fun k l hl=>?_⟩⟩
 ·have g:=R.gf.g t
  rw[Zp]at g ⊢
  by_cases ht:t<n
  ·rw[Cr ht]at g ⊢
   exact ACs (Sa d T T' h1 t) g
  ·rw[Zu (by rw[Bv];omega)]at g ⊢
   exact g
 ·have hk:k<nb:=by have:=(Zad.1 hl).1;rwa [Bv]at this
  rw[Cr hk]at hl
  cases hl
  obtain⟨l',q1,q2⟩:=R.gm.g k _ (Cr hk)
  exact⟨l',q1,Gt (R:=G0 τ) (fun _ _ _ h g=>Xk h g) (Sa e M M' h2 k) q2⟩
def l8(eq:PM σ)(J:Tr Value d)(nb:Nat)(M:Tr (List Value) e)(s:σ):AQ d e σ:=fun x T2 nb2 M2 _ s2=>
 match x with
 | .normal=>an (Nat.beq nb2 nb) (an (Ln lj2 d T2 J) (an (Ln (fun a b=>Gs lj0 a b) e M2 M) (eq.1 s s2)))
 |_=>false
def QA(d n:Nat)(c:Operand)(v:Value)(T:Tr Value d)(K:Tr Value d->Bool):Bool:=
 match c with
 | .tmp t=>(EY d n (some t)).set T v K
 |_=>K T
theorem QB{c:Operand}{b:Bool}(h:VE vt c=.bool b):vset vt c b=vt:=by
 cases c with
 |tmp t=>exact Kd h
 |_=>rfl
theorem Hs(hn:n<=8^d)(R:Dt I fl d n e τ T nb M F s vt m){c:Operand}{b:Bool}(hb:VE vt c=.bool b){v:Value}(gv:G2 τ v (.bool b)){K:Tr Value d->Bool}(h:QA d n c v T K=true):∃T',K T'=true/\Dt I fl d n e τ T' nb M F s vt m:=by
 cases c with
 |tmp t=>exact R.setB hn hb gv h
 |_=>exact⟨T,h,R⟩
structure Cd(d e:Nat)(σ:Type) where
 run:AQ d e σ->AK d e σ
def ACt(P:Program)(fl:Bool)(tbl:List (Rw σ))(d n e:Nat)(dirty:Nat->List Nat)(id:Nat)(ops:Array Oper)(draw:Bool):Cd d e σ:=
 match Akc P ops with
 |false=>⟨fun _ _ _ _ _ _=>false⟩
 | true=>(match draw with
  |false=>(match Az P ops with
   |[]=>⟨fun Q T nb M F s=>(UM P fl tbl d n e ops (List.range ops.size)).run nb (Q .normal) T nb M F s⟩
   |ns=>⟨fun Q T nb M F s=>an (Nat.ble (Nat.add nb ns.length) (8^e)) (Qo e ns nb M fun nb' M=>nN nb' fun nb'=>(UM P fl tbl d n e ops (List.range ops.size)).run nb (Q .normal) T nb' M F s)⟩)
  |true=>⟨fun Q=>Gv P fl tbl d n e dirty id ops true (Q .normal)⟩)
def seqQ(y:Cd d e σ)(Q:AQ d e σ):AQ d e σ:=fun x T nb M F s=>
 match x with
 | .normal=>y.run Q T nb M F s
 |x=>Q x T nb M F s
def ACu(id:Nat)(Q:AQ d e σ):AQ d e σ:=fun x T nb M F s=>
 match x with
 | .exit id'=>if id'=id then Q .normal T nb M F s else Q (.exit id') T nb M F s
 |x=>Q x T nb M F s
def AAe(fl:Bool)(d n e:Nat)(eq:PM σ)(c:Operand)(x y:Cd d e σ)(Q:AQ d e σ)(T:Tr Value d)(nb:Nat)(M:Tr (List Value) e)(F:Fct)(s:σ):Bool:=
 an (Qz fl nb e M) (QA d n c unkB T fun J=>an (QA d n c (.bool true) T fun T=>x.run (l8 eq J nb M s) T nb M F s) (an (QA d n c (.bool false) T fun T=>y.run (l8 eq J nb M s) T nb M F s) (Q .normal J nb M F (eq.2.1 s))))
def AAf(fl:Bool)(d n e:Nat)(eq:PM σ)(c:Operand)(x y:Cd d e σ)(Q:AQ d e σ)(T:Tr Value d)(nb:Nat)(M:Tr (List Value) e)(F:Fct)(s:σ)(v:Value):Bool:=
 an (DD v) (AAe fl d n e eq c x y Q T nb M F s||an (QA d n c (.bool true) T fun T=>x.run Q T nb M F s) (QA d n c (.bool false) T fun T=>y.run Q T nb M F s))
def AAg(fl:Bool)(d n e:Nat)(eq:PM σ)(c:Operand)(x y:Cd d e σ):Cd d e σ:=
 match okA c with
 |true=>⟨fun Q T nb M F s=>(opOf d n c).get T fun v=>(match v with
  | .bool b=>Bool.casesOn (motive:=fun _=>Bool) b (y.run Q T nb M F s) (x.run Q T nb M F s)
  |v=>AAf fl d n e eq c x y Q T nb M F s v)⟩
 |false=>⟨fun _ _ _ _ _ _=>false⟩
def l9(P:Program)(fl:Bool)(tbl:List (Rw σ))(d n e:Nat)(dirty:Nat->List Nat)(lim:Nat)(eq:PM σ):Code->Cd d e σ
 | .skip=>⟨fun Q=>Q .normal⟩
 | .region id ops draw=>ACt P fl tbl d n e dirty id ops draw
 | .seq x y=>⟨fun Q=>(l9 P fl tbl d n e dirty lim eq x).run (seqQ (l9 P fl tbl d n e dirty lim eq y) Q)⟩
 | .cond c x y=>AAg fl d n e eq c (l9 P fl tbl d n e dirty lim eq x) (l9 P fl tbl d n e dirty lim eq y)
 | .block id c=>⟨fun Q=>(l9 P fl tbl d n e dirty lim eq c).run (ACu id Q)⟩
 | .loop c=>⟨UQ fl d n e eq (Fy c) lim (l9 P fl tbl d n e dirty lim eq c).run⟩
 | .exit id=>⟨fun Q=>Q (.exit id)⟩
 | .label _=>⟨fun Q=>Q .normal⟩
 | .ret=>⟨fun Q=>Q .ret⟩
 |_=>⟨fun _ _ _ _ _ _=>false⟩
theorem Atj{dirty:Nat->List Nat}{id:Nat}{ops:Array Oper}{draw:Bool}{Q:AQ d e σ}(h:(ACt P fl tbl d n e dirty id ops draw).run Q T nb M F s=true)(R:Dt I fl d n e τ T nb M F s vt m):Gv P fl tbl d n e dirty id ops draw (Q .normal) T nb M F s=true:=by
 unfold ACt at h
 unfold Gv
 split at h
 ·cases h
 ·rename_i hr
  split at h
  ·split at h
   ·rename_i hns
    rw[hns,Bu]
    refine⟨Nat.ble_eq_true_of_le R.hb,?_⟩
    show nN nb (fun nb'=>(UM P fl tbl d n e ops (List.range ops.size)).run nb (Q .normal) T nb' M F s)=true
    rw[CE]
    exact h
   ·exact h
  ·have h:Gv P fl tbl d n e dirty id ops true (Q .normal) T nb M F s=true:=h
   unfold Gv at h
   rw[hr]at h
   exact h
def Pe(I:List Int->σ->Bool->Prop)(fl:Bool)(d n e:Nat)(τ:List Int)(Q:AQ d e σ)(S:VQ->Prop):Prop:=
 ∃x vt' m' τ' T' nb' M' F' s',Q x T' nb' M' F' s'=true/\FJ fl τ τ'/\Dt I fl d n e τ' T' nb' M' F' s' vt' m'/\∀Q':VQ,Q' x vt' m'->S Q'
theorem Pe.imp{Q:AQ d e σ}{S S2:VQ->Prop}(h:Pe I fl d n e τ Q S)(hi:∀Q',S Q'->S2 Q'):Pe I fl d n e τ Q S2:=by
 obtain⟨x,vt1,m1,τ1,T1,nb1,M1,F1,s1,h1,x1,R1,k1⟩:=h
 exact⟨x,vt1,m1,τ1,T1,nb1,M1,F1,s1,h1,x1,R1,fun K' hK=>hi _ (k1 K' hK)⟩
theorem Akh(hn:n<=8^d){dirty:Nat->List Nat}{lim:Nat}{eq:PM σ}(heq:UE I eq):∀(c:Code) (Q:AQ d e σ) (τ:List Int) (T:Tr Value d) (nb:Nat) (M:Tr (List Value) e) (F:Fct) (s:σ) (vt:List Value) (m:Xm),(l9 P fl tbl d n e dirty lim eq c).run Q T nb M F s=true->Dt I fl d n e τ T nb M F s vt m->
    Pe I fl d n e τ Q (fun Q'=>Hm P (PF P tbl hT) dirty lim c Q' vt m):=by
 intro c
 induction c with
 |skip=>intro Q τ T nb M F s vt m h R;exact⟨.normal,vt,m,τ,T,nb,M,F,s,h,FJ.refl _ _,R,fun _ hQ=>hQ⟩
 |region id ops draw=>
  intro Q τ T nb M F s vt m h R
  obtain⟨vt',m',τ',T',nb',M',F',s',h2,hx,R2,hs⟩:=Xj (hT:=hT) hn (Atj h R) R
  exact⟨.normal,vt',m',τ',T',nb',M',F',s',h2,hx,R2,fun Q' hQ=>hs (Q' .normal) hQ⟩
 | seq x y ihx ihy=>
  intro Q τ T nb M F s vt m h R
  obtain⟨x1,vt',m',τ',T',nb',M',F',s',h2,hx,R2,hs⟩:=ihx _ τ T nb M F s vt m h R
  cases x1 with
  |normal=>
   obtain⟨x3,vt3,m3,τ3,T3,nb3,M3,F3,s3,h3,hx3,R3,hs3⟩:=ihy Q τ' T' nb' M' F' s' vt' m' h2 R2
   exact⟨x3,vt3,m3,τ3,T3,nb3,M3,F3,s3,h3,hx.trans hx3,R3,fun Q' hQ=>hs _ (hs3 Q' hQ)⟩
  |exit id=>exact⟨_,vt',m',τ',T',nb',M',F',s',h2,hx,R2,fun Q' hQ=>hs _ hQ⟩
  |goto l=>exact⟨_,vt',m',τ',T',nb',M',F',s',h2,hx,R2,fun Q' hQ=>hs _ hQ⟩
  |ret=>exact⟨_,vt',m',τ',T',nb',M',F',s',h2,hx,R2,fun Q' hQ=>hs _ hQ⟩
  |panic ch=>exact⟨_,vt',m',τ',T',nb',M',F',s',h2,hx,R2,fun Q' hQ=>hs _ hQ⟩
  |outgrown=>exact⟨_,vt',m',τ',T',nb',M',F',s',h2,hx,R2,fun Q' hQ=>hs _ hQ⟩
 | cond c x y ihx ihy=>
  intro Q τ T nb M F s vt m h R
  unfold l9 AAg at h
  split at h
  ·rename_i hok
   dsimp only at h
   rw[Bw]at h
   have g:=R.gf.ev hok
   have go:∀(Q:AQ d e σ) (T:Tr Value d) (b:Bool),VE vt c=.bool b->Dt I fl d n e τ T nb M F s vt m->(match b with
    |true=>(l9 P fl tbl d n e dirty lim eq x).run Q T nb M F s
    |false=>(l9 P fl tbl d n e dirty lim eq y).run Q T nb M F s)=true->Pe I fl d n e τ Q (fun Q'=>Hm P (PF P tbl hT) dirty lim (.cond c x y) Q' vt m):=by
    intro Q T b hb R hh
    cases b with
    |true=>
     refine(ihx Q τ T nb M F s vt m hh R).imp fun Q' hQ=>?_
     unfold Hm
     rw[Ee hok,hb]
     show Hm P (PF P tbl hT) dirty lim x Q' (vset vt c true) m
     rw[QB hb]
     exact hQ
    |false=>
     refine(ihy Q τ T nb M F s vt m hh R).imp fun Q' hQ=>?_
     unfold Hm
     rw[Ee hok,hb]
     show Hm P (PF P tbl hT) dirty lim y Q' (vset vt c false) m
     rw[QB hb]
     exact hQ
   split at h
   ·rename_i b hv
    rw[hv]at g
    refine go Q T b g.bool R ?_
    cases b
    ·exact h
    ·exact h
   ·unfold AAf at h
    rw[Bu,Zx]at h
    obtain⟨b,hb⟩:=El h.1 g
    rcases h.2 with h2 |h2
    ·unfold AAe at h2
     rw[Bu]at h2
     obtain⟨hbad,h2⟩:=h2
     obtain⟨J,h2,RJ⟩:=Hs hn R hb .unkB h2
     simp only[Bu]at h2
     obtain⟨hx,hy,hQ⟩:=h2
     have fin:Pe I fl d n e τ (l8 eq J nb M s) (fun Q'=>Hm P (PF P tbl hT) dirty lim (.cond c x y) Q' vt m):=by
      cases b with
      |true=>
       obtain⟨T',h3,R3⟩:=Hs hn R hb (v:=.bool true) ⟨rfl,rfl⟩ hx
       exact go _ T' true hb R3 h3
      |false=>
       obtain⟨T',h3,R3⟩:=Hs hn R hb (v:=.bool false) ⟨rfl,rfl⟩ hy
       exact go _ T' false hb R3 h3
     obtain⟨x1,vt',m',τ',T',nb',M',F',s',h2,hxt,R2,hs⟩:=fin
     unfold l8 at h2
     split at h2
     ·simp only[Bu]at h2
      obtain⟨hnb,hj1,hj2,he⟩:=h2
      have hnb:=Zab hnb
      subst hnb
      obtain⟨g1,g2⟩:=R2.lj hj1 hj2
      have hfl:fl=true:=by
       unfold Qz at hbad
       rw[Bu]at hbad
       exact hbad.1
      obtain⟨b',i1,i2⟩:=R2.iv hfl
      have hb':b'=true:=by
       have R3:Dt I fl d n e τ' J nb' M F' s' vt' m':=⟨g1,g2,R2.hb,R2.ff,R2.iv⟩
       obtain⟨_,hm,_⟩:=UP hbad R3
       rw[i1]at hm
       cases hm
       rfl
      subst hb'
      obtain⟨τ4,hx4,i4⟩:=heq.1 _ _ _ he i2
      exact⟨.normal,vt',m',τ4,J,nb',M,F,eq.2.1 s,hQ,hxt.trans ⟨hx4,fun e=>(by rw[hfl]at e;cases e)⟩,⟨g1.ext hx4,g2.ext hx4,R2.hb,(R.ff.ext hxt.1).ext hx4,fun _=>⟨true,i1,i4⟩⟩,hs⟩
     ·cases h2
    ·rw[Bu]at h2
     cases b with
     |true=>
      obtain⟨T',h3,R3⟩:=Hs hn R hb (v:=.bool true) ⟨rfl,rfl⟩ h2.1
      exact go Q T' true hb R3 h3
     |false=>
      obtain⟨T',h3,R3⟩:=Hs hn R hb (v:=.bool false) ⟨rfl,rfl⟩ h2.2
      exact go Q T' false hb R3 h3
  ·cases h
 | block id c ih=>
  intro Q τ T nb M F s vt m h R
  obtain⟨x1,vt',m',τ',T',nb',M',F',s',h2,hx,R2,hs⟩:=ih _ τ T nb M F s vt m h R
  cases x1 with
  | exit id'=>
   have h2:(if id'=id then Q .normal T' nb' M' F' s' else Q (.exit id') T' nb' M' F' s')=true:=h2
   split at h2
   ·rename_i e
    refine⟨.normal,vt',m',τ',T',nb',M',F',s',h2,hx,R2,fun Q' hQ=>hs _ ?_⟩
    dsimp only
    rw[if_pos e]
    exact hQ
   ·rename_i e
    refine⟨.exit id',vt',m',τ',T',nb',M',F',s',h2,hx,R2,fun Q' hQ=>hs _ ?_⟩
    dsimp only
    rw[if_neg e]
    exact hQ
  |normal=>exact⟨_,vt',m',τ',T',nb',M',F',s',h2,hx,R2,fun Q' hQ=>hs _ hQ⟩
  |goto l=>exact⟨_,vt',m',τ',T',nb',M',F',s',h2,hx,R2,fun Q' hQ=>hs _ hQ⟩
  |ret=>exact⟨_,vt',m',τ',T',nb',M',F',s',h2,hx,R2,fun Q' hQ=>hs _ hQ⟩
  |panic ch=>exact⟨_,vt',m',τ',T',nb',M',F',s',h2,hx,R2,fun Q' hQ=>hs _ hQ⟩
  |outgrown=>exact⟨_,vt',m',τ',T',nb',M',F',s',h2,hx,R2,fun Q' hQ=>hs _ hQ⟩
 | loop c ih=>
  intro Q τ T nb M F s vt m h R
  have key:∀k τ T nb M F s vt m,UQ fl d n e eq (Fy c) k (l9 P fl tbl d n e dirty lim eq c).run Q T nb M F s=true->Dt I fl d n e τ T nb M F s vt m->Pe I fl d n e τ Q (fun Q'=>AS k (Hm P (PF P tbl hT) dirty lim c) Q' vt m):=by
   intro k
   induction k with
   |zero=>intro τ T nb M F s vt m h;cases h
   | succ k ihk=>
    intro τ T nb M F s vt m h R
    obtain⟨x1,vt',m',τ',T',nb',M',F',s',h2,hx,R2,hs⟩:=ih _ τ T nb M F s vt m h R
    cases x1 with
    | normal=>
     dsimp only at h2
     have h2:∃τ4 T4 M4 F4 s4,UQ fl d n e eq (Fy c) k (l9 P fl tbl d n e dirty lim eq c).run Q T4 nb' M4 F4 s4=true/\FJ fl τ' τ4/\Dt I fl d n e τ4 T4 nb' M4 F4 s4 vt' m':=by
      split at h2
      ·exact Ati heq h2 R2
      ·exact⟨_,_,_,_,_,h2,FJ.refl _ _,R2⟩
     obtain⟨τ4,T4,M4,F4,s4,h4,hx4,R4⟩:=h2
     obtain⟨x3,vt3,m3,τ3,T3,nb3,M3,F3,s3,h3,hx3,R3,hs3⟩:=ihk τ4 T4 nb' M4 F4 s4 vt' m' h4 R4
     exact⟨x3,vt3,m3,τ3,T3,nb3,M3,F3,s3,h3,(hx.trans hx4).trans hx3,R3,fun Q' hQ=>hs _ (hs3 Q' hQ)⟩
    |exit id=>exact⟨_,vt',m',τ',T',nb',M',F',s',h2,hx,R2,fun Q' hQ=>hs _ hQ⟩
    |goto l=>exact⟨_,vt',m',τ',T',nb',M',F',s',h2,hx,R2,fun Q' hQ=>hs _ hQ⟩
    |ret=>exact⟨_,vt',m',τ',T',nb',M',F',s',h2,hx,R2,fun Q' hQ=>hs _ hQ⟩
    |panic ch=>exact⟨_,vt',m',τ',T',nb',M',F',s',h2,hx,R2,fun Q' hQ=>hs _ hQ⟩
    |outgrown=>exact⟨_,vt',m',τ',T',nb',M',F',s',h2,hx,R2,fun Q' hQ=>hs _ hQ⟩
  exact key lim τ T nb M F s vt m h R
 |exit id=>intro Q τ T nb M F s vt m h R;exact⟨.exit id,vt,m,τ,T,nb,M,F,s,h,FJ.refl _ _,R,fun _ hQ=>hQ⟩
 |label l=>intro Q τ T nb M F s vt m h R;exact⟨.normal,vt,m,τ,T,nb,M,F,s,h,FJ.refl _ _,R,fun _ hQ=>hQ⟩
 |ret=>intro Q τ T nb M F s vt m h R;exact⟨.ret,vt,m,τ,T,nb,M,F,s,h,FJ.refl _ _,R,fun _ hQ=>hQ⟩
 |goto l=>intro Q τ T nb M F s vt m h;cases h
 |scope c _=>intro Q τ T nb M F s vt m h;cases h
 |refuse t=>intro Q τ T nb M F s vt m h;cases h
 |rangeFunc f ps x y _ _=>intro Q τ T nb M F s vt m h;cases h
end
section
variable {P:Program} {σ:Type} {I:List Int->σ->Bool->Prop} {τ:List Int}
def Atk(P:Program)(fn:Func)(at':List Value)(m:Xm):Option Value:=
 match MD P at' m fn.results.toList with
 |some [v]=>some v
 |some vs=>if vs.all Ce then some (.tuple vs.toArray)else none
 |none=>none
theorem Xl{at' vt:List Value}{am m:Xm}(F:GF τ at' vt)(M:GM τ am m){r:ResultVar}{t:Value}(h:EX P at' am r=some t):∃v,EX P vt m r=some v/\G2 τ t v:=by
 cases r with
 | tmp i=>
  simp only[EX]at h ⊢
  have g:=F.g i
  split at h
  ·cases h
  ·rename_i hp
   cases h
   rw[if_neg (by rw[g.isP];exact hp)]
   exact⟨_,rfl,g⟩
 | cell p t=>
  simp only[EX]at h ⊢
  have g:=F.g p
  split at h
  ·rename_i k off hk
   rw[hk]at g
   rw[g.ptr]
   dsimp only
   split at h
   ·rename_i l hl
    obtain⟨l',hl',gl⟩:=M.g k l hl
    rw[hl']
    exact Ql h gl
   ·cases h
  ·cases h
theorem UR{at' vt:List Value}{am m:Xm}(F:GF τ at' vt)(M:GM τ am m):∀(rs:List ResultVar) (ts:List Value),MD P at' am rs=some ts->∃vs,MD P vt m rs=some vs/\Aj (G2 τ) ts vs
 |[],ts,h=>by cases h;exact⟨[],rfl,trivial⟩
 | r::rs,ts,h=>by
  unfold MD at h ⊢
  split at h
  ·rename_i t us h1 h2
   cases h
   obtain⟨v,hv,g⟩:=Xl F M h1
   obtain⟨vs,hvs,gs⟩:=UR F M rs us h2
   rw[hv,hvs]
   exact⟨v::vs,rfl,g,gs⟩
  ·cases h
theorem Aki:∀{ts vs:List Value},ts.all Ce=true->Aj (G2 τ) ts vs->Aj (G1 τ) ts vs
 |[],[],_,_=>trivial
 |t::ts,v::vs,h,g=>by
  simp only[Zaa,Zm]at h
  refine⟨?_,Aki h.2 g.2⟩
  have:=g.1
  unfold G2 at this
  split at this
  ·cases h.1
  ·exact this
 |[],_::_,_,g=>g.elim
 |_::_,[],_,g=>g.elim
theorem US{fn:Func}{at' vt:List Value}{am m:Xm}(F:GF τ at' vt)(M:GM τ am m){t:Value}(h:Atk P fn at' am=some t):∃v,Up P fn vt m=some v/\G2 τ t v:=by
 unfold Atk at h
 unfold Up
 cases hr:MD P at' am fn.results.toList with
 |none=>rw[hr]at h;cases h
 | some ts=>
  obtain⟨vs,hvs,g⟩:=UR F M _ _ hr
  rw[hr]at h
  rw[hvs]
  match ts,vs,g,h with
  |[a],[b],g,h=>cases h;exact⟨b,rfl,g.1⟩
  |[],[],g,h=>cases h;exact⟨_,rfl,AY rfl⟩
  | a::b::ts,c::d::vs,g,h=>
   simp only at h
   split at h
   ·rename_i hn
    cases h
    exact⟨_,rfl,⟨_,rfl,Aki hn g⟩⟩
   ·cases h
theorem noP:∀{sa rest:List Value},sa.all (fun x=>!isP x)=true->Aj (G2 τ) sa rest->∀v∈rest,isP v=false
 |[],[],_,_,v,hv=>by cases hv
 |a::sa,r::rest,h,g,v,hv=>by
  simp only[Zaa,Zm,Zak]at h
  rcases Zy.1 hv with rfl |hv
  ·rw[g.1.isP];exact h.1
  ·exact noP h.2 g.2 v hv
 |[],_::_,_,g,_,_=>g.elim
 |_::_,[],_,g,_,_=>g.elim
theorem n5(n t:Nat):((Zt n undef)[t]?).getD undef=undef:=by
 by_cases h:t<n
 ·rw[Zr (by simpa using h),List.getElem_replicate];rfl
 ·rw[Zu (by simpa using h)];rfl
theorem GF.start{sa vs:List Value}(g:Aj (G2 τ) sa vs)(n:Nat):GF τ (sa++Zt (n-sa.length) undef) (vs++Zt (n-vs.length) undef):=by
 have hl:=g.len
 refine⟨by simp[hl],fun t=>?_⟩
 simp only[Zp]
 by_cases ht:t<sa.length
 ·rw[Zv ht,Zv (by omega)]
  obtain⟨b,hb,gb⟩:=g.get t _ (Zr ht)
  rw[hb,Zr ht]
  exact gb
 ·rw[Zs (by omega),Zs (by omega),n5,n5]
  exact AY rfl
theorem Xn{tbl:List (Ct P)}{dirty:Nat->List Nat}{n:Nat}(hm:P.follows .mixedOrders=true){f:Nat}{fn:Func}{c:Code}(hf:P.funcs[f]? =some fn)(hb:fn.body=some c){rest:List Value}(hp:∀v∈rest,isP v=false){bad bad':Bool}{v0:Value}
    (h:Hm P tbl dirty n c (Bz P fn (fun v m=>v=v0/\Ck m=some bad')) ((ptr 0::rest)++Zt (fn.ntmps-(ptr 0::rest).length) undef) [[.bool bad]]) (b:Nat) (w:World) (hg:GW w) (hb1:1<b) (hw:Fl b bad w):
    Calls P f (ptr b::rest).toArray w fun e w'=>e=.returned v0/\Fl b bad' w'/\Ad b w w':=by
 have R:RW [b] w [some b] [[.bool bad]] w:=by
  refine⟨fun i B hi=>?_,fun i j B hi hj=>?_,fun i B hi=>?_,rfl,rfl,rfl,Zaf _,fun _ _ _=>rfl,hg,by simpa using hb1⟩
  ·match i,hi with
   |0,hi=>cases hi;exact⟨_,rfl,NH hw⟩
  ·match i,j,hi,hj with
   |0,0,_,_=>rfl
  ·match i,hi with
   |0,hi=>cases hi;exact .inl Zaj
 refine Calls.mono (Ho hm hf hb (vargs:=ptr 0::rest) R rfl (by simp) (fun i=>?_) h) ?_
 ·cases i with
  |zero=>exact⟨b,rfl,rfl⟩
  | succ i=>
   by_cases hi:i<rest.length
   ·have:=hp _ (List.getElem_mem hi)
    simp only[Zp,Zw]
    simp[hi]
    exact .same this
   ·simp only[Zp,Zw]
    simp[hi]
    rfl
 ·rintro e w' ⟨v,bl',m2,rfl,⟨rfl,h2⟩,R',hle⟩
  obtain⟨l,e,A⟩:=R'.arr 0 b (hle 0 b rfl)
  rw[Fv h2]at e
  cases e
  exact⟨rfl,Hn A,R'.os,R'.tape,R'.output,R'.size,fun i hi hb=>R'.block i hi (by simpa using hb)⟩
theorem pure_calls{tbl:List (Ct P)}{dirty:Nat->List Nat}{n:Nat}(hm:P.follows .mixedOrders=true){f:Nat}{fn:Func}{c:Code}(hf:P.funcs[f]? =some fn)(hb:fn.body=some c){rest:List Value}(hp:∀v∈rest,isP v=false){v0:Value}
    (h:Hm P tbl dirty n c (Bz P fn (fun v _=>v=v0)) (rest++Zt (fn.ntmps-rest.length) undef) []) (w:World) (hg:GW w):
    Calls P f rest.toArray w fun e w'=>e=.returned v0/\Below w.heap.size w w':=by
 have R:RW [] w [] [] w:=⟨fun i B hi=>(by cases hi),fun i j B hi=>(by cases hi),fun i B hi=>(by cases hi),rfl,rfl,rfl,Zaf _,fun _ _ _=>rfl,hg,fun b hb=>by cases hb⟩
 refine Calls.mono (Ho hm hf hb (vargs:=rest) R rfl (by simp) (fun i=>?_) h) ?_
 ·by_cases hi:i<rest.length
  ·have:=hp _ (List.getElem_mem hi)
   simp only[Zp,Zw]
   simp[hi]
   exact .same this
  ·simp only[Zp,Zw]
   simp[hi]
   rfl
 ·rintro e w' ⟨v,bl',m2,rfl,rfl,R',_⟩
  exact⟨rfl,R'.os,R'.tape,R'.output,R'.size,fun i hi=>R'.block i hi (by simp)⟩
def n7(P:Program)(d n e:Nat)(T:Tr Value d)(nb:Nat)(M:Tr (List Value) e)(r:ResultVar)(K:Value->Bool):Bool:=
 match r with
 | .tmp i=>(opOf d n (.tmp i)).get T fun v=>Bool.casesOn (motive:=fun _=>Bool) (isP v) (K v) false
 | .cell p t=>(opOf d n (.tmp p)).get T fun a=>Ka a fun k off=>an (Nat.ble (Nat.succ k) nb) ((Bq e k).get M fun row=>Qq P t off row K)
def Akj(P:Program)(d n e:Nat)(T:Tr Value d)(nb:Nat)(M:Tr (List Value) e):List ResultVar->(List Value->Bool)->Bool
 |[],K=>K []
 |r::rs,K=>n7 P d n e T nb M r fun v=>Akj P d n e T nb M rs fun vs=>K (v::vs)
def ACv(P:Program)(fn:Func)(d n e:Nat)(T:Tr Value d)(nb:Nat)(M:Tr (List Value) e)(K:Value->Bool):Bool:=Akj P d n e T nb M fn.results.toList fun vs=>match vs with
 |[v]=>K v
 |vs=>an (vs.all Ce) (K (.tuple ⟨vs⟩))
theorem Xo{d n e:Nat}{T:Tr Value d}{nb:Nat}{M:Tr (List Value) e}{r:ResultVar}{K:Value->Bool}(h:n7 P d n e T nb M r K=true):∃v,EX P (toL d n T) (toL e nb M) r=some v/\K v=true:=by
 cases r with
 | tmp i=>
  have h:(opOf d n (.tmp i)).get T (fun v=>Bool.casesOn (motive:=fun _=>Bool) (isP v) (K v) false)=true:=h
  rw[Bw,Xh]at h
  unfold EX
  dsimp only
  cases hp:isP ((toL d n T).getD i undef)with
  |true=>rw[hp]at h;cases h
  |false=>
   rw[hp]at h
   exact⟨_,by rw[if_neg (by simp)],h⟩
 |cell p t=>
  have h:(opOf d n (.tmp p)).get T (fun a=>Ka a fun k off=>an (Nat.ble (Nat.succ k) nb) ((Bq e k).get M fun row=>Qq P t off row K))=true:=h
  rw[Bw,Xh]at h
  obtain⟨k,off,hx,h⟩:=FX h
  rw[Bu,CB]at h
  have hk:=Zn h.1
  obtain⟨v,hv,h⟩:=NT h.2
  refine⟨v,?_,h⟩
  unfold EX
  dsimp only
  rw[hx]
  dsimp only
  rw[Cr hk]
  exact hv
theorem UT{d n e:Nat}{T:Tr Value d}{nb:Nat}{M:Tr (List Value) e}:∀{rs:List ResultVar} {K:List Value->Bool},Akj P d n e T nb M rs K=true->∃vs,MD P (toL d n T) (toL e nb M) rs=some vs/\K vs=true
 |[],_,h=>⟨[],rfl,h⟩
 |r::rs,K,h=>by
  obtain⟨v,hv,h⟩:=Xo h
  obtain⟨vs,hvs,h⟩:=UT h
  refine⟨v::vs,?_,h⟩
  unfold MD
  rw[hv,hvs]
theorem n8{fn:Func}{d n e:Nat}{T:Tr Value d}{nb:Nat}{M:Tr (List Value) e}{K:Value->Bool}(h:ACv P fn d n e T nb M K=true):∃v,Atk P fn (toL d n T) (toL e nb M)=some v/\K v=true:=by
 obtain⟨vs,hvs,h⟩:=UT h
 unfold Atk
 rw[hvs]
 split at h
 ·exact⟨_,rfl,h⟩
 ·rename_i hn
  rw[Bu]at h
  refine⟨_,?_,h.2⟩
  split
  ·rename_i e
   exact absurd (Option.some.inj e) (hn _)
  ·rename_i e
   cases e
   rw[if_pos h.1]
  ·rename_i e
   cases e
def Lo(d:Nat):List Value->Nat->Tr Value d->(Tr Value d->Bool)->Bool
 |[],_,T,K=>K T
 |v::r,i,T,K=>(Bq d i).set T v fun T=>Lo d r (Nat.succ i) T K
theorem N2{α:Type}(v:α)(d n:Nat):toL d n (Fw v d)=Zt n v:=by
 unfold toL
 refine List.ext_getElem? fun i=>?_
 rw[Zz]
 by_cases h:i<n
 ·rw[List.getElem?_range h,Zr (by simpa using h),List.getElem_replicate,Zah,NR]
 ·rw[Zu (by simpa using h),Zu (by simpa using h)]
  rfl
theorem Lp{d n:Nat}(hn:n<=8^d):∀(ns pre:List Value) (r:Nat) (T:Tr Value d) (K:Tr Value d->Bool),Lo d ns pre.length T K=true->pre.length+ns.length+r=n->toL d n T=pre++Zt (ns.length+r) undef->∃T',K T'=true/\toL d n T'=pre++ns++Zt r undef
 |[],pre,r,T,K,h,_,hT=>⟨T,h,by rw[hT];simp⟩
 | v::ns,pre,r,T,K,h,hl,hT=>by
  unfold Lo at h
  rw[CC]at h
  rw[Zac]at hl hT
  have h:Lo d ns (pre++[v]).length (setT d T pre.length v) K=true:=by rw[Zae];exact h
  obtain⟨T',hK,hT'⟩:=Lp hn ns (pre++[v]) r _ K h (by rw[Zae,List.length_singleton];omega) (by
   rw[toL_set T v hn (by omega),hT,show ns.length+1+r=(ns.length+r)+1 by omega,List.replicate_succ,List.set_append_right _ _ (Zaf _),Nat.sub_self,List.set_cons_zero,Zq]
   rfl)
  exact⟨T',hK,by rw[hT'];simp⟩
def Atl(P:Program)(fn:Func)(d n e:Nat)(K:Value->Value->Fct->σ->Bool):AK d e σ:=fun T nb M F s=>an (Nat.ble 1 nb) (ACv P fn d n e T nb M fun t=>(Bq e 0).get M fun row=>match row with
 |[c]=>an (!isP t) (K t c F s)
 |_=>false)
def AJc(P:Program)(fn:Func)(d n e:Nat)(K:Value->Value->Fct->σ->Bool):AQ d e σ:=fun x T nb M F s=>
 match x with
 | .normal=>Atl P fn d n e K T nb M F s
 | .ret=>Atl P fn d n e K T nb M F s
 |_=>false
def n9(fn:Func):Nat:=Nat.succ (Nat.div (Nat.log2 fn.ntmps) 3)
def Xp(P:Program)(eq:PM σ)(tbl:List (Rw σ))(dirty:Nat->List Nat)(lim:Nat)(fn:Func)(c:Code)(args:List Value)(b:Value)(F:Fct)(s:σ)(K:Value->Value->Fct->σ->Bool):Bool:=
 an (Nat.ble (Nat.succ args.length) fn.ntmps) (an (Nat.ble fn.ntmps (8^n9 fn)) (an (args.all fun x=>!isP x) (Lo (n9 fn) (ptr 0::args) 0 (Fw undef (n9 fn)) fun T=>(Bq 3 0).set (Fw [] 3) [b] fun M=>(l9 P true tbl (n9 fn) fn.ntmps 3 dirty lim eq c).run (AJc P fn (n9 fn) fn.ntmps 3 K) T 1 M F s)))
theorem Kf{eq:PM σ}(heq:UE I eq){tbl:List (Rw σ)}(hT:TOk P I tbl){dirty:Nat->List Nat}{n:Nat}(hm:P.follows .mixedOrders=true){f:Nat}{fn:Func}{c:Code}(hf:P.funcs[f]? =some fn)(hb:fn.body=some c)
    {args rest:List Value} {b:Value} {F:Fct} {s:σ} {K:Value->Value->Fct->σ->Bool} {bad:Bool} (h:Xp P eq tbl dirty n fn c args b F s K=true) (g:Aj (G2 τ) args rest) (gb:G0 τ b (.bool bad)) (hF:FctOk τ F) (hI:I τ s bad):
    ∃v bad' τ' t c' F' s',K t c' F' s'=true/\(∀u∈rest,isP u=false)/\isP v=false/\(∀b w,GW w->1<b->Fl b bad w->Calls P f (ptr b::rest).toArray w fun e w'=>e=.returned v/\Fl b bad' w'/\Ad b w w')/\Fj τ τ'/\G2 τ' t v/\G0 τ' c' (.bool bad')/\FctOk τ' F'/\I τ' s' bad':=by
 unfold Xp at h
 simp only[Bu]at h
 obtain⟨hl,hn,ha,h⟩:=h
 have hl:=Zn hl
 have hn:=Zn hn
 have hp:=noP ha g
 have gl:=g.len
 obtain⟨T0,h,hT0⟩:=Lp hn (ptr 0::args) [] (fn.ntmps-(ptr 0::args).length) _ _ h (by rw[Zac,List.length_nil];omega) (by rw[N2,Zac,Zai];congr 1;omega)
 rw[CC]at h
 have hM:toL 3 1 (setT 3 (Fw ([]:List Value) 3) 0 [b])=[[b]]:=by
  rw[toL_set _ _ (by omega) (by omega),N2]
  rfl
 have M0:GM τ [[b]] [[.bool bad]]:=⟨rfl,fun k l hl=>by
  match k,hl with
  |0,hl=>cases hl;exact⟨_,rfl,gb,trivial⟩⟩
 have R0:Dt I true (n9 fn) fn.ntmps 3 τ T0 1 (setT 3 (Fw ([]:List Value) 3) 0 [b]) F s ((ptr 0::rest)++Zt (fn.ntmps-(ptr 0::rest).length) undef) [[.bool bad]]:=
  ⟨by rw[hT0,Zai];exact GF.start (sa:=ptr 0::args) (vs:=ptr 0::rest) ⟨⟨rfl,rfl⟩,g⟩ fn.ntmps,by rw[hM];exact M0,by omega,hF,fun _=>⟨bad,rfl,hI⟩⟩
 obtain⟨e,vt,m,τ1,T1,nb1,M1,F1,s1,h1,hx,R1,hs⟩:=Akh (hT:=hT) hn heq c _ τ _ _ _ F s _ _ h R0
 obtain⟨b',i1,i2⟩:=R1.iv rfl
 have chk:Atl P fn (n9 fn) fn.ntmps 3 K T1 nb1 M1 F1 s1=true/\∀Post,Bz P fn Post e vt m↔(match Up P fn vt m with
     |some v=>Post v m
     |none=>False):=by
  unfold AJc at h1
  split at h1
  ·exact⟨h1,fun _=>Iff.rfl⟩
  ·exact⟨h1,fun _=>Iff.rfl⟩
  ·cases h1
 obtain⟨hc,hret⟩:=chk
 unfold Atl at hc
 rw[Bu]at hc
 have hnb:=Zn hc.1
 obtain⟨t,ht,hc⟩:=n8 hc.2
 rw[CB]at hc
 split at hc
 ·rename_i c' hrow
  rw[Bu,Zak]at hc
  obtain⟨v,hv,gv⟩:=US R1.gf R1.gm ht
  have hflag:Ck m=some b':=by
   match m,i1 with
   |l::_,i1=>
    have:l=[.bool b']:=by simpa using i1
    rw[this]
    rfl
  have gl:=R1.gm.get (show(toL 3 nb1 M1)[0]? =some [c']by rw[Cr hnb,hrow]) i1
  exact⟨v,b',τ1,t,c',F1,s1,hc.2,hp,by rw[gv.isP];exact hc.1,Xn hm hf hb hp (hs _ ((hret _).2 (by rw[hv];exact⟨rfl,hflag⟩))),hx.1,gv,gl.1,R1.ff,i2⟩
 ·cases hc
def Atm(P:Program)(fn:Func)(d n e:Nat)(K:Value->Fct->Bool):AK d e σ:=fun T nb M F _=>ACv P fn d n e T nb M fun t=>an (!isP t) (K t F)
def AJd(P:Program)(fn:Func)(d n e:Nat)(K:Value->Fct->Bool):AQ d e σ:=fun x T nb M F s=>
 match x with
 | .normal=>Atm P fn d n e K T nb M F s
 | .ret=>Atm P fn d n e K T nb M F s
 |_=>false
def Akk(P:Program)(eq:PM σ)(tbl:List (Rw σ))(dirty:Nat->List Nat)(lim:Nat)(fn:Func)(c:Code)(args:List Value)(F:Fct)(s:σ)(K:Value->Fct->Bool):Bool:=
 an (Nat.ble args.length fn.ntmps) (an (Nat.ble fn.ntmps (8^n9 fn)) (an (args.all fun x=>!isP x) (Lo (n9 fn) args 0 (Fw undef (n9 fn)) fun T=>(l9 P false tbl (n9 fn) fn.ntmps 3 dirty lim eq c).run (AJd P fn (n9 fn) fn.ntmps 3 K) T 0 (Fw [] 3) F s)))
theorem Sd{eq:PM σ}(heq:UE I eq){tbl:List (Rw σ)}(hT:TOk P I tbl){dirty:Nat->List Nat}{n:Nat}(hm:P.follows .mixedOrders=true){f:Nat}{fn:Func}{c:Code}(hf:P.funcs[f]? =some fn)(hb:fn.body=some c)
    {args rest:List Value} {F:Fct} {s:σ} {K:Value->Fct->Bool} (h:Akk P eq tbl dirty n fn c args F s K=true) (g:Aj (G2 τ) args rest) (hF:FctOk τ F):
    ∃v t F',K t F'=true/\(∀u∈rest,isP u=false)/\isP v=false/\(∀w,GW w->Calls P f rest.toArray w fun e w'=>e=.returned v/\Below w.heap.size w w')/\G2 τ t v/\FctOk τ F':=by
 unfold Akk at h
 simp only[Bu]at h
 obtain⟨hl,hn,ha,h⟩:=h
 have hl:=Zn hl
 have hn:=Zn hn
 have hp:=noP ha g
 obtain⟨T0,h,hT0⟩:=Lp hn args [] (fn.ntmps-args.length) _ _ h (by rw[List.length_nil];omega) (by rw[N2,Zai];congr 1;omega)
 have R0:Dt I false (n9 fn) fn.ntmps 3 τ T0 0 (Fw ([]:List Value) 3) F s (rest++Zt (fn.ntmps-rest.length) undef) []:=
  ⟨by rw[hT0,Zai];exact GF.start g fn.ntmps,⟨rfl,fun k l hl=>(by cases hl)⟩,by omega,hF,fun e=>by cases e⟩
 obtain⟨e,vt,m,τ1,T1,nb1,M1,F1,s1,h1,hx,R1,hs⟩:=Akh (hT:=hT) hn heq c _ τ _ _ _ F s _ _ h R0
 obtain rfl:=hx.2 rfl
 have chk:Atm P fn (n9 fn) fn.ntmps 3 K T1 nb1 M1 F1 s1=true/\∀Post,Bz P fn Post e vt m↔(match Up P fn vt m with
     |some v=>Post v m
     |none=>False):=by
  unfold AJd at h1
  split at h1
  ·exact⟨h1,fun _=>Iff.rfl⟩
  ·exact⟨h1,fun _=>Iff.rfl⟩
  ·cases h1
 obtain⟨hc,hret⟩:=chk
 unfold Atm at hc
 obtain⟨t,ht,hc⟩:=n8 hc
 rw[Bu,Zak]at hc
 obtain⟨v,hv,gv⟩:=US R1.gf R1.gm ht
 exact⟨v,t,F1,hc.2,hp,by rw[gv.isP];exact hc.1,pure_calls hm hf hb hp (hs _ ((hret _).2 (by rw[hv]))),gv,R1.ff⟩
end
theorem Xq{P:Program}:∀(a b:Nat) (m m1 m2:Machine),runN P a m=.next m1->runN P (a+b) m=.next m2->runN P b m1=.next m2
 |0,b,m,m1,m2,h,k=>by
  simp only[runN,Stepped.next.injEq]at h
  subst h
  rw[Nat.zero_add]at k
  exact k
 |a+1,b,m,m1,m2,h,k=>by
  rw[Nat.add_right_comm]at k
  simp only[runN]at h k
  cases hs:step P m with
  |next x=>rw[hs]at h k;exact Xq a b x m1 m2 h k
  |_=>rw[hs]at h;cases h
theorem UU{P:Program}{m m2:Machine}{o:Outcome}{w:World}(h:step P m=.ended o w):∀{b:Nat},runN P b m=.next m2->m=m2
 |0,k=>by simpa [runN]using k
 |b+1,k=>by
  simp only[runN,h]at k
  cases k
theorem Xr{P:Program}{f:Nat}{args:Array Value}{w:World}{R S:Ending->World->Prop}(hi:P.inits.idxOf? f=none)(h:Calls P f args w R)(k:Calls P f args w S)(hR:∀e w',R e w'->∃v,e=.returned v)(hS:∀e w',S e w'->∃v,e=.returned v):
    ∃e w',R e w'/\S e w':=by
 obtain⟨e1,w1,fr1,h1,c1,f1,l1⟩:=h []
 obtain⟨e2,w2,fr2,h2,c2,f2,l2⟩:=k []
 obtain⟨v1,rfl⟩:=hR _ _ h1
 obtain⟨v2,rfl⟩:=hS _ _ h2
 obtain⟨n1,r1⟩:=c1
 obtain⟨n2,r2⟩:=c2
 have s1:=step_leave_done l1 (by rw[f1];exact hi)
 have s2:=step_leave_done l2 (by rw[f2];exact hi)
 have e:lone fr1 [] w1=lone fr2 [] w2:=by
  rcases Nat.le_total n1 n2 with hn |hn
  ·obtain⟨d,rfl⟩:=Nat.le.dest hn
   exact UU s1 (Xq n1 d _ _ _ r1 r2)
  ·obtain⟨d,rfl⟩:=Nat.le.dest hn
   exact(UU s2 (Xq n2 d _ _ _ r2 r1)).symm
 unfold lone at e
 simp only[Machine.mk.injEq,Array.mk.injEq,List.cons.injEq,Goroutine.mk.injEq,and_true]at e
 obtain⟨rfl,rfl⟩:=e
 obtain⟨_,_,_,fn,hf,hr⟩:=l1
 obtain⟨_,_,_,fn',hf',hr'⟩:=l2
 rw[hf]at hf'
 cases hf'
 rw[hr]at hr'
 simp only[Result.ok.injEq,and_true]at hr'
 subst hr'
 exact⟨_,_,h1,h2⟩
def Atn:Value->Bool
 | .bool _=>true
 |t=>detI t
def Ato:Value->Bool
 | .agg cs=>cs.toList.all Atn
 |t=>Atn t
def MF:Value->Bool
 | .tuple ⟨a::b::r⟩=>(a::b::r).all Ato
 |t=>Ato t
def Ad8(p:Value->Value->Bool):List Value->List Value->Bool
 |[],[]=>true
 |a::l,b::m=>p a b&&Ad8 p l m
 |_,_=>false
def Atp:Value->Value->Bool
 | .agg cs,.agg ds=>Ad8 Uu cs.toList ds.toList
 |a,b=>Uu a b
def Akl:Value->Value->Bool
 | .tuple ⟨a::b::r⟩,.tuple ⟨c::d::q⟩=>Ad8 Atp (a::b::r) (c::d::q)
 |a,b=>Atp a b
theorem MV{p:Value->Value->Bool}(hp:∀a b,p a b=true->a=b):∀{l m:List Value},Ad8 p l m=true->l=m
 |[],[],_=>rfl
 |a::l,b::m,h=>by
  simp only[Ad8,Zm]at h
  rw[hp a b h.1,MV hp h.2]
 |[],_::_,h=>by cases h
 |_::_,[],h=>by cases h
theorem p7(a b:Value)(h:Atp a b=true):a=b:=by
 unfold Atp at h
 split at h
 ·rename_i cs ds
  have e:=MV (fun _ _=>Dh) h
  match cs,ds,e with
  |⟨l⟩,⟨m⟩,e=>exact congrArg (fun x=>Value.agg ⟨x⟩) e
 ·exact Dh h
theorem Se(a b:Value)(h:Akl a b=true):a=b:=by
 unfold Akl at h
 split at h
 ·rw[MV p7 h]
 ·exact p7 _ _ h
section
variable {τ:List Int}
theorem ACw{t v w:Value}(h:detI t=true)(h1:G0 τ t v)(h2:G0 τ t w):v=w:=by
 obtain⟨a,rfl,ga⟩:=B9 h h1.g2
 obtain⟨b,rfl,gb⟩:=B9 h h2.g2
 rw[Cz h ga gb]
theorem Akm{t v w:Value}(h:Atn t=true)(h1:G0 τ t v)(h2:G0 τ t w):v=w:=by
 unfold Atn at h
 split at h
 ·rename_i b
  have e1:=h1.1
  have e2:=h2.1
  exact e1.trans e2.symm
 ·exact ACw h h1 h2
theorem Aj.one{R:Value->Value->Prop}{p:Value->Bool}(hp:∀t v w,p t=true->R t v->R t w->v=w):∀{l m k:List Value},l.all p=true->Aj R l m->Aj R l k->m=k
 |[],[],[],_,_,_=>rfl
 |t::l,v::m,w::k,h,h1,h2=>by
  simp only[Zaa,Zm]at h
  rw[hp t v w h.1 h1.1 h2.1,Aj.one hp h.2 h1.2 h2.2]
 |[],_::_,_,_,h1,_=>h1.elim
 |[],[],_::_,_,_,h2=>h2.elim
 |_::_,[],_,_,h1,_=>h1.elim
 |_::_,_::_,[],_,_,h2=>h2.elim
theorem Akn(t v w:Value)(h:Ato t=true)(h1:G1 τ t v)(h2:G1 τ t w):v=w:=by
 unfold Ato at h
 split at h
 ·obtain⟨l,rfl,hl⟩:=h1
  obtain⟨m,rfl,hm⟩:=h2
  rw[Aj.one (R:=G0 τ) (fun _ _ _=>Akm) h hl hm]
 ·rename_i hn
  exact Akm h (h1.g0of hn) (h2.g0of hn)
theorem Ako(t v w:Value)(h:MF t=true)(h1:G2 τ t v)(h2:G2 τ t w):v=w:=by
 unfold MF at h
 split at h
 ·obtain⟨l,rfl,hl⟩:=h1
  obtain⟨m,rfl,hm⟩:=h2
  rw[Aj.one (R:=G1 τ) (Akn) h hl hm]
 ·rename_i hn
  exact Akn _ _ _ h (h1.g1of hn) (h2.g1of hn)
theorem ACx{l m k:List Value}(h:l.all MF=true)(h1:Aj (G2 τ) l m)(h2:Aj (G2 τ) l k):m=k:=Aj.one (R:=G2 τ) Ako h h1 h2
def isU:Value->Bool
 | .tuple ⟨[.int .i64 (.ofNat _)]⟩=>true
 |_=>false
def Xs:Nat->Nat->List Value
 |_,0=>[]
 |b,n+1=>PL b::Xs (b+1) n
def Sf(t:Value)(b:Nat):Option (Value×Nat):=
 match t with
 | .agg cs=>(match cs.toList.all isU with
  |true=>some (.agg ⟨Xs b cs.toList.length⟩,b+cs.toList.length)
  |false=>none)
 | .int k x=>some (.int k x,b)
 |t=>(match isU t with
  |true=>some (PL b,b+1)
  |false=>none)
def N3:List Value->Nat->Option (List Value×Nat)
 |[],b=>some ([],b)
 | t::l,b=>(match Sf t b with
  |some (x,b')=>(match N3 l b' with
   |some (xs,b'')=>some (x::xs,b'')
   |none=>none)
  |none=>none)
def fresh(t:Value)(b:Nat):Option (Value×Nat):=
 match t with
 | .tuple ⟨x::y::r⟩=>(match N3 (x::y::r) b with
  |some (l,b')=>some (.tuple ⟨l⟩,b')
  |none=>none)
 |t=>Sf t b
theorem Akp{t v:Value}(h:isU t=true)(g:G0 [] t v):∃x,v=.int .i64 x:=by
 unfold isU at h
 split at h
 ·exact g
 ·cases h
theorem AJe{t v:Value}(h:isU t=true)(g:G1 [] t v):G0 [] t v:=by
 unfold isU at h
 split at h
 ·exact g
 ·cases h
theorem p8:∀{l m:List Value},l.all isU=true->Aj (G0 []) l m->∀τ:List Int,∃xs:List Int,xs.length=l.length/\∀more,Aj (G0 (τ++xs++more)) (Xs τ.length l.length) m
 |[],[],_,_,τ=>⟨[],rfl,fun _=>trivial⟩
 | t::l,v::m,h,g,τ=>by
  simp only[Zaa,Zm]at h
  obtain⟨x,rfl⟩:=Akp h.1 g.1
  obtain⟨xs,h1,h2⟩:=p8 h.2 g.2 (τ++[x])
  refine⟨x::xs,by rw[Zac,Zac,h1],fun more=>⟨⟨x,?_,rfl⟩,?_⟩⟩
  ·rw[Zq,Zs (Zaf _),Nat.sub_self]
   rfl
  ·have:=h2 more
   rw[Zae,Zq τ,Zq τ]at this
   rw[Zq]
   exact this
 |[],_::_,_,g,_=>g.elim
 |_::_,[],_,g,_=>g.elim
theorem QC{t v x:Value}{b':Nat}{τ:List Int}(h:Sf t τ.length=some (x,b'))(g:G1 [] t v):∃xs:List Int,b'=(τ++xs).length/\∀more,G1 (τ++xs++more) x v:=by
 unfold Sf at h
 split at h
 ·obtain⟨l,rfl,hl⟩:=g
  split at h
  ·rename_i hu
   cases h
   obtain⟨xs,h1,h2⟩:=p8 hu hl τ
   exact⟨xs,by rw[Zae,h1],fun more=>⟨l,rfl,h2 more⟩⟩
  ·cases h
 ·cases h
  exact⟨[],by simp,fun more=>⟨g.1,rfl⟩⟩
 ·split at h
  ·rename_i hu
   cases h
   obtain⟨x,rfl⟩:=Akp hu (AJe hu g)
   refine⟨[x],by simp,fun more=>⟨x,?_,rfl⟩⟩
   rw[Zq,Zs (Zaf _),Nat.sub_self]
   rfl
  ·cases h
theorem QD:∀{l m xs:List Value} {b':Nat} {τ:List Int},N3 l τ.length=some (xs,b')->Aj (G1 []) l m->∃ys:List Int,b'=(τ++ys).length/\∀more,Aj (G1 (τ++ys++more)) xs m
 |[],[],_,_,τ,h,_=>by
  cases h
  exact⟨[],by simp,fun _=>trivial⟩
 | t ::l,v::m,_,_,τ,h,g=>by
  unfold N3 at h
  split at h
  ·rename_i x b1 h1
   split at h
   ·rename_i xs b2 h2
    cases h
    obtain⟨ys,e1,k1⟩:=QC h1 g.1
    rw[e1]at h2
    obtain⟨zs,e2,k2⟩:=QD h2 g.2
    refine⟨ys++zs,by rw[e2,Zq],fun more=>⟨?_,?_⟩⟩
    ·have:=k1 (zs++more)
     simpa only[Zq]using this
    ·have:=k2 more
     simpa only[Zq]using this
   ·cases h
  ·cases h
 |[],_::_,_,_,_,_,g=>g.elim
 |_::_,[],_,_,_,_,g=>g.elim
theorem fresh_ok{t v x:Value}{b':Nat}{τ:List Int}(h:fresh t τ.length=some (x,b'))(g:G2 [] t v):∃xs:List Int,b'=(τ++xs).length/\G2 (τ++xs) x v:=by
 unfold fresh at h
 split at h
 ·split at h
  ·rename_i l b1 h1
   cases h
   obtain⟨m,rfl,hm⟩:=g
   obtain⟨ys,e1,k1⟩:=QD h1 hm
   refine⟨ys,e1,?_⟩
   have k:=k1 []
   rw[List.append_nil]at k
   match l,m,k with
   |[],[],_=>simp only[N3]at h1;split at h1<;>(try split at h1)<;>cases h1
   |[a],[b],k=>
    exfalso
    have:=hm.len
    simp at this
   |a::b::r,c::d::q,k=>exact⟨_,rfl,k⟩
   |[],_::_,k=>exact k.elim
   |_::_,[],k=>exact k.elim
   |[_],_::_::_,k=>exact k.2.elim
   |_::_::_,[_],k=>exact k.2.elim
  ·cases h
 ·rename_i hn
  have g1:=g.g1of hn
  obtain⟨xs,e1,k1⟩:=QC h g1
  have k:=k1 []
  rw[List.append_nil]at k
  exact⟨xs,e1,k.g2⟩
def Sg:List Value->Nat->Option (List Value×Nat)
 |[],b=>some ([],b)
 | t::l,b=>(match fresh t b with
  |some (x,b')=>(match Sg l b' with
   |some (xs,b'')=>some (x::xs,b'')
   |none=>none)
  |none=>none)
theorem QE:∀{l m xs:List Value} {b':Nat} {τ:List Int},Sg l τ.length=some (xs,b')->Aj (G2 []) l m->∃ys:List Int,b'=(τ++ys).length/\Aj (G2 (τ++ys)) xs m
 |[],[],_,_,τ,h,_=>by
  cases h
  exact⟨[],by simp,trivial⟩
 | t ::l,v::m,_,_,τ,h,g=>by
  unfold Sg at h
  split at h
  ·rename_i x b1 h1
   split at h
   ·rename_i xs b2 h2
    cases h
    obtain⟨ys,e1,k1⟩:=fresh_ok h1 g.1
    rw[e1]at h2
    obtain⟨zs,e2,k2⟩:=QE h2 g.2
    refine⟨ys++zs,by rw[e2,Zq],?_,?_⟩
    ·exact k1.ext ⟨zs,by rw[Zq]⟩
    ·rw[<-Zq]
     exact k2
   ·cases h
  ·cases h
 |[],_::_,_,_,_,_,g=>g.elim
 |_::_,[],_,_,_,_,g=>g.elim
end
def CallsOk(P:Program)(f:Nat)(b:Bool)(rest:List Value)(v:Value)(b':Bool):Prop:=
 (∀u∈rest,isP u=false)/\isP v=false/\∀k w,GW w->1<k->Fl k b w->Calls P f (ptr k::rest).toArray w fun e w'=>e=.returned v/\Fl k b' w'/\Ad k w w'
theorem Akq(P:Program)(bad:Bool):∃k w,GW w/\1<k/\Fl k bad w:=by
 have key:∀w0:World,w0.heap.size=0->∃k w,GW w/\1<k/\Fl k bad w:=fun w0 h0=>by
  have A0:=AH w0 0 (row 54 Eu) 0 h0.symm
  have z1:(w0.alloc (.cells (row 54 Eu).toArray 0)).heap.size=1:=by simp[h0]
  have A1:=AH (w0.alloc (.cells (row 54 Eu).toArray 0)) 1 (row 10 Gk) 0 z1.symm
  have z2:((w0.alloc (.cells (row 54 Eu).toArray 0)).alloc (.cells (row 10 Gk).toArray 0)).heap.size=2:=by simp[h0]
  have A2:=AH ((w0.alloc (.cells (row 54 Eu).toArray 0)).alloc (.cells (row 10 Gk).toArray 0)) 2 [.bool bad] 0 z2.symm
  have b1:Below 1 (w0.alloc (.cells (row 54 Eu).toArray 0)) ((w0.alloc (.cells (row 54 Eu).toArray 0)).alloc (.cells (row 10 Gk).toArray 0)):=(Below.refl _ _).alloc (by omega) _
  have b2:Below 2 ((w0.alloc (.cells (row 54 Eu).toArray 0)).alloc (.cells (row 10 Gk).toArray 0)) (((w0.alloc (.cells (row 54 Eu).toArray 0)).alloc (.cells (row 10 Gk).toArray 0)).alloc (.cells [Value.bool bad].toArray 0)):=(Below.refl _ _).alloc (by omega) _
  exact⟨2,_,⟨((A0.same (b1.block 0 (by omega)) b1.size).same (b2.block 0 (by omega)) b2.size),A1.same (b2.block 1 (by omega)) b2.size⟩,by omega,Hn A2⟩
 exact key {World.holding P default ⟨#[],#[],[]⟩with heap:=#[]} rfl
theorem CallsOk.det{P:Program}{f:Nat}(hi:P.inits.idxOf? f=none){b b1 b2:Bool}{rest:List Value}{v u:Value}(h:CallsOk P f b rest v b1)(k:CallsOk P f b rest u b2):v=u/\b1=b2:=by
 obtain⟨n,w,hg,h1,hw⟩:=Akq P b
 obtain⟨e,w',⟨rfl,f1,_⟩,⟨e2,f2,_⟩⟩:=Xr hi (h.2.2 n w hg h1 hw) (k.2.2 n w hg h1 hw) (fun _ _ x=>⟨_,x.1⟩) (fun _ _ x=>⟨_,x.1⟩)
 refine⟨by cases e2;rfl,?_⟩
 have:=f1.cell.symm.trans f2.cell
 simpa using this
def Si(kind:Nat)(g:Bool->Bool->List Value->Value×Bool):Prop:=
 (kind=1∨kind=2->∀d b x y,g d b [x,y]=g d b [y,x])/\
 (kind=1->∀d x,numB x=true->g d false [.int .i64 x,.int .i64 0]=(.int .i64 x,false))/\
 (kind=2->∀d x,numB x=true->g d false [.int .i64 x,.int .i64 0]=(.int .i64 0,false))/\
 (kind=1∨kind=2∨kind=3∨kind=6->∀d rest,(g d false rest).2=false->(∀x,Value.int .i64 x∈rest->numB x=true)/\∀x,(g d false rest).1=.int .i64 x->numB x=true)
def QF:Value->Bool
 | .int _ x=>numB x
 |_=>false
def Ad9:Value->Bool
 | .agg cs=>cs.toList.all QF
 |v=>QF v
def AAh:Value->Value
 | .tuple ⟨[.int k (.ofNat _)]⟩=>.int k 0
 | .tuple ⟨[.bool _]⟩=>.bool false
 |v=>v
def AAi:Value->Value
 | .agg cs=>.agg ⟨cs.toList.map AAh⟩
 |v=>AAh v
def N4:Value->Value
 | .tuple ⟨a::b::r⟩=>.tuple ⟨(a::b::r).map AAi⟩
 |v=>AAi v
def Sj(P:Program)(f:Nat)(rest:List Value)(v:Value):Prop:=(∀u∈rest,isP u=false)/\isP v=false/\∀w,GW w->Calls P f rest.toArray w fun e w'=>e=.returned v/\Below w.heap.size w w'
def AAj(P:Program)(kind f:Nat)(b:Bool)(rest:List Value)(v:Value)(b':Bool):Prop:=(kind≠8->CallsOk P f b rest v b')/\(kind=8->Sj P f rest v/\b'=b)
def Xt(v:Value):Bool:=
 match v with
 | .int _ x=>Nat.ble x.natAbs 1099511627776
 |_=>false
def Aea:Value->Bool
 | .agg cs=>cs.toList.all Xt
 |v=>Xt v
def Aeb(kind:Nat)(g:Bool->Bool->List Value->Value×Bool):Prop:=
 (kind=1->∀d x y,(g d false [.int .i64 x,.int .i64 y]).2=false->(g d false [.int .i64 x,.int .i64 y]).1=.int .i64 (x+y))/\
 (kind=6->∀d x y,((g d false [.int .i64 x,.int .i64 y]).2=false->(g d false [.int .i64 x,.int .i64 y]).1=.int .i64 (x-y))/\(x.natAbs<=2305843009213693952->y.natAbs<=2305843009213693952->(g d false [.int .i64 x,.int .i64 y]).2=false))/\
 (kind=2->∀d x y,(g d false [.int .i64 x,.int .i64 y]).2=false->∃z,(g d false [.int .i64 x,.int .i64 y]).1=.int .i64 z/\z.natAbs*1099511627776<=x.natAbs*y.natAbs+1099511627776)
def p9(P:Program)(fn:Bool->Nat)(arr:List Value->List Value)(sa:List Value)(sr:Value)(kind:Nat)(g:Bool->Bool->List Value->Value×Bool):Prop:=
 (∀d b rest,Aj (G2 []) sa rest->AAj P kind (fn d) b (arr rest) (g d b rest).1 (g d b rest).2/\(b=true->(g d b rest).2=true)/\G2 [] sr (g d b rest).1/\(kind=4->Ad9 (g d b rest).1=true)/\(kind=1∨kind=2∨kind=3∨kind=6->(g d b rest).2=true->(g d b rest).1=.int .i64 0)/\(kind=5->(g d b rest).2=true->(g d b rest).1=N4 sr)/\(kind=7->(g d b rest).2=false->Aea (g d b rest).1=true))/\
 (∀rest,Aj (G2 []) sa rest->(g false false rest).2=(g true false rest).2/\((g false false rest).2=false->(g false false rest).1=(g true false rest).1))/\Si kind g/\Aeb kind g
abbrev BY(P:Program)(fn:Bool->Nat)(sa:List Value)(sr:Value)(kind:Nat)(g:Bool->Bool->List Value->Value×Bool):Prop:=p9 P fn (fun r=>r) sa sr kind g
def nn0(t:Value):Bool:=
 match Ur t with
 |some (0,_,_)=>true
 |some (1,_,_)=>true
 |none=>true
 |_=>false
def nn1:Value->Bool
 | .agg cs=>cs.toList.all nn0
 |t=>nn0 t
def TU:Value->Bool
 | .tuple ⟨a::b::r⟩=>(a::b::r).all nn1
 |t=>nn1 t
structure Pr(P:Program) where
 fn:Bool->Nat
 go:∀d (args:Array Value) (w:World),(callFunc (fn d) args).run P w=.ok (.enter (fn d) args) w
 sa:List Value
 sr:Value
 kind:Nat
 nn:(sa.all TU&&TU sr)=true
 arr:List Value->List Value
 same:kind≠9->∀r,arr r=r
 h:∃g,p9 P fn arr sa sr kind g
section
variable {P:Program} {τ τ':List Int}
theorem AAk{t v:Value}(h:nn0 t=true)(g:G0 τ t v):G0 τ' t v:=by
 unfold nn0 at h
 unfold G0 at g ⊢
 split at h
 ·rename_i e
  rw[e]at g ⊢
  exact g
 ·rename_i e
  rw[e]at g ⊢
  exact g
 ·rename_i e
  rw[e]at g ⊢
  exact g
 ·cases h
theorem nnL{R S:Value->Value->Prop}{p:Value->Bool}(hp:∀t v,p t=true->R t v->S t v):∀{l m:List Value},l.all p=true->Aj R l m->Aj S l m
 |[],[],_,_=>trivial
 |t::l,v::m,h,g=>by
  simp only[Zaa,Zm]at h
  exact⟨hp t v h.1 g.1,nnL hp h.2 g.2⟩
 |[],_::_,_,g=>g.elim
 |_::_,[],_,g=>g.elim
theorem AAl(t v:Value)(h:nn1 t=true)(g:G1 τ t v):G1 τ' t v:=by
 unfold nn1 at h
 split at h
 ·obtain⟨l,rfl,hl⟩:=g
  exact⟨l,rfl,nnL (R:=G0 τ) (S:=G0 τ') (fun _ _=>AAk) h hl⟩
 ·rename_i hn
  exact(AAk h (g.g0of hn)).g1
theorem Ht(t v:Value)(h:TU t=true)(g:G2 τ t v):G2 τ' t v:=by
 unfold TU at h
 split at h
 ·obtain⟨l,rfl,hl⟩:=g
  exact⟨l,rfl,nnL (R:=G1 τ) (S:=G1 τ') AAl h hl⟩
 ·rename_i hn
  exact(AAl _ _ h (g.g1of hn)).g2
theorem Pr.conf(pr:Pr P){rest:List Value}(h:Aj (G2 τ) pr.sa rest):Aj (G2 τ') pr.sa rest:=by
 have:=pr.nn
 rw[Zm]at this
 exact nnL (R:=G2 τ) (S:=G2 τ') Ht this.1 h
theorem Pr.res(pr:Pr P){v:Value}(h:G2 τ pr.sr v):G2 τ' pr.sr v:=by
 have:=pr.nn
 rw[Zm]at this
 exact Ht _ _ this.2 h
end
abbrev Nd:=Nat×List Value×Value
section
variable {P:Program} {τ:List Int}
def Fz(prs:List (Pr P))(d:Bool)(τ:List Int)(nd:Nd):Prop:=
 ∃pr rest,prs[nd.1]? =some pr/\Aj (G2 τ) nd.2.1 rest/\Aj (G2 []) pr.sa rest/\(Classical.choose pr.h d false rest).2=false/\G2 τ nd.2.2 (Classical.choose pr.h d false rest).1
theorem Fz.ext{prs:List (Pr P)}{d:Bool}{τ':List Int}(hx:Fj τ τ'){nd:Nd}(h:Fz prs d τ nd):Fz prs d τ' nd:=
 let ⟨pr,rest,h1,h2,h3,h4,h5⟩:=h
 ⟨pr,rest,h1,h2.imp fun _ _ k=>k.ext hx,h3,h4,h5.ext hx⟩
def Xu(prs:List (Pr P))(τ:List Int)(nd:Nd):Prop:=∀pr,prs[nd.1]? =some pr->pr.kind=1∨pr.kind=2∨pr.kind=3∨pr.kind=6->∀i,nd.2.2=PL i->∃x,τ[i]? =some x/\numB x=true
theorem Xu.ext{prs:List (Pr P)}{τ':List Int}(hx:Fj τ τ'){nd:Nd}(h:Xu prs τ nd):Xu prs τ' nd:=fun pr h1 h2 i h3=>
 let ⟨x,e,hb⟩:=h pr h1 h2 i h3
 ⟨x,hx.at e,hb⟩
def UV:List Value->Fct
 |[]=>[]
 |c::l=>(match c with
  | .tuple ⟨[.float .f64 i]⟩=>(2,PL i,.int .i64 (-4611686018427387904),false)::(2,.int .i64 4611686018427387904,PL i,false)::UV l
  |_=>UV l)
def Xv(k:Nat)(r:Value)(F:Fct):Fct:=
 match k with
 |4=>(match r with
  | .agg ⟨l⟩=>UV l++F
  |_=>F)
 |_=>F
theorem UW:∀{l m:List Value},Aj (G0 τ) l m->m.all QF=true->FctOk τ (UV l)
 |[],[],_,_=>fun f hf=>by cases hf
 | c::l,v::m,g,h=>by
  rw[Zaa,Zm]at h
  have ih:=UW g.2 h.2
  unfold UV
  split
  ·rename_i i
   obtain⟨x,e,ev⟩:=g.1
   rw[ev]at h
   have b:=Bh (show numB x=true from h.1)
   intro f hf
   rcases Zy.1 hf with rfl |hf
   ·exact⟨x,_,⟨x,e,rfl⟩,⟨rfl,rfl⟩,by show decide (x< -4611686018427387904)=false;simp;omega⟩
   ·rcases Zy.1 hf with rfl |hf
    ·exact⟨_,x,⟨rfl,rfl⟩,⟨x,e,rfl⟩,by show decide (4611686018427387904<x)=false;simp;omega⟩
    ·exact ih f hf
  ·exact ih
 |[],_::_,g,_=>g.elim
 |_::_,[],g,_=>g.elim
theorem Aec{k:Nat}{r v:Value}{F:Fct}(hF:FctOk τ F)(g:G2 τ r v)(h:k=4->Ad9 v=true):FctOk τ (Xv k r F):=by
 unfold Xv
 split
 ·split
  ·obtain⟨l,rfl,gl⟩:=g
   intro f hf
   rcases List.mem_append.1 hf with hf |hf
   ·exact UW gl (h rfl) f hf
   ·exact hF f hf
  ·exact hF
 ·exact hF
def TV(prs:List (Pr P))(d:Bool)(τ:List Int)(s:Nat×List Nd)(b:Bool):Prop:=τ.length=s.1/\(b=false->∀nd∈s.2,Fz prs d τ nd)/\∀nd∈s.2,Xu prs τ nd
def Sk(k:Nat):Bool:=
 match k with
 |8=>false
 |9=>false
 |_=>true
theorem ACz{k:Nat}(h:Sk k=true):k≠9:=fun e=>by
 subst e
 cases h
theorem AC0{k:Nat}(h:Sk k=true):k≠8:=fun e=>by
 subst e
 cases h
def AC1{P:Program}(pr:Pr P):Value:=
 match pr.kind with
 |1=>.int .i64 0
 |2=>.int .i64 0
 |3=>.int .i64 0
 |6=>.int .i64 0
 |_=>pr.sr
theorem Atr(pr:Pr P){v:Value}(hr:G2 [] pr.sr v)(hz:pr.kind=1∨pr.kind=2∨pr.kind=3∨pr.kind=6->v=.int .i64 0):G2 τ (AC1 pr) v:=by
 unfold AC1
 split
 ·rename_i e
  rw[hz (.inl e)]
  exact AY rfl
 ·rename_i e
  rw[hz (.inr (.inl e))]
  exact AY rfl
 ·rename_i e
  rw[hz (.inr (.inr (.inl e)))]
  exact AY rfl
 ·rename_i e
  rw[hz (.inr (.inr (.inr e)))]
  exact AY rfl
 ·exact pr.res hr
def AC2{P:Program}(pr:Pr P)(d:Bool)(p:Nat):Rw (Nat×List Nd) where
 fn:=pr.fn d
 flow:=true
 run:=fun _ args c F s K=>Sk pr.kind&&Gs W5 args pr.sa&&(match c with
  | .bool true=>K (AC1 pr) (.bool true) F s
  | c=>DD c&&(match s with
   |(n0,D)=>nN n0 fun n0=>(match fresh pr.sr n0 with
    |some (r,n)=>nN n fun n=>n2 r fun r=>K r unkB (Xv pr.kind r F) (n,(p,args,r)::D)
    |none=>false)))
theorem Ats{prs:List (Pr P)}(d:Bool){p:Nat}{pr:Pr P}(hp:prs[p]? =some pr):RwOk P (TV prs d) (AC2 pr d p) where
 go:=pr.go d
 okF := fun _ {args rest c F s K τ bad} h ga gc hF hI=>by
  dsimp only[AC2]at h
  obtain⟨s1,s2⟩:=s
  simp only[CE,J8]at h
  rw[Zm,Zm]at h
  have hc:Aj (G2 []) pr.sa rest:=pr.conf (FI h.1.2 ga)
  obtain⟨hcl,hst,hr,hnum,hz,_⟩:=(Zo pr.h).1 d bad rest hc
  have hkl:=(Zo pr.h).2.2.1.2.2.2
  rw[pr.same (ACz h.1.1)]at hcl
  obtain⟨q1,q2,q3⟩:=hcl.1 (AC0 h.1.1)
  have h2:=h.2
  split at h2
  ·have e:=gc.1
   cases e
   have hst:=hst rfl
   exact⟨_,_,τ,_,_,F,(s1,s2),h2,q1,q2,q3,Fj.refl _,Atr pr hr (fun k=>hz k hst),by rw[hst];exact⟨rfl,rfl⟩,hF,hI.1,fun e=>(by rw[hst]at e;cases e),hI.2.2⟩
  ·rw [Zm]at h2
   obtain⟨_,h2⟩:=h2
   split at h2
   ·rename_i r n hf
    have hl:τ.length=s1:=hI.1
    rw[<-hl]at hf
    obtain⟨xs,e1,gr⟩:=fresh_ok hf hr
    have hx:Fj τ (τ++xs):=⟨xs,rfl⟩
    refine⟨_,_,τ++xs,_,_,_,_,h2,q1,q2,q3,hx,gr,⟨_,rfl⟩,Aec (hF.ext hx) gr hnum,e1.symm,fun e nd hnd=>?_,fun nd hnd=>?_⟩
    ·cases bad with
     |true=>
      rw[hst rfl]at e
      cases e
     |false=>
      rcases Zy.1 hnd with rfl |hnd
      ·exact⟨pr,rest,hp,ga.imp fun _ _ k=>k.ext hx,hc,e,gr⟩
      ·exact(hI.2.1 rfl nd hnd).ext hx
    ·rcases Zy.1 hnd with rfl |hnd
     ·intro pr' hp' hk i hi
      have hp':prs[p]? =some pr':=hp'
      rw[hp]at hp'
      cases hp'
      have hi:r=PL i:=hi
      subst hi
      obtain⟨x,e,ev⟩:=gr
      refine⟨x,e,?_⟩
      cases hb:(Classical.choose pr.h d bad rest).2 with
      |true=>
       have e0:=hz hk hb
       rw[ev]at e0
       cases e0
       decide
      | false=>
       have:bad=false:=by
        cases bad with
        |false=>rfl
        |true=>rw[hst rfl]at hb;cases hb
       subst this
       exact(hkl hk d rest hb).2 x ev
     ·exact(hI.2.2 nd hnd).ext hx
   ·cases h2
 okP:=fun e=>by cases e
def IB{σ:Type}(f:Nat):Rw σ where
 fn:=f
 flow:=true
 run:=fun _ args _ F s K=>(match args with
  |[]=>K undef (.bool true) F s
  |_=>false)
theorem Gw{σ:Type}{I:List Int->σ->Bool->Prop}{f:Nat}(go:∀(args:Array Value) (w:World),(callFunc f args).run P w=.ok (.enter f args) w)(hI:∀τ s b,I τ s b->I τ s true)(h:∀b,CallsOk P f b [] undef true):RwOk P I (IB f) where
 go:=go
 okF:=fun _ {args rest c F s K τ bad} hr ga gc hF hs=>by
  dsimp only[IB]at hr
  split at hr
  ·match rest,ga with
   |[],_=>
    obtain⟨q1,q2,q3⟩:=h bad
    exact⟨_,_,τ,_,_,F,s,hr,q1,q2,q3,Fj.refl _,AY rfl,⟨rfl,rfl⟩,hF,hI _ _ _ hs⟩
  ·cases hr
 okP:=fun e=>by cases e
def s7:List Nd->Nat->List Value->Option Value
 |[],_,_=>none
 |(p,a,r)::l,q,args=>(match Nat.beq p q&&Ad8 Akl a args with
  |true=>some r
  |false=>s7 l q args)
theorem UX:∀{l:List Nd} {p:Nat} {args:List Value} {r:Value},s7 l p args=some r->(p,args,r)∈l
 |[],_,_,_,h=>by cases h
 | (q,a,u)::l,p,args,r,h=>by
  unfold s7 at h
  split at h
  ·rename_i e
   rw[Zm]at e
   have e1:=Zab e.1
   have e2:=MV Se e.2
   cases h
   rw[e1,e2]
   exact Zaj
  ·exact List.mem_cons_of_mem _ (UX h)
abbrev Tb:=Nat×Tr (List Nd) 2
def hv(v:Value):Nat:=
 match v with
 | .tuple ⟨[.float .f64 i]⟩=>Nat.mod i 64
 | .tuple ⟨[.agg ⟨_::.float .f64 i::_⟩]⟩=>Nat.mod i 64
 | .agg ⟨.tuple ⟨[.float .f64 i]⟩::_⟩=>Nat.mod i 64
 |_=>0
def hk(args:List Value):Nat:=
 match args with
 |v::_=>hv v
 |[]=>0
theorem AAm(args:List Value):hk args<64:=by
 unfold hk
 split
 ·unfold hv
  split<;>first |exact Nat.mod_lt _ (by decide)|decide
 ·decide
def Kg(s:Tb)(p:Nat)(args:List Value):Option Value:=s7 (getT 2 s.2 (hk args)) p args
def Lq(prs:List (Pr P))(d:Bool)(τ:List Int)(s:Tb):Prop:=(∀i,i<64->∀e∈getT 2 s.2 i,Fz prs d τ e)/\∀i,s.1.testBit i=true->∃a,τ[i]? =some a/\numB a=true
theorem Hu{prs:List (Pr P)}{d:Bool}{s:Tb}(hs:Lq prs d τ s){p:Nat}{args:List Value}{r:Value}(h:Kg s p args=some r):Fz prs d τ (p,args,r):=hs.1 _ (AAm args) _ (UX h)
def QG(F:Fct)(m:Nat)(x:Value):Bool:=
 match x with
 | .int _ a=>numB a
 |x=>(match x with
  | .tuple ⟨[.float .f64 i]⟩=>Nat.testBit m i
  |_=>false)||(match Li F 2 x (.int .i64 (-4611686018427387904)),Li F 2 (.int .i64 4611686018427387904) x with
  |some false,some false=>true
  |_,_=>false)
def isZ:Value->Bool
 | .int .i64 x=>decide (x=0)
 |_=>false
def s8(ks:List Nat)(F:Fct)(m:Nat)(p:Nat)(args:List Value):Option Value:=
 match ks[p]?,args with
 | some 1,[x,y]=>(match isZ y&&detI x&&QG F m x with
  |true=>some x
  |false=>(match isZ x&&detI y&&QG F m y with
   |true=>some y
   |false=>none))
 | some 2,[x,y]=>(match isZ y&&detI x&&QG F m x with
  |true=>some y
  |false=>(match isZ x&&detI y&&QG F m y with
   |true=>some x
   |false=>none))
 |_,_=>none
def AAn(ks:List Nat)(s:Tb)(p:Nat)(args:List Value):Option Value:=
 match ks[p]?,args with
 |some 1,[x,y]=>Kg s p [y,x]
 |some 2,[x,y]=>Kg s p [y,x]
 |_,_=>none
def lookC(ks:List Nat)(F:Fct)(s:Tb)(p:Nat)(args:List Value):Option Value:=
 match Kg s p args with
 |some r=>some r
 |none=>(match AAn ks s p args with
  |some r=>some r
  |none=>s8 ks F s.1 p args)
def Kh(x:Value):Nat:=
 match x with
 | .tuple ⟨[.float .f64 i]⟩=>Nat.shiftLeft 1 i
 |_=>0
def UY:List Value->Nat
 |[]=>0
 |x::l=>Nat.lor (Kh x) (UY l)
def Akr(ks:List Nat)(nd:Nd)(m:Nat):Nat:=
 match ks[nd.1]? with
 |some 1=>Nat.lor (Nat.lor (UY nd.2.1) (Kh nd.2.2)) m
 |some 2=>Nat.lor (Nat.lor (UY nd.2.1) (Kh nd.2.2)) m
 |some 3=>Nat.lor (Nat.lor (UY nd.2.1) (Kh nd.2.2)) m
 |some 6=>Nat.lor (Nat.lor (UY nd.2.1) (Kh nd.2.2)) m
 |_=>m
theorem Sp{x:Value}{i:Nat}(h:(Kh x).testBit i=true):x=PL i:=by
 unfold Kh at h
 split at h
 ·rename_i j
  have e:Nat.shiftLeft 1 j=2^j:=Nat.one_shiftLeft j
  rw[e,Nat.testBit_two_pow,decide_eq_true_eq]at h
  subst h
  rfl
 ·rw[Nat.zero_testBit]at h
  cases h
theorem s9:∀{l:List Value} {i:Nat},(UY l).testBit i=true->PL i∈l
 |[],i,h=>by
  have h:Nat.testBit 0 i=true:=h
  rw[Nat.zero_testBit]at h
  cases h
 | x::l,i,h=>by
  have h:(Kh x|||UY l).testBit i=true:=h
  rw[Nat.testBit_or,Zx]at h
  rcases h with h |h
  ·rw[Sp h]
   exact Zaj
  ·exact List.mem_cons_of_mem _ (s9 h)
theorem t7{prs:List (Pr P)}{d:Bool}{nd:Nd}(hn:Fz prs d τ nd){m:Nat}(hm:∀i,m.testBit i=true->∃a,τ[i]? =some a/\numB a=true){i:Nat}(h:(Akr (prs.map (·.kind)) nd m).testBit i=true):∃a,τ[i]? =some a/\numB a=true:=by
 obtain⟨pr,rest,h1,h2,h3,h4,h5⟩:=hn
 have own:(pr.kind=1∨pr.kind=2∨pr.kind=3∨pr.kind=6)->((UY nd.2.1|||Kh nd.2.2)|||m).testBit i=true->∃a,τ[i]? =some a/\numB a=true:=fun hk h=>by
  obtain⟨n1,n2⟩:=(Zo pr.h).2.2.1.2.2.2 hk d rest h4
  rw[Nat.testBit_or,Zx,Nat.testBit_or,Zx]at h
  rcases h with (h |h)|h
  ·obtain⟨j,hj,hyj⟩:=List.mem_iff_getElem.1 (s9 h)
   obtain⟨v,hv,b,e,gb⟩:=h2.get j (PL i) (by rw[Zr hj,hyj])
   subst gb
   exact⟨b,e,n1 b (Zag hv)⟩
  ·have e1:=Sp h
   rw[e1]at h5
   obtain⟨b,e,gb⟩:=h5
   exact⟨b,e,n2 b gb⟩
  ·exact hm i h
 have hk:(prs.map (·.kind))[nd.1]? =some pr.kind:=by rw[Zz,h1];rfl
 unfold Akr at h
 rw[hk]at h
 split at h
 ·rename_i e
  exact own (.inl (Option.some.inj e)) h
 ·rename_i e
  exact own (.inr (.inl (Option.some.inj e))) h
 ·rename_i e
  exact own (.inr (.inr (.inl (Option.some.inj e)))) h
 ·rename_i e
  exact own (.inr (.inr (.inr (Option.some.inj e)))) h
 ·exact hm i h
def AJf(ks:List Nat)(nd:Nd)(s:Tb):Tb:=(Akr ks nd s.1,setT 2 s.2 (hk nd.2.1) (nd::getT 2 s.2 (hk nd.2.1)))
def Aks(ks:List Nat)(nd:Nd)(s:Tb)(K:Tb->Bool):Bool:=nN (Akr ks nd s.1) fun m=>(Bq 2 (hk nd.2.1)).get s.2 fun l=>(Bq 2 (hk nd.2.1)).set s.2 (nd::l) fun t=>K (m,t)
theorem Sr(ks:List Nat)(nd:Nd)(s:Tb)(K:Tb->Bool):Aks ks nd s K=K (AJf ks nd s):=by
 unfold Aks
 rw[CE,CB,CC]
 rfl
theorem Lq.add{prs:List (Pr P)}{d:Bool}{s:Tb}(hs:Lq prs d τ s){nd:Nd}(hn:Fz prs d τ nd):Lq prs d τ (AJf (prs.map (·.kind)) nd s):=by
 refine⟨fun i hi e he=>?_,fun i hi=>t7 hn hs.2 hi⟩
 have he:e∈getT 2 (setT 2 s.2 (hk nd.2.1) (nd::getT 2 s.2 (hk nd.2.1))) i:=he
 rw[J7 2 s.2 (hk nd.2.1) i _ (AAm _) hi]at he
 split at he
 ·rename_i e1
  rcases Zy.1 he with rfl |he
  ·exact hn
  ·rw[e1]at he
   exact hs.1 i hi e he
 ·exact hs.1 i hi e he
theorem Fz.use{prs:List (Pr P)}{d:Bool}{p:Nat}{args rest:List Value}{r:Value}{pr:Pr P}(h:Fz prs d τ (p,args,r))(hp:prs[p]? =some pr)(hd:args.all MF=true)(ga:Aj (G2 τ) args rest):(Classical.choose pr.h d false rest).2=false/\G2 τ r (Classical.choose pr.h d false rest).1:=by
 obtain⟨pr',rest',h1,h2,h3,h4,h5⟩:=h
 have h1:prs[p]? =some pr':=h1
 rw[hp]at h1
 cases h1
 rw[ACx hd ga h2]
 exact⟨h4,h5⟩
theorem Ss{x v:Value}(h:isZ x=true)(g:G2 τ x v):x=.int .i64 0/\v=.int .i64 0:=by
 unfold isZ at h
 split at h
 ·have:=of_decide_eq_true h
  subst this
  exact⟨rfl,g.int⟩
 ·cases h
theorem Ki{F:Fct}(hF:FctOk τ F){m:Nat}(hm:∀i,m.testBit i=true->∃a,τ[i]? =some a/\numB a=true){x:Value}(h:QG F m x=true)(hd:detI x=true){a:Int}(g:G0 τ x (.int .i64 a)):numB a=true:=by
 unfold QG at h
 split at h
 ·have:=g.1
  cases this
  exact h
 ·rw[Zx]at h
  rcases h with h |h
  ·split at h
   ·obtain⟨b,e,hb⟩:=hm _ h
    obtain⟨c,e2,hc⟩:=g
    rw[e]at e2
    cases e2
    cases hc
    exact hb
   ·cases h
  ·split at h
   ·rename_i e1 e2
    have b1:=IA hF e1 hd rfl g (show G0 τ (.int .i64 (-4611686018427387904)) (.int .i64 (-4611686018427387904))from⟨rfl,rfl⟩)
    have b2:=IA hF e2 rfl hd (show G0 τ (.int .i64 4611686018427387904) (.int .i64 4611686018427387904)from⟨rfl,rfl⟩) g
    have b1:decide (a< -4611686018427387904)=false:=b1
    have b2:decide (4611686018427387904<a)=false:=b2
    have b1:=of_decide_eq_false b1
    have b2:=of_decide_eq_false b2
    unfold numB
    simp only[Zm,decide_eq_true_eq]
    omega
   ·cases h
theorem UZ{prs:List (Pr P)}{d:Bool}{F:Fct}(hF:FctOk τ F){m:Nat}(hm:∀i,m.testBit i=true->∃a,τ[i]? =some a/\numB a=true){p:Nat}{args rest:List Value}{r:Value}{pr:Pr P}(h:s8 (prs.map (·.kind)) F m p args=some r)(hp:prs[p]? =some pr)(ga:Aj (G2 τ) args rest):
    (Classical.choose pr.h d false rest).2=false/\G2 τ r (Classical.choose pr.h d false rest).1:=by
 have hk:(prs.map (·.kind))[p]? =some pr.kind:=by rw[Zz,hp];rfl
 have hl:=(Zo pr.h).2.2.1
 unfold s8 at h
 split at h
 ·rename_i x y hk1
  rw[hk]at hk1
  have hk1:=Option.some.inj hk1
  match rest,ga with
  |[v,w],ga=>
  have hcm:=hl.1 (.inl hk1)
  split at h
  ·rename_i hz
   cases h
   simp only[Zm]at hz
   obtain⟨_,rfl⟩:=Ss hz.1.1 ga.2.1
   obtain⟨a,rfl,g0⟩:=B9 hz.1.2 ga.1
   rw[hl.2.1 hk1 d a (Ki hF hm hz.2 hz.1.2 g0)]
   exact⟨rfl,g0.g2⟩
  ·split at h
   ·rename_i hz
    cases h
    simp only[Zm]at hz
    obtain⟨_,rfl⟩:=Ss hz.1.1 ga.1
    obtain⟨a,rfl,g0⟩:=B9 hz.1.2 ga.2.1
    rw[hcm,hl.2.1 hk1 d a (Ki hF hm hz.2 hz.1.2 g0)]
    exact⟨rfl,g0.g2⟩
   ·cases h
 ·rename_i x y hk1
  rw[hk]at hk1
  have hk1:=Option.some.inj hk1
  match rest,ga with
  |[v,w],ga=>
  have hcm:=hl.1 (.inr hk1)
  split at h
  ·rename_i hz
   cases h
   simp only[Zm]at hz
   obtain⟨rfl,rfl⟩:=Ss hz.1.1 ga.2.1
   obtain⟨a,rfl,g0⟩:=B9 hz.1.2 ga.1
   rw[hl.2.2.1 hk1 d a (Ki hF hm hz.2 hz.1.2 g0)]
   exact⟨rfl,rfl,rfl⟩
  ·split at h
   ·rename_i hz
    cases h
    simp only[Zm]at hz
    obtain⟨rfl,rfl⟩:=Ss hz.1.1 ga.1
    obtain⟨a,rfl,g0⟩:=B9 hz.1.2 ga.2.1
    rw[hcm,hl.2.2.1 hk1 d a (Ki hF hm hz.2 hz.1.2 g0)]
    exact⟨rfl,rfl,rfl⟩
   ·cases h
 ·cases h
theorem U3{prs:List (Pr P)}{d:Bool}{F:Fct}(hF:FctOk τ F){s:Tb}(hs:Lq prs d τ s){p:Nat}{args rest:List Value}{r:Value}{pr:Pr P}(h:lookC (prs.map (·.kind)) F s p args=some r)(hp:prs[p]? =some pr)(hd:args.all MF=true)(ga:Aj (G2 τ) args rest):
    (Classical.choose pr.h d false rest).2=false/\G2 τ r (Classical.choose pr.h d false rest).1:=by
 have hk:(prs.map (·.kind))[p]? =some pr.kind:=by rw[Zz,hp];rfl
 have hl:=(Zo pr.h).2.2.1
 have key:∀{x y:Value},pr.kind=1∨pr.kind=2->args=[x,y]->Kg s p [y,x]=some r->(Classical.choose pr.h d false rest).2=false/\G2 τ r (Classical.choose pr.h d false rest).1:=fun{x y} hk1 e hu=>by
  subst e
  match rest,ga with
  |[v,w],ga=>
  simp only[Zaa,List.all_nil,Bool.and_true,Zm]at hd
  rw[hl.1 hk1]
  exact(Hu hs hu).use hp (by simp[hd.1,hd.2]) ⟨ga.2.1,ga.1,trivial⟩
 unfold lookC at h
 split at h
 ·rename_i u hu
  cases h
  exact(Hu hs hu).use hp hd ga
 ·split at h
  ·rename_i u hu
   cases h
   unfold AAn at hu
   split at hu
   ·rename_i hk1 _
    rw[hk]at hk1
    exact key (.inl (Option.some.inj hk1)) rfl hu
   ·rename_i hk1 _
    rw[hk]at hk1
    exact key (.inr (Option.some.inj hk1)) rfl hu
   ·cases hu
  ·exact UZ hF hs.2 h hp ga
theorem p9.other{fn:Bool->Nat}{arr:List Value->List Value}{sa:List Value}{sr:Value}{kind:Nat}{g:Bool->Bool->List Value->Value×Bool}(h:p9 P fn arr sa sr kind g){d:Bool}{rest:List Value}(hc:Aj (G2 []) sa rest)(hg:(g d false rest).2=false):(g (!d) false rest).2=false/\(g (!d) false rest).1=(g d false rest).1:=by
 obtain⟨e1,e2⟩:=h.2.1 rest hc
 cases d with
 |false=>exact⟨e1.symm.trans hg,(e2 hg).symm⟩
 |true=>
  have hf:=e1.trans hg
  exact⟨hf,e2 hf⟩
def Att(i:Nat)(r:Value):Bool:=
 match r with
 | .agg cs=>cs.toList.any fun c=>Uu c (PL i)
 |r=>Uu r (PL i)
def allN(t:Tr (List Nd) 2):List Nd:=(List.range 64).flatMap (getT 2 t)
def u3(ks:List Nat)(L:List Nd):Nat->Value->Option Nat
 |0,_=>none
 | n +1,x=>(match x with
  | .int .i64 a=>some a.natAbs
  | .tuple ⟨[.float .f64 i]⟩=>(match L.find? (fun nd=>Att i nd.2.2)with
   | some (p,args,_)=>(match ks[p]?,args with
    |some 1,[a,b]=>(match u3 ks L n a,u3 ks L n b with
     |some u,some w=>some (u+w)
     |_,_=>none)
    |some 6,[a,b]=>(match u3 ks L n a,u3 ks L n b with
     |some u,some w=>some (u+w)
     |_,_=>none)
    |some 2,[a,b]=>(match u3 ks L n a,u3 ks L n b with
     |some u,some w=>some (u*w / 1099511627776+1)
     |_,_=>none)
    |some 7,_=>some 1099511627776
    |_,_=>none)
   |none=>none)
  |_=>none)
theorem MW{ks:List Nat}{L:List Nd}{n:Nat}{x v:Value}{B:Nat}(h:u3 ks L n x=some B)(g:G2 τ x v):∃a,v=.int .i64 a/\G0 τ x (.int .i64 a):=by
 match n,h with
 |n+1,h=>
 unfold u3 at h
 split at h
 ·have:=g.int
  subst this
  exact⟨_,rfl,rfl,rfl⟩
 ·obtain⟨a,e,rfl⟩:=g
  exact⟨a,rfl,a,e,rfl⟩
 ·cases h
theorem Akt{i:Nat}{r v:Value}(h:Att i r=true)(g:G2 τ r v){a:Int}(e:τ[i]? =some a):v=.int .i64 a∨∃l,v=.agg ⟨l⟩/\Value.int .i64 a∈l:=by
 unfold Att at h
 split at h
 ·obtain⟨l,rfl,gl⟩:=g
  obtain⟨c,hc,h⟩:=List.any_eq_true.1 h
  have e1:=Dh h
  subst e1
  obtain⟨j,hj,ej⟩:=List.mem_iff_getElem.1 hc
  obtain⟨w,hw,b,e2,rfl⟩:=gl.get j (PL i) (by rw[Zr hj,ej])
  rw[e]at e2
  cases e2
  exact .inr ⟨l,rfl,Zag hw⟩
 ·have e1:=Dh h
  subst e1
  obtain⟨b,e2,rfl⟩:=g
  rw[e]at e2
  cases e2
  exact .inl rfl
theorem Xw{prs:List (Pr P)}{d:Bool}{L:List Nd}(hL:∀e∈L,Fz prs d τ e):∀(n:Nat) {x:Value} {B:Nat},u3 (prs.map (·.kind)) L n x=some B->∀{a:Int},G0 τ x (.int .i64 a)->a.natAbs<=B
 |0,_,_,h,_,_=>by cases h
 | n +1,x,B,h,a,g=>by
  have ih:=fun{x:Value} {B:Nat} h {a:Int} g=>Xw hL n (x:=x) (B:=B) h (a:=a) g
  unfold u3 at h
  split at h
  ·cases h
   have:=g.1
   cases this
   exact Zaf _
  ·rename_i i
   obtain⟨a',e,k⟩:=g
   cases k
   split at h
   ·rename_i p args r hf
    have hm:=List.mem_of_find?_eq_some hf
    have hN:Att i r=true:=by
     have:=List.find?_some hf
     exact this
    obtain⟨pr,rest,h1,h2,h3,h4,h5⟩:=hL _ hm
    have h1:prs[p]? =some pr:=h1
    have hk:(prs.map (·.kind))[p]? =some pr.kind:=by rw[Zz,h1];rfl
    obtain⟨hcl,_,hr,_,_,_,h7⟩:=(Zo pr.h).1 d false rest h3
    have hB:=(Zo pr.h).2.2.2
    have hv:=Akt hN h5 e
    generalize hy:Classical.choose pr.h=g at *
    have two:∀{x y:Value} {u w:Nat},args=[x,y]->u3 (prs.map (·.kind)) L n x=some u->u3 (prs.map (·.kind)) L n y=some w->∃s t:Int,rest=[.int .i64 s,.int .i64 t]/\s.natAbs<=u/\t.natAbs<=w:=fun{x y u w} ea hu hw=>by
     have h2:Aj (G2 τ) args rest:=h2
     rw[ea]at h2
     match rest,h2 with
     |[v1,v2],h2=>
     obtain⟨s,rfl,gs⟩:=MW hu h2.1
     obtain⟨t,rfl,gt⟩:=MW hw h2.2.1
     exact⟨s,t,rfl,ih hu gs,ih hw gt⟩
    have one:∀{z:Int},(g d false rest).1=.int .i64 z->a=z:=fun{z} ez=>by
     rcases hv with hv |⟨l,hv,_⟩
     ·rw[ez]at hv
      cases hv
      rfl
     ·rw[ez]at hv
      cases hv
    split at h
    ·rename_i x y hk1
     rw[hk]at hk1
     have hk1:=Option.some.inj hk1
     split at h
     ·rename_i u w hu hw
      cases h
      obtain⟨s,t,rfl,b1,b2⟩:=two rfl hu hw
      rw[one (hB.1 hk1 d s t h4)]
      omega
     ·cases h
    ·rename_i x y hk1
     rw[hk]at hk1
     have hk1:=Option.some.inj hk1
     split at h
     ·rename_i u w hu hw
      cases h
      obtain⟨s,t,rfl,b1,b2⟩:=two rfl hu hw
      rw[one ((hB.2.1 hk1 d s t).1 h4)]
      omega
     ·cases h
    ·rename_i x y hk1
     rw[hk]at hk1
     have hk1:=Option.some.inj hk1
     split at h
     ·rename_i u w hu hw
      cases h
      obtain⟨s,t,rfl,b1,b2⟩:=two rfl hu hw
      obtain⟨z,ez,hz⟩:=hB.2.2 hk1 d s t h4
      rw[one ez]
      have hm:=Nat.mul_le_mul b1 b2
      have h5:z.natAbs*1099511627776<=u*w+1099511627776:=by omega
      have h6:z.natAbs<=(u*w+1099511627776) / 1099511627776:=(Nat.le_div_iff_mul_le (by decide)).2 h5
      rw[Nat.add_div_right _ (by decide)]at h6
      exact h6
     ·cases h
    ·rename_i hk1
     rw[hk]at hk1
     have hk1:=Option.some.inj hk1
     cases h
     have hlow:=h7 hk1 h4
     rcases hv with hv |⟨l,hv,hm⟩
     ·rw[hv]at hlow
      exact Zn hlow
     ·rw[hv]at hlow
      exact Zn (Zal.1 (show l.all Xt=true from hlow) _ hm)
    ·cases h
   ·cases h
  ·cases h
theorem u4{prs:List (Pr P)}{d:Bool}{s:Tb}(hs:Lq prs d τ s):∀e∈allN s.2,Fz prs d τ e:=fun e he=>by
 obtain⟨i,hi,h⟩:=List.mem_flatMap.1 he
 exact hs.1 i (List.mem_range.1 hi) e h
def Xx(ks:List Nat)(s:Tb)(p:Nat)(args:List Value):Bool:=
 match ks[p]?,args with
 |some 6,[x,y]=>(match u3 ks (allN s.2) 8 x,u3 ks (allN s.2) 8 y with
  |some u,some w=>Nat.ble u 2305843009213693952&&Nat.ble w 2305843009213693952
  |_,_=>false)
 |_,_=>false
theorem Aed{prs:List (Pr P)}{d d':Bool}{s:Tb}(hs:Lq prs d τ s){p:Nat}{args rest:List Value}{pr:Pr P}(h:Xx (prs.map (·.kind)) s p args=true)(hp:prs[p]? =some pr)(ga:Aj (G2 τ) args rest):(Classical.choose pr.h d' false rest).2=false:=by
 have hk:(prs.map (·.kind))[p]? =some pr.kind:=by rw[Zz,hp];rfl
 unfold Xx at h
 split at h
 ·rename_i x y hk1
  rw[hk]at hk1
  have hk1:=Option.some.inj hk1
  split at h
  ·rename_i u w hu hw
   rw[Zm]at h
   match rest,ga with
   |[v1,v2],ga=>
   obtain⟨a,rfl,g1⟩:=MW hu ga.1
   obtain⟨b,rfl,g2⟩:=MW hw ga.2.1
   have b1:=Xw (u4 hs) 8 hu g1
   have b2:=Xw (u4 hs) 8 hw g2
   have c1:=Zn h.1
   have c2:=Zn h.2
   exact((Zo pr.h).2.2.2.2.1 hk1 d' a b).2 (by omega) (by omega)
  ·cases h
 ·cases h
def IC(prs:List (Pr P))(d:Bool)(τ:List Int)(s:Tb)(_:Bool):Prop:=Lq prs d τ s
def AC3{P:Program}(pr:Pr P)(ks:List Nat)(d:Bool)(p:Nat):Rw Tb where
 fn:=pr.fn (!d)
 flow:=true
 run:=fun _ args c F s K=>(match c with
  | .bool false=>Sk pr.kind&&args.all MF&&Gs W5 args pr.sa&&(match lookC ks F s p args with
   |some r=>n2 r fun r=>K r (.bool false) F s
   |none=>Xx ks s p args&&K pr.sr (.bool false) F s)
  |_=>false)
theorem Atu{prs:List (Pr P)}{ks:List Nat}(hks:ks=prs.map (·.kind))(d:Bool){p:Nat}{pr:Pr P}(hp:prs[p]? =some pr):RwOk P (IC prs d) (AC3 pr ks d p) where
 go:=pr.go (!d)
 okF:=fun _ {args rest c F s K τ bad} h ga gc hF hI=>by
  dsimp only[AC3]at h
  split at h
  ·have e:=gc.1
   cases e
   simp only[Zm]at h
   have hc:Aj (G2 []) pr.sa rest:=pr.conf (FI h.1.2 ga)
   have h2:=h.2
   split at h2
   ·rename_i r hr
    rw[J8]at h2
    rw[hks]at hr
    obtain⟨g1,g2⟩:=U3 hF hI hr hp h.1.1.2 ga
    obtain⟨o1,o2⟩:=(Zo pr.h).other hc g1
    obtain⟨hcl,_⟩:=(Zo pr.h).1 (!d) false rest hc
    rw[pr.same (ACz h.1.1.1)]at hcl
    obtain⟨q1,q2,q3⟩:=hcl.1 (AC0 h.1.1.1)
    exact⟨_,_,τ,_,_,F,s,h2,q1,q2,q3,Fj.refl _,by rw[o2];exact g2,by rw[o1];exact⟨rfl,rfl⟩,hF,hI⟩
   ·rw[Zm,hks]at h2
    have o1:=Aed (d':=!d) hI h2.1 hp ga
    obtain⟨hcl,_,hr,_⟩:=(Zo pr.h).1 (!d) false rest hc
    rw[pr.same (ACz h.1.1.1)]at hcl
    obtain⟨q1,q2,q3⟩:=hcl.1 (AC0 h.1.1.1)
    exact⟨_,_,τ,_,_,F,s,h2.2,q1,q2,q3,Fj.refl _,pr.res hr,by rw[o1];exact⟨rfl,rfl⟩,hF,hI⟩
  ·cases h
 okP:=fun e=>by cases e
def AC4(t:Value):Bool:=
 match t with
 | .tuple ⟨[.bool _]⟩=>true
 |_=>false
theorem Atv{t v:Value}(h:AC4 t=true)(g:G2 τ t v):∃b,v=.bool b:=by
 unfold AC4 at h
 split at h
 ·exact g
 ·cases h
def QH(k:Nat):Bool:=
 match k with
 |8=>true
 |_=>false
theorem is8{k:Nat}(h:QH k=true):k=8:=by
 unfold QH at h
 split at h
 ·rfl
 ·cases h
def Aku{P:Program}(pr:Pr P)(d:Bool)(p:Nat):Rw (Nat×List Nd) where
 fn:=pr.fn d
 flow:=false
 nt:=true
 run:=fun _ args c F s K=>QH pr.kind&&Gs W5 args pr.sa&&AC4 pr.sr&&(match s with
  |(n0,D)=>K (.bool true) c F (n0,(p,args,.bool true)::D)&&K (.bool false) c F (n0,(p,args,.bool false)::D))
theorem Akv{prs:List (Pr P)}(d:Bool){p:Nat}{pr:Pr P}(hp:prs[p]? =some pr):RwOk P (TV prs d) (Aku pr d p) where
 go:=pr.go d
 okF:=fun e=>by cases e
 okP:=fun _ e=>by cases e
 okN:=fun _ {args rest c F s K τ bad} h ga hF hI=>by
  dsimp only[Aku]at h
  obtain⟨s1,s2⟩:=s
  simp only[Zm]at h
  obtain⟨⟨⟨h8,hl⟩,hu⟩,h1,h2⟩:=h
  have h8:=is8 h8
  have hc:Aj (G2 []) pr.sa rest:=pr.conf (FI hl ga)
  obtain⟨hcl,_,hr,_⟩:=(Zo pr.h).1 d false rest hc
  obtain⟨b,hb⟩:=Atv hu hr
  rw[pr.same (by omega)]at hcl
  obtain⟨⟨q1,q2,q3⟩,e⟩:=hcl.2 h8
  have fin:TV prs d τ (s1,(p,args,.bool b)::s2) bad:=⟨hI.1,fun e2 nd hnd=>by
   rcases Zy.1 hnd with rfl |hnd
   ·exact⟨pr,rest,hp,ga,hc,e,by rw[hb];exact AY rfl⟩
   ·exact hI.2.1 e2 nd hnd,fun nd hnd=>by
   rcases Zy.1 hnd with rfl |hnd
   ·intro pr' _ _ i hi
    cases hi
   ·exact hI.2.2 nd hnd⟩
  rw[hb]at q2 q3
  cases b with
  |true=>exact⟨_,τ,_,F,_,h1,q1,q2,q3,Fj.refl _,AY rfl,hF,fin⟩
  |false=>exact⟨_,τ,_,F,_,h2,q1,q2,q3,Fj.refl _,AY rfl,hF,fin⟩
def Akw{P:Program}(pr:Pr P)(d:Bool)(p:Nat):Rw Tb where
 fn:=pr.fn (!d)
 flow:=false
 nt:=true
 run:=fun _ args c F s K=>QH pr.kind&&args.all MF&&Gs W5 args pr.sa&&(match Kg s p args with
  |some r=>n2 r fun r=>K r c F s
  |none=>false)
theorem Akx{prs:List (Pr P)}(d:Bool){p:Nat}{pr:Pr P}(hp:prs[p]? =some pr):RwOk P (IC prs d) (Akw pr d p) where
 go:=pr.go (!d)
 okF:=fun e=>by cases e
 okP:=fun _ e=>by cases e
 okN:=fun _ {args rest c F s K τ bad} h ga hF hI=>by
  dsimp only[Akw]at h
  simp only[Zm]at h
  obtain⟨⟨⟨h8,hd⟩,hl⟩,h2⟩:=h
  have h8:=is8 h8
  have hc:Aj (G2 []) pr.sa rest:=pr.conf (FI hl ga)
  split at h2
  ·rename_i r hr
   rw[J8]at h2
   obtain⟨g1,g2⟩:=(Hu hI hr).use hp hd ga
   obtain⟨o1,o2⟩:=(Zo pr.h).other hc g1
   obtain⟨hcl,_⟩:=(Zo pr.h).1 (!d) false rest hc
   rw[pr.same (by omega)]at hcl
   obtain⟨⟨q1,q2,q3⟩,e⟩:=hcl.2 h8
   exact⟨_,τ,_,F,_,h2,q1,q2,q3,Fj.refl _,by rw[o2];exact g2,hF,hI⟩
  ·cases h2
theorem Atw{fn:Bool->Nat}{sa:List Value}{sr:Value}{S:List Value->Value}(h:∀d rest,Aj (G2 []) sa rest->Sj P (fn d) rest (S rest))(hr:∀rest,Aj (G2 []) sa rest->G2 [] sr (S rest)):∃g,BY P fn sa sr 8 g:=
 ⟨fun _ b rest=>(S rest,b),fun d b rest hc=>⟨⟨fun e=>absurd rfl e,fun _=>⟨h d rest hc,rfl⟩⟩,fun e=>e,hr rest hc,fun e=>(by omega),fun e=>(by omega),fun e=>(by omega),fun e=>(by omega)⟩,fun _ _=>⟨rfl,fun _=>rfl⟩,⟨fun e=>by omega,fun e=>by omega,fun e=>by omega,fun e=>by omega⟩,⟨fun e=>by omega,fun e=>by omega,fun e=>by omega⟩⟩
end
end Nx
end Go.Proofs.YtoadcnhcfodkgaaGreatDoor
