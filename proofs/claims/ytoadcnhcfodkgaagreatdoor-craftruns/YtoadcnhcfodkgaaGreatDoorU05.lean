import Derived.Handy
import Derived.Deep.RegionHeld3
import Derived.Deep.DrawnRows
import Derived.Test.YtoadcnhcfodkgaaGreatDoorU04
import Derived.Test.YtoadcnhcfodkgaaGreatDoorU01
set_option maxHeartbeats 800000
open Go.Proofs.Tryz renaming prog→Zm
open Bool renaming and_eq_true→Zn,or_eq_true→Zu
open Nat renaming le_refl→Zo,eq_of_beq_eq_true→Zq
open List renaming mem_cons→Zp,mem_cons_of_mem→Zr,mem_cons_self→Zt,all_cons→Zx
open Int renaming eq_ofNat_of_zero_le→Zs,mul_nonneg→Zw
open Classical renaming choose_spec→Zv
namespace Go.Proofs.YtoadcnhcfodkgaaGreatDoor
namespace Nx
open Go.RowKit Go.Proofs.YtoadcnhcfodkgaaGreatDoor
abbrev Als:=List (Nat×Value)
def U4:Als->Nat->Option Value
 |[],_=>none
 |(i,u)::l,j=>(match Nat.beq i j with
  |true=>some u
  |false=>U4 l j)
abbrev Alm:=Nat×Als
def U5(al:Alm)(i:Nat):Option Value:=
 match Nat.testBit al.1 i with
 |true=>U4 al.2 i
 |false=>none
theorem U6{al:Alm}{i:Nat}{u:Value}(h:U5 al i=some u):U4 al.2 i=some u:=by
 unfold U5 at h
 split at h
 ·exact h
 ·cases h
def U7(al:Alm):List Value->List Value
 |[]=>[]
 | a::l=>(match a with
  | .float .f64 i=>(match (U5 al i).bind JY with
   |some c=>c++U7 al l
   |none=>.float .f64 i::U7 al l)
  |a=>a::U7 al l)
def Aee(al:Alm)(t:Value):Value:=
 match t with
 | .tuple ⟨[.float .f64 i]⟩=>(match U5 al i with
  |some u=>u
  |none=>.tuple ⟨[.float .f64 i]⟩)
 | .tuple ⟨[.agg ⟨l⟩]⟩=>.tuple ⟨[.agg ⟨U7 al l⟩]⟩
 |t=>t
def U8:Als->Alm->(Alm->Bool)->Bool
 |[],al,K=>K al
 |(i,u)::z,al,K=>nN i fun i=>n0 u fun u=>nN (Nat.lor (Nat.shiftLeft 1 i) al.1) fun m=>U8 z (m,(i,u)::al.2) K
def Atx(al:Alm):Value->Value
 | .agg cs=>.agg ⟨cs.toList.map (Aee al)⟩
 |t=>Aee al t
def Aef(al:Alm):Value->Value
 | .tuple ⟨a::b::r⟩=>.tuple ⟨(a::b::r).map (Atx al)⟩
 |t=>Atx al t
def AC5(al:Alm)(f:Nat×Value×Value×Bool):Nat×Value×Value×Bool:=(f.1,Aee al f.2.1,Aee al f.2.2.1,f.2.2.2)
section
variable {τ:List Int}
def Fq(τ:List Int)(al:Als):Prop:=∀e∈al,∃x,τ[e.1]? =some x/\G0 τ e.2 (.int .i64 x)
theorem Lr:∀{al:Als} {i:Nat} {u:Value},U4 al i=some u->(i,u)∈al
 |[],_,_,h=>by cases h
 | (j,w)::al,i,u,h=>by
  unfold U4 at h
  split at h
  ·rename_i e
   cases h
   rw[Zq e]
   exact Zt
  ·exact Zr _ (Lr h)
theorem u6{al:Alm}(ha:Fq τ al.2):∀(l:List Value) (st r:List Int),ME τ st l=some r->ME τ st (U7 al l)=some r
 |[],_,_,h=>h
 | a ::l,st,r,h=>by
  have ih:=u6 ha l
  unfold ME at h
  split at h
  ·rename_i e
   cases e
  ·rename_i e
   cases e
   exact ih _ _ h
  ·rename_i e
   cases e
   split at h
   ·rename_i x hx
    unfold U7
    dsimp only
    cases hu:(U5 al _).bind JY with
    |some c=>
     obtain⟨u,h1,h2⟩:=Option.bind_eq_some_iff.1 hu
     obtain⟨y,e,g⟩:=ha _ (Lr (U6 h1))
     have e:τ[_]? =some y:=e
     rw[hx]at e
     cases e
     dsimp only
     rw[JZ h2 g]
     exact ih _ _ h
    | none=>
     show(match τ[_]? with
      |some x=>ME τ (x::_) (U7 al l)
      |none=>none)=some r
     rw[hx]
     exact ih _ _ h
   ·cases h
  ·rename_i e
   cases e
   split at h
   ·rename_i x hx
    show(match opE _ _ _ with
     |some r=>ME τ (r::_) (U7 al l)
     |none=>none)=some r
    rw[hx]
    exact ih _ _ h
   ·cases h
  ·cases h
theorem MX{al:Alm}(ha:Fq τ al.2)(t v:Value)(g:G0 τ t v):G0 τ (Aee al t) v:=by
 unfold Aee
 split
 ·split
  ·rename_i hu
   obtain⟨x,e,gx⟩:=ha _ (Lr (U6 hu))
   obtain⟨y,e2,rfl⟩:=g
   rw[e]at e2
   cases e2
   exact gx
  ·exact g
 ·rename_i l
  obtain⟨x,e,rfl⟩:=g
  refine⟨x,?_,rfl⟩
  unfold evX at e ⊢
  dsimp only at e ⊢
  split at e
  ·rename_i y hy
   cases e
   rw[u6 ha _ _ _ hy]
  ·cases e
 ·exact g
theorem u7{al:Alm}(ha:Fq τ al.2)(t v:Value)(g:G1 τ t v):G1 τ (Atx al t) v:=by
 unfold Atx
 split
 ·obtain⟨l,rfl,hl⟩:=g
  exact⟨l,rfl,hl.onL (R:=G0 τ) (MX ha)⟩
 ·rename_i hn
  exact(MX ha _ _ (g.g0of hn)).g1
theorem u9{al:Alm}(ha:Fq τ al.2)(t v:Value)(g:G2 τ t v):G2 τ (Aef al t) v:=by
 unfold Aef
 split
 ·obtain⟨l,rfl,hl⟩:=g
  exact⟨l,rfl,hl.onL (R:=G1 τ) (u7 ha)⟩
 ·rename_i hn
  exact(u7 ha _ _ (g.g1of hn)).g2
theorem x8{al:Alm}(ha:Fq τ al.2){F:Fct}(h:FctOk τ F):FctOk τ (F.map (AC5 al)):=fun f hf=>by
 obtain⟨g,hg,rfl⟩:=List.mem_map.1 hf
 obtain⟨a,b,h1,h2,h3⟩:=h g hg
 exact⟨a,b,MX ha _ _ h1,MX ha _ _ h2,h3⟩
def Aty(r u:Value):Als:=
 match r with
 | .tuple ⟨[.float .f64 i]⟩=>[(i,u)]
 |_=>[]
def Atz(z:Value->Value->Als):List Value->List Value->Als
 |a::l,b::m=>z a b++Atz z l m
 |_,_=>[]
def At0(r u:Value):Als:=
 match r,u with
 | .agg cs,.agg ds=>Atz Aty cs.toList ds.toList
 | .agg _,_=>[]
 |_,.agg _=>[]
 |r,u=>Aty r u
def At1(r u:Value):Als:=
 match r,u with
 | .tuple ⟨a::b::l⟩,.tuple ⟨c::d::m⟩=>Atz At0 (a::b::l) (c::d::m)
 | .tuple ⟨_::_::_⟩,_=>[]
 |_,.tuple ⟨_::_::_⟩=>[]
 |r,u=>At0 r u
theorem Fq.nil:Fq τ []:=fun _ h=>by cases h
theorem Fq.app{a b:Als}(ha:Fq τ a)(hb:Fq τ b):Fq τ (a++b):=fun e h=>(List.mem_append.1 h).elim (ha e) (hb e)
theorem N5:∀{z:Als} {al:Alm} {K:Alm->Bool},U8 z al K=true->Fq τ z->Fq τ al.2->∃al':Alm,K al'=true/\Fq τ al'.2
 |[],al,_,h,_,ha=>⟨al,h,ha⟩
 | (i,u)::z,al,K,h,hz,ha=>by
  unfold U8 at h
  rw[CE,I1,CE]at h
  exact N5 h (fun e he=>hz e (Zr _ he)) (fun e he=>by
   rcases Zp.1 he with rfl |he
   ·exact hz _ Zt
   ·exact ha e he)
theorem x9{r u v:Value}(h:G0 τ r v)(k:G0 τ u v):Fq τ (Aty r u):=by
 unfold Aty
 split
 ·rename_i j
  intro e he
  rw[List.mem_singleton.1 he]
  obtain⟨x,e1,rfl⟩:=h
  exact⟨x,e1,k⟩
 ·exact .nil
theorem Su{R:Value->Value->Prop}{z:Value->Value->Als}(hz:∀r u v,R r v->R u v->Fq τ (z r u)):∀{l m vs:List Value},Aj R l vs->Aj R m vs->Fq τ (Atz z l m)
 |[],_,_,_,_=>.nil
 |_::_,[],_,_,_=>.nil
 |_::_,_::_,_::_,h,k=>(hz _ _ _ h.1 k.1).app (Su hz h.2 k.2)
 |_::_,_::_,[],h,_=>h.elim
theorem y8(r u v:Value)(h:G1 τ r v)(k:G1 τ u v):Fq τ (At0 r u):=by
 unfold At0
 split
 ·obtain⟨l,rfl,hl⟩:=h
  obtain⟨m,e,hm⟩:=k
  cases e
  exact Su (R:=G0 τ) (fun _ _ _=>x9) hl hm
 ·exact .nil
 ·exact .nil
 ·rename_i h1 h2 _
  exact x9 (h.g0of (fun cs e=>h1 cs e)) (k.g0of (fun cs e=>h2 cs e))
theorem y9(r u v:Value)(h:G2 τ r v)(k:G2 τ u v):Fq τ (At1 r u):=by
 unfold At1
 split
 ·obtain⟨l,rfl,hl⟩:=h
  obtain⟨m,e,hm⟩:=k
  cases e
  exact Su (R:=G1 τ) y8 hl hm
 ·exact .nil
 ·exact .nil
 ·rename_i h1 h2 _
  exact y8 _ _ _ (h.g1of (fun a b r e=>h1 a b r e)) (k.g1of (fun a b r e=>h2 a b r e))
end
def Je(ks:List Nat):List Nd->Alm->Tb->(Alm->Tb->Bool)->Bool
 |[],al,ct,K=>K al ct
 | (p,args,r)::D,al,ct,K=>nN p fun p=>nF (args.map (Aef al)) fun args=>n2 r fun r=>match args.all MF with
  | true=>(match s8 ks [] (Akr ks (p,args,r) ct.1) p args with
   |some u=>U8 (At1 r u) al fun al=>Aks ks (p,args,u) ct fun ct=>Je ks D al ct K
   |none=>(match lookC ks [] ct p args with
    |some u=>U8 (At1 r u) al fun al=>Je ks D al ct K
    |none=>Aks ks (p,args,r) ct fun ct=>Je ks D al ct K))
  |false=>Aks ks (p,args,r) ct fun ct=>Je ks D al ct K
section
variable {P:Program} {τ:List Int}
theorem FY{prs:List (Pr P)}{d:Bool}{K:Alm->Tb->Bool}:∀{D:List Nd} {al:Alm} {ct:Tb},Je (prs.map (·.kind)) D al ct K=true->(∀nd∈D,Fz prs d τ nd)->Fq τ al.2->Lq prs d τ ct->∃al' ct',K al' ct'=true/\Fq τ al'.2/\Lq prs d τ ct'
 |[],al,ct,h,_,ha,hc=>⟨al,ct,h,ha,hc⟩
 | (p,args,r)::D,al,ct,h,hD,ha,hc=>by
  have hD':=fun nd hnd=>hD nd (Zr _ hnd)
  obtain⟨pr,rest,h1,h2,h3,h4,h5⟩:=hD _ Zt
  have h2':Aj (G2 τ) (args.map (Aef al)) rest:=h2.onL (R:=G2 τ) (u9 ha)
  unfold Je at h
  rw[CE,i6,J8]at h
  have i3:Fz prs d τ (p,args.map (Aef al),r):=⟨pr,rest,h1,h2',h3,h4,h5⟩
  have n0:FctOk τ []:=fun f hf=>by cases hf
  split at h
  ·rename_i hd
   split at h
   ·rename_i u hu
    obtain⟨_,g⟩:=UZ n0 (fun i hi=>t7 i3 hc.2 hi) hu h1 h2'
    obtain⟨al',h,ha'⟩:=N5 h (y9 _ _ _ h5 g) ha
    rw[Sr]at h
    exact FY h hD' ha' (hc.add ⟨pr,rest,h1,h2',h3,h4,g⟩)
   ·split at h
    ·rename_i u hu
     obtain⟨_,g⟩:=U3 n0 hc hu h1 hd h2'
     obtain⟨al',h,ha'⟩:=N5 h (y9 _ _ _ h5 g) ha
     exact FY h hD' ha' hc
    ·rw[Sr]at h
     exact FY h hD' ha (hc.add i3)
  ·rw[Sr]at h
   exact FY h hD' ha (hc.add i3)
theorem Lq.none{prs:List (Pr P)}{d:Bool}:Lq prs d τ (0,Fw [] 2):=by
 constructor
 ·intro i _ e he
  have he:e∈getT 2 (Fw ([]:List Nd) 2) i:=he
  rw[NR]at he
  cases he
 ·intro i h
  have h:Nat.testBit 0 i=true:=h
  rw[Nat.zero_testBit]at h
  cases h
def Aky:Fct->(Fct->Bool)->Bool
 |[],K=>K []
 |(c,x,y,b)::l,K=>nN c fun c=>n0 x fun x=>n0 y fun y=>nB b fun b=>Aky l fun l=>K ((c,x,y,b)::l)
theorem Sv:∀(l:Fct) (K:Fct->Bool),Aky l K=K l
 |[],_=>rfl
 |(c,x,y,b)::l,K=>by
  unfold Aky
  rw[CE,I1,I1,NU,Sv l]
def At2:Value->Bool
 | .bool b=>!b
 |_=>false
def At3:Value->Bool
 | .bool b=>b
 |_=>false
theorem Aaa{c:Value}{b:Bool}(h:At2 c=true)(g:G0 τ c (.bool b)):b=false:=by
 unfold At2 at h
 split at h
 ·have:=g.1
  cases this
  simpa using h
 ·cases h
theorem Aab{c:Value}{b:Bool}(h:At3 c=true)(g:G0 τ c (.bool b)):b=true:=by
 unfold At3 at h
 split at h
 ·have:=g.1
  cases this
  exact h
 ·cases h
def QI(m:Nat):Nat->Fct
 |0=>[]
 |i+1=>(match Nat.testBit m i with
  |true=>(2,PL i,.int .i64 (-4611686018427387904),false)::(2,.int .i64 4611686018427387904,PL i,false)::QI m i
  |false=>QI m i)
def Sw(m:Nat)(F:Fct):Bool:=F.any fun f=>match f with
 |(2,.tuple ⟨[.float .f64 i]⟩,.int .i64 c,true)=>decide (c<=-4611686018427387904)&&Nat.testBit m i
 |(2,.int .i64 c,.tuple ⟨[.float .f64 i]⟩,true)=>decide (4611686018427387904<=c)&&Nat.testBit m i
 |_=>false
def U9(τ:List Int)(m:Nat):Prop:=∀i,m.testBit i=true->∃a,τ[i]? =some a/\numB a=true
theorem U9.val{m:Nat}(hm:U9 τ m){i:Nat}(h:Nat.testBit m i=true):∃a,τ[i]? =some a/\-4611686018427387904<=a/\a<=4611686018427387904:=by
 obtain⟨a,e,hb⟩:=hm i h
 exact⟨a,e,Bh hb⟩
theorem N6{m:Nat}(hm:U9 τ m):∀n,FctOk τ (QI m n)
 |0=>fun f hf=>by cases hf
 | n+1=>by
  unfold QI
  split
  ·rename_i h
   obtain⟨a,ha,b1,b2⟩:=hm.val h
   intro f hf
   rcases Zp.1 hf with rfl |hf
   ·exact⟨a,_,⟨a,ha,rfl⟩,⟨rfl,rfl⟩,by show decide (a< -4611686018427387904)=false;simp;omega⟩
   ·rcases Zp.1 hf with rfl |hf
    ·exact⟨_,a,⟨rfl,rfl⟩,⟨a,ha,rfl⟩,by show decide (4611686018427387904<a)=false;simp;omega⟩
    ·exact N6 hm n f hf
  ·exact N6 hm n
theorem Xy{m:Nat}(hm:U9 τ m){F:Fct}(hF:FctOk τ F):Sw m F=false:=by
 cases h:Sw m F with
 |false=>rfl
 | true=>
  exfalso
  unfold Sw at h
  obtain⟨f,hf,h⟩:=List.any_eq_true.1 h
  obtain⟨a,b,h1,h2,h3⟩:=hF f hf
  split at h
  ·rw[Zn,decide_eq_true_eq]at h
   obtain⟨x,hx,b1,b2⟩:=hm.val h.2
   obtain⟨y,e1,e2⟩:=h1
   cases e2
   rw[hx]at e1
   cases e1
   have e3:=h2.1
   cases e3
   have h3:decide (_<_)=true:=h3
   have:=of_decide_eq_true h3
   omega
  ·rw[Zn,decide_eq_true_eq]at h
   obtain⟨x,hx,b1,b2⟩:=hm.val h.2
   obtain⟨y,e1,e2⟩:=h2
   cases e2
   rw[hx]at e1
   cases e1
   have e3:=h1.1
   cases e3
   have h3:decide (_<_)=true:=h3
   have:=of_decide_eq_true h3
   omega
  ·cases h
def Aeg(n:Nat)(s:Nat×List Nd):Nat×List Nd:=
 match Nat.ble s.1 n with
 |true=>(n,[])
 |false=>s
def AC6(s:Nat×List Nd):Nat×List Nd:=
 match Nat.beq s.1 1000001 with
 |true=>(1000001,[])
 |false=>Aeg 1000000 s
def eqO:PM (Nat×List Nd):=(fun a b=>match Nat.beq a.1 1000001 with
 |true=>Nat.beq b.1 1000001
 |false=>Nat.ble a.1 1000000&&Nat.ble b.1 1000000,AC6,Aeg 1000001,fun s=>Nat.beq s.1 1000001)
def eqC:PM Tb:=(fun _ _=>false,fun s=>s,fun s=>s,fun _=>false)
theorem Aac{τ:List Int}{k n:Nat}(h:τ.length=k)(hk:Nat.ble k n=true):∃τ',Fj τ τ'/\τ'.length=n:=⟨τ++List.replicate (n-k) 0,⟨_,rfl⟩,by
 have:=Nat.le_of_ble_eq_true hk
 rw[List.length_append,List.length_replicate]
 omega⟩
theorem At4{prs:List (Pr P)}{d:Bool}(n:Nat){τ:List Int}{s:Nat×List Nd}(k:TV prs d τ s true):∃τ',Fj τ τ'/\TV prs d τ' (Aeg n s) true:=by
 unfold Aeg
 cases hs:Nat.ble s.1 n with
 |true=>
  obtain⟨τ',hx,hl⟩:=Aac k.1 hs
  exact⟨τ',hx,hl,fun e=>(by cases e),fun _ h=>(by cases h)⟩
 |false=>exact⟨τ,Fj.refl τ,k⟩
theorem Hv{prs:List (Pr P)}{d:Bool}:UE (TV prs d) eqO:=by
 constructor
 ·intro τ s s2 h k
  have h:(match Nat.beq s.1 1000001 with
   |true=>Nat.beq s2.1 1000001
   |false=>Nat.ble s.1 1000000&&Nat.ble s2.1 1000000)=true:=h
  show ∃τ',Fj τ τ'/\TV prs d τ' (AC6 s) true
  unfold AC6
  cases hb:Nat.beq s.1 1000001 with
  |true=>
   rw[hb]at h
   have e2:=Zq h
   exact⟨τ,Fj.refl τ,k.1.trans e2,fun e=>(by cases e),fun _ h=>(by cases h)⟩
  |false=>
   rw[hb]at h
   have h:(Nat.ble s.1 1000000&&Nat.ble s2.1 1000000)=true:=h
   rw[Zn]at h
   obtain⟨τ',hx,hl⟩:=Aac k.1 h.2
   refine⟨τ',hx,?_⟩
   show TV prs d τ' (Aeg 1000000 s) true
   unfold Aeg
   rw[h.1]
   exact⟨hl,fun e=>(by cases e),fun _ h=>(by cases h)⟩
 ·intro τ s k
  exact At4 1000001 k
theorem Xz{I:List Int->Tb->Bool->Prop}:UE I eqC:=⟨fun τ s s2 h _=>(by cases h),fun τ s k=>⟨τ,Fj.refl τ,k⟩⟩
def Sx(ks:List Nat):List Nd->Nat
 |[]=>0
 |nd::l=>(match ks[nd.1]? with
  |some 1=>Nat.lor (Kh nd.2.2) (Sx ks l)
  |some 2=>Nat.lor (Kh nd.2.2) (Sx ks l)
  |some 3=>Nat.lor (Kh nd.2.2) (Sx ks l)
  |some 6=>Nat.lor (Kh nd.2.2) (Sx ks l)
  |_=>Sx ks l)
def QJ(m:Nat)(c:Value):Bool:=
 match c with
 | .int _ x=>numB x
 | .tuple ⟨[.float .f64 i]⟩=>Nat.testBit m i
 | .tuple ⟨[.agg ⟨[.int .i64 0,.float .f64 i,.float .f32 1]⟩]⟩=>Nat.testBit m i
 |_=>false
def AC7(m:Nat)(t:Value):Bool:=
 match t with
 | .agg ⟨l⟩=>l.all (QJ m)
 |t=>QJ m t
theorem Aad{prs:List (Pr P)}{τ:List Int}:∀{l:List Nd},(∀nd∈l,Xu prs τ nd)->U9 τ (Sx (prs.map (·.kind)) l)
 |[],_,i,h=>by
  have h:Nat.testBit 0 i=true:=h
  rw[Nat.zero_testBit]at h
  cases h
 | nd::l,hl,i,h=>by
  have ih:=fun h=>Aad (fun nd hnd=>hl nd (Zr _ hnd)) i h
  have own:∀k,(prs.map (·.kind))[nd.1]? =some k->k=1∨k=2∨k=3∨k=6->(Kh nd.2.2|||Sx (prs.map (·.kind)) l).testBit i=true->∃a,τ[i]? =some a/\numB a=true:=fun k hk h3 h=>by
   rw[Nat.testBit_or,Zu]at h
   rcases h with h |h
   ·rw[List.getElem?_map]at hk
    obtain⟨pr,h1,rfl⟩:=Option.map_eq_some_iff.1 hk
    exact hl nd Zt pr h1 h3 i (Sp h)
   ·exact ih h
  unfold Sx at h
  split at h
  ·rename_i e
   exact own 1 e (.inl rfl) h
  ·rename_i e
   exact own 2 e (.inr (.inl rfl)) h
  ·rename_i e
   exact own 3 e (.inr (.inr (.inl rfl))) h
  ·rename_i e
   exact own 6 e (.inr (.inr (.inr rfl))) h
  ·exact ih h
theorem Va{τ:List Int}{m:Nat}(hm:U9 τ m){c v:Value}(h:QJ m c=true)(g:G0 τ c v):QF v=true:=by
 unfold QJ at h
 split at h
 ·rw[g.1]
  exact h
 ·obtain⟨x,e,rfl⟩:=g
  obtain⟨y,e2,hb⟩:=hm _ h
  rw[e]at e2
  cases e2
  exact hb
 ·rename_i i
  obtain⟨x,e,rfl⟩:=g
  obtain⟨y,e2,hb⟩:=hm _ h
  have e:(match (match τ[i]? with
   |some x=>some [Adn x]
   |none=>none)with
   |some [x]=>some x
   |_=>none)=some x:=by
   rw[<-e]
   show _=(match (match τ[i]? with
    |some x=>ME τ [x,0] [.float .f32 1]
    |none=>none)with
    |some [x]=>some x
    |_=>none)
   rw[e2]
   rfl
  rw[e2]at e
  have e:some (Adn y)=some x:=e
  cases e
  have b:=Bh hb
  show numB (Adn y)=true
  have:Adn y=-y:=by
   unfold Adn
   rw[IntWalk.i64_in _ (by omega)]
   omega
  rw[this]
  unfold numB
  simp only[Zn,decide_eq_true_eq]
  omega
 ·cases h
theorem Vb{τ:List Int}{m:Nat}(hm:U9 τ m):∀{l vs:List Value},l.all (QJ m)=true->Aj (G0 τ) l vs->vs.all QF=true
 |[],[],_,_=>rfl
 |c::l,v::vs,h,g=>by
  rw[Zx,Zn]at h ⊢
  exact⟨Va hm h.1 g.1,Vb hm h.2 g.2⟩
 |[],_::_,_,g=>g.elim
 |_::_,[],_,g=>g.elim
theorem At5{τ:List Int}{m:Nat}(hm:U9 τ m){t v:Value}(h:AC7 m t=true)(g:G2 τ t v):Ad9 v=true:=by
 unfold AC7 at h
 split at h
 ·obtain⟨l,rfl,gl⟩:=g
  exact Vb hm h gl
 ·have key:G0 τ t v:=by
   unfold QJ at h
   split at h
   ·exact g
   ·exact g
   ·exact g
   ·cases h
  have:=Va hm h key
  unfold QF at this
  split at this
  ·exact this
  ·cases this
def Sy(kk:Nat):Bool:=Nat.beq kk 0||Nat.beq kk 4||Nat.beq kk 5
def Aae(kk:Nat)(ks:List Nat)(sr t c:Value)(l:List Nd):Bool:=
 match kk with
 |0=>true
 |4=>AC7 (Sx ks l) t
 |5=>At2 c||(Akl t (N4 sr)&&GT (N4 sr))
 |_=>false
def XA(kk:Nat)(sr v:Value)(b:Bool):Prop:=(kk=4->Ad9 v=true)/\(kk=5->b=true->v=N4 sr)
theorem Vd{prs:List (Pr P)}{τ:List Int}{kk:Nat}{sr t c v:Value}{b:Bool}{l:List Nd}(h:Aae kk (prs.map (·.kind)) sr t c l=true)(hl:∀nd∈l,Xu prs τ nd)(gt:G2 τ t v)(gc:G0 τ c (.bool b)):XA kk sr v b:=by
 unfold Aae at h
 split at h
 ·exact⟨fun e=>(by omega),fun e=>(by omega)⟩
 ·exact⟨fun _=>At5 (Aad hl) h gt,fun e=>(by omega)⟩
 ·refine⟨fun e=>(by omega),fun _ hb=>?_⟩
  rw[Zu,Zn]at h
  rcases h with h |h
  ·have:=Aaa h gc
   rw[this]at hb
   cases hb
  ·rw[Se _ _ h.1]at gt
   exact JX _ _ h.2 gt
 ·cases h
def AC8(P:Program)(ks:List Nat)(tA:List (Rw (Nat×List Nd)))(dA:Nat->List Nat)(nA:Nat)(fnA:Func)(cA:Code)(tB:List (Rw Tb))(dB:Nat->List Nat)(nB:Nat)(fnB:Func)(cB:Code)(sa:List Value)(sr:Value)(kk:Nat):Bool:=
 match Sg sa 0 with
 |some (args,n)=>nF args fun args=>nN n fun n=>Xp P eqO tA dA nA fnA cA args (.bool false) [] (n,[]) (fun t c F s=>W5 t sr&&Aae kk ks sr t c s.2&&(At3 c||Je ks s.2.reverse (0,[]) (0,Fw [] 2) fun al ct=>Aky (F.map (AC5 al)) fun F'=>Sw ct.1 F'||Aky (QI ct.1 (Nat.min s.1 64)++F') fun F'=>Xp P eqC tB dB nB fnB cB args (.bool false) F' ct (fun u c' _ _=>At2 c'&&MF u&&Akl (Aef al t) u)))
 |none=>false
theorem Aaf(hm:P.follows .mixedOrders=true){prs:List (Pr P)}{d:Bool}{ks:List Nat}(hks:ks=prs.map (·.kind)){tA:List (Rw (Nat×List Nd))}(hA:TOk P (TV prs d) tA){dA:Nat->List Nat}{nA:Nat}{fA:Nat}{fnA:Func}{cA:Code}(hfA:P.funcs[fA]? =some fnA)(hbA:fnA.body=some cA)
    {tB:List (Rw Tb)} (hB:TOk P (IC prs d) tB) {dB:Nat->List Nat} {nB:Nat} {fB:Nat} {fnB:Func} {cB:Code} (hfB:P.funcs[fB]? =some fnB) (hbB:fnB.body=some cB) {sa:List Value} {sr:Value} {kk:Nat} (hsr:TU sr=true) (h:AC8 P ks tA dA nA fnA cA tB dB nB fnB cB sa sr kk=true) (rest:List Value) (g:Aj (G2 []) sa rest):
    ∃v b,CallsOk P fA false rest v b/\G2 [] sr v/\(b=false->CallsOk P fB false rest v false)/\XA kk sr v b:=by
 unfold AC8 at h
 split at h
 ·rename_i args n hfr
  rw[i6,CE]at h
  obtain⟨ys,e1,ga⟩:=QE (τ:=[]) hfr g
  rw[List.nil_append]at e1 ga
  obtain⟨v,b,τ1,t,c,F,s,hK,q1,q2,q3,hx,gt,gc,hF,hI⟩:=Kf Hv hA hm hfA hbA h ga ⟨rfl,rfl⟩ (fun f hf=>by cases hf) ⟨e1.symm,fun _ nd hnd=>(by cases hnd),fun nd hnd=>(by cases hnd)⟩
  rw[Zn,Zn,Zu]at hK
  subst hks
  refine⟨v,b,⟨q1,q2,q3⟩,Ht _ _ hsr (RR hK.1.1 gt),fun hb=>?_,Vd hK.1.2 hI.2.2 gt gc⟩
  subst hb
  rcases hK.2 with h2 |h2
  ·have:=Aab h2 gc
   cases this
  ·obtain⟨al,ct,h2,a1,a2⟩:=FY h2 (fun nd hnd=>hI.2.1 rfl nd (List.mem_reverse.1 hnd)) (Fq.nil (τ:=τ1)) Lq.none
   rw[Sv,Xy a2.2 (x8 a1 hF),Bool.false_or,Sv]at h2
   have hF':FctOk τ1 (QI ct.1 (Nat.min s.1 64)++F.map (AC5 al)):=fun f hf=>(List.mem_append.1 hf).elim (N6 a2.2 _ f) (x8 a1 hF f)
   obtain⟨v2,b2,τ2,u,c2,F2,s2,hK2,r1,r2,r3,hx2,gu,gc2,hF2,hI2⟩:=Kf Xz hB hm hfB hbB h2 (ga.imp fun _ _ k=>k.ext hx) ⟨rfl,rfl⟩ hF' a2
   simp only[Zn]at hK2
   have eb:=Aaa hK2.1.1 gc2
   subst eb
   have et:=Se _ _ hK2.2
   have g1:=(u9 a1 t v gt).ext hx2
   rw[et]at g1
   have ev:=Ako _ _ _ hK2.1.2 gu g1
   subst ev
   exact⟨r1,r2,r3⟩
 ·cases h
def At6(P:Program)(ks:List Nat)(tA:List (Rw (Nat×List Nd)))(dA:Nat->List Nat)(nA:Nat)(fnA:Func)(cA:Code)(sa:List Value)(sr:Value)(kk:Nat):Bool:=
 Xp P eqO tA dA nA fnA cA sa (.bool true) [] (0,[]) (fun t c _ s=>W5 t sr&&At3 c&&Aae kk ks sr t c s.2)
theorem Sz(hm:P.follows .mixedOrders=true){prs:List (Pr P)}{d:Bool}{ks:List Nat}{kk:Nat}(hks:kk≠0->ks=prs.map (·.kind)){tA:List (Rw (Nat×List Nd))}(hA:TOk P (TV prs d) tA){dA:Nat->List Nat}{nA:Nat}{fA:Nat}{fnA:Func}{cA:Code}(hfA:P.funcs[fA]? =some fnA)(hbA:fnA.body=some cA){sa:List Value}{sr:Value}(hsr:TU sr=true)(h:At6 P ks tA dA nA fnA cA sa sr kk=true)(rest:List Value)(g:Aj (G2 []) sa rest):
    ∃v,CallsOk P fA true rest v true/\G2 [] sr v/\XA kk sr v true:=by
 unfold At6 at h
 obtain⟨v,b,τ1,t,c,F,s,hK,q1,q2,q3,hx,gt,gc,hF,hI⟩:=Kf (τ:=[]) Hv hA hm hfA hbA h g ⟨rfl,rfl⟩ (fun f hf=>by cases hf) ⟨rfl,fun e=>(by cases e),fun nd hnd=>(by cases hnd)⟩
 rw[Zn,Zn]at hK
 have:=Aab hK.1.2 gc
 subst this
 refine⟨v,⟨q1,q2,q3⟩,Ht _ _ hsr (RR hK.1.1 gt),?_⟩
 by_cases hk:kk=0
 ·subst hk
  exact⟨fun e=>(by omega),fun e=>(by omega)⟩
 ·have h2:=hK.2
  rw[hks hk]at h2
  exact Vd h2 hI.2.2 gt gc
def Akz(P:Program)(tA:List (Rw (Nat×List Nd)))(n:Nat)(fnA:Func)(cA:Code)(sa:List Value)(sr:Value):Bool:=Akk P eqO tA (fun _=>[]) n fnA cA sa [] (0,[]) (fun t _=>W5 t sr)
theorem Ak0(hm:P.follows .mixedOrders=true){prs:List (Pr P)}{d:Bool}{tA:List (Rw (Nat×List Nd))}(hA:TOk P (TV prs d) tA){n:Nat}{fA:Nat}{fnA:Func}{cA:Code}(hfA:P.funcs[fA]? =some fnA)(hbA:fnA.body=some cA){sa:List Value}{sr:Value}(hsr:TU sr=true)(h:Akz P tA n fnA cA sa sr=true)(rest:List Value)(g:Aj (G2 []) sa rest):
    ∃v,Sj P fA rest v/\G2 [] sr v:=by
 unfold Akz at h
 obtain⟨v,t,F,hK,q1,q2,q3,gt,hF⟩:=Sd (τ:=[]) Hv hA hm hfA hbA h g (fun f hf=>by cases hf)
 exact⟨v,⟨q1,q2,q3⟩,Ht _ _ hsr (RR hK gt)⟩
abbrev Ent:=Nat×Bool×Nat×List Value×Value
def neL:List Value->Bool
 |[]=>false
 |_=>true
def At7(e:Ent)(args:List Value):Bool:=neL e.2.2.2.1&&Gs W5 args e.2.2.2.1
def Ak1{σ:Type}(eq:PM σ)(tbl:List (Rw σ))(e:Ent)(P:Program)(args:List Value)(b:Value)(F:Fct)(s:σ)(K:Value->Value->Fct->σ->Bool):Bool:=
 match P.funcs[e.1]? with
 | some fn=>(match fn.body with
  | some c=>(match e.2.1 with
   | true=>(match b with
    | .bool true=>(match At7 e args with
     |true=>K e.2.2.2.2 (.bool true) F s
     |false=>Xp P eq tbl (fun _=>[]) e.2.2.1 fn c args (.bool true) F s K)
    |b=>Xp P eq tbl (fun _=>[]) e.2.2.1 fn c args b F s K)
   | false=>(match args.all MF with
    |true=>Akk P eq tbl (fun _=>[]) e.2.2.1 fn c args F s (fun t F'=>K t b F' s)
    |false=>(match At7 e args with
     |true=>K e.2.2.2.2 b F s
     |false=>Akk P eq tbl (fun _=>[]) e.2.2.1 fn c args F s (fun t F'=>K t b F' s))))
  |none=>false)
 |none=>false
def AC9{σ:Type}(eq:PM σ)(tbl:List (Rw σ))(e:Ent):Rw σ:={fn:=e.1,flow:=e.2.1,run:=Ak1 eq tbl e}
def Aag(P:Program)(e:Ent):Prop:=(∀(args:Array Value) (w:World),(callFunc e.1 args).run P w=.ok (.enter e.1 args) w)/\e.2.2.2.1.all TU=true/\TU e.2.2.2.2=true/\
 (neL e.2.2.2.1=true->e.2.1=true->∀rest,Aj (G2 []) e.2.2.2.1 rest->∃v,CallsOk P e.1 true rest v true/\G2 [] e.2.2.2.2 v)/\(neL e.2.2.2.1=true->e.2.1=false->∀rest,Aj (G2 []) e.2.2.2.1 rest->∃v,Sj P e.1 rest v/\G2 [] e.2.2.2.2 v)
theorem Aah(hm:P.follows .mixedOrders=true){σ:Type}{I:List Int->σ->Bool->Prop}{eq:PM σ}(heq:UE I eq){tbl:List (Rw σ)}(hT:TOk P I tbl){e:Ent}(he:Aag P e):RwOk P I (AC9 eq tbl e) where
 go:=he.1
 okF :=fun hfl {args rest c' F s K τ bad} h g gb hF hI=>by
  have h:Ak1 eq tbl e P args c' F s K=true:=h
  have hfl:e.2.1=true:=hfl
  unfold Ak1 at h
  split at h
  ·rename_i fn hf
   split at h
   ·rename_i c hb
    rw[hfl]at h
    dsimp only at h
    split at h
    ·have eb:=gb.1
     cases eb
     split at h
     rotate_left
     ·exact Kf heq hT hm hf hb h g gb hF hI
     rename_i hfit
     unfold At7 at hfit
     rw[Zn]at hfit
     have g0:Aj (G2 []) e.2.2.2.1 rest:=nnL (R:=G2 τ) (S:=G2 []) Ht he.2.1 (FI hfit.2 g)
     obtain⟨v,⟨q1,q2,q3⟩,gv⟩:=he.2.2.2.1 hfit.1 hfl rest g0
     exact⟨v,true,τ,_,_,F,s,h,q1,q2,q3,Fj.refl _,Ht _ _ he.2.2.1 gv,⟨rfl,rfl⟩,hF,hI⟩
    ·exact Kf heq hT hm hf hb h g gb hF hI
   ·cases h
  ·cases h
 okP :=fun hfl _ {args rest c' F s K τ} h g hF=>by
  have h:Ak1 eq tbl e P args c' F s K=true:=h
  have hfl:e.2.1=false:=hfl
  unfold Ak1 at h
  split at h
  ·rename_i fn hf
   split at h
   ·rename_i c hb
    rw[hfl]at h
    dsimp only at h
    split at h
    ·exact Sd (I:=I) heq hT hm hf hb h g hF
    ·split at h
     rotate_left
     ·exact Sd (I:=I) heq hT hm hf hb h g hF
     rename_i hfit
     unfold At7 at hfit
     rw[Zn]at hfit
     have g0:Aj (G2 []) e.2.2.2.1 rest:=nnL (R:=G2 τ) (S:=G2 []) Ht he.2.1 (FI hfit.2 g)
     obtain⟨v,⟨q1,q2,q3⟩,gv⟩:=he.2.2.2.2 hfit.1 hfl rest g0
     exact⟨v,_,F,h,q1,q2,q3,Ht _ _ he.2.2.1 gv,hF⟩
   ·cases h
  ·cases h
theorem AJh{fn:Bool->Nat}{kk:Nat}(hkk:Sy kk=true)(hi:∀d,P.inits.idxOf? (fn d)=none){sa:List Value}{sr:Value}
    (h0:∀rest,Aj (G2 []) sa rest->∃v b,CallsOk P (fn false) false rest v b/\G2 [] sr v/\(b=false->CallsOk P (fn true) false rest v false)/\XA kk sr v b)
    (h1:∀rest,Aj (G2 []) sa rest->∃v b,CallsOk P (fn true) false rest v b/\G2 [] sr v/\(b=false->CallsOk P (fn false) false rest v false)/\XA kk sr v b)
    (hb:∀d rest,Aj (G2 []) sa rest->∃v,CallsOk P (fn d) true rest v true/\G2 [] sr v/\XA kk sr v true):∃g,BY P fn sa sr kk g:=by
 have hn:kk=0∨kk=4∨kk=5:=by
  unfold Sy at hkk
  rw[Zu,Zu]at hkk
  rcases hkk with (h |h)|h
  ·exact .inl (Zq h)
  ·exact .inr (.inl (Zq h))
  ·exact .inr (.inr (Zq h))
 have key:∀x:Bool×Bool×List Value,∃y:Value×Bool,Aj (G2 []) sa x.2.2->AAj P kk (fn x.1) x.2.1 x.2.2 y.1 y.2/\(x.2.1=true->y.2=true)/\G2 [] sr y.1/\(kk=4->Ad9 y.1=true)/\(kk=1∨kk=2∨kk=3∨kk=6->y.2=true->y.1=.int .i64 0)/\(kk=5->y.2=true->y.1=N4 sr)/\(kk=7->y.2=false->Aea y.1=true):=by
  have hk:∀(v:Value) (b:Bool),XA kk sr v b->(kk=4->Ad9 v=true)/\(kk=1∨kk=2∨kk=3∨kk=6->b=true->v=.int .i64 0)/\(kk=5->b=true->v=N4 sr)/\(kk=7->b=false->Aea v=true):=fun v b h=>⟨h.1,fun e=>(by omega),h.2,fun e=>(by omega)⟩
  rintro⟨d,b,rest⟩
  by_cases hc:Aj (G2 []) sa rest
  ·cases b with
   |true=>
    obtain⟨v,k1,k2,k3⟩:=hb d rest hc
    exact⟨(v,true),fun _=>⟨⟨fun _=>k1,fun e=>(by omega)⟩,fun _=>rfl,k2,hk v true k3⟩⟩
   | false=>
    cases d with
    |false=>
     obtain⟨v,b,k1,k2,_,k3⟩:=h0 rest hc
     exact⟨(v,b),fun _=>⟨⟨fun _=>k1,fun e=>(by omega)⟩,fun e=>(by cases e),k2,hk v b k3⟩⟩
    |true=>
     obtain⟨v,b,k1,k2,_,k3⟩:=h1 rest hc
     exact⟨(v,b),fun _=>⟨⟨fun _=>k1,fun e=>(by omega)⟩,fun e=>(by cases e),k2,hk v b k3⟩⟩
  ·exact⟨(undef,false),fun e=>absurd e hc⟩
 refine⟨fun d b rest=>Classical.choose (key (d,b,rest)),fun d b rest hc=>Zv (key (d,b,rest)) hc,fun rest hc=>?_,?_⟩
 ·dsimp only
  obtain⟨k0,_⟩:=Zv (key (false,false,rest)) hc
  obtain⟨k1,_⟩:=Zv (key (true,false,rest)) hc
  generalize Classical.choose (key (false,false,rest))=y0 at *
  generalize Classical.choose (key (true,false,rest))=y1 at *
  obtain⟨v,b,a1,_,a3,_⟩:=h0 rest hc
  obtain⟨w,c,c1,_,c3,_⟩:=h1 rest hc
  obtain⟨e1,e2⟩:=(k0.1 (by omega)).det (hi false) a1
  obtain⟨e3,e4⟩:=(k1.1 (by omega)).det (hi true) c1
  have hbc:b=c:=by
   cases b with
   |false=>exact((c1.det (hi true) (a3 rfl)).2).symm
   |true=>
    cases c with
    |true=>rfl
    |false=>exact(a1.det (hi false) (c3 rfl)).2
  refine⟨e2.trans (hbc.trans e4.symm),fun e=>?_⟩
  have hb0:b=false:=e2.symm.trans e
  exact e1.trans ((((k1.1 (by omega)).det (hi true) (a3 hb0)).1).symm)
 ·refine⟨⟨fun e=>?_,fun e=>?_,fun e=>?_,fun e=>?_⟩,fun e=>?_,fun e=>?_,fun e=>?_⟩<;>(exfalso;omega)
end
end Nx
section
open Go.RowKit
attribute [local go_sem ↓] Go.wp_at_zero Go.wp_at_succ
theorem Ls(n d:Int)(w:World)(h0:0<=n)(h1:n<=85070591730234615865843651857942052864)(hq:hi64 n<d)(hd:d<=4611686018427387904):
    Calls Zm 275 #[.agg #[.int .u64 (hi64 n),.int .u64 (lo64 n)],.int .u64 d] w fun e w'=>e=.returned (.int .u64 (n / d))/\Below w.heap.size w w':=by
 have b1:=ED n h0 (by omega)
 have b2:=BN n
 have hd0:0<d:=by omega
 go_enter Tryz.func275,Tryz.ntmps275
 go_wp2
 go_loop [6,5,7] (fun vr vq vj=>∃j:Int,-1<=j/\j<=63/\vr=.int .u64 (ldr n d (j+1).toNat)/\vq=.int .u64 (ldq n d (j+1).toNat)/\vj=.int .i64 j) (fun _ _ vj=>(intOf vj+1).toNat)
 case atStart=>
  have:=Ail n d h0 hq
  exact⟨63,by omega,by omega,by show _=Value.int .u64 (ldr n d 64);rw[this.2],by show _=Value.int .u64 (ldq n d 64);rw[this.1],rfl⟩
 case round=>
  obtain⟨j,hj0,hj1,rfl,rfl,rfl⟩:=hrel
  by_cases hj:0<=j
  ·obtain⟨m,rfl⟩:=Zs hj
   rw[show((m:Int)+1).toNat=m+1 by omega]
   have HS:Hid _:=T6 n d m hd0
   have HR:Hid _:=Aik n d (m+1) hd0
   have HQ:Hid _:=RA n d m hd0 h0 hq
   have HQ1:Hid _:=RA n d (m+1) hd0 h0 hq
   have HL:Hid _:=Z2 n m (by omega)
   generalize ldr n d (m+1)=r at *
   generalize ldq n d (m+1)=q at *
   have r1:=HR.out
   have HJ:Hid _:=Z3 n r m (by omega) r1.1 (by omega)
   go_wp2
   ·rename_i hc
    rw[HJ.out]at hc ⊢
    have e:=HS.out.1 hc
    have q1:=HQ.out
    have q2:=HQ1.out
    refine⟨⟨(m:Int)-1,by omega,by omega,?_,?_,rfl⟩,by simp[intOf]⟩
    ·rw[show((m:Int)-1+1).toNat=m by omega,e.2,IntKind.wrap_u64];congr 1;omega
    ·rw[show((m:Int)-1+1).toNat=m by omega,e.1,ABv q q2.1 (by omega)]
   ·rename_i hc
    rw[HJ.out]at hc ⊢
    have e:=HS.out.2 hc
    have q1:=HQ.out
    have q2:=HQ1.out
    refine⟨⟨(m:Int)-1,by omega,by omega,?_,?_,rfl⟩,by simp[intOf]⟩
    ·rw[show((m:Int)-1+1).toNat=m by omega,e.2]
    ·rw[show((m:Int)-1+1).toNat=m by omega,e.1,IntKind.wrap_u64];congr 1;omega
  ·go_wp2
   go_ret
   obtain rfl:j=-1:=by omega
   have:=Azp n d
   exact⟨BW this.1,by go_grown⟩
theorem SA(n d:Int)(w:World)(h0:0<=n)(h1:n<=21267647932558653966460912964485513216)(hd:1<=d)(hd':d<=4611686018427387904):
    Calls Zm 238 #[.agg #[.int .u64 (hi64 n),.int .u64 (lo64 n)],.int .u64 d] w fun e w'=>e=.returned (.int .u64 (ER (rnd n d)))/\Below w.heap.size w w':=by
 have HM:Hid _:=Ain n d hd
 have HI:Hid _:=ABw n d hd
 go_enter Tryz.func238,Tryz.ntmps238
 go_wp2_with fail
 refine(Uc n (d / 2) _ h0 (by omega) (by omega) (by omega)).mono ?_
 rintro e w1 ⟨rfl,hb⟩
 obtain⟨hc,hf⟩:=Z5 hb
 have hz:w.heap.size<w1.heap.size:=by have:=hb.size;simp at this;omega
 have hw:∀u v,Below w.heap.size w ((w1.setCell ⟨w.heap.size,0,none⟩ u).setCell ⟨w.heap.size,1,none⟩ v):=fun u v=>((((Below.refl _ _).alloc (Zo _) _).trans (hb.mono (by simp))).setCell (Zo _) _).setCell (Zo _) _
 have HW:Hid _:=hw
 clear hw hb
 have n0:0<=n+d / 2:=by omega
 have n1:n+d / 2<=85070591730234615865843651857942052864:=by omega
 clear h0 h1
 generalize n+d / 2=m at *
 have b1:=ED m n0 (by omega)
 have b2:=BN m
 have HE:Hid _:=IN m
 by_cases c:d<=hi64 m
 ·go_wp2
  go_ret
  exact⟨BW (HM.out c),HW.out _ _⟩
 ·by_cases c2:hi64 m=0
  ·have c3:(hi64 m==0)=true:=by simp[c2]
   have d0:(d==0)=false:=by simp;omega
   have HC:Hid _:=c2
   clear c2
   go_wp2
   go_ret
   refine⟨BW ?_,HW.out _ _⟩
   rw[<-HI.out (by omega)]
   congr 1
   have:=HE.out
   rw[HC.out]at this
   omega
  ·have c3:(hi64 m==0)=false:=by simp[c2]
   have HC:Hid _:=c2
   clear c2
   go_wp2_with fail
   refine(Ls m d _ n0 n1 (by omega) hd').mono ?_
   rintro e w2 ⟨rfl,hb2⟩
   go_wp2
   go_ret
   exact⟨BW (HI.out (by omega)),(HW.out _ _).trans (hb2.mono (by simp;omega))⟩
theorem Ve(n:Int)(w:World):
    Calls Zm 226 #[.agg #[.int .u64 (hi64 n),.int .u64 (lo64 n)]] w fun e w'=>e=.returned (.int .u64 (isq n))/\Below w.heap.size w w':=by
 go_enter Tryz.func226,Tryz.ntmps226
 go_wp2
 have HB0:Hid (Below (w.heap.size+1) (w.alloc (.cells #[.int .u64 (hi64 n),.int .u64 (lo64 n)] 246)) (w.alloc (.cells #[.int .u64 (hi64 n),.int .u64 (lo64 n)] 246))):=Below.refl _ _
 go_loopw [3,4] (fun v3 v4 wr=>∃(j:Nat) (r:Int),j<=63/\v3=.int .u64 r/\v4=.int .u64 (bitAt j)/\0<=r/\Hid (Fo n j r=isq n/\r % 2^j=0/\r+2^j<=9223372036854775808)/\Hid (Below (w.heap.size+1) (w.alloc (.cells #[.int .u64 (hi64 n),.int .u64 (lo64 n)] 246)) wr)) (fun _ v4 _=>(intOf v4).toNat)
 case atStart=>exact⟨63,0,Zo _,rfl,rfl,Int.le_refl _,⟨rfl,rfl,by decide⟩,HB0⟩
 case round=>
  obtain⟨j,r,hj,rfl,rfl,hr0,HR,HB⟩:=hrel
  cases j with
  |zero=>
   have hz:(bitAt 0 != 0)=false:=rfl
   go_wp2
   go_ret
   exact⟨BW HR.out.1,((Below.refl _ _).alloc (Zo _) _).trans (HB.out.mono (by omega))⟩
  | succ j=>
   have HE:Hid (bitAt (j+1)=2^j):=rfl
   have hbd:=JO (j+1) hj
   have HH:Hid _:=WM j
   have HO:Hid _:=ABx r j hr0 HR.out.2.1 (by have:=HR.out.2.2;have:=BV (j+1);omega) (by omega)
   have HD:Hid _:=Asd r j HR.out.2.2
   have HM:Hid _:=RB r j HR.out.2.1
   have HP:Hid _:=BV j
   have HF:Hid (Fo n (j+1) r=Fo n j (if (r+2^j)*(r+2^j)<=n then r+2^j else r)):=rfl
   have hne:(bitAt (j+1) != 0)=true:=by rw[HE.out];simp;have:=HP.out;omega
   have hor:bits .or .u64 r (bitAt (j+1))=r+bitAt (j+1):=by rw[HE.out];exact HO.out
   have hle:r+bitAt (j+1)<=9223372036854775807:=by rw[HE.out];have:=HD.out;have:=HP.out;omega
   have c0:=HB.out.cell (p:=⟨w.heap.size,0,none⟩) (by simp)
   have c1:=HB.out.cell (p:=⟨w.heap.size,1,none⟩) (by simp)
   simp at c0 c1
   have hzs:w.heap.size<wr.heap.size:=by have:=HB.out.size;simp at this;omega
   generalize bitAt (j+1)=t at *
   have hbd2:0<=r+t:=by omega
   have HJ:Hid (j<=63):=by show _<=_;omega
   clear hj
   go_wp2
   go_region_held3 (fun w'=>w'.cell? ⟨w.heap.size,0,none⟩=some (.int .u64 (hi64 n))/\w'.cell? ⟨w.heap.size,1,none⟩=some (.int .u64 (lo64 n))) ((first |exact⟨c0,c1⟩|exact⟨cell_later hb1 c0,cell_later hb1 c1⟩|exact⟨cell_later hb2 (cell_later hb1 c0),cell_later hb2 (cell_later hb1 c1)⟩))
    (first
     |(go_at_call 213;refine(Ej (r+t) (r+t) _ hbd2 (by omega) hbd2 (by omega)).mono ?_;rintro e w1 ⟨rfl,hb1⟩;obtain⟨d1,d2⟩:=Z5 hb1)
     |(go_at_call 269;refine(WQ _ _ _).mono ?_;rintro e w2 ⟨rfl,hb2⟩;obtain⟨d3,d4⟩:=Z5 hb2))
   have HW:Hid (Below (w.heap.size+1) (w.alloc (.cells #[.int .u64 (hi64 n),.int .u64 (lo64 n)] 246)) w2):=(HB.out.drew.trans (hb1.mono (B':=w.heap.size+1) (by simp;omega))).trans (hb2.mono (B':=w.heap.size+1) (by have:=hb1.size;simp at this;omega))
   have hle2:=HD.out
   rw[<-HE.out]at hle2
   have HF2:Hid (Fo n (j+1) r=Fo n j (if (r+t)*(r+t)<=n then r+t else r)):=by rw[HE.out];exact HF.out
   have HM2:Hid (r % 2^j=0/\(r+t) % 2^j=0):=by rw[HE.out];exact HM.out
   have ht:t / 2=bitAt j:=HH.out
   have ht0:0<t:=by rw[HE.out];exact HP.out
   have HT:Hid _:=ht
   clear ht hb1 hb2 d1 d2 d3 d4 c0 c1 hor
   cases c:decide (n<(r+t)*(r+t))
   ·have hc:=Int.not_lt.mp (of_decide_eq_false c)
    have HC:Hid _:=hc
    clear hc
    clear c
    go_wp2
    refine⟨⟨j,r+t,HJ.out,rfl,?_,hbd2,⟨?_,HM2.out.2,?_⟩,HW.out⟩,?_⟩
    ·rw[<-HT.out]
    ·rw[<-HR.out.1,HF2.out,if_pos HC.out]
    ·rw[<-HE.out];omega
    ·simp[intOf];omega
   ·have hc:=of_decide_eq_true c
    have HC:Hid _:=hc
    clear hc
    clear c
    go_wp2
    refine⟨⟨j,r,HJ.out,rfl,?_,hr0,⟨?_,HM2.out.1,?_⟩,HW.out⟩,?_⟩
    ·rw[<-HT.out]
    ·rw[<-HR.out.1,HF2.out,if_neg (Int.not_le.mpr HC.out)]
    ·rw[<-HE.out];omega
    ·simp[intOf];omega
end
section
open Go.RowKit
theorem DJ(b:Nat)(bad:Bool)(x y:Int)(w:World)(hw:Fl b bad w):
    Calls Zm 134 #[.pointer (some ⟨b,0,none⟩),.int .i64 x,.int .i64 y] w fun e w'=>e=.returned (.int .i64 (Ap bad x y).1)/\Fl b (Ap bad x y).2 w'/\Ad b w w':=by
 go_enter Tryz.func134,Tryz.ntmps134
 go_wp2_with fail
 refine(RD b bad x y w hw).mono ?_
 rintro e w1 ⟨rfl,h2,h3⟩
 cases c:tk bad [x,y]
 ·rw[c]at h2
  have HS:Hid _:=MM c
  have H2:Hid _:=h2
  have H3:Hid _:=h3
  clear c h2 h3 hw
  go_wp2
  go_ret
  rw[HS.out]
  exact⟨rfl,H2.out,H3.out⟩
 ·rw[c]at h2
  have HS:Hid _:=Hf c
  have H3:Hid _:=h3
  clear h3
  have ht:=Df c
  have hx:=Bh ht.2.1
  have hy:=Bh ht.2.2
  clear c hw ht
  go_wp2_with fail
  refine(P5 b _ _ h2).mono ?_
  rintro e w2 ⟨rfl,h4,h5⟩
  go_wp2
  go_ret
  rw[HS.out]
  rw[Ru (x+y) (by omega)]at h4 ⊢
  exact⟨rfl,h4,H3.out.trans h5⟩
theorem Eg(b:Nat)(bad:Bool)(x y:Int)(w:World)(hw:Fl b bad w):
    Calls Zm 122 #[.pointer (some ⟨b,0,none⟩),.int .i64 x,.int .i64 y] w fun e w'=>e=.returned (.int .i64 (AJ bad x y).1)/\Fl b (AJ bad x y).2 w'/\Ad b w w':=by
 go_enter Tryz.func122,Tryz.ntmps122
 go_wp2_with fail
 refine(RD b bad x y w hw).mono ?_
 rintro e w1 ⟨rfl,h2,h3⟩
 cases c:tk bad [x,y]
 ·rw[c]at h2
  have HS:Hid _:=MN c
  have H2:Hid _:=h2
  have H3:Hid _:=h3
  clear c h2 h3 hw
  go_wp2
  go_ret
  rw[HS.out]
  exact⟨rfl,H2.out,H3.out⟩
 ·rw[c]at h2
  have HS:Hid _:=Nl c
  have H3:Hid _:=h3
  clear h3
  have ht:=Df c
  have hx:=Bh ht.2.1
  have hy:=Bh ht.2.2
  clear c hw ht
  go_wp2_with fail
  refine(P5 b _ _ h2).mono ?_
  rintro e w2 ⟨rfl,h4,h5⟩
  go_wp2
  go_ret
  rw[HS.out]
  rw[Ru (x-y) (by omega)]at h4 ⊢
  exact⟨rfl,h4,H3.out.trans h5⟩
theorem Aw(b:Nat)(bad:Bool)(x y:Int)(w:World)(hw:Fl b bad w):
    Calls Zm 127 #[.pointer (some ⟨b,0,none⟩),.int .i64 x,.int .i64 y] w fun e w'=>e=.returned (.int .i64 (mulS bad x y).1)/\Fl b (mulS bad x y).2 w'/\Ad b w w':=by
 go_enter Tryz.func127,Tryz.ntmps127
 go_wp2_with fail
 refine(RD b bad x y w hw).mono ?_
 rintro e w1 ⟨rfl,h2,h3⟩
 cases c:tk bad [x,y]
 ·rw[c]at h2
  have HS:Hid _:=MO c
  have H2:Hid _:=h2
  have H3:Hid _:=h3
  clear c h2 h3 hw
  go_wp2
  go_ret
  rw[HS.out]
  exact⟨rfl,H2.out,H3.out⟩
 ·rw[c]at h2
  have HS:Hid _:=Aii c
  have H2:Hid _:=h2
  have H3:Hid _:=h3
  have ht:=Df c
  have hx:=ES ht.2.1
  have hy:=ES ht.2.2
  have HX:Hid _:=ht.2.1
  have HY:Hid _:=ht.2.2
  clear c hw ht h2 h3
  go_wp2_with fail
  refine(Ek x _ HX.out).mono ?_
  rintro e w2 ⟨rfl,rfl⟩
  go_wp2_with fail
  refine(Ek y _ HY.out).mono ?_
  rintro e w2 ⟨rfl,rfl⟩
  go_wp2_with fail
  refine(Ej (sz x) (sz y) _ hx.1 (by omega) hy.1 (by omega)).mono ?_
  rintro e w3 ⟨rfl,h4⟩
  have H4:Hid _:=h4
  clear h4
  go_wp2_with fail
  refine(Ud (sz x*sz y) _ (CP HX.out HY.out).1 (by have:=CP HX.out HY.out;omega)).mono ?_
  rintro e w4 ⟨rfl,h5⟩
  have hf:=((H2.out.below H4.out).alloc _).below h5
  have HK:Hid (Ad b w w4):=((H3.out.trans (Ad.of_below H4.out)).trans (Ad.alloc b _ _)).trans (Ad.of_below h5)
  have HB:Hid _:=Aij ((sz x*sz y+549755813888) / 1099511627776) (by have:=CP HX.out HY.out;omega)
  clear h5
  go_wp2_with fail
  refine(Gm b _ _ _ hf HB.out.1 HB.out.2).mono ?_
  rintro e w5 ⟨rfl,h6,h7⟩
  go_wp2
  go_ret
  rw[HS.out]
  rw[Z1]at h6 ⊢
  exact⟨rfl,h6,HK.out.trans h7⟩
theorem CF(b:Nat)(bad:Bool)(x p q:Int)(w:World)(hw:Fl b bad w):
    Calls Zm 151 #[.pointer (some ⟨b,0,none⟩),.int .i64 x,.int .i64 p,.int .i64 q] w fun e w'=>e=.returned (.int .i64 (Af bad x p q).1)/\Fl b (Af bad x p q).2 w'/\Ad b w w':=by
 go_enter Tryz.func151,Tryz.ntmps151
 go_wp2_with fail
 refine(Aiz b bad x p q w hw).mono ?_
 rintro e w1 ⟨rfl,h2,h3⟩
 cases c:tk bad [x,p,q]
 ·rw[c]at h2
  have HS:Hid _:=Ca c
  have H2:Hid _:=h2
  have H3:Hid _:=h3
  clear c h2 h3 hw
  go_wp2
  go_ret
  rw[HS.out]
  exact⟨rfl,H2.out,H3.out⟩
 ·rw[c]at h2
  have H2:Hid _:=h2
  have H3:Hid _:=h3
  clear hw h2 h3
  by_cases q0:q=0
  ·subst q0
   have HS:Hid _:=Nm (bad:=bad) (a:=x) (p:=p)
   clear c
   go_wp2_with fail
   refine(BA b _ _ H2.out).mono ?_
   rintro e w2 ⟨rfl,h4,h5⟩
   go_wp2
   go_ret
   rw[HS.out]
   exact⟨rfl,h4,H3.out.trans h5⟩
  ·have q1:(q==0)=false:=by simpa using q0
   have q2:(q != 0)=true:=by simpa using q0
   have HS:Hid _:=FP c q2
   have ht:=Ei c
   have hx:=ES ht.2.1
   have hp:=ES ht.2.2.1
   have hq:=ES ht.2.2.2
   have hq1:=WK q2
   have HX:Hid _:=ht.2.1
   have HP:Hid _:=ht.2.2.1
   have HQ:Hid _:=ht.2.2.2
   clear c ht q0 q2
   go_wp2_with fail
   refine(Ek x _ HX.out).mono ?_
   rintro e w2 ⟨rfl,rfl⟩
   go_wp2_with fail
   refine(Ek p _ HP.out).mono ?_
   rintro e w2 ⟨rfl,rfl⟩
   go_wp2_with fail
   refine(Ej (sz x) (sz p) _ hx.1 (by omega) hp.1 (by omega)).mono ?_
   rintro e w3 ⟨rfl,h4⟩
   have H4:Hid _:=h4
   clear h4
   go_wp2_with fail
   refine(Ek q _ HQ.out).mono ?_
   rintro e w2 ⟨rfl,rfl⟩
   go_wp2_with fail
   refine(SA (sz x*sz p) (sz q) _ (CP HX.out HP.out).1 (CP HX.out HP.out).2 hq1 hq.2).mono ?_
   rintro e w4 ⟨rfl,h5⟩
   have hf:=(H2.out.below H4.out).below h5
   have HK:Hid (Ad b w w4):=(H3.out.trans (Ad.of_below H4.out)).trans (Ad.of_below h5)
   have HB:Hid _:=Aij (rnd (sz x*sz p) (sz q)) (ET (CP HX.out HP.out).1 hq1)
   clear h5
   go_wp2_with fail
   refine(Gm b _ _ _ hf HB.out.1 HB.out.2).mono ?_
   rintro e w5 ⟨rfl,h6,h7⟩
   go_wp2
   go_ret
   rw[HS.out]
   rw[Z1]at h6 ⊢
   exact⟨rfl,h6,HK.out.trans h7⟩
theorem DK(b:Nat)(bad:Bool)(x y:Int)(w:World)(hw:Fl b bad w):
    Calls Zm 211 #[.pointer (some ⟨b,0,none⟩),.int .i64 x,.int .i64 y] w fun e w'=>e=.returned (.int .i64 (AA bad x y).1)/\Fl b (AA bad x y).2 w'/\Ad b w w':=by
 go_enter Tryz.func211,Tryz.ntmps211
 go_wp2_with fail
 refine(CF b bad x 1099511627776 y w hw).mono ?_
 rintro e w1 ⟨rfl,h2,h3⟩
 go_wp2
 go_ret
 exact⟨rfl,h2,h3⟩
theorem N7(b:Nat)(bad:Bool)(x:Int)(w:World)(hw:Fl b bad w):
    Calls Zm 210 #[.pointer (some ⟨b,0,none⟩),.int .i64 x] w fun e w'=>e=.returned (.int .i64 (B5 bad x).1)/\Fl b (B5 bad x).2 w'/\Ad b w w':=by
 go_enter Tryz.func210,Tryz.ntmps210
 go_wp2_with fail
 refine(ABz b bad x w hw).mono ?_
 rintro e w1 ⟨rfl,h2,h3⟩
 cases c:tk bad [x]
 ·rw[c]at h2
  have HS:Hid _:=No c
  have H2:Hid _:=h2
  have H3:Hid _:=h3
  clear c h2 h3 hw
  go_wp2
  go_ret
  rw[HS.out]
  exact⟨rfl,H2.out,H3.out⟩
 ·rw[c]at h2
  have H2:Hid _:=h2
  have H3:Hid _:=h3
  clear hw h2 h3
  by_cases x0:0<=x
  ·have HS:Hid _:=P3 c x0
   have ht:=Aih c
   have hx:=ES ht.2
   have HX:Hid _:=ht.2
   have HE:Hid (sz x=x):=P1 x0
   clear c ht
   go_wp2_with fail
   refine(Ek x _ HX.out).mono ?_
   rintro e w2 ⟨rfl,rfl⟩
   rw[HE.out]at hx ⊢
   go_wp2_with fail
   refine(Ej x 1099511627776 _ x0 (by omega) (by omega) (by omega)).mono ?_
   rintro e w3 ⟨rfl,h4⟩
   have H4:Hid _:=h4
   clear h4
   go_wp2_with fail
   refine(Ve (x*1099511627776) _).mono ?_
   rintro e w4 ⟨rfl,h5⟩
   have hf:=(H2.out.below H4.out).below h5
   have HK:Hid (Ad b w w4):=(H3.out.trans (Ad.of_below H4.out)).trans (Ad.of_below h5)
   have HB:Hid _:=Aio (x*1099511627776) (by omega) (by omega)
   clear h5
   go_wp2_with fail
   refine(Gm b _ _ _ hf HB.out.1 HB.out.2).mono ?_
   rintro e w5 ⟨rfl,h6,h7⟩
   go_wp2
   go_ret
   rw[HS.out]
   exact⟨rfl,h6,HK.out.trans h7⟩
  ·have HS:Hid _:=P2 (bad:=bad) x0
   have x1:x<0:=by omega
   clear c x0
   go_wp2_with fail
   refine(BA b _ _ H2.out).mono ?_
   rintro e w2 ⟨rfl,h4,h5⟩
   go_wp2
   go_ret
   rw[HS.out]
   exact⟨rfl,h4,H3.out.trans h5⟩
theorem At8(b:Nat)(bad:Bool)(x y:Int)(w:World)(hw:Fl b bad w):
    Calls Zm 212 #[.pointer (some ⟨b,0,none⟩),.int .i64 x,.int .i64 y] w fun e w'=>e=.returned (.int .i64 (Gl bad x y).1)/\Fl b (Gl bad x y).2 w'/\Ad b w w':=by
 go_enter Tryz.func212,Tryz.ntmps212
 go_wp2_with fail
 refine(RD b bad x y w hw).mono ?_
 rintro e w1 ⟨rfl,h2,h3⟩
 cases c:tk bad [x,y]
 ·rw[c]at h2
  have HS:Hid _:=Rv c
  have H2:Hid _:=h2
  have H3:Hid _:=h3
  clear c h2 h3 hw
  go_wp2
  go_ret
  rw[HS.out]
  exact⟨rfl,H2.out,H3.out⟩
 ·rw[c]at h2
  have H2:Hid _:=h2
  have H3:Hid _:=h3
  have ht:=Df c
  have hx:=Bh ht.2.1
  have hy:=Bh ht.2.2
  clear hw h2 h3 ht
  by_cases y0:0<y
  ·have HS:Hid _:=Nn c y0
   have HM:Hid _:=T5 x y y0
   have hb:=Fu x y y0
   have d0:(y==0)=false:=by simp;omega
   clear c
   go_wp2
   ·go_ret
    rw[HS.out]
    exact⟨BW (HM.out.1 (by assumption)),H2.out,H3.out⟩
   ·go_ret
    rw[HS.out]
    exact⟨BW (HM.out.2 (by assumption)),H2.out,H3.out⟩
  ·have HS:Hid _:=TZ (bad:=bad) (a:=x) y0
   have y1:y<=0:=by omega
   clear c y0
   go_wp2_with fail
   refine(BA b _ _ H2.out).mono ?_
   rintro e w2 ⟨rfl,h4,h5⟩
   go_wp2
   go_ret
   rw[HS.out]
   exact⟨rfl,h4,H3.out.trans h5⟩
theorem Jf(x:Int)(w:World)(h:numB x=true):
    Calls Zm 224 #[.int .i64 x] w fun e w'=>e=.returned (.agg #[.int .u64 (hi64 (x*x)),.int .u64 (lo64 (x*x))])/\Below w.heap.size w w':=by
 have hx:=ES h
 have HX:Hid _:=h
 have HE:Hid (sz x*sz x=x*x):=P4 x
 clear h
 go_enter Tryz.func224,Tryz.ntmps224
 go_wp2_with fail
 refine(Ek x _ HX.out).mono ?_
 rintro e w1 ⟨rfl,rfl⟩
 go_wp2_with fail
 refine(Ek x _ HX.out).mono ?_
 rintro e w1 ⟨rfl,rfl⟩
 go_wp2_with fail
 refine(Ej (sz x) (sz x) _ hx.1 (by omega) hx.1 (by omega)).mono ?_
 rintro e w3 ⟨rfl,hb⟩
 rw[HE.out]
 have hd:Wd w.heap.size 0 w3:=(ABy w 246).below hb
 have HD:Hid _:=hd.put (x*x)
 have HQ:Hid _:=World.cell?_setCell_same w3 ⟨w.heap.size,0,none⟩ (.int .u64 (hi64 (x*x))) hd.hi
 have HB:Hid (Below w.heap.size w w3):=((Below.refl _ _).alloc (Zo _) _).trans (hb.mono (by simp))
 have m1:=hd.hi
 have m2:=hd.lo
 have m3:=hd.fh
 have m4:=hd.fl
 clear hb hd
 go_wp2
 refine bodyPost_ret (v:=.agg #[.int .u64 (hi64 (x*x)),.int .u64 (lo64 (x*x))]) (by simp[results,Tryz.results224,go_sem,HQ.out,HD.out.lo]) rfl ?_
 exact⟨rfl,(HB.out.setCell (Zo _) _).setCell (Zo _) _⟩
theorem Kj(b:Nat)(bad:Bool)(x y z:Int)(w:World)(hw:Fl b bad w):
    Calls Zm 135 #[.pointer (some ⟨b,0,none⟩),.int .i64 x,.int .i64 y,.int .i64 z] w fun e w'=>e=.returned (.int .i64 (Ar bad x y z).1)/\Fl b (Ar bad x y z).2 w'/\Ad b w w':=by
 go_enter Tryz.func135,Tryz.ntmps135
 go_wp2_with fail
 refine(Aiz b bad x y z w hw).mono ?_
 rintro e w1 ⟨rfl,h2,h3⟩
 cases c:tk bad [x,y,z]
 ·rw[c]at h2
  have HS:Hid _:=Hg c
  have H2:Hid _:=h2
  have H3:Hid _:=h3
  clear c h2 h3 hw
  go_wp2
  go_ret
  rw[HS.out]
  exact⟨rfl,H2.out,H3.out⟩
 ·rw[c]at h2
  have H2:Hid _:=h2
  have H3:Hid _:=h3
  have HS:Hid _:=Ix c
  have ht:=Ei c
  have HX:Hid _:=ht.2.1
  have HY:Hid _:=ht.2.2.1
  have HZ:Hid _:=ht.2.2.2
  clear hw h2 h3 c ht
  go_wp2_with fail
  refine(Jf x _ HX.out).mono ?_
  rintro e w2 ⟨rfl,h4⟩
  have H4:Hid _:=h4
  clear h4
  go_wp2_with fail
  refine(Jf y _ HY.out).mono ?_
  rintro e w3 ⟨rfl,h5⟩
  have H5:Hid _:=h5
  clear h5
  go_wp2_with fail
  refine(Ub (x*x) (y*y) _ (BF HX.out).1 (BF HY.out).1 (by have:=BF HX.out;have:=BF HY.out;omega)).mono ?_
  rintro e w4 ⟨rfl,h6⟩
  have H6:Hid _:=h6
  clear h6
  go_wp2_with fail
  refine(Jf z _ HZ.out).mono ?_
  rintro e w5 ⟨rfl,h7⟩
  have H7:Hid _:=h7
  clear h7
  go_wp2_with fail
  refine(Ub (x*x+y*y) (z*z) _ (by have:=BF HX.out;have:=BF HY.out;omega) (BF HZ.out).1 (by have:=BF HX.out;have:=BF HY.out;have:=BF HZ.out;omega)).mono ?_
  rintro e w6 ⟨rfl,h8⟩
  have H8:Hid _:=h8
  clear h8
  have HN:Hid (0<=x*x+y*y+z*z/\x*x+y*y+z*z<85070591730234615865843651857942052864):=by show _/\_;have:=BF HX.out;have:=BF HY.out;have:=BF HZ.out;omega
  go_wp2_with fail
  refine(Ve (x*x+y*y+z*z) _).mono ?_
  rintro e w7 ⟨rfl,h9⟩
  have hf:Fl b false w7:=((((((H2.out.below H4.out).below H5.out).below H6.out).below H7.out).below H8.out).alloc _).below h9
  have HK:Hid (Ad b w w7):=((((((H3.out.trans (Ad.of_below H4.out)).trans (Ad.of_below H5.out)).trans (Ad.of_below H6.out)).trans (Ad.of_below H7.out)).trans (Ad.of_below H8.out)).trans (Ad.alloc b _ _)).trans (Ad.of_below h9)
  have HB:Hid _:=Aio _ HN.out.1 HN.out.2
  clear h9
  go_wp2_with fail
  refine(Gm b _ _ _ hf HB.out.1 HB.out.2).mono ?_
  rintro e w8 ⟨rfl,h10,h11⟩
  go_wp2
  go_ret
  rw[HS.out]
  exact⟨rfl,h10,HK.out.trans h11⟩
attribute [local go_sem ↓] Go.wp_at_zero Go.wp_at_succ
theorem Hw(a:Int)(w:World):
    Calls Zm 179 #[.int .i64 a] w fun e w'=>e=.returned (.bool (numB a))/\w'=w:=by
 go_enter Tryz.func179,Tryz.ntmps179
 go_wp2
 all_goals
  go_ret
  exact⟨Dz (by unfold numB;simp;try omega),rfl⟩
theorem Ak2(a b c d:Int)(w:World)(h1:0<=a/\a<=18446744073709551615)(h2:0<=b/\b<=18446744073709551615)(h3:0<=c/\c<=18446744073709551615)(h4:0<=d/\d<=18446744073709551615)
    (hs:a*18446744073709551616+b+(c*18446744073709551616+d)<=340282366920938463463374607431768211455):
    Calls Zm 189 #[.agg #[.int .u64 a,.int .u64 b],.agg #[.int .u64 c,.int .u64 d]] w fun e w'=>e=.returned (.agg #[.int .u64 (hi64 (a*18446744073709551616+b+(c*18446744073709551616+d))),.int .u64 (lo64 (a*18446744073709551616+b+(c*18446744073709551616+d)))])/\Below w.heap.size w w':=by
 have HS:Hid _:=hs
 clear hs
 go_enter Tryz.func189,Tryz.ntmps189
 go_wp2
 all_goals
  rename_i hq
  go_returns
  refine⟨Ns ?_ ?_,by go_grown⟩<;>(have hs:=HS.out;rw[IntKind.wrap_u64]at hq;simp only[IntKind.wrap_u64];first |unfold hi64 |unfold lo64);all_goals omega
theorem Hy(n m:Int)(w:World)(h0:0<=n)(k0:0<=m)(hs:n+m<=340282366920938463463374607431768211455):
    Calls Zm 189 #[.agg #[.int .u64 (hi64 n),.int .u64 (lo64 n)],.agg #[.int .u64 (hi64 m),.int .u64 (lo64 m)]] w fun e w'=>e=.returned (.agg #[.int .u64 (hi64 (n+m)),.int .u64 (lo64 (n+m))])/\Below w.heap.size w w':=by
 have e1:=IN n
 have e2:=IN m
 have:=Ak2 (hi64 n) (lo64 n) (hi64 m) (lo64 m) w (ED n h0 (by omega)) (BN n) (ED m k0 (by omega)) (BN m) (by omega)
 rw[e1,e2]at this
 exact this
theorem BR(a:Int)(w:World)(h:numB a=true):
    Calls Zm 190 #[.int .i64 a] w fun e w'=>e=.returned (.int .u64 (sz a))/\w'=w:=by
 have hb:=Bh h
 go_enter Tryz.func190,Tryz.ntmps190
 go_wp2
 all_goals
  go_ret
  exact⟨BW (by unfold sz;split<;>omega),rfl⟩
theorem Lt(b:Nat)(n:Int)(minus:Bool)(w:World)(hw:Fl b false w)(h0:0<=n)(h1:n<=18446744073709551615):
    Calls Zm 184 #[.pointer (some ⟨b,0,none⟩),.int .u64 n,.bool minus] w fun e w'=>e=.returned (.int .i64 (out n minus).1)/\Fl b (out n minus).2 w'/\Ad b w w':=by
 show Calls Zm 184 _ _ fun e w'=>e=.returned (.int .i64 (KZ n minus))/\Fl b (decide (4611686018427387904<n)) w'/\Ad b w w'
 have HW:Hid _:=hw
 obtain⟨hc,hf,hl⟩:=hw
 by_cases c:n<=4611686018427387904
 ·have HS:Hid _:=JM n minus c
  have HC:Hid (decide (4611686018427387904<n)=false):=by show _=_;simp;omega
  cases minus
  all_goals
   go_enter Tryz.func184,Tryz.ntmps184
   go_wp2
   go_ret
   rw[HC.out]
   exact⟨BW HS.out,HW.out,Ad.refl _ _⟩
 ·have HS:Hid _:=JN n minus c
  go_enter Tryz.func184,Tryz.ntmps184
  go_wp2
  go_ret
  exact⟨BW HS.out,HW.out.set true,(Ad.refl _ _).setCell _⟩
theorem Lu(b s:Nat)(bad:Bool)(zs:List Int)(w:World)(hw:Fl b bad w)(hz:Aiy s zs w)(hlen:zs.length<=3)(hsb:s≠b)(hs:s<w.heap.size):
    Calls Zm 178 #[.pointer (some ⟨b,0,none⟩),.slice (some ⟨s,0,none⟩) zs.length zs.length] w fun e w'=>e=.returned (.bool (tk bad zs))/\Fl b (!tk bad zs) w'/\Ad b w w':=by
 have HW:Hid _:=hw
 have HZ:Hid _:=hz
 clear hz hw
 go_enter Tryz.func178,Tryz.ntmps178
 go_wp2
 go_loopw [5] (fun v wr=>∃k:Nat,k<=zs.length/\v=.int .i64 k/\Hid (Fl b (bad|| !(zs.take k).all numB) wr)/\Hid (Ad b w wr)) (fun v _=>zs.length-(intOf v).toNat)
 case atStart=>exact⟨0,Nat.zero_le _,rfl,by show Fl _ _ _;simpa using HW.out,Ad.refl _ _⟩
 case round=>
  obtain⟨k,hk,rfl,HF,HK⟩:=hrel
  by_cases hlt:k<zs.length
  ·have hcell:wr.cell? ⟨s,k,none⟩=some (.int .i64 zs[k]):=(HK.out.cell (p:=⟨s,k,none⟩) hs hsb).trans (HZ.out k hlt)
   have HS:Hid _:=IX hlt
   generalize zs[k]=z at *
   cases c:numB z
   ·have HC2:Hid _:=c
    clear c
    have hf1:=HF.out.cell
    have hf2:=HF.out.free
    go_wp2_with fail
    refine(Hw _ _).mono ?_
    rintro e w1 ⟨rfl,rfl⟩
    rw[HC2.out]
    go_wp2
    refine⟨⟨k+1,by omega,by go_num,?_,HK.out.setCell _⟩,by simp[intOf];omega⟩
    show Fl _ _ _
    rw[HS.out,HC2.out]
    simpa using HF.out.set true
   ·have HC2:Hid _:=c
    clear c
    go_wp2_with fail
    refine(Hw _ _).mono ?_
    rintro e w1 ⟨rfl,rfl⟩
    rw[HC2.out]
    go_wp2
    refine⟨⟨k+1,by omega,by go_num,?_,HK.out⟩,by simp[intOf];omega⟩
    show Fl _ _ _
    rw[HS.out,HC2.out]
    simpa using HF.out
  ·have hf1:=HF.out.cell
   have HT:Hid (zs.take k=zs):=List.take_of_length_le (by omega)
   rw[HT.out]at hf1
   go_wp2
   go_ret
   have h1:=HF.out
   rw[HT.out,Aig]at h1
   exact⟨Dz rfl,h1,HK.out⟩
theorem ADa(b:Nat)(bad:Bool)(x:Int)(w:World)(hw:Fl b bad w):
    Calls Zm 178 #[.pointer (some ⟨b,0,none⟩),.slice (some ⟨w.heap.size,0,none⟩) 1 1] (w.alloc (.cells #[.int .i64 x] 2)) fun e w'=>e=.returned (.bool (tk bad [x]))/\Fl b (!tk bad [x]) w'/\Ad b w w':=
 (Lu b w.heap.size bad [x] _ (hw.alloc _) (Uf x w) (by simp) (Nat.ne_of_gt hw.lies) (by simp)).mono fun _ _ h=>⟨h.1,h.2.1,(Ad.alloc b w _).trans h.2.2⟩
theorem N9(b:Nat)(bad:Bool)(x y:Int)(w:World)(hw:Fl b bad w):
    Calls Zm 178 #[.pointer (some ⟨b,0,none⟩),.slice (some ⟨w.heap.size,0,none⟩) 2 2] (w.alloc (.cells #[.int .i64 x,.int .i64 y] 2)) fun e w'=>e=.returned (.bool (tk bad [x,y]))/\Fl b (!tk bad [x,y]) w'/\Ad b w w':=
 (Lu b w.heap.size bad [x,y] _ (hw.alloc _) (Ue x y w) (by simp) (Nat.ne_of_gt hw.lies) (by simp)).mono fun _ _ h=>⟨h.1,h.2.1,(Ad.alloc b w _).trans h.2.2⟩
theorem Ak3(b:Nat)(bad:Bool)(x y z:Int)(w:World)(hw:Fl b bad w):
    Calls Zm 178 #[.pointer (some ⟨b,0,none⟩),.slice (some ⟨w.heap.size,0,none⟩) 3 3] (w.alloc (.cells #[.int .i64 x,.int .i64 y,.int .i64 z] 2)) fun e w'=>e=.returned (.bool (tk bad [x,y,z]))/\Fl b (!tk bad [x,y,z]) w'/\Ad b w w':=
 (Lu b w.heap.size bad [x,y,z] _ (hw.alloc _) (Nt x y z w) (by simp) (Nat.ne_of_gt hw.lies) (by simp)).mono fun _ _ h=>⟨h.1,h.2.1,(Ad.alloc b w _).trans h.2.2⟩
end
section
open Go.RowKit
attribute [local go_sem ↓] Go.wp_at_zero Go.wp_at_succ
theorem CG(x y:Int)(w:World)(hx:0<=x/\x<=9223372036854775808)(hy:0<=y/\y<=9223372036854775808):
    Calls Zm 182 #[.int .u64 x,.int .u64 y] w fun e w'=>e=.returned (.agg #[.int .u64 (hi64 (x*y)),.int .u64 (lo64 (x*y))])/\Below w.heap.size w w':=by
 go_enter Tryz.func182,Tryz.ntmps182
 go_wp2
 have HP:Hid _:=Aiq x y hx hy
 go_loopw [1] (fun v wr=>∃y' s t:Int,v=.int .u64 y'/\0<=y'/\y'<=9223372036854775808/\Hid (Wd (w.heap.size+1) s wr/\Wd (w.heap.size+1+1) t wr/\Wd w.heap.size 0 wr)/\Hid (s+t*y'=x*y/\0<=s/\0<=t/\t<=170141183460469231731687303715884105728)/\Hid (Below w.heap.size w wr)) (fun v _=>(intOf v).toNat)
 case atStart=>
  have e:=Nq x hx.1 (by omega)
  have z:=Nq 0 (by decide) (by decide)
  refine⟨y,0,x,rfl,hy.1,hy.2,⟨⟨?_,?_,?_,?_,?_⟩,⟨?_,?_,?_,?_,?_⟩,⟨?_,?_,?_,?_,?_⟩⟩,⟨by omega,by decide,hx.1,by omega⟩,?_⟩
  all_goals first |(show Below _ _ _;go_grown;done)|(simp[go_sem,e.1,e.2,z.1,z.2];done)|(simp[go_sem,e.1,e.2,z.1,z.2];omega)
 case round=>
  obtain⟨y',s,t,rfl,hy0,hy1,HM,HE,HB⟩:=hrel
  have hz:w.heap.size+1+1<wr.heap.size:=HM.out.2.1.lies
  by_cases hc:0<y'
  ·have HL:Hid _:=Aip s t y' _ HE.out.1 HE.out.2.1 HE.out.2.2.1 hc
   have m1:=HM.out.1.hi
   have m2:=HM.out.1.lo
   have m3:=HM.out.1.fh
   have m4:=HM.out.1.fl
   have m5:=HM.out.2.1.hi
   have m6:=HM.out.2.1.lo
   have m7:=HM.out.2.1.fh
   have m8:=HM.out.2.1.fl
   by_cases ho:y' % 2=1
   ·have HO:Hid _:=Adf s t y' _ HE.out.1 ho
    have ho1:(y' % 2==1)=true:=by simpa using ho
    clear ho
    go_wp2_with fail
    refine(Hy s t _ HE.out.2.1 HE.out.2.2.1 (by have:=HL.out;have:=HP.out;omega)).mono ?_
    rintro e w1 ⟨rfl,hb⟩
    have H1:Hid _:=HM.out.1.below hb
    have H2:Hid _:=HM.out.2.1.below hb
    have H3:Hid _:=HM.out.2.2.below hb
    have HB1:Hid _:=HB.out.trans (hb.mono (Nat.le_of_lt (Nat.lt_of_le_of_lt (by omega) hz)))
    have hz1:w.heap.size+1+1<w1.heap.size:=H2.out.lies
    clear m1 m2 m3 m4 m5 m6 m7 m8 hb hz
    have m1:=H1.out.hi
    have m2:=H1.out.lo
    have m3:=H1.out.fh
    have m4:=H1.out.fl
    have m5:=H2.out.hi
    have m6:=H2.out.lo
    have m7:=H2.out.fh
    have m8:=H2.out.fl
    go_wp2_with fail
    refine(Hy t t _ HE.out.2.2.1 HE.out.2.2.1 (by have:=HL.out;have:=HP.out;omega)).mono ?_
    rintro e w2 ⟨rfl,hb⟩
    have J1:Hid _:=(H1.out.put (s+t)).below hb
    have J2:Hid _:=(H2.out.far (by omega) (.int .u64 (hi64 (s+t))) (.int .u64 (lo64 (s+t)))).below hb
    have J3:Hid _:=(H3.out.far (by omega) (.int .u64 (hi64 (s+t))) (.int .u64 (lo64 (s+t)))).below hb
    have HB2:Hid (Below w.heap.size w w2):=((HB1.out.setCell (by simp) _).setCell (by simp) _).trans (hb.mono (by simp;omega))
    have hz2:w.heap.size+1+1<w2.heap.size:=J2.out.lies
    clear m1 m2 m3 m4 m5 m6 m7 m8 hb hz1
    have m5:=J2.out.hi
    have m6:=J2.out.lo
    have m7:=J2.out.fh
    have m8:=J2.out.fl
    go_wp2
    refine⟨⟨y' / 2,s+t,t+t,rfl,by omega,by omega,⟨J1.out.far (by omega) _ _,J2.out.put _,J3.out.far (by omega) _ _⟩,⟨HO.out,?_,?_,?_⟩,(HB2.out.setCell (by simp;omega) _).setCell (by simp;omega) _⟩,by simp[intOf];omega⟩
    all_goals (have:=HE.out;have:=HL.out;have:=HP.out;omega)
   ·have HO:Hid _:=WN s t y' _ HE.out.1 (by omega)
    have ho1:(y' % 2==1)=false:=by simpa using ho
    clear ho
    go_wp2_with fail
    refine(Hy t t _ HE.out.2.2.1 HE.out.2.2.1 (by have:=HL.out;have:=HP.out;omega)).mono ?_
    rintro e w2 ⟨rfl,hb⟩
    have J1:Hid _:=HM.out.1.below hb
    have J2:Hid _:=HM.out.2.1.below hb
    have J3:Hid _:=HM.out.2.2.below hb
    have HB2:Hid (Below w.heap.size w w2):=HB.out.trans (hb.mono (by omega))
    have hz2:w.heap.size+1+1<w2.heap.size:=J2.out.lies
    clear m1 m2 m3 m4 m5 m6 m7 m8 hb hz
    have m5:=J2.out.hi
    have m6:=J2.out.lo
    have m7:=J2.out.fh
    have m8:=J2.out.fl
    go_wp2
    refine⟨⟨y' / 2,s,t+t,rfl,by omega,by omega,⟨J1.out.far (by omega) _ _,J2.out.put _,J3.out.far (by omega) _ _⟩,⟨HO.out,?_,?_,?_⟩,(HB2.out.setCell (by simp;omega) _).setCell (by simp;omega) _⟩,by simp[intOf];omega⟩
    all_goals (have:=HE.out;have:=HL.out;have:=HP.out;omega)
  ·have m1:=HM.out.1.hi
   have m2:=HM.out.1.lo
   have n1:=HM.out.2.2.hi
   have n2:=HM.out.2.2.lo
   have n3:=HM.out.2.2.fh
   have n4:=HM.out.2.2.fl
   have HZ:Hid (s=x*y):=by show _=_;have e:=HE.out.1;rw[show y'=0 by omega]at e;omega
   have HQ:Hid _:=World.cell?_setCell_same wr ⟨w.heap.size,0,none⟩ (.int .u64 (hi64 s)) n1
   have HQ2:Hid _:=(HM.out.2.2.put s).lo
   go_wp2
   refine bodyPost_ret (v:=.agg #[.int .u64 (hi64 s),.int .u64 (lo64 s)]) (by simp[results,Tryz.results182,go_sem,HQ.out,HQ2.out]) rfl ?_
   rw[HZ.out]
   exact⟨rfl,(HB.out.setCell (Zo _) _).setCell (Zo _) _⟩
end
section
open Go.RowKit
attribute [local go_sem ↓] Go.wp_at_zero Go.wp_at_succ
theorem Ak4(n d:Int)(w:World)(h0:0<=d)(h:d=0∨d<=hi64 n):
    Calls Zm 280 #[.agg #[.int .u64 (hi64 n),.int .u64 (lo64 n)],.int .u64 d] w fun e w'=>e=.returned (.tuple #[.int .u64 0,.int .u64 0,.bool false])/\Below w.heap.size w w':=by
 by_cases c:d=0
 ·subst c
  clear h h0
  go_enter Tryz.func280,Tryz.ntmps280
  go_wp2
  go_ret3
  exact⟨rfl,by go_grown⟩
 ·have c1:(d==0)=false:=by simpa using c
  have c2:d<=hi64 n:=by omega
  clear h c
  go_enter Tryz.func280,Tryz.ntmps280
  go_wp2
  go_ret3
  exact⟨rfl,by go_grown⟩
theorem QK(n d:Int)(w:World)(h0:0<=n)(h1:n<=85070591730234615865843651857942052864)(hq:hi64 n<d)(hd:d<=4611686018427387904):
    Calls Zm 280 #[.agg #[.int .u64 (hi64 n),.int .u64 (lo64 n)],.int .u64 d] w fun e w'=>e=.returned (.tuple #[.int .u64 (n / d),.int .u64 (n % d),.bool true])/\Below w.heap.size w w':=by
 have b1:=ED n h0 (by omega)
 have b2:=BN n
 have hd0:0<d:=by omega
 have c1:(d==0)=false:=by simp;omega
 have c2:decide (d<=hi64 n)=false:=by simp;omega
 go_enter Tryz.func280,Tryz.ntmps280
 go_wp2
 go_loop [7,8,9] (fun vr vq vj=>∃j:Int,-1<=j/\j<=63/\vr=.int .u64 (ldr n d (j+1).toNat)/\vq=.int .u64 (ldq n d (j+1).toNat)/\vj=.int .i64 j) (fun _ _ vj=>(intOf vj+1).toNat)
 case atStart=>
  have:=Ail n d h0 hq
  exact⟨63,by omega,by omega,by show _=Value.int .u64 (ldr n d 64);rw[this.2],by show _=Value.int .u64 (ldq n d 64);rw[this.1],rfl⟩
 case round=>
  obtain⟨j,hj0,hj1,rfl,rfl,rfl⟩:=hrel
  by_cases hj:0<=j
  ·obtain⟨m,rfl⟩:=Zs hj
   rw[show((m:Int)+1).toNat=m+1 by omega]
   have HS:Hid _:=T6 n d m hd0
   have HR:Hid _:=Aik n d (m+1) hd0
   have HQ:Hid _:=RA n d m hd0 h0 hq
   have HQ1:Hid _:=RA n d (m+1) hd0 h0 hq
   generalize ldr n d (m+1)=r at *
   generalize ldq n d (m+1)=q at *
   have r1:=HR.out
   have HJ:Hid _:=Z3 n r m (by omega) r1.1 (by omega)
   have ht:(r / 9223372036854775808==1)=false:=by simp;omega
   go_wp2
   ·rename_i hc
    rw[HJ.out]at hc ⊢
    have e:=HS.out.1 (by simpa using hc)
    have q1:=HQ.out
    have q2:=HQ1.out
    refine⟨⟨(m:Int)-1,by omega,by omega,?_,?_,rfl⟩,by simp[intOf]⟩
    ·rw[show((m:Int)-1+1).toNat=m by omega,e.2,IntKind.wrap_u64];congr 1;omega
    ·rw[show((m:Int)-1+1).toNat=m by omega,e.1];simp only[IntKind.wrap_u64];congr 1;omega
   ·rename_i hc
    rw[HJ.out]at hc ⊢
    have e:=HS.out.2 (by simpa using hc)
    have q1:=HQ.out
    have q2:=HQ1.out
    refine⟨⟨(m:Int)-1,by omega,by omega,?_,?_,rfl⟩,by simp[intOf]⟩
    ·rw[show((m:Int)-1+1).toNat=m by omega,e.2]
    ·rw[show((m:Int)-1+1).toNat=m by omega,e.1,IntKind.wrap_u64];congr 1;omega
  ·go_wp2
   go_ret3
   obtain rfl:j=-1:=by omega
   have e:=Azp n d
   refine⟨?_,by go_grown⟩
   show Ending.returned (.tuple #[.int .u64 (ldq n d 0),.int .u64 (ldr n d 0),.bool true])=_
   rw[e.1,e.2]
theorem Vf(n d:Int)(w:World)(h0:0<=n)(h1:n<=85070591730234615865843651857942052864)(hd0:0<=d)(hd:d<=4611686018427387904)(h:d=0∨4611686018427387904<n / d):
    Calls Zm 255 #[.agg #[.int .u64 (hi64 n),.int .u64 (lo64 n)],.int .u64 d] w fun e w'=>e=.returned (.tuple #[.int .u64 0,.bool false])/\Below w.heap.size w w':=by
 by_cases c:d=0∨d<=hi64 n
 ·have HC:Hid _:=c
  have HD:Hid _:=hd0
  clear h c h0 h1 hd
  go_enter Tryz.func255,Tryz.ntmps255
  go_wp2_with fail
  refine(Ak4 n d _ HD.out HC.out).mono ?_
  rintro e w1 ⟨rfl,hb⟩
  have HB:Hid _:=hb
  clear hb
  go_wp2
  go_ret2
  exact⟨rfl,((Below.refl _ _).alloc (Zo _) _).trans (HB.out.mono (by simp))⟩
 ·have c1:hi64 n<d:=by omega
  have c2:4611686018427387904<n / d:=by omega
  clear h c
  go_enter Tryz.func255,Tryz.ntmps255
  go_wp2_with fail
  refine(QK n d _ h0 h1 c1 hd).mono ?_
  rintro e w1 ⟨rfl,hb⟩
  have HB:Hid _:=hb
  clear hb
  go_wp2
  go_ret2
  exact⟨rfl,((Below.refl _ _).alloc (Zo _) _).trans (HB.out.mono (by simp))⟩
theorem SB(n d:Int)(w:World)(h0:0<=n)(h1:n<=85070591730234615865843651857942052864)(hd0:1<=d)(hd:d<=4611686018427387904)(h:n / d<=4611686018427387904):
    Calls Zm 255 #[.agg #[.int .u64 (hi64 n),.int .u64 (lo64 n)],.int .u64 d] w fun e w'=>e=.returned (.tuple #[.int .u64 (rnd n d),.bool true])/\Below w.heap.size w w':=by
 have c1:hi64 n<d:=WO n d hd0 h
 have HR:Hid _:=Nr n d hd0
 have hq0:0<=n / d:=Int.ediv_nonneg h0 (by omega)
 have hr0:0<=n % d:=Int.emod_nonneg n (by omega)
 have hr1:n % d<d:=Int.emod_lt_of_pos n (by omega)
 go_enter Tryz.func255,Tryz.ntmps255
 go_wp2_with fail
 refine(QK n d _ h0 h1 c1 hd).mono ?_
 rintro e w1 ⟨rfl,hb⟩
 have HB:Hid _:=hb
 clear hb h0 h1
 generalize n / d=q at *
 generalize n % d=r at *
 go_wp2
 ·go_ret2
  rw[HR.out.1 (by assumption)]
  exact⟨rfl,((Below.refl _ _).alloc (Zo _) _).trans (HB.out.mono (by simp))⟩
 ·go_ret2
  rw[HR.out.2 (by assumption)]
  exact⟨rfl,((Below.refl _ _).alloc (Zo _) _).trans (HB.out.mono (by simp))⟩
end
section
open Go.RowKit
theorem Jg(b:Nat)(x p q:Int)(w:World)(hw:Fl b false w)(hx:numB x=true)(hp:numB p=true)(hq:numB q=true):
    Calls Zm 180 #[.pointer (some ⟨b,0,none⟩),.int .i64 x,.int .i64 p,.int .i64 q] w fun e w'=>e=.returned (.int .i64 (PI x p q).1)/\Fl b (PI x p q).2 w'/\Ad b w w':=by
 have HX:Hid _:=hx
 have HP:Hid _:=hp
 have HQ:Hid _:=hq
 have HW:Hid _:=hw
 have sx:=ES hx
 have sp:=ES hp
 have sq:=ES hq
 have HM:Hid _:=CP hx hp
 clear hx hp hq hw
 by_cases c:q=0∨4611686018427387904<sz x*sz p / sz q
 ·have HS:Hid (PI x p q=(0,true)):=Asg c
  have HC:Hid (sz q=0∨4611686018427387904<sz x*sz p / sz q):=(by rcases c with c |c;exact .inl (Ase c);exact .inr c)
  clear c
  go_enter Tryz.func180,Tryz.ntmps180
  go_wp2_with fail
  refine(BR x _ HX.out).mono ?_
  rintro e w1 ⟨rfl,rfl⟩
  go_wp2_with fail
  refine(BR p _ HP.out).mono ?_
  rintro e w1 ⟨rfl,rfl⟩
  go_wp2_with fail
  refine(CG (sz x) (sz p) _ ⟨sx.1,by omega⟩ ⟨sp.1,by omega⟩).mono ?_
  rintro e w3 ⟨rfl,h4⟩
  have H4:Hid _:=h4
  clear h4
  go_wp2_with fail
  refine(BR q _ HQ.out).mono ?_
  rintro e w1 ⟨rfl,rfl⟩
  go_wp2_with fail
  refine(Vf (sz x*sz p) (sz q) _ HM.out.1 (by have:=HM.out;omega) sq.1 sq.2 HC.out).mono ?_
  rintro e w4 ⟨rfl,h5⟩
  have HF:Hid _:=(HW.out.below H4.out).below h5
  have HK:Hid (Ad b _ w4):=(Ad.of_below H4.out).trans (Ad.of_below h5)
  clear h5
  have f1:=HF.out.cell
  have f2:=HF.out.free
  go_wp2
  go_ret
  rw[HS.out]
  exact⟨rfl,HF.out.set true,HK.out.setCell _⟩
 ·have c1:sz x*sz p / sz q<=4611686018427387904:=by omega
  have c2:(q != 0)=true:=by simp;omega
  have HS:Hid _:=T7 x p q c2
  have s1:=WK c2
  have HC:Hid _:=c1
  have HN:Hid _:=ET HM.out.1 s1
  have HN2:Hid _:=Asf s1 c1
  clear c c1 c2
  go_enter Tryz.func180,Tryz.ntmps180
  go_wp2_with fail
  refine(BR x _ HX.out).mono ?_
  rintro e w1 ⟨rfl,rfl⟩
  go_wp2_with fail
  refine(BR p _ HP.out).mono ?_
  rintro e w1 ⟨rfl,rfl⟩
  go_wp2_with fail
  refine(CG (sz x) (sz p) _ ⟨sx.1,by omega⟩ ⟨sp.1,by omega⟩).mono ?_
  rintro e w3 ⟨rfl,h4⟩
  have H4:Hid _:=h4
  clear h4
  go_wp2_with fail
  refine(BR q _ HQ.out).mono ?_
  rintro e w1 ⟨rfl,rfl⟩
  go_wp2_with fail
  refine(SB (sz x*sz p) (sz q) _ HM.out.1 (by have:=HM.out;omega) s1 sq.2 HC.out).mono ?_
  rintro e w4 ⟨rfl,h5⟩
  have HF:Hid _:=(HW.out.below H4.out).below h5
  have HK:Hid (Ad b _ w4):=(Ad.of_below H4.out).trans (Ad.of_below h5)
  clear h5 s1 sx sp sq
  generalize rnd (sz x*sz p) (sz q)=r at *
  go_wp2_with fail
  all_goals
   refine(Lt b _ _ _ HF.out HN.out HN2.out).mono ?_
   rintro e w5 ⟨rfl,h6,h7⟩
   go_wp2
   go_ret
   rw[HS.out]
   first |rw[decide_eq_true (show x<0 by omega)]|rw[decide_eq_false (show ¬x<0 by omega)]
   first |rw[decide_eq_true (show p<0 by omega)]|rw[decide_eq_false (show ¬p<0 by omega)]
   first |rw[decide_eq_true (show q<0 by omega)]|rw[decide_eq_false (show ¬q<0 by omega)]
   exact⟨rfl,h6,HK.out.trans h7⟩
theorem FZ(b:Nat)(bad:Bool)(x y:Int)(w:World)(hw:Fl b bad w):
    Calls Zm 64 #[.pointer (some ⟨b,0,none⟩),.int .i64 x,.int .i64 y] w fun e w'=>e=.returned (.int .i64 (Ap bad x y).1)/\Fl b (Ap bad x y).2 w'/\Ad b w w':=by
 go_enter Tryz.func64,Tryz.ntmps64
 go_wp2_with fail
 refine(N9 b bad x y w hw).mono ?_
 rintro e w1 ⟨rfl,h2,h3⟩
 cases c:tk bad [x,y]
 ·rw[c]at h2
  have HS:Hid _:=MM c
  have H2:Hid _:=h2
  have H3:Hid _:=h3
  clear c h2 h3 hw
  go_wp2
  go_ret
  rw[HS.out]
  exact⟨rfl,H2.out,H3.out⟩
 ·rw [c]at h2
  have HS:Hid _:=Hf c
  have H2:Hid _:=h2
  have H3:Hid _:=h3
  have ht:=Df c
  have hx:=Bh ht.2.1
  have hy:=Bh ht.2.2
  have f1:=h2.cell
  have f2:=h2.free
  have x1:=Z4 x hx
  have y1:=Z4 y hy
  have HH:Hid _:=Ais x y
  have HI:Hid _:=Ait (x+y) (by omega)
  have s1:=Adg x y
  clear c hw ht h2 h3
  by_cases c:2305843009213693952<x.tdiv 2+y.tdiv 2+(x.tmod 2+y.tmod 2).tdiv 2
  ·have HN:Hid (numB (x+y)=false):=by show _=_;have:=HH.out;unfold numB;simp;omega
   go_wp2
   go_ret
   rw[HS.out,Aiu HN.out]
   exact⟨rfl,H2.out.set true,H3.out.setCell _⟩
  ·by_cases d:x.tdiv 2+y.tdiv 2+(x.tmod 2+y.tmod 2).tdiv 2< -2305843009213693952
   ·have HN:Hid (numB (x+y)=false):=by show _=_;have:=HH.out;unfold numB;simp;omega
    go_wp2
    go_ret
    rw[HS.out,Aiu HN.out]
    exact⟨rfl,H2.out.set true,H3.out.setCell _⟩
   ·go_wp2_with fail
    refine(Hw _ _).mono ?_
    rintro e w2 ⟨rfl,rfl⟩
    rw[HI.out]
    cases g:numB (x+y)
    ·have HN:Hid _:=Aiu g
     clear g
     go_wp2
     go_ret
     rw[HS.out,HN.out]
     exact⟨rfl,H2.out.set true,H3.out.setCell _⟩
    ·have HN:Hid _:=WP g
     have g2:=Bh g
     clear g
     go_wp2
     go_ret
     rw[HS.out,HN.out]
     exact⟨rfl,H2.out,H3.out⟩
theorem Vg(b:Nat)(bad:Bool)(x y:Int)(w:World)(hw:Fl b bad w):
    Calls Zm 66 #[.pointer (some ⟨b,0,none⟩),.int .i64 x,.int .i64 y] w fun e w'=>e=.returned (.int .i64 (AJ bad x y).1)/\Fl b (AJ bad x y).2 w'/\Ad b w w':=by
 go_enter Tryz.func66,Tryz.ntmps66
 go_wp2_with fail
 refine(N9 b bad x y w hw).mono ?_
 rintro e w1 ⟨rfl,h2,h3⟩
 cases c:tk bad [x,y]
 ·rw[c]at h2
  have HS:Hid _:=MN c
  have H2:Hid _:=h2
  have H3:Hid _:=h3
  clear c h2 h3 hw
  go_wp2
  go_ret
  rw[HS.out]
  exact⟨rfl,H2.out,H3.out⟩
 ·rw[c]at h2
  have HS:Hid _:=Aiw c
  have H3:Hid _:=h3
  have ht:=Df c
  have hx:=Bh ht.2.1
  have hy:=Bh ht.2.2
  clear c hw ht h3
  go_wp2_with fail
  refine(FZ b false x (-y) _ h2).mono ?_
  rintro e w2 ⟨rfl,h4,h5⟩
  go_wp2
  go_ret
  rw[HS.out]
  exact⟨rfl,h4,H3.out.trans h5⟩
theorem Kk(b:Nat)(bad:Bool)(x y:Int)(w:World)(hw:Fl b bad w):
    Calls Zm 72 #[.pointer (some ⟨b,0,none⟩),.int .i64 x,.int .i64 y] w fun e w'=>e=.returned (.int .i64 (mulS bad x y).1)/\Fl b (mulS bad x y).2 w'/\Ad b w w':=by
 go_enter Tryz.func72,Tryz.ntmps72
 go_wp2_with fail
 refine(N9 b bad x y w hw).mono ?_
 rintro e w1 ⟨rfl,h2,h3⟩
 cases c:tk bad [x,y]
 ·rw[c]at h2
  have HS:Hid _:=MO c
  have H2:Hid _:=h2
  have H3:Hid _:=h3
  clear c h2 h3 hw
  go_wp2
  go_ret
  rw[HS.out]
  exact⟨rfl,H2.out,H3.out⟩
 ·rw[c]at h2
  have HS:Hid (mulS bad x y=PI x y 1099511627776):=La ((Rx bad x y).trans c)
  have H3:Hid _:=h3
  have ht:=Df c
  have HX:Hid _:=ht.2.1
  have HY:Hid _:=ht.2.2
  clear c hw ht h3
  go_wp2_with fail
  refine(Jg b x y 1099511627776 _ h2 HX.out HY.out rfl).mono ?_
  rintro e w2 ⟨rfl,h4,h5⟩
  go_wp2
  go_ret
  rw[HS.out]
  exact⟨rfl,h4,H3.out.trans h5⟩
theorem Oa(b:Nat)(bad:Bool)(x y:Int)(w:World)(hw:Fl b bad w):
    Calls Zm 70 #[.pointer (some ⟨b,0,none⟩),.int .i64 x,.int .i64 y] w fun e w'=>e=.returned (.int .i64 (AA bad x y).1)/\Fl b (AA bad x y).2 w'/\Ad b w w':=by
 go_enter Tryz.func70,Tryz.ntmps70
 go_wp2_with fail
 refine(N9 b bad x y w hw).mono ?_
 rintro e w1 ⟨rfl,h2,h3⟩
 cases c:tk bad [x,y]
 ·rw[c]at h2
  have HS:Hid (AA bad x y=(0,true)):=Ca ((Z0 bad x y).trans c)
  have H2:Hid _:=h2
  have H3:Hid _:=h3
  clear c h2 h3 hw
  go_wp2
  go_ret
  rw[HS.out]
  exact⟨rfl,H2.out,H3.out⟩
 ·rw[c]at h2
  have HS:Hid (AA bad x y=PI x 1099511627776 y):=La ((Z0 bad x y).trans c)
  have H3:Hid _:=h3
  have ht:=Df c
  have HX:Hid _:=ht.2.1
  have HY:Hid _:=ht.2.2
  clear c hw ht h3
  go_wp2_with fail
  refine(Jg b x 1099511627776 y _ h2 HX.out rfl HY.out).mono ?_
  rintro e w2 ⟨rfl,h4,h5⟩
  go_wp2
  go_ret
  rw[HS.out]
  exact⟨rfl,h4,H3.out.trans h5⟩
theorem F7(b:Nat)(bad:Bool)(x p q:Int)(w:World)(hw:Fl b bad w):
    Calls Zm 65 #[.pointer (some ⟨b,0,none⟩),.int .i64 x,.int .i64 p,.int .i64 q] w fun e w'=>e=.returned (.int .i64 (Af bad x p q).1)/\Fl b (Af bad x p q).2 w'/\Ad b w w':=by
 go_enter Tryz.func65,Tryz.ntmps65
 go_wp2_with fail
 refine(Ak3 b bad x p q w hw).mono ?_
 rintro e w1 ⟨rfl,h2,h3⟩
 cases c:tk bad [x,p,q]
 ·rw[c]at h2
  have HS:Hid _:=Ca c
  have H2:Hid _:=h2
  have H3:Hid _:=h3
  clear c h2 h3 hw
  go_wp2
  go_ret
  rw[HS.out]
  exact⟨rfl,H2.out,H3.out⟩
 ·rw[c]at h2
  have HS:Hid _:=La c
  have H3:Hid _:=h3
  have ht:=Ei c
  have HX:Hid _:=ht.2.1
  have HP:Hid _:=ht.2.2.1
  have HQ:Hid _:=ht.2.2.2
  clear c hw ht h3
  go_wp2_with fail
  refine(Jg b x p q _ h2 HX.out HP.out HQ.out).mono ?_
  rintro e w2 ⟨rfl,h4,h5⟩
  go_wp2
  go_ret
  rw[HS.out]
  exact⟨rfl,h4,H3.out.trans h5⟩
theorem Ak5(b:Nat)(bad:Bool)(x y:Int)(w:World)(hw:Fl b bad w):
    Calls Zm 75 #[.pointer (some ⟨b,0,none⟩),.int .i64 x,.int .i64 y] w fun e w'=>e=.returned (.int .i64 (Gl bad x y).1)/\Fl b (Gl bad x y).2 w'/\Ad b w w':=by
 go_enter Tryz.func75,Tryz.ntmps75
 go_wp2_with fail
 refine(N9 b bad x y w hw).mono ?_
 rintro e w1 ⟨rfl,h2,h3⟩
 cases c:tk bad [x,y]
 ·rw[c]at h2
  have HS:Hid _:=Rv c
  have H2:Hid _:=h2
  have H3:Hid _:=h3
  clear c h2 h3 hw
  go_wp2
  go_ret
  rw[HS.out]
  exact⟨rfl,H2.out,H3.out⟩
 ·rw[c]at h2
  have H2:Hid _:=h2
  have H3:Hid _:=h3
  have ht:=Df c
  have hx:=Bh ht.2.1
  have hy:=Bh ht.2.2
  have f1:=h2.cell
  have f2:=h2.free
  clear hw h2 h3 ht
  by_cases y0:0<y
  ·have HS:Hid _:=Nn c y0
   have HM:Hid _:=T5 x y y0
   have hb:=Fu x y y0
   have d0:(y==0)=false:=by simp;omega
   clear c
   go_wp2
   ·go_ret
    rw[HS.out]
    exact⟨BW (HM.out.1 (by assumption)),H2.out,H3.out⟩
   ·go_ret
    rw[HS.out]
    exact⟨BW (HM.out.2 (by assumption)),H2.out,H3.out⟩
  ·have HS:Hid _:=TZ (bad:=bad) (a:=x) y0
   have y1:y<=0:=by omega
   clear c y0
   go_wp2
   go_ret
   rw[HS.out]
   exact⟨rfl,H2.out.set true,H3.out.setCell _⟩
theorem Ob(n m:Int)(w:World):
    Calls Zm 183 #[.agg #[.int .u64 (hi64 n),.int .u64 (lo64 n)],.agg #[.int .u64 (hi64 m),.int .u64 (lo64 m)]] w fun e w'=>e=.returned (.bool (decide (m<n)))/\Below w.heap.size w w':=by
 have b2:=BN n
 have b4:=BN m
 have e1:=IN n
 have e2:=IN m
 by_cases c1:hi64 m<hi64 n
 ·have HF:Hid (true=decide (m<n)):=by show _=_;simp;omega
  clear b2 b4 e1 e2
  go_enter Tryz.func183,Tryz.ntmps183
  go_wp2
  go_ret
  exact⟨Dz (by simpa using HF.out),by go_grown⟩
 ·by_cases c2:hi64 n=hi64 m
  ·have HF:Hid (decide (lo64 m<lo64 n)=decide (m<n)):=by show _=_;simp;omega
   have c3:(hi64 n==hi64 m)=true:=by simpa using c2
   clear b2 b4 e1 e2 c2
   go_enter Tryz.func183,Tryz.ntmps183
   go_wp2
   go_ret
   exact⟨Dz HF.out,by go_grown⟩
  ·have HF:Hid (false=decide (m<n)):=by show _=_;simp;omega
   have c3:(hi64 n==hi64 m)=false:=by simpa using c2
   clear b2 b4 e1 e2 c2
   go_enter Tryz.func183,Tryz.ntmps183
   go_wp2
   go_ret
   exact⟨Dz HF.out,by go_grown⟩
attribute [local go_sem ↓] Go.wp_at_zero Go.wp_at_succ
theorem QL(b:Nat)(bad:Bool)(x:Int)(w:World)(hw:Fl b bad w):
    Calls Zm 71 #[.pointer (some ⟨b,0,none⟩),.int .i64 x] w fun e w'=>e=.returned (.int .i64 (B5 bad x).1)/\Fl b (B5 bad x).2 w'/\Ad b w w':=by
 go_enter Tryz.func71,Tryz.ntmps71
 go_wp2_with fail
 refine(ADa b bad x w hw).mono ?_
 rintro e w1 ⟨rfl,h2,h3⟩
 cases c:tk bad [x]
 ·rw[c]at h2
  have HS:Hid _:=No c
  have H2:Hid _:=h2
  have H3:Hid _:=h3
  clear c h2 h3 hw
  go_wp2
  go_ret
  rw[HS.out]
  exact⟨rfl,H2.out,H3.out⟩
 ·rw [c]at h2
  have H2:Hid _:=h2
  have H3:Hid _:=h3
  have f1:=h2.cell
  have f2:=h2.free
  have ht:=Aih c
  have hx:=Bh ht.2
  clear hw h2 h3 ht
  by_cases x0:0<=x
  ·have HS:Hid _:=P3 c x0
   have hxd:decide (x<0)=false:=by simp;omega
   clear c
   go_wp2_with fail
   refine(CG x 1099511627776 _ ⟨x0,by omega⟩ (by decide)).mono ?_
   rintro e w2 ⟨rfl,h4⟩
   have HF:Hid _:=H2.out.below h4
   have HK:Hid _:=H3.out.trans (Ad.of_below h4)
   have n0:0<=x*1099511627776:=by omega
   have n1:x*1099511627776<=5070602400912917605986812821504:=by omega
   clear h4 f1 f2 H2 H3
   generalize x*1099511627776=n at *
   go_wp2
   have HB0:Hid (Below (w2.heap.size+1) (w2.alloc (.cells #[.int .u64 (hi64 n),.int .u64 (lo64 n)] 220)) (w2.alloc (.cells #[.int .u64 (hi64 n),.int .u64 (lo64 n)] 220))):=Below.refl _ _
   go_loopw [6,7] (fun v6 v7 wr=>∃j r:Int,-1<=j/\j<=51/\v6=.int .u64 r/\v7=.int .i64 j/\0<=r/\r<=9223372036854775807/\Hid (Fo n (j+1).toNat r=Fo n 52 0/\r+2^(j+1).toNat<=2^52)/\Hid (Below (w2.heap.size+1) (w2.alloc (.cells #[.int .u64 (hi64 n),.int .u64 (lo64 n)] 220)) wr)) (fun _ v7 _=>(intOf v7+1).toNat)
   case atStart=>exact⟨51,0,by omega,by omega,rfl,rfl,Int.le_refl _,by omega,⟨rfl,by decide⟩,HB0⟩
   case round=>
    obtain⟨j,r,hj0,hj1,rfl,rfl,hr0,hr1,HR,HB⟩:=hrel
    by_cases hj:0<=j
    ·obtain⟨m,rfl⟩:=Zs hj
     have c0:=HB.out.cell (p:=⟨w2.heap.size,0,none⟩) (by simp)
     have c1:=HB.out.cell (p:=⟨w2.heap.size,1,none⟩) (by simp)
     simp at c0 c1
     have hzs:w2.heap.size<wr.heap.size:=by have:=HB.out.size;simp at this;omega
     have HE:Hid (bitAt (m+1)=2^m):=rfl
     have hwp:IntKind.u64.wrap (2^m)=bitAt (m+1):=T8 m (by omega)
     have hbd:=JO (m+1) (by omega)
     have HR2:Hid _:=HR.out.2
     rw[show((m:Int)+1).toNat=m+1 by omega]at HR HR2
     have HL:Hid (r+2^m+2^m<=2^52):=by show _<=_;have:=HR2.out;rw[Int.pow_succ]at this;omega
     have HF:Hid (Fo n (m+1) r=Fo n m (if (r+2^m)*(r+2^m)<=n then r+2^m else r)):=rfl
     rw[<-HE.out]at HL HF
     have hle:r+bitAt (m+1)<=4503599627370496:=by have:=HL.out;simp at this;omega
     generalize bitAt (m+1)=t at *
     have hbd2:0<=r+t:=by omega
     go_wp2
     go_region_held3 (fun w'=>w'.cell? ⟨w2.heap.size,0,none⟩=some (.int .u64 (hi64 n))/\w'.cell? ⟨w2.heap.size,1,none⟩=some (.int .u64 (lo64 n))) ((first |exact⟨c0,c1⟩|exact⟨cell_later hb1 c0,cell_later hb1 c1⟩|exact⟨cell_later hb2 (cell_later hb1 c0),cell_later hb2 (cell_later hb1 c1)⟩))
      (first
       |(go_at_call 182;refine(CG (r+t) (r+t) _ ⟨hbd2,by omega⟩ ⟨hbd2,by omega⟩).mono ?_;rintro e w3 ⟨rfl,hb1⟩)
       |(go_at_call 183;refine(Ob _ _ _).mono ?_;rintro e w4 ⟨rfl,hb2⟩))
     have HW:Hid (Below (w2.heap.size+1) (w2.alloc (.cells #[.int .u64 (hi64 n),.int .u64 (lo64 n)] 220)) w4):=(HB.out.drew.trans (hb1.mono (B':=w2.heap.size+1) (by simp;omega))).trans (hb2.mono (B':=w2.heap.size+1) (by have:=hb1.size;simp at this;omega))
     clear hb1 hb2 c0 c1
     cases c:decide (n<(r+t)*(r+t))
     ·have hc:=Int.not_lt.mp (of_decide_eq_false c)
      have HC:Hid _:=hc
      clear hc c
      go_wp2
      refine⟨⟨(m:Int)-1,r+t,by omega,by omega,rfl,rfl,hbd2,by omega,⟨?_,?_⟩,HW.out⟩,by simp[intOf]⟩
      ·rw[show((m:Int)-1+1).toNat=m by omega,<-HR.out.1,HF.out,if_pos HC.out]
      ·rw[show((m:Int)-1+1).toNat=m by omega,<-HE.out];exact HL.out
     ·have hc:=of_decide_eq_true c
      have HC:Hid _:=hc
      clear hc c
      go_wp2
      refine⟨⟨(m:Int)-1,r,by omega,by omega,rfl,rfl,hr0,hr1,⟨?_,?_⟩,HW.out⟩,by simp[intOf]⟩
      ·rw[show((m:Int)-1+1).toNat=m by omega,<-HR.out.1,HF.out,if_neg (Int.not_le.mpr HC.out)]
      ·rw[show((m:Int)-1+1).toNat=m by omega,<-HE.out];have:=HL.out;omega
    ·have HJ:Hid (j=-1):=by show _=_;omega
     have hf:=(HF.out.alloc (.cells #[.int .u64 (hi64 n),.int .u64 (lo64 n)] 220)).below (HB.out.mono (by simp))
     have HQ:Hid (r=isq n):=by
      have e:=HR.out.1
      rw[HJ.out]at e
      rw[Asb n 52 n0 (by omega) (by show n<4503599627370496*4503599627370496;omega)]at e
      exact e
     go_wp2_with fail
     refine(Lt b _ _ _ hf hr0 (by omega)).mono ?_
     rintro e w5 ⟨rfl,h6,h7⟩
     go_wp2
     go_ret
     rw[HS.out,<-HQ.out]
     exact⟨rfl,h6,((HK.out.trans (Ad.alloc b _ _)).trans (Ad.of_below (HB.out.mono (by simp)))).trans h7⟩
  ·have HS:Hid _:=P2 (bad:=bad) x0
   have x1:x<0:=by omega
   clear c x0
   go_wp2
   go_ret
   rw[HS.out]
   exact⟨rfl,H2.out.set true,H3.out.setCell _⟩
end
section
open Go.RowKit
attribute [local go_sem ↓] Go.wp_at_zero Go.wp_at_succ
theorem Lv(b:Nat)(bad:Bool)(x y z:Int)(w:World)(hw:Fl b bad w):
    Calls Zm 79 #[.pointer (some ⟨b,0,none⟩),.int .i64 x,.int .i64 y,.int .i64 z] w fun e w'=>e=.returned (.int .i64 (Ar bad x y z).1)/\Fl b (Ar bad x y z).2 w'/\Ad b w w':=by
 go_enter Tryz.func79,Tryz.ntmps79
 go_wp2_with fail
 refine(Ak3 b bad x y z w hw).mono ?_
 rintro e w1 ⟨rfl,h2,h3⟩
 cases c:tk bad [x,y,z]
 ·rw[c]at h2
  have HS:Hid _:=Hg c
  have H2:Hid _:=h2
  have H3:Hid _:=h3
  clear c h2 h3 hw
  go_wp2
  go_ret
  rw[HS.out]
  exact⟨rfl,H2.out,H3.out⟩
 ·rw [c]at h2
  have H2:Hid _:=h2
  have H3:Hid _:=h3
  have HS:Hid _:=Ix c
  have ht:=Ei c
  have HX:Hid _:=ht.2.1
  have HY:Hid _:=ht.2.2.1
  have HZ:Hid _:=ht.2.2.2
  have sx:=ES ht.2.1
  have sy:=ES ht.2.2.1
  have sz':=ES ht.2.2.2
  clear hw h2 h3 c ht
  go_wp2_with fail
  refine(BR x _ HX.out).mono ?_
  rintro e w2 ⟨rfl,rfl⟩
  go_wp2_with fail
  refine(BR x _ HX.out).mono ?_
  rintro e w2 ⟨rfl,rfl⟩
  go_wp2_with fail
  refine(CG (sz x) (sz x) _ ⟨sx.1,by omega⟩ ⟨sx.1,by omega⟩).mono ?_
  rintro e w3 ⟨rfl,h4⟩
  rw[P4]
  have F3:Hid _:=H2.out.below h4
  have K3:Hid _:=H3.out.trans (Ad.of_below h4)
  clear h4 H2 H3
  go_wp2_with fail
  refine(BR y _ HY.out).mono ?_
  rintro e w2 ⟨rfl,rfl⟩
  go_wp2_with fail
  refine(BR y _ HY.out).mono ?_
  rintro e w2 ⟨rfl,rfl⟩
  go_wp2_with fail
  refine(CG (sz y) (sz y) _ ⟨sy.1,by omega⟩ ⟨sy.1,by omega⟩).mono ?_
  rintro e w4 ⟨rfl,h4⟩
  rw[P4]
  have F4:Hid _:=F3.out.below h4
  have K4:Hid _:=K3.out.trans (Ad.of_below h4)
  clear h4 F3 K3
  go_wp2_with fail
  refine(Hy (x*x) (y*y) _ (BF HX.out).1 (BF HY.out).1 (by have:=BF HX.out;have:=BF HY.out;omega)).mono ?_
  rintro e w5 ⟨rfl,h4⟩
  have F5:Hid _:=F4.out.below h4
  have K5:Hid _:=K4.out.trans (Ad.of_below h4)
  clear h4 F4 K4
  go_wp2_with fail
  refine(BR z _ HZ.out).mono ?_
  rintro e w2 ⟨rfl,rfl⟩
  go_wp2_with fail
  refine(BR z _ HZ.out).mono ?_
  rintro e w2 ⟨rfl,rfl⟩
  go_wp2_with fail
  refine(CG (sz z) (sz z) _ ⟨sz'.1,by omega⟩ ⟨sz'.1,by omega⟩).mono ?_
  rintro e w6 ⟨rfl,h4⟩
  rw[P4]
  have F6:Hid _:=F5.out.below h4
  have K6:Hid _:=K5.out.trans (Ad.of_below h4)
  clear h4 F5 K5 sx sy sz'
  go_wp2_with fail
  refine(Hy (x*x+y*y) (z*z) _ (by have:=BF HX.out;have:=BF HY.out;omega) (BF HZ.out).1 (by have:=BF HX.out;have:=BF HY.out;have:=BF HZ.out;omega)).mono ?_
  rintro e w2 ⟨rfl,h4⟩
  have HF:Hid _:=F6.out.below h4
  have HK:Hid _:=K6.out.trans (Ad.of_below h4)
  have HN:Hid (0<=x*x+y*y+z*z/\x*x+y*y+z*z<85070591730234615865843651857942052864):=by show _/\_;have:=BF HX.out;have:=BF HY.out;have:=BF HZ.out;omega
  clear h4 F6 K6 HX HY HZ
  generalize x*x+y*y+z*z=n at *
  have n0:=HN.out.1
  go_wp2
  have HB0:Hid (Below (w2.heap.size+1) (w2.alloc (.cells #[.int .u64 (hi64 n),.int .u64 (lo64 n)] 220)) (w2.alloc (.cells #[.int .u64 (hi64 n),.int .u64 (lo64 n)] 220))):=Below.refl _ _
  go_loopw [10,11] (fun v6 v7 wr=>∃j r:Int,-1<=j/\j<=62/\v6=.int .u64 r/\v7=.int .i64 j/\0<=r/\r<=9223372036854775807/\Hid (Fo n (j+1).toNat r=Fo n 63 0/\r+2^(j+1).toNat<=2^63)/\Hid (Below (w2.heap.size+1) (w2.alloc (.cells #[.int .u64 (hi64 n),.int .u64 (lo64 n)] 220)) wr)) (fun _ v7 _=>(intOf v7+1).toNat)
  case atStart=>exact⟨62,0,by omega,by omega,rfl,rfl,Int.le_refl _,by omega,⟨rfl,by decide⟩,HB0⟩
  case round=>
   obtain⟨j,r,hj0,hj1,rfl,rfl,hr0,hr1,HR,HB⟩:=hrel
   by_cases hj:0<=j
   ·obtain⟨m,rfl⟩:=Zs hj
    have c0:=HB.out.cell (p:=⟨w2.heap.size,0,none⟩) (by simp)
    have c1:=HB.out.cell (p:=⟨w2.heap.size,1,none⟩) (by simp)
    simp at c0 c1
    have hzs:w2.heap.size<wr.heap.size:=by have:=HB.out.size;simp at this;omega
    have HE:Hid (bitAt (m+1)=2^m):=rfl
    have HP0:Hid (0<bitAt (m+1)):=BV m
    have hwp:IntKind.u64.wrap (2^m)=bitAt (m+1):=T8 m (by omega)
    have hbd:=JO (m+1) (by omega)
    have HR2:Hid _:=HR.out.2
    rw[show((m:Int)+1).toNat=m+1 by omega]at HR HR2
    have HL:Hid (r+2^m+2^m<=2^63):=by show _<=_;have:=HR2.out;rw[Int.pow_succ]at this;omega
    have HF:Hid (Fo n (m+1) r=Fo n m (if (r+2^m)*(r+2^m)<=n then r+2^m else r)):=rfl
    rw[<-HE.out]at HL HF
    have hle:r+bitAt (m+1)<=9223372036854775807:=by have:=HL.out;simp at this;have:=HP0.out;omega
    generalize bitAt (m+1)=t at *
    have hbd2:0<=r+t:=by omega
    go_wp2
    go_region_held3 (fun w'=>w'.cell? ⟨w2.heap.size,0,none⟩=some (.int .u64 (hi64 n))/\w'.cell? ⟨w2.heap.size,1,none⟩=some (.int .u64 (lo64 n))) ((first |exact⟨c0,c1⟩|exact⟨cell_later hb1 c0,cell_later hb1 c1⟩|exact⟨cell_later hb2 (cell_later hb1 c0),cell_later hb2 (cell_later hb1 c1)⟩))
     (first
      |(go_at_call 182;refine(CG (r+t) (r+t) _ ⟨hbd2,by omega⟩ ⟨hbd2,by omega⟩).mono ?_;rintro e w3 ⟨rfl,hb1⟩)
      |(go_at_call 183;refine(Ob _ _ _).mono ?_;rintro e w4 ⟨rfl,hb2⟩))
    have HW:Hid (Below (w2.heap.size+1) (w2.alloc (.cells #[.int .u64 (hi64 n),.int .u64 (lo64 n)] 220)) w4):=(HB.out.drew.trans (hb1.mono (B':=w2.heap.size+1) (by simp;omega))).trans (hb2.mono (B':=w2.heap.size+1) (by have:=hb1.size;simp at this;omega))
    clear hb1 hb2 c0 c1
    cases c:decide (n<(r+t)*(r+t))
    ·have hc:=Int.not_lt.mp (of_decide_eq_false c)
     have HC:Hid _:=hc
     clear hc c
     go_wp2
     refine⟨⟨(m:Int)-1,r+t,by omega,by omega,rfl,rfl,hbd2,by omega,⟨?_,?_⟩,HW.out⟩,by simp[intOf]⟩
     ·rw[show((m:Int)-1+1).toNat=m by omega,<-HR.out.1,HF.out,if_pos HC.out]
     ·rw[show((m:Int)-1+1).toNat=m by omega,<-HE.out];exact HL.out
    ·have hc:=of_decide_eq_true c
     have HC:Hid _:=hc
     clear hc c
     go_wp2
     refine⟨⟨(m:Int)-1,r,by omega,by omega,rfl,rfl,hr0,hr1,⟨?_,?_⟩,HW.out⟩,by simp[intOf]⟩
     ·rw[show((m:Int)-1+1).toNat=m by omega,<-HR.out.1,HF.out,if_neg (Int.not_le.mpr HC.out)]
     ·rw[show((m:Int)-1+1).toNat=m by omega,<-HE.out];have:=HL.out;omega
   ·have HJ:Hid (j=-1):=by show _=_;omega
    have hf:=(HF.out.alloc (.cells #[.int .u64 (hi64 n),.int .u64 (lo64 n)] 220)).below (HB.out.mono (by simp))
    have HQ:Hid (r=isq n):=by
     have e:=HR.out.1
     rw[HJ.out]at e
     exact e
    go_wp2_with fail
    refine(Lt b _ _ _ hf hr0 (by omega)).mono ?_
    rintro e w5 ⟨rfl,h6,h7⟩
    go_wp2
    go_ret
    rw[HS.out,<-HQ.out]
    exact⟨rfl,h6,((HK.out.trans (Ad.alloc b _ _)).trans (Ad.of_below (HB.out.mono (by simp)))).trans h7⟩
end
section
open Go.RowKit
theorem Lw(b:Nat)(bad:Bool)(w:World)(hw:Fl b bad w):
    Calls Zm 68 #[.pointer (some ⟨b,0,none⟩)] w fun e w'=>e=.returned (.tuple #[])/\Fl b true w'/\Ad b w w':=by
 have HW:Hid _:=hw
 obtain⟨hc,hf,hl⟩:=hw
 go_enter Tryz.func68,Tryz.ntmps68
 go_wp2
 go_end0
 exact⟨rfl,HW.out.set true,(Ad.refl _ _).setCell _⟩
end
namespace Nx
open Go.RowKit Go.Proofs.YtoadcnhcfodkgaaGreatDoor
abbrev uI:Value:=unk .i64
def rI(n:Nat):Value:=.agg ⟨List.replicate n uI⟩
theorem xmixA:Zm.follows .mixedOrders=true:=by kernel_rfl
def gS{A:Type}(d:Dl A)(S:Bool->A->Int×Bool):Bool->Bool->List Value->Value×Bool:=fun _ b rest=>
 match d.dec rest with
 |some x=>(.int .i64 (S b x).1,(S b x).2)
 |none=>(undef,true)
theorem FA{P:Program}{fn:Bool->Nat}{A:Type}{d:Dl A}{S:Bool->A->Int×Bool}{sa:List Value}{kind:Nat}(hd:∀rest,Aj (G2 []) sa rest->∃x,d.dec rest=some x)
    (h:∀s b bad x w,Fl b bad w->Calls P (fn s) (ptr b::d.enc x).toArray w fun e w'=>e=.returned (.int .i64 (S bad x).1)/\Fl b (S bad x).2 w'/\Ad b w w') (hst:∀x,(S true x).2=true) (hz:∀b x,(S b x).2=true->(S b x).1=0) (h4:kind<4∨kind=6) (hk:Si kind (gS d S)) (hb:Aeb kind (gS d S)):∃g,BY P fn sa uI kind g:=by
 refine⟨gS d S,fun s b rest hc=>?_,fun rest hc=>⟨rfl,fun _=>rfl⟩,hk,hb⟩
 obtain⟨x,hx⟩:=hd rest hc
 have he:=d.law _ _ hx
 unfold gS
 rw[hx]
 refine⟨⟨fun _=>⟨fun u hu=>?_,rfl,fun k w _ _ hw=>?_⟩,fun e=>(by omega)⟩,fun e=>by rw[e];exact hst x,⟨_,rfl⟩,fun e=>(by omega),fun _ e=>congrArg (Value.int .i64) (hz b x e),fun e=>(by omega),fun e=>(by omega)⟩
 ·rw[he]at hu
  exact d.np x u hu
 ·rw[he]
  exact h s k b x w hw
theorem d1(rest:List Value)(h:Aj (G2 []) [uI] rest):∃x,(Aa cI).dec rest=some x:=by
 match rest,h with
 |[a],⟨⟨x,e⟩,_⟩=>exact⟨x,by rw[e];rfl⟩
theorem d2(rest:List Value)(h:Aj (G2 []) [uI,uI] rest):∃x,(Ac cI (Aa cI)).dec rest=some x:=by
 match rest,h with
 |[a,b],⟨⟨x,e⟩,⟨y,f⟩,_⟩=>exact⟨(x,y),by rw[e,f];rfl⟩
theorem d3(rest:List Value)(h:Aj (G2 []) [uI,uI,uI] rest):∃x,(Ac cI (Ac cI (Aa cI))).dec rest=some x:=by
 match rest,h with
 |[a,b,c],⟨⟨x,e⟩,⟨y,f⟩,⟨z,g⟩,_⟩=>exact⟨(x,y,z),by rw[e,f,g];rfl⟩
theorem AOc{a b x:Int}(h:Value.int .i64 x∈[Value.int .i64 a,.int .i64 b]):x=a∨x=b:=by simpa using h
theorem AJi{a b c x:Int}(h:Value.int .i64 x∈[Value.int .i64 a,.int .i64 b,.int .i64 c]):x=a∨x=b∨x=c:=by simpa using h
theorem At9{S:Bool->Int×Int->Int×Bool}(hS:∀a b,(S false (a,b)).2=false->numB a=true/\numB b=true/\numB (S false (a,b)).1=true)(rest:List Value)(s:Bool)(h:(gS (Ac cI (Aa cI)) S s false rest).2=false):
    (∀x,Value.int .i64 x∈rest->numB x=true)/\∀x,(gS (Ac cI (Aa cI)) S s false rest).1=.int .i64 x->numB x=true:=by
 unfold gS at h ⊢
 cases hd:(Ac cI (Aa cI)).dec rest with
 |none=>rw[hd]at h;cases h
 | some y=>
  rw[hd]at h
  obtain⟨h1,h2,h3⟩:=hS y.1 y.2 h
  have he:=(Ac cI (Aa cI)).law _ _ hd
  rw[he]
  refine⟨fun x hx=>?_,fun x hx=>?_⟩
  ·rcases AOc hx with rfl |rfl
   ·exact h1
   ·exact h2
  ·cases hx
   exact h3
theorem AAo{S:Bool->Int×Int->Int×Bool}(hS:∀b x y,S b (x,y)=S b (y,x))(s b:Bool)(x y:Value):gS (Ac cI (Aa cI)) S s b [x,y]=gS (Ac cI (Aa cI)) S s b [y,x]:=by
 have hd:∀u v:Value,(Ac cI (Aa cI)).dec [u,v]=(match cI.dec u,cI.dec v with
  |some a,some b=>some (a,b)
  |_,_=>none):=fun u v=>by
  cases h1:cI.dec u<;>cases h2:cI.dec v<;>simp[Ac,Aa,h1,h2]
 unfold gS
 rw[hd,hd]
 cases cI.dec x<;>cases cI.dec y<;>try rfl
 dsimp only
 rw[hS]
theorem AAp{n:Int}(h:(gv n).2=true):(gv n).1=0:=by
 unfold gv at h ⊢
 have h:¬numB n=true:=by simpa using h
 rw[if_neg h]
theorem XB{n:Int}{m:Bool}(h:(out n m).2=true):(out n m).1=0:=by
 unfold out KZ at *
 have h:4611686018427387904<n:=by simpa using h
 dsimp only
 rw[if_neg (by omega)]
theorem Aua(b:Bool)(x y:Int)(h:(Ap b x y).2=true):(Ap b x y).1=0:=by
 unfold Ap at h ⊢
 split at h
 ·rename_i c
  rw[if_pos c]
  exact AAp h
 ·rename_i c
  rw[if_neg c]
theorem Aub(b:Bool)(x y:Int)(h:(AJ b x y).2=true):(AJ b x y).1=0:=by
 unfold AJ at h ⊢
 split at h
 ·rename_i c
  rw[if_pos c]
  exact AAp h
 ·rename_i c
  rw[if_neg c]
theorem Oc(b:Bool)(x p q:Int)(h:(Af b x p q).2=true):(Af b x p q).1=0:=by
 unfold Af at h ⊢
 split at h
 ·rename_i c
  rw[if_pos c]
  exact XB h
 ·rename_i c
  rw[if_neg c]
theorem Auc(b:Bool)(x y:Int)(h:(mulS b x y).2=true):(mulS b x y).1=0:=Oc b x y _ h
theorem Aud(b:Bool)(x y:Int)(h:(AA b x y).2=true):(AA b x y).1=0:=Oc b x _ y h
theorem Aue(b:Bool)(x y:Int)(h:(Gl b x y).2=true):(Gl b x y).1=0:=by
 unfold Gl at h ⊢
 split at h
 ·cases h
 ·rename_i c
  rw[if_neg c]
theorem Ak6(b:Bool)(x:Int)(h:(B5 b x).2=true):(B5 b x).1=0:=by
 unfold B5 at h ⊢
 split at h
 ·rename_i c
  rw[if_pos c]
  exact XB h
 ·rename_i c
  rw[if_neg c]
theorem normS_zb(b:Bool)(x y z:Int)(h:(Ar b x y z).2=true):(Ar b x y z).1=0:=by
 unfold Ar at h ⊢
 split at h
 ·rename_i c
  rw[if_pos c]
  exact XB h
 ·rename_i c
  rw[if_neg c]
theorem Ak7{n:Int}(h:(gv n).2=false):numB (gv n).1=true:=by
 unfold gv at h ⊢
 have h:numB n=true:=by simpa using h
 rw[if_pos h]
 exact h
theorem Ak8(a b:Int)(h:(Ap false a b).2=false):numB a=true/\numB b=true/\numB (Ap false a b).1=true:=by
 unfold Ap at h ⊢
 split at h
 ·rename_i c
  rw[if_pos c]
  exact⟨(Df c).2.1,(Df c).2.2,Ak7 h⟩
 ·cases h
theorem Ak9(a b:Int)(h:(AJ false a b).2=false):numB a=true/\numB b=true/\numB (AJ false a b).1=true:=by
 unfold AJ at h ⊢
 split at h
 ·rename_i c
  rw[if_pos c]
  exact⟨(Df c).2.1,(Df c).2.2,Ak7 h⟩
 ·cases h
theorem Aeh(b:Bool)(x y:Int):Ap b x y=Ap b y x:=by
 unfold Ap tk
 rw[Int.add_comm x y]
 simp only[Zx,List.all_nil,Bool.and_true]
 rw[Bool.and_comm (numB x)]
theorem Aei(x:Int)(h:numB x=true):Ap false x 0=(x,false):=by
 unfold Ap tk gv
 have h0:numB 0=true:=by decide
 simp[h,h0]
theorem SC{n:Int}{m:Bool}(hn:0<=n)(h:(out n m).2=false):numB (out n m).1=true:=by
 unfold out KZ at *
 have h:¬4611686018427387904<n:=by simpa using h
 dsimp only
 rw[if_pos (by omega)]
 unfold numB
 split<;>simp<;>omega
theorem Lx(a p q:Int)(h:(Af false a p q).2=false):numB a=true/\numB p=true/\numB q=true/\numB (Af false a p q).1=true:=by
 unfold Af at h ⊢
 split at h
 ·rename_i c
  rw[if_pos c]
  rw[Zn]at c
  obtain⟨_,c1,c2,c3⟩:=Ei c.1
  refine⟨c1,c2,c3,SC ?_ h⟩
  have hq:q≠0:=by simpa using c.2
  have hs:∀x:Int,0<=sz x:=fun x=>by unfold sz;split<;>omega
  have hs1:1<=sz q:=by unfold sz;split<;>omega
  exact ET (Zw (hs _) (hs _)) hs1
 ·cases h
theorem Ala(a b:Int)(h:(mulS false a b).2=false):numB a=true/\numB b=true/\numB (mulS false a b).1=true:=by
 obtain⟨h1,h2,_,h4⟩:=Lx a b _ h
 exact⟨h1,h2,h4⟩
theorem Alb(a b:Int)(h:(AA false a b).2=false):numB a=true/\numB b=true/\numB (AA false a b).1=true:=by
 obtain⟨h1,_,h3,h4⟩:=Lx a _ b h
 exact⟨h1,h3,h4⟩
theorem Aej(b:Bool)(x y:Int):mulS b x y=mulS b y x:=by
 unfold mulS Af tk
 rw[Int.mul_comm (sz x)]
 simp only[Zx,List.all_nil,Bool.and_true]
 rw[<-Bool.and_assoc (numB x),Bool.and_comm (numB x),Bool.and_assoc (numB y)]
 cases decide (x<0)<;>cases decide (y<0)<;>rfl
theorem Aek(x:Int)(h:numB x=true):mulS false x 0=(0,false):=by
 unfold mulS Af tk
 have h0:numB 0=true:=by decide
 have h1:numB 1099511627776=true:=by decide
 have e0:sz 0=0:=by decide
 simp only[Zx,List.all_nil,Bool.and_true,h,h0,h1,Bool.not_false,e0,Int.mul_zero]
 cases decide (x<0)<;>decide
theorem Alc(a m:Int)(h:(Gl false a m).2=false):numB a=true/\numB m=true/\numB (Gl false a m).1=true:=by
 unfold Gl at h ⊢
 split at h
 ·rename_i c
  rw[if_pos c]
  rw[Zn]at c
  obtain⟨_,c1,c2⟩:=Df c.1
  have hm:0<m:=of_decide_eq_true c.2
  refine⟨c1,c2,?_⟩
  have:=Bh c2
  have b1:=Int.emod_nonneg a (show m≠0 by omega)
  have b2:=Int.emod_lt_of_pos a hm
  unfold numB
  simp only[Zn,decide_eq_true_eq]
  omega
 ·cases h
theorem Ael(a:Int)(h:(B5 false a).2=false):numB a=true/\numB (B5 false a).1=true:=by
 unfold B5 at h ⊢
 split at h
 ·rename_i c
  rw[if_pos c]
  rw[Zn]at c
  have c1:numB a=true:=by have:=c.1;unfold tk at this;simpa using this
  have h0:0<=a:=of_decide_eq_true c.2
  have b:=Bh c1
  exact⟨c1,SC (Dy _ (by omega) (by omega)).1 h⟩
 ·cases h
theorem Aem(a b c:Int)(h:(Ar false a b c).2=false):numB a=true/\numB b=true/\numB c=true/\numB (Ar false a b c).1=true:=by
 unfold Ar at h ⊢
 split at h
 ·rename_i k
  rw[if_pos k]
  obtain⟨_,c1,c2,c3⟩:=Ei k
  have sq:∀x:Int,numB x=true->0<=x*x/\x*x<=21267647932558653966460912964485513216:=fun x hx=>by
   have b:=Bh hx
   refine⟨by by_cases h0:0<=x;exact Zw h0 h0;rw[<-Int.neg_mul_neg];exact Zw (by omega) (by omega),?_⟩
   by_cases h0:0<=x
   ·exact EE h0 b.2
   ·have:(-x)*(-x)<=_:=EE (show 0<=-x by omega) (show-x<=4611686018427387904 by omega)
    rw[Int.neg_mul_neg]at this
    exact this
  have q1:=sq a c1
  have q2:=sq b c2
  have q3:=sq c c3
  exact⟨c1,c2,c3,SC (Dy _ (by omega) (by omega)).1 h⟩
 ·cases h
theorem Aai{S:Bool->Int×Int->Int×Bool}(hS:∀a b,(S false (a,b)).2=false->numB a=true/\numB b=true/\numB (S false (a,b)).1=true):Si 3 (gS (Ac cI (Aa cI)) S):=
 ⟨fun e=>by omega,fun e=>by omega,fun e=>by omega,fun _ d rest h=>At9 hS rest d h⟩
theorem Auf{S:Bool->Int×Int->Int×Bool}(hS:∀a b,(S false (a,b)).2=false->numB a=true/\numB b=true/\numB (S false (a,b)).1=true):Si 6 (gS (Ac cI (Aa cI)) S):=
 ⟨fun e=>by omega,fun e=>by omega,fun e=>by omega,fun _ d rest h=>At9 hS rest d h⟩
theorem Vh{g:Bool->Bool->List Value->Value×Bool}:Aeb 3 g:=⟨fun e=>by omega,fun e=>by omega,fun e=>by omega⟩
theorem Ald{n:Int}(h:(gv n).2=false):(gv n).1=n:=by
 unfold gv at h ⊢
 have h:numB n=true:=by simpa using h
 rw[if_pos h]
theorem Ale{x y:Int}(h:(Ap false x y).2=false):(Ap false x y).1=x+y:=by
 unfold Ap at h ⊢
 split at h
 ·rename_i c
  rw[if_pos c,Ald h]
 ·cases h
theorem Alf{x y:Int}(h:(AJ false x y).2=false):(AJ false x y).1=x-y:=by
 unfold AJ at h ⊢
 split at h
 ·rename_i c
  rw[if_pos c,Ald h]
 ·cases h
theorem ADb:Aeb 1 (gS (Ac cI (Aa cI)) (fun b x=>Ap b x.1 x.2)):=⟨fun _ d x y h=>congrArg (Value.int .i64) (Ale h),fun e=>(by omega),fun e=>(by omega)⟩
theorem Jh{x:Int}(h:x.natAbs<=4611686018427387904):numB x=true:=by
 unfold numB
 simp only[Zn,decide_eq_true_eq]
 omega
theorem XC{x y:Int}(hx:x.natAbs<=2305843009213693952)(hy:y.natAbs<=2305843009213693952):(AJ false x y).2=false:=by
 have n1:=Jh (x:=x) (by omega)
 have n2:=Jh (x:=y) (by omega)
 have n3:=Jh (x:=x-y) (by omega)
 unfold AJ tk gv
 simp[n1,n2,n3]
theorem ADc:Aeb 6 (gS (Ac cI (Aa cI)) (fun b x=>AJ b x.1 x.2)):=⟨fun e=>(by omega),fun _ d x y=>⟨fun h=>congrArg (Value.int .i64) (Alf h),fun hx hy=>XC hx hy⟩,fun e=>(by omega)⟩
theorem Ji(x:Int):sz x=x.natAbs:=by
 unfold sz
 split<;>omega
theorem partS_near(a p q:Int)(h:(Af false a p q).2=false):(Af false a p q).1.natAbs*q.natAbs<=a.natAbs*p.natAbs+q.natAbs / 2:=by
 unfold Af at h ⊢
 split at h
 ·rename_i c
  rw[if_pos c]
  rw[Zn]at c
  have hq:q≠0:=by simpa using c.2
  have h1:(1:Int)<=sz q:=by rw[Ji];omega
  have hn:=T9 (sz a*sz p) (sz q) h1
  have h0:=ET (n:=sz a*sz p) (d:=sz q) (Zw (by rw[Ji];omega) (by rw[Ji];omega)) h1
  generalize hr:rnd (sz a*sz p) (sz q)=r at *
  have e:(out r ((decide (a<0) != decide (p<0)) != decide (q<0))).1.natAbs=r.natAbs:=by
   unfold out KZ at *
   have h:¬4611686018427387904<r:=by simpa using h
   dsimp only
   rw[if_pos (by omega)]
   split<;>omega
  rw[e]
  have h3:((r.natAbs*q.natAbs:Nat):Int)<=((a.natAbs*p.natAbs+q.natAbs / 2:Nat):Int):=by
   have e1:((r.natAbs*q.natAbs:Nat):Int)=r*sz q:=by rw[Ji,Int.natCast_mul];congr 1;omega
   have e2:((a.natAbs*p.natAbs+q.natAbs / 2:Nat):Int)=sz a*sz p+sz q / 2:=by rw[Ji,Ji,Ji,Int.natCast_add,Int.natCast_mul];rfl
   rw[e1,e2]
   exact hn.1
  exact Int.ofNat_le.1 h3
 ·cases h
theorem mulS_near{x y:Int}(h:(mulS false x y).2=false):(mulS false x y).1.natAbs*1099511627776<=x.natAbs*y.natAbs+1099511627776:=by
 have:=partS_near x y 1099511627776 h
 have e:Int.natAbs 1099511627776=1099511627776:=rfl
 rw[e]at this
 show(Af false x y 1099511627776).1.natAbs*1099511627776<=_
 omega
theorem ADd:Aeb 2 (gS (Ac cI (Aa cI)) (fun b x=>mulS b x.1 x.2)):=⟨fun e=>(by omega),fun e=>(by omega),fun _ d x y h=>⟨_,rfl,mulS_near h⟩⟩
theorem Aug:Si 1 (gS (Ac cI (Aa cI)) (fun b x=>Ap b x.1 x.2)):=
 ⟨fun _ d b x y=>AAo (fun b x y=>Aeh b x y) d b x y,fun _ d x hx=>by unfold gS;show(Value.int .i64 (Ap false x 0).1,(Ap false x 0).2)=_;rw[Aei x hx],fun e=>by omega,fun _ d rest h=>At9 (fun a b=>Ak8 a b) rest d h⟩
theorem Auh:Si 2 (gS (Ac cI (Aa cI)) (fun b x=>mulS b x.1 x.2)):=
 ⟨fun _ d b x y=>AAo (fun b x y=>Aej b x y) d b x y,fun e=>by omega,fun _ d x hx=>by unfold gS;show(Value.int .i64 (mulS false x 0).1,(mulS false x 0).2)=_;rw[Aek x hx],fun _ d rest h=>At9 (fun a b=>Ala a b) rest d h⟩
theorem Alg:Si 3 (gS (Ac cI (Ac cI (Aa cI))) (fun b x=>Af b x.1 x.2.1 x.2.2)):=
 ⟨fun e=>by omega,fun e=>by omega,fun e=>by omega,fun _ d rest h=>by
  unfold gS at h ⊢
  cases hd:(Ac cI (Ac cI (Aa cI))).dec rest with
  |none=>rw[hd]at h;cases h
  | some y=>
   rw[hd]at h
   obtain⟨h1,h2,h3,h4⟩:=Lx y.1 y.2.1 y.2.2 h
   have he:=(Ac cI (Ac cI (Aa cI))).law _ _ hd
   rw[he]
   refine⟨fun x hx=>?_,fun x hx=>?_⟩
   ·rcases AJi hx with rfl |rfl |rfl
    ·exact h1
    ·exact h2
    ·exact h3
   ·cases hx
    exact h4⟩
theorem Alh:Si 3 (gS (Ac cI (Ac cI (Aa cI))) (fun b x=>Ar b x.1 x.2.1 x.2.2)):=
 ⟨fun e=>by omega,fun e=>by omega,fun e=>by omega,fun _ d rest h=>by
  unfold gS at h ⊢
  cases hd:(Ac cI (Ac cI (Aa cI))).dec rest with
  |none=>rw[hd]at h;cases h
  | some y=>
   rw[hd]at h
   obtain⟨h1,h2,h3,h4⟩:=Aem y.1 y.2.1 y.2.2 h
   have he:=(Ac cI (Ac cI (Aa cI))).law _ _ hd
   rw[he]
   refine⟨fun x hx=>?_,fun x hx=>?_⟩
   ·rcases AJi hx with rfl |rfl |rfl
    ·exact h1
    ·exact h2
    ·exact h3
   ·cases hx
    exact h4⟩
theorem Ali:Si 3 (gS (Aa cI) (fun b x=>B5 b x)):=
 ⟨fun e=>by omega,fun e=>by omega,fun e=>by omega,fun _ d rest h=>by
  unfold gS at h ⊢
  cases hd:(Aa cI).dec rest with
  |none=>rw[hd]at h;cases h
  | some y=>
   rw[hd]at h
   obtain⟨h1,h4⟩:=Ael y h
   have he:=(Aa cI).law _ _ hd
   rw[he]
   refine⟨fun x hx=>?_,fun x hx=>?_⟩
   ·have:x=y:=by simpa [Aa,cI]using hx
    rw[this]
    exact h1
   ·cases hx
    exact h4⟩
theorem goP{P:Program}{a b:Nat}(ha:∀(args:Array Value) (w:World),(callFunc a args).run P w=.ok (.enter a args) w)(hb:∀(args:Array Value) (w:World),(callFunc b args).run P w=.ok (.enter b args) w)(d:Bool)(args:Array Value)(w:World):(callFunc (bif d then b else a) args).run P w=.ok (.enter (bif d then b else a) args) w:=by
 cases d
 ·exact ha args w
 ·exact hb args w
def Jj:Pr Zm:=⟨fun d=>bif d then 64 else 134,goP (Ae Tryz.func134 (by kernel_rfl) (by kernel_rfl)) (Ae Tryz.func64 (by kernel_rfl) (by kernel_rfl)),[uI,uI],uI,1,by decide+kernel,fun r=>r,fun _ _=>rfl,FA d2 (fun s b bad x w hw=>by cases s;exact DJ b bad x.1 x.2 w hw;exact FZ b bad x.1 x.2 w hw) (fun x=>by rw[MM (show tk true _=false from rfl)]) (fun b x=>Aua b _ _) (by decide) Aug ADb⟩
def Jk:Pr Zm:=⟨fun d=>bif d then 66 else 122,goP (Ae Tryz.func122 (by kernel_rfl) (by kernel_rfl)) (Ae Tryz.func66 (by kernel_rfl) (by kernel_rfl)),[uI,uI],uI,6,by decide+kernel,fun r=>r,fun _ _=>rfl,FA (S:=fun b x=>AJ b x.1 x.2) d2 (fun s b bad x w hw=>by cases s;exact Eg b bad x.1 x.2 w hw;exact Vg b bad x.1 x.2 w hw) (fun x=>by rw[MN (show tk true _=false from rfl)]) (fun b x=>Aub b _ _) (by decide) (Auf fun a b=>Ak9 a b) ADc⟩
def Hc:Pr Zm:=⟨fun d=>bif d then 72 else 127,goP (Ae Tryz.func127 (by kernel_rfl) (by kernel_rfl)) (Ae Tryz.func72 (by kernel_rfl) (by kernel_rfl)),[uI,uI],uI,2,by decide+kernel,fun r=>r,fun _ _=>rfl,FA d2 (fun s b bad x w hw=>by cases s;exact Aw b bad x.1 x.2 w hw;exact Kk b bad x.1 x.2 w hw) (fun x=>by rw[MO (show tk true _=false from rfl)]) (fun b x=>Auc b _ _) (by decide) Auh ADd⟩
def Vi:Pr Zm:=⟨fun d=>bif d then 70 else 211,goP (Ae Tryz.func211 (by kernel_rfl) (by kernel_rfl)) (Ae Tryz.func70 (by kernel_rfl) (by kernel_rfl)),[uI,uI],uI,3,by decide+kernel,fun r=>r,fun _ _=>rfl,FA (S:=fun b x=>AA b x.1 x.2) d2 (fun s b bad x w hw=>by cases s;exact DK b bad x.1 x.2 w hw;exact Oa b bad x.1 x.2 w hw) (fun x=>by show(AA true x.1 x.2).2=true;unfold AA;rw[Ca (show tk true _=false from rfl)]) (fun b x=>Aud b _ _) (by decide) (Aai fun a b=>Alb a b) Vh⟩
def Alj:Pr Zm:=⟨fun d=>bif d then 75 else 212,goP (Ae Tryz.func212 (by kernel_rfl) (by kernel_rfl)) (Ae Tryz.func75 (by kernel_rfl) (by kernel_rfl)),[uI,uI],uI,3,by decide+kernel,fun r=>r,fun _ _=>rfl,FA (S:=fun b x=>Gl b x.1 x.2) d2 (fun s b bad x w hw=>by cases s;exact At8 b bad x.1 x.2 w hw;exact Ak5 b bad x.1 x.2 w hw) (fun x=>by rw[Rv (show tk true _=false from rfl)]) (fun b x=>Aue b _ _) (by decide) (Aai fun a b=>Alc a b) Vh⟩
def Od:Pr Zm:=⟨fun d=>bif d then 65 else 151,goP (Ae Tryz.func151 (by kernel_rfl) (by kernel_rfl)) (Ae Tryz.func65 (by kernel_rfl) (by kernel_rfl)),[uI,uI,uI],uI,3,by decide+kernel,fun r=>r,fun _ _=>rfl,FA d3 (fun s b bad x w hw=>by cases s;exact CF b bad x.1 x.2.1 x.2.2 w hw;exact F7 b bad x.1 x.2.1 x.2.2 w hw) (fun x=>by rw[Ca (show tk true _=false from rfl)]) (fun b x=>Oc b _ _ _) (by decide) Alg Vh⟩
def Aaj:Pr Zm:=⟨fun d=>bif d then 79 else 135,goP (Ae Tryz.func135 (by kernel_rfl) (by kernel_rfl)) (Ae Tryz.func79 (by kernel_rfl) (by kernel_rfl)),[uI,uI,uI],uI,3,by decide+kernel,fun r=>r,fun _ _=>rfl,FA (S:=fun b x=>Ar b x.1 x.2.1 x.2.2) d3 (fun s b bad x w hw=>by cases s;exact Kj b bad x.1 x.2.1 x.2.2 w hw;exact Lv b bad x.1 x.2.1 x.2.2 w hw) (fun x=>by rw[Hg (show tk true _=false from rfl)]) (fun b x=>normS_zb b _ _ _) (by decide) Alh Vh⟩
def Alk:Pr Zm:=⟨fun d=>bif d then 71 else 210,goP (Ae Tryz.func210 (by kernel_rfl) (by kernel_rfl)) (Ae Tryz.func71 (by kernel_rfl) (by kernel_rfl)),[uI],uI,3,by decide+kernel,fun r=>r,fun _ _=>rfl,FA (S:=fun b x=>B5 b x) d1 (fun s b bad x w hw=>by cases s;exact N7 b bad x w hw;exact QL b bad x w hw) (fun x=>by rw[No (show tk true _=false from rfl)]) (fun b x=>Ak6 b _) (by decide) Ali Vh⟩
theorem Auj(b:Bool):CallsOk Zm 121 b [] undef true:=⟨fun u hu=>(by cases hu),rfl,fun k w _ _ hw=>BA k b w hw⟩
theorem All(b:Bool):CallsOk Zm 68 b [] undef true:=⟨fun u hu=>(by cases hu),rfl,fun k w _ _ hw=>Lw k b w hw⟩
section
variable {P:Program}
def Auk{P:Program}(d:Bool):Nat->List (Pr P)->List (Rw (Nat×List Nd))
 |_,[]=>[]
 |i,pr::l=>(match QH pr.kind with
  |true=>Aku pr d i
  |false=>AC2 pr d i)::Auk d (i+1) l
def Aul{P:Program}(ks:List Nat)(d:Bool):Nat->List (Pr P)->List (Rw Tb)
 |_,[]=>[]
 |i,pr::l=>(match QH pr.kind with
  |true=>Akw pr d i
  |false=>AC3 pr ks d i)::Aul ks d (i+1) l
theorem SD{prs:List (Pr P)}{d:Bool}:∀(i:Nat) (l:List (Pr P)),(∀j pr,l[j]? =some pr->prs[i+j]? =some pr)->TOk P (TV prs d) (Auk d i l)
 |_,[],_=>fun a ha=>by cases ha
 | i,pr::l,h=>fun a ha=>by
  rcases Zp.1 ha with rfl |ha
  ·split
   ·exact Akv d (h 0 pr rfl)
   ·exact Ats d (h 0 pr rfl)
  ·exact SD (i+1) l (fun j x hx=>by have:=h (j+1) x (by simpa using hx);rw[Nat.add_assoc,Nat.add_comm 1 j];exact this) a ha
theorem SE{prs:List (Pr P)}{ks:List Nat}(hks:ks=prs.map (·.kind)){d:Bool}:∀(i:Nat) (l:List (Pr P)),(∀j pr,l[j]? =some pr->prs[i+j]? =some pr)->TOk P (IC prs d) (Aul ks d i l)
 |_,[],_=>fun a ha=>by cases ha
 | i,pr::l,h=>fun a ha=>by
  rcases Zp.1 ha with rfl |ha
  ·split
   ·exact Akx d (h 0 pr rfl)
   ·exact Atu hks d (h 0 pr rfl)
  ·exact SE hks (i+1) l (fun j x hx=>by have:=h (j+1) x (by simpa using hx);rw[Nat.add_assoc,Nat.add_comm 1 j];exact this) a ha
theorem self_at(prs:List (Pr P)):∀j pr,prs[j]? =some pr->prs[0+j]? =some pr:=fun j pr h=>by rw[Nat.zero_add];exact h
def there(P:Program)(f:Nat):Bool:=
 match P.funcs[f]? with
 |some fn=>!(fn.name== "runtime.NumGoroutine")&& !fn.body.isNone
 |none=>false
theorem C9{f:Nat}(h:there P f=true)(args:Array Value)(w:World):(callFunc f args).run P w=.ok (.enter f args) w:=by
 unfold there at h
 split at h
 ·rename_i fn hf
  simp only[Zn,Bool.not_eq_true']at h
  exact Ae hf h.1 h.2 args w
 ·cases h
def Aln{σ:Type}(eq:PM σ):List Ent->List (Rw σ)->List (Rw σ)
 |[],l=>l
 |e::r,l=>Aln eq r (AC9 eq l e::l)
theorem Gx(hm:P.follows .mixedOrders=true){σ:Type}{I:List Int->σ->Bool->Prop}{eq:PM σ}(heq:UE I eq):∀(fs:List Ent),(∀e∈fs,Aag P e)->∀(l:List (Rw σ)),TOk P I l->TOk P I (Aln eq fs l)
 |[],_,_,h=>h
 |e::r,he,l,h=>Gx hm heq r (fun x hx=>he x (Zr _ hx)) _ fun a ha=>by
  rcases Zp.1 ha with rfl |ha
  ·exact Aah hm heq h (he _ Zt)
  ·exact h a ha
def ADe(P:Program)(l:List (Rw (Nat×List Nd)))(f:Nat)(fl:Bool)(n:Nat)(sa:List Value)(sr:Value):Bool:=
 match P.funcs[f]? with
 | some fn=>(match fn.body with
  |some c=>(match fl with
   |true=>At6 P [] l (fun _=>[]) n fn c sa sr 0
   |false=>Akz P l n fn c sa sr)
  |none=>false)
 |none=>false
def Alo(P:Program)(l:List (Rw (Nat×List Nd))):List Ent->Bool
 |[]=>true
 |(f,fl,n,sa,sr)::r=>there P f&&sa.all TU&&TU sr&&(!neL sa||ADe P l f fl n sa sr)&&Alo P (AC9 eqO l (f,fl,n,sa,sr)::l) r
theorem SF(hm:P.follows .mixedOrders=true){prs:List (Pr P)}{d:Bool}:∀(fs:List Ent) (l:List (Rw (Nat×List Nd))),TOk P (TV prs d) l->Alo P l fs=true->∀e∈fs,Aag P e
 |[],_,_,_=>fun e he=>by cases he
 | (f,fl,n,sa,sr)::r,l,hl,h=>by
  unfold Alo at h
  simp only[Zn]at h
  obtain⟨⟨⟨⟨h1,h2⟩,h3⟩,h4⟩,h5⟩:=h
  have this:Aag P (f,fl,n,sa,sr):=by
   have key:neL sa=true->ADe P l f fl n sa sr=true:=fun e=>by
    rw[e]at h4
    simpa using h4
   unfold ADe at key
   refine⟨C9 h1,h2,h3,fun ne e=>?_,fun ne e=>?_⟩
   ·have h4:=key ne
    have e:fl=true:=e
    subst e
    split at h4
    ·rename_i fn hf
     split at h4
     ·rename_i c hb
      exact fun rest g=>(Sz hm (kk:=0) (fun e=>absurd rfl e) hl hf hb h3 h4 rest g).imp fun v k=>⟨k.1,k.2.1⟩
     ·cases h4
    ·cases h4
   ·have h4:=key ne
    have e:fl=false:=e
    subst e
    split at h4
    ·rename_i fn hf
     split at h4
     ·rename_i c hb
      exact Ak0 hm hl hf hb h3 h4
     ·cases h4
    ·cases h4
  intro e he
  rcases Zp.1 he with rfl |he
  ·exact this
  ·exact SF hm r _ (fun a ha=>by
    rcases Zp.1 ha with rfl |ha
    ·exact Aah hm Hv hl this
    ·exact hl a ha) h5 e he
def onF(P:Program)(f:Nat)(k:Func->Code->Bool):Bool:=
 match P.funcs[f]? with
 |some fn=>(match fn.body with
  |some c=>k fn c
  |none=>false)
 |none=>false
theorem Ly{f:Nat}{k:Func->Code->Bool}(h:onF P f k=true):∃fn c,P.funcs[f]? =some fn/\fn.body=some c/\k fn c=true:=by
 unfold onF at h
 split at h
 ·rename_i fn hf
  split at h
  ·rename_i c hc
   exact⟨fn,c,hf,hc,h⟩
  ·cases h
 ·cases h
abbrev RoT:=Bool->List (Rw (Nat×List Nd))
abbrev RcT:=Bool->List (Rw Tb)
def SG(P:Program)(ro:RoT)(xa xb:List Ent)(a b:Nat)(sr:Value):Bool:=
 TU sr&&(P.inits.idxOf? a).isNone&&(P.inits.idxOf? b).isNone&&Alo P (ro false) xa&&Alo P (ro true) xb
def IQ(P:Program)(ro:RoT)(rc:RcT)(ks:List Nat)(d:Bool)(xa xb:List Ent)(da db:Nat->List Nat)(n:Nat)(a b:Nat)(sa:List Value)(sr:Value)(kk:Nat):Bool:=
 onF P a fun fa ca=>onF P b fun fb cb=>AC8 P ks (Aln eqO xa (ro d)) da n fa ca (Aln eqC xb (rc d)) db n fb cb sa sr kk
def IR(P:Program)(ro:RoT)(ks:List Nat)(d:Bool)(xa:List Ent)(da:Nat->List Nat)(n:Nat)(a:Nat)(sa:List Value)(sr:Value)(kk:Nat):Bool:=
 onF P a fun fa ca=>At6 P ks (Aln eqO xa (ro d)) da n fa ca sa sr kk
def chk(P:Program)(ro:RoT)(rc:RcT)(ks:List Nat)(xa xb:List Ent)(da db:Nat->List Nat)(n:Nat)(a b:Nat)(sa:List Value)(sr:Value)(kk:Nat):Bool:=
 Sy kk&&SG P ro xa xb a b sr&&IQ P ro rc ks false xa xb da db n a b sa sr kk&&IQ P ro rc ks true xb xa db da n b a sa sr kk&&IR P ro ks false xa da n a sa sr kk&&IR P ro ks true xb db n b sa sr kk
theorem Lz{ro:RoT}{rc:RcT}{ks:List Nat}{a b:Nat}{xa xb:List Ent}{da db:Nat->List Nat}{n:Nat}{sa:List Value}{sr:Value}{kk:Nat}
    (h0:Sy kk=true) (h1:SG P ro xa xb a b sr=true) (h2:IQ P ro rc ks false xa xb da db n a b sa sr kk=true) (h3:IQ P ro rc ks true xb xa db da n b a sa sr kk=true) (h4:IR P ro ks false xa da n a sa sr kk=true) (h5:IR P ro ks true xb db n b sa sr kk=true):
    chk P ro rc ks xa xb da db n a b sa sr kk=true:=by
 unfold chk
 rw[h0,h1,h2,h3,h4,h5]
 rfl
theorem AP(hm:P.follows .mixedOrders=true){prs:List (Pr P)}{ks:List Nat}{ro:RoT}{rc:RcT}(hO:∀d,TOk P (TV prs d) (ro d))(hC:∀d,TOk P (IC prs d) (rc d))(hks:ks=prs.map (·.kind)){a b:Nat}{xa xb:List Ent}{da db:Nat->List Nat}{n:Nat}{sa:List Value}{sr:Value}{kk:Nat}
    (h:chk P ro rc ks xa xb da db n a b sa sr kk=true):∃g,BY P (fun d=>bif d then b else a) sa sr kk g:=by
 unfold chk at h
 simp only[Zn]at h
 obtain⟨⟨⟨⟨⟨hkk,h0⟩,h1⟩,h2⟩,h3⟩,h4⟩:=h
 unfold SG at h0
 simp only[Zn]at h0
 obtain⟨⟨⟨⟨hsr,i1⟩,i2⟩,x1⟩,x2⟩:=h0
 obtain⟨fa,ca,ha,hca,h1⟩:=Ly h1
 obtain⟨fb,cb,hb,hcb,h1⟩:=Ly h1
 obtain⟨fb',cb',hb',hcb',h2⟩:=Ly h2
 obtain⟨fa',ca',ha',hca',h2⟩:=Ly h2
 have ga:=SF hm xa _ (hO false) x1
 have gb:=SF hm xb _ (hO true) x2
 refine AJh hkk (fun d=>?_) (Aaf hm hks (Gx hm Hv xa ga _ (hO false)) ha hca (Gx hm Xz xb gb _ (hC false)) hb hcb hsr h1) (Aaf hm hks (Gx hm Hv xb gb _ (hO true)) hb' hcb' (Gx hm Xz xa ga _ (hC true)) ha' hca' hsr h2) (fun d=>?_)
 ·cases d
  ·exact Option.isNone_iff_eq_none.1 i1
  ·exact Option.isNone_iff_eq_none.1 i2
 ·cases d
  ·obtain⟨fa,ca,ha,hca,h3⟩:=Ly h3
   exact Sz hm (fun _=>hks) (Gx hm Hv xa ga _ (hO false)) ha hca hsr h3
  ·obtain⟨fb,cb,hb,hcb,h4⟩:=Ly h4
   exact Sz hm (fun _=>hks) (Gx hm Hv xb gb _ (hO true)) hb hcb hsr h4
theorem Aen{a b:Nat}(h:(there P a&&there P b)=true)(d:Bool)(args:Array Value)(w:World):(callFunc (bif d then b else a) args).run P w=.ok (.enter (bif d then b else a) args) w:=by
 rw[Zn]at h
 cases d
 ·exact C9 h.1 args w
 ·exact C9 h.2 args w
def Oe(a b:Nat){sa:List Value}{sr:Value}{k:Nat}(hg:(there P a&&there P b)=true)(hn:(sa.all TU&&TU sr)=true)(h:∃g,BY P (fun d=>bif d then b else a) sa sr k g):Pr P:=⟨fun d=>bif d then b else a,Aen hg,sa,sr,k,hn,fun r=>r,fun _ _=>rfl,h⟩
end
theorem Aak(d:Bool)(args:Array Value)(w:World):(callFunc (bif d then 68 else 121) args).run Zm w=.ok (.enter (bif d then 68 else 121) args) w:=goP (Ae Tryz.func121 (by kernel_rfl) (by kernel_rfl)) (Ae Tryz.func68 (by kernel_rfl) (by kernel_rfl)) d args w
theorem Aal(d b:Bool):CallsOk Zm (bif d then 68 else 121) b [] undef true:=by
 cases d
 ·exact Auj b
 ·exact All b
def flN(d:Bool):Nat:=bif d then 68 else 121
def tO(prs:List (Pr Zm)):RoT:=fun d=>IB (flN d)::Auk d 0 prs
def tC(prs:List (Pr Zm))(ks:List Nat):RcT:=fun d=>IB (flN !d)::Aul ks d 0 prs
theorem B6(prs:List (Pr Zm))(d:Bool):TOk Zm (TV prs d) (tO prs d):=fun a ha=>by
 rcases Zp.1 ha with rfl |ha
 ·exact Gw (Aak d) (fun _ _ _ h=>⟨h.1,fun e=>(by cases e),h.2.2⟩) (Aal d)
 ·exact SD 0 prs (self_at prs) a ha
theorem B7{prs:List (Pr Zm)}{ks:List Nat}(hks:ks=prs.map (·.kind))(d:Bool):TOk Zm (IC prs d) (tC prs ks d):=fun a ha=>by
 rcases Zp.1 ha with rfl |ha
 ·exact Gw (Aak !d) (fun _ _ _ h=>h) (Aal !d)
 ·exact SE hks 0 prs (self_at prs) a ha
end Nx
end Go.Proofs.YtoadcnhcfodkgaaGreatDoor
