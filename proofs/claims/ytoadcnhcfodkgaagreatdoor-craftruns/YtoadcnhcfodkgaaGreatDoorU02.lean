import Derived.OrdersHeld
import Derived.Test.YtoadcnhcfodkgaaGreatDoorU01
open Array renaming all_eq_true_iff_forall_mem→Zm,getD_eq_getD_getElem?→Zp,getElem?_eq_getElem→Zq,getElem?_eq_none→Zz,getElem?_eq_some_iff→Zai,mem_append_right→Zak,toList_map→Zan,all_toList→Zaq
open List renaming getD_eq_getElem?_getD→Zn,getElem?_eq_some_iff→Zr,mem_cons_self→Zs,getElem?_set_ne→Zt,mem_cons_of_mem→Zu,getElem?_append_left→Zv,all_eq_true→Zx,getElem?_eq_getElem→Zaa,getElem?_set_self→Zab,getElem?_append_right→Zac,mem_map→Zad,mem_filter→Zae,replicate→Zaf,getElem?_eq_none→Zah,length_append→Zaj,length_replicate→Zal,getElem_mem→Zam,eq_nil_iff_forall_not_mem→Zao,mem_range→Zap
open Bool renaming and_eq_true→Zo,or_eq_true→Zag
open Nat renaming eq_of_beq_eq_true→Zw
open Option renaming bind_some→Zy
namespace Go.Proofs.YtoadcnhcfodkgaaGreatDoor
section
open Go.RowKit
theorem RG{P:Program}{cl:Nat->Bool}{id:Nat}{o:Oper}{ρ ρ':Operand->Value}{m m':Xm}(hs:∀cs b,o.op≠.select cs b)(hm:∀k:Nat,cl k=true->m[k]? =m'[k]?)(hr:∀x∈o.op.operands,ρ x=ρ' x):vq P cl id o ρ m=vq P cl id o ρ' m':=by
 have hp:Bc P o ρ=Bc P o ρ':=by
  unfold Bc
  have e:o.op.operands.all (fun x=>!isP (ρ x))=o.op.operands.all (fun x=>!isP (ρ' x)):=by
   rw[Bool.eq_iff_iff,Zm,Zm]
   exact⟨fun h x hx=>by rw[<-hr x hx];exact h x hx,fun h x hx=>by rw[hr x hx];exact h x hx⟩
  rw[e,execOp_congr o hs hr]
 unfold vq
 rw[hp]
 cases hop:o.op<;>rw[hop]at hr<;>simp only[Op.operands]at hr<;>dsimp only
 case move x=>rw[hr x (by simp)]
 case assign x=>rw[hr x (by simp)]
 case pick c p q=>rw[hr c (by simp),hr p (by simp),hr q (by simp)]
 case load t x=>
  rw[hr x (by simp)]
  congr 1
  split
  ·rename_i k off _
   cases hc:cl k with
   |true=>rw[hm k hc]
   |false=>rfl
  ·rfl
 case fieldAddr s x f=>rw[hr x (by simp)]
 case indexAddr t x ix=>rw[hr x (by simp),hr ix (by simp)]
 case nilCheck x=>rw[hr x (by simp)]
 case binOp op t x y t2=>rw[hr x (by simp),hr y (by simp)]
theorem Asn{P:Program}{tbl:List (Ct P)}{id:Nat}{o:Oper}{ρ ρ':Operand->Value}{m:Xm}{K:Value->Xm->Prop}(hs:∀cs b,o.op≠.select cs b)(hr:∀x∈o.op.operands,ρ x=ρ' x):va P tbl id o ρ m K=va P tbl id o ρ' m K:=by
 have hv:=RG (P:=P) (cl:=fun _=>true) (id:=id) (m:=m) (m':=m) hs (fun _ _=>rfl) hr
 unfold va
 rw[hv]
 cases hall:o.op.operands.all P6
 ·rfl
 clear hv hall
 cases hop:o.op<;>rw[hop]at hr<;>simp only[Op.operands]at hr<;>dsimp only
 case store t x y=>rw[hr x (by simp),hr y (by simp)]
 case box t x=>rw[hr x (by simp)]
 case call c=>
  have:c.args.toList.map ρ=c.args.toList.map ρ':=List.map_congr_left fun x hx=>hr x (by
   unfold Call.operands
   exact Zak _ (by simpa using hx))
  rw[this]
theorem Aso{id:Nat}{o:Oper}{ρ ρ':Operand->Value}(hr:∀x∈o.op.operands,ρ x=ρ' x):vw id o ρ=vw id o ρ':=by
 unfold vw
 cases hop:o.op<;>rw[hop]at hr<;>simp only[Op.operands]at hr<;>dsimp only
 case store t x y=>rw[hr x (by simp)]
 case call c=>
  have:c.args.toList.map ρ=c.args.toList.map ρ':=List.map_congr_left fun x hx=>hr x (by
   unfold Call.operands
   exact Zak _ (by simpa using hx))
  rw[this]
theorem MP{P:Program}{tbl:List (Ct P)}{id:Nat}{o:Oper}{ρ:Operand->Value}{m:Xm}{K K':Value->Xm->Prop}(hK:∀v m',K v m'->K' v m')(h:va P tbl id o ρ m K):va P tbl id o ρ m K':=by
 unfold va at h ⊢
 split at h
 ·split at h
  ·split at h
   ·split at h
    ·exact hK _ _ h
    ·exact h
   ·exact h
  ·exact h
 ·split at h
  ·exact hK _ _ h
  ·exact h
 ·split at h
  ·exact hK _ _ h
  ·exact h
 ·split at h
  ·split at h
   ·rename_i ct _
    exact ct.mono hK h
   ·exact h
  ·exact h
 ·exact h
theorem Asp{P:Program}{tbl:List (Ct P)}{id:Nat}{o:Oper}{ρ:Operand->Value}{m:Xm}{K:Value->Xm->Prop}(h:va P tbl id o ρ m K):va P tbl id o ρ m (fun v m'=>K v m'/\∀k,k∉vw id o ρ->m'[k]? =m[k]?):=by
 unfold va at h ⊢
 split at h
 ·rename_i t x y _ hop
  split at h
  ·rename_i k off hx
   split at h
   ·split at h
    ·refine⟨h,fun k' hk'=>?_⟩
     unfold vw at hk'
     rw[hop]at hk'
     dsimp only at hk'
     rw[hx]at hk'
     have e:k≠k':=by rintro rfl;exact hk' (by simp[Hb])
     rw[Zt e]
    ·exact h
   ·exact h
  ·exact h
 ·rename_i t x _ hop
  split at h
  ·refine⟨h,fun k' hk'=>?_⟩
   unfold vw at hk'
   rw[hop]at hk'
   have e:id≠k':=by rintro rfl;exact hk' (by simp)
   rw[Zt e]
  ·exact h
 ·split at h
  ·exact⟨h,fun _ _=>rfl⟩
  ·exact h
 ·rename_i c _ hop
  split at h
  ·split at h
   ·rename_i ct _
    refine ct.mono ?_ (ct.keep h)
    rintro v m' ⟨h1,_,h2⟩
    refine⟨h1,fun k hk=>h2 k ?_⟩
    unfold vw at hk
    rw[hop]at hk
    exact hk
   ·exact h
  ·exact h
 ·exact h
theorem Ai5{vt:List Value}{dst:Option Tmp}{v:Value}{x:Operand}(h:∀d,dst=some d->x≠.tmp d):VE (BO vt dst v) x=VE vt x:=by
 cases dst with
 |none=>rfl
 | some d=>
  cases x with
  |tmp t=>
   have hne:d≠t:=fun e=>h d rfl (e▸rfl)
   show(vt.set d v).getD t undef=vt.getD t undef
   rw[Zn,Zn,Zt hne]
  |_=>rfl
theorem JR{ops:Array Oper}{o:Oper}{vt:List Value}{dst:Option Tmp}{v:Value}(h:∀d,dst=some d->d∉o.looksAt ops):∀x∈o.op.operands,VE (BO vt dst v) x=VE vt x:=
 fun x hx=>Ai5 fun d hd hxd=>h d hd (by
  subst hxd
  exact List.mem_append_left _ (List.mem_filterMap.2 ⟨.tmp d,by simpa using hx,rfl⟩))
theorem Mh{ops:Array Oper}{o:Oper}{vt:List Value}{dst:Option Tmp}{v:Value}(h:∀d,dst=some d->d∉o.looksAt ops):Region.wanted o (Bp ops (BO vt dst v))=Region.wanted o (Bp ops vt):=by
 cases dst with
 |none=>rfl
 | some d=>
  unfold Region.wanted
  cases hg:o.guard with
  |none=>rfl
  | some gw=>
   obtain⟨g,want⟩:=gw
   have hy:Bp ops (BO vt (some d) v) g=Bp ops vt g:=by
    unfold Bp
    cases ht:(ops[g]?).bind (·.dst)with
    |none=>rfl
    |some t=>
     have hne:d≠t:=fun e=>h d rfl (by subst e;simp[Oper.looksAt,hg,ht])
     dsimp only
     have e2:(BO vt (some d) v).getD t undef=vt.getD t undef:=Ai5 (vt:=vt) (dst:=some d) (v:=v) (x:=.tmp t) (fun d' hd' e=>by cases hd';cases e;exact hne rfl)
     rw[e2]
   simp only[hy]
theorem Adi{vt:List Value}{d1 d2:Option Tmp}{v1 v2:Value}(h:∀d,d1=some d->d2≠some d):BO (BO vt d1 v1) d2 v2=BO (BO vt d2 v2) d1 v1:=by
 cases d1 with
 |none=>rfl
 | some a=>
  cases d2 with
  |none=>rfl
  |some b=>
   have hne:a≠b:=fun e=>h a rfl (by rw[e])
   exact List.set_comm _ _ hne
def Hk(b:Bool)(A:Prop):Prop:=
 match b with
 |true=>A
 |false=>False
theorem Bf{b:Bool}{A:Prop}:Hk b A↔b=true/\A:=by
 cases b
 ·exact⟨fun h=>h.elim,fun h=>by cases h.1⟩
 ·exact⟨fun h=>⟨rfl,h⟩,fun h=>h.2⟩
def mOf(l:List Nat):Nat:=l.foldl (fun a d=>a|||(1<<<d)) 0
def NC(a b:Nat):Bool:=Nat.beq (a&&&b) a
theorem Ai6:∀(l:List Nat) (a i:Nat),(l.foldl (fun a d=>a|||(1<<<d)) a).testBit i=(a.testBit i||l.contains i)
 |[],a,i=>by simp
 |d::l,a,i=>by
  rw[List.foldl_cons,Ai6 l]
  rw[Nat.testBit_or,Nat.one_shiftLeft,Nat.testBit_two_pow,List.contains_cons,Bool.or_assoc]
  congr 2
  rw[Bool.eq_iff_iff,decide_eq_true_eq,beq_iff_eq]
  exact⟨fun e=>e.symm,fun e=>e.symm⟩
theorem EH(l:List Nat)(i:Nat):(mOf l).testBit i=l.contains i:=by
 unfold mOf
 rw[Ai6]
 simp
theorem RH{a b:Nat}(h:NC a b=true)(i:Nat)(hi:a.testBit i=true):b.testBit i=true:=by
 have e:=Zw h
 rw[<-e,Nat.testBit_and,Zo]at hi
 exact hi.2
theorem Asq{a b:Nat}(h:∀i,a.testBit i=true->b.testBit i=true):NC a b=true:=by
 have e:a&&&b=a:=by
  refine Nat.eq_of_testBit_eq (fun i=>?_)
  rw[Nat.testBit_and]
  cases ha:a.testBit i with
  |true=>rw[h i ha];rfl
  |false=>rfl
 unfold NC
 rw[e]
 exact Nat.beq_refl a
def Adk(o:Oper):Bool:=
 match o.op with
 | .store _ _ _=>true
 |_=>false
def Ai7(o:Oper):Bool:=
 match o.op with
 | .load _ _=>true
 |_=>false
def IZ(o:Oper):List Nat:=(o.after.toList.filter (Region.binds .any)).map (·.on)
def depsOf(ops:Array Oper)(j:Nat):List Nat:=
 match ops[j]? with
 |some o=>IZ o
 |none=>[]
theorem FT{o:Oper}{i:Nat}:i∈IZ o↔∃e∈o.after,Region.binds .any e=true/\e.on=i:=by
 unfold IZ
 simp[Zad,Zae,and_assoc]
def Dn(ops:Array Oper)(listed:Array Bool):Prop:=∀j,listed.getD j false=true->∀i∈depsOf ops j,listed.getD i false=true
theorem Dn.next{ops:Array Oper}{listed:Array Bool}(h:Dn ops listed){i:Nat}(hi:i∈Region.ready .any ops listed):Dn ops (listed.setIfInBounds i true):=by
 intro j hj d hd
 by_cases e:i=j
 ·subst e
  obtain⟨_,o,ho,hall⟩:=mem_ready.1 hi
  unfold depsOf at hd
  rw[ho]at hd
  obtain⟨x,hx,hb,rfl⟩:=FT.1 hd
  exact getD_set_true (hall x hx hb)
 ·rw[getD_set_ne false e]at hj
  exact getD_set_true (h j hj d hd)
theorem Adl{listed:Array Bool}{i:Nat}(h:listed.getD i false=true):listed.getD i true=true:=by
 rcases Nat.lt_or_ge i listed.size with h' |h'
 ·simpa [h']using h
 ·simp[Zz h']at h
abbrev Pend:=Nat×Nat×Nat×Bool×Bool×Bool
def Ul(ops:Array Oper)(i:Nat)(o:Oper):Nat:=mOf ((List.range ops.size).filter fun j=>!(j==i||match ops[j]? with
 |some oj=>oj.after.any (fun e=>Region.binds .any e&&e.on==i)||o.apart ops oj
 |none=>true))
def Ai8(o:Oper):Bool:=
 match o.op with
 | .store _ _ _=>false
 | .box _ _=>false
 | .call c=>(match c.callee with
  | .builtin _=>true
  |_=>false)
 |_=>true
def FU(ops:Array Oper)(i:Nat):Pend:=
 match ops[i]? with
 |some o=>(i,mOf (IZ o),Ul ops i o,Ai8 o,Adk o,Ai7 o)
 |none=>(i,0,0,false,true,false)
def JS(ops:Array Oper):List Pend:=(List.range ops.size).map (FU ops)
def ND(ps:List Pend):Nat->Nat->Nat
 |0,M=>M
 |n+1,M=>
  let M':=ps.foldl (fun a e=>if M.testBit e.1 then a|||e.2.1 else a) M
  if Nat.beq M' M then M else ND ps n M'
def WV(ps:List Pend):Nat:=mOf ((ps.filter (fun e=>e.2.2.2.2.2)).map (·.1))
def NE(ops:Array Oper):Bool:=(JS ops).all fun e=>!e.2.2.2.2.1||NC (WV (JS ops)) (ND (JS ops) 40 e.2.1)
theorem NF{ops:Array Oper}{i:Nat}(h:i<ops.size):FU ops i∈JS ops:=Zad.2 ⟨i,Zap.2 h,rfl⟩
theorem DC(ops:Array Oper)(i:Nat):(FU ops i).1=i:=by
 unfold FU
 split<;>rfl
theorem JU(ops:Array Oper)(i:Nat):(FU ops i).2.1=mOf (depsOf ops i):=by
 unfold FU depsOf
 split<;>rfl
def NG(listed:Array Bool)(M:Nat):Prop:=∀i,M.testBit i=true->listed.getD i false=true
theorem NG.fold{ops:Array Oper}{listed:Array Bool}(hd:Dn ops listed){M0:Nat}(h0:NG listed M0):∀(ps:List Pend),(∀e∈ps,∃i,e=FU ops i)->∀a,NG listed a->NG listed (ps.foldl (fun a e=>if M0.testBit e.1 then a|||e.2.1 else a) a)
 |[],_,_,h=>h
 | e::ps,hp,a,h=>by
  rw[List.foldl_cons]
  refine NG.fold hd h0 ps (fun x hx=>hp x (Zu _ hx)) _ ?_
  split
  ·rename_i ht
   obtain⟨i,rfl⟩:=hp e Zs
   intro j hj
   rw[Nat.testBit_or,Zag]at hj
   rcases hj with hj |hj
   ·exact h j hj
   ·rw[JU,EH]at hj
    rw[DC]at ht
    exact hd i (h0 i ht) j (by simpa using hj)
  ·exact h
theorem NG.close{ops:Array Oper}{listed:Array Bool}(hd:Dn ops listed):∀(n M:Nat),NG listed M->NG listed (ND (JS ops) n M)
 |0,_,h=>h
 | n+1,M,h=>by
  unfold ND
  dsimp only
  split
  ·exact h
  ·exact NG.close hd n _ (NG.fold hd h _ (fun e he=>by
    obtain⟨i,_,rfl⟩:=Zad.1 he
    exact⟨i,rfl⟩) M h)
def AB4(ops:Array Oper)(j:Nat):Bool:=(FU ops j).2.2.2.2.2
def Qc(ops:Array Oper)(listed:Array Bool):Prop:=∀i,i<ops.size->AB4 ops i=true->listed.getD i true=true
theorem Asr{ops:Array Oper}{j:Nat}{o:Oper}(ho:ops[j]? =some o):(FU ops j).2.2.2.2.1=Adk o:=by
 unfold FU
 rw[ho]
theorem Ass{ops:Array Oper}{j:Nat}{o:Oper}(ho:ops[j]? =some o):AB4 ops j=Ai7 o:=by
 unfold AB4 FU
 rw[ho]
theorem Dn.full{ops:Array Oper}{listed:Array Bool}(h:Dn ops listed)(ht:NE ops=true){j:Nat}{o:Oper}(hj:j∈Region.ready .any ops listed)(ho:ops[j]? =some o)(hs:Adk o=true):Qc ops listed:=by
 obtain⟨_,o',ho',hall⟩:=mem_ready.1 hj
 rw[ho]at ho'
 cases ho'
 have hlt:j<ops.size:=(Zai.1 ho).1
 have h1:=Zx.1 ht _ (NF hlt)
 rw[Asr ho,hs,Bool.not_true,Bool.false_or]at h1
 intro i hi hld
 refine Adl (NG.close h 40 (FU ops j).2.1 (fun d hd=>?_) i (RH h1 i ?_))
 ·rw[JU,EH]at hd
  unfold depsOf at hd
  rw[ho]at hd
  obtain⟨x,hx,hb,rfl⟩:=FT.1 (by simpa using hd)
  exact hall x hx hb
 ·unfold WV
  rw[EH,List.contains_iff_mem]
  exact Zad.2 ⟨FU ops i,Zae.2 ⟨NF hi,hld⟩,DC ops i⟩
abbrev Stp:=Nat×Bool×Bool
def Qd(ps0:List Pend):Nat->Nat->List Pend->Option (List Stp)
 |0,_,ps=>(match ps with
  |[]=>some []
  |_::_=>none)
 | f+1,L,ps=>
  match ps.filter (fun e=>NC e.2.1 L)with
  |[]=>some []
  | e::r=>
   match (match (e::r).find? (fun x=>x.2.2.2.1&&NC x.2.2.1 L)with
    |some x=>x
    |none=>e)with
   |(j,_,c,_,_)=>
    match Qd ps0 f (L|||(1<<<j)) (ps.filter (fun x=>!Nat.beq x.1 j))with
    |some l=>some ((j,NC c L,r.isEmpty)::l)
    |none=>none
def sch(ops:Array Oper):Option (List Stp):=Qd (JS ops) ops.size 0 (JS ops)
def Run(ops:Array Oper):List Stp->Array Bool->Prop
 |[],listed=>Region.ready .any ops listed=[]
 |s::js,listed=>s.1∈Region.ready .any ops listed/\(s.2.1=true->Region.free .any ops listed s.1=true)/\(s.2.2=true->∀k∈Region.ready .any ops listed,k=s.1)/\Run ops js (listed.setIfInBounds s.1 true)
structure Um(ops:Array Oper)(listed:Array Bool)(L:Nat)(ps:List Pend):Prop where
 size:listed.size=ops.size
 bit:∀i,listed.getD i false=L.testBit i
 mem:∀e,e∈ps↔∃i,i<ops.size/\L.testBit i=false/\e=FU ops i
theorem RI{listed:Array Bool}{i:Nat}(h:i<listed.size):listed.getD i true=listed.getD i false:=by simp[h]
theorem Um.ready{ops:Array Oper}{listed:Array Bool}{L:Nat}{ps:List Pend}(h:Um ops listed L ps)(i:Nat):i∈Region.ready .any ops listed↔FU ops i∈ps.filter (fun e=>NC e.2.1 L):=by
 rw[Zae,h.mem,mem_ready]
 constructor
 ·rintro⟨h1,o,ho,hall⟩
  have hlt:i<ops.size:=(Zai.1 ho).1
  refine⟨⟨i,hlt,?_,rfl⟩,Asq (fun d hd=>?_)⟩
  ·rw[<-h.bit,<-RI (by rw[h.size];exact hlt)]
   exact h1
  ·rw[JU,EH]at hd
   unfold depsOf at hd
   rw[ho]at hd
   obtain⟨x,hx,hb,rfl⟩:=FT.1 (by simpa using hd)
   rw[<-h.bit]
   exact hall x hx hb
 ·rintro⟨⟨i',hlt,hb,he⟩,hs⟩
  have e:i=i':=by
   have:=congrArg Prod.fst he
   rwa [DC,DC]at this
  subst e
  refine⟨by rw[RI (by rw[h.size];exact hlt),h.bit];exact hb,ops[i],Zq hlt,fun x hx hbx=>?_⟩
  rw[h.bit]
  refine RH hs _ ?_
  rw[JU,EH]
  unfold depsOf
  rw[Zq hlt]
  simpa using FT.2 ⟨x,hx,hbx,rfl⟩
theorem Um.free{ops:Array Oper}{listed:Array Bool}{L:Nat}{ps:List Pend}(h:Um ops listed L ps){i:Nat}(hi:i<ops.size)(hc:NC (FU ops i).2.2.1 L=true):Region.free .any ops listed i=true:=by
 unfold Region.free
 rw[Zq hi]
 refine Zx.2 (fun j hj=>?_)
 have hj:=Zap.1 hj
 have hp:(FU ops i).2.2.1=Ul ops i ops[i]:=by
  unfold FU
  rw[Zq hi]
 rw[hp]at hc
 rw[Bool.or_assoc,Bool.or_left_comm,Zag]
 cases hcj:(j==i||match ops[j]? with
     |some oj=>oj.after.any (fun e=>Region.binds .any e&&e.on==i)||ops[i].apart ops oj
     |none=>true)with
 |true=>exact .inr rfl
 |false=>
  refine .inl ?_
  rw[RI (by rw[h.size];exact hj),h.bit]
  refine RH hc j ?_
  unfold Ul
  rw[EH,List.contains_iff_mem]
  exact Zae.2 ⟨Zap.2 hj,by rw[hcj];rfl⟩
theorem Um.next{ops:Array Oper}{listed:Array Bool}{L:Nat}{ps:List Pend}(h:Um ops listed L ps){j:Nat}(hj:j<ops.size):Um ops (listed.setIfInBounds j true) (L|||(1<<<j)) (ps.filter (fun x=>!Nat.beq x.1 j)):=by
 have hb:∀i,(L|||(1<<<j)).testBit i=(L.testBit i||decide (j=i)):=fun i=>by rw[Nat.testBit_or,Nat.one_shiftLeft,Nat.testBit_two_pow]
 refine⟨by rw[Array.size_setIfInBounds];exact h.size,fun i=>?_,fun e=>?_⟩
 ·rw[hb]
  by_cases e:j=i
  ·subst e
   have:j<listed.size:=by rw[h.size];exact hj
   simp[this]
  ·rw[getD_set_ne false e,h.bit,decide_eq_false e,Bool.or_false]
 ·rw[Zae,h.mem]
  constructor
  ·rintro⟨⟨i,hi,hl,rfl⟩,hn⟩
   refine⟨i,hi,?_,rfl⟩
   rw[hb,hl,Bool.false_or,decide_eq_false]
   rintro rfl
   rw[DC,Nat.beq_refl]at hn
   cases hn
  ·rintro⟨i,hi,hl,rfl⟩
   rw[hb,Bool.or_eq_false_iff]at hl
   refine⟨⟨i,hi,hl.1,rfl⟩,?_⟩
   have hne:i≠j:=fun e=>by rw[e,decide_eq_true rfl]at hl;cases hl.2
   rw[DC]
   cases hq:Nat.beq i j with
   |false=>rfl
   |true=>exact absurd (Zw hq) hne
theorem Un{ops:Array Oper}{ps0:List Pend}:∀(f:Nat) (listed:Array Bool) (L:Nat) (ps:List Pend) (l:List Stp),Um ops listed L ps->Qd ps0 f L ps=some l->Run ops l listed
 | 0,listed,L,ps,l,h,e=>by
  unfold Qd at e
  split at e
  ·cases e
   refine Zao.2 (fun i hi=>?_)
   rw[h.ready i]at hi
   cases hi
  ·cases e
 | f +1,listed,L,ps,l,h,e=>by
  unfold Qd at e
  split at e
  ·rename_i hr
   cases e
   refine Zao.2 (fun i hi=>?_)
   rw[h.ready i,hr]at hi
   cases hi
  ·rename_i p r hr
   have hx:∀x:Pend,(match (p::r).find? (fun x=>x.2.2.2.1&&NC x.2.2.1 L)with
    |some x=>x
    |none=>p)=x->x∈p::r:=by
    intro x hx
    split at hx
    ·rename_i y hy
     rw[<-hx]
     exact List.mem_of_find?_eq_some hy
    ·rw[<-hx]
     exact Zs
   split at e
   rename_i j dj c q st hsel
   have hin:=hx _ hsel
   rw[<-hr,Zae,h.mem]at hin
   obtain⟨⟨i,hi,hl,he⟩,hs⟩:=hin
   have e1:j=i:=by
    have:=congrArg Prod.fst he
    rwa [DC]at this
   subst e1
   split at e
   ·rename_i l' hl'
    cases e
    have hready:j∈Region.ready .any ops listed:=by
     rw[h.ready j,Zae,h.mem]
     exact⟨⟨j,hi,hl,rfl⟩,by rw[<-he];exact hs⟩
    refine⟨hready,fun hc=>h.free hi (by rw[<-he];exact hc),fun ha k hk=>?_,Un f _ _ _ l' (h.next hi) hl'⟩
    ·rw[h.ready k,hr]at hk
     have hj2:=(h.ready j).1 hready
     rw[hr]at hj2
     have hr0:r=[]:=by simpa using ha
     subst hr0
     rw[List.mem_singleton]at hk hj2
     have:=congrArg Prod.fst (hk.trans hj2.symm)
     rwa [DC,DC]at this
   ·cases e
theorem AB5{ops:Array Oper}{l:List Stp}(h:sch ops=some l):Run ops l (Array.replicate ops.size false):=by
 have hz:∀i,(Array.replicate ops.size false).getD i false=false:=fun i=>by
  by_cases hi:i<ops.size
  ·simp[hi]
  ·simp[Zz (show(Array.replicate ops.size false).size<=i by simp;omega)]
 refine Un ops.size _ 0 _ l ⟨by simp,fun i=>by rw[hz];simp,fun e=>⟨fun he=>?_,fun⟨i,hi,_,he⟩=>?_⟩⟩ h
 ·obtain⟨i,hi,rfl⟩:=Zad.1 he
  exact⟨i,Zap.1 hi,by simp,rfl⟩
 ·rw[he]
  exact NF hi
def lco(cl dd:Nat->Bool)(two:Bool)(o:Oper)(k:Nat):Bool:=cl k||(Ai7 o&&(two&&dd k))
def gco(cl dd:Nat->Bool)(two:Bool)(o:Oper)(k:Nat):Bool:=cl k||(!Adk o&&(two&&dd k))
def SS(ops:Array Oper)(cl dd:Nat->Bool)(two:Bool)(listed:Array Bool)(m0 m:Xm):Prop:=∀k:Nat,(cl k=true∨(two&&dd k)=true/\¬Qc ops listed)->m[k]? =m0[k]?
theorem Qc.mono{ops:Array Oper}{listed:Array Bool}{i:Nat}(h:Qc ops listed):Qc ops (listed.setIfInBounds i true):=by
 intro j hj hl
 have h1:=h j hj hl
 by_cases e:i=j
 ·subst e
  by_cases hs:i<listed.size
  ·simp[hs]
  ·simp
 ·rw[getD_set_ne true e]
  exact h1
theorem SS.next{ops:Array Oper}{cl dd:Nat->Bool}{two:Bool}{listed:Array Bool}{m0 m:Xm}(h:SS ops cl dd two listed m0 m)(i:Nat):SS ops cl dd two (listed.setIfInBounds i true) m0 m:=fun k hk=>h k (hk.imp id (fun x=>⟨x.1,fun hf=>x.2 hf.mono⟩))
section
variable (P:Program) (tbl:List (Ct P)) (ops:Array Oper) (ids:Nat->Nat) (cl dd:Nat->Bool) (two:Bool) (m0:Xm) (K:List Value->Xm->Prop)
def TT(i:Nat)(o:Oper)(vt:List Value)(m:Xm):Option Value:=
 match Region.wanted o (Bp ops vt)with
 |true=>vq P (lco cl dd two o) (ids i) o (VE vt) m
 |false=>some undef
def Lf(i:Nat)(vt:List Value)(m:Xm)(K:List Value->Xm->Prop):Prop:=
 match ops[i]? with
 |none=>False
 |some o=>
  match TT P ops ids cl dd two i o vt m with
  |some v=>K (BO vt o.dst v) m
  |none=>Hk ((vw (ids i) o (VE vt)).all (fun k=>!gco cl dd two o k)) (va P tbl (ids i) o (VE vt) m (fun v m'=>K (BO vt o.dst v) m'))
def RL:Nat->Array Bool->List Value->Xm->Prop
 |0,listed,vt,m=>Region.ready .any ops listed=[]/\K vt m
 |f+1,listed,vt,m=>(Region.ready .any ops listed=[]->K vt m)/\
  ∀i∈Region.ready .any ops listed,Lf P tbl ops ids cl dd two i vt m (fun vt' m'=>SS ops cl dd two (listed.setIfInBounds i true) m0 m'/\RL f (listed.setIfInBounds i true) vt' m')
def Ai9(ops:Array Oper)(o:Oper)(vt:List Value)(F:List Value->Prop):Prop:=
 match o.guard with
 |none=>F vt
 | some (g,_)=>
  match (ops[g]?).bind (·.dst)with
  |none=>F vt
  |some d=>
   match vt.getD d undef with
   | .bool x=>AE x (F (vt.set d (.bool true))) (F (vt.set d (.bool false)))
   |_=>F vt
def FV:List Stp->List Value->Xm->Prop
 |[],vt,m=>K vt m
 | (j,fr,al)::js,vt,m=>
  match ops[j]? with
  |none=>False
  |some o=>Ai9 ops o vt fun vt=>
   match TT P ops ids cl dd two j o vt m with
   |some v=>Hk fr (FV js (BO vt o.dst v) m)
   |none=>Hk al (Hk ((vw (ids j) o (VE vt)).all (fun k=>!gco cl dd two o k)) (va P tbl (ids j) o (VE vt) m (fun v m'=>FV js (BO vt o.dst v) m')))
end
section
variable {P:Program} {tbl:List (Ct P)} {ops:Array Oper} {ids:Nat->Nat} {cl dd:Nat->Bool} {two:Bool} {m0:Xm} {K:List Value->Xm->Prop}
theorem Qe(ht:two=true->NE ops=true){listed:Array Bool}(hD:Dn ops listed){i:Nat}(hi:i∈Region.ready .any ops listed){vt:List Value}{m:Xm}{K:List Value->Xm->Prop}(hS:SS ops cl dd two listed m0 m)(h:Lf P tbl ops ids cl dd two i vt m K):
    Lf P tbl ops ids cl dd two i vt m (fun vt' m'=>SS ops cl dd two (listed.setIfInBounds i true) m0 m'/\K vt' m'):=by
 unfold Lf at h ⊢
 split at h
 ·exact h
 ·rename_i o ho
  split at h
  ·exact⟨hS.next i,h⟩
  ·rw [Bf]at h ⊢
   refine⟨h.1,MP ?_ (Asp h.2)⟩
   rintro v m' ⟨h1,h2⟩
   refine⟨fun k hk=>?_,h1⟩
   rw[h2 k ?_]
   ·exact hS.next i k hk
   ·intro hmem
    have hg:=Zx.1 h.1 k hmem
    unfold gco at hg
    rcases hk with hk |⟨hk,hf⟩
    ·rw[hk]at hg
     cases hg
    ·cases hs:Adk o with
     |false=>
      rw[hs,hk]at hg
      simp at hg
     | true=>
      have h2:two=true:=by
       rw[Zo]at hk
       exact hk.1
      exact hf (hD.full (ht h2) hi ho hs).mono
theorem WX(ht:two=true->NE ops=true){i:Nat}{oi:Oper}{v:Value}(hi:ops[i]? =some oi)(hsel:∀(j:Nat) (o:Oper) cs b,ops[j]? =some o->o.op≠.select cs b):
    ∀ (fuel:Nat) (listed:Array Bool) (vt:List Value) (m:Xm),Dn ops listed->
      (∀j oj,ops[j]? =some oj->j≠i->listed.getD j true=false->(∀e∈oj.after,Region.binds .any e=true->e.on≠i)->oi.apart ops oj=true)->
      i∈Region.ready .any ops listed->TT P ops ids cl dd two i oi vt m=some v->SS ops cl dd two listed m0 m->
      RL P tbl ops ids cl dd two m0 K fuel (listed.setIfInBounds i true) (BO vt oi.dst v) m->RL P tbl ops ids cl dd two m0 K (fuel+1) listed vt m:=by
 have self:∀(vt:List Value) (m:Xm) (K:List Value->Xm->Prop),TT P ops ids cl dd two i oi vt m=some v->K (BO vt oi.dst v) m->Lf P tbl ops ids cl dd two i vt m K:=fun vt m K hq h=>by
  unfold Lf
  rw[hi]
  dsimp only
  rw[hq]
  exact h
 intro fuel
 induction fuel with
 | zero=>
  intro listed vt m hD _ hr hq hS H
  refine⟨fun h=>(by rw[h]at hr;cases hr),fun j hj=>?_⟩
  by_cases hji:j=i
  ·subst hji;exact self _ _ _ hq ⟨hS.next _,H⟩
  ·have:=ready_mono hj hji
   rw[H.1]at this
   cases this
 | succ fuel ih=>
  intro listed vt m hD hfree hr hq hS H
  refine⟨fun h=>(by rw[h]at hr;cases hr),fun j hj=>?_⟩
  by_cases hji:j=i
  ·subst hji;exact self _ _ _ hq ⟨hS.next _,H⟩
  ·have h1:=H.2 j (ready_mono hj hji)
   obtain⟨hjun,oj,hoj,hall⟩:=mem_ready.1 hj
   have hiun:=(mem_ready.1 hr).1
   have hnot:∀e∈oj.after,Region.binds .any e=true->e.on≠i:=fun e he hb heq=>by
    have h1:=hall e he hb
    have h0:=(mem_ready.1 hr).1
    rw[heq]at h1
    rcases Nat.lt_or_ge i listed.size with h' |h'
    ·simp[h']at h0 h1;rw[h0]at h1;cases h1
    ·simp[Zz h']at h1
   obtain⟨ap1,ap2,ap3⟩:=Oper.apart_spec (hfree j oj hoj hji hjun hnot)
   have hfree':∀k ok,ops[k]? =some ok->k≠i->(listed.setIfInBounds j true).getD k true=false->
       (∀e∈ok.after,Region.binds .any e=true->e.on≠i)->oi.apart ops ok=true:=fun k ok hk hki hun hno=>by
    refine hfree k ok hk hki ?_ hno
    by_cases hjk:j=k
    ·subst hjk;exact hjun
    ·rw[getD_set_ne true hjk]at hun;exact hun
   have again:∀(u:Value) (m':Xm),SS ops cl dd two (listed.setIfInBounds j true) m0 m'->RL P tbl ops ids cl dd two m0 K fuel ((listed.setIfInBounds i true).setIfInBounds j true) (BO (BO vt oi.dst v) oj.dst u) m'->
       RL P tbl ops ids cl dd two m0 K (fuel+1) (listed.setIfInBounds j true) (BO vt oj.dst u) m':=by
    intro u m' hS' h3
    refine ih (listed.setIfInBounds j true) (BO vt oj.dst u) m' (hD.next hj) hfree' (ready_mono hr (Ne.symm hji)) ?_ hS' ?_
    ·rw[<-hq]
     unfold TT
     rw[Mh ap3,RG (hsel i oi · · hi) (fun k hk=>?_) (JR ap3)]
     have un:∀l:Array Bool,l.getD i true=false->Ai7 oi=true->¬Qc ops l:=fun l hl hld hf=>by
      have:=hf i (Zai.1 hi).1 (by rw[Ass hi];exact hld)
      rw[hl]at this
      cases this
     unfold lco at hk
     rw[Zag,Zo]at hk
     have e1:m'[k]? =m0[k]? :=hS' k (hk.imp id (fun x=>⟨x.2,un _ (by rw[getD_set_ne true hji];exact hiun) x.1⟩))
     have e2:m[k]? =m0[k]? :=hS k (hk.imp id (fun x=>⟨x.2,un _ hiun x.1⟩))
     rw[e1,e2]
    ·rw[Array.setIfInBounds_comm _ _ hji,Adi (fun d hd he=>ap2 d he hd)]
     exact h3
   have h1:Lf P tbl ops ids cl dd two j vt m (fun vt' m'=>∃u,vt'=BO vt oj.dst u/\RL P tbl ops ids cl dd two m0 K fuel ((listed.setIfInBounds i true).setIfInBounds j true) (BO (BO vt oi.dst v) oj.dst u) m'):=by
    unfold Lf at h1 ⊢
    rw[hoj]at h1 ⊢
    dsimp only at h1 ⊢
    have eq:TT P ops ids cl dd two j oj (BO vt oi.dst v) m=TT P ops ids cl dd two j oj vt m:=by
     unfold TT
     rw[Mh ap1,RG (hsel j oj · · hoj) (fun _ _=>rfl) (JR ap1)]
    rw[eq]at h1
    cases hqj:TT P ops ids cl dd two j oj vt m with
    |some u=>
     rw[hqj]at h1
     exact⟨u,rfl,h1.2⟩
    |none=>
     rw[hqj]at h1
     dsimp only at h1 ⊢
     rw[Bf]at h1 ⊢
     rw[Aso (JR ap1),Asn (hsel j oj · · hoj) (JR ap1)]at h1
     refine⟨h1.1,MP ?_ h1.2⟩
     rintro u m' ⟨_,h3⟩
     exact⟨u,rfl,h3⟩
   have h2:=Qe ht hD hj hS h1
   unfold Lf at h2 ⊢
   rw[hoj]at h2 ⊢
   dsimp only at h2 ⊢
   split at h2
   ·obtain⟨hS',u,he,h3⟩:=h2
    rw[he]
    exact⟨hS',again u m hS' h3⟩
   ·rw[Bf]at h2 ⊢
    refine⟨h2.1,MP ?_ h2.2⟩
    rintro w m' ⟨hS',u,he,h3⟩
    rw[he]
    exact⟨hS',again u m' hS' h3⟩
theorem JV{o:Oper}{vt:List Value}{F:List Value->Prop}:Ai9 ops o vt F↔F vt:=by
 unfold Ai9
 split
 ·exact Iff.rfl
 ·split
  ·exact Iff.rfl
  ·rename_i d _
   split
   ·rename_i x hx
    have e:vt.set d (.bool x)=vt:=by
     have hl:d<vt.length:=by
      rcases Nat.lt_or_ge d vt.length with h |h
      ·exact h
      ·rw[Zn,Zah h]at hx
       cases hx
     rw[Zn,Zaa hl,Option.getD_some]at hx
     rw[<-hx]
     exact List.set_getElem_self hl
    cases x
    ·show F (vt.set d (.bool false))↔_
     rw[e]
    ·show F (vt.set d (.bool true))↔_
     rw[e]
   ·exact Iff.rfl
theorem Lg(ht:two=true->NE ops=true)(hsel:Region.noSelect ops=true):∀(js:List Stp) (listed:Array Bool) (vt:List Value) (m:Xm),Run ops js listed->Dn ops listed->SS ops cl dd two listed m0 m->FV P tbl ops ids cl dd two K js vt m->RL P tbl ops ids cl dd two m0 K js.length listed vt m
 |[],listed,vt,m,hr,_,_,h=>⟨hr,h⟩
 | (j,fr,al)::js,listed,vt,m,hr,hD,hS,h=>by
  obtain⟨hj,hfr,hal,hrun⟩:=hr
  have hnext:=hD.next hj
  unfold FV at h
  split at h
  ·exact h.elim
  ·rename_i o ho
   rw[JV]at h
   split at h
   ·rename_i v hv
    rw[Bf]at h
    exact WX ht ho (Region.noSelect_spec hsel) js.length listed vt m hD (Region.free_spec ho (hfr h.1)) hj hv hS (Lg ht hsel js _ _ _ hrun hnext (hS.next _) h.2)
   ·rename_i hv
    rw[Bf]at h
    refine⟨fun e=>(by rw[e]at hj;cases hj),fun k hk=>?_⟩
    have hk2:=hal h.1 k hk
    dsimp only at hk2
    subst hk2
    have h2:Lf P tbl ops ids cl dd two k vt m (fun vt' m'=>FV P tbl ops ids cl dd two K js vt' m'):=by
     unfold Lf
     rw[ho]
     dsimp only
     rw[hv]
     exact h.2
    have h2:=Qe ht hD hj hS h2
    unfold Lf at h2 ⊢
    rw[ho]at h2 ⊢
    dsimp only at h2 ⊢
    rw[hv]at h2 ⊢
    dsimp only at h2 ⊢
    rw[Bf]at h2 ⊢
    exact⟨h2.1,MP (fun v m' h3=>⟨h3.1,Lg ht hsel js _ _ _ hrun hnext h3.1 h3.2⟩) h2.2⟩
end
section
variable {P:Program} {tbl:List (Ct P)} {bs:List Nat} {w0:World} {rs:Xm} {Q:Exit->Act->World->Prop} {ops:Array Oper} {base:Nat} {K:List Value->Xm->Prop} {ds:List Deferred} {ln:Nat} {bl0:Bl} {cl dd:Nat->Bool} {two:Bool} {m0:Xm}
theorem Jb(hK:∀bl vt m a w,K vt m->FR bl vt a.tmps->RW bs w0 bl m w->Le bl0 bl->bl.length=ln->m.length=ln->a.defers=ds->Q .normal a w):
    ∀ (fuel:Nat) (listed:Array Bool) (bl:Bl) (vt:List Value) (m:Xm) (a:Act) (w:World),RL P tbl ops (EV base ops) cl dd two m0 K fuel listed vt m->FR bl vt a.tmps->RW bs w0 bl m w->Nw rs bl m->
      (∀i,listed.getD i true=false->NA P rs ops (EV base ops) bl i)->Le bl0 bl->bl.length=ln->m.length=ln->a.defers=ds->wpAny P .any ops Q fuel listed a w
 |0,_,bl,vt,m,a,w,h,F,R,_,_,hle,hl,hml,hd=>⟨h.1,hK bl vt m a w h.2 F R hle hl hml hd⟩
 | fuel+1,listed,bl,vt,m,a,w,h,F,R,N,hf,hle,hl,hml,hd=>by
  refine⟨fun e=>hK bl vt m a w (h.1 e) F R hle hl hml hd,fun i hi=>?_⟩
  have h1:=h.2 i hi
  obtain⟨hun,o,ho,_⟩:=mem_ready.1 hi
  have hfi:=hf i hun o ho
  have later:∀j,(listed.setIfInBounds i true).getD j true=false->j≠i/\listed.getD j true=false:=by
   intro j hj
   by_cases e:i=j
   ·subst e
    exfalso
    by_cases hs:i<listed.size
    ·simp[hs]at hj
    ·simp[Zz (show listed.size<=i by omega)]at hun
   ·rw[getD_set_ne true e]at hj
    exact⟨fun x=>e x.symm,hj⟩
  have next:∀a' w',Nz bs w0 rs bl m vt a (EV base ops i) o (fun v m'=>SS ops cl dd two (listed.setIfInBounds i true) m0 m'/\RL P tbl ops (EV base ops) cl dd two m0 K fuel (listed.setIfInBounds i true) (BO vt o.dst v) m') a' w'->wpAny P .any ops Q fuel (listed.setIfInBounds i true) a' w':=by
   rintro a' w' ⟨bl',v,m',hbl,hmm,hle',h2,h3,hdef,F',R',N',_,hK'⟩
   exact Jb hK fuel _ bl' _ m' a' w' hK' F' R' N' (fun j hj=>(hf j (later j hj).2).next ho (fun e=>(later j hj).1 e.symm) h2 h3) (hle.trans hle') (hbl.trans hl) (hmm.trans hml) (hdef.trans hd)
  unfold Lf at h1
  unfold wpOp
  rw[ho]at h1 ⊢
  dsimp only at h1 ⊢
  rw[Qb F]
  cases hw:Region.wanted o (Bp ops vt)with
  | true=>
   rw[if_pos rfl]
   refine .inl (Oper.wp_mono next ?_)
   split at h1
   ·rename_i v hv
    unfold TT at hv
    rw[hw]at hv
    exact Ai1 hv F R N hfi h1
   ·rw[Bf]at h1
    exact Azq h1.2 F R N hfi
  |false=>
   rw[if_neg (by decide)]
   have hv:TT P ops (EV base ops) cl dd two i o vt m=some undef:=by unfold TT;rw[hw]
   rw[hv]at h1
   exact Jb hK fuel _ bl _ m _ w h1.2 (F.put (.same rfl) _) R N (fun j hj=>hf j (later j hj).2) hle hl hml ((AL _ _ _).trans hd)
end
def Az(P:Program)(ops:Array Oper):List (List Value):=(ops.toList.filter Cu).map fun o=>match o.op with
 | .alloc t=>(match qrun P (zeroValue t)with
  |some z=>z.cells.toList
  |none=>[])
 |_=>[]
def Uo(P:Program)(ops:Array Oper):Bool:=ops.toList.all fun o=>match o.op with
 | .alloc t=>(qrun P (zeroValue t)).isSome
 |_=>true
theorem Qf{α:Type}(p:α->Bool):∀(l:List α) (i:Nat) (x:α),l[i]? =some x->p x=true->(l.filter p)[((l.take i).filter p).length]? =some x
 |[],i,x,h,_=>by simp at h
 |y::ys,0,x,h,hp=>by
  simp at h
  subst h
  simp[hp]
 |y::ys,i+1,x,h,hp=>by
  have ih:=Qf p ys i x (by simpa using h) hp
  rw[List.take_succ_cons,List.filter_cons,List.filter_cons]
  split
  ·simpa using ih
  ·exact ih
theorem RN{bl:Bl}{n k B:Nat}(h:(bl++Zaf n none)[k]? =some (some B)):bl[k]? =some (some B):=by
 by_cases hk:k<bl.length
 ·rwa [Zv hk]at h
 ·rw[Zac (by omega)]at h
  have:=(Zr.1 h).2
  rw[List.getElem_replicate]at this
  cases this
theorem RW.wide{bs:List Nat}{w0:World}{bl:Bl}{m:Xm}{w:World}(h:RW bs w0 bl m w)(n:Nat)(ns:Xm):RW bs w0 (bl++Zaf n none) (m++ns) w:=by
 refine⟨fun k B hk=>?_,fun i j B hi hj=>h.inj i j B (RN hi) (RN hj),fun k B hk=>(h.own k B (RN hk)).imp id (Or.imp id fun e=>by rw[Zv (Zr.1 e).1];exact e),h.os,h.tape,h.output,h.size,h.block,h.gw⟩
 obtain⟨l,h1,A⟩:=h.arr k B (RN hk)
 exact⟨l,by rw[Zv (Zr.1 h1).1];exact h1,A⟩
theorem Le.wide(bl:Bl)(n:Nat):Le bl (bl++Zaf n none):=fun k B hk=>by
 rw[Zv (Zr.1 hk).1]
 exact hk
theorem Hl{P:Program}{ops:Array Oper}{bl:Bl}{m:Xm}(hl:bl.length=m.length)(hr:Uo P ops=true)(i:Nat):
    NA P (m++Az P ops) ops (EV m.length ops) (bl++Zaf (Az P ops).length none) i:=by
 intro o ho hn
 have hfil:=Qf Cu ops.toList i o (by simpa using ho) hn
 have hlen:(Az P ops).length=(ops.toList.filter Cu).length:=by unfold Az;rw[List.length_map]
 have hlt:=(Zr.1 hfil).1
 refine⟨?_,?_⟩
 ·unfold EV
  rw[Zac (by omega),<-hl,Nat.add_sub_cancel_left]
  rw[Zaa (by rw[Zal];omega),List.getElem_replicate]
 ·have e:(m++Az P ops)[EV m.length ops i]? =(Az P ops)[((ops.toList.take i).filter Cu).length]? :=by
   unfold EV
   rw[Zac (by omega),Nat.add_sub_cancel_left]
  rw[e]
  unfold Az
  rw[List.getElem?_map,hfil]
  refine⟨_,rfl,fun t ht=>?_⟩
  have h2:=Zx.1 hr o (by
   have:=Array.mem_of_getElem? ho
   simpa using this)
  dsimp only
  rw[ht]at h2 ⊢
  dsimp only at h2 ⊢
  cases hz:qrun P (zeroValue t)with
  |none=>rw[hz]at h2;cases h2
  |some z=>exact⟨z,rfl,rfl⟩
def RO(dirty:List Nat)(base:Nat)(m0:Xm)(k:Nat):Bool:=
 match m0[k]? with
 |some [.bool _]=>Nat.blt k base&&dirty.contains (k+1000)
 |_=>Nat.blt k base&& !dirty.contains k
def ddB(dirty:List Nat)(base:Nat)(m0:Xm)(k:Nat):Bool:=
 match m0[k]? with
 |some [.bool _]=>false
 |_=>Nat.blt k base&&dirty.contains k
def Cy(ops:List Oper)(vt:List Value):Nat->Operand->Option Nat
 |0,_=>none
 | n+1,.tmp d=>
  match ops.find? (fun o=>o.dst==some d)with
  |some o=>(match o.op with
   | .fieldAddr _ x _=>Cy ops vt n x
   | .indexAddr _ x _=>Cy ops vt n x
   | .nilCheck x=>Cy ops vt n x
   | .move x=>Cy ops vt n x
   |_=>none)
  |none=>(match vt.getD d undef with
   | .pointer (some a)=>some a.block
   |_=>none)
 |_,_=>none
def EO(ops:List Oper)(vt:List Value):List Nat:=ops.filterMap fun o=>match o.op with
 | .store _ x _=>Cy ops vt 6 x
 |_=>none
def Ed(P:Program)(tbl:List (Ct P))(dirty:Nat->List Nat)(id:Nat)(ops:Array Oper)(draw:Bool)(K:List Value->Xm->Prop)(vt:List Value)(m:Xm):Prop:=
 match Uo P ops,draw with
 |true,false=>EG P tbl ops (EV m.length ops) K (List.range ops.size) vt (m++Az P ops)
 |true,true=>
  match Region.noSelect ops,sch ops with
  |true,some js=>Hk (Nat.beq js.length ops.size) (FV P tbl ops (EV m.length ops) (RO (dirty id++EO ops.toList vt) m.length (m++Az P ops)) (ddB (dirty id++EO ops.toList vt) m.length (m++Az P ops)) (NE ops) K js vt (m++Az P ops))
  |_,_=>False
 |false,_=>False
section
variable {P:Program} {tbl:List (Ct P)} {bs:List Nat} {w0:World} {ds:List Deferred} {dirty:Nat->List Nat} {bl0:Bl}
structure Rl(bs:List Nat)(w0:World)(ds:List Deferred)(bl0 bl:Bl)(vt:List Value)(m:Xm)(a:Act)(w:World):Prop where
 F:FR bl vt a.tmps
 R:RW bs w0 bl m w
 le:Le bl0 bl
 len:bl.length=m.length
 defers:a.defers=ds
theorem C8(hm:P.follows .mixedOrders=true){id:Nat}{ops:Array Oper}{draw:Bool}{K:List Value->Xm->Prop}{Q:Exit->Act->World->Prop}(hK:∀bl vt m a w,K vt m->Rl bs w0 ds bl0 bl vt m a w->Q .normal a w)
    {bl:Bl} {vt:List Value} {m:Xm} {a:Act} {w:World} (h:Ed P tbl dirty id ops draw K vt m) (r:Rl bs w0 ds bl0 bl vt m a w):(Code.region id ops draw).wp P Q a w:=by
 unfold Ed at h
 cases hr:Uo P ops
 ·rw[hr]at h
  exact h.elim
 rw[hr]at h
 cases draw
 ·dsimp only at h
  refine wp_region (EW (ds:=ds) (rs:=m++Az P ops) (ln:=m.length+(Az P ops).length) (fun bl vt m a w hk F R hle h1 h2 h3=>hK bl vt m a w hk ⟨F,R,hle,h1.trans h2.symm,h3⟩) _ _ vt _ a w List.nodup_range h (r.F.mono (Le.wide bl (Az P ops).length)) (r.R.wide _ _) (fun _ _=>rfl) (fun i _=>Hl r.len hr i) (r.le.trans (Le.wide bl _)) ?_ ?_ r.defers)
  ·rw[Zaj,Zal,r.len]
  ·rw[Zaj]
 ·dsimp only at h
  split at h
  ·rename_i js hs hsch
   rw[Bf]at h
   have hn:Dn ops (Array.replicate ops.size false):=fun j hj=>by
    exfalso
    by_cases hl:j<ops.size
    ·simp[hl]at hj
    ·simp[Zz (show(Array.replicate ops.size false).size<=j by simp;omega)]at hj
   have h2:=Lg (m0:=m++Az P ops) (fun e=>e) hs _ _ _ _ (AB5 hsch) hn (fun _ _=>rfl) h.2
   rw[Zw h.1]at h2
   refine wp_region_any hm (Jb (ds:=ds) (rs:=m++Az P ops) (ln:=m.length+(Az P ops).length) (fun bl vt m a w hk F R hle h1 h2 h3=>hK bl vt m a w hk ⟨F,R,hle,h1.trans h2.symm,h3⟩) _ _ _ vt _ a _ h2 (r.F.mono (Le.wide bl (Az P ops).length)) (r.R.wide _ _).drew (fun _ _=>rfl) (fun i _=>Hl r.len hr i) (r.le.trans (Le.wide bl _)) ?_ ?_ r.defers)
   ·rw[Zaj,Zal,r.len]
   ·rw[Zaj]
  ·exact h.elim
end
abbrev VQ:=Exit->List Value->Xm->Prop
def AS:Nat->(VQ->List Value->Xm->Prop)->VQ->List Value->Xm->Prop
 |0,_,_,_,_=>False
 |n+1,G,Q,vt,m=>G (fun e vt' m'=>match e with
  | .normal=>AS n G Q vt' m'
  |e=>Q e vt' m') vt m
def vset(vt:List Value)(c:Operand)(b:Bool):List Value:=
 match c with
 | .tmp t=>vt.set t (.bool b)
 |_=>vt
theorem FR.vset{bl:Bl}{vt:List Value}{tm:Array Value}(h:FR bl vt tm){c:Operand}{b:Bool}(hc:VE vt c=.bool b):FR bl (vset vt c b) tm:=by
 cases c with
 |tmp t=>exact h.setSame hc
 |_=>exact h
def Hm(P:Program)(tbl:List (Ct P))(dirty:Nat->List Nat)(n:Nat):Code->VQ->List Value->Xm->Prop
 | .skip,Q,vt,m=>Q .normal vt m
 | .region id ops draw,Q,vt,m=>Ed P tbl dirty id ops draw (Q .normal) vt m
 | .seq x y,Q,vt,m=>Hm P tbl dirty n x (fun e vt' m'=>match e with
  | .normal=>Hm P tbl dirty n y Q vt' m'
  |e=>Q e vt' m') vt m
 | .cond c x y,Q,vt,m=>(match P6 c,VE vt c with
  |true,.bool b=>AE b (Hm P tbl dirty n x Q (vset vt c true) m) (Hm P tbl dirty n y Q (vset vt c false) m)
  |_,_=>False)
 | .block id c,Q,vt,m=>Hm P tbl dirty n c (fun e vt' m'=>match e with
  | .exit id'=>if id'=id then Q .normal vt' m' else Q (.exit id') vt' m'
  |e=>Q e vt' m') vt m
 | .loop c,Q,vt,m=>AS n (Hm P tbl dirty n c) Q vt m
 | .exit id,Q,vt,m=>Q (.exit id) vt m
 | .label _,Q,vt,m=>Q .normal vt m
 | .ret,Q,vt,m=>Q .ret vt m
 |_,_,_,_=>False
section
variable {P:Program} {tbl:List (Ct P)} {bs:List Nat} {w0:World} {ds:List Deferred} {dirty:Nat->List Nat} {n:Nat} {bl0:Bl}
def Aja(bs:List Nat)(w0:World)(ds:List Deferred)(bl0:Bl)(Q:VQ)(Q':Exit->Act->World->Prop):Prop:=∀e bl vt m a w,Q e vt m->Rl bs w0 ds bl0 bl vt m a w->Q' e a w
theorem Adm(hm:P.follows .mixedOrders=true):∀(c:Code) (Q:VQ) (Q':Exit->Act->World->Prop) (bl:Bl) (vt:List Value) (m:Xm) (a:Act) (w:World),Aja bs w0 ds bl0 Q Q'->Hm P tbl dirty n c Q vt m->Rl bs w0 ds bl0 bl vt m a w->c.wp P Q' a w:=by
 intro c
 induction c with
 |skip=>intro Q Q' bl vt m a w hQ h r;exact wp_skip (hQ _ bl vt m a w h r)
 |region id ops draw=>intro Q Q' bl vt m a w hQ h r;exact C8 hm (fun bl vt m a w hk hr=>hQ _ bl vt m a w hk hr) h r
 |seq x y ihx ihy=>
  intro Q Q' bl vt m a w hQ h r
  refine wp_seq (ihx _ _ bl vt m a w ?_ h r)
  intro e bl' vt' m' a' w' h' r'
  cases e with
  |normal=>exact ihy Q Q' bl' vt' m' a' w' hQ h' r'
  |exit id=>exact hQ _ bl' vt' m' a' w' h' r'
  |goto l=>exact hQ _ bl' vt' m' a' w' h' r'
  |ret=>exact hQ _ bl' vt' m' a' w' h' r'
  |panic ch=>exact hQ _ bl' vt' m' a' w' h' r'
  |outgrown=>exact hQ _ bl' vt' m' a' w' h' r'
 | cond c x y ihx ihy=>
  intro Q Q' bl vt m a w hQ h r
  unfold Hm at h
  split at h
  ·rename_i b hok hb
   have hv:=r.F.eval hok
   rw[hb]at hv
   have hv:a.eval c=.bool b:=hv
   refine wp_cond_split hv (fun e=>?_) (fun e=>?_)
   ·subst e;exact ihx Q Q' bl _ m a w hQ h ⟨r.F.vset hb,r.R,r.le,r.len,r.defers⟩
   ·subst e;exact ihy Q Q' bl _ m a w hQ h ⟨r.F.vset hb,r.R,r.le,r.len,r.defers⟩
  ·exact h.elim
 | block id c ih=>
  intro Q Q' bl vt m a w hQ h r
  refine wp_block (ih _ _ bl vt m a w ?_ h r)
  intro e bl' vt' m' a' w' h' r'
  cases e with
  | exit id'=>
   dsimp only at h'
   unfold Exit.inBlock
   dsimp only
   split at h'
   ·rename_i e
    rw[if_pos e]
    exact hQ _ bl' vt' m' a' w' h' r'
   ·rename_i e
    rw[if_neg e]
    exact hQ _ bl' vt' m' a' w' h' r'
  |normal=>exact hQ _ bl' vt' m' a' w' h' r'
  |goto l=>exact hQ _ bl' vt' m' a' w' h' r'
  |ret=>exact hQ _ bl' vt' m' a' w' h' r'
  |panic ch=>exact hQ _ bl' vt' m' a' w' h' r'
  |outgrown=>exact hQ _ bl' vt' m' a' w' h' r'
 | loop c ih=>
  intro Q Q' bl vt m a w hQ h r
  refine wp_loop_rounds n ?_
  have key:∀k bl vt m a w,AS k (Hm P tbl dirty n c) Q vt m->Rl bs w0 ds bl0 bl vt m a w->Code.rounds P c Q' k a w:=by
   intro k
   induction k with
   |zero=>intro bl vt m a w h _;exact h
   |succ k ihk=>
    intro bl vt m a w h r
    refine ih _ _ bl vt m a w ?_ h r
    intro e bl' vt' m' a' w' h' r'
    cases e with
    |normal=>exact ihk bl' vt' m' a' w' h' r'
    |exit id=>exact hQ _ bl' vt' m' a' w' h' r'
    |goto l=>exact hQ _ bl' vt' m' a' w' h' r'
    |ret=>exact hQ _ bl' vt' m' a' w' h' r'
    |panic ch=>exact hQ _ bl' vt' m' a' w' h' r'
    |outgrown=>exact hQ _ bl' vt' m' a' w' h' r'
  exact key n bl vt m a w h r
 |exit id=>intro Q Q' bl vt m a w hQ h r;exact wp_exit (hQ _ bl vt m a w h r)
 |label l=>intro Q Q' bl vt m a w hQ h r;exact wp_label (hQ _ bl vt m a w h r)
 |ret=>intro Q Q' bl vt m a w hQ h r;exact wp_ret (hQ _ bl vt m a w h r)
 |goto l=>intro Q Q' bl vt m a w _ h _;exact h.elim
 |scope c _=>intro Q Q' bl vt m a w _ h _;exact h.elim
 |refuse s=>intro Q Q' bl vt m a w _ h _;exact h.elim
 |rangeFunc f ps x y _ _=>intro Q Q' bl vt m a w _ h _;exact h.elim
end
def EX(P:Program)(vt:List Value)(m:Xm):ResultVar->Option Value
 | .tmp t=>if isP (vt.getD t undef)then none else some (vt.getD t undef)
 | .cell p t=>
  match vt.getD p undef with
  | .pointer (some ⟨k,off,none⟩)=>(match m[k]? with
   |some l=>C3 P t l off
   |none=>none)
  |_=>none
def MD(P:Program)(vt:List Value)(m:Xm):List ResultVar->Option (List Value)
 |[]=>some []
 |r::rs=>
  match EX P vt m r,MD P vt m rs with
  |some v,some vs=>some (v::vs)
  |_,_=>none
def Up(P:Program)(fn:Func)(vt:List Value)(m:Xm):Option Value:=
 match MD P vt m fn.results.toList with
 |some [v]=>some v
 |some vs=>some (.tuple vs.toArray)
 |none=>none
def resF(tm:Array Value):ResultVar->Sem Value
 | .tmp t=>pure (tm.getD t undef)
 | .cell a t=>do loadVar t (<-asAddr (tm.getD a undef))
section
variable {P:Program} {bs:List Nat} {w0:World} {bl:Bl} {vt:List Value} {m:Xm} {w:World} {tm:Array Value}
theorem WY(F:FR bl vt tm)(R:RW bs w0 bl m w){r:ResultVar}{v:Value}(hv:EX P vt m r=some v):(resF tm r).run P w=.ok v w:=by
 cases r with
 | tmp t=>
  simp only[EX]at hv
  split at hv
  ·cases hv
  ·rename_i hp
   have e:=(F.rv t).plain (by simpa using hp)
   have hv:=Option.some.inj hv
   simp only[resF]
   rw[e,hv]
   simp
 | cell p t=>
  simp only[EX]at hv
  have hr:=F.rv p
  split at hv
  ·rename_i k off hk
   rw[hk]at hr
   obtain⟨B,hB,he⟩:=hr
   have he:tm.getD p undef=.pointer (some ⟨B,off,none⟩):=he
   split at hv
   ·rename_i l hl
    obtain⟨l2,e2,A⟩:=R.arr k B hB
    rw[hl]at e2
    cases e2
    have r1:=EN hv A
    simp only[resF]
    rw[he]
    simp[asAddr,r1]
   ·cases hv
  ·cases hv
theorem Uq(F:FR bl vt tm)(R:RW bs w0 bl m w):∀(rs:List ResultVar) (vs:List Value),MD P vt m rs=some vs->(rs.mapM (resF tm)).run P w=.ok vs w
 |[],vs,h=>by
  cases h
  simp
 | r::rs,vs,h=>by
  unfold MD at h
  split at h
  ·rename_i v us hv hus
   have e:=Option.some.inj h
   have ih:=Uq F R rs us hus
   have h1:=WY F R hv
   rw[List.mapM_cons]
   simp only[Sem.run_bind,h1,Result.andThen_ok,ih,<-e]
   rfl
  ·cases h
theorem WZ(fn:Func)(tm:Array Value):results fn tm=(do let vs <-fn.results.mapM (resF tm);pure (if h:vs.size=1 then vs[0]else .tuple vs)):=rfl
theorem JW{fn:Func}{v:Value}(F:FR bl vt tm)(R:RW bs w0 bl m w)(h:Up P fn vt m=some v):(results fn tm).run P w=.ok v w:=by
 unfold Up at h
 rw[WZ,Array.mapM_eq_mapM_toList]
 cases hvs:MD P vt m fn.results.toList with
 |none=>rw[hvs]at h;cases h
 | some vs=>
  have r:=Uq F R _ _ hvs
  rw[hvs]at h
  simp only[Sem.run_bind,Sem.run_map,r,Result.andThen_ok]
  match vs,h with
  |[u],h=>
   cases h
   simp
  |[],h=>
   cases h
   simp
  |x::y::zs,h=>
   cases h
   simp
end
theorem NH{b:Nat}{bad:Bool}{w:World}(h:Fl b bad w):AN b [.bool bad] w:=
 ⟨fun i hi=>by
  have:i=0:=by simp at hi;omega
  subst this
  exact h.cell,fun i hi=>by
  have:i=0:=by simp at hi;omega
  subst this
  exact h.free,h.lies⟩
theorem Hn{b:Nat}{bad:Bool}{w:World}(h:AN b [.bool bad] w):Fl b bad w:=⟨h.c 0 (by simp),h.f 0 (by simp),h.lies⟩
structure Dc(A:Type) where
 enc:A->Value
 dec:Value->Option A
 law:∀v x,dec v=some x->v=enc x
 np:∀x,isP (enc x)=false
structure Dl(A:Type) where
 enc:A->List Value
 dec:List Value->Option A
 law:∀v x,dec v=some x->v=enc x
 np:∀x,∀v∈enc x,isP v=false
def cI:Dc Int where
 enc x:=.int .i64 x
 dec v:=match v with
  | .int .i64 x=>some x
  |_=>none
 law v x h:=by
  split at h
  ·cases h;rfl
  ·cases h
 np _:=rfl
def cB:Dc Bool where
 enc x:=.bool x
 dec v:=match v with
  | .bool x=>some x
  |_=>none
 law v x h:=by
  split at h
  ·cases h;rfl
  ·cases h
 np _:=rfl
def cU:Dc Unit where
 enc _:=.tuple #[]
 dec v:=match v with
  | .tuple ⟨[]⟩=>some ()
  |_=>none
 law v x h:=by
  split at h
  ·rfl
  ·cases h
 np _:=rfl
def cV3:Dc (Int×Int×Int) where
 enc p:=.agg #[.int .i64 p.1,.int .i64 p.2.1,.int .i64 p.2.2]
 dec v:=match v with
  | .agg ⟨[.int .i64 a,.int .i64 b,.int .i64 c]⟩=>some (a,b,c)
  |_=>none
 law v x h:=by
  split at h
  ·cases h;rfl
  ·cases h
 np _:=rfl
def Au{A B:Type}(c:Dc A)(d:Dc B):Dc (A×B) where
 enc p:=.tuple #[c.enc p.1,d.enc p.2]
 dec v:=match v with
  | .tuple ⟨[x,y]⟩=>(match c.dec x,d.dec y with
   |some a,some b=>some (a,b)
   |_,_=>none)
  |_=>none
 law v x h:=by
  split at h
  ·split at h
   ·rename_i h1 h2
    cases h
    rw[c.law _ _ h1,d.law _ _ h2]
   ·cases h
  ·cases h
 np _:=rfl
def Aa{A:Type}(c:Dc A):Dl A where
 enc x:=[c.enc x]
 dec l:=match l with
  |[v]=>c.dec v
  |_=>none
 law v x h:=by
  split at h
  ·rw[c.law _ _ h]
  ·cases h
 np x v hv:=by
  rw[List.mem_singleton]at hv
  rw[hv]
  exact c.np x
def Ac{A B:Type}(c:Dc A)(d:Dl B):Dl (A×B) where
 enc x:=c.enc x.1::d.enc x.2
 dec l:=match l with
  |v::vs=>(match c.dec v,d.dec vs with
   |some a,some b=>some (a,b)
   |_,_=>none)
  |[]=>none
 law v x h:=by
  split at h
  ·split at h
   ·rename_i h1 h2
    cases h
    rw[c.law _ _ h1,d.law _ _ h2]
   ·cases h
  ·cases h
 np x v hv:=by
  rcases List.mem_cons.1 hv with e |e
  ·rw[e];exact c.np x.1
  ·exact d.np x.2 v e
def Mi:Dl Unit where
 enc _:=[]
 dec l:=match l with
  |[]=>some ()
  |_=>none
 law v x h:=by
  split at h
  ·rfl
  ·cases h
 np x v hv:=by cases hv
def ptr(b:Nat):Value:=.pointer (some ⟨b,0,none⟩)
def PK{R:Type}(k:Dc R)(Post:Value->Option Bool->Prop)(r:R×Bool):Prop:=Post (k.enc r.1) (some r.2)
def PJ{R:Type}(k:Dc R)(Post:Value->Prop)(r:R):Prop:=Post (k.enc r)
def Ai(P:Program)(fn:Nat){A R:Type}(d:Dl A)(g:Bool->A->R×Bool)(c:Dc R):Prop:=
 ∀b bad x w,GW w->1<b->Fl b bad w->Calls P fn (ptr b::d.enc x).toArray w fun e w'=>e=.returned (c.enc (g bad x).1)/\Fl b (g bad x).2 w'/\Ad b w w'
def Ah(P:Program)(fn:Nat){A R:Type}(d:Dl A)(g:A->R)(c:Dc R):Prop:=
 ∀x w,GW w->Calls P fn (d.enc x).toArray w fun e w'=>e=.returned (c.enc (g x))/\Below w.heap.size w w'
def Bz(P:Program)(fn:Func)(Post:Value->Xm->Prop):VQ:=fun e vt m=>
 match e with
 | .normal=>(match Up P fn vt m with
  |some v=>Post v m
  |none=>False)
 | .ret=>(match Up P fn vt m with
  |some v=>Post v m
  |none=>False)
 |_=>False
section
variable {P:Program} {tbl:List (Ct P)} {dirty:Nat->List Nat} {n:Nat}
theorem Ho(hm:P.follows .mixedOrders=true){f:Nat}{fn:Func}{c:Code}(hf:P.funcs[f]? =some fn)(hb:fn.body=some c){bs:List Nat}{w:World}{bl:Bl}{m:Xm}{vargs:List Value}{args:Array Value}
    (R:RW bs w bl m w) (hl:bl.length=m.length) (hs:args.size=vargs.length) (hv:∀i,RV bl (vargs.getD i undef) (args.getD i undef)) {Post:Value->Xm->Prop}
    (h:Hm P tbl dirty n c (Bz P fn Post) (vargs++Zaf (fn.ntmps-vargs.length) undef) m):
    Calls P f args w fun e w'=>∃v bl' m',e=.returned v/\Post v m'/\RW bs w bl' m' w'/\Le bl bl':=by
 refine calls_of_wp hf hb (Adm (ds:=[]) (bl0:=bl) hm c _ _ bl _ m _ w ?_ h ⟨⟨?_,?_⟩,R,Le.refl _,hl,rfl⟩)
 ·intro e bl' vt' m' a' w' h' r'
  cases e with
  | normal=>
   simp only[Bz]at h'
   split at h'
   ·rename_i v hv
    exact⟨r'.defers,v,JW r'.F r'.R hv,v,bl',m',rfl,h',r'.R,r'.le⟩
   ·exact h'.elim
  | ret=>
   simp only[Bz]at h'
   split at h'
   ·rename_i v hv
    exact⟨r'.defers,v,JW r'.F r'.R hv,v,bl',m',rfl,h',r'.R,r'.le⟩
   ·exact h'.elim
  |exit id=>exact h'.elim
  |goto l=>exact h'.elim
  |panic ch=>exact h'.elim
  |outgrown=>exact h'.elim
 ·simp[hs]
 ·intro t
  by_cases ht:t<vargs.length
  ·have:=hv t
   simp only[Zn,Zp]at this ⊢
   rw[Zv ht,Array.getElem?_append_left (by omega)]
   exact this
  ·simp only[Zn,Zp]
   rw[Zac (by omega),Array.getElem?_append_right (by omega),hs]
   by_cases h2:t-vargs.length<fn.ntmps-vargs.length
   ·rw[Zaa (by simpa using h2),Zq (by simpa using h2)]
    simp
    rfl
   ·rw[Zah (by simpa using h2),Zz (by simpa using h2)]
    rfl
def Ck:Xm->Option Bool
 |[.bool b]::_=>some b
 |_=>none
theorem Fv{m:Xm}{b:Bool}(h:Ck m=some b):m[0]? =some [.bool b]:=by
 unfold Ck at h
 split at h
 ·cases h;rfl
 ·cases h
theorem AZ(hm:P.follows .mixedOrders=true){f:Nat}{fn:Func}{c:Code}(hf:P.funcs[f]? =some fn)(hb:fn.body=some c){A R:Type}{d:Dl A}{g:Bool->A->R×Bool}{k:Dc R}
    (h:∀(bad:Bool) (x:A) (Post:Value->Option Bool->Prop),Hm P tbl dirty n c (Bz P fn (fun v m=>Post v (Ck m))) ((ptr 0::d.enc x)++Zaf (fn.ntmps-(ptr 0::d.enc x).length) undef) [[.bool bad]]=PK k Post (g bad x)):Ai P f d g k:=by
 intro b bad x w hg hb1 hw
 have R:RW [b] w [some b] [[.bool bad]] w:=by
  refine⟨fun i B hi=>?_,fun i j B hi hj=>?_,fun i B hi=>?_,rfl,rfl,rfl,Nat.le_refl _,fun _ _ _=>rfl,hg,by simpa using hb1⟩
  ·match i,hi with
   |0,hi=>cases hi;exact⟨_,rfl,NH hw⟩
  ·match i,j,hi,hj with
   |0,0,_,_=>rfl
  ·match i,hi with
   |0,hi=>cases hi;exact .inl Zs
 refine Calls.mono (Ho hm hf hb (vargs:=ptr 0::d.enc x) R rfl (by simp) (fun i=>?_) (Eq.mpr (h bad x (fun v o=>v=k.enc (g bad x).1/\o=some (g bad x).2)) (show _/\_ from⟨rfl,rfl⟩))) ?_
 ·cases i with
  |zero=>exact⟨b,rfl,rfl⟩
  | succ i=>
   by_cases hi:i<(d.enc x).length
   ·have:=d.np x _ (Zam hi)
    simp only[Zn,Zp]
    simp[hi]
    exact .same this
   ·simp only[Zn,Zp]
    simp[hi]
    rfl
 ·rintro e w' ⟨v,bl',m2,rfl,⟨rfl,h2⟩,R',hle⟩
  obtain⟨l,e,A⟩:=R'.arr 0 b (hle 0 b rfl)
  rw[Fv h2]at e
  cases e
  exact⟨rfl,Hn A,R'.os,R'.tape,R'.output,R'.size,fun i hi hb=>R'.block i hi (by simpa using hb)⟩
theorem Av(hm:P.follows .mixedOrders=true){f:Nat}{fn:Func}{c:Code}(hf:P.funcs[f]? =some fn)(hb:fn.body=some c){A R:Type}{d:Dl A}{g:A->R}{k:Dc R}
    (h:∀(x:A) (Post:Value->Prop),Hm P tbl dirty n c (Bz P fn (fun v _=>Post v)) (d.enc x++Zaf (fn.ntmps-(d.enc x).length) undef) []=PJ k Post (g x)):Ah P f d g k:=by
 intro x w hg
 have R:RW [] w [] [] w:=⟨fun i B hi=>(by cases hi),fun i j B hi=>(by cases hi),fun i B hi=>(by cases hi),rfl,rfl,rfl,Nat.le_refl _,fun _ _ _=>rfl,hg,fun b hb=>by cases hb⟩
 refine Calls.mono (Ho hm hf hb (vargs:=d.enc x) R rfl (by simp) (fun i=>?_) (Eq.mpr (h x (fun v=>v=k.enc (g x))) (show _=_ from rfl))) ?_
 ·by_cases hi:i<(d.enc x).length
  ·have:=d.np x _ (Zam hi)
   simp only[Zn,Zp]
   simp[hi]
   exact .same this
  ·simp only[Zn,Zp]
   simp[hi]
   rfl
 ·rintro e w' ⟨v,bl',m2,rfl,rfl,R',_⟩
  exact⟨rfl,R'.os,R'.tape,R'.output,R'.size,fun i hi=>R'.block i hi (by simp)⟩
end
theorem RW.flow{bs:List Nat}{w0:World}{bl:Bl}{m:Xm}{w w':World}(h:RW bs w0 bl m w){k B:Nat}{bad bad':Bool}(hk:bl[k]? =some (some B))(hm:m[k]? =some [.bool bad])(F:Fl B bad' w')(K:Ad B w w'):RW bs w0 bl (m.set k [.bool bad']) w':=by
 have hkl:k<m.length:=(Zr.1 hm).1
 refine⟨fun k' B' hk'=>?_,h.inj,fun k' B' hk'=>(h.own k' B' hk').imp id (Or.imp id fun e=>Nu e (fun e2=>by subst e2;rw[hm]at e;cases e)),K.os.trans h.os,K.tape.trans h.tape,K.output.trans h.output,Nat.le_trans h.size K.size,fun i hi hb=>?_,h.gw⟩
 ·by_cases e:k=k'
  ·subst e
   rw[hk]at hk'
   cases hk'
   exact⟨_,Zab hkl,NH F⟩
  ·obtain⟨l2,e2,A2⟩:=h.arr k' B' hk'
   exact⟨l2,by rw[Zt e];exact e2,A2.kept K (fun e3=>e (h.inj k k' B hk (e3▸hk')))⟩
 ·have hB:i≠B:=by
   rintro rfl
   rcases h.own k i hk with hb' |hb' |hb'
   ·exact hb hb'
   ·omega
   ·rw[hm]at hb'
    cases hb'
  rw[K.block i (by have:=h.size;omega) hB]
  exact h.block i hi hb
theorem RW.pure{bs:List Nat}{w0:World}{bl:Bl}{m:Xm}{w w':World}(h:RW bs w0 bl m w)(K:Below w.heap.size w w'):RW bs w0 bl m w':=
 ⟨fun k B hk=>let ⟨l,h1,A⟩:=h.arr k B hk;⟨l,h1,A.below K⟩,h.inj,h.own,K.os.trans h.os,K.tape.trans h.tape,K.output.trans h.output,Nat.le_trans h.size K.size,fun i hi hb=>by
  rw[K.block i (by have:=h.size;omega)]
  exact h.block i hi hb,h.gw⟩
theorem FW{bl:Bl}{l:List Value}{args':Array Value}(hs:args'.size=l.length)(hv:∀i,RV bl (l.getD i undef) (args'.getD i undef))(hp:∀v∈l,isP v=false):args'=l.toArray:=by
 refine Array.ext (by simp[hs]) (fun i h1 h2=>?_)
 have hi:i<l.length:=by omega
 have:=hv i
 simp only[Zn,Zp]at this
 rw[Zaa hi,Zq h1]at this
 simpa using this.plain (hp _ (Zam hi))
def Ak(P:Program)(fn:Nat){A R:Type}(d:Dl A)(g:Bool->A->R×Bool)(c:Dc R)(go:∀(args:Array Value) (w:World),(callFunc fn args).run P w=.ok (.enter fn args) w)(h:Ai P fn d g c):Ct P where
 fn:=fn
 sp:=fun args m K=>match args with
  | .pointer (some ⟨k,0,none⟩)::rest=>(match d.dec rest,m[k]? with
   |some x,some [.bool bad]=>K (c.enc (g bad x).1) (m.set k [.bool (g bad x).2])
   |_,_=>False)
  |_=>False
 go:=go
 mono:=fun hK hs=>by
  split at hs
  ·split at hs
   ·exact hK _ _ hs
   ·exact hs
  ·exact hs
 keep:=fun{args m K} hs=>by
  split at hs
  ·rename_i k rest
   split at hs
   ·refine⟨hs,List.length_set ..,fun k' hk'=>?_⟩
    have e:k≠k':=by rintro rfl;exact hk' (by simp[Hb])
    rw[Zt e]
   ·exact hs
  ·exact hs
 ok :=fun{bs w0 bl m w args args' K} R hlen hv hs=>by
  split at hs
  ·rename_i k rest
   split at hs
   ·rename_i x bad hd hmk
    have h0:=hv 0
    obtain⟨B,hB,he⟩:=h0
    have hrest:=d.law _ _ hd
    have hargs:args'=(ptr B::d.enc x).toArray:=by
     refine Array.ext (by rw[hlen,hrest];simp) (fun i h1 h2=>?_)
     cases i with
     |zero=>
      simp only[Zp,Zq h1]at he
      simpa [ptr]using he
     |succ i=>
      have hi:i<rest.length:=by simp at hlen;omega
      have:=hv (i+1)
      simp only[Zn,Zp,List.getElem?_cons_succ]at this
      rw[Zaa hi,Zq h1]at this
      have e:=this.plain (d.np x _ (by rw[<-hrest];exact Zam hi))
      simp only[Option.getD_some]at e
      rw[e]
      simp[hrest]
    obtain⟨l2,e2,A⟩:=R.arr k B hB
    have e2:m[k]? =some l2:=e2
    rw[hmk]at e2
    cases e2
    rw[hargs]
    refine Calls.mono (h B bad x w R.gwAt (R.gt hB hmk (List.cons_ne_nil _ _)) (Hn A)) ?_
    rintro e w' ⟨rfl,F,Kp⟩
    exact⟨_,_,_,rfl,.same (c.np _),hs,R.flow hB hmk F Kp⟩
   ·exact hs.elim
  ·exact hs.elim
def Aq(P:Program)(fn:Nat){A R:Type}(d:Dl A)(g:A->R)(c:Dc R)(go:∀(args:Array Value) (w:World),(callFunc fn args).run P w=.ok (.enter fn args) w)(h:Ah P fn d g c):Ct P where
 fn:=fn
 sp:=fun args m K=>match d.dec args with
  |some x=>K (c.enc (g x)) m
  |none=>False
 go:=go
 mono:=fun hK hs=>by
  split at hs
  ·exact hK _ _ hs
  ·exact hs
 keep:=fun{args m K} hs=>by
  split at hs
  ·exact⟨hs,rfl,fun _ _=>rfl⟩
  ·exact hs
 ok:=fun{bs w0 bl m w args args' K} R hlen hv hs=>by
  split at hs
  ·rename_i x hd
   have hl:=d.law _ _ hd
   rw[FW hlen hv (by rw[hl];exact d.np x),hl]
   refine Calls.mono (h x w R.gwAt) ?_
   rintro e w' ⟨rfl,Kp⟩
   exact⟨_,_,_,rfl,.same (c.np _),hs,R.pure Kp⟩
  ·exact hs.elim
theorem Ae{P:Program}{f:Nat}{fn:Func}(hf:P.funcs[f]? =some fn)(h:(fn.name== "runtime.NumGoroutine")=false)(hb:fn.body.isNone=false)(args:Array Value)(w:World):(callFunc f args).run P w=.ok (.enter f args) w:=by
 have h1:fn.name≠ "runtime.NumGoroutine" :=by simpa using h
 have h2:fn.body≠none:=fun e=>by rw[e]at hb;cases hb
 unfold callFunc
 simp[program,Sem.run,hf,h1,h2]
end
namespace Nx
open Go.RowKit Go.Proofs.YtoadcnhcfodkgaaGreatDoor
def Ur:Value->Option (Nat×IntKind×Nat)
 | .tuple ⟨[.int k (.ofNat _)]⟩=>some (0,k,0)
 | .tuple ⟨[.bool _]⟩=>some (1,.i64,0)
 | .tuple ⟨[.float .f64 i]⟩=>some (2,.i64,i)
 | .tuple ⟨[.agg _]⟩=>some (3,.i64,0)
 |_=>none
def unk(k:IntKind):Value:=.tuple ⟨[.int k 0]⟩
def unkB:Value:=.tuple ⟨[.bool false]⟩
def PL(i:Nat):Value:=.tuple ⟨[.float .f64 i]⟩
def xp(l:List Value):Value:=.tuple ⟨[.agg ⟨l⟩]⟩
def opE(c:Nat)(a b:Int):Option Int:=
 match c with
 |0=>some (IntKind.i64.wrap (a+b))
 |1=>some (IntKind.i64.wrap (a-b))
 |2=>some (IntKind.i64.wrap (a*b))
 |3=>if b=0 then none else some (IntKind.i64.wrap (Int.tdiv a b))
 |4=>if b=0 then none else some (Int.tmod a b)
 |_=>none
def ME(τ:List Int):List Int->List Value->Option (List Int)
 |st,[]=>some st
 |st,.int _ n::l=>ME τ (n::st) l
 |st,.float .f64 i::l=>(match τ[i]? with
  |some x=>ME τ (x::st) l
  |none=>none)
 |b::a::st,.float .f32 c::l=>(match opE c a b with
  |some r=>ME τ (r::st) l
  |none=>none)
 |_,_::_=>none
def evX(τ:List Int)(t:Value):Option Int:=
 match t with
 | .tuple ⟨[.agg ⟨l⟩]⟩=>(match ME τ [] l with
  |some [x]=>some x
  |_=>none)
 |_=>none
def Adn(x:Int):Int:=IntKind.i64.wrap (0-x)
def Fj(τ τ':List Int):Prop:=∃l,τ'=τ++l
theorem Fj.refl(τ:List Int):Fj τ τ:=⟨[],(List.append_nil τ).symm⟩
theorem Fj.trans{a b c:List Int}(h:Fj a b)(k:Fj b c):Fj a c:=by
 obtain⟨l,rfl⟩:=h
 obtain⟨m,rfl⟩:=k
 exact⟨l++m,List.append_assoc ..⟩
theorem Fj.at{τ τ':List Int}(h:Fj τ τ'){i:Nat}{x:Int}(e:τ[i]? =some x):τ'[i]? =some x:=by
 obtain⟨l,rfl⟩:=h
 rw[Zv (Zr.1 e).1]
 exact e
theorem MQ{τ τ':List Int}(h:Fj τ τ'):∀(l:List Value) (st r:List Int),ME τ st l=some r->ME τ' st l=some r
 |[],st,r,e=>e
 | a::l,st,r,e=>by
  unfold ME at e ⊢
  split at e
  ·rename_i heq
   cases heq
  ·rename_i heq
   cases heq
   exact MQ h l _ _ e
  ·rename_i heq
   cases heq
   split at e
   ·rename_i x hx
    rw[h.at hx]
    exact MQ h l _ _ e
   ·cases e
  ·rename_i heq
   cases heq
   split at e
   ·rename_i x hx
    exact MQ h l _ _ e
   ·cases e
  ·cases e
theorem Ast{τ τ':List Int}(h:Fj τ τ'){t:Value}{x:Int}(e:evX τ t=some x):evX τ' t=some x:=by
 unfold evX at e ⊢
 split at e
 ·split at e
  ·rename_i hx
   cases e
   rw[MQ h _ _ _ hx]
  ·cases e
 ·cases e
def Aj{α β:Type}(R:α->β->Prop):List α->List β->Prop
 |[],[]=>True
 |a::l,b::m=>R a b/\Aj R l m
 |_,_=>False
theorem Aj.len{α β:Type}{R:α->β->Prop}:∀{l:List α} {m:List β},Aj R l m->l.length=m.length
 |[],[],_=>rfl
 |_::_,_::_,h=>congrArg (·+1) h.2.len
 |[],_::_,h=>h.elim
 |_::_,[],h=>h.elim
theorem Aj.imp{α β:Type}{R S:α->β->Prop}(hi:∀a b,R a b->S a b):∀{l:List α} {m:List β},Aj R l m->Aj S l m
 |[],[],_=>trivial
 |_::_,_::_,h=>⟨hi _ _ h.1,Aj.imp hi h.2⟩
 |[],_::_,h=>h.elim
 |_::_,[],h=>h.elim
theorem Aj.get{α β:Type}{R:α->β->Prop}:∀{l:List α} {m:List β},Aj R l m->∀(i:Nat) (a:α),l[i]? =some a->∃b,m[i]? =some b/\R a b
 |[],[],_,i,a,h=>by simp at h
 |x::l,y::m,h,0,a,e=>⟨y,rfl,by simp at e;exact e▸h.1⟩
 |x::l,y::m,h,i+1,a,e=>by simpa using Aj.get h.2 i a (by simpa using e)
 |[],_::_,h,_,_,_=>h.elim
 |_::_,[],h,_,_,_=>h.elim
theorem Aj.set{α β:Type}{R:α->β->Prop}:∀{l:List α} {m:List β},Aj R l m->∀(i:Nat) (a:α) (b:β),R a b->Aj R (l.set i a) (m.set i b)
 |[],[],_,_,_,_,_=>trivial
 |_::_,_::_,h,0,_,_,r=>⟨r,h.2⟩
 |_::_,_::_,h,i+1,a,b,r=>⟨h.1,Aj.set h.2 i a b r⟩
 |[],_::_,h,_,_,_,_=>h.elim
 |_::_,[],h,_,_,_,_=>h.elim
theorem Aj.drop{α β:Type}{R:α->β->Prop}:∀(n:Nat) {l:List α} {m:List β},Aj R l m->Aj R (l.drop n) (m.drop n)
 |0,_,_,h=>h
 |_+1,[],[],_=>trivial
 |n+1,_::_,_::_,h=>Aj.drop n h.2
 |_+1,[],_::_,h=>h.elim
 |_+1,_::_,[],h=>h.elim
theorem Aj.take{α β:Type}{R:α->β->Prop}:∀(n:Nat) {l:List α} {m:List β},Aj R l m->Aj R (l.take n) (m.take n)
 |0,_,_,_=>by simp[Aj]
 |_+1,[],[],_=>trivial
 |n+1,_::_,_::_,h=>⟨h.1,Aj.take n h.2⟩
 |_+1,[],_::_,h=>h.elim
 |_+1,_::_,[],h=>h.elim
theorem Aj.refl{α:Type}{R:α->α->Prop}:∀(l:List α),(∀a∈l,R a a)->Aj R l l
 |[],_=>trivial
 |a::l,h=>⟨h a Zs,Aj.refl l (fun b hb=>h b (Zu _ hb))⟩
def plain:Value->Bool
 | .agg _=>false
 | .tuple ⟨_::_::_⟩=>false
 |_=>true
def G0(τ:List Int)(t v:Value):Prop:=
 match Ur t with
 |some (0,k,_)=>∃x,v=.int k x
 |some (1,_,_)=>∃b,v=.bool b
 |some (2,_,i)=>∃x,τ[i]? =some x/\v=.int .i64 x
 |some (_,_,_)=>∃x,evX τ t=some x/\v=.int .i64 x
 |none=>v=t/\plain t=true
def G1(τ:List Int)(t v:Value):Prop:=
 match t with
 | .agg cs=>∃l,v=.agg ⟨l⟩/\Aj (G0 τ) cs.toList l
 |t=>G0 τ t v
def G2(τ:List Int)(t v:Value):Prop:=
 match t with
 | .tuple ⟨a::b::r⟩=>∃l,v=.tuple ⟨l⟩/\Aj (G1 τ) (a::b::r) l
 |t=>G1 τ t v
section
variable {τ:List Int}
theorem G0.eq{t v:Value}(h:G0 τ t v)(ht:Ur t=none):v=t:=by
 unfold G0 at h
 rw[ht]at h
 exact h.1
theorem G0.same{t:Value}(ht:Ur t=none)(hp:plain t=true):G0 τ t t:=by
 unfold G0
 rw[ht]
 exact⟨rfl,hp⟩
theorem G0.plain{t v:Value}(h:G0 τ t v):plain t=true:=by
 unfold G0 at h
 split at h
 ·rename_i e
  unfold Ur at e
  split at e<;>cases e<;>rfl
 ·rename_i e
  unfold Ur at e
  split at e<;>cases e<;>rfl
 ·rename_i e
  unfold Ur at e
  split at e<;>cases e<;>rfl
 ·rename_i e
  unfold Ur at e
  split at e<;>cases e<;>rfl
 ·exact h.2
def I0(t:Value):Bool:=(Ur t).isNone&&Nx.plain t
def Qg:Value->Bool
 | .agg cs=>cs.toList.all I0
 |t=>I0 t
def GT:Value->Bool
 | .tuple ⟨a::b::r⟩=>(a::b::r).all Qg
 |t=>Qg t
theorem Aj.eq{R:Value->Value->Prop}{p:Value->Bool}(hp:∀t v,p t=true->R t v->v=t):∀{l m:List Value},Aj R l m->l.all p=true->m=l
 |[],[],_,_=>rfl
 |a::l,b::m,h,hr=>by
  simp only[List.all_cons,Zo]at hr
  rw[hp a b hr.1 h.1,Aj.eq hp h.2 hr.2]
 |[],_::_,h,_=>h.elim
 |_::_,[],h,_=>h.elim
theorem Us(t v:Value)(hr:I0 t=true)(h:G0 τ t v):v=t:=h.eq (by simp[I0]at hr;exact hr.1)
theorem Ut(t v:Value)(hr:Qg t=true)(h:G1 τ t v):v=t:=by
 unfold G1 at h
 unfold Qg at hr
 split at h
 ·obtain⟨l,rfl,hl⟩:=h
  rw[hl.eq Us hr]
 ·rename_i hn
  split at hr
  ·exact absurd rfl (hn _)
  ·exact Us _ _ hr h
theorem JX(t v:Value)(hr:GT t=true)(h:G2 τ t v):v=t:=by
 unfold G2 at h
 unfold GT at hr
 split at h
 ·obtain⟨l,rfl,hl⟩:=h
  rw[hl.eq Ut hr]
 ·rename_i hn
  split at hr
  ·exact absurd rfl (hn _ _ _)
  ·exact Ut _ _ hr h
theorem Gq{t:Value}(hr:I0 t=true):G0 τ t t:=.same (by simp[I0]at hr;exact hr.1) (by simp[I0]at hr;exact hr.2)
theorem NI{t:Value}(hr:Qg t=true):G1 τ t t:=by
 unfold Qg at hr
 unfold G1
 split at hr
 ·exact⟨_,rfl,Aj.refl _ (fun a ha=>Gq (Zx.1 hr a ha))⟩
 ·exact Gq hr
theorem AY{t:Value}(hr:GT t=true):G2 τ t t:=by
 unfold GT at hr
 unfold G2
 split at hr
 ·exact⟨_,rfl,Aj.refl _ (fun a ha=>NI (Zx.1 hr a ha))⟩
 ·exact NI hr
theorem G0.g1{t v:Value}(h:G0 τ t v):G1 τ t v:=by
 have hp:=h.plain
 unfold G1
 split
 ·cases hp
 ·exact h
theorem G1.g2{t v:Value}(h:G1 τ t v):G2 τ t v:=by
 unfold G2
 split
 ·exact absurd (G0.plain h) (by simp[Nx.plain])
 ·exact h
theorem G0.g2{t v:Value}(h:G0 τ t v):G2 τ t v:=h.g1.g2
theorem G2.agg{cs:Array Value}{v:Value}(h:G2 τ (.agg cs) v):∃l,v=.agg ⟨l⟩/\Aj (G0 τ) cs.toList l:=h
theorem G2.ptr{a:Option Addr}{v:Value}(h:G2 τ (.pointer a) v):v=.pointer a:=h.1
theorem G2.int{k:IntKind}{x:Int}{v:Value}(h:G2 τ (.int k x) v):v=.int k x:=h.1
theorem G2.bool{b:Bool}{v:Value}(h:G2 τ (.bool b) v):v=.bool b:=h.1
def Ds:Value->Option IntKind
 | .int k _=>some k
 | .tuple ⟨[.int k (.ofNat _)]⟩=>some k
 | .tuple ⟨[.float .f64 _]⟩=>some .i64
 | .tuple ⟨[.agg _]⟩=>some .i64
 |_=>none
def DD:Value->Bool
 | .bool _=>true
 | .tuple ⟨[.bool _]⟩=>true
 |_=>false
theorem Qh{t v:Value}{k:IntKind}(h:Ds t=some k)(g:G0 τ t v):∃x,v=.int k x:=by
 unfold Ds at h
 split at h
 ·cases h;exact⟨_,g.1⟩
 ·cases h;exact g
 ·cases h
  obtain⟨x,_,e⟩:=g
  exact⟨x,e⟩
 ·cases h
  obtain⟨x,_,e⟩:=g
  exact⟨_,e⟩
 ·cases h
theorem DF{t v:Value}{k:IntKind}(h:Ds t=some k)(g:G2 τ t v):∃x,v=.int k x:=by
 refine Qh (τ:=τ) h ?_
 unfold Ds at h
 split at h
 ·exact g
 ·exact g
 ·exact g
 ·exact g
 ·cases h
theorem El{t v:Value}(h:DD t=true)(g:G2 τ t v):∃x,v=.bool x:=by
 unfold DD at h
 split at h
 ·exact⟨_,g.1⟩
 ·exact g
 ·cases h
theorem Qi{t v:Value}(h:DD t=true)(g:G0 τ t v):∃x,v=.bool x:=by
 unfold DD at h
 split at h
 ·exact⟨_,g.1⟩
 ·exact g
 ·cases h
theorem G2.unk{k:IntKind}{x:Int}:G2 τ (unk k) (.int k x):=⟨x,rfl⟩
theorem G2.unkB{b:Bool}:G2 τ unkB (.bool b):=⟨b,rfl⟩
theorem G0.isP{t v:Value}(h:G0 τ t v):isP v=isP t:=by
 have h0:=h
 unfold G0 at h
 split at h
 ·rename_i k _ e
  obtain⟨x,rfl⟩:=h
  unfold Ur at e
  split at e<;>cases e<;>rfl
 ·rename_i e
  obtain⟨x,rfl⟩:=h
  unfold Ur at e
  split at e<;>cases e<;>rfl
 ·rename_i e
  obtain⟨x,_,rfl⟩:=h
  unfold Ur at e
  split at e<;>cases e<;>rfl
 ·rename_i e
  obtain⟨x,_,rfl⟩:=h
  unfold Ur at e
  split at e<;>cases e<;>rfl
 ·rw[h.1]
theorem G0.ext{τ':List Int}(hx:Fj τ τ'){t v:Value}(h:G0 τ t v):G0 τ' t v:=by
 unfold G0 at h ⊢
 split at h
 ·exact h
 ·exact h
 ·obtain⟨x,e,hv⟩:=h
  exact⟨x,hx.at e,hv⟩
 ·obtain⟨x,e,hv⟩:=h
  exact⟨x,Ast hx e,hv⟩
 ·exact h
theorem G1.ext{τ':List Int}(hx:Fj τ τ'){t v:Value}(h:G1 τ t v):G1 τ' t v:=by
 unfold G1 at h ⊢
 split at h
 ·obtain⟨l,e,hl⟩:=h
  exact⟨l,e,hl.imp fun _ _ k=>k.ext hx⟩
 ·exact h.ext hx
theorem G2.ext{τ':List Int}(hx:Fj τ τ'){t v:Value}(h:G2 τ t v):G2 τ' t v:=by
 unfold G2 at h ⊢
 split at h
 ·obtain⟨l,e,hl⟩:=h
  exact⟨l,e,hl.imp fun _ _ k=>k.ext hx⟩
 ·exact h.ext hx
theorem G1.isP{t v:Value}(h:G1 τ t v):isP v=isP t:=by
 unfold G1 at h
 split at h
 ·obtain⟨l,rfl,_⟩:=h;rfl
 ·exact h.isP
theorem G2.isP{t v:Value}(h:G2 τ t v):isP v=isP t:=by
 unfold G2 at h
 split at h
 ·obtain⟨l,rfl,_⟩:=h;rfl
 ·exact h.isP
structure GF(τ:List Int)(at' vt:List Value):Prop where
 len:at'.length=vt.length
 g:∀t,G2 τ (at'.getD t undef) (vt.getD t undef)
structure GM(τ:List Int)(am m:Xm):Prop where
 len:am.length=m.length
 g:∀(k:Nat) (l:List Value),am[k]? =some l->∃l',m[k]? =some l'/\Aj (G0 τ) l l'
theorem GF.ext{τ':List Int}(hx:Fj τ τ'){at' vt:List Value}(h:GF τ at' vt):GF τ' at' vt:=⟨h.len,fun t=>(h.g t).ext hx⟩
theorem GM.ext{τ':List Int}(hx:Fj τ τ'){am m:Xm}(h:GM τ am m):GM τ' am m:=⟨h.len,fun k l e=>let ⟨l',h1,h2⟩:=h.g k l e;⟨l',h1,h2.imp fun _ _ k=>k.ext hx⟩⟩
def okA:Operand->Bool
 | .const v=>!isP v&&GT v
 | .global _=>false
 |_=>true
theorem Ee{x:Operand}(h:okA x=true):P6 x=true:=by
 cases x<;>simp[okA,P6]at h ⊢
 exact h.1
theorem GF.ev{at' vt:List Value}(h:GF τ at' vt){x:Operand}(hx:okA x=true):G2 τ (VE at' x) (VE vt x):=by
 match x,hx with
 | .tmp t,_=>exact h.g t
 | .const v,hx=>
  simp only[okA,Zo]at hx
  exact AY hx.2
 | .global g,hx=>cases hx
 | .func f,_=>exact AY rfl
theorem GF.set{at' vt:List Value}(h:GF τ at' vt)(d:Nat){t v:Value}(g:G2 τ t v):GF τ (at'.set d t) (vt.set d v):=by
 refine⟨by simp[h.len],fun i=>?_⟩
 have hl:=h.len
 simp only[Zn]
 by_cases e:d=i
 ·subst e
  by_cases hd:d<vt.length
  ·rw[Zab (by omega),Zab hd]
   exact g
  ·rw[Zah (by rw[List.length_set];omega),Zah (by rw[List.length_set];omega)]
   exact AY rfl
 ·rw[Zt e,Zt e]
  have:=h.g i
  simpa only[Zn]using this
theorem GF.put{at' vt:List Value}(h:GF τ at' vt)(d:Option Tmp){t v:Value}(g:G2 τ t v):GF τ (BO at' d t) (BO vt d v):=by
 cases d with
 |none=>exact h
 |some d=>exact h.set d g
theorem GM.set{am m:Xm}(h:GM τ am m)(k:Nat){l l':List Value}(g:Aj (G0 τ) l l'):GM τ (am.set k l) (m.set k l'):=by
 refine⟨by simp[h.len],fun i x hx=>?_⟩
 have hl:=h.len
 by_cases e:k=i
 ·subst e
  have hk:k<am.length:=by
   have:=(Zr.1 hx).1
   simpa using this
  rw[Zab hk]at hx
  cases hx
  exact⟨l',Zab (by omega),g⟩
 ·rw[Zt e]at hx ⊢
  exact h.g i x hx
theorem GM.get{am m:Xm}(h:GM τ am m){k:Nat}{l:List Value}(e:am[k]? =some l){l':List Value}(e':m[k]? =some l'):Aj (G0 τ) l l':=by
 obtain⟨x,hx,g⟩:=h.g k l e
 rw[e']at hx
 cases hx
 exact g
end
theorem Ay{P:Program}{α β:Type}(s:Sem α)(f:α->Sem β):qrun P (s >>= f)=(qrun P s).bind fun a=>qrun P (f a):=by
 show qrun P (Sem.bind s f)=_
 induction s with
 |pure a=>rfl
 |program k ih=>exact ih P
 |mark m k ih=>exact ih
 |_=>rfl
section
variable {P:Program} {τ:List Int}
theorem Cc{o:Oper}{ρ:Operand->Value}{v:Value}(hp:∀x∈o.op.operands,isP (ρ x)=false)(hq:qrun P (execOp ρ o)=some (.value v))(hv:isP v=false):Bc P o ρ=some v:=by
 unfold Bc
 rw[if_pos (Zm.2 (fun x hx=>by rw[hp x hx];rfl)),hq]
 simp[hv]
theorem Ajb{o:Oper}{ρ:Operand->Value}{v:Value}(h:Bc P o ρ=some v):(∀x∈o.op.operands,isP (ρ x)=false)/\qrun P (execOp ρ o)=some (.value v)/\isP v=false:=by
 unfold Bc at h
 split at h
 ·rename_i hp
  split at h
  ·rename_i u hq
   split at h
   ·cases h
   ·rename_i hu
    cases h
    exact⟨fun x hx=>by simpa using Zm.1 hp x hx,hq,by simpa using hu⟩
  ·cases h
 ·cases h
def Azr:BinOp->Bool
 | .add=>true
 | .sub=>true
 | .mul=>true
 | .and=>true
 | .or=>true
 | .xor=>true
 | .andNot=>true
 |_=>false
def Qj:BinOp->Bool
 | .eql=>true
 | .neq=>true
 | .lss=>true
 | .leq=>true
 | .gtr=>true
 | .geq=>true
 |_=>false
def d7(P:Program)(t:TypeId):Bool:=
 match P.underlying t with
 |some .bool=>true
 |_=>false
def Ado:BinOp->Nat
 | .eql=>0
 | .neq=>1
 | .lss=>2
 | .leq=>3
 | .gtr=>4
 |_=>5
def Lh(c:Nat)(a b:Int):Bool:=
 match c with
 |0=>decide (a=b)
 |1=>!decide (a=b)
 |2=>decide (a<b)
 |3=>decide (a<=b)
 |4=>decide (b<a)
 |_=>decide (b<=a)
def detI:Value->Bool
 | .int .i64 _=>true
 | .tuple ⟨[.float .f64 _]⟩=>true
 | .tuple ⟨[.agg _]⟩=>true
 |_=>false
def eqA:List Value->List Value->Bool
 |[],[]=>true
 | .int k x::l,.int k' y::m=>decide (k=k')&&decide (x=y)&&eqA l m
 | .float .f64 i::l,.float .f64 j::m=>Nat.beq i j&&eqA l m
 | .float .f32 i::l,.float .f32 j::m=>Nat.beq i j&&eqA l m
 |_,_=>false
theorem RP:∀{l m:List Value},eqA l m=true->l=m
 | l,m,h=>by
  unfold eqA at h
  split at h
  ·rfl
  ·simp only[Zo,decide_eq_true_eq]at h
   rw[h.1.1,h.1.2,RP h.2]
  ·rw[Zo]at h
   rw[Zw h.1,RP h.2]
  ·rw[Zo]at h
   rw[Zw h.1,RP h.2]
  ·cases h
def Uu:Value->Value->Bool
 | .int k x,.int k' y=>decide (k=k')&&decide (x=y)
 | .tuple ⟨[.float .f64 i]⟩,.tuple ⟨[.float .f64 j]⟩=>Nat.beq i j
 | .tuple ⟨[.agg ⟨l⟩]⟩,.tuple ⟨[.agg ⟨m⟩]⟩=>eqA l m
 | .bool a,.bool b=>a==b
 |_,_=>false
theorem Dh{x y:Value}(h:Uu x y=true):x=y:=by
 unfold Uu at h
 split at h
 ·simp only[Zo,decide_eq_true_eq]at h
  rw[h.1,h.2]
 ·rw[Zw h]
 ·rw[RP h]
 ·rw[eq_of_beq h]
 ·cases h
abbrev Fct:=List (Nat×Value×Value×Bool)
def Li:Fct->Nat->Value->Value->Option Bool
 |[],_,_,_=>none
 |(c,x,y,b)::l,c',x',y'=>match Nat.beq c c'&&Uu x x'&&Uu y y' with
  |true=>some b
  |false=>Li l c' x' y'
def cmpN:BinOp->Nat×Bool×Bool
 | .eql=>(0,false,false)
 | .neq=>(0,false,true)
 | .lss=>(2,false,false)
 | .leq=>(2,true,true)
 | .gtr=>(2,true,false)
 |_=>(2,false,true)
def leC(F:Fct):Nat->Value->Value->Bool
 |0,x,y=>Uu x y
 |n+1,x,y=>Uu x y||F.any fun f=>match f with
  |(2,a,b,true)=>Uu a x&&detI b&&leC F n b y
  |(2,a,b,false)=>Uu b x&&detI a&&leC F n a y
  |_=>false
def ltC(F:Fct):Nat->Value->Value->Bool
 |0,_,_=>false
 |n+1,x,y=>F.any fun f=>match f with
  |(2,a,b,true)=>Uu a x&&detI b&&leC F n b y
  |(2,a,b,false)=>Uu b x&&detI a&&ltC F n a y
  |_=>false
def d8(F:Fct)(c:Nat)(x y:Value):Option Bool:=
 match Li F c x y with
 |some b=>some b
 | none=>(match c with
  | 0=>(match Uu x y with
   |true=>some true
   |false=>(match ltC F 4 x y||ltC F 4 y x with
    |true=>some false
    |false=>none))
  | 2=>(match Uu x y||ltC F 4 y x with
   |true=>some false
   |false=>(match ltC F 4 x y with
    |true=>some true
    |false=>none))
  |_=>none)
def d9(F:Fct)(op:BinOp)(x y:Value):Option Bool:=
 match cmpN op with
 |(c,sw,ng)=>(match d8 F c (bif sw then y else x) (bif sw then x else y)with
  |some b=>some (xor ng b)
  |none=>none)
theorem Asu(op:BinOp)(h:Qj op=true)(a b:Int):Lh (Ado op) a b=xor (cmpN op).2.2 (Lh (cmpN op).1 (bif (cmpN op).2.1 then b else a) (bif (cmpN op).2.1 then a else b)):=by
 have e:∀x y:Int,decide (x<=y)= !decide (y<x):=fun x y=>by
  by_cases h:y<x
  ·simp[h]
  ·simp[h];omega
 cases op<;>first |(cases h;done)|(simp[Lh,Ado,cmpN,e]<;>rfl)
def FctOk(τ:List Int)(l:Fct):Prop:=∀f∈l,∃a b,G0 τ f.2.1 (.int .i64 a)/\G0 τ f.2.2.1 (.int .i64 b)/\Lh f.1 a b=f.2.2.2
theorem FctOk.ext{τ':List Int}(hx:Fj τ τ'){l:Fct}(h:FctOk τ l):FctOk τ' l:=fun f hf=>let ⟨a,b,h1,h2,h3⟩:=h f hf;⟨a,b,h1.ext hx,h2.ext hx,h3⟩
theorem Cz{t:Value}(h:detI t=true){a b:Int}(h1:G0 τ t (.int .i64 a))(h2:G0 τ t (.int .i64 b)):a=b:=by
 unfold detI at h
 split at h
 ·have e1:=h1.1
  have e2:=h2.1
  cases e1
  cases e2
  rfl
 ·obtain⟨x,e1,k1⟩:=h1
  obtain⟨y,e2,k2⟩:=h2
  cases k1
  cases k2
  rw[e1]at e2
  exact Option.some.inj e2
 ·obtain⟨x,e1,k1⟩:=h1
  obtain⟨y,e2,k2⟩:=h2
  cases k1
  cases k2
  rw[e1]at e2
  exact Option.some.inj e2
 ·cases h
theorem B9{t v:Value}(h:detI t=true)(g:G2 τ t v):∃a,v=.int .i64 a/\G0 τ t (.int .i64 a):=by
 unfold detI at h
 split at h
 ·have e:=g.int
  subst e
  exact⟨_,rfl,rfl,rfl⟩
 ·obtain⟨x,e1,k1⟩:=g
  exact⟨x,k1,x,e1,rfl⟩
 ·obtain⟨x,e1,k1⟩:=g
  exact⟨_,k1,x,e1,rfl⟩
 ·cases h
theorem IA:∀{l:Fct},FctOk τ l->∀{c:Nat} {x y:Value} {r:Bool},Li l c x y=some r->detI x=true->detI y=true->∀{a b:Int},G0 τ x (.int .i64 a)->G0 τ y (.int .i64 b)->Lh c a b=r
 |[],_,_,_,_,_,h,_,_,_,_,_,_=>by cases h
 | (c0,x0,y0,b0)::l,hl,c,x,y,r,h,dx,dy,a,b,gx,gy=>by
  unfold Li at h
  split at h
  ·rename_i e
   simp only[Zo]at e
   obtain⟨⟨e1,e2⟩,e3⟩:=e
   have e1:=Zw e1
   have e2:=Dh e2
   have e3:=Dh e3
   subst e1 e2 e3
   cases h
   obtain⟨a',b',h1,h2,h3⟩:=hl _ Zs
   rw[Cz dx gx h1,Cz dy gy h2]
   exact h3
  ·exact IA (fun f hf=>hl f (Zu _ hf)) h dx dy gx gy
theorem W0{F:Fct}(hF:FctOk τ F):∀(n:Nat) {x y:Value},leC F n x y=true->detI x=true->detI y=true->∀{a b:Int},G0 τ x (.int .i64 a)->G0 τ y (.int .i64 b)->a<=b
 |0,x,y,h,dx,dy,a,b,ga,gb=>by
  have e:=Dh h
  subst e
  rw[Cz dx ga gb]
  exact Int.le_refl _
 | n+1,x,y,h,dx,dy,a,b,ga,gb=>by
  unfold leC at h
  rw[Zag]at h
  rcases h with h |h
  ·have e:=Dh h
   subst e
   rw[Cz dx ga gb]
   exact Int.le_refl _
  obtain⟨f,hf,h⟩:=List.any_eq_true.1 h
  split at h
  ·obtain⟨c,e,h1,h2,h3⟩:=hF _ hf
   have h3:=of_decide_eq_true (show decide (c<e)=true from h3)
   rw[Zo,Zo]at h
   have e1:=Dh h.1.1
   subst e1
   rw[Cz dx ga h1]
   have:=W0 hF n h.2 h.1.2 dy h2 gb
   omega
  ·obtain⟨c,e,h1,h2,h3⟩:=hF _ hf
   have h3:=of_decide_eq_false (show decide (c<e)=false from h3)
   rw[Zo,Zo]at h
   have e1:=Dh h.1.1
   subst e1
   rw[Cz dx ga h2]
   have:=W0 hF n h.2 h.1.2 dy h1 gb
   omega
  ·cases h
theorem NJ{F:Fct}(hF:FctOk τ F):∀(n:Nat) {x y:Value},ltC F n x y=true->detI x=true->detI y=true->∀{a b:Int},G0 τ x (.int .i64 a)->G0 τ y (.int .i64 b)->a<b
 |0,_,_,h,_,_,_,_,_,_=>by cases h
 | n+1,x,y,h,dx,dy,a,b,ga,gb=>by
  unfold ltC at h
  obtain⟨f,hf,h⟩:=List.any_eq_true.1 h
  split at h
  ·obtain⟨c,e,h1,h2,h3⟩:=hF _ hf
   have h3:=of_decide_eq_true (show decide (c<e)=true from h3)
   rw[Zo,Zo]at h
   have e1:=Dh h.1.1
   subst e1
   rw[Cz dx ga h1]
   have:=W0 hF n h.2 h.1.2 dy h2 gb
   omega
  ·obtain⟨c,e,h1,h2,h3⟩:=hF _ hf
   have h3:=of_decide_eq_false (show decide (c<e)=false from h3)
   rw[Zo,Zo]at h
   have e1:=Dh h.1.1
   subst e1
   rw[Cz dx ga h2]
   have:=NJ hF n h.2 h.1.2 dy h1 gb
   omega
  ·cases h
theorem NK{l:Fct}(hl:FctOk τ l){c:Nat}{x y:Value}{r:Bool}(h:d8 l c x y=some r)(dx:detI x=true)(dy:detI y=true){a b:Int}(ga:G0 τ x (.int .i64 a))(gb:G0 τ y (.int .i64 b)):Lh c a b=r:=by
 unfold d8 at h
 split at h
 ·rename_i hb
  cases h
  exact IA hl hb dx dy ga gb
 ·split at h
  ·split at h
   ·rename_i e
    cases h
    have e:=Dh e
    subst e
    rw[Cz dx ga gb]
    exact decide_eq_true rfl
   ·split at h
    ·rename_i e
     cases h
     rw[Zag]at e
     refine decide_eq_false fun k=>?_
     rcases e with e |e
     ·have:=NJ hl 4 e dx dy ga gb
      omega
     ·have:=NJ hl 4 e dy dx gb ga
      omega
    ·cases h
  ·split at h
   ·rename_i e
    cases h
    rw[Zag]at e
    refine decide_eq_false fun k=>?_
    rcases e with e |e
    ·have e:=Dh e
     subst e
     have:=Cz dx ga gb
     omega
    ·have:=NJ hl 4 e dy dx gb ga
     omega
   ·split at h
    ·rename_i e
     cases h
     exact decide_eq_true (NJ hl 4 e dx dy ga gb)
    ·cases h
  ·cases h
theorem Ajc{l:Fct}(hl:FctOk τ l){op:BinOp}(hop:Qj op=true){x y:Value}{r:Bool}(h:d9 l op x y=some r)(dx:detI x=true)(dy:detI y=true){a b:Int}(ga:G0 τ x (.int .i64 a))(gb:G0 τ y (.int .i64 b)):Lh (Ado op) a b=r:=by
 rw[Asu op hop]
 unfold d9 at h
 generalize cmpN op=z at *
 obtain⟨c,sw,ng⟩:=z
 dsimp only at h ⊢
 split at h
 ·rename_i b' hb
  cases h
  cases sw with
  |false=>exact congrArg (xor ng) (NK hl hb dx dy ga gb)
  |true=>exact congrArg (xor ng) (NK hl hb dy dx gb ga)
 ·cases h
def JY(t:Value):Option (List Value):=
 match t with
 | .int .i64 n=>some [.int .i64 n]
 | .tuple ⟨[.float .f64 i]⟩=>some [.float .f64 i]
 | .tuple ⟨[.agg ⟨l⟩]⟩=>some l
 |_=>none
theorem Ajd:∀(l':List Value) (s r st:List Int) (m':List Value),ME τ s l'=some r->ME τ (s++st) (l'++m')=ME τ (r++st) m'
 |[],s,r,st,m',h=>by
  cases h
  rfl
 | a ::l',s,r,st,m',h=>by
  have ih:=fun s h=>Ajd l' s r st m' h
  unfold ME at h
  split at h
  ·rename_i e
   cases e
  ·rename_i e
   cases e
   exact ih _ h
  ·rename_i e
   cases e
   split at h
   ·rename_i x hx
    show(match τ[_]? with
     |some x=>ME τ (x::(_++st)) (l'++m')
     |none=>none)=_
    rw[hx]
    exact ih _ h
   ·cases h
  ·rename_i e
   cases e
   split at h
   ·rename_i x hx
    show(match opE _ _ _ with
     |some r=>ME τ (r::(_++st)) (l'++m')
     |none=>none)=_
    rw[hx]
    exact ih _ h
   ·cases h
  ·cases h
theorem JZ{t:Value}{l:List Value}(h:JY t=some l){a:Int}(g:G0 τ t (.int .i64 a))(st:List Int)(m:List Value):ME τ st (l++m)=ME τ (a::st) m:=by
 unfold JY at h
 split at h
 ·cases h
  have:=g.1
  cases this
  rfl
 ·cases h
  obtain⟨x,e,k⟩:=g
  cases k
  show(match τ[_]? with
   |some x=>ME τ (x::st) m
   |none=>none)=_
  rw[e]
 ·cases h
  obtain⟨x,e,k⟩:=g
  cases k
  unfold evX at e
  dsimp only at e
  split at e
  ·rename_i y hy
   cases e
   exact Ajd _ [] [_] st m hy
  ·cases e
 ·cases h
def opC:BinOp->Option Nat
 | .add=>some 0
 | .sub=>some 1
 | .mul=>some 2
 | .quo=>some 3
 | .rem=>some 4
 |_=>none
def opX(op:BinOp)(x y:Value):Option Value:=
 match JY x,JY y,opC op with
 |some l,some m,some c=>some (xp (l++m++[.float .f32 c]))
 |_,_,_=>none
def orU(k:IntKind)(t:Option Value):Value:=
 match t with
 |some t=>t
 |none=>unk k
theorem Lj{t:Value}{l:List Value}(h:JY t=some l):detI t=true:=by
 unfold JY at h
 unfold detI
 split at h
 ·rfl
 ·rfl
 ·rfl
 ·cases h
theorem AB8{op:BinOp}{x y r:Value}{t:TypeId}(h:opX op x y=some r){k k':IntKind}{a b z:Int}(gx:G0 τ x (.int k a))(gy:G0 τ y (.int k' b))(hz:qrun P (binOp op t (.int k a) (.int k' b))=some (.int k z)):G0 τ r (.int k z):=by
 unfold opX at h
 split at h
 ·rename_i l m c hl hm hc
  cases h
  obtain⟨a',e,_⟩:=B9 (Lj hl) gx.g2
  cases e
  obtain⟨b',e,_⟩:=B9 (Lj hm) gy.g2
  cases e
  have he:evX τ (xp (l++m++[.float .f32 c]))=(match opE c a b with
      |some r=>some r
      |none=>none):=by
   show(match ME τ [] (l++m++[.float .f32 c])with
    |some [x]=>some x
    |_=>none)=_
   rw[List.append_assoc,JZ hl gx,JZ hm gy]
   show(match (match opE c a b with
    |some r=>ME τ [r] []
    |none=>none)with
    |some [x]=>some x
    |_=>none)=_
   cases opE c a b<;>rfl
  refine⟨z,?_,rfl⟩
  rw[he]
  cases op<;>simp only[opC]at hc<;>cases hc
  ·have hz:some (Value.int .i64 (IntKind.i64.wrap (a+b)))=some (.int .i64 z):=hz
   cases hz
   rfl
  ·have hz:some (Value.int .i64 (IntKind.i64.wrap (a-b)))=some (.int .i64 z):=hz
   cases hz
   rfl
  ·have hz:some (Value.int .i64 (IntKind.i64.wrap (a*b)))=some (.int .i64 z):=hz
   cases hz
   rfl
  ·have hz:qrun P (Op.intDiv .quo .i64 a b)=some (.int .i64 z):=hz
   unfold Op.intDiv at hz
   split at hz
   ·cases hz
   ·rename_i hb
    have hz:some (Value.int .i64 (IntKind.i64.wrap (Int.tdiv a b)))=some (.int .i64 z):=hz
    cases hz
    show(match (if b=0 then none else some (IntKind.i64.wrap (Int.tdiv a b)))with
     |some r=>some r
     |none=>none)=_
    rw[if_neg hb]
  ·have hz:qrun P (Op.intDiv .rem .i64 a b)=some (.int .i64 z):=hz
   unfold Op.intDiv at hz
   split at hz
   ·cases hz
   ·rename_i hb
    have hz:some (Value.int .i64 (Int.tmod a b))=some (.int .i64 z):=hz
    cases hz
    show(match (if b=0 then none else some (Int.tmod a b))with
     |some r=>some r
     |none=>none)=_
    rw[if_neg hb]
 ·cases h
theorem W2{op:BinOp}{x y:Value}{t:TypeId}{k k':IntKind}{a b z:Int}(gx:G0 τ x (.int k a))(gy:G0 τ y (.int k' b))(hz:qrun P (binOp op t (.int k a) (.int k' b))=some (.int k z)):G2 τ (orU k (opX op x y)) (.int k z):=by
 unfold orU
 split
 ·rename_i r hr
  exact(AB8 hr gx gy hz).g2
 ·exact .unk
theorem Uv{t v:Value}{k:IntKind}(h:Ds t=some k)(g:G2 τ t v):G0 τ t v:=by
 unfold Ds at h
 split at h
 ·exact g
 ·exact g
 ·exact g
 ·exact g
 ·cases h
def Asv(P:Program)(F:Fct)(op:BinOp)(t:TypeId)(x y:Value):Option Value:=
 match Ds x,Ds y with
 | some k,some k'=>
  if Azr op then(if k=k' then some (orU k (opX op x y))else none)
  else if Qj op then(if k=k' then(match detI x&&detI y,d9 F op x y with
   |true,some b=>some (.bool b)
   |_,_=>some unkB)else none)
  else match y with
   | .int _ n=>(match op with
    | .shl=>if 0<=n then some (unk k)else none
    | .shr=>if 0<=n then some (unk k)else none
    | .quo=>if k=k'/\n≠0 then some (orU k (opX op x y))else none
    | .rem=>if k=k'/\n≠0 then some (orU k (opX op x y))else none
    |_=>none)
   |_=>none
 | _,_=>if DD x&&DD y&&d7 P t then(match op with
     | .eql=>some unkB
     | .neq=>some unkB
     |_=>none)else none
theorem NL(op:BinOp)(t:TypeId)(x y:Operand)(k k':IntKind)(a b:Int):qrun P (eqGuard op t x y (.int k a) (.int k' b))=some ():=by
 cases op<;>rfl
theorem Mj(op:BinOp)(t:TypeId)(x y:Operand)(a b:Bool):qrun P (eqGuard op t x y (.bool a) (.bool b))=some ():=by
 cases op<;>rfl
theorem Adp(op:BinOp)(h:Azr op=true)(t:TypeId)(k:IntKind)(a b:Int):∃z,qrun P (binOp op t (.int k a) (.int k b))=some (.int k z):=by
 cases op<;>first |(cases k<;>exact⟨_,rfl⟩)|(cases h;done)
theorem e9(op:BinOp)(h:Qj op=true)(t:TypeId)(k:IntKind)(a b:Int):qrun P (binOp op t (.int k a) (.int k b))=some (.bool (Lh (Ado op) a b)):=by
 cases op<;>first |(cases k<;>rfl)|(cases h;done)
theorem Qk(op:BinOp)(h:op=.shl∨op=.shr)(t:TypeId)(k k':IntKind)(a b:Int)(hb:0<=b):∃z,qrun P (binOp op t (.int k a) (.int k' b))=some (.int k z):=by
 rcases h with rfl |rfl
 ·show ∃z,qrun P (Op.shift .shl k a k' b)=some (.int k z)
  unfold Op.shift
  rw[if_neg (by omega)]
  exact⟨_,rfl⟩
 ·show ∃z,qrun P (Op.shift .shr k a k' b)=some (.int k z)
  unfold Op.shift
  rw[if_neg (by omega)]
  exact⟨_,rfl⟩
theorem g4(op:BinOp)(h:op=.quo∨op=.rem)(t:TypeId)(k:IntKind)(a b:Int)(hb:b≠0):∃z,qrun P (binOp op t (.int k a) (.int k b))=some (.int k z):=by
 have e:binOp op t (.int k a) (.int k b)=Op.intDiv op k a b:=by rcases h with rfl |rfl<;>cases k<;>rfl
 rw[e]
 unfold Op.intDiv
 rw[if_neg hb]
 rcases h with rfl |rfl
 ·exact⟨_,rfl⟩
 ·exact⟨_,rfl⟩
theorem MR{t:TypeId}{d:TypeDesc}(h:P.underlying t=some d):qrun P (underlying t)=some d:=by
 unfold underlying
 rw[Ay]
 show qrun P (match P.underlying t with
  |some d=>pure d
  |none=>_)=_
 rw[h]
 rfl
theorem Uw(op:BinOp)(h:op=.eql∨op=.neq)(t:TypeId)(ht:P.underlying t=some .bool)(a b:Bool):∃z,qrun P (binOp op t (.bool a) (.bool b))=some (.bool z):=by
 have e:qrun P (Op.equal t (.bool a) (.bool b))=some (a==b):=by
  show qrun P (Op.equalIn (9999+1) t (.bool a) (.bool b))=some (a==b)
  rw[Op.equalIn,Ay]
  have hu:qrun P (underlying t)=some .bool:=MR ht
  rw[hu]
  rfl
 rcases h with rfl |rfl
 ·refine⟨a==b,?_⟩
  show qrun P (Op.equal t (.bool a) (.bool b) >>= fun z=>pure (Value.bool z))=_
  rw[Ay,e]
  rfl
 ·refine⟨!(a==b),?_⟩
  show qrun P (Op.equal t (.bool a) (.bool b) >>= fun z=>pure (Value.bool !z))=_
  rw[Ay,e]
  rfl
theorem J4{o:Oper}{op:BinOp}{t t':TypeId}{x y:Operand}(hop:o.op=.binOp op t x y t'){ρ:Operand->Value}{v:Value}(hg:qrun P (eqGuard op t x y (ρ x) (ρ y))=some ())(hb:qrun P (binOp op t (ρ x) (ρ y))=some v):qrun P (execOp ρ o)=some (.value v):=by
 have e:execOp ρ o=(do let z <-(do eqGuard op t x y (ρ x) (ρ y);binOp op t (ρ x) (ρ y));pure (.value z)):=by simp only[execOp,hop]
 rw[e,Ay,Ay,hg]
 show(Option.bind (qrun P (binOp op t (ρ x) (ρ y))) _)=_
 rw[hb]
 rfl
theorem Asw{F:Fct}(hF:FctOk τ F){o:Oper}{op:BinOp}{t t':TypeId}{x y:Operand}(hop:o.op=.binOp op t x y t'){at' vt:List Value}{r:Value}(h:Asv P F op t (VE at' x) (VE at' y)=some r)(gx:G2 τ (VE at' x) (VE vt x))(gy:G2 τ (VE at' y) (VE vt y)):
    MC P op t (VE vt x) (VE vt y)=none/\∃v,Bc P o (VE vt)=some v/\G2 τ r v:=by
 have ops:∀z∈o.op.operands,z=x∨z=y:=fun z hz=>by simpa [hop,Op.operands]using hz
 unfold Asv at h
 split at h
 ·rename_i k k' hk hk'
  obtain⟨a,ea⟩:=DF hk gx
  obtain⟨b,eb⟩:=DF hk' gy
  have gx0:=Uv hk gx
  have gy0:=Uv hk' gy
  rw[ea]at gx0
  rw[eb]at gy0
  have hn:MC P op t (VE vt x) (VE vt y)=none:=by rw[ea];rfl
  have hp:∀z∈o.op.operands,isP (VE vt z)=false:=fun z hz=>by
   rcases ops z hz with rfl |rfl
   ·rw[ea];rfl
   ·rw[eb];rfl
  have fin:∀v,qrun P (binOp op t (.int k a) (.int k' b))=some v->isP v=false->G2 τ r v->MC P op t (VE vt x) (VE vt y)=none/\∃v,Bc P o (VE vt)=some v/\G2 τ r v:=fun v hv h1 h2=>
   ⟨hn,v,Cc hp (J4 hop (by rw[ea,eb];exact NL ..) (by rw[ea,eb];exact hv)) h1,h2⟩
  split at h
  ·rename_i hi
   split at h
   ·rename_i hkk
    subst hkk
    cases h
    obtain⟨z,hz⟩:=Adp (P:=P) op hi t k a b
    exact fin _ hz rfl (W2 gx0 gy0 hz)
   ·cases h
  ·split at h
   ·rename_i hi
    split at h
    ·rename_i hkk
     subst hkk
     have hz:=e9 (P:=P) op hi t k a b
     split at h
     ·rename_i r' hd hf
      cases h
      rw[Zo]at hd
      obtain⟨a',ea',ga⟩:=B9 hd.1 gx
      obtain⟨b',eb',gb⟩:=B9 hd.2 gy
      rw[ea]at ea'
      rw[eb]at eb'
      cases ea'
      cases eb'
      rw[Ajc hF hi hf hd.1 hd.2 ga gb]at hz
      exact fin _ hz rfl ⟨rfl,rfl⟩
     ·cases h
      exact fin _ hz rfl .unkB
    ·cases h
   ·split at h
    ·rename_i n hy
     have e2:=gy
     rw[hy]at e2
     have e2:=e2.int
     rw[eb]at e2
     cases e2
     split at h
     ·split at h
      ·rename_i hn0
       cases h
       obtain⟨z,hz⟩:=Qk (P:=P) .shl (.inl rfl) t k k' a b hn0
       exact fin _ hz rfl .unk
      ·cases h
     ·split at h
      ·rename_i hn0
       cases h
       obtain⟨z,hz⟩:=Qk (P:=P) .shr (.inr rfl) t k k' a b hn0
       exact fin _ hz rfl .unk
      ·cases h
     ·split at h
      ·rename_i hn0
       obtain⟨rfl,hn0⟩:=hn0
       cases h
       obtain⟨z,hz⟩:=g4 (P:=P) .quo (.inl rfl) t k a b hn0
       exact fin _ hz rfl (W2 gx0 gy0 hz)
      ·cases h
     ·split at h
      ·rename_i hn0
       obtain⟨rfl,hn0⟩:=hn0
       cases h
       obtain⟨z,hz⟩:=g4 (P:=P) .rem (.inr rfl) t k a b hn0
       exact fin _ hz rfl (W2 gx0 gy0 hz)
      ·cases h
     ·cases h
    ·cases h
 ·split at h
  ·rename_i hb
   simp only[Zo]at hb
   obtain⟨a,ea⟩:=El hb.1.1 gx
   obtain⟨b,eb⟩:=El hb.1.2 gy
   have ht:P.underlying t=some .bool:=by
    have:=hb.2
    unfold d7 at this
    split at this
    ·assumption
    ·cases this
   have hn:MC P op t (VE vt x) (VE vt y)=none:=by rw[ea];rfl
   have hp:∀z∈o.op.operands,isP (VE vt z)=false:=fun z hz=>by
    rcases ops z hz with rfl |rfl
    ·rw[ea];rfl
    ·rw[eb];rfl
   split at h
   ·cases h
    obtain⟨z,hz⟩:=Uw (P:=P) .eql (.inl rfl) t ht a b
    exact⟨hn,_,Cc hp (J4 hop (by rw[ea,eb];exact Mj ..) (by rw[ea,eb];exact hz)) rfl,.unkB⟩
   ·cases h
    obtain⟨z,hz⟩:=Uw (P:=P) .neq (.inr rfl) t ht a b
    exact⟨hn,_,Cc hp (J4 hop (by rw[ea,eb];exact Mj ..) (by rw[ea,eb];exact hz)) rfl,.unkB⟩
   ·cases h
  ·cases h
def aUn(op:UnOp)(x:Value):Option Value:=
 match op with
 | .neg=>(match JY x with
  |some l=>some (xp (.int .i64 0::(l++[.float .f32 1])))
  |none=>(Ds x).map unk)
 | .xor=>(Ds x).map unk
 | .not=>if DD x then some unkB else none
 | .plus=>none
theorem AB9{o:Oper}{op:UnOp}{t:TypeId}{x:Operand}(hop:o.op=.unOp op t x){at' vt:List Value}{r:Value}(h:aUn op (VE at' x)=some r)(gx:G2 τ (VE at' x) (VE vt x)):∃v,Bc P o (VE vt)=some v/\G2 τ r v:=by
 have ops:∀z∈o.op.operands,z=x:=fun z hz=>by simpa [hop,Op.operands]using hz
 have fin:∀u v,VE vt x=u->isP u=false->qrun P (Op.unary op u)=some v->isP v=false->G2 τ r v->∃v,Bc P o (VE vt)=some v/\G2 τ r v:=fun u v hu h0 hv h1 h2=>
  ⟨v,Cc (fun z hz=>by rw[ops z hz,hu];exact h0) (by
   have e:execOp (VE vt) o=(do let z <-Op.unary op (VE vt x);pure (.value z)):=by simp only[execOp,hop]
   rw[e,Ay,hu,hv]
   rfl) h1,h2⟩
 unfold aUn at h
 split at h
 ·split at h
  ·rename_i l hl
   cases h
   obtain⟨a,ea,g0⟩:=B9 (Lj hl) gx
   refine fin _ _ ea rfl rfl rfl (G0.g2 ⟨Adn a,?_,rfl⟩)
   show(match ME τ [0] (l++[.float .f32 1])with
    |some [x]=>some x
    |_=>none)=_
   rw[JZ hl g0]
   rfl
  ·obtain⟨k,hk,rfl⟩:=Option.map_eq_some_iff.1 h
   obtain⟨a,ea⟩:=DF hk gx
   exact fin _ _ ea rfl rfl rfl .unk
 ·obtain⟨k,hk,rfl⟩:=Option.map_eq_some_iff.1 h
  obtain⟨a,ea⟩:=DF hk gx
  exact fin _ _ ea rfl rfl rfl .unk
 ·split at h
  ·rename_i hb
   cases h
   obtain⟨a,ea⟩:=El hb gx
   exact fin _ _ ea rfl rfl rfl .unkB
  ·cases h
 ·cases h
def Asx(P:Program)(t:TypeId):Option IntKind:=
 match P.underlying t with
 |some (.int k)=>some k
 |_=>none
def g5(P:Program)(s d:TypeId)(x:Value):Option Value:=
 match Ds x,Asx P s,Asx P d with
 |some _,some _,some k=>some (unk k)
 |_,_,_=>none
theorem Aje{t:TypeId}{k:IntKind}(h:Asx P t=some k):qrun P (underlying t)=some (.int k):=by
 unfold Asx at h
 split at h
 ·rename_i k' hu
  cases h
  exact MR hu
 ·cases h
theorem Ajf{o:Oper}{s d:TypeId}{x:Operand}(hop:o.op=.convert s d x){at' vt:List Value}{r:Value}(h:g5 P s d (VE at' x)=some r)(gx:G2 τ (VE at' x) (VE vt x)):∃v,Bc P o (VE vt)=some v/\G2 τ r v:=by
 have ops:∀z∈o.op.operands,z=x:=fun z hz=>by simpa [hop,Op.operands]using hz
 unfold g5 at h
 split at h
 ·rename_i k1 k2 k hk hs hd
  cases h
  obtain⟨a,ea⟩:=DF hk gx
  refine⟨.int k (k.wrap a),Cc (fun z hz=>by rw[ops z hz,ea];rfl) ?_ rfl,.unk⟩
  have e:execOp (VE vt) o=(do let z <-convert s d (VE vt x);pure (.value z)):=by simp only[execOp,hop]
  have e2:qrun P (convert s d (.int k1 a))=some (.int k (k.wrap a)):=by
   unfold convert
   rw[Ay,Aje hs]
   show qrun P (underlying d >>= _)=_
   rw[Ay,Aje hd]
   rfl
  rw[e,Ay,ea,e2]
  rfl
 ·cases h
theorem W3(t:TypeId)(cs:Array Value)(off:Nat):qrun P (part t cs off)=(qrun P (isAgg t)).bind fun b=>if b then(qrun P (sizeOf t)).map fun n=>.agg (cs.extract off (off+n))else cs[off]? :=by
 unfold part
 rw[Ay]
 congr 1
 funext b
 cases b with
 |true=>
  simp only[if_true,Ay]
  cases qrun P (sizeOf t)<;>rfl
 |false=>
  simp only[Bool.false_eq_true,if_false]
  cases h:cs[off]? <;>rfl
theorem Ux{t:TypeId}{cs:Array Value}{off:Nat}{r:Value}(h:qrun P (part t cs off)=some r){l:List Value}(g:Aj (G0 τ) cs.toList l):∃v,qrun P (part t ⟨l⟩ off)=some v/\G1 τ r v:=by
 rw[W3]at h
 simp only[W3]
 cases h1:qrun P (isAgg t)with
 |none=>rw[h1]at h;cases h
 | some b=>
  rw[h1]at h
  cases b with
  | true=>
   simp only[Zy,if_true]at h ⊢
   cases h2:qrun P (sizeOf t)with
   |none=>rw[h2]at h;cases h
   |some n=>
    rw[h2]at h
    cases h
    refine⟨_,rfl,⟨(Array.extract ⟨l⟩ off (off+n)).toList,rfl,?_⟩⟩
    have:=(g.drop off).take n
    simpa [List.extract_eq_take_drop]using this
  |false=>
   simp only[Zy,Bool.false_eq_true,if_false]at h ⊢
   obtain⟨v,hv,gv⟩:=g.get off r (by simpa using h)
   exact⟨v,by simpa using hv,gv.g1⟩
end
section
variable {P:Program} {τ:List Int}
theorem Hp{S:Sem Value}{v:Value}:qrun P (S >>= fun z=>pure (Next.value z))=some (Next.value v)↔qrun P S=some v:=by
 rw[Ay]
 cases h:qrun P S with
 |none=>simp
 | some u=>
  show some (Next.value u)=some (Next.value v)↔some u=some v
  constructor
  ·intro e
   cases e
   rfl
  ·intro e
   cases e
   rfl
theorem J5{o:Oper}{at' vt:List Value}{S S':Sem Value}{r:Value}(hS:execOp (VE at') o=S >>= fun z=>pure (Next.value z))(hS':execOp (VE vt) o=S' >>= fun z=>pure (Next.value z))
    (h:Bc P o (VE at')=some r) (hg:∀x∈o.op.operands,G2 τ (VE at' x) (VE vt x)) (hn:qrun P S=some r->∃v,qrun P S'=some v/\G2 τ r v):∃v,Bc P o (VE vt)=some v/\G2 τ r v:=by
 obtain⟨hp,hq,hr⟩:=Ajb h
 rw[hS,Hp]at hq
 obtain⟨v,hv,g⟩:=hn hq
 exact⟨v,Cc (fun x hx=>by rw[(hg x hx).isP];exact hp x hx) (by rw[hS',Hp];exact hv) (by rw[g.isP];exact hr),g⟩
theorem Asy{x:Value}{cs:Array Value}(h:qrun P (asAgg x)=some cs):x=.agg cs:=by
 unfold asAgg at h
 split at h
 ·cases h;rfl
 ·cases h
theorem Adq{t:TypeId}{x v r:Value}{f:Nat}(h:qrun P (Instr.field t x f)=some r)(g:G2 τ x v):∃u,qrun P (Instr.field t v f)=some u/\G2 τ r u:=by
 unfold Instr.field at h ⊢
 rw[Ay]at h ⊢
 cases hu:qrun P (underlying t)with
 |none=>rw[hu]at h;cases h
 | some d=>
  rw[hu]at h
  simp only[Zy]at h ⊢
  split at h
  ·split at h
   ·rw[Ay]at h ⊢
    cases hx:qrun P (asAgg x)with
    |none=>rw[hx]at h;cases h
    |some cs=>
     rw[hx]at h
     obtain rfl:=Asy hx
     obtain⟨l,rfl,gl⟩:=g.agg
     obtain⟨u,hu,gu⟩:=Ux h gl
     exact⟨u,hu,gu.g2⟩
   ·cases h
  ·cases h
theorem Ajg{α:Type}(k:IntKind)(i:Int)(n:Nat)(c:BoundsCode):qrun P (boundsPanic (α:=α) k i n c)=none:=by
 unfold boundsPanic
 dsimp only
 split<;>rfl
theorem Adr{t:TypeId}{x v r:Value}{k:IntKind}{i:Int}(h:qrun P (Instr.index t x (.int k i))=some r)(hx:∃cs,x=.agg cs)(g:G2 τ x v):∃u,qrun P (Instr.index t v (.int k i))=some u/\G2 τ r u:=by
 obtain⟨cs,rfl⟩:=hx
 obtain⟨l,rfl,gl⟩:=g.agg
 unfold Instr.index at h ⊢
 rw[Ay]at h ⊢
 change (Option.bind (some (k,i)) _)=_ at h
 change ∃u,(Option.bind (some (k,i)) _)=_/\_
 simp only[Zy]at h ⊢
 rw[Ay]at h ⊢
 cases hu:qrun P (underlying t)with
 |none=>rw[hu]at h;cases h
 | some d=>
  rw[hu]at h
  simp only[Zy]at h ⊢
  split at h
  ·rename_i vv len elem cs' e2
   cases e2
   split at h
   ·rename_i hi
    rw[if_pos hi]
    rw[Ay]at h ⊢
    cases hs:qrun P (sizeOf elem)with
    |none=>rw[hs]at h;cases h
    |some n=>
     rw[hs]at h
     obtain⟨u,hu,gu⟩:=Ux h gl
     exact⟨u,hu,gu.g2⟩
   ·rw[Ajg]at h
    cases h
  ·rename_i e
   cases e
  ·cases h
theorem Uy{a b:Value}{rs:List Value}{v r:Value}{i:Nat}(h:qrun P (Instr.extract (.tuple ⟨a::b::rs⟩) i)=some r)(g:G2 τ (.tuple ⟨a::b::rs⟩) v):∃u,qrun P (Instr.extract v i)=some u/\G2 τ r u:=by
 obtain⟨l,rfl,gl⟩:=g
 unfold Instr.extract at h ⊢
 dsimp only at h ⊢
 split at h
 ·rename_i w hw
  cases h
  obtain⟨u,hu,gu⟩:=gl.get i r (by simpa using hw)
  refine⟨u,?_,gu.g2⟩
  have:(⟨l⟩:Array Value)[i]? =some u:=by simpa using hu
  rw[this]
  rfl
 ·cases h
def Ce:Value->Bool
 | .tuple ⟨_::_::_⟩=>false
 |_=>true
theorem Ll{t v:Value}(g:G2 τ t v)(hm:Ce t=true):Aj (G0 τ) t.cells.toList v.cells.toList:=by
 unfold G2 at g
 split at g
 ·cases hm
 ·unfold G1 at g
  split at g
  ·obtain⟨l,rfl,gl⟩:=g
   exact gl
  ·rename_i hn
   have h1:t.cells=#[t]:=by
    unfold Value.cells
    split
    ·exact absurd rfl (hn _)
    ·rfl
   have h2:v.cells=#[v]:=by
    unfold G0 at g
    split at g
    ·obtain⟨x,rfl⟩:=g;rfl
    ·obtain⟨x,rfl⟩:=g;rfl
    ·obtain⟨x,_,rfl⟩:=g;rfl
    ·obtain⟨x,_,rfl⟩:=g;rfl
    ·rw[g.1];exact h1
   rw[h1,h2]
   exact⟨g,trivial⟩
theorem Uz(off:Nat):∀(l l':List Value),Aj (G0 τ) l l'->∀(n:Nat) (cs cs':Array Value),Aj (G0 τ) cs.toList cs'.toList->
    Aj (G0 τ) ((l.zipIdx n).foldl (fun cs (x:Value×Nat)=>cs.setIfInBounds (off+x.2) x.1) cs).toList ((l'.zipIdx n).foldl (fun cs (x:Value×Nat)=>cs.setIfInBounds (off+x.2) x.1) cs').toList
 |[],[],_,_,_,_,h=>h
 |a::l,b::l',g,n,cs,cs',h=>by
  simp only[List.zipIdx_cons,List.foldl_cons]
  exact Uz off l l' g.2 (n+1) _ _ (by simpa using h.set (off+n) a b g.1)
 |[],_::_,g,_,_,_,_=>g.elim
 |_::_,[],g,_,_,_,_=>g.elim
theorem NM(place:Nat->Option (Nat×Nat)):∀(ps ps':List (Nat×Value)),Aj (fun p q:Nat×Value=>p.1=q.1/\Aj (G0 τ) p.2.cells.toList q.2.cells.toList) ps ps'->∀(cs cs':Array Value) (r:Array Value),Aj (G0 τ) cs.toList cs'.toList->
    Instr.fill place cs ps=some r->∃r',Instr.fill place cs' ps'=some r'/\Aj (G0 τ) r.toList r'.toList
 |[],[],_,cs,cs',r,g,h=>by
  simp only[Instr.fill,Option.some.injEq]at h
  subst h
  exact⟨cs',rfl,g⟩
 | (i,v)::ps,(j,u)::ps',gp,cs,cs',r,g,h=>by
  obtain⟨⟨rfl,gv⟩,gp⟩:=gp
  have hl:=gv.len
  have hc:=g.len
  simp only[Array.length_toList]at hl hc
  unfold Instr.fill at h ⊢
  dsimp only at h ⊢
  split at h
  ·cases h
  ·rename_i off size hp
   split at h
   ·cases h
   ·rename_i hcond
    rw[<-hl,<-hc,if_neg hcond]
    refine NM place ps ps' gp _ _ r ?_ h
    have:=Uz off _ _ gv 0 cs cs' g
    rw[<-Array.foldl_toList,<-Array.foldl_toList,Array.toList_zipIdx,Array.toList_zipIdx]
    exact this
 |[],_::_,g,_,_,_,_,_=>g.elim
 |_::_,[],g,_,_,_,_,_=>g.elim
def RQ(P:Program)(t:TypeId):Bool:=
 match qrun P (zeroValue t)with
 |some z=>z.cells.toList.all I0
 |none=>false
theorem Ads{t:TypeId}{ps ps':Array (Nat×Value)}{r:Value}(hz:RQ P t=true)(h:qrun P (Instr.build t ps)=some r)(g:Aj (fun p q:Nat×Value=>p.1=q.1/\Aj (G0 τ) p.2.cells.toList q.2.cells.toList) ps.toList ps'.toList):
    ∃u,qrun P (Instr.build t ps')=some u/\G2 τ r u:=by
 unfold RQ at hz
 unfold Instr.build at h ⊢
 rw[Ay]at h ⊢
 cases h0:qrun P (zeroValue t)with
 |none=>rw[h0]at h;cases h
 | some z=>
  rw[h0]at h hz
  dsimp only at hz
  have gz:Aj (G0 τ) z.cells.toList z.cells.toList:=Aj.refl _ (fun a ha=>Gq (Zx.1 hz a ha))
  simp only[Zy]at h ⊢
  rw[Ay]at h ⊢
  cases hu:qrun P (underlying t)with
  |none=>rw[hu]at h;cases h
  | some d=>
   rw[hu]at h
   simp only[Zy]at h ⊢
   split at h
   ·rw[Ay]at h ⊢
    generalize qrun P _=pl at h ⊢
    cases pl with
    |none=>cases h
    | some places=>
     simp only[Zy]at h ⊢
     split at h
     ·rename_i cells hf
      cases h
      obtain⟨r',hr',gr⟩:=NM (τ:=τ) _ _ _ g _ _ _ gz hf
      rw[hr']
      exact⟨.agg r',rfl,⟨r'.toList,rfl,gr⟩⟩
     ·cases h
   ·rw[Ay]at h ⊢
    generalize qrun P _=pl at h ⊢
    cases pl with
    |none=>cases h
    | some size=>
     simp only[Zy]at h ⊢
     split at h
     ·rename_i cells hf
      cases h
      obtain⟨r',hr',gr⟩:=NM (τ:=τ) _ _ _ g _ _ _ gz hf
      rw[hr']
      exact⟨.agg r',rfl,⟨r'.toList,rfl,gr⟩⟩
     ·cases h
   ·cases h
theorem Ql{t:TypeId}{l l':List Value}{off:Nat}{r:Value}(h:C3 P t l off=some r)(g:Aj (G0 τ) l l'):∃v,C3 P t l' off=some v/\G2 τ r v:=by
 unfold C3 at h ⊢
 split at h
 ·split at h
  ·rename_i n hn
   split at h
   ·rename_i hl
    cases h
    have:=g.len
    rw[if_pos (by omega)]
    refine⟨_,rfl,⟨_,rfl,?_⟩⟩
    have:=(g.drop off).take n
    simpa using this
   ·cases h
  ·cases h
 ·obtain⟨v,hv,gv⟩:=g.get off r h
  exact⟨v,hv,gv.g2⟩
 ·cases h
def g9(c a b:Value):Option Value:=
 match c with
 | .bool x=>(match x with
  |true=>some a
  |false=>some b)
 | c =>if DD c then(if DD a&&DD b then some unkB else match Ds a,Ds b with
     |some k,some k'=>if k=k' then some (unk k)else none
     |_,_=>none)else none
theorem ACa(a b:Value):Ui (.bool true) a b=some a:=by cases a<;>cases b<;>rfl
theorem ACb(a b:Value):Ui (.bool false) a b=some b:=by cases a<;>cases b<;>rfl
theorem Ajh{c a b vc va vb r:Value}(h:g9 c a b=some r)(gc:G2 τ c vc)(ga:G2 τ a va)(gb:G2 τ b vb):∃v,Ui vc va vb=some v/\G2 τ r v:=by
 unfold g9 at h
 split at h
 ·rename_i x
  obtain rfl:=gc.bool
  cases x with
  |true=>cases h;exact⟨va,ACa va vb,ga⟩
  |false=>cases h;exact⟨vb,ACb va vb,gb⟩
 ·split at h
  ·rename_i hb
   obtain⟨x,rfl⟩:=El hb gc
   split at h
   ·rename_i hab
    rw[Zo]at hab
    obtain⟨p,rfl⟩:=El hab.1 ga
    obtain⟨q,rfl⟩:=El hab.2 gb
    cases h
    exact⟨_,rfl,.unkB⟩
   ·split at h
    ·rename_i k k' hk hk'
     obtain⟨p,rfl⟩:=DF hk ga
     obtain⟨q,rfl⟩:=DF hk' gb
     split at h
     ·rename_i e
      subst e
      cases h
      cases x
      ·exact⟨_,rfl,.unk⟩
      ·exact⟨_,rfl,.unk⟩
     ·cases h
    ·cases h
  ·cases h
end
def Em(r:Option Value):Option Value:=
 match r with
 |some v=>if GT v then some v else none
 |none=>none
def DG(o:Oper)(ρ:Operand->Value):Bool:=o.op.operands.all fun x=>GT (ρ x)
def Asz(b:Builtin)(l:List Value):Option Value:=
 match b,l with
 | .max,x::r=>(match Ds x with
  |some k=>if r.all (fun y=>Ds y==some k)then some (unk k)else none
  |none=>none)
 | .min,x::r=>(match Ds x with
  |some k=>if r.all (fun y=>Ds y==some k)then some (unk k)else none
  |none=>none)
 |_,_=>none
def aq(P:Program)(F:Fct)(cl:Nat->Bool)(id:Nat)(o:Oper)(ρ:Operand->Value)(m:Xm):Option Value:=
 if o.op.operands.all okA then
  match o.op with
  | .move x=>some (ρ x)
  | .assign x=>some (ρ x)
  | .pick c a b=>g9 (ρ c) (ρ a) (ρ b)
  | .load t x=>
   match ρ x with
   | .pointer (some ⟨k,off,none⟩)=>if cl k then(match m[k]? with
    |some l=>(match C3 P t l off with
     |some v=>if isP v then none else some v
     |none=>none)
    |none=>none)else none
   |_=>none
  | .fieldAddr s x f=>
   match ρ x with
   | .pointer (some ⟨k,off,none⟩)=>(match Hi P s f with
    |some d=>some (.pointer (some ⟨k,off+d,none⟩))
    |none=>none)
   |_=>none
  | .indexAddr t x ix=>
   match ρ x with
   | .pointer (some ⟨k,off,none⟩)=>(match Gp P t (ρ ix)with
    |some d=>some (.pointer (some ⟨k,off+d,none⟩))
    |none=>none)
   |_=>none
  | .nilCheck x=>
   match ρ x with
   | .pointer (some a)=>some (.pointer (some a))
   |_=>none
  | .alloc _=>some (.pointer (some ⟨id,0,none⟩))
  | .store _ _ _=>none
  | .box _ _=>none
  | .select _ _=>none
  | .call c=>
   match c.callee with
   | .builtin b=>if DG o ρ then Em (Bc P o ρ)else Asz b (c.args.toList.map ρ)
   |_=>none
  | .binOp op t x y _=>
   match MC P op t (ρ x) (ρ y)with
   |some v=>some v
   |none=>if DG o ρ then Em (Bc P o ρ)else Asv P F op t (ρ x) (ρ y)
  | .unOp op _ x=>if DG o ρ then Em (Bc P o ρ)else aUn op (ρ x)
  | .convert s d x=>if DG o ρ then Em (Bc P o ρ)else g5 P s d (ρ x)
  | .field _ _ _=>Bc P o ρ
  | .index _ x ix=>(match ρ x,ρ ix with
   | .agg _,.int _ _=>Bc P o ρ
   |_,_=>if DG o ρ then Em (Bc P o ρ)else none)
  | .extract x _=>(match ρ x with
   | .tuple ⟨_::_::_⟩=>Bc P o ρ
   |_=>none)
  | .build t ps=>if RQ P t&&ps.toList.all (fun p=>Ce (ρ p.2))then Bc P o ρ else none
  |_=>if DG o ρ then Em (Bc P o ρ)else none
 else none
section
variable {P:Program} {τ:List Int}
theorem Aji{r:Option Value}{v:Value}(h:Em r=some v):r=some v/\GT v=true:=by
 unfold Em at h
 split at h
 ·split at h
  ·cases h
   exact⟨rfl,by assumption⟩
  ·cases h
 ·cases h
theorem Azs(k:IntKind):∀(r:List Value),(∀v∈r,∃x,v=.int k x)->∀a:Int,∃z,qrun P (r.foldlM Builtin.max2 (.int k a))=some (.int k z)
 |[],_,a=>⟨a,rfl⟩
 |v::r,h,a=>by
  obtain⟨x,rfl⟩:=h v Zs
  obtain⟨z,hz⟩:=Azs k r (fun v hv=>h v (Zu _ hv)) (if x>a then x else a)
  exact⟨z,by rw[List.foldlM_cons,Ay];exact hz⟩
theorem Azt(k:IntKind):∀(r:List Value),(∀v∈r,∃x,v=.int k x)->∀a:Int,∃z,qrun P (r.foldlM Builtin.min2 (.int k a))=some (.int k z)
 |[],_,a=>⟨a,rfl⟩
 |v::r,h,a=>by
  obtain⟨x,rfl⟩:=h v Zs
  obtain⟨z,hz⟩:=Azt k r (fun v hv=>h v (Zu _ hv)) (if x<a then x else a)
  exact⟨z,by rw[List.foldlM_cons,Ay];exact hz⟩
theorem Gr{o:Oper}{c:Call}{b:Builtin}(hop:o.op=.call c)(hc:c.callee=.builtin b)(ρ:Operand->Value):execOp ρ o=builtin b c.argTypes o.type (c.args.map fun | .const _=>true |_=>false) (c.args.map ρ):=by
 simp only[execOp,hop,resolve,hc]
 rfl
theorem As0{o:Oper}{c:Call}{b:Builtin}(hop:o.op=.call c)(hc:c.callee=.builtin b){at' vt:List Value}{r:Value}(h:Asz b (c.args.toList.map (VE at'))=some r)(hg:∀x∈o.op.operands,G2 τ (VE at' x) (VE vt x)):∃v,Bc P o (VE vt)=some v/\G2 τ r v:=by
 have hmem:∀x∈c.args.toList,x∈o.op.operands:=fun x hx=>by
  simp only[hop,Op.operands,Call.operands]
  exact Zak _ (by simpa using hx)
 have key:∀(k:IntKind) (x:Operand) (l:List Operand),c.args.toList=x::l->Ds (VE at' x)=some k->(l.map (VE at')).all (fun y=>Ds y==some k)=true->(∃a,VE vt x=.int k a)/\∀v∈l.map (VE vt),∃a,v=.int k a:=by
  intro k x l hl hk hall
  refine⟨DF hk (hg x (hmem x (by rw[hl];exact Zs))),fun v hv=>?_⟩
  obtain⟨y,hy,rfl⟩:=Zad.1 hv
  have h2:=Zx.1 hall (VE at' y) (Zad.2 ⟨y,hy,rfl⟩)
  exact DF (by simpa using h2) (hg y (hmem y (by rw[hl];exact Zu _ hy)))
 have hp:∀(k:IntKind) (x:Operand) (l:List Operand),c.args.toList=x::l->(∃a,VE vt x=.int k a)->(∀v∈l.map (VE vt),∃a,v=.int k a)->∀z∈o.op.operands,isP (VE vt z)=false:=by
  intro k x l hl h1 h2 z hz
  have hz:z∈c.args.toList:=by
   simp only[hop,Op.operands,Call.operands,hc]at hz
   simpa using hz
  rw[hl]at hz
  rcases List.mem_cons.1 hz with rfl |hz
  ·obtain⟨a,e⟩:=h1
   rw[e];rfl
  ·obtain⟨a,e⟩:=h2 _ (Zad.2 ⟨z,hz,rfl⟩)
   rw[e];rfl
 unfold Asz at h
 split at h
 ·rename_i x r' hl
  obtain⟨y,l,hcl,rfl,rfl⟩:=List.map_eq_cons_iff.1 hl
  split at h
  ·rename_i k hk
   split at h
   ·rename_i hall
    cases h
    obtain⟨h1,h2⟩:=key k y l hcl hk hall
    have h0:=hp k y l hcl h1 h2
    obtain⟨a,ea⟩:=h1
    obtain⟨z,hz⟩:=Azs (P:=P) k _ h2 a
    refine⟨.int k z,Cc h0 ?_ rfl,.unk⟩
    rw[Gr hop hc]
    show qrun P (Builtin.max_ _ _ _ >>= fun z=>pure (Next.value z))=_
    rw[Hp]
    unfold Builtin.max_
    rw[Zan,hcl,List.map_cons,ea]
    exact hz
   ·cases h
  ·cases h
 ·rename_i x r' hl
  obtain⟨y,l,hcl,rfl,rfl⟩:=List.map_eq_cons_iff.1 hl
  split at h
  ·rename_i k hk
   split at h
   ·rename_i hall
    cases h
    obtain⟨h1,h2⟩:=key k y l hcl hk hall
    have h0:=hp k y l hcl h1 h2
    obtain⟨a,ea⟩:=h1
    obtain⟨z,hz⟩:=Azt (P:=P) k _ h2 a
    refine⟨.int k z,Cc h0 ?_ rfl,.unk⟩
    rw[Gr hop hc]
    show qrun P (Builtin.min_ _ _ _ >>= fun z=>pure (Next.value z))=_
    rw[Hp]
    unfold Builtin.min_
    rw[Zan,hcl,List.map_cons,ea]
    exact hz
   ·cases h
  ·cases h
 ·cases h
theorem Azu{F0:Fct}(hF0:FctOk τ F0){cl:Nat->Bool}{id:Nat}{o:Oper}{at' vt:List Value}{am m:Xm}{r:Value}(h:aq P F0 cl id o (VE at') am=some r)(F:GF τ at' vt)(M:GM τ am m):∃v,vq P cl id o (VE vt) m=some v/\G2 τ r v:=by
 unfold aq at h
 split at h
 case isFalse=>cases h
 rename_i hok
 have hev:∀x∈o.op.operands,G2 τ (VE at' x) (VE vt x):=fun x hx=>F.ev (Zm.1 hok x hx)
 have hokX:o.op.operands.all P6=true:=Zm.2 (fun x hx=>Ee (Zm.1 hok x hx))
 have hreal:(∀cs b,o.op≠.select cs b)->DG o (VE at')=true->Em (Bc P o (VE at'))=some r->Bc P o (VE vt)=some r/\G2 τ r r:=fun hs ha hr=>by
  obtain⟨h1,h2⟩:=Aji hr
  have agree:∀x∈o.op.operands,VE at' x=VE vt x:=fun x hx=>(JX _ _ (Zm.1 ha x hx) (hev x hx)).symm
  refine⟨?_,AY h2⟩
  rw[<-h1]
  unfold Bc
  have e:o.op.operands.all (fun x=>!isP (VE vt x))=o.op.operands.all (fun x=>!isP (VE at' x)):=by
   rw[Bool.eq_iff_iff,Zm,Zm]
   exact⟨fun h x hx=>by rw[agree x hx];exact h x hx,fun h x hx=>by rw[<-agree x hx];exact h x hx⟩
  rw[e,execOp_congr o hs agree]
 unfold vq
 rw[if_pos hokX]
 cases hop:o.op<;>rw[hop]at h<;>dsimp only at h ⊢
 case move x=>cases h;exact⟨_,rfl,hev x (by simp[hop,Op.operands])⟩
 case assign x=>cases h;exact⟨_,rfl,hev x (by simp[hop,Op.operands])⟩
 case pick c a b=>exact Ajh h (hev c (by simp[hop,Op.operands])) (hev a (by simp[hop,Op.operands])) (hev b (by simp[hop,Op.operands]))
 case load t x=>
  have h1:=hev x (by simp[hop,Op.operands])
  split at h
  ·rename_i k off hx
   rw[hx]at h1
   rw[h1.ptr]
   dsimp only
   split at h
   ·rename_i hc
    rw[if_pos hc]
    split at h
    ·rename_i l hl
     obtain⟨l',hl',gl⟩:=M.g k l hl
     rw[hl']
     dsimp only
     split at h
     ·rename_i u hu
      obtain⟨v,hv,gv⟩:=Ql hu gl
      rw[hv]
      dsimp only
      split at h
      ·cases h
      ·rename_i hp
       cases h
       rw[if_neg (by rw[gv.isP];exact hp)]
       exact⟨v,rfl,gv⟩
     ·cases h
    ·cases h
   ·cases h
  ·cases h
 case fieldAddr s x f=>
  have h1:=hev x (by simp[hop,Op.operands])
  split at h
  ·rename_i k off hx
   rw[hx]at h1
   rw[h1.ptr]
   dsimp only
   split at h
   ·rename_i d hd
    cases h
    rw[hd]
    exact⟨_,rfl,rfl,rfl⟩
   ·cases h
  ·cases h
 case indexAddr t x ix=>
  have h1:=hev x (by simp[hop,Op.operands])
  have h2:=hev ix (by simp[hop,Op.operands])
  split at h
  ·rename_i k off hx
   rw[hx]at h1
   rw[h1.ptr]
   dsimp only
   split at h
   ·rename_i d hd
    cases h
    have e:VE vt ix=VE at' ix:=by
     unfold Gp at hd
     split at hd
     ·rename_i e
      rw[e]at h2 ⊢
      exact h2.int
     ·cases hd
    rw[e,hd]
    exact⟨_,rfl,rfl,rfl⟩
   ·cases h
  ·cases h
 case nilCheck x=>
  have h1:=hev x (by simp[hop,Op.operands])
  split at h
  ·rename_i b hx
   rw[hx]at h1
   rw[h1.ptr]
   cases h
   exact⟨_,rfl,rfl,rfl⟩
  ·cases h
 case alloc t=>cases h;exact⟨_,rfl,rfl,rfl⟩
 case store=>cases h
 case box=>cases h
 case select=>cases h
 case call c=>
  split at h
  ·rename_i b hc
   rw[hc]
   dsimp only
   split at h
   ·rename_i ha
    obtain⟨h1,h2⟩:=hreal (by rw[hop];simp) ha h
    exact⟨r,h1,h2⟩
   ·exact As0 hop hc h hev
  ·cases h
 case binOp op t x y t2=>
  have h1:=hev x (by simp[hop,Op.operands])
  have h2:=hev y (by simp[hop,Op.operands])
  split at h
  ·rename_i u hn
   cases h
   have hn2:=hn
   unfold MC at hn2
   split at hn2
   ·rename_i b e1 e2
    rw[e1]at h1
    rw[e2]at h2
    rw[h1.ptr,h2.ptr,<-e1,<-e2,hn]
    refine⟨r,rfl,?_⟩
    split at hn2
    ·cases hn2;exact⟨rfl,rfl⟩
    ·cases hn2;exact⟨rfl,rfl⟩
    ·cases hn2
   ·cases hn2
  ·rename_i hn
   split at h
   ·rename_i ha
    obtain⟨e1,e2⟩:=hreal (by rw[hop];simp) ha h
    have ex:VE vt x=VE at' x:=JX _ _ (Zm.1 ha x (by simp[hop,Op.operands])) h1
    have ey:VE vt y=VE at' y:=JX _ _ (Zm.1 ha y (by simp[hop,Op.operands])) h2
    have q:=Uk hop e1
    rw[ex,ey]at q
    rw[ex,ey,hn]
    exact⟨r,q,e2⟩
   ·obtain⟨e1,v,hv,gv⟩:=Asw hF0 hop h h1 h2
    rw[e1]
    exact⟨v,Uk hop hv,gv⟩
 case unOp op t x=>
  split at h
  ·rename_i ha
   obtain⟨h1,h2⟩:=hreal (by rw[hop];simp) ha h
   exact⟨r,h1,h2⟩
  ·exact AB9 hop h (hev x (by simp[hop,Op.operands]))
 case convert s d x=>
  split at h
  ·rename_i ha
   obtain⟨h1,h2⟩:=hreal (by rw[hop];simp) ha h
   exact⟨r,h1,h2⟩
  ·exact Ajf hop h (hev x (by simp[hop,Op.operands]))
 case field t x f=>
  exact J5 (S:=Instr.field t (VE at' x) f) (S':=Instr.field t (VE vt x) f) (by simp only[execOp,hop]) (by simp only[execOp,hop]) h hev (fun hq=>Adq hq (hev x (by simp[hop,Op.operands])))
 case index t x ix=>
  have h1:=hev x (by simp[hop,Op.operands])
  have h2:=hev ix (by simp[hop,Op.operands])
  split at h
  ·rename_i cs k i e1 e2
   rw[e2]at h2
   have e3:=h2.int
   refine J5 (S:=Instr.index t (VE at' x) (VE at' ix)) (S':=Instr.index t (VE vt x) (VE vt ix)) (by simp only[execOp,hop]) (by simp only[execOp,hop]) h hev (fun hq=>?_)
   rw[e2]at hq
   rw[e3]
   exact Adr hq ⟨cs,e1⟩ h1
  ·split at h
   ·rename_i ha
    obtain⟨h1,h2⟩:=hreal (by rw[hop];simp) ha h
    exact⟨r,h1,h2⟩
   ·cases h
 case extract x i=>
  have h1:=hev x (by simp[hop,Op.operands])
  split at h
  ·rename_i a b rs e1
   refine J5 (S:=Instr.extract (VE at' x) i) (S':=Instr.extract (VE vt x) i) (by simp only[execOp,hop]) (by simp only[execOp,hop]) h hev (fun hq=>?_)
   rw[e1]at hq h1
   exact Uy hq h1
  ·cases h
 case build t ps=>
  split at h
  ·rename_i hc
   rw[Zo]at hc
   refine J5 (S:=Instr.build t (ps.map fun(i,x)=>(i,VE at' x))) (S':=Instr.build t (ps.map fun(i,x)=>(i,VE vt x))) (by simp only[execOp,hop]) (by simp only[execOp,hop]) h hev (fun hq=>?_)
   refine Ads hc.1 hq ?_
   have hall:=Zx.1 hc.2
   have hmem:∀p∈ps.toList,G2 τ (VE at' p.2) (VE vt p.2):=fun p hp=>hev p.2 (by
    simp only[hop,Op.operands]
    exact List.mem_toArray.2 (Zad.2 ⟨p,hp,rfl⟩))
   rw[Zan,Zan]
   revert hall hmem
   generalize ps.toList=l
   induction l with
   |nil=>intros;trivial
   |cons p l ih=>
    intro hall hmem
    exact⟨⟨rfl,Ll (hmem p Zs) (hall p Zs)⟩,ih (fun q hq=>hall q (Zu _ hq)) (fun q hq=>hmem q (Zu _ hq))⟩
  ·cases h
 all_goals
  split at h
  ·rename_i ha
   obtain⟨h1,h2⟩:=hreal (by rw[hop];simp) ha h
   exact⟨r,h1,h2⟩
  ·cases h
end
def okF(o:Oper):Bool:=o.op.operands.toList.all okA
theorem Ajj(o:Oper):okF o=o.op.operands.all okA:=Zaq
def W4(o:Oper)(ρ:Operand->Value):Bool:=o.op.operands.toList.all fun x=>GT (ρ x)
theorem As1(o:Oper)(ρ:Operand->Value):W4 o ρ=DG o ρ:=Zaq
def GU(P:Program)(o:Oper)(ρ:Operand->Value):Option Value:=
 match o.op.operands.toList.all (fun x=>!isP (ρ x))with
 | true=>(match qrun P (execOp ρ o)with
  |some (.value v)=>(match isP v with
   |true=>none
   |false=>some v)
  |_=>none)
 |false=>none
theorem Ajk(P:Program)(o:Oper)(ρ:Operand->Value):GU P o ρ=Bc P o ρ:=by
 unfold GU Bc
 rw[Zaq]
 cases o.op.operands.all fun x=>!isP (ρ x)with
 |false=>rfl
 | true=>
  rw[if_pos rfl]
  dsimp only
  generalize qrun P (execOp ρ o)=q
  split
  ·rename_i v
   cases h:isP v<;>simp[h]
  ·rename_i hn
   split
   ·exact absurd rfl (hn _)
   ·rfl
def aqF(P:Program)(F:Fct)(cl:Nat->Bool)(id:Nat)(o:Oper)(ρ:Operand->Value)(m:Xm):Option Value:=
 match okF o with
 | true=>(match o.op with
  | .move x=>some (ρ x)
  | .assign x=>some (ρ x)
  | .pick c a b=>g9 (ρ c) (ρ a) (ρ b)
  | .load t x=>
   match ρ x with
   | .pointer (some ⟨k,off,none⟩)=>if cl k then(match m[k]? with
    |some l=>(match C3 P t l off with
     |some v=>if isP v then none else some v
     |none=>none)
    |none=>none)else none
   |_=>none
  | .fieldAddr s x f=>
   match ρ x with
   | .pointer (some ⟨k,off,none⟩)=>(match Hi P s f with
    |some d=>some (.pointer (some ⟨k,off+d,none⟩))
    |none=>none)
   |_=>none
  | .indexAddr t x ix=>
   match ρ x with
   | .pointer (some ⟨k,off,none⟩)=>(match Gp P t (ρ ix)with
    |some d=>some (.pointer (some ⟨k,off+d,none⟩))
    |none=>none)
   |_=>none
  | .nilCheck x=>
   match ρ x with
   | .pointer (some a)=>some (.pointer (some a))
   |_=>none
  | .alloc _=>some (.pointer (some ⟨id,0,none⟩))
  | .store _ _ _=>none
  | .box _ _=>none
  | .select _ _=>none
  | .call c=>
   match c.callee with
   | .builtin b=>if W4 o ρ then Em (GU P o ρ)else Asz b (c.args.toList.map ρ)
   |_=>none
  | .binOp op t x y _=>
   match MC P op t (ρ x) (ρ y)with
   |some v=>some v
   |none=>if W4 o ρ then Em (GU P o ρ)else Asv P F op t (ρ x) (ρ y)
  | .unOp op _ x=>if W4 o ρ then Em (GU P o ρ)else aUn op (ρ x)
  | .convert s d x=>if W4 o ρ then Em (GU P o ρ)else g5 P s d (ρ x)
  | .field _ _ _=>GU P o ρ
  | .index _ x ix=>(match ρ x,ρ ix with
   | .agg _,.int _ _=>GU P o ρ
   |_,_=>if W4 o ρ then Em (GU P o ρ)else none)
  | .extract x _=>(match ρ x with
   | .tuple ⟨_::_::_⟩=>GU P o ρ
   |_=>none)
  | .build t ps=>if RQ P t&&ps.toList.all (fun p=>Ce (ρ p.2))then GU P o ρ else none
  |_=>if W4 o ρ then Em (GU P o ρ)else none)
 |false=>none
theorem ACc(P:Program)(F:Fct)(cl:Nat->Bool)(id:Nat)(o:Oper)(ρ:Operand->Value)(m:Xm):aqF P F cl id o ρ m=aq P F cl id o ρ m:=by
 unfold aqF aq
 rw[Ajj]
 cases o.op.operands.all okA with
 |false=>rfl
 |true=>
  rw[if_pos rfl]
  dsimp only
  cases o.op<;>simp only[Ajk,As1]
end Nx
end Go.Proofs.YtoadcnhcfodkgaaGreatDoor
