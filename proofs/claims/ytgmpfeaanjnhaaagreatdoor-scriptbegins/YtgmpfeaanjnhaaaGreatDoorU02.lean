/-
A part.
A part.
A part.
A part.
A part.
A part.
A part.
-/
import Derived.OrdersHeld
import Derived.Test.YtgmpfeaanjnhaaaGreatDoorU01
namespace Go.Proofs.YtgmpfeaanjnhaaaGreatDoor
open Go.RowKit
def Bb(ops:Array Oper)(vt:List Value)(j:Nat):Option Bool:=
 match (ops[j]?).bind (·.dst)with
 |some d=>asB (vt.getD d undef)
 |none=>none
theorem RV.asB{bl:Bl}{v v':Value}(h:RV bl v v'):asB v'=asB v:=by
 cases hp:isP v
 ·rw[h.plain hp]
 ·match v,h,hp with
  | .pointer (some a),⟨B,_,h2⟩,_=>rw[h2];rfl
  | .nilIface,h,_=>exact h
  | .slice (some a) _ _,⟨B,_,h2⟩,_=>rw[h2];rfl
theorem RX{bl:Bl}{vt:List Value}{tm:Array Value}(F:FR bl vt tm)(ops:Array Oper)(j:Nat):yielded ops tm j=Bb ops vt j:=by
 unfold yielded Bb
 cases h:(ops[j]?).bind (·.dst)with
 |none=>rfl
 |some d=>
  have hr:=(F.rv d).asB
  dsimp only
  rw[<-hr]
  simp only[Option.bind_some,Array.getD_eq_getD_getElem?]
  cases h2:tm[d]? with
  |none=>rfl
  |some u=>cases u<;>rfl
theorem MN{bl:Bl}{vt:List Value}{tm:Array Value}(F:FR bl vt tm)(ops:Array Oper)(o:Oper):Region.wanted o (yielded ops tm)=Region.wanted o (Bb ops vt):=by
 rw[funext (RX F ops)]
def Ha(base:Nat)(ops:Array Oper)(i:Nat):Nat:=base+((ops.toList.take i).filter CB).length
theorem Aa0{base:Nat}{ops:Array Oper}{i j:Nat}{oi:Oper}(hi:ops[i]? =some oi)(hn:CB oi=true)(h:i<j):Ha base ops i<Ha base ops j:=by
 unfold Ha
 have hl:ops.toList[i]? =some oi:=by simpa using hi
 obtain⟨hlt,he⟩:=List.getElem?_eq_some_iff.1 hl
 have h1:(ops.toList.take (i+1)).filter CB=(ops.toList.take i).filter CB++[oi]:=by
  rw[List.take_succ_eq_append_getElem hlt,List.filter_append,he]
  simp[hn]
 have h2:((ops.toList.take (i+1)).filter CB).Sublist ((ops.toList.take j).filter CB):=((List.take_prefix_take_left (l:=ops.toList) (show i+1<=j by omega)).sublist).filter _
 have:=h2.length_le
 rw[h1,List.length_append]at this
 simp at this
 omega
theorem Air{base:Nat}{ops:Array Oper}{i j:Nat}{oi oj:Oper}(hi:ops[i]? =some oi)(hj:ops[j]? =some oj)(ni:CB oi=true)(nj:CB oj=true)(h:Ha base ops i=Ha base ops j):i=j:=by
 rcases Nat.lt_trichotomy i j with h1 |h1 |h1
 ·have:=Aa0 (base:=base) hi ni h1;omega
 ·exact h1
 ·have:=Aa0 (base:=base) hj nj h1;omega
def KD(P:Program)(rs:Xm)(ops:Array Oper)(ids:Nat->Nat)(bl:Bl)(i:Nat):Prop:=∀o,ops[i]? =some o->VH P rs (ids i) o bl
theorem KD.next{P:Program}{rs:Xm}{ops:Array Oper}{base:Nat}{bl bl':Bl}{i j:Nat}{o:Oper}(h:KD P rs ops (Ha base ops) bl j)(hi:ops[i]? =some o)(hij:i≠j)
    (h1:∀k:Nat,k≠Ha base ops i->bl'[k]? =bl[k]?) (h2:CB o=false->bl'=bl):KD P rs ops (Ha base ops) bl' j:=by
 intro oj hj hn
 have:=h oj hj hn
 refine⟨?_,this.2⟩
 cases ho:CB o with
 |false=>rw[h2 ho];exact this.1
 |true=>
  rw[h1 _ (fun e=>hij (Air (base:=base) hi hj ho hn e.symm))]
  exact this.1
def DY(x:Bool)(A B:Prop):Prop:=
 match x with
 |true=>A
 |false=>B
theorem RY{c:Prop} [Decidable c] {α:Type}{K:α->Prop}{A B:α}:DY (decide c) (K A) (K B)=K (if c then A else B):=by
 by_cases h:c
 ·rw[decide_eq_true h,if_pos h];rfl
 ·rw[decide_eq_false h,if_neg h];rfl
theorem CX{b:Bool}{α:Type}{K:α->Prop}{A B:α}:DY b (K A) (K B)=K (if b then A else B):=by cases b<;>rfl
theorem Aa1{a b:Int}{α:Type}{K:α->Prop}{A B:α}:DY (decide (a<b)) (K A) (K B)=K (if a<b then A else B):=RY
theorem CY{a b:Int}{α:Type}{K:α->Prop}{A B:α}:DY (decide (a<=b)) (K A) (K B)=K (if a<=b then A else B):=RY
theorem Aot{a b:Int}{α:Type}{K:α->Prop}{A B:α}:DY (decide (a=b)) (K A) (K B)=K (if a=b then A else B):=RY
theorem Aou{a b:Int}{α:Type}{K:α->Prop}{A B:α}:DY (!decide (a=b)) (K B) (K A)=K (if a=b then A else B):=by
 by_cases h:a=b
 ·rw[decide_eq_true h,if_pos h];rfl
 ·rw[decide_eq_false h,if_neg h];rfl
theorem Aov{b:Bool}{α:Type}{K:α->Prop}{A B:α}:DY (!b) (K B) (K A)=K (if b then A else B):=by cases b<;>rfl
def Z6(P:Program)(tbl:List (Ct P))(id:Nat)(o:Oper)(vt:List Value)(m:Xm)(K:List Value->Xm->Prop):Prop:=
 match vq P (fun _=>true) id o (VE vt) m with
 |some v=>K (BJ vt o.dst v) m
 |none=>va P tbl id o (VE vt) m (fun v m'=>K (BJ vt o.dst v) m')
def D5 (P :Program)(tbl:List (Ct P))(ops:Array Oper)(ids:Nat->Nat)(K:List Value->Xm->Prop):List Nat->List Value->Xm->Prop
 |[],vt,m=>K vt m
 | i ::rest,vt,m=>
  match ops[i]? with
  |none=>D5 P tbl ops ids K rest vt m
  | some o =>
   match o.guard with
   |none=>Z6 P tbl (ids i) o vt m (D5 P tbl ops ids K rest)
   | some (g,want)=>
    match (ops[g]?).bind (·.dst)with
    |none=>False
    | some d=>
     match vt.getD d undef with
     | .bool x=>DY x
         (match want with
           |true=>Z6 P tbl (ids i) o (vt.set d (.bool true)) m (D5 P tbl ops ids K rest)
           |false=>D5 P tbl ops ids K rest (BJ (vt.set d (.bool true)) o.dst undef) m)
         (match want with
           |true=>D5 P tbl ops ids K rest (BJ (vt.set d (.bool false)) o.dst undef) m
           |false=>Z6 P tbl (ids i) o (vt.set d (.bool false)) m (D5 P tbl ops ids K rest))
     | .tuple _=>D5 P tbl ops ids K rest (BJ vt o.dst undef) m
     |_=>False
section
variable {P:Program} {tbl:List (Ct P)} {bs:List Nat} {w0:World} {rs:Xm} {Q:Exit->Act->World->Prop} {ops:Array Oper} {base:Nat} {K:List Value->Xm->Prop} {ds:List Deferred} {ln:Nat} {bl0:Bl}
theorem Aa2{bl:Bl}{vt:List Value}{m:Xm}{a:Act}{w:World}{id:Nat}{o:Oper}{K:List Value->Xm->Prop}(h:Z6 P tbl id o vt m K)(F:FR bl vt a.tmps)(R:RW bs w0 bl m w)(N:Nw rs bl m)(hnew:VH P rs id o bl):
    o.wp P a w (KC bs w0 rs bl m vt a id o (fun v m'=>K (BJ vt o.dst v) m')) Q:=by
 unfold Z6 at h
 split at h
 ·rename_i v hv
  exact Aaz hv F R N hnew h
 ·exact Ane h F R N hnew
theorem FR.setSame{bl:Bl}{vt:List Value}{tm:Array Value}(h:FR bl vt tm){d:Nat}{v:Value}(hd:vt.getD d undef=v):FR bl (vt.set d v) tm:=by
 refine⟨by rw[List.length_set];exact h.len,fun t=>?_⟩
 by_cases e:d=t
 ·subst e
  have h1:=h.rv d
  by_cases hl:d<vt.length
  ·rw[hd]at h1
   rw[List.getD_eq_getElem?_getD,List.getElem?_set_self hl]
   exact h1
  ·rw[List.getD_eq_getElem?_getD,List.getElem?_eq_none (by omega)]at h1
   rw[List.getD_eq_getElem?_getD,List.getElem?_eq_none (by rw[List.length_set];omega)]
   exact h1
 ·have h1:=h.rv t
  rw[List.getD_eq_getElem?_getD]at h1 ⊢
  rw[List.getElem?_set_ne e]
  exact h1
theorem Ek(hK:∀bl vt m a w,K vt m->FR bl vt a.tmps->RW bs w0 bl m w->Le bl0 bl->bl.length=ln->m.length=ln->a.defers=ds->Q .normal a w):
    ∀ (is:List Nat) (bl:Bl) (vt:List Value) (m:Xm) (a:Act) (w:World),is.Nodup->D5 P tbl ops (Ha base ops) K is vt m->FR bl vt a.tmps->RW bs w0 bl m w->Nw rs bl m->
      (∀i∈is,KD P rs ops (Ha base ops) bl i)->Le bl0 bl->bl.length=ln->m.length=ln->a.defers=ds->wpOps P ops Q is a w
 |[],bl,vt,m,a,w,_,h,F,R,_,_,hle,hl,hml,hd=>hK bl vt m a w h F R hle hl hml hd
 | i ::rest,bl,vt,m,a,w,hnd,h,F,R,N,hf,hle,hl,hml,hd=>by
  rw[List.nodup_cons]at hnd
  rw[wpOps_cons]
  unfold D5 at h
  unfold wpOp
  cases ho:ops[i]? with
  |none=>
   rw[ho]at h
   exact Ek hK rest bl vt m a w hnd.2 h F R N (fun j hj=>hf j (List.mem_cons_of_mem _ hj)) hle hl hml hd
  | some o=>
   rw[ho]at h
   dsimp only at h ⊢
   have hfi:=hf i List.mem_cons_self o ho
   have step:∀vt2:List Value,FR bl vt2 a.tmps->Z6 P tbl (Ha base ops i) o vt2 m (D5 P tbl ops (Ha base ops) K rest)->o.wp P a w (wpOps P ops Q rest) Q:=by
    intro vt2 F2 h2
    refine Oper.wp_mono ?_ (Aa2 (Q:=Q) h2 F2 R N hfi)
    rintro a' w' ⟨bl',v,m',hbl,hmm,hle',h1,h3,hdef,F',R',N',hK'⟩
    exact Ek hK rest bl' _ m' a' w' hnd.2 hK' F' R' N' (fun j hj=>(hf j (List.mem_cons_of_mem _ hj)).next ho (by rintro rfl;exact hnd.1 hj) h1 h3) (hle.trans hle') (hbl.trans hl) (hmm.trans hml) (hdef.trans hd)
   have skip:∀vt2:List Value,FR bl vt2 a.tmps->D5 P tbl ops (Ha base ops) K rest (BJ vt2 o.dst undef) m->wpOps P ops Q rest (a.put o.dst undef) w:=by
    intro vt2 F2 h2
    exact Ek hK rest bl _ m _ w hnd.2 h2 (F2.put (.same rfl) _) R N (fun j hj=>hf j (List.mem_cons_of_mem _ hj)) hle hl hml ((AJ _ _ _).trans hd)
   rw[MN F]
   cases hg:o.guard with
   |none=>
    rw[hg]at h
    rw[show Region.wanted o (Bb ops vt)=true by unfold Region.wanted;rw[hg],if_pos rfl]
    exact .inl (step vt F h)
   | some gw=>
    obtain⟨g,want⟩:=gw
    rw[hg]at h
    dsimp only at h
    split at h
    ·exact h.elim
    ·rename_i d hdst
     split at h
     ·rename_i x hx
      have hw:Region.wanted o (Bb ops vt)=(x==want):=by
       unfold Region.wanted
       rw[hg]
       dsimp only
       unfold Bb
       rw[hdst]
       dsimp only
       rw[hx]
       simp[asB]
      rw[hw]
      cases x<;>cases want<;>simp only[DY]at h
      ·rw[if_pos (by decide)]
       exact .inl (step _ (F.setSame hx) h)
      ·rw[if_neg (by decide)]
       exact skip _ (F.setSame hx) h
      ·rw[if_neg (by decide)]
       exact skip _ (F.setSame hx) h
      ·rw[if_pos (by decide)]
       exact .inl (step _ (F.setSame hx) h)
     ·rename_i ts hx
      have hw:Region.wanted o (Bb ops vt)=false:=by
       unfold Region.wanted
       rw[hg]
       dsimp only
       unfold Bb
       rw[hdst]
       dsimp only
       rw[hx]
       rfl
      rw[hw,if_neg (by decide)]
      exact skip _ F h
     ·exact h.elim
end
theorem NX{P:Program}{cl:Nat->Bool}{id:Nat}{o:Oper}{ρ ρ':Operand->Value}{m m':Xm}(hs:∀cs b,o.op≠.select cs b)(hm:∀k:Nat,cl k=true->m[k]? =m'[k]?)(hr:∀x∈o.op.operands,ρ x=ρ' x):vq P cl id o ρ m=vq P cl id o ρ' m':=by
 have hp:Bj P o ρ=Bj P o ρ':=by
  unfold Bj
  have e:o.op.operands.all (fun x=>!isP (ρ x))=o.op.operands.all (fun x=>!isP (ρ' x)):=by
   rw[Bool.eq_iff_iff,Array.all_eq_true_iff_forall_mem,Array.all_eq_true_iff_forall_mem]
   exact⟨fun h x hx=>by rw[<-hr x hx];exact h x hx,fun h x hx=>by rw[hr x hx];exact h x hx⟩
  rw[e,execOp_congr o hs hr]
 unfold vq
 rw[hp]
 cases hop:o.op<;>rw[hop]at hr<;>simp only[Op.operands]at hr<;>dsimp only
 case move x=>rw[hr x (by simp)]
 case assign x=>rw[hr x (by simp)]
 case pick c p q=>rw[hr c (by simp),hr p (by simp),hr q (by simp)]
 case load t x=>
  rw[hr x (by simp)]
  congr 1
  split
  ·rename_i k off _
   cases hc:cl k with
   |true=>rw[hm k hc]
   |false=>rfl
  ·rfl
 case fieldAddr s x f=>rw[hr x (by simp)]
 case indexAddr t x ix=>rw[hr x (by simp),hr ix (by simp)]
 case nilCheck x=>rw[hr x (by simp)]
 case binOp op t x y t2=>rw[hr x (by simp),hr y (by simp)]
theorem Ais{P:Program}{tbl:List (Ct P)}{id:Nat}{o:Oper}{ρ ρ':Operand->Value}{m:Xm}{K:Value->Xm->Prop}(hs:∀cs b,o.op≠.select cs b)(hr:∀x∈o.op.operands,ρ x=ρ' x):va P tbl id o ρ m K=va P tbl id o ρ' m K:=by
 have hv:=NX (P:=P) (cl:=fun _=>true) (id:=id) (m:=m) (m':=m) hs (fun _ _=>rfl) hr
 unfold va
 rw[hv]
 cases hall:o.op.operands.all Pr
 ·rfl
 clear hv hall
 cases hop:o.op<;>rw[hop]at hr<;>simp only[Op.operands]at hr<;>dsimp only
 case store t x y=>rw[hr x (by simp),hr y (by simp)]
 case box t x=>rw[hr x (by simp)]
 case call c=>
  have:c.args.toList.map ρ=c.args.toList.map ρ':=List.map_congr_left fun x hx=>hr x (by
   unfold Call.operands
   exact Array.mem_append_right _ (by simpa using hx))
  rw[this]
theorem Ait{id:Nat}{o:Oper}{ρ ρ':Operand->Value}(hr:∀x∈o.op.operands,ρ x=ρ' x):vw id o ρ=vw id o ρ':=by
 unfold vw
 cases hop:o.op<;>rw[hop]at hr<;>simp only[Op.operands]at hr<;>dsimp only
 case store t x y=>rw[hr x (by simp)]
 case call c=>
  have:c.args.toList.map ρ=c.args.toList.map ρ':=List.map_congr_left fun x hx=>hr x (by
   unfold Call.operands
   exact Array.mem_append_right _ (by simpa using hx))
  rw[this]
theorem J4{P:Program}{tbl:List (Ct P)}{id:Nat}{o:Oper}{ρ:Operand->Value}{m:Xm}{K K':Value->Xm->Prop}(hK:∀v m',K v m'->K' v m')(h:va P tbl id o ρ m K):va P tbl id o ρ m K':=by
 unfold va at h ⊢
 split at h
 ·split at h
  ·split at h
   ·split at h
    ·exact hK _ _ h
    ·exact h
   ·exact h
  ·exact h
 ·split at h
  ·exact hK _ _ h
  ·exact h
 ·split at h
  ·exact hK _ _ h
  ·exact h
 ·split at h
  ·split at h
   ·rename_i ct _
    exact ct.mono hK h
   ·exact h
  ·exact h
 ·exact h
theorem Aiu{P:Program}{tbl:List (Ct P)}{id:Nat}{o:Oper}{ρ:Operand->Value}{m:Xm}{K:Value->Xm->Prop}(h:va P tbl id o ρ m K):va P tbl id o ρ m (fun v m'=>K v m'/\∀k,k∉vw id o ρ->m'[k]? =m[k]?):=by
 unfold va at h ⊢
 split at h
 ·rename_i t x y _ hop
  split at h
  ·rename_i k off hx
   split at h
   ·split at h
    ·refine⟨h,fun k' hk'=>?_⟩
     unfold vw at hk'
     rw[hop]at hk'
     dsimp only at hk'
     rw[hx]at hk'
     have e:k≠k':=by rintro rfl;exact hk' (by simp[G9])
     rw[List.getElem?_set_ne e]
    ·exact h
   ·exact h
  ·exact h
 ·rename_i t x _ hop
  split at h
  ·refine⟨h,fun k' hk'=>?_⟩
   unfold vw at hk'
   rw[hop]at hk'
   have e:id≠k':=by rintro rfl;exact hk' (by simp)
   rw[List.getElem?_set_ne e]
  ·exact h
 ·split at h
  ·exact⟨h,fun _ _=>rfl⟩
  ·exact h
 ·rename_i c _ hop
  split at h
  ·split at h
   ·rename_i ct _
    refine ct.mono ?_ (ct.keep h)
    rintro v m' ⟨h1,_,h2⟩
    refine⟨h1,fun k hk=>h2 k ?_⟩
    unfold vw at hk
    rw[hop]at hk
    exact hk
   ·exact h
  ·exact h
 ·exact h
theorem Aa3{vt:List Value}{dst:Option Tmp}{v:Value}{x:Operand}(h:∀d,dst=some d->x≠.tmp d):VE (BJ vt dst v) x=VE vt x:=by
 cases dst with
 |none=>rfl
 | some d=>
  cases x with
  |tmp t=>
   have hne:d≠t:=fun e=>h d rfl (e▸rfl)
   show(vt.set d v).getD t undef=vt.getD t undef
   rw[List.getD_eq_getElem?_getD,List.getD_eq_getElem?_getD,List.getElem?_set_ne hne]
  |_=>rfl
theorem Ik{ops:Array Oper}{o:Oper}{vt:List Value}{dst:Option Tmp}{v:Value}(h:∀d,dst=some d->d∉o.looksAt ops):∀x∈o.op.operands,VE (BJ vt dst v) x=VE vt x:=
 fun x hx=>Aa3 fun d hd hxd=>h d hd (by
  subst hxd
  exact List.mem_append_left _ (List.mem_filterMap.2 ⟨.tmp d,by simpa using hx,rfl⟩))
theorem Jy{ops:Array Oper}{o:Oper}{vt:List Value}{dst:Option Tmp}{v:Value}(h:∀d,dst=some d->d∉o.looksAt ops):Region.wanted o (Bb ops (BJ vt dst v))=Region.wanted o (Bb ops vt):=by
 cases dst with
 |none=>rfl
 | some d=>
  unfold Region.wanted
  cases hg:o.guard with
  |none=>rfl
  | some gw=>
   obtain⟨g,want⟩:=gw
   have hy:Bb ops (BJ vt (some d) v) g=Bb ops vt g:=by
    unfold Bb
    cases ht:(ops[g]?).bind (·.dst)with
    |none=>rfl
    |some t=>
     have hne:d≠t:=fun e=>h d rfl (by subst e;simp[Oper.looksAt,hg,ht])
     dsimp only
     have e2:(BJ vt (some d) v).getD t undef=vt.getD t undef:=Aa3 (vt:=vt) (dst:=some d) (v:=v) (x:=.tmp t) (fun d' hd' e=>by cases hd';cases e;exact hne rfl)
     rw[e2]
   simp only[hy]
theorem Xx{vt:List Value}{d1 d2:Option Tmp}{v1 v2:Value}(h:∀d,d1=some d->d2≠some d):BJ (BJ vt d1 v1) d2 v2=BJ (BJ vt d2 v2) d1 v1:=by
 cases d1 with
 |none=>rfl
 | some a=>
  cases d2 with
  |none=>rfl
  |some b=>
   have hne:a≠b:=fun e=>h a rfl (by rw[e])
   exact List.set_comm _ _ hne
def FT(b:Bool)(A:Prop):Prop:=
 match b with
 |true=>A
 |false=>False
theorem Be{b:Bool}{A:Prop}:FT b A↔b=true/\A:=by
 cases b
 ·exact⟨fun h=>h.elim,fun h=>by cases h.1⟩
 ·exact⟨fun h=>⟨rfl,h⟩,fun h=>h.2⟩
def mOf(l:List Nat):Nat:=l.foldl (fun a d=>a|||(1<<<d)) 0
def Mq(a b:Nat):Bool:=Nat.beq (a&&&b) a
theorem Aa4:∀(l:List Nat) (a i:Nat),(l.foldl (fun a d=>a|||(1<<<d)) a).testBit i=(a.testBit i||l.contains i)
 |[],a,i=>by simp
 |d::l,a,i=>by
  rw[List.foldl_cons,Aa4 l]
  rw[Nat.testBit_or,Nat.one_shiftLeft,Nat.testBit_two_pow,List.contains_cons,Bool.or_assoc]
  congr 2
  rw[Bool.eq_iff_iff,decide_eq_true_eq,beq_iff_eq]
  exact⟨fun e=>e.symm,fun e=>e.symm⟩
theorem Gq(l:List Nat)(i:Nat):(mOf l).testBit i=l.contains i:=by
 unfold mOf
 rw[Aa4]
 simp
theorem NY{a b:Nat}(h:Mq a b=true)(i:Nat)(hi:a.testBit i=true):b.testBit i=true:=by
 have e:=Nat.eq_of_beq_eq_true h
 rw[<-e,Nat.testBit_and,Bool.and_eq_true]at hi
 exact hi.2
theorem Aiv{a b:Nat}(h:∀i,a.testBit i=true->b.testBit i=true):Mq a b=true:=by
 have e:a&&&b=a:=by
  refine Nat.eq_of_testBit_eq (fun i=>?_)
  rw[Nat.testBit_and]
  cases ha:a.testBit i with
  |true=>rw[h i ha];rfl
  |false=>rfl
 unfold Mq
 rw[e]
 exact Nat.beq_refl a
def Aa5(o:Oper):Bool:=
 match o.op with
 | .store _ _ _=>true
 |_=>false
def Aiw(o:Oper):Bool:=
 match o.op with
 | .load _ _=>true
 |_=>false
def VJ(o:Oper):List Nat:=(o.after.toList.filter (Region.binds .any)).map (·.on)
def depsOf(ops:Array Oper)(j:Nat):List Nat:=
 match ops[j]? with
 |some o=>VJ o
 |none=>[]
theorem Gr{o:Oper}{i:Nat}:i∈VJ o↔∃e∈o.after,Region.binds .any e=true/\e.on=i:=by
 unfold VJ
 simp[List.mem_map,List.mem_filter,and_assoc]
def Dn(ops:Array Oper)(listed:Array Bool):Prop:=∀j,listed.getD j false=true->∀i∈depsOf ops j,listed.getD i false=true
theorem Dn.next{ops:Array Oper}{listed:Array Bool}(h:Dn ops listed){i:Nat}(hi:i∈Region.ready .any ops listed):Dn ops (listed.setIfInBounds i true):=by
 intro j hj d hd
 by_cases e:i=j
 ·subst e
  obtain⟨_,o,ho,hall⟩:=mem_ready.1 hi
  unfold depsOf at hd
  rw[ho]at hd
  obtain⟨x,hx,hb,rfl⟩:=Gr.1 hd
  exact getD_set_true (hall x hx hb)
 ·rw[getD_set_ne false e]at hj
  exact getD_set_true (h j hj d hd)
theorem Xy{listed:Array Bool}{i:Nat}(h:listed.getD i false=true):listed.getD i true=true:=by
 rcases Nat.lt_or_ge i listed.size with h' |h'
 ·simpa [h']using h
 ·simp[Array.getElem?_eq_none h']at h
abbrev Pend:=Nat×Nat×Nat×Bool×Bool×Bool
def Aa6(ops:Array Oper)(i:Nat)(o:Oper):Nat:=mOf ((List.range ops.size).filter fun j=>!(j==i||match ops[j]? with
 |some oj=>oj.after.any (fun e=>Region.binds .any e&&e.on==i)||o.apart ops oj
 |none=>true))
def Aow(o:Oper):Bool:=
 match o.op with
 | .store _ _ _=>false
 | .box _ _=>false
 | .call c=>(match c.callee with
  | .builtin _=>true
  |_=>false)
 |_=>true
def FJ(ops:Array Oper)(i:Nat):Pend:=
 match ops[i]? with
 |some o=>(i,mOf (VJ o),Aa6 ops i o,Aow o,Aa5 o,Aiw o)
 |none=>(i,0,0,false,true,false)
def KE(ops:Array Oper):List Pend:=(List.range ops.size).map (FJ ops)
def NZ(ps:List Pend):Nat->Nat->Nat
 |0,M=>M
 |n+1,M=>
  let M':=ps.foldl (fun a e=>if M.testBit e.1 then a|||e.2.1 else a) M
  if Nat.beq M' M then M else NZ ps n M'
def Aa7(ps:List Pend):Nat:=mOf ((ps.filter (fun e=>e.2.2.2.2.2)).map (·.1))
def MO(ops:Array Oper):Bool:=(KE ops).all fun e=>!e.2.2.2.2.1||Mq (Aa7 (KE ops)) (NZ (KE ops) 40 e.2.1)
theorem KF{ops:Array Oper}{i:Nat}(h:i<ops.size):FJ ops i∈KE ops:=List.mem_map.2 ⟨i,List.mem_range.2 h,rfl⟩
theorem CZ(ops:Array Oper)(i:Nat):(FJ ops i).1=i:=by
 unfold FJ
 split<;>rfl
theorem Il(ops:Array Oper)(i:Nat):(FJ ops i).2.1=mOf (depsOf ops i):=by
 unfold FJ depsOf
 split<;>rfl
def KG(listed:Array Bool)(M:Nat):Prop:=∀i,M.testBit i=true->listed.getD i false=true
theorem KG.fold{ops:Array Oper}{listed:Array Bool}(hd:Dn ops listed){M0:Nat}(h0:KG listed M0):∀(ps:List Pend),(∀e∈ps,∃i,e=FJ ops i)->∀a,KG listed a->KG listed (ps.foldl (fun a e=>if M0.testBit e.1 then a|||e.2.1 else a) a)
 |[],_,_,h=>h
 | e::ps,hp,a,h=>by
  rw[List.foldl_cons]
  refine KG.fold hd h0 ps (fun x hx=>hp x (List.mem_cons_of_mem _ hx)) _ ?_
  split
  ·rename_i ht
   obtain⟨i,rfl⟩:=hp e List.mem_cons_self
   intro j hj
   rw[Nat.testBit_or,Bool.or_eq_true]at hj
   rcases hj with hj |hj
   ·exact h j hj
   ·rw[Il,Gq]at hj
    rw[CZ]at ht
    exact hd i (h0 i ht) j (by simpa using hj)
  ·exact h
theorem KG.close{ops:Array Oper}{listed:Array Bool}(hd:Dn ops listed):∀(n M:Nat),KG listed M->KG listed (NZ (KE ops) n M)
 |0,_,h=>h
 | n+1,M,h=>by
  unfold NZ
  dsimp only
  split
  ·exact h
  ·exact KG.close hd n _ (KG.fold hd h _ (fun e he=>by
    obtain⟨i,_,rfl⟩:=List.mem_map.1 he
    exact⟨i,rfl⟩) M h)
def Aox(ops:Array Oper)(j:Nat):Bool:=(FJ ops j).2.2.2.2.2
def MP(ops:Array Oper)(listed:Array Bool):Prop:=∀i,i<ops.size->Aox ops i=true->listed.getD i true=true
theorem Aix{ops:Array Oper}{j:Nat}{o:Oper}(ho:ops[j]? =some o):(FJ ops j).2.2.2.2.1=Aa5 o:=by
 unfold FJ
 rw[ho]
theorem Aiy{ops:Array Oper}{j:Nat}{o:Oper}(ho:ops[j]? =some o):Aox ops j=Aiw o:=by
 unfold Aox FJ
 rw[ho]
theorem Dn.full{ops:Array Oper}{listed:Array Bool}(h:Dn ops listed)(ht:MO ops=true){j:Nat}{o:Oper}(hj:j∈Region.ready .any ops listed)(ho:ops[j]? =some o)(hs:Aa5 o=true):MP ops listed:=by
 obtain⟨_,o',ho',hall⟩:=mem_ready.1 hj
 rw[ho]at ho'
 cases ho'
 have hlt:j<ops.size:=(Array.getElem?_eq_some_iff.1 ho).1
 have h1:=List.all_eq_true.1 ht _ (KF hlt)
 rw[Aix ho,hs,Bool.not_true,Bool.false_or]at h1
 intro i hi hld
 refine Xy (KG.close h 40 (FJ ops j).2.1 (fun d hd=>?_) i (NY h1 i ?_))
 ·rw[Il,Gq]at hd
  unfold depsOf at hd
  rw[ho]at hd
  obtain⟨x,hx,hb,rfl⟩:=Gr.1 (by simpa using hd)
  exact hall x hx hb
 ·unfold Aa7
  rw[Gq,List.contains_iff_mem]
  exact List.mem_map.2 ⟨FJ ops i,List.mem_filter.2 ⟨KF hi,hld⟩,CZ ops i⟩
abbrev Stp:=Nat×Bool×Bool
def PN(ps0:List Pend):Nat->Nat->List Pend->Option (List Stp)
 |0,_,ps=>(match ps with
  |[]=>some []
  |_::_=>none)
 | f+1,L,ps=>
  match ps.filter (fun e=>Mq e.2.1 L)with
  |[]=>some []
  | e::r=>
   match (match (e::r).find? (fun x=>x.2.2.2.1&&Mq x.2.2.1 L)with
    |some x=>x
    |none=>e)with
   |(j,_,c,_,_)=>
    match PN ps0 f (L|||(1<<<j)) (ps.filter (fun x=>!Nat.beq x.1 j))with
    |some l=>some ((j,Mq c L,r.isEmpty)::l)
    |none=>none
def sch(ops:Array Oper):Option (List Stp):=PN (KE ops) ops.size 0 (KE ops)
def Run(ops:Array Oper):List Stp->Array Bool->Prop
 |[],listed=>Region.ready .any ops listed=[]
 |s::js,listed=>s.1∈Region.ready .any ops listed/\(s.2.1=true->Region.free .any ops listed s.1=true)/\(s.2.2=true->∀k∈Region.ready .any ops listed,k=s.1)/\Run ops js (listed.setIfInBounds s.1 true)
structure PO(ops:Array Oper)(listed:Array Bool)(L:Nat)(ps:List Pend):Prop where
 size:listed.size=ops.size
 bit:∀i,listed.getD i false=L.testBit i
 mem:∀e,e∈ps↔∃i,i<ops.size/\L.testBit i=false/\e=FJ ops i
theorem N0{listed:Array Bool}{i:Nat}(h:i<listed.size):listed.getD i true=listed.getD i false:=by simp[h]
theorem PO.ready{ops:Array Oper}{listed:Array Bool}{L:Nat}{ps:List Pend}(h:PO ops listed L ps)(i:Nat):i∈Region.ready .any ops listed↔FJ ops i∈ps.filter (fun e=>Mq e.2.1 L):=by
 rw[List.mem_filter,h.mem,mem_ready]
 constructor
 ·rintro⟨h1,o,ho,hall⟩
  have hlt:i<ops.size:=(Array.getElem?_eq_some_iff.1 ho).1
  refine⟨⟨i,hlt,?_,rfl⟩,Aiv (fun d hd=>?_)⟩
  ·rw[<-h.bit,<-N0 (by rw[h.size];exact hlt)]
   exact h1
  ·rw[Il,Gq]at hd
   unfold depsOf at hd
   rw[ho]at hd
   obtain⟨x,hx,hb,rfl⟩:=Gr.1 (by simpa using hd)
   rw[<-h.bit]
   exact hall x hx hb
 ·rintro⟨⟨i',hlt,hb,he⟩,hs⟩
  have e:i=i':=by
   have:=congrArg Prod.fst he
   rwa [CZ,CZ]at this
  subst e
  refine⟨by rw[N0 (by rw[h.size];exact hlt),h.bit];exact hb,ops[i],Array.getElem?_eq_getElem hlt,fun x hx hbx=>?_⟩
  rw[h.bit]
  refine NY hs _ ?_
  rw[Il,Gq]
  unfold depsOf
  rw[Array.getElem?_eq_getElem hlt]
  simpa using Gr.2 ⟨x,hx,hbx,rfl⟩
theorem PO.free{ops:Array Oper}{listed:Array Bool}{L:Nat}{ps:List Pend}(h:PO ops listed L ps){i:Nat}(hi:i<ops.size)(hc:Mq (FJ ops i).2.2.1 L=true):Region.free .any ops listed i=true:=by
 unfold Region.free
 rw[Array.getElem?_eq_getElem hi]
 refine List.all_eq_true.2 (fun j hj=>?_)
 have hj:=List.mem_range.1 hj
 have hp:(FJ ops i).2.2.1=Aa6 ops i ops[i]:=by
  unfold FJ
  rw[Array.getElem?_eq_getElem hi]
 rw[hp]at hc
 rw[Bool.or_assoc,Bool.or_left_comm,Bool.or_eq_true]
 cases hcj:(j==i||match ops[j]? with
     |some oj=>oj.after.any (fun e=>Region.binds .any e&&e.on==i)||ops[i].apart ops oj
     |none=>true)with
 |true=>exact .inr rfl
 |false=>
  refine .inl ?_
  rw[N0 (by rw[h.size];exact hj),h.bit]
  refine NY hc j ?_
  unfold Aa6
  rw[Gq,List.contains_iff_mem]
  exact List.mem_filter.2 ⟨List.mem_range.2 hj,by rw[hcj];rfl⟩
theorem PO.next{ops:Array Oper}{listed:Array Bool}{L:Nat}{ps:List Pend}(h:PO ops listed L ps){j:Nat}(hj:j<ops.size):PO ops (listed.setIfInBounds j true) (L|||(1<<<j)) (ps.filter (fun x=>!Nat.beq x.1 j)):=by
 have hb:∀i,(L|||(1<<<j)).testBit i=(L.testBit i||decide (j=i)):=fun i=>by rw[Nat.testBit_or,Nat.one_shiftLeft,Nat.testBit_two_pow]
 refine⟨by rw[Array.size_setIfInBounds];exact h.size,fun i=>?_,fun e=>?_⟩
 ·rw[hb]
  by_cases e:j=i
  ·subst e
   have:j<listed.size:=by rw[h.size];exact hj
   simp[this]
  ·rw[getD_set_ne false e,h.bit,decide_eq_false e,Bool.or_false]
 ·rw[List.mem_filter,h.mem]
  constructor
  ·rintro⟨⟨i,hi,hl,rfl⟩,hn⟩
   refine⟨i,hi,?_,rfl⟩
   rw[hb,hl,Bool.false_or,decide_eq_false]
   rintro rfl
   rw[CZ,Nat.beq_refl]at hn
   cases hn
  ·rintro⟨i,hi,hl,rfl⟩
   rw[hb,Bool.or_eq_false_iff]at hl
   refine⟨⟨i,hi,hl.1,rfl⟩,?_⟩
   have hne:i≠j:=fun e=>by rw[e,decide_eq_true rfl]at hl;cases hl.2
   rw[CZ]
   cases hq:Nat.beq i j with
   |false=>rfl
   |true=>exact absurd (Nat.eq_of_beq_eq_true hq) hne
theorem PP{ops:Array Oper}{ps0:List Pend}:∀(f:Nat) (listed:Array Bool) (L:Nat) (ps:List Pend) (l:List Stp),PO ops listed L ps->PN ps0 f L ps=some l->Run ops l listed
 | 0,listed,L,ps,l,h,e=>by
  unfold PN at e
  split at e
  ·cases e
   refine List.eq_nil_iff_forall_not_mem.2 (fun i hi=>?_)
   rw[h.ready i]at hi
   cases hi
  ·cases e
 | f +1,listed,L,ps,l,h,e=>by
  unfold PN at e
  split at e
  ·rename_i hr
   cases e
   refine List.eq_nil_iff_forall_not_mem.2 (fun i hi=>?_)
   rw[h.ready i,hr]at hi
   cases hi
  ·rename_i p r hr
   have hx:∀x:Pend,(match (p::r).find? (fun x=>x.2.2.2.1&&Mq x.2.2.1 L)with
    |some x=>x
    |none=>p)=x->x∈p::r:=by
    intro x hx
    split at hx
    ·rename_i y hy
     rw[<-hx]
     exact List.mem_of_find?_eq_some hy
    ·rw[<-hx]
     exact List.mem_cons_self
   split at e
   rename_i j dj c q st hsel
   have hin:=hx _ hsel
   rw[<-hr,List.mem_filter,h.mem]at hin
   obtain⟨⟨i,hi,hl,he⟩,hs⟩:=hin
   have e1:j=i:=by
    have:=congrArg Prod.fst he
    rwa [CZ]at this
   subst e1
   split at e
   ·rename_i l' hl'
    cases e
    have hready:j∈Region.ready .any ops listed:=by
     rw[h.ready j,List.mem_filter,h.mem]
     exact⟨⟨j,hi,hl,rfl⟩,by rw[<-he];exact hs⟩
    refine⟨hready,fun hc=>h.free hi (by rw[<-he];exact hc),fun ha k hk=>?_,PP f _ _ _ l' (h.next hi) hl'⟩
    ·rw[h.ready k,hr]at hk
     have hj2:=(h.ready j).1 hready
     rw[hr]at hj2
     have hr0:r=[]:=by simpa using ha
     subst hr0
     rw[List.mem_singleton]at hk hj2
     have:=congrArg Prod.fst (hk.trans hj2.symm)
     rwa [CZ,CZ]at this
   ·cases e
theorem Aoy{ops:Array Oper}{l:List Stp}(h:sch ops=some l):Run ops l (Array.replicate ops.size false):=by
 have hz:∀i,(Array.replicate ops.size false).getD i false=false:=fun i=>by
  by_cases hi:i<ops.size
  ·simp[hi]
  ·simp[Array.getElem?_eq_none (show(Array.replicate ops.size false).size<=i by simp;omega)]
 refine PP ops.size _ 0 _ l ⟨by simp,fun i=>by rw[hz];simp,fun e=>⟨fun he=>?_,fun⟨i,hi,_,he⟩=>?_⟩⟩ h
 ·obtain⟨i,hi,rfl⟩:=List.mem_map.1 he
  exact⟨i,List.mem_range.1 hi,by simp,rfl⟩
 ·rw[he]
  exact KF hi
def lco(cl dd:Nat->Bool)(two:Bool)(o:Oper)(k:Nat):Bool:=cl k||(Aiw o&&(two&&dd k))
def gco(cl dd:Nat->Bool)(two:Bool)(o:Oper)(k:Nat):Bool:=cl k||(!Aa5 o&&(two&&dd k))
def SS(ops:Array Oper)(cl dd:Nat->Bool)(two:Bool)(listed:Array Bool)(m0 m:Xm):Prop:=∀k:Nat,(cl k=true∨(two&&dd k)=true/\¬MP ops listed)->m[k]? =m0[k]?
theorem MP.mono{ops:Array Oper}{listed:Array Bool}{i:Nat}(h:MP ops listed):MP ops (listed.setIfInBounds i true):=by
 intro j hj hl
 have h1:=h j hj hl
 by_cases e:i=j
 ·subst e
  by_cases hs:i<listed.size
  ·simp[hs]
  ·simp
 ·rw[getD_set_ne true e]
  exact h1
theorem SS.next{ops:Array Oper}{cl dd:Nat->Bool}{two:Bool}{listed:Array Bool}{m0 m:Xm}(h:SS ops cl dd two listed m0 m)(i:Nat):SS ops cl dd two (listed.setIfInBounds i true) m0 m:=fun k hk=>h k (hk.imp id (fun x=>⟨x.1,fun hf=>x.2 hf.mono⟩))
section
variable (P:Program) (tbl:List (Ct P)) (ops:Array Oper) (ids:Nat->Nat) (cl dd:Nat->Bool) (two:Bool) (m0:Xm) (K:List Value->Xm->Prop)
def RE(i:Nat)(o:Oper)(vt:List Value)(m:Xm):Option Value:=
 match Region.wanted o (Bb ops vt)with
 |true=>vq P (lco cl dd two o) (ids i) o (VE vt) m
 |false=>some undef
def IW(i:Nat)(vt:List Value)(m:Xm)(K:List Value->Xm->Prop):Prop:=
 match ops[i]? with
 |none=>False
 |some o=>
  match RE P ops ids cl dd two i o vt m with
  |some v=>K (BJ vt o.dst v) m
  |none=>FT ((vw (ids i) o (VE vt)).all (fun k=>!gco cl dd two o k)) (va P tbl (ids i) o (VE vt) m (fun v m'=>K (BJ vt o.dst v) m'))
def N1:Nat->Array Bool->List Value->Xm->Prop
 |0,listed,vt,m=>Region.ready .any ops listed=[]/\K vt m
 |f+1,listed,vt,m=>(Region.ready .any ops listed=[]->K vt m)/\
  ∀i∈Region.ready .any ops listed,IW P tbl ops ids cl dd two i vt m (fun vt' m'=>SS ops cl dd two (listed.setIfInBounds i true) m0 m'/\N1 f (listed.setIfInBounds i true) vt' m')
def Aa8(ops:Array Oper)(o:Oper)(vt:List Value)(F:List Value->Prop):Prop:=
 match o.guard with
 |none=>F vt
 | some (g,_)=>
  match (ops[g]?).bind (·.dst)with
  |none=>F vt
  |some d=>
   match vt.getD d undef with
   | .bool x=>DY x (F (vt.set d (.bool true))) (F (vt.set d (.bool false)))
   |_=>F vt
def Im:List Stp->List Value->Xm->Prop
 |[],vt,m=>K vt m
 | (j,fr,al)::js,vt,m=>
  match ops[j]? with
  |none=>False
  |some o=>Aa8 ops o vt fun vt=>
   match RE P ops ids cl dd two j o vt m with
   |some v=>FT fr (Im js (BJ vt o.dst v) m)
   |none=>FT al (FT ((vw (ids j) o (VE vt)).all (fun k=>!gco cl dd two o k)) (va P tbl (ids j) o (VE vt) m (fun v m'=>Im js (BJ vt o.dst v) m')))
end
section
variable {P:Program} {tbl:List (Ct P)} {ops:Array Oper} {ids:Nat->Nat} {cl dd:Nat->Bool} {two:Bool} {m0:Xm} {K:List Value->Xm->Prop}
theorem MQ(ht:two=true->MO ops=true){listed:Array Bool}(hD:Dn ops listed){i:Nat}(hi:i∈Region.ready .any ops listed){vt:List Value}{m:Xm}{K:List Value->Xm->Prop}(hS:SS ops cl dd two listed m0 m)(h:IW P tbl ops ids cl dd two i vt m K):
    IW P tbl ops ids cl dd two i vt m (fun vt' m'=>SS ops cl dd two (listed.setIfInBounds i true) m0 m'/\K vt' m'):=by
 unfold IW at h ⊢
 split at h
 ·exact h
 ·rename_i o ho
  split at h
  ·exact⟨hS.next i,h⟩
  ·rw [Be]at h ⊢
   refine⟨h.1,J4 ?_ (Aiu h.2)⟩
   rintro v m' ⟨h1,h2⟩
   refine⟨fun k hk=>?_,h1⟩
   rw[h2 k ?_]
   ·exact hS.next i k hk
   ·intro hmem
    have hg:=List.all_eq_true.1 h.1 k hmem
    unfold gco at hg
    rcases hk with hk |⟨hk,hf⟩
    ·rw[hk]at hg
     cases hg
    ·cases hs:Aa5 o with
     |false=>
      rw[hs,hk]at hg
      simp at hg
     | true=>
      have h2:two=true:=by
       rw[Bool.and_eq_true]at hk
       exact hk.1
      exact hf (hD.full (ht h2) hi ho hs).mono
theorem RZ(ht:two=true->MO ops=true){i:Nat}{oi:Oper}{v:Value}(hi:ops[i]? =some oi)(hsel:∀(j:Nat) (o:Oper) cs b,ops[j]? =some o->o.op≠.select cs b):
    ∀ (fuel:Nat) (listed:Array Bool) (vt:List Value) (m:Xm),Dn ops listed->
      (∀j oj,ops[j]? =some oj->j≠i->listed.getD j true=false->(∀e∈oj.after,Region.binds .any e=true->e.on≠i)->oi.apart ops oj=true)->
      i∈Region.ready .any ops listed->RE P ops ids cl dd two i oi vt m=some v->SS ops cl dd two listed m0 m->
      N1 P tbl ops ids cl dd two m0 K fuel (listed.setIfInBounds i true) (BJ vt oi.dst v) m->N1 P tbl ops ids cl dd two m0 K (fuel+1) listed vt m:=by
 have self:∀(vt:List Value) (m:Xm) (K:List Value->Xm->Prop),RE P ops ids cl dd two i oi vt m=some v->K (BJ vt oi.dst v) m->IW P tbl ops ids cl dd two i vt m K:=fun vt m K hq h=>by
  unfold IW
  rw[hi]
  dsimp only
  rw[hq]
  exact h
 intro fuel
 induction fuel with
 | zero=>
  intro listed vt m hD _ hr hq hS H
  refine⟨fun h=>(by rw[h]at hr;cases hr),fun j hj=>?_⟩
  by_cases hji:j=i
  ·subst hji;exact self _ _ _ hq ⟨hS.next _,H⟩
  ·have:=ready_mono hj hji
   rw[H.1]at this
   cases this
 | succ fuel ih=>
  intro listed vt m hD hfree hr hq hS H
  refine⟨fun h=>(by rw[h]at hr;cases hr),fun j hj=>?_⟩
  by_cases hji:j=i
  ·subst hji;exact self _ _ _ hq ⟨hS.next _,H⟩
  ·have h1:=H.2 j (ready_mono hj hji)
   obtain⟨hjun,oj,hoj,hall⟩:=mem_ready.1 hj
   have hiun:=(mem_ready.1 hr).1
   have hnot:∀e∈oj.after,Region.binds .any e=true->e.on≠i:=fun e he hb heq=>by
    have h1:=hall e he hb
    have h0:=(mem_ready.1 hr).1
    rw[heq]at h1
    rcases Nat.lt_or_ge i listed.size with h' |h'
    ·simp[h']at h0 h1;rw[h0]at h1;cases h1
    ·simp[Array.getElem?_eq_none h']at h1
   obtain⟨ap1,ap2,ap3⟩:=Oper.apart_spec (hfree j oj hoj hji hjun hnot)
   have hfree':∀k ok,ops[k]? =some ok->k≠i->(listed.setIfInBounds j true).getD k true=false->
       (∀e∈ok.after,Region.binds .any e=true->e.on≠i)->oi.apart ops ok=true:=fun k ok hk hki hun hno=>by
    refine hfree k ok hk hki ?_ hno
    by_cases hjk:j=k
    ·subst hjk;exact hjun
    ·rw[getD_set_ne true hjk]at hun;exact hun
   have again:∀(u:Value) (m':Xm),SS ops cl dd two (listed.setIfInBounds j true) m0 m'->N1 P tbl ops ids cl dd two m0 K fuel ((listed.setIfInBounds i true).setIfInBounds j true) (BJ (BJ vt oi.dst v) oj.dst u) m'->
       N1 P tbl ops ids cl dd two m0 K (fuel+1) (listed.setIfInBounds j true) (BJ vt oj.dst u) m':=by
    intro u m' hS' h3
    refine ih (listed.setIfInBounds j true) (BJ vt oj.dst u) m' (hD.next hj) hfree' (ready_mono hr (Ne.symm hji)) ?_ hS' ?_
    ·rw[<-hq]
     unfold RE
     rw[Jy ap3,NX (hsel i oi · · hi) (fun k hk=>?_) (Ik ap3)]
     have un:∀l:Array Bool,l.getD i true=false->Aiw oi=true->¬MP ops l:=fun l hl hld hf=>by
      have:=hf i (Array.getElem?_eq_some_iff.1 hi).1 (by rw[Aiy hi];exact hld)
      rw[hl]at this
      cases this
     unfold lco at hk
     rw[Bool.or_eq_true,Bool.and_eq_true]at hk
     have e1:m'[k]? =m0[k]? :=hS' k (hk.imp id (fun x=>⟨x.2,un _ (by rw[getD_set_ne true hji];exact hiun) x.1⟩))
     have e2:m[k]? =m0[k]? :=hS k (hk.imp id (fun x=>⟨x.2,un _ hiun x.1⟩))
     rw[e1,e2]
    ·rw[Array.setIfInBounds_comm _ _ hji,Xx (fun d hd he=>ap2 d he hd)]
     exact h3
   have h1:IW P tbl ops ids cl dd two j vt m (fun vt' m'=>∃u,vt'=BJ vt oj.dst u/\N1 P tbl ops ids cl dd two m0 K fuel ((listed.setIfInBounds i true).setIfInBounds j true) (BJ (BJ vt oi.dst v) oj.dst u) m'):=by
    unfold IW at h1 ⊢
    rw[hoj]at h1 ⊢
    dsimp only at h1 ⊢
    have eq:RE P ops ids cl dd two j oj (BJ vt oi.dst v) m=RE P ops ids cl dd two j oj vt m:=by
     unfold RE
     rw[Jy ap1,NX (hsel j oj · · hoj) (fun _ _=>rfl) (Ik ap1)]
    rw[eq]at h1
    cases hqj:RE P ops ids cl dd two j oj vt m with
    |some u=>
     rw[hqj]at h1
     exact⟨u,rfl,h1.2⟩
    |none=>
     rw[hqj]at h1
     dsimp only at h1 ⊢
     rw[Be]at h1 ⊢
     rw[Ait (Ik ap1),Ais (hsel j oj · · hoj) (Ik ap1)]at h1
     refine⟨h1.1,J4 ?_ h1.2⟩
     rintro u m' ⟨_,h3⟩
     exact⟨u,rfl,h3⟩
   have h2:=MQ ht hD hj hS h1
   unfold IW at h2 ⊢
   rw[hoj]at h2 ⊢
   dsimp only at h2 ⊢
   split at h2
   ·obtain⟨hS',u,he,h3⟩:=h2
    rw[he]
    exact⟨hS',again u m hS' h3⟩
   ·rw[Be]at h2 ⊢
    refine⟨h2.1,J4 ?_ h2.2⟩
    rintro w m' ⟨hS',u,he,h3⟩
    rw[he]
    exact⟨hS',again u m' hS' h3⟩
theorem KH{o:Oper}{vt:List Value}{F:List Value->Prop}:Aa8 ops o vt F↔F vt:=by
 unfold Aa8
 split
 ·exact Iff.rfl
 ·split
  ·exact Iff.rfl
  ·rename_i d _
   split
   ·rename_i x hx
    have e:vt.set d (.bool x)=vt:=by
     have hl:d<vt.length:=by
      rcases Nat.lt_or_ge d vt.length with h |h
      ·exact h
      ·rw[List.getD_eq_getElem?_getD,List.getElem?_eq_none h]at hx
       cases hx
     rw[List.getD_eq_getElem?_getD,List.getElem?_eq_getElem hl,Option.getD_some]at hx
     rw[<-hx]
     exact List.set_getElem_self hl
    cases x
    ·show F (vt.set d (.bool false))↔_
     rw[e]
    ·show F (vt.set d (.bool true))↔_
     rw[e]
   ·exact Iff.rfl
theorem IX(ht:two=true->MO ops=true)(hsel:Region.noSelect ops=true):∀(js:List Stp) (listed:Array Bool) (vt:List Value) (m:Xm),Run ops js listed->Dn ops listed->SS ops cl dd two listed m0 m->Im P tbl ops ids cl dd two K js vt m->N1 P tbl ops ids cl dd two m0 K js.length listed vt m
 |[],listed,vt,m,hr,_,_,h=>⟨hr,h⟩
 | (j,fr,al)::js,listed,vt,m,hr,hD,hS,h=>by
  obtain⟨hj,hfr,hal,hrun⟩:=hr
  have hnext:=hD.next hj
  unfold Im at h
  split at h
  ·exact h.elim
  ·rename_i o ho
   rw[KH]at h
   split at h
   ·rename_i v hv
    rw[Be]at h
    exact RZ ht ho (Region.noSelect_spec hsel) js.length listed vt m hD (Region.free_spec ho (hfr h.1)) hj hv hS (IX ht hsel js _ _ _ hrun hnext (hS.next _) h.2)
   ·rename_i hv
    rw[Be]at h
    refine⟨fun e=>(by rw[e]at hj;cases hj),fun k hk=>?_⟩
    have hk2:=hal h.1 k hk
    dsimp only at hk2
    subst hk2
    have h2:IW P tbl ops ids cl dd two k vt m (fun vt' m'=>Im P tbl ops ids cl dd two K js vt' m'):=by
     unfold IW
     rw[ho]
     dsimp only
     rw[hv]
     exact h.2
    have h2:=MQ ht hD hj hS h2
    unfold IW at h2 ⊢
    rw[ho]at h2 ⊢
    dsimp only at h2 ⊢
    rw[hv]at h2 ⊢
    dsimp only at h2 ⊢
    rw[Be]at h2 ⊢
    exact⟨h2.1,J4 (fun v m' h3=>⟨h3.1,IX ht hsel js _ _ _ hrun hnext h3.1 h3.2⟩) h2.2⟩
end
section
variable {P:Program} {tbl:List (Ct P)} {bs:List Nat} {w0:World} {rs:Xm} {Q:Exit->Act->World->Prop} {ops:Array Oper} {base:Nat} {K:List Value->Xm->Prop} {ds:List Deferred} {ln:Nat} {bl0:Bl} {cl dd:Nat->Bool} {two:Bool} {m0:Xm}
theorem Hb(hK:∀bl vt m a w,K vt m->FR bl vt a.tmps->RW bs w0 bl m w->Le bl0 bl->bl.length=ln->m.length=ln->a.defers=ds->Q .normal a w):
    ∀ (fuel:Nat) (listed:Array Bool) (bl:Bl) (vt:List Value) (m:Xm) (a:Act) (w:World),N1 P tbl ops (Ha base ops) cl dd two m0 K fuel listed vt m->FR bl vt a.tmps->RW bs w0 bl m w->Nw rs bl m->
      (∀i,listed.getD i true=false->KD P rs ops (Ha base ops) bl i)->Le bl0 bl->bl.length=ln->m.length=ln->a.defers=ds->wpAny P .any ops Q fuel listed a w
 |0,_,bl,vt,m,a,w,h,F,R,_,_,hle,hl,hml,hd=>⟨h.1,hK bl vt m a w h.2 F R hle hl hml hd⟩
 | fuel+1,listed,bl,vt,m,a,w,h,F,R,N,hf,hle,hl,hml,hd=>by
  refine⟨fun e=>hK bl vt m a w (h.1 e) F R hle hl hml hd,fun i hi=>?_⟩
  have h1:=h.2 i hi
  obtain⟨hun,o,ho,_⟩:=mem_ready.1 hi
  have hfi:=hf i hun o ho
  have later:∀j,(listed.setIfInBounds i true).getD j true=false->j≠i/\listed.getD j true=false:=by
   intro j hj
   by_cases e:i=j
   ·subst e
    exfalso
    by_cases hs:i<listed.size
    ·simp[hs]at hj
    ·simp[Array.getElem?_eq_none (show listed.size<=i by omega)]at hun
   ·rw[getD_set_ne true e]at hj
    exact⟨fun x=>e x.symm,hj⟩
  have next:∀a' w',KC bs w0 rs bl m vt a (Ha base ops i) o (fun v m'=>SS ops cl dd two (listed.setIfInBounds i true) m0 m'/\N1 P tbl ops (Ha base ops) cl dd two m0 K fuel (listed.setIfInBounds i true) (BJ vt o.dst v) m') a' w'->wpAny P .any ops Q fuel (listed.setIfInBounds i true) a' w':=by
   rintro a' w' ⟨bl',v,m',hbl,hmm,hle',h2,h3,hdef,F',R',N',_,hK'⟩
   exact Hb hK fuel _ bl' _ m' a' w' hK' F' R' N' (fun j hj=>(hf j (later j hj).2).next ho (fun e=>(later j hj).1 e.symm) h2 h3) (hle.trans hle') (hbl.trans hl) (hmm.trans hml) (hdef.trans hd)
  unfold IW at h1
  unfold wpOp
  rw[ho]at h1 ⊢
  dsimp only at h1 ⊢
  rw[MN F]
  cases hw:Region.wanted o (Bb ops vt)with
  | true=>
   rw[if_pos rfl]
   refine .inl (Oper.wp_mono next ?_)
   split at h1
   ·rename_i v hv
    unfold RE at hv
    rw[hw]at hv
    exact Aaz hv F R N hfi h1
   ·rw[Be]at h1
    exact Ane h1.2 F R N hfi
  |false=>
   rw[if_neg (by decide)]
   have hv:RE P ops (Ha base ops) cl dd two i o vt m=some undef:=by unfold RE;rw[hw]
   rw[hv]at h1
   exact Hb hK fuel _ bl _ m _ w h1.2 (F.put (.same rfl) _) R N (fun j hj=>hf j (later j hj).2) hle hl hml ((AJ _ _ _).trans hd)
end
def AK(P:Program)(ops:Array Oper):List (List Value):=(ops.toList.filter CB).map fun o=>match o.op with
 | .alloc t=>(match qrun P (zeroValue t)with
  |some z=>z.cells.toList
  |none=>[])
 |_=>[]
def PQ(P:Program)(ops:Array Oper):Bool:=ops.toList.all fun o=>match o.op with
 | .alloc t=>(qrun P (zeroValue t)).isSome
 |_=>true
theorem MR{α:Type}(p:α->Bool):∀(l:List α) (i:Nat) (x:α),l[i]? =some x->p x=true->(l.filter p)[((l.take i).filter p).length]? =some x
 |[],i,x,h,_=>by simp at h
 |y::ys,0,x,h,hp=>by
  simp at h
  subst h
  simp[hp]
 |y::ys,i+1,x,h,hp=>by
  have ih:=MR p ys i x (by simpa using h) hp
  rw[List.take_succ_cons,List.filter_cons,List.filter_cons]
  split
  ·simpa using ih
  ·exact ih
theorem N2{bl:Bl}{n k B:Nat}(h:(bl++List.replicate n none)[k]? =some (some B)):bl[k]? =some (some B):=by
 by_cases hk:k<bl.length
 ·rwa [List.getElem?_append_left hk]at h
 ·rw[List.getElem?_append_right (by omega)]at h
  have:=(List.getElem?_eq_some_iff.1 h).2
  rw[List.getElem_replicate]at this
  cases this
theorem RW.wide{bs:List Nat}{w0:World}{bl:Bl}{m:Xm}{w:World}(h:RW bs w0 bl m w)(n:Nat)(ns:Xm):RW bs w0 (bl++List.replicate n none) (m++ns) w:=by
 refine⟨fun k B hk=>?_,fun i j B hi hj=>h.inj i j B (N2 hi) (N2 hj),fun k B hk=>(h.own k B (N2 hk)).imp id (Or.imp id fun e=>by rw[List.getElem?_append_left (List.getElem?_eq_some_iff.1 e).1];exact e),h.os,h.tape,h.output,h.size,h.block,h.gw⟩
 obtain⟨l,h1,A⟩:=h.arr k B (N2 hk)
 exact⟨l,by rw[List.getElem?_append_left (List.getElem?_eq_some_iff.1 h1).1];exact h1,A⟩
theorem Le.wide(bl:Bl)(n:Nat):Le bl (bl++List.replicate n none):=fun k B hk=>by
 rw[List.getElem?_append_left (List.getElem?_eq_some_iff.1 hk).1]
 exact hk
theorem FU{P:Program}{ops:Array Oper}{bl:Bl}{m:Xm}(hl:bl.length=m.length)(hr:PQ P ops=true)(i:Nat):
    KD P (m++AK P ops) ops (Ha m.length ops) (bl++List.replicate (AK P ops).length none) i:=by
 intro o ho hn
 have hfil:=MR CB ops.toList i o (by simpa using ho) hn
 have hlen:(AK P ops).length=(ops.toList.filter CB).length:=by unfold AK;rw[List.length_map]
 have hlt:=(List.getElem?_eq_some_iff.1 hfil).1
 refine⟨?_,?_⟩
 ·unfold Ha
  rw[List.getElem?_append_right (by omega),<-hl,Nat.add_sub_cancel_left]
  rw[List.getElem?_eq_getElem (by rw[List.length_replicate];omega),List.getElem_replicate]
 ·have e:(m++AK P ops)[Ha m.length ops i]? =(AK P ops)[((ops.toList.take i).filter CB).length]? :=by
   unfold Ha
   rw[List.getElem?_append_right (by omega),Nat.add_sub_cancel_left]
  rw[e]
  unfold AK
  rw[List.getElem?_map,hfil]
  refine⟨_,rfl,fun t ht=>?_⟩
  have h2:=List.all_eq_true.1 hr o (by
   have:=Array.mem_of_getElem? ho
   simpa using this)
  dsimp only
  rw[ht]at h2 ⊢
  dsimp only at h2 ⊢
  cases hz:qrun P (zeroValue t)with
  |none=>rw[hz]at h2;cases h2
  |some z=>exact⟨z,rfl,rfl⟩
def Sa(dirty:List Nat)(base:Nat)(m0:Xm)(k:Nat):Bool:=
 match m0[k]? with
 |some [.bool _]=>Nat.blt k base&&dirty.contains (k+1000)
 |_=>Nat.blt k base&& !dirty.contains k
def ddB(dirty:List Nat)(base:Nat)(m0:Xm)(k:Nat):Bool:=
 match m0[k]? with
 |some [.bool _]=>false
 |_=>Nat.blt k base&&dirty.contains k
def FV(ops:List Oper)(vt:List Value):Nat->Operand->Option Nat
 |0,_=>none
 | n+1,.tmp d=>
  match ops.find? (fun o=>o.dst==some d)with
  |some o=>(match o.op with
   | .fieldAddr _ x _=>FV ops vt n x
   | .indexAddr _ x _=>FV ops vt n x
   | .nilCheck x=>FV ops vt n x
   | .move x=>FV ops vt n x
   |_=>none)
  |none=>(match vt.getD d undef with
   | .pointer (some a)=>some a.block
   |_=>none)
 |_,_=>none
def Cu(ops:List Oper)(vt:List Value):List Nat:=ops.filterMap fun o=>match o.op with
 | .store _ x _=>FV ops vt 6 x
 |_=>none
def D6(P:Program)(tbl:List (Ct P))(dirty:Nat->List Nat)(id:Nat)(ops:Array Oper)(draw:Bool)(K:List Value->Xm->Prop)(vt:List Value)(m:Xm):Prop:=
 match PQ P ops,draw with
 |true,false=>D5 P tbl ops (Ha m.length ops) K (List.range ops.size) vt (m++AK P ops)
 |true,true=>
  match Region.noSelect ops,sch ops with
  |true,some js=>FT (Nat.beq js.length ops.size) (Im P tbl ops (Ha m.length ops) (Sa (dirty id++Cu ops.toList vt) m.length (m++AK P ops)) (ddB (dirty id++Cu ops.toList vt) m.length (m++AK P ops)) (MO ops) K js vt (m++AK P ops))
  |_,_=>False
 |false,_=>False
section
variable {P:Program} {tbl:List (Ct P)} {bs:List Nat} {w0:World} {ds:List Deferred} {dirty:Nat->List Nat} {bl0:Bl}
structure Rl(bs:List Nat)(w0:World)(ds:List Deferred)(bl0 bl:Bl)(vt:List Value)(m:Xm)(a:Act)(w:World):Prop where
 F:FR bl vt a.tmps
 R:RW bs w0 bl m w
 le:Le bl0 bl
 len:bl.length=m.length
 defers:a.defers=ds
theorem Dz(hm:P.follows .mixedOrders=true){id:Nat}{ops:Array Oper}{draw:Bool}{K:List Value->Xm->Prop}{Q:Exit->Act->World->Prop}(hK:∀bl vt m a w,K vt m->Rl bs w0 ds bl0 bl vt m a w->Q .normal a w)
    {bl:Bl} {vt:List Value} {m:Xm} {a:Act} {w:World} (h:D6 P tbl dirty id ops draw K vt m) (r:Rl bs w0 ds bl0 bl vt m a w):(Code.region id ops draw).wp P Q a w:=by
 unfold D6 at h
 cases hr:PQ P ops
 ·rw[hr]at h
  exact h.elim
 rw[hr]at h
 cases draw
 ·dsimp only at h
  refine wp_region (Ek (ds:=ds) (rs:=m++AK P ops) (ln:=m.length+(AK P ops).length) (fun bl vt m a w hk F R hle h1 h2 h3=>hK bl vt m a w hk ⟨F,R,hle,h1.trans h2.symm,h3⟩) _ _ vt _ a w List.nodup_range h (r.F.mono (Le.wide bl (AK P ops).length)) (r.R.wide _ _) (fun _ _=>rfl) (fun i _=>FU r.len hr i) (r.le.trans (Le.wide bl _)) ?_ ?_ r.defers)
  ·rw[List.length_append,List.length_replicate,r.len]
  ·rw[List.length_append]
 ·dsimp only at h
  split at h
  ·rename_i js hs hsch
   rw[Be]at h
   have hn:Dn ops (Array.replicate ops.size false):=fun j hj=>by
    exfalso
    by_cases hl:j<ops.size
    ·simp[hl]at hj
    ·simp[Array.getElem?_eq_none (show(Array.replicate ops.size false).size<=j by simp;omega)]at hj
   have h2:=IX (m0:=m++AK P ops) (fun e=>e) hs _ _ _ _ (Aoy hsch) hn (fun _ _=>rfl) h.2
   rw[Nat.eq_of_beq_eq_true h.1]at h2
   refine wp_region_any hm (Hb (ds:=ds) (rs:=m++AK P ops) (ln:=m.length+(AK P ops).length) (fun bl vt m a w hk F R hle h1 h2 h3=>hK bl vt m a w hk ⟨F,R,hle,h1.trans h2.symm,h3⟩) _ _ _ vt _ a _ h2 (r.F.mono (Le.wide bl (AK P ops).length)) (r.R.wide _ _).drew (fun _ _=>rfl) (fun i _=>FU r.len hr i) (r.le.trans (Le.wide bl _)) ?_ ?_ r.defers)
   ·rw[List.length_append,List.length_replicate,r.len]
   ·rw[List.length_append]
  ·exact h.elim
end
abbrev VQ:=Exit->List Value->Xm->Prop
def Io:Nat->(VQ->List Value->Xm->Prop)->VQ->List Value->Xm->Prop
 |0,_,_,_,_=>False
 |n+1,G,Q,vt,m=>G (fun e vt' m'=>match e with
  | .normal=>Io n G Q vt' m'
  |e=>Q e vt' m') vt m
def vset(vt:List Value)(c:Operand)(b:Bool):List Value:=
 match c with
 | .tmp t=>vt.set t (.bool b)
 |_=>vt
theorem FR.vset{bl:Bl}{vt:List Value}{tm:Array Value}(h:FR bl vt tm){c:Operand}{b:Bool}(hc:VE vt c=.bool b):FR bl (vset vt c b) tm:=by
 cases c with
 |tmp t=>exact h.setSame hc
 |_=>exact h
def MS(P:Program)(tbl:List (Ct P))(dirty:Nat->List Nat)(n:Nat):Code->VQ->List Value->Xm->Prop
 | .skip,Q,vt,m=>Q .normal vt m
 | .region id ops draw,Q,vt,m=>D6 P tbl dirty id ops draw (Q .normal) vt m
 | .seq x y,Q,vt,m=>MS P tbl dirty n x (fun e vt' m'=>match e with
  | .normal=>MS P tbl dirty n y Q vt' m'
  |e=>Q e vt' m') vt m
 | .cond c x y,Q,vt,m=>(match Pr c,VE vt c with
  |true,.bool b=>DY b (MS P tbl dirty n x Q (vset vt c true) m) (MS P tbl dirty n y Q (vset vt c false) m)
  |_,_=>False)
 | .block id c,Q,vt,m=>MS P tbl dirty n c (fun e vt' m'=>match e with
  | .exit id'=>if id'=id then Q .normal vt' m' else Q (.exit id') vt' m'
  |e=>Q e vt' m') vt m
 | .loop c,Q,vt,m=>Io n (MS P tbl dirty n c) Q vt m
 | .exit id,Q,vt,m=>Q (.exit id) vt m
 | .label _,Q,vt,m=>Q .normal vt m
 | .ret,Q,vt,m=>Q .ret vt m
 |_,_,_,_=>False
section
variable {P:Program} {tbl:List (Ct P)} {bs:List Nat} {w0:World} {ds:List Deferred} {dirty:Nat->List Nat} {n:Nat} {bl0:Bl}
def N3(bs:List Nat)(w0:World)(ds:List Deferred)(bl0:Bl)(Q:VQ)(Q':Exit->Act->World->Prop):Prop:=∀e bl vt m a w,Q e vt m->Rl bs w0 ds bl0 bl vt m a w->Q' e a w
theorem Xz(hm:P.follows .mixedOrders=true):∀(c:Code) (Q:VQ) (Q':Exit->Act->World->Prop) (bl:Bl) (vt:List Value) (m:Xm) (a:Act) (w:World),N3 bs w0 ds bl0 Q Q'->MS P tbl dirty n c Q vt m->Rl bs w0 ds bl0 bl vt m a w->c.wp P Q' a w:=by
 intro c
 induction c with
 |skip=>intro Q Q' bl vt m a w hQ h r;exact wp_skip (hQ _ bl vt m a w h r)
 |region id ops draw=>intro Q Q' bl vt m a w hQ h r;exact Dz hm (fun bl vt m a w hk hr=>hQ _ bl vt m a w hk hr) h r
 |seq x y ihx ihy=>
  intro Q Q' bl vt m a w hQ h r
  refine wp_seq (ihx _ _ bl vt m a w ?_ h r)
  intro e bl' vt' m' a' w' h' r'
  cases e with
  |normal=>exact ihy Q Q' bl' vt' m' a' w' hQ h' r'
  |exit id=>exact hQ _ bl' vt' m' a' w' h' r'
  |goto l=>exact hQ _ bl' vt' m' a' w' h' r'
  |ret=>exact hQ _ bl' vt' m' a' w' h' r'
  |panic ch=>exact hQ _ bl' vt' m' a' w' h' r'
  |outgrown=>exact hQ _ bl' vt' m' a' w' h' r'
 | cond c x y ihx ihy=>
  intro Q Q' bl vt m a w hQ h r
  unfold MS at h
  split at h
  ·rename_i b hok hb
   have hv:=r.F.eval hok
   rw[hb]at hv
   have hv:a.eval c=.bool b:=hv
   refine wp_cond_split hv (fun e=>?_) (fun e=>?_)
   ·subst e;exact ihx Q Q' bl _ m a w hQ h ⟨r.F.vset hb,r.R,r.le,r.len,r.defers⟩
   ·subst e;exact ihy Q Q' bl _ m a w hQ h ⟨r.F.vset hb,r.R,r.le,r.len,r.defers⟩
  ·exact h.elim
 | block id c ih=>
  intro Q Q' bl vt m a w hQ h r
  refine wp_block (ih _ _ bl vt m a w ?_ h r)
  intro e bl' vt' m' a' w' h' r'
  cases e with
  | exit id'=>
   dsimp only at h'
   unfold Exit.inBlock
   dsimp only
   split at h'
   ·rename_i e
    rw[if_pos e]
    exact hQ _ bl' vt' m' a' w' h' r'
   ·rename_i e
    rw[if_neg e]
    exact hQ _ bl' vt' m' a' w' h' r'
  |normal=>exact hQ _ bl' vt' m' a' w' h' r'
  |goto l=>exact hQ _ bl' vt' m' a' w' h' r'
  |ret=>exact hQ _ bl' vt' m' a' w' h' r'
  |panic ch=>exact hQ _ bl' vt' m' a' w' h' r'
  |outgrown=>exact hQ _ bl' vt' m' a' w' h' r'
 | loop c ih=>
  intro Q Q' bl vt m a w hQ h r
  refine wp_loop_rounds n ?_
  have key:∀k bl vt m a w,Io k (MS P tbl dirty n c) Q vt m->Rl bs w0 ds bl0 bl vt m a w->Code.rounds P c Q' k a w:=by
   intro k
   induction k with
   |zero=>intro bl vt m a w h _;exact h
   |succ k ihk=>
    intro bl vt m a w h r
    refine ih _ _ bl vt m a w ?_ h r
    intro e bl' vt' m' a' w' h' r'
    cases e with
    |normal=>exact ihk bl' vt' m' a' w' h' r'
    |exit id=>exact hQ _ bl' vt' m' a' w' h' r'
    |goto l=>exact hQ _ bl' vt' m' a' w' h' r'
    |ret=>exact hQ _ bl' vt' m' a' w' h' r'
    |panic ch=>exact hQ _ bl' vt' m' a' w' h' r'
    |outgrown=>exact hQ _ bl' vt' m' a' w' h' r'
  exact key n bl vt m a w h r
 |exit id=>intro Q Q' bl vt m a w hQ h r;exact wp_exit (hQ _ bl vt m a w h r)
 |label l=>intro Q Q' bl vt m a w hQ h r;exact wp_label (hQ _ bl vt m a w h r)
 |ret=>intro Q Q' bl vt m a w hQ h r;exact wp_ret (hQ _ bl vt m a w h r)
 |goto l=>intro Q Q' bl vt m a w _ h _;exact h.elim
 |scope c _=>intro Q Q' bl vt m a w _ h _;exact h.elim
 |refuse s=>intro Q Q' bl vt m a w _ h _;exact h.elim
 |rangeFunc f ps x y _ _=>intro Q Q' bl vt m a w _ h _;exact h.elim
end
def FW(P:Program)(vt:List Value)(m:Xm):ResultVar->Option Value
 | .tmp t=>if isP (vt.getD t undef)then none else some (vt.getD t undef)
 | .cell p t=>
  match vt.getD p undef with
  | .pointer (some ⟨k,off,none⟩)=>(match m[k]? with
   |some l=>FD P t l off
   |none=>none)
  |_=>none
def Mr(P:Program)(vt:List Value)(m:Xm):List ResultVar->Option (List Value)
 |[]=>some []
 |r::rs=>
  match FW P vt m r,Mr P vt m rs with
  |some v,some vs=>some (v::vs)
  |_,_=>none
def N4(P:Program)(fn:Func)(vt:List Value)(m:Xm):Option Value:=
 match Mr P vt m fn.results.toList with
 |some [v]=>some v
 |some vs=>some (.tuple vs.toArray)
 |none=>none
def resF(tm:Array Value):ResultVar->Sem Value
 | .tmp t=>pure (tm.getD t undef)
 | .cell a t=>do loadVar t (<-asAddr (tm.getD a undef))
section
variable {P:Program} {bs:List Nat} {w0:World} {bl:Bl} {vt:List Value} {m:Xm} {w:World} {tm:Array Value}
theorem Sd(F:FR bl vt tm)(R:RW bs w0 bl m w){r:ResultVar}{v:Value}(hv:FW P vt m r=some v):(resF tm r).run P w=.ok v w:=by
 cases r with
 | tmp t=>
  simp only[FW]at hv
  split at hv
  ·cases hv
  ·rename_i hp
   have e:=(F.rv t).plain (by simpa using hp)
   have hv:=Option.some.inj hv
   simp only[resF]
   rw[e,hv]
   simp
 | cell p t=>
  simp only[FW]at hv
  have hr:=F.rv p
  split at hv
  ·rename_i k off hk
   rw[hk]at hr
   obtain⟨B,hB,he⟩:=hr
   have he:tm.getD p undef=.pointer (some ⟨B,off,none⟩):=he
   split at hv
   ·rename_i l hl
    obtain⟨l2,e2,A⟩:=R.arr k B hB
    rw[hl]at e2
    cases e2
    have r1:=Gp hv A
    simp only[resF]
    rw[he]
    simp[asAddr,r1]
   ·cases hv
  ·cases hv
theorem PR(F:FR bl vt tm)(R:RW bs w0 bl m w):∀(rs:List ResultVar) (vs:List Value),Mr P vt m rs=some vs->(rs.mapM (resF tm)).run P w=.ok vs w
 |[],vs,h=>by
  cases h
  simp
 | r::rs,vs,h=>by
  unfold Mr at h
  split at h
  ·rename_i v us hv hus
   have e:=Option.some.inj h
   have ih:=PR F R rs us hus
   have h1:=Sd F R hv
   rw[List.mapM_cons]
   simp only[Sem.run_bind,h1,Result.andThen_ok,ih,<-e]
   rfl
  ·cases h
theorem Se(fn:Func)(tm:Array Value):results fn tm=(do let vs <-fn.results.mapM (resF tm);pure (if h:vs.size=1 then vs[0]else .tuple vs)):=rfl
theorem FX{fn:Func}{v:Value}(F:FR bl vt tm)(R:RW bs w0 bl m w)(h:N4 P fn vt m=some v):(results fn tm).run P w=.ok v w:=by
 unfold N4 at h
 rw[Se,Array.mapM_eq_mapM_toList]
 cases hvs:Mr P vt m fn.results.toList with
 |none=>rw[hvs]at h;cases h
 | some vs=>
  have r:=PR F R _ _ hvs
  rw[hvs]at h
  simp only[Sem.run_bind,Sem.run_map,r,Result.andThen_ok]
  match vs,h with
  |[u],h=>
   cases h
   simp
  |[],h=>
   cases h
   simp
  |x::y::zs,h=>
   cases h
   simp
end
theorem Sf{b:Nat}{bad:Bool}{w:World}(h:Fl b bad w):Ap b [.bool bad] w:=
 ⟨fun i hi=>by
  have:i=0:=by simp at hi;omega
  subst this
  exact h.cell,fun i hi=>by
  have:i=0:=by simp at hi;omega
  subst this
  exact h.free,h.lies⟩
theorem N5{b:Nat}{bad:Bool}{w:World}(h:Ap b [.bool bad] w):Fl b bad w:=⟨h.c 0 (by simp),h.f 0 (by simp),h.lies⟩
structure Dc(A:Type) where
 enc:A->Value
 dec:Value->Option A
 law:∀v x,dec v=some x->v=enc x
 np:∀x,isP (enc x)=false
structure Dl(A:Type) where
 enc:A->List Value
 dec:List Value->Option A
 law:∀v x,dec v=some x->v=enc x
 np:∀x,∀v∈enc x,isP v=false
def cI:Dc Int where
 enc x:=.int .i64 x
 dec v:=match v with
  | .int .i64 x=>some x
  |_=>none
 law v x h:=by
  split at h
  ·cases h;rfl
  ·cases h
 np _:=rfl
def cB:Dc Bool where
 enc x:=.bool x
 dec v:=match v with
  | .bool x=>some x
  |_=>none
 law v x h:=by
  split at h
  ·cases h;rfl
  ·cases h
 np _:=rfl
def cU:Dc Unit where
 enc _:=.tuple #[]
 dec v:=match v with
  | .tuple ⟨[]⟩=>some ()
  |_=>none
 law v x h:=by
  split at h
  ·rfl
  ·cases h
 np _:=rfl
def AV{A B:Type}(c:Dc A)(d:Dc B):Dc (A×B) where
 enc p:=.tuple #[c.enc p.1,d.enc p.2]
 dec v:=match v with
  | .tuple ⟨[x,y]⟩=>(match c.dec x,d.dec y with
   |some a,some b=>some (a,b)
   |_,_=>none)
  |_=>none
 law v x h:=by
  split at h
  ·split at h
   ·rename_i h1 h2
    cases h
    rw[c.law _ _ h1,d.law _ _ h2]
   ·cases h
  ·cases h
 np _:=rfl
def Ac{A:Type}(c:Dc A):Dl A where
 enc x:=[c.enc x]
 dec l:=match l with
  |[v]=>c.dec v
  |_=>none
 law v x h:=by
  split at h
  ·rw[c.law _ _ h]
  ·cases h
 np x v hv:=by
  rw[List.mem_singleton]at hv
  rw[hv]
  exact c.np x
def Ad{A B:Type}(c:Dc A)(d:Dl B):Dl (A×B) where
 enc x:=c.enc x.1::d.enc x.2
 dec l:=match l with
  |v::vs=>(match c.dec v,d.dec vs with
   |some a,some b=>some (a,b)
   |_,_=>none)
  |[]=>none
 law v x h:=by
  split at h
  ·split at h
   ·rename_i h1 h2
    cases h
    rw[c.law _ _ h1,d.law _ _ h2]
   ·cases h
  ·cases h
 np x v hv:=by
  rcases List.mem_cons.1 hv with e |e
  ·rw[e];exact c.np x.1
  ·exact d.np x.2 v e
def Anf:Dl Unit where
 enc _:=[]
 dec l:=match l with
  |[]=>some ()
  |_=>none
 law v x h:=by
  split at h
  ·rfl
  ·cases h
 np x v hv:=by cases hv
def ptr(b:Nat):Value:=.pointer (some ⟨b,0,none⟩)
def PK{R:Type}(k:Dc R)(Post:Value->Option Bool->Prop)(r:R×Bool):Prop:=Post (k.enc r.1) (some r.2)
def PJ{R:Type}(k:Dc R)(Post:Value->Prop)(r:R):Prop:=Post (k.enc r)
def Ba(P:Program)(fn:Nat){A R:Type}(d:Dl A)(g:Bool->A->R×Bool)(c:Dc R):Prop:=
 ∀b bad x w,GW w->7<b->Fl b bad w->Calls P fn (ptr b::d.enc x).toArray w fun e w'=>e=.returned (c.enc (g bad x).1)/\Fl b (g bad x).2 w'/\Aa b w w'
def Az(P:Program)(fn:Nat){A R:Type}(d:Dl A)(g:A->R)(c:Dc R):Prop:=
 ∀x w,GW w->Calls P fn (d.enc x).toArray w fun e w'=>e=.returned (c.enc (g x))/\Below w.heap.size w w'
def Cv(P:Program)(fn:Func)(Post:Value->Xm->Prop):VQ:=fun e vt m=>
 match e with
 | .normal=>(match N4 P fn vt m with
  |some v=>Post v m
  |none=>False)
 | .ret=>(match N4 P fn vt m with
  |some v=>Post v m
  |none=>False)
 |_=>False
section
variable {P:Program} {tbl:List (Ct P)} {dirty:Nat->List Nat} {n:Nat}
theorem Ip(hm:P.follows .mixedOrders=true){f:Nat}{fn:Func}{c:Code}(hf:P.funcs[f]? =some fn)(hb:fn.body=some c){bs:List Nat}{w:World}{bl:Bl}{m:Xm}{vargs:List Value}{args:Array Value}
    (R:RW bs w bl m w) (hl:bl.length=m.length) (hs:args.size=vargs.length) (hv:∀i,RV bl (vargs.getD i undef) (args.getD i undef)) {Post:Value->Xm->Prop}
    (h:MS P tbl dirty n c (Cv P fn Post) (vargs++List.replicate (fn.ntmps-vargs.length) undef) m):
    Calls P f args w fun e w'=>∃v bl' m',e=.returned v/\Post v m'/\RW bs w bl' m' w'/\Le bl bl':=by
 refine calls_of_wp hf hb (Xz (ds:=[]) (bl0:=bl) hm c _ _ bl _ m _ w ?_ h ⟨⟨?_,?_⟩,R,Le.refl _,hl,rfl⟩)
 ·intro e bl' vt' m' a' w' h' r'
  cases e with
  | normal=>
   simp only[Cv]at h'
   split at h'
   ·rename_i v hv
    exact⟨r'.defers,v,FX r'.F r'.R hv,v,bl',m',rfl,h',r'.R,r'.le⟩
   ·exact h'.elim
  | ret=>
   simp only[Cv]at h'
   split at h'
   ·rename_i v hv
    exact⟨r'.defers,v,FX r'.F r'.R hv,v,bl',m',rfl,h',r'.R,r'.le⟩
   ·exact h'.elim
  |exit id=>exact h'.elim
  |goto l=>exact h'.elim
  |panic ch=>exact h'.elim
  |outgrown=>exact h'.elim
 ·simp[hs]
 ·intro t
  by_cases ht:t<vargs.length
  ·have:=hv t
   simp only[List.getD_eq_getElem?_getD,Array.getD_eq_getD_getElem?]at this ⊢
   rw[List.getElem?_append_left ht,Array.getElem?_append_left (by omega)]
   exact this
  ·simp only[List.getD_eq_getElem?_getD,Array.getD_eq_getD_getElem?]
   rw[List.getElem?_append_right (by omega),Array.getElem?_append_right (by omega),hs]
   by_cases h2:t-vargs.length<fn.ntmps-vargs.length
   ·rw[List.getElem?_eq_getElem (by simpa using h2),Array.getElem?_eq_getElem (by simpa using h2)]
    simp
    rfl
   ·rw[List.getElem?_eq_none (by simpa using h2),Array.getElem?_eq_none (by simpa using h2)]
    rfl
def KI:Xm->Option Bool
 |[.bool b]::_=>some b
 |_=>none
theorem Jz{m:Xm}{b:Bool}(h:KI m=some b):m[0]? =some [.bool b]:=by
 unfold KI at h
 split at h
 ·cases h;rfl
 ·cases h
theorem VK(hm:P.follows .mixedOrders=true){f:Nat}{fn:Func}{c:Code}(hf:P.funcs[f]? =some fn)(hb:fn.body=some c){A R:Type}{d:Dl A}{g:Bool->A->R×Bool}{k:Dc R}
    (h:∀(bad:Bool) (x:A) (Post:Value->Option Bool->Prop),MS P tbl dirty n c (Cv P fn (fun v m=>Post v (KI m))) ((ptr 0::d.enc x)++List.replicate (fn.ntmps-(ptr 0::d.enc x).length) undef) [[.bool bad]]=PK k Post (g bad x)):Ba P f d g k:=by
 intro b bad x w hg hb1 hw
 have R:RW [b] w [some b] [[.bool bad]] w:=by
  refine⟨fun i B hi=>?_,fun i j B hi hj=>?_,fun i B hi=>?_,rfl,rfl,rfl,Nat.le_refl _,fun _ _ _=>rfl,hg,by simpa using hb1⟩
  ·match i,hi with
   |0,hi=>cases hi;exact⟨_,rfl,Sf hw⟩
  ·match i,j,hi,hj with
   |0,0,_,_=>rfl
  ·match i,hi with
   |0,hi=>cases hi;exact .inl List.mem_cons_self
 refine Calls.mono (Ip hm hf hb (vargs:=ptr 0::d.enc x) R rfl (by simp) (fun i=>?_) (Eq.mpr (h bad x (fun v o=>v=k.enc (g bad x).1/\o=some (g bad x).2)) (show _/\_ from⟨rfl,rfl⟩))) ?_
 ·cases i with
  |zero=>exact⟨b,rfl,rfl⟩
  | succ i=>
   by_cases hi:i<(d.enc x).length
   ·have:=d.np x _ (List.getElem_mem hi)
    simp only[List.getD_eq_getElem?_getD,Array.getD_eq_getD_getElem?]
    simp[hi]
    exact .same this
   ·simp only[List.getD_eq_getElem?_getD,Array.getD_eq_getD_getElem?]
    simp[hi]
    rfl
 ·rintro e w' ⟨v,bl',m2,rfl,⟨rfl,h2⟩,R',hle⟩
  obtain⟨l,e,A⟩:=R'.arr 0 b (hle 0 b rfl)
  rw[Jz h2]at e
  cases e
  exact⟨rfl,N5 A,R'.os,R'.tape,R'.output,R'.size,fun i hi hb=>R'.block i hi (by simpa using hb)⟩
theorem AS(hm:P.follows .mixedOrders=true){f:Nat}{fn:Func}{c:Code}(hf:P.funcs[f]? =some fn)(hb:fn.body=some c){A R:Type}{d:Dl A}{g:A->R}{k:Dc R}
    (h:∀(x:A) (Post:Value->Prop),MS P tbl dirty n c (Cv P fn (fun v _=>Post v)) (d.enc x++List.replicate (fn.ntmps-(d.enc x).length) undef) []=PJ k Post (g x)):Az P f d g k:=by
 intro x w hg
 have R:RW [] w [] [] w:=⟨fun i B hi=>(by cases hi),fun i j B hi=>(by cases hi),fun i B hi=>(by cases hi),rfl,rfl,rfl,Nat.le_refl _,fun _ _ _=>rfl,hg,fun b hb=>by cases hb⟩
 refine Calls.mono (Ip hm hf hb (vargs:=d.enc x) R rfl (by simp) (fun i=>?_) (Eq.mpr (h x (fun v=>v=k.enc (g x))) (show _=_ from rfl))) ?_
 ·by_cases hi:i<(d.enc x).length
  ·have:=d.np x _ (List.getElem_mem hi)
   simp only[List.getD_eq_getElem?_getD,Array.getD_eq_getD_getElem?]
   simp[hi]
   exact .same this
  ·simp only[List.getD_eq_getElem?_getD,Array.getD_eq_getD_getElem?]
   simp[hi]
   rfl
 ·rintro e w' ⟨v,bl',m2,rfl,rfl,R',_⟩
  exact⟨rfl,R'.os,R'.tape,R'.output,R'.size,fun i hi=>R'.block i hi (by simp)⟩
end
theorem RW.flow{bs:List Nat}{w0:World}{bl:Bl}{m:Xm}{w w':World}(h:RW bs w0 bl m w){k B:Nat}{bad bad':Bool}(hk:bl[k]? =some (some B))(hm:m[k]? =some [.bool bad])(F:Fl B bad' w')(K:Aa B w w'):RW bs w0 bl (m.set k [.bool bad']) w':=by
 have hkl:k<m.length:=(List.getElem?_eq_some_iff.1 hm).1
 refine⟨fun k' B' hk'=>?_,h.inj,fun k' B' hk'=>(h.own k' B' hk').imp id (Or.imp id fun e=>Kw e (fun e2=>by subst e2;rw[hm]at e;cases e)),K.os.trans h.os,K.tape.trans h.tape,K.output.trans h.output,Nat.le_trans h.size K.size,fun i hi hb=>?_,h.gw⟩
 ·by_cases e:k=k'
  ·subst e
   rw[hk]at hk'
   cases hk'
   exact⟨_,List.getElem?_set_self hkl,Sf F⟩
  ·obtain⟨l2,e2,A2⟩:=h.arr k' B' hk'
   exact⟨l2,by rw[List.getElem?_set_ne e];exact e2,A2.kept K (fun e3=>e (h.inj k k' B hk (e3▸hk')))⟩
 ·have hB:i≠B:=by
   rintro rfl
   rcases h.own k i hk with hb' |hb' |hb'
   ·exact hb hb'
   ·omega
   ·rw[hm]at hb'
    cases hb'
  rw[K.block i (by have:=h.size;omega) hB]
  exact h.block i hi hb
theorem RW.pure{bs:List Nat}{w0:World}{bl:Bl}{m:Xm}{w w':World}(h:RW bs w0 bl m w)(K:Below w.heap.size w w'):RW bs w0 bl m w':=
 ⟨fun k B hk=>let ⟨l,h1,A⟩:=h.arr k B hk;⟨l,h1,A.below K⟩,h.inj,h.own,K.os.trans h.os,K.tape.trans h.tape,K.output.trans h.output,Nat.le_trans h.size K.size,fun i hi hb=>by
  rw[K.block i (by have:=h.size;omega)]
  exact h.block i hi hb,h.gw⟩
theorem Gs{bl:Bl}{l:List Value}{args':Array Value}(hs:args'.size=l.length)(hv:∀i,RV bl (l.getD i undef) (args'.getD i undef))(hp:∀v∈l,isP v=false):args'=l.toArray:=by
 refine Array.ext (by simp[hs]) (fun i h1 h2=>?_)
 have hi:i<l.length:=by omega
 have:=hv i
 simp only[List.getD_eq_getElem?_getD,Array.getD_eq_getD_getElem?]at this
 rw[List.getElem?_eq_getElem hi,Array.getElem?_eq_getElem h1]at this
 simpa using this.plain (hp _ (List.getElem_mem hi))
def B7(P:Program)(fn:Nat){A R:Type}(d:Dl A)(g:Bool->A->R×Bool)(c:Dc R)(go:∀(args:Array Value) (w:World),(callFunc fn args).run P w=.ok (.enter fn args) w)(h:Ba P fn d g c):Ct P where
 fn:=fn
 sp:=fun args m K=>match args with
  | .pointer (some ⟨k,0,none⟩)::rest=>(match d.dec rest,m[k]? with
   |some x,some [.bool bad]=>K (c.enc (g bad x).1) (m.set k [.bool (g bad x).2])
   |_,_=>False)
  |_=>False
 go:=go
 mono:=fun hK hs=>by
  split at hs
  ·split at hs
   ·exact hK _ _ hs
   ·exact hs
  ·exact hs
 keep:=fun{args m K} hs=>by
  split at hs
  ·rename_i k rest
   split at hs
   ·refine⟨hs,List.length_set ..,fun k' hk'=>?_⟩
    have e:k≠k':=by rintro rfl;exact hk' (by simp[G9])
    rw[List.getElem?_set_ne e]
   ·exact hs
  ·exact hs
 ok :=fun{bs w0 bl m w args args' K} R hlen hv hs=>by
  split at hs
  ·rename_i k rest
   split at hs
   ·rename_i x bad hd hmk
    have h0:=hv 0
    obtain⟨B,hB,he⟩:=h0
    have hrest:=d.law _ _ hd
    have hargs:args'=(ptr B::d.enc x).toArray:=by
     refine Array.ext (by rw[hlen,hrest];simp) (fun i h1 h2=>?_)
     cases i with
     |zero=>
      simp only[Array.getD_eq_getD_getElem?,Array.getElem?_eq_getElem h1]at he
      simpa [ptr]using he
     |succ i=>
      have hi:i<rest.length:=by simp at hlen;omega
      have:=hv (i+1)
      simp only[List.getD_eq_getElem?_getD,Array.getD_eq_getD_getElem?,List.getElem?_cons_succ]at this
      rw[List.getElem?_eq_getElem hi,Array.getElem?_eq_getElem h1]at this
      have e:=this.plain (d.np x _ (by rw[<-hrest];exact List.getElem_mem hi))
      simp only[Option.getD_some]at e
      rw[e]
      simp[hrest]
    obtain⟨l2,e2,A⟩:=R.arr k B hB
    have e2:m[k]? =some l2:=e2
    rw[hmk]at e2
    cases e2
    rw[hargs]
    refine Calls.mono (h B bad x w R.gwAt (R.gt hB hmk (List.cons_ne_nil _ _)) (N5 A)) ?_
    rintro e w' ⟨rfl,F,Kp⟩
    exact⟨_,_,_,rfl,.same (c.np _),hs,R.flow hB hmk F Kp⟩
   ·exact hs.elim
  ·exact hs.elim
def AH(P:Program)(fn:Nat){A R:Type}(d:Dl A)(g:A->R)(c:Dc R)(go:∀(args:Array Value) (w:World),(callFunc fn args).run P w=.ok (.enter fn args) w)(h:Az P fn d g c):Ct P where
 fn:=fn
 sp:=fun args m K=>match d.dec args with
  |some x=>K (c.enc (g x)) m
  |none=>False
 go:=go
 mono:=fun hK hs=>by
  split at hs
  ·exact hK _ _ hs
  ·exact hs
 keep:=fun{args m K} hs=>by
  split at hs
  ·exact⟨hs,rfl,fun _ _=>rfl⟩
  ·exact hs
 ok:=fun{bs w0 bl m w args args' K} R hlen hv hs=>by
  split at hs
  ·rename_i x hd
   have hl:=d.law _ _ hd
   rw[Gs hlen hv (by rw[hl];exact d.np x),hl]
   refine Calls.mono (h x w R.gwAt) ?_
   rintro e w' ⟨rfl,Kp⟩
   exact⟨_,_,_,rfl,.same (c.np _),hs,R.pure Kp⟩
  ·exact hs.elim
theorem Af{P:Program}{f:Nat}{fn:Func}(hf:P.funcs[f]? =some fn)(h:(fn.name== "runtime.NumGoroutine")=false)(hb:fn.body.isNone=false)(args:Array Value)(w:World):(callFunc f args).run P w=.ok (.enter f args) w:=by
 have h1:fn.name≠ "runtime.NumGoroutine" :=by simpa using h
 have h2:fn.body≠none:=fun e=>by rw[e]at hb;cases hb
 unfold callFunc
 simp[program,Sem.run,hf,h1,h2]
def MU:Value->Option (Option IntKind×Nat)
 | .tuple ⟨[.int k (.ofNat _)]⟩=>some (some k,0)
 | .tuple ⟨[.int k (.negSucc n)]⟩=>some (some k,n+1)
 | .tuple ⟨[.bool _]⟩=>some (none,0)
 | .tuple ⟨[.float _ i]⟩=>some (none,i+1)
 |_=>none
def unk(k:IntKind):Value:=.tuple ⟨[.int k 0]⟩
def Atk(k:IntKind)(n:Nat):Value:=.tuple ⟨[.int k (.negSucc n)]⟩
def unkB:Value:=.tuple ⟨[.bool false]⟩
def As{α β:Type}(R:α->β->Prop):List α->List β->Prop
 |[],[]=>True
 |a::l,b::m=>R a b/\As R l m
 |_,_=>False
theorem As.len{α β:Type}{R:α->β->Prop}:∀{l:List α} {m:List β},As R l m->l.length=m.length
 |[],[],_=>rfl
 |_::_,_::_,h=>congrArg (·+1) h.2.len
 |[],_::_,h=>h.elim
 |_::_,[],h=>h.elim
theorem As.imp{α β:Type}{R S:α->β->Prop}(hi:∀a b,R a b->S a b):∀{l:List α} {m:List β},As R l m->As S l m
 |[],[],_=>trivial
 |_::_,_::_,h=>⟨hi _ _ h.1,As.imp hi h.2⟩
 |[],_::_,h=>h.elim
 |_::_,[],h=>h.elim
theorem As.get{α β:Type}{R:α->β->Prop}:∀{l:List α} {m:List β},As R l m->∀(i:Nat) (a:α),l[i]? =some a->∃b,m[i]? =some b/\R a b
 |[],[],_,i,a,h=>by simp at h
 |x::l,y::m,h,0,a,e=>⟨y,rfl,by simp at e;exact e▸h.1⟩
 |x::l,y::m,h,i+1,a,e=>by simpa using As.get h.2 i a (by simpa using e)
 |[],_::_,h,_,_,_=>h.elim
 |_::_,[],h,_,_,_=>h.elim
theorem As.set{α β:Type}{R:α->β->Prop}:∀{l:List α} {m:List β},As R l m->∀(i:Nat) (a:α) (b:β),R a b->As R (l.set i a) (m.set i b)
 |[],[],_,_,_,_,_=>trivial
 |_::_,_::_,h,0,_,_,r=>⟨r,h.2⟩
 |_::_,_::_,h,i+1,a,b,r=>⟨h.1,As.set h.2 i a b r⟩
 |[],_::_,h,_,_,_,_=>h.elim
 |_::_,[],h,_,_,_,_=>h.elim
theorem As.append{α β:Type}{R:α->β->Prop}:∀{l:List α} {m:List β} {l':List α} {m':List β},As R l m->As R l' m'->As R (l++l') (m++m')
 |[],[],_,_,_,h=>h
 |_::_,_::_,_,_,h,k=>⟨h.1,As.append h.2 k⟩
 |[],_::_,_,_,h,_=>h.elim
 |_::_,[],_,_,h,_=>h.elim
theorem As.drop{α β:Type}{R:α->β->Prop}:∀(n:Nat) {l:List α} {m:List β},As R l m->As R (l.drop n) (m.drop n)
 |0,_,_,h=>h
 |_+1,[],[],_=>trivial
 |n+1,_::_,_::_,h=>As.drop n h.2
 |_+1,[],_::_,h=>h.elim
 |_+1,_::_,[],h=>h.elim
theorem As.take{α β:Type}{R:α->β->Prop}:∀(n:Nat) {l:List α} {m:List β},As R l m->As R (l.take n) (m.take n)
 |0,_,_,_=>by simp[As]
 |_+1,[],[],_=>trivial
 |n+1,_::_,_::_,h=>⟨h.1,As.take n h.2⟩
 |_+1,[],_::_,h=>h.elim
 |_+1,_::_,[],h=>h.elim
theorem As.refl{α:Type}{R:α->α->Prop}:∀(l:List α),(∀a∈l,R a a)->As R l l
 |[],_=>trivial
 |a::l,h=>⟨h a List.mem_cons_self,As.refl l (fun b hb=>h b (List.mem_cons_of_mem _ hb))⟩
def plain:Value->Bool
 | .agg _=>false
 | .tuple ⟨_::_::_⟩=>false
 |_=>true
def loN(n:Nat):Int:=bif Nat.blt n 4611686018427387904 then 0 else-9223372036854775808
def G0(τ:Nat->Int)(t v:Value):Prop:=
 match MU t with
 |some (some k,0)=>∃x,v=.int k x
 |some (some k,n+1)=>∃x,v=.int k x/\loN n<=x/\x<=n
 |some (none,0)=>∃b,v=.bool b
 |some (none,i+1)=>v=.int .i64 (τ i)
 |none=>v=t/\plain t=true
def G1(τ:Nat->Int)(t v:Value):Prop:=
 match t with
 | .agg cs=>∃l,v=.agg ⟨l⟩/\As (G0 τ) cs.toList l
 |t=>G0 τ t v
def G2(τ:Nat->Int)(t v:Value):Prop:=
 match t with
 | .tuple ⟨a::b::r⟩=>∃l,v=.tuple ⟨l⟩/\As (G1 τ) (a::b::r) l
 |t=>G1 τ t v
section
variable {τ:Nat->Int}
theorem G0.eq{t v:Value}(h:G0 τ t v)(ht:MU t=none):v=t:=by
 unfold G0 at h
 rw[ht]at h
 exact h.1
theorem G0.same{t:Value}(ht:MU t=none)(hp:plain t=true):G0 τ t t:=by
 unfold G0
 rw[ht]
 exact⟨rfl,hp⟩
theorem G0.plain{t v:Value}(h:G0 τ t v):plain t=true:=by
 unfold G0 at h
 split at h
 ·rename_i e
  unfold MU at e
  split at e<;>cases e<;>rfl
 ·rename_i e
  unfold MU at e
  split at e<;>cases e<;>rfl
 ·rename_i e
  unfold MU at e
  split at e<;>cases e<;>rfl
 ·rename_i e
  unfold MU at e
  split at e<;>cases e<;>rfl
 ·exact h.2
def GO(t:Value):Bool:=(MU t).isNone&&Go.Proofs.YtgmpfeaanjnhaaaGreatDoor.plain t
def MV:Value->Bool
 | .agg cs=>cs.toList.all GO
 |t=>GO t
def JA:Value->Bool
 | .tuple ⟨a::b::r⟩=>(a::b::r).all MV
 |t=>MV t
theorem As.eq{R:Value->Value->Prop}{p:Value->Bool}(hp:∀t v,p t=true->R t v->v=t):∀{l m:List Value},As R l m->l.all p=true->m=l
 |[],[],_,_=>rfl
 |a::l,b::m,h,hr=>by
  simp only[List.all_cons,Bool.and_eq_true]at hr
  rw[hp a b hr.1 h.1,As.eq hp h.2 hr.2]
 |[],_::_,h,_=>h.elim
 |_::_,[],h,_=>h.elim
theorem PS(t v:Value)(hr:GO t=true)(h:G0 τ t v):v=t:=h.eq (by simp[GO]at hr;exact hr.1)
theorem PT(t v:Value)(hr:MV t=true)(h:G1 τ t v):v=t:=by
 unfold G1 at h
 unfold MV at hr
 split at h
 ·obtain⟨l,rfl,hl⟩:=h
  rw[hl.eq PS hr]
 ·rename_i hn
  split at hr
  ·exact absurd rfl (hn _)
  ·exact PS _ _ hr h
theorem KJ(t v:Value)(hr:JA t=true)(h:G2 τ t v):v=t:=by
 unfold G2 at h
 unfold JA at hr
 split at h
 ·obtain⟨l,rfl,hl⟩:=h
  rw[hl.eq PT hr]
 ·rename_i hn
  split at hr
  ·exact absurd rfl (hn _ _ _)
  ·exact PT _ _ hr h
theorem Fh{t:Value}(hr:GO t=true):G0 τ t t:=.same (by simp[GO]at hr;exact hr.1) (by simp[GO]at hr;exact hr.2)
theorem KL{t:Value}(hr:MV t=true):G1 τ t t:=by
 unfold MV at hr
 unfold G1
 split at hr
 ·exact⟨_,rfl,As.refl _ (fun a ha=>Fh (List.all_eq_true.1 hr a ha))⟩
 ·exact Fh hr
theorem BF{t:Value}(hr:JA t=true):G2 τ t t:=by
 unfold JA at hr
 unfold G2
 split at hr
 ·exact⟨_,rfl,As.refl _ (fun a ha=>KL (List.all_eq_true.1 hr a ha))⟩
 ·exact KL hr
theorem G0.g1{t v:Value}(h:G0 τ t v):G1 τ t v:=by
 have hp:=h.plain
 unfold G1
 split
 ·cases hp
 ·exact h
theorem G1.g2{t v:Value}(h:G1 τ t v):G2 τ t v:=by
 unfold G2
 split
 ·exact absurd (G0.plain h) (by simp[Go.Proofs.YtgmpfeaanjnhaaaGreatDoor.plain])
 ·exact h
theorem G0.g2{t v:Value}(h:G0 τ t v):G2 τ t v:=h.g1.g2
theorem G2.agg{cs:Array Value}{v:Value}(h:G2 τ (.agg cs) v):∃l,v=.agg ⟨l⟩/\As (G0 τ) cs.toList l:=h
theorem G2.ptr{a:Option Addr}{v:Value}(h:G2 τ (.pointer a) v):v=.pointer a:=h.1
theorem G2.int{k:IntKind}{x:Int}{v:Value}(h:G2 τ (.int k x) v):v=.int k x:=h.1
theorem G2.bool{b:Bool}{v:Value}(h:G2 τ (.bool b) v):v=.bool b:=h.1
def Dr:Value->Option IntKind
 | .int k _=>some k
 | .tuple ⟨[.int k _]⟩=>some k
 | .tuple ⟨[.float _ _]⟩=>some .i64
 |_=>none
def Ds:Value->Bool
 | .bool _=>true
 | .tuple ⟨[.bool _]⟩=>true
 |_=>false
theorem MW{t v:Value}{k:IntKind}(h:Dr t=some k)(g:G0 τ t v):∃x,v=.int k x:=by
 unfold Dr at h
 split at h
 ·cases h;exact⟨_,g.1⟩
 ·rename_i k' z
  cases h
  cases z with
  |ofNat n=>exact g
  |negSucc n=>obtain⟨x,e,_⟩:=g;exact⟨x,e⟩
 ·cases h;exact⟨_,g⟩
 ·cases h
theorem C7{t v:Value}{k:IntKind}(h:Dr t=some k)(g:G2 τ t v):∃x,v=.int k x:=by
 refine MW (τ:=τ) h ?_
 unfold Dr at h
 split at h
 ·exact g
 ·exact g
 ·exact g
 ·cases h
theorem C8{t v:Value}(h:Ds t=true)(g:G2 τ t v):∃x,v=.bool x:=by
 unfold Ds at h
 split at h
 ·exact⟨_,g.1⟩
 ·exact g
 ·cases h
theorem IY{t v:Value}(h:Ds t=true)(g:G0 τ t v):∃x,v=.bool x:=by
 unfold Ds at h
 split at h
 ·exact⟨_,g.1⟩
 ·exact g
 ·cases h
theorem G2.unk{k:IntKind}{x:Int}:G2 τ (unk k) (.int k x):=⟨x,rfl⟩
theorem G2.unkB{b:Bool}:G2 τ unkB (.bool b):=⟨b,rfl⟩
theorem G0.isP{t v:Value}(h:G0 τ t v):isP v=isP t:=by
 unfold G0 at h
 split at h
 ·rename_i k e
  obtain⟨x,rfl⟩:=h
  unfold MU at e
  split at e<;>cases e<;>rfl
 ·rename_i k n e
  obtain⟨x,rfl,_⟩:=h
  unfold MU at e
  split at e<;>cases e<;>rfl
 ·rename_i e
  obtain⟨x,rfl⟩:=h
  unfold MU at e
  split at e<;>cases e<;>rfl
 ·rename_i i e
  subst h
  unfold MU at e
  split at e<;>cases e<;>rfl
 ·rw[h.1]
theorem G1.isP{t v:Value}(h:G1 τ t v):isP v=isP t:=by
 unfold G1 at h
 split at h
 ·obtain⟨l,rfl,_⟩:=h;rfl
 ·exact h.isP
theorem G2.isP{t v:Value}(h:G2 τ t v):isP v=isP t:=by
 unfold G2 at h
 split at h
 ·obtain⟨l,rfl,_⟩:=h;rfl
 ·exact h.isP
structure GF(τ:Nat->Int)(at' vt:List Value):Prop where
 len:at'.length=vt.length
 g:∀t,G2 τ (at'.getD t undef) (vt.getD t undef)
structure GM(τ:Nat->Int)(am m:Xm):Prop where
 len:am.length=m.length
 g:∀(k:Nat) (l:List Value),am[k]? =some l->∃l',m[k]? =some l'/\As (G0 τ) l l'
def Z7:Operand->Bool
 | .const v=>!isP v&&JA v
 | .global _=>false
 |_=>true
theorem ED{x:Operand}(h:Z7 x=true):Pr x=true:=by
 cases x<;>simp[Z7,Pr]at h ⊢
 exact h.1
theorem GF.ev{at' vt:List Value}(h:GF τ at' vt){x:Operand}(hx:Z7 x=true):G2 τ (VE at' x) (VE vt x):=by
 match x,hx with
 | .tmp t,_=>exact h.g t
 | .const v,hx=>
  simp only[Z7,Bool.and_eq_true]at hx
  exact BF hx.2
 | .global g,hx=>cases hx
 | .func f,_=>exact BF rfl
theorem GF.set{at' vt:List Value}(h:GF τ at' vt)(d:Nat){t v:Value}(g:G2 τ t v):GF τ (at'.set d t) (vt.set d v):=by
 refine⟨by simp[h.len],fun i=>?_⟩
 have hl:=h.len
 simp only[List.getD_eq_getElem?_getD]
 by_cases e:d=i
 ·subst e
  by_cases hd:d<vt.length
  ·rw[List.getElem?_set_self (by omega),List.getElem?_set_self hd]
   exact g
  ·rw[List.getElem?_eq_none (by rw[List.length_set];omega),List.getElem?_eq_none (by rw[List.length_set];omega)]
   exact BF rfl
 ·rw[List.getElem?_set_ne e,List.getElem?_set_ne e]
  have:=h.g i
  simpa only[List.getD_eq_getElem?_getD]using this
theorem GF.put{at' vt:List Value}(h:GF τ at' vt)(d:Option Tmp){t v:Value}(g:G2 τ t v):GF τ (BJ at' d t) (BJ vt d v):=by
 cases d with
 |none=>exact h
 |some d=>exact h.set d g
theorem GM.set{am m:Xm}(h:GM τ am m)(k:Nat){l l':List Value}(g:As (G0 τ) l l'):GM τ (am.set k l) (m.set k l'):=by
 refine⟨by simp[h.len],fun i x hx=>?_⟩
 have hl:=h.len
 by_cases e:k=i
 ·subst e
  have hk:k<am.length:=by
   have:=(List.getElem?_eq_some_iff.1 hx).1
   simpa using this
  rw[List.getElem?_set_self hk]at hx
  cases hx
  exact⟨l',List.getElem?_set_self (by omega),g⟩
 ·rw[List.getElem?_set_ne e]at hx ⊢
  exact h.g i x hx
theorem GM.get{am m:Xm}(h:GM τ am m){k:Nat}{l:List Value}(e:am[k]? =some l){l':List Value}(e':m[k]? =some l'):As (G0 τ) l l':=by
 obtain⟨x,hx,g⟩:=h.g k l e
 rw[e']at hx
 cases hx
 exact g
end
theorem AI{P:Program}{α β:Type}(s:Sem α)(f:α->Sem β):qrun P (s >>= f)=(qrun P s).bind fun a=>qrun P (f a):=by
 show qrun P (Sem.bind s f)=_
 induction s with
 |pure a=>rfl
 |program k ih=>exact ih P
 |mark m k ih=>exact ih
 |_=>rfl
section
variable {P:Program} {τ:Nat->Int}
theorem DJ{o:Oper}{ρ:Operand->Value}{v:Value}(hp:∀x∈o.op.operands,isP (ρ x)=false)(hq:qrun P (execOp ρ o)=some (.value v))(hv:isP v=false):Bj P o ρ=some v:=by
 unfold Bj
 rw[if_pos (Array.all_eq_true_iff_forall_mem.2 (fun x hx=>by rw[hp x hx];rfl)),hq]
 simp[hv]
theorem Aa9{o:Oper}{ρ:Operand->Value}{v:Value}(h:Bj P o ρ=some v):(∀x∈o.op.operands,isP (ρ x)=false)/\qrun P (execOp ρ o)=some (.value v)/\isP v=false:=by
 unfold Bj at h
 split at h
 ·rename_i hp
  split at h
  ·rename_i u hq
   split at h
   ·cases h
   ·rename_i hu
    cases h
    exact⟨fun x hx=>by simpa using Array.all_eq_true_iff_forall_mem.1 hp x hx,hq,by simpa using hu⟩
  ·cases h
 ·cases h
def Ang:BinOp->Bool
 | .add=>true
 | .sub=>true
 | .mul=>true
 | .and=>true
 | .or=>true
 | .xor=>true
 | .andNot=>true
 |_=>false
def Anh:BinOp->Bool
 | .eql=>true
 | .neq=>true
 | .lss=>true
 | .leq=>true
 | .gtr=>true
 | .geq=>true
 |_=>false
def VL(P:Program)(t:TypeId):Bool:=
 match P.underlying t with
 |some .bool=>true
 |_=>false
def Ao0(P:Program)(op:BinOp)(t:TypeId)(x y:Value):Option Value:=
 match Dr x,Dr y with
 | some k,some k'=>
  if Ang op then(if k=k' then some (unk k)else none)
  else if Anh op then(if k=k' then some unkB else none)
  else match y with
   | .int _ n=>(match op with
    | .shl=>if 0<=n then some (unk k)else none
    | .shr=>if 0<=n then some (unk k)else none
    | .quo=>if k=k'/\n≠0 then some (unk k)else none
    | .rem=>if k=k'/\n≠0 then some (unk k)else none
    |_=>none)
   |_=>none
 | _,_=>if Ds x&&Ds y&&VL P t then(match op with
     | .eql=>some unkB
     | .neq=>some unkB
     |_=>none)else none
theorem Sg(op:BinOp)(t:TypeId)(x y:Operand)(k k':IntKind)(a b:Int):qrun P (eqGuard op t x y (.int k a) (.int k' b))=some ():=by
 cases op<;>rfl
theorem JB(op:BinOp)(t:TypeId)(x y:Operand)(a b:Bool):qrun P (eqGuard op t x y (.bool a) (.bool b))=some ():=by
 cases op<;>rfl
theorem XA(op:BinOp)(h:Ang op=true)(t:TypeId)(k:IntKind)(a b:Int):∃z,qrun P (binOp op t (.int k a) (.int k b))=some (.int k z):=by
 cases op<;>first |(cases k<;>exact⟨_,rfl⟩)|(cases h;done)
theorem Aiz(op:BinOp)(h:Anh op=true)(t:TypeId)(k:IntKind)(a b:Int):∃z,qrun P (binOp op t (.int k a) (.int k b))=some (.bool z):=by
 cases op<;>first |(cases k<;>exact⟨_,rfl⟩)|(cases h;done)
theorem MX(op:BinOp)(h:op=.shl∨op=.shr)(t:TypeId)(k k':IntKind)(a b:Int)(hb:0<=b):∃z,qrun P (binOp op t (.int k a) (.int k' b))=some (.int k z):=by
 rcases h with rfl |rfl
 ·show ∃z,qrun P (Op.shift .shl k a k' b)=some (.int k z)
  unfold Op.shift
  rw[if_neg (by omega)]
  exact⟨_,rfl⟩
 ·show ∃z,qrun P (Op.shift .shr k a k' b)=some (.int k z)
  unfold Op.shift
  rw[if_neg (by omega)]
  exact⟨_,rfl⟩
theorem VM(op:BinOp)(h:op=.quo∨op=.rem)(t:TypeId)(k:IntKind)(a b:Int)(hb:b≠0):∃z,qrun P (binOp op t (.int k a) (.int k b))=some (.int k z):=by
 have e:binOp op t (.int k a) (.int k b)=Op.intDiv op k a b:=by rcases h with rfl |rfl<;>cases k<;>rfl
 rw[e]
 unfold Op.intDiv
 rw[if_neg hb]
 rcases h with rfl |rfl
 ·exact⟨_,rfl⟩
 ·exact⟨_,rfl⟩
theorem VN{t:TypeId}{d:TypeDesc}(h:P.underlying t=some d):qrun P (underlying t)=some d:=by
 unfold underlying
 rw[AI]
 show qrun P (match P.underlying t with
  |some d=>pure d
  |none=>_)=_
 rw[h]
 rfl
theorem PU(op:BinOp)(h:op=.eql∨op=.neq)(t:TypeId)(ht:P.underlying t=some .bool)(a b:Bool):∃z,qrun P (binOp op t (.bool a) (.bool b))=some (.bool z):=by
 have e:qrun P (Op.equal t (.bool a) (.bool b))=some (a==b):=by
  show qrun P (Op.equalIn (9999+1) t (.bool a) (.bool b))=some (a==b)
  rw[Op.equalIn,AI]
  have hu:qrun P (underlying t)=some .bool:=VN ht
  rw[hu]
  rfl
 rcases h with rfl |rfl
 ·refine⟨a==b,?_⟩
  show qrun P (Op.equal t (.bool a) (.bool b) >>= fun z=>pure (Value.bool z))=_
  rw[AI,e]
  rfl
 ·refine⟨!(a==b),?_⟩
  show qrun P (Op.equal t (.bool a) (.bool b) >>= fun z=>pure (Value.bool !z))=_
  rw[AI,e]
  rfl
theorem KM{o:Oper}{op:BinOp}{t t':TypeId}{x y:Operand}(hop:o.op=.binOp op t x y t'){ρ:Operand->Value}{v:Value}(hg:qrun P (eqGuard op t x y (ρ x) (ρ y))=some ())(hb:qrun P (binOp op t (ρ x) (ρ y))=some v):qrun P (execOp ρ o)=some (.value v):=by
 have e:execOp ρ o=(do let z <-(do eqGuard op t x y (ρ x) (ρ y);binOp op t (ρ x) (ρ y));pure (.value z)):=by simp only[execOp,hop]
 rw[e,AI,AI,hg]
 show(Option.bind (qrun P (binOp op t (ρ x) (ρ y))) _)=_
 rw[hb]
 rfl
theorem Ai0{o:Oper}{op:BinOp}{t t':TypeId}{x y:Operand}(hop:o.op=.binOp op t x y t'){at' vt:List Value}{r:Value}(h:Ao0 P op t (VE at' x) (VE at' y)=some r)(gx:G2 τ (VE at' x) (VE vt x))(gy:G2 τ (VE at' y) (VE vt y)):
    KA P op t (VE vt x) (VE vt y)=none/\∃v,Bj P o (VE vt)=some v/\G2 τ r v:=by
 have ops:∀z∈o.op.operands,z=x∨z=y:=fun z hz=>by simpa [hop,Op.operands]using hz
 unfold Ao0 at h
 split at h
 ·rename_i k k' hk hk'
  obtain⟨a,ea⟩:=C7 hk gx
  obtain⟨b,eb⟩:=C7 hk' gy
  have hn:KA P op t (VE vt x) (VE vt y)=none:=by rw[ea];rfl
  have hp:∀z∈o.op.operands,isP (VE vt z)=false:=fun z hz=>by
   rcases ops z hz with rfl |rfl
   ·rw[ea];rfl
   ·rw[eb];rfl
  have fin:∀v,qrun P (binOp op t (.int k a) (.int k' b))=some v->isP v=false->G2 τ r v->KA P op t (VE vt x) (VE vt y)=none/\∃v,Bj P o (VE vt)=some v/\G2 τ r v:=fun v hv h1 h2=>
   ⟨hn,v,DJ hp (KM hop (by rw[ea,eb];exact Sg ..) (by rw[ea,eb];exact hv)) h1,h2⟩
  split at h
  ·rename_i hi
   split at h
   ·rename_i hkk
    subst hkk
    cases h
    obtain⟨z,hz⟩:=XA (P:=P) op hi t k a b
    exact fin _ hz rfl .unk
   ·cases h
  ·split at h
   ·rename_i hi
    split at h
    ·rename_i hkk
     subst hkk
     cases h
     obtain⟨z,hz⟩:=Aiz (P:=P) op hi t k a b
     exact fin _ hz rfl .unkB
    ·cases h
   ·split at h
    ·rename_i n hy
     have e2:=gy
     rw[hy]at e2
     have e2:=e2.int
     rw[eb]at e2
     cases e2
     split at h
     ·split at h
      ·rename_i hn0
       cases h
       obtain⟨z,hz⟩:=MX (P:=P) .shl (.inl rfl) t k k' a b hn0
       exact fin _ hz rfl .unk
      ·cases h
     ·split at h
      ·rename_i hn0
       cases h
       obtain⟨z,hz⟩:=MX (P:=P) .shr (.inr rfl) t k k' a b hn0
       exact fin _ hz rfl .unk
      ·cases h
     ·split at h
      ·rename_i hn0
       obtain⟨rfl,hn0⟩:=hn0
       cases h
       obtain⟨z,hz⟩:=VM (P:=P) .quo (.inl rfl) t k a b hn0
       exact fin _ hz rfl .unk
      ·cases h
     ·split at h
      ·rename_i hn0
       obtain⟨rfl,hn0⟩:=hn0
       cases h
       obtain⟨z,hz⟩:=VM (P:=P) .rem (.inr rfl) t k a b hn0
       exact fin _ hz rfl .unk
      ·cases h
     ·cases h
    ·cases h
 ·split at h
  ·rename_i hb
   simp only[Bool.and_eq_true]at hb
   obtain⟨a,ea⟩:=C8 hb.1.1 gx
   obtain⟨b,eb⟩:=C8 hb.1.2 gy
   have ht:P.underlying t=some .bool:=by
    have:=hb.2
    unfold VL at this
    split at this
    ·assumption
    ·cases this
   have hn:KA P op t (VE vt x) (VE vt y)=none:=by rw[ea];rfl
   have hp:∀z∈o.op.operands,isP (VE vt z)=false:=fun z hz=>by
    rcases ops z hz with rfl |rfl
    ·rw[ea];rfl
    ·rw[eb];rfl
   split at h
   ·cases h
    obtain⟨z,hz⟩:=PU (P:=P) .eql (.inl rfl) t ht a b
    exact⟨hn,_,DJ hp (KM hop (by rw[ea,eb];exact JB ..) (by rw[ea,eb];exact hz)) rfl,.unkB⟩
   ·cases h
    obtain⟨z,hz⟩:=PU (P:=P) .neq (.inr rfl) t ht a b
    exact⟨hn,_,DJ hp (KM hop (by rw[ea,eb];exact JB ..) (by rw[ea,eb];exact hz)) rfl,.unkB⟩
   ·cases h
  ·cases h
def aUn(op:UnOp)(x:Value):Option Value:=
 match op with
 | .neg=>(Dr x).map unk
 | .xor=>(Dr x).map unk
 | .not=>if Ds x then some unkB else none
 | .plus=>none
theorem Ao1{o:Oper}{op:UnOp}{t:TypeId}{x:Operand}(hop:o.op=.unOp op t x){at' vt:List Value}{r:Value}(h:aUn op (VE at' x)=some r)(gx:G2 τ (VE at' x) (VE vt x)):∃v,Bj P o (VE vt)=some v/\G2 τ r v:=by
 have ops:∀z∈o.op.operands,z=x:=fun z hz=>by simpa [hop,Op.operands]using hz
 have fin:∀u v,VE vt x=u->isP u=false->qrun P (Op.unary op u)=some v->isP v=false->G2 τ r v->∃v,Bj P o (VE vt)=some v/\G2 τ r v:=fun u v hu h0 hv h1 h2=>
  ⟨v,DJ (fun z hz=>by rw[ops z hz,hu];exact h0) (by
   have e:execOp (VE vt) o=(do let z <-Op.unary op (VE vt x);pure (.value z)):=by simp only[execOp,hop]
   rw[e,AI,hu,hv]
   rfl) h1,h2⟩
 unfold aUn at h
 split at h
 ·obtain⟨k,hk,rfl⟩:=Option.map_eq_some_iff.1 h
  obtain⟨a,ea⟩:=C7 hk gx
  exact fin _ _ ea rfl rfl rfl .unk
 ·obtain⟨k,hk,rfl⟩:=Option.map_eq_some_iff.1 h
  obtain⟨a,ea⟩:=C7 hk gx
  exact fin _ _ ea rfl rfl rfl .unk
 ·split at h
  ·rename_i hb
   cases h
   obtain⟨a,ea⟩:=C8 hb gx
   exact fin _ _ ea rfl rfl rfl .unkB
  ·cases h
 ·cases h
def Ai1(P:Program)(t:TypeId):Option IntKind:=
 match P.underlying t with
 |some (.int k)=>some k
 |_=>none
def Aba(P:Program)(s d:TypeId)(x:Value):Option Value:=
 match Dr x,Ai1 P s,Ai1 P d with
 |some _,some _,some k=>some (unk k)
 |_,_,_=>none
theorem Abb{t:TypeId}{k:IntKind}(h:Ai1 P t=some k):qrun P (underlying t)=some (.int k):=by
 unfold Ai1 at h
 split at h
 ·rename_i k' hu
  cases h
  exact VN hu
 ·cases h
theorem Abc{o:Oper}{s d:TypeId}{x:Operand}(hop:o.op=.convert s d x){at' vt:List Value}{r:Value}(h:Aba P s d (VE at' x)=some r)(gx:G2 τ (VE at' x) (VE vt x)):∃v,Bj P o (VE vt)=some v/\G2 τ r v:=by
 have ops:∀z∈o.op.operands,z=x:=fun z hz=>by simpa [hop,Op.operands]using hz
 unfold Aba at h
 split at h
 ·rename_i k1 k2 k hk hs hd
  cases h
  obtain⟨a,ea⟩:=C7 hk gx
  refine⟨.int k (k.wrap a),DJ (fun z hz=>by rw[ops z hz,ea];rfl) ?_ rfl,.unk⟩
  have e:execOp (VE vt) o=(do let z <-convert s d (VE vt x);pure (.value z)):=by simp only[execOp,hop]
  have e2:qrun P (convert s d (.int k1 a))=some (.int k (k.wrap a)):=by
   unfold convert
   rw[AI,Abb hs]
   show qrun P (underlying d >>= _)=_
   rw[AI,Abb hd]
   rfl
  rw[e,AI,ea,e2]
  rfl
 ·cases h
theorem Abd(t:TypeId)(cs:Array Value)(off:Nat):qrun P (part t cs off)=(qrun P (isAgg t)).bind fun b=>if b then(qrun P (sizeOf t)).map fun n=>.agg (cs.extract off (off+n))else cs[off]? :=by
 unfold part
 rw[AI]
 congr 1
 funext b
 cases b with
 |true=>
  simp only[if_true,AI]
  cases qrun P (sizeOf t)<;>rfl
 |false=>
  simp only[Bool.false_eq_true,if_false]
  cases h:cs[off]? <;>rfl
theorem PV{t:TypeId}{cs:Array Value}{off:Nat}{r:Value}(h:qrun P (part t cs off)=some r){l:List Value}(g:As (G0 τ) cs.toList l):∃v,qrun P (part t ⟨l⟩ off)=some v/\G1 τ r v:=by
 rw[Abd]at h
 simp only[Abd]
 cases h1:qrun P (isAgg t)with
 |none=>rw[h1]at h;cases h
 | some b=>
  rw[h1]at h
  cases b with
  | true=>
   simp only[Option.bind_some,if_true]at h ⊢
   cases h2:qrun P (sizeOf t)with
   |none=>rw[h2]at h;cases h
   |some n=>
    rw[h2]at h
    cases h
    refine⟨_,rfl,⟨(Array.extract ⟨l⟩ off (off+n)).toList,rfl,?_⟩⟩
    have:=(g.drop off).take n
    simpa [List.extract_eq_take_drop]using this
  |false=>
   simp only[Option.bind_some,Bool.false_eq_true,if_false]at h ⊢
   obtain⟨v,hv,gv⟩:=g.get off r (by simpa using h)
   exact⟨v,by simpa using hv,gv.g1⟩
end
end Go.Proofs.YtgmpfeaanjnhaaaGreatDoor
