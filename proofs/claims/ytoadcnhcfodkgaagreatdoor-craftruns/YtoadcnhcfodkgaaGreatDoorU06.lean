import Derived.WalkKit
import Derived.Test.YtoadcnhcfodkgaaGreatDoorProg
import Derived.WalkLawsBesides
import Derived.Laws.BitsAllLaws
import Derived.Deep.QuietTactic
import Derived.BigQuiet
import Derived.WalkSpells
import Derived.Lib.Strings
import Derived.Laws.OwnMore
import Derived.OwnWalk
import Derived.Shelf.LaysM
import Derived.Shelf.Strconv.Clone
import Derived.Laws.ResultCell
import Derived.RegionTactic
import Derived.Deep.RegionWith
import Derived.Lib.IndexBytes
import Derived.Laws.IdiomStrings
import Derived.Laws.Concat
import Derived.Test.YtoadcnhcfodkgaaGreatDoorU02
set_option maxHeartbeats 20000000
set_option maxRecDepth 100000
open Go.Proofs.Tryz renaming prog→Zm
open List renaming getD_eq_getElem?_getD→Zn,getElem?_eq_some_iff→Zo,length_append→Zp,getElem?_take_of_lt→Zq,getElem?_append_right→Zt,length_drop→Zu,getElem?_append_left→Zw,length_take→Zx,getElem?_eq_getElem→Zz,replicate→Zaa,mem_cons→Zab,length_eq_zero_iff→Zad,getElem?_eq_none→Zaf,length_cons→Zag
open Nat renaming le_refl→Zr,lt_succ_self→Zai
open Array renaming getD_eq_getD_getElem?→Zs,eq_empty_of_size_eq_zero→Zah
open ByteArray renaming size_extract→Zv,size_append→Zy
open UInt8 renaming toNat_inj→Zac,ofNat_toNat→Zae
namespace Go.Proofs.YtoadcnhcfodkgaaGreatDoor
section
open Go.RowKit
abbrev Ov:=Nat->Option (Array Oper->Bool->(List Value->Xm->Prop)->List Value->Xm->Prop)
def Ao(P:Program)(tbl:List (Ct P))(dirty:Nat->List Nat)(n:Nat)(ov:Ov):Code->VQ->List Value->Xm->Prop
 | .skip,Q,vt,m=>Q .normal vt m
 | .region id ops draw,Q,vt,m=>(match ov id with
  |some R=>R ops draw (Q .normal) vt m
  |none=>Ed P tbl dirty id ops draw (Q .normal) vt m)
 | .seq x y,Q,vt,m=>Ao P tbl dirty n ov x (fun e vt' m'=>match e with
  | .normal=>Ao P tbl dirty n ov y Q vt' m'
  |e=>Q e vt' m') vt m
 | .cond c x y,Q,vt,m=>(match P6 c,VE vt c with
  |true,.bool b=>AE b (Ao P tbl dirty n ov x Q (vset vt c true) m) (Ao P tbl dirty n ov y Q (vset vt c false) m)
  |_,_=>False)
 | .block id c,Q,vt,m=>Ao P tbl dirty n ov c (fun e vt' m'=>match e with
  | .exit id'=>if id'=id then Q .normal vt' m' else Q (.exit id') vt' m'
  |e=>Q e vt' m') vt m
 | .loop c,Q,vt,m=>AS n (Ao P tbl dirty n ov c) Q vt m
 | .exit id,Q,vt,m=>Q (.exit id) vt m
 | .label _,Q,vt,m=>Q .normal vt m
 | .ret,Q,vt,m=>Q .ret vt m
 |_,_,_,_=>False
def D5(P:Program)(ov:Ov)(bs:List Nat)(w0:World)(ds:List Deferred)(bl0:Bl):Code->Prop
 | .region id ops draw=>∀R,ov id=some R->∀(K:List Value->Xm->Prop) (Q:Exit->Act->World->Prop) (bl:Bl) (vt:List Value) (m:Xm) (a:Act) (w:World),R ops draw K vt m->Rl bs w0 ds bl0 bl vt m a w->(∀bl vt m a w,K vt m->Rl bs w0 ds bl0 bl vt m a w->Q .normal a w)->(Code.region id ops draw).wp P Q a w
 | .seq x y=>D5 P ov bs w0 ds bl0 x/\D5 P ov bs w0 ds bl0 y
 | .cond _ x y=>D5 P ov bs w0 ds bl0 x/\D5 P ov bs w0 ds bl0 y
 | .block _ c=>D5 P ov bs w0 ds bl0 c
 | .loop c=>D5 P ov bs w0 ds bl0 c
 |_=>True
section
variable {P:Program} {tbl:List (Ct P)} {bs:List Nat} {w0:World} {ds:List Deferred} {dirty:Nat->List Nat} {n:Nat} {bl0:Bl} {ov:Ov}
theorem XD(hm:P.follows .mixedOrders=true):∀(c:Code) (Q:VQ) (Q':Exit->Act->World->Prop) (bl:Bl) (vt:List Value) (m:Xm) (a:Act) (w:World),D5 P ov bs w0 ds bl0 c->Aja bs w0 ds bl0 Q Q'->Ao P tbl dirty n ov c Q vt m->Rl bs w0 ds bl0 bl vt m a w->c.wp P Q' a w:=by
 intro c
 induction c with
 |skip=>intro Q Q' bl vt m a w _ hQ h r;exact wp_skip (hQ _ bl vt m a w h r)
 | region id ops draw=>
  intro Q Q' bl vt m a w ho hQ h r
  unfold Ao at h
  split at h
  ·rename_i R hR
   exact ho R hR _ Q' bl vt m a w h r (fun bl vt m a w hk hr=>hQ _ bl vt m a w hk hr)
  ·exact C8 hm (fun bl vt m a w hk hr=>hQ _ bl vt m a w hk hr) h r
 |seq x y ihx ihy=>
  intro Q Q' bl vt m a w ho hQ h r
  refine wp_seq (ihx _ _ bl vt m a w ho.1 ?_ h r)
  intro e bl' vt' m' a' w' h' r'
  cases e with
  |normal=>exact ihy Q Q' bl' vt' m' a' w' ho.2 hQ h' r'
  |exit id=>exact hQ _ bl' vt' m' a' w' h' r'
  |goto l=>exact hQ _ bl' vt' m' a' w' h' r'
  |ret=>exact hQ _ bl' vt' m' a' w' h' r'
  |panic ch=>exact hQ _ bl' vt' m' a' w' h' r'
  |outgrown=>exact hQ _ bl' vt' m' a' w' h' r'
 | cond c x y ihx ihy=>
  intro Q Q' bl vt m a w ho hQ h r
  unfold Ao at h
  split at h
  ·rename_i b hok hb
   have hv:=r.F.eval hok
   rw[hb]at hv
   have hv:a.eval c=.bool b:=hv
   refine wp_cond_split hv (fun e=>?_) (fun e=>?_)
   ·subst e;exact ihx Q Q' bl _ m a w ho.1 hQ h ⟨r.F.vset hb,r.R,r.le,r.len,r.defers⟩
   ·subst e;exact ihy Q Q' bl _ m a w ho.2 hQ h ⟨r.F.vset hb,r.R,r.le,r.len,r.defers⟩
  ·exact h.elim
 | block id c ih=>
  intro Q Q' bl vt m a w ho hQ h r
  refine wp_block (ih _ _ bl vt m a w ho ?_ h r)
  intro e bl' vt' m' a' w' h' r'
  cases e with
  | exit id'=>
   dsimp only at h'
   unfold Exit.inBlock
   dsimp only
   split at h'
   ·rename_i e
    rw[if_pos e]
    exact hQ _ bl' vt' m' a' w' h' r'
   ·rename_i e
    rw[if_neg e]
    exact hQ _ bl' vt' m' a' w' h' r'
  |normal=>exact hQ _ bl' vt' m' a' w' h' r'
  |goto l=>exact hQ _ bl' vt' m' a' w' h' r'
  |ret=>exact hQ _ bl' vt' m' a' w' h' r'
  |panic ch=>exact hQ _ bl' vt' m' a' w' h' r'
  |outgrown=>exact hQ _ bl' vt' m' a' w' h' r'
 | loop c ih=>
  intro Q Q' bl vt m a w ho hQ h r
  refine wp_loop_rounds n ?_
  have key:∀k bl vt m a w,AS k (Ao P tbl dirty n ov c) Q vt m->Rl bs w0 ds bl0 bl vt m a w->Code.rounds P c Q' k a w:=by
   intro k
   induction k with
   |zero=>intro bl vt m a w h _;exact h
   |succ k ihk=>
    intro bl vt m a w h r
    refine ih _ _ bl vt m a w ho ?_ h r
    intro e bl' vt' m' a' w' h' r'
    cases e with
    |normal=>exact ihk bl' vt' m' a' w' h' r'
    |exit id=>exact hQ _ bl' vt' m' a' w' h' r'
    |goto l=>exact hQ _ bl' vt' m' a' w' h' r'
    |ret=>exact hQ _ bl' vt' m' a' w' h' r'
    |panic ch=>exact hQ _ bl' vt' m' a' w' h' r'
    |outgrown=>exact hQ _ bl' vt' m' a' w' h' r'
  exact key n bl vt m a w h r
 |exit id=>intro Q Q' bl vt m a w _ hQ h r;exact wp_exit (hQ _ bl vt m a w h r)
 |label l=>intro Q Q' bl vt m a w _ hQ h r;exact wp_label (hQ _ bl vt m a w h r)
 |ret=>intro Q Q' bl vt m a w _ hQ h r;exact wp_ret (hQ _ bl vt m a w h r)
 |goto l=>intro Q Q' bl vt m a w _ _ h _;exact h.elim
 |scope c _=>intro Q Q' bl vt m a w _ _ h _;exact h.elim
 |refuse s=>intro Q Q' bl vt m a w _ _ h _;exact h.elim
 |rangeFunc f ps x y _ _=>intro Q Q' bl vt m a w _ _ h _;exact h.elim
end
section
variable {P:Program} {tbl:List (Ct P)} {dirty:Nat->List Nat} {n:Nat} {ov:Ov}
theorem F8(hm:P.follows .mixedOrders=true){f:Nat}{fn:Func}{c:Code}(hf:P.funcs[f]? =some fn)(hb:fn.body=some c){bs:List Nat}{w:World}{bl:Bl}{m:Xm}{vargs:List Value}{args:Array Value}
    (R:RW bs w bl m w) (hl:bl.length=m.length) (hs:args.size=vargs.length) (hv:∀i,RV bl (vargs.getD i undef) (args.getD i undef)) {Post:Value->Xm->Prop}
    (ho:D5 P ov bs w [] bl c) (h:Ao P tbl dirty n ov c (Bz P fn Post) (vargs++Zaa (fn.ntmps-vargs.length) undef) m):
    Calls P f args w fun e w'=>∃v bl' m',e=.returned v/\Post v m'/\RW bs w bl' m' w'/\Le bl bl':=by
 refine calls_of_wp hf hb (XD (ds:=[]) (bl0:=bl) hm c _ _ bl _ m _ w ho ?_ h ⟨⟨?_,?_⟩,R,Le.refl _,hl,rfl⟩)
 ·intro e bl' vt' m' a' w' h' r'
  cases e with
  | normal=>
   simp only[Bz]at h'
   split at h'
   ·rename_i v hv
    exact⟨r'.defers,v,JW r'.F r'.R hv,v,bl',m',rfl,h',r'.R,r'.le⟩
   ·exact h'.elim
  | ret=>
   simp only[Bz]at h'
   split at h'
   ·rename_i v hv
    exact⟨r'.defers,v,JW r'.F r'.R hv,v,bl',m',rfl,h',r'.R,r'.le⟩
   ·exact h'.elim
  |exit id=>exact h'.elim
  |goto l=>exact h'.elim
  |panic ch=>exact h'.elim
  |outgrown=>exact h'.elim
 ·simp[hs]
 ·intro t
  by_cases ht:t<vargs.length
  ·have:=hv t
   simp only[Zn,Zs]at this ⊢
   rw[Zw ht,Array.getElem?_append_left (by omega)]
   exact this
  ·simp only[Zn,Zs]
   rw[Zt (by omega),Array.getElem?_append_right (by omega),hs]
   by_cases h2:t-vargs.length<fn.ntmps-vargs.length
   ·rw[Zz (by simpa using h2),Array.getElem?_eq_getElem (by simpa using h2)]
    simp
    rfl
   ·rw[Zaf (by simpa using h2),Array.getElem?_eq_none (by simpa using h2)]
    rfl
end
def Aum:Value->Value
 | .bool b=>.bool b
 |_=>.nilIface
theorem RV.dim{bl bl':Bl}{v v':Value}(h:RV bl v v'):RV bl' (Aum v) v':=by
 cases hp:isP v
 ·rw[h.plain hp]
  cases v<;>rfl
 ·match v,h,hp with
  | .pointer (some a),⟨B,_,e⟩,_=>rw[e];rfl
  | .nilIface,h,_=>exact h
  | .slice (some a) _ _,⟨B,_,e⟩,_=>rw[e];rfl
def Kl(ks:List (Nat×Value))(d:Nat->Value)(n:Nat):List Value:=(List.range n).map fun j=>match ks.lookup j with
 |some v=>v
 |none=>Aum (d j)
def Ch(k:Nat):Value->Bool
 | .pointer (some a)=>decide (a.block<k)
 | .slice (some a) _ _=>decide (a.block<k)
 |_=>true
theorem RV.cut{bl:Bl}{k:Nat}{v v':Value}(h:RV bl v v')(hp:Ch k v=true):RV (bl.take k) v v':=by
 cases hi:isP v
 ·rw[h.plain hi]
  exact .same hi
 ·match v,h,hi,hp with
  | .pointer (some a),⟨B,h1,e⟩,_,hp=>
   have hp:a.block<k:=of_decide_eq_true hp
   exact⟨B,by rw[Zq hp];exact h1,e⟩
  | .nilIface,h,_,_=>exact h
  | .slice (some a) _ _,⟨B,h1,e⟩,_,hp=>
   have hp:a.block<k:=of_decide_eq_true hp
   exact⟨B,by rw[Zq hp];exact h1,e⟩
theorem Hz{bl:Bl}{k i B:Nat}(h:(bl.take k)[i]? =some (some B)):i<k/\bl[i]? =some (some B):=by
 have hl:=(Zo.1 h).1
 rw[Zx]at hl
 have hk:i<k:=by omega
 rw[Zq hk]at h
 exact⟨hk,h⟩
theorem RW.cut{bs:List Nat}{w0:World}{bl:Bl}{m:Xm}{w:World}(h:RW bs w0 bl m w)(k:Nat):RW bs w0 (bl.take k) (m.take k) w:=by
 refine⟨fun i B hi=>?_,fun i j B hi hj=>h.inj i j B (Hz hi).2 (Hz hj).2,fun i B hi=>(h.own i B (Hz hi).2).imp id (Or.imp id fun e=>by rw[Zq (Hz hi).1];exact e),h.os,h.tape,h.output,h.size,h.block,h.gw⟩
 obtain⟨hk,hi⟩:=Hz hi
 obtain⟨l,h1,A⟩:=h.arr i B hi
 exact⟨l,by rw[Zq hk];exact h1,A⟩
theorem LA(f:Nat->Value)(j:Nat):∀ks:List Nat,(ks.map fun i=>(i,f i)).lookup j=if j∈ks then some (f j)else none
 |[]=>rfl
 | k::ks=>by
  by_cases e:j=k
  ·subst e
   simp
  ·have e':(j==k)=false:=by simpa using e
   have ih:=LA f j ks
   simp only[List.map_cons,List.lookup,e',ih,Zab,e,false_or]
theorem FR.cut{bl:Bl}{vt:List Value}{tm:Array Value}(h:FR bl vt tm){n k:Nat}{ks:List Nat}(hn:vt.length=n)(hp:(ks.all fun j=>Ch k (vt.getD j undef))=true):
    FR (bl.take k) (Kl (ks.map fun j=>(j,vt.getD j undef)) (fun j=>vt.getD j undef) n) tm:=by
 refine⟨by unfold Kl;simp[h.len,hn],fun t=>?_⟩
 have h1:=h.rv t
 unfold Kl
 by_cases ht:t<n
 ·rw[Zn,List.getElem?_map,List.getElem?_range ht]
  simp only[Option.map_some,Option.getD_some,LA]
  by_cases e:t∈ks
  ·rw[if_pos e]
   exact h1.cut (List.all_eq_true.1 hp t e)
  ·rw[if_neg e]
   exact h1.dim
 ·rw[Zn,Zaf (by simp;omega)]
  rw[Zn,Zaf (by omega)]at h1
  exact h1.cut rfl
def Jl(ks:List Nat)(n k:Nat)(K:List Value->Xm->Prop):List Value->Xm->Prop:=fun vt m=>
 vt.length=n/\(ks.all fun j=>Ch k (vt.getD j undef))=true/\∀d,K (Kl (ks.map fun j=>(j,vt.getD j undef)) d n) (m.take k)
section
variable {P:Program} {tbl:List (Ct P)} {bs:List Nat} {w0:World} {ds:List Deferred} {dirty:Nat->List Nat} {bl0:Bl}
theorem Rl.cut{bl:Bl}{vt:List Value}{m:Xm}{a:Act}{w:World}(r:Rl bs w0 ds bl0 bl vt m a w){ks:List Nat}{n k:Nat}(hb:bl0.length<=k){K:List Value->Xm->Prop}(h:Jl ks n k K vt m):
    ∃bl' vt' m',K vt' m'/\Rl bs w0 ds bl0 bl' vt' m' a w:=by
 refine⟨bl.take k,_,m.take k,h.2.2 (fun j=>vt.getD j undef),r.F.cut h.1 h.2.1,r.R.cut k,fun i B hi=>?_,by rw[Zx,Zx,r.len],r.defers⟩
 have hl:=(Zo.1 hi).1
 rw[Zq (by omega)]
 exact r.le i B hi
def Du(P:Program)(tbl:List (Ct P))(dirty:Nat->List Nat)(id:Nat)(ks:List Nat)(n k:Nat)(ops:Array Oper)(draw:Bool)(K:List Value->Xm->Prop)(vt:List Value)(m:Xm):Prop:=
 Ed P tbl dirty id ops draw (Jl ks n k K) vt m
theorem By(hm:P.follows .mixedOrders=true){id:Nat}{ks:List Nat}{n k:Nat}(hb:bl0.length<=k){ops:Array Oper}{draw:Bool}{K:List Value->Xm->Prop}{Q:Exit->Act->World->Prop}{bl:Bl}{vt:List Value}{m:Xm}{a:Act}{w:World}
    (h:Du P tbl dirty id ks n k ops draw K vt m) (r:Rl bs w0 ds bl0 bl vt m a w) (hK:∀bl vt m a w,K vt m->Rl bs w0 ds bl0 bl vt m a w->Q .normal a w):(Code.region id ops draw).wp P Q a w:=by
 refine C8 hm (fun bl vt m a w hk hr=>?_) h r
 obtain⟨bl',vt',m',h1,h2⟩:=hr.cut hb hk
 exact hK bl' vt' m' a w h1 h2
theorem Gy{ops:Array Oper}{Q:Exit->Act->World->Prop}{i:Nat}{rest:List Nat}{a:Act}{w w':World}{o:Oper}{v:Value}(ho:ops[i]? =some o)(hg:o.guard=none)(hr:(execOp a.eval o).run P w=.ok (.value v) w')
    (h:wpOps P ops Q rest (a.put o.dst v) w'):wpOps P ops Q (i::rest) a w:=by
 rw[wpOps_cons]
 unfold wpOp
 rw[ho]
 dsimp only
 rw[show Region.wanted o (yielded ops a.tmps)=true by unfold Region.wanted;rw[hg],if_pos rfl]
 refine .inl ?_
 unfold Oper.wp
 rw[hr]
 exact h
theorem Of{ops:Array Oper}{Q:Exit->Act->World->Prop}{i:Nat}{rest:List Nat}{a:Act}{w w':World}{o:Oper}(ho:ops[i]? =some o)(hg:o.guard=none)(hr:(execOp a.eval o).run P w=.ok .skip w')
    (h:wpOps P ops Q rest (a.put o.dst undef) w'):wpOps P ops Q (i::rest) a w:=by
 rw[wpOps_cons]
 unfold wpOp
 rw[ho]
 dsimp only
 rw[show Region.wanted o (yielded ops a.tmps)=true by unfold Region.wanted;rw[hg],if_pos rfl]
 refine .inl ?_
 unfold Oper.wp
 rw[hr]
 exact h
end
def SH{A:Type}(d:Dl A):Dc A where
 enc x:=.agg (d.enc x).toArray
 dec v:=match v with
  | .agg cs=>d.dec cs.toList
  |_=>none
 law v x h:=by
  split at h
  ·rename_i cs
   have:=d.law _ _ h
   rw[<-this]
  ·cases h
 np _:=rfl
def Tup:Nat->Type
 |0=>Unit
 |n+1=>Int×Tup n
def tEnc:(n:Nat)->Tup n->List Value
 |0,_=>[]
 |n+1,x=>.int .i64 x.1::tEnc n x.2
def Alp:(n:Nat)->List Value->Option (Tup n)
 |0,l=>(match l with
  |[]=>some ()
  |_=>none)
 | n+1,l=>(match l with
  | .int .i64 x::r=>(match Alp n r with
   |some y=>some (x,y)
   |none=>none)
  |_=>none)
theorem Vj:∀(n:Nat) (l:List Value) (x:Tup n),Alp n l=some x->l=tEnc n x
 |0,l,x,h=>by
  unfold Alp at h
  split at h
  ·rfl
  ·cases h
 | n+1,l,x,h=>by
  unfold Alp at h
  split at h
  ·split at h
   ·rename_i y hy
    cases h
    rw[Vj n _ y hy]
    rfl
   ·cases h
  ·cases h
theorem Aam:∀(n:Nat) (x:Tup n),∀v∈tEnc n x,isP v=false
 |0,_,v,h=>by cases h
 |n+1,x,v,h=>by
  rcases Zab.1 h with rfl |h
  ·rfl
  ·exact Aam n x.2 v h
def dT(n:Nat):Dl (Tup n):=⟨tEnc n,Alp n,fun l x h=>Vj n l x h,Aam n⟩
def cT(n:Nat):Dc (Tup n):=SH (dT n)
def IS{A B:Type}(n:Nat)(d:Dl A)(e:Dl B):Dl (A×B) where
 enc x:=d.enc x.1++e.enc x.2
 dec l:=match d.dec (l.take n),e.dec (l.drop n)with
  |some a,some b=>some (a,b)
  |_,_=>none
 law l x h:=by
  split at h
  ·rename_i a b h1 h2
   cases h
   rw[<-d.law _ _ h1,<-e.law _ _ h2,List.take_append_drop]
  ·cases h
 np x v hv:=by
  rcases List.mem_append.1 hv with h |h
  ·exact d.np x.1 v h
  ·exact e.np x.2 v h
def cS:Dc ByteArray where
 enc s:=.string s
 dec v:=match v with
  | .string s=>some s
  |_=>none
 law v x h:=by
  split at h
  ·cases h;rfl
  ·cases h
 np _:=rfl
def Og{A B C:Type}(c:Dc A)(d:Dc B)(e:Dc C):Dc (A×B×C) where
 enc p:=.tuple #[c.enc p.1,d.enc p.2.1,e.enc p.2.2]
 dec v:=match v with
  | .tuple ⟨[x,y,z]⟩=>(match c.dec x,d.dec y,e.dec z with
   |some a,some b,some c=>some (a,b,c)
   |_,_,_=>none)
  |_=>none
 law v x h:=by
  split at h
  ·split at h
   ·rename_i h1 h2 h3
    cases h
    rw[c.law _ _ h1,d.law _ _ h2,e.law _ _ h3]
   ·cases h
  ·cases h
 np _:=rfl
section
variable {P:Program}
theorem pure_calls{tbl:List (Ct P)}{dirty:Nat->List Nat}{n:Nat}(hm:P.follows .mixedOrders=true){f:Nat}{fn:Func}{c:Code}(hf:P.funcs[f]? =some fn)(hb:fn.body=some c){rest:List Value}(hp:∀v∈rest,isP v=false){v0:Value}
    (h:Hm P tbl dirty n c (Bz P fn (fun v _=>v=v0)) (rest++Zaa (fn.ntmps-rest.length) undef) []) (w:World) (hg:GW w):
    Calls P f rest.toArray w fun e w'=>e=.returned v0/\Below w.heap.size w w':=by
 have R:RW [] w [] [] w:=⟨fun i B hi=>(by cases hi),fun i j B hi=>(by cases hi),fun i B hi=>(by cases hi),rfl,rfl,rfl,Zr _,fun _ _ _=>rfl,hg,fun b hb=>by cases hb⟩
 refine Calls.mono (Ho hm hf hb (vargs:=rest) R rfl (by simp) (fun i=>?_) h) ?_
 ·by_cases hi:i<rest.length
  ·have:=hp _ (List.getElem_mem hi)
   simp only[Zn,Zs]
   simp[hi]
   exact .same this
  ·simp only[Zn,Zs]
   simp[hi]
   rfl
 ·rintro e w' ⟨v,bl',m2,rfl,rfl,R',_⟩
  exact⟨rfl,R'.os,R'.tape,R'.output,R'.size,fun i hi=>R'.block i hi (by simp)⟩
theorem Bj{tbl:List (Ct P)}{dirty:Nat->List Nat}{n:Nat}(hm:P.follows .mixedOrders=true){f:Nat}{fn:Func}{c:Code}(hf:P.funcs[f]? =some fn)(hb:fn.body=some c){A R:Type}{d:Dl A}{k:Dc R}{x:A}{y:R}
    (h:∀Post:Value->Prop,PJ k Post y->Hm P tbl dirty n c (Bz P fn (fun v _=>Post v)) (d.enc x++Zaa (fn.ntmps-(d.enc x).length) undef) []) (w:World) (hg:GW w):Calls P f (d.enc x).toArray w fun e w'=>e=.returned (k.enc y)/\Below w.heap.size w w':=
 pure_calls hm hf hb (d.np x) (h (fun v=>v=k.enc y) rfl) w hg
def Aeo(P:Program)(f:Nat){A R:Type}(d:Dl A)(c:Dc R)(x:A)(y:R)(go:∀(args:Array Value) (w:World),(callFunc f args).run P w=.ok (.enter f args) w)(h:∀w,GW w->Calls P f (d.enc x).toArray w fun e w'=>e=.returned (c.enc y)/\Below w.heap.size w w'):Ct P where
 fn:=f
 sp:=fun args m K=>args=d.enc x/\K (c.enc y) m
 go:=go
 mono:=fun hK hs=>⟨hs.1,hK _ _ hs.2⟩
 keep:=fun hs=>⟨hs.1,hs.2,rfl,fun _ _=>rfl⟩
 ok:=fun{bs w0 bl m w args args' K} R hlen hv hs=>by
  rw[FW hlen hv (by rw[hs.1];exact d.np x),hs.1]
  refine Calls.mono (h w R.gwAt) ?_
  rintro e w' ⟨rfl,Kp⟩
  exact⟨_,_,_,rfl,.same (c.np _),hs.2,R.pure Kp⟩
end
theorem xmixA:Zm.follows .mixedOrders=true:=by kernel_rfl
abbrev Dri:=Bool×Tup 7
abbrev Aun:Dl Dri:=IS 1 (Aa cB) (dT 7)
abbrev Cra:=Bool×Int×ByteArray×Tup 6×Bool×Tup 7×Dri×Tup 43×Tup 3
abbrev C5:Dl Cra:=Ac cB (Ac cI (Ac cS (IS 6 (dT 6) (Ac cB (IS 7 (dT 7) (IS 8 Aun (IS 43 (dT 43) (dT 3))))))))
abbrev cCra:Dc Cra:=SH C5
abbrev cDri:Dc Dri:=SH Aun
abbrev DZ:Dc (Tup 5×Tup 5×Tup 5×Int):=SH (IS 5 (dT 5) (IS 5 (dT 5) (IS 5 (dT 5) (Aa cI))))
abbrev cSky:Dc (Bool×Tup 3×Tup 6):=SH (Ac cB (IS 3 (dT 3) (dT 6)))
abbrev cSee:Dc (Bool×Bool×Bool×Bool×Bool×Bool×Bool×Int):=SH (Ac cB (Ac cB (Ac cB (Ac cB (Ac cB (Ac cB (Ac cB (Aa cI))))))))
def Vk(n:Int):Int:=if n≥65535 then 65535 else IntKind.i64.wrap (n+1)
theorem Vl:Ah Zm 37 (Aa cI) (fun x=>Vk x) cI:=Av (tbl:=[]) (dirty:=fun _=>[]) (n:=4) xmixA Tryz.func37 rfl (fun x Post=>by
    refine Eq.trans (b:=?m) ?x (Eq.symm ?y)
    case y=>unfold Vk;simp only[<-AX (K:=PJ cI Post)];exact rfl
    case x=>kernel_rfl)
def Jm:Ct Zm:=Aq Zm 37 (Aa cI) (fun x=>Vk x) cI (Ae Tryz.func37 (by kernel_rfl) (by kernel_rfl)) Vl
theorem Alq:Ah Zm 40 (Aa (cT 5)) (fun x=>!decide (x.1=0)) cB:=Av (tbl:=[]) (dirty:=fun _=>[]) (n:=4) xmixA Tryz.func40 rfl (fun x Post=>by kernel_rfl)
def SI:Ct Zm:=Aq Zm 40 (Aa (cT 5)) (fun x=>!decide (x.1=0)) cB (Ae Tryz.func40 (by kernel_rfl) (by kernel_rfl)) Alq
def DL(c:Cra)(tick:Int):Bool:=let ms:=IntKind.u64.wrap (IntKind.u64.wrap tick-IntKind.u64.wrap c.2.1);if c.1 then(if 10<=ms then decide (ms<=10000)else false)else false
theorem Aep:Ah Zm 45 (Ac cCra (Aa cI)) (fun x=>DL x.1 x.2) cB:=Av (tbl:=[]) (dirty:=fun _=>[]) (n:=4) xmixA Tryz.func45 rfl (fun x Post=>by
    refine Eq.trans (b:=?m) ?x (Eq.symm ?y)
    case y=>unfold DL;simp only[<-Bg (K:=PJ cB Post),<-AX (K:=PJ cB Post)];exact rfl
    case x=>kernel_rfl)
abbrev Hea:=Tup 5×Tup 5×Tup 5×Int
abbrev Sky:=Bool×Tup 3×Tup 6
abbrev See:=Bool×Bool×Bool×Bool×Bool×Bool×Bool×Int
abbrev Fra:=Int×ByteArray
abbrev AU:Dc Fra:=SH (Ac cI (Aa cS))
abbrev Tel:=Tup 13
structure Fs where
 right:Int->Bool
 place:Bool->Tup 7×Int->Tup 3×Bool
 dir:Bool->Int->Tup 3×Bool
 sky:Bool->Tup 3×Int->Tup 3×Bool
 norm:Bool->Tup 3->Int×Bool
 apart:Bool->Tup 3×Tup 3->Bool×Bool
 shaded:Bool->Tup 3×Tup 3->Bool×Bool
 move:Bool->Tup 43×Tup 3×Int->Tup 43×Bool
 meet:Bool->Tup 43×Tup 6×Tup 6->(Tup 43×Int×Bool)×Bool
 spread:Bool->Tup 43->Int×Bool
 att:Bool->Tup 6×Tup 6->Tup 4×Bool
 start:Tup 4->Tup 43
 bstep:Bool->Dri×Tup 3×Int->Dri×Bool
 dip:Bool->Dri->Tup 3×Bool
 next:Tup 6×See->Tup 6
 counts:Tup 4×Tup 3->Tup 4×Tup 3
 write:Tel->Fra×Bool
 wrap:Fra->ByteArray×Bool
 read:Fra->Tup 5×Bool
 fresh:Tup 5×Int->Bool
 oread:Fra->Tup 9×Int
structure FsOk(F:Fs):Prop where
 right:Ah Zm 9 (Aa cI) F.right cB
 place:Ai Zm 42 (Ac (cT 7) (Aa cI)) F.place (cT 3)
 dir:Ai Zm 43 (Aa cI) F.dir (cT 3)
 sky:Ai Zm 44 (Ac (cT 3) (Aa cI)) F.sky (cT 3)
 norm:Ai Zm 46 (Aa (cT 3)) F.norm cI
 apart:Ai Zm 136 (Ac (cT 3) (Aa (cT 3))) F.apart cB
 shaded:Ai Zm 48 (Ac (cT 3) (Aa (cT 3))) F.shaded cB
 move:Ai Zm 49 (Ac (cT 43) (Ac (cT 3) (Aa cI))) F.move (cT 43)
 meet:Ai Zm 50 (Ac (cT 43) (Ac (cT 6) (Aa (cT 6)))) F.meet (Og (cT 43) cI cB)
 spread:Ai Zm 52 (Aa (cT 43)) F.spread cI
 att:Ai Zm 167 (Ac (cT 6) (Aa (cT 6))) F.att (cT 4)
 start:Ah Zm 166 (Aa (cT 4)) F.start (cT 43)
 bstep:Ai Zm 41 (Ac cDri (Ac (cT 3) (Aa cI))) F.bstep cDri
 dip:Ai Zm 169 (Aa cDri) F.dip (cT 3)
 next:Ah Zm 53 (Ac (cT 6) (Aa cSee)) F.next (cT 6)
 counts:Ah Zm 55 (Ac (cT 4) (Aa (cT 3))) F.counts (Au (cT 4) (cT 3))
 write:Ah Zm 57 (Aa (cT 13)) F.write (Au AU cB)
 wrap:Ah Zm 58 (Aa AU) F.wrap (Au cS cB)
 read:Ah Zm 114 (Aa AU) F.read (Au (cT 5) cB)
 fresh:Ah Zm 115 (Ac (cT 5) (Aa cI)) F.fresh cB
 oread:Ah Zm 116 (Aa AU) F.oread (Au (cT 9) cI)
def Auo(F:Fs)(h:FsOk F):Ct Zm:=Aq Zm 9 _ F.right _ (Ae Tryz.func9 (by kernel_rfl) (by kernel_rfl)) h.right
def Aup(F:Fs)(h:FsOk F):Ct Zm:=Ak Zm 42 _ F.place _ (Ae Tryz.func42 (by kernel_rfl) (by kernel_rfl)) h.place
def AJk(F:Fs)(h:FsOk F):Ct Zm:=Ak Zm 43 _ F.dir _ (Ae Tryz.func43 (by kernel_rfl) (by kernel_rfl)) h.dir
def AJl(F:Fs)(h:FsOk F):Ct Zm:=Ak Zm 44 _ F.sky _ (Ae Tryz.func44 (by kernel_rfl) (by kernel_rfl)) h.sky
def ADf(F:Fs)(h:FsOk F):Ct Zm:=Ak Zm 46 _ F.norm _ (Ae Tryz.func46 (by kernel_rfl) (by kernel_rfl)) h.norm
def Auq(F:Fs)(h:FsOk F):Ct Zm:=Ak Zm 136 _ F.apart _ (Ae Tryz.func136 (by kernel_rfl) (by kernel_rfl)) h.apart
def Alr(F:Fs)(h:FsOk F):Ct Zm:=Ak Zm 48 _ F.shaded _ (Ae Tryz.func48 (by kernel_rfl) (by kernel_rfl)) h.shaded
def ADg(F:Fs)(h:FsOk F):Ct Zm:=Ak Zm 49 _ F.move _ (Ae Tryz.func49 (by kernel_rfl) (by kernel_rfl)) h.move
def ADh(F:Fs)(h:FsOk F):Ct Zm:=Ak Zm 50 _ F.meet _ (Ae Tryz.func50 (by kernel_rfl) (by kernel_rfl)) h.meet
def Alt(F:Fs)(h:FsOk F):Ct Zm:=Ak Zm 52 _ F.spread _ (Ae Tryz.func52 (by kernel_rfl) (by kernel_rfl)) h.spread
def AJm(F:Fs)(h:FsOk F):Ct Zm:=Ak Zm 167 _ F.att _ (Ae Tryz.func167 (by kernel_rfl) (by kernel_rfl)) h.att
def Aur(F:Fs)(h:FsOk F):Ct Zm:=Aq Zm 166 _ F.start _ (Ae Tryz.func166 (by kernel_rfl) (by kernel_rfl)) h.start
def Aus(F:Fs)(h:FsOk F):Ct Zm:=Ak Zm 41 _ F.bstep _ (Ae Tryz.func41 (by kernel_rfl) (by kernel_rfl)) h.bstep
def AJn(F:Fs)(h:FsOk F):Ct Zm:=Ak Zm 169 _ F.dip _ (Ae Tryz.func169 (by kernel_rfl) (by kernel_rfl)) h.dip
def ADi(F:Fs)(h:FsOk F):Ct Zm:=Aq Zm 53 _ F.next _ (Ae Tryz.func53 (by kernel_rfl) (by kernel_rfl)) h.next
def Alu(F:Fs)(h:FsOk F):Ct Zm:=Aq Zm 55 _ F.counts _ (Ae Tryz.func55 (by kernel_rfl) (by kernel_rfl)) h.counts
def Aut(F:Fs)(h:FsOk F):Ct Zm:=Aq Zm 57 _ F.write _ (Ae Tryz.func57 (by kernel_rfl) (by kernel_rfl)) h.write
def ADj(F:Fs)(h:FsOk F):Ct Zm:=Aq Zm 58 _ F.wrap _ (Ae Tryz.func58 (by kernel_rfl) (by kernel_rfl)) h.wrap
def ADk(F:Fs)(h:FsOk F):Ct Zm:=Aq Zm 114 _ F.read _ (Ae Tryz.func114 (by kernel_rfl) (by kernel_rfl)) h.read
def Auu(F:Fs)(h:FsOk F):Ct Zm:=Aq Zm 115 _ F.fresh _ (Ae Tryz.func115 (by kernel_rfl) (by kernel_rfl)) h.fresh
def Auv(F:Fs)(h:FsOk F):Ct Zm:=Aq Zm 116 _ F.oread _ (Ae Tryz.func116 (by kernel_rfl) (by kernel_rfl)) h.oread
def Alv:Ct Zm:=Aq Zm 45 (Ac cCra (Aa cI)) (fun x=>DL x.1 x.2) cB (Ae Tryz.func45 (by kernel_rfl) (by kernel_rfl)) Aep
section
variable (F:Fs)
def Aan(a b:Tup 3):Tup 6:=(a.1,a.2.1,a.2.2.1,b.1,b.2.1,b.2.2.1,())
def Jn(a:Tup 6):Tup 3:=(a.1,a.2.1,a.2.2.1,())
def PN(a:Tup 6):Tup 3:=(a.2.2.2.1,a.2.2.2.2.1,a.2.2.2.2.2.1,())
def Bm(x:Hea):Tup 6:=Aan x.2.1.2.2 x.2.2.1.2.2
theorem PO:Ah Zm 51 (Aa DZ) (fun x=>Bm x) (cT 6):=Av (tbl:=[]) (dirty:=fun _=>[]) (n:=4) xmixA Tryz.func51 rfl (fun x Post=>by kernel_rfl)
def Gz:Ct Zm:=Aq Zm 51 (Aa DZ) (fun x=>Bm x) (cT 6) (Ae Tryz.func51 (by kernel_rfl) (by kernel_rfl)) PO
def driftW(d:Dri)(x:Hea):Dri:=if !(!decide (x.2.2.1.1=0))then d else(F.bstep false (d,x.2.2.1.2.2,x.2.2.1.2.1)).1
theorem XE(h:FsOk F):Ah Zm 11 (Ac cDri (Aa DZ)) (fun x=>driftW F x.1 x.2) cDri:=Av (tbl:=[SI,Aus F h]) (dirty:=fun _=>[]) (n:=4) xmixA Tryz.func11 rfl (fun x Post=>by
    refine Eq.trans (b:=?m) ?x (Eq.symm ?y)
    case y=>unfold driftW;simp only[<-Bg (K:=PJ cDri Post)];exact rfl
    case x=>kernel_rfl)
def Aeq(h:FsOk F):Ct Zm:=Aq Zm 11 (Ac cDri (Aa DZ)) (fun x=>driftW F x.1 x.2) cDri (Ae Tryz.func11 (by kernel_rfl) (by kernel_rfl)) (XE F h)
def Aao:Sky:=(false,(0,0,0,()),(0,0,0,0,0,0,()))
def skyW(c:Cra)(t:Int):Sky:=
 if !c.2.2.2.2.1 then Aao else
 if (F.sky (F.dir (F.place false (c.2.2.2.2.2.1,t)).2 t).2 ((F.place false (c.2.2.2.2.2.1,t)).1,t)).2 then Aao else
 (true,(F.place false (c.2.2.2.2.2.1,t)).1,Aan (F.dir (F.place false (c.2.2.2.2.2.1,t)).2 t).1 (F.sky (F.dir (F.place false (c.2.2.2.2.2.1,t)).2 t).2 ((F.place false (c.2.2.2.2.2.1,t)).1,t)).1)
theorem Alw(h:FsOk F):Ah Zm 12 (Ac cCra (Aa cI)) (fun x=>skyW F x.1 x.2) cSky:=Av (tbl:=[Aup F h,AJk F h,AJl F h]) (dirty:=fun _=>[]) (n:=4) xmixA Tryz.func12 rfl (fun x Post=>by
    refine Eq.trans (b:=?m) ?x (Eq.symm ?y)
    case y=>unfold skyW;simp only[<-Bg (K:=PJ cSky Post)];exact rfl
    case x=>kernel_rfl)
def Auw(h:FsOk F):Ct Zm:=Aq Zm 12 (Ac cCra (Aa cI)) (fun x=>skyW F x.1 x.2) cSky (Ae Tryz.func12 (by kernel_rfl) (by kernel_rfl)) (Alw F h)
def DN(x:Hea)(s:Sky):Bool:=
 if !s.1 then false else if !(!decide (x.2.1.1=0))then false else if !(!decide (x.2.2.1.1=0))then false else
 if (F.apart false (Jn s.2.2,PN s.2.2)).1 then(F.apart (F.apart false (Jn s.2.2,PN s.2.2)).2 (Jn (Bm x),PN (Bm x))).1 else false
theorem PP(h:FsOk F):Ah Zm 47 (Ac DZ (Aa cSky)) (fun x=>DN F x.1 x.2) cB:=Av (tbl:=[SI,Gz,Auq F h]) (dirty:=fun _=>[]) (n:=4) xmixA Tryz.func47 rfl (fun x Post=>by
    refine Eq.trans (b:=?m) ?x (Eq.symm ?y)
    case y=>unfold DN;simp only[<-Bg (K:=PJ cB Post)];exact rfl
    case x=>kernel_rfl)
def SJ(h:FsOk F):Ct Zm:=Aq Zm 47 (Ac DZ (Aa cSky)) (fun x=>DN F x.1 x.2) cB (Ae Tryz.func47 (by kernel_rfl) (by kernel_rfl)) (PP F h)
def decW(c:Cra)(t:Int)(x:Hea)(s:Sky):See:=
 if !decide (x.1.1=0)then
  (if s.1 then(!DL c t,!decide (x.1.1=0),decide ((F.norm false x.1.2.2).1<=54975581388),DN F x s,!(F.shaded false (s.2.1,Jn s.2.2)).1,false,false,x.2.2.2)
  else(!DL c t,!decide (x.1.1=0),decide ((F.norm false x.1.2.2).1<=54975581388),DN F x s,false,false,false,x.2.2.2))
 else
  (if s.1 then(!DL c t,!decide (x.1.1=0),false,DN F x s,!(F.shaded false (s.2.1,Jn s.2.2)).1,false,false,x.2.2.2)
  else(!DL c t,!decide (x.1.1=0),false,DN F x s,false,false,false,x.2.2.2))
theorem XF(h:FsOk F):Ah Zm 13 (Ac cCra (Ac cI (Ac DZ (Aa cSky)))) (fun x=>decW F x.1 x.2.1 x.2.2.1 x.2.2.2) cSee:=Av (tbl:=[Alv,SI,ADf F h,SJ F h,Alr F h]) (dirty:=fun _=>[]) (n:=4) xmixA Tryz.func13 rfl (fun x Post=>by
    refine Eq.trans (b:=?m) ?x (Eq.symm ?y)
    case y=>unfold decW;simp only[<-Bg (K:=PJ cSee Post)];exact rfl
    case x=>kernel_rfl)
def Aer(h:FsOk F):Ct Zm:=Aq Zm 13 (Ac cCra (Ac cI (Ac DZ (Aa cSky)))) (fun x=>decW F x.1 x.2.1 x.2.2.1 x.2.2.2) cSee (Ae Tryz.func13 (by kernel_rfl) (by kernel_rfl)) (XF F h)
def XG(x:Int):Int:=IntKind.i64.wrap ((BitVec.ofInt IntKind.i64.bits x|||BitVec.ofInt IntKind.i64.bits 4).toNat)
def Ml:Tup 43:=(0,0,0,0,0,0,0,0,0,0,0,0,0,0,0,0,0,0,0,0,0,0,0,0,0,0,0,0,0,0,0,0,0,0,0,0,0,0,0,0,0,0,0,())
def Km(p:Tup 6)(a b:Tup 6):Tup 6×Tup 43:=if (F.att false (a,b)).2 then((1,0,0,0,0,XG p.2.2.2.2.2.1,()),Ml)else(p,F.start (F.att false (a,b)).1)
theorem XH(h:FsOk F):Ah Zm 54 (Ac (cT 6) (Ac (cT 6) (Aa (cT 6)))) (fun x=>Km F x.1 x.2.1 x.2.2) (Au (cT 6) (cT 43)):=Av (tbl:=[AJm F h,Aur F h]) (dirty:=fun _=>[]) (n:=4) xmixA Tryz.func54 rfl (fun x Post=>by
    refine Eq.trans (b:=?m) ?x (Eq.symm ?y)
    case y=>unfold Km;simp only[<-Bg (K:=PJ (Au (cT 6) (cT 43)) Post)];exact rfl
    case x=>kernel_rfl)
def Aes(h:FsOk F):Ct Zm:=Aq Zm 54 (Ac (cT 6) (Ac (cT 6) (Aa (cT 6)))) (fun x=>Km F x.1 x.2.1 x.2.2) (Au (cT 6) (cT 43)) (Ae Tryz.func54 (by kernel_rfl) (by kernel_rfl)) (XH F h)
def planW(c:Cra)(s:See)(x:Hea)(y:Sky):Tup 6×Tup 43:=
 if !decide ((F.next (c.2.2.2.1,s)).1=2)then(F.next (c.2.2.2.1,s),Ml)else if decide (c.2.2.2.1.1=2)then(F.next (c.2.2.2.1,s),c.2.2.2.2.2.2.2.1)else Km F (F.next (c.2.2.2.1,s)) y.2.2 (Bm x)
theorem XI(h:FsOk F):Ah Zm 15 (Ac cCra (Ac cSee (Ac DZ (Aa cSky)))) (fun x=>planW F x.1 x.2.1 x.2.2.1 x.2.2.2) (Au (cT 6) (cT 43)):=Av (tbl:=[ADi F h,Gz,Aes F h]) (dirty:=fun _=>[]) (n:=4) xmixA Tryz.func15 rfl (fun x Post=>by
    refine Eq.trans (b:=?m) ?x (Eq.symm ?y)
    case y=>unfold planW;simp only[<-Bg (K:=PJ (Au (cT 6) (cT 43)) Post)];exact rfl
    case x=>kernel_rfl)
def Aet(h:FsOk F):Ct Zm:=Aq Zm 15 (Ac cCra (Ac cSee (Ac DZ (Aa cSky)))) (fun x=>planW F x.1 x.2.1 x.2.2.1 x.2.2.2) (Au (cT 6) (cT 43)) (Ae Tryz.func15 (by kernel_rfl) (by kernel_rfl)) (XI F h)
end
section
variable (F:Fs)
def Alx(g:Tup 43):Tup 3:=(g.2.2.2.2.1,g.2.2.2.2.2.1,g.2.2.2.2.2.2.1,())
def q4T(g:Tup 43):Tup 4:=(g.1,g.2.1,g.2.2.1,g.2.2.2.1,())
def LB(s:See)(g:Tup 43)(b pass:Bool):Tup 43×See:=
 if (F.spread b g).2 then(g,(s.1,s.2.1,s.2.2.1,s.2.2.2.1,s.2.2.2.2.1,true,pass,s.2.2.2.2.2.2.2))else(g,(s.1,s.2.1,s.2.2.1,s.2.2.2.1,s.2.2.2.2.1,decide ((F.spread b g).1>274877906944),pass,s.2.2.2.2.2.2.2))
def Oh(s:See)(x:Hea)(y:Sky)(r:Tup 43×Bool):Tup 43×See:=
 if s.2.2.2.1 then(if s.2.2.2.2.1 then LB F s (F.meet r.2 (r.1,y.2.2,Bm x)).1.1 (F.meet r.2 (r.1,y.2.2,Bm x)).2 (F.meet r.2 (r.1,y.2.2,Bm x)).1.2.2 else LB F s r.1 r.2 s.2.2.2.2.2.2.1)else LB F s r.1 r.2 s.2.2.2.2.2.2.1
def Oi(g:Tup 43)(s:See)(ms:Int)(x:Hea)(y:Sky):Tup 43×See:=if !s.2.1 then Oh F s x y (F.move false (g,Alx g,ms))else Oh F s x y (F.move false (g,x.1.2.2,ms))
theorem Vm(h:FsOk F):Ah Zm 14 (Ac (cT 43) (Ac cSee (Ac cI (Ac DZ (Aa cSky))))) (fun x=>Oi F x.1 x.2.1 x.2.2.1 x.2.2.2.1 x.2.2.2.2) (Au (cT 43) cSee):=Av (tbl:=[ADg F h,ADh F h,Gz,Alt F h]) (dirty:=fun _=>[]) (n:=4) xmixA Tryz.func14 rfl (fun x Post=>by
    refine Eq.trans (b:=?m) ?x (Eq.symm ?y)
    case y=>unfold Oi Oh LB;simp only[<-Bg (K:=PJ (Au (cT 43) cSee) Post)];exact rfl
    case x=>kernel_rfl)
def XJ(h:FsOk F):Ct Zm:=Aq Zm 14 (Ac (cT 43) (Ac cSee (Ac cI (Ac DZ (Aa cSky))))) (fun x=>Oi F x.1 x.2.1 x.2.2.1 x.2.2.2.1 x.2.2.2.2) (Au (cT 43) cSee) (Ae Tryz.func14 (by kernel_rfl) (by kernel_rfl)) (Vm F h)
def Aly:Tup 3:=(0,0,0,())
def F9(c:Cra):Tup 3:=if !decide (c.2.2.2.1.1=0)then Aly else(F.dip false c.2.2.2.2.2.2.1).1
theorem Alz(h:FsOk F):Ah Zm 56 (Aa cCra) (fun x=>F9 F x) (cT 3):=Av (tbl:=[AJn F h]) (dirty:=fun _=>[]) (n:=4) xmixA Tryz.func56 rfl (fun x Post=>by
    refine Eq.trans (b:=?m) ?x (Eq.symm ?y)
    case y=>unfold F9;simp only[<-Bg (K:=PJ (cT 3) Post)];exact rfl
    case x=>kernel_rfl)
def Aux(h:FsOk F):Ct Zm:=Aq Zm 56 (Aa cCra) (fun x=>F9 F x) (cT 3) (Ae Tryz.func56 (by kernel_rfl) (by kernel_rfl)) (Alz F h)
def Aeu(c:Cra)(q:Tup 4×Tup 3):Tel:=(c.2.1,c.2.2.2.1.1,c.2.2.2.1.2.2.2.2.2.1,c.2.2.2.2.2.2.2.2.1,c.2.2.2.2.2.2.2.2.2.1,c.2.2.2.2.2.2.2.2.2.2.1,q.1.1,q.1.2.1,q.1.2.2.1,q.1.2.2.2.1,q.2.1,q.2.2.1,q.2.2.2.1,())
def noBytes:ByteArray:=⟨#[]⟩
def GV(c:Cra):ByteArray:=if !(F.write (Aeu c (F.counts (q4T c.2.2.2.2.2.2.2.1,F9 F c)))).2 then noBytes else(F.wrap (F.write (Aeu c (F.counts (q4T c.2.2.2.2.2.2.2.1,F9 F c)))).1).1
theorem Auy(h:FsOk F):Ah Zm 16 (Aa cCra) (fun x=>GV F x) cS:=Av (tbl:=[Aux F h,Alu F h,Aut F h,ADj F h]) (dirty:=fun _=>[]) (n:=4) xmixA Tryz.func16 rfl (fun x Post=>by
    refine Eq.trans (b:=?m) ?x (Eq.symm ?y)
    case y=>unfold GV;simp only[<-Bg (K:=PJ cS Post)];exact rfl
    case x=>kernel_rfl)
def ADl(h:FsOk F):Ct Zm:=Aq Zm 16 (Aa cCra) (fun x=>GV F x) cS (Ae Tryz.func16 (by kernel_rfl) (by kernel_rfl)) (Auy F h)
def rejC(c:Cra):Cra:=(c.1,c.2.1,c.2.2.1,c.2.2.2.1,c.2.2.2.2.1,c.2.2.2.2.2.1,c.2.2.2.2.2.2.1,c.2.2.2.2.2.2.2.1,(c.2.2.2.2.2.2.2.2.1,c.2.2.2.2.2.2.2.2.2.1,Vk c.2.2.2.2.2.2.2.2.2.2.1,()))
def senW(c:Cra)(h:Hea)(f:Fra)(t:Int):Cra×Hea:=
 if !(F.read f).2 then(rejC c,h)else if !(F.fresh ((F.read f).1,t))then(rejC c,h)else if decide ((F.read f).1.1=1)then(c,((F.read f).1,h.2.1,h.2.2.1,h.2.2.2))else if decide ((F.read f).1.1=2)then(c,(h.1,(F.read f).1,h.2.2.1,h.2.2.2))else if decide ((F.read f).1.1=3)then(c,(h.1,h.2.1,(F.read f).1,h.2.2.2))else(c,h)
theorem PQ(h:FsOk F):Ah Zm 38 (Ac cCra (Ac DZ (Ac AU (Aa cI)))) (fun x=>senW F x.1 x.2.1 x.2.2.1 x.2.2.2) (Au cCra DZ):=Av (tbl:=[ADk F h,Auu F h,Jm]) (dirty:=fun _=>[]) (n:=4) xmixA Tryz.func38 rfl (fun x Post=>by
    refine Eq.trans (b:=?m) ?x (Eq.symm ?y)
    case y=>unfold senW;simp only[<-Bg (K:=PJ (Au cCra DZ) Post)];exact rfl
    case x=>kernel_rfl)
def SK(h:FsOk F):Ct Zm:=Aq Zm 38 (Ac cCra (Ac DZ (Ac AU (Aa cI)))) (fun x=>senW F x.1 x.2.1 x.2.2.1 x.2.2.2) (Au cCra DZ) (Ae Tryz.func38 (by kernel_rfl) (by kernel_rfl)) (PQ F h)
def Ga(c:Cra)(q e:Int):Cra:=(c.1,c.2.1,c.2.2.1,c.2.2.2.1,c.2.2.2.2.1,c.2.2.2.2.2.1,c.2.2.2.2.2.2.1,c.2.2.2.2.2.2.2.1,(q,e,c.2.2.2.2.2.2.2.2.2.2.1,()))
def Auz(c:Cra)(o:Tup 7):Cra:=(c.1,c.2.1,c.2.2.1,c.2.2.2.1,true,o,c.2.2.2.2.2.2.1,c.2.2.2.2.2.2.2.1,c.2.2.2.2.2.2.2.2)
def Au0(c:Cra):Cra:=(c.1,c.2.1,c.2.2.1,(c.2.2.2.1.1,c.2.2.2.1.2.1,c.2.2.2.1.2.2.1,c.2.2.2.1.2.2.2.1,c.2.2.2.1.2.2.2.2.1,0,()),c.2.2.2.2.1,c.2.2.2.2.2.1,c.2.2.2.2.2.2.1,c.2.2.2.2.2.2.2.1,(c.2.2.2.2.2.2.2.2.1,c.2.2.2.2.2.2.2.2.2.1,0,()))
def ordC(c:Cra)(h:Hea)(o:Tup 9×Int):Cra×Hea:=
 if !decide (o.2=0)then(rejC (Ga c o.1.1 o.2),h)else if decide (o.1.2.1=1)then(Ga c o.1.1 o.2,(h.1,h.2.1,h.2.2.1,o.1.2.1))else if decide (o.1.2.1=2)then(Ga c o.1.1 o.2,(h.1,h.2.1,h.2.2.1,o.1.2.1))else if decide (o.1.2.1=3)then(Auz (Ga c o.1.1 o.2) o.1.2.2,h)else if decide (o.1.2.1=4)then(Au0 (Ga c o.1.1 o.2),h)else(Ga c o.1.1 o.2,h)
theorem PR(h:FsOk F):Ah Zm 39 (Ac cCra (Ac DZ (Aa AU))) (fun x=>ordC x.1 x.2.1 (F.oread x.2.2)) (Au cCra DZ):=Av (tbl:=[Auv F h,Jm]) (dirty:=fun _=>[]) (n:=4) xmixA Tryz.func39 rfl (fun x Post=>by
    refine Eq.trans (b:=?m) ?x (Eq.symm ?y)
    case y=>unfold ordC;simp only[<-Bg (K:=PJ (Au cCra DZ) Post)];exact rfl
    case x=>kernel_rfl)
def SL(h:FsOk F):Ct Zm:=Aq Zm 39 (Ac cCra (Ac DZ (Aa AU))) (fun x=>ordC x.1 x.2.1 (F.oread x.2.2)) (Au cCra DZ) (Ae Tryz.func39 (by kernel_rfl) (by kernel_rfl)) (PR F h)
end
end
section
def crcBit(r:Nat):Nat:=if 32768<=r then(2*r-65536) ^^^ 4129 else 2*r
def MY(r b:Nat):Nat:=crcBit (crcBit (crcBit (crcBit (crcBit (crcBit (crcBit (crcBit (r ^^^ b*256))))))))
def Oj(r:Nat)(l:List Nat):Nat:=l.foldl MY r
theorem XK(r b:Nat)(l:List Nat):Oj r (b::l)=Oj (MY r b) l:=by unfold Oj;rw[List.foldl_cons]
theorem SN{a b:Nat}(ha:a<65536)(hb:b<65536):a ^^^ b<65536:=Nat.xor_lt_two_pow (n:=16) ha hb
theorem CS{r:Nat}(h:r<65536):crcBit r<65536:=by
 unfold crcBit
 split
 ·exact SN (by omega) (by decide)
 ·omega
theorem XL{r b:Nat}(hr:r<65536)(hb:b<256):MY r b<65536:=
 CS (CS (CS (CS (CS (CS (CS (CS (SN hr (by omega)))))))))
theorem Al0{l:List Nat}(hl:∀b∈l,b<256):∀{r:Nat},r<65536->Oj r l<65536:=by
 induction l with
 |nil=>intro r h;exact h
 |cons b l ih=>intro r h;rw[XK];exact ih (fun c hc=>hl c (List.mem_cons_of_mem _ hc)) (XL h (hl b List.mem_cons_self))
def FK(l:List UInt8):Nat:=Oj 65535 (l.map UInt8.toNat)
theorem MZ(l:List UInt8):FK l<65536:=Al0 (by intro b hb;obtain⟨x,_,rfl⟩:=List.mem_map.1 hb;exact x.toNat_lt) (by decide)
def look(s:List UInt8):Option Nat:=
 if s.length=0 then none
 else if s.getD 0 0≠165 then some 0
 else if s.length<3 then none
 else if 64<(s.getD 2 0).toNat then some 0
 else if s.length<(s.getD 2 0).toNat+5 then none
 else if FK ((s.drop 1).take ((s.getD 2 0).toNat+2))=(s.getD ((s.getD 2 0).toNat+3) 0).toNat*256+(s.getD ((s.getD 2 0).toNat+4) 0).toNat then some ((s.getD 2 0).toNat+1)
 else some 0
theorem Da{s:List UInt8}{k:Nat}(h:look s=some k):1<=s.length/\(∀n,k=n+1->n+5<=s.length/\n=(s.getD 2 0).toNat/\n<=64):=by
 unfold look at h
 by_cases l0:s.length=0
 ·rw[if_pos l0]at h;cases h
 refine⟨by omega,fun n hn=>?_⟩
 subst hn
 rw[if_neg l0]at h
 by_cases c:s.getD 0 0≠165
 ·rw[if_pos c]at h;cases h
 rw[if_neg c]at h
 by_cases l3:s.length<3
 ·rw[if_pos l3]at h;cases h
 rw[if_neg l3]at h
 by_cases n64:64<(s.getD 2 0).toNat
 ·rw[if_pos n64]at h;cases h
 rw[if_neg n64]at h
 by_cases l5:s.length<(s.getD 2 0).toNat+5
 ·rw[if_pos l5]at h;cases h
 rw[if_neg l5]at h
 by_cases q:FK ((s.drop 1).take ((s.getD 2 0).toNat+2))=(s.getD ((s.getD 2 0).toNat+3) 0).toNat*256+(s.getD ((s.getD 2 0).toNat+4) 0).toNat
 ·rw[if_pos q]at h
  have:(s.getD 2 0).toNat+1=n+1:=Option.some.inj h
  exact⟨by omega,by omega,by omega⟩
 ·rw[if_neg q]at h;cases h
def Cf:Nat->List UInt8->List (UInt8×List UInt8)×List UInt8×Nat
 |0,s=>([],s,0)
 |f+1,s=>match look s with
  |none=>([],s,0)
  |some 0=>((Cf f (s.drop 1)).1,(Cf f (s.drop 1)).2.1,(Cf f (s.drop 1)).2.2+1)
  |some (n+1)=>((s.getD 1 0,(s.drop 3).take n)::(Cf f (s.drop (n+5))).1,(Cf f (s.drop (n+5))).2.1,(Cf f (s.drop (n+5))).2.2)
theorem Vn:look []=none:=rfl
theorem ID:∀f,Cf f []=([],[],0)
 |0=>rfl
 |_+1=>rfl
theorem Jo{f:Nat}{s:List UInt8}(h:look s=none):Cf f s=([],s,0):=by
 cases f with
 |zero=>rfl
 |succ f=>unfold Cf;rw[h]
theorem Jp{f:Nat}{s:List UInt8}(h:look s=some 0):Cf (f+1) s=((Cf f (s.drop 1)).1,(Cf f (s.drop 1)).2.1,(Cf f (s.drop 1)).2.2+1):=by
 conv=>lhs;unfold Cf
 rw[h]
theorem HG{f n:Nat}{s:List UInt8}(h:look s=some (n+1)):Cf (f+1) s=((s.getD 1 0,(s.drop 3).take n)::(Cf f (s.drop (n+5))).1,(Cf f (s.drop (n+5))).2.1,(Cf f (s.drop (n+5))).2.2):=by
 conv=>lhs;unfold Cf
 rw[h]
theorem Jq:∀(f g:Nat) (s:List UInt8),s.length<=f->s.length<=g->Cf f s=Cf g s
 |0,g,s,h,_=>by
  obtain rfl:s=[]:=Zad.1 (by omega)
  rw[ID,ID]
 |f+1,0,s,_,h=>by
  obtain rfl:s=[]:=Zad.1 (by omega)
  rw[ID,ID]
 | f+1,g+1,s,hf,hg=>by
  cases e:look s with
  |none=>rw[Jo e,Jo e]
  |some k=>
   have l:=Da e
   cases k with
   |zero=>rw[Jp e,Jp e,Jq f g (s.drop 1) (by rw[Zu];omega) (by rw[Zu];omega)]
   |succ n=>rw[HG e,HG e,Jq f g (s.drop (n+5)) (by rw[Zu];omega) (by rw[Zu];omega)]
def scanL(s:List UInt8):List (UInt8×List UInt8)×List UInt8×Nat:=Cf s.length s
theorem Kn(s:List UInt8)(f:Nat)(h:s.length<=f):scanL s=Cf f s:=Jq _ _ s (Zr _) h
open Go.RowKit
def crcBits:Nat->Nat->Nat
 |0,r=>r
 |k+1,r=>crcBit (crcBits k r)
theorem Jr{r:Nat}(h:r<65536):∀k,crcBits k r<65536
 |0=>h
 |k+1=>CS (Jr h k)
def MG(l:List UInt8)(k:Nat):Nat:=Oj 65535 ((l.take k).map UInt8.toNat)
theorem Aap(l:List UInt8)(k:Nat):MG l k<65536:=MZ (l.take k)
theorem Vo{r b:Nat}(hr:r<65536)(hb:b<256):bits .xor .u16 (r:Int) ((b:Int)*256)=((r ^^^ b*256:Nat):Int):=by
 rw[show(b:Int)*256=((b*256:Nat):Int)by omega,u16_xor_nat r (b*256) hr (by omega)]
theorem Aaq{x:Nat}(hx:x<65536)(h:((x:Int) / 32768==1)=true):bits .xor .u16 (IntKind.u16.wrap ((x:Int)*2)) 4129=(crcBit x:Nat):=by
 have h:(x:Int) / 32768=1:=by simpa using h
 rw[IntKind.wrap_u16,show((x:Int)*2) % 65536=((2*x-65536:Nat):Int)by omega]
 unfold crcBit
 rw[if_pos (by omega)]
 exact u16_xor_nat _ 4129 (by omega) (by decide)
theorem Al1{x:Nat}(hx:x<65536)(h:((x:Int) / 32768==1)=false):IntKind.u16.wrap ((x:Int)*2)=(crcBit x:Nat):=by
 have h:¬(x:Int) / 32768=1:=by simpa using h
 rw[IntKind.wrap_u16]
 unfold crcBit
 rw[if_neg (by omega)]
 omega
theorem Al2{x:Nat}(hx:x<65536)(h:32768<=(x:Int)):bits .xor .u16 (IntKind.u16.wrap ((x:Int)*2)) 4129=(crcBit x:Nat):=
 Aaq hx (by rw[show(x:Int) / 32768=1 by omega];rfl)
theorem Aev{x:Nat}(h:¬32768<=(x:Int)):(x:Int)*2=(crcBit x:Nat):=by
 unfold crcBit
 rw[if_neg (by omega)]
 omega
theorem QM{s:ByteArray}{k b:Nat}(h:k<s.size)(hb:(s[k]'h).toNat=b):MG s.data.toList (k+1)=crcBits 8 (MG s.data.toList k ^^^ b*256):=by
 have hl:k<s.data.toList.length:=h
 have e:s.data.toList.take (k+1)=s.data.toList.take k++[s[k]'h]:=by
  rw[List.take_succ_eq_append_getElem hl]
  rfl
 unfold MG Oj
 rw[e,List.map_append,List.foldl_append,List.map_cons,List.map_nil,List.foldl_cons,List.foldl_nil,hb]
 unfold MY
 simp only[crcBits]
theorem Vp(s:ByteArray):MG s.data.toList s.size=FK s.data.toList:=by
 unfold MG FK
 rw[List.take_of_length_le (l:=s.data.toList) (i:=s.size) (Zr _)]
theorem Aar(s:ByteArray)(w:World)(hs:s.size<=5000):
    Calls Zm 173 #[.string s] w fun e w'=>e=.returned (.int .u16 (FK s.data.toList:Nat))/\w=w':=by
 go_enter Tryz.func173,Tryz.ntmps173
 go_wp2
 go_loop [3,8] (fun r i=>∃k:Nat,k<=s.size/\i=.int .i64 k/\r=.int .u16 (MG s.data.toList k:Nat)) (fun _ i=>s.size-(intOf i).toNat)
 case atStart=>exact⟨0,Nat.zero_le _,rfl,rfl⟩
 case round=>
  obtain⟨k,hk,rfl,rfl⟩:=hrel
  have hlt:=Aap s.data.toList k
  obtain⟨r,hr⟩:∃r,r=MG s.data.toList k:=⟨_,rfl⟩
  rw[<-hr]at hlt ⊢
  have HK:Hid (r=MG s.data.toList k):=hr
  clear hr
  by_cases hkl:k<s.size
  ·obtain⟨b,hb⟩:∃b,(s[k]'hkl).toNat=b:=⟨_,rfl⟩
   have hb8:b<256:=by rw[<-hb];exact(s[k]'hkl).toNat_lt
   obtain⟨R,hR⟩:∃R,R=r ^^^ b*256:=⟨_,rfl⟩
   have hRl:R<65536:=by rw[hR];exact SN hlt (by omega)
   have e1:=Vo hlt hb8
   rw[<-hR]at e1
   have HR:Hid (R=r ^^^ b*256):=hR
   clear hR
   go_wp2
   go_loop [3,18] (fun v j=>∃n:Nat,n<=8/\j=.int .i64 n/\v=.int .u16 (crcBits n R:Nat)) (fun _ j=>8-(intOf j).toNat)
   case atStart=>exact⟨0,by omega,rfl,rfl⟩
   case round=>
    obtain⟨n,hn,rfl,rfl⟩:=hrel
    have hx:=Jr hRl n
    obtain⟨x,hxe⟩:∃x,x=crcBits n R:=⟨_,rfl⟩
    rw[<-hxe]at hx ⊢
    have HX:Hid (x=crcBits n R):=hxe
    clear hxe
    go_wp2
    ·go_round
     case rel=>exact⟨n+1,by omega,by go_num,by rw[Aaq hx (by assumption)];show _=Value.int .u16 (crcBit (crcBits n R):Nat);rw[HX.out]⟩
     case measure=>simp[intOf];omega
    ·go_round
     case rel=>exact⟨n+1,by omega,by go_num,by rw[Al1 hx (by assumption)];show _=Value.int .u16 (crcBit (crcBits n R):Nat);rw[HX.out]⟩
     case measure=>simp[intOf];omega
    ·go_round
     case rel=>
      obtain rfl:n=8:=by omega
      exact⟨k+1,by omega,by go_num,by rw[QM hkl hb,HX.out,HR.out,HK.out]⟩
     case measure=>simp[intOf];omega
  ·go_wp2
   obtain rfl:k=s.size:=by omega
   go_ret
   exact⟨by rw[HK.out,Vp];rfl,rfl⟩
theorem Al3(s:ByteArray)(w:World)(hs:s.size<=5000):
    Calls Zm 110 #[.string s] w fun e w'=>e=.returned (.int .u16 (FK s.data.toList:Nat))/\w=w':=by
 go_enter Tryz.func110,Tryz.ntmps110
 go_wp2
 go_loop [3,4] (fun r i=>∃k:Nat,k<=s.size/\i=.int .i64 k/\r=.int .u16 (MG s.data.toList k:Nat)) (fun _ i=>s.size-(intOf i).toNat)
 case atStart=>exact⟨0,Nat.zero_le _,rfl,rfl⟩
 case round=>
  obtain⟨k,hk,rfl,rfl⟩:=hrel
  have hlt:=Aap s.data.toList k
  obtain⟨r,hr⟩:∃r,r=MG s.data.toList k:=⟨_,rfl⟩
  rw[<-hr]at hlt ⊢
  have HK:Hid (r=MG s.data.toList k):=hr
  clear hr
  by_cases hkl:k<s.size
  ·obtain⟨b,hb⟩:∃b,(s[k]'hkl).toNat=b:=⟨_,rfl⟩
   have hb8:b<256:=by rw[<-hb];exact(s[k]'hkl).toNat_lt
   obtain⟨R,hR⟩:∃R,R=r ^^^ b*256:=⟨_,rfl⟩
   have hRl:R<65536:=by rw[hR];exact SN hlt (by omega)
   have e1:=Vo hlt hb8
   rw[<-hR]at e1
   have HR:Hid (R=r ^^^ b*256):=hR
   clear hR
   go_wp2
   go_loop [3,5] (fun v j=>∃n:Nat,n<=8/\j=.int .i64 n/\v=.int .u16 (crcBits n R:Nat)) (fun _ j=>8-(intOf j).toNat)
   case atStart=>exact⟨0,by omega,rfl,rfl⟩
   case round=>
    obtain⟨n,hn,rfl,rfl⟩:=hrel
    have hx:=Jr hRl n
    obtain⟨x,hxe⟩:∃x,x=crcBits n R:=⟨_,rfl⟩
    rw[<-hxe]at hx ⊢
    have HX:Hid (x=crcBits n R):=hxe
    clear hxe
    clear e1
    by_cases hn8:n<8
    ·by_cases c:32768<=(x:Int)
     ·go_wp2
      go_round
      case rel=>exact⟨n+1,by omega,by go_num,by rw[Al2 hx c];show _=Value.int .u16 (crcBit (crcBits n R):Nat);rw[HX.out]⟩
      case measure=>simp[intOf];omega
     ·go_wp2
      go_round
      case rel=>exact⟨n+1,by omega,by go_num,by rw[Aev c];show _=Value.int .u16 (crcBit (crcBits n R):Nat);rw[HX.out]⟩
      case measure=>simp[intOf];omega
    ·go_wp2
     go_round
     case rel=>
      obtain rfl:n=8:=by omega
      exact⟨k+1,by omega,by go_num,by rw[QM hkl hb,HX.out,HR.out,HK.out]⟩
     case measure=>simp[intOf];omega
  ·go_wp2
   obtain rfl:k=s.size:=by omega
   go_ret
   exact⟨by rw[HK.out,Vp];rfl,rfl⟩
end
section
def BB(k:UInt8)(d:List UInt8):List UInt8:=[k,UInt8.ofNat d.length]++d
def CH(k:UInt8)(d:List UInt8):List UInt8:=[165]++BB k d++[UInt8.ofNat (FK (BB k d) / 256),UInt8.ofNat (FK (BB k d) % 256)]
theorem ofNat_toNat{n:Nat}(h:n<256):(UInt8.ofNat n).toNat=n:=by simp;omega
section
variable {l:List UInt8} {n:Nat}
theorem AAq(h:0<l.length)(c:(l.getD 0 0).toNat≠165):look l=some 0:=by
 unfold look
 rw[if_neg (by omega),if_pos (fun e=>c (by rw[e];rfl))]
theorem AAr(h:0<l.length)(c:(l.getD 0 0).toNat=165)(h3:l.length<3):look l=none:=by
 unfold look
 rw[if_neg (by omega),if_neg (by simpa [<-Zac]using c),if_pos h3]
theorem AAs(c:(l.getD 0 0).toNat=165)(h3:3<=l.length)(hn:(l.getD 2 0).toNat=n)(h:64<n):look l=some 0:=by
 unfold look
 rw[if_neg (by omega),if_neg (by simpa [<-Zac]using c),if_neg (by omega),if_pos (by omega)]
theorem AAt(c:(l.getD 0 0).toNat=165)(h3:3<=l.length)(hn:(l.getD 2 0).toNat=n)(h:n<=64)(h5:l.length<n+5):look l=none:=by
 unfold look
 rw[if_neg (by omega),if_neg (by simpa [<-Zac]using c),if_neg (by omega),if_neg (by omega),if_pos (by omega)]
theorem AAu(c:(l.getD 0 0).toNat=165)(hn:(l.getD 2 0).toNat=n)(h:n<=64)(h5:n+5<=l.length)
    (hq:FK ((l.drop 1).take (n+2))≠(l.getD (n+3) 0).toNat*256+(l.getD (n+4) 0).toNat):look l=some 0:=by
 unfold look
 rw[if_neg (by omega),if_neg (by simpa [<-Zac]using c),if_neg (by omega),if_neg (by omega),if_neg (by omega),hn,if_neg hq]
theorem Al4(c:(l.getD 0 0).toNat=165)(hn:(l.getD 2 0).toNat=n)(h:n<=64)(h5:n+5<=l.length)
    (hq:FK ((l.drop 1).take (n+2))=(l.getD (n+3) 0).toNat*256+(l.getD (n+4) 0).toNat):look l=some (n+1):=by
 unfold look
 rw[if_neg (by omega),if_neg (by simpa [<-Zac]using c),if_neg (by omega),if_neg (by omega),if_neg (by omega),hn,if_pos hq]
end
theorem Ol{l:List UInt8}{n:Nat}(h:look l=some (n+1)):l.getD 0 0=165/\(l.getD 2 0).toNat=n/\n<=64/\n+5<=l.length/\
    FK ((l.drop 1).take (n+2))=(l.getD (n+3) 0).toNat*256+(l.getD (n+4) 0).toNat:=by
 have L:=(Da h).2 n rfl
 unfold look at h
 split at h
 ·cases h
 split at h
 ·cases h
 rename_i a
 split at h
 ·cases h
 split at h
 ·cases h
 split at h
 ·cases h
 split at h
 ·rename_i q
  rw[<-L.2.1]at q
  exact⟨by simpa using a,L.2.1.symm,L.2.2,L.1,q⟩
 ·cases h
theorem AJo{l:List UInt8}{n:Nat}(h:l.length=n+5):∃a b c d p q,l=a::b::c::(d++[p,q])/\d.length=n:=by
 match l,h with
 | a ::b::c::r,h=>
  have hr:r.length=n+2:=by simp at h;omega
  refine⟨a,b,c,r.take n,r[n]'(by omega),r[n+1]'(by omega),?_,by rw[Zx];omega⟩
  have e:r=r.take n++[r[n]'(by omega),r[n+1]'(by omega)]:=by
   apply List.ext_getElem
   ·simp;omega
   ·intro i h1 h2
    by_cases hi:i<n
    ·rw[List.getElem_append_left (by rw[Zx];omega),List.getElem_take]
    ·rw[List.getElem_append_right (by rw[Zx];omega)]
     have:i=n∨i=n+1:=by omega
     rcases this with rfl |rfl
     ·simp[show min i r.length=i by omega]
     ·simp[show min n r.length=n by omega]
  rw[<-e]
theorem Au1{a b c p q:UInt8}{d r:List UInt8}(hd:d.length<=64)(ha:a=165)(hc:c.toNat=d.length)(hs:FK ([b,c]++d)=p.toNat*256+q.toNat):
    look (a::b::c::(d++[p,q])++r)=some (d.length+1):=by
 refine Al4 (by subst ha;rfl) (by simpa using hc) hd (by simp) ?_
 have e1:((a::b::c::(d++[p,q])++r).drop 1).take (d.length+2)=[b,c]++d:=by
  simp
 have e2:(a::b::c::(d++[p,q])++r).getD (d.length+3) 0=p:=by
  simp
 have e3:(a::b::c::(d++[p,q])++r).getD (d.length+4) 0=q:=by
  simp[show d.length+1-d.length=1 by omega]
 rw[e1,e2,e3,hs]
theorem HU(k:UInt8)(d:List UInt8):CH k d=165::k::UInt8.ofNat d.length::(d++[UInt8.ofNat (FK (BB k d) / 256),UInt8.ofNat (FK (BB k d) % 256)]):=by
 simp[CH,BB]
theorem SO(k:UInt8)(d:List UInt8):(CH k d).length=d.length+5:=by
 rw[HU]
 simp
theorem Al5(n:Nat)(h:n<65536):n=(UInt8.ofNat (n / 256)).toNat*256+(UInt8.ofNat (n % 256)).toNat:=by
 rw[ofNat_toNat (by omega),ofNat_toNat (by omega)]
 omega
theorem Aew(k:UInt8)(d r:List UInt8)(h:d.length<=64):look (CH k d++r)=some (d.length+1):=by
 rw[HU]
 exact Au1 h rfl (ofNat_toNat (by omega)) (Al5 _ (MZ _))
theorem Aex{l:List UInt8}{n:Nat}(h:look l=some (n+1)):l.take (n+5)=CH (l.getD 1 0) ((l.drop 3).take n):=by
 obtain⟨h0,h2,h64,h5,hs⟩:=Ol h
 obtain⟨a,b,c,d,p,q,e,hd⟩:=AJo (l:=l.take (n+5)) (n:=n) (by rw[Zx];omega)
 have el:l=a::b::c::(d++[p,q])++l.drop (n+5):=by rw[<-e,List.take_append_drop]
 rw[e]
 generalize l.drop (n+5)=r at el
 subst el hd
 have e1:((a::b::c::(d++[p,q])++r).drop 1).take (d.length+2)=[b,c]++d:=by
  simp
 have e2:(a::b::c::(d++[p,q])++r).getD (d.length+3) 0=p:=by
  simp
 have e3:(a::b::c::(d++[p,q])++r).getD (d.length+4) 0=q:=by
  simp[show d.length+1-d.length=1 by omega]
 have e4:((a::b::c::(d++[p,q])++r).drop 3).take d.length=d:=by
  simp
 have e5:(a::b::c::(d++[p,q])++r).getD 1 0=b:=rfl
 have ha:a=165:=h0
 have hc:c.toNat=d.length:=h2
 rw[e1,e2,e3]at hs
 rw[e4,e5,HU,ha]
 have hw:BB b d=[b,c]++d:=by
  unfold BB
  rw[<-hc,Zae]
 have hp:=p.toNat_lt
 have hq:=q.toNat_lt
 rw[hw,hs,<-hc,Zae,show(p.toNat*256+q.toNat) / 256=p.toNat by omega,show(p.toNat*256+q.toNat) % 256=q.toNat by omega,Zae,Zae]
theorem XM{l:List UInt8}(h:look l=none):scanL l=([],l,0):=Jo h
theorem XN{l:List UInt8}(h:look l=some 0):scanL l=((scanL (l.drop 1)).1,(scanL (l.drop 1)).2.1,(scanL (l.drop 1)).2.2+1):=by
 have L:=(Da h).1
 rw[Kn l (l.length-1+1) (by omega),Jp h,<-Kn (l.drop 1) _ (by rw[Zu];omega)]
theorem Vq{l:List UInt8}{n:Nat}(h:look l=some (n+1)):scanL l=((l.getD 1 0,(l.drop 3).take n)::(scanL (l.drop (n+5))).1,(scanL (l.drop (n+5))).2.1,(scanL (l.drop (n+5))).2.2):=by
 have L:=(Da h).2 n rfl
 rw[Kn l (l.length-1+1) (by omega),HG h,<-Kn (l.drop (n+5)) _ (by rw[Zu];omega)]
open Go.RowKit
theorem FB{s:ByteArray}{i:Nat}(h:i<s.size):s.data.toList.getD i 0=s[i]'h:=by
 have hl:i<s.data.toList.length:=h
 rw[Zn,Zz hl]
 rfl
theorem ADm{a b:Nat}(ha:a<256)(hb:b<256):bits .or .u16 ((a:Int)*256) (b:Int)=((a*256+b:Nat):Int):=by
 rw[show(a:Int)*256=((a*256:Nat):Int)by omega,u16_or_nat (a*256) b (by omega) (by omega)]
 have:=Nat.two_pow_add_eq_or_of_lt (i:=8) (show b<2^8 by omega) a
 rw[show a*256=2^8*a by omega,<-this]
theorem CU(s:ByteArray)(a b:Nat):(s.extract a b).data.toList=(s.data.toList.drop a).take (b-a):=Lib.extract_data s a b
theorem QN{s:ByteArray}(h:s.size≠0):s.toList.isEmpty=false:=by
 rw[Lib.toList_data]
 cases e:s.data.toList with
 |nil=>exact absurd (by rw[Lib.size_eq,e];rfl) h
 |cons a l=>rfl
def Vr:Option Nat->Int×Int
 |none=>(1,0)
 |some 0=>(0,0)
 |some (n+1)=>(2,(n:Int)+5)
def lookC(l:List UInt8):Int×Int:=if l.length=0 then(0,0)else Vr (look l)
theorem DO{l:List UInt8}{r:Option Nat}(h:0<l.length)(hr:look l=r):lookC l=Vr r:=by
 unfold lookC
 rw[if_neg (by omega),hr]
theorem FC{w:World}{n:Nat}:Below w.heap.size w (w.drewN n):=below_drewN (Below.refl _ _) n
theorem Js{w w1:World}(hb1:Below (w.alloc (.cells #[.int .i64 0,.string ⟨#[]⟩] 99)).heap.size (w.alloc (.cells #[.int .i64 0,.string ⟨#[]⟩] 99)) w1):w1.cell? ⟨w.heap.size,0,none⟩=some (.int .i64 0):=(hb1.cell (by simp)).trans (by simp)
theorem Jt{w w1:World}(hb1:Below (w.alloc (.cells #[.int .i64 0,.string ⟨#[]⟩] 99)).heap.size (w.alloc (.cells #[.int .i64 0,.string ⟨#[]⟩] 99)) w1):w1.cell? ⟨w.heap.size,1,none⟩=some (.string ⟨#[]⟩):=(hb1.cell (by simp)).trans (by simp)
theorem Ju{w w1:World}(hb1:Below (w.alloc (.cells #[.int .i64 0,.string ⟨#[]⟩] 99)).heap.size (w.alloc (.cells #[.int .i64 0,.string ⟨#[]⟩] 99)) w1):w1.frozen? ⟨w.heap.size,0,none⟩=false:=(hb1.frozen (by simp)).trans (by simp)
theorem Jv{w w1:World}(hb1:Below (w.alloc (.cells #[.int .i64 0,.string ⟨#[]⟩] 99)).heap.size (w.alloc (.cells #[.int .i64 0,.string ⟨#[]⟩] 99)) w1):w1.frozen? ⟨w.heap.size,1,none⟩=false:=(hb1.frozen (by simp)).trans (by simp)
theorem Jw{w w1:World}(hb1:Below (w.alloc (.cells #[.int .i64 0,.string ⟨#[]⟩] 99)).heap.size (w.alloc (.cells #[.int .i64 0,.string ⟨#[]⟩] 99)) w1):Below w.heap.size w w1:=((Below.refl _ w).alloc (Zr _) _).trans (hb1.mono (by simp))
theorem Aey(s:ByteArray)(w:World)(n:Nat)(hs:s.size<=5000):
    Calls Zm 173 #[.string s] (w.drewN n) fun e w'=>e=.returned (.int .u16 (FK s.data.toList:Nat))/\∃m,w'=w.drewN m:=
 (Aar s _ hs).mono fun _ _ ⟨he,hw⟩=>⟨he,n,hw.symm⟩
theorem Al6(s:ByteArray)(w:World):
    Calls Zm 111 #[.string s] w fun e w'=>e=.returned (.tuple #[.int .i64 (lookC s.data.toList).1,.int .i64 (lookC s.data.toList).2])/\Below w.heap.size w w':=by
 have hlen:s.data.toList.length=s.size:=rfl
 by_cases h0:s.size=0
 ·have e:lookC s.data.toList=(0,0):=by unfold lookC;rw[if_pos (by omega)]
  rw[e]
  obtain rfl:s=⟨#[]⟩:=by apply ByteArray.ext;exact Zah h0
  go_enter Tryz.func111,Tryz.ntmps111
  go_wp2
  go_ret2
  exact⟨rfl,Below.refl _ _⟩
 have l0:0<s.size:=by omega
 obtain⟨b0,hb0⟩:∃b,(s[0]'l0).toNat=b:=⟨_,rfl⟩
 have g0:(s.data.toList.getD 0 0).toNat=b0:=by rw[FB l0,hb0]
 have hne:s.toList.isEmpty=false:=QN h0
 have G0:Hid ((s.data.toList.getD 0 0).toNat=b0):=g0
 clear g0
 by_cases c0:b0=165
 case neg=>
  rw[DO (by omega) (AAq (by omega) (by rw[G0.out];exact c0))]
  have c0':((b0:Int) != 165)=true:=by simp;omega
  go_enter Tryz.func111,Tryz.ntmps111
  go_wp2
  go_ret2
  exact⟨rfl,Below.refl _ _⟩
 rw[c0]at G0 hb0
 clear c0 b0
 by_cases h3:s.size<3
 case pos=>
  rw[DO (by omega) (AAr (by omega) G0.out (by omega))]
  go_enter Tryz.func111,Tryz.ntmps111
  go_wp2
  go_ret2
  exact⟨rfl,Below.refl _ _⟩
 have l2:2<s.size:=by omega
 obtain⟨n,hn⟩:∃b,(s[2]'l2).toNat=b:=⟨_,rfl⟩
 have hn8:n<256:=by rw[<-hn];exact(s[2]'l2).toNat_lt
 have G2:Hid ((s.data.toList.getD 2 0).toNat=n):=by show _=_;rw[FB l2,hn]
 by_cases h64:64<n
 case pos=>
  rw[DO (by omega) (AAs G0.out (by omega) G2.out h64)]
  go_enter Tryz.func111,Tryz.ntmps111
  go_wp2
  go_ret2
  exact⟨rfl,Below.refl _ _⟩
 by_cases h5:s.size<n+5
 case pos=>
  rw[DO (by omega) (AAt G0.out (by omega) G2.out (by omega) (by omega))]
  go_enter Tryz.func111,Tryz.ntmps111
  go_wp2
  go_ret2
  exact⟨rfl,Below.refl _ _⟩
 have l3:3+n<s.size:=by omega
 have l4:3+n+1<s.size:=by omega
 obtain⟨p,hp⟩:∃b,(s[3+n]'l3).toNat=b:=⟨_,rfl⟩
 obtain⟨q,hq⟩:∃b,(s[3+n+1]'l4).toNat=b:=⟨_,rfl⟩
 have hp8:p<256:=by rw[<-hp];exact(s[3+n]'l3).toNat_lt
 have hq8:q<256:=by rw[<-hq];exact(s[3+n+1]'l4).toNat_lt
 have G3:Hid ((s.data.toList.getD (n+3) 0).toNat=p):=by show _=_;rw[show n+3=3+n by omega,FB l3,hp]
 have G4:Hid ((s.data.toList.getD (n+4) 0).toNat=q):=by show _=_;rw[show n+4=3+n+1 by omega,FB l4,hq]
 have HS:Hid ((s.extract 1 (3+n)).data.toList=(s.data.toList.drop 1).take (n+2)):=by show _=_;rw[CU,show 3+n-1=n+2 by omega]
 have hsz:(s.extract 1 (3+n)).size<=5000:=by rw[Zv];omega
 have hj:=ADm hp8 hq8
 obtain⟨j,hje⟩:∃j,j=p*256+q:=⟨_,rfl⟩
 rw[<-hje]at hj
 have HJ:Hid (j=p*256+q):=hje
 clear hje
 obtain⟨S,hS⟩:∃S,S=FK (s.extract 1 (3+n)).data.toList:=⟨_,rfl⟩
 have hsum:∀m,Calls Zm 173 #[.string (s.extract 1 (3+n))] (w.drewN m) fun e w'=>e=.returned (.int .u16 (S:Nat))/\∃m,w'=w.drewN m:=fun m=>by
  rw[hS]
  exact Aey _ _ _ hsz
 have hsl:∀W:World,(Instr.slice 9 (.string s) (some (.int .i64 1)) (some (.int .i64 (3+(n:Int)))) none).run Zm W=.ok (.string (s.extract 1 (3+n))) W:=fun W=>by
  rw[run_slice_string W 9 s .i64 .i64 1 (3+(n:Int)) Tryz.underlying9 (by omega) (by omega) (by omega),show(3+(n:Int)).toNat=3+n by omega]
  rfl
 have hi3:∀W:World,(Instr.index 9 (.string s) (.int .i64 (3+(n:Int)))).run Zm W=.ok (.int .u8 (p:Nat)) W:=fun W=>by
  rw[run_index_string W 9 s .i64 (3+(n:Int)) Tryz.underlying9,dif_pos (by omega)]
  have:(3+(n:Int)).toNat=3+n:=by omega
  simp only[this,hp]
 have hi4:∀W:World,(Instr.index 9 (.string s) (.int .i64 (3+(n:Int)+1))).run Zm W=.ok (.int .u8 (q:Nat)) W:=fun W=>by
  rw[run_index_string W 9 s .i64 (3+(n:Int)+1) Tryz.underlying9,dif_pos (by omega)]
  have:(3+(n:Int)+1).toNat=3+n+1:=by omega
  simp only[this,hq]
 have HS':Hid (S=FK ((s.data.toList.drop 1).take (n+2))):=by show _=_;rw[hS,HS.out]
 clear hS hsz HS hp hq
 by_cases hs:S=j
 ·rw[DO (by omega) (Al4 G0.out G2.out (by omega) (by omega) (by rw[G3.out,G4.out,<-HJ.out,<-HS'.out];exact hs))]
  have ht:((S:Int) != (j:Int))=false:=by simp;omega
  have HH:Hid (S=j):=hs
  clear hs
  go_enter Tryz.func111,Tryz.ntmps111
  go_wp2
  go_quiet ((go_at_call 173;exact hsum _))
  go_wp2
  go_ret2
  refine⟨?_,FC⟩
  show _=Ending.returned (.tuple #[.int .i64 2,.int .i64 ((n:Int)+5)])
  rw[show(n:Int)+5=3+n+2 by omega]
  rfl
 ·rw[DO (by omega) (AAu G0.out G2.out (by omega) (by omega) (by rw[G3.out,G4.out,<-HJ.out,<-HS'.out];exact hs))]
  have ht:((S:Int) != (j:Int))=true:=by simp;omega
  go_enter Tryz.func111,Tryz.ntmps111
  go_wp2
  go_quiet ((go_at_call 173;exact hsum _))
  go_wp2
  go_ret2
  exact⟨rfl,FC⟩
end
section
open Go.RowKit
def cellsOf(l:List (UInt8×List UInt8)):List Value:=l.flatMap fun x=>[.int .i64 (x.1.toNat:Nat),.string ⟨x.2.toArray⟩]
theorem HV(l:List (UInt8×List UInt8)):(cellsOf l).length=l.length*2:=by
 induction l with
 |nil=>rfl
 |cons x l ih=>simp only[cellsOf,List.flatMap_cons,Zp,Zag,List.length_nil]at ih ⊢;omega
theorem H0(l m:List (UInt8×List UInt8)):cellsOf (l++m)=cellsOf l++cellsOf m:=by simp[cellsOf]
theorem Jx:∀(l:List (UInt8×List UInt8)) (i:Nat) (h:i<l.length),(cellsOf l)[i*2]? =some (.int .i64 (l[i].1.toNat:Nat))/\(cellsOf l)[i*2+1]? =some (.string ⟨l[i].2.toArray⟩)
 |x::l,0,_=>⟨rfl,rfl⟩
 |x::l,i+1,h=>by
  have:=Jx l i (by simpa using h)
  have e:cellsOf (x::l)=[.int .i64 (x.1.toNat:Nat),.string ⟨x.2.toArray⟩]++cellsOf l:=rfl
  rw[e,show(i+1)*2=i*2+2 by omega]
  exact this
def Ev(B:Nat)(w:World)(v:Value)(l:List (UInt8×List UInt8)):Prop:=w.ownsRow B 99 2 v l.length (cellsOf l)
theorem Ev.below{B:Nat}{w w':World}{v:Value}{l:List (UInt8×List UInt8)}(h:Ev B w v l)(hb:Below w.heap.size w w'):Ev B w' v l:=by
 refine⟨h.1,?_⟩
 rcases h.2 with hn |⟨g,cap,cur,rfl,hg,hgg,rest⟩
 ·exact .inl hn
 ·exact .inr ⟨g,cap,cur,rfl,hg,by rw[hb.block g (Array.getElem?_eq_some_iff.1 hgg).1];exact hgg,rest⟩
theorem Om:(Zm.info? 99).map (fun i=>(i.zero,i.size,i.bytes))=some (some (.agg #[.int .i64 0,.string ⟨#[]⟩]),2,24):=by kernel_rfl
theorem Ko(w:World)(x y:Value)(t:TypeId):∀j u,[x,y][j]? =some u->(w.alloc (.cells #[x,y] t)).cell? ((⟨w.heap.size,0,none⟩:Addr).add j)=some u:=by
 intro j u hj
 match j,hj with
 |0,hj=>simp at hj;subst hj;simp[Addr.add]
 |1,hj=>simp at hj;subst hj;simp[Addr.add]
 |(j+2),hj=>simp at hj
theorem SP(U:World)(g:Nat)(x y:Value)(t:TypeId)(hg:g=U.heap.size):∀j u,[x,y][j]? =some u->(U.alloc (.cells #[x,y] t)).cell? ((⟨g,0,none⟩:Addr).add j)=some u:=by
 subst hg
 exact Ko U x y t
def ADn:Value->Nat
 | .string t=>t.size
 |_=>0
theorem Au2{s:ByteArray}{l:List UInt8}(h:s.data.toList=l):s=⟨l.toArray⟩:=ByteArray.ext (Array.toList_inj.1 (by rw[h]))
def Aas(L:List UInt8)(w:World)(e:Ending)(w':World):Prop:=
 ∃(v:Value) (r:ByteArray),e=.returned (.tuple #[v,.string r,.int .i64 ((scanL L).2.2:Nat)])/\r.data.toList=(scanL L).2.1/\Ev w.heap.size w' v (scanL L).1/\Below w.heap.size w w'
def C4(L:List UInt8)(acc:List (UInt8×List UInt8))(t:List UInt8)(o:Nat):Prop:=
 scanL L=(acc++(scanL t).1,(scanL t).2.1,o+(scanL t).2.2)/\acc.length+t.length+o<=L.length
theorem C4.start(L:List UInt8):C4 L [] L 0:=⟨by simp,by simp⟩
theorem C4.skip{L t:List UInt8}{acc:List (UInt8×List UInt8)}{o:Nat}(h:C4 L acc t o)(hl:look t=some 0):C4 L acc (t.drop 1) (o+1):=by
 have l:=(Da hl).1
 refine⟨by rw[h.1,XN hl];simp;omega,?_⟩
 have:=h.2
 rw[Zu]
 omega
theorem C4.frame{L t:List UInt8}{acc:List (UInt8×List UInt8)}{o n:Nat}(h:C4 L acc t o)(hl:look t=some (n+1)):C4 L (acc++[(t.getD 1 0,(t.drop 3).take n)]) (t.drop (n+5)) o:=by
 have l:=((Da hl).2 n rfl).1
 refine⟨by rw[h.1,Vq hl];simp,?_⟩
 have:=h.2
 rw[Zu,Zp]
 simp
 omega
theorem C4.stop{L t:List UInt8}{acc:List (UInt8×List UInt8)}{o:Nat}(h:C4 L acc t o)(hl:look t=none):scanL L=(acc,t,o):=by
 rw[h.1,XM hl]
 simp
open Go.Shelf
def cloneRen:Go.Shelf.Ren:=⟨fun |316=>197 |n=>n,fun |9=>9 |3=>3 |4=>4 |37=>167 |0=>0 |127=>294 |5=>5 |n=>n,fun |n=>n⟩
theorem Aez:Go.Proofs.LaysM.n316 Zm cloneRen:={
 mixed:=by kernel_rfl
 f316:=Tryz.func197.trans (congrArg some (by kernel_rfl))
 t0:=Tryz.underlying0
 a0:=Tryz.isAgg0
 z0:=Tryz.sizeOf0
 v0:=Tryz.zeroValue0
 t3:=Tryz.underlying3
 a3:=Tryz.isAgg3
 z3:=Tryz.sizeOf3
 v3:=Tryz.zeroValue3
 t4:=Tryz.underlying4
 a4:=Tryz.isAgg4
 z4:=Tryz.sizeOf4
 v4:=Tryz.zeroValue4
 t9:=Tryz.underlying9
 a9:=Tryz.isAgg9
 z9:=Tryz.sizeOf9
 v9:=Tryz.zeroValue9
 t37:=Tryz.underlying167
 a37:=Tryz.isAgg167
 z37:=Tryz.sizeOf167
 v37:=Tryz.zeroValue167
 t127:=Tryz.underlying294
 a127:=Tryz.isAgg294
 z127:=Tryz.sizeOf294
 v127:=Tryz.zeroValue294
 t5:=Tryz.underlying5
 a5:=Tryz.isAgg5
 z5:=Tryz.sizeOf5
 v5:=Tryz.zeroValue5
 i0:=by kernel_rfl
 i3:=by kernel_rfl
 i4:=by kernel_rfl
 i5:=by kernel_rfl
 i9:=by kernel_rfl
 i37:=by kernel_rfl
 i127:=by kernel_rfl}
theorem Al7(s:ByteArray)(w:World)(h:s.size<=281474976710656):
    Calls Zm 197 #[.string s] w fun e w'=>e=.returned (.string s)/\Below w.heap.size w w':=Any.stringslite_Clone Aez s w h
theorem QO(s:ByteArray)(w:World)(h:s.size<=281474976710656):
    Calls Zm 112 #[.string s] w fun e w'=>e=.returned (.string s)/\Below w.heap.size w w':=by
 go_enter Tryz.func112,Tryz.ntmps112
 go_wp2_with (go_at_call 197;refine(Al7 s _ h).mono ?_;rintro e w' ⟨rfl,hb⟩)
 go_ret
 exact⟨rfl,hb⟩
end
section
open Go.RowKit
theorem XO(s:ByteArray)(k:Nat)(w:World)(h5:5<=s.size)(hm:s.size<=5000)(hk:(s[1]'(by omega)).toNat=k):
    Calls Zm 113 #[.string s] w fun e w'=>e=.returned (.agg #[.int .i64 (k:Nat),.string (s.extract 3 (s.size-2))])/\Below w.heap.size w w':=by
 have hk8:k<256:=by rw[<-hk];exact(s[1]'(by omega)).toNat_lt
 have hsz:(s.extract 3 (s.size-2)).size<=281474976710656:=by rw[Zv];omega
 have hsl:∀W:World,(Instr.slice 9 (.string s) (some (.int .i64 3)) (some (.int .i64 ((s.size:Int)-2))) none).run Zm W=.ok (.string (s.extract 3 (s.size-2))) W:=fun W=>by
  rw[run_slice_string W 9 s .i64 .i64 3 ((s.size:Int)-2) Tryz.underlying9 (by omega) (by omega) (by omega),show((s.size:Int)-2).toNat=s.size-2 by omega]
  rfl
 have hcl:=fun W=>QO (s.extract 3 (s.size-2)) W hsz
 have hw:IntKind.i64.wrap ((s.size:Int)-2)=(s.size:Int)-2:=by rw[IntKind.wrap_i64];omega
 have hv:IntKind.i64.wrap (k:Int)=(k:Int):=by rw[IntKind.wrap_i64];omega
 go_enter Tryz.func113,Tryz.ntmps113
 go_wp2
 go_region_with (go_at_call 112;refine(hcl _).mono ?_;rintro e w1 ⟨rfl,hb1⟩;have k0:w1.cell? ⟨w.heap.size,0,none⟩=some (.int .i64 0):=(hb1.cell (by simp)).trans (by simp);have k1:w1.cell? ⟨w.heap.size,1,none⟩=some (.string ⟨#[]⟩):=(hb1.cell (by simp)).trans (by simp);have f0:w1.frozen? ⟨w.heap.size,0,none⟩=false:=(hb1.frozen (by simp)).trans (by simp);have f1:w1.frozen? ⟨w.heap.size,1,none⟩=false:=(hb1.frozen (by simp)).trans (by simp))
 all_goals
  go_wp2
  have hb0:Below w.heap.size w (w.alloc (.cells #[.int .i64 0,.string ⟨#[]⟩] 99)).drew:=((Below.refl _ w).alloc (Zr _) _).drew
  have hb2:Below w.heap.size w w1:=hb0.trans (hb1.mono (by simp))
  refine bodyPost_ret (v:=.agg #[.int .i64 (k:Nat),.string (s.extract 3 (s.size-2))]) (by simp[results,Tryz.results113,go_sem,k0,k1]) rfl ⟨rfl,?_⟩
  exact(hb2.setCell (Zr _) _).setCell (Zr _) _
theorem Al8(s:ByteArray)(w:World)(hs:s.size<=5000):
    Calls Zm 36 #[.string s] w fun e w'=>Aas s.data.toList w e w':=by
 obtain⟨i0,hi,hz0,hz1,hz2⟩:=info_parts Om
 have hL:s.data.toList.length<=5000:=hs
 generalize hLe:s.data.toList=L at hL ⊢
 have HS:Hid (s.data.toList=L):=hLe
 clear hLe
 go_enter Tryz.func36,Tryz.ntmps36
 go_wp2
 go_loopw [0,5,6] (fun sv v ov wr=>∃(t:ByteArray) (acc:List (UInt8×List UInt8)) (o:Nat),sv=.string t/\ov=.int .i64 o/\C4 L acc t.data.toList o/\Ev w.heap.size wr v acc/\Below w.heap.size w wr)
  (fun sv _ _ _=>ADn sv)
 case atStart=>exact⟨s,[],0,rfl,rfl,by rw[HS.out];exact C4.start L,World.ownsRow_nil _ _ _ _,Below.refl _ _⟩
 case round=>
  obtain⟨t,acc,o,rfl,rfl,hf,hown,hnx⟩:=hrel
  have htl:t.data.toList.length=t.size:=rfl
  have hbd:=hf.2
  have HF:Hid (C4 L acc t.data.toList o):=hf
  have HO:Hid (Ev w.heap.size wr u5 acc):=hown
  clear hf hown
  by_cases h0:t.size=0
  ·obtain rfl:t=⟨#[]⟩:=ByteArray.ext (Zah h0)
   have HE:Hid (scanL L=(acc,[],o)):=HF.out.stop Vn
   go_wp2
   go_ret3
   exact⟨_,⟨#[]⟩,by rw[HE.out];rfl,by rw[HE.out],by rw[HE.out];exact HO.out,hnx⟩
  have hne:t.toList.isEmpty=false:=QN h0
  have hlk:=Al6 t
  cases hlo:look t.data.toList with
  |none=>
   rw[DO (by omega) hlo,show Vr none=(1,0)from rfl]at hlk
   have HE:Hid (scanL L=(acc,t.data.toList,o)):=HF.out.stop hlo
   clear hlo
   go_wp2_with (first |(go_at_call 111;refine(hlk _).mono ?_;rintro e w1 ⟨rfl,hb1⟩)|(go_at_call 112;refine(QO t _ (by omega)).mono ?_;rintro e w2 ⟨rfl,hb2⟩))
   go_ret3
   have hb3:=hb1.trans (hb2.mono hb1.size)
   exact⟨_,t,by rw[HE.out];rfl,by rw[HE.out],by rw[HE.out];exact HO.out.below hb3,hnx.trans (hb3.mono hnx.size)⟩
  | some j=>
   cases j with
   | zero=>
    rw[DO (by omega) hlo,show Vr (some 0)=(0,0)from rfl]at hlk
    have HE:Hid (C4 L acc (t.data.toList.drop 1) (o+1)):=HF.out.skip hlo
    have hsl:∀W:World,(Instr.slice 9 (.string t) (some (.int .i64 1)) none none).run Zm W=.ok (.string (t.extract 1 t.size)) W:=fun W=>by
     rw[run_slice_string_from_if W 9 t .i64 1 Tryz.underlying9,if_pos (by omega)]
     rfl
    obtain⟨u,hu⟩:∃u:ByteArray,u=t.extract 1 t.size:=⟨_,rfl⟩
    rw[<-hu]at hsl
    have hul:Hid (u.data.toList=t.data.toList.drop 1):=by show _=_;rw[hu];exact Lib.extract_to_end t 1
    have hus:u.size=t.size-1:=by rw[hu,Zv];omega
    clear hlo hu
    go_wp2_with (go_at_call 111;refine(hlk _).mono ?_;rintro e w1 ⟨rfl,hb1⟩)
    go_roundw
    case rel=>exact⟨u,acc,o+1,rfl,by go_num,by rw[hul.out];exact HE.out,HO.out.below hb1,hnx.trans (hb1.mono hnx.size)⟩
    case measure=>simp[ADn];omega
   | succ n=>
    rw[DO (by omega) hlo,show Vr (some (n+1))=(2,(n:Int)+5)from rfl]at hlk
    have HE:Hid (C4 L (acc++[(t.data.toList.getD 1 0,(t.data.toList.drop 3).take n)]) (t.data.toList.drop (n+5)) o):=HF.out.frame hlo
    have h5:=((Da hlo).2 n rfl).1
    have hn64:=((Da hlo).2 n rfl).2.2
    have l1:1<t.size:=by omega
    obtain⟨k,hk⟩:∃k:Nat,k=(t.data.toList.getD 1 0).toNat:=⟨_,rfl⟩
    have hsl:∀W:World,(Instr.slice 9 (.string t) none (some (.int .i64 ((n:Int)+5))) none).run Zm W=.ok (.string (t.extract 0 (n+5))) W:=fun W=>by
     rw[run_slice_string_h W 9 t Tryz.underlying9 .i64 ((n:Int)+5) (by omega) (by omega),show((n:Int)+5).toNat=n+5 by omega]
    have hsr:∀W:World,(Instr.slice 9 (.string t) (some (.int .i64 ((n:Int)+5))) none none).run Zm W=.ok (.string (t.extract (n+5) t.size)) W:=fun W=>by
     rw[run_slice_string_from_if W 9 t .i64 ((n:Int)+5) Tryz.underlying9,if_pos (by omega),show((n:Int)+5).toNat=n+5 by omega]
    obtain⟨x,hx⟩:∃u:ByteArray,u=t.extract 0 (n+5):=⟨_,rfl⟩
    obtain⟨y,hy⟩:∃u:ByteArray,u=t.extract (n+5) t.size:=⟨_,rfl⟩
    rw[<-hx]at hsl
    rw[<-hy]at hsr
    have hxs:x.size=n+5:=by rw[hx,Zv];omega
    have hys:y.size=t.size-(n+5):=by rw[hy,Zv];omega
    have hxl:x.data.toList=t.data.toList.take (n+5):=by rw[hx,CU];rfl
    have hyl:Hid (y.data.toList=t.data.toList.drop (n+5)):=by show _=_;rw[hy];exact Lib.extract_to_end t (n+5)
    have x1:1<x.size:=by omega
    have hxk:(x[1]'x1).toNat=k:=by
     rw[<-FB x1,hxl,hk]
     simp[Zn]
    have hun:=fun W=>XO x k W (by omega) (by omega) hxk
    obtain⟨d,hd⟩:∃d:ByteArray,d=x.extract 3 (x.size-2):=⟨_,rfl⟩
    rw[<-hd]at hun
    have hdl:d=⟨((t.data.toList.drop 3).take n).toArray⟩:=Au2 (by
     rw[hd,CU,hxl,List.drop_take,List.take_take]
     congr 1
     omega)
    have HN:Hid (cellsOf (acc++[(t.data.toList.getD 1 0,(t.data.toList.drop 3).take n)])=cellsOf acc++[.int .i64 (k:Nat),.string d]):=by
     show _=_
     rw[H0,hk,hdl]
     rfl
    have HLen:Hid ((acc++[(t.data.toList.getD 1 0,(t.data.toList.drop 3).take n)]).length=acc.length+1):=by show _=_;simp
    clear hlo hx hy hxl hd hdl hk
    generalize acc++[(t.data.toList.getD 1 0,(t.data.toList.drop 3).take n)]=acc' at HE HN HLen
    go_wp2_with (first
     |(go_at_call 111;refine(hlk _).mono ?_;rintro e w1 ⟨rfl,hb1⟩)
     |(go_at_call 113;refine(hun _).mono ?_;rintro e w2 ⟨rfl,hb2⟩)
     |(at_builtin;refine wpList_append_own _ rfl (.tmp 29) (.tmp 34) 104 rfl w.heap.size 99 i0 (.agg #[.int .i64 0,.string ⟨#[]⟩]) 2 24 Tryz.underlying104 hi hz0 hz1 hz2 rfl (by decide) _ _ _ rfl (((HO.out.below hb1).below hb2).alloc _) ⟨w2.heap.size,0,none⟩ 1 1 [.int .i64 (k:Nat),.string d] rfl rfl (Ko _ _ _ _) (by intro u hu;simp at hu;rcases hu with rfl |rfl<;>rfl) (by unfold maxLen;omega) (by omega) (by have:=hb2.size;have:=hb1.size;have:=hnx.size;simp;omega) ?_;intro v3 w3 hown3 hgrow3 hnil3))
    have hF:=(HO.out.below hb1).below hb2
    have hb3:=hb1.trans (hb2.mono hb1.size)
    have hbw:=hnx.trans (hb3.mono hnx.size)
    have hbz:=(hbw.alloc hbw.size (.cells #[.int .i64 (k:Nat),.string d] 99)).grown hgrow3 (by have:=hbw.size;simp;omega) (fun j hj=>(World.ownsRow.lt hF j hj).1)
    clear hnil3 hgrow3
    go_roundw
    case rel=>exact⟨y,acc',o,rfl,rfl,by rw[hyl.out];exact HE.out,by unfold Ev;rw[HLen.out,HN.out];exact hown3,hbz⟩
    case measure=>simp[ADn];omega
def On(sl:Value)(l:List (UInt8×List UInt8)):Prop:=(sl=.slice none 0 0/\l=[])∨∃cap,sl=.slice (some ⟨3,0,none⟩) l.length cap
theorem On.real{sl v:Value}{l:List (UInt8×List UInt8)}{bl:Bl}(h:On sl l)(r:RV bl sl v):∃A cap,v=.slice A l.length cap/\(l≠[]->∃B,bl[3]? =some (some B)/\A=some ⟨B,0,none⟩):=by
 rcases h with⟨rfl,rfl⟩|⟨cap,rfl⟩
 ·exact⟨none,0,r,fun e=>absurd rfl e⟩
 ·obtain⟨B,h1,e⟩:=r
  exact⟨_,cap,e,fun _=>⟨B,h1,rfl⟩⟩
def frL(l:List (UInt8×List UInt8))(i:Int):Fra:=match l[i.toNat]? with
 |some f=>((f.1.toNat:Nat),⟨f.2.toArray⟩)
 |none=>(0,⟨#[]⟩)
def r6(ks:List Nat)(l:List (UInt8×List UInt8))(K:List Value->Xm->Prop)(vt:List Value)(m:Xm):Prop:=
 On (vt.getD 8 undef) l/\33<vt.length/\Jl ks 67 5 K (((vt.set 31 (vt.getD 8 undef)).set 32 (.int .i64 (l.length:Nat))).set 33 (.int .i64 0)) m
def r8(l:List (UInt8×List UInt8))(K:List Value->Xm->Prop)(vt:List Value)(m:Xm):Prop:=
 match vt.getD 33 undef with
 | .int .i64 i=>(0<=i/\i.toNat<l.length)/\On (vt.getD 31 undef) l/\m[3]? =some (cellsOf l)/\m.length=5/\36<vt.length/\K (((vt.set 35 .nilIface).set 36 .nilIface).set 13 (.pointer (some ⟨5,0,none⟩))) (m++[[.int .i64 (frL l i).1,.string (frL l i).2]])
 |_=>False
section
variable {P:Program} {bs:List Nat} {w0:World} {ds:List Deferred} {bl0:Bl} {l:List (UInt8×List UInt8)} {K:List Value->Xm->Prop} {Q:Exit->Act->World->Prop} {bl:Bl} {vt:List Value} {m:Xm} {a:Act} {w:World}
theorem GA{a:Act}{d:Nat}{v:Value}(h:d<a.tmps.size):(a.put (some d) v).eval (.tmp d)=v:=by
 simp[Act.put,Act.eval,h]
theorem QP{a:Act}{d e:Nat}{v:Value}(h:d≠e):(a.put (some d) v).eval (.tmp e)=a.eval (.tmp e):=by
 simp[Act.put,Act.eval,Array.getElem?_setIfInBounds_ne h]
theorem Gb{a:Act}{d:Option Tmp}{v:Value}:(a.put d v).tmps.size=a.tmps.size:=by
 cases d<;>simp[Act.put]
theorem Al9{ks:List Nat}{ops:Array Oper}{tS e:TypeId}{o0 o1 o2:Oper}(hb:bl0.length<=5)(hu:P.underlying tS=some (.slice e))(ho:ops=#[o0,o1,o2])
    (h0:o0.dst=some 31/\o0.op=.move (.tmp 8)/\o0.guard=none) (h1:o1.dst=some 32/\o1.op=.call {callee:=.builtin .len,args:=#[.tmp 31],argTypes:=#[tS]}/\o1.guard=none) (h2:o2.dst=some 33/\o2.op=.move (.const (.int .i64 0))/\o2.guard=none)
    (h:r6 ks l K vt m) (r:Rl bs w0 ds bl0 bl vt m a w) (hK:∀bl vt m a w,K vt m->Rl bs w0 ds bl0 bl vt m a w->Q .normal a w):(Code.region 6 ops false).wp P Q a w:=by
 subst ho
 have hlen:=r.F.len
 have hlt:=h.2.1
 have hv:=r.F.rv 8
 obtain⟨A,cap,hs,_⟩:=h.1.real hv
 have hs':a.eval (.tmp 8)=.slice A l.length cap:=hs
 rw[hs]at hv
 refine wp_region ?_
 refine Gy (o:=o0) (v:=.slice A l.length cap) (w':=w) rfl h0.2.2 (by simp[execOp,h0.2.1,hs']) ?_
 rw[h0.1]
 refine Gy (o:=o1) (v:=.int .i64 (l.length:Nat)) (w':=w) rfl h1.2.2 ?_ ?_
 ·have e1:(a.put (some 31) (.slice A l.length cap)).eval (.tmp 31)=.slice A l.length cap:=GA (by omega)
  generalize a.put (some 31) (.slice A l.length cap)=a1 at e1 ⊢
  have r0:=BQ hu w
  simp[execOp,h1.2.1,resolve,invoke,builtin,e1,Builtin.len_,r0,goInt]
 rw[h1.1]
 refine Gy (o:=o2) (v:=.int .i64 0) (w':=w) rfl h2.2.2 (by simp[execOp,h2.2.1,Act.eval]) ?_
 rw[h2.1]
 have F:FR bl _ (((a.put (some 31) (.slice A l.length cap)).put (some 32) (.int .i64 (l.length:Nat))).put (some 33) (.int .i64 0)).tmps:=((r.F.put hv (some 31)).put (show RV bl (.int .i64 (l.length:Nat)) (.int .i64 (l.length:Nat))from rfl) (some 32)).put (show RV bl (.int .i64 0) (.int .i64 0)from rfl) (some 33)
 have r':Rl bs w0 ds bl0 bl _ m (((a.put (some 31) (.slice A l.length cap)).put (some 32) (.int .i64 (l.length:Nat))).put (some 33) (.int .i64 0)) w:=⟨F,r.R,r.le,r.len,by rw[AL,AL,AL];exact r.defers⟩
 obtain⟨bl',vt',m',k1,k2⟩:=r'.cut hb h.2.2
 exact hK bl' vt' m' _ w k1 k2
theorem Ama{ops:Array Oper}{tS tF:TypeId}{o0 o1 o2 o3:Oper}(hu:P.underlying tS=some (.slice tF))(hz:qrun P (sizeOf tF)=some 2)(ha:qrun P (isAgg tF)=some true){z:Value}(hzv:qrun P (zeroValue tF)=some z)(hzl:z.cells.toList.length=2)(ho:ops=#[o0,o1,o2,o3])
    (h0:o0.dst=some 35/\o0.op=.indexAddr tS (.tmp 31) (.tmp 33)/\o0.guard=none) (h1:o1.dst=some 36/\o1.op=.load tF (.tmp 35)/\o1.guard=none) (h2:o2.dst=some 13/\o2.op=.alloc tF/\o2.guard=none) (h3:o3.dst=none/\o3.op=.store tF (.tmp 13) (.tmp 36)/\o3.guard=none)
    (h:r8 l K vt m) (r:Rl bs w0 ds bl0 bl vt m a w) (hK:∀bl vt m a w,K vt m->Rl bs w0 ds bl0 bl vt m a w->Q .normal a w):(Code.region 8 ops false).wp P Q a w:=by
 subst ho
 have hlen:=r.F.len
 unfold r8 at h
 split at h
 case h_2=>exact h.elim
 rename_i i hi
 obtain⟨⟨hi0,hil⟩,hsl,hm3,hm5,hlt,hk⟩:=h
 have hiv:=r.F.rv 33
 rw[hi]at hiv
 have hi':a.eval (.tmp 33)=.int .i64 i:=hiv
 obtain⟨A,cap,hs,hB⟩:=hsl.real (r.F.rv 31)
 have hs':a.eval (.tmp 31)=.slice A l.length cap:=hs
 obtain⟨B,hb3,rfl⟩:=hB (by rintro rfl;simp at hil)
 obtain⟨row,e3,A3⟩:=r.R.arr 3 B hb3
 rw[hm3]at e3
 cases e3
 have hrow:C3 P tF (cellsOf l) (i.toNat*2)=some (.agg #[.int .i64 (frL l i).1,.string (frL l i).2]):=by
  have hc:=Jx l i.toNat hil
  have hcl:=HV l
  have hf:frL l i=(((l[i.toNat].1.toNat:Nat):Int),(⟨l[i.toNat].2.toArray⟩:ByteArray)):=by unfold frL;rw[Zz hil]
  unfold C3
  rw[ha,hz]
  dsimp only
  rw[if_pos (by omega),hf]
  have hd:((cellsOf l).drop (i.toNat*2)).take 2=[.int .i64 (l[i.toNat].1.toNat:Nat),.string ⟨l[i.toNat].2.toArray⟩]:=by
   have d1:=(Zo.1 hc.1)
   have d2:=(Zo.1 hc.2)
   obtain⟨q1,q2⟩:=d1
   obtain⟨q3,q4⟩:=d2
   rw[List.drop_eq_getElem_cons q1,List.drop_eq_getElem_cons q3,q2,q4]
   rfl
  rw[hd]
 refine wp_region ?_
 refine Gy (o:=o0) (v:=.pointer (some ⟨B,i.toNat*2,none⟩)) (w':=w) rfl h0.2.2 ?_ ?_
 ·have r0:=BQ hu w
  have r1:=AT _ hz w
  have hil':i<(l.length:Int):=by omega
  simp[execOp,h0.2.1,hs',hi',Instr.indexAt,asIntOf,r0,r1,hi0,hil',FH,Sem.run_bind]
 rw[h0.1]
 refine Gy (o:=o1) (v:=.agg #[.int .i64 (frL l i).1,.string (frL l i).2]) (w':=w) rfl h1.2.2 ?_ ?_
 ·have e1:(a.put (some 35) (.pointer (some ⟨B,i.toNat*2,none⟩))).eval (.tmp 35)=.pointer (some ⟨B,i.toNat*2,none⟩):=GA (by omega)
  generalize a.put (some 35) (.pointer (some ⟨B,i.toNat*2,none⟩))=a1 at e1 ⊢
  have r1:=EN hrow A3
  simp[execOp,h1.2.1,e1,Instr.loadAt,Instr.sureAddr,r1]
 rw[h1.1]
 have hw3:(execOp ((a.put (some 35) (.pointer (some ⟨B,i.toNat*2,none⟩))).put (some 36) (.agg #[.int .i64 (frL l i).1,.string (frL l i).2])).eval o2).run P w=.ok (.value (.pointer (some ⟨w.heap.size,0,none⟩))) (w.alloc (.cells z.cells.toList.toArray tF)):=by
  have r:=AT _ hzv w
  simp[execOp,h2.2.1,Instr.alloc,newVar,newRow,newObj,r,Sem.run]
 refine Gy (o:=o2) rfl h2.2.2 hw3 ?_
 rw[h2.1]
 have hbl:bl.length=5:=r.len.trans hm5
 have W:=r.R.wide 1 [[.int .i64 (frL l i).1,.string (frL l i).2]]
 obtain⟨N,hle⟩:=W.new (k:=5) (by rw[Zt (by omega),hbl];rfl) (by rw[Zp,hm5];exact Zai 5) z.cells.toList tF
 have hg5:((bl++Zaa 1 none).set 5 (some w.heap.size))[5]? =some (some w.heap.size):=List.getElem?_set_self (by rw[Zp,hbl];exact Zai 5)
 have hm6:((m++[[Value.int .i64 (frL l i).1,Value.string (frL l i).2]]).set 5 z.cells.toList)[5]? =some z.cells.toList:=List.getElem?_set_self (by rw[Zp,hm5];exact Zai 5)
 obtain⟨row,e5,A5⟩:=N.arr 5 _ hg5
 rw[hm6]at e5
 cases e5
 have hst:EU P tF z.cells.toList 0 (.agg #[.int .i64 (frL l i).1,.string (frL l i).2])=some (setAt z.cells.toList 0 [.int .i64 (frL l i).1,.string (frL l i).2]):=by
  unfold EU
  rw[hz]
  dsimp only
  rw[if_pos (by rw[hzl];rfl)]
  rfl
 obtain⟨r3,_,hl3⟩:=Gn hst A5
 refine Of (o:=o3) (w':=JQ (w.alloc (.cells z.cells.toList.toArray tF)) w.heap.size 0 [.int .i64 (frL l i).1,.string (frL l i).2]) rfl h3.2.2 ?_ ?_
 ·have e1:(((a.put (some 35) (.pointer (some ⟨B,i.toNat*2,none⟩))).put (some 36) (.agg #[.int .i64 (frL l i).1,.string (frL l i).2])).put (some 13) (.pointer (some ⟨w.heap.size,0,none⟩))).eval (.tmp 13)=.pointer (some ⟨w.heap.size,0,none⟩):=GA (by rw[Gb,Gb];omega)
  have e2:(((a.put (some 35) (.pointer (some ⟨B,i.toNat*2,none⟩))).put (some 36) (.agg #[.int .i64 (frL l i).1,.string (frL l i).2])).put (some 13) (.pointer (some ⟨w.heap.size,0,none⟩))).eval (.tmp 36)=.agg #[.int .i64 (frL l i).1,.string (frL l i).2]:=(QP (by decide)).trans (GA (by rw[Gb];omega))
  generalize ((a.put (some 35) (.pointer (some ⟨B,i.toNat*2,none⟩))).put (some 36) (.agg #[.int .i64 (frL l i).1,.string (frL l i).2])).put (some 13) (.pointer (some ⟨w.heap.size,0,none⟩))=a3 at e1 e2 ⊢
  simp[execOp,h3.2.1,e1,e2,Instr.storeAt,Instr.sureAddr,r3]
  rfl
 rw[h3.1]
 have hrow5:setAt z.cells.toList 0 [.int .i64 (frL l i).1,.string (frL l i).2]=[.int .i64 (frL l i).1,.string (frL l i).2]:=by
  match z.cells.toList,hzl with
  |[_,_],_=>rfl
 have R5:=N.store hg5 hm6 0 [.int .i64 (frL l i).1,.string (frL l i).2] hl3
 rw[hrow5]at R5
 have hmm:((m++[[Value.int .i64 (frL l i).1,Value.string (frL l i).2]]).set 5 z.cells.toList).set 5 [Value.int .i64 (frL l i).1,Value.string (frL l i).2]=m++[[Value.int .i64 (frL l i).1,Value.string (frL l i).2]]:=by
  rw[List.set_set,List.set_append_right _ _ (by omega),hm5]
  rfl
 rw[hmm]at R5
 have hL:Le bl ((bl++Zaa 1 none).set 5 (some w.heap.size)):=(Le.wide bl 1).trans hle
 exact hK _ _ _ _ _ hk ⟨(((r.F.mono hL).put (v:=.nilIface) (v':=.pointer (some ⟨B,i.toNat*2,none⟩)) rfl (some 35)).put (v:=.nilIface) (v':=.agg #[.int .i64 (frL l i).1,.string (frL l i).2]) rfl (some 36)).put (RV.at hg5 0) (some 13),R5,r.le.trans hL,by rw[List.length_set,Zp,Zp,hbl,hm5];rfl,by rw[AL,AL,AL,AL];exact r.defers⟩
end
theorem M5{bl:Bl}{x:Option Nat}{i B:Nat}(h:(bl++[x])[i]? =some (some B)):bl[i]? =some (some B)∨(i=bl.length/\x=some B):=by
 by_cases e:i<bl.length
 ·rw[Zw e]at h
  exact .inl h
 ·rw[Zt (by omega)]at h
  have hi:=(Zo.1 h).1
  simp only[Zag,List.length_nil]at hi
  have e2:i=bl.length:=by omega
  subst e2
  rw[Nat.sub_self]at h
  exact .inr ⟨rfl,Option.some.inj h⟩
theorem RW.add{bs:List Nat}{w0:World}{bl:Bl}{m:Xm}{w:World}(h:RW bs w0 bl m w)(hl:bl.length=m.length){g:Nat}{row:List Value}(A:AN g row w)(hg:w0.heap.size<=g)(hn:∀k:Nat,bl[k]? ≠some (some g)):RW bs w0 (bl++[some g]) (m++[row]) w:=by
 refine⟨fun i B hi=>?_,fun i j B hi hj=>?_,fun i B hi=>?_,h.os,h.tape,h.output,h.size,h.block,h.gw⟩
 ·rcases M5 hi with h1 |⟨rfl,e⟩
  ·obtain⟨l,h2,A2⟩:=h.arr i B h1
   exact⟨l,by rw[Zw (Zo.1 h2).1];exact h2,A2⟩
  ·cases e
   exact⟨row,by rw[hl,Zt (Zr _),Nat.sub_self];rfl,A⟩
 ·rcases M5 hi with h1 |⟨rfl,e⟩<;>rcases M5 hj with h2 |⟨rfl,e2⟩
  ·exact h.inj i j B h1 h2
  ·cases e2;exact absurd h1 (hn i)
  ·cases e;exact absurd h2 (hn j)
  ·rfl
 ·rcases M5 hi with h1 |⟨rfl,e⟩
  ·exact(h.own i B h1).imp id (Or.imp id fun e=>by rw[Zw (Zo.1 e).1];exact e)
  ·cases e;exact .inr (.inl hg)
theorem Le.last(bl:Bl)(x:Option Nat):Le bl (bl++[x]):=fun k B hk=>by
 rw[Zw (Zo.1 hk).1]
 exact hk
theorem QQ{w:World}{g:Nat}{cur:Array Value}{e:TypeId}{xs:List Value}{n:Nat}(h:w.heap[g]? =some (.cells cur e (0,0)))(hx:cur.toList.take n=xs):AN g xs w:=by
 refine⟨fun i hi=>?_,fun i hi=>?_,(Array.getElem?_eq_some_iff.1 h).1⟩
 ·have h1:xs[i]? =cur[i]? :=by
   subst hx
   rw[Zx]at hi
   rw[Zq (by omega),Array.getElem?_toList]
  rw[Zz hi]at h1
  simp[World.cell?,h,<-h1]
 ·simp[World.frozen?,h]
theorem RW.frames{bs:List Nat}{w0:World}{bl:Bl}{m:Xm}{w w':World}(h:RW bs w0 bl m w)(hl:bl.length=3)(hm:m.length=3)(hb:Below w.heap.size w w'){v:Value}{l:List (UInt8×List UInt8)}(hf:Ev w.heap.size w' v l):
    ∃x sl,On sl l/\RV (bl++[x]) sl v/\RW bs w0 (bl++[x]) (m++[cellsOf l]) w':=by
 have h':=h.pure hb
 rcases hf.2 with⟨rfl,h0⟩|⟨g,cap,cur,rfl,hg,hgg,_,_,_,hx⟩
 ·exact⟨none,.slice none 0 0,.inl ⟨rfl,Zad.1 h0⟩,rfl,h'.wide 1 _⟩
 ·have h3:(bl++[some g])[3]? =some (some g):=by rw[Zt (by omega),hl];rfl
  refine⟨some g,.slice (some ⟨3,0,none⟩) l.length cap,.inr ⟨cap,rfl⟩,⟨g,h3,rfl⟩,h'.add (hl.trans hm.symm) (QQ hgg hx) (Nat.le_trans h.size hg) (fun k hk=>?_)⟩
  obtain⟨_,_,A⟩:=h.arr k g hk
  have:=A.lies
  omega
def restOf(L:List UInt8):ByteArray:=⟨(scanL L).2.1.toArray⟩
def r1(K:List Value->Xm->Prop)(vt:List Value)(m:Xm):Prop:=
 match vt.getD 3 undef,vt.getD 2 undef,m.headD []with
 | .pointer (some ⟨0,0,none⟩),.string s1,_::_::.string s0::_=>
  s0.size+s1.size<=5000/\m.length=3/\vt.length=67/\∀sl,On sl (scanL (s0++s1).data.toList).1->
   K ((((((((((((vt.set 15 .nilIface).set 16 .nilIface).set 17 .nilIface).set 18 .nilIface).set 19 .nilIface).set 14 .nilIface).set 20 sl).set 21 (.string (restOf (s0++s1).data.toList))).set 22 (.int .i64 ((scanL (s0++s1).data.toList).2.2:Nat))).set 8 sl).set 9 (.string (restOf (s0++s1).data.toList))).set 10 (.int .i64 ((scanL (s0++s1).data.toList).2.2:Nat))) (m++[cellsOf (scanL (s0++s1).data.toList).1])
 |_,_,_=>False
theorem Oo{P:Program}{ops:Array Oper}{Q:Exit->Act->World->Prop}{i:Nat}{rest:List Nat}{a:Act}{w:World}{o:Oper}{f:Nat}{args:Array Value}{R:Ending->World->Prop}(ho:ops[i]? =some o)(hg:o.guard=none)(hr:(execOp a.eval o).run P w=.ok (.enter f args) w)
    (hc:Calls P f args w R) (h:∀e w',R e w'->∃v,e=.returned v/\wpOps P ops Q rest (a.put o.dst v) w'):wpOps P ops Q (i::rest) a w:=by
 rw[wpOps_cons]
 unfold wpOp
 rw[ho]
 dsimp only
 rw[show Region.wanted o (yielded ops a.tmps)=true by unfold Region.wanted;rw[hg],if_pos rfl]
 refine .inl ?_
 unfold Oper.wp
 rw[hr]
 refine Calls.mono hc ?_
 intro e w' he
 obtain⟨v,rfl,hv⟩:=h e w' he
 exact hv
theorem Amb{P:Program}{ops:Array Oper}{Q:Exit->Act->World->Prop}{i:Nat}{rest:List Nat}{a:Act}{w w':World}{o:Oper}{v:Value}(ho:ops[i]? =some o)(hg:Region.wanted o (yielded ops a.tmps)=true)(hr:(execOp a.eval o).run P w=.ok (.value v) w')
    (h:wpOps P ops Q rest (a.put o.dst v) w'):wpOps P ops Q (i::rest) a w:=by
 rw[wpOps_cons]
 unfold wpOp
 rw[ho]
 dsimp only
 rw[hg,if_pos rfl]
 refine .inl ?_
 unfold Oper.wp
 rw[hr]
 exact h
theorem Am{o:Oper}{y:Nat->Option Bool}(h:o.guard=none):Region.wanted o y=true:=by unfold Region.wanted;rw[h]
theorem As{P:Program}{ops:Array Oper}{Q:Exit->Act->World->Prop}{i:Nat}{rest:List Nat}{a:Act}{w w':World}{o:Oper}{v v':Value}{d N:Nat}{bl:Bl}{vt:List Value}{ds:List Deferred}(ho:ops[i]? =some o)(hd:o.dst=some d)(hg:Region.wanted o (yielded ops a.tmps)=true)(hr:(execOp a.eval o).run P w=.ok (.value v') w')(F:FR bl vt a.tmps)(D:a.defers=ds)(hl:a.tmps.size=N)(hN:d<N)(hv:RV bl v v')
    (h:∀a':Act,FR bl (vt.set d v) a'.tmps->a'.defers=ds->a'.tmps.size=N->a'.eval (.tmp d)=v'->(∀e,d≠e->a'.eval (.tmp e)=a.eval (.tmp e))->wpOps P ops Q rest a' w'):wpOps P ops Q (i::rest) a w:=by
 refine Amb ho hg hr ?_
 rw[hd]
 exact h _ (F.put hv (some d)) ((AL a (some d) v').trans D) (Gb.trans hl) (GA (by omega)) (fun e he=>QP he)
theorem Amc{bs:List Nat}{w0:World}{ds:List Deferred}{bl0:Bl}{K:List Value->Xm->Prop}{Q:Exit->Act->World->Prop}{bl:Bl}{vt:List Value}{m:Xm}{a:Act}{w:World}{ops:Array Oper}{tC tT:TypeId}{fn:Nat}{o0 o1 o2 o3 o4 o5 o6 o7 o8 o9 o10 o11:Oper}(hfn:fn=36)
    (hfl:Hi Zm tC 2=some 2) (hag:qrun Zm (isAgg tT)=some false) (ho:ops=#[o0,o1,o2,o3,o4,o5,o6,o7,o8,o9,o10,o11])
    (h0:o0.dst=some 15/\o0.op=.fieldAddr tC (.tmp 3) 2/\o0.guard=none) (h1:o1.dst=some 16/\o1.op=.load tT (.tmp 15)/\o1.guard=none) (h2:o2.dst=some 17/\o2.op=.move (.tmp 2)/\o2.guard=none) (h3:o3.dst=some 18/\o3.op=.binOp .add tT (.tmp 16) (.tmp 17) tT/\o3.guard=none) (h4:o4.dst=some 19/\o4.op=.call {callee:=.value (.func fn),args:=#[.tmp 18],argTypes:=#[tT]}/\o4.guard=none) (h5:o5.dst=some 14/\o5.op=.move (.tmp 19)/\o5.guard=none) (h6:o6.dst=some 20/\o6.op=.extract (.tmp 14) 0/\o6.guard=none) (h7:o7.dst=some 21/\o7.op=.extract (.tmp 14) 1/\o7.guard=none) (h8:o8.dst=some 22/\o8.op=.extract (.tmp 14) 2/\o8.guard=none) (h9:o9.dst=some 8/\o9.op=.assign (.tmp 20)/\o9.guard=none) (h10:o10.dst=some 9/\o10.op=.assign (.tmp 21)/\o10.guard=none) (h11:o11.dst=some 10/\o11.op=.assign (.tmp 22)/\o11.guard=none)
    (h:r1 K vt m) (r:Rl bs w0 ds bl0 bl vt m a w) (hK:∀bl vt m a w,K vt m->Rl bs w0 ds bl0 bl vt m a w->Q .normal a w):(Code.region 1 ops false).wp Zm Q a w:=by
 subst ho hfn
 have hlen:=r.F.len
 unfold r1 at h
 split at h
 case h_2=>exact h.elim
 rename_i s1 x0 x1 s0 xs hp h2v hrow
 obtain⟨hsz,hm3,hlt,hk⟩:=h
 rw[hlt]at hlen
 have hbl:bl.length=3:=r.len.trans hm3
 have hp':=r.F.rv 3
 rw[hp]at hp'
 obtain⟨B,hB,hpe⟩:=hp'
 have hpe:a.eval (.tmp 3)=.pointer (some ⟨B,0,none⟩):=hpe
 have h2':=r.F.rv 2
 rw[h2v]at h2'
 have h2':a.eval (.tmp 2)=.string s1:=h2'
 obtain⟨row,e0,A0⟩:=r.R.arr 0 B hB
 have erow:row=x0::x1::.string s0::xs:=by
  match m,e0,hrow with
  |_::_,e0,hrow=>cases e0;exact hrow
 subst erow
 have hld:C3 Zm tT (x0::x1::.string s0::xs) 2=some (.string s0):=by unfold C3;rw[hag];rfl
 have rld:=EN hld A0
 have rfl1:=I9 hfl B 0 w
 have F:=r.F
 have D:=r.defers
 refine wp_region ?_
 have E2:=h2'
 refine As (v:=.nilIface) (v':=(.pointer (some ⟨B,2,none⟩))) (w':=w) rfl h0.1 (Am h0.2.2) (by simp[execOp,h0.2.1,hpe,rfl1]) F D hlen (by decide) (rfl) fun a F D hlen E15 X=>?_
 have E2:=(X 2 (by decide)).trans E2
 refine As (v:=.nilIface) (v':=(.string s0)) (w':=w) rfl h1.1 (Am h1.2.2) (by simp[execOp,h1.2.1,E15,Instr.loadAt,Instr.sureAddr,rld]) F D hlen (by decide) (rfl) fun a F D hlen E16 X=>?_
 have E2:=(X 2 (by decide)).trans E2
 refine As (v:=.nilIface) (v':=(.string s1)) (w':=w) rfl h2.1 (Am h2.2.2) (by simp[execOp,h2.2.1,E2]) F D hlen (by decide) (rfl) fun a F D hlen E17 X=>?_
 have E16:=(X 16 (by decide)).trans E16
 refine As (v:=.nilIface) (v':=(.string (s0++s1))) (w':=w) rfl h3.1 (Am h3.2.2) (by simp[execOp,h3.2.1,E16,E17,eqGuard,binOp,Op.stringOp];omega) F D hlen (by decide) (rfl) fun a F D hlen E18 X=>?_
 have hss:(s0++s1).size<=5000:=by rw[Zy];exact hsz
 refine Oo (o:=o4) (args:=#[.string (s0++s1)]) rfl h4.2.2 ?_ (Al8 (s0++s1) w hss) ?_
 ·have:=Ae Tryz.func36 (by kernel_rfl) (by kernel_rfl) #[.string (s0++s1)] w
  have hf:a.eval (.func 36)=.func (.func 36) #[] #[]:=rfl
  simp[execOp,h4.2.1,resolve,hf,E18,Deferred.ofValue,invoke,this]
 rintro e w' ⟨v,rr,rfl,hrr,hfr,hbel⟩
 refine⟨_,rfl,?_⟩
 obtain⟨x,sl,hsl,hrv,R'⟩:=r.R.frames hbl hm3 hbel hfr
 have hrr':rr=restOf (s0++s1).data.toList:=by
  unfold restOf
  rw[<-hrr]
 subst hrr'
 have hL:=Le.last bl x
 have F:=F.mono hL
 have hk:=hk sl hsl
 rw[h4.1]
 have F:=F.put (v:=.nilIface) (v':=(.tuple #[v,.string (restOf (s0++s1).data.toList),.int .i64 ((scanL (s0++s1).data.toList).2.2:Nat)])) rfl (some 19)
 have D:=(AL a (some 19) (.tuple #[v,.string (restOf (s0++s1).data.toList),.int .i64 ((scanL (s0++s1).data.toList).2.2:Nat)])).trans D
 have E19:(a.put (some 19) (.tuple #[v,.string (restOf (s0++s1).data.toList),.int .i64 ((scanL (s0++s1).data.toList).2.2:Nat)])).eval (.tmp 19)=(.tuple #[v,.string (restOf (s0++s1).data.toList),.int .i64 ((scanL (s0++s1).data.toList).2.2:Nat)]):=GA (by rw[hlen];decide)
 have hlen:=(Gb (a:=a) (d:=some 19) (v:=(.tuple #[v,.string (restOf (s0++s1).data.toList),.int .i64 ((scanL (s0++s1).data.toList).2.2:Nat)]))).trans hlen
 generalize a.put (some 19) (.tuple #[v,.string (restOf (s0++s1).data.toList),.int .i64 ((scanL (s0++s1).data.toList).2.2:Nat)])=a at F D E19 hlen ⊢
 refine As (v:=.nilIface) (v':=(.tuple #[v,.string (restOf (s0++s1).data.toList),.int .i64 ((scanL (s0++s1).data.toList).2.2:Nat)])) (w':=w') rfl h5.1 (Am h5.2.2) (by simp[execOp,h5.2.1,E19]) F D hlen (by decide) (rfl) fun a F D hlen E14 X=>?_
 refine As (v:=sl) (v':=v) (w':=w') rfl h6.1 (Am h6.2.2) (by simp[execOp,h6.2.1,E14,Instr.extract]) F D hlen (by decide) (hrv) fun a F D hlen E20 X=>?_
 have E14:=(X 14 (by decide)).trans E14
 refine As (v:=(.string (restOf (s0++s1).data.toList))) (v':=(.string (restOf (s0++s1).data.toList))) (w':=w') rfl h7.1 (Am h7.2.2) (by simp[execOp,h7.2.1,E14,Instr.extract]) F D hlen (by decide) (rfl) fun a F D hlen E21 X=>?_
 have E14:=(X 14 (by decide)).trans E14
 have E20:=(X 20 (by decide)).trans E20
 refine As (v:=(.int .i64 ((scanL (s0++s1).data.toList).2.2:Nat))) (v':=(.int .i64 ((scanL (s0++s1).data.toList).2.2:Nat))) (w':=w') rfl h8.1 (Am h8.2.2) (by simp[execOp,h8.2.1,E14,Instr.extract]) F D hlen (by decide) (rfl) fun a F D hlen E22 X=>?_
 have E20:=(X 20 (by decide)).trans E20
 have E21:=(X 21 (by decide)).trans E21
 refine As (v:=sl) (v':=v) (w':=w') rfl h9.1 (Am h9.2.2) (by simp[execOp,h9.2.1,E20]) F D hlen (by decide) (hrv) fun a F D hlen E8 X=>?_
 have E21:=(X 21 (by decide)).trans E21
 have E22:=(X 22 (by decide)).trans E22
 refine As (v:=(.string (restOf (s0++s1).data.toList))) (v':=(.string (restOf (s0++s1).data.toList))) (w':=w') rfl h10.1 (Am h10.2.2) (by simp[execOp,h10.2.1,E21]) F D hlen (by decide) (rfl) fun a F D hlen E9 X=>?_
 have E22:=(X 22 (by decide)).trans E22
 refine As (v:=(.int .i64 ((scanL (s0++s1).data.toList).2.2:Nat))) (v':=(.int .i64 ((scanL (s0++s1).data.toList).2.2:Nat))) (w':=w') rfl h11.1 (Am h11.2.2) (by simp[execOp,h11.2.1,E22]) F D hlen (by decide) (rfl) fun a F D hlen E10 X=>?_
 exact hK _ _ _ _ _ hk ⟨F,R',r.le.trans hL,by rw[Zp,Zp,hbl,hm3];rfl,D⟩
def Bd:List Bool->Code->Code
 |[],c=>c
 |false::p,.seq x _=>Bd p x
 |true::p,.seq _ y=>Bd p y
 |false::p,.block _ c=>Bd p c
 |false::p,.loop c=>Bd p c
 |_,c=>c
def An(P:Program)(f:Nat):Code:=match P.funcs[f]? with
 |some fn=>(match fn.body with
  |some c=>c
  |none=>.skip)
 |none=>.skip
def Ba(P:Program)(f:Nat):Func:=(P.funcs[f]?).getD default
def regs:Code->List (Nat×Array Oper×Bool)
 | .region id ops draw=>[(id,ops,draw)]
 | .seq x y=>regs x++regs y
 | .cond _ x y=>regs x++regs y
 | .block _ c=>regs c
 | .loop c=>regs c
 |_=>[]
def Cg(P:Program)(f id:Nat):Array Oper:=match (regs (An P f)).lookup id with
 |some x=>x.1
 |none=>#[]
def opOf(P:Program)(f id i:Nat):Oper:=(Cg P f id).toList.getD i default
section
variable {P:Program} {bs:List Nat} {w0:World} {ds:List Deferred} {bl0:Bl} {ov:Ov}
def AAv(P:Program)(ov:Ov)(bs:List Nat)(w0:World)(ds:List Deferred)(bl0:Bl)(r:Nat×Array Oper×Bool):Prop:=
 ∀R,ov r.1=some R->∀(K:List Value->Xm->Prop) (Q:Exit->Act->World->Prop) (bl:Bl) (vt:List Value) (m:Xm) (a:Act) (w:World),R r.2.1 r.2.2 K vt m->Rl bs w0 ds bl0 bl vt m a w->(∀bl vt m a w,K vt m->Rl bs w0 ds bl0 bl vt m a w->Q .normal a w)->(Code.region r.1 r.2.1 r.2.2).wp P Q a w
theorem Au3:∀c:Code,(∀r∈regs c,AAv P ov bs w0 ds bl0 r)->D5 P ov bs w0 ds bl0 c:=by
 intro c
 induction c with
 |region id ops draw=>intro h;exact h (id,ops,draw) List.mem_cons_self
 |seq x y ihx ihy=>intro h;exact⟨ihx fun r hr=>h r (List.mem_append_left _ hr),ihy fun r hr=>h r (List.mem_append_right _ hr)⟩
 |cond c x y ihx ihy=>intro h;exact⟨ihx fun r hr=>h r (List.mem_append_left _ hr),ihy fun r hr=>h r (List.mem_append_right _ hr)⟩
 |block id c ih=>intro h;exact ih h
 |loop c ih=>intro h;exact ih h
 |skip=>intro _;exact trivial
 |exit id=>intro _;exact trivial
 |label l=>intro _;exact trivial
 |ret=>intro _;exact trivial
 |goto l=>intro _;exact trivial
 |scope c _=>intro _;exact trivial
 |refuse s=>intro _;exact trivial
 |rangeFunc f ps x y _ _=>intro _;exact trivial
theorem CV{c:Code}{ns:List (Nat×Array Oper×Bool)}(hn:(regs c).filter (fun r=>(ov r.1).isSome)=ns)(h:∀r∈ns,AAv P ov bs w0 ds bl0 r):D5 P ov bs w0 ds bl0 c:=by
 refine Au3 c fun r hr=>?_
 intro R hR
 exact h r (by rw[<-hn];exact List.mem_filter.2 ⟨hr,by rw[hR];rfl⟩) R hR
end
section
variable {P:Program} {tbl:List (Ct P)} {dirty:Nat->List Nat} {n:Nat} {ov:Ov}
theorem Gc(hm:P.follows .mixedOrders=true){f:Nat}(hf:P.funcs[f]? =some (Ba P f))(hb:(Ba P f).body=some (An P f)){A R:Type}{d:Dl A}{k:Dc R}{x:A}{y:R}
    (ho:∀w,D5 P ov [] w [] [] (An P f)) (h:Ao P tbl dirty n ov (An P f) (Bz P (Ba P f) (fun v _=>v=k.enc y)) (d.enc x++Zaa ((Ba P f).ntmps-(d.enc x).length) undef) []) (w:World) (hg:GW w):
    Calls P f (d.enc x).toArray w fun e w'=>e=.returned (k.enc y)/\Below w.heap.size w w':=by
 have R:RW [] w [] [] w:=⟨fun i B hi=>(by cases hi),fun i j B hi=>(by cases hi),fun i B hi=>(by cases hi),rfl,rfl,rfl,Zr _,fun _ _ _=>rfl,hg,fun b hb=>by cases hb⟩
 refine Calls.mono (F8 hm hf hb (vargs:=d.enc x) R rfl (by simp) (fun i=>?_) (ho w) h) ?_
 ·by_cases hi:i<(d.enc x).length
  ·have:=d.np x _ (List.getElem_mem hi)
   simp only[Zn,Zs]
   simp[hi]
   exact .same this
  ·simp only[Zn,Zs]
   simp[hi]
   rfl
 ·rintro e w' ⟨v,bl',m2,rfl,rfl,R',_⟩
  exact⟨rfl,R'.os,R'.tape,R'.output,R'.size,fun i hi=>R'.block i hi (by simp)⟩
end
abbrev AJp:Dl Hea:=IS 5 (dT 5) (IS 5 (dT 5) (IS 5 (dT 5) (Aa cI)))
def IE:Hea:=((0,0,0,0,0,()),(0,0,0,0,0,()),(0,0,0,0,0,()),0)
def zeroCra:Cra:=(false,0,noBytes,(0,0,0,0,0,0,()),false,(0,0,0,0,0,0,0,()),(false,(0,0,0,0,0,0,0,())),Ml,(0,0,0,()))
def Mn(c:Cra)(l:ByteArray):Cra:=(c.1,c.2.1,l,c.2.2.2)
def Dv(F:Fs)(t:Int)(s:Cra×Hea)(f:Fra):Cra×Hea:=
 if f.1=1 then senW F s.1 s.2 f t else if f.1=2 then senW F s.1 s.2 f t else if f.1=3 then senW F s.1 s.2 f t else if f.1=16 then ordC s.1 s.2 (F.oread f)else(rejC s.1,s.2)
def GX(f:UInt8×List UInt8):Fra:=((f.1.toNat:Nat),⟨f.2.toArray⟩)
def XP(c:Cra)(L:List UInt8):Cra:=if ((scanL L).2.2:Nat)>(0:Int)then rejC (Mn c (restOf L))else Mn c (restOf L)
def takeW(F:Fs)(c:Cra)(t:Int)(b:ByteArray):Cra×Hea:=
 ((scanL (c.2.2.1++b).data.toList).1.map GX).foldl (Dv F t) (XP c (c.2.2.1++b).data.toList,IE)
def tks:List Nat:=[1,3,6,7,11,32,33,31]
def tkF(t n i:Int)(sl:Value)(d:Nat->Value):List Value:=Kl [(1,.int .i64 t),(3,ptr 0),(6,ptr 1),(7,ptr 2),(11,ptr 4),(32,.int .i64 n),(33,.int .i64 i),(31,sl)] d 67
def tkE(t n i:Int)(sl:Value)(d:Nat->Value):List Value:=vset ((tkF t n i sl d).set 34 (.bool (decide (i<n)))) (.tmp 34) false
def tkM(c:Cra)(h:Hea)(l:List (UInt8×List UInt8)):Xm:=[C5.enc c,C5.enc zeroCra,AJp.enc IE,cellsOf l,AJp.enc h]
def tkT(F:Fs)(h:FsOk F):List (Ct Zm):=[Jm,SK F h,SL F h]
def tkO(F:Fs)(h:FsOk F)(l:List (UInt8×List UInt8)):Ov:=fun id=>match id with
 |1=>some fun _ _=>r1
 |6=>some fun _ _=>r6 tks l
 |8=>some fun _ _=>r8 l
 |17=>some (Du Zm (tkT F h) (fun _=>[]) 17 tks 67 5)
 |_=>none
def tkB(P:Program):Code:=Bd [true,true,true,true,true,false,true] (An P 10)
def tkL(P:Program):Code:=Bd [false,false] (tkB P)
def tkZ(P:Program):Code:=Bd [true,true,true,true,true,true] (An P 10)
section
variable (F:Fs) (h:FsOk F)
def nx(t nn i:Int)(sl:Value)(l:List (UInt8×List UInt8))(Q:VQ)(s:Cra×Hea):Prop:=
 67=67/\(Ch 5 sl&&true)=true/\∀d,Q .normal (tkF t nn (IntKind.i64.wrap (i+1)) sl d) (tkM s.1 s.2 l)
theorem Amd(n:Nat)(t nn i:Int)(sl:Value)(d:Nat->Value)(l:List (UInt8×List UInt8))(c:Cra)(x:Hea)(Q:VQ):
    Ao Zm (tkT F h) (fun _=>[]) n (tkO F h l) (tkL Zm) Q (tkF t nn i sl d) (tkM c x l)=
      AE (decide (i<nn)) ((0<=i/\i.toNat<l.length)/\On sl l/\some (cellsOf l)=some (cellsOf l)/\5=5/\36<67/\
        AE (decide ((frL l i).1=1)) (nx t nn i sl l Q (senW F c x (frL l i) t)) (AE (decide ((frL l i).1=2)) (nx t nn i sl l Q (senW F c x (frL l i) t)) (AE (decide ((frL l i).1=3)) (nx t nn i sl l Q (senW F c x (frL l i) t))
          (AE (decide ((frL l i).1=16)) (nx t nn i sl l Q (ordC c x (F.oread (frL l i)))) (nx t nn i sl l Q (rejC c,x))))))
      (Q (.exit 0) (tkE t nn i sl d) (tkM c x l)):=by kernel_rfl
theorem Ame(t nn i:Int)(sl:Value)(l:List (UInt8×List UInt8))(c:Cra)(x:Hea)(Q:VQ):
    AE (decide ((frL l i).1=1)) (nx t nn i sl l Q (senW F c x (frL l i) t)) (AE (decide ((frL l i).1=2)) (nx t nn i sl l Q (senW F c x (frL l i) t)) (AE (decide ((frL l i).1=3)) (nx t nn i sl l Q (senW F c x (frL l i) t))
          (AE (decide ((frL l i).1=16)) (nx t nn i sl l Q (ordC c x (F.oread (frL l i)))) (nx t nn i sl l Q (rejC c,x)))))=nx t nn i sl l Q (Dv F t (c,x) (frL l i)):=by
 generalize hE:nx t nn i sl l Q=E
 generalize frL l i=f
 unfold Dv
 dsimp only
 generalize senW F c x f t=A
 generalize ordC c x (F.oread f)=B
 generalize (rejC c,x)=C
 by_cases h1:f.1=1
 ·rw[decide_eq_true h1,if_pos h1];rfl
 rw[decide_eq_false h1,if_neg h1]
 by_cases h2:f.1=2
 ·rw[decide_eq_true h2,if_pos h2];rfl
 rw[decide_eq_false h2,if_neg h2]
 by_cases h3:f.1=3
 ·rw[decide_eq_true h3,if_pos h3];rfl
 rw[decide_eq_false h3,if_neg h3]
 by_cases h4:f.1=16
 ·rw[decide_eq_true h4,if_pos h4];rfl
 ·rw[decide_eq_false h4,if_neg h4];rfl
theorem Amf(pre rest:List (UInt8×List UInt8))(f:UInt8×List UInt8):frL (pre++f::rest) (pre.length:Nat)=GX f:=by
 unfold frL GX
 rw[Int.toNat_natCast,Zt (Zr _),Nat.sub_self]
 rfl
def TkR(F:Fs)(t:Int)(sl:Value)(l:List (UInt8×List UInt8))(G:VQ->List Value->Xm->Prop):Prop:=∀(nn i:Int) (d:Nat->Value) (c:Cra) (x:Hea) (Q:VQ),G Q (tkF t nn i sl d) (tkM c x l)=
      AE (decide (i<nn)) ((0<=i/\i.toNat<l.length)/\On sl l/\some (cellsOf l)=some (cellsOf l)/\5=5/\36<67/\nx t nn i sl l Q (Dv F t (c,x) (frL l i)))
      (Q (.exit 0) (tkE t nn i sl d) (tkM c x l))
theorem Au5{t:Int}{sl:Value}{l:List (UInt8×List UInt8)}{G:VQ->List Value->Xm->Prop}(hG:TkR F t sl l G)(hl:l.length<=5000)(hs:On sl l)(hp:Ch 5 sl=true)(Q:VQ)(rest:List (UInt8×List UInt8)):∀(pre:List (UInt8×List UInt8)),l=pre++rest->∀(d:Nat->Value) (s:Cra×Hea),
    (∀i d,Q (.exit 0) (tkE t l.length i sl d) (tkM ((rest.map GX).foldl (Dv F t) s).1 ((rest.map GX).foldl (Dv F t) s).2 l))->
    AS (rest.length+1) G Q (tkF t l.length pre.length sl d) (tkM s.1 s.2 l):=by
 induction rest with
 |nil=>
  intro pre e d s hQ
  have e1:l.length=pre.length:=by rw[e];simp
  rw[List.length_nil,AS,hG,decide_eq_false (by omega)]
  exact hQ _ d
 | cons f rest ih=>
  intro pre e d s hQ
  have e1:l.length=pre.length+(rest.length+1):=by rw[e];simp
  rw[Zag,AS,hG,decide_eq_true (by omega)]
  refine⟨⟨by omega,by rw[Int.toNat_natCast];omega⟩,hs,rfl,rfl,by decide,rfl,by rw[hp];rfl,fun d=>?_⟩
  have hw:IntKind.i64.wrap ((pre.length:Int)+1)=((pre++[f]).length:Nat):=by
   rw[IntKind.wrap_i64,Zp,List.length_singleton]
   omega
  have hf:frL l (pre.length:Nat)=GX f:=by rw[e];exact Amf pre rest f
  rw[hw,hf]
  exact ih (pre++[f]) (by rw[e];simp) d (Dv F t s (GX f)) hQ
theorem ADo(n:Nat)(t:Int)(sl:Value)(l:List (UInt8×List UInt8)):TkR F t sl l (Ao Zm (tkT F h) (fun _=>[]) n (tkO F h l) (tkL Zm)):=by
 intro nn i d c x Q
 rw[Amd,Ame]
def tkQ(F:Fs)(h:FsOk F)(l:List (UInt8×List UInt8))(n:Nat)(Q:VQ):VQ:=fun e vt m=>match e with
 | .normal=>Ao Zm (tkT F h) (fun _=>[]) n (tkO F h l) (tkZ Zm) Q vt m
 |e=>Q e vt m
def tkX(F:Fs)(h:FsOk F)(l:List (UInt8×List UInt8))(n:Nat)(t:Int)(Q:VQ)(sl:Value)(c:Cra):Prop:=
 On sl l/\33<67/\67=67/\(Ch 5 sl&&true)=true/\∀d,Ao Zm (tkT F h) (fun _=>[]) n (tkO F h l) (tkB Zm) (tkQ F h l n Q) (tkF t l.length 0 sl d) (tkM c IE l)
theorem Amg(n:Nat)(t:Int)(c:Cra)(b:ByteArray)(Q:VQ):
    Ao Zm (tkT F h) (fun _=>[]) n (tkO F h (scanL (c.2.2.1++b).data.toList).1) (An Zm 10) Q ((Ac cCra (Ac cI (Aa cS))).enc (c,t,b)++Zaa ((Ba Zm 10).ntmps-((Ac cCra (Ac cI (Aa cS))).enc (c,t,b)).length) undef) []=
      (c.2.2.1.size+b.size<=5000/\3=3/\67=67/\∀sl,On sl (scanL (c.2.2.1++b).data.toList).1->AE (decide (((scanL (c.2.2.1++b).data.toList).2.2:Nat)>(0:Int)))
        (tkX F h (scanL (c.2.2.1++b).data.toList).1 n t Q sl (rejC (Mn c (restOf (c.2.2.1++b).data.toList)))) (tkX F h (scanL (c.2.2.1++b).data.toList).1 n t Q sl (Mn c (restOf (c.2.2.1++b).data.toList)))):=by kernel_rfl
theorem ADp(n:Nat)(t i nn:Int)(sl:Value)(d:Nat->Value)(l:List (UInt8×List UInt8))(c:Cra)(x:Hea)(Post:Value->Prop):
    Ao Zm (tkT F h) (fun _=>[]) n (tkO F h l) (tkZ Zm) (Bz Zm (Ba Zm 10) (fun v _=>Post v)) (tkE t nn i sl d) (tkM c x l)=Post ((Au cCra DZ).enc (c,x)):=by kernel_rfl
theorem AJq(l:List (UInt8×List UInt8))(w:World):D5 Zm (tkO F h l) [] w [] [] (An Zm 10):=by
 refine CV (ns:=[(1,#[(opOf Zm 10 1 0),(opOf Zm 10 1 1),(opOf Zm 10 1 2),(opOf Zm 10 1 3),(opOf Zm 10 1 4),(opOf Zm 10 1 5),(opOf Zm 10 1 6),(opOf Zm 10 1 7),(opOf Zm 10 1 8),(opOf Zm 10 1 9),(opOf Zm 10 1 10),(opOf Zm 10 1 11)],false),(6,#[(opOf Zm 10 6 0),(opOf Zm 10 6 1),(opOf Zm 10 6 2)],false),(8,#[(opOf Zm 10 8 0),(opOf Zm 10 8 1),(opOf Zm 10 8 2),(opOf Zm 10 8 3)],false),(17,Cg Zm 10 17,false)]) (by kernel_rfl) ?_
 intro r hr
 rcases Zab.1 hr with rfl |hr
 ·intro R hR K Q bl vt m a w h r hK
  cases hR
  exact Amc (tC:=42) (tT:=9) (fn:=36) rfl (by kernel_rfl) (by kernel_rfl) rfl ⟨by kernel_rfl,by kernel_rfl,by kernel_rfl⟩ ⟨by kernel_rfl,by kernel_rfl,by kernel_rfl⟩ ⟨by kernel_rfl,by kernel_rfl,by kernel_rfl⟩ ⟨by kernel_rfl,by kernel_rfl,by kernel_rfl⟩ ⟨by kernel_rfl,by kernel_rfl,by kernel_rfl⟩ ⟨by kernel_rfl,by kernel_rfl,by kernel_rfl⟩ ⟨by kernel_rfl,by kernel_rfl,by kernel_rfl⟩ ⟨by kernel_rfl,by kernel_rfl,by kernel_rfl⟩ ⟨by kernel_rfl,by kernel_rfl,by kernel_rfl⟩ ⟨by kernel_rfl,by kernel_rfl,by kernel_rfl⟩ ⟨by kernel_rfl,by kernel_rfl,by kernel_rfl⟩ ⟨by kernel_rfl,by kernel_rfl,by kernel_rfl⟩ h r hK
 rcases Zab.1 hr with rfl |hr
 ·intro R hR K Q bl vt m a w h r hK
  cases hR
  exact Al9 (tS:=104) (e:=99) (by decide) (by kernel_rfl) rfl ⟨by kernel_rfl,by kernel_rfl,by kernel_rfl⟩ ⟨by kernel_rfl,by kernel_rfl,by kernel_rfl⟩ ⟨by kernel_rfl,by kernel_rfl,by kernel_rfl⟩ h r hK
 rcases Zab.1 hr with rfl |hr
 ·intro R hR K Q bl vt m a w h r hK
  cases hR
  exact Ama (tS:=104) (tF:=99) (z:=.agg #[.int .i64 0,.string ⟨#[]⟩]) (by kernel_rfl) (by kernel_rfl) (by kernel_rfl) (by kernel_rfl) rfl rfl ⟨by kernel_rfl,by kernel_rfl,by kernel_rfl⟩ ⟨by kernel_rfl,by kernel_rfl,by kernel_rfl⟩ ⟨by kernel_rfl,by kernel_rfl,by kernel_rfl⟩ ⟨by kernel_rfl,by kernel_rfl,by kernel_rfl⟩ h r hK
 rcases Zab.1 hr with rfl |hr
 ·intro R hR K Q bl vt m a w h r hK
  cases hR
  exact By xmixA (by decide) h r hK
 ·cases hr
theorem LC:∀(f:Nat) (s:List UInt8),(Cf f s).1.length<=f
 |0,_=>Zr _
 | f+1,s=>by
  unfold Cf
  split
  ·exact Nat.zero_le _
  ·have:=LC f (s.drop 1)
   dsimp only
   omega
  ·rename_i n _
   have:=LC f (s.drop (n+5))
   simp only[Zag]
   omega
theorem Vs(L:List UInt8):(scanL L).1.length<=L.length:=LC _ L
theorem Amh(h:FsOk F)(x:Cra×Int×ByteArray)(hs:x.1.2.2.1.size+x.2.2.size<=5000)(w:World)(hw:GW w):
    Calls Zm 10 ((Ac cCra (Ac cI (Aa cS))).enc x).toArray w fun e w'=>e=.returned ((Au cCra DZ).enc (takeW F x.1 x.2.1 x.2.2))/\Below w.heap.size w w':=by
 obtain⟨c,t,b⟩:=x
 dsimp only at hs ⊢
 refine Gc (tbl:=tkT F h) (dirty:=fun _=>[]) (n:=(scanL (c.2.2.1++b).data.toList).1.length+1) (ov:=tkO F h (scanL (c.2.2.1++b).data.toList).1) xmixA (by kernel_rfl) (by kernel_rfl) (AJq F h _) ?_ w hw
 rw[Amg]
 have hL:(scanL (c.2.2.1++b).data.toList).1.length<=5000:=Nat.le_trans (Vs _) (by simpa [Zy]using hs)
 refine⟨hs,rfl,rfl,fun sl hsl=>?_⟩
 have hp:Ch 5 sl=true:=by
  rcases hsl with⟨rfl,_⟩|⟨cap,rfl⟩<;>rfl
 have key:∀c':Cra,c'=XP c (c.2.2.1++b).data.toList->tkX F h (scanL (c.2.2.1++b).data.toList).1 ((scanL (c.2.2.1++b).data.toList).1.length+1) t (Bz Zm (Ba Zm 10) (fun v _=>v=(Au cCra DZ).enc (takeW F c t b))) sl c':=by
  intro c' hc
  refine⟨hsl,by decide,rfl,by rw[hp];rfl,fun d=>?_⟩
  refine Au5 F (ADo F h _ t sl _) hL hsl hp _ _ [] rfl d (c',IE) (fun i d=>?_)
  refine Eq.mpr (ADp F h _ t i _ sl d _ _ _ (fun v=>v=(Au cCra DZ).enc (takeW F c t b))) ?_
  rw[hc]
  rfl
 unfold XP at key
 by_cases ho:((scanL (c.2.2.1++b).data.toList).2.2:Nat)>(0:Int)
 ·rw[decide_eq_true ho]
  exact key _ (if_pos ho).symm
 ·rw[decide_eq_false ho]
  exact key _ (if_neg ho).symm
end
theorem AJr(W:World)(g:Nat)(a b c:UInt8)(h0:W.cell? ⟨g,0,none⟩=some (.int .u8 (a.toNat:Nat)))(h1:W.cell? ⟨g,1,none⟩=some (.int .u8 (b.toNat:Nat)))(h2:W.cell? ⟨g,2,none⟩=some (.int .u8 (c.toNat:Nat))):
    (convert 167 9 (.slice (some ⟨g,0,none⟩) 3 3)).run Zm W=.ok (.string ⟨#[a,b,c]⟩) W:=
 run_convert_bytes_back W 167 9 5 ⟨g,0,none⟩ 3 [a,b,c] Tryz.underlying167 Tryz.underlying5 Tryz.underlying9 (fun j hj=>by
  match j,hj with
  |0,_=>exact h0
  |1,_=>exact h1
  |2,_=>exact h2)
theorem Ami(W:World)(g:Nat)(a b:UInt8)(h0:W.cell? ⟨g,0,none⟩=some (.int .u8 (a.toNat:Nat)))(h1:W.cell? ⟨g,1,none⟩=some (.int .u8 (b.toNat:Nat))):
    (convert 167 9 (.slice (some ⟨g,0,none⟩) 2 2)).run Zm W=.ok (.string ⟨#[a,b]⟩) W:=
 run_convert_bytes_back W 167 9 5 ⟨g,0,none⟩ 2 [a,b] Tryz.underlying167 Tryz.underlying5 Tryz.underlying9 (fun j hj=>by
  match j,hj with
  |0,_=>exact h0
  |1,_=>exact h1)
theorem H9(U:World)(g:Nat)(C:Array Value)(t:TypeId)(j:Nat)(hg:g=U.heap.size):(U.alloc (.cells C t)).cell? ⟨g,j,none⟩=C[j]? :=by
 subst hg
 exact World.cell?_alloc_mark U C t (0,0) j
theorem Ia(a b:ByteArray):(a++b).data.toList=a.data.toList++b.data.toList:=by
 rw[ByteArray.data_append,Array.toList_append]
theorem Kq(W:World)(a b:ByteArray)(h:a.size+b.size<=5000):(Op.stringOp .add a b).run Zm W=.ok (.string (a++b)) W:=run_string_add_sum W a b (by omega)
theorem Vt(k:UInt8)(d:ByteArray)(w:World)(hd:d.size<=64):
    Calls Zm 58 #[.agg #[.int .i64 (k.toNat:Nat),.string d]] w fun e w'=>∃s:ByteArray,e=.returned (.tuple #[.string s,.bool true])/\s.data.toList=CH k d.data.toList/\Below w.heap.size w w':=by
 obtain⟨n,hn⟩:∃n,k.toNat=n:=⟨_,rfl⟩
 have hk:n<256:=by rw[<-hn];exact k.toNat_lt
 have e3:(convert 167 9 (.slice (some ⟨w.heap.size+1,0,none⟩) 3 3)).run Zm ((w.alloc (.cells #[.int .i64 (n:Int),.string d] 99)).alloc (.cells #[.int .u8 165,.int .u8 (n:Int),.int .u8 (d.size:Int)] 5))=.ok (.string ⟨#[165,k,UInt8.ofNat d.size]⟩) ((w.alloc (.cells #[.int .i64 (n:Int),.string d] 99)).alloc (.cells #[.int .u8 165,.int .u8 (n:Int),.int .u8 (d.size:Int)] 5)):=
  AJr _ _ 165 k (UInt8.ofNat d.size) (by simp) (by simp[hn]) (by rw[ofNat_toNat (by omega)];simp)
 obtain⟨S1,hS1⟩:∃S:ByteArray,S=⟨#[165,k,UInt8.ofNat d.size]⟩:=⟨_,rfl⟩
 rw[<-hS1]at e3
 have z1:S1.size=3:=by rw[hS1];rfl
 have a1:=fun W=>Kq W S1 d (by omega)
 obtain⟨S2,hS2⟩:∃S:ByteArray,S=S1++d:=⟨_,rfl⟩
 rw[<-hS2]at a1
 have z2:S2.size=3+d.size:=by rw[hS2,Zy,z1]
 have L2:Hid (S2.data.toList=[165]++BB k d.data.toList):=by
  show _=_
  rw[hS2,Ia,hS1]
  rfl
 have s3:∀W:World,(Instr.slice 9 (.string S2) (some (.int .i64 1)) none none).run Zm W=.ok (.string (S2.extract 1 S2.size)) W:=fun W=>by
  rw[run_slice_string_from_if W 9 S2 .i64 1 Tryz.underlying9,if_pos (by omega)]
  rfl
 obtain⟨S3,hS3⟩:∃S:ByteArray,S=S2.extract 1 S2.size:=⟨_,rfl⟩
 rw[<-hS3]at s3
 have z3:S3.size=2+d.size:=by rw[hS3,Zv];omega
 have L3:S3.data.toList=BB k d.data.toList:=by
  rw[hS3,CU,L2.out,List.take_of_length_le (by rw[<-L2.out,Zu];exact Zr _)]
  rfl
 have hsum:=fun W=>Aar S3 W (by omega)
 rw[L3]at hsum
 have hq:=MZ (BB k d.data.toList)
 obtain⟨q,hqe⟩:∃q,q=FK (BB k d.data.toList):=⟨_,rfl⟩
 rw[<-hqe]at hsum hq
 have e4:(convert 167 9 (.slice (some ⟨w.heap.size+1+1,0,none⟩) 2 2)).run Zm (((w.alloc (.cells #[.int .i64 (n:Int),.string d] 99)).alloc (.cells #[.int .u8 165,.int .u8 (n:Int),.int .u8 (d.size:Int)] 5)).alloc (.cells #[.int .u8 ((q:Int) / 256),.int .u8 ((q:Int) % 256)] 5))=.ok (.string ⟨#[UInt8.ofNat (q / 256),UInt8.ofNat (q % 256)]⟩) (((w.alloc (.cells #[.int .i64 (n:Int),.string d] 99)).alloc (.cells #[.int .u8 165,.int .u8 (n:Int),.int .u8 (d.size:Int)] 5)).alloc (.cells #[.int .u8 ((q:Int) / 256),.int .u8 ((q:Int) % 256)] 5)):=
  Ami _ _ (UInt8.ofNat (q / 256)) (UInt8.ofNat (q % 256)) (by rw[ofNat_toNat (by omega)];exact H9 _ _ _ _ 0 (by simp)) (by rw[ofNat_toNat (by omega)];exact H9 _ _ _ _ 1 (by simp))
 obtain⟨S4,hS4⟩:∃S:ByteArray,S=⟨#[UInt8.ofNat (q / 256),UInt8.ofNat (q % 256)]⟩:=⟨_,rfl⟩
 rw[<-hS4]at e4
 have z4:S4.size=2:=by rw[hS4];rfl
 have a5:=fun W=>Kq W S2 S4 (by omega)
 obtain⟨S5,hS5⟩:∃S:ByteArray,S=S2++S4:=⟨_,rfl⟩
 rw[<-hS5]at a5
 have L5:Hid (S5.data.toList=CH k d.data.toList):=by
  show _=_
  rw[hS5,Ia,L2.out,hS4,hqe]
  rfl
 clear hqe L3 hS3 hS2 hS1 hS4 hS5
 go_enter Tryz.func58,Tryz.ntmps58
 go_wp2_with (go_at_call 173;refine(hsum _).mono ?_;rintro e w1 ⟨rfl,rfl⟩)
 go_ret2
 exact⟨S5,rfl,L5.out,(((Below.refl _ w).alloc (Zr _) _).alloc (by simp) _).alloc (by simp;omega) _⟩
theorem Aat(k:Int)(d:ByteArray)(w:World)(h:¬(0<=k/\k<=255/\d.size<=64)):
    Calls Zm 58 #[.agg #[.int .i64 k,.string d]] w fun e w'=>e=.returned (.tuple #[.string ⟨#[]⟩,.bool false])/\Below w.heap.size w w':=by
 have h':decide (k<0)||decide (255<k)||decide (64<(d.size:Int)):=by simp;omega
 go_enter Tryz.func58,Tryz.ntmps58
 go_wp2
 all_goals (go_ret2;exact⟨rfl,(Below.refl _ w).alloc (Zr _) _⟩)
theorem QR(k:UInt8)(d:ByteArray)(w:World)(hd:d.size<=64):
    Calls Zm 35 #[.agg #[.int .i64 (k.toNat:Nat),.string d]] w fun e w'=>∃s:ByteArray,e=.returned (.tuple #[.string s,.bool true])/\s.data.toList=CH k d.data.toList/\Below w.heap.size w w':=by
 obtain⟨n,hn⟩:∃n,k.toNat=n:=⟨_,rfl⟩
 have hk:n<256:=by rw[<-hn];exact k.toNat_lt
 have e3:(convert 167 9 (.slice (some ⟨w.heap.size+1,0,none⟩) 2 2)).run Zm ((w.alloc (.cells #[.int .i64 (n:Int),.string d] 99)).alloc (.cells #[.int .u8 (n:Int),.int .u8 (d.size:Int)] 5))=.ok (.string ⟨#[k,UInt8.ofNat d.size]⟩) ((w.alloc (.cells #[.int .i64 (n:Int),.string d] 99)).alloc (.cells #[.int .u8 (n:Int),.int .u8 (d.size:Int)] 5)):=
  Ami _ _ k (UInt8.ofNat d.size) (by simp[hn]) (by rw[ofNat_toNat (by omega)];simp)
 obtain⟨S1,hS1⟩:∃S:ByteArray,S=⟨#[k,UInt8.ofNat d.size]⟩:=⟨_,rfl⟩
 rw[<-hS1]at e3
 have z1:S1.size=2:=by rw[hS1];rfl
 have a1:=fun W=>Kq W S1 d (by omega)
 obtain⟨S2,hS2⟩:∃S:ByteArray,S=S1++d:=⟨_,rfl⟩
 rw[<-hS2]at a1
 have z2:S2.size=2+d.size:=by rw[hS2,Zy,z1]
 have L3:S2.data.toList=BB k d.data.toList:=by
  rw[hS2,Ia,hS1]
  rfl
 have a2:=fun W=>Kq W ⟨#[165]⟩ S2 (by have:(⟨#[165]⟩:ByteArray).size=1:=rfl;omega)
 obtain⟨S3,hS3⟩:∃S:ByteArray,S=⟨#[165]⟩++S2:=⟨_,rfl⟩
 rw[<-hS3]at a2
 have z3:S3.size=1+S2.size:=by rw[hS3,Zy];rfl
 have L2:Hid (S3.data.toList=[165]++BB k d.data.toList):=by
  show _=_
  rw[hS3,Ia,L3]
 have hsum:=fun W=>Al3 S2 W (by omega)
 rw[L3]at hsum
 have hq:=MZ (BB k d.data.toList)
 obtain⟨q,hqe⟩:∃q,q=FK (BB k d.data.toList):=⟨_,rfl⟩
 rw[<-hqe]at hsum hq
 have e4:(convert 167 9 (.slice (some ⟨w.heap.size+1+1,0,none⟩) 2 2)).run Zm (((w.alloc (.cells #[.int .i64 (n:Int),.string d] 99)).alloc (.cells #[.int .u8 (n:Int),.int .u8 (d.size:Int)] 5)).alloc (.cells #[.int .u8 ((q:Int) / 256),.int .u8 ((q:Int) % 256)] 5))=.ok (.string ⟨#[UInt8.ofNat (q / 256),UInt8.ofNat (q % 256)]⟩) (((w.alloc (.cells #[.int .i64 (n:Int),.string d] 99)).alloc (.cells #[.int .u8 (n:Int),.int .u8 (d.size:Int)] 5)).alloc (.cells #[.int .u8 ((q:Int) / 256),.int .u8 ((q:Int) % 256)] 5)):=
  Ami _ _ (UInt8.ofNat (q / 256)) (UInt8.ofNat (q % 256)) (by rw[ofNat_toNat (by omega)];exact H9 _ _ _ _ 0 (by simp)) (by rw[ofNat_toNat (by omega)];exact H9 _ _ _ _ 1 (by simp))
 obtain⟨S4,hS4⟩:∃S:ByteArray,S=⟨#[UInt8.ofNat (q / 256),UInt8.ofNat (q % 256)]⟩:=⟨_,rfl⟩
 rw[<-hS4]at e4
 have z4:S4.size=2:=by rw[hS4];rfl
 have a5:=fun W=>Kq W S3 S4 (by omega)
 obtain⟨S5,hS5⟩:∃S:ByteArray,S=S3++S4:=⟨_,rfl⟩
 rw[<-hS5]at a5
 have L5:Hid (S5.data.toList=CH k d.data.toList):=by
  show _=_
  rw[hS5,Ia,L2.out,hS4,hqe]
  rfl
 clear hqe L3 hS3 hS2 hS1 hS4 hS5
 go_enter Tryz.func35,Tryz.ntmps35
 go_wp2_with (go_at_call 110;refine(hsum _).mono ?_;rintro e w1 ⟨rfl,rfl⟩)
 go_ret2
 exact⟨S5,rfl,L5.out,(((Below.refl _ w).alloc (Zr _) _).alloc (by simp) _).alloc (by simp;omega) _⟩
theorem Vu(k:Int)(d:ByteArray)(w:World)(h:¬(0<=k/\k<=255/\d.size<=64)):
    Calls Zm 35 #[.agg #[.int .i64 k,.string d]] w fun e w'=>e=.returned (.tuple #[.string ⟨#[]⟩,.bool false])/\Below w.heap.size w w':=by
 have h':decide (k<0)||decide (255<k)||decide (64<(d.size:Int)):=by simp;omega
 go_enter Tryz.func35,Tryz.ntmps35
 go_wp2
 all_goals (go_ret2;exact⟨rfl,(Below.refl _ w).alloc (Zr _) _⟩)
end
end Go.Proofs.YtoadcnhcfodkgaaGreatDoor
