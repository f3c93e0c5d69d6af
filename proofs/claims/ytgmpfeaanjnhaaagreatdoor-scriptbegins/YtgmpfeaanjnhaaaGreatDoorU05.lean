/-
A part.
A part.
A part.
A part.
A part.
A part.
A part.
A part.
A part.
A part.
A part.
A part.
A part.
A part.
A part.
A part.
A part.
-/
import Derived.WalkKit
import Derived.Test.YtgmpfeaanjnhaaaGreatDoorProg
import Derived.WalkLawsBesides
import Derived.Laws.BitsAllLaws
import Derived.Deep.QuietTactic
import Derived.BigQuiet
import Derived.WalkSpells
import Derived.Lib.Strings
import Derived.Laws.OwnMore
import Derived.OwnWalk
import Derived.Shelf.LaysM
import Derived.Shelf.Strconv.Clone
import Derived.Laws.ResultCell
import Derived.RegionTactic
import Derived.Deep.RegionWith
import Derived.Lib.IndexBytes
import Derived.Test.YtgmpfeaanjnhaaaGreatDoorU02
import Derived.Test.YtgmpfeaanjnhaaaGreatDoorU03
import Derived.Test.YtgmpfeaanjnhaaaGreatDoorU04
namespace Go.Proofs.YtgmpfeaanjnhaaaGreatDoor
open Go.RowKit
abbrev Ov:=Nat->Option (Array Oper->Bool->(List Value->Xm->Prop)->List Value->Xm->Prop)
def BR(P:Program)(tbl:List (Ct P))(dirty:Nat->List Nat)(n:Nat)(ov:Ov):Code->VQ->List Value->Xm->Prop
 | .skip,Q,vt,m=>Q .normal vt m
 | .region id ops draw,Q,vt,m=>(match ov id with
  |some R=>R ops draw (Q .normal) vt m
  |none=>D6 P tbl dirty id ops draw (Q .normal) vt m)
 | .seq x y,Q,vt,m=>BR P tbl dirty n ov x (fun e vt' m'=>match e with
  | .normal=>BR P tbl dirty n ov y Q vt' m'
  |e=>Q e vt' m') vt m
 | .cond c x y,Q,vt,m=>(match Pr c,VE vt c with
  |true,.bool b=>DY b (BR P tbl dirty n ov x Q (vset vt c true) m) (BR P tbl dirty n ov y Q (vset vt c false) m)
  |_,_=>False)
 | .block id c,Q,vt,m=>BR P tbl dirty n ov c (fun e vt' m'=>match e with
  | .exit id'=>if id'=id then Q .normal vt' m' else Q (.exit id') vt' m'
  |e=>Q e vt' m') vt m
 | .loop c,Q,vt,m=>Io n (BR P tbl dirty n ov c) Q vt m
 | .exit id,Q,vt,m=>Q (.exit id) vt m
 | .label _,Q,vt,m=>Q .normal vt m
 | .ret,Q,vt,m=>Q .ret vt m
 |_,_,_,_=>False
def D9(P:Program)(ov:Ov)(bs:List Nat)(w0:World)(ds:List Deferred)(bl0:Bl):Code->Prop
 | .region id ops draw=>∀R,ov id=some R->∀(K:List Value->Xm->Prop) (Q:Exit->Act->World->Prop) (bl:Bl) (vt:List Value) (m:Xm) (a:Act) (w:World),R ops draw K vt m->Rl bs w0 ds bl0 bl vt m a w->(∀bl vt m a w,K vt m->Rl bs w0 ds bl0 bl vt m a w->Q .normal a w)->(Code.region id ops draw).wp P Q a w
 | .seq x y=>D9 P ov bs w0 ds bl0 x/\D9 P ov bs w0 ds bl0 y
 | .cond _ x y=>D9 P ov bs w0 ds bl0 x/\D9 P ov bs w0 ds bl0 y
 | .block _ c=>D9 P ov bs w0 ds bl0 c
 | .loop c=>D9 P ov bs w0 ds bl0 c
 |_=>True
section
variable {P:Program} {tbl:List (Ct P)} {bs:List Nat} {w0:World} {ds:List Deferred} {dirty:Nat->List Nat} {n:Nat} {bl0:Bl} {ov:Ov}
theorem Hf(hm:P.follows .mixedOrders=true):∀(c:Code) (Q:VQ) (Q':Exit->Act->World->Prop) (bl:Bl) (vt:List Value) (m:Xm) (a:Act) (w:World),D9 P ov bs w0 ds bl0 c->N3 bs w0 ds bl0 Q Q'->BR P tbl dirty n ov c Q vt m->Rl bs w0 ds bl0 bl vt m a w->c.wp P Q' a w:=by
 intro c
 induction c with
 |skip=>intro Q Q' bl vt m a w _ hQ h r;exact wp_skip (hQ _ bl vt m a w h r)
 | region id ops draw=>
  intro Q Q' bl vt m a w ho hQ h r
  unfold BR at h
  split at h
  ·rename_i R hR
   exact ho R hR _ Q' bl vt m a w h r (fun bl vt m a w hk hr=>hQ _ bl vt m a w hk hr)
  ·exact Dz hm (fun bl vt m a w hk hr=>hQ _ bl vt m a w hk hr) h r
 |seq x y ihx ihy=>
  intro Q Q' bl vt m a w ho hQ h r
  refine wp_seq (ihx _ _ bl vt m a w ho.1 ?_ h r)
  intro e bl' vt' m' a' w' h' r'
  cases e with
  |normal=>exact ihy Q Q' bl' vt' m' a' w' ho.2 hQ h' r'
  |exit id=>exact hQ _ bl' vt' m' a' w' h' r'
  |goto l=>exact hQ _ bl' vt' m' a' w' h' r'
  |ret=>exact hQ _ bl' vt' m' a' w' h' r'
  |panic ch=>exact hQ _ bl' vt' m' a' w' h' r'
  |outgrown=>exact hQ _ bl' vt' m' a' w' h' r'
 | cond c x y ihx ihy=>
  intro Q Q' bl vt m a w ho hQ h r
  unfold BR at h
  split at h
  ·rename_i b hok hb
   have hv:=r.F.eval hok
   rw[hb]at hv
   have hv:a.eval c=.bool b:=hv
   refine wp_cond_split hv (fun e=>?_) (fun e=>?_)
   ·subst e;exact ihx Q Q' bl _ m a w ho.1 hQ h ⟨r.F.vset hb,r.R,r.le,r.len,r.defers⟩
   ·subst e;exact ihy Q Q' bl _ m a w ho.2 hQ h ⟨r.F.vset hb,r.R,r.le,r.len,r.defers⟩
  ·exact h.elim
 | block id c ih=>
  intro Q Q' bl vt m a w ho hQ h r
  refine wp_block (ih _ _ bl vt m a w ho ?_ h r)
  intro e bl' vt' m' a' w' h' r'
  cases e with
  | exit id'=>
   dsimp only at h'
   unfold Exit.inBlock
   dsimp only
   split at h'
   ·rename_i e
    rw[if_pos e]
    exact hQ _ bl' vt' m' a' w' h' r'
   ·rename_i e
    rw[if_neg e]
    exact hQ _ bl' vt' m' a' w' h' r'
  |normal=>exact hQ _ bl' vt' m' a' w' h' r'
  |goto l=>exact hQ _ bl' vt' m' a' w' h' r'
  |ret=>exact hQ _ bl' vt' m' a' w' h' r'
  |panic ch=>exact hQ _ bl' vt' m' a' w' h' r'
  |outgrown=>exact hQ _ bl' vt' m' a' w' h' r'
 | loop c ih=>
  intro Q Q' bl vt m a w ho hQ h r
  refine wp_loop_rounds n ?_
  have key:∀k bl vt m a w,Io k (BR P tbl dirty n ov c) Q vt m->Rl bs w0 ds bl0 bl vt m a w->Code.rounds P c Q' k a w:=by
   intro k
   induction k with
   |zero=>intro bl vt m a w h _;exact h
   |succ k ihk=>
    intro bl vt m a w h r
    refine ih _ _ bl vt m a w ho ?_ h r
    intro e bl' vt' m' a' w' h' r'
    cases e with
    |normal=>exact ihk bl' vt' m' a' w' h' r'
    |exit id=>exact hQ _ bl' vt' m' a' w' h' r'
    |goto l=>exact hQ _ bl' vt' m' a' w' h' r'
    |ret=>exact hQ _ bl' vt' m' a' w' h' r'
    |panic ch=>exact hQ _ bl' vt' m' a' w' h' r'
    |outgrown=>exact hQ _ bl' vt' m' a' w' h' r'
  exact key n bl vt m a w h r
 |exit id=>intro Q Q' bl vt m a w _ hQ h r;exact wp_exit (hQ _ bl vt m a w h r)
 |label l=>intro Q Q' bl vt m a w _ hQ h r;exact wp_label (hQ _ bl vt m a w h r)
 |ret=>intro Q Q' bl vt m a w _ hQ h r;exact wp_ret (hQ _ bl vt m a w h r)
 |goto l=>intro Q Q' bl vt m a w _ _ h _;exact h.elim
 |scope c _=>intro Q Q' bl vt m a w _ _ h _;exact h.elim
 |refuse s=>intro Q Q' bl vt m a w _ _ h _;exact h.elim
 |rangeFunc f ps x y _ _=>intro Q Q' bl vt m a w _ _ h _;exact h.elim
end
section
variable {P:Program} {tbl:List (Ct P)} {dirty:Nat->List Nat} {n:Nat} {ov:Ov}
theorem Jb(hm:P.follows .mixedOrders=true){f:Nat}{fn:Func}{c:Code}(hf:P.funcs[f]? =some fn)(hb:fn.body=some c){bs:List Nat}{w:World}{bl:Bl}{m:Xm}{vargs:List Value}{args:Array Value}
    (R:RW bs w bl m w) (hl:bl.length=m.length) (hs:args.size=vargs.length) (hv:∀i,RV bl (vargs.getD i undef) (args.getD i undef)) {Post:Value->Xm->Prop}
    (ho:D9 P ov bs w [] bl c) (h:BR P tbl dirty n ov c (Cv P fn Post) (vargs++List.replicate (fn.ntmps-vargs.length) undef) m):
    Calls P f args w fun e w'=>∃v bl' m',e=.returned v/\Post v m'/\RW bs w bl' m' w'/\Le bl bl':=by
 refine calls_of_wp hf hb (Hf (ds:=[]) (bl0:=bl) hm c _ _ bl _ m _ w ho ?_ h ⟨⟨?_,?_⟩,R,Le.refl _,hl,rfl⟩)
 ·intro e bl' vt' m' a' w' h' r'
  cases e with
  | normal=>
   simp only[Cv]at h'
   split at h'
   ·rename_i v hv
    exact⟨r'.defers,v,FX r'.F r'.R hv,v,bl',m',rfl,h',r'.R,r'.le⟩
   ·exact h'.elim
  | ret=>
   simp only[Cv]at h'
   split at h'
   ·rename_i v hv
    exact⟨r'.defers,v,FX r'.F r'.R hv,v,bl',m',rfl,h',r'.R,r'.le⟩
   ·exact h'.elim
  |exit id=>exact h'.elim
  |goto l=>exact h'.elim
  |panic ch=>exact h'.elim
  |outgrown=>exact h'.elim
 ·simp[hs]
 ·intro t
  by_cases ht:t<vargs.length
  ·have:=hv t
   simp only[List.getD_eq_getElem?_getD,Array.getD_eq_getD_getElem?]at this ⊢
   rw[List.getElem?_append_left ht,Array.getElem?_append_left (by omega)]
   exact this
  ·simp only[List.getD_eq_getElem?_getD,Array.getD_eq_getD_getElem?]
   rw[List.getElem?_append_right (by omega),Array.getElem?_append_right (by omega),hs]
   by_cases h2:t-vargs.length<fn.ntmps-vargs.length
   ·rw[List.getElem?_eq_getElem (by simpa using h2),Array.getElem?_eq_getElem (by simpa using h2)]
    simp
    rfl
   ·rw[List.getElem?_eq_none (by simpa using h2),Array.getElem?_eq_none (by simpa using h2)]
    rfl
end
def Apm:Value->Value
 | .bool b=>.bool b
 |_=>.nilIface
theorem RV.dim{bl bl':Bl}{v v':Value}(h:RV bl v v'):RV bl' (Apm v) v':=by
 cases hp:isP v
 ·rw[h.plain hp]
  cases v<;>rfl
 ·match v,h,hp with
  | .pointer (some a),⟨B,_,e⟩,_=>rw[e];rfl
  | .nilIface,h,_=>exact h
  | .slice (some a) _ _,⟨B,_,e⟩,_=>rw[e];rfl
def frm(ks:List (Nat×Value))(d:Nat->Value)(n:Nat):List Value:=(List.range n).map fun j=>match ks.lookup j with
 |some v=>v
 |none=>Apm (d j)
def KX(k:Nat):Value->Bool
 | .pointer (some a)=>decide (a.block<k)
 | .slice (some a) _ _=>decide (a.block<k)
 |_=>true
theorem RV.cut{bl:Bl}{k:Nat}{v v':Value}(h:RV bl v v')(hp:KX k v=true):RV (bl.take k) v v':=by
 cases hi:isP v
 ·rw[h.plain hi]
  exact .same hi
 ·match v,h,hi,hp with
  | .pointer (some a),⟨B,h1,e⟩,_,hp=>
   have hp:a.block<k:=of_decide_eq_true hp
   exact⟨B,by rw[List.getElem?_take_of_lt hp];exact h1,e⟩
  | .nilIface,h,_,_=>exact h
  | .slice (some a) _ _,⟨B,h1,e⟩,_,hp=>
   have hp:a.block<k:=of_decide_eq_true hp
   exact⟨B,by rw[List.getElem?_take_of_lt hp];exact h1,e⟩
theorem F7{bl:Bl}{k i B:Nat}(h:(bl.take k)[i]? =some (some B)):i<k/\bl[i]? =some (some B):=by
 have hl:=(List.getElem?_eq_some_iff.1 h).1
 rw[List.length_take]at hl
 have hk:i<k:=by omega
 rw[List.getElem?_take_of_lt hk]at h
 exact⟨hk,h⟩
theorem RW.cut{bs:List Nat}{w0:World}{bl:Bl}{m:Xm}{w:World}(h:RW bs w0 bl m w)(k:Nat):RW bs w0 (bl.take k) (m.take k) w:=by
 refine⟨fun i B hi=>?_,fun i j B hi hj=>h.inj i j B (F7 hi).2 (F7 hj).2,fun i B hi=>(h.own i B (F7 hi).2).imp id (Or.imp id fun e=>by rw[List.getElem?_take_of_lt (F7 hi).1];exact e),h.os,h.tape,h.output,h.size,h.block,h.gw⟩
 obtain⟨hk,hi⟩:=F7 hi
 obtain⟨l,h1,A⟩:=h.arr i B hi
 exact⟨l,by rw[List.getElem?_take_of_lt hk];exact h1,A⟩
theorem Na(f:Nat->Value)(j:Nat):∀ks:List Nat,(ks.map fun i=>(i,f i)).lookup j=if j∈ks then some (f j)else none
 |[]=>rfl
 | k::ks=>by
  by_cases e:j=k
  ·subst e
   simp
  ·have e':(j==k)=false:=by simpa using e
   have ih:=Na f j ks
   simp only[List.map_cons,List.lookup,e',ih,List.mem_cons,e,false_or]
theorem FR.cut{bl:Bl}{vt:List Value}{tm:Array Value}(h:FR bl vt tm){n k:Nat}{ks:List Nat}(hn:vt.length=n)(hp:(ks.all fun j=>KX k (vt.getD j undef))=true):
    FR (bl.take k) (frm (ks.map fun j=>(j,vt.getD j undef)) (fun j=>vt.getD j undef) n) tm:=by
 refine⟨by unfold frm;simp[h.len,hn],fun t=>?_⟩
 have h1:=h.rv t
 unfold frm
 by_cases ht:t<n
 ·rw[List.getD_eq_getElem?_getD,List.getElem?_map,List.getElem?_range ht]
  simp only[Option.map_some,Option.getD_some,Na]
  by_cases e:t∈ks
  ·rw[if_pos e]
   exact h1.cut (List.all_eq_true.1 hp t e)
  ·rw[if_neg e]
   exact h1.dim
 ·rw[List.getD_eq_getElem?_getD,List.getElem?_eq_none (by simp;omega)]
  rw[List.getD_eq_getElem?_getD,List.getElem?_eq_none (by omega)]at h1
  exact h1.cut rfl
def SC(ks:List Nat)(n k:Nat)(K:List Value->Xm->Prop):List Value->Xm->Prop:=fun vt m=>
 vt.length=n/\(ks.all fun j=>KX k (vt.getD j undef))=true/\∀d,K (frm (ks.map fun j=>(j,vt.getD j undef)) d n) (m.take k)
section
variable {P:Program} {tbl:List (Ct P)} {bs:List Nat} {w0:World} {ds:List Deferred} {dirty:Nat->List Nat} {bl0:Bl}
theorem Rl.cut{bl:Bl}{vt:List Value}{m:Xm}{a:Act}{w:World}(r:Rl bs w0 ds bl0 bl vt m a w){ks:List Nat}{n k:Nat}(hb:bl0.length<=k){K:List Value->Xm->Prop}(h:SC ks n k K vt m):
    ∃bl' vt' m',K vt' m'/\Rl bs w0 ds bl0 bl' vt' m' a w:=by
 refine⟨bl.take k,_,m.take k,h.2.2 (fun j=>vt.getD j undef),r.F.cut h.1 h.2.1,r.R.cut k,fun i B hi=>?_,by rw[List.length_take,List.length_take,r.len],r.defers⟩
 have hl:=(List.getElem?_eq_some_iff.1 hi).1
 rw[List.getElem?_take_of_lt (by omega)]
 exact r.le i B hi
def Anr(P:Program)(tbl:List (Ct P))(dirty:Nat->List Nat)(id:Nat)(ks:List Nat)(n k:Nat)(ops:Array Oper)(draw:Bool)(K:List Value->Xm->Prop)(vt:List Value)(m:Xm):Prop:=
 D6 P tbl dirty id ops draw (SC ks n k K) vt m
theorem Qm(hm:P.follows .mixedOrders=true){id:Nat}{ks:List Nat}{n k:Nat}(hb:bl0.length<=k){ops:Array Oper}{draw:Bool}{K:List Value->Xm->Prop}{Q:Exit->Act->World->Prop}{bl:Bl}{vt:List Value}{m:Xm}{a:Act}{w:World}
    (h:Anr P tbl dirty id ks n k ops draw K vt m) (r:Rl bs w0 ds bl0 bl vt m a w) (hK:∀bl vt m a w,K vt m->Rl bs w0 ds bl0 bl vt m a w->Q .normal a w):(Code.region id ops draw).wp P Q a w:=by
 refine Dz hm (fun bl vt m a w hk hr=>?_) h r
 obtain⟨bl',vt',m',h1,h2⟩:=hr.cut hb hk
 exact hK bl' vt' m' a w h1 h2
theorem Fq{ops:Array Oper}{Q:Exit->Act->World->Prop}{i:Nat}{rest:List Nat}{a:Act}{w w':World}{o:Oper}{v:Value}(ho:ops[i]? =some o)(hg:o.guard=none)(hr:(execOp a.eval o).run P w=.ok (.value v) w')
    (h:wpOps P ops Q rest (a.put o.dst v) w'):wpOps P ops Q (i::rest) a w:=by
 rw[wpOps_cons]
 unfold wpOp
 rw[ho]
 dsimp only
 rw[show Region.wanted o (yielded ops a.tmps)=true by unfold Region.wanted;rw[hg],if_pos rfl]
 refine .inl ?_
 unfold Oper.wp
 rw[hr]
 exact h
theorem Ab9{ops:Array Oper}{Q:Exit->Act->World->Prop}{i:Nat}{rest:List Nat}{a:Act}{w w':World}{o:Oper}(ho:ops[i]? =some o)(hg:o.guard=none)(hr:(execOp a.eval o).run P w=.ok .skip w')
    (h:wpOps P ops Q rest (a.put o.dst undef) w'):wpOps P ops Q (i::rest) a w:=by
 rw[wpOps_cons]
 unfold wpOp
 rw[ho]
 dsimp only
 rw[show Region.wanted o (yielded ops a.tmps)=true by unfold Region.wanted;rw[hg],if_pos rfl]
 refine .inl ?_
 unfold Oper.wp
 rw[hr]
 exact h
end
def CC:List Bool->Code->Code
 |[],c=>c
 |false::p,.seq x _=>CC p x
 |true::p,.seq _ y=>CC p y
 |false::p,.block _ c=>CC p c
 |false::p,.loop c=>CC p c
 |_,c=>c
def AP(P:Program)(f:Nat):Code:=match P.funcs[f]? with
 |some fn=>(match fn.body with
  |some c=>c
  |none=>.skip)
 |none=>.skip
def BA(P:Program)(f:Nat):Func:=(P.funcs[f]?).getD default
def regs:Code->List (Nat×Array Oper×Bool)
 | .region id ops draw=>[(id,ops,draw)]
 | .seq x y=>regs x++regs y
 | .cond _ x y=>regs x++regs y
 | .block _ c=>regs c
 | .loop c=>regs c
 |_=>[]
def KY(P:Program)(f id:Nat):Array Oper:=match (regs (AP P f)).lookup id with
 |some x=>x.1
 |none=>#[]
def Bc(P:Program)(f id i:Nat):Oper:=(KY P f id).toList.getD i default
section
variable {P:Program} {bs:List Nat} {w0:World} {ds:List Deferred} {bl0:Bl} {ov:Ov}
def Ans(P:Program)(ov:Ov)(bs:List Nat)(w0:World)(ds:List Deferred)(bl0:Bl)(r:Nat×Array Oper×Bool):Prop:=
 ∀R,ov r.1=some R->∀(K:List Value->Xm->Prop) (Q:Exit->Act->World->Prop) (bl:Bl) (vt:List Value) (m:Xm) (a:Act) (w:World),R r.2.1 r.2.2 K vt m->Rl bs w0 ds bl0 bl vt m a w->(∀bl vt m a w,K vt m->Rl bs w0 ds bl0 bl vt m a w->Q .normal a w)->(Code.region r.1 r.2.1 r.2.2).wp P Q a w
theorem VX:∀c:Code,(∀r∈regs c,Ans P ov bs w0 ds bl0 r)->D9 P ov bs w0 ds bl0 c:=by
 intro c
 induction c with
 |region id ops draw=>intro h;exact h (id,ops,draw) List.mem_cons_self
 |seq x y ihx ihy=>intro h;exact⟨ihx fun r hr=>h r (List.mem_append_left _ hr),ihy fun r hr=>h r (List.mem_append_right _ hr)⟩
 |cond c x y ihx ihy=>intro h;exact⟨ihx fun r hr=>h r (List.mem_append_left _ hr),ihy fun r hr=>h r (List.mem_append_right _ hr)⟩
 |block id c ih=>intro h;exact ih h
 |loop c ih=>intro h;exact ih h
 |skip=>intro _;exact trivial
 |exit id=>intro _;exact trivial
 |label l=>intro _;exact trivial
 |ret=>intro _;exact trivial
 |goto l=>intro _;exact trivial
 |scope c _=>intro _;exact trivial
 |refuse s=>intro _;exact trivial
 |rangeFunc f ps x y _ _=>intro _;exact trivial
theorem EF{c:Code}{ns:List (Nat×Array Oper×Bool)}(hn:(regs c).filter (fun r=>(ov r.1).isSome)=ns)(h:∀r∈ns,Ans P ov bs w0 ds bl0 r):D9 P ov bs w0 ds bl0 c:=by
 refine VX c fun r hr=>?_
 intro R hR
 exact h r (by rw[<-hn];exact List.mem_filter.2 ⟨hr,by rw[hR];rfl⟩) R hR
end
section
variable {P:Program} {tbl:List (Ct P)} {dirty:Nat->List Nat} {n:Nat} {ov:Ov}
theorem KZ(hm:P.follows .mixedOrders=true){f:Nat}(hf:P.funcs[f]? =some (BA P f))(hb:(BA P f).body=some (AP P f)){A R:Type}{d:Dl A}{k:Dc R}{x:A}{y:R}
    (ho:∀w,D9 P ov [] w [] [] (AP P f)) (h:BR P tbl dirty n ov (AP P f) (Cv P (BA P f) (fun v _=>v=k.enc y)) (d.enc x++List.replicate ((BA P f).ntmps-(d.enc x).length) undef) []) (w:World) (hg:GW w):
    Calls P f (d.enc x).toArray w fun e w'=>e=.returned (k.enc y)/\Below w.heap.size w w':=by
 have R:RW [] w [] [] w:=⟨fun i B hi=>(by cases hi),fun i j B hi=>(by cases hi),fun i B hi=>(by cases hi),rfl,rfl,rfl,Nat.le_refl _,fun _ _ _=>rfl,hg,fun b hb=>by cases hb⟩
 refine Calls.mono (Jb hm hf hb (vargs:=d.enc x) R rfl (by simp) (fun i=>?_) (ho w) h) ?_
 ·by_cases hi:i<(d.enc x).length
  ·have:=d.np x _ (List.getElem_mem hi)
   simp only[List.getD_eq_getElem?_getD,Array.getD_eq_getD_getElem?]
   simp[hi]
   exact .same this
  ·simp only[List.getD_eq_getElem?_getD,Array.getD_eq_getD_getElem?]
   simp[hi]
   rfl
 ·rintro e w' ⟨v,bl',m2,rfl,rfl,R',_⟩
  exact⟨rfl,R'.os,R'.tape,R'.output,R'.size,fun i hi=>R'.block i hi (by simp)⟩
end
abbrev Dri:=Bool×Tup 7
abbrev At2:Dl Dri:=JW 1 (Ac cB) (dT 7)
abbrev Cra:=Bool×Int×ByteArray×Tup 6×Bool×Tup 7×Dri×Tup 43×Tup 3
abbrev Ajh:Dl Cra:=Ad cB (Ad cI (Ad cS (JW 6 (dT 6) (Ad cB (JW 7 (dT 7) (JW 8 At2 (JW 43 (dT 43) (dT 3))))))))
abbrev Bo:Dc Cra:=Sr Ajh
abbrev cDri:Dc Dri:=Sr At2
abbrev Dq:Dc (Tup 5×Tup 5×Tup 5×Int):=Sr (JW 5 (dT 5) (JW 5 (dT 5) (JW 5 (dT 5) (Ac cI))))
abbrev cSky:Dc (Bool×Tup 3×Tup 6):=Sr (Ad cB (JW 3 (dT 3) (dT 6)))
abbrev cSee:Dc (Bool×Bool×Bool×Bool×Bool×Bool×Bool×Int):=Sr (Ad cB (Ad cB (Ad cB (Ad cB (Ad cB (Ad cB (Ad cB (Ac cI))))))))
def SD(n:Int):Int:=if n≥65535 then 65535 else IntKind.i64.wrap (n+1)
theorem Qn:Az Tryz.prog 95 (Ac cI) (fun x=>SD x) cI:=AS (tbl:=[]) (dirty:=fun _=>[]) (n:=4) Ag Tryz.func95 rfl (fun x Post=>by
    refine Eq.trans (b:=?m) ?x (Eq.symm ?y)
    case y=>unfold SD;simp only[<-CY (K:=PJ cI Post)];exact rfl
    case x=>kernel_rfl)
def Hg:Ct Tryz.prog:=AH Tryz.prog 95 (Ac cI) (fun x=>SD x) cI (Af Tryz.func95 (by kernel_rfl) (by kernel_rfl)) Qn
theorem Aca:Az Tryz.prog 98 (Ac (cT 5)) (fun x=>!decide (x.1=0)) cB:=AS (tbl:=[]) (dirty:=fun _=>[]) (n:=4) Ag Tryz.func98 rfl (fun x Post=>by kernel_rfl)
def On:Ct Tryz.prog:=AH Tryz.prog 98 (Ac (cT 5)) (fun x=>!decide (x.1=0)) cB (Af Tryz.func98 (by kernel_rfl) (by kernel_rfl)) Aca
def EU(c:Cra)(tick:Int):Bool:=let ms:=IntKind.u64.wrap (IntKind.u64.wrap tick-IntKind.u64.wrap c.2.1);if c.1 then(if 10<=ms then decide (ms<=10000)else false)else false
theorem XV:Az Tryz.prog 103 (Ad Bo (Ac cI)) (fun x=>EU x.1 x.2) cB:=AS (tbl:=[]) (dirty:=fun _=>[]) (n:=4) Ag Tryz.func103 rfl (fun x Post=>by
    refine Eq.trans (b:=?m) ?x (Eq.symm ?y)
    case y=>unfold EU;simp only[<-CX (K:=PJ cB Post),<-CY (K:=PJ cB Post)];exact rfl
    case x=>kernel_rfl)
abbrev Hea:=Tup 5×Tup 5×Tup 5×Int
abbrev Sky:=Bool×Tup 3×Tup 6
abbrev See:=Bool×Bool×Bool×Bool×Bool×Bool×Bool×Int
abbrev Fra:=Int×ByteArray
abbrev CG:Dc Fra:=Sr (Ad cI (Ac cS))
abbrev Tel:=Tup 13
structure Fs where
 right:Int->Bool
 place:Bool->Tup 7×Int->Tup 3×Bool
 dir:Bool->Int->Tup 3×Bool
 sky:Bool->Tup 3×Int->Tup 3×Bool
 norm:Bool->Tup 3->Int×Bool
 apart:Bool->Tup 3×Tup 3->Bool×Bool
 shaded:Bool->Tup 3×Tup 3->Bool×Bool
 move:Bool->Tup 43×Tup 3×Int->Tup 43×Bool
 meet:Bool->Tup 43×Tup 6×Tup 6->(Tup 43×Int×Bool)×Bool
 spread:Bool->Tup 43->Int×Bool
 att:Bool->Tup 6×Tup 6->Tup 4×Bool
 start:Tup 4->Tup 43
 bstep:Bool->Dri×Tup 3×Int->Dri×Bool
 dip:Bool->Dri->Tup 3×Bool
 next:Tup 6×See->Tup 6
 counts:Tup 4×Tup 3->Tup 4×Tup 3
 write:Tel->Fra×Bool
 wrap:Fra->ByteArray×Bool
 read:Fra->Tup 5×Bool
 fresh:Tup 5×Int->Bool
 oread:Fra->Tup 9×Int
structure FsOk(F:Fs):Prop where
 right:Az Tryz.prog 67 (Ac cI) F.right cB
 place:Ba Tryz.prog 100 (Ad (cT 7) (Ac cI)) F.place (cT 3)
 dir:Ba Tryz.prog 101 (Ac cI) F.dir (cT 3)
 sky:Ba Tryz.prog 102 (Ad (cT 3) (Ac cI)) F.sky (cT 3)
 norm:Ba Tryz.prog 104 (Ac (cT 3)) F.norm cI
 apart:Ba Tryz.prog 153 (Ad (cT 3) (Ac (cT 3))) F.apart cB
 shaded:Ba Tryz.prog 106 (Ad (cT 3) (Ac (cT 3))) F.shaded cB
 move:Ba Tryz.prog 107 (Ad (cT 43) (Ad (cT 3) (Ac cI))) F.move (cT 43)
 meet:Ba Tryz.prog 108 (Ad (cT 43) (Ad (cT 6) (Ac (cT 6)))) F.meet (I6 (cT 43) cI cB)
 spread:Ba Tryz.prog 110 (Ac (cT 43)) F.spread cI
 att:Ba Tryz.prog 184 (Ad (cT 6) (Ac (cT 6))) F.att (cT 4)
 start:Az Tryz.prog 183 (Ac (cT 4)) F.start (cT 43)
 bstep:Ba Tryz.prog 99 (Ad cDri (Ad (cT 3) (Ac cI))) F.bstep cDri
 dip:Ba Tryz.prog 186 (Ac cDri) F.dip (cT 3)
 next:Az Tryz.prog 111 (Ad (cT 6) (Ac cSee)) F.next (cT 6)
 counts:Az Tryz.prog 113 (Ad (cT 4) (Ac (cT 3))) F.counts (AV (cT 4) (cT 3))
 write:Az Tryz.prog 115 (Ac (cT 13)) F.write (AV CG cB)
 wrap:Az Tryz.prog 65 (Ac CG) F.wrap (AV cS cB)
 read:Az Tryz.prog 133 (Ac CG) F.read (AV (cT 5) cB)
 fresh:Az Tryz.prog 134 (Ad (cT 5) (Ac cI)) F.fresh cB
 oread:Az Tryz.prog 135 (Ac CG) F.oread (AV (cT 9) cI)
def Aji(F:Fs)(h:FsOk F):Ct Tryz.prog:=AH Tryz.prog 67 _ F.right _ (Af Tryz.func67 (by kernel_rfl) (by kernel_rfl)) h.right
def Ajj(F:Fs)(h:FsOk F):Ct Tryz.prog:=B7 Tryz.prog 100 _ F.place _ (Af Tryz.func100 (by kernel_rfl) (by kernel_rfl)) h.place
def At3(F:Fs)(h:FsOk F):Ct Tryz.prog:=B7 Tryz.prog 101 _ F.dir _ (Af Tryz.func101 (by kernel_rfl) (by kernel_rfl)) h.dir
def At4(F:Fs)(h:FsOk F):Ct Tryz.prog:=B7 Tryz.prog 102 _ F.sky _ (Af Tryz.func102 (by kernel_rfl) (by kernel_rfl)) h.sky
def Apn(F:Fs)(h:FsOk F):Ct Tryz.prog:=B7 Tryz.prog 104 _ F.norm _ (Af Tryz.func104 (by kernel_rfl) (by kernel_rfl)) h.norm
def Ajk(F:Fs)(h:FsOk F):Ct Tryz.prog:=B7 Tryz.prog 153 _ F.apart _ (Af Tryz.func153 (by kernel_rfl) (by kernel_rfl)) h.apart
def Acb(F:Fs)(h:FsOk F):Ct Tryz.prog:=B7 Tryz.prog 106 _ F.shaded _ (Af Tryz.func106 (by kernel_rfl) (by kernel_rfl)) h.shaded
def Apo(F:Fs)(h:FsOk F):Ct Tryz.prog:=B7 Tryz.prog 107 _ F.move _ (Af Tryz.func107 (by kernel_rfl) (by kernel_rfl)) h.move
def App(F:Fs)(h:FsOk F):Ct Tryz.prog:=B7 Tryz.prog 108 _ F.meet _ (Af Tryz.func108 (by kernel_rfl) (by kernel_rfl)) h.meet
def Acd(F:Fs)(h:FsOk F):Ct Tryz.prog:=B7 Tryz.prog 110 _ F.spread _ (Af Tryz.func110 (by kernel_rfl) (by kernel_rfl)) h.spread
def At5(F:Fs)(h:FsOk F):Ct Tryz.prog:=B7 Tryz.prog 184 _ F.att _ (Af Tryz.func184 (by kernel_rfl) (by kernel_rfl)) h.att
def Ajl(F:Fs)(h:FsOk F):Ct Tryz.prog:=AH Tryz.prog 183 _ F.start _ (Af Tryz.func183 (by kernel_rfl) (by kernel_rfl)) h.start
def Ajm(F:Fs)(h:FsOk F):Ct Tryz.prog:=B7 Tryz.prog 99 _ F.bstep _ (Af Tryz.func99 (by kernel_rfl) (by kernel_rfl)) h.bstep
def At6(F:Fs)(h:FsOk F):Ct Tryz.prog:=B7 Tryz.prog 186 _ F.dip _ (Af Tryz.func186 (by kernel_rfl) (by kernel_rfl)) h.dip
def Apq(F:Fs)(h:FsOk F):Ct Tryz.prog:=AH Tryz.prog 111 _ F.next _ (Af Tryz.func111 (by kernel_rfl) (by kernel_rfl)) h.next
def Ace(F:Fs)(h:FsOk F):Ct Tryz.prog:=AH Tryz.prog 113 _ F.counts _ (Af Tryz.func113 (by kernel_rfl) (by kernel_rfl)) h.counts
def Ajn(F:Fs)(h:FsOk F):Ct Tryz.prog:=AH Tryz.prog 115 _ F.write _ (Af Tryz.func115 (by kernel_rfl) (by kernel_rfl)) h.write
def Apr(F:Fs)(h:FsOk F):Ct Tryz.prog:=AH Tryz.prog 65 _ F.wrap _ (Af Tryz.func65 (by kernel_rfl) (by kernel_rfl)) h.wrap
def Aps(F:Fs)(h:FsOk F):Ct Tryz.prog:=AH Tryz.prog 133 _ F.read _ (Af Tryz.func133 (by kernel_rfl) (by kernel_rfl)) h.read
def Ajo(F:Fs)(h:FsOk F):Ct Tryz.prog:=AH Tryz.prog 134 _ F.fresh _ (Af Tryz.func134 (by kernel_rfl) (by kernel_rfl)) h.fresh
def Ajp(F:Fs)(h:FsOk F):Ct Tryz.prog:=AH Tryz.prog 135 _ F.oread _ (Af Tryz.func135 (by kernel_rfl) (by kernel_rfl)) h.oread
def Acf:Ct Tryz.prog:=AH Tryz.prog 103 (Ad Bo (Ac cI)) (fun x=>EU x.1 x.2) cB (Af Tryz.func103 (by kernel_rfl) (by kernel_rfl)) XV
section
variable (F:Fs)
def Ant(a b:Tup 3):Tup 6:=(a.1,a.2.1,a.2.2.1,b.1,b.2.1,b.2.2.1,())
def Acg(a:Tup 6):Tup 3:=(a.1,a.2.1,a.2.2.1,())
def Apt(a:Tup 6):Tup 3:=(a.2.2.2.1,a.2.2.2.2.1,a.2.2.2.2.2.1,())
def Iy(x:Hea):Tup 6:=Ant x.2.1.2.2 x.2.2.1.2.2
theorem Mt:Az Tryz.prog 109 (Ac Dq) (fun x=>Iy x) (cT 6):=AS (tbl:=[]) (dirty:=fun _=>[]) (n:=4) Ag Tryz.func109 rfl (fun x Post=>by kernel_rfl)
def Ft:Ct Tryz.prog:=AH Tryz.prog 109 (Ac Dq) (fun x=>Iy x) (cT 6) (Af Tryz.func109 (by kernel_rfl) (by kernel_rfl)) Mt
def driftW(d:Dri)(x:Hea):Dri:=if !(!decide (x.2.2.1.1=0))then d else(F.bstep false (d,x.2.2.1.2.2,x.2.2.1.2.1)).1
theorem SE(h:FsOk F):Az Tryz.prog 74 (Ad cDri (Ac Dq)) (fun x=>driftW F x.1 x.2) cDri:=AS (tbl:=[On,Ajm F h]) (dirty:=fun _=>[]) (n:=4) Ag Tryz.func74 rfl (fun x Post=>by
    refine Eq.trans (b:=?m) ?x (Eq.symm ?y)
    case y=>unfold driftW;simp only[<-CX (K:=PJ cDri Post)];exact rfl
    case x=>kernel_rfl)
def XW(h:FsOk F):Ct Tryz.prog:=AH Tryz.prog 74 (Ad cDri (Ac Dq)) (fun x=>driftW F x.1 x.2) cDri (Af Tryz.func74 (by kernel_rfl) (by kernel_rfl)) (SE F h)
def VY:Sky:=(false,(0,0,0,()),(0,0,0,0,0,0,()))
def skyW(c:Cra)(t:Int):Sky:=
 if !c.2.2.2.2.1 then VY else
 if (F.sky (F.dir (F.place false (c.2.2.2.2.2.1,t)).2 t).2 ((F.place false (c.2.2.2.2.2.1,t)).1,t)).2 then VY else
 (true,(F.place false (c.2.2.2.2.2.1,t)).1,Ant (F.dir (F.place false (c.2.2.2.2.2.1,t)).2 t).1 (F.sky (F.dir (F.place false (c.2.2.2.2.2.1,t)).2 t).2 ((F.place false (c.2.2.2.2.2.1,t)).1,t)).1)
theorem Ach(h:FsOk F):Az Tryz.prog 75 (Ad Bo (Ac cI)) (fun x=>skyW F x.1 x.2) cSky:=AS (tbl:=[Ajj F h,At3 F h,At4 F h]) (dirty:=fun _=>[]) (n:=4) Ag Tryz.func75 rfl (fun x Post=>by
    refine Eq.trans (b:=?m) ?x (Eq.symm ?y)
    case y=>unfold skyW;simp only[<-CX (K:=PJ cSky Post)];exact rfl
    case x=>kernel_rfl)
def Ajq(h:FsOk F):Ct Tryz.prog:=AH Tryz.prog 75 (Ad Bo (Ac cI)) (fun x=>skyW F x.1 x.2) cSky (Af Tryz.func75 (by kernel_rfl) (by kernel_rfl)) (Ach F h)
def Hh(x:Hea)(s:Sky):Bool:=
 if !s.1 then false else if !(!decide (x.2.1.1=0))then false else if !(!decide (x.2.2.1.1=0))then false else
 if (F.apart false (Acg s.2.2,Apt s.2.2)).1 then(F.apart (F.apart false (Acg s.2.2,Apt s.2.2)).2 (Acg (Iy x),Apt (Iy x))).1 else false
theorem Mu(h:FsOk F):Az Tryz.prog 105 (Ad Dq (Ac cSky)) (fun x=>Hh F x.1 x.2) cB:=AS (tbl:=[On,Ft,Ajk F h]) (dirty:=fun _=>[]) (n:=4) Ag Tryz.func105 rfl (fun x Post=>by
    refine Eq.trans (b:=?m) ?x (Eq.symm ?y)
    case y=>unfold Hh;simp only[<-CX (K:=PJ cB Post)];exact rfl
    case x=>kernel_rfl)
def Oo(h:FsOk F):Ct Tryz.prog:=AH Tryz.prog 105 (Ad Dq (Ac cSky)) (fun x=>Hh F x.1 x.2) cB (Af Tryz.func105 (by kernel_rfl) (by kernel_rfl)) (Mu F h)
def FK(c:Cra)(t:Int)(x:Hea)(s:Sky):See:=
 if !decide (x.1.1=0)then
  (if s.1 then(!EU c t,!decide (x.1.1=0),decide ((F.norm false x.1.2.2).1<=54975581388),Hh F x s,!(F.shaded false (s.2.1,Acg s.2.2)).1,false,false,x.2.2.2)
  else(!EU c t,!decide (x.1.1=0),decide ((F.norm false x.1.2.2).1<=54975581388),Hh F x s,false,false,false,x.2.2.2))
 else
  (if s.1 then(!EU c t,!decide (x.1.1=0),false,Hh F x s,!(F.shaded false (s.2.1,Acg s.2.2)).1,false,false,x.2.2.2)
  else(!EU c t,!decide (x.1.1=0),false,Hh F x s,false,false,false,x.2.2.2))
theorem SF(h:FsOk F):Az Tryz.prog 76 (Ad Bo (Ad cI (Ad Dq (Ac cSky)))) (fun x=>FK F x.1 x.2.1 x.2.2.1 x.2.2.2) cSee:=AS (tbl:=[Acf,On,Apn F h,Oo F h,Acb F h]) (dirty:=fun _=>[]) (n:=4) Ag Tryz.func76 rfl (fun x Post=>by
    refine Eq.trans (b:=?m) ?x (Eq.symm ?y)
    case y=>unfold FK;simp only[<-CX (K:=PJ cSee Post)];exact rfl
    case x=>kernel_rfl)
def XX(h:FsOk F):Ct Tryz.prog:=AH Tryz.prog 76 (Ad Bo (Ad cI (Ad Dq (Ac cSky)))) (fun x=>FK F x.1 x.2.1 x.2.2.1 x.2.2.2) cSee (Af Tryz.func76 (by kernel_rfl) (by kernel_rfl)) (SF F h)
def Ajr(x:Int):Int:=IntKind.i64.wrap ((BitVec.ofInt IntKind.i64.bits x|||BitVec.ofInt IntKind.i64.bits 4).toNat)
def zeroG:Tup 43:=(0,0,0,0,0,0,0,0,0,0,0,0,0,0,0,0,0,0,0,0,0,0,0,0,0,0,0,0,0,0,0,0,0,0,0,0,0,0,0,0,0,0,0,())
def Qo(p:Tup 6)(a b:Tup 6):Tup 6×Tup 43:=if (F.att false (a,b)).2 then((1,0,0,0,0,Ajr p.2.2.2.2.2.1,()),zeroG)else(p,F.start (F.att false (a,b)).1)
theorem SG(h:FsOk F):Az Tryz.prog 112 (Ad (cT 6) (Ad (cT 6) (Ac (cT 6)))) (fun x=>Qo F x.1 x.2.1 x.2.2) (AV (cT 6) (cT 43)):=AS (tbl:=[At5 F h,Ajl F h]) (dirty:=fun _=>[]) (n:=4) Ag Tryz.func112 rfl (fun x Post=>by
    refine Eq.trans (b:=?m) ?x (Eq.symm ?y)
    case y=>unfold Qo;simp only[<-CX (K:=PJ (AV (cT 6) (cT 43)) Post)];exact rfl
    case x=>kernel_rfl)
def XY(h:FsOk F):Ct Tryz.prog:=AH Tryz.prog 112 (Ad (cT 6) (Ad (cT 6) (Ac (cT 6)))) (fun x=>Qo F x.1 x.2.1 x.2.2) (AV (cT 6) (cT 43)) (Af Tryz.func112 (by kernel_rfl) (by kernel_rfl)) (SG F h)
def planW(c:Cra)(s:See)(x:Hea)(y:Sky):Tup 6×Tup 43:=
 if !decide ((F.next (c.2.2.2.1,s)).1=2)then(F.next (c.2.2.2.1,s),zeroG)else if decide (c.2.2.2.1.1=2)then(F.next (c.2.2.2.1,s),c.2.2.2.2.2.2.2.1)else Qo F (F.next (c.2.2.2.1,s)) y.2.2 (Iy x)
theorem SH(h:FsOk F):Az Tryz.prog 78 (Ad Bo (Ad cSee (Ad Dq (Ac cSky)))) (fun x=>planW F x.1 x.2.1 x.2.2.1 x.2.2.2) (AV (cT 6) (cT 43)):=AS (tbl:=[Apq F h,Ft,XY F h]) (dirty:=fun _=>[]) (n:=4) Ag Tryz.func78 rfl (fun x Post=>by
    refine Eq.trans (b:=?m) ?x (Eq.symm ?y)
    case y=>unfold planW;simp only[<-CX (K:=PJ (AV (cT 6) (cT 43)) Post)];exact rfl
    case x=>kernel_rfl)
def XZ(h:FsOk F):Ct Tryz.prog:=AH Tryz.prog 78 (Ad Bo (Ad cSee (Ad Dq (Ac cSky)))) (fun x=>planW F x.1 x.2.1 x.2.2.1 x.2.2.2) (AV (cT 6) (cT 43)) (Af Tryz.func78 (by kernel_rfl) (by kernel_rfl)) (SH F h)
end
section
variable (F:Fs)
def At7(g:Tup 43):Tup 3:=(g.2.2.2.2.1,g.2.2.2.2.2.1,g.2.2.2.2.2.2.1,())
def q4T(g:Tup 43):Tup 4:=(g.1,g.2.1,g.2.2.1,g.2.2.2.1,())
def Oq(s:See)(g:Tup 43)(b pass:Bool):Tup 43×See:=
 if (F.spread b g).2 then(g,(s.1,s.2.1,s.2.2.1,s.2.2.2.1,s.2.2.2.2.1,true,pass,s.2.2.2.2.2.2.2))else(g,(s.1,s.2.1,s.2.2.1,s.2.2.2.1,s.2.2.2.2.1,decide ((F.spread b g).1>274877906944),pass,s.2.2.2.2.2.2.2))
def Qp(s:See)(x:Hea)(y:Sky)(r:Tup 43×Bool):Tup 43×See:=
 if s.2.2.2.1 then(if s.2.2.2.2.1 then Oq F s (F.meet r.2 (r.1,y.2.2,Iy x)).1.1 (F.meet r.2 (r.1,y.2.2,Iy x)).2 (F.meet r.2 (r.1,y.2.2,Iy x)).1.2.2 else Oq F s r.1 r.2 s.2.2.2.2.2.2.1)else Oq F s r.1 r.2 s.2.2.2.2.2.2.1
def Jc(g:Tup 43)(s:See)(ms:Int)(x:Hea)(y:Sky):Tup 43×See:=if !s.2.1 then Qp F s x y (F.move false (g,At7 g,ms))else Qp F s x y (F.move false (g,x.1.2.2,ms))
theorem Qq(h:FsOk F):Az Tryz.prog 77 (Ad (cT 43) (Ad cSee (Ad cI (Ad Dq (Ac cSky))))) (fun x=>Jc F x.1 x.2.1 x.2.2.1 x.2.2.2.1 x.2.2.2.2) (AV (cT 43) cSee):=AS (tbl:=[Apo F h,App F h,Ft,Acd F h]) (dirty:=fun _=>[]) (n:=4) Ag Tryz.func77 rfl (fun x Post=>by
    refine Eq.trans (b:=?m) ?x (Eq.symm ?y)
    case y=>unfold Jc Qp Oq;simp only[<-CX (K:=PJ (AV (cT 43) cSee) Post)];exact rfl
    case x=>kernel_rfl)
def SI(h:FsOk F):Ct Tryz.prog:=AH Tryz.prog 77 (Ad (cT 43) (Ad cSee (Ad cI (Ad Dq (Ac cSky))))) (fun x=>Jc F x.1 x.2.1 x.2.2.1 x.2.2.2.1 x.2.2.2.2) (AV (cT 43) cSee) (Af Tryz.func77 (by kernel_rfl) (by kernel_rfl)) (Qq F h)
def At8:Tup 3:=(0,0,0,())
def Iz(c:Cra):Tup 3:=if !decide (c.2.2.2.1.1=0)then At8 else(F.dip false c.2.2.2.2.2.2.1).1
theorem Aci(h:FsOk F):Az Tryz.prog 114 (Ac Bo) (fun x=>Iz F x) (cT 3):=AS (tbl:=[At6 F h]) (dirty:=fun _=>[]) (n:=4) Ag Tryz.func114 rfl (fun x Post=>by
    refine Eq.trans (b:=?m) ?x (Eq.symm ?y)
    case y=>unfold Iz;simp only[<-CX (K:=PJ (cT 3) Post)];exact rfl
    case x=>kernel_rfl)
def Ajs(h:FsOk F):Ct Tryz.prog:=AH Tryz.prog 114 (Ac Bo) (fun x=>Iz F x) (cT 3) (Af Tryz.func114 (by kernel_rfl) (by kernel_rfl)) (Aci F h)
def Apv(c:Cra)(q:Tup 4×Tup 3):Tel:=(c.2.1,c.2.2.2.1.1,c.2.2.2.1.2.2.2.2.2.1,c.2.2.2.2.2.2.2.2.1,c.2.2.2.2.2.2.2.2.2.1,c.2.2.2.2.2.2.2.2.2.2.1,q.1.1,q.1.2.1,q.1.2.2.1,q.1.2.2.2.1,q.2.1,q.2.2.1,q.2.2.2.1,())
def noBytes:ByteArray:=⟨#[]⟩
def Nb(c:Cra):ByteArray:=if !(F.write (Apv c (F.counts (q4T c.2.2.2.2.2.2.2.1,Iz F c)))).2 then noBytes else(F.wrap (F.write (Apv c (F.counts (q4T c.2.2.2.2.2.2.2.1,Iz F c)))).1).1
theorem Ajt(h:FsOk F):Az Tryz.prog 79 (Ac Bo) (fun x=>Nb F x) cS:=AS (tbl:=[Ajs F h,Ace F h,Ajn F h,Apr F h]) (dirty:=fun _=>[]) (n:=4) Ag Tryz.func79 rfl (fun x Post=>by
    refine Eq.trans (b:=?m) ?x (Eq.symm ?y)
    case y=>unfold Nb;simp only[<-CX (K:=PJ cS Post)];exact rfl
    case x=>kernel_rfl)
def Apw(h:FsOk F):Ct Tryz.prog:=AH Tryz.prog 79 (Ac Bo) (fun x=>Nb F x) cS (Af Tryz.func79 (by kernel_rfl) (by kernel_rfl)) (Ajt F h)
def rejC(c:Cra):Cra:=(c.1,c.2.1,c.2.2.1,c.2.2.2.1,c.2.2.2.2.1,c.2.2.2.2.2.1,c.2.2.2.2.2.2.1,c.2.2.2.2.2.2.2.1,(c.2.2.2.2.2.2.2.2.1,c.2.2.2.2.2.2.2.2.2.1,SD c.2.2.2.2.2.2.2.2.2.2.1,()))
def senW(c:Cra)(h:Hea)(f:Fra)(t:Int):Cra×Hea:=
 if !(F.read f).2 then(rejC c,h)else if !(F.fresh ((F.read f).1,t))then(rejC c,h)else if decide ((F.read f).1.1=1)then(c,((F.read f).1,h.2.1,h.2.2.1,h.2.2.2))else if decide ((F.read f).1.1=2)then(c,(h.1,(F.read f).1,h.2.2.1,h.2.2.2))else if decide ((F.read f).1.1=3)then(c,(h.1,h.2.1,(F.read f).1,h.2.2.2))else(c,h)
theorem Mv(h:FsOk F):Az Tryz.prog 96 (Ad Bo (Ad Dq (Ad CG (Ac cI)))) (fun x=>senW F x.1 x.2.1 x.2.2.1 x.2.2.2) (AV Bo Dq):=AS (tbl:=[Aps F h,Ajo F h,Hg]) (dirty:=fun _=>[]) (n:=4) Ag Tryz.func96 rfl (fun x Post=>by
    refine Eq.trans (b:=?m) ?x (Eq.symm ?y)
    case y=>unfold senW;simp only[<-CX (K:=PJ (AV Bo Dq) Post)];exact rfl
    case x=>kernel_rfl)
def Ot(h:FsOk F):Ct Tryz.prog:=AH Tryz.prog 96 (Ad Bo (Ad Dq (Ad CG (Ac cI)))) (fun x=>senW F x.1 x.2.1 x.2.2.1 x.2.2.2) (AV Bo Dq) (Af Tryz.func96 (by kernel_rfl) (by kernel_rfl)) (Mv F h)
def Qr(c:Cra)(q e:Int):Cra:=(c.1,c.2.1,c.2.2.1,c.2.2.2.1,c.2.2.2.2.1,c.2.2.2.2.2.1,c.2.2.2.2.2.2.1,c.2.2.2.2.2.2.2.1,(q,e,c.2.2.2.2.2.2.2.2.2.2.1,()))
def At9(c:Cra)(o:Tup 7):Cra:=(c.1,c.2.1,c.2.2.1,c.2.2.2.1,true,o,c.2.2.2.2.2.2.1,c.2.2.2.2.2.2.2.1,c.2.2.2.2.2.2.2.2)
def Aua(c:Cra):Cra:=(c.1,c.2.1,c.2.2.1,(c.2.2.2.1.1,c.2.2.2.1.2.1,c.2.2.2.1.2.2.1,c.2.2.2.1.2.2.2.1,c.2.2.2.1.2.2.2.2.1,0,()),c.2.2.2.2.1,c.2.2.2.2.2.1,c.2.2.2.2.2.2.1,c.2.2.2.2.2.2.2.1,(c.2.2.2.2.2.2.2.2.1,c.2.2.2.2.2.2.2.2.2.1,0,()))
def ordC(c:Cra)(h:Hea)(o:Tup 9×Int):Cra×Hea:=
 if !decide (o.2=0)then(rejC (Qr c o.1.1 o.2),h)else if decide (o.1.2.1=1)then(Qr c o.1.1 o.2,(h.1,h.2.1,h.2.2.1,o.1.2.1))else if decide (o.1.2.1=2)then(Qr c o.1.1 o.2,(h.1,h.2.1,h.2.2.1,o.1.2.1))else if decide (o.1.2.1=3)then(At9 (Qr c o.1.1 o.2) o.1.2.2,h)else if decide (o.1.2.1=4)then(Aua (Qr c o.1.1 o.2),h)else(Qr c o.1.1 o.2,h)
theorem Mx(h:FsOk F):Az Tryz.prog 97 (Ad Bo (Ad Dq (Ac CG))) (fun x=>ordC x.1 x.2.1 (F.oread x.2.2)) (AV Bo Dq):=AS (tbl:=[Ajp F h,Hg]) (dirty:=fun _=>[]) (n:=4) Ag Tryz.func97 rfl (fun x Post=>by
    refine Eq.trans (b:=?m) ?x (Eq.symm ?y)
    case y=>unfold ordC;simp only[<-CX (K:=PJ (AV Bo Dq) Post)];exact rfl
    case x=>kernel_rfl)
def Ou(h:FsOk F):Ct Tryz.prog:=AH Tryz.prog 97 (Ad Bo (Ad Dq (Ac CG))) (fun x=>ordC x.1 x.2.1 (F.oread x.2.2)) (AV Bo Dq) (Af Tryz.func97 (by kernel_rfl) (by kernel_rfl)) (Mx F h)
end
end Go.Proofs.YtgmpfeaanjnhaaaGreatDoor
namespace Go.Proofs.YtgmpfeaanjnhaaaGreatDoor
def crcBit(r:Nat):Nat:=if 32768<=r then(2*r-65536) ^^^ 4129 else 2*r
def J9(r b:Nat):Nat:=crcBit (crcBit (crcBit (crcBit (crcBit (crcBit (crcBit (crcBit (r ^^^ b*256))))))))
def La(r:Nat)(l:List Nat):Nat:=l.foldl J9 r
theorem SJ(r b:Nat)(l:List Nat):La r (b::l)=La (J9 r b) l:=by unfold La;rw[List.foldl_cons]
theorem Ow{a b:Nat}(ha:a<65536)(hb:b<65536):a ^^^ b<65536:=Nat.xor_lt_two_pow (n:=16) ha hb
theorem Cw{r:Nat}(h:r<65536):crcBit r<65536:=by
 unfold crcBit
 split
 ·exact Ow (by omega) (by decide)
 ·omega
theorem SK{r b:Nat}(hr:r<65536)(hb:b<256):J9 r b<65536:=
 Cw (Cw (Cw (Cw (Cw (Cw (Cw (Cw (Ow hr (by omega)))))))))
theorem Acj{l:List Nat}(hl:∀b∈l,b<256):∀{r:Nat},r<65536->La r l<65536:=by
 induction l with
 |nil=>intro r h;exact h
 |cons b l ih=>intro r h;rw[SJ];exact ih (fun c hc=>hl c (List.mem_cons_of_mem _ hc)) (SK h (hl b List.mem_cons_self))
def FL(l:List UInt8):Nat:=La 65535 (l.map UInt8.toNat)
theorem Ox(l:List UInt8):FL l<65536:=Acj (by intro b hb;obtain⟨x,_,rfl⟩:=List.mem_map.1 hb;exact x.toNat_lt) (by decide)
def look(s:List UInt8):Option Nat:=
 if s.length=0 then none
 else if s.getD 0 0≠165 then some 0
 else if s.length<3 then none
 else if 64<(s.getD 2 0).toNat then some 0
 else if s.length<(s.getD 2 0).toNat+5 then none
 else if FL ((s.drop 1).take ((s.getD 2 0).toNat+2))=(s.getD ((s.getD 2 0).toNat+3) 0).toNat*256+(s.getD ((s.getD 2 0).toNat+4) 0).toNat then some ((s.getD 2 0).toNat+1)
 else some 0
theorem CK{s:List UInt8}{k:Nat}(h:look s=some k):1<=s.length/\(∀n,k=n+1->n+5<=s.length/\n=(s.getD 2 0).toNat/\n<=64):=by
 unfold look at h
 by_cases l0:s.length=0
 ·rw[if_pos l0]at h;cases h
 refine⟨by omega,fun n hn=>?_⟩
 subst hn
 rw[if_neg l0]at h
 by_cases c:s.getD 0 0≠165
 ·rw[if_pos c]at h;cases h
 rw[if_neg c]at h
 by_cases l3:s.length<3
 ·rw[if_pos l3]at h;cases h
 rw[if_neg l3]at h
 by_cases n64:64<(s.getD 2 0).toNat
 ·rw[if_pos n64]at h;cases h
 rw[if_neg n64]at h
 by_cases l5:s.length<(s.getD 2 0).toNat+5
 ·rw[if_pos l5]at h;cases h
 rw[if_neg l5]at h
 by_cases q:FL ((s.drop 1).take ((s.getD 2 0).toNat+2))=(s.getD ((s.getD 2 0).toNat+3) 0).toNat*256+(s.getD ((s.getD 2 0).toNat+4) 0).toNat
 ·rw[if_pos q]at h
  have:(s.getD 2 0).toNat+1=n+1:=Option.some.inj h
  exact⟨by omega,by omega,by omega⟩
 ·rw[if_neg q]at h;cases h
def BW:Nat->List UInt8->List (UInt8×List UInt8)×List UInt8×Nat
 |0,s=>([],s,0)
 |f+1,s=>match look s with
  |none=>([],s,0)
  |some 0=>((BW f (s.drop 1)).1,(BW f (s.drop 1)).2.1,(BW f (s.drop 1)).2.2+1)
  |some (n+1)=>((s.getD 1 0,(s.drop 3).take n)::(BW f (s.drop (n+5))).1,(BW f (s.drop (n+5))).2.1,(BW f (s.drop (n+5))).2.2)
theorem Ack:look []=none:=rfl
theorem Gw:∀f,BW f []=([],[],0)
 |0=>rfl
 |_+1=>rfl
theorem Hi{f:Nat}{s:List UInt8}(h:look s=none):BW f s=([],s,0):=by
 cases f with
 |zero=>rfl
 |succ f=>unfold BW;rw[h]
theorem Hj{f:Nat}{s:List UInt8}(h:look s=some 0):BW (f+1) s=((BW f (s.drop 1)).1,(BW f (s.drop 1)).2.1,(BW f (s.drop 1)).2.2+1):=by
 conv=>lhs;unfold BW
 rw[h]
theorem F8{f n:Nat}{s:List UInt8}(h:look s=some (n+1)):BW (f+1) s=((s.getD 1 0,(s.drop 3).take n)::(BW f (s.drop (n+5))).1,(BW f (s.drop (n+5))).2.1,(BW f (s.drop (n+5))).2.2):=by
 conv=>lhs;unfold BW
 rw[h]
theorem Hk:∀(f g:Nat) (s:List UInt8),s.length<=f->s.length<=g->BW f s=BW g s
 |0,g,s,h,_=>by
  obtain rfl:s=[]:=List.length_eq_zero_iff.1 (by omega)
  rw[Gw,Gw]
 |f+1,0,s,_,h=>by
  obtain rfl:s=[]:=List.length_eq_zero_iff.1 (by omega)
  rw[Gw,Gw]
 | f+1,g+1,s,hf,hg=>by
  cases e:look s with
  |none=>rw[Hi e,Hi e]
  |some k=>
   have l:=CK e
   cases k with
   |zero=>rw[Hj e,Hj e,Hk f g (s.drop 1) (by rw[List.length_drop];omega) (by rw[List.length_drop];omega)]
   |succ n=>rw[F8 e,F8 e,Hk f g (s.drop (n+5)) (by rw[List.length_drop];omega) (by rw[List.length_drop];omega)]
def scanL(s:List UInt8):List (UInt8×List UInt8)×List UInt8×Nat:=BW s.length s
theorem IA(s:List UInt8)(f:Nat)(h:s.length<=f):scanL s=BW f s:=Hk _ _ s (Nat.le_refl _) h
open Go.RowKit
def crcBits:Nat->Nat->Nat
 |0,r=>r
 |k+1,r=>crcBit (crcBits k r)
theorem Hl{r:Nat}(h:r<65536):∀k,crcBits k r<65536
 |0=>h
 |k+1=>Cw (Hl h k)
def JX(l:List UInt8)(k:Nat):Nat:=La 65535 ((l.take k).map UInt8.toNat)
theorem VZ(l:List UInt8)(k:Nat):JX l k<65536:=Ox (l.take k)
theorem Qs{r b:Nat}(hr:r<65536)(hb:b<256):bits .xor .u16 (r:Int) ((b:Int)*256)=((r ^^^ b*256:Nat):Int):=by
 rw[show(b:Int)*256=((b*256:Nat):Int)by omega,u16_xor_nat r (b*256) hr (by omega)]
theorem V0{x:Nat}(hx:x<65536)(h:((x:Int) / 32768==1)=true):bits .xor .u16 (IntKind.u16.wrap ((x:Int)*2)) 4129=(crcBit x:Nat):=by
 have h:(x:Int) / 32768=1:=by simpa using h
 rw[IntKind.wrap_u16,show((x:Int)*2) % 65536=((2*x-65536:Nat):Int)by omega]
 unfold crcBit
 rw[if_pos (by omega)]
 exact u16_xor_nat _ 4129 (by omega) (by decide)
theorem Acl{x:Nat}(hx:x<65536)(h:((x:Int) / 32768==1)=false):IntKind.u16.wrap ((x:Int)*2)=(crcBit x:Nat):=by
 have h:¬(x:Int) / 32768=1:=by simpa using h
 rw[IntKind.wrap_u16]
 unfold crcBit
 rw[if_neg (by omega)]
 omega
theorem Acm{x:Nat}(hx:x<65536)(h:32768<=(x:Int)):bits .xor .u16 (IntKind.u16.wrap ((x:Int)*2)) 4129=(crcBit x:Nat):=
 V0 hx (by rw[show(x:Int) / 32768=1 by omega];rfl)
theorem X0{x:Nat}(h:¬32768<=(x:Int)):(x:Int)*2=(crcBit x:Nat):=by
 unfold crcBit
 rw[if_neg (by omega)]
 omega
theorem Nc{s:ByteArray}{k b:Nat}(h:k<s.size)(hb:(s[k]'h).toNat=b):JX s.data.toList (k+1)=crcBits 8 (JX s.data.toList k ^^^ b*256):=by
 have hl:k<s.data.toList.length:=h
 have e:s.data.toList.take (k+1)=s.data.toList.take k++[s[k]'h]:=by
  rw[List.take_succ_eq_append_getElem hl]
  rfl
 unfold JX La
 rw[e,List.map_append,List.foldl_append,List.map_cons,List.map_nil,List.foldl_cons,List.foldl_nil,hb]
 unfold J9
 simp only[crcBits]
theorem Qt(s:ByteArray):JX s.data.toList s.size=FL s.data.toList:=by
 unfold JX FL
 rw[List.take_of_length_le (l:=s.data.toList) (i:=s.size) (Nat.le_refl _)]
set_option maxHeartbeats 1000000 in
set_option maxRecDepth 100000 in
theorem V1(s:ByteArray)(w:World)(hs:s.size<=5000):
    Calls Tryz.prog 90 #[.string s] w fun e w'=>e=.returned (.int .u16 (FL s.data.toList:Nat))/\w=w':=by
 go_enter Tryz.func90,Tryz.ntmps90
 go_wp2
 go_loop [3,8] (fun r i=>∃k:Nat,k<=s.size/\i=.int .i64 k/\r=.int .u16 (JX s.data.toList k:Nat)) (fun _ i=>s.size-(intOf i).toNat)
 case atStart=>exact⟨0,Nat.zero_le _,rfl,rfl⟩
 case round=>
  obtain⟨k,hk,rfl,rfl⟩:=hrel
  have hlt:=VZ s.data.toList k
  obtain⟨r,hr⟩:∃r,r=JX s.data.toList k:=⟨_,rfl⟩
  rw[<-hr]at hlt ⊢
  have HK:Hid (r=JX s.data.toList k):=hr
  clear hr
  by_cases hkl:k<s.size
  ·obtain⟨b,hb⟩:∃b,(s[k]'hkl).toNat=b:=⟨_,rfl⟩
   have hb8:b<256:=by rw[<-hb];exact(s[k]'hkl).toNat_lt
   obtain⟨R,hR⟩:∃R,R=r ^^^ b*256:=⟨_,rfl⟩
   have hRl:R<65536:=by rw[hR];exact Ow hlt (by omega)
   have e1:=Qs hlt hb8
   rw[<-hR]at e1
   have HR:Hid (R=r ^^^ b*256):=hR
   clear hR
   go_wp2
   go_loop [3,18] (fun v j=>∃n:Nat,n<=8/\j=.int .i64 n/\v=.int .u16 (crcBits n R:Nat)) (fun _ j=>8-(intOf j).toNat)
   case atStart=>exact⟨0,by omega,rfl,rfl⟩
   case round=>
    obtain⟨n,hn,rfl,rfl⟩:=hrel
    have hx:=Hl hRl n
    obtain⟨x,hxe⟩:∃x,x=crcBits n R:=⟨_,rfl⟩
    rw[<-hxe]at hx ⊢
    have HX:Hid (x=crcBits n R):=hxe
    clear hxe
    go_wp2
    ·go_round
     case rel=>exact⟨n+1,by omega,by go_num,by rw[V0 hx (by assumption)];show _=Value.int .u16 (crcBit (crcBits n R):Nat);rw[HX.out]⟩
     case measure=>simp[intOf];omega
    ·go_round
     case rel=>exact⟨n+1,by omega,by go_num,by rw[Acl hx (by assumption)];show _=Value.int .u16 (crcBit (crcBits n R):Nat);rw[HX.out]⟩
     case measure=>simp[intOf];omega
    ·go_round
     case rel=>
      obtain rfl:n=8:=by omega
      exact⟨k+1,by omega,by go_num,by rw[Nc hkl hb,HX.out,HR.out,HK.out]⟩
     case measure=>simp[intOf];omega
  ·go_wp2
   obtain rfl:k=s.size:=by omega
   go_ret
   exact⟨by rw[HK.out,Qt];rfl,rfl⟩
set_option maxHeartbeats 1000000 in
set_option maxRecDepth 100000 in
theorem Acn(s:ByteArray)(w:World)(hs:s.size<=5000):
    Calls Tryz.prog 55 #[.string s] w fun e w'=>e=.returned (.int .u16 (FL s.data.toList:Nat))/\w=w':=by
 go_enter Tryz.func55,Tryz.ntmps55
 go_wp2
 go_loop [3,4] (fun r i=>∃k:Nat,k<=s.size/\i=.int .i64 k/\r=.int .u16 (JX s.data.toList k:Nat)) (fun _ i=>s.size-(intOf i).toNat)
 case atStart=>exact⟨0,Nat.zero_le _,rfl,rfl⟩
 case round=>
  obtain⟨k,hk,rfl,rfl⟩:=hrel
  have hlt:=VZ s.data.toList k
  obtain⟨r,hr⟩:∃r,r=JX s.data.toList k:=⟨_,rfl⟩
  rw[<-hr]at hlt ⊢
  have HK:Hid (r=JX s.data.toList k):=hr
  clear hr
  by_cases hkl:k<s.size
  ·obtain⟨b,hb⟩:∃b,(s[k]'hkl).toNat=b:=⟨_,rfl⟩
   have hb8:b<256:=by rw[<-hb];exact(s[k]'hkl).toNat_lt
   obtain⟨R,hR⟩:∃R,R=r ^^^ b*256:=⟨_,rfl⟩
   have hRl:R<65536:=by rw[hR];exact Ow hlt (by omega)
   have e1:=Qs hlt hb8
   rw[<-hR]at e1
   have HR:Hid (R=r ^^^ b*256):=hR
   clear hR
   go_wp2
   go_loop [3,5] (fun v j=>∃n:Nat,n<=8/\j=.int .i64 n/\v=.int .u16 (crcBits n R:Nat)) (fun _ j=>8-(intOf j).toNat)
   case atStart=>exact⟨0,by omega,rfl,rfl⟩
   case round=>
    obtain⟨n,hn,rfl,rfl⟩:=hrel
    have hx:=Hl hRl n
    obtain⟨x,hxe⟩:∃x,x=crcBits n R:=⟨_,rfl⟩
    rw[<-hxe]at hx ⊢
    have HX:Hid (x=crcBits n R):=hxe
    clear hxe
    clear e1
    by_cases hn8:n<8
    ·by_cases c:32768<=(x:Int)
     ·go_wp2
      go_round
      case rel=>exact⟨n+1,by omega,by go_num,by rw[Acm hx c];show _=Value.int .u16 (crcBit (crcBits n R):Nat);rw[HX.out]⟩
      case measure=>simp[intOf];omega
     ·go_wp2
      go_round
      case rel=>exact⟨n+1,by omega,by go_num,by rw[X0 c];show _=Value.int .u16 (crcBit (crcBits n R):Nat);rw[HX.out]⟩
      case measure=>simp[intOf];omega
    ·go_wp2
     go_round
     case rel=>
      obtain rfl:n=8:=by omega
      exact⟨k+1,by omega,by go_num,by rw[Nc hkl hb,HX.out,HR.out,HK.out]⟩
     case measure=>simp[intOf];omega
  ·go_wp2
   obtain rfl:k=s.size:=by omega
   go_ret
   exact⟨by rw[HK.out,Qt];rfl,rfl⟩
end Go.Proofs.YtgmpfeaanjnhaaaGreatDoor
namespace Go.Proofs.YtgmpfeaanjnhaaaGreatDoor
def BN(k:UInt8)(d:List UInt8):List UInt8:=[k,UInt8.ofNat d.length]++d
def GQ(k:UInt8)(d:List UInt8):List UInt8:=[165]++BN k d++[UInt8.ofNat (FL (BN k d) / 256),UInt8.ofNat (FL (BN k d) % 256)]
theorem ofNat_toNat{n:Nat}(h:n<256):(UInt8.ofNat n).toNat=n:=by simp;omega
section
variable {l:List UInt8} {n:Nat}
theorem Aub(h:0<l.length)(c:(l.getD 0 0).toNat≠165):look l=some 0:=by
 unfold look
 rw[if_neg (by omega),if_pos (fun e=>c (by rw[e];rfl))]
theorem Auc(h:0<l.length)(c:(l.getD 0 0).toNat=165)(h3:l.length<3):look l=none:=by
 unfold look
 rw[if_neg (by omega),if_neg (by simpa [<-UInt8.toNat_inj]using c),if_pos h3]
theorem Aud(c:(l.getD 0 0).toNat=165)(h3:3<=l.length)(hn:(l.getD 2 0).toNat=n)(h:64<n):look l=some 0:=by
 unfold look
 rw[if_neg (by omega),if_neg (by simpa [<-UInt8.toNat_inj]using c),if_neg (by omega),if_pos (by omega)]
theorem Aue(c:(l.getD 0 0).toNat=165)(h3:3<=l.length)(hn:(l.getD 2 0).toNat=n)(h:n<=64)(h5:l.length<n+5):look l=none:=by
 unfold look
 rw[if_neg (by omega),if_neg (by simpa [<-UInt8.toNat_inj]using c),if_neg (by omega),if_neg (by omega),if_pos (by omega)]
theorem Auf(c:(l.getD 0 0).toNat=165)(hn:(l.getD 2 0).toNat=n)(h:n<=64)(h5:n+5<=l.length)
    (hq:FL ((l.drop 1).take (n+2))≠(l.getD (n+3) 0).toNat*256+(l.getD (n+4) 0).toNat):look l=some 0:=by
 unfold look
 rw[if_neg (by omega),if_neg (by simpa [<-UInt8.toNat_inj]using c),if_neg (by omega),if_neg (by omega),if_neg (by omega),hn,if_neg hq]
theorem Aug(c:(l.getD 0 0).toNat=165)(hn:(l.getD 2 0).toNat=n)(h:n<=64)(h5:n+5<=l.length)
    (hq:FL ((l.drop 1).take (n+2))=(l.getD (n+3) 0).toNat*256+(l.getD (n+4) 0).toNat):look l=some (n+1):=by
 unfold look
 rw[if_neg (by omega),if_neg (by simpa [<-UInt8.toNat_inj]using c),if_neg (by omega),if_neg (by omega),if_neg (by omega),hn,if_pos hq]
end
theorem Qu(k:UInt8)(d:List UInt8):GQ k d=165::k::UInt8.ofNat d.length::(d++[UInt8.ofNat (FL (BN k d) / 256),UInt8.ofNat (FL (BN k d) % 256)]):=by
 simp[GQ,BN]
theorem Oy(k:UInt8)(d:List UInt8):(GQ k d).length=d.length+5:=by
 rw[Qu]
 simp
theorem SL{l:List UInt8}(h:look l=none):scanL l=([],l,0):=Hi h
theorem SN{l:List UInt8}(h:look l=some 0):scanL l=((scanL (l.drop 1)).1,(scanL (l.drop 1)).2.1,(scanL (l.drop 1)).2.2+1):=by
 have L:=(CK h).1
 rw[IA l (l.length-1+1) (by omega),Hj h,<-IA (l.drop 1) _ (by rw[List.length_drop];omega)]
theorem Qv{l:List UInt8}{n:Nat}(h:look l=some (n+1)):scanL l=((l.getD 1 0,(l.drop 3).take n)::(scanL (l.drop (n+5))).1,(scanL (l.drop (n+5))).2.1,(scanL (l.drop (n+5))).2.2):=by
 have L:=(CK h).2 n rfl
 rw[IA l (l.length-1+1) (by omega),F8 h,<-IA (l.drop (n+5)) _ (by rw[List.length_drop];omega)]
open Go.RowKit
set_option maxRecDepth 100000
set_option maxHeartbeats 20000000
theorem Fu{s:ByteArray}{i:Nat}(h:i<s.size):s.data.toList.getD i 0=s[i]'h:=by
 have hl:i<s.data.toList.length:=h
 rw[List.getD_eq_getElem?_getD,List.getElem?_eq_getElem hl]
 rfl
theorem Apx{a b:Nat}(ha:a<256)(hb:b<256):bits .or .u16 ((a:Int)*256) (b:Int)=((a*256+b:Nat):Int):=by
 rw[show(a:Int)*256=((a*256:Nat):Int)by omega,u16_or_nat (a*256) b (by omega) (by omega)]
 have:=Nat.two_pow_add_eq_or_of_lt (i:=8) (show b<2^8 by omega) a
 rw[show a*256=2^8*a by omega,<-this]
theorem Cx(s:ByteArray)(a b:Nat):(s.extract a b).data.toList=(s.data.toList.drop a).take (b-a):=Lib.extract_data s a b
theorem Dw{s:ByteArray}(h:s.size≠0):s.toList.isEmpty=false:=by
 rw[Lib.toList_data]
 cases e:s.data.toList with
 |nil=>exact absurd (by rw[Lib.size_eq,e];rfl) h
 |cons a l=>rfl
def Nf:Option Nat->Int×Int
 |none=>(1,0)
 |some 0=>(0,0)
 |some (n+1)=>(2,(n:Int)+5)
def EV(l:List UInt8):Int×Int:=if l.length=0 then(0,0)else Nf (look l)
theorem Da{l:List UInt8}{r:Option Nat}(h:0<l.length)(hr:look l=r):EV l=Nf r:=by
 unfold EV
 rw[if_neg (by omega),hr]
theorem JE{w:World}{n:Nat}:Below w.heap.size w (w.drewN n):=below_drewN (Below.refl _ _) n
theorem Hm{w w1:World}(hb1:Below (w.alloc (.cells #[.int .i64 0,.string ⟨#[]⟩] 77)).heap.size (w.alloc (.cells #[.int .i64 0,.string ⟨#[]⟩] 77)) w1):w1.cell? ⟨w.heap.size,0,none⟩=some (.int .i64 0):=(hb1.cell (by simp)).trans (by simp)
theorem Hn{w w1:World}(hb1:Below (w.alloc (.cells #[.int .i64 0,.string ⟨#[]⟩] 77)).heap.size (w.alloc (.cells #[.int .i64 0,.string ⟨#[]⟩] 77)) w1):w1.cell? ⟨w.heap.size,1,none⟩=some (.string ⟨#[]⟩):=(hb1.cell (by simp)).trans (by simp)
theorem Ho{w w1:World}(hb1:Below (w.alloc (.cells #[.int .i64 0,.string ⟨#[]⟩] 77)).heap.size (w.alloc (.cells #[.int .i64 0,.string ⟨#[]⟩] 77)) w1):w1.frozen? ⟨w.heap.size,0,none⟩=false:=(hb1.frozen (by simp)).trans (by simp)
theorem Hp{w w1:World}(hb1:Below (w.alloc (.cells #[.int .i64 0,.string ⟨#[]⟩] 77)).heap.size (w.alloc (.cells #[.int .i64 0,.string ⟨#[]⟩] 77)) w1):w1.frozen? ⟨w.heap.size,1,none⟩=false:=(hb1.frozen (by simp)).trans (by simp)
theorem Hq{w w1:World}(hb1:Below (w.alloc (.cells #[.int .i64 0,.string ⟨#[]⟩] 77)).heap.size (w.alloc (.cells #[.int .i64 0,.string ⟨#[]⟩] 77)) w1):Below w.heap.size w w1:=((Below.refl _ w).alloc (Nat.le_refl _) _).trans (hb1.mono (by simp))
theorem Ya(s:ByteArray)(w:World)(n:Nat)(hs:s.size<=5000):
    Calls Tryz.prog 90 #[.string s] (w.drewN n) fun e w'=>e=.returned (.int .u16 (FL s.data.toList:Nat))/\∃m,w'=w.drewN m:=
 (V1 s _ hs).mono fun _ _ ⟨he,hw⟩=>⟨he,n,hw.symm⟩
theorem Qw(s:ByteArray)(w:World):
    Calls Tryz.prog 116 #[.string s] w fun e w'=>e=.returned (.tuple #[.int .i64 (EV s.data.toList).1,.int .i64 (EV s.data.toList).2])/\Below w.heap.size w w':=by
 have hlen:s.data.toList.length=s.size:=rfl
 by_cases h0:s.size=0
 ·have e:EV s.data.toList=(0,0):=by unfold EV;rw[if_pos (by omega)]
  rw[e]
  obtain rfl:s=⟨#[]⟩:=by apply ByteArray.ext;exact Array.eq_empty_of_size_eq_zero h0
  go_enter Tryz.func116,Tryz.ntmps116
  go_wp2
  go_ret2
  exact⟨rfl,Below.refl _ _⟩
 have l0:0<s.size:=by omega
 obtain⟨b0,hb0⟩:∃b,(s[0]'l0).toNat=b:=⟨_,rfl⟩
 have g0:(s.data.toList.getD 0 0).toNat=b0:=by rw[Fu l0,hb0]
 have hne:s.toList.isEmpty=false:=Dw h0
 have G0:Hid ((s.data.toList.getD 0 0).toNat=b0):=g0
 clear g0
 by_cases c0:b0=165
 case neg=>
  rw[Da (by omega) (Aub (by omega) (by rw[G0.out];exact c0))]
  have c0':((b0:Int) != 165)=true:=by simp;omega
  go_enter Tryz.func116,Tryz.ntmps116
  go_wp2
  go_ret2
  exact⟨rfl,Below.refl _ _⟩
 rw[c0]at G0 hb0
 clear c0 b0
 by_cases h3:s.size<3
 case pos=>
  rw[Da (by omega) (Auc (by omega) G0.out (by omega))]
  go_enter Tryz.func116,Tryz.ntmps116
  go_wp2
  go_ret2
  exact⟨rfl,Below.refl _ _⟩
 have l2:2<s.size:=by omega
 obtain⟨n,hn⟩:∃b,(s[2]'l2).toNat=b:=⟨_,rfl⟩
 have hn8:n<256:=by rw[<-hn];exact(s[2]'l2).toNat_lt
 have G2:Hid ((s.data.toList.getD 2 0).toNat=n):=by show _=_;rw[Fu l2,hn]
 by_cases h64:64<n
 case pos=>
  rw[Da (by omega) (Aud G0.out (by omega) G2.out h64)]
  go_enter Tryz.func116,Tryz.ntmps116
  go_wp2
  go_ret2
  exact⟨rfl,Below.refl _ _⟩
 by_cases h5:s.size<n+5
 case pos=>
  rw[Da (by omega) (Aue G0.out (by omega) G2.out (by omega) (by omega))]
  go_enter Tryz.func116,Tryz.ntmps116
  go_wp2
  go_ret2
  exact⟨rfl,Below.refl _ _⟩
 have l3:3+n<s.size:=by omega
 have l4:3+n+1<s.size:=by omega
 obtain⟨p,hp⟩:∃b,(s[3+n]'l3).toNat=b:=⟨_,rfl⟩
 obtain⟨q,hq⟩:∃b,(s[3+n+1]'l4).toNat=b:=⟨_,rfl⟩
 have hp8:p<256:=by rw[<-hp];exact(s[3+n]'l3).toNat_lt
 have hq8:q<256:=by rw[<-hq];exact(s[3+n+1]'l4).toNat_lt
 have G3:Hid ((s.data.toList.getD (n+3) 0).toNat=p):=by show _=_;rw[show n+3=3+n by omega,Fu l3,hp]
 have G4:Hid ((s.data.toList.getD (n+4) 0).toNat=q):=by show _=_;rw[show n+4=3+n+1 by omega,Fu l4,hq]
 have HS:Hid ((s.extract 1 (3+n)).data.toList=(s.data.toList.drop 1).take (n+2)):=by show _=_;rw[Cx,show 3+n-1=n+2 by omega]
 have hsz:(s.extract 1 (3+n)).size<=5000:=by rw[ByteArray.size_extract];omega
 have hj:=Apx hp8 hq8
 obtain⟨j,hje⟩:∃j,j=p*256+q:=⟨_,rfl⟩
 rw[<-hje]at hj
 have HJ:Hid (j=p*256+q):=hje
 clear hje
 obtain⟨S,hS⟩:∃S,S=FL (s.extract 1 (3+n)).data.toList:=⟨_,rfl⟩
 have hsum:∀m,Calls Tryz.prog 90 #[.string (s.extract 1 (3+n))] (w.drewN m) fun e w'=>e=.returned (.int .u16 (S:Nat))/\∃m,w'=w.drewN m:=fun m=>by
  rw[hS]
  exact Ya _ _ _ hsz
 have hsl:∀W:World,(Instr.slice 9 (.string s) (some (.int .i64 1)) (some (.int .i64 (3+(n:Int)))) none).run Tryz.prog W=.ok (.string (s.extract 1 (3+n))) W:=fun W=>by
  rw[run_slice_string W 9 s .i64 .i64 1 (3+(n:Int)) Tryz.underlying9 (by omega) (by omega) (by omega),show(3+(n:Int)).toNat=3+n by omega]
  rfl
 have hi3:∀W:World,(Instr.index 9 (.string s) (.int .i64 (3+(n:Int)))).run Tryz.prog W=.ok (.int .u8 (p:Nat)) W:=fun W=>by
  rw[run_index_string W 9 s .i64 (3+(n:Int)) Tryz.underlying9,dif_pos (by omega)]
  have:(3+(n:Int)).toNat=3+n:=by omega
  simp only[this,hp]
 have hi4:∀W:World,(Instr.index 9 (.string s) (.int .i64 (3+(n:Int)+1))).run Tryz.prog W=.ok (.int .u8 (q:Nat)) W:=fun W=>by
  rw[run_index_string W 9 s .i64 (3+(n:Int)+1) Tryz.underlying9,dif_pos (by omega)]
  have:(3+(n:Int)+1).toNat=3+n+1:=by omega
  simp only[this,hq]
 have HS':Hid (S=FL ((s.data.toList.drop 1).take (n+2))):=by show _=_;rw[hS,HS.out]
 clear hS hsz HS hp hq
 by_cases hs:S=j
 ·rw[Da (by omega) (Aug G0.out G2.out (by omega) (by omega) (by rw[G3.out,G4.out,<-HJ.out,<-HS'.out];exact hs))]
  have ht:((S:Int) != (j:Int))=false:=by simp;omega
  have HH:Hid (S=j):=hs
  clear hs
  go_enter Tryz.func116,Tryz.ntmps116
  go_wp2
  go_quiet ((go_at_call 90;exact hsum _))
  go_wp2
  go_ret2
  refine⟨?_,JE⟩
  show _=Ending.returned (.tuple #[.int .i64 2,.int .i64 ((n:Int)+5)])
  rw[show(n:Int)+5=3+n+2 by omega]
  rfl
 ·rw[Da (by omega) (Auf G0.out G2.out (by omega) (by omega) (by rw[G3.out,G4.out,<-HJ.out,<-HS'.out];exact hs))]
  have ht:((S:Int) != (j:Int))=true:=by simp;omega
  go_enter Tryz.func116,Tryz.ntmps116
  go_wp2
  go_quiet ((go_at_call 90;exact hsum _))
  go_wp2
  go_ret2
  exact⟨rfl,JE⟩
end Go.Proofs.YtgmpfeaanjnhaaaGreatDoor
namespace Go.Proofs.YtgmpfeaanjnhaaaGreatDoor
open Go.RowKit
def cellsOf(l:List (UInt8×List UInt8)):List Value:=l.flatMap fun x=>[.int .i64 (x.1.toNat:Nat),.string ⟨x.2.toArray⟩]
theorem Lb(l:List (UInt8×List UInt8)):(cellsOf l).length=l.length*2:=by
 induction l with
 |nil=>rfl
 |cons x l ih=>simp only[cellsOf,List.flatMap_cons,List.length_append,List.length_cons,List.length_nil]at ih ⊢;omega
theorem Lc(l m:List (UInt8×List UInt8)):cellsOf (l++m)=cellsOf l++cellsOf m:=by simp[cellsOf]
theorem Hr:∀(l:List (UInt8×List UInt8)) (i:Nat) (h:i<l.length),(cellsOf l)[i*2]? =some (.int .i64 (l[i].1.toNat:Nat))/\(cellsOf l)[i*2+1]? =some (.string ⟨l[i].2.toArray⟩)
 |x::l,0,_=>⟨rfl,rfl⟩
 |x::l,i+1,h=>by
  have:=Hr l i (by simpa using h)
  have e:cellsOf (x::l)=[.int .i64 (x.1.toNat:Nat),.string ⟨x.2.toArray⟩]++cellsOf l:=rfl
  rw[e,show(i+1)*2=i*2+2 by omega]
  exact this
def Dx(B:Nat)(w:World)(v:Value)(l:List (UInt8×List UInt8)):Prop:=w.ownsRow B 77 2 v l.length (cellsOf l)
theorem Dx.below{B:Nat}{w w':World}{v:Value}{l:List (UInt8×List UInt8)}(h:Dx B w v l)(hb:Below w.heap.size w w'):Dx B w' v l:=by
 refine⟨h.1,?_⟩
 rcases h.2 with hn |⟨g,cap,cur,rfl,hg,hgg,rest⟩
 ·exact .inl hn
 ·exact .inr ⟨g,cap,cur,rfl,hg,by rw[hb.block g (Array.getElem?_eq_some_iff.1 hgg).1];exact hgg,rest⟩
theorem Dx.base{B B':Nat}{w:World}{v:Value}{l:List (UInt8×List UInt8)}(h:Dx B' w v l)(hB:B<=B'):Dx B w v l:=
 ⟨h.1,h.2.imp id (fun⟨g,cap,cur,a,b,c⟩=>⟨g,cap,cur,a,Nat.le_trans hB b,c⟩)⟩
theorem Dx.shape{B:Nat}{w:World}{v:Value}{l:List (UInt8×List UInt8)}(h:Dx B w v l):
    ∃ (a:Option Addr) (c:Nat),v=.slice a l.length c/\l.length<=c/\(l≠[]->∃g,a=some ⟨g,0,none⟩/\B<=g/\g<w.heap.size/\
      ∀i (hi:i<l.length),w.cell? ⟨g,i*2,none⟩=some (.int .i64 (l[i].1.toNat:Nat))/\w.cell? ⟨g,i*2+1,none⟩=some (.string ⟨l[i].2.toArray⟩)):=by
 have H:=h
 rcases h.2 with⟨rfl,h0⟩|⟨g,cap,cur,rfl,hg,hgg,hn,rest⟩
 ·exact⟨none,0,by rw[h0],by omega,fun hne=>absurd (List.length_eq_zero_iff.1 h0) hne⟩
 ·refine⟨some ⟨g,0,none⟩,cap,rfl,hn,fun _=>⟨g,rfl,hg,(Array.getElem?_eq_some_iff.1 hgg).1,fun i hi=>?_⟩⟩
  have H':w.ownsRow B 77 2 (.slice (some ⟨g,0,none⟩) l.length cap) l.length (cellsOf l):=H
  have c:=Hr l i hi
  exact⟨(H'.cellAt (i*2) (by omega)).trans c.1,(H'.cellAt (i*2+1) (by omega)).trans c.2⟩
theorem SO:(Tryz.prog.info? 77).map (fun i=>(i.zero,i.size,i.bytes))=some (some (.agg #[.int .i64 0,.string ⟨#[]⟩]),2,24):=by kernel_rfl
theorem Oz(w:World)(x y:Value)(t:TypeId):∀j u,[x,y][j]? =some u->(w.alloc (.cells #[x,y] t)).cell? ((⟨w.heap.size,0,none⟩:Addr).add j)=some u:=by
 intro j u hj
 match j,hj with
 |0,hj=>simp at hj;subst hj;simp[Addr.add]
 |1,hj=>simp at hj;subst hj;simp[Addr.add]
 |(j+2),hj=>simp at hj
def Apy:Value->Nat
 | .string t=>t.size
 |_=>0
theorem Aju{s:ByteArray}{l:List UInt8}(h:s.data.toList=l):s=⟨l.toArray⟩:=ByteArray.ext (Array.toList_inj.1 (by rw[h]))
def Ajv(L:List UInt8)(w:World)(e:Ending)(w':World):Prop:=
 ∃(v:Value) (r:ByteArray),e=.returned (.tuple #[v,.string r,.int .i64 ((scanL L).2.2:Nat)])/\r.data.toList=(scanL L).2.1/\Dx w.heap.size w' v (scanL L).1/\Below w.heap.size w w'
def Ep(L:List UInt8)(acc:List (UInt8×List UInt8))(t:List UInt8)(o:Nat):Prop:=
 scanL L=(acc++(scanL t).1,(scanL t).2.1,o+(scanL t).2.2)/\acc.length+t.length+o<=L.length
theorem Ep.start(L:List UInt8):Ep L [] L 0:=⟨by simp,by simp⟩
theorem Ep.skip{L t:List UInt8}{acc:List (UInt8×List UInt8)}{o:Nat}(h:Ep L acc t o)(hl:look t=some 0):Ep L acc (t.drop 1) (o+1):=by
 have l:=(CK hl).1
 refine⟨by rw[h.1,SN hl];simp;omega,?_⟩
 have:=h.2
 rw[List.length_drop]
 omega
theorem Ep.frame{L t:List UInt8}{acc:List (UInt8×List UInt8)}{o n:Nat}(h:Ep L acc t o)(hl:look t=some (n+1)):Ep L (acc++[(t.getD 1 0,(t.drop 3).take n)]) (t.drop (n+5)) o:=by
 have l:=((CK hl).2 n rfl).1
 refine⟨by rw[h.1,Qv hl];simp,?_⟩
 have:=h.2
 rw[List.length_drop,List.length_append]
 simp
 omega
theorem Ep.stop{L t:List UInt8}{acc:List (UInt8×List UInt8)}{o:Nat}(h:Ep L acc t o)(hl:look t=none):scanL L=(acc,t,o):=by
 rw[h.1,SL hl]
 simp
open Go.Shelf
def cloneRen:Go.Shelf.Ren:=⟨fun |316=>207 |n=>n,fun |9=>9 |3=>3 |4=>4 |37=>56 |0=>0 |127=>92 |5=>5 |n=>n,fun |n=>n⟩
theorem Yc:Go.Proofs.LaysM.n316 Tryz.prog cloneRen:={
 mixed:=by kernel_rfl
 f316:=Tryz.func207.trans (congrArg some (by kernel_rfl))
 t0:=Tryz.underlying0
 a0:=Tryz.isAgg0
 z0:=Tryz.sizeOf0
 v0:=Tryz.zeroValue0
 t3:=Tryz.underlying3
 a3:=Tryz.isAgg3
 z3:=Tryz.sizeOf3
 v3:=Tryz.zeroValue3
 t4:=Tryz.underlying4
 a4:=Tryz.isAgg4
 z4:=Tryz.sizeOf4
 v4:=Tryz.zeroValue4
 t9:=Tryz.underlying9
 a9:=Tryz.isAgg9
 z9:=Tryz.sizeOf9
 v9:=Tryz.zeroValue9
 t37:=Tryz.underlying56
 a37:=Tryz.isAgg56
 z37:=Tryz.sizeOf56
 v37:=Tryz.zeroValue56
 t127:=Tryz.underlying92
 a127:=Tryz.isAgg92
 z127:=Tryz.sizeOf92
 v127:=Tryz.zeroValue92
 t5:=Tryz.underlying5
 a5:=Tryz.isAgg5
 z5:=Tryz.sizeOf5
 v5:=Tryz.zeroValue5
 i0:=by kernel_rfl
 i3:=by kernel_rfl
 i4:=by kernel_rfl
 i5:=by kernel_rfl
 i9:=by kernel_rfl
 i37:=by kernel_rfl
 i127:=by kernel_rfl}
theorem Aco(s:ByteArray)(w:World)(h:s.size<=281474976710656):
    Calls Tryz.prog 207 #[.string s] w fun e w'=>e=.returned (.string s)/\Below w.heap.size w w':=Any.stringslite_Clone Yc s w h
theorem Ng(s:ByteArray)(w:World)(h:s.size<=281474976710656):
    Calls Tryz.prog 132 #[.string s] w fun e w'=>e=.returned (.string s)/\Below w.heap.size w w':=by
 go_enter Tryz.func132,Tryz.ntmps132
 go_wp2_with (go_at_call 207;refine(Aco s _ h).mono ?_;rintro e w' ⟨rfl,hb⟩)
 go_ret
 exact⟨rfl,hb⟩
end Go.Proofs.YtgmpfeaanjnhaaaGreatDoor
namespace Go.Proofs.YtgmpfeaanjnhaaaGreatDoor
open Go.RowKit
set_option maxHeartbeats 1000000 in
set_option maxRecDepth 100000 in
theorem Ld(s:ByteArray)(k:Nat)(w:World)(h5:5<=s.size)(hm:s.size<=5000)(hk:(s[1]'(by omega)).toNat=k):
    Calls Tryz.prog 117 #[.string s] w fun e w'=>e=.returned (.agg #[.int .i64 (k:Nat),.string (s.extract 3 (s.size-2))])/\Below w.heap.size w w':=by
 have hk8:k<256:=by rw[<-hk];exact(s[1]'(by omega)).toNat_lt
 have hsz:(s.extract 3 (s.size-2)).size<=281474976710656:=by rw[ByteArray.size_extract];omega
 have hsl:∀W:World,(Instr.slice 9 (.string s) (some (.int .i64 3)) (some (.int .i64 ((s.size:Int)-2))) none).run Tryz.prog W=.ok (.string (s.extract 3 (s.size-2))) W:=fun W=>by
  rw[run_slice_string W 9 s .i64 .i64 3 ((s.size:Int)-2) Tryz.underlying9 (by omega) (by omega) (by omega),show((s.size:Int)-2).toNat=s.size-2 by omega]
  rfl
 have hcl:=fun W=>Ng (s.extract 3 (s.size-2)) W hsz
 have hw:IntKind.i64.wrap ((s.size:Int)-2)=(s.size:Int)-2:=by rw[IntKind.wrap_i64];omega
 have hv:IntKind.i64.wrap (k:Int)=(k:Int):=by rw[IntKind.wrap_i64];omega
 go_enter Tryz.func117,Tryz.ntmps117
 go_wp2
 go_region_with (go_at_call 132;refine(hcl _).mono ?_;rintro e w1 ⟨rfl,hb1⟩;have k0:w1.cell? ⟨w.heap.size,0,none⟩=some (.int .i64 0):=(hb1.cell (by simp)).trans (by simp);have k1:w1.cell? ⟨w.heap.size,1,none⟩=some (.string ⟨#[]⟩):=(hb1.cell (by simp)).trans (by simp);have f0:w1.frozen? ⟨w.heap.size,0,none⟩=false:=(hb1.frozen (by simp)).trans (by simp);have f1:w1.frozen? ⟨w.heap.size,1,none⟩=false:=(hb1.frozen (by simp)).trans (by simp))
 all_goals
  go_wp2
  have hb0:Below w.heap.size w (w.alloc (.cells #[.int .i64 0,.string ⟨#[]⟩] 77)).drew:=((Below.refl _ w).alloc (Nat.le_refl _) _).drew
  have hb2:Below w.heap.size w w1:=hb0.trans (hb1.mono (by simp))
  refine bodyPost_ret (v:=.agg #[.int .i64 (k:Nat),.string (s.extract 3 (s.size-2))]) (by simp[results,Tryz.results117,go_sem,k0,k1]) rfl ⟨rfl,?_⟩
  exact(hb2.setCell (Nat.le_refl _) _).setCell (Nat.le_refl _) _
def openS(s:ByteArray):Int×ByteArray×Bool:=if EV s.data.toList=(2,(s.size:Int))then(((s.data.toList.getD 1 0).toNat:Int),s.extract 3 (s.size-2),true)else(0,⟨#[]⟩,false)
theorem Yd{l:List UInt8}{b:Int}(h:EV l=(2,b)):∃n:Nat,look l=some (n+1)/\b=(n:Int)+5:=by
 unfold EV at h
 split at h
 ·cases h
 ·cases e:look l with
  |none=>rw[e]at h;cases h
  | some k=>
   cases k with
   |zero=>rw[e]at h;cases h
   |succ n=>
    rw[e]at h
    exact⟨n,rfl,by have:=congrArg Prod.snd h;simpa [Nf]using this.symm⟩
theorem Acp{s:ByteArray}(h:EV s.data.toList=(2,(s.size:Int))):5<=s.size/\s.size<=5000:=by
 obtain⟨n,hn,hb⟩:=Yd h
 have:=(CK hn).2 n rfl
 omega
set_option maxHeartbeats 1000000 in
set_option maxRecDepth 100000 in
theorem Acr(s:ByteArray)(w:World):
    Calls Tryz.prog 80 #[.string s] w fun e w'=>e=.returned (.tuple #[.agg #[.int .i64 (openS s).1,.string (openS s).2.1],.bool (openS s).2.2])/\Below w.heap.size w w':=by
 have hlk:=Qw s
 by_cases h:EV s.data.toList=(2,(s.size:Int))
 ·have e:openS s=(((s.data.toList.getD 1 0).toNat:Int),s.extract 3 (s.size-2),true):=by unfold openS;rw[if_pos h]
  obtain⟨h5,hm⟩:=Acp h
  obtain⟨k,hk⟩:∃k,(s[1]'(by omega)).toNat=k:=⟨_,rfl⟩
  rw[Fu (show 1<s.size by omega),hk]at e
  rw[h]at hlk
  have hun:=fun W=>Ld s k W h5 hm hk
  rw[e]
  clear h e
  generalize s.extract 3 (s.size-2)=d at *
  have ht:((s.size:Int) != (s.size:Int))=false:=by simp
  go_enter Tryz.func80,Tryz.ntmps80
  go_wp2_with (first
   |(go_at_call 116;refine(hlk _).mono ?_;rintro e w1 ⟨rfl,hb1⟩)
   |(go_at_call 117;refine(hun _).mono ?_;rintro e w2 ⟨rfl,hb2⟩;have hb3:=hb1.trans (hb2.mono hb1.size);have k0:=Hm hb3;have k1:=Hn hb3;have f0:=Ho hb3;have f1:=Hp hb3))
  refine bodyPost_ret (v:=.tuple #[.agg #[.int .i64 (k:Nat),.string d],.bool true]) (by simp[results_cell_tmp Tryz.results80,asAddr,go_sem,k0,k1]) rfl ⟨rfl,?_⟩
  exact((Hq hb3).setCell (Nat.le_refl _) _).setCell (Nat.le_refl _) _
 ·have e:openS s=(0,⟨#[]⟩,false):=by unfold openS;rw[if_neg h]
  rw[e]
  obtain⟨a,ha⟩:∃a,a=(EV s.data.toList).1:=⟨_,rfl⟩
  obtain⟨b,hb⟩:∃b,b=(EV s.data.toList).2:=⟨_,rfl⟩
  have hab:¬(a=2/\b=(s.size:Int)):=fun⟨x,y⟩=>h (by rw[ha]at x;rw[hb]at y;exact Prod.ext x y)
  rw[<-ha,<-hb]at hlk
  clear ha hb h e
  by_cases c:a=2
  ·have c1:(b != (s.size:Int))=true:=by simp;exact fun y=>hab ⟨c,y⟩
   subst c
   clear hab
   go_enter Tryz.func80,Tryz.ntmps80
   go_wp2_with (go_at_call 116;refine(hlk _).mono ?_;rintro e w1 ⟨rfl,hb1⟩;have k0:=Hm hb1;have k1:=Hn hb1;have f0:=Ho hb1;have f1:=Hp hb1)
   refine bodyPost_ret (v:=.tuple #[.agg #[.int .i64 0,.string ⟨#[]⟩],.bool false]) (by simp[results_cell_tmp Tryz.results80,asAddr,go_sem,k0,k1]) rfl ⟨rfl,?_⟩
   exact((Hq hb1).setCell (Nat.le_refl _) _).setCell (Nat.le_refl _) _
  ·have c1:(a != 2)=true:=by simp;exact c
   clear hab c
   go_enter Tryz.func80,Tryz.ntmps80
   go_wp2_with (go_at_call 116;refine(hlk _).mono ?_;rintro e w1 ⟨rfl,hb1⟩;have k0:=Hm hb1;have k1:=Hn hb1;have f0:=Ho hb1;have f1:=Hp hb1)
   refine bodyPost_ret (v:=.tuple #[.agg #[.int .i64 0,.string ⟨#[]⟩],.bool false]) (by simp[results_cell_tmp Tryz.results80,asAddr,go_sem,k0,k1]) rfl ⟨rfl,?_⟩
   exact((Hq hb1).setCell (Nat.le_refl _) _).setCell (Nat.le_refl _) _
set_option maxHeartbeats 4000000 in
set_option maxRecDepth 100000 in
theorem Acs(s:ByteArray)(w:World)(hs:s.size<=5000):
    Calls Tryz.prog 94 #[.string s] w fun e w'=>Ajv s.data.toList w e w':=by
 obtain⟨i0,hi,hz0,hz1,hz2⟩:=info_parts SO
 have hL:s.data.toList.length<=5000:=hs
 generalize hLe:s.data.toList=L at hL ⊢
 have HS:Hid (s.data.toList=L):=hLe
 clear hLe
 go_enter Tryz.func94,Tryz.ntmps94
 go_wp2
 go_loopw [0,5,6] (fun sv v ov wr=>∃(t:ByteArray) (acc:List (UInt8×List UInt8)) (o:Nat),sv=.string t/\ov=.int .i64 o/\Ep L acc t.data.toList o/\Dx w.heap.size wr v acc/\Below w.heap.size w wr)
  (fun sv _ _ _=>Apy sv)
 case atStart=>exact⟨s,[],0,rfl,rfl,by rw[HS.out];exact Ep.start L,World.ownsRow_nil _ _ _ _,Below.refl _ _⟩
 case round=>
  obtain⟨t,acc,o,rfl,rfl,hf,hown,hnx⟩:=hrel
  have htl:t.data.toList.length=t.size:=rfl
  have hbd:=hf.2
  have HF:Hid (Ep L acc t.data.toList o):=hf
  have HO:Hid (Dx w.heap.size wr u5 acc):=hown
  clear hf hown
  by_cases h0:t.size=0
  ·obtain rfl:t=⟨#[]⟩:=ByteArray.ext (Array.eq_empty_of_size_eq_zero h0)
   have HE:Hid (scanL L=(acc,[],o)):=HF.out.stop Ack
   go_wp2
   go_ret3
   exact⟨_,⟨#[]⟩,by rw[HE.out];rfl,by rw[HE.out],by rw[HE.out];exact HO.out,hnx⟩
  have hne:t.toList.isEmpty=false:=Dw h0
  have hlk:=Qw t
  cases hlo:look t.data.toList with
  |none=>
   rw[Da (by omega) hlo,show Nf none=(1,0)from rfl]at hlk
   have HE:Hid (scanL L=(acc,t.data.toList,o)):=HF.out.stop hlo
   clear hlo
   go_wp2_with (first |(go_at_call 116;refine(hlk _).mono ?_;rintro e w1 ⟨rfl,hb1⟩)|(go_at_call 132;refine(Ng t _ (by omega)).mono ?_;rintro e w2 ⟨rfl,hb2⟩))
   go_ret3
   have hb3:=hb1.trans (hb2.mono hb1.size)
   exact⟨_,t,by rw[HE.out];rfl,by rw[HE.out],by rw[HE.out];exact HO.out.below hb3,hnx.trans (hb3.mono hnx.size)⟩
  | some j=>
   cases j with
   | zero=>
    rw[Da (by omega) hlo,show Nf (some 0)=(0,0)from rfl]at hlk
    have HE:Hid (Ep L acc (t.data.toList.drop 1) (o+1)):=HF.out.skip hlo
    have hsl:∀W:World,(Instr.slice 9 (.string t) (some (.int .i64 1)) none none).run Tryz.prog W=.ok (.string (t.extract 1 t.size)) W:=fun W=>by
     rw[run_slice_string_from_if W 9 t .i64 1 Tryz.underlying9,if_pos (by omega)]
     rfl
    obtain⟨u,hu⟩:∃u:ByteArray,u=t.extract 1 t.size:=⟨_,rfl⟩
    rw[<-hu]at hsl
    have hul:Hid (u.data.toList=t.data.toList.drop 1):=by show _=_;rw[hu];exact Lib.extract_to_end t 1
    have hus:u.size=t.size-1:=by rw[hu,ByteArray.size_extract];omega
    clear hlo hu
    go_wp2_with (go_at_call 116;refine(hlk _).mono ?_;rintro e w1 ⟨rfl,hb1⟩)
    go_roundw
    case rel=>exact⟨u,acc,o+1,rfl,by go_num,by rw[hul.out];exact HE.out,HO.out.below hb1,hnx.trans (hb1.mono hnx.size)⟩
    case measure=>simp[Apy];omega
   | succ n=>
    rw[Da (by omega) hlo,show Nf (some (n+1))=(2,(n:Int)+5)from rfl]at hlk
    have HE:Hid (Ep L (acc++[(t.data.toList.getD 1 0,(t.data.toList.drop 3).take n)]) (t.data.toList.drop (n+5)) o):=HF.out.frame hlo
    have h5:=((CK hlo).2 n rfl).1
    have hn64:=((CK hlo).2 n rfl).2.2
    have l1:1<t.size:=by omega
    obtain⟨k,hk⟩:∃k:Nat,k=(t.data.toList.getD 1 0).toNat:=⟨_,rfl⟩
    have hsl:∀W:World,(Instr.slice 9 (.string t) none (some (.int .i64 ((n:Int)+5))) none).run Tryz.prog W=.ok (.string (t.extract 0 (n+5))) W:=fun W=>by
     rw[run_slice_string_h W 9 t Tryz.underlying9 .i64 ((n:Int)+5) (by omega) (by omega),show((n:Int)+5).toNat=n+5 by omega]
    have hsr:∀W:World,(Instr.slice 9 (.string t) (some (.int .i64 ((n:Int)+5))) none none).run Tryz.prog W=.ok (.string (t.extract (n+5) t.size)) W:=fun W=>by
     rw[run_slice_string_from_if W 9 t .i64 ((n:Int)+5) Tryz.underlying9,if_pos (by omega),show((n:Int)+5).toNat=n+5 by omega]
    obtain⟨x,hx⟩:∃u:ByteArray,u=t.extract 0 (n+5):=⟨_,rfl⟩
    obtain⟨y,hy⟩:∃u:ByteArray,u=t.extract (n+5) t.size:=⟨_,rfl⟩
    rw[<-hx]at hsl
    rw[<-hy]at hsr
    have hxs:x.size=n+5:=by rw[hx,ByteArray.size_extract];omega
    have hys:y.size=t.size-(n+5):=by rw[hy,ByteArray.size_extract];omega
    have hxl:x.data.toList=t.data.toList.take (n+5):=by rw[hx,Cx];rfl
    have hyl:Hid (y.data.toList=t.data.toList.drop (n+5)):=by show _=_;rw[hy];exact Lib.extract_to_end t (n+5)
    have x1:1<x.size:=by omega
    have hxk:(x[1]'x1).toNat=k:=by
     rw[<-Fu x1,hxl,hk]
     simp[List.getD_eq_getElem?_getD]
    have hun:=fun W=>Ld x k W (by omega) (by omega) hxk
    obtain⟨d,hd⟩:∃d:ByteArray,d=x.extract 3 (x.size-2):=⟨_,rfl⟩
    rw[<-hd]at hun
    have hdl:d=⟨((t.data.toList.drop 3).take n).toArray⟩:=Aju (by
     rw[hd,Cx,hxl,List.drop_take,List.take_take]
     congr 1
     omega)
    have HN:Hid (cellsOf (acc++[(t.data.toList.getD 1 0,(t.data.toList.drop 3).take n)])=cellsOf acc++[.int .i64 (k:Nat),.string d]):=by
     show _=_
     rw[Lc,hk,hdl]
     rfl
    have HLen:Hid ((acc++[(t.data.toList.getD 1 0,(t.data.toList.drop 3).take n)]).length=acc.length+1):=by show _=_;simp
    clear hlo hx hy hxl hd hdl hk
    generalize acc++[(t.data.toList.getD 1 0,(t.data.toList.drop 3).take n)]=acc' at HE HN HLen
    go_wp2_with (first
     |(go_at_call 116;refine(hlk _).mono ?_;rintro e w1 ⟨rfl,hb1⟩)
     |(go_at_call 117;refine(hun _).mono ?_;rintro e w2 ⟨rfl,hb2⟩)
     |(at_builtin;refine wpList_append_own _ rfl (.tmp 29) (.tmp 34) 163 rfl w.heap.size 77 i0 (.agg #[.int .i64 0,.string ⟨#[]⟩]) 2 24 Tryz.underlying163 hi hz0 hz1 hz2 rfl (by decide) _ _ _ rfl (((HO.out.below hb1).below hb2).alloc _) ⟨w2.heap.size,0,none⟩ 1 1 [.int .i64 (k:Nat),.string d] rfl rfl (Oz _ _ _ _) (by intro u hu;simp at hu;rcases hu with rfl |rfl<;>rfl) (by unfold maxLen;omega) (by omega) (by have:=hb2.size;have:=hb1.size;have:=hnx.size;simp;omega) ?_;intro v3 w3 hown3 hgrow3 hnil3))
    have hF:=(HO.out.below hb1).below hb2
    have hb3:=hb1.trans (hb2.mono hb1.size)
    have hbw:=hnx.trans (hb3.mono hnx.size)
    have hbz:=(hbw.alloc hbw.size (.cells #[.int .i64 (k:Nat),.string d] 77)).grown hgrow3 (by have:=hbw.size;simp;omega) (fun j hj=>(World.ownsRow.lt hF j hj).1)
    clear hnil3 hgrow3
    go_roundw
    case rel=>exact⟨y,acc',o,rfl,rfl,by rw[hyl.out];exact HE.out,by unfold Dx;rw[HLen.out,HN.out];exact hown3,hbz⟩
    case measure=>simp[Apy];omega
def Lf(sl:Value)(l:List (UInt8×List UInt8)):Prop:=(sl=.slice none 0 0/\l=[])∨∃cap,sl=.slice (some ⟨3,0,none⟩) l.length cap
theorem Lf.real{sl v:Value}{l:List (UInt8×List UInt8)}{bl:Bl}(h:Lf sl l)(r:RV bl sl v):∃A cap,v=.slice A l.length cap/\(l≠[]->∃B,bl[3]? =some (some B)/\A=some ⟨B,0,none⟩):=by
 rcases h with⟨rfl,rfl⟩|⟨cap,rfl⟩
 ·exact⟨none,0,r,fun e=>absurd rfl e⟩
 ·obtain⟨B,h1,e⟩:=r
  exact⟨_,cap,e,fun _=>⟨B,h1,rfl⟩⟩
def frL(l:List (UInt8×List UInt8))(i:Int):Fra:=match l[i.toNat]? with
 |some f=>((f.1.toNat:Nat),⟨f.2.toArray⟩)
 |none=>(0,⟨#[]⟩)
def r6(ks:List Nat)(l:List (UInt8×List UInt8))(K:List Value->Xm->Prop)(vt:List Value)(m:Xm):Prop:=
 Lf (vt.getD 8 undef) l/\33<vt.length/\SC ks 67 5 K (((vt.set 31 (vt.getD 8 undef)).set 32 (.int .i64 (l.length:Nat))).set 33 (.int .i64 0)) m
def r8(l:List (UInt8×List UInt8))(K:List Value->Xm->Prop)(vt:List Value)(m:Xm):Prop:=
 match vt.getD 33 undef with
 | .int .i64 i=>(0<=i/\i.toNat<l.length)/\Lf (vt.getD 31 undef) l/\m[3]? =some (cellsOf l)/\m.length=5/\36<vt.length/\K (((vt.set 35 .nilIface).set 36 .nilIface).set 13 (.pointer (some ⟨5,0,none⟩))) (m++[[.int .i64 (frL l i).1,.string (frL l i).2]])
 |_=>False
section
variable {P:Program} {bs:List Nat} {w0:World} {ds:List Deferred} {bl0:Bl} {l:List (UInt8×List UInt8)} {K:List Value->Xm->Prop} {Q:Exit->Act->World->Prop} {bl:Bl} {vt:List Value} {m:Xm} {a:Act} {w:World}
theorem DC{a:Act}{d:Nat}{v:Value}(h:d<a.tmps.size):(a.put (some d) v).eval (.tmp d)=v:=by
 simp[Act.put,Act.eval,h]
theorem Nh{a:Act}{d e:Nat}{v:Value}(h:d≠e):(a.put (some d) v).eval (.tmp e)=a.eval (.tmp e):=by
 simp[Act.put,Act.eval,Array.getElem?_setIfInBounds_ne h]
theorem Db{a:Act}{d:Option Tmp}{v:Value}:(a.put d v).tmps.size=a.tmps.size:=by
 cases d<;>simp[Act.put]
theorem Acu{ks:List Nat}{ops:Array Oper}{tS e:TypeId}{o0 o1 o2:Oper}(hb:bl0.length<=5)(hu:P.underlying tS=some (.slice e))(ho:ops=#[o0,o1,o2])
    (h0:o0.dst=some 31/\o0.op=.move (.tmp 8)/\o0.guard=none) (h1:o1.dst=some 32/\o1.op=.call {callee:=.builtin .len,args:=#[.tmp 31],argTypes:=#[tS]}/\o1.guard=none) (h2:o2.dst=some 33/\o2.op=.move (.const (.int .i64 0))/\o2.guard=none)
    (h:r6 ks l K vt m) (r:Rl bs w0 ds bl0 bl vt m a w) (hK:∀bl vt m a w,K vt m->Rl bs w0 ds bl0 bl vt m a w->Q .normal a w):(Code.region 6 ops false).wp P Q a w:=by
 subst ho
 have hlen:=r.F.len
 have hlt:=h.2.1
 have hv:=r.F.rv 8
 obtain⟨A,cap,hs,_⟩:=h.1.real hv
 have hs':a.eval (.tmp 8)=.slice A l.length cap:=hs
 rw[hs]at hv
 refine wp_region ?_
 refine Fq (o:=o0) (v:=.slice A l.length cap) (w':=w) rfl h0.2.2 (by simp[execOp,h0.2.1,hs']) ?_
 rw[h0.1]
 refine Fq (o:=o1) (v:=.int .i64 (l.length:Nat)) (w':=w) rfl h1.2.2 ?_ ?_
 ·have e1:(a.put (some 31) (.slice A l.length cap)).eval (.tmp 31)=.slice A l.length cap:=DC (by omega)
  generalize a.put (some 31) (.slice A l.length cap)=a1 at e1 ⊢
  have r0:=Cs hu w
  simp[execOp,h1.2.1,resolve,invoke,builtin,e1,Builtin.len_,r0,goInt]
 rw[h1.1]
 refine Fq (o:=o2) (v:=.int .i64 0) (w':=w) rfl h2.2.2 (by simp[execOp,h2.2.1,Act.eval]) ?_
 rw[h2.1]
 have F:FR bl _ (((a.put (some 31) (.slice A l.length cap)).put (some 32) (.int .i64 (l.length:Nat))).put (some 33) (.int .i64 0)).tmps:=((r.F.put hv (some 31)).put (show RV bl (.int .i64 (l.length:Nat)) (.int .i64 (l.length:Nat))from rfl) (some 32)).put (show RV bl (.int .i64 0) (.int .i64 0)from rfl) (some 33)
 have r':Rl bs w0 ds bl0 bl _ m (((a.put (some 31) (.slice A l.length cap)).put (some 32) (.int .i64 (l.length:Nat))).put (some 33) (.int .i64 0)) w:=⟨F,r.R,r.le,r.len,by rw[AJ,AJ,AJ];exact r.defers⟩
 obtain⟨bl',vt',m',k1,k2⟩:=r'.cut hb h.2.2
 exact hK bl' vt' m' _ w k1 k2
theorem Acv{ops:Array Oper}{tS tF:TypeId}{o0 o1 o2 o3:Oper}(hu:P.underlying tS=some (.slice tF))(hz:qrun P (sizeOf tF)=some 2)(ha:qrun P (isAgg tF)=some true){z:Value}(hzv:qrun P (zeroValue tF)=some z)(hzl:z.cells.toList.length=2)(ho:ops=#[o0,o1,o2,o3])
    (h0:o0.dst=some 35/\o0.op=.indexAddr tS (.tmp 31) (.tmp 33)/\o0.guard=none) (h1:o1.dst=some 36/\o1.op=.load tF (.tmp 35)/\o1.guard=none) (h2:o2.dst=some 13/\o2.op=.alloc tF/\o2.guard=none) (h3:o3.dst=none/\o3.op=.store tF (.tmp 13) (.tmp 36)/\o3.guard=none)
    (h:r8 l K vt m) (r:Rl bs w0 ds bl0 bl vt m a w) (hK:∀bl vt m a w,K vt m->Rl bs w0 ds bl0 bl vt m a w->Q .normal a w):(Code.region 8 ops false).wp P Q a w:=by
 subst ho
 have hlen:=r.F.len
 unfold r8 at h
 split at h
 case h_2=>exact h.elim
 rename_i i hi
 obtain⟨⟨hi0,hil⟩,hsl,hm3,hm5,hlt,hk⟩:=h
 have hiv:=r.F.rv 33
 rw[hi]at hiv
 have hi':a.eval (.tmp 33)=.int .i64 i:=hiv
 obtain⟨A,cap,hs,hB⟩:=hsl.real (r.F.rv 31)
 have hs':a.eval (.tmp 31)=.slice A l.length cap:=hs
 obtain⟨B,hb3,rfl⟩:=hB (by rintro rfl;simp at hil)
 obtain⟨row,e3,A3⟩:=r.R.arr 3 B hb3
 rw[hm3]at e3
 cases e3
 have hrow:FD P tF (cellsOf l) (i.toNat*2)=some (.agg #[.int .i64 (frL l i).1,.string (frL l i).2]):=by
  have hc:=Hr l i.toNat hil
  have hcl:=Lb l
  have hf:frL l i=(((l[i.toNat].1.toNat:Nat):Int),(⟨l[i.toNat].2.toArray⟩:ByteArray)):=by unfold frL;rw[List.getElem?_eq_getElem hil]
  unfold FD
  rw[ha,hz]
  dsimp only
  rw[if_pos (by omega),hf]
  have hd:((cellsOf l).drop (i.toNat*2)).take 2=[.int .i64 (l[i.toNat].1.toNat:Nat),.string ⟨l[i.toNat].2.toArray⟩]:=by
   have d1:=(List.getElem?_eq_some_iff.1 hc.1)
   have d2:=(List.getElem?_eq_some_iff.1 hc.2)
   obtain⟨q1,q2⟩:=d1
   obtain⟨q3,q4⟩:=d2
   rw[List.drop_eq_getElem_cons q1,List.drop_eq_getElem_cons q3,q2,q4]
   rfl
  rw[hd]
 refine wp_region ?_
 refine Fq (o:=o0) (v:=.pointer (some ⟨B,i.toNat*2,none⟩)) (w':=w) rfl h0.2.2 ?_ ?_
 ·have r0:=Cs hu w
  have r1:=BE _ hz w
  have hil':i<(l.length:Int):=by omega
  simp[execOp,h0.2.1,hs',hi',Instr.indexAt,asIntOf,r0,r1,hi0,hil',IT,Sem.run_bind]
 rw[h0.1]
 refine Fq (o:=o1) (v:=.agg #[.int .i64 (frL l i).1,.string (frL l i).2]) (w':=w) rfl h1.2.2 ?_ ?_
 ·have e1:(a.put (some 35) (.pointer (some ⟨B,i.toNat*2,none⟩))).eval (.tmp 35)=.pointer (some ⟨B,i.toNat*2,none⟩):=DC (by omega)
  generalize a.put (some 35) (.pointer (some ⟨B,i.toNat*2,none⟩))=a1 at e1 ⊢
  have r1:=Gp hrow A3
  simp[execOp,h1.2.1,e1,Instr.loadAt,Instr.sureAddr,r1]
 rw[h1.1]
 have hw3:(execOp ((a.put (some 35) (.pointer (some ⟨B,i.toNat*2,none⟩))).put (some 36) (.agg #[.int .i64 (frL l i).1,.string (frL l i).2])).eval o2).run P w=.ok (.value (.pointer (some ⟨w.heap.size,0,none⟩))) (w.alloc (.cells z.cells.toList.toArray tF)):=by
  have r:=BE _ hzv w
  simp[execOp,h2.2.1,Instr.alloc,newVar,newRow,newObj,r,Sem.run]
 refine Fq (o:=o2) rfl h2.2.2 hw3 ?_
 rw[h2.1]
 have hbl:bl.length=5:=r.len.trans hm5
 have W:=r.R.wide 1 [[.int .i64 (frL l i).1,.string (frL l i).2]]
 obtain⟨N,hle⟩:=W.new (k:=5) (by rw[List.getElem?_append_right (by omega),hbl];rfl) (by rw[List.length_append,hm5];exact Nat.lt_succ_self 5) z.cells.toList tF
 have hg5:((bl++List.replicate 1 none).set 5 (some w.heap.size))[5]? =some (some w.heap.size):=List.getElem?_set_self (by rw[List.length_append,hbl];exact Nat.lt_succ_self 5)
 have hm6:((m++[[Value.int .i64 (frL l i).1,Value.string (frL l i).2]]).set 5 z.cells.toList)[5]? =some z.cells.toList:=List.getElem?_set_self (by rw[List.length_append,hm5];exact Nat.lt_succ_self 5)
 obtain⟨row,e5,A5⟩:=N.arr 5 _ hg5
 rw[hm6]at e5
 cases e5
 have hst:G8 P tF z.cells.toList 0 (.agg #[.int .i64 (frL l i).1,.string (frL l i).2])=some (FP z.cells.toList 0 [.int .i64 (frL l i).1,.string (frL l i).2]):=by
  unfold G8
  rw[hz]
  dsimp only
  rw[if_pos (by rw[hzl];rfl)]
  rfl
 obtain⟨r3,_,hl3⟩:=Kx hst A5
 refine Ab9 (o:=o3) (w':=JV (w.alloc (.cells z.cells.toList.toArray tF)) w.heap.size 0 [.int .i64 (frL l i).1,.string (frL l i).2]) rfl h3.2.2 ?_ ?_
 ·have e1:(((a.put (some 35) (.pointer (some ⟨B,i.toNat*2,none⟩))).put (some 36) (.agg #[.int .i64 (frL l i).1,.string (frL l i).2])).put (some 13) (.pointer (some ⟨w.heap.size,0,none⟩))).eval (.tmp 13)=.pointer (some ⟨w.heap.size,0,none⟩):=DC (by rw[Db,Db];omega)
  have e2:(((a.put (some 35) (.pointer (some ⟨B,i.toNat*2,none⟩))).put (some 36) (.agg #[.int .i64 (frL l i).1,.string (frL l i).2])).put (some 13) (.pointer (some ⟨w.heap.size,0,none⟩))).eval (.tmp 36)=.agg #[.int .i64 (frL l i).1,.string (frL l i).2]:=(Nh (by decide)).trans (DC (by rw[Db];omega))
  generalize ((a.put (some 35) (.pointer (some ⟨B,i.toNat*2,none⟩))).put (some 36) (.agg #[.int .i64 (frL l i).1,.string (frL l i).2])).put (some 13) (.pointer (some ⟨w.heap.size,0,none⟩))=a3 at e1 e2 ⊢
  simp[execOp,h3.2.1,e1,e2,Instr.storeAt,Instr.sureAddr,r3]
  rfl
 rw[h3.1]
 have hrow5:FP z.cells.toList 0 [.int .i64 (frL l i).1,.string (frL l i).2]=[.int .i64 (frL l i).1,.string (frL l i).2]:=by
  match z.cells.toList,hzl with
  |[_,_],_=>rfl
 have R5:=N.store hg5 hm6 0 [.int .i64 (frL l i).1,.string (frL l i).2] hl3
 rw[hrow5]at R5
 have hmm:((m++[[Value.int .i64 (frL l i).1,Value.string (frL l i).2]]).set 5 z.cells.toList).set 5 [Value.int .i64 (frL l i).1,Value.string (frL l i).2]=m++[[Value.int .i64 (frL l i).1,Value.string (frL l i).2]]:=by
  rw[List.set_set,List.set_append_right _ _ (by omega),hm5]
  rfl
 rw[hmm]at R5
 have hL:Le bl ((bl++List.replicate 1 none).set 5 (some w.heap.size)):=(Le.wide bl 1).trans hle
 exact hK _ _ _ _ _ hk ⟨(((r.F.mono hL).put (v:=.nilIface) (v':=.pointer (some ⟨B,i.toNat*2,none⟩)) rfl (some 35)).put (v:=.nilIface) (v':=.agg #[.int .i64 (frL l i).1,.string (frL l i).2]) rfl (some 36)).put (RV.at hg5 0) (some 13),R5,r.le.trans hL,by rw[List.length_set,List.length_append,List.length_append,hbl,hm5];rfl,by rw[AJ,AJ,AJ,AJ];exact r.defers⟩
end
end Go.Proofs.YtgmpfeaanjnhaaaGreatDoor
