/-
A part.
A part.
A part.
A part.
A part.
A part.
A part.
A part.
-/
import Derived.Deep.Cut
import Derived.BigRegion
import Derived.Test.YtgmpfeaanjnhaaaGreatDoorU16
import Derived.Test.YtgmpfeaanjnhaaaGreatDoorU15
namespace Go.Proofs.YtgmpfeaanjnhaaaGreatDoor
open Go.RowKit
def sev(a b c d e f g:Int):Nat->Int:=fun i=>[a,b,c,d,e,f,g].getD i 0
theorem Ahw(a b c d e f h:Int)(w U:World)(t:TypeId)(g:Nat)(hg:g=U.heap.size)(hw:SW w)(hb:Below w.heap.size w U)(hr:∀i,-9223372036854775808<=sev a b c d e f h i/\sev a b c d e f h i<=9223372036854775807):
    Calls Tryz.prog 54 #[.slice (some ⟨g,0,none⟩) 7 7] (U.alloc (.cells #[.int .i64 a,.int .i64 b,.int .i64 c,.int .i64 d,.int .i64 e,.int .i64 f,.int .i64 h] t)) fun x w'=>x=.returned (.string ⟨(lineW 7 (sev a b c d e f h)).toArray⟩)/\Below w.heap.size w w':=by
 subst hg
 have hB:Below w.heap.size w (U.alloc (.cells (row 7 (sev a b c d e f h)).toArray t)):=hb.alloc hb.size _
 refine(Ag1 U.heap.size 7 (sev a b c d e f h) (U.alloc (.cells (row 7 (sev a b c d e f h)).toArray t)) (hw.below hB) (Am U _ _ _ rfl) (by decide) (by decide) hr).mono ?_
 rintro x w' ⟨hx,hk⟩
 exact⟨hx,hB.trans (hk.mono hB.size)⟩
theorem Ass{P:Program}{o:Oper}{a:Act}{w:World}{K:Act->World->Prop}{Q Q':Exit->Act->World->Prop}(h:∀e a w,e≠.normal->Q e a w->Q' e a w)(hh:o.wp P a w K Q):o.wp P a w K Q':=by
 unfold Oper.wp at *
 generalize (execOp a.eval o).run P w=r at *
 cases r with
 | ok n w'=>
  cases n with
  | enter f args=>
   exact Calls.mono hh (fun e w'' he=>by
    cases e with
    |returned v=>exact he
    |panicked c=>exact h (.panic c) _ _ nofun he
    |outgrown=>
     obtain⟨a1,w1,h1⟩:=he
     exact⟨a1,w1,h .outgrown _ _ nofun h1⟩)
  |_=>exact hh
 |halt x w'=>cases x<;>first |exact h _ _ _ nofun hh |exact hh
def Awi(P:Program)(ops:Array Oper)(tl:List Nat)(Q:Exit->Act->World->Prop):Exit->Act->World->Prop
 | .normal,a,w=>wpOps P ops Q tl a w
 |e,a,w=>Q e a w
theorem NJ{P:Program}{ops:Array Oper}{tl:List Nat}{Q:Exit->Act->World->Prop}:∀(pre:List Nat) (a:Act) (w:World),wpOps P ops (Awi P ops tl Q) pre a w->wpOps P ops Q (pre++tl) a w
 |[],_,_,h=>h
 | i::rest,a,w,h=>by
  have hq:∀e a w,e≠.normal->Awi P ops tl Q e a w->Q e a w:=fun e a w hn hh=>by
   cases e<;>first |exact absurd rfl hn |exact hh
  rw[List.cons_append,wpOps_cons]
  rw[wpOps_cons]at h
  have h:=wpOp_mono (fun a w=>NJ rest a w) h
  unfold wpOp at h ⊢
  split
  ·rename_i e
   simp only[e]at h
   exact h
  ·rename_i o ho
   simp only[ho]at h
   split
   ·rename_i hw
    simp only[hw,if_true]at h
    exact h.imp (Ass hq) (fun hx=>⟨hx.1,by obtain⟨_,a,w,hl⟩:=hx;exact⟨a,w,hl⟩⟩)
   ·rename_i hw
    simp only[hw]at h
    exact h
theorem ZM(w:World)(n0 n1 n2 n3 n4 n5 n6:Int):(Instr.buildSlice 69 7 #[(0,.int .i64 n0),(1,.int .i64 n1),(2,.int .i64 n2),(3,.int .i64 n3),(4,.int .i64 n4),(5,.int .i64 n5),(6,.int .i64 n6)]).run Tryz.prog w=.ok (.slice (some ⟨w.heap.size,0,none⟩) 7 7) (w.alloc (.cells #[.int .i64 n0,.int .i64 n1,.int .i64 n2,.int .i64 n3,.int .i64 n4,.int .i64 n5,.int .i64 n6] (Tryz.prog.elem 69))):=by kernel_rfl
def Aoh(n:Nat)(b:Bool)(sl:Value)(K:List Value->Xm->Prop)(vt:List Value)(m:Xm):Prop:=
 vt.getD 1 undef=sl/\vt.length=37/\K (((vt.set 6 sl).set 7 (.int .i64 (n:Nat))).set 8 (.bool b)) m
def lnK(a b c d e f g:Int)(K:List Value->Xm->Prop)(vt:List Value)(m:Xm):Prop:=
 vt.getD 16 undef=.int .i64 a/\vt.getD 19 undef=.int .i64 b/\vt.getD 22 undef=.int .i64 c/\vt.getD 25 undef=.int .i64 d/\vt.getD 28 undef=.int .i64 e/\vt.getD 31 undef=.int .i64 f/\vt.getD 34 undef=.int .i64 g/\vt.length=37/\
 K (((vt.set 35 .nilIface).set 36 (.string ⟨(lineW 7 (sev a b c d e f g)).toArray⟩)).set 4 (.string ⟨(lineW 7 (sev a b c d e f g)).toArray⟩)) m
section
variable {bs:List Nat} {w0:World} {ds:List Deferred} {bl0:Bl} {K:List Value->Xm->Prop} {Q:Exit->Act->World->Prop}
theorem RB{bl:Bl}{vt:List Value}{m:Xm}{a:Act}{w:World}{ops:Array Oper}{id n cap:Nat}{ao:Option Addr}{sl:Value}{b:Bool}{o0 o1 o2:Oper}(ho:ops=#[o0,o1,o2])(hn:decide ((n:Int)=0)= !b)
    (h0:o0.dst=some 6/\o0.op=.move (.tmp 1)/\o0.guard=none) (h1:o1.dst=some 7/\o1.op=.call {callee:=.builtin .len,args:=#[.tmp 6],argTypes:=#[29]}/\o1.guard=none) (h2:o2.dst=some 8/\o2.op=.binOp .neq 3 (.tmp 7) (.const (.int .i64 0)) 3/\o2.guard=none)
    (hsl:sl≠.nilIface) (hrv:RV bl0 sl (.slice ao n cap))
    (h:Aoh n b sl K vt m) (rl:Rl bs w0 ds bl0 bl vt m a w) (hK:∀bl vt m a w,K vt m->Rl bs w0 ds bl0 bl vt m a w->Q .normal a w):(Code.region id ops false).wp Tryz.prog Q a w:=by
 subst ho
 obtain⟨hs,hlt,hk⟩:=h
 have hlen:=rl.F.len
 rw[hlt]at hlen
 have hrb:=hrv.mono rl.le
 have ES:a.eval (.tmp 1)=.slice ao n cap:=by
  have:=rl.F.rv 1
  rw[hs]at this
  exact U0 hsl hrb this
 have r0:=Cs (t:=29) (by kernel_rfl:Tryz.prog.underlying 29=some (.slice 9)) w
 refine wp_region ?_
 refine Ay (v:=sl) (v':=.slice ao n cap) (w':=w) rfl h0.1 (Aq h0.2.2) (by simp[execOp,h0.2.1,ES]) rl.F rl.defers hlen (by decide) hrb fun a F D hlen E0 X=>?_
 refine Ay (v:=.int .i64 (n:Nat)) (v':=.int .i64 (n:Nat)) (w':=w) rfl h1.1 (Aq h1.2.2) (by simp[execOp,h1.2.1,resolve,invoke,builtin,E0,Builtin.len_,r0,goInt]) F D hlen (by decide) rfl fun a F D hlen E1 X=>?_
 have ec:a.eval (.const (.int .i64 0))=.int .i64 0:=rfl
 refine Ay (v:=.bool b) (v':=.bool b) (w':=w) rfl h2.1 (Aq h2.2.2) ?_ F D hlen (by decide) rfl fun a F D hlen E2 X=>?_
 ·simp[execOp,h2.2.1,E1,ec,eqGuard,binOp,Op.intCmp]
  cases b<;>simp at hn ⊢<;>omega
 exact hK _ _ _ _ _ hk ⟨F,rl.R,rl.le,rl.len,D⟩
theorem ZN{bl:Bl}{vt:List Value}{m:Xm}{a:Act}{w:World}{ops:Array Oper}{i0 i1 i2:Nat}{n0 n1 n2 n3 n4 n5 n6:Int}{o0 o1 o2:Oper}(p0:ops[i0]? =some o0)(p1:ops[i1]? =some o1)(p2:ops[i2]? =some o2)
    (h0:o0.dst=some 35/\o0.op=.buildSlice 69 7 #[(0,.tmp 16),(1,.tmp 19),(2,.tmp 22),(3,.tmp 25),(4,.tmp 28),(5,.tmp 31),(6,.tmp 34)]/\o0.guard=none) (h1:o1.dst=some 36/\o1.op=.call {callee:=.value (.func 54),args:=#[.tmp 35],argTypes:=#[69]}/\o1.guard=none) (h2:o2.dst=some 4/\o2.op=.assign (.tmp 36)/\o2.guard=none)
    (hw:SW w0) (hlies:5<w0.heap.size) (hb:∀i∈bs,5<i) (hr:∀i,-9223372036854775808<=sev n0 n1 n2 n3 n4 n5 n6 i/\sev n0 n1 n2 n3 n4 n5 n6 i<=9223372036854775807)
    (h:lnK n0 n1 n2 n3 n4 n5 n6 K vt m) (rl:Rl bs w0 ds bl0 bl vt m a w) (hK:∀bl vt m a w,K vt m->Rl bs w0 ds bl0 bl vt m a w->Q .normal a w):wpOps Tryz.prog ops Q [i0,i1,i2] a w:=by
 obtain⟨v0,v1,v2,v3,v4,v5,v6,hlt,hk⟩:=h
 have hlen:=rl.F.len
 rw[hlt]at hlen
 have ev:∀s n,vt.getD s undef=.int .i64 n->a.eval (.tmp s)=.int .i64 n:=fun s n e=>by
  have:=rl.F.rv s
  rw[e]at this
  exact this
 have e0:=ev _ _ v0
 have e1:=ev _ _ v1
 have e2:=ev _ _ v2
 have e3:=ev _ _ v3
 have e4:=ev _ _ v4
 have e5:=ev _ _ v5
 have e6:=ev _ _ v6
 have hsw:SW w:=hw.kept fun i hi=>rl.R.block i (by omega) (fun e=>by have:=hb i e;omega)
 have hl:=Ahw n0 n1 n2 n3 n4 n5 n6 w w (Tryz.prog.elem 69) w.heap.size rfl hsw (Below.refl _ _) hr
 generalize (⟨(lineW 7 (sev n0 n1 n2 n3 n4 n5 n6)).toArray⟩:ByteArray)=q at hl hk
 have hbuild:=ZM w n0 n1 n2 n3 n4 n5 n6
 generalize hU:w.alloc (.cells #[.int .i64 n0,.int .i64 n1,.int .i64 n2,.int .i64 n3,.int .i64 n4,.int .i64 n5,.int .i64 n6] (Tryz.prog.elem 69))=U at hl hbuild
 refine Ay (v:=.nilIface) (v':=.slice (some ⟨w.heap.size,0,none⟩) 7 7) (w':=U) p0 h0.1 (Aq h0.2.2) (by simp[execOp,h0.2.1,e0,e1,e2,e3,e4,e5,e6,hbuild]) rl.F rl.defers hlen (by decide) rfl fun a F D hlen E0 X=>?_
 refine IB (o:=o1) (args:=#[.slice (some ⟨w.heap.size,0,none⟩) 7 7]) p1 h1.2.2 ?_ hl ?_
 ·have:=Af Tryz.func54 (by kernel_rfl) (by kernel_rfl) #[.slice (some ⟨w.heap.size,0,none⟩) 7 7] U
  have hf:a.eval (.func 54)=.func (.func 54) #[] #[]:=rfl
  simp[execOp,h1.2.1,resolve,hf,E0,Deferred.ofValue,invoke,this]
 rintro e w' ⟨rfl,hB⟩
 refine⟨_,rfl,?_⟩
 rw[h1.1]
 have R':=rl.R.pure hB
 have F:=F.put (v:=.string q) (v':=.string q) rfl (some 36)
 have D:=(AJ a (some 36) (.string q)).trans D
 have E1:(a.put (some 36) (.string q)).eval (.tmp 36)=.string q:=DC (by rw[hlen];decide)
 have hlen:=(Db (a:=a) (d:=some 36) (v:=.string q)).trans hlen
 generalize a.put (some 36) (.string q)=a at F D E1 hlen ⊢
 refine Ay (v:=.string q) (v':=.string q) (w':=w') p2 h2.1 (Aq h2.2.2) (by simp[execOp,h2.2.1,E1]) F D hlen (by decide) rfl fun a F D hlen E2 X=>?_
 exact hK _ _ _ _ _ hk ⟨F,R',rl.le,rl.len,D⟩
end
def guessT(n:Nat)(a b c d e f g:Int):ByteArray:=if n=0 then⟨(lineW 7 (sev a b c d e f g)).toArray⟩else err1
def guO(n:Nat)(b:Bool)(sl:Value)(q0 q1 q2 q3 q4 q5 q6:Int):Ov:=fun id=>match id with
 |1=>some fun _ _=>Aoh n b sl
 |4=>some fun ops _ K=>D5 Tryz.prog [] ops (Ha 0 ops) (lnK q0 q1 q2 q3 q4 q5 q6 K) [0,1,2,3,4,5,6,7,8,9,10,11,12,13,14,15,16,17,18,19,20]
 |_=>none
set_option maxRecDepth 100000 in
theorem ZO(sl:Value)(c:Cra)(s:ByteArray)(Post:Value->Option (List Value)->Prop):
    BR Tryz.prog [] (fun _=>[]) 8 (guO 0 false sl (cGues c).1 (cGues c).2.1 (cGues c).2.2.1 (cGues c).2.2.2.1 (cGues c).2.2.2.2.1 (cGues c).2.2.2.2.2.1 (cGues c).2.2.2.2.2.2.1) (AP Tryz.prog 37) (Cv Tryz.prog (BA Tryz.prog 37) (fun v m=>Post v m[1]?)) ([ptr 1,sl]++List.replicate ((BA Tryz.prog 37).ntmps-2) undef) [[],bnL (c,s)]=
      (sl=sl/\37=37/\Value.int .i64 (cGues c).1=.int .i64 (cGues c).1/\Value.int .i64 (cGues c).2.1=.int .i64 (cGues c).2.1/\Value.int .i64 (cGues c).2.2.1=.int .i64 (cGues c).2.2.1/\Value.int .i64 (cGues c).2.2.2.1=.int .i64 (cGues c).2.2.2.1/\Value.int .i64 (cGues c).2.2.2.2.1=.int .i64 (cGues c).2.2.2.2.1/\Value.int .i64 (cGues c).2.2.2.2.2.1=.int .i64 (cGues c).2.2.2.2.2.1/\Value.int .i64 (cGues c).2.2.2.2.2.2.1=.int .i64 (cGues c).2.2.2.2.2.2.1/\37=37/\
        Post (.string ⟨(lineW 7 (sev (cGues c).1 (cGues c).2.1 (cGues c).2.2.1 (cGues c).2.2.2.1 (cGues c).2.2.2.2.1 (cGues c).2.2.2.2.2.1 (cGues c).2.2.2.2.2.2.1)).toArray⟩) (some (bnL (c,s)))):=by kernel_rfl
set_option maxRecDepth 100000 in
theorem Ahx(n:Nat)(sl:Value)(q0 q1 q2 q3 q4 q5 q6:Int)(c:Cra)(s:ByteArray)(Post:Value->Option (List Value)->Prop):
    BR Tryz.prog [] (fun _=>[]) 8 (guO n true sl q0 q1 q2 q3 q4 q5 q6) (AP Tryz.prog 37) (Cv Tryz.prog (BA Tryz.prog 37) (fun v m=>Post v m[1]?)) ([ptr 1,sl]++List.replicate ((BA Tryz.prog 37).ntmps-2) undef) [[],bnL (c,s)]=
      (sl=sl/\37=37/\Post (.string err1) (some (bnL (c,s)))):=by kernel_rfl
theorem Ahy{bs:List Nat}{w0:World}{ds:List Deferred}{bl0:Bl}{K:List Value->Xm->Prop}{Q:Exit->Act->World->Prop}{bl:Bl}{vt:List Value}{m:Xm}{a:Act}{w:World}{ops:Array Oper}{rest:List Nat}{tbl:List (Ct Tryz.prog)}(hnew:rest.all (fun i=>match ops[i]? with
      |some o=>!CB o
      |none=>true)=true) (hnd:rest.Nodup) (hk:D5 Tryz.prog tbl ops (Ha 0 ops) K rest vt m) (r:Rl bs w0 ds bl0 bl vt m a w) (hK:∀bl vt m a w,K vt m->Rl bs w0 ds bl0 bl vt m a w->Q .normal a w):wpOps Tryz.prog ops Q rest a w:=by
 refine Ek (base:=0) (rs:=m) (ln:=m.length) (bl0:=bl0) (tbl:=tbl) (fun bl' vt' m' a' w' hk F R hle hl hml hd=>hK bl' vt' m' a' w' hk ⟨F,R,hle,hl.trans hml.symm,hd⟩) rest bl _ m _ w hnd hk r.F r.R (fun _ _=>rfl) ?_ r.le r.len rfl r.defers
 intro i hi o ho hn
 have:=List.all_eq_true.1 hnew i hi
 rw[ho]at this
 dsimp only at this
 rw[hn]at this
 cases this
set_option maxRecDepth 100000 in
theorem Ahz{bs:List Nat}{w:World}{ao:Option Addr}{n cap:Nat}{b:Bool}{sl:Value}{q0 q1 q2 q3 q4 q5 q6:Int}{bl0:Bl}(hn:decide ((n:Int)=0)= !b)(hne:sl≠.nilIface)(hrv:RV bl0 sl (.slice ao n cap))(hw:SW w)(hlies:5<w.heap.size)(hb:∀i∈bs,5<i)(hr:∀i,-9223372036854775808<=sev q0 q1 q2 q3 q4 q5 q6 i/\sev q0 q1 q2 q3 q4 q5 q6 i<=9223372036854775807):D9 Tryz.prog (guO n b sl q0 q1 q2 q3 q4 q5 q6) bs w [] bl0 (AP Tryz.prog 37):=by
 refine EF (ns:=[(1,#[Bc Tryz.prog 37 1 0,Bc Tryz.prog 37 1 1,Bc Tryz.prog 37 1 2],false),(4,KY Tryz.prog 37 4,false)]) (by kernel_rfl) ?_
 intro r hr'
 rcases List.mem_cons.1 hr' with rfl |hr'
 ·intro R hR K Q bl vt m a w h' rl hK
  cases hR
  exact RB rfl hn ⟨by kernel_rfl,by kernel_rfl,by kernel_rfl⟩ ⟨by kernel_rfl,by kernel_rfl,by kernel_rfl⟩ ⟨by kernel_rfl,by kernel_rfl,by kernel_rfl⟩ hne hrv h' rl hK
 rcases List.mem_cons.1 hr' with rfl |hr'
 ·intro R hR K Q bl vt m a w h' rl hK
  cases hR
  refine wp_region ?_
  rw[show List.range (KY Tryz.prog 37 4).size=[0,1,2,3,4,5,6,7,8,9,10,11,12,13,14,15,16,17,18,19,20]++[21,22,23]by kernel_rfl]
  refine NJ _ _ _ (Ahy (by kernel_rfl) (by decide) h' rl fun bl vt m a w hk rl=>?_)
  show wpOps Tryz.prog (KY Tryz.prog 37 4) Q [21,22,23] a w
  exact ZN (o0:=Bc Tryz.prog 37 4 21) (o1:=Bc Tryz.prog 37 4 22) (o2:=Bc Tryz.prog 37 4 23) (by kernel_rfl) (by kernel_rfl) (by kernel_rfl) ⟨by kernel_rfl,by kernel_rfl,by kernel_rfl⟩ ⟨by kernel_rfl,by kernel_rfl,by kernel_rfl⟩ ⟨by kernel_rfl,by kernel_rfl,by kernel_rfl⟩ hw hlies hb hr hk rl hK
 ·cases hr'
theorem Vk{c:Cra}(h:Ju (cGues c)):∀i,-9223372036854775808<=sev (cGues c).1 (cGues c).2.1 (cGues c).2.2.1 (cGues c).2.2.2.1 (cGues c).2.2.2.2.1 (cGues c).2.2.2.2.2.1 (cGues c).2.2.2.2.2.2.1 i/\sev (cGues c).1 (cGues c).2.1 (cGues c).2.2.1 (cGues c).2.2.2.1 (cGues c).2.2.2.2.1 (cGues c).2.2.2.2.2.1 (cGues c).2.2.2.2.2.2.1 i<=9223372036854775807:=by
 obtain⟨a,b,d,e,f,g,h⟩:=h
 intro i
 match i with
 |0=>exact a
 |1=>exact b
 |2=>exact d
 |3=>exact e
 |4=>exact f
 |5=>exact g
 |6=>exact h
 |_+7=>exact GK.zero
theorem Ah0{b:Nat}{w:World}{v:Value}{ws:List ByteArray}{l:List Value}(hg:GW w)(hb:7<b)(hA:Ap b l w)(hv:CE w v ws)(ha:Ey [b] w v):∃a c sl x,v=.slice a ws.length c/\sl≠.nilIface/\RV [x,some b] sl v/\RW [b] w [x,some b] [[],l] w:=by
 obtain⟨a,c,rfl,_,_⟩:=hv
 obtain⟨sl,x,hR,hxa⟩:∃sl x,Pg w (.slice a ws.length c) sl x/\x=a.map (·.block):=by
  cases a with
  |none=>exact⟨.slice none ws.length c,none,⟨nofun,rfl,nofun⟩,rfl⟩
  |some ad=>exact⟨.slice (some {ad with block:=0}) ws.length c,some ad.block,⟨nofun,⟨ad.block,rfl,rfl⟩,fun g e=>by cases e;exact(ha _ _ _ rfl ad rfl).1⟩,rfl⟩
 have hx:x≠some b:=by
  rw[hxa]
  cases a with
  |none=>nofun
  |some ad=>exact fun e=>(ha _ _ _ rfl ad rfl).2 (List.mem_singleton.2 (Option.some.inj e))
 refine⟨a,c,sl,x,rfl,hR.ne,hR.rv.mono (Le.last [x] (some b)),fun i B hi=>?_,fun i j B hi hj=>?_,fun i B hi=>?_,rfl,rfl,rfl,Nat.le_refl _,fun _ _ _=>rfl,hg,fun b' hb'=>by rw[List.mem_singleton.1 hb'];exact hb⟩
 ·match i,hi with
  |0,hi=>exact⟨[],rfl,fun i h=>absurd h (Nat.not_lt_zero i),fun i h=>absurd h (Nat.not_lt_zero i),hR.lies B (Option.some.inj hi)⟩
  |1,hi=>cases hi;exact⟨_,rfl,hA⟩
 ·match i,j,hi,hj with
  |0,0,_,_=>rfl
  |1,1,_,_=>rfl
  |0,1,hi,hj=>cases hj;exact absurd (Option.some.inj hi) hx
  |1,0,hi,hj=>cases hi;exact absurd (Option.some.inj hj) hx
 ·match i,hi with
  |0,_=>exact .inr (.inr rfl)
  |1,hi=>cases hi;exact .inl List.mem_cons_self
theorem Xh(q:ByteArray)(l:List Value):∃P:Value->Option (List Value)->Prop,(∀u o,P u o->u=.string q/\o=some l)/\P (.string q) (some l):=⟨fun u o=>u=.string q/\o=some l,fun _ _ h=>h,rfl,rfl⟩
set_option maxHeartbeats 1000000 in
set_option maxRecDepth 100000 in
theorem ZP(b:Nat)(s:Bn)(v:Value)(ws:List ByteArray)(w:World)(hw:SW w)(hg:GW w)(hb:7<b)(hA:Ap b (bnL s) w)(hv:CE w v ws)(ha:Ey [b] w v)(hr:Ju (cGues s.1)):
    Calls Tryz.prog 37 #[ptr b,v] w fun e w'=>e=.returned (.string (guessT ws.length (cGues s.1).1 (cGues s.1).2.1 (cGues s.1).2.2.1 (cGues s.1).2.2.2.1 (cGues s.1).2.2.2.2.1 (cGues s.1).2.2.2.2.2.1 (cGues s.1).2.2.2.2.2.2.1))/\Ap b (bnL s) w'/\Aa b w w':=by
 obtain⟨cr,st⟩:=s
 have hb5:∀i∈[b],5<i:=fun i hi=>by rw[List.mem_singleton.1 hi];omega
 have hlies:=hg.2.lies
 obtain⟨a,c,sl,x,rfl,hne,hrv,R0⟩:=Ah0 hg hb hA hv ha
 by_cases h0:ws.length=0
 ·have e:guessT ws.length (cGues cr).1 (cGues cr).2.1 (cGues cr).2.2.1 (cGues cr).2.2.2.1 (cGues cr).2.2.2.2.1 (cGues cr).2.2.2.2.2.1 (cGues cr).2.2.2.2.2.2.1=⟨(lineW 7 (sev (cGues cr).1 (cGues cr).2.1 (cGues cr).2.2.1 (cGues cr).2.2.2.1 (cGues cr).2.2.2.2.1 (cGues cr).2.2.2.2.2.1 (cGues cr).2.2.2.2.2.2.1)).toArray⟩:=if_pos h0
  rw[e]
  rw[h0]at hrv ⊢
  obtain⟨P,hPe,hP⟩:=Xh (⟨(lineW 7 (sev (cGues cr).1 (cGues cr).2.1 (cGues cr).2.2.1 (cGues cr).2.2.2.1 (cGues cr).2.2.2.2.1 (cGues cr).2.2.2.2.2.1 (cGues cr).2.2.2.2.2.2.1)).toArray⟩) (bnL (cr,st))
  refine Gl (tbl:=[]) (Pst:=P) (by kernel_rfl) (by kernel_rfl) R0 hrv (Ahz (n:=0) (b:=false) rfl hne hrv hw (by omega) hb5 (Vk hr)) hPe ?_
  have hy:=ZO sl cr st P
  exact Eq.mpr hy ⟨rfl,rfl,rfl,rfl,rfl,rfl,rfl,rfl,rfl,rfl,hP⟩
 ·have e:guessT ws.length (cGues cr).1 (cGues cr).2.1 (cGues cr).2.2.1 (cGues cr).2.2.2.1 (cGues cr).2.2.2.2.1 (cGues cr).2.2.2.2.2.1 (cGues cr).2.2.2.2.2.2.1=err1:=if_neg h0
  rw[e]
  obtain⟨P,hPe,hP⟩:=Xh err1 (bnL (cr,st))
  refine Gl (tbl:=[]) (Pst:=P) (by kernel_rfl) (by kernel_rfl) R0 hrv (Ahz (n:=ws.length) (b:=true) (by rw[decide_eq_false (by omega)];rfl) hne hrv hw (by omega) hb5 (Vk hr)) hPe ?_
  have hy:=Ahx ws.length sl (cGues cr).1 (cGues cr).2.1 (cGues cr).2.2.1 (cGues cr).2.2.2.1 (cGues cr).2.2.2.2.1 (cGues cr).2.2.2.2.2.1 (cGues cr).2.2.2.2.2.2.1 cr st P
  exact Eq.mpr hy ⟨rfl,rfl,hP⟩
theorem H0:Tryz.prog.underlying 69=some (.slice (Tryz.prog.elem 69)):=by kernel_rfl
theorem ZQ(w:World):(sizeOf (Tryz.prog.elem 69)).run Tryz.prog w=.ok 1 w:=by kernel_rfl
theorem Vl(B k:Nat)(hk:1<=k)(w:World):(Instr.sliceAt 69 (.slice (some ⟨B,0,none⟩) (k+1) (k+1)) (some (.int .i64 1)) none none).run Tryz.prog w=.ok (.slice (some ⟨B,1,none⟩) k k) w:=by
 rw[run_sliceAt_slice _ _ _ _ _ _ H0,run_slice_l _ _ _ _ _ H0 _ 1 (by decide) (by omega),ZQ]
 show Result.ok (Value.slice (if k+1=1 then some ⟨B,0,none⟩else some ⟨B,1,none⟩) k k) w=_
 rw[if_neg (by omega)]
def Ah1(k:Nat)(K:List Value->Xm->Prop)(vt:List Value)(m:Xm):Prop:=
 vt.getD 7 undef=.slice (some ⟨1,0,none⟩) (k+1) (k+1)/\vt.length=46/\1<=k/\K ((((vt.set 23 (.slice (some ⟨1,0,none⟩) (k+1) (k+1))).set 24 (.slice (some ⟨1,1,none⟩) k k)).set 25 (.int .i64 (k:Nat))).set 26 (.int .i64 0)) m
section
variable {bs:List Nat} {w0:World} {ds:List Deferred} {bl0:Bl} {K:List Value->Xm->Prop} {Q:Exit->Act->World->Prop}
theorem Pn{bl:Bl}{vt:List Value}{m:Xm}{a:Act}{w:World}{ops:Array Oper}{id k:Nat}{o0 o1 o2 o3:Oper}(ho:ops=#[o0,o1,o2,o3])
    (h0:o0.dst=some 23/\o0.op=.move (.tmp 7)/\o0.guard=none) (h1:o1.dst=some 24/\o1.op=.slice 69 (.tmp 23) (some (.const (.int .i64 1))) none none/\o1.guard=none) (h2:o2.dst=some 25/\o2.op=.call {callee:=.builtin .len,args:=#[.tmp 24],argTypes:=#[69]}/\o2.guard=none) (h3:o3.dst=some 26/\o3.op=.move (.const (.int .i64 0))/\o3.guard=none)
    (h:Ah1 k K vt m) (rl:Rl bs w0 ds bl0 bl vt m a w) (hK:∀bl vt m a w,K vt m->Rl bs w0 ds bl0 bl vt m a w->Q .normal a w):(Code.region id ops false).wp Tryz.prog Q a w:=by
 subst ho
 obtain⟨hs,hlt,hk1,hk⟩:=h
 have hlen:=rl.F.len
 rw[hlt]at hlen
 have hrv:=rl.F.rv 7
 rw[hs]at hrv
 obtain⟨B,hB,ES⟩:=hrv
 have ES:a.eval (.tmp 7)=.slice (some ⟨B,0,none⟩) (k+1) (k+1):=ES
 have r0:=Cs H0 w
 have r1:=Vl B k hk1 w
 have ec:a.eval (.const (.int .i64 1))=.int .i64 1:=rfl
 refine wp_region ?_
 refine Ay (v:=.slice (some ⟨1,0,none⟩) (k+1) (k+1)) (v':=.slice (some ⟨B,0,none⟩) (k+1) (k+1)) (w':=w) rfl h0.1 (Aq h0.2.2) (by simp[execOp,h0.2.1,ES]) rl.F rl.defers hlen (by decide) ⟨B,hB,rfl⟩ fun a F D hlen E0 X=>?_
 have ec:a.eval (.const (.int .i64 1))=.int .i64 1:=rfl
 refine Ay (v:=.slice (some ⟨1,1,none⟩) k k) (v':=.slice (some ⟨B,1,none⟩) k k) (w':=w) rfl h1.1 (Aq h1.2.2) (by simp[execOp,h1.2.1,E0,ec,r1]) F D hlen (by decide) ⟨B,hB,rfl⟩ fun a F D hlen E1 X=>?_
 refine Ay (v:=.int .i64 (k:Nat)) (v':=.int .i64 (k:Nat)) (w':=w) rfl h2.1 (Aq h2.2.2) (by simp[execOp,h2.2.1,resolve,invoke,builtin,E1,Builtin.len_,r0,goInt]) F D hlen (by decide) rfl fun a F D hlen E2 X=>?_
 refine Ay (v:=.int .i64 0) (v':=.int .i64 0) (w':=w) rfl h3.1 (Aq h3.2.2) (by simp[execOp,h3.2.1,Act.eval]) F D hlen (by decide) rfl fun a F D hlen E3 X=>?_
 exact hK _ _ _ _ _ hk ⟨F,rl.R,rl.le,rl.len,D⟩
end
def srD(k:Nat)(q:Int)(sl:Value)(r:Option (List Value)):Ov:=fun id=>match id with
 |4=>some fun _ _=>Agr 1 6 15 16 17 18 14 19 20 7 8 46 (k+1) q sl r
 |8=>some fun _ _=>Ah1 k
 |_=>none
set_option maxRecDepth 100000 in
theorem Ast{w:World}{v sl:Value}{x:Option Nat}{k:Nat}{q:Int}{r:Option (List Value)}(hq:IntKind.i64.wrap (1+q)=((k+1:Nat):Int))(h:Pg w v sl x)(hc:Gi [] w v (k+1) r):D9 Tryz.prog (srD k q sl r) [] w [] [x] (AP Tryz.prog 32):=by
 refine EF (ns:=[(4,#[Bc Tryz.prog 32 4 0,Bc Tryz.prog 32 4 1,Bc Tryz.prog 32 4 2,Bc Tryz.prog 32 4 3,Bc Tryz.prog 32 4 4,Bc Tryz.prog 32 4 5,Bc Tryz.prog 32 4 6,Bc Tryz.prog 32 4 7,Bc Tryz.prog 32 4 8],false),(8,#[Bc Tryz.prog 32 8 0,Bc Tryz.prog 32 8 1,Bc Tryz.prog 32 8 2,Bc Tryz.prog 32 8 3],false)]) (by kernel_rfl) ?_
 intro r hr
 rcases List.mem_cons.1 hr with rfl |hr
 ·intro R hR K Q bl vt m a w h' rl hK
  cases hR
  exact Pf (tI:=3) (ats:=#[29,3]) rfl ⟨by kernel_rfl,by kernel_rfl,by kernel_rfl⟩ ⟨by kernel_rfl,by kernel_rfl,by kernel_rfl⟩ ⟨by kernel_rfl,by kernel_rfl,by kernel_rfl⟩ ⟨by kernel_rfl,by kernel_rfl,by kernel_rfl⟩ ⟨by kernel_rfl,by kernel_rfl,by kernel_rfl⟩ ⟨by kernel_rfl,by kernel_rfl,by kernel_rfl⟩ ⟨by kernel_rfl,by kernel_rfl,by kernel_rfl⟩ ⟨by kernel_rfl,by kernel_rfl,by kernel_rfl⟩ ⟨by kernel_rfl,by kernel_rfl,by kernel_rfl⟩ (by decide) (by decide) hq (by decide) (by decide) h.ne h.rv hc h' rl hK
 rcases List.mem_cons.1 hr with rfl |hr
 ·intro R hR K Q bl vt m a w h' rl hK
  cases hR
  exact Pn rfl ⟨by kernel_rfl,by kernel_rfl,by kernel_rfl⟩ ⟨by kernel_rfl,by kernel_rfl,by kernel_rfl⟩ ⟨by kernel_rfl,by kernel_rfl,by kernel_rfl⟩ ⟨by kernel_rfl,by kernel_rfl,by kernel_rfl⟩ h' rl hK
 ·cases hr
set_option maxRecDepth 100000 in
theorem ZR(sl:Value)(a b c d:Int)(Post:Value->Prop):
    BR Tryz.prog [JP,EJ] (fun _=>[]) 8 (srD 3 3 sl (some [.int .i64 a,.int .i64 b,.int .i64 c,.int .i64 d])) (AP Tryz.prog 32) (Cv Tryz.prog (BA Tryz.prog 32) (fun v _=>Post v)) ([.int .i64 1,sl]++List.replicate ((BA Tryz.prog 32).ntmps-2) undef) [[]]=
      (sl=sl/\Value.int .i64 3=.int .i64 3/\46=46/\Value.slice (some ⟨1,0,none⟩) 4 4=.slice (some ⟨1,0,none⟩) 4 4/\46=46/\1<=3/\FH Post (B3 (LZ (1,a,b,c,d,0,0,0,())))):=by kernel_rfl
set_option maxRecDepth 100000 in
theorem ZS(sl:Value)(a b c d:Int)(Post:Value->Prop):
    BR Tryz.prog [JP,EJ] (fun _=>[]) 8 (srD 3 3 sl (some [.int .i64 a,.int .i64 b,.int .i64 c,.int .i64 d])) (AP Tryz.prog 32) (Cv Tryz.prog (BA Tryz.prog 32) (fun v _=>Post v)) ([.int .i64 3,sl]++List.replicate ((BA Tryz.prog 32).ntmps-2) undef) [[]]=
      (sl=sl/\Value.int .i64 3=.int .i64 3/\46=46/\Value.slice (some ⟨1,0,none⟩) 4 4=.slice (some ⟨1,0,none⟩) 4 4/\46=46/\1<=3/\FH Post (B3 (LZ (3,a,b,c,d,0,0,0,())))):=by kernel_rfl
set_option maxRecDepth 100000 in
theorem ZT(sl:Value)(a b c d e f g:Int)(Post:Value->Prop):
    BR Tryz.prog [JP,EJ] (fun _=>[]) 8 (srD 6 6 sl (some [.int .i64 a,.int .i64 b,.int .i64 c,.int .i64 d,.int .i64 e,.int .i64 f,.int .i64 g])) (AP Tryz.prog 32) (Cv Tryz.prog (BA Tryz.prog 32) (fun v _=>Post v)) ([.int .i64 2,sl]++List.replicate ((BA Tryz.prog 32).ntmps-2) undef) [[]]=
      (sl=sl/\Value.int .i64 6=.int .i64 6/\46=46/\Value.slice (some ⟨1,0,none⟩) 7 7=.slice (some ⟨1,0,none⟩) 7 7/\46=46/\1<=6/\FH Post (B3 (LZ (2,a,b,c,d,e,f,g,())))):=by kernel_rfl
set_option maxRecDepth 100000 in
theorem Ah2(sl:Value)(Post:Value->Prop):
    BR Tryz.prog [JP,EJ] (fun _=>[]) 8 (srD 3 3 sl none) (AP Tryz.prog 32) (Cv Tryz.prog (BA Tryz.prog 32) (fun v _=>Post v)) ([.int .i64 1,sl]++List.replicate ((BA Tryz.prog 32).ntmps-2) undef) [[]]=
      (sl=sl/\Value.int .i64 3=.int .i64 3/\46=46/\FH Post (noBytes,false)):=by kernel_rfl
set_option maxRecDepth 100000 in
theorem Ah3(sl:Value)(Post:Value->Prop):
    BR Tryz.prog [JP,EJ] (fun _=>[]) 8 (srD 3 3 sl none) (AP Tryz.prog 32) (Cv Tryz.prog (BA Tryz.prog 32) (fun v _=>Post v)) ([.int .i64 3,sl]++List.replicate ((BA Tryz.prog 32).ntmps-2) undef) [[]]=
      (sl=sl/\Value.int .i64 3=.int .i64 3/\46=46/\FH Post (noBytes,false)):=by kernel_rfl
set_option maxRecDepth 100000 in
theorem Ah4(sl:Value)(Post:Value->Prop):
    BR Tryz.prog [JP,EJ] (fun _=>[]) 8 (srD 6 6 sl none) (AP Tryz.prog 32) (Cv Tryz.prog (BA Tryz.prog 32) (fun v _=>Post v)) ([.int .i64 2,sl]++List.replicate ((BA Tryz.prog 32).ntmps-2) undef) [[]]=
      (sl=sl/\Value.int .i64 6=.int .i64 6/\46=46/\FH Post (noBytes,false)):=by kernel_rfl
def readW1(k:Int)(ws:List ByteArray):ByteArray×Bool:=if CR ws 4 then B3 (LZ (k,AY ws 4 0,AY ws 4 1,AY ws 4 2,AY ws 4 3,0,0,0,()))else(noBytes,false)
def readW2(ws:List ByteArray):ByteArray×Bool:=if CR ws 7 then B3 (LZ (2,AY ws 7 0,AY ws 7 1,AY ws 7 2,AY ws 7 3,AY ws 7 4,AY ws 7 5,AY ws 7 6,()))else(noBytes,false)
set_option maxRecDepth 100000 in
theorem H9{kd q:Int}{k:Nat}(hq:IntKind.i64.wrap (1+q)=((k+1:Nat):Int))(hk:k+1<=100){y:ByteArray×Bool}(v:Value)(ws:List ByteArray)(w:World)(hw:SW w)(hg:GW w)(hv:CE w v ws)(ha:Ey [] w v)(hs:∀i,(ws.getD i ⟨#[]⟩).size<=100000)(hl:ws.length<=100000)
    (hr:∀sl (Post:Value->Prop),FH Post y->BR Tryz.prog [JP,EJ] (fun _=>[]) 8 (srD k q sl (ME ws (k+1))) (AP Tryz.prog 32) (Cv Tryz.prog (BA Tryz.prog 32) (fun v _=>Post v)) ([.int .i64 kd,sl]++List.replicate ((BA Tryz.prog 32).ntmps-2) undef) [[]]):
    Calls Tryz.prog 32 #[.int .i64 kd,v] w fun e w'=>e=.returned ((AV cS cB).enc y)/\Below w.heap.size w w':=by
 have hc:=Kl (m:=k+1) hw hg hv ha (fun i hi=>by cases hi) (by omega) hk hs hl
 obtain⟨a,c,rfl,_,_⟩:=hv
 obtain⟨sl,x,hR⟩:=Ph (n:=ws.length) (c:=c) (fun ad e=>(ha _ _ _ rfl ad e).1)
 refine Hz (by kernel_rfl) (by kernel_rfl) hR hg (tbl:=[JP,EJ]) (vargs:=[.int .i64 kd,sl]) (y:=(AV cS cB).enc y) rfl (fun i=>?_) (Ast hq hR hc) (hr sl _ rfl)
 match i with
 |0=>exact rfl
 |1=>exact hR.rv
 |_+2=>rfl
set_option maxRecDepth 100000 in
theorem Ah5(v:Value)(ws:List ByteArray)(w:World)(hw:SW w)(hg:GW w)(hv:CE w v ws)(ha:Ey [] w v)(hs:∀i,(ws.getD i ⟨#[]⟩).size<=100000)(hl:ws.length<=100000):
    Calls Tryz.prog 32 #[.int .i64 1,v] w fun e w'=>e=.returned ((AV cS cB).enc (readW1 1 ws))/\Below w.heap.size w w':=by
 refine H9 (q:=3) (k:=3) (by decide) (by decide) v ws w hw hg hv ha hs hl fun sl Post h=>?_
 unfold ME
 unfold readW1 at h
 by_cases c:CR ws 4
 ·rw[if_pos c]at h ⊢
  exact Eq.mpr (ZR sl (AY ws 4 0) (AY ws 4 1) (AY ws 4 2) (AY ws 4 3) Post) ⟨rfl,rfl,rfl,rfl,rfl,by decide,h⟩
 ·rw[if_neg c]at h ⊢
  exact Eq.mpr (Ah2 sl Post) ⟨rfl,rfl,rfl,h⟩
set_option maxRecDepth 100000 in
theorem Amu(v:Value)(ws:List ByteArray)(w:World)(hw:SW w)(hg:GW w)(hv:CE w v ws)(ha:Ey [] w v)(hs:∀i,(ws.getD i ⟨#[]⟩).size<=100000)(hl:ws.length<=100000):
    Calls Tryz.prog 32 #[.int .i64 3,v] w fun e w'=>e=.returned ((AV cS cB).enc (readW1 3 ws))/\Below w.heap.size w w':=by
 refine H9 (q:=3) (k:=3) (by decide) (by decide) v ws w hw hg hv ha hs hl fun sl Post h=>?_
 unfold ME
 unfold readW1 at h
 by_cases c:CR ws 4
 ·rw[if_pos c]at h ⊢
  exact Eq.mpr (ZS sl (AY ws 4 0) (AY ws 4 1) (AY ws 4 2) (AY ws 4 3) Post) ⟨rfl,rfl,rfl,rfl,rfl,by decide,h⟩
 ·rw[if_neg c]at h ⊢
  exact Eq.mpr (Ah3 sl Post) ⟨rfl,rfl,rfl,h⟩
set_option maxRecDepth 100000 in
theorem Amv(v:Value)(ws:List ByteArray)(w:World)(hw:SW w)(hg:GW w)(hv:CE w v ws)(ha:Ey [] w v)(hs:∀i,(ws.getD i ⟨#[]⟩).size<=100000)(hl:ws.length<=100000):
    Calls Tryz.prog 32 #[.int .i64 2,v] w fun e w'=>e=.returned ((AV cS cB).enc (readW2 ws))/\Below w.heap.size w w':=by
 refine H9 (q:=6) (k:=6) (by decide) (by decide) v ws w hw hg hv ha hs hl fun sl Post h=>?_
 unfold ME
 unfold readW2 at h
 by_cases c:CR ws 7
 ·rw[if_pos c]at h ⊢
  exact Eq.mpr (ZT sl (AY ws 7 0) (AY ws 7 1) (AY ws 7 2) (AY ws 7 3) (AY ws 7 4) (AY ws 7 5) (AY ws 7 6) Post) ⟨rfl,rfl,rfl,rfl,rfl,by decide,h⟩
 ·rw[if_neg c]at h ⊢
  exact Eq.mpr (Ah4 sl Post) ⟨rfl,rfl,rfl,h⟩
set_option maxRecDepth 100000
set_option maxHeartbeats 20000000
theorem Ey.none{bs:List Nat}{w:World}{v:Value}(h:Ey bs w v):Ey [] w v:=fun a n c e ad ea=>⟨(h a n c e ad ea).1,List.not_mem_nil⟩
def sendT(s:Bn)(y:ByteArray×Bool):ByteArray×Bn:=((EK s.2 y.1 y.2).1,s.1,(EK s.2 y.1 y.2).2)
def answerT(F:Fs)(s:Bn)(f:ByteArray)(ws:List ByteArray):ByteArray×Bn:=
 if f=⟨#[114,97,119]⟩then sendT s (rawT ws)else
 if f=⟨#[103,121,114,111]⟩then sendT s (readW1 1 ws)else
 if f=⟨#[109,97,103]⟩then sendT s (readW1 3 ws)else
 if f=⟨#[115,117,110]⟩then sendT s (readW2 ws)else
 if f=⟨#[111,114,100,101,114]⟩then sendT s (orderT ws)else
 if f=⟨#[111,114,98,105,116]⟩then sendT s (elemT ws)else
 if f=⟨#[115,116,101,112]⟩then stepT F s ws else
 if f=⟨#[112,108,97,110]⟩then(planT ws.length (cPlan s.1).1 (cPlan s.1).2.1 (cPlan s.1).2.2.1 (cPlan s.1).2.2.2.1 (cPlan s.1).2.2.2.2.1 (cPlan s.1).2.2.2.2.2.1,s)else
 if f=⟨#[103,117,101,115,115]⟩then(guessT ws.length (cGues s.1).1 (cGues s.1).2.1 (cGues s.1).2.2.1 (cGues s.1).2.2.2.1 (cGues s.1).2.2.2.2.1 (cGues s.1).2.2.2.2.2.1 (cGues s.1).2.2.2.2.2.2.1,s)else
 (err1,s)
theorem Ia(s:Bn):(bnL s).length=72:=by kernel_rfl
theorem Awj(s:Bn):∃h:71<(bnL s).length,(bnL s)[71]=.string s.2:=⟨by rw[Ia];decide,rfl⟩
theorem Asu(s:Bn)(t:ByteArray):(bnL s).set 71 (.string t)=bnL (s.1,t):=rfl
theorem Br{b:Nat}{w w1:World}(h:Below w.heap.size w w1):Aa b w w1:=⟨h.os,h.tape,h.output,h.size,fun i hi _=>h.block i hi⟩
theorem Aa.new2(b:Nat)(w:World)(o:Nat)(u:Value):Aa b w (w.setCell ⟨b,o,none⟩ u):=
 ⟨rfl,rfl,rfl,by rw[World.size_setCell];exact Nat.le_refl _,fun k _ hk=>Below.heap_setCell _ _ _ _ hk⟩
theorem Ef(b:Nat)(s:Bn)(y:ByteArray×Bool)(w:World)(hA:Ap b (bnL s) w)(hs:s.2.size<=2000)(ht:y.1.size<=100000):
    Calls Tryz.prog 30 #[ptr b,.string y.1,.bool y.2] w fun e w'=>e=.returned (.string (sendT s y).1)/\Ap b (bnL (sendT s y).2) w'/\Aa b w w':=by
 obtain⟨hl,e⟩:=Awj s
 have hc:=hA.c 71 hl
 rw[e]at hc
 refine(Ag0 b s.2 y.1 y.2 w hc (hA.f 71 hl) hs ht).mono ?_
 rintro x w' ⟨he,⟨rfl,h2⟩|rfl⟩
 ·refine⟨he,?_,Aa.refl _ _⟩
  unfold sendT
  rw[h2]
  exact hA
 ·refine⟨he,?_,(Aa.new2 b w 71 _)⟩
  unfold sendT
  rw[<-Asu]
  exact hA.put 71 hl _ _ rfl
structure Mh(F:Fs)(b:Nat)(s:Bn)(v:Value)(ws:List ByteArray)(w:World):Prop where
 hF:Jv F
 hw:SW w
 hg:GW w
 hb:7<b
 hA:Ap b (bnL s) w
 hv:CE w v ws
 ha:Ey [b] w v
 hI:RF s
 h1:∀i,i<ws.length->1<=(ws.getD i ⟨#[]⟩).size
 hs:∀i,(ws.getD i ⟨#[]⟩).size<=100000
 hl:ws.length<=100000
theorem Ed{f:ByteArray}{l:List UInt8}(h:f≠⟨l.toArray⟩):(f.toList==l)=false:=by
 rw[beq_eq_false_iff_ne,Lib.toList_data]
 intro e
 exact h (ByteArray.ext (by rw[<-e]))
def CN(y:ByteArray×Bool):Prop:=y.1.size<=100000
theorem Amw{F:Fs}{b:Nat}{s:Bn}{v:Value}{ws:List ByteArray}{w:World}(H:Mh F b s v ws w)(hy:CN (rawT ws)):
    Calls Tryz.prog 15 #[ptr b,.string ⟨#[114,97,119]⟩,v] w fun e w'=>e=.returned (.string (sendT s (rawT ws)).1)/\Ap b (bnL (sendT s (rawT ws)).2) w'/\Aa b w w':=by
 obtain⟨hF,hw,hg,hb,hA,hv,ha,hI,h1,hs,hl⟩:=H
 have hr:=Amg _ ws w hv h1 hs
 have hq:=fun w1 (k:Below w.heap.size w w1)=>Ef b s (rawT ws) w1 (hA.below k) hI.wait hy
 generalize rawT ws=y at hr hq hy ⊢
 obtain⟨y,ok⟩:=y
 obtain⟨a,c,rfl,_,_⟩:=hv
 dsimp only at hq
 have hr:Calls Tryz.prog 31 #[.slice a ws.length c] w (fun e w'=>e=.returned (.tuple #[.string y,.bool ok])/\Below w.heap.size w w'):=hr
 generalize (sendT s (y,ok))=z at hq ⊢
 clear hw hg hA ha hI h1 hs hl hF hy
 go_enter Tryz.func15,Tryz.ntmps15
 go_wp2_with (first |(go_at_call 31;refine hr.mono ?_;rintro e w1 ⟨rfl,hb1⟩)|(go_at_call 30;refine(hq _ hb1).mono ?_;rintro e w2 ⟨rfl,hA2,hk2⟩))
 go_ret
 exact⟨rfl,hA2,(Br hb1).trans hk2⟩
theorem Ah6{F:Fs}{b:Nat}{s:Bn}{v:Value}{ws:List ByteArray}{w:World}(H:Mh F b s v ws w)(hy:CN (readW1 1 ws)):
    Calls Tryz.prog 15 #[ptr b,.string ⟨#[103,121,114,111]⟩,v] w fun e w'=>e=.returned (.string (sendT s (readW1 1 ws)).1)/\Ap b (bnL (sendT s (readW1 1 ws)).2) w'/\Aa b w w':=by
 obtain⟨hF,hw,hg,hb,hA,hv,ha,hI,h1,hs,hl⟩:=H
 have hr:=Ah5 _ ws w hw hg hv (ha.none) hs hl
 have hq:=fun w1 (k:Below w.heap.size w w1)=>Ef b s (readW1 1 ws) w1 (hA.below k) hI.wait hy
 generalize readW1 1 ws=y at hr hq hy ⊢
 obtain⟨y,ok⟩:=y
 obtain⟨a,c,rfl,_,_⟩:=hv
 dsimp only at hq
 have hr:Calls Tryz.prog 32 #[.int .i64 1,.slice a ws.length c] w (fun e w'=>e=.returned (.tuple #[.string y,.bool ok])/\Below w.heap.size w w'):=hr
 generalize (sendT s (y,ok))=z at hq ⊢
 clear hw hg hA ha hI h1 hs hl hF hy
 go_enter Tryz.func15,Tryz.ntmps15
 go_wp2_with (first |(go_at_call 32;refine hr.mono ?_;rintro e w1 ⟨rfl,hb1⟩)|(go_at_call 30;refine(hq _ hb1).mono ?_;rintro e w2 ⟨rfl,hA2,hk2⟩))
 go_ret
 exact⟨rfl,hA2,(Br hb1).trans hk2⟩
theorem Amx{F:Fs}{b:Nat}{s:Bn}{v:Value}{ws:List ByteArray}{w:World}(H:Mh F b s v ws w)(hy:CN (readW1 3 ws)):
    Calls Tryz.prog 15 #[ptr b,.string ⟨#[109,97,103]⟩,v] w fun e w'=>e=.returned (.string (sendT s (readW1 3 ws)).1)/\Ap b (bnL (sendT s (readW1 3 ws)).2) w'/\Aa b w w':=by
 obtain⟨hF,hw,hg,hb,hA,hv,ha,hI,h1,hs,hl⟩:=H
 have hr:=Amu _ ws w hw hg hv (ha.none) hs hl
 have hq:=fun w1 (k:Below w.heap.size w w1)=>Ef b s (readW1 3 ws) w1 (hA.below k) hI.wait hy
 generalize readW1 3 ws=y at hr hq hy ⊢
 obtain⟨y,ok⟩:=y
 obtain⟨a,c,rfl,_,_⟩:=hv
 dsimp only at hq
 have hr:Calls Tryz.prog 32 #[.int .i64 3,.slice a ws.length c] w (fun e w'=>e=.returned (.tuple #[.string y,.bool ok])/\Below w.heap.size w w'):=hr
 generalize (sendT s (y,ok))=z at hq ⊢
 clear hw hg hA ha hI h1 hs hl hF hy
 go_enter Tryz.func15,Tryz.ntmps15
 go_wp2_with (first |(go_at_call 32;refine hr.mono ?_;rintro e w1 ⟨rfl,hb1⟩)|(go_at_call 30;refine(hq _ hb1).mono ?_;rintro e w2 ⟨rfl,hA2,hk2⟩))
 go_ret
 exact⟨rfl,hA2,(Br hb1).trans hk2⟩
theorem Amy{F:Fs}{b:Nat}{s:Bn}{v:Value}{ws:List ByteArray}{w:World}(H:Mh F b s v ws w)(hy:CN (readW2 ws)):
    Calls Tryz.prog 15 #[ptr b,.string ⟨#[115,117,110]⟩,v] w fun e w'=>e=.returned (.string (sendT s (readW2 ws)).1)/\Ap b (bnL (sendT s (readW2 ws)).2) w'/\Aa b w w':=by
 obtain⟨hF,hw,hg,hb,hA,hv,ha,hI,h1,hs,hl⟩:=H
 have hr:=Amv _ ws w hw hg hv (ha.none) hs hl
 have hq:=fun w1 (k:Below w.heap.size w w1)=>Ef b s (readW2 ws) w1 (hA.below k) hI.wait hy
 generalize readW2 ws=y at hr hq hy ⊢
 obtain⟨y,ok⟩:=y
 obtain⟨a,c,rfl,_,_⟩:=hv
 dsimp only at hq
 have hr:Calls Tryz.prog 32 #[.int .i64 2,.slice a ws.length c] w (fun e w'=>e=.returned (.tuple #[.string y,.bool ok])/\Below w.heap.size w w'):=hr
 generalize (sendT s (y,ok))=z at hq ⊢
 clear hw hg hA ha hI h1 hs hl hF hy
 go_enter Tryz.func15,Tryz.ntmps15
 go_wp2_with (first |(go_at_call 32;refine hr.mono ?_;rintro e w1 ⟨rfl,hb1⟩)|(go_at_call 30;refine(hq _ hb1).mono ?_;rintro e w2 ⟨rfl,hA2,hk2⟩))
 go_ret
 exact⟨rfl,hA2,(Br hb1).trans hk2⟩
theorem ZU{F:Fs}{b:Nat}{s:Bn}{v:Value}{ws:List ByteArray}{w:World}(H:Mh F b s v ws w)(hy:CN (orderT ws)):
    Calls Tryz.prog 15 #[ptr b,.string ⟨#[111,114,100,101,114]⟩,v] w fun e w'=>e=.returned (.string (sendT s (orderT ws)).1)/\Ap b (bnL (sendT s (orderT ws)).2) w'/\Aa b w w':=by
 obtain⟨hF,hw,hg,hb,hA,hv,ha,hI,h1,hs,hl⟩:=H
 have hr:=ZC _ ws w hw hg hv (ha.none) hs hl
 have hq:=fun w1 (k:Below w.heap.size w w1)=>Ef b s (orderT ws) w1 (hA.below k) hI.wait hy
 generalize orderT ws=y at hr hq hy ⊢
 obtain⟨y,ok⟩:=y
 obtain⟨a,c,rfl,_,_⟩:=hv
 dsimp only at hq
 have hr:Calls Tryz.prog 33 #[.slice a ws.length c] w (fun e w'=>e=.returned (.tuple #[.string y,.bool ok])/\Below w.heap.size w w'):=hr
 generalize (sendT s (y,ok))=z at hq ⊢
 clear hw hg hA ha hI h1 hs hl hF hy
 go_enter Tryz.func15,Tryz.ntmps15
 go_wp2_with (first |(go_at_call 33;refine hr.mono ?_;rintro e w1 ⟨rfl,hb1⟩)|(go_at_call 30;refine(hq _ hb1).mono ?_;rintro e w2 ⟨rfl,hA2,hk2⟩))
 go_ret
 exact⟨rfl,hA2,(Br hb1).trans hk2⟩
theorem ZV{F:Fs}{b:Nat}{s:Bn}{v:Value}{ws:List ByteArray}{w:World}(H:Mh F b s v ws w)(hy:CN (elemT ws)):
    Calls Tryz.prog 15 #[ptr b,.string ⟨#[111,114,98,105,116]⟩,v] w fun e w'=>e=.returned (.string (sendT s (elemT ws)).1)/\Ap b (bnL (sendT s (elemT ws)).2) w'/\Aa b w w':=by
 obtain⟨hF,hw,hg,hb,hA,hv,ha,hI,h1,hs,hl⟩:=H
 have hr:=Agu _ ws w hw hg hv (ha.none) hs hl
 have hq:=fun w1 (k:Below w.heap.size w w1)=>Ef b s (elemT ws) w1 (hA.below k) hI.wait hy
 generalize elemT ws=y at hr hq hy ⊢
 obtain⟨y,ok⟩:=y
 obtain⟨a,c,rfl,_,_⟩:=hv
 dsimp only at hq
 have hr:Calls Tryz.prog 34 #[.slice a ws.length c] w (fun e w'=>e=.returned (.tuple #[.string y,.bool ok])/\Below w.heap.size w w'):=hr
 generalize (sendT s (y,ok))=z at hq ⊢
 clear hw hg hA ha hI h1 hs hl hF hy
 go_enter Tryz.func15,Tryz.ntmps15
 go_wp2_with (first |(go_at_call 34;refine hr.mono ?_;rintro e w1 ⟨rfl,hb1⟩)|(go_at_call 30;refine(hq _ hb1).mono ?_;rintro e w2 ⟨rfl,hA2,hk2⟩))
 go_ret
 exact⟨rfl,hA2,(Br hb1).trans hk2⟩
theorem Ah7{F:Fs}{b:Nat}{s:Bn}{v:Value}{ws:List ByteArray}{w:World}(H:Mh F b s v ws w):
    Calls Tryz.prog 15 #[ptr b,.string ⟨#[115,116,101,112]⟩,v] w fun e w'=>e=.returned (.string (stepT F s ws).1)/\Ap b (bnL (stepT F s ws).2) w'/\Aa b w w':=by
 obtain⟨hF,hw,hg,hb,hA,hv,ha,hI,h1,hs,hl⟩:=H
 have hr:=ZI hF.is.ok b s v ws w hw hg hb hA hv ha (by have:=hI.left;have:=hI.wait;omega) hs hl
 generalize stepT F s ws=z at hr ⊢
 obtain⟨a,c,rfl,_,_⟩:=hv
 clear hw hg hA ha hI h1 hs hl hF
 go_enter Tryz.func15,Tryz.ntmps15
 go_wp2_with (go_at_call 35;refine hr.mono ?_;rintro e w1 ⟨rfl,hA1,hb1⟩)
 go_ret
 exact⟨rfl,hA1,hb1⟩
theorem Vm{s:Bn}{b:Nat}{w:World}(A:Ap b (bnL s) w):w.cell? ⟨b,3,none⟩=some (.int .i64 (cPlan s.1).1)/\w.cell? ⟨b,4,none⟩=some (.int .i64 (cPlan s.1).2.1)/\w.cell? ⟨b,5,none⟩=some (.int .i64 (cPlan s.1).2.2.1)/\w.cell? ⟨b,6,none⟩=some (.int .i64 (cPlan s.1).2.2.2.1)/\w.cell? ⟨b,7,none⟩=some (.int .i64 (cPlan s.1).2.2.2.2.1)/\w.cell? ⟨b,8,none⟩=some (.int .i64 (cPlan s.1).2.2.2.2.2.1):=
 ⟨A.c 3 (by rw[Ia];decide),A.c 4 (by rw[Ia];decide),A.c 5 (by rw[Ia];decide),A.c 6 (by rw[Ia];decide),A.c 7 (by rw[Ia];decide),A.c 8 (by rw[Ia];decide)⟩
theorem Xi{n:Int}(h:Cj n):-9223372036854775808<=n/\n<=9223372036854775807:=by
 obtain⟨a,b⟩:=h
 exact⟨a,b⟩
theorem RD{c:Cra}(h:Md c):∀i,-9223372036854775808<=six (cPlan c).1 (cPlan c).2.1 (cPlan c).2.2.1 (cPlan c).2.2.2.1 (cPlan c).2.2.2.2.1 (cPlan c).2.2.2.2.2.1 i/\six (cPlan c).1 (cPlan c).2.1 (cPlan c).2.2.1 (cPlan c).2.2.2.1 (cPlan c).2.2.2.2.1 (cPlan c).2.2.2.2.2.1 i<=9223372036854775807:=by
 have p:=h.p
 intro i
 match i with
 |0=>exact⟨Int.le_trans (by decide) p.m0,Int.le_trans p.m3 (by decide)⟩
 |1=>exact Xi p.c
 |2=>exact Xi p.g
 |3=>exact Xi p.i
 |4=>exact Xi p.l
 |5=>exact⟨Int.le_trans (by decide) p.f0,Int.le_trans p.f9 (by decide)⟩
 |_+6=>exact⟨by show(-9223372036854775808:Int)<=0;decide,by show(0:Int)<=9223372036854775807;decide⟩
theorem Ah8{F:Fs}{b:Nat}{s:Bn}{v:Value}{ws:List ByteArray}{w:World}(H:Mh F b s v ws w):
    Calls Tryz.prog 15 #[ptr b,.string ⟨#[112,108,97,110]⟩,v] w fun e w'=>e=.returned (.string (planT ws.length (cPlan s.1).1 (cPlan s.1).2.1 (cPlan s.1).2.2.1 (cPlan s.1).2.2.2.1 (cPlan s.1).2.2.2.2.1 (cPlan s.1).2.2.2.2.2.1))/\Ap b (bnL s) w'/\Aa b w w':=by
 obtain⟨hF,hw,hg,hb,hA,hv,ha,hI,h1,hs,hl⟩:=H
 obtain⟨a,c,rfl,hc,_⟩:=hv
 obtain⟨c0,c1,c2,c3,c4,c5⟩:=Vm hA
 have hr:=Ag3 b _ _ _ _ _ _ a ws.length c w hw hc hl c0 c1 c2 c3 c4 c5 (RD hI.inv)
 generalize planT ws.length (cPlan s.1).1 (cPlan s.1).2.1 (cPlan s.1).2.2.1 (cPlan s.1).2.2.2.1 (cPlan s.1).2.2.2.2.1 (cPlan s.1).2.2.2.2.2.1=z at hr ⊢
 have HA:Hid (Ap b (bnL s) w):=hA
 clear hw hg hA ha hI h1 hs hF c0 c1 c2 c3 c4 c5
 go_enter Tryz.func15,Tryz.ntmps15
 go_wp2_with (go_at_call 36;refine hr.mono ?_;rintro e w1 ⟨rfl,hb1⟩)
 go_ret
 exact⟨rfl,HA.out.below hb1,Br hb1⟩
theorem ZW{F:Fs}{b:Nat}{s:Bn}{v:Value}{ws:List ByteArray}{w:World}(H:Mh F b s v ws w):
    Calls Tryz.prog 15 #[ptr b,.string ⟨#[103,117,101,115,115]⟩,v] w fun e w'=>e=.returned (.string (guessT ws.length (cGues s.1).1 (cGues s.1).2.1 (cGues s.1).2.2.1 (cGues s.1).2.2.2.1 (cGues s.1).2.2.2.2.1 (cGues s.1).2.2.2.2.2.1 (cGues s.1).2.2.2.2.2.2.1))/\Ap b (bnL s) w'/\Aa b w w':=by
 obtain⟨hF,hw,hg,hb,hA,hv,ha,hI,h1,hs,hl⟩:=H
 have hr:=ZP b s v ws w hw hg hb hA hv ha hI.gue
 generalize guessT ws.length (cGues s.1).1 (cGues s.1).2.1 (cGues s.1).2.2.1 (cGues s.1).2.2.2.1 (cGues s.1).2.2.2.2.1 (cGues s.1).2.2.2.2.2.1 (cGues s.1).2.2.2.2.2.2.1=z at hr ⊢
 obtain⟨a,c,rfl,_,_⟩:=hv
 clear hw hg hA ha hI h1 hs hl hF
 go_enter Tryz.func15,Tryz.ntmps15
 go_wp2_with (go_at_call 37;refine hr.mono ?_;rintro e w1 ⟨rfl,hA1,hb1⟩)
 go_ret
 exact⟨rfl,hA1,hb1⟩
theorem Ah9(b:Nat)(s:Bn)(f:ByteArray)(v:Value)(ws:List ByteArray)(w:World)(hA:Ap b (bnL s) w)(hv:CE w v ws)(n0:f≠⟨#[114,97,119]⟩)(n1:f≠⟨#[103,121,114,111]⟩)(n2:f≠⟨#[109,97,103]⟩)(n3:f≠⟨#[115,117,110]⟩)(n4:f≠⟨#[111,114,100,101,114]⟩)(n5:f≠⟨#[111,114,98,105,116]⟩)(n6:f≠⟨#[115,116,101,112]⟩)(n7:f≠⟨#[112,108,97,110]⟩)(n8:f≠⟨#[103,117,101,115,115]⟩):
    Calls Tryz.prog 15 #[ptr b,.string f,v] w fun e w'=>e=.returned (.string err1)/\Ap b (bnL s) w'/\Aa b w w':=by
 obtain⟨a,c,rfl,_,_⟩:=hv
 have HA:Hid (Ap b (bnL s) w):=hA
 clear hA
 have e0:(f.toList==[114,97,119])=false:=Ed n0
 have e1:(f.toList==[103,121,114,111])=false:=Ed n1
 have e2:(f.toList==[109,97,103])=false:=Ed n2
 have e3:(f.toList==[115,117,110])=false:=Ed n3
 have e4:(f.toList==[111,114,100,101,114])=false:=Ed n4
 have e5:(f.toList==[111,114,98,105,116])=false:=Ed n5
 have e6:(f.toList==[115,116,101,112])=false:=Ed n6
 have e7:(f.toList==[112,108,97,110])=false:=Ed n7
 have e8:(f.toList==[103,117,101,115,115])=false:=Ed n8
 clear n0 n1 n2 n3 n4 n5 n6 n7 n8
 go_enter Tryz.func15,Tryz.ntmps15
 go_wp2
 go_ret
 exact⟨rfl,HA.out,Aa.refl _ _⟩
theorem Amz{F:Fs}{b:Nat}{s:Bn}{v:Value}{ws:List ByteArray}{w:World}(H:Mh F b s v ws w)(f:ByteArray)(hy:CN (rawT ws)/\CN (readW1 1 ws)/\CN (readW1 3 ws)/\CN (readW2 ws)/\CN (orderT ws)/\CN (elemT ws)):
    Calls Tryz.prog 15 #[ptr b,.string f,v] w fun e w'=>e=.returned (.string (answerT F s f ws).1)/\Ap b (bnL (answerT F s f ws).2) w'/\Aa b w w':=by
 unfold answerT
 by_cases n0:f=⟨#[114,97,119]⟩
 ·subst n0
  rw[if_pos rfl]
  exact Amw H hy.1
 rw[if_neg n0]
 by_cases n1:f=⟨#[103,121,114,111]⟩
 ·subst n1
  rw[if_pos rfl]
  exact Ah6 H hy.2.1
 rw[if_neg n1]
 by_cases n2:f=⟨#[109,97,103]⟩
 ·subst n2
  rw[if_pos rfl]
  exact Amx H hy.2.2.1
 rw[if_neg n2]
 by_cases n3:f=⟨#[115,117,110]⟩
 ·subst n3
  rw[if_pos rfl]
  exact Amy H hy.2.2.2.1
 rw[if_neg n3]
 by_cases n4:f=⟨#[111,114,100,101,114]⟩
 ·subst n4
  rw[if_pos rfl]
  exact ZU H hy.2.2.2.2.1
 rw[if_neg n4]
 by_cases n5:f=⟨#[111,114,98,105,116]⟩
 ·subst n5
  rw[if_pos rfl]
  exact ZV H hy.2.2.2.2.2
 rw[if_neg n5]
 by_cases n6:f=⟨#[115,116,101,112]⟩
 ·subst n6
  rw[if_pos rfl]
  exact Ah7 H
 rw[if_neg n6]
 by_cases n7:f=⟨#[112,108,97,110]⟩
 ·subst n7
  rw[if_pos rfl]
  exact Ah8 H
 rw[if_neg n7]
 by_cases n8:f=⟨#[103,117,101,115,115]⟩
 ·subst n8
  rw[if_pos rfl]
  exact ZW H
 rw[if_neg n8]
 exact Ah9 b s f v ws w H.hA H.hv n0 n1 n2 n3 n4 n5 n6 n7 n8
end Go.Proofs.YtgmpfeaanjnhaaaGreatDoor
namespace Go.Proofs.YtgmpfeaanjnhaaaGreatDoor
open Go.RowKit
def mkB(l:List UInt8):ByteArray:=⟨l.toArray⟩
theorem Am0{l:List UInt8}:decide ((mkB l).size≠0)= !l.isEmpty:=by
 cases l with
 |nil=>rfl
 |cons a l=>
  show decide ((a::l).toArray.size≠0)=true
  simp
theorem Vn(s:ByteArray):OB s=(wordsL s.data.toList).map mkB:=by
 unfold OB splitB wordsL
 rw[List.filter_map]
 congr 1
 refine List.filter_congr fun l _=>?_
 exact Am0
def ansL(F:Fs)(s:Bn)(w:List UInt8)(ws:List (List UInt8)):List UInt8×Bn:=((answerT F s (mkB w) (ws.map mkB)).1.data.toList,(answerT F s (mkB w) (ws.map mkB)).2)
theorem Asv(w:List UInt8):([35]:List UInt8).isPrefixOf w=Ac1 w:=by
 cases w with
 |nil=>rfl
 |cons a l=>
  show(35==a&&List.isPrefixOf [] l)=(some a==some 35)
  rw[List.isPrefixOf,Bool.and_true]
  show(35==a)=(a==35)
  exact Bool.eq_iff_iff.2 ⟨fun h=>beq_iff_eq.2 (beq_iff_eq.1 h).symm,fun h=>beq_iff_eq.2 (beq_iff_eq.1 h).symm⟩
abbrev tBu:TypeId:=58
def BuA(a:Nat)(l:List UInt8)(w:World):Prop:=Lib.IsBuilderF tBu 5 a a (Lib.byteCells l) w
theorem BuA.new{w:World}{a:Nat}(ha:a=w.heap.size):BuA a [] (w.alloc (.cells #[.pointer none,.slice none 0 0] tBu)):=by
 subst ha
 exact .inl ⟨Nat.le_refl _,.slice none 0 0,heap_alloc_new w _,⟨rfl,.inl ⟨rfl,rfl⟩⟩,nofun⟩
theorem BuA.kept{a b:Nat}{l:List UInt8}{w w':World}(h:BuA a l w)(hk:Aa b w w')(hb:b<a):BuA a l w':=by
 have key:∀p,Lib.BuilderAtF tBu 5 a a p (Lib.byteCells l) w->Lib.BuilderAtF tBu 5 a a p (Lib.byteCells l) w':=by
  rintro p ⟨h1,v,h2,h3,h4⟩
  refine⟨h1,v,?_,?_,h4⟩
  ·rw[hk.block a (Array.getElem?_eq_some_iff.1 h2).1 (by omega)]
   exact h2
  ·refine⟨h3.1,?_⟩
   rcases h3.2 with hn |⟨g,cap,cur,fz,e1,e2,e3,r⟩
   ·exact .inl hn
   ·exact .inr ⟨g,cap,cur,fz,e1,e2,by rw[hk.block g (Array.getElem?_eq_some_iff.1 e3).1 (by omega)];exact e3,r⟩
 exact h.imp (key _) (key _)
theorem Xj(a:Nat)(l:List UInt8)(s:ByteArray)(w:World)(h:BuA a l w)(hl:l.length+s.size<=100000000)(ha:a<=w.heap.size):
    Calls Tryz.prog 14 #[.pointer (some ⟨a,0,none⟩),.string s] w fun e w'=>e=.returned (.tuple #[.int .i64 s.size,.nilIface])/\BuA a (l++s.data.toList) w'/\Below a w w'/\Lib.OthersKept 5 (some a) w w':=by
 refine(Any.Builder_WriteString_k {Ac0 with} shfX156 a a (Lib.byteCells l) s w h (by rw[Lib.byteCells_length];omega) ha).mono ?_
 rintro e w' ⟨he,h1,h2,h3⟩
 refine⟨he,.inr ?_,h2,h3⟩
 have e1:Lib.byteCells (l++s.data.toList)=Lib.byteCells l++Lib.strCells s:=by unfold Lib.byteCells Lib.strCells;rw[List.map_append]
 rw[e1]
 exact h1
theorem Aia(a:Nat)(l:List UInt8)(w:World)(h:BuA a l w)(ha:a<=w.heap.size):
    Calls Tryz.prog 16 #[.pointer (some ⟨a,0,none⟩)] w fun e w'=>e=.returned (.string (mkB l))/\Below a w w':=
 (Any.Builder_String_any_k Apz Ajw a a l w h ha).mono fun _ _ h=>⟨h.1,h.2.2.1⟩
theorem RF.send{s:Bn}(h:RF s)(y:ByteArray×Bool):RF (sendT s y).2:=by
 refine⟨h.inv,h.gue,h.left,?_⟩
 show(EK s.2 y.1 y.2).2.size<=2000
 unfold EK
 split
 ·exact h.wait
 ·split
  ·exact h.wait
  ·show(s.2++y.1).size<=2000
   rw[ByteArray.size_append]
   omega
theorem Eg(s:Bn)(y:ByteArray×Bool):(sendT s y).1.size<=300:=by
 show(EK s.2 y.1 y.2).1.size<=300
 unfold EK
 split
 ·show err1.size<=300;decide
 ·split
  ·show Ar9.size<=300;decide
  ·show Agz.size<=300;decide
theorem GC{l:List UInt8}{n:Nat}(h:l.length<=n):(⟨l.toArray⟩:ByteArray).size<=n:=by
 show l.toArray.size<=n
 simpa using h
theorem Po(s:ByteArray):(toldT s).size<=300:=by
 unfold toldT
 generalize (openS s).1=k
 generalize (openS s).2.1=d
 have hT:(tlR k d).2=true->tlOk (tlR k d).1=true:=by
  unfold tlR
  split
  ·rename_i h
   intro _
   exact h.2.2
  ·intro h
   cases h
 split
 ·rename_i h
  exact GC (Nat.le_trans (Fb 12 _ (Ru (hT h))) (by decide))
 ·decide
theorem Am1{F:Fs}(hF:Jv F){s:Bn}(h:RF s)(f:ByteArray)(ws:List ByteArray):RF (answerT F s f ws).2:=by
 unfold answerT
 split
 ·exact h.send _
 split
 ·exact h.send _
 split
 ·exact h.send _
 split
 ·exact h.send _
 split
 ·exact h.send _
 split
 ·exact h.send _
 split
 ·unfold stepT
  split
  ·exact h.step hF _
  ·exact h
 split
 ·exact h
 split
 ·exact h
 ·exact h
theorem Aib{F:Fs}{s:Bn}(h:RF s)(f:ByteArray)(ws:List ByteArray):(answerT F s f ws).1.size<=300:=by
 have e1:err1.size<=300:=by decide
 unfold answerT
 split
 ·exact Eg _ _
 split
 ·exact Eg _ _
 split
 ·exact Eg _ _
 split
 ·exact Eg _ _
 split
 ·exact Eg _ _
 split
 ·exact Eg _ _
 split
 ·unfold stepT
  split
  ·exact Po _
  ·exact e1
 split
 ·show(planT _ _ _ _ _ _ _).size<=300
  unfold planT
  split
  ·exact GC (Nat.le_trans (Fb 6 _ (RD h.inv)) (by decide))
  ·exact e1
 split
 ·show(guessT _ _ _ _ _ _ _ _).size<=300
  unfold guessT
  split
  ·exact GC (Nat.le_trans (Fb 7 _ (Vk h.gue)) (by decide))
  ·exact e1
 ·exact e1
theorem Vo(l:List Int):(strOf l).size=l.length:=by
 show(l.map fun b=>UInt8.ofNat b.toNat).toArray.size=l.length
 simp
theorem Dm(x:Fra×Bool):CN (B3 x):=by
 unfold CN B3
 cases x.2
 ·show(0:Nat)<=100000;decide
 ·show(FG x.1).1.size<=100000
  unfold FG
  split
  ·rename_i h
   refine GC ?_
   rw[Oy]
   have:x.1.2.data.toList.length=x.1.2.size:=rfl
   omega
  ·show(0:Nat)<=100000;decide
theorem Cz:CN (noBytes,false):=by show(0:Nat)<=100000;decide
theorem Aic(ws:List ByteArray)(hs:∀i,(ws.getD i ⟨#[]⟩).size<=100000):CN (rawT ws)/\CN (readW1 1 ws)/\CN (readW1 3 ws)/\CN (readW2 ws)/\CN (orderT ws)/\CN (elemT ws):=by
 refine⟨?_,?_,?_,?_,?_,?_⟩
 ·unfold rawT
  split
  ·have:=hs 0
   generalize ws.getD 0 ⟨#[]⟩=p at this
   unfold hexT
   split
   ·exact Cz
   ·split
    ·show(strOf _).size<=100000
     rw[Vo,Ce]
     omega
    ·exact Cz
  ·exact Cz
 ·unfold readW1
  split
  ·exact Dm _
  ·exact Cz
 ·unfold readW1
  split
  ·exact Dm _
  ·exact Cz
 ·unfold readW2
  split
  ·exact Dm _
  ·exact Cz
 ·unfold orderT
  split
  ·split
   ·exact Cz
   ·exact Dm _
  ·exact Cz
 ·unfold elemT
  split
  ·exact Dm _
  ·exact Cz
@[go_sem] theorem Asw (w:World):(zeroValue 54).run Tryz.prog w=.ok (.agg (bnL (zeroCra,noBytes)).toArray) w:=by kernel_rfl
def Ez(g:Nat)(L:List (List UInt8))(w:World):Prop:=w.heap[g]? =some (.cells (L.map fun l=>Value.string (mkB l)).toArray 9 (0,0))
theorem Ez.cell{g:Nat}{L:List (List UInt8)}{w:World}(h:Ez g L w)(k:Nat)(hk:k<L.length):w.cell? ⟨g,k,none⟩=some (.string (mkB L[k])):=by
 rw[Lib.cell_of_heap h]
 simp[hk]
theorem Ez.others{g a:Nat}{L:List (List UInt8)}{w w':World}(h:Ez g L w)(k:Lib.OthersKept 5 (some a) w w')(hg:g≠a):Ez g L w':=k g _ h (fun e=>hg (Option.some.inj e)) (fun c fz e=>by cases e)
theorem Ez.kept{g b:Nat}{L:List (List UInt8)}{w w':World}(h:Ez g L w)(k:Aa b w w')(hg:g≠b):Ez g L w':=(k.block g (Array.getElem?_eq_some_iff.1 h).1 hg).trans h
theorem Mi:Tryz.prog.underlying 29=some (.slice (Tryz.prog.elem 29)):=by kernel_rfl
theorem ZX(w:World):(sizeOf (Tryz.prog.elem 29)).run Tryz.prog w=.ok 1 w:=by kernel_rfl
theorem FM.cons{B:Nat}{w:World}{v:Value}{x:ByteArray}{l:List ByteArray}(h:FM B w v (x::l)):∃g c,v=.slice (some ⟨g,0,none⟩) (l.length+1) c/\l.length+1<=c/\B<=g/\g<w.heap.size/\∀i (hi:i<(x::l).length),w.cell? ⟨g,0+i,none⟩=some (.string (x::l)[i]):=by
 have H:=h
 rcases h.2 with⟨_,h0⟩|⟨g,cap,cur,rfl,hg,hgg,hn,rest⟩
 ·cases h0
 ·refine⟨g,cap,rfl,hn,hg,(Array.getElem?_eq_some_iff.1 hgg).1,fun i hi=>?_⟩
  have H':w.ownsRow B 9 1 (.slice (some ⟨g,0,none⟩) (x::l).length cap) (x::l).length ((x::l).map Value.string):=H
  rw[Nat.zero_add]
  refine(H'.cellAt i (by omega)).trans ?_
  rw[List.getElem?_map,List.getElem?_eq_getElem hi]
  rfl
theorem FM.none{B:Nat}{w:World}{v:Value}(h:FM B w v []):∃a c,v=.slice a 0 c:=by
 rcases h.2 with⟨rfl,_⟩|⟨g,cap,cur,rfl,_⟩
 ·exact⟨_,_,rfl⟩
 ·exact⟨_,_,rfl⟩
def JR(g o n c:Nat):Value:=.slice (if c=1 then some ⟨g,o,none⟩else some ⟨g,o+1,none⟩) n (c-1)
theorem Aid(g o n c:Nat)(w:World):(Instr.sliceAt 29 (.slice (some ⟨g,o,none⟩) (n+1) c) (some (.int .i64 1)) none none).run Tryz.prog w=.ok (JR g o n c) w:=by
 rw[run_sliceAt_slice _ _ _ _ _ _ Mi,run_slice_l _ _ _ _ _ Mi _ 1 (by decide) (by omega),ZX]
 show Result.ok (Value.slice (if c=1 then some ⟨g,o,none⟩else(some ⟨g,o,none⟩:Option Addr).map (·.add (1*1))) (n+1-1) (c-1)) w=_
 unfold JR
 split<;>rfl
theorem Vp{w:World}{g o c:Nat}{x:ByteArray}{l:List ByteArray}(hc:l.length+1<=c)(hg:g<w.heap.size)(h:∀i (hi:i<(x::l).length),w.cell? ⟨g,o+i,none⟩=some (.string (x::l)[i])):CE w (JR g o l.length c) l:=by
 refine⟨_,c-1,rfl,by omega,fun hl=>?_⟩
 have h1:1<=l.length:=by
  cases l with
  |nil=>exact absurd rfl hl
  |cons a l=>simp
 rw[if_neg (by omega)]
 refine⟨g,o+1,rfl,hg,fun i hi=>?_⟩
 have:=h (i+1) (by simp;exact hi)
 rw[show o+1+i=o+(i+1)by omega]
 exact this
theorem Vq{w:World}{g o n c:Nat}{bs:List Nat}(hg:g<w.heap.size)(hn:g∉bs):Ey bs w (JR g o n c):=by
 intro a n' c' e ad ea
 unfold JR at e
 cases e
 split at ea
 ·cases ea
  exact⟨hg,hn⟩
 ·cases ea
  exact⟨hg,hn⟩
theorem Fc{l:List ByteArray}{m:Nat}(h:∀x∈l,x.size<=m)(i:Nat):(l.getD i ⟨#[]⟩).size<=m:=by
 rw[List.getD_eq_getElem?_getD]
 cases e:l[i]? with
 |none=>exact Nat.zero_le _
 |some x=>exact h x (List.mem_of_getElem? e)
theorem Aie{l:List ByteArray}(h:∀x∈l,1<=x.size)(i:Nat)(hi:i<l.length):1<=(l.getD i ⟨#[]⟩).size:=by
 rw[List.getD_eq_getElem?_getD,List.getElem?_eq_getElem hi]
 exact h _ (List.getElem_mem hi)
set_option maxRecDepth 100000
set_option maxHeartbeats 20000000
theorem ZY(g o c:Nat)(x:ByteArray)(l:List ByteArray)(w:World)(hg:GW w)(hc:l.length+1<=c)(hlt:g<w.heap.size)(hcell:∀i (hi:i<(x::l).length),w.cell? ⟨g,o+i,none⟩=some (.string (x::l)[i]))(hs:Ll 100000 (x::l))(hl:l.length<=100000):
    Calls Tryz.prog 9 #[.slice (some ⟨g,o,none⟩) (l.length+1) c] w (BK w):=by
 have HG:Hid (GW w):=hg
 have HC:Hid (∀i,i<l.length+1->w.cell? ⟨g,o+i,none⟩=some (.string ((x::l).getD i ⟨#[]⟩))):=fun i hi=>by
  rw[hcell i hi,List.getD_eq_getElem?_getD,List.getElem?_eq_getElem (by simpa using hi)]
  rfl
 have HN:Hid (∀i W,Calls Tryz.prog 18 #[.string ((x::l).getD i ⟨#[]⟩)] W (DT W)):=fun i W=>ZE _ W (Fc hs i)
 have HO:Hid (∀W,Calls Tryz.prog 17 #[.string ((x::l).getD 1 ⟨#[]⟩)] W (JY W)):=fun W=>QH _ W (Fc hs 1)
 have hx0:(x::l).getD 0 ⟨#[]⟩=x:=rfl
 have q0:=HC.out 0 (by omega)
 rw[hx0,Nat.add_zero]at q0
 generalize hF:(x::l).getD=F at HC HN HO hx0
 obtain⟨m,hm⟩:∃m,l.length=m:=⟨_,rfl⟩
 rw[hm]at hc hl HC ⊢
 clear hcell hs hF hx0 hm hg
 go_enter Tryz.func9,Tryz.ntmps9
 go_upto_region 2 with fail
 obtain⟨W0,hW0⟩:∃W0,W0=(w.alloc (.cells #[.string ⟨#[]⟩,.string ⟨#[]⟩,.int .i64 0] 32)).alloc (.cells #[.string ⟨#[98,97,100]⟩,.string ⟨#[]⟩,.int .i64 0] 32):=⟨_,rfl⟩
 rw[<-hW0]
 have Z0:w.heap.size+2=W0.heap.size:=by rw[hW0];simp
 have B0:Below w.heap.size w W0:=by rw[hW0];exact((Below.refl _ _).alloc (Nat.le_refl _) _).alloc (by simp) _
 have AR:Hid (Ap w.heap.size [.string ⟨#[]⟩,.string ⟨#[]⟩,.int .i64 0] W0):=by rw[hW0];exact(Am w _ _ _ rfl).alloc _
 have AB:Hid (Ap (w.heap.size+1) [.string ⟨#[98,97,100]⟩,.string ⟨#[]⟩,.int .i64 0] W0):=by rw[hW0];exact Am _ _ _ _ (by simp)
 have w0:=(B0.cell (p:=⟨g,o,none⟩) hlt).trans q0
 clear hW0 q0
 by_cases hraw:x=⟨#[114,97,119]⟩
 ·subst hraw
  have Ar:=AR.out
  have Ab:=AB.out
  have b0:=Ab.c 0 (zD rfl)
  have b1:=Ab.c 1 (zD rfl)
  have b2:=Ab.c 2 (zD rfl)
  have r0:=Ar.c 0 (zD rfl)
  have r1:=Ar.c 1 (zD rfl)
  have r2:=Ar.c 2 (zD rfl)
  have f0:=Ar.f 0 (zD rfl)
  have f1:=Ar.f 1 (zD rfl)
  have f2:=Ar.f 2 (zD rfl)
  simp only[List.getElem_cons_zero,List.getElem_cons_succ]at b0 b1 b2 r0 r1 r2
  by_cases hm1:m=1
  ·subst hm1
   have w1:=(B0.cell (p:=⟨g,o+1,none⟩) hlt).trans (HC.out 1 (by omega))
   have ho:=HO.out
   generalize F 1 ⟨#[]⟩=y at w1 ho
   clear b0 b1 b2 r0 r1 r2 f0 f1 f2
   go_wp2_with (go_at_call 17;refine(ho _).mono ?_;rintro e U ⟨s,b,rfl,hb1⟩;have L1:=Au B0 hb1;have Ar:=AR.out.below hb1;have Ab:=AB.out.below hb1;have b0:=Ab.c 0 (zD rfl);have b1:=Ab.c 1 (zD rfl);have b2:=Ab.c 2 (zD rfl);have r0:=Ar.c 0 (zD rfl);have r1:=Ar.c 1 (zD rfl);have r2:=Ar.c 2 (zD rfl);have f0:=Ar.f 0 (zD rfl);have f1:=Ar.f 1 (zD rfl);have f2:=Ar.f 2 (zD rfl);cases b)
   ·with_reducible refine Ae ?_
    exact⟨bodyPost_ret (Ax Tryz.results9 (Bu Ar (.string ⟨#[98,97,100]⟩) (.string ⟨#[]⟩) (.int .i64 0)) rfl (by kernel_rfl) (by kernel_rfl)) rfl (BK.mk (Bv L1 (by omega)))⟩
   ·with_reducible refine Ae ?_
    exact⟨bodyPost_ret (Ax Tryz.results9 (Bu Ar (.string ⟨#[119,97,105,116]⟩) (.string s) (.int .i64 0)) rfl (by kernel_rfl) (by kernel_rfl)) rfl (BK.mk (Bv L1 (by omega)))⟩
  ·have hm2:((m:Int)+1==2)=false:=by simp;omega
   go_wp2
   with_reducible refine Ae ?_
   exact⟨bodyPost_ret (Ax Tryz.results9 (Bu Ar (.string ⟨#[98,97,100]⟩) (.string ⟨#[]⟩) (.int .i64 0)) rfl (by kernel_rfl) (by kernel_rfl)) rfl (BK.mk (Bv B0 (by omega)))⟩
 have e0:(x.toList==[114,97,119])=false:=DD hraw
 clear hraw HO
 obtain⟨i1,hi,hz0,hz1,hz2⟩:=info_parts QE
 go_upto_region 11 with fail
 go_loopw [6,7] (fun nv iv wr=>∃(k:Nat) (acc:List Int),k<=m+1/\iv=.int .i64 k/\acc.length+1=k/\Hid (Rr (w.heap.size+2) wr nv acc)/\Below (w.heap.size+2) W0 wr/\w.heap.size+2<=wr.heap.size) (fun _ i _=>m+1-(intOf i).toNat)
 case atStart=>exact⟨1,[],by omega,rfl,rfl,World.ownsRow_nil _ _ _ _,Below.refl _ _,by omega⟩
 case round=>
  obtain⟨k,acc,hk,rfl,hal,HA,hnx,hz⟩:=hrel
  have Ar:=AR.out.under hnx (by omega) (by omega)
  have Ab:=AB.out.under hnx (by omega) (by omega)
  by_cases hkm:k<m+1
  case pos=>
   have wk:=((hnx.cell (p:=⟨g,o+k,none⟩) (by show g<w.heap.size+2;omega)).trans (B0.cell (p:=⟨g,o+k,none⟩) hlt)).trans (HC.out k hkm)
   have hn:=HN.out k
   generalize F k ⟨#[]⟩=y at wk hn
   clear w0
   go_wp2_with (first
    |(go_at_call 18;refine(hn _).mono ?_;rintro e U ⟨n,b,rfl,hnr,hb1⟩;have hAU:=HA.out.below hb1;have L1:=Au (B0.trans (hnx.mono (by omega))) hb1;have Ar:=Ar.below hb1;have Ab:=Ab.below hb1;have b0:=Ab.c 0 (zD rfl);have b1:=Ab.c 1 (zD rfl);have b2:=Ab.c 2 (zD rfl);have r0:=Ar.c 0 (zD rfl);have r1:=Ar.c 1 (zD rfl);have r2:=Ar.c 2 (zD rfl);have f0:=Ar.f 0 (zD rfl);have f1:=Ar.f 1 (zD rfl);have f2:=Ar.f 2 (zD rfl);have hs1:=hb1.size;cases b)
    |(at_builtin;refine wpList_append_own _ rfl (.tmp 59) (.tmp 61) 69 rfl (w.heap.size+2) 2 i1 (.int .i64 0) 1 8 Tryz.underlying69 hi hz0 hz1 hz2 rfl (by decide) _ _ _ rfl (hAU.alloc _) ⟨U.heap.size,0,none⟩ 1 1 [.int .i64 n] rfl rfl (Cy _ _ _) (by intro u hu;simp at hu;subst hu;rfl) (by unfold maxLen;omega) (by omega) (by simp;omega) ?_;intro v3 w3 hown3 hgrow3 hnil3))
   ·with_reducible refine Ae ?_
    exact⟨bodyPost_ret (Ax Tryz.results9 (Bu Ar (.string ⟨#[98,97,100]⟩) (.string ⟨#[]⟩) (.int .i64 0)) rfl (by kernel_rfl) (by kernel_rfl)) rfl (BK.mk (Bv L1 (by omega)))⟩
   ·have hbz:=((hnx.trans (hb1.mono hz)).alloc (by omega) (.cells #[.int .i64 n] 2)).grown hgrow3 (by simp;omega) (fun j hj=>(World.ownsRow.lt hAU j hj).1)
    have hs3:=hgrow3.size
    simp at hs3
    clear hnil3 hgrow3
    go_roundw
    case rel=>
     refine⟨k+1,acc++[n],by omega,by go_num,by rw[List.length_append];exact congrArg (·+1) hal,?_,hbz,by omega⟩
     show w3.ownsRow (w.heap.size+2) 2 1 _ (acc++[n]).length _
     rw[List.length_append,List.map_append]
     exact hown3
    case measure=>simp[intOf]<;>omega
  obtain rfl:m=acc.length:=by omega
  clear hkm HN
  have w0:=(hnx.cell (p:=⟨g,o,none⟩) (by show g<w.heap.size+2;omega)).trans w0
  have b0:=Ab.c 0 (zD rfl)
  have b1:=Ab.c 1 (zD rfl)
  have b2:=Ab.c 2 (zD rfl)
  have r0:=Ar.c 0 (zD rfl)
  have r1:=Ar.c 1 (zD rfl)
  have r2:=Ar.c 2 (zD rfl)
  have f0:=Ar.f 0 (zD rfl)
  have f1:=Ar.f 1 (zD rfl)
  have f2:=Ar.f 2 (zD rfl)
  simp only[List.getElem_cons_zero,List.getElem_cons_succ]at b0 b1 b2 r0 r1 r2
  have L1:=B0.trans (hnx.mono (by omega))
  obtain⟨na,nc,hne⟩:=HA.out.len
  have hkd:=fun W=>Yp x W
  subst hne
  go_upto_region 18 with (go_at_call 19;refine(hkd _).mono ?_;rintro e U ⟨kk,cc,rfl,hkc,rfl⟩)
  have hkp:0<k:=by omega
  have cb0:0<=cc:=by omega
  have cb1:cc<=6:=by omega
  by_cases hx:0<kk/\(acc.length:Int)=cc+1
  ·rcases hkc with⟨rfl,rfl⟩|⟨k1,k3,rfl |rfl⟩
   ·exact absurd hx.1 (by decide)
   ·have hlen:acc.length=4:=by have:=hx.2;omega
    have hk0:=hx.1
    clear hx hal hk
    obtain⟨n0,r0,rfl,h0⟩:=AU hlen
    obtain⟨n1,r1,rfl,h1⟩:=AU h0
    obtain⟨n2,r2,rfl,h2⟩:=AU h1
    obtain⟨n3,r3,rfl,h3⟩:=AU h2
    obtain rfl:=List.length_eq_zero_iff.1 h3
    obtain⟨g2,cap,tl,hne,hg2,hAN,hcap⟩:=HA.out.arr (List.cons_ne_nil _ _)
    cases hne
    simp only[List.map_cons,List.map_nil,List.cons_append,List.nil_append,List.length_cons,List.length_nil]at hAN hcap
    go_upto_region 19 with fail
    rename_i hKK
    exact EG (by kernel_rfl) (GB (X:=lnX Tryz.prog) Xd HG.out L1 Ar Ab hAN hg2 rfl rfl rfl rfl rfl rfl rfl (fun d Post hp=>Eq.mpr (Agv kk n0 n1 n2 n3 tl nc d Post) (fun _ _ _ _ _ _ x y t=>hp x y t)) (fun a w h=>hKK a w (EG (by kernel_rfl) h)))
   ·have hlen:acc.length=7:=by have:=hx.2;omega
    have hk0:=hx.1
    clear hx hal hk
    obtain⟨n0,r0,rfl,h0⟩:=AU hlen
    obtain⟨n1,r1,rfl,h1⟩:=AU h0
    obtain⟨n2,r2,rfl,h2⟩:=AU h1
    obtain⟨n3,r3,rfl,h3⟩:=AU h2
    obtain⟨n4,r4,rfl,h4⟩:=AU h3
    obtain⟨n5,r5,rfl,h5⟩:=AU h4
    obtain⟨n6,r6,rfl,h6⟩:=AU h5
    obtain rfl:=List.length_eq_zero_iff.1 h6
    obtain⟨g2,cap,tl,hne,hg2,hAN,hcap⟩:=HA.out.arr (List.cons_ne_nil _ _)
    cases hne
    simp only[List.map_cons,List.map_nil,List.cons_append,List.nil_append,List.length_cons,List.length_nil]at hAN hcap
    go_upto_region 19 with fail
    rename_i hKK
    exact EG (by kernel_rfl) (GB (X:=lnX Tryz.prog) Xd HG.out L1 Ar Ab hAN hg2 rfl rfl rfl rfl rfl rfl rfl (fun d Post hp=>Eq.mpr (Ar8 kk n0 n1 n2 n3 n4 n5 n6 tl nc d Post) (fun _ _ _ _ _ _ _ _ _ x y t=>hp x y t)) (fun a w h=>hKK a w (EG (by kernel_rfl) h)))
  ·go_cut [70]from 71 (fun p wx=>p=.bool false/\wx=U)
   case first=>
    by_cases hk0:0<kk
    ·have hP:((acc.length:Int)==cc+1)=false:=beq_eq_false_iff_ne.2 (fun e=>hx ⟨hk0,e⟩)
     go_wp2_with fail
     go_meet
     case rel=>exact⟨rfl,rfl⟩
    ·have hP:decide (0<kk)=false:=decide_eq_false hk0
     go_wp2_with fail
     go_meet
     case rel=>exact⟨rfl,rfl⟩
   obtain⟨rfl,rfl⟩:=hcut
   clear hx hkc
   by_cases x_order:x=⟨#[111,114,100,101,114]⟩
   ·subst x_order
    by_cases hlen:acc.length=2
    ·clear hal hk
     obtain⟨n0,r0,rfl,h0⟩:=AU hlen
     obtain⟨n1,r1,rfl,h1⟩:=AU h0
     obtain rfl:=List.length_eq_zero_iff.1 h1
     obtain⟨g2,cap,tl,hne,hg2,hAN,hcap⟩:=HA.out.arr (List.cons_ne_nil _ _)
     cases hne
     simp only[List.map_cons,List.map_nil,List.cons_append,List.nil_append,List.length_cons,List.length_nil]at hAN hcap
     have a1:=hAN.c 1 (by simp)
     simp only[List.getElem_cons_zero,List.getElem_cons_succ]at a1
     by_cases n3:n1=3
     ·subst n3
      go_wp2
      with_reducible refine Ae ?_
      exact⟨bodyPost_ret (Ax Tryz.results9 (Bu Ar (.string ⟨#[98,97,100]⟩) (.string ⟨#[]⟩) (.int .i64 0)) rfl (by kernel_rfl) (by kernel_rfl)) rfl (BK.mk (Bv L1 (by omega)))⟩
     ·go_upto_region 29 with fail
      rename_i hKK
      exact EG (by kernel_rfl) (GB (X:=lnO Tryz.prog) Amc HG.out L1 Ar Ab hAN hg2 rfl rfl rfl rfl rfl rfl rfl (fun d Post hp=>Eq.mpr (Agw kk cc n0 n1 tl nc d Post) (fun _ _ _ _ _ x y t=>hp x y t)) (fun a w h=>hKK a w (EG (by kernel_rfl) h)))
    ·have hl2:((acc.length:Int)==2)=false:=beq_eq_false_iff_ne.2 (fun e=>hlen (by omega))
     clear hlen
     go_wp2
     with_reducible refine Ae ?_
     exact⟨bodyPost_ret (Ax Tryz.results9 (Bu Ar (.string ⟨#[98,97,100]⟩) (.string ⟨#[]⟩) (.int .i64 0)) rfl (by kernel_rfl) (by kernel_rfl)) rfl (BK.mk (Bv L1 (by omega)))⟩
   have e_order:(x.toList==[111,114,100,101,114])=false:=DD x_order
   clear x_order
   by_cases x_orbit:x=⟨#[111,114,98,105,116]⟩
   ·subst x_orbit
    by_cases hlen:acc.length=8
    ·clear hal hk
     obtain⟨n0,r0,rfl,h0⟩:=AU hlen
     obtain⟨n1,r1,rfl,h1⟩:=AU h0
     obtain⟨n2,r2,rfl,h2⟩:=AU h1
     obtain⟨n3,r3,rfl,h3⟩:=AU h2
     obtain⟨n4,r4,rfl,h4⟩:=AU h3
     obtain⟨n5,r5,rfl,h5⟩:=AU h4
     obtain⟨n6,r6,rfl,h6⟩:=AU h5
     obtain⟨n7,r7,rfl,h7⟩:=AU h6
     obtain rfl:=List.length_eq_zero_iff.1 h7
     obtain⟨g2,cap,tl,hne,hg2,hAN,hcap⟩:=HA.out.arr (List.cons_ne_nil _ _)
     cases hne
     simp only[List.map_cons,List.map_nil,List.cons_append,List.nil_append,List.length_cons,List.length_nil]at hAN hcap
     go_upto_region 32 with fail
     rename_i hKK
     exact EG (by kernel_rfl) (GB (X:=lnU Tryz.prog) Amd HG.out L1 Ar Ab hAN hg2 rfl rfl rfl rfl rfl rfl rfl (fun d Post hp=>Eq.mpr (Agx kk cc n0 n1 n2 n3 n4 n5 n6 n7 tl nc d Post) (fun _ _ _ _ x y t=>hp x y t)) (fun a w h=>hKK a w (EG (by kernel_rfl) h)))
    ·have hl2:((acc.length:Int)==8)=false:=beq_eq_false_iff_ne.2 (fun e=>hlen (by omega))
     clear hlen
     go_wp2
     with_reducible refine Ae ?_
     exact⟨bodyPost_ret (Ax Tryz.results9 (Bu Ar (.string ⟨#[98,97,100]⟩) (.string ⟨#[]⟩) (.int .i64 0)) rfl (by kernel_rfl) (by kernel_rfl)) rfl (BK.mk (Bv L1 (by omega)))⟩
   have e_orbit:(x.toList==[111,114,98,105,116])=false:=DD x_orbit
   clear x_orbit
   by_cases x_step:x=⟨#[115,116,101,112]⟩
   ·subst x_step
    by_cases hlen:acc.length=1
    ·clear hal hk
     obtain⟨n0,r0,rfl,h0⟩:=AU hlen
     obtain rfl:=List.length_eq_zero_iff.1 h0
     obtain⟨g2,cap,tl,hne,hg2,hAN,hcap⟩:=HA.out.arr (List.cons_ne_nil _ _)
     cases hne
     simp only[List.map_cons,List.map_nil,List.cons_append,List.nil_append,List.length_cons,List.length_nil]at hAN hcap
     have a0:=hAN.c 0 (by simp)
     simp only[List.getElem_cons_zero]at a0
     go_wp2
     with_reducible refine Ae ?_
     exact⟨bodyPost_ret (Ax Tryz.results9 (Bu Ar (.string ⟨#[115,116,101,112]⟩) (.string ⟨#[]⟩) (.int .i64 n0)) rfl (by kernel_rfl) (by kernel_rfl)) rfl (BK.mk (Bv L1 (by omega)))⟩
    ·have hl2:((acc.length:Int)==1)=false:=beq_eq_false_iff_ne.2 (fun e=>hlen (by omega))
     clear hlen
     go_wp2
     with_reducible refine Ae ?_
     exact⟨bodyPost_ret (Ax Tryz.results9 (Bu Ar (.string ⟨#[98,97,100]⟩) (.string ⟨#[]⟩) (.int .i64 0)) rfl (by kernel_rfl) (by kernel_rfl)) rfl (BK.mk (Bv L1 (by omega)))⟩
   have e_step:(x.toList==[115,116,101,112])=false:=DD x_step
   clear x_step
   by_cases x_plan:x=⟨#[112,108,97,110]⟩
   ·subst x_plan
    by_cases hlen:acc.length=0
    ·clear hal hk
     obtain rfl:=List.length_eq_zero_iff.1 hlen
     go_wp2
     with_reducible refine Ae ?_
     exact⟨bodyPost_ret (Ax Tryz.results9 (Bu Ar (.string ⟨#[112,108,97,110]⟩) (.string ⟨#[]⟩) (.int .i64 0)) rfl (by kernel_rfl) (by kernel_rfl)) rfl (BK.mk (Bv L1 (by omega)))⟩
    ·have hl2:((acc.length:Int)==0)=false:=beq_eq_false_iff_ne.2 (fun e=>hlen (by omega))
     clear hlen
     go_wp2
     with_reducible refine Ae ?_
     exact⟨bodyPost_ret (Ax Tryz.results9 (Bu Ar (.string ⟨#[98,97,100]⟩) (.string ⟨#[]⟩) (.int .i64 0)) rfl (by kernel_rfl) (by kernel_rfl)) rfl (BK.mk (Bv L1 (by omega)))⟩
   have e_plan:(x.toList==[112,108,97,110])=false:=DD x_plan
   clear x_plan
   by_cases x_guess:x=⟨#[103,117,101,115,115]⟩
   ·subst x_guess
    by_cases hlen:acc.length=0
    ·clear hal hk
     obtain rfl:=List.length_eq_zero_iff.1 hlen
     go_wp2
     with_reducible refine Ae ?_
     exact⟨bodyPost_ret (Ax Tryz.results9 (Bu Ar (.string ⟨#[103,117,101,115,115]⟩) (.string ⟨#[]⟩) (.int .i64 0)) rfl (by kernel_rfl) (by kernel_rfl)) rfl (BK.mk (Bv L1 (by omega)))⟩
    ·have hl2:((acc.length:Int)==0)=false:=beq_eq_false_iff_ne.2 (fun e=>hlen (by omega))
     clear hlen
     go_wp2
     with_reducible refine Ae ?_
     exact⟨bodyPost_ret (Ax Tryz.results9 (Bu Ar (.string ⟨#[98,97,100]⟩) (.string ⟨#[]⟩) (.int .i64 0)) rfl (by kernel_rfl) (by kernel_rfl)) rfl (BK.mk (Bv L1 (by omega)))⟩
   have e_guess:(x.toList==[103,117,101,115,115])=false:=DD x_guess
   clear x_guess
   go_wp2
   with_reducible refine Ae ?_
   exact⟨bodyPost_ret (Ax Tryz.results9 (Bu Ar (.string ⟨#[98,97,100]⟩) (.string ⟨#[]⟩) (.int .i64 0)) rfl (by kernel_rfl) (by kernel_rfl)) rfl (BK.mk (Bv L1 (by omega)))⟩
def Do(l:List (ByteArray×ByteArray×Int)):List Value:=l.flatMap fun x=>[.string x.1,.string x.2.1,.int .i64 x.2.2]
theorem Mj(l m:List (ByteArray×ByteArray×Int)):Do (l++m)=Do l++Do m:=by simp[Do]
theorem Mk:∀(l:List (ByteArray×ByteArray×Int)) (i:Nat) (h:i<l.length),(Do l)[i*3]? =some (.string l[i].1)/\(Do l)[i*3+1]? =some (.string l[i].2.1)/\(Do l)[i*3+2]? =some (.int .i64 l[i].2.2)
 |x::l,0,_=>⟨rfl,rfl,rfl⟩
 |x::l,i+1,h=>by
  have:=Mk l i (by simpa using h)
  have e:Do (x::l)=[.string x.1,.string x.2.1,.int .i64 x.2.2]++Do l:=rfl
  rw[e,show(i+1)*3=i*3+3 by omega]
  exact this
def Lns(B:Nat)(w:World)(v:Value)(l:List (ByteArray×ByteArray×Int)):Prop:=w.ownsRow B 32 3 v l.length (Do l)
theorem Lns.below{B:Nat}{w w':World}{v:Value}{l:List (ByteArray×ByteArray×Int)}(h:Lns B w v l)(hb:Below w.heap.size w w'):Lns B w' v l:=by
 refine⟨h.1,?_⟩
 rcases h.2 with hn |⟨g,cap,cur,rfl,hg,hgg,rest⟩
 ·exact .inl hn
 ·exact .inr ⟨g,cap,cur,rfl,hg,by rw[hb.block g (Array.getElem?_eq_some_iff.1 hgg).1];exact hgg,rest⟩
theorem Lns.base{B B':Nat}{w:World}{v:Value}{l:List (ByteArray×ByteArray×Int)}(h:Lns B' w v l)(hB:B<=B'):Lns B w v l:=
 ⟨h.1,h.2.imp id (fun⟨g,cap,cur,a,b,c⟩=>⟨g,cap,cur,a,Nat.le_trans hB b,c⟩)⟩
theorem Lns.shape{B:Nat}{w:World}{v:Value}{l:List (ByteArray×ByteArray×Int)}(h:Lns B w v l):
    ∃ (a:Option Addr) (c:Nat),v=.slice a l.length c/\(l≠[]->∃g,a=some ⟨g,0,none⟩/\g<w.heap.size/\
      ∀i (hi:i<l.length),w.cell? ⟨g,i*3,none⟩=some (.string l[i].1)/\w.cell? ⟨g,i*3+1,none⟩=some (.string l[i].2.1)/\w.cell? ⟨g,i*3+2,none⟩=some (.int .i64 l[i].2.2)):=by
 have H:=h
 rcases h.2 with⟨rfl,h0⟩|⟨g,cap,cur,rfl,hg,hgg,hn,rest⟩
 ·exact⟨none,0,by rw[h0],fun hne=>absurd (List.length_eq_zero_iff.1 h0) hne⟩
 ·refine⟨some ⟨g,0,none⟩,cap,rfl,fun _=>⟨g,rfl,(Array.getElem?_eq_some_iff.1 hgg).1,fun i hi=>?_⟩⟩
  have H':w.ownsRow B 32 3 (.slice (some ⟨g,0,none⟩) l.length cap) l.length (Do l):=H
  have c:=Mk l i hi
  exact⟨(H'.cellAt (i*3) (by omega)).trans c.1,(H'.cellAt (i*3+1) (by omega)).trans c.2.1,(H'.cellAt (i*3+2) (by omega)).trans c.2.2⟩
theorem ZZ:(Tryz.prog.info? 32).map (fun i=>(i.zero,i.size,i.bytes))=some (some (.agg #[.string ⟨#[]⟩,.string ⟨#[]⟩,.int .i64 0]),3,40):=by kernel_rfl
theorem Ml(U:World)(g:Nat)(x y z:Value)(t:TypeId)(hg:g=U.heap.size):∀j u,[x,y,z][j]? =some u->(U.alloc (.cells #[x,y,z] t)).cell? ((⟨g,0,none⟩:Addr).add j)=some u:=by
 subst hg
 intro j u hj
 have A:=Am U U.heap.size [x,y,z] t rfl
 obtain⟨hj',rfl⟩:=List.getElem?_eq_some_iff.1 hj
 rw[Ix]
 exact A.c j hj'
theorem GD{B:Nat}{w:World}{v:Value}{l:List ByteArray}(h:FM B w v l)(hl:0<l.length):∃g c,v=.slice (some ⟨g,0,none⟩) l.length c/\g<w.heap.size/\∀i,i<l.length->w.cell? ⟨g,i,none⟩=some (.string (l.getD i ⟨#[]⟩)):=by
 cases l with
 |nil=>cases hl
 |cons x r=>
  obtain⟨g,c,e,_,_,h2,h3⟩:=h.cons
  refine⟨g,c,e,h2,fun i hi=>?_⟩
  have:=h3 i hi
  rw[Nat.zero_add]at this
  rw[this,List.getD_eq_getElem?_getD,List.getElem?_eq_getElem hi]
  rfl
def Am2(l:List ByteArray):Prop:=∀x∈l,1<=x.size/\x.size<=70000
theorem Am2.add{l:List ByteArray}{x:ByteArray}(h:Am2 l)(h1:1<=x.size)(h2:x.size<=70000):Am2 (l++[x]):=by
 intro y hy
 rcases List.mem_append.1 hy with h3 |h3
 ·exact h y h3
 ·rw[List.mem_singleton.1 h3]
  exact⟨h1,h2⟩
def Dp(s:ByteArray)(w:World)(e:Ending)(w':World):Prop:=∃v l,e=.returned (.tuple #[v,.bool (decide (s.size<=65536/\s.data.toList.count 10<=1024))])/\Lns w.heap.size w' v l/\l.length<=2000/\Below w.heap.size w w'
theorem Dp.mk{s:ByteArray}{w w':World}{v:Value}{l:List (ByteArray×ByteArray×Int)}{b:Bool}(hb:b=decide (s.size<=65536/\s.data.toList.count 10<=1024))(h1:Lns w.heap.size w' v l)(h2:l.length<=2000)(h3:Below w.heap.size w w'):Dp s w (.returned (.tuple #[v,.bool b])) w':=⟨v,l,by rw[hb],h1,h2,h3⟩
theorem Mn(s:ByteArray)(w:World)(hg:GW w)(hs:s.size<=70000):Calls Tryz.prog 5 #[.string s] w (Dp s w):=by
 obtain⟨i1,hi,hz0,hz1,hz2⟩:=info_parts ZZ
 obtain⟨i2,si,sz0,sz1,sz2⟩:=info_parts Lj
 have HG:Hid (GW w):=hg
 have hsp:=Lm s 10 w (by omega)
 have ec:GI 10 s s.size=s.data.toList.count 10:=Adi 10 s
 rw[ec]at hsp
 obtain⟨q,hq⟩:∃q,s.data.toList.count 10=q:=⟨_,rfl⟩
 rw[hq]at hsp
 have HQ:Hid (s.data.toList.count 10=q):=hq
 have hq0:q<=70000:=by
  rw[<-hq]
  exact Nat.le_trans List.count_le_length hs
 clear ec hq hg
 by_cases h1:65536<s.size
 ·have hb:Hid (false=decide (s.size<=65536/\s.data.toList.count 10<=1024)):=(decide_eq_false (by omega)).symm
  go_enter Tryz.func5,Tryz.ntmps5
  go_wp2_with (go_at_call 8;refine hsp.mono ?_;rintro e w1 ⟨v,l,rfl,hst,hlen,hsh,hb1⟩;obtain⟨g,c,rfl,hg1,hcl⟩:=GD hst (by omega);rw[hlen])
  go_ret2
  exact Dp.mk (v:=.slice none 0 0) (l:=[]) hb.out (World.ownsRow_nil _ _ _ _) (Nat.zero_le _) hb1
 by_cases h2:1024<q
 ·have hb:Hid (false=decide (s.size<=65536/\s.data.toList.count 10<=1024)):=(decide_eq_false (by rw[HQ.out];omega)).symm
  go_enter Tryz.func5,Tryz.ntmps5
  go_wp2_with (go_at_call 8;refine hsp.mono ?_;rintro e w1 ⟨v,l,rfl,hst,hlen,hsh,hb1⟩;obtain⟨g,c,rfl,hg1,hcl⟩:=GD hst (by omega);rw[hlen])
  go_ret2
  exact Dp.mk (v:=.slice none 0 0) (l:=[]) hb.out (World.ownsRow_nil _ _ _ _) (Nat.zero_le _) hb1
 have hb:Hid (true=decide (s.size<=65536/\s.data.toList.count 10<=1024)):=(decide_eq_true (by rw[HQ.out];omega)).symm
 go_enter Tryz.func5,Tryz.ntmps5
 go_wp2_with (go_at_call 8;refine hsp.mono ?_;rintro e w1 ⟨v,l,rfl,hst,hlen,hsh,hb1⟩;obtain⟨g,c,rfl,hg1,hcl⟩:=GD hst (by omega);have HC:Hid (∀i,i<q+1->w1.cell? ⟨g,i,none⟩=some (.string (l.getD i ⟨#[]⟩))):=fun i hi=>hcl i (by omega);have HSz:Hid (∀i,(l.getD i ⟨#[]⟩).size<=s.size):=Fc hsh;rw[hlen];clear hst hcl hsh hlen)
 generalize l.getD=F at HC HSz
 go_loopw [5,6] (fun ov iv wr=>∃(k:Nat) (acc:List (ByteArray×ByteArray×Int)),k<=q+1/\iv=.int .i64 k/\acc.length<=k/\Hid (Lns w1.heap.size wr ov acc)/\Below w1.heap.size w1 wr) (fun _ i _=>q+1-(intOf i).toNat)
 case atStart=>exact⟨0,[],by omega,rfl,Nat.le_refl _,World.ownsRow_nil _ _ _ _,Below.refl _ _⟩
 case round=>
  obtain⟨k,acc,hk,rfl,hal,HA,hnx⟩:=hrel
  have hs1:=hb1.size
  have hs2:=hnx.size
  by_cases hkq:k<q+1
  case neg=>
   go_wp2
   go_ret2
   exact Dp.mk hb.out (HA.out.base hs1) (by omega) (hb1.trans (hnx.mono hs1))
  have wk:=(hnx.cell (p:=⟨g,k,none⟩) hg1).trans (HC.out k hkq)
  have hyl:(F k ⟨#[]⟩).size<=70000:=Nat.le_trans (HSz.out k) (by omega)
  generalize F k ⟨#[]⟩=y at wk hyl
  have hsq:=fun W=>Lm y 32 W (by omega)
  have hcl:=Aj6 32 y y.size
  obtain⟨p,hp⟩:∃p,GI 32 y y.size=p:=⟨_,rfl⟩
  rw[hp]at hsq hcl
  clear hp
  go_wp2_with (go_at_call 8;refine(hsq _).mono ?_;rintro e w2 ⟨v2,l2,rfl,hst2,hlen2,hsh2,hb2⟩;obtain⟨g2,c2,rfl,hg2,hcl2⟩:=GD hst2 (by omega);have HC2:Hid (∀i,i<p+1->w2.cell? ⟨g2,i,none⟩=some (.string (l2.getD i ⟨#[]⟩))):=fun i hi=>hcl2 i (by omega);have HS2:Hid (∀i,(l2.getD i ⟨#[]⟩).size<=y.size):=Fc hsh2;rw[hlen2];clear hst2 hcl2 hsh2 hlen2)
  generalize l2.getD=F2 at HC2 HS2
  have hs3:=hb2.size
  go_loopw [8,9] (fun wv jv wz=>∃(j:Nat) (ws:List ByteArray),j<=p+1/\jv=.int .i64 j/\ws.length<=j/\Hid (Am2 ws)/\Hid (FM w2.heap.size wz wv ws)/\Below w2.heap.size w2 wz) (fun _ i _=>p+1-(intOf i).toNat)
  case atStart=>exact⟨0,[],by omega,rfl,Nat.le_refl _,(by intro x hx;cases hx),World.ownsRow_nil _ _ _ _,Below.refl _ _⟩
  case round=>
   obtain⟨j,ws,hj,rfl,hwl,hgood,HS,hnz⟩:=hrel
   have hs4:=hnz.size
   by_cases hjp:j<p+1
   case pos=>
    have wj:=(hnz.cell (p:=⟨g2,j,none⟩) hg2).trans (HC2.out j hjp)
    have hxl:(F2 j ⟨#[]⟩).size<=70000:=Nat.le_trans (HS2.out j) hyl
    generalize F2 j ⟨#[]⟩=x at wj hxl
    by_cases h0:x.size=0
    ·obtain rfl:x=⟨#[]⟩:=ByteArray.ext (Array.eq_empty_of_size_eq_zero h0)
     go_wp2
     go_roundw
     case rel=>exact⟨j+1,ws,by omega,by go_num,by omega,hgood,HS,hnz⟩
     case measure=>simp[intOf]<;>omega
    ·have hne:x.toList.isEmpty=false:=Dw h0
     go_wp2_with (at_builtin;refine wpList_append_own _ rfl (.tmp 43) (.tmp 48) 29 rfl w2.heap.size 9 i2 (.string ⟨#[]⟩) 1 16 Tryz.underlying29 si sz0 sz1 sz2 rfl (by decide) _ _ _ rfl (HS.out.alloc _) ⟨wr.heap.size,0,none⟩ 1 1 [.string x] rfl rfl (Cy _ _ _) (by intro u hu;simp at hu;subst hu;rfl) (by unfold maxLen;omega) (by omega) (by simp;omega) ?_;intro v3 w3 hown3 hgrow3 hnil3)
     have hbz:=(hnz.alloc hs4 (.cells #[.string x] 9)).grown hgrow3 (by simp;omega) (fun j hj=>(World.ownsRow.lt HS.out j hj).1)
     clear hnil3 hgrow3
     go_roundw
     case rel=>
      refine⟨j+1,ws++[x],by omega,by go_num,by rw[List.length_append];exact Nat.succ_le_succ hwl,hgood.out.add (by omega) hxl,?_,hbz⟩
      show w3.ownsRow w2.heap.size 9 1 _ (ws++[x]).length _
      rw[List.length_append,List.map_append]
      exact hown3
     case measure=>simp[intOf]<;>omega
   obtain rfl:j=p+1:=by omega
   have hnq:=hnx.trans ((hb2.mono hs2).trans (hnz.mono (by omega)))
   have hAz:=(HA.out.below hb2).below hnz
   cases ws with
   |nil=>
    obtain⟨a3,c3,rfl⟩:=HS.out.none
    go_wp2
    go_roundw
    case rel=>exact⟨k+1,acc,by omega,by go_num,by omega,hAz,hnq⟩
    case measure=>simp[intOf]<;>omega
   | cons x r=>
    obtain⟨g3,c3,rfl,hc3,_,hg3,hcl3⟩:=HS.out.cons
    have w3:=hcl3 0 (by simp)
    have hx1:=(hgood.out x List.mem_cons_self).1
    have hx0:0<x.size:=by omega
    obtain⟨b0,hb0⟩:∃b,(x[0]'hx0).toNat=b:=⟨_,rfl⟩
    by_cases hb3:b0=35
    ·subst hb3
     go_wp2
     go_roundw
     case rel=>exact⟨k+1,acc,by omega,by go_num,by omega,hAz,hnq⟩
     case measure=>simp[intOf]<;>omega
    ·have hb4:((b0:Int) != 35)=true:=by simp;omega
     have hln:=ZY g3 0 c3 x r wr (HG.out.below ((hb1.trans (hnx.mono hs1)).trans ((hb2.mono (by omega)).trans (hnz.mono (by omega))))) hc3 hg3 hcl3 (fun z hz=>Nat.le_trans (hgood.out z hz).2 (by decide)) (by rw[List.length_cons]at hwl;omega)
     clear hcl3
     go_wp2_with (first
      |(go_at_call 9;refine hln.mono ?_;rintro e w4 ⟨la,lb,lt,rfl,hb5⟩;have hA4:=hAz.below hb5;have hs5:=hb5.size)
      |(at_builtin;refine wpList_append_own _ rfl (.tmp 60) (.tmp 63) 23 rfl w1.heap.size 32 i1 (.agg #[.string ⟨#[]⟩,.string ⟨#[]⟩,.int .i64 0]) 3 40 Tryz.underlying23 hi hz0 hz1 hz2 rfl (by decide) _ _ _ rfl (hA4.alloc _) ⟨w4.heap.size,0,none⟩ 1 1 [.string la,.string lb,.int .i64 lt] rfl rfl (Ml _ _ _ _ _ _ rfl) (by intro u hu;simp at hu;rcases hu with rfl |rfl |rfl<;>rfl) (by unfold maxLen;omega) (by omega) (by simp;omega) ?_;intro v5 w5 hown5 hgrow5 hnil5))
     have hbz:=((hnq.trans (hb5.mono (by omega))).alloc (by omega) (.cells #[.string la,.string lb,.int .i64 lt] 32)).grown hgrow5 (by simp;omega) (fun j hj=>(World.ownsRow.lt hA4 j hj).1)
     clear hnil5 hgrow5
     go_roundw
     case rel=>
      refine⟨k+1,acc++[(la,lb,lt)],by omega,by go_num,by rw[List.length_append];exact Nat.succ_le_succ hal,?_,hbz⟩
      show w5.ownsRow w1.heap.size 32 3 _ (acc++[(la,lb,lt)]).length _
      rw[List.length_append,Mj]
      exact hown5
     case measure=>simp[intOf]<;>omega
theorem Vr(B:Nat)(v:Value)(l:List (ByteArray×ByteArray×Int))(w:World)(hv:Lns B w v l)(hl:l.length<=2000):Calls Tryz.prog 6 #[v] w fun e w'=>∃n:Nat,e=.returned (.int .i64 n)/\n<=2000/\Below w.heap.size w w':=by
 obtain⟨a,c,rfl,hsh⟩:=hv.shape
 clear hv
 obtain⟨m,hm⟩:∃m,l.length=m:=⟨_,rfl⟩
 rw[hm]at hl ⊢
 have HS:Hid (∀k,k<m->∃g x y t,a=some ⟨g,0,none⟩/\g<w.heap.size/\w.cell? ⟨g,k*3,none⟩=some (.string x)/\w.cell? ⟨g,k*3+1,none⟩=some (.string y)/\w.cell? ⟨g,k*3+2,none⟩=some (.int .i64 t)):=fun k hk=>by
  obtain⟨g,e,hg,hc⟩:=hsh (fun e=>by rw[e]at hm;simp at hm;omega)
  obtain⟨c1,c2,c3⟩:=hc k (by omega)
  exact⟨g,_,_,_,e,hg,c1,c2,c3⟩
 clear hsh hm
 go_enter Tryz.func6,Tryz.ntmps6
 go_wp2
 go_loopw [3,8] (fun nv iv wr=>∃k n:Nat,k<=m/\n<=k/\iv=.int .i64 k/\nv=.int .i64 n/\Below w.heap.size w wr) (fun _ i _=>m-(intOf i).toNat)
 case atStart=>exact⟨0,0,by omega,by omega,rfl,rfl,Below.refl _ _⟩
 case round=>
  obtain⟨k,n,hk,hn,rfl,rfl,hnx⟩:=hrel
  by_cases hkm:k<m
  case neg=>
   go_wp2
   go_ret
   exact⟨n,rfl,by omega,hnx⟩
  obtain⟨g,x,y,t,rfl,hg,d0,d1,d2⟩:=HS.out k hkm
  have c0:=(hnx.cell (p:=⟨g,k*3,none⟩) hg).trans d0
  have c1:=(hnx.cell (p:=⟨g,k*3+1,none⟩) hg).trans d1
  have c2:=(hnx.cell (p:=⟨g,k*3+2,none⟩) hg).trans d2
  clear d0 d1 d2 HS
  by_cases hx:x=⟨#[115,116,101,112]⟩
  ·subst hx
   go_wp2
   go_roundw
   case rel=>exact⟨k+1,n+1,by omega,by omega,by go_num,by go_num,Ai hnx _⟩
   case measure=>simp[intOf]<;>omega
  ·have e0:(x.toList==[115,116,101,112])=false:=DD hx
   go_wp2
   go_roundw
   case rel=>exact⟨k+1,n,by omega,by omega,by go_num,rfl,Ai hnx _⟩
   case measure=>simp[intOf]<;>omega
theorem Ib(c:UInt8):∀l:List UInt8,∀r∈splitL c l,r.length<=l.length
 |[],r,h=>by
  rw[List.mem_singleton.1 h]
  exact Nat.le_refl _
 | a::l,r,h=>by
  obtain⟨x,xs,e⟩:=Dy c l
  have ih:=Ib c l
  by_cases ha:a=c
  ·subst ha
   rw[BX]at h
   rcases List.mem_cons.1 h with rfl |h
   ·exact Nat.zero_le _
   ·have:=ih r h
    rw[List.length_cons]
    omega
  ·rw[BY ha e]at h
   rw[e]at ih
   rw[List.length_cons]
   rcases List.mem_cons.1 h with rfl |h
   ·have:=ih x List.mem_cons_self
    rw[List.length_cons]
    omega
   ·have:=ih r (List.mem_cons_of_mem _ h)
    omega
theorem Vs(r:List UInt8):∀w∈wordsL r,1<=w.length/\w.length<=r.length:=by
 intro w h
 unfold wordsL at h
 obtain⟨h1,h2⟩:=List.mem_filter.1 h
 refine⟨?_,Ib 32 r w h1⟩
 cases w with
 |nil=>cases h2
 |cons a l=>simp
theorem Gm(c:UInt8):∀l:List UInt8,(splitL c l).length=l.count c+1
 |[]=>rfl
 | a::l=>by
  obtain⟨x,xs,e⟩:=Dy c l
  have ih:=Gm c l
  by_cases ha:a=c
  ·subst ha
   rw[BX,List.length_cons,ih,List.count_cons_self]
  ·rw[BY ha e,List.length_cons,List.count_cons_of_ne ha,<-ih,e,List.length_cons]
theorem Z4(r:List UInt8):(wordsL r).length<=r.length+1:=by
 unfold wordsL
 refine Nat.le_trans (List.length_filter_le _ _) ?_
 rw[Gm]
 have:r.count 32<=r.length:=List.count_le_length
 omega
theorem Xk{F:Fs}(hF:Jv F)(s:ByteArray)(w:World)(hw:SW w)(hg:GW w)(h1:s.size<=65536)(h2:s.data.toList.count 10<=1024):
    Calls Tryz.prog 7 #[.string s] w fun e w'=>e=.returned (.string (mkB (runA (ansL F) (zeroCra,noBytes) (splitL 10 s.data.toList))))/\Below w.heap.size w w':=by
 have hcnt:=fun W=>Ajz 10 s W
 have hcut:=fun W hW=>Anu 10 s W hW (by omega)
 have hL:(splitL 10 s.data.toList).length<=1025:=by rw[Gm];omega
 have hLl:Hid (∀r∈splitL 10 s.data.toList,r.length<=65536):=fun r hr=>by
  have:=Ib 10 _ r hr
  have e:s.data.toList.length=s.size:=rfl
  omega
 have eS:(splitB 10 s).map Value.string=(splitL 10 s.data.toList).map fun l=>Value.string (mkB l):=by unfold splitB;rw[List.map_map];rfl
 have eN:(splitB 10 s).length=(splitL 10 s.data.toList).length:=by unfold splitB;rw[List.length_map]
 rw[eS,eN]at hcut
 generalize splitL 10 s.data.toList=L at hcut hL hLl ⊢
 clear eS eN
 generalize s.data.toList.count 10=q at hcnt h2
 obtain⟨n,hn⟩:∃n,L.length=n:=⟨_,rfl⟩
 rw[hn]at hcut
 have HW:Hid (SW w):=hw
 have HG:Hid (GW w):=hg
 have HT:Hid (([]:List UInt8)++runA (ansL F) (zeroCra,noBytes) (L.drop 0)=runA (ansL F) (zeroCra,noBytes) L):=rfl
 generalize runA (ansL F) (zeroCra,noBytes) L=TOT at HT ⊢
 have HN:Hid (L.length=n):=hn
 have hn1:n<=1025:=by rw[<-hn];exact hL
 have hlies:=hg.2.lies
 clear hw hg hn
 go_enter Tryz.func7,Tryz.ntmps7
 go_wp2_with (first |(go_at_call 10;refine(hcnt _).mono ?_;rintro e w1 ⟨rfl,hw1⟩;rw[hw1];clear hw1 w1)|(go_at_call 11;refine(hcut _ (HW.out.below (((Below.refl _ _).alloc (Nat.le_refl _) _).alloc (by simp) _))).mono ?_;rintro e w1 ⟨rfl,hw1⟩;rw[hw1];clear hw1 w1))
 have eZ:Tryz.zeroCells54=(bnL (zeroCra,noBytes)).toArray:=by kernel_rfl
 rw[eZ]
 obtain⟨W0,hW0⟩:∃W0,W0=(((w.alloc (.cells (bnL (zeroCra,noBytes)).toArray 54)).alloc (.cells #[.pointer none,.slice none 0 0] 58)).alloc (.cells (L.map fun l=>Value.string (mkB l)).toArray 9)):=⟨_,rfl⟩
 rw[<-hW0]
 have Z0:w.heap.size+3<=W0.heap.size:=by rw[hW0];simp
 have B0:Below w.heap.size w W0:=by rw[hW0];exact(((Below.refl _ _).alloc (Nat.le_refl _) _).alloc (by simp) _).alloc (by simp;omega) _
 have I0:Hid (RF (zeroCra,noBytes)/\Ap w.heap.size (bnL (zeroCra,noBytes)) W0/\BuA (w.heap.size+1) [] W0/\Ez (w.heap.size+1+1) L W0):=by
  rw[hW0]
  refine⟨RF.zero,((Am w _ _ _ rfl).alloc _).alloc _,Lib.IsBuilderF.alloc (BuA.new (by simp)) _,?_⟩
  have:=heap_alloc_new ((w.alloc (.cells (bnL (zeroCra,noBytes)).toArray 54)).alloc (.cells #[.pointer none,.slice none 0 0] 58)) (.cells (L.map fun l=>Value.string (mkB l)).toArray 9)
  have e:((w.alloc (.cells (bnL (zeroCra,noBytes)).toArray 54)).alloc (.cells #[.pointer none,.slice none 0 0] 58)).heap.size=w.heap.size+1+1:=by simp
  rw[e]at this
  exact this
 clear hW0 eZ hcnt hcut h2
 go_loopw [19] (fun i wr=>∃(k:Nat) (st:Bn) (out:List UInt8),k<=n/\i=.int .i64 k/\Hid (out++runA (ansL F) st (L.drop k)=TOT)/\out.length<=301*k/\Hid (RF st/\Ap w.heap.size (bnL st) wr/\BuA (w.heap.size+1) out wr/\Ez (w.heap.size+1+1) L wr)/\Below w.heap.size w wr/\w.heap.size+3<=wr.heap.size) (fun i _=>n-(intOf i).toNat)
 case atStart=>exact⟨0,(zeroCra,noBytes),[],by omega,rfl,HT,Nat.zero_le _,I0,B0,Z0⟩
 case round=>
  obtain⟨k,st,out,hk,rfl,HO,hol,HI,hnx,hz⟩:=hrel
  clear HT I0 B0 Z0
  by_cases hkn:k<n
  case neg=>
   obtain rfl:k=n:=by omega
   have e0:Hid (out=TOT):=by
    have:=HO.out
    rw[List.drop_of_length_le (by rw[HN.out];exact Nat.le_refl _)]at this
    show out=TOT
    rw[<-this]
    exact(List.append_nil _).symm
   have hs:=Aia (w.heap.size+1) out wr HI.out.2.2.1 (by omega)
   rw[e0.out]at hs
   clear e0 HO
   go_wp2_with (go_at_call 16;refine hs.mono ?_;rintro e w1 ⟨rfl,hb1⟩)
   go_ret
   exact⟨rfl,hnx.trans (hb1.mono (by omega))⟩
  have hkL:k<L.length:=by rw[HN.out];exact hkn
  have c0:=HI.out.2.2.2.cell k hkL
  have HD:Hid (L.drop k=L[k]::L.drop (k+1)):=List.drop_eq_getElem_cons hkL
  have hrl:=hLl.out L[k] (List.getElem_mem hkL)
  generalize L[k]=row at c0 HD hrl
  have HO1:Hid (out++((CH (ansL F) st row).1++runA (ansL F) (CH (ansL F) st row).2 (L.drop (k+1)))=TOT):=by
   have:=HO.out
   rw[HD.out]at this
   exact this
  clear HO HD hkL
  have hwd:=Yh (mkB row) wr (HW.out.below hnx) (Nat.le_trans (GC hrl) (by decide))
  rw[Vn]at hwd
  have eR:(mkB row).data.toList=row:=rfl
  rw[eR]at hwd
  clear eR
  have HL:=Vs row
  have HF:=Z4 row
  cases hws:wordsL row with
  |nil=>
   have e1:CH (ansL F) st row=([],st):=by unfold CH;rw[hws]
   rw[e1]at HO1
   rw[hws]at hwd
   clear e1 hws HL HF
   go_wp2_with (go_at_call 12;refine hwd.mono ?_;rintro e w1 ⟨v,rfl,hst,hb1⟩;obtain⟨a1,c1,rfl⟩:=hst.none)
   go_roundw
   case rel=>exact⟨k+1,st,out,by omega,by go_num,HO1,by omega,⟨HI.out.1,HI.out.2.1.below hb1,HI.out.2.2.1.kept (Br (b:=w.heap.size) hb1) (by omega),HI.out.2.2.2.kept (Br (b:=w.heap.size) hb1) (by omega)⟩,hnx.trans (hb1.mono hnx.size),Nat.le_trans hz hb1.size⟩
   case measure=>simp[intOf]<;>omega
  | cons w0 ws=>
   rw[hws]at hwd HL HF
   have hpre:∀W,Calls Tryz.prog 13 #[.string (mkB w0),.string ⟨#[35]⟩] W fun e w'=>e=.returned (.bool (Ac1 w0))/\w'=W:=fun W=>by
    have:=Ac4 (mkB w0) ⟨#[35]⟩ W
    have e:(⟨#[35]⟩:ByteArray).data.toList.isPrefixOf (mkB w0).data.toList=Ac1 w0:=Asv w0
    rw[e]at this
    exact this
   cases hr:Ac1 w0 with
   |true=>
    have e1:CH (ansL F) st row=([],st):=by unfold CH;rw[hws];dsimp only;rw[if_pos hr]
    rw[e1]at HO1
    rw[hr]at hpre
    clear e1 hws HL HF hr
    go_wp2_with (first |(go_at_call 12;refine hwd.mono ?_;rintro e w1 ⟨v,rfl,hst,hb1⟩;obtain⟨g,c1,rfl,hc1,hg1,hg2,hcl⟩:=hst.cons;have q0:=hcl 0 (by simp);clear hcl hst)|(go_at_call 13;refine(hpre _).mono ?_;rintro e w2 ⟨rfl,hw2⟩;rw[hw2];clear hw2 w2))
    go_roundw
    case rel=>exact⟨k+1,st,out,by omega,by go_num,HO1,by omega,⟨HI.out.1,HI.out.2.1.below hb1,HI.out.2.2.1.kept (Br (b:=w.heap.size) hb1) (by omega),HI.out.2.2.2.kept (Br (b:=w.heap.size) hb1) (by omega)⟩,hnx.trans (hb1.mono hnx.size),Nat.le_trans hz hb1.size⟩
    case measure=>simp[intOf]<;>omega
   | false=>
    rw[hr]at hpre
    go_wp2_with (first |(go_at_call 12;refine hwd.mono ?_;rintro e w1 ⟨v,rfl,hst,hb1⟩;obtain⟨g,c1,rfl,hc1,hg1,hg2,hcl⟩:=hst.cons;have q0:=hcl 0 (by simp);have HC:Hid (∀i (hi:i<(mkB w0::ws.map mkB).length),w1.cell? ⟨g,0+i,none⟩=some (.string (mkB w0::ws.map mkB)[i])):=hcl;clear hcl hst)|(go_at_call 13;refine(hpre _).mono ?_;rintro e w2 ⟨rfl,hw2⟩;rw[hw2];clear hw2 w2))
    have hB1:=hnx.trans (hb1.mono hnx.size)
    have hBd:Below w.heap.size w w1.drew:=hB1.drew
    have hs0:∀x∈ws.map mkB,x.size<=100000:=fun x hx=>by
     obtain⟨y,hy,rfl⟩:=List.mem_map.1 hx
     have:=(HL y (List.mem_cons_of_mem _ hy)).2
     exact GC (by omega)
    have hs1:∀x∈ws.map mkB,1<=x.size:=fun x hx=>by
     obtain⟨y,hy,rfl⟩:=List.mem_map.1 hx
     have:=(HL y (List.mem_cons_of_mem _ hy)).1
     show 1<=y.toArray.size
     simpa using this
    have eL:(ws.map mkB).length=ws.length:=List.length_map _
    have hWr:CE w1.drew (JR g 0 ws.length c1) (ws.map mkB):=by
     have:=Vp (w:=w1.drew) (o:=0) (x:=mkB w0) (l:=ws.map mkB) (c:=c1) hc1 hg2 HC.out
     rw[eL]at this
     exact this
    have HA:Mh F w.heap.size st (JR g 0 ws.length c1) (ws.map mkB) w1.drew:=
     ⟨hF,HW.out.below hBd,HG.out.below hBd,hlies,(HI.out.2.1.below hb1).drew,hWr,Vq hg2 (by rw[List.mem_singleton];omega),HI.out.1,Aie hs1,Fc hs0,by rw[eL];rw[List.length_cons]at HF;omega⟩
    have hans:=Amz HA (mkB w0) (Aic _ (Fc hs0))
    have zI:=Am1 hF HI.out.1 (mkB w0) (ws.map mkB)
    have zS:=Aib (F:=F) HI.out.1 (mkB w0) (ws.map mkB)
    have e1:CH (ansL F) st row=((answerT F st (mkB w0) (ws.map mkB)).1.data.toList++[10],(answerT F st (mkB w0) (ws.map mkB)).2):=by
     unfold CH
     rw[hws]
     dsimp only
     rw[if_neg (by rw[hr];exact Bool.false_ne_true)]
     rfl
    rw[e1]at HO1
    generalize answerT F st (mkB w0) (ws.map mkB)=z at hans zI zS HO1
    have HZ:Hid (RF z.2):=zI
    clear e1 zI HA hWr hs0 hs1 HL HF hws hwd hr hpre HC
    have hU1:Hid (BuA (w.heap.size+1) out w1.drew):=HI.out.2.2.1.kept (Br (b:=w.heap.size) hb1.drew) (by omega)
    have hR1:Hid (Ez (w.heap.size+1+1) L w1.drew):=HI.out.2.2.2.kept (Br (b:=w.heap.size) hb1.drew) (by omega)
    clear HI
    have q1:w1.drew.cell? ⟨g,0,none⟩=some (.string (mkB w0)):=q0
    have hrr:=fun W=>Aid g 0 ws.length c1 W
    generalize hV:JR g 0 ws.length c1=rv at hans hrr
    clear hV
    refine wp_region_held_drew (S:=fun _=>True) (by kernel_rfl) trivial (fun zH=>?_)
    refine zT 0 rfl (by kernel_rfl) (fun _ _ _=>id) rfl (fun _ _=>by go_simp<;>with_reducible rfl) zH ?_
    simp only[Act.put,zA,zB,zC]
    refine zT 1 rfl (by kernel_rfl) (fun _ _ _=>id) rfl (fun _ _=>by go_simp<;>with_reducible rfl) zH ?_
    simp only[Act.put,zA,zB,zC]
    refine zT 3 rfl (by kernel_rfl) (fun _ _ _=>id) rfl (fun _ _=>by go_simp<;>with_reducible rfl) zH ?_
    simp only[Act.put,zA,zB,zC]
    refine Bw (i:=4) (v:=rv) rfl (by kernel_rfl) (by kernel_rfl) (by kernel_rfl) (fun _ _ _ h=>h) (Or.inl ⟨by rfl,?y4⟩) zH ?t4
    case y4=>
     intro wx hS
     have:=hrr wx
     simp[execOp,Act.eval,this]
    simp only[Act.put,zA,zB,zC]
    refine zK 2 (by kernel_rfl) rfl (fun K hK=>?_)
    go_simp
    clear zH
    refine hK.out _ _ trivial (fun zH=>?_)
    clear hK K
    refine zK 5 (by kernel_rfl) rfl (fun K hK=>?_)
    go_simp
    refine hans.mono ?_
    rintro e w2 ⟨rfl,hA2,hk2⟩
    clear zH
    refine hK.out _ _ trivial (fun zH=>?_)
    clear hK K
    have hU2:=hU1.out.kept hk2 (by omega)
    have hs2:=hk2.size
    have hd1:w1.drew.heap.size=w1.heap.size:=rfl
    refine zK 6 (by kernel_rfl) rfl (fun K hK=>?_)
    go_simp
    refine(Xj _ out z.1 _ hU2 (by omega) (by omega)).mono ?_
    rintro e w3 ⟨rfl,hU3,hb3,ho3⟩
    clear zH
    refine hK.out _ _ trivial (fun zH=>?_)
    clear hK K
    refine wpAnyH_done (by kernel_rfl) ?_ _
    clear zH
    have hs3:=hb3.size
    have eZ:z.1.data.toList.length=z.1.size:=rfl
    go_wp2_with (go_at_call 14;refine(Xj _ (out++z.1.data.toList) ⟨#[10]⟩ _ hU3 (by rw[List.length_append,eZ];have:(⟨#[10]⟩:ByteArray).size=1:=rfl;omega) (by omega)).mono ?_;rintro e w4 ⟨rfl,hU4,hb4,ho4⟩)
    go_roundw
    case rel=>
     refine⟨k+1,z.2,out++z.1.data.toList++[10],by omega,by go_num,?_,?_,⟨HZ.out,(hA2.under hb3 (by omega) hb3.size).under hb4 (by omega) hb4.size,hU4,((hR1.out.kept hk2 (by omega)).others ho3 (by omega)).others ho4 (by omega)⟩,?_,?_⟩
     ·show _=_
      rw[<-HO1.out]
      simp only[List.append_assoc]
     ·rw[List.length_append,List.length_append,eZ]
      have:([10]:List UInt8).length=1:=rfl
      omega
     ·exact((hk2.below hBd (Nat.le_refl _) hBd.size).trans (hb3.mono (by omega))).trans (hb4.mono (by omega))
     ·have:=hb4.size
      omega
    case measure=>simp[intOf]<;>omega
end Go.Proofs.YtgmpfeaanjnhaaaGreatDoor
namespace Go.Proofs.YtgmpfeaanjnhaaaGreatDoor
open Go.RowKit
def Pp:List UInt8:=[111,114,100,101,114,32,55,32,49,10,115,116,101,112,32,53,48,48]
def toldL:List UInt8:=[111,107,10,51,32,48,32,55,32,48,32,48,32,48,32,48,32,48,32,48,32,48,32,48,32,48,10]
set_option maxRecDepth 100000 in
theorem Z5{F:Fs}(hF:Jv F):runA (ansL F) (zeroCra,noBytes) (splitL 10 Pp)=toldL:=by
 obtain⟨⟨_,h1,h2,h3,h4,h5,h6,h7,h8,h9⟩,_,_,_⟩:=hF
 obtain⟨right,place,dir,sky,norm,apart,shaded,move,meet,spread,att,start,bstep,dip,next,counts,write,wrap,read,fresh,oread⟩:=F
 dsimp only at h1 h2 h3 h4 h5 h6 h7 h8 h9
 subst h1 h2 h3 h4 h5 h6 h7 h8 h9
 kernel_rfl
end Go.Proofs.YtgmpfeaanjnhaaaGreatDoor
